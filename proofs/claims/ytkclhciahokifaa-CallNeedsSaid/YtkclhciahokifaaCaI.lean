/- CallNeeds, for all that it can be called with, returns true. Condition: none. -/
import Derived.Test.YtkclhciahokifaaCaH
import GoSem.Step
import GoSem.ClaimKeys
import Derived.DeepKeys2
import Derived.RangeFuncLeaves
import Derived.OrdersIn
import Derived.Laws.World
import Derived.Laws.Sem
import Derived.RangeFuncRecord
import Derived.Laws.CopyRow
import Derived.Laws.Append
import Derived.Laws.Rows
import Derived.Laws.Slices
import Derived.Laws.Entries
import Derived.ChangeKeysEq
import Derived.IntWalk
import Derived.DeepKeys
import Derived.DeepKeys3
import Derived.Laws.StructEq
import Derived.MapKept
import Derived.Laws.AppendOwn
import Derived.ChangeArms
import Derived.ChangeOld
import Derived.Carry
import Derived.ChangeShapes
import Derived.KernelRfl
import Derived.ProofKit
import Derived.Test.YtkclhciahokifaaRows

namespace Go.Proofs.Ytkclhciahokifaa
open _root_.Go.Proofs.Try
open Go.Abs
set_option maxRecDepth 100000
noncomputable section
def bfc(r:Nat->Int)(k i:Nat):Int:=if r i < r k then 1 else if r k=r i/\k < i then 1 else 0
theorem zxb(f:Nat->Int){i:Nat}(hi:i<=5):part f i=S5 fun k=>if k < i then f k else 0:=by
 match i,hi with
 | 0,_=>show(0:Int)=0+0+0+0+0; omega
 | 1,_=>show 0+f 0=f 0+0+0+0+0; omega
 | 2,_=>show 0+f 0+f 1=f 0+f 1+0+0+0; omega
 | 3,_=>show 0+f 0+f 1+f 2=f 0+f 1+f 2+0+0; omega
 | 4,_=>show 0+f 0+f 1+f 2+f 3=f 0+f 1+f 2+f 3+0; omega
 | 5,_=>show 0+f 0+f 1+f 2+f 3+f 4=f 0+f 1+f 2+f 3+f 4; omega
theorem zxc(r:Nat->Int){i:Nat}(hi:i < 5):zwY r i=S5 fun k=>bfc r k i:=by
 unfold zwY gtN eqN;rw[zxb _ (by omega),<- zwO];refine zwQ fun k _=>?_;unfold bfc
 by_cases h1:r i < r k
 ·rw[if_pos h1,if_pos h1,if_neg (show ¬ r k=r i by omega)]
  by_cases h2:k < i
  ·rw[if_pos h2]; rfl
  ·rw[if_neg h2]; rfl
 ·rw[if_neg h1,if_neg h1]
  by_cases h2:k < i
  ·rw[if_pos h2]
   by_cases h3:r k=r i
   ·rw[if_pos h3,if_pos ⟨h3,h2⟩]; rfl
   ·rw[if_neg h3,if_neg fun h=>h3 h.1]; rfl
  ·rw[if_neg h2,if_neg fun h=>h2 h.2]; rfl
theorem zxd{f g:Nat->Int}(h:∀i,i < 5->f i<=g i):S5 f<=S5 g:=by
 have:=h 0 (by omega); have:=h 1 (by omega); have:=h 2 (by omega); have:=h 3 (by omega); have:=h 4 (by omega);unfold S5; omega
theorem zxe{f g:Nat->Int}(h:∀i,i < 5->f i<=g i){k:Nat}(hk:k < 5)(hlt:f k < g k):S5 f < S5 g:=by
 have:=h 0 (by omega); have:=h 1 (by omega); have:=h 2 (by omega); have:=h 3 (by omega); have:=h 4 (by omega);unfold S5
 match k,hk with
 | 0,_=>omega
 | 1,_=>omega
 | 2,_=>omega
 | 3,_=>omega
 | 4,_=>omega
theorem zxf(r:Nat->Int)(k i:Nat):0<=bfc r k i/\bfc r k i<=1:=by unfold bfc; split <;> (try split) <;> omega
theorem zxg{r:Nat->Int}{k i:Nat}:bfc r k i=1↔r i < r k\/(r k=r i/\k < i):=by
 unfold bfc
 by_cases h1:r i < r k
 ·rw[if_pos h1]; exact⟨fun _=>.inl h1,fun _=>rfl⟩
 ·rw[if_neg h1]
  by_cases h2:r k=r i/\k < i
  ·rw[if_pos h2]; exact⟨fun _=>.inr h2,fun _=>rfl⟩
  ·rw[if_neg h2]; exact⟨fun h=>by omega,fun h=>h.elim (fun h=>absurd h h1) fun h=>absurd h h2⟩
theorem zj9{r:Nat->Int}{k i:Nat}(hk:k < 5)(hi:i < 5)(h:r i < r k\/(r k=r i/\k < i)):zwY r k < zwY r i:=by
 rw[zxc r hk,zxc r hi];refine zxe (fun j _=>?_) hk ?_
 ·have h1:=zxf r j k; have h2:=zxf r j i
  by_cases hj:bfc r j k=1
  ·have:=zxg.1 hj;have:bfc r j i=1:=zxg.2 (by omega)
   omega
  ·omega
 ·have h1:bfc r k i=1:=zxg.2 h
  have h2:¬ bfc r k k=1:=fun h=>by have:=zxg.1 h; omega
  have h3:=zxf r k k
  omega
theorem zxh{r:Nat->Int}{k i:Nat}(hk:k < 5)(hi:i < 5)(h:k ≠ i):zwY r k ≠ zwY r i:=by
 by_cases h1:r i < r k\/(r k=r i/\k < i)
 ·have:=zj9 hk hi h1; omega
 ·have:=zj9 hi hk (r:=r) (by omega); omega
theorem zxi(r:Nat->Int){i:Nat}(hi:i < 5):0<=zwY r i/\zwY r i<=4:=by
 have h0:=zxf r 0 i; have h1:=zxf r 1 i; have h2:=zxf r 2 i; have h3:=zxf r 3 i; have h4:=zxf r 4 i
 have hii:bfc r i i=0:=by
  have:=zxf r i i
  have:¬ bfc r i i=1:=fun h=>by have:=zxg.1 h; omega
  omega
 rw[zxc r hi];unfold S5
 dsimp only
 match i,hi with
 | 0,_=>omega
 | 1,_=>omega
 | 2,_=>omega
 | 3,_=>omega
 | 4,_=>omega
theorem zxj:∀a b:Fin 5,a ≠ b->∀c:Fin 5,a ≠ c->b ≠ c->∀d:Fin 5,a ≠ d->b ≠ d->c ≠ d->∀e:Fin 5,a ≠ e->b ≠ e->c ≠ e->d ≠ e->∀L:Fin 6,
  (if a.val < L.val then 1 else 0)+(if b.val < L.val then 1 else 0)+(if c.val < L.val then 1 else 0)+(if d.val < L.val then 1 else 0)+(if e.val < L.val then 1 else 0)=L.val:=by decide +kernel
theorem zxk(r:Nat->Int){L:Int}(hL:0<=L/\L<=5):S5 (fun i=>if zwY r i < L then 1 else 0)=L:=by
 have b:∀i,i < 5->0<=zwY r i/\zwY r i<=4:=fun i hi=>zxi r hi;have b0:=b 0 (by omega); have b1:=b 1 (by omega); have b2:=b 2 (by omega); have b3:=b 3 (by omega); have b4:=b 4 (by omega)
 have ne:∀i j (hi:i < 5) (hj:j < 5),i ≠ j->(⟨(zwY r i).toNat,by have:=b i hi; omega⟩:Fin 5) ≠ ⟨(zwY r j).toNat,by have:=b j hj; omega⟩:=fun i j hi hj hij h=>by
  have h1:=Fin.mk.inj h;have:=zxh (r:=r) hi hj hij;have:=b i hi; have:=b j hj
  omega
 have key:=zxj ⟨(zwY r 0).toNat,by omega⟩ ⟨(zwY r 1).toNat,by omega⟩ (ne 0 1 (by omega) (by omega) (by omega)) ⟨(zwY r 2).toNat,by omega⟩ (ne 0 2 (by omega) (by omega) (by omega)) (ne 1 2 (by omega) (by omega) (by omega)) ⟨(zwY r 3).toNat,by omega⟩ (ne 0 3 (by omega) (by omega) (by omega)) (ne 1 3 (by omega) (by omega) (by omega)) (ne 2 3 (by omega) (by omega) (by omega)) ⟨(zwY r 4).toNat,by omega⟩ (ne 0 4 (by omega) (by omega) (by omega)) (ne 1 4 (by omega) (by omega) (by omega)) (ne 2 4 (by omega) (by omega) (by omega)) (ne 3 4 (by omega) (by omega) (by omega)) ⟨L.toNat,by omega⟩
 dsimp only at key
 have e:∀i,i < 5->(if zwY r i < L then (1:Int) else 0)=((if (zwY r i).toNat < L.toNat then 1 else 0:Nat):Int):=fun i hi=>by
  have:=b i hi
  by_cases h:zwY r i < L
  ·rw[if_pos h,if_pos (by omega)]; rfl
  ·rw[if_neg h,if_neg (by omega)]; rfl
 unfold S5
 dsimp only
 rw[e 0 (by omega),e 1 (by omega),e 2 (by omega),e 3 (by omega),e 4 (by omega)]
 omega
section
variable {N:Int} {u:Nat->Int}
theorem zxl(N:Int)(u:Nat->Int):S5 u * (N - S5 (qN N u))=S5 (rN N u):=by
 have h:∀k,rN N u k+S5 u * qN N u k=N * u k:=fun k=>Int.emod_add_mul_ediv (N * u k) (S5 u);have h0:=h 0; have h1:=h 1; have h2:=h 2; have h3:=h 3; have h4:=h 4
 have e1:S5 u * N=N * u 0+N * u 1+N * u 2+N * u 3+N * u 4:=by
  rw[Int.mul_comm]; unfold S5; rw[Int.mul_add,Int.mul_add,Int.mul_add,Int.mul_add]
 have e2:S5 u * S5 (qN N u)=S5 u * qN N u 0+S5 u * qN N u 1+S5 u * qN N u 2+S5 u * qN N u 3+S5 u * qN N u 4:=by
  generalize S5 u=U;unfold S5; rw[Int.mul_add,Int.mul_add,Int.mul_add,Int.mul_add]
 rw[Int.mul_sub,e1,e2]
 show _=rN N u 0+rN N u 1+rN N u 2+rN N u 3+rN N u 4
 omega
theorem zxm(hu:UOk u)(N:Int):0<=N - S5 (qN N u)/\N - S5 (qN N u)<=gtN (rN N u) 0/\N - S5 (qN N u)<=4:=by
 have hU:=hu.pos;have hl:=zxl N u;have hr:=fun k=>zw8 (N:=N) hu k;have r0:=hr 0; have r1:=hr 1; have r2:=hr 2; have r3:=hr 3; have r4:=hr 4;refine⟨?_,?_,?_⟩
 ·apply Classical.byContradiction
  intro hn;have:S5 u * (N - S5 (qN N u)) < 0:=Int.mul_neg_of_pos_of_neg hU (by omega);rw[hl] at this;unfold S5 at this; omega
 ·have h2:S5 (rN N u)<=S5 u * gtN (rN N u) 0:=by
   have e:S5 u * gtN (rN N u) 0=S5 (fun k=>S5 u * if 0 < rN N u k then 1 else 0):=by
    unfold gtN;generalize S5 u=U
    show U * S5 (fun k=>if 0 < rN N u k then 1 else 0)=_
    unfold S5;rw[Int.mul_add,Int.mul_add,Int.mul_add,Int.mul_add]
   rw[e];refine zxd fun k _=>?_;have:=hr k
   by_cases h:0 < rN N u k
   ·rw[if_pos h]; omega
   ·rw[if_neg h]; omega
  rw[<- hl] at h2;exact Int.le_of_mul_le_mul_left h2 hU
 ·apply Classical.byContradiction
  intro hn;have h2:S5 u * 5<=S5 u * (N - S5 (qN N u)):=Int.mul_le_mul_of_nonneg_left (by omega) (by omega);rw[hl] at h2;have h3:S5 (rN N u)=rN N u 0+rN N u 1+rN N u 2+rN N u 3+rN N u 4:=rfl
  omega
theorem zxn(hu:UOk u){k:Nat}(h0:rN N u k=0):¬ zwY (rN N u) k < N - S5 (qN N u):=by
 have h1:=(zxm hu N).2.1;have h2:=zw0 (rN N u) (rN N u k) k
 have h3:zwY (rN N u) k=gtN (rN N u) 0+eqN (rN N u) (rN N u k) k:=by unfold zwY; rw[h0]
 omega
theorem zxo(hu:UOk u)(N:Int):S5 (zw6 N u)=N:=by
 have h:=zxm hu N;have e:S5 (zw6 N u)=S5 (qN N u)+S5 (fun i=>if zwY (rN N u) i < N - S5 (qN N u) then 1 else 0):=zwO _ _;rw[e,zxk _ (by omega)]; omega
theorem zxp(N:Int)(u:Nat->Int)(k:Nat):qN N u k<=zw6 N u k/\zw6 N u k<=qN N u k+1:=by unfold zw6; split <;> omega
theorem zxq(hu:UOk u)(hN:0<=N){k:Nat}(hk:k < 5):0<=zw6 N u k:=by have:=zxp N u k; have:=zw7 hu hN hk; omega
theorem zxr(hu:UOk u)(hN:0<=N){k:Nat}(hk:k < 5):zw6 N u k<=N:=by
 have hs:=zxo hu N;have h:∀i,i < 5->0<=zw6 N u i:=fun i hi=>zxq hu hN hi;have:=h 0 (by omega); have:=h 1 (by omega); have:=h 2 (by omega); have:=h 3 (by omega); have:=h 4 (by omega);unfold S5 at hs
 match k,hk with
 | 0,_=>omega
 | 1,_=>omega
 | 2,_=>omega
 | 3,_=>omega
 | 4,_=>omega
theorem zxs(hu:UOk u){k:Nat}(h:u k=0):zw6 N u k=0:=by
 have hq:qN N u k=0:=by unfold qN; rw[h,Int.mul_zero,Int.zero_ediv]
 have hr:rN N u k=0:=by unfold rN; rw[h,Int.mul_zero,Int.zero_emod]
 unfold zw6;rw[if_neg (zxn hu hr),hq]; rfl
end
end
end Go.Proofs.Ytkclhciahokifaa

namespace Go.Proofs.Ytkclhciahokifaa
open _root_.Go.Proofs.Try
open Go.Abs
set_option maxRecDepth 100000
noncomputable section
structure zxt (a:Mb):Prop where
 sum:1<=a.Sum/\a.Sum<=1000
 cls:1<=a.Class/\a.Class<=10
 most:0<=a.Most/\a.Most<=100000
def zxu(ms:List Mb):Prop:=ms.length<=5/\∀a∈ms,zxt a
def unN(a:Mb):Int:=a.Sum * a.Class
theorem zxv{a:Mb}(h:zxt a):1<=unN a/\unN a<=10000:=by
 have h1:=zw5 (a:=a.Sum) (x:=a.Class) (A:=1000) (X:=10) ⟨by have:=h.sum; omega,h.sum.2⟩ ⟨by have:=h.cls; omega,h.cls.2⟩;have h2:a.Sum * 1<=a.Sum * a.Class:=Int.mul_le_mul_of_nonneg_left h.cls.1 (by have:=h.sum; omega);have:=h.sum;unfold unN; omega
def uF(ms:List Mb)(sh:Nat->Bool):Nat->Int:=zwH ms sh unN
def mF(ms:List Mb)(sh:Nat->Bool):Nat->Int:=zwH ms sh (·.Most)
def zxw(sh:Nat->Bool):Bool:=(sh 0 == false) && ((sh 1 == false) && ((sh 2 == false) && ((sh 3 == false) && (sh 4 == false))))
def zxx(a b:Nat->Bool):Bool:=(a 0 == b 0) && ((a 1 == b 1) && ((a 2 == b 2) && ((a 3 == b 3) && (a 4 == b 4))))
def zxy(ms:List Mb)(sh:Nat->Bool):Prop:=∀i,sh i=true->i < ms.length
def roundsN(ms:List Mb):Nat->(Nat->Bool)->Int->(Nat->Int)->(Nat->Int) × Int
 | 0,_,N,c=>(c,N)
 | d+1,sh,N,c=>if zxw sh=true then (c,N) else
   if zxx (zwJ ms sh (zw6 N (uF ms sh))) sh=true then (fun i=>c i+zw6 N (uF ms sh) i,0) else
    roundsN ms d (zwJ ms sh (zw6 N (uF ms sh))) (N - S5 (mF ms fun i=>sh i && !zwJ ms sh (zw6 N (uF ms sh)) i)) (fun i=>c i+mF ms (fun i=>sh i && !zwJ ms sh (zw6 N (uF ms sh)) i) i)
def cF(sh:Nat->Bool):Nat:=(sh 0).toNat+(sh 1).toNat+(sh 2).toNat+(sh 3).toNat+(sh 4).toNat
theorem zxz{sh:Nat->Bool}:zxw sh=true↔∀i,i < 5->sh i=false:=by
 unfold zxw
 simp only[Bool.and_eq_true,beq_iff_eq]
 constructor
 ·rintro⟨h0,h1,h2,h3,h4⟩ i hi
  match i,hi with
  | 0,_=>exact h0
  | 1,_=>exact h1
  | 2,_=>exact h2
  | 3,_=>exact h3
  | 4,_=>exact h4
 ·intro h; exact⟨h 0 (by omega),h 1 (by omega),h 2 (by omega),h 3 (by omega),h 4 (by omega)⟩
theorem zxA{a b:Nat->Bool}:zxx a b=true↔∀i,i < 5->a i=b i:=by
 unfold zxx
 simp only[Bool.and_eq_true,beq_iff_eq]
 constructor
 ·rintro⟨h0,h1,h2,h3,h4⟩ i hi
  match i,hi with
  | 0,_=>exact h0
  | 1,_=>exact h1
  | 2,_=>exact h2
  | 3,_=>exact h3
  | 4,_=>exact h4
 ·intro h; exact⟨h 0 (by omega),h 1 (by omega),h 2 (by omega),h 3 (by omega),h 4 (by omega)⟩
theorem zxB{ms:List Mb}{sh:Nat->Bool}{p:Nat->Int}{i:Nat}(h:zwJ ms sh p i=true):sh i=true:=by
 unfold zwJ at h
 cases hm:ms[i]? with
 | none=>rw[hm] at h; exact h
 | some a=>rw[hm] at h; exact(Bool.and_eq_true _ _ ▸ h).1
theorem zxC{ms:List Mb}{sh:Nat->Bool}{p:Nat->Int}{i:Nat}{a:Mb}(hm:ms[i]? = some a):zwJ ms sh p i=(sh i && decide (p i<=a.Most)):=by unfold zwJ; rw[hm]
theorem zxD{ms:List Mb}{sh:Nat->Bool}{p:Nat->Int}(h:¬ zxx (zwJ ms sh p) sh=true):cF (zwJ ms sh p) < cF sh:=by
 have hle:∀i,(zwJ ms sh p i).toNat<=(sh i).toNat:=fun i=>by
  cases ha:zwJ ms sh p i with
  | false=>exact Nat.zero_le _
  | true=>rw[zxB ha]; exact Nat.le_refl _
 have hne:∃i,i < 5/\(zwJ ms sh p i).toNat ≠ (sh i).toNat:=by
  apply Classical.byContradiction
  intro hn;refine h (zxA.2 fun i hi=>?_)
  apply Classical.byContradiction
  intro h2;refine hn ⟨i,hi,fun h3=>h2 ?_⟩
  revert h3; cases zwJ ms sh p i <;> cases sh i <;> decide
 obtain⟨i,hi,h2⟩:=hne;have l0:=hle 0; have l1:=hle 1; have l2:=hle 2; have l3:=hle 3; have l4:=hle 4;unfold cF
 match i,hi with
 | 0,_=>omega
 | 1,_=>omega
 | 2,_=>omega
 | 3,_=>omega
 | 4,_=>omega
theorem zxE{ms:List Mb}{sh:Nat->Bool}{num:Mb->Int}{i:Nat}(h:sh i=false):zwH ms sh num i=0:=by
 unfold zwH
 cases ms[i]? with
 | none=>rfl
 | some a=>show(if sh i=true then num a else 0)=0; rw[h]; rfl
theorem zxF{ms:List Mb}{sh:Nat->Bool}{num:Mb->Int}{i:Nat}{a:Mb}(hm:ms[i]? = some a)(h:sh i=true):zwH ms sh num i=num a:=by
 unfold zwH; rw[hm]; show(if sh i=true then num a else 0)=_; rw[h,if_pos rfl]
theorem zxG{ms:List Mb}(hms:zxu ms)(sh:Nat->Bool)(i:Nat):0<=uF ms sh i/\uF ms sh i<=10000:=by
 unfold uF
 cases hs:sh i with
 | false=>rw[zxE hs]; omega
 | true=>
  cases hm:ms[i]? with
  | none=>unfold zwH; rw[hm]; show(0:Int)<=0/\(0:Int)<=_; omega
  | some a=>rw[zxF hm hs]; have:=zxv (hms.2 a (List.mem_of_getElem? hm)); omega
theorem zxH{ms:List Mb}(hms:zxu ms){sh:Nat->Bool}(hs:zxy ms sh)(hn:¬ zxw sh=true):UOk (uF ms sh):=by
 have hb:=zxG hms sh;refine⟨fun i _=>by have:=hb i; omega,?_⟩
 obtain⟨i,hi,hsi⟩:∃i,i < 5/\sh i=true:=by
  apply Classical.byContradiction
  intro h;refine hn (zxz.2 fun i hi=>?_)
  cases hq:sh i with
  | false=>rfl
  | true=>exact absurd ⟨i,hi,hq⟩ h
 have hl:=hs i hsi
 have h1:1<=uF ms sh i:=by unfold uF; rw[zxF (List.getElem?_eq_getElem hl) hsi]; exact(zxv (hms.2 _ (List.getElem_mem hl))).1
 have b0:=hb 0; have b1:=hb 1; have b2:=hb 2; have b3:=hb 3; have b4:=hb 4;unfold S5
 match i,hi with
 | 0,_=>omega
 | 1,_=>omega
 | 2,_=>omega
 | 3,_=>omega
 | 4,_=>omega
structure RI (ms:List Mb) (sh:Nat->Bool) (N:Int) (c:Nat->Int):Prop where
 sup:zxy ms sh
 nn:0<=N/\N<=1000000
 cb:∀i,i < 5->0<=c i/\c i<=1000000
 c0:∀i,sh i=true->c i=0
section
variable {ms:List Mb} {sh:Nat->Bool} {N:Int} {c:Nat->Int}
theorem zxI(p:Nat->Int){i:Nat}:(sh i && !zwJ ms sh p i)=true↔sh i=true/\∃a,ms[i]? = some a/\a.Most < p i:=by
 cases hm:ms[i]? with
 | none=>unfold zwJ; rw[hm]; cases sh i <;> simp
 | some a=>
  rw[zxC hm]
  cases sh i with
  | false=>simp
  | true=>simp
theorem zxJ(hms:zxu ms)(hs:zxy ms sh)(hn:¬ zxw sh=true)(hN:0<=N){i:Nat}(hi:i < 5) :
  0<=mF ms (fun i=>sh i && !zwJ ms sh (zw6 N (uF ms sh)) i) i/\mF ms (fun i=>sh i && !zwJ ms sh (zw6 N (uF ms sh)) i) i<=qN N (uF ms sh) i:=by
 have hu:=zxH hms hs hn;have hq:=zw7 hu hN hi;unfold mF
 cases ho:(sh i && !zwJ ms sh (zw6 N (uF ms sh)) i) with
 | false=>rw[zxE (by exact ho)]; omega
 | true=>
  obtain⟨h1,a,h2,h3⟩:=(zxI _).1 ho;have hb:=(hms.2 a (List.mem_of_getElem? h2)).most;have hp:=zxp N (uF ms sh) i;rw[zxF h2 (by exact ho)]; omega
theorem RI.next(hms:zxu ms)(h:RI ms sh N c)(hn:¬ zxw sh=true):RI ms (zwJ ms sh (zw6 N (uF ms sh))) (N - S5 (mF ms fun i=>sh i && !zwJ ms sh (zw6 N (uF ms sh)) i)) (fun i=>c i+mF ms (fun i=>sh i && !zwJ ms sh (zw6 N (uF ms sh)) i) i):=by
 have hu:=zxH hms h.sup hn;have hm:=fun i (hi:i < 5)=>zxJ hms h.sup hn h.nn.1 hi
 have hs:S5 (mF ms fun i=>sh i && !zwJ ms sh (zw6 N (uF ms sh)) i)<=S5 (zw6 N (uF ms sh)):=zxd fun i hi=>by have:=hm i hi; have:=zxp N (uF ms sh) i; omega
 rw[zxo hu] at hs
 have hs0:0<=S5 (mF ms fun i=>sh i && !zwJ ms sh (zw6 N (uF ms sh)) i):=by
  have:=hm 0 (by omega); have:=hm 1 (by omega); have:=hm 2 (by omega); have:=hm 3 (by omega); have:=hm 4 (by omega);unfold S5; omega
 have hnn:=h.nn;refine⟨fun i hi=>h.sup i (zxB hi),by omega,fun i hi=>?_,fun i hi=>?_⟩
 ·have h1:=hm i hi;have h2:=h.cb i hi
  have h3:mF ms (fun i=>sh i && !zwJ ms sh (zw6 N (uF ms sh)) i) i<=N:=by have:=zw7 hu h.nn.1 hi; omega
  show 0<=c i+_/\c i+_<=_
  cases ho:(sh i && !zwJ ms sh (zw6 N (uF ms sh)) i) with
  | false=>
   have e:mF ms (fun i=>sh i && !zwJ ms sh (zw6 N (uF ms sh)) i) i=0:=zxE (by exact ho);rw[e]; omega
  | true=>
   have hc:=h.c0 i ((zxI _).1 ho).1;rw[hc]; omega
 ·have h1:=zxB hi
  show c i+_=0
  have e:mF ms (fun i=>sh i && !zwJ ms sh (zw6 N (uF ms sh)) i) i=0:=zxE (by show(sh i && !zwJ ms sh _ i)=false; rw[hi]; simp);rw[h.c0 i h1,e]; rfl
theorem zxK{w:Wk}(hms:zxu w.s.Members):ztD w (mkF sh)=some (mk5 (uF w.s.Members sh)):=by
 unfold ztD;rw[zwI (num:=unN) (fun a ha=>?_) hms.1,obs]; rfl;have h:=hms.2 a ha;have:=h.sum; have:=h.cls;have hb:=zxv h;unfold unN at hb
 show ztz a=some (unN a)
 unfold ztz unN;rw[zqr (by omega),zqr (by omega),zqr (fI (by omega))]
theorem zxL{w:Wk}(hms:zxu w.s.Members):ztE w (mkF sh)=some (mk5 (mF w.s.Members sh)):=by
 unfold ztE;rw[zwI (number:=fun a=>ztA a) (num:=(·.Most)) (fun a _=>rfl) hms.1,obs]; rfl
theorem zxM{w:Wk}(hms:zxu w.s.Members)(need0:Int){need:Int}:∀(n D:Nat) (sh:Nat->Bool) (N:Int) (c:Nat->Int),RI w.s.Members sh N c->N+S5 c=need->need<=1000000->cF sh < n->cF sh < D ->
  ztH w need0 D need (c 0) (c 1) (c 2) (c 3) (c 4) (sh 0) (sh 1) (sh 2) (sh 3) (sh 4)=some { need:=need,calls:=mk5 (roundsN w.s.Members n sh N c).1 }
 | 0,_,_,_,_,_,_,_,h,_=>by omega
 | _+1,0,_,_,_,_,_,_,_,h=>by omega
 | n+1,D+1,sh,N,c,hr,hs,hneed,hn,hD=>by
  rw[ztH,roundsN]
  show(if zxw sh=true then _ else _)=_
  by_cases h0:zxw sh=true
  ·rw[if_pos h0,if_pos h0]; rfl
  ·rw[if_neg h0,if_neg h0];have hu:=zxH hms hr.sup h0
   have hbc:Bd 1000000000000 c:=fun i hi=>by have:=hr.cb i hi; omega
   have hcb:=hr.cb;have hc0:=hcb 0 (by omega); have hc1:=hcb 1 (by omega); have hc2:=hcb 2 (by omega); have hc3:=hcb 3 (by omega); have hc4:=hcb 4 (by omega)
   have hsc:0<=S5 c/\S5 c<=5000000:=by unfold S5; omega
   have hNN:0<=N/\N<=1000000:=hr.nn
   have e1:ztx ({ need:=need,calls:=mk5 c }:Oc)=some N:=by
    unfold ztx
    show(ztm (mk5 c)).bind _=_
    rw[zwE hbc,obs,zqr (fI (by show -9223372036854775808<=need - S5 c/\need - S5 c < _; omega))];exact congrArg some (show need - S5 c=N by omega)
   show(ztx ({ need:=need,calls:=mk5 c }:Oc)).bind _=_
   rw[e1,obs]
   show(ztD w (mkF sh)).bind _=_
   rw[zxK hms,obs,zxa hu hNN,obs]
   show(ztG w (mkF sh) (mk5 (zw6 N (uF w.s.Members sh)))).bind _=_
   rw[zwK hms.1,obs]
   have hbp:Bd 1000000000000 (zw6 N (uF w.s.Members sh)):=fun i hi=>by have:=zxq hu hNN.1 hi; have:=zxr hu hNN.1 hi; omega
   show(if zxx (zwJ w.s.Members sh (zw6 N (uF w.s.Members sh))) sh=true then _ else _)=_
   by_cases h1:zxx (zwJ w.s.Members sh (zw6 N (uF w.s.Members sh))) sh=true
   ·rw[if_pos h1,if_pos h1]
    have e2:zty ({ need:=need,calls:=mk5 c }:Oc) (mk5 (zw6 N (uF w.s.Members sh)))=some { need:=need,calls:=mk5 fun i=>c i+zw6 N (uF w.s.Members sh) i }:=by
     unfold zty
     show(zto (mk5 c) _).bind _=_
     rw[zwF hbc hbp,obs]
    show(zty ({ need:=need,calls:=mk5 c }:Oc) _).bind _=_
    rw[e2,obs]
   ·rw[if_neg h1,if_neg h1]
    show(ztq (mkF sh) (mkF (zwJ w.s.Members sh (zw6 N (uF w.s.Members sh))))).bind _=_
    rw[zwG,obs,zxL hms,obs];have hnext:=hr.next hms h0;have hm:=fun i (hi:i < 5)=>zxJ hms hr.sup h0 hNN.1 hi
    have hbm:Bd 1000000000000 (mF w.s.Members fun i=>sh i && !zwJ w.s.Members sh (zw6 N (uF w.s.Members sh)) i):=fun i hi=>by have:=hm i hi; have:=zw7 hu hNN.1 hi; omega
    have e2:zty ({ need:=need,calls:=mk5 c }:Oc) (mk5 (mF w.s.Members fun i=>sh i && !zwJ w.s.Members sh (zw6 N (uF w.s.Members sh)) i))=some { need:=need,calls:=mk5 fun i=>c i+mF w.s.Members (fun i=>sh i && !zwJ w.s.Members sh (zw6 N (uF w.s.Members sh)) i) i }:=by
     unfold zty
     show(zto (mk5 c) _).bind _=_
     rw[zwF hbc hbm,obs]
    show(zty ({ need:=need,calls:=mk5 c }:Oc) _).bind _=_
    rw[e2,obs];have hless:=zxD h1;have e3:S5 (fun i=>c i+mF w.s.Members (fun i=>sh i && !zwJ w.s.Members sh (zw6 N (uF w.s.Members sh)) i) i)=S5 c+S5 (mF w.s.Members fun i=>sh i && !zwJ w.s.Members sh (zw6 N (uF w.s.Members sh)) i):=zwO _ _
    have e4:N - S5 (mF w.s.Members fun i=>sh i && !zwJ w.s.Members sh (zw6 N (uF w.s.Members sh)) i)+S5 (fun i=>c i+mF w.s.Members (fun i=>sh i && !zwJ w.s.Members sh (zw6 N (uF w.s.Members sh)) i) i)=need:=by rw[e3]; omega
    exact zxM hms need0 n D _ _ _ hnext e4 hneed (by omega) (by omega)
end
def zxN(ms:List Mb)(ask:Nat->Bool)(need:Int):(Nat->Int) × Int:=roundsN ms 6 ask need fun _=>0
theorem zxO(sh:Nat->Bool):cF sh<=5:=by
 have h:∀b:Bool,b.toNat<=1:=fun b=>by cases b <;> decide
 have:=h (sh 0); have:=h (sh 1); have:=h (sh 2); have:=h (sh 3); have:=h (sh 4);unfold cF; omega
theorem zxP{w:Wk}(hms:zxu w.s.Members){ask:Nat->Bool}(ha:w.asked=mkF ask)(hsup:zxy w.s.Members ask){need:Int}(hn:0<=need/\need<=1000000):ztI w need=some { need:=need,calls:=mk5 (zxN w.s.Members ask need).1 }:=by
 unfold ztI;rw[ha];have hc:=zxO ask;exact zxM hms need 6 1000000 ask need (fun _=>0) ⟨hsup,hn,fun _ _=>by omega,fun _ _=>rfl⟩ (by rw[zwP]; omega) hn.2 (by omega) (by omega)
end
end Go.Proofs.Ytkclhciahokifaa

namespace Go.Proofs.Ytkclhciahokifaa
open _root_.Go.Proofs.Try
open Go.Abs
set_option maxRecDepth 100000
noncomputable section
section
variable {ms:List Mb}
theorem zxQ(hms:zxu ms):∀(n:Nat) (sh:Nat->Bool) (N:Int) (c:Nat->Int),RI ms sh N c->cF sh < n->S5 (roundsN ms n sh N c).1+(roundsN ms n sh N c).2=N+S5 c/\0<=(roundsN ms n sh N c).2
 | 0,_,_,_,_,h=>by omega
 | n+1,sh,N,c,hr,h=>by
  unfold roundsN
  by_cases h0:zxw sh=true
  ·rw[if_pos h0]; have:=hr.nn; exact⟨by show S5 c+N=_; omega,hr.nn.1⟩
  ·rw[if_neg h0];have hu:=zxH hms hr.sup h0
   by_cases h1:zxx (zwJ ms sh (zw6 N (uF ms sh))) sh=true
   ·rw[if_pos h1];have e:S5 (fun i=>c i+zw6 N (uF ms sh) i)=S5 c+S5 (zw6 N (uF ms sh)):=zwO _ _;have hp:=zxo hu N;exact⟨by show S5 (fun i=>c i+zw6 N (uF ms sh) i)+0=_; omega,Int.le_refl _⟩
   ·rw[if_neg h1];have hless:=zxD h1;have ih:=zxQ hms n _ _ _ (hr.next hms h0) (by omega);have e:S5 (fun i=>c i+mF ms (fun i=>sh i && !zwJ ms sh (zw6 N (uF ms sh)) i) i)=S5 c+S5 (mF ms fun i=>sh i && !zwJ ms sh (zw6 N (uF ms sh)) i):=zwO _ _;rw[e] at ih;exact⟨by rw[ih.1]; omega,ih.2⟩
theorem zxR(hms:zxu ms):∀(n:Nat) (sh:Nat->Bool) (N:Int) (c:Nat->Int),RI ms sh N c->cF sh < n->∀i,i < 5->sh i=false->(roundsN ms n sh N c).1 i=c i
 | 0,_,_,_,_,h=>by omega
 | n+1,sh,N,c,hr,h=>fun i hi hs=>by
  unfold roundsN
  by_cases h0:zxw sh=true
  ·rw[if_pos h0]
  ·rw[if_neg h0];have hu:=zxH hms hr.sup h0
   by_cases h1:zxx (zwJ ms sh (zw6 N (uF ms sh))) sh=true
   ·rw[if_pos h1]
    show c i+_=_
    rw[zxs hu (show uF ms sh i=0 from zxE hs),Int.add_zero]
   ·rw[if_neg h1];have hless:=zxD h1
    have ha:zwJ ms sh (zw6 N (uF ms sh)) i=false:=by
     cases hq:zwJ ms sh (zw6 N (uF ms sh)) i with
     | false=>rfl
     | true=>rw[zxB hq] at hs; cases hs
    rw[zxR hms n _ _ _ (hr.next hms h0) (by omega) i hi ha];have e:mF ms (fun i=>sh i && !zwJ ms sh (zw6 N (uF ms sh)) i) i=0:=zxE (by show(sh i && _)=false; rw[hs]; rfl);rw[e,Int.add_zero]
theorem zxS(hms:zxu ms):∀(n:Nat) (sh:Nat->Bool) (N:Int) (c:Nat->Int),RI ms sh N c->cF sh < n->∀i a,i < 5->ms[i]? = some a->sh i=true->(0<=(roundsN ms n sh N c).1 i/\(roundsN ms n sh N c).1 i<=a.Most)/\(0 < (roundsN ms n sh N c).2->(roundsN ms n sh N c).1 i=a.Most)
 | 0,_,_,_,_,h=>by omega
 | n+1,sh,N,c,hr,h=>fun i a hi hm hs=>by
  unfold roundsN
  by_cases h0:zxw sh=true
  ·have:=zxz.1 h0 i hi; rw[hs] at this; cases this
  ·rw[if_neg h0];have hu:=zxH hms hr.sup h0;have hc:=hr.c0 i hs;have hp:=zxq hu hr.nn.1 hi
   by_cases h1:zxx (zwJ ms sh (zw6 N (uF ms sh))) sh=true
   ·rw[if_pos h1];have h2:=zxA.1 h1 i hi;rw[zxC hm,hs,Bool.true_and] at h2;have h3:zw6 N (uF ms sh) i<=a.Most:=of_decide_eq_true h2;exact⟨by show 0<=c i+_/\c i+_<=_; omega,fun h=>absurd h (Int.lt_irrefl _)⟩
   ·rw[if_neg h1];have hless:=zxD h1
    cases hq:zwJ ms sh (zw6 N (uF ms sh)) i with
    | true=>exact zxS hms n _ _ _ (hr.next hms h0) (by omega) i a hi hm hq
    | false=>
     rw[zxR hms n _ _ _ (hr.next hms h0) (by omega) i hi hq];have e:mF ms (fun i=>sh i && !zwJ ms sh (zw6 N (uF ms sh)) i) i=a.Most:=zxF hm (by show(sh i && !zwJ ms sh _ i)=true; rw[hs,hq]; rfl);have hb:=(hms.2 a (List.mem_of_getElem? hm)).most;rw[e,hc];exact⟨by omega,fun _=>by omega⟩
end
section
variable {ms:List Mb} {ask:Nat->Bool} {N:Int}
theorem RI0(hs:zxy ms ask)(hN:0<=N/\N<=1000000):RI ms ask N fun _=>0:=⟨hs,hN,fun _ _=>by omega,fun _ _=>rfl⟩
theorem zxT(hms:zxu ms)(hs:zxy ms ask)(hN:0<=N/\N<=1000000):S5 (zxN ms ask N).1+(zxN ms ask N).2=N/\0<=(zxN ms ask N).2:=by
 have:=zxO ask;have h:=zxQ hms 6 ask N (fun _=>0) (RI0 hs hN) (by omega);rw[zwP] at h;exact⟨by rw[Int.add_zero] at h; exact h.1,h.2⟩
theorem zxU(hms:zxu ms)(hs:zxy ms ask)(hN:0<=N/\N<=1000000){i:Nat}(hi:i < 5)(ha:ask i=false):(zxN ms ask N).1 i=0:=by
 have:=zxO ask;exact zxR hms 6 ask N (fun _=>0) (RI0 hs hN) (by omega) i hi ha
theorem zxV(hms:zxu ms)(hs:zxy ms ask)(hN:0<=N/\N<=1000000){i:Nat}{a:Mb}(hi:i < 5)(hm:ms[i]? = some a)(ha:ask i=true):(0<=(zxN ms ask N).1 i/\(zxN ms ask N).1 i<=a.Most)/\(0 < (zxN ms ask N).2->(zxN ms ask N).1 i=a.Most):=by
 have:=zxO ask;exact zxS hms 6 ask N (fun _=>0) (RI0 hs hN) (by omega) i a hi hm ha
theorem zxW(hms:zxu ms)(hs:zxy ms ask)(hN:0<=N/\N<=1000000){i:Nat}(hi:i < 5):0<=(zxN ms ask N).1 i/\(zxN ms ask N).1 i<=100000:=by
 cases ha:ask i with
 | false=>rw[zxU hms hs hN hi ha]; omega
 | true=>
  have hm:=List.getElem?_eq_getElem (hs i ha);have h:=zxV hms hs hN hi hm ha;have hb:=(hms.2 _ (List.getElem_mem (hs i ha))).most
  omega
end
end
end Go.Proofs.Ytkclhciahokifaa

namespace Go.Proofs.Ytkclhciahokifaa
open _root_.Go.Proofs.Try
open Go.Abs
set_option maxRecDepth 100000
noncomputable section
def RgV(r:Rg):Prop:=0<=r.Lo/\r.Lo<=r.Hi/\r.Hi<=100000/\r.Hi - r.Lo<=30
instance (r:Rg):Decidable (RgV r):=by unfold RgV; infer_instance
structure zxX (s:Soc):Prop where
 pos:0 < s.Members.length
 ms:∀a∈s.Members,zxt a
 ls:∀r∈s.Losses,RgV r
 tr:RgV s.Treaty
 rs:0<=s.Reserve/\s.Reserve<=100000
structure zxY (s:Soc):Prop where
 m5:s.Members.length<=5
 l3:s.Losses.length<=3
 full:zxX s
theorem zxY.msOk{s:Soc}(h:zxY s):zxu s.Members:=⟨h.m5,h.full.ms⟩
open Classical in
def zxZ(s:Soc):Int:=if 5 < s.Members.length\/3 < s.Losses.length then 3 else if zxX s then 0 else 1
theorem zx0{s:Soc}:zxZ s=0↔zxY s:=by
 unfold zxZ
 by_cases h:5 < s.Members.length\/3 < s.Losses.length
 ·rw[if_pos h]; exact⟨fun h=>by omega,fun h2=>by have:=h2.m5; have:=h2.l3; omega⟩
 ·rw[if_neg h]
  by_cases hf:zxX s
  ·rw[if_pos hf]; exact⟨fun _=>⟨by omega,by omega,hf⟩,fun _=>rfl⟩
  ·rw[if_neg hf]; exact⟨fun h=>by omega,fun h=>absurd h.full hf⟩
theorem zx1{r:Rg}{n:Int}:Ev (zsG r n) (r.Lo<=n/\n<=r.Hi):=Ev.ite fun _=>Ev.dec Iff.rfl
theorem zx2{n:Int}:Ev (zsH n) (0<=n/\n<=100000):=zx1.ret
theorem zx3{r:Rg}:Ev (zsI r) (RgV r):=by
 refine(zx2.and fun h1=>zx2.and fun h2=>Ev.ite (K:=r.Hi - r.Lo<=30) fun _=>Ev.gd (fI (by omega)) (Ev.dec Iff.rfl)).imp ?_;unfold RgV; omega
theorem zx4{a:Mb}:Ev (zsJ ({ su:=({ Lo:=(1:Int),Hi:=(1000:Int) }:Rg),cl:=({ Lo:=(1:Int),Hi:=(10:Int) }:Rg),mo:=({ Lo:=(0:Int),Hi:=(100000:Int) }:Rg) }:Lm) a) (zxt a):=
 (zx1.and fun _=>zx1.and fun _=>zx1.ret).imp ⟨fun⟨h1,h2,h3⟩=>⟨h1,h2,h3⟩,fun⟨h1,h2,h3⟩=>⟨h1,h2,h3⟩⟩
theorem gM{l:List Mb}{p:Mb->Option Bool}:∀{d:Nat} {x:Int},zsL l p d x=gIdx l p d x
 | 0,_=>rfl
 | d+1,x=>by unfold zsL gIdx; simp only[gM]
theorem gR{l:List Rg}{p:Rg->Option Bool}:∀{d:Nat} {x:Int},zsQ l p d x=gIdx l p d x
 | 0,_=>rfl
 | d+1,x=>by unfold zsQ gIdx; simp only[gR]
theorem gI{l:List Int}{p:Int->Option Bool}:∀{d:Nat} {x:Int},zsV l p d x=gIdx l p d x
 | 0,_=>rfl
 | d+1,x=>by unfold zsV gIdx; simp only[gI]
theorem zx5{s:Soc}(h1:zrP s.Members)(h2:zrP s.Losses):Ev (zs2 s) (zxX s):=by
 refine(Ev.ite fun _=>(Ev.each (q:=zxt) (fun a _=>zx4) h1.lt gM).and fun _=>(Ev.each (q:=RgV) (fun a _=>zx3) h2.lt gR).and fun _=>zx3.and fun _=>zx2.ret).imp ?_;exact⟨fun⟨a,b,c,d,e⟩=>⟨by omega,b,c,d,e⟩,fun⟨a,b,c,d,e⟩=>⟨by omega,b,c,d,e⟩⟩
theorem zx6{s:Soc}:Ev (zs1 s) (5 < s.Members.length\/3 < s.Losses.length):=by
 unfold zs1
 by_cases h:(5:Int) < s.Members.length
 ·rw[if_pos h]; exact Ev.tt (by omega)
 ·rw[if_neg h]; exact Ev.dec (by omega)
theorem zx7{s:Soc}(h1:zrP s.Members)(h2:zrP s.Losses):zs3 s=some (zxZ s):=by
 unfold zs3 zxZ;refine zx6.pick (fun h=>?_) fun h=>?_
 ·rw[if_pos rfl,if_pos h]
 ·rw[if_neg (by decide),if_neg h];refine(zx5 h1 h2).pick (fun h=>?_) fun h=>?_
  ·rw[if_pos rfl,if_pos h]
  ·rw[if_neg (by decide),if_neg h]
theorem zx8{n lo hi:Int}:Ev (zse n lo hi) (lo<=n/\n<=hi):=Ev.ite fun _=>Ev.dec Iff.rfl
theorem zx9{r:Rg}:Ev (zsf r) (RgV r):=Ev.ite fun h1=>Ev.ite fun h2=>Ev.ite fun h3=>Ev.gd (fI (by omega)) (Ev.dec Iff.rfl)
theorem zya{s:Soc}(h1:s.Members.length<=8)(h2:s.Losses.length<=6):zsh s=some (zxZ s):=by
 unfold zsh zxZ
 by_cases c1:5 < s.Members.length
 ·rw[if_pos (by omega),if_pos (.inl c1)]
 rw[if_neg (by omega)]
 by_cases c2:3 < s.Losses.length
 ·rw[if_pos (by omega),if_pos (.inr c2)]
 rw[if_neg (show ¬ (3:Int) < s.Losses.length by omega),if_neg (show ¬ (5 < s.Members.length\/3 < s.Losses.length) by omega)]
 by_cases c3:s.Members.length=0
 ·rw[if_pos (by omega),if_neg fun h:zxX s=>by have:=h.pos; omega]
 rw[if_neg (show ¬ (s.Members.length:Int)=0 by omega)]
 refine zx9.pick (fun c4=>?_) fun c4=>by rw[if_neg (by decide),if_neg fun h=>c4 h.tr]
 rw[if_pos rfl]
 refine zx8.pick (fun c5=>?_) fun c5=>by rw[if_neg (by decide),if_neg fun h=>c5 h.rs]
 rw[if_pos rfl]
 have kL:=zrO (l:=s.Losses) (F:=fun d x=>prFault_L1 s d x) (ok:=RgV) (bad:=some 1) (fin:=some 0) (fun d k a hk=>by
  have hkl:=(List.getElem?_eq_some_iff.1 hk).1
  show(RgV a->prFault_L1 s (d+1) (k:Int)=_)/\_
  rw[prFault_L1,if_pos (by omega),zrF hk,obs]
  exact Ev.step zx9 (by rw[if_pos rfl,zqr (fI (by omega))]) (by rw[if_neg (by decide)])) (fun d=>by show prFault_L1 s (d+1) _=_; rw[prFault_L1,if_neg (Int.lt_irrefl _)]) (d:=1000000) (by omega)
 have kM:=zrO (l:=s.Members) (F:=fun d x=>zsg s d 0 x) (ok:=zxt) (bad:=some 1) (fin:=prFault_L1 s 1000000 0) (fun d k a hk=>by
  have hkl:=(List.getElem?_eq_some_iff.1 hk).1
  show(zxt a->zsg s (d+1) 0 (k:Int)=_)/\_
  rw[zsg,if_pos (by omega),zrF hk,obs];refine⟨fun h=>?_,fun h=>?_⟩
  ·rw[zx8.some_of h.sum,obs,if_pos rfl,zx8.some_of h.cls,obs,if_pos rfl,zx8.some_of h.most,obs,if_pos rfl,zqr (fI (by omega))]
  ·refine zx8.pick (fun q1=>?_) fun q1=>by rw[if_neg (by decide)]
   rw[if_pos rfl]
   refine zx8.pick (fun q2=>?_) fun q2=>by rw[if_neg (by decide)]
   rw[if_pos rfl]
   refine zx8.pick (fun q3=>absurd ⟨q1,q2,q3⟩ h) fun q3=>by rw[if_neg (by decide)]) (fun d=>by show zsg s (d+1) 0 _=_; rw[zsg,if_neg (Int.lt_irrefl _)]) (d:=1000000) (by omega)
 by_cases c6:∀a∈s.Members,zxt a
 ·refine(kM.1 c6).trans ?_
  by_cases c7:∀r∈s.Losses,RgV r
  ·refine(kL.1 c7).trans ?_;rw[if_pos ⟨by omega,c6,c7,c4,c5⟩]
  ·refine(kL.2 c7).trans ?_;rw[if_neg fun h=>c7 h.ls]
 ·refine(kM.2 c6).trans ?_;rw[if_neg fun h=>c6 h.ms]
theorem zyb{s:Soc}(h1:s.Members.length<=8)(h2:s.Losses.length<=6):zue s=some (zxZ s):=by unfold zue; rw[zya h1 h2]; rfl
def zyc(n:Nat)(out:List Int):Nat->Bool:=fun i=>decide (i < n) && !decide ((i:Int)∈out)
def zyd(s:Soc)(out:List Int):Wk:={ s:=s,asked:=mkF (zyc s.Members.length out) }
def wk0:Wk:={ s:={ Members:=[],Losses:=[],Treaty:={ Lo:=0,Hi:=0 },Reserve:=0 },asked:={ b0:=false,b1:=false,b2:=false,b3:=false,b4:=false } }
theorem zye(ms:List Mb)(out:List Int):zxy ms (zyc ms.length out):=fun i h=>by
 unfold zyc at h
 simp at h; exact h.1
theorem zyf{l:List Int}{v:Int}(hl:zrP l):∀d (k:Nat),k<=l.length->l.length - k < d->∃r,zs8 l v d (k:Int)=some r/\(0<=r↔v∈l.drop k)
 | 0,k,_,h=>by omega
 | d+1,k,hk,h=>by
  unfold zrP at hl;unfold zs8
  by_cases hkn:k=l.length
  ·subst hkn; rw[if_neg (Int.lt_irrefl _)]; exact⟨_,rfl,by simp⟩
  ·have hlt:k < l.length:=by omega
   rw[if_pos (by omega),zrF (List.getElem?_eq_getElem hlt),obs];have hd:=List.drop_eq_getElem_cons hlt
   by_cases hv:v=l[k]
   ·rw[if_pos hv]; exact⟨_,rfl,⟨fun _=>by rw[hd,<- hv]; exact List.mem_cons_self ..,fun _=>by omega⟩⟩
   ·rw[if_neg hv,zqr (fI (by omega)),show(k:Int)+1=((k+1:Nat):Int) by omega];obtain⟨r,h1,h2⟩:=zyf hl d (k+1) (by omega) (by omega);exact⟨r,h1,h2.trans ⟨fun h=>by rw[hd]; exact List.mem_cons_of_mem _ h,fun h=>by rw[hd] at h; exact(List.mem_cons.1 h).resolve_left hv⟩⟩
theorem zyg{l:List Int}{v:Int}(hl:zrP l):zta l v=some (decide (v∈l)):=by
 unfold zta zs9;obtain⟨r,h1,h2⟩:=zyf (v:=v) hl (l.length+1) 0 (Nat.zero_le _) (by omega);have h1:zs8 l v (l.length+1) 0=some r:=h1;rw[h1,obs];exact congrArg some (decide_eq_decide.2 (h2.trans (by rw[List.drop_zero])))
theorem zyh{s:Soc}{out:List Int}(hl:zrP out)(h5:s.Members.length<=5):ztc s out=some (zyd s out):=by
 unfold ztc;have key:=zwv (n:=s.Members.length) (fun d st x=>ztb s out d s.Treaty.Lo s.Treaty.Hi s.Reserve (st 0) (st 1) (st 2) (st 3) (st 4) x) (stF (zyc s.Members.length out) fun _=>false) (fin:=some (zyd s out)) (fun d k hk=>?_) (fun d=>?_) (s.Members.length+1) 0 (by omega) (by omega)
 ·rw[zwz] at key; exact key
 ·show ztb s out (d+1) _ _ _ _ _ _ _ _ _=_
  rw[ztb,if_pos (by omega),zyg hl,obs,zqr (by omega),zqr (fI (by omega))];have e:=zwB (zyc s.Members.length out) (fun _=>false) k
  have e0:(!decide ((k:Int)∈out))=zyc s.Members.length out k:=by unfold zyc; rw[decide_eq_true hk,Bool.true_and]
  rw[e0,e 0,e 1,e 2,e 3,e 4]
 ·show ztb s out (d+1) _ _ _ _ _ _ _ _ _=_
  rw[ztb,if_neg (by omega)]
  have e1:∀j,stF (zyc s.Members.length out) (fun _=>false) s.Members.length j=zyc s.Members.length out j:=fun j=>by
   unfold stF
   by_cases h:j < s.Members.length
   ·rw[if_pos h]
   ·rw[if_neg h]; unfold zyc; rw[decide_eq_false h]; rfl
  rw[e1 0,e1 1,e1 2,e1 3,e1 4]; rfl
def zyi(n:Nat)(l:List Int):Prop:=l.Pairwise (· < ·)/\∀v∈l,0<=v/\v<=(n:Int) - 1
theorem zyj{l:List Int}:(∀j,0 < j->j < l.length->∀a b,l[j - 1]? = some a->l[j]? = some b->a < b)↔l.Pairwise (· < ·):=by
 constructor
 ·intro h;rw[List.pairwise_iff_getElem];intro i j hi hj hij
  have key:∀d,(hd:i+d+1 < l.length)->l[i] < l[i+d+1]:=fun d=>by
   induction d with
   | zero=>intro hd; exact h (i+1) (by omega) hd _ _ (List.getElem?_eq_getElem hi) (List.getElem?_eq_getElem hd)
   | succ d ih=>
    intro hd;have h1:=ih (by omega);have h2:=h (i+(d+1)+1) (by omega) hd _ _ (List.getElem?_eq_getElem (show i+d+1 < l.length by omega)) (List.getElem?_eq_getElem hd);exact Int.lt_trans h1 h2
  have:=key (j - i - 1) (by omega)
  simpa [show i+(j - i - 1)+1=j by omega] using this
 ·intro h j h0 hj a b ha hb;obtain⟨h1,rfl⟩:=List.getElem?_eq_some_iff.1 ha;obtain⟨h2,rfl⟩:=List.getElem?_eq_some_iff.1 hb;exact List.pairwise_iff_getElem.1 h (j - 1) j h1 h2 (by omega)
theorem zyk{l:List Int}(hl:zrP l):Ev (zs0 l) (l.Pairwise (· < ·)):=by
 unfold zrP at hl;unfold zs0
 by_cases h0:l.length=0
 ·have:l=[]:=List.eq_nil_of_length_eq_zero h0;subst this
  show Ev (zsZ [] 1 1) _
  rw[zsZ,if_neg (by decide)];exact Ev.tt .nil
 ·have e:∃n,l.length=n+1:=⟨l.length - 1,by omega⟩;obtain⟨n,hn⟩:=e
  have key:=zrJ (n:=n) (F:=fun d x=>zsZ l d (x+1)) (ok:=fun j=>∀a b,l[j]? = some a->l[j+1]? = some b->a < b) (bad:=some false) (fin:=some true) (fun d k hk=>by
   show(_->zsZ l (d+1) ((k:Int)+1)=_)/\_
   have ha:=List.getElem?_eq_getElem (show k < l.length by omega);have hb:=List.getElem?_eq_getElem (show k+1 < l.length by omega);rw[zsZ,if_pos (by omega),zrG (show(k:Int)+1=((k+1:Nat):Int) by omega) (show k+1 < l.length by omega),obs,zqr (fI (by omega)),zrG (show(k:Int)+1 - 1=(k:Int) by omega) (show k < l.length by omega),obs];refine⟨fun h=>?_,fun h=>?_⟩
   ·have:=h _ _ ha hb;rw[if_neg (by omega),zqr (fI (by omega))]
   ·rw[if_pos]
    apply Classical.byContradiction
    intro h2
    exact h fun a b h3 h4=>by rw[ha] at h3; rw[hb] at h4; cases h3; cases h4; omega) (fun d=>by show zsZ l (d+1) _=_; rw[zsZ,if_neg (by omega)]) (d:=((l.length:Int) - 1).toNat+1) (by omega)
  have e0:zsZ l (((l.length:Int) - 1).toNat+1) (0+1)=zsZ l (((l.length:Int) - 1).toNat+1) 1:=rfl
  have hiff:(∀j,j < n->∀a b,l[j]? = some a->l[j+1]? = some b->a < b)↔l.Pairwise (· < ·):=by
   rw[<- zyj]
   constructor
   ·intro h j h0 hj a b h1 h2;have:=h (j - 1) (by omega) a b h1;rw[show j - 1+1=j by omega] at this;exact this h2
   ·intro h j hj a b h1 h2;exact h (j+1) (by omega) (by omega) a b (by rw[Nat.add_sub_cancel]; exact h1) h2
  by_cases hq:∀j,j < n->∀a b,l[j]? = some a->l[j+1]? = some b->a < b
  ·have:=key.1 hq;exact⟨true,this,⟨fun _=>hiff.1 hq,fun _=>rfl⟩⟩
  ·have:=key.2 hq;exact⟨false,this,⟨fun h=>(by cases h),fun h=>absurd (hiff.2 h) hq⟩⟩
theorem zyl{s:Soc}{l:List Int}(hl:zrP l)(hm:zrP s.Members):Ev (zs7 s l) (zyi s.Members.length l):=by
 unfold zrP at hm;refine((zyk hl).and fun _=>(Ev.each (q:=fun v=>0<=v/\v<=(s.Members.length:Int) - 1) (fun v _=>?_) hl.lt gI).ret).imp Iff.rfl;exact Ev.gd (fI (by omega)) zx1.ret
theorem zym{s:Soc}{out:List Int}(hs:zxY s)(hl:zrP out)(ho:zyi s.Members.length out):ztd s out=some (zyd s out,0):=by
 have h1:=hs.m5; have h2:=hs.l3;unfold ztd;rw[zx7 (by unfold zrP; omega) (by unfold zrP; omega),obs,if_pos (zx0.2 hs),(zyl hl (by unfold zrP; omega)).some_of ho,obs,if_pos rfl,zyh hl h1,obs]
theorem zyn{s:Soc}{out:List Int}(h1:zrP s.Members)(h2:zrP s.Losses)(hf:zxZ s ≠ 0):ztd s out=some (wk0,zxZ s):=by
 unfold ztd;rw[zx7 h1 h2,obs,if_neg hf]; rfl
theorem zyo(n:Nat):zyi n []:=⟨.nil,fun _ h=>by cases h⟩
def zyp(lo hi:Int):List Int:=(List.range (hi - lo+1).toNat).map fun(k:Nat)=>lo+(k:Int)
theorem zyq{lo hi x:Int}:x∈zyp lo hi↔lo<=x/\x<=hi:=by
 unfold zyp;rw[List.mem_map]
 constructor
 ·rintro⟨k,h1,rfl⟩
  have:=List.mem_range.1 h1
  omega
 ·intro h; exact⟨(x - lo).toNat,List.mem_range.2 (by omega),by omega⟩
def zyr(g:Rg->Int)(l:List Rg):Int:=zwM (l.map g)
theorem zys{l:List Rg}(h:∀r∈l,RgV r):0<=zyr (·.Lo) l/\zyr (·.Lo) l<=zyr (·.Hi) l/\zyr (·.Hi) l<=100000 * l.length/\zyr (·.Hi) l<=zyr (·.Lo) l+30 * l.length:=by
 induction l with
 | nil=>exact⟨Int.le_refl _,Int.le_refl _,Int.le_refl _,Int.le_refl _⟩
 | cons r l ih=>
  have ih:=ih fun r hr=>h r (List.mem_cons_of_mem _ hr);have hr:=h r (List.mem_cons_self ..);unfold RgV at hr;have e1:zyr (·.Lo) (r::l)=r.Lo+zyr (·.Lo) l:=rfl;have e2:zyr (·.Hi) (r::l)=r.Hi+zyr (·.Hi) l:=rfl;rw[e1,e2,List.length_cons]
  omega
def loN(s:Soc):Int:=max 0 (zyr (·.Lo) s.Losses - s.Reserve - s.Treaty.Hi)
def hiN(s:Soc):Int:=max 0 (zyr (·.Hi) s.Losses - s.Reserve - s.Treaty.Lo)
theorem zyt{s:Soc}(hs:zxY s):0<=loN s/\loN s<=hiN s/\hiN s<=300000/\hiN s<=loN s+120:=by
 have h:=zys hs.full.ls;have h1:=hs.l3;have h2:=hs.full.tr;have h3:=hs.full.rs;unfold RgV at h2;unfold loN hiN
 omega
theorem zyu{g:Rg->Int}{l:List Rg}{k:Nat}{a:Rg}(h:l[k]? = some a):zyr g (l.take (k+1))=zyr g (l.take k)+g a:=by
 unfold zyr;rw[List.take_add_one,h,List.map_append,zwN]
 show _+(g a+0)=_; omega
theorem zyv{s:Soc}{a b:Int}(h:0<=a/\a<=1000000)(hb:0<=b/\b<=1000000)(hr:0<=s.Reserve/\s.Reserve<=100000):zte s a b=some (max 0 (a - s.Reserve - b)):=by
 unfold zte;rw[zqr (fI (by omega)),zqr (fI (by omega))]
theorem zyw{hi:Int}(hh:hi<=1000000):∀(d:Nat) (x:Int),0<=x->(hi - x+1).toNat < d->zth hi d x=some (zyp x hi)
 | 0,_,_,h=>by omega
 | d+1,x,hx,h=>by
  rw[zth]
  by_cases hc:x<=hi
  ·rw[if_pos hc,zqr (fI (by omega)),zyw hh d (x+1) (by omega) (by omega),obs]
   have e:(hi - x+1).toNat=(hi - (x+1)+1).toNat+1:=by omega
   have e2:zyp x hi=x::zyp (x+1) hi:=by
    unfold zyp;rw[e,List.range_succ_eq_map,List.map_cons,List.map_map];refine congr (congrArg List.cons (by show x+((0:Nat):Int)=x; omega)) (List.map_congr_left fun k _=>?_)
    show x+((k+1:Nat):Int)=x+1+(k:Int)
    omega
   rw[e2]
  ·rw[if_neg hc]
   have e:(hi - x+1).toNat=0:=by omega
   unfold zyp; rw[e]; rfl
theorem zyx{s:Soc}(hs:zxY s):ztk s=some (zyp (loN s) (hiN s)):=by
 have hb:=zys hs.full.ls;have hn:=zyt hs;have h3:=hs.l3;have htr:=hs.full.tr;unfold RgV at htr;have hrs:=hs.full.rs
 have e:ztj s=some (zyp (loN s) (hiN s)):=by
  unfold ztj;refine zwv (n:=s.Losses.length) (fun d (st:Int × Int) x=>zti s d st.1 st.2 x) (fun k=>(zyr (·.Lo) (s.Losses.take k),zyr (·.Hi) (s.Losses.take k))) (fun d k hk=>?_) (fun d=>?_) (s.Losses.length+1) 0 (by omega) (by omega)
  ·have hg:=List.getElem?_eq_getElem hk;have h1:=zys (l:=s.Losses.take k) fun r hr=>hs.full.ls r (List.mem_of_mem_take hr);have h2:=hs.full.ls _ (List.getElem_mem hk)
   have h4:(s.Losses.take k).length<=3:=by rw[List.length_take]; omega
   unfold RgV at h2
   show zti s (d+1) (zyr _ _) (zyr _ _) (k:Int)=zti s d (zyr _ _) (zyr _ _) _
   rw[zti,if_pos (by omega),zrF hg,obs,zqr (fI (by omega)),zqr (fI (by omega)),zqr (fI (by omega)),zyu hg,zyu hg]
  ·show zti s (d+1) (zyr _ _) (zyr _ _) _=_
   rw[zti,if_neg (Int.lt_irrefl _),List.take_length,zyv (by omega) (by omega) hrs,obs,zyv (by omega) (by omega) hrs,obs];exact zyw (by unfold hiN at hn; omega) _ _ (by omega) (by omega)
 unfold ztk;rw[e]; rfl
end
end Go.Proofs.Ytkclhciahokifaa

namespace Go.Proofs.Ytkclhciahokifaa
open _root_.Go.Proofs.Try
open Go.Abs
set_option maxRecDepth 100000
noncomputable section
def Inc(n fr:Nat)(T:List Int):Prop:=T.Pairwise (· < ·)/\∀v∈T,(fr:Int)<=v/\v < n
theorem Inc.cons{n fr:Nat}{x:Int}{T:List Int}:Inc n fr (x::T)↔((fr:Int)<=x/\x < n)/\Inc n (x+1).toNat T:=by
 unfold Inc;rw[List.pairwise_cons]
 constructor
 ·rintro⟨⟨h1,h2⟩,h3⟩
  have hx:=h3 x (List.mem_cons_self ..);exact⟨hx,h2,fun v hv=>by have:=h1 v hv; have:=h3 v (List.mem_cons_of_mem _ hv); omega⟩
 ·rintro⟨hx,h2,h3⟩
  refine⟨⟨fun v hv=>by have:=h3 v hv; omega,h2⟩,fun v hv=>?_⟩
  rcases List.mem_cons.1 hv with rfl | hv
  ·exact hx
  ·have:=h3 v hv; omega
theorem zyy{n:Nat}{D:List Int}:∀{d:Nat} {pre:List Int} {fr:Nat},D∈zru n d pre fr↔∃T,D=pre++T/\T.length=d/\Inc n fr T
 | 0,pre,fr=>by
  show D∈[pre]↔_
  rw[List.mem_singleton]
  constructor
  ·rintro rfl; exact⟨[],by simp,rfl,.nil,fun v hv=>by cases hv⟩
  ·rintro⟨T,h1,h2,_⟩
   rw[List.eq_nil_of_length_eq_zero h2,List.append_nil] at h1; exact h1
 | d+1,pre,fr=>by
  show D∈zrt (fun x=>zru n d (pre++[(x:Int)]) (x+1)) (n - fr) fr↔_
  rw[zuK]
  constructor
  ·rintro⟨x,h1,h2,h3⟩
   obtain⟨T,h4,h5,h6⟩:=zyy.1 h3;refine⟨(x:Int)::T,by rw[h4]; simp,by simp[h5],Inc.cons.2 ⟨by omega,?_⟩⟩;rw[show((x:Int)+1).toNat=x+1 by omega]; exact h6
  ·rintro⟨T,h1,h2,h3⟩
   cases T with
   | nil=>simp at h2
   | cons v T=>
    obtain⟨h4,h5⟩:=Inc.cons.1 h3;refine⟨v.toNat,by omega,by omega,zyy.2 ⟨T,?_,by simpa using h2,?_⟩⟩
    ·rw[show((v.toNat:Nat):Int)=v by omega,h1]; simp
    ·rw[show v.toNat+1=(v+1).toNat by omega]; exact h5
theorem zyz{n:Nat}:∀{T:List Int} {fr:Nat},Inc n fr T->T.length<=n - fr
 | [],_,_=>Nat.zero_le _
 | v::T,fr,h=>by
  obtain⟨h1,h2⟩:=Inc.cons.1 h;have:=zyz h2
  simp only[List.length_cons]
  omega
theorem zyA{n:Nat}{D:List Int}:D∈zoh n↔Inc n 0 D:=by
 unfold zoh;rw[zuK]
 constructor
 ·rintro⟨s,_,_,h⟩
  obtain⟨T,h1,_,h2⟩:=zyy.1 h;rw[h1]; exact h2
 ·intro h;have:=zyz h;exact⟨D.length,Nat.zero_le _,by omega,zyy.2 ⟨D,rfl,rfl,h⟩⟩
def bef:List Int->List Int->Bool
 | [],[]=>false
 | [],_::_=>true
 | _::_,[]=>false
 | x::a,y::b=>if x=y then bef a b else decide (x < y)
def shB(a b:List Int):Bool:=decide (a.length < b.length) || (decide (a.length=b.length) && bef a b)
theorem zyB:∀A:List Int,bef A A=false
 | []=>rfl
 | x::A=>by show(if x=x then bef A A else _)=_; rw[if_pos rfl,zyB A]
theorem zyC:∀A B:List Int,A=B\/bef A B=true\/bef B A=true
 | [],[]=>.inl rfl
 | [],_::_=>.inr (.inl rfl)
 | _::_,[]=>.inr (.inr rfl)
 | x::A,y::B=>by
  show x::A=y::B\/(if x=y then bef A B else decide (x < y))=true\/(if y=x then bef B A else decide (y < x))=true
  by_cases hxy:x=y
  ·subst hxy;rw[if_pos rfl,if_pos rfl]
   rcases zyC A B with h | h | h
   ·exact .inl (by rw[h])
   ·exact .inr (.inl h)
   ·exact .inr (.inr h)
  ·rw[if_neg hxy,if_neg fun h=>hxy h.symm]
   by_cases h:x < y
   ·exact .inr (.inl (decide_eq_true h))
   ·exact .inr (.inr (decide_eq_true (by omega)))
theorem zyD{l:List Int}(h:l ≠ [])(hl:l.length<=1048577):ztM l=some (zrR l):=by
 unfold ztM
 cases l with
 | nil=>exact absurd rfl h
 | cons x l=>
  rw[if_neg (by rw[List.length_cons]; omega),zrH rfl,obs];refine(zrQ (l:=x::l) (fun s a=>min s a) (fun d s k=>ztL (x::l) d s k) (fun s=>some s) (fun d k s a hk=>?_) (fun d s=>?_) _ 0 x (Nat.zero_le _) (by omega)).trans ?_
  ·have hkl:=(List.getElem?_eq_some_iff.1 hk).1
   show ztL (x::l) (d+1) s (k:Int)=_
   rw[ztL,if_pos (by omega),zrF hk,obs]
   by_cases hc:a < s
   ·rw[if_pos hc,zqr (fI (by omega)),Int.min_eq_right (by omega)]
   ·rw[if_neg hc,zqr (fI (by omega)),Int.min_eq_left (by omega)]
  ·show ztL (x::l) (d+1) s _=_
   rw[ztL,if_neg (Int.lt_irrefl _)]
  ·rw[List.drop_zero]
   show some (l.foldl min (min x x))=_
   rw[Int.min_self]; rfl
theorem zyE{l:List Int}(h:l ≠ [])(hl:l.length<=1048577):ztO l=some (zrS l):=by
 unfold ztO
 cases l with
 | nil=>exact absurd rfl h
 | cons x l=>
  rw[if_neg (by rw[List.length_cons]; omega),zrH rfl,obs];refine(zrQ (l:=x::l) (fun s a=>max s a) (fun d s k=>ztN (x::l) d s k) (fun s=>some s) (fun d k s a hk=>?_) (fun d s=>?_) _ 1 x (by rw[List.length_cons]; omega) (by rw[List.length_cons]; omega)).trans ?_
  ·have hkl:=(List.getElem?_eq_some_iff.1 hk).1
   show ztN (x::l) (d+1) s (k:Int)=_
   rw[ztN,if_pos (by omega),zrF hk,obs,zqr (fI (by omega))]
  ·show ztN (x::l) (d+1) s _=_
   rw[ztN,if_neg (Int.lt_irrefl _)]
  ·rfl
theorem zyF{l:List Int}(h:l ≠ []):zrR l∈l/\∀y∈l,zrR l<=y:=by
 cases l with
 | nil=>exact absurd rfl h
 | cons x l=>
  obtain⟨h1,h2,h3⟩:=zrT l x;refine⟨?_,fun y hy=>?_⟩
  ·rcases h1 with h1 | h1
   ·show l.foldl min x∈_; rw[h1]; exact List.mem_cons_self ..
   ·exact List.mem_cons_of_mem _ h1
  ·rcases List.mem_cons.1 hy with rfl | hy
   ·exact h2
   ·exact h3 y hy
theorem zyG{l:List Int}(h:l ≠ []):zrS l∈l/\∀y∈l,y<=zrS l:=by
 cases l with
 | nil=>exact absurd rfl h
 | cons x l=>
  obtain⟨h1,h2,h3⟩:=zrU l x;refine⟨?_,fun y hy=>?_⟩
  ·rcases h1 with h1 | h1
   ·show l.foldl max x∈_; rw[h1]; exact List.mem_cons_self ..
   ·exact List.mem_cons_of_mem _ h1
  ·rcases List.mem_cons.1 hy with rfl | hy
   ·exact h2
   ·exact h3 y hy
def bnd(s:Soc)(g:Int->Int):Rg:={ Lo:=zrR ((zyp (loN s) (hiN s)).map g),Hi:=zrS ((zyp (loN s) (hiN s)).map g) }
def zyH(s:Soc)(out:List Int)(N:Int):Oc:={ need:=N,calls:=mk5 (zxN s.Members (zyc s.Members.length out) N).1 }
theorem zyI{s:Soc}(hs:zxY s):(zyp (loN s) (hiN s)).length<=121:=by
 have:=zyt hs;unfold zyp; rw[List.length_map,List.length_range]; omega
theorem zyJ{s:Soc}(hs:zxY s):zyp (loN s) (hiN s) ≠ []:=fun h=>by
 have:=zyt hs;have:loN s∈zyp (loN s) (hiN s):=zyq.2 (by omega)
 rw[h] at this; cases this
theorem zyK{s:Soc}(hs:zxY s)(g:Int->Int):(∃N,(loN s<=N/\N<=hiN s)/\g N=(bnd s g).Lo)/\(∃N,(loN s<=N/\N<=hiN s)/\g N=(bnd s g).Hi)/\∀N,loN s<=N/\N<=hiN s->(bnd s g).Lo<=g N/\g N<=(bnd s g).Hi:=by
 have hne:(zyp (loN s) (hiN s)).map g ≠ []:=fun h=>zyJ hs (List.map_eq_nil_iff.1 h);obtain⟨a1,a2⟩:=zyF hne;obtain⟨b1,b2⟩:=zyG hne;obtain⟨x,hx,ex⟩:=List.mem_map.1 a1;obtain⟨y,hy,ey⟩:=List.mem_map.1 b1;exact⟨⟨x,zyq.1 hx,ex⟩,⟨y,zyq.1 hy,ey⟩,fun N hN=>⟨a2 _ (List.mem_map.2 ⟨N,zyq.2 hN,rfl⟩),b2 _ (List.mem_map.2 ⟨N,zyq.2 hN,rfl⟩)⟩⟩
theorem zyL{s:Soc}(hs:zxY s):bnd s (fun N=>N)={ Lo:=loN s,Hi:=hiN s }:=by
 obtain⟨⟨x,hx,ex⟩,⟨y,hy,ey⟩,h⟩:=zyK hs fun N=>N;have hb:=zyt hs;have h1:=(h (loN s) ⟨Int.le_refl _,hb.2.1⟩).1;have h2:=(h (hiN s) ⟨hb.2.1,Int.le_refl _⟩).2
 have e1:(bnd s fun N=>N).Lo=loN s:=by omega
 have e2:(bnd s fun N=>N).Hi=hiN s:=by omega
 revert e1 e2
 generalize bnd s (fun N=>N)=r;intro e1 e2
 cases r
 exact congr (congrArg Rg.mk e1) e2
theorem zyM{s:Soc}(hs:zxY s)(out:List Int){N:Int}(hN:0<=N/\N<=1000000):ztI (zyd s out) N=some (zyH s out N):=zxP (w:=zyd s out) hs.msOk rfl (zye s.Members out) hN
theorem zyN{s:Soc}(hs:zxY s){out:List Int}{q:Qu}{g:Int->Int}(hg:∀N,loN s<=N->N<=hiN s->q.ask (zyH s out N)=some (g N)) :
  ∀(L:List Int) (acc:List Int),(∀N∈L,loN s<=N/\N<=hiN s)->acc.length+L.length<=1000->acc++L.map g ≠ []->ztP (zyd s out) q L acc=some { Lo:=zrR (acc++L.map g),Hi:=zrS (acc++L.map g) }
 | [],acc,_,hl,hne=>by
  rw[List.map_nil,List.append_nil] at hne ⊢;rw[ztP,zyD hne (by omega),obs,zyE hne (by omega),obs]
 | N::L,acc,hN,hl,hne=>by
  have h1:=hN N (List.mem_cons_self ..);have hb:=zyt hs;rw[List.length_cons] at hl;rw[ztP,zyM hs out (by omega),obs,hg N h1.1 h1.2,obs,zqr (by omega),zyN hs hg L (acc++[g N]) (fun x hx=>hN x (List.mem_cons_of_mem _ hx)) (by rw[List.length_append]; show acc.length+1+_<=_; omega) (by simp)];rw[List.map_cons,List.append_assoc]; rfl
theorem zyO{s:Soc}(hs:zxY s){out:List Int}{q:Qu}{g:Int->Int}(hg:∀N,loN s<=N->N<=hiN s->q.ask (zyH s out N)=some (g N)):ztQ (zyd s out) q=some (bnd s g):=by
 unfold ztQ;rw[show(zyd s out).s=s from rfl,zyx hs,obs];have hl:=zyI hs;exact zyN hs hg _ [] (fun N hN=>zyq.1 hN) (by show 0+_<=_; omega) (fun h=>zyJ hs (List.map_eq_nil_iff.1 h))
theorem zyP{s:Soc}(hs:zxY s):ztY s=some ({ Lo:=loN s,Hi:=hiN s },0):=by
 unfold ztY;rw[zym hs (Nat.zero_le _) (zyo _),obs,if_pos rfl,zyO hs (g:=fun N=>N) (fun N _ _=>rfl),obs,zyL hs]
theorem zyQ{s:Soc}(hs:zxY s)(out:List Int){N:Int}(hN:0<=N/\N<=1000000):ztx (zyH s out N)=some (zxN s.Members (zyc s.Members.length out) N).2:=by
 have hsup:=zye s.Members out;have h1:=zxT hs.msOk hsup hN
 have hb:Bd 1000000000000 (zxN s.Members (zyc s.Members.length out) N).1:=fun i hi=>by have:=zxW hs.msOk hsup hN hi; omega
 have hb5:=fun i hi=>zxW hs.msOk hsup hN (i:=i) hi;have b0:=hb5 0 (by omega); have b1:=hb5 1 (by omega); have b2:=hb5 2 (by omega); have b3:=hb5 3 (by omega); have b4:=hb5 4 (by omega)
 have hS:0<=S5 (zxN s.Members (zyc s.Members.length out) N).1/\S5 (zxN s.Members (zyc s.Members.length out) N).1<=500000:=by unfold S5; omega
 unfold ztx
 show(ztm (mk5 (zxN s.Members (zyc s.Members.length out) N).1)).bind _=_
 rw[zwE hb,obs,zqr (fI (by show -9223372036854775808<=N - S5 _/\N - S5 _ < _; omega))];exact congrArg some (show N - S5 (zxN s.Members (zyc s.Members.length out) N).1=_ by omega)
def zyR(s:Soc)(out:List Int)(N:Int):List Int:=(l5 (zxN s.Members (zyc s.Members.length out) N).1).take s.Members.length
theorem zyS{s:Soc}(out:List Int)(N:Int)(h5:s.Members.length<=5):(zyR s out N).length=s.Members.length:=by
 unfold zyR; rw[List.length_take]; show min _ 5=_; omega
theorem zyT{s:Soc}(hs:zxY s){N:Int}(hN:0<=N/\N<=300000):zt0 s N=some (zyR s [] N,(zxN s.Members (zyc s.Members.length []) N).2,0):=by
 have h5:=hs.m5;unfold zt0;rw[zym hs (Nat.zero_le _) (zyo _),obs,if_pos rfl,zx1.some_of hN,obs,if_pos rfl]
 show(ztI (zyd s []) N).bind _=_
 rw[zyM hs [] (by omega),obs,zqr (by omega)]
 have e:ztZ ((([(zyH s [] N).calls.p0,(zyH s [] N).calls.p1,(zyH s [] N).calls.p2,(zyH s [] N).calls.p3,(zyH s [] N).calls.p4]:List Int).take (Int.toNat (s.Members.length:Int))).drop (Int.toNat (0:Int)))=some (zyR s [] N):=by
  have hl:=zyS [] N h5
  show ztZ (zyR s [] N)=_
  unfold ztZ;rw[zqr (by rw[hl]; show 0+_<=_; omega)]; rfl
 rw[e,obs,zyQ hs [] (by omega),obs]
theorem zyU{s:Soc}(hs:zxY s)(out:List Int)(N:Int){k:Nat}(hk:k < s.Members.length):ztJ (zyH s out N) (k:Int)=some ((zxN s.Members (zyc s.Members.length out) N).1 k):=by
 have h5:=hs.m5;unfold ztJ
 show(idx (l5 (zxN s.Members (zyc s.Members.length out) N).1) (k:Int)).bind _=_
 rw[zwx (by omega),obs]
def zyV(s:Soc)(out:List Int):List Rg:=(List.range s.Members.length).map fun k=>bnd s fun N=>(zxN s.Members (zyc s.Members.length out) N).1 k
theorem zyW{s:Soc}(out:List Int):(zyV s out).length=s.Members.length:=by unfold zyV; rw[List.length_map,List.length_range]
theorem zyX{s:Soc}(out:List Int){k:Nat}(hk:k < s.Members.length):(zyV s out)[k]? = some (bnd s fun N=>(zxN s.Members (zyc s.Members.length out) N).1 k):=by
 unfold zyV; rw[List.getElem?_map,List.getElem?_range hk]; rfl
theorem zyY{s:Soc}(hs:zxY s){out:List Int}(hl:zrP out)(ho:zyi s.Members.length out):zt2 s out=some (zyV s out,0):=by
 have h5:=hs.m5;unfold zt2;rw[zym hs hl ho,obs,if_pos rfl];refine zwv (n:=s.Members.length) (fun d acc x=>zt1 s (zyd s out,0) d acc x) (fun k=>(zyV s out).take k) (fun d k hk=>?_) (fun d=>?_) (s.Members.length+1) 0 (by omega) (by omega)
 ·show zt1 s (zyd s out,0) (d+1) _ _=_
  have hb:ztK (k:Int)=some (fun o=>ztJ o (k:Int)):=rfl;rw[zt1,if_pos (by omega),hb,obs]
  show(ztQ (zyd s out) _).bind _=_
  rw[zyO hs (g:=fun N=>(zxN s.Members (zyc s.Members.length out) N).1 k) (fun N _ _=>zyU hs out N hk),obs,zqr (by rw[List.length_take]; omega),zqr (fI (by omega))];rw[List.take_add_one,zyX out hk]; rfl
 ·show zt1 s (zyd s out,0) (d+1) _ _=_
  rw[zt1,if_neg (Int.lt_irrefl _),List.take_of_length_le (by rw[zyW]; exact Nat.le_refl _)]
theorem zyZ{s:Soc}(hs:zxY s):zt3 s=some (zyV s [],0):=by
 unfold zt3;rw[zyY hs (Nat.zero_le _) (zyo _),obs]
def zy0(s:Soc)(out:List Int)(N:Int):Int:=(zxN s.Members (zyc s.Members.length out) N).2
theorem zy1{s:Soc}(hs:zxY s):zt4 s=some (bnd s (zy0 s []),0):=by
 have hb:=zyt hs;unfold zt4;rw[zym hs (Nat.zero_le _) (zyo _),obs,if_pos rfl,zyO hs (g:=zy0 s []) (fun N h1 h2=>zyQ hs [] (by omega)),obs]
theorem zy2{s:Soc}(hs:zxY s)(out:List Int):ztR (zyd s out)=some (hiN s):=by
 unfold ztR;rw[zyO hs (g:=fun N=>N) (fun N _ _=>rfl),obs,zyL hs]
theorem zy3(a:Mb){r t:Int}(hu:0<=unN a)(h:r<=t):min (unN a * r / 100) a.Most<=min (unN a * t / 100) a.Most:=by
 have h1:unN a * r<=unN a * t:=Int.mul_le_mul_of_nonneg_left h hu;have h2:=Int.ediv_le_ediv (c:=100) (by omega) h1
 omega
def brN(ms:List Mb)(rate:Int):Int:=zwM (ms.map fun a=>min (unN a * rate / 100) a.Most)
theorem zy4{ms:List Mb}(hm:∀a∈ms,zxt a){r:Int}(hr:0<=r/\r<=10000):0<=brN ms r/\brN ms r<=100000 * ms.length:=by
 induction ms with
 | nil=>exact⟨Int.le_refl _,Int.le_refl _⟩
 | cons a ms ih=>
  have ih:=ih fun a ha=>hm a (List.mem_cons_of_mem _ ha);have ha:=hm a (List.mem_cons_self ..);have hu:=zxv ha;have hmo:=ha.most;have h1:0<=unN a * r / 100:=Int.ediv_nonneg (Int.mul_nonneg (by omega) hr.1) (by omega);have e:brN (a::ms) r=min (unN a * r / 100) a.Most+brN ms r:=rfl;rw[e,List.length_cons]; omega
theorem zy5{ms:List Mb}(hm:∀a∈ms,zxt a){r t:Int}(h:r<=t):brN ms r<=brN ms t:=by
 induction ms with
 | nil=>exact Int.le_refl _
 | cons a ms ih=>
  have ih:=ih fun a ha=>hm a (List.mem_cons_of_mem _ ha);have h2:=zy3 a (by have:=zxv (hm a (List.mem_cons_self ..)); omega) h
  show min _ _+brN ms r<=min _ _+brN ms t
  omega
theorem zy6{ms:List Mb}{r:Int}{k:Nat}{a:Mb}(h:ms[k]? = some a):brN (ms.take (k+1)) r=brN (ms.take k) r+min (unN a * r / 100) a.Most:=by
 unfold brN;rw[List.take_add_one,h,List.map_append,zwN]
 show _+(min (unN a * r / 100) a.Most+0)=_
 rw[Int.add_zero]
theorem zy7{s:Soc}(hs:zxY s)(out:List Int){r:Int}(hr:0<=r/\r<=10000):ztT (zyd s out) r=some (brN s.Members r):=by
 have h5:=hs.m5;unfold ztT;refine zwv (n:=s.Members.length) (fun d acc x=>ztS (zyd s out) r d acc x) (fun k=>brN (s.Members.take k) r) (fun d k hk=>?_) (fun d=>?_) (s.Members.length+1) 0 (by omega) (by omega)
 ·have hg:=List.getElem?_eq_getElem hk;have ha:=hs.full.ms _ (List.getElem_mem hk);have hu:=zxv ha;have hmo:=ha.most;have hb:=zy4 (ms:=s.Members.take k) (fun a ha=>hs.full.ms a (List.mem_of_mem_take ha)) hr
  have hlk:(s.Members.take k).length<=5:=by rw[List.length_take]; omega
  have hm:=zw5 (a:=unN s.Members[k]) (x:=r) (A:=10000) (X:=10000) (by omega) hr;have hq:0<=unN s.Members[k] * r / 100:=Int.ediv_nonneg hm.1 (by omega)
  have hun:ztz s.Members[k]=some (unN s.Members[k]):=by
   have h1:=ha.sum; have h2:=ha.cls;unfold unN at hu;unfold ztz unN;rw[zqr (by omega),zqr (by omega),zqr (fI (by omega))]
  show ztS (zyd s out) r (d+1) _ _=_
  rw[ztS,if_pos (show(k:Int) < ((zyd s out).s.Members.length:Int) by show(k:Int) < (s.Members.length:Int); omega),show idx (zyd s out).s.Members (k:Int)=some s.Members[k] from zrF hg,obs,hun,obs,zqr (by omega),zqr hr.1,zqr (fI (by omega)),zqr hm.1,zqr (by omega),zqr (fI (by omega)),zqr (fI (by omega)),zqr (fI (by omega)),zy6 hg]
 ·show ztS (zyd s out) r (d+1) _ _=_
  rw[ztS,if_neg (show ¬ ((s.Members.length:Nat):Int) < ((zyd s out).s.Members.length:Int) from Int.lt_irrefl _),List.take_length]
def zy8(s:Soc)(r:Int):Bool:=decide (hiN s<=brN s.Members r)
theorem zy9{s:Soc}(hs:zxY s){r:Int}(hr:0<=r/\r<=10000):ztU (zyd s []) r=some (zy8 s r):=by
 unfold ztU;rw[zy7 hs [] hr,obs,zy2 hs,obs]; rfl
theorem zza{p:Int->Option Bool}{f:Nat->Bool}{n:Nat}(hn:n<=1000000)(hp:∀m,m < n->p (m:Int)=some (f m))(hm:∀m k,m<=k->k < n->f m=true->f k=true):∀d (i j:Nat),i<=j->j<=n->j - i < d->(∀m,m < i->f m=false)->(∀m,j<=m->m < n->f m=true) ->
  ∃k:Nat,ztW p d (i:Int) (j:Int)=some (k:Int)/\k<=n/\(∀m,m < k->f m=false)/\(∀m,k<=m->m < n->f m=true)
 | 0,_,_,_,_,h,_,_=>by omega
 | d+1,i,j,hij,hj,h,hlo,hhi=>by
  rw[ztW]
  by_cases hc:i < j
  ·obtain⟨md,hmd⟩:∃md:Nat,md=(i+j) / 2:=⟨_,rfl⟩
   have hf:zl6 .u64 ((i:Int)+j):=show _/\_ by constructor <;> omega
   have e:zmb .i64 (zmb .u64 ((i:Int)+j) / 2)=(md:Int):=by
    rw[wz hf,wz (fI (by omega))]; omega
   rw[if_pos (by omega),zqr (fI (by omega)),zqr (by rw[wz hf]; omega),zqr (by omega),zqr (by omega),zqr (by rw[wz hf]; exact show _/\_ by constructor <;> omega),e,hp md (by omega),obs]
   cases hq:f md with
   | true=>
    rw[if_pos rfl];exact zza hn hp hm d i md (by omega) (by omega) (by omega) hlo fun m h1 h2=>hm md m h1 h2 hq
   | false=>
    rw[if_neg (by decide),zqr (fI (by omega)),show(md:Int)+1=((md+1:Nat):Int) by omega]
    exact zza hn hp hm d (md+1) j (by omega) hj (by omega) (fun m h1=>by
     cases hq2:f m with
     | false=>rfl
     | true=>have:=hm m md (by omega) (by omega) hq2; rw[hq] at this; cases this) hhi
  ·rw[if_neg (by omega)];exact⟨i,rfl,by omega,hlo,fun m h1 h2=>hhi m (by omega) h2⟩
theorem zzb{s:Soc}(hs:zxY s):∃k:Nat,ztX 10001 (fun r=>ztU (zyd s []) r)=some (k:Int)/\k<=10001/\(∀m:Nat,m < k->zy8 s m=false)/\(∀m:Nat,k<=m->m < 10001->zy8 s m=true):=by
 unfold ztX
 exact zza (n:=10001) (f:=fun m=>zy8 s (m:Int)) (by omega) (fun m hm=>zy9 hs (by omega)) (fun m k h1 h2 h3=>by
  have h4:hiN s<=brN s.Members (m:Int):=of_decide_eq_true h3;have h5:=zy5 hs.full.ms (r:=(m:Int)) (t:=(k:Int)) (by omega)
  exact decide_eq_true (by omega)) _ 0 10001 (by omega) (by omega) (by omega) (fun m h=>by omega) (fun m h1 h2=>by omega)
theorem zzc{s:Soc}(hs:zxY s):(∃k:Nat,zt5 s=some ((k:Int),0)/\k<=10000/\hiN s<=brN s.Members (k:Int)/\∀m:Nat,m < k->brN s.Members (m:Int) < hiN s)\/(zt5 s=some (0,10)/\∀m:Nat,m<=10000->brN s.Members (m:Int) < hiN s):=by
 obtain⟨k,h1,h2,h3,h4⟩:=zzb hs
 have lt:∀m:Nat,zy8 s (m:Int)=false->brN s.Members (m:Int) < hiN s:=fun m h=>by
  have:=of_decide_eq_false h; omega
 unfold zt5;rw[zym hs (Nat.zero_le _) (zyo _),obs,if_pos rfl]
 show(∃k':Nat,(ztX 10001 (fun r=>ztU (zyd s []) r)).bind _=_/\_)\/((ztX 10001 (fun r=>ztU (zyd s []) r)).bind _=_/\_)
 rw[h1,obs]
 by_cases hk:k<=10000
 ·rw[if_neg (by omega)];exact .inl ⟨k,rfl,hk,of_decide_eq_true (h4 k (Nat.le_refl _) (by omega)),fun m hm=>lt m (h3 m hm)⟩
 ·rw[if_pos (by omega)];exact .inr ⟨rfl,fun m hm=>lt m (h3 m (by omega))⟩
def zzd(s:Soc)(l:List Int):Bool:=decide (0 < (bnd s (zy0 s l)).Hi)
theorem zze{s:Soc}(hs:zxY s){l:List Int}(hl:zrP l):ztV s l=some (zzd s l):=by
 have hb:=zyt hs;unfold ztV;rw[zyh hl hs.m5,obs,zyO hs (g:=zy0 s l) (fun N h1 h2=>zyQ hs l (by omega)),obs]; rfl
theorem zzf{s:Soc}(hs:zxY s)(h:hiN s ≠ 0):zt6 s=some (zrv s.Members.length (zzd s),0):=by
 have h5:=hs.m5
 have hlen:∀L∈zoh s.Members.length,zrP L:=fun L hL=>by have:=zyz (zyA.1 hL); unfold zrP; omega
 unfold zt6;rw[zym hs (Nat.zero_le _) (zyo _),obs,if_pos rfl,zy2 hs,obs,if_neg h];unfold zrw;rw[zqr ⟨by omega,by omega,fun L hL=>by show(ztV s L).isSome=true; rw[zze hs (hlen L hL)]; rfl⟩,obs];refine congrArg (fun x=>some (x,(0:Int))) ?_
 have e:(zoh s.Members.length).find? (fun L=>((ztV s L)).getD false)=(zoh s.Members.length).find? (zzd s):=by
  have:∀l:List (List Int),(∀L∈l,zrP L)->l.find? (fun L=>((ztV s L)).getD false)=l.find? (zzd s):=by
   intro l
   induction l with
   | nil=>intro _; rfl
   | cons L l ih=>
    intro hl
    have h1:(ztV s L).getD false=zzd s L:=by rw[zze hs (hl L (List.mem_cons_self ..))]; rfl
    rw[List.find?_cons,List.find?_cons,h1,ih fun L hL=>hl L (List.mem_cons_of_mem _ hL)]
  exact this _ hlen
 show zrv s.Members.length (fun L=>((ztV s L)).getD false)=_
 unfold zrv;rw[e]
theorem zzg{a b:List Int}(hl:a.length<=1000):∀(d k:Nat),k<=a.length->a.length - k < d->zsC a b d (k:Int)=some (bef (a.drop k) (b.drop k))
 | 0,_,_,h=>by omega
 | d+1,k,hk,h=>by
  rw[zsC]
  by_cases hka:k < a.length
  ·rw[if_pos (by omega)];have da:=List.drop_eq_getElem_cons hka;have ga:=List.getElem?_eq_getElem hka
   by_cases hkb:k < b.length
   ·have db:=List.drop_eq_getElem_cons hkb;have gb:=List.getElem?_eq_getElem hkb;rw[if_pos (by omega),zrF ga,obs,zrF gb,obs,da,db];unfold bef
    by_cases he:a[k]=b[k]
    ·rw[if_pos he,if_pos he,zqr (fI (by omega)),show(k:Int)+1=((k+1:Nat):Int) by omega];exact zzg hl d (k+1) (by omega) (by omega)
    ·rw[if_neg he,if_neg he,obs,obs]
   ·rw[if_neg (by omega),da,List.drop_eq_nil_of_le (show b.length<=k by omega),decide_eq_false (by omega)]; rfl
  ·rw[if_neg (by omega),List.drop_eq_nil_of_le (show a.length<=k by omega)]
   by_cases hkb:k < b.length
   ·rw[List.drop_eq_getElem_cons hkb,decide_eq_true (by omega)]; rfl
   ·rw[List.drop_eq_nil_of_le (show b.length<=k by omega),decide_eq_false (by omega)]; rfl
theorem zzh{a b:List Int}(hl:a.length<=1000):zsD a b=some (bef a b):=zzg hl (a.length+1) 0 (Nat.zero_le _) (by omega)
theorem zzi{a b:List Int}(hl:a.length<=1000):zsE a b=some (shB a b):=by
 unfold zsE shB
 by_cases h1:a.length < b.length
 ·rw[if_pos (by omega),decide_eq_true h1]; rfl
 ·rw[if_neg (by omega),decide_eq_false h1]
  by_cases h2:a.length=b.length
  ·rw[if_pos (by omega),zzh hl,decide_eq_true h2]; simp
  ·rw[if_neg (by omega),decide_eq_false h2]; simp
theorem zzj{a b:List Int}(hl:a.length=b.length):(bef a b=false/\bef b a=false)↔a=b:=by
 constructor
 ·rintro⟨h1,h2⟩
  rcases zyC a b with h | h | h
  ·exact h
  ·rw[h1] at h; cases h
  ·rw[h2] at h; cases h
 ·rintro rfl; exact⟨zyB _,zyB _⟩
theorem zzk{a b:List Int}(ha:a.length<=1000)(hb:b.length<=1000):zsF a b=some (decide (a=b)):=by
 unfold zsF
 by_cases hl:a.length=b.length
 ·rw[if_pos (by omega),zzh ha,obs];have h:=zzj hl
  cases h1:bef a b with
  | true=>rw[if_pos rfl,decide_eq_false fun he=>by have:=(h.2 he).1; rw[h1] at this; cases this]
  | false=>
   rw[if_neg (by decide),zzh hb,obs]
   cases h2:bef b a with
   | true=>rw[decide_eq_false fun he=>by have:=(h.2 he).2; rw[h2] at this; cases this]; rfl
   | false=>rw[decide_eq_true (h.1 ⟨h1,h2⟩)]; rfl
 ·rw[if_neg (by omega),decide_eq_false fun he=>hl (by rw[he])]
theorem zzl{l:List Int}(h:l.length<=1000):zt7 l=some l:=by
 unfold zt7;rw[zqr (show([]:List Int).length+l.length<=1048576 by show 0+_<=_; omega)]; rfl
theorem zzm{t:Tr}(h:t.Losses.length<=1000):zuc t=some t:=by
 unfold zuc; rw[zzl h]; rfl
def zzn(s:Soc):Prop:=s.Members.length<=8/\s.Losses.length<=6
theorem zzo{s:Soc}:Ev (zud s) (zzn s):=by
 unfold zud zzn
 by_cases h:(s.Members.length:Int)<=8
 ·rw[if_pos h]; exact Ev.dec (by omega)
 ·rw[if_neg h]; exact Ev.ff (by omega)
theorem zzp{s:Soc}(h:zzn s):zub s=some s:=by
 unfold zub
 show zua s 1000000 [] [] s.Treaty.Lo s.Treaty.Hi s.Reserve 0=_
 obtain⟨h1,h2⟩:=h
 have k1:zt9 s s.Members 1000000 [] s.Treaty.Lo s.Treaty.Hi s.Reserve 0=some s:=by
  refine(zrL (l:=s.Losses) (fun r=>r) (F:=fun d acc x=>zt9 s s.Members d acc s.Treaty.Lo s.Treaty.Hi s.Reserve x) (fun acc=>some ({ Members:=s.Members,Losses:=acc,Treaty:=s.Treaty,Reserve:=s.Reserve }:Soc)) (fun d k acc a hk ha=>?_) (fun d acc=>?_) (d:=1000000) (by omega)).trans (by rw[List.map_id'])
  ·have hkl:=(List.getElem?_eq_some_iff.1 hk).1
   show zt9 s s.Members (d+1) _ _ _ _ _=_
   rw[zt9,if_pos (by omega),zrF hk,obs]
   show(some a).bind _=_
   rw[obs,zqr (by omega),zqr (fI (by omega))]
  ·show zt9 s s.Members (d+1) _ _ _ _ _=_
   rw[zt9,if_neg (Int.lt_irrefl _)]
 refine(zrL (l:=s.Members) (fun r=>r) (F:=fun d acc x=>zua s d acc [] s.Treaty.Lo s.Treaty.Hi s.Reserve x) (fun acc=>zt9 s acc 1000000 [] s.Treaty.Lo s.Treaty.Hi s.Reserve 0) (fun d k acc a hk ha=>?_) (fun d acc=>?_) (d:=1000000) (by omega)).trans (by rw[List.map_id']; exact k1)
 ·have hkl:=(List.getElem?_eq_some_iff.1 hk).1
  show zua s (d+1) _ _ _ _ _ _=_
  rw[zua,if_pos (by omega),zrF hk,obs,zqr (by omega),zqr (fI (by omega))]
 ·show zua s (d+1) _ _ _ _ _ _=_
  rw[zua,if_neg (Int.lt_irrefl _)]
def zzq(most:Int):Soc:={ Members:=[{ Sum:=100,Class:=2,Most:=most },{ Sum:=100,Class:=1,Most:=60 },{ Sum:=50,Class:=2,Most:=most }],Losses:=[{ Lo:=200,Hi:=210 },{ Lo:=90,Hi:=90 }],Treaty:={ Lo:=20,Hi:=25 },Reserve:=30 }
theorem zzr(most:Int):zug most=some (zzq most):=rfl
theorem zzs{most:Int}(h:0<=most/\most<=100000):zxY (zzq most):=by
 refine⟨Nat.le_of_ble_eq_true rfl,Nat.le_of_ble_eq_true rfl,Nat.le_of_ble_eq_true rfl,fun a ha=>?_,fun r hr=>?_,by show RgV ⟨20,25⟩; decide,by show(0:Int)<=30/\(30:Int)<=_; omega⟩
 ·rcases List.mem_cons.1 ha with rfl | ha
  ·exact⟨by show(1:Int)<=100/\(100:Int)<=1000; omega,by show(1:Int)<=2/\(2:Int)<=10; omega,h⟩
  rcases List.mem_cons.1 ha with rfl | ha
  ·exact⟨by decide,by decide,by decide⟩
  rcases List.mem_cons.1 ha with rfl | ha
  ·exact⟨by show(1:Int)<=50/\(50:Int)<=1000; omega,by show(1:Int)<=2/\(2:Int)<=10; omega,h⟩
  ·cases ha
 ·rcases List.mem_cons.1 hr with rfl | hr
  ·decide
  rcases List.mem_cons.1 hr with rfl | hr
  ·decide
  ·cases hr
theorem f64{n:Int}(h:-1000000<=n/\n<=1000000):zl6 .i64 n:=fI (by omega)
theorem zzt:zuh=some true:=by
 have h5:zxY (zzq 500):=zzs (by omega);have h1:zxY (zzq 150):=zzs (by omega)
 have n5:ztY (zzq 500)=some ({ Lo:=235,Hi:=250 },0):=by
  rw[zyP h5]
  have e1:loN (zzq 500)=235:=by decide +kernel
  have e2:hiN (zzq 500)=250:=by decide +kernel
  rw[e1,e2]
 have c5:zt0 (zzq 500) 250=some ([127,60,63],0,0):=by
  rw[zyT h5 (by omega)]
  have e1:zyR (zzq 500) [] 250=[127,60,63]:=by decide +kernel
  have e2:(zxN (zzq 500).Members (zyc (zzq 500).Members.length []) 250).2=0:=by decide +kernel
  rw[e1,e2]
 have b5:zt3 (zzq 500)=some (zyV (zzq 500) [],0):=zyZ h5
 have eb:zyV (zzq 500) []=[{ Lo:=117,Hi:=127 },{ Lo:=59,Hi:=60 },{ Lo:=59,Hi:=63 }]:=by
  have e1:(zyV (zzq 500) []).map (·.Lo)=[117,59,59]:=by decide +kernel
  have e2:(zyV (zzq 500) []).map (·.Hi)=[127,60,63]:=by decide +kernel
  have e3:(zyV (zzq 500) []).length=3:=zyW []
  revert e1 e2 e3
  generalize zyV (zzq 500) []=l;intro e1 e2 e3
  match l,e3 with
  | [⟨a1,a2⟩,⟨b1,b2⟩,⟨c1,c2⟩],_=>
   simp only[List.map_cons,List.map_nil,List.cons.injEq,and_true] at e1 e2
   obtain⟨rfl,rfl,rfl⟩:=e1;obtain⟨rfl,rfl,rfl⟩:=e2
   rfl
 have r5:zt5 (zzq 500)=some (64,0):=by
  have m63:brN (zzq 500).Members 63 < 250:=by decide +kernel
  have m64:250<=brN (zzq 500).Members 64:=by decide +kernel
  have e2:hiN (zzq 500)=250:=by decide +kernel
  rcases zzc h5 with ⟨k,q1,q2,q3,q4⟩ | ⟨q1,q2⟩
  ·rw[e2] at q3 q4
   have hk:k=64:=by
    apply Classical.byContradiction
    intro hne
    rcases Nat.lt_or_ge k 64 with h | h
    ·have:=zy5 h5.full.ms (r:=(k:Int)) (t:=63) (by omega); omega
    ·have:=q4 64 (by omega);have e:((64:Nat):Int)=64:=rfl;rw[e] at this; omega
   subst hk; exact q1
  ·have:=q2 64 (by omega);have e:((64:Nat):Int)=64:=rfl;rw[e2,e] at this; omega
 have x5:zt6 (zzq 500)=some ([0,2],0):=by
  rw[zzf h5 (by decide +kernel)]
  have e:zrv (zzq 500).Members.length (zzd (zzq 500))=[0,2]:=by decide +kernel
  rw[e]
 have x1:zt6 (zzq 150)=some ([0],0):=by
  rw[zzf h1 (by decide +kernel)]
  have e:zrv (zzq 150).Members.length (zzd (zzq 150))=[0]:=by decide +kernel
  rw[e]
 unfold zuh;rw[zzr,obs,n5,obs,obs,c5,obs,obs,b5,obs,obs,r5,obs,obs,x5,obs,zzr,obs,x1,obs,eb];have s1:zsF [127,60,63] [127,60,63]=some true:=zzk (by decide) (by decide);have s2:zsF [0,2] [0,2]=some true:=zzk (by decide) (by decide);have s3:zsF [0] [0]=some true:=zzk (by decide) (by decide);have f:∀n:Int,-1000000<=n/\n<=1000000->zl6 .i64 n:=fun n h=>f64 h
 simp only[zuf,obs,zqr (f 235 (by omega)),zqr (f 250 (by omega)),zqr (f 117 (by omega)),zqr (f 127 (by omega)),zqr (f 59 (by omega)),zqr (f 60 (by omega)),zqr (f 63 (by omega)),s1,s2,s3]
 simp[idx]
 rw[zqr (f 117 (by omega)),zqr (f 127 (by omega)),zqr (f 59 (by omega)),zqr (f 60 (by omega)),zqr (f 59 (by omega)),zqr (f 63 (by omega))]
theorem awk{β:Type}{f:Bool->Option β}:(zuh).bind f=f true:=by rw[zzt,obs]
structure zzu (s:Soc) (t:Tr):Prop where
 len:t.Losses.length=s.Losses.length
 at_:∀(k:Nat) (r:Rg) (x:Int),s.Losses[k]? = some r->t.Losses[k]? = some x->r.Lo<=x/\x<=r.Hi
 tr:s.Treaty.Lo<=t.Treaty/\t.Treaty<=s.Treaty.Hi
theorem zzv:∀{l:List Rg} {xs:List Int},xs.length=l.length->(∀(k:Nat) (r:Rg) (x:Int),l[k]? = some r->xs[k]? = some x->r.Lo<=x/\x<=r.Hi)->zyr (·.Lo) l<=zwM xs/\zwM xs<=zyr (·.Hi) l
 | [],[],_,_=>⟨Int.le_refl _,Int.le_refl _⟩
 | r::l,x::xs,hl,h=>by
  have ih:=zzv (l:=l) (xs:=xs) (by simpa using hl) fun k r x h1 h2=>h (k+1) r x h1 h2;have h0:=h 0 r x rfl rfl;have e1:zyr (·.Lo) (r::l)=r.Lo+zyr (·.Lo) l:=rfl;have e2:zyr (·.Hi) (r::l)=r.Hi+zyr (·.Hi) l:=rfl;have e3:zwM (x::xs)=x+zwM xs:=rfl
  omega
 | [],_::_,hl,_=>by cases hl
 | _::_,[],hl,_=>by cases hl
def zzw(s:Soc)(t:Tr):Int:=max 0 (zwM t.Losses - s.Reserve - t.Treaty)
theorem zzx{s:Soc}{t:Tr}(ht:zzu s t):loN s<=zzw s t/\zzw s t<=hiN s:=by
 have h1:=zzv ht.len ht.at_;have h2:=ht.tr;unfold loN hiN zzw
 omega
theorem zzy{s:Soc}{t:Tr}(h3:s.Losses.length<=1000):Ev (zs5 s t) (zzu s t):=by
 unfold zs5
 by_cases hl:t.Losses.length=s.Losses.length
 ·rw[if_pos (by omega)];refine(Ev.loop (n:=s.Losses.length) (F:=fun d x=>zs4 s t d x) (ok:=fun k=>∀(r:Rg) (x:Int),s.Losses[k]? = some r->t.Losses[k]? = some x->r.Lo<=x/\x<=r.Hi) (fin:=(zsG s.Treaty t.Treaty).bind fun r=>some r) (P:=s.Treaty.Lo<=t.Treaty/\t.Treaty<=s.Treaty.Hi) (fun d k hk=>?_) (fun d=>?_) (by omega) fun _=>zx1.ret).imp ?_
  ·have h1:=List.getElem?_eq_getElem hk;have h2:=List.getElem?_eq_getElem (show k < t.Losses.length by omega)
   show(_->zs4 s t (d+1) (k:Int)=_)/\_
   rw[zs4,if_pos (by omega),zrF h1,obs,zrF h2,obs];have:=Ev.step (f:=fun r=>if r=true then gd (zl6 .i64 ((k:Int)+1)) (zs4 s t d ((k:Int)+1)) else some false) (zx1 (r:=s.Losses[k]) (n:=t.Losses[k])) (by rw[if_pos rfl,zqr (fI (by omega))]) (by rw[if_neg (by decide)]);exact⟨fun h=>this.1 (h _ _ h1 h2),fun h=>this.2 fun h4=>h fun r x hr hx=>by rw[h1] at hr; rw[h2] at hx; cases hr; cases hx; exact h4⟩
  ·show zs4 s t (d+1) _=_
   rw[zs4,if_neg (Int.lt_irrefl _)]
  ·exact⟨fun⟨h1,h2⟩=>⟨hl,fun k r x hr hx=>h1 k (List.getElem?_eq_some_iff.1 hr).1 r x hr hx,h2⟩,fun h=>⟨fun k _ r x hr hx=>h.at_ k r x hr hx,h.tr⟩⟩
 ·rw[if_neg (by omega)]; exact Ev.ff fun h=>hl h.len
theorem zzz{l:List Int}{k:Nat}{a:Int}(h:l[k]? = some a):zwM (l.take (k+1))=zwM (l.take k)+a:=by
 rw[List.take_add_one,h,zwN]
 show _+(a+0)=_; omega
theorem zzA{s:Soc}(hs:zxY s){t:Tr}(ht:zzu s t):∀x∈t.Losses,0<=x/\x<=100000:=fun x hx=>by
 obtain⟨k,hk⟩:=List.mem_iff_getElem?.1 hx;have hlt:=(List.getElem?_eq_some_iff.1 hk).1;have hr:=List.getElem?_eq_getElem (show k < s.Losses.length by have:=ht.len; omega);have h1:=ht.at_ k _ x hr hk;have h2:=hs.full.ls _ (List.getElem_mem (show k < s.Losses.length by have:=ht.len; omega));unfold RgV at h2; omega
theorem zzB{l:List Int}{B:Int}(h:∀x∈l,0<=x/\x<=B):0<=zwM l/\zwM l<=B * l.length:=by
 induction l with
 | nil=>exact⟨Int.le_refl _,by show(0:Int)<=B * ((0:Nat):Int); simp⟩
 | cons a l ih=>
  have ih:=ih fun x hx=>h x (List.mem_cons_of_mem _ hx);have:=h a (List.mem_cons_self ..)
  show 0<=a+zwM l/\a+zwM l<=_
  rw[List.length_cons,Int.natCast_add,Int.mul_add]
  show _/\_<=_+B * 1
  omega
theorem zzC{s:Soc}(hs:zxY s){t:Tr}(ht:zzu s t):ztg s t=some (zzw s t,0):=by
 have h1:=hs.m5; have h2:=hs.l3;have htr:=hs.full.tr;unfold RgV at htr;have htt:=ht.tr;have hb:=zzA hs ht;have hl:=ht.len;unfold ztg;rw[zx7 (by unfold zrP; omega) (by unfold zrP; omega),obs,if_pos (zx0.2 hs),(zzy (by omega)).some_of ht,obs,if_pos rfl];refine zwv (n:=t.Losses.length) (fun d acc x=>ztf s t d acc x) (fun k=>zwM (t.Losses.take k)) (fun d k hk=>?_) (fun d=>?_) _ 0 (by omega) (by omega)
 ·have hg:=List.getElem?_eq_getElem hk;have h3:=zzB (l:=t.Losses.take k) (B:=100000) fun x hx=>hb x (List.mem_of_mem_take hx);have h4:=hb _ (List.getElem_mem hk)
  have h5:(t.Losses.take k).length<=3:=by rw[List.length_take]; omega
  show ztf s t (d+1) _ _=_
  rw[ztf,if_pos (by omega),zrF hg,obs,zqr (fI (by omega)),zqr (fI (by omega)),zzz hg]
 ·have h3:=zzB (l:=t.Losses) (B:=100000) hb
  show ztf s t (d+1) _ _=_
  rw[ztf,if_neg (Int.lt_irrefl _),List.take_length,zyv (by omega) (by omega) hs.full.rs,obs]; rfl
theorem zzD{s:Soc}(hs:zxY s){t:Tr}(ht:¬ zzu s t):ztg s t=some (0,2):=by
 have h1:=hs.m5; have h2:=hs.l3;unfold ztg;rw[zx7 (by unfold zrP; omega) (by unfold zrP; omega),obs,if_pos (zx0.2 hs),(zzy (by omega)).some_not ht,obs,if_neg (by decide)]
theorem zzE{s:Soc}{t:Tr}(h1:zrP s.Members)(h2:zrP s.Losses)(hf:zxZ s ≠ 0):ztg s t=some (0,zxZ s):=by
 unfold ztg;rw[zx7 h1 h2,obs,if_neg hf]
theorem zzF{s:Soc}(h1:zrP s.Members)(h2:zrP s.Losses)(hf:zxZ s ≠ 0):ztY s=some ({ Lo:=0,Hi:=0 },zxZ s):=by
 unfold ztY;rw[zyn h1 h2 hf,obs,if_neg hf]
theorem zzG{s:Soc}(hs:zxY s){t:Tr}(hl:t.Losses.length<=9)(hb:∀x∈t.Losses,0<=x/\x<=100000)(ht:0<=t.Treaty/\t.Treaty<=100000):zsl s t=some (zzw s t):=by
 have hr:=hs.full.rs;unfold zsl;rw[zqr (fI (by omega)),zqr (fI (by omega))];have key:=zwv (n:=t.Losses.length) (fun d acc x=>zsk t d acc x) (fun k=>0 - s.Reserve - t.Treaty+zwM (t.Losses.take k)) (fin:=some (zzw s t)) (fun d k hk=>?_) (fun d=>?_) 1000000 0 (by omega) (by omega)
 ·have e:0 - s.Reserve - t.Treaty+zwM (t.Losses.take 0)=0 - s.Reserve - t.Treaty:=by show _+0=_; omega
  rw[e] at key; exact key
 ·have hg:=List.getElem?_eq_getElem hk;have h3:=zzB (l:=t.Losses.take k) (B:=100000) fun x hx=>hb x (List.mem_of_mem_take hx);have h4:=hb _ (List.getElem_mem hk)
  have h5:(t.Losses.take k).length<=9:=by rw[List.length_take]; omega
  show zsk t (d+1) _ _=_
  rw[zsk,if_pos (by omega),zrF hg,obs,zqr (fI (by omega)),zqr (fI (by omega)),zzz hg,Int.add_assoc]
 ·show zsk t (d+1) _ _=_
  rw[zsk,if_neg (Int.lt_irrefl _),List.take_length];unfold zzw;exact congrArg some (by omega)
theorem zzH{s:Soc}(hs:zxY s):zsn s=some { Lo:=loN s,Hi:=hiN s }:=by
 have h2:=hs.l3;have htr:=hs.full.tr;unfold RgV at htr
 have hb:∀r∈s.Losses,(0<=r.Lo/\r.Lo<=100000)/\0<=r.Hi/\r.Hi<=100000:=fun r hr=>by have:=hs.full.ls r hr; unfold RgV at this; omega
 unfold zsn;refine zwv (n:=s.Losses.length) (fun d (st:List Int × List Int) x=>zsm s d st.1 s.Treaty.Hi st.2 s.Treaty.Lo x) (fun k=>((s.Losses.take k).map (·.Lo),(s.Losses.take k).map (·.Hi))) (fun d k hk=>?_) (fun d=>?_) _ 0 (by omega) (by omega)
 ·have hg:=List.getElem?_eq_getElem hk
  show zsm s (d+1) ((s.Losses.take k).map (·.Lo)) _ ((s.Losses.take k).map (·.Hi)) _ _=_
  have hl1:((s.Losses.take k).map (·.Lo)).length<=3:=by rw[List.length_map,List.length_take]; omega
  have hl2:((s.Losses.take k).map (·.Hi)).length<=3:=by rw[List.length_map,List.length_take]; omega
  rw[zsm,if_pos (by omega),zrF hg,obs,zqr (by omega),obs,zqr (by show _+1<=_; omega),zqr (fI (by omega))];rw[List.take_add_one,hg,List.map_append,List.map_append]; rfl
 ·show zsm s (d+1) ((s.Losses.take s.Losses.length).map (·.Lo)) _ ((s.Losses.take s.Losses.length).map (·.Hi)) _ _=_
  rw[zsm,if_neg (Int.lt_irrefl _),List.take_length,zzG hs (t:={ Losses:=s.Losses.map (·.Lo),Treaty:=s.Treaty.Hi }) (by rw[List.length_map]; omega) (fun x hx=>by obtain⟨r,hr,rfl⟩:=List.mem_map.1 hx; exact(hb r hr).1) (by show 0<=s.Treaty.Hi/\s.Treaty.Hi<=100000; omega),obs,zzG hs (t:={ Losses:=s.Losses.map (·.Hi),Treaty:=s.Treaty.Lo }) (by rw[List.length_map]; omega) (fun x hx=>by obtain⟨r,hr,rfl⟩:=List.mem_map.1 hx; exact(hb r hr).2) (by show 0<=s.Treaty.Lo/\s.Treaty.Lo<=100000; omega),obs]; rfl
theorem zzI{s:Soc}{t:Tr}(h3:s.Losses.length<=1000):Ev (zsj s t) (zzu s t):=by
 unfold zsj
 by_cases hl:t.Losses.length=s.Losses.length
 ·rw[if_pos (by omega)]
  by_cases htr:s.Treaty.Lo<=t.Treaty/\t.Treaty<=s.Treaty.Hi
  ·rw[zx8.some_of htr,obs,if_pos rfl];refine(Ev.loop (n:=t.Losses.length) (F:=fun d x=>zsi s t d x) (ok:=fun k=>∀(r:Rg) (x:Int),s.Losses[k]? = some r->t.Losses[k]? = some x->r.Lo<=x/\x<=r.Hi) (fin:=some true) (P:=True) (fun d k hk=>?_) (fun d=>?_) (by omega) fun _=>Ev.tt trivial).imp ?_
   ·have h1:=List.getElem?_eq_getElem (show k < s.Losses.length by omega);have h2:=List.getElem?_eq_getElem hk
    show(_->zsi s t (d+1) (k:Int)=_)/\_
    rw[zsi,if_pos (by omega),zrF h2,obs,zrF h1,obs,obs];have:=Ev.step (f:=fun r=>if r=true then gd (zl6 .i64 ((k:Int)+1)) (zsi s t d ((k:Int)+1)) else some false) (zx8 (n:=t.Losses[k]) (lo:=s.Losses[k].Lo) (hi:=s.Losses[k].Hi)) (by rw[if_pos rfl,zqr (fI (by omega))]) (by rw[if_neg (by decide)]);exact⟨fun h=>this.1 (h _ _ h1 h2),fun h=>this.2 fun h4=>h fun r x hr hx=>by rw[h1] at hr; rw[h2] at hx; cases hr; cases hx; exact h4⟩
   ·show zsi s t (d+1) _=_
    rw[zsi,if_neg (Int.lt_irrefl _)]
   ·exact⟨fun⟨h1,_⟩=>⟨hl,fun k r x hr hx=>h1 k (List.getElem?_eq_some_iff.1 hx).1 r x hr hx,htr⟩,fun h=>⟨fun k _ r x hr hx=>h.at_ k r x hr hx,trivial⟩⟩
  ·rw[zx8.some_not htr,obs,if_neg (by decide)]; exact Ev.ff fun h=>htr h.tr
 ·rw[if_neg (by omega)]; exact Ev.ff fun h=>hl h.len
theorem gd4{a b c d:Int}(ha:-1000000<=a/\a<=1000000)(hb:-1000000<=b/\b<=1000000)(hc:-1000000<=c/\c<=1000000)(hd:-1000000<=d/\d<=1000000){β:Type}{o:Option β}:gd (zl6 .i64 a) (gd (zl6 .i64 b) (gd (zl6 .i64 c) (gd (zl6 .i64 d) o)))=o:=by rw[zqr (f64 ha),zqr (f64 hb),zqr (f64 hc),zqr (f64 hd)]
theorem eqq{a b c d:Int}(h1:a=c)(h2:b=d):((decide (a=c)) && (decide (b=d)))=true:=by rw[decide_eq_true h1,decide_eq_true h2]; rfl
theorem zzJ{s:Soc}{t:Tr}(_:zr9 s)(_:zsa t):zui s t=some true:=by
 unfold zui
 refine zzo.pick (fun ht=>?_) fun _=>by rw[if_neg (by decide),awk]
 rw[if_pos rfl]
 by_cases hl:(9:Int) < t.Losses.length
 ·rw[if_pos hl,awk]
 rw[if_neg hl,zzp ht,obs,zzm (by omega),obs]
 have sm:zrP s.Members:=by unfold zrP; have:=ht.1; omega
 have sl:zrP s.Losses:=by unfold zrP; have:=ht.2; omega
 by_cases hs:zxY s
 ·have hf:zxZ s=0:=zx0.2 hs;have hb:=zyt hs;have l3:=hs.l3
  by_cases htr:zzu s t
  ·have hin:=zzx htr;have hbt:=zzA hs htr;have htt:=htr.tr;have htv:=hs.full.tr;unfold RgV at htv;rw[zzC hs htr,obs,obs,zyP hs,obs,zyb ht.1 ht.2,obs,obs,zx7 sm sl,obs,if_pos rfl,if_pos hf,if_pos rfl,zzH hs,obs]
   show(some ({ Lo:=loN s,Hi:=hiN s }:Rg)).bind _=_
   rw[obs,gd4 (by show -1000000<=loN s/\loN s<=1000000; omega) (by show -1000000<=loN s/\loN s<=1000000; omega) (by show -1000000<=hiN s/\hiN s<=1000000; omega) (by show -1000000<=hiN s/\hiN s<=1000000; omega),if_pos (eqq rfl rfl),(zzI (by omega)).some_of htr,obs,if_pos rfl,if_pos rfl,zzG hs (by omega) hbt (by omega),obs,if_pos rfl,awk]
  ·rw[zzD hs htr,obs,obs,zyP hs,obs,zyb ht.1 ht.2,obs,obs,zx7 sm sl,obs,if_pos rfl,if_pos hf,if_pos rfl,zzH hs,obs]
   show(some ({ Lo:=loN s,Hi:=hiN s }:Rg)).bind _=_
   rw[obs,gd4 (by show -1000000<=loN s/\loN s<=1000000; omega) (by show -1000000<=loN s/\loN s<=1000000; omega) (by show -1000000<=hiN s/\hiN s<=1000000; omega) (by show -1000000<=hiN s/\hiN s<=1000000; omega),if_pos (eqq rfl rfl),(zzI (by omega)).some_not htr,obs,if_neg (by decide),if_pos rfl,if_pos rfl,awk]
 ·have hf:zxZ s ≠ 0:=fun h=>hs (zx0.1 h);rw[zzE sm sl hf,obs,obs,zzF sm sl hf,obs,zyb ht.1 ht.2,obs,obs,zx7 sm sl,obs,if_pos rfl,if_neg hf,if_pos rfl,if_pos rfl,if_pos rfl,gd4 (by show -1000000<=(0:Int)/\(0:Int)<=1000000; omega) (by omega) (by show -1000000<=(0:Int)/\(0:Int)<=1000000; omega) (by omega),if_pos (eqq rfl rfl),awk]
end
end Go.Proofs.Ytkclhciahokifaa

namespace Go.Proofs.Ytkclhciahokifaa
open _root_.Go.Proofs.Try
open Go.ChangeShapes Go.WideShapes Go.ChangeAt Go.RowKit Go.Abs
set_option maxRecDepth 100000
theorem op3:zrV prog 3 Int (zl6 .i64):=zrW (by kernel_rfl)
theorem zzK:zrV prog 82 Mb zr7:=zr3 (fs:=[(3,0),(3,1),(3,2)]) (by kernel_rfl) (by kernel_rfl) (zr2 (α:=Int) (ok:=zl6 .i64) (k:=1) op3 (by kernel_rfl) rfl (zr2 (α:=Int) (ok:=zl6 .i64) (k:=1) op3 (by kernel_rfl) rfl (zr2 (α:=Int) (ok:=zl6 .i64) (k:=1) op3 (by kernel_rfl) rfl zr1))) (by kernel_rfl) fun m vs h=>by
 obtain⟨a0,c0,r0,m0,h0,p0,k0,s0,⟨a1,c1,r1,m1,h1,p1,k1,s1,⟨a2,c2,r2,m2,h2,p2,k2,s2,rfl⟩⟩⟩:=h;have p0:c0=[.int .i64 a0]:=p0; subst p0;have p1:c1=[.int .i64 a1]:=p1; subst p1;have p2:c2=[.int .i64 a2]:=p2; subst p2;subst h2 h1 h0;exact⟨⟨a0,a1,a2⟩,rfl,⟨k0,k1,k2⟩⟩
theorem zzL:zrV prog 22 (List Mb) (fun l=>l.length<=maxLen/\∀a0∈l,zr7 a0):=zrY (by kernel_rfl) (by kernel_rfl) zzK
theorem zzM:zrV prog 25 Rg zr5:=zr3 (fs:=[(3,0),(3,1)]) (by kernel_rfl) (by kernel_rfl) (zr2 (α:=Int) (ok:=zl6 .i64) (k:=1) op3 (by kernel_rfl) rfl (zr2 (α:=Int) (ok:=zl6 .i64) (k:=1) op3 (by kernel_rfl) rfl zr1)) (by kernel_rfl) fun m vs h=>by
 obtain⟨a0,c0,r0,m0,h0,p0,k0,s0,⟨a1,c1,r1,m1,h1,p1,k1,s1,rfl⟩⟩:=h;have p0:c0=[.int .i64 a0]:=p0; subst p0;have p1:c1=[.int .i64 a1]:=p1; subst p1;subst h1 h0;exact⟨⟨a0,a1⟩,rfl,⟨k0,k1⟩⟩
theorem zzN:zrV prog 23 (List Rg) (fun l=>l.length<=maxLen/\∀a0∈l,zr5 a0):=zrY (by kernel_rfl) (by kernel_rfl) zzM
theorem zzO:zrV prog 27 Soc zr9:=zr3 (fs:=[(22,0),(23,1),(25,2),(3,4)]) (by kernel_rfl) (by kernel_rfl) (zr2 (α:=List Mb) (ok:=(fun l=>l.length<=maxLen/\∀a0∈l,zr7 a0)) (k:=1) zzL (by kernel_rfl) rfl (zr2 (α:=List Rg) (ok:=(fun l=>l.length<=maxLen/\∀a0∈l,zr5 a0)) (k:=1) zzN (by kernel_rfl) rfl (zr2 (α:=Rg) (ok:=zr5) (k:=2) zzM (by kernel_rfl) rfl (zr2 (α:=Int) (ok:=zl6 .i64) (k:=1) op3 (by kernel_rfl) rfl zr1)))) (by kernel_rfl) fun m vs h=>by
 obtain⟨a0,c0,r0,m0,h0,p0,k0,s0,⟨a1,c1,r1,m1,h1,p1,k1,s1,⟨a2,c2,r2,m2,h2,p2,k2,s2,⟨a3,c3,r3,m3,h3,p3,k3,s3,rfl⟩⟩⟩⟩:=h;obtain⟨d0,rfl,p0⟩:=p0;obtain⟨d1,rfl,p1⟩:=p1;have p2:c2=[.int .i64 a2.Lo,.int .i64 a2.Hi]:=p2; subst p2;have p3:c3=[.int .i64 a3]:=p3; subst p3;subst h3 h2 h1 h0;exact⟨⟨a0,a1,a2,a3⟩,⟨_,_,rfl,p0,p1⟩,⟨k0,k1,k2,k3⟩⟩
theorem zzP:zrV prog 28 (List Int) (fun l=>l.length<=maxLen/\∀a0∈l,zl6 .i64 a0):=zrY (by kernel_rfl) (by kernel_rfl) op3
theorem zzQ:zrV prog 30 Tr zsa:=zr3 (fs:=[(28,0),(3,1)]) (by kernel_rfl) (by kernel_rfl) (zr2 (α:=List Int) (ok:=(fun l=>l.length<=maxLen/\∀a0∈l,zl6 .i64 a0)) (k:=1) zzP (by kernel_rfl) rfl (zr2 (α:=Int) (ok:=zl6 .i64) (k:=1) op3 (by kernel_rfl) rfl zr1)) (by kernel_rfl) fun m vs h=>by
 obtain⟨a0,c0,r0,m0,h0,p0,k0,s0,⟨a1,c1,r1,m1,h1,p1,k1,s1,rfl⟩⟩:=h;obtain⟨d0,rfl,p0⟩:=p0;have p1:c1=[.int .i64 a1]:=p1; subst p1;subst h1 h0;exact⟨⟨a0,a1⟩,⟨_,rfl,p0⟩,⟨k0,k1⟩⟩
theorem zzR:laidOutB prog=true:=by kernel_rfl
theorem zzS:ownKnob prog.godebug=none:=by kernel_rfl
theorem zzT(os:Os)(started:os.Started)(H:Type)(enc:TypeId × Value->H) :
    ReturnsInHanded {} Try.checked os 3 .any (Rows.callNeedsSpec.pre6 enc Try.prog Try.f3 Rows.callNeedsRow.domain false) (Rows.callNeedsSpec.post enc Try.prog Try.f3 false true false false):=by
  refine returnsInHanded_of_change (C:=Try.checked) zzS started (by kernel_rfl) Try.func3
    (ChangeSpec.witness6 (enc:=enc) (C:=Try.checked) false ⟨#[],#[.agg #[.slice none 0 0,.slice none 0 0,.int .i64 0,.int .i64 0,.int .i64 0],.agg #[.slice none 0 0,.int .i64 0]],[]⟩ 8 (by kernel_rfl) (by kernel_rfl) (by kernel_rfl) (by kernel_rfl)) ?_
  intro W base args ds gs before hval0 hW hcnd _;have hval:∀(j:Nat) t v,Try.f3.params[j]? = some t->args[j]? = some v->Value.okWide Try.prog W .any base t v:=hval0;have hW':=hW;obtain⟨p,q,hA0,hV,rfl,hfz,hnd⟩:=hW;have hA:DataW.TrodAll enc Try.prog W 0 (fun _=>true) true Try.f3.params.toList args.toList ds p:=hA0;rw[Try.params3] at hA hval;obtain⟨v0,v1,d0,d1,p0,p1,rfl,rfl,rfl,h0,h1⟩:=trodAll_two hA;obtain⟨rfl,rfl⟩:=trodVars_none hV
  have hlt:∀x∈p0++p1,x.block < W.heap.size:=fun x hx=>by simpa using hW'.lt x (by simpa using hx)
  obtain⟨fu0,hf0⟩:=id h0;obtain⟨fu1,hf1⟩:=id h1
  clear hA0 hval0
  obtain⟨e0,m0,w0,a_0,le0,sv0,lay0,cr0,zuL,ok0⟩:=zzO H enc W true _ _ _ hf0 _ _ (Lay.nil W);obtain⟨e1,m1,w1,a_1,le1,sv1,lay1,cr1,rep1,ok1⟩:=zzQ H enc W true _ _ _ hf1 e0 m0 lay0;obtain⟨c0_0,c0_1,rfl,g0_0,g0_1⟩:=zuL
  obtain⟨cs0,hv0,cl0⟩:∃cs,v0=.agg cs/\v0.cells.toList=cs.toList:=by
    have hl:=cr0.length
    cases v0 with
    | agg cs=>exact⟨cs,rfl,rfl⟩
    | _=>exact absurd hl (by simp[Value.cells])
  subst hv0;obtain⟨c1_0,rfl,g1_0⟩:=rep1
  obtain⟨cs1,hv1,cl1⟩:∃cs,v1=.agg cs/\v1.cells.toList=cs.toList:=by
    have hl:=cr1.length
    cases v1 with
    | agg cs=>exact⟨cs,rfl,rfl⟩
    | _=>exact absurd hl (by simp[Value.cells])
  subst hv1;have hargs:zeq (VR e1) [.agg 5 [c0_0,c0_1,.int .i64 a_0.Treaty.Lo,.int .i64 a_0.Treaty.Hi,.int .i64 a_0.Reserve],.agg 2 [c1_0,.int .i64 a_1.Treaty]] [.agg cs0,.agg cs1]:=.cons ⟨cs0,rfl,(cr0.mono fun _ _=>CR.mono le1),rfl⟩ (.cons ⟨cs1,rfl,cr1,rfl⟩ .nil);refine(callsIn_wide.1 (zqB fits htab (zwu (s:=a_0) (t:=a_1) lay1.pre (g0_0.subv sv1) (g0_1.subv sv1) g1_0 (zzJ ok0 ok1) (Q:=fun v _=>v=.c (.bool true)) fun _ _=>rfl) lay1.hr (args':=#[.agg cs0,.agg cs1]) hargs 0)).mono fun en W' hp=>?_;obtain⟨v,v',e',m',rfl,hst,hvr,rfl⟩:=hp;have hv':v'=.bool true:=hvr;subst hv';have hbelow:=lay1.below hst
  refine⟨_,rfl,[d0,d1],[],p0++p1,[],p0++p1,[],by simpa using hW',trodAll_mk1 (shut_bool Try.underlying4 _),
    trodAll_mk2 (Below.trod zzR (by kernel_rfl) (of_decide_eq_true (by kernel_rfl)) h0 hbelow fun x hx=>hlt x (by simp[hx])) (Below.trod zzR (by kernel_rfl) (of_decide_eq_true (by kernel_rfl)) h1 hbelow fun x hx=>hlt x (by simp[hx])),rfl,lay1.kept hst _,fun hc=>by cases hc⟩
theorem CallNeeds_holds:Rows.CallNeedsSaid:=
 OpenClaim.holds_of_wide 3 Try.f3 rfl rfl rfl rfl rfl rfl rfl ⟨rfl,rfl,rfl,rfl,rfl⟩ rfl rfl rfl rfl rfl (by kernel_rfl) Try.func3 (by kernel_rfl)
  (of_decide_eq_true (by kernel_rfl)) (by unfold Func.isWrapper; first | (rw[if_pos (by decide +kernel)]; kernel_rfl) | (rw[if_neg (by decide +kernel)]; exact⟨rfl,rfl⟩))
  (fun os started H enc _=>zzT os started H enc)
end Go.Proofs.Ytkclhciahokifaa

