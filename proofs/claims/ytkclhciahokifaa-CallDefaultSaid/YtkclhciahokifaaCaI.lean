/- CallDefault, for all that it can be called with, returns true. Condition: none. -/
import Derived.Test.YtkclhciahokifaaCaH
import GoSem.Step
import GoSem.ClaimKeys
import Derived.DeepKeys2
import Derived.RangeFuncLeaves
import Derived.OrdersIn
import Derived.Laws.World
import Derived.Laws.Sem
import Derived.RangeFuncRecord
import Derived.Laws.CopyRow
import Derived.Laws.Append
import Derived.Laws.Rows
import Derived.Laws.Slices
import Derived.Laws.Entries
import Derived.ChangeKeysEq
import Derived.IntWalk
import Derived.DeepKeys
import Derived.DeepKeys3
import Derived.Laws.StructEq
import Derived.MapKept
import Derived.Laws.AppendOwn
import Derived.ChangeArms
import Derived.ChangeOld
import Derived.Carry
import Derived.ChangeShapes
import Derived.KernelRfl
import Derived.ProofKit
import Derived.Test.YtkclhciahokifaaRows

namespace Go.Proofs.Ytkclhciahokifaa
open _root_.Go.Proofs.Try
open Go.Abs
set_option maxRecDepth 100000
noncomputable section
structure zxt (a:Mb):Prop where
 sum:1<=a.Sum/\a.Sum<=1000
 cls:1<=a.Class/\a.Class<=10
 most:0<=a.Most/\a.Most<=100000
def zxu(ms:List Mb):Prop:=ms.length<=5/\∀a∈ms,zxt a
def unN(a:Mb):Int:=a.Sum * a.Class
theorem zxv{a:Mb}(h:zxt a):1<=unN a/\unN a<=10000:=by
 have h1:=zw5 (a:=a.Sum) (x:=a.Class) (A:=1000) (X:=10) ⟨by have:=h.sum; omega,h.sum.2⟩ ⟨by have:=h.cls; omega,h.cls.2⟩;have h2:a.Sum * 1<=a.Sum * a.Class:=Int.mul_le_mul_of_nonneg_left h.cls.1 (by have:=h.sum; omega);have:=h.sum;unfold unN; omega
def uF(ms:List Mb)(sh:Nat->Bool):Nat->Int:=zwH ms sh unN
def mF(ms:List Mb)(sh:Nat->Bool):Nat->Int:=zwH ms sh (·.Most)
def zxw(sh:Nat->Bool):Bool:=(sh 0 == false) && ((sh 1 == false) && ((sh 2 == false) && ((sh 3 == false) && (sh 4 == false))))
def zxx(a b:Nat->Bool):Bool:=(a 0 == b 0) && ((a 1 == b 1) && ((a 2 == b 2) && ((a 3 == b 3) && (a 4 == b 4))))
def zxy(ms:List Mb)(sh:Nat->Bool):Prop:=∀i,sh i=true->i < ms.length
def roundsN(ms:List Mb):Nat->(Nat->Bool)->Int->(Nat->Int)->(Nat->Int) × Int
 | 0,_,N,c=>(c,N)
 | d+1,sh,N,c=>if zxw sh=true then (c,N) else
   if zxx (zwJ ms sh (zw6 N (uF ms sh))) sh=true then (fun i=>c i+zw6 N (uF ms sh) i,0) else
    roundsN ms d (zwJ ms sh (zw6 N (uF ms sh))) (N - S5 (mF ms fun i=>sh i && !zwJ ms sh (zw6 N (uF ms sh)) i)) (fun i=>c i+mF ms (fun i=>sh i && !zwJ ms sh (zw6 N (uF ms sh)) i) i)
def cF(sh:Nat->Bool):Nat:=(sh 0).toNat+(sh 1).toNat+(sh 2).toNat+(sh 3).toNat+(sh 4).toNat
theorem zxz{sh:Nat->Bool}:zxw sh=true↔∀i,i < 5->sh i=false:=by
 unfold zxw
 simp only[Bool.and_eq_true,beq_iff_eq]
 constructor
 ·rintro⟨h0,h1,h2,h3,h4⟩ i hi
  match i,hi with
  | 0,_=>exact h0
  | 1,_=>exact h1
  | 2,_=>exact h2
  | 3,_=>exact h3
  | 4,_=>exact h4
 ·intro h; exact⟨h 0 (by omega),h 1 (by omega),h 2 (by omega),h 3 (by omega),h 4 (by omega)⟩
theorem zxA{a b:Nat->Bool}:zxx a b=true↔∀i,i < 5->a i=b i:=by
 unfold zxx
 simp only[Bool.and_eq_true,beq_iff_eq]
 constructor
 ·rintro⟨h0,h1,h2,h3,h4⟩ i hi
  match i,hi with
  | 0,_=>exact h0
  | 1,_=>exact h1
  | 2,_=>exact h2
  | 3,_=>exact h3
  | 4,_=>exact h4
 ·intro h; exact⟨h 0 (by omega),h 1 (by omega),h 2 (by omega),h 3 (by omega),h 4 (by omega)⟩
theorem zxB{ms:List Mb}{sh:Nat->Bool}{p:Nat->Int}{i:Nat}(h:zwJ ms sh p i=true):sh i=true:=by
 unfold zwJ at h
 cases hm:ms[i]? with
 | none=>rw[hm] at h; exact h
 | some a=>rw[hm] at h; exact(Bool.and_eq_true _ _ ▸ h).1
theorem zxC{ms:List Mb}{sh:Nat->Bool}{p:Nat->Int}{i:Nat}{a:Mb}(hm:ms[i]? = some a):zwJ ms sh p i=(sh i && decide (p i<=a.Most)):=by unfold zwJ; rw[hm]
theorem zxD{ms:List Mb}{sh:Nat->Bool}{p:Nat->Int}(h:¬ zxx (zwJ ms sh p) sh=true):cF (zwJ ms sh p) < cF sh:=by
 have hle:∀i,(zwJ ms sh p i).toNat<=(sh i).toNat:=fun i=>by
  cases ha:zwJ ms sh p i with
  | false=>exact Nat.zero_le _
  | true=>rw[zxB ha]; exact Nat.le_refl _
 have hne:∃i,i < 5/\(zwJ ms sh p i).toNat ≠ (sh i).toNat:=by
  apply Classical.byContradiction
  intro hn;refine h (zxA.2 fun i hi=>?_)
  apply Classical.byContradiction
  intro h2;refine hn ⟨i,hi,fun h3=>h2 ?_⟩
  revert h3; cases zwJ ms sh p i <;> cases sh i <;> decide
 obtain⟨i,hi,h2⟩:=hne;have l0:=hle 0; have l1:=hle 1; have l2:=hle 2; have l3:=hle 3; have l4:=hle 4;unfold cF
 match i,hi with
 | 0,_=>omega
 | 1,_=>omega
 | 2,_=>omega
 | 3,_=>omega
 | 4,_=>omega
theorem zxE{ms:List Mb}{sh:Nat->Bool}{num:Mb->Int}{i:Nat}(h:sh i=false):zwH ms sh num i=0:=by
 unfold zwH
 cases ms[i]? with
 | none=>rfl
 | some a=>show(if sh i=true then num a else 0)=0; rw[h]; rfl
theorem zxF{ms:List Mb}{sh:Nat->Bool}{num:Mb->Int}{i:Nat}{a:Mb}(hm:ms[i]? = some a)(h:sh i=true):zwH ms sh num i=num a:=by
 unfold zwH; rw[hm]; show(if sh i=true then num a else 0)=_; rw[h,if_pos rfl]
theorem zxG{ms:List Mb}(hms:zxu ms)(sh:Nat->Bool)(i:Nat):0<=uF ms sh i/\uF ms sh i<=10000:=by
 unfold uF
 cases hs:sh i with
 | false=>rw[zxE hs]; omega
 | true=>
  cases hm:ms[i]? with
  | none=>unfold zwH; rw[hm]; show(0:Int)<=0/\(0:Int)<=_; omega
  | some a=>rw[zxF hm hs]; have:=zxv (hms.2 a (List.mem_of_getElem? hm)); omega
theorem zxH{ms:List Mb}(hms:zxu ms){sh:Nat->Bool}(hs:zxy ms sh)(hn:¬ zxw sh=true):UOk (uF ms sh):=by
 have hb:=zxG hms sh;refine⟨fun i _=>by have:=hb i; omega,?_⟩
 obtain⟨i,hi,hsi⟩:∃i,i < 5/\sh i=true:=by
  apply Classical.byContradiction
  intro h;refine hn (zxz.2 fun i hi=>?_)
  cases hq:sh i with
  | false=>rfl
  | true=>exact absurd ⟨i,hi,hq⟩ h
 have hl:=hs i hsi
 have h1:1<=uF ms sh i:=by unfold uF; rw[zxF (List.getElem?_eq_getElem hl) hsi]; exact(zxv (hms.2 _ (List.getElem_mem hl))).1
 have b0:=hb 0; have b1:=hb 1; have b2:=hb 2; have b3:=hb 3; have b4:=hb 4;unfold S5
 match i,hi with
 | 0,_=>omega
 | 1,_=>omega
 | 2,_=>omega
 | 3,_=>omega
 | 4,_=>omega
structure RI (ms:List Mb) (sh:Nat->Bool) (N:Int) (c:Nat->Int):Prop where
 sup:zxy ms sh
 nn:0<=N/\N<=1000000
 cb:∀i,i < 5->0<=c i/\c i<=1000000
 c0:∀i,sh i=true->c i=0
section
variable {ms:List Mb} {sh:Nat->Bool} {N:Int} {c:Nat->Int}
theorem zxI(p:Nat->Int){i:Nat}:(sh i && !zwJ ms sh p i)=true↔sh i=true/\∃a,ms[i]? = some a/\a.Most < p i:=by
 cases hm:ms[i]? with
 | none=>unfold zwJ; rw[hm]; cases sh i <;> simp
 | some a=>
  rw[zxC hm]
  cases sh i with
  | false=>simp
  | true=>simp
theorem zxJ(hms:zxu ms)(hs:zxy ms sh)(hn:¬ zxw sh=true)(hN:0<=N){i:Nat}(hi:i < 5) :
  0<=mF ms (fun i=>sh i && !zwJ ms sh (zw6 N (uF ms sh)) i) i/\mF ms (fun i=>sh i && !zwJ ms sh (zw6 N (uF ms sh)) i) i<=qN N (uF ms sh) i:=by
 have hu:=zxH hms hs hn;have hq:=zw7 hu hN hi;unfold mF
 cases ho:(sh i && !zwJ ms sh (zw6 N (uF ms sh)) i) with
 | false=>rw[zxE (by exact ho)]; omega
 | true=>
  obtain⟨h1,a,h2,h3⟩:=(zxI _).1 ho;have hb:=(hms.2 a (List.mem_of_getElem? h2)).most;have hp:=zxp N (uF ms sh) i;rw[zxF h2 (by exact ho)]; omega
theorem RI.next(hms:zxu ms)(h:RI ms sh N c)(hn:¬ zxw sh=true):RI ms (zwJ ms sh (zw6 N (uF ms sh))) (N - S5 (mF ms fun i=>sh i && !zwJ ms sh (zw6 N (uF ms sh)) i)) (fun i=>c i+mF ms (fun i=>sh i && !zwJ ms sh (zw6 N (uF ms sh)) i) i):=by
 have hu:=zxH hms h.sup hn;have hm:=fun i (hi:i < 5)=>zxJ hms h.sup hn h.nn.1 hi
 have hs:S5 (mF ms fun i=>sh i && !zwJ ms sh (zw6 N (uF ms sh)) i)<=S5 (zw6 N (uF ms sh)):=zxd fun i hi=>by have:=hm i hi; have:=zxp N (uF ms sh) i; omega
 rw[zxo hu] at hs
 have hs0:0<=S5 (mF ms fun i=>sh i && !zwJ ms sh (zw6 N (uF ms sh)) i):=by
  have:=hm 0 (by omega); have:=hm 1 (by omega); have:=hm 2 (by omega); have:=hm 3 (by omega); have:=hm 4 (by omega);unfold S5; omega
 have hnn:=h.nn;refine⟨fun i hi=>h.sup i (zxB hi),by omega,fun i hi=>?_,fun i hi=>?_⟩
 ·have h1:=hm i hi;have h2:=h.cb i hi
  have h3:mF ms (fun i=>sh i && !zwJ ms sh (zw6 N (uF ms sh)) i) i<=N:=by have:=zw7 hu h.nn.1 hi; omega
  show 0<=c i+_/\c i+_<=_
  cases ho:(sh i && !zwJ ms sh (zw6 N (uF ms sh)) i) with
  | false=>
   have e:mF ms (fun i=>sh i && !zwJ ms sh (zw6 N (uF ms sh)) i) i=0:=zxE (by exact ho);rw[e]; omega
  | true=>
   have hc:=h.c0 i ((zxI _).1 ho).1;rw[hc]; omega
 ·have h1:=zxB hi
  show c i+_=0
  have e:mF ms (fun i=>sh i && !zwJ ms sh (zw6 N (uF ms sh)) i) i=0:=zxE (by show(sh i && !zwJ ms sh _ i)=false; rw[hi]; simp);rw[h.c0 i h1,e]; rfl
theorem zxK{w:Wk}(hms:zxu w.s.Members):ztz w (mkF sh)=some (mk5 (uF w.s.Members sh)):=by
 unfold ztz;rw[zwI (num:=unN) (fun a ha=>?_) hms.1,obs]; rfl;have h:=hms.2 a ha;have:=h.sum; have:=h.cls;have hb:=zxv h;unfold unN at hb
 show ztv a=some (unN a)
 unfold ztv unN;rw[zqr (by omega),zqr (by omega),zqr (fI (by omega))]
theorem zxL{w:Wk}(hms:zxu w.s.Members):ztA w (mkF sh)=some (mk5 (mF w.s.Members sh)):=by
 unfold ztA;rw[zwI (number:=fun a=>ztw a) (num:=(·.Most)) (fun a _=>rfl) hms.1,obs]; rfl
theorem zxM{w:Wk}(hms:zxu w.s.Members)(need0:Int){need:Int}:∀(n D:Nat) (sh:Nat->Bool) (N:Int) (c:Nat->Int),RI w.s.Members sh N c->N+S5 c=need->need<=1000000->cF sh < n->cF sh < D ->
  ztD w need0 D need (c 0) (c 1) (c 2) (c 3) (c 4) (sh 0) (sh 1) (sh 2) (sh 3) (sh 4)=some { need:=need,calls:=mk5 (roundsN w.s.Members n sh N c).1 }
 | 0,_,_,_,_,_,_,_,h,_=>by omega
 | _+1,0,_,_,_,_,_,_,_,h=>by omega
 | n+1,D+1,sh,N,c,hr,hs,hneed,hn,hD=>by
  rw[ztD,roundsN]
  show(if zxw sh=true then _ else _)=_
  by_cases h0:zxw sh=true
  ·rw[if_pos h0,if_pos h0]; rfl
  ·rw[if_neg h0,if_neg h0];have hu:=zxH hms hr.sup h0
   have hbc:Bd 1000000000000 c:=fun i hi=>by have:=hr.cb i hi; omega
   have hcb:=hr.cb;have hc0:=hcb 0 (by omega); have hc1:=hcb 1 (by omega); have hc2:=hcb 2 (by omega); have hc3:=hcb 3 (by omega); have hc4:=hcb 4 (by omega)
   have hsc:0<=S5 c/\S5 c<=5000000:=by unfold S5; omega
   have hNN:0<=N/\N<=1000000:=hr.nn
   have e1:ztt ({ need:=need,calls:=mk5 c }:Oc)=some N:=by
    unfold ztt
    show(zti (mk5 c)).bind _=_
    rw[zwE hbc,obs,zqr (fI (by show -9223372036854775808<=need - S5 c/\need - S5 c < _; omega))];exact congrArg some (show need - S5 c=N by omega)
   show(ztt ({ need:=need,calls:=mk5 c }:Oc)).bind _=_
   rw[e1,obs]
   show(ztz w (mkF sh)).bind _=_
   rw[zxK hms,obs,zxa hu hNN,obs]
   show(ztC w (mkF sh) (mk5 (zw6 N (uF w.s.Members sh)))).bind _=_
   rw[zwK hms.1,obs]
   have hbp:Bd 1000000000000 (zw6 N (uF w.s.Members sh)):=fun i hi=>by have:=zxq hu hNN.1 hi; have:=zxr hu hNN.1 hi; omega
   show(if zxx (zwJ w.s.Members sh (zw6 N (uF w.s.Members sh))) sh=true then _ else _)=_
   by_cases h1:zxx (zwJ w.s.Members sh (zw6 N (uF w.s.Members sh))) sh=true
   ·rw[if_pos h1,if_pos h1]
    have e2:ztu ({ need:=need,calls:=mk5 c }:Oc) (mk5 (zw6 N (uF w.s.Members sh)))=some { need:=need,calls:=mk5 fun i=>c i+zw6 N (uF w.s.Members sh) i }:=by
     unfold ztu
     show(ztk (mk5 c) _).bind _=_
     rw[zwF hbc hbp,obs]
    show(ztu ({ need:=need,calls:=mk5 c }:Oc) _).bind _=_
    rw[e2,obs]
   ·rw[if_neg h1,if_neg h1]
    show(ztm (mkF sh) (mkF (zwJ w.s.Members sh (zw6 N (uF w.s.Members sh))))).bind _=_
    rw[zwG,obs,zxL hms,obs];have hnext:=hr.next hms h0;have hm:=fun i (hi:i < 5)=>zxJ hms hr.sup h0 hNN.1 hi
    have hbm:Bd 1000000000000 (mF w.s.Members fun i=>sh i && !zwJ w.s.Members sh (zw6 N (uF w.s.Members sh)) i):=fun i hi=>by have:=hm i hi; have:=zw7 hu hNN.1 hi; omega
    have e2:ztu ({ need:=need,calls:=mk5 c }:Oc) (mk5 (mF w.s.Members fun i=>sh i && !zwJ w.s.Members sh (zw6 N (uF w.s.Members sh)) i))=some { need:=need,calls:=mk5 fun i=>c i+mF w.s.Members (fun i=>sh i && !zwJ w.s.Members sh (zw6 N (uF w.s.Members sh)) i) i }:=by
     unfold ztu
     show(ztk (mk5 c) _).bind _=_
     rw[zwF hbc hbm,obs]
    show(ztu ({ need:=need,calls:=mk5 c }:Oc) _).bind _=_
    rw[e2,obs];have hless:=zxD h1;have e3:S5 (fun i=>c i+mF w.s.Members (fun i=>sh i && !zwJ w.s.Members sh (zw6 N (uF w.s.Members sh)) i) i)=S5 c+S5 (mF w.s.Members fun i=>sh i && !zwJ w.s.Members sh (zw6 N (uF w.s.Members sh)) i):=zwO _ _
    have e4:N - S5 (mF w.s.Members fun i=>sh i && !zwJ w.s.Members sh (zw6 N (uF w.s.Members sh)) i)+S5 (fun i=>c i+mF w.s.Members (fun i=>sh i && !zwJ w.s.Members sh (zw6 N (uF w.s.Members sh)) i) i)=need:=by rw[e3]; omega
    exact zxM hms need0 n D _ _ _ hnext e4 hneed (by omega) (by omega)
end
def zxN(ms:List Mb)(ask:Nat->Bool)(need:Int):(Nat->Int) × Int:=roundsN ms 6 ask need fun _=>0
theorem zxO(sh:Nat->Bool):cF sh<=5:=by
 have h:∀b:Bool,b.toNat<=1:=fun b=>by cases b <;> decide
 have:=h (sh 0); have:=h (sh 1); have:=h (sh 2); have:=h (sh 3); have:=h (sh 4);unfold cF; omega
theorem zxP{w:Wk}(hms:zxu w.s.Members){ask:Nat->Bool}(ha:w.asked=mkF ask)(hsup:zxy w.s.Members ask){need:Int}(hn:0<=need/\need<=1000000):ztE w need=some { need:=need,calls:=mk5 (zxN w.s.Members ask need).1 }:=by
 unfold ztE;rw[ha];have hc:=zxO ask;exact zxM hms need 6 1000000 ask need (fun _=>0) ⟨hsup,hn,fun _ _=>by omega,fun _ _=>rfl⟩ (by rw[zwP]; omega) hn.2 (by omega) (by omega)
end
end Go.Proofs.Ytkclhciahokifaa

namespace Go.Proofs.Ytkclhciahokifaa
open _root_.Go.Proofs.Try
open Go.Abs
set_option maxRecDepth 100000
noncomputable section
section
variable {ms:List Mb}
theorem zxQ(hms:zxu ms):∀(n:Nat) (sh:Nat->Bool) (N:Int) (c:Nat->Int),RI ms sh N c->cF sh < n->S5 (roundsN ms n sh N c).1+(roundsN ms n sh N c).2=N+S5 c/\0<=(roundsN ms n sh N c).2
 | 0,_,_,_,_,h=>by omega
 | n+1,sh,N,c,hr,h=>by
  unfold roundsN
  by_cases h0:zxw sh=true
  ·rw[if_pos h0]; have:=hr.nn; exact⟨by show S5 c+N=_; omega,hr.nn.1⟩
  ·rw[if_neg h0];have hu:=zxH hms hr.sup h0
   by_cases h1:zxx (zwJ ms sh (zw6 N (uF ms sh))) sh=true
   ·rw[if_pos h1];have e:S5 (fun i=>c i+zw6 N (uF ms sh) i)=S5 c+S5 (zw6 N (uF ms sh)):=zwO _ _;have hp:=zxo hu N;exact⟨by show S5 (fun i=>c i+zw6 N (uF ms sh) i)+0=_; omega,Int.le_refl _⟩
   ·rw[if_neg h1];have hless:=zxD h1;have ih:=zxQ hms n _ _ _ (hr.next hms h0) (by omega);have e:S5 (fun i=>c i+mF ms (fun i=>sh i && !zwJ ms sh (zw6 N (uF ms sh)) i) i)=S5 c+S5 (mF ms fun i=>sh i && !zwJ ms sh (zw6 N (uF ms sh)) i):=zwO _ _;rw[e] at ih;exact⟨by rw[ih.1]; omega,ih.2⟩
theorem zxR(hms:zxu ms):∀(n:Nat) (sh:Nat->Bool) (N:Int) (c:Nat->Int),RI ms sh N c->cF sh < n->∀i,i < 5->sh i=false->(roundsN ms n sh N c).1 i=c i
 | 0,_,_,_,_,h=>by omega
 | n+1,sh,N,c,hr,h=>fun i hi hs=>by
  unfold roundsN
  by_cases h0:zxw sh=true
  ·rw[if_pos h0]
  ·rw[if_neg h0];have hu:=zxH hms hr.sup h0
   by_cases h1:zxx (zwJ ms sh (zw6 N (uF ms sh))) sh=true
   ·rw[if_pos h1]
    show c i+_=_
    rw[zxs hu (show uF ms sh i=0 from zxE hs),Int.add_zero]
   ·rw[if_neg h1];have hless:=zxD h1
    have ha:zwJ ms sh (zw6 N (uF ms sh)) i=false:=by
     cases hq:zwJ ms sh (zw6 N (uF ms sh)) i with
     | false=>rfl
     | true=>rw[zxB hq] at hs; cases hs
    rw[zxR hms n _ _ _ (hr.next hms h0) (by omega) i hi ha];have e:mF ms (fun i=>sh i && !zwJ ms sh (zw6 N (uF ms sh)) i) i=0:=zxE (by show(sh i && _)=false; rw[hs]; rfl);rw[e,Int.add_zero]
theorem zxS(hms:zxu ms):∀(n:Nat) (sh:Nat->Bool) (N:Int) (c:Nat->Int),RI ms sh N c->cF sh < n->∀i a,i < 5->ms[i]? = some a->sh i=true->(0<=(roundsN ms n sh N c).1 i/\(roundsN ms n sh N c).1 i<=a.Most)/\(0 < (roundsN ms n sh N c).2->(roundsN ms n sh N c).1 i=a.Most)
 | 0,_,_,_,_,h=>by omega
 | n+1,sh,N,c,hr,h=>fun i a hi hm hs=>by
  unfold roundsN
  by_cases h0:zxw sh=true
  ·have:=zxz.1 h0 i hi; rw[hs] at this; cases this
  ·rw[if_neg h0];have hu:=zxH hms hr.sup h0;have hc:=hr.c0 i hs;have hp:=zxq hu hr.nn.1 hi
   by_cases h1:zxx (zwJ ms sh (zw6 N (uF ms sh))) sh=true
   ·rw[if_pos h1];have h2:=zxA.1 h1 i hi;rw[zxC hm,hs,Bool.true_and] at h2;have h3:zw6 N (uF ms sh) i<=a.Most:=of_decide_eq_true h2;exact⟨by show 0<=c i+_/\c i+_<=_; omega,fun h=>absurd h (Int.lt_irrefl _)⟩
   ·rw[if_neg h1];have hless:=zxD h1
    cases hq:zwJ ms sh (zw6 N (uF ms sh)) i with
    | true=>exact zxS hms n _ _ _ (hr.next hms h0) (by omega) i a hi hm hq
    | false=>
     rw[zxR hms n _ _ _ (hr.next hms h0) (by omega) i hi hq];have e:mF ms (fun i=>sh i && !zwJ ms sh (zw6 N (uF ms sh)) i) i=a.Most:=zxF hm (by show(sh i && !zwJ ms sh _ i)=true; rw[hs,hq]; rfl);have hb:=(hms.2 a (List.mem_of_getElem? hm)).most;rw[e,hc];exact⟨by omega,fun _=>by omega⟩
end
section
variable {ms:List Mb} {ask:Nat->Bool} {N:Int}
theorem RI0(hs:zxy ms ask)(hN:0<=N/\N<=1000000):RI ms ask N fun _=>0:=⟨hs,hN,fun _ _=>by omega,fun _ _=>rfl⟩
theorem zxT(hms:zxu ms)(hs:zxy ms ask)(hN:0<=N/\N<=1000000):S5 (zxN ms ask N).1+(zxN ms ask N).2=N/\0<=(zxN ms ask N).2:=by
 have:=zxO ask;have h:=zxQ hms 6 ask N (fun _=>0) (RI0 hs hN) (by omega);rw[zwP] at h;exact⟨by rw[Int.add_zero] at h; exact h.1,h.2⟩
theorem zxU(hms:zxu ms)(hs:zxy ms ask)(hN:0<=N/\N<=1000000){i:Nat}(hi:i < 5)(ha:ask i=false):(zxN ms ask N).1 i=0:=by
 have:=zxO ask;exact zxR hms 6 ask N (fun _=>0) (RI0 hs hN) (by omega) i hi ha
theorem zxV(hms:zxu ms)(hs:zxy ms ask)(hN:0<=N/\N<=1000000){i:Nat}{a:Mb}(hi:i < 5)(hm:ms[i]? = some a)(ha:ask i=true):(0<=(zxN ms ask N).1 i/\(zxN ms ask N).1 i<=a.Most)/\(0 < (zxN ms ask N).2->(zxN ms ask N).1 i=a.Most):=by
 have:=zxO ask;exact zxS hms 6 ask N (fun _=>0) (RI0 hs hN) (by omega) i a hi hm ha
theorem zxW(hms:zxu ms)(hs:zxy ms ask)(hN:0<=N/\N<=1000000){i:Nat}(hi:i < 5):0<=(zxN ms ask N).1 i/\(zxN ms ask N).1 i<=100000:=by
 cases ha:ask i with
 | false=>rw[zxU hms hs hN hi ha]; omega
 | true=>
  have hm:=List.getElem?_eq_getElem (hs i ha);have h:=zxV hms hs hN hi hm ha;have hb:=(hms.2 _ (List.getElem_mem (hs i ha))).most
  omega
end
end
end Go.Proofs.Ytkclhciahokifaa

namespace Go.Proofs.Ytkclhciahokifaa
open _root_.Go.Proofs.Try
open Go.Abs
set_option maxRecDepth 100000
noncomputable section
def RgV(r:Rg):Prop:=0<=r.Lo/\r.Lo<=r.Hi/\r.Hi<=100000/\r.Hi - r.Lo<=30
instance (r:Rg):Decidable (RgV r):=by unfold RgV; infer_instance
structure zxX (s:Soc):Prop where
 pos:0 < s.Members.length
 ms:∀a∈s.Members,zxt a
 ls:∀r∈s.Losses,RgV r
 tr:RgV s.Treaty
 rs:0<=s.Reserve/\s.Reserve<=100000
structure zxY (s:Soc):Prop where
 m5:s.Members.length<=5
 l3:s.Losses.length<=3
 full:zxX s
theorem zxY.msOk{s:Soc}(h:zxY s):zxu s.Members:=⟨h.m5,h.full.ms⟩
open Classical in
def zxZ(s:Soc):Int:=if 5 < s.Members.length\/3 < s.Losses.length then 3 else if zxX s then 0 else 1
theorem zx0{s:Soc}:zxZ s=0↔zxY s:=by
 unfold zxZ
 by_cases h:5 < s.Members.length\/3 < s.Losses.length
 ·rw[if_pos h]; exact⟨fun h=>by omega,fun h2=>by have:=h2.m5; have:=h2.l3; omega⟩
 ·rw[if_neg h]
  by_cases hf:zxX s
  ·rw[if_pos hf]; exact⟨fun _=>⟨by omega,by omega,hf⟩,fun _=>rfl⟩
  ·rw[if_neg hf]; exact⟨fun h=>by omega,fun h=>absurd h.full hf⟩
theorem zx1{r:Rg}{n:Int}:Ev (zsG r n) (r.Lo<=n/\n<=r.Hi):=Ev.ite fun _=>Ev.dec Iff.rfl
theorem zx2{n:Int}:Ev (zsH n) (0<=n/\n<=100000):=zx1.ret
theorem zx3{r:Rg}:Ev (zsI r) (RgV r):=by
 refine(zx2.and fun h1=>zx2.and fun h2=>Ev.ite (K:=r.Hi - r.Lo<=30) fun _=>Ev.gd (fI (by omega)) (Ev.dec Iff.rfl)).imp ?_;unfold RgV; omega
theorem zx4{a:Mb}:Ev (zsJ ({ su:=({ Lo:=(1:Int),Hi:=(1000:Int) }:Rg),cl:=({ Lo:=(1:Int),Hi:=(10:Int) }:Rg),mo:=({ Lo:=(0:Int),Hi:=(100000:Int) }:Rg) }:Lm) a) (zxt a):=
 (zx1.and fun _=>zx1.and fun _=>zx1.ret).imp ⟨fun⟨h1,h2,h3⟩=>⟨h1,h2,h3⟩,fun⟨h1,h2,h3⟩=>⟨h1,h2,h3⟩⟩
theorem gM{l:List Mb}{p:Mb->Option Bool}:∀{d:Nat} {x:Int},zsL l p d x=gIdx l p d x
 | 0,_=>rfl
 | d+1,x=>by unfold zsL gIdx; simp only[gM]
theorem gR{l:List Rg}{p:Rg->Option Bool}:∀{d:Nat} {x:Int},zsQ l p d x=gIdx l p d x
 | 0,_=>rfl
 | d+1,x=>by unfold zsQ gIdx; simp only[gR]
theorem gI{l:List Int}{p:Int->Option Bool}:∀{d:Nat} {x:Int},zsV l p d x=gIdx l p d x
 | 0,_=>rfl
 | d+1,x=>by unfold zsV gIdx; simp only[gI]
theorem zx5{s:Soc}(h1:zrT s.Members)(h2:zrT s.Losses):Ev (zs2 s) (zxX s):=by
 refine(Ev.ite fun _=>(Ev.each (q:=zxt) (fun a _=>zx4) h1.lt gM).and fun _=>(Ev.each (q:=RgV) (fun a _=>zx3) h2.lt gR).and fun _=>zx3.and fun _=>zx2.ret).imp ?_;exact⟨fun⟨a,b,c,d,e⟩=>⟨by omega,b,c,d,e⟩,fun⟨a,b,c,d,e⟩=>⟨by omega,b,c,d,e⟩⟩
theorem zx6{s:Soc}:Ev (zs1 s) (5 < s.Members.length\/3 < s.Losses.length):=by
 unfold zs1
 by_cases h:(5:Int) < s.Members.length
 ·rw[if_pos h]; exact Ev.tt (by omega)
 ·rw[if_neg h]; exact Ev.dec (by omega)
theorem zx7{s:Soc}(h1:zrT s.Members)(h2:zrT s.Losses):zs3 s=some (zxZ s):=by
 unfold zs3 zxZ;refine zx6.pick (fun h=>?_) fun h=>?_
 ·rw[if_pos rfl,if_pos h]
 ·rw[if_neg (by decide),if_neg h];refine(zx5 h1 h2).pick (fun h=>?_) fun h=>?_
  ·rw[if_pos rfl,if_pos h]
  ·rw[if_neg (by decide),if_neg h]
theorem zx8{n lo hi:Int}:Ev (zsh n lo hi) (lo<=n/\n<=hi):=Ev.ite fun _=>Ev.dec Iff.rfl
theorem zx9{r:Rg}:Ev (zsi r) (RgV r):=Ev.ite fun h1=>Ev.ite fun h2=>Ev.ite fun h3=>Ev.gd (fI (by omega)) (Ev.dec Iff.rfl)
theorem zya{s:Soc}(h1:s.Members.length<=8)(h2:s.Losses.length<=6):zsk s=some (zxZ s):=by
 unfold zsk zxZ
 by_cases c1:5 < s.Members.length
 ·rw[if_pos (by omega),if_pos (.inl c1)]
 rw[if_neg (by omega)]
 by_cases c2:3 < s.Losses.length
 ·rw[if_pos (by omega),if_pos (.inr c2)]
 rw[if_neg (show ¬ (3:Int) < s.Losses.length by omega),if_neg (show ¬ (5 < s.Members.length\/3 < s.Losses.length) by omega)]
 by_cases c3:s.Members.length=0
 ·rw[if_pos (by omega),if_neg fun h:zxX s=>by have:=h.pos; omega]
 rw[if_neg (show ¬ (s.Members.length:Int)=0 by omega)]
 refine zx9.pick (fun c4=>?_) fun c4=>by rw[if_neg (by decide),if_neg fun h=>c4 h.tr]
 rw[if_pos rfl]
 refine zx8.pick (fun c5=>?_) fun c5=>by rw[if_neg (by decide),if_neg fun h=>c5 h.rs]
 rw[if_pos rfl]
 have kL:=zrS (l:=s.Losses) (F:=fun d x=>prFault_L1 s d x) (ok:=RgV) (bad:=some 1) (fin:=some 0) (fun d k a hk=>by
  have hkl:=(List.getElem?_eq_some_iff.1 hk).1
  show(RgV a->prFault_L1 s (d+1) (k:Int)=_)/\_
  rw[prFault_L1,if_pos (by omega),zrJ hk,obs]
  exact Ev.step zx9 (by rw[if_pos rfl,zqr (fI (by omega))]) (by rw[if_neg (by decide)])) (fun d=>by show prFault_L1 s (d+1) _=_; rw[prFault_L1,if_neg (Int.lt_irrefl _)]) (d:=1000000) (by omega)
 have kM:=zrS (l:=s.Members) (F:=fun d x=>zsj s d 0 x) (ok:=zxt) (bad:=some 1) (fin:=prFault_L1 s 1000000 0) (fun d k a hk=>by
  have hkl:=(List.getElem?_eq_some_iff.1 hk).1
  show(zxt a->zsj s (d+1) 0 (k:Int)=_)/\_
  rw[zsj,if_pos (by omega),zrJ hk,obs];refine⟨fun h=>?_,fun h=>?_⟩
  ·rw[zx8.some_of h.sum,obs,if_pos rfl,zx8.some_of h.cls,obs,if_pos rfl,zx8.some_of h.most,obs,if_pos rfl,zqr (fI (by omega))]
  ·refine zx8.pick (fun q1=>?_) fun q1=>by rw[if_neg (by decide)]
   rw[if_pos rfl]
   refine zx8.pick (fun q2=>?_) fun q2=>by rw[if_neg (by decide)]
   rw[if_pos rfl]
   refine zx8.pick (fun q3=>absurd ⟨q1,q2,q3⟩ h) fun q3=>by rw[if_neg (by decide)]) (fun d=>by show zsj s (d+1) 0 _=_; rw[zsj,if_neg (Int.lt_irrefl _)]) (d:=1000000) (by omega)
 by_cases c6:∀a∈s.Members,zxt a
 ·refine(kM.1 c6).trans ?_
  by_cases c7:∀r∈s.Losses,RgV r
  ·refine(kL.1 c7).trans ?_;rw[if_pos ⟨by omega,c6,c7,c4,c5⟩]
  ·refine(kL.2 c7).trans ?_;rw[if_neg fun h=>c7 h.ls]
 ·refine(kM.2 c6).trans ?_;rw[if_neg fun h=>c6 h.ms]
theorem zyb{s:Soc}(h1:s.Members.length<=8)(h2:s.Losses.length<=6):zt9 s=some (zxZ s):=by unfold zt9; rw[zya h1 h2]; rfl
def zyc(n:Nat)(out:List Int):Nat->Bool:=fun i=>decide (i < n) && !decide ((i:Int)∈out)
def zyd(s:Soc)(out:List Int):Wk:={ s:=s,asked:=mkF (zyc s.Members.length out) }
theorem zye(ms:List Mb)(out:List Int):zxy ms (zyc ms.length out):=fun i h=>by
 unfold zyc at h
 simp at h; exact h.1
theorem zyf{l:List Int}{v:Int}(hl:zrT l):∀d (k:Nat),k<=l.length->l.length - k < d->∃r,zs6 l v d (k:Int)=some r/\(0<=r↔v∈l.drop k)
 | 0,k,_,h=>by omega
 | d+1,k,hk,h=>by
  unfold zrT at hl;unfold zs6
  by_cases hkn:k=l.length
  ·subst hkn; rw[if_neg (Int.lt_irrefl _)]; exact⟨_,rfl,by simp⟩
  ·have hlt:k < l.length:=by omega
   rw[if_pos (by omega),zrJ (List.getElem?_eq_getElem hlt),obs];have hd:=List.drop_eq_getElem_cons hlt
   by_cases hv:v=l[k]
   ·rw[if_pos hv]; exact⟨_,rfl,⟨fun _=>by rw[hd,<- hv]; exact List.mem_cons_self ..,fun _=>by omega⟩⟩
   ·rw[if_neg hv,zqr (fI (by omega)),show(k:Int)+1=((k+1:Nat):Int) by omega];obtain⟨r,h1,h2⟩:=zyf hl d (k+1) (by omega) (by omega);exact⟨r,h1,h2.trans ⟨fun h=>by rw[hd]; exact List.mem_cons_of_mem _ h,fun h=>by rw[hd] at h; exact(List.mem_cons.1 h).resolve_left hv⟩⟩
theorem zyg{l:List Int}{v:Int}(hl:zrT l):zs8 l v=some (decide (v∈l)):=by
 unfold zs8 zs7;obtain⟨r,h1,h2⟩:=zyf (v:=v) hl (l.length+1) 0 (Nat.zero_le _) (by omega);have h1:zs6 l v (l.length+1) 0=some r:=h1;rw[h1,obs];exact congrArg some (decide_eq_decide.2 (h2.trans (by rw[List.drop_zero])))
theorem zyh{s:Soc}{out:List Int}(hl:zrT out)(h5:s.Members.length<=5):zta s out=some (zyd s out):=by
 unfold zta;have key:=zwv (n:=s.Members.length) (fun d st x=>zs9 s out d s.Treaty.Lo s.Treaty.Hi s.Reserve (st 0) (st 1) (st 2) (st 3) (st 4) x) (stF (zyc s.Members.length out) fun _=>false) (fin:=some (zyd s out)) (fun d k hk=>?_) (fun d=>?_) (s.Members.length+1) 0 (by omega) (by omega)
 ·rw[zwz] at key; exact key
 ·show zs9 s out (d+1) _ _ _ _ _ _ _ _ _=_
  rw[zs9,if_pos (by omega),zyg hl,obs,zqr (by omega),zqr (fI (by omega))];have e:=zwB (zyc s.Members.length out) (fun _=>false) k
  have e0:(!decide ((k:Int)∈out))=zyc s.Members.length out k:=by unfold zyc; rw[decide_eq_true hk,Bool.true_and]
  rw[e0,e 0,e 1,e 2,e 3,e 4]
 ·show zs9 s out (d+1) _ _ _ _ _ _ _ _ _=_
  rw[zs9,if_neg (by omega)]
  have e1:∀j,stF (zyc s.Members.length out) (fun _=>false) s.Members.length j=zyc s.Members.length out j:=fun j=>by
   unfold stF
   by_cases h:j < s.Members.length
   ·rw[if_pos h]
   ·rw[if_neg h]; unfold zyc; rw[decide_eq_false h]; rfl
  rw[e1 0,e1 1,e1 2,e1 3,e1 4]; rfl
def zyi(n:Nat)(l:List Int):Prop:=l.Pairwise (· < ·)/\∀v∈l,0<=v/\v<=(n:Int) - 1
theorem zyj{l:List Int}:(∀j,0 < j->j < l.length->∀a b,l[j - 1]? = some a->l[j]? = some b->a < b)↔l.Pairwise (· < ·):=by
 constructor
 ·intro h;rw[List.pairwise_iff_getElem];intro i j hi hj hij
  have key:∀d,(hd:i+d+1 < l.length)->l[i] < l[i+d+1]:=fun d=>by
   induction d with
   | zero=>intro hd; exact h (i+1) (by omega) hd _ _ (List.getElem?_eq_getElem hi) (List.getElem?_eq_getElem hd)
   | succ d ih=>
    intro hd;have h1:=ih (by omega);have h2:=h (i+(d+1)+1) (by omega) hd _ _ (List.getElem?_eq_getElem (show i+d+1 < l.length by omega)) (List.getElem?_eq_getElem hd);exact Int.lt_trans h1 h2
  have:=key (j - i - 1) (by omega)
  simpa [show i+(j - i - 1)+1=j by omega] using this
 ·intro h j h0 hj a b ha hb;obtain⟨h1,rfl⟩:=List.getElem?_eq_some_iff.1 ha;obtain⟨h2,rfl⟩:=List.getElem?_eq_some_iff.1 hb;exact List.pairwise_iff_getElem.1 h (j - 1) j h1 h2 (by omega)
theorem zyk{l:List Int}(hl:zrT l):Ev (zs0 l) (l.Pairwise (· < ·)):=by
 unfold zrT at hl;unfold zs0
 by_cases h0:l.length=0
 ·have:l=[]:=List.eq_nil_of_length_eq_zero h0;subst this
  show Ev (zsZ [] 1 1) _
  rw[zsZ,if_neg (by decide)];exact Ev.tt .nil
 ·have e:∃n,l.length=n+1:=⟨l.length - 1,by omega⟩;obtain⟨n,hn⟩:=e
  have key:=zrN (n:=n) (F:=fun d x=>zsZ l d (x+1)) (ok:=fun j=>∀a b,l[j]? = some a->l[j+1]? = some b->a < b) (bad:=some false) (fin:=some true) (fun d k hk=>by
   show(_->zsZ l (d+1) ((k:Int)+1)=_)/\_
   have ha:=List.getElem?_eq_getElem (show k < l.length by omega);have hb:=List.getElem?_eq_getElem (show k+1 < l.length by omega);rw[zsZ,if_pos (by omega),zrK (show(k:Int)+1=((k+1:Nat):Int) by omega) (show k+1 < l.length by omega),obs,zqr (fI (by omega)),zrK (show(k:Int)+1 - 1=(k:Int) by omega) (show k < l.length by omega),obs];refine⟨fun h=>?_,fun h=>?_⟩
   ·have:=h _ _ ha hb;rw[if_neg (by omega),zqr (fI (by omega))]
   ·rw[if_pos]
    apply Classical.byContradiction
    intro h2
    exact h fun a b h3 h4=>by rw[ha] at h3; rw[hb] at h4; cases h3; cases h4; omega) (fun d=>by show zsZ l (d+1) _=_; rw[zsZ,if_neg (by omega)]) (d:=((l.length:Int) - 1).toNat+1) (by omega)
  have e0:zsZ l (((l.length:Int) - 1).toNat+1) (0+1)=zsZ l (((l.length:Int) - 1).toNat+1) 1:=rfl
  have hiff:(∀j,j < n->∀a b,l[j]? = some a->l[j+1]? = some b->a < b)↔l.Pairwise (· < ·):=by
   rw[<- zyj]
   constructor
   ·intro h j h0 hj a b h1 h2;have:=h (j - 1) (by omega) a b h1;rw[show j - 1+1=j by omega] at this;exact this h2
   ·intro h j hj a b h1 h2;exact h (j+1) (by omega) (by omega) a b (by rw[Nat.add_sub_cancel]; exact h1) h2
  by_cases hq:∀j,j < n->∀a b,l[j]? = some a->l[j+1]? = some b->a < b
  ·have:=key.1 hq;exact⟨true,this,⟨fun _=>hiff.1 hq,fun _=>rfl⟩⟩
  ·have:=key.2 hq;exact⟨false,this,⟨fun h=>(by cases h),fun h=>absurd (hiff.2 h) hq⟩⟩
theorem zyl{s:Soc}{l:List Int}(hl:zrT l)(hm:zrT s.Members):Ev (zs5 s l) (zyi s.Members.length l):=by
 unfold zrT at hm;refine((zyk hl).and fun _=>(Ev.each (q:=fun v=>0<=v/\v<=(s.Members.length:Int) - 1) (fun v _=>?_) hl.lt gI).ret).imp Iff.rfl;exact Ev.gd (fI (by omega)) zx1.ret
theorem zym{s:Soc}{out:List Int}(hs:zxY s)(hl:zrT out)(ho:zyi s.Members.length out):ztb s out=some (zyd s out,0):=by
 have h1:=hs.m5; have h2:=hs.l3;unfold ztb;rw[zx7 (by unfold zrT; omega) (by unfold zrT; omega),obs,if_pos (zx0.2 hs),(zyl hl (by unfold zrT; omega)).some_of ho,obs,if_pos rfl,zyh hl h1,obs]
theorem zyn(n:Nat):zyi n []:=⟨.nil,fun _ h=>by cases h⟩
def zyo(lo hi:Int):List Int:=(List.range (hi - lo+1).toNat).map fun(k:Nat)=>lo+(k:Int)
theorem zyp{lo hi x:Int}:x∈zyo lo hi↔lo<=x/\x<=hi:=by
 unfold zyo;rw[List.mem_map]
 constructor
 ·rintro⟨k,h1,rfl⟩
  have:=List.mem_range.1 h1
  omega
 ·intro h; exact⟨(x - lo).toNat,List.mem_range.2 (by omega),by omega⟩
def zyq(g:Rg->Int)(l:List Rg):Int:=zwM (l.map g)
theorem zyr{l:List Rg}(h:∀r∈l,RgV r):0<=zyq (·.Lo) l/\zyq (·.Lo) l<=zyq (·.Hi) l/\zyq (·.Hi) l<=100000 * l.length/\zyq (·.Hi) l<=zyq (·.Lo) l+30 * l.length:=by
 induction l with
 | nil=>exact⟨Int.le_refl _,Int.le_refl _,Int.le_refl _,Int.le_refl _⟩
 | cons r l ih=>
  have ih:=ih fun r hr=>h r (List.mem_cons_of_mem _ hr);have hr:=h r (List.mem_cons_self ..);unfold RgV at hr;have e1:zyq (·.Lo) (r::l)=r.Lo+zyq (·.Lo) l:=rfl;have e2:zyq (·.Hi) (r::l)=r.Hi+zyq (·.Hi) l:=rfl;rw[e1,e2,List.length_cons]
  omega
def loN(s:Soc):Int:=max 0 (zyq (·.Lo) s.Losses - s.Reserve - s.Treaty.Hi)
def hiN(s:Soc):Int:=max 0 (zyq (·.Hi) s.Losses - s.Reserve - s.Treaty.Lo)
theorem zys{s:Soc}(hs:zxY s):0<=loN s/\loN s<=hiN s/\hiN s<=300000/\hiN s<=loN s+120:=by
 have h:=zyr hs.full.ls;have h1:=hs.l3;have h2:=hs.full.tr;have h3:=hs.full.rs;unfold RgV at h2;unfold loN hiN
 omega
theorem zyt{g:Rg->Int}{l:List Rg}{k:Nat}{a:Rg}(h:l[k]? = some a):zyq g (l.take (k+1))=zyq g (l.take k)+g a:=by
 unfold zyq;rw[List.take_add_one,h,List.map_append,zwN]
 show _+(g a+0)=_; omega
theorem zyu{s:Soc}{a b:Int}(h:0<=a/\a<=1000000)(hb:0<=b/\b<=1000000)(hr:0<=s.Reserve/\s.Reserve<=100000):ztc s a b=some (max 0 (a - s.Reserve - b)):=by
 unfold ztc;rw[zqr (fI (by omega)),zqr (fI (by omega))]
theorem zyv{hi:Int}(hh:hi<=1000000):∀(d:Nat) (x:Int),0<=x->(hi - x+1).toNat < d->ztd hi d x=some (zyo x hi)
 | 0,_,_,h=>by omega
 | d+1,x,hx,h=>by
  rw[ztd]
  by_cases hc:x<=hi
  ·rw[if_pos hc,zqr (fI (by omega)),zyv hh d (x+1) (by omega) (by omega),obs]
   have e:(hi - x+1).toNat=(hi - (x+1)+1).toNat+1:=by omega
   have e2:zyo x hi=x::zyo (x+1) hi:=by
    unfold zyo;rw[e,List.range_succ_eq_map,List.map_cons,List.map_map];refine congr (congrArg List.cons (by show x+((0:Nat):Int)=x; omega)) (List.map_congr_left fun k _=>?_)
    show x+((k+1:Nat):Int)=x+1+(k:Int)
    omega
   rw[e2]
  ·rw[if_neg hc]
   have e:(hi - x+1).toNat=0:=by omega
   unfold zyo; rw[e]; rfl
theorem zyw{s:Soc}(hs:zxY s):ztg s=some (zyo (loN s) (hiN s)):=by
 have hb:=zyr hs.full.ls;have hn:=zys hs;have h3:=hs.l3;have htr:=hs.full.tr;unfold RgV at htr;have hrs:=hs.full.rs
 have e:ztf s=some (zyo (loN s) (hiN s)):=by
  unfold ztf;refine zwv (n:=s.Losses.length) (fun d (st:Int × Int) x=>zte s d st.1 st.2 x) (fun k=>(zyq (·.Lo) (s.Losses.take k),zyq (·.Hi) (s.Losses.take k))) (fun d k hk=>?_) (fun d=>?_) (s.Losses.length+1) 0 (by omega) (by omega)
  ·have hg:=List.getElem?_eq_getElem hk;have h1:=zyr (l:=s.Losses.take k) fun r hr=>hs.full.ls r (List.mem_of_mem_take hr);have h2:=hs.full.ls _ (List.getElem_mem hk)
   have h4:(s.Losses.take k).length<=3:=by rw[List.length_take]; omega
   unfold RgV at h2
   show zte s (d+1) (zyq _ _) (zyq _ _) (k:Int)=zte s d (zyq _ _) (zyq _ _) _
   rw[zte,if_pos (by omega),zrJ hg,obs,zqr (fI (by omega)),zqr (fI (by omega)),zqr (fI (by omega)),zyt hg,zyt hg]
  ·show zte s (d+1) (zyq _ _) (zyq _ _) _=_
   rw[zte,if_neg (Int.lt_irrefl _),List.take_length,zyu (by omega) (by omega) hrs,obs,zyu (by omega) (by omega) hrs,obs];exact zyv (by unfold hiN at hn; omega) _ _ (by omega) (by omega)
 unfold ztg;rw[e]; rfl
end
end Go.Proofs.Ytkclhciahokifaa

namespace Go.Proofs.Ytkclhciahokifaa
open _root_.Go.Proofs.Try
open Go.Abs
set_option maxRecDepth 100000
noncomputable section
def Inc(n fr:Nat)(T:List Int):Prop:=T.Pairwise (· < ·)/\∀v∈T,(fr:Int)<=v/\v < n
theorem Inc.cons{n fr:Nat}{x:Int}{T:List Int}:Inc n fr (x::T)↔((fr:Int)<=x/\x < n)/\Inc n (x+1).toNat T:=by
 unfold Inc;rw[List.pairwise_cons]
 constructor
 ·rintro⟨⟨h1,h2⟩,h3⟩
  have hx:=h3 x (List.mem_cons_self ..);exact⟨hx,h2,fun v hv=>by have:=h1 v hv; have:=h3 v (List.mem_cons_of_mem _ hv); omega⟩
 ·rintro⟨hx,h2,h3⟩
  refine⟨⟨fun v hv=>by have:=h3 v hv; omega,h2⟩,fun v hv=>?_⟩
  rcases List.mem_cons.1 hv with rfl | hv
  ·exact hx
  ·have:=h3 v hv; omega
theorem zyx{n:Nat}{D:List Int}:∀{d:Nat} {pre:List Int} {fr:Nat},D∈zrx n d pre fr↔∃T,D=pre++T/\T.length=d/\Inc n fr T
 | 0,pre,fr=>by
  show D∈[pre]↔_
  rw[List.mem_singleton]
  constructor
  ·rintro rfl; exact⟨[],by simp,rfl,.nil,fun v hv=>by cases hv⟩
  ·rintro⟨T,h1,h2,_⟩
   rw[List.eq_nil_of_length_eq_zero h2,List.append_nil] at h1; exact h1
 | d+1,pre,fr=>by
  show D∈zrw (fun x=>zrx n d (pre++[(x:Int)]) (x+1)) (n - fr) fr↔_
  rw[zuK]
  constructor
  ·rintro⟨x,h1,h2,h3⟩
   obtain⟨T,h4,h5,h6⟩:=zyx.1 h3;refine⟨(x:Int)::T,by rw[h4]; simp,by simp[h5],Inc.cons.2 ⟨by omega,?_⟩⟩;rw[show((x:Int)+1).toNat=x+1 by omega]; exact h6
  ·rintro⟨T,h1,h2,h3⟩
   cases T with
   | nil=>simp at h2
   | cons v T=>
    obtain⟨h4,h5⟩:=Inc.cons.1 h3;refine⟨v.toNat,by omega,by omega,zyx.2 ⟨T,?_,by simpa using h2,?_⟩⟩
    ·rw[show((v.toNat:Nat):Int)=v by omega,h1]; simp
    ·rw[show v.toNat+1=(v+1).toNat by omega]; exact h5
theorem zyy{n:Nat}:∀{T:List Int} {fr:Nat},Inc n fr T->T.length<=n - fr
 | [],_,_=>Nat.zero_le _
 | v::T,fr,h=>by
  obtain⟨h1,h2⟩:=Inc.cons.1 h;have:=zyy h2
  simp only[List.length_cons]
  omega
theorem zyz{n:Nat}{D:List Int}:D∈zoh n↔Inc n 0 D:=by
 unfold zoh;rw[zuK]
 constructor
 ·rintro⟨s,_,_,h⟩
  obtain⟨T,h1,_,h2⟩:=zyx.1 h;rw[h1]; exact h2
 ·intro h;have:=zyy h;exact⟨D.length,Nat.zero_le _,by omega,zyx.2 ⟨D,rfl,rfl,h⟩⟩
def zyA(b:Nat):Nat->List Int
 | 0=>[]
 | p+1=>zyA b p++(if b.testBit p then [(p:Int)] else [])
def zyB(b:Nat):List Int:=zyA b 16
theorem zyC{b:Nat}{v:Int}:∀{p:Nat},v∈zyA b p↔0<=v/\v < p/\b.testBit v.toNat=true
 | 0=>⟨fun h=>(by cases h),fun h=>by omega⟩
 | p+1=>by
  show v∈zyA b p++_↔_
  rw[List.mem_append,zyC]
  constructor
  ·rintro (h | h)
   ·exact⟨h.1,by omega,h.2.2⟩
   ·by_cases hb:b.testBit p=true
    ·rw[if_pos hb,List.mem_singleton] at h;subst h; exact⟨by omega,by omega,hb⟩
    ·rw[if_neg hb] at h; cases h
  ·rintro⟨h1,h2,h3⟩
   by_cases hv:v=(p:Int)
   ·subst hv;have h4:b.testBit p=true:=h3;rw[if_pos h4]; exact .inr (List.mem_singleton.2 rfl)
   ·exact .inl ⟨h1,by omega,h3⟩
theorem zyD{b:Nat}:∀p:Nat,(zyA b p).Pairwise (· < ·)
 | 0=>.nil
 | p+1=>by
  show(zyA b p++_).Pairwise _
  rw[List.pairwise_append];refine⟨zyD p,?_,fun a ha c hc=>?_⟩
  ·split
   ·exact List.pairwise_singleton _ _
   ·exact .nil
  ·have:=zyC.1 ha
   split at hc
   ·rw[List.mem_singleton] at hc; omega
   ·cases hc
theorem zyE{b p:Nat}(h:∀q,p<=q->b.testBit q=false):∀k,zyA b (p+k)=zyA b p
 | 0=>rfl
 | k+1=>by
  show zyA b (p+k)++(if b.testBit (p+k) then _ else _)=_
  rw[h (p+k) (by omega),zyE h k]; simp
theorem zyF{b:Nat}:∀p,(zyA b p).length<=p
 | 0=>Nat.le_refl _
 | p+1=>by
  show(zyA b p++_).length<=_
  rw[List.length_append];have:=zyF (b:=b) p
  split <;> simp <;> omega
theorem zyG(b p:Nat):(b:Int) / 2 ^ p=((b / 2 ^ p:Nat):Int):=by simp
theorem zjo{b p q:Nat}(h:b / 2 ^ p=0)(hq:p<=q):b.testBit q=false:=by
 have h1:b < 2 ^ p:=by
  rcases Nat.lt_or_ge b (2 ^ p) with h2 | h2
  ·exact h2
  ·have:=Nat.div_pos h2 (Nat.two_pow_pos p); omega
 exact Nat.testBit_lt_two_pow (Nat.lt_of_lt_of_le h1 (Nat.pow_le_pow_right (by omega) hq))
def bef:List Int->List Int->Bool
 | [],[]=>false
 | [],_::_=>true
 | _::_,[]=>false
 | x::a,y::b=>if x=y then bef a b else decide (x < y)
def shB(a b:List Int):Bool:=decide (a.length < b.length) || (decide (a.length=b.length) && bef a b)
theorem zyH:∀A:List Int,bef A A=false
 | []=>rfl
 | x::A=>by show(if x=x then bef A A else _)=_; rw[if_pos rfl,zyH A]
theorem zyI:∀{A B:List Int},bef A B=true->bef B A=false
 | [],[],h=>by cases h
 | [],_::_,_=>rfl
 | _::_,[],h=>by cases h
 | x::A,y::B,h=>by
  have h':(if x=y then bef A B else decide (x < y))=true:=h
  show(if y=x then bef B A else decide (y < x))=false
  by_cases hxy:x=y
  ·rw[if_pos hxy] at h'; rw[if_pos hxy.symm]; exact zyI h'
  ·rw[if_neg hxy] at h'; rw[if_neg fun h=>hxy h.symm];have:=of_decide_eq_true h';exact decide_eq_false (by omega)
theorem zyJ:∀A B:List Int,A=B\/bef A B=true\/bef B A=true
 | [],[]=>.inl rfl
 | [],_::_=>.inr (.inl rfl)
 | _::_,[]=>.inr (.inr rfl)
 | x::A,y::B=>by
  show x::A=y::B\/(if x=y then bef A B else decide (x < y))=true\/(if y=x then bef B A else decide (y < x))=true
  by_cases hxy:x=y
  ·subst hxy;rw[if_pos rfl,if_pos rfl]
   rcases zyJ A B with h | h | h
   ·exact .inl (by rw[h])
   ·exact .inr (.inl h)
   ·exact .inr (.inr h)
  ·rw[if_neg hxy,if_neg fun h=>hxy h.symm]
   by_cases h:x < y
   ·exact .inr (.inl (decide_eq_true h))
   ·exact .inr (.inr (decide_eq_true (by omega)))
theorem zyK:∀{A B:List Int},A.Pairwise (· < ·)->B.Pairwise (· < ·)->(∀v,v∈A↔v∈B)->A=B
 | [],[],_,_,_=>rfl
 | [],b::B,_,_,h=>by have:=(h b).2 (List.mem_cons_self ..); cases this
 | a::A,[],_,_,h=>by have:=(h a).1 (List.mem_cons_self ..); cases this
 | a::A,b::B,hA,hB,h=>by
  rw[List.pairwise_cons] at hA hB
  have hab:a=b:=by
   rcases List.mem_cons.1 ((h a).1 (List.mem_cons_self ..)) with h1 | h1
   ·exact h1
   ·rcases List.mem_cons.1 ((h b).2 (List.mem_cons_self ..)) with h2 | h2
    ·exact h2.symm
    ·have:=hA.1 _ h2; have:=hB.1 _ h1; omega
  subst hab
  congr 1
  refine zyK hA.2 hB.2 fun v=>?_;have hv:=h v;rw[List.mem_cons,List.mem_cons] at hv
  constructor
  ·intro h1
   rcases hv.1 (.inr h1) with h2 | h2
   ·have:=hA.1 _ h1; omega
   ·exact h2
  ·intro h1
   rcases hv.2 (.inr h1) with h2 | h2
   ·have:=hB.1 _ h1; omega
   ·exact h2
theorem zyL{n b:Nat}(_hn:n<=16)(hb:b < 2 ^ n):Inc n 0 (zyB b):=
 ⟨zyD 16,fun v hv=>by
  obtain⟨h1,h2,h3⟩:=zyC.1 hv;refine⟨by omega,?_⟩
  by_cases h4:v < n
  ·exact h4
  ·have:=Nat.testBit_lt_two_pow (Nat.lt_of_lt_of_le hb (Nat.pow_le_pow_right (by omega) (show n<=v.toNat by omega)))
   rw[this] at h3; cases h3⟩
theorem zyM{l:List Int}(h:l ≠ [])(hl:l.length<=1048577):ztI l=some (zrV l):=by
 unfold ztI
 cases l with
 | nil=>exact absurd rfl h
 | cons x l=>
  rw[if_neg (by rw[List.length_cons]; omega),zrL rfl,obs];refine(zrU (l:=x::l) (fun s a=>min s a) (fun d s k=>ztH (x::l) d s k) (fun s=>some s) (fun d k s a hk=>?_) (fun d s=>?_) _ 0 x (Nat.zero_le _) (by omega)).trans ?_
  ·have hkl:=(List.getElem?_eq_some_iff.1 hk).1
   show ztH (x::l) (d+1) s (k:Int)=_
   rw[ztH,if_pos (by omega),zrJ hk,obs]
   by_cases hc:a < s
   ·rw[if_pos hc,zqr (fI (by omega)),Int.min_eq_right (by omega)]
   ·rw[if_neg hc,zqr (fI (by omega)),Int.min_eq_left (by omega)]
  ·show ztH (x::l) (d+1) s _=_
   rw[ztH,if_neg (Int.lt_irrefl _)]
  ·rw[List.drop_zero]
   show some (l.foldl min (min x x))=_
   rw[Int.min_self]; rfl
theorem zyN{l:List Int}(h:l ≠ [])(hl:l.length<=1048577):ztK l=some (zrW l):=by
 unfold ztK
 cases l with
 | nil=>exact absurd rfl h
 | cons x l=>
  rw[if_neg (by rw[List.length_cons]; omega),zrL rfl,obs];refine(zrU (l:=x::l) (fun s a=>max s a) (fun d s k=>ztJ (x::l) d s k) (fun s=>some s) (fun d k s a hk=>?_) (fun d s=>?_) _ 1 x (by rw[List.length_cons]; omega) (by rw[List.length_cons]; omega)).trans ?_
  ·have hkl:=(List.getElem?_eq_some_iff.1 hk).1
   show ztJ (x::l) (d+1) s (k:Int)=_
   rw[ztJ,if_pos (by omega),zrJ hk,obs,zqr (fI (by omega))]
  ·show ztJ (x::l) (d+1) s _=_
   rw[ztJ,if_neg (Int.lt_irrefl _)]
  ·rfl
theorem zyO{l:List Int}(h:l ≠ []):zrV l∈l/\∀y∈l,zrV l<=y:=by
 cases l with
 | nil=>exact absurd rfl h
 | cons x l=>
  obtain⟨h1,h2,h3⟩:=zrX l x;refine⟨?_,fun y hy=>?_⟩
  ·rcases h1 with h1 | h1
   ·show l.foldl min x∈_; rw[h1]; exact List.mem_cons_self ..
   ·exact List.mem_cons_of_mem _ h1
  ·rcases List.mem_cons.1 hy with rfl | hy
   ·exact h2
   ·exact h3 y hy
theorem zyP{l:List Int}(h:l ≠ []):zrW l∈l/\∀y∈l,y<=zrW l:=by
 cases l with
 | nil=>exact absurd rfl h
 | cons x l=>
  obtain⟨h1,h2,h3⟩:=zrY l x;refine⟨?_,fun y hy=>?_⟩
  ·rcases h1 with h1 | h1
   ·show l.foldl max x∈_; rw[h1]; exact List.mem_cons_self ..
   ·exact List.mem_cons_of_mem _ h1
  ·rcases List.mem_cons.1 hy with rfl | hy
   ·exact h2
   ·exact h3 y hy
def bnd(s:Soc)(g:Int->Int):Rg:={ Lo:=zrV ((zyo (loN s) (hiN s)).map g),Hi:=zrW ((zyo (loN s) (hiN s)).map g) }
def zyQ(s:Soc)(out:List Int)(N:Int):Oc:={ need:=N,calls:=mk5 (zxN s.Members (zyc s.Members.length out) N).1 }
theorem zyR{s:Soc}(hs:zxY s):(zyo (loN s) (hiN s)).length<=121:=by
 have:=zys hs;unfold zyo; rw[List.length_map,List.length_range]; omega
theorem zyS{s:Soc}(hs:zxY s):zyo (loN s) (hiN s) ≠ []:=fun h=>by
 have:=zys hs;have:loN s∈zyo (loN s) (hiN s):=zyp.2 (by omega)
 rw[h] at this; cases this
theorem zyT{s:Soc}(hs:zxY s)(g:Int->Int):(∃N,(loN s<=N/\N<=hiN s)/\g N=(bnd s g).Lo)/\(∃N,(loN s<=N/\N<=hiN s)/\g N=(bnd s g).Hi)/\∀N,loN s<=N/\N<=hiN s->(bnd s g).Lo<=g N/\g N<=(bnd s g).Hi:=by
 have hne:(zyo (loN s) (hiN s)).map g ≠ []:=fun h=>zyS hs (List.map_eq_nil_iff.1 h);obtain⟨a1,a2⟩:=zyO hne;obtain⟨b1,b2⟩:=zyP hne;obtain⟨x,hx,ex⟩:=List.mem_map.1 a1;obtain⟨y,hy,ey⟩:=List.mem_map.1 b1;exact⟨⟨x,zyp.1 hx,ex⟩,⟨y,zyp.1 hy,ey⟩,fun N hN=>⟨a2 _ (List.mem_map.2 ⟨N,zyp.2 hN,rfl⟩),b2 _ (List.mem_map.2 ⟨N,zyp.2 hN,rfl⟩)⟩⟩
theorem zyU{s:Soc}(hs:zxY s):bnd s (fun N=>N)={ Lo:=loN s,Hi:=hiN s }:=by
 obtain⟨⟨x,hx,ex⟩,⟨y,hy,ey⟩,h⟩:=zyT hs fun N=>N;have hb:=zys hs;have h1:=(h (loN s) ⟨Int.le_refl _,hb.2.1⟩).1;have h2:=(h (hiN s) ⟨hb.2.1,Int.le_refl _⟩).2
 have e1:(bnd s fun N=>N).Lo=loN s:=by omega
 have e2:(bnd s fun N=>N).Hi=hiN s:=by omega
 revert e1 e2
 generalize bnd s (fun N=>N)=r;intro e1 e2
 cases r
 exact congr (congrArg Rg.mk e1) e2
theorem zyV{s:Soc}(hs:zxY s)(out:List Int){N:Int}(hN:0<=N/\N<=1000000):ztE (zyd s out) N=some (zyQ s out N):=zxP (w:=zyd s out) hs.msOk rfl (zye s.Members out) hN
theorem zyW{s:Soc}(hs:zxY s){out:List Int}{q:Qu}{g:Int->Int}(hg:∀N,loN s<=N->N<=hiN s->q.ask (zyQ s out N)=some (g N)) :
  ∀(L:List Int) (acc:List Int),(∀N∈L,loN s<=N/\N<=hiN s)->acc.length+L.length<=1000->acc++L.map g ≠ []->ztL (zyd s out) q L acc=some { Lo:=zrV (acc++L.map g),Hi:=zrW (acc++L.map g) }
 | [],acc,_,hl,hne=>by
  rw[List.map_nil,List.append_nil] at hne ⊢;rw[ztL,zyM hne (by omega),obs,zyN hne (by omega),obs]
 | N::L,acc,hN,hl,hne=>by
  have h1:=hN N (List.mem_cons_self ..);have hb:=zys hs;rw[List.length_cons] at hl;rw[ztL,zyV hs out (by omega),obs,hg N h1.1 h1.2,obs,zqr (by omega),zyW hs hg L (acc++[g N]) (fun x hx=>hN x (List.mem_cons_of_mem _ hx)) (by rw[List.length_append]; show acc.length+1+_<=_; omega) (by simp)];rw[List.map_cons,List.append_assoc]; rfl
theorem zyX{s:Soc}(hs:zxY s){out:List Int}{q:Qu}{g:Int->Int}(hg:∀N,loN s<=N->N<=hiN s->q.ask (zyQ s out N)=some (g N)):ztM (zyd s out) q=some (bnd s g):=by
 unfold ztM;rw[show(zyd s out).s=s from rfl,zyw hs,obs];have hl:=zyR hs;exact zyW hs hg _ [] (fun N hN=>zyp.1 hN) (by show 0+_<=_; omega) (fun h=>zyS hs (List.map_eq_nil_iff.1 h))
theorem zyY{s:Soc}(hs:zxY s):ztU s=some ({ Lo:=loN s,Hi:=hiN s },0):=by
 unfold ztU;rw[zym hs (Nat.zero_le _) (zyn _),obs,if_pos rfl,zyX hs (g:=fun N=>N) (fun N _ _=>rfl),obs,zyU hs]
theorem zyZ{s:Soc}(hs:zxY s)(out:List Int){N:Int}(hN:0<=N/\N<=1000000):ztt (zyQ s out N)=some (zxN s.Members (zyc s.Members.length out) N).2:=by
 have hsup:=zye s.Members out;have h1:=zxT hs.msOk hsup hN
 have hb:Bd 1000000000000 (zxN s.Members (zyc s.Members.length out) N).1:=fun i hi=>by have:=zxW hs.msOk hsup hN hi; omega
 have hb5:=fun i hi=>zxW hs.msOk hsup hN (i:=i) hi;have b0:=hb5 0 (by omega); have b1:=hb5 1 (by omega); have b2:=hb5 2 (by omega); have b3:=hb5 3 (by omega); have b4:=hb5 4 (by omega)
 have hS:0<=S5 (zxN s.Members (zyc s.Members.length out) N).1/\S5 (zxN s.Members (zyc s.Members.length out) N).1<=500000:=by unfold S5; omega
 unfold ztt
 show(zti (mk5 (zxN s.Members (zyc s.Members.length out) N).1)).bind _=_
 rw[zwE hb,obs,zqr (fI (by show -9223372036854775808<=N - S5 _/\N - S5 _ < _; omega))];exact congrArg some (show N - S5 (zxN s.Members (zyc s.Members.length out) N).1=_ by omega)
def zy0(s:Soc)(out:List Int)(N:Int):List Int:=(l5 (zxN s.Members (zyc s.Members.length out) N).1).take s.Members.length
theorem zy1{s:Soc}(out:List Int)(N:Int)(h5:s.Members.length<=5):(zy0 s out N).length=s.Members.length:=by
 unfold zy0; rw[List.length_take]; show min _ 5=_; omega
theorem zy2{s:Soc}(out:List Int)(N:Int)(h5:s.Members.length<=5){k:Nat}(hk:k < s.Members.length):(zy0 s out N)[k]? = some ((zxN s.Members (zyc s.Members.length out) N).1 k):=by
 unfold zy0; rw[List.getElem?_take,if_pos hk]; exact zww (by omega)
theorem zy3{s:Soc}(hs:zxY s){N:Int}(hN:0<=N/\N<=300000):ztW s N=some (zy0 s [] N,(zxN s.Members (zyc s.Members.length []) N).2,0):=by
 have h5:=hs.m5;unfold ztW;rw[zym hs (Nat.zero_le _) (zyn _),obs,if_pos rfl,zx1.some_of hN,obs,if_pos rfl]
 show(ztE (zyd s []) N).bind _=_
 rw[zyV hs [] (by omega),obs,zqr (by omega)]
 have e:ztV ((([(zyQ s [] N).calls.p0,(zyQ s [] N).calls.p1,(zyQ s [] N).calls.p2,(zyQ s [] N).calls.p3,(zyQ s [] N).calls.p4]:List Int).take (Int.toNat (s.Members.length:Int))).drop (Int.toNat (0:Int)))=some (zy0 s [] N):=by
  have hl:=zy1 [] N h5
  show ztV (zy0 s [] N)=_
  unfold ztV;rw[zqr (by rw[hl]; show 0+_<=_; omega)]; rfl
 rw[e,obs,zyZ hs [] (by omega),obs]
theorem zy4{s:Soc}(hs:zxY s)(out:List Int)(N:Int){k:Nat}(hk:k < s.Members.length):ztF (zyQ s out N) (k:Int)=some ((zxN s.Members (zyc s.Members.length out) N).1 k):=by
 have h5:=hs.m5;unfold ztF
 show(idx (l5 (zxN s.Members (zyc s.Members.length out) N).1) (k:Int)).bind _=_
 rw[zwx (by omega),obs]
def zy5(s:Soc)(out:List Int):List Rg:=(List.range s.Members.length).map fun k=>bnd s fun N=>(zxN s.Members (zyc s.Members.length out) N).1 k
theorem zy6{s:Soc}(out:List Int):(zy5 s out).length=s.Members.length:=by unfold zy5; rw[List.length_map,List.length_range]
theorem zy7{s:Soc}(out:List Int){k:Nat}(hk:k < s.Members.length):(zy5 s out)[k]? = some (bnd s fun N=>(zxN s.Members (zyc s.Members.length out) N).1 k):=by
 unfold zy5; rw[List.getElem?_map,List.getElem?_range hk]; rfl
theorem zy8{s:Soc}(hs:zxY s){out:List Int}(hl:zrT out)(ho:zyi s.Members.length out):ztY s out=some (zy5 s out,0):=by
 have h5:=hs.m5;unfold ztY;rw[zym hs hl ho,obs,if_pos rfl];refine zwv (n:=s.Members.length) (fun d acc x=>ztX s (zyd s out,0) d acc x) (fun k=>(zy5 s out).take k) (fun d k hk=>?_) (fun d=>?_) (s.Members.length+1) 0 (by omega) (by omega)
 ·show ztX s (zyd s out,0) (d+1) _ _=_
  have hb:ztG (k:Int)=some (fun o=>ztF o (k:Int)):=rfl;rw[ztX,if_pos (by omega),hb,obs]
  show(ztM (zyd s out) _).bind _=_
  rw[zyX hs (g:=fun N=>(zxN s.Members (zyc s.Members.length out) N).1 k) (fun N _ _=>zy4 hs out N hk),obs,zqr (by rw[List.length_take]; omega),zqr (fI (by omega))];rw[List.take_add_one,zy7 out hk]; rfl
 ·show ztX s (zyd s out,0) (d+1) _ _=_
  rw[ztX,if_neg (Int.lt_irrefl _),List.take_of_length_le (by rw[zy6]; exact Nat.le_refl _)]
theorem zy9{s:Soc}(hs:zxY s):ztZ s=some (zy5 s [],0):=by
 unfold ztZ;rw[zy8 hs (Nat.zero_le _) (zyn _),obs]
def zza(s:Soc)(out:List Int)(N:Int):Int:=(zxN s.Members (zyc s.Members.length out) N).2
theorem zzb{s:Soc}(hs:zxY s):zt0 s=some (bnd s (zza s []),0):=by
 have hb:=zys hs;unfold zt0;rw[zym hs (Nat.zero_le _) (zyn _),obs,if_pos rfl,zyX hs (g:=zza s []) (fun N h1 h2=>zyZ hs [] (by omega)),obs]
theorem zzc{s:Soc}(hs:zxY s)(out:List Int):ztN (zyd s out)=some (hiN s):=by
 unfold ztN;rw[zyX hs (g:=fun N=>N) (fun N _ _=>rfl),obs,zyU hs]
theorem zzd(a:Mb){r t:Int}(hu:0<=unN a)(h:r<=t):min (unN a * r / 100) a.Most<=min (unN a * t / 100) a.Most:=by
 have h1:unN a * r<=unN a * t:=Int.mul_le_mul_of_nonneg_left h hu;have h2:=Int.ediv_le_ediv (c:=100) (by omega) h1
 omega
def brN(ms:List Mb)(rate:Int):Int:=zwM (ms.map fun a=>min (unN a * rate / 100) a.Most)
theorem zze{ms:List Mb}(hm:∀a∈ms,zxt a){r:Int}(hr:0<=r/\r<=10000):0<=brN ms r/\brN ms r<=100000 * ms.length:=by
 induction ms with
 | nil=>exact⟨Int.le_refl _,Int.le_refl _⟩
 | cons a ms ih=>
  have ih:=ih fun a ha=>hm a (List.mem_cons_of_mem _ ha);have ha:=hm a (List.mem_cons_self ..);have hu:=zxv ha;have hmo:=ha.most;have h1:0<=unN a * r / 100:=Int.ediv_nonneg (Int.mul_nonneg (by omega) hr.1) (by omega);have e:brN (a::ms) r=min (unN a * r / 100) a.Most+brN ms r:=rfl;rw[e,List.length_cons]; omega
theorem zzf{ms:List Mb}(hm:∀a∈ms,zxt a){r t:Int}(h:r<=t):brN ms r<=brN ms t:=by
 induction ms with
 | nil=>exact Int.le_refl _
 | cons a ms ih=>
  have ih:=ih fun a ha=>hm a (List.mem_cons_of_mem _ ha);have h2:=zzd a (by have:=zxv (hm a (List.mem_cons_self ..)); omega) h
  show min _ _+brN ms r<=min _ _+brN ms t
  omega
theorem zzg{ms:List Mb}{r:Int}{k:Nat}{a:Mb}(h:ms[k]? = some a):brN (ms.take (k+1)) r=brN (ms.take k) r+min (unN a * r / 100) a.Most:=by
 unfold brN;rw[List.take_add_one,h,List.map_append,zwN]
 show _+(min (unN a * r / 100) a.Most+0)=_
 rw[Int.add_zero]
theorem zzh{s:Soc}(hs:zxY s)(out:List Int){r:Int}(hr:0<=r/\r<=10000):ztP (zyd s out) r=some (brN s.Members r):=by
 have h5:=hs.m5;unfold ztP;refine zwv (n:=s.Members.length) (fun d acc x=>ztO (zyd s out) r d acc x) (fun k=>brN (s.Members.take k) r) (fun d k hk=>?_) (fun d=>?_) (s.Members.length+1) 0 (by omega) (by omega)
 ·have hg:=List.getElem?_eq_getElem hk;have ha:=hs.full.ms _ (List.getElem_mem hk);have hu:=zxv ha;have hmo:=ha.most;have hb:=zze (ms:=s.Members.take k) (fun a ha=>hs.full.ms a (List.mem_of_mem_take ha)) hr
  have hlk:(s.Members.take k).length<=5:=by rw[List.length_take]; omega
  have hm:=zw5 (a:=unN s.Members[k]) (x:=r) (A:=10000) (X:=10000) (by omega) hr;have hq:0<=unN s.Members[k] * r / 100:=Int.ediv_nonneg hm.1 (by omega)
  have hun:ztv s.Members[k]=some (unN s.Members[k]):=by
   have h1:=ha.sum; have h2:=ha.cls;unfold unN at hu;unfold ztv unN;rw[zqr (by omega),zqr (by omega),zqr (fI (by omega))]
  show ztO (zyd s out) r (d+1) _ _=_
  rw[ztO,if_pos (show(k:Int) < ((zyd s out).s.Members.length:Int) by show(k:Int) < (s.Members.length:Int); omega),show idx (zyd s out).s.Members (k:Int)=some s.Members[k] from zrJ hg,obs,hun,obs,zqr (by omega),zqr hr.1,zqr (fI (by omega)),zqr hm.1,zqr (by omega),zqr (fI (by omega)),zqr (fI (by omega)),zqr (fI (by omega)),zzg hg]
 ·show ztO (zyd s out) r (d+1) _ _=_
  rw[ztO,if_neg (show ¬ ((s.Members.length:Nat):Int) < ((zyd s out).s.Members.length:Int) from Int.lt_irrefl _),List.take_length]
def zzi(s:Soc)(r:Int):Bool:=decide (hiN s<=brN s.Members r)
theorem zzj{s:Soc}(hs:zxY s){r:Int}(hr:0<=r/\r<=10000):ztQ (zyd s []) r=some (zzi s r):=by
 unfold ztQ;rw[zzh hs [] hr,obs,zzc hs,obs]; rfl
theorem zzk{p:Int->Option Bool}{f:Nat->Bool}{n:Nat}(hn:n<=1000000)(hp:∀m,m < n->p (m:Int)=some (f m))(hm:∀m k,m<=k->k < n->f m=true->f k=true):∀d (i j:Nat),i<=j->j<=n->j - i < d->(∀m,m < i->f m=false)->(∀m,j<=m->m < n->f m=true) ->
  ∃k:Nat,ztS p d (i:Int) (j:Int)=some (k:Int)/\k<=n/\(∀m,m < k->f m=false)/\(∀m,k<=m->m < n->f m=true)
 | 0,_,_,_,_,h,_,_=>by omega
 | d+1,i,j,hij,hj,h,hlo,hhi=>by
  rw[ztS]
  by_cases hc:i < j
  ·obtain⟨md,hmd⟩:∃md:Nat,md=(i+j) / 2:=⟨_,rfl⟩
   have hf:zl6 .u64 ((i:Int)+j):=show _/\_ by constructor <;> omega
   have e:zmb .i64 (zmb .u64 ((i:Int)+j) / 2)=(md:Int):=by
    rw[wz hf,wz (fI (by omega))]; omega
   rw[if_pos (by omega),zqr (fI (by omega)),zqr (by rw[wz hf]; omega),zqr (by omega),zqr (by omega),zqr (by rw[wz hf]; exact show _/\_ by constructor <;> omega),e,hp md (by omega),obs]
   cases hq:f md with
   | true=>
    rw[if_pos rfl];exact zzk hn hp hm d i md (by omega) (by omega) (by omega) hlo fun m h1 h2=>hm md m h1 h2 hq
   | false=>
    rw[if_neg (by decide),zqr (fI (by omega)),show(md:Int)+1=((md+1:Nat):Int) by omega]
    exact zzk hn hp hm d (md+1) j (by omega) hj (by omega) (fun m h1=>by
     cases hq2:f m with
     | false=>rfl
     | true=>have:=hm m md (by omega) (by omega) hq2; rw[hq] at this; cases this) hhi
  ·rw[if_neg (by omega)];exact⟨i,rfl,by omega,hlo,fun m h1 h2=>hhi m (by omega) h2⟩
theorem zzl{s:Soc}(hs:zxY s):∃k:Nat,ztT 10001 (fun r=>ztQ (zyd s []) r)=some (k:Int)/\k<=10001/\(∀m:Nat,m < k->zzi s m=false)/\(∀m:Nat,k<=m->m < 10001->zzi s m=true):=by
 unfold ztT
 exact zzk (n:=10001) (f:=fun m=>zzi s (m:Int)) (by omega) (fun m hm=>zzj hs (by omega)) (fun m k h1 h2 h3=>by
  have h4:hiN s<=brN s.Members (m:Int):=of_decide_eq_true h3;have h5:=zzf hs.full.ms (r:=(m:Int)) (t:=(k:Int)) (by omega)
  exact decide_eq_true (by omega)) _ 0 10001 (by omega) (by omega) (by omega) (fun m h=>by omega) (fun m h1 h2=>by omega)
theorem zzm{s:Soc}(hs:zxY s):(∃k:Nat,zt1 s=some ((k:Int),0)/\k<=10000/\hiN s<=brN s.Members (k:Int)/\∀m:Nat,m < k->brN s.Members (m:Int) < hiN s)\/(zt1 s=some (0,10)/\∀m:Nat,m<=10000->brN s.Members (m:Int) < hiN s):=by
 obtain⟨k,h1,h2,h3,h4⟩:=zzl hs
 have lt:∀m:Nat,zzi s (m:Int)=false->brN s.Members (m:Int) < hiN s:=fun m h=>by
  have:=of_decide_eq_false h; omega
 unfold zt1;rw[zym hs (Nat.zero_le _) (zyn _),obs,if_pos rfl]
 show(∃k':Nat,(ztT 10001 (fun r=>ztQ (zyd s []) r)).bind _=_/\_)\/((ztT 10001 (fun r=>ztQ (zyd s []) r)).bind _=_/\_)
 rw[h1,obs]
 by_cases hk:k<=10000
 ·rw[if_neg (by omega)];exact .inl ⟨k,rfl,hk,of_decide_eq_true (h4 k (Nat.le_refl _) (by omega)),fun m hm=>lt m (h3 m hm)⟩
 ·rw[if_pos (by omega)];exact .inr ⟨rfl,fun m hm=>lt m (h3 m (by omega))⟩
def zzn(s:Soc)(l:List Int):Bool:=decide (0 < (bnd s (zza s l)).Hi)
theorem zzo{s:Soc}(hs:zxY s){l:List Int}(hl:zrT l):ztR s l=some (zzn s l):=by
 have hb:=zys hs;unfold ztR;rw[zyh hl hs.m5,obs,zyX hs (g:=zza s l) (fun N h1 h2=>zyZ hs l (by omega)),obs]; rfl
theorem zzp{s:Soc}(hs:zxY s)(h:hiN s ≠ 0):zt2 s=some (zry s.Members.length (zzn s),0):=by
 have h5:=hs.m5
 have hlen:∀L∈zoh s.Members.length,zrT L:=fun L hL=>by have:=zyy (zyz.1 hL); unfold zrT; omega
 unfold zt2;rw[zym hs (Nat.zero_le _) (zyn _),obs,if_pos rfl,zzc hs,obs,if_neg h];unfold zrz;rw[zqr ⟨by omega,by omega,fun L hL=>by show(ztR s L).isSome=true; rw[zzo hs (hlen L hL)]; rfl⟩,obs];refine congrArg (fun x=>some (x,(0:Int))) ?_
 have e:(zoh s.Members.length).find? (fun L=>((ztR s L)).getD false)=(zoh s.Members.length).find? (zzn s):=by
  have:∀l:List (List Int),(∀L∈l,zrT L)->l.find? (fun L=>((ztR s L)).getD false)=l.find? (zzn s):=by
   intro l
   induction l with
   | nil=>intro _; rfl
   | cons L l ih=>
    intro hl
    have h1:(ztR s L).getD false=zzn s L:=by rw[zzo hs (hl L (List.mem_cons_self ..))]; rfl
    rw[List.find?_cons,List.find?_cons,h1,ih fun L hL=>hl L (List.mem_cons_of_mem _ hL)]
  exact this _ hlen
 show zry s.Members.length (fun L=>((ztR s L)).getD false)=_
 unfold zry;rw[e]
theorem wu{n:Nat}(h:n<=64):zmb .u64 (n:Int)=(n:Int):=wz (show(0:Int)<=n/\(n:Int) < 18446744073709551616 by omega)
theorem zzq{b:Nat}(hb:b < 65536):∀(d p:Nat) (acc:List Int),p<=16->16 - p < d->acc=zyA b p->zsA (b:Int) d acc (p:Int)=some (zyB b)
 | 0,_,_,_,h,_=>by omega
 | d+1,p,acc,hp,h,ha=>by
  have hle:b / 2 ^ p<=b:=Nat.div_le_self _ _;rw[zsA,wu (show p<=64 by omega)]
  have hq:(b:Int) / 2 ^ ((p:Int)).toNat=((b / 2 ^ p:Nat):Int):=by rw[Int.toNat_natCast]; simp
  rw[hq]
  clear hq
  have hl:=zyF (b:=b) p;have hbit:b.testBit p=decide (b / 2 ^ p % 2=1):=Nat.testBit_eq_decide_div_mod_eq ..
  have h16:p=16->b / 2 ^ p=0:=fun he=>by subst he; exact Nat.div_eq_of_lt (by omega)
  have h0':b / 2 ^ p=0->zyA b p=zyB b:=fun h9=>by
   have:=zyE (b:=b) (p:=p) (fun q hq=>zjo h9 hq) (16 - p);rw[show p+(16 - p)=16 by omega] at this;exact this.symm
  generalize b / 2 ^ p=q at hle hbit h16 h0' ⊢;rw[zqr (by omega),zqr (by omega),zqr (by omega),zqr (fI (by omega))]
  by_cases h0:0 < q
  ·have hp16:p < 16:=by
    rcases Nat.lt_or_ge p 16 with h1 | h1
    ·exact h1
    ·have:=h16 (by omega); omega
   rw[if_pos (by omega),zqr (by omega),zqr (by omega),zqr (by omega),zqr (fI (by omega)),zqr (by omega),zqr (by omega),zqr (fI (by omega))]
   by_cases h1:q % 2=1
   ·rw[if_pos (by omega),zqr (show acc.length < 1048576 by rw[ha]; omega),zqr (fI (by omega)),show(p:Int)+1=((p+1:Nat):Int) by omega];refine zzq hb d (p+1) _ (by omega) (by omega) ?_
    show _=zyA b p++(if b.testBit p then [(p:Int)] else [])
    rw[ha,hbit,h1]; rfl
   ·rw[if_neg (by omega),zqr (fI (by omega)),show(p:Int)+1=((p+1:Nat):Int) by omega];refine zzq hb d (p+1) _ (by omega) (by omega) ?_
    show _=zyA b p++(if b.testBit p then [(p:Int)] else [])
    rw[ha,hbit,decide_eq_false h1]; simp
  ·rw[if_neg (by omega),ha];exact congrArg some (h0' (by omega))
theorem zzr{b:Nat}(hb:b < 65536):zsB (b:Int)=some (zyB b):=zzq hb 1000000 0 [] (Nat.zero_le _) (by omega) rfl
theorem zzs{a b:List Int}(hl:a.length<=1000):∀(d k:Nat),k<=a.length->a.length - k < d->zsC a b d (k:Int)=some (bef (a.drop k) (b.drop k))
 | 0,_,_,h=>by omega
 | d+1,k,hk,h=>by
  rw[zsC]
  by_cases hka:k < a.length
  ·rw[if_pos (by omega)];have da:=List.drop_eq_getElem_cons hka;have ga:=List.getElem?_eq_getElem hka
   by_cases hkb:k < b.length
   ·have db:=List.drop_eq_getElem_cons hkb;have gb:=List.getElem?_eq_getElem hkb;rw[if_pos (by omega),zrJ ga,obs,zrJ gb,obs,da,db];unfold bef
    by_cases he:a[k]=b[k]
    ·rw[if_pos he,if_pos he,zqr (fI (by omega)),show(k:Int)+1=((k+1:Nat):Int) by omega];exact zzs hl d (k+1) (by omega) (by omega)
    ·rw[if_neg he,if_neg he,obs,obs]
   ·rw[if_neg (by omega),da,List.drop_eq_nil_of_le (show b.length<=k by omega),decide_eq_false (by omega)]; rfl
  ·rw[if_neg (by omega),List.drop_eq_nil_of_le (show a.length<=k by omega)]
   by_cases hkb:k < b.length
   ·rw[List.drop_eq_getElem_cons hkb,decide_eq_true (by omega)]; rfl
   ·rw[List.drop_eq_nil_of_le (show b.length<=k by omega),decide_eq_false (by omega)]; rfl
theorem zzt{a b:List Int}(hl:a.length<=1000):zsD a b=some (bef a b):=zzs hl (a.length+1) 0 (Nat.zero_le _) (by omega)
theorem zzu{a b:List Int}(hl:a.length<=1000):zsE a b=some (shB a b):=by
 unfold zsE shB
 by_cases h1:a.length < b.length
 ·rw[if_pos (by omega),decide_eq_true h1]; rfl
 ·rw[if_neg (by omega),decide_eq_false h1]
  by_cases h2:a.length=b.length
  ·rw[if_pos (by omega),zzt hl,decide_eq_true h2]; simp
  ·rw[if_neg (by omega),decide_eq_false h2]; simp
theorem zzv{b:Nat}:(zyB b).length<=16:=zyF 16
theorem zzw{a b:List Int}(hl:a.length=b.length):(bef a b=false/\bef b a=false)↔a=b:=by
 constructor
 ·rintro⟨h1,h2⟩
  rcases zyJ a b with h | h | h
  ·exact h
  ·rw[h1] at h; cases h
  ·rw[h2] at h; cases h
 ·rintro rfl; exact⟨zyH _,zyH _⟩
theorem zzx{a b:List Int}(ha:a.length<=1000)(hb:b.length<=1000):zsF a b=some (decide (a=b)):=by
 unfold zsF
 by_cases hl:a.length=b.length
 ·rw[if_pos (by omega),zzt ha,obs];have h:=zzw hl
  cases h1:bef a b with
  | true=>rw[if_pos rfl,decide_eq_false fun he=>by have:=(h.2 he).1; rw[h1] at this; cases this]
  | false=>
   rw[if_neg (by decide),zzt hb,obs]
   cases h2:bef b a with
   | true=>rw[decide_eq_false fun he=>by have:=(h.2 he).2; rw[h2] at this; cases this]; rfl
   | false=>rw[decide_eq_true (h.1 ⟨h1,h2⟩)]; rfl
 ·rw[if_neg (by omega),decide_eq_false fun he=>hl (by rw[he])]
theorem zzy{l:List Int}(h:l.length<=1000):zt3 l=some l:=by
 unfold zt3;rw[zqr (show([]:List Int).length+l.length<=1048576 by show 0+_<=_; omega)]; rfl
def zzz(s:Soc):Prop:=s.Members.length<=8/\s.Losses.length<=6
theorem zzA{s:Soc}:Ev (zt8 s) (zzz s):=by
 unfold zt8 zzz
 by_cases h:(s.Members.length:Int)<=8
 ·rw[if_pos h]; exact Ev.dec (by omega)
 ·rw[if_neg h]; exact Ev.ff (by omega)
theorem zxY.thin{s:Soc}(h:zxY s):zzz s:=⟨by have:=h.m5; omega,by have:=h.l3; omega⟩
theorem zzB{s:Soc}(h:zzz s):zt7 s=some s:=by
 unfold zt7
 show zt6 s 1000000 [] [] s.Treaty.Lo s.Treaty.Hi s.Reserve 0=_
 obtain⟨h1,h2⟩:=h
 have k1:zt5 s s.Members 1000000 [] s.Treaty.Lo s.Treaty.Hi s.Reserve 0=some s:=by
  refine(zrP (l:=s.Losses) (fun r=>r) (F:=fun d acc x=>zt5 s s.Members d acc s.Treaty.Lo s.Treaty.Hi s.Reserve x) (fun acc=>some ({ Members:=s.Members,Losses:=acc,Treaty:=s.Treaty,Reserve:=s.Reserve }:Soc)) (fun d k acc a hk ha=>?_) (fun d acc=>?_) (d:=1000000) (by omega)).trans (by rw[List.map_id'])
  ·have hkl:=(List.getElem?_eq_some_iff.1 hk).1
   show zt5 s s.Members (d+1) _ _ _ _ _=_
   rw[zt5,if_pos (by omega),zrJ hk,obs]
   show(some a).bind _=_
   rw[obs,zqr (by omega),zqr (fI (by omega))]
  ·show zt5 s s.Members (d+1) _ _ _ _ _=_
   rw[zt5,if_neg (Int.lt_irrefl _)]
 refine(zrP (l:=s.Members) (fun r=>r) (F:=fun d acc x=>zt6 s d acc [] s.Treaty.Lo s.Treaty.Hi s.Reserve x) (fun acc=>zt5 s acc 1000000 [] s.Treaty.Lo s.Treaty.Hi s.Reserve 0) (fun d k acc a hk ha=>?_) (fun d acc=>?_) (d:=1000000) (by omega)).trans (by rw[List.map_id']; exact k1)
 ·have hkl:=(List.getElem?_eq_some_iff.1 hk).1
  show zt6 s (d+1) _ _ _ _ _ _=_
  rw[zt6,if_pos (by omega),zrJ hk,obs,zqr (by omega),zqr (fI (by omega))]
 ·show zt6 s (d+1) _ _ _ _ _ _=_
  rw[zt6,if_neg (Int.lt_irrefl _)]
theorem zzC{s:Soc}:Ev (zud s) (zxY s):=by
 unfold zud
 by_cases ht:zzz s
 ·rw[zzA.some_of ht,obs,if_pos rfl,zyb ht.1 ht.2,obs];exact Ev.dec zx0
 ·rw[zzA.some_not ht,obs,if_neg (by decide)];exact Ev.ff fun h=>ht h.thin
def zzD(most:Int):Soc:={ Members:=[{ Sum:=100,Class:=2,Most:=most },{ Sum:=100,Class:=1,Most:=60 },{ Sum:=50,Class:=2,Most:=most }],Losses:=[{ Lo:=200,Hi:=210 },{ Lo:=90,Hi:=90 }],Treaty:={ Lo:=20,Hi:=25 },Reserve:=30 }
theorem zzE(most:Int):zub most=some (zzD most):=rfl
theorem zzF{most:Int}(h:0<=most/\most<=100000):zxY (zzD most):=by
 refine⟨Nat.le_of_ble_eq_true rfl,Nat.le_of_ble_eq_true rfl,Nat.le_of_ble_eq_true rfl,fun a ha=>?_,fun r hr=>?_,by show RgV ⟨20,25⟩; decide,by show(0:Int)<=30/\(30:Int)<=_; omega⟩
 ·rcases List.mem_cons.1 ha with rfl | ha
  ·exact⟨by show(1:Int)<=100/\(100:Int)<=1000; omega,by show(1:Int)<=2/\(2:Int)<=10; omega,h⟩
  rcases List.mem_cons.1 ha with rfl | ha
  ·exact⟨by decide,by decide,by decide⟩
  rcases List.mem_cons.1 ha with rfl | ha
  ·exact⟨by show(1:Int)<=50/\(50:Int)<=1000; omega,by show(1:Int)<=2/\(2:Int)<=10; omega,h⟩
  ·cases ha
 ·rcases List.mem_cons.1 hr with rfl | hr
  ·decide
  rcases List.mem_cons.1 hr with rfl | hr
  ·decide
  ·cases hr
theorem f64{n:Int}(h:-1000000<=n/\n<=1000000):zl6 .i64 n:=fI (by omega)
theorem zzG:zuc=some true:=by
 have h5:zxY (zzD 500):=zzF (by omega);have h1:zxY (zzD 150):=zzF (by omega)
 have n5:ztU (zzD 500)=some ({ Lo:=235,Hi:=250 },0):=by
  rw[zyY h5]
  have e1:loN (zzD 500)=235:=by decide +kernel
  have e2:hiN (zzD 500)=250:=by decide +kernel
  rw[e1,e2]
 have c5:ztW (zzD 500) 250=some ([127,60,63],0,0):=by
  rw[zy3 h5 (by omega)]
  have e1:zy0 (zzD 500) [] 250=[127,60,63]:=by decide +kernel
  have e2:(zxN (zzD 500).Members (zyc (zzD 500).Members.length []) 250).2=0:=by decide +kernel
  rw[e1,e2]
 have b5:ztZ (zzD 500)=some (zy5 (zzD 500) [],0):=zy9 h5
 have eb:zy5 (zzD 500) []=[{ Lo:=117,Hi:=127 },{ Lo:=59,Hi:=60 },{ Lo:=59,Hi:=63 }]:=by
  have e1:(zy5 (zzD 500) []).map (·.Lo)=[117,59,59]:=by decide +kernel
  have e2:(zy5 (zzD 500) []).map (·.Hi)=[127,60,63]:=by decide +kernel
  have e3:(zy5 (zzD 500) []).length=3:=zy6 []
  revert e1 e2 e3
  generalize zy5 (zzD 500) []=l;intro e1 e2 e3
  match l,e3 with
  | [⟨a1,a2⟩,⟨b1,b2⟩,⟨c1,c2⟩],_=>
   simp only[List.map_cons,List.map_nil,List.cons.injEq,and_true] at e1 e2
   obtain⟨rfl,rfl,rfl⟩:=e1;obtain⟨rfl,rfl,rfl⟩:=e2
   rfl
 have r5:zt1 (zzD 500)=some (64,0):=by
  have m63:brN (zzD 500).Members 63 < 250:=by decide +kernel
  have m64:250<=brN (zzD 500).Members 64:=by decide +kernel
  have e2:hiN (zzD 500)=250:=by decide +kernel
  rcases zzm h5 with ⟨k,q1,q2,q3,q4⟩ | ⟨q1,q2⟩
  ·rw[e2] at q3 q4
   have hk:k=64:=by
    apply Classical.byContradiction
    intro hne
    rcases Nat.lt_or_ge k 64 with h | h
    ·have:=zzf h5.full.ms (r:=(k:Int)) (t:=63) (by omega); omega
    ·have:=q4 64 (by omega);have e:((64:Nat):Int)=64:=rfl;rw[e] at this; omega
   subst hk; exact q1
  ·have:=q2 64 (by omega);have e:((64:Nat):Int)=64:=rfl;rw[e2,e] at this; omega
 have x5:zt2 (zzD 500)=some ([0,2],0):=by
  rw[zzp h5 (by decide +kernel)]
  have e:zry (zzD 500).Members.length (zzn (zzD 500))=[0,2]:=by decide +kernel
  rw[e]
 have x1:zt2 (zzD 150)=some ([0],0):=by
  rw[zzp h1 (by decide +kernel)]
  have e:zry (zzD 150).Members.length (zzn (zzD 150))=[0]:=by decide +kernel
  rw[e]
 unfold zuc;rw[zzE,obs,n5,obs,obs,c5,obs,obs,b5,obs,obs,r5,obs,obs,x5,obs,zzE,obs,x1,obs,eb];have s1:zsF [127,60,63] [127,60,63]=some true:=zzx (by decide) (by decide);have s2:zsF [0,2] [0,2]=some true:=zzx (by decide) (by decide);have s3:zsF [0] [0]=some true:=zzx (by decide) (by decide);have f:∀n:Int,-1000000<=n/\n<=1000000->zl6 .i64 n:=fun n h=>f64 h
 simp only[zua,obs,zqr (f 235 (by omega)),zqr (f 250 (by omega)),zqr (f 117 (by omega)),zqr (f 127 (by omega)),zqr (f 59 (by omega)),zqr (f 60 (by omega)),zqr (f 63 (by omega)),s1,s2,s3]
 simp[idx]
 rw[zqr (f 117 (by omega)),zqr (f 127 (by omega)),zqr (f 59 (by omega)),zqr (f 60 (by omega)),zqr (f 59 (by omega)),zqr (f 63 (by omega))]
theorem awk{β:Type}{f:Bool->Option β}:(zuc).bind f=f true:=by rw[zzG,obs]
theorem zzH(f:Nat->Int){n:Nat}(hn:n<=5):zwM ((l5 f).take n)=part f n:=by
 match n,hn with
 | 0,_=>rfl
 | 1,_=>show f 0+0=0+f 0; omega
 | 2,_=>show f 0+(f 1+0)=0+f 0+f 1; omega
 | 3,_=>show f 0+(f 1+(f 2+0))=0+f 0+f 1+f 2; omega
 | 4,_=>show f 0+(f 1+(f 2+(f 3+0)))=0+f 0+f 1+f 2+f 3; omega
 | 5,_=>show f 0+(f 1+(f 2+(f 3+(f 4+0))))=0+f 0+f 1+f 2+f 3+f 4; omega
theorem zzI(f:Nat->Int){n:Nat}(hn:n<=5)(h:∀i,n<=i->i < 5->f i=0):part f n=S5 f:=by
 rw[zxb f hn];refine zwQ fun i hi=>?_
 by_cases hin:i < n
 ·rw[if_pos hin]
 ·rw[if_neg hin,h i (by omega) hi]
theorem zzJ{s:Soc}(hs:zxY s)(out:List Int){N:Int}(hN:0<=N/\N<=1000000):zwM (zy0 s out N)=S5 (zxN s.Members (zyc s.Members.length out) N).1:=by
 unfold zy0;rw[zzH _ hs.m5,zzI _ hs.m5];intro i h1 h2
 exact zxU hs.msOk (zye s.Members out) hN h2 (by
  cases hq:zyc s.Members.length out i with
  | false=>rfl
  | true=>have:=zye s.Members out i hq; omega)
theorem zzK{s:Soc}(hs:zxY s)(out:List Int){N:Int}(hN:0<=N/\N<=1000000):∀x∈zy0 s out N,0<=x/\x<=1000000:=fun x hx=>by
 have h5:=hs.m5;obtain⟨k,hk⟩:=List.mem_iff_getElem?.1 hx;have hlt:=(List.getElem?_eq_some_iff.1 hk).1;rw[zy1 out N h5] at hlt;rw[zy2 out N h5 hlt] at hk;have:=zxW hs.msOk (zye s.Members out) hN (i:=k) (by omega);have:=oi hk
 omega
section
variable {ms:List Mb} {ask:Nat->Bool} {N:Int}
theorem zzL(hms:zxu ms)(hs:zxy ms ask)(hN:0<=N/\N<=1000000)(hn:¬ zxw ask=true)(hf:∀a∈ms,N<=a.Most):(∀i,(zxN ms ask N).1 i=zw6 N (uF ms ask) i)/\(zxN ms ask N).2=0:=by
 have hu:=zxH hms hs hn
 have hsame:zxx (zwJ ms ask (zw6 N (uF ms ask))) ask=true:=zxA.2 fun i hi=>by
  cases hm:ms[i]? with
  | none=>unfold zwJ; rw[hm]
  | some a=>
   rw[zxC hm];have h1:=hf a (List.mem_of_getElem? hm);have h2:=zxr hu hN.1 hi;rw[decide_eq_true (show zw6 N (uF ms ask) i<=a.Most by omega),Bool.and_true]
 unfold zxN roundsN;rw[if_neg hn,if_pos hsame];exact⟨fun i=>Int.zero_add _,rfl⟩
theorem zzM(h:zxw ask=true):zxN ms ask N=(fun _=>0,N):=by
 unfold zxN roundsN;rw[if_pos h]
end
theorem zzN{n i:Nat}:zyc n [] i=decide (i < n):=by unfold zyc; simp
theorem zzO{s:Soc}(hs:zxY s):¬ zxw (zyc s.Members.length [])=true:=fun h=>by
 have h1:=hs.full.pos;have:=zxz.1 h 0 (by omega)
 rw[zzN,decide_eq_true h1] at this; cases this
def zzP(n:Int)(a:Mb):Mb:={ a with Most:=max a.Most n }
def zzQ(s:Soc)(n:Int):Soc:={ s with Members:=s.Members.map (zzP n) }
theorem zzR{a:Mb}{n:Int}(h:zxt a)(hn:0<=n/\n<=100000):zxt (zzP n a):=⟨h.sum,h.cls,by have:=h.most; show 0<=max a.Most n/\max a.Most n<=100000; omega⟩
theorem zzS{s:Soc}{n:Int}(hs:zxY s)(hn:0<=n/\n<=100000):zxY (zzQ s n):=
 ⟨by show(s.Members.map _).length<=5; rw[List.length_map]; exact hs.m5,hs.l3,by show 0 < (s.Members.map _).length; rw[List.length_map]; exact hs.full.pos,fun a ha=>by
  obtain⟨b,hb,rfl⟩:=List.mem_map.1 ha
  exact zzR (hs.full.ms b hb) hn,hs.full.ls,hs.full.tr,hs.full.rs⟩
theorem zzT{s:Soc}{n:Int}:∀a∈(zzQ s n).Members,n<=a.Most:=fun a ha=>by
 obtain⟨b,hb,rfl⟩:=List.mem_map.1 ha
 show n<=max b.Most n; omega
theorem zzU{α:Type}(l1 l2:List α)(a b:α){k:Nat}(hk:k=l1.length):(l1++a::l2).set k b=l1++b::l2:=by
 subst hk;rw[List.set_append_right _ _ (Nat.le_refl _),Nat.sub_self]; rfl
theorem zzV{α:Type}(l1 l2:List α)(a:α){k:Nat}(hk:k=l1.length):(l1++a::l2)[k]? = some a:=by
 subst hk;rw[List.getElem?_append_right (Nat.le_refl _),Nat.sub_self]; rfl
def chL{α:Type}(f:α->α)(l:List α)(k:Nat):List α:=(l.take k).map f++l.drop k
theorem zzW{α:Type}(f:α->α){l:List α}{k:Nat}{a:α}(h:l[k]? = some a):(chL f l k)[k]? = some a/\(chL f l k).set k (f a)=chL f l (k+1)/\(chL f l k).length=l.length:=by
 obtain⟨hk,rfl⟩:=List.getElem?_eq_some_iff.1 h;have hd:=List.drop_eq_getElem_cons hk
 have hl:((l.take k).map f).length=k:=by rw[List.length_map,List.length_take]; omega
 refine⟨?_,?_,?_⟩
 ·unfold chL; rw[hd]; exact zzV _ _ _ hl.symm
 ·unfold chL;rw[hd,zzU _ _ _ _ hl.symm,List.take_add_one,h,List.map_append]
  show _=(_++[f l[k]])++_
  rw[List.append_assoc]; rfl
 ·unfold chL; rw[List.length_append,hl,List.length_drop]; omega
theorem zzX{s:Soc}(hs:zxY s){n:Int}:zuf s n=some (zzQ s n):=by
 have h5:=hs.m5;unfold zuf;rw[zqr (by show 0+_<=_; omega)];refine zwv (n:=s.Members.length) (fun d l x=>zue s n d l s.Treaty.Lo s.Treaty.Hi s.Reserve x) (chL (zzP n) s.Members) (fun d k hk=>?_) (fun d=>?_) 1000000 0 (by omega) (by omega)
 ·have hg:=List.getElem?_eq_getElem hk;obtain⟨h1,h2,h3⟩:=zzW (zzP n) hg
  show zue s n (d+1) (chL (zzP n) s.Members k) _ _ _ _=_
  rw[zue,if_pos (by omega),zrJ h1,obs,obs,zqr (fI (by omega)),<- h2]; rfl
 ·show zue s n (d+1) (chL (zzP n) s.Members s.Members.length) _ _ _ _=_
  have hl:(chL (zzP n) s.Members s.Members.length).length=s.Members.length:=by unfold chL; simp
  rw[zue,if_neg (by rw[hl]; omega)]
  have e:chL (zzP n) s.Members s.Members.length=s.Members.map (zzP n):=by unfold chL; rw[List.take_length,List.drop_length,List.append_nil]
  rw[e]; rfl
theorem wzu{n:Int}(h:0<=n/\n < 4294967296):zmb .i64 n=n:=wz (fI (by omega))
end
end Go.Proofs.Ytkclhciahokifaa

namespace Go.Proofs.Ytkclhciahokifaa
open _root_.Go.Proofs.Try
open Go.Abs
set_option maxRecDepth 100000
noncomputable section
theorem zzY{s:Soc}(hs:zxY s){N:Int}(hN:0<=N/\N<=300000)(hf:∀a∈s.Members,N<=a.Most):ztW s N=some (zy0 s [] N,0,0)/\(∀k,k < s.Members.length->(zy0 s [] N)[k]? = some (zw6 N (uF s.Members (zyc s.Members.length [])) k))/\zwM (zy0 s [] N)=N:=by
 have h:=zzL hs.msOk (zye s.Members []) (N:=N) (by omega) (zzO hs) hf;refine⟨by rw[zy3 hs hN,h.2],fun k hk=>?_,?_⟩
 ·rw[zy2 [] N hs.m5 hk,h.1]
 ·have h1:=zzJ hs [] (N:=N) (by omega);have h2:=zxT hs.msOk (zye s.Members []) (N:=N) (by omega)
  omega
theorem zzZ{N N' u U U':Int}(hu:0<=u)(hU:0 < U)(hU':0 < U')(h:N * U'<=N' * U):N * u / U<=N' * u / U':=by
 rw[Int.le_ediv_iff_mul_le hU'];have h1:N * u / U * U<=N * u:=Int.ediv_mul_le _ (by omega);generalize N * u / U=q at h1 ⊢;have h2:q * U * U'<=N * u * U':=Int.mul_le_mul_of_nonneg_right h1 (by omega);have h3:N * U' * u<=N' * U * u:=Int.mul_le_mul_of_nonneg_right h hu
 have e1:q * U * U'=U * (q * U'):=by rw[Int.mul_comm q U,Int.mul_assoc]
 have e2:N * u * U'=N * U' * u:=by rw[Int.mul_assoc,Int.mul_comm u U',<- Int.mul_assoc]
 have e3:N' * U * u=U * (N' * u):=by rw[Int.mul_comm N' U,Int.mul_assoc]
 rw[e1,e2] at h2;rw[e3] at h3;exact Int.le_of_mul_le_mul_left (Int.le_trans h2 h3) hU
section
variable {ms:List Mb}
end
end
end Go.Proofs.Ytkclhciahokifaa

namespace Go.Proofs.Ytkclhciahokifaa
open _root_.Go.Proofs.Try
open Go.Abs
set_option maxRecDepth 100000
noncomputable section
theorem zz0{i:Nat}(h:i<=8):2 ^ i<=256:=Nat.le_trans (Nat.pow_le_pow_right (by omega) h) (by decide)
def zz1(n:Nat):Nat:=2 ^ n - 1
theorem zz2(n:Nat):zz1 n < 2 ^ n:=by have:0 < 2 ^ n:=Nat.two_pow_pos n; unfold zz1; omega
theorem zz3{s:Soc}(h:s.Members.length<=8):zsw s=some (zz1 s.Members.length:Int):=by
 have hp:=zz0 h;have hp0:0 < 2 ^ s.Members.length:=Nat.two_pow_pos _;have hw:zmb .u64 (s.Members.length:Int)=(s.Members.length:Int):=wz (show(0:Int)<=s.Members.length/\(s.Members.length:Int) < 18446744073709551616 by omega)
 have hpow:(1:Int) * 2 ^ (Int.toNat (zmb .u64 (s.Members.length:Int)))=((2 ^ s.Members.length:Nat):Int):=by rw[hw,Int.toNat_natCast,Int.one_mul,Int.natCast_pow]; rfl
 unfold zsw zz1;rw[hpow,zqr (by omega),hw,zqr (by omega),zqr (by omega),zqr (fI (by omega)),zqr (fI (by omega))]
 congr 1
 omega
def zz4(B n:Nat):Nat:=Nat.land B (zz1 n)
theorem zz5(B n j:Nat):(zz4 B n).testBit j=(B.testBit j && decide (j < n)):=by
 show(B &&& (2 ^ n - 1)).testBit j=_
 rw[Nat.testBit_and,Nat.testBit_two_pow_sub_one]
theorem zz6(B n:Nat):zz4 B n < 2 ^ n:=Nat.lt_pow_two_of_testBit _ fun j hj=>by rw[zz5,decide_eq_false (by omega),Bool.and_false]
theorem zz7(B k:Nat):(B:Int) / 2 ^ k % 2=((B / 2 ^ k % 2:Nat):Int):=by rw[zyG]; rfl
theorem zz8{B k:Nat}:(B:Int) / 2 ^ k % 2=0↔B.testBit k=false:=by
 rw[zz7,Nat.testBit_eq_decide_div_mod_eq,decide_eq_false_iff_not]; omega
theorem zz9{B k:Nat}:(B:Int) / 2 ^ k % 2=1↔B.testBit k=true:=by
 rw[zz7,Nat.testBit_eq_decide_div_mod_eq,decide_eq_true_eq]; omega
theorem zAa{b n:Nat}(hn:n<=5)(hb:b < 2 ^ n)(j:Nat):(j:Int)∈zyB b↔j < n/\b.testBit j=true:=by
 unfold zyB;rw[zyC]
 constructor
 ·rintro⟨_,_,h⟩
  rw[show((j:Int)).toNat=j from rfl] at h;refine⟨Nat.lt_of_not_le fun hj=>?_,h⟩
  rw[Nat.testBit_lt_two_pow (Nat.lt_of_lt_of_le hb (Nat.pow_le_pow_right (by omega) hj))] at h; cases h
 ·rintro⟨h1,h2⟩
  exact⟨by omega,by omega,h2⟩
theorem zAb{b n:Nat}(hn:n<=5)(hb:b < 2 ^ n):zyi n (zyB b):=by
 have h:=zyL (show n<=16 by omega) hb;exact⟨h.1,fun v hv=>by have:=h.2 v hv; omega⟩
theorem zAc{b n:Nat}(hn:n<=5)(hb:b < 2 ^ n)(j:Nat):zyc n (zyB b) j=(decide (j < n) && !b.testBit j):=by
 unfold zyc
 by_cases h:j < n
 ·have e:decide ((j:Int)∈zyB b)=b.testBit j:=by
   cases ht:b.testBit j with
   | true=>exact decide_eq_true ((zAa hn hb j).2 ⟨h,ht⟩)
   | false=>exact decide_eq_false fun hm=>by have:=((zAa hn hb j).1 hm).2; rw[ht] at this; cases this
  rw[e]
 ·rw[decide_eq_false h,Bool.false_and,Bool.false_and]
theorem zAd{b n:Nat}(hn:n<=5)(hb:b < 2 ^ n)(h:∀j,j < n->b.testBit j=true):(zyB b).length=n:=by
 have e:zyB b=(List.range n).map fun(j:Nat)=>(j:Int):=by
  refine zyK (zyD 16) ?_ fun v=>?_
  ·rw[List.pairwise_map];exact List.Pairwise.imp (fun h=>by omega) List.pairwise_lt_range
  ·rw[List.mem_map]
   constructor
   ·intro hv;have h1:=(zAb hn hb).2 v hv;exact⟨v.toNat,List.mem_range.2 (by omega),by omega⟩
   ·rintro⟨j,hj,rfl⟩
    exact(zAa hn hb j).2 ⟨List.mem_range.1 hj,h j (List.mem_range.1 hj)⟩
 rw[e,List.length_map,List.length_range]
theorem zAe{n:Int}(h:zl6 .u8 n):∃B:Nat,n=(B:Int)/\B < 256:=⟨n.toNat,by have:=fU8 h; omega,by have:=fU8 h; omega⟩
def zAf(s:Soc)(n:Int):Soc:={ Members:=(zzQ s n).Members,Losses:=[{ Lo:=n,Hi:=n }],Treaty:={ Lo:=0,Hi:=0 },Reserve:=0 }
theorem zAg{s:Soc}{n:Int}(hs:zxY s)(hn:0<=n/\n<=100000):zxY (zAf s n):=
 have h:=zzS hs hn
 ⟨h.m5,by show 1<=3; omega,h.full.pos,h.full.ms,fun a ha=>by
  have e:a={ Lo:=n,Hi:=n }:=List.mem_singleton.1 ha
  rw[e]; exact⟨hn.1,Int.le_refl _,hn.2,by show n - n<=30; omega⟩,⟨by show(0:Int)<=0; omega,by show(0:Int)<=0; omega,by show(0:Int)<=100000; omega,by show(0:Int) - 0<=30; omega⟩,by show(0:Int)<=0/\(0:Int)<=100000; omega⟩
theorem zAh{s:Soc}{n:Int}(hn:0<=n):loN (zAf s n)=n/\hiN (zAf s n)=n:=by
 have e1:zyq (·.Lo) (zAf s n).Losses=n:=by show n+0=n; omega
 have e2:zyq (·.Hi) (zAf s n).Losses=n:=by show n+0=n; omega
 unfold loN hiN;rw[e1,e2]
 show max 0 (n - 0 - 0)=n/\max 0 (n - 0 - 0)=n
 omega
theorem zAi{s:Soc}(hs:zxY s){n:Int}(h1:loN s=n)(h2:hiN s=n)(g:Int->Int):(bnd s g).Lo=g n/\(bnd s g).Hi=g n:=by
 obtain⟨⟨a,ha,ea⟩,⟨b,hb,eb⟩,_⟩:=zyT hs g
 have:a=n:=by omega
 have:b=n:=by omega
 subst a; subst b;exact⟨ea.symm,eb.symm⟩
theorem zAj{ms:List Mb}(hms:zxu ms){sh:Nat->Bool}{N:Int}(hN:0<=N)(hsup:zxy ms sh)(h0:¬ zxw sh=true)(ha:¬ zxw (zyc ms.length [])=true){k:Nat}(hk:k < ms.length)(hs:sh k=true) :
  zw6 N (uF ms (zyc ms.length [])) k - 1<=zw6 N (uF ms sh) k:=by
 have hu:=zxH hms hsup h0;have hu':=zxH hms (zye ms []) ha
 have hle:∀i,uF ms sh i<=uF ms (zyc ms.length []) i:=fun i=>by
  cases hi:sh i with
  | false=>rw[show uF ms sh i=0 from zxE hi]; exact(zxG hms _ i).1
  | true=>
   have hl:=hsup i hi;have hm:=List.getElem?_eq_getElem hl;rw[show uF ms sh i=unN ms[i] from zxF hm hi,show uF ms (zyc ms.length []) i=unN ms[i] from zxF hm (by rw[zzN]; exact decide_eq_true hl)];exact Int.le_refl _
 have hS:S5 (uF ms sh)<=S5 (uF ms (zyc ms.length [])):=zxd fun i _=>hle i;have hm:=List.getElem?_eq_getElem hk;have e:uF ms (zyc ms.length []) k=uF ms sh k:=(show uF ms (zyc ms.length []) k=unN ms[k] from zxF hm (by rw[zzN]; exact decide_eq_true hk)).trans (show uF ms sh k=unN ms[k] from zxF hm hs).symm;have q1:=zxp N (uF ms (zyc ms.length [])) k;have q2:=zxp N (uF ms sh) k
 have hq:qN N (uF ms (zyc ms.length [])) k<=qN N (uF ms sh) k:=by
  unfold qN;rw[e];exact zzZ (zxG hms sh k).1 hu'.pos hu.pos (Int.mul_le_mul_of_nonneg_left hS hN)
 omega
theorem zAk{B n:Nat}(hB:B < 256)(hn:n<=5){need:Int}(hneed:0<=need/\need<=100000){out:List Int}{cs:List Int}{sh:Int}{rs:List Rg}{w c:Nat->Int}(hc:cs.length=n)(hci:∀k,k < n->cs[k]? = some (c k))(hr:∀k,k < n->rs[k]? = some ({ Lo:=w k,Hi:=w k }:Rg))
  (hw:∀k,k < n->0<=w k/\w k<=1000000) (hcb:∀k,k < n->0<=c k/\c k<=1000000) (h1:∀k,k < n->B.testBit k=false->c k - 1<=w k) (h2:∀k,k < n->B.testBit k=true->w k=0)
  (hend:part w n=need\/(out.length=n/\part w n=0)):∀(d k:Nat),k<=n->n - k < d->zuh (B:Int) need out (cs,sh,0) (rs,0) d (part w k) (k:Int)=some true
 | 0,_,_,h=>by omega
 | d+1,k,hk,hd=>by
  have hpb:∀k,k<=n->0<=part w k/\part w k<=1000000 * k:=fun k=>by
   induction k with
   | zero=>exact fun _=>⟨Int.le_refl _,Int.le_refl _⟩
   | succ k ih=>intro h; have:=ih (by omega); have:=hw k (by omega); rw[show part w (k+1)=part w k+w k from rfl]; omega
  rw[zuh]
  by_cases hkn:k < n
  ·have hbz:(B:Int) / 2 ^ k % 2=0\/(B:Int) / 2 ^ k % 2=1:=by omega
   have hq0:0<=(B:Int) / 2 ^ k:=by rw[zyG]; exact Int.natCast_nonneg _
   have hq1:(B:Int) / 2 ^ k<=B:=by rw[zyG]; exact Int.ofNat_le.2 (Nat.div_le_self _ _)
   have hw1:zmb .i64 (B:Int)=(B:Int):=wz (fI (by omega));have hpk:=hpb k (by omega);have hwk:=hw k hkn;have hck:=hcb k hkn;have e1:=h1 k hkn;have e2:=h2 k hkn
   have ek:(k:Int)+1=((k+1:Nat):Int):=by omega
   rw[if_pos (show(k:Int) < ((cs,sh,(0:Int)).1.length:Int) by show(k:Int) < (cs.length:Int); omega),hw1,wu (by omega),zqr (by omega),zqr (by omega),zqr (by omega),Int.toNat_natCast,zqr (fI (by omega)),zqr hq0,zqr (by omega),zqr (fI (by omega))]
   show(idx rs (k:Int)).bind _=_
   rw[zrJ (hr k hkn),obs,obs,if_pos rfl]
   cases hb:B.testBit k with
   | false=>
    have:=e1 hb;rw[if_pos (zz8.2 hb),obs]
    show(idx cs (k:Int)).bind _=_
    rw[zrJ (hci k hkn),obs,zqr (fI (by omega)),if_neg (by show ¬ w k < c k - 1; omega),obs]
    show gd (zl6 .i64 (part w k+w k)) _=_
    rw[zqr (fI (by omega)),zqr (fI (by omega)),ek];exact zAk hB hn hneed hc hci hr hw hcb h1 h2 hend d (k+1) (by omega) (by omega)
   | true=>
    have:=e2 hb;rw[if_neg (by have:=(zz9 (B:=B) (k:=k)).2 hb; omega),obs,if_pos (show w k=0 from this),obs]
    show gd (zl6 .i64 (part w k+w k)) _=_
    rw[zqr (fI (by omega)),zqr (fI (by omega)),ek];exact zAk hB hn hneed hc hci hr hw hcb h1 h2 hend d (k+1) (by omega) (by omega)
  ·have hkn:k=n:=by omega
   subst hkn;have hw2:zmb .i64 need=need:=wz (fI (by omega));rw[if_neg (show ¬ (k:Int) < ((cs,sh,(0:Int)).1.length:Int) by show ¬ (k:Int) < (cs.length:Int); omega),hw2]
   rcases hend with h | ⟨ho,h⟩
   ·rw[if_pos h,awk]
   ·by_cases h3:part w k=need
    ·rw[if_pos h3,awk]
    ·rw[if_neg h3,if_pos (show(out.length:Int)=(cs.length:Int) by omega),if_pos h,awk]
theorem zAl{s:Soc}{bits need:Int}(_:zsd s)(hb:zl6 .u8 bits)(hn:zl6 .u16 need):zui s bits need=some true:=by
 have hn:=zrI hn;obtain⟨B,rfl,hB⟩:=zAe hb;unfold zui
 refine zzC.pick (fun hs=>?_) fun _=>by rw[if_neg (by decide),awk]
 have h5:=hs.m5;have hw1:zmb .i64 (B:Int)=(B:Int):=wz (fI (by omega));have hpw:=zz0 (show s.Members.length<=8 by omega);have hfl:=zz2 s.Members.length;have hml:=zz6 B s.Members.length;rw[if_pos rfl,wzu (n:=need) (by omega),hw1,zzX hs,obs,zz3 (by omega),obs,zqr (by omega),zqr (by omega),zqr (fI (by omega)),zqr (fI (by omega)),Int.toNat_natCast,Int.toNat_natCast]
 show gd (zl6 .i64 (zz4 B s.Members.length:Int)) ((zsB (zz4 B s.Members.length:Int)).bind _)=_
 rw[zqr (fI (by omega)),zzr (by omega),obs]
 show(zt7 (zAf s need)).bind _=_
 have hy:=zAg hs (n:=need) (by omega);obtain⟨hlo,hhi⟩:=zAh (s:=s) (n:=need) (by omega);have hmost:∀a∈(zAf s need).Members,need<=a.Most:=zzT;have hyl:(zAf s need).Members.length=s.Members.length:=List.length_map _;have hfr:(zzQ s need).Members.length=s.Members.length:=List.length_map _;rw[zzB hy.thin,obs]
 show(ztW (zAf s need) need).bind _=_
 obtain⟨c1,c2,c3⟩:=zzY hy (N:=need) (by omega) hmost;rw[c1,obs]
 show(zt7 (zAf s need)).bind _=_
 have hlb:=zzv (b:=zz4 B s.Members.length)
 have hshrt:zrT (zyB (zz4 B s.Members.length)):=by unfold zrT; omega
 rw[zzB hy.thin,obs,zzy (by omega),obs]
 show(ztY (zAf s need) (zyB (zz4 B s.Members.length))).bind _=_
 rw[zy8 hy hshrt (by rw[hyl]; exact zAb h5 hml),obs,if_pos rfl,if_pos rfl,if_pos rfl];have l1:=zy1 (s:=zAf s need) [] need hy.m5;have l2:=zy6 (s:=zAf s need) (zyB (zz4 B s.Members.length))
 have hask:∀j,zyc (zAf s need).Members.length (zyB (zz4 B s.Members.length)) j=(decide (j < s.Members.length) && !B.testBit j):=fun j=>by
  rw[hyl,zAc h5 hml,zz5]
  by_cases hj:j < s.Members.length
  ·rw[decide_eq_true hj,Bool.and_true]
  ·rw[decide_eq_false hj]; rfl
 have hsup:=zye (zAf s need).Members (zyB (zz4 B s.Members.length));rw[if_pos (by show((zy0 (zAf s need) [] need).length:Int)=((zzQ s need).Members.length:Int); rw[l1,hyl,hfr]),if_pos (by show((zy5 (zAf s need) _).length:Int)=((zy0 (zAf s need) [] need).length:Int); rw[l1,l2])];have hbd:=fun {i:Nat} (hi:i < 5)=>zxW hy.msOk hsup (N:=need) (by omega) hi;have hsum:=zxT hy.msOk hsup (N:=need) (by omega)
 have hpart:part (zxN (zAf s need).Members (zyc (zAf s need).Members.length (zyB (zz4 B s.Members.length))) need).1 s.Members.length=S5 (zxN (zAf s need).Members (zyc (zAf s need).Members.length (zyB (zz4 B s.Members.length))) need).1:=
  zzI _ h5 fun i h1 h2=>zxU hy.msOk hsup (by omega) h2 (by rw[hask,decide_eq_false (by omega)]; rfl)
 refine zAk (w:=(zxN (zAf s need).Members (zyc (zAf s need).Members.length (zyB (zz4 B s.Members.length))) need).1) (c:=zw6 need (uF (zAf s need).Members (zyc (zAf s need).Members.length []))) hB h5 (by omega) (by rw[l1,hyl]) (fun k hk=>c2 k (by omega)) (fun k hk=>?_) (fun k hk=>by have:=hbd (i:=k) (by omega); omega) (fun k hk=>?_) (fun k hk hbk=>?_) (fun k hk hbk=>?_) ?_ _ 0 (Nat.zero_le _) ?_
 ·rw[zy7 _ (by omega)];obtain⟨e1,e2⟩:=zAi hy hlo hhi fun N=>(zxN (zAf s need).Members (zyc (zAf s need).Members.length (zyB (zz4 B s.Members.length))) N).1 k
  congr 1
  generalize bnd _ _=r at e1 e2
  cases r
  simp only at e1 e2
  rw[e1,e2]
 ·have:=zzK hy [] (N:=need) (by omega) _ (List.mem_of_getElem? (c2 k (by omega)));exact this
 ·have hsk:zyc (zAf s need).Members.length (zyB (zz4 B s.Members.length)) k=true:=by rw[hask,decide_eq_true hk,hbk]; rfl
  have hnn:¬ zxw (zyc (zAf s need).Members.length (zyB (zz4 B s.Members.length)))=true:=fun h=>by have:=zxz.1 h k (by omega); rw[hsk] at this; cases this
  rw[(zzL hy.msOk hsup (by omega) hnn hmost).1];exact zAj hy.msOk (by omega) hsup hnn (zzO hy) (by omega) hsk
 ·exact zxU hy.msOk hsup (by omega) (by omega) (by rw[hask,hbk]; simp)
 ·rw[hpart]
  by_cases hnn:zxw (zyc (zAf s need).Members.length (zyB (zz4 B s.Members.length)))=true
  ·refine .inr ⟨?_,by rw[zzM hnn]; rfl⟩
   exact zAd h5 hml fun j hj=>by
    have:=zxz.1 hnn j (by omega);rw[hask,decide_eq_true hj,Bool.true_and] at this;rw[zz5,decide_eq_true hj,Bool.and_true]
    cases hq:B.testBit j with
    | true=>rfl
    | false=>rw[hq] at this; cases this
  ·left
   have:=(zzL hy.msOk hsup (N:=need) (by omega) hnn hmost).2
   omega
 ·rw[l1,hyl]; omega
end
end Go.Proofs.Ytkclhciahokifaa

namespace Go.Proofs.Ytkclhciahokifaa
open _root_.Go.Proofs.Try
open Go.ChangeShapes Go.WideShapes Go.ChangeAt Go.RowKit Go.Abs
set_option maxRecDepth 100000
theorem op3:zrZ prog 3 Int (zl6 .i64):=zr0 (by kernel_rfl)
theorem zAm:zrZ prog 82 Mb zsb:=zr7 (fs:=[(3,0),(3,1),(3,2)]) (by kernel_rfl) (by kernel_rfl) (zr6 (α:=Int) (ok:=zl6 .i64) (k:=1) op3 (by kernel_rfl) rfl (zr6 (α:=Int) (ok:=zl6 .i64) (k:=1) op3 (by kernel_rfl) rfl (zr6 (α:=Int) (ok:=zl6 .i64) (k:=1) op3 (by kernel_rfl) rfl zr5))) (by kernel_rfl) fun m vs h=>by
 obtain⟨a0,c0,r0,m0,h0,p0,k0,s0,⟨a1,c1,r1,m1,h1,p1,k1,s1,⟨a2,c2,r2,m2,h2,p2,k2,s2,rfl⟩⟩⟩:=h;have p0:c0=[.int .i64 a0]:=p0; subst p0;have p1:c1=[.int .i64 a1]:=p1; subst p1;have p2:c2=[.int .i64 a2]:=p2; subst p2;subst h2 h1 h0;exact⟨⟨a0,a1,a2⟩,rfl,⟨k0,k1,k2⟩⟩
theorem zAn:zrZ prog 22 (List Mb) (fun l=>l.length<=maxLen/\∀a0∈l,zsb a0):=zr2 (by kernel_rfl) (by kernel_rfl) zAm
theorem zAo:zrZ prog 25 Rg zr9:=zr7 (fs:=[(3,0),(3,1)]) (by kernel_rfl) (by kernel_rfl) (zr6 (α:=Int) (ok:=zl6 .i64) (k:=1) op3 (by kernel_rfl) rfl (zr6 (α:=Int) (ok:=zl6 .i64) (k:=1) op3 (by kernel_rfl) rfl zr5)) (by kernel_rfl) fun m vs h=>by
 obtain⟨a0,c0,r0,m0,h0,p0,k0,s0,⟨a1,c1,r1,m1,h1,p1,k1,s1,rfl⟩⟩:=h;have p0:c0=[.int .i64 a0]:=p0; subst p0;have p1:c1=[.int .i64 a1]:=p1; subst p1;subst h1 h0;exact⟨⟨a0,a1⟩,rfl,⟨k0,k1⟩⟩
theorem zAp:zrZ prog 23 (List Rg) (fun l=>l.length<=maxLen/\∀a0∈l,zr9 a0):=zr2 (by kernel_rfl) (by kernel_rfl) zAo
theorem zAq:zrZ prog 27 Soc zsd:=zr7 (fs:=[(22,0),(23,1),(25,2),(3,4)]) (by kernel_rfl) (by kernel_rfl) (zr6 (α:=List Mb) (ok:=(fun l=>l.length<=maxLen/\∀a0∈l,zsb a0)) (k:=1) zAn (by kernel_rfl) rfl (zr6 (α:=List Rg) (ok:=(fun l=>l.length<=maxLen/\∀a0∈l,zr9 a0)) (k:=1) zAp (by kernel_rfl) rfl (zr6 (α:=Rg) (ok:=zr9) (k:=2) zAo (by kernel_rfl) rfl (zr6 (α:=Int) (ok:=zl6 .i64) (k:=1) op3 (by kernel_rfl) rfl zr5)))) (by kernel_rfl) fun m vs h=>by
 obtain⟨a0,c0,r0,m0,h0,p0,k0,s0,⟨a1,c1,r1,m1,h1,p1,k1,s1,⟨a2,c2,r2,m2,h2,p2,k2,s2,⟨a3,c3,r3,m3,h3,p3,k3,s3,rfl⟩⟩⟩⟩:=h;obtain⟨d0,rfl,p0⟩:=p0;obtain⟨d1,rfl,p1⟩:=p1;have p2:c2=[.int .i64 a2.Lo,.int .i64 a2.Hi]:=p2; subst p2;have p3:c3=[.int .i64 a3]:=p3; subst p3;subst h3 h2 h1 h0;exact⟨⟨a0,a1,a2,a3⟩,⟨_,_,rfl,p0,p1⟩,⟨k0,k1,k2,k3⟩⟩
theorem zAr:laidOutB prog=true:=by kernel_rfl
theorem zAs:ownKnob prog.godebug=none:=by kernel_rfl
theorem zAt(os:Os)(started:os.Started)(H:Type)(enc:TypeId × Value->H) :
    ReturnsInHanded {} Try.checked os 15 .any (Rows.callDefaultSpec.pre6 enc Try.prog Try.f15 Rows.callDefaultRow.domain false) (Rows.callDefaultSpec.post enc Try.prog Try.f15 false true false false):=by
  refine returnsInHanded_of_change (C:=Try.checked) zAs started (by kernel_rfl) Try.func15
    (ChangeSpec.witness6 (enc:=enc) (C:=Try.checked) false ⟨#[],#[.agg #[.slice none 0 0,.slice none 0 0,.int .i64 0,.int .i64 0,.int .i64 0],.int .u8 0,.int .u16 0],[]⟩ 8 (by kernel_rfl) (by kernel_rfl) (by kernel_rfl) (by kernel_rfl)) ?_
  intro W base args ds gs before hval0 hW hcnd _;have hval:∀(j:Nat) t v,Try.f15.params[j]? = some t->args[j]? = some v->Value.okWide Try.prog W .any base t v:=hval0;have hW':=hW;obtain⟨p,q,hA0,hV,rfl,hfz,hnd⟩:=hW;have hA:DataW.TrodAll enc Try.prog W 0 (fun _=>true) true Try.f15.params.toList args.toList ds p:=hA0;rw[Try.params15] at hA hval;obtain⟨v0,v1,v2,d0,d1,d2,p0,p1,p2,rfl,rfl,rfl,h0,h1,h2⟩:=trodAll_three hA;obtain⟨rfl,rfl⟩:=trodVars_none hV;obtain⟨n1,hv1⟩:=okWide_int Try.underlying5 (hval 1 5 v1 rfl rfl);obtain⟨n2,hv2⟩:=okWide_int Try.underlying90 (hval 2 90 v2 rfl rfl)
  have hlt:∀x∈p0++p1++p2,x.block < W.heap.size:=fun x hx=>by simpa using hW'.lt x (by simpa using hx)
  obtain⟨fu0,hf0⟩:=id h0;obtain⟨fu1,hf1⟩:=id h1;obtain⟨fu2,hf2⟩:=id h2
  clear hA0 hval0
  obtain⟨e0,m0,w0,a_0,le0,sv0,lay0,cr0,zuL,ok0⟩:=zAq H enc W true _ _ _ hf0 _ _ (Lay.nil W);obtain⟨i1,hc1,_,hw1⟩:=DataW.trod_int Try.underlying5 hf1;obtain⟨i2,hc2,_,hw2⟩:=DataW.trod_int Try.underlying90 hf2;obtain⟨c0_0,c0_1,rfl,g0_0,g0_1⟩:=zuL
  obtain⟨cs0,hv0,cl0⟩:∃cs,v0=.agg cs/\v0.cells.toList=cs.toList:=by
    have hl:=cr0.length
    cases v0 with
    | agg cs=>exact⟨cs,rfl,rfl⟩
    | _=>exact absurd hl (by simp[Value.cells])
  subst hv0;subst hv1
  have hi1:i1=n1:=by
    have h:[Value.int .u8 n1]=[.int .u8 i1]:=hc1
    cases h; rfl
  subst hi1;subst hv2
  have hi2:i2=n2:=by
    have h:[Value.int .u16 n2]=[.int .u16 i2]:=hc2
    cases h; rfl
  subst hi2;have hargs:zeq (VR e0) [.agg 5 [c0_0,c0_1,.int .i64 a_0.Treaty.Lo,.int .i64 a_0.Treaty.Hi,.int .i64 a_0.Reserve],.c (.int .u8 i1),.c (.int .u16 i2)] [.agg cs0,.int .u8 i1,.int .u16 i2]:=.cons ⟨cs0,rfl,cr0,rfl⟩ (.cons rfl (.cons rfl .nil));refine(callsIn_wide.1 (zqC fits htab (zwu (s:=a_0) (bits:=i1) (need:=i2) lay0.pre g0_0 g0_1 (zAl ok0 (zqA hw1) (zqA hw2)) (Q:=fun v _=>v=.c (.bool true)) fun _ _=>rfl) lay0.hr (args':=#[.agg cs0,.int .u8 i1,.int .u16 i2]) hargs 0)).mono fun en W' hp=>?_;obtain⟨v,v',e',m',rfl,hst,hvr,rfl⟩:=hp;have hv':v'=.bool true:=hvr;subst hv';have hbelow:=lay0.below hst
  refine⟨_,rfl,[d0,d1,d2],[],p0++p1++p2,[],p0++(p1++p2),[],by simpa using hW',trodAll_mk1 (shut_bool Try.underlying4 _),
    trodAll_mk3 (Below.trod zAr (by kernel_rfl) (of_decide_eq_true (by kernel_rfl)) h0 hbelow fun x hx=>hlt x (by simp[hx])) (Below.trod zAr (by kernel_rfl) (of_decide_eq_true (by kernel_rfl)) h1 hbelow fun x hx=>hlt x (by simp[hx])) (Below.trod zAr (by kernel_rfl) (of_decide_eq_true (by kernel_rfl)) h2 hbelow fun x hx=>hlt x (by simp[hx])),rfl,lay0.kept hst _,fun hc=>by cases hc⟩
theorem CallDefault_holds:Rows.CallDefaultSaid:=
 OpenClaim.holds_of_wide 15 Try.f15 rfl rfl rfl rfl rfl rfl rfl ⟨rfl,rfl,rfl,rfl,rfl⟩ rfl rfl rfl rfl rfl (by kernel_rfl) Try.func15 (by kernel_rfl)
  (of_decide_eq_true (by kernel_rfl)) (by unfold Func.isWrapper; first | (rw[if_pos (by decide +kernel)]; kernel_rfl) | (rw[if_neg (by decide +kernel)]; exact⟨rfl,rfl⟩))
  (fun os started H enc _=>zAt os started H enc)
end Go.Proofs.Ytkclhciahokifaa

