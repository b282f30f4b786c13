/- CallMore, for all that it can be called with, returns true. Condition: none. -/
import Derived.Test.YtkclhciahokifaaCaH
import GoSem.Step
import GoSem.ClaimKeys
import Derived.DeepKeys2
import Derived.RangeFuncLeaves
import Derived.OrdersIn
import Derived.Laws.World
import Derived.Laws.Sem
import Derived.RangeFuncRecord
import Derived.Laws.CopyRow
import Derived.Laws.Append
import Derived.Laws.Rows
import Derived.Laws.Slices
import Derived.Laws.Entries
import Derived.ChangeKeysEq
import Derived.IntWalk
import Derived.DeepKeys
import Derived.DeepKeys3
import Derived.Laws.StructEq
import Derived.MapKept
import Derived.Laws.AppendOwn
import Derived.ChangeArms
import Derived.ChangeOld
import Derived.Carry
import Derived.ChangeShapes
import Derived.KernelRfl
import Derived.ProofKit
import Derived.Test.YtkclhciahokifaaRows

namespace Go.Proofs.Ytkclhciahokifaa
open _root_.Go.Proofs.Try
open Go.Abs
set_option maxRecDepth 100000
noncomputable section
structure zxi (a:Mb):Prop where
 sum:1<=a.Sum/\a.Sum<=1000
 cls:1<=a.Class/\a.Class<=10
 most:0<=a.Most/\a.Most<=100000
def zxj(ms:List Mb):Prop:=ms.length<=5/\∀a∈ms,zxi a
def unN(a:Mb):Int:=a.Sum * a.Class
theorem zxk{a:Mb}(h:zxi a):1<=unN a/\unN a<=10000:=by
 have h1:=zwU (a:=a.Sum) (x:=a.Class) (A:=1000) (X:=10) ⟨by have:=h.sum; omega,h.sum.2⟩ ⟨by have:=h.cls; omega,h.cls.2⟩;have h2:a.Sum * 1<=a.Sum * a.Class:=Int.mul_le_mul_of_nonneg_left h.cls.1 (by have:=h.sum; omega);have:=h.sum;unfold unN; omega
def uF(ms:List Mb)(sh:Nat->Bool):Nat->Int:=zww ms sh unN
def mF(ms:List Mb)(sh:Nat->Bool):Nat->Int:=zww ms sh (·.Most)
def zxl(sh:Nat->Bool):Bool:=(sh 0 == false) && ((sh 1 == false) && ((sh 2 == false) && ((sh 3 == false) && (sh 4 == false))))
def zxm(a b:Nat->Bool):Bool:=(a 0 == b 0) && ((a 1 == b 1) && ((a 2 == b 2) && ((a 3 == b 3) && (a 4 == b 4))))
def zxn(ms:List Mb)(sh:Nat->Bool):Prop:=∀i,sh i=true->i < ms.length
def roundsN(ms:List Mb):Nat->(Nat->Bool)->Int->(Nat->Int)->(Nat->Int) × Int
 | 0,_,N,c=>(c,N)
 | d+1,sh,N,c=>if zxl sh=true then (c,N) else
   if zxm (zwy ms sh (zwV N (uF ms sh))) sh=true then (fun i=>c i+zwV N (uF ms sh) i,0) else
    roundsN ms d (zwy ms sh (zwV N (uF ms sh))) (N - S5 (mF ms fun i=>sh i && !zwy ms sh (zwV N (uF ms sh)) i)) (fun i=>c i+mF ms (fun i=>sh i && !zwy ms sh (zwV N (uF ms sh)) i) i)
def cF(sh:Nat->Bool):Nat:=(sh 0).toNat+(sh 1).toNat+(sh 2).toNat+(sh 3).toNat+(sh 4).toNat
theorem zxo{sh:Nat->Bool}:zxl sh=true↔∀i,i < 5->sh i=false:=by
 unfold zxl
 simp only[Bool.and_eq_true,beq_iff_eq]
 constructor
 ·rintro⟨h0,h1,h2,h3,h4⟩ i hi
  match i,hi with
  | 0,_=>exact h0
  | 1,_=>exact h1
  | 2,_=>exact h2
  | 3,_=>exact h3
  | 4,_=>exact h4
 ·intro h; exact⟨h 0 (by omega),h 1 (by omega),h 2 (by omega),h 3 (by omega),h 4 (by omega)⟩
theorem zxp{a b:Nat->Bool}:zxm a b=true↔∀i,i < 5->a i=b i:=by
 unfold zxm
 simp only[Bool.and_eq_true,beq_iff_eq]
 constructor
 ·rintro⟨h0,h1,h2,h3,h4⟩ i hi
  match i,hi with
  | 0,_=>exact h0
  | 1,_=>exact h1
  | 2,_=>exact h2
  | 3,_=>exact h3
  | 4,_=>exact h4
 ·intro h; exact⟨h 0 (by omega),h 1 (by omega),h 2 (by omega),h 3 (by omega),h 4 (by omega)⟩
theorem zxq{ms:List Mb}{sh:Nat->Bool}{p:Nat->Int}{i:Nat}(h:zwy ms sh p i=true):sh i=true:=by
 unfold zwy at h
 cases hm:ms[i]? with
 | none=>rw[hm] at h; exact h
 | some a=>rw[hm] at h; exact(Bool.and_eq_true _ _ ▸ h).1
theorem zxr{ms:List Mb}{sh:Nat->Bool}{p:Nat->Int}{i:Nat}{a:Mb}(hm:ms[i]? = some a):zwy ms sh p i=(sh i && decide (p i<=a.Most)):=by unfold zwy; rw[hm]
theorem zxs{ms:List Mb}{sh:Nat->Bool}{p:Nat->Int}(h:¬ zxm (zwy ms sh p) sh=true):cF (zwy ms sh p) < cF sh:=by
 have hle:∀i,(zwy ms sh p i).toNat<=(sh i).toNat:=fun i=>by
  cases ha:zwy ms sh p i with
  | false=>exact Nat.zero_le _
  | true=>rw[zxq ha]; exact Nat.le_refl _
 have hne:∃i,i < 5/\(zwy ms sh p i).toNat ≠ (sh i).toNat:=by
  apply Classical.byContradiction
  intro hn;refine h (zxp.2 fun i hi=>?_)
  apply Classical.byContradiction
  intro h2;refine hn ⟨i,hi,fun h3=>h2 ?_⟩
  revert h3; cases zwy ms sh p i <;> cases sh i <;> decide
 obtain⟨i,hi,h2⟩:=hne;have l0:=hle 0; have l1:=hle 1; have l2:=hle 2; have l3:=hle 3; have l4:=hle 4;unfold cF
 match i,hi with
 | 0,_=>omega
 | 1,_=>omega
 | 2,_=>omega
 | 3,_=>omega
 | 4,_=>omega
theorem zxt{ms:List Mb}{sh:Nat->Bool}{num:Mb->Int}{i:Nat}(h:sh i=false):zww ms sh num i=0:=by
 unfold zww
 cases ms[i]? with
 | none=>rfl
 | some a=>show(if sh i=true then num a else 0)=0; rw[h]; rfl
theorem zxu{ms:List Mb}{sh:Nat->Bool}{num:Mb->Int}{i:Nat}{a:Mb}(hm:ms[i]? = some a)(h:sh i=true):zww ms sh num i=num a:=by
 unfold zww; rw[hm]; show(if sh i=true then num a else 0)=_; rw[h,if_pos rfl]
theorem zxv{ms:List Mb}(hms:zxj ms)(sh:Nat->Bool)(i:Nat):0<=uF ms sh i/\uF ms sh i<=10000:=by
 unfold uF
 cases hs:sh i with
 | false=>rw[zxt hs]; omega
 | true=>
  cases hm:ms[i]? with
  | none=>unfold zww; rw[hm]; show(0:Int)<=0/\(0:Int)<=_; omega
  | some a=>rw[zxu hm hs]; have:=zxk (hms.2 a (List.mem_of_getElem? hm)); omega
theorem zxw{ms:List Mb}(hms:zxj ms){sh:Nat->Bool}(hs:zxn ms sh)(hn:¬ zxl sh=true):UOk (uF ms sh):=by
 have hb:=zxv hms sh;refine⟨fun i _=>by have:=hb i; omega,?_⟩
 obtain⟨i,hi,hsi⟩:∃i,i < 5/\sh i=true:=by
  apply Classical.byContradiction
  intro h;refine hn (zxo.2 fun i hi=>?_)
  cases hq:sh i with
  | false=>rfl
  | true=>exact absurd ⟨i,hi,hq⟩ h
 have hl:=hs i hsi
 have h1:1<=uF ms sh i:=by unfold uF; rw[zxu (List.getElem?_eq_getElem hl) hsi]; exact(zxk (hms.2 _ (List.getElem_mem hl))).1
 have b0:=hb 0; have b1:=hb 1; have b2:=hb 2; have b3:=hb 3; have b4:=hb 4;unfold S5
 match i,hi with
 | 0,_=>omega
 | 1,_=>omega
 | 2,_=>omega
 | 3,_=>omega
 | 4,_=>omega
structure RI (ms:List Mb) (sh:Nat->Bool) (N:Int) (c:Nat->Int):Prop where
 sup:zxn ms sh
 nn:0<=N/\N<=1000000
 cb:∀i,i < 5->0<=c i/\c i<=1000000
 c0:∀i,sh i=true->c i=0
section
variable {ms:List Mb} {sh:Nat->Bool} {N:Int} {c:Nat->Int}
theorem zxx(p:Nat->Int){i:Nat}:(sh i && !zwy ms sh p i)=true↔sh i=true/\∃a,ms[i]? = some a/\a.Most < p i:=by
 cases hm:ms[i]? with
 | none=>unfold zwy; rw[hm]; cases sh i <;> simp
 | some a=>
  rw[zxr hm]
  cases sh i with
  | false=>simp
  | true=>simp
theorem zxy(hms:zxj ms)(hs:zxn ms sh)(hn:¬ zxl sh=true)(hN:0<=N){i:Nat}(hi:i < 5) :
  0<=mF ms (fun i=>sh i && !zwy ms sh (zwV N (uF ms sh)) i) i/\mF ms (fun i=>sh i && !zwy ms sh (zwV N (uF ms sh)) i) i<=qN N (uF ms sh) i:=by
 have hu:=zxw hms hs hn;have hq:=zwW hu hN hi;unfold mF
 cases ho:(sh i && !zwy ms sh (zwV N (uF ms sh)) i) with
 | false=>rw[zxt (by exact ho)]; omega
 | true=>
  obtain⟨h1,a,h2,h3⟩:=(zxx _).1 ho;have hb:=(hms.2 a (List.mem_of_getElem? h2)).most;have hp:=zxe N (uF ms sh) i;rw[zxu h2 (by exact ho)]; omega
theorem RI.next(hms:zxj ms)(h:RI ms sh N c)(hn:¬ zxl sh=true):RI ms (zwy ms sh (zwV N (uF ms sh))) (N - S5 (mF ms fun i=>sh i && !zwy ms sh (zwV N (uF ms sh)) i)) (fun i=>c i+mF ms (fun i=>sh i && !zwy ms sh (zwV N (uF ms sh)) i) i):=by
 have hu:=zxw hms h.sup hn;have hm:=fun i (hi:i < 5)=>zxy hms h.sup hn h.nn.1 hi
 have hs:S5 (mF ms fun i=>sh i && !zwy ms sh (zwV N (uF ms sh)) i)<=S5 (zwV N (uF ms sh)):=zw2 fun i hi=>by have:=hm i hi; have:=zxe N (uF ms sh) i; omega
 rw[zxd hu] at hs
 have hs0:0<=S5 (mF ms fun i=>sh i && !zwy ms sh (zwV N (uF ms sh)) i):=by
  have:=hm 0 (by omega); have:=hm 1 (by omega); have:=hm 2 (by omega); have:=hm 3 (by omega); have:=hm 4 (by omega);unfold S5; omega
 have hnn:=h.nn;refine⟨fun i hi=>h.sup i (zxq hi),by omega,fun i hi=>?_,fun i hi=>?_⟩
 ·have h1:=hm i hi;have h2:=h.cb i hi
  have h3:mF ms (fun i=>sh i && !zwy ms sh (zwV N (uF ms sh)) i) i<=N:=by have:=zwW hu h.nn.1 hi; omega
  show 0<=c i+_/\c i+_<=_
  cases ho:(sh i && !zwy ms sh (zwV N (uF ms sh)) i) with
  | false=>
   have e:mF ms (fun i=>sh i && !zwy ms sh (zwV N (uF ms sh)) i) i=0:=zxt (by exact ho);rw[e]; omega
  | true=>
   have hc:=h.c0 i ((zxx _).1 ho).1;rw[hc]; omega
 ·have h1:=zxq hi
  show c i+_=0
  have e:mF ms (fun i=>sh i && !zwy ms sh (zwV N (uF ms sh)) i) i=0:=zxt (by show(sh i && !zwy ms sh _ i)=false; rw[hi]; simp);rw[h.c0 i h1,e]; rfl
theorem zxz{w:Wk}(hms:zxj w.s.Members):ztw w (mkF sh)=some (mk5 (uF w.s.Members sh)):=by
 unfold ztw;rw[zwx (num:=unN) (fun a ha=>?_) hms.1,obs]; rfl;have h:=hms.2 a ha;have:=h.sum; have:=h.cls;have hb:=zxk h;unfold unN at hb
 show zts a=some (unN a)
 unfold zts unN;rw[zqs (by omega),zqs (by omega),zqs (fI (by omega))]
theorem zxA{w:Wk}(hms:zxj w.s.Members):ztx w (mkF sh)=some (mk5 (mF w.s.Members sh)):=by
 unfold ztx;rw[zwx (number:=fun a=>ztt a) (num:=(·.Most)) (fun a _=>rfl) hms.1,obs]; rfl
theorem zxB{w:Wk}(hms:zxj w.s.Members)(need0:Int){need:Int}:∀(n D:Nat) (sh:Nat->Bool) (N:Int) (c:Nat->Int),RI w.s.Members sh N c->N+S5 c=need->need<=1000000->cF sh < n->cF sh < D ->
  ztA w need0 D need (c 0) (c 1) (c 2) (c 3) (c 4) (sh 0) (sh 1) (sh 2) (sh 3) (sh 4)=some { need:=need,calls:=mk5 (roundsN w.s.Members n sh N c).1 }
 | 0,_,_,_,_,_,_,_,h,_=>by omega
 | _+1,0,_,_,_,_,_,_,_,h=>by omega
 | n+1,D+1,sh,N,c,hr,hs,hneed,hn,hD=>by
  rw[ztA,roundsN]
  show(if zxl sh=true then _ else _)=_
  by_cases h0:zxl sh=true
  ·rw[if_pos h0,if_pos h0]; rfl
  ·rw[if_neg h0,if_neg h0];have hu:=zxw hms hr.sup h0
   have hbc:Bd 1000000000000 c:=fun i hi=>by have:=hr.cb i hi; omega
   have hcb:=hr.cb;have hc0:=hcb 0 (by omega); have hc1:=hcb 1 (by omega); have hc2:=hcb 2 (by omega); have hc3:=hcb 3 (by omega); have hc4:=hcb 4 (by omega)
   have hsc:0<=S5 c/\S5 c<=5000000:=by unfold S5; omega
   have hNN:0<=N/\N<=1000000:=hr.nn
   have e1:ztq ({ need:=need,calls:=mk5 c }:Oc)=some N:=by
    unfold ztq
    show(ztf (mk5 c)).bind _=_
    rw[zwt hbc,obs,zqs (fI (by show -9223372036854775808<=need - S5 c/\need - S5 c < _; omega))];exact congrArg some (show need - S5 c=N by omega)
   show(ztq ({ need:=need,calls:=mk5 c }:Oc)).bind _=_
   rw[e1,obs]
   show(ztw w (mkF sh)).bind _=_
   rw[zxz hms,obs,zwZ hu hNN,obs]
   show(ztz w (mkF sh) (mk5 (zwV N (uF w.s.Members sh)))).bind _=_
   rw[zwz hms.1,obs]
   have hbp:Bd 1000000000000 (zwV N (uF w.s.Members sh)):=fun i hi=>by have:=zxf hu hNN.1 hi; have:=zxg hu hNN.1 hi; omega
   show(if zxm (zwy w.s.Members sh (zwV N (uF w.s.Members sh))) sh=true then _ else _)=_
   by_cases h1:zxm (zwy w.s.Members sh (zwV N (uF w.s.Members sh))) sh=true
   ·rw[if_pos h1,if_pos h1]
    have e2:ztr ({ need:=need,calls:=mk5 c }:Oc) (mk5 (zwV N (uF w.s.Members sh)))=some { need:=need,calls:=mk5 fun i=>c i+zwV N (uF w.s.Members sh) i }:=by
     unfold ztr
     show(zth (mk5 c) _).bind _=_
     rw[zwu hbc hbp,obs]
    show(ztr ({ need:=need,calls:=mk5 c }:Oc) _).bind _=_
    rw[e2,obs]
   ·rw[if_neg h1,if_neg h1]
    show(ztj (mkF sh) (mkF (zwy w.s.Members sh (zwV N (uF w.s.Members sh))))).bind _=_
    rw[zwv,obs,zxA hms,obs];have hnext:=hr.next hms h0;have hm:=fun i (hi:i < 5)=>zxy hms hr.sup h0 hNN.1 hi
    have hbm:Bd 1000000000000 (mF w.s.Members fun i=>sh i && !zwy w.s.Members sh (zwV N (uF w.s.Members sh)) i):=fun i hi=>by have:=hm i hi; have:=zwW hu hNN.1 hi; omega
    have e2:ztr ({ need:=need,calls:=mk5 c }:Oc) (mk5 (mF w.s.Members fun i=>sh i && !zwy w.s.Members sh (zwV N (uF w.s.Members sh)) i))=some { need:=need,calls:=mk5 fun i=>c i+mF w.s.Members (fun i=>sh i && !zwy w.s.Members sh (zwV N (uF w.s.Members sh)) i) i }:=by
     unfold ztr
     show(zth (mk5 c) _).bind _=_
     rw[zwu hbc hbm,obs]
    show(ztr ({ need:=need,calls:=mk5 c }:Oc) _).bind _=_
    rw[e2,obs];have hless:=zxs h1;have e3:S5 (fun i=>c i+mF w.s.Members (fun i=>sh i && !zwy w.s.Members sh (zwV N (uF w.s.Members sh)) i) i)=S5 c+S5 (mF w.s.Members fun i=>sh i && !zwy w.s.Members sh (zwV N (uF w.s.Members sh)) i):=zwD _ _
    have e4:N - S5 (mF w.s.Members fun i=>sh i && !zwy w.s.Members sh (zwV N (uF w.s.Members sh)) i)+S5 (fun i=>c i+mF w.s.Members (fun i=>sh i && !zwy w.s.Members sh (zwV N (uF w.s.Members sh)) i) i)=need:=by rw[e3]; omega
    exact zxB hms need0 n D _ _ _ hnext e4 hneed (by omega) (by omega)
end
def zxC(ms:List Mb)(ask:Nat->Bool)(need:Int):(Nat->Int) × Int:=roundsN ms 6 ask need fun _=>0
theorem zxD(sh:Nat->Bool):cF sh<=5:=by
 have h:∀b:Bool,b.toNat<=1:=fun b=>by cases b <;> decide
 have:=h (sh 0); have:=h (sh 1); have:=h (sh 2); have:=h (sh 3); have:=h (sh 4);unfold cF; omega
theorem zxE{w:Wk}(hms:zxj w.s.Members){ask:Nat->Bool}(ha:w.asked=mkF ask)(hsup:zxn w.s.Members ask){need:Int}(hn:0<=need/\need<=1000000):ztB w need=some { need:=need,calls:=mk5 (zxC w.s.Members ask need).1 }:=by
 unfold ztB;rw[ha];have hc:=zxD ask;exact zxB hms need 6 1000000 ask need (fun _=>0) ⟨hsup,hn,fun _ _=>by omega,fun _ _=>rfl⟩ (by rw[zwE]; omega) hn.2 (by omega) (by omega)
end
end Go.Proofs.Ytkclhciahokifaa

namespace Go.Proofs.Ytkclhciahokifaa
open _root_.Go.Proofs.Try
open Go.Abs
set_option maxRecDepth 100000
noncomputable section
section
variable {ms:List Mb}
theorem zxF(hms:zxj ms):∀(n:Nat) (sh:Nat->Bool) (N:Int) (c:Nat->Int),RI ms sh N c->cF sh < n->S5 (roundsN ms n sh N c).1+(roundsN ms n sh N c).2=N+S5 c/\0<=(roundsN ms n sh N c).2
 | 0,_,_,_,_,h=>by omega
 | n+1,sh,N,c,hr,h=>by
  unfold roundsN
  by_cases h0:zxl sh=true
  ·rw[if_pos h0]; have:=hr.nn; exact⟨by show S5 c+N=_; omega,hr.nn.1⟩
  ·rw[if_neg h0];have hu:=zxw hms hr.sup h0
   by_cases h1:zxm (zwy ms sh (zwV N (uF ms sh))) sh=true
   ·rw[if_pos h1];have e:S5 (fun i=>c i+zwV N (uF ms sh) i)=S5 c+S5 (zwV N (uF ms sh)):=zwD _ _;have hp:=zxd hu N;exact⟨by show S5 (fun i=>c i+zwV N (uF ms sh) i)+0=_; omega,Int.le_refl _⟩
   ·rw[if_neg h1];have hless:=zxs h1;have ih:=zxF hms n _ _ _ (hr.next hms h0) (by omega);have e:S5 (fun i=>c i+mF ms (fun i=>sh i && !zwy ms sh (zwV N (uF ms sh)) i) i)=S5 c+S5 (mF ms fun i=>sh i && !zwy ms sh (zwV N (uF ms sh)) i):=zwD _ _;rw[e] at ih;exact⟨by rw[ih.1]; omega,ih.2⟩
theorem zxG(hms:zxj ms):∀(n:Nat) (sh:Nat->Bool) (N:Int) (c:Nat->Int),RI ms sh N c->cF sh < n->∀i,i < 5->sh i=false->(roundsN ms n sh N c).1 i=c i
 | 0,_,_,_,_,h=>by omega
 | n+1,sh,N,c,hr,h=>fun i hi hs=>by
  unfold roundsN
  by_cases h0:zxl sh=true
  ·rw[if_pos h0]
  ·rw[if_neg h0];have hu:=zxw hms hr.sup h0
   by_cases h1:zxm (zwy ms sh (zwV N (uF ms sh))) sh=true
   ·rw[if_pos h1]
    show c i+_=_
    rw[zxh hu (show uF ms sh i=0 from zxt hs),Int.add_zero]
   ·rw[if_neg h1];have hless:=zxs h1
    have ha:zwy ms sh (zwV N (uF ms sh)) i=false:=by
     cases hq:zwy ms sh (zwV N (uF ms sh)) i with
     | false=>rfl
     | true=>rw[zxq hq] at hs; cases hs
    rw[zxG hms n _ _ _ (hr.next hms h0) (by omega) i hi ha];have e:mF ms (fun i=>sh i && !zwy ms sh (zwV N (uF ms sh)) i) i=0:=zxt (by show(sh i && _)=false; rw[hs]; rfl);rw[e,Int.add_zero]
theorem zxH(hms:zxj ms):∀(n:Nat) (sh:Nat->Bool) (N:Int) (c:Nat->Int),RI ms sh N c->cF sh < n->∀i a,i < 5->ms[i]? = some a->sh i=true->(0<=(roundsN ms n sh N c).1 i/\(roundsN ms n sh N c).1 i<=a.Most)/\(0 < (roundsN ms n sh N c).2->(roundsN ms n sh N c).1 i=a.Most)
 | 0,_,_,_,_,h=>by omega
 | n+1,sh,N,c,hr,h=>fun i a hi hm hs=>by
  unfold roundsN
  by_cases h0:zxl sh=true
  ·have:=zxo.1 h0 i hi; rw[hs] at this; cases this
  ·rw[if_neg h0];have hu:=zxw hms hr.sup h0;have hc:=hr.c0 i hs;have hp:=zxf hu hr.nn.1 hi
   by_cases h1:zxm (zwy ms sh (zwV N (uF ms sh))) sh=true
   ·rw[if_pos h1];have h2:=zxp.1 h1 i hi;rw[zxr hm,hs,Bool.true_and] at h2;have h3:zwV N (uF ms sh) i<=a.Most:=of_decide_eq_true h2;exact⟨by show 0<=c i+_/\c i+_<=_; omega,fun h=>absurd h (Int.lt_irrefl _)⟩
   ·rw[if_neg h1];have hless:=zxs h1
    cases hq:zwy ms sh (zwV N (uF ms sh)) i with
    | true=>exact zxH hms n _ _ _ (hr.next hms h0) (by omega) i a hi hm hq
    | false=>
     rw[zxG hms n _ _ _ (hr.next hms h0) (by omega) i hi hq];have e:mF ms (fun i=>sh i && !zwy ms sh (zwV N (uF ms sh)) i) i=a.Most:=zxu hm (by show(sh i && !zwy ms sh _ i)=true; rw[hs,hq]; rfl);have hb:=(hms.2 a (List.mem_of_getElem? hm)).most;rw[e,hc];exact⟨by omega,fun _=>by omega⟩
end
section
variable {ms:List Mb} {ask:Nat->Bool} {N:Int}
theorem RI0(hs:zxn ms ask)(hN:0<=N/\N<=1000000):RI ms ask N fun _=>0:=⟨hs,hN,fun _ _=>by omega,fun _ _=>rfl⟩
theorem zxI(hms:zxj ms)(hs:zxn ms ask)(hN:0<=N/\N<=1000000):S5 (zxC ms ask N).1+(zxC ms ask N).2=N/\0<=(zxC ms ask N).2:=by
 have:=zxD ask;have h:=zxF hms 6 ask N (fun _=>0) (RI0 hs hN) (by omega);rw[zwE] at h;exact⟨by rw[Int.add_zero] at h; exact h.1,h.2⟩
theorem zxJ(hms:zxj ms)(hs:zxn ms ask)(hN:0<=N/\N<=1000000){i:Nat}(hi:i < 5)(ha:ask i=false):(zxC ms ask N).1 i=0:=by
 have:=zxD ask;exact zxG hms 6 ask N (fun _=>0) (RI0 hs hN) (by omega) i hi ha
theorem zxK(hms:zxj ms)(hs:zxn ms ask)(hN:0<=N/\N<=1000000){i:Nat}{a:Mb}(hi:i < 5)(hm:ms[i]? = some a)(ha:ask i=true):(0<=(zxC ms ask N).1 i/\(zxC ms ask N).1 i<=a.Most)/\(0 < (zxC ms ask N).2->(zxC ms ask N).1 i=a.Most):=by
 have:=zxD ask;exact zxH hms 6 ask N (fun _=>0) (RI0 hs hN) (by omega) i a hi hm ha
theorem zxL(hms:zxj ms)(hs:zxn ms ask)(hN:0<=N/\N<=1000000){i:Nat}(hi:i < 5):0<=(zxC ms ask N).1 i/\(zxC ms ask N).1 i<=100000:=by
 cases ha:ask i with
 | false=>rw[zxJ hms hs hN hi ha]; omega
 | true=>
  have hm:=List.getElem?_eq_getElem (hs i ha);have h:=zxK hms hs hN hi hm ha;have hb:=(hms.2 _ (List.getElem_mem (hs i ha))).most
  omega
theorem zxM(hms:zxj ms)(hs:zxn ms ask)(hN:0<=N/\N<=1000000){i:Nat}(hi:i < 5):(zxC ms ask N).1 i<=mF ms ask i/\(0 < (zxC ms ask N).2->(zxC ms ask N).1 i=mF ms ask i):=by
 cases ha:ask i with
 | false=>
  have e:mF ms ask i=0:=zxt ha;rw[zxJ hms hs hN hi ha,e]; exact⟨Int.le_refl _,fun _=>rfl⟩
 | true=>
  have hm:=List.getElem?_eq_getElem (hs i ha);have e:mF ms ask i=(ms[i]'(hs i ha)).Most:=zxu hm ha;have h:=zxK hms hs hN hi hm ha;rw[e]; exact⟨h.1.2,h.2⟩
theorem zxN(hms:zxj ms)(hs:zxn ms ask)(hN:0<=N/\N<=1000000):(zxC ms ask N).2=max 0 (N - S5 (mF ms ask)):=by
 have h1:=zxI hms hs hN;have h2:S5 (zxC ms ask N).1<=S5 (mF ms ask):=zw2 fun i hi=>(zxM hms hs hN hi).1
 by_cases h:0 < (zxC ms ask N).2
 ·have h3:S5 (zxC ms ask N).1=S5 (mF ms ask):=zwF fun i hi=>(zxM hms hs hN hi).2 h
  omega
 ·omega
end
end
end Go.Proofs.Ytkclhciahokifaa

namespace Go.Proofs.Ytkclhciahokifaa
open _root_.Go.Proofs.Try
open Go.Abs
set_option maxRecDepth 100000
noncomputable section
def RgV(r:Rg):Prop:=0<=r.Lo/\r.Lo<=r.Hi/\r.Hi<=100000/\r.Hi - r.Lo<=30
instance (r:Rg):Decidable (RgV r):=by unfold RgV; infer_instance
structure zxO (s:Soc):Prop where
 pos:0 < s.Members.length
 ms:∀a∈s.Members,zxi a
 ls:∀r∈s.Losses,RgV r
 tr:RgV s.Treaty
 rs:0<=s.Reserve/\s.Reserve<=100000
structure zxP (s:Soc):Prop where
 m5:s.Members.length<=5
 l3:s.Losses.length<=3
 full:zxO s
theorem zxP.msOk{s:Soc}(h:zxP s):zxj s.Members:=⟨h.m5,h.full.ms⟩
open Classical in
def zxQ(s:Soc):Int:=if 5 < s.Members.length\/3 < s.Losses.length then 3 else if zxO s then 0 else 1
theorem zxR{s:Soc}:zxQ s=0↔zxP s:=by
 unfold zxQ
 by_cases h:5 < s.Members.length\/3 < s.Losses.length
 ·rw[if_pos h]; exact⟨fun h=>by omega,fun h2=>by have:=h2.m5; have:=h2.l3; omega⟩
 ·rw[if_neg h]
  by_cases hf:zxO s
  ·rw[if_pos hf]; exact⟨fun _=>⟨by omega,by omega,hf⟩,fun _=>rfl⟩
  ·rw[if_neg hf]; exact⟨fun h=>by omega,fun h=>absurd h.full hf⟩
theorem zxS{r:Rg}{n:Int}:Ev (zsD r n) (r.Lo<=n/\n<=r.Hi):=Ev.ite fun _=>Ev.dec Iff.rfl
theorem zxT{n:Int}:Ev (zsE n) (0<=n/\n<=100000):=zxS.ret
theorem zxU{r:Rg}:Ev (zsF r) (RgV r):=by
 refine(zxT.and fun h1=>zxT.and fun h2=>Ev.ite (K:=r.Hi - r.Lo<=30) fun _=>Ev.gd (fI (by omega)) (Ev.dec Iff.rfl)).imp ?_;unfold RgV; omega
theorem zxV{a:Mb}:Ev (zsG ({ su:=({ Lo:=(1:Int),Hi:=(1000:Int) }:Rg),cl:=({ Lo:=(1:Int),Hi:=(10:Int) }:Rg),mo:=({ Lo:=(0:Int),Hi:=(100000:Int) }:Rg) }:Lm) a) (zxi a):=
 (zxS.and fun _=>zxS.and fun _=>zxS.ret).imp ⟨fun⟨h1,h2,h3⟩=>⟨h1,h2,h3⟩,fun⟨h1,h2,h3⟩=>⟨h1,h2,h3⟩⟩
theorem gM{l:List Mb}{p:Mb->Option Bool}:∀{d:Nat} {x:Int},zsI l p d x=gIdx l p d x
 | 0,_=>rfl
 | d+1,x=>by unfold zsI gIdx; simp only[gM]
theorem gR{l:List Rg}{p:Rg->Option Bool}:∀{d:Nat} {x:Int},zsN l p d x=gIdx l p d x
 | 0,_=>rfl
 | d+1,x=>by unfold zsN gIdx; simp only[gR]
theorem gI{l:List Int}{p:Int->Option Bool}:∀{d:Nat} {x:Int},zsS l p d x=gIdx l p d x
 | 0,_=>rfl
 | d+1,x=>by unfold zsS gIdx; simp only[gI]
theorem zxW{s:Soc}(h1:zrT s.Members)(h2:zrT s.Losses):Ev (zsZ s) (zxO s):=by
 refine(Ev.ite fun _=>(Ev.each (q:=zxi) (fun a _=>zxV) h1.lt gM).and fun _=>(Ev.each (q:=RgV) (fun a _=>zxU) h2.lt gR).and fun _=>zxU.and fun _=>zxT.ret).imp ?_;exact⟨fun⟨a,b,c,d,e⟩=>⟨by omega,b,c,d,e⟩,fun⟨a,b,c,d,e⟩=>⟨by omega,b,c,d,e⟩⟩
theorem zxX{s:Soc}:Ev (zsY s) (5 < s.Members.length\/3 < s.Losses.length):=by
 unfold zsY
 by_cases h:(5:Int) < s.Members.length
 ·rw[if_pos h]; exact Ev.tt (by omega)
 ·rw[if_neg h]; exact Ev.dec (by omega)
theorem zxY{s:Soc}(h1:zrT s.Members)(h2:zrT s.Losses):zs0 s=some (zxQ s):=by
 unfold zs0 zxQ;refine zxX.pick (fun h=>?_) fun h=>?_
 ·rw[if_pos rfl,if_pos h]
 ·rw[if_neg (by decide),if_neg h];refine(zxW h1 h2).pick (fun h=>?_) fun h=>?_
  ·rw[if_pos rfl,if_pos h]
  ·rw[if_neg (by decide),if_neg h]
theorem zxZ{n lo hi:Int}:Ev (zsh n lo hi) (lo<=n/\n<=hi):=Ev.ite fun _=>Ev.dec Iff.rfl
theorem zx0{r:Rg}:Ev (zsi r) (RgV r):=Ev.ite fun h1=>Ev.ite fun h2=>Ev.ite fun h3=>Ev.gd (fI (by omega)) (Ev.dec Iff.rfl)
theorem zx1{s:Soc}(h1:s.Members.length<=8)(h2:s.Losses.length<=6):zsk s=some (zxQ s):=by
 unfold zsk zxQ
 by_cases c1:5 < s.Members.length
 ·rw[if_pos (by omega),if_pos (.inl c1)]
 rw[if_neg (by omega)]
 by_cases c2:3 < s.Losses.length
 ·rw[if_pos (by omega),if_pos (.inr c2)]
 rw[if_neg (show ¬ (3:Int) < s.Losses.length by omega),if_neg (show ¬ (5 < s.Members.length\/3 < s.Losses.length) by omega)]
 by_cases c3:s.Members.length=0
 ·rw[if_pos (by omega),if_neg fun h:zxO s=>by have:=h.pos; omega]
 rw[if_neg (show ¬ (s.Members.length:Int)=0 by omega)]
 refine zx0.pick (fun c4=>?_) fun c4=>by rw[if_neg (by decide),if_neg fun h=>c4 h.tr]
 rw[if_pos rfl]
 refine zxZ.pick (fun c5=>?_) fun c5=>by rw[if_neg (by decide),if_neg fun h=>c5 h.rs]
 rw[if_pos rfl]
 have kL:=zrS (l:=s.Losses) (F:=fun d x=>prFault_L1 s d x) (ok:=RgV) (bad:=some 1) (fin:=some 0) (fun d k a hk=>by
  have hkl:=(List.getElem?_eq_some_iff.1 hk).1
  show(RgV a->prFault_L1 s (d+1) (k:Int)=_)/\_
  rw[prFault_L1,if_pos (by omega),zrJ hk,obs]
  exact Ev.step zx0 (by rw[if_pos rfl,zqs (fI (by omega))]) (by rw[if_neg (by decide)])) (fun d=>by show prFault_L1 s (d+1) _=_; rw[prFault_L1,if_neg (Int.lt_irrefl _)]) (d:=1000000) (by omega)
 have kM:=zrS (l:=s.Members) (F:=fun d x=>zsj s d 0 x) (ok:=zxi) (bad:=some 1) (fin:=prFault_L1 s 1000000 0) (fun d k a hk=>by
  have hkl:=(List.getElem?_eq_some_iff.1 hk).1
  show(zxi a->zsj s (d+1) 0 (k:Int)=_)/\_
  rw[zsj,if_pos (by omega),zrJ hk,obs];refine⟨fun h=>?_,fun h=>?_⟩
  ·rw[zxZ.some_of h.sum,obs,if_pos rfl,zxZ.some_of h.cls,obs,if_pos rfl,zxZ.some_of h.most,obs,if_pos rfl,zqs (fI (by omega))]
  ·refine zxZ.pick (fun q1=>?_) fun q1=>by rw[if_neg (by decide)]
   rw[if_pos rfl]
   refine zxZ.pick (fun q2=>?_) fun q2=>by rw[if_neg (by decide)]
   rw[if_pos rfl]
   refine zxZ.pick (fun q3=>absurd ⟨q1,q2,q3⟩ h) fun q3=>by rw[if_neg (by decide)]) (fun d=>by show zsj s (d+1) 0 _=_; rw[zsj,if_neg (Int.lt_irrefl _)]) (d:=1000000) (by omega)
 by_cases c6:∀a∈s.Members,zxi a
 ·refine(kM.1 c6).trans ?_
  by_cases c7:∀r∈s.Losses,RgV r
  ·refine(kL.1 c7).trans ?_;rw[if_pos ⟨by omega,c6,c7,c4,c5⟩]
  ·refine(kL.2 c7).trans ?_;rw[if_neg fun h=>c7 h.ls]
 ·refine(kM.2 c6).trans ?_;rw[if_neg fun h=>c6 h.ms]
theorem zx2{s:Soc}(h1:s.Members.length<=8)(h2:s.Losses.length<=6):zt5 s=some (zxQ s):=by unfold zt5; rw[zx1 h1 h2]; rfl
def zx3(n:Nat)(out:List Int):Nat->Bool:=fun i=>decide (i < n) && !decide ((i:Int)∈out)
def zx4(s:Soc)(out:List Int):Wk:={ s:=s,asked:=mkF (zx3 s.Members.length out) }
theorem zx5(ms:List Mb)(out:List Int):zxn ms (zx3 ms.length out):=fun i h=>by
 unfold zx3 at h
 simp at h; exact h.1
theorem zx6{l:List Int}{v:Int}(hl:zrT l):∀d (k:Nat),k<=l.length->l.length - k < d->∃r,zs3 l v d (k:Int)=some r/\(0<=r↔v∈l.drop k)
 | 0,k,_,h=>by omega
 | d+1,k,hk,h=>by
  unfold zrT at hl;unfold zs3
  by_cases hkn:k=l.length
  ·subst hkn; rw[if_neg (Int.lt_irrefl _)]; exact⟨_,rfl,by simp⟩
  ·have hlt:k < l.length:=by omega
   rw[if_pos (by omega),zrJ (List.getElem?_eq_getElem hlt),obs];have hd:=List.drop_eq_getElem_cons hlt
   by_cases hv:v=l[k]
   ·rw[if_pos hv]; exact⟨_,rfl,⟨fun _=>by rw[hd,<- hv]; exact List.mem_cons_self ..,fun _=>by omega⟩⟩
   ·rw[if_neg hv,zqs (fI (by omega)),show(k:Int)+1=((k+1:Nat):Int) by omega];obtain⟨r,h1,h2⟩:=zx6 hl d (k+1) (by omega) (by omega);exact⟨r,h1,h2.trans ⟨fun h=>by rw[hd]; exact List.mem_cons_of_mem _ h,fun h=>by rw[hd] at h; exact(List.mem_cons.1 h).resolve_left hv⟩⟩
theorem zx7{l:List Int}{v:Int}(hl:zrT l):zs5 l v=some (decide (v∈l)):=by
 unfold zs5 zs4;obtain⟨r,h1,h2⟩:=zx6 (v:=v) hl (l.length+1) 0 (Nat.zero_le _) (by omega);have h1:zs3 l v (l.length+1) 0=some r:=h1;rw[h1,obs];exact congrArg some (decide_eq_decide.2 (h2.trans (by rw[List.drop_zero])))
theorem zx8{s:Soc}{out:List Int}(hl:zrT out)(h5:s.Members.length<=5):zs7 s out=some (zx4 s out):=by
 unfold zs7;have key:=zwk (n:=s.Members.length) (fun d st x=>zs6 s out d s.Treaty.Lo s.Treaty.Hi s.Reserve (st 0) (st 1) (st 2) (st 3) (st 4) x) (stF (zx3 s.Members.length out) fun _=>false) (fin:=some (zx4 s out)) (fun d k hk=>?_) (fun d=>?_) (s.Members.length+1) 0 (by omega) (by omega)
 ·rw[zwo] at key; exact key
 ·show zs6 s out (d+1) _ _ _ _ _ _ _ _ _=_
  rw[zs6,if_pos (by omega),zx7 hl,obs,zqs (by omega),zqs (fI (by omega))];have e:=zwq (zx3 s.Members.length out) (fun _=>false) k
  have e0:(!decide ((k:Int)∈out))=zx3 s.Members.length out k:=by unfold zx3; rw[decide_eq_true hk,Bool.true_and]
  rw[e0,e 0,e 1,e 2,e 3,e 4]
 ·show zs6 s out (d+1) _ _ _ _ _ _ _ _ _=_
  rw[zs6,if_neg (by omega)]
  have e1:∀j,stF (zx3 s.Members.length out) (fun _=>false) s.Members.length j=zx3 s.Members.length out j:=fun j=>by
   unfold stF
   by_cases h:j < s.Members.length
   ·rw[if_pos h]
   ·rw[if_neg h]; unfold zx3; rw[decide_eq_false h]; rfl
  rw[e1 0,e1 1,e1 2,e1 3,e1 4]; rfl
def zx9(n:Nat)(l:List Int):Prop:=l.Pairwise (· < ·)/\∀v∈l,0<=v/\v<=(n:Int) - 1
theorem zya{l:List Int}:(∀j,0 < j->j < l.length->∀a b,l[j - 1]? = some a->l[j]? = some b->a < b)↔l.Pairwise (· < ·):=by
 constructor
 ·intro h;rw[List.pairwise_iff_getElem];intro i j hi hj hij
  have key:∀d,(hd:i+d+1 < l.length)->l[i] < l[i+d+1]:=fun d=>by
   induction d with
   | zero=>intro hd; exact h (i+1) (by omega) hd _ _ (List.getElem?_eq_getElem hi) (List.getElem?_eq_getElem hd)
   | succ d ih=>
    intro hd;have h1:=ih (by omega);have h2:=h (i+(d+1)+1) (by omega) hd _ _ (List.getElem?_eq_getElem (show i+d+1 < l.length by omega)) (List.getElem?_eq_getElem hd);exact Int.lt_trans h1 h2
  have:=key (j - i - 1) (by omega)
  simpa [show i+(j - i - 1)+1=j by omega] using this
 ·intro h j h0 hj a b ha hb;obtain⟨h1,rfl⟩:=List.getElem?_eq_some_iff.1 ha;obtain⟨h2,rfl⟩:=List.getElem?_eq_some_iff.1 hb;exact List.pairwise_iff_getElem.1 h (j - 1) j h1 h2 (by omega)
theorem zyb{l:List Int}(hl:zrT l):Ev (zsX l) (l.Pairwise (· < ·)):=by
 unfold zrT at hl;unfold zsX
 by_cases h0:l.length=0
 ·have:l=[]:=List.eq_nil_of_length_eq_zero h0;subst this
  show Ev (zsW [] 1 1) _
  rw[zsW,if_neg (by decide)];exact Ev.tt .nil
 ·have e:∃n,l.length=n+1:=⟨l.length - 1,by omega⟩;obtain⟨n,hn⟩:=e
  have key:=zrN (n:=n) (F:=fun d x=>zsW l d (x+1)) (ok:=fun j=>∀a b,l[j]? = some a->l[j+1]? = some b->a < b) (bad:=some false) (fin:=some true) (fun d k hk=>by
   show(_->zsW l (d+1) ((k:Int)+1)=_)/\_
   have ha:=List.getElem?_eq_getElem (show k < l.length by omega);have hb:=List.getElem?_eq_getElem (show k+1 < l.length by omega);rw[zsW,if_pos (by omega),zrK (show(k:Int)+1=((k+1:Nat):Int) by omega) (show k+1 < l.length by omega),obs,zqs (fI (by omega)),zrK (show(k:Int)+1 - 1=(k:Int) by omega) (show k < l.length by omega),obs];refine⟨fun h=>?_,fun h=>?_⟩
   ·have:=h _ _ ha hb;rw[if_neg (by omega),zqs (fI (by omega))]
   ·rw[if_pos]
    apply Classical.byContradiction
    intro h2
    exact h fun a b h3 h4=>by rw[ha] at h3; rw[hb] at h4; cases h3; cases h4; omega) (fun d=>by show zsW l (d+1) _=_; rw[zsW,if_neg (by omega)]) (d:=((l.length:Int) - 1).toNat+1) (by omega)
  have e0:zsW l (((l.length:Int) - 1).toNat+1) (0+1)=zsW l (((l.length:Int) - 1).toNat+1) 1:=rfl
  have hiff:(∀j,j < n->∀a b,l[j]? = some a->l[j+1]? = some b->a < b)↔l.Pairwise (· < ·):=by
   rw[<- zya]
   constructor
   ·intro h j h0 hj a b h1 h2;have:=h (j - 1) (by omega) a b h1;rw[show j - 1+1=j by omega] at this;exact this h2
   ·intro h j hj a b h1 h2;exact h (j+1) (by omega) (by omega) a b (by rw[Nat.add_sub_cancel]; exact h1) h2
  by_cases hq:∀j,j < n->∀a b,l[j]? = some a->l[j+1]? = some b->a < b
  ·have:=key.1 hq;exact⟨true,this,⟨fun _=>hiff.1 hq,fun _=>rfl⟩⟩
  ·have:=key.2 hq;exact⟨false,this,⟨fun h=>(by cases h),fun h=>absurd (hiff.2 h) hq⟩⟩
theorem zyc{s:Soc}{l:List Int}(hl:zrT l)(hm:zrT s.Members):Ev (zs2 s l) (zx9 s.Members.length l):=by
 unfold zrT at hm;refine((zyb hl).and fun _=>(Ev.each (q:=fun v=>0<=v/\v<=(s.Members.length:Int) - 1) (fun v _=>?_) hl.lt gI).ret).imp Iff.rfl;exact Ev.gd (fI (by omega)) zxS.ret
theorem zyd{s:Soc}{out:List Int}(hs:zxP s)(hl:zrT out)(ho:zx9 s.Members.length out):zs8 s out=some (zx4 s out,0):=by
 have h1:=hs.m5; have h2:=hs.l3;unfold zs8;rw[zxY (by unfold zrT; omega) (by unfold zrT; omega),obs,if_pos (zxR.2 hs),(zyc hl (by unfold zrT; omega)).some_of ho,obs,if_pos rfl,zx8 hl h1,obs]
theorem zye(n:Nat):zx9 n []:=⟨.nil,fun _ h=>by cases h⟩
def zyf(lo hi:Int):List Int:=(List.range (hi - lo+1).toNat).map fun(k:Nat)=>lo+(k:Int)
theorem zyg{lo hi x:Int}:x∈zyf lo hi↔lo<=x/\x<=hi:=by
 unfold zyf;rw[List.mem_map]
 constructor
 ·rintro⟨k,h1,rfl⟩
  have:=List.mem_range.1 h1
  omega
 ·intro h; exact⟨(x - lo).toNat,List.mem_range.2 (by omega),by omega⟩
def zyh(g:Rg->Int)(l:List Rg):Int:=zwB (l.map g)
theorem zyi{l:List Rg}(h:∀r∈l,RgV r):0<=zyh (·.Lo) l/\zyh (·.Lo) l<=zyh (·.Hi) l/\zyh (·.Hi) l<=100000 * l.length/\zyh (·.Hi) l<=zyh (·.Lo) l+30 * l.length:=by
 induction l with
 | nil=>exact⟨Int.le_refl _,Int.le_refl _,Int.le_refl _,Int.le_refl _⟩
 | cons r l ih=>
  have ih:=ih fun r hr=>h r (List.mem_cons_of_mem _ hr);have hr:=h r (List.mem_cons_self ..);unfold RgV at hr;have e1:zyh (·.Lo) (r::l)=r.Lo+zyh (·.Lo) l:=rfl;have e2:zyh (·.Hi) (r::l)=r.Hi+zyh (·.Hi) l:=rfl;rw[e1,e2,List.length_cons]
  omega
def loN(s:Soc):Int:=max 0 (zyh (·.Lo) s.Losses - s.Reserve - s.Treaty.Hi)
def hiN(s:Soc):Int:=max 0 (zyh (·.Hi) s.Losses - s.Reserve - s.Treaty.Lo)
theorem zyj{s:Soc}(hs:zxP s):0<=loN s/\loN s<=hiN s/\hiN s<=300000/\hiN s<=loN s+120:=by
 have h:=zyi hs.full.ls;have h1:=hs.l3;have h2:=hs.full.tr;have h3:=hs.full.rs;unfold RgV at h2;unfold loN hiN
 omega
theorem zyk{g:Rg->Int}{l:List Rg}{k:Nat}{a:Rg}(h:l[k]? = some a):zyh g (l.take (k+1))=zyh g (l.take k)+g a:=by
 unfold zyh;rw[List.take_add_one,h,List.map_append,zwC]
 show _+(g a+0)=_; omega
theorem zyl{s:Soc}{a b:Int}(h:0<=a/\a<=1000000)(hb:0<=b/\b<=1000000)(hr:0<=s.Reserve/\s.Reserve<=100000):zs9 s a b=some (max 0 (a - s.Reserve - b)):=by
 unfold zs9;rw[zqs (fI (by omega)),zqs (fI (by omega))]
theorem zym{hi:Int}(hh:hi<=1000000):∀(d:Nat) (x:Int),0<=x->(hi - x+1).toNat < d->zta hi d x=some (zyf x hi)
 | 0,_,_,h=>by omega
 | d+1,x,hx,h=>by
  rw[zta]
  by_cases hc:x<=hi
  ·rw[if_pos hc,zqs (fI (by omega)),zym hh d (x+1) (by omega) (by omega),obs]
   have e:(hi - x+1).toNat=(hi - (x+1)+1).toNat+1:=by omega
   have e2:zyf x hi=x::zyf (x+1) hi:=by
    unfold zyf;rw[e,List.range_succ_eq_map,List.map_cons,List.map_map];refine congr (congrArg List.cons (by show x+((0:Nat):Int)=x; omega)) (List.map_congr_left fun k _=>?_)
    show x+((k+1:Nat):Int)=x+1+(k:Int)
    omega
   rw[e2]
  ·rw[if_neg hc]
   have e:(hi - x+1).toNat=0:=by omega
   unfold zyf; rw[e]; rfl
theorem zyn{s:Soc}(hs:zxP s):ztd s=some (zyf (loN s) (hiN s)):=by
 have hb:=zyi hs.full.ls;have hn:=zyj hs;have h3:=hs.l3;have htr:=hs.full.tr;unfold RgV at htr;have hrs:=hs.full.rs
 have e:ztc s=some (zyf (loN s) (hiN s)):=by
  unfold ztc;refine zwk (n:=s.Losses.length) (fun d (st:Int × Int) x=>ztb s d st.1 st.2 x) (fun k=>(zyh (·.Lo) (s.Losses.take k),zyh (·.Hi) (s.Losses.take k))) (fun d k hk=>?_) (fun d=>?_) (s.Losses.length+1) 0 (by omega) (by omega)
  ·have hg:=List.getElem?_eq_getElem hk;have h1:=zyi (l:=s.Losses.take k) fun r hr=>hs.full.ls r (List.mem_of_mem_take hr);have h2:=hs.full.ls _ (List.getElem_mem hk)
   have h4:(s.Losses.take k).length<=3:=by rw[List.length_take]; omega
   unfold RgV at h2
   show ztb s (d+1) (zyh _ _) (zyh _ _) (k:Int)=ztb s d (zyh _ _) (zyh _ _) _
   rw[ztb,if_pos (by omega),zrJ hg,obs,zqs (fI (by omega)),zqs (fI (by omega)),zqs (fI (by omega)),zyk hg,zyk hg]
  ·show ztb s (d+1) (zyh _ _) (zyh _ _) _=_
   rw[ztb,if_neg (Int.lt_irrefl _),List.take_length,zyl (by omega) (by omega) hrs,obs,zyl (by omega) (by omega) hrs,obs];exact zym (by unfold hiN at hn; omega) _ _ (by omega) (by omega)
 unfold ztd;rw[e]; rfl
end
end Go.Proofs.Ytkclhciahokifaa

namespace Go.Proofs.Ytkclhciahokifaa
open _root_.Go.Proofs.Try
open Go.Abs
set_option maxRecDepth 100000
noncomputable section
def Inc(n fr:Nat)(T:List Int):Prop:=T.Pairwise (· < ·)/\∀v∈T,(fr:Int)<=v/\v < n
theorem Inc.cons{n fr:Nat}{x:Int}{T:List Int}:Inc n fr (x::T)↔((fr:Int)<=x/\x < n)/\Inc n (x+1).toNat T:=by
 unfold Inc;rw[List.pairwise_cons]
 constructor
 ·rintro⟨⟨h1,h2⟩,h3⟩
  have hx:=h3 x (List.mem_cons_self ..);exact⟨hx,h2,fun v hv=>by have:=h1 v hv; have:=h3 v (List.mem_cons_of_mem _ hv); omega⟩
 ·rintro⟨hx,h2,h3⟩
  refine⟨⟨fun v hv=>by have:=h3 v hv; omega,h2⟩,fun v hv=>?_⟩
  rcases List.mem_cons.1 hv with rfl | hv
  ·exact hx
  ·have:=h3 v hv; omega
theorem zyo{n:Nat}{D:List Int}:∀{d:Nat} {pre:List Int} {fr:Nat},D∈zrx n d pre fr↔∃T,D=pre++T/\T.length=d/\Inc n fr T
 | 0,pre,fr=>by
  show D∈[pre]↔_
  rw[List.mem_singleton]
  constructor
  ·rintro rfl; exact⟨[],by simp,rfl,.nil,fun v hv=>by cases hv⟩
  ·rintro⟨T,h1,h2,_⟩
   rw[List.eq_nil_of_length_eq_zero h2,List.append_nil] at h1; exact h1
 | d+1,pre,fr=>by
  show D∈zrw (fun x=>zrx n d (pre++[(x:Int)]) (x+1)) (n - fr) fr↔_
  rw[zuE]
  constructor
  ·rintro⟨x,h1,h2,h3⟩
   obtain⟨T,h4,h5,h6⟩:=zyo.1 h3;refine⟨(x:Int)::T,by rw[h4]; simp,by simp[h5],Inc.cons.2 ⟨by omega,?_⟩⟩;rw[show((x:Int)+1).toNat=x+1 by omega]; exact h6
  ·rintro⟨T,h1,h2,h3⟩
   cases T with
   | nil=>simp at h2
   | cons v T=>
    obtain⟨h4,h5⟩:=Inc.cons.1 h3;refine⟨v.toNat,by omega,by omega,zyo.2 ⟨T,?_,by simpa using h2,?_⟩⟩
    ·rw[show((v.toNat:Nat):Int)=v by omega,h1]; simp
    ·rw[show v.toNat+1=(v+1).toNat by omega]; exact h5
theorem zyp{n:Nat}:∀{T:List Int} {fr:Nat},Inc n fr T->T.length<=n - fr
 | [],_,_=>Nat.zero_le _
 | v::T,fr,h=>by
  obtain⟨h1,h2⟩:=Inc.cons.1 h;have:=zyp h2
  simp only[List.length_cons]
  omega
theorem zyq{n:Nat}{D:List Int}:D∈zoi n↔Inc n 0 D:=by
 unfold zoi;rw[zuE]
 constructor
 ·rintro⟨s,_,_,h⟩
  obtain⟨T,h1,_,h2⟩:=zyo.1 h;rw[h1]; exact h2
 ·intro h;have:=zyp h;exact⟨D.length,Nat.zero_le _,by omega,zyo.2 ⟨D,rfl,rfl,h⟩⟩
def bef:List Int->List Int->Bool
 | [],[]=>false
 | [],_::_=>true
 | _::_,[]=>false
 | x::a,y::b=>if x=y then bef a b else decide (x < y)
def shB(a b:List Int):Bool:=decide (a.length < b.length) || (decide (a.length=b.length) && bef a b)
theorem zyr:∀A:List Int,bef A A=false
 | []=>rfl
 | x::A=>by show(if x=x then bef A A else _)=_; rw[if_pos rfl,zyr A]
theorem zys:∀A B:List Int,A=B\/bef A B=true\/bef B A=true
 | [],[]=>.inl rfl
 | [],_::_=>.inr (.inl rfl)
 | _::_,[]=>.inr (.inr rfl)
 | x::A,y::B=>by
  show x::A=y::B\/(if x=y then bef A B else decide (x < y))=true\/(if y=x then bef B A else decide (y < x))=true
  by_cases hxy:x=y
  ·subst hxy;rw[if_pos rfl,if_pos rfl]
   rcases zys A B with h | h | h
   ·exact .inl (by rw[h])
   ·exact .inr (.inl h)
   ·exact .inr (.inr h)
  ·rw[if_neg hxy,if_neg fun h=>hxy h.symm]
   by_cases h:x < y
   ·exact .inr (.inl (decide_eq_true h))
   ·exact .inr (.inr (decide_eq_true (by omega)))
theorem zyt{l:List Int}(h:l ≠ [])(hl:l.length<=1048577):ztF l=some (zrV l):=by
 unfold ztF
 cases l with
 | nil=>exact absurd rfl h
 | cons x l=>
  rw[if_neg (by rw[List.length_cons]; omega),zrL rfl,obs];refine(zrU (l:=x::l) (fun s a=>min s a) (fun d s k=>ztE (x::l) d s k) (fun s=>some s) (fun d k s a hk=>?_) (fun d s=>?_) _ 0 x (Nat.zero_le _) (by omega)).trans ?_
  ·have hkl:=(List.getElem?_eq_some_iff.1 hk).1
   show ztE (x::l) (d+1) s (k:Int)=_
   rw[ztE,if_pos (by omega),zrJ hk,obs]
   by_cases hc:a < s
   ·rw[if_pos hc,zqs (fI (by omega)),Int.min_eq_right (by omega)]
   ·rw[if_neg hc,zqs (fI (by omega)),Int.min_eq_left (by omega)]
  ·show ztE (x::l) (d+1) s _=_
   rw[ztE,if_neg (Int.lt_irrefl _)]
  ·rw[List.drop_zero]
   show some (l.foldl min (min x x))=_
   rw[Int.min_self]; rfl
theorem zyu{l:List Int}(h:l ≠ [])(hl:l.length<=1048577):ztH l=some (zrW l):=by
 unfold ztH
 cases l with
 | nil=>exact absurd rfl h
 | cons x l=>
  rw[if_neg (by rw[List.length_cons]; omega),zrL rfl,obs];refine(zrU (l:=x::l) (fun s a=>max s a) (fun d s k=>ztG (x::l) d s k) (fun s=>some s) (fun d k s a hk=>?_) (fun d s=>?_) _ 1 x (by rw[List.length_cons]; omega) (by rw[List.length_cons]; omega)).trans ?_
  ·have hkl:=(List.getElem?_eq_some_iff.1 hk).1
   show ztG (x::l) (d+1) s (k:Int)=_
   rw[ztG,if_pos (by omega),zrJ hk,obs,zqs (fI (by omega))]
  ·show ztG (x::l) (d+1) s _=_
   rw[ztG,if_neg (Int.lt_irrefl _)]
  ·rfl
theorem zyv{l:List Int}(h:l ≠ []):zrV l∈l/\∀y∈l,zrV l<=y:=by
 cases l with
 | nil=>exact absurd rfl h
 | cons x l=>
  obtain⟨h1,h2,h3⟩:=zrX l x;refine⟨?_,fun y hy=>?_⟩
  ·rcases h1 with h1 | h1
   ·show l.foldl min x∈_; rw[h1]; exact List.mem_cons_self ..
   ·exact List.mem_cons_of_mem _ h1
  ·rcases List.mem_cons.1 hy with rfl | hy
   ·exact h2
   ·exact h3 y hy
theorem zyw{l:List Int}(h:l ≠ []):zrW l∈l/\∀y∈l,y<=zrW l:=by
 cases l with
 | nil=>exact absurd rfl h
 | cons x l=>
  obtain⟨h1,h2,h3⟩:=zrY l x;refine⟨?_,fun y hy=>?_⟩
  ·rcases h1 with h1 | h1
   ·show l.foldl max x∈_; rw[h1]; exact List.mem_cons_self ..
   ·exact List.mem_cons_of_mem _ h1
  ·rcases List.mem_cons.1 hy with rfl | hy
   ·exact h2
   ·exact h3 y hy
def bnd(s:Soc)(g:Int->Int):Rg:={ Lo:=zrV ((zyf (loN s) (hiN s)).map g),Hi:=zrW ((zyf (loN s) (hiN s)).map g) }
def zyx(s:Soc)(out:List Int)(N:Int):Oc:={ need:=N,calls:=mk5 (zxC s.Members (zx3 s.Members.length out) N).1 }
theorem zyy{s:Soc}(hs:zxP s):(zyf (loN s) (hiN s)).length<=121:=by
 have:=zyj hs;unfold zyf; rw[List.length_map,List.length_range]; omega
theorem zyz{s:Soc}(hs:zxP s):zyf (loN s) (hiN s) ≠ []:=fun h=>by
 have:=zyj hs;have:loN s∈zyf (loN s) (hiN s):=zyg.2 (by omega)
 rw[h] at this; cases this
theorem zyA{s:Soc}(hs:zxP s)(g:Int->Int):(∃N,(loN s<=N/\N<=hiN s)/\g N=(bnd s g).Lo)/\(∃N,(loN s<=N/\N<=hiN s)/\g N=(bnd s g).Hi)/\∀N,loN s<=N/\N<=hiN s->(bnd s g).Lo<=g N/\g N<=(bnd s g).Hi:=by
 have hne:(zyf (loN s) (hiN s)).map g ≠ []:=fun h=>zyz hs (List.map_eq_nil_iff.1 h);obtain⟨a1,a2⟩:=zyv hne;obtain⟨b1,b2⟩:=zyw hne;obtain⟨x,hx,ex⟩:=List.mem_map.1 a1;obtain⟨y,hy,ey⟩:=List.mem_map.1 b1;exact⟨⟨x,zyg.1 hx,ex⟩,⟨y,zyg.1 hy,ey⟩,fun N hN=>⟨a2 _ (List.mem_map.2 ⟨N,zyg.2 hN,rfl⟩),b2 _ (List.mem_map.2 ⟨N,zyg.2 hN,rfl⟩)⟩⟩
theorem zyB{s:Soc}(hs:zxP s):bnd s (fun N=>N)={ Lo:=loN s,Hi:=hiN s }:=by
 obtain⟨⟨x,hx,ex⟩,⟨y,hy,ey⟩,h⟩:=zyA hs fun N=>N;have hb:=zyj hs;have h1:=(h (loN s) ⟨Int.le_refl _,hb.2.1⟩).1;have h2:=(h (hiN s) ⟨hb.2.1,Int.le_refl _⟩).2
 have e1:(bnd s fun N=>N).Lo=loN s:=by omega
 have e2:(bnd s fun N=>N).Hi=hiN s:=by omega
 revert e1 e2
 generalize bnd s (fun N=>N)=r;intro e1 e2
 cases r
 exact congr (congrArg Rg.mk e1) e2
theorem zyC{s:Soc}(hs:zxP s)(out:List Int){N:Int}(hN:0<=N/\N<=1000000):ztB (zx4 s out) N=some (zyx s out N):=zxE (w:=zx4 s out) hs.msOk rfl (zx5 s.Members out) hN
theorem zyD{s:Soc}(hs:zxP s){out:List Int}{q:Qu}{g:Int->Int}(hg:∀N,loN s<=N->N<=hiN s->q.ask (zyx s out N)=some (g N)) :
  ∀(L:List Int) (acc:List Int),(∀N∈L,loN s<=N/\N<=hiN s)->acc.length+L.length<=1000->acc++L.map g ≠ []->ztI (zx4 s out) q L acc=some { Lo:=zrV (acc++L.map g),Hi:=zrW (acc++L.map g) }
 | [],acc,_,hl,hne=>by
  rw[List.map_nil,List.append_nil] at hne ⊢;rw[ztI,zyt hne (by omega),obs,zyu hne (by omega),obs]
 | N::L,acc,hN,hl,hne=>by
  have h1:=hN N (List.mem_cons_self ..);have hb:=zyj hs;rw[List.length_cons] at hl;rw[ztI,zyC hs out (by omega),obs,hg N h1.1 h1.2,obs,zqs (by omega),zyD hs hg L (acc++[g N]) (fun x hx=>hN x (List.mem_cons_of_mem _ hx)) (by rw[List.length_append]; show acc.length+1+_<=_; omega) (by simp)];rw[List.map_cons,List.append_assoc]; rfl
theorem zyE{s:Soc}(hs:zxP s){out:List Int}{q:Qu}{g:Int->Int}(hg:∀N,loN s<=N->N<=hiN s->q.ask (zyx s out N)=some (g N)):ztJ (zx4 s out) q=some (bnd s g):=by
 unfold ztJ;rw[show(zx4 s out).s=s from rfl,zyn hs,obs];have hl:=zyy hs;exact zyD hs hg _ [] (fun N hN=>zyg.1 hN) (by show 0+_<=_; omega) (fun h=>zyz hs (List.map_eq_nil_iff.1 h))
theorem zyF{s:Soc}(hs:zxP s):ztR s=some ({ Lo:=loN s,Hi:=hiN s },0):=by
 unfold ztR;rw[zyd hs (Nat.zero_le _) (zye _),obs,if_pos rfl,zyE hs (g:=fun N=>N) (fun N _ _=>rfl),obs,zyB hs]
theorem zyG{s:Soc}(hs:zxP s)(out:List Int){N:Int}(hN:0<=N/\N<=1000000):ztq (zyx s out N)=some (zxC s.Members (zx3 s.Members.length out) N).2:=by
 have hsup:=zx5 s.Members out;have h1:=zxI hs.msOk hsup hN
 have hb:Bd 1000000000000 (zxC s.Members (zx3 s.Members.length out) N).1:=fun i hi=>by have:=zxL hs.msOk hsup hN hi; omega
 have hb5:=fun i hi=>zxL hs.msOk hsup hN (i:=i) hi;have b0:=hb5 0 (by omega); have b1:=hb5 1 (by omega); have b2:=hb5 2 (by omega); have b3:=hb5 3 (by omega); have b4:=hb5 4 (by omega)
 have hS:0<=S5 (zxC s.Members (zx3 s.Members.length out) N).1/\S5 (zxC s.Members (zx3 s.Members.length out) N).1<=500000:=by unfold S5; omega
 unfold ztq
 show(ztf (mk5 (zxC s.Members (zx3 s.Members.length out) N).1)).bind _=_
 rw[zwt hb,obs,zqs (fI (by show -9223372036854775808<=N - S5 _/\N - S5 _ < _; omega))];exact congrArg some (show N - S5 (zxC s.Members (zx3 s.Members.length out) N).1=_ by omega)
def zyH(s:Soc)(out:List Int)(N:Int):List Int:=(l5 (zxC s.Members (zx3 s.Members.length out) N).1).take s.Members.length
theorem zyI{s:Soc}(out:List Int)(N:Int)(h5:s.Members.length<=5):(zyH s out N).length=s.Members.length:=by
 unfold zyH; rw[List.length_take]; show min _ 5=_; omega
theorem zyJ{s:Soc}(out:List Int)(N:Int)(h5:s.Members.length<=5){k:Nat}(hk:k < s.Members.length):(zyH s out N)[k]? = some ((zxC s.Members (zx3 s.Members.length out) N).1 k):=by
 unfold zyH; rw[List.getElem?_take,if_pos hk]; exact zwl (by omega)
theorem zyK{s:Soc}(hs:zxP s){N:Int}(hN:0<=N/\N<=300000):ztT s N=some (zyH s [] N,(zxC s.Members (zx3 s.Members.length []) N).2,0):=by
 have h5:=hs.m5;unfold ztT;rw[zyd hs (Nat.zero_le _) (zye _),obs,if_pos rfl,zxS.some_of hN,obs,if_pos rfl]
 show(ztB (zx4 s []) N).bind _=_
 rw[zyC hs [] (by omega),obs,zqs (by omega)]
 have e:ztS ((([(zyx s [] N).calls.p0,(zyx s [] N).calls.p1,(zyx s [] N).calls.p2,(zyx s [] N).calls.p3,(zyx s [] N).calls.p4]:List Int).take (Int.toNat (s.Members.length:Int))).drop (Int.toNat (0:Int)))=some (zyH s [] N):=by
  have hl:=zyI [] N h5
  show ztS (zyH s [] N)=_
  unfold ztS;rw[zqs (by rw[hl]; show 0+_<=_; omega)]; rfl
 rw[e,obs,zyG hs [] (by omega),obs]
theorem zyL{s:Soc}(hs:zxP s)(out:List Int)(N:Int){k:Nat}(hk:k < s.Members.length):ztC (zyx s out N) (k:Int)=some ((zxC s.Members (zx3 s.Members.length out) N).1 k):=by
 have h5:=hs.m5;unfold ztC
 show(idx (l5 (zxC s.Members (zx3 s.Members.length out) N).1) (k:Int)).bind _=_
 rw[zwm (by omega),obs]
def zyM(s:Soc)(out:List Int):List Rg:=(List.range s.Members.length).map fun k=>bnd s fun N=>(zxC s.Members (zx3 s.Members.length out) N).1 k
theorem zyN{s:Soc}(out:List Int):(zyM s out).length=s.Members.length:=by unfold zyM; rw[List.length_map,List.length_range]
theorem zyO{s:Soc}(out:List Int){k:Nat}(hk:k < s.Members.length):(zyM s out)[k]? = some (bnd s fun N=>(zxC s.Members (zx3 s.Members.length out) N).1 k):=by
 unfold zyM; rw[List.getElem?_map,List.getElem?_range hk]; rfl
theorem zyP{s:Soc}(hs:zxP s){out:List Int}(hl:zrT out)(ho:zx9 s.Members.length out):ztV s out=some (zyM s out,0):=by
 have h5:=hs.m5;unfold ztV;rw[zyd hs hl ho,obs,if_pos rfl];refine zwk (n:=s.Members.length) (fun d acc x=>ztU s (zx4 s out,0) d acc x) (fun k=>(zyM s out).take k) (fun d k hk=>?_) (fun d=>?_) (s.Members.length+1) 0 (by omega) (by omega)
 ·show ztU s (zx4 s out,0) (d+1) _ _=_
  have hb:ztD (k:Int)=some (fun o=>ztC o (k:Int)):=rfl;rw[ztU,if_pos (by omega),hb,obs]
  show(ztJ (zx4 s out) _).bind _=_
  rw[zyE hs (g:=fun N=>(zxC s.Members (zx3 s.Members.length out) N).1 k) (fun N _ _=>zyL hs out N hk),obs,zqs (by rw[List.length_take]; omega),zqs (fI (by omega))];rw[List.take_add_one,zyO out hk]; rfl
 ·show ztU s (zx4 s out,0) (d+1) _ _=_
  rw[ztU,if_neg (Int.lt_irrefl _),List.take_of_length_le (by rw[zyN]; exact Nat.le_refl _)]
theorem zyQ{s:Soc}(hs:zxP s):ztW s=some (zyM s [],0):=by
 unfold ztW;rw[zyP hs (Nat.zero_le _) (zye _),obs]
def zyR(s:Soc)(out:List Int)(N:Int):Int:=(zxC s.Members (zx3 s.Members.length out) N).2
theorem zyS{s:Soc}(hs:zxP s):ztX s=some (bnd s (zyR s []),0):=by
 have hb:=zyj hs;unfold ztX;rw[zyd hs (Nat.zero_le _) (zye _),obs,if_pos rfl,zyE hs (g:=zyR s []) (fun N h1 h2=>zyG hs [] (by omega)),obs]
theorem zyT{s:Soc}(hs:zxP s)(out:List Int):ztK (zx4 s out)=some (hiN s):=by
 unfold ztK;rw[zyE hs (g:=fun N=>N) (fun N _ _=>rfl),obs,zyB hs]
theorem zyU(a:Mb){r t:Int}(hu:0<=unN a)(h:r<=t):min (unN a * r / 100) a.Most<=min (unN a * t / 100) a.Most:=by
 have h1:unN a * r<=unN a * t:=Int.mul_le_mul_of_nonneg_left h hu;have h2:=Int.ediv_le_ediv (c:=100) (by omega) h1
 omega
def brN(ms:List Mb)(rate:Int):Int:=zwB (ms.map fun a=>min (unN a * rate / 100) a.Most)
theorem zyV{ms:List Mb}(hm:∀a∈ms,zxi a){r:Int}(hr:0<=r/\r<=10000):0<=brN ms r/\brN ms r<=100000 * ms.length:=by
 induction ms with
 | nil=>exact⟨Int.le_refl _,Int.le_refl _⟩
 | cons a ms ih=>
  have ih:=ih fun a ha=>hm a (List.mem_cons_of_mem _ ha);have ha:=hm a (List.mem_cons_self ..);have hu:=zxk ha;have hmo:=ha.most;have h1:0<=unN a * r / 100:=Int.ediv_nonneg (Int.mul_nonneg (by omega) hr.1) (by omega);have e:brN (a::ms) r=min (unN a * r / 100) a.Most+brN ms r:=rfl;rw[e,List.length_cons]; omega
theorem zyW{ms:List Mb}(hm:∀a∈ms,zxi a){r t:Int}(h:r<=t):brN ms r<=brN ms t:=by
 induction ms with
 | nil=>exact Int.le_refl _
 | cons a ms ih=>
  have ih:=ih fun a ha=>hm a (List.mem_cons_of_mem _ ha);have h2:=zyU a (by have:=zxk (hm a (List.mem_cons_self ..)); omega) h
  show min _ _+brN ms r<=min _ _+brN ms t
  omega
theorem zyX{ms:List Mb}{r:Int}{k:Nat}{a:Mb}(h:ms[k]? = some a):brN (ms.take (k+1)) r=brN (ms.take k) r+min (unN a * r / 100) a.Most:=by
 unfold brN;rw[List.take_add_one,h,List.map_append,zwC]
 show _+(min (unN a * r / 100) a.Most+0)=_
 rw[Int.add_zero]
theorem zyY{s:Soc}(hs:zxP s)(out:List Int){r:Int}(hr:0<=r/\r<=10000):ztM (zx4 s out) r=some (brN s.Members r):=by
 have h5:=hs.m5;unfold ztM;refine zwk (n:=s.Members.length) (fun d acc x=>ztL (zx4 s out) r d acc x) (fun k=>brN (s.Members.take k) r) (fun d k hk=>?_) (fun d=>?_) (s.Members.length+1) 0 (by omega) (by omega)
 ·have hg:=List.getElem?_eq_getElem hk;have ha:=hs.full.ms _ (List.getElem_mem hk);have hu:=zxk ha;have hmo:=ha.most;have hb:=zyV (ms:=s.Members.take k) (fun a ha=>hs.full.ms a (List.mem_of_mem_take ha)) hr
  have hlk:(s.Members.take k).length<=5:=by rw[List.length_take]; omega
  have hm:=zwU (a:=unN s.Members[k]) (x:=r) (A:=10000) (X:=10000) (by omega) hr;have hq:0<=unN s.Members[k] * r / 100:=Int.ediv_nonneg hm.1 (by omega)
  have hun:zts s.Members[k]=some (unN s.Members[k]):=by
   have h1:=ha.sum; have h2:=ha.cls;unfold unN at hu;unfold zts unN;rw[zqs (by omega),zqs (by omega),zqs (fI (by omega))]
  show ztL (zx4 s out) r (d+1) _ _=_
  rw[ztL,if_pos (show(k:Int) < ((zx4 s out).s.Members.length:Int) by show(k:Int) < (s.Members.length:Int); omega),show idx (zx4 s out).s.Members (k:Int)=some s.Members[k] from zrJ hg,obs,hun,obs,zqs (by omega),zqs hr.1,zqs (fI (by omega)),zqs hm.1,zqs (by omega),zqs (fI (by omega)),zqs (fI (by omega)),zqs (fI (by omega)),zyX hg]
 ·show ztL (zx4 s out) r (d+1) _ _=_
  rw[ztL,if_neg (show ¬ ((s.Members.length:Nat):Int) < ((zx4 s out).s.Members.length:Int) from Int.lt_irrefl _),List.take_length]
def zyZ(s:Soc)(r:Int):Bool:=decide (hiN s<=brN s.Members r)
theorem zy0{s:Soc}(hs:zxP s){r:Int}(hr:0<=r/\r<=10000):ztN (zx4 s []) r=some (zyZ s r):=by
 unfold ztN;rw[zyY hs [] hr,obs,zyT hs,obs]; rfl
theorem zy1{p:Int->Option Bool}{f:Nat->Bool}{n:Nat}(hn:n<=1000000)(hp:∀m,m < n->p (m:Int)=some (f m))(hm:∀m k,m<=k->k < n->f m=true->f k=true):∀d (i j:Nat),i<=j->j<=n->j - i < d->(∀m,m < i->f m=false)->(∀m,j<=m->m < n->f m=true) ->
  ∃k:Nat,ztP p d (i:Int) (j:Int)=some (k:Int)/\k<=n/\(∀m,m < k->f m=false)/\(∀m,k<=m->m < n->f m=true)
 | 0,_,_,_,_,h,_,_=>by omega
 | d+1,i,j,hij,hj,h,hlo,hhi=>by
  rw[ztP]
  by_cases hc:i < j
  ·obtain⟨md,hmd⟩:∃md:Nat,md=(i+j) / 2:=⟨_,rfl⟩
   have hf:zl6 .u64 ((i:Int)+j):=show _/\_ by constructor <;> omega
   have e:zmc .i64 (zmc .u64 ((i:Int)+j) / 2)=(md:Int):=by
    rw[wz hf,wz (fI (by omega))]; omega
   rw[if_pos (by omega),zqs (fI (by omega)),zqs (by rw[wz hf]; omega),zqs (by omega),zqs (by omega),zqs (by rw[wz hf]; exact show _/\_ by constructor <;> omega),e,hp md (by omega),obs]
   cases hq:f md with
   | true=>
    rw[if_pos rfl];exact zy1 hn hp hm d i md (by omega) (by omega) (by omega) hlo fun m h1 h2=>hm md m h1 h2 hq
   | false=>
    rw[if_neg (by decide),zqs (fI (by omega)),show(md:Int)+1=((md+1:Nat):Int) by omega]
    exact zy1 hn hp hm d (md+1) j (by omega) hj (by omega) (fun m h1=>by
     cases hq2:f m with
     | false=>rfl
     | true=>have:=hm m md (by omega) (by omega) hq2; rw[hq] at this; cases this) hhi
  ·rw[if_neg (by omega)];exact⟨i,rfl,by omega,hlo,fun m h1 h2=>hhi m (by omega) h2⟩
theorem zy2{s:Soc}(hs:zxP s):∃k:Nat,ztQ 10001 (fun r=>ztN (zx4 s []) r)=some (k:Int)/\k<=10001/\(∀m:Nat,m < k->zyZ s m=false)/\(∀m:Nat,k<=m->m < 10001->zyZ s m=true):=by
 unfold ztQ
 exact zy1 (n:=10001) (f:=fun m=>zyZ s (m:Int)) (by omega) (fun m hm=>zy0 hs (by omega)) (fun m k h1 h2 h3=>by
  have h4:hiN s<=brN s.Members (m:Int):=of_decide_eq_true h3;have h5:=zyW hs.full.ms (r:=(m:Int)) (t:=(k:Int)) (by omega)
  exact decide_eq_true (by omega)) _ 0 10001 (by omega) (by omega) (by omega) (fun m h=>by omega) (fun m h1 h2=>by omega)
theorem zy3{s:Soc}(hs:zxP s):(∃k:Nat,ztY s=some ((k:Int),0)/\k<=10000/\hiN s<=brN s.Members (k:Int)/\∀m:Nat,m < k->brN s.Members (m:Int) < hiN s)\/(ztY s=some (0,10)/\∀m:Nat,m<=10000->brN s.Members (m:Int) < hiN s):=by
 obtain⟨k,h1,h2,h3,h4⟩:=zy2 hs
 have lt:∀m:Nat,zyZ s (m:Int)=false->brN s.Members (m:Int) < hiN s:=fun m h=>by
  have:=of_decide_eq_false h; omega
 unfold ztY;rw[zyd hs (Nat.zero_le _) (zye _),obs,if_pos rfl]
 show(∃k':Nat,(ztQ 10001 (fun r=>ztN (zx4 s []) r)).bind _=_/\_)\/((ztQ 10001 (fun r=>ztN (zx4 s []) r)).bind _=_/\_)
 rw[h1,obs]
 by_cases hk:k<=10000
 ·rw[if_neg (by omega)];exact .inl ⟨k,rfl,hk,of_decide_eq_true (h4 k (Nat.le_refl _) (by omega)),fun m hm=>lt m (h3 m hm)⟩
 ·rw[if_pos (by omega)];exact .inr ⟨rfl,fun m hm=>lt m (h3 m (by omega))⟩
def zy4(s:Soc)(l:List Int):Bool:=decide (0 < (bnd s (zyR s l)).Hi)
theorem zy5{s:Soc}(hs:zxP s){l:List Int}(hl:zrT l):ztO s l=some (zy4 s l):=by
 have hb:=zyj hs;unfold ztO;rw[zx8 hl hs.m5,obs,zyE hs (g:=zyR s l) (fun N h1 h2=>zyG hs l (by omega)),obs]; rfl
theorem zy6{s:Soc}(hs:zxP s)(h:hiN s ≠ 0):ztZ s=some (zry s.Members.length (zy4 s),0):=by
 have h5:=hs.m5
 have hlen:∀L∈zoi s.Members.length,zrT L:=fun L hL=>by have:=zyp (zyq.1 hL); unfold zrT; omega
 unfold ztZ;rw[zyd hs (Nat.zero_le _) (zye _),obs,if_pos rfl,zyT hs,obs,if_neg h];unfold zrz;rw[zqs ⟨by omega,by omega,fun L hL=>by show(ztO s L).isSome=true; rw[zy5 hs (hlen L hL)]; rfl⟩,obs];refine congrArg (fun x=>some (x,(0:Int))) ?_
 have e:(zoi s.Members.length).find? (fun L=>((ztO s L)).getD false)=(zoi s.Members.length).find? (zy4 s):=by
  have:∀l:List (List Int),(∀L∈l,zrT L)->l.find? (fun L=>((ztO s L)).getD false)=l.find? (zy4 s):=by
   intro l
   induction l with
   | nil=>intro _; rfl
   | cons L l ih=>
    intro hl
    have h1:(ztO s L).getD false=zy4 s L:=by rw[zy5 hs (hl L (List.mem_cons_self ..))]; rfl
    rw[List.find?_cons,List.find?_cons,h1,ih fun L hL=>hl L (List.mem_cons_of_mem _ hL)]
  exact this _ hlen
 show zry s.Members.length (fun L=>((ztO s L)).getD false)=_
 unfold zry;rw[e]
theorem zy7{a b:List Int}(hl:a.length<=1000):∀(d k:Nat),k<=a.length->a.length - k < d->zsz a b d (k:Int)=some (bef (a.drop k) (b.drop k))
 | 0,_,_,h=>by omega
 | d+1,k,hk,h=>by
  rw[zsz]
  by_cases hka:k < a.length
  ·rw[if_pos (by omega)];have da:=List.drop_eq_getElem_cons hka;have ga:=List.getElem?_eq_getElem hka
   by_cases hkb:k < b.length
   ·have db:=List.drop_eq_getElem_cons hkb;have gb:=List.getElem?_eq_getElem hkb;rw[if_pos (by omega),zrJ ga,obs,zrJ gb,obs,da,db];unfold bef
    by_cases he:a[k]=b[k]
    ·rw[if_pos he,if_pos he,zqs (fI (by omega)),show(k:Int)+1=((k+1:Nat):Int) by omega];exact zy7 hl d (k+1) (by omega) (by omega)
    ·rw[if_neg he,if_neg he,obs,obs]
   ·rw[if_neg (by omega),da,List.drop_eq_nil_of_le (show b.length<=k by omega),decide_eq_false (by omega)]; rfl
  ·rw[if_neg (by omega),List.drop_eq_nil_of_le (show a.length<=k by omega)]
   by_cases hkb:k < b.length
   ·rw[List.drop_eq_getElem_cons hkb,decide_eq_true (by omega)]; rfl
   ·rw[List.drop_eq_nil_of_le (show b.length<=k by omega),decide_eq_false (by omega)]; rfl
theorem zy8{a b:List Int}(hl:a.length<=1000):zsA a b=some (bef a b):=zy7 hl (a.length+1) 0 (Nat.zero_le _) (by omega)
theorem zy9{a b:List Int}(hl:a.length<=1000):zsB a b=some (shB a b):=by
 unfold zsB shB
 by_cases h1:a.length < b.length
 ·rw[if_pos (by omega),decide_eq_true h1]; rfl
 ·rw[if_neg (by omega),decide_eq_false h1]
  by_cases h2:a.length=b.length
  ·rw[if_pos (by omega),zy8 hl,decide_eq_true h2]; simp
  ·rw[if_neg (by omega),decide_eq_false h2]; simp
theorem zza{a b:List Int}(hl:a.length=b.length):(bef a b=false/\bef b a=false)↔a=b:=by
 constructor
 ·rintro⟨h1,h2⟩
  rcases zys a b with h | h | h
  ·exact h
  ·rw[h1] at h; cases h
  ·rw[h2] at h; cases h
 ·rintro rfl; exact⟨zyr _,zyr _⟩
theorem zzb{a b:List Int}(ha:a.length<=1000)(hb:b.length<=1000):zsC a b=some (decide (a=b)):=by
 unfold zsC
 by_cases hl:a.length=b.length
 ·rw[if_pos (by omega),zy8 ha,obs];have h:=zza hl
  cases h1:bef a b with
  | true=>rw[if_pos rfl,decide_eq_false fun he=>by have:=(h.2 he).1; rw[h1] at this; cases this]
  | false=>
   rw[if_neg (by decide),zy8 hb,obs]
   cases h2:bef b a with
   | true=>rw[decide_eq_false fun he=>by have:=(h.2 he).2; rw[h2] at this; cases this]; rfl
   | false=>rw[decide_eq_true (h.1 ⟨h1,h2⟩)]; rfl
 ·rw[if_neg (by omega),decide_eq_false fun he=>hl (by rw[he])]
def zzc(s:Soc):Prop:=s.Members.length<=8/\s.Losses.length<=6
theorem zzd{s:Soc}:Ev (zt4 s) (zzc s):=by
 unfold zt4 zzc
 by_cases h:(s.Members.length:Int)<=8
 ·rw[if_pos h]; exact Ev.dec (by omega)
 ·rw[if_neg h]; exact Ev.ff (by omega)
theorem zxP.thin{s:Soc}(h:zxP s):zzc s:=⟨by have:=h.m5; omega,by have:=h.l3; omega⟩
theorem zze{s:Soc}(h:zzc s):zt3 s=some s:=by
 unfold zt3
 show zt2 s 1000000 [] [] s.Treaty.Lo s.Treaty.Hi s.Reserve 0=_
 obtain⟨h1,h2⟩:=h
 have k1:zt1 s s.Members 1000000 [] s.Treaty.Lo s.Treaty.Hi s.Reserve 0=some s:=by
  refine(zrP (l:=s.Losses) (fun r=>r) (F:=fun d acc x=>zt1 s s.Members d acc s.Treaty.Lo s.Treaty.Hi s.Reserve x) (fun acc=>some ({ Members:=s.Members,Losses:=acc,Treaty:=s.Treaty,Reserve:=s.Reserve }:Soc)) (fun d k acc a hk ha=>?_) (fun d acc=>?_) (d:=1000000) (by omega)).trans (by rw[List.map_id'])
  ·have hkl:=(List.getElem?_eq_some_iff.1 hk).1
   show zt1 s s.Members (d+1) _ _ _ _ _=_
   rw[zt1,if_pos (by omega),zrJ hk,obs]
   show(some a).bind _=_
   rw[obs,zqs (by omega),zqs (fI (by omega))]
  ·show zt1 s s.Members (d+1) _ _ _ _ _=_
   rw[zt1,if_neg (Int.lt_irrefl _)]
 refine(zrP (l:=s.Members) (fun r=>r) (F:=fun d acc x=>zt2 s d acc [] s.Treaty.Lo s.Treaty.Hi s.Reserve x) (fun acc=>zt1 s acc 1000000 [] s.Treaty.Lo s.Treaty.Hi s.Reserve 0) (fun d k acc a hk ha=>?_) (fun d acc=>?_) (d:=1000000) (by omega)).trans (by rw[List.map_id']; exact k1)
 ·have hkl:=(List.getElem?_eq_some_iff.1 hk).1
  show zt2 s (d+1) _ _ _ _ _ _=_
  rw[zt2,if_pos (by omega),zrJ hk,obs,zqs (by omega),zqs (fI (by omega))]
 ·show zt2 s (d+1) _ _ _ _ _ _=_
  rw[zt2,if_neg (Int.lt_irrefl _)]
theorem zzf{s:Soc}:Ev (zt9 s) (zxP s):=by
 unfold zt9
 by_cases ht:zzc s
 ·rw[zzd.some_of ht,obs,if_pos rfl,zx2 ht.1 ht.2,obs];exact Ev.dec zxR
 ·rw[zzd.some_not ht,obs,if_neg (by decide)];exact Ev.ff fun h=>ht h.thin
def zzg(most:Int):Soc:={ Members:=[{ Sum:=100,Class:=2,Most:=most },{ Sum:=100,Class:=1,Most:=60 },{ Sum:=50,Class:=2,Most:=most }],Losses:=[{ Lo:=200,Hi:=210 },{ Lo:=90,Hi:=90 }],Treaty:={ Lo:=20,Hi:=25 },Reserve:=30 }
theorem zzh(most:Int):zt7 most=some (zzg most):=rfl
theorem zzi{most:Int}(h:0<=most/\most<=100000):zxP (zzg most):=by
 refine⟨Nat.le_of_ble_eq_true rfl,Nat.le_of_ble_eq_true rfl,Nat.le_of_ble_eq_true rfl,fun a ha=>?_,fun r hr=>?_,by show RgV ⟨20,25⟩; decide,by show(0:Int)<=30/\(30:Int)<=_; omega⟩
 ·rcases List.mem_cons.1 ha with rfl | ha
  ·exact⟨by show(1:Int)<=100/\(100:Int)<=1000; omega,by show(1:Int)<=2/\(2:Int)<=10; omega,h⟩
  rcases List.mem_cons.1 ha with rfl | ha
  ·exact⟨by decide,by decide,by decide⟩
  rcases List.mem_cons.1 ha with rfl | ha
  ·exact⟨by show(1:Int)<=50/\(50:Int)<=1000; omega,by show(1:Int)<=2/\(2:Int)<=10; omega,h⟩
  ·cases ha
 ·rcases List.mem_cons.1 hr with rfl | hr
  ·decide
  rcases List.mem_cons.1 hr with rfl | hr
  ·decide
  ·cases hr
theorem f64{n:Int}(h:-1000000<=n/\n<=1000000):zl6 .i64 n:=fI (by omega)
theorem zzj:zt8=some true:=by
 have h5:zxP (zzg 500):=zzi (by omega);have h1:zxP (zzg 150):=zzi (by omega)
 have n5:ztR (zzg 500)=some ({ Lo:=235,Hi:=250 },0):=by
  rw[zyF h5]
  have e1:loN (zzg 500)=235:=by decide +kernel
  have e2:hiN (zzg 500)=250:=by decide +kernel
  rw[e1,e2]
 have c5:ztT (zzg 500) 250=some ([127,60,63],0,0):=by
  rw[zyK h5 (by omega)]
  have e1:zyH (zzg 500) [] 250=[127,60,63]:=by decide +kernel
  have e2:(zxC (zzg 500).Members (zx3 (zzg 500).Members.length []) 250).2=0:=by decide +kernel
  rw[e1,e2]
 have b5:ztW (zzg 500)=some (zyM (zzg 500) [],0):=zyQ h5
 have eb:zyM (zzg 500) []=[{ Lo:=117,Hi:=127 },{ Lo:=59,Hi:=60 },{ Lo:=59,Hi:=63 }]:=by
  have e1:(zyM (zzg 500) []).map (·.Lo)=[117,59,59]:=by decide +kernel
  have e2:(zyM (zzg 500) []).map (·.Hi)=[127,60,63]:=by decide +kernel
  have e3:(zyM (zzg 500) []).length=3:=zyN []
  revert e1 e2 e3
  generalize zyM (zzg 500) []=l;intro e1 e2 e3
  match l,e3 with
  | [⟨a1,a2⟩,⟨b1,b2⟩,⟨c1,c2⟩],_=>
   simp only[List.map_cons,List.map_nil,List.cons.injEq,and_true] at e1 e2
   obtain⟨rfl,rfl,rfl⟩:=e1;obtain⟨rfl,rfl,rfl⟩:=e2
   rfl
 have r5:ztY (zzg 500)=some (64,0):=by
  have m63:brN (zzg 500).Members 63 < 250:=by decide +kernel
  have m64:250<=brN (zzg 500).Members 64:=by decide +kernel
  have e2:hiN (zzg 500)=250:=by decide +kernel
  rcases zy3 h5 with ⟨k,q1,q2,q3,q4⟩ | ⟨q1,q2⟩
  ·rw[e2] at q3 q4
   have hk:k=64:=by
    apply Classical.byContradiction
    intro hne
    rcases Nat.lt_or_ge k 64 with h | h
    ·have:=zyW h5.full.ms (r:=(k:Int)) (t:=63) (by omega); omega
    ·have:=q4 64 (by omega);have e:((64:Nat):Int)=64:=rfl;rw[e] at this; omega
   subst hk; exact q1
  ·have:=q2 64 (by omega);have e:((64:Nat):Int)=64:=rfl;rw[e2,e] at this; omega
 have x5:ztZ (zzg 500)=some ([0,2],0):=by
  rw[zy6 h5 (by decide +kernel)]
  have e:zry (zzg 500).Members.length (zy4 (zzg 500))=[0,2]:=by decide +kernel
  rw[e]
 have x1:ztZ (zzg 150)=some ([0],0):=by
  rw[zy6 h1 (by decide +kernel)]
  have e:zry (zzg 150).Members.length (zy4 (zzg 150))=[0]:=by decide +kernel
  rw[e]
 unfold zt8;rw[zzh,obs,n5,obs,obs,c5,obs,obs,b5,obs,obs,r5,obs,obs,x5,obs,zzh,obs,x1,obs,eb];have s1:zsC [127,60,63] [127,60,63]=some true:=zzb (by decide) (by decide);have s2:zsC [0,2] [0,2]=some true:=zzb (by decide) (by decide);have s3:zsC [0] [0]=some true:=zzb (by decide) (by decide);have f:∀n:Int,-1000000<=n/\n<=1000000->zl6 .i64 n:=fun n h=>f64 h
 simp only[zt6,obs,zqs (f 235 (by omega)),zqs (f 250 (by omega)),zqs (f 117 (by omega)),zqs (f 127 (by omega)),zqs (f 59 (by omega)),zqs (f 60 (by omega)),zqs (f 63 (by omega)),s1,s2,s3]
 simp[idx]
 rw[zqs (f 117 (by omega)),zqs (f 127 (by omega)),zqs (f 59 (by omega)),zqs (f 60 (by omega)),zqs (f 59 (by omega)),zqs (f 63 (by omega))]
theorem awk{β:Type}{f:Bool->Option β}:(zt8).bind f=f true:=by rw[zzj,obs]
theorem zzk{l:List Int}{k:Nat}{a:Int}(h:l[k]? = some a):zwB (l.take (k+1))=zwB (l.take k)+a:=by
 rw[List.take_add_one,h,zwC]
 show _+(a+0)=_; omega
theorem zzl{l:List Int}{B:Int}(h:∀x∈l,0<=x/\x<=B):0<=zwB l/\zwB l<=B * l.length:=by
 induction l with
 | nil=>exact⟨Int.le_refl _,by show(0:Int)<=B * ((0:Nat):Int); simp⟩
 | cons a l ih=>
  have ih:=ih fun x hx=>h x (List.mem_cons_of_mem _ hx);have:=h a (List.mem_cons_self ..)
  show 0<=a+zwB l/\a+zwB l<=_
  rw[List.length_cons,Int.natCast_add,Int.mul_add]
  show _/\_<=_+B * 1
  omega
theorem zzm{l:List Int}(hl:l.length<=9)(hb:∀x∈l,0<=x/\x<=1000000):zub l=some (zwB l):=by
 unfold zub;refine zwk (n:=l.length) (fun d acc x=>zua l d acc x) (fun k=>zwB (l.take k)) (fun d k hk=>?_) (fun d=>?_) _ 0 (by omega) (by omega)
 ·have hg:=List.getElem?_eq_getElem hk;have h3:=zzl (l:=l.take k) (B:=1000000) fun x hx=>hb x (List.mem_of_mem_take hx);have h4:=hb _ (List.getElem_mem hk)
  have h5:(l.take k).length<=9:=by rw[List.length_take]; omega
  show zua l (d+1) _ _=_
  rw[zua,if_pos (by omega),zrJ hg,obs,zqs (fI (by omega)),zqs (fI (by omega)),zzk hg]
 ·show zua l (d+1) _ _=_
  rw[zua,if_neg (Int.lt_irrefl _),List.take_length]
theorem zzn(f:Nat->Int){n:Nat}(hn:n<=5):zwB ((l5 f).take n)=part f n:=by
 match n,hn with
 | 0,_=>rfl
 | 1,_=>show f 0+0=0+f 0; omega
 | 2,_=>show f 0+(f 1+0)=0+f 0+f 1; omega
 | 3,_=>show f 0+(f 1+(f 2+0))=0+f 0+f 1+f 2; omega
 | 4,_=>show f 0+(f 1+(f 2+(f 3+0)))=0+f 0+f 1+f 2+f 3; omega
 | 5,_=>show f 0+(f 1+(f 2+(f 3+(f 4+0))))=0+f 0+f 1+f 2+f 3+f 4; omega
theorem zzo(f:Nat->Int){n:Nat}(hn:n<=5)(h:∀i,n<=i->i < 5->f i=0):part f n=S5 f:=by
 rw[zw0 f hn];refine zwF fun i hi=>?_
 by_cases hin:i < n
 ·rw[if_pos hin]
 ·rw[if_neg hin,h i (by omega) hi]
theorem zzp{s:Soc}(hs:zxP s)(out:List Int){N:Int}(hN:0<=N/\N<=1000000):zwB (zyH s out N)=S5 (zxC s.Members (zx3 s.Members.length out) N).1:=by
 unfold zyH;rw[zzn _ hs.m5,zzo _ hs.m5];intro i h1 h2
 exact zxJ hs.msOk (zx5 s.Members out) hN h2 (by
  cases hq:zx3 s.Members.length out i with
  | false=>rfl
  | true=>have:=zx5 s.Members out i hq; omega)
theorem zzq{s:Soc}(hs:zxP s)(out:List Int){N:Int}(hN:0<=N/\N<=1000000):∀x∈zyH s out N,0<=x/\x<=1000000:=fun x hx=>by
 have h5:=hs.m5;obtain⟨k,hk⟩:=List.mem_iff_getElem?.1 hx;have hlt:=(List.getElem?_eq_some_iff.1 hk).1;rw[zyI out N h5] at hlt;rw[zyJ out N h5 hlt] at hk;have:=zxL hs.msOk (zx5 s.Members out) hN (i:=k) (by omega);have:=oi hk
 omega
section
variable {ms:List Mb} {ask:Nat->Bool} {N:Int}
end
theorem zzr{s:Soc}(hs:zxP s){N:Int}(hN:0<=N/\N<=1000000):zwB (zyH s [] N)=min N (S5 (mF s.Members (zx3 s.Members.length [])))/\(zxC s.Members (zx3 s.Members.length []) N).2=max 0 (N - S5 (mF s.Members (zx3 s.Members.length []))):=by
 have h1:=zxN hs.msOk (zx5 s.Members []) hN;have h2:=zxI hs.msOk (zx5 s.Members []) hN;have h3:=zzp hs [] hN;rw[h3];exact⟨by omega,h1⟩
theorem wzu{n:Int}(h:0<=n/\n < 4294967296):zmc .i64 n=n:=wz (fI (by omega))
theorem zzs{n:Int}(h:zl6 .u32 n):0<=n/\n < 4294967296:=h
theorem zzt{s:Soc}{need more:Int}(_:zsd s)(hn:zl6 .u32 need)(hm:zl6 .u16 more):zuc s need more=some true:=by
 have hn:=zzs hn;have hm:=zrI hm;unfold zuc
 refine zzf.pick (fun hs=>?_) fun _=>by rw[if_neg (by decide),awk]
 rw[if_pos rfl,wzu hn,wzu (n:=more) (by omega)];have hmod1:=Int.emod_nonneg need (show(300001:Int) ≠ 0 by omega);have hmod2:=Int.emod_lt_of_pos need (show(0:Int) < 300001 by omega);generalize need % 300001=n at hmod1 hmod2 ⊢;have hrs:=hs.full.rs;have hx:zxP { Members:=s.Members,Losses:=s.Losses,Treaty:=s.Treaty,Reserve:=min 100000 (s.Reserve+more) }:=⟨hs.m5,hs.l3,hs.full.pos,hs.full.ms,hs.full.ls,hs.full.tr,by show 0<=min 100000 (s.Reserve+more)/\min 100000 (s.Reserve+more)<=100000; omega⟩
 have hle:hiN { Members:=s.Members,Losses:=s.Losses,Treaty:=s.Treaty,Reserve:=min 100000 (s.Reserve+more) }<=hiN s:=by
  show max 0 (zyh (·.Hi) s.Losses - min 100000 (s.Reserve+more) - s.Treaty.Lo)<=max 0 (zyh (·.Hi) s.Losses - s.Reserve - s.Treaty.Lo)
  omega
 have h5:=hs.m5;have l1:=zyI (s:=s) [] n h5;have l2:=zyI (s:=s) [] (min 300000 (n+more)) h5;have t1:=zzr hs (N:=n) (by omega);have t2:=zzr hs (N:=min 300000 (n+more)) (by omega);rw[zqs (by omega),zqs (by omega),zqs (fI (by omega)),zqs (fI (by omega)),zqs (fI (by omega)),zze hs.thin,obs,zyK hs (by omega),obs,obs,zyK hs (by omega),obs,obs]
 have fin:∀(r t:Int × Int),ztY s=some r->ztY { Members:=s.Members,Losses:=s.Losses,Treaty:=s.Treaty,Reserve:=min 100000 (s.Reserve+more) }=some t->((r.2=0/\t.2=0/\t.1<=r.1)\/(r.2=10/\(t.2=0\/t.2=10))) ->
   ((ztY s).bind fun r2755=>((zt3 ({ Members:=s.Members,Losses:=s.Losses,Treaty:=s.Treaty,Reserve:=(min (100000:Int) (s.Reserve+more)) }:Soc)).bind fun r2762=>((ztY r2762).bind fun r2774=>(if (0:Int)=(0:Int) then (if (0:Int)=(0:Int) then ((zub (zyH s [] n)).bind fun r2783=>((zub (zyH s [] (min 300000 (n+more)))).bind fun r2790=>(if r2790 < r2783 then (some false) else (if (zxC s.Members (zx3 s.Members.length []) (min 300000 (n+more))).2 < (zxC s.Members (zx3 s.Members.length []) n).2 then (some false) else (if r2755.2=(0:Int) then (if r2774.2=(0:Int) then (if r2774.1<=r2755.1 then ((zt8).bind fun r2819=>(some r2819)) else (some false)) else (some false)) else (if r2755.2=(10:Int) then (if r2774.2=(0:Int) then ((zt8).bind fun r2802=>(some r2802)) else (if r2774.2=(10:Int) then ((zt8).bind fun r2810=>(some r2810)) else (some false))) else (some false))))))) else (some false)) else (some false)))))=some true:=fun r t hr ht hc=>by
  rw[hr,obs,zze hx.thin,obs,ht,obs,if_pos rfl,if_pos rfl,zzm (by rw[l1]; omega) (zzq hs [] (by omega)),obs,zzm (by rw[l2]; omega) (zzq hs [] (by omega)),obs,if_neg (by omega),if_neg (by omega)]
  rcases hc with ⟨h1,h2,h3⟩ | ⟨h1,h2⟩
  ·rw[if_pos h1,if_pos h2,if_pos h3,awk]
  ·rw[if_neg (by omega),if_pos h1]
   rcases h2 with h2 | h2
   ·rw[if_pos h2,awk]
   ·rw[if_neg (by omega),if_pos h2,awk]
 rcases zy3 hs with ⟨k,q1,q2,q3,q4⟩ | ⟨q1,q2⟩
 ·rcases zy3 hx with ⟨k',p1,p2,p3,p4⟩ | ⟨p1,p2⟩
  ·refine fin _ _ q1 p1 (.inl ⟨rfl,rfl,?_⟩)
   apply Classical.byContradiction
   intro hc;have:=p4 k (by omega);have hq:brN s.Members (k:Int) < hiN _:=this
   omega
  ·have:=p2 k q2;have hq:brN s.Members (k:Int) < hiN _:=this
   omega
 ·rcases zy3 hx with ⟨k',p1,p2,p3,p4⟩ | ⟨p1,p2⟩
  ·exact fin _ _ q1 p1 (.inr ⟨rfl,.inl rfl⟩)
  ·exact fin _ _ q1 p1 (.inr ⟨rfl,.inr rfl⟩)
end
end Go.Proofs.Ytkclhciahokifaa

namespace Go.Proofs.Ytkclhciahokifaa
open _root_.Go.Proofs.Try
open Go.ChangeShapes Go.WideShapes Go.ChangeAt Go.RowKit Go.Abs
set_option maxRecDepth 100000
theorem op3:zrZ prog 3 Int (zl6 .i64):=zr0 (by kernel_rfl)
theorem zzu:zrZ prog 82 Mb zsb:=zr7 (fs:=[(3,0),(3,1),(3,2)]) (by kernel_rfl) (by kernel_rfl) (zr6 (α:=Int) (ok:=zl6 .i64) (k:=1) op3 (by kernel_rfl) rfl (zr6 (α:=Int) (ok:=zl6 .i64) (k:=1) op3 (by kernel_rfl) rfl (zr6 (α:=Int) (ok:=zl6 .i64) (k:=1) op3 (by kernel_rfl) rfl zr5))) (by kernel_rfl) fun m vs h=>by
 obtain⟨a0,c0,r0,m0,h0,p0,k0,s0,⟨a1,c1,r1,m1,h1,p1,k1,s1,⟨a2,c2,r2,m2,h2,p2,k2,s2,rfl⟩⟩⟩:=h;have p0:c0=[.int .i64 a0]:=p0; subst p0;have p1:c1=[.int .i64 a1]:=p1; subst p1;have p2:c2=[.int .i64 a2]:=p2; subst p2;subst h2 h1 h0;exact⟨⟨a0,a1,a2⟩,rfl,⟨k0,k1,k2⟩⟩
theorem zzv:zrZ prog 22 (List Mb) (fun l=>l.length<=maxLen/\∀a0∈l,zsb a0):=zr2 (by kernel_rfl) (by kernel_rfl) zzu
theorem zzw:zrZ prog 25 Rg zr9:=zr7 (fs:=[(3,0),(3,1)]) (by kernel_rfl) (by kernel_rfl) (zr6 (α:=Int) (ok:=zl6 .i64) (k:=1) op3 (by kernel_rfl) rfl (zr6 (α:=Int) (ok:=zl6 .i64) (k:=1) op3 (by kernel_rfl) rfl zr5)) (by kernel_rfl) fun m vs h=>by
 obtain⟨a0,c0,r0,m0,h0,p0,k0,s0,⟨a1,c1,r1,m1,h1,p1,k1,s1,rfl⟩⟩:=h;have p0:c0=[.int .i64 a0]:=p0; subst p0;have p1:c1=[.int .i64 a1]:=p1; subst p1;subst h1 h0;exact⟨⟨a0,a1⟩,rfl,⟨k0,k1⟩⟩
theorem zzx:zrZ prog 23 (List Rg) (fun l=>l.length<=maxLen/\∀a0∈l,zr9 a0):=zr2 (by kernel_rfl) (by kernel_rfl) zzw
theorem zzy:zrZ prog 27 Soc zsd:=zr7 (fs:=[(22,0),(23,1),(25,2),(3,4)]) (by kernel_rfl) (by kernel_rfl) (zr6 (α:=List Mb) (ok:=(fun l=>l.length<=maxLen/\∀a0∈l,zsb a0)) (k:=1) zzv (by kernel_rfl) rfl (zr6 (α:=List Rg) (ok:=(fun l=>l.length<=maxLen/\∀a0∈l,zr9 a0)) (k:=1) zzx (by kernel_rfl) rfl (zr6 (α:=Rg) (ok:=zr9) (k:=2) zzw (by kernel_rfl) rfl (zr6 (α:=Int) (ok:=zl6 .i64) (k:=1) op3 (by kernel_rfl) rfl zr5)))) (by kernel_rfl) fun m vs h=>by
 obtain⟨a0,c0,r0,m0,h0,p0,k0,s0,⟨a1,c1,r1,m1,h1,p1,k1,s1,⟨a2,c2,r2,m2,h2,p2,k2,s2,⟨a3,c3,r3,m3,h3,p3,k3,s3,rfl⟩⟩⟩⟩:=h;obtain⟨d0,rfl,p0⟩:=p0;obtain⟨d1,rfl,p1⟩:=p1;have p2:c2=[.int .i64 a2.Lo,.int .i64 a2.Hi]:=p2; subst p2;have p3:c3=[.int .i64 a3]:=p3; subst p3;subst h3 h2 h1 h0;exact⟨⟨a0,a1,a2,a3⟩,⟨_,_,rfl,p0,p1⟩,⟨k0,k1,k2,k3⟩⟩
theorem zzz:laidOutB prog=true:=by kernel_rfl
theorem zzA:ownKnob prog.godebug=none:=by kernel_rfl
theorem zzB(os:Os)(started:os.Started)(H:Type)(enc:TypeId × Value->H) :
    ReturnsInHanded {} Try.checked os 11 .any (Rows.callMoreSpec.pre6 enc Try.prog Try.f11 Rows.callMoreRow.domain false) (Rows.callMoreSpec.post enc Try.prog Try.f11 false true false false):=by
  refine returnsInHanded_of_change (C:=Try.checked) zzA started (by kernel_rfl) Try.func11
    (ChangeSpec.witness6 (enc:=enc) (C:=Try.checked) false ⟨#[],#[.agg #[.slice none 0 0,.slice none 0 0,.int .i64 0,.int .i64 0,.int .i64 0],.int .u32 0,.int .u16 0],[]⟩ 8 (by kernel_rfl) (by kernel_rfl) (by kernel_rfl) (by kernel_rfl)) ?_
  intro W base args ds gs before hval0 hW hcnd _;have hval:∀(j:Nat) t v,Try.f11.params[j]? = some t->args[j]? = some v->Value.okWide Try.prog W .any base t v:=hval0;have hW':=hW;obtain⟨p,q,hA0,hV,rfl,hfz,hnd⟩:=hW;have hA:DataW.TrodAll enc Try.prog W 0 (fun _=>true) true Try.f11.params.toList args.toList ds p:=hA0;rw[Try.params11] at hA hval;obtain⟨v0,v1,v2,d0,d1,d2,p0,p1,p2,rfl,rfl,rfl,h0,h1,h2⟩:=trodAll_three hA;obtain⟨rfl,rfl⟩:=trodVars_none hV;obtain⟨n1,hv1⟩:=okWide_int Try.underlying88 (hval 1 88 v1 rfl rfl);obtain⟨n2,hv2⟩:=okWide_int Try.underlying90 (hval 2 90 v2 rfl rfl)
  have hlt:∀x∈p0++p1++p2,x.block < W.heap.size:=fun x hx=>by simpa using hW'.lt x (by simpa using hx)
  obtain⟨fu0,hf0⟩:=id h0;obtain⟨fu1,hf1⟩:=id h1;obtain⟨fu2,hf2⟩:=id h2
  clear hA0 hval0
  obtain⟨e0,m0,w0,a_0,le0,sv0,lay0,cr0,zuF,ok0⟩:=zzy H enc W true _ _ _ hf0 _ _ (Lay.nil W);obtain⟨i1,hc1,_,hw1⟩:=DataW.trod_int Try.underlying88 hf1;obtain⟨i2,hc2,_,hw2⟩:=DataW.trod_int Try.underlying90 hf2;obtain⟨c0_0,c0_1,rfl,g0_0,g0_1⟩:=zuF
  obtain⟨cs0,hv0,cl0⟩:∃cs,v0=.agg cs/\v0.cells.toList=cs.toList:=by
    have hl:=cr0.length
    cases v0 with
    | agg cs=>exact⟨cs,rfl,rfl⟩
    | _=>exact absurd hl (by simp[Value.cells])
  subst hv0;subst hv1
  have hi1:i1=n1:=by
    have h:[Value.int .u32 n1]=[.int .u32 i1]:=hc1
    cases h; rfl
  subst hi1;subst hv2
  have hi2:i2=n2:=by
    have h:[Value.int .u16 n2]=[.int .u16 i2]:=hc2
    cases h; rfl
  subst hi2;have hargs:zeq (VR e0) [.agg 5 [c0_0,c0_1,.int .i64 a_0.Treaty.Lo,.int .i64 a_0.Treaty.Hi,.int .i64 a_0.Reserve],.c (.int .u32 i1),.c (.int .u16 i2)] [.agg cs0,.int .u32 i1,.int .u16 i2]:=.cons ⟨cs0,rfl,cr0,rfl⟩ (.cons rfl (.cons rfl .nil));refine(callsIn_wide.1 (zqC fits htab (zwj (s:=a_0) (need:=i1) (more:=i2) lay0.pre g0_0 g0_1 (zzt ok0 (zqA hw1) (zqA hw2)) (Q:=fun v _=>v=.c (.bool true)) fun _ _=>rfl) lay0.hr (args':=#[.agg cs0,.int .u32 i1,.int .u16 i2]) hargs 0)).mono fun en W' hp=>?_;obtain⟨v,v',e',m',rfl,hst,hvr,rfl⟩:=hp;have hv':v'=.bool true:=hvr;subst hv';have hbelow:=lay0.below hst
  refine⟨_,rfl,[d0,d1,d2],[],p0++p1++p2,[],p0++(p1++p2),[],by simpa using hW',trodAll_mk1 (shut_bool Try.underlying4 _),
    trodAll_mk3 (Below.trod zzz (by kernel_rfl) (of_decide_eq_true (by kernel_rfl)) h0 hbelow fun x hx=>hlt x (by simp[hx])) (Below.trod zzz (by kernel_rfl) (of_decide_eq_true (by kernel_rfl)) h1 hbelow fun x hx=>hlt x (by simp[hx])) (Below.trod zzz (by kernel_rfl) (of_decide_eq_true (by kernel_rfl)) h2 hbelow fun x hx=>hlt x (by simp[hx])),rfl,lay0.kept hst _,fun hc=>by cases hc⟩
theorem CallMore_holds:Rows.CallMoreSaid:=
 OpenClaim.holds_of_wide 11 Try.f11 rfl rfl rfl rfl rfl rfl rfl ⟨rfl,rfl,rfl,rfl,rfl⟩ rfl rfl rfl rfl rfl (by kernel_rfl) Try.func11 (by kernel_rfl)
  (of_decide_eq_true (by kernel_rfl)) (by unfold Func.isWrapper; first | (rw[if_pos (by decide +kernel)]; kernel_rfl) | (rw[if_neg (by decide +kernel)]; exact⟨rfl,rfl⟩))
  (fun os started H enc _=>zzB os started H enc)
end Go.Proofs.Ytkclhciahokifaa

