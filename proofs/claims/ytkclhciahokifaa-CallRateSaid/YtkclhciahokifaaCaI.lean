/- CallRate, for all that it can be called with, returns true. Condition: none. -/
import Derived.Test.YtkclhciahokifaaCaH
import GoSem.Step
import GoSem.ClaimKeys
import Derived.DeepKeys2
import Derived.RangeFuncLeaves
import Derived.OrdersIn
import Derived.Laws.World
import Derived.Laws.Sem
import Derived.RangeFuncRecord
import Derived.Laws.CopyRow
import Derived.Laws.Append
import Derived.Laws.Rows
import Derived.Laws.Slices
import Derived.Laws.Entries
import Derived.ChangeKeysEq
import Derived.IntWalk
import Derived.DeepKeys
import Derived.DeepKeys3
import Derived.Laws.StructEq
import Derived.MapKept
import Derived.Laws.AppendOwn
import Derived.ChangeArms
import Derived.ChangeOld
import Derived.Carry
import Derived.ChangeShapes
import Derived.KernelRfl
import Derived.ProofKit
import Derived.Test.YtkclhciahokifaaRows

namespace Go.Proofs.Ytkclhciahokifaa
open _root_.Go.Proofs.Try
open Go.Abs
set_option maxRecDepth 100000
noncomputable section
structure zxf (a:Mb):Prop where
 sum:1<=a.Sum/\a.Sum<=1000
 cls:1<=a.Class/\a.Class<=10
 most:0<=a.Most/\a.Most<=100000
def zxg(ms:List Mb):Prop:=ms.length<=5/\∀a∈ms,zxf a
def unN(a:Mb):Int:=a.Sum * a.Class
theorem zxh{a:Mb}(h:zxf a):1<=unN a/\unN a<=10000:=by
 have h1:=zwR (a:=a.Sum) (x:=a.Class) (A:=1000) (X:=10) ⟨by have:=h.sum; omega,h.sum.2⟩ ⟨by have:=h.cls; omega,h.cls.2⟩;have h2:a.Sum * 1<=a.Sum * a.Class:=Int.mul_le_mul_of_nonneg_left h.cls.1 (by have:=h.sum; omega);have:=h.sum;unfold unN; omega
def uF(ms:List Mb)(sh:Nat->Bool):Nat->Int:=zwt ms sh unN
def mF(ms:List Mb)(sh:Nat->Bool):Nat->Int:=zwt ms sh (·.Most)
def zxi(sh:Nat->Bool):Bool:=(sh 0 == false) && ((sh 1 == false) && ((sh 2 == false) && ((sh 3 == false) && (sh 4 == false))))
def zxj(a b:Nat->Bool):Bool:=(a 0 == b 0) && ((a 1 == b 1) && ((a 2 == b 2) && ((a 3 == b 3) && (a 4 == b 4))))
def zxk(ms:List Mb)(sh:Nat->Bool):Prop:=∀i,sh i=true->i < ms.length
def roundsN(ms:List Mb):Nat->(Nat->Bool)->Int->(Nat->Int)->(Nat->Int) × Int
 | 0,_,N,c=>(c,N)
 | d+1,sh,N,c=>if zxi sh=true then (c,N) else
   if zxj (zwv ms sh (zwS N (uF ms sh))) sh=true then (fun i=>c i+zwS N (uF ms sh) i,0) else
    roundsN ms d (zwv ms sh (zwS N (uF ms sh))) (N - S5 (mF ms fun i=>sh i && !zwv ms sh (zwS N (uF ms sh)) i)) (fun i=>c i+mF ms (fun i=>sh i && !zwv ms sh (zwS N (uF ms sh)) i) i)
def cF(sh:Nat->Bool):Nat:=(sh 0).toNat+(sh 1).toNat+(sh 2).toNat+(sh 3).toNat+(sh 4).toNat
theorem zxl{sh:Nat->Bool}:zxi sh=true↔∀i,i < 5->sh i=false:=by
 unfold zxi
 simp only[Bool.and_eq_true,beq_iff_eq]
 constructor
 ·rintro⟨h0,h1,h2,h3,h4⟩ i hi
  match i,hi with
  | 0,_=>exact h0
  | 1,_=>exact h1
  | 2,_=>exact h2
  | 3,_=>exact h3
  | 4,_=>exact h4
 ·intro h; exact⟨h 0 (by omega),h 1 (by omega),h 2 (by omega),h 3 (by omega),h 4 (by omega)⟩
theorem zxm{a b:Nat->Bool}:zxj a b=true↔∀i,i < 5->a i=b i:=by
 unfold zxj
 simp only[Bool.and_eq_true,beq_iff_eq]
 constructor
 ·rintro⟨h0,h1,h2,h3,h4⟩ i hi
  match i,hi with
  | 0,_=>exact h0
  | 1,_=>exact h1
  | 2,_=>exact h2
  | 3,_=>exact h3
  | 4,_=>exact h4
 ·intro h; exact⟨h 0 (by omega),h 1 (by omega),h 2 (by omega),h 3 (by omega),h 4 (by omega)⟩
theorem zxn{ms:List Mb}{sh:Nat->Bool}{p:Nat->Int}{i:Nat}(h:zwv ms sh p i=true):sh i=true:=by
 unfold zwv at h
 cases hm:ms[i]? with
 | none=>rw[hm] at h; exact h
 | some a=>rw[hm] at h; exact(Bool.and_eq_true _ _ ▸ h).1
theorem zxo{ms:List Mb}{sh:Nat->Bool}{p:Nat->Int}{i:Nat}{a:Mb}(hm:ms[i]? = some a):zwv ms sh p i=(sh i && decide (p i<=a.Most)):=by unfold zwv; rw[hm]
theorem zxp{ms:List Mb}{sh:Nat->Bool}{p:Nat->Int}(h:¬ zxj (zwv ms sh p) sh=true):cF (zwv ms sh p) < cF sh:=by
 have hle:∀i,(zwv ms sh p i).toNat<=(sh i).toNat:=fun i=>by
  cases ha:zwv ms sh p i with
  | false=>exact Nat.zero_le _
  | true=>rw[zxn ha]; exact Nat.le_refl _
 have hne:∃i,i < 5/\(zwv ms sh p i).toNat ≠ (sh i).toNat:=by
  apply Classical.byContradiction
  intro hn;refine h (zxm.2 fun i hi=>?_)
  apply Classical.byContradiction
  intro h2;refine hn ⟨i,hi,fun h3=>h2 ?_⟩
  revert h3; cases zwv ms sh p i <;> cases sh i <;> decide
 obtain⟨i,hi,h2⟩:=hne;have l0:=hle 0; have l1:=hle 1; have l2:=hle 2; have l3:=hle 3; have l4:=hle 4;unfold cF
 match i,hi with
 | 0,_=>omega
 | 1,_=>omega
 | 2,_=>omega
 | 3,_=>omega
 | 4,_=>omega
theorem zxq{ms:List Mb}{sh:Nat->Bool}{num:Mb->Int}{i:Nat}(h:sh i=false):zwt ms sh num i=0:=by
 unfold zwt
 cases ms[i]? with
 | none=>rfl
 | some a=>show(if sh i=true then num a else 0)=0; rw[h]; rfl
theorem zxr{ms:List Mb}{sh:Nat->Bool}{num:Mb->Int}{i:Nat}{a:Mb}(hm:ms[i]? = some a)(h:sh i=true):zwt ms sh num i=num a:=by
 unfold zwt; rw[hm]; show(if sh i=true then num a else 0)=_; rw[h,if_pos rfl]
theorem zxs{ms:List Mb}(hms:zxg ms)(sh:Nat->Bool)(i:Nat):0<=uF ms sh i/\uF ms sh i<=10000:=by
 unfold uF
 cases hs:sh i with
 | false=>rw[zxq hs]; omega
 | true=>
  cases hm:ms[i]? with
  | none=>unfold zwt; rw[hm]; show(0:Int)<=0/\(0:Int)<=_; omega
  | some a=>rw[zxr hm hs]; have:=zxh (hms.2 a (List.mem_of_getElem? hm)); omega
theorem zxt{ms:List Mb}(hms:zxg ms){sh:Nat->Bool}(hs:zxk ms sh)(hn:¬ zxi sh=true):UOk (uF ms sh):=by
 have hb:=zxs hms sh;refine⟨fun i _=>by have:=hb i; omega,?_⟩
 obtain⟨i,hi,hsi⟩:∃i,i < 5/\sh i=true:=by
  apply Classical.byContradiction
  intro h;refine hn (zxl.2 fun i hi=>?_)
  cases hq:sh i with
  | false=>rfl
  | true=>exact absurd ⟨i,hi,hq⟩ h
 have hl:=hs i hsi
 have h1:1<=uF ms sh i:=by unfold uF; rw[zxr (List.getElem?_eq_getElem hl) hsi]; exact(zxh (hms.2 _ (List.getElem_mem hl))).1
 have b0:=hb 0; have b1:=hb 1; have b2:=hb 2; have b3:=hb 3; have b4:=hb 4;unfold S5
 match i,hi with
 | 0,_=>omega
 | 1,_=>omega
 | 2,_=>omega
 | 3,_=>omega
 | 4,_=>omega
structure RI (ms:List Mb) (sh:Nat->Bool) (N:Int) (c:Nat->Int):Prop where
 sup:zxk ms sh
 nn:0<=N/\N<=1000000
 cb:∀i,i < 5->0<=c i/\c i<=1000000
 c0:∀i,sh i=true->c i=0
section
variable {ms:List Mb} {sh:Nat->Bool} {N:Int} {c:Nat->Int}
theorem zxu(p:Nat->Int){i:Nat}:(sh i && !zwv ms sh p i)=true↔sh i=true/\∃a,ms[i]? = some a/\a.Most < p i:=by
 cases hm:ms[i]? with
 | none=>unfold zwv; rw[hm]; cases sh i <;> simp
 | some a=>
  rw[zxo hm]
  cases sh i with
  | false=>simp
  | true=>simp
theorem zxv(hms:zxg ms)(hs:zxk ms sh)(hn:¬ zxi sh=true)(hN:0<=N){i:Nat}(hi:i < 5) :
  0<=mF ms (fun i=>sh i && !zwv ms sh (zwS N (uF ms sh)) i) i/\mF ms (fun i=>sh i && !zwv ms sh (zwS N (uF ms sh)) i) i<=qN N (uF ms sh) i:=by
 have hu:=zxt hms hs hn;have hq:=zwT hu hN hi;unfold mF
 cases ho:(sh i && !zwv ms sh (zwS N (uF ms sh)) i) with
 | false=>rw[zxq (by exact ho)]; omega
 | true=>
  obtain⟨h1,a,h2,h3⟩:=(zxu _).1 ho;have hb:=(hms.2 a (List.mem_of_getElem? h2)).most;have hp:=zxb N (uF ms sh) i;rw[zxr h2 (by exact ho)]; omega
theorem RI.next(hms:zxg ms)(h:RI ms sh N c)(hn:¬ zxi sh=true):RI ms (zwv ms sh (zwS N (uF ms sh))) (N - S5 (mF ms fun i=>sh i && !zwv ms sh (zwS N (uF ms sh)) i)) (fun i=>c i+mF ms (fun i=>sh i && !zwv ms sh (zwS N (uF ms sh)) i) i):=by
 have hu:=zxt hms h.sup hn;have hm:=fun i (hi:i < 5)=>zxv hms h.sup hn h.nn.1 hi
 have hs:S5 (mF ms fun i=>sh i && !zwv ms sh (zwS N (uF ms sh)) i)<=S5 (zwS N (uF ms sh)):=zwZ fun i hi=>by have:=hm i hi; have:=zxb N (uF ms sh) i; omega
 rw[zxa hu] at hs
 have hs0:0<=S5 (mF ms fun i=>sh i && !zwv ms sh (zwS N (uF ms sh)) i):=by
  have:=hm 0 (by omega); have:=hm 1 (by omega); have:=hm 2 (by omega); have:=hm 3 (by omega); have:=hm 4 (by omega);unfold S5; omega
 have hnn:=h.nn;refine⟨fun i hi=>h.sup i (zxn hi),by omega,fun i hi=>?_,fun i hi=>?_⟩
 ·have h1:=hm i hi;have h2:=h.cb i hi
  have h3:mF ms (fun i=>sh i && !zwv ms sh (zwS N (uF ms sh)) i) i<=N:=by have:=zwT hu h.nn.1 hi; omega
  show 0<=c i+_/\c i+_<=_
  cases ho:(sh i && !zwv ms sh (zwS N (uF ms sh)) i) with
  | false=>
   have e:mF ms (fun i=>sh i && !zwv ms sh (zwS N (uF ms sh)) i) i=0:=zxq (by exact ho);rw[e]; omega
  | true=>
   have hc:=h.c0 i ((zxu _).1 ho).1;rw[hc]; omega
 ·have h1:=zxn hi
  show c i+_=0
  have e:mF ms (fun i=>sh i && !zwv ms sh (zwS N (uF ms sh)) i) i=0:=zxq (by show(sh i && !zwv ms sh _ i)=false; rw[hi]; simp);rw[h.c0 i h1,e]; rfl
theorem zxw{w:Wk}(hms:zxg w.s.Members):ztu w (mkF sh)=some (mk5 (uF w.s.Members sh)):=by
 unfold ztu;rw[zwu (num:=unN) (fun a ha=>?_) hms.1,obs]; rfl;have h:=hms.2 a ha;have:=h.sum; have:=h.cls;have hb:=zxh h;unfold unN at hb
 show ztq a=some (unN a)
 unfold ztq unN;rw[zqr (by omega),zqr (by omega),zqr (fI (by omega))]
theorem zxx{w:Wk}(hms:zxg w.s.Members):ztv w (mkF sh)=some (mk5 (mF w.s.Members sh)):=by
 unfold ztv;rw[zwu (number:=fun a=>ztr a) (num:=(·.Most)) (fun a _=>rfl) hms.1,obs]; rfl
theorem zxy{w:Wk}(hms:zxg w.s.Members)(need0:Int){need:Int}:∀(n D:Nat) (sh:Nat->Bool) (N:Int) (c:Nat->Int),RI w.s.Members sh N c->N+S5 c=need->need<=1000000->cF sh < n->cF sh < D ->
  zty w need0 D need (c 0) (c 1) (c 2) (c 3) (c 4) (sh 0) (sh 1) (sh 2) (sh 3) (sh 4)=some { need:=need,calls:=mk5 (roundsN w.s.Members n sh N c).1 }
 | 0,_,_,_,_,_,_,_,h,_=>by omega
 | _+1,0,_,_,_,_,_,_,_,h=>by omega
 | n+1,D+1,sh,N,c,hr,hs,hneed,hn,hD=>by
  rw[zty,roundsN]
  show(if zxi sh=true then _ else _)=_
  by_cases h0:zxi sh=true
  ·rw[if_pos h0,if_pos h0]; rfl
  ·rw[if_neg h0,if_neg h0];have hu:=zxt hms hr.sup h0
   have hbc:Bd 1000000000000 c:=fun i hi=>by have:=hr.cb i hi; omega
   have hcb:=hr.cb;have hc0:=hcb 0 (by omega); have hc1:=hcb 1 (by omega); have hc2:=hcb 2 (by omega); have hc3:=hcb 3 (by omega); have hc4:=hcb 4 (by omega)
   have hsc:0<=S5 c/\S5 c<=5000000:=by unfold S5; omega
   have hNN:0<=N/\N<=1000000:=hr.nn
   have e1:zto ({ need:=need,calls:=mk5 c }:Oc)=some N:=by
    unfold zto
    show(ztd (mk5 c)).bind _=_
    rw[zwq hbc,obs,zqr (fI (by show -9223372036854775808<=need - S5 c/\need - S5 c < _; omega))];exact congrArg some (show need - S5 c=N by omega)
   show(zto ({ need:=need,calls:=mk5 c }:Oc)).bind _=_
   rw[e1,obs]
   show(ztu w (mkF sh)).bind _=_
   rw[zxw hms,obs,zwW hu hNN,obs]
   show(ztx w (mkF sh) (mk5 (zwS N (uF w.s.Members sh)))).bind _=_
   rw[zww hms.1,obs]
   have hbp:Bd 1000000000000 (zwS N (uF w.s.Members sh)):=fun i hi=>by have:=zxc hu hNN.1 hi; have:=zxd hu hNN.1 hi; omega
   show(if zxj (zwv w.s.Members sh (zwS N (uF w.s.Members sh))) sh=true then _ else _)=_
   by_cases h1:zxj (zwv w.s.Members sh (zwS N (uF w.s.Members sh))) sh=true
   ·rw[if_pos h1,if_pos h1]
    have e2:ztp ({ need:=need,calls:=mk5 c }:Oc) (mk5 (zwS N (uF w.s.Members sh)))=some { need:=need,calls:=mk5 fun i=>c i+zwS N (uF w.s.Members sh) i }:=by
     unfold ztp
     show(ztf (mk5 c) _).bind _=_
     rw[zwr hbc hbp,obs]
    show(ztp ({ need:=need,calls:=mk5 c }:Oc) _).bind _=_
    rw[e2,obs]
   ·rw[if_neg h1,if_neg h1]
    show(zth (mkF sh) (mkF (zwv w.s.Members sh (zwS N (uF w.s.Members sh))))).bind _=_
    rw[zws,obs,zxx hms,obs];have hnext:=hr.next hms h0;have hm:=fun i (hi:i < 5)=>zxv hms hr.sup h0 hNN.1 hi
    have hbm:Bd 1000000000000 (mF w.s.Members fun i=>sh i && !zwv w.s.Members sh (zwS N (uF w.s.Members sh)) i):=fun i hi=>by have:=hm i hi; have:=zwT hu hNN.1 hi; omega
    have e2:ztp ({ need:=need,calls:=mk5 c }:Oc) (mk5 (mF w.s.Members fun i=>sh i && !zwv w.s.Members sh (zwS N (uF w.s.Members sh)) i))=some { need:=need,calls:=mk5 fun i=>c i+mF w.s.Members (fun i=>sh i && !zwv w.s.Members sh (zwS N (uF w.s.Members sh)) i) i }:=by
     unfold ztp
     show(ztf (mk5 c) _).bind _=_
     rw[zwr hbc hbm,obs]
    show(ztp ({ need:=need,calls:=mk5 c }:Oc) _).bind _=_
    rw[e2,obs];have hless:=zxp h1;have e3:S5 (fun i=>c i+mF w.s.Members (fun i=>sh i && !zwv w.s.Members sh (zwS N (uF w.s.Members sh)) i) i)=S5 c+S5 (mF w.s.Members fun i=>sh i && !zwv w.s.Members sh (zwS N (uF w.s.Members sh)) i):=zwA _ _
    have e4:N - S5 (mF w.s.Members fun i=>sh i && !zwv w.s.Members sh (zwS N (uF w.s.Members sh)) i)+S5 (fun i=>c i+mF w.s.Members (fun i=>sh i && !zwv w.s.Members sh (zwS N (uF w.s.Members sh)) i) i)=need:=by rw[e3]; omega
    exact zxy hms need0 n D _ _ _ hnext e4 hneed (by omega) (by omega)
end
def zxz(ms:List Mb)(ask:Nat->Bool)(need:Int):(Nat->Int) × Int:=roundsN ms 6 ask need fun _=>0
theorem zxA(sh:Nat->Bool):cF sh<=5:=by
 have h:∀b:Bool,b.toNat<=1:=fun b=>by cases b <;> decide
 have:=h (sh 0); have:=h (sh 1); have:=h (sh 2); have:=h (sh 3); have:=h (sh 4);unfold cF; omega
theorem zxB{w:Wk}(hms:zxg w.s.Members){ask:Nat->Bool}(ha:w.asked=mkF ask)(hsup:zxk w.s.Members ask){need:Int}(hn:0<=need/\need<=1000000):ztz w need=some { need:=need,calls:=mk5 (zxz w.s.Members ask need).1 }:=by
 unfold ztz;rw[ha];have hc:=zxA ask;exact zxy hms need 6 1000000 ask need (fun _=>0) ⟨hsup,hn,fun _ _=>by omega,fun _ _=>rfl⟩ (by rw[zwB]; omega) hn.2 (by omega) (by omega)
end
end Go.Proofs.Ytkclhciahokifaa

namespace Go.Proofs.Ytkclhciahokifaa
open _root_.Go.Proofs.Try
open Go.Abs
set_option maxRecDepth 100000
noncomputable section
section
variable {ms:List Mb}
theorem zxC(hms:zxg ms):∀(n:Nat) (sh:Nat->Bool) (N:Int) (c:Nat->Int),RI ms sh N c->cF sh < n->S5 (roundsN ms n sh N c).1+(roundsN ms n sh N c).2=N+S5 c/\0<=(roundsN ms n sh N c).2
 | 0,_,_,_,_,h=>by omega
 | n+1,sh,N,c,hr,h=>by
  unfold roundsN
  by_cases h0:zxi sh=true
  ·rw[if_pos h0]; have:=hr.nn; exact⟨by show S5 c+N=_; omega,hr.nn.1⟩
  ·rw[if_neg h0];have hu:=zxt hms hr.sup h0
   by_cases h1:zxj (zwv ms sh (zwS N (uF ms sh))) sh=true
   ·rw[if_pos h1];have e:S5 (fun i=>c i+zwS N (uF ms sh) i)=S5 c+S5 (zwS N (uF ms sh)):=zwA _ _;have hp:=zxa hu N;exact⟨by show S5 (fun i=>c i+zwS N (uF ms sh) i)+0=_; omega,Int.le_refl _⟩
   ·rw[if_neg h1];have hless:=zxp h1;have ih:=zxC hms n _ _ _ (hr.next hms h0) (by omega);have e:S5 (fun i=>c i+mF ms (fun i=>sh i && !zwv ms sh (zwS N (uF ms sh)) i) i)=S5 c+S5 (mF ms fun i=>sh i && !zwv ms sh (zwS N (uF ms sh)) i):=zwA _ _;rw[e] at ih;exact⟨by rw[ih.1]; omega,ih.2⟩
theorem zxD(hms:zxg ms):∀(n:Nat) (sh:Nat->Bool) (N:Int) (c:Nat->Int),RI ms sh N c->cF sh < n->∀i,i < 5->sh i=false->(roundsN ms n sh N c).1 i=c i
 | 0,_,_,_,_,h=>by omega
 | n+1,sh,N,c,hr,h=>fun i hi hs=>by
  unfold roundsN
  by_cases h0:zxi sh=true
  ·rw[if_pos h0]
  ·rw[if_neg h0];have hu:=zxt hms hr.sup h0
   by_cases h1:zxj (zwv ms sh (zwS N (uF ms sh))) sh=true
   ·rw[if_pos h1]
    show c i+_=_
    rw[zxe hu (show uF ms sh i=0 from zxq hs),Int.add_zero]
   ·rw[if_neg h1];have hless:=zxp h1
    have ha:zwv ms sh (zwS N (uF ms sh)) i=false:=by
     cases hq:zwv ms sh (zwS N (uF ms sh)) i with
     | false=>rfl
     | true=>rw[zxn hq] at hs; cases hs
    rw[zxD hms n _ _ _ (hr.next hms h0) (by omega) i hi ha];have e:mF ms (fun i=>sh i && !zwv ms sh (zwS N (uF ms sh)) i) i=0:=zxq (by show(sh i && _)=false; rw[hs]; rfl);rw[e,Int.add_zero]
theorem zxE(hms:zxg ms):∀(n:Nat) (sh:Nat->Bool) (N:Int) (c:Nat->Int),RI ms sh N c->cF sh < n->∀i a,i < 5->ms[i]? = some a->sh i=true->(0<=(roundsN ms n sh N c).1 i/\(roundsN ms n sh N c).1 i<=a.Most)/\(0 < (roundsN ms n sh N c).2->(roundsN ms n sh N c).1 i=a.Most)
 | 0,_,_,_,_,h=>by omega
 | n+1,sh,N,c,hr,h=>fun i a hi hm hs=>by
  unfold roundsN
  by_cases h0:zxi sh=true
  ·have:=zxl.1 h0 i hi; rw[hs] at this; cases this
  ·rw[if_neg h0];have hu:=zxt hms hr.sup h0;have hc:=hr.c0 i hs;have hp:=zxc hu hr.nn.1 hi
   by_cases h1:zxj (zwv ms sh (zwS N (uF ms sh))) sh=true
   ·rw[if_pos h1];have h2:=zxm.1 h1 i hi;rw[zxo hm,hs,Bool.true_and] at h2;have h3:zwS N (uF ms sh) i<=a.Most:=of_decide_eq_true h2;exact⟨by show 0<=c i+_/\c i+_<=_; omega,fun h=>absurd h (Int.lt_irrefl _)⟩
   ·rw[if_neg h1];have hless:=zxp h1
    cases hq:zwv ms sh (zwS N (uF ms sh)) i with
    | true=>exact zxE hms n _ _ _ (hr.next hms h0) (by omega) i a hi hm hq
    | false=>
     rw[zxD hms n _ _ _ (hr.next hms h0) (by omega) i hi hq];have e:mF ms (fun i=>sh i && !zwv ms sh (zwS N (uF ms sh)) i) i=a.Most:=zxr hm (by show(sh i && !zwv ms sh _ i)=true; rw[hs,hq]; rfl);have hb:=(hms.2 a (List.mem_of_getElem? hm)).most;rw[e,hc];exact⟨by omega,fun _=>by omega⟩
end
section
variable {ms:List Mb} {ask:Nat->Bool} {N:Int}
theorem RI0(hs:zxk ms ask)(hN:0<=N/\N<=1000000):RI ms ask N fun _=>0:=⟨hs,hN,fun _ _=>by omega,fun _ _=>rfl⟩
theorem zxF(hms:zxg ms)(hs:zxk ms ask)(hN:0<=N/\N<=1000000):S5 (zxz ms ask N).1+(zxz ms ask N).2=N/\0<=(zxz ms ask N).2:=by
 have:=zxA ask;have h:=zxC hms 6 ask N (fun _=>0) (RI0 hs hN) (by omega);rw[zwB] at h;exact⟨by rw[Int.add_zero] at h; exact h.1,h.2⟩
theorem zxG(hms:zxg ms)(hs:zxk ms ask)(hN:0<=N/\N<=1000000){i:Nat}(hi:i < 5)(ha:ask i=false):(zxz ms ask N).1 i=0:=by
 have:=zxA ask;exact zxD hms 6 ask N (fun _=>0) (RI0 hs hN) (by omega) i hi ha
theorem zxH(hms:zxg ms)(hs:zxk ms ask)(hN:0<=N/\N<=1000000){i:Nat}{a:Mb}(hi:i < 5)(hm:ms[i]? = some a)(ha:ask i=true):(0<=(zxz ms ask N).1 i/\(zxz ms ask N).1 i<=a.Most)/\(0 < (zxz ms ask N).2->(zxz ms ask N).1 i=a.Most):=by
 have:=zxA ask;exact zxE hms 6 ask N (fun _=>0) (RI0 hs hN) (by omega) i a hi hm ha
theorem zxI(hms:zxg ms)(hs:zxk ms ask)(hN:0<=N/\N<=1000000){i:Nat}(hi:i < 5):0<=(zxz ms ask N).1 i/\(zxz ms ask N).1 i<=100000:=by
 cases ha:ask i with
 | false=>rw[zxG hms hs hN hi ha]; omega
 | true=>
  have hm:=List.getElem?_eq_getElem (hs i ha);have h:=zxH hms hs hN hi hm ha;have hb:=(hms.2 _ (List.getElem_mem (hs i ha))).most
  omega
end
end
end Go.Proofs.Ytkclhciahokifaa

namespace Go.Proofs.Ytkclhciahokifaa
open _root_.Go.Proofs.Try
open Go.Abs
set_option maxRecDepth 100000
noncomputable section
def RgV(r:Rg):Prop:=0<=r.Lo/\r.Lo<=r.Hi/\r.Hi<=100000/\r.Hi - r.Lo<=30
instance (r:Rg):Decidable (RgV r):=by unfold RgV; infer_instance
structure zxJ (s:Soc):Prop where
 pos:0 < s.Members.length
 ms:∀a∈s.Members,zxf a
 ls:∀r∈s.Losses,RgV r
 tr:RgV s.Treaty
 rs:0<=s.Reserve/\s.Reserve<=100000
structure zxK (s:Soc):Prop where
 m5:s.Members.length<=5
 l3:s.Losses.length<=3
 full:zxJ s
theorem zxK.msOk{s:Soc}(h:zxK s):zxg s.Members:=⟨h.m5,h.full.ms⟩
open Classical in
def zxL(s:Soc):Int:=if 5 < s.Members.length\/3 < s.Losses.length then 3 else if zxJ s then 0 else 1
theorem zxM{s:Soc}:zxL s=0↔zxK s:=by
 unfold zxL
 by_cases h:5 < s.Members.length\/3 < s.Losses.length
 ·rw[if_pos h]; exact⟨fun h=>by omega,fun h2=>by have:=h2.m5; have:=h2.l3; omega⟩
 ·rw[if_neg h]
  by_cases hf:zxJ s
  ·rw[if_pos hf]; exact⟨fun _=>⟨by omega,by omega,hf⟩,fun _=>rfl⟩
  ·rw[if_neg hf]; exact⟨fun h=>by omega,fun h=>absurd h.full hf⟩
theorem zxN{r:Rg}{n:Int}:Ev (zsB r n) (r.Lo<=n/\n<=r.Hi):=Ev.ite fun _=>Ev.dec Iff.rfl
theorem zxO{n:Int}:Ev (zsC n) (0<=n/\n<=100000):=zxN.ret
theorem zxP{r:Rg}:Ev (zsD r) (RgV r):=by
 refine(zxO.and fun h1=>zxO.and fun h2=>Ev.ite (K:=r.Hi - r.Lo<=30) fun _=>Ev.gd (fI (by omega)) (Ev.dec Iff.rfl)).imp ?_;unfold RgV; omega
theorem zxQ{a:Mb}:Ev (zsE ({ su:=({ Lo:=(1:Int),Hi:=(1000:Int) }:Rg),cl:=({ Lo:=(1:Int),Hi:=(10:Int) }:Rg),mo:=({ Lo:=(0:Int),Hi:=(100000:Int) }:Rg) }:Lm) a) (zxf a):=
 (zxN.and fun _=>zxN.and fun _=>zxN.ret).imp ⟨fun⟨h1,h2,h3⟩=>⟨h1,h2,h3⟩,fun⟨h1,h2,h3⟩=>⟨h1,h2,h3⟩⟩
theorem gM{l:List Mb}{p:Mb->Option Bool}:∀{d:Nat} {x:Int},zsG l p d x=gIdx l p d x
 | 0,_=>rfl
 | d+1,x=>by unfold zsG gIdx; simp only[gM]
theorem gR{l:List Rg}{p:Rg->Option Bool}:∀{d:Nat} {x:Int},zsL l p d x=gIdx l p d x
 | 0,_=>rfl
 | d+1,x=>by unfold zsL gIdx; simp only[gR]
theorem gI{l:List Int}{p:Int->Option Bool}:∀{d:Nat} {x:Int},zsQ l p d x=gIdx l p d x
 | 0,_=>rfl
 | d+1,x=>by unfold zsQ gIdx; simp only[gI]
theorem zxR{s:Soc}(h1:zrP s.Members)(h2:zrP s.Losses):Ev (zsX s) (zxJ s):=by
 refine(Ev.ite fun _=>(Ev.each (q:=zxf) (fun a _=>zxQ) h1.lt gM).and fun _=>(Ev.each (q:=RgV) (fun a _=>zxP) h2.lt gR).and fun _=>zxP.and fun _=>zxO.ret).imp ?_;exact⟨fun⟨a,b,c,d,e⟩=>⟨by omega,b,c,d,e⟩,fun⟨a,b,c,d,e⟩=>⟨by omega,b,c,d,e⟩⟩
theorem zxS{s:Soc}:Ev (zsW s) (5 < s.Members.length\/3 < s.Losses.length):=by
 unfold zsW
 by_cases h:(5:Int) < s.Members.length
 ·rw[if_pos h]; exact Ev.tt (by omega)
 ·rw[if_neg h]; exact Ev.dec (by omega)
theorem zxT{s:Soc}(h1:zrP s.Members)(h2:zrP s.Losses):zsY s=some (zxL s):=by
 unfold zsY zxL;refine zxS.pick (fun h=>?_) fun h=>?_
 ·rw[if_pos rfl,if_pos h]
 ·rw[if_neg (by decide),if_neg h];refine(zxR h1 h2).pick (fun h=>?_) fun h=>?_
  ·rw[if_pos rfl,if_pos h]
  ·rw[if_neg (by decide),if_neg h]
theorem zxU{n lo hi:Int}:Ev (zsd n lo hi) (lo<=n/\n<=hi):=Ev.ite fun _=>Ev.dec Iff.rfl
theorem zxV{r:Rg}:Ev (zse r) (RgV r):=Ev.ite fun h1=>Ev.ite fun h2=>Ev.ite fun h3=>Ev.gd (fI (by omega)) (Ev.dec Iff.rfl)
theorem zxW{s:Soc}(h1:s.Members.length<=8)(h2:s.Losses.length<=6):zsg s=some (zxL s):=by
 unfold zsg zxL
 by_cases c1:5 < s.Members.length
 ·rw[if_pos (by omega),if_pos (.inl c1)]
 rw[if_neg (by omega)]
 by_cases c2:3 < s.Losses.length
 ·rw[if_pos (by omega),if_pos (.inr c2)]
 rw[if_neg (show ¬ (3:Int) < s.Losses.length by omega),if_neg (show ¬ (5 < s.Members.length\/3 < s.Losses.length) by omega)]
 by_cases c3:s.Members.length=0
 ·rw[if_pos (by omega),if_neg fun h:zxJ s=>by have:=h.pos; omega]
 rw[if_neg (show ¬ (s.Members.length:Int)=0 by omega)]
 refine zxV.pick (fun c4=>?_) fun c4=>by rw[if_neg (by decide),if_neg fun h=>c4 h.tr]
 rw[if_pos rfl]
 refine zxU.pick (fun c5=>?_) fun c5=>by rw[if_neg (by decide),if_neg fun h=>c5 h.rs]
 rw[if_pos rfl]
 have kL:=zrO (l:=s.Losses) (F:=fun d x=>prFault_L1 s d x) (ok:=RgV) (bad:=some 1) (fin:=some 0) (fun d k a hk=>by
  have hkl:=(List.getElem?_eq_some_iff.1 hk).1
  show(RgV a->prFault_L1 s (d+1) (k:Int)=_)/\_
  rw[prFault_L1,if_pos (by omega),zrF hk,obs]
  exact Ev.step zxV (by rw[if_pos rfl,zqr (fI (by omega))]) (by rw[if_neg (by decide)])) (fun d=>by show prFault_L1 s (d+1) _=_; rw[prFault_L1,if_neg (Int.lt_irrefl _)]) (d:=1000000) (by omega)
 have kM:=zrO (l:=s.Members) (F:=fun d x=>zsf s d 0 x) (ok:=zxf) (bad:=some 1) (fin:=prFault_L1 s 1000000 0) (fun d k a hk=>by
  have hkl:=(List.getElem?_eq_some_iff.1 hk).1
  show(zxf a->zsf s (d+1) 0 (k:Int)=_)/\_
  rw[zsf,if_pos (by omega),zrF hk,obs];refine⟨fun h=>?_,fun h=>?_⟩
  ·rw[zxU.some_of h.sum,obs,if_pos rfl,zxU.some_of h.cls,obs,if_pos rfl,zxU.some_of h.most,obs,if_pos rfl,zqr (fI (by omega))]
  ·refine zxU.pick (fun q1=>?_) fun q1=>by rw[if_neg (by decide)]
   rw[if_pos rfl]
   refine zxU.pick (fun q2=>?_) fun q2=>by rw[if_neg (by decide)]
   rw[if_pos rfl]
   refine zxU.pick (fun q3=>absurd ⟨q1,q2,q3⟩ h) fun q3=>by rw[if_neg (by decide)]) (fun d=>by show zsf s (d+1) 0 _=_; rw[zsf,if_neg (Int.lt_irrefl _)]) (d:=1000000) (by omega)
 by_cases c6:∀a∈s.Members,zxf a
 ·refine(kM.1 c6).trans ?_
  by_cases c7:∀r∈s.Losses,RgV r
  ·refine(kL.1 c7).trans ?_;rw[if_pos ⟨by omega,c6,c7,c4,c5⟩]
  ·refine(kL.2 c7).trans ?_;rw[if_neg fun h=>c7 h.ls]
 ·refine(kM.2 c6).trans ?_;rw[if_neg fun h=>c6 h.ms]
theorem zxX{s:Soc}(h1:s.Members.length<=8)(h2:s.Losses.length<=6):zt3 s=some (zxL s):=by unfold zt3; rw[zxW h1 h2]; rfl
def zxY(n:Nat)(out:List Int):Nat->Bool:=fun i=>decide (i < n) && !decide ((i:Int)∈out)
def zxZ(s:Soc)(out:List Int):Wk:={ s:=s,asked:=mkF (zxY s.Members.length out) }
theorem zx0(ms:List Mb)(out:List Int):zxk ms (zxY ms.length out):=fun i h=>by
 unfold zxY at h
 simp at h; exact h.1
theorem zx1{l:List Int}{v:Int}(hl:zrP l):∀d (k:Nat),k<=l.length->l.length - k < d->∃r,zs1 l v d (k:Int)=some r/\(0<=r↔v∈l.drop k)
 | 0,k,_,h=>by omega
 | d+1,k,hk,h=>by
  unfold zrP at hl;unfold zs1
  by_cases hkn:k=l.length
  ·subst hkn; rw[if_neg (Int.lt_irrefl _)]; exact⟨_,rfl,by simp⟩
  ·have hlt:k < l.length:=by omega
   rw[if_pos (by omega),zrF (List.getElem?_eq_getElem hlt),obs];have hd:=List.drop_eq_getElem_cons hlt
   by_cases hv:v=l[k]
   ·rw[if_pos hv]; exact⟨_,rfl,⟨fun _=>by rw[hd,<- hv]; exact List.mem_cons_self ..,fun _=>by omega⟩⟩
   ·rw[if_neg hv,zqr (fI (by omega)),show(k:Int)+1=((k+1:Nat):Int) by omega];obtain⟨r,h1,h2⟩:=zx1 hl d (k+1) (by omega) (by omega);exact⟨r,h1,h2.trans ⟨fun h=>by rw[hd]; exact List.mem_cons_of_mem _ h,fun h=>by rw[hd] at h; exact(List.mem_cons.1 h).resolve_left hv⟩⟩
theorem zx2{l:List Int}{v:Int}(hl:zrP l):zs3 l v=some (decide (v∈l)):=by
 unfold zs3 zs2;obtain⟨r,h1,h2⟩:=zx1 (v:=v) hl (l.length+1) 0 (Nat.zero_le _) (by omega);have h1:zs1 l v (l.length+1) 0=some r:=h1;rw[h1,obs];exact congrArg some (decide_eq_decide.2 (h2.trans (by rw[List.drop_zero])))
theorem zx3{s:Soc}{out:List Int}(hl:zrP out)(h5:s.Members.length<=5):zs5 s out=some (zxZ s out):=by
 unfold zs5;have key:=zwh (n:=s.Members.length) (fun d st x=>zs4 s out d s.Treaty.Lo s.Treaty.Hi s.Reserve (st 0) (st 1) (st 2) (st 3) (st 4) x) (stF (zxY s.Members.length out) fun _=>false) (fin:=some (zxZ s out)) (fun d k hk=>?_) (fun d=>?_) (s.Members.length+1) 0 (by omega) (by omega)
 ·rw[zwl] at key; exact key
 ·show zs4 s out (d+1) _ _ _ _ _ _ _ _ _=_
  rw[zs4,if_pos (by omega),zx2 hl,obs,zqr (by omega),zqr (fI (by omega))];have e:=zwn (zxY s.Members.length out) (fun _=>false) k
  have e0:(!decide ((k:Int)∈out))=zxY s.Members.length out k:=by unfold zxY; rw[decide_eq_true hk,Bool.true_and]
  rw[e0,e 0,e 1,e 2,e 3,e 4]
 ·show zs4 s out (d+1) _ _ _ _ _ _ _ _ _=_
  rw[zs4,if_neg (by omega)]
  have e1:∀j,stF (zxY s.Members.length out) (fun _=>false) s.Members.length j=zxY s.Members.length out j:=fun j=>by
   unfold stF
   by_cases h:j < s.Members.length
   ·rw[if_pos h]
   ·rw[if_neg h]; unfold zxY; rw[decide_eq_false h]; rfl
  rw[e1 0,e1 1,e1 2,e1 3,e1 4]; rfl
def zx4(n:Nat)(l:List Int):Prop:=l.Pairwise (· < ·)/\∀v∈l,0<=v/\v<=(n:Int) - 1
theorem zx5{l:List Int}:(∀j,0 < j->j < l.length->∀a b,l[j - 1]? = some a->l[j]? = some b->a < b)↔l.Pairwise (· < ·):=by
 constructor
 ·intro h;rw[List.pairwise_iff_getElem];intro i j hi hj hij
  have key:∀d,(hd:i+d+1 < l.length)->l[i] < l[i+d+1]:=fun d=>by
   induction d with
   | zero=>intro hd; exact h (i+1) (by omega) hd _ _ (List.getElem?_eq_getElem hi) (List.getElem?_eq_getElem hd)
   | succ d ih=>
    intro hd;have h1:=ih (by omega);have h2:=h (i+(d+1)+1) (by omega) hd _ _ (List.getElem?_eq_getElem (show i+d+1 < l.length by omega)) (List.getElem?_eq_getElem hd);exact Int.lt_trans h1 h2
  have:=key (j - i - 1) (by omega)
  simpa [show i+(j - i - 1)+1=j by omega] using this
 ·intro h j h0 hj a b ha hb;obtain⟨h1,rfl⟩:=List.getElem?_eq_some_iff.1 ha;obtain⟨h2,rfl⟩:=List.getElem?_eq_some_iff.1 hb;exact List.pairwise_iff_getElem.1 h (j - 1) j h1 h2 (by omega)
theorem zx6{l:List Int}(hl:zrP l):Ev (zsV l) (l.Pairwise (· < ·)):=by
 unfold zrP at hl;unfold zsV
 by_cases h0:l.length=0
 ·have:l=[]:=List.eq_nil_of_length_eq_zero h0;subst this
  show Ev (zsU [] 1 1) _
  rw[zsU,if_neg (by decide)];exact Ev.tt .nil
 ·have e:∃n,l.length=n+1:=⟨l.length - 1,by omega⟩;obtain⟨n,hn⟩:=e
  have key:=zrJ (n:=n) (F:=fun d x=>zsU l d (x+1)) (ok:=fun j=>∀a b,l[j]? = some a->l[j+1]? = some b->a < b) (bad:=some false) (fin:=some true) (fun d k hk=>by
   show(_->zsU l (d+1) ((k:Int)+1)=_)/\_
   have ha:=List.getElem?_eq_getElem (show k < l.length by omega);have hb:=List.getElem?_eq_getElem (show k+1 < l.length by omega);rw[zsU,if_pos (by omega),zrG (show(k:Int)+1=((k+1:Nat):Int) by omega) (show k+1 < l.length by omega),obs,zqr (fI (by omega)),zrG (show(k:Int)+1 - 1=(k:Int) by omega) (show k < l.length by omega),obs];refine⟨fun h=>?_,fun h=>?_⟩
   ·have:=h _ _ ha hb;rw[if_neg (by omega),zqr (fI (by omega))]
   ·rw[if_pos]
    apply Classical.byContradiction
    intro h2
    exact h fun a b h3 h4=>by rw[ha] at h3; rw[hb] at h4; cases h3; cases h4; omega) (fun d=>by show zsU l (d+1) _=_; rw[zsU,if_neg (by omega)]) (d:=((l.length:Int) - 1).toNat+1) (by omega)
  have e0:zsU l (((l.length:Int) - 1).toNat+1) (0+1)=zsU l (((l.length:Int) - 1).toNat+1) 1:=rfl
  have hiff:(∀j,j < n->∀a b,l[j]? = some a->l[j+1]? = some b->a < b)↔l.Pairwise (· < ·):=by
   rw[<- zx5]
   constructor
   ·intro h j h0 hj a b h1 h2;have:=h (j - 1) (by omega) a b h1;rw[show j - 1+1=j by omega] at this;exact this h2
   ·intro h j hj a b h1 h2;exact h (j+1) (by omega) (by omega) a b (by rw[Nat.add_sub_cancel]; exact h1) h2
  by_cases hq:∀j,j < n->∀a b,l[j]? = some a->l[j+1]? = some b->a < b
  ·have:=key.1 hq;exact⟨true,this,⟨fun _=>hiff.1 hq,fun _=>rfl⟩⟩
  ·have:=key.2 hq;exact⟨false,this,⟨fun h=>(by cases h),fun h=>absurd (hiff.2 h) hq⟩⟩
theorem zx7{s:Soc}{l:List Int}(hl:zrP l)(hm:zrP s.Members):Ev (zs0 s l) (zx4 s.Members.length l):=by
 unfold zrP at hm;refine((zx6 hl).and fun _=>(Ev.each (q:=fun v=>0<=v/\v<=(s.Members.length:Int) - 1) (fun v _=>?_) hl.lt gI).ret).imp Iff.rfl;exact Ev.gd (fI (by omega)) zxN.ret
theorem zx8{s:Soc}{out:List Int}(hs:zxK s)(hl:zrP out)(ho:zx4 s.Members.length out):zs6 s out=some (zxZ s out,0):=by
 have h1:=hs.m5; have h2:=hs.l3;unfold zs6;rw[zxT (by unfold zrP; omega) (by unfold zrP; omega),obs,if_pos (zxM.2 hs),(zx7 hl (by unfold zrP; omega)).some_of ho,obs,if_pos rfl,zx3 hl h1,obs]
theorem zx9(n:Nat):zx4 n []:=⟨.nil,fun _ h=>by cases h⟩
def zya(lo hi:Int):List Int:=(List.range (hi - lo+1).toNat).map fun(k:Nat)=>lo+(k:Int)
theorem zyb{lo hi x:Int}:x∈zya lo hi↔lo<=x/\x<=hi:=by
 unfold zya;rw[List.mem_map]
 constructor
 ·rintro⟨k,h1,rfl⟩
  have:=List.mem_range.1 h1
  omega
 ·intro h; exact⟨(x - lo).toNat,List.mem_range.2 (by omega),by omega⟩
def zyc(g:Rg->Int)(l:List Rg):Int:=zwy (l.map g)
theorem zyd{l:List Rg}(h:∀r∈l,RgV r):0<=zyc (·.Lo) l/\zyc (·.Lo) l<=zyc (·.Hi) l/\zyc (·.Hi) l<=100000 * l.length/\zyc (·.Hi) l<=zyc (·.Lo) l+30 * l.length:=by
 induction l with
 | nil=>exact⟨Int.le_refl _,Int.le_refl _,Int.le_refl _,Int.le_refl _⟩
 | cons r l ih=>
  have ih:=ih fun r hr=>h r (List.mem_cons_of_mem _ hr);have hr:=h r (List.mem_cons_self ..);unfold RgV at hr;have e1:zyc (·.Lo) (r::l)=r.Lo+zyc (·.Lo) l:=rfl;have e2:zyc (·.Hi) (r::l)=r.Hi+zyc (·.Hi) l:=rfl;rw[e1,e2,List.length_cons]
  omega
def loN(s:Soc):Int:=max 0 (zyc (·.Lo) s.Losses - s.Reserve - s.Treaty.Hi)
def hiN(s:Soc):Int:=max 0 (zyc (·.Hi) s.Losses - s.Reserve - s.Treaty.Lo)
theorem zye{s:Soc}(hs:zxK s):0<=loN s/\loN s<=hiN s/\hiN s<=300000/\hiN s<=loN s+120:=by
 have h:=zyd hs.full.ls;have h1:=hs.l3;have h2:=hs.full.tr;have h3:=hs.full.rs;unfold RgV at h2;unfold loN hiN
 omega
theorem zyf{g:Rg->Int}{l:List Rg}{k:Nat}{a:Rg}(h:l[k]? = some a):zyc g (l.take (k+1))=zyc g (l.take k)+g a:=by
 unfold zyc;rw[List.take_add_one,h,List.map_append,zwz]
 show _+(g a+0)=_; omega
theorem zyg{s:Soc}{a b:Int}(h:0<=a/\a<=1000000)(hb:0<=b/\b<=1000000)(hr:0<=s.Reserve/\s.Reserve<=100000):zs7 s a b=some (max 0 (a - s.Reserve - b)):=by
 unfold zs7;rw[zqr (fI (by omega)),zqr (fI (by omega))]
theorem zyh{hi:Int}(hh:hi<=1000000):∀(d:Nat) (x:Int),0<=x->(hi - x+1).toNat < d->zs8 hi d x=some (zya x hi)
 | 0,_,_,h=>by omega
 | d+1,x,hx,h=>by
  rw[zs8]
  by_cases hc:x<=hi
  ·rw[if_pos hc,zqr (fI (by omega)),zyh hh d (x+1) (by omega) (by omega),obs]
   have e:(hi - x+1).toNat=(hi - (x+1)+1).toNat+1:=by omega
   have e2:zya x hi=x::zya (x+1) hi:=by
    unfold zya;rw[e,List.range_succ_eq_map,List.map_cons,List.map_map];refine congr (congrArg List.cons (by show x+((0:Nat):Int)=x; omega)) (List.map_congr_left fun k _=>?_)
    show x+((k+1:Nat):Int)=x+1+(k:Int)
    omega
   rw[e2]
  ·rw[if_neg hc]
   have e:(hi - x+1).toNat=0:=by omega
   unfold zya; rw[e]; rfl
theorem zyi{s:Soc}(hs:zxK s):ztb s=some (zya (loN s) (hiN s)):=by
 have hb:=zyd hs.full.ls;have hn:=zye hs;have h3:=hs.l3;have htr:=hs.full.tr;unfold RgV at htr;have hrs:=hs.full.rs
 have e:zta s=some (zya (loN s) (hiN s)):=by
  unfold zta;refine zwh (n:=s.Losses.length) (fun d (st:Int × Int) x=>zs9 s d st.1 st.2 x) (fun k=>(zyc (·.Lo) (s.Losses.take k),zyc (·.Hi) (s.Losses.take k))) (fun d k hk=>?_) (fun d=>?_) (s.Losses.length+1) 0 (by omega) (by omega)
  ·have hg:=List.getElem?_eq_getElem hk;have h1:=zyd (l:=s.Losses.take k) fun r hr=>hs.full.ls r (List.mem_of_mem_take hr);have h2:=hs.full.ls _ (List.getElem_mem hk)
   have h4:(s.Losses.take k).length<=3:=by rw[List.length_take]; omega
   unfold RgV at h2
   show zs9 s (d+1) (zyc _ _) (zyc _ _) (k:Int)=zs9 s d (zyc _ _) (zyc _ _) _
   rw[zs9,if_pos (by omega),zrF hg,obs,zqr (fI (by omega)),zqr (fI (by omega)),zqr (fI (by omega)),zyf hg,zyf hg]
  ·show zs9 s (d+1) (zyc _ _) (zyc _ _) _=_
   rw[zs9,if_neg (Int.lt_irrefl _),List.take_length,zyg (by omega) (by omega) hrs,obs,zyg (by omega) (by omega) hrs,obs];exact zyh (by unfold hiN at hn; omega) _ _ (by omega) (by omega)
 unfold ztb;rw[e]; rfl
end
end Go.Proofs.Ytkclhciahokifaa

namespace Go.Proofs.Ytkclhciahokifaa
open _root_.Go.Proofs.Try
open Go.Abs
set_option maxRecDepth 100000
noncomputable section
def Inc(n fr:Nat)(T:List Int):Prop:=T.Pairwise (· < ·)/\∀v∈T,(fr:Int)<=v/\v < n
theorem Inc.cons{n fr:Nat}{x:Int}{T:List Int}:Inc n fr (x::T)↔((fr:Int)<=x/\x < n)/\Inc n (x+1).toNat T:=by
 unfold Inc;rw[List.pairwise_cons]
 constructor
 ·rintro⟨⟨h1,h2⟩,h3⟩
  have hx:=h3 x (List.mem_cons_self ..);exact⟨hx,h2,fun v hv=>by have:=h1 v hv; have:=h3 v (List.mem_cons_of_mem _ hv); omega⟩
 ·rintro⟨hx,h2,h3⟩
  refine⟨⟨fun v hv=>by have:=h3 v hv; omega,h2⟩,fun v hv=>?_⟩
  rcases List.mem_cons.1 hv with rfl | hv
  ·exact hx
  ·have:=h3 v hv; omega
theorem zyj{n:Nat}{D:List Int}:∀{d:Nat} {pre:List Int} {fr:Nat},D∈zru n d pre fr↔∃T,D=pre++T/\T.length=d/\Inc n fr T
 | 0,pre,fr=>by
  show D∈[pre]↔_
  rw[List.mem_singleton]
  constructor
  ·rintro rfl; exact⟨[],by simp,rfl,.nil,fun v hv=>by cases hv⟩
  ·rintro⟨T,h1,h2,_⟩
   rw[List.eq_nil_of_length_eq_zero h2,List.append_nil] at h1; exact h1
 | d+1,pre,fr=>by
  show D∈zrt (fun x=>zru n d (pre++[(x:Int)]) (x+1)) (n - fr) fr↔_
  rw[zuA]
  constructor
  ·rintro⟨x,h1,h2,h3⟩
   obtain⟨T,h4,h5,h6⟩:=zyj.1 h3;refine⟨(x:Int)::T,by rw[h4]; simp,by simp[h5],Inc.cons.2 ⟨by omega,?_⟩⟩;rw[show((x:Int)+1).toNat=x+1 by omega]; exact h6
  ·rintro⟨T,h1,h2,h3⟩
   cases T with
   | nil=>simp at h2
   | cons v T=>
    obtain⟨h4,h5⟩:=Inc.cons.1 h3;refine⟨v.toNat,by omega,by omega,zyj.2 ⟨T,?_,by simpa using h2,?_⟩⟩
    ·rw[show((v.toNat:Nat):Int)=v by omega,h1]; simp
    ·rw[show v.toNat+1=(v+1).toNat by omega]; exact h5
theorem zyk{n:Nat}:∀{T:List Int} {fr:Nat},Inc n fr T->T.length<=n - fr
 | [],_,_=>Nat.zero_le _
 | v::T,fr,h=>by
  obtain⟨h1,h2⟩:=Inc.cons.1 h;have:=zyk h2
  simp only[List.length_cons]
  omega
theorem zyl{n:Nat}{D:List Int}:D∈zoh n↔Inc n 0 D:=by
 unfold zoh;rw[zuA]
 constructor
 ·rintro⟨s,_,_,h⟩
  obtain⟨T,h1,_,h2⟩:=zyj.1 h;rw[h1]; exact h2
 ·intro h;have:=zyk h;exact⟨D.length,Nat.zero_le _,by omega,zyj.2 ⟨D,rfl,rfl,h⟩⟩
def bef:List Int->List Int->Bool
 | [],[]=>false
 | [],_::_=>true
 | _::_,[]=>false
 | x::a,y::b=>if x=y then bef a b else decide (x < y)
def shB(a b:List Int):Bool:=decide (a.length < b.length) || (decide (a.length=b.length) && bef a b)
theorem zym:∀A:List Int,bef A A=false
 | []=>rfl
 | x::A=>by show(if x=x then bef A A else _)=_; rw[if_pos rfl,zym A]
theorem zyn:∀A B:List Int,A=B\/bef A B=true\/bef B A=true
 | [],[]=>.inl rfl
 | [],_::_=>.inr (.inl rfl)
 | _::_,[]=>.inr (.inr rfl)
 | x::A,y::B=>by
  show x::A=y::B\/(if x=y then bef A B else decide (x < y))=true\/(if y=x then bef B A else decide (y < x))=true
  by_cases hxy:x=y
  ·subst hxy;rw[if_pos rfl,if_pos rfl]
   rcases zyn A B with h | h | h
   ·exact .inl (by rw[h])
   ·exact .inr (.inl h)
   ·exact .inr (.inr h)
  ·rw[if_neg hxy,if_neg fun h=>hxy h.symm]
   by_cases h:x < y
   ·exact .inr (.inl (decide_eq_true h))
   ·exact .inr (.inr (decide_eq_true (by omega)))
theorem zyo{l:List Int}(h:l ≠ [])(hl:l.length<=1048577):ztD l=some (zrR l):=by
 unfold ztD
 cases l with
 | nil=>exact absurd rfl h
 | cons x l=>
  rw[if_neg (by rw[List.length_cons]; omega),zrH rfl,obs];refine(zrQ (l:=x::l) (fun s a=>min s a) (fun d s k=>ztC (x::l) d s k) (fun s=>some s) (fun d k s a hk=>?_) (fun d s=>?_) _ 0 x (Nat.zero_le _) (by omega)).trans ?_
  ·have hkl:=(List.getElem?_eq_some_iff.1 hk).1
   show ztC (x::l) (d+1) s (k:Int)=_
   rw[ztC,if_pos (by omega),zrF hk,obs]
   by_cases hc:a < s
   ·rw[if_pos hc,zqr (fI (by omega)),Int.min_eq_right (by omega)]
   ·rw[if_neg hc,zqr (fI (by omega)),Int.min_eq_left (by omega)]
  ·show ztC (x::l) (d+1) s _=_
   rw[ztC,if_neg (Int.lt_irrefl _)]
  ·rw[List.drop_zero]
   show some (l.foldl min (min x x))=_
   rw[Int.min_self]; rfl
theorem zyp{l:List Int}(h:l ≠ [])(hl:l.length<=1048577):ztF l=some (zrS l):=by
 unfold ztF
 cases l with
 | nil=>exact absurd rfl h
 | cons x l=>
  rw[if_neg (by rw[List.length_cons]; omega),zrH rfl,obs];refine(zrQ (l:=x::l) (fun s a=>max s a) (fun d s k=>ztE (x::l) d s k) (fun s=>some s) (fun d k s a hk=>?_) (fun d s=>?_) _ 1 x (by rw[List.length_cons]; omega) (by rw[List.length_cons]; omega)).trans ?_
  ·have hkl:=(List.getElem?_eq_some_iff.1 hk).1
   show ztE (x::l) (d+1) s (k:Int)=_
   rw[ztE,if_pos (by omega),zrF hk,obs,zqr (fI (by omega))]
  ·show ztE (x::l) (d+1) s _=_
   rw[ztE,if_neg (Int.lt_irrefl _)]
  ·rfl
theorem zyq{l:List Int}(h:l ≠ []):zrR l∈l/\∀y∈l,zrR l<=y:=by
 cases l with
 | nil=>exact absurd rfl h
 | cons x l=>
  obtain⟨h1,h2,h3⟩:=zrT l x;refine⟨?_,fun y hy=>?_⟩
  ·rcases h1 with h1 | h1
   ·show l.foldl min x∈_; rw[h1]; exact List.mem_cons_self ..
   ·exact List.mem_cons_of_mem _ h1
  ·rcases List.mem_cons.1 hy with rfl | hy
   ·exact h2
   ·exact h3 y hy
theorem zyr{l:List Int}(h:l ≠ []):zrS l∈l/\∀y∈l,y<=zrS l:=by
 cases l with
 | nil=>exact absurd rfl h
 | cons x l=>
  obtain⟨h1,h2,h3⟩:=zrU l x;refine⟨?_,fun y hy=>?_⟩
  ·rcases h1 with h1 | h1
   ·show l.foldl max x∈_; rw[h1]; exact List.mem_cons_self ..
   ·exact List.mem_cons_of_mem _ h1
  ·rcases List.mem_cons.1 hy with rfl | hy
   ·exact h2
   ·exact h3 y hy
def bnd(s:Soc)(g:Int->Int):Rg:={ Lo:=zrR ((zya (loN s) (hiN s)).map g),Hi:=zrS ((zya (loN s) (hiN s)).map g) }
def zys(s:Soc)(out:List Int)(N:Int):Oc:={ need:=N,calls:=mk5 (zxz s.Members (zxY s.Members.length out) N).1 }
theorem zyt{s:Soc}(hs:zxK s):(zya (loN s) (hiN s)).length<=121:=by
 have:=zye hs;unfold zya; rw[List.length_map,List.length_range]; omega
theorem zyu{s:Soc}(hs:zxK s):zya (loN s) (hiN s) ≠ []:=fun h=>by
 have:=zye hs;have:loN s∈zya (loN s) (hiN s):=zyb.2 (by omega)
 rw[h] at this; cases this
theorem zyv{s:Soc}(hs:zxK s)(g:Int->Int):(∃N,(loN s<=N/\N<=hiN s)/\g N=(bnd s g).Lo)/\(∃N,(loN s<=N/\N<=hiN s)/\g N=(bnd s g).Hi)/\∀N,loN s<=N/\N<=hiN s->(bnd s g).Lo<=g N/\g N<=(bnd s g).Hi:=by
 have hne:(zya (loN s) (hiN s)).map g ≠ []:=fun h=>zyu hs (List.map_eq_nil_iff.1 h);obtain⟨a1,a2⟩:=zyq hne;obtain⟨b1,b2⟩:=zyr hne;obtain⟨x,hx,ex⟩:=List.mem_map.1 a1;obtain⟨y,hy,ey⟩:=List.mem_map.1 b1;exact⟨⟨x,zyb.1 hx,ex⟩,⟨y,zyb.1 hy,ey⟩,fun N hN=>⟨a2 _ (List.mem_map.2 ⟨N,zyb.2 hN,rfl⟩),b2 _ (List.mem_map.2 ⟨N,zyb.2 hN,rfl⟩)⟩⟩
theorem zyw{s:Soc}(hs:zxK s):bnd s (fun N=>N)={ Lo:=loN s,Hi:=hiN s }:=by
 obtain⟨⟨x,hx,ex⟩,⟨y,hy,ey⟩,h⟩:=zyv hs fun N=>N;have hb:=zye hs;have h1:=(h (loN s) ⟨Int.le_refl _,hb.2.1⟩).1;have h2:=(h (hiN s) ⟨hb.2.1,Int.le_refl _⟩).2
 have e1:(bnd s fun N=>N).Lo=loN s:=by omega
 have e2:(bnd s fun N=>N).Hi=hiN s:=by omega
 revert e1 e2
 generalize bnd s (fun N=>N)=r;intro e1 e2
 cases r
 exact congr (congrArg Rg.mk e1) e2
theorem zyx{s:Soc}(hs:zxK s)(out:List Int){N:Int}(hN:0<=N/\N<=1000000):ztz (zxZ s out) N=some (zys s out N):=zxB (w:=zxZ s out) hs.msOk rfl (zx0 s.Members out) hN
theorem zyy{s:Soc}(hs:zxK s){out:List Int}{q:Qu}{g:Int->Int}(hg:∀N,loN s<=N->N<=hiN s->q.ask (zys s out N)=some (g N)) :
  ∀(L:List Int) (acc:List Int),(∀N∈L,loN s<=N/\N<=hiN s)->acc.length+L.length<=1000->acc++L.map g ≠ []->ztG (zxZ s out) q L acc=some { Lo:=zrR (acc++L.map g),Hi:=zrS (acc++L.map g) }
 | [],acc,_,hl,hne=>by
  rw[List.map_nil,List.append_nil] at hne ⊢;rw[ztG,zyo hne (by omega),obs,zyp hne (by omega),obs]
 | N::L,acc,hN,hl,hne=>by
  have h1:=hN N (List.mem_cons_self ..);have hb:=zye hs;rw[List.length_cons] at hl;rw[ztG,zyx hs out (by omega),obs,hg N h1.1 h1.2,obs,zqr (by omega),zyy hs hg L (acc++[g N]) (fun x hx=>hN x (List.mem_cons_of_mem _ hx)) (by rw[List.length_append]; show acc.length+1+_<=_; omega) (by simp)];rw[List.map_cons,List.append_assoc]; rfl
theorem zyz{s:Soc}(hs:zxK s){out:List Int}{q:Qu}{g:Int->Int}(hg:∀N,loN s<=N->N<=hiN s->q.ask (zys s out N)=some (g N)):ztH (zxZ s out) q=some (bnd s g):=by
 unfold ztH;rw[show(zxZ s out).s=s from rfl,zyi hs,obs];have hl:=zyt hs;exact zyy hs hg _ [] (fun N hN=>zyb.1 hN) (by show 0+_<=_; omega) (fun h=>zyu hs (List.map_eq_nil_iff.1 h))
theorem zyA{s:Soc}(hs:zxK s):ztP s=some ({ Lo:=loN s,Hi:=hiN s },0):=by
 unfold ztP;rw[zx8 hs (Nat.zero_le _) (zx9 _),obs,if_pos rfl,zyz hs (g:=fun N=>N) (fun N _ _=>rfl),obs,zyw hs]
theorem zyB{s:Soc}(hs:zxK s)(out:List Int){N:Int}(hN:0<=N/\N<=1000000):zto (zys s out N)=some (zxz s.Members (zxY s.Members.length out) N).2:=by
 have hsup:=zx0 s.Members out;have h1:=zxF hs.msOk hsup hN
 have hb:Bd 1000000000000 (zxz s.Members (zxY s.Members.length out) N).1:=fun i hi=>by have:=zxI hs.msOk hsup hN hi; omega
 have hb5:=fun i hi=>zxI hs.msOk hsup hN (i:=i) hi;have b0:=hb5 0 (by omega); have b1:=hb5 1 (by omega); have b2:=hb5 2 (by omega); have b3:=hb5 3 (by omega); have b4:=hb5 4 (by omega)
 have hS:0<=S5 (zxz s.Members (zxY s.Members.length out) N).1/\S5 (zxz s.Members (zxY s.Members.length out) N).1<=500000:=by unfold S5; omega
 unfold zto
 show(ztd (mk5 (zxz s.Members (zxY s.Members.length out) N).1)).bind _=_
 rw[zwq hb,obs,zqr (fI (by show -9223372036854775808<=N - S5 _/\N - S5 _ < _; omega))];exact congrArg some (show N - S5 (zxz s.Members (zxY s.Members.length out) N).1=_ by omega)
def zyC(s:Soc)(out:List Int)(N:Int):List Int:=(l5 (zxz s.Members (zxY s.Members.length out) N).1).take s.Members.length
theorem zyD{s:Soc}(out:List Int)(N:Int)(h5:s.Members.length<=5):(zyC s out N).length=s.Members.length:=by
 unfold zyC; rw[List.length_take]; show min _ 5=_; omega
theorem zyE{s:Soc}(hs:zxK s){N:Int}(hN:0<=N/\N<=300000):ztR s N=some (zyC s [] N,(zxz s.Members (zxY s.Members.length []) N).2,0):=by
 have h5:=hs.m5;unfold ztR;rw[zx8 hs (Nat.zero_le _) (zx9 _),obs,if_pos rfl,zxN.some_of hN,obs,if_pos rfl]
 show(ztz (zxZ s []) N).bind _=_
 rw[zyx hs [] (by omega),obs,zqr (by omega)]
 have e:ztQ ((([(zys s [] N).calls.p0,(zys s [] N).calls.p1,(zys s [] N).calls.p2,(zys s [] N).calls.p3,(zys s [] N).calls.p4]:List Int).take (Int.toNat (s.Members.length:Int))).drop (Int.toNat (0:Int)))=some (zyC s [] N):=by
  have hl:=zyD [] N h5
  show ztQ (zyC s [] N)=_
  unfold ztQ;rw[zqr (by rw[hl]; show 0+_<=_; omega)]; rfl
 rw[e,obs,zyB hs [] (by omega),obs]
theorem zyF{s:Soc}(hs:zxK s)(out:List Int)(N:Int){k:Nat}(hk:k < s.Members.length):ztA (zys s out N) (k:Int)=some ((zxz s.Members (zxY s.Members.length out) N).1 k):=by
 have h5:=hs.m5;unfold ztA
 show(idx (l5 (zxz s.Members (zxY s.Members.length out) N).1) (k:Int)).bind _=_
 rw[zwj (by omega),obs]
def zyG(s:Soc)(out:List Int):List Rg:=(List.range s.Members.length).map fun k=>bnd s fun N=>(zxz s.Members (zxY s.Members.length out) N).1 k
theorem zyH{s:Soc}(out:List Int):(zyG s out).length=s.Members.length:=by unfold zyG; rw[List.length_map,List.length_range]
theorem zyI{s:Soc}(out:List Int){k:Nat}(hk:k < s.Members.length):(zyG s out)[k]? = some (bnd s fun N=>(zxz s.Members (zxY s.Members.length out) N).1 k):=by
 unfold zyG; rw[List.getElem?_map,List.getElem?_range hk]; rfl
theorem zyJ{s:Soc}(hs:zxK s){out:List Int}(hl:zrP out)(ho:zx4 s.Members.length out):ztT s out=some (zyG s out,0):=by
 have h5:=hs.m5;unfold ztT;rw[zx8 hs hl ho,obs,if_pos rfl];refine zwh (n:=s.Members.length) (fun d acc x=>ztS s (zxZ s out,0) d acc x) (fun k=>(zyG s out).take k) (fun d k hk=>?_) (fun d=>?_) (s.Members.length+1) 0 (by omega) (by omega)
 ·show ztS s (zxZ s out,0) (d+1) _ _=_
  have hb:ztB (k:Int)=some (fun o=>ztA o (k:Int)):=rfl;rw[ztS,if_pos (by omega),hb,obs]
  show(ztH (zxZ s out) _).bind _=_
  rw[zyz hs (g:=fun N=>(zxz s.Members (zxY s.Members.length out) N).1 k) (fun N _ _=>zyF hs out N hk),obs,zqr (by rw[List.length_take]; omega),zqr (fI (by omega))];rw[List.take_add_one,zyI out hk]; rfl
 ·show ztS s (zxZ s out,0) (d+1) _ _=_
  rw[ztS,if_neg (Int.lt_irrefl _),List.take_of_length_le (by rw[zyH]; exact Nat.le_refl _)]
theorem zyK{s:Soc}(hs:zxK s):ztU s=some (zyG s [],0):=by
 unfold ztU;rw[zyJ hs (Nat.zero_le _) (zx9 _),obs]
def zyL(s:Soc)(out:List Int)(N:Int):Int:=(zxz s.Members (zxY s.Members.length out) N).2
theorem zyM{s:Soc}(hs:zxK s):ztV s=some (bnd s (zyL s []),0):=by
 have hb:=zye hs;unfold ztV;rw[zx8 hs (Nat.zero_le _) (zx9 _),obs,if_pos rfl,zyz hs (g:=zyL s []) (fun N h1 h2=>zyB hs [] (by omega)),obs]
theorem zyN{s:Soc}(hs:zxK s)(out:List Int):ztI (zxZ s out)=some (hiN s):=by
 unfold ztI;rw[zyz hs (g:=fun N=>N) (fun N _ _=>rfl),obs,zyw hs]
theorem zyO(a:Mb){r t:Int}(hu:0<=unN a)(h:r<=t):min (unN a * r / 100) a.Most<=min (unN a * t / 100) a.Most:=by
 have h1:unN a * r<=unN a * t:=Int.mul_le_mul_of_nonneg_left h hu;have h2:=Int.ediv_le_ediv (c:=100) (by omega) h1
 omega
def brN(ms:List Mb)(rate:Int):Int:=zwy (ms.map fun a=>min (unN a * rate / 100) a.Most)
theorem zyP{ms:List Mb}(hm:∀a∈ms,zxf a){r:Int}(hr:0<=r/\r<=10000):0<=brN ms r/\brN ms r<=100000 * ms.length:=by
 induction ms with
 | nil=>exact⟨Int.le_refl _,Int.le_refl _⟩
 | cons a ms ih=>
  have ih:=ih fun a ha=>hm a (List.mem_cons_of_mem _ ha);have ha:=hm a (List.mem_cons_self ..);have hu:=zxh ha;have hmo:=ha.most;have h1:0<=unN a * r / 100:=Int.ediv_nonneg (Int.mul_nonneg (by omega) hr.1) (by omega);have e:brN (a::ms) r=min (unN a * r / 100) a.Most+brN ms r:=rfl;rw[e,List.length_cons]; omega
theorem zyQ{ms:List Mb}(hm:∀a∈ms,zxf a){r t:Int}(h:r<=t):brN ms r<=brN ms t:=by
 induction ms with
 | nil=>exact Int.le_refl _
 | cons a ms ih=>
  have ih:=ih fun a ha=>hm a (List.mem_cons_of_mem _ ha);have h2:=zyO a (by have:=zxh (hm a (List.mem_cons_self ..)); omega) h
  show min _ _+brN ms r<=min _ _+brN ms t
  omega
theorem zyR{ms:List Mb}{r:Int}{k:Nat}{a:Mb}(h:ms[k]? = some a):brN (ms.take (k+1)) r=brN (ms.take k) r+min (unN a * r / 100) a.Most:=by
 unfold brN;rw[List.take_add_one,h,List.map_append,zwz]
 show _+(min (unN a * r / 100) a.Most+0)=_
 rw[Int.add_zero]
theorem zyS{s:Soc}(hs:zxK s)(out:List Int){r:Int}(hr:0<=r/\r<=10000):ztK (zxZ s out) r=some (brN s.Members r):=by
 have h5:=hs.m5;unfold ztK;refine zwh (n:=s.Members.length) (fun d acc x=>ztJ (zxZ s out) r d acc x) (fun k=>brN (s.Members.take k) r) (fun d k hk=>?_) (fun d=>?_) (s.Members.length+1) 0 (by omega) (by omega)
 ·have hg:=List.getElem?_eq_getElem hk;have ha:=hs.full.ms _ (List.getElem_mem hk);have hu:=zxh ha;have hmo:=ha.most;have hb:=zyP (ms:=s.Members.take k) (fun a ha=>hs.full.ms a (List.mem_of_mem_take ha)) hr
  have hlk:(s.Members.take k).length<=5:=by rw[List.length_take]; omega
  have hm:=zwR (a:=unN s.Members[k]) (x:=r) (A:=10000) (X:=10000) (by omega) hr;have hq:0<=unN s.Members[k] * r / 100:=Int.ediv_nonneg hm.1 (by omega)
  have hun:ztq s.Members[k]=some (unN s.Members[k]):=by
   have h1:=ha.sum; have h2:=ha.cls;unfold unN at hu;unfold ztq unN;rw[zqr (by omega),zqr (by omega),zqr (fI (by omega))]
  show ztJ (zxZ s out) r (d+1) _ _=_
  rw[ztJ,if_pos (show(k:Int) < ((zxZ s out).s.Members.length:Int) by show(k:Int) < (s.Members.length:Int); omega),show idx (zxZ s out).s.Members (k:Int)=some s.Members[k] from zrF hg,obs,hun,obs,zqr (by omega),zqr hr.1,zqr (fI (by omega)),zqr hm.1,zqr (by omega),zqr (fI (by omega)),zqr (fI (by omega)),zqr (fI (by omega)),zyR hg]
 ·show ztJ (zxZ s out) r (d+1) _ _=_
  rw[ztJ,if_neg (show ¬ ((s.Members.length:Nat):Int) < ((zxZ s out).s.Members.length:Int) from Int.lt_irrefl _),List.take_length]
def zyT(s:Soc)(r:Int):Bool:=decide (hiN s<=brN s.Members r)
theorem zyU{s:Soc}(hs:zxK s){r:Int}(hr:0<=r/\r<=10000):ztL (zxZ s []) r=some (zyT s r):=by
 unfold ztL;rw[zyS hs [] hr,obs,zyN hs,obs]; rfl
theorem zyV{p:Int->Option Bool}{f:Nat->Bool}{n:Nat}(hn:n<=1000000)(hp:∀m,m < n->p (m:Int)=some (f m))(hm:∀m k,m<=k->k < n->f m=true->f k=true):∀d (i j:Nat),i<=j->j<=n->j - i < d->(∀m,m < i->f m=false)->(∀m,j<=m->m < n->f m=true) ->
  ∃k:Nat,ztN p d (i:Int) (j:Int)=some (k:Int)/\k<=n/\(∀m,m < k->f m=false)/\(∀m,k<=m->m < n->f m=true)
 | 0,_,_,_,_,h,_,_=>by omega
 | d+1,i,j,hij,hj,h,hlo,hhi=>by
  rw[ztN]
  by_cases hc:i < j
  ·obtain⟨md,hmd⟩:∃md:Nat,md=(i+j) / 2:=⟨_,rfl⟩
   have hf:zl6 .u64 ((i:Int)+j):=show _/\_ by constructor <;> omega
   have e:zmb .i64 (zmb .u64 ((i:Int)+j) / 2)=(md:Int):=by
    rw[wz hf,wz (fI (by omega))]; omega
   rw[if_pos (by omega),zqr (fI (by omega)),zqr (by rw[wz hf]; omega),zqr (by omega),zqr (by omega),zqr (by rw[wz hf]; exact show _/\_ by constructor <;> omega),e,hp md (by omega),obs]
   cases hq:f md with
   | true=>
    rw[if_pos rfl];exact zyV hn hp hm d i md (by omega) (by omega) (by omega) hlo fun m h1 h2=>hm md m h1 h2 hq
   | false=>
    rw[if_neg (by decide),zqr (fI (by omega)),show(md:Int)+1=((md+1:Nat):Int) by omega]
    exact zyV hn hp hm d (md+1) j (by omega) hj (by omega) (fun m h1=>by
     cases hq2:f m with
     | false=>rfl
     | true=>have:=hm m md (by omega) (by omega) hq2; rw[hq] at this; cases this) hhi
  ·rw[if_neg (by omega)];exact⟨i,rfl,by omega,hlo,fun m h1 h2=>hhi m (by omega) h2⟩
theorem zyW{s:Soc}(hs:zxK s):∃k:Nat,ztO 10001 (fun r=>ztL (zxZ s []) r)=some (k:Int)/\k<=10001/\(∀m:Nat,m < k->zyT s m=false)/\(∀m:Nat,k<=m->m < 10001->zyT s m=true):=by
 unfold ztO
 exact zyV (n:=10001) (f:=fun m=>zyT s (m:Int)) (by omega) (fun m hm=>zyU hs (by omega)) (fun m k h1 h2 h3=>by
  have h4:hiN s<=brN s.Members (m:Int):=of_decide_eq_true h3;have h5:=zyQ hs.full.ms (r:=(m:Int)) (t:=(k:Int)) (by omega)
  exact decide_eq_true (by omega)) _ 0 10001 (by omega) (by omega) (by omega) (fun m h=>by omega) (fun m h1 h2=>by omega)
theorem zyX{s:Soc}(hs:zxK s):(∃k:Nat,ztW s=some ((k:Int),0)/\k<=10000/\hiN s<=brN s.Members (k:Int)/\∀m:Nat,m < k->brN s.Members (m:Int) < hiN s)\/(ztW s=some (0,10)/\∀m:Nat,m<=10000->brN s.Members (m:Int) < hiN s):=by
 obtain⟨k,h1,h2,h3,h4⟩:=zyW hs
 have lt:∀m:Nat,zyT s (m:Int)=false->brN s.Members (m:Int) < hiN s:=fun m h=>by
  have:=of_decide_eq_false h; omega
 unfold ztW;rw[zx8 hs (Nat.zero_le _) (zx9 _),obs,if_pos rfl]
 show(∃k':Nat,(ztO 10001 (fun r=>ztL (zxZ s []) r)).bind _=_/\_)\/((ztO 10001 (fun r=>ztL (zxZ s []) r)).bind _=_/\_)
 rw[h1,obs]
 by_cases hk:k<=10000
 ·rw[if_neg (by omega)];exact .inl ⟨k,rfl,hk,of_decide_eq_true (h4 k (Nat.le_refl _) (by omega)),fun m hm=>lt m (h3 m hm)⟩
 ·rw[if_pos (by omega)];exact .inr ⟨rfl,fun m hm=>lt m (h3 m (by omega))⟩
def zyY(s:Soc)(l:List Int):Bool:=decide (0 < (bnd s (zyL s l)).Hi)
theorem zyZ{s:Soc}(hs:zxK s){l:List Int}(hl:zrP l):ztM s l=some (zyY s l):=by
 have hb:=zye hs;unfold ztM;rw[zx3 hl hs.m5,obs,zyz hs (g:=zyL s l) (fun N h1 h2=>zyB hs l (by omega)),obs]; rfl
theorem zy0{s:Soc}(hs:zxK s)(h:hiN s ≠ 0):ztX s=some (zrv s.Members.length (zyY s),0):=by
 have h5:=hs.m5
 have hlen:∀L∈zoh s.Members.length,zrP L:=fun L hL=>by have:=zyk (zyl.1 hL); unfold zrP; omega
 unfold ztX;rw[zx8 hs (Nat.zero_le _) (zx9 _),obs,if_pos rfl,zyN hs,obs,if_neg h];unfold zrw;rw[zqr ⟨by omega,by omega,fun L hL=>by show(ztM s L).isSome=true; rw[zyZ hs (hlen L hL)]; rfl⟩,obs];refine congrArg (fun x=>some (x,(0:Int))) ?_
 have e:(zoh s.Members.length).find? (fun L=>((ztM s L)).getD false)=(zoh s.Members.length).find? (zyY s):=by
  have:∀l:List (List Int),(∀L∈l,zrP L)->l.find? (fun L=>((ztM s L)).getD false)=l.find? (zyY s):=by
   intro l
   induction l with
   | nil=>intro _; rfl
   | cons L l ih=>
    intro hl
    have h1:(ztM s L).getD false=zyY s L:=by rw[zyZ hs (hl L (List.mem_cons_self ..))]; rfl
    rw[List.find?_cons,List.find?_cons,h1,ih fun L hL=>hl L (List.mem_cons_of_mem _ hL)]
  exact this _ hlen
 show zrv s.Members.length (fun L=>((ztM s L)).getD false)=_
 unfold zrv;rw[e]
theorem zy1{a b:List Int}(hl:a.length<=1000):∀(d k:Nat),k<=a.length->a.length - k < d->zsx a b d (k:Int)=some (bef (a.drop k) (b.drop k))
 | 0,_,_,h=>by omega
 | d+1,k,hk,h=>by
  rw[zsx]
  by_cases hka:k < a.length
  ·rw[if_pos (by omega)];have da:=List.drop_eq_getElem_cons hka;have ga:=List.getElem?_eq_getElem hka
   by_cases hkb:k < b.length
   ·have db:=List.drop_eq_getElem_cons hkb;have gb:=List.getElem?_eq_getElem hkb;rw[if_pos (by omega),zrF ga,obs,zrF gb,obs,da,db];unfold bef
    by_cases he:a[k]=b[k]
    ·rw[if_pos he,if_pos he,zqr (fI (by omega)),show(k:Int)+1=((k+1:Nat):Int) by omega];exact zy1 hl d (k+1) (by omega) (by omega)
    ·rw[if_neg he,if_neg he,obs,obs]
   ·rw[if_neg (by omega),da,List.drop_eq_nil_of_le (show b.length<=k by omega),decide_eq_false (by omega)]; rfl
  ·rw[if_neg (by omega),List.drop_eq_nil_of_le (show a.length<=k by omega)]
   by_cases hkb:k < b.length
   ·rw[List.drop_eq_getElem_cons hkb,decide_eq_true (by omega)]; rfl
   ·rw[List.drop_eq_nil_of_le (show b.length<=k by omega),decide_eq_false (by omega)]; rfl
theorem zy2{a b:List Int}(hl:a.length<=1000):zsy a b=some (bef a b):=zy1 hl (a.length+1) 0 (Nat.zero_le _) (by omega)
theorem zy3{a b:List Int}(hl:a.length<=1000):zsz a b=some (shB a b):=by
 unfold zsz shB
 by_cases h1:a.length < b.length
 ·rw[if_pos (by omega),decide_eq_true h1]; rfl
 ·rw[if_neg (by omega),decide_eq_false h1]
  by_cases h2:a.length=b.length
  ·rw[if_pos (by omega),zy2 hl,decide_eq_true h2]; simp
  ·rw[if_neg (by omega),decide_eq_false h2]; simp
theorem zy4{a b:List Int}(hl:a.length=b.length):(bef a b=false/\bef b a=false)↔a=b:=by
 constructor
 ·rintro⟨h1,h2⟩
  rcases zyn a b with h | h | h
  ·exact h
  ·rw[h1] at h; cases h
  ·rw[h2] at h; cases h
 ·rintro rfl; exact⟨zym _,zym _⟩
theorem zy5{a b:List Int}(ha:a.length<=1000)(hb:b.length<=1000):zsA a b=some (decide (a=b)):=by
 unfold zsA
 by_cases hl:a.length=b.length
 ·rw[if_pos (by omega),zy2 ha,obs];have h:=zy4 hl
  cases h1:bef a b with
  | true=>rw[if_pos rfl,decide_eq_false fun he=>by have:=(h.2 he).1; rw[h1] at this; cases this]
  | false=>
   rw[if_neg (by decide),zy2 hb,obs]
   cases h2:bef b a with
   | true=>rw[decide_eq_false fun he=>by have:=(h.2 he).2; rw[h2] at this; cases this]; rfl
   | false=>rw[decide_eq_true (h.1 ⟨h1,h2⟩)]; rfl
 ·rw[if_neg (by omega),decide_eq_false fun he=>hl (by rw[he])]
def zy6(s:Soc):Prop:=s.Members.length<=8/\s.Losses.length<=6
theorem zy7{s:Soc}:Ev (zt2 s) (zy6 s):=by
 unfold zt2 zy6
 by_cases h:(s.Members.length:Int)<=8
 ·rw[if_pos h]; exact Ev.dec (by omega)
 ·rw[if_neg h]; exact Ev.ff (by omega)
theorem zxK.thin{s:Soc}(h:zxK s):zy6 s:=⟨by have:=h.m5; omega,by have:=h.l3; omega⟩
theorem zy8{s:Soc}(h:zy6 s):zt1 s=some s:=by
 unfold zt1
 show zt0 s 1000000 [] [] s.Treaty.Lo s.Treaty.Hi s.Reserve 0=_
 obtain⟨h1,h2⟩:=h
 have k1:ztZ s s.Members 1000000 [] s.Treaty.Lo s.Treaty.Hi s.Reserve 0=some s:=by
  refine(zrL (l:=s.Losses) (fun r=>r) (F:=fun d acc x=>ztZ s s.Members d acc s.Treaty.Lo s.Treaty.Hi s.Reserve x) (fun acc=>some ({ Members:=s.Members,Losses:=acc,Treaty:=s.Treaty,Reserve:=s.Reserve }:Soc)) (fun d k acc a hk ha=>?_) (fun d acc=>?_) (d:=1000000) (by omega)).trans (by rw[List.map_id'])
  ·have hkl:=(List.getElem?_eq_some_iff.1 hk).1
   show ztZ s s.Members (d+1) _ _ _ _ _=_
   rw[ztZ,if_pos (by omega),zrF hk,obs]
   show(some a).bind _=_
   rw[obs,zqr (by omega),zqr (fI (by omega))]
  ·show ztZ s s.Members (d+1) _ _ _ _ _=_
   rw[ztZ,if_neg (Int.lt_irrefl _)]
 refine(zrL (l:=s.Members) (fun r=>r) (F:=fun d acc x=>zt0 s d acc [] s.Treaty.Lo s.Treaty.Hi s.Reserve x) (fun acc=>ztZ s acc 1000000 [] s.Treaty.Lo s.Treaty.Hi s.Reserve 0) (fun d k acc a hk ha=>?_) (fun d acc=>?_) (d:=1000000) (by omega)).trans (by rw[List.map_id']; exact k1)
 ·have hkl:=(List.getElem?_eq_some_iff.1 hk).1
  show zt0 s (d+1) _ _ _ _ _ _=_
  rw[zt0,if_pos (by omega),zrF hk,obs,zqr (by omega),zqr (fI (by omega))]
 ·show zt0 s (d+1) _ _ _ _ _ _=_
  rw[zt0,if_neg (Int.lt_irrefl _)]
theorem zy9{s:Soc}:Ev (zt7 s) (zxK s):=by
 unfold zt7
 by_cases ht:zy6 s
 ·rw[zy7.some_of ht,obs,if_pos rfl,zxX ht.1 ht.2,obs];exact Ev.dec zxM
 ·rw[zy7.some_not ht,obs,if_neg (by decide)];exact Ev.ff fun h=>ht h.thin
def zza(most:Int):Soc:={ Members:=[{ Sum:=100,Class:=2,Most:=most },{ Sum:=100,Class:=1,Most:=60 },{ Sum:=50,Class:=2,Most:=most }],Losses:=[{ Lo:=200,Hi:=210 },{ Lo:=90,Hi:=90 }],Treaty:={ Lo:=20,Hi:=25 },Reserve:=30 }
theorem zzb(most:Int):zt5 most=some (zza most):=rfl
theorem zzc{most:Int}(h:0<=most/\most<=100000):zxK (zza most):=by
 refine⟨Nat.le_of_ble_eq_true rfl,Nat.le_of_ble_eq_true rfl,Nat.le_of_ble_eq_true rfl,fun a ha=>?_,fun r hr=>?_,by show RgV ⟨20,25⟩; decide,by show(0:Int)<=30/\(30:Int)<=_; omega⟩
 ·rcases List.mem_cons.1 ha with rfl | ha
  ·exact⟨by show(1:Int)<=100/\(100:Int)<=1000; omega,by show(1:Int)<=2/\(2:Int)<=10; omega,h⟩
  rcases List.mem_cons.1 ha with rfl | ha
  ·exact⟨by decide,by decide,by decide⟩
  rcases List.mem_cons.1 ha with rfl | ha
  ·exact⟨by show(1:Int)<=50/\(50:Int)<=1000; omega,by show(1:Int)<=2/\(2:Int)<=10; omega,h⟩
  ·cases ha
 ·rcases List.mem_cons.1 hr with rfl | hr
  ·decide
  rcases List.mem_cons.1 hr with rfl | hr
  ·decide
  ·cases hr
theorem f64{n:Int}(h:-1000000<=n/\n<=1000000):zl6 .i64 n:=fI (by omega)
theorem zzd:zt6=some true:=by
 have h5:zxK (zza 500):=zzc (by omega);have h1:zxK (zza 150):=zzc (by omega)
 have n5:ztP (zza 500)=some ({ Lo:=235,Hi:=250 },0):=by
  rw[zyA h5]
  have e1:loN (zza 500)=235:=by decide +kernel
  have e2:hiN (zza 500)=250:=by decide +kernel
  rw[e1,e2]
 have c5:ztR (zza 500) 250=some ([127,60,63],0,0):=by
  rw[zyE h5 (by omega)]
  have e1:zyC (zza 500) [] 250=[127,60,63]:=by decide +kernel
  have e2:(zxz (zza 500).Members (zxY (zza 500).Members.length []) 250).2=0:=by decide +kernel
  rw[e1,e2]
 have b5:ztU (zza 500)=some (zyG (zza 500) [],0):=zyK h5
 have eb:zyG (zza 500) []=[{ Lo:=117,Hi:=127 },{ Lo:=59,Hi:=60 },{ Lo:=59,Hi:=63 }]:=by
  have e1:(zyG (zza 500) []).map (·.Lo)=[117,59,59]:=by decide +kernel
  have e2:(zyG (zza 500) []).map (·.Hi)=[127,60,63]:=by decide +kernel
  have e3:(zyG (zza 500) []).length=3:=zyH []
  revert e1 e2 e3
  generalize zyG (zza 500) []=l;intro e1 e2 e3
  match l,e3 with
  | [⟨a1,a2⟩,⟨b1,b2⟩,⟨c1,c2⟩],_=>
   simp only[List.map_cons,List.map_nil,List.cons.injEq,and_true] at e1 e2
   obtain⟨rfl,rfl,rfl⟩:=e1;obtain⟨rfl,rfl,rfl⟩:=e2
   rfl
 have r5:ztW (zza 500)=some (64,0):=by
  have m63:brN (zza 500).Members 63 < 250:=by decide +kernel
  have m64:250<=brN (zza 500).Members 64:=by decide +kernel
  have e2:hiN (zza 500)=250:=by decide +kernel
  rcases zyX h5 with ⟨k,q1,q2,q3,q4⟩ | ⟨q1,q2⟩
  ·rw[e2] at q3 q4
   have hk:k=64:=by
    apply Classical.byContradiction
    intro hne
    rcases Nat.lt_or_ge k 64 with h | h
    ·have:=zyQ h5.full.ms (r:=(k:Int)) (t:=63) (by omega); omega
    ·have:=q4 64 (by omega);have e:((64:Nat):Int)=64:=rfl;rw[e] at this; omega
   subst hk; exact q1
  ·have:=q2 64 (by omega);have e:((64:Nat):Int)=64:=rfl;rw[e2,e] at this; omega
 have x5:ztX (zza 500)=some ([0,2],0):=by
  rw[zy0 h5 (by decide +kernel)]
  have e:zrv (zza 500).Members.length (zyY (zza 500))=[0,2]:=by decide +kernel
  rw[e]
 have x1:ztX (zza 150)=some ([0],0):=by
  rw[zy0 h1 (by decide +kernel)]
  have e:zrv (zza 150).Members.length (zyY (zza 150))=[0]:=by decide +kernel
  rw[e]
 unfold zt6;rw[zzb,obs,n5,obs,obs,c5,obs,obs,b5,obs,obs,r5,obs,obs,x5,obs,zzb,obs,x1,obs,eb];have s1:zsA [127,60,63] [127,60,63]=some true:=zy5 (by decide) (by decide);have s2:zsA [0,2] [0,2]=some true:=zy5 (by decide) (by decide);have s3:zsA [0] [0]=some true:=zy5 (by decide) (by decide);have f:∀n:Int,-1000000<=n/\n<=1000000->zl6 .i64 n:=fun n h=>f64 h
 simp only[zt4,obs,zqr (f 235 (by omega)),zqr (f 250 (by omega)),zqr (f 117 (by omega)),zqr (f 127 (by omega)),zqr (f 59 (by omega)),zqr (f 60 (by omega)),zqr (f 63 (by omega)),s1,s2,s3]
 simp[idx]
 rw[zqr (f 117 (by omega)),zqr (f 127 (by omega)),zqr (f 59 (by omega)),zqr (f 60 (by omega)),zqr (f 59 (by omega)),zqr (f 63 (by omega))]
theorem awk{β:Type}{f:Bool->Option β}:(zt6).bind f=f true:=by rw[zzd,obs]
theorem zze{a:Mb}(h:zxf a):zsh a=some (unN a):=by
 have h1:=h.sum; have h2:=h.cls; have hu:=zxh h;unfold unN at hu;unfold zsh unN;rw[zqr (by omega),zqr (by omega),zqr (fI (by omega))]
theorem zzf{s:Soc}(hs:zxK s){r:Int}(hr:0<=r/\r<=10000):zsw s r=some (brN s.Members r):=by
 have h5:=hs.m5;unfold zsw;refine zwh (n:=s.Members.length) (fun d acc x=>zsv s r d acc x) (fun k=>brN (s.Members.take k) r) (fun d k hk=>?_) (fun d=>?_) _ 0 (by omega) (by omega)
 ·have hg:=List.getElem?_eq_getElem hk;have ha:=hs.full.ms _ (List.getElem_mem hk);have hu:=zxh ha;have hmo:=ha.most;have hb:=zyP (ms:=s.Members.take k) (fun a ha=>hs.full.ms a (List.mem_of_mem_take ha)) hr
  have hlk:(s.Members.take k).length<=5:=by rw[List.length_take]; omega
  have hm:=zwR (a:=unN s.Members[k]) (x:=r) (A:=10000) (X:=10000) (by omega) hr;have hq:0<=unN s.Members[k] * r / 100:=Int.ediv_nonneg hm.1 (by omega)
  show zsv s r (d+1) _ _=_
  rw[zsv,if_pos (by omega),zrF hg,obs,obs,zze ha,obs,zqr (by omega),zqr hr.1,zqr (fI (by omega)),zqr hm.1,zqr (by omega),zqr (fI (by omega)),zqr (fI (by omega)),zqr (fI (by omega)),zyR hg,Int.min_comm]
 ·show zsv s r (d+1) _ _=_
  rw[zsv,if_neg (Int.lt_irrefl _),List.take_length]
theorem zzg{s:Soc}(_:zr9 s):zt8 s=some true:=by
 unfold zt8
 refine zy9.pick (fun hs=>?_) fun _=>by rw[if_neg (by decide),awk]
 rw[if_pos rfl,zy8 hs.thin,obs]
 rcases zyX hs with ⟨k,q1,q2,q3,q4⟩ | ⟨q1,q2⟩
 ·rw[q1,obs,obs,zyA hs,obs,if_pos rfl,if_pos rfl,zxU.some_of (by show(0:Int)<=(k:Int)/\(k:Int)<=10000; omega),obs,if_pos rfl,zzf hs (by show(0:Int)<=(k:Int)/\(k:Int)<=10000; omega),obs,if_pos q3]
  by_cases hk:k=0
  ·rw[if_pos (by show(k:Int)=0; omega),awk]
  ·have h1:=q4 (k - 1) (by omega);rw[show((k - 1:Nat):Int)=(k:Int) - 1 by omega] at h1;rw[if_neg (by show ¬ (k:Int)=0; omega),zqr (fI (by show _<=(k:Int) - 1/\(k:Int) - 1 < _; omega)),zzf hs (by show(0:Int)<=(k:Int) - 1/\(k:Int) - 1<=10000; omega),obs,if_pos h1,awk]
 ·have h1:brN s.Members 10000 < hiN s:=q2 10000 (by omega);rw[q1,obs,obs,zyA hs,obs,if_pos rfl,if_neg (by decide),if_pos rfl,if_pos rfl,zzf hs (by omega),obs,if_pos h1,awk]
end
end Go.Proofs.Ytkclhciahokifaa

namespace Go.Proofs.Ytkclhciahokifaa
open _root_.Go.Proofs.Try
open Go.ChangeShapes Go.WideShapes Go.ChangeAt Go.RowKit Go.Abs
set_option maxRecDepth 100000
theorem op3:zrV prog 3 Int (zl6 .i64):=zrW (by kernel_rfl)
theorem zzh:zrV prog 82 Mb zr7:=zr3 (fs:=[(3,0),(3,1),(3,2)]) (by kernel_rfl) (by kernel_rfl) (zr2 (α:=Int) (ok:=zl6 .i64) (k:=1) op3 (by kernel_rfl) rfl (zr2 (α:=Int) (ok:=zl6 .i64) (k:=1) op3 (by kernel_rfl) rfl (zr2 (α:=Int) (ok:=zl6 .i64) (k:=1) op3 (by kernel_rfl) rfl zr1))) (by kernel_rfl) fun m vs h=>by
 obtain⟨a0,c0,r0,m0,h0,p0,k0,s0,⟨a1,c1,r1,m1,h1,p1,k1,s1,⟨a2,c2,r2,m2,h2,p2,k2,s2,rfl⟩⟩⟩:=h;have p0:c0=[.int .i64 a0]:=p0; subst p0;have p1:c1=[.int .i64 a1]:=p1; subst p1;have p2:c2=[.int .i64 a2]:=p2; subst p2;subst h2 h1 h0;exact⟨⟨a0,a1,a2⟩,rfl,⟨k0,k1,k2⟩⟩
theorem zzi:zrV prog 22 (List Mb) (fun l=>l.length<=maxLen/\∀a0∈l,zr7 a0):=zrY (by kernel_rfl) (by kernel_rfl) zzh
theorem zzj:zrV prog 25 Rg zr5:=zr3 (fs:=[(3,0),(3,1)]) (by kernel_rfl) (by kernel_rfl) (zr2 (α:=Int) (ok:=zl6 .i64) (k:=1) op3 (by kernel_rfl) rfl (zr2 (α:=Int) (ok:=zl6 .i64) (k:=1) op3 (by kernel_rfl) rfl zr1)) (by kernel_rfl) fun m vs h=>by
 obtain⟨a0,c0,r0,m0,h0,p0,k0,s0,⟨a1,c1,r1,m1,h1,p1,k1,s1,rfl⟩⟩:=h;have p0:c0=[.int .i64 a0]:=p0; subst p0;have p1:c1=[.int .i64 a1]:=p1; subst p1;subst h1 h0;exact⟨⟨a0,a1⟩,rfl,⟨k0,k1⟩⟩
theorem zzk:zrV prog 23 (List Rg) (fun l=>l.length<=maxLen/\∀a0∈l,zr5 a0):=zrY (by kernel_rfl) (by kernel_rfl) zzj
theorem zzl:zrV prog 27 Soc zr9:=zr3 (fs:=[(22,0),(23,1),(25,2),(3,4)]) (by kernel_rfl) (by kernel_rfl) (zr2 (α:=List Mb) (ok:=(fun l=>l.length<=maxLen/\∀a0∈l,zr7 a0)) (k:=1) zzi (by kernel_rfl) rfl (zr2 (α:=List Rg) (ok:=(fun l=>l.length<=maxLen/\∀a0∈l,zr5 a0)) (k:=1) zzk (by kernel_rfl) rfl (zr2 (α:=Rg) (ok:=zr5) (k:=2) zzj (by kernel_rfl) rfl (zr2 (α:=Int) (ok:=zl6 .i64) (k:=1) op3 (by kernel_rfl) rfl zr1)))) (by kernel_rfl) fun m vs h=>by
 obtain⟨a0,c0,r0,m0,h0,p0,k0,s0,⟨a1,c1,r1,m1,h1,p1,k1,s1,⟨a2,c2,r2,m2,h2,p2,k2,s2,⟨a3,c3,r3,m3,h3,p3,k3,s3,rfl⟩⟩⟩⟩:=h;obtain⟨d0,rfl,p0⟩:=p0;obtain⟨d1,rfl,p1⟩:=p1;have p2:c2=[.int .i64 a2.Lo,.int .i64 a2.Hi]:=p2; subst p2;have p3:c3=[.int .i64 a3]:=p3; subst p3;subst h3 h2 h1 h0;exact⟨⟨a0,a1,a2,a3⟩,⟨_,_,rfl,p0,p1⟩,⟨k0,k1,k2,k3⟩⟩
theorem zzm:laidOutB prog=true:=by kernel_rfl
theorem zzn:ownKnob prog.godebug=none:=by kernel_rfl
theorem zzo(os:Os)(started:os.Started)(H:Type)(enc:TypeId × Value->H) :
    ReturnsInHanded {} Try.checked os 14 .any (Rows.callRateSpec.pre6 enc Try.prog Try.f14 Rows.callRateRow.domain false) (Rows.callRateSpec.post enc Try.prog Try.f14 false true false false):=by
  refine returnsInHanded_of_change (C:=Try.checked) zzn started (by kernel_rfl) Try.func14
    (ChangeSpec.witness6 (enc:=enc) (C:=Try.checked) false ⟨#[],#[.agg #[.slice none 0 0,.slice none 0 0,.int .i64 0,.int .i64 0,.int .i64 0]],[]⟩ 8 (by kernel_rfl) (by kernel_rfl) (by kernel_rfl) (by kernel_rfl)) ?_
  intro W base args ds gs before hval0 hW hcnd _;have hval:∀(j:Nat) t v,Try.f14.params[j]? = some t->args[j]? = some v->Value.okWide Try.prog W .any base t v:=hval0;have hW':=hW;obtain⟨p,q,hA0,hV,rfl,hfz,hnd⟩:=hW;have hA:DataW.TrodAll enc Try.prog W 0 (fun _=>true) true Try.f14.params.toList args.toList ds p:=hA0;rw[Try.params14] at hA hval;obtain⟨v0,d0,rfl,rfl,h0⟩:=trodAll_one hA;obtain⟨rfl,rfl⟩:=trodVars_none hV
  have hlt:∀x∈p,x.block < W.heap.size:=fun x hx=>by simpa using hW'.lt x (by simpa using hx)
  obtain⟨fu0,hf0⟩:=id h0
  clear hA0 hval0
  obtain⟨e0,m0,w0,a_0,le0,sv0,lay0,cr0,zuB,ok0⟩:=zzl H enc W true _ _ _ hf0 _ _ (Lay.nil W);obtain⟨c0_0,c0_1,rfl,g0_0,g0_1⟩:=zuB
  obtain⟨cs0,hv0,cl0⟩:∃cs,v0=.agg cs/\v0.cells.toList=cs.toList:=by
    have hl:=cr0.length
    cases v0 with
    | agg cs=>exact⟨cs,rfl,rfl⟩
    | _=>exact absurd hl (by simp[Value.cells])
  subst hv0;have hargs:zeq (VR e0) [.agg 5 [c0_0,c0_1,.int .i64 a_0.Treaty.Lo,.int .i64 a_0.Treaty.Hi,.int .i64 a_0.Reserve]] [.agg cs0]:=.cons ⟨cs0,rfl,cr0,rfl⟩ .nil;refine(callsIn_wide.1 (zqB fits htab (zwg (s:=a_0) lay0.pre g0_0 g0_1 (zzg ok0) (Q:=fun v _=>v=.c (.bool true)) fun _ _=>rfl) lay0.hr (args':=#[.agg cs0]) hargs 0)).mono fun en W' hp=>?_;obtain⟨v,v',e',m',rfl,hst,hvr,rfl⟩:=hp;have hv':v'=.bool true:=hvr;subst hv';have hbelow:=lay0.below hst
  refine⟨_,rfl,[d0],[],p,[],p,[],by simpa using hW',trodAll_mk1 (shut_bool Try.underlying4 _),
    trodAll_mk1 (Below.trod zzm (by kernel_rfl) (of_decide_eq_true (by kernel_rfl)) h0 hbelow fun x hx=>hlt x (by simp[hx])),rfl,lay0.kept hst _,fun hc=>by cases hc⟩
theorem CallRate_holds:Rows.CallRateSaid:=
 OpenClaim.holds_of_wide 14 Try.f14 rfl rfl rfl rfl rfl rfl rfl ⟨rfl,rfl,rfl,rfl,rfl⟩ rfl rfl rfl rfl rfl (by kernel_rfl) Try.func14 (by kernel_rfl)
  (of_decide_eq_true (by kernel_rfl)) (by unfold Func.isWrapper; first | (rw[if_pos (by decide +kernel)]; kernel_rfl) | (rw[if_neg (by decide +kernel)]; exact⟨rfl,rfl⟩))
  (fun os started H enc _=>zzo os started H enc)
end Go.Proofs.Ytkclhciahokifaa

