/- CallEqual, for all that it can be called with, returns true. Condition: none. -/
import Derived.Test.YtkclhciahokifaaCaH
import GoSem.Step
import GoSem.ClaimKeys
import Derived.DeepKeys2
import Derived.RangeFuncLeaves
import Derived.OrdersIn
import Derived.Laws.World
import Derived.Laws.Sem
import Derived.RangeFuncRecord
import Derived.Laws.CopyRow
import Derived.Laws.Append
import Derived.Laws.Rows
import Derived.Laws.Slices
import Derived.Laws.Entries
import Derived.ChangeKeysEq
import Derived.IntWalk
import Derived.DeepKeys
import Derived.DeepKeys3
import Derived.Laws.StructEq
import Derived.MapKept
import Derived.Laws.AppendOwn
import Derived.ChangeArms
import Derived.ChangeOld
import Derived.Carry
import Derived.ChangeShapes
import Derived.KernelRfl
import Derived.ProofKit
import Derived.Test.YtkclhciahokifaaRows

namespace Go.Proofs.Ytkclhciahokifaa
open _root_.Go.Proofs.Try
open Go.Abs
set_option maxRecDepth 100000
noncomputable section
structure zxe (a:Mb):Prop where
 sum:1<=a.Sum/\a.Sum<=1000
 cls:1<=a.Class/\a.Class<=10
 most:0<=a.Most/\a.Most<=100000
def zxf(ms:List Mb):Prop:=ms.length<=5/\∀a∈ms,zxe a
def unN(a:Mb):Int:=a.Sum * a.Class
theorem zxg{a:Mb}(h:zxe a):1<=unN a/\unN a<=10000:=by
 have h1:=zwQ (a:=a.Sum) (x:=a.Class) (A:=1000) (X:=10) ⟨by have:=h.sum; omega,h.sum.2⟩ ⟨by have:=h.cls; omega,h.cls.2⟩;have h2:a.Sum * 1<=a.Sum * a.Class:=Int.mul_le_mul_of_nonneg_left h.cls.1 (by have:=h.sum; omega);have:=h.sum;unfold unN; omega
def uF(ms:List Mb)(sh:Nat->Bool):Nat->Int:=zws ms sh unN
def mF(ms:List Mb)(sh:Nat->Bool):Nat->Int:=zws ms sh (·.Most)
def zxh(sh:Nat->Bool):Bool:=(sh 0 == false) && ((sh 1 == false) && ((sh 2 == false) && ((sh 3 == false) && (sh 4 == false))))
def zxi(a b:Nat->Bool):Bool:=(a 0 == b 0) && ((a 1 == b 1) && ((a 2 == b 2) && ((a 3 == b 3) && (a 4 == b 4))))
def zxj(ms:List Mb)(sh:Nat->Bool):Prop:=∀i,sh i=true->i < ms.length
def roundsN(ms:List Mb):Nat->(Nat->Bool)->Int->(Nat->Int)->(Nat->Int) × Int
 | 0,_,N,c=>(c,N)
 | d+1,sh,N,c=>if zxh sh=true then (c,N) else
   if zxi (zwu ms sh (zwR N (uF ms sh))) sh=true then (fun i=>c i+zwR N (uF ms sh) i,0) else
    roundsN ms d (zwu ms sh (zwR N (uF ms sh))) (N - S5 (mF ms fun i=>sh i && !zwu ms sh (zwR N (uF ms sh)) i)) (fun i=>c i+mF ms (fun i=>sh i && !zwu ms sh (zwR N (uF ms sh)) i) i)
def cF(sh:Nat->Bool):Nat:=(sh 0).toNat+(sh 1).toNat+(sh 2).toNat+(sh 3).toNat+(sh 4).toNat
theorem zxk{sh:Nat->Bool}:zxh sh=true↔∀i,i < 5->sh i=false:=by
 unfold zxh
 simp only[Bool.and_eq_true,beq_iff_eq]
 constructor
 ·rintro⟨h0,h1,h2,h3,h4⟩ i hi
  match i,hi with
  | 0,_=>exact h0
  | 1,_=>exact h1
  | 2,_=>exact h2
  | 3,_=>exact h3
  | 4,_=>exact h4
 ·intro h; exact⟨h 0 (by omega),h 1 (by omega),h 2 (by omega),h 3 (by omega),h 4 (by omega)⟩
theorem zxl{a b:Nat->Bool}:zxi a b=true↔∀i,i < 5->a i=b i:=by
 unfold zxi
 simp only[Bool.and_eq_true,beq_iff_eq]
 constructor
 ·rintro⟨h0,h1,h2,h3,h4⟩ i hi
  match i,hi with
  | 0,_=>exact h0
  | 1,_=>exact h1
  | 2,_=>exact h2
  | 3,_=>exact h3
  | 4,_=>exact h4
 ·intro h; exact⟨h 0 (by omega),h 1 (by omega),h 2 (by omega),h 3 (by omega),h 4 (by omega)⟩
theorem zxm{ms:List Mb}{sh:Nat->Bool}{p:Nat->Int}{i:Nat}(h:zwu ms sh p i=true):sh i=true:=by
 unfold zwu at h
 cases hm:ms[i]? with
 | none=>rw[hm] at h; exact h
 | some a=>rw[hm] at h; exact(Bool.and_eq_true _ _ ▸ h).1
theorem zxn{ms:List Mb}{sh:Nat->Bool}{p:Nat->Int}{i:Nat}{a:Mb}(hm:ms[i]? = some a):zwu ms sh p i=(sh i && decide (p i<=a.Most)):=by unfold zwu; rw[hm]
theorem zxo{ms:List Mb}{sh:Nat->Bool}{p:Nat->Int}(h:¬ zxi (zwu ms sh p) sh=true):cF (zwu ms sh p) < cF sh:=by
 have hle:∀i,(zwu ms sh p i).toNat<=(sh i).toNat:=fun i=>by
  cases ha:zwu ms sh p i with
  | false=>exact Nat.zero_le _
  | true=>rw[zxm ha]; exact Nat.le_refl _
 have hne:∃i,i < 5/\(zwu ms sh p i).toNat ≠ (sh i).toNat:=by
  apply Classical.byContradiction
  intro hn;refine h (zxl.2 fun i hi=>?_)
  apply Classical.byContradiction
  intro h2;refine hn ⟨i,hi,fun h3=>h2 ?_⟩
  revert h3; cases zwu ms sh p i <;> cases sh i <;> decide
 obtain⟨i,hi,h2⟩:=hne;have l0:=hle 0; have l1:=hle 1; have l2:=hle 2; have l3:=hle 3; have l4:=hle 4;unfold cF
 match i,hi with
 | 0,_=>omega
 | 1,_=>omega
 | 2,_=>omega
 | 3,_=>omega
 | 4,_=>omega
theorem zxp{ms:List Mb}{sh:Nat->Bool}{num:Mb->Int}{i:Nat}(h:sh i=false):zws ms sh num i=0:=by
 unfold zws
 cases ms[i]? with
 | none=>rfl
 | some a=>show(if sh i=true then num a else 0)=0; rw[h]; rfl
theorem zxq{ms:List Mb}{sh:Nat->Bool}{num:Mb->Int}{i:Nat}{a:Mb}(hm:ms[i]? = some a)(h:sh i=true):zws ms sh num i=num a:=by
 unfold zws; rw[hm]; show(if sh i=true then num a else 0)=_; rw[h,if_pos rfl]
theorem zxr{ms:List Mb}(hms:zxf ms)(sh:Nat->Bool)(i:Nat):0<=uF ms sh i/\uF ms sh i<=10000:=by
 unfold uF
 cases hs:sh i with
 | false=>rw[zxp hs]; omega
 | true=>
  cases hm:ms[i]? with
  | none=>unfold zws; rw[hm]; show(0:Int)<=0/\(0:Int)<=_; omega
  | some a=>rw[zxq hm hs]; have:=zxg (hms.2 a (List.mem_of_getElem? hm)); omega
theorem zxs{ms:List Mb}(hms:zxf ms){sh:Nat->Bool}(hs:zxj ms sh)(hn:¬ zxh sh=true):UOk (uF ms sh):=by
 have hb:=zxr hms sh;refine⟨fun i _=>by have:=hb i; omega,?_⟩
 obtain⟨i,hi,hsi⟩:∃i,i < 5/\sh i=true:=by
  apply Classical.byContradiction
  intro h;refine hn (zxk.2 fun i hi=>?_)
  cases hq:sh i with
  | false=>rfl
  | true=>exact absurd ⟨i,hi,hq⟩ h
 have hl:=hs i hsi
 have h1:1<=uF ms sh i:=by unfold uF; rw[zxq (List.getElem?_eq_getElem hl) hsi]; exact(zxg (hms.2 _ (List.getElem_mem hl))).1
 have b0:=hb 0; have b1:=hb 1; have b2:=hb 2; have b3:=hb 3; have b4:=hb 4;unfold S5
 match i,hi with
 | 0,_=>omega
 | 1,_=>omega
 | 2,_=>omega
 | 3,_=>omega
 | 4,_=>omega
structure RI (ms:List Mb) (sh:Nat->Bool) (N:Int) (c:Nat->Int):Prop where
 sup:zxj ms sh
 nn:0<=N/\N<=1000000
 cb:∀i,i < 5->0<=c i/\c i<=1000000
 c0:∀i,sh i=true->c i=0
section
variable {ms:List Mb} {sh:Nat->Bool} {N:Int} {c:Nat->Int}
theorem zxt(p:Nat->Int){i:Nat}:(sh i && !zwu ms sh p i)=true↔sh i=true/\∃a,ms[i]? = some a/\a.Most < p i:=by
 cases hm:ms[i]? with
 | none=>unfold zwu; rw[hm]; cases sh i <;> simp
 | some a=>
  rw[zxn hm]
  cases sh i with
  | false=>simp
  | true=>simp
theorem zxu(hms:zxf ms)(hs:zxj ms sh)(hn:¬ zxh sh=true)(hN:0<=N){i:Nat}(hi:i < 5) :
  0<=mF ms (fun i=>sh i && !zwu ms sh (zwR N (uF ms sh)) i) i/\mF ms (fun i=>sh i && !zwu ms sh (zwR N (uF ms sh)) i) i<=qN N (uF ms sh) i:=by
 have hu:=zxs hms hs hn;have hq:=zwS hu hN hi;unfold mF
 cases ho:(sh i && !zwu ms sh (zwR N (uF ms sh)) i) with
 | false=>rw[zxp (by exact ho)]; omega
 | true=>
  obtain⟨h1,a,h2,h3⟩:=(zxt _).1 ho;have hb:=(hms.2 a (List.mem_of_getElem? h2)).most;have hp:=zxa N (uF ms sh) i;rw[zxq h2 (by exact ho)]; omega
theorem RI.next(hms:zxf ms)(h:RI ms sh N c)(hn:¬ zxh sh=true):RI ms (zwu ms sh (zwR N (uF ms sh))) (N - S5 (mF ms fun i=>sh i && !zwu ms sh (zwR N (uF ms sh)) i)) (fun i=>c i+mF ms (fun i=>sh i && !zwu ms sh (zwR N (uF ms sh)) i) i):=by
 have hu:=zxs hms h.sup hn;have hm:=fun i (hi:i < 5)=>zxu hms h.sup hn h.nn.1 hi
 have hs:S5 (mF ms fun i=>sh i && !zwu ms sh (zwR N (uF ms sh)) i)<=S5 (zwR N (uF ms sh)):=zwY fun i hi=>by have:=hm i hi; have:=zxa N (uF ms sh) i; omega
 rw[zw9 hu] at hs
 have hs0:0<=S5 (mF ms fun i=>sh i && !zwu ms sh (zwR N (uF ms sh)) i):=by
  have:=hm 0 (by omega); have:=hm 1 (by omega); have:=hm 2 (by omega); have:=hm 3 (by omega); have:=hm 4 (by omega);unfold S5; omega
 have hnn:=h.nn;refine⟨fun i hi=>h.sup i (zxm hi),by omega,fun i hi=>?_,fun i hi=>?_⟩
 ·have h1:=hm i hi;have h2:=h.cb i hi
  have h3:mF ms (fun i=>sh i && !zwu ms sh (zwR N (uF ms sh)) i) i<=N:=by have:=zwS hu h.nn.1 hi; omega
  show 0<=c i+_/\c i+_<=_
  cases ho:(sh i && !zwu ms sh (zwR N (uF ms sh)) i) with
  | false=>
   have e:mF ms (fun i=>sh i && !zwu ms sh (zwR N (uF ms sh)) i) i=0:=zxp (by exact ho);rw[e]; omega
  | true=>
   have hc:=h.c0 i ((zxt _).1 ho).1;rw[hc]; omega
 ·have h1:=zxm hi
  show c i+_=0
  have e:mF ms (fun i=>sh i && !zwu ms sh (zwR N (uF ms sh)) i) i=0:=zxp (by show(sh i && !zwu ms sh _ i)=false; rw[hi]; simp);rw[h.c0 i h1,e]; rfl
theorem zxv{w:Wk}(hms:zxf w.s.Members):ztt w (mkF sh)=some (mk5 (uF w.s.Members sh)):=by
 unfold ztt;rw[zwt (num:=unN) (fun a ha=>?_) hms.1,obs]; rfl;have h:=hms.2 a ha;have:=h.sum; have:=h.cls;have hb:=zxg h;unfold unN at hb
 show ztp a=some (unN a)
 unfold ztp unN;rw[zqr (by omega),zqr (by omega),zqr (fI (by omega))]
theorem zxw{w:Wk}(hms:zxf w.s.Members):ztu w (mkF sh)=some (mk5 (mF w.s.Members sh)):=by
 unfold ztu;rw[zwt (number:=fun a=>ztq a) (num:=(·.Most)) (fun a _=>rfl) hms.1,obs]; rfl
theorem zxx{w:Wk}(hms:zxf w.s.Members)(need0:Int){need:Int}:∀(n D:Nat) (sh:Nat->Bool) (N:Int) (c:Nat->Int),RI w.s.Members sh N c->N+S5 c=need->need<=1000000->cF sh < n->cF sh < D ->
  ztx w need0 D need (c 0) (c 1) (c 2) (c 3) (c 4) (sh 0) (sh 1) (sh 2) (sh 3) (sh 4)=some { need:=need,calls:=mk5 (roundsN w.s.Members n sh N c).1 }
 | 0,_,_,_,_,_,_,_,h,_=>by omega
 | _+1,0,_,_,_,_,_,_,_,h=>by omega
 | n+1,D+1,sh,N,c,hr,hs,hneed,hn,hD=>by
  rw[ztx,roundsN]
  show(if zxh sh=true then _ else _)=_
  by_cases h0:zxh sh=true
  ·rw[if_pos h0,if_pos h0]; rfl
  ·rw[if_neg h0,if_neg h0];have hu:=zxs hms hr.sup h0
   have hbc:Bd 1000000000000 c:=fun i hi=>by have:=hr.cb i hi; omega
   have hcb:=hr.cb;have hc0:=hcb 0 (by omega); have hc1:=hcb 1 (by omega); have hc2:=hcb 2 (by omega); have hc3:=hcb 3 (by omega); have hc4:=hcb 4 (by omega)
   have hsc:0<=S5 c/\S5 c<=5000000:=by unfold S5; omega
   have hNN:0<=N/\N<=1000000:=hr.nn
   have e1:ztn ({ need:=need,calls:=mk5 c }:Oc)=some N:=by
    unfold ztn
    show(ztc (mk5 c)).bind _=_
    rw[zwp hbc,obs,zqr (fI (by show -9223372036854775808<=need - S5 c/\need - S5 c < _; omega))];exact congrArg some (show need - S5 c=N by omega)
   show(ztn ({ need:=need,calls:=mk5 c }:Oc)).bind _=_
   rw[e1,obs]
   show(ztt w (mkF sh)).bind _=_
   rw[zxv hms,obs,zwV hu hNN,obs]
   show(ztw w (mkF sh) (mk5 (zwR N (uF w.s.Members sh)))).bind _=_
   rw[zwv hms.1,obs]
   have hbp:Bd 1000000000000 (zwR N (uF w.s.Members sh)):=fun i hi=>by have:=zxb hu hNN.1 hi; have:=zxc hu hNN.1 hi; omega
   show(if zxi (zwu w.s.Members sh (zwR N (uF w.s.Members sh))) sh=true then _ else _)=_
   by_cases h1:zxi (zwu w.s.Members sh (zwR N (uF w.s.Members sh))) sh=true
   ·rw[if_pos h1,if_pos h1]
    have e2:zto ({ need:=need,calls:=mk5 c }:Oc) (mk5 (zwR N (uF w.s.Members sh)))=some { need:=need,calls:=mk5 fun i=>c i+zwR N (uF w.s.Members sh) i }:=by
     unfold zto
     show(zte (mk5 c) _).bind _=_
     rw[zwq hbc hbp,obs]
    show(zto ({ need:=need,calls:=mk5 c }:Oc) _).bind _=_
    rw[e2,obs]
   ·rw[if_neg h1,if_neg h1]
    show(ztg (mkF sh) (mkF (zwu w.s.Members sh (zwR N (uF w.s.Members sh))))).bind _=_
    rw[zwr,obs,zxw hms,obs];have hnext:=hr.next hms h0;have hm:=fun i (hi:i < 5)=>zxu hms hr.sup h0 hNN.1 hi
    have hbm:Bd 1000000000000 (mF w.s.Members fun i=>sh i && !zwu w.s.Members sh (zwR N (uF w.s.Members sh)) i):=fun i hi=>by have:=hm i hi; have:=zwS hu hNN.1 hi; omega
    have e2:zto ({ need:=need,calls:=mk5 c }:Oc) (mk5 (mF w.s.Members fun i=>sh i && !zwu w.s.Members sh (zwR N (uF w.s.Members sh)) i))=some { need:=need,calls:=mk5 fun i=>c i+mF w.s.Members (fun i=>sh i && !zwu w.s.Members sh (zwR N (uF w.s.Members sh)) i) i }:=by
     unfold zto
     show(zte (mk5 c) _).bind _=_
     rw[zwq hbc hbm,obs]
    show(zto ({ need:=need,calls:=mk5 c }:Oc) _).bind _=_
    rw[e2,obs];have hless:=zxo h1;have e3:S5 (fun i=>c i+mF w.s.Members (fun i=>sh i && !zwu w.s.Members sh (zwR N (uF w.s.Members sh)) i) i)=S5 c+S5 (mF w.s.Members fun i=>sh i && !zwu w.s.Members sh (zwR N (uF w.s.Members sh)) i):=zwz _ _
    have e4:N - S5 (mF w.s.Members fun i=>sh i && !zwu w.s.Members sh (zwR N (uF w.s.Members sh)) i)+S5 (fun i=>c i+mF w.s.Members (fun i=>sh i && !zwu w.s.Members sh (zwR N (uF w.s.Members sh)) i) i)=need:=by rw[e3]; omega
    exact zxx hms need0 n D _ _ _ hnext e4 hneed (by omega) (by omega)
end
def zxy(ms:List Mb)(ask:Nat->Bool)(need:Int):(Nat->Int) × Int:=roundsN ms 6 ask need fun _=>0
theorem zxz(sh:Nat->Bool):cF sh<=5:=by
 have h:∀b:Bool,b.toNat<=1:=fun b=>by cases b <;> decide
 have:=h (sh 0); have:=h (sh 1); have:=h (sh 2); have:=h (sh 3); have:=h (sh 4);unfold cF; omega
theorem zxA{w:Wk}(hms:zxf w.s.Members){ask:Nat->Bool}(ha:w.asked=mkF ask)(hsup:zxj w.s.Members ask){need:Int}(hn:0<=need/\need<=1000000):zty w need=some { need:=need,calls:=mk5 (zxy w.s.Members ask need).1 }:=by
 unfold zty;rw[ha];have hc:=zxz ask;exact zxx hms need 6 1000000 ask need (fun _=>0) ⟨hsup,hn,fun _ _=>by omega,fun _ _=>rfl⟩ (by rw[zwA]; omega) hn.2 (by omega) (by omega)
end
end Go.Proofs.Ytkclhciahokifaa

namespace Go.Proofs.Ytkclhciahokifaa
open _root_.Go.Proofs.Try
open Go.Abs
set_option maxRecDepth 100000
noncomputable section
section
variable {ms:List Mb}
theorem zxB(hms:zxf ms):∀(n:Nat) (sh:Nat->Bool) (N:Int) (c:Nat->Int),RI ms sh N c->cF sh < n->S5 (roundsN ms n sh N c).1+(roundsN ms n sh N c).2=N+S5 c/\0<=(roundsN ms n sh N c).2
 | 0,_,_,_,_,h=>by omega
 | n+1,sh,N,c,hr,h=>by
  unfold roundsN
  by_cases h0:zxh sh=true
  ·rw[if_pos h0]; have:=hr.nn; exact⟨by show S5 c+N=_; omega,hr.nn.1⟩
  ·rw[if_neg h0];have hu:=zxs hms hr.sup h0
   by_cases h1:zxi (zwu ms sh (zwR N (uF ms sh))) sh=true
   ·rw[if_pos h1];have e:S5 (fun i=>c i+zwR N (uF ms sh) i)=S5 c+S5 (zwR N (uF ms sh)):=zwz _ _;have hp:=zw9 hu N;exact⟨by show S5 (fun i=>c i+zwR N (uF ms sh) i)+0=_; omega,Int.le_refl _⟩
   ·rw[if_neg h1];have hless:=zxo h1;have ih:=zxB hms n _ _ _ (hr.next hms h0) (by omega);have e:S5 (fun i=>c i+mF ms (fun i=>sh i && !zwu ms sh (zwR N (uF ms sh)) i) i)=S5 c+S5 (mF ms fun i=>sh i && !zwu ms sh (zwR N (uF ms sh)) i):=zwz _ _;rw[e] at ih;exact⟨by rw[ih.1]; omega,ih.2⟩
theorem zxC(hms:zxf ms):∀(n:Nat) (sh:Nat->Bool) (N:Int) (c:Nat->Int),RI ms sh N c->cF sh < n->∀i,i < 5->sh i=false->(roundsN ms n sh N c).1 i=c i
 | 0,_,_,_,_,h=>by omega
 | n+1,sh,N,c,hr,h=>fun i hi hs=>by
  unfold roundsN
  by_cases h0:zxh sh=true
  ·rw[if_pos h0]
  ·rw[if_neg h0];have hu:=zxs hms hr.sup h0
   by_cases h1:zxi (zwu ms sh (zwR N (uF ms sh))) sh=true
   ·rw[if_pos h1]
    show c i+_=_
    rw[zxd hu (show uF ms sh i=0 from zxp hs),Int.add_zero]
   ·rw[if_neg h1];have hless:=zxo h1
    have ha:zwu ms sh (zwR N (uF ms sh)) i=false:=by
     cases hq:zwu ms sh (zwR N (uF ms sh)) i with
     | false=>rfl
     | true=>rw[zxm hq] at hs; cases hs
    rw[zxC hms n _ _ _ (hr.next hms h0) (by omega) i hi ha];have e:mF ms (fun i=>sh i && !zwu ms sh (zwR N (uF ms sh)) i) i=0:=zxp (by show(sh i && _)=false; rw[hs]; rfl);rw[e,Int.add_zero]
theorem zxD(hms:zxf ms):∀(n:Nat) (sh:Nat->Bool) (N:Int) (c:Nat->Int),RI ms sh N c->cF sh < n->∀i a,i < 5->ms[i]? = some a->sh i=true->(0<=(roundsN ms n sh N c).1 i/\(roundsN ms n sh N c).1 i<=a.Most)/\(0 < (roundsN ms n sh N c).2->(roundsN ms n sh N c).1 i=a.Most)
 | 0,_,_,_,_,h=>by omega
 | n+1,sh,N,c,hr,h=>fun i a hi hm hs=>by
  unfold roundsN
  by_cases h0:zxh sh=true
  ·have:=zxk.1 h0 i hi; rw[hs] at this; cases this
  ·rw[if_neg h0];have hu:=zxs hms hr.sup h0;have hc:=hr.c0 i hs;have hp:=zxb hu hr.nn.1 hi
   by_cases h1:zxi (zwu ms sh (zwR N (uF ms sh))) sh=true
   ·rw[if_pos h1];have h2:=zxl.1 h1 i hi;rw[zxn hm,hs,Bool.true_and] at h2;have h3:zwR N (uF ms sh) i<=a.Most:=of_decide_eq_true h2;exact⟨by show 0<=c i+_/\c i+_<=_; omega,fun h=>absurd h (Int.lt_irrefl _)⟩
   ·rw[if_neg h1];have hless:=zxo h1
    cases hq:zwu ms sh (zwR N (uF ms sh)) i with
    | true=>exact zxD hms n _ _ _ (hr.next hms h0) (by omega) i a hi hm hq
    | false=>
     rw[zxC hms n _ _ _ (hr.next hms h0) (by omega) i hi hq];have e:mF ms (fun i=>sh i && !zwu ms sh (zwR N (uF ms sh)) i) i=a.Most:=zxq hm (by show(sh i && !zwu ms sh _ i)=true; rw[hs,hq]; rfl);have hb:=(hms.2 a (List.mem_of_getElem? hm)).most;rw[e,hc];exact⟨by omega,fun _=>by omega⟩
end
section
variable {ms:List Mb} {ask:Nat->Bool} {N:Int}
theorem RI0(hs:zxj ms ask)(hN:0<=N/\N<=1000000):RI ms ask N fun _=>0:=⟨hs,hN,fun _ _=>by omega,fun _ _=>rfl⟩
theorem zxE(hms:zxf ms)(hs:zxj ms ask)(hN:0<=N/\N<=1000000):S5 (zxy ms ask N).1+(zxy ms ask N).2=N/\0<=(zxy ms ask N).2:=by
 have:=zxz ask;have h:=zxB hms 6 ask N (fun _=>0) (RI0 hs hN) (by omega);rw[zwA] at h;exact⟨by rw[Int.add_zero] at h; exact h.1,h.2⟩
theorem zxF(hms:zxf ms)(hs:zxj ms ask)(hN:0<=N/\N<=1000000){i:Nat}(hi:i < 5)(ha:ask i=false):(zxy ms ask N).1 i=0:=by
 have:=zxz ask;exact zxC hms 6 ask N (fun _=>0) (RI0 hs hN) (by omega) i hi ha
theorem zxG(hms:zxf ms)(hs:zxj ms ask)(hN:0<=N/\N<=1000000){i:Nat}{a:Mb}(hi:i < 5)(hm:ms[i]? = some a)(ha:ask i=true):(0<=(zxy ms ask N).1 i/\(zxy ms ask N).1 i<=a.Most)/\(0 < (zxy ms ask N).2->(zxy ms ask N).1 i=a.Most):=by
 have:=zxz ask;exact zxD hms 6 ask N (fun _=>0) (RI0 hs hN) (by omega) i a hi hm ha
theorem zxH(hms:zxf ms)(hs:zxj ms ask)(hN:0<=N/\N<=1000000){i:Nat}(hi:i < 5):0<=(zxy ms ask N).1 i/\(zxy ms ask N).1 i<=100000:=by
 cases ha:ask i with
 | false=>rw[zxF hms hs hN hi ha]; omega
 | true=>
  have hm:=List.getElem?_eq_getElem (hs i ha);have h:=zxG hms hs hN hi hm ha;have hb:=(hms.2 _ (List.getElem_mem (hs i ha))).most
  omega
end
end
end Go.Proofs.Ytkclhciahokifaa

namespace Go.Proofs.Ytkclhciahokifaa
open _root_.Go.Proofs.Try
open Go.Abs
set_option maxRecDepth 100000
noncomputable section
def RgV(r:Rg):Prop:=0<=r.Lo/\r.Lo<=r.Hi/\r.Hi<=100000/\r.Hi - r.Lo<=30
instance (r:Rg):Decidable (RgV r):=by unfold RgV; infer_instance
structure zxI (s:Soc):Prop where
 pos:0 < s.Members.length
 ms:∀a∈s.Members,zxe a
 ls:∀r∈s.Losses,RgV r
 tr:RgV s.Treaty
 rs:0<=s.Reserve/\s.Reserve<=100000
structure zxJ (s:Soc):Prop where
 m5:s.Members.length<=5
 l3:s.Losses.length<=3
 full:zxI s
theorem zxJ.msOk{s:Soc}(h:zxJ s):zxf s.Members:=⟨h.m5,h.full.ms⟩
open Classical in
def zxK(s:Soc):Int:=if 5 < s.Members.length\/3 < s.Losses.length then 3 else if zxI s then 0 else 1
theorem zxL{s:Soc}:zxK s=0↔zxJ s:=by
 unfold zxK
 by_cases h:5 < s.Members.length\/3 < s.Losses.length
 ·rw[if_pos h]; exact⟨fun h=>by omega,fun h2=>by have:=h2.m5; have:=h2.l3; omega⟩
 ·rw[if_neg h]
  by_cases hf:zxI s
  ·rw[if_pos hf]; exact⟨fun _=>⟨by omega,by omega,hf⟩,fun _=>rfl⟩
  ·rw[if_neg hf]; exact⟨fun h=>by omega,fun h=>absurd h.full hf⟩
theorem zxM{r:Rg}{n:Int}:Ev (zsA r n) (r.Lo<=n/\n<=r.Hi):=Ev.ite fun _=>Ev.dec Iff.rfl
theorem zxN{n:Int}:Ev (zsB n) (0<=n/\n<=100000):=zxM.ret
theorem zxO{r:Rg}:Ev (zsC r) (RgV r):=by
 refine(zxN.and fun h1=>zxN.and fun h2=>Ev.ite (K:=r.Hi - r.Lo<=30) fun _=>Ev.gd (fI (by omega)) (Ev.dec Iff.rfl)).imp ?_;unfold RgV; omega
theorem zxP{a:Mb}:Ev (zsD ({ su:=({ Lo:=(1:Int),Hi:=(1000:Int) }:Rg),cl:=({ Lo:=(1:Int),Hi:=(10:Int) }:Rg),mo:=({ Lo:=(0:Int),Hi:=(100000:Int) }:Rg) }:Lm) a) (zxe a):=
 (zxM.and fun _=>zxM.and fun _=>zxM.ret).imp ⟨fun⟨h1,h2,h3⟩=>⟨h1,h2,h3⟩,fun⟨h1,h2,h3⟩=>⟨h1,h2,h3⟩⟩
theorem gM{l:List Mb}{p:Mb->Option Bool}:∀{d:Nat} {x:Int},zsF l p d x=gIdx l p d x
 | 0,_=>rfl
 | d+1,x=>by unfold zsF gIdx; simp only[gM]
theorem gR{l:List Rg}{p:Rg->Option Bool}:∀{d:Nat} {x:Int},zsK l p d x=gIdx l p d x
 | 0,_=>rfl
 | d+1,x=>by unfold zsK gIdx; simp only[gR]
theorem gI{l:List Int}{p:Int->Option Bool}:∀{d:Nat} {x:Int},zsP l p d x=gIdx l p d x
 | 0,_=>rfl
 | d+1,x=>by unfold zsP gIdx; simp only[gI]
theorem zxQ{s:Soc}(h1:zrQ s.Members)(h2:zrQ s.Losses):Ev (zsW s) (zxI s):=by
 refine(Ev.ite fun _=>(Ev.each (q:=zxe) (fun a _=>zxP) h1.lt gM).and fun _=>(Ev.each (q:=RgV) (fun a _=>zxO) h2.lt gR).and fun _=>zxO.and fun _=>zxN.ret).imp ?_;exact⟨fun⟨a,b,c,d,e⟩=>⟨by omega,b,c,d,e⟩,fun⟨a,b,c,d,e⟩=>⟨by omega,b,c,d,e⟩⟩
theorem zxR{s:Soc}:Ev (zsV s) (5 < s.Members.length\/3 < s.Losses.length):=by
 unfold zsV
 by_cases h:(5:Int) < s.Members.length
 ·rw[if_pos h]; exact Ev.tt (by omega)
 ·rw[if_neg h]; exact Ev.dec (by omega)
theorem zxS{s:Soc}(h1:zrQ s.Members)(h2:zrQ s.Losses):zsX s=some (zxK s):=by
 unfold zsX zxK;refine zxR.pick (fun h=>?_) fun h=>?_
 ·rw[if_pos rfl,if_pos h]
 ·rw[if_neg (by decide),if_neg h];refine(zxQ h1 h2).pick (fun h=>?_) fun h=>?_
  ·rw[if_pos rfl,if_pos h]
  ·rw[if_neg (by decide),if_neg h]
theorem zxT{n lo hi:Int}:Ev (zse n lo hi) (lo<=n/\n<=hi):=Ev.ite fun _=>Ev.dec Iff.rfl
theorem zxU{r:Rg}:Ev (zsf r) (RgV r):=Ev.ite fun h1=>Ev.ite fun h2=>Ev.ite fun h3=>Ev.gd (fI (by omega)) (Ev.dec Iff.rfl)
theorem zxV{s:Soc}(h1:s.Members.length<=8)(h2:s.Losses.length<=6):zsh s=some (zxK s):=by
 unfold zsh zxK
 by_cases c1:5 < s.Members.length
 ·rw[if_pos (by omega),if_pos (.inl c1)]
 rw[if_neg (by omega)]
 by_cases c2:3 < s.Losses.length
 ·rw[if_pos (by omega),if_pos (.inr c2)]
 rw[if_neg (show ¬ (3:Int) < s.Losses.length by omega),if_neg (show ¬ (5 < s.Members.length\/3 < s.Losses.length) by omega)]
 by_cases c3:s.Members.length=0
 ·rw[if_pos (by omega),if_neg fun h:zxI s=>by have:=h.pos; omega]
 rw[if_neg (show ¬ (s.Members.length:Int)=0 by omega)]
 refine zxU.pick (fun c4=>?_) fun c4=>by rw[if_neg (by decide),if_neg fun h=>c4 h.tr]
 rw[if_pos rfl]
 refine zxT.pick (fun c5=>?_) fun c5=>by rw[if_neg (by decide),if_neg fun h=>c5 h.rs]
 rw[if_pos rfl]
 have kL:=zrP (l:=s.Losses) (F:=fun d x=>prFault_L1 s d x) (ok:=RgV) (bad:=some 1) (fin:=some 0) (fun d k a hk=>by
  have hkl:=(List.getElem?_eq_some_iff.1 hk).1
  show(RgV a->prFault_L1 s (d+1) (k:Int)=_)/\_
  rw[prFault_L1,if_pos (by omega),zrG hk,obs]
  exact Ev.step zxU (by rw[if_pos rfl,zqr (fI (by omega))]) (by rw[if_neg (by decide)])) (fun d=>by show prFault_L1 s (d+1) _=_; rw[prFault_L1,if_neg (Int.lt_irrefl _)]) (d:=1000000) (by omega)
 have kM:=zrP (l:=s.Members) (F:=fun d x=>zsg s d 0 x) (ok:=zxe) (bad:=some 1) (fin:=prFault_L1 s 1000000 0) (fun d k a hk=>by
  have hkl:=(List.getElem?_eq_some_iff.1 hk).1
  show(zxe a->zsg s (d+1) 0 (k:Int)=_)/\_
  rw[zsg,if_pos (by omega),zrG hk,obs];refine⟨fun h=>?_,fun h=>?_⟩
  ·rw[zxT.some_of h.sum,obs,if_pos rfl,zxT.some_of h.cls,obs,if_pos rfl,zxT.some_of h.most,obs,if_pos rfl,zqr (fI (by omega))]
  ·refine zxT.pick (fun q1=>?_) fun q1=>by rw[if_neg (by decide)]
   rw[if_pos rfl]
   refine zxT.pick (fun q2=>?_) fun q2=>by rw[if_neg (by decide)]
   rw[if_pos rfl]
   refine zxT.pick (fun q3=>absurd ⟨q1,q2,q3⟩ h) fun q3=>by rw[if_neg (by decide)]) (fun d=>by show zsg s (d+1) 0 _=_; rw[zsg,if_neg (Int.lt_irrefl _)]) (d:=1000000) (by omega)
 by_cases c6:∀a∈s.Members,zxe a
 ·refine(kM.1 c6).trans ?_
  by_cases c7:∀r∈s.Losses,RgV r
  ·refine(kL.1 c7).trans ?_;rw[if_pos ⟨by omega,c6,c7,c4,c5⟩]
  ·refine(kL.2 c7).trans ?_;rw[if_neg fun h=>c7 h.ls]
 ·refine(kM.2 c6).trans ?_;rw[if_neg fun h=>c6 h.ms]
theorem zxW{s:Soc}(h1:s.Members.length<=8)(h2:s.Losses.length<=6):zt2 s=some (zxK s):=by unfold zt2; rw[zxV h1 h2]; rfl
def zxX(n:Nat)(out:List Int):Nat->Bool:=fun i=>decide (i < n) && !decide ((i:Int)∈out)
def zxY(s:Soc)(out:List Int):Wk:={ s:=s,asked:=mkF (zxX s.Members.length out) }
theorem zxZ(ms:List Mb)(out:List Int):zxj ms (zxX ms.length out):=fun i h=>by
 unfold zxX at h
 simp at h; exact h.1
theorem zx0{l:List Int}{v:Int}(hl:zrQ l):∀d (k:Nat),k<=l.length->l.length - k < d->∃r,zs0 l v d (k:Int)=some r/\(0<=r↔v∈l.drop k)
 | 0,k,_,h=>by omega
 | d+1,k,hk,h=>by
  unfold zrQ at hl;unfold zs0
  by_cases hkn:k=l.length
  ·subst hkn; rw[if_neg (Int.lt_irrefl _)]; exact⟨_,rfl,by simp⟩
  ·have hlt:k < l.length:=by omega
   rw[if_pos (by omega),zrG (List.getElem?_eq_getElem hlt),obs];have hd:=List.drop_eq_getElem_cons hlt
   by_cases hv:v=l[k]
   ·rw[if_pos hv]; exact⟨_,rfl,⟨fun _=>by rw[hd,<- hv]; exact List.mem_cons_self ..,fun _=>by omega⟩⟩
   ·rw[if_neg hv,zqr (fI (by omega)),show(k:Int)+1=((k+1:Nat):Int) by omega];obtain⟨r,h1,h2⟩:=zx0 hl d (k+1) (by omega) (by omega);exact⟨r,h1,h2.trans ⟨fun h=>by rw[hd]; exact List.mem_cons_of_mem _ h,fun h=>by rw[hd] at h; exact(List.mem_cons.1 h).resolve_left hv⟩⟩
theorem zx1{l:List Int}{v:Int}(hl:zrQ l):zs2 l v=some (decide (v∈l)):=by
 unfold zs2 zs1;obtain⟨r,h1,h2⟩:=zx0 (v:=v) hl (l.length+1) 0 (Nat.zero_le _) (by omega);have h1:zs0 l v (l.length+1) 0=some r:=h1;rw[h1,obs];exact congrArg some (decide_eq_decide.2 (h2.trans (by rw[List.drop_zero])))
theorem zx2{s:Soc}{out:List Int}(hl:zrQ out)(h5:s.Members.length<=5):zs4 s out=some (zxY s out):=by
 unfold zs4;have key:=zwg (n:=s.Members.length) (fun d st x=>zs3 s out d s.Treaty.Lo s.Treaty.Hi s.Reserve (st 0) (st 1) (st 2) (st 3) (st 4) x) (stF (zxX s.Members.length out) fun _=>false) (fin:=some (zxY s out)) (fun d k hk=>?_) (fun d=>?_) (s.Members.length+1) 0 (by omega) (by omega)
 ·rw[zwk] at key; exact key
 ·show zs3 s out (d+1) _ _ _ _ _ _ _ _ _=_
  rw[zs3,if_pos (by omega),zx1 hl,obs,zqr (by omega),zqr (fI (by omega))];have e:=zwm (zxX s.Members.length out) (fun _=>false) k
  have e0:(!decide ((k:Int)∈out))=zxX s.Members.length out k:=by unfold zxX; rw[decide_eq_true hk,Bool.true_and]
  rw[e0,e 0,e 1,e 2,e 3,e 4]
 ·show zs3 s out (d+1) _ _ _ _ _ _ _ _ _=_
  rw[zs3,if_neg (by omega)]
  have e1:∀j,stF (zxX s.Members.length out) (fun _=>false) s.Members.length j=zxX s.Members.length out j:=fun j=>by
   unfold stF
   by_cases h:j < s.Members.length
   ·rw[if_pos h]
   ·rw[if_neg h]; unfold zxX; rw[decide_eq_false h]; rfl
  rw[e1 0,e1 1,e1 2,e1 3,e1 4]; rfl
def zx3(n:Nat)(l:List Int):Prop:=l.Pairwise (· < ·)/\∀v∈l,0<=v/\v<=(n:Int) - 1
theorem zx4{l:List Int}:(∀j,0 < j->j < l.length->∀a b,l[j - 1]? = some a->l[j]? = some b->a < b)↔l.Pairwise (· < ·):=by
 constructor
 ·intro h;rw[List.pairwise_iff_getElem];intro i j hi hj hij
  have key:∀d,(hd:i+d+1 < l.length)->l[i] < l[i+d+1]:=fun d=>by
   induction d with
   | zero=>intro hd; exact h (i+1) (by omega) hd _ _ (List.getElem?_eq_getElem hi) (List.getElem?_eq_getElem hd)
   | succ d ih=>
    intro hd;have h1:=ih (by omega);have h2:=h (i+(d+1)+1) (by omega) hd _ _ (List.getElem?_eq_getElem (show i+d+1 < l.length by omega)) (List.getElem?_eq_getElem hd);exact Int.lt_trans h1 h2
  have:=key (j - i - 1) (by omega)
  simpa [show i+(j - i - 1)+1=j by omega] using this
 ·intro h j h0 hj a b ha hb;obtain⟨h1,rfl⟩:=List.getElem?_eq_some_iff.1 ha;obtain⟨h2,rfl⟩:=List.getElem?_eq_some_iff.1 hb;exact List.pairwise_iff_getElem.1 h (j - 1) j h1 h2 (by omega)
theorem zx5{l:List Int}(hl:zrQ l):Ev (zsU l) (l.Pairwise (· < ·)):=by
 unfold zrQ at hl;unfold zsU
 by_cases h0:l.length=0
 ·have:l=[]:=List.eq_nil_of_length_eq_zero h0;subst this
  show Ev (zsT [] 1 1) _
  rw[zsT,if_neg (by decide)];exact Ev.tt .nil
 ·have e:∃n,l.length=n+1:=⟨l.length - 1,by omega⟩;obtain⟨n,hn⟩:=e
  have key:=zrK (n:=n) (F:=fun d x=>zsT l d (x+1)) (ok:=fun j=>∀a b,l[j]? = some a->l[j+1]? = some b->a < b) (bad:=some false) (fin:=some true) (fun d k hk=>by
   show(_->zsT l (d+1) ((k:Int)+1)=_)/\_
   have ha:=List.getElem?_eq_getElem (show k < l.length by omega);have hb:=List.getElem?_eq_getElem (show k+1 < l.length by omega);rw[zsT,if_pos (by omega),zrH (show(k:Int)+1=((k+1:Nat):Int) by omega) (show k+1 < l.length by omega),obs,zqr (fI (by omega)),zrH (show(k:Int)+1 - 1=(k:Int) by omega) (show k < l.length by omega),obs];refine⟨fun h=>?_,fun h=>?_⟩
   ·have:=h _ _ ha hb;rw[if_neg (by omega),zqr (fI (by omega))]
   ·rw[if_pos]
    apply Classical.byContradiction
    intro h2
    exact h fun a b h3 h4=>by rw[ha] at h3; rw[hb] at h4; cases h3; cases h4; omega) (fun d=>by show zsT l (d+1) _=_; rw[zsT,if_neg (by omega)]) (d:=((l.length:Int) - 1).toNat+1) (by omega)
  have e0:zsT l (((l.length:Int) - 1).toNat+1) (0+1)=zsT l (((l.length:Int) - 1).toNat+1) 1:=rfl
  have hiff:(∀j,j < n->∀a b,l[j]? = some a->l[j+1]? = some b->a < b)↔l.Pairwise (· < ·):=by
   rw[<- zx4]
   constructor
   ·intro h j h0 hj a b h1 h2;have:=h (j - 1) (by omega) a b h1;rw[show j - 1+1=j by omega] at this;exact this h2
   ·intro h j hj a b h1 h2;exact h (j+1) (by omega) (by omega) a b (by rw[Nat.add_sub_cancel]; exact h1) h2
  by_cases hq:∀j,j < n->∀a b,l[j]? = some a->l[j+1]? = some b->a < b
  ·have:=key.1 hq;exact⟨true,this,⟨fun _=>hiff.1 hq,fun _=>rfl⟩⟩
  ·have:=key.2 hq;exact⟨false,this,⟨fun h=>(by cases h),fun h=>absurd (hiff.2 h) hq⟩⟩
theorem zx6{s:Soc}{l:List Int}(hl:zrQ l)(hm:zrQ s.Members):Ev (zsZ s l) (zx3 s.Members.length l):=by
 unfold zrQ at hm;refine((zx5 hl).and fun _=>(Ev.each (q:=fun v=>0<=v/\v<=(s.Members.length:Int) - 1) (fun v _=>?_) hl.lt gI).ret).imp Iff.rfl;exact Ev.gd (fI (by omega)) zxM.ret
theorem zx7{s:Soc}{out:List Int}(hs:zxJ s)(hl:zrQ out)(ho:zx3 s.Members.length out):zs5 s out=some (zxY s out,0):=by
 have h1:=hs.m5; have h2:=hs.l3;unfold zs5;rw[zxS (by unfold zrQ; omega) (by unfold zrQ; omega),obs,if_pos (zxL.2 hs),(zx6 hl (by unfold zrQ; omega)).some_of ho,obs,if_pos rfl,zx2 hl h1,obs]
theorem zx8(n:Nat):zx3 n []:=⟨.nil,fun _ h=>by cases h⟩
def zx9(lo hi:Int):List Int:=(List.range (hi - lo+1).toNat).map fun(k:Nat)=>lo+(k:Int)
theorem zya{lo hi x:Int}:x∈zx9 lo hi↔lo<=x/\x<=hi:=by
 unfold zx9;rw[List.mem_map]
 constructor
 ·rintro⟨k,h1,rfl⟩
  have:=List.mem_range.1 h1
  omega
 ·intro h; exact⟨(x - lo).toNat,List.mem_range.2 (by omega),by omega⟩
def zyb(g:Rg->Int)(l:List Rg):Int:=zwx (l.map g)
theorem zyc{l:List Rg}(h:∀r∈l,RgV r):0<=zyb (·.Lo) l/\zyb (·.Lo) l<=zyb (·.Hi) l/\zyb (·.Hi) l<=100000 * l.length/\zyb (·.Hi) l<=zyb (·.Lo) l+30 * l.length:=by
 induction l with
 | nil=>exact⟨Int.le_refl _,Int.le_refl _,Int.le_refl _,Int.le_refl _⟩
 | cons r l ih=>
  have ih:=ih fun r hr=>h r (List.mem_cons_of_mem _ hr);have hr:=h r (List.mem_cons_self ..);unfold RgV at hr;have e1:zyb (·.Lo) (r::l)=r.Lo+zyb (·.Lo) l:=rfl;have e2:zyb (·.Hi) (r::l)=r.Hi+zyb (·.Hi) l:=rfl;rw[e1,e2,List.length_cons]
  omega
def loN(s:Soc):Int:=max 0 (zyb (·.Lo) s.Losses - s.Reserve - s.Treaty.Hi)
def hiN(s:Soc):Int:=max 0 (zyb (·.Hi) s.Losses - s.Reserve - s.Treaty.Lo)
theorem zyd{s:Soc}(hs:zxJ s):0<=loN s/\loN s<=hiN s/\hiN s<=300000/\hiN s<=loN s+120:=by
 have h:=zyc hs.full.ls;have h1:=hs.l3;have h2:=hs.full.tr;have h3:=hs.full.rs;unfold RgV at h2;unfold loN hiN
 omega
theorem zye{g:Rg->Int}{l:List Rg}{k:Nat}{a:Rg}(h:l[k]? = some a):zyb g (l.take (k+1))=zyb g (l.take k)+g a:=by
 unfold zyb;rw[List.take_add_one,h,List.map_append,zwy]
 show _+(g a+0)=_; omega
theorem zyf{s:Soc}{a b:Int}(h:0<=a/\a<=1000000)(hb:0<=b/\b<=1000000)(hr:0<=s.Reserve/\s.Reserve<=100000):zs6 s a b=some (max 0 (a - s.Reserve - b)):=by
 unfold zs6;rw[zqr (fI (by omega)),zqr (fI (by omega))]
theorem zyg{hi:Int}(hh:hi<=1000000):∀(d:Nat) (x:Int),0<=x->(hi - x+1).toNat < d->zs7 hi d x=some (zx9 x hi)
 | 0,_,_,h=>by omega
 | d+1,x,hx,h=>by
  rw[zs7]
  by_cases hc:x<=hi
  ·rw[if_pos hc,zqr (fI (by omega)),zyg hh d (x+1) (by omega) (by omega),obs]
   have e:(hi - x+1).toNat=(hi - (x+1)+1).toNat+1:=by omega
   have e2:zx9 x hi=x::zx9 (x+1) hi:=by
    unfold zx9;rw[e,List.range_succ_eq_map,List.map_cons,List.map_map];refine congr (congrArg List.cons (by show x+((0:Nat):Int)=x; omega)) (List.map_congr_left fun k _=>?_)
    show x+((k+1:Nat):Int)=x+1+(k:Int)
    omega
   rw[e2]
  ·rw[if_neg hc]
   have e:(hi - x+1).toNat=0:=by omega
   unfold zx9; rw[e]; rfl
theorem zyh{s:Soc}(hs:zxJ s):zta s=some (zx9 (loN s) (hiN s)):=by
 have hb:=zyc hs.full.ls;have hn:=zyd hs;have h3:=hs.l3;have htr:=hs.full.tr;unfold RgV at htr;have hrs:=hs.full.rs
 have e:zs9 s=some (zx9 (loN s) (hiN s)):=by
  unfold zs9;refine zwg (n:=s.Losses.length) (fun d (st:Int × Int) x=>zs8 s d st.1 st.2 x) (fun k=>(zyb (·.Lo) (s.Losses.take k),zyb (·.Hi) (s.Losses.take k))) (fun d k hk=>?_) (fun d=>?_) (s.Losses.length+1) 0 (by omega) (by omega)
  ·have hg:=List.getElem?_eq_getElem hk;have h1:=zyc (l:=s.Losses.take k) fun r hr=>hs.full.ls r (List.mem_of_mem_take hr);have h2:=hs.full.ls _ (List.getElem_mem hk)
   have h4:(s.Losses.take k).length<=3:=by rw[List.length_take]; omega
   unfold RgV at h2
   show zs8 s (d+1) (zyb _ _) (zyb _ _) (k:Int)=zs8 s d (zyb _ _) (zyb _ _) _
   rw[zs8,if_pos (by omega),zrG hg,obs,zqr (fI (by omega)),zqr (fI (by omega)),zqr (fI (by omega)),zye hg,zye hg]
  ·show zs8 s (d+1) (zyb _ _) (zyb _ _) _=_
   rw[zs8,if_neg (Int.lt_irrefl _),List.take_length,zyf (by omega) (by omega) hrs,obs,zyf (by omega) (by omega) hrs,obs];exact zyg (by unfold hiN at hn; omega) _ _ (by omega) (by omega)
 unfold zta;rw[e]; rfl
end
end Go.Proofs.Ytkclhciahokifaa

namespace Go.Proofs.Ytkclhciahokifaa
open _root_.Go.Proofs.Try
open Go.Abs
set_option maxRecDepth 100000
noncomputable section
def Inc(n fr:Nat)(T:List Int):Prop:=T.Pairwise (· < ·)/\∀v∈T,(fr:Int)<=v/\v < n
theorem Inc.cons{n fr:Nat}{x:Int}{T:List Int}:Inc n fr (x::T)↔((fr:Int)<=x/\x < n)/\Inc n (x+1).toNat T:=by
 unfold Inc;rw[List.pairwise_cons]
 constructor
 ·rintro⟨⟨h1,h2⟩,h3⟩
  have hx:=h3 x (List.mem_cons_self ..);exact⟨hx,h2,fun v hv=>by have:=h1 v hv; have:=h3 v (List.mem_cons_of_mem _ hv); omega⟩
 ·rintro⟨hx,h2,h3⟩
  refine⟨⟨fun v hv=>by have:=h3 v hv; omega,h2⟩,fun v hv=>?_⟩
  rcases List.mem_cons.1 hv with rfl | hv
  ·exact hx
  ·have:=h3 v hv; omega
theorem zyi{n:Nat}{D:List Int}:∀{d:Nat} {pre:List Int} {fr:Nat},D∈zrv n d pre fr↔∃T,D=pre++T/\T.length=d/\Inc n fr T
 | 0,pre,fr=>by
  show D∈[pre]↔_
  rw[List.mem_singleton]
  constructor
  ·rintro rfl; exact⟨[],by simp,rfl,.nil,fun v hv=>by cases hv⟩
  ·rintro⟨T,h1,h2,_⟩
   rw[List.eq_nil_of_length_eq_zero h2,List.append_nil] at h1; exact h1
 | d+1,pre,fr=>by
  show D∈zru (fun x=>zrv n d (pre++[(x:Int)]) (x+1)) (n - fr) fr↔_
  rw[zuz]
  constructor
  ·rintro⟨x,h1,h2,h3⟩
   obtain⟨T,h4,h5,h6⟩:=zyi.1 h3;refine⟨(x:Int)::T,by rw[h4]; simp,by simp[h5],Inc.cons.2 ⟨by omega,?_⟩⟩;rw[show((x:Int)+1).toNat=x+1 by omega]; exact h6
  ·rintro⟨T,h1,h2,h3⟩
   cases T with
   | nil=>simp at h2
   | cons v T=>
    obtain⟨h4,h5⟩:=Inc.cons.1 h3;refine⟨v.toNat,by omega,by omega,zyi.2 ⟨T,?_,by simpa using h2,?_⟩⟩
    ·rw[show((v.toNat:Nat):Int)=v by omega,h1]; simp
    ·rw[show v.toNat+1=(v+1).toNat by omega]; exact h5
theorem zyj{n:Nat}:∀{T:List Int} {fr:Nat},Inc n fr T->T.length<=n - fr
 | [],_,_=>Nat.zero_le _
 | v::T,fr,h=>by
  obtain⟨h1,h2⟩:=Inc.cons.1 h;have:=zyj h2
  simp only[List.length_cons]
  omega
theorem zyk{n:Nat}{D:List Int}:D∈zoh n↔Inc n 0 D:=by
 unfold zoh;rw[zuz]
 constructor
 ·rintro⟨s,_,_,h⟩
  obtain⟨T,h1,_,h2⟩:=zyi.1 h;rw[h1]; exact h2
 ·intro h;have:=zyj h;exact⟨D.length,Nat.zero_le _,by omega,zyi.2 ⟨D,rfl,rfl,h⟩⟩
def bef:List Int->List Int->Bool
 | [],[]=>false
 | [],_::_=>true
 | _::_,[]=>false
 | x::a,y::b=>if x=y then bef a b else decide (x < y)
def shB(a b:List Int):Bool:=decide (a.length < b.length) || (decide (a.length=b.length) && bef a b)
theorem zyl:∀A:List Int,bef A A=false
 | []=>rfl
 | x::A=>by show(if x=x then bef A A else _)=_; rw[if_pos rfl,zyl A]
theorem zym:∀A B:List Int,A=B\/bef A B=true\/bef B A=true
 | [],[]=>.inl rfl
 | [],_::_=>.inr (.inl rfl)
 | _::_,[]=>.inr (.inr rfl)
 | x::A,y::B=>by
  show x::A=y::B\/(if x=y then bef A B else decide (x < y))=true\/(if y=x then bef B A else decide (y < x))=true
  by_cases hxy:x=y
  ·subst hxy;rw[if_pos rfl,if_pos rfl]
   rcases zym A B with h | h | h
   ·exact .inl (by rw[h])
   ·exact .inr (.inl h)
   ·exact .inr (.inr h)
  ·rw[if_neg hxy,if_neg fun h=>hxy h.symm]
   by_cases h:x < y
   ·exact .inr (.inl (decide_eq_true h))
   ·exact .inr (.inr (decide_eq_true (by omega)))
theorem zyn{l:List Int}(h:l ≠ [])(hl:l.length<=1048577):ztC l=some (zrS l):=by
 unfold ztC
 cases l with
 | nil=>exact absurd rfl h
 | cons x l=>
  rw[if_neg (by rw[List.length_cons]; omega),zrI rfl,obs];refine(zrR (l:=x::l) (fun s a=>min s a) (fun d s k=>ztB (x::l) d s k) (fun s=>some s) (fun d k s a hk=>?_) (fun d s=>?_) _ 0 x (Nat.zero_le _) (by omega)).trans ?_
  ·have hkl:=(List.getElem?_eq_some_iff.1 hk).1
   show ztB (x::l) (d+1) s (k:Int)=_
   rw[ztB,if_pos (by omega),zrG hk,obs]
   by_cases hc:a < s
   ·rw[if_pos hc,zqr (fI (by omega)),Int.min_eq_right (by omega)]
   ·rw[if_neg hc,zqr (fI (by omega)),Int.min_eq_left (by omega)]
  ·show ztB (x::l) (d+1) s _=_
   rw[ztB,if_neg (Int.lt_irrefl _)]
  ·rw[List.drop_zero]
   show some (l.foldl min (min x x))=_
   rw[Int.min_self]; rfl
theorem zyo{l:List Int}(h:l ≠ [])(hl:l.length<=1048577):ztE l=some (zrT l):=by
 unfold ztE
 cases l with
 | nil=>exact absurd rfl h
 | cons x l=>
  rw[if_neg (by rw[List.length_cons]; omega),zrI rfl,obs];refine(zrR (l:=x::l) (fun s a=>max s a) (fun d s k=>ztD (x::l) d s k) (fun s=>some s) (fun d k s a hk=>?_) (fun d s=>?_) _ 1 x (by rw[List.length_cons]; omega) (by rw[List.length_cons]; omega)).trans ?_
  ·have hkl:=(List.getElem?_eq_some_iff.1 hk).1
   show ztD (x::l) (d+1) s (k:Int)=_
   rw[ztD,if_pos (by omega),zrG hk,obs,zqr (fI (by omega))]
  ·show ztD (x::l) (d+1) s _=_
   rw[ztD,if_neg (Int.lt_irrefl _)]
  ·rfl
theorem zyp{l:List Int}(h:l ≠ []):zrS l∈l/\∀y∈l,zrS l<=y:=by
 cases l with
 | nil=>exact absurd rfl h
 | cons x l=>
  obtain⟨h1,h2,h3⟩:=zrU l x;refine⟨?_,fun y hy=>?_⟩
  ·rcases h1 with h1 | h1
   ·show l.foldl min x∈_; rw[h1]; exact List.mem_cons_self ..
   ·exact List.mem_cons_of_mem _ h1
  ·rcases List.mem_cons.1 hy with rfl | hy
   ·exact h2
   ·exact h3 y hy
theorem zyq{l:List Int}(h:l ≠ []):zrT l∈l/\∀y∈l,y<=zrT l:=by
 cases l with
 | nil=>exact absurd rfl h
 | cons x l=>
  obtain⟨h1,h2,h3⟩:=zrV l x;refine⟨?_,fun y hy=>?_⟩
  ·rcases h1 with h1 | h1
   ·show l.foldl max x∈_; rw[h1]; exact List.mem_cons_self ..
   ·exact List.mem_cons_of_mem _ h1
  ·rcases List.mem_cons.1 hy with rfl | hy
   ·exact h2
   ·exact h3 y hy
def bnd(s:Soc)(g:Int->Int):Rg:={ Lo:=zrS ((zx9 (loN s) (hiN s)).map g),Hi:=zrT ((zx9 (loN s) (hiN s)).map g) }
def zyr(s:Soc)(out:List Int)(N:Int):Oc:={ need:=N,calls:=mk5 (zxy s.Members (zxX s.Members.length out) N).1 }
theorem zys{s:Soc}(hs:zxJ s):(zx9 (loN s) (hiN s)).length<=121:=by
 have:=zyd hs;unfold zx9; rw[List.length_map,List.length_range]; omega
theorem zyt{s:Soc}(hs:zxJ s):zx9 (loN s) (hiN s) ≠ []:=fun h=>by
 have:=zyd hs;have:loN s∈zx9 (loN s) (hiN s):=zya.2 (by omega)
 rw[h] at this; cases this
theorem zyu{s:Soc}(hs:zxJ s)(g:Int->Int):(∃N,(loN s<=N/\N<=hiN s)/\g N=(bnd s g).Lo)/\(∃N,(loN s<=N/\N<=hiN s)/\g N=(bnd s g).Hi)/\∀N,loN s<=N/\N<=hiN s->(bnd s g).Lo<=g N/\g N<=(bnd s g).Hi:=by
 have hne:(zx9 (loN s) (hiN s)).map g ≠ []:=fun h=>zyt hs (List.map_eq_nil_iff.1 h);obtain⟨a1,a2⟩:=zyp hne;obtain⟨b1,b2⟩:=zyq hne;obtain⟨x,hx,ex⟩:=List.mem_map.1 a1;obtain⟨y,hy,ey⟩:=List.mem_map.1 b1;exact⟨⟨x,zya.1 hx,ex⟩,⟨y,zya.1 hy,ey⟩,fun N hN=>⟨a2 _ (List.mem_map.2 ⟨N,zya.2 hN,rfl⟩),b2 _ (List.mem_map.2 ⟨N,zya.2 hN,rfl⟩)⟩⟩
theorem zyv{s:Soc}(hs:zxJ s):bnd s (fun N=>N)={ Lo:=loN s,Hi:=hiN s }:=by
 obtain⟨⟨x,hx,ex⟩,⟨y,hy,ey⟩,h⟩:=zyu hs fun N=>N;have hb:=zyd hs;have h1:=(h (loN s) ⟨Int.le_refl _,hb.2.1⟩).1;have h2:=(h (hiN s) ⟨hb.2.1,Int.le_refl _⟩).2
 have e1:(bnd s fun N=>N).Lo=loN s:=by omega
 have e2:(bnd s fun N=>N).Hi=hiN s:=by omega
 revert e1 e2
 generalize bnd s (fun N=>N)=r;intro e1 e2
 cases r
 exact congr (congrArg Rg.mk e1) e2
theorem zyw{s:Soc}(hs:zxJ s)(out:List Int){N:Int}(hN:0<=N/\N<=1000000):zty (zxY s out) N=some (zyr s out N):=zxA (w:=zxY s out) hs.msOk rfl (zxZ s.Members out) hN
theorem zyx{s:Soc}(hs:zxJ s){out:List Int}{q:Qu}{g:Int->Int}(hg:∀N,loN s<=N->N<=hiN s->q.ask (zyr s out N)=some (g N)) :
  ∀(L:List Int) (acc:List Int),(∀N∈L,loN s<=N/\N<=hiN s)->acc.length+L.length<=1000->acc++L.map g ≠ []->ztF (zxY s out) q L acc=some { Lo:=zrS (acc++L.map g),Hi:=zrT (acc++L.map g) }
 | [],acc,_,hl,hne=>by
  rw[List.map_nil,List.append_nil] at hne ⊢;rw[ztF,zyn hne (by omega),obs,zyo hne (by omega),obs]
 | N::L,acc,hN,hl,hne=>by
  have h1:=hN N (List.mem_cons_self ..);have hb:=zyd hs;rw[List.length_cons] at hl;rw[ztF,zyw hs out (by omega),obs,hg N h1.1 h1.2,obs,zqr (by omega),zyx hs hg L (acc++[g N]) (fun x hx=>hN x (List.mem_cons_of_mem _ hx)) (by rw[List.length_append]; show acc.length+1+_<=_; omega) (by simp)];rw[List.map_cons,List.append_assoc]; rfl
theorem zyy{s:Soc}(hs:zxJ s){out:List Int}{q:Qu}{g:Int->Int}(hg:∀N,loN s<=N->N<=hiN s->q.ask (zyr s out N)=some (g N)):ztG (zxY s out) q=some (bnd s g):=by
 unfold ztG;rw[show(zxY s out).s=s from rfl,zyh hs,obs];have hl:=zys hs;exact zyx hs hg _ [] (fun N hN=>zya.1 hN) (by show 0+_<=_; omega) (fun h=>zyt hs (List.map_eq_nil_iff.1 h))
theorem zyz{s:Soc}(hs:zxJ s):ztO s=some ({ Lo:=loN s,Hi:=hiN s },0):=by
 unfold ztO;rw[zx7 hs (Nat.zero_le _) (zx8 _),obs,if_pos rfl,zyy hs (g:=fun N=>N) (fun N _ _=>rfl),obs,zyv hs]
theorem zyA{s:Soc}(hs:zxJ s)(out:List Int){N:Int}(hN:0<=N/\N<=1000000):ztn (zyr s out N)=some (zxy s.Members (zxX s.Members.length out) N).2:=by
 have hsup:=zxZ s.Members out;have h1:=zxE hs.msOk hsup hN
 have hb:Bd 1000000000000 (zxy s.Members (zxX s.Members.length out) N).1:=fun i hi=>by have:=zxH hs.msOk hsup hN hi; omega
 have hb5:=fun i hi=>zxH hs.msOk hsup hN (i:=i) hi;have b0:=hb5 0 (by omega); have b1:=hb5 1 (by omega); have b2:=hb5 2 (by omega); have b3:=hb5 3 (by omega); have b4:=hb5 4 (by omega)
 have hS:0<=S5 (zxy s.Members (zxX s.Members.length out) N).1/\S5 (zxy s.Members (zxX s.Members.length out) N).1<=500000:=by unfold S5; omega
 unfold ztn
 show(ztc (mk5 (zxy s.Members (zxX s.Members.length out) N).1)).bind _=_
 rw[zwp hb,obs,zqr (fI (by show -9223372036854775808<=N - S5 _/\N - S5 _ < _; omega))];exact congrArg some (show N - S5 (zxy s.Members (zxX s.Members.length out) N).1=_ by omega)
def zyB(s:Soc)(out:List Int)(N:Int):List Int:=(l5 (zxy s.Members (zxX s.Members.length out) N).1).take s.Members.length
theorem zyC{s:Soc}(out:List Int)(N:Int)(h5:s.Members.length<=5):(zyB s out N).length=s.Members.length:=by
 unfold zyB; rw[List.length_take]; show min _ 5=_; omega
theorem zyD{s:Soc}(out:List Int)(N:Int)(h5:s.Members.length<=5){k:Nat}(hk:k < s.Members.length):(zyB s out N)[k]? = some ((zxy s.Members (zxX s.Members.length out) N).1 k):=by
 unfold zyB; rw[List.getElem?_take,if_pos hk]; exact zwh (by omega)
theorem zyE{s:Soc}(hs:zxJ s){N:Int}(hN:0<=N/\N<=300000):ztQ s N=some (zyB s [] N,(zxy s.Members (zxX s.Members.length []) N).2,0):=by
 have h5:=hs.m5;unfold ztQ;rw[zx7 hs (Nat.zero_le _) (zx8 _),obs,if_pos rfl,zxM.some_of hN,obs,if_pos rfl]
 show(zty (zxY s []) N).bind _=_
 rw[zyw hs [] (by omega),obs,zqr (by omega)]
 have e:ztP ((([(zyr s [] N).calls.p0,(zyr s [] N).calls.p1,(zyr s [] N).calls.p2,(zyr s [] N).calls.p3,(zyr s [] N).calls.p4]:List Int).take (Int.toNat (s.Members.length:Int))).drop (Int.toNat (0:Int)))=some (zyB s [] N):=by
  have hl:=zyC [] N h5
  show ztP (zyB s [] N)=_
  unfold ztP;rw[zqr (by rw[hl]; show 0+_<=_; omega)]; rfl
 rw[e,obs,zyA hs [] (by omega),obs]
theorem zyF{s:Soc}(hs:zxJ s)(out:List Int)(N:Int){k:Nat}(hk:k < s.Members.length):ztz (zyr s out N) (k:Int)=some ((zxy s.Members (zxX s.Members.length out) N).1 k):=by
 have h5:=hs.m5;unfold ztz
 show(idx (l5 (zxy s.Members (zxX s.Members.length out) N).1) (k:Int)).bind _=_
 rw[zwi (by omega),obs]
def zyG(s:Soc)(out:List Int):List Rg:=(List.range s.Members.length).map fun k=>bnd s fun N=>(zxy s.Members (zxX s.Members.length out) N).1 k
theorem zyH{s:Soc}(out:List Int):(zyG s out).length=s.Members.length:=by unfold zyG; rw[List.length_map,List.length_range]
theorem zyI{s:Soc}(out:List Int){k:Nat}(hk:k < s.Members.length):(zyG s out)[k]? = some (bnd s fun N=>(zxy s.Members (zxX s.Members.length out) N).1 k):=by
 unfold zyG; rw[List.getElem?_map,List.getElem?_range hk]; rfl
theorem zyJ{s:Soc}(hs:zxJ s){out:List Int}(hl:zrQ out)(ho:zx3 s.Members.length out):ztS s out=some (zyG s out,0):=by
 have h5:=hs.m5;unfold ztS;rw[zx7 hs hl ho,obs,if_pos rfl];refine zwg (n:=s.Members.length) (fun d acc x=>ztR s (zxY s out,0) d acc x) (fun k=>(zyG s out).take k) (fun d k hk=>?_) (fun d=>?_) (s.Members.length+1) 0 (by omega) (by omega)
 ·show ztR s (zxY s out,0) (d+1) _ _=_
  have hb:ztA (k:Int)=some (fun o=>ztz o (k:Int)):=rfl;rw[ztR,if_pos (by omega),hb,obs]
  show(ztG (zxY s out) _).bind _=_
  rw[zyy hs (g:=fun N=>(zxy s.Members (zxX s.Members.length out) N).1 k) (fun N _ _=>zyF hs out N hk),obs,zqr (by rw[List.length_take]; omega),zqr (fI (by omega))];rw[List.take_add_one,zyI out hk]; rfl
 ·show ztR s (zxY s out,0) (d+1) _ _=_
  rw[ztR,if_neg (Int.lt_irrefl _),List.take_of_length_le (by rw[zyH]; exact Nat.le_refl _)]
theorem zyK{s:Soc}(hs:zxJ s):ztT s=some (zyG s [],0):=by
 unfold ztT;rw[zyJ hs (Nat.zero_le _) (zx8 _),obs]
def zyL(s:Soc)(out:List Int)(N:Int):Int:=(zxy s.Members (zxX s.Members.length out) N).2
theorem zyM{s:Soc}(hs:zxJ s):ztU s=some (bnd s (zyL s []),0):=by
 have hb:=zyd hs;unfold ztU;rw[zx7 hs (Nat.zero_le _) (zx8 _),obs,if_pos rfl,zyy hs (g:=zyL s []) (fun N h1 h2=>zyA hs [] (by omega)),obs]
theorem zyN{s:Soc}(hs:zxJ s)(out:List Int):ztH (zxY s out)=some (hiN s):=by
 unfold ztH;rw[zyy hs (g:=fun N=>N) (fun N _ _=>rfl),obs,zyv hs]
theorem zyO(a:Mb){r t:Int}(hu:0<=unN a)(h:r<=t):min (unN a * r / 100) a.Most<=min (unN a * t / 100) a.Most:=by
 have h1:unN a * r<=unN a * t:=Int.mul_le_mul_of_nonneg_left h hu;have h2:=Int.ediv_le_ediv (c:=100) (by omega) h1
 omega
def brN(ms:List Mb)(rate:Int):Int:=zwx (ms.map fun a=>min (unN a * rate / 100) a.Most)
theorem zyP{ms:List Mb}(hm:∀a∈ms,zxe a){r:Int}(hr:0<=r/\r<=10000):0<=brN ms r/\brN ms r<=100000 * ms.length:=by
 induction ms with
 | nil=>exact⟨Int.le_refl _,Int.le_refl _⟩
 | cons a ms ih=>
  have ih:=ih fun a ha=>hm a (List.mem_cons_of_mem _ ha);have ha:=hm a (List.mem_cons_self ..);have hu:=zxg ha;have hmo:=ha.most;have h1:0<=unN a * r / 100:=Int.ediv_nonneg (Int.mul_nonneg (by omega) hr.1) (by omega);have e:brN (a::ms) r=min (unN a * r / 100) a.Most+brN ms r:=rfl;rw[e,List.length_cons]; omega
theorem zyQ{ms:List Mb}(hm:∀a∈ms,zxe a){r t:Int}(h:r<=t):brN ms r<=brN ms t:=by
 induction ms with
 | nil=>exact Int.le_refl _
 | cons a ms ih=>
  have ih:=ih fun a ha=>hm a (List.mem_cons_of_mem _ ha);have h2:=zyO a (by have:=zxg (hm a (List.mem_cons_self ..)); omega) h
  show min _ _+brN ms r<=min _ _+brN ms t
  omega
theorem zyR{ms:List Mb}{r:Int}{k:Nat}{a:Mb}(h:ms[k]? = some a):brN (ms.take (k+1)) r=brN (ms.take k) r+min (unN a * r / 100) a.Most:=by
 unfold brN;rw[List.take_add_one,h,List.map_append,zwy]
 show _+(min (unN a * r / 100) a.Most+0)=_
 rw[Int.add_zero]
theorem zyS{s:Soc}(hs:zxJ s)(out:List Int){r:Int}(hr:0<=r/\r<=10000):ztJ (zxY s out) r=some (brN s.Members r):=by
 have h5:=hs.m5;unfold ztJ;refine zwg (n:=s.Members.length) (fun d acc x=>ztI (zxY s out) r d acc x) (fun k=>brN (s.Members.take k) r) (fun d k hk=>?_) (fun d=>?_) (s.Members.length+1) 0 (by omega) (by omega)
 ·have hg:=List.getElem?_eq_getElem hk;have ha:=hs.full.ms _ (List.getElem_mem hk);have hu:=zxg ha;have hmo:=ha.most;have hb:=zyP (ms:=s.Members.take k) (fun a ha=>hs.full.ms a (List.mem_of_mem_take ha)) hr
  have hlk:(s.Members.take k).length<=5:=by rw[List.length_take]; omega
  have hm:=zwQ (a:=unN s.Members[k]) (x:=r) (A:=10000) (X:=10000) (by omega) hr;have hq:0<=unN s.Members[k] * r / 100:=Int.ediv_nonneg hm.1 (by omega)
  have hun:ztp s.Members[k]=some (unN s.Members[k]):=by
   have h1:=ha.sum; have h2:=ha.cls;unfold unN at hu;unfold ztp unN;rw[zqr (by omega),zqr (by omega),zqr (fI (by omega))]
  show ztI (zxY s out) r (d+1) _ _=_
  rw[ztI,if_pos (show(k:Int) < ((zxY s out).s.Members.length:Int) by show(k:Int) < (s.Members.length:Int); omega),show idx (zxY s out).s.Members (k:Int)=some s.Members[k] from zrG hg,obs,hun,obs,zqr (by omega),zqr hr.1,zqr (fI (by omega)),zqr hm.1,zqr (by omega),zqr (fI (by omega)),zqr (fI (by omega)),zqr (fI (by omega)),zyR hg]
 ·show ztI (zxY s out) r (d+1) _ _=_
  rw[ztI,if_neg (show ¬ ((s.Members.length:Nat):Int) < ((zxY s out).s.Members.length:Int) from Int.lt_irrefl _),List.take_length]
def zyT(s:Soc)(r:Int):Bool:=decide (hiN s<=brN s.Members r)
theorem zyU{s:Soc}(hs:zxJ s){r:Int}(hr:0<=r/\r<=10000):ztK (zxY s []) r=some (zyT s r):=by
 unfold ztK;rw[zyS hs [] hr,obs,zyN hs,obs]; rfl
theorem zyV{p:Int->Option Bool}{f:Nat->Bool}{n:Nat}(hn:n<=1000000)(hp:∀m,m < n->p (m:Int)=some (f m))(hm:∀m k,m<=k->k < n->f m=true->f k=true):∀d (i j:Nat),i<=j->j<=n->j - i < d->(∀m,m < i->f m=false)->(∀m,j<=m->m < n->f m=true) ->
  ∃k:Nat,ztM p d (i:Int) (j:Int)=some (k:Int)/\k<=n/\(∀m,m < k->f m=false)/\(∀m,k<=m->m < n->f m=true)
 | 0,_,_,_,_,h,_,_=>by omega
 | d+1,i,j,hij,hj,h,hlo,hhi=>by
  rw[ztM]
  by_cases hc:i < j
  ·obtain⟨md,hmd⟩:∃md:Nat,md=(i+j) / 2:=⟨_,rfl⟩
   have hf:zl6 .u64 ((i:Int)+j):=show _/\_ by constructor <;> omega
   have e:zmb .i64 (zmb .u64 ((i:Int)+j) / 2)=(md:Int):=by
    rw[wz hf,wz (fI (by omega))]; omega
   rw[if_pos (by omega),zqr (fI (by omega)),zqr (by rw[wz hf]; omega),zqr (by omega),zqr (by omega),zqr (by rw[wz hf]; exact show _/\_ by constructor <;> omega),e,hp md (by omega),obs]
   cases hq:f md with
   | true=>
    rw[if_pos rfl];exact zyV hn hp hm d i md (by omega) (by omega) (by omega) hlo fun m h1 h2=>hm md m h1 h2 hq
   | false=>
    rw[if_neg (by decide),zqr (fI (by omega)),show(md:Int)+1=((md+1:Nat):Int) by omega]
    exact zyV hn hp hm d (md+1) j (by omega) hj (by omega) (fun m h1=>by
     cases hq2:f m with
     | false=>rfl
     | true=>have:=hm m md (by omega) (by omega) hq2; rw[hq] at this; cases this) hhi
  ·rw[if_neg (by omega)];exact⟨i,rfl,by omega,hlo,fun m h1 h2=>hhi m (by omega) h2⟩
theorem zyW{s:Soc}(hs:zxJ s):∃k:Nat,ztN 10001 (fun r=>ztK (zxY s []) r)=some (k:Int)/\k<=10001/\(∀m:Nat,m < k->zyT s m=false)/\(∀m:Nat,k<=m->m < 10001->zyT s m=true):=by
 unfold ztN
 exact zyV (n:=10001) (f:=fun m=>zyT s (m:Int)) (by omega) (fun m hm=>zyU hs (by omega)) (fun m k h1 h2 h3=>by
  have h4:hiN s<=brN s.Members (m:Int):=of_decide_eq_true h3;have h5:=zyQ hs.full.ms (r:=(m:Int)) (t:=(k:Int)) (by omega)
  exact decide_eq_true (by omega)) _ 0 10001 (by omega) (by omega) (by omega) (fun m h=>by omega) (fun m h1 h2=>by omega)
theorem zyX{s:Soc}(hs:zxJ s):(∃k:Nat,ztV s=some ((k:Int),0)/\k<=10000/\hiN s<=brN s.Members (k:Int)/\∀m:Nat,m < k->brN s.Members (m:Int) < hiN s)\/(ztV s=some (0,10)/\∀m:Nat,m<=10000->brN s.Members (m:Int) < hiN s):=by
 obtain⟨k,h1,h2,h3,h4⟩:=zyW hs
 have lt:∀m:Nat,zyT s (m:Int)=false->brN s.Members (m:Int) < hiN s:=fun m h=>by
  have:=of_decide_eq_false h; omega
 unfold ztV;rw[zx7 hs (Nat.zero_le _) (zx8 _),obs,if_pos rfl]
 show(∃k':Nat,(ztN 10001 (fun r=>ztK (zxY s []) r)).bind _=_/\_)\/((ztN 10001 (fun r=>ztK (zxY s []) r)).bind _=_/\_)
 rw[h1,obs]
 by_cases hk:k<=10000
 ·rw[if_neg (by omega)];exact .inl ⟨k,rfl,hk,of_decide_eq_true (h4 k (Nat.le_refl _) (by omega)),fun m hm=>lt m (h3 m hm)⟩
 ·rw[if_pos (by omega)];exact .inr ⟨rfl,fun m hm=>lt m (h3 m (by omega))⟩
def zyY(s:Soc)(l:List Int):Bool:=decide (0 < (bnd s (zyL s l)).Hi)
theorem zyZ{s:Soc}(hs:zxJ s){l:List Int}(hl:zrQ l):ztL s l=some (zyY s l):=by
 have hb:=zyd hs;unfold ztL;rw[zx2 hl hs.m5,obs,zyy hs (g:=zyL s l) (fun N h1 h2=>zyA hs l (by omega)),obs]; rfl
theorem zy0{s:Soc}(hs:zxJ s)(h:hiN s ≠ 0):ztW s=some (zrw s.Members.length (zyY s),0):=by
 have h5:=hs.m5
 have hlen:∀L∈zoh s.Members.length,zrQ L:=fun L hL=>by have:=zyj (zyk.1 hL); unfold zrQ; omega
 unfold ztW;rw[zx7 hs (Nat.zero_le _) (zx8 _),obs,if_pos rfl,zyN hs,obs,if_neg h];unfold zrx;rw[zqr ⟨by omega,by omega,fun L hL=>by show(ztL s L).isSome=true; rw[zyZ hs (hlen L hL)]; rfl⟩,obs];refine congrArg (fun x=>some (x,(0:Int))) ?_
 have e:(zoh s.Members.length).find? (fun L=>((ztL s L)).getD false)=(zoh s.Members.length).find? (zyY s):=by
  have:∀l:List (List Int),(∀L∈l,zrQ L)->l.find? (fun L=>((ztL s L)).getD false)=l.find? (zyY s):=by
   intro l
   induction l with
   | nil=>intro _; rfl
   | cons L l ih=>
    intro hl
    have h1:(ztL s L).getD false=zyY s L:=by rw[zyZ hs (hl L (List.mem_cons_self ..))]; rfl
    rw[List.find?_cons,List.find?_cons,h1,ih fun L hL=>hl L (List.mem_cons_of_mem _ hL)]
  exact this _ hlen
 show zrw s.Members.length (fun L=>((ztL s L)).getD false)=_
 unfold zrw;rw[e]
theorem zy1{a b:List Int}(hl:a.length<=1000):∀(d k:Nat),k<=a.length->a.length - k < d->zsw a b d (k:Int)=some (bef (a.drop k) (b.drop k))
 | 0,_,_,h=>by omega
 | d+1,k,hk,h=>by
  rw[zsw]
  by_cases hka:k < a.length
  ·rw[if_pos (by omega)];have da:=List.drop_eq_getElem_cons hka;have ga:=List.getElem?_eq_getElem hka
   by_cases hkb:k < b.length
   ·have db:=List.drop_eq_getElem_cons hkb;have gb:=List.getElem?_eq_getElem hkb;rw[if_pos (by omega),zrG ga,obs,zrG gb,obs,da,db];unfold bef
    by_cases he:a[k]=b[k]
    ·rw[if_pos he,if_pos he,zqr (fI (by omega)),show(k:Int)+1=((k+1:Nat):Int) by omega];exact zy1 hl d (k+1) (by omega) (by omega)
    ·rw[if_neg he,if_neg he,obs,obs]
   ·rw[if_neg (by omega),da,List.drop_eq_nil_of_le (show b.length<=k by omega),decide_eq_false (by omega)]; rfl
  ·rw[if_neg (by omega),List.drop_eq_nil_of_le (show a.length<=k by omega)]
   by_cases hkb:k < b.length
   ·rw[List.drop_eq_getElem_cons hkb,decide_eq_true (by omega)]; rfl
   ·rw[List.drop_eq_nil_of_le (show b.length<=k by omega),decide_eq_false (by omega)]; rfl
theorem zy2{a b:List Int}(hl:a.length<=1000):zsx a b=some (bef a b):=zy1 hl (a.length+1) 0 (Nat.zero_le _) (by omega)
theorem zy3{a b:List Int}(hl:a.length<=1000):zsy a b=some (shB a b):=by
 unfold zsy shB
 by_cases h1:a.length < b.length
 ·rw[if_pos (by omega),decide_eq_true h1]; rfl
 ·rw[if_neg (by omega),decide_eq_false h1]
  by_cases h2:a.length=b.length
  ·rw[if_pos (by omega),zy2 hl,decide_eq_true h2]; simp
  ·rw[if_neg (by omega),decide_eq_false h2]; simp
theorem zy4{a b:List Int}(hl:a.length=b.length):(bef a b=false/\bef b a=false)↔a=b:=by
 constructor
 ·rintro⟨h1,h2⟩
  rcases zym a b with h | h | h
  ·exact h
  ·rw[h1] at h; cases h
  ·rw[h2] at h; cases h
 ·rintro rfl; exact⟨zyl _,zyl _⟩
theorem zy5{a b:List Int}(ha:a.length<=1000)(hb:b.length<=1000):zsz a b=some (decide (a=b)):=by
 unfold zsz
 by_cases hl:a.length=b.length
 ·rw[if_pos (by omega),zy2 ha,obs];have h:=zy4 hl
  cases h1:bef a b with
  | true=>rw[if_pos rfl,decide_eq_false fun he=>by have:=(h.2 he).1; rw[h1] at this; cases this]
  | false=>
   rw[if_neg (by decide),zy2 hb,obs]
   cases h2:bef b a with
   | true=>rw[decide_eq_false fun he=>by have:=(h.2 he).2; rw[h2] at this; cases this]; rfl
   | false=>rw[decide_eq_true (h.1 ⟨h1,h2⟩)]; rfl
 ·rw[if_neg (by omega),decide_eq_false fun he=>hl (by rw[he])]
def zy6(s:Soc):Prop:=s.Members.length<=8/\s.Losses.length<=6
theorem zy7{s:Soc}:Ev (zt1 s) (zy6 s):=by
 unfold zt1 zy6
 by_cases h:(s.Members.length:Int)<=8
 ·rw[if_pos h]; exact Ev.dec (by omega)
 ·rw[if_neg h]; exact Ev.ff (by omega)
theorem zxJ.thin{s:Soc}(h:zxJ s):zy6 s:=⟨by have:=h.m5; omega,by have:=h.l3; omega⟩
theorem zy8{s:Soc}(h:zy6 s):zt0 s=some s:=by
 unfold zt0
 show ztZ s 1000000 [] [] s.Treaty.Lo s.Treaty.Hi s.Reserve 0=_
 obtain⟨h1,h2⟩:=h
 have k1:ztY s s.Members 1000000 [] s.Treaty.Lo s.Treaty.Hi s.Reserve 0=some s:=by
  refine(zrM (l:=s.Losses) (fun r=>r) (F:=fun d acc x=>ztY s s.Members d acc s.Treaty.Lo s.Treaty.Hi s.Reserve x) (fun acc=>some ({ Members:=s.Members,Losses:=acc,Treaty:=s.Treaty,Reserve:=s.Reserve }:Soc)) (fun d k acc a hk ha=>?_) (fun d acc=>?_) (d:=1000000) (by omega)).trans (by rw[List.map_id'])
  ·have hkl:=(List.getElem?_eq_some_iff.1 hk).1
   show ztY s s.Members (d+1) _ _ _ _ _=_
   rw[ztY,if_pos (by omega),zrG hk,obs]
   show(some a).bind _=_
   rw[obs,zqr (by omega),zqr (fI (by omega))]
  ·show ztY s s.Members (d+1) _ _ _ _ _=_
   rw[ztY,if_neg (Int.lt_irrefl _)]
 refine(zrM (l:=s.Members) (fun r=>r) (F:=fun d acc x=>ztZ s d acc [] s.Treaty.Lo s.Treaty.Hi s.Reserve x) (fun acc=>ztY s acc 1000000 [] s.Treaty.Lo s.Treaty.Hi s.Reserve 0) (fun d k acc a hk ha=>?_) (fun d acc=>?_) (d:=1000000) (by omega)).trans (by rw[List.map_id']; exact k1)
 ·have hkl:=(List.getElem?_eq_some_iff.1 hk).1
  show ztZ s (d+1) _ _ _ _ _ _=_
  rw[ztZ,if_pos (by omega),zrG hk,obs,zqr (by omega),zqr (fI (by omega))]
 ·show ztZ s (d+1) _ _ _ _ _ _=_
  rw[ztZ,if_neg (Int.lt_irrefl _)]
theorem zy9{s:Soc}:Ev (zt6 s) (zxJ s):=by
 unfold zt6
 by_cases ht:zy6 s
 ·rw[zy7.some_of ht,obs,if_pos rfl,zxW ht.1 ht.2,obs];exact Ev.dec zxL
 ·rw[zy7.some_not ht,obs,if_neg (by decide)];exact Ev.ff fun h=>ht h.thin
def zza(most:Int):Soc:={ Members:=[{ Sum:=100,Class:=2,Most:=most },{ Sum:=100,Class:=1,Most:=60 },{ Sum:=50,Class:=2,Most:=most }],Losses:=[{ Lo:=200,Hi:=210 },{ Lo:=90,Hi:=90 }],Treaty:={ Lo:=20,Hi:=25 },Reserve:=30 }
theorem zzb(most:Int):zt4 most=some (zza most):=rfl
theorem zzc{most:Int}(h:0<=most/\most<=100000):zxJ (zza most):=by
 refine⟨Nat.le_of_ble_eq_true rfl,Nat.le_of_ble_eq_true rfl,Nat.le_of_ble_eq_true rfl,fun a ha=>?_,fun r hr=>?_,by show RgV ⟨20,25⟩; decide,by show(0:Int)<=30/\(30:Int)<=_; omega⟩
 ·rcases List.mem_cons.1 ha with rfl | ha
  ·exact⟨by show(1:Int)<=100/\(100:Int)<=1000; omega,by show(1:Int)<=2/\(2:Int)<=10; omega,h⟩
  rcases List.mem_cons.1 ha with rfl | ha
  ·exact⟨by decide,by decide,by decide⟩
  rcases List.mem_cons.1 ha with rfl | ha
  ·exact⟨by show(1:Int)<=50/\(50:Int)<=1000; omega,by show(1:Int)<=2/\(2:Int)<=10; omega,h⟩
  ·cases ha
 ·rcases List.mem_cons.1 hr with rfl | hr
  ·decide
  rcases List.mem_cons.1 hr with rfl | hr
  ·decide
  ·cases hr
theorem f64{n:Int}(h:-1000000<=n/\n<=1000000):zl6 .i64 n:=fI (by omega)
theorem zzd:zt5=some true:=by
 have h5:zxJ (zza 500):=zzc (by omega);have h1:zxJ (zza 150):=zzc (by omega)
 have n5:ztO (zza 500)=some ({ Lo:=235,Hi:=250 },0):=by
  rw[zyz h5]
  have e1:loN (zza 500)=235:=by decide +kernel
  have e2:hiN (zza 500)=250:=by decide +kernel
  rw[e1,e2]
 have c5:ztQ (zza 500) 250=some ([127,60,63],0,0):=by
  rw[zyE h5 (by omega)]
  have e1:zyB (zza 500) [] 250=[127,60,63]:=by decide +kernel
  have e2:(zxy (zza 500).Members (zxX (zza 500).Members.length []) 250).2=0:=by decide +kernel
  rw[e1,e2]
 have b5:ztT (zza 500)=some (zyG (zza 500) [],0):=zyK h5
 have eb:zyG (zza 500) []=[{ Lo:=117,Hi:=127 },{ Lo:=59,Hi:=60 },{ Lo:=59,Hi:=63 }]:=by
  have e1:(zyG (zza 500) []).map (·.Lo)=[117,59,59]:=by decide +kernel
  have e2:(zyG (zza 500) []).map (·.Hi)=[127,60,63]:=by decide +kernel
  have e3:(zyG (zza 500) []).length=3:=zyH []
  revert e1 e2 e3
  generalize zyG (zza 500) []=l;intro e1 e2 e3
  match l,e3 with
  | [⟨a1,a2⟩,⟨b1,b2⟩,⟨c1,c2⟩],_=>
   simp only[List.map_cons,List.map_nil,List.cons.injEq,and_true] at e1 e2
   obtain⟨rfl,rfl,rfl⟩:=e1;obtain⟨rfl,rfl,rfl⟩:=e2
   rfl
 have r5:ztV (zza 500)=some (64,0):=by
  have m63:brN (zza 500).Members 63 < 250:=by decide +kernel
  have m64:250<=brN (zza 500).Members 64:=by decide +kernel
  have e2:hiN (zza 500)=250:=by decide +kernel
  rcases zyX h5 with ⟨k,q1,q2,q3,q4⟩ | ⟨q1,q2⟩
  ·rw[e2] at q3 q4
   have hk:k=64:=by
    apply Classical.byContradiction
    intro hne
    rcases Nat.lt_or_ge k 64 with h | h
    ·have:=zyQ h5.full.ms (r:=(k:Int)) (t:=63) (by omega); omega
    ·have:=q4 64 (by omega);have e:((64:Nat):Int)=64:=rfl;rw[e] at this; omega
   subst hk; exact q1
  ·have:=q2 64 (by omega);have e:((64:Nat):Int)=64:=rfl;rw[e2,e] at this; omega
 have x5:ztW (zza 500)=some ([0,2],0):=by
  rw[zy0 h5 (by decide +kernel)]
  have e:zrw (zza 500).Members.length (zyY (zza 500))=[0,2]:=by decide +kernel
  rw[e]
 have x1:ztW (zza 150)=some ([0],0):=by
  rw[zy0 h1 (by decide +kernel)]
  have e:zrw (zza 150).Members.length (zyY (zza 150))=[0]:=by decide +kernel
  rw[e]
 unfold zt5;rw[zzb,obs,n5,obs,obs,c5,obs,obs,b5,obs,obs,r5,obs,obs,x5,obs,zzb,obs,x1,obs,eb];have s1:zsz [127,60,63] [127,60,63]=some true:=zy5 (by decide) (by decide);have s2:zsz [0,2] [0,2]=some true:=zy5 (by decide) (by decide);have s3:zsz [0] [0]=some true:=zy5 (by decide) (by decide);have f:∀n:Int,-1000000<=n/\n<=1000000->zl6 .i64 n:=fun n h=>f64 h
 simp only[zt3,obs,zqr (f 235 (by omega)),zqr (f 250 (by omega)),zqr (f 117 (by omega)),zqr (f 127 (by omega)),zqr (f 59 (by omega)),zqr (f 60 (by omega)),zqr (f 63 (by omega)),s1,s2,s3]
 simp[idx]
 rw[zqr (f 117 (by omega)),zqr (f 127 (by omega)),zqr (f 59 (by omega)),zqr (f 60 (by omega)),zqr (f 59 (by omega)),zqr (f 63 (by omega))]
theorem awk{β:Type}{f:Bool->Option β}:(zt5).bind f=f true:=by rw[zzd,obs]
theorem zze{s:Soc}(hs:zxJ s)(out:List Int){N:Int}(hN:0<=N/\N<=1000000):∀x∈zyB s out N,0<=x/\x<=1000000:=fun x hx=>by
 have h5:=hs.m5;obtain⟨k,hk⟩:=List.mem_iff_getElem?.1 hx;have hlt:=(List.getElem?_eq_some_iff.1 hk).1;rw[zyC out N h5] at hlt;rw[zyD out N h5 hlt] at hk;have:=zxH hs.msOk (zxZ s.Members out) hN (i:=k) (by omega);have:=oi hk
 omega
section
variable {ms:List Mb} {ask:Nat->Bool} {N:Int}
end
theorem zzf{n i:Nat}:zxX n [] i=decide (i < n):=by unfold zxX; simp
theorem wzu{n:Int}(h:0<=n/\n < 4294967296):zmb .i64 n=n:=wz (fI (by omega))
theorem zzg{n:Int}(h:zl6 .u32 n):0<=n/\n < 4294967296:=h
end
end Go.Proofs.Ytkclhciahokifaa

namespace Go.Proofs.Ytkclhciahokifaa
open _root_.Go.Proofs.Try
open Go.Abs
set_option maxRecDepth 100000
noncomputable section
theorem zzh(m:Int)(u:Nat->Int):S5 (fun i=>m * u i)=m * S5 u:=by
 unfold S5; rw[Int.mul_add,Int.mul_add,Int.mul_add,Int.mul_add]
theorem zzi{N N' u U U':Int}(hu:0<=u)(hU:0 < U)(hU':0 < U')(h:N * U'<=N' * U):N * u / U<=N' * u / U':=by
 rw[Int.le_ediv_iff_mul_le hU'];have h1:N * u / U * U<=N * u:=Int.ediv_mul_le _ (by omega);generalize N * u / U=q at h1 ⊢;have h2:q * U * U'<=N * u * U':=Int.mul_le_mul_of_nonneg_right h1 (by omega);have h3:N * U' * u<=N' * U * u:=Int.mul_le_mul_of_nonneg_right h hu
 have e1:q * U * U'=U * (q * U'):=by rw[Int.mul_comm q U,Int.mul_assoc]
 have e2:N * u * U'=N * U' * u:=by rw[Int.mul_assoc,Int.mul_comm u U',<- Int.mul_assoc]
 have e3:N' * U * u=U * (N' * u):=by rw[Int.mul_comm N' U,Int.mul_assoc]
 rw[e1,e2] at h2;rw[e3] at h3;exact Int.le_of_mul_le_mul_left (Int.le_trans h2 h3) hU
section
variable {ms:List Mb}
theorem zzj(sh:Nat->Bool)(p:Nat->Int)(i:Nat):uF ms sh i=uF ms (zwu ms sh p) i+uF ms (fun i=>sh i && !zwu ms sh p i) i:=by
 cases hm:ms[i]? with
 | none=>unfold uF zws; rw[hm]; rfl
 | some a=>
  unfold uF
  cases hs:sh i with
  | false=>
   have ha:zwu ms sh p i=false:=by
    cases hq:zwu ms sh p i with
    | false=>rfl
    | true=>rw[zxm hq] at hs; cases hs
   rw[zxp hs,zxp ha,zxp (by show(sh i && _)=false; rw[hs]; rfl)]; rfl
  | true=>
   rw[zxq hm hs]
   cases ha:zwu ms sh p i with
   | true=>rw[zxq hm ha,zxp (by show(sh i && !zwu ms sh p i)=false; rw[ha]; simp)]; omega
   | false=>rw[zxp ha,zxq hm (by show(sh i && !zwu ms sh p i)=true; rw[hs,ha]; rfl)]; omega
theorem zzk(hms:zxf ms){sh:Nat->Bool}{N:Int}{c:Nat->Int}(hr:RI ms sh N c)(h0:¬ zxh sh=true)(h1:¬ zxh (zwu ms sh (zwR N (uF ms sh)))=true){i:Nat}(hi:zwu ms sh (zwR N (uF ms sh)) i=true) :
  qN N (uF ms sh) i<=qN (N - S5 (mF ms fun i=>sh i && !zwu ms sh (zwR N (uF ms sh)) i)) (uF ms (zwu ms sh (zwR N (uF ms sh)))) i:=by
 have hu:=zxs hms hr.sup h0;have hu':=zxs hms (fun j hj=>hr.sup j (zxm hj)) h1
 have hui:uF ms (zwu ms sh (zwR N (uF ms sh))) i=uF ms sh i:=by
  have hl:=hr.sup i (zxm hi);have hm:=List.getElem?_eq_getElem hl;exact(show uF ms (zwu ms sh (zwR N (uF ms sh))) i=unN ms[i] from zxq hm hi).trans (show uF ms sh i=unN ms[i] from zxq hm (zxm hi)).symm
 have hsum:S5 (uF ms sh)=S5 (uF ms (zwu ms sh (zwR N (uF ms sh))))+S5 (uF ms fun i=>sh i && !zwu ms sh (zwR N (uF ms sh)) i):=by
  rw[<- zwz]; exact zwB fun i _=>zzj sh _ i
 have hdrop:S5 (uF ms sh) * S5 (mF ms fun i=>sh i && !zwu ms sh (zwR N (uF ms sh)) i)<=N * S5 (uF ms fun i=>sh i && !zwu ms sh (zwR N (uF ms sh)) i):=by
  rw[<- zzh,<- zzh];refine zwY fun j hj=>?_
  cases ho:(sh j && !zwu ms sh (zwR N (uF ms sh)) j) with
  | false=>
   have e1:mF ms (fun i=>sh i && !zwu ms sh (zwR N (uF ms sh)) i) j=0:=zxp (by exact ho);have e2:uF ms (fun i=>sh i && !zwu ms sh (zwR N (uF ms sh)) i) j=0:=zxp (by exact ho);rw[e1,e2,Int.mul_zero,Int.mul_zero]; exact Int.le_refl _
  | true=>
   have hm:=(zxu hms hr.sup h0 hr.nn.1 hj).2;obtain⟨hs,a,ha,_⟩:=(zxt _).1 ho
   have e2:uF ms (fun i=>sh i && !zwu ms sh (zwR N (uF ms sh)) i) j=uF ms sh j:=by unfold uF; rw[zxq ha (by exact ho),zxq ha hs]
   have hq:qN N (uF ms sh) j * S5 (uF ms sh)<=N * uF ms sh j:=Int.ediv_mul_le _ (by have:=hu.pos; omega);have h2:S5 (uF ms sh) * mF ms (fun i=>sh i && !zwu ms sh (zwR N (uF ms sh)) i) j<=S5 (uF ms sh) * qN N (uF ms sh) j:=Int.mul_le_mul_of_nonneg_left hm (by have:=hu.pos; omega);rw[e2];rw[Int.mul_comm] at hq
   omega
 unfold qN;rw[hui];refine zzi (zxr hms sh i).1 hu.pos hu'.pos ?_;generalize S5 (mF ms fun i=>sh i && !zwu ms sh (zwR N (uF ms sh)) i)=M at hdrop ⊢;generalize S5 (uF ms fun i=>sh i && !zwu ms sh (zwR N (uF ms sh)) i)=D at hdrop hsum;generalize S5 (uF ms (zwu ms sh (zwR N (uF ms sh))))=U' at hsum ⊢;generalize S5 (uF ms sh)=U at hdrop hsum ⊢
 have e1:N * U=N * U'+N * D:=by rw[hsum,Int.mul_add]
 rw[Int.sub_mul,Int.mul_comm M U]
 omega
theorem zzl(hms:zxf ms):∀(n:Nat) (sh:Nat->Bool) (N:Int) (c:Nat->Int),RI ms sh N c->cF sh < n->∀i a,i < 5->ms[i]? = some a->sh i=true->min a.Most (qN N (uF ms sh) i)<=(roundsN ms n sh N c).1 i
 | 0,_,_,_,_,h=>by omega
 | n+1,sh,N,c,hr,h=>fun i a hi hm hs=>by
  unfold roundsN
  by_cases h0:zxh sh=true
  ·have:=zxk.1 h0 i hi; rw[hs] at this; cases this
  ·rw[if_neg h0];have hc:=hr.c0 i hs;have hq:=zxa N (uF ms sh) i
   by_cases h1:zxi (zwu ms sh (zwR N (uF ms sh))) sh=true
   ·rw[if_pos h1]
    show _<=c i+_
    omega
   ·rw[if_neg h1];have hless:=zxo h1
    cases hb:zwu ms sh (zwR N (uF ms sh)) i with
    | true=>
     have ih:=zzl hms n _ _ _ (hr.next hms h0) (by omega) i a hi hm hb
     have hn2:¬ zxh (zwu ms sh (zwR N (uF ms sh)))=true:=fun hx=>by have:=zxk.1 hx i hi; rw[hb] at this; cases this
     have:=zzk hms hr h0 hn2 hb
     omega
    | false=>
     rw[zxC hms n _ _ _ (hr.next hms h0) (by omega) i hi hb];have e:mF ms (fun i=>sh i && !zwu ms sh (zwR N (uF ms sh)) i) i=a.Most:=zxq hm (by show(sh i && !zwu ms sh _ i)=true; rw[hs,hb]; rfl);rw[e,hc]; omega
theorem zzm(hms:zxf ms):∀(n:Nat) (sh:Nat->Bool) (N:Int) (c:Nat->Int),RI ms sh N c->cF sh < n->∀i k a,i < k->k < 5->ms[i]? = some a->ms[k]? = some a->sh i=true->sh k=true->(roundsN ms n sh N c).1 i=(roundsN ms n sh N c).1 k\/(roundsN ms n sh N c).1 i=(roundsN ms n sh N c).1 k+1
 | 0,_,_,_,_,h=>by omega
 | n+1,sh,N,c,hr,h=>fun i k a hik hk5 hmi hmk hsi hsk=>by
  unfold roundsN
  by_cases h0:zxh sh=true
  ·have:=zxk.1 h0 i (by omega); rw[hsi] at this; cases this
  ·rw[if_neg h0];have hu:=zxs hms hr.sup h0;have hci:=hr.c0 i hsi;have hck:=hr.c0 k hsk
   have hue:uF ms sh i=uF ms sh k:=by unfold uF; rw[zxq hmi hsi,zxq hmk hsk]
   have hqe:qN N (uF ms sh) i=qN N (uF ms sh) k:=by unfold qN; rw[hue]
   have hre:rN N (uF ms sh) i=rN N (uF ms sh) k:=by unfold rN; rw[hue]
   have hrk:=zj9 (r:=rN N (uF ms sh)) (k:=i) (i:=k) (by omega) hk5 (.inr ⟨hre,hik⟩)
   have hp:zwR N (uF ms sh) i=zwR N (uF ms sh) k\/zwR N (uF ms sh) i=zwR N (uF ms sh) k+1:=by
    unfold zwR;rw[hqe]
    by_cases h1:zwJ (rN N (uF ms sh)) k < N - S5 (qN N (uF ms sh))
    ·rw[if_pos h1,if_pos (by omega)]; omega
    ·rw[if_neg h1]; split <;> omega
   by_cases h1:zxi (zwu ms sh (zwR N (uF ms sh))) sh=true
   ·rw[if_pos h1]
    show c i+_=c k+_\/c i+_=c k+_+1
    omega
   ·rw[if_neg h1];have hless:=zxo h1
    have off:∀j,j < 5->sh j=true->c j=0->ms[j]? = some a->zwu ms sh (zwR N (uF ms sh)) j=false->(roundsN ms n (zwu ms sh (zwR N (uF ms sh))) (N - S5 (mF ms fun i=>sh i && !zwu ms sh (zwR N (uF ms sh)) i)) (fun i=>c i+mF ms (fun i=>sh i && !zwu ms sh (zwR N (uF ms sh)) i) i)).1 j=a.Most:=fun j hj hsj hcj hmj hb=>by
     rw[zxC hms n _ _ _ (hr.next hms h0) (by omega) j hj hb];have e:mF ms (fun i=>sh i && !zwu ms sh (zwR N (uF ms sh)) i) j=a.Most:=zxq hmj (by show(sh j && !zwu ms sh _ j)=true; rw[hsj,hb]; rfl);rw[e,hcj,Int.zero_add]
    cases hbi:zwu ms sh (zwR N (uF ms sh)) i with
    | true=>
     cases hbk:zwu ms sh (zwR N (uF ms sh)) k with
     | true=>exact zzm hms n _ _ _ (hr.next hms h0) (by omega) i k a hik hk5 hmi hmk hbi hbk
     | false=>
      rw[zxn hmi,hsi,Bool.true_and] at hbi;rw[zxn hmk,hsk,Bool.true_and] at hbk;have:=of_decide_eq_true hbi;have:=of_decide_eq_false hbk
      omega
    | false=>
     cases hbk:zwu ms sh (zwR N (uF ms sh)) k with
     | false=>
      rw[off i (by omega) hsi hci hmi hbi,off k hk5 hsk hck hmk hbk]; exact .inl rfl
     | true=>
      rw[off i (by omega) hsi hci hmi hbi]
      have hn2:¬ zxh (zwu ms sh (zwR N (uF ms sh)))=true:=fun hx=>by have:=zxk.1 hx k hk5; rw[hbk] at this; cases this
      have h2:=zzk hms hr h0 hn2 hbk;have h3:=zzl hms n _ _ _ (hr.next hms h0) (by omega) k a hk5 hmk hbk;have h4:=(zxD hms n _ _ _ (hr.next hms h0) (by omega) k a hk5 hmk hbk).1.2;rw[zxn hmi,hsi,Bool.true_and] at hbi;have hbk':=hbk;rw[zxn hmk,hsk,Bool.true_and] at hbk';have:=of_decide_eq_false hbi;have:=of_decide_eq_true hbk';have hq:=zxa N (uF ms sh) i
      omega
end
theorem zzn{s:Soc}{one two need:Int}(_:zsa s)(h1:zl6 .u8 one)(h2:zl6 .u8 two)(hn:zl6 .u32 need):zt7 s one two need=some true:=by
 have hn:=zzg hn;have h1:=fU8 h1;have h2:=fU8 h2;unfold zt7
 refine zy9.pick (fun hs=>?_) fun _=>by rw[if_neg (by decide),awk]
 have h5:=hs.m5;rw[if_pos rfl]
 by_cases hl:(s.Members.length:Int) < 2
 ·rw[if_pos hl,awk]
 have hmod1:=Int.emod_nonneg need (show(300001:Int) ≠ 0 by omega);have hmod2:=Int.emod_lt_of_pos need (show(0:Int) < 300001 by omega);rw[if_neg hl,wzu hn,wzu (n:=one) (by omega),wzu (n:=two) (by omega)];generalize need % 300001=n at hmod1 hmod2 ⊢
 have nat:∀x:Int,∃k:Nat,k < s.Members.length/\x % (s.Members.length:Int)=(k:Int):=fun x=>⟨(x % (s.Members.length:Int)).toNat,by
  have a1:=Int.emod_nonneg x (show(s.Members.length:Int) ≠ 0 by omega);have a2:=Int.emod_lt_of_pos x (show(0:Int) < s.Members.length by omega)
  omega,by
  have a1:=Int.emod_nonneg x (show(s.Members.length:Int) ≠ 0 by omega)
  omega⟩
 obtain⟨p,hp,ep⟩:=nat one;obtain⟨q,hq,eq⟩:=nat two;rw[zqr (by omega),zqr (by omega),zqr (fI (by omega)),zqr (by omega),zqr (by omega),zqr (fI (by rw[ep]; omega)),zqr (by omega),zqr (by omega),zqr (fI (by rw[eq]; omega)),ep,eq]
 by_cases hpq:p=q
 ·rw[if_pos (by omega),awk]
 obtain⟨i,k,hik,hk,emin,emax⟩:∃i k:Nat,i < k/\k < s.Members.length/\min (p:Int) (q:Int)=(i:Int)/\max (p:Int) (q:Int)=(k:Int):=by
  rcases Nat.lt_or_ge p q with h | h
  ·exact⟨p,q,h,hq,by omega,by omega⟩
  ·exact⟨q,p,by omega,hp,by omega,by omega⟩
 have gi:=List.getElem?_eq_getElem (show i < s.Members.length by omega);have gk:=List.getElem?_eq_getElem hk;rw[if_neg (by omega),zqr (by show 0+_<=_; omega),emin,emax]
 show(idx s.Members (i:Int)).bind _=_
 rw[zrG gi,obs]
 show(idx s.Members (k:Int)).bind _=_
 rw[zrG gk,obs]
 show(zt0 ({ Members:=s.Members.set k s.Members[i],Losses:=s.Losses,Treaty:=s.Treaty,Reserve:=s.Reserve }:Soc)).bind _=_
 have gi':(s.Members.set k s.Members[i])[i]? = some s.Members[i]:=by rw[List.getElem?_set_ne (by omega)]; exact gi
 have gk':(s.Members.set k s.Members[i])[k]? = some s.Members[i]:=by rw[List.getElem?_set_self hk]
 obtain⟨ms,hmse⟩:∃ms,ms=s.Members.set k s.Members[i]:=⟨_,rfl⟩
 have hml:ms.length=s.Members.length:=by rw[hmse,List.length_set]
 have hx:zxJ { Members:=ms,Losses:=s.Losses,Treaty:=s.Treaty,Reserve:=s.Reserve }:=⟨by show ms.length<=5; omega,hs.l3,by show 0 < ms.length; omega,fun a ha=>by
  have ha:a∈ms:=ha;rw[hmse] at ha
  rcases List.mem_or_eq_of_mem_set ha with h | h
  ·exact hs.full.ms a h
  ·rw[h]; exact hs.full.ms _ (List.getElem_mem _),hs.full.ls,hs.full.tr,hs.full.rs⟩
 rw[<- hmse] at gi' gk' ⊢;have hll:=zyC (s:={ Members:=ms,Losses:=s.Losses,Treaty:=s.Treaty,Reserve:=s.Reserve }) [] n hx.m5;have ci:=zyD (s:={ Members:=ms,Losses:=s.Losses,Treaty:=s.Treaty,Reserve:=s.Reserve }) [] n hx.m5 (k:=i) (by show i < ms.length; omega);have ck:=zyD (s:={ Members:=ms,Losses:=s.Losses,Treaty:=s.Treaty,Reserve:=s.Reserve }) [] n hx.m5 (k:=k) (by show k < ms.length; omega);have hbk:=zze hx [] (N:=n) (by omega) _ (List.mem_of_getElem? ck);have hcf:=zxz (zxX ms.length [])
 have hask:∀j,j < ms.length->zxX ms.length [] j=true:=fun j hj=>by rw[zzf]; exact decide_eq_true hj
 have key:(zxy ms (zxX ms.length []) n).1 i=(zxy ms (zxX ms.length []) n).1 k\/(zxy ms (zxX ms.length []) n).1 i=(zxy ms (zxX ms.length []) n).1 k+1:=zzm hx.msOk 6 (zxX ms.length []) n (fun _=>0) (RI0 (zxZ ms []) (by omega)) (by omega) i k _ hik (by omega) gi' gk' (hask i (by omega)) (hask k (by omega))
 have hge:∀m:Nat,(([]++s.Members).set (Int.toNat (m:Int)) s.Members[i]).length=s.Members.length:=fun m=>by rw[List.length_set]; rfl
 rw[zy8 hx.thin,obs,zyE hx (by omega),obs,if_pos rfl,if_pos (by rw[hll]; exact congrArg Int.ofNat (hml.trans (by rw[List.length_set]; rfl))),zrG ci,obs,zrG ck,obs]
 by_cases he:(zxy ms (zxX ms.length []) n).1 i=(zxy ms (zxX ms.length []) n).1 k
 ·rw[if_pos he,awk]
 ·rw[if_neg he,obs,obs,zqr (fI (by omega)),if_pos (key.resolve_left he),awk]
end
end Go.Proofs.Ytkclhciahokifaa

namespace Go.Proofs.Ytkclhciahokifaa
open _root_.Go.Proofs.Try
open Go.ChangeShapes Go.WideShapes Go.ChangeAt Go.RowKit Go.Abs
set_option maxRecDepth 100000
theorem op3:zrW prog 3 Int (zl6 .i64):=zrX (by kernel_rfl)
theorem zzo:zrW prog 82 Mb zr8:=zr4 (fs:=[(3,0),(3,1),(3,2)]) (by kernel_rfl) (by kernel_rfl) (zr3 (α:=Int) (ok:=zl6 .i64) (k:=1) op3 (by kernel_rfl) rfl (zr3 (α:=Int) (ok:=zl6 .i64) (k:=1) op3 (by kernel_rfl) rfl (zr3 (α:=Int) (ok:=zl6 .i64) (k:=1) op3 (by kernel_rfl) rfl zr2))) (by kernel_rfl) fun m vs h=>by
 obtain⟨a0,c0,r0,m0,h0,p0,k0,s0,⟨a1,c1,r1,m1,h1,p1,k1,s1,⟨a2,c2,r2,m2,h2,p2,k2,s2,rfl⟩⟩⟩:=h;have p0:c0=[.int .i64 a0]:=p0; subst p0;have p1:c1=[.int .i64 a1]:=p1; subst p1;have p2:c2=[.int .i64 a2]:=p2; subst p2;subst h2 h1 h0;exact⟨⟨a0,a1,a2⟩,rfl,⟨k0,k1,k2⟩⟩
theorem zzp:zrW prog 22 (List Mb) (fun l=>l.length<=maxLen/\∀a0∈l,zr8 a0):=zrZ (by kernel_rfl) (by kernel_rfl) zzo
theorem zzq:zrW prog 25 Rg zr6:=zr4 (fs:=[(3,0),(3,1)]) (by kernel_rfl) (by kernel_rfl) (zr3 (α:=Int) (ok:=zl6 .i64) (k:=1) op3 (by kernel_rfl) rfl (zr3 (α:=Int) (ok:=zl6 .i64) (k:=1) op3 (by kernel_rfl) rfl zr2)) (by kernel_rfl) fun m vs h=>by
 obtain⟨a0,c0,r0,m0,h0,p0,k0,s0,⟨a1,c1,r1,m1,h1,p1,k1,s1,rfl⟩⟩:=h;have p0:c0=[.int .i64 a0]:=p0; subst p0;have p1:c1=[.int .i64 a1]:=p1; subst p1;subst h1 h0;exact⟨⟨a0,a1⟩,rfl,⟨k0,k1⟩⟩
theorem zzr:zrW prog 23 (List Rg) (fun l=>l.length<=maxLen/\∀a0∈l,zr6 a0):=zrZ (by kernel_rfl) (by kernel_rfl) zzq
theorem zzs:zrW prog 27 Soc zsa:=zr4 (fs:=[(22,0),(23,1),(25,2),(3,4)]) (by kernel_rfl) (by kernel_rfl) (zr3 (α:=List Mb) (ok:=(fun l=>l.length<=maxLen/\∀a0∈l,zr8 a0)) (k:=1) zzp (by kernel_rfl) rfl (zr3 (α:=List Rg) (ok:=(fun l=>l.length<=maxLen/\∀a0∈l,zr6 a0)) (k:=1) zzr (by kernel_rfl) rfl (zr3 (α:=Rg) (ok:=zr6) (k:=2) zzq (by kernel_rfl) rfl (zr3 (α:=Int) (ok:=zl6 .i64) (k:=1) op3 (by kernel_rfl) rfl zr2)))) (by kernel_rfl) fun m vs h=>by
 obtain⟨a0,c0,r0,m0,h0,p0,k0,s0,⟨a1,c1,r1,m1,h1,p1,k1,s1,⟨a2,c2,r2,m2,h2,p2,k2,s2,⟨a3,c3,r3,m3,h3,p3,k3,s3,rfl⟩⟩⟩⟩:=h;obtain⟨d0,rfl,p0⟩:=p0;obtain⟨d1,rfl,p1⟩:=p1;have p2:c2=[.int .i64 a2.Lo,.int .i64 a2.Hi]:=p2; subst p2;have p3:c3=[.int .i64 a3]:=p3; subst p3;subst h3 h2 h1 h0;exact⟨⟨a0,a1,a2,a3⟩,⟨_,_,rfl,p0,p1⟩,⟨k0,k1,k2,k3⟩⟩
theorem zzt:laidOutB prog=true:=by kernel_rfl
theorem zzu:ownKnob prog.godebug=none:=by kernel_rfl
theorem zzv(os:Os)(started:os.Started)(H:Type)(enc:TypeId × Value->H) :
    ReturnsInHanded {} Try.checked os 10 .any (Rows.callEqualSpec.pre6 enc Try.prog Try.f10 Rows.callEqualRow.domain false) (Rows.callEqualSpec.post enc Try.prog Try.f10 false true false false):=by
  refine returnsInHanded_of_change (C:=Try.checked) zzu started (by kernel_rfl) Try.func10
    (ChangeSpec.witness6 (enc:=enc) (C:=Try.checked) false ⟨#[],#[.agg #[.slice none 0 0,.slice none 0 0,.int .i64 0,.int .i64 0,.int .i64 0],.int .u8 0,.int .u8 0,.int .u32 0],[]⟩ 8 (by kernel_rfl) (by kernel_rfl) (by kernel_rfl) (by kernel_rfl)) ?_
  intro W base args ds gs before hval0 hW hcnd _;have hval:∀(j:Nat) t v,Try.f10.params[j]? = some t->args[j]? = some v->Value.okWide Try.prog W .any base t v:=hval0;have hW':=hW;obtain⟨p,q,hA0,hV,rfl,hfz,hnd⟩:=hW;have hA:DataW.TrodAll enc Try.prog W 0 (fun _=>true) true Try.f10.params.toList args.toList ds p:=hA0;rw[Try.params10] at hA hval;obtain⟨v0,v1,v2,v3,d0,d1,d2,d3,p0,p1,p2,p3,rfl,rfl,rfl,h0,h1,h2,h3⟩:=trodAll_four hA;obtain⟨rfl,rfl⟩:=trodVars_none hV;obtain⟨n1,hv1⟩:=okWide_int Try.underlying5 (hval 1 5 v1 rfl rfl);obtain⟨n2,hv2⟩:=okWide_int Try.underlying5 (hval 2 5 v2 rfl rfl);obtain⟨n3,hv3⟩:=okWide_int Try.underlying88 (hval 3 88 v3 rfl rfl)
  have hlt:∀x∈p0++p1++p2++p3,x.block < W.heap.size:=fun x hx=>by simpa using hW'.lt x (by simpa using hx)
  obtain⟨fu0,hf0⟩:=id h0;obtain⟨fu1,hf1⟩:=id h1;obtain⟨fu2,hf2⟩:=id h2;obtain⟨fu3,hf3⟩:=id h3
  clear hA0 hval0
  obtain⟨e0,m0,w0,a_0,le0,sv0,lay0,cr0,zuA,ok0⟩:=zzs H enc W true _ _ _ hf0 _ _ (Lay.nil W);obtain⟨i1,hc1,_,hw1⟩:=DataW.trod_int Try.underlying5 hf1;obtain⟨i2,hc2,_,hw2⟩:=DataW.trod_int Try.underlying5 hf2;obtain⟨i3,hc3,_,hw3⟩:=DataW.trod_int Try.underlying88 hf3;obtain⟨c0_0,c0_1,rfl,g0_0,g0_1⟩:=zuA
  obtain⟨cs0,hv0,cl0⟩:∃cs,v0=.agg cs/\v0.cells.toList=cs.toList:=by
    have hl:=cr0.length
    cases v0 with
    | agg cs=>exact⟨cs,rfl,rfl⟩
    | _=>exact absurd hl (by simp[Value.cells])
  subst hv0;subst hv1
  have hi1:i1=n1:=by
    have h:[Value.int .u8 n1]=[.int .u8 i1]:=hc1
    cases h; rfl
  subst hi1;subst hv2
  have hi2:i2=n2:=by
    have h:[Value.int .u8 n2]=[.int .u8 i2]:=hc2
    cases h; rfl
  subst hi2;subst hv3
  have hi3:i3=n3:=by
    have h:[Value.int .u32 n3]=[.int .u32 i3]:=hc3
    cases h; rfl
  subst hi3;have hargs:zeq (VR e0) [.agg 5 [c0_0,c0_1,.int .i64 a_0.Treaty.Lo,.int .i64 a_0.Treaty.Hi,.int .i64 a_0.Reserve],.c (.int .u8 i1),.c (.int .u8 i2),.c (.int .u32 i3)] [.agg cs0,.int .u8 i1,.int .u8 i2,.int .u32 i3]:=.cons ⟨cs0,rfl,cr0,rfl⟩ (.cons rfl (.cons rfl (.cons rfl .nil)));refine(callsIn_wide.1 (zqC fits htab (zwf (s:=a_0) (one:=i1) (two:=i2) (need:=i3) lay0.pre g0_0 g0_1 (zzn ok0 (zqA hw1) (zqA hw2) (zqA hw3)) (Q:=fun v _=>v=.c (.bool true)) fun _ _=>rfl) lay0.hr (args':=#[.agg cs0,.int .u8 i1,.int .u8 i2,.int .u32 i3]) hargs 0)).mono fun en W' hp=>?_;obtain⟨v,v',e',m',rfl,hst,hvr,rfl⟩:=hp;have hv':v'=.bool true:=hvr;subst hv';have hbelow:=lay0.below hst
  refine⟨_,rfl,[d0,d1,d2,d3],[],p0++p1++p2++p3,[],p0++(p1++(p2++p3)),[],by simpa using hW',trodAll_mk1 (shut_bool Try.underlying4 _),
    trodAll_mk4 (Below.trod zzt (by kernel_rfl) (of_decide_eq_true (by kernel_rfl)) h0 hbelow fun x hx=>hlt x (by simp[hx])) (Below.trod zzt (by kernel_rfl) (of_decide_eq_true (by kernel_rfl)) h1 hbelow fun x hx=>hlt x (by simp[hx])) (Below.trod zzt (by kernel_rfl) (of_decide_eq_true (by kernel_rfl)) h2 hbelow fun x hx=>hlt x (by simp[hx])) (Below.trod zzt (by kernel_rfl) (of_decide_eq_true (by kernel_rfl)) h3 hbelow fun x hx=>hlt x (by simp[hx])),rfl,lay0.kept hst _,fun hc=>by cases hc⟩
theorem CallEqual_holds:Rows.CallEqualSaid:=
 OpenClaim.holds_of_wide 10 Try.f10 rfl rfl rfl rfl rfl rfl rfl ⟨rfl,rfl,rfl,rfl,rfl⟩ rfl rfl rfl rfl rfl (by kernel_rfl) Try.func10 (by kernel_rfl)
  (of_decide_eq_true (by kernel_rfl)) (by unfold Func.isWrapper; first | (rw[if_pos (by decide +kernel)]; kernel_rfl) | (rw[if_neg (by decide +kernel)]; exact⟨rfl,rfl⟩))
  (fun os started H enc _=>zzv os started H enc)
end Go.Proofs.Ytkclhciahokifaa

