/- CallOrder, for all that it can be called with, returns true. Condition: none. -/
import Derived.Test.YtkclhciahokifaaCaH
import GoSem.Step
import GoSem.ClaimKeys
import Derived.DeepKeys2
import Derived.RangeFuncLeaves
import Derived.OrdersIn
import Derived.Laws.World
import Derived.Laws.Sem
import Derived.RangeFuncRecord
import Derived.Laws.CopyRow
import Derived.Laws.Append
import Derived.Laws.Rows
import Derived.Laws.Slices
import Derived.Laws.Entries
import Derived.ChangeKeysEq
import Derived.IntWalk
import Derived.DeepKeys
import Derived.DeepKeys3
import Derived.Laws.StructEq
import Derived.MapKept
import Derived.Laws.AppendOwn
import Derived.ChangeArms
import Derived.ChangeOld
import Derived.Carry
import Derived.ChangeShapes
import Derived.KernelRfl
import Derived.ProofKit
import Derived.Test.YtkclhciahokifaaRows

namespace Go.Proofs.Ytkclhciahokifaa
open _root_.Go.Proofs.Try
open Go.Abs
set_option maxRecDepth 100000
noncomputable section
structure zxn (a:Mb):Prop where
 sum:1<=a.Sum/\a.Sum<=1000
 cls:1<=a.Class/\a.Class<=10
 most:0<=a.Most/\a.Most<=100000
def zxo(ms:List Mb):Prop:=ms.length<=5/\∀a∈ms,zxn a
def unN(a:Mb):Int:=a.Sum * a.Class
theorem zxp{a:Mb}(h:zxn a):1<=unN a/\unN a<=10000:=by
 have h1:=zwZ (a:=a.Sum) (x:=a.Class) (A:=1000) (X:=10) ⟨by have:=h.sum; omega,h.sum.2⟩ ⟨by have:=h.cls; omega,h.cls.2⟩;have h2:a.Sum * 1<=a.Sum * a.Class:=Int.mul_le_mul_of_nonneg_left h.cls.1 (by have:=h.sum; omega);have:=h.sum;unfold unN; omega
def uF(ms:List Mb)(sh:Nat->Bool):Nat->Int:=zwB ms sh unN
def mF(ms:List Mb)(sh:Nat->Bool):Nat->Int:=zwB ms sh (·.Most)
def zxq(sh:Nat->Bool):Bool:=(sh 0 == false) && ((sh 1 == false) && ((sh 2 == false) && ((sh 3 == false) && (sh 4 == false))))
def zxr(a b:Nat->Bool):Bool:=(a 0 == b 0) && ((a 1 == b 1) && ((a 2 == b 2) && ((a 3 == b 3) && (a 4 == b 4))))
def zxs(ms:List Mb)(sh:Nat->Bool):Prop:=∀i,sh i=true->i < ms.length
def roundsN(ms:List Mb):Nat->(Nat->Bool)->Int->(Nat->Int)->(Nat->Int) × Int
 | 0,_,N,c=>(c,N)
 | d+1,sh,N,c=>if zxq sh=true then (c,N) else
   if zxr (zwD ms sh (zw0 N (uF ms sh))) sh=true then (fun i=>c i+zw0 N (uF ms sh) i,0) else
    roundsN ms d (zwD ms sh (zw0 N (uF ms sh))) (N - S5 (mF ms fun i=>sh i && !zwD ms sh (zw0 N (uF ms sh)) i)) (fun i=>c i+mF ms (fun i=>sh i && !zwD ms sh (zw0 N (uF ms sh)) i) i)
def cF(sh:Nat->Bool):Nat:=(sh 0).toNat+(sh 1).toNat+(sh 2).toNat+(sh 3).toNat+(sh 4).toNat
theorem zxt{sh:Nat->Bool}:zxq sh=true↔∀i,i < 5->sh i=false:=by
 unfold zxq
 simp only[Bool.and_eq_true,beq_iff_eq]
 constructor
 ·rintro⟨h0,h1,h2,h3,h4⟩ i hi
  match i,hi with
  | 0,_=>exact h0
  | 1,_=>exact h1
  | 2,_=>exact h2
  | 3,_=>exact h3
  | 4,_=>exact h4
 ·intro h; exact⟨h 0 (by omega),h 1 (by omega),h 2 (by omega),h 3 (by omega),h 4 (by omega)⟩
theorem zxu{a b:Nat->Bool}:zxr a b=true↔∀i,i < 5->a i=b i:=by
 unfold zxr
 simp only[Bool.and_eq_true,beq_iff_eq]
 constructor
 ·rintro⟨h0,h1,h2,h3,h4⟩ i hi
  match i,hi with
  | 0,_=>exact h0
  | 1,_=>exact h1
  | 2,_=>exact h2
  | 3,_=>exact h3
  | 4,_=>exact h4
 ·intro h; exact⟨h 0 (by omega),h 1 (by omega),h 2 (by omega),h 3 (by omega),h 4 (by omega)⟩
theorem zxv{ms:List Mb}{sh:Nat->Bool}{p:Nat->Int}{i:Nat}(h:zwD ms sh p i=true):sh i=true:=by
 unfold zwD at h
 cases hm:ms[i]? with
 | none=>rw[hm] at h; exact h
 | some a=>rw[hm] at h; exact(Bool.and_eq_true _ _ ▸ h).1
theorem zxw{ms:List Mb}{sh:Nat->Bool}{p:Nat->Int}{i:Nat}{a:Mb}(hm:ms[i]? = some a):zwD ms sh p i=(sh i && decide (p i<=a.Most)):=by unfold zwD; rw[hm]
theorem zxx{ms:List Mb}{sh:Nat->Bool}{p:Nat->Int}(h:¬ zxr (zwD ms sh p) sh=true):cF (zwD ms sh p) < cF sh:=by
 have hle:∀i,(zwD ms sh p i).toNat<=(sh i).toNat:=fun i=>by
  cases ha:zwD ms sh p i with
  | false=>exact Nat.zero_le _
  | true=>rw[zxv ha]; exact Nat.le_refl _
 have hne:∃i,i < 5/\(zwD ms sh p i).toNat ≠ (sh i).toNat:=by
  apply Classical.byContradiction
  intro hn;refine h (zxu.2 fun i hi=>?_)
  apply Classical.byContradiction
  intro h2;refine hn ⟨i,hi,fun h3=>h2 ?_⟩
  revert h3; cases zwD ms sh p i <;> cases sh i <;> decide
 obtain⟨i,hi,h2⟩:=hne;have l0:=hle 0; have l1:=hle 1; have l2:=hle 2; have l3:=hle 3; have l4:=hle 4;unfold cF
 match i,hi with
 | 0,_=>omega
 | 1,_=>omega
 | 2,_=>omega
 | 3,_=>omega
 | 4,_=>omega
theorem zxy{ms:List Mb}{sh:Nat->Bool}{num:Mb->Int}{i:Nat}(h:sh i=false):zwB ms sh num i=0:=by
 unfold zwB
 cases ms[i]? with
 | none=>rfl
 | some a=>show(if sh i=true then num a else 0)=0; rw[h]; rfl
theorem zxz{ms:List Mb}{sh:Nat->Bool}{num:Mb->Int}{i:Nat}{a:Mb}(hm:ms[i]? = some a)(h:sh i=true):zwB ms sh num i=num a:=by
 unfold zwB; rw[hm]; show(if sh i=true then num a else 0)=_; rw[h,if_pos rfl]
theorem zxA{ms:List Mb}(hms:zxo ms)(sh:Nat->Bool)(i:Nat):0<=uF ms sh i/\uF ms sh i<=10000:=by
 unfold uF
 cases hs:sh i with
 | false=>rw[zxy hs]; omega
 | true=>
  cases hm:ms[i]? with
  | none=>unfold zwB; rw[hm]; show(0:Int)<=0/\(0:Int)<=_; omega
  | some a=>rw[zxz hm hs]; have:=zxp (hms.2 a (List.mem_of_getElem? hm)); omega
theorem zxB{ms:List Mb}(hms:zxo ms){sh:Nat->Bool}(hs:zxs ms sh)(hn:¬ zxq sh=true):UOk (uF ms sh):=by
 have hb:=zxA hms sh;refine⟨fun i _=>by have:=hb i; omega,?_⟩
 obtain⟨i,hi,hsi⟩:∃i,i < 5/\sh i=true:=by
  apply Classical.byContradiction
  intro h;refine hn (zxt.2 fun i hi=>?_)
  cases hq:sh i with
  | false=>rfl
  | true=>exact absurd ⟨i,hi,hq⟩ h
 have hl:=hs i hsi
 have h1:1<=uF ms sh i:=by unfold uF; rw[zxz (List.getElem?_eq_getElem hl) hsi]; exact(zxp (hms.2 _ (List.getElem_mem hl))).1
 have b0:=hb 0; have b1:=hb 1; have b2:=hb 2; have b3:=hb 3; have b4:=hb 4;unfold S5
 match i,hi with
 | 0,_=>omega
 | 1,_=>omega
 | 2,_=>omega
 | 3,_=>omega
 | 4,_=>omega
structure RI (ms:List Mb) (sh:Nat->Bool) (N:Int) (c:Nat->Int):Prop where
 sup:zxs ms sh
 nn:0<=N/\N<=1000000
 cb:∀i,i < 5->0<=c i/\c i<=1000000
 c0:∀i,sh i=true->c i=0
section
variable {ms:List Mb} {sh:Nat->Bool} {N:Int} {c:Nat->Int}
theorem zxC(p:Nat->Int){i:Nat}:(sh i && !zwD ms sh p i)=true↔sh i=true/\∃a,ms[i]? = some a/\a.Most < p i:=by
 cases hm:ms[i]? with
 | none=>unfold zwD; rw[hm]; cases sh i <;> simp
 | some a=>
  rw[zxw hm]
  cases sh i with
  | false=>simp
  | true=>simp
theorem zxD(hms:zxo ms)(hs:zxs ms sh)(hn:¬ zxq sh=true)(hN:0<=N){i:Nat}(hi:i < 5) :
  0<=mF ms (fun i=>sh i && !zwD ms sh (zw0 N (uF ms sh)) i) i/\mF ms (fun i=>sh i && !zwD ms sh (zw0 N (uF ms sh)) i) i<=qN N (uF ms sh) i:=by
 have hu:=zxB hms hs hn;have hq:=zw1 hu hN hi;unfold mF
 cases ho:(sh i && !zwD ms sh (zw0 N (uF ms sh)) i) with
 | false=>rw[zxy (by exact ho)]; omega
 | true=>
  obtain⟨h1,a,h2,h3⟩:=(zxC _).1 ho;have hb:=(hms.2 a (List.mem_of_getElem? h2)).most;have hp:=zxj N (uF ms sh) i;rw[zxz h2 (by exact ho)]; omega
theorem RI.next(hms:zxo ms)(h:RI ms sh N c)(hn:¬ zxq sh=true):RI ms (zwD ms sh (zw0 N (uF ms sh))) (N - S5 (mF ms fun i=>sh i && !zwD ms sh (zw0 N (uF ms sh)) i)) (fun i=>c i+mF ms (fun i=>sh i && !zwD ms sh (zw0 N (uF ms sh)) i) i):=by
 have hu:=zxB hms h.sup hn;have hm:=fun i (hi:i < 5)=>zxD hms h.sup hn h.nn.1 hi
 have hs:S5 (mF ms fun i=>sh i && !zwD ms sh (zw0 N (uF ms sh)) i)<=S5 (zw0 N (uF ms sh)):=zw7 fun i hi=>by have:=hm i hi; have:=zxj N (uF ms sh) i; omega
 rw[zxi hu] at hs
 have hs0:0<=S5 (mF ms fun i=>sh i && !zwD ms sh (zw0 N (uF ms sh)) i):=by
  have:=hm 0 (by omega); have:=hm 1 (by omega); have:=hm 2 (by omega); have:=hm 3 (by omega); have:=hm 4 (by omega);unfold S5; omega
 have hnn:=h.nn;refine⟨fun i hi=>h.sup i (zxv hi),by omega,fun i hi=>?_,fun i hi=>?_⟩
 ·have h1:=hm i hi;have h2:=h.cb i hi
  have h3:mF ms (fun i=>sh i && !zwD ms sh (zw0 N (uF ms sh)) i) i<=N:=by have:=zw1 hu h.nn.1 hi; omega
  show 0<=c i+_/\c i+_<=_
  cases ho:(sh i && !zwD ms sh (zw0 N (uF ms sh)) i) with
  | false=>
   have e:mF ms (fun i=>sh i && !zwD ms sh (zw0 N (uF ms sh)) i) i=0:=zxy (by exact ho);rw[e]; omega
  | true=>
   have hc:=h.c0 i ((zxC _).1 ho).1;rw[hc]; omega
 ·have h1:=zxv hi
  show c i+_=0
  have e:mF ms (fun i=>sh i && !zwD ms sh (zw0 N (uF ms sh)) i) i=0:=zxy (by show(sh i && !zwD ms sh _ i)=false; rw[hi]; simp);rw[h.c0 i h1,e]; rfl
theorem zxE{w:Wk}(hms:zxo w.s.Members):ztt w (mkF sh)=some (mk5 (uF w.s.Members sh)):=by
 unfold ztt;rw[zwC (num:=unN) (fun a ha=>?_) hms.1,obs]; rfl;have h:=hms.2 a ha;have:=h.sum; have:=h.cls;have hb:=zxp h;unfold unN at hb
 show ztp a=some (unN a)
 unfold ztp unN;rw[zqr (by omega),zqr (by omega),zqr (fI (by omega))]
theorem zxF{w:Wk}(hms:zxo w.s.Members):ztu w (mkF sh)=some (mk5 (mF w.s.Members sh)):=by
 unfold ztu;rw[zwC (number:=fun a=>ztq a) (num:=(·.Most)) (fun a _=>rfl) hms.1,obs]; rfl
theorem zxG{w:Wk}(hms:zxo w.s.Members)(need0:Int){need:Int}:∀(n D:Nat) (sh:Nat->Bool) (N:Int) (c:Nat->Int),RI w.s.Members sh N c->N+S5 c=need->need<=1000000->cF sh < n->cF sh < D ->
  ztx w need0 D need (c 0) (c 1) (c 2) (c 3) (c 4) (sh 0) (sh 1) (sh 2) (sh 3) (sh 4)=some { need:=need,calls:=mk5 (roundsN w.s.Members n sh N c).1 }
 | 0,_,_,_,_,_,_,_,h,_=>by omega
 | _+1,0,_,_,_,_,_,_,_,h=>by omega
 | n+1,D+1,sh,N,c,hr,hs,hneed,hn,hD=>by
  rw[ztx,roundsN]
  show(if zxq sh=true then _ else _)=_
  by_cases h0:zxq sh=true
  ·rw[if_pos h0,if_pos h0]; rfl
  ·rw[if_neg h0,if_neg h0];have hu:=zxB hms hr.sup h0
   have hbc:Bd 1000000000000 c:=fun i hi=>by have:=hr.cb i hi; omega
   have hcb:=hr.cb;have hc0:=hcb 0 (by omega); have hc1:=hcb 1 (by omega); have hc2:=hcb 2 (by omega); have hc3:=hcb 3 (by omega); have hc4:=hcb 4 (by omega)
   have hsc:0<=S5 c/\S5 c<=5000000:=by unfold S5; omega
   have hNN:0<=N/\N<=1000000:=hr.nn
   have e1:ztn ({ need:=need,calls:=mk5 c }:Oc)=some N:=by
    unfold ztn
    show(ztc (mk5 c)).bind _=_
    rw[zwy hbc,obs,zqr (fI (by show -9223372036854775808<=need - S5 c/\need - S5 c < _; omega))];exact congrArg some (show need - S5 c=N by omega)
   show(ztn ({ need:=need,calls:=mk5 c }:Oc)).bind _=_
   rw[e1,obs]
   show(ztt w (mkF sh)).bind _=_
   rw[zxE hms,obs,zw4 hu hNN,obs]
   show(ztw w (mkF sh) (mk5 (zw0 N (uF w.s.Members sh)))).bind _=_
   rw[zwE hms.1,obs]
   have hbp:Bd 1000000000000 (zw0 N (uF w.s.Members sh)):=fun i hi=>by have:=zxk hu hNN.1 hi; have:=zxl hu hNN.1 hi; omega
   show(if zxr (zwD w.s.Members sh (zw0 N (uF w.s.Members sh))) sh=true then _ else _)=_
   by_cases h1:zxr (zwD w.s.Members sh (zw0 N (uF w.s.Members sh))) sh=true
   ·rw[if_pos h1,if_pos h1]
    have e2:zto ({ need:=need,calls:=mk5 c }:Oc) (mk5 (zw0 N (uF w.s.Members sh)))=some { need:=need,calls:=mk5 fun i=>c i+zw0 N (uF w.s.Members sh) i }:=by
     unfold zto
     show(zte (mk5 c) _).bind _=_
     rw[zwz hbc hbp,obs]
    show(zto ({ need:=need,calls:=mk5 c }:Oc) _).bind _=_
    rw[e2,obs]
   ·rw[if_neg h1,if_neg h1]
    show(ztg (mkF sh) (mkF (zwD w.s.Members sh (zw0 N (uF w.s.Members sh))))).bind _=_
    rw[zwA,obs,zxF hms,obs];have hnext:=hr.next hms h0;have hm:=fun i (hi:i < 5)=>zxD hms hr.sup h0 hNN.1 hi
    have hbm:Bd 1000000000000 (mF w.s.Members fun i=>sh i && !zwD w.s.Members sh (zw0 N (uF w.s.Members sh)) i):=fun i hi=>by have:=hm i hi; have:=zw1 hu hNN.1 hi; omega
    have e2:zto ({ need:=need,calls:=mk5 c }:Oc) (mk5 (mF w.s.Members fun i=>sh i && !zwD w.s.Members sh (zw0 N (uF w.s.Members sh)) i))=some { need:=need,calls:=mk5 fun i=>c i+mF w.s.Members (fun i=>sh i && !zwD w.s.Members sh (zw0 N (uF w.s.Members sh)) i) i }:=by
     unfold zto
     show(zte (mk5 c) _).bind _=_
     rw[zwz hbc hbm,obs]
    show(zto ({ need:=need,calls:=mk5 c }:Oc) _).bind _=_
    rw[e2,obs];have hless:=zxx h1;have e3:S5 (fun i=>c i+mF w.s.Members (fun i=>sh i && !zwD w.s.Members sh (zw0 N (uF w.s.Members sh)) i) i)=S5 c+S5 (mF w.s.Members fun i=>sh i && !zwD w.s.Members sh (zw0 N (uF w.s.Members sh)) i):=zwI _ _
    have e4:N - S5 (mF w.s.Members fun i=>sh i && !zwD w.s.Members sh (zw0 N (uF w.s.Members sh)) i)+S5 (fun i=>c i+mF w.s.Members (fun i=>sh i && !zwD w.s.Members sh (zw0 N (uF w.s.Members sh)) i) i)=need:=by rw[e3]; omega
    exact zxG hms need0 n D _ _ _ hnext e4 hneed (by omega) (by omega)
end
def zxH(ms:List Mb)(ask:Nat->Bool)(need:Int):(Nat->Int) × Int:=roundsN ms 6 ask need fun _=>0
theorem zxI(sh:Nat->Bool):cF sh<=5:=by
 have h:∀b:Bool,b.toNat<=1:=fun b=>by cases b <;> decide
 have:=h (sh 0); have:=h (sh 1); have:=h (sh 2); have:=h (sh 3); have:=h (sh 4);unfold cF; omega
theorem zxJ{w:Wk}(hms:zxo w.s.Members){ask:Nat->Bool}(ha:w.asked=mkF ask)(hsup:zxs w.s.Members ask){need:Int}(hn:0<=need/\need<=1000000):zty w need=some { need:=need,calls:=mk5 (zxH w.s.Members ask need).1 }:=by
 unfold zty;rw[ha];have hc:=zxI ask;exact zxG hms need 6 1000000 ask need (fun _=>0) ⟨hsup,hn,fun _ _=>by omega,fun _ _=>rfl⟩ (by rw[zwJ]; omega) hn.2 (by omega) (by omega)
end
end Go.Proofs.Ytkclhciahokifaa

namespace Go.Proofs.Ytkclhciahokifaa
open _root_.Go.Proofs.Try
open Go.Abs
set_option maxRecDepth 100000
noncomputable section
section
variable {ms:List Mb}
theorem zxK(hms:zxo ms):∀(n:Nat) (sh:Nat->Bool) (N:Int) (c:Nat->Int),RI ms sh N c->cF sh < n->S5 (roundsN ms n sh N c).1+(roundsN ms n sh N c).2=N+S5 c/\0<=(roundsN ms n sh N c).2
 | 0,_,_,_,_,h=>by omega
 | n+1,sh,N,c,hr,h=>by
  unfold roundsN
  by_cases h0:zxq sh=true
  ·rw[if_pos h0]; have:=hr.nn; exact⟨by show S5 c+N=_; omega,hr.nn.1⟩
  ·rw[if_neg h0];have hu:=zxB hms hr.sup h0
   by_cases h1:zxr (zwD ms sh (zw0 N (uF ms sh))) sh=true
   ·rw[if_pos h1];have e:S5 (fun i=>c i+zw0 N (uF ms sh) i)=S5 c+S5 (zw0 N (uF ms sh)):=zwI _ _;have hp:=zxi hu N;exact⟨by show S5 (fun i=>c i+zw0 N (uF ms sh) i)+0=_; omega,Int.le_refl _⟩
   ·rw[if_neg h1];have hless:=zxx h1;have ih:=zxK hms n _ _ _ (hr.next hms h0) (by omega);have e:S5 (fun i=>c i+mF ms (fun i=>sh i && !zwD ms sh (zw0 N (uF ms sh)) i) i)=S5 c+S5 (mF ms fun i=>sh i && !zwD ms sh (zw0 N (uF ms sh)) i):=zwI _ _;rw[e] at ih;exact⟨by rw[ih.1]; omega,ih.2⟩
theorem zxL(hms:zxo ms):∀(n:Nat) (sh:Nat->Bool) (N:Int) (c:Nat->Int),RI ms sh N c->cF sh < n->∀i,i < 5->sh i=false->(roundsN ms n sh N c).1 i=c i
 | 0,_,_,_,_,h=>by omega
 | n+1,sh,N,c,hr,h=>fun i hi hs=>by
  unfold roundsN
  by_cases h0:zxq sh=true
  ·rw[if_pos h0]
  ·rw[if_neg h0];have hu:=zxB hms hr.sup h0
   by_cases h1:zxr (zwD ms sh (zw0 N (uF ms sh))) sh=true
   ·rw[if_pos h1]
    show c i+_=_
    rw[zxm hu (show uF ms sh i=0 from zxy hs),Int.add_zero]
   ·rw[if_neg h1];have hless:=zxx h1
    have ha:zwD ms sh (zw0 N (uF ms sh)) i=false:=by
     cases hq:zwD ms sh (zw0 N (uF ms sh)) i with
     | false=>rfl
     | true=>rw[zxv hq] at hs; cases hs
    rw[zxL hms n _ _ _ (hr.next hms h0) (by omega) i hi ha];have e:mF ms (fun i=>sh i && !zwD ms sh (zw0 N (uF ms sh)) i) i=0:=zxy (by show(sh i && _)=false; rw[hs]; rfl);rw[e,Int.add_zero]
theorem zxM(hms:zxo ms):∀(n:Nat) (sh:Nat->Bool) (N:Int) (c:Nat->Int),RI ms sh N c->cF sh < n->∀i a,i < 5->ms[i]? = some a->sh i=true->(0<=(roundsN ms n sh N c).1 i/\(roundsN ms n sh N c).1 i<=a.Most)/\(0 < (roundsN ms n sh N c).2->(roundsN ms n sh N c).1 i=a.Most)
 | 0,_,_,_,_,h=>by omega
 | n+1,sh,N,c,hr,h=>fun i a hi hm hs=>by
  unfold roundsN
  by_cases h0:zxq sh=true
  ·have:=zxt.1 h0 i hi; rw[hs] at this; cases this
  ·rw[if_neg h0];have hu:=zxB hms hr.sup h0;have hc:=hr.c0 i hs;have hp:=zxk hu hr.nn.1 hi
   by_cases h1:zxr (zwD ms sh (zw0 N (uF ms sh))) sh=true
   ·rw[if_pos h1];have h2:=zxu.1 h1 i hi;rw[zxw hm,hs,Bool.true_and] at h2;have h3:zw0 N (uF ms sh) i<=a.Most:=of_decide_eq_true h2;exact⟨by show 0<=c i+_/\c i+_<=_; omega,fun h=>absurd h (Int.lt_irrefl _)⟩
   ·rw[if_neg h1];have hless:=zxx h1
    cases hq:zwD ms sh (zw0 N (uF ms sh)) i with
    | true=>exact zxM hms n _ _ _ (hr.next hms h0) (by omega) i a hi hm hq
    | false=>
     rw[zxL hms n _ _ _ (hr.next hms h0) (by omega) i hi hq];have e:mF ms (fun i=>sh i && !zwD ms sh (zw0 N (uF ms sh)) i) i=a.Most:=zxz hm (by show(sh i && !zwD ms sh _ i)=true; rw[hs,hq]; rfl);have hb:=(hms.2 a (List.mem_of_getElem? hm)).most;rw[e,hc];exact⟨by omega,fun _=>by omega⟩
end
section
variable {ms:List Mb} {ask:Nat->Bool} {N:Int}
theorem RI0(hs:zxs ms ask)(hN:0<=N/\N<=1000000):RI ms ask N fun _=>0:=⟨hs,hN,fun _ _=>by omega,fun _ _=>rfl⟩
theorem zxN(hms:zxo ms)(hs:zxs ms ask)(hN:0<=N/\N<=1000000):S5 (zxH ms ask N).1+(zxH ms ask N).2=N/\0<=(zxH ms ask N).2:=by
 have:=zxI ask;have h:=zxK hms 6 ask N (fun _=>0) (RI0 hs hN) (by omega);rw[zwJ] at h;exact⟨by rw[Int.add_zero] at h; exact h.1,h.2⟩
theorem zxO(hms:zxo ms)(hs:zxs ms ask)(hN:0<=N/\N<=1000000){i:Nat}(hi:i < 5)(ha:ask i=false):(zxH ms ask N).1 i=0:=by
 have:=zxI ask;exact zxL hms 6 ask N (fun _=>0) (RI0 hs hN) (by omega) i hi ha
theorem zxP(hms:zxo ms)(hs:zxs ms ask)(hN:0<=N/\N<=1000000){i:Nat}{a:Mb}(hi:i < 5)(hm:ms[i]? = some a)(ha:ask i=true):(0<=(zxH ms ask N).1 i/\(zxH ms ask N).1 i<=a.Most)/\(0 < (zxH ms ask N).2->(zxH ms ask N).1 i=a.Most):=by
 have:=zxI ask;exact zxM hms 6 ask N (fun _=>0) (RI0 hs hN) (by omega) i a hi hm ha
theorem zxQ(hms:zxo ms)(hs:zxs ms ask)(hN:0<=N/\N<=1000000){i:Nat}(hi:i < 5):0<=(zxH ms ask N).1 i/\(zxH ms ask N).1 i<=100000:=by
 cases ha:ask i with
 | false=>rw[zxO hms hs hN hi ha]; omega
 | true=>
  have hm:=List.getElem?_eq_getElem (hs i ha);have h:=zxP hms hs hN hi hm ha;have hb:=(hms.2 _ (List.getElem_mem (hs i ha))).most
  omega
end
end
end Go.Proofs.Ytkclhciahokifaa

namespace Go.Proofs.Ytkclhciahokifaa
open _root_.Go.Proofs.Try
open Go.Abs
set_option maxRecDepth 100000
noncomputable section
def RgV(r:Rg):Prop:=0<=r.Lo/\r.Lo<=r.Hi/\r.Hi<=100000/\r.Hi - r.Lo<=30
instance (r:Rg):Decidable (RgV r):=by unfold RgV; infer_instance
structure zxR (s:Soc):Prop where
 pos:0 < s.Members.length
 ms:∀a∈s.Members,zxn a
 ls:∀r∈s.Losses,RgV r
 tr:RgV s.Treaty
 rs:0<=s.Reserve/\s.Reserve<=100000
structure zxS (s:Soc):Prop where
 m5:s.Members.length<=5
 l3:s.Losses.length<=3
 full:zxR s
theorem zxS.msOk{s:Soc}(h:zxS s):zxo s.Members:=⟨h.m5,h.full.ms⟩
open Classical in
def zxT(s:Soc):Int:=if 5 < s.Members.length\/3 < s.Losses.length then 3 else if zxR s then 0 else 1
theorem zxU{s:Soc}:zxT s=0↔zxS s:=by
 unfold zxT
 by_cases h:5 < s.Members.length\/3 < s.Losses.length
 ·rw[if_pos h]; exact⟨fun h=>by omega,fun h2=>by have:=h2.m5; have:=h2.l3; omega⟩
 ·rw[if_neg h]
  by_cases hf:zxR s
  ·rw[if_pos hf]; exact⟨fun _=>⟨by omega,by omega,hf⟩,fun _=>rfl⟩
  ·rw[if_neg hf]; exact⟨fun h=>by omega,fun h=>absurd h.full hf⟩
theorem zxV{r:Rg}{n:Int}:Ev (zsA r n) (r.Lo<=n/\n<=r.Hi):=Ev.ite fun _=>Ev.dec Iff.rfl
theorem zxW{n:Int}:Ev (zsB n) (0<=n/\n<=100000):=zxV.ret
theorem zxX{r:Rg}:Ev (zsC r) (RgV r):=by
 refine(zxW.and fun h1=>zxW.and fun h2=>Ev.ite (K:=r.Hi - r.Lo<=30) fun _=>Ev.gd (fI (by omega)) (Ev.dec Iff.rfl)).imp ?_;unfold RgV; omega
theorem zxY{a:Mb}:Ev (zsD ({ su:=({ Lo:=(1:Int),Hi:=(1000:Int) }:Rg),cl:=({ Lo:=(1:Int),Hi:=(10:Int) }:Rg),mo:=({ Lo:=(0:Int),Hi:=(100000:Int) }:Rg) }:Lm) a) (zxn a):=
 (zxV.and fun _=>zxV.and fun _=>zxV.ret).imp ⟨fun⟨h1,h2,h3⟩=>⟨h1,h2,h3⟩,fun⟨h1,h2,h3⟩=>⟨h1,h2,h3⟩⟩
theorem gM{l:List Mb}{p:Mb->Option Bool}:∀{d:Nat} {x:Int},zsF l p d x=gIdx l p d x
 | 0,_=>rfl
 | d+1,x=>by unfold zsF gIdx; simp only[gM]
theorem gR{l:List Rg}{p:Rg->Option Bool}:∀{d:Nat} {x:Int},zsK l p d x=gIdx l p d x
 | 0,_=>rfl
 | d+1,x=>by unfold zsK gIdx; simp only[gR]
theorem gI{l:List Int}{p:Int->Option Bool}:∀{d:Nat} {x:Int},zsP l p d x=gIdx l p d x
 | 0,_=>rfl
 | d+1,x=>by unfold zsP gIdx; simp only[gI]
theorem zxZ{s:Soc}(h1:zrQ s.Members)(h2:zrQ s.Losses):Ev (zsW s) (zxR s):=by
 refine(Ev.ite fun _=>(Ev.each (q:=zxn) (fun a _=>zxY) h1.lt gM).and fun _=>(Ev.each (q:=RgV) (fun a _=>zxX) h2.lt gR).and fun _=>zxX.and fun _=>zxW.ret).imp ?_;exact⟨fun⟨a,b,c,d,e⟩=>⟨by omega,b,c,d,e⟩,fun⟨a,b,c,d,e⟩=>⟨by omega,b,c,d,e⟩⟩
theorem zx0{s:Soc}:Ev (zsV s) (5 < s.Members.length\/3 < s.Losses.length):=by
 unfold zsV
 by_cases h:(5:Int) < s.Members.length
 ·rw[if_pos h]; exact Ev.tt (by omega)
 ·rw[if_neg h]; exact Ev.dec (by omega)
theorem zx1{s:Soc}(h1:zrQ s.Members)(h2:zrQ s.Losses):zsX s=some (zxT s):=by
 unfold zsX zxT;refine zx0.pick (fun h=>?_) fun h=>?_
 ·rw[if_pos rfl,if_pos h]
 ·rw[if_neg (by decide),if_neg h];refine(zxZ h1 h2).pick (fun h=>?_) fun h=>?_
  ·rw[if_pos rfl,if_pos h]
  ·rw[if_neg (by decide),if_neg h]
theorem zx2{n lo hi:Int}:Ev (zse n lo hi) (lo<=n/\n<=hi):=Ev.ite fun _=>Ev.dec Iff.rfl
theorem zx3{r:Rg}:Ev (zsf r) (RgV r):=Ev.ite fun h1=>Ev.ite fun h2=>Ev.ite fun h3=>Ev.gd (fI (by omega)) (Ev.dec Iff.rfl)
theorem zx4{s:Soc}(h1:s.Members.length<=8)(h2:s.Losses.length<=6):zsh s=some (zxT s):=by
 unfold zsh zxT
 by_cases c1:5 < s.Members.length
 ·rw[if_pos (by omega),if_pos (.inl c1)]
 rw[if_neg (by omega)]
 by_cases c2:3 < s.Losses.length
 ·rw[if_pos (by omega),if_pos (.inr c2)]
 rw[if_neg (show ¬ (3:Int) < s.Losses.length by omega),if_neg (show ¬ (5 < s.Members.length\/3 < s.Losses.length) by omega)]
 by_cases c3:s.Members.length=0
 ·rw[if_pos (by omega),if_neg fun h:zxR s=>by have:=h.pos; omega]
 rw[if_neg (show ¬ (s.Members.length:Int)=0 by omega)]
 refine zx3.pick (fun c4=>?_) fun c4=>by rw[if_neg (by decide),if_neg fun h=>c4 h.tr]
 rw[if_pos rfl]
 refine zx2.pick (fun c5=>?_) fun c5=>by rw[if_neg (by decide),if_neg fun h=>c5 h.rs]
 rw[if_pos rfl]
 have kL:=zrP (l:=s.Losses) (F:=fun d x=>prFault_L1 s d x) (ok:=RgV) (bad:=some 1) (fin:=some 0) (fun d k a hk=>by
  have hkl:=(List.getElem?_eq_some_iff.1 hk).1
  show(RgV a->prFault_L1 s (d+1) (k:Int)=_)/\_
  rw[prFault_L1,if_pos (by omega),zrG hk,obs]
  exact Ev.step zx3 (by rw[if_pos rfl,zqr (fI (by omega))]) (by rw[if_neg (by decide)])) (fun d=>by show prFault_L1 s (d+1) _=_; rw[prFault_L1,if_neg (Int.lt_irrefl _)]) (d:=1000000) (by omega)
 have kM:=zrP (l:=s.Members) (F:=fun d x=>zsg s d 0 x) (ok:=zxn) (bad:=some 1) (fin:=prFault_L1 s 1000000 0) (fun d k a hk=>by
  have hkl:=(List.getElem?_eq_some_iff.1 hk).1
  show(zxn a->zsg s (d+1) 0 (k:Int)=_)/\_
  rw[zsg,if_pos (by omega),zrG hk,obs];refine⟨fun h=>?_,fun h=>?_⟩
  ·rw[zx2.some_of h.sum,obs,if_pos rfl,zx2.some_of h.cls,obs,if_pos rfl,zx2.some_of h.most,obs,if_pos rfl,zqr (fI (by omega))]
  ·refine zx2.pick (fun q1=>?_) fun q1=>by rw[if_neg (by decide)]
   rw[if_pos rfl]
   refine zx2.pick (fun q2=>?_) fun q2=>by rw[if_neg (by decide)]
   rw[if_pos rfl]
   refine zx2.pick (fun q3=>absurd ⟨q1,q2,q3⟩ h) fun q3=>by rw[if_neg (by decide)]) (fun d=>by show zsg s (d+1) 0 _=_; rw[zsg,if_neg (Int.lt_irrefl _)]) (d:=1000000) (by omega)
 by_cases c6:∀a∈s.Members,zxn a
 ·refine(kM.1 c6).trans ?_
  by_cases c7:∀r∈s.Losses,RgV r
  ·refine(kL.1 c7).trans ?_;rw[if_pos ⟨by omega,c6,c7,c4,c5⟩]
  ·refine(kL.2 c7).trans ?_;rw[if_neg fun h=>c7 h.ls]
 ·refine(kM.2 c6).trans ?_;rw[if_neg fun h=>c6 h.ms]
theorem zx5{s:Soc}(h1:s.Members.length<=8)(h2:s.Losses.length<=6):zt2 s=some (zxT s):=by unfold zt2; rw[zx4 h1 h2]; rfl
def zx6(n:Nat)(out:List Int):Nat->Bool:=fun i=>decide (i < n) && !decide ((i:Int)∈out)
def zx7(s:Soc)(out:List Int):Wk:={ s:=s,asked:=mkF (zx6 s.Members.length out) }
theorem zx8(ms:List Mb)(out:List Int):zxs ms (zx6 ms.length out):=fun i h=>by
 unfold zx6 at h
 simp at h; exact h.1
theorem zx9{l:List Int}{v:Int}(hl:zrQ l):∀d (k:Nat),k<=l.length->l.length - k < d->∃r,zs0 l v d (k:Int)=some r/\(0<=r↔v∈l.drop k)
 | 0,k,_,h=>by omega
 | d+1,k,hk,h=>by
  unfold zrQ at hl;unfold zs0
  by_cases hkn:k=l.length
  ·subst hkn; rw[if_neg (Int.lt_irrefl _)]; exact⟨_,rfl,by simp⟩
  ·have hlt:k < l.length:=by omega
   rw[if_pos (by omega),zrG (List.getElem?_eq_getElem hlt),obs];have hd:=List.drop_eq_getElem_cons hlt
   by_cases hv:v=l[k]
   ·rw[if_pos hv]; exact⟨_,rfl,⟨fun _=>by rw[hd,<- hv]; exact List.mem_cons_self ..,fun _=>by omega⟩⟩
   ·rw[if_neg hv,zqr (fI (by omega)),show(k:Int)+1=((k+1:Nat):Int) by omega];obtain⟨r,h1,h2⟩:=zx9 hl d (k+1) (by omega) (by omega);exact⟨r,h1,h2.trans ⟨fun h=>by rw[hd]; exact List.mem_cons_of_mem _ h,fun h=>by rw[hd] at h; exact(List.mem_cons.1 h).resolve_left hv⟩⟩
theorem zya{l:List Int}{v:Int}(hl:zrQ l):zs2 l v=some (decide (v∈l)):=by
 unfold zs2 zs1;obtain⟨r,h1,h2⟩:=zx9 (v:=v) hl (l.length+1) 0 (Nat.zero_le _) (by omega);have h1:zs0 l v (l.length+1) 0=some r:=h1;rw[h1,obs];exact congrArg some (decide_eq_decide.2 (h2.trans (by rw[List.drop_zero])))
theorem zyb{s:Soc}{out:List Int}(hl:zrQ out)(h5:s.Members.length<=5):zs4 s out=some (zx7 s out):=by
 unfold zs4;have key:=zwp (n:=s.Members.length) (fun d st x=>zs3 s out d s.Treaty.Lo s.Treaty.Hi s.Reserve (st 0) (st 1) (st 2) (st 3) (st 4) x) (stF (zx6 s.Members.length out) fun _=>false) (fin:=some (zx7 s out)) (fun d k hk=>?_) (fun d=>?_) (s.Members.length+1) 0 (by omega) (by omega)
 ·rw[zwt] at key; exact key
 ·show zs3 s out (d+1) _ _ _ _ _ _ _ _ _=_
  rw[zs3,if_pos (by omega),zya hl,obs,zqr (by omega),zqr (fI (by omega))];have e:=zwv (zx6 s.Members.length out) (fun _=>false) k
  have e0:(!decide ((k:Int)∈out))=zx6 s.Members.length out k:=by unfold zx6; rw[decide_eq_true hk,Bool.true_and]
  rw[e0,e 0,e 1,e 2,e 3,e 4]
 ·show zs3 s out (d+1) _ _ _ _ _ _ _ _ _=_
  rw[zs3,if_neg (by omega)]
  have e1:∀j,stF (zx6 s.Members.length out) (fun _=>false) s.Members.length j=zx6 s.Members.length out j:=fun j=>by
   unfold stF
   by_cases h:j < s.Members.length
   ·rw[if_pos h]
   ·rw[if_neg h]; unfold zx6; rw[decide_eq_false h]; rfl
  rw[e1 0,e1 1,e1 2,e1 3,e1 4]; rfl
def zyc(n:Nat)(l:List Int):Prop:=l.Pairwise (· < ·)/\∀v∈l,0<=v/\v<=(n:Int) - 1
theorem zyd{l:List Int}:(∀j,0 < j->j < l.length->∀a b,l[j - 1]? = some a->l[j]? = some b->a < b)↔l.Pairwise (· < ·):=by
 constructor
 ·intro h;rw[List.pairwise_iff_getElem];intro i j hi hj hij
  have key:∀d,(hd:i+d+1 < l.length)->l[i] < l[i+d+1]:=fun d=>by
   induction d with
   | zero=>intro hd; exact h (i+1) (by omega) hd _ _ (List.getElem?_eq_getElem hi) (List.getElem?_eq_getElem hd)
   | succ d ih=>
    intro hd;have h1:=ih (by omega);have h2:=h (i+(d+1)+1) (by omega) hd _ _ (List.getElem?_eq_getElem (show i+d+1 < l.length by omega)) (List.getElem?_eq_getElem hd);exact Int.lt_trans h1 h2
  have:=key (j - i - 1) (by omega)
  simpa [show i+(j - i - 1)+1=j by omega] using this
 ·intro h j h0 hj a b ha hb;obtain⟨h1,rfl⟩:=List.getElem?_eq_some_iff.1 ha;obtain⟨h2,rfl⟩:=List.getElem?_eq_some_iff.1 hb;exact List.pairwise_iff_getElem.1 h (j - 1) j h1 h2 (by omega)
theorem zye{l:List Int}(hl:zrQ l):Ev (zsU l) (l.Pairwise (· < ·)):=by
 unfold zrQ at hl;unfold zsU
 by_cases h0:l.length=0
 ·have:l=[]:=List.eq_nil_of_length_eq_zero h0;subst this
  show Ev (zsT [] 1 1) _
  rw[zsT,if_neg (by decide)];exact Ev.tt .nil
 ·have e:∃n,l.length=n+1:=⟨l.length - 1,by omega⟩;obtain⟨n,hn⟩:=e
  have key:=zrK (n:=n) (F:=fun d x=>zsT l d (x+1)) (ok:=fun j=>∀a b,l[j]? = some a->l[j+1]? = some b->a < b) (bad:=some false) (fin:=some true) (fun d k hk=>by
   show(_->zsT l (d+1) ((k:Int)+1)=_)/\_
   have ha:=List.getElem?_eq_getElem (show k < l.length by omega);have hb:=List.getElem?_eq_getElem (show k+1 < l.length by omega);rw[zsT,if_pos (by omega),zrH (show(k:Int)+1=((k+1:Nat):Int) by omega) (show k+1 < l.length by omega),obs,zqr (fI (by omega)),zrH (show(k:Int)+1 - 1=(k:Int) by omega) (show k < l.length by omega),obs];refine⟨fun h=>?_,fun h=>?_⟩
   ·have:=h _ _ ha hb;rw[if_neg (by omega),zqr (fI (by omega))]
   ·rw[if_pos]
    apply Classical.byContradiction
    intro h2
    exact h fun a b h3 h4=>by rw[ha] at h3; rw[hb] at h4; cases h3; cases h4; omega) (fun d=>by show zsT l (d+1) _=_; rw[zsT,if_neg (by omega)]) (d:=((l.length:Int) - 1).toNat+1) (by omega)
  have e0:zsT l (((l.length:Int) - 1).toNat+1) (0+1)=zsT l (((l.length:Int) - 1).toNat+1) 1:=rfl
  have hiff:(∀j,j < n->∀a b,l[j]? = some a->l[j+1]? = some b->a < b)↔l.Pairwise (· < ·):=by
   rw[<- zyd]
   constructor
   ·intro h j h0 hj a b h1 h2;have:=h (j - 1) (by omega) a b h1;rw[show j - 1+1=j by omega] at this;exact this h2
   ·intro h j hj a b h1 h2;exact h (j+1) (by omega) (by omega) a b (by rw[Nat.add_sub_cancel]; exact h1) h2
  by_cases hq:∀j,j < n->∀a b,l[j]? = some a->l[j+1]? = some b->a < b
  ·have:=key.1 hq;exact⟨true,this,⟨fun _=>hiff.1 hq,fun _=>rfl⟩⟩
  ·have:=key.2 hq;exact⟨false,this,⟨fun h=>(by cases h),fun h=>absurd (hiff.2 h) hq⟩⟩
theorem zyf{s:Soc}{l:List Int}(hl:zrQ l)(hm:zrQ s.Members):Ev (zsZ s l) (zyc s.Members.length l):=by
 unfold zrQ at hm;refine((zye hl).and fun _=>(Ev.each (q:=fun v=>0<=v/\v<=(s.Members.length:Int) - 1) (fun v _=>?_) hl.lt gI).ret).imp Iff.rfl;exact Ev.gd (fI (by omega)) zxV.ret
theorem zyg{s:Soc}{out:List Int}(hs:zxS s)(hl:zrQ out)(ho:zyc s.Members.length out):zs5 s out=some (zx7 s out,0):=by
 have h1:=hs.m5; have h2:=hs.l3;unfold zs5;rw[zx1 (by unfold zrQ; omega) (by unfold zrQ; omega),obs,if_pos (zxU.2 hs),(zyf hl (by unfold zrQ; omega)).some_of ho,obs,if_pos rfl,zyb hl h1,obs]
theorem zyh(n:Nat):zyc n []:=⟨.nil,fun _ h=>by cases h⟩
def zyi(lo hi:Int):List Int:=(List.range (hi - lo+1).toNat).map fun(k:Nat)=>lo+(k:Int)
theorem zyj{lo hi x:Int}:x∈zyi lo hi↔lo<=x/\x<=hi:=by
 unfold zyi;rw[List.mem_map]
 constructor
 ·rintro⟨k,h1,rfl⟩
  have:=List.mem_range.1 h1
  omega
 ·intro h; exact⟨(x - lo).toNat,List.mem_range.2 (by omega),by omega⟩
def zyk(g:Rg->Int)(l:List Rg):Int:=zwG (l.map g)
theorem zyl{l:List Rg}(h:∀r∈l,RgV r):0<=zyk (·.Lo) l/\zyk (·.Lo) l<=zyk (·.Hi) l/\zyk (·.Hi) l<=100000 * l.length/\zyk (·.Hi) l<=zyk (·.Lo) l+30 * l.length:=by
 induction l with
 | nil=>exact⟨Int.le_refl _,Int.le_refl _,Int.le_refl _,Int.le_refl _⟩
 | cons r l ih=>
  have ih:=ih fun r hr=>h r (List.mem_cons_of_mem _ hr);have hr:=h r (List.mem_cons_self ..);unfold RgV at hr;have e1:zyk (·.Lo) (r::l)=r.Lo+zyk (·.Lo) l:=rfl;have e2:zyk (·.Hi) (r::l)=r.Hi+zyk (·.Hi) l:=rfl;rw[e1,e2,List.length_cons]
  omega
def loN(s:Soc):Int:=max 0 (zyk (·.Lo) s.Losses - s.Reserve - s.Treaty.Hi)
def hiN(s:Soc):Int:=max 0 (zyk (·.Hi) s.Losses - s.Reserve - s.Treaty.Lo)
theorem zym{s:Soc}(hs:zxS s):0<=loN s/\loN s<=hiN s/\hiN s<=300000/\hiN s<=loN s+120:=by
 have h:=zyl hs.full.ls;have h1:=hs.l3;have h2:=hs.full.tr;have h3:=hs.full.rs;unfold RgV at h2;unfold loN hiN
 omega
theorem zyn{g:Rg->Int}{l:List Rg}{k:Nat}{a:Rg}(h:l[k]? = some a):zyk g (l.take (k+1))=zyk g (l.take k)+g a:=by
 unfold zyk;rw[List.take_add_one,h,List.map_append,zwH]
 show _+(g a+0)=_; omega
theorem zyo{s:Soc}{a b:Int}(h:0<=a/\a<=1000000)(hb:0<=b/\b<=1000000)(hr:0<=s.Reserve/\s.Reserve<=100000):zs6 s a b=some (max 0 (a - s.Reserve - b)):=by
 unfold zs6;rw[zqr (fI (by omega)),zqr (fI (by omega))]
theorem zyp{hi:Int}(hh:hi<=1000000):∀(d:Nat) (x:Int),0<=x->(hi - x+1).toNat < d->zs7 hi d x=some (zyi x hi)
 | 0,_,_,h=>by omega
 | d+1,x,hx,h=>by
  rw[zs7]
  by_cases hc:x<=hi
  ·rw[if_pos hc,zqr (fI (by omega)),zyp hh d (x+1) (by omega) (by omega),obs]
   have e:(hi - x+1).toNat=(hi - (x+1)+1).toNat+1:=by omega
   have e2:zyi x hi=x::zyi (x+1) hi:=by
    unfold zyi;rw[e,List.range_succ_eq_map,List.map_cons,List.map_map];refine congr (congrArg List.cons (by show x+((0:Nat):Int)=x; omega)) (List.map_congr_left fun k _=>?_)
    show x+((k+1:Nat):Int)=x+1+(k:Int)
    omega
   rw[e2]
  ·rw[if_neg hc]
   have e:(hi - x+1).toNat=0:=by omega
   unfold zyi; rw[e]; rfl
theorem zyq{s:Soc}(hs:zxS s):zta s=some (zyi (loN s) (hiN s)):=by
 have hb:=zyl hs.full.ls;have hn:=zym hs;have h3:=hs.l3;have htr:=hs.full.tr;unfold RgV at htr;have hrs:=hs.full.rs
 have e:zs9 s=some (zyi (loN s) (hiN s)):=by
  unfold zs9;refine zwp (n:=s.Losses.length) (fun d (st:Int × Int) x=>zs8 s d st.1 st.2 x) (fun k=>(zyk (·.Lo) (s.Losses.take k),zyk (·.Hi) (s.Losses.take k))) (fun d k hk=>?_) (fun d=>?_) (s.Losses.length+1) 0 (by omega) (by omega)
  ·have hg:=List.getElem?_eq_getElem hk;have h1:=zyl (l:=s.Losses.take k) fun r hr=>hs.full.ls r (List.mem_of_mem_take hr);have h2:=hs.full.ls _ (List.getElem_mem hk)
   have h4:(s.Losses.take k).length<=3:=by rw[List.length_take]; omega
   unfold RgV at h2
   show zs8 s (d+1) (zyk _ _) (zyk _ _) (k:Int)=zs8 s d (zyk _ _) (zyk _ _) _
   rw[zs8,if_pos (by omega),zrG hg,obs,zqr (fI (by omega)),zqr (fI (by omega)),zqr (fI (by omega)),zyn hg,zyn hg]
  ·show zs8 s (d+1) (zyk _ _) (zyk _ _) _=_
   rw[zs8,if_neg (Int.lt_irrefl _),List.take_length,zyo (by omega) (by omega) hrs,obs,zyo (by omega) (by omega) hrs,obs];exact zyp (by unfold hiN at hn; omega) _ _ (by omega) (by omega)
 unfold zta;rw[e]; rfl
end
end Go.Proofs.Ytkclhciahokifaa

namespace Go.Proofs.Ytkclhciahokifaa
open _root_.Go.Proofs.Try
open Go.Abs
set_option maxRecDepth 100000
noncomputable section
def Inc(n fr:Nat)(T:List Int):Prop:=T.Pairwise (· < ·)/\∀v∈T,(fr:Int)<=v/\v < n
theorem Inc.cons{n fr:Nat}{x:Int}{T:List Int}:Inc n fr (x::T)↔((fr:Int)<=x/\x < n)/\Inc n (x+1).toNat T:=by
 unfold Inc;rw[List.pairwise_cons]
 constructor
 ·rintro⟨⟨h1,h2⟩,h3⟩
  have hx:=h3 x (List.mem_cons_self ..);exact⟨hx,h2,fun v hv=>by have:=h1 v hv; have:=h3 v (List.mem_cons_of_mem _ hv); omega⟩
 ·rintro⟨hx,h2,h3⟩
  refine⟨⟨fun v hv=>by have:=h3 v hv; omega,h2⟩,fun v hv=>?_⟩
  rcases List.mem_cons.1 hv with rfl | hv
  ·exact hx
  ·have:=h3 v hv; omega
theorem zyr{n:Nat}{D:List Int}:∀{d:Nat} {pre:List Int} {fr:Nat},D∈zrv n d pre fr↔∃T,D=pre++T/\T.length=d/\Inc n fr T
 | 0,pre,fr=>by
  show D∈[pre]↔_
  rw[List.mem_singleton]
  constructor
  ·rintro rfl; exact⟨[],by simp,rfl,.nil,fun v hv=>by cases hv⟩
  ·rintro⟨T,h1,h2,_⟩
   rw[List.eq_nil_of_length_eq_zero h2,List.append_nil] at h1; exact h1
 | d+1,pre,fr=>by
  show D∈zru (fun x=>zrv n d (pre++[(x:Int)]) (x+1)) (n - fr) fr↔_
  rw[zuG]
  constructor
  ·rintro⟨x,h1,h2,h3⟩
   obtain⟨T,h4,h5,h6⟩:=zyr.1 h3;refine⟨(x:Int)::T,by rw[h4]; simp,by simp[h5],Inc.cons.2 ⟨by omega,?_⟩⟩;rw[show((x:Int)+1).toNat=x+1 by omega]; exact h6
  ·rintro⟨T,h1,h2,h3⟩
   cases T with
   | nil=>simp at h2
   | cons v T=>
    obtain⟨h4,h5⟩:=Inc.cons.1 h3;refine⟨v.toNat,by omega,by omega,zyr.2 ⟨T,?_,by simpa using h2,?_⟩⟩
    ·rw[show((v.toNat:Nat):Int)=v by omega,h1]; simp
    ·rw[show v.toNat+1=(v+1).toNat by omega]; exact h5
theorem zys{n:Nat}:∀{T:List Int} {fr:Nat},Inc n fr T->T.length<=n - fr
 | [],_,_=>Nat.zero_le _
 | v::T,fr,h=>by
  obtain⟨h1,h2⟩:=Inc.cons.1 h;have:=zys h2
  simp only[List.length_cons]
  omega
theorem zyt{n:Nat}{D:List Int}:D∈zoh n↔Inc n 0 D:=by
 unfold zoh;rw[zuG]
 constructor
 ·rintro⟨s,_,_,h⟩
  obtain⟨T,h1,_,h2⟩:=zyr.1 h;rw[h1]; exact h2
 ·intro h;have:=zys h;exact⟨D.length,Nat.zero_le _,by omega,zyr.2 ⟨D,rfl,rfl,h⟩⟩
def bef:List Int->List Int->Bool
 | [],[]=>false
 | [],_::_=>true
 | _::_,[]=>false
 | x::a,y::b=>if x=y then bef a b else decide (x < y)
def shB(a b:List Int):Bool:=decide (a.length < b.length) || (decide (a.length=b.length) && bef a b)
theorem zyu:∀A:List Int,bef A A=false
 | []=>rfl
 | x::A=>by show(if x=x then bef A A else _)=_; rw[if_pos rfl,zyu A]
theorem zyv:∀A B:List Int,A=B\/bef A B=true\/bef B A=true
 | [],[]=>.inl rfl
 | [],_::_=>.inr (.inl rfl)
 | _::_,[]=>.inr (.inr rfl)
 | x::A,y::B=>by
  show x::A=y::B\/(if x=y then bef A B else decide (x < y))=true\/(if y=x then bef B A else decide (y < x))=true
  by_cases hxy:x=y
  ·subst hxy;rw[if_pos rfl,if_pos rfl]
   rcases zyv A B with h | h | h
   ·exact .inl (by rw[h])
   ·exact .inr (.inl h)
   ·exact .inr (.inr h)
  ·rw[if_neg hxy,if_neg fun h=>hxy h.symm]
   by_cases h:x < y
   ·exact .inr (.inl (decide_eq_true h))
   ·exact .inr (.inr (decide_eq_true (by omega)))
theorem zyw{l:List Int}(h:l ≠ [])(hl:l.length<=1048577):ztC l=some (zrS l):=by
 unfold ztC
 cases l with
 | nil=>exact absurd rfl h
 | cons x l=>
  rw[if_neg (by rw[List.length_cons]; omega),zrI rfl,obs];refine(zrR (l:=x::l) (fun s a=>min s a) (fun d s k=>ztB (x::l) d s k) (fun s=>some s) (fun d k s a hk=>?_) (fun d s=>?_) _ 0 x (Nat.zero_le _) (by omega)).trans ?_
  ·have hkl:=(List.getElem?_eq_some_iff.1 hk).1
   show ztB (x::l) (d+1) s (k:Int)=_
   rw[ztB,if_pos (by omega),zrG hk,obs]
   by_cases hc:a < s
   ·rw[if_pos hc,zqr (fI (by omega)),Int.min_eq_right (by omega)]
   ·rw[if_neg hc,zqr (fI (by omega)),Int.min_eq_left (by omega)]
  ·show ztB (x::l) (d+1) s _=_
   rw[ztB,if_neg (Int.lt_irrefl _)]
  ·rw[List.drop_zero]
   show some (l.foldl min (min x x))=_
   rw[Int.min_self]; rfl
theorem zyx{l:List Int}(h:l ≠ [])(hl:l.length<=1048577):ztE l=some (zrT l):=by
 unfold ztE
 cases l with
 | nil=>exact absurd rfl h
 | cons x l=>
  rw[if_neg (by rw[List.length_cons]; omega),zrI rfl,obs];refine(zrR (l:=x::l) (fun s a=>max s a) (fun d s k=>ztD (x::l) d s k) (fun s=>some s) (fun d k s a hk=>?_) (fun d s=>?_) _ 1 x (by rw[List.length_cons]; omega) (by rw[List.length_cons]; omega)).trans ?_
  ·have hkl:=(List.getElem?_eq_some_iff.1 hk).1
   show ztD (x::l) (d+1) s (k:Int)=_
   rw[ztD,if_pos (by omega),zrG hk,obs,zqr (fI (by omega))]
  ·show ztD (x::l) (d+1) s _=_
   rw[ztD,if_neg (Int.lt_irrefl _)]
  ·rfl
theorem zyy{l:List Int}(h:l ≠ []):zrS l∈l/\∀y∈l,zrS l<=y:=by
 cases l with
 | nil=>exact absurd rfl h
 | cons x l=>
  obtain⟨h1,h2,h3⟩:=zrU l x;refine⟨?_,fun y hy=>?_⟩
  ·rcases h1 with h1 | h1
   ·show l.foldl min x∈_; rw[h1]; exact List.mem_cons_self ..
   ·exact List.mem_cons_of_mem _ h1
  ·rcases List.mem_cons.1 hy with rfl | hy
   ·exact h2
   ·exact h3 y hy
theorem zyz{l:List Int}(h:l ≠ []):zrT l∈l/\∀y∈l,y<=zrT l:=by
 cases l with
 | nil=>exact absurd rfl h
 | cons x l=>
  obtain⟨h1,h2,h3⟩:=zrV l x;refine⟨?_,fun y hy=>?_⟩
  ·rcases h1 with h1 | h1
   ·show l.foldl max x∈_; rw[h1]; exact List.mem_cons_self ..
   ·exact List.mem_cons_of_mem _ h1
  ·rcases List.mem_cons.1 hy with rfl | hy
   ·exact h2
   ·exact h3 y hy
def bnd(s:Soc)(g:Int->Int):Rg:={ Lo:=zrS ((zyi (loN s) (hiN s)).map g),Hi:=zrT ((zyi (loN s) (hiN s)).map g) }
def zyA(s:Soc)(out:List Int)(N:Int):Oc:={ need:=N,calls:=mk5 (zxH s.Members (zx6 s.Members.length out) N).1 }
theorem zyB{s:Soc}(hs:zxS s):(zyi (loN s) (hiN s)).length<=121:=by
 have:=zym hs;unfold zyi; rw[List.length_map,List.length_range]; omega
theorem zyC{s:Soc}(hs:zxS s):zyi (loN s) (hiN s) ≠ []:=fun h=>by
 have:=zym hs;have:loN s∈zyi (loN s) (hiN s):=zyj.2 (by omega)
 rw[h] at this; cases this
theorem zyD{s:Soc}(hs:zxS s)(g:Int->Int):(∃N,(loN s<=N/\N<=hiN s)/\g N=(bnd s g).Lo)/\(∃N,(loN s<=N/\N<=hiN s)/\g N=(bnd s g).Hi)/\∀N,loN s<=N/\N<=hiN s->(bnd s g).Lo<=g N/\g N<=(bnd s g).Hi:=by
 have hne:(zyi (loN s) (hiN s)).map g ≠ []:=fun h=>zyC hs (List.map_eq_nil_iff.1 h);obtain⟨a1,a2⟩:=zyy hne;obtain⟨b1,b2⟩:=zyz hne;obtain⟨x,hx,ex⟩:=List.mem_map.1 a1;obtain⟨y,hy,ey⟩:=List.mem_map.1 b1;exact⟨⟨x,zyj.1 hx,ex⟩,⟨y,zyj.1 hy,ey⟩,fun N hN=>⟨a2 _ (List.mem_map.2 ⟨N,zyj.2 hN,rfl⟩),b2 _ (List.mem_map.2 ⟨N,zyj.2 hN,rfl⟩)⟩⟩
theorem zyE{s:Soc}(hs:zxS s):bnd s (fun N=>N)={ Lo:=loN s,Hi:=hiN s }:=by
 obtain⟨⟨x,hx,ex⟩,⟨y,hy,ey⟩,h⟩:=zyD hs fun N=>N;have hb:=zym hs;have h1:=(h (loN s) ⟨Int.le_refl _,hb.2.1⟩).1;have h2:=(h (hiN s) ⟨hb.2.1,Int.le_refl _⟩).2
 have e1:(bnd s fun N=>N).Lo=loN s:=by omega
 have e2:(bnd s fun N=>N).Hi=hiN s:=by omega
 revert e1 e2
 generalize bnd s (fun N=>N)=r;intro e1 e2
 cases r
 exact congr (congrArg Rg.mk e1) e2
theorem zyF{s:Soc}(hs:zxS s)(out:List Int){N:Int}(hN:0<=N/\N<=1000000):zty (zx7 s out) N=some (zyA s out N):=zxJ (w:=zx7 s out) hs.msOk rfl (zx8 s.Members out) hN
theorem zyG{s:Soc}(hs:zxS s){out:List Int}{q:Qu}{g:Int->Int}(hg:∀N,loN s<=N->N<=hiN s->q.ask (zyA s out N)=some (g N)) :
  ∀(L:List Int) (acc:List Int),(∀N∈L,loN s<=N/\N<=hiN s)->acc.length+L.length<=1000->acc++L.map g ≠ []->ztF (zx7 s out) q L acc=some { Lo:=zrS (acc++L.map g),Hi:=zrT (acc++L.map g) }
 | [],acc,_,hl,hne=>by
  rw[List.map_nil,List.append_nil] at hne ⊢;rw[ztF,zyw hne (by omega),obs,zyx hne (by omega),obs]
 | N::L,acc,hN,hl,hne=>by
  have h1:=hN N (List.mem_cons_self ..);have hb:=zym hs;rw[List.length_cons] at hl;rw[ztF,zyF hs out (by omega),obs,hg N h1.1 h1.2,obs,zqr (by omega),zyG hs hg L (acc++[g N]) (fun x hx=>hN x (List.mem_cons_of_mem _ hx)) (by rw[List.length_append]; show acc.length+1+_<=_; omega) (by simp)];rw[List.map_cons,List.append_assoc]; rfl
theorem zyH{s:Soc}(hs:zxS s){out:List Int}{q:Qu}{g:Int->Int}(hg:∀N,loN s<=N->N<=hiN s->q.ask (zyA s out N)=some (g N)):ztG (zx7 s out) q=some (bnd s g):=by
 unfold ztG;rw[show(zx7 s out).s=s from rfl,zyq hs,obs];have hl:=zyB hs;exact zyG hs hg _ [] (fun N hN=>zyj.1 hN) (by show 0+_<=_; omega) (fun h=>zyC hs (List.map_eq_nil_iff.1 h))
theorem zyI{s:Soc}(hs:zxS s):ztO s=some ({ Lo:=loN s,Hi:=hiN s },0):=by
 unfold ztO;rw[zyg hs (Nat.zero_le _) (zyh _),obs,if_pos rfl,zyH hs (g:=fun N=>N) (fun N _ _=>rfl),obs,zyE hs]
theorem zyJ{s:Soc}(hs:zxS s)(out:List Int){N:Int}(hN:0<=N/\N<=1000000):ztn (zyA s out N)=some (zxH s.Members (zx6 s.Members.length out) N).2:=by
 have hsup:=zx8 s.Members out;have h1:=zxN hs.msOk hsup hN
 have hb:Bd 1000000000000 (zxH s.Members (zx6 s.Members.length out) N).1:=fun i hi=>by have:=zxQ hs.msOk hsup hN hi; omega
 have hb5:=fun i hi=>zxQ hs.msOk hsup hN (i:=i) hi;have b0:=hb5 0 (by omega); have b1:=hb5 1 (by omega); have b2:=hb5 2 (by omega); have b3:=hb5 3 (by omega); have b4:=hb5 4 (by omega)
 have hS:0<=S5 (zxH s.Members (zx6 s.Members.length out) N).1/\S5 (zxH s.Members (zx6 s.Members.length out) N).1<=500000:=by unfold S5; omega
 unfold ztn
 show(ztc (mk5 (zxH s.Members (zx6 s.Members.length out) N).1)).bind _=_
 rw[zwy hb,obs,zqr (fI (by show -9223372036854775808<=N - S5 _/\N - S5 _ < _; omega))];exact congrArg some (show N - S5 (zxH s.Members (zx6 s.Members.length out) N).1=_ by omega)
def zyK(s:Soc)(out:List Int)(N:Int):List Int:=(l5 (zxH s.Members (zx6 s.Members.length out) N).1).take s.Members.length
theorem zyL{s:Soc}(out:List Int)(N:Int)(h5:s.Members.length<=5):(zyK s out N).length=s.Members.length:=by
 unfold zyK; rw[List.length_take]; show min _ 5=_; omega
theorem zyM{s:Soc}(out:List Int)(N:Int)(h5:s.Members.length<=5){k:Nat}(hk:k < s.Members.length):(zyK s out N)[k]? = some ((zxH s.Members (zx6 s.Members.length out) N).1 k):=by
 unfold zyK; rw[List.getElem?_take,if_pos hk]; exact zwq (by omega)
theorem zyN{s:Soc}(hs:zxS s){N:Int}(hN:0<=N/\N<=300000):ztQ s N=some (zyK s [] N,(zxH s.Members (zx6 s.Members.length []) N).2,0):=by
 have h5:=hs.m5;unfold ztQ;rw[zyg hs (Nat.zero_le _) (zyh _),obs,if_pos rfl,zxV.some_of hN,obs,if_pos rfl]
 show(zty (zx7 s []) N).bind _=_
 rw[zyF hs [] (by omega),obs,zqr (by omega)]
 have e:ztP ((([(zyA s [] N).calls.p0,(zyA s [] N).calls.p1,(zyA s [] N).calls.p2,(zyA s [] N).calls.p3,(zyA s [] N).calls.p4]:List Int).take (Int.toNat (s.Members.length:Int))).drop (Int.toNat (0:Int)))=some (zyK s [] N):=by
  have hl:=zyL [] N h5
  show ztP (zyK s [] N)=_
  unfold ztP;rw[zqr (by rw[hl]; show 0+_<=_; omega)]; rfl
 rw[e,obs,zyJ hs [] (by omega),obs]
theorem zyO{s:Soc}(hs:zxS s)(out:List Int)(N:Int){k:Nat}(hk:k < s.Members.length):ztz (zyA s out N) (k:Int)=some ((zxH s.Members (zx6 s.Members.length out) N).1 k):=by
 have h5:=hs.m5;unfold ztz
 show(idx (l5 (zxH s.Members (zx6 s.Members.length out) N).1) (k:Int)).bind _=_
 rw[zwr (by omega),obs]
def zyP(s:Soc)(out:List Int):List Rg:=(List.range s.Members.length).map fun k=>bnd s fun N=>(zxH s.Members (zx6 s.Members.length out) N).1 k
theorem zyQ{s:Soc}(out:List Int):(zyP s out).length=s.Members.length:=by unfold zyP; rw[List.length_map,List.length_range]
theorem zyR{s:Soc}(out:List Int){k:Nat}(hk:k < s.Members.length):(zyP s out)[k]? = some (bnd s fun N=>(zxH s.Members (zx6 s.Members.length out) N).1 k):=by
 unfold zyP; rw[List.getElem?_map,List.getElem?_range hk]; rfl
theorem zyS{s:Soc}(hs:zxS s){out:List Int}(hl:zrQ out)(ho:zyc s.Members.length out):ztS s out=some (zyP s out,0):=by
 have h5:=hs.m5;unfold ztS;rw[zyg hs hl ho,obs,if_pos rfl];refine zwp (n:=s.Members.length) (fun d acc x=>ztR s (zx7 s out,0) d acc x) (fun k=>(zyP s out).take k) (fun d k hk=>?_) (fun d=>?_) (s.Members.length+1) 0 (by omega) (by omega)
 ·show ztR s (zx7 s out,0) (d+1) _ _=_
  have hb:ztA (k:Int)=some (fun o=>ztz o (k:Int)):=rfl;rw[ztR,if_pos (by omega),hb,obs]
  show(ztG (zx7 s out) _).bind _=_
  rw[zyH hs (g:=fun N=>(zxH s.Members (zx6 s.Members.length out) N).1 k) (fun N _ _=>zyO hs out N hk),obs,zqr (by rw[List.length_take]; omega),zqr (fI (by omega))];rw[List.take_add_one,zyR out hk]; rfl
 ·show ztR s (zx7 s out,0) (d+1) _ _=_
  rw[ztR,if_neg (Int.lt_irrefl _),List.take_of_length_le (by rw[zyQ]; exact Nat.le_refl _)]
theorem zyT{s:Soc}(hs:zxS s):ztT s=some (zyP s [],0):=by
 unfold ztT;rw[zyS hs (Nat.zero_le _) (zyh _),obs]
def zyU(s:Soc)(out:List Int)(N:Int):Int:=(zxH s.Members (zx6 s.Members.length out) N).2
theorem zyV{s:Soc}(hs:zxS s):ztU s=some (bnd s (zyU s []),0):=by
 have hb:=zym hs;unfold ztU;rw[zyg hs (Nat.zero_le _) (zyh _),obs,if_pos rfl,zyH hs (g:=zyU s []) (fun N h1 h2=>zyJ hs [] (by omega)),obs]
theorem zyW{s:Soc}(hs:zxS s)(out:List Int):ztH (zx7 s out)=some (hiN s):=by
 unfold ztH;rw[zyH hs (g:=fun N=>N) (fun N _ _=>rfl),obs,zyE hs]
theorem zyX(a:Mb){r t:Int}(hu:0<=unN a)(h:r<=t):min (unN a * r / 100) a.Most<=min (unN a * t / 100) a.Most:=by
 have h1:unN a * r<=unN a * t:=Int.mul_le_mul_of_nonneg_left h hu;have h2:=Int.ediv_le_ediv (c:=100) (by omega) h1
 omega
def brN(ms:List Mb)(rate:Int):Int:=zwG (ms.map fun a=>min (unN a * rate / 100) a.Most)
theorem zyY{ms:List Mb}(hm:∀a∈ms,zxn a){r:Int}(hr:0<=r/\r<=10000):0<=brN ms r/\brN ms r<=100000 * ms.length:=by
 induction ms with
 | nil=>exact⟨Int.le_refl _,Int.le_refl _⟩
 | cons a ms ih=>
  have ih:=ih fun a ha=>hm a (List.mem_cons_of_mem _ ha);have ha:=hm a (List.mem_cons_self ..);have hu:=zxp ha;have hmo:=ha.most;have h1:0<=unN a * r / 100:=Int.ediv_nonneg (Int.mul_nonneg (by omega) hr.1) (by omega);have e:brN (a::ms) r=min (unN a * r / 100) a.Most+brN ms r:=rfl;rw[e,List.length_cons]; omega
theorem zyZ{ms:List Mb}(hm:∀a∈ms,zxn a){r t:Int}(h:r<=t):brN ms r<=brN ms t:=by
 induction ms with
 | nil=>exact Int.le_refl _
 | cons a ms ih=>
  have ih:=ih fun a ha=>hm a (List.mem_cons_of_mem _ ha);have h2:=zyX a (by have:=zxp (hm a (List.mem_cons_self ..)); omega) h
  show min _ _+brN ms r<=min _ _+brN ms t
  omega
theorem zy0{ms:List Mb}{r:Int}{k:Nat}{a:Mb}(h:ms[k]? = some a):brN (ms.take (k+1)) r=brN (ms.take k) r+min (unN a * r / 100) a.Most:=by
 unfold brN;rw[List.take_add_one,h,List.map_append,zwH]
 show _+(min (unN a * r / 100) a.Most+0)=_
 rw[Int.add_zero]
theorem zy1{s:Soc}(hs:zxS s)(out:List Int){r:Int}(hr:0<=r/\r<=10000):ztJ (zx7 s out) r=some (brN s.Members r):=by
 have h5:=hs.m5;unfold ztJ;refine zwp (n:=s.Members.length) (fun d acc x=>ztI (zx7 s out) r d acc x) (fun k=>brN (s.Members.take k) r) (fun d k hk=>?_) (fun d=>?_) (s.Members.length+1) 0 (by omega) (by omega)
 ·have hg:=List.getElem?_eq_getElem hk;have ha:=hs.full.ms _ (List.getElem_mem hk);have hu:=zxp ha;have hmo:=ha.most;have hb:=zyY (ms:=s.Members.take k) (fun a ha=>hs.full.ms a (List.mem_of_mem_take ha)) hr
  have hlk:(s.Members.take k).length<=5:=by rw[List.length_take]; omega
  have hm:=zwZ (a:=unN s.Members[k]) (x:=r) (A:=10000) (X:=10000) (by omega) hr;have hq:0<=unN s.Members[k] * r / 100:=Int.ediv_nonneg hm.1 (by omega)
  have hun:ztp s.Members[k]=some (unN s.Members[k]):=by
   have h1:=ha.sum; have h2:=ha.cls;unfold unN at hu;unfold ztp unN;rw[zqr (by omega),zqr (by omega),zqr (fI (by omega))]
  show ztI (zx7 s out) r (d+1) _ _=_
  rw[ztI,if_pos (show(k:Int) < ((zx7 s out).s.Members.length:Int) by show(k:Int) < (s.Members.length:Int); omega),show idx (zx7 s out).s.Members (k:Int)=some s.Members[k] from zrG hg,obs,hun,obs,zqr (by omega),zqr hr.1,zqr (fI (by omega)),zqr hm.1,zqr (by omega),zqr (fI (by omega)),zqr (fI (by omega)),zqr (fI (by omega)),zy0 hg]
 ·show ztI (zx7 s out) r (d+1) _ _=_
  rw[ztI,if_neg (show ¬ ((s.Members.length:Nat):Int) < ((zx7 s out).s.Members.length:Int) from Int.lt_irrefl _),List.take_length]
def zy2(s:Soc)(r:Int):Bool:=decide (hiN s<=brN s.Members r)
theorem zy3{s:Soc}(hs:zxS s){r:Int}(hr:0<=r/\r<=10000):ztK (zx7 s []) r=some (zy2 s r):=by
 unfold ztK;rw[zy1 hs [] hr,obs,zyW hs,obs]; rfl
theorem zy4{p:Int->Option Bool}{f:Nat->Bool}{n:Nat}(hn:n<=1000000)(hp:∀m,m < n->p (m:Int)=some (f m))(hm:∀m k,m<=k->k < n->f m=true->f k=true):∀d (i j:Nat),i<=j->j<=n->j - i < d->(∀m,m < i->f m=false)->(∀m,j<=m->m < n->f m=true) ->
  ∃k:Nat,ztM p d (i:Int) (j:Int)=some (k:Int)/\k<=n/\(∀m,m < k->f m=false)/\(∀m,k<=m->m < n->f m=true)
 | 0,_,_,_,_,h,_,_=>by omega
 | d+1,i,j,hij,hj,h,hlo,hhi=>by
  rw[ztM]
  by_cases hc:i < j
  ·obtain⟨md,hmd⟩:∃md:Nat,md=(i+j) / 2:=⟨_,rfl⟩
   have hf:zl6 .u64 ((i:Int)+j):=show _/\_ by constructor <;> omega
   have e:zmb .i64 (zmb .u64 ((i:Int)+j) / 2)=(md:Int):=by
    rw[wz hf,wz (fI (by omega))]; omega
   rw[if_pos (by omega),zqr (fI (by omega)),zqr (by rw[wz hf]; omega),zqr (by omega),zqr (by omega),zqr (by rw[wz hf]; exact show _/\_ by constructor <;> omega),e,hp md (by omega),obs]
   cases hq:f md with
   | true=>
    rw[if_pos rfl];exact zy4 hn hp hm d i md (by omega) (by omega) (by omega) hlo fun m h1 h2=>hm md m h1 h2 hq
   | false=>
    rw[if_neg (by decide),zqr (fI (by omega)),show(md:Int)+1=((md+1:Nat):Int) by omega]
    exact zy4 hn hp hm d (md+1) j (by omega) hj (by omega) (fun m h1=>by
     cases hq2:f m with
     | false=>rfl
     | true=>have:=hm m md (by omega) (by omega) hq2; rw[hq] at this; cases this) hhi
  ·rw[if_neg (by omega)];exact⟨i,rfl,by omega,hlo,fun m h1 h2=>hhi m (by omega) h2⟩
theorem zy5{s:Soc}(hs:zxS s):∃k:Nat,ztN 10001 (fun r=>ztK (zx7 s []) r)=some (k:Int)/\k<=10001/\(∀m:Nat,m < k->zy2 s m=false)/\(∀m:Nat,k<=m->m < 10001->zy2 s m=true):=by
 unfold ztN
 exact zy4 (n:=10001) (f:=fun m=>zy2 s (m:Int)) (by omega) (fun m hm=>zy3 hs (by omega)) (fun m k h1 h2 h3=>by
  have h4:hiN s<=brN s.Members (m:Int):=of_decide_eq_true h3;have h5:=zyZ hs.full.ms (r:=(m:Int)) (t:=(k:Int)) (by omega)
  exact decide_eq_true (by omega)) _ 0 10001 (by omega) (by omega) (by omega) (fun m h=>by omega) (fun m h1 h2=>by omega)
theorem zy6{s:Soc}(hs:zxS s):(∃k:Nat,ztV s=some ((k:Int),0)/\k<=10000/\hiN s<=brN s.Members (k:Int)/\∀m:Nat,m < k->brN s.Members (m:Int) < hiN s)\/(ztV s=some (0,10)/\∀m:Nat,m<=10000->brN s.Members (m:Int) < hiN s):=by
 obtain⟨k,h1,h2,h3,h4⟩:=zy5 hs
 have lt:∀m:Nat,zy2 s (m:Int)=false->brN s.Members (m:Int) < hiN s:=fun m h=>by
  have:=of_decide_eq_false h; omega
 unfold ztV;rw[zyg hs (Nat.zero_le _) (zyh _),obs,if_pos rfl]
 show(∃k':Nat,(ztN 10001 (fun r=>ztK (zx7 s []) r)).bind _=_/\_)\/((ztN 10001 (fun r=>ztK (zx7 s []) r)).bind _=_/\_)
 rw[h1,obs]
 by_cases hk:k<=10000
 ·rw[if_neg (by omega)];exact .inl ⟨k,rfl,hk,of_decide_eq_true (h4 k (Nat.le_refl _) (by omega)),fun m hm=>lt m (h3 m hm)⟩
 ·rw[if_pos (by omega)];exact .inr ⟨rfl,fun m hm=>lt m (h3 m (by omega))⟩
def zy7(s:Soc)(l:List Int):Bool:=decide (0 < (bnd s (zyU s l)).Hi)
theorem zy8{s:Soc}(hs:zxS s){l:List Int}(hl:zrQ l):ztL s l=some (zy7 s l):=by
 have hb:=zym hs;unfold ztL;rw[zyb hl hs.m5,obs,zyH hs (g:=zyU s l) (fun N h1 h2=>zyJ hs l (by omega)),obs]; rfl
theorem zy9{s:Soc}(hs:zxS s)(h:hiN s ≠ 0):ztW s=some (zrw s.Members.length (zy7 s),0):=by
 have h5:=hs.m5
 have hlen:∀L∈zoh s.Members.length,zrQ L:=fun L hL=>by have:=zys (zyt.1 hL); unfold zrQ; omega
 unfold ztW;rw[zyg hs (Nat.zero_le _) (zyh _),obs,if_pos rfl,zyW hs,obs,if_neg h];unfold zrx;rw[zqr ⟨by omega,by omega,fun L hL=>by show(ztL s L).isSome=true; rw[zy8 hs (hlen L hL)]; rfl⟩,obs];refine congrArg (fun x=>some (x,(0:Int))) ?_
 have e:(zoh s.Members.length).find? (fun L=>((ztL s L)).getD false)=(zoh s.Members.length).find? (zy7 s):=by
  have:∀l:List (List Int),(∀L∈l,zrQ L)->l.find? (fun L=>((ztL s L)).getD false)=l.find? (zy7 s):=by
   intro l
   induction l with
   | nil=>intro _; rfl
   | cons L l ih=>
    intro hl
    have h1:(ztL s L).getD false=zy7 s L:=by rw[zy8 hs (hl L (List.mem_cons_self ..))]; rfl
    rw[List.find?_cons,List.find?_cons,h1,ih fun L hL=>hl L (List.mem_cons_of_mem _ hL)]
  exact this _ hlen
 show zrw s.Members.length (fun L=>((ztL s L)).getD false)=_
 unfold zrw;rw[e]
theorem zza{a b:List Int}(hl:a.length<=1000):∀(d k:Nat),k<=a.length->a.length - k < d->zsw a b d (k:Int)=some (bef (a.drop k) (b.drop k))
 | 0,_,_,h=>by omega
 | d+1,k,hk,h=>by
  rw[zsw]
  by_cases hka:k < a.length
  ·rw[if_pos (by omega)];have da:=List.drop_eq_getElem_cons hka;have ga:=List.getElem?_eq_getElem hka
   by_cases hkb:k < b.length
   ·have db:=List.drop_eq_getElem_cons hkb;have gb:=List.getElem?_eq_getElem hkb;rw[if_pos (by omega),zrG ga,obs,zrG gb,obs,da,db];unfold bef
    by_cases he:a[k]=b[k]
    ·rw[if_pos he,if_pos he,zqr (fI (by omega)),show(k:Int)+1=((k+1:Nat):Int) by omega];exact zza hl d (k+1) (by omega) (by omega)
    ·rw[if_neg he,if_neg he,obs,obs]
   ·rw[if_neg (by omega),da,List.drop_eq_nil_of_le (show b.length<=k by omega),decide_eq_false (by omega)]; rfl
  ·rw[if_neg (by omega),List.drop_eq_nil_of_le (show a.length<=k by omega)]
   by_cases hkb:k < b.length
   ·rw[List.drop_eq_getElem_cons hkb,decide_eq_true (by omega)]; rfl
   ·rw[List.drop_eq_nil_of_le (show b.length<=k by omega),decide_eq_false (by omega)]; rfl
theorem zzb{a b:List Int}(hl:a.length<=1000):zsx a b=some (bef a b):=zza hl (a.length+1) 0 (Nat.zero_le _) (by omega)
theorem zzc{a b:List Int}(hl:a.length<=1000):zsy a b=some (shB a b):=by
 unfold zsy shB
 by_cases h1:a.length < b.length
 ·rw[if_pos (by omega),decide_eq_true h1]; rfl
 ·rw[if_neg (by omega),decide_eq_false h1]
  by_cases h2:a.length=b.length
  ·rw[if_pos (by omega),zzb hl,decide_eq_true h2]; simp
  ·rw[if_neg (by omega),decide_eq_false h2]; simp
theorem zzd{a b:List Int}(hl:a.length=b.length):(bef a b=false/\bef b a=false)↔a=b:=by
 constructor
 ·rintro⟨h1,h2⟩
  rcases zyv a b with h | h | h
  ·exact h
  ·rw[h1] at h; cases h
  ·rw[h2] at h; cases h
 ·rintro rfl; exact⟨zyu _,zyu _⟩
theorem zze{a b:List Int}(ha:a.length<=1000)(hb:b.length<=1000):zsz a b=some (decide (a=b)):=by
 unfold zsz
 by_cases hl:a.length=b.length
 ·rw[if_pos (by omega),zzb ha,obs];have h:=zzd hl
  cases h1:bef a b with
  | true=>rw[if_pos rfl,decide_eq_false fun he=>by have:=(h.2 he).1; rw[h1] at this; cases this]
  | false=>
   rw[if_neg (by decide),zzb hb,obs]
   cases h2:bef b a with
   | true=>rw[decide_eq_false fun he=>by have:=(h.2 he).2; rw[h2] at this; cases this]; rfl
   | false=>rw[decide_eq_true (h.1 ⟨h1,h2⟩)]; rfl
 ·rw[if_neg (by omega),decide_eq_false fun he=>hl (by rw[he])]
def zzf(s:Soc):Prop:=s.Members.length<=8/\s.Losses.length<=6
theorem zzg{s:Soc}:Ev (zt1 s) (zzf s):=by
 unfold zt1 zzf
 by_cases h:(s.Members.length:Int)<=8
 ·rw[if_pos h]; exact Ev.dec (by omega)
 ·rw[if_neg h]; exact Ev.ff (by omega)
theorem zxS.thin{s:Soc}(h:zxS s):zzf s:=⟨by have:=h.m5; omega,by have:=h.l3; omega⟩
theorem zzh{s:Soc}(h:zzf s):zt0 s=some s:=by
 unfold zt0
 show ztZ s 1000000 [] [] s.Treaty.Lo s.Treaty.Hi s.Reserve 0=_
 obtain⟨h1,h2⟩:=h
 have k1:ztY s s.Members 1000000 [] s.Treaty.Lo s.Treaty.Hi s.Reserve 0=some s:=by
  refine(zrM (l:=s.Losses) (fun r=>r) (F:=fun d acc x=>ztY s s.Members d acc s.Treaty.Lo s.Treaty.Hi s.Reserve x) (fun acc=>some ({ Members:=s.Members,Losses:=acc,Treaty:=s.Treaty,Reserve:=s.Reserve }:Soc)) (fun d k acc a hk ha=>?_) (fun d acc=>?_) (d:=1000000) (by omega)).trans (by rw[List.map_id'])
  ·have hkl:=(List.getElem?_eq_some_iff.1 hk).1
   show ztY s s.Members (d+1) _ _ _ _ _=_
   rw[ztY,if_pos (by omega),zrG hk,obs]
   show(some a).bind _=_
   rw[obs,zqr (by omega),zqr (fI (by omega))]
  ·show ztY s s.Members (d+1) _ _ _ _ _=_
   rw[ztY,if_neg (Int.lt_irrefl _)]
 refine(zrM (l:=s.Members) (fun r=>r) (F:=fun d acc x=>ztZ s d acc [] s.Treaty.Lo s.Treaty.Hi s.Reserve x) (fun acc=>ztY s acc 1000000 [] s.Treaty.Lo s.Treaty.Hi s.Reserve 0) (fun d k acc a hk ha=>?_) (fun d acc=>?_) (d:=1000000) (by omega)).trans (by rw[List.map_id']; exact k1)
 ·have hkl:=(List.getElem?_eq_some_iff.1 hk).1
  show ztZ s (d+1) _ _ _ _ _ _=_
  rw[ztZ,if_pos (by omega),zrG hk,obs,zqr (by omega),zqr (fI (by omega))]
 ·show ztZ s (d+1) _ _ _ _ _ _=_
  rw[ztZ,if_neg (Int.lt_irrefl _)]
theorem zzi{s:Soc}:Ev (zt7 s) (zxS s):=by
 unfold zt7
 by_cases ht:zzf s
 ·rw[zzg.some_of ht,obs,if_pos rfl,zx5 ht.1 ht.2,obs];exact Ev.dec zxU
 ·rw[zzg.some_not ht,obs,if_neg (by decide)];exact Ev.ff fun h=>ht h.thin
def zzj(most:Int):Soc:={ Members:=[{ Sum:=100,Class:=2,Most:=most },{ Sum:=100,Class:=1,Most:=60 },{ Sum:=50,Class:=2,Most:=most }],Losses:=[{ Lo:=200,Hi:=210 },{ Lo:=90,Hi:=90 }],Treaty:={ Lo:=20,Hi:=25 },Reserve:=30 }
theorem zzk(most:Int):zt5 most=some (zzj most):=rfl
theorem zzl{most:Int}(h:0<=most/\most<=100000):zxS (zzj most):=by
 refine⟨Nat.le_of_ble_eq_true rfl,Nat.le_of_ble_eq_true rfl,Nat.le_of_ble_eq_true rfl,fun a ha=>?_,fun r hr=>?_,by show RgV ⟨20,25⟩; decide,by show(0:Int)<=30/\(30:Int)<=_; omega⟩
 ·rcases List.mem_cons.1 ha with rfl | ha
  ·exact⟨by show(1:Int)<=100/\(100:Int)<=1000; omega,by show(1:Int)<=2/\(2:Int)<=10; omega,h⟩
  rcases List.mem_cons.1 ha with rfl | ha
  ·exact⟨by decide,by decide,by decide⟩
  rcases List.mem_cons.1 ha with rfl | ha
  ·exact⟨by show(1:Int)<=50/\(50:Int)<=1000; omega,by show(1:Int)<=2/\(2:Int)<=10; omega,h⟩
  ·cases ha
 ·rcases List.mem_cons.1 hr with rfl | hr
  ·decide
  rcases List.mem_cons.1 hr with rfl | hr
  ·decide
  ·cases hr
theorem f64{n:Int}(h:-1000000<=n/\n<=1000000):zl6 .i64 n:=fI (by omega)
theorem zzm:zt6=some true:=by
 have h5:zxS (zzj 500):=zzl (by omega);have h1:zxS (zzj 150):=zzl (by omega)
 have n5:ztO (zzj 500)=some ({ Lo:=235,Hi:=250 },0):=by
  rw[zyI h5]
  have e1:loN (zzj 500)=235:=by decide +kernel
  have e2:hiN (zzj 500)=250:=by decide +kernel
  rw[e1,e2]
 have c5:ztQ (zzj 500) 250=some ([127,60,63],0,0):=by
  rw[zyN h5 (by omega)]
  have e1:zyK (zzj 500) [] 250=[127,60,63]:=by decide +kernel
  have e2:(zxH (zzj 500).Members (zx6 (zzj 500).Members.length []) 250).2=0:=by decide +kernel
  rw[e1,e2]
 have b5:ztT (zzj 500)=some (zyP (zzj 500) [],0):=zyT h5
 have eb:zyP (zzj 500) []=[{ Lo:=117,Hi:=127 },{ Lo:=59,Hi:=60 },{ Lo:=59,Hi:=63 }]:=by
  have e1:(zyP (zzj 500) []).map (·.Lo)=[117,59,59]:=by decide +kernel
  have e2:(zyP (zzj 500) []).map (·.Hi)=[127,60,63]:=by decide +kernel
  have e3:(zyP (zzj 500) []).length=3:=zyQ []
  revert e1 e2 e3
  generalize zyP (zzj 500) []=l;intro e1 e2 e3
  match l,e3 with
  | [⟨a1,a2⟩,⟨b1,b2⟩,⟨c1,c2⟩],_=>
   simp only[List.map_cons,List.map_nil,List.cons.injEq,and_true] at e1 e2
   obtain⟨rfl,rfl,rfl⟩:=e1;obtain⟨rfl,rfl,rfl⟩:=e2
   rfl
 have r5:ztV (zzj 500)=some (64,0):=by
  have m63:brN (zzj 500).Members 63 < 250:=by decide +kernel
  have m64:250<=brN (zzj 500).Members 64:=by decide +kernel
  have e2:hiN (zzj 500)=250:=by decide +kernel
  rcases zy6 h5 with ⟨k,q1,q2,q3,q4⟩ | ⟨q1,q2⟩
  ·rw[e2] at q3 q4
   have hk:k=64:=by
    apply Classical.byContradiction
    intro hne
    rcases Nat.lt_or_ge k 64 with h | h
    ·have:=zyZ h5.full.ms (r:=(k:Int)) (t:=63) (by omega); omega
    ·have:=q4 64 (by omega);have e:((64:Nat):Int)=64:=rfl;rw[e] at this; omega
   subst hk; exact q1
  ·have:=q2 64 (by omega);have e:((64:Nat):Int)=64:=rfl;rw[e2,e] at this; omega
 have x5:ztW (zzj 500)=some ([0,2],0):=by
  rw[zy9 h5 (by decide +kernel)]
  have e:zrw (zzj 500).Members.length (zy7 (zzj 500))=[0,2]:=by decide +kernel
  rw[e]
 have x1:ztW (zzj 150)=some ([0],0):=by
  rw[zy9 h1 (by decide +kernel)]
  have e:zrw (zzj 150).Members.length (zy7 (zzj 150))=[0]:=by decide +kernel
  rw[e]
 unfold zt6;rw[zzk,obs,n5,obs,obs,c5,obs,obs,b5,obs,obs,r5,obs,obs,x5,obs,zzk,obs,x1,obs,eb];have s1:zsz [127,60,63] [127,60,63]=some true:=zze (by decide) (by decide);have s2:zsz [0,2] [0,2]=some true:=zze (by decide) (by decide);have s3:zsz [0] [0]=some true:=zze (by decide) (by decide);have f:∀n:Int,-1000000<=n/\n<=1000000->zl6 .i64 n:=fun n h=>f64 h
 simp only[zt4,obs,zqr (f 235 (by omega)),zqr (f 250 (by omega)),zqr (f 117 (by omega)),zqr (f 127 (by omega)),zqr (f 59 (by omega)),zqr (f 60 (by omega)),zqr (f 63 (by omega)),s1,s2,s3]
 simp[idx]
 rw[zqr (f 117 (by omega)),zqr (f 127 (by omega)),zqr (f 59 (by omega)),zqr (f 60 (by omega)),zqr (f 59 (by omega)),zqr (f 63 (by omega))]
theorem awk{β:Type}{f:Bool->Option β}:(zt6).bind f=f true:=by rw[zzm,obs]
theorem zzn{l:List Int}{k:Nat}{a:Int}(h:l[k]? = some a):zwG (l.take (k+1))=zwG (l.take k)+a:=by
 rw[List.take_add_one,h,zwH]
 show _+(a+0)=_; omega
theorem zzo{l:List Int}{B:Int}(h:∀x∈l,0<=x/\x<=B):0<=zwG l/\zwG l<=B * l.length:=by
 induction l with
 | nil=>exact⟨Int.le_refl _,by show(0:Int)<=B * ((0:Nat):Int); simp⟩
 | cons a l ih=>
  have ih:=ih fun x hx=>h x (List.mem_cons_of_mem _ hx);have:=h a (List.mem_cons_self ..)
  show 0<=a+zwG l/\a+zwG l<=_
  rw[List.length_cons,Int.natCast_add,Int.mul_add]
  show _/\_<=_+B * 1
  omega
theorem zzp{l:List Int}(hl:l.length<=9)(hb:∀x∈l,0<=x/\x<=1000000):zub l=some (zwG l):=by
 unfold zub;refine zwp (n:=l.length) (fun d acc x=>zua l d acc x) (fun k=>zwG (l.take k)) (fun d k hk=>?_) (fun d=>?_) _ 0 (by omega) (by omega)
 ·have hg:=List.getElem?_eq_getElem hk;have h3:=zzo (l:=l.take k) (B:=1000000) fun x hx=>hb x (List.mem_of_mem_take hx);have h4:=hb _ (List.getElem_mem hk)
  have h5:(l.take k).length<=9:=by rw[List.length_take]; omega
  show zua l (d+1) _ _=_
  rw[zua,if_pos (by omega),zrG hg,obs,zqr (fI (by omega)),zqr (fI (by omega)),zzn hg]
 ·show zua l (d+1) _ _=_
  rw[zua,if_neg (Int.lt_irrefl _),List.take_length]
theorem zzq(f:Nat->Int){n:Nat}(hn:n<=5):zwG ((l5 f).take n)=part f n:=by
 match n,hn with
 | 0,_=>rfl
 | 1,_=>show f 0+0=0+f 0; omega
 | 2,_=>show f 0+(f 1+0)=0+f 0+f 1; omega
 | 3,_=>show f 0+(f 1+(f 2+0))=0+f 0+f 1+f 2; omega
 | 4,_=>show f 0+(f 1+(f 2+(f 3+0)))=0+f 0+f 1+f 2+f 3; omega
 | 5,_=>show f 0+(f 1+(f 2+(f 3+(f 4+0))))=0+f 0+f 1+f 2+f 3+f 4; omega
theorem zzr(f:Nat->Int){n:Nat}(hn:n<=5)(h:∀i,n<=i->i < 5->f i=0):part f n=S5 f:=by
 rw[zw5 f hn];refine zwK fun i hi=>?_
 by_cases hin:i < n
 ·rw[if_pos hin]
 ·rw[if_neg hin,h i (by omega) hi]
theorem zzs{s:Soc}(hs:zxS s)(out:List Int){N:Int}(hN:0<=N/\N<=1000000):zwG (zyK s out N)=S5 (zxH s.Members (zx6 s.Members.length out) N).1:=by
 unfold zyK;rw[zzq _ hs.m5,zzr _ hs.m5];intro i h1 h2
 exact zxO hs.msOk (zx8 s.Members out) hN h2 (by
  cases hq:zx6 s.Members.length out i with
  | false=>rfl
  | true=>have:=zx8 s.Members out i hq; omega)
theorem zzt{s:Soc}(hs:zxS s)(out:List Int){N:Int}(hN:0<=N/\N<=1000000):∀x∈zyK s out N,0<=x/\x<=1000000:=fun x hx=>by
 have h5:=hs.m5;obtain⟨k,hk⟩:=List.mem_iff_getElem?.1 hx;have hlt:=(List.getElem?_eq_some_iff.1 hk).1;rw[zyL out N h5] at hlt;rw[zyM out N h5 hlt] at hk;have:=zxQ hs.msOk (zx8 s.Members out) hN (i:=k) (by omega);have:=oi hk
 omega
section
variable {ms:List Mb} {ask:Nat->Bool} {N:Int}
theorem zzu(hms:zxo ms)(hs:zxs ms ask)(hN:0<=N/\N<=1000000)(hn:¬ zxq ask=true)(hf:∀a∈ms,N<=a.Most):(∀i,(zxH ms ask N).1 i=zw0 N (uF ms ask) i)/\(zxH ms ask N).2=0:=by
 have hu:=zxB hms hs hn
 have hsame:zxr (zwD ms ask (zw0 N (uF ms ask))) ask=true:=zxu.2 fun i hi=>by
  cases hm:ms[i]? with
  | none=>unfold zwD; rw[hm]
  | some a=>
   rw[zxw hm];have h1:=hf a (List.mem_of_getElem? hm);have h2:=zxl hu hN.1 hi;rw[decide_eq_true (show zw0 N (uF ms ask) i<=a.Most by omega),Bool.and_true]
 unfold zxH roundsN;rw[if_neg hn,if_pos hsame];exact⟨fun i=>Int.zero_add _,rfl⟩
end
theorem zzv{n i:Nat}:zx6 n [] i=decide (i < n):=by unfold zx6; simp
theorem zzw{s:Soc}(hs:zxS s):¬ zxq (zx6 s.Members.length [])=true:=fun h=>by
 have h1:=hs.full.pos;have:=zxt.1 h 0 (by omega)
 rw[zzv,decide_eq_true h1] at this; cases this
def zzx(n:Int)(a:Mb):Mb:={ a with Most:=max a.Most n }
def zzy(s:Soc)(n:Int):Soc:={ s with Members:=s.Members.map (zzx n) }
theorem zzz{a:Mb}{n:Int}(h:zxn a)(hn:0<=n/\n<=100000):zxn (zzx n a):=⟨h.sum,h.cls,by have:=h.most; show 0<=max a.Most n/\max a.Most n<=100000; omega⟩
theorem zzA{s:Soc}{n:Int}(hs:zxS s)(hn:0<=n/\n<=100000):zxS (zzy s n):=
 ⟨by show(s.Members.map _).length<=5; rw[List.length_map]; exact hs.m5,hs.l3,by show 0 < (s.Members.map _).length; rw[List.length_map]; exact hs.full.pos,fun a ha=>by
  obtain⟨b,hb,rfl⟩:=List.mem_map.1 ha
  exact zzz (hs.full.ms b hb) hn,hs.full.ls,hs.full.tr,hs.full.rs⟩
theorem zzB{s:Soc}{n:Int}:∀a∈(zzy s n).Members,n<=a.Most:=fun a ha=>by
 obtain⟨b,hb,rfl⟩:=List.mem_map.1 ha
 show n<=max b.Most n; omega
theorem zzC{α:Type}(l1 l2:List α)(a b:α){k:Nat}(hk:k=l1.length):(l1++a::l2).set k b=l1++b::l2:=by
 subst hk;rw[List.set_append_right _ _ (Nat.le_refl _),Nat.sub_self]; rfl
theorem zzD{α:Type}(l1 l2:List α)(a:α){k:Nat}(hk:k=l1.length):(l1++a::l2)[k]? = some a:=by
 subst hk;rw[List.getElem?_append_right (Nat.le_refl _),Nat.sub_self]; rfl
def chL{α:Type}(f:α->α)(l:List α)(k:Nat):List α:=(l.take k).map f++l.drop k
theorem zzE{α:Type}(f:α->α){l:List α}{k:Nat}{a:α}(h:l[k]? = some a):(chL f l k)[k]? = some a/\(chL f l k).set k (f a)=chL f l (k+1)/\(chL f l k).length=l.length:=by
 obtain⟨hk,rfl⟩:=List.getElem?_eq_some_iff.1 h;have hd:=List.drop_eq_getElem_cons hk
 have hl:((l.take k).map f).length=k:=by rw[List.length_map,List.length_take]; omega
 refine⟨?_,?_,?_⟩
 ·unfold chL; rw[hd]; exact zzD _ _ _ hl.symm
 ·unfold chL;rw[hd,zzC _ _ _ _ hl.symm,List.take_add_one,h,List.map_append]
  show _=(_++[f l[k]])++_
  rw[List.append_assoc]; rfl
 ·unfold chL; rw[List.length_append,hl,List.length_drop]; omega
theorem zzF{s:Soc}(hs:zxS s){n:Int}:zt9 s n=some (zzy s n):=by
 have h5:=hs.m5;unfold zt9;rw[zqr (by show 0+_<=_; omega)];refine zwp (n:=s.Members.length) (fun d l x=>zt8 s n d l s.Treaty.Lo s.Treaty.Hi s.Reserve x) (chL (zzx n) s.Members) (fun d k hk=>?_) (fun d=>?_) 1000000 0 (by omega) (by omega)
 ·have hg:=List.getElem?_eq_getElem hk;obtain⟨h1,h2,h3⟩:=zzE (zzx n) hg
  show zt8 s n (d+1) (chL (zzx n) s.Members k) _ _ _ _=_
  rw[zt8,if_pos (by omega),zrG h1,obs,obs,zqr (fI (by omega)),<- h2]; rfl
 ·show zt8 s n (d+1) (chL (zzx n) s.Members s.Members.length) _ _ _ _=_
  have hl:(chL (zzx n) s.Members s.Members.length).length=s.Members.length:=by unfold chL; simp
  rw[zt8,if_neg (by rw[hl]; omega)]
  have e:chL (zzx n) s.Members s.Members.length=s.Members.map (zzx n):=by unfold chL; rw[List.take_length,List.drop_length,List.append_nil]
  rw[e]; rfl
theorem wzu{n:Int}(h:0<=n/\n < 4294967296):zmb .i64 n=n:=wz (fI (by omega))
theorem zzG{n:Int}(h:zl6 .u32 n):0<=n/\n < 4294967296:=h
end
end Go.Proofs.Ytkclhciahokifaa

namespace Go.Proofs.Ytkclhciahokifaa
open _root_.Go.Proofs.Try
open Go.Abs
set_option maxRecDepth 100000
noncomputable section
theorem zzH(l:List Int):∀{k:Nat},k<=l.length->zwG (l.take k)=part (fun i=>l[i]?.getD 0) k
 | 0,_=>rfl
 | k+1,h=>by
  have hg:=List.getElem?_eq_getElem (show k < l.length by omega);rw[zzn hg,zzH l (by omega)]
  show _=part _ k+(l[k]?.getD 0)
  rw[hg]; rfl
theorem zzI(ms:List Mb)(i:Nat):uF ms (zx6 ms.length []) i=(ms.map unN)[i]?.getD 0:=by
 cases hm:ms[i]? with
 | none=>
  have:uF ms (zx6 ms.length []) i=0:=by unfold uF zwB; rw[hm]
  rw[this,List.getElem?_map,hm]; rfl
 | some a=>
  have hi:=(List.getElem?_eq_some_iff.1 hm).1;have:uF ms (zx6 ms.length []) i=unN a:=zxz hm (by rw[zzv]; exact decide_eq_true hi);rw[this,List.getElem?_map,hm]; rfl
theorem zzJ{ms:List Mb}(h:ms.length<=5):S5 (uF ms (zx6 ms.length []))=zwG (ms.map unN):=by
 have e1:S5 (uF ms (zx6 ms.length []))=S5 fun i=>(ms.map unN)[i]?.getD 0:=zwK fun i _=>zzI ms i;rw[e1,<- zzr (fun i=>(ms.map unN)[i]?.getD 0) (n:=ms.length) h (fun i h1 _=>by rw[List.getElem?_eq_none (by rw[List.length_map]; exact h1)]; rfl),<- zzH _ (by rw[List.length_map]; exact Nat.le_refl _),List.take_of_length_le (by rw[List.length_map]; exact Nat.le_refl _)]
def zzK{α:Type}(l:List α)(k:Nat):List α:=l.drop k++l.take k
theorem zzL{α:Type}(l:List α){k:Nat}(h:k<=l.length):(zzK l k).length=l.length:=by unfold zzK; rw[List.length_append,List.length_drop,List.length_take]; omega
theorem zzM{α:Type}{l:List α}{k i:Nat}(hk:k < l.length)(hi:i < l.length):(zzK l k)[i]? = l[(i+k) % l.length]?:=by
 unfold zzK
 by_cases h:i < l.length - k
 ·rw[List.getElem?_append_left (by rw[List.length_drop]; exact h),List.getElem?_drop,Nat.mod_eq_of_lt (by omega),Nat.add_comm]
 ·rw[List.getElem?_append_right (by rw[List.length_drop]; omega),List.length_drop,List.getElem?_take,if_pos (by omega)]
  have e:(i+k) % l.length=i+k - l.length:=by
   rw[Nat.mod_eq_sub_mod (by omega),Nat.mod_eq_of_lt (by omega)]
  rw[e]; congr 1; omega
theorem zzN{α:Type}{l:List α}{k:Nat}{a:α}:a∈zzK l k↔a∈l:=by
 unfold zzK;rw[List.mem_append]
 constructor
 ·rintro (h | h)
  ·exact List.mem_of_mem_drop h
  ·exact List.mem_of_mem_take h
 ·intro h;rw[<- List.take_append_drop k l] at h;exact(List.mem_append.1 h).symm
theorem zzO(l:List Mb)(k:Nat):zwG ((zzK l k).map unN)=zwG (l.map unN):=by
 unfold zzK
 conv=>rhs; rw[<- List.take_append_drop k l]
 rw[List.map_append,List.map_append,zwH,zwH]; omega
theorem zzP{s:Soc}(hs:zxS s){N:Int}(hN:0<=N/\N<=300000)(hf:∀a∈s.Members,N<=a.Most):ztQ s N=some (zyK s [] N,0,0)/\(∀k,k < s.Members.length->(zyK s [] N)[k]? = some (zw0 N (uF s.Members (zx6 s.Members.length [])) k))/\zwG (zyK s [] N)=N:=by
 have h:=zzu hs.msOk (zx8 s.Members []) (N:=N) (by omega) (zzw hs) hf;refine⟨by rw[zyN hs hN,h.2],fun k hk=>?_,?_⟩
 ·rw[zyM [] N hs.m5 hk,h.1]
 ·have h1:=zzs hs [] (N:=N) (by omega);have h2:=zxN hs.msOk (zx8 s.Members []) (N:=N) (by omega)
  omega
theorem zzQ{s:Soc}{by_ need:Int}(_:zsa s)(hb:zl6 .u8 by_)(hn:zl6 .u32 need):zue s by_ need=some true:=by
 have hn:=zzG hn;have hb:=fU8 hb;unfold zue
 refine zzi.pick (fun hs=>?_) fun _=>by rw[if_neg (by decide),awk]
 have hmod1:=Int.emod_nonneg need (show(100001:Int) ≠ 0 by omega);have hmod2:=Int.emod_lt_of_pos need (show(0:Int) < 100001 by omega);rw[if_pos rfl,wzu hn,zqr (by omega),zqr (by omega),zqr (fI (by omega)),zzF hs,obs];obtain⟨n,hne⟩:∃n,n=need % 100001:=⟨_,rfl⟩;rw[<- hne] at hmod1 hmod2 ⊢;have hx:=zzA hs (n:=n) (by omega);have hxf:=zzB (s:=s) (n:=n);generalize zzy s n=x at hx hxf ⊢;have h5:=hx.m5; have hp:=hx.full.pos
 obtain⟨k,hk,hke⟩:∃k:Nat,k < x.Members.length/\by_ % (x.Members.length:Int)=(k:Int):=⟨(by_ % (x.Members.length:Int)).toNat,by
  have h1:=Int.emod_nonneg by_ (show(x.Members.length:Int) ≠ 0 by omega);have h2:=Int.emod_lt_of_pos by_ (show(0:Int) < x.Members.length by omega)
  omega,by
  have h1:=Int.emod_nonneg by_ (show(x.Members.length:Int) ≠ 0 by omega)
  omega⟩
 have hbw:zmb .i64 by_=by_:=wzu (by omega);rw[hbw,zqr (by omega),zqr (by omega),zqr (fI (by rw[hke]; omega))]
 -- the other order
 have hy:zxS { Members:=zzK x.Members k,Losses:=x.Losses,Treaty:=x.Treaty,Reserve:=x.Reserve }:=⟨by show(zzK x.Members k).length<=5; rw[zzL _ (by omega)]; exact h5,hx.l3,by show 0 < (zzK x.Members k).length; rw[zzL _ (by omega)]; exact hp,fun a ha=>hx.full.ms a (zzN.1 ha),hx.full.ls,hx.full.tr,hx.full.rs⟩;have hyf:∀a∈zzK x.Members k,n<=a.Most:=fun a ha=>hxf a (zzN.1 ha);have hyl:=zzL x.Members (k:=k) (by omega);obtain⟨a1,a2,a3⟩:=zzP hx (N:=n) (by omega) hxf;obtain⟨b1,b2,b3⟩:=zzP hy (N:=n) (by omega) hyf;have la:=zyL (s:=x) [] n h5
 have lb:(zyK { Members:=zzK x.Members k,Losses:=x.Losses,Treaty:=x.Treaty,Reserve:=x.Reserve } [] n).length=x.Members.length:=by rw[zyL _ _ hy.m5]; exact hyl
 have bda:=zzt hx [] (N:=n) (by omega);have bdb:=zzt hy [] (N:=n) (by omega)
 have hU:S5 (uF (zzK x.Members k) (zx6 (zzK x.Members k).length []))=S5 (uF x.Members (zx6 x.Members.length [])):=by rw[zzJ hy.m5,zzJ h5,zzO]
 have hcast:∀j:Nat,((j:Int)+(k:Int)) % (x.Members.length:Int)=(((j+k) % x.Members.length:Nat):Int):=fun j=>by rw[show(j:Int)+(k:Int)=((j+k:Nat):Int) by omega]; rfl
 have hml:∀j:Nat,(j+k) % x.Members.length < x.Members.length:=fun j=>Nat.mod_lt _ hp;generalize hcb:zyK { Members:=zzK x.Members k,Losses:=x.Losses,Treaty:=x.Treaty,Reserve:=x.Reserve } [] n=cb at b1 b2 b3 lb bdb;generalize hca:zyK x [] n=ca at a1 a2 a3 la bda
 -- the last loop
 have last:zuc by_ need x (ca,0,0) (cb,0,0) (cb.length+1) 0=some true:=by
  have key:=zrK (n:=x.Members.length) (F:=fun d y=>zuc by_ need x (ca,0,0) (cb,0,0) d y) (ok:=fun _=>True) (bad:=some false) (fin:=some true) (fun d j hj=>by
   refine⟨fun _=>?_,fun h=>absurd trivial h⟩;have g1:cb[j]? = some (zw0 n (uF (zzK x.Members k) (zx6 (zzK x.Members k).length [])) j):=b2 j (by rw[hyl]; exact hj);have g2:=a2 ((j+k) % x.Members.length) (hml j)
   have hu:uF (zzK x.Members k) (zx6 (zzK x.Members k).length []) j=uF x.Members (zx6 x.Members.length []) ((j+k) % x.Members.length):=by
    rw[zzI,zzI,List.getElem?_map,List.getElem?_map,zzM hk hj]
   have hq:qN n (uF (zzK x.Members k) (zx6 (zzK x.Members k).length [])) j=qN n (uF x.Members (zx6 x.Members.length [])) ((j+k) % x.Members.length):=by unfold qN; rw[hu,hU]
   have p1:=zxj n (uF (zzK x.Members k) (zx6 (zzK x.Members k).length [])) j;have p2:=zxj n (uF x.Members (zx6 x.Members.length [])) ((j+k) % x.Members.length);have m1:=bdb _ (List.mem_of_getElem? g1);have m2:=bda _ (List.mem_of_getElem? g2);have hm4:=hml j
   show zuc by_ need x (ca,0,0) (cb,0,0) (d+1) (j:Int)=_
   rw[zuc,hbw,if_pos (by rw[lb]; omega),zrG g1,obs,hke,zqr (fI (by omega)),zqr (by omega),la,zqr (by omega),hcast,zqr (fI (by omega)),zrG g2,obs,zqr (fI (by omega)),if_neg (by omega),if_neg (by omega),zqr (fI (by omega))]) (fun d=>by
    show zuc by_ need x (ca,0,0) (cb,0,0) (d+1) _=_
    rw[zuc,if_neg (by rw[lb]; omega),zzp (by rw[la]; omega) bda,obs,wzu hn,<- hne,if_pos a3,zzp (by rw[lb]; omega) bdb,obs,if_pos b3,awk]) (d:=x.Members.length+1) (by omega)
  have:=key.1 fun _ _=>trivial;rw[lb]; exact this
 -- the list is made
 refine zwp (n:=x.Members.length) (fun d l z=>zud by_ need x d l x.Treaty.Lo x.Treaty.Hi x.Reserve z) (fun j=>(zzK x.Members k).take j) (fun d j hj=>?_) (fun d=>?_) 1000000 0 (by omega) (by omega)
 ·have hm4:=hml j;have g2:=List.getElem?_eq_getElem (hml j)
  have hlt:((zzK x.Members k).take j).length<=5:=by rw[List.length_take]; omega
  show zud by_ need x (d+1) ((zzK x.Members k).take j) _ _ _ _=_
  rw[zud,hbw,if_pos (by omega),hke,zqr (fI (by omega)),zqr (by omega),zqr (by omega),hcast,zqr (fI (by omega)),zrG g2,obs,zqr (by omega),zqr (fI (by omega))];rw[List.take_add_one,zzM hk hj,g2]; rfl
 ·show zud by_ need x (d+1) ((zzK x.Members k).take x.Members.length) _ _ _ _=_
  rw[zud,if_neg (by omega),List.take_of_length_le (by rw[hyl]; exact Nat.le_refl _),zzh hx.thin,obs,wzu hn,<- hne,a1,obs,zzh hy.thin,obs,b1,obs,if_pos rfl,if_pos rfl,if_pos rfl,if_pos rfl,if_pos (by rw[la]),if_pos (by rw[la,lb])];exact last
end
end Go.Proofs.Ytkclhciahokifaa

namespace Go.Proofs.Ytkclhciahokifaa
open _root_.Go.Proofs.Try
open Go.ChangeShapes Go.WideShapes Go.ChangeAt Go.RowKit Go.Abs
set_option maxRecDepth 100000
theorem op3:zrW prog 3 Int (zl6 .i64):=zrX (by kernel_rfl)
theorem zzR:zrW prog 82 Mb zr8:=zr4 (fs:=[(3,0),(3,1),(3,2)]) (by kernel_rfl) (by kernel_rfl) (zr3 (α:=Int) (ok:=zl6 .i64) (k:=1) op3 (by kernel_rfl) rfl (zr3 (α:=Int) (ok:=zl6 .i64) (k:=1) op3 (by kernel_rfl) rfl (zr3 (α:=Int) (ok:=zl6 .i64) (k:=1) op3 (by kernel_rfl) rfl zr2))) (by kernel_rfl) fun m vs h=>by
 obtain⟨a0,c0,r0,m0,h0,p0,k0,s0,⟨a1,c1,r1,m1,h1,p1,k1,s1,⟨a2,c2,r2,m2,h2,p2,k2,s2,rfl⟩⟩⟩:=h;have p0:c0=[.int .i64 a0]:=p0; subst p0;have p1:c1=[.int .i64 a1]:=p1; subst p1;have p2:c2=[.int .i64 a2]:=p2; subst p2;subst h2 h1 h0;exact⟨⟨a0,a1,a2⟩,rfl,⟨k0,k1,k2⟩⟩
theorem zzS:zrW prog 22 (List Mb) (fun l=>l.length<=maxLen/\∀a0∈l,zr8 a0):=zrZ (by kernel_rfl) (by kernel_rfl) zzR
theorem zzT:zrW prog 25 Rg zr6:=zr4 (fs:=[(3,0),(3,1)]) (by kernel_rfl) (by kernel_rfl) (zr3 (α:=Int) (ok:=zl6 .i64) (k:=1) op3 (by kernel_rfl) rfl (zr3 (α:=Int) (ok:=zl6 .i64) (k:=1) op3 (by kernel_rfl) rfl zr2)) (by kernel_rfl) fun m vs h=>by
 obtain⟨a0,c0,r0,m0,h0,p0,k0,s0,⟨a1,c1,r1,m1,h1,p1,k1,s1,rfl⟩⟩:=h;have p0:c0=[.int .i64 a0]:=p0; subst p0;have p1:c1=[.int .i64 a1]:=p1; subst p1;subst h1 h0;exact⟨⟨a0,a1⟩,rfl,⟨k0,k1⟩⟩
theorem zzU:zrW prog 23 (List Rg) (fun l=>l.length<=maxLen/\∀a0∈l,zr6 a0):=zrZ (by kernel_rfl) (by kernel_rfl) zzT
theorem zzV:zrW prog 27 Soc zsa:=zr4 (fs:=[(22,0),(23,1),(25,2),(3,4)]) (by kernel_rfl) (by kernel_rfl) (zr3 (α:=List Mb) (ok:=(fun l=>l.length<=maxLen/\∀a0∈l,zr8 a0)) (k:=1) zzS (by kernel_rfl) rfl (zr3 (α:=List Rg) (ok:=(fun l=>l.length<=maxLen/\∀a0∈l,zr6 a0)) (k:=1) zzU (by kernel_rfl) rfl (zr3 (α:=Rg) (ok:=zr6) (k:=2) zzT (by kernel_rfl) rfl (zr3 (α:=Int) (ok:=zl6 .i64) (k:=1) op3 (by kernel_rfl) rfl zr2)))) (by kernel_rfl) fun m vs h=>by
 obtain⟨a0,c0,r0,m0,h0,p0,k0,s0,⟨a1,c1,r1,m1,h1,p1,k1,s1,⟨a2,c2,r2,m2,h2,p2,k2,s2,⟨a3,c3,r3,m3,h3,p3,k3,s3,rfl⟩⟩⟩⟩:=h;obtain⟨d0,rfl,p0⟩:=p0;obtain⟨d1,rfl,p1⟩:=p1;have p2:c2=[.int .i64 a2.Lo,.int .i64 a2.Hi]:=p2; subst p2;have p3:c3=[.int .i64 a3]:=p3; subst p3;subst h3 h2 h1 h0;exact⟨⟨a0,a1,a2,a3⟩,⟨_,_,rfl,p0,p1⟩,⟨k0,k1,k2,k3⟩⟩
theorem zzW:laidOutB prog=true:=by kernel_rfl
theorem zzX:ownKnob prog.godebug=none:=by kernel_rfl
theorem zzY(os:Os)(started:os.Started)(H:Type)(enc:TypeId × Value->H) :
    ReturnsInHanded {} Try.checked os 12 .any (Rows.callOrderSpec.pre6 enc Try.prog Try.f12 Rows.callOrderRow.domain false) (Rows.callOrderSpec.post enc Try.prog Try.f12 false true false false):=by
  refine returnsInHanded_of_change (C:=Try.checked) zzX started (by kernel_rfl) Try.func12
    (ChangeSpec.witness6 (enc:=enc) (C:=Try.checked) false ⟨#[],#[.agg #[.slice none 0 0,.slice none 0 0,.int .i64 0,.int .i64 0,.int .i64 0],.int .u8 0,.int .u32 0],[]⟩ 8 (by kernel_rfl) (by kernel_rfl) (by kernel_rfl) (by kernel_rfl)) ?_
  intro W base args ds gs before hval0 hW hcnd _;have hval:∀(j:Nat) t v,Try.f12.params[j]? = some t->args[j]? = some v->Value.okWide Try.prog W .any base t v:=hval0;have hW':=hW;obtain⟨p,q,hA0,hV,rfl,hfz,hnd⟩:=hW;have hA:DataW.TrodAll enc Try.prog W 0 (fun _=>true) true Try.f12.params.toList args.toList ds p:=hA0;rw[Try.params12] at hA hval;obtain⟨v0,v1,v2,d0,d1,d2,p0,p1,p2,rfl,rfl,rfl,h0,h1,h2⟩:=trodAll_three hA;obtain⟨rfl,rfl⟩:=trodVars_none hV;obtain⟨n1,hv1⟩:=okWide_int Try.underlying5 (hval 1 5 v1 rfl rfl);obtain⟨n2,hv2⟩:=okWide_int Try.underlying88 (hval 2 88 v2 rfl rfl)
  have hlt:∀x∈p0++p1++p2,x.block < W.heap.size:=fun x hx=>by simpa using hW'.lt x (by simpa using hx)
  obtain⟨fu0,hf0⟩:=id h0;obtain⟨fu1,hf1⟩:=id h1;obtain⟨fu2,hf2⟩:=id h2
  clear hA0 hval0
  obtain⟨e0,m0,w0,a_0,le0,sv0,lay0,cr0,zuH,ok0⟩:=zzV H enc W true _ _ _ hf0 _ _ (Lay.nil W);obtain⟨i1,hc1,_,hw1⟩:=DataW.trod_int Try.underlying5 hf1;obtain⟨i2,hc2,_,hw2⟩:=DataW.trod_int Try.underlying88 hf2;obtain⟨c0_0,c0_1,rfl,g0_0,g0_1⟩:=zuH
  obtain⟨cs0,hv0,cl0⟩:∃cs,v0=.agg cs/\v0.cells.toList=cs.toList:=by
    have hl:=cr0.length
    cases v0 with
    | agg cs=>exact⟨cs,rfl,rfl⟩
    | _=>exact absurd hl (by simp[Value.cells])
  subst hv0;subst hv1
  have hi1:i1=n1:=by
    have h:[Value.int .u8 n1]=[.int .u8 i1]:=hc1
    cases h; rfl
  subst hi1;subst hv2
  have hi2:i2=n2:=by
    have h:[Value.int .u32 n2]=[.int .u32 i2]:=hc2
    cases h; rfl
  subst hi2;have hargs:zeq (VR e0) [.agg 5 [c0_0,c0_1,.int .i64 a_0.Treaty.Lo,.int .i64 a_0.Treaty.Hi,.int .i64 a_0.Reserve],.c (.int .u8 i1),.c (.int .u32 i2)] [.agg cs0,.int .u8 i1,.int .u32 i2]:=.cons ⟨cs0,rfl,cr0,rfl⟩ (.cons rfl (.cons rfl .nil));refine(callsIn_wide.1 (zqC fits htab (zwo (s:=a_0) (by_:=i1) (need:=i2) lay0.pre g0_0 g0_1 (zzQ ok0 (zqA hw1) (zqA hw2)) (Q:=fun v _=>v=.c (.bool true)) fun _ _=>rfl) lay0.hr (args':=#[.agg cs0,.int .u8 i1,.int .u32 i2]) hargs 0)).mono fun en W' hp=>?_;obtain⟨v,v',e',m',rfl,hst,hvr,rfl⟩:=hp;have hv':v'=.bool true:=hvr;subst hv';have hbelow:=lay0.below hst
  refine⟨_,rfl,[d0,d1,d2],[],p0++p1++p2,[],p0++(p1++p2),[],by simpa using hW',trodAll_mk1 (shut_bool Try.underlying4 _),
    trodAll_mk3 (Below.trod zzW (by kernel_rfl) (of_decide_eq_true (by kernel_rfl)) h0 hbelow fun x hx=>hlt x (by simp[hx])) (Below.trod zzW (by kernel_rfl) (of_decide_eq_true (by kernel_rfl)) h1 hbelow fun x hx=>hlt x (by simp[hx])) (Below.trod zzW (by kernel_rfl) (of_decide_eq_true (by kernel_rfl)) h2 hbelow fun x hx=>hlt x (by simp[hx])),rfl,lay0.kept hst _,fun hc=>by cases hc⟩
theorem CallOrder_holds:Rows.CallOrderSaid:=
 OpenClaim.holds_of_wide 12 Try.f12 rfl rfl rfl rfl rfl rfl rfl ⟨rfl,rfl,rfl,rfl,rfl⟩ rfl rfl rfl rfl rfl (by kernel_rfl) Try.func12 (by kernel_rfl)
  (of_decide_eq_true (by kernel_rfl)) (by unfold Func.isWrapper; first | (rw[if_pos (by decide +kernel)]; kernel_rfl) | (rw[if_neg (by decide +kernel)]; exact⟨rfl,rfl⟩))
  (fun os started H enc _=>zzY os started H enc)
end Go.Proofs.Ytkclhciahokifaa

