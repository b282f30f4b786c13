/- TreatyMore, for all that it can be called with, returns true. Condition: none. -/
import Derived.Test.YtkcmdghjgoaggaaTdI
import GoSem.Step
import GoSem.ClaimKeys
import Derived.DeepKeys2
import Derived.RangeFuncLeaves
import Derived.OrdersIn
import Derived.Laws.World
import Derived.Laws.Sem
import Derived.RangeFuncRecord
import Derived.Laws.CopyRow
import Derived.Laws.Append
import Derived.Laws.Rows
import Derived.Laws.Slices
import Derived.Laws.Entries
import Derived.ChangeKeysEq
import Derived.IntWalk
import Derived.DeepKeys
import Derived.DeepKeys3
import Derived.Laws.StructEq
import Derived.MapKept
import Derived.Laws.AppendOwn
import Derived.ChangeArms
import Derived.ChangeOld
import Derived.Carry
import Derived.ChangeShapes
import Derived.KernelRfl
import Derived.ProofKit
import Derived.SizedLaws
import Derived.Test.YtkcmdghjgoaggaaRows

namespace Go.Proofs.Ytkcmdghjgoaggaa
open _root_.Go.Proofs.Try
open Go.Abs
set_option maxRecDepth 100000
noncomputable section
def a1(ts:List Ty)(th:Nat->Bool)(P:Nat->Int)(x:Int):Nat->(Nat->Int) × Int
 | 0=>(fun _=>0,x)
 | k+1=>match ts[k]? with
  | some t=>if t.Of < 0/\th k=true then (upF (a1 ts th P x k).1 k (zx6 t (a1 ts th P x k).2 (P k)),(a1 ts th P x k).2 - zx6 t (a1 ts th P x k).2 (P k)) else a1 ts th P x k
  | none=>a1 ts th P x k
theorem zzp{ts:List Ty}{th:Nat->Bool}{P:Nat->Int}{x:Int}{k:Nat}{t:Ty}(h:ts[k]? = some t):a1 ts th P x (k+1)=if t.Of < 0/\th k=true then (upF (a1 ts th P x k).1 k (zx6 t (a1 ts th P x k).2 (P k)),(a1 ts th P x k).2 - zx6 t (a1 ts th P x k).2 (P k)) else a1 ts th P x k:=by
 show(match ts[k]? with | some t=>_ | none=>_)=_
 rw[h]
def a2(ts:List Ty)(P:Nat->Int)(now:Nat->Int):Nat->(Nat->Int) × (Nat->Int)
 | 0=>(now,now)
 | k+1=>match ts[k]? with
  | some t=>if 0<=t.Of then (upF (a2 ts P now k).1 k (zx6 t ((a2 ts P now k).2 t.Of.toNat) (P k)),upF (upF (a2 ts P now k).2 k (zx6 t ((a2 ts P now k).2 t.Of.toNat) (P k))) t.Of.toNat ((a2 ts P now k).2 t.Of.toNat - zx6 t ((a2 ts P now k).2 t.Of.toNat) (P k))) else a2 ts P now k
  | none=>a2 ts P now k
theorem zzq{ts:List Ty}{P now:Nat->Int}{k:Nat}{t:Ty}(h:ts[k]? = some t):a2 ts P now (k+1)=if 0<=t.Of then (upF (a2 ts P now k).1 k (zx6 t ((a2 ts P now k).2 t.Of.toNat) (P k)),upF (upF (a2 ts P now k).2 k (zx6 t ((a2 ts P now k).2 t.Of.toNat) (P k))) t.Of.toNat ((a2 ts P now k).2 t.Of.toNat - zx6 t ((a2 ts P now k).2 t.Of.toNat) (P k))) else a2 ts P now k:=by
 show(match ts[k]? with | some t=>_ | none=>_)=_
 rw[h]
structure I1 (ts:List Ty) (P:Nat->Int) (x:Int) (s:(Nat->Int) × Int):Prop where
 left:0<=s.2/\s.2<=x
 now:∀j,0<=s.1 j/\s.1 j<=x
 cap:zye ts fun j=>P j+s.1 j
theorem zzr{ts:List Ty}{th:Nat->Bool}(hts:zyf ts){P:Nat->Int}(hP:zye ts P){x:Int}(hx:0<=x/\x<=100000):∀k,k<=ts.length->I1 ts P x (a1 ts th P x k)
 | 0,_=>⟨⟨hx.1,Int.le_refl _⟩,fun _=>⟨Int.le_refl _,hx.1⟩,fun j t ht h1=>by have:=hP j t ht h1; show P j+0<=_; omega⟩
 | k+1,hk=>by
  have ih:=zzr (th:=th) hts hP hx k (by omega);have hg:=List.getElem?_eq_getElem (show k < ts.length by omega);have hkd:=hts.k _ (List.getElem_mem (show k < ts.length by omega));rw[zzp hg];generalize a1 ts th P x k=s at ih ⊢;generalize ts[k]'(by omega)=t at hg hkd
  by_cases hc:t.Of < 0/\th k=true
  ·rw[if_pos hc];have hl:=ih.left;have hb:=zx9 hkd (a:=s.2) (b:=P k) (by omega) (hP k t hg);refine⟨by show 0<=s.2 - _/\s.2 - _<=x; omega,fun j=>?_,fun j t' ht' h'=>?_⟩
   ·show 0<=upF s.1 k _ j/\upF s.1 k _ j<=x
    by_cases hjk:j=k
    ·subst hjk; rw[zxp]; omega
    ·rw[zxq _ _ hjk]; exact ih.now j
   ·show P j+upF s.1 k _ j<=_
    by_cases hjk:j=k
    ·subst hjk; rw[hg] at ht'; cases ht'; rw[zxp]; exact hb.2.2 h'
    ·rw[zxq _ _ hjk]; exact ih.cap j t' ht' h'
  ·rw[if_neg hc]; exact ih
structure I2 (ts:List Ty) (P:Nat->Int) (x:Int) (s:(Nat->Int) × (Nat->Int)):Prop where
 now:∀j,0<=s.1 j/\s.1 j<=x
 rest:∀j,0<=s.2 j/\s.2 j<=x
 cap:zye ts fun j=>P j+s.1 j
theorem zzs{ts:List Ty}(hts:zyf ts){P now:Nat->Int}(hP:zye ts P){x:Int}(hx:0<=x/\x<=100000)(hn:∀j,0<=now j/\now j<=x)(hc:zye ts fun j=>P j+now j):∀k,k<=ts.length->I2 ts P x (a2 ts P now k)
 | 0,_=>⟨hn,hn,hc⟩
 | k+1,hk=>by
  have ih:=zzs hts hP hx hn hc k (by omega);have hg:=List.getElem?_eq_getElem (show k < ts.length by omega);have hkd:=hts.k _ (List.getElem_mem (show k < ts.length by omega));rw[zzq hg];generalize a2 ts P now k=s at ih ⊢;generalize ts[k]'(by omega)=t at hg hkd
  by_cases ho:0<=t.Of
  ·rw[if_pos ho];have hr:=ih.rest t.Of.toNat;have hb:=zx9 hkd (a:=s.2 t.Of.toNat) (b:=P k) (by omega) (hP k t hg);refine⟨fun j=>?_,fun j=>?_,fun j t' ht' h'=>?_⟩
   ·show 0<=upF s.1 k _ j/\upF s.1 k _ j<=x
    by_cases hjk:j=k
    ·subst hjk; rw[zxp]; omega
    ·rw[zxq _ _ hjk]; exact ih.now j
   ·show 0<=upF (upF s.2 k _) _ _ j/\upF (upF s.2 k _) _ _ j<=x
    by_cases hjo:j=t.Of.toNat
    ·subst hjo; rw[zxp]; omega
    ·rw[zxq _ _ hjo]
     by_cases hjk:j=k
     ·subst hjk; rw[zxp]; omega
     ·rw[zxq _ _ hjk]; exact ih.rest j
   ·show P j+upF s.1 k _ j<=_
    by_cases hjk:j=k
    ·subst hjk; rw[hg] at ht'; cases ht'; rw[zxp]; exact hb.2.2 h'
    ·rw[zxq _ _ hjk]; exact ih.cap j t' ht' h'
  ·rw[if_neg ho]; exact ih
def zzt(ts:List Ty)(th:Nat->Bool)(s:(Nat->Int) × Int)(x:Int):(Nat->Int) × Int:=
 (fun j=>s.1 j+(a2 ts s.1 (a1 ts th s.1 x ts.length).1 ts.length).1 j,s.2+(a1 ts th s.1 x ts.length).2)
def zzu(ts:List Ty)(th:Nat->Bool)(L:List Int):(Nat->Int) × Int:=L.foldl (zzt ts th) (fun _=>0,0)
structure RI (ts:List Ty) (B:Int) (s:(Nat->Int) × Int):Prop where
 net:0<=s.2/\s.2<=B
 pays:∀j,0<=s.1 j/\s.1 j<=B
 cap:zye ts s.1
theorem RI.step{ts:List Ty}{th:Nat->Bool}(hts:zyf ts){B:Int}{s:(Nat->Int) × Int}(h:RI ts B s){x:Int}(hx:0<=x/\x<=100000):RI ts (B+x) (zzt ts th s x):=by
 have h1:=zzr (th:=th) hts h.cap hx ts.length (Nat.le_refl _);have h2:=zzs hts h.cap hx h1.now h1.cap ts.length (Nat.le_refl _);refine⟨?_,fun j=>?_,h2.cap⟩
 ·have:=h.net; have:=h1.left; show 0<=s.2+_/\s.2+_<=_; omega
 ·have:=h.pays j; have:=h2.now j; show 0<=s.1 j+_/\s.1 j+_<=_; omega
section
variable {p:Pg} (h:VP p)
end
def ofB(ts:List Ty)(j:Nat):Bool:=match ts[j]? with | some t=>decide (t.Of < 0) | none=>false
theorem zzv{ts:List Ty}{j:Nat}{t:Ty}(h:ts[j]? = some t):ofB ts j=decide (t.Of < 0):=by unfold ofB; rw[h]
end
end Go.Proofs.Ytkcmdghjgoaggaa

namespace Go.Proofs.Ytkcmdghjgoaggaa
open _root_.Go.Proofs.Try
open Go.Abs
set_option maxRecDepth 100000
noncomputable section
def zzw(n:Nat):List Int:=(List.range n).map fun j=>((j:Nat):Int)
theorem zzx(n:Nat):Inc n 0 (zzw n):=by
 refine⟨?_,fun v hv=>?_⟩
 ·unfold zzw;rw[List.pairwise_map]
  exact List.pairwise_lt_range.imp fun h=>by omega
 ·obtain⟨j,hj,rfl⟩:=List.mem_map.1 hv;have:=List.mem_range.1 hj
  omega
theorem zzy{n j:Nat}(h:j < n):inD (zzw n) j=true:=decide_eq_true (List.mem_map.2 ⟨j,List.mem_range.2 h,rfl⟩)
structure zzz (n:Nat) (P:(Nat->Bool)->Prop) (M:List Int):Prop where
 inc:Inc n 0 M
 ok:P (inD M)
 min:∀D,Inc n 0 D->P (inD D)->D=M\/shB M D=true
theorem zzz.uniq{n:Nat}{P:(Nat->Bool)->Prop}{M M':List Int}(h:zzz n P M)(h':zzz n P M'):M=M':=by
 rcases h.min M' h'.inc h'.ok with h1 | h1
 ·exact h1.symm
 ·rcases h'.min M h.inc h.ok with h2 | h2
  ·exact h2
  ·rw[zw8 h1] at h2; cases h2
def macc(S:Nat->Bool):Nat->Nat
 | 0=>0
 | i+1=>if S i=true then macc S i ||| 2 ^ i else macc S i
theorem zzA(S:Nat->Bool)(j:Nat):∀i,(macc S i).testBit j=(decide (j < i) && S j)
 | 0=>by simp[macc]
 | i+1=>by
  have ih:=zzA S j i;unfold macc
  by_cases hs:S i=true
  ·rw[if_pos hs,Nat.testBit_or,ih,Nat.testBit_two_pow]
   by_cases h:i=j
   ·subst h; simp[hs]
   ·have:decide (j < i+1)=decide (j < i):=decide_eq_decide.2 (by omega);rw[this]; simp[h]
  ·rw[if_neg hs,ih]
   by_cases h:i=j
   ·subst h
    have:S i=false:=by simpa using hs
    rw[this]; simp
   ·have:decide (j < i+1)=decide (j < i):=decide_eq_decide.2 (by omega);rw[this]
def zzB:List Rg->Int->List Int
 | [],_=>[]
 | r::rs,n=>(r.Lo+n % (r.Hi - r.Lo+1))::zzB rs (n / (r.Hi - r.Lo+1))
theorem zzC:∀{rs:List Rg} {n:Int},(∀r∈rs,r.Lo<=r.Hi)->0<=n->inL rs (zzB rs n)
 | [],_,_,_=>trivial
 | r::rs,n,h,h0=>by
  have hr:=h r (List.mem_cons_self ..);have h1:=Int.emod_nonneg n (show r.Hi - r.Lo+1 ≠ 0 by omega);have h2:=Int.emod_lt_of_pos n (show 0 < r.Hi - r.Lo+1 by omega);exact⟨⟨by omega,by omega⟩,zzC (fun r hr=>h r (List.mem_cons_of_mem _ hr)) (Int.ediv_nonneg h0 (by omega))⟩
theorem zzD:∀{rs:List Rg} {L:List Int},inL rs L->∃n,0<=n/\n < zxy rs/\zzB rs n=L
 | [],[],_=>⟨0,Int.le_refl _,by show(0:Int) < 1; omega,rfl⟩
 | [],_::_,h=>h.elim
 | _::_,[],h=>h.elim
 | r::rs,x::xs,h=>by
  obtain⟨n,h0,h1,h2⟩:=zzD h.2;have hx:=h.1;obtain⟨c,hc⟩:∃c,c=r.Hi - r.Lo+1:=⟨_,rfl⟩;refine⟨(x - r.Lo)+c * n,?_,?_,?_⟩
  ·have:=Int.mul_nonneg (show 0<=c by omega) h0; omega
  ·show _ < (r.Hi - r.Lo+1) * zxy rs
   rw[<- hc];have:=Int.mul_le_mul_of_nonneg_left (show n+1<=zxy rs by omega) (show 0<=c by omega);rw[Int.mul_add,Int.mul_one] at this
   omega
  ·show(r.Lo+_ % (r.Hi - r.Lo+1))::zzB rs (_ / (r.Hi - r.Lo+1))=_
   rw[<- hc,Int.add_mul_emod_self_left,Int.emod_eq_of_lt (by omega) (by omega),Int.add_mul_ediv_left _ _ (by omega),Int.ediv_eq_zero_of_lt (by omega) (by omega),Int.zero_add,h2]
   congr 1; omega
theorem VP.nthIn{p:Pg}(h:VP p){n:Int}(hn:0<=n):inL p.Losses (zzB p.Losses n):=zzC (fun r hr=>(h.ls r hr).2.1) hn
open Classical in
def agR(P:Nat->Int)(r:Rpt):Prop:=r.Paid.Lo<=P r.Treaty.toNat/\P r.Treaty.toNat<=r.Paid.Hi
open Classical in
def agf(p:Pg)(L:List Int)(j:Nat):Bool:=decide (∀r,p.Reports[j]? = some r->agR (zyl p.Treaties L).pays r)
open Classical in
theorem zzE{p:Pg}{L:List Int}{j:Nat}{r:Rpt}(h:p.Reports[j]? = some r):agf p L j=true↔agR (zyl p.Treaties L).pays r:=by
 unfold agf;rw[decide_eq_true_eq];exact⟨fun q=>q r h,fun q r' h'=>by rw[h] at h'; cases h'; exact q⟩
def zzF(p:Pg)(L:List Int):Nat:=macc (agf p L) p.Reports.length
def PL(p:Pg)(S:Nat->Bool):Prop:=∃L,inL p.Losses L/\∀j,j < p.Reports.length->S j=false->agf p L j=true
theorem PL.congr{p:Pg}{S S':Nat->Bool}(h:∀j,j < p.Reports.length->S j=S' j):PL p S↔PL p S':=
 exists_congr fun _=>and_congr_right fun _=>forall_congr' fun j=>forall_congr' fun hj=>by rw[h j hj]
theorem zzG{p:Pg}(h:VP p){L:List Int}(hL:inL p.Losses L):(∀j,0<=(zyl p.Treaties L).pays j/\(zyl p.Treaties L).pays j<=4000)/\(∀j,0<=(zyl p.Treaties L).keeps j/\(zyl p.Treaties L).keeps j<=4000)/\0<=(zyl p.Treaties L).soc/\(zyl p.Treaties L).soc<=4000:=by
 obtain⟨h1,h2,h3⟩:=zyP h hL;refine⟨fun j=>?_,fun j=>?_,?_⟩
 ·have:=h1.pays j; omega
 ·have:=h1.keeps j; omega
 ·have:=h1.soc; omega
end
end Go.Proofs.Ytkcmdghjgoaggaa

namespace Go.Proofs.Ytkcmdghjgoaggaa
open _root_.Go.Proofs.Try
open Go.Abs
set_option maxRecDepth 100000
noncomputable section
theorem zzH{p:Pg}{L:List Int}:zzF p L=2 ^ p.Reports.length - 1↔agN (zyl p.Treaties L).pays p.Reports:=by
 constructor
 ·intro h r hr;obtain⟨j,hj⟩:=List.mem_iff_getElem?.1 hr;have hjl:=(List.getElem?_eq_some_iff.1 hj).1
  have e:(zzF p L).testBit j=true:=by rw[h,Nat.testBit_two_pow_sub_one,decide_eq_true hjl]
  unfold zzF at e;rw[zzA] at e;exact(zzE hj).1 (Bool.and_eq_true_iff.1 e).2
 ·intro h
  apply Nat.eq_of_testBit_eq
  intro j;unfold zzF;rw[zzA,Nat.testBit_two_pow_sub_one]
  by_cases hj:j < p.Reports.length
  ·have hg:=List.getElem?_eq_getElem hj;rw[decide_eq_true hj,(zzE hg).2 (h _ (List.getElem_mem hj))]; rfl
  ·rw[decide_eq_false hj]; rfl
def trL(p:Pg):List (List Int):=((List.range (zxy p.Losses).toNat).filter fun n:Nat=>decide (zzF p (zzB p.Losses (n:Int))=2 ^ p.Reports.length - 1)).map fun n:Nat=>zzB p.Losses (n:Int)
theorem zzI{p:Pg}(h:VP p){L:List Int}:L∈trL p↔TrS p p.Reports L:=by
 unfold trL TrS;rw[List.mem_map]
 constructor
 ·rintro⟨n,hn,rfl⟩
  obtain⟨_,h2⟩:=List.mem_filter.1 hn;exact⟨h.nthIn (by omega),zzH.1 (of_decide_eq_true h2)⟩
 ·rintro⟨hL,hA⟩
  obtain⟨n,n0,n1,rfl⟩:=zzD hL;refine⟨n.toNat,List.mem_filter.2 ⟨List.mem_range.2 (by omega),decide_eq_true ?_⟩,?_⟩
  ·rw[show((n.toNat:Nat):Int)=n by omega]; exact zzH.2 hA
  ·show zzB p.Losses ((n.toNat:Nat):Int)=_
   rw[show((n.toNat:Nat):Int)=n by omega]
theorem zzJ{p:Pg}:zy3 p p.Reports↔PL p fun j=>!(2 ^ p.Reports.length - 1).testBit j:=by
 constructor
 ·rintro⟨L,h1,h2⟩
  exact⟨L,h1,fun j hj _=>(zzE (List.getElem?_eq_getElem hj)).2 (h2 _ (List.getElem_mem hj))⟩
 ·rintro⟨L,h1,h2⟩
  refine⟨L,h1,fun r hr=>?_⟩;obtain⟨j,hj⟩:=List.mem_iff_getElem?.1 hr;have hjl:=(List.getElem?_eq_some_iff.1 hj).1;exact(zzE hj).1 (h2 j hjl (by show(!(2 ^ p.Reports.length - 1).testBit j)=false; rw[Nat.testBit_two_pow_sub_one,decide_eq_true hjl]; rfl))
def wd(r:Rg)(x:Int):Rg:={ Lo:=min r.Lo x,Hi:=max r.Hi x }
def emp:Rg:={ Lo:=1099511627776,Hi:=-1099511627776 }
def wdL(g:List Int->Int)(l:List (List Int)):Rg:=l.foldl (fun r L=>wd r (g L)) emp
theorem zzK{g:List Int->Int}:∀(l:List (List Int)) (r:Rg),((l.foldl (fun r L=>wd r (g L)) r).Lo=r.Lo\/∃L∈l,g L=(l.foldl (fun r L=>wd r (g L)) r).Lo)/\((l.foldl (fun r L=>wd r (g L)) r).Hi=r.Hi\/∃L∈l,g L=(l.foldl (fun r L=>wd r (g L)) r).Hi)/\(l.foldl (fun r L=>wd r (g L)) r).Lo<=r.Lo/\r.Hi<=(l.foldl (fun r L=>wd r (g L)) r).Hi/\∀L∈l,(l.foldl (fun r L=>wd r (g L)) r).Lo<=g L/\g L<=(l.foldl (fun r L=>wd r (g L)) r).Hi
 | [],r=>⟨.inl rfl,.inl rfl,Int.le_refl _,Int.le_refl _,fun L hL=>by cases hL⟩
 | L::l,r=>by
  obtain⟨a,b,c,d,e⟩:=zzK (g:=g) l (wd r (g L));have h1:(wd r (g L)).Lo=min r.Lo (g L):=rfl;have h2:(wd r (g L)).Hi=max r.Hi (g L):=rfl;rw[h1] at a c;rw[h2] at b d;rw[List.foldl_cons];generalize l.foldl (fun r L=>wd r (g L)) (wd r (g L))=R at a b c d e ⊢;refine⟨?_,?_,by clear a b; omega,by clear a b; omega,fun L' hL'=>?_⟩
  ·clear b
   rcases a with a | ⟨L',q1,q2⟩
   ·rcases Int.le_total r.Lo (g L) with h | h
    ·exact .inl (by omega)
    ·exact .inr ⟨L,List.mem_cons_self ..,by omega⟩
   ·exact .inr ⟨L',List.mem_cons_of_mem _ q1,q2⟩
  ·clear a
   rcases b with b | ⟨L',q1,q2⟩
   ·rcases Int.le_total (g L) r.Hi with h | h
    ·exact .inl (by omega)
    ·exact .inr ⟨L,List.mem_cons_self ..,by omega⟩
   ·exact .inr ⟨L',List.mem_cons_of_mem _ q1,q2⟩
  ·clear a b
   rcases List.mem_cons.1 hL' with h | h
   ·subst h; omega
   ·exact e L' h
theorem zzL{g:List Int->Int}{l:List (List Int)}(hne:l ≠ [])(hb:∀L∈l,-1000000<=g L/\g L<=1000000):IsB (·∈l) g (wdL g l):=by
 obtain⟨a,b,c,d,e⟩:=zzK (g:=g) l emp;have h1:emp.Lo=1099511627776:=rfl;have h2:emp.Hi = -1099511627776:=rfl;rw[h1] at a c;rw[h2] at b d;obtain⟨L0,hL0⟩:=List.exists_mem_of_ne_nil l hne;have q1:=hb L0 hL0;have q2:=e L0 hL0;unfold wdL;generalize l.foldl (fun r L=>wd r (g L)) emp=R at a b c d e q2 ⊢;refine⟨?_,?_,e⟩
 ·clear b
  rcases a with a | a
  ·omega
  ·exact a
 ·clear a
  rcases b with b | b
  ·omega
  ·exact b
def bsN(n:Nat)(f:Nat->Bd):List Bd:=(List.range n).map f
theorem zzM{n:Nat}{f:Nat->Bd}:(bsN n f).length=n:=by unfold bsN; rw[List.length_map,List.length_range]
theorem zzN{n:Nat}{f:Nat->Bd}{k:Nat}(h:k < n):(bsN n f)[k]? = some (f k):=by unfold bsN; rw[List.getElem?_map,List.getElem?_range h]; rfl
def bdF(p:Pg)(l:List (List Int))(k:Nat):Bd:={ Pays:=wdL (fun L=>(zyl p.Treaties L).pays k) l,Keeps:=wdL (fun L=>(zyl p.Treaties L).keeps k) l }
theorem zzO{p:Pg}(h:VP p)(hc:zy3 p p.Reports):zzl p (bsN p.Treaties.length (bdF p (trL p)))/\IsB (TrS p p.Reports) (fun L=>(zyl p.Treaties L).soc) (wdL (fun L=>(zyl p.Treaties L).soc) (trL p)):=by
 have hne:trL p ≠ []:=fun e=>by
  obtain⟨L,hL⟩:=hc;have:=(zzI h).2 hL
  rw[e] at this; cases this
 have hb:∀L∈trL p,inL p.Losses L:=fun L hL=>((zzI h).1 hL).1;refine⟨⟨zzM,fun k b hk=>?_⟩,?_⟩
 ·have hkl:=(List.getElem?_eq_some_iff.1 hk).1;rw[zzM] at hkl;rw[zzN hkl] at hk
  cases hk
  refine⟨(zzL hne fun L hL=>?_).congr (fun L=>zzI h) fun _ _=>rfl,(zzL hne fun L hL=>?_).congr (fun L=>zzI h) fun _ _=>rfl⟩
  ·have:=(zzG h (hb L hL)).1 k; omega
  ·have:=(zzG h (hb L hL)).2.1 k; omega
 ·refine(zzL hne fun L hL=>?_).congr (fun L=>zzI h) fun _ _=>rfl;have:=(zzG h (hb L hL)).2.2; omega
def kpF:List Rpt->Nat->(Nat->Bool)->List Rpt
 | [],_,_=>[]
 | v::V,i,S=>if S i=true then v::kpF V (i+1) S else kpF V (i+1) S
theorem zzP{S:Nat->Bool}{v:Rpt}:∀(V:List Rpt) (i:Nat),v∈kpF V i S↔∃j,V[j]? = some v/\S (i+j)=true
 | [],i=>by simp[kpF]
 | a::V,i=>by
  have ih:=zzP (S:=S) (v:=v) V (i+1)
  have e:(∃j,(a::V)[j]? = some v/\S (i+j)=true)↔(a=v/\S i=true)\/∃j,V[j]? = some v/\S (i+1+j)=true:=by
   constructor
   ·rintro⟨j,h1,h2⟩
    cases j with
    | zero=>exact .inl ⟨by simpa using h1,h2⟩
    | succ j=>exact .inr ⟨j,by simpa using h1,by rw[show i+1+j=i+(j+1) by omega]; exact h2⟩
   ·rintro (⟨h1,h2⟩ | ⟨j,h1,h2⟩)
    ·exact⟨0,by simpa using h1,h2⟩
    ·exact⟨j+1,by simpa using h1,by rw[show i+(j+1)=i+1+j by omega]; exact h2⟩
  rw[e];unfold kpF
  by_cases hs:S i=true
  ·rw[if_pos hs,List.mem_cons,ih];exact or_congr ⟨fun h=>⟨h.symm,hs⟩,fun h=>h.1.symm⟩ Iff.rfl
  ·rw[if_neg hs,ih];exact⟨.inr,fun h=>h.elim (fun h=>absurd h.2 hs) id⟩
theorem zzQ{S:Nat->Bool}:∀(V:List Rpt) (i:Nat),(kpF V i S).length<=V.length
 | [],_=>Nat.le_refl _
 | a::V,i=>by
  have:=zzQ (S:=S) V (i+1);unfold kpF
  split <;> simp only[List.length_cons] <;> omega
theorem zzR{l:List Int}{v:Int}(hl:zr2 l):∀d (k:Nat),k<=l.length->l.length - k < d->∃r,ztF l v d (k:Int)=some r/\(0<=r↔v∈l.drop k)
 | 0,k,_,h=>by omega
 | d+1,k,hk,h=>by
  unfold zr2 at hl;unfold ztF
  by_cases hkn:k=l.length
  ·subst hkn; rw[if_neg (Int.lt_irrefl _)]; exact⟨_,rfl,by simp⟩
  ·have hlt:k < l.length:=by omega
   rw[if_pos (by omega),zrS (List.getElem?_eq_getElem hlt),obs];have hd:=List.drop_eq_getElem_cons hlt
   by_cases hv:v=l[k]
   ·rw[if_pos hv]; exact⟨_,rfl,⟨fun _=>by rw[hd,<- hv]; exact List.mem_cons_self ..,fun _=>by omega⟩⟩
   ·rw[if_neg hv,zqs (fI (by omega)),show(k:Int)+1=((k+1:Nat):Int) by omega];obtain⟨r,h1,h2⟩:=zzR hl d (k+1) (by omega) (by omega);exact⟨r,h1,h2.trans ⟨fun h=>by rw[hd]; exact List.mem_cons_of_mem _ h,fun h=>by rw[hd] at h; exact(List.mem_cons.1 h).resolve_left hv⟩⟩
theorem zzS{l:List Int}{v:Int}(hl:zr2 l):ztH l v=some (decide (v∈l)):=by
 unfold ztH ztG;obtain⟨r,h1,h2⟩:=zzR (v:=v) hl (l.length+1) 0 (Nat.zero_le _) (by omega);have h1:ztF l v (l.length+1) 0=some r:=h1;rw[h1,obs];exact congrArg some (decide_eq_decide.2 (h2.trans (by rw[List.drop_zero])))
theorem zzT{p:Int->Option Bool}{f:Nat->Bool}{n:Nat}(hn:n<=1000000)(hp:∀m,m < n->p (m:Int)=some (f m))(hm:∀m k,m<=k->k < n->f m=true->f k=true):∀d (i j:Nat),i<=j->j<=n->j - i < d->(∀m,m < i->f m=false)->(∀m,j<=m->m < n->f m=true) ->
  ∃k:Nat,zt8 p d (i:Int) (j:Int)=some (k:Int)/\k<=n/\(∀m,m < k->f m=false)/\(∀m,k<=m->m < n->f m=true)
 | 0,_,_,_,_,h,_,_=>by omega
 | d+1,i,j,hij,hj,h,hlo,hhi=>by
  rw[zt8]
  by_cases hc:i < j
  ·obtain⟨md,hmd⟩:∃md:Nat,md=(i+j) / 2:=⟨_,rfl⟩
   have hf:zl7 .u64 ((i:Int)+j):=show _/\_ by constructor <;> omega
   have e:zmc .i64 (zmc .u64 ((i:Int)+j) / 2)=(md:Int):=by
    rw[wz hf,wz (fI (by omega))]; omega
   rw[if_pos (by omega),zqs (fI (by omega)),zqs (by rw[wz hf]; omega),zqs (by omega),zqs (by omega),zqs (by rw[wz hf]; exact show _/\_ by constructor <;> omega),e,hp md (by omega),obs]
   cases hq:f md with
   | true=>
    rw[if_pos rfl];exact zzT hn hp hm d i md (by omega) (by omega) (by omega) hlo fun m h1 h2=>hm md m h1 h2 hq
   | false=>
    rw[if_neg (by decide),zqs (fI (by omega)),show(md:Int)+1=((md+1:Nat):Int) by omega]
    exact zzT hn hp hm d (md+1) j (by omega) hj (by omega) (fun m h1=>by
     cases hq2:f m with
     | false=>rfl
     | true=>have:=hm m md (by omega) (by omega) hq2; rw[hq] at this; cases this) hhi
  ·rw[if_neg (by omega)];exact⟨i,rfl,by omega,hlo,fun m h1 h2=>hhi m (by omega) h2⟩
theorem zzU{p:Pg}{L:List Int}{S:Nat->Bool}:agN (zyl p.Treaties L).pays (kpF p.Reports 0 S)↔∀j,j < p.Reports.length->S j=true->agf p L j=true:=by
 constructor
 ·intro h j hj hs;have hg:=List.getElem?_eq_getElem hj;exact(zzE hg).2 (h _ ((zzP _ _).2 ⟨j,hg,by rw[Nat.zero_add]; exact hs⟩))
 ·intro h r hr;obtain⟨j,h1,h2⟩:=(zzP _ _).1 hr;rw[Nat.zero_add] at h2;exact(zzE h1).1 (h j (List.getElem?_eq_some_iff.1 h1).1 h2)
theorem zzV{p:Pg}{S:Nat->Bool}:zy3 p (kpF p.Reports 0 S)↔PL p fun j=>!S j:=by
 unfold zy3 PL;refine exists_congr fun L=>and_congr_right fun _=>zzU.trans ?_;refine forall_congr' fun j=>forall_congr' fun _=>?_
 show(S j=true->_)↔((!S j)=false->_)
 cases S j <;> simp
theorem zzW{l:List Rpt}{D:List Int}(hl:l.length<=1000)(hD:zr2 D):ztJ l D=some (kpF l 0 fun j=>!inD D j):=by
 have key:∀(d k:Nat) (acc:List Rpt),k<=l.length->l.length - k < d->acc.length<=k->ztI l D d acc (k:Int)=some (acc++kpF (l.drop k) k fun j=>!inD D j):=by
  intro d
  induction d with
  | zero=>intro k _ _ h _; omega
  | succ d ih=>
   intro k acc hk hd ha;rw[ztI]
   by_cases hkl:k < l.length
   ·rw[if_pos (by omega),zrS (List.getElem?_eq_getElem hkl),obs,zzS hD,obs,List.drop_eq_getElem_cons hkl,kpF]
    by_cases hin:(k:Int)∈D
    ·have e:inD D k=true:=decide_eq_true hin;rw[decide_eq_true hin,if_pos rfl,zqs (fI (by omega)),show(k:Int)+1=((k+1:Nat):Int) by omega,if_neg (by rw[e]; simp)];exact ih (k+1) acc (by omega) (by omega) (by omega)
    ·have e:inD D k=false:=decide_eq_false hin;rw[decide_eq_false hin,if_neg (by decide),zqs (by omega),zqs (fI (by omega)),show(k:Int)+1=((k+1:Nat):Int) by omega,if_pos (by rw[e]; rfl)];refine(ih (k+1) _ (by omega) (by omega) (by rw[List.length_append]; show acc.length+1<=_; omega)).trans ?_;rw[List.append_assoc]; rfl
   ·rw[if_neg (by omega),List.drop_eq_nil_of_le (by omega)]
    show _=some (acc++[])
    rw[List.append_nil]
 exact key (l.length+1) 0 [] (Nat.zero_le _) (by omega) (Nat.le_refl _)
theorem zyU.kp{p:Pg}(h:VP p)(S:Nat->Bool):zyU (kpF p.Reports 0 S):=fun r hr=>by
 obtain⟨j,h1,_⟩:=(zzP _ _).1 hr;exact h.rsOk r (List.mem_of_getElem? h1)
theorem zzX{p:Pg}(h:VP p){D:List Int}(hD:zr2 D):Ev (zub D (zyN p (zyF p)) p) (PL p (inD D)):=by
 have hr5:=h.r5;unfold zub;rw[zzW (by omega) hD,obs]
 show Ev ((ztQ (zyN p (zyF p)) (kpF p.Reports 0 fun j=>!inD D j)).bind _) _
 have hlen:=zzQ (S:=fun j=>!inD D j) p.Reports 0;refine(zy4 h (zyU.kp h _) (zr3 hlen (by omega))).ret.imp (zzV.trans (PL.congr fun j _=>?_))
 simp
theorem zzY{p:Pg}(h:VP p):PL p (inD (zzw p.Reports.length)):=by
 obtain⟨L,hL⟩:=zyJ h;exact⟨L,hL,fun j hj hs=>by rw[zzy hj] at hs; cases hs⟩
theorem zzZ{p:Pg}(h:VP p):∃M,zuc p=some (M,0)/\zzz p.Reports.length (PL p) M:=by
 have h4:=h.r5;have hsh:∀D,Inc p.Reports.length 0 D->zr2 D:=fun D hD=>zr3 (Nat.le_refl D.length) (by have:=zwY hD; omega)
 have ht:∀D,Inc p.Reports.length 0 D->((zub D (zyN p (zyF p)) p).getD false=true↔PL p (inD D)):=fun D hD=>by
  obtain⟨b,q1,q2⟩:=zzX h (hsh D hD);rw[q1]; exact q2
 obtain⟨s1,s2,s3⟩:=zxe (n:=p.Reports.length) (t:=fun L=>(zub L (zyN p (zyF p)) p).getD false) ⟨zzw p.Reports.length,zzx _,(ht _ (zzx _)).2 (zzY h)⟩;refine⟨zrz p.Reports.length fun L=>(zub L (zyN p (zyF p)) p).getD false,?_,s1,(ht _ s1).1 s2,fun D hD hD2=>s3 D hD ((ht D hD).2 hD2)⟩;unfold zuc zrA
 rw[zzf h,obs,if_pos rfl,zyT h,obs,zqs ⟨by omega,by omega,fun L hL=>by
  have hI:Inc p.Reports.length 0 L:=by rw[Int.toNat_natCast] at hL; exact zwZ.1 hL
  obtain⟨b,q1,_⟩:=zzX h (hsh L hI)
  show(zub L (zyN p (zyF p)) p).isSome=true
  rw[q1]; rfl⟩,obs,Int.toNat_natCast]
def FP(p:Pg)(j:Nat):Prop:=zy3 p (p.Reports.take (j+1))
theorem zz0{p:Pg}{i j:Nat}(hij:i<=j)(h:FP p j):FP p i:=by
 obtain⟨L,h1,h2⟩:=h;refine⟨L,h1,fun r hr=>h2 r ?_⟩
 have e:p.Reports.take (i+1)=(p.Reports.take (j+1)).take (i+1):=by rw[List.take_take,show min (i+1) (j+1)=i+1 by omega]
 rw[e] at hr;exact List.mem_of_mem_take hr
open Classical in
theorem zz1{p:Pg}(h:VP p):(∃j,j < p.Reports.length/\¬ FP p j/\(∀i,i < j->FP p i)/\zua p=some ((j:Int),0))\/((∀j,j < p.Reports.length->FP p j)/\zua p=some (0,7)):=by
 have h4:=h.r5
 have hf:∀m,m < p.Reports.length->zt7 (m:Int) (zyN p (zyF p)) p=some (decide (¬ FP p m)):=fun m hm=>by
  unfold zt7;rw[zqs (fI (by omega)),zqs (by omega),show Int.toNat ((m:Int)+1)=m+1 by omega,show Int.toNat (0:Int)=0 from rfl,List.drop_zero]
  show(ztQ (zyN p (zyF p)) (p.Reports.take (m+1))).bind _=_
  have hlen:(p.Reports.take (m+1)).length<=5:=by rw[List.length_take]; omega
  have hc:=zy4 h (rs:=p.Reports.take (m+1)) (fun r hr=>h.rsOk r (List.mem_of_mem_take hr)) (zr3 hlen (by omega))
  by_cases hq:FP p m
  ·rw[hc.some_of hq,obs,decide_eq_false (not_not_intro hq)]; rfl
  ·rw[hc.some_not hq,obs,decide_eq_true hq]; rfl
 obtain⟨k,q1,q2,q3,q4⟩:=zzT (n:=p.Reports.length) (p:=fun a=>zt7 a (zyN p (zyF p)) p) (f:=fun m=>decide (¬ FP p m)) (by omega) hf (fun m k h1 h2 h3=>decide_eq_true fun hk=>of_decide_eq_true h3 (zz0 h1 hk)) ((p.Reports.length:Int).toNat+1) 0 p.Reports.length (Nat.zero_le _) (Nat.le_refl _) (by omega) (fun m hm=>by omega) fun m h1 h2=>by omega
 have e:zua p=if ((k:Nat):Int)=(p.Reports.length:Int) then some (0,7) else some ((k:Int),0):=by
  unfold zua zt9;rw[zzf h,obs,if_pos rfl,zyT h,obs];have q1:zt8 (fun a=>zt7 a (zyN p (zyF p)) p) ((p.Reports.length:Int).toNat+1) 0 (p.Reports.length:Int)=some (k:Int):=q1;rw[q1,obs]
 have hlt:∀i,i < k->FP p i:=fun i hi=>Classical.not_not.1 (of_decide_eq_false (q3 i hi))
 by_cases hk:k=p.Reports.length
 ·rw[if_pos (by omega)] at e;exact .inr ⟨fun j hj=>hlt j (by omega),e⟩
 ·rw[if_neg (by omega)] at e;exact .inl ⟨k,by omega,of_decide_eq_true (q4 k (Nat.le_refl _) (by omega)),hlt,e⟩
theorem zz2{p:Pg}{j j':Nat}(h1:¬ FP p j)(h2:∀i,i < j->FP p i)(h3:¬ FP p j')(h4:∀i,i < j'->FP p i):j=j':=by
 rcases Nat.lt_trichotomy j j' with h | h | h
 ·exact absurd (h4 j h) h1
 ·exact h
 ·exact absurd (h2 j' h) h3
end
end Go.Proofs.Ytkcmdghjgoaggaa

namespace Go.Proofs.Ytkcmdghjgoaggaa
open _root_.Go.Proofs.Try
open Go.Abs
set_option maxRecDepth 100000
noncomputable section
theorem zz3{l:List Int}:(∀j,0 < j->j < l.length->∀a b,l[j - 1]? = some a->l[j]? = some b->a < b)↔l.Pairwise (· < ·):=by
 constructor
 ·intro h;rw[List.pairwise_iff_getElem];intro i j hi hj hij
  have key:∀d,(hd:i+d+1 < l.length)->l[i] < l[i+d+1]:=fun d=>by
   induction d with
   | zero=>intro hd; exact h (i+1) (by omega) hd _ _ (List.getElem?_eq_getElem hi) (List.getElem?_eq_getElem hd)
   | succ d ih=>
    intro hd;have h1:=ih (by omega);have h2:=h (i+(d+1)+1) (by omega) hd _ _ (List.getElem?_eq_getElem (show i+d+1 < l.length by omega)) (List.getElem?_eq_getElem hd);exact Int.lt_trans h1 h2
  have:=key (j - i - 1) (by omega)
  simpa [show i+(j - i - 1)+1=j by omega] using this
 ·intro h j h0 hj a b ha hb;obtain⟨h1,rfl⟩:=List.getElem?_eq_some_iff.1 ha;obtain⟨h2,rfl⟩:=List.getElem?_eq_some_iff.1 hb;exact List.pairwise_iff_getElem.1 h (j - 1) j h1 h2 (by omega)
theorem zz4{l:List Int}(hl:zr2 l):Ev (ztf l) (l.Pairwise (· < ·)):=by
 unfold zr2 at hl;unfold ztf
 by_cases h0:l.length=0
 ·have:l=[]:=List.eq_nil_of_length_eq_zero h0;subst this
  show Ev (zte [] 1 1) _
  rw[zte,if_neg (by decide)];exact Ev.tt .nil
 ·have e:∃n,l.length=n+1:=⟨l.length - 1,by omega⟩;obtain⟨n,hn⟩:=e
  have key:=zrW (n:=n) (F:=fun d x=>zte l d (x+1)) (ok:=fun j=>∀a b,l[j]? = some a->l[j+1]? = some b->a < b) (bad:=some false) (fin:=some true) (fun d k hk=>by
   show(_->zte l (d+1) ((k:Int)+1)=_)/\_
   have ha:=List.getElem?_eq_getElem (show k < l.length by omega);have hb:=List.getElem?_eq_getElem (show k+1 < l.length by omega);rw[zte,if_pos (by omega),zrT (show(k:Int)+1=((k+1:Nat):Int) by omega) (show k+1 < l.length by omega),obs,zqs (fI (by omega)),zrT (show(k:Int)+1 - 1=(k:Int) by omega) (show k < l.length by omega),obs];refine⟨fun h=>?_,fun h=>?_⟩
   ·have:=h _ _ ha hb;rw[if_neg (by omega),zqs (fI (by omega))]
   ·rw[if_pos]
    apply Classical.byContradiction
    intro h2
    exact h fun a b h3 h4=>by rw[ha] at h3; rw[hb] at h4; cases h3; cases h4; omega) (fun d=>by show zte l (d+1) _=_; rw[zte,if_neg (by omega)]) (d:=((l.length:Int) - 1).toNat+1) (by omega)
  have e0:zte l (((l.length:Int) - 1).toNat+1) (0+1)=zte l (((l.length:Int) - 1).toNat+1) 1:=rfl
  have hiff:(∀j,j < n->∀a b,l[j]? = some a->l[j+1]? = some b->a < b)↔l.Pairwise (· < ·):=by
   rw[<- zz3]
   constructor
   ·intro h j h0 hj a b h1 h2;have:=h (j - 1) (by omega) a b h1;rw[show j - 1+1=j by omega] at this;exact this h2
   ·intro h j hj a b h1 h2;exact h (j+1) (by omega) (by omega) a b (by rw[Nat.add_sub_cancel]; exact h1) h2
  by_cases hq:∀j,j < n->∀a b,l[j]? = some a->l[j+1]? = some b->a < b
  ·have:=key.1 hq;exact⟨true,this,⟨fun _=>hiff.1 hq,fun _=>rfl⟩⟩
  ·have:=key.2 hq;exact⟨false,this,⟨fun h=>(by cases h),fun h=>absurd (hiff.2 h) hq⟩⟩
def zke(p:Pg)(l:List Int):Prop:=l.Pairwise (· < ·)/\∀v∈l,(0<=v/\v<=(p.Treaties.length:Int) - 1)/\ofB p.Treaties v.toNat=true
theorem zke.inc{p:Pg}{l:List Int}(h:zke p l):Inc p.Treaties.length 0 l:=⟨h.1,fun v hv=>by have:=(h.2 v hv).1; omega⟩
theorem zke.len{p:Pg}{l:List Int}(h:zke p l):l.length<=p.Treaties.length:=by have:=zwY h.inc; omega
theorem zz5{p:Pg}(h:VP p){n:Int}:Ev (ztp p n) ((0<=n/\n<=(p.Treaties.length:Int) - 1)/\ofB p.Treaties n.toNat=true):=by
 have h5:=h.t5;refine(zxH (zze h).2.1).and fun hc=>?_;have hg:=List.getElem?_eq_getElem (show n.toNat < p.Treaties.length by omega);have e:=zrS hg;rw[show((n.toNat:Nat):Int)=n by omega] at e;rw[e,obs];have ho:=h.of' _ _ hg;exact Ev.dec (by rw[zzv hg,decide_eq_true_eq]; omega)
theorem zz6{p:Pg}(h:VP p){l:List Int}(hl:zr2 l):Ev (ztq p l) (zke p l):=
 (zz4 hl).and fun _=>(Ev.each (p:=fun a=>ztp p a) (q:=fun v=>(0<=v/\v<=(p.Treaties.length:Int) - 1)/\ofB p.Treaties v.toNat=true) (fun _ _=>zz5 h) hl.lt gI).ret
def tyD:Ty:={ Kind:=0,Part:=0,Above:=0,Most:=0,Times:=0,Price:=0,Of:=-1 }
def tyA(ts:List Ty)(v:Int):Ty:=(ts[v.toNat]?).getD tyD
theorem zz7{ts:List Ty}{v:Int}{t:Ty}(h:ts[v.toNat]? = some t):tyA ts v=t:=by unfold tyA; rw[h]; rfl
theorem zz8{ts:List Ty}{v:Int}(h0:0<=v)(h1:v<=(ts.length:Int) - 1):ts[v.toNat]? = some (tyA ts v):=by
 have hg:=List.getElem?_eq_getElem (show v.toNat < ts.length by omega);rw[zz7 hg,hg]
theorem zz9{ts:List Ty}{v:Int}(h0:0<=v)(h1:v<=(ts.length:Int) - 1):idx ts v=some (tyA ts v):=by
 have:=zrS (zz8 h0 h1)
 rwa [show((v.toNat:Nat):Int)=v by omega] at this
def zAa(ts:List Ty):List Int->Int
 | []=>0
 | v::l=>(tyA ts v).Price+zAa ts l
theorem zAb{ts:List Ty}{v:Int}:∀l,zAa ts (l++[v])=zAa ts l+(tyA ts v).Price
 | []=>by show _+(0:Int)=0+_; omega
 | a::l=>by show _+zAa ts (l++[v])=_+zAa ts l+_; rw[zAb l]; omega
def InT(p:Pg)(l:List Int):Prop:=∀v∈l,0<=v/\v<=(p.Treaties.length:Int) - 1
theorem zAc{p:Pg}(h:VP p):∀{l:List Int},InT p l->0<=zAa p.Treaties l/\zAa p.Treaties l<=1000 * l.length
 | [],_=>⟨Int.le_refl _,by show(0:Int)<=1000 * ((0:Nat):Int); omega⟩
 | v::l,hl=>by
  have ih:=zAc h (l:=l) fun v hv=>hl v (List.mem_cons_of_mem _ hv);have hv:=hl v (List.mem_cons_self ..);have ht:=h.ts _ (List.mem_of_getElem? (zz8 hv.1 hv.2));have h1:=ht.2
  show 0<=(tyA p.Treaties v).Price+zAa p.Treaties l/\(tyA p.Treaties v).Price+zAa p.Treaties l<=1000 * ((l.length+1:Nat):Int)
  omega
theorem zAd{α:Type}{l:List α}{k:Nat}{a:α}(h:l[k]? = some a):l.take (k+1)=l.take k++[a]:=by rw[List.take_add_one,h]; rfl
theorem zAe{p:Pg}(h:VP p){l:List Int}(hl:InT p l)(h9:l.length<=9):zts p l=some (zAa p.Treaties l):=by
 refine zxk (n:=l.length) (fun d (s:Int) y=>ztr p l d s y) (fun k=>zAa p.Treaties (l.take k)) (fun d k hk=>?_) (fun d=>?_) (l.length+1) 0 (by omega) (by omega)
 ·have hg:=List.getElem?_eq_getElem hk;have hv:=hl _ (List.getElem_mem hk);have hb:=zAc h (l:=l.take (k+1)) fun v hv=>hl v (List.mem_of_mem_take hv)
  have hlen:(l.take (k+1)).length<=9:=by rw[List.length_take]; omega
  rw[zAd hg,zAb] at hb;rw[List.length_append,List.length_take] at hb
  simp only[List.length_singleton] at hb
  show ztr p l (d+1) _ _=_
  rw[ztr,if_pos (by omega),zrS hg,obs,zz9 hv.1 hv.2,obs,zqs (fI (by omega)),zqs (fI (by omega)),zAd hg,zAb]
 ·show ztr p l (d+1) _ _=_
  rw[ztr,if_neg (Int.lt_irrefl _),List.take_length]
def zAf(p:Pg)(l:List Int):Pg:={ Losses:=p.Losses,Reserve:=p.Reserve,Treaties:=l.map (tyA p.Treaties),Reports:=[] }
theorem zAg{p:Pg}{l:List Int}(hl:InT p l)(h9:l.length<=9):ztu p l=some (zAf p l):=by
 refine zxk (n:=l.length) (fun d (s:List Ty) y=>ztt p l d p.Reserve s y) (fun k=>(l.take k).map (tyA p.Treaties)) (fun d k hk=>?_) (fun d=>?_) (l.length+1) 0 (by omega) (by omega)
 ·have hg:=List.getElem?_eq_getElem hk;have hv:=hl _ (List.getElem_mem hk)
  show ztt p l (d+1) _ _ _=_
  rw[ztt,if_pos (by omega),zrS hg,obs,zz9 hv.1 hv.2,obs,zqs (by rw[List.length_map,List.length_take]; omega),zqs (fI (by omega)),zAd hg,List.map_append]; rfl
 ·show ztt p l (d+1) _ _ _=_
  rw[ztt,if_neg (Int.lt_irrefl _),List.take_length]; rfl
theorem zke.inT{p:Pg}{l:List Int}(h:zke p l):InT p l:=fun v hv=>(h.2 v hv).1
theorem zke.ty{p:Pg}(h:VP p){l:List Int}(hs:zke p l){v:Int}(hv:v∈l):(tyA p.Treaties v).Of = -1:=by
 obtain⟨h1,h2⟩:=hs.2 v hv;have hg:=zz8 h1.1 h1.2;rw[zzv hg,decide_eq_true_eq] at h2;have:=h.of' _ _ hg
 omega
theorem zAh{p:Pg}(h:VP p){l:List Int}(hs:zke p l):VP (zAf p l):=by
 have h5:=h.t5;have hl:=hs.len;refine { ls:=h.ls,res:=h.res,ts:=fun t ht=>?_,of':=fun i t ht=>?_,rs:=fun r hr=>(by cases hr),l4:=h.l4,t5:=?_,r5:=Nat.zero_le _,many:=h.many }
 ·obtain⟨v,hv,rfl⟩:=List.mem_map.1 ht;have:=hs.inT v hv;exact h.ts _ (List.mem_of_getElem? (zz8 this.1 this.2))
 ·obtain⟨v,hv,rfl⟩:=List.mem_map.1 (List.mem_of_getElem? ht);rw[hs.ty h hv]; omega
 ·show(l.map (tyA p.Treaties)).length<=5
  rw[List.length_map]; omega
theorem zAi{b k:Nat}:∀e,∃T,zw0 b (k+e)=zw0 b k++T
 | 0=>⟨[],(List.append_nil _).symm⟩
 | e+1=>by
  obtain⟨T,hT⟩:=zAi (b:=b) (k:=k) e;refine⟨T++(if b.testBit (k+e) then [((k+e:Nat):Int)] else []),?_⟩
  show zw0 b (k+e)++_=_
  rw[hT,List.append_assoc]; rfl
theorem zAj{b n:Nat}(hn:n<=16)(hb:b < 2 ^ n):zw1 b=zw0 b n:=by
 unfold zw1;obtain⟨e,he⟩:∃e,16=n+e:=⟨16 - n,by omega⟩;rw[he];exact zw4 (fun q hq=>Nat.testBit_lt_two_pow (Nat.lt_of_lt_of_le hb (Nat.pow_le_pow_right (by omega) hq))) e
theorem zAk{b k n j:Nat}(hk:k<=n)(hj:j < (zw0 b k).length):(zw0 b n)[j]? = (zw0 b k)[j]?:=by
 obtain⟨T,hT⟩:=zAi (b:=b) (k:=k) (n - k);rw[show k+(n - k)=n by omega] at hT;rw[hT,List.getElem?_append_left hj]
theorem zAl{ts:List Ty}{b n:Nat}(hn:n=ts.length)(hof:∀k t,ts[k]? = some t->b.testBit k=true->t.Of = -1){P P':Nat->Int}(hP:∀(j:Nat) (v:Int),(zw0 b n)[j]? = some v->P' j=P v.toNat){x:Int}:∀k,k<=n ->
  (dN ((zw0 b n).map (tyA ts)) P' x (zw0 b k).length).soc=(a1 ts (fun k=>b.testBit k) P x k).2/\∀(j:Nat) (v:Int),j < (zw0 b k).length->(zw0 b n)[j]? = some v->(dN ((zw0 b n).map (tyA ts)) P' x (zw0 b k).length).pays j=(a1 ts (fun k=>b.testBit k) P x k).1 v.toNat
 | 0,_=>⟨rfl,fun j v h=>by cases h⟩
 | k+1,hk=>by
  obtain⟨i1,i2⟩:=zAl hn hof hP (x:=x) k (by omega);have hg:=List.getElem?_eq_getElem (show k < ts.length by omega);rw[zzp hg];have ht:=hof k _ hg;generalize ts[k]'(by omega)=t at hg ht
  cases hb:b.testBit k with
  | true=>
   have ho:=ht hb
   have e:zw0 b (k+1)=zw0 b k++[(k:Int)]:=by show zw0 b k++(if b.testBit k then _ else _)=_; rw[hb]; rfl
   have el:(zw0 b (k+1)).length=(zw0 b k).length+1:=by rw[e,List.length_append]; rfl
   have hm:(zw0 b n)[(zw0 b k).length]? = some (k:Int):=by
    rw[zAk (k:=k+1) hk (by omega),e,List.getElem?_append_right (Nat.le_refl _),Nat.sub_self]; rfl
   have hmt:((zw0 b n).map (tyA ts))[(zw0 b k).length]? = some t:=by
    rw[List.getElem?_map,hm];exact congrArg some (zz7 (by rw[Int.toNat_natCast]; exact hg))
   rw[el,zyd hmt,if_pos ⟨by omega,rfl⟩];unfold zyc;rw[if_pos ho,i1,hP _ _ hm,Int.toNat_natCast];refine⟨rfl,fun j v hj hv=>?_⟩
   show upF _ (zw0 b k).length _ j=upF (a1 ts (fun k=>b.testBit k) P x k).1 k _ v.toNat
   by_cases hjm:j=(zw0 b k).length
   ·subst hjm;rw[hm] at hv
    cases hv
    rw[zxp,Int.toNat_natCast,zxp]
   ·rw[zxq _ _ hjm,i2 j v (by omega) hv];have hv2:=hv;rw[zAk (k:=k) (by omega) (by omega)] at hv2;have:=zw2.1 (List.mem_of_getElem? hv2);rw[zxq _ _ (by omega)]
  | false=>
   have e:zw0 b (k+1)=zw0 b k:=by show zw0 b k++(if b.testBit k then _ else _)=_; rw[hb]; exact List.append_nil _
   rw[e,if_neg fun h=>by cases h.2];exact⟨i1,i2⟩
theorem zAm{ts:List Ty}{P now:Nat->Int}{j:Nat}(hj:ofB ts j=true):∀k,k<=ts.length->(a2 ts P now k).1 j=now j
 | 0,_=>rfl
 | k+1,hk=>by
  have hg:=List.getElem?_eq_getElem (show k < ts.length by omega);have hfk:=zzv hg;have ih:=zAm (P:=P) (now:=now) hj k (by omega);rw[zzq hg];generalize ts[k]'(by omega)=t at hg hfk
  by_cases ho:0<=t.Of
  ·rw[if_pos ho]
   show upF (a2 ts P now k).1 k _ j=_
   rw[zxq _ _ fun e=>by subst e; rw[hfk,decide_eq_true_eq] at hj; omega,ih]
  ·rw[if_neg ho,ih]
theorem zAn{ts:List Ty}{b:Nat}(hof:∀k t,ts[k]? = some t->b.testBit k=true->t.Of = -1):∀(L:List Int) (s:(Nat->Int) × Int) (o:DS),(∀(j:Nat) (v:Int),(zw0 b ts.length)[j]? = some v->o.pays j=s.1 v.toNat)->o.soc=s.2 ->
  (L.foldl (zyk ((zw0 b ts.length).map (tyA ts))) o).soc=(L.foldl (zzt ts fun k=>b.testBit k) s).2
 | [],_,_,_,h2=>h2
 | x::L,s,o,h1,h2=>by
  obtain⟨c1,c2⟩:=zAl rfl hof h1 (x:=x) ts.length (Nat.le_refl _);refine zAn hof L (zzt ts (fun k=>b.testBit k) s x) (zyk ((zw0 b ts.length).map (tyA ts)) o x) (fun j v hv=>?_) ?_
  ·show o.pays j+(dN ((zw0 b ts.length).map (tyA ts)) o.pays x ((zw0 b ts.length).map (tyA ts)).length).pays j=s.1 v.toNat+(a2 ts s.1 (a1 ts (fun k=>b.testBit k) s.1 x ts.length).1 ts.length).1 v.toNat
   have hjl:=(List.getElem?_eq_some_iff.1 hv).1;have hmem:=zw2.1 (List.mem_of_getElem? hv);have hg:=List.getElem?_eq_getElem (show v.toNat < ts.length by omega);rw[List.length_map,h1 j v hv,c2 j v hjl hv,zAm (by rw[zzv hg,hof _ _ hg hmem.2.2]; rfl) ts.length (Nat.le_refl _)]
  ·show o.soc+(dN ((zw0 b ts.length).map (tyA ts)) o.pays x ((zw0 b ts.length).map (tyA ts)).length).soc=s.2+(a1 ts (fun k=>b.testBit k) s.1 x ts.length).2
   rw[List.length_map,c1,h2]
theorem zAo{ts:List Ty}{b:Nat}(hof:∀k t,ts[k]? = some t->b.testBit k=true->t.Of = -1)(L:List Int):(zyl ((zw0 b ts.length).map (tyA ts)) L).soc=(zzu ts (fun k=>b.testBit k) L).2:=
 zAn hof L (fun _=>0,0) zyj (fun _ _ _=>rfl) rfl
theorem zAp{ts:List Ty}{th th':Nat->Bool}{P:Nat->Int}{x:Int}(h:∀j,j < ts.length->th j=th' j):∀k,k<=ts.length->a1 ts th P x k=a1 ts th' P x k
 | 0,_=>rfl
 | k+1,hk=>by
  have hg:=List.getElem?_eq_getElem (show k < ts.length by omega);rw[zzp hg,zzp hg,zAp h k (by omega),h k (by omega)]
theorem zAq{ts:List Ty}{th th':Nat->Bool}(h:∀j,j < ts.length->th j=th' j)(L:List Int):zzu ts th L=zzu ts th' L:=by
 have e:zzt ts th=zzt ts th':=by
  funext s x
  unfold zzt;rw[zAp h ts.length (Nat.le_refl _)]
 unfold zzu;rw[e]
theorem RI.mono{ts:List Ty}{B B':Int}{s:(Nat->Int) × Int}(h:RI ts B s)(hB:B<=B'):RI ts B' s:=⟨by have:=h.net; omega,fun j=>by have:=h.pays j; omega,h.cap⟩
theorem zAr{ts:List Ty}{th:Nat->Bool}(hts:zyf ts):∀(L:List Int) (s:(Nat->Int) × Int) (B:Int),(∀x∈L,0<=x/\x<=1000)->RI ts B s->RI ts (B+1000 * L.length) (L.foldl (zzt ts th) s)
 | [],s,B,_,h=>h.mono (by show B<=B+1000 * ((0:Nat):Int); omega)
 | x::L,s,B,hL,h=>by
  have hx:=hL x (List.mem_cons_self ..);have h1:=(h.step (th:=th) hts (x:=x) (by omega)).mono (B':=B+1000) (by omega);refine(zAr hts L _ _ (fun x hx=>hL x (List.mem_cons_of_mem _ hx)) h1).mono ?_;rw[List.length_cons]; omega
theorem zAs{p:Pg}(h:VP p){th:Nat->Bool}{L:List Int}(hL:inL p.Losses L):0<=(zzu p.Treaties th L).2/\(zzu p.Treaties th L).2<=4000:=by
 have h4:=h.l4;have hl:=zyy hL;have:=(zAr (th:=th) h.tsOk L (fun _=>0,0) 0 (zyB hL h.ls) ⟨⟨Int.le_refl _,Int.le_refl _⟩,fun _=>⟨Int.le_refl _,Int.le_refl _⟩,zym h.tsOk⟩).net;unfold zzu
 omega
def zAt(p:Pg):List (List Int):=(List.range (zxy p.Losses).toNat).map fun n:Nat=>zzB p.Losses (n:Int)
theorem zAu{p:Pg}(h:VP p){L:List Int}:L∈zAt p↔inL p.Losses L:=by
 unfold zAt;rw[List.mem_map]
 constructor
 ·rintro⟨n,_,rfl⟩; exact h.nthIn (by omega)
 ·intro hL;obtain⟨n,n0,n1,rfl⟩:=zzD hL;exact⟨n.toNat,List.mem_range.2 (by omega),by rw[show((n.toNat:Nat):Int)=n by omega]⟩
def zAv(p:Pg)(th:Nat->Bool):Rg:=wdL (fun L=>(zzu p.Treaties th L).2) (zAt p)
theorem zAw{p:Pg}{th th':Nat->Bool}(h:∀j,j < p.Treaties.length->th j=th' j):zAv p th=zAv p th':=by
 unfold zAv
 have:(fun L=>(zzu p.Treaties th L).2)=fun L=>(zzu p.Treaties th' L).2:=funext fun L=>by rw[zAq h]
 rw[this]
theorem zAx{p:Pg}(h:VP p)(th:Nat->Bool):IsB (inL p.Losses) (fun L=>(zzu p.Treaties th L).2) (zAv p th):=by
 obtain⟨L,hL⟩:=zyJ h;refine(zzL (fun e=>?_) fun L hL=>?_).congr (fun L=>zAu h) fun _ _=>rfl
 ·have:=(zAu h).2 hL
  rw[e] at this; cases this
 ·have:=zAs h (th:=th) ((zAu h).1 hL); omega
theorem zke.bits{p:Pg}(h:VP p){b:Nat}(_hb:b < 2 ^ p.Treaties.length)(hs:zke p (zw1 b)):∀k t,p.Treaties[k]? = some t->b.testBit k=true->t.Of = -1:=fun k t hk hbk=>by
 have hkl:=(List.getElem?_eq_some_iff.1 hk).1;have h5:=h.t5
 have hm:((k:Nat):Int)∈zw1 b:=by unfold zw1; exact zw2.2 ⟨by omega,by omega,hbk⟩
 have:=hs.ty h hm
 rwa [zz7 (t:=t) (by rw[Int.toNat_natCast]; exact hk)] at this
theorem zAy{p:Pg}(h:VP p){l:List Int}(hs:zke p l):ztZ p l=some (zAv p (inD l)):=by
 have h5:=h.t5;obtain⟨b,hb,hlb⟩:=zxj (n:=p.Treaties.length) (by omega) hs.inc;have hv:=zAh h hs;have hlen:=hs.len;have hof:=zke.bits h hb (by rw[hlb]; exact hs)
 have hth:∀j,j < p.Treaties.length->inD l j=b.testBit j:=fun j hj=>by
  rw[<- hlb]; exact zxi (n:=p.Treaties.length) (by omega) hj
 have hlF:l=zw0 b p.Treaties.length:=by rw[<- hlb]; exact zAj (by omega) hb
 obtain⟨L0,hL0⟩:=zyJ h;have hcan:zy3 (zAf p l) (zAf p l).Reports:=⟨L0,hL0,fun r hr=>by cases hr⟩;obtain⟨r,a1,a2⟩:=zzd hv (number:=fun a=>ztx a) (g:=fun o=>o.society) (fun L _=>rfl) hcan
 have hnet:∀L,(zyl (l.map (tyA p.Treaties)) L).soc=(zzu p.Treaties (fun k=>b.testBit k) L).2:=fun L=>by
  rw[hlF]; exact zAo hof L
 have e:r=zAv p (inD l):=by
  rw[zAw hth];have q:IsB (inL p.Losses) (fun L=>(zzu p.Treaties (fun k=>b.testBit k) L).2) r:=a2.congr (fun L=>⟨fun q=>q.1,fun q=>⟨q,fun r hr=>by cases hr⟩⟩) fun L _=>hnet L;exact q.uniq (zAx h fun k=>b.testBit k)
 unfold ztZ;rw[zAg hs.inT (by omega),obs,zyT hv,obs];have a1':ztS ({ p:=(zyN (zAf p l) (zyF (zAf p l))).p,kinds:=(zyN (zAf p l) (zyF (zAf p l))).kinds,shared:=(),played:=(zyN (zAf p l) (zyF (zAf p l))).played }:Wk) (fun a=>ztx a)=some r:=a1;rw[a1',obs,e]
theorem zAz{p:Pg}(h:VP p){l:List Int}(hs:zke p l):zt0 p l=some (decide ((zAv p (inD l)).Hi<=p.Reserve)):=by
 unfold zt0;rw[zAy h hs,obs]
theorem zAA{p:Pg}(h:VP p){l:List Int}(hl:zr2 l)(hs:zke p l):zt1 p l=some (zAv p (inD l),0):=by
 unfold zt1;rw[zzf h,obs,if_pos rfl,(zz6 h hl).some_of hs,obs,if_pos rfl,zAy h hs,obs]
def zAB(p:Pg)(l:List Int)(m:Int):Prop:=zke p l/\zAa p.Treaties l<=m/\(zAv p (inD l)).Hi<=p.Reserve
theorem zAC{p:Pg}(h:VP p){l:List Int}(hl:zr2 l){m:Int}:Ev (zt6 p l m) (zAB p l m):=by
 have h5:=h.t5;unfold zt6;rw[zzf h,obs,if_pos rfl];refine((zz6 h hl).and fun hs=>(?_:Ev _ (zAa p.Treaties l<=m/\(zAv p (inD l)).Hi<=p.Reserve)));have:=hs.len;rw[zAe h hs.inT (by omega),obs];refine Ev.ite fun _=>?_;rw[zAz h hs,obs];exact Ev.dec Iff.rfl
theorem zAD{l:List Int}(h:l.length<=100000):ztK l=some l:=by
 unfold ztK;rw[zqs (by simp only[List.length_nil]; omega)]; rfl
def zAE(p:Pg)(D:List Int):Prop:=zke p D/\(zAv p (inD D)).Hi<=p.Reserve
structure zAF (p:Pg) (M:List Int):Prop where
 good:zAE p M
 min:∀D,zAE p D->zAa p.Treaties M < zAa p.Treaties D\/(zAa p.Treaties M=zAa p.Treaties D/\(D=M\/shB M D=true))
theorem zAF.uniq{p:Pg}{M M':List Int}(h:zAF p M)(h':zAF p M'):M=M':=by
 rcases h.min M' h'.good with h1 | ⟨h1,h1'⟩ <;> rcases h'.min M h.good with h2 | ⟨h2,h2'⟩
 ·omega
 ·omega
 ·omega
 ·rcases h1' with h3 | h3
  ·exact h3.symm
  ·rcases h2' with h4 | h4
   ·exact h4
   ·rw[zw8 h3] at h4; cases h4
open Classical in
def zAG(p:Pg)(s:List Int × Bool)(D:List Int):List Int × Bool:=if zAE p D/\(s.2=true->zAa p.Treaties D < zAa p.Treaties s.1) then (D,true) else s
theorem zAH{p:Pg}{s:List Int × Bool}(h:s.2=true->zke p s.1)(D:List Int):(zAG p s D).2=true->zke p (zAG p s D).1:=by
 unfold zAG
 split
 ·rename_i hc; exact fun _=>hc.1.1
 ·exact h
theorem zAI{p:Pg}(h:VP p){x:Int}(hx:0<=x/\x<=1000){K:List Int->Bool->Int->Option (List Int × Bool)}:∀(q:List (List Int)) (s:List Int × Bool),(∀D∈q,Inc p.Treaties.length 0 D)->(s.2=true->zke p s.1) ->
  zt2 p x K q s.1 s.2=K (q.foldl (zAG p) s).1 (q.foldl (zAG p) s).2 (x+1)/\((q.foldl (zAG p) s).2=true->zke p (q.foldl (zAG p) s).1)
 | [],s,_,hs=>⟨by rw[zt2,zqs (fI (by omega))]; rfl,hs⟩
 | D::q,s,hq,hs=>by
  have h5:=h.t5;have hD:=zwY (hq D (List.mem_cons_self ..));have ih:=zAI h hx (K:=K) q (zAG p s D) (fun D hD=>hq D (List.mem_cons_of_mem _ hD)) (zAH hs D);refine⟨?_,ih.2⟩;refine Eq.trans ?_ ih.1;rw[zt2]
  have hD5:D.length<=5:=by omega
  by_cases hset:zke p D
  ·rw[(zz6 h (zr3 hD5 (by omega))).some_of hset,obs,if_pos rfl];have hg:zAE p D↔(zAv p (inD D)).Hi<=p.Reserve:=⟨fun q=>q.2,fun q=>⟨hset,q⟩⟩;obtain⟨M,b⟩:=s
   cases b with
   | true=>
    have hM:=hs rfl;have hMl:M.length<=p.Treaties.length:=hM.len
    show(if true=true then _ else _)=_
    rw[if_pos rfl,zAe h hset.inT (by omega),obs]
    show(zts p M).bind _=_
    rw[zAe h hM.inT (by show M.length<=9; omega),obs]
    by_cases hp:zAa p.Treaties M<=zAa p.Treaties D
    ·rw[if_pos hp]
     have e:zAG p (M,true) D=(M,true):=if_neg fun q=>by have:zAa p.Treaties D < zAa p.Treaties M:=q.2 rfl; omega
     rw[e]
    ·rw[if_neg hp,zAz h hset,obs]
     by_cases hk:(zAv p (inD D)).Hi<=p.Reserve
     ·have e:zAG p (M,true) D=(D,true):=if_pos ⟨hg.2 hk,fun _=>by show zAa p.Treaties D < zAa p.Treaties M; omega⟩;rw[decide_eq_true hk,if_pos rfl,zAD (by omega),obs,e]
     ·have e:zAG p (M,true) D=(M,true):=if_neg fun q=>hk (hg.1 q.1);rw[decide_eq_false hk,if_neg (by decide),e]
   | false=>
    show(if false=true then _ else _)=_
    rw[if_neg (by decide),zAz h hset,obs]
    by_cases hk:(zAv p (inD D)).Hi<=p.Reserve
    ·have e:zAG p (M,false) D=(D,true):=if_pos ⟨hg.2 hk,fun q=>(by cases q)⟩;rw[decide_eq_true hk,if_pos rfl,zAD (by omega),obs,e]
    ·have e:zAG p (M,false) D=(M,false):=if_neg fun q=>hk (hg.1 q.1);rw[decide_eq_false hk,if_neg (by decide),e]
  ·rw[(zz6 h (zr3 hD5 (by omega))).some_not hset,obs,if_neg (by decide)];have e:zAG p s D=s:=if_neg fun q=>hset q.1.1;rw[e]
theorem zAJ{p:Pg}(h:VP p):∀(d e k:Nat) (s:List Int × Bool),k+e=p.Treaties.length+1->e < d->(s.2=true->zke p s.1)->zt3 p d s.1 s.2 (k:Int)=some ((zrx (fun s=>zry p.Treaties.length s [] 0) e k).foldl (zAG p) s)
 | 0,_,_,_,_,hd,_=>by omega
 | d+1,0,k,s,hk,hd,hs=>by
  rw[zt3,if_neg (by omega)]; rfl
 | d+1,e+1,k,s,hk,hd,hs=>by
  have h5:=h.t5
  have hinc:∀D∈zry p.Treaties.length k [] 0,Inc p.Treaties.length 0 D:=fun D hD=>by
   obtain⟨T,h1,_,h3⟩:=zwX.1 hD;rw[List.nil_append] at h1;rw[h1]; exact h3
  obtain⟨q1,q2⟩:=zAI h (x:=(k:Int)) (by omega) (K:=zt3 p d) (zry p.Treaties.length k [] 0) s hinc hs;rw[zt3,if_pos (by omega)];unfold zrB;rw[zqs (by omega),obs,Int.toNat_natCast,Int.toNat_natCast,q1,show(k:Int)+1=((k+1:Nat):Int) by omega];refine(zAJ h d e (k+1) _ (by omega) (by omega) q2).trans ?_
  show _=some ((zry p.Treaties.length k [] 0++zrx (fun s=>zry p.Treaties.length s [] 0) e (k+1)).foldl (zAG p) s)
  rw[List.foldl_append]
theorem zAK{p:Pg}(h:VP p):zt4 p=some ((zoj p.Treaties.length).foldl (zAG p) ([],false)):=by
 have h5:=h.t5;unfold zt4;rw[zqs (fI (by omega))]
 exact zAJ h _ (p.Treaties.length+1) 0 ([],false) (by omega) (by omega) fun q=>by cases q
structure zAL (p:Pg) (A:List (List Int)) (s:List Int × Bool):Prop where
 yes:s.2=true->s.1∈A/\zAE p s.1/\∀D∈A,zAE p D->zAa p.Treaties s.1 < zAa p.Treaties D\/(zAa p.Treaties s.1=zAa p.Treaties D/\(D=s.1\/shB s.1 D=true))
 no:s.2=false->s.1=[]/\∀D∈A,¬ zAE p D
theorem zAM{p:Pg}:∀(q A:List (List Int)) (s:List Int × Bool),(A++q).Pairwise (fun a b=>shB a b=true)->zAL p A s->zAL p (A++q) (q.foldl (zAG p) s)
 | [],A,s,_,h=>by rw[List.append_nil]; exact h
 | D::q,A,s,hp,h=>by
  have e:A++D::q=(A++[D])++q:=by rw[List.append_assoc]; rfl
  rw[e] at hp ⊢;refine zAM q (A++[D]) (zAG p s D) hp ?_;have hAD:∀a∈A,shB a D=true:=fun a ha=>(List.pairwise_append.1 (List.pairwise_append.1 hp).1).2.2 a ha D (List.mem_singleton.2 rfl)
  have hmem:∀D',D'∈A++[D]->D'∈A\/D'=D:=fun D' hD'=>by
   rcases List.mem_append.1 hD' with q | q
   ·exact .inl q
   ·exact .inr (List.mem_singleton.1 q)
  obtain⟨M,b⟩:=s
  by_cases hc:zAE p D/\(b=true->zAa p.Treaties D < zAa p.Treaties M)
  ·have e2:zAG p (M,b) D=(D,true):=if_pos hc;rw[e2];refine⟨fun _=>⟨List.mem_append_right _ (List.mem_singleton.2 rfl),hc.1,fun D' hD' hg=>?_⟩,fun q=>(by cases q)⟩
   rcases hmem D' hD' with hq | rfl
   ·cases b with
    | true=>
     have h1:zAa p.Treaties D < zAa p.Treaties M:=hc.2 rfl
     rcases (h.yes rfl).2.2 D' hq hg with h2 | ⟨h2,_⟩
     ·have h2:zAa p.Treaties M < zAa p.Treaties D':=h2;exact .inl (by show zAa p.Treaties D < _; omega)
     ·have h2:zAa p.Treaties M=zAa p.Treaties D':=h2;exact .inl (by show zAa p.Treaties D < _; omega)
    | false=>exact absurd hg ((h.no rfl).2 D' hq)
   ·exact .inr ⟨rfl,.inl rfl⟩
  ·have e2:zAG p (M,b) D=(M,b):=if_neg hc;rw[e2]
   cases b with
   | true=>
    refine⟨fun _=>?_,fun q=>(by cases q)⟩;obtain⟨y1,y2,y3⟩:=h.yes rfl;refine⟨List.mem_append_left _ y1,y2,fun D' hD' hg=>?_⟩
    rcases hmem D' hD' with hq | rfl
    ·exact y3 D' hq hg
    ·have h1:¬ zAa p.Treaties D' < zAa p.Treaties M:=fun q=>hc ⟨hg,fun _=>q⟩
     rcases Int.lt_or_eq_of_le (show zAa p.Treaties M<=zAa p.Treaties D' by omega) with h2 | h2
     ·exact .inl h2
     ·exact .inr ⟨h2,.inr (hAD M y1)⟩
   | false=>
    refine⟨fun q=>(by cases q),fun _=>⟨(h.no rfl).1,fun D' hD' hg=>?_⟩⟩
    rcases hmem D' hD' with hq | rfl
    ·exact(h.no rfl).2 D' hq hg
    ·exact hc ⟨hg,fun q=>(by cases q)⟩
theorem zAN{p:Pg}(h:VP p):(∃M,zt4 p=some (M,true)/\zAF p M)\/(zt4 p=some ([],false)/\∀D,¬ zAE p D):=by
 have hi:=zAM (p:=p) (zoj p.Treaties.length) [] ([],false) (zxc _) ⟨fun q=>(by cases q),fun _=>⟨rfl,fun D hD=>by cases hD⟩⟩;rw[List.nil_append] at hi;rw[zAK h];generalize (zoj p.Treaties.length).foldl (zAG p) ([],false)=s at hi;have hall:∀D,zAE p D->D∈zoj p.Treaties.length:=fun D hD=>zwZ.2 hD.1.inc;obtain⟨M,b⟩:=s
 cases b with
 | true=>
  obtain⟨_,y2,y3⟩:=hi.yes rfl;exact .inl ⟨M,rfl,y2,fun D hD=>y3 D (hall D hD) hD⟩
 | false=>
  obtain⟨n1,n2⟩:=hi.no rfl;have n1:M=[]:=n1;subst n1;exact .inr ⟨rfl,fun D hD=>n2 D (hall D hD) hD⟩
theorem zAO{p:Pg}(h:VP p):(∃M,zt5 p=some (M,zAa p.Treaties M,0)/\zAF p M)\/(zt5 p=some ([],0,10)/\∀D,¬ zAE p D):=by
 have h5:=h.t5;unfold zt5;rw[zzf h,obs,if_pos rfl]
 rcases zAN h with ⟨M,q1,q2⟩ | ⟨q1,q2⟩
 ·have hl:=q2.good.1.len;refine .inl ⟨M,?_,q2⟩;rw[q1,obs]
  show(zts p M).bind _=_
  rw[zAe h q2.good.1.inT (by omega),obs]
 ·refine .inr ⟨?_,q2⟩;rw[q1,obs]; rfl
end
end Go.Proofs.Ytkcmdghjgoaggaa

namespace Go.Proofs.Ytkcmdghjgoaggaa
open _root_.Go.Proofs.Try
open Go.Abs
set_option maxRecDepth 100000
noncomputable section
def zAP(p:Pg):Prop:=p.Losses.length<=7/\p.Treaties.length<=8/\p.Reports.length<=8
theorem VP.thin{p:Pg}(h:VP p):zAP p:=by
 have:=h.l4; have:=h.t5; have:=h.r5;exact⟨by omega,by omega,by omega⟩
def zAQ(p:Pg):Prop:=zAP p/\(VP p->zxy p.Losses<=300)
theorem zAR{p:Pg}:Ev (zuk p) (zAQ p):=by
 unfold zuk zAQ zAP
 by_cases h1:p.Losses.length<=7
 ·rw[if_pos (by omega)]
  by_cases h2:p.Treaties.length<=8
  ·rw[if_pos (by omega)]
   by_cases h3:p.Reports.length<=8
   ·rw[if_pos (by omega),zx2 (by omega) (by omega) (by omega),obs]
    by_cases hf:zxz p=0
    ·have hv:=zxA.1 hf;rw[if_pos hf,zx1 hv,obs];exact Ev.dec ⟨fun q=>⟨⟨h1,h2,h3⟩,fun _=>q⟩,fun q=>q.2 hv⟩
    ·rw[if_neg hf];exact Ev.tt ⟨⟨h1,h2,h3⟩,fun q=>absurd (zxA.2 q) hf⟩
   ·rw[if_neg (by omega)]; exact Ev.ff fun q=>h3 q.1.2.2
  ·rw[if_neg (by omega)]; exact Ev.ff fun q=>h2 q.1.2.1
 ·rw[if_neg (by omega)]; exact Ev.ff fun q=>h1 q.1.1
theorem zAS{p:Pg}:Ev (zuq p) (VP p/\zxy p.Losses<=300):=by
 unfold zuq
 by_cases ht:zAQ p
 ·obtain⟨⟨a,b,c⟩,ht2⟩:=ht;rw[zAR.some_of ⟨⟨a,b,c⟩,ht2⟩,obs,if_pos rfl,zx2 (by omega) (by omega) (by omega),obs];exact Ev.dec (zxA.trans ⟨fun q=>⟨q,ht2 q⟩,fun q=>q.1⟩)
 ·rw[zAR.some_not ht,obs,if_neg (by decide)];exact Ev.ff fun q=>ht ⟨q.1.thin,fun _=>q.2⟩
theorem zAT{p:Pg}(h:zAP p):zuh p=some p:=by
 obtain⟨h1,h2,h3⟩:=h
 have k2:zue p p.Losses p.Treaties 1000000 p.Reserve [] 0=some p:=by
  refine(zrY (l:=p.Reports) (fun r=>r) (F:=fun d acc x=>zue p p.Losses p.Treaties d p.Reserve acc x) (fun acc=>some ({ Losses:=p.Losses,Reserve:=p.Reserve,Treaties:=p.Treaties,Reports:=acc }:Pg)) (fun d k acc a hk ha=>?_) (fun d acc=>?_) (d:=1000000) (by omega)).trans (by rw[List.map_id'])
  ·have hkl:=(List.getElem?_eq_some_iff.1 hk).1
   show zue p p.Losses p.Treaties (d+1) _ _ _=_
   rw[zue,if_pos (by omega),zrS hk,obs,obs]
   show(some a.Paid).bind _=_
   rw[obs,zqs (by omega),zqs (fI (by omega))]
  ·show zue p p.Losses p.Treaties (d+1) _ _ _=_
   rw[zue,if_neg (Int.lt_irrefl _)]
 have k1:zuf p p.Losses 1000000 p.Reserve [] [] 0=some p:=by
  refine(zrY (l:=p.Treaties) (fun r=>r) (F:=fun d acc x=>zuf p p.Losses d p.Reserve acc [] x) (fun acc=>zue p p.Losses acc 1000000 p.Reserve [] 0) (fun d k acc a hk ha=>?_) (fun d acc=>?_) (d:=1000000) (by omega)).trans (by rw[List.map_id']; exact k2)
  ·have hkl:=(List.getElem?_eq_some_iff.1 hk).1
   show zuf p p.Losses (d+1) _ _ _ _=_
   rw[zuf,if_pos (by omega),zrS hk,obs,zqs (by omega),zqs (fI (by omega))]
  ·show zuf p p.Losses (d+1) _ _ _ _=_
   rw[zuf,if_neg (Int.lt_irrefl _)]
 refine(zrY (l:=p.Losses) (fun r=>r) (F:=fun d acc x=>zug p d acc p.Reserve [] [] x) (fun acc=>zuf p acc 1000000 p.Reserve [] [] 0) (fun d k acc a hk ha=>?_) (fun d acc=>?_) (d:=1000000) (by omega)).trans (by rw[List.map_id']; exact k1)
 ·have hkl:=(List.getElem?_eq_some_iff.1 hk).1
  show zug p (d+1) _ _ _ _ _=_
  rw[zug,if_pos (by omega),zrS hk,obs]
  show(some a).bind _=_
  rw[obs,zqs (by omega),zqs (fI (by omega))]
 ·show zug p (d+1) _ _ _ _ _=_
  rw[zug,if_neg (Int.lt_irrefl _)]
theorem zAU{l:List Int}(hl:l.length<=1000):zuj l l=some true:=by
 unfold zuj;rw[if_pos rfl]
 have key:=zr1 (l:=l) (F:=zui l l) (ok:=fun _=>True) (bad:=some false) (fin:=some true) (fun d k a ha=>by
  have hk:=(List.getElem?_eq_some_iff.1 ha).1;refine⟨fun _=>?_,fun h=>absurd trivial h⟩
  rw[zui,if_pos (by omega),zrS ha,obs,obs,if_pos rfl,zqs (fI (by omega))]) (fun d=>by rw[zui,if_neg (Int.lt_irrefl _)]) (d:=l.length+1) (by omega)
 exact key.1 fun _ _=>trivial
def zAV(n:Int)(rs:List Rpt):Pg:={ Losses:=[{ Lo:=100,Hi:=120 },{ Lo:=300,Hi:=300 }],Reserve:=n,Treaties:=[{ Kind:=0,Part:=25,Above:=0,Most:=0,Times:=0,Price:=50,Of:=-1 },{ Kind:=1,Part:=0,Above:=50,Most:=100,Times:=0,Price:=30,Of:=-1 },{ Kind:=1,Part:=0,Above:=20,Most:=40,Times:=1,Price:=5,Of:=0 }],Reports:=rs }
def zAW:List Rpt:=[{ Treaty:=0,Paid:={ Lo:=103,Hi:=110 } },{ Treaty:=2,Paid:={ Lo:=45,Hi:=46 } }]
theorem zAX(rs:List Rpt):zum rs=some (zAV 200 rs):=rfl
theorem zAY:zun=some zAW:=rfl
theorem zAZ(n:Int):zuo n=some (zAV n []):=rfl
theorem zA0{a b hi:Int}(h1:0<=a)(h2:a<=b)(h3:b<=hi):RgV { Lo:=a,Hi:=b } hi:=⟨h1,h2,h3⟩
theorem zA1{n:Int}{rs:List Rpt}(hn:0<=n/\n<=10000)(hr:rs.length<=5)(hrs:∀r∈rs,(0<=r.Treaty/\r.Treaty<=2)/\RgV r.Paid 10000):VP (zAV n rs):=by
 refine { ls:=fun r hr=>?_,res:=hn,ts:=fun t ht=>?_,of':=fun i t ht=>?_,rs:=fun r hr=>?_,l4:=by show 2<=4; omega,t5:=by show 3<=5; omega,r5:=hr,many:=by show zxy [{ Lo:=100,Hi:=120 },{ Lo:=300,Hi:=300 }]<=1500; decide }
 ·rcases List.mem_cons.1 hr with rfl | hr
  ·exact zA0 (by omega) (by omega) (by omega)
  rcases List.mem_cons.1 hr with rfl | hr
  ·exact zA0 (by omega) (by omega) (by omega)
  ·cases hr
 ·rcases List.mem_cons.1 ht with rfl | ht
  ·exact⟨by unfold zgo; decide,by decide,by decide⟩
  rcases List.mem_cons.1 ht with rfl | ht
  ·exact⟨by unfold zgo; decide,by decide,by decide⟩
  rcases List.mem_cons.1 ht with rfl | ht
  ·exact⟨by unfold zgo; decide,by decide,by decide⟩
  ·cases ht
 ·match i,ht with
  | 0,ht=>cases ht; exact⟨by decide,by decide⟩
  | 1,ht=>cases ht; exact⟨by decide,by decide⟩
  | 2,ht=>cases ht; exact⟨by decide,by decide⟩
  | k+3,ht=>cases ht
 ·exact⟨(hrs r hr).1,(hrs r hr).2⟩
theorem vp3(n:Int)(hn:0<=n/\n<=10000):VP (zAV n []):=zA1 hn (by show 0<=5; omega) fun r hr=>by cases hr
theorem zA2:VP (zAV 200 zAW):=zA1 (by omega) (by show 2<=5; omega) fun r hr=>by
 rcases List.mem_cons.1 hr with rfl | hr
 ·exact⟨⟨by decide,by decide⟩,zA0 (by omega) (by omega) (by omega)⟩
 rcases List.mem_cons.1 hr with rfl | hr
 ·exact⟨⟨by decide,by decide⟩,zA0 (by omega) (by omega) (by omega)⟩
 ·cases hr
theorem zA3{p:Pg}(h:VP p){D:List Int}(hD:Inc p.Treaties.length 0 D):∃b,b < 2 ^ p.Treaties.length/\zw1 b=D:=zxj (by have:=h.t5; omega) hD
theorem zA4:zke (zAV 200 []) [1]:=⟨List.pairwise_singleton _ _,fun v hv=>by
 have:=List.mem_singleton.1 hv; subst this
 exact⟨⟨by decide,by decide⟩,by decide +kernel⟩⟩
theorem zA5:zAF (zAV 300 []) [0,1]:=by
 have hs:zke (zAV 300 []) [0,1]:=⟨by simp,fun v hv=>by
  rcases List.mem_cons.1 hv with rfl | hv
  ·exact⟨⟨by decide,by decide⟩,by decide +kernel⟩
  ·have:=List.mem_singleton.1 hv; subst this
   exact⟨⟨by decide,by decide⟩,by decide +kernel⟩⟩
 refine⟨⟨hs,by decide +kernel⟩,fun D hD=>?_⟩;obtain⟨b,hb,rfl⟩:=zA3 (vp3 300 (by omega)) hD.1.inc;have hb:b < 8:=hb
 have:b=0\/b=1\/b=2\/b=3\/b=4\/b=5\/b=6\/b=7:=by omega
 rcases this with rfl | rfl | rfl | rfl | rfl | rfl | rfl | rfl
 ·exact absurd hD.2 (by decide +kernel)
 ·exact absurd hD.2 (by decide +kernel)
 ·exact absurd hD.2 (by decide +kernel)
 ·have e:zw1 3=[0,1]:=by decide +kernel
  rw[e]; exact .inr ⟨rfl,.inl rfl⟩
 ·exact absurd (hD.1.2 2 (by decide +kernel)).2 (by decide +kernel)
 ·exact absurd (hD.1.2 2 (by decide +kernel)).2 (by decide +kernel)
 ·exact absurd (hD.1.2 2 (by decide +kernel)).2 (by decide +kernel)
 ·exact absurd (hD.1.2 2 (by decide +kernel)).2 (by decide +kernel)
def okT(L:List Int):Bool:=decide (103<=(zyl (zAV 200 zAW).Treaties L).pays 0/\(zyl (zAV 200 zAW).Treaties L).pays 0<=110) && decide (45<=(zyl (zAV 200 zAW).Treaties L).pays 2/\(zyl (zAV 200 zAW).Treaties L).pays 2<=46)
theorem zA6:(zAt (zAV 200 zAW)).all (fun L=>!okT L)=true:=by decide +kernel
theorem zA7:¬ zy3 (zAV 200 zAW) zAW:=by
 rintro⟨L,hL,hA⟩
 have h1:=hA _ (List.mem_cons_self ..);have h2:=hA _ (List.mem_cons_of_mem _ (List.mem_cons_self ..));have h3:=List.all_eq_true.1 zA6 L ((zAu zA2).2 hL)
 have h4:okT L=true:=by
  unfold okT;rw[Bool.and_eq_true_iff];exact⟨decide_eq_true h1,decide_eq_true h2⟩
 rw[h4] at h3; cases h3
theorem fp0:FP (zAV 200 zAW) 0:=⟨[112,300],⟨⟨by decide,by decide⟩,⟨by decide,by decide⟩,trivial⟩,fun r hr=>by
 have hr:r∈[({ Treaty:=0,Paid:={ Lo:=103,Hi:=110 } }:Rpt)]:=hr;have:=List.mem_singleton.1 hr; subst this
 exact(by decide +kernel:(103:Int)<=(zyl (zAV 200 zAW).Treaties [112,300]).pays 0/\(zyl (zAV 200 zAW).Treaties [112,300]).pays 0<=110)⟩
theorem zA8:zua (zAV 200 zAW)=some (1,0):=by
 rcases zz1 zA2 with ⟨j,a1,a2,a3,a4⟩ | ⟨a1,a2⟩
 ·have:j=1:=zz2 (p:=zAV 200 zAW) a2 a3 (j':=1) zA7 fun i hi=>by
   rw[show i=0 by omega]; exact fp0
  subst this; exact a4
 ·exact absurd (a1 1 (by show 1 < 2; omega)) zA7
theorem zA9:zuc (zAV 200 zAW)=some ([0],0):=by
 obtain⟨M,q1,q2⟩:=zzZ zA2
 have hm:zzz 2 (PL (zAV 200 zAW)) [0]:=by
  refine⟨⟨List.pairwise_singleton _ _,fun v hv=>by have:=List.mem_singleton.1 hv; subst this; exact⟨by decide,by decide⟩⟩,⟨[100,300],⟨⟨by decide,by decide⟩,⟨by decide,by decide⟩,trivial⟩,fun j hj hs=>?_⟩,fun D hD hP=>?_⟩
  ·have hj:j < 2:=hj
   have:j=0\/j=1:=by omega
   rcases this with rfl | rfl
   ·exact absurd hs (by decide +kernel)
   ·refine(zzE (p:=zAV 200 zAW) (j:=1) rfl).2 ?_;exact(by decide +kernel:(45:Int)<=(zyl (zAV 200 zAW).Treaties [100,300]).pays 2/\(zyl (zAV 200 zAW).Treaties [100,300]).pays 2<=46)
  ·obtain⟨b,hb,rfl⟩:=zxj (n:=2) (by omega) hD;have hb:b < 4:=hb
   have:b=0\/b=1\/b=2\/b=3:=by omega
   rcases this with rfl | rfl | rfl | rfl
   ·refine absurd (zzJ.2 ((PL.congr fun j hj=>?_).1 hP)) zA7;have hj:j < 2:=hj
    have:j=0\/j=1:=by omega
    rcases this with rfl | rfl <;> decide +kernel
   ·exact .inl (by decide +kernel)
   ·exact .inr (by decide +kernel)
   ·exact .inr (by decide +kernel)
 rw[q2.uniq hm] at q1;exact q1
theorem zBa:zy3 (zAV 200 []) (zAV 200 []).Reports:=⟨[100,300],⟨⟨by decide,by decide⟩,⟨by decide,by decide⟩,trivial⟩,fun r hr=>by cases hr⟩
theorem zBb:ztN (zAV 200 []) [100,300]=some ([100,100,45],200,0):=by
 rw[zzi (vp3 200 (by omega)) (L:=[100,300]) ⟨⟨by decide,by decide⟩,⟨by decide,by decide⟩,trivial⟩]
 have e1:lN (zAV 200 []).Treaties.length (zyl (zAV 200 []).Treaties [100,300]).pays=[100,100,45]:=by decide +kernel
 have e2:(zyl (zAV 200 []).Treaties [100,300]).soc=200:=by decide +kernel
 rw[e1,e2]
theorem zBc{r:Rg}{a b:Int}(h1:r.Lo=a)(h2:r.Hi=b):r={ Lo:=a,Hi:=b }:=by cases r; subst h1; subst h2; rfl
theorem zBd:ztX (zAV 200 [])=some (bsN 3 (bdF (zAV 200 []) (trL (zAV 200 []))),0):=by
 have h:=vp3 200 (by omega);obtain⟨bs,q1,q2⟩:=zzm h zBa;rw[q1,q2.uniq (zzO h zBa).1]; rfl
theorem bd0:bdF (zAV 200 []) (trL (zAV 200 [])) 0={ Pays:={ Lo:=100,Hi:=105 },Keeps:={ Lo:=55,Hi:=55 } }:=by
 have e1:=zBc (r:=(bdF (zAV 200 []) (trL (zAV 200 [])) 0).Pays) (a:=100) (b:=105) (by decide +kernel) (by decide +kernel);have e2:=zBc (r:=(bdF (zAV 200 []) (trL (zAV 200 [])) 0).Keeps) (a:=55) (b:=55) (by decide +kernel) (by decide +kernel);generalize bdF (zAV 200 []) (trL (zAV 200 [])) 0=b at e1 e2
 cases b; simp only at e1 e2; rw[e1,e2]
theorem bd2:bdF (zAV 200 []) (trL (zAV 200 [])) 2={ Pays:={ Lo:=45,Hi:=50 },Keeps:={ Lo:=45,Hi:=50 } }:=by
 have e1:=zBc (r:=(bdF (zAV 200 []) (trL (zAV 200 [])) 2).Pays) (a:=45) (b:=50) (by decide +kernel) (by decide +kernel);have e2:=zBc (r:=(bdF (zAV 200 []) (trL (zAV 200 [])) 2).Keeps) (a:=45) (b:=50) (by decide +kernel) (by decide +kernel);generalize bdF (zAV 200 []) (trL (zAV 200 [])) 2=b at e1 e2
 cases b; simp only at e1 e2; rw[e1,e2]
theorem zBe:ztY (zAV 200 [])=some ({ Lo:=200,Hi:=215 },0):=by
 have h:=vp3 200 (by omega);obtain⟨r,q1,q2⟩:=zzo h zBa;rw[q1,q2.uniq (zzO h zBa).2,zBc (r:=wdL (fun L=>(zyl (zAV 200 []).Treaties L).soc) (trL (zAV 200 []))) (a:=200) (b:=215) (by decide +kernel) (by decide +kernel)]
theorem zBf:zt1 (zAV 200 []) [1]=some ({ Lo:=300,Hi:=320 },0):=by
 rw[zAA (vp3 200 (by omega)) (by unfold zr2; decide) zA4,zBc (r:=zAv (zAV 200 []) (inD [1])) (a:=300) (b:=320) (by decide +kernel) (by decide +kernel)]
theorem zBg:zt5 (zAV 300 [])=some ([0,1],80,0):=by
 rcases zAO (vp3 300 (by omega)) with ⟨M,q1,q2⟩ | ⟨_,q2⟩
 ·rw[q1,q2.uniq zA5]; rfl
 ·exact absurd zA5.good (q2 _)
theorem zBh:zt6 (zAV 300 []) [0,1] 80=some true:=
 (zAC (vp3 300 (by omega)) (by unfold zr2; decide)).some_of ⟨zA5.good.1,by decide +kernel,zA5.good.2⟩
theorem f64{n:Int}(h:-1000000<=n/\n<=1000000):zl7 .i64 n:=fI (by omega)
theorem zBi:zup=some true:=by
 have i0:idx (bsN 3 (bdF (zAV 200 []) (trL (zAV 200 [])))) 0=some { Pays:={ Lo:=100,Hi:=105 },Keeps:={ Lo:=55,Hi:=55 } }:=by
  have:=zrS (zzN (n:=3) (f:=bdF (zAV 200 []) (trL (zAV 200 []))) (k:=0) (by omega));rw[bd0] at this; exact this
 have i2:idx (bsN 3 (bdF (zAV 200 []) (trL (zAV 200 [])))) 2=some { Pays:={ Lo:=45,Hi:=50 },Keeps:={ Lo:=45,Hi:=50 } }:=by
  have:=zrS (zzN (n:=3) (f:=bdF (zAV 200 []) (trL (zAV 200 []))) (k:=2) (by omega));rw[bd2] at this; exact this
 have hl:((bsN 3 (bdF (zAV 200 []) (trL (zAV 200 [])))).length:Int)=3:=by rw[zzM]; rfl
 have s1:zuj [100,100,45] [100,100,45]=some true:=zAU (by decide);have s2:zuj [0,1] [0,1]=some true:=zAU (by decide);have s3:zuj [0] [0]=some true:=zAU (by decide);have f:∀n:Int,-1000000<=n/\n<=1000000->zl7 .i64 n:=fun n h=>f64 h;unfold zup
 simp only[zAX,zAY,zAZ,obs,zBb,zBd,zBe,zBf,zBg,zA8,zA9,s1,s2,s3,if_true,hl,i0,i2,zul]
 rw[zqs (f 100 (by omega)),zqs (f 100 (by omega)),zqs (f 105 (by omega)),zqs (f 105 (by omega)),zqs (f 55 (by omega)),zqs (f 55 (by omega)),zqs (f 55 (by omega)),zqs (f 55 (by omega)),if_pos (by decide),zqs (f 45 (by omega)),zqs (f 45 (by omega)),zqs (f 50 (by omega)),zqs (f 50 (by omega)),zqs (f 45 (by omega)),zqs (f 45 (by omega)),zqs (f 50 (by omega)),zqs (f 50 (by omega)),if_pos (by decide),zqs (f 200 (by omega)),zqs (f 200 (by omega)),zqs (f 215 (by omega)),zqs (f 215 (by omega)),if_pos (by decide),zqs (f 300 (by omega)),zqs (f 300 (by omega)),zqs (f 320 (by omega)),zqs (f 320 (by omega)),if_pos (by decide)]
 simp only[zBh,obs,if_true]
theorem aw:((zup).bind fun r=>some r)=some true:=by rw[zBi]; rfl
theorem zBj{a b:Rg}:Ev (zur a b) (b.Lo<=a.Lo/\a.Hi<=b.Hi):=Ev.ite fun _=>Ev.dec Iff.rfl
theorem zBk{bs bs':List Bd}(hl:bs'.length=bs.length)(h9:bs'.length<=1000)(h:∀(k:Nat) (a b:Bd),bs'[k]? = some a->bs[k]? = some b->(b.Pays.Lo<=a.Pays.Lo/\a.Pays.Hi<=b.Pays.Hi)/\b.Keeps.Lo<=a.Keeps.Lo/\a.Keeps.Hi<=b.Keeps.Hi):zut bs' bs=some true:=by
 unfold zut;rw[if_pos (by omega)]
 have key:=zr1 (l:=bs') (F:=zus bs' bs) (ok:=fun _=>True) (bad:=some false) (fin:=some true) (fun d k a ha=>by
  have hk:=(List.getElem?_eq_some_iff.1 ha).1;refine⟨fun _=>?_,fun h=>absurd trivial h⟩;have hb:=List.getElem?_eq_getElem (show k < bs.length by omega);obtain⟨h1,h2⟩:=h k a _ ha hb;generalize bs[k]=b at hb h1 h2
  rw[zus,if_pos (by omega),zrS ha,obs,zrS hb,obs,zBj.some_of h1,obs,if_pos rfl,obs,obs,zBj.some_of h2,obs,if_pos rfl,zqs (fI (by omega))]) (fun d=>by rw[zus,if_neg (Int.lt_irrefl _)]) (d:=bs'.length+1) (by omega)
 exact key.1 fun _ _=>trivial
theorem IsB.sub{S S':List Int->Prop}{g:List Int->Int}{r r':Rg}(h:IsB S g r)(h':IsB S' g r')(hS:∀L,S' L->S L):r.Lo<=r'.Lo/\r'.Hi<=r.Hi:=by
 obtain⟨⟨a,a1,a2⟩,⟨b,b1,b2⟩,_⟩:=h';have q1:=h.2.2 a (hS a a1);have q2:=h.2.2 b (hS b b1)
 omega
theorem zBl{p x:Pg}(ht:x.Treaties=p.Treaties)(h5:p.Treaties.length<=5)(hS:∀L,TrS x x.Reports L->TrS p p.Reports L){bs bs':List Bd}(h:zzl p bs)(h':zzl x bs'):zut bs' bs=some true:=by
 have l1:=h.len;have l2:=h'.len;rw[ht] at l2;refine zBk (by omega) (by omega) fun k a b ha hb=>?_;obtain⟨a1,a2⟩:=h'.at' k a ha;obtain⟨b1,b2⟩:=h.at' k b hb;rw[ht] at a1 a2;exact⟨b1.sub a1 hS,b2.sub a2 hS⟩
def zBm(p:Pg)(r:Rpt):Pg:={ Losses:=p.Losses,Reserve:=p.Reserve,Treaties:=p.Treaties,Reports:=p.Reports++[r] }
theorem zBn{p:Pg}{r:Rpt}{L:List Int}(h:TrS (zBm p r) (zBm p r).Reports L):TrS p p.Reports L:=⟨h.1,fun q hq=>h.2 q (List.mem_append_left _ hq)⟩
theorem zBo{p:Pg}{r:Rpt}{L:List Int}{j:Nat}(hj:j < p.Reports.length):agf (zBm p r) L j=true↔agf p L j=true:=by
 have hg:=List.getElem?_eq_getElem hj
 have hg':(zBm p r).Reports[j]? = some p.Reports[j]:=by
  show(p.Reports++[r])[j]? = _
  rw[List.getElem?_append_left hj,hg]
 rw[zzE hg,zzE hg']; rfl
theorem zBp{p:Pg}{r:Rpt}:(zBm p r).Reports.length=p.Reports.length+1:=by
 show(p.Reports++[r]).length=_
 rw[List.length_append]; rfl
theorem zBq{p:Pg}{r:Rpt}{M M':List Int}(h:zzz p.Reports.length (PL p) M)(h':zzz (zBm p r).Reports.length (PL (zBm p r)) M'):M.length<=M'.length/\M'.length<=M.length+1:=by
 have hi:=h'.inc;rw[zBp] at hi
 constructor
 ·have hI:Inc p.Reports.length 0 (M'.filter fun v=>decide (v < (p.Reports.length:Int))):=⟨hi.1.filter _,fun v hv=>by
   obtain⟨h1,h2⟩:=List.mem_filter.1 hv;have:=hi.2 v h1;have:=of_decide_eq_true h2
   omega⟩
  have hP:PL p (inD (M'.filter fun v=>decide (v < (p.Reports.length:Int)))):=by
   obtain⟨L,h1,h2⟩:=h'.ok;refine⟨L,h1,fun j hj hs=>(zBo hj).1 (h2 j (by rw[zBp]; omega) ?_)⟩;have hs2:¬ (j:Int)∈M'.filter fun v=>decide (v < (p.Reports.length:Int)):=of_decide_eq_false hs;exact decide_eq_false fun hm=>hs2 (List.mem_filter.2 ⟨hm,decide_eq_true (by omega)⟩)
  have hle:=List.length_filter_le (fun v=>decide (v < (p.Reports.length:Int))) M'
  rcases h.min _ hI hP with h1 | h1
  ·rw[<- h1]; exact hle
  ·rcases zw7.1 h1 with h2 | ⟨h2,_⟩ <;> omega
 ·have hm:=h.inc
  have hI:Inc (zBm p r).Reports.length 0 (M++[(p.Reports.length:Int)]):=by
   refine⟨List.pairwise_append.2 ⟨hm.1,List.pairwise_singleton _ _,fun a ha c hc=>?_⟩,fun v hv=>?_⟩
   ·have:=hm.2 a ha;have:=List.mem_singleton.1 hc
    omega
   ·rw[zBp]
    rcases List.mem_append.1 hv with hv | hv
    ·have:=hm.2 v hv; omega
    ·have:=List.mem_singleton.1 hv; omega
  have hP:PL (zBm p r) (inD (M++[(p.Reports.length:Int)])):=by
   obtain⟨L,h1,h2⟩:=h.ok;refine⟨L,h1,fun j hj hs=>?_⟩;rw[zBp] at hj;have hs2:¬ (j:Int)∈M++[(p.Reports.length:Int)]:=of_decide_eq_false hs
   have hjn:j < p.Reports.length:=by
    rcases Nat.lt_or_ge j p.Reports.length with h3 | h3
    ·exact h3
    ·exact absurd (List.mem_append_right _ (List.mem_singleton.2 (by omega))) hs2
   exact(zBo hjn).2 (h2 j hjn (decide_eq_false fun hm=>hs2 (List.mem_append_left _ hm)))
  have hl:(M++[(p.Reports.length:Int)]).length=M.length+1:=by rw[List.length_append]; rfl
  rcases h'.min _ hI hP with h1 | h1
  ·rw[<- h1,hl]; exact Nat.le_refl _
  ·rcases zw7.1 h1 with h2 | ⟨h2,_⟩ <;> omega
theorem zBr{p:Pg}{more:Rpt}(_:zsr p)(hbig:p.Reports.length * 24<=140737488351232)(_:zsp more):zuu p more=some true:=by
 unfold zuu
 simp only[List.nil_append,List.length_nil,List.length_singleton,Nat.zero_add]
 rw[zqs (by omega),zqs (by omega)]
 refine zAS.pick (fun hv=>?_) fun _=>by rw[if_neg (by decide),aw]
 rw[if_pos rfl]
 refine(zAS (p:=zBm p more)).pick (fun hv2=>?_) fun _=>by rw[if_neg (by decide),aw]
 have h:=hv.1;have hx:VP (zBm p more):=hv2.1;obtain⟨M,q1,q2⟩:=zzZ h;obtain⟨M',q3,q4⟩:=zzZ hx;have hl:=zBq q2 q4;have hi:=zwY q2.inc;have h5:=h.r5;have eX:zuh { Losses:=p.Losses,Reserve:=p.Reserve,Treaties:=p.Treaties,Reports:=p.Reports++[more] }=some (zBm p more):=zAT hx.thin;rw[if_pos rfl,zAT h.thin,obs,q1,obs,eX,obs,q3,obs,obs]
 by_cases hc:zy3 p p.Reports
 ·obtain⟨bs,b1,b2⟩:=zzm h hc
  by_cases hc2:zy3 (zBm p more) (zBm p more).Reports
  ·obtain⟨bs',b3,b4⟩:=zzm hx hc2;have hn:=zBl (p:=p) (x:=zBm p more) rfl h.t5 (fun L hL=>zBn hL) b2 b4;rw[b1,obs,obs,b3,obs]
   show(if (0:Int)=0 then (if (0:Int)=0 then (if (M'.length:Int) < (M.length:Int) then _ else gd (zl7 .i64 ((M.length:Int)+1)) (if (M.length:Int)+1 < (M'.length:Int) then _ else (if (0:Int)=0 then (if (0:Int)=0 then ((zut bs' bs).bind fun r=>_) else _) else _))) else _) else _)=_
   rw[if_pos rfl,if_pos rfl,if_neg (by omega),zqs (fI (by omega)),if_neg (by omega),if_pos rfl,if_pos rfl,hn,obs,if_pos rfl,aw]
  ·rw[b1,obs,obs,zzn hx hc2,obs]
   show(if (0:Int)=0 then (if (0:Int)=0 then (if (M'.length:Int) < (M.length:Int) then _ else gd (zl7 .i64 ((M.length:Int)+1)) (if (M.length:Int)+1 < (M'.length:Int) then _ else (if (0:Int)=0 then (if (11:Int)=0 then _ else (if (11:Int)=11 then _ else _)) else _))) else _) else _)=_
   rw[if_pos rfl,if_pos rfl,if_neg (by omega),zqs (fI (by omega)),if_neg (by omega),if_pos rfl,if_neg (by decide),if_pos rfl,aw]
 ·have hc2:¬ zy3 (zBm p more) (zBm p more).Reports:=fun⟨L,hL⟩=>hc ⟨L,zBn (p:=p) (r:=more) hL⟩;rw[zzn h hc,obs,obs,zzn hx hc2,obs]
  show(if (0:Int)=0 then (if (0:Int)=0 then (if (M'.length:Int) < (M.length:Int) then _ else gd (zl7 .i64 ((M.length:Int)+1)) (if (M.length:Int)+1 < (M'.length:Int) then _ else (if (11:Int)=0 then _ else (if (11:Int)=11 then (if (11:Int)=0 then _ else (if (11:Int)=11 then _ else _)) else _)))) else _) else _)=_
  rw[if_pos rfl,if_pos rfl,if_neg (by omega),zqs (fI (by omega)),if_neg (by omega),if_neg (by decide),if_pos rfl,if_neg (by decide),if_pos rfl,aw]
end
end Go.Proofs.Ytkcmdghjgoaggaa

namespace Go.Proofs.Ytkcmdghjgoaggaa
open _root_.Go.Proofs.Try
open Go.ChangeShapes Go.WideShapes Go.ChangeAt Go.RowKit Go.Abs
set_option maxRecDepth 100000
theorem op3:zsb prog 3 Int (zl7 .i64):=zsc (by kernel_rfl)
theorem zBs:zsb prog 68 Rg zsl:=zsj (fs:=[(3,0),(3,1)]) (by kernel_rfl) (by kernel_rfl) (zsi (α:=Int) (ok:=zl7 .i64) (k:=1) op3 (by kernel_rfl) rfl (zsi (α:=Int) (ok:=zl7 .i64) (k:=1) op3 (by kernel_rfl) rfl zsh)) (by kernel_rfl) fun m vs h=>by
 obtain⟨a0,c0,r0,m0,h0,p0,k0,s0,⟨a1,c1,r1,m1,h1,p1,k1,s1,rfl⟩⟩:=h;have p0:c0=[.int .i64 a0]:=p0; subst p0;have p1:c1=[.int .i64 a1]:=p1; subst p1;subst h1 h0;exact⟨⟨a0,a1⟩,rfl,⟨k0,k1⟩⟩
theorem zBt:zsb prog 55 (List Rg) (fun l=>l.length<=maxLen/\∀a0∈l,zsl a0):=zse (by kernel_rfl) (by kernel_rfl) zBs
theorem zBu:zsb prog 62 Ty zsn:=zsj (fs:=[(3,0),(3,1),(3,2),(3,3),(3,4),(3,5),(3,6)]) (by kernel_rfl) (by kernel_rfl) (zsi (α:=Int) (ok:=zl7 .i64) (k:=1) op3 (by kernel_rfl) rfl (zsi (α:=Int) (ok:=zl7 .i64) (k:=1) op3 (by kernel_rfl) rfl (zsi (α:=Int) (ok:=zl7 .i64) (k:=1) op3 (by kernel_rfl) rfl (zsi (α:=Int) (ok:=zl7 .i64) (k:=1) op3 (by kernel_rfl) rfl (zsi (α:=Int) (ok:=zl7 .i64) (k:=1) op3 (by kernel_rfl) rfl (zsi (α:=Int) (ok:=zl7 .i64) (k:=1) op3 (by kernel_rfl) rfl (zsi (α:=Int) (ok:=zl7 .i64) (k:=1) op3 (by kernel_rfl) rfl zsh))))))) (by kernel_rfl) fun m vs h=>by
 obtain⟨a0,c0,r0,m0,h0,p0,k0,s0,⟨a1,c1,r1,m1,h1,p1,k1,s1,⟨a2,c2,r2,m2,h2,p2,k2,s2,⟨a3,c3,r3,m3,h3,p3,k3,s3,⟨a4,c4,r4,m4,h4,p4,k4,s4,⟨a5,c5,r5,m5,h5,p5,k5,s5,⟨a6,c6,r6,m6,h6,p6,k6,s6,rfl⟩⟩⟩⟩⟩⟩⟩:=h;have p0:c0=[.int .i64 a0]:=p0; subst p0;have p1:c1=[.int .i64 a1]:=p1; subst p1;have p2:c2=[.int .i64 a2]:=p2; subst p2;have p3:c3=[.int .i64 a3]:=p3; subst p3;have p4:c4=[.int .i64 a4]:=p4; subst p4;have p5:c5=[.int .i64 a5]:=p5; subst p5;have p6:c6=[.int .i64 a6]:=p6; subst p6;subst h6 h5 h4 h3 h2 h1 h0;exact⟨⟨a0,a1,a2,a3,a4,a5,a6⟩,rfl,⟨k0,k1,k2,k3,k4,k5,k6⟩⟩
theorem zBv:zsb prog 56 (List Ty) (fun l=>l.length<=maxLen/\∀a0∈l,zsn a0):=zse (by kernel_rfl) (by kernel_rfl) zBu
theorem zBw:zsb prog 70 Rpt zsp:=zsj (fs:=[(3,0),(68,1)]) (by kernel_rfl) (by kernel_rfl) (zsi (α:=Int) (ok:=zl7 .i64) (k:=1) op3 (by kernel_rfl) rfl (zsi (α:=Rg) (ok:=zsl) (k:=2) zBs (by kernel_rfl) rfl zsh)) (by kernel_rfl) fun m vs h=>by
 obtain⟨a0,c0,r0,m0,h0,p0,k0,s0,⟨a1,c1,r1,m1,h1,p1,k1,s1,rfl⟩⟩:=h;have p0:c0=[.int .i64 a0]:=p0; subst p0;have p1:c1=[.int .i64 a1.Lo,.int .i64 a1.Hi]:=p1; subst p1;subst h1 h0;exact⟨⟨a0,a1⟩,rfl,⟨k0,k1⟩⟩
theorem zBx:zsb prog 57 (List Rpt) (fun l=>l.length<=maxLen/\∀a0∈l,zsp a0):=zse (by kernel_rfl) (by kernel_rfl) zBw
theorem zBy:zsb prog 59 Pg zsr:=zsj (fs:=[(55,0),(3,1),(56,2),(57,3)]) (by kernel_rfl) (by kernel_rfl) (zsi (α:=List Rg) (ok:=(fun l=>l.length<=maxLen/\∀a0∈l,zsl a0)) (k:=1) zBt (by kernel_rfl) rfl (zsi (α:=Int) (ok:=zl7 .i64) (k:=1) op3 (by kernel_rfl) rfl (zsi (α:=List Ty) (ok:=(fun l=>l.length<=maxLen/\∀a0∈l,zsn a0)) (k:=1) zBv (by kernel_rfl) rfl (zsi (α:=List Rpt) (ok:=(fun l=>l.length<=maxLen/\∀a0∈l,zsp a0)) (k:=1) zBx (by kernel_rfl) rfl zsh)))) (by kernel_rfl) fun m vs h=>by
 obtain⟨a0,c0,r0,m0,h0,p0,k0,s0,⟨a1,c1,r1,m1,h1,p1,k1,s1,⟨a2,c2,r2,m2,h2,p2,k2,s2,⟨a3,c3,r3,m3,h3,p3,k3,s3,rfl⟩⟩⟩⟩:=h;obtain⟨d0,rfl,p0⟩:=p0;have p1:c1=[.int .i64 a1]:=p1; subst p1;obtain⟨d2,rfl,p2⟩:=p2;obtain⟨d3,rfl,p3⟩:=p3;subst h3 h2 h1 h0;exact⟨⟨a0,a1,a2,a3⟩,⟨_,_,_,rfl,p0,p2,p3⟩,⟨k0,k1,k2,k3⟩⟩
theorem zBz{H:Type}{enc:TypeId × Value->H}{W:World}{fu:Nat}{cs:List Value}{d0:DataW H}{p0:List MemPlace}(hf:DataW.trod enc Try.prog W 0 (fun _=>true) true fu 59 cs=some (d0,p0)){ts:List TypeId}{ds:List (DataW H)}{j:Nat}
  (h0:ts[j]? = some 59) (h1:ds[j]? = some d0) (hsz:(DataW.weightsEach Try.prog ts ds).all (·<=reachBytes)=true) {a:Addr} {n cap:Nat} (hv:cs[3]? = some (.slice (some a) n cap)):n * 24<=140737488351232:=by
 obtain⟨ys,n',rfl,hx,hl,hyl,hat⟩:=DataW.trod_struct Try.underlying59 hf;have hx':d0=.agg (ys.map (·.1)):=congrArg Prod.fst hx;have h4:DataW.trod enc Try.prog W 0 (fun _=>true) true n' 57 ((cs.drop 3).take (Try.prog.cellsOf 57))=ys[3]?:=hat 3 _ rfl;have hlt:3 < cs.length:=(List.getElem?_eq_some_iff.1 hv).1;have hg:cs[3]=.slice (some a) n cap:=(List.getElem?_eq_some_iff.1 hv).2;rw[show Try.prog.cellsOf 57=1 from by kernel_rfl,List.drop_eq_getElem_cons hlt,hg] at h4
 have hy2:3 < ys.length:=by rw[hyl]; decide
 rw[List.getElem?_eq_getElem hy2] at h4
 rcases DataW.trod_slice Try.underlying57 h4 with ⟨hh,_⟩ | ⟨a',len,cap',elems,rest,m',_,hh,hxx,_,_,_,hel,_⟩
 ·cases hh
 ·have hln:n=len:=by injection hh with q _; injection q
  have hy:(ys.map (·.1))[3]? = some (DataW.slice (elems.map (·.1)) (rest.map (·.1))):=by
   rw[List.getElem?_map,List.getElem?_eq_getElem hy2,hxx]; rfl
  have hw:((elems.map (·.1)).length+(rest.map (·.1)).length) * Try.prog.bytesOf 70∈d0.weights Try.prog 59:=by
   rw[hx']
   have h6:(DataW.agg (ys.map (·.1))).weights Try.prog 59=DataW.weightsEach Try.prog [55,3,56,57] (ys.map (·.1)):=by
    simp[DataW.weights,Try.underlying59]
   rw[h6];exact DataW.weights_mem_each (j:=3) (t:=57) rfl hy _ (by simp[DataW.weights,Try.underlying57])
  have h7:=List.all_eq_true.1 hsz _ (DataW.weights_mem_each h0 h1 _ hw);rw[show Try.prog.bytesOf 70=24 from by kernel_rfl] at h7
  simp only[List.length_map,reachBytes,decide_eq_true_eq] at h7
  omega
theorem zBA{β:Type}[Rp β]{e:Env}{c:C}{v:Value}{f:M}{l:List β}{B K:Nat}(hr:CR e c v)(hs:Sl f c l)(hB:∀a n cap,v=.slice (some a) n cap->n * B<=K):l.length * B<=K:=by
 have hl:=hs.slLen;have hi:=hs.isSl
 have h0:slLen c=0->l.length * B<=K:=fun h=>by rw[<- hl,h,Nat.zero_mul]; exact Nat.zero_le _
 cases c with
 | sl0=>exact h0 rfl
 | sl b o n s c=>
  have hn:n=l.length:=hl;rw[<- hn]
  cases c with
  | some c=>obtain⟨cb,sp,_,hv,_⟩:=hr; exact hB _ _ _ hv
  | none=>obtain⟨cb,off,cap,_,hv,_⟩:=hr; exact hB _ _ _ hv
 | _=>exact hi.elim
theorem zBB:laidOutB prog=true:=by kernel_rfl
theorem zBC:ownKnob prog.godebug=none:=by kernel_rfl
theorem zBD(os:Os)(started:os.Started)(H:Type)(enc:TypeId × Value->H) :
    ReturnsInHanded {} Try.checked os 5 .any (Rows.treatyMoreSpec.pre6 enc Try.prog Try.f5 Rows.treatyMoreRow.domain false) (Rows.treatyMoreSpec.post enc Try.prog Try.f5 false true false false):=by
  refine returnsInHanded_of_change_sized (C:=Try.checked) zBC started (by kernel_rfl) Try.func5
    (ChangeSpec.witness6 (enc:=enc) (C:=Try.checked) false ⟨#[],#[.agg #[.slice none 0 0,.int .i64 0,.slice none 0 0,.slice none 0 0],.agg #[.int .i64 0,.int .i64 0,.int .i64 0]],[]⟩ 8 (by kernel_rfl) (by kernel_rfl) (by kernel_rfl) (by kernel_rfl)) ?_
  intro W base args ds gs before hval0 hW hcnd hsz0 _;have hval:∀(j:Nat) t v,Try.f5.params[j]? = some t->args[j]? = some v->Value.okWide Try.prog W .any base t v:=hval0;have hW':=hW;obtain⟨p,q,hA0,hV,rfl,hfz,hnd⟩:=hW;have hA:DataW.TrodAll enc Try.prog W 0 (fun _=>true) true Try.f5.params.toList args.toList ds p:=hA0;rw[Try.params5] at hA hval;obtain⟨v0,v1,d0,d1,p0,p1,rfl,rfl,rfl,h0,h1⟩:=trodAll_two hA;obtain⟨rfl,rfl⟩:=trodVars_none hV;have hsz:(DataW.weightsEach Try.prog (Try.f5.params.toList++[]) ([d0,d1]++[])).all (·<=reachBytes)=true:=hsz0;rw[Try.params5] at hsz
  have hlt:∀x∈p0++p1,x.block < W.heap.size:=fun x hx=>by simpa using hW'.lt x (by simpa using hx)
  obtain⟨fu0,hf0⟩:=id h0;obtain⟨fu1,hf1⟩:=id h1
  clear hA0 hval0
  obtain⟨e0,m0,w0,a_0,le0,sv0,lay0,cr0,zvN,ok0⟩:=zBy H enc W true _ _ _ hf0 _ _ (Lay.nil W);obtain⟨e1,m1,w1,a_1,le1,sv1,lay1,cr1,rep1,ok1⟩:=zBw H enc W true _ _ _ hf1 e0 m0 lay0;obtain⟨c0_0,c0_2,c0_3,rfl,g0_0,g0_2,g0_3⟩:=zvN
  obtain⟨cs0,hv0,cl0⟩:∃cs,v0=.agg cs/\v0.cells.toList=cs.toList:=by
    have hl:=cr0.length
    cases v0 with
    | agg cs=>exact⟨cs,rfl,rfl⟩
    | _=>exact absurd hl (by simp[Value.cells])
  subst hv0;obtain⟨vz,hvz,hcr⟩:=cr0.get (i:=3) (x:=c0_3) rfl;have hbig:=zBA hcr g0_3 fun a n cap hq=>zBz (j:=0) hf0 rfl rfl hsz (by rw[<- hq]; exact hvz);have rep1:w1=[.int .i64 a_1.Treaty,.int .i64 a_1.Paid.Lo,.int .i64 a_1.Paid.Hi]:=rep1;subst rep1
  obtain⟨cs1,hv1,cl1⟩:∃cs,v1=.agg cs/\v1.cells.toList=cs.toList:=by
    have hl:=cr1.length
    cases v1 with
    | agg cs=>exact⟨cs,rfl,rfl⟩
    | _=>exact absurd hl (by simp[Value.cells])
  subst hv1;have hargs:zeq (VR e1) [.agg 4 [c0_0,.int .i64 a_0.Reserve,c0_2,c0_3],.agg 3 [.int .i64 a_1.Treaty,.int .i64 a_1.Paid.Lo,.int .i64 a_1.Paid.Hi]] [.agg cs0,.agg cs1]:=.cons ⟨cs0,rfl,(cr0.mono fun _ _=>CR.mono le1),rfl⟩ (.cons ⟨cs1,rfl,cr1,rfl⟩ .nil);refine(callsIn_wide.1 (zqC fits htab (zwW (p:=a_0) (more:=a_1) lay1.pre (g0_0.subv sv1) (g0_2.subv sv1) (g0_3.subv sv1) (zBr ok0 hbig ok1) (Q:=fun v _=>v=.c (.bool true)) fun _ _=>rfl) lay1.hr (args':=#[.agg cs0,.agg cs1]) hargs 0)).mono fun en W' hp=>?_;obtain⟨v,v',e',m',rfl,hst,hvr,rfl⟩:=hp;have hv':v'=.bool true:=hvr;subst hv';have hbelow:=lay1.below hst
  refine⟨_,rfl,[d0,d1],[],p0++p1,[],p0++p1,[],by simpa using hW',trodAll_mk1 (shut_bool Try.underlying4 _),
    trodAll_mk2 (Below.trod zBB (by kernel_rfl) (of_decide_eq_true (by kernel_rfl)) h0 hbelow fun x hx=>hlt x (by simp[hx])) (Below.trod zBB (by kernel_rfl) (of_decide_eq_true (by kernel_rfl)) h1 hbelow fun x hx=>hlt x (by simp[hx])),rfl,lay1.kept hst _,fun hc=>by cases hc⟩
theorem TreatyMoreB_holds:Rows.TreatyMoreSaid:=
 OpenClaim.holds_of_wide 5 Try.f5 rfl rfl rfl rfl rfl rfl rfl ⟨rfl,rfl,rfl,rfl,rfl⟩ rfl rfl rfl rfl rfl (by kernel_rfl) Try.func5 (by kernel_rfl)
  (of_decide_eq_true (by kernel_rfl)) (by unfold Func.isWrapper; first | (rw[if_pos (by decide +kernel)]; kernel_rfl) | (rw[if_neg (by decide +kernel)]; exact⟨rfl,rfl⟩))
  (fun os started H enc _=>zBD os started H enc)
end Go.Proofs.Ytkcmdghjgoaggaa

