/- TreatyQuota, for all that it can be called with, returns true. Condition: none. -/
import Derived.Test.YtkcmdghjgoaggaaTdI
import GoSem.Step
import GoSem.ClaimKeys
import Derived.DeepKeys2
import Derived.RangeFuncLeaves
import Derived.OrdersIn
import Derived.Laws.World
import Derived.Laws.Sem
import Derived.RangeFuncRecord
import Derived.Laws.CopyRow
import Derived.Laws.Append
import Derived.Laws.Rows
import Derived.Laws.Slices
import Derived.Laws.Entries
import Derived.ChangeKeysEq
import Derived.IntWalk
import Derived.DeepKeys
import Derived.DeepKeys3
import Derived.Laws.StructEq
import Derived.MapKept
import Derived.Laws.AppendOwn
import Derived.ChangeArms
import Derived.ChangeOld
import Derived.Carry
import Derived.ChangeShapes
import Derived.KernelRfl
import Derived.ProofKit
import Derived.Test.YtkcmdghjgoaggaaRows

namespace Go.Proofs.Ytkcmdghjgoaggaa
open _root_.Go.Proofs.Try
open Go.Abs
set_option maxRecDepth 100000
noncomputable section
def zzr(n:Nat):List Int:=(List.range n).map fun j=>((j:Nat):Int)
theorem zzs(n:Nat):Inc n 0 (zzr n):=by
 refine⟨?_,fun v hv=>?_⟩
 ·unfold zzr;rw[List.pairwise_map]
  exact List.pairwise_lt_range.imp fun h=>by omega
 ·obtain⟨j,hj,rfl⟩:=List.mem_map.1 hv;have:=List.mem_range.1 hj
  omega
theorem zzt{n j:Nat}(h:j < n):inD (zzr n) j=true:=decide_eq_true (List.mem_map.2 ⟨j,List.mem_range.2 h,rfl⟩)
structure zzu (n:Nat) (P:(Nat->Bool)->Prop) (M:List Int):Prop where
 inc:Inc n 0 M
 ok:P (inD M)
 min:∀D,Inc n 0 D->P (inD D)->D=M\/shB M D=true
theorem zzu.uniq{n:Nat}{P:(Nat->Bool)->Prop}{M M':List Int}(h:zzu n P M)(h':zzu n P M'):M=M':=by
 rcases h.min M' h'.inc h'.ok with h1 | h1
 ·exact h1.symm
 ·rcases h'.min M h.inc h.ok with h2 | h2
  ·exact h2
  ·rw[zw5 h1] at h2; cases h2
def macc(S:Nat->Bool):Nat->Nat
 | 0=>0
 | i+1=>if S i=true then macc S i ||| 2 ^ i else macc S i
theorem zzv(S:Nat->Bool)(j:Nat):∀i,(macc S i).testBit j=(decide (j < i) && S j)
 | 0=>by simp[macc]
 | i+1=>by
  have ih:=zzv S j i;unfold macc
  by_cases hs:S i=true
  ·rw[if_pos hs,Nat.testBit_or,ih,Nat.testBit_two_pow]
   by_cases h:i=j
   ·subst h; simp[hs]
   ·have:decide (j < i+1)=decide (j < i):=decide_eq_decide.2 (by omega);rw[this]; simp[h]
  ·rw[if_neg hs,ih]
   by_cases h:i=j
   ·subst h
    have:S i=false:=by simpa using hs
    rw[this]; simp
   ·have:decide (j < i+1)=decide (j < i):=decide_eq_decide.2 (by omega);rw[this]
def zzw:List Rg->Int->List Int
 | [],_=>[]
 | r::rs,n=>(r.Lo+n % (r.Hi - r.Lo+1))::zzw rs (n / (r.Hi - r.Lo+1))
theorem zzx:∀{rs:List Rg} {n:Int},(∀r∈rs,r.Lo<=r.Hi)->0<=n->inL rs (zzw rs n)
 | [],_,_,_=>trivial
 | r::rs,n,h,h0=>by
  have hr:=h r (List.mem_cons_self ..);have h1:=Int.emod_nonneg n (show r.Hi - r.Lo+1 ≠ 0 by omega);have h2:=Int.emod_lt_of_pos n (show 0 < r.Hi - r.Lo+1 by omega);exact⟨⟨by omega,by omega⟩,zzx (fun r hr=>h r (List.mem_cons_of_mem _ hr)) (Int.ediv_nonneg h0 (by omega))⟩
theorem zzy:∀{rs:List Rg} {L:List Int},inL rs L->∃n,0<=n/\n < zxv rs/\zzw rs n=L
 | [],[],_=>⟨0,Int.le_refl _,by show(0:Int) < 1; omega,rfl⟩
 | [],_::_,h=>h.elim
 | _::_,[],h=>h.elim
 | r::rs,x::xs,h=>by
  obtain⟨n,h0,h1,h2⟩:=zzy h.2;have hx:=h.1;obtain⟨c,hc⟩:∃c,c=r.Hi - r.Lo+1:=⟨_,rfl⟩;refine⟨(x - r.Lo)+c * n,?_,?_,?_⟩
  ·have:=Int.mul_nonneg (show 0<=c by omega) h0; omega
  ·show _ < (r.Hi - r.Lo+1) * zxv rs
   rw[<- hc];have:=Int.mul_le_mul_of_nonneg_left (show n+1<=zxv rs by omega) (show 0<=c by omega);rw[Int.mul_add,Int.mul_one] at this
   omega
  ·show(r.Lo+_ % (r.Hi - r.Lo+1))::zzw rs (_ / (r.Hi - r.Lo+1))=_
   rw[<- hc,Int.add_mul_emod_self_left,Int.emod_eq_of_lt (by omega) (by omega),Int.add_mul_ediv_left _ _ (by omega),Int.ediv_eq_zero_of_lt (by omega) (by omega),Int.zero_add,h2]
   congr 1; omega
theorem zzz{p:Pg}(h:VP p):∀(d k:Nat) (acc:List Int) (n:Int),k<=p.Losses.length->p.Losses.length - k < d->acc.length=k->0<=n/\n<=100000->zsB p d acc n (k:Int)=some (acc++zzw (p.Losses.drop k) n)
 | 0,_,_,_,_,hd,_,_=>by omega
 | d+1,k,acc,n,hk,hd,ha,hn=>by
  have h4:=h.l4;rw[zsB]
  by_cases hkl:k < p.Losses.length
  ·have hg:=List.getElem?_eq_getElem hkl;have hr:=h.ls _ (List.getElem_mem hkl);rw[List.drop_eq_getElem_cons hkl];generalize p.Losses[k]=r at hg hr;have hr':=hr;unfold RgV at hr';have h1:=Int.emod_nonneg n (show r.Hi - r.Lo+1 ≠ 0 by omega);have h2:=Int.emod_lt_of_pos n (show 0 < r.Hi - r.Lo+1 by omega);have h3:=Int.ediv_nonneg hn.1 (show 0<=r.Hi - r.Lo+1 by omega);have h5:=Int.ediv_le_self (r.Hi - r.Lo+1) hn.1
   simp only[zrQ hg,obs,zxU hr]
   rw[if_pos (by omega),zqs hn.1,zqs (by omega),zqs (fI (by omega)),zqs (fI (by omega)),zqs (by omega),zqs hn.1,zqs (by omega),zqs (fI (by omega)),zqs (fI (by omega)),show(k:Int)+1=((k+1:Nat):Int) by omega];refine(zzz h d (k+1) (acc++[r.Lo+n % (r.Hi - r.Lo+1)]) (n / (r.Hi - r.Lo+1)) (by omega) (by omega) (by rw[List.length_append,ha]; rfl) (by omega)).trans ?_;rw[List.append_assoc]; rfl
  ·rw[if_neg (by omega),List.drop_eq_nil_of_le (by omega)]
   show _=some (acc++[])
   rw[List.append_nil]
theorem zzA{p:Pg}(h:VP p){n:Int}(hn:0<=n/\n<=100000):zsC p n=some (zzw p.Losses n):=zzz h 1000000 0 [] n (Nat.zero_le _) (by have:=h.l4; omega) rfl hn
theorem VP.nthIn{p:Pg}(h:VP p){n:Int}(hn:0<=n):inL p.Losses (zzw p.Losses n):=zzx (fun r hr=>(h.ls r hr).2.1) hn
theorem l9{p:Pg}(h:VP p){L:List Int}(hL:inL p.Losses L):L.length<=9:=by rw[zyv hL]; have:=h.l4; omega
open Classical in
def agR(P:Nat->Int)(r:Rpt):Prop:=r.Paid.Lo<=P r.Treaty.toNat/\P r.Treaty.toNat<=r.Paid.Hi
open Classical in
def agf(p:Pg)(L:List Int)(j:Nat):Bool:=decide (∀r,p.Reports[j]? = some r->agR (zyi p.Treaties L).pays r)
open Classical in
theorem zzB{p:Pg}{L:List Int}{j:Nat}{r:Rpt}(h:p.Reports[j]? = some r):agf p L j=true↔agR (zyi p.Treaties L).pays r:=by
 unfold agf;rw[decide_eq_true_eq];exact⟨fun q=>q r h,fun q r' h'=>by rw[h] at h'; cases h'; exact q⟩
def zzC(p:Pg)(L:List Int):Nat:=macc (agf p L) p.Reports.length
def PL(p:Pg)(S:Nat->Bool):Prop:=∃L,inL p.Losses L/\∀j,j < p.Reports.length->S j=false->agf p L j=true
theorem PL.congr{p:Pg}{S S':Nat->Bool}(h:∀j,j < p.Reports.length->S j=S' j):PL p S↔PL p S':=
 exists_congr fun _=>and_congr_right fun _=>forall_congr' fun j=>forall_congr' fun hj=>by rw[h j hj]
theorem zzD{p:Pg}(h:VP p){L:List Int}(hL:inL p.Losses L):(∀j,0<=(zyi p.Treaties L).pays j/\(zyi p.Treaties L).pays j<=4000)/\(∀j,0<=(zyi p.Treaties L).keeps j/\(zyi p.Treaties L).keeps j<=4000)/\0<=(zyi p.Treaties L).soc/\(zyi p.Treaties L).soc<=4000:=by
 obtain⟨h1,h2,h3⟩:=zyM h hL;refine⟨fun j=>?_,fun j=>?_,?_⟩
 ·have:=h1.pays j; omega
 ·have:=h1.keeps j; omega
 ·have:=h1.soc; omega
theorem VP.prodPos{p:Pg}(h:VP p):1<=zxv p.Losses:=(zxK h.ls h.l4).1
end
end Go.Proofs.Ytkcmdghjgoaggaa

namespace Go.Proofs.Ytkcmdghjgoaggaa
open _root_.Go.Proofs.Try
open Go.Abs
set_option maxRecDepth 100000
noncomputable section
theorem zzE{p:Pg}{L:List Int}:zzC p L=2 ^ p.Reports.length - 1↔agN (zyi p.Treaties L).pays p.Reports:=by
 constructor
 ·intro h r hr;obtain⟨j,hj⟩:=List.mem_iff_getElem?.1 hr;have hjl:=(List.getElem?_eq_some_iff.1 hj).1
  have e:(zzC p L).testBit j=true:=by rw[h,Nat.testBit_two_pow_sub_one,decide_eq_true hjl]
  unfold zzC at e;rw[zzv] at e;exact(zzB hj).1 (Bool.and_eq_true_iff.1 e).2
 ·intro h
  apply Nat.eq_of_testBit_eq
  intro j;unfold zzC;rw[zzv,Nat.testBit_two_pow_sub_one]
  by_cases hj:j < p.Reports.length
  ·have hg:=List.getElem?_eq_getElem hj;rw[decide_eq_true hj,(zzB hg).2 (h _ (List.getElem_mem hj))]; rfl
  ·rw[decide_eq_false hj]; rfl
def trL(p:Pg):List (List Int):=((List.range (zxv p.Losses).toNat).filter fun n:Nat=>decide (zzC p (zzw p.Losses (n:Int))=2 ^ p.Reports.length - 1)).map fun n:Nat=>zzw p.Losses (n:Int)
theorem zzF{p:Pg}(h:VP p){L:List Int}:L∈trL p↔TrS p p.Reports L:=by
 unfold trL TrS;rw[List.mem_map]
 constructor
 ·rintro⟨n,hn,rfl⟩
  obtain⟨_,h2⟩:=List.mem_filter.1 hn;exact⟨h.nthIn (by omega),zzE.1 (of_decide_eq_true h2)⟩
 ·rintro⟨hL,hA⟩
  obtain⟨n,n0,n1,rfl⟩:=zzy hL;refine⟨n.toNat,List.mem_filter.2 ⟨List.mem_range.2 (by omega),decide_eq_true ?_⟩,?_⟩
  ·rw[show((n.toNat:Nat):Int)=n by omega]; exact zzE.2 hA
  ·show zzw p.Losses ((n.toNat:Nat):Int)=_
   rw[show((n.toNat:Nat):Int)=n by omega]
theorem zzG{p:Pg}:zy0 p p.Reports↔PL p fun j=>!(2 ^ p.Reports.length - 1).testBit j:=by
 constructor
 ·rintro⟨L,h1,h2⟩
  exact⟨L,h1,fun j hj _=>(zzB (List.getElem?_eq_getElem hj)).2 (h2 _ (List.getElem_mem hj))⟩
 ·rintro⟨L,h1,h2⟩
  refine⟨L,h1,fun r hr=>?_⟩;obtain⟨j,hj⟩:=List.mem_iff_getElem?.1 hr;have hjl:=(List.getElem?_eq_some_iff.1 hj).1;exact(zzB hj).1 (h2 j hjl (by show(!(2 ^ p.Reports.length - 1).testBit j)=false; rw[Nat.testBit_two_pow_sub_one,decide_eq_true hjl]; rfl))
def wd(r:Rg)(x:Int):Rg:={ Lo:=min r.Lo x,Hi:=max r.Hi x }
def emp:Rg:={ Lo:=1099511627776,Hi:=-1099511627776 }
def wdL(g:List Int->Int)(l:List (List Int)):Rg:=l.foldl (fun r L=>wd r (g L)) emp
theorem zzH{g:List Int->Int}:∀(l:List (List Int)) (r:Rg),((l.foldl (fun r L=>wd r (g L)) r).Lo=r.Lo\/∃L∈l,g L=(l.foldl (fun r L=>wd r (g L)) r).Lo)/\((l.foldl (fun r L=>wd r (g L)) r).Hi=r.Hi\/∃L∈l,g L=(l.foldl (fun r L=>wd r (g L)) r).Hi)/\(l.foldl (fun r L=>wd r (g L)) r).Lo<=r.Lo/\r.Hi<=(l.foldl (fun r L=>wd r (g L)) r).Hi/\∀L∈l,(l.foldl (fun r L=>wd r (g L)) r).Lo<=g L/\g L<=(l.foldl (fun r L=>wd r (g L)) r).Hi
 | [],r=>⟨.inl rfl,.inl rfl,Int.le_refl _,Int.le_refl _,fun L hL=>by cases hL⟩
 | L::l,r=>by
  obtain⟨a,b,c,d,e⟩:=zzH (g:=g) l (wd r (g L));have h1:(wd r (g L)).Lo=min r.Lo (g L):=rfl;have h2:(wd r (g L)).Hi=max r.Hi (g L):=rfl;rw[h1] at a c;rw[h2] at b d;rw[List.foldl_cons];generalize l.foldl (fun r L=>wd r (g L)) (wd r (g L))=R at a b c d e ⊢;refine⟨?_,?_,by clear a b; omega,by clear a b; omega,fun L' hL'=>?_⟩
  ·clear b
   rcases a with a | ⟨L',q1,q2⟩
   ·rcases Int.le_total r.Lo (g L) with h | h
    ·exact .inl (by omega)
    ·exact .inr ⟨L,List.mem_cons_self ..,by omega⟩
   ·exact .inr ⟨L',List.mem_cons_of_mem _ q1,q2⟩
  ·clear a
   rcases b with b | ⟨L',q1,q2⟩
   ·rcases Int.le_total (g L) r.Hi with h | h
    ·exact .inl (by omega)
    ·exact .inr ⟨L,List.mem_cons_self ..,by omega⟩
   ·exact .inr ⟨L',List.mem_cons_of_mem _ q1,q2⟩
  ·clear a b
   rcases List.mem_cons.1 hL' with h | h
   ·subst h; omega
   ·exact e L' h
theorem zzI{g:List Int->Int}{l:List (List Int)}(hne:l ≠ [])(hb:∀L∈l,-1000000<=g L/\g L<=1000000):IsB (·∈l) g (wdL g l):=by
 obtain⟨a,b,c,d,e⟩:=zzH (g:=g) l emp;have h1:emp.Lo=1099511627776:=rfl;have h2:emp.Hi = -1099511627776:=rfl;rw[h1] at a c;rw[h2] at b d;obtain⟨L0,hL0⟩:=List.exists_mem_of_ne_nil l hne;have q1:=hb L0 hL0;have q2:=e L0 hL0;unfold wdL;generalize l.foldl (fun r L=>wd r (g L)) emp=R at a b c d e q2 ⊢;refine⟨?_,?_,e⟩
 ·clear b
  rcases a with a | a
  ·omega
  ·exact a
 ·clear a
  rcases b with b | b
  ·omega
  ·exact b
def bsN(n:Nat)(f:Nat->Bd):List Bd:=(List.range n).map f
theorem zzJ{n:Nat}{f:Nat->Bd}:(bsN n f).length=n:=by unfold bsN; rw[List.length_map,List.length_range]
theorem zzK{n:Nat}{f:Nat->Bd}{k:Nat}(h:k < n):(bsN n f)[k]? = some (f k):=by unfold bsN; rw[List.getElem?_map,List.getElem?_range h]; rfl
def bdF(p:Pg)(l:List (List Int))(k:Nat):Bd:={ Pays:=wdL (fun L=>(zyi p.Treaties L).pays k) l,Keeps:=wdL (fun L=>(zyi p.Treaties L).keeps k) l }
theorem zzL{p:Pg}(h:VP p)(hc:zy0 p p.Reports):zzh p (bsN p.Treaties.length (bdF p (trL p)))/\IsB (TrS p p.Reports) (fun L=>(zyi p.Treaties L).soc) (wdL (fun L=>(zyi p.Treaties L).soc) (trL p)):=by
 have hne:trL p ≠ []:=fun e=>by
  obtain⟨L,hL⟩:=hc;have:=(zzF h).2 hL
  rw[e] at this; cases this
 have hb:∀L∈trL p,inL p.Losses L:=fun L hL=>((zzF h).1 hL).1;refine⟨⟨zzJ,fun k b hk=>?_⟩,?_⟩
 ·have hkl:=(List.getElem?_eq_some_iff.1 hk).1;rw[zzJ] at hkl;rw[zzK hkl] at hk
  cases hk
  refine⟨(zzI hne fun L hL=>?_).congr (fun L=>zzF h) fun _ _=>rfl,(zzI hne fun L hL=>?_).congr (fun L=>zzF h) fun _ _=>rfl⟩
  ·have:=(zzD h (hb L hL)).1 k; omega
  ·have:=(zzD h (hb L hL)).2.1 k; omega
 ·refine(zzI hne fun L hL=>?_).congr (fun L=>zzF h) fun _ _=>rfl;have:=(zzD h (hb L hL)).2.2; omega
def kpF:List Rpt->Nat->(Nat->Bool)->List Rpt
 | [],_,_=>[]
 | v::V,i,S=>if S i=true then v::kpF V (i+1) S else kpF V (i+1) S
theorem zzM{S:Nat->Bool}{v:Rpt}:∀(V:List Rpt) (i:Nat),v∈kpF V i S↔∃j,V[j]? = some v/\S (i+j)=true
 | [],i=>by simp[kpF]
 | a::V,i=>by
  have ih:=zzM (S:=S) (v:=v) V (i+1)
  have e:(∃j,(a::V)[j]? = some v/\S (i+j)=true)↔(a=v/\S i=true)\/∃j,V[j]? = some v/\S (i+1+j)=true:=by
   constructor
   ·rintro⟨j,h1,h2⟩
    cases j with
    | zero=>exact .inl ⟨by simpa using h1,h2⟩
    | succ j=>exact .inr ⟨j,by simpa using h1,by rw[show i+1+j=i+(j+1) by omega]; exact h2⟩
   ·rintro (⟨h1,h2⟩ | ⟨j,h1,h2⟩)
    ·exact⟨0,by simpa using h1,h2⟩
    ·exact⟨j+1,by simpa using h1,by rw[show i+(j+1)=i+1+j by omega]; exact h2⟩
  rw[e];unfold kpF
  by_cases hs:S i=true
  ·rw[if_pos hs,List.mem_cons,ih];exact or_congr ⟨fun h=>⟨h.symm,hs⟩,fun h=>h.1.symm⟩ Iff.rfl
  ·rw[if_neg hs,ih];exact⟨.inr,fun h=>h.elim (fun h=>absurd h.2 hs) id⟩
theorem zzN{S:Nat->Bool}:∀(V:List Rpt) (i:Nat),(kpF V i S).length<=V.length
 | [],_=>Nat.le_refl _
 | a::V,i=>by
  have:=zzN (S:=S) V (i+1);unfold kpF
  split <;> simp only[List.length_cons] <;> omega
theorem zzO{l:List Int}{v:Int}(hl:zr0 l):∀d (k:Nat),k<=l.length->l.length - k < d->∃r,ztF l v d (k:Int)=some r/\(0<=r↔v∈l.drop k)
 | 0,k,_,h=>by omega
 | d+1,k,hk,h=>by
  unfold zr0 at hl;unfold ztF
  by_cases hkn:k=l.length
  ·subst hkn; rw[if_neg (Int.lt_irrefl _)]; exact⟨_,rfl,by simp⟩
  ·have hlt:k < l.length:=by omega
   rw[if_pos (by omega),zrQ (List.getElem?_eq_getElem hlt),obs];have hd:=List.drop_eq_getElem_cons hlt
   by_cases hv:v=l[k]
   ·rw[if_pos hv]; exact⟨_,rfl,⟨fun _=>by rw[hd,<- hv]; exact List.mem_cons_self ..,fun _=>by omega⟩⟩
   ·rw[if_neg hv,zqs (fI (by omega)),show(k:Int)+1=((k+1:Nat):Int) by omega];obtain⟨r,h1,h2⟩:=zzO hl d (k+1) (by omega) (by omega);exact⟨r,h1,h2.trans ⟨fun h=>by rw[hd]; exact List.mem_cons_of_mem _ h,fun h=>by rw[hd] at h; exact(List.mem_cons.1 h).resolve_left hv⟩⟩
theorem zzP{l:List Int}{v:Int}(hl:zr0 l):ztH l v=some (decide (v∈l)):=by
 unfold ztH ztG;obtain⟨r,h1,h2⟩:=zzO (v:=v) hl (l.length+1) 0 (Nat.zero_le _) (by omega);have h1:ztF l v (l.length+1) 0=some r:=h1;rw[h1,obs];exact congrArg some (decide_eq_decide.2 (h2.trans (by rw[List.drop_zero])))
theorem zzQ{p:Int->Option Bool}{f:Nat->Bool}{n:Nat}(hn:n<=1000000)(hp:∀m,m < n->p (m:Int)=some (f m))(hm:∀m k,m<=k->k < n->f m=true->f k=true):∀d (i j:Nat),i<=j->j<=n->j - i < d->(∀m,m < i->f m=false)->(∀m,j<=m->m < n->f m=true) ->
  ∃k:Nat,zt8 p d (i:Int) (j:Int)=some (k:Int)/\k<=n/\(∀m,m < k->f m=false)/\(∀m,k<=m->m < n->f m=true)
 | 0,_,_,_,_,h,_,_=>by omega
 | d+1,i,j,hij,hj,h,hlo,hhi=>by
  rw[zt8]
  by_cases hc:i < j
  ·obtain⟨md,hmd⟩:∃md:Nat,md=(i+j) / 2:=⟨_,rfl⟩
   have hf:zl7 .u64 ((i:Int)+j):=show _/\_ by constructor <;> omega
   have e:zmc .i64 (zmc .u64 ((i:Int)+j) / 2)=(md:Int):=by
    rw[wz hf,wz (fI (by omega))]; omega
   rw[if_pos (by omega),zqs (fI (by omega)),zqs (by rw[wz hf]; omega),zqs (by omega),zqs (by omega),zqs (by rw[wz hf]; exact show _/\_ by constructor <;> omega),e,hp md (by omega),obs]
   cases hq:f md with
   | true=>
    rw[if_pos rfl];exact zzQ hn hp hm d i md (by omega) (by omega) (by omega) hlo fun m h1 h2=>hm md m h1 h2 hq
   | false=>
    rw[if_neg (by decide),zqs (fI (by omega)),show(md:Int)+1=((md+1:Nat):Int) by omega]
    exact zzQ hn hp hm d (md+1) j (by omega) hj (by omega) (fun m h1=>by
     cases hq2:f m with
     | false=>rfl
     | true=>have:=hm m md (by omega) (by omega) hq2; rw[hq] at this; cases this) hhi
  ·rw[if_neg (by omega)];exact⟨i,rfl,by omega,hlo,fun m h1 h2=>hhi m (by omega) h2⟩
theorem zzR{p:Pg}{L:List Int}{S:Nat->Bool}:agN (zyi p.Treaties L).pays (kpF p.Reports 0 S)↔∀j,j < p.Reports.length->S j=true->agf p L j=true:=by
 constructor
 ·intro h j hj hs;have hg:=List.getElem?_eq_getElem hj;exact(zzB hg).2 (h _ ((zzM _ _).2 ⟨j,hg,by rw[Nat.zero_add]; exact hs⟩))
 ·intro h r hr;obtain⟨j,h1,h2⟩:=(zzM _ _).1 hr;rw[Nat.zero_add] at h2;exact(zzB h1).1 (h j (List.getElem?_eq_some_iff.1 h1).1 h2)
theorem zzS{p:Pg}{S:Nat->Bool}:zy0 p (kpF p.Reports 0 S)↔PL p fun j=>!S j:=by
 unfold zy0 PL;refine exists_congr fun L=>and_congr_right fun _=>zzR.trans ?_;refine forall_congr' fun j=>forall_congr' fun _=>?_
 show(S j=true->_)↔((!S j)=false->_)
 cases S j <;> simp
theorem zzT{l:List Rpt}{D:List Int}(hl:l.length<=1000)(hD:zr0 D):ztJ l D=some (kpF l 0 fun j=>!inD D j):=by
 have key:∀(d k:Nat) (acc:List Rpt),k<=l.length->l.length - k < d->acc.length<=k->ztI l D d acc (k:Int)=some (acc++kpF (l.drop k) k fun j=>!inD D j):=by
  intro d
  induction d with
  | zero=>intro k _ _ h _; omega
  | succ d ih=>
   intro k acc hk hd ha;rw[ztI]
   by_cases hkl:k < l.length
   ·rw[if_pos (by omega),zrQ (List.getElem?_eq_getElem hkl),obs,zzP hD,obs,List.drop_eq_getElem_cons hkl,kpF]
    by_cases hin:(k:Int)∈D
    ·have e:inD D k=true:=decide_eq_true hin;rw[decide_eq_true hin,if_pos rfl,zqs (fI (by omega)),show(k:Int)+1=((k+1:Nat):Int) by omega,if_neg (by rw[e]; simp)];exact ih (k+1) acc (by omega) (by omega) (by omega)
    ·have e:inD D k=false:=decide_eq_false hin;rw[decide_eq_false hin,if_neg (by decide),zqs (by omega),zqs (fI (by omega)),show(k:Int)+1=((k+1:Nat):Int) by omega,if_pos (by rw[e]; rfl)];refine(ih (k+1) _ (by omega) (by omega) (by rw[List.length_append]; show acc.length+1<=_; omega)).trans ?_;rw[List.append_assoc]; rfl
   ·rw[if_neg (by omega),List.drop_eq_nil_of_le (by omega)]
    show _=some (acc++[])
    rw[List.append_nil]
 exact key (l.length+1) 0 [] (Nat.zero_le _) (by omega) (Nat.le_refl _)
theorem zyR.kp{p:Pg}(h:VP p)(S:Nat->Bool):zyR (kpF p.Reports 0 S):=fun r hr=>by
 obtain⟨j,h1,_⟩:=(zzM _ _).1 hr;exact h.rsOk r (List.mem_of_getElem? h1)
theorem zzU{p:Pg}(h:VP p){D:List Int}(hD:zr0 D):Ev (zub D (zyK p (zyC p)) p) (PL p (inD D)):=by
 have hr5:=h.r5;unfold zub;rw[zzT (by omega) hD,obs]
 show Ev ((ztQ (zyK p (zyC p)) (kpF p.Reports 0 fun j=>!inD D j)).bind _) _
 have hlen:=zzN (S:=fun j=>!inD D j) p.Reports 0;refine(zy1 h (zyR.kp h _) (zr1 hlen (by omega))).ret.imp (zzS.trans (PL.congr fun j _=>?_))
 simp
theorem zzV{p:Pg}(h:VP p):PL p (inD (zzr p.Reports.length)):=by
 obtain⟨L,hL⟩:=zyG h;exact⟨L,hL,fun j hj hs=>by rw[zzt hj] at hs; cases hs⟩
theorem zzW{p:Pg}(h:VP p):∃M,zuc p=some (M,0)/\zzu p.Reports.length (PL p) M:=by
 have h4:=h.r5;have hsh:∀D,Inc p.Reports.length 0 D->zr0 D:=fun D hD=>zr1 (Nat.le_refl D.length) (by have:=zwW hD; omega)
 have ht:∀D,Inc p.Reports.length 0 D->((zub D (zyK p (zyC p)) p).getD false=true↔PL p (inD D)):=fun D hD=>by
  obtain⟨b,q1,q2⟩:=zzU h (hsh D hD);rw[q1]; exact q2
 obtain⟨s1,s2,s3⟩:=zxb (n:=p.Reports.length) (t:=fun L=>(zub L (zyK p (zyC p)) p).getD false) ⟨zzr p.Reports.length,zzs _,(ht _ (zzs _)).2 (zzV h)⟩;refine⟨zrx p.Reports.length fun L=>(zub L (zyK p (zyC p)) p).getD false,?_,s1,(ht _ s1).1 s2,fun D hD hD2=>s3 D hD ((ht D hD).2 hD2)⟩;unfold zuc zry
 rw[zzc h,obs,if_pos rfl,zyQ h,obs,zqs ⟨by omega,by omega,fun L hL=>by
  have hI:Inc p.Reports.length 0 L:=by rw[Int.toNat_natCast] at hL; exact zwX.1 hL
  obtain⟨b,q1,_⟩:=zzU h (hsh L hI)
  show(zub L (zyK p (zyC p)) p).isSome=true
  rw[q1]; rfl⟩,obs,Int.toNat_natCast]
def FP(p:Pg)(j:Nat):Prop:=zy0 p (p.Reports.take (j+1))
theorem zzX{p:Pg}{i j:Nat}(hij:i<=j)(h:FP p j):FP p i:=by
 obtain⟨L,h1,h2⟩:=h;refine⟨L,h1,fun r hr=>h2 r ?_⟩
 have e:p.Reports.take (i+1)=(p.Reports.take (j+1)).take (i+1):=by rw[List.take_take,show min (i+1) (j+1)=i+1 by omega]
 rw[e] at hr;exact List.mem_of_mem_take hr
open Classical in
theorem zzY{p:Pg}(h:VP p):(∃j,j < p.Reports.length/\¬ FP p j/\(∀i,i < j->FP p i)/\zua p=some ((j:Int),0))\/((∀j,j < p.Reports.length->FP p j)/\zua p=some (0,7)):=by
 have h4:=h.r5
 have hf:∀m,m < p.Reports.length->zt7 (m:Int) (zyK p (zyC p)) p=some (decide (¬ FP p m)):=fun m hm=>by
  unfold zt7;rw[zqs (fI (by omega)),zqs (by omega),show Int.toNat ((m:Int)+1)=m+1 by omega,show Int.toNat (0:Int)=0 from rfl,List.drop_zero]
  show(ztQ (zyK p (zyC p)) (p.Reports.take (m+1))).bind _=_
  have hlen:(p.Reports.take (m+1)).length<=5:=by rw[List.length_take]; omega
  have hc:=zy1 h (rs:=p.Reports.take (m+1)) (fun r hr=>h.rsOk r (List.mem_of_mem_take hr)) (zr1 hlen (by omega))
  by_cases hq:FP p m
  ·rw[hc.some_of hq,obs,decide_eq_false (not_not_intro hq)]; rfl
  ·rw[hc.some_not hq,obs,decide_eq_true hq]; rfl
 obtain⟨k,q1,q2,q3,q4⟩:=zzQ (n:=p.Reports.length) (p:=fun a=>zt7 a (zyK p (zyC p)) p) (f:=fun m=>decide (¬ FP p m)) (by omega) hf (fun m k h1 h2 h3=>decide_eq_true fun hk=>of_decide_eq_true h3 (zzX h1 hk)) ((p.Reports.length:Int).toNat+1) 0 p.Reports.length (Nat.zero_le _) (Nat.le_refl _) (by omega) (fun m hm=>by omega) fun m h1 h2=>by omega
 have e:zua p=if ((k:Nat):Int)=(p.Reports.length:Int) then some (0,7) else some ((k:Int),0):=by
  unfold zua zt9;rw[zzc h,obs,if_pos rfl,zyQ h,obs];have q1:zt8 (fun a=>zt7 a (zyK p (zyC p)) p) ((p.Reports.length:Int).toNat+1) 0 (p.Reports.length:Int)=some (k:Int):=q1;rw[q1,obs]
 have hlt:∀i,i < k->FP p i:=fun i hi=>Classical.not_not.1 (of_decide_eq_false (q3 i hi))
 by_cases hk:k=p.Reports.length
 ·rw[if_pos (by omega)] at e;exact .inr ⟨fun j hj=>hlt j (by omega),e⟩
 ·rw[if_neg (by omega)] at e;exact .inl ⟨k,by omega,of_decide_eq_true (q4 k (Nat.le_refl _) (by omega)),hlt,e⟩
theorem zzZ{p:Pg}{j j':Nat}(h1:¬ FP p j)(h2:∀i,i < j->FP p i)(h3:¬ FP p j')(h4:∀i,i < j'->FP p i):j=j':=by
 rcases Nat.lt_trichotomy j j' with h | h | h
 ·exact absurd (h4 j h) h1
 ·exact h
 ·exact absurd (h2 j' h) h3
end
end Go.Proofs.Ytkcmdghjgoaggaa

namespace Go.Proofs.Ytkcmdghjgoaggaa
open _root_.Go.Proofs.Try
open Go.Abs
set_option maxRecDepth 100000
noncomputable section
theorem zz0{l:List Int}:(∀j,0 < j->j < l.length->∀a b,l[j - 1]? = some a->l[j]? = some b->a < b)↔l.Pairwise (· < ·):=by
 constructor
 ·intro h;rw[List.pairwise_iff_getElem];intro i j hi hj hij
  have key:∀d,(hd:i+d+1 < l.length)->l[i] < l[i+d+1]:=fun d=>by
   induction d with
   | zero=>intro hd; exact h (i+1) (by omega) hd _ _ (List.getElem?_eq_getElem hi) (List.getElem?_eq_getElem hd)
   | succ d ih=>
    intro hd;have h1:=ih (by omega);have h2:=h (i+(d+1)+1) (by omega) hd _ _ (List.getElem?_eq_getElem (show i+d+1 < l.length by omega)) (List.getElem?_eq_getElem hd);exact Int.lt_trans h1 h2
  have:=key (j - i - 1) (by omega)
  simpa [show i+(j - i - 1)+1=j by omega] using this
 ·intro h j h0 hj a b ha hb;obtain⟨h1,rfl⟩:=List.getElem?_eq_some_iff.1 ha;obtain⟨h2,rfl⟩:=List.getElem?_eq_some_iff.1 hb;exact List.pairwise_iff_getElem.1 h (j - 1) j h1 h2 (by omega)
theorem zz1{l:List Int}(hl:zr0 l):Ev (ztf l) (l.Pairwise (· < ·)):=by
 unfold zr0 at hl;unfold ztf
 by_cases h0:l.length=0
 ·have:l=[]:=List.eq_nil_of_length_eq_zero h0;subst this
  show Ev (zte [] 1 1) _
  rw[zte,if_neg (by decide)];exact Ev.tt .nil
 ·have e:∃n,l.length=n+1:=⟨l.length - 1,by omega⟩;obtain⟨n,hn⟩:=e
  have key:=zrU (n:=n) (F:=fun d x=>zte l d (x+1)) (ok:=fun j=>∀a b,l[j]? = some a->l[j+1]? = some b->a < b) (bad:=some false) (fin:=some true) (fun d k hk=>by
   show(_->zte l (d+1) ((k:Int)+1)=_)/\_
   have ha:=List.getElem?_eq_getElem (show k < l.length by omega);have hb:=List.getElem?_eq_getElem (show k+1 < l.length by omega);rw[zte,if_pos (by omega),zrR (show(k:Int)+1=((k+1:Nat):Int) by omega) (show k+1 < l.length by omega),obs,zqs (fI (by omega)),zrR (show(k:Int)+1 - 1=(k:Int) by omega) (show k < l.length by omega),obs];refine⟨fun h=>?_,fun h=>?_⟩
   ·have:=h _ _ ha hb;rw[if_neg (by omega),zqs (fI (by omega))]
   ·rw[if_pos]
    apply Classical.byContradiction
    intro h2
    exact h fun a b h3 h4=>by rw[ha] at h3; rw[hb] at h4; cases h3; cases h4; omega) (fun d=>by show zte l (d+1) _=_; rw[zte,if_neg (by omega)]) (d:=((l.length:Int) - 1).toNat+1) (by omega)
  have e0:zte l (((l.length:Int) - 1).toNat+1) (0+1)=zte l (((l.length:Int) - 1).toNat+1) 1:=rfl
  have hiff:(∀j,j < n->∀a b,l[j]? = some a->l[j+1]? = some b->a < b)↔l.Pairwise (· < ·):=by
   rw[<- zz0]
   constructor
   ·intro h j h0 hj a b h1 h2;have:=h (j - 1) (by omega) a b h1;rw[show j - 1+1=j by omega] at this;exact this h2
   ·intro h j hj a b h1 h2;exact h (j+1) (by omega) (by omega) a b (by rw[Nat.add_sub_cancel]; exact h1) h2
  by_cases hq:∀j,j < n->∀a b,l[j]? = some a->l[j+1]? = some b->a < b
  ·have:=key.1 hq;exact⟨true,this,⟨fun _=>hiff.1 hq,fun _=>rfl⟩⟩
  ·have:=key.2 hq;exact⟨false,this,⟨fun h=>(by cases h),fun h=>absurd (hiff.2 h) hq⟩⟩
def zke(p:Pg)(l:List Int):Prop:=l.Pairwise (· < ·)/\∀v∈l,(0<=v/\v<=(p.Treaties.length:Int) - 1)/\ofB p.Treaties v.toNat=true
theorem zke.inc{p:Pg}{l:List Int}(h:zke p l):Inc p.Treaties.length 0 l:=⟨h.1,fun v hv=>by have:=(h.2 v hv).1; omega⟩
theorem zke.len{p:Pg}{l:List Int}(h:zke p l):l.length<=p.Treaties.length:=by have:=zwW h.inc; omega
theorem zz2{p:Pg}(h:VP p){n:Int}:Ev (ztp p n) ((0<=n/\n<=(p.Treaties.length:Int) - 1)/\ofB p.Treaties n.toNat=true):=by
 have h5:=h.t5;refine(zxE (zzb h).2.1).and fun hc=>?_;have hg:=List.getElem?_eq_getElem (show n.toNat < p.Treaties.length by omega);have e:=zrQ hg;rw[show((n.toNat:Nat):Int)=n by omega] at e;rw[e,obs];have ho:=h.of' _ _ hg;exact Ev.dec (by rw[zzq hg,decide_eq_true_eq]; omega)
theorem zz3{p:Pg}(h:VP p){l:List Int}(hl:zr0 l):Ev (ztq p l) (zke p l):=
 (zz1 hl).and fun _=>(Ev.each (p:=fun a=>ztp p a) (q:=fun v=>(0<=v/\v<=(p.Treaties.length:Int) - 1)/\ofB p.Treaties v.toNat=true) (fun _ _=>zz2 h) hl.lt gI).ret
def tyD:Ty:={ Kind:=0,Part:=0,Above:=0,Most:=0,Times:=0,Price:=0,Of:=-1 }
def tyA(ts:List Ty)(v:Int):Ty:=(ts[v.toNat]?).getD tyD
theorem zz4{ts:List Ty}{v:Int}{t:Ty}(h:ts[v.toNat]? = some t):tyA ts v=t:=by unfold tyA; rw[h]; rfl
theorem zz5{ts:List Ty}{v:Int}(h0:0<=v)(h1:v<=(ts.length:Int) - 1):ts[v.toNat]? = some (tyA ts v):=by
 have hg:=List.getElem?_eq_getElem (show v.toNat < ts.length by omega);rw[zz4 hg,hg]
theorem zz6{ts:List Ty}{v:Int}(h0:0<=v)(h1:v<=(ts.length:Int) - 1):idx ts v=some (tyA ts v):=by
 have:=zrQ (zz5 h0 h1)
 rwa [show((v.toNat:Nat):Int)=v by omega] at this
def zz7(ts:List Ty):List Int->Int
 | []=>0
 | v::l=>(tyA ts v).Price+zz7 ts l
theorem zz8{ts:List Ty}{v:Int}:∀l,zz7 ts (l++[v])=zz7 ts l+(tyA ts v).Price
 | []=>by show _+(0:Int)=0+_; omega
 | a::l=>by show _+zz7 ts (l++[v])=_+zz7 ts l+_; rw[zz8 l]; omega
def InT(p:Pg)(l:List Int):Prop:=∀v∈l,0<=v/\v<=(p.Treaties.length:Int) - 1
theorem zz9{p:Pg}(h:VP p):∀{l:List Int},InT p l->0<=zz7 p.Treaties l/\zz7 p.Treaties l<=1000 * l.length
 | [],_=>⟨Int.le_refl _,by show(0:Int)<=1000 * ((0:Nat):Int); omega⟩
 | v::l,hl=>by
  have ih:=zz9 h (l:=l) fun v hv=>hl v (List.mem_cons_of_mem _ hv);have hv:=hl v (List.mem_cons_self ..);have ht:=h.ts _ (List.mem_of_getElem? (zz5 hv.1 hv.2));have h1:=ht.2
  show 0<=(tyA p.Treaties v).Price+zz7 p.Treaties l/\(tyA p.Treaties v).Price+zz7 p.Treaties l<=1000 * ((l.length+1:Nat):Int)
  omega
theorem zAa{α:Type}{l:List α}{k:Nat}{a:α}(h:l[k]? = some a):l.take (k+1)=l.take k++[a]:=by rw[List.take_add_one,h]; rfl
theorem zAb{p:Pg}(h:VP p){l:List Int}(hl:InT p l)(h9:l.length<=9):zts p l=some (zz7 p.Treaties l):=by
 refine zxh (n:=l.length) (fun d (s:Int) y=>ztr p l d s y) (fun k=>zz7 p.Treaties (l.take k)) (fun d k hk=>?_) (fun d=>?_) (l.length+1) 0 (by omega) (by omega)
 ·have hg:=List.getElem?_eq_getElem hk;have hv:=hl _ (List.getElem_mem hk);have hb:=zz9 h (l:=l.take (k+1)) fun v hv=>hl v (List.mem_of_mem_take hv)
  have hlen:(l.take (k+1)).length<=9:=by rw[List.length_take]; omega
  rw[zAa hg,zz8] at hb;rw[List.length_append,List.length_take] at hb
  simp only[List.length_singleton] at hb
  show ztr p l (d+1) _ _=_
  rw[ztr,if_pos (by omega),zrQ hg,obs,zz6 hv.1 hv.2,obs,zqs (fI (by omega)),zqs (fI (by omega)),zAa hg,zz8]
 ·show ztr p l (d+1) _ _=_
  rw[ztr,if_neg (Int.lt_irrefl _),List.take_length]
def zAc(p:Pg)(l:List Int):Pg:={ Losses:=p.Losses,Reserve:=p.Reserve,Treaties:=l.map (tyA p.Treaties),Reports:=[] }
theorem zAd{p:Pg}{l:List Int}(hl:InT p l)(h9:l.length<=9):ztu p l=some (zAc p l):=by
 refine zxh (n:=l.length) (fun d (s:List Ty) y=>ztt p l d p.Reserve s y) (fun k=>(l.take k).map (tyA p.Treaties)) (fun d k hk=>?_) (fun d=>?_) (l.length+1) 0 (by omega) (by omega)
 ·have hg:=List.getElem?_eq_getElem hk;have hv:=hl _ (List.getElem_mem hk)
  show ztt p l (d+1) _ _ _=_
  rw[ztt,if_pos (by omega),zrQ hg,obs,zz6 hv.1 hv.2,obs,zqs (by rw[List.length_map,List.length_take]; omega),zqs (fI (by omega)),zAa hg,List.map_append]; rfl
 ·show ztt p l (d+1) _ _ _=_
  rw[ztt,if_neg (Int.lt_irrefl _),List.take_length]; rfl
theorem zke.inT{p:Pg}{l:List Int}(h:zke p l):InT p l:=fun v hv=>(h.2 v hv).1
theorem zke.ty{p:Pg}(h:VP p){l:List Int}(hs:zke p l){v:Int}(hv:v∈l):(tyA p.Treaties v).Of = -1:=by
 obtain⟨h1,h2⟩:=hs.2 v hv;have hg:=zz5 h1.1 h1.2;rw[zzq hg,decide_eq_true_eq] at h2;have:=h.of' _ _ hg
 omega
theorem zAe{p:Pg}(h:VP p){l:List Int}(hs:zke p l):VP (zAc p l):=by
 have h5:=h.t5;have hl:=hs.len;refine { ls:=h.ls,res:=h.res,ts:=fun t ht=>?_,of':=fun i t ht=>?_,rs:=fun r hr=>(by cases hr),l4:=h.l4,t5:=?_,r5:=Nat.zero_le _,many:=h.many }
 ·obtain⟨v,hv,rfl⟩:=List.mem_map.1 ht;have:=hs.inT v hv;exact h.ts _ (List.mem_of_getElem? (zz5 this.1 this.2))
 ·obtain⟨v,hv,rfl⟩:=List.mem_map.1 (List.mem_of_getElem? ht);rw[hs.ty h hv]; omega
 ·show(l.map (tyA p.Treaties)).length<=5
  rw[List.length_map]; omega
theorem zAf{b k:Nat}:∀e,∃T,zwY b (k+e)=zwY b k++T
 | 0=>⟨[],(List.append_nil _).symm⟩
 | e+1=>by
  obtain⟨T,hT⟩:=zAf (b:=b) (k:=k) e;refine⟨T++(if b.testBit (k+e) then [((k+e:Nat):Int)] else []),?_⟩
  show zwY b (k+e)++_=_
  rw[hT,List.append_assoc]; rfl
theorem zAg{b n:Nat}(hn:n<=16)(hb:b < 2 ^ n):zwZ b=zwY b n:=by
 unfold zwZ;obtain⟨e,he⟩:∃e,16=n+e:=⟨16 - n,by omega⟩;rw[he];exact zw2 (fun q hq=>Nat.testBit_lt_two_pow (Nat.lt_of_lt_of_le hb (Nat.pow_le_pow_right (by omega) hq))) e
theorem zAh{b k n j:Nat}(hk:k<=n)(hj:j < (zwY b k).length):(zwY b n)[j]? = (zwY b k)[j]?:=by
 obtain⟨T,hT⟩:=zAf (b:=b) (k:=k) (n - k);rw[show k+(n - k)=n by omega] at hT;rw[hT,List.getElem?_append_left hj]
theorem zAi{ts:List Ty}{b n:Nat}(hn:n=ts.length)(hof:∀k t,ts[k]? = some t->b.testBit k=true->t.Of = -1){P P':Nat->Int}(hP:∀(j:Nat) (v:Int),(zwY b n)[j]? = some v->P' j=P v.toNat){x:Int}:∀k,k<=n ->
  (dN ((zwY b n).map (tyA ts)) P' x (zwY b k).length).soc=(a1 ts (fun k=>b.testBit k) P x k).2/\∀(j:Nat) (v:Int),j < (zwY b k).length->(zwY b n)[j]? = some v->(dN ((zwY b n).map (tyA ts)) P' x (zwY b k).length).pays j=(a1 ts (fun k=>b.testBit k) P x k).1 v.toNat
 | 0,_=>⟨rfl,fun j v h=>by cases h⟩
 | k+1,hk=>by
  obtain⟨i1,i2⟩:=zAi hn hof hP (x:=x) k (by omega);have hg:=List.getElem?_eq_getElem (show k < ts.length by omega);rw[zzk hg];have ht:=hof k _ hg;generalize ts[k]'(by omega)=t at hg ht
  cases hb:b.testBit k with
  | true=>
   have ho:=ht hb
   have e:zwY b (k+1)=zwY b k++[(k:Int)]:=by show zwY b k++(if b.testBit k then _ else _)=_; rw[hb]; rfl
   have el:(zwY b (k+1)).length=(zwY b k).length+1:=by rw[e,List.length_append]; rfl
   have hm:(zwY b n)[(zwY b k).length]? = some (k:Int):=by
    rw[zAh (k:=k+1) hk (by omega),e,List.getElem?_append_right (Nat.le_refl _),Nat.sub_self]; rfl
   have hmt:((zwY b n).map (tyA ts))[(zwY b k).length]? = some t:=by
    rw[List.getElem?_map,hm];exact congrArg some (zz4 (by rw[Int.toNat_natCast]; exact hg))
   rw[el,zya hmt,if_pos ⟨by omega,rfl⟩];unfold zx9;rw[if_pos ho,i1,hP _ _ hm,Int.toNat_natCast];refine⟨rfl,fun j v hj hv=>?_⟩
   show upF _ (zwY b k).length _ j=upF (a1 ts (fun k=>b.testBit k) P x k).1 k _ v.toNat
   by_cases hjm:j=(zwY b k).length
   ·subst hjm;rw[hm] at hv
    cases hv
    rw[zxm,Int.toNat_natCast,zxm]
   ·rw[zxn _ _ hjm,i2 j v (by omega) hv];have hv2:=hv;rw[zAh (k:=k) (by omega) (by omega)] at hv2;have:=zw0.1 (List.mem_of_getElem? hv2);rw[zxn _ _ (by omega)]
  | false=>
   have e:zwY b (k+1)=zwY b k:=by show zwY b k++(if b.testBit k then _ else _)=_; rw[hb]; exact List.append_nil _
   rw[e,if_neg fun h=>by cases h.2];exact⟨i1,i2⟩
theorem zAj{ts:List Ty}{P now:Nat->Int}{j:Nat}(hj:ofB ts j=true):∀k,k<=ts.length->(a2 ts P now k).1 j=now j
 | 0,_=>rfl
 | k+1,hk=>by
  have hg:=List.getElem?_eq_getElem (show k < ts.length by omega);have hfk:=zzq hg;have ih:=zAj (P:=P) (now:=now) hj k (by omega);rw[zzl hg];generalize ts[k]'(by omega)=t at hg hfk
  by_cases ho:0<=t.Of
  ·rw[if_pos ho]
   show upF (a2 ts P now k).1 k _ j=_
   rw[zxn _ _ fun e=>by subst e; rw[hfk,decide_eq_true_eq] at hj; omega,ih]
  ·rw[if_neg ho,ih]
theorem zAk{ts:List Ty}{b:Nat}(hof:∀k t,ts[k]? = some t->b.testBit k=true->t.Of = -1):∀(L:List Int) (s:(Nat->Int) × Int) (o:DS),(∀(j:Nat) (v:Int),(zwY b ts.length)[j]? = some v->o.pays j=s.1 v.toNat)->o.soc=s.2 ->
  (L.foldl (zyh ((zwY b ts.length).map (tyA ts))) o).soc=(L.foldl (zzo ts fun k=>b.testBit k) s).2
 | [],_,_,_,h2=>h2
 | x::L,s,o,h1,h2=>by
  obtain⟨c1,c2⟩:=zAi rfl hof h1 (x:=x) ts.length (Nat.le_refl _);refine zAk hof L (zzo ts (fun k=>b.testBit k) s x) (zyh ((zwY b ts.length).map (tyA ts)) o x) (fun j v hv=>?_) ?_
  ·show o.pays j+(dN ((zwY b ts.length).map (tyA ts)) o.pays x ((zwY b ts.length).map (tyA ts)).length).pays j=s.1 v.toNat+(a2 ts s.1 (a1 ts (fun k=>b.testBit k) s.1 x ts.length).1 ts.length).1 v.toNat
   have hjl:=(List.getElem?_eq_some_iff.1 hv).1;have hmem:=zw0.1 (List.mem_of_getElem? hv);have hg:=List.getElem?_eq_getElem (show v.toNat < ts.length by omega);rw[List.length_map,h1 j v hv,c2 j v hjl hv,zAj (by rw[zzq hg,hof _ _ hg hmem.2.2]; rfl) ts.length (Nat.le_refl _)]
  ·show o.soc+(dN ((zwY b ts.length).map (tyA ts)) o.pays x ((zwY b ts.length).map (tyA ts)).length).soc=s.2+(a1 ts (fun k=>b.testBit k) s.1 x ts.length).2
   rw[List.length_map,c1,h2]
theorem zAl{ts:List Ty}{b:Nat}(hof:∀k t,ts[k]? = some t->b.testBit k=true->t.Of = -1)(L:List Int):(zyi ((zwY b ts.length).map (tyA ts)) L).soc=(zzp ts (fun k=>b.testBit k) L).2:=
 zAk hof L (fun _=>0,0) zyg (fun _ _ _=>rfl) rfl
theorem zAm{ts:List Ty}{th th':Nat->Bool}{P:Nat->Int}{x:Int}(h:∀j,j < ts.length->th j=th' j):∀k,k<=ts.length->a1 ts th P x k=a1 ts th' P x k
 | 0,_=>rfl
 | k+1,hk=>by
  have hg:=List.getElem?_eq_getElem (show k < ts.length by omega);rw[zzk hg,zzk hg,zAm h k (by omega),h k (by omega)]
theorem zAn{ts:List Ty}{th th':Nat->Bool}(h:∀j,j < ts.length->th j=th' j)(L:List Int):zzp ts th L=zzp ts th' L:=by
 have e:zzo ts th=zzo ts th':=by
  funext s x
  unfold zzo;rw[zAm h ts.length (Nat.le_refl _)]
 unfold zzp;rw[e]
theorem RI.mono{ts:List Ty}{B B':Int}{s:(Nat->Int) × Int}(h:RI ts B s)(hB:B<=B'):RI ts B' s:=⟨by have:=h.net; omega,fun j=>by have:=h.pays j; omega,h.cap⟩
theorem zAo{ts:List Ty}{th:Nat->Bool}(hts:zyc ts):∀(L:List Int) (s:(Nat->Int) × Int) (B:Int),(∀x∈L,0<=x/\x<=1000)->RI ts B s->RI ts (B+1000 * L.length) (L.foldl (zzo ts th) s)
 | [],s,B,_,h=>h.mono (by show B<=B+1000 * ((0:Nat):Int); omega)
 | x::L,s,B,hL,h=>by
  have hx:=hL x (List.mem_cons_self ..);have h1:=(h.step (th:=th) hts (x:=x) (by omega)).mono (B':=B+1000) (by omega);refine(zAo hts L _ _ (fun x hx=>hL x (List.mem_cons_of_mem _ hx)) h1).mono ?_;rw[List.length_cons]; omega
theorem zAp{p:Pg}(h:VP p){th:Nat->Bool}{L:List Int}(hL:inL p.Losses L):0<=(zzp p.Treaties th L).2/\(zzp p.Treaties th L).2<=4000:=by
 have h4:=h.l4;have hl:=zyv hL;have:=(zAo (th:=th) h.tsOk L (fun _=>0,0) 0 (zyy hL h.ls) ⟨⟨Int.le_refl _,Int.le_refl _⟩,fun _=>⟨Int.le_refl _,Int.le_refl _⟩,zyj h.tsOk⟩).net;unfold zzp
 omega
def zAq(p:Pg):List (List Int):=(List.range (zxv p.Losses).toNat).map fun n:Nat=>zzw p.Losses (n:Int)
theorem zAr{p:Pg}(h:VP p){L:List Int}:L∈zAq p↔inL p.Losses L:=by
 unfold zAq;rw[List.mem_map]
 constructor
 ·rintro⟨n,_,rfl⟩; exact h.nthIn (by omega)
 ·intro hL;obtain⟨n,n0,n1,rfl⟩:=zzy hL;exact⟨n.toNat,List.mem_range.2 (by omega),by rw[show((n.toNat:Nat):Int)=n by omega]⟩
def zAs(p:Pg)(th:Nat->Bool):Rg:=wdL (fun L=>(zzp p.Treaties th L).2) (zAq p)
theorem zAt{p:Pg}{th th':Nat->Bool}(h:∀j,j < p.Treaties.length->th j=th' j):zAs p th=zAs p th':=by
 unfold zAs
 have:(fun L=>(zzp p.Treaties th L).2)=fun L=>(zzp p.Treaties th' L).2:=funext fun L=>by rw[zAn h]
 rw[this]
theorem zAu{p:Pg}(h:VP p)(th:Nat->Bool):IsB (inL p.Losses) (fun L=>(zzp p.Treaties th L).2) (zAs p th):=by
 obtain⟨L,hL⟩:=zyG h;refine(zzI (fun e=>?_) fun L hL=>?_).congr (fun L=>zAr h) fun _ _=>rfl
 ·have:=(zAr h).2 hL
  rw[e] at this; cases this
 ·have:=zAp h (th:=th) ((zAr h).1 hL); omega
theorem zke.bits{p:Pg}(h:VP p){b:Nat}(_hb:b < 2 ^ p.Treaties.length)(hs:zke p (zwZ b)):∀k t,p.Treaties[k]? = some t->b.testBit k=true->t.Of = -1:=fun k t hk hbk=>by
 have hkl:=(List.getElem?_eq_some_iff.1 hk).1;have h5:=h.t5
 have hm:((k:Nat):Int)∈zwZ b:=by unfold zwZ; exact zw0.2 ⟨by omega,by omega,hbk⟩
 have:=hs.ty h hm
 rwa [zz4 (t:=t) (by rw[Int.toNat_natCast]; exact hk)] at this
theorem zAv{p:Pg}(h:VP p){l:List Int}(hs:zke p l):ztZ p l=some (zAs p (inD l)):=by
 have h5:=h.t5;obtain⟨b,hb,hlb⟩:=zxg (n:=p.Treaties.length) (by omega) hs.inc;have hv:=zAe h hs;have hlen:=hs.len;have hof:=zke.bits h hb (by rw[hlb]; exact hs)
 have hth:∀j,j < p.Treaties.length->inD l j=b.testBit j:=fun j hj=>by
  rw[<- hlb]; exact zxf (n:=p.Treaties.length) (by omega) hj
 have hlF:l=zwY b p.Treaties.length:=by rw[<- hlb]; exact zAg (by omega) hb
 obtain⟨L0,hL0⟩:=zyG h;have hcan:zy0 (zAc p l) (zAc p l).Reports:=⟨L0,hL0,fun r hr=>by cases hr⟩;obtain⟨r,a1,a2⟩:=zza hv (number:=fun a=>ztx a) (g:=fun o=>o.society) (fun L _=>rfl) hcan
 have hnet:∀L,(zyi (l.map (tyA p.Treaties)) L).soc=(zzp p.Treaties (fun k=>b.testBit k) L).2:=fun L=>by
  rw[hlF]; exact zAl hof L
 have e:r=zAs p (inD l):=by
  rw[zAt hth];have q:IsB (inL p.Losses) (fun L=>(zzp p.Treaties (fun k=>b.testBit k) L).2) r:=a2.congr (fun L=>⟨fun q=>q.1,fun q=>⟨q,fun r hr=>by cases hr⟩⟩) fun L _=>hnet L;exact q.uniq (zAu h fun k=>b.testBit k)
 unfold ztZ;rw[zAd hs.inT (by omega),obs,zyQ hv,obs];have a1':ztS ({ p:=(zyK (zAc p l) (zyC (zAc p l))).p,kinds:=(zyK (zAc p l) (zyC (zAc p l))).kinds,shared:=(),played:=(zyK (zAc p l) (zyC (zAc p l))).played }:Wk) (fun a=>ztx a)=some r:=a1;rw[a1',obs,e]
theorem zAw{p:Pg}(h:VP p){l:List Int}(hs:zke p l):zt0 p l=some (decide ((zAs p (inD l)).Hi<=p.Reserve)):=by
 unfold zt0;rw[zAv h hs,obs]
theorem zAx{p:Pg}(h:VP p){l:List Int}(hl:zr0 l)(hs:zke p l):zt1 p l=some (zAs p (inD l),0):=by
 unfold zt1;rw[zzc h,obs,if_pos rfl,(zz3 h hl).some_of hs,obs,if_pos rfl,zAv h hs,obs]
def zAy(p:Pg)(l:List Int)(m:Int):Prop:=zke p l/\zz7 p.Treaties l<=m/\(zAs p (inD l)).Hi<=p.Reserve
theorem zAz{p:Pg}(h:VP p){l:List Int}(hl:zr0 l){m:Int}:Ev (zt6 p l m) (zAy p l m):=by
 have h5:=h.t5;unfold zt6;rw[zzc h,obs,if_pos rfl];refine((zz3 h hl).and fun hs=>(?_:Ev _ (zz7 p.Treaties l<=m/\(zAs p (inD l)).Hi<=p.Reserve)));have:=hs.len;rw[zAb h hs.inT (by omega),obs];refine Ev.ite fun _=>?_;rw[zAw h hs,obs];exact Ev.dec Iff.rfl
theorem zAA{l:List Int}(h:l.length<=100000):ztK l=some l:=by
 unfold ztK;rw[zqs (by simp only[List.length_nil]; omega)]; rfl
def zAB(p:Pg)(D:List Int):Prop:=zke p D/\(zAs p (inD D)).Hi<=p.Reserve
structure zAC (p:Pg) (M:List Int):Prop where
 good:zAB p M
 min:∀D,zAB p D->zz7 p.Treaties M < zz7 p.Treaties D\/(zz7 p.Treaties M=zz7 p.Treaties D/\(D=M\/shB M D=true))
theorem zAC.uniq{p:Pg}{M M':List Int}(h:zAC p M)(h':zAC p M'):M=M':=by
 rcases h.min M' h'.good with h1 | ⟨h1,h1'⟩ <;> rcases h'.min M h.good with h2 | ⟨h2,h2'⟩
 ·omega
 ·omega
 ·omega
 ·rcases h1' with h3 | h3
  ·exact h3.symm
  ·rcases h2' with h4 | h4
   ·exact h4
   ·rw[zw5 h3] at h4; cases h4
open Classical in
def zAD(p:Pg)(s:List Int × Bool)(D:List Int):List Int × Bool:=if zAB p D/\(s.2=true->zz7 p.Treaties D < zz7 p.Treaties s.1) then (D,true) else s
theorem zAE{p:Pg}{s:List Int × Bool}(h:s.2=true->zke p s.1)(D:List Int):(zAD p s D).2=true->zke p (zAD p s D).1:=by
 unfold zAD
 split
 ·rename_i hc; exact fun _=>hc.1.1
 ·exact h
theorem zAF{p:Pg}(h:VP p){x:Int}(hx:0<=x/\x<=1000){K:List Int->Bool->Int->Option (List Int × Bool)}:∀(q:List (List Int)) (s:List Int × Bool),(∀D∈q,Inc p.Treaties.length 0 D)->(s.2=true->zke p s.1) ->
  zt2 p x K q s.1 s.2=K (q.foldl (zAD p) s).1 (q.foldl (zAD p) s).2 (x+1)/\((q.foldl (zAD p) s).2=true->zke p (q.foldl (zAD p) s).1)
 | [],s,_,hs=>⟨by rw[zt2,zqs (fI (by omega))]; rfl,hs⟩
 | D::q,s,hq,hs=>by
  have h5:=h.t5;have hD:=zwW (hq D (List.mem_cons_self ..));have ih:=zAF h hx (K:=K) q (zAD p s D) (fun D hD=>hq D (List.mem_cons_of_mem _ hD)) (zAE hs D);refine⟨?_,ih.2⟩;refine Eq.trans ?_ ih.1;rw[zt2]
  have hD5:D.length<=5:=by omega
  by_cases hset:zke p D
  ·rw[(zz3 h (zr1 hD5 (by omega))).some_of hset,obs,if_pos rfl];have hg:zAB p D↔(zAs p (inD D)).Hi<=p.Reserve:=⟨fun q=>q.2,fun q=>⟨hset,q⟩⟩;obtain⟨M,b⟩:=s
   cases b with
   | true=>
    have hM:=hs rfl;have hMl:M.length<=p.Treaties.length:=hM.len
    show(if true=true then _ else _)=_
    rw[if_pos rfl,zAb h hset.inT (by omega),obs]
    show(zts p M).bind _=_
    rw[zAb h hM.inT (by show M.length<=9; omega),obs]
    by_cases hp:zz7 p.Treaties M<=zz7 p.Treaties D
    ·rw[if_pos hp]
     have e:zAD p (M,true) D=(M,true):=if_neg fun q=>by have:zz7 p.Treaties D < zz7 p.Treaties M:=q.2 rfl; omega
     rw[e]
    ·rw[if_neg hp,zAw h hset,obs]
     by_cases hk:(zAs p (inD D)).Hi<=p.Reserve
     ·have e:zAD p (M,true) D=(D,true):=if_pos ⟨hg.2 hk,fun _=>by show zz7 p.Treaties D < zz7 p.Treaties M; omega⟩;rw[decide_eq_true hk,if_pos rfl,zAA (by omega),obs,e]
     ·have e:zAD p (M,true) D=(M,true):=if_neg fun q=>hk (hg.1 q.1);rw[decide_eq_false hk,if_neg (by decide),e]
   | false=>
    show(if false=true then _ else _)=_
    rw[if_neg (by decide),zAw h hset,obs]
    by_cases hk:(zAs p (inD D)).Hi<=p.Reserve
    ·have e:zAD p (M,false) D=(D,true):=if_pos ⟨hg.2 hk,fun q=>(by cases q)⟩;rw[decide_eq_true hk,if_pos rfl,zAA (by omega),obs,e]
    ·have e:zAD p (M,false) D=(M,false):=if_neg fun q=>hk (hg.1 q.1);rw[decide_eq_false hk,if_neg (by decide),e]
  ·rw[(zz3 h (zr1 hD5 (by omega))).some_not hset,obs,if_neg (by decide)];have e:zAD p s D=s:=if_neg fun q=>hset q.1.1;rw[e]
theorem zAG{p:Pg}(h:VP p):∀(d e k:Nat) (s:List Int × Bool),k+e=p.Treaties.length+1->e < d->(s.2=true->zke p s.1)->zt3 p d s.1 s.2 (k:Int)=some ((zrv (fun s=>zrw p.Treaties.length s [] 0) e k).foldl (zAD p) s)
 | 0,_,_,_,_,hd,_=>by omega
 | d+1,0,k,s,hk,hd,hs=>by
  rw[zt3,if_neg (by omega)]; rfl
 | d+1,e+1,k,s,hk,hd,hs=>by
  have h5:=h.t5
  have hinc:∀D∈zrw p.Treaties.length k [] 0,Inc p.Treaties.length 0 D:=fun D hD=>by
   obtain⟨T,h1,_,h3⟩:=zwV.1 hD;rw[List.nil_append] at h1;rw[h1]; exact h3
  obtain⟨q1,q2⟩:=zAF h (x:=(k:Int)) (by omega) (K:=zt3 p d) (zrw p.Treaties.length k [] 0) s hinc hs;rw[zt3,if_pos (by omega)];unfold zrz;rw[zqs (by omega),obs,Int.toNat_natCast,Int.toNat_natCast,q1,show(k:Int)+1=((k+1:Nat):Int) by omega];refine(zAG h d e (k+1) _ (by omega) (by omega) q2).trans ?_
  show _=some ((zrw p.Treaties.length k [] 0++zrv (fun s=>zrw p.Treaties.length s [] 0) e (k+1)).foldl (zAD p) s)
  rw[List.foldl_append]
theorem zAH{p:Pg}(h:VP p):zt4 p=some ((zoj p.Treaties.length).foldl (zAD p) ([],false)):=by
 have h5:=h.t5;unfold zt4;rw[zqs (fI (by omega))]
 exact zAG h _ (p.Treaties.length+1) 0 ([],false) (by omega) (by omega) fun q=>by cases q
structure zAI (p:Pg) (A:List (List Int)) (s:List Int × Bool):Prop where
 yes:s.2=true->s.1∈A/\zAB p s.1/\∀D∈A,zAB p D->zz7 p.Treaties s.1 < zz7 p.Treaties D\/(zz7 p.Treaties s.1=zz7 p.Treaties D/\(D=s.1\/shB s.1 D=true))
 no:s.2=false->s.1=[]/\∀D∈A,¬ zAB p D
theorem zAJ{p:Pg}:∀(q A:List (List Int)) (s:List Int × Bool),(A++q).Pairwise (fun a b=>shB a b=true)->zAI p A s->zAI p (A++q) (q.foldl (zAD p) s)
 | [],A,s,_,h=>by rw[List.append_nil]; exact h
 | D::q,A,s,hp,h=>by
  have e:A++D::q=(A++[D])++q:=by rw[List.append_assoc]; rfl
  rw[e] at hp ⊢;refine zAJ q (A++[D]) (zAD p s D) hp ?_;have hAD:∀a∈A,shB a D=true:=fun a ha=>(List.pairwise_append.1 (List.pairwise_append.1 hp).1).2.2 a ha D (List.mem_singleton.2 rfl)
  have hmem:∀D',D'∈A++[D]->D'∈A\/D'=D:=fun D' hD'=>by
   rcases List.mem_append.1 hD' with q | q
   ·exact .inl q
   ·exact .inr (List.mem_singleton.1 q)
  obtain⟨M,b⟩:=s
  by_cases hc:zAB p D/\(b=true->zz7 p.Treaties D < zz7 p.Treaties M)
  ·have e2:zAD p (M,b) D=(D,true):=if_pos hc;rw[e2];refine⟨fun _=>⟨List.mem_append_right _ (List.mem_singleton.2 rfl),hc.1,fun D' hD' hg=>?_⟩,fun q=>(by cases q)⟩
   rcases hmem D' hD' with hq | rfl
   ·cases b with
    | true=>
     have h1:zz7 p.Treaties D < zz7 p.Treaties M:=hc.2 rfl
     rcases (h.yes rfl).2.2 D' hq hg with h2 | ⟨h2,_⟩
     ·have h2:zz7 p.Treaties M < zz7 p.Treaties D':=h2;exact .inl (by show zz7 p.Treaties D < _; omega)
     ·have h2:zz7 p.Treaties M=zz7 p.Treaties D':=h2;exact .inl (by show zz7 p.Treaties D < _; omega)
    | false=>exact absurd hg ((h.no rfl).2 D' hq)
   ·exact .inr ⟨rfl,.inl rfl⟩
  ·have e2:zAD p (M,b) D=(M,b):=if_neg hc;rw[e2]
   cases b with
   | true=>
    refine⟨fun _=>?_,fun q=>(by cases q)⟩;obtain⟨y1,y2,y3⟩:=h.yes rfl;refine⟨List.mem_append_left _ y1,y2,fun D' hD' hg=>?_⟩
    rcases hmem D' hD' with hq | rfl
    ·exact y3 D' hq hg
    ·have h1:¬ zz7 p.Treaties D' < zz7 p.Treaties M:=fun q=>hc ⟨hg,fun _=>q⟩
     rcases Int.lt_or_eq_of_le (show zz7 p.Treaties M<=zz7 p.Treaties D' by omega) with h2 | h2
     ·exact .inl h2
     ·exact .inr ⟨h2,.inr (hAD M y1)⟩
   | false=>
    refine⟨fun q=>(by cases q),fun _=>⟨(h.no rfl).1,fun D' hD' hg=>?_⟩⟩
    rcases hmem D' hD' with hq | rfl
    ·exact(h.no rfl).2 D' hq hg
    ·exact hc ⟨hg,fun q=>(by cases q)⟩
theorem zAK{p:Pg}(h:VP p):(∃M,zt4 p=some (M,true)/\zAC p M)\/(zt4 p=some ([],false)/\∀D,¬ zAB p D):=by
 have hi:=zAJ (p:=p) (zoj p.Treaties.length) [] ([],false) (zw9 _) ⟨fun q=>(by cases q),fun _=>⟨rfl,fun D hD=>by cases hD⟩⟩;rw[List.nil_append] at hi;rw[zAH h];generalize (zoj p.Treaties.length).foldl (zAD p) ([],false)=s at hi;have hall:∀D,zAB p D->D∈zoj p.Treaties.length:=fun D hD=>zwX.2 hD.1.inc;obtain⟨M,b⟩:=s
 cases b with
 | true=>
  obtain⟨_,y2,y3⟩:=hi.yes rfl;exact .inl ⟨M,rfl,y2,fun D hD=>y3 D (hall D hD) hD⟩
 | false=>
  obtain⟨n1,n2⟩:=hi.no rfl;have n1:M=[]:=n1;subst n1;exact .inr ⟨rfl,fun D hD=>n2 D (hall D hD) hD⟩
theorem zAL{p:Pg}(h:VP p):(∃M,zt5 p=some (M,zz7 p.Treaties M,0)/\zAC p M)\/(zt5 p=some ([],0,10)/\∀D,¬ zAB p D):=by
 have h5:=h.t5;unfold zt5;rw[zzc h,obs,if_pos rfl]
 rcases zAK h with ⟨M,q1,q2⟩ | ⟨q1,q2⟩
 ·have hl:=q2.good.1.len;refine .inl ⟨M,?_,q2⟩;rw[q1,obs]
  show(zts p M).bind _=_
  rw[zAb h q2.good.1.inT (by omega),obs]
 ·refine .inr ⟨?_,q2⟩;rw[q1,obs]; rfl
end
end Go.Proofs.Ytkcmdghjgoaggaa

namespace Go.Proofs.Ytkcmdghjgoaggaa
open _root_.Go.Proofs.Try
open Go.Abs
set_option maxRecDepth 100000
noncomputable section
def zAM(p:Pg):Prop:=p.Losses.length<=7/\p.Treaties.length<=8/\p.Reports.length<=8
theorem VP.thin{p:Pg}(h:VP p):zAM p:=by
 have:=h.l4; have:=h.t5; have:=h.r5;exact⟨by omega,by omega,by omega⟩
def zAN(p:Pg):Prop:=zAM p/\(VP p->zxv p.Losses<=300)
theorem zAO{p:Pg}:Ev (zul p) (zAN p):=by
 unfold zul zAN zAM
 by_cases h1:p.Losses.length<=7
 ·rw[if_pos (by omega)]
  by_cases h2:p.Treaties.length<=8
  ·rw[if_pos (by omega)]
   by_cases h3:p.Reports.length<=8
   ·rw[if_pos (by omega),zxZ (by omega) (by omega) (by omega),obs]
    by_cases hf:zxw p=0
    ·have hv:=zxx.1 hf;rw[if_pos hf,zxY hv,obs];exact Ev.dec ⟨fun q=>⟨⟨h1,h2,h3⟩,fun _=>q⟩,fun q=>q.2 hv⟩
    ·rw[if_neg hf];exact Ev.tt ⟨⟨h1,h2,h3⟩,fun q=>absurd (zxx.2 q) hf⟩
   ·rw[if_neg (by omega)]; exact Ev.ff fun q=>h3 q.1.2.2
  ·rw[if_neg (by omega)]; exact Ev.ff fun q=>h2 q.1.2.1
 ·rw[if_neg (by omega)]; exact Ev.ff fun q=>h1 q.1.1
theorem zAP{p:Pg}:Ev (zur p) (VP p/\zxv p.Losses<=300):=by
 unfold zur
 by_cases ht:zAN p
 ·obtain⟨⟨a,b,c⟩,ht2⟩:=ht;rw[zAO.some_of ⟨⟨a,b,c⟩,ht2⟩,obs,if_pos rfl,zxZ (by omega) (by omega) (by omega),obs];exact Ev.dec (zxx.trans ⟨fun q=>⟨q,ht2 q⟩,fun q=>q.1⟩)
 ·rw[zAO.some_not ht,obs,if_neg (by decide)];exact Ev.ff fun q=>ht ⟨q.1.thin,fun _=>q.2⟩
theorem zAQ{p:Pg}(h:zAM p):zui p=some p:=by
 obtain⟨h1,h2,h3⟩:=h
 have k2:zuf p p.Losses p.Treaties 1000000 p.Reserve [] 0=some p:=by
  refine(zrW (l:=p.Reports) (fun r=>r) (F:=fun d acc x=>zuf p p.Losses p.Treaties d p.Reserve acc x) (fun acc=>some ({ Losses:=p.Losses,Reserve:=p.Reserve,Treaties:=p.Treaties,Reports:=acc }:Pg)) (fun d k acc a hk ha=>?_) (fun d acc=>?_) (d:=1000000) (by omega)).trans (by rw[List.map_id'])
  ·have hkl:=(List.getElem?_eq_some_iff.1 hk).1
   show zuf p p.Losses p.Treaties (d+1) _ _ _=_
   rw[zuf,if_pos (by omega),zrQ hk,obs,obs]
   show(some a.Paid).bind _=_
   rw[obs,zqs (by omega),zqs (fI (by omega))]
  ·show zuf p p.Losses p.Treaties (d+1) _ _ _=_
   rw[zuf,if_neg (Int.lt_irrefl _)]
 have k1:zug p p.Losses 1000000 p.Reserve [] [] 0=some p:=by
  refine(zrW (l:=p.Treaties) (fun r=>r) (F:=fun d acc x=>zug p p.Losses d p.Reserve acc [] x) (fun acc=>zuf p p.Losses acc 1000000 p.Reserve [] 0) (fun d k acc a hk ha=>?_) (fun d acc=>?_) (d:=1000000) (by omega)).trans (by rw[List.map_id']; exact k2)
  ·have hkl:=(List.getElem?_eq_some_iff.1 hk).1
   show zug p p.Losses (d+1) _ _ _ _=_
   rw[zug,if_pos (by omega),zrQ hk,obs,zqs (by omega),zqs (fI (by omega))]
  ·show zug p p.Losses (d+1) _ _ _ _=_
   rw[zug,if_neg (Int.lt_irrefl _)]
 refine(zrW (l:=p.Losses) (fun r=>r) (F:=fun d acc x=>zuh p d acc p.Reserve [] [] x) (fun acc=>zug p acc 1000000 p.Reserve [] [] 0) (fun d k acc a hk ha=>?_) (fun d acc=>?_) (d:=1000000) (by omega)).trans (by rw[List.map_id']; exact k1)
 ·have hkl:=(List.getElem?_eq_some_iff.1 hk).1
  show zuh p (d+1) _ _ _ _ _=_
  rw[zuh,if_pos (by omega),zrQ hk,obs]
  show(some a).bind _=_
  rw[obs,zqs (by omega),zqs (fI (by omega))]
 ·show zuh p (d+1) _ _ _ _ _=_
  rw[zuh,if_neg (Int.lt_irrefl _)]
theorem zAR{l:List Int}(h:l.length<=1000):zud l=some l:=by
 unfold zud;rw[zqs (show([]:List Int).length+l.length<=1048576 by show 0+_<=_; omega)]; rfl
theorem zAS{l:List Int}(hl:l.length<=1000):zuk l l=some true:=by
 unfold zuk;rw[if_pos rfl]
 have key:=zrZ (l:=l) (F:=zuj l l) (ok:=fun _=>True) (bad:=some false) (fin:=some true) (fun d k a ha=>by
  have hk:=(List.getElem?_eq_some_iff.1 ha).1;refine⟨fun _=>?_,fun h=>absurd trivial h⟩
  rw[zuj,if_pos (by omega),zrQ ha,obs,obs,if_pos rfl,zqs (fI (by omega))]) (fun d=>by rw[zuj,if_neg (Int.lt_irrefl _)]) (d:=l.length+1) (by omega)
 exact key.1 fun _ _=>trivial
def zAT(n:Int)(rs:List Rpt):Pg:={ Losses:=[{ Lo:=100,Hi:=120 },{ Lo:=300,Hi:=300 }],Reserve:=n,Treaties:=[{ Kind:=0,Part:=25,Above:=0,Most:=0,Times:=0,Price:=50,Of:=-1 },{ Kind:=1,Part:=0,Above:=50,Most:=100,Times:=0,Price:=30,Of:=-1 },{ Kind:=1,Part:=0,Above:=20,Most:=40,Times:=1,Price:=5,Of:=0 }],Reports:=rs }
def zAU:List Rpt:=[{ Treaty:=0,Paid:={ Lo:=103,Hi:=110 } },{ Treaty:=2,Paid:={ Lo:=45,Hi:=46 } }]
theorem zAV(rs:List Rpt):zun rs=some (zAT 200 rs):=rfl
theorem zAW:zuo=some zAU:=rfl
theorem zAX(n:Int):zup n=some (zAT n []):=rfl
theorem zAY{a b hi:Int}(h1:0<=a)(h2:a<=b)(h3:b<=hi):RgV { Lo:=a,Hi:=b } hi:=⟨h1,h2,h3⟩
theorem zAZ{n:Int}{rs:List Rpt}(hn:0<=n/\n<=10000)(hr:rs.length<=5)(hrs:∀r∈rs,(0<=r.Treaty/\r.Treaty<=2)/\RgV r.Paid 10000):VP (zAT n rs):=by
 refine { ls:=fun r hr=>?_,res:=hn,ts:=fun t ht=>?_,of':=fun i t ht=>?_,rs:=fun r hr=>?_,l4:=by show 2<=4; omega,t5:=by show 3<=5; omega,r5:=hr,many:=by show zxv [{ Lo:=100,Hi:=120 },{ Lo:=300,Hi:=300 }]<=1500; decide }
 ·rcases List.mem_cons.1 hr with rfl | hr
  ·exact zAY (by omega) (by omega) (by omega)
  rcases List.mem_cons.1 hr with rfl | hr
  ·exact zAY (by omega) (by omega) (by omega)
  ·cases hr
 ·rcases List.mem_cons.1 ht with rfl | ht
  ·exact⟨by unfold zgo; decide,by decide,by decide⟩
  rcases List.mem_cons.1 ht with rfl | ht
  ·exact⟨by unfold zgo; decide,by decide,by decide⟩
  rcases List.mem_cons.1 ht with rfl | ht
  ·exact⟨by unfold zgo; decide,by decide,by decide⟩
  ·cases ht
 ·match i,ht with
  | 0,ht=>cases ht; exact⟨by decide,by decide⟩
  | 1,ht=>cases ht; exact⟨by decide,by decide⟩
  | 2,ht=>cases ht; exact⟨by decide,by decide⟩
  | k+3,ht=>cases ht
 ·exact⟨(hrs r hr).1,(hrs r hr).2⟩
theorem vp3(n:Int)(hn:0<=n/\n<=10000):VP (zAT n []):=zAZ hn (by show 0<=5; omega) fun r hr=>by cases hr
theorem zA0:VP (zAT 200 zAU):=zAZ (by omega) (by show 2<=5; omega) fun r hr=>by
 rcases List.mem_cons.1 hr with rfl | hr
 ·exact⟨⟨by decide,by decide⟩,zAY (by omega) (by omega) (by omega)⟩
 rcases List.mem_cons.1 hr with rfl | hr
 ·exact⟨⟨by decide,by decide⟩,zAY (by omega) (by omega) (by omega)⟩
 ·cases hr
theorem zA1{p:Pg}(h:VP p){D:List Int}(hD:Inc p.Treaties.length 0 D):∃b,b < 2 ^ p.Treaties.length/\zwZ b=D:=zxg (by have:=h.t5; omega) hD
theorem zA2:zke (zAT 200 []) [1]:=⟨List.pairwise_singleton _ _,fun v hv=>by
 have:=List.mem_singleton.1 hv; subst this
 exact⟨⟨by decide,by decide⟩,by decide +kernel⟩⟩
theorem zA3:zAC (zAT 300 []) [0,1]:=by
 have hs:zke (zAT 300 []) [0,1]:=⟨by simp,fun v hv=>by
  rcases List.mem_cons.1 hv with rfl | hv
  ·exact⟨⟨by decide,by decide⟩,by decide +kernel⟩
  ·have:=List.mem_singleton.1 hv; subst this
   exact⟨⟨by decide,by decide⟩,by decide +kernel⟩⟩
 refine⟨⟨hs,by decide +kernel⟩,fun D hD=>?_⟩;obtain⟨b,hb,rfl⟩:=zA1 (vp3 300 (by omega)) hD.1.inc;have hb:b < 8:=hb
 have:b=0\/b=1\/b=2\/b=3\/b=4\/b=5\/b=6\/b=7:=by omega
 rcases this with rfl | rfl | rfl | rfl | rfl | rfl | rfl | rfl
 ·exact absurd hD.2 (by decide +kernel)
 ·exact absurd hD.2 (by decide +kernel)
 ·exact absurd hD.2 (by decide +kernel)
 ·have e:zwZ 3=[0,1]:=by decide +kernel
  rw[e]; exact .inr ⟨rfl,.inl rfl⟩
 ·exact absurd (hD.1.2 2 (by decide +kernel)).2 (by decide +kernel)
 ·exact absurd (hD.1.2 2 (by decide +kernel)).2 (by decide +kernel)
 ·exact absurd (hD.1.2 2 (by decide +kernel)).2 (by decide +kernel)
 ·exact absurd (hD.1.2 2 (by decide +kernel)).2 (by decide +kernel)
def okT(L:List Int):Bool:=decide (103<=(zyi (zAT 200 zAU).Treaties L).pays 0/\(zyi (zAT 200 zAU).Treaties L).pays 0<=110) && decide (45<=(zyi (zAT 200 zAU).Treaties L).pays 2/\(zyi (zAT 200 zAU).Treaties L).pays 2<=46)
theorem zA4:(zAq (zAT 200 zAU)).all (fun L=>!okT L)=true:=by decide +kernel
theorem zA5:¬ zy0 (zAT 200 zAU) zAU:=by
 rintro⟨L,hL,hA⟩
 have h1:=hA _ (List.mem_cons_self ..);have h2:=hA _ (List.mem_cons_of_mem _ (List.mem_cons_self ..));have h3:=List.all_eq_true.1 zA4 L ((zAr zA0).2 hL)
 have h4:okT L=true:=by
  unfold okT;rw[Bool.and_eq_true_iff];exact⟨decide_eq_true h1,decide_eq_true h2⟩
 rw[h4] at h3; cases h3
theorem fp0:FP (zAT 200 zAU) 0:=⟨[112,300],⟨⟨by decide,by decide⟩,⟨by decide,by decide⟩,trivial⟩,fun r hr=>by
 have hr:r∈[({ Treaty:=0,Paid:={ Lo:=103,Hi:=110 } }:Rpt)]:=hr;have:=List.mem_singleton.1 hr; subst this
 exact(by decide +kernel:(103:Int)<=(zyi (zAT 200 zAU).Treaties [112,300]).pays 0/\(zyi (zAT 200 zAU).Treaties [112,300]).pays 0<=110)⟩
theorem zA6:zua (zAT 200 zAU)=some (1,0):=by
 rcases zzY zA0 with ⟨j,a1,a2,a3,a4⟩ | ⟨a1,a2⟩
 ·have:j=1:=zzZ (p:=zAT 200 zAU) a2 a3 (j':=1) zA5 fun i hi=>by
   rw[show i=0 by omega]; exact fp0
  subst this; exact a4
 ·exact absurd (a1 1 (by show 1 < 2; omega)) zA5
theorem zA7:zuc (zAT 200 zAU)=some ([0],0):=by
 obtain⟨M,q1,q2⟩:=zzW zA0
 have hm:zzu 2 (PL (zAT 200 zAU)) [0]:=by
  refine⟨⟨List.pairwise_singleton _ _,fun v hv=>by have:=List.mem_singleton.1 hv; subst this; exact⟨by decide,by decide⟩⟩,⟨[100,300],⟨⟨by decide,by decide⟩,⟨by decide,by decide⟩,trivial⟩,fun j hj hs=>?_⟩,fun D hD hP=>?_⟩
  ·have hj:j < 2:=hj
   have:j=0\/j=1:=by omega
   rcases this with rfl | rfl
   ·exact absurd hs (by decide +kernel)
   ·refine(zzB (p:=zAT 200 zAU) (j:=1) rfl).2 ?_;exact(by decide +kernel:(45:Int)<=(zyi (zAT 200 zAU).Treaties [100,300]).pays 2/\(zyi (zAT 200 zAU).Treaties [100,300]).pays 2<=46)
  ·obtain⟨b,hb,rfl⟩:=zxg (n:=2) (by omega) hD;have hb:b < 4:=hb
   have:b=0\/b=1\/b=2\/b=3:=by omega
   rcases this with rfl | rfl | rfl | rfl
   ·refine absurd (zzG.2 ((PL.congr fun j hj=>?_).1 hP)) zA5;have hj:j < 2:=hj
    have:j=0\/j=1:=by omega
    rcases this with rfl | rfl <;> decide +kernel
   ·exact .inl (by decide +kernel)
   ·exact .inr (by decide +kernel)
   ·exact .inr (by decide +kernel)
 rw[q2.uniq hm] at q1;exact q1
theorem zA8:zy0 (zAT 200 []) (zAT 200 []).Reports:=⟨[100,300],⟨⟨by decide,by decide⟩,⟨by decide,by decide⟩,trivial⟩,fun r hr=>by cases hr⟩
theorem zA9:ztN (zAT 200 []) [100,300]=some ([100,100,45],200,0):=by
 rw[zzf (vp3 200 (by omega)) (L:=[100,300]) ⟨⟨by decide,by decide⟩,⟨by decide,by decide⟩,trivial⟩]
 have e1:lN (zAT 200 []).Treaties.length (zyi (zAT 200 []).Treaties [100,300]).pays=[100,100,45]:=by decide +kernel
 have e2:(zyi (zAT 200 []).Treaties [100,300]).soc=200:=by decide +kernel
 rw[e1,e2]
theorem zBa{r:Rg}{a b:Int}(h1:r.Lo=a)(h2:r.Hi=b):r={ Lo:=a,Hi:=b }:=by cases r; subst h1; subst h2; rfl
theorem zBb:ztX (zAT 200 [])=some (bsN 3 (bdF (zAT 200 []) (trL (zAT 200 []))),0):=by
 have h:=vp3 200 (by omega);obtain⟨bs,q1,q2⟩:=zzi h zA8;rw[q1,q2.uniq (zzL h zA8).1]; rfl
theorem bd0:bdF (zAT 200 []) (trL (zAT 200 [])) 0={ Pays:={ Lo:=100,Hi:=105 },Keeps:={ Lo:=55,Hi:=55 } }:=by
 have e1:=zBa (r:=(bdF (zAT 200 []) (trL (zAT 200 [])) 0).Pays) (a:=100) (b:=105) (by decide +kernel) (by decide +kernel);have e2:=zBa (r:=(bdF (zAT 200 []) (trL (zAT 200 [])) 0).Keeps) (a:=55) (b:=55) (by decide +kernel) (by decide +kernel);generalize bdF (zAT 200 []) (trL (zAT 200 [])) 0=b at e1 e2
 cases b; simp only at e1 e2; rw[e1,e2]
theorem bd2:bdF (zAT 200 []) (trL (zAT 200 [])) 2={ Pays:={ Lo:=45,Hi:=50 },Keeps:={ Lo:=45,Hi:=50 } }:=by
 have e1:=zBa (r:=(bdF (zAT 200 []) (trL (zAT 200 [])) 2).Pays) (a:=45) (b:=50) (by decide +kernel) (by decide +kernel);have e2:=zBa (r:=(bdF (zAT 200 []) (trL (zAT 200 [])) 2).Keeps) (a:=45) (b:=50) (by decide +kernel) (by decide +kernel);generalize bdF (zAT 200 []) (trL (zAT 200 [])) 2=b at e1 e2
 cases b; simp only at e1 e2; rw[e1,e2]
theorem zBc:ztY (zAT 200 [])=some ({ Lo:=200,Hi:=215 },0):=by
 have h:=vp3 200 (by omega);obtain⟨r,q1,q2⟩:=zzj h zA8;rw[q1,q2.uniq (zzL h zA8).2,zBa (r:=wdL (fun L=>(zyi (zAT 200 []).Treaties L).soc) (trL (zAT 200 []))) (a:=200) (b:=215) (by decide +kernel) (by decide +kernel)]
theorem zBd:zt1 (zAT 200 []) [1]=some ({ Lo:=300,Hi:=320 },0):=by
 rw[zAx (vp3 200 (by omega)) (by unfold zr0; decide) zA2,zBa (r:=zAs (zAT 200 []) (inD [1])) (a:=300) (b:=320) (by decide +kernel) (by decide +kernel)]
theorem zBe:zt5 (zAT 300 [])=some ([0,1],80,0):=by
 rcases zAL (vp3 300 (by omega)) with ⟨M,q1,q2⟩ | ⟨_,q2⟩
 ·rw[q1,q2.uniq zA3]; rfl
 ·exact absurd zA3.good (q2 _)
theorem zBf:zt6 (zAT 300 []) [0,1] 80=some true:=
 (zAz (vp3 300 (by omega)) (by unfold zr0; decide)).some_of ⟨zA3.good.1,by decide +kernel,zA3.good.2⟩
theorem f64{n:Int}(h:-1000000<=n/\n<=1000000):zl7 .i64 n:=fI (by omega)
theorem zBg:zuq=some true:=by
 have i0:idx (bsN 3 (bdF (zAT 200 []) (trL (zAT 200 [])))) 0=some { Pays:={ Lo:=100,Hi:=105 },Keeps:={ Lo:=55,Hi:=55 } }:=by
  have:=zrQ (zzK (n:=3) (f:=bdF (zAT 200 []) (trL (zAT 200 []))) (k:=0) (by omega));rw[bd0] at this; exact this
 have i2:idx (bsN 3 (bdF (zAT 200 []) (trL (zAT 200 [])))) 2=some { Pays:={ Lo:=45,Hi:=50 },Keeps:={ Lo:=45,Hi:=50 } }:=by
  have:=zrQ (zzK (n:=3) (f:=bdF (zAT 200 []) (trL (zAT 200 []))) (k:=2) (by omega));rw[bd2] at this; exact this
 have hl:((bsN 3 (bdF (zAT 200 []) (trL (zAT 200 [])))).length:Int)=3:=by rw[zzJ]; rfl
 have s1:zuk [100,100,45] [100,100,45]=some true:=zAS (by decide);have s2:zuk [0,1] [0,1]=some true:=zAS (by decide);have s3:zuk [0] [0]=some true:=zAS (by decide);have f:∀n:Int,-1000000<=n/\n<=1000000->zl7 .i64 n:=fun n h=>f64 h;unfold zuq
 simp only[zAV,zAW,zAX,obs,zA9,zBb,zBc,zBd,zBe,zA6,zA7,s1,s2,s3,if_true,hl,i0,i2,zum]
 rw[zqs (f 100 (by omega)),zqs (f 100 (by omega)),zqs (f 105 (by omega)),zqs (f 105 (by omega)),zqs (f 55 (by omega)),zqs (f 55 (by omega)),zqs (f 55 (by omega)),zqs (f 55 (by omega)),if_pos (by decide),zqs (f 45 (by omega)),zqs (f 45 (by omega)),zqs (f 50 (by omega)),zqs (f 50 (by omega)),zqs (f 45 (by omega)),zqs (f 45 (by omega)),zqs (f 50 (by omega)),zqs (f 50 (by omega)),if_pos (by decide),zqs (f 200 (by omega)),zqs (f 200 (by omega)),zqs (f 215 (by omega)),zqs (f 215 (by omega)),if_pos (by decide),zqs (f 300 (by omega)),zqs (f 300 (by omega)),zqs (f 320 (by omega)),zqs (f 320 (by omega)),if_pos (by decide)]
 simp only[zBf,obs,if_true]
theorem aw:((zuq).bind fun r=>some r)=some true:=by rw[zBg]; rfl
theorem u8w{x:Int}(h:zl7 .u8 x):zmc .i64 x=x/\0<=x/\x < 256:=by
 have h':0<=x/\x < 256:=h;exact⟨wz (fI (by omega)),h'⟩
theorem zBh{x:Int}(h:zl7 .u16 x):zmc .i64 x=x/\0<=x/\x < 65536:=by
 have h':0<=x/\x < 65536:=h;exact⟨wz (fI (by omega)),h'⟩
theorem IsB.sub{S S':List Int->Prop}{g:List Int->Int}{r r':Rg}(h:IsB S g r)(h':IsB S' g r')(hS:∀L,S' L->S L):r.Lo<=r'.Lo/\r'.Hi<=r.Hi:=by
 obtain⟨⟨a,a1,a2⟩,⟨b,b1,b2⟩,_⟩:=h';have q1:=h.2.2 a (hS a a1);have q2:=h.2.2 b (hS b b1)
 omega
def zBi(n:Int):Ty:={ Kind:=0,Part:=n,Above:=0,Most:=0,Times:=0,Price:=0,Of:=-1 }
theorem zBj{n x:Int}{P:Nat->Int}:(dN [zBi n] P x 1).pays 0=x * n / 100/\(dN [zBi n] P x 1).soc=x - x * n / 100:=⟨rfl,rfl⟩
def zBk(n:Int)(L:List Int):Int:=L.foldl (fun a x=>a+x * n / 100) 0
def zBl(n:Int)(L:List Int):Int:=L.foldl (fun a x=>a+x - x * n / 100) 0
theorem zBm{n:Int}:∀(L:List Int) (s:DS) (a b:Int),s.pays 0=a->s.soc=b->(L.foldl (zyh [zBi n]) s).pays 0=L.foldl (fun a x=>a+x * n / 100) a/\(L.foldl (zyh [zBi n]) s).soc=L.foldl (fun a x=>a+x - x * n / 100) b
 | [],_,_,_,h1,h2=>⟨h1,h2⟩
 | x::L,s,a,b,h1,h2=>by
  refine zBm L (zyh [zBi n] s x) _ _ ?_ ?_
  ·show s.pays 0+(dN [zBi n] s.pays x 1).pays 0=a+x * n / 100
   rw[zBj.1,h1]
  ·show s.soc+(dN [zBi n] s.pays x 1).soc=b+x - x * n / 100
   rw[zBj.2,h2]; omega
theorem zBn{n:Int}(L:List Int):(zyi [zBi n] L).pays 0=zBk n L/\(zyi [zBi n] L).soc=zBl n L:=zBm L zyg 0 0 rfl rfl
theorem zBo{p:Pg}(h:VP p){n:Int}(hn:1<=n/\n<=100):VP { Losses:=p.Losses,Reserve:=p.Reserve,Treaties:=[zBi n],Reports:=[] }:=by
 refine { ls:=h.ls,res:=h.res,ts:=fun t ht=>?_,of':=fun i t ht=>?_,rs:=fun r hr=>(by cases hr),l4:=h.l4,t5:=by show 1<=5; omega,r5:=Nat.zero_le _,many:=h.many }
 ·have:=List.mem_singleton.1 ht;subst this;exact⟨.inl ⟨rfl,hn,rfl,rfl,rfl⟩,by show(0:Int)<=0; omega,by show(0:Int)<=1000; omega⟩
 ·have:=List.mem_singleton.1 (List.mem_of_getElem? ht);subst this;exact⟨Int.le_refl _,by show(-1:Int)<=_; omega⟩
theorem zBp{n:Int}(hn:1<=n/\n<=100):∀(L:List Int) (a b:Int),(∀x∈L,0<=x/\x<=1000)->(a<=L.foldl (fun a x=>a+x * n / 100) a/\L.foldl (fun a x=>a+x * n / 100) a<=a+1000 * L.length)/\b<=L.foldl (fun a x=>a+x - x * n / 100) b/\L.foldl (fun a x=>a+x - x * n / 100) b<=b+1000 * L.length
 | [],a,b,_=>by
  refine⟨⟨Int.le_refl _,?_⟩,Int.le_refl _,?_⟩
  ·show a<=a+1000 * ((0:Nat):Int); omega
  ·show b<=b+1000 * ((0:Nat):Int); omega
 | x::L,a,b,hL=>by
  have hx:=hL x (List.mem_cons_self ..);have hp:=(zx5 (t:=zBi n) (a:=x) hn (by omega)).2;have hp:0<=x * n / 100/\x * n / 100<=x:=hp;obtain⟨⟨i1,i2⟩,i3,i4⟩:=zBp hn L (a+x * n / 100) (b+x - x * n / 100) fun x hx=>hL x (List.mem_cons_of_mem _ hx);rw[List.foldl_cons,List.foldl_cons,List.length_cons]
  omega
theorem zBq{p:Pg}{which part:Int}(_:zsp p)(hw:zl7 .u16 which)(hq:zl7 .u8 part):zut p which part=some true:=by
 unfold zut
 refine zAP.pick (fun hv=>?_) fun _=>by rw[if_neg (by decide),aw]
 have h:=hv.1;have hm:=h.many;have hm1:=h.prodPos;obtain⟨w1,w2⟩:=zBh hw;obtain⟨p1,p2⟩:=u8w hq;obtain⟨n,hn⟩:∃n,n=1+part % 100:=⟨_,rfl⟩
 have hn2:1<=n/\n<=100:=by omega
 have hx:=zBo h hn2;have m1:=Int.emod_nonneg which (show zxv p.Losses ≠ 0 by omega);have m2:=Int.emod_lt_of_pos which (show 0 < zxv p.Losses by omega);have hin:=h.nthIn (n:=which % zxv p.Losses) m1;have hT9:=l9 h hin;have hT1:=zyy hin h.ls;have eM:zsx { Losses:=p.Losses,Reserve:=p.Reserve,Treaties:=[zBi n],Reports:=[] }=some (zxv p.Losses):=zxY hx;have eN:zsC { Losses:=p.Losses,Reserve:=p.Reserve,Treaties:=[zBi n],Reports:=[] } (which % zxv p.Losses)=some (zzw p.Losses (which % zxv p.Losses)):=zzA hx (by omega);have eP:=zAQ hx.thin;have ePl:=zzf hx (L:=zzw p.Losses (which % zxv p.Losses)) hin;unfold zBi at eM eN eP ePl;rw[if_pos rfl,p1,zqs p2.1,zqs (by omega),zqs (fI (by omega)),zqs (fI (by omega)),<- hn,eM,obs,w1,zqs w2.1,zqs (by omega),zqs (fI (by omega)),eN,obs,eP,obs,zAR (by omega),obs,ePl,obs];generalize zzw p.Losses (which % zxv p.Losses)=T at hin hT9 hT1;refine zxh (n:=T.length) (fun d (s:Int × Int) y=>zus part T _ d s.1 s.2 y) (fun k=>(zBk n (T.take k),zBl n (T.take k))) (fun d k hk=>?_) (fun d=>?_) (T.length+1) 0 (by omega) (by omega)
 ·have hg:=List.getElem?_eq_getElem hk;have hxk:=hT1 _ (List.getElem_mem hk);generalize T[k]=x at hg hxk;obtain⟨⟨q1,q2⟩,q3⟩:=zx5 (t:=zBi n) (a:=x) hn2 (by omega);have q1:0<=x * n:=q1;have q2:x * n<=10000000:=q2;have q3:0<=x * n / 100/\x * n / 100<=x:=q3;obtain⟨b1,b2⟩:=zBp hn2 (T.take k) 0 0 fun x hx=>hT1 x (List.mem_of_mem_take hx);rw[List.length_take] at b1 b2;have b1:0<=zBk n (T.take k)/\zBk n (T.take k)<=0+1000 * (min k T.length:Nat):=b1;have b2:0<=zBl n (T.take k)/\zBl n (T.take k)<=0+1000 * (min k T.length:Nat):=b2
  have e1:zBk n (T.take (k+1))=zBk n (T.take k)+x * n / 100:=by
   unfold zBk; rw[zAa hg,List.foldl_append]; rfl
  have e2:zBl n (T.take (k+1))=zBl n (T.take k)+x - x * n / 100:=by
   unfold zBl; rw[zAa hg,List.foldl_append]; rfl
  show zus part T _ (d+1) (zBk n (T.take k)) (zBl n (T.take k)) _=zus part T _ d (zBk n (T.take (k+1))) (zBl n (T.take (k+1))) _
  rw[zus,if_pos (by omega),zrQ hg,obs,p1,<- hn,obs,obs,zqs hxk.1,zqs (by omega),zqs (fI (by omega)),zqs q1,zqs (by omega),zqs (fI (by omega)),zqs (fI (by omega)),zqs (fI (by omega)),zqs hxk.1,zqs (by omega),zqs (fI (by omega)),zqs q1,zqs (by omega),zqs (fI (by omega)),zqs (fI (by omega)),zqs (fI (by omega)),e1,e2]
 ·obtain⟨o1,o2⟩:=zBn (n:=n) T
  show zus part T _ (d+1) (zBk n (T.take T.length)) (zBl n (T.take T.length)) _=_
  rw[zus,if_neg (Int.lt_irrefl _),List.take_length,<- o1,<- o2]
  show(if (0:Int)=0 then ((zuk [(zyi [zBi n] T).pays 0] [(zyi [zBi n] T).pays 0]).bind fun r2856=>(if r2856=true then (if (zyi [zBi n] T).soc=(zyi [zBi n] T).soc then _ else _) else _)) else _)=_
  rw[if_pos rfl,zAS (by show 1<=1000; omega),obs,if_pos rfl,if_pos rfl,aw]
end
end Go.Proofs.Ytkcmdghjgoaggaa

namespace Go.Proofs.Ytkcmdghjgoaggaa
open _root_.Go.Proofs.Try
open Go.ChangeShapes Go.WideShapes Go.ChangeAt Go.RowKit Go.Abs
set_option maxRecDepth 100000
theorem op3:zr9 prog 3 Int (zl7 .i64):=zsa (by kernel_rfl)
theorem zBr:zr9 prog 68 Rg zsj:=zsh (fs:=[(3,0),(3,1)]) (by kernel_rfl) (by kernel_rfl) (zsg (α:=Int) (ok:=zl7 .i64) (k:=1) op3 (by kernel_rfl) rfl (zsg (α:=Int) (ok:=zl7 .i64) (k:=1) op3 (by kernel_rfl) rfl zsf)) (by kernel_rfl) fun m vs h=>by
 obtain⟨a0,c0,r0,m0,h0,p0,k0,s0,⟨a1,c1,r1,m1,h1,p1,k1,s1,rfl⟩⟩:=h;have p0:c0=[.int .i64 a0]:=p0; subst p0;have p1:c1=[.int .i64 a1]:=p1; subst p1;subst h1 h0;exact⟨⟨a0,a1⟩,rfl,⟨k0,k1⟩⟩
theorem zBs:zr9 prog 55 (List Rg) (fun l=>l.length<=maxLen/\∀a0∈l,zsj a0):=zsc (by kernel_rfl) (by kernel_rfl) zBr
theorem zBt:zr9 prog 62 Ty zsl:=zsh (fs:=[(3,0),(3,1),(3,2),(3,3),(3,4),(3,5),(3,6)]) (by kernel_rfl) (by kernel_rfl) (zsg (α:=Int) (ok:=zl7 .i64) (k:=1) op3 (by kernel_rfl) rfl (zsg (α:=Int) (ok:=zl7 .i64) (k:=1) op3 (by kernel_rfl) rfl (zsg (α:=Int) (ok:=zl7 .i64) (k:=1) op3 (by kernel_rfl) rfl (zsg (α:=Int) (ok:=zl7 .i64) (k:=1) op3 (by kernel_rfl) rfl (zsg (α:=Int) (ok:=zl7 .i64) (k:=1) op3 (by kernel_rfl) rfl (zsg (α:=Int) (ok:=zl7 .i64) (k:=1) op3 (by kernel_rfl) rfl (zsg (α:=Int) (ok:=zl7 .i64) (k:=1) op3 (by kernel_rfl) rfl zsf))))))) (by kernel_rfl) fun m vs h=>by
 obtain⟨a0,c0,r0,m0,h0,p0,k0,s0,⟨a1,c1,r1,m1,h1,p1,k1,s1,⟨a2,c2,r2,m2,h2,p2,k2,s2,⟨a3,c3,r3,m3,h3,p3,k3,s3,⟨a4,c4,r4,m4,h4,p4,k4,s4,⟨a5,c5,r5,m5,h5,p5,k5,s5,⟨a6,c6,r6,m6,h6,p6,k6,s6,rfl⟩⟩⟩⟩⟩⟩⟩:=h;have p0:c0=[.int .i64 a0]:=p0; subst p0;have p1:c1=[.int .i64 a1]:=p1; subst p1;have p2:c2=[.int .i64 a2]:=p2; subst p2;have p3:c3=[.int .i64 a3]:=p3; subst p3;have p4:c4=[.int .i64 a4]:=p4; subst p4;have p5:c5=[.int .i64 a5]:=p5; subst p5;have p6:c6=[.int .i64 a6]:=p6; subst p6;subst h6 h5 h4 h3 h2 h1 h0;exact⟨⟨a0,a1,a2,a3,a4,a5,a6⟩,rfl,⟨k0,k1,k2,k3,k4,k5,k6⟩⟩
theorem zBu:zr9 prog 56 (List Ty) (fun l=>l.length<=maxLen/\∀a0∈l,zsl a0):=zsc (by kernel_rfl) (by kernel_rfl) zBt
theorem zBv:zr9 prog 70 Rpt zsn:=zsh (fs:=[(3,0),(68,1)]) (by kernel_rfl) (by kernel_rfl) (zsg (α:=Int) (ok:=zl7 .i64) (k:=1) op3 (by kernel_rfl) rfl (zsg (α:=Rg) (ok:=zsj) (k:=2) zBr (by kernel_rfl) rfl zsf)) (by kernel_rfl) fun m vs h=>by
 obtain⟨a0,c0,r0,m0,h0,p0,k0,s0,⟨a1,c1,r1,m1,h1,p1,k1,s1,rfl⟩⟩:=h;have p0:c0=[.int .i64 a0]:=p0; subst p0;have p1:c1=[.int .i64 a1.Lo,.int .i64 a1.Hi]:=p1; subst p1;subst h1 h0;exact⟨⟨a0,a1⟩,rfl,⟨k0,k1⟩⟩
theorem zBw:zr9 prog 57 (List Rpt) (fun l=>l.length<=maxLen/\∀a0∈l,zsn a0):=zsc (by kernel_rfl) (by kernel_rfl) zBv
theorem zBx:zr9 prog 59 Pg zsp:=zsh (fs:=[(55,0),(3,1),(56,2),(57,3)]) (by kernel_rfl) (by kernel_rfl) (zsg (α:=List Rg) (ok:=(fun l=>l.length<=maxLen/\∀a0∈l,zsj a0)) (k:=1) zBs (by kernel_rfl) rfl (zsg (α:=Int) (ok:=zl7 .i64) (k:=1) op3 (by kernel_rfl) rfl (zsg (α:=List Ty) (ok:=(fun l=>l.length<=maxLen/\∀a0∈l,zsl a0)) (k:=1) zBu (by kernel_rfl) rfl (zsg (α:=List Rpt) (ok:=(fun l=>l.length<=maxLen/\∀a0∈l,zsn a0)) (k:=1) zBw (by kernel_rfl) rfl zsf)))) (by kernel_rfl) fun m vs h=>by
 obtain⟨a0,c0,r0,m0,h0,p0,k0,s0,⟨a1,c1,r1,m1,h1,p1,k1,s1,⟨a2,c2,r2,m2,h2,p2,k2,s2,⟨a3,c3,r3,m3,h3,p3,k3,s3,rfl⟩⟩⟩⟩:=h;obtain⟨d0,rfl,p0⟩:=p0;have p1:c1=[.int .i64 a1]:=p1; subst p1;obtain⟨d2,rfl,p2⟩:=p2;obtain⟨d3,rfl,p3⟩:=p3;subst h3 h2 h1 h0;exact⟨⟨a0,a1,a2,a3⟩,⟨_,_,_,rfl,p0,p2,p3⟩,⟨k0,k1,k2,k3⟩⟩
theorem zBy:laidOutB prog=true:=by kernel_rfl
theorem zBz:ownKnob prog.godebug=none:=by kernel_rfl
theorem zBA(os:Os)(started:os.Started)(H:Type)(enc:TypeId × Value->H) :
    ReturnsInHanded {} Try.checked os 4 .any (Rows.treatyQuotaSpec.pre6 enc Try.prog Try.f4 Rows.treatyQuotaRow.domain false) (Rows.treatyQuotaSpec.post enc Try.prog Try.f4 false true false false):=by
  refine returnsInHanded_of_change (C:=Try.checked) zBz started (by kernel_rfl) Try.func4
    (ChangeSpec.witness6 (enc:=enc) (C:=Try.checked) false ⟨#[],#[.agg #[.slice none 0 0,.int .i64 0,.slice none 0 0,.slice none 0 0],.int .u16 0,.int .u8 0],[]⟩ 8 (by kernel_rfl) (by kernel_rfl) (by kernel_rfl) (by kernel_rfl)) ?_
  intro W base args ds gs before hval0 hW hcnd _;have hval:∀(j:Nat) t v,Try.f4.params[j]? = some t->args[j]? = some v->Value.okWide Try.prog W .any base t v:=hval0;have hW':=hW;obtain⟨p,q,hA0,hV,rfl,hfz,hnd⟩:=hW;have hA:DataW.TrodAll enc Try.prog W 0 (fun _=>true) true Try.f4.params.toList args.toList ds p:=hA0;rw[Try.params4] at hA hval;obtain⟨v0,v1,v2,d0,d1,d2,p0,p1,p2,rfl,rfl,rfl,h0,h1,h2⟩:=trodAll_three hA;obtain⟨rfl,rfl⟩:=trodVars_none hV;obtain⟨n1,hv1⟩:=okWide_int Try.underlying60 (hval 1 60 v1 rfl rfl);obtain⟨n2,hv2⟩:=okWide_int Try.underlying5 (hval 2 5 v2 rfl rfl)
  have hlt:∀x∈p0++p1++p2,x.block < W.heap.size:=fun x hx=>by simpa using hW'.lt x (by simpa using hx)
  obtain⟨fu0,hf0⟩:=id h0;obtain⟨fu1,hf1⟩:=id h1;obtain⟨fu2,hf2⟩:=id h2
  clear hA0 hval0
  obtain⟨e0,m0,w0,a_0,le0,sv0,lay0,cr0,zvN,ok0⟩:=zBx H enc W true _ _ _ hf0 _ _ (Lay.nil W);obtain⟨i1,hc1,_,hw1⟩:=DataW.trod_int Try.underlying60 hf1;obtain⟨i2,hc2,_,hw2⟩:=DataW.trod_int Try.underlying5 hf2;obtain⟨c0_0,c0_2,c0_3,rfl,g0_0,g0_2,g0_3⟩:=zvN
  obtain⟨cs0,hv0,cl0⟩:∃cs,v0=.agg cs/\v0.cells.toList=cs.toList:=by
    have hl:=cr0.length
    cases v0 with
    | agg cs=>exact⟨cs,rfl,rfl⟩
    | _=>exact absurd hl (by simp[Value.cells])
  subst hv0;subst hv1
  have hi1:i1=n1:=by
    have h:[Value.int .u16 n1]=[.int .u16 i1]:=hc1
    cases h; rfl
  subst hi1;subst hv2
  have hi2:i2=n2:=by
    have h:[Value.int .u8 n2]=[.int .u8 i2]:=hc2
    cases h; rfl
  subst hi2;have hargs:zeq (VR e0) [.agg 4 [c0_0,.int .i64 a_0.Reserve,c0_2,c0_3],.c (.int .u16 i1),.c (.int .u8 i2)] [.agg cs0,.int .u16 i1,.int .u8 i2]:=.cons ⟨cs0,rfl,cr0,rfl⟩ (.cons rfl (.cons rfl .nil));refine(callsIn_wide.1 (zqC fits htab (zwU (p:=a_0) (which:=i1) (part:=i2) lay0.pre g0_0 g0_2 g0_3 (zBq ok0 (zqA hw1) (zqA hw2)) (Q:=fun v _=>v=.c (.bool true)) fun _ _=>rfl) lay0.hr (args':=#[.agg cs0,.int .u16 i1,.int .u8 i2]) hargs 0)).mono fun en W' hp=>?_;obtain⟨v,v',e',m',rfl,hst,hvr,rfl⟩:=hp;have hv':v'=.bool true:=hvr;subst hv';have hbelow:=lay0.below hst
  refine⟨_,rfl,[d0,d1,d2],[],p0++p1++p2,[],p0++(p1++p2),[],by simpa using hW',trodAll_mk1 (shut_bool Try.underlying4 _),
    trodAll_mk3 (Below.trod zBy (by kernel_rfl) (of_decide_eq_true (by kernel_rfl)) h0 hbelow fun x hx=>hlt x (by simp[hx])) (Below.trod zBy (by kernel_rfl) (of_decide_eq_true (by kernel_rfl)) h1 hbelow fun x hx=>hlt x (by simp[hx])) (Below.trod zBy (by kernel_rfl) (of_decide_eq_true (by kernel_rfl)) h2 hbelow fun x hx=>hlt x (by simp[hx])),rfl,lay0.kept hst _,fun hc=>by cases hc⟩
theorem TreatyQuota_holds:Rows.TreatyQuotaSaid:=
 OpenClaim.holds_of_wide 4 Try.f4 rfl rfl rfl rfl rfl rfl rfl ⟨rfl,rfl,rfl,rfl,rfl⟩ rfl rfl rfl rfl rfl (by kernel_rfl) Try.func4 (by kernel_rfl)
  (of_decide_eq_true (by kernel_rfl)) (by unfold Func.isWrapper; first | (rw[if_pos (by decide +kernel)]; kernel_rfl) | (rw[if_neg (by decide +kernel)]; exact⟨rfl,rfl⟩))
  (fun os started H enc _=>zBA os started H enc)
end Go.Proofs.Ytkcmdghjgoaggaa

