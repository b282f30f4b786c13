/- TreatyFirst, for all that it can be called with, returns true. Condition: none. -/
import Derived.Test.YtkcmdghjgoaggaaTdI
import GoSem.Step
import GoSem.ClaimKeys
import Derived.DeepKeys2
import Derived.RangeFuncLeaves
import Derived.OrdersIn
import Derived.Laws.World
import Derived.Laws.Sem
import Derived.RangeFuncRecord
import Derived.Laws.CopyRow
import Derived.Laws.Append
import Derived.Laws.Rows
import Derived.Laws.Slices
import Derived.Laws.Entries
import Derived.ChangeKeysEq
import Derived.IntWalk
import Derived.DeepKeys
import Derived.DeepKeys3
import Derived.Laws.StructEq
import Derived.MapKept
import Derived.Laws.AppendOwn
import Derived.ChangeArms
import Derived.ChangeOld
import Derived.Carry
import Derived.ChangeShapes
import Derived.KernelRfl
import Derived.ProofKit
import Derived.Test.YtkcmdghjgoaggaaRows

namespace Go.Proofs.Ytkcmdghjgoaggaa
open _root_.Go.Proofs.Try
open Go.Abs
set_option maxRecDepth 100000
noncomputable section
def zzu(n:Nat):List Int:=(List.range n).map fun j=>((j:Nat):Int)
theorem zzv(n:Nat):Inc n 0 (zzu n):=by
 refine⟨?_,fun v hv=>?_⟩
 ·unfold zzu;rw[List.pairwise_map]
  exact List.pairwise_lt_range.imp fun h=>by omega
 ·obtain⟨j,hj,rfl⟩:=List.mem_map.1 hv;have:=List.mem_range.1 hj
  omega
theorem zzw{n j:Nat}(h:j < n):inD (zzu n) j=true:=decide_eq_true (List.mem_map.2 ⟨j,List.mem_range.2 h,rfl⟩)
structure zzx (n:Nat) (P:(Nat->Bool)->Prop) (M:List Int):Prop where
 inc:Inc n 0 M
 ok:P (inD M)
 min:∀D,Inc n 0 D->P (inD D)->D=M\/shB M D=true
theorem zzx.uniq{n:Nat}{P:(Nat->Bool)->Prop}{M M':List Int}(h:zzx n P M)(h':zzx n P M'):M=M':=by
 rcases h.min M' h'.inc h'.ok with h1 | h1
 ·exact h1.symm
 ·rcases h'.min M h.inc h.ok with h2 | h2
  ·exact h2
  ·rw[zw4 h1] at h2; cases h2
def macc(S:Nat->Bool):Nat->Nat
 | 0=>0
 | i+1=>if S i=true then macc S i ||| 2 ^ i else macc S i
theorem zzy(S:Nat->Bool)(j:Nat):∀i,(macc S i).testBit j=(decide (j < i) && S j)
 | 0=>by simp[macc]
 | i+1=>by
  have ih:=zzy S j i;unfold macc
  by_cases hs:S i=true
  ·rw[if_pos hs,Nat.testBit_or,ih,Nat.testBit_two_pow]
   by_cases h:i=j
   ·subst h; simp[hs]
   ·have:decide (j < i+1)=decide (j < i):=decide_eq_decide.2 (by omega);rw[this]; simp[h]
  ·rw[if_neg hs,ih]
   by_cases h:i=j
   ·subst h
    have:S i=false:=by simpa using hs
    rw[this]; simp
   ·have:decide (j < i+1)=decide (j < i):=decide_eq_decide.2 (by omega);rw[this]
theorem zzz{i:Nat}(h:i<=6):2 ^ i<=64:=Nat.pow_le_pow_right (n:=2) (by omega) h
def zzA:List Rg->Int->List Int
 | [],_=>[]
 | r::rs,n=>(r.Lo+n % (r.Hi - r.Lo+1))::zzA rs (n / (r.Hi - r.Lo+1))
theorem zzB:∀{rs:List Rg} {n:Int},(∀r∈rs,r.Lo<=r.Hi)->0<=n->inL rs (zzA rs n)
 | [],_,_,_=>trivial
 | r::rs,n,h,h0=>by
  have hr:=h r (List.mem_cons_self ..);have h1:=Int.emod_nonneg n (show r.Hi - r.Lo+1 ≠ 0 by omega);have h2:=Int.emod_lt_of_pos n (show 0 < r.Hi - r.Lo+1 by omega);exact⟨⟨by omega,by omega⟩,zzB (fun r hr=>h r (List.mem_cons_of_mem _ hr)) (Int.ediv_nonneg h0 (by omega))⟩
theorem zzC:∀{rs:List Rg} {L:List Int},inL rs L->∃n,0<=n/\n < zxu rs/\zzA rs n=L
 | [],[],_=>⟨0,Int.le_refl _,by show(0:Int) < 1; omega,rfl⟩
 | [],_::_,h=>h.elim
 | _::_,[],h=>h.elim
 | r::rs,x::xs,h=>by
  obtain⟨n,h0,h1,h2⟩:=zzC h.2;have hx:=h.1;obtain⟨c,hc⟩:∃c,c=r.Hi - r.Lo+1:=⟨_,rfl⟩;refine⟨(x - r.Lo)+c * n,?_,?_,?_⟩
  ·have:=Int.mul_nonneg (show 0<=c by omega) h0; omega
  ·show _ < (r.Hi - r.Lo+1) * zxu rs
   rw[<- hc];have:=Int.mul_le_mul_of_nonneg_left (show n+1<=zxu rs by omega) (show 0<=c by omega);rw[Int.mul_add,Int.mul_one] at this
   omega
  ·show(r.Lo+_ % (r.Hi - r.Lo+1))::zzA rs (_ / (r.Hi - r.Lo+1))=_
   rw[<- hc,Int.add_mul_emod_self_left,Int.emod_eq_of_lt (by omega) (by omega),Int.add_mul_ediv_left _ _ (by omega),Int.ediv_eq_zero_of_lt (by omega) (by omega),Int.zero_add,h2]
   congr 1; omega
theorem VP.nthIn{p:Pg}(h:VP p){n:Int}(hn:0<=n):inL p.Losses (zzA p.Losses n):=zzB (fun r hr=>(h.ls r hr).2.1) hn
open Classical in
def agR(P:Nat->Int)(r:Rpt):Prop:=r.Paid.Lo<=P r.Treaty.toNat/\P r.Treaty.toNat<=r.Paid.Hi
open Classical in
def agf(p:Pg)(L:List Int)(j:Nat):Bool:=decide (∀r,p.Reports[j]? = some r->agR (zyh p.Treaties L).pays r)
open Classical in
theorem zzD{p:Pg}{L:List Int}{j:Nat}{r:Rpt}(h:p.Reports[j]? = some r):agf p L j=true↔agR (zyh p.Treaties L).pays r:=by
 unfold agf;rw[decide_eq_true_eq];exact⟨fun q=>q r h,fun q r' h'=>by rw[h] at h'; cases h'; exact q⟩
def zzE(p:Pg)(L:List Int):Nat:=macc (agf p L) p.Reports.length
def PL(p:Pg)(S:Nat->Bool):Prop:=∃L,inL p.Losses L/\∀j,j < p.Reports.length->S j=false->agf p L j=true
theorem PL.congr{p:Pg}{S S':Nat->Bool}(h:∀j,j < p.Reports.length->S j=S' j):PL p S↔PL p S':=
 exists_congr fun _=>and_congr_right fun _=>forall_congr' fun j=>forall_congr' fun hj=>by rw[h j hj]
theorem zzF{p:Pg}(h:VP p){L:List Int}(hL:inL p.Losses L):(∀j,0<=(zyh p.Treaties L).pays j/\(zyh p.Treaties L).pays j<=4000)/\(∀j,0<=(zyh p.Treaties L).keeps j/\(zyh p.Treaties L).keeps j<=4000)/\0<=(zyh p.Treaties L).soc/\(zyh p.Treaties L).soc<=4000:=by
 obtain⟨h1,h2,h3⟩:=zyL h hL;refine⟨fun j=>?_,fun j=>?_,?_⟩
 ·have:=h1.pays j; omega
 ·have:=h1.keeps j; omega
 ·have:=h1.soc; omega
end
end Go.Proofs.Ytkcmdghjgoaggaa

namespace Go.Proofs.Ytkcmdghjgoaggaa
open _root_.Go.Proofs.Try
open Go.Abs
set_option maxRecDepth 100000
noncomputable section
theorem zzG{p:Pg}{L:List Int}:zzE p L=2 ^ p.Reports.length - 1↔agN (zyh p.Treaties L).pays p.Reports:=by
 constructor
 ·intro h r hr;obtain⟨j,hj⟩:=List.mem_iff_getElem?.1 hr;have hjl:=(List.getElem?_eq_some_iff.1 hj).1
  have e:(zzE p L).testBit j=true:=by rw[h,Nat.testBit_two_pow_sub_one,decide_eq_true hjl]
  unfold zzE at e;rw[zzy] at e;exact(zzD hj).1 (Bool.and_eq_true_iff.1 e).2
 ·intro h
  apply Nat.eq_of_testBit_eq
  intro j;unfold zzE;rw[zzy,Nat.testBit_two_pow_sub_one]
  by_cases hj:j < p.Reports.length
  ·have hg:=List.getElem?_eq_getElem hj;rw[decide_eq_true hj,(zzD hg).2 (h _ (List.getElem_mem hj))]; rfl
  ·rw[decide_eq_false hj]; rfl
def trL(p:Pg):List (List Int):=((List.range (zxu p.Losses).toNat).filter fun n:Nat=>decide (zzE p (zzA p.Losses (n:Int))=2 ^ p.Reports.length - 1)).map fun n:Nat=>zzA p.Losses (n:Int)
theorem zzH{p:Pg}(h:VP p){L:List Int}:L∈trL p↔TrS p p.Reports L:=by
 unfold trL TrS;rw[List.mem_map]
 constructor
 ·rintro⟨n,hn,rfl⟩
  obtain⟨_,h2⟩:=List.mem_filter.1 hn;exact⟨h.nthIn (by omega),zzG.1 (of_decide_eq_true h2)⟩
 ·rintro⟨hL,hA⟩
  obtain⟨n,n0,n1,rfl⟩:=zzC hL;refine⟨n.toNat,List.mem_filter.2 ⟨List.mem_range.2 (by omega),decide_eq_true ?_⟩,?_⟩
  ·rw[show((n.toNat:Nat):Int)=n by omega]; exact zzG.2 hA
  ·show zzA p.Losses ((n.toNat:Nat):Int)=_
   rw[show((n.toNat:Nat):Int)=n by omega]
theorem zzI{p:Pg}:zyZ p p.Reports↔PL p fun j=>!(2 ^ p.Reports.length - 1).testBit j:=by
 constructor
 ·rintro⟨L,h1,h2⟩
  exact⟨L,h1,fun j hj _=>(zzD (List.getElem?_eq_getElem hj)).2 (h2 _ (List.getElem_mem hj))⟩
 ·rintro⟨L,h1,h2⟩
  refine⟨L,h1,fun r hr=>?_⟩;obtain⟨j,hj⟩:=List.mem_iff_getElem?.1 hr;have hjl:=(List.getElem?_eq_some_iff.1 hj).1;exact(zzD hj).1 (h2 j hjl (by show(!(2 ^ p.Reports.length - 1).testBit j)=false; rw[Nat.testBit_two_pow_sub_one,decide_eq_true hjl]; rfl))
def wd(r:Rg)(x:Int):Rg:={ Lo:=min r.Lo x,Hi:=max r.Hi x }
def emp:Rg:={ Lo:=1099511627776,Hi:=-1099511627776 }
def wdL(g:List Int->Int)(l:List (List Int)):Rg:=l.foldl (fun r L=>wd r (g L)) emp
theorem zzJ{g:List Int->Int}:∀(l:List (List Int)) (r:Rg),((l.foldl (fun r L=>wd r (g L)) r).Lo=r.Lo\/∃L∈l,g L=(l.foldl (fun r L=>wd r (g L)) r).Lo)/\((l.foldl (fun r L=>wd r (g L)) r).Hi=r.Hi\/∃L∈l,g L=(l.foldl (fun r L=>wd r (g L)) r).Hi)/\(l.foldl (fun r L=>wd r (g L)) r).Lo<=r.Lo/\r.Hi<=(l.foldl (fun r L=>wd r (g L)) r).Hi/\∀L∈l,(l.foldl (fun r L=>wd r (g L)) r).Lo<=g L/\g L<=(l.foldl (fun r L=>wd r (g L)) r).Hi
 | [],r=>⟨.inl rfl,.inl rfl,Int.le_refl _,Int.le_refl _,fun L hL=>by cases hL⟩
 | L::l,r=>by
  obtain⟨a,b,c,d,e⟩:=zzJ (g:=g) l (wd r (g L));have h1:(wd r (g L)).Lo=min r.Lo (g L):=rfl;have h2:(wd r (g L)).Hi=max r.Hi (g L):=rfl;rw[h1] at a c;rw[h2] at b d;rw[List.foldl_cons];generalize l.foldl (fun r L=>wd r (g L)) (wd r (g L))=R at a b c d e ⊢;refine⟨?_,?_,by clear a b; omega,by clear a b; omega,fun L' hL'=>?_⟩
  ·clear b
   rcases a with a | ⟨L',q1,q2⟩
   ·rcases Int.le_total r.Lo (g L) with h | h
    ·exact .inl (by omega)
    ·exact .inr ⟨L,List.mem_cons_self ..,by omega⟩
   ·exact .inr ⟨L',List.mem_cons_of_mem _ q1,q2⟩
  ·clear a
   rcases b with b | ⟨L',q1,q2⟩
   ·rcases Int.le_total (g L) r.Hi with h | h
    ·exact .inl (by omega)
    ·exact .inr ⟨L,List.mem_cons_self ..,by omega⟩
   ·exact .inr ⟨L',List.mem_cons_of_mem _ q1,q2⟩
  ·clear a b
   rcases List.mem_cons.1 hL' with h | h
   ·subst h; omega
   ·exact e L' h
theorem zzK{g:List Int->Int}{l:List (List Int)}(hne:l ≠ [])(hb:∀L∈l,-1000000<=g L/\g L<=1000000):IsB (·∈l) g (wdL g l):=by
 obtain⟨a,b,c,d,e⟩:=zzJ (g:=g) l emp;have h1:emp.Lo=1099511627776:=rfl;have h2:emp.Hi = -1099511627776:=rfl;rw[h1] at a c;rw[h2] at b d;obtain⟨L0,hL0⟩:=List.exists_mem_of_ne_nil l hne;have q1:=hb L0 hL0;have q2:=e L0 hL0;unfold wdL;generalize l.foldl (fun r L=>wd r (g L)) emp=R at a b c d e q2 ⊢;refine⟨?_,?_,e⟩
 ·clear b
  rcases a with a | a
  ·omega
  ·exact a
 ·clear a
  rcases b with b | b
  ·omega
  ·exact b
def bsN(n:Nat)(f:Nat->Bd):List Bd:=(List.range n).map f
theorem zzL{n:Nat}{f:Nat->Bd}:(bsN n f).length=n:=by unfold bsN; rw[List.length_map,List.length_range]
theorem zzM{n:Nat}{f:Nat->Bd}{k:Nat}(h:k < n):(bsN n f)[k]? = some (f k):=by unfold bsN; rw[List.getElem?_map,List.getElem?_range h]; rfl
def bdF(p:Pg)(l:List (List Int))(k:Nat):Bd:={ Pays:=wdL (fun L=>(zyh p.Treaties L).pays k) l,Keeps:=wdL (fun L=>(zyh p.Treaties L).keeps k) l }
theorem zzN{p:Pg}(h:VP p)(hc:zyZ p p.Reports):zzh p (bsN p.Treaties.length (bdF p (trL p)))/\IsB (TrS p p.Reports) (fun L=>(zyh p.Treaties L).soc) (wdL (fun L=>(zyh p.Treaties L).soc) (trL p)):=by
 have hne:trL p ≠ []:=fun e=>by
  obtain⟨L,hL⟩:=hc;have:=(zzH h).2 hL
  rw[e] at this; cases this
 have hb:∀L∈trL p,inL p.Losses L:=fun L hL=>((zzH h).1 hL).1;refine⟨⟨zzL,fun k b hk=>?_⟩,?_⟩
 ·have hkl:=(List.getElem?_eq_some_iff.1 hk).1;rw[zzL] at hkl;rw[zzM hkl] at hk
  cases hk
  refine⟨(zzK hne fun L hL=>?_).congr (fun L=>zzH h) fun _ _=>rfl,(zzK hne fun L hL=>?_).congr (fun L=>zzH h) fun _ _=>rfl⟩
  ·have:=(zzF h (hb L hL)).1 k; omega
  ·have:=(zzF h (hb L hL)).2.1 k; omega
 ·refine(zzK hne fun L hL=>?_).congr (fun L=>zzH h) fun _ _=>rfl;have:=(zzF h (hb L hL)).2.2; omega
def kpF:List Rpt->Nat->(Nat->Bool)->List Rpt
 | [],_,_=>[]
 | v::V,i,S=>if S i=true then v::kpF V (i+1) S else kpF V (i+1) S
theorem zzO{S:Nat->Bool}{v:Rpt}:∀(V:List Rpt) (i:Nat),v∈kpF V i S↔∃j,V[j]? = some v/\S (i+j)=true
 | [],i=>by simp[kpF]
 | a::V,i=>by
  have ih:=zzO (S:=S) (v:=v) V (i+1)
  have e:(∃j,(a::V)[j]? = some v/\S (i+j)=true)↔(a=v/\S i=true)\/∃j,V[j]? = some v/\S (i+1+j)=true:=by
   constructor
   ·rintro⟨j,h1,h2⟩
    cases j with
    | zero=>exact .inl ⟨by simpa using h1,h2⟩
    | succ j=>exact .inr ⟨j,by simpa using h1,by rw[show i+1+j=i+(j+1) by omega]; exact h2⟩
   ·rintro (⟨h1,h2⟩ | ⟨j,h1,h2⟩)
    ·exact⟨0,by simpa using h1,h2⟩
    ·exact⟨j+1,by simpa using h1,by rw[show i+(j+1)=i+1+j by omega]; exact h2⟩
  rw[e];unfold kpF
  by_cases hs:S i=true
  ·rw[if_pos hs,List.mem_cons,ih];exact or_congr ⟨fun h=>⟨h.symm,hs⟩,fun h=>h.1.symm⟩ Iff.rfl
  ·rw[if_neg hs,ih];exact⟨.inr,fun h=>h.elim (fun h=>absurd h.2 hs) id⟩
theorem zzP{S:Nat->Bool}:∀(V:List Rpt) (i:Nat),(kpF V i S).length<=V.length
 | [],_=>Nat.le_refl _
 | a::V,i=>by
  have:=zzP (S:=S) V (i+1);unfold kpF
  split <;> simp only[List.length_cons] <;> omega
theorem zzQ{l:List Int}{v:Int}(hl:zr0 l):∀d (k:Nat),k<=l.length->l.length - k < d->∃r,ztD l v d (k:Int)=some r/\(0<=r↔v∈l.drop k)
 | 0,k,_,h=>by omega
 | d+1,k,hk,h=>by
  unfold zr0 at hl;unfold ztD
  by_cases hkn:k=l.length
  ·subst hkn; rw[if_neg (Int.lt_irrefl _)]; exact⟨_,rfl,by simp⟩
  ·have hlt:k < l.length:=by omega
   rw[if_pos (by omega),zrQ (List.getElem?_eq_getElem hlt),obs];have hd:=List.drop_eq_getElem_cons hlt
   by_cases hv:v=l[k]
   ·rw[if_pos hv]; exact⟨_,rfl,⟨fun _=>by rw[hd,<- hv]; exact List.mem_cons_self ..,fun _=>by omega⟩⟩
   ·rw[if_neg hv,zqs (fI (by omega)),show(k:Int)+1=((k+1:Nat):Int) by omega];obtain⟨r,h1,h2⟩:=zzQ hl d (k+1) (by omega) (by omega);exact⟨r,h1,h2.trans ⟨fun h=>by rw[hd]; exact List.mem_cons_of_mem _ h,fun h=>by rw[hd] at h; exact(List.mem_cons.1 h).resolve_left hv⟩⟩
theorem zzR{l:List Int}{v:Int}(hl:zr0 l):ztF l v=some (decide (v∈l)):=by
 unfold ztF ztE;obtain⟨r,h1,h2⟩:=zzQ (v:=v) hl (l.length+1) 0 (Nat.zero_le _) (by omega);have h1:ztD l v (l.length+1) 0=some r:=h1;rw[h1,obs];exact congrArg some (decide_eq_decide.2 (h2.trans (by rw[List.drop_zero])))
theorem zzS{p:Int->Option Bool}{f:Nat->Bool}{n:Nat}(hn:n<=1000000)(hp:∀m,m < n->p (m:Int)=some (f m))(hm:∀m k,m<=k->k < n->f m=true->f k=true):∀d (i j:Nat),i<=j->j<=n->j - i < d->(∀m,m < i->f m=false)->(∀m,j<=m->m < n->f m=true) ->
  ∃k:Nat,zt6 p d (i:Int) (j:Int)=some (k:Int)/\k<=n/\(∀m,m < k->f m=false)/\(∀m,k<=m->m < n->f m=true)
 | 0,_,_,_,_,h,_,_=>by omega
 | d+1,i,j,hij,hj,h,hlo,hhi=>by
  rw[zt6]
  by_cases hc:i < j
  ·obtain⟨md,hmd⟩:∃md:Nat,md=(i+j) / 2:=⟨_,rfl⟩
   have hf:zl7 .u64 ((i:Int)+j):=show _/\_ by constructor <;> omega
   have e:zmc .i64 (zmc .u64 ((i:Int)+j) / 2)=(md:Int):=by
    rw[wz hf,wz (fI (by omega))]; omega
   rw[if_pos (by omega),zqs (fI (by omega)),zqs (by rw[wz hf]; omega),zqs (by omega),zqs (by omega),zqs (by rw[wz hf]; exact show _/\_ by constructor <;> omega),e,hp md (by omega),obs]
   cases hq:f md with
   | true=>
    rw[if_pos rfl];exact zzS hn hp hm d i md (by omega) (by omega) (by omega) hlo fun m h1 h2=>hm md m h1 h2 hq
   | false=>
    rw[if_neg (by decide),zqs (fI (by omega)),show(md:Int)+1=((md+1:Nat):Int) by omega]
    exact zzS hn hp hm d (md+1) j (by omega) hj (by omega) (fun m h1=>by
     cases hq2:f m with
     | false=>rfl
     | true=>have:=hm m md (by omega) (by omega) hq2; rw[hq] at this; cases this) hhi
  ·rw[if_neg (by omega)];exact⟨i,rfl,by omega,hlo,fun m h1 h2=>hhi m (by omega) h2⟩
theorem zzT{S:Nat->Bool}:∀(V:List Rpt) (i n:Nat),(∀j,S j=decide (j < i+n))->kpF V i S=V.take n
 | [],_,_,_=>by simp[kpF]
 | v::V,i,n,h=>by
  rw[kpF]
  cases n with
  | zero=>
   rw[if_neg (by rw[h]; simp),List.take_zero]
   have:∀(V:List Rpt) (i':Nat),i<=i'->kpF V i' S=[]:=by
    intro V
    induction V with
    | nil=>intro i' _; rfl
    | cons a V ih=>intro i' hi; rw[kpF,if_neg (by rw[h]; simp; omega)]; exact ih (i'+1) (by omega)
   exact this V (i+1) (by omega)
  | succ n=>
   rw[if_pos (by rw[h]; simp),List.take_succ_cons,zzT V (i+1) n fun j=>by rw[h]; exact decide_eq_decide.2 (by omega)]
theorem zzU{p:Pg}{L:List Int}{S:Nat->Bool}:agN (zyh p.Treaties L).pays (kpF p.Reports 0 S)↔∀j,j < p.Reports.length->S j=true->agf p L j=true:=by
 constructor
 ·intro h j hj hs;have hg:=List.getElem?_eq_getElem hj;exact(zzD hg).2 (h _ ((zzO _ _).2 ⟨j,hg,by rw[Nat.zero_add]; exact hs⟩))
 ·intro h r hr;obtain⟨j,h1,h2⟩:=(zzO _ _).1 hr;rw[Nat.zero_add] at h2;exact(zzD h1).1 (h j (List.getElem?_eq_some_iff.1 h1).1 h2)
theorem zzV{p:Pg}{S:Nat->Bool}:zyZ p (kpF p.Reports 0 S)↔PL p fun j=>!S j:=by
 unfold zyZ PL;refine exists_congr fun L=>and_congr_right fun _=>zzU.trans ?_;refine forall_congr' fun j=>forall_congr' fun _=>?_
 show(S j=true->_)↔((!S j)=false->_)
 cases S j <;> simp
theorem zzW{l:List Rpt}{D:List Int}(hl:l.length<=1000)(hD:zr0 D):ztH l D=some (kpF l 0 fun j=>!inD D j):=by
 have key:∀(d k:Nat) (acc:List Rpt),k<=l.length->l.length - k < d->acc.length<=k->ztG l D d acc (k:Int)=some (acc++kpF (l.drop k) k fun j=>!inD D j):=by
  intro d
  induction d with
  | zero=>intro k _ _ h _; omega
  | succ d ih=>
   intro k acc hk hd ha;rw[ztG]
   by_cases hkl:k < l.length
   ·rw[if_pos (by omega),zrQ (List.getElem?_eq_getElem hkl),obs,zzR hD,obs,List.drop_eq_getElem_cons hkl,kpF]
    by_cases hin:(k:Int)∈D
    ·have e:inD D k=true:=decide_eq_true hin;rw[decide_eq_true hin,if_pos rfl,zqs (fI (by omega)),show(k:Int)+1=((k+1:Nat):Int) by omega,if_neg (by rw[e]; simp)];exact ih (k+1) acc (by omega) (by omega) (by omega)
    ·have e:inD D k=false:=decide_eq_false hin;rw[decide_eq_false hin,if_neg (by decide),zqs (by omega),zqs (fI (by omega)),show(k:Int)+1=((k+1:Nat):Int) by omega,if_pos (by rw[e]; rfl)];refine(ih (k+1) _ (by omega) (by omega) (by rw[List.length_append]; show acc.length+1<=_; omega)).trans ?_;rw[List.append_assoc]; rfl
   ·rw[if_neg (by omega),List.drop_eq_nil_of_le (by omega)]
    show _=some (acc++[])
    rw[List.append_nil]
 exact key (l.length+1) 0 [] (Nat.zero_le _) (by omega) (Nat.le_refl _)
theorem zyQ.kp{p:Pg}(h:VP p)(S:Nat->Bool):zyQ (kpF p.Reports 0 S):=fun r hr=>by
 obtain⟨j,h1,_⟩:=(zzO _ _).1 hr;exact h.rsOk r (List.mem_of_getElem? h1)
theorem zzX{p:Pg}(h:VP p){D:List Int}(hD:zr0 D):Ev (zt9 D (zyJ p (zyB p)) p) (PL p (inD D)):=by
 have hr5:=h.r5;unfold zt9;rw[zzW (by omega) hD,obs]
 show Ev ((ztO (zyJ p (zyB p)) (kpF p.Reports 0 fun j=>!inD D j)).bind _) _
 have hlen:=zzP (S:=fun j=>!inD D j) p.Reports 0;refine(zy0 h (zyQ.kp h _) (zr1 hlen (by omega))).ret.imp (zzV.trans (PL.congr fun j _=>?_))
 simp
theorem zzY{p:Pg}(h:VP p):PL p (inD (zzu p.Reports.length)):=by
 obtain⟨L,hL⟩:=zyF h;exact⟨L,hL,fun j hj hs=>by rw[zzw hj] at hs; cases hs⟩
theorem zzZ{p:Pg}(h:VP p):∃M,zua p=some (M,0)/\zzx p.Reports.length (PL p) M:=by
 have h4:=h.r5;have hsh:∀D,Inc p.Reports.length 0 D->zr0 D:=fun D hD=>zr1 (Nat.le_refl D.length) (by have:=zwU hD; omega)
 have ht:∀D,Inc p.Reports.length 0 D->((zt9 D (zyJ p (zyB p)) p).getD false=true↔PL p (inD D)):=fun D hD=>by
  obtain⟨b,q1,q2⟩:=zzX h (hsh D hD);rw[q1]; exact q2
 obtain⟨s1,s2,s3⟩:=zxa (n:=p.Reports.length) (t:=fun L=>(zt9 L (zyJ p (zyB p)) p).getD false) ⟨zzu p.Reports.length,zzv _,(ht _ (zzv _)).2 (zzY h)⟩;refine⟨zrx p.Reports.length fun L=>(zt9 L (zyJ p (zyB p)) p).getD false,?_,s1,(ht _ s1).1 s2,fun D hD hD2=>s3 D hD ((ht D hD).2 hD2)⟩;unfold zua zry
 rw[zzb h,obs,if_pos rfl,zyP h,obs,zqs ⟨by omega,by omega,fun L hL=>by
  have hI:Inc p.Reports.length 0 L:=by rw[Int.toNat_natCast] at hL; exact zwV.1 hL
  obtain⟨b,q1,_⟩:=zzX h (hsh L hI)
  show(zt9 L (zyJ p (zyB p)) p).isSome=true
  rw[q1]; rfl⟩,obs,Int.toNat_natCast]
def FP(p:Pg)(j:Nat):Prop:=zyZ p (p.Reports.take (j+1))
theorem zz0{p:Pg}{i j:Nat}(hij:i<=j)(h:FP p j):FP p i:=by
 obtain⟨L,h1,h2⟩:=h;refine⟨L,h1,fun r hr=>h2 r ?_⟩
 have e:p.Reports.take (i+1)=(p.Reports.take (j+1)).take (i+1):=by rw[List.take_take,show min (i+1) (j+1)=i+1 by omega]
 rw[e] at hr;exact List.mem_of_mem_take hr
open Classical in
theorem zz1{p:Pg}(h:VP p):(∃j,j < p.Reports.length/\¬ FP p j/\(∀i,i < j->FP p i)/\zt8 p=some ((j:Int),0))\/((∀j,j < p.Reports.length->FP p j)/\zt8 p=some (0,7)):=by
 have h4:=h.r5
 have hf:∀m,m < p.Reports.length->zt5 (m:Int) (zyJ p (zyB p)) p=some (decide (¬ FP p m)):=fun m hm=>by
  unfold zt5;rw[zqs (fI (by omega)),zqs (by omega),show Int.toNat ((m:Int)+1)=m+1 by omega,show Int.toNat (0:Int)=0 from rfl,List.drop_zero]
  show(ztO (zyJ p (zyB p)) (p.Reports.take (m+1))).bind _=_
  have hlen:(p.Reports.take (m+1)).length<=5:=by rw[List.length_take]; omega
  have hc:=zy0 h (rs:=p.Reports.take (m+1)) (fun r hr=>h.rsOk r (List.mem_of_mem_take hr)) (zr1 hlen (by omega))
  by_cases hq:FP p m
  ·rw[hc.some_of hq,obs,decide_eq_false (not_not_intro hq)]; rfl
  ·rw[hc.some_not hq,obs,decide_eq_true hq]; rfl
 obtain⟨k,q1,q2,q3,q4⟩:=zzS (n:=p.Reports.length) (p:=fun a=>zt5 a (zyJ p (zyB p)) p) (f:=fun m=>decide (¬ FP p m)) (by omega) hf (fun m k h1 h2 h3=>decide_eq_true fun hk=>of_decide_eq_true h3 (zz0 h1 hk)) ((p.Reports.length:Int).toNat+1) 0 p.Reports.length (Nat.zero_le _) (Nat.le_refl _) (by omega) (fun m hm=>by omega) fun m h1 h2=>by omega
 have e:zt8 p=if ((k:Nat):Int)=(p.Reports.length:Int) then some (0,7) else some ((k:Int),0):=by
  unfold zt8 zt7;rw[zzb h,obs,if_pos rfl,zyP h,obs];have q1:zt6 (fun a=>zt5 a (zyJ p (zyB p)) p) ((p.Reports.length:Int).toNat+1) 0 (p.Reports.length:Int)=some (k:Int):=q1;rw[q1,obs]
 have hlt:∀i,i < k->FP p i:=fun i hi=>Classical.not_not.1 (of_decide_eq_false (q3 i hi))
 by_cases hk:k=p.Reports.length
 ·rw[if_pos (by omega)] at e;exact .inr ⟨fun j hj=>hlt j (by omega),e⟩
 ·rw[if_neg (by omega)] at e;exact .inl ⟨k,by omega,of_decide_eq_true (q4 k (Nat.le_refl _) (by omega)),hlt,e⟩
theorem zz2{p:Pg}{j j':Nat}(h1:¬ FP p j)(h2:∀i,i < j->FP p i)(h3:¬ FP p j')(h4:∀i,i < j'->FP p i):j=j':=by
 rcases Nat.lt_trichotomy j j' with h | h | h
 ·exact absurd (h4 j h) h1
 ·exact h
 ·exact absurd (h2 j' h) h3
end
end Go.Proofs.Ytkcmdghjgoaggaa

namespace Go.Proofs.Ytkcmdghjgoaggaa
open _root_.Go.Proofs.Try
open Go.Abs
set_option maxRecDepth 100000
noncomputable section
theorem zz3{l:List Int}:(∀j,0 < j->j < l.length->∀a b,l[j - 1]? = some a->l[j]? = some b->a < b)↔l.Pairwise (· < ·):=by
 constructor
 ·intro h;rw[List.pairwise_iff_getElem];intro i j hi hj hij
  have key:∀d,(hd:i+d+1 < l.length)->l[i] < l[i+d+1]:=fun d=>by
   induction d with
   | zero=>intro hd; exact h (i+1) (by omega) hd _ _ (List.getElem?_eq_getElem hi) (List.getElem?_eq_getElem hd)
   | succ d ih=>
    intro hd;have h1:=ih (by omega);have h2:=h (i+(d+1)+1) (by omega) hd _ _ (List.getElem?_eq_getElem (show i+d+1 < l.length by omega)) (List.getElem?_eq_getElem hd);exact Int.lt_trans h1 h2
  have:=key (j - i - 1) (by omega)
  simpa [show i+(j - i - 1)+1=j by omega] using this
 ·intro h j h0 hj a b ha hb;obtain⟨h1,rfl⟩:=List.getElem?_eq_some_iff.1 ha;obtain⟨h2,rfl⟩:=List.getElem?_eq_some_iff.1 hb;exact List.pairwise_iff_getElem.1 h (j - 1) j h1 h2 (by omega)
theorem zz4{l:List Int}(hl:zr0 l):Ev (ztd l) (l.Pairwise (· < ·)):=by
 unfold zr0 at hl;unfold ztd
 by_cases h0:l.length=0
 ·have:l=[]:=List.eq_nil_of_length_eq_zero h0;subst this
  show Ev (ztc [] 1 1) _
  rw[ztc,if_neg (by decide)];exact Ev.tt .nil
 ·have e:∃n,l.length=n+1:=⟨l.length - 1,by omega⟩;obtain⟨n,hn⟩:=e
  have key:=zrU (n:=n) (F:=fun d x=>ztc l d (x+1)) (ok:=fun j=>∀a b,l[j]? = some a->l[j+1]? = some b->a < b) (bad:=some false) (fin:=some true) (fun d k hk=>by
   show(_->ztc l (d+1) ((k:Int)+1)=_)/\_
   have ha:=List.getElem?_eq_getElem (show k < l.length by omega);have hb:=List.getElem?_eq_getElem (show k+1 < l.length by omega);rw[ztc,if_pos (by omega),zrR (show(k:Int)+1=((k+1:Nat):Int) by omega) (show k+1 < l.length by omega),obs,zqs (fI (by omega)),zrR (show(k:Int)+1 - 1=(k:Int) by omega) (show k < l.length by omega),obs];refine⟨fun h=>?_,fun h=>?_⟩
   ·have:=h _ _ ha hb;rw[if_neg (by omega),zqs (fI (by omega))]
   ·rw[if_pos]
    apply Classical.byContradiction
    intro h2
    exact h fun a b h3 h4=>by rw[ha] at h3; rw[hb] at h4; cases h3; cases h4; omega) (fun d=>by show ztc l (d+1) _=_; rw[ztc,if_neg (by omega)]) (d:=((l.length:Int) - 1).toNat+1) (by omega)
  have e0:ztc l (((l.length:Int) - 1).toNat+1) (0+1)=ztc l (((l.length:Int) - 1).toNat+1) 1:=rfl
  have hiff:(∀j,j < n->∀a b,l[j]? = some a->l[j+1]? = some b->a < b)↔l.Pairwise (· < ·):=by
   rw[<- zz3]
   constructor
   ·intro h j h0 hj a b h1 h2;have:=h (j - 1) (by omega) a b h1;rw[show j - 1+1=j by omega] at this;exact this h2
   ·intro h j hj a b h1 h2;exact h (j+1) (by omega) (by omega) a b (by rw[Nat.add_sub_cancel]; exact h1) h2
  by_cases hq:∀j,j < n->∀a b,l[j]? = some a->l[j+1]? = some b->a < b
  ·have:=key.1 hq;exact⟨true,this,⟨fun _=>hiff.1 hq,fun _=>rfl⟩⟩
  ·have:=key.2 hq;exact⟨false,this,⟨fun h=>(by cases h),fun h=>absurd (hiff.2 h) hq⟩⟩
def zke(p:Pg)(l:List Int):Prop:=l.Pairwise (· < ·)/\∀v∈l,(0<=v/\v<=(p.Treaties.length:Int) - 1)/\ofB p.Treaties v.toNat=true
theorem zke.inc{p:Pg}{l:List Int}(h:zke p l):Inc p.Treaties.length 0 l:=⟨h.1,fun v hv=>by have:=(h.2 v hv).1; omega⟩
theorem zke.len{p:Pg}{l:List Int}(h:zke p l):l.length<=p.Treaties.length:=by have:=zwU h.inc; omega
theorem zz5{p:Pg}(h:VP p){n:Int}:Ev (ztn p n) ((0<=n/\n<=(p.Treaties.length:Int) - 1)/\ofB p.Treaties n.toNat=true):=by
 have h5:=h.t5;refine(zxD (zza h).2.1).and fun hc=>?_;have hg:=List.getElem?_eq_getElem (show n.toNat < p.Treaties.length by omega);have e:=zrQ hg;rw[show((n.toNat:Nat):Int)=n by omega] at e;rw[e,obs];have ho:=h.of' _ _ hg;exact Ev.dec (by rw[zzt hg,decide_eq_true_eq]; omega)
theorem zz6{p:Pg}(h:VP p){l:List Int}(hl:zr0 l):Ev (zto p l) (zke p l):=
 (zz4 hl).and fun _=>(Ev.each (p:=fun a=>ztn p a) (q:=fun v=>(0<=v/\v<=(p.Treaties.length:Int) - 1)/\ofB p.Treaties v.toNat=true) (fun _ _=>zz5 h) hl.lt gI).ret
def tyD:Ty:={ Kind:=0,Part:=0,Above:=0,Most:=0,Times:=0,Price:=0,Of:=-1 }
def tyA(ts:List Ty)(v:Int):Ty:=(ts[v.toNat]?).getD tyD
theorem zz7{ts:List Ty}{v:Int}{t:Ty}(h:ts[v.toNat]? = some t):tyA ts v=t:=by unfold tyA; rw[h]; rfl
theorem zz8{ts:List Ty}{v:Int}(h0:0<=v)(h1:v<=(ts.length:Int) - 1):ts[v.toNat]? = some (tyA ts v):=by
 have hg:=List.getElem?_eq_getElem (show v.toNat < ts.length by omega);rw[zz7 hg,hg]
theorem zz9{ts:List Ty}{v:Int}(h0:0<=v)(h1:v<=(ts.length:Int) - 1):idx ts v=some (tyA ts v):=by
 have:=zrQ (zz8 h0 h1)
 rwa [show((v.toNat:Nat):Int)=v by omega] at this
def zAa(ts:List Ty):List Int->Int
 | []=>0
 | v::l=>(tyA ts v).Price+zAa ts l
theorem zAb{ts:List Ty}{v:Int}:∀l,zAa ts (l++[v])=zAa ts l+(tyA ts v).Price
 | []=>by show _+(0:Int)=0+_; omega
 | a::l=>by show _+zAa ts (l++[v])=_+zAa ts l+_; rw[zAb l]; omega
def InT(p:Pg)(l:List Int):Prop:=∀v∈l,0<=v/\v<=(p.Treaties.length:Int) - 1
theorem zAc{p:Pg}(h:VP p):∀{l:List Int},InT p l->0<=zAa p.Treaties l/\zAa p.Treaties l<=1000 * l.length
 | [],_=>⟨Int.le_refl _,by show(0:Int)<=1000 * ((0:Nat):Int); omega⟩
 | v::l,hl=>by
  have ih:=zAc h (l:=l) fun v hv=>hl v (List.mem_cons_of_mem _ hv);have hv:=hl v (List.mem_cons_self ..);have ht:=h.ts _ (List.mem_of_getElem? (zz8 hv.1 hv.2));have h1:=ht.2
  show 0<=(tyA p.Treaties v).Price+zAa p.Treaties l/\(tyA p.Treaties v).Price+zAa p.Treaties l<=1000 * ((l.length+1:Nat):Int)
  omega
theorem zAd{α:Type}{l:List α}{k:Nat}{a:α}(h:l[k]? = some a):l.take (k+1)=l.take k++[a]:=by rw[List.take_add_one,h]; rfl
theorem zAe{p:Pg}(h:VP p){l:List Int}(hl:InT p l)(h9:l.length<=9):ztq p l=some (zAa p.Treaties l):=by
 refine zxg (n:=l.length) (fun d (s:Int) y=>ztp p l d s y) (fun k=>zAa p.Treaties (l.take k)) (fun d k hk=>?_) (fun d=>?_) (l.length+1) 0 (by omega) (by omega)
 ·have hg:=List.getElem?_eq_getElem hk;have hv:=hl _ (List.getElem_mem hk);have hb:=zAc h (l:=l.take (k+1)) fun v hv=>hl v (List.mem_of_mem_take hv)
  have hlen:(l.take (k+1)).length<=9:=by rw[List.length_take]; omega
  rw[zAd hg,zAb] at hb;rw[List.length_append,List.length_take] at hb
  simp only[List.length_singleton] at hb
  show ztp p l (d+1) _ _=_
  rw[ztp,if_pos (by omega),zrQ hg,obs,zz9 hv.1 hv.2,obs,zqs (fI (by omega)),zqs (fI (by omega)),zAd hg,zAb]
 ·show ztp p l (d+1) _ _=_
  rw[ztp,if_neg (Int.lt_irrefl _),List.take_length]
def zAf(p:Pg)(l:List Int):Pg:={ Losses:=p.Losses,Reserve:=p.Reserve,Treaties:=l.map (tyA p.Treaties),Reports:=[] }
theorem zAg{p:Pg}{l:List Int}(hl:InT p l)(h9:l.length<=9):zts p l=some (zAf p l):=by
 refine zxg (n:=l.length) (fun d (s:List Ty) y=>ztr p l d p.Reserve s y) (fun k=>(l.take k).map (tyA p.Treaties)) (fun d k hk=>?_) (fun d=>?_) (l.length+1) 0 (by omega) (by omega)
 ·have hg:=List.getElem?_eq_getElem hk;have hv:=hl _ (List.getElem_mem hk)
  show ztr p l (d+1) _ _ _=_
  rw[ztr,if_pos (by omega),zrQ hg,obs,zz9 hv.1 hv.2,obs,zqs (by rw[List.length_map,List.length_take]; omega),zqs (fI (by omega)),zAd hg,List.map_append]; rfl
 ·show ztr p l (d+1) _ _ _=_
  rw[ztr,if_neg (Int.lt_irrefl _),List.take_length]; rfl
theorem zke.inT{p:Pg}{l:List Int}(h:zke p l):InT p l:=fun v hv=>(h.2 v hv).1
theorem zke.ty{p:Pg}(h:VP p){l:List Int}(hs:zke p l){v:Int}(hv:v∈l):(tyA p.Treaties v).Of = -1:=by
 obtain⟨h1,h2⟩:=hs.2 v hv;have hg:=zz8 h1.1 h1.2;rw[zzt hg,decide_eq_true_eq] at h2;have:=h.of' _ _ hg
 omega
theorem zAh{p:Pg}(h:VP p){l:List Int}(hs:zke p l):VP (zAf p l):=by
 have h5:=h.t5;have hl:=hs.len;refine { ls:=h.ls,res:=h.res,ts:=fun t ht=>?_,of':=fun i t ht=>?_,rs:=fun r hr=>(by cases hr),l4:=h.l4,t5:=?_,r5:=Nat.zero_le _,many:=h.many }
 ·obtain⟨v,hv,rfl⟩:=List.mem_map.1 ht;have:=hs.inT v hv;exact h.ts _ (List.mem_of_getElem? (zz8 this.1 this.2))
 ·obtain⟨v,hv,rfl⟩:=List.mem_map.1 (List.mem_of_getElem? ht);rw[hs.ty h hv]; omega
 ·show(l.map (tyA p.Treaties)).length<=5
  rw[List.length_map]; omega
theorem zAi{b k:Nat}:∀e,∃T,zwW b (k+e)=zwW b k++T
 | 0=>⟨[],(List.append_nil _).symm⟩
 | e+1=>by
  obtain⟨T,hT⟩:=zAi (b:=b) (k:=k) e;refine⟨T++(if b.testBit (k+e) then [((k+e:Nat):Int)] else []),?_⟩
  show zwW b (k+e)++_=_
  rw[hT,List.append_assoc]; rfl
theorem zAj{b n:Nat}(hn:n<=16)(hb:b < 2 ^ n):zwX b=zwW b n:=by
 unfold zwX;obtain⟨e,he⟩:∃e,16=n+e:=⟨16 - n,by omega⟩;rw[he];exact zw0 (fun q hq=>Nat.testBit_lt_two_pow (Nat.lt_of_lt_of_le hb (Nat.pow_le_pow_right (by omega) hq))) e
theorem zAk{b k n j:Nat}(hk:k<=n)(hj:j < (zwW b k).length):(zwW b n)[j]? = (zwW b k)[j]?:=by
 obtain⟨T,hT⟩:=zAi (b:=b) (k:=k) (n - k);rw[show k+(n - k)=n by omega] at hT;rw[hT,List.getElem?_append_left hj]
theorem zAl{ts:List Ty}{b n:Nat}(hn:n=ts.length)(hof:∀k t,ts[k]? = some t->b.testBit k=true->t.Of = -1){P P':Nat->Int}(hP:∀(j:Nat) (v:Int),(zwW b n)[j]? = some v->P' j=P v.toNat){x:Int}:∀k,k<=n ->
  (dN ((zwW b n).map (tyA ts)) P' x (zwW b k).length).soc=(a1 ts (fun k=>b.testBit k) P x k).2/\∀(j:Nat) (v:Int),j < (zwW b k).length->(zwW b n)[j]? = some v->(dN ((zwW b n).map (tyA ts)) P' x (zwW b k).length).pays j=(a1 ts (fun k=>b.testBit k) P x k).1 v.toNat
 | 0,_=>⟨rfl,fun j v h=>by cases h⟩
 | k+1,hk=>by
  obtain⟨i1,i2⟩:=zAl hn hof hP (x:=x) k (by omega);have hg:=List.getElem?_eq_getElem (show k < ts.length by omega);rw[zzl hg];have ht:=hof k _ hg;generalize ts[k]'(by omega)=t at hg ht
  cases hb:b.testBit k with
  | true=>
   have ho:=ht hb
   have e:zwW b (k+1)=zwW b k++[(k:Int)]:=by show zwW b k++(if b.testBit k then _ else _)=_; rw[hb]; rfl
   have el:(zwW b (k+1)).length=(zwW b k).length+1:=by rw[e,List.length_append]; rfl
   have hm:(zwW b n)[(zwW b k).length]? = some (k:Int):=by
    rw[zAk (k:=k+1) hk (by omega),e,List.getElem?_append_right (Nat.le_refl _),Nat.sub_self]; rfl
   have hmt:((zwW b n).map (tyA ts))[(zwW b k).length]? = some t:=by
    rw[List.getElem?_map,hm];exact congrArg some (zz7 (by rw[Int.toNat_natCast]; exact hg))
   rw[el,zx9 hmt,if_pos ⟨by omega,rfl⟩];unfold zx8;rw[if_pos ho,i1,hP _ _ hm,Int.toNat_natCast];refine⟨rfl,fun j v hj hv=>?_⟩
   show upF _ (zwW b k).length _ j=upF (a1 ts (fun k=>b.testBit k) P x k).1 k _ v.toNat
   by_cases hjm:j=(zwW b k).length
   ·subst hjm;rw[hm] at hv
    cases hv
    rw[zxl,Int.toNat_natCast,zxl]
   ·rw[zxm _ _ hjm,i2 j v (by omega) hv];have hv2:=hv;rw[zAk (k:=k) (by omega) (by omega)] at hv2;have:=zwY.1 (List.mem_of_getElem? hv2);rw[zxm _ _ (by omega)]
  | false=>
   have e:zwW b (k+1)=zwW b k:=by show zwW b k++(if b.testBit k then _ else _)=_; rw[hb]; exact List.append_nil _
   rw[e,if_neg fun h=>by cases h.2];exact⟨i1,i2⟩
theorem zAm{ts:List Ty}{P now:Nat->Int}{j:Nat}(hj:ofB ts j=true):∀k,k<=ts.length->(a2 ts P now k).1 j=now j
 | 0,_=>rfl
 | k+1,hk=>by
  have hg:=List.getElem?_eq_getElem (show k < ts.length by omega);have hfk:=zzt hg;have ih:=zAm (P:=P) (now:=now) hj k (by omega);rw[zzm hg];generalize ts[k]'(by omega)=t at hg hfk
  by_cases ho:0<=t.Of
  ·rw[if_pos ho]
   show upF (a2 ts P now k).1 k _ j=_
   rw[zxm _ _ fun e=>by subst e; rw[hfk,decide_eq_true_eq] at hj; omega,ih]
  ·rw[if_neg ho,ih]
theorem zAn{ts:List Ty}{b:Nat}(hof:∀k t,ts[k]? = some t->b.testBit k=true->t.Of = -1):∀(L:List Int) (s:(Nat->Int) × Int) (o:DS),(∀(j:Nat) (v:Int),(zwW b ts.length)[j]? = some v->o.pays j=s.1 v.toNat)->o.soc=s.2 ->
  (L.foldl (zyg ((zwW b ts.length).map (tyA ts))) o).soc=(L.foldl (zzp ts fun k=>b.testBit k) s).2
 | [],_,_,_,h2=>h2
 | x::L,s,o,h1,h2=>by
  obtain⟨c1,c2⟩:=zAl rfl hof h1 (x:=x) ts.length (Nat.le_refl _);refine zAn hof L (zzp ts (fun k=>b.testBit k) s x) (zyg ((zwW b ts.length).map (tyA ts)) o x) (fun j v hv=>?_) ?_
  ·show o.pays j+(dN ((zwW b ts.length).map (tyA ts)) o.pays x ((zwW b ts.length).map (tyA ts)).length).pays j=s.1 v.toNat+(a2 ts s.1 (a1 ts (fun k=>b.testBit k) s.1 x ts.length).1 ts.length).1 v.toNat
   have hjl:=(List.getElem?_eq_some_iff.1 hv).1;have hmem:=zwY.1 (List.mem_of_getElem? hv);have hg:=List.getElem?_eq_getElem (show v.toNat < ts.length by omega);rw[List.length_map,h1 j v hv,c2 j v hjl hv,zAm (by rw[zzt hg,hof _ _ hg hmem.2.2]; rfl) ts.length (Nat.le_refl _)]
  ·show o.soc+(dN ((zwW b ts.length).map (tyA ts)) o.pays x ((zwW b ts.length).map (tyA ts)).length).soc=s.2+(a1 ts (fun k=>b.testBit k) s.1 x ts.length).2
   rw[List.length_map,c1,h2]
theorem zAo{ts:List Ty}{b:Nat}(hof:∀k t,ts[k]? = some t->b.testBit k=true->t.Of = -1)(L:List Int):(zyh ((zwW b ts.length).map (tyA ts)) L).soc=(zzq ts (fun k=>b.testBit k) L).2:=
 zAn hof L (fun _=>0,0) zyf (fun _ _ _=>rfl) rfl
theorem zAp{ts:List Ty}{th th':Nat->Bool}{P:Nat->Int}{x:Int}(h:∀j,j < ts.length->th j=th' j):∀k,k<=ts.length->a1 ts th P x k=a1 ts th' P x k
 | 0,_=>rfl
 | k+1,hk=>by
  have hg:=List.getElem?_eq_getElem (show k < ts.length by omega);rw[zzl hg,zzl hg,zAp h k (by omega),h k (by omega)]
theorem zAq{ts:List Ty}{th th':Nat->Bool}(h:∀j,j < ts.length->th j=th' j)(L:List Int):zzq ts th L=zzq ts th' L:=by
 have e:zzp ts th=zzp ts th':=by
  funext s x
  unfold zzp;rw[zAp h ts.length (Nat.le_refl _)]
 unfold zzq;rw[e]
theorem RI.mono{ts:List Ty}{B B':Int}{s:(Nat->Int) × Int}(h:RI ts B s)(hB:B<=B'):RI ts B' s:=⟨by have:=h.net; omega,fun j=>by have:=h.pays j; omega,h.cap⟩
theorem zAr{ts:List Ty}{th:Nat->Bool}(hts:zyb ts):∀(L:List Int) (s:(Nat->Int) × Int) (B:Int),(∀x∈L,0<=x/\x<=1000)->RI ts B s->RI ts (B+1000 * L.length) (L.foldl (zzp ts th) s)
 | [],s,B,_,h=>h.mono (by show B<=B+1000 * ((0:Nat):Int); omega)
 | x::L,s,B,hL,h=>by
  have hx:=hL x (List.mem_cons_self ..);have h1:=(h.step (th:=th) hts (x:=x) (by omega)).mono (B':=B+1000) (by omega);refine(zAr hts L _ _ (fun x hx=>hL x (List.mem_cons_of_mem _ hx)) h1).mono ?_;rw[List.length_cons]; omega
theorem zAs{p:Pg}(h:VP p){th:Nat->Bool}{L:List Int}(hL:inL p.Losses L):0<=(zzq p.Treaties th L).2/\(zzq p.Treaties th L).2<=4000:=by
 have h4:=h.l4;have hl:=zyu hL;have:=(zAr (th:=th) h.tsOk L (fun _=>0,0) 0 (zyx hL h.ls) ⟨⟨Int.le_refl _,Int.le_refl _⟩,fun _=>⟨Int.le_refl _,Int.le_refl _⟩,zyi h.tsOk⟩).net;unfold zzq
 omega
def zAt(p:Pg):List (List Int):=(List.range (zxu p.Losses).toNat).map fun n:Nat=>zzA p.Losses (n:Int)
theorem zAu{p:Pg}(h:VP p){L:List Int}:L∈zAt p↔inL p.Losses L:=by
 unfold zAt;rw[List.mem_map]
 constructor
 ·rintro⟨n,_,rfl⟩; exact h.nthIn (by omega)
 ·intro hL;obtain⟨n,n0,n1,rfl⟩:=zzC hL;exact⟨n.toNat,List.mem_range.2 (by omega),by rw[show((n.toNat:Nat):Int)=n by omega]⟩
def zAv(p:Pg)(th:Nat->Bool):Rg:=wdL (fun L=>(zzq p.Treaties th L).2) (zAt p)
theorem zAw{p:Pg}{th th':Nat->Bool}(h:∀j,j < p.Treaties.length->th j=th' j):zAv p th=zAv p th':=by
 unfold zAv
 have:(fun L=>(zzq p.Treaties th L).2)=fun L=>(zzq p.Treaties th' L).2:=funext fun L=>by rw[zAq h]
 rw[this]
theorem zAx{p:Pg}(h:VP p)(th:Nat->Bool):IsB (inL p.Losses) (fun L=>(zzq p.Treaties th L).2) (zAv p th):=by
 obtain⟨L,hL⟩:=zyF h;refine(zzK (fun e=>?_) fun L hL=>?_).congr (fun L=>zAu h) fun _ _=>rfl
 ·have:=(zAu h).2 hL
  rw[e] at this; cases this
 ·have:=zAs h (th:=th) ((zAu h).1 hL); omega
theorem zke.bits{p:Pg}(h:VP p){b:Nat}(_hb:b < 2 ^ p.Treaties.length)(hs:zke p (zwX b)):∀k t,p.Treaties[k]? = some t->b.testBit k=true->t.Of = -1:=fun k t hk hbk=>by
 have hkl:=(List.getElem?_eq_some_iff.1 hk).1;have h5:=h.t5
 have hm:((k:Nat):Int)∈zwX b:=by unfold zwX; exact zwY.2 ⟨by omega,by omega,hbk⟩
 have:=hs.ty h hm
 rwa [zz7 (t:=t) (by rw[Int.toNat_natCast]; exact hk)] at this
theorem zAy{p:Pg}(h:VP p){l:List Int}(hs:zke p l):ztX p l=some (zAv p (inD l)):=by
 have h5:=h.t5;obtain⟨b,hb,hlb⟩:=zxf (n:=p.Treaties.length) (by omega) hs.inc;have hv:=zAh h hs;have hlen:=hs.len;have hof:=zke.bits h hb (by rw[hlb]; exact hs)
 have hth:∀j,j < p.Treaties.length->inD l j=b.testBit j:=fun j hj=>by
  rw[<- hlb]; exact zxe (n:=p.Treaties.length) (by omega) hj
 have hlF:l=zwW b p.Treaties.length:=by rw[<- hlb]; exact zAj (by omega) hb
 obtain⟨L0,hL0⟩:=zyF h;have hcan:zyZ (zAf p l) (zAf p l).Reports:=⟨L0,hL0,fun r hr=>by cases hr⟩;obtain⟨r,a1,a2⟩:=zy9 hv (number:=fun a=>ztv a) (g:=fun o=>o.society) (fun L _=>rfl) hcan
 have hnet:∀L,(zyh (l.map (tyA p.Treaties)) L).soc=(zzq p.Treaties (fun k=>b.testBit k) L).2:=fun L=>by
  rw[hlF]; exact zAo hof L
 have e:r=zAv p (inD l):=by
  rw[zAw hth];have q:IsB (inL p.Losses) (fun L=>(zzq p.Treaties (fun k=>b.testBit k) L).2) r:=a2.congr (fun L=>⟨fun q=>q.1,fun q=>⟨q,fun r hr=>by cases hr⟩⟩) fun L _=>hnet L;exact q.uniq (zAx h fun k=>b.testBit k)
 unfold ztX;rw[zAg hs.inT (by omega),obs,zyP hv,obs];have a1':ztQ ({ p:=(zyJ (zAf p l) (zyB (zAf p l))).p,kinds:=(zyJ (zAf p l) (zyB (zAf p l))).kinds,shared:=(),played:=(zyJ (zAf p l) (zyB (zAf p l))).played }:Wk) (fun a=>ztv a)=some r:=a1;rw[a1',obs,e]
theorem zAz{p:Pg}(h:VP p){l:List Int}(hs:zke p l):ztY p l=some (decide ((zAv p (inD l)).Hi<=p.Reserve)):=by
 unfold ztY;rw[zAy h hs,obs]
theorem zAA{p:Pg}(h:VP p){l:List Int}(hl:zr0 l)(hs:zke p l):ztZ p l=some (zAv p (inD l),0):=by
 unfold ztZ;rw[zzb h,obs,if_pos rfl,(zz6 h hl).some_of hs,obs,if_pos rfl,zAy h hs,obs]
def zAB(p:Pg)(l:List Int)(m:Int):Prop:=zke p l/\zAa p.Treaties l<=m/\(zAv p (inD l)).Hi<=p.Reserve
theorem zAC{p:Pg}(h:VP p){l:List Int}(hl:zr0 l){m:Int}:Ev (zt4 p l m) (zAB p l m):=by
 have h5:=h.t5;unfold zt4;rw[zzb h,obs,if_pos rfl];refine((zz6 h hl).and fun hs=>(?_:Ev _ (zAa p.Treaties l<=m/\(zAv p (inD l)).Hi<=p.Reserve)));have:=hs.len;rw[zAe h hs.inT (by omega),obs];refine Ev.ite fun _=>?_;rw[zAz h hs,obs];exact Ev.dec Iff.rfl
theorem zAD{l:List Int}(h:l.length<=100000):ztI l=some l:=by
 unfold ztI;rw[zqs (by simp only[List.length_nil]; omega)]; rfl
def zAE(p:Pg)(D:List Int):Prop:=zke p D/\(zAv p (inD D)).Hi<=p.Reserve
structure zAF (p:Pg) (M:List Int):Prop where
 good:zAE p M
 min:∀D,zAE p D->zAa p.Treaties M < zAa p.Treaties D\/(zAa p.Treaties M=zAa p.Treaties D/\(D=M\/shB M D=true))
theorem zAF.uniq{p:Pg}{M M':List Int}(h:zAF p M)(h':zAF p M'):M=M':=by
 rcases h.min M' h'.good with h1 | ⟨h1,h1'⟩ <;> rcases h'.min M h.good with h2 | ⟨h2,h2'⟩
 ·omega
 ·omega
 ·omega
 ·rcases h1' with h3 | h3
  ·exact h3.symm
  ·rcases h2' with h4 | h4
   ·exact h4
   ·rw[zw4 h3] at h4; cases h4
open Classical in
def zAG(p:Pg)(s:List Int × Bool)(D:List Int):List Int × Bool:=if zAE p D/\(s.2=true->zAa p.Treaties D < zAa p.Treaties s.1) then (D,true) else s
theorem zAH{p:Pg}{s:List Int × Bool}(h:s.2=true->zke p s.1)(D:List Int):(zAG p s D).2=true->zke p (zAG p s D).1:=by
 unfold zAG
 split
 ·rename_i hc; exact fun _=>hc.1.1
 ·exact h
theorem zAI{p:Pg}(h:VP p){x:Int}(hx:0<=x/\x<=1000){K:List Int->Bool->Int->Option (List Int × Bool)}:∀(q:List (List Int)) (s:List Int × Bool),(∀D∈q,Inc p.Treaties.length 0 D)->(s.2=true->zke p s.1) ->
  zt0 p x K q s.1 s.2=K (q.foldl (zAG p) s).1 (q.foldl (zAG p) s).2 (x+1)/\((q.foldl (zAG p) s).2=true->zke p (q.foldl (zAG p) s).1)
 | [],s,_,hs=>⟨by rw[zt0,zqs (fI (by omega))]; rfl,hs⟩
 | D::q,s,hq,hs=>by
  have h5:=h.t5;have hD:=zwU (hq D (List.mem_cons_self ..));have ih:=zAI h hx (K:=K) q (zAG p s D) (fun D hD=>hq D (List.mem_cons_of_mem _ hD)) (zAH hs D);refine⟨?_,ih.2⟩;refine Eq.trans ?_ ih.1;rw[zt0]
  have hD5:D.length<=5:=by omega
  by_cases hset:zke p D
  ·rw[(zz6 h (zr1 hD5 (by omega))).some_of hset,obs,if_pos rfl];have hg:zAE p D↔(zAv p (inD D)).Hi<=p.Reserve:=⟨fun q=>q.2,fun q=>⟨hset,q⟩⟩;obtain⟨M,b⟩:=s
   cases b with
   | true=>
    have hM:=hs rfl;have hMl:M.length<=p.Treaties.length:=hM.len
    show(if true=true then _ else _)=_
    rw[if_pos rfl,zAe h hset.inT (by omega),obs]
    show(ztq p M).bind _=_
    rw[zAe h hM.inT (by show M.length<=9; omega),obs]
    by_cases hp:zAa p.Treaties M<=zAa p.Treaties D
    ·rw[if_pos hp]
     have e:zAG p (M,true) D=(M,true):=if_neg fun q=>by have:zAa p.Treaties D < zAa p.Treaties M:=q.2 rfl; omega
     rw[e]
    ·rw[if_neg hp,zAz h hset,obs]
     by_cases hk:(zAv p (inD D)).Hi<=p.Reserve
     ·have e:zAG p (M,true) D=(D,true):=if_pos ⟨hg.2 hk,fun _=>by show zAa p.Treaties D < zAa p.Treaties M; omega⟩;rw[decide_eq_true hk,if_pos rfl,zAD (by omega),obs,e]
     ·have e:zAG p (M,true) D=(M,true):=if_neg fun q=>hk (hg.1 q.1);rw[decide_eq_false hk,if_neg (by decide),e]
   | false=>
    show(if false=true then _ else _)=_
    rw[if_neg (by decide),zAz h hset,obs]
    by_cases hk:(zAv p (inD D)).Hi<=p.Reserve
    ·have e:zAG p (M,false) D=(D,true):=if_pos ⟨hg.2 hk,fun q=>(by cases q)⟩;rw[decide_eq_true hk,if_pos rfl,zAD (by omega),obs,e]
    ·have e:zAG p (M,false) D=(M,false):=if_neg fun q=>hk (hg.1 q.1);rw[decide_eq_false hk,if_neg (by decide),e]
  ·rw[(zz6 h (zr1 hD5 (by omega))).some_not hset,obs,if_neg (by decide)];have e:zAG p s D=s:=if_neg fun q=>hset q.1.1;rw[e]
theorem zAJ{p:Pg}(h:VP p):∀(d e k:Nat) (s:List Int × Bool),k+e=p.Treaties.length+1->e < d->(s.2=true->zke p s.1)->zt1 p d s.1 s.2 (k:Int)=some ((zrv (fun s=>zrw p.Treaties.length s [] 0) e k).foldl (zAG p) s)
 | 0,_,_,_,_,hd,_=>by omega
 | d+1,0,k,s,hk,hd,hs=>by
  rw[zt1,if_neg (by omega)]; rfl
 | d+1,e+1,k,s,hk,hd,hs=>by
  have h5:=h.t5
  have hinc:∀D∈zrw p.Treaties.length k [] 0,Inc p.Treaties.length 0 D:=fun D hD=>by
   obtain⟨T,h1,_,h3⟩:=zwT.1 hD;rw[List.nil_append] at h1;rw[h1]; exact h3
  obtain⟨q1,q2⟩:=zAI h (x:=(k:Int)) (by omega) (K:=zt1 p d) (zrw p.Treaties.length k [] 0) s hinc hs;rw[zt1,if_pos (by omega)];unfold zrz;rw[zqs (by omega),obs,Int.toNat_natCast,Int.toNat_natCast,q1,show(k:Int)+1=((k+1:Nat):Int) by omega];refine(zAJ h d e (k+1) _ (by omega) (by omega) q2).trans ?_
  show _=some ((zrw p.Treaties.length k [] 0++zrv (fun s=>zrw p.Treaties.length s [] 0) e (k+1)).foldl (zAG p) s)
  rw[List.foldl_append]
theorem zAK{p:Pg}(h:VP p):zt2 p=some ((zoj p.Treaties.length).foldl (zAG p) ([],false)):=by
 have h5:=h.t5;unfold zt2;rw[zqs (fI (by omega))]
 exact zAJ h _ (p.Treaties.length+1) 0 ([],false) (by omega) (by omega) fun q=>by cases q
structure zAL (p:Pg) (A:List (List Int)) (s:List Int × Bool):Prop where
 yes:s.2=true->s.1∈A/\zAE p s.1/\∀D∈A,zAE p D->zAa p.Treaties s.1 < zAa p.Treaties D\/(zAa p.Treaties s.1=zAa p.Treaties D/\(D=s.1\/shB s.1 D=true))
 no:s.2=false->s.1=[]/\∀D∈A,¬ zAE p D
theorem zAM{p:Pg}:∀(q A:List (List Int)) (s:List Int × Bool),(A++q).Pairwise (fun a b=>shB a b=true)->zAL p A s->zAL p (A++q) (q.foldl (zAG p) s)
 | [],A,s,_,h=>by rw[List.append_nil]; exact h
 | D::q,A,s,hp,h=>by
  have e:A++D::q=(A++[D])++q:=by rw[List.append_assoc]; rfl
  rw[e] at hp ⊢;refine zAM q (A++[D]) (zAG p s D) hp ?_;have hAD:∀a∈A,shB a D=true:=fun a ha=>(List.pairwise_append.1 (List.pairwise_append.1 hp).1).2.2 a ha D (List.mem_singleton.2 rfl)
  have hmem:∀D',D'∈A++[D]->D'∈A\/D'=D:=fun D' hD'=>by
   rcases List.mem_append.1 hD' with q | q
   ·exact .inl q
   ·exact .inr (List.mem_singleton.1 q)
  obtain⟨M,b⟩:=s
  by_cases hc:zAE p D/\(b=true->zAa p.Treaties D < zAa p.Treaties M)
  ·have e2:zAG p (M,b) D=(D,true):=if_pos hc;rw[e2];refine⟨fun _=>⟨List.mem_append_right _ (List.mem_singleton.2 rfl),hc.1,fun D' hD' hg=>?_⟩,fun q=>(by cases q)⟩
   rcases hmem D' hD' with hq | rfl
   ·cases b with
    | true=>
     have h1:zAa p.Treaties D < zAa p.Treaties M:=hc.2 rfl
     rcases (h.yes rfl).2.2 D' hq hg with h2 | ⟨h2,_⟩
     ·have h2:zAa p.Treaties M < zAa p.Treaties D':=h2;exact .inl (by show zAa p.Treaties D < _; omega)
     ·have h2:zAa p.Treaties M=zAa p.Treaties D':=h2;exact .inl (by show zAa p.Treaties D < _; omega)
    | false=>exact absurd hg ((h.no rfl).2 D' hq)
   ·exact .inr ⟨rfl,.inl rfl⟩
  ·have e2:zAG p (M,b) D=(M,b):=if_neg hc;rw[e2]
   cases b with
   | true=>
    refine⟨fun _=>?_,fun q=>(by cases q)⟩;obtain⟨y1,y2,y3⟩:=h.yes rfl;refine⟨List.mem_append_left _ y1,y2,fun D' hD' hg=>?_⟩
    rcases hmem D' hD' with hq | rfl
    ·exact y3 D' hq hg
    ·have h1:¬ zAa p.Treaties D' < zAa p.Treaties M:=fun q=>hc ⟨hg,fun _=>q⟩
     rcases Int.lt_or_eq_of_le (show zAa p.Treaties M<=zAa p.Treaties D' by omega) with h2 | h2
     ·exact .inl h2
     ·exact .inr ⟨h2,.inr (hAD M y1)⟩
   | false=>
    refine⟨fun q=>(by cases q),fun _=>⟨(h.no rfl).1,fun D' hD' hg=>?_⟩⟩
    rcases hmem D' hD' with hq | rfl
    ·exact(h.no rfl).2 D' hq hg
    ·exact hc ⟨hg,fun q=>(by cases q)⟩
theorem zAN{p:Pg}(h:VP p):(∃M,zt2 p=some (M,true)/\zAF p M)\/(zt2 p=some ([],false)/\∀D,¬ zAE p D):=by
 have hi:=zAM (p:=p) (zoj p.Treaties.length) [] ([],false) (zw8 _) ⟨fun q=>(by cases q),fun _=>⟨rfl,fun D hD=>by cases hD⟩⟩;rw[List.nil_append] at hi;rw[zAK h];generalize (zoj p.Treaties.length).foldl (zAG p) ([],false)=s at hi;have hall:∀D,zAE p D->D∈zoj p.Treaties.length:=fun D hD=>zwV.2 hD.1.inc;obtain⟨M,b⟩:=s
 cases b with
 | true=>
  obtain⟨_,y2,y3⟩:=hi.yes rfl;exact .inl ⟨M,rfl,y2,fun D hD=>y3 D (hall D hD) hD⟩
 | false=>
  obtain⟨n1,n2⟩:=hi.no rfl;have n1:M=[]:=n1;subst n1;exact .inr ⟨rfl,fun D hD=>n2 D (hall D hD) hD⟩
theorem zAO{p:Pg}(h:VP p):(∃M,zt3 p=some (M,zAa p.Treaties M,0)/\zAF p M)\/(zt3 p=some ([],0,10)/\∀D,¬ zAE p D):=by
 have h5:=h.t5;unfold zt3;rw[zzb h,obs,if_pos rfl]
 rcases zAN h with ⟨M,q1,q2⟩ | ⟨q1,q2⟩
 ·have hl:=q2.good.1.len;refine .inl ⟨M,?_,q2⟩;rw[q1,obs]
  show(ztq p M).bind _=_
  rw[zAe h q2.good.1.inT (by omega),obs]
 ·refine .inr ⟨?_,q2⟩;rw[q1,obs]; rfl
end
end Go.Proofs.Ytkcmdghjgoaggaa

namespace Go.Proofs.Ytkcmdghjgoaggaa
open _root_.Go.Proofs.Try
open Go.Abs
set_option maxRecDepth 100000
noncomputable section
def zAP(p:Pg):Prop:=p.Losses.length<=7/\p.Treaties.length<=8/\p.Reports.length<=8
theorem VP.thin{p:Pg}(h:VP p):zAP p:=by
 have:=h.l4; have:=h.t5; have:=h.r5;exact⟨by omega,by omega,by omega⟩
def zAQ(p:Pg):Prop:=zAP p/\(VP p->zxu p.Losses<=300)
theorem zAR{p:Pg}:Ev (zui p) (zAQ p):=by
 unfold zui zAQ zAP
 by_cases h1:p.Losses.length<=7
 ·rw[if_pos (by omega)]
  by_cases h2:p.Treaties.length<=8
  ·rw[if_pos (by omega)]
   by_cases h3:p.Reports.length<=8
   ·rw[if_pos (by omega),zxY (by omega) (by omega) (by omega),obs]
    by_cases hf:zxv p=0
    ·have hv:=zxw.1 hf;rw[if_pos hf,zxX hv,obs];exact Ev.dec ⟨fun q=>⟨⟨h1,h2,h3⟩,fun _=>q⟩,fun q=>q.2 hv⟩
    ·rw[if_neg hf];exact Ev.tt ⟨⟨h1,h2,h3⟩,fun q=>absurd (zxw.2 q) hf⟩
   ·rw[if_neg (by omega)]; exact Ev.ff fun q=>h3 q.1.2.2
  ·rw[if_neg (by omega)]; exact Ev.ff fun q=>h2 q.1.2.1
 ·rw[if_neg (by omega)]; exact Ev.ff fun q=>h1 q.1.1
theorem zAS{p:Pg}:Ev (zuo p) (VP p/\zxu p.Losses<=300):=by
 unfold zuo
 by_cases ht:zAQ p
 ·obtain⟨⟨a,b,c⟩,ht2⟩:=ht;rw[zAR.some_of ⟨⟨a,b,c⟩,ht2⟩,obs,if_pos rfl,zxY (by omega) (by omega) (by omega),obs];exact Ev.dec (zxw.trans ⟨fun q=>⟨q,ht2 q⟩,fun q=>q.1⟩)
 ·rw[zAR.some_not ht,obs,if_neg (by decide)];exact Ev.ff fun q=>ht ⟨q.1.thin,fun _=>q.2⟩
theorem zAT{p:Pg}(h:zAP p):zuf p=some p:=by
 obtain⟨h1,h2,h3⟩:=h
 have k2:zuc p p.Losses p.Treaties 1000000 p.Reserve [] 0=some p:=by
  refine(zrW (l:=p.Reports) (fun r=>r) (F:=fun d acc x=>zuc p p.Losses p.Treaties d p.Reserve acc x) (fun acc=>some ({ Losses:=p.Losses,Reserve:=p.Reserve,Treaties:=p.Treaties,Reports:=acc }:Pg)) (fun d k acc a hk ha=>?_) (fun d acc=>?_) (d:=1000000) (by omega)).trans (by rw[List.map_id'])
  ·have hkl:=(List.getElem?_eq_some_iff.1 hk).1
   show zuc p p.Losses p.Treaties (d+1) _ _ _=_
   rw[zuc,if_pos (by omega),zrQ hk,obs,obs]
   show(some a.Paid).bind _=_
   rw[obs,zqs (by omega),zqs (fI (by omega))]
  ·show zuc p p.Losses p.Treaties (d+1) _ _ _=_
   rw[zuc,if_neg (Int.lt_irrefl _)]
 have k1:zud p p.Losses 1000000 p.Reserve [] [] 0=some p:=by
  refine(zrW (l:=p.Treaties) (fun r=>r) (F:=fun d acc x=>zud p p.Losses d p.Reserve acc [] x) (fun acc=>zuc p p.Losses acc 1000000 p.Reserve [] 0) (fun d k acc a hk ha=>?_) (fun d acc=>?_) (d:=1000000) (by omega)).trans (by rw[List.map_id']; exact k2)
  ·have hkl:=(List.getElem?_eq_some_iff.1 hk).1
   show zud p p.Losses (d+1) _ _ _ _=_
   rw[zud,if_pos (by omega),zrQ hk,obs,zqs (by omega),zqs (fI (by omega))]
  ·show zud p p.Losses (d+1) _ _ _ _=_
   rw[zud,if_neg (Int.lt_irrefl _)]
 refine(zrW (l:=p.Losses) (fun r=>r) (F:=fun d acc x=>zue p d acc p.Reserve [] [] x) (fun acc=>zud p acc 1000000 p.Reserve [] [] 0) (fun d k acc a hk ha=>?_) (fun d acc=>?_) (d:=1000000) (by omega)).trans (by rw[List.map_id']; exact k1)
 ·have hkl:=(List.getElem?_eq_some_iff.1 hk).1
  show zue p (d+1) _ _ _ _ _=_
  rw[zue,if_pos (by omega),zrQ hk,obs]
  show(some a).bind _=_
  rw[obs,zqs (by omega),zqs (fI (by omega))]
 ·show zue p (d+1) _ _ _ _ _=_
  rw[zue,if_neg (Int.lt_irrefl _)]
theorem zAU{l:List Int}(hl:l.length<=1000):zuh l l=some true:=by
 unfold zuh;rw[if_pos rfl]
 have key:=zrZ (l:=l) (F:=zug l l) (ok:=fun _=>True) (bad:=some false) (fin:=some true) (fun d k a ha=>by
  have hk:=(List.getElem?_eq_some_iff.1 ha).1;refine⟨fun _=>?_,fun h=>absurd trivial h⟩
  rw[zug,if_pos (by omega),zrQ ha,obs,obs,if_pos rfl,zqs (fI (by omega))]) (fun d=>by rw[zug,if_neg (Int.lt_irrefl _)]) (d:=l.length+1) (by omega)
 exact key.1 fun _ _=>trivial
def zAV(n:Int)(rs:List Rpt):Pg:={ Losses:=[{ Lo:=100,Hi:=120 },{ Lo:=300,Hi:=300 }],Reserve:=n,Treaties:=[{ Kind:=0,Part:=25,Above:=0,Most:=0,Times:=0,Price:=50,Of:=-1 },{ Kind:=1,Part:=0,Above:=50,Most:=100,Times:=0,Price:=30,Of:=-1 },{ Kind:=1,Part:=0,Above:=20,Most:=40,Times:=1,Price:=5,Of:=0 }],Reports:=rs }
def zAW:List Rpt:=[{ Treaty:=0,Paid:={ Lo:=103,Hi:=110 } },{ Treaty:=2,Paid:={ Lo:=45,Hi:=46 } }]
theorem zAX(rs:List Rpt):zuk rs=some (zAV 200 rs):=rfl
theorem zAY:zul=some zAW:=rfl
theorem zAZ(n:Int):zum n=some (zAV n []):=rfl
theorem zA0{a b hi:Int}(h1:0<=a)(h2:a<=b)(h3:b<=hi):RgV { Lo:=a,Hi:=b } hi:=⟨h1,h2,h3⟩
theorem zA1{n:Int}{rs:List Rpt}(hn:0<=n/\n<=10000)(hr:rs.length<=5)(hrs:∀r∈rs,(0<=r.Treaty/\r.Treaty<=2)/\RgV r.Paid 10000):VP (zAV n rs):=by
 refine { ls:=fun r hr=>?_,res:=hn,ts:=fun t ht=>?_,of':=fun i t ht=>?_,rs:=fun r hr=>?_,l4:=by show 2<=4; omega,t5:=by show 3<=5; omega,r5:=hr,many:=by show zxu [{ Lo:=100,Hi:=120 },{ Lo:=300,Hi:=300 }]<=1500; decide }
 ·rcases List.mem_cons.1 hr with rfl | hr
  ·exact zA0 (by omega) (by omega) (by omega)
  rcases List.mem_cons.1 hr with rfl | hr
  ·exact zA0 (by omega) (by omega) (by omega)
  ·cases hr
 ·rcases List.mem_cons.1 ht with rfl | ht
  ·exact⟨by unfold zgo; decide,by decide,by decide⟩
  rcases List.mem_cons.1 ht with rfl | ht
  ·exact⟨by unfold zgo; decide,by decide,by decide⟩
  rcases List.mem_cons.1 ht with rfl | ht
  ·exact⟨by unfold zgo; decide,by decide,by decide⟩
  ·cases ht
 ·match i,ht with
  | 0,ht=>cases ht; exact⟨by decide,by decide⟩
  | 1,ht=>cases ht; exact⟨by decide,by decide⟩
  | 2,ht=>cases ht; exact⟨by decide,by decide⟩
  | k+3,ht=>cases ht
 ·exact⟨(hrs r hr).1,(hrs r hr).2⟩
theorem vp3(n:Int)(hn:0<=n/\n<=10000):VP (zAV n []):=zA1 hn (by show 0<=5; omega) fun r hr=>by cases hr
theorem zA2:VP (zAV 200 zAW):=zA1 (by omega) (by show 2<=5; omega) fun r hr=>by
 rcases List.mem_cons.1 hr with rfl | hr
 ·exact⟨⟨by decide,by decide⟩,zA0 (by omega) (by omega) (by omega)⟩
 rcases List.mem_cons.1 hr with rfl | hr
 ·exact⟨⟨by decide,by decide⟩,zA0 (by omega) (by omega) (by omega)⟩
 ·cases hr
theorem zA3{p:Pg}(h:VP p){D:List Int}(hD:Inc p.Treaties.length 0 D):∃b,b < 2 ^ p.Treaties.length/\zwX b=D:=zxf (by have:=h.t5; omega) hD
theorem zA4:zke (zAV 200 []) [1]:=⟨List.pairwise_singleton _ _,fun v hv=>by
 have:=List.mem_singleton.1 hv; subst this
 exact⟨⟨by decide,by decide⟩,by decide +kernel⟩⟩
theorem zA5:zAF (zAV 300 []) [0,1]:=by
 have hs:zke (zAV 300 []) [0,1]:=⟨by simp,fun v hv=>by
  rcases List.mem_cons.1 hv with rfl | hv
  ·exact⟨⟨by decide,by decide⟩,by decide +kernel⟩
  ·have:=List.mem_singleton.1 hv; subst this
   exact⟨⟨by decide,by decide⟩,by decide +kernel⟩⟩
 refine⟨⟨hs,by decide +kernel⟩,fun D hD=>?_⟩;obtain⟨b,hb,rfl⟩:=zA3 (vp3 300 (by omega)) hD.1.inc;have hb:b < 8:=hb
 have:b=0\/b=1\/b=2\/b=3\/b=4\/b=5\/b=6\/b=7:=by omega
 rcases this with rfl | rfl | rfl | rfl | rfl | rfl | rfl | rfl
 ·exact absurd hD.2 (by decide +kernel)
 ·exact absurd hD.2 (by decide +kernel)
 ·exact absurd hD.2 (by decide +kernel)
 ·have e:zwX 3=[0,1]:=by decide +kernel
  rw[e]; exact .inr ⟨rfl,.inl rfl⟩
 ·exact absurd (hD.1.2 2 (by decide +kernel)).2 (by decide +kernel)
 ·exact absurd (hD.1.2 2 (by decide +kernel)).2 (by decide +kernel)
 ·exact absurd (hD.1.2 2 (by decide +kernel)).2 (by decide +kernel)
 ·exact absurd (hD.1.2 2 (by decide +kernel)).2 (by decide +kernel)
def okT(L:List Int):Bool:=decide (103<=(zyh (zAV 200 zAW).Treaties L).pays 0/\(zyh (zAV 200 zAW).Treaties L).pays 0<=110) && decide (45<=(zyh (zAV 200 zAW).Treaties L).pays 2/\(zyh (zAV 200 zAW).Treaties L).pays 2<=46)
theorem zA6:(zAt (zAV 200 zAW)).all (fun L=>!okT L)=true:=by decide +kernel
theorem zA7:¬ zyZ (zAV 200 zAW) zAW:=by
 rintro⟨L,hL,hA⟩
 have h1:=hA _ (List.mem_cons_self ..);have h2:=hA _ (List.mem_cons_of_mem _ (List.mem_cons_self ..));have h3:=List.all_eq_true.1 zA6 L ((zAu zA2).2 hL)
 have h4:okT L=true:=by
  unfold okT;rw[Bool.and_eq_true_iff];exact⟨decide_eq_true h1,decide_eq_true h2⟩
 rw[h4] at h3; cases h3
theorem fp0:FP (zAV 200 zAW) 0:=⟨[112,300],⟨⟨by decide,by decide⟩,⟨by decide,by decide⟩,trivial⟩,fun r hr=>by
 have hr:r∈[({ Treaty:=0,Paid:={ Lo:=103,Hi:=110 } }:Rpt)]:=hr;have:=List.mem_singleton.1 hr; subst this
 exact(by decide +kernel:(103:Int)<=(zyh (zAV 200 zAW).Treaties [112,300]).pays 0/\(zyh (zAV 200 zAW).Treaties [112,300]).pays 0<=110)⟩
theorem zA8:zt8 (zAV 200 zAW)=some (1,0):=by
 rcases zz1 zA2 with ⟨j,a1,a2,a3,a4⟩ | ⟨a1,a2⟩
 ·have:j=1:=zz2 (p:=zAV 200 zAW) a2 a3 (j':=1) zA7 fun i hi=>by
   rw[show i=0 by omega]; exact fp0
  subst this; exact a4
 ·exact absurd (a1 1 (by show 1 < 2; omega)) zA7
theorem zA9:zua (zAV 200 zAW)=some ([0],0):=by
 obtain⟨M,q1,q2⟩:=zzZ zA2
 have hm:zzx 2 (PL (zAV 200 zAW)) [0]:=by
  refine⟨⟨List.pairwise_singleton _ _,fun v hv=>by have:=List.mem_singleton.1 hv; subst this; exact⟨by decide,by decide⟩⟩,⟨[100,300],⟨⟨by decide,by decide⟩,⟨by decide,by decide⟩,trivial⟩,fun j hj hs=>?_⟩,fun D hD hP=>?_⟩
  ·have hj:j < 2:=hj
   have:j=0\/j=1:=by omega
   rcases this with rfl | rfl
   ·exact absurd hs (by decide +kernel)
   ·refine(zzD (p:=zAV 200 zAW) (j:=1) rfl).2 ?_;exact(by decide +kernel:(45:Int)<=(zyh (zAV 200 zAW).Treaties [100,300]).pays 2/\(zyh (zAV 200 zAW).Treaties [100,300]).pays 2<=46)
  ·obtain⟨b,hb,rfl⟩:=zxf (n:=2) (by omega) hD;have hb:b < 4:=hb
   have:b=0\/b=1\/b=2\/b=3:=by omega
   rcases this with rfl | rfl | rfl | rfl
   ·refine absurd (zzI.2 ((PL.congr fun j hj=>?_).1 hP)) zA7;have hj:j < 2:=hj
    have:j=0\/j=1:=by omega
    rcases this with rfl | rfl <;> decide +kernel
   ·exact .inl (by decide +kernel)
   ·exact .inr (by decide +kernel)
   ·exact .inr (by decide +kernel)
 rw[q2.uniq hm] at q1;exact q1
theorem zBa:zyZ (zAV 200 []) (zAV 200 []).Reports:=⟨[100,300],⟨⟨by decide,by decide⟩,⟨by decide,by decide⟩,trivial⟩,fun r hr=>by cases hr⟩
theorem zBb:ztL (zAV 200 []) [100,300]=some ([100,100,45],200,0):=by
 rw[zze (vp3 200 (by omega)) (L:=[100,300]) ⟨⟨by decide,by decide⟩,⟨by decide,by decide⟩,trivial⟩]
 have e1:lN (zAV 200 []).Treaties.length (zyh (zAV 200 []).Treaties [100,300]).pays=[100,100,45]:=by decide +kernel
 have e2:(zyh (zAV 200 []).Treaties [100,300]).soc=200:=by decide +kernel
 rw[e1,e2]
theorem zBc{r:Rg}{a b:Int}(h1:r.Lo=a)(h2:r.Hi=b):r={ Lo:=a,Hi:=b }:=by cases r; subst h1; subst h2; rfl
theorem zBd:ztV (zAV 200 [])=some (bsN 3 (bdF (zAV 200 []) (trL (zAV 200 []))),0):=by
 have h:=vp3 200 (by omega);obtain⟨bs,q1,q2⟩:=zzi h zBa;rw[q1,q2.uniq (zzN h zBa).1]; rfl
theorem bd0:bdF (zAV 200 []) (trL (zAV 200 [])) 0={ Pays:={ Lo:=100,Hi:=105 },Keeps:={ Lo:=55,Hi:=55 } }:=by
 have e1:=zBc (r:=(bdF (zAV 200 []) (trL (zAV 200 [])) 0).Pays) (a:=100) (b:=105) (by decide +kernel) (by decide +kernel);have e2:=zBc (r:=(bdF (zAV 200 []) (trL (zAV 200 [])) 0).Keeps) (a:=55) (b:=55) (by decide +kernel) (by decide +kernel);generalize bdF (zAV 200 []) (trL (zAV 200 [])) 0=b at e1 e2
 cases b; simp only at e1 e2; rw[e1,e2]
theorem bd2:bdF (zAV 200 []) (trL (zAV 200 [])) 2={ Pays:={ Lo:=45,Hi:=50 },Keeps:={ Lo:=45,Hi:=50 } }:=by
 have e1:=zBc (r:=(bdF (zAV 200 []) (trL (zAV 200 [])) 2).Pays) (a:=45) (b:=50) (by decide +kernel) (by decide +kernel);have e2:=zBc (r:=(bdF (zAV 200 []) (trL (zAV 200 [])) 2).Keeps) (a:=45) (b:=50) (by decide +kernel) (by decide +kernel);generalize bdF (zAV 200 []) (trL (zAV 200 [])) 2=b at e1 e2
 cases b; simp only at e1 e2; rw[e1,e2]
theorem zBe:ztW (zAV 200 [])=some ({ Lo:=200,Hi:=215 },0):=by
 have h:=vp3 200 (by omega);obtain⟨r,q1,q2⟩:=zzj h zBa;rw[q1,q2.uniq (zzN h zBa).2,zBc (r:=wdL (fun L=>(zyh (zAV 200 []).Treaties L).soc) (trL (zAV 200 []))) (a:=200) (b:=215) (by decide +kernel) (by decide +kernel)]
theorem zBf:ztZ (zAV 200 []) [1]=some ({ Lo:=300,Hi:=320 },0):=by
 rw[zAA (vp3 200 (by omega)) (by unfold zr0; decide) zA4,zBc (r:=zAv (zAV 200 []) (inD [1])) (a:=300) (b:=320) (by decide +kernel) (by decide +kernel)]
theorem zBg:zt3 (zAV 300 [])=some ([0,1],80,0):=by
 rcases zAO (vp3 300 (by omega)) with ⟨M,q1,q2⟩ | ⟨_,q2⟩
 ·rw[q1,q2.uniq zA5]; rfl
 ·exact absurd zA5.good (q2 _)
theorem zBh:zt4 (zAV 300 []) [0,1] 80=some true:=
 (zAC (vp3 300 (by omega)) (by unfold zr0; decide)).some_of ⟨zA5.good.1,by decide +kernel,zA5.good.2⟩
theorem f64{n:Int}(h:-1000000<=n/\n<=1000000):zl7 .i64 n:=fI (by omega)
theorem zBi:zun=some true:=by
 have i0:idx (bsN 3 (bdF (zAV 200 []) (trL (zAV 200 [])))) 0=some { Pays:={ Lo:=100,Hi:=105 },Keeps:={ Lo:=55,Hi:=55 } }:=by
  have:=zrQ (zzM (n:=3) (f:=bdF (zAV 200 []) (trL (zAV 200 []))) (k:=0) (by omega));rw[bd0] at this; exact this
 have i2:idx (bsN 3 (bdF (zAV 200 []) (trL (zAV 200 [])))) 2=some { Pays:={ Lo:=45,Hi:=50 },Keeps:={ Lo:=45,Hi:=50 } }:=by
  have:=zrQ (zzM (n:=3) (f:=bdF (zAV 200 []) (trL (zAV 200 []))) (k:=2) (by omega));rw[bd2] at this; exact this
 have hl:((bsN 3 (bdF (zAV 200 []) (trL (zAV 200 [])))).length:Int)=3:=by rw[zzL]; rfl
 have s1:zuh [100,100,45] [100,100,45]=some true:=zAU (by decide);have s2:zuh [0,1] [0,1]=some true:=zAU (by decide);have s3:zuh [0] [0]=some true:=zAU (by decide);have f:∀n:Int,-1000000<=n/\n<=1000000->zl7 .i64 n:=fun n h=>f64 h;unfold zun
 simp only[zAX,zAY,zAZ,obs,zBb,zBd,zBe,zBf,zBg,zA8,zA9,s1,s2,s3,if_true,hl,i0,i2,zuj]
 rw[zqs (f 100 (by omega)),zqs (f 100 (by omega)),zqs (f 105 (by omega)),zqs (f 105 (by omega)),zqs (f 55 (by omega)),zqs (f 55 (by omega)),zqs (f 55 (by omega)),zqs (f 55 (by omega)),if_pos (by decide),zqs (f 45 (by omega)),zqs (f 45 (by omega)),zqs (f 50 (by omega)),zqs (f 50 (by omega)),zqs (f 45 (by omega)),zqs (f 45 (by omega)),zqs (f 50 (by omega)),zqs (f 50 (by omega)),if_pos (by decide),zqs (f 200 (by omega)),zqs (f 200 (by omega)),zqs (f 215 (by omega)),zqs (f 215 (by omega)),if_pos (by decide),zqs (f 300 (by omega)),zqs (f 300 (by omega)),zqs (f 320 (by omega)),zqs (f 320 (by omega)),if_pos (by decide)]
 simp only[zBh,obs,if_true]
theorem aw:((zun).bind fun r=>some r)=some true:=by rw[zBi]; rfl
def zBj(p:Pg)(S:Nat->Bool):Pg:={ Losses:=p.Losses,Reserve:=p.Reserve,Treaties:=p.Treaties,Reports:=kpF p.Reports 0 S }
theorem zBk{p:Pg}(h:VP p)(S:Nat->Bool):VP (zBj p S):=by
 have h5:=h.r5;have hl:=zzP (S:=S) p.Reports 0;refine { ls:=h.ls,res:=h.res,ts:=h.ts,of':=h.of',rs:=fun r hr=>?_,l4:=h.l4,t5:=h.t5,r5:=?_,many:=h.many }
 ·obtain⟨j,h1,_⟩:=(zzO _ _).1 hr;exact h.rs r (List.mem_of_getElem? h1)
 ·show(kpF p.Reports 0 S).length<=5
  omega
theorem zBl{p:Pg}(h:VP p){b:Nat}(hb:b < 1000000):zuq p (b:Int)=some (zBj p fun j=>b.testBit j):=by
 have h5:=h.r5
 have key:∀(d k:Nat) (acc:List Rpt),k<=p.Reports.length->p.Reports.length - k < d->acc.length<=k->zup p (b:Int) d p.Reserve acc (k:Int)=some { Losses:=p.Losses,Reserve:=p.Reserve,Treaties:=p.Treaties,Reports:=acc++kpF (p.Reports.drop k) k fun j=>b.testBit j }:=by
  intro d
  induction d with
  | zero=>intro k _ _ h _; omega
  | succ d ih=>
   intro k acc hk hd ha;rw[zup]
   by_cases hkl:k < p.Reports.length
   ·have hg:=List.getElem?_eq_getElem hkl;have hq0:=Nat.div_le_self b (2 ^ k)
    have hdv:(0:Int)<=(b:Int) / 2 ^ k/\(b:Int) / 2 ^ k<=1000000:=by
     rw[zw1];generalize b / 2 ^ k=q at hq0
     omega
    rw[if_pos (by omega),zqs (by omega),wu (show k<=64 by omega),zqs (by omega),zqs (by omega),Int.toNat_natCast,zqs (fI (by omega)),zqs hdv.1,zqs (by omega),zqs (fI (by omega)),List.drop_eq_getElem_cons hkl,kpF]
    by_cases hbt:b.testBit k=true
    ·rw[if_pos (zzs.2 hbt),zrQ hg,obs,zqs (by omega),zqs (fI (by omega)),show(k:Int)+1=((k+1:Nat):Int) by omega,if_pos hbt];refine(ih (k+1) _ (by omega) (by omega) (by rw[List.length_append]; show acc.length+1<=_; omega)).trans ?_;rw[List.append_assoc]; rfl
    ·rw[if_neg fun hc=>hbt (zzs.1 hc),zqs (fI (by omega)),show(k:Int)+1=((k+1:Nat):Int) by omega,if_neg hbt];exact ih (k+1) acc (by omega) (by omega) (by omega)
   ·rw[if_neg (by omega),List.drop_eq_nil_of_le (by omega)]
    show _=some ({ Losses:=p.Losses,Reserve:=p.Reserve,Treaties:=p.Treaties,Reports:=acc++[] }:Pg)
    rw[List.append_nil]
 exact key 1000000 0 [] (Nat.zero_le _) (by omega) (Nat.le_refl _)
theorem zBm{p:Pg}{n:Nat}{b:Nat}(hb:∀j,b.testBit j=decide (j < n)):zyZ (zBj p fun j=>b.testBit j) (zBj p fun j=>b.testBit j).Reports↔zyZ p (p.Reports.take n):=by
 show zyZ p (kpF p.Reports 0 fun j=>b.testBit j)↔_
 rw[zzT p.Reports 0 n fun j=>by rw[hb,Nat.zero_add]]
theorem zBn{p:Pg}(h:VP p)(ha:∀j,j < p.Reports.length->FP p j):zyZ p p.Reports:=by
 by_cases h0:p.Reports.length=0
 ·obtain⟨L,hL⟩:=zyF h;exact⟨L,hL,fun r hr=>by rw[List.eq_nil_of_length_eq_zero h0] at hr; cases hr⟩
 ·have:=ha (p.Reports.length - 1) (by omega);unfold FP at this
  rwa [show p.Reports.length - 1+1=p.Reports.length by omega,List.take_length] at this
theorem zBo{p:Pg}(h:VP p){n:Nat}(hp:∀i,i < n->FP p i):zyZ p (p.Reports.take n):=by
 cases n with
 | zero=>
  obtain⟨L,hL⟩:=zyF h;exact⟨L,hL,fun r hr=>by cases hr⟩
 | succ n=>exact hp n (by omega)
theorem IsB.sub{S S':List Int->Prop}{g:List Int->Int}{r r':Rg}(h:IsB S g r)(h':IsB S' g r')(hS:∀L,S' L->S L):r.Lo<=r'.Lo/\r'.Hi<=r.Hi:=by
 obtain⟨⟨a,a1,a2⟩,⟨b,b1,b2⟩,_⟩:=h';have q1:=h.2.2 a (hS a a1);have q2:=h.2.2 b (hS b b1)
 omega
theorem zBp{p:Pg}(_:zsp p):zur p=some true:=by
 unfold zur
 refine zAS.pick (fun hv=>?_) fun _=>by rw[if_neg (by decide),aw]
 have h:=hv.1;have h5:=h.r5;rw[if_pos rfl,zAT h.thin,obs]
 rcases zz1 h with ⟨j,a1,a2,a3,a4⟩ | ⟨a1,a2⟩
 ·have hp:=zzz (i:=j) (by omega);have hp':=zzz (i:=j+1) (by omega);have hp0:=Nat.two_pow_pos j;obtain⟨w,hw⟩:∃w:Nat,w=2 ^ j:=⟨_,rfl⟩
  have hpw:(1:Int) * 2 ^ j=(w:Int):=by rw[hw,Int.one_mul,Int.natCast_pow]; rfl
  have hpw2:(2:Int) * 2 ^ j=((2 * w:Nat):Int):=by rw[hw]; simp
  have hw2:2 * w=2 ^ (j+1):=by rw[hw,Nat.pow_succ,Nat.mul_comm]
  rw[<- hw] at hp hp0;rw[<- hw2] at hp'
  have b1:∀i,(w - 1).testBit i=decide (i < j):=fun i=>by rw[hw,Nat.testBit_two_pow_sub_one]
  have b2:∀i,(2 * w - 1).testBit i=decide (i < j+1):=fun i=>by rw[hw2,Nat.testBit_two_pow_sub_one]
  have sv1:=zBk h fun i=>(w - 1).testBit i;have sv2:=zBk h fun i=>(2 * w - 1).testBit i;obtain⟨r1,n1,_⟩:=zzj sv1 ((zBm b1).2 (zBo h a3));have n2:=zzk sv2 fun q=>a2 ((zBm b2).1 q);rw[a4,obs]
  show(if (0:Int)=0 then gd (zl7 .i64 ((p.Reports.length:Int) - 1)) ((zss (j:Int) 0 ((p.Reports.length:Int) - 1)).bind _) else _)=_
  rw[if_pos rfl,zqs (fI (by omega)),zxQ.some_of (show(0:Int)<=j/\(j:Int)<=(p.Reports.length:Int) - 1 by omega),obs,if_pos rfl]
  simp only[wu (show j<=64 by omega),Int.toNat_natCast,hpw,hpw2]
  rw[show(w:Int) - 1=((w - 1:Nat):Int) by omega,show((2 * w:Nat):Int) - 1=((2 * w - 1:Nat):Int) by omega];rw[zqs (by omega),zqs (by omega),zqs (by omega),zqs (fI (by omega)),zqs (fI (by omega)),zBl h (by omega),obs,zAT sv1.thin,obs,n1,obs,zqs (by omega),zqs (by omega),zqs (by omega),zqs (fI (by omega)),zqs (fI (by omega)),zBl h (by omega),obs,zAT sv2.thin,obs,n2,obs]
  show(if (0:Int)=0 then (if (11:Int)=11 then _ else _) else _)=_
  rw[if_pos rfl,if_pos rfl,aw]
 ·obtain⟨r1,n1,_⟩:=zzj h (zBn h a1);rw[a2,obs]
  show(if (7:Int)=0 then _ else ((some p).bind fun r3202=>((ztW r3202).bind fun r3215=>(if (7:Int)=7 then (if r3215.2=0 then _ else _) else _))))=_
  rw[if_neg (by decide),obs,n1,obs,if_pos rfl]
  show(if (0:Int)=0 then _ else _)=_
  rw[if_pos rfl,aw]
end
end Go.Proofs.Ytkcmdghjgoaggaa

namespace Go.Proofs.Ytkcmdghjgoaggaa
open _root_.Go.Proofs.Try
open Go.ChangeShapes Go.WideShapes Go.ChangeAt Go.RowKit Go.Abs
set_option maxRecDepth 100000
theorem op3:zr9 prog 3 Int (zl7 .i64):=zsa (by kernel_rfl)
theorem zBq:zr9 prog 68 Rg zsj:=zsh (fs:=[(3,0),(3,1)]) (by kernel_rfl) (by kernel_rfl) (zsg (α:=Int) (ok:=zl7 .i64) (k:=1) op3 (by kernel_rfl) rfl (zsg (α:=Int) (ok:=zl7 .i64) (k:=1) op3 (by kernel_rfl) rfl zsf)) (by kernel_rfl) fun m vs h=>by
 obtain⟨a0,c0,r0,m0,h0,p0,k0,s0,⟨a1,c1,r1,m1,h1,p1,k1,s1,rfl⟩⟩:=h;have p0:c0=[.int .i64 a0]:=p0; subst p0;have p1:c1=[.int .i64 a1]:=p1; subst p1;subst h1 h0;exact⟨⟨a0,a1⟩,rfl,⟨k0,k1⟩⟩
theorem zBr:zr9 prog 55 (List Rg) (fun l=>l.length<=maxLen/\∀a0∈l,zsj a0):=zsc (by kernel_rfl) (by kernel_rfl) zBq
theorem zBs:zr9 prog 62 Ty zsl:=zsh (fs:=[(3,0),(3,1),(3,2),(3,3),(3,4),(3,5),(3,6)]) (by kernel_rfl) (by kernel_rfl) (zsg (α:=Int) (ok:=zl7 .i64) (k:=1) op3 (by kernel_rfl) rfl (zsg (α:=Int) (ok:=zl7 .i64) (k:=1) op3 (by kernel_rfl) rfl (zsg (α:=Int) (ok:=zl7 .i64) (k:=1) op3 (by kernel_rfl) rfl (zsg (α:=Int) (ok:=zl7 .i64) (k:=1) op3 (by kernel_rfl) rfl (zsg (α:=Int) (ok:=zl7 .i64) (k:=1) op3 (by kernel_rfl) rfl (zsg (α:=Int) (ok:=zl7 .i64) (k:=1) op3 (by kernel_rfl) rfl (zsg (α:=Int) (ok:=zl7 .i64) (k:=1) op3 (by kernel_rfl) rfl zsf))))))) (by kernel_rfl) fun m vs h=>by
 obtain⟨a0,c0,r0,m0,h0,p0,k0,s0,⟨a1,c1,r1,m1,h1,p1,k1,s1,⟨a2,c2,r2,m2,h2,p2,k2,s2,⟨a3,c3,r3,m3,h3,p3,k3,s3,⟨a4,c4,r4,m4,h4,p4,k4,s4,⟨a5,c5,r5,m5,h5,p5,k5,s5,⟨a6,c6,r6,m6,h6,p6,k6,s6,rfl⟩⟩⟩⟩⟩⟩⟩:=h;have p0:c0=[.int .i64 a0]:=p0; subst p0;have p1:c1=[.int .i64 a1]:=p1; subst p1;have p2:c2=[.int .i64 a2]:=p2; subst p2;have p3:c3=[.int .i64 a3]:=p3; subst p3;have p4:c4=[.int .i64 a4]:=p4; subst p4;have p5:c5=[.int .i64 a5]:=p5; subst p5;have p6:c6=[.int .i64 a6]:=p6; subst p6;subst h6 h5 h4 h3 h2 h1 h0;exact⟨⟨a0,a1,a2,a3,a4,a5,a6⟩,rfl,⟨k0,k1,k2,k3,k4,k5,k6⟩⟩
theorem zBt:zr9 prog 56 (List Ty) (fun l=>l.length<=maxLen/\∀a0∈l,zsl a0):=zsc (by kernel_rfl) (by kernel_rfl) zBs
theorem zBu:zr9 prog 70 Rpt zsn:=zsh (fs:=[(3,0),(68,1)]) (by kernel_rfl) (by kernel_rfl) (zsg (α:=Int) (ok:=zl7 .i64) (k:=1) op3 (by kernel_rfl) rfl (zsg (α:=Rg) (ok:=zsj) (k:=2) zBq (by kernel_rfl) rfl zsf)) (by kernel_rfl) fun m vs h=>by
 obtain⟨a0,c0,r0,m0,h0,p0,k0,s0,⟨a1,c1,r1,m1,h1,p1,k1,s1,rfl⟩⟩:=h;have p0:c0=[.int .i64 a0]:=p0; subst p0;have p1:c1=[.int .i64 a1.Lo,.int .i64 a1.Hi]:=p1; subst p1;subst h1 h0;exact⟨⟨a0,a1⟩,rfl,⟨k0,k1⟩⟩
theorem zBv:zr9 prog 57 (List Rpt) (fun l=>l.length<=maxLen/\∀a0∈l,zsn a0):=zsc (by kernel_rfl) (by kernel_rfl) zBu
theorem zBw:zr9 prog 59 Pg zsp:=zsh (fs:=[(55,0),(3,1),(56,2),(57,3)]) (by kernel_rfl) (by kernel_rfl) (zsg (α:=List Rg) (ok:=(fun l=>l.length<=maxLen/\∀a0∈l,zsj a0)) (k:=1) zBr (by kernel_rfl) rfl (zsg (α:=Int) (ok:=zl7 .i64) (k:=1) op3 (by kernel_rfl) rfl (zsg (α:=List Ty) (ok:=(fun l=>l.length<=maxLen/\∀a0∈l,zsl a0)) (k:=1) zBt (by kernel_rfl) rfl (zsg (α:=List Rpt) (ok:=(fun l=>l.length<=maxLen/\∀a0∈l,zsn a0)) (k:=1) zBv (by kernel_rfl) rfl zsf)))) (by kernel_rfl) fun m vs h=>by
 obtain⟨a0,c0,r0,m0,h0,p0,k0,s0,⟨a1,c1,r1,m1,h1,p1,k1,s1,⟨a2,c2,r2,m2,h2,p2,k2,s2,⟨a3,c3,r3,m3,h3,p3,k3,s3,rfl⟩⟩⟩⟩:=h;obtain⟨d0,rfl,p0⟩:=p0;have p1:c1=[.int .i64 a1]:=p1; subst p1;obtain⟨d2,rfl,p2⟩:=p2;obtain⟨d3,rfl,p3⟩:=p3;subst h3 h2 h1 h0;exact⟨⟨a0,a1,a2,a3⟩,⟨_,_,_,rfl,p0,p2,p3⟩,⟨k0,k1,k2,k3⟩⟩
theorem zBx:laidOutB prog=true:=by kernel_rfl
theorem zBy:ownKnob prog.godebug=none:=by kernel_rfl
theorem zBz(os:Os)(started:os.Started)(H:Type)(enc:TypeId × Value->H) :
    ReturnsInHanded {} Try.checked os 6 .any (Rows.treatyFirstSpec.pre6 enc Try.prog Try.f6 Rows.treatyFirstRow.domain false) (Rows.treatyFirstSpec.post enc Try.prog Try.f6 false true false false):=by
  refine returnsInHanded_of_change (C:=Try.checked) zBy started (by kernel_rfl) Try.func6
    (ChangeSpec.witness6 (enc:=enc) (C:=Try.checked) false ⟨#[],#[.agg #[.slice none 0 0,.int .i64 0,.slice none 0 0,.slice none 0 0]],[]⟩ 8 (by kernel_rfl) (by kernel_rfl) (by kernel_rfl) (by kernel_rfl)) ?_
  intro W base args ds gs before hval0 hW hcnd _;have hval:∀(j:Nat) t v,Try.f6.params[j]? = some t->args[j]? = some v->Value.okWide Try.prog W .any base t v:=hval0;have hW':=hW;obtain⟨p,q,hA0,hV,rfl,hfz,hnd⟩:=hW;have hA:DataW.TrodAll enc Try.prog W 0 (fun _=>true) true Try.f6.params.toList args.toList ds p:=hA0;rw[Try.params6] at hA hval;obtain⟨v0,d0,rfl,rfl,h0⟩:=trodAll_one hA;obtain⟨rfl,rfl⟩:=trodVars_none hV
  have hlt:∀x∈p,x.block < W.heap.size:=fun x hx=>by simpa using hW'.lt x (by simpa using hx)
  obtain⟨fu0,hf0⟩:=id h0
  clear hA0 hval0
  obtain⟨e0,m0,w0,a_0,le0,sv0,lay0,cr0,zvK,ok0⟩:=zBw H enc W true _ _ _ hf0 _ _ (Lay.nil W);obtain⟨c0_0,c0_2,c0_3,rfl,g0_0,g0_2,g0_3⟩:=zvK
  obtain⟨cs0,hv0,cl0⟩:∃cs,v0=.agg cs/\v0.cells.toList=cs.toList:=by
    have hl:=cr0.length
    cases v0 with
    | agg cs=>exact⟨cs,rfl,rfl⟩
    | _=>exact absurd hl (by simp[Value.cells])
  subst hv0;have hargs:zeq (VR e0) [.agg 4 [c0_0,.int .i64 a_0.Reserve,c0_2,c0_3]] [.agg cs0]:=.cons ⟨cs0,rfl,cr0,rfl⟩ .nil;refine(callsIn_wide.1 (zqC fits htab (zwS (p:=a_0) lay0.pre g0_0 g0_2 g0_3 (zBp ok0) (Q:=fun v _=>v=.c (.bool true)) fun _ _=>rfl) lay0.hr (args':=#[.agg cs0]) hargs 0)).mono fun en W' hp=>?_;obtain⟨v,v',e',m',rfl,hst,hvr,rfl⟩:=hp;have hv':v'=.bool true:=hvr;subst hv';have hbelow:=lay0.below hst
  refine⟨_,rfl,[d0],[],p,[],p,[],by simpa using hW',trodAll_mk1 (shut_bool Try.underlying4 _),
    trodAll_mk1 (Below.trod zBx (by kernel_rfl) (of_decide_eq_true (by kernel_rfl)) h0 hbelow fun x hx=>hlt x (by simp[hx])),rfl,lay0.kept hst _,fun hc=>by cases hc⟩
theorem TreatyFirst_holds:Rows.TreatyFirstSaid:=
 OpenClaim.holds_of_wide 6 Try.f6 rfl rfl rfl rfl rfl rfl rfl ⟨rfl,rfl,rfl,rfl,rfl⟩ rfl rfl rfl rfl rfl (by kernel_rfl) Try.func6 (by kernel_rfl)
  (of_decide_eq_true (by kernel_rfl)) (by unfold Func.isWrapper; first | (rw[if_pos (by decide +kernel)]; kernel_rfl) | (rw[if_neg (by decide +kernel)]; exact⟨rfl,rfl⟩))
  (fun os started H enc _=>zBz os started H enc)
end Go.Proofs.Ytkcmdghjgoaggaa

