/- TreatyNoCheaper, for all that it can be called with, returns true. Condition: none. -/
import Derived.Test.YtkcmdghjgoaggaaGreatTbI
import GoSem.Step
import GoSem.ClaimKeys
import Derived.DeepKeys2
import Derived.RangeFuncLeaves
import Derived.OrdersIn
import Derived.Laws.World
import Derived.Laws.Sem
import Derived.RangeFuncRecord
import Derived.Laws.CopyRow
import Derived.Laws.Append
import Derived.Laws.Rows
import Derived.Laws.Slices
import Derived.Laws.Entries
import Derived.ChangeKeysEq
import Derived.IntWalk
import Derived.DeepKeys
import Derived.DeepKeys3
import Derived.Laws.StructEq
import Derived.MapKept
import Derived.Laws.AppendOwn
import Derived.ChangeArms
import Derived.ChangeOld
import Derived.Carry
import Derived.ChangeShapes
import Derived.KernelRfl
import Derived.ProofKit
import Derived.Test.YtkcmdghjgoaggaaGreatRows

namespace Go.Proofs.YtkcmdghjgoaggaaGreat
open _root_.Go.Proofs.Tryz
open Go.Abs
set_option maxRecDepth 100000
noncomputable section
def zzV(S:Int->Prop)(x:Int):Prop:=S x/\∀y,S y->x<=y
def zzW(S:Int->Prop)(x:Int):Prop:=S x/\∀y,S y->y<=x
theorem zzX{S:Int->Prop}{x y:Int}(h:zzV S x)(h':zzV S y):x=y:=Int.le_antisymm (h.2 _ h'.1) (h'.2 _ h.1)
theorem zzY{S:Int->Prop}{x y:Int}(h:zzW S x)(h':zzW S y):x=y:=Int.le_antisymm (h'.2 _ h.1) (h.2 _ h'.1)
theorem zzZ{number:Oc->Option Int}{g:Oc->Int}{ws:List Oc}{y:List P5}{K:List Int->List P5->Option Rg}(hg:∀o∈ws,number o=some (g o)){acc:List Int}(hl:acc.length+ws.length<=1048576):zua number ws y K (ws.length+1) acc 0=K (acc++ws.map g) y:=by
 have key:=zx9 (n:=ws.length) (fun d (s:List Int) x=>zua number ws y K d s x) (fun k=>acc++(ws.take k).map g) (fin:=K (acc++ws.map g) y) (fun d k hk=>?_) (fun d=>?_) (ws.length+1) 0 (by omega) (by omega)
 ·rw[List.take_zero,List.map_nil,List.append_nil] at key; exact key
 ·have hgt:=List.getElem?_eq_getElem hk;rw[zua,if_pos (by omega),zrS hgt,obs,hg _ (List.getElem_mem hk),obs,zqs (by rw[List.length_append,List.length_map,List.length_take]; omega),zqs (fI (by omega)),List.take_add_one,hgt,List.map_append,<- List.append_assoc]; rfl
 ·rw[zua,if_neg (by omega),List.take_length]
def tot(p:Pg)(A:List (List Int))(ks:List P5):Nat:=(ks.map fun k=>(grp p A k).length).sum
def zz0(p:Pg)(A:List (List Int))(rs:List Rpt)(g:Oc->Int)(ks:List P5)(y:Int):Prop:=∃k∈ks,agK k rs/\∃o∈grp p A k,g o=y
theorem zz1{p:Pg}{A:List (List Int)}{w:Wk}{number:Oc->Option Int}{g:Oc->Int}{lo hi:Int}(hr:zzK w.p.Reports)(hs:zr2 w.p.Reports):∀(d:Nat) (rem:List P5) (acc:List Int),rem.length < d->acc.length+tot p A rem<=1048576->(∀k∈rem,zqK w.played k=some (grp p A k)/\∀o∈grp p A k,number o=some (g o)) ->
  zzV (fun y=>y∈acc\/zz0 p A w.p.Reports g rem y) lo->zzW (fun y=>y∈acc\/zz0 p A w.p.Reports g rem y) hi->pboundsW_L0 w number d acc rem=some { Lo:=lo,Hi:=hi }
 | 0,_,_,h,_,_,_,_=>by omega
 | d+1,rem,acc,h,hacc,hm,h1,h2=>by
  unfold pboundsW_L0;refine zrt (fun l1 a l2 hrr=>?_) fun hrr=>?_
  ·subst hrr
   have hsub:∀x,x∈l1++l2->x∈l1++a::l2:=fun x hx=>by
    rcases List.mem_append.1 hx with h | h
    ·exact List.mem_append_left _ h
    ·exact List.mem_append_right _ (List.mem_cons_of_mem _ h)
   have hspl:∀x,x∈l1++a::l2↔x=a\/x∈l1++l2:=fun x=>by simp only[List.mem_append,List.mem_cons]; constructor <;> (intro h; rcases h with h | h | h <;> simp[h])
   obtain⟨k1,k2⟩:=hm a (by simp)
   have hlen:(l1++l2).length+1=(l1++a::l2).length:=by simp only[List.length_append,List.length_cons]; omega
   have htot:tot p A (l1++a::l2)=(grp p A a).length+tot p A (l1++l2):=by unfold tot; simp only[List.map_append,List.map_cons,List.sum_append,List.sum_cons]; omega
   rw[k1,obs]
   by_cases ha:agK a w.p.Reports
   ·rw[(zzR hr hs).some_of ha,obs,if_pos rfl,zzZ k2 (by omega)]
    have hiff:(fun y=>y∈acc++(grp p A a).map g\/zz0 p A w.p.Reports g (l1++l2) y)=fun y=>y∈acc\/zz0 p A w.p.Reports g (l1++a::l2) y:=funext fun y=>propext ⟨fun hy=>by
     rcases hy with hy | ⟨x,hx,hx2⟩
     ·rcases List.mem_append.1 hy with hy | hy
      ·exact .inl hy
      ·obtain⟨o,ho,hoy⟩:=List.mem_map.1 hy;exact .inr ⟨a,by simp,ha,o,ho,hoy⟩
     ·exact .inr ⟨x,hsub x hx,hx2⟩,fun hy=>by
     rcases hy with hy | ⟨x,hx,hx2,o,ho,hoy⟩
     ·exact .inl (List.mem_append_left _ hy)
     ·rcases (hspl x).1 hx with rfl | hx
      ·exact .inl (List.mem_append_right _ (List.mem_map.2 ⟨o,ho,hoy⟩))
      ·exact .inr ⟨x,hx,hx2,o,ho,hoy⟩⟩
    exact zz1 hr hs d (l1++l2) _ (by omega) (by rw[List.length_append,List.length_map]; omega) (fun x hx=>hm x (hsub x hx)) (by rw[hiff]; exact h1) (by rw[hiff]; exact h2)
   ·rw[(zzR hr hs).some_not ha,obs,if_neg (by decide)]
    have hiff:(fun y=>y∈acc\/zz0 p A w.p.Reports g (l1++l2) y)=fun y=>y∈acc\/zz0 p A w.p.Reports g (l1++a::l2) y:=funext fun y=>propext ⟨fun hy=>hy.imp id fun⟨x,hx,hx2⟩=>⟨x,hsub x hx,hx2⟩,fun hy=>by
     rcases hy with hy | ⟨x,hx,hx2,hx3⟩
     ·exact .inl hy
     ·rcases (hspl x).1 hx with rfl | hx
      ·exact absurd hx2 ha
      ·exact .inr ⟨x,hx,hx2,hx3⟩⟩
    exact zz1 hr hs d (l1++l2) acc (by omega) (by omega) (fun x hx=>hm x (hsub x hx)) (by rw[hiff]; exact h1) (by rw[hiff]; exact h2)
  ·subst hrr;have hno:∀y,(y∈acc\/zz0 p A w.p.Reports g [] y)↔y∈acc:=fun y=>⟨fun h=>h.elim id (fun⟨x,hx,_⟩=>(by cases hx)),.inl⟩
   have hne:acc ≠ []:=fun he=>by have:=(hno _).1 h1.1; rw[he] at this; cases this
   have m1:=zr9 hne;have m2:=zsa hne;have e1:zr5 acc=lo:=zzX ⟨(hno _).2 m1.1,fun y hy=>m1.2 y ((hno y).1 hy)⟩ h1;have e2:zr6 acc=hi:=zzY ⟨(hno _).2 m2.1,fun y hy=>m2.2 y ((hno y).1 hy)⟩ h2;rw[zyS hne (by omega),obs,zyT hne (by omega),obs,e1,e2]
open Classical in
theorem zz2{p:Pg}{A:List (List Int)}{ks:List P5}(h:ks.Nodup):tot p A ks<=A.length:=by
 have key:∀(ks:List P5) (B:List Oc),ks.Nodup->(ks.map fun k=>(B.filter fun o=>decide (o.pays=k)).length).sum<=B.length:=by
  intro ks
  induction ks with
  | nil=>intro B _; exact Nat.zero_le _
  | cons k ks ih=>
   intro B hn;obtain⟨h1,h2⟩:=List.nodup_cons.1 hn
   have e1:∀k'∈ks,(B.filter fun o=>decide (o.pays=k')).length=((B.filter fun o=>!decide (o.pays=k)).filter fun o=>decide (o.pays=k')).length:=fun k' hk'=>by
    rw[List.filter_filter]
    congr 1
    refine List.filter_congr fun o _=>?_
    by_cases ho:o.pays=k'
    ·have:¬ o.pays=k:=fun h3=>h1 (h3 ▸ ho ▸ hk')
     simp[ho]
     intro h3; exact h1 (h3 ▸ hk')
    ·simp[ho]
   have e2:(ks.map fun k'=>(B.filter fun o=>decide (o.pays=k')).length)=ks.map fun k'=>((B.filter fun o=>!decide (o.pays=k)).filter fun o=>decide (o.pays=k')).length:=List.map_congr_left e1
   have e3:(B.filter fun o=>decide (o.pays=k)).length+(B.filter fun o=>!decide (o.pays=k)).length=B.length:=by
    clear e1 e2 ih
    induction B with
    | nil=>rfl
    | cons o B ihB=>
     by_cases ho:o.pays=k
     ·rw[List.filter_cons_of_pos (by simp[ho]),List.filter_cons_of_neg (by simp[ho])]; simp only[List.length_cons]; omega
     ·rw[List.filter_cons_of_neg (by simp[ho]),List.filter_cons_of_pos (by simp[ho])]; simp only[List.length_cons]; omega
   rw[List.map_cons,List.sum_cons,e2];have:=ih (B.filter fun o=>!decide (o.pays=k)) h2
   omega
 have:=key ks (A.map (oc p)) h;rw[List.length_map] at this;exact this
def IsB(S:List Int->Prop)(g:List Int->Int)(r:Rg):Prop:=(∃L,S L/\g L=r.Lo)/\(∃L,S L/\g L=r.Hi)/\∀L,S L->r.Lo<=g L/\g L<=r.Hi
theorem IsB.uniq{S:List Int->Prop}{g:List Int->Int}{r r':Rg}(h:IsB S g r)(h':IsB S g r'):r=r':=by
 obtain⟨⟨a,a1,a2⟩,⟨b,b1,b2⟩,c⟩:=h;obtain⟨⟨a',a1',a2'⟩,⟨b',b1',b2'⟩,c'⟩:=h';have q1:=c a' a1'; have q2:=c b' b1'; have q3:=c' a a1; have q4:=c' b b1
 cases r; cases r'
 simp only at *
 congr 1 <;> omega
theorem IsB.congr{S S':List Int->Prop}{g g':List Int->Int}{r:Rg}(h:IsB S g r)(hS:∀L,S L↔S' L)(hg:∀L,S' L->g L=g' L):IsB S' g' r:=by
 obtain⟨⟨a,a1,a2⟩,⟨b,b1,b2⟩,c⟩:=h;exact⟨⟨a,(hS a).1 a1,by rw[<- hg a ((hS a).1 a1)]; exact a2⟩,⟨b,(hS b).1 b1,by rw[<- hg b ((hS b).1 b1)]; exact b2⟩,fun L hL=>by rw[<- hg L hL]; exact c L ((hS L).2 hL)⟩
def TrS(p:Pg)(rs:List Rpt)(L:List Int):Prop:=inL p.Losses L/\agN (zzb p.Treaties L).pays rs
open Classical in
theorem zz3{p:Pg}(h:VP p){number:Oc->Option Int}{g:Oc->Int}(hg:∀L,inL p.Losses L->number (oc p L)=some (g (oc p L)))(hc:zzT p p.Reports):∃r,zub (zzD p (zzv p)) number=some r/\IsB (TrS p p.Reports) (fun L=>g (oc p L)) r:=by
 have hA:∀L∈zzv p,inL p.Losses L:=fun L hL=>zzw.1 hL;have h5:=h.r5;have hs:zr2 p.Reports:=zr3 h5 (by omega);obtain⟨ks0,h0⟩:=zzO h hA
 have hgrp:∀{k o},o∈grp p (zzv p) k->∃L,inL p.Losses L/\oc p L=o/\(oc p L).pays=k:=fun {k o} ho=>by
  obtain⟨h3,h4⟩:=List.mem_filter.1 ho;obtain⟨L,h5,rfl⟩:=List.mem_map.1 h3;exact⟨L,hA L h5,rfl,of_decide_eq_true h4⟩
 have hin:∀{L},inL p.Losses L->oc p L∈grp p (zzv p) (oc p L).pays:=fun {L} hL=>List.mem_filter.2 ⟨List.mem_map.2 ⟨L,zzw.2 hL,rfl⟩,decide_eq_true rfl⟩
 have hans:∀ks,zrm (plM p (zzv p)) ks->∀y,(y∈([]:List Int)\/zz0 p (zzv p) p.Reports g ks y)↔∃L,TrS p p.Reports L/\g (oc p L)=y:=fun ks hk y=>by
  have h2:=((zzM h hA ks).1 hk).2
  constructor
  ·rintro (h3 | ⟨k,hk1,hk2,o,ho,rfl⟩)
   ·cases h3
   ·obtain⟨L,hL,rfl,hk3⟩:=hgrp ho;subst hk3;exact⟨L,⟨hL,(zzP h.rsOk).1 hk2⟩,rfl⟩
  ·rintro⟨L,⟨hL,ha⟩,rfl⟩
   exact .inr ⟨_,(h2 _).2 ⟨L,zzw.2 hL,rfl⟩,(zzP h.rsOk).2 ha,_,hin hL,rfl⟩
 -- the zj2 and the zj3 one
 obtain⟨vs,hvs⟩:∃vs:List Int,∀y,y∈vs↔∃L,TrS p p.Reports L/\g (oc p L)=y:=by
  classical
  refine⟨((zzv p).filter fun L=>decide (agN (zzb p.Treaties L).pays p.Reports)).map fun L=>g (oc p L),fun y=>?_⟩;rw[List.mem_map]
  constructor
  ·rintro⟨L,hL,rfl⟩
   obtain⟨h3,h4⟩:=List.mem_filter.1 hL;exact⟨L,⟨hA L h3,of_decide_eq_true h4⟩,rfl⟩
  ·rintro⟨L,⟨h3,h4⟩,rfl⟩
   exact⟨L,List.mem_filter.2 ⟨zzw.2 h3,decide_eq_true h4⟩,rfl⟩
 have hne:vs ≠ []:=fun he=>by
  obtain⟨L,hL⟩:=hc;have:=(hvs _).2 ⟨L,hL,rfl⟩
  rw[he] at this; cases this
 have m1:=zr9 hne;have m2:=zsa hne;refine⟨{ Lo:=zr5 vs,Hi:=zr6 vs },?_,(hvs _).1 m1.1,(hvs _).1 m2.1,fun L hL=>⟨m1.2 _ ((hvs _).2 ⟨L,hL,rfl⟩),m2.2 _ ((hvs _).2 ⟨L,hL,rfl⟩)⟩⟩;unfold zub;refine zrp h0 fun ks hk=>?_;have htl:=zz2 (p:=p) (A:=zzv p) hk.1;have hlen:=zzx h;refine zz1 (p:=p) (A:=zzv p) (w:=zzD p (zzv p)) (g:=g) h.rsOk hs _ ks [] (by omega) (by simp only[List.length_nil]; omega) (fun k hkk=>⟨?_,fun o ho=>?_⟩) ⟨(hans ks hk _).2 ((hvs _).1 m1.1),fun y hy=>m1.2 y ((hvs _).2 ((hans ks hk _).1 hy))⟩ ⟨(hans ks hk _).2 ((hvs _).1 m2.1),fun y hy=>m2.2 y ((hvs _).2 ((hans ks hk _).1 hy))⟩
 ·have h3:=((hk.2 k).1 hkk).2;have h4:(if grp p (zzv p) k=[] then none else some (grp p (zzv p) k)) ≠ none:=h3
  show(if grp p (zzv p) k=[] then none else some (grp p (zzv p) k))=_
  by_cases h5:grp p (zzv p) k=[]
  ·rw[if_pos h5] at h4; exact absurd rfl h4
  ·rw[if_neg h5]
 ·obtain⟨L,hL,rfl,_⟩:=hgrp ho;exact hg L hL
theorem zz4{p:Pg}(h:VP p):zr2 p.Losses/\zr2 p.Treaties/\zr2 p.Reports:=⟨zr3 h.l4 (by omega),zr3 h.t5 (by omega),zr3 h.r5 (by omega)⟩
theorem zz5{p:Pg}(h:VP p):ztF p=some 0:=by
 obtain⟨h1,h2,h3⟩:=zz4 h;rw[zyI h1 h2 h3,zyp.2 h]
theorem zz6{p:Pg}{L:List Int}(h:VP p):Ev (ztH p L) (inL p.Losses L):=by
 have h4:=h.l4;unfold ztH
 by_cases hl:(L.length:Int)=p.Losses.length
 ·rw[if_pos hl];refine(Ev.loop (n:=p.Losses.length) (F:=fun d x=>ztG p L d x) (ok:=fun j=>∀r x,p.Losses[j]? = some r->L[j]? = some x->r.Lo<=x/\x<=r.Hi) (fin:=some true) (P:=True) (fun d k hk=>?_) (fun d=>?_) (by omega) (fun _=>Ev.tt trivial)).imp ?_
  ·have hg:=List.getElem?_eq_getElem hk;have hg2:=List.getElem?_eq_getElem (show k < L.length by omega)
   show(_->ztG p L (d+1) (k:Int)=_)/\(_->ztG p L (d+1) (k:Int)=_)
   rw[ztG,if_pos (by omega),zrS hg,obs,zrS hg2,obs];refine(zyq.imp ⟨fun h r x h1 h2=>?_,fun h=>h _ _ hg hg2⟩).step (by rw[if_pos rfl,zqs (fI (by omega))]) (by rw[if_neg (by decide)])
   rw[hg] at h1; rw[hg2] at h2; cases h1; cases h2; exact h
  ·show ztG p L (d+1) _=_
   rw[ztG,if_neg (Int.lt_irrefl _)]
  ·exact⟨fun h=>zzq (by omega) fun i r x h1 h2=>h.1 i (List.getElem?_eq_some_iff.1 h1).1 r x h1 h2,fun h=>⟨fun j _ r x h1 h2=>zzp h h1 h2,trivial⟩⟩
 ·rw[if_neg hl]; exact Ev.ff fun h=>hl (by rw[zzo h])
def lN(n:Nat)(f:Nat->Int):List Int:=(l5 f).take n
theorem zz7{n:Nat}(h:n<=5)(f:Nat->Int):(lN n f).length=n:=by unfold lN; rw[List.length_take]; show min n 5=n; omega
theorem zz8{n:Nat}(h:n<=5)(f:Nat->Int){k:Nat}(hk:k < n):(lN n f)[k]? = some (f k):=by unfold lN; rw[List.getElem?_take,if_pos hk,zya (by omega)]
theorem zz9{p:Pg}(h:VP p){L:List Int}(hL:inL p.Losses L):zt6 p L=some (lN p.Treaties.length (zzb p.Treaties L).pays,(zzb p.Treaties L).soc,0):=by
 have h4:=h.l4;have h5:=h.t5;obtain⟨M',q1,_⟩:=zzn h (zzr hL h.ls) (by rw[zzo hL]; omega) (zzk.nil p);unfold zt6;rw[zz5 h,obs,if_pos rfl,(zz6 h).some_of hL,obs,if_pos rfl,zyu,obs]
 show((ztX (wkP p _) L).bind _)=_
 rw[q1,obs,zqs (by omega),Int.toNat_natCast,show Int.toNat (0:Int)=0 from rfl,List.drop_zero]
 show((zt3 (lN p.Treaties.length (zzb p.Treaties L).pays)).bind _)=_
 unfold zt3;rw[zqs (by rw[zz7 h5]; simp only[List.length_nil]; omega)]
 rfl
theorem zAa{p:Pg}(h:VP p)(hc:zzT p p.Reports):zuc p=some (zzD p (zzv p),0):=by
 unfold zuc;rw[zz5 h,obs,if_pos rfl,zzJ h,obs]
 show((zt9 (zzD p (zzv p)) p.Reports).bind _)=_
 rw[(zzU h h.rsOk (zz4 h).2.2).some_of hc]; rfl
structure zAb (p:Pg) (bs:List Bd):Prop where
 len:bs.length=p.Treaties.length
 at':∀(k:Nat) (b:Bd),bs[k]? = some b->IsB (TrS p p.Reports) (fun L=>(zzb p.Treaties L).pays k) b.Pays/\IsB (TrS p p.Reports) (fun L=>(zzb p.Treaties L).keeps k) b.Keeps
theorem zAb.uniq{p:Pg}{bs bs':List Bd}(h:zAb p bs)(h':zAb p bs'):bs=bs':=by
 refine List.ext_getElem? fun k=>?_
 cases hb:bs[k]? with
 | none=>
  rw[List.getElem?_eq_none_iff] at hb;rw[List.getElem?_eq_none (by rw[h'.len,<- h.len]; exact hb)]
 | some b=>
  have hk:=(List.getElem?_eq_some_iff.1 hb).1;have hb':=List.getElem?_eq_getElem (show k < bs'.length by rw[h'.len,<- h.len]; exact hk);rw[hb'];obtain⟨q1,q2⟩:=h.at' k b hb;obtain⟨q3,q4⟩:=h'.at' k _ hb';have e1:=q1.uniq q3;have e2:=q2.uniq q4;generalize bs'[k]'(by rw[h'.len,<- h.len]; exact hk)=b' at e1 e2
  cases b; cases b'
  simp only at e1 e2
  rw[e1,e2]
theorem zAc{p:Pg}(h:VP p)(hc:zzT p p.Reports):∃bs,zug p=some (bs,0)/\zAb p bs:=by
 have h5:=h.t5
 have hx:∀k:Nat,k < p.Treaties.length->∃b:Bd,(∀L,inL p.Losses L->True)/\zub (zzD p (zzv p)) (fun a=>zud a (k:Int))=some b.Pays/\zub (zzD p (zzv p)) (fun a=>zue a (k:Int))=some b.Keeps/\IsB (TrS p p.Reports) (fun L=>(zzb p.Treaties L).pays k) b.Pays/\IsB (TrS p p.Reports) (fun L=>(zzb p.Treaties L).keeps k) b.Keeps:=fun k hk=>by
  obtain⟨r1,a1,a2⟩:=zz3 h (number:=fun a=>zud a (k:Int)) (g:=fun o=>(idx ([o.pays.p0,o.pays.p1,o.pays.p2,o.pays.p3,o.pays.p4]:List Int) (k:Int)).getD 0) (fun L _=>by
   show((idx (l5 (zzb p.Treaties L).pays) (k:Int)).bind fun v=>some v)=some ((idx (l5 (zzb p.Treaties L).pays) (k:Int)).getD 0)
   rw[zyb (by omega)]; rfl) hc
  obtain⟨r2,b1,b2⟩:=zz3 h (number:=fun a=>zue a (k:Int)) (g:=fun o=>(idx ([o.keeps.p0,o.keeps.p1,o.keeps.p2,o.keeps.p3,o.keeps.p4]:List Int) (k:Int)).getD 0) (fun L _=>by
   show((idx (l5 (zzb p.Treaties L).keeps) (k:Int)).bind fun v=>some v)=some ((idx (l5 (zzb p.Treaties L).keeps) (k:Int)).getD 0)
   rw[zyb (by omega)]; rfl) hc
  refine⟨⟨r1,r2⟩,fun _ _=>trivial,a1,b1,a2.congr (fun _=>Iff.rfl) fun L _=>?_,b2.congr (fun _=>Iff.rfl) fun L _=>?_⟩
  ·show(idx (l5 (zzb p.Treaties L).pays) (k:Int)).getD 0=_
   rw[zyb (by omega)]; rfl
  ·show(idx (l5 (zzb p.Treaties L).keeps) (k:Int)).getD 0=_
   rw[zyb (by omega)]; rfl
 unfold zug;rw[zAa h hc,obs,if_pos rfl]
 have key:∀(d k:Nat) (acc:List Bd),k<=p.Treaties.length->p.Treaties.length - k < d->acc.length=k->(∀(j:Nat) (b:Bd),acc[j]? = some b->IsB (TrS p p.Reports) (fun L=>(zzb p.Treaties L).pays j) b.Pays/\IsB (TrS p p.Reports) (fun L=>(zzb p.Treaties L).keeps j) b.Keeps) ->
   ∃bs,zuf p (zzD p (zzv p),0) d acc (k:Int)=some (bs,0)/\zAb p bs:=by
  intro d
  induction d with
  | zero=>intro k acc _ h _ _; omega
  | succ d ih=>
   intro k acc hk hd hl hacc;rw[zuf]
   by_cases hkl:k < p.Treaties.length
   ·obtain⟨b,_,b1,b2,b3,b4⟩:=hx k hkl;rw[if_pos (by omega)]
    show ∃bs,((zub (zzD p (zzv p)) fun a=>zud a (k:Int)).bind _)=_/\_
    rw[b1,obs]
    show ∃bs,((zub (zzD p (zzv p)) fun a=>zue a (k:Int)).bind _)=_/\_
    rw[b2,obs,zqs (by omega),zqs (fI (by omega)),show(k:Int)+1=((k+1:Nat):Int) by omega];refine ih (k+1) _ (by omega) (by omega) (by rw[List.length_append,hl]; rfl) fun j b' hb'=>?_
    by_cases hj:j < acc.length
    ·rw[List.getElem?_append_left hj] at hb'; exact hacc j b' hb'
    ·rw[List.getElem?_append_right (by omega)] at hb'
     have hj2:j=k:=by
      have:=(List.getElem?_eq_some_iff.1 hb').1
      simp only[List.length_cons,List.length_nil] at this
      omega
     subst hj2;rw[show j - acc.length=0 by omega] at hb'
     cases hb'
     exact⟨b3,b4⟩
   ·rw[if_neg (by omega)];exact⟨acc,rfl,by omega,hacc⟩
 exact key (p.Treaties.length+1) 0 [] (Nat.zero_le _) (by omega) rfl fun j b hb=>by cases hb
theorem zAd{p:Pg}(h:VP p)(hc:zzT p p.Reports):∃r,zuh p=some (r,0)/\IsB (TrS p p.Reports) (fun L=>(zzb p.Treaties L).soc) r:=by
 obtain⟨r,a1,a2⟩:=zz3 h (number:=fun a=>ztQ a) (g:=fun o=>o.society) (fun L _=>rfl) hc;refine⟨r,?_,a2⟩;unfold zuh;rw[zAa h hc,obs,if_pos rfl]
 show((zub (zzD p (zzv p)) fun a=>ztQ a).bind _)=_
 rw[a1]; rfl
end
end Go.Proofs.YtkcmdghjgoaggaaGreat

namespace Go.Proofs.YtkcmdghjgoaggaaGreat
open _root_.Go.Proofs.Tryz
open Go.Abs
set_option maxRecDepth 100000
noncomputable section
theorem zAe{n:Nat}(h:n<=5)(f:Nat->Int){k:Nat}(hk:k < n):idx (lN n f) (k:Int)=some (f k):=zrS (zz8 h f hk)
theorem zAf{n:Nat}(h:n<=5)(f:Nat->Int){i:Int}(h0:0<=i)(hk:i < n):idx (lN n f) i=some (f i.toNat):=by
 have:=zAe h f (k:=i.toNat) (by omega)
 rwa [show((i.toNat:Nat):Int)=i by omega] at this
theorem zAg{n:Nat}(h:n<=5){l:List Int}{f:Nat->Int}(hl:l.length=n)(ha:∀k,k < n->l[k]? = some (f k)):l=lN n f:=by
 refine List.ext_getElem? fun k=>?_
 by_cases hk:k < n
 ·rw[ha k hk,zz8 h f hk]
 ·rw[List.getElem?_eq_none (by omega),List.getElem?_eq_none (by rw[zz7 h]; omega)]
theorem zAh{n:Nat}(h:n<=5)(f:Nat->Int){k:Nat}(hk:k < n)(a:Int):(lN n f).set k a=lN n (upF f k a):=by
 refine zAg h (by rw[List.length_set,zz7 h]) fun j hj=>?_
 by_cases hjk:j=k
 ·subst hjk; rw[List.getElem?_set_self (by rw[zz7 h]; exact hj),zye]
 ·rw[List.getElem?_set_ne (Ne.symm hjk),zz8 h f hj,zyf _ _ hjk]
theorem zAi{n:Nat}(h:n<=5):List.replicate n (0:Int)=lN n fun _=>0:=zAg h (List.length_replicate ..) fun k hk=>by rw[List.getElem?_replicate,if_pos hk]
theorem zAj{n:Nat}(h:n<=5){f g:Nat->Int}(hfg:∀k,k < n->f k=g k):lN n f=lN n g:=zAg h (zz7 h f) fun k hk=>by rw[zz8 h f hk,hfg k hk]
def a1(ts:List Ty)(th:Nat->Bool)(P:Nat->Int)(x:Int):Nat->(Nat->Int) × Int
 | 0=>(fun _=>0,x)
 | k+1=>match ts[k]? with
  | some t=>if t.Of < 0/\th k=true then (upF (a1 ts th P x k).1 k (zyV t (a1 ts th P x k).2 (P k)),(a1 ts th P x k).2 - zyV t (a1 ts th P x k).2 (P k)) else a1 ts th P x k
  | none=>a1 ts th P x k
theorem zAk{ts:List Ty}{th:Nat->Bool}{P:Nat->Int}{x:Int}{k:Nat}{t:Ty}(h:ts[k]? = some t):a1 ts th P x (k+1)=if t.Of < 0/\th k=true then (upF (a1 ts th P x k).1 k (zyV t (a1 ts th P x k).2 (P k)),(a1 ts th P x k).2 - zyV t (a1 ts th P x k).2 (P k)) else a1 ts th P x k:=by
 show(match ts[k]? with | some t=>_ | none=>_)=_
 rw[h]
def a2(ts:List Ty)(P:Nat->Int)(now:Nat->Int):Nat->(Nat->Int) × (Nat->Int)
 | 0=>(now,now)
 | k+1=>match ts[k]? with
  | some t=>if 0<=t.Of then (upF (a2 ts P now k).1 k (zyV t ((a2 ts P now k).2 t.Of.toNat) (P k)),upF (upF (a2 ts P now k).2 k (zyV t ((a2 ts P now k).2 t.Of.toNat) (P k))) t.Of.toNat ((a2 ts P now k).2 t.Of.toNat - zyV t ((a2 ts P now k).2 t.Of.toNat) (P k))) else a2 ts P now k
  | none=>a2 ts P now k
theorem zAl{ts:List Ty}{P now:Nat->Int}{k:Nat}{t:Ty}(h:ts[k]? = some t):a2 ts P now (k+1)=if 0<=t.Of then (upF (a2 ts P now k).1 k (zyV t ((a2 ts P now k).2 t.Of.toNat) (P k)),upF (upF (a2 ts P now k).2 k (zyV t ((a2 ts P now k).2 t.Of.toNat) (P k))) t.Of.toNat ((a2 ts P now k).2 t.Of.toNat - zyV t ((a2 ts P now k).2 t.Of.toNat) (P k))) else a2 ts P now k:=by
 show(match ts[k]? with | some t=>_ | none=>_)=_
 rw[h]
structure I1 (ts:List Ty) (P:Nat->Int) (x:Int) (s:(Nat->Int) × Int):Prop where
 left:0<=s.2/\s.2<=x
 now:∀j,0<=s.1 j/\s.1 j<=x
 cap:zy4 ts fun j=>P j+s.1 j
theorem zAm{ts:List Ty}{th:Nat->Bool}(hts:zy5 ts){P:Nat->Int}(hP:zy4 ts P){x:Int}(hx:0<=x/\x<=100000):∀k,k<=ts.length->I1 ts P x (a1 ts th P x k)
 | 0,_=>⟨⟨hx.1,Int.le_refl _⟩,fun _=>⟨Int.le_refl _,hx.1⟩,fun j t ht h1=>by have:=hP j t ht h1; show P j+0<=_; omega⟩
 | k+1,hk=>by
  have ih:=zAm (th:=th) hts hP hx k (by omega);have hg:=List.getElem?_eq_getElem (show k < ts.length by omega);have hkd:=hts.k _ (List.getElem_mem (show k < ts.length by omega));rw[zAk hg];generalize a1 ts th P x k=s at ih ⊢;generalize ts[k]'(by omega)=t at hg hkd
  by_cases hc:t.Of < 0/\th k=true
  ·rw[if_pos hc];have hl:=ih.left;have hb:=zyY hkd (a:=s.2) (b:=P k) (by omega) (hP k t hg);refine⟨by show 0<=s.2 - _/\s.2 - _<=x; omega,fun j=>?_,fun j t' ht' h'=>?_⟩
   ·show 0<=upF s.1 k _ j/\upF s.1 k _ j<=x
    by_cases hjk:j=k
    ·subst hjk; rw[zye]; omega
    ·rw[zyf _ _ hjk]; exact ih.now j
   ·show P j+upF s.1 k _ j<=_
    by_cases hjk:j=k
    ·subst hjk; rw[hg] at ht'; cases ht'; rw[zye]; exact hb.2.2 h'
    ·rw[zyf _ _ hjk]; exact ih.cap j t' ht' h'
  ·rw[if_neg hc]; exact ih
structure I2 (ts:List Ty) (P:Nat->Int) (x:Int) (s:(Nat->Int) × (Nat->Int)):Prop where
 now:∀j,0<=s.1 j/\s.1 j<=x
 rest:∀j,0<=s.2 j/\s.2 j<=x
 cap:zy4 ts fun j=>P j+s.1 j
theorem zAn{ts:List Ty}(hts:zy5 ts){P now:Nat->Int}(hP:zy4 ts P){x:Int}(hx:0<=x/\x<=100000)(hn:∀j,0<=now j/\now j<=x)(hc:zy4 ts fun j=>P j+now j):∀k,k<=ts.length->I2 ts P x (a2 ts P now k)
 | 0,_=>⟨hn,hn,hc⟩
 | k+1,hk=>by
  have ih:=zAn hts hP hx hn hc k (by omega);have hg:=List.getElem?_eq_getElem (show k < ts.length by omega);have hkd:=hts.k _ (List.getElem_mem (show k < ts.length by omega));rw[zAl hg];generalize a2 ts P now k=s at ih ⊢;generalize ts[k]'(by omega)=t at hg hkd
  by_cases ho:0<=t.Of
  ·rw[if_pos ho];have hr:=ih.rest t.Of.toNat;have hb:=zyY hkd (a:=s.2 t.Of.toNat) (b:=P k) (by omega) (hP k t hg);refine⟨fun j=>?_,fun j=>?_,fun j t' ht' h'=>?_⟩
   ·show 0<=upF s.1 k _ j/\upF s.1 k _ j<=x
    by_cases hjk:j=k
    ·subst hjk; rw[zye]; omega
    ·rw[zyf _ _ hjk]; exact ih.now j
   ·show 0<=upF (upF s.2 k _) _ _ j/\upF (upF s.2 k _) _ _ j<=x
    by_cases hjo:j=t.Of.toNat
    ·subst hjo; rw[zye]; omega
    ·rw[zyf _ _ hjo]
     by_cases hjk:j=k
     ·subst hjk; rw[zye]; omega
     ·rw[zyf _ _ hjk]; exact ih.rest j
   ·show P j+upF s.1 k _ j<=_
    by_cases hjk:j=k
    ·subst hjk; rw[hg] at ht'; cases ht'; rw[zye]; exact hb.2.2 h'
    ·rw[zyf _ _ hjk]; exact ih.cap j t' ht' h'
  ·rw[if_neg ho]; exact ih
def zAo(ts:List Ty)(th:Nat->Bool)(s:(Nat->Int) × Int)(x:Int):(Nat->Int) × Int:=
 (fun j=>s.1 j+(a2 ts s.1 (a1 ts th s.1 x ts.length).1 ts.length).1 j,s.2+(a1 ts th s.1 x ts.length).2)
def zAp(ts:List Ty)(th:Nat->Bool)(L:List Int):(Nat->Int) × Int:=L.foldl (zAo ts th) (fun _=>0,0)
structure RI (ts:List Ty) (B:Int) (s:(Nat->Int) × Int):Prop where
 net:0<=s.2/\s.2<=B
 pays:∀j,0<=s.1 j/\s.1 j<=B
 cap:zy4 ts s.1
theorem RI.step{ts:List Ty}{th:Nat->Bool}(hts:zy5 ts){B:Int}{s:(Nat->Int) × Int}(h:RI ts B s){x:Int}(hx:0<=x/\x<=100000):RI ts (B+x) (zAo ts th s x):=by
 have h1:=zAm (th:=th) hts h.cap hx ts.length (Nat.le_refl _);have h2:=zAn hts h.cap hx h1.now h1.cap ts.length (Nat.le_refl _);refine⟨?_,fun j=>?_,h2.cap⟩
 ·have:=h.net; have:=h1.left; show 0<=s.2+_/\s.2+_<=_; omega
 ·have:=h.pays j; have:=h2.now j; show 0<=s.1 j+_/\s.1 j+_<=_; omega
theorem wu{n:Nat}(h:n<=64):zmc .u64 (n:Int)=(n:Int):=wz (show(0:Int)<=n/\(n:Int) < 18446744073709551616 by omega)
theorem zAq(B k:Nat):(B:Int) / 2 ^ k % 2=((B / 2 ^ k % 2:Nat):Int):=by rw[zxU]; rfl
theorem zAr{B k:Nat}:(B:Int) / 2 ^ k % 2=1↔B.testBit k=true:=by
 rw[zAq,Nat.testBit_eq_decide_div_mod_eq,decide_eq_true_eq]; omega
section
variable {p:Pg} (h:VP p)
theorem zAs(h:VP p){x6 x7 x16:Int}{now:Nat->Int}{K:Int->Int->List Int->Option (List Int × Int)}{P:Nat->Int}(hP:∀j,0<=P j/\P j<=100000)(hn:∀j,0<=now j/\now j<=100000)(hx:0<=x7/\x7<=100000):zsH p x6 x7 x16 (lN p.Treaties.length now) K 1000000 0 (lN p.Treaties.length P)=K (x6+x16) (x7+1) (lN p.Treaties.length fun j=>P j+now j):=by
 have h5:=h.t5
 let st:Nat->List Int:=fun k=>lN p.Treaties.length fun j=>if j < k then P j+now j else P j
 have key:=zx9 (n:=p.Treaties.length) (fun d (s:List Int) y=>zsH p x6 x7 x16 (lN p.Treaties.length now) K d y s) st (fin:=K (x6+x16) (x7+1) (lN p.Treaties.length fun j=>P j+now j)) (fun d k hk=>?_) (fun d=>?_) 1000000 0 (by omega) (by omega)
 ·exact key
 ·have h1:=hP k;have h2:=hn k
  show zsH p x6 x7 x16 (lN p.Treaties.length now) K (d+1) (k:Int) (lN p.Treaties.length fun j=>if j < k then P j+now j else P j)=_
  rw[zsH,if_pos (by omega),zAe h5 _ hk,obs,zAe h5 _ hk,obs,if_neg (by omega),zqs (fI (by omega)),obs,zqs (fI (by omega)),Int.toNat_natCast,zAh h5 _ hk]
  have e:(lN p.Treaties.length (upF (fun j=>if j < k then P j+now j else P j) k (P k+now k)))=st (k+1):=zAj h5 fun j hj=>by
   by_cases hjk:j=k
   ·subst hjk; rw[zye,if_pos (by omega)]
   ·rw[zyf _ _ hjk]
    by_cases h3:j < k
    ·rw[if_pos h3,if_pos (by omega)]
    ·rw[if_neg h3,if_neg (by omega)]
  rw[e]
 ·show zsH p x6 x7 x16 (lN p.Treaties.length now) K (d+1) (p.Treaties.length:Int) (lN p.Treaties.length fun j=>if j < p.Treaties.length then P j+now j else P j)=_
  rw[zsH,if_neg (by omega),zqs (fI (by omega))]
  have e:(lN p.Treaties.length fun j=>if j < p.Treaties.length then P j+now j else P j)=lN p.Treaties.length fun j=>P j+now j:=zAj h5 fun j hj=>by rw[if_pos hj]
  rw[e]
theorem zAt(h:VP p){x6 x7 x16:Int}{K:Int->Int->List Int->Option (List Int × Int)}{P now:Nat->Int}(hP:∀j,0<=P j/\P j<=100000)(hcap:zy4 p.Treaties P){x:Int}(hx:0<=x/\x<=1000)(hn:∀j,0<=now j/\now j<=x)(hcn:zy4 p.Treaties fun j=>P j+now j)(hx7:0<=x7/\x7<=100000) :
  zsI p x6 x7 x16 K 1000000 0 (lN p.Treaties.length P) (lN p.Treaties.length now) (lN p.Treaties.length now)=K (x6+x16) (x7+1) (lN p.Treaties.length fun j=>P j+(a2 p.Treaties P now p.Treaties.length).1 j):=by
 have h5:=h.t5;have key:=zx9 (n:=p.Treaties.length) (fun d (s:(Nat->Int) × (Nat->Int)) y=>zsI p x6 x7 x16 K d y (lN p.Treaties.length P) (lN p.Treaties.length s.1) (lN p.Treaties.length s.2)) (fun k=>a2 p.Treaties P now k) (fin:=K (x6+x16) (x7+1) (lN p.Treaties.length fun j=>P j+(a2 p.Treaties P now p.Treaties.length).1 j)) (fun d k hk=>?_) (fun d=>?_) 1000000 0 (by omega) (by omega)
 ·exact key
 ·have hg:=List.getElem?_eq_getElem hk;have hkd:=h.tsOk.k _ (List.getElem_mem hk);have hof:=h.of' k _ hg;have ih:=zAn h.tsOk hcap (x:=x) (by omega) hn hcn k (by omega);rw[zAl hg];generalize a2 p.Treaties P now k=s at ih ⊢;rw[zsI,if_pos (by omega),zrS hg,obs];generalize p.Treaties[k]=t at hg hkd hof
  by_cases ho:0<=t.Of
  ·have hr:=ih.rest t.Of.toNat;have hb:=zyY hkd (a:=s.2 t.Of.toNat) (b:=P k) (by omega) (hcap k t hg);have hPk:=hP k;have htk:=zy1 hkd (a:=s.2 t.Of.toNat) (b:=P k) (by omega) (by omega)
   have hne:t.Of.toNat ≠ k:=by omega
   have hoo:((t.Of.toNat:Nat):Int)=t.Of:=by omega
   rw[if_pos ho,if_pos ho,zAf h5 _ ho (by omega),obs,zAe h5 _ hk,obs,htk,obs,zAe h5 _ hk,obs,Int.toNat_natCast,zAh h5 _ hk,zAe h5 _ hk,obs,zye,zAe h5 _ hk,obs,zAh h5 _ hk,zAf h5 _ ho (by omega),obs,zyf _ _ hne,obs,zqs (fI (by omega)),obs,zqs (fI (by omega)),zAh h5 _ (show t.Of.toNat < p.Treaties.length by omega)]
  ·rw[if_neg ho,if_neg ho,zqs (fI (by omega))]
 ·have i2:=zAn h.tsOk hcap (x:=x) (by omega) hn hcn p.Treaties.length (Nat.le_refl _);rw[zsI,if_neg (by omega)];exact zAs h hP (fun j=>by have:=i2.now j; omega) hx7
theorem zAu(h:VP p){b:Nat}(hb:b < 1000000){x6 x7:Int}{K:Int->Int->List Int->Option (List Int × Int)}{P:Nat->Int}(hP:∀j,0<=P j/\P j<=100000)(hcap:zy4 p.Treaties P){x:Int}(hx:0<=x/\x<=1000)(hx6:0<=x6/\x6<=100000)(hx7:0<=x7/\x7<=100000) :
  zsJ p (b:Int) x6 x7 K 1000000 x 0 (lN p.Treaties.length P) (List.replicate (Int.toNat (p.Treaties.length:Int)) 0)=K (x6+(a1 p.Treaties (fun k=>b.testBit k) P x p.Treaties.length).2) (x7+1) (lN p.Treaties.length fun j=>P j+(a2 p.Treaties P (a1 p.Treaties (fun k=>b.testBit k) P x p.Treaties.length).1 p.Treaties.length).1 j):=by
 have h5:=h.t5;rw[Int.toNat_natCast,zAi h5];have key:=zx9 (n:=p.Treaties.length) (fun d (s:(Nat->Int) × Int) y=>zsJ p (b:Int) x6 x7 K d s.2 y (lN p.Treaties.length P) (lN p.Treaties.length s.1)) (fun k=>a1 p.Treaties (fun k=>b.testBit k) P x k) (fin:=K (x6+(a1 p.Treaties (fun k=>b.testBit k) P x p.Treaties.length).2) (x7+1) (lN p.Treaties.length fun j=>P j+(a2 p.Treaties P (a1 p.Treaties (fun k=>b.testBit k) P x p.Treaties.length).1 p.Treaties.length).1 j)) (fun d k hk=>?_) (fun d=>?_) 1000000 0 (by omega) (by omega)
 ·exact key
 ·have hg:=List.getElem?_eq_getElem hk;have hkd:=h.tsOk.k _ (List.getElem_mem hk);have hof:=h.of' k _ hg;have ih:=zAm (th:=fun k=>b.testBit k) h.tsOk hcap (x:=x) (by omega) k (by omega);rw[zAk hg];generalize a1 p.Treaties (fun k=>b.testBit k) P x k=s at ih ⊢;rw[zsJ,if_pos (by omega),zrS hg,obs];generalize p.Treaties[k]=t at hg hkd hof
  by_cases ho:t.Of < 0
  ·have hdv:(0:Int)<=(b:Int) / 2 ^ k/\(b:Int) / 2 ^ k<=1000000:=by
    have hq0:=Nat.div_le_self b (2 ^ k);rw[zxU];generalize b / 2 ^ k=q at hq0
    omega
   rw[if_pos ho,zqs (by omega),wu (show k<=64 by omega),zqs (by omega),zqs (by omega),Int.toNat_natCast,zqs (fI (by omega)),zqs hdv.1,zqs (by omega),zqs (fI (by omega))]
   by_cases hbt:b.testBit k=true
   ·have hl:=ih.left;have hbd:=zyY hkd (a:=s.2) (b:=P k) (by omega) (hcap k t hg);have hPk:=hP k;have htk:=zy1 hkd (a:=s.2) (b:=P k) (by omega) (by omega);rw[if_pos (zAr.2 hbt),if_pos ⟨ho,hbt⟩,zAe h5 _ hk,obs,htk,obs,zAe h5 _ hk,obs,zAh h5 _ hk,zAe h5 _ hk,obs,zye,zqs (fI (by omega)),zqs (fI (by omega))]
   ·rw[if_neg fun hc=>hbt (zAr.1 hc),if_neg fun hc=>hbt hc.2,zqs (fI (by omega))]
  ·rw[if_neg ho,if_neg fun hc=>ho hc.1,zqs (fI (by omega))]
 ·have i1:=zAm (th:=fun k=>b.testBit k) h.tsOk hcap (x:=x) (by omega) p.Treaties.length (Nat.le_refl _);have hl:=i1.left;rw[zsJ,if_neg (by omega),zqs (fI (by omega)),zqs (by rw[zz7 h5]; simp only[List.length_nil]; omega),List.nil_append];exact zAt h hP hcap hx i1.now i1.cap hx7
theorem zAv(h:VP p){b:Nat}(hb:b < 1000000){L:List Int}(hL:∀x∈L,0<=x/\x<=1000)(hl:L.length<=9):∀(d k:Nat) (s:(Nat->Int) × Int),k<=L.length->L.length - k < d->RI p.Treaties (1000 * k) s ->
  zsK p L (b:Int) d s.2 (k:Int) (lN p.Treaties.length s.1)=some (lN p.Treaties.length ((L.drop k).foldl (zAo p.Treaties fun k=>b.testBit k) s).1,((L.drop k).foldl (zAo p.Treaties fun k=>b.testBit k) s).2)
 | 0,_,_,_,hd,_=>by omega
 | d+1,k,s,hk,hd,hs=>by
  have h5:=h.t5;rw[zsK]
  by_cases hkl:k < L.length
  ·have hg:=List.getElem?_eq_getElem hkl;have hx:=hL _ (List.getElem_mem hkl);have hn:=hs.net;rw[if_pos (by omega),zrS hg,obs,zqs (by omega),zAu h hb (fun j=>by have:=hs.pays j; omega) hs.cap hx (by omega) (by omega),show(k:Int)+1=((k+1:Nat):Int) by omega,List.drop_eq_getElem_cons hkl];have hs':=hs.step (th:=fun k=>b.testBit k) h.tsOk (x:=L[k]) (by omega);exact zAv h hb hL hl d (k+1) (zAo p.Treaties (fun k=>b.testBit k) s L[k]) (by omega) (by omega) ⟨by have:=hs'.net; omega,fun j=>by have:=hs'.pays j; omega,hs'.cap⟩
  ·rw[if_neg (by omega),List.drop_eq_nil_of_le (by omega)]
   rfl
theorem zAw(h:VP p){b:Nat}(hb:b < 1000000){L:List Int}(hL:∀x∈L,0<=x/\x<=1000)(hl:L.length<=9):zsL p L (b:Int)=some (lN p.Treaties.length (zAp p.Treaties (fun k=>b.testBit k) L).1,(zAp p.Treaties (fun k=>b.testBit k) L).2):=by
 have h5:=h.t5;unfold zsL;rw[zqs (by omega),Int.toNat_natCast,zAi h5];exact zAv h hb hL hl (L.length+1) 0 (fun _=>0,0) (Nat.zero_le _) (by omega) ⟨⟨Int.le_refl _,Int.le_refl _⟩,fun _=>⟨Int.le_refl _,Int.le_refl _⟩,zzc h.tsOk⟩
end
def ofB(ts:List Ty)(j:Nat):Bool:=match ts[j]? with | some t=>decide (t.Of < 0) | none=>false
theorem zAx{ts:List Ty}{j:Nat}{t:Ty}(h:ts[j]? = some t):ofB ts j=decide (t.Of < 0):=by unfold ofB; rw[h]
end
end Go.Proofs.YtkcmdghjgoaggaaGreat

namespace Go.Proofs.YtkcmdghjgoaggaaGreat
open _root_.Go.Proofs.Tryz
open Go.Abs
set_option maxRecDepth 100000
noncomputable section
theorem zAy{b:Nat}(hb:b < 65536):∀(d p:Nat) (acc:List Int),p<=16->16 - p < d->acc=zxO b p->zsU (b:Int) d acc (p:Int)=some (zxP b)
 | 0,_,_,_,h,_=>by omega
 | d+1,p,acc,hp,h,ha=>by
  have hle:b / 2 ^ p<=b:=Nat.div_le_self _ _;rw[zsU,wu (show p<=64 by omega)]
  have hq:(b:Int) / 2 ^ ((p:Int)).toNat=((b / 2 ^ p:Nat):Int):=by rw[Int.toNat_natCast]; simp
  rw[hq]
  clear hq
  have hl:=zxT (b:=b) p;have hbit:b.testBit p=decide (b / 2 ^ p % 2=1):=Nat.testBit_eq_decide_div_mod_eq ..
  have h16:p=16->b / 2 ^ p=0:=fun he=>by subst he; exact Nat.div_eq_of_lt (by omega)
  have h0':b / 2 ^ p=0->zxO b p=zxP b:=fun h9=>by
   have:=zxS (b:=b) (p:=p) (fun q hq=>zjo h9 hq) (16 - p);rw[show p+(16 - p)=16 by omega] at this;exact this.symm
  generalize b / 2 ^ p=q at hle hbit h16 h0' ⊢;rw[zqs (by omega),zqs (by omega),zqs (by omega),zqs (fI (by omega))]
  by_cases h0:0 < q
  ·have hp16:p < 16:=by
    rcases Nat.lt_or_ge p 16 with h1 | h1
    ·exact h1
    ·have:=h16 (by omega); omega
   rw[if_pos (by omega),zqs (by omega),zqs (by omega),zqs (by omega),zqs (fI (by omega)),zqs (by omega),zqs (by omega),zqs (fI (by omega))]
   by_cases h1:q % 2=1
   ·rw[if_pos (by omega),zqs (show acc.length < 1048576 by rw[ha]; omega),zqs (fI (by omega)),show(p:Int)+1=((p+1:Nat):Int) by omega];refine zAy hb d (p+1) _ (by omega) (by omega) ?_
    show _=zxO b p++(if b.testBit p then [(p:Int)] else [])
    rw[ha,hbit,h1]; rfl
   ·rw[if_neg (by omega),zqs (fI (by omega)),show(p:Int)+1=((p+1:Nat):Int) by omega];refine zAy hb d (p+1) _ (by omega) (by omega) ?_
    show _=zxO b p++(if b.testBit p then [(p:Int)] else [])
    rw[ha,hbit,decide_eq_false h1]; simp
  ·rw[if_neg (by omega),ha];exact congrArg some (h0' (by omega))
theorem zAz{b:Nat}(hb:b < 65536):zsV (b:Int)=some (zxP b):=zAy hb 1000000 0 [] (Nat.zero_le _) (by omega) rfl
def zAA(n:Nat):List Int:=(List.range n).map fun j=>((j:Nat):Int)
theorem zAB(n:Nat):Inc n 0 (zAA n):=by
 refine⟨?_,fun v hv=>?_⟩
 ·unfold zAA;rw[List.pairwise_map]
  exact List.pairwise_lt_range.imp fun h=>by omega
 ·obtain⟨j,hj,rfl⟩:=List.mem_map.1 hv;have:=List.mem_range.1 hj
  omega
theorem zAC{n j:Nat}(h:j < n):inD (zAA n) j=true:=decide_eq_true (List.mem_map.2 ⟨j,List.mem_range.2 h,rfl⟩)
theorem zAD{b:Nat}:(zxP b).length<=16:=zxT 16
structure zAE (n:Nat) (P:(Nat->Bool)->Prop) (M:List Int):Prop where
 inc:Inc n 0 M
 ok:P (inD M)
 min:∀D,Inc n 0 D->P (inD D)->D=M\/shB M D=true
theorem zAE.uniq{n:Nat}{P:(Nat->Bool)->Prop}{M M':List Int}(h:zAE n P M)(h':zAE n P M'):M=M':=by
 rcases h.min M' h'.inc h'.ok with h1 | h1
 ·exact h1.symm
 ·rcases h'.min M h.inc h.ok with h2 | h2
  ·exact h2
  ·rw[zxX h1] at h2; cases h2
def macc(S:Nat->Bool):Nat->Nat
 | 0=>0
 | i+1=>if S i=true then macc S i ||| 2 ^ i else macc S i
theorem zAF(S:Nat->Bool)(j:Nat):∀i,(macc S i).testBit j=(decide (j < i) && S j)
 | 0=>by simp[macc]
 | i+1=>by
  have ih:=zAF S j i;unfold macc
  by_cases hs:S i=true
  ·rw[if_pos hs,Nat.testBit_or,ih,Nat.testBit_two_pow]
   by_cases h:i=j
   ·subst h; simp[hs]
   ·have:decide (j < i+1)=decide (j < i):=decide_eq_decide.2 (by omega);rw[this]; simp[h]
  ·rw[if_neg hs,ih]
   by_cases h:i=j
   ·subst h
    have:S i=false:=by simpa using hs
    rw[this]; simp
   ·have:decide (j < i+1)=decide (j < i):=decide_eq_decide.2 (by omega);rw[this]
theorem zAG{n:Nat}:2 ^ n - 1 < 2 ^ n:=by have:=Nat.two_pow_pos n; omega
theorem zAH{i:Nat}(h:i<=6):2 ^ i<=64:=Nat.pow_le_pow_right (n:=2) (by omega) h
def zAI:List Rg->Int->List Int
 | [],_=>[]
 | r::rs,n=>(r.Lo+n % (r.Hi - r.Lo+1))::zAI rs (n / (r.Hi - r.Lo+1))
theorem zAJ:∀{rs:List Rg} {n:Int},(∀r∈rs,r.Lo<=r.Hi)->0<=n->inL rs (zAI rs n)
 | [],_,_,_=>trivial
 | r::rs,n,h,h0=>by
  have hr:=h r (List.mem_cons_self ..);have h1:=Int.emod_nonneg n (show r.Hi - r.Lo+1 ≠ 0 by omega);have h2:=Int.emod_lt_of_pos n (show 0 < r.Hi - r.Lo+1 by omega);exact⟨⟨by omega,by omega⟩,zAJ (fun r hr=>h r (List.mem_cons_of_mem _ hr)) (Int.ediv_nonneg h0 (by omega))⟩
theorem zAK:∀{rs:List Rg} {L:List Int},inL rs L->∃n,0<=n/\n < zyn rs/\zAI rs n=L
 | [],[],_=>⟨0,Int.le_refl _,by show(0:Int) < 1; omega,rfl⟩
 | [],_::_,h=>h.elim
 | _::_,[],h=>h.elim
 | r::rs,x::xs,h=>by
  obtain⟨n,h0,h1,h2⟩:=zAK h.2;have hx:=h.1;obtain⟨c,hc⟩:∃c,c=r.Hi - r.Lo+1:=⟨_,rfl⟩;refine⟨(x - r.Lo)+c * n,?_,?_,?_⟩
  ·have:=Int.mul_nonneg (show 0<=c by omega) h0; omega
  ·show _ < (r.Hi - r.Lo+1) * zyn rs
   rw[<- hc];have:=Int.mul_le_mul_of_nonneg_left (show n+1<=zyn rs by omega) (show 0<=c by omega);rw[Int.mul_add,Int.mul_one] at this
   omega
  ·show(r.Lo+_ % (r.Hi - r.Lo+1))::zAI rs (_ / (r.Hi - r.Lo+1))=_
   rw[<- hc,Int.add_mul_emod_self_left,Int.emod_eq_of_lt (by omega) (by omega),Int.add_mul_ediv_left _ _ (by omega),Int.ediv_eq_zero_of_lt (by omega) (by omega),Int.zero_add,h2]
   congr 1; omega
theorem zAL{p:Pg}(h:VP p):∀(d k:Nat) (acc:List Int) (n:Int),k<=p.Losses.length->p.Losses.length - k < d->acc.length=k->0<=n/\n<=100000->zsD p d acc n (k:Int)=some (acc++zAI (p.Losses.drop k) n)
 | 0,_,_,_,_,hd,_,_=>by omega
 | d+1,k,acc,n,hk,hd,ha,hn=>by
  have h4:=h.l4;rw[zsD]
  by_cases hkl:k < p.Losses.length
  ·have hg:=List.getElem?_eq_getElem hkl;have hr:=h.ls _ (List.getElem_mem hkl);rw[List.drop_eq_getElem_cons hkl];generalize p.Losses[k]=r at hg hr;have hr':=hr;unfold RgV at hr';have h1:=Int.emod_nonneg n (show r.Hi - r.Lo+1 ≠ 0 by omega);have h2:=Int.emod_lt_of_pos n (show 0 < r.Hi - r.Lo+1 by omega);have h3:=Int.ediv_nonneg hn.1 (show 0<=r.Hi - r.Lo+1 by omega);have h5:=Int.ediv_le_self (r.Hi - r.Lo+1) hn.1
   simp only[zrS hg,obs,zyM hr]
   rw[if_pos (by omega),zqs hn.1,zqs (by omega),zqs (fI (by omega)),zqs (fI (by omega)),zqs (by omega),zqs hn.1,zqs (by omega),zqs (fI (by omega)),zqs (fI (by omega)),show(k:Int)+1=((k+1:Nat):Int) by omega];refine(zAL h d (k+1) (acc++[r.Lo+n % (r.Hi - r.Lo+1)]) (n / (r.Hi - r.Lo+1)) (by omega) (by omega) (by rw[List.length_append,ha]; rfl) (by omega)).trans ?_;rw[List.append_assoc]; rfl
  ·rw[if_neg (by omega),List.drop_eq_nil_of_le (by omega)]
   show _=some (acc++[])
   rw[List.append_nil]
theorem zAM{p:Pg}(h:VP p){n:Int}(hn:0<=n/\n<=100000):zsE p n=some (zAI p.Losses n):=zAL h 1000000 0 [] n (Nat.zero_le _) (by have:=h.l4; omega) rfl hn
theorem VP.nthIn{p:Pg}(h:VP p){n:Int}(hn:0<=n):inL p.Losses (zAI p.Losses n):=zAJ (fun r hr=>(h.ls r hr).2.1) hn
theorem zAN{n:Nat}(h:n<=6):(1:Int) * 2 ^ (Int.toNat (zmc .u64 (n:Int)))=((2 ^ n:Nat):Int):=by rw[wu (by omega),Int.toNat_natCast,Int.one_mul,Int.natCast_pow]; rfl
theorem zAO{n:Nat}(h:n<=6):(gd ((0:Int)<=(1:Int)) (gd ((0:Int)<=(zmc .u64 (n:Int))) (gd ((zmc .u64 (n:Int))<=(64:Int)) (gd (zl7 .i64 ((1:Int) * ((2:Int) ^ (Int.toNat (zmc .u64 (n:Int)))))) (gd (zl7 .i64 (((1:Int) * ((2:Int) ^ (Int.toNat (zmc .u64 (n:Int))))) - (1:Int))) (some (((1:Int) * ((2:Int) ^ (Int.toNat (zmc .u64 (n:Int))))) - (1:Int))))))))=some ((2 ^ n - 1:Nat):Int):=by
 have hp:=zAH h;have hp0:0 < 2 ^ n:=Nat.two_pow_pos _;rw[zAN h,zqs (by omega),wu (by omega),zqs (by omega),zqs (by omega),zqs (fI (by omega)),zqs (fI (by omega))]
 congr 1
 omega
theorem zAP{p:Pg}(h:VP p):zsG p=some ((2 ^ p.Treaties.length - 1:Nat):Int):=zAO (by have:=h.t5; omega)
theorem l9{p:Pg}(h:VP p){L:List Int}(hL:inL p.Losses L):L.length<=9:=by rw[zzo hL]; have:=h.l4; omega
open Classical in
def agR(P:Nat->Int)(r:Rpt):Prop:=r.Paid.Lo<=P r.Treaty.toNat/\P r.Treaty.toNat<=r.Paid.Hi
open Classical in
def agf(p:Pg)(L:List Int)(j:Nat):Bool:=decide (∀r,p.Reports[j]? = some r->agR (zzb p.Treaties L).pays r)
open Classical in
theorem zAQ{p:Pg}{L:List Int}{j:Nat}{r:Rpt}(h:p.Reports[j]? = some r):agf p L j=true↔agR (zzb p.Treaties L).pays r:=by
 unfold agf;rw[decide_eq_true_eq];exact⟨fun q=>q r h,fun q r' h'=>by rw[h] at h'; cases h'; exact q⟩
def zAR(p:Pg)(L:List Int):Nat:=macc (agf p L) p.Reports.length
def PL(p:Pg)(S:Nat->Bool):Prop:=∃L,inL p.Losses L/\∀j,j < p.Reports.length->S j=false->agf p L j=true
theorem PL.congr{p:Pg}{S S':Nat->Bool}(h:∀j,j < p.Reports.length->S j=S' j):PL p S↔PL p S':=
 exists_congr fun _=>and_congr_right fun _=>forall_congr' fun j=>forall_congr' fun hj=>by rw[h j hj]
theorem zAS{p:Pg}(h:VP p){L:List Int}(hL:inL p.Losses L):(∀j,0<=(zzb p.Treaties L).pays j/\(zzb p.Treaties L).pays j<=4000)/\(∀j,0<=(zzb p.Treaties L).keeps j/\(zzb p.Treaties L).keeps j<=4000)/\0<=(zzb p.Treaties L).soc/\(zzb p.Treaties L).soc<=4000:=by
 obtain⟨h1,h2,h3⟩:=zzF h hL;refine⟨fun j=>?_,fun j=>?_,?_⟩
 ·have:=h1.pays j; omega
 ·have:=h1.keeps j; omega
 ·have:=h1.soc; omega
theorem VP.prodPos{p:Pg}(h:VP p):1<=zyn p.Losses:=(zyC h.ls h.l4).1
end
end Go.Proofs.YtkcmdghjgoaggaaGreat

namespace Go.Proofs.YtkcmdghjgoaggaaGreat
open _root_.Go.Proofs.Tryz
open Go.Abs
set_option maxRecDepth 100000
noncomputable section
theorem zAT{p:Pg}{L:List Int}:zAR p L=2 ^ p.Reports.length - 1↔agN (zzb p.Treaties L).pays p.Reports:=by
 constructor
 ·intro h r hr;obtain⟨j,hj⟩:=List.mem_iff_getElem?.1 hr;have hjl:=(List.getElem?_eq_some_iff.1 hj).1
  have e:(zAR p L).testBit j=true:=by rw[h,Nat.testBit_two_pow_sub_one,decide_eq_true hjl]
  unfold zAR at e;rw[zAF] at e;exact(zAQ hj).1 (Bool.and_eq_true_iff.1 e).2
 ·intro h
  apply Nat.eq_of_testBit_eq
  intro j;unfold zAR;rw[zAF,Nat.testBit_two_pow_sub_one]
  by_cases hj:j < p.Reports.length
  ·have hg:=List.getElem?_eq_getElem hj;rw[decide_eq_true hj,(zAQ hg).2 (h _ (List.getElem_mem hj))]; rfl
  ·rw[decide_eq_false hj]; rfl
def trL(p:Pg):List (List Int):=((List.range (zyn p.Losses).toNat).filter fun n:Nat=>decide (zAR p (zAI p.Losses (n:Int))=2 ^ p.Reports.length - 1)).map fun n:Nat=>zAI p.Losses (n:Int)
theorem zAU{p:Pg}(h:VP p){L:List Int}:L∈trL p↔TrS p p.Reports L:=by
 unfold trL TrS;rw[List.mem_map]
 constructor
 ·rintro⟨n,hn,rfl⟩
  obtain⟨_,h2⟩:=List.mem_filter.1 hn;exact⟨h.nthIn (by omega),zAT.1 (of_decide_eq_true h2)⟩
 ·rintro⟨hL,hA⟩
  obtain⟨n,n0,n1,rfl⟩:=zAK hL;refine⟨n.toNat,List.mem_filter.2 ⟨List.mem_range.2 (by omega),decide_eq_true ?_⟩,?_⟩
  ·rw[show((n.toNat:Nat):Int)=n by omega]; exact zAT.2 hA
  ·show zAI p.Losses ((n.toNat:Nat):Int)=_
   rw[show((n.toNat:Nat):Int)=n by omega]
theorem zAV{p:Pg}:zzT p p.Reports↔PL p fun j=>!(2 ^ p.Reports.length - 1).testBit j:=by
 constructor
 ·rintro⟨L,h1,h2⟩
  exact⟨L,h1,fun j hj _=>(zAQ (List.getElem?_eq_getElem hj)).2 (h2 _ (List.getElem_mem hj))⟩
 ·rintro⟨L,h1,h2⟩
  refine⟨L,h1,fun r hr=>?_⟩;obtain⟨j,hj⟩:=List.mem_iff_getElem?.1 hr;have hjl:=(List.getElem?_eq_some_iff.1 hj).1;exact(zAQ hj).1 (h2 j hjl (by show(!(2 ^ p.Reports.length - 1).testBit j)=false; rw[Nat.testBit_two_pow_sub_one,decide_eq_true hjl]; rfl))
def wd(r:Rg)(x:Int):Rg:={ Lo:=min r.Lo x,Hi:=max r.Hi x }
def emp:Rg:={ Lo:=1099511627776,Hi:=-1099511627776 }
def wdL(g:List Int->Int)(l:List (List Int)):Rg:=l.foldl (fun r L=>wd r (g L)) emp
theorem zAW{g:List Int->Int}{l:List (List Int)}{k:Nat}{L:List Int}(h:l[k]? = some L):wdL g (l.take (k+1))=wd (wdL g (l.take k)) (g L):=by
 unfold wdL;rw[List.take_add_one,h,List.foldl_append]; rfl
theorem zAX{g:List Int->Int}:∀(l:List (List Int)) (r:Rg),((l.foldl (fun r L=>wd r (g L)) r).Lo=r.Lo\/∃L∈l,g L=(l.foldl (fun r L=>wd r (g L)) r).Lo)/\((l.foldl (fun r L=>wd r (g L)) r).Hi=r.Hi\/∃L∈l,g L=(l.foldl (fun r L=>wd r (g L)) r).Hi)/\(l.foldl (fun r L=>wd r (g L)) r).Lo<=r.Lo/\r.Hi<=(l.foldl (fun r L=>wd r (g L)) r).Hi/\∀L∈l,(l.foldl (fun r L=>wd r (g L)) r).Lo<=g L/\g L<=(l.foldl (fun r L=>wd r (g L)) r).Hi
 | [],r=>⟨.inl rfl,.inl rfl,Int.le_refl _,Int.le_refl _,fun L hL=>by cases hL⟩
 | L::l,r=>by
  obtain⟨a,b,c,d,e⟩:=zAX (g:=g) l (wd r (g L));have h1:(wd r (g L)).Lo=min r.Lo (g L):=rfl;have h2:(wd r (g L)).Hi=max r.Hi (g L):=rfl;rw[h1] at a c;rw[h2] at b d;rw[List.foldl_cons];generalize l.foldl (fun r L=>wd r (g L)) (wd r (g L))=R at a b c d e ⊢;refine⟨?_,?_,by clear a b; omega,by clear a b; omega,fun L' hL'=>?_⟩
  ·clear b
   rcases a with a | ⟨L',q1,q2⟩
   ·rcases Int.le_total r.Lo (g L) with h | h
    ·exact .inl (by omega)
    ·exact .inr ⟨L,List.mem_cons_self ..,by omega⟩
   ·exact .inr ⟨L',List.mem_cons_of_mem _ q1,q2⟩
  ·clear a
   rcases b with b | ⟨L',q1,q2⟩
   ·rcases Int.le_total (g L) r.Hi with h | h
    ·exact .inl (by omega)
    ·exact .inr ⟨L,List.mem_cons_self ..,by omega⟩
   ·exact .inr ⟨L',List.mem_cons_of_mem _ q1,q2⟩
  ·clear a b
   rcases List.mem_cons.1 hL' with h | h
   ·subst h; omega
   ·exact e L' h
theorem zAY{g:List Int->Int}{l:List (List Int)}(hne:l ≠ [])(hb:∀L∈l,-1000000<=g L/\g L<=1000000):IsB (·∈l) g (wdL g l):=by
 obtain⟨a,b,c,d,e⟩:=zAX (g:=g) l emp;have h1:emp.Lo=1099511627776:=rfl;have h2:emp.Hi = -1099511627776:=rfl;rw[h1] at a c;rw[h2] at b d;obtain⟨L0,hL0⟩:=List.exists_mem_of_ne_nil l hne;have q1:=hb L0 hL0;have q2:=e L0 hL0;unfold wdL;generalize l.foldl (fun r L=>wd r (g L)) emp=R at a b c d e q2 ⊢;refine⟨?_,?_,e⟩
 ·clear b
  rcases a with a | a
  ·omega
  ·exact a
 ·clear a
  rcases b with b | b
  ·omega
  ·exact b
def bsN(n:Nat)(f:Nat->Bd):List Bd:=(List.range n).map f
theorem zAZ{n:Nat}{f:Nat->Bd}:(bsN n f).length=n:=by unfold bsN; rw[List.length_map,List.length_range]
theorem zA0{n:Nat}{f:Nat->Bd}{k:Nat}(h:k < n):(bsN n f)[k]? = some (f k):=by unfold bsN; rw[List.getElem?_map,List.getElem?_range h]; rfl
def bdF(p:Pg)(l:List (List Int))(k:Nat):Bd:={ Pays:=wdL (fun L=>(zzb p.Treaties L).pays k) l,Keeps:=wdL (fun L=>(zzb p.Treaties L).keeps k) l }
theorem zA1{p:Pg}(h:VP p)(hc:zzT p p.Reports):zAb p (bsN p.Treaties.length (bdF p (trL p)))/\IsB (TrS p p.Reports) (fun L=>(zzb p.Treaties L).soc) (wdL (fun L=>(zzb p.Treaties L).soc) (trL p)):=by
 have hne:trL p ≠ []:=fun e=>by
  obtain⟨L,hL⟩:=hc;have:=(zAU h).2 hL
  rw[e] at this; cases this
 have hb:∀L∈trL p,inL p.Losses L:=fun L hL=>((zAU h).1 hL).1;refine⟨⟨zAZ,fun k b hk=>?_⟩,?_⟩
 ·have hkl:=(List.getElem?_eq_some_iff.1 hk).1;rw[zAZ] at hkl;rw[zA0 hkl] at hk
  cases hk
  refine⟨(zAY hne fun L hL=>?_).congr (fun L=>zAU h) fun _ _=>rfl,(zAY hne fun L hL=>?_).congr (fun L=>zAU h) fun _ _=>rfl⟩
  ·have:=(zAS h (hb L hL)).1 k; omega
  ·have:=(zAS h (hb L hL)).2.1 k; omega
 ·refine(zAY hne fun L hL=>?_).congr (fun L=>zAU h) fun _ _=>rfl;have:=(zAS h (hb L hL)).2.2; omega
def kpF:List Rpt->Nat->(Nat->Bool)->List Rpt
 | [],_,_=>[]
 | v::V,i,S=>if S i=true then v::kpF V (i+1) S else kpF V (i+1) S
theorem zA2{S:Nat->Bool}{v:Rpt}:∀(V:List Rpt) (i:Nat),v∈kpF V i S↔∃j,V[j]? = some v/\S (i+j)=true
 | [],i=>by simp[kpF]
 | a::V,i=>by
  have ih:=zA2 (S:=S) (v:=v) V (i+1)
  have e:(∃j,(a::V)[j]? = some v/\S (i+j)=true)↔(a=v/\S i=true)\/∃j,V[j]? = some v/\S (i+1+j)=true:=by
   constructor
   ·rintro⟨j,h1,h2⟩
    cases j with
    | zero=>exact .inl ⟨by simpa using h1,h2⟩
    | succ j=>exact .inr ⟨j,by simpa using h1,by rw[show i+1+j=i+(j+1) by omega]; exact h2⟩
   ·rintro (⟨h1,h2⟩ | ⟨j,h1,h2⟩)
    ·exact⟨0,by simpa using h1,h2⟩
    ·exact⟨j+1,by simpa using h1,by rw[show i+(j+1)=i+1+j by omega]; exact h2⟩
  rw[e];unfold kpF
  by_cases hs:S i=true
  ·rw[if_pos hs,List.mem_cons,ih];exact or_congr ⟨fun h=>⟨h.symm,hs⟩,fun h=>h.1.symm⟩ Iff.rfl
  ·rw[if_neg hs,ih];exact⟨.inr,fun h=>h.elim (fun h=>absurd h.2 hs) id⟩
theorem zA3{S:Nat->Bool}:∀(V:List Rpt) (i:Nat),(kpF V i S).length<=V.length
 | [],_=>Nat.le_refl _
 | a::V,i=>by
  have:=zA3 (S:=S) V (i+1);unfold kpF
  split <;> simp only[List.length_cons] <;> omega
theorem zA4{l:List Int}{v:Int}(hl:zr2 l):∀d (k:Nat),k<=l.length->l.length - k < d->∃r,ztY l v d (k:Int)=some r/\(0<=r↔v∈l.drop k)
 | 0,k,_,h=>by omega
 | d+1,k,hk,h=>by
  unfold zr2 at hl;unfold ztY
  by_cases hkn:k=l.length
  ·subst hkn; rw[if_neg (Int.lt_irrefl _)]; exact⟨_,rfl,by simp⟩
  ·have hlt:k < l.length:=by omega
   rw[if_pos (by omega),zrS (List.getElem?_eq_getElem hlt),obs];have hd:=List.drop_eq_getElem_cons hlt
   by_cases hv:v=l[k]
   ·rw[if_pos hv]; exact⟨_,rfl,⟨fun _=>by rw[hd,<- hv]; exact List.mem_cons_self ..,fun _=>by omega⟩⟩
   ·rw[if_neg hv,zqs (fI (by omega)),show(k:Int)+1=((k+1:Nat):Int) by omega];obtain⟨r,h1,h2⟩:=zA4 hl d (k+1) (by omega) (by omega);exact⟨r,h1,h2.trans ⟨fun h=>by rw[hd]; exact List.mem_cons_of_mem _ h,fun h=>by rw[hd] at h; exact(List.mem_cons.1 h).resolve_left hv⟩⟩
theorem zA5{l:List Int}{v:Int}(hl:zr2 l):zt0 l v=some (decide (v∈l)):=by
 unfold zt0 ztZ;obtain⟨r,h1,h2⟩:=zA4 (v:=v) hl (l.length+1) 0 (Nat.zero_le _) (by omega);have h1:ztY l v (l.length+1) 0=some r:=h1;rw[h1,obs];exact congrArg some (decide_eq_decide.2 (h2.trans (by rw[List.drop_zero])))
theorem zA6{p:Int->Option Bool}{f:Nat->Bool}{n:Nat}(hn:n<=1000000)(hp:∀m,m < n->p (m:Int)=some (f m))(hm:∀m k,m<=k->k < n->f m=true->f k=true):∀d (i j:Nat),i<=j->j<=n->j - i < d->(∀m,m < i->f m=false)->(∀m,j<=m->m < n->f m=true) ->
  ∃k:Nat,zur p d (i:Int) (j:Int)=some (k:Int)/\k<=n/\(∀m,m < k->f m=false)/\(∀m,k<=m->m < n->f m=true)
 | 0,_,_,_,_,h,_,_=>by omega
 | d+1,i,j,hij,hj,h,hlo,hhi=>by
  rw[zur]
  by_cases hc:i < j
  ·obtain⟨md,hmd⟩:∃md:Nat,md=(i+j) / 2:=⟨_,rfl⟩
   have hf:zl7 .u64 ((i:Int)+j):=show _/\_ by constructor <;> omega
   have e:zmc .i64 (zmc .u64 ((i:Int)+j) / 2)=(md:Int):=by
    rw[wz hf,wz (fI (by omega))]; omega
   rw[if_pos (by omega),zqs (fI (by omega)),zqs (by rw[wz hf]; omega),zqs (by omega),zqs (by omega),zqs (by rw[wz hf]; exact show _/\_ by constructor <;> omega),e,hp md (by omega),obs]
   cases hq:f md with
   | true=>
    rw[if_pos rfl];exact zA6 hn hp hm d i md (by omega) (by omega) (by omega) hlo fun m h1 h2=>hm md m h1 h2 hq
   | false=>
    rw[if_neg (by decide),zqs (fI (by omega)),show(md:Int)+1=((md+1:Nat):Int) by omega]
    exact zA6 hn hp hm d (md+1) j (by omega) hj (by omega) (fun m h1=>by
     cases hq2:f m with
     | false=>rfl
     | true=>have:=hm m md (by omega) (by omega) hq2; rw[hq] at this; cases this) hhi
  ·rw[if_neg (by omega)];exact⟨i,rfl,by omega,hlo,fun m h1 h2=>hhi m (by omega) h2⟩
theorem zA7{p:Pg}{L:List Int}{S:Nat->Bool}:agN (zzb p.Treaties L).pays (kpF p.Reports 0 S)↔∀j,j < p.Reports.length->S j=true->agf p L j=true:=by
 constructor
 ·intro h j hj hs;have hg:=List.getElem?_eq_getElem hj;exact(zAQ hg).2 (h _ ((zA2 _ _).2 ⟨j,hg,by rw[Nat.zero_add]; exact hs⟩))
 ·intro h r hr;obtain⟨j,h1,h2⟩:=(zA2 _ _).1 hr;rw[Nat.zero_add] at h2;exact(zAQ h1).1 (h j (List.getElem?_eq_some_iff.1 h1).1 h2)
theorem zA8{p:Pg}{S:Nat->Bool}:zzT p (kpF p.Reports 0 S)↔PL p fun j=>!S j:=by
 unfold zzT PL;refine exists_congr fun L=>and_congr_right fun _=>zA7.trans ?_;refine forall_congr' fun j=>forall_congr' fun _=>?_
 show(S j=true->_)↔((!S j)=false->_)
 cases S j <;> simp
theorem zA9{l:List Rpt}{D:List Int}(hl:l.length<=1000)(hD:zr2 D):zt2 l D=some (kpF l 0 fun j=>!inD D j):=by
 have key:∀(d k:Nat) (acc:List Rpt),k<=l.length->l.length - k < d->acc.length<=k->zt1 l D d acc (k:Int)=some (acc++kpF (l.drop k) k fun j=>!inD D j):=by
  intro d
  induction d with
  | zero=>intro k _ _ h _; omega
  | succ d ih=>
   intro k acc hk hd ha;rw[zt1]
   by_cases hkl:k < l.length
   ·rw[if_pos (by omega),zrS (List.getElem?_eq_getElem hkl),obs,zA5 hD,obs,List.drop_eq_getElem_cons hkl,kpF]
    by_cases hin:(k:Int)∈D
    ·have e:inD D k=true:=decide_eq_true hin;rw[decide_eq_true hin,if_pos rfl,zqs (fI (by omega)),show(k:Int)+1=((k+1:Nat):Int) by omega,if_neg (by rw[e]; simp)];exact ih (k+1) acc (by omega) (by omega) (by omega)
    ·have e:inD D k=false:=decide_eq_false hin;rw[decide_eq_false hin,if_neg (by decide),zqs (by omega),zqs (fI (by omega)),show(k:Int)+1=((k+1:Nat):Int) by omega,if_pos (by rw[e]; rfl)];refine(ih (k+1) _ (by omega) (by omega) (by rw[List.length_append]; show acc.length+1<=_; omega)).trans ?_;rw[List.append_assoc]; rfl
   ·rw[if_neg (by omega),List.drop_eq_nil_of_le (by omega)]
    show _=some (acc++[])
    rw[List.append_nil]
 exact key (l.length+1) 0 [] (Nat.zero_le _) (by omega) (Nat.le_refl _)
theorem zzK.kp{p:Pg}(h:VP p)(S:Nat->Bool):zzK (kpF p.Reports 0 S):=fun r hr=>by
 obtain⟨j,h1,_⟩:=(zA2 _ _).1 hr;exact h.rsOk r (List.mem_of_getElem? h1)
theorem zBa{p:Pg}(h:VP p){D:List Int}(hD:zr2 D):Ev (zuu D (zzD p (zzv p)) p) (PL p (inD D)):=by
 have hr5:=h.r5;unfold zuu;rw[zA9 (by omega) hD,obs]
 show Ev ((zt9 (zzD p (zzv p)) (kpF p.Reports 0 fun j=>!inD D j)).bind _) _
 have hlen:=zA3 (S:=fun j=>!inD D j) p.Reports 0;refine(zzU h (zzK.kp h _) (zr3 hlen (by omega))).ret.imp (zA8.trans (PL.congr fun j _=>?_))
 simp
theorem zBb{p:Pg}(h:VP p):PL p (inD (zAA p.Reports.length)):=by
 obtain⟨L,hL⟩:=zzz h;exact⟨L,hL,fun j hj hs=>by rw[zAC hj] at hs; cases hs⟩
theorem zBc{p:Pg}(h:VP p):∃M,zuv p=some (M,0)/\zAE p.Reports.length (PL p) M:=by
 have h4:=h.r5;have hsh:∀D,Inc p.Reports.length 0 D->zr2 D:=fun D hD=>zr3 (Nat.le_refl D.length) (by have:=zxM hD; omega)
 have ht:∀D,Inc p.Reports.length 0 D->((zuu D (zzD p (zzv p)) p).getD false=true↔PL p (inD D)):=fun D hD=>by
  obtain⟨b,q1,q2⟩:=zBa h (hsh D hD);rw[q1]; exact q2
 obtain⟨s1,s2,s3⟩:=zx3 (n:=p.Reports.length) (t:=fun L=>(zuu L (zzD p (zzv p)) p).getD false) ⟨zAA p.Reports.length,zAB _,(ht _ (zAB _)).2 (zBb h)⟩;refine⟨zrz p.Reports.length fun L=>(zuu L (zzD p (zzv p)) p).getD false,?_,s1,(ht _ s1).1 s2,fun D hD hD2=>s3 D hD ((ht D hD).2 hD2)⟩;unfold zuv zrA
 rw[zz5 h,obs,if_pos rfl,zzJ h,obs,zqs ⟨by omega,by omega,fun L hL=>by
  have hI:Inc p.Reports.length 0 L:=by rw[Int.toNat_natCast] at hL; exact zxN.1 hL
  obtain⟨b,q1,_⟩:=zBa h (hsh L hI)
  show(zuu L (zzD p (zzv p)) p).isSome=true
  rw[q1]; rfl⟩,obs,Int.toNat_natCast]
def FP(p:Pg)(j:Nat):Prop:=zzT p (p.Reports.take (j+1))
theorem zBd{p:Pg}{i j:Nat}(hij:i<=j)(h:FP p j):FP p i:=by
 obtain⟨L,h1,h2⟩:=h;refine⟨L,h1,fun r hr=>h2 r ?_⟩
 have e:p.Reports.take (i+1)=(p.Reports.take (j+1)).take (i+1):=by rw[List.take_take,show min (i+1) (j+1)=i+1 by omega]
 rw[e] at hr;exact List.mem_of_mem_take hr
open Classical in
theorem zBe{p:Pg}(h:VP p):(∃j,j < p.Reports.length/\¬ FP p j/\(∀i,i < j->FP p i)/\zut p=some ((j:Int),0))\/((∀j,j < p.Reports.length->FP p j)/\zut p=some (0,7)):=by
 have h4:=h.r5
 have hf:∀m,m < p.Reports.length->zuq (m:Int) (zzD p (zzv p)) p=some (decide (¬ FP p m)):=fun m hm=>by
  unfold zuq;rw[zqs (fI (by omega)),zqs (by omega),show Int.toNat ((m:Int)+1)=m+1 by omega,show Int.toNat (0:Int)=0 from rfl,List.drop_zero]
  show(zt9 (zzD p (zzv p)) (p.Reports.take (m+1))).bind _=_
  have hlen:(p.Reports.take (m+1)).length<=5:=by rw[List.length_take]; omega
  have hc:=zzU h (rs:=p.Reports.take (m+1)) (fun r hr=>h.rsOk r (List.mem_of_mem_take hr)) (zr3 hlen (by omega))
  by_cases hq:FP p m
  ·rw[hc.some_of hq,obs,decide_eq_false (not_not_intro hq)]; rfl
  ·rw[hc.some_not hq,obs,decide_eq_true hq]; rfl
 obtain⟨k,q1,q2,q3,q4⟩:=zA6 (n:=p.Reports.length) (p:=fun a=>zuq a (zzD p (zzv p)) p) (f:=fun m=>decide (¬ FP p m)) (by omega) hf (fun m k h1 h2 h3=>decide_eq_true fun hk=>of_decide_eq_true h3 (zBd h1 hk)) ((p.Reports.length:Int).toNat+1) 0 p.Reports.length (Nat.zero_le _) (Nat.le_refl _) (by omega) (fun m hm=>by omega) fun m h1 h2=>by omega
 have e:zut p=if ((k:Nat):Int)=(p.Reports.length:Int) then some (0,7) else some ((k:Int),0):=by
  unfold zut zus;rw[zz5 h,obs,if_pos rfl,zzJ h,obs];have q1:zur (fun a=>zuq a (zzD p (zzv p)) p) ((p.Reports.length:Int).toNat+1) 0 (p.Reports.length:Int)=some (k:Int):=q1;rw[q1,obs]
 have hlt:∀i,i < k->FP p i:=fun i hi=>Classical.not_not.1 (of_decide_eq_false (q3 i hi))
 by_cases hk:k=p.Reports.length
 ·rw[if_pos (by omega)] at e;exact .inr ⟨fun j hj=>hlt j (by omega),e⟩
 ·rw[if_neg (by omega)] at e;exact .inl ⟨k,by omega,of_decide_eq_true (q4 k (Nat.le_refl _) (by omega)),hlt,e⟩
theorem zBf{p:Pg}{j j':Nat}(h1:¬ FP p j)(h2:∀i,i < j->FP p i)(h3:¬ FP p j')(h4:∀i,i < j'->FP p i):j=j':=by
 rcases Nat.lt_trichotomy j j' with h | h | h
 ·exact absurd (h4 j h) h1
 ·exact h
 ·exact absurd (h2 j' h) h3
end
end Go.Proofs.YtkcmdghjgoaggaaGreat

namespace Go.Proofs.YtkcmdghjgoaggaaGreat
open _root_.Go.Proofs.Tryz
open Go.Abs
set_option maxRecDepth 100000
noncomputable section
theorem zBg{l:List Int}:(∀j,0 < j->j < l.length->∀a b,l[j - 1]? = some a->l[j]? = some b->a < b)↔l.Pairwise (· < ·):=by
 constructor
 ·intro h;rw[List.pairwise_iff_getElem];intro i j hi hj hij
  have key:∀d,(hd:i+d+1 < l.length)->l[i] < l[i+d+1]:=fun d=>by
   induction d with
   | zero=>intro hd; exact h (i+1) (by omega) hd _ _ (List.getElem?_eq_getElem hi) (List.getElem?_eq_getElem hd)
   | succ d ih=>
    intro hd;have h1:=ih (by omega);have h2:=h (i+(d+1)+1) (by omega) hd _ _ (List.getElem?_eq_getElem (show i+d+1 < l.length by omega)) (List.getElem?_eq_getElem hd);exact Int.lt_trans h1 h2
  have:=key (j - i - 1) (by omega)
  simpa [show i+(j - i - 1)+1=j by omega] using this
 ·intro h j h0 hj a b ha hb;obtain⟨h1,rfl⟩:=List.getElem?_eq_some_iff.1 ha;obtain⟨h2,rfl⟩:=List.getElem?_eq_some_iff.1 hb;exact List.pairwise_iff_getElem.1 h (j - 1) j h1 h2 (by omega)
theorem zBh{l:List Int}(hl:zr2 l):Ev (zty l) (l.Pairwise (· < ·)):=by
 unfold zr2 at hl;unfold zty
 by_cases h0:l.length=0
 ·have:l=[]:=List.eq_nil_of_length_eq_zero h0;subst this
  show Ev (ztx [] 1 1) _
  rw[ztx,if_neg (by decide)];exact Ev.tt .nil
 ·have e:∃n,l.length=n+1:=⟨l.length - 1,by omega⟩;obtain⟨n,hn⟩:=e
  have key:=zrW (n:=n) (F:=fun d x=>ztx l d (x+1)) (ok:=fun j=>∀a b,l[j]? = some a->l[j+1]? = some b->a < b) (bad:=some false) (fin:=some true) (fun d k hk=>by
   show(_->ztx l (d+1) ((k:Int)+1)=_)/\_
   have ha:=List.getElem?_eq_getElem (show k < l.length by omega);have hb:=List.getElem?_eq_getElem (show k+1 < l.length by omega);rw[ztx,if_pos (by omega),zrT (show(k:Int)+1=((k+1:Nat):Int) by omega) (show k+1 < l.length by omega),obs,zqs (fI (by omega)),zrT (show(k:Int)+1 - 1=(k:Int) by omega) (show k < l.length by omega),obs];refine⟨fun h=>?_,fun h=>?_⟩
   ·have:=h _ _ ha hb;rw[if_neg (by omega),zqs (fI (by omega))]
   ·rw[if_pos]
    apply Classical.byContradiction
    intro h2
    exact h fun a b h3 h4=>by rw[ha] at h3; rw[hb] at h4; cases h3; cases h4; omega) (fun d=>by show ztx l (d+1) _=_; rw[ztx,if_neg (by omega)]) (d:=((l.length:Int) - 1).toNat+1) (by omega)
  have e0:ztx l (((l.length:Int) - 1).toNat+1) (0+1)=ztx l (((l.length:Int) - 1).toNat+1) 1:=rfl
  have hiff:(∀j,j < n->∀a b,l[j]? = some a->l[j+1]? = some b->a < b)↔l.Pairwise (· < ·):=by
   rw[<- zBg]
   constructor
   ·intro h j h0 hj a b h1 h2;have:=h (j - 1) (by omega) a b h1;rw[show j - 1+1=j by omega] at this;exact this h2
   ·intro h j hj a b h1 h2;exact h (j+1) (by omega) (by omega) a b (by rw[Nat.add_sub_cancel]; exact h1) h2
  by_cases hq:∀j,j < n->∀a b,l[j]? = some a->l[j+1]? = some b->a < b
  ·have:=key.1 hq;exact⟨true,this,⟨fun _=>hiff.1 hq,fun _=>rfl⟩⟩
  ·have:=key.2 hq;exact⟨false,this,⟨fun h=>(by cases h),fun h=>absurd (hiff.2 h) hq⟩⟩
def zke(p:Pg)(l:List Int):Prop:=l.Pairwise (· < ·)/\∀v∈l,(0<=v/\v<=(p.Treaties.length:Int) - 1)/\ofB p.Treaties v.toNat=true
theorem zke.inc{p:Pg}{l:List Int}(h:zke p l):Inc p.Treaties.length 0 l:=⟨h.1,fun v hv=>by have:=(h.2 v hv).1; omega⟩
theorem zke.len{p:Pg}{l:List Int}(h:zke p l):l.length<=p.Treaties.length:=by have:=zxM h.inc; omega
theorem zBi{p:Pg}(h:VP p){n:Int}:Ev (ztI p n) ((0<=n/\n<=(p.Treaties.length:Int) - 1)/\ofB p.Treaties n.toNat=true):=by
 have h5:=h.t5;refine(zyw (zz4 h).2.1).and fun hc=>?_;have hg:=List.getElem?_eq_getElem (show n.toNat < p.Treaties.length by omega);have e:=zrS hg;rw[show((n.toNat:Nat):Int)=n by omega] at e;rw[e,obs];have ho:=h.of' _ _ hg;exact Ev.dec (by rw[zAx hg,decide_eq_true_eq]; omega)
theorem zBj{p:Pg}(h:VP p){l:List Int}(hl:zr2 l):Ev (ztJ p l) (zke p l):=
 (zBh hl).and fun _=>(Ev.each (p:=fun a=>ztI p a) (q:=fun v=>(0<=v/\v<=(p.Treaties.length:Int) - 1)/\ofB p.Treaties v.toNat=true) (fun _ _=>zBi h) hl.lt gI).ret
def tyD:Ty:={ Kind:=0,Part:=0,Above:=0,Most:=0,Times:=0,Price:=0,Of:=-1 }
def tyA(ts:List Ty)(v:Int):Ty:=(ts[v.toNat]?).getD tyD
theorem zBk{ts:List Ty}{v:Int}{t:Ty}(h:ts[v.toNat]? = some t):tyA ts v=t:=by unfold tyA; rw[h]; rfl
theorem zBl{ts:List Ty}{v:Int}(h0:0<=v)(h1:v<=(ts.length:Int) - 1):ts[v.toNat]? = some (tyA ts v):=by
 have hg:=List.getElem?_eq_getElem (show v.toNat < ts.length by omega);rw[zBk hg,hg]
theorem zBm{ts:List Ty}{v:Int}(h0:0<=v)(h1:v<=(ts.length:Int) - 1):idx ts v=some (tyA ts v):=by
 have:=zrS (zBl h0 h1)
 rwa [show((v.toNat:Nat):Int)=v by omega] at this
def zBn(ts:List Ty):List Int->Int
 | []=>0
 | v::l=>(tyA ts v).Price+zBn ts l
theorem zBo{ts:List Ty}{v:Int}:∀l,zBn ts (l++[v])=zBn ts l+(tyA ts v).Price
 | []=>by show _+(0:Int)=0+_; omega
 | a::l=>by show _+zBn ts (l++[v])=_+zBn ts l+_; rw[zBo l]; omega
def InT(p:Pg)(l:List Int):Prop:=∀v∈l,0<=v/\v<=(p.Treaties.length:Int) - 1
theorem zBp{p:Pg}(h:VP p):∀{l:List Int},InT p l->0<=zBn p.Treaties l/\zBn p.Treaties l<=1000 * l.length
 | [],_=>⟨Int.le_refl _,by show(0:Int)<=1000 * ((0:Nat):Int); omega⟩
 | v::l,hl=>by
  have ih:=zBp h (l:=l) fun v hv=>hl v (List.mem_cons_of_mem _ hv);have hv:=hl v (List.mem_cons_self ..);have ht:=h.ts _ (List.mem_of_getElem? (zBl hv.1 hv.2));have h1:=ht.2
  show 0<=(tyA p.Treaties v).Price+zBn p.Treaties l/\(tyA p.Treaties v).Price+zBn p.Treaties l<=1000 * ((l.length+1:Nat):Int)
  omega
theorem zBq{α:Type}{l:List α}{k:Nat}{a:α}(h:l[k]? = some a):l.take (k+1)=l.take k++[a]:=by rw[List.take_add_one,h]; rfl
theorem zBr{p:Pg}(h:VP p){l:List Int}(hl:InT p l)(h9:l.length<=9):ztL p l=some (zBn p.Treaties l):=by
 refine zx9 (n:=l.length) (fun d (s:Int) y=>ztK p l d s y) (fun k=>zBn p.Treaties (l.take k)) (fun d k hk=>?_) (fun d=>?_) (l.length+1) 0 (by omega) (by omega)
 ·have hg:=List.getElem?_eq_getElem hk;have hv:=hl _ (List.getElem_mem hk);have hb:=zBp h (l:=l.take (k+1)) fun v hv=>hl v (List.mem_of_mem_take hv)
  have hlen:(l.take (k+1)).length<=9:=by rw[List.length_take]; omega
  rw[zBq hg,zBo] at hb;rw[List.length_append,List.length_take] at hb
  simp only[List.length_singleton] at hb
  show ztK p l (d+1) _ _=_
  rw[ztK,if_pos (by omega),zrS hg,obs,zBm hv.1 hv.2,obs,zqs (fI (by omega)),zqs (fI (by omega)),zBq hg,zBo]
 ·show ztK p l (d+1) _ _=_
  rw[ztK,if_neg (Int.lt_irrefl _),List.take_length]
def zBs(p:Pg)(l:List Int):Pg:={ Losses:=p.Losses,Reserve:=p.Reserve,Treaties:=l.map (tyA p.Treaties),Reports:=[] }
theorem zBt{p:Pg}{l:List Int}(hl:InT p l)(h9:l.length<=9):ztN p l=some (zBs p l):=by
 refine zx9 (n:=l.length) (fun d (s:List Ty) y=>ztM p l d p.Reserve s y) (fun k=>(l.take k).map (tyA p.Treaties)) (fun d k hk=>?_) (fun d=>?_) (l.length+1) 0 (by omega) (by omega)
 ·have hg:=List.getElem?_eq_getElem hk;have hv:=hl _ (List.getElem_mem hk)
  show ztM p l (d+1) _ _ _=_
  rw[ztM,if_pos (by omega),zrS hg,obs,zBm hv.1 hv.2,obs,zqs (by rw[List.length_map,List.length_take]; omega),zqs (fI (by omega)),zBq hg,List.map_append]; rfl
 ·show ztM p l (d+1) _ _ _=_
  rw[ztM,if_neg (Int.lt_irrefl _),List.take_length]; rfl
theorem zke.inT{p:Pg}{l:List Int}(h:zke p l):InT p l:=fun v hv=>(h.2 v hv).1
theorem zke.ty{p:Pg}(h:VP p){l:List Int}(hs:zke p l){v:Int}(hv:v∈l):(tyA p.Treaties v).Of = -1:=by
 obtain⟨h1,h2⟩:=hs.2 v hv;have hg:=zBl h1.1 h1.2;rw[zAx hg,decide_eq_true_eq] at h2;have:=h.of' _ _ hg
 omega
theorem zBu{p:Pg}(h:VP p){l:List Int}(hs:zke p l):VP (zBs p l):=by
 have h5:=h.t5;have hl:=hs.len;refine { ls:=h.ls,res:=h.res,ts:=fun t ht=>?_,of':=fun i t ht=>?_,rs:=fun r hr=>(by cases hr),l4:=h.l4,t5:=?_,r5:=Nat.zero_le _,many:=h.many }
 ·obtain⟨v,hv,rfl⟩:=List.mem_map.1 ht;have:=hs.inT v hv;exact h.ts _ (List.mem_of_getElem? (zBl this.1 this.2))
 ·obtain⟨v,hv,rfl⟩:=List.mem_map.1 (List.mem_of_getElem? ht);rw[hs.ty h hv]; omega
 ·show(l.map (tyA p.Treaties)).length<=5
  rw[List.length_map]; omega
theorem zBv{b k:Nat}:∀e,∃T,zxO b (k+e)=zxO b k++T
 | 0=>⟨[],(List.append_nil _).symm⟩
 | e+1=>by
  obtain⟨T,hT⟩:=zBv (b:=b) (k:=k) e;refine⟨T++(if b.testBit (k+e) then [((k+e:Nat):Int)] else []),?_⟩
  show zxO b (k+e)++_=_
  rw[hT,List.append_assoc]; rfl
theorem zBw{b n:Nat}(hn:n<=16)(hb:b < 2 ^ n):zxP b=zxO b n:=by
 unfold zxP;obtain⟨e,he⟩:∃e,16=n+e:=⟨16 - n,by omega⟩;rw[he];exact zxS (fun q hq=>Nat.testBit_lt_two_pow (Nat.lt_of_lt_of_le hb (Nat.pow_le_pow_right (by omega) hq))) e
theorem zBx{b k n j:Nat}(hk:k<=n)(hj:j < (zxO b k).length):(zxO b n)[j]? = (zxO b k)[j]?:=by
 obtain⟨T,hT⟩:=zBv (b:=b) (k:=k) (n - k);rw[show k+(n - k)=n by omega] at hT;rw[hT,List.getElem?_append_left hj]
theorem zBy{ts:List Ty}{b n:Nat}(hn:n=ts.length)(hof:∀k t,ts[k]? = some t->b.testBit k=true->t.Of = -1){P P':Nat->Int}(hP:∀(j:Nat) (v:Int),(zxO b n)[j]? = some v->P' j=P v.toNat){x:Int}:∀k,k<=n ->
  (dN ((zxO b n).map (tyA ts)) P' x (zxO b k).length).soc=(a1 ts (fun k=>b.testBit k) P x k).2/\∀(j:Nat) (v:Int),j < (zxO b k).length->(zxO b n)[j]? = some v->(dN ((zxO b n).map (tyA ts)) P' x (zxO b k).length).pays j=(a1 ts (fun k=>b.testBit k) P x k).1 v.toNat
 | 0,_=>⟨rfl,fun j v h=>by cases h⟩
 | k+1,hk=>by
  obtain⟨i1,i2⟩:=zBy hn hof hP (x:=x) k (by omega);have hg:=List.getElem?_eq_getElem (show k < ts.length by omega);rw[zAk hg];have ht:=hof k _ hg;generalize ts[k]'(by omega)=t at hg ht
  cases hb:b.testBit k with
  | true=>
   have ho:=ht hb
   have e:zxO b (k+1)=zxO b k++[(k:Int)]:=by show zxO b k++(if b.testBit k then _ else _)=_; rw[hb]; rfl
   have el:(zxO b (k+1)).length=(zxO b k).length+1:=by rw[e,List.length_append]; rfl
   have hm:(zxO b n)[(zxO b k).length]? = some (k:Int):=by
    rw[zBx (k:=k+1) hk (by omega),e,List.getElem?_append_right (Nat.le_refl _),Nat.sub_self]; rfl
   have hmt:((zxO b n).map (tyA ts))[(zxO b k).length]? = some t:=by
    rw[List.getElem?_map,hm];exact congrArg some (zBk (by rw[Int.toNat_natCast]; exact hg))
   rw[el,zy3 hmt,if_pos ⟨by omega,rfl⟩];unfold zy2;rw[if_pos ho,i1,hP _ _ hm,Int.toNat_natCast];refine⟨rfl,fun j v hj hv=>?_⟩
   show upF _ (zxO b k).length _ j=upF (a1 ts (fun k=>b.testBit k) P x k).1 k _ v.toNat
   by_cases hjm:j=(zxO b k).length
   ·subst hjm;rw[hm] at hv
    cases hv
    rw[zye,Int.toNat_natCast,zye]
   ·rw[zyf _ _ hjm,i2 j v (by omega) hv];have hv2:=hv;rw[zBx (k:=k) (by omega) (by omega)] at hv2;have:=zxQ.1 (List.mem_of_getElem? hv2);rw[zyf _ _ (by omega)]
  | false=>
   have e:zxO b (k+1)=zxO b k:=by show zxO b k++(if b.testBit k then _ else _)=_; rw[hb]; exact List.append_nil _
   rw[e,if_neg fun h=>by cases h.2];exact⟨i1,i2⟩
theorem zBz{ts:List Ty}{P now:Nat->Int}{j:Nat}(hj:ofB ts j=true):∀k,k<=ts.length->(a2 ts P now k).1 j=now j
 | 0,_=>rfl
 | k+1,hk=>by
  have hg:=List.getElem?_eq_getElem (show k < ts.length by omega);have hfk:=zAx hg;have ih:=zBz (P:=P) (now:=now) hj k (by omega);rw[zAl hg];generalize ts[k]'(by omega)=t at hg hfk
  by_cases ho:0<=t.Of
  ·rw[if_pos ho]
   show upF (a2 ts P now k).1 k _ j=_
   rw[zyf _ _ fun e=>by subst e; rw[hfk,decide_eq_true_eq] at hj; omega,ih]
  ·rw[if_neg ho,ih]
theorem zBA{ts:List Ty}{b:Nat}(hof:∀k t,ts[k]? = some t->b.testBit k=true->t.Of = -1):∀(L:List Int) (s:(Nat->Int) × Int) (o:DS),(∀(j:Nat) (v:Int),(zxO b ts.length)[j]? = some v->o.pays j=s.1 v.toNat)->o.soc=s.2 ->
  (L.foldl (zza ((zxO b ts.length).map (tyA ts))) o).soc=(L.foldl (zAo ts fun k=>b.testBit k) s).2
 | [],_,_,_,h2=>h2
 | x::L,s,o,h1,h2=>by
  obtain⟨c1,c2⟩:=zBy rfl hof h1 (x:=x) ts.length (Nat.le_refl _);refine zBA hof L (zAo ts (fun k=>b.testBit k) s x) (zza ((zxO b ts.length).map (tyA ts)) o x) (fun j v hv=>?_) ?_
  ·show o.pays j+(dN ((zxO b ts.length).map (tyA ts)) o.pays x ((zxO b ts.length).map (tyA ts)).length).pays j=s.1 v.toNat+(a2 ts s.1 (a1 ts (fun k=>b.testBit k) s.1 x ts.length).1 ts.length).1 v.toNat
   have hjl:=(List.getElem?_eq_some_iff.1 hv).1;have hmem:=zxQ.1 (List.mem_of_getElem? hv);have hg:=List.getElem?_eq_getElem (show v.toNat < ts.length by omega);rw[List.length_map,h1 j v hv,c2 j v hjl hv,zBz (by rw[zAx hg,hof _ _ hg hmem.2.2]; rfl) ts.length (Nat.le_refl _)]
  ·show o.soc+(dN ((zxO b ts.length).map (tyA ts)) o.pays x ((zxO b ts.length).map (tyA ts)).length).soc=s.2+(a1 ts (fun k=>b.testBit k) s.1 x ts.length).2
   rw[List.length_map,c1,h2]
theorem zBB{ts:List Ty}{b:Nat}(hof:∀k t,ts[k]? = some t->b.testBit k=true->t.Of = -1)(L:List Int):(zzb ((zxO b ts.length).map (tyA ts)) L).soc=(zAp ts (fun k=>b.testBit k) L).2:=
 zBA hof L (fun _=>0,0) zy9 (fun _ _ _=>rfl) rfl
theorem zBC{ts:List Ty}{th th':Nat->Bool}{P:Nat->Int}{x:Int}(h:∀j,j < ts.length->th j=th' j):∀k,k<=ts.length->a1 ts th P x k=a1 ts th' P x k
 | 0,_=>rfl
 | k+1,hk=>by
  have hg:=List.getElem?_eq_getElem (show k < ts.length by omega);rw[zAk hg,zAk hg,zBC h k (by omega),h k (by omega)]
theorem zBD{ts:List Ty}{th th':Nat->Bool}(h:∀j,j < ts.length->th j=th' j)(L:List Int):zAp ts th L=zAp ts th' L:=by
 have e:zAo ts th=zAo ts th':=by
  funext s x
  unfold zAo;rw[zBC h ts.length (Nat.le_refl _)]
 unfold zAp;rw[e]
theorem RI.mono{ts:List Ty}{B B':Int}{s:(Nat->Int) × Int}(h:RI ts B s)(hB:B<=B'):RI ts B' s:=⟨by have:=h.net; omega,fun j=>by have:=h.pays j; omega,h.cap⟩
theorem zBE{ts:List Ty}{th:Nat->Bool}(hts:zy5 ts):∀(L:List Int) (s:(Nat->Int) × Int) (B:Int),(∀x∈L,0<=x/\x<=1000)->RI ts B s->RI ts (B+1000 * L.length) (L.foldl (zAo ts th) s)
 | [],s,B,_,h=>h.mono (by show B<=B+1000 * ((0:Nat):Int); omega)
 | x::L,s,B,hL,h=>by
  have hx:=hL x (List.mem_cons_self ..);have h1:=(h.step (th:=th) hts (x:=x) (by omega)).mono (B':=B+1000) (by omega);refine(zBE hts L _ _ (fun x hx=>hL x (List.mem_cons_of_mem _ hx)) h1).mono ?_;rw[List.length_cons]; omega
theorem zBF{p:Pg}(h:VP p){th:Nat->Bool}{L:List Int}(hL:inL p.Losses L):0<=(zAp p.Treaties th L).2/\(zAp p.Treaties th L).2<=4000:=by
 have h4:=h.l4;have hl:=zzo hL;have:=(zBE (th:=th) h.tsOk L (fun _=>0,0) 0 (zzr hL h.ls) ⟨⟨Int.le_refl _,Int.le_refl _⟩,fun _=>⟨Int.le_refl _,Int.le_refl _⟩,zzc h.tsOk⟩).net;unfold zAp
 omega
def zBG(p:Pg):List (List Int):=(List.range (zyn p.Losses).toNat).map fun n:Nat=>zAI p.Losses (n:Int)
theorem zBH{p:Pg}(h:VP p){L:List Int}:L∈zBG p↔inL p.Losses L:=by
 unfold zBG;rw[List.mem_map]
 constructor
 ·rintro⟨n,_,rfl⟩; exact h.nthIn (by omega)
 ·intro hL;obtain⟨n,n0,n1,rfl⟩:=zAK hL;exact⟨n.toNat,List.mem_range.2 (by omega),by rw[show((n.toNat:Nat):Int)=n by omega]⟩
def zBI(p:Pg)(th:Nat->Bool):Rg:=wdL (fun L=>(zAp p.Treaties th L).2) (zBG p)
theorem zBJ{p:Pg}{th th':Nat->Bool}(h:∀j,j < p.Treaties.length->th j=th' j):zBI p th=zBI p th':=by
 unfold zBI
 have:(fun L=>(zAp p.Treaties th L).2)=fun L=>(zAp p.Treaties th' L).2:=funext fun L=>by rw[zBD h]
 rw[this]
theorem zBK{p:Pg}(h:VP p)(th:Nat->Bool):IsB (inL p.Losses) (fun L=>(zAp p.Treaties th L).2) (zBI p th):=by
 obtain⟨L,hL⟩:=zzz h;refine(zAY (fun e=>?_) fun L hL=>?_).congr (fun L=>zBH h) fun _ _=>rfl
 ·have:=(zBH h).2 hL
  rw[e] at this; cases this
 ·have:=zBF h (th:=th) ((zBH h).1 hL); omega
theorem zBL{p:Pg}(h:VP p){b:Nat}(hb:b < 1000000):zsR p (b:Int)=some (zBI p fun k=>b.testBit k):=by
 have hm:=h.many;have h1:=h.prodPos
 show(some emp).bind _=_
 rw[obs]
 have hlen:(zBG p).length=(zyn p.Losses).toNat:=by unfold zBG; rw[List.length_map,List.length_range]
 refine zx9 (n:=(zyn p.Losses).toNat) (fun d (s:Rg) y=>zsQ p (b:Int) d s.Lo s.Hi y) (fun k=>wdL (fun L=>(zAp p.Treaties (fun k=>b.testBit k) L).2) ((zBG p).take k)) (fun d k hk=>?_) (fun d=>?_) 1000000 0 (by omega) (by omega)
 ·have hin:=h.nthIn (n:=(k:Int)) (by omega)
  have hg:(zBG p)[k]? = some (zAI p.Losses (k:Int)):=by unfold zBG; rw[List.getElem?_map,List.getElem?_range hk]; rfl
  show zsQ p (b:Int) (d+1) _ _ _=_
  rw[zsQ,zyQ h,obs,if_pos (by omega),zAM h (by omega),obs,zAw h hb (zzr hin h.ls) (l9 h hin),obs,zAW hg]
  show(some (wd _ _)).bind _=_
  rw[obs,zqs (fI (by omega))]
 ·show zsQ p (b:Int) (d+1) _ _ _=_
  rw[zsQ,zyQ h,obs,if_neg (by omega),List.take_of_length_le (by rw[hlen]; exact Nat.le_refl _)]; rfl
theorem zke.bits{p:Pg}(h:VP p){b:Nat}(_hb:b < 2 ^ p.Treaties.length)(hs:zke p (zxP b)):∀k t,p.Treaties[k]? = some t->b.testBit k=true->t.Of = -1:=fun k t hk hbk=>by
 have hkl:=(List.getElem?_eq_some_iff.1 hk).1;have h5:=h.t5
 have hm:((k:Nat):Int)∈zxP b:=by unfold zxP; exact zxQ.2 ⟨by omega,by omega,hbk⟩
 have:=hs.ty h hm
 rwa [zBk (t:=t) (by rw[Int.toNat_natCast]; exact hk)] at this
theorem zBM{p:Pg}(h:VP p){l:List Int}(hs:zke p l):zui p l=some (zBI p (inD l)):=by
 have h5:=h.t5;obtain⟨b,hb,hlb⟩:=zx8 (n:=p.Treaties.length) (by omega) hs.inc;have hv:=zBu h hs;have hlen:=hs.len;have hof:=zke.bits h hb (by rw[hlb]; exact hs)
 have hth:∀j,j < p.Treaties.length->inD l j=b.testBit j:=fun j hj=>by
  rw[<- hlb]; exact zx7 (n:=p.Treaties.length) (by omega) hj
 have hlF:l=zxO b p.Treaties.length:=by rw[<- hlb]; exact zBw (by omega) hb
 obtain⟨L0,hL0⟩:=zzz h;have hcan:zzT (zBs p l) (zBs p l).Reports:=⟨L0,hL0,fun r hr=>by cases hr⟩;obtain⟨r,a1,a2⟩:=zz3 hv (number:=fun a=>ztQ a) (g:=fun o=>o.society) (fun L _=>rfl) hcan
 have hnet:∀L,(zzb (l.map (tyA p.Treaties)) L).soc=(zAp p.Treaties (fun k=>b.testBit k) L).2:=fun L=>by
  rw[hlF]; exact zBB hof L
 have e:r=zBI p (inD l):=by
  rw[zBJ hth];have q:IsB (inL p.Losses) (fun L=>(zAp p.Treaties (fun k=>b.testBit k) L).2) r:=a2.congr (fun L=>⟨fun q=>q.1,fun q=>⟨q,fun r hr=>by cases hr⟩⟩) fun L _=>hnet L;exact q.uniq (zBK h fun k=>b.testBit k)
 unfold zui;rw[zBt hs.inT (by omega),obs,zzJ hv,obs];have a1':zub ({ p:=(zzD (zBs p l) (zzv (zBs p l))).p,kinds:=(zzD (zBs p l) (zzv (zBs p l))).kinds,shared:=(),played:=(zzD (zBs p l) (zzv (zBs p l))).played }:Wk) (fun a=>ztQ a)=some r:=a1;rw[a1',obs,e]
theorem zBN{p:Pg}(h:VP p){l:List Int}(hs:zke p l):zuj p l=some (decide ((zBI p (inD l)).Hi<=p.Reserve)):=by
 unfold zuj;rw[zBM h hs,obs]
theorem zBO{p:Pg}(h:VP p){l:List Int}(hl:zr2 l)(hs:zke p l):zuk p l=some (zBI p (inD l),0):=by
 unfold zuk;rw[zz5 h,obs,if_pos rfl,(zBj h hl).some_of hs,obs,if_pos rfl,zBM h hs,obs]
theorem zBP{p:Pg}(h:VP p){l:List Int}(hl:zr2 l)(hs:¬ zke p l):zuk p l=some ({ Lo:=0,Hi:=0 },2):=by
 unfold zuk;rw[zz5 h,obs,if_pos rfl,(zBj h hl).some_not hs,obs,if_neg (by decide)]
def zBQ(p:Pg)(l:List Int)(m:Int):Prop:=zke p l/\zBn p.Treaties l<=m/\(zBI p (inD l)).Hi<=p.Reserve
theorem zBR{p:Pg}(h:VP p){l:List Int}(hl:zr2 l){m:Int}:Ev (zup p l m) (zBQ p l m):=by
 have h5:=h.t5;unfold zup;rw[zz5 h,obs,if_pos rfl];refine((zBj h hl).and fun hs=>(?_:Ev _ (zBn p.Treaties l<=m/\(zBI p (inD l)).Hi<=p.Reserve)));have:=hs.len;rw[zBr h hs.inT (by omega),obs];refine Ev.ite fun _=>?_;rw[zBN h hs,obs];exact Ev.dec Iff.rfl
theorem zBS{l:List Int}(h:l.length<=100000):zt3 l=some l:=by
 unfold zt3;rw[zqs (by simp only[List.length_nil]; omega)]; rfl
def zBT(p:Pg)(D:List Int):Prop:=zke p D/\(zBI p (inD D)).Hi<=p.Reserve
structure zBU (p:Pg) (M:List Int):Prop where
 good:zBT p M
 min:∀D,zBT p D->zBn p.Treaties M < zBn p.Treaties D\/(zBn p.Treaties M=zBn p.Treaties D/\(D=M\/shB M D=true))
theorem zBU.uniq{p:Pg}{M M':List Int}(h:zBU p M)(h':zBU p M'):M=M':=by
 rcases h.min M' h'.good with h1 | ⟨h1,h1'⟩ <;> rcases h'.min M h.good with h2 | ⟨h2,h2'⟩
 ·omega
 ·omega
 ·omega
 ·rcases h1' with h3 | h3
  ·exact h3.symm
  ·rcases h2' with h4 | h4
   ·exact h4
   ·rw[zxX h3] at h4; cases h4
open Classical in
def zBV(p:Pg)(s:List Int × Bool)(D:List Int):List Int × Bool:=if zBT p D/\(s.2=true->zBn p.Treaties D < zBn p.Treaties s.1) then (D,true) else s
theorem zBW{p:Pg}{s:List Int × Bool}(h:s.2=true->zke p s.1)(D:List Int):(zBV p s D).2=true->zke p (zBV p s D).1:=by
 unfold zBV
 split
 ·rename_i hc; exact fun _=>hc.1.1
 ·exact h
theorem zBX{p:Pg}(h:VP p){x:Int}(hx:0<=x/\x<=1000){K:List Int->Bool->Int->Option (List Int × Bool)}:∀(q:List (List Int)) (s:List Int × Bool),(∀D∈q,Inc p.Treaties.length 0 D)->(s.2=true->zke p s.1) ->
  zul p x K q s.1 s.2=K (q.foldl (zBV p) s).1 (q.foldl (zBV p) s).2 (x+1)/\((q.foldl (zBV p) s).2=true->zke p (q.foldl (zBV p) s).1)
 | [],s,_,hs=>⟨by rw[zul,zqs (fI (by omega))]; rfl,hs⟩
 | D::q,s,hq,hs=>by
  have h5:=h.t5;have hD:=zxM (hq D (List.mem_cons_self ..));have ih:=zBX h hx (K:=K) q (zBV p s D) (fun D hD=>hq D (List.mem_cons_of_mem _ hD)) (zBW hs D);refine⟨?_,ih.2⟩;refine Eq.trans ?_ ih.1;rw[zul]
  have hD5:D.length<=5:=by omega
  by_cases hset:zke p D
  ·rw[(zBj h (zr3 hD5 (by omega))).some_of hset,obs,if_pos rfl];have hg:zBT p D↔(zBI p (inD D)).Hi<=p.Reserve:=⟨fun q=>q.2,fun q=>⟨hset,q⟩⟩;obtain⟨M,b⟩:=s
   cases b with
   | true=>
    have hM:=hs rfl;have hMl:M.length<=p.Treaties.length:=hM.len
    show(if true=true then _ else _)=_
    rw[if_pos rfl,zBr h hset.inT (by omega),obs]
    show(ztL p M).bind _=_
    rw[zBr h hM.inT (by show M.length<=9; omega),obs]
    by_cases hp:zBn p.Treaties M<=zBn p.Treaties D
    ·rw[if_pos hp]
     have e:zBV p (M,true) D=(M,true):=if_neg fun q=>by have:zBn p.Treaties D < zBn p.Treaties M:=q.2 rfl; omega
     rw[e]
    ·rw[if_neg hp,zBN h hset,obs]
     by_cases hk:(zBI p (inD D)).Hi<=p.Reserve
     ·have e:zBV p (M,true) D=(D,true):=if_pos ⟨hg.2 hk,fun _=>by show zBn p.Treaties D < zBn p.Treaties M; omega⟩;rw[decide_eq_true hk,if_pos rfl,zBS (by omega),obs,e]
     ·have e:zBV p (M,true) D=(M,true):=if_neg fun q=>hk (hg.1 q.1);rw[decide_eq_false hk,if_neg (by decide),e]
   | false=>
    show(if false=true then _ else _)=_
    rw[if_neg (by decide),zBN h hset,obs]
    by_cases hk:(zBI p (inD D)).Hi<=p.Reserve
    ·have e:zBV p (M,false) D=(D,true):=if_pos ⟨hg.2 hk,fun q=>(by cases q)⟩;rw[decide_eq_true hk,if_pos rfl,zBS (by omega),obs,e]
    ·have e:zBV p (M,false) D=(M,false):=if_neg fun q=>hk (hg.1 q.1);rw[decide_eq_false hk,if_neg (by decide),e]
  ·rw[(zBj h (zr3 hD5 (by omega))).some_not hset,obs,if_neg (by decide)];have e:zBV p s D=s:=if_neg fun q=>hset q.1.1;rw[e]
theorem zBY{p:Pg}(h:VP p):∀(d e k:Nat) (s:List Int × Bool),k+e=p.Treaties.length+1->e < d->(s.2=true->zke p s.1)->zum p d s.1 s.2 (k:Int)=some ((zrx (fun s=>zry p.Treaties.length s [] 0) e k).foldl (zBV p) s)
 | 0,_,_,_,_,hd,_=>by omega
 | d+1,0,k,s,hk,hd,hs=>by
  rw[zum,if_neg (by omega)]; rfl
 | d+1,e+1,k,s,hk,hd,hs=>by
  have h5:=h.t5
  have hinc:∀D∈zry p.Treaties.length k [] 0,Inc p.Treaties.length 0 D:=fun D hD=>by
   obtain⟨T,h1,_,h3⟩:=zxL.1 hD;rw[List.nil_append] at h1;rw[h1]; exact h3
  obtain⟨q1,q2⟩:=zBX h (x:=(k:Int)) (by omega) (K:=zum p d) (zry p.Treaties.length k [] 0) s hinc hs;rw[zum,if_pos (by omega)];unfold zrB;rw[zqs (by omega),obs,Int.toNat_natCast,Int.toNat_natCast,q1,show(k:Int)+1=((k+1:Nat):Int) by omega];refine(zBY h d e (k+1) _ (by omega) (by omega) q2).trans ?_
  show _=some ((zry p.Treaties.length k [] 0++zrx (fun s=>zry p.Treaties.length s [] 0) e (k+1)).foldl (zBV p) s)
  rw[List.foldl_append]
theorem zBZ{p:Pg}(h:VP p):zun p=some ((zoj p.Treaties.length).foldl (zBV p) ([],false)):=by
 have h5:=h.t5;unfold zun;rw[zqs (fI (by omega))]
 exact zBY h _ (p.Treaties.length+1) 0 ([],false) (by omega) (by omega) fun q=>by cases q
structure zB0 (p:Pg) (A:List (List Int)) (s:List Int × Bool):Prop where
 yes:s.2=true->s.1∈A/\zBT p s.1/\∀D∈A,zBT p D->zBn p.Treaties s.1 < zBn p.Treaties D\/(zBn p.Treaties s.1=zBn p.Treaties D/\(D=s.1\/shB s.1 D=true))
 no:s.2=false->s.1=[]/\∀D∈A,¬ zBT p D
theorem zB1{p:Pg}:∀(q A:List (List Int)) (s:List Int × Bool),(A++q).Pairwise (fun a b=>shB a b=true)->zB0 p A s->zB0 p (A++q) (q.foldl (zBV p) s)
 | [],A,s,_,h=>by rw[List.append_nil]; exact h
 | D::q,A,s,hp,h=>by
  have e:A++D::q=(A++[D])++q:=by rw[List.append_assoc]; rfl
  rw[e] at hp ⊢;refine zB1 q (A++[D]) (zBV p s D) hp ?_;have hAD:∀a∈A,shB a D=true:=fun a ha=>(List.pairwise_append.1 (List.pairwise_append.1 hp).1).2.2 a ha D (List.mem_singleton.2 rfl)
  have hmem:∀D',D'∈A++[D]->D'∈A\/D'=D:=fun D' hD'=>by
   rcases List.mem_append.1 hD' with q | q
   ·exact .inl q
   ·exact .inr (List.mem_singleton.1 q)
  obtain⟨M,b⟩:=s
  by_cases hc:zBT p D/\(b=true->zBn p.Treaties D < zBn p.Treaties M)
  ·have e2:zBV p (M,b) D=(D,true):=if_pos hc;rw[e2];refine⟨fun _=>⟨List.mem_append_right _ (List.mem_singleton.2 rfl),hc.1,fun D' hD' hg=>?_⟩,fun q=>(by cases q)⟩
   rcases hmem D' hD' with hq | rfl
   ·cases b with
    | true=>
     have h1:zBn p.Treaties D < zBn p.Treaties M:=hc.2 rfl
     rcases (h.yes rfl).2.2 D' hq hg with h2 | ⟨h2,_⟩
     ·have h2:zBn p.Treaties M < zBn p.Treaties D':=h2;exact .inl (by show zBn p.Treaties D < _; omega)
     ·have h2:zBn p.Treaties M=zBn p.Treaties D':=h2;exact .inl (by show zBn p.Treaties D < _; omega)
    | false=>exact absurd hg ((h.no rfl).2 D' hq)
   ·exact .inr ⟨rfl,.inl rfl⟩
  ·have e2:zBV p (M,b) D=(M,b):=if_neg hc;rw[e2]
   cases b with
   | true=>
    refine⟨fun _=>?_,fun q=>(by cases q)⟩;obtain⟨y1,y2,y3⟩:=h.yes rfl;refine⟨List.mem_append_left _ y1,y2,fun D' hD' hg=>?_⟩
    rcases hmem D' hD' with hq | rfl
    ·exact y3 D' hq hg
    ·have h1:¬ zBn p.Treaties D' < zBn p.Treaties M:=fun q=>hc ⟨hg,fun _=>q⟩
     rcases Int.lt_or_eq_of_le (show zBn p.Treaties M<=zBn p.Treaties D' by omega) with h2 | h2
     ·exact .inl h2
     ·exact .inr ⟨h2,.inr (hAD M y1)⟩
   | false=>
    refine⟨fun q=>(by cases q),fun _=>⟨(h.no rfl).1,fun D' hD' hg=>?_⟩⟩
    rcases hmem D' hD' with hq | rfl
    ·exact(h.no rfl).2 D' hq hg
    ·exact hc ⟨hg,fun q=>(by cases q)⟩
theorem zB2{p:Pg}(h:VP p):(∃M,zun p=some (M,true)/\zBU p M)\/(zun p=some ([],false)/\∀D,¬ zBT p D):=by
 have hi:=zB1 (p:=p) (zoj p.Treaties.length) [] ([],false) (zx1 _) ⟨fun q=>(by cases q),fun _=>⟨rfl,fun D hD=>by cases hD⟩⟩;rw[List.nil_append] at hi;rw[zBZ h];generalize (zoj p.Treaties.length).foldl (zBV p) ([],false)=s at hi;have hall:∀D,zBT p D->D∈zoj p.Treaties.length:=fun D hD=>zxN.2 hD.1.inc;obtain⟨M,b⟩:=s
 cases b with
 | true=>
  obtain⟨_,y2,y3⟩:=hi.yes rfl;exact .inl ⟨M,rfl,y2,fun D hD=>y3 D (hall D hD) hD⟩
 | false=>
  obtain⟨n1,n2⟩:=hi.no rfl;have n1:M=[]:=n1;subst n1;exact .inr ⟨rfl,fun D hD=>n2 D (hall D hD) hD⟩
theorem zB3{p:Pg}(h:VP p):(∃M,zuo p=some (M,zBn p.Treaties M,0)/\zBU p M)\/(zuo p=some ([],0,10)/\∀D,¬ zBT p D):=by
 have h5:=h.t5;unfold zuo;rw[zz5 h,obs,if_pos rfl]
 rcases zB2 h with ⟨M,q1,q2⟩ | ⟨q1,q2⟩
 ·have hl:=q2.good.1.len;refine .inl ⟨M,?_,q2⟩;rw[q1,obs]
  show(ztL p M).bind _=_
  rw[zBr h q2.good.1.inT (by omega),obs]
 ·refine .inr ⟨?_,q2⟩;rw[q1,obs]; rfl
theorem zB4{p:Pg}{b:Nat}{k:Nat}(hk:k<=p.Treaties.length):InT p (zxO b k):=fun v hv=>by have:=zxQ.1 hv; omega
theorem zB5{p:Pg}(h:VP p){b:Nat}(hb:b < 2 ^ p.Treaties.length):zsT p (b:Int)=some (zBn p.Treaties (zxP b)):=by
 have h5:=h.t5;have hp:=zAH (i:=p.Treaties.length) (by omega);rw[zBw (n:=p.Treaties.length) (by omega) hb];refine zx9 (n:=p.Treaties.length) (fun d (s:Int) y=>zsS p (b:Int) d s y) (fun k=>zBn p.Treaties (zxO b k)) (fun d k hk=>?_) (fun d=>?_) 1000000 0 (by omega) (by omega)
 ·have hg:=List.getElem?_eq_getElem hk;have hB:=zBp h (zB4 (p:=p) (b:=b) (k:=k) (by omega));have hln:=zxT (b:=b) k;have ht:=h.ts _ (List.getElem_mem hk);have h1:=ht.2;have hq0:=Nat.div_le_self b (2 ^ k)
  have hdv:(0:Int)<=(b:Int) / 2 ^ k/\(b:Int) / 2 ^ k<=1000000:=by
   rw[zxU];generalize b / 2 ^ k=q at hq0
   omega
  show zsS p (b:Int) (d+1) _ _=_
  rw[zsS,if_pos (by omega),zqs (by omega),wu (show k<=64 by omega),zqs (by omega),zqs (by omega),Int.toNat_natCast,zqs (fI (by omega)),zqs hdv.1,zqs (by omega),zqs (fI (by omega))]
  by_cases hbt:b.testBit k=true
  ·have e:zxO b (k+1)=zxO b k++[(k:Int)]:=by show zxO b k++(if b.testBit k then _ else _)=_; rw[hbt]; rfl
   rw[if_pos (zAr.2 hbt),zrS hg,obs,e,zBo,zBk (t:=p.Treaties[k]) (by rw[Int.toNat_natCast]; exact hg),zqs (fI (by omega)),zqs (fI (by omega))]
  ·have e:zxO b (k+1)=zxO b k:=by
    show zxO b k++(if b.testBit k then _ else _)=_
    rw[if_neg hbt]; exact List.append_nil _
   rw[if_neg fun hc=>hbt (zAr.1 hc),zqs (fI (by omega)),e]
 ·show zsS p (b:Int) (d+1) _ _=_
  rw[zsS,if_neg (Int.lt_irrefl _)]
end
end Go.Proofs.YtkcmdghjgoaggaaGreat

namespace Go.Proofs.YtkcmdghjgoaggaaGreat
open _root_.Go.Proofs.Tryz
open Go.Abs
set_option maxRecDepth 100000
noncomputable section
def zB6(p:Pg):Prop:=p.Losses.length<=7/\p.Treaties.length<=8/\p.Reports.length<=8
theorem VP.thin{p:Pg}(h:VP p):zB6 p:=by
 have:=h.l4; have:=h.t5; have:=h.r5;exact⟨by omega,by omega,by omega⟩
def zB7(p:Pg):Prop:=zB6 p/\(VP p->zyn p.Losses<=300)
theorem zB8{p:Pg}:Ev (zuE p) (zB7 p):=by
 unfold zuE zB7 zB6
 by_cases h1:p.Losses.length<=7
 ·rw[if_pos (by omega)]
  by_cases h2:p.Treaties.length<=8
  ·rw[if_pos (by omega)]
   by_cases h3:p.Reports.length<=8
   ·rw[if_pos (by omega),zyR (by omega) (by omega) (by omega),obs]
    by_cases hf:zyo p=0
    ·have hv:=zyp.1 hf;rw[if_pos hf,zyQ hv,obs];exact Ev.dec ⟨fun q=>⟨⟨h1,h2,h3⟩,fun _=>q⟩,fun q=>q.2 hv⟩
    ·rw[if_neg hf];exact Ev.tt ⟨⟨h1,h2,h3⟩,fun q=>absurd (zyp.2 q) hf⟩
   ·rw[if_neg (by omega)]; exact Ev.ff fun q=>h3 q.1.2.2
  ·rw[if_neg (by omega)]; exact Ev.ff fun q=>h2 q.1.2.1
 ·rw[if_neg (by omega)]; exact Ev.ff fun q=>h1 q.1.1
theorem zB9{p:Pg}:Ev (zuK p) (VP p/\zyn p.Losses<=300):=by
 unfold zuK
 by_cases ht:zB7 p
 ·obtain⟨⟨a,b,c⟩,ht2⟩:=ht;rw[zB8.some_of ⟨⟨a,b,c⟩,ht2⟩,obs,if_pos rfl,zyR (by omega) (by omega) (by omega),obs];exact Ev.dec (zyp.trans ⟨fun q=>⟨q,ht2 q⟩,fun q=>q.1⟩)
 ·rw[zB8.some_not ht,obs,if_neg (by decide)];exact Ev.ff fun q=>ht ⟨q.1.thin,fun _=>q.2⟩
theorem zCa{p:Pg}(h:zB6 p):zuB p=some p:=by
 obtain⟨h1,h2,h3⟩:=h
 have k2:zuy p p.Losses p.Treaties 1000000 p.Reserve [] 0=some p:=by
  refine(zrY (l:=p.Reports) (fun r=>r) (F:=fun d acc x=>zuy p p.Losses p.Treaties d p.Reserve acc x) (fun acc=>some ({ Losses:=p.Losses,Reserve:=p.Reserve,Treaties:=p.Treaties,Reports:=acc }:Pg)) (fun d k acc a hk ha=>?_) (fun d acc=>?_) (d:=1000000) (by omega)).trans (by rw[List.map_id'])
  ·have hkl:=(List.getElem?_eq_some_iff.1 hk).1
   show zuy p p.Losses p.Treaties (d+1) _ _ _=_
   rw[zuy,if_pos (by omega),zrS hk,obs,obs]
   show(some a.Paid).bind _=_
   rw[obs,zqs (by omega),zqs (fI (by omega))]
  ·show zuy p p.Losses p.Treaties (d+1) _ _ _=_
   rw[zuy,if_neg (Int.lt_irrefl _)]
 have k1:zuz p p.Losses 1000000 p.Reserve [] [] 0=some p:=by
  refine(zrY (l:=p.Treaties) (fun r=>r) (F:=fun d acc x=>zuz p p.Losses d p.Reserve acc [] x) (fun acc=>zuy p p.Losses acc 1000000 p.Reserve [] 0) (fun d k acc a hk ha=>?_) (fun d acc=>?_) (d:=1000000) (by omega)).trans (by rw[List.map_id']; exact k2)
  ·have hkl:=(List.getElem?_eq_some_iff.1 hk).1
   show zuz p p.Losses (d+1) _ _ _ _=_
   rw[zuz,if_pos (by omega),zrS hk,obs,zqs (by omega),zqs (fI (by omega))]
  ·show zuz p p.Losses (d+1) _ _ _ _=_
   rw[zuz,if_neg (Int.lt_irrefl _)]
 refine(zrY (l:=p.Losses) (fun r=>r) (F:=fun d acc x=>zuA p d acc p.Reserve [] [] x) (fun acc=>zuz p acc 1000000 p.Reserve [] [] 0) (fun d k acc a hk ha=>?_) (fun d acc=>?_) (d:=1000000) (by omega)).trans (by rw[List.map_id']; exact k1)
 ·have hkl:=(List.getElem?_eq_some_iff.1 hk).1
  show zuA p (d+1) _ _ _ _ _=_
  rw[zuA,if_pos (by omega),zrS hk,obs]
  show(some a).bind _=_
  rw[obs,zqs (by omega),zqs (fI (by omega))]
 ·show zuA p (d+1) _ _ _ _ _=_
  rw[zuA,if_neg (Int.lt_irrefl _)]
theorem zCb{l:List Int}(h:l.length<=1000):zuw l=some l:=by
 unfold zuw;rw[zqs (show([]:List Int).length+l.length<=1048576 by show 0+_<=_; omega)]; rfl
theorem zCc{l:List Int}(hl:l.length<=1000):zuD l l=some true:=by
 unfold zuD;rw[if_pos rfl]
 have key:=zr1 (l:=l) (F:=zuC l l) (ok:=fun _=>True) (bad:=some false) (fin:=some true) (fun d k a ha=>by
  have hk:=(List.getElem?_eq_some_iff.1 ha).1;refine⟨fun _=>?_,fun h=>absurd trivial h⟩
  rw[zuC,if_pos (by omega),zrS ha,obs,obs,if_pos rfl,zqs (fI (by omega))]) (fun d=>by rw[zuC,if_neg (Int.lt_irrefl _)]) (d:=l.length+1) (by omega)
 exact key.1 fun _ _=>trivial
def zCd(n:Int)(rs:List Rpt):Pg:={ Losses:=[{ Lo:=100,Hi:=120 },{ Lo:=300,Hi:=300 }],Reserve:=n,Treaties:=[{ Kind:=0,Part:=25,Above:=0,Most:=0,Times:=0,Price:=50,Of:=-1 },{ Kind:=1,Part:=0,Above:=50,Most:=100,Times:=0,Price:=30,Of:=-1 },{ Kind:=1,Part:=0,Above:=20,Most:=40,Times:=1,Price:=5,Of:=0 }],Reports:=rs }
def zCe:List Rpt:=[{ Treaty:=0,Paid:={ Lo:=103,Hi:=110 } },{ Treaty:=2,Paid:={ Lo:=45,Hi:=46 } }]
theorem zCf(rs:List Rpt):zuG rs=some (zCd 200 rs):=rfl
theorem zCg:zuH=some zCe:=rfl
theorem zCh(n:Int):zuI n=some (zCd n []):=rfl
theorem zCi{a b hi:Int}(h1:0<=a)(h2:a<=b)(h3:b<=hi):RgV { Lo:=a,Hi:=b } hi:=⟨h1,h2,h3⟩
theorem zCj{n:Int}{rs:List Rpt}(hn:0<=n/\n<=10000)(hr:rs.length<=5)(hrs:∀r∈rs,(0<=r.Treaty/\r.Treaty<=2)/\RgV r.Paid 10000):VP (zCd n rs):=by
 refine { ls:=fun r hr=>?_,res:=hn,ts:=fun t ht=>?_,of':=fun i t ht=>?_,rs:=fun r hr=>?_,l4:=by show 2<=4; omega,t5:=by show 3<=5; omega,r5:=hr,many:=by show zyn [{ Lo:=100,Hi:=120 },{ Lo:=300,Hi:=300 }]<=1500; decide }
 ·rcases List.mem_cons.1 hr with rfl | hr
  ·exact zCi (by omega) (by omega) (by omega)
  rcases List.mem_cons.1 hr with rfl | hr
  ·exact zCi (by omega) (by omega) (by omega)
  ·cases hr
 ·rcases List.mem_cons.1 ht with rfl | ht
  ·exact⟨by unfold zgo; decide,by decide,by decide⟩
  rcases List.mem_cons.1 ht with rfl | ht
  ·exact⟨by unfold zgo; decide,by decide,by decide⟩
  rcases List.mem_cons.1 ht with rfl | ht
  ·exact⟨by unfold zgo; decide,by decide,by decide⟩
  ·cases ht
 ·match i,ht with
  | 0,ht=>cases ht; exact⟨by decide,by decide⟩
  | 1,ht=>cases ht; exact⟨by decide,by decide⟩
  | 2,ht=>cases ht; exact⟨by decide,by decide⟩
  | k+3,ht=>cases ht
 ·exact⟨(hrs r hr).1,(hrs r hr).2⟩
theorem vp3(n:Int)(hn:0<=n/\n<=10000):VP (zCd n []):=zCj hn (by show 0<=5; omega) fun r hr=>by cases hr
theorem zCk:VP (zCd 200 zCe):=zCj (by omega) (by show 2<=5; omega) fun r hr=>by
 rcases List.mem_cons.1 hr with rfl | hr
 ·exact⟨⟨by decide,by decide⟩,zCi (by omega) (by omega) (by omega)⟩
 rcases List.mem_cons.1 hr with rfl | hr
 ·exact⟨⟨by decide,by decide⟩,zCi (by omega) (by omega) (by omega)⟩
 ·cases hr
theorem zCl{p:Pg}(h:VP p){D:List Int}(hD:Inc p.Treaties.length 0 D):∃b,b < 2 ^ p.Treaties.length/\zxP b=D:=zx8 (by have:=h.t5; omega) hD
theorem zCm:zke (zCd 200 []) [1]:=⟨List.pairwise_singleton _ _,fun v hv=>by
 have:=List.mem_singleton.1 hv; subst this
 exact⟨⟨by decide,by decide⟩,by decide +kernel⟩⟩
theorem zCn:zBU (zCd 300 []) [0,1]:=by
 have hs:zke (zCd 300 []) [0,1]:=⟨by simp,fun v hv=>by
  rcases List.mem_cons.1 hv with rfl | hv
  ·exact⟨⟨by decide,by decide⟩,by decide +kernel⟩
  ·have:=List.mem_singleton.1 hv; subst this
   exact⟨⟨by decide,by decide⟩,by decide +kernel⟩⟩
 refine⟨⟨hs,by decide +kernel⟩,fun D hD=>?_⟩;obtain⟨b,hb,rfl⟩:=zCl (vp3 300 (by omega)) hD.1.inc;have hb:b < 8:=hb
 have:b=0\/b=1\/b=2\/b=3\/b=4\/b=5\/b=6\/b=7:=by omega
 rcases this with rfl | rfl | rfl | rfl | rfl | rfl | rfl | rfl
 ·exact absurd hD.2 (by decide +kernel)
 ·exact absurd hD.2 (by decide +kernel)
 ·exact absurd hD.2 (by decide +kernel)
 ·have e:zxP 3=[0,1]:=by decide +kernel
  rw[e]; exact .inr ⟨rfl,.inl rfl⟩
 ·exact absurd (hD.1.2 2 (by decide +kernel)).2 (by decide +kernel)
 ·exact absurd (hD.1.2 2 (by decide +kernel)).2 (by decide +kernel)
 ·exact absurd (hD.1.2 2 (by decide +kernel)).2 (by decide +kernel)
 ·exact absurd (hD.1.2 2 (by decide +kernel)).2 (by decide +kernel)
def okT(L:List Int):Bool:=decide (103<=(zzb (zCd 200 zCe).Treaties L).pays 0/\(zzb (zCd 200 zCe).Treaties L).pays 0<=110) && decide (45<=(zzb (zCd 200 zCe).Treaties L).pays 2/\(zzb (zCd 200 zCe).Treaties L).pays 2<=46)
theorem zCo:(zBG (zCd 200 zCe)).all (fun L=>!okT L)=true:=by decide +kernel
theorem zCp:¬ zzT (zCd 200 zCe) zCe:=by
 rintro⟨L,hL,hA⟩
 have h1:=hA _ (List.mem_cons_self ..);have h2:=hA _ (List.mem_cons_of_mem _ (List.mem_cons_self ..));have h3:=List.all_eq_true.1 zCo L ((zBH zCk).2 hL)
 have h4:okT L=true:=by
  unfold okT;rw[Bool.and_eq_true_iff];exact⟨decide_eq_true h1,decide_eq_true h2⟩
 rw[h4] at h3; cases h3
theorem fp0:FP (zCd 200 zCe) 0:=⟨[112,300],⟨⟨by decide,by decide⟩,⟨by decide,by decide⟩,trivial⟩,fun r hr=>by
 have hr:r∈[({ Treaty:=0,Paid:={ Lo:=103,Hi:=110 } }:Rpt)]:=hr;have:=List.mem_singleton.1 hr; subst this
 exact(by decide +kernel:(103:Int)<=(zzb (zCd 200 zCe).Treaties [112,300]).pays 0/\(zzb (zCd 200 zCe).Treaties [112,300]).pays 0<=110)⟩
theorem zCq:zut (zCd 200 zCe)=some (1,0):=by
 rcases zBe zCk with ⟨j,a1,a2,a3,a4⟩ | ⟨a1,a2⟩
 ·have:j=1:=zBf (p:=zCd 200 zCe) a2 a3 (j':=1) zCp fun i hi=>by
   rw[show i=0 by omega]; exact fp0
  subst this; exact a4
 ·exact absurd (a1 1 (by show 1 < 2; omega)) zCp
theorem zCr:zuv (zCd 200 zCe)=some ([0],0):=by
 obtain⟨M,q1,q2⟩:=zBc zCk
 have hm:zAE 2 (PL (zCd 200 zCe)) [0]:=by
  refine⟨⟨List.pairwise_singleton _ _,fun v hv=>by have:=List.mem_singleton.1 hv; subst this; exact⟨by decide,by decide⟩⟩,⟨[100,300],⟨⟨by decide,by decide⟩,⟨by decide,by decide⟩,trivial⟩,fun j hj hs=>?_⟩,fun D hD hP=>?_⟩
  ·have hj:j < 2:=hj
   have:j=0\/j=1:=by omega
   rcases this with rfl | rfl
   ·exact absurd hs (by decide +kernel)
   ·refine(zAQ (p:=zCd 200 zCe) (j:=1) rfl).2 ?_;exact(by decide +kernel:(45:Int)<=(zzb (zCd 200 zCe).Treaties [100,300]).pays 2/\(zzb (zCd 200 zCe).Treaties [100,300]).pays 2<=46)
  ·obtain⟨b,hb,rfl⟩:=zx8 (n:=2) (by omega) hD;have hb:b < 4:=hb
   have:b=0\/b=1\/b=2\/b=3:=by omega
   rcases this with rfl | rfl | rfl | rfl
   ·refine absurd (zAV.2 ((PL.congr fun j hj=>?_).1 hP)) zCp;have hj:j < 2:=hj
    have:j=0\/j=1:=by omega
    rcases this with rfl | rfl <;> decide +kernel
   ·exact .inl (by decide +kernel)
   ·exact .inr (by decide +kernel)
   ·exact .inr (by decide +kernel)
 rw[q2.uniq hm] at q1;exact q1
theorem zCs:zzT (zCd 200 []) (zCd 200 []).Reports:=⟨[100,300],⟨⟨by decide,by decide⟩,⟨by decide,by decide⟩,trivial⟩,fun r hr=>by cases hr⟩
theorem zCt:zt6 (zCd 200 []) [100,300]=some ([100,100,45],200,0):=by
 rw[zz9 (vp3 200 (by omega)) (L:=[100,300]) ⟨⟨by decide,by decide⟩,⟨by decide,by decide⟩,trivial⟩]
 have e1:lN (zCd 200 []).Treaties.length (zzb (zCd 200 []).Treaties [100,300]).pays=[100,100,45]:=by decide +kernel
 have e2:(zzb (zCd 200 []).Treaties [100,300]).soc=200:=by decide +kernel
 rw[e1,e2]
theorem zCu{r:Rg}{a b:Int}(h1:r.Lo=a)(h2:r.Hi=b):r={ Lo:=a,Hi:=b }:=by cases r; subst h1; subst h2; rfl
theorem zCv:zug (zCd 200 [])=some (bsN 3 (bdF (zCd 200 []) (trL (zCd 200 []))),0):=by
 have h:=vp3 200 (by omega);obtain⟨bs,q1,q2⟩:=zAc h zCs;rw[q1,q2.uniq (zA1 h zCs).1]; rfl
theorem bd0:bdF (zCd 200 []) (trL (zCd 200 [])) 0={ Pays:={ Lo:=100,Hi:=105 },Keeps:={ Lo:=55,Hi:=55 } }:=by
 have e1:=zCu (r:=(bdF (zCd 200 []) (trL (zCd 200 [])) 0).Pays) (a:=100) (b:=105) (by decide +kernel) (by decide +kernel);have e2:=zCu (r:=(bdF (zCd 200 []) (trL (zCd 200 [])) 0).Keeps) (a:=55) (b:=55) (by decide +kernel) (by decide +kernel);generalize bdF (zCd 200 []) (trL (zCd 200 [])) 0=b at e1 e2
 cases b; simp only at e1 e2; rw[e1,e2]
theorem bd2:bdF (zCd 200 []) (trL (zCd 200 [])) 2={ Pays:={ Lo:=45,Hi:=50 },Keeps:={ Lo:=45,Hi:=50 } }:=by
 have e1:=zCu (r:=(bdF (zCd 200 []) (trL (zCd 200 [])) 2).Pays) (a:=45) (b:=50) (by decide +kernel) (by decide +kernel);have e2:=zCu (r:=(bdF (zCd 200 []) (trL (zCd 200 [])) 2).Keeps) (a:=45) (b:=50) (by decide +kernel) (by decide +kernel);generalize bdF (zCd 200 []) (trL (zCd 200 [])) 2=b at e1 e2
 cases b; simp only at e1 e2; rw[e1,e2]
theorem zCw:zuh (zCd 200 [])=some ({ Lo:=200,Hi:=215 },0):=by
 have h:=vp3 200 (by omega);obtain⟨r,q1,q2⟩:=zAd h zCs;rw[q1,q2.uniq (zA1 h zCs).2,zCu (r:=wdL (fun L=>(zzb (zCd 200 []).Treaties L).soc) (trL (zCd 200 []))) (a:=200) (b:=215) (by decide +kernel) (by decide +kernel)]
theorem zCx:zuk (zCd 200 []) [1]=some ({ Lo:=300,Hi:=320 },0):=by
 rw[zBO (vp3 200 (by omega)) (by unfold zr2; decide) zCm,zCu (r:=zBI (zCd 200 []) (inD [1])) (a:=300) (b:=320) (by decide +kernel) (by decide +kernel)]
theorem zCy:zuo (zCd 300 [])=some ([0,1],80,0):=by
 rcases zB3 (vp3 300 (by omega)) with ⟨M,q1,q2⟩ | ⟨_,q2⟩
 ·rw[q1,q2.uniq zCn]; rfl
 ·exact absurd zCn.good (q2 _)
theorem zCz:zup (zCd 300 []) [0,1] 80=some true:=
 (zBR (vp3 300 (by omega)) (by unfold zr2; decide)).some_of ⟨zCn.good.1,by decide +kernel,zCn.good.2⟩
theorem f64{n:Int}(h:-1000000<=n/\n<=1000000):zl7 .i64 n:=fI (by omega)
theorem zCA:zuJ=some true:=by
 have i0:idx (bsN 3 (bdF (zCd 200 []) (trL (zCd 200 [])))) 0=some { Pays:={ Lo:=100,Hi:=105 },Keeps:={ Lo:=55,Hi:=55 } }:=by
  have:=zrS (zA0 (n:=3) (f:=bdF (zCd 200 []) (trL (zCd 200 []))) (k:=0) (by omega));rw[bd0] at this; exact this
 have i2:idx (bsN 3 (bdF (zCd 200 []) (trL (zCd 200 [])))) 2=some { Pays:={ Lo:=45,Hi:=50 },Keeps:={ Lo:=45,Hi:=50 } }:=by
  have:=zrS (zA0 (n:=3) (f:=bdF (zCd 200 []) (trL (zCd 200 []))) (k:=2) (by omega));rw[bd2] at this; exact this
 have hl:((bsN 3 (bdF (zCd 200 []) (trL (zCd 200 [])))).length:Int)=3:=by rw[zAZ]; rfl
 have s1:zuD [100,100,45] [100,100,45]=some true:=zCc (by decide);have s2:zuD [0,1] [0,1]=some true:=zCc (by decide);have s3:zuD [0] [0]=some true:=zCc (by decide);have f:∀n:Int,-1000000<=n/\n<=1000000->zl7 .i64 n:=fun n h=>f64 h;unfold zuJ
 simp only[zCf,zCg,zCh,obs,zCt,zCv,zCw,zCx,zCy,zCq,zCr,s1,s2,s3,if_true,hl,i0,i2,zuF]
 rw[zqs (f 100 (by omega)),zqs (f 100 (by omega)),zqs (f 105 (by omega)),zqs (f 105 (by omega)),zqs (f 55 (by omega)),zqs (f 55 (by omega)),zqs (f 55 (by omega)),zqs (f 55 (by omega)),if_pos (by decide),zqs (f 45 (by omega)),zqs (f 45 (by omega)),zqs (f 50 (by omega)),zqs (f 50 (by omega)),zqs (f 45 (by omega)),zqs (f 45 (by omega)),zqs (f 50 (by omega)),zqs (f 50 (by omega)),if_pos (by decide),zqs (f 200 (by omega)),zqs (f 200 (by omega)),zqs (f 215 (by omega)),zqs (f 215 (by omega)),if_pos (by decide),zqs (f 300 (by omega)),zqs (f 300 (by omega)),zqs (f 320 (by omega)),zqs (f 320 (by omega)),if_pos (by decide)]
 simp only[zCz,obs,if_true]
theorem aw:((zuJ).bind fun r=>some r)=some true:=by rw[zCA]; rfl
theorem zCB{n a:Nat}:Nat.land a (2 ^ n - 1) < 2 ^ n:=by
 have h1:Nat.land a (2 ^ n - 1)<=2 ^ n - 1:=Nat.and_le_right;have h2:=zAG (n:=n)
 omega
theorem u8w{x:Int}(h:zl7 .u8 x):zmc .i64 x=x/\0<=x/\x < 256:=by
 have h':0<=x/\x < 256:=h;exact⟨wz (fI (by omega)),h'⟩
theorem zCC{x:Int}(h:zl7 .u16 x):zmc .i64 x=x/\0<=x/\x < 65536:=by
 have h':0<=x/\x < 65536:=h;exact⟨wz (fI (by omega)),h'⟩
def zpB(p:Pg)(n:Int):Pg:={ Losses:=p.Losses,Reserve:=n,Treaties:=p.Treaties,Reports:=p.Reports }
theorem zCD{p:Pg}(h:VP p){n:Int}(hn:0<=n/\n<=10000):VP (zpB p n):={ ls:=h.ls,res:=hn,ts:=h.ts,of':=h.of',rs:=h.rs,l4:=h.l4,t5:=h.t5,r5:=h.r5,many:=h.many }
theorem zCE{p:Pg}{n:Int}(hn:p.Reserve<=n){D:List Int}(h:zBT p D):zBT (zpB p n) D:=by
 refine⟨h.1,?_⟩;have h2:(zBI p (inD D)).Hi<=p.Reserve:=h.2
 show(zBI p (inD D)).Hi<=n
 omega
theorem zCF{p:Pg}(h:VP p){n:Int}(hn:p.Reserve<=n/\n<=10000){M:List Int}(hM:zBU p M):∃M',zuo (zpB p n)=some (M',zBn p.Treaties M',0)/\zBn p.Treaties M'<=zBn p.Treaties M:=by
 have hr:=h.res;have hv:=zCD h (n:=n) (by omega)
 rcases zB3 hv with ⟨M',a1,a2⟩ | ⟨a1,a2⟩
 ·refine⟨M',a1,?_⟩;have:=a2.min M (zCE hn.1 hM.good);have this:zBn p.Treaties M' < zBn p.Treaties M\/(zBn p.Treaties M'=zBn p.Treaties M/\(M=M'\/shB M' M=true)):=this
  rcases this with h1 | ⟨h1,_⟩ <;> omega
 ·exact absurd (zCE hn.1 hM.good) (a2 M)
theorem zCG{p:Pg}(h:VP p){b:Nat}(_hb:b < 2 ^ p.Treaties.length){n:Int}(hn:p.Reserve<=n/\n<=10000){r4665:Bool}(hr:r4665=true->zBT p (zxP b)){M:List Int}(hM:zBU p M){f g:Option Bool}(hf:f=some true)(hg:g=some true) :
  (((zuo (zpB p n)).bind fun r4957=>((zuB p).bind fun r4968=>((zuw M).bind fun r4983=>((zup r4968 r4983 (zBn p.Treaties M)).bind fun r4994=>(if r4994=true then ((zuB p).bind fun r5003=>((zuw M).bind fun r5018=>(gd (zl7 .i64 (zBn p.Treaties M - (1:Int))) ((zup r5003 r5018 (zBn p.Treaties M - (1:Int))).bind fun r5030=>(if r5030=true then (some false) else (if r4665=true then (if zBn p.Treaties M<=zBn p.Treaties (zxP b) then (if r4957.2.2=(0:Int) then (if r4957.2.1<=zBn p.Treaties M then f else (some false)) else (some false)) else (some false)) else (if r4957.2.2=(0:Int) then (if r4957.2.1<=zBn p.Treaties M then g else (some false)) else (some false)))))))) else (some false)))))))=some true:=by
 have h5:=h.t5;have hl:=hM.good.1.len;have hpb:=zBp h hM.good.1.inT;obtain⟨M',c1,c2⟩:=zCF h hn hM;have hs:zr2 M:=zr3 (n:=9) (by omega) (by omega);have e1:zup p M (zBn p.Treaties M)=some true:=(zBR h hs).some_of ⟨hM.good.1,Int.le_refl _,hM.good.2⟩
 have e2:zup p M (zBn p.Treaties M - 1)=some false:=(zBR h hs).some_not fun q=>by have:=q.2.1; omega
 have e3:zuB p=some p:=zCa h.thin;have e4:zuw M=some M:=zCb (by omega);rw[c1,obs,e3,obs,e4,obs,e1,obs,if_pos rfl,obs,obs,zqs (fI (by omega)),e2,obs,if_neg (by decide)]
 cases r4665 with
 | true=>
  have hle:zBn p.Treaties M<=zBn p.Treaties (zxP b):=by
   rcases hM.min _ (hr rfl) with h1 | ⟨h1,_⟩ <;> omega
  rw[if_pos rfl,if_pos hle]
  show(if (0:Int)=0 then (if zBn p.Treaties M'<=_ then _ else _) else _)=_
  rw[if_pos rfl,if_pos c2,hf]
 | false=>
  rw[if_neg (by decide)]
  show(if (0:Int)=0 then (if zBn p.Treaties M'<=_ then _ else _) else _)=_
  rw[if_pos rfl,if_pos c2,hg]
theorem zCH{p:Pg}{bits by_:Int}(_:zsr p)(hb:zl7 .u8 bits)(hy:zl7 .u16 by_):zuL p bits by_=some true:=by
 unfold zuL
 refine zB9.pick (fun hv=>?_) fun _=>by rw[if_neg (by decide),aw]
 have h:=hv.1;have h5:=h.t5;have hres:=h.res;have hp:=zAH (i:=p.Treaties.length) (by omega);obtain⟨w1,w2⟩:=u8w hb;obtain⟨y1,y2⟩:=zCC hy;obtain⟨t,ht1⟩:∃t:Nat,t=Nat.land bits.toNat (2 ^ p.Treaties.length - 1):=⟨_,rfl⟩
 have htl:t < 2 ^ p.Treaties.length:=by rw[ht1]; exact zCB
 have hlb:=zAD (b:=t);have hs:zr2 (zxP t):=zr3 (n:=16) hlb (by omega)
 have hy3:0<=by_ % 500/\by_ % 500 < 500:=by omega
 obtain⟨n,hn⟩:∃n,n=min 10000 (p.Reserve+by_ % 500):=⟨_,rfl⟩
 have hn2:p.Reserve<=n/\n<=10000:=by omega
 have hn3:zuB ({ Losses:=p.Losses,Reserve:=n,Treaties:=p.Treaties,Reports:=p.Reports }:Pg)=some (zpB p n):=zCa (zCD h (n:=n) (by omega)).thin
 simp only[if_true,zCa h.thin,obs,zAP h,w1,y1]
 obtain⟨r4665,e1,e2⟩:=zBR h hs (m:=9999)
 by_cases hS:zke p (zxP t)
 ·have hpb:=zBp h hS.inT;have hSl:=hS.len;have hgd:r4665=true↔zBT p (zxP t):=e2.trans ⟨fun q=>⟨hS,q.2.2⟩,fun q=>⟨hS,by omega,q.2⟩⟩
  have hdec:(r4665 == decide ((zBI p (inD (zxP t))).Hi<=p.Reserve))=true:=by
   by_cases hq:(zBI p (inD (zxP t))).Hi<=p.Reserve
   ·rw[decide_eq_true hq,hgd.2 ⟨hS,hq⟩]; rfl
   ·have:r4665=false:=by cases r4665 with
     | false=>rfl
     | true=>exact absurd (hgd.1 rfl).2 hq
    rw[decide_eq_false hq,this]; rfl
  rcases zB3 h with ⟨M,a1,a2⟩ | ⟨a1,a2⟩
  ·rw[a1,obs,zqs w2.1,zqs (by omega),zqs (fI (by omega)),zqs (fI (by omega)),Int.toNat_natCast,<- ht1,zqs (fI (by omega)),zAz (by omega),obs,zCb (by omega),obs,e1,obs,obs,zBO h hs hS,obs]
   show(if (0:Int)=0 then (if (r4665 == decide ((zBI p (inD (zxP t))).Hi<=p.Reserve))=true then (if (0:Int)=0 then _ else _) else _) else _)=_
   rw[if_pos rfl,if_pos hdec,if_pos rfl,zqs w2.1,zqs (by omega),zqs (fI (by omega)),zqs (fI (by omega)),zqs (fI (by omega)),zB5 h htl,obs,zqs y2.1,zqs (by omega),zqs (fI (by omega)),zqs (fI (by omega)),<- hn,hn3,obs];have:=zCG h htl hn2 hgd.1 a2 aw aw;rw[zCa h.thin] at this;exact this
  ·rw[a1,obs,zqs w2.1,zqs (by omega),zqs (fI (by omega)),zqs (fI (by omega)),Int.toNat_natCast,<- ht1,zqs (fI (by omega)),zAz (by omega),obs,zCb (by omega),obs,e1,obs,obs,zBO h hs hS,obs]
   show(if (0:Int)=0 then (if (r4665 == decide ((zBI p (inD (zxP t))).Hi<=p.Reserve))=true then (if (10:Int)=0 then _ else (if (10:Int)=10 then (if r4665=true then _ else _) else _)) else _) else _)=_
   rw[if_pos rfl,if_pos hdec,if_neg (by decide),if_pos rfl,if_neg fun q=>a2 _ (hgd.1 q),aw]
 ·have hff:r4665=false:=by cases r4665 with
   | false=>rfl
   | true=>exact absurd (e2.1 rfl).1 hS
  subst hff
  rcases zB3 h with ⟨M,a1,a2⟩ | ⟨a1,a2⟩
  ·rw[a1,obs,zqs w2.1,zqs (by omega),zqs (fI (by omega)),zqs (fI (by omega)),Int.toNat_natCast,<- ht1,zqs (fI (by omega)),zAz (by omega),obs,zCb (by omega),obs,e1,obs,obs,zBP h hs hS,obs]
   show(if (2:Int)=0 then _ else (if (2:Int)=2 then (if (false == false)=true then (if (0:Int)=0 then _ else _) else _) else _))=_
   rw[if_neg (by decide),if_pos rfl,if_pos (show(false == false)=true from rfl),if_pos rfl,zqs w2.1,zqs (by omega),zqs (fI (by omega)),zqs (fI (by omega)),zqs (fI (by omega)),zB5 h htl,obs,zqs y2.1,zqs (by omega),zqs (fI (by omega)),zqs (fI (by omega)),<- hn,hn3,obs];have:=zCG h htl hn2 (r4665:=false) (fun q=>by cases q) a2 aw aw;rw[zCa h.thin] at this;exact this
  ·rw[a1,obs,zqs w2.1,zqs (by omega),zqs (fI (by omega)),zqs (fI (by omega)),Int.toNat_natCast,<- ht1,zqs (fI (by omega)),zAz (by omega),obs,zCb (by omega),obs,e1,obs,obs,zBP h hs hS,obs]
   show(if (2:Int)=0 then _ else (if (2:Int)=2 then (if (false == false)=true then (if (10:Int)=0 then _ else (if (10:Int)=10 then (if false=true then _ else _) else _)) else _) else _))=_
   rw[if_neg (by decide),if_pos rfl,if_pos (show(false == false)=true from rfl),if_neg (by decide),if_pos rfl,if_neg (by decide),aw]
end
end Go.Proofs.YtkcmdghjgoaggaaGreat

namespace Go.Proofs.YtkcmdghjgoaggaaGreat
open _root_.Go.Proofs.Tryz
open Go.ChangeShapes Go.WideShapes Go.ChangeAt Go.RowKit Go.Abs
set_option maxRecDepth 100000
theorem op3:zsb prog 3 Int (zl7 .i64):=zsc (by kernel_rfl)
theorem zCI:zsb prog 55 Rg zsl:=zsj (fs:=[(3,0),(3,1)]) (by kernel_rfl) (by kernel_rfl) (zsi (α:=Int) (ok:=zl7 .i64) (k:=1) op3 (by kernel_rfl) rfl (zsi (α:=Int) (ok:=zl7 .i64) (k:=1) op3 (by kernel_rfl) rfl zsh)) (by kernel_rfl) fun m vs h=>by
 obtain⟨a0,c0,r0,m0,h0,p0,k0,s0,⟨a1,c1,r1,m1,h1,p1,k1,s1,rfl⟩⟩:=h;have p0:c0=[.int .i64 a0]:=p0; subst p0;have p1:c1=[.int .i64 a1]:=p1; subst p1;subst h1 h0;exact⟨⟨a0,a1⟩,rfl,⟨k0,k1⟩⟩
theorem zCJ:zsb prog 22 (List Rg) (fun l=>l.length<=maxLen/\∀a0∈l,zsl a0):=zse (by kernel_rfl) (by kernel_rfl) zCI
theorem zCK:zsb prog 87 Ty zsn:=zsj (fs:=[(3,0),(3,1),(3,2),(3,3),(3,4),(3,5),(3,6)]) (by kernel_rfl) (by kernel_rfl) (zsi (α:=Int) (ok:=zl7 .i64) (k:=1) op3 (by kernel_rfl) rfl (zsi (α:=Int) (ok:=zl7 .i64) (k:=1) op3 (by kernel_rfl) rfl (zsi (α:=Int) (ok:=zl7 .i64) (k:=1) op3 (by kernel_rfl) rfl (zsi (α:=Int) (ok:=zl7 .i64) (k:=1) op3 (by kernel_rfl) rfl (zsi (α:=Int) (ok:=zl7 .i64) (k:=1) op3 (by kernel_rfl) rfl (zsi (α:=Int) (ok:=zl7 .i64) (k:=1) op3 (by kernel_rfl) rfl (zsi (α:=Int) (ok:=zl7 .i64) (k:=1) op3 (by kernel_rfl) rfl zsh))))))) (by kernel_rfl) fun m vs h=>by
 obtain⟨a0,c0,r0,m0,h0,p0,k0,s0,⟨a1,c1,r1,m1,h1,p1,k1,s1,⟨a2,c2,r2,m2,h2,p2,k2,s2,⟨a3,c3,r3,m3,h3,p3,k3,s3,⟨a4,c4,r4,m4,h4,p4,k4,s4,⟨a5,c5,r5,m5,h5,p5,k5,s5,⟨a6,c6,r6,m6,h6,p6,k6,s6,rfl⟩⟩⟩⟩⟩⟩⟩:=h;have p0:c0=[.int .i64 a0]:=p0; subst p0;have p1:c1=[.int .i64 a1]:=p1; subst p1;have p2:c2=[.int .i64 a2]:=p2; subst p2;have p3:c3=[.int .i64 a3]:=p3; subst p3;have p4:c4=[.int .i64 a4]:=p4; subst p4;have p5:c5=[.int .i64 a5]:=p5; subst p5;have p6:c6=[.int .i64 a6]:=p6; subst p6;subst h6 h5 h4 h3 h2 h1 h0;exact⟨⟨a0,a1,a2,a3,a4,a5,a6⟩,rfl,⟨k0,k1,k2,k3,k4,k5,k6⟩⟩
theorem zCL:zsb prog 23 (List Ty) (fun l=>l.length<=maxLen/\∀a0∈l,zsn a0):=zse (by kernel_rfl) (by kernel_rfl) zCK
theorem zCM:zsb prog 96 Rpt zsp:=zsj (fs:=[(3,0),(55,1)]) (by kernel_rfl) (by kernel_rfl) (zsi (α:=Int) (ok:=zl7 .i64) (k:=1) op3 (by kernel_rfl) rfl (zsi (α:=Rg) (ok:=zsl) (k:=2) zCI (by kernel_rfl) rfl zsh)) (by kernel_rfl) fun m vs h=>by
 obtain⟨a0,c0,r0,m0,h0,p0,k0,s0,⟨a1,c1,r1,m1,h1,p1,k1,s1,rfl⟩⟩:=h;have p0:c0=[.int .i64 a0]:=p0; subst p0;have p1:c1=[.int .i64 a1.Lo,.int .i64 a1.Hi]:=p1; subst p1;subst h1 h0;exact⟨⟨a0,a1⟩,rfl,⟨k0,k1⟩⟩
theorem zCN:zsb prog 24 (List Rpt) (fun l=>l.length<=maxLen/\∀a0∈l,zsp a0):=zse (by kernel_rfl) (by kernel_rfl) zCM
theorem zCO:zsb prog 26 Pg zsr:=zsj (fs:=[(22,0),(3,1),(23,2),(24,3)]) (by kernel_rfl) (by kernel_rfl) (zsi (α:=List Rg) (ok:=(fun l=>l.length<=maxLen/\∀a0∈l,zsl a0)) (k:=1) zCJ (by kernel_rfl) rfl (zsi (α:=Int) (ok:=zl7 .i64) (k:=1) op3 (by kernel_rfl) rfl (zsi (α:=List Ty) (ok:=(fun l=>l.length<=maxLen/\∀a0∈l,zsn a0)) (k:=1) zCL (by kernel_rfl) rfl (zsi (α:=List Rpt) (ok:=(fun l=>l.length<=maxLen/\∀a0∈l,zsp a0)) (k:=1) zCN (by kernel_rfl) rfl zsh)))) (by kernel_rfl) fun m vs h=>by
 obtain⟨a0,c0,r0,m0,h0,p0,k0,s0,⟨a1,c1,r1,m1,h1,p1,k1,s1,⟨a2,c2,r2,m2,h2,p2,k2,s2,⟨a3,c3,r3,m3,h3,p3,k3,s3,rfl⟩⟩⟩⟩:=h;obtain⟨d0,rfl,p0⟩:=p0;have p1:c1=[.int .i64 a1]:=p1; subst p1;obtain⟨d2,rfl,p2⟩:=p2;obtain⟨d3,rfl,p3⟩:=p3;subst h3 h2 h1 h0;exact⟨⟨a0,a1,a2,a3⟩,⟨_,_,_,rfl,p0,p2,p3⟩,⟨k0,k1,k2,k3⟩⟩
theorem zCP:laidOutB prog=true:=by kernel_rfl
theorem zCQ:ownKnob prog.godebug=none:=by kernel_rfl
theorem zCR(os:Os)(started:os.Started)(H:Type)(enc:TypeId × Value->H) :
    ReturnsInHanded {} Tryz.checked os 12 .any (Rows.treatyNoCheaperSpec.pre6 enc Tryz.prog Tryz.f12 Rows.treatyNoCheaperRow.domain false) (Rows.treatyNoCheaperSpec.post enc Tryz.prog Tryz.f12 false true false false):=by
  refine returnsInHanded_of_change (C:=Tryz.checked) zCQ started (by kernel_rfl) Tryz.func12
    (ChangeSpec.witness6 (enc:=enc) (C:=Tryz.checked) false ⟨#[],#[.agg #[.slice none 0 0,.int .i64 0,.slice none 0 0,.slice none 0 0],.int .u8 0,.int .u16 0],[]⟩ 8 (by kernel_rfl) (by kernel_rfl) (by kernel_rfl) (by kernel_rfl)) ?_
  intro W base args ds gs before hval0 hW hcnd _;have hval:∀(j:Nat) t v,Tryz.f12.params[j]? = some t->args[j]? = some v->Value.okWide Tryz.prog W .any base t v:=hval0;have hW':=hW;obtain⟨p,q,hA0,hV,rfl,hfz,hnd⟩:=hW;have hA:DataW.TrodAll enc Tryz.prog W 0 (fun _=>true) true Tryz.f12.params.toList args.toList ds p:=hA0;rw[Tryz.params12] at hA hval;obtain⟨v0,v1,v2,d0,d1,d2,p0,p1,p2,rfl,rfl,rfl,h0,h1,h2⟩:=trodAll_three hA;obtain⟨rfl,rfl⟩:=trodVars_none hV;obtain⟨n1,hv1⟩:=okWide_int Tryz.underlying5 (hval 1 5 v1 rfl rfl);obtain⟨n2,hv2⟩:=okWide_int Tryz.underlying82 (hval 2 82 v2 rfl rfl)
  have hlt:∀x∈p0++p1++p2,x.block < W.heap.size:=fun x hx=>by simpa using hW'.lt x (by simpa using hx)
  obtain⟨fu0,hf0⟩:=id h0;obtain⟨fu1,hf1⟩:=id h1;obtain⟨fu2,hf2⟩:=id h2
  clear hA0 hval0
  obtain⟨e0,m0,w0,a_0,le0,sv0,lay0,cr0,zwD,ok0⟩:=zCO H enc W true _ _ _ hf0 _ _ (Lay.nil W);obtain⟨i1,hc1,_,hw1⟩:=DataW.trod_int Tryz.underlying5 hf1;obtain⟨i2,hc2,_,hw2⟩:=DataW.trod_int Tryz.underlying82 hf2;obtain⟨c0_0,c0_2,c0_3,rfl,g0_0,g0_2,g0_3⟩:=zwD
  obtain⟨cs0,hv0,cl0⟩:∃cs,v0=.agg cs/\v0.cells.toList=cs.toList:=by
    have hl:=cr0.length
    cases v0 with
    | agg cs=>exact⟨cs,rfl,rfl⟩
    | _=>exact absurd hl (by simp[Value.cells])
  subst hv0;subst hv1
  have hi1:i1=n1:=by
    have h:[Value.int .u8 n1]=[.int .u8 i1]:=hc1
    cases h; rfl
  subst hi1;subst hv2
  have hi2:i2=n2:=by
    have h:[Value.int .u16 n2]=[.int .u16 i2]:=hc2
    cases h; rfl
  subst hi2;have hargs:zeq (VR e0) [.agg 4 [c0_0,.int .i64 a_0.Reserve,c0_2,c0_3],.c (.int .u8 i1),.c (.int .u16 i2)] [.agg cs0,.int .u8 i1,.int .u16 i2]:=.cons ⟨cs0,rfl,cr0,rfl⟩ (.cons rfl (.cons rfl .nil));refine(callsIn_wide.1 (zqC fits htab (zxK (p:=a_0) (bits:=i1) (by_:=i2) lay0.pre g0_0 g0_2 g0_3 (zCH ok0 (zqA hw1) (zqA hw2)) (Q:=fun v _=>v=.c (.bool true)) fun _ _=>rfl) lay0.hr (args':=#[.agg cs0,.int .u8 i1,.int .u16 i2]) hargs 0)).mono fun en W' hp=>?_;obtain⟨v,v',e',m',rfl,hst,hvr,rfl⟩:=hp;have hv':v'=.bool true:=hvr;subst hv';have hbelow:=lay0.below hst
  refine⟨_,rfl,[d0,d1,d2],[],p0++p1++p2,[],p0++(p1++p2),[],by simpa using hW',trodAll_mk1 (shut_bool Tryz.underlying4 _),
    trodAll_mk3 (Below.trod zCP (by kernel_rfl) (of_decide_eq_true (by kernel_rfl)) h0 hbelow fun x hx=>hlt x (by simp[hx])) (Below.trod zCP (by kernel_rfl) (of_decide_eq_true (by kernel_rfl)) h1 hbelow fun x hx=>hlt x (by simp[hx])) (Below.trod zCP (by kernel_rfl) (of_decide_eq_true (by kernel_rfl)) h2 hbelow fun x hx=>hlt x (by simp[hx])),rfl,lay0.kept hst _,fun hc=>by cases hc⟩
theorem TreatyNoCheaper_holds:Rows.TreatyNoCheaperSaid:=
 OpenClaim.holds_of_wide 12 Tryz.f12 rfl rfl rfl rfl rfl rfl rfl ⟨rfl,rfl,rfl,rfl,rfl⟩ rfl rfl rfl rfl rfl (by kernel_rfl) Tryz.func12 (by kernel_rfl)
  (of_decide_eq_true (by kernel_rfl)) (by unfold Func.isWrapper; first | (rw[if_pos (by decide +kernel)]; kernel_rfl) | (rw[if_neg (by decide +kernel)]; exact⟨rfl,rfl⟩))
  (fun os started H enc _=>zCR os started H enc)
end Go.Proofs.YtkcmdghjgoaggaaGreat

