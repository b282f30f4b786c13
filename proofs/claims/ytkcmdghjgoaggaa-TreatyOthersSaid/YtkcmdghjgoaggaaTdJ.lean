/- TreatyOthers, for all that it can be called with, returns true. Condition: none. -/
import Derived.Test.YtkcmdghjgoaggaaTdI
import GoSem.Step
import GoSem.ClaimKeys
import Derived.DeepKeys2
import Derived.RangeFuncLeaves
import Derived.OrdersIn
import Derived.Laws.World
import Derived.Laws.Sem
import Derived.RangeFuncRecord
import Derived.Laws.CopyRow
import Derived.Laws.Append
import Derived.Laws.Rows
import Derived.Laws.Slices
import Derived.Laws.Entries
import Derived.ChangeKeysEq
import Derived.IntWalk
import Derived.DeepKeys
import Derived.DeepKeys3
import Derived.Laws.StructEq
import Derived.MapKept
import Derived.Laws.AppendOwn
import Derived.ChangeArms
import Derived.ChangeOld
import Derived.Carry
import Derived.ChangeShapes
import Derived.KernelRfl
import Derived.ProofKit
import Derived.SizedLaws
import Derived.Test.YtkcmdghjgoaggaaRows

namespace Go.Proofs.Ytkcmdghjgoaggaa
open _root_.Go.Proofs.Try
open Go.Abs
set_option maxRecDepth 100000
noncomputable section
def zy7(S:Int->Prop)(x:Int):Prop:=S x/\∀y,S y->x<=y
def zy8(S:Int->Prop)(x:Int):Prop:=S x/\∀y,S y->y<=x
theorem zy9{S:Int->Prop}{x y:Int}(h:zy7 S x)(h':zy7 S y):x=y:=Int.le_antisymm (h.2 _ h'.1) (h'.2 _ h.1)
theorem zza{S:Int->Prop}{x y:Int}(h:zy8 S x)(h':zy8 S y):x=y:=Int.le_antisymm (h'.2 _ h.1) (h.2 _ h'.1)
theorem zzb{number:Oc->Option Int}{g:Oc->Int}{ws:List Oc}{y:List P5}{K:List Int->List P5->Option Rg}(hg:∀o∈ws,number o=some (g o)){acc:List Int}(hl:acc.length+ws.length<=1048576):ztT number ws y K (ws.length+1) acc 0=K (acc++ws.map g) y:=by
 have key:=zxm (n:=ws.length) (fun d (s:List Int) x=>ztT number ws y K d s x) (fun k=>acc++(ws.take k).map g) (fin:=K (acc++ws.map g) y) (fun d k hk=>?_) (fun d=>?_) (ws.length+1) 0 (by omega) (by omega)
 ·rw[List.take_zero,List.map_nil,List.append_nil] at key; exact key
 ·have hgt:=List.getElem?_eq_getElem hk;rw[ztT,if_pos (by omega),zrS hgt,obs,hg _ (List.getElem_mem hk),obs,zqr (by rw[List.length_append,List.length_map,List.length_take]; omega),zqr (fI (by omega)),List.take_add_one,hgt,List.map_append,<- List.append_assoc]; rfl
 ·rw[ztT,if_neg (by omega),List.take_length]
def tot(p:Pg)(A:List (List Int))(ks:List P5):Nat:=(ks.map fun k=>(grp p A k).length).sum
def zzc(p:Pg)(A:List (List Int))(rs:List Rpt)(g:Oc->Int)(ks:List P5)(y:Int):Prop:=∃k∈ks,agK k rs/\∃o∈grp p A k,g o=y
theorem zzd{p:Pg}{A:List (List Int)}{w:Wk}{number:Oc->Option Int}{g:Oc->Int}{lo hi:Int}(hr:zyW w.p.Reports)(hs:zr2 w.p.Reports):∀(d:Nat) (rem:List P5) (acc:List Int),rem.length < d->acc.length+tot p A rem<=1048576->(∀k∈rem,zqK w.played k=some (grp p A k)/\∀o∈grp p A k,number o=some (g o)) ->
  zy7 (fun y=>y∈acc\/zzc p A w.p.Reports g rem y) lo->zy8 (fun y=>y∈acc\/zzc p A w.p.Reports g rem y) hi->pboundsW_L0 w number d acc rem=some { Lo:=lo,Hi:=hi }
 | 0,_,_,h,_,_,_,_=>by omega
 | d+1,rem,acc,h,hacc,hm,h1,h2=>by
  unfold pboundsW_L0;refine zrt (fun l1 a l2 hrr=>?_) fun hrr=>?_
  ·subst hrr
   have hsub:∀x,x∈l1++l2->x∈l1++a::l2:=fun x hx=>by
    rcases List.mem_append.1 hx with h | h
    ·exact List.mem_append_left _ h
    ·exact List.mem_append_right _ (List.mem_cons_of_mem _ h)
   have hspl:∀x,x∈l1++a::l2↔x=a\/x∈l1++l2:=fun x=>by simp only[List.mem_append,List.mem_cons]; constructor <;> (intro h; rcases h with h | h | h <;> simp[h])
   obtain⟨k1,k2⟩:=hm a (by simp)
   have hlen:(l1++l2).length+1=(l1++a::l2).length:=by simp only[List.length_append,List.length_cons]; omega
   have htot:tot p A (l1++a::l2)=(grp p A a).length+tot p A (l1++l2):=by unfold tot; simp only[List.map_append,List.map_cons,List.sum_append,List.sum_cons]; omega
   rw[k1,obs]
   by_cases ha:agK a w.p.Reports
   ·rw[(zy3 hr hs).some_of ha,obs,if_pos rfl,zzb k2 (by omega)]
    have hiff:(fun y=>y∈acc++(grp p A a).map g\/zzc p A w.p.Reports g (l1++l2) y)=fun y=>y∈acc\/zzc p A w.p.Reports g (l1++a::l2) y:=funext fun y=>propext ⟨fun hy=>by
     rcases hy with hy | ⟨x,hx,hx2⟩
     ·rcases List.mem_append.1 hy with hy | hy
      ·exact .inl hy
      ·obtain⟨o,ho,hoy⟩:=List.mem_map.1 hy;exact .inr ⟨a,by simp,ha,o,ho,hoy⟩
     ·exact .inr ⟨x,hsub x hx,hx2⟩,fun hy=>by
     rcases hy with hy | ⟨x,hx,hx2,o,ho,hoy⟩
     ·exact .inl (List.mem_append_left _ hy)
     ·rcases (hspl x).1 hx with rfl | hx
      ·exact .inl (List.mem_append_right _ (List.mem_map.2 ⟨o,ho,hoy⟩))
      ·exact .inr ⟨x,hx,hx2,o,ho,hoy⟩⟩
    exact zzd hr hs d (l1++l2) _ (by omega) (by rw[List.length_append,List.length_map]; omega) (fun x hx=>hm x (hsub x hx)) (by rw[hiff]; exact h1) (by rw[hiff]; exact h2)
   ·rw[(zy3 hr hs).some_not ha,obs,if_neg (by decide)]
    have hiff:(fun y=>y∈acc\/zzc p A w.p.Reports g (l1++l2) y)=fun y=>y∈acc\/zzc p A w.p.Reports g (l1++a::l2) y:=funext fun y=>propext ⟨fun hy=>hy.imp id fun⟨x,hx,hx2⟩=>⟨x,hsub x hx,hx2⟩,fun hy=>by
     rcases hy with hy | ⟨x,hx,hx2,hx3⟩
     ·exact .inl hy
     ·rcases (hspl x).1 hx with rfl | hx
      ·exact absurd hx2 ha
      ·exact .inr ⟨x,hx,hx2,hx3⟩⟩
    exact zzd hr hs d (l1++l2) acc (by omega) (by omega) (fun x hx=>hm x (hsub x hx)) (by rw[hiff]; exact h1) (by rw[hiff]; exact h2)
  ·subst hrr;have hno:∀y,(y∈acc\/zzc p A w.p.Reports g [] y)↔y∈acc:=fun y=>⟨fun h=>h.elim id (fun⟨x,hx,_⟩=>(by cases hx)),.inl⟩
   have hne:acc ≠ []:=fun he=>by have:=(hno _).1 h1.1; rw[he] at this; cases this
   have m1:=zr9 hne;have m2:=zsa hne;have e1:zr5 acc=lo:=zy9 ⟨(hno _).2 m1.1,fun y hy=>m1.2 y ((hno y).1 hy)⟩ h1;have e2:zr6 acc=hi:=zza ⟨(hno _).2 m2.1,fun y hy=>m2.2 y ((hno y).1 hy)⟩ h2;rw[zx5 hne (by omega),obs,zx6 hne (by omega),obs,e1,e2]
open Classical in
theorem zze{p:Pg}{A:List (List Int)}{ks:List P5}(h:ks.Nodup):tot p A ks<=A.length:=by
 have key:∀(ks:List P5) (B:List Oc),ks.Nodup->(ks.map fun k=>(B.filter fun o=>decide (o.pays=k)).length).sum<=B.length:=by
  intro ks
  induction ks with
  | nil=>intro B _; exact Nat.zero_le _
  | cons k ks ih=>
   intro B hn;obtain⟨h1,h2⟩:=List.nodup_cons.1 hn
   have e1:∀k'∈ks,(B.filter fun o=>decide (o.pays=k')).length=((B.filter fun o=>!decide (o.pays=k)).filter fun o=>decide (o.pays=k')).length:=fun k' hk'=>by
    rw[List.filter_filter]
    congr 1
    refine List.filter_congr fun o _=>?_
    by_cases ho:o.pays=k'
    ·have:¬ o.pays=k:=fun h3=>h1 (h3 ▸ ho ▸ hk')
     simp[ho]
     intro h3; exact h1 (h3 ▸ hk')
    ·simp[ho]
   have e2:(ks.map fun k'=>(B.filter fun o=>decide (o.pays=k')).length)=ks.map fun k'=>((B.filter fun o=>!decide (o.pays=k)).filter fun o=>decide (o.pays=k')).length:=List.map_congr_left e1
   have e3:(B.filter fun o=>decide (o.pays=k)).length+(B.filter fun o=>!decide (o.pays=k)).length=B.length:=by
    clear e1 e2 ih
    induction B with
    | nil=>rfl
    | cons o B ihB=>
     by_cases ho:o.pays=k
     ·rw[List.filter_cons_of_pos (by simp[ho]),List.filter_cons_of_neg (by simp[ho])]; simp only[List.length_cons]; omega
     ·rw[List.filter_cons_of_neg (by simp[ho]),List.filter_cons_of_pos (by simp[ho])]; simp only[List.length_cons]; omega
   rw[List.map_cons,List.sum_cons,e2];have:=ih (B.filter fun o=>!decide (o.pays=k)) h2
   omega
 have:=key ks (A.map (oc p)) h;rw[List.length_map] at this;exact this
def IsB(S:List Int->Prop)(g:List Int->Int)(r:Rg):Prop:=(∃L,S L/\g L=r.Lo)/\(∃L,S L/\g L=r.Hi)/\∀L,S L->r.Lo<=g L/\g L<=r.Hi
theorem IsB.uniq{S:List Int->Prop}{g:List Int->Int}{r r':Rg}(h:IsB S g r)(h':IsB S g r'):r=r':=by
 obtain⟨⟨a,a1,a2⟩,⟨b,b1,b2⟩,c⟩:=h;obtain⟨⟨a',a1',a2'⟩,⟨b',b1',b2'⟩,c'⟩:=h';have q1:=c a' a1'; have q2:=c b' b1'; have q3:=c' a a1; have q4:=c' b b1
 cases r; cases r'
 simp only at *
 congr 1 <;> omega
theorem IsB.congr{S S':List Int->Prop}{g g':List Int->Int}{r:Rg}(h:IsB S g r)(hS:∀L,S L↔S' L)(hg:∀L,S' L->g L=g' L):IsB S' g' r:=by
 obtain⟨⟨a,a1,a2⟩,⟨b,b1,b2⟩,c⟩:=h;exact⟨⟨a,(hS a).1 a1,by rw[<- hg a ((hS a).1 a1)]; exact a2⟩,⟨b,(hS b).1 b1,by rw[<- hg b ((hS b).1 b1)]; exact b2⟩,fun L hL=>by rw[<- hg L hL]; exact c L ((hS L).2 hL)⟩
def TrS(p:Pg)(rs:List Rpt)(L:List Int):Prop:=inL p.Losses L/\agN (zyn p.Treaties L).pays rs
open Classical in
theorem zzf{p:Pg}(h:VP p){number:Oc->Option Int}{g:Oc->Int}(hg:∀L,inL p.Losses L->number (oc p L)=some (g (oc p L)))(hc:zy5 p p.Reports):∃r,ztU (zyP p (zyH p)) number=some r/\IsB (TrS p p.Reports) (fun L=>g (oc p L)) r:=by
 have hA:∀L∈zyH p,inL p.Losses L:=fun L hL=>zyI.1 hL;have h5:=h.r5;have hs:zr2 p.Reports:=zr3 h5 (by omega);obtain⟨ks0,h0⟩:=zy0 h hA
 have hgrp:∀{k o},o∈grp p (zyH p) k->∃L,inL p.Losses L/\oc p L=o/\(oc p L).pays=k:=fun {k o} ho=>by
  obtain⟨h3,h4⟩:=List.mem_filter.1 ho;obtain⟨L,h5,rfl⟩:=List.mem_map.1 h3;exact⟨L,hA L h5,rfl,of_decide_eq_true h4⟩
 have hin:∀{L},inL p.Losses L->oc p L∈grp p (zyH p) (oc p L).pays:=fun {L} hL=>List.mem_filter.2 ⟨List.mem_map.2 ⟨L,zyI.2 hL,rfl⟩,decide_eq_true rfl⟩
 have hans:∀ks,zrm (plM p (zyH p)) ks->∀y,(y∈([]:List Int)\/zzc p (zyH p) p.Reports g ks y)↔∃L,TrS p p.Reports L/\g (oc p L)=y:=fun ks hk y=>by
  have h2:=((zyY h hA ks).1 hk).2
  constructor
  ·rintro (h3 | ⟨k,hk1,hk2,o,ho,rfl⟩)
   ·cases h3
   ·obtain⟨L,hL,rfl,hk3⟩:=hgrp ho;subst hk3;exact⟨L,⟨hL,(zy1 h.rsOk).1 hk2⟩,rfl⟩
  ·rintro⟨L,⟨hL,ha⟩,rfl⟩
   exact .inr ⟨_,(h2 _).2 ⟨L,zyI.2 hL,rfl⟩,(zy1 h.rsOk).2 ha,_,hin hL,rfl⟩
 -- the zj2 and the zj3 one
 obtain⟨vs,hvs⟩:∃vs:List Int,∀y,y∈vs↔∃L,TrS p p.Reports L/\g (oc p L)=y:=by
  classical
  refine⟨((zyH p).filter fun L=>decide (agN (zyn p.Treaties L).pays p.Reports)).map fun L=>g (oc p L),fun y=>?_⟩;rw[List.mem_map]
  constructor
  ·rintro⟨L,hL,rfl⟩
   obtain⟨h3,h4⟩:=List.mem_filter.1 hL;exact⟨L,⟨hA L h3,of_decide_eq_true h4⟩,rfl⟩
  ·rintro⟨L,⟨h3,h4⟩,rfl⟩
   exact⟨L,List.mem_filter.2 ⟨zyI.2 h3,decide_eq_true h4⟩,rfl⟩
 have hne:vs ≠ []:=fun he=>by
  obtain⟨L,hL⟩:=hc;have:=(hvs _).2 ⟨L,hL,rfl⟩
  rw[he] at this; cases this
 have m1:=zr9 hne;have m2:=zsa hne;refine⟨{ Lo:=zr5 vs,Hi:=zr6 vs },?_,(hvs _).1 m1.1,(hvs _).1 m2.1,fun L hL=>⟨m1.2 _ ((hvs _).2 ⟨L,hL,rfl⟩),m2.2 _ ((hvs _).2 ⟨L,hL,rfl⟩)⟩⟩;unfold ztU;refine zrp h0 fun ks hk=>?_;have htl:=zze (p:=p) (A:=zyH p) hk.1;have hlen:=zyJ h;refine zzd (p:=p) (A:=zyH p) (w:=zyP p (zyH p)) (g:=g) h.rsOk hs _ ks [] (by omega) (by simp only[List.length_nil]; omega) (fun k hkk=>⟨?_,fun o ho=>?_⟩) ⟨(hans ks hk _).2 ((hvs _).1 m1.1),fun y hy=>m1.2 y ((hvs _).2 ((hans ks hk _).1 hy))⟩ ⟨(hans ks hk _).2 ((hvs _).1 m2.1),fun y hy=>m2.2 y ((hvs _).2 ((hans ks hk _).1 hy))⟩
 ·have h3:=((hk.2 k).1 hkk).2;have h4:(if grp p (zyH p) k=[] then none else some (grp p (zyH p) k)) ≠ none:=h3
  show(if grp p (zyH p) k=[] then none else some (grp p (zyH p) k))=_
  by_cases h5:grp p (zyH p) k=[]
  ·rw[if_pos h5] at h4; exact absurd rfl h4
  ·rw[if_neg h5]
 ·obtain⟨L,hL,rfl,_⟩:=hgrp ho;exact hg L hL
theorem zzg{p:Pg}(h:VP p):zr2 p.Losses/\zr2 p.Treaties/\zr2 p.Reports:=⟨zr3 h.l4 (by omega),zr3 h.t5 (by omega),zr3 h.r5 (by omega)⟩
theorem zzh{p:Pg}(h:VP p):zto p=some 0:=by
 obtain⟨h1,h2,h3⟩:=zzg h;rw[zxV h1 h2 h3,zxC.2 h]
theorem zzi{p:Pg}{L:List Int}(h:VP p):Ev (ztq p L) (inL p.Losses L):=by
 have h4:=h.l4;unfold ztq
 by_cases hl:(L.length:Int)=p.Losses.length
 ·rw[if_pos hl];refine(Ev.loop (n:=p.Losses.length) (F:=fun d x=>ztp p L d x) (ok:=fun j=>∀r x,p.Losses[j]? = some r->L[j]? = some x->r.Lo<=x/\x<=r.Hi) (fin:=some true) (P:=True) (fun d k hk=>?_) (fun d=>?_) (by omega) (fun _=>Ev.tt trivial)).imp ?_
  ·have hg:=List.getElem?_eq_getElem hk;have hg2:=List.getElem?_eq_getElem (show k < L.length by omega)
   show(_->ztp p L (d+1) (k:Int)=_)/\(_->ztp p L (d+1) (k:Int)=_)
   rw[ztp,if_pos (by omega),zrS hg,obs,zrS hg2,obs];refine(zxD.imp ⟨fun h r x h1 h2=>?_,fun h=>h _ _ hg hg2⟩).step (by rw[if_pos rfl,zqr (fI (by omega))]) (by rw[if_neg (by decide)])
   rw[hg] at h1; rw[hg2] at h2; cases h1; cases h2; exact h
  ·show ztp p L (d+1) _=_
   rw[ztp,if_neg (Int.lt_irrefl _)]
  ·exact⟨fun h=>zyC (by omega) fun i r x h1 h2=>h.1 i (List.getElem?_eq_some_iff.1 h1).1 r x h1 h2,fun h=>⟨fun j _ r x h1 h2=>zyB h h1 h2,trivial⟩⟩
 ·rw[if_neg hl]; exact Ev.ff fun h=>hl (by rw[zyA h])
def lN(n:Nat)(f:Nat->Int):List Int:=(l5 f).take n
theorem zzj{n:Nat}(h:n<=5)(f:Nat->Int):(lN n f).length=n:=by unfold lN; rw[List.length_take]; show min n 5=n; omega
theorem zzk{n:Nat}(h:n<=5)(f:Nat->Int){k:Nat}(hk:k < n):(lN n f)[k]? = some (f k):=by unfold lN; rw[List.getElem?_take,if_pos hk,zxn (by omega)]
theorem zzl{p:Pg}(h:VP p){L:List Int}(hL:inL p.Losses L):ztP p L=some (lN p.Treaties.length (zyn p.Treaties L).pays,(zyn p.Treaties L).soc,0):=by
 have h4:=h.l4;have h5:=h.t5;obtain⟨M',q1,_⟩:=zyz h (zyD hL h.ls) (by rw[zyA hL]; omega) (zyw.nil p);unfold ztP;rw[zzh h,obs,if_pos rfl,(zzi h).some_of hL,obs,if_pos rfl,zxH,obs]
 show((ztG (wkP p _) L).bind _)=_
 rw[q1,obs,zqr (by omega),Int.toNat_natCast,show Int.toNat (0:Int)=0 from rfl,List.drop_zero]
 show((ztM (lN p.Treaties.length (zyn p.Treaties L).pays)).bind _)=_
 unfold ztM;rw[zqr (by rw[zzj h5]; simp only[List.length_nil]; omega)]
 rfl
theorem zzm{p:Pg}(h:VP p)(hc:zy5 p p.Reports):ztV p=some (zyP p (zyH p),0):=by
 unfold ztV;rw[zzh h,obs,if_pos rfl,zyV h,obs]
 show((ztS (zyP p (zyH p)) p.Reports).bind _)=_
 rw[(zy6 h h.rsOk (zzg h).2.2).some_of hc]; rfl
structure zzn (p:Pg) (bs:List Bd):Prop where
 len:bs.length=p.Treaties.length
 at':∀(k:Nat) (b:Bd),bs[k]? = some b->IsB (TrS p p.Reports) (fun L=>(zyn p.Treaties L).pays k) b.Pays/\IsB (TrS p p.Reports) (fun L=>(zyn p.Treaties L).keeps k) b.Keeps
theorem zzn.uniq{p:Pg}{bs bs':List Bd}(h:zzn p bs)(h':zzn p bs'):bs=bs':=by
 refine List.ext_getElem? fun k=>?_
 cases hb:bs[k]? with
 | none=>
  rw[List.getElem?_eq_none_iff] at hb;rw[List.getElem?_eq_none (by rw[h'.len,<- h.len]; exact hb)]
 | some b=>
  have hk:=(List.getElem?_eq_some_iff.1 hb).1;have hb':=List.getElem?_eq_getElem (show k < bs'.length by rw[h'.len,<- h.len]; exact hk);rw[hb'];obtain⟨q1,q2⟩:=h.at' k b hb;obtain⟨q3,q4⟩:=h'.at' k _ hb';have e1:=q1.uniq q3;have e2:=q2.uniq q4;generalize bs'[k]'(by rw[h'.len,<- h.len]; exact hk)=b' at e1 e2
  cases b; cases b'
  simp only at e1 e2
  rw[e1,e2]
theorem zzo{p:Pg}(h:VP p)(hc:zy5 p p.Reports):∃bs,ztZ p=some (bs,0)/\zzn p bs:=by
 have h5:=h.t5
 have hx:∀k:Nat,k < p.Treaties.length->∃b:Bd,(∀L,inL p.Losses L->True)/\ztU (zyP p (zyH p)) (fun a=>ztW a (k:Int))=some b.Pays/\ztU (zyP p (zyH p)) (fun a=>ztX a (k:Int))=some b.Keeps/\IsB (TrS p p.Reports) (fun L=>(zyn p.Treaties L).pays k) b.Pays/\IsB (TrS p p.Reports) (fun L=>(zyn p.Treaties L).keeps k) b.Keeps:=fun k hk=>by
  obtain⟨r1,a1,a2⟩:=zzf h (number:=fun a=>ztW a (k:Int)) (g:=fun o=>(idx ([o.pays.p0,o.pays.p1,o.pays.p2,o.pays.p3,o.pays.p4]:List Int) (k:Int)).getD 0) (fun L _=>by
   show((idx (l5 (zyn p.Treaties L).pays) (k:Int)).bind fun v=>some v)=some ((idx (l5 (zyn p.Treaties L).pays) (k:Int)).getD 0)
   rw[zxo (by omega)]; rfl) hc
  obtain⟨r2,b1,b2⟩:=zzf h (number:=fun a=>ztX a (k:Int)) (g:=fun o=>(idx ([o.keeps.p0,o.keeps.p1,o.keeps.p2,o.keeps.p3,o.keeps.p4]:List Int) (k:Int)).getD 0) (fun L _=>by
   show((idx (l5 (zyn p.Treaties L).keeps) (k:Int)).bind fun v=>some v)=some ((idx (l5 (zyn p.Treaties L).keeps) (k:Int)).getD 0)
   rw[zxo (by omega)]; rfl) hc
  refine⟨⟨r1,r2⟩,fun _ _=>trivial,a1,b1,a2.congr (fun _=>Iff.rfl) fun L _=>?_,b2.congr (fun _=>Iff.rfl) fun L _=>?_⟩
  ·show(idx (l5 (zyn p.Treaties L).pays) (k:Int)).getD 0=_
   rw[zxo (by omega)]; rfl
  ·show(idx (l5 (zyn p.Treaties L).keeps) (k:Int)).getD 0=_
   rw[zxo (by omega)]; rfl
 unfold ztZ;rw[zzm h hc,obs,if_pos rfl]
 have key:∀(d k:Nat) (acc:List Bd),k<=p.Treaties.length->p.Treaties.length - k < d->acc.length=k->(∀(j:Nat) (b:Bd),acc[j]? = some b->IsB (TrS p p.Reports) (fun L=>(zyn p.Treaties L).pays j) b.Pays/\IsB (TrS p p.Reports) (fun L=>(zyn p.Treaties L).keeps j) b.Keeps) ->
   ∃bs,ztY p (zyP p (zyH p),0) d acc (k:Int)=some (bs,0)/\zzn p bs:=by
  intro d
  induction d with
  | zero=>intro k acc _ h _ _; omega
  | succ d ih=>
   intro k acc hk hd hl hacc;rw[ztY]
   by_cases hkl:k < p.Treaties.length
   ·obtain⟨b,_,b1,b2,b3,b4⟩:=hx k hkl;rw[if_pos (by omega)]
    show ∃bs,((ztU (zyP p (zyH p)) fun a=>ztW a (k:Int)).bind _)=_/\_
    rw[b1,obs]
    show ∃bs,((ztU (zyP p (zyH p)) fun a=>ztX a (k:Int)).bind _)=_/\_
    rw[b2,obs,zqr (by omega),zqr (fI (by omega)),show(k:Int)+1=((k+1:Nat):Int) by omega];refine ih (k+1) _ (by omega) (by omega) (by rw[List.length_append,hl]; rfl) fun j b' hb'=>?_
    by_cases hj:j < acc.length
    ·rw[List.getElem?_append_left hj] at hb'; exact hacc j b' hb'
    ·rw[List.getElem?_append_right (by omega)] at hb'
     have hj2:j=k:=by
      have:=(List.getElem?_eq_some_iff.1 hb').1
      simp only[List.length_cons,List.length_nil] at this
      omega
     subst hj2;rw[show j - acc.length=0 by omega] at hb'
     cases hb'
     exact⟨b3,b4⟩
   ·rw[if_neg (by omega)];exact⟨acc,rfl,by omega,hacc⟩
 exact key (p.Treaties.length+1) 0 [] (Nat.zero_le _) (by omega) rfl fun j b hb=>by cases hb
theorem zzp{p:Pg}(h:VP p)(hc:zy5 p p.Reports):∃r,zt0 p=some (r,0)/\IsB (TrS p p.Reports) (fun L=>(zyn p.Treaties L).soc) r:=by
 obtain⟨r,a1,a2⟩:=zzf h (number:=fun a=>ztz a) (g:=fun o=>o.society) (fun L _=>rfl) hc;refine⟨r,?_,a2⟩;unfold zt0;rw[zzm h hc,obs,if_pos rfl]
 show((ztU (zyP p (zyH p)) fun a=>ztz a).bind _)=_
 rw[a1]; rfl
end
end Go.Proofs.Ytkcmdghjgoaggaa

namespace Go.Proofs.Ytkcmdghjgoaggaa
open _root_.Go.Proofs.Try
open Go.Abs
set_option maxRecDepth 100000
noncomputable section
theorem zzq{n:Nat}(h:n<=5)(f:Nat->Int){k:Nat}(hk:k < n):idx (lN n f) (k:Int)=some (f k):=zrS (zzk h f hk)
def a1(ts:List Ty)(th:Nat->Bool)(P:Nat->Int)(x:Int):Nat->(Nat->Int) × Int
 | 0=>(fun _=>0,x)
 | k+1=>match ts[k]? with
  | some t=>if t.Of < 0/\th k=true then (upF (a1 ts th P x k).1 k (zx8 t (a1 ts th P x k).2 (P k)),(a1 ts th P x k).2 - zx8 t (a1 ts th P x k).2 (P k)) else a1 ts th P x k
  | none=>a1 ts th P x k
theorem zzr{ts:List Ty}{th:Nat->Bool}{P:Nat->Int}{x:Int}{k:Nat}{t:Ty}(h:ts[k]? = some t):a1 ts th P x (k+1)=if t.Of < 0/\th k=true then (upF (a1 ts th P x k).1 k (zx8 t (a1 ts th P x k).2 (P k)),(a1 ts th P x k).2 - zx8 t (a1 ts th P x k).2 (P k)) else a1 ts th P x k:=by
 show(match ts[k]? with | some t=>_ | none=>_)=_
 rw[h]
def a2(ts:List Ty)(P:Nat->Int)(now:Nat->Int):Nat->(Nat->Int) × (Nat->Int)
 | 0=>(now,now)
 | k+1=>match ts[k]? with
  | some t=>if 0<=t.Of then (upF (a2 ts P now k).1 k (zx8 t ((a2 ts P now k).2 t.Of.toNat) (P k)),upF (upF (a2 ts P now k).2 k (zx8 t ((a2 ts P now k).2 t.Of.toNat) (P k))) t.Of.toNat ((a2 ts P now k).2 t.Of.toNat - zx8 t ((a2 ts P now k).2 t.Of.toNat) (P k))) else a2 ts P now k
  | none=>a2 ts P now k
theorem zzs{ts:List Ty}{P now:Nat->Int}{k:Nat}{t:Ty}(h:ts[k]? = some t):a2 ts P now (k+1)=if 0<=t.Of then (upF (a2 ts P now k).1 k (zx8 t ((a2 ts P now k).2 t.Of.toNat) (P k)),upF (upF (a2 ts P now k).2 k (zx8 t ((a2 ts P now k).2 t.Of.toNat) (P k))) t.Of.toNat ((a2 ts P now k).2 t.Of.toNat - zx8 t ((a2 ts P now k).2 t.Of.toNat) (P k))) else a2 ts P now k:=by
 show(match ts[k]? with | some t=>_ | none=>_)=_
 rw[h]
structure I1 (ts:List Ty) (P:Nat->Int) (x:Int) (s:(Nat->Int) × Int):Prop where
 left:0<=s.2/\s.2<=x
 now:∀j,0<=s.1 j/\s.1 j<=x
 cap:zyg ts fun j=>P j+s.1 j
theorem zzt{ts:List Ty}{th:Nat->Bool}(hts:zyh ts){P:Nat->Int}(hP:zyg ts P){x:Int}(hx:0<=x/\x<=100000):∀k,k<=ts.length->I1 ts P x (a1 ts th P x k)
 | 0,_=>⟨⟨hx.1,Int.le_refl _⟩,fun _=>⟨Int.le_refl _,hx.1⟩,fun j t ht h1=>by have:=hP j t ht h1; show P j+0<=_; omega⟩
 | k+1,hk=>by
  have ih:=zzt (th:=th) hts hP hx k (by omega);have hg:=List.getElem?_eq_getElem (show k < ts.length by omega);have hkd:=hts.k _ (List.getElem_mem (show k < ts.length by omega));rw[zzr hg];generalize a1 ts th P x k=s at ih ⊢;generalize ts[k]'(by omega)=t at hg hkd
  by_cases hc:t.Of < 0/\th k=true
  ·rw[if_pos hc];have hl:=ih.left;have hb:=zyb hkd (a:=s.2) (b:=P k) (by omega) (hP k t hg);refine⟨by show 0<=s.2 - _/\s.2 - _<=x; omega,fun j=>?_,fun j t' ht' h'=>?_⟩
   ·show 0<=upF s.1 k _ j/\upF s.1 k _ j<=x
    by_cases hjk:j=k
    ·subst hjk; rw[zxr]; omega
    ·rw[zxs _ _ hjk]; exact ih.now j
   ·show P j+upF s.1 k _ j<=_
    by_cases hjk:j=k
    ·subst hjk; rw[hg] at ht'; cases ht'; rw[zxr]; exact hb.2.2 h'
    ·rw[zxs _ _ hjk]; exact ih.cap j t' ht' h'
  ·rw[if_neg hc]; exact ih
structure I2 (ts:List Ty) (P:Nat->Int) (x:Int) (s:(Nat->Int) × (Nat->Int)):Prop where
 now:∀j,0<=s.1 j/\s.1 j<=x
 rest:∀j,0<=s.2 j/\s.2 j<=x
 cap:zyg ts fun j=>P j+s.1 j
theorem zzu{ts:List Ty}(hts:zyh ts){P now:Nat->Int}(hP:zyg ts P){x:Int}(hx:0<=x/\x<=100000)(hn:∀j,0<=now j/\now j<=x)(hc:zyg ts fun j=>P j+now j):∀k,k<=ts.length->I2 ts P x (a2 ts P now k)
 | 0,_=>⟨hn,hn,hc⟩
 | k+1,hk=>by
  have ih:=zzu hts hP hx hn hc k (by omega);have hg:=List.getElem?_eq_getElem (show k < ts.length by omega);have hkd:=hts.k _ (List.getElem_mem (show k < ts.length by omega));rw[zzs hg];generalize a2 ts P now k=s at ih ⊢;generalize ts[k]'(by omega)=t at hg hkd
  by_cases ho:0<=t.Of
  ·rw[if_pos ho];have hr:=ih.rest t.Of.toNat;have hb:=zyb hkd (a:=s.2 t.Of.toNat) (b:=P k) (by omega) (hP k t hg);refine⟨fun j=>?_,fun j=>?_,fun j t' ht' h'=>?_⟩
   ·show 0<=upF s.1 k _ j/\upF s.1 k _ j<=x
    by_cases hjk:j=k
    ·subst hjk; rw[zxr]; omega
    ·rw[zxs _ _ hjk]; exact ih.now j
   ·show 0<=upF (upF s.2 k _) _ _ j/\upF (upF s.2 k _) _ _ j<=x
    by_cases hjo:j=t.Of.toNat
    ·subst hjo; rw[zxr]; omega
    ·rw[zxs _ _ hjo]
     by_cases hjk:j=k
     ·subst hjk; rw[zxr]; omega
     ·rw[zxs _ _ hjk]; exact ih.rest j
   ·show P j+upF s.1 k _ j<=_
    by_cases hjk:j=k
    ·subst hjk; rw[hg] at ht'; cases ht'; rw[zxr]; exact hb.2.2 h'
    ·rw[zxs _ _ hjk]; exact ih.cap j t' ht' h'
  ·rw[if_neg ho]; exact ih
def zzv(ts:List Ty)(th:Nat->Bool)(s:(Nat->Int) × Int)(x:Int):(Nat->Int) × Int:=
 (fun j=>s.1 j+(a2 ts s.1 (a1 ts th s.1 x ts.length).1 ts.length).1 j,s.2+(a1 ts th s.1 x ts.length).2)
def zzw(ts:List Ty)(th:Nat->Bool)(L:List Int):(Nat->Int) × Int:=L.foldl (zzv ts th) (fun _=>0,0)
structure RI (ts:List Ty) (B:Int) (s:(Nat->Int) × Int):Prop where
 net:0<=s.2/\s.2<=B
 pays:∀j,0<=s.1 j/\s.1 j<=B
 cap:zyg ts s.1
theorem RI.step{ts:List Ty}{th:Nat->Bool}(hts:zyh ts){B:Int}{s:(Nat->Int) × Int}(h:RI ts B s){x:Int}(hx:0<=x/\x<=100000):RI ts (B+x) (zzv ts th s x):=by
 have h1:=zzt (th:=th) hts h.cap hx ts.length (Nat.le_refl _);have h2:=zzu hts h.cap hx h1.now h1.cap ts.length (Nat.le_refl _);refine⟨?_,fun j=>?_,h2.cap⟩
 ·have:=h.net; have:=h1.left; show 0<=s.2+_/\s.2+_<=_; omega
 ·have:=h.pays j; have:=h2.now j; show 0<=s.1 j+_/\s.1 j+_<=_; omega
section
variable {p:Pg} (h:VP p)
end
def ofB(ts:List Ty)(j:Nat):Bool:=match ts[j]? with | some t=>decide (t.Of < 0) | none=>false
theorem zzx{ts:List Ty}{j:Nat}{t:Ty}(h:ts[j]? = some t):ofB ts j=decide (t.Of < 0):=by unfold ofB; rw[h]
theorem zzy{ts:List Ty}{P:Nat->Int}{x:Int}{j:Nat}:∀{k i:Nat},j < k->k<=i->(dN ts P x i).pays j=(dN ts P x k).pays j:=fun {k i} hj hk=>by
 obtain⟨e,rfl⟩:∃e,i=k+e:=⟨i - k,by omega⟩
 clear hk
 induction e with
 | zero=>rfl
 | succ e ih=>
  rw[<- ih]
  show(match ts[k+e]? with | some t=>zye t (k+e) P (dN ts P x (k+e)) | none=>dN ts P x (k+e)).pays j=_
  cases ts[k+e]? with
  | none=>rfl
  | some t=>
   show(zye t (k+e) P (dN ts P x (k+e))).pays j=_
   unfold zye
   split
   ·exact zxs _ _ (by omega)
   ·exact zxs _ _ (by omega)
theorem zzz{ts:List Ty}(hts:zyh ts){th:Nat->Bool}(hth:∀j,j < ts.length->th j=true){P:Nat->Int}{x:Int}:∀k,k<=ts.length->(a1 ts th P x k).2=(dN ts P x k).soc/\∀j,(a1 ts th P x k).1 j=if j < k/\ofB ts j=true then (dN ts P x k).pays j else 0
 | 0,_=>⟨rfl,fun j=>by rw[if_neg (by omega)]; rfl⟩
 | k+1,hk=>by
  obtain⟨i1,i2⟩:=zzz hts hth (P:=P) (x:=x) k (by omega);have hg:=List.getElem?_eq_getElem (show k < ts.length by omega);have hof:=hts.o k _ hg;rw[zzr hg,zyf hg];have hfk:=zzx hg;generalize ts[k]'(by omega)=t at hg hof hfk;unfold zye
  by_cases ho:t.Of < 0
  ·rw[if_pos ⟨ho,hth k (by omega)⟩,if_pos (show t.Of = -1 by omega),i1];refine⟨rfl,fun j=>?_⟩
   show upF (a1 ts th P x k).1 k _ j=if _ then upF (dN ts P x k).pays k _ j else 0
   by_cases hjk:j=k
   ·subst hjk; rw[zxr,zxr,if_pos ⟨by omega,by rw[hfk]; exact decide_eq_true ho⟩]
   ·rw[zxs _ _ hjk,zxs _ _ hjk,i2]
    by_cases hj:j < k/\ofB ts j=true
    ·rw[if_pos hj,if_pos ⟨by omega,hj.2⟩]
    ·rw[if_neg hj,if_neg fun h=>hj ⟨by omega,h.2⟩]
  ·rw[if_neg fun h=>ho h.1,if_neg (show ¬ t.Of = -1 by omega)];refine⟨i1,fun j=>?_⟩
   show(a1 ts th P x k).1 j=if _ then upF (dN ts P x k).pays k _ j else 0
   by_cases hjk:j=k
   ·subst hjk;rw[i2,if_neg (by omega),if_neg fun h=>ho (by rw[hfk] at h; exact of_decide_eq_true h.2)]
   ·rw[zxs _ _ hjk,i2]
    by_cases hj:j < k/\ofB ts j=true
    ·rw[if_pos hj,if_pos ⟨by omega,hj.2⟩]
    ·rw[if_neg hj,if_neg fun h=>hj ⟨by omega,h.2⟩]
theorem zzA{ts:List Ty}(hts:zyh ts){P now:Nat->Int}{x:Int}(hn:∀j,now j=if j < ts.length/\ofB ts j=true then (dN ts P x ts.length).pays j else 0):∀k,k<=ts.length->(∀j,(a2 ts P now k).1 j=if j < k then (dN ts P x k).pays j else now j)/\∀j,(a2 ts P now k).2 j=if j < k then (dN ts P x k).keeps j else now j
 | 0,_=>⟨fun j=>by rw[if_neg (by omega)]; rfl,fun j=>by rw[if_neg (by omega)]; rfl⟩
 | k+1,hk=>by
  obtain⟨i1,i2⟩:=zzA hts hn k (by omega);have hg:=List.getElem?_eq_getElem (show k < ts.length by omega);have hof:=hts.o k _ hg;have hst:(dN ts P x ts.length).pays k=(dN ts P x (k+1)).pays k:=zzy (by omega) (by omega);rw[zyf hg] at hst;rw[zzs hg,zyf hg];have hfk:=zzx hg;have hnk:=hn k;generalize ts[k]'(by omega)=t at hg hof hfk hst
  by_cases ho:0<=t.Of
  ·have hne:t.Of.toNat ≠ k:=by omega
   have hlt:t.Of.toNat < k:=by omega
   have er:(a2 ts P now k).2 t.Of.toNat=(dN ts P x k).keeps t.Of.toNat:=by rw[i2,if_pos hlt]
   unfold zye;rw[if_pos ho,if_neg (show ¬ t.Of = -1 by omega),er];refine⟨fun j=>?_,fun j=>?_⟩
   ·show upF (a2 ts P now k).1 k _ j=if j < k+1 then upF (dN ts P x k).pays k _ j else now j
    by_cases hjk:j=k
    ·subst hjk; rw[zxr,zxr,if_pos (by omega)]
    ·rw[zxs _ _ hjk,zxs _ _ hjk,i1]
     by_cases hj:j < k
     ·rw[if_pos hj,if_pos (by omega)]
     ·rw[if_neg hj,if_neg (by omega)]
   ·show upF (upF (a2 ts P now k).2 k _) _ _ j=if j < k+1 then upF (upF (dN ts P x k).keeps _ _) k _ j else now j
    by_cases hjk:j=k
    ·subst hjk; rw[zxs _ _ (Ne.symm hne),zxr,zxr,if_pos (by omega)]
    ·rw[zxs _ (zx8 t _ _) hjk]
     by_cases hjo:j=t.Of.toNat
     ·subst hjo; rw[zxr,zxr,if_pos (by omega)]
     ·rw[zxs _ _ hjo,zxs _ _ hjo,zxs _ _ hjk,i2]
      by_cases hj:j < k
      ·rw[if_pos hj,if_pos (by omega)]
      ·rw[if_neg hj,if_neg (by omega)]
  ·rw[if_neg ho]
   have hfk':ofB ts k=true:=by rw[hfk]; exact decide_eq_true (by omega)
   rw[if_pos ⟨by omega,hfk'⟩,hst] at hnk;unfold zye at hnk ⊢;rw[if_pos (show t.Of = -1 by omega)] at hnk ⊢;have hnk:now k=upF (dN ts P x k).pays k (zx8 t (dN ts P x k).soc (P k)) k:=hnk;rw[zxr] at hnk;refine⟨fun j=>?_,fun j=>?_⟩
   ·show(a2 ts P now k).1 j=if j < k+1 then upF (dN ts P x k).pays k _ j else now j
    by_cases hjk:j=k
    ·subst hjk; rw[zxr,if_pos (by omega),i1,if_neg (by omega)]; exact hnk
    ·rw[zxs _ _ hjk,i1]
     by_cases hj:j < k
     ·rw[if_pos hj,if_pos (by omega)]
     ·rw[if_neg hj,if_neg (by omega)]
   ·show(a2 ts P now k).2 j=if j < k+1 then upF (dN ts P x k).keeps k _ j else now j
    by_cases hjk:j=k
    ·subst hjk; rw[zxr,if_pos (by omega),i2,if_neg (by omega)]; exact hnk
    ·rw[zxs _ _ hjk,i2]
     by_cases hj:j < k
     ·rw[if_pos hj,if_pos (by omega)]
     ·rw[if_neg hj,if_neg (by omega)]
theorem zzB{ts:List Ty}(hts:zyh ts){th:Nat->Bool}(hth:∀j,j < ts.length->th j=true):∀(L:List Int) (s:(Nat->Int) × Int) (o:DS),(∀j,s.1 j=o.pays j)->s.2=o.soc->(∀j,ts.length<=j->o.pays j=0) ->
  (∀j,(L.foldl (zzv ts th) s).1 j=(L.foldl (zym ts) o).pays j)/\(L.foldl (zzv ts th) s).2=(L.foldl (zym ts) o).soc
 | [],s,o,h1,h2,_=>⟨h1,h2⟩
 | x::L,s,o,h1,h2,h3=>by
  have hs1:s.1=o.pays:=funext h1;obtain⟨c1,c2⟩:=zzz hts hth (P:=o.pays) (x:=x) ts.length (Nat.le_refl _);obtain⟨c3,_⟩:=zzA hts (P:=o.pays) (x:=x) c2 ts.length (Nat.le_refl _)
  have hz:∀(k j:Nat),k<=ts.length->k<=j->(dN ts o.pays x k).pays j=0:=fun k=>by
   induction k with
   | zero=>intro j _ _; rfl
   | succ k ih=>
    intro j hk hj;have hg:=List.getElem?_eq_getElem (show k < ts.length by omega);rw[zyf hg];unfold zye
    split
    ·show upF _ k _ j=0; rw[zxs _ _ (by omega)]; exact ih j (by omega) (by omega)
    ·show upF _ k _ j=0; rw[zxs _ _ (by omega)]; exact ih j (by omega) (by omega)
  have e1:∀j,(zzv ts th s x).1 j=(zym ts o x).pays j:=fun j=>by
   show s.1 j+(a2 ts s.1 (a1 ts th s.1 x ts.length).1 ts.length).1 j=o.pays j+(dN ts o.pays x ts.length).pays j
   rw[hs1,c3]
   by_cases hj:j < ts.length
   ·rw[if_pos hj]
   ·rw[if_neg hj,c2,if_neg fun h=>hj h.1,hz ts.length j (Nat.le_refl _) (by omega)]
  refine zzB hts hth L (zzv ts th s x) (zym ts o x) e1 ?_ fun j hj=>?_
  ·show s.2+(a1 ts th s.1 x ts.length).2=o.soc+(dN ts o.pays x ts.length).soc
   rw[hs1,c1,h2]
  ·show o.pays j+(dN ts o.pays x ts.length).pays j=0
   rw[h3 j hj,hz ts.length j (Nat.le_refl _) hj]; rfl
theorem zzC{ts:List Ty}(hts:zyh ts){th:Nat->Bool}(hth:∀j,j < ts.length->th j=true)(L:List Int):(∀j,(zzw ts th L).1 j=(zyn ts L).pays j)/\(zzw ts th L).2=(zyn ts L).soc:=
 zzB hts hth L _ _ (fun _=>rfl) rfl fun _ _=>rfl
end
end Go.Proofs.Ytkcmdghjgoaggaa

namespace Go.Proofs.Ytkcmdghjgoaggaa
open _root_.Go.Proofs.Try
open Go.Abs
set_option maxRecDepth 100000
noncomputable section
def zzD(n:Nat):List Int:=(List.range n).map fun j=>((j:Nat):Int)
theorem zzE(n:Nat):Inc n 0 (zzD n):=by
 refine⟨?_,fun v hv=>?_⟩
 ·unfold zzD;rw[List.pairwise_map]
  exact List.pairwise_lt_range.imp fun h=>by omega
 ·obtain⟨j,hj,rfl⟩:=List.mem_map.1 hv;have:=List.mem_range.1 hj
  omega
theorem zzF{n j:Nat}(h:j < n):inD (zzD n) j=true:=decide_eq_true (List.mem_map.2 ⟨j,List.mem_range.2 h,rfl⟩)
structure zzG (n:Nat) (P:(Nat->Bool)->Prop) (M:List Int):Prop where
 inc:Inc n 0 M
 ok:P (inD M)
 min:∀D,Inc n 0 D->P (inD D)->D=M\/shB M D=true
theorem zzG.uniq{n:Nat}{P:(Nat->Bool)->Prop}{M M':List Int}(h:zzG n P M)(h':zzG n P M'):M=M':=by
 rcases h.min M' h'.inc h'.ok with h1 | h1
 ·exact h1.symm
 ·rcases h'.min M h.inc h.ok with h2 | h2
  ·exact h2
  ·rw[zxa h1] at h2; cases h2
def macc(S:Nat->Bool):Nat->Nat
 | 0=>0
 | i+1=>if S i=true then macc S i ||| 2 ^ i else macc S i
theorem zzH(S:Nat->Bool)(j:Nat):∀i,(macc S i).testBit j=(decide (j < i) && S j)
 | 0=>by simp[macc]
 | i+1=>by
  have ih:=zzH S j i;unfold macc
  by_cases hs:S i=true
  ·rw[if_pos hs,Nat.testBit_or,ih,Nat.testBit_two_pow]
   by_cases h:i=j
   ·subst h; simp[hs]
   ·have:decide (j < i+1)=decide (j < i):=decide_eq_decide.2 (by omega);rw[this]; simp[h]
  ·rw[if_neg hs,ih]
   by_cases h:i=j
   ·subst h
    have:S i=false:=by simpa using hs
    rw[this]; simp
   ·have:decide (j < i+1)=decide (j < i):=decide_eq_decide.2 (by omega);rw[this]
def zzI:List Rg->Int->List Int
 | [],_=>[]
 | r::rs,n=>(r.Lo+n % (r.Hi - r.Lo+1))::zzI rs (n / (r.Hi - r.Lo+1))
theorem zzJ:∀{rs:List Rg} {n:Int},(∀r∈rs,r.Lo<=r.Hi)->0<=n->inL rs (zzI rs n)
 | [],_,_,_=>trivial
 | r::rs,n,h,h0=>by
  have hr:=h r (List.mem_cons_self ..);have h1:=Int.emod_nonneg n (show r.Hi - r.Lo+1 ≠ 0 by omega);have h2:=Int.emod_lt_of_pos n (show 0 < r.Hi - r.Lo+1 by omega);exact⟨⟨by omega,by omega⟩,zzJ (fun r hr=>h r (List.mem_cons_of_mem _ hr)) (Int.ediv_nonneg h0 (by omega))⟩
theorem zzK:∀{rs:List Rg} {L:List Int},inL rs L->∃n,0<=n/\n < zxA rs/\zzI rs n=L
 | [],[],_=>⟨0,Int.le_refl _,by show(0:Int) < 1; omega,rfl⟩
 | [],_::_,h=>h.elim
 | _::_,[],h=>h.elim
 | r::rs,x::xs,h=>by
  obtain⟨n,h0,h1,h2⟩:=zzK h.2;have hx:=h.1;obtain⟨c,hc⟩:∃c,c=r.Hi - r.Lo+1:=⟨_,rfl⟩;refine⟨(x - r.Lo)+c * n,?_,?_,?_⟩
  ·have:=Int.mul_nonneg (show 0<=c by omega) h0; omega
  ·show _ < (r.Hi - r.Lo+1) * zxA rs
   rw[<- hc];have:=Int.mul_le_mul_of_nonneg_left (show n+1<=zxA rs by omega) (show 0<=c by omega);rw[Int.mul_add,Int.mul_one] at this
   omega
  ·show(r.Lo+_ % (r.Hi - r.Lo+1))::zzI rs (_ / (r.Hi - r.Lo+1))=_
   rw[<- hc,Int.add_mul_emod_self_left,Int.emod_eq_of_lt (by omega) (by omega),Int.add_mul_ediv_left _ _ (by omega),Int.ediv_eq_zero_of_lt (by omega) (by omega),Int.zero_add,h2]
   congr 1; omega
theorem zzL{p:Pg}(h:VP p):∀(d k:Nat) (acc:List Int) (n:Int),k<=p.Losses.length->p.Losses.length - k < d->acc.length=k->0<=n/\n<=100000->zsD p d acc n (k:Int)=some (acc++zzI (p.Losses.drop k) n)
 | 0,_,_,_,_,hd,_,_=>by omega
 | d+1,k,acc,n,hk,hd,ha,hn=>by
  have h4:=h.l4;rw[zsD]
  by_cases hkl:k < p.Losses.length
  ·have hg:=List.getElem?_eq_getElem hkl;have hr:=h.ls _ (List.getElem_mem hkl);rw[List.drop_eq_getElem_cons hkl];generalize p.Losses[k]=r at hg hr;have hr':=hr;unfold RgV at hr';have h1:=Int.emod_nonneg n (show r.Hi - r.Lo+1 ≠ 0 by omega);have h2:=Int.emod_lt_of_pos n (show 0 < r.Hi - r.Lo+1 by omega);have h3:=Int.ediv_nonneg hn.1 (show 0<=r.Hi - r.Lo+1 by omega);have h5:=Int.ediv_le_self (r.Hi - r.Lo+1) hn.1
   simp only[zrS hg,obs,zxZ hr]
   rw[if_pos (by omega),zqr hn.1,zqr (by omega),zqr (fI (by omega)),zqr (fI (by omega)),zqr (by omega),zqr hn.1,zqr (by omega),zqr (fI (by omega)),zqr (fI (by omega)),show(k:Int)+1=((k+1:Nat):Int) by omega];refine(zzL h d (k+1) (acc++[r.Lo+n % (r.Hi - r.Lo+1)]) (n / (r.Hi - r.Lo+1)) (by omega) (by omega) (by rw[List.length_append,ha]; rfl) (by omega)).trans ?_;rw[List.append_assoc]; rfl
  ·rw[if_neg (by omega),List.drop_eq_nil_of_le (by omega)]
   show _=some (acc++[])
   rw[List.append_nil]
theorem zzM{p:Pg}(h:VP p){n:Int}(hn:0<=n/\n<=100000):zsE p n=some (zzI p.Losses n):=zzL h 1000000 0 [] n (Nat.zero_le _) (by have:=h.l4; omega) rfl hn
theorem VP.nthIn{p:Pg}(h:VP p){n:Int}(hn:0<=n):inL p.Losses (zzI p.Losses n):=zzJ (fun r hr=>(h.ls r hr).2.1) hn
theorem l9{p:Pg}(h:VP p){L:List Int}(hL:inL p.Losses L):L.length<=9:=by rw[zyA hL]; have:=h.l4; omega
open Classical in
def agR(P:Nat->Int)(r:Rpt):Prop:=r.Paid.Lo<=P r.Treaty.toNat/\P r.Treaty.toNat<=r.Paid.Hi
open Classical in
def agf(p:Pg)(L:List Int)(j:Nat):Bool:=decide (∀r,p.Reports[j]? = some r->agR (zyn p.Treaties L).pays r)
open Classical in
theorem zzN{p:Pg}{L:List Int}{j:Nat}{r:Rpt}(h:p.Reports[j]? = some r):agf p L j=true↔agR (zyn p.Treaties L).pays r:=by
 unfold agf;rw[decide_eq_true_eq];exact⟨fun q=>q r h,fun q r' h'=>by rw[h] at h'; cases h'; exact q⟩
def zzO(p:Pg)(L:List Int):Nat:=macc (agf p L) p.Reports.length
def PL(p:Pg)(S:Nat->Bool):Prop:=∃L,inL p.Losses L/\∀j,j < p.Reports.length->S j=false->agf p L j=true
theorem PL.congr{p:Pg}{S S':Nat->Bool}(h:∀j,j < p.Reports.length->S j=S' j):PL p S↔PL p S':=
 exists_congr fun _=>and_congr_right fun _=>forall_congr' fun j=>forall_congr' fun hj=>by rw[h j hj]
theorem zzP{p:Pg}(h:VP p){L:List Int}(hL:inL p.Losses L):(∀j,0<=(zyn p.Treaties L).pays j/\(zyn p.Treaties L).pays j<=4000)/\(∀j,0<=(zyn p.Treaties L).keeps j/\(zyn p.Treaties L).keeps j<=4000)/\0<=(zyn p.Treaties L).soc/\(zyn p.Treaties L).soc<=4000:=by
 obtain⟨h1,h2,h3⟩:=zyR h hL;refine⟨fun j=>?_,fun j=>?_,?_⟩
 ·have:=h1.pays j; omega
 ·have:=h1.keeps j; omega
 ·have:=h1.soc; omega
theorem VP.prodPos{p:Pg}(h:VP p):1<=zxA p.Losses:=(zxP h.ls h.l4).1
end
end Go.Proofs.Ytkcmdghjgoaggaa

namespace Go.Proofs.Ytkcmdghjgoaggaa
open _root_.Go.Proofs.Try
open Go.Abs
set_option maxRecDepth 100000
noncomputable section
theorem zzQ{p:Pg}{L:List Int}:zzO p L=2 ^ p.Reports.length - 1↔agN (zyn p.Treaties L).pays p.Reports:=by
 constructor
 ·intro h r hr;obtain⟨j,hj⟩:=List.mem_iff_getElem?.1 hr;have hjl:=(List.getElem?_eq_some_iff.1 hj).1
  have e:(zzO p L).testBit j=true:=by rw[h,Nat.testBit_two_pow_sub_one,decide_eq_true hjl]
  unfold zzO at e;rw[zzH] at e;exact(zzN hj).1 (Bool.and_eq_true_iff.1 e).2
 ·intro h
  apply Nat.eq_of_testBit_eq
  intro j;unfold zzO;rw[zzH,Nat.testBit_two_pow_sub_one]
  by_cases hj:j < p.Reports.length
  ·have hg:=List.getElem?_eq_getElem hj;rw[decide_eq_true hj,(zzN hg).2 (h _ (List.getElem_mem hj))]; rfl
  ·rw[decide_eq_false hj]; rfl
def trL(p:Pg):List (List Int):=((List.range (zxA p.Losses).toNat).filter fun n:Nat=>decide (zzO p (zzI p.Losses (n:Int))=2 ^ p.Reports.length - 1)).map fun n:Nat=>zzI p.Losses (n:Int)
theorem zzR{p:Pg}(h:VP p){L:List Int}:L∈trL p↔TrS p p.Reports L:=by
 unfold trL TrS;rw[List.mem_map]
 constructor
 ·rintro⟨n,hn,rfl⟩
  obtain⟨_,h2⟩:=List.mem_filter.1 hn;exact⟨h.nthIn (by omega),zzQ.1 (of_decide_eq_true h2)⟩
 ·rintro⟨hL,hA⟩
  obtain⟨n,n0,n1,rfl⟩:=zzK hL;refine⟨n.toNat,List.mem_filter.2 ⟨List.mem_range.2 (by omega),decide_eq_true ?_⟩,?_⟩
  ·rw[show((n.toNat:Nat):Int)=n by omega]; exact zzQ.2 hA
  ·show zzI p.Losses ((n.toNat:Nat):Int)=_
   rw[show((n.toNat:Nat):Int)=n by omega]
theorem zzS{p:Pg}:zy5 p p.Reports↔PL p fun j=>!(2 ^ p.Reports.length - 1).testBit j:=by
 constructor
 ·rintro⟨L,h1,h2⟩
  exact⟨L,h1,fun j hj _=>(zzN (List.getElem?_eq_getElem hj)).2 (h2 _ (List.getElem_mem hj))⟩
 ·rintro⟨L,h1,h2⟩
  refine⟨L,h1,fun r hr=>?_⟩;obtain⟨j,hj⟩:=List.mem_iff_getElem?.1 hr;have hjl:=(List.getElem?_eq_some_iff.1 hj).1;exact(zzN hj).1 (h2 j hjl (by show(!(2 ^ p.Reports.length - 1).testBit j)=false; rw[Nat.testBit_two_pow_sub_one,decide_eq_true hjl]; rfl))
def wd(r:Rg)(x:Int):Rg:={ Lo:=min r.Lo x,Hi:=max r.Hi x }
def emp:Rg:={ Lo:=1099511627776,Hi:=-1099511627776 }
def wdL(g:List Int->Int)(l:List (List Int)):Rg:=l.foldl (fun r L=>wd r (g L)) emp
theorem zzT{g:List Int->Int}:∀(l:List (List Int)) (r:Rg),((l.foldl (fun r L=>wd r (g L)) r).Lo=r.Lo\/∃L∈l,g L=(l.foldl (fun r L=>wd r (g L)) r).Lo)/\((l.foldl (fun r L=>wd r (g L)) r).Hi=r.Hi\/∃L∈l,g L=(l.foldl (fun r L=>wd r (g L)) r).Hi)/\(l.foldl (fun r L=>wd r (g L)) r).Lo<=r.Lo/\r.Hi<=(l.foldl (fun r L=>wd r (g L)) r).Hi/\∀L∈l,(l.foldl (fun r L=>wd r (g L)) r).Lo<=g L/\g L<=(l.foldl (fun r L=>wd r (g L)) r).Hi
 | [],r=>⟨.inl rfl,.inl rfl,Int.le_refl _,Int.le_refl _,fun L hL=>by cases hL⟩
 | L::l,r=>by
  obtain⟨a,b,c,d,e⟩:=zzT (g:=g) l (wd r (g L));have h1:(wd r (g L)).Lo=min r.Lo (g L):=rfl;have h2:(wd r (g L)).Hi=max r.Hi (g L):=rfl;rw[h1] at a c;rw[h2] at b d;rw[List.foldl_cons];generalize l.foldl (fun r L=>wd r (g L)) (wd r (g L))=R at a b c d e ⊢;refine⟨?_,?_,by clear a b; omega,by clear a b; omega,fun L' hL'=>?_⟩
  ·clear b
   rcases a with a | ⟨L',q1,q2⟩
   ·rcases Int.le_total r.Lo (g L) with h | h
    ·exact .inl (by omega)
    ·exact .inr ⟨L,List.mem_cons_self ..,by omega⟩
   ·exact .inr ⟨L',List.mem_cons_of_mem _ q1,q2⟩
  ·clear a
   rcases b with b | ⟨L',q1,q2⟩
   ·rcases Int.le_total (g L) r.Hi with h | h
    ·exact .inl (by omega)
    ·exact .inr ⟨L,List.mem_cons_self ..,by omega⟩
   ·exact .inr ⟨L',List.mem_cons_of_mem _ q1,q2⟩
  ·clear a b
   rcases List.mem_cons.1 hL' with h | h
   ·subst h; omega
   ·exact e L' h
theorem zzU{g:List Int->Int}{l:List (List Int)}(hne:l ≠ [])(hb:∀L∈l,-1000000<=g L/\g L<=1000000):IsB (·∈l) g (wdL g l):=by
 obtain⟨a,b,c,d,e⟩:=zzT (g:=g) l emp;have h1:emp.Lo=1099511627776:=rfl;have h2:emp.Hi = -1099511627776:=rfl;rw[h1] at a c;rw[h2] at b d;obtain⟨L0,hL0⟩:=List.exists_mem_of_ne_nil l hne;have q1:=hb L0 hL0;have q2:=e L0 hL0;unfold wdL;generalize l.foldl (fun r L=>wd r (g L)) emp=R at a b c d e q2 ⊢;refine⟨?_,?_,e⟩
 ·clear b
  rcases a with a | a
  ·omega
  ·exact a
 ·clear a
  rcases b with b | b
  ·omega
  ·exact b
def bsN(n:Nat)(f:Nat->Bd):List Bd:=(List.range n).map f
theorem zzV{n:Nat}{f:Nat->Bd}:(bsN n f).length=n:=by unfold bsN; rw[List.length_map,List.length_range]
theorem zzW{n:Nat}{f:Nat->Bd}{k:Nat}(h:k < n):(bsN n f)[k]? = some (f k):=by unfold bsN; rw[List.getElem?_map,List.getElem?_range h]; rfl
def bdF(p:Pg)(l:List (List Int))(k:Nat):Bd:={ Pays:=wdL (fun L=>(zyn p.Treaties L).pays k) l,Keeps:=wdL (fun L=>(zyn p.Treaties L).keeps k) l }
theorem zzX{p:Pg}(h:VP p)(hc:zy5 p p.Reports):zzn p (bsN p.Treaties.length (bdF p (trL p)))/\IsB (TrS p p.Reports) (fun L=>(zyn p.Treaties L).soc) (wdL (fun L=>(zyn p.Treaties L).soc) (trL p)):=by
 have hne:trL p ≠ []:=fun e=>by
  obtain⟨L,hL⟩:=hc;have:=(zzR h).2 hL
  rw[e] at this; cases this
 have hb:∀L∈trL p,inL p.Losses L:=fun L hL=>((zzR h).1 hL).1;refine⟨⟨zzV,fun k b hk=>?_⟩,?_⟩
 ·have hkl:=(List.getElem?_eq_some_iff.1 hk).1;rw[zzV] at hkl;rw[zzW hkl] at hk
  cases hk
  refine⟨(zzU hne fun L hL=>?_).congr (fun L=>zzR h) fun _ _=>rfl,(zzU hne fun L hL=>?_).congr (fun L=>zzR h) fun _ _=>rfl⟩
  ·have:=(zzP h (hb L hL)).1 k; omega
  ·have:=(zzP h (hb L hL)).2.1 k; omega
 ·refine(zzU hne fun L hL=>?_).congr (fun L=>zzR h) fun _ _=>rfl;have:=(zzP h (hb L hL)).2.2; omega
def kpF:List Rpt->Nat->(Nat->Bool)->List Rpt
 | [],_,_=>[]
 | v::V,i,S=>if S i=true then v::kpF V (i+1) S else kpF V (i+1) S
theorem zzY{S:Nat->Bool}{v:Rpt}:∀(V:List Rpt) (i:Nat),v∈kpF V i S↔∃j,V[j]? = some v/\S (i+j)=true
 | [],i=>by simp[kpF]
 | a::V,i=>by
  have ih:=zzY (S:=S) (v:=v) V (i+1)
  have e:(∃j,(a::V)[j]? = some v/\S (i+j)=true)↔(a=v/\S i=true)\/∃j,V[j]? = some v/\S (i+1+j)=true:=by
   constructor
   ·rintro⟨j,h1,h2⟩
    cases j with
    | zero=>exact .inl ⟨by simpa using h1,h2⟩
    | succ j=>exact .inr ⟨j,by simpa using h1,by rw[show i+1+j=i+(j+1) by omega]; exact h2⟩
   ·rintro (⟨h1,h2⟩ | ⟨j,h1,h2⟩)
    ·exact⟨0,by simpa using h1,h2⟩
    ·exact⟨j+1,by simpa using h1,by rw[show i+(j+1)=i+1+j by omega]; exact h2⟩
  rw[e];unfold kpF
  by_cases hs:S i=true
  ·rw[if_pos hs,List.mem_cons,ih];exact or_congr ⟨fun h=>⟨h.symm,hs⟩,fun h=>h.1.symm⟩ Iff.rfl
  ·rw[if_neg hs,ih];exact⟨.inr,fun h=>h.elim (fun h=>absurd h.2 hs) id⟩
theorem zzZ{S:Nat->Bool}:∀(V:List Rpt) (i:Nat),(kpF V i S).length<=V.length
 | [],_=>Nat.le_refl _
 | a::V,i=>by
  have:=zzZ (S:=S) V (i+1);unfold kpF
  split <;> simp only[List.length_cons] <;> omega
theorem zz0{l:List Int}{v:Int}(hl:zr2 l):∀d (k:Nat),k<=l.length->l.length - k < d->∃r,ztH l v d (k:Int)=some r/\(0<=r↔v∈l.drop k)
 | 0,k,_,h=>by omega
 | d+1,k,hk,h=>by
  unfold zr2 at hl;unfold ztH
  by_cases hkn:k=l.length
  ·subst hkn; rw[if_neg (Int.lt_irrefl _)]; exact⟨_,rfl,by simp⟩
  ·have hlt:k < l.length:=by omega
   rw[if_pos (by omega),zrS (List.getElem?_eq_getElem hlt),obs];have hd:=List.drop_eq_getElem_cons hlt
   by_cases hv:v=l[k]
   ·rw[if_pos hv]; exact⟨_,rfl,⟨fun _=>by rw[hd,<- hv]; exact List.mem_cons_self ..,fun _=>by omega⟩⟩
   ·rw[if_neg hv,zqr (fI (by omega)),show(k:Int)+1=((k+1:Nat):Int) by omega];obtain⟨r,h1,h2⟩:=zz0 hl d (k+1) (by omega) (by omega);exact⟨r,h1,h2.trans ⟨fun h=>by rw[hd]; exact List.mem_cons_of_mem _ h,fun h=>by rw[hd] at h; exact(List.mem_cons.1 h).resolve_left hv⟩⟩
theorem zz1{l:List Int}{v:Int}(hl:zr2 l):ztJ l v=some (decide (v∈l)):=by
 unfold ztJ ztI;obtain⟨r,h1,h2⟩:=zz0 (v:=v) hl (l.length+1) 0 (Nat.zero_le _) (by omega);have h1:ztH l v (l.length+1) 0=some r:=h1;rw[h1,obs];exact congrArg some (decide_eq_decide.2 (h2.trans (by rw[List.drop_zero])))
theorem zz2{p:Int->Option Bool}{f:Nat->Bool}{n:Nat}(hn:n<=1000000)(hp:∀m,m < n->p (m:Int)=some (f m))(hm:∀m k,m<=k->k < n->f m=true->f k=true):∀d (i j:Nat),i<=j->j<=n->j - i < d->(∀m,m < i->f m=false)->(∀m,j<=m->m < n->f m=true) ->
  ∃k:Nat,zua p d (i:Int) (j:Int)=some (k:Int)/\k<=n/\(∀m,m < k->f m=false)/\(∀m,k<=m->m < n->f m=true)
 | 0,_,_,_,_,h,_,_=>by omega
 | d+1,i,j,hij,hj,h,hlo,hhi=>by
  rw[zua]
  by_cases hc:i < j
  ·obtain⟨md,hmd⟩:∃md:Nat,md=(i+j) / 2:=⟨_,rfl⟩
   have hf:zl7 .u64 ((i:Int)+j):=show _/\_ by constructor <;> omega
   have e:zmb .i64 (zmb .u64 ((i:Int)+j) / 2)=(md:Int):=by
    rw[wz hf,wz (fI (by omega))]; omega
   rw[if_pos (by omega),zqr (fI (by omega)),zqr (by rw[wz hf]; omega),zqr (by omega),zqr (by omega),zqr (by rw[wz hf]; exact show _/\_ by constructor <;> omega),e,hp md (by omega),obs]
   cases hq:f md with
   | true=>
    rw[if_pos rfl];exact zz2 hn hp hm d i md (by omega) (by omega) (by omega) hlo fun m h1 h2=>hm md m h1 h2 hq
   | false=>
    rw[if_neg (by decide),zqr (fI (by omega)),show(md:Int)+1=((md+1:Nat):Int) by omega]
    exact zz2 hn hp hm d (md+1) j (by omega) hj (by omega) (fun m h1=>by
     cases hq2:f m with
     | false=>rfl
     | true=>have:=hm m md (by omega) (by omega) hq2; rw[hq] at this; cases this) hhi
  ·rw[if_neg (by omega)];exact⟨i,rfl,by omega,hlo,fun m h1 h2=>hhi m (by omega) h2⟩
theorem zz3{p:Pg}{L:List Int}{S:Nat->Bool}:agN (zyn p.Treaties L).pays (kpF p.Reports 0 S)↔∀j,j < p.Reports.length->S j=true->agf p L j=true:=by
 constructor
 ·intro h j hj hs;have hg:=List.getElem?_eq_getElem hj;exact(zzN hg).2 (h _ ((zzY _ _).2 ⟨j,hg,by rw[Nat.zero_add]; exact hs⟩))
 ·intro h r hr;obtain⟨j,h1,h2⟩:=(zzY _ _).1 hr;rw[Nat.zero_add] at h2;exact(zzN h1).1 (h j (List.getElem?_eq_some_iff.1 h1).1 h2)
theorem zz4{p:Pg}{S:Nat->Bool}:zy5 p (kpF p.Reports 0 S)↔PL p fun j=>!S j:=by
 unfold zy5 PL;refine exists_congr fun L=>and_congr_right fun _=>zz3.trans ?_;refine forall_congr' fun j=>forall_congr' fun _=>?_
 show(S j=true->_)↔((!S j)=false->_)
 cases S j <;> simp
theorem zz5{l:List Rpt}{D:List Int}(hl:l.length<=1000)(hD:zr2 D):ztL l D=some (kpF l 0 fun j=>!inD D j):=by
 have key:∀(d k:Nat) (acc:List Rpt),k<=l.length->l.length - k < d->acc.length<=k->ztK l D d acc (k:Int)=some (acc++kpF (l.drop k) k fun j=>!inD D j):=by
  intro d
  induction d with
  | zero=>intro k _ _ h _; omega
  | succ d ih=>
   intro k acc hk hd ha;rw[ztK]
   by_cases hkl:k < l.length
   ·rw[if_pos (by omega),zrS (List.getElem?_eq_getElem hkl),obs,zz1 hD,obs,List.drop_eq_getElem_cons hkl,kpF]
    by_cases hin:(k:Int)∈D
    ·have e:inD D k=true:=decide_eq_true hin;rw[decide_eq_true hin,if_pos rfl,zqr (fI (by omega)),show(k:Int)+1=((k+1:Nat):Int) by omega,if_neg (by rw[e]; simp)];exact ih (k+1) acc (by omega) (by omega) (by omega)
    ·have e:inD D k=false:=decide_eq_false hin;rw[decide_eq_false hin,if_neg (by decide),zqr (by omega),zqr (fI (by omega)),show(k:Int)+1=((k+1:Nat):Int) by omega,if_pos (by rw[e]; rfl)];refine(ih (k+1) _ (by omega) (by omega) (by rw[List.length_append]; show acc.length+1<=_; omega)).trans ?_;rw[List.append_assoc]; rfl
   ·rw[if_neg (by omega),List.drop_eq_nil_of_le (by omega)]
    show _=some (acc++[])
    rw[List.append_nil]
 exact key (l.length+1) 0 [] (Nat.zero_le _) (by omega) (Nat.le_refl _)
theorem zyW.kp{p:Pg}(h:VP p)(S:Nat->Bool):zyW (kpF p.Reports 0 S):=fun r hr=>by
 obtain⟨j,h1,_⟩:=(zzY _ _).1 hr;exact h.rsOk r (List.mem_of_getElem? h1)
theorem zz6{p:Pg}(h:VP p){D:List Int}(hD:zr2 D):Ev (zud D (zyP p (zyH p)) p) (PL p (inD D)):=by
 have hr5:=h.r5;unfold zud;rw[zz5 (by omega) hD,obs]
 show Ev ((ztS (zyP p (zyH p)) (kpF p.Reports 0 fun j=>!inD D j)).bind _) _
 have hlen:=zzZ (S:=fun j=>!inD D j) p.Reports 0;refine(zy6 h (zyW.kp h _) (zr3 hlen (by omega))).ret.imp (zz4.trans (PL.congr fun j _=>?_))
 simp
theorem zz7{p:Pg}(h:VP p):PL p (inD (zzD p.Reports.length)):=by
 obtain⟨L,hL⟩:=zyL h;exact⟨L,hL,fun j hj hs=>by rw[zzF hj] at hs; cases hs⟩
theorem zz8{p:Pg}(h:VP p):∃M,zue p=some (M,0)/\zzG p.Reports.length (PL p) M:=by
 have h4:=h.r5;have hsh:∀D,Inc p.Reports.length 0 D->zr2 D:=fun D hD=>zr3 (Nat.le_refl D.length) (by have:=zw1 hD; omega)
 have ht:∀D,Inc p.Reports.length 0 D->((zud D (zyP p (zyH p)) p).getD false=true↔PL p (inD D)):=fun D hD=>by
  obtain⟨b,q1,q2⟩:=zz6 h (hsh D hD);rw[q1]; exact q2
 obtain⟨s1,s2,s3⟩:=zxg (n:=p.Reports.length) (t:=fun L=>(zud L (zyP p (zyH p)) p).getD false) ⟨zzD p.Reports.length,zzE _,(ht _ (zzE _)).2 (zz7 h)⟩;refine⟨zrz p.Reports.length fun L=>(zud L (zyP p (zyH p)) p).getD false,?_,s1,(ht _ s1).1 s2,fun D hD hD2=>s3 D hD ((ht D hD).2 hD2)⟩;unfold zue zrA
 rw[zzh h,obs,if_pos rfl,zyV h,obs,zqr ⟨by omega,by omega,fun L hL=>by
  have hI:Inc p.Reports.length 0 L:=by rw[Int.toNat_natCast] at hL; exact zw2.1 hL
  obtain⟨b,q1,_⟩:=zz6 h (hsh L hI)
  show(zud L (zyP p (zyH p)) p).isSome=true
  rw[q1]; rfl⟩,obs,Int.toNat_natCast]
def FP(p:Pg)(j:Nat):Prop:=zy5 p (p.Reports.take (j+1))
theorem zz9{p:Pg}{i j:Nat}(hij:i<=j)(h:FP p j):FP p i:=by
 obtain⟨L,h1,h2⟩:=h;refine⟨L,h1,fun r hr=>h2 r ?_⟩
 have e:p.Reports.take (i+1)=(p.Reports.take (j+1)).take (i+1):=by rw[List.take_take,show min (i+1) (j+1)=i+1 by omega]
 rw[e] at hr;exact List.mem_of_mem_take hr
open Classical in
theorem zAa{p:Pg}(h:VP p):(∃j,j < p.Reports.length/\¬ FP p j/\(∀i,i < j->FP p i)/\zuc p=some ((j:Int),0))\/((∀j,j < p.Reports.length->FP p j)/\zuc p=some (0,7)):=by
 have h4:=h.r5
 have hf:∀m,m < p.Reports.length->zt9 (m:Int) (zyP p (zyH p)) p=some (decide (¬ FP p m)):=fun m hm=>by
  unfold zt9;rw[zqr (fI (by omega)),zqr (by omega),show Int.toNat ((m:Int)+1)=m+1 by omega,show Int.toNat (0:Int)=0 from rfl,List.drop_zero]
  show(ztS (zyP p (zyH p)) (p.Reports.take (m+1))).bind _=_
  have hlen:(p.Reports.take (m+1)).length<=5:=by rw[List.length_take]; omega
  have hc:=zy6 h (rs:=p.Reports.take (m+1)) (fun r hr=>h.rsOk r (List.mem_of_mem_take hr)) (zr3 hlen (by omega))
  by_cases hq:FP p m
  ·rw[hc.some_of hq,obs,decide_eq_false (not_not_intro hq)]; rfl
  ·rw[hc.some_not hq,obs,decide_eq_true hq]; rfl
 obtain⟨k,q1,q2,q3,q4⟩:=zz2 (n:=p.Reports.length) (p:=fun a=>zt9 a (zyP p (zyH p)) p) (f:=fun m=>decide (¬ FP p m)) (by omega) hf (fun m k h1 h2 h3=>decide_eq_true fun hk=>of_decide_eq_true h3 (zz9 h1 hk)) ((p.Reports.length:Int).toNat+1) 0 p.Reports.length (Nat.zero_le _) (Nat.le_refl _) (by omega) (fun m hm=>by omega) fun m h1 h2=>by omega
 have e:zuc p=if ((k:Nat):Int)=(p.Reports.length:Int) then some (0,7) else some ((k:Int),0):=by
  unfold zuc zub;rw[zzh h,obs,if_pos rfl,zyV h,obs];have q1:zua (fun a=>zt9 a (zyP p (zyH p)) p) ((p.Reports.length:Int).toNat+1) 0 (p.Reports.length:Int)=some (k:Int):=q1;rw[q1,obs]
 have hlt:∀i,i < k->FP p i:=fun i hi=>Classical.not_not.1 (of_decide_eq_false (q3 i hi))
 by_cases hk:k=p.Reports.length
 ·rw[if_pos (by omega)] at e;exact .inr ⟨fun j hj=>hlt j (by omega),e⟩
 ·rw[if_neg (by omega)] at e;exact .inl ⟨k,by omega,of_decide_eq_true (q4 k (Nat.le_refl _) (by omega)),hlt,e⟩
theorem zAb{p:Pg}{j j':Nat}(h1:¬ FP p j)(h2:∀i,i < j->FP p i)(h3:¬ FP p j')(h4:∀i,i < j'->FP p i):j=j':=by
 rcases Nat.lt_trichotomy j j' with h | h | h
 ·exact absurd (h4 j h) h1
 ·exact h
 ·exact absurd (h2 j' h) h3
end
end Go.Proofs.Ytkcmdghjgoaggaa

namespace Go.Proofs.Ytkcmdghjgoaggaa
open _root_.Go.Proofs.Try
open Go.Abs
set_option maxRecDepth 100000
noncomputable section
theorem zAc{l:List Int}:(∀j,0 < j->j < l.length->∀a b,l[j - 1]? = some a->l[j]? = some b->a < b)↔l.Pairwise (· < ·):=by
 constructor
 ·intro h;rw[List.pairwise_iff_getElem];intro i j hi hj hij
  have key:∀d,(hd:i+d+1 < l.length)->l[i] < l[i+d+1]:=fun d=>by
   induction d with
   | zero=>intro hd; exact h (i+1) (by omega) hd _ _ (List.getElem?_eq_getElem hi) (List.getElem?_eq_getElem hd)
   | succ d ih=>
    intro hd;have h1:=ih (by omega);have h2:=h (i+(d+1)+1) (by omega) hd _ _ (List.getElem?_eq_getElem (show i+d+1 < l.length by omega)) (List.getElem?_eq_getElem hd);exact Int.lt_trans h1 h2
  have:=key (j - i - 1) (by omega)
  simpa [show i+(j - i - 1)+1=j by omega] using this
 ·intro h j h0 hj a b ha hb;obtain⟨h1,rfl⟩:=List.getElem?_eq_some_iff.1 ha;obtain⟨h2,rfl⟩:=List.getElem?_eq_some_iff.1 hb;exact List.pairwise_iff_getElem.1 h (j - 1) j h1 h2 (by omega)
theorem zAd{l:List Int}(hl:zr2 l):Ev (zth l) (l.Pairwise (· < ·)):=by
 unfold zr2 at hl;unfold zth
 by_cases h0:l.length=0
 ·have:l=[]:=List.eq_nil_of_length_eq_zero h0;subst this
  show Ev (ztg [] 1 1) _
  rw[ztg,if_neg (by decide)];exact Ev.tt .nil
 ·have e:∃n,l.length=n+1:=⟨l.length - 1,by omega⟩;obtain⟨n,hn⟩:=e
  have key:=zrW (n:=n) (F:=fun d x=>ztg l d (x+1)) (ok:=fun j=>∀a b,l[j]? = some a->l[j+1]? = some b->a < b) (bad:=some false) (fin:=some true) (fun d k hk=>by
   show(_->ztg l (d+1) ((k:Int)+1)=_)/\_
   have ha:=List.getElem?_eq_getElem (show k < l.length by omega);have hb:=List.getElem?_eq_getElem (show k+1 < l.length by omega);rw[ztg,if_pos (by omega),zrT (show(k:Int)+1=((k+1:Nat):Int) by omega) (show k+1 < l.length by omega),obs,zqr (fI (by omega)),zrT (show(k:Int)+1 - 1=(k:Int) by omega) (show k < l.length by omega),obs];refine⟨fun h=>?_,fun h=>?_⟩
   ·have:=h _ _ ha hb;rw[if_neg (by omega),zqr (fI (by omega))]
   ·rw[if_pos]
    apply Classical.byContradiction
    intro h2
    exact h fun a b h3 h4=>by rw[ha] at h3; rw[hb] at h4; cases h3; cases h4; omega) (fun d=>by show ztg l (d+1) _=_; rw[ztg,if_neg (by omega)]) (d:=((l.length:Int) - 1).toNat+1) (by omega)
  have e0:ztg l (((l.length:Int) - 1).toNat+1) (0+1)=ztg l (((l.length:Int) - 1).toNat+1) 1:=rfl
  have hiff:(∀j,j < n->∀a b,l[j]? = some a->l[j+1]? = some b->a < b)↔l.Pairwise (· < ·):=by
   rw[<- zAc]
   constructor
   ·intro h j h0 hj a b h1 h2;have:=h (j - 1) (by omega) a b h1;rw[show j - 1+1=j by omega] at this;exact this h2
   ·intro h j hj a b h1 h2;exact h (j+1) (by omega) (by omega) a b (by rw[Nat.add_sub_cancel]; exact h1) h2
  by_cases hq:∀j,j < n->∀a b,l[j]? = some a->l[j+1]? = some b->a < b
  ·have:=key.1 hq;exact⟨true,this,⟨fun _=>hiff.1 hq,fun _=>rfl⟩⟩
  ·have:=key.2 hq;exact⟨false,this,⟨fun h=>(by cases h),fun h=>absurd (hiff.2 h) hq⟩⟩
def zke(p:Pg)(l:List Int):Prop:=l.Pairwise (· < ·)/\∀v∈l,(0<=v/\v<=(p.Treaties.length:Int) - 1)/\ofB p.Treaties v.toNat=true
theorem zke.inc{p:Pg}{l:List Int}(h:zke p l):Inc p.Treaties.length 0 l:=⟨h.1,fun v hv=>by have:=(h.2 v hv).1; omega⟩
theorem zke.len{p:Pg}{l:List Int}(h:zke p l):l.length<=p.Treaties.length:=by have:=zw1 h.inc; omega
theorem zAe{p:Pg}(h:VP p){n:Int}:Ev (ztr p n) ((0<=n/\n<=(p.Treaties.length:Int) - 1)/\ofB p.Treaties n.toNat=true):=by
 have h5:=h.t5;refine(zxJ (zzg h).2.1).and fun hc=>?_;have hg:=List.getElem?_eq_getElem (show n.toNat < p.Treaties.length by omega);have e:=zrS hg;rw[show((n.toNat:Nat):Int)=n by omega] at e;rw[e,obs];have ho:=h.of' _ _ hg;exact Ev.dec (by rw[zzx hg,decide_eq_true_eq]; omega)
theorem zAf{p:Pg}(h:VP p){l:List Int}(hl:zr2 l):Ev (zts p l) (zke p l):=
 (zAd hl).and fun _=>(Ev.each (p:=fun a=>ztr p a) (q:=fun v=>(0<=v/\v<=(p.Treaties.length:Int) - 1)/\ofB p.Treaties v.toNat=true) (fun _ _=>zAe h) hl.lt gI).ret
def tyD:Ty:={ Kind:=0,Part:=0,Above:=0,Most:=0,Times:=0,Price:=0,Of:=-1 }
def tyA(ts:List Ty)(v:Int):Ty:=(ts[v.toNat]?).getD tyD
theorem zAg{ts:List Ty}{v:Int}{t:Ty}(h:ts[v.toNat]? = some t):tyA ts v=t:=by unfold tyA; rw[h]; rfl
theorem zAh{ts:List Ty}{v:Int}(h0:0<=v)(h1:v<=(ts.length:Int) - 1):ts[v.toNat]? = some (tyA ts v):=by
 have hg:=List.getElem?_eq_getElem (show v.toNat < ts.length by omega);rw[zAg hg,hg]
theorem zAi{ts:List Ty}{v:Int}(h0:0<=v)(h1:v<=(ts.length:Int) - 1):idx ts v=some (tyA ts v):=by
 have:=zrS (zAh h0 h1)
 rwa [show((v.toNat:Nat):Int)=v by omega] at this
def zAj(ts:List Ty):List Int->Int
 | []=>0
 | v::l=>(tyA ts v).Price+zAj ts l
theorem zAk{ts:List Ty}{v:Int}:∀l,zAj ts (l++[v])=zAj ts l+(tyA ts v).Price
 | []=>by show _+(0:Int)=0+_; omega
 | a::l=>by show _+zAj ts (l++[v])=_+zAj ts l+_; rw[zAk l]; omega
def InT(p:Pg)(l:List Int):Prop:=∀v∈l,0<=v/\v<=(p.Treaties.length:Int) - 1
theorem zAl{p:Pg}(h:VP p):∀{l:List Int},InT p l->0<=zAj p.Treaties l/\zAj p.Treaties l<=1000 * l.length
 | [],_=>⟨Int.le_refl _,by show(0:Int)<=1000 * ((0:Nat):Int); omega⟩
 | v::l,hl=>by
  have ih:=zAl h (l:=l) fun v hv=>hl v (List.mem_cons_of_mem _ hv);have hv:=hl v (List.mem_cons_self ..);have ht:=h.ts _ (List.mem_of_getElem? (zAh hv.1 hv.2));have h1:=ht.2
  show 0<=(tyA p.Treaties v).Price+zAj p.Treaties l/\(tyA p.Treaties v).Price+zAj p.Treaties l<=1000 * ((l.length+1:Nat):Int)
  omega
theorem zAm{α:Type}{l:List α}{k:Nat}{a:α}(h:l[k]? = some a):l.take (k+1)=l.take k++[a]:=by rw[List.take_add_one,h]; rfl
theorem zAn{p:Pg}(h:VP p){l:List Int}(hl:InT p l)(h9:l.length<=9):ztu p l=some (zAj p.Treaties l):=by
 refine zxm (n:=l.length) (fun d (s:Int) y=>ztt p l d s y) (fun k=>zAj p.Treaties (l.take k)) (fun d k hk=>?_) (fun d=>?_) (l.length+1) 0 (by omega) (by omega)
 ·have hg:=List.getElem?_eq_getElem hk;have hv:=hl _ (List.getElem_mem hk);have hb:=zAl h (l:=l.take (k+1)) fun v hv=>hl v (List.mem_of_mem_take hv)
  have hlen:(l.take (k+1)).length<=9:=by rw[List.length_take]; omega
  rw[zAm hg,zAk] at hb;rw[List.length_append,List.length_take] at hb
  simp only[List.length_singleton] at hb
  show ztt p l (d+1) _ _=_
  rw[ztt,if_pos (by omega),zrS hg,obs,zAi hv.1 hv.2,obs,zqr (fI (by omega)),zqr (fI (by omega)),zAm hg,zAk]
 ·show ztt p l (d+1) _ _=_
  rw[ztt,if_neg (Int.lt_irrefl _),List.take_length]
def zAo(p:Pg)(l:List Int):Pg:={ Losses:=p.Losses,Reserve:=p.Reserve,Treaties:=l.map (tyA p.Treaties),Reports:=[] }
theorem zAp{p:Pg}{l:List Int}(hl:InT p l)(h9:l.length<=9):ztw p l=some (zAo p l):=by
 refine zxm (n:=l.length) (fun d (s:List Ty) y=>ztv p l d p.Reserve s y) (fun k=>(l.take k).map (tyA p.Treaties)) (fun d k hk=>?_) (fun d=>?_) (l.length+1) 0 (by omega) (by omega)
 ·have hg:=List.getElem?_eq_getElem hk;have hv:=hl _ (List.getElem_mem hk)
  show ztv p l (d+1) _ _ _=_
  rw[ztv,if_pos (by omega),zrS hg,obs,zAi hv.1 hv.2,obs,zqr (by rw[List.length_map,List.length_take]; omega),zqr (fI (by omega)),zAm hg,List.map_append]; rfl
 ·show ztv p l (d+1) _ _ _=_
  rw[ztv,if_neg (Int.lt_irrefl _),List.take_length]; rfl
theorem zke.inT{p:Pg}{l:List Int}(h:zke p l):InT p l:=fun v hv=>(h.2 v hv).1
theorem zke.ty{p:Pg}(h:VP p){l:List Int}(hs:zke p l){v:Int}(hv:v∈l):(tyA p.Treaties v).Of = -1:=by
 obtain⟨h1,h2⟩:=hs.2 v hv;have hg:=zAh h1.1 h1.2;rw[zzx hg,decide_eq_true_eq] at h2;have:=h.of' _ _ hg
 omega
theorem zAq{p:Pg}(h:VP p){l:List Int}(hs:zke p l):VP (zAo p l):=by
 have h5:=h.t5;have hl:=hs.len;refine { ls:=h.ls,res:=h.res,ts:=fun t ht=>?_,of':=fun i t ht=>?_,rs:=fun r hr=>(by cases hr),l4:=h.l4,t5:=?_,r5:=Nat.zero_le _,many:=h.many }
 ·obtain⟨v,hv,rfl⟩:=List.mem_map.1 ht;have:=hs.inT v hv;exact h.ts _ (List.mem_of_getElem? (zAh this.1 this.2))
 ·obtain⟨v,hv,rfl⟩:=List.mem_map.1 (List.mem_of_getElem? ht);rw[hs.ty h hv]; omega
 ·show(l.map (tyA p.Treaties)).length<=5
  rw[List.length_map]; omega
theorem zAr{b k:Nat}:∀e,∃T,zw3 b (k+e)=zw3 b k++T
 | 0=>⟨[],(List.append_nil _).symm⟩
 | e+1=>by
  obtain⟨T,hT⟩:=zAr (b:=b) (k:=k) e;refine⟨T++(if b.testBit (k+e) then [((k+e:Nat):Int)] else []),?_⟩
  show zw3 b (k+e)++_=_
  rw[hT,List.append_assoc]; rfl
theorem zAs{b n:Nat}(hn:n<=16)(hb:b < 2 ^ n):zw4 b=zw3 b n:=by
 unfold zw4;obtain⟨e,he⟩:∃e,16=n+e:=⟨16 - n,by omega⟩;rw[he];exact zw7 (fun q hq=>Nat.testBit_lt_two_pow (Nat.lt_of_lt_of_le hb (Nat.pow_le_pow_right (by omega) hq))) e
theorem zAt{b k n j:Nat}(hk:k<=n)(hj:j < (zw3 b k).length):(zw3 b n)[j]? = (zw3 b k)[j]?:=by
 obtain⟨T,hT⟩:=zAr (b:=b) (k:=k) (n - k);rw[show k+(n - k)=n by omega] at hT;rw[hT,List.getElem?_append_left hj]
theorem zAu{ts:List Ty}{b n:Nat}(hn:n=ts.length)(hof:∀k t,ts[k]? = some t->b.testBit k=true->t.Of = -1){P P':Nat->Int}(hP:∀(j:Nat) (v:Int),(zw3 b n)[j]? = some v->P' j=P v.toNat){x:Int}:∀k,k<=n ->
  (dN ((zw3 b n).map (tyA ts)) P' x (zw3 b k).length).soc=(a1 ts (fun k=>b.testBit k) P x k).2/\∀(j:Nat) (v:Int),j < (zw3 b k).length->(zw3 b n)[j]? = some v->(dN ((zw3 b n).map (tyA ts)) P' x (zw3 b k).length).pays j=(a1 ts (fun k=>b.testBit k) P x k).1 v.toNat
 | 0,_=>⟨rfl,fun j v h=>by cases h⟩
 | k+1,hk=>by
  obtain⟨i1,i2⟩:=zAu hn hof hP (x:=x) k (by omega);have hg:=List.getElem?_eq_getElem (show k < ts.length by omega);rw[zzr hg];have ht:=hof k _ hg;generalize ts[k]'(by omega)=t at hg ht
  cases hb:b.testBit k with
  | true=>
   have ho:=ht hb
   have e:zw3 b (k+1)=zw3 b k++[(k:Int)]:=by show zw3 b k++(if b.testBit k then _ else _)=_; rw[hb]; rfl
   have el:(zw3 b (k+1)).length=(zw3 b k).length+1:=by rw[e,List.length_append]; rfl
   have hm:(zw3 b n)[(zw3 b k).length]? = some (k:Int):=by
    rw[zAt (k:=k+1) hk (by omega),e,List.getElem?_append_right (Nat.le_refl _),Nat.sub_self]; rfl
   have hmt:((zw3 b n).map (tyA ts))[(zw3 b k).length]? = some t:=by
    rw[List.getElem?_map,hm];exact congrArg some (zAg (by rw[Int.toNat_natCast]; exact hg))
   rw[el,zyf hmt,if_pos ⟨by omega,rfl⟩];unfold zye;rw[if_pos ho,i1,hP _ _ hm,Int.toNat_natCast];refine⟨rfl,fun j v hj hv=>?_⟩
   show upF _ (zw3 b k).length _ j=upF (a1 ts (fun k=>b.testBit k) P x k).1 k _ v.toNat
   by_cases hjm:j=(zw3 b k).length
   ·subst hjm;rw[hm] at hv
    cases hv
    rw[zxr,Int.toNat_natCast,zxr]
   ·rw[zxs _ _ hjm,i2 j v (by omega) hv];have hv2:=hv;rw[zAt (k:=k) (by omega) (by omega)] at hv2;have:=zw5.1 (List.mem_of_getElem? hv2);rw[zxs _ _ (by omega)]
  | false=>
   have e:zw3 b (k+1)=zw3 b k:=by show zw3 b k++(if b.testBit k then _ else _)=_; rw[hb]; exact List.append_nil _
   rw[e,if_neg fun h=>by cases h.2];exact⟨i1,i2⟩
theorem zAv{ts:List Ty}{P now:Nat->Int}{j:Nat}(hj:ofB ts j=true):∀k,k<=ts.length->(a2 ts P now k).1 j=now j
 | 0,_=>rfl
 | k+1,hk=>by
  have hg:=List.getElem?_eq_getElem (show k < ts.length by omega);have hfk:=zzx hg;have ih:=zAv (P:=P) (now:=now) hj k (by omega);rw[zzs hg];generalize ts[k]'(by omega)=t at hg hfk
  by_cases ho:0<=t.Of
  ·rw[if_pos ho]
   show upF (a2 ts P now k).1 k _ j=_
   rw[zxs _ _ fun e=>by subst e; rw[hfk,decide_eq_true_eq] at hj; omega,ih]
  ·rw[if_neg ho,ih]
theorem zAw{ts:List Ty}{b:Nat}(hof:∀k t,ts[k]? = some t->b.testBit k=true->t.Of = -1):∀(L:List Int) (s:(Nat->Int) × Int) (o:DS),(∀(j:Nat) (v:Int),(zw3 b ts.length)[j]? = some v->o.pays j=s.1 v.toNat)->o.soc=s.2 ->
  (L.foldl (zym ((zw3 b ts.length).map (tyA ts))) o).soc=(L.foldl (zzv ts fun k=>b.testBit k) s).2
 | [],_,_,_,h2=>h2
 | x::L,s,o,h1,h2=>by
  obtain⟨c1,c2⟩:=zAu rfl hof h1 (x:=x) ts.length (Nat.le_refl _);refine zAw hof L (zzv ts (fun k=>b.testBit k) s x) (zym ((zw3 b ts.length).map (tyA ts)) o x) (fun j v hv=>?_) ?_
  ·show o.pays j+(dN ((zw3 b ts.length).map (tyA ts)) o.pays x ((zw3 b ts.length).map (tyA ts)).length).pays j=s.1 v.toNat+(a2 ts s.1 (a1 ts (fun k=>b.testBit k) s.1 x ts.length).1 ts.length).1 v.toNat
   have hjl:=(List.getElem?_eq_some_iff.1 hv).1;have hmem:=zw5.1 (List.mem_of_getElem? hv);have hg:=List.getElem?_eq_getElem (show v.toNat < ts.length by omega);rw[List.length_map,h1 j v hv,c2 j v hjl hv,zAv (by rw[zzx hg,hof _ _ hg hmem.2.2]; rfl) ts.length (Nat.le_refl _)]
  ·show o.soc+(dN ((zw3 b ts.length).map (tyA ts)) o.pays x ((zw3 b ts.length).map (tyA ts)).length).soc=s.2+(a1 ts (fun k=>b.testBit k) s.1 x ts.length).2
   rw[List.length_map,c1,h2]
theorem zAx{ts:List Ty}{b:Nat}(hof:∀k t,ts[k]? = some t->b.testBit k=true->t.Of = -1)(L:List Int):(zyn ((zw3 b ts.length).map (tyA ts)) L).soc=(zzw ts (fun k=>b.testBit k) L).2:=
 zAw hof L (fun _=>0,0) zyl (fun _ _ _=>rfl) rfl
theorem zAy{ts:List Ty}{th th':Nat->Bool}{P:Nat->Int}{x:Int}(h:∀j,j < ts.length->th j=th' j):∀k,k<=ts.length->a1 ts th P x k=a1 ts th' P x k
 | 0,_=>rfl
 | k+1,hk=>by
  have hg:=List.getElem?_eq_getElem (show k < ts.length by omega);rw[zzr hg,zzr hg,zAy h k (by omega),h k (by omega)]
theorem zAz{ts:List Ty}{th th':Nat->Bool}(h:∀j,j < ts.length->th j=th' j)(L:List Int):zzw ts th L=zzw ts th' L:=by
 have e:zzv ts th=zzv ts th':=by
  funext s x
  unfold zzv;rw[zAy h ts.length (Nat.le_refl _)]
 unfold zzw;rw[e]
theorem RI.mono{ts:List Ty}{B B':Int}{s:(Nat->Int) × Int}(h:RI ts B s)(hB:B<=B'):RI ts B' s:=⟨by have:=h.net; omega,fun j=>by have:=h.pays j; omega,h.cap⟩
theorem zAA{ts:List Ty}{th:Nat->Bool}(hts:zyh ts):∀(L:List Int) (s:(Nat->Int) × Int) (B:Int),(∀x∈L,0<=x/\x<=1000)->RI ts B s->RI ts (B+1000 * L.length) (L.foldl (zzv ts th) s)
 | [],s,B,_,h=>h.mono (by show B<=B+1000 * ((0:Nat):Int); omega)
 | x::L,s,B,hL,h=>by
  have hx:=hL x (List.mem_cons_self ..);have h1:=(h.step (th:=th) hts (x:=x) (by omega)).mono (B':=B+1000) (by omega);refine(zAA hts L _ _ (fun x hx=>hL x (List.mem_cons_of_mem _ hx)) h1).mono ?_;rw[List.length_cons]; omega
theorem zAB{p:Pg}(h:VP p){th:Nat->Bool}{L:List Int}(hL:inL p.Losses L):0<=(zzw p.Treaties th L).2/\(zzw p.Treaties th L).2<=4000:=by
 have h4:=h.l4;have hl:=zyA hL;have:=(zAA (th:=th) h.tsOk L (fun _=>0,0) 0 (zyD hL h.ls) ⟨⟨Int.le_refl _,Int.le_refl _⟩,fun _=>⟨Int.le_refl _,Int.le_refl _⟩,zyo h.tsOk⟩).net;unfold zzw
 omega
def zAC(p:Pg):List (List Int):=(List.range (zxA p.Losses).toNat).map fun n:Nat=>zzI p.Losses (n:Int)
theorem zAD{p:Pg}(h:VP p){L:List Int}:L∈zAC p↔inL p.Losses L:=by
 unfold zAC;rw[List.mem_map]
 constructor
 ·rintro⟨n,_,rfl⟩; exact h.nthIn (by omega)
 ·intro hL;obtain⟨n,n0,n1,rfl⟩:=zzK hL;exact⟨n.toNat,List.mem_range.2 (by omega),by rw[show((n.toNat:Nat):Int)=n by omega]⟩
def zAE(p:Pg)(th:Nat->Bool):Rg:=wdL (fun L=>(zzw p.Treaties th L).2) (zAC p)
theorem zAF{p:Pg}{th th':Nat->Bool}(h:∀j,j < p.Treaties.length->th j=th' j):zAE p th=zAE p th':=by
 unfold zAE
 have:(fun L=>(zzw p.Treaties th L).2)=fun L=>(zzw p.Treaties th' L).2:=funext fun L=>by rw[zAz h]
 rw[this]
theorem zAG{p:Pg}(h:VP p)(th:Nat->Bool):IsB (inL p.Losses) (fun L=>(zzw p.Treaties th L).2) (zAE p th):=by
 obtain⟨L,hL⟩:=zyL h;refine(zzU (fun e=>?_) fun L hL=>?_).congr (fun L=>zAD h) fun _ _=>rfl
 ·have:=(zAD h).2 hL
  rw[e] at this; cases this
 ·have:=zAB h (th:=th) ((zAD h).1 hL); omega
theorem zke.bits{p:Pg}(h:VP p){b:Nat}(_hb:b < 2 ^ p.Treaties.length)(hs:zke p (zw4 b)):∀k t,p.Treaties[k]? = some t->b.testBit k=true->t.Of = -1:=fun k t hk hbk=>by
 have hkl:=(List.getElem?_eq_some_iff.1 hk).1;have h5:=h.t5
 have hm:((k:Nat):Int)∈zw4 b:=by unfold zw4; exact zw5.2 ⟨by omega,by omega,hbk⟩
 have:=hs.ty h hm
 rwa [zAg (t:=t) (by rw[Int.toNat_natCast]; exact hk)] at this
theorem zAH{p:Pg}(h:VP p){l:List Int}(hs:zke p l):zt1 p l=some (zAE p (inD l)):=by
 have h5:=h.t5;obtain⟨b,hb,hlb⟩:=zxl (n:=p.Treaties.length) (by omega) hs.inc;have hv:=zAq h hs;have hlen:=hs.len;have hof:=zke.bits h hb (by rw[hlb]; exact hs)
 have hth:∀j,j < p.Treaties.length->inD l j=b.testBit j:=fun j hj=>by
  rw[<- hlb]; exact zxk (n:=p.Treaties.length) (by omega) hj
 have hlF:l=zw3 b p.Treaties.length:=by rw[<- hlb]; exact zAs (by omega) hb
 obtain⟨L0,hL0⟩:=zyL h;have hcan:zy5 (zAo p l) (zAo p l).Reports:=⟨L0,hL0,fun r hr=>by cases hr⟩;obtain⟨r,a1,a2⟩:=zzf hv (number:=fun a=>ztz a) (g:=fun o=>o.society) (fun L _=>rfl) hcan
 have hnet:∀L,(zyn (l.map (tyA p.Treaties)) L).soc=(zzw p.Treaties (fun k=>b.testBit k) L).2:=fun L=>by
  rw[hlF]; exact zAx hof L
 have e:r=zAE p (inD l):=by
  rw[zAF hth];have q:IsB (inL p.Losses) (fun L=>(zzw p.Treaties (fun k=>b.testBit k) L).2) r:=a2.congr (fun L=>⟨fun q=>q.1,fun q=>⟨q,fun r hr=>by cases hr⟩⟩) fun L _=>hnet L;exact q.uniq (zAG h fun k=>b.testBit k)
 unfold zt1;rw[zAp hs.inT (by omega),obs,zyV hv,obs];have a1':ztU ({ p:=(zyP (zAo p l) (zyH (zAo p l))).p,kinds:=(zyP (zAo p l) (zyH (zAo p l))).kinds,shared:=(),played:=(zyP (zAo p l) (zyH (zAo p l))).played }:Wk) (fun a=>ztz a)=some r:=a1;rw[a1',obs,e]
theorem zAI{p:Pg}(h:VP p){l:List Int}(hs:zke p l):zt2 p l=some (decide ((zAE p (inD l)).Hi<=p.Reserve)):=by
 unfold zt2;rw[zAH h hs,obs]
theorem zAJ{p:Pg}(h:VP p){l:List Int}(hl:zr2 l)(hs:zke p l):zt3 p l=some (zAE p (inD l),0):=by
 unfold zt3;rw[zzh h,obs,if_pos rfl,(zAf h hl).some_of hs,obs,if_pos rfl,zAH h hs,obs]
def zAK(p:Pg)(l:List Int)(m:Int):Prop:=zke p l/\zAj p.Treaties l<=m/\(zAE p (inD l)).Hi<=p.Reserve
theorem zAL{p:Pg}(h:VP p){l:List Int}(hl:zr2 l){m:Int}:Ev (zt8 p l m) (zAK p l m):=by
 have h5:=h.t5;unfold zt8;rw[zzh h,obs,if_pos rfl];refine((zAf h hl).and fun hs=>(?_:Ev _ (zAj p.Treaties l<=m/\(zAE p (inD l)).Hi<=p.Reserve)));have:=hs.len;rw[zAn h hs.inT (by omega),obs];refine Ev.ite fun _=>?_;rw[zAI h hs,obs];exact Ev.dec Iff.rfl
theorem zAM{l:List Int}(h:l.length<=100000):ztM l=some l:=by
 unfold ztM;rw[zqr (by simp only[List.length_nil]; omega)]; rfl
def zAN(p:Pg)(D:List Int):Prop:=zke p D/\(zAE p (inD D)).Hi<=p.Reserve
structure zAO (p:Pg) (M:List Int):Prop where
 good:zAN p M
 min:∀D,zAN p D->zAj p.Treaties M < zAj p.Treaties D\/(zAj p.Treaties M=zAj p.Treaties D/\(D=M\/shB M D=true))
theorem zAO.uniq{p:Pg}{M M':List Int}(h:zAO p M)(h':zAO p M'):M=M':=by
 rcases h.min M' h'.good with h1 | ⟨h1,h1'⟩ <;> rcases h'.min M h.good with h2 | ⟨h2,h2'⟩
 ·omega
 ·omega
 ·omega
 ·rcases h1' with h3 | h3
  ·exact h3.symm
  ·rcases h2' with h4 | h4
   ·exact h4
   ·rw[zxa h3] at h4; cases h4
open Classical in
def zAP(p:Pg)(s:List Int × Bool)(D:List Int):List Int × Bool:=if zAN p D/\(s.2=true->zAj p.Treaties D < zAj p.Treaties s.1) then (D,true) else s
theorem zAQ{p:Pg}{s:List Int × Bool}(h:s.2=true->zke p s.1)(D:List Int):(zAP p s D).2=true->zke p (zAP p s D).1:=by
 unfold zAP
 split
 ·rename_i hc; exact fun _=>hc.1.1
 ·exact h
theorem zAR{p:Pg}(h:VP p){x:Int}(hx:0<=x/\x<=1000){K:List Int->Bool->Int->Option (List Int × Bool)}:∀(q:List (List Int)) (s:List Int × Bool),(∀D∈q,Inc p.Treaties.length 0 D)->(s.2=true->zke p s.1) ->
  zt4 p x K q s.1 s.2=K (q.foldl (zAP p) s).1 (q.foldl (zAP p) s).2 (x+1)/\((q.foldl (zAP p) s).2=true->zke p (q.foldl (zAP p) s).1)
 | [],s,_,hs=>⟨by rw[zt4,zqr (fI (by omega))]; rfl,hs⟩
 | D::q,s,hq,hs=>by
  have h5:=h.t5;have hD:=zw1 (hq D (List.mem_cons_self ..));have ih:=zAR h hx (K:=K) q (zAP p s D) (fun D hD=>hq D (List.mem_cons_of_mem _ hD)) (zAQ hs D);refine⟨?_,ih.2⟩;refine Eq.trans ?_ ih.1;rw[zt4]
  have hD5:D.length<=5:=by omega
  by_cases hset:zke p D
  ·rw[(zAf h (zr3 hD5 (by omega))).some_of hset,obs,if_pos rfl];have hg:zAN p D↔(zAE p (inD D)).Hi<=p.Reserve:=⟨fun q=>q.2,fun q=>⟨hset,q⟩⟩;obtain⟨M,b⟩:=s
   cases b with
   | true=>
    have hM:=hs rfl;have hMl:M.length<=p.Treaties.length:=hM.len
    show(if true=true then _ else _)=_
    rw[if_pos rfl,zAn h hset.inT (by omega),obs]
    show(ztu p M).bind _=_
    rw[zAn h hM.inT (by show M.length<=9; omega),obs]
    by_cases hp:zAj p.Treaties M<=zAj p.Treaties D
    ·rw[if_pos hp]
     have e:zAP p (M,true) D=(M,true):=if_neg fun q=>by have:zAj p.Treaties D < zAj p.Treaties M:=q.2 rfl; omega
     rw[e]
    ·rw[if_neg hp,zAI h hset,obs]
     by_cases hk:(zAE p (inD D)).Hi<=p.Reserve
     ·have e:zAP p (M,true) D=(D,true):=if_pos ⟨hg.2 hk,fun _=>by show zAj p.Treaties D < zAj p.Treaties M; omega⟩;rw[decide_eq_true hk,if_pos rfl,zAM (by omega),obs,e]
     ·have e:zAP p (M,true) D=(M,true):=if_neg fun q=>hk (hg.1 q.1);rw[decide_eq_false hk,if_neg (by decide),e]
   | false=>
    show(if false=true then _ else _)=_
    rw[if_neg (by decide),zAI h hset,obs]
    by_cases hk:(zAE p (inD D)).Hi<=p.Reserve
    ·have e:zAP p (M,false) D=(D,true):=if_pos ⟨hg.2 hk,fun q=>(by cases q)⟩;rw[decide_eq_true hk,if_pos rfl,zAM (by omega),obs,e]
    ·have e:zAP p (M,false) D=(M,false):=if_neg fun q=>hk (hg.1 q.1);rw[decide_eq_false hk,if_neg (by decide),e]
  ·rw[(zAf h (zr3 hD5 (by omega))).some_not hset,obs,if_neg (by decide)];have e:zAP p s D=s:=if_neg fun q=>hset q.1.1;rw[e]
theorem zAS{p:Pg}(h:VP p):∀(d e k:Nat) (s:List Int × Bool),k+e=p.Treaties.length+1->e < d->(s.2=true->zke p s.1)->zt5 p d s.1 s.2 (k:Int)=some ((zrx (fun s=>zry p.Treaties.length s [] 0) e k).foldl (zAP p) s)
 | 0,_,_,_,_,hd,_=>by omega
 | d+1,0,k,s,hk,hd,hs=>by
  rw[zt5,if_neg (by omega)]; rfl
 | d+1,e+1,k,s,hk,hd,hs=>by
  have h5:=h.t5
  have hinc:∀D∈zry p.Treaties.length k [] 0,Inc p.Treaties.length 0 D:=fun D hD=>by
   obtain⟨T,h1,_,h3⟩:=zw0.1 hD;rw[List.nil_append] at h1;rw[h1]; exact h3
  obtain⟨q1,q2⟩:=zAR h (x:=(k:Int)) (by omega) (K:=zt5 p d) (zry p.Treaties.length k [] 0) s hinc hs;rw[zt5,if_pos (by omega)];unfold zrB;rw[zqr (by omega),obs,Int.toNat_natCast,Int.toNat_natCast,q1,show(k:Int)+1=((k+1:Nat):Int) by omega];refine(zAS h d e (k+1) _ (by omega) (by omega) q2).trans ?_
  show _=some ((zry p.Treaties.length k [] 0++zrx (fun s=>zry p.Treaties.length s [] 0) e (k+1)).foldl (zAP p) s)
  rw[List.foldl_append]
theorem zAT{p:Pg}(h:VP p):zt6 p=some ((zoi p.Treaties.length).foldl (zAP p) ([],false)):=by
 have h5:=h.t5;unfold zt6;rw[zqr (fI (by omega))]
 exact zAS h _ (p.Treaties.length+1) 0 ([],false) (by omega) (by omega) fun q=>by cases q
structure zAU (p:Pg) (A:List (List Int)) (s:List Int × Bool):Prop where
 yes:s.2=true->s.1∈A/\zAN p s.1/\∀D∈A,zAN p D->zAj p.Treaties s.1 < zAj p.Treaties D\/(zAj p.Treaties s.1=zAj p.Treaties D/\(D=s.1\/shB s.1 D=true))
 no:s.2=false->s.1=[]/\∀D∈A,¬ zAN p D
theorem zAV{p:Pg}:∀(q A:List (List Int)) (s:List Int × Bool),(A++q).Pairwise (fun a b=>shB a b=true)->zAU p A s->zAU p (A++q) (q.foldl (zAP p) s)
 | [],A,s,_,h=>by rw[List.append_nil]; exact h
 | D::q,A,s,hp,h=>by
  have e:A++D::q=(A++[D])++q:=by rw[List.append_assoc]; rfl
  rw[e] at hp ⊢;refine zAV q (A++[D]) (zAP p s D) hp ?_;have hAD:∀a∈A,shB a D=true:=fun a ha=>(List.pairwise_append.1 (List.pairwise_append.1 hp).1).2.2 a ha D (List.mem_singleton.2 rfl)
  have hmem:∀D',D'∈A++[D]->D'∈A\/D'=D:=fun D' hD'=>by
   rcases List.mem_append.1 hD' with q | q
   ·exact .inl q
   ·exact .inr (List.mem_singleton.1 q)
  obtain⟨M,b⟩:=s
  by_cases hc:zAN p D/\(b=true->zAj p.Treaties D < zAj p.Treaties M)
  ·have e2:zAP p (M,b) D=(D,true):=if_pos hc;rw[e2];refine⟨fun _=>⟨List.mem_append_right _ (List.mem_singleton.2 rfl),hc.1,fun D' hD' hg=>?_⟩,fun q=>(by cases q)⟩
   rcases hmem D' hD' with hq | rfl
   ·cases b with
    | true=>
     have h1:zAj p.Treaties D < zAj p.Treaties M:=hc.2 rfl
     rcases (h.yes rfl).2.2 D' hq hg with h2 | ⟨h2,_⟩
     ·have h2:zAj p.Treaties M < zAj p.Treaties D':=h2;exact .inl (by show zAj p.Treaties D < _; omega)
     ·have h2:zAj p.Treaties M=zAj p.Treaties D':=h2;exact .inl (by show zAj p.Treaties D < _; omega)
    | false=>exact absurd hg ((h.no rfl).2 D' hq)
   ·exact .inr ⟨rfl,.inl rfl⟩
  ·have e2:zAP p (M,b) D=(M,b):=if_neg hc;rw[e2]
   cases b with
   | true=>
    refine⟨fun _=>?_,fun q=>(by cases q)⟩;obtain⟨y1,y2,y3⟩:=h.yes rfl;refine⟨List.mem_append_left _ y1,y2,fun D' hD' hg=>?_⟩
    rcases hmem D' hD' with hq | rfl
    ·exact y3 D' hq hg
    ·have h1:¬ zAj p.Treaties D' < zAj p.Treaties M:=fun q=>hc ⟨hg,fun _=>q⟩
     rcases Int.lt_or_eq_of_le (show zAj p.Treaties M<=zAj p.Treaties D' by omega) with h2 | h2
     ·exact .inl h2
     ·exact .inr ⟨h2,.inr (hAD M y1)⟩
   | false=>
    refine⟨fun q=>(by cases q),fun _=>⟨(h.no rfl).1,fun D' hD' hg=>?_⟩⟩
    rcases hmem D' hD' with hq | rfl
    ·exact(h.no rfl).2 D' hq hg
    ·exact hc ⟨hg,fun q=>(by cases q)⟩
theorem zAW{p:Pg}(h:VP p):(∃M,zt6 p=some (M,true)/\zAO p M)\/(zt6 p=some ([],false)/\∀D,¬ zAN p D):=by
 have hi:=zAV (p:=p) (zoi p.Treaties.length) [] ([],false) (zxe _) ⟨fun q=>(by cases q),fun _=>⟨rfl,fun D hD=>by cases hD⟩⟩;rw[List.nil_append] at hi;rw[zAT h];generalize (zoi p.Treaties.length).foldl (zAP p) ([],false)=s at hi;have hall:∀D,zAN p D->D∈zoi p.Treaties.length:=fun D hD=>zw2.2 hD.1.inc;obtain⟨M,b⟩:=s
 cases b with
 | true=>
  obtain⟨_,y2,y3⟩:=hi.yes rfl;exact .inl ⟨M,rfl,y2,fun D hD=>y3 D (hall D hD) hD⟩
 | false=>
  obtain⟨n1,n2⟩:=hi.no rfl;have n1:M=[]:=n1;subst n1;exact .inr ⟨rfl,fun D hD=>n2 D (hall D hD) hD⟩
theorem zAX{p:Pg}(h:VP p):(∃M,zt7 p=some (M,zAj p.Treaties M,0)/\zAO p M)\/(zt7 p=some ([],0,10)/\∀D,¬ zAN p D):=by
 have h5:=h.t5;unfold zt7;rw[zzh h,obs,if_pos rfl]
 rcases zAW h with ⟨M,q1,q2⟩ | ⟨q1,q2⟩
 ·have hl:=q2.good.1.len;refine .inl ⟨M,?_,q2⟩;rw[q1,obs]
  show(ztu p M).bind _=_
  rw[zAn h q2.good.1.inT (by omega),obs]
 ·refine .inr ⟨?_,q2⟩;rw[q1,obs]; rfl
end
end Go.Proofs.Ytkcmdghjgoaggaa

namespace Go.Proofs.Ytkcmdghjgoaggaa
open _root_.Go.Proofs.Try
open Go.Abs
set_option maxRecDepth 100000
noncomputable section
def zAY(p:Pg):Prop:=p.Losses.length<=7/\p.Treaties.length<=8/\p.Reports.length<=8
theorem VP.thin{p:Pg}(h:VP p):zAY p:=by
 have:=h.l4; have:=h.t5; have:=h.r5;exact⟨by omega,by omega,by omega⟩
def zAZ(p:Pg):Prop:=zAY p/\(VP p->zxA p.Losses<=300)
theorem zA0{p:Pg}:Ev (zun p) (zAZ p):=by
 unfold zun zAZ zAY
 by_cases h1:p.Losses.length<=7
 ·rw[if_pos (by omega)]
  by_cases h2:p.Treaties.length<=8
  ·rw[if_pos (by omega)]
   by_cases h3:p.Reports.length<=8
   ·rw[if_pos (by omega),zx4 (by omega) (by omega) (by omega),obs]
    by_cases hf:zxB p=0
    ·have hv:=zxC.1 hf;rw[if_pos hf,zx3 hv,obs];exact Ev.dec ⟨fun q=>⟨⟨h1,h2,h3⟩,fun _=>q⟩,fun q=>q.2 hv⟩
    ·rw[if_neg hf];exact Ev.tt ⟨⟨h1,h2,h3⟩,fun q=>absurd (zxC.2 q) hf⟩
   ·rw[if_neg (by omega)]; exact Ev.ff fun q=>h3 q.1.2.2
  ·rw[if_neg (by omega)]; exact Ev.ff fun q=>h2 q.1.2.1
 ·rw[if_neg (by omega)]; exact Ev.ff fun q=>h1 q.1.1
theorem zA1{p:Pg}:Ev (zut p) (VP p/\zxA p.Losses<=300):=by
 unfold zut
 by_cases ht:zAZ p
 ·obtain⟨⟨a,b,c⟩,ht2⟩:=ht;rw[zA0.some_of ⟨⟨a,b,c⟩,ht2⟩,obs,if_pos rfl,zx4 (by omega) (by omega) (by omega),obs];exact Ev.dec (zxC.trans ⟨fun q=>⟨q,ht2 q⟩,fun q=>q.1⟩)
 ·rw[zA0.some_not ht,obs,if_neg (by decide)];exact Ev.ff fun q=>ht ⟨q.1.thin,fun _=>q.2⟩
theorem zA2{p:Pg}(h:zAY p):zuk p=some p:=by
 obtain⟨h1,h2,h3⟩:=h
 have k2:zuh p p.Losses p.Treaties 1000000 p.Reserve [] 0=some p:=by
  refine(zrY (l:=p.Reports) (fun r=>r) (F:=fun d acc x=>zuh p p.Losses p.Treaties d p.Reserve acc x) (fun acc=>some ({ Losses:=p.Losses,Reserve:=p.Reserve,Treaties:=p.Treaties,Reports:=acc }:Pg)) (fun d k acc a hk ha=>?_) (fun d acc=>?_) (d:=1000000) (by omega)).trans (by rw[List.map_id'])
  ·have hkl:=(List.getElem?_eq_some_iff.1 hk).1
   show zuh p p.Losses p.Treaties (d+1) _ _ _=_
   rw[zuh,if_pos (by omega),zrS hk,obs,obs]
   show(some a.Paid).bind _=_
   rw[obs,zqr (by omega),zqr (fI (by omega))]
  ·show zuh p p.Losses p.Treaties (d+1) _ _ _=_
   rw[zuh,if_neg (Int.lt_irrefl _)]
 have k1:zui p p.Losses 1000000 p.Reserve [] [] 0=some p:=by
  refine(zrY (l:=p.Treaties) (fun r=>r) (F:=fun d acc x=>zui p p.Losses d p.Reserve acc [] x) (fun acc=>zuh p p.Losses acc 1000000 p.Reserve [] 0) (fun d k acc a hk ha=>?_) (fun d acc=>?_) (d:=1000000) (by omega)).trans (by rw[List.map_id']; exact k2)
  ·have hkl:=(List.getElem?_eq_some_iff.1 hk).1
   show zui p p.Losses (d+1) _ _ _ _=_
   rw[zui,if_pos (by omega),zrS hk,obs,zqr (by omega),zqr (fI (by omega))]
  ·show zui p p.Losses (d+1) _ _ _ _=_
   rw[zui,if_neg (Int.lt_irrefl _)]
 refine(zrY (l:=p.Losses) (fun r=>r) (F:=fun d acc x=>zuj p d acc p.Reserve [] [] x) (fun acc=>zui p acc 1000000 p.Reserve [] [] 0) (fun d k acc a hk ha=>?_) (fun d acc=>?_) (d:=1000000) (by omega)).trans (by rw[List.map_id']; exact k1)
 ·have hkl:=(List.getElem?_eq_some_iff.1 hk).1
  show zuj p (d+1) _ _ _ _ _=_
  rw[zuj,if_pos (by omega),zrS hk,obs]
  show(some a).bind _=_
  rw[obs,zqr (by omega),zqr (fI (by omega))]
 ·show zuj p (d+1) _ _ _ _ _=_
  rw[zuj,if_neg (Int.lt_irrefl _)]
theorem zA3{l:List Int}(h:l.length<=1000):zuf l=some l:=by
 unfold zuf;rw[zqr (show([]:List Int).length+l.length<=1048576 by show 0+_<=_; omega)]; rfl
theorem zA4{l:List Int}(hl:l.length<=1000):zum l l=some true:=by
 unfold zum;rw[if_pos rfl]
 have key:=zr1 (l:=l) (F:=zul l l) (ok:=fun _=>True) (bad:=some false) (fin:=some true) (fun d k a ha=>by
  have hk:=(List.getElem?_eq_some_iff.1 ha).1;refine⟨fun _=>?_,fun h=>absurd trivial h⟩
  rw[zul,if_pos (by omega),zrS ha,obs,obs,if_pos rfl,zqr (fI (by omega))]) (fun d=>by rw[zul,if_neg (Int.lt_irrefl _)]) (d:=l.length+1) (by omega)
 exact key.1 fun _ _=>trivial
def zA5(n:Int)(rs:List Rpt):Pg:={ Losses:=[{ Lo:=100,Hi:=120 },{ Lo:=300,Hi:=300 }],Reserve:=n,Treaties:=[{ Kind:=0,Part:=25,Above:=0,Most:=0,Times:=0,Price:=50,Of:=-1 },{ Kind:=1,Part:=0,Above:=50,Most:=100,Times:=0,Price:=30,Of:=-1 },{ Kind:=1,Part:=0,Above:=20,Most:=40,Times:=1,Price:=5,Of:=0 }],Reports:=rs }
def zA6:List Rpt:=[{ Treaty:=0,Paid:={ Lo:=103,Hi:=110 } },{ Treaty:=2,Paid:={ Lo:=45,Hi:=46 } }]
theorem zA7(rs:List Rpt):zup rs=some (zA5 200 rs):=rfl
theorem zA8:zuq=some zA6:=rfl
theorem zA9(n:Int):zur n=some (zA5 n []):=rfl
theorem zBa{a b hi:Int}(h1:0<=a)(h2:a<=b)(h3:b<=hi):RgV { Lo:=a,Hi:=b } hi:=⟨h1,h2,h3⟩
theorem zBb{n:Int}{rs:List Rpt}(hn:0<=n/\n<=10000)(hr:rs.length<=5)(hrs:∀r∈rs,(0<=r.Treaty/\r.Treaty<=2)/\RgV r.Paid 10000):VP (zA5 n rs):=by
 refine { ls:=fun r hr=>?_,res:=hn,ts:=fun t ht=>?_,of':=fun i t ht=>?_,rs:=fun r hr=>?_,l4:=by show 2<=4; omega,t5:=by show 3<=5; omega,r5:=hr,many:=by show zxA [{ Lo:=100,Hi:=120 },{ Lo:=300,Hi:=300 }]<=1500; decide }
 ·rcases List.mem_cons.1 hr with rfl | hr
  ·exact zBa (by omega) (by omega) (by omega)
  rcases List.mem_cons.1 hr with rfl | hr
  ·exact zBa (by omega) (by omega) (by omega)
  ·cases hr
 ·rcases List.mem_cons.1 ht with rfl | ht
  ·exact⟨by unfold zgo; decide,by decide,by decide⟩
  rcases List.mem_cons.1 ht with rfl | ht
  ·exact⟨by unfold zgo; decide,by decide,by decide⟩
  rcases List.mem_cons.1 ht with rfl | ht
  ·exact⟨by unfold zgo; decide,by decide,by decide⟩
  ·cases ht
 ·match i,ht with
  | 0,ht=>cases ht; exact⟨by decide,by decide⟩
  | 1,ht=>cases ht; exact⟨by decide,by decide⟩
  | 2,ht=>cases ht; exact⟨by decide,by decide⟩
  | k+3,ht=>cases ht
 ·exact⟨(hrs r hr).1,(hrs r hr).2⟩
theorem vp3(n:Int)(hn:0<=n/\n<=10000):VP (zA5 n []):=zBb hn (by show 0<=5; omega) fun r hr=>by cases hr
theorem zBc:VP (zA5 200 zA6):=zBb (by omega) (by show 2<=5; omega) fun r hr=>by
 rcases List.mem_cons.1 hr with rfl | hr
 ·exact⟨⟨by decide,by decide⟩,zBa (by omega) (by omega) (by omega)⟩
 rcases List.mem_cons.1 hr with rfl | hr
 ·exact⟨⟨by decide,by decide⟩,zBa (by omega) (by omega) (by omega)⟩
 ·cases hr
theorem zBd{p:Pg}(h:VP p){D:List Int}(hD:Inc p.Treaties.length 0 D):∃b,b < 2 ^ p.Treaties.length/\zw4 b=D:=zxl (by have:=h.t5; omega) hD
theorem zBe:zke (zA5 200 []) [1]:=⟨List.pairwise_singleton _ _,fun v hv=>by
 have:=List.mem_singleton.1 hv; subst this
 exact⟨⟨by decide,by decide⟩,by decide +kernel⟩⟩
theorem zBf:zAO (zA5 300 []) [0,1]:=by
 have hs:zke (zA5 300 []) [0,1]:=⟨by simp,fun v hv=>by
  rcases List.mem_cons.1 hv with rfl | hv
  ·exact⟨⟨by decide,by decide⟩,by decide +kernel⟩
  ·have:=List.mem_singleton.1 hv; subst this
   exact⟨⟨by decide,by decide⟩,by decide +kernel⟩⟩
 refine⟨⟨hs,by decide +kernel⟩,fun D hD=>?_⟩;obtain⟨b,hb,rfl⟩:=zBd (vp3 300 (by omega)) hD.1.inc;have hb:b < 8:=hb
 have:b=0\/b=1\/b=2\/b=3\/b=4\/b=5\/b=6\/b=7:=by omega
 rcases this with rfl | rfl | rfl | rfl | rfl | rfl | rfl | rfl
 ·exact absurd hD.2 (by decide +kernel)
 ·exact absurd hD.2 (by decide +kernel)
 ·exact absurd hD.2 (by decide +kernel)
 ·have e:zw4 3=[0,1]:=by decide +kernel
  rw[e]; exact .inr ⟨rfl,.inl rfl⟩
 ·exact absurd (hD.1.2 2 (by decide +kernel)).2 (by decide +kernel)
 ·exact absurd (hD.1.2 2 (by decide +kernel)).2 (by decide +kernel)
 ·exact absurd (hD.1.2 2 (by decide +kernel)).2 (by decide +kernel)
 ·exact absurd (hD.1.2 2 (by decide +kernel)).2 (by decide +kernel)
def okT(L:List Int):Bool:=decide (103<=(zyn (zA5 200 zA6).Treaties L).pays 0/\(zyn (zA5 200 zA6).Treaties L).pays 0<=110) && decide (45<=(zyn (zA5 200 zA6).Treaties L).pays 2/\(zyn (zA5 200 zA6).Treaties L).pays 2<=46)
theorem zBg:(zAC (zA5 200 zA6)).all (fun L=>!okT L)=true:=by decide +kernel
theorem zBh:¬ zy5 (zA5 200 zA6) zA6:=by
 rintro⟨L,hL,hA⟩
 have h1:=hA _ (List.mem_cons_self ..);have h2:=hA _ (List.mem_cons_of_mem _ (List.mem_cons_self ..));have h3:=List.all_eq_true.1 zBg L ((zAD zBc).2 hL)
 have h4:okT L=true:=by
  unfold okT;rw[Bool.and_eq_true_iff];exact⟨decide_eq_true h1,decide_eq_true h2⟩
 rw[h4] at h3; cases h3
theorem fp0:FP (zA5 200 zA6) 0:=⟨[112,300],⟨⟨by decide,by decide⟩,⟨by decide,by decide⟩,trivial⟩,fun r hr=>by
 have hr:r∈[({ Treaty:=0,Paid:={ Lo:=103,Hi:=110 } }:Rpt)]:=hr;have:=List.mem_singleton.1 hr; subst this
 exact(by decide +kernel:(103:Int)<=(zyn (zA5 200 zA6).Treaties [112,300]).pays 0/\(zyn (zA5 200 zA6).Treaties [112,300]).pays 0<=110)⟩
theorem zBi:zuc (zA5 200 zA6)=some (1,0):=by
 rcases zAa zBc with ⟨j,a1,a2,a3,a4⟩ | ⟨a1,a2⟩
 ·have:j=1:=zAb (p:=zA5 200 zA6) a2 a3 (j':=1) zBh fun i hi=>by
   rw[show i=0 by omega]; exact fp0
  subst this; exact a4
 ·exact absurd (a1 1 (by show 1 < 2; omega)) zBh
theorem zBj:zue (zA5 200 zA6)=some ([0],0):=by
 obtain⟨M,q1,q2⟩:=zz8 zBc
 have hm:zzG 2 (PL (zA5 200 zA6)) [0]:=by
  refine⟨⟨List.pairwise_singleton _ _,fun v hv=>by have:=List.mem_singleton.1 hv; subst this; exact⟨by decide,by decide⟩⟩,⟨[100,300],⟨⟨by decide,by decide⟩,⟨by decide,by decide⟩,trivial⟩,fun j hj hs=>?_⟩,fun D hD hP=>?_⟩
  ·have hj:j < 2:=hj
   have:j=0\/j=1:=by omega
   rcases this with rfl | rfl
   ·exact absurd hs (by decide +kernel)
   ·refine(zzN (p:=zA5 200 zA6) (j:=1) rfl).2 ?_;exact(by decide +kernel:(45:Int)<=(zyn (zA5 200 zA6).Treaties [100,300]).pays 2/\(zyn (zA5 200 zA6).Treaties [100,300]).pays 2<=46)
  ·obtain⟨b,hb,rfl⟩:=zxl (n:=2) (by omega) hD;have hb:b < 4:=hb
   have:b=0\/b=1\/b=2\/b=3:=by omega
   rcases this with rfl | rfl | rfl | rfl
   ·refine absurd (zzS.2 ((PL.congr fun j hj=>?_).1 hP)) zBh;have hj:j < 2:=hj
    have:j=0\/j=1:=by omega
    rcases this with rfl | rfl <;> decide +kernel
   ·exact .inl (by decide +kernel)
   ·exact .inr (by decide +kernel)
   ·exact .inr (by decide +kernel)
 rw[q2.uniq hm] at q1;exact q1
theorem zBk:zy5 (zA5 200 []) (zA5 200 []).Reports:=⟨[100,300],⟨⟨by decide,by decide⟩,⟨by decide,by decide⟩,trivial⟩,fun r hr=>by cases hr⟩
theorem zBl:ztP (zA5 200 []) [100,300]=some ([100,100,45],200,0):=by
 rw[zzl (vp3 200 (by omega)) (L:=[100,300]) ⟨⟨by decide,by decide⟩,⟨by decide,by decide⟩,trivial⟩]
 have e1:lN (zA5 200 []).Treaties.length (zyn (zA5 200 []).Treaties [100,300]).pays=[100,100,45]:=by decide +kernel
 have e2:(zyn (zA5 200 []).Treaties [100,300]).soc=200:=by decide +kernel
 rw[e1,e2]
theorem zBm{r:Rg}{a b:Int}(h1:r.Lo=a)(h2:r.Hi=b):r={ Lo:=a,Hi:=b }:=by cases r; subst h1; subst h2; rfl
theorem zBn:ztZ (zA5 200 [])=some (bsN 3 (bdF (zA5 200 []) (trL (zA5 200 []))),0):=by
 have h:=vp3 200 (by omega);obtain⟨bs,q1,q2⟩:=zzo h zBk;rw[q1,q2.uniq (zzX h zBk).1]; rfl
theorem bd0:bdF (zA5 200 []) (trL (zA5 200 [])) 0={ Pays:={ Lo:=100,Hi:=105 },Keeps:={ Lo:=55,Hi:=55 } }:=by
 have e1:=zBm (r:=(bdF (zA5 200 []) (trL (zA5 200 [])) 0).Pays) (a:=100) (b:=105) (by decide +kernel) (by decide +kernel);have e2:=zBm (r:=(bdF (zA5 200 []) (trL (zA5 200 [])) 0).Keeps) (a:=55) (b:=55) (by decide +kernel) (by decide +kernel);generalize bdF (zA5 200 []) (trL (zA5 200 [])) 0=b at e1 e2
 cases b; simp only at e1 e2; rw[e1,e2]
theorem bd2:bdF (zA5 200 []) (trL (zA5 200 [])) 2={ Pays:={ Lo:=45,Hi:=50 },Keeps:={ Lo:=45,Hi:=50 } }:=by
 have e1:=zBm (r:=(bdF (zA5 200 []) (trL (zA5 200 [])) 2).Pays) (a:=45) (b:=50) (by decide +kernel) (by decide +kernel);have e2:=zBm (r:=(bdF (zA5 200 []) (trL (zA5 200 [])) 2).Keeps) (a:=45) (b:=50) (by decide +kernel) (by decide +kernel);generalize bdF (zA5 200 []) (trL (zA5 200 [])) 2=b at e1 e2
 cases b; simp only at e1 e2; rw[e1,e2]
theorem zBo:zt0 (zA5 200 [])=some ({ Lo:=200,Hi:=215 },0):=by
 have h:=vp3 200 (by omega);obtain⟨r,q1,q2⟩:=zzp h zBk;rw[q1,q2.uniq (zzX h zBk).2,zBm (r:=wdL (fun L=>(zyn (zA5 200 []).Treaties L).soc) (trL (zA5 200 []))) (a:=200) (b:=215) (by decide +kernel) (by decide +kernel)]
theorem zBp:zt3 (zA5 200 []) [1]=some ({ Lo:=300,Hi:=320 },0):=by
 rw[zAJ (vp3 200 (by omega)) (by unfold zr2; decide) zBe,zBm (r:=zAE (zA5 200 []) (inD [1])) (a:=300) (b:=320) (by decide +kernel) (by decide +kernel)]
theorem zBq:zt7 (zA5 300 [])=some ([0,1],80,0):=by
 rcases zAX (vp3 300 (by omega)) with ⟨M,q1,q2⟩ | ⟨_,q2⟩
 ·rw[q1,q2.uniq zBf]; rfl
 ·exact absurd zBf.good (q2 _)
theorem zBr:zt8 (zA5 300 []) [0,1] 80=some true:=
 (zAL (vp3 300 (by omega)) (by unfold zr2; decide)).some_of ⟨zBf.good.1,by decide +kernel,zBf.good.2⟩
theorem f64{n:Int}(h:-1000000<=n/\n<=1000000):zl7 .i64 n:=fI (by omega)
theorem zBs:zus=some true:=by
 have i0:idx (bsN 3 (bdF (zA5 200 []) (trL (zA5 200 [])))) 0=some { Pays:={ Lo:=100,Hi:=105 },Keeps:={ Lo:=55,Hi:=55 } }:=by
  have:=zrS (zzW (n:=3) (f:=bdF (zA5 200 []) (trL (zA5 200 []))) (k:=0) (by omega));rw[bd0] at this; exact this
 have i2:idx (bsN 3 (bdF (zA5 200 []) (trL (zA5 200 [])))) 2=some { Pays:={ Lo:=45,Hi:=50 },Keeps:={ Lo:=45,Hi:=50 } }:=by
  have:=zrS (zzW (n:=3) (f:=bdF (zA5 200 []) (trL (zA5 200 []))) (k:=2) (by omega));rw[bd2] at this; exact this
 have hl:((bsN 3 (bdF (zA5 200 []) (trL (zA5 200 [])))).length:Int)=3:=by rw[zzV]; rfl
 have s1:zum [100,100,45] [100,100,45]=some true:=zA4 (by decide);have s2:zum [0,1] [0,1]=some true:=zA4 (by decide);have s3:zum [0] [0]=some true:=zA4 (by decide);have f:∀n:Int,-1000000<=n/\n<=1000000->zl7 .i64 n:=fun n h=>f64 h;unfold zus
 simp only[zA7,zA8,zA9,obs,zBl,zBn,zBo,zBp,zBq,zBi,zBj,s1,s2,s3,if_true,hl,i0,i2,zuo]
 rw[zqr (f 100 (by omega)),zqr (f 100 (by omega)),zqr (f 105 (by omega)),zqr (f 105 (by omega)),zqr (f 55 (by omega)),zqr (f 55 (by omega)),zqr (f 55 (by omega)),zqr (f 55 (by omega)),if_pos (by decide),zqr (f 45 (by omega)),zqr (f 45 (by omega)),zqr (f 50 (by omega)),zqr (f 50 (by omega)),zqr (f 45 (by omega)),zqr (f 45 (by omega)),zqr (f 50 (by omega)),zqr (f 50 (by omega)),if_pos (by decide),zqr (f 200 (by omega)),zqr (f 200 (by omega)),zqr (f 215 (by omega)),zqr (f 215 (by omega)),if_pos (by decide),zqr (f 300 (by omega)),zqr (f 300 (by omega)),zqr (f 320 (by omega)),zqr (f 320 (by omega)),if_pos (by decide)]
 simp only[zBr,obs,if_true]
theorem aw:((zus).bind fun r=>some r)=some true:=by rw[zBs]; rfl
theorem u8w{x:Int}(h:zl7 .u8 x):zmb .i64 x=x/\0<=x/\x < 256:=by
 have h':0<=x/\x < 256:=h;exact⟨wz (fI (by omega)),h'⟩
theorem zBt{x:Int}(h:zl7 .u16 x):zmb .i64 x=x/\0<=x/\x < 65536:=by
 have h':0<=x/\x < 65536:=h;exact⟨wz (fI (by omega)),h'⟩
theorem IsB.sub{S S':List Int->Prop}{g:List Int->Int}{r r':Rg}(h:IsB S g r)(h':IsB S' g r')(hS:∀L,S' L->S L):r.Lo<=r'.Lo/\r'.Hi<=r.Hi:=by
 obtain⟨⟨a,a1,a2⟩,⟨b,b1,b2⟩,_⟩:=h';have q1:=h.2.2 a (hS a a1);have q2:=h.2.2 b (hS b b1)
 omega
structure zBu (ts ts':List Ty):Prop where
 len:ts.length=ts'.length
 same:∀(k:Nat) (t t':Ty),ts[k]? = some t->ts'[k]? = some t'->(t.Of < 0↔t'.Of < 0)/\(t.Of < 0->t=t')
theorem zBv{ts ts':List Ty}(hs:zBu ts ts'){th:Nat->Bool}{P P':Nat->Int}(hP:∀j,ofB ts j=true->P j=P' j){x:Int}:∀k,k<=ts.length->a1 ts th P x k=a1 ts' th P' x k
 | 0,_=>rfl
 | k+1,hk=>by
  have hg:=List.getElem?_eq_getElem (show k < ts.length by omega);have hg':=List.getElem?_eq_getElem (show k < ts'.length by have:=hs.len; omega);obtain⟨h1,h2⟩:=hs.same k _ _ hg hg';rw[zzr hg,zzr hg',zBv hs hP k (by omega)];have hofb:=zzx hg;generalize ts[k]'(by omega)=t at hg h1 h2 hofb;generalize ts'[k]'(by have:=hs.len; omega)=t' at hg' h1 h2
  by_cases hc:t.Of < 0/\th k=true
  ·have e:=h2 hc.1;subst e;rw[if_pos hc,if_pos hc,hP k (by rw[hofb]; exact decide_eq_true hc.1)]
  ·rw[if_neg hc,if_neg fun q=>hc ⟨h1.2 q.1,q.2⟩]
theorem zBu.of{ts ts':List Ty}(hs:zBu ts ts'){j:Nat}(h:ofB ts j=true):ofB ts' j=true:=by
 by_cases hj:j < ts.length
 ·have hg:=List.getElem?_eq_getElem hj;have hg':=List.getElem?_eq_getElem (show j < ts'.length by have:=hs.len; omega);rw[zzx hg,decide_eq_true_eq] at h;rw[zzx hg',decide_eq_true_eq];exact(hs.same j _ _ hg hg').1.1 h
 ·unfold ofB at h;rw[List.getElem?_eq_none (by omega)] at h
  cases h
theorem zBw{ts ts':List Ty}(hs:zBu ts ts'){th:Nat->Bool}:∀(L:List Int) (s s':(Nat->Int) × Int),(∀j,ofB ts j=true->s.1 j=s'.1 j)->s.2=s'.2 ->
  (∀j,ofB ts j=true->(L.foldl (zzv ts th) s).1 j=(L.foldl (zzv ts' th) s').1 j)/\(L.foldl (zzv ts th) s).2=(L.foldl (zzv ts' th) s').2
 | [],_,_,h1,h2=>⟨h1,h2⟩
 | x::L,s,s',h1,h2=>by
  have e:=zBv hs (th:=th) h1 (x:=x) ts.length (Nat.le_refl _);refine zBw hs L (zzv ts th s x) (zzv ts' th s' x) (fun j hj=>?_) ?_
  ·show s.1 j+(a2 ts s.1 (a1 ts th s.1 x ts.length).1 ts.length).1 j=s'.1 j+(a2 ts' s'.1 (a1 ts' th s'.1 x ts'.length).1 ts'.length).1 j
   rw[zAv hj _ (Nat.le_refl _),zAv (hs.of hj) _ (Nat.le_refl _),h1 j hj,e,hs.len]
  ·show s.2+(a1 ts th s.1 x ts.length).2=s'.2+(a1 ts' th s'.1 x ts'.length).2
   rw[e,h2,hs.len]
theorem zBx{ts ts':List Ty}(h1:zyh ts)(h2:zyh ts')(hs:zBu ts ts')(L:List Int):(∀j,ofB ts j=true->(zyn ts L).pays j=(zyn ts' L).pays j)/\(zyn ts L).soc=(zyn ts' L).soc:=by
 obtain⟨a,b⟩:=zzC h1 (th:=fun _=>true) (fun _ _=>rfl) L;obtain⟨a',b'⟩:=zzC h2 (th:=fun _=>true) (fun _ _=>rfl) L;obtain⟨c,d⟩:=zBw hs (th:=fun _=>true) L (fun _=>0,0) (fun _=>0,0) (fun _ _=>rfl) rfl;exact⟨fun j hj=>by rw[<- a j,<- a' j]; exact c j hj,by rw[<- b,<- b']; exact d⟩
def tsN(n:Nat)(f:Nat->Ty):List Ty:=(List.range n).map f
theorem zBy{n:Nat}{f:Nat->Ty}:(tsN n f).length=n:=by unfold tsN; rw[List.length_map,List.length_range]
theorem zBz{n:Nat}{f:Nat->Ty}{k:Nat}(h:k < n):(tsN n f)[k]? = some (f k):=by unfold tsN; rw[List.getElem?_map,List.getElem?_range h]; rfl
theorem zBA{n:Nat}{f g:Nat->Ty}(h:∀k,k < n->f k=g k):tsN n f=tsN n g:=List.map_congr_left fun k hk=>h k (List.mem_range.1 hk)
theorem zBB{n:Nat}{f:Nat->Ty}{k:Nat}(h:k < n)(b:Ty):(tsN n f).set k b=tsN n fun j=>if j=k then b else f j:=by
 refine List.ext_getElem? fun j=>?_
 by_cases hj:j < n
 ·rw[zBz hj]
  by_cases hjk:j=k
  ·subst hjk; rw[List.getElem?_set_self (by rw[zBy]; exact hj),if_pos rfl]
  ·rw[List.getElem?_set_ne (Ne.symm hjk),zBz hj,if_neg hjk]
 ·rw[List.getElem?_eq_none (by rw[List.length_set,zBy]; omega),List.getElem?_eq_none (by rw[zBy]; omega)]
theorem zBC(ts:List Ty):tsN ts.length (fun k=>tyA ts (k:Int))=ts:=by
 refine List.ext_getElem? fun j=>?_
 by_cases hj:j < ts.length
 ·rw[zBz hj,List.getElem?_eq_getElem hj];exact congrArg some (zAg (by rw[Int.toNat_natCast]; exact List.getElem?_eq_getElem hj))
 ·rw[List.getElem?_eq_none (by rw[zBy]; omega),List.getElem?_eq_none (by omega)]
def zBD(a b:Int)(i:Nat)(t:Ty):Ty:=
 if 0<=t.Of then (if i % 2=0 then { Kind:=0,Part:=1+a % 100,Above:=0,Most:=0,Times:=0,Price:=0,Of:=t.Of } else { Kind:=1,Part:=0,Above:=b,Most:=1+a,Times:=0,Price:=0,Of:=b % (i:Int) }) else t
def zBE(p:Pg)(a b:Int):List Ty:=tsN p.Treaties.length fun k=>zBD a b k (tyA p.Treaties (k:Int))
theorem zBF{p:Pg}{a b:Int}{k:Nat}{t:Ty}(h:p.Treaties[k]? = some t):(zBE p a b)[k]? = some (zBD a b k t):=by
 unfold zBE;rw[zBz (List.getElem?_eq_some_iff.1 h).1,zAg (t:=t) (by rw[Int.toNat_natCast]; exact h)]
theorem zBG{p:Pg}{a b:Int}:(zBE p a b).length=p.Treaties.length:=zBy
theorem zBH{p:Pg}(h:zxw p.Treaties){a b:Int}{k:Nat}{t:Ty}(hk:p.Treaties[k]? = some t):(-1<=(zBD a b k t).Of/\(zBD a b k t).Of<=(k:Int) - 1)/\(t.Of < 0↔(zBD a b k t).Of < 0)/\(t.Of < 0->t=zBD a b k t):=by
 have ho:=h k t hk;unfold zBD
 by_cases h0:0<=t.Of
 ·rw[if_pos h0]
  by_cases h2:k % 2=0
  ·rw[if_pos h2];refine⟨ho,Iff.rfl,fun q=>by omega⟩
  ·rw[if_neg h2];have m1:=Int.emod_nonneg b (show(k:Int) ≠ 0 by omega);have m2:=Int.emod_lt_of_pos b (show(0:Int) < k by omega);refine⟨?_,?_,fun q=>by omega⟩
   ·show -1<=b % (k:Int)/\b % (k:Int)<=(k:Int) - 1
    omega
   ·show t.Of < 0↔b % (k:Int) < 0
    omega
 ·rw[if_neg h0];exact⟨ho,Iff.rfl,fun _=>rfl⟩
theorem zBI{t:Ty}(ht:zxv t){a b:Int}(ha:0<=a/\a < 256)(hb:0<=b/\b < 256)(k:Nat):zxv (zBD a b k t):=by
 unfold zBD
 by_cases h0:0<=t.Of
 ·rw[if_pos h0]
  by_cases h2:k % 2=0
  ·rw[if_pos h2];refine⟨.inl ⟨rfl,?_,rfl,rfl,rfl⟩,by show(0:Int)<=0; omega,by show(0:Int)<=1000; omega⟩
   show 1<=1+a % 100/\1+a % 100<=100
   omega
  ·rw[if_neg h2];refine⟨.inr ⟨rfl,rfl,?_,?_,?_,?_⟩,by show(0:Int)<=0; omega,by show(0:Int)<=1000; omega⟩
   ·show 0<=b/\b<=1000; omega
   ·show 1<=1+a/\1+a<=1000; omega
   ·show(0:Int)<=0; omega
   ·show(0:Int)<=3; omega
 ·rw[if_neg h0]; exact ht
def noR(p:Pg)(ts:List Ty):Pg:={ Losses:=p.Losses,Reserve:=p.Reserve,Treaties:=ts,Reports:=[] }
theorem zBJ{p:Pg}(h:VP (noR p p.Treaties)){a b:Int}(ha:0<=a/\a < 256)(hb:0<=b/\b < 256):VP (noR p (zBE p a b)):=by
 have h5:p.Treaties.length<=5:=h.t5;refine { ls:=h.ls,res:=h.res,ts:=fun t ht=>?_,of':=fun i t ht=>?_,rs:=fun r hr=>(by cases hr),l4:=h.l4,t5:=?_,r5:=Nat.zero_le _,many:=h.many }
 ·obtain⟨i,hi⟩:=List.mem_iff_getElem?.1 (show t∈zBE p a b from ht);have hil:=(List.getElem?_eq_some_iff.1 hi).1;rw[zBG] at hil;have hg:=List.getElem?_eq_getElem hil;rw[zBF hg] at hi
  cases hi
  exact zBI (h.ts _ (List.getElem_mem hil)) ha hb i
 ·have hi:(zBE p a b)[i]? = some t:=ht;have hil:=(List.getElem?_eq_some_iff.1 hi).1;rw[zBG] at hil;have hg:=List.getElem?_eq_getElem hil;rw[zBF hg] at hi
  cases hi
  exact(zBH (p:=p) h.of' hg).1
 ·show(zBE p a b).length<=5
  rw[zBG]; exact h5
theorem zBK{p:Pg}(h:zxw p.Treaties){a b:Int}:zBu p.Treaties (zBE p a b):=by
 refine⟨zBG.symm,fun k t t' hk hk'=>?_⟩;rw[zBF hk] at hk'
 cases hk'
 exact(zBH h hk).2
theorem zBL{p:Pg}{ts:List Ty}(h:VP (noR p ts)):zy5 (noR p ts) (noR p ts).Reports:=by
 obtain⟨L,hL⟩:=zyL h;exact⟨L,hL,fun r hr=>by cases hr⟩
theorem zBM{p:Pg}{which part above:Int}(_:zsr p)(hbig:p.Treaties.length * 56<=140737488351232)(hw:zl7 .u16 which)(hq:zl7 .u8 part)(hr:zl7 .u8 above):zuw p which part above=some true:=by
 unfold zuw
 simp only[List.nil_append,List.length_nil,Nat.zero_add]
 rw[zqr (by omega)]
 refine(zA1 (p:=noR p p.Treaties)).pick (fun hv=>?_) fun _=>by rw[if_neg (by decide),aw]
 have h:VP (noR p p.Treaties):=hv.1;have h5:p.Treaties.length<=5:=h.t5;have hm:zxA p.Losses<=1500:=h.many;have hm1:1<=zxA p.Losses:=h.prodPos;obtain⟨w1,w2⟩:=zBt hw;obtain⟨a1,a2⟩:=u8w hq;obtain⟨b1,b2⟩:=u8w hr;have hy:=zBJ h a2 b2;have hS:=zBK (p:=p) h.of' (a:=part) (b:=above);have m1:=Int.emod_nonneg which (show zxA p.Losses ≠ 0 by omega);have m2:=Int.emod_lt_of_pos which (show 0 < zxA p.Losses by omega);have hin:inL p.Losses (zzI p.Losses (which % zxA p.Losses)):=h.nthIn (n:=which % zxA p.Losses) m1;have hT9:(zzI p.Losses (which % zxA p.Losses)).length<=9:=l9 h hin;rw[if_pos rfl,zqr (by omega)];have key:=zxm (n:=p.Treaties.length) (fin:=some true) (fun d (s:List Ty) y=>zuv p which part above d p.Reserve s y) (fun k=>tsN p.Treaties.length fun j=>if j < k then zBD part above j (tyA p.Treaties (j:Int)) else tyA p.Treaties (j:Int)) (fun d k hk=>?_) (fun d=>?_) 1000000 0 (by omega) (by omega)
 ·have e0:(tsN p.Treaties.length fun j=>if j < 0 then zBD part above j (tyA p.Treaties (j:Int)) else tyA p.Treaties (j:Int))=p.Treaties:=(zBA fun j _=>if_neg (Nat.not_lt_zero _)).trans (zBC _);rw[e0] at key;exact key
 ·have hg:=List.getElem?_eq_getElem hk;have hta:tyA p.Treaties (k:Int)=p.Treaties[k]:=zAg (by rw[Int.toNat_natCast]; exact hg);have ho:=h.of' k _ hg
  show zuv p which part above (d+1) _ _ _=zuv p which part above d _ _ _
  rw[zuv,if_pos (by rw[zBy]; omega),zrS (zBz hk),obs,if_neg (Nat.lt_irrefl k),hta]
  have e:∀b,b=zBD part above k p.Treaties[k]->((tsN p.Treaties.length fun j=>if j < k then zBD part above j (tyA p.Treaties (j:Int)) else tyA p.Treaties (j:Int)).set k b)=tsN p.Treaties.length fun j=>if j < k+1 then zBD part above j (tyA p.Treaties (j:Int)) else tyA p.Treaties (j:Int):=fun b hb=>by
   rw[zBB hk];refine zBA fun j hj=>?_
   by_cases hjk:j=k
   ·subst hjk; rw[if_pos rfl,if_pos (by omega),hta,hb]
   ·rw[if_neg hjk]
    by_cases hj2:j < k
    ·rw[if_pos hj2,if_pos (by omega)]
    ·rw[if_neg hj2,if_neg (by omega)]
  by_cases h0:0<=(p.Treaties[k]).Of
  ·rw[if_pos h0,zqr (by omega),zqr (by omega),zqr (fI (by omega)),a1,b1]
   by_cases h2:k % 2=0
   ·rw[if_pos (by omega),zqr a2.1,zqr (by omega),zqr (fI (by omega)),zqr (fI (by omega)),zqr (fI (by omega)),Int.toNat_natCast];rw[e _ (by unfold zBD; rw[if_pos h0,if_pos h2])]
   ·have m1:=Int.emod_nonneg above (show(k:Int) ≠ 0 by omega);have m2:=Int.emod_lt_of_pos above (show(0:Int) < k by omega);rw[if_neg (by omega),zqr (fI (by omega)),zqr b2.1,zqr (by omega),zqr (fI (by omega)),zqr (fI (by omega)),Int.toNat_natCast];rw[e _ (by unfold zBD; rw[if_pos h0,if_neg h2])]
  ·rw[if_neg h0,zqr (fI (by omega))];have e2:=e p.Treaties[k] (by unfold zBD; rw[if_neg h0])
   have e3:((tsN p.Treaties.length fun j=>if j < k then zBD part above j (tyA p.Treaties (j:Int)) else tyA p.Treaties (j:Int)).set k p.Treaties[k])=tsN p.Treaties.length fun j=>if j < k then zBD part above j (tyA p.Treaties (j:Int)) else tyA p.Treaties (j:Int):=by
    rw[zBB hk];refine zBA fun j hj=>?_
    by_cases hjk:j=k
    ·subst hjk; rw[if_pos rfl,if_neg (Nat.lt_irrefl _),hta]
    ·rw[if_neg hjk]
   rw[e3] at e2;rw[e2]
 ·have eT:(tsN p.Treaties.length fun j=>if j < p.Treaties.length then zBD part above j (tyA p.Treaties (j:Int)) else tyA p.Treaties (j:Int))=zBE p part above:=zBA fun j hj=>if_pos hj
  show zuv p which part above (d+1) p.Reserve (tsN p.Treaties.length fun j=>if j < p.Treaties.length then zBD part above j (tyA p.Treaties (j:Int)) else tyA p.Treaties (j:Int)) _=some true
  rw[eT,zuv,if_neg (by rw[zBG]; omega)]
  simp only[List.nil_append,w1]
  have eM:zsz { Losses:=p.Losses,Reserve:=p.Reserve,Treaties:=p.Treaties,Reports:=[] }=some (zxA p.Losses):=zx3 h;have eN:zsE { Losses:=p.Losses,Reserve:=p.Reserve,Treaties:=p.Treaties,Reports:=[] } (which % zxA p.Losses)=some (zzI p.Losses (which % zxA p.Losses)):=zzM h (by omega);have eP:zuk { Losses:=p.Losses,Reserve:=p.Reserve,Treaties:=p.Treaties,Reports:=[] }=some (noR p p.Treaties):=zA2 h.thin;have eQ:zuk { Losses:=p.Losses,Reserve:=p.Reserve,Treaties:=zBE p part above,Reports:=[] }=some (noR p (zBE p part above)):=zA2 hy.thin;obtain⟨r,n1,n2⟩:=zzp h (zBL h);obtain⟨q,n3,n4⟩:=zzp hy (zBL hy);obtain⟨_,hnet⟩:True/\∀L,(zyn p.Treaties L).soc=(zyn (zBE p part above) L).soc:=⟨trivial,fun L=>(zBx h.tsOk hy.tsOk hS L).2⟩;have hpays:∀L j,ofB p.Treaties j=true->(zyn p.Treaties L).pays j=(zyn (zBE p part above) L).pays j:=fun L=>(zBx h.tsOk hy.tsOk hS L).1;have erq:r=q:=n2.uniq (n4.congr (fun L=>⟨fun z=>⟨z.1,fun r hr=>by cases hr⟩,fun z=>⟨z.1,fun r hr=>by cases hr⟩⟩) fun L _=>(hnet L).symm)
  have hrb:(0<=r.Lo/\r.Lo<=4000)/\0<=r.Hi/\r.Hi<=4000:=by
   obtain⟨⟨x,x1,x2⟩,⟨y,y1,y2⟩,_⟩:=n2;have q1:=(zzP h x1.1).2.2;have q2:=(zzP h y1.1).2.2;have x2:(zyn p.Treaties x).soc=r.Lo:=x2;have y2:(zyn p.Treaties y).soc=r.Hi:=y2;have q1:0<=(zyn p.Treaties x).soc/\(zyn p.Treaties x).soc<=4000:=q1;have q2:0<=(zyn p.Treaties y).soc/\(zyn p.Treaties y).soc<=4000:=q2
   omega
  have pl1:=zzl h (L:=zzI p.Losses (which % zxA p.Losses)) hin;have pl2:=zzl hy (L:=zzI p.Losses (which % zxA p.Losses)) hin;rw[eM,obs,zqr w2.1,zqr (by omega),zqr (fI (by omega)),eN,obs,eP,obs,zA3 (by omega),obs,pl1,obs,eQ,obs,obs,pl2,obs,obs,n1,obs,obs,n3,obs];generalize zzI p.Losses (which % zxA p.Losses)=T;have hlx:(lN p.Treaties.length (zyn p.Treaties T).pays).length=p.Treaties.length:=zzj h5 _
  have hly:(lN (zBE p part above).length (zyn (zBE p part above) T).pays).length=p.Treaties.length:=by rw[zzj (by rw[zBG]; exact h5),zBG]
  subst erq
  show(if (0:Int)=0 then (if (0:Int)=0 then (if (zyn p.Treaties T).soc=(zyn (zBE p part above) T).soc then (if (0:Int)=0 then (if (0:Int)=0 then gd (zl7 .i64 r.Lo) (gd (zl7 .i64 r.Lo) (gd (zl7 .i64 r.Hi) (gd (zl7 .i64 r.Hi) (if ((decide (r.Lo=r.Lo)) && (decide (r.Hi=r.Hi)))=true then (if ((lN p.Treaties.length (zyn p.Treaties T).pays).length:Int)=((lN (zBE p part above).length (zyn (zBE p part above) T).pays).length:Int) then (if ((lN p.Treaties.length (zyn p.Treaties T).pays).length:Int)=(p.Treaties.length:Int) then zuu p (lN p.Treaties.length (zyn p.Treaties T).pays,(zyn p.Treaties T).soc,0) (lN (zBE p part above).length (zyn (zBE p part above) T).pays,(zyn (zBE p part above) T).soc,0) ((lN p.Treaties.length (zyn p.Treaties T).pays).length+1) 0 else _) else _) else _)))) else _) else _) else _) else _) else _)=_
  rw[if_pos rfl,if_pos rfl,if_pos (hnet T),if_pos rfl,if_pos rfl,zqr (fI (by omega)),zqr (fI (by omega)),zqr (fI (by omega)),zqr (fI (by omega)),if_pos (by simp),if_pos (by rw[hlx,hly]),if_pos (by rw[hlx])]
  have key:=zr1 (l:=p.Treaties) (F:=zuu p (lN p.Treaties.length (zyn p.Treaties T).pays,(zyn p.Treaties T).soc,0) (lN (zBE p part above).length (zyn (zBE p part above) T).pays,(zyn (zBE p part above) T).soc,0)) (ok:=fun _=>True) (bad:=some false) (fin:=some true) (fun d k t ht=>by
   have hk:=(List.getElem?_eq_some_iff.1 ht).1;have i1:idx (lN p.Treaties.length (zyn p.Treaties T).pays) (k:Int)=some ((zyn p.Treaties T).pays k):=zzq h5 _ hk;have i2:idx (lN (zBE p part above).length (zyn (zBE p part above) T).pays) (k:Int)=some ((zyn (zBE p part above) T).pays k):=zzq (by rw[zBG]; exact h5) _ (by rw[zBG]; exact hk);refine⟨fun _=>?_,fun h=>absurd trivial h⟩;rw[zuu]
   show(if (k:Int) < ((lN p.Treaties.length (zyn p.Treaties T).pays).length:Int) then ((idx ([]++p.Treaties) (k:Int)).bind fun v875=>(if v875.Of < 0 then ((idx (lN p.Treaties.length (zyn p.Treaties T).pays) (k:Int)).bind fun x879=>((idx (lN (zBE p part above).length (zyn (zBE p part above) T).pays) (k:Int)).bind fun x881=>_)) else _)) else _)=_
   rw[if_pos (by rw[hlx]; omega),List.nil_append,zrS ht,obs]
   by_cases ho:t.Of < 0
   ·rw[if_pos ho,i1,obs,i2,obs,if_pos (hpays T k (by rw[zzx ht]; exact decide_eq_true ho)),zqr (fI (by omega))]
   ·rw[if_neg ho,zqr (fI (by omega))]) (fun d=>by
    rw[zuu]
    show(if ((p.Treaties.length:Nat):Int) < ((lN p.Treaties.length (zyn p.Treaties T).pays).length:Int) then _ else _)=_
    rw[if_neg (by rw[hlx]; omega),aw]) (d:=(lN p.Treaties.length (zyn p.Treaties T).pays).length+1) (by rw[hlx]; omega)
  exact key.1 fun _ _=>trivial
end
end Go.Proofs.Ytkcmdghjgoaggaa

namespace Go.Proofs.Ytkcmdghjgoaggaa
open _root_.Go.Proofs.Try
open Go.ChangeShapes Go.WideShapes Go.ChangeAt Go.RowKit Go.Abs
set_option maxRecDepth 100000
theorem op3:zsb prog 3 Int (zl7 .i64):=zsc (by kernel_rfl)
theorem zBN:zsb prog 68 Rg zsl:=zsj (fs:=[(3,0),(3,1)]) (by kernel_rfl) (by kernel_rfl) (zsi (α:=Int) (ok:=zl7 .i64) (k:=1) op3 (by kernel_rfl) rfl (zsi (α:=Int) (ok:=zl7 .i64) (k:=1) op3 (by kernel_rfl) rfl zsh)) (by kernel_rfl) fun m vs h=>by
 obtain⟨a0,c0,r0,m0,h0,p0,k0,s0,⟨a1,c1,r1,m1,h1,p1,k1,s1,rfl⟩⟩:=h;have p0:c0=[.int .i64 a0]:=p0; subst p0;have p1:c1=[.int .i64 a1]:=p1; subst p1;subst h1 h0;exact⟨⟨a0,a1⟩,rfl,⟨k0,k1⟩⟩
theorem zBO:zsb prog 55 (List Rg) (fun l=>l.length<=maxLen/\∀a0∈l,zsl a0):=zse (by kernel_rfl) (by kernel_rfl) zBN
theorem zBP:zsb prog 62 Ty zsn:=zsj (fs:=[(3,0),(3,1),(3,2),(3,3),(3,4),(3,5),(3,6)]) (by kernel_rfl) (by kernel_rfl) (zsi (α:=Int) (ok:=zl7 .i64) (k:=1) op3 (by kernel_rfl) rfl (zsi (α:=Int) (ok:=zl7 .i64) (k:=1) op3 (by kernel_rfl) rfl (zsi (α:=Int) (ok:=zl7 .i64) (k:=1) op3 (by kernel_rfl) rfl (zsi (α:=Int) (ok:=zl7 .i64) (k:=1) op3 (by kernel_rfl) rfl (zsi (α:=Int) (ok:=zl7 .i64) (k:=1) op3 (by kernel_rfl) rfl (zsi (α:=Int) (ok:=zl7 .i64) (k:=1) op3 (by kernel_rfl) rfl (zsi (α:=Int) (ok:=zl7 .i64) (k:=1) op3 (by kernel_rfl) rfl zsh))))))) (by kernel_rfl) fun m vs h=>by
 obtain⟨a0,c0,r0,m0,h0,p0,k0,s0,⟨a1,c1,r1,m1,h1,p1,k1,s1,⟨a2,c2,r2,m2,h2,p2,k2,s2,⟨a3,c3,r3,m3,h3,p3,k3,s3,⟨a4,c4,r4,m4,h4,p4,k4,s4,⟨a5,c5,r5,m5,h5,p5,k5,s5,⟨a6,c6,r6,m6,h6,p6,k6,s6,rfl⟩⟩⟩⟩⟩⟩⟩:=h;have p0:c0=[.int .i64 a0]:=p0; subst p0;have p1:c1=[.int .i64 a1]:=p1; subst p1;have p2:c2=[.int .i64 a2]:=p2; subst p2;have p3:c3=[.int .i64 a3]:=p3; subst p3;have p4:c4=[.int .i64 a4]:=p4; subst p4;have p5:c5=[.int .i64 a5]:=p5; subst p5;have p6:c6=[.int .i64 a6]:=p6; subst p6;subst h6 h5 h4 h3 h2 h1 h0;exact⟨⟨a0,a1,a2,a3,a4,a5,a6⟩,rfl,⟨k0,k1,k2,k3,k4,k5,k6⟩⟩
theorem zBQ:zsb prog 56 (List Ty) (fun l=>l.length<=maxLen/\∀a0∈l,zsn a0):=zse (by kernel_rfl) (by kernel_rfl) zBP
theorem zBR:zsb prog 70 Rpt zsp:=zsj (fs:=[(3,0),(68,1)]) (by kernel_rfl) (by kernel_rfl) (zsi (α:=Int) (ok:=zl7 .i64) (k:=1) op3 (by kernel_rfl) rfl (zsi (α:=Rg) (ok:=zsl) (k:=2) zBN (by kernel_rfl) rfl zsh)) (by kernel_rfl) fun m vs h=>by
 obtain⟨a0,c0,r0,m0,h0,p0,k0,s0,⟨a1,c1,r1,m1,h1,p1,k1,s1,rfl⟩⟩:=h;have p0:c0=[.int .i64 a0]:=p0; subst p0;have p1:c1=[.int .i64 a1.Lo,.int .i64 a1.Hi]:=p1; subst p1;subst h1 h0;exact⟨⟨a0,a1⟩,rfl,⟨k0,k1⟩⟩
theorem zBS:zsb prog 57 (List Rpt) (fun l=>l.length<=maxLen/\∀a0∈l,zsp a0):=zse (by kernel_rfl) (by kernel_rfl) zBR
theorem zBT:zsb prog 59 Pg zsr:=zsj (fs:=[(55,0),(3,1),(56,2),(57,3)]) (by kernel_rfl) (by kernel_rfl) (zsi (α:=List Rg) (ok:=(fun l=>l.length<=maxLen/\∀a0∈l,zsl a0)) (k:=1) zBO (by kernel_rfl) rfl (zsi (α:=Int) (ok:=zl7 .i64) (k:=1) op3 (by kernel_rfl) rfl (zsi (α:=List Ty) (ok:=(fun l=>l.length<=maxLen/\∀a0∈l,zsn a0)) (k:=1) zBQ (by kernel_rfl) rfl (zsi (α:=List Rpt) (ok:=(fun l=>l.length<=maxLen/\∀a0∈l,zsp a0)) (k:=1) zBS (by kernel_rfl) rfl zsh)))) (by kernel_rfl) fun m vs h=>by
 obtain⟨a0,c0,r0,m0,h0,p0,k0,s0,⟨a1,c1,r1,m1,h1,p1,k1,s1,⟨a2,c2,r2,m2,h2,p2,k2,s2,⟨a3,c3,r3,m3,h3,p3,k3,s3,rfl⟩⟩⟩⟩:=h;obtain⟨d0,rfl,p0⟩:=p0;have p1:c1=[.int .i64 a1]:=p1; subst p1;obtain⟨d2,rfl,p2⟩:=p2;obtain⟨d3,rfl,p3⟩:=p3;subst h3 h2 h1 h0;exact⟨⟨a0,a1,a2,a3⟩,⟨_,_,_,rfl,p0,p2,p3⟩,⟨k0,k1,k2,k3⟩⟩
theorem zBU{H:Type}{enc:TypeId × Value->H}{W:World}{fu:Nat}{cs:List Value}{d0:DataW H}{p0:List MemPlace}(hf:DataW.trod enc Try.prog W 0 (fun _=>true) true fu 59 cs=some (d0,p0)){ts:List TypeId}{ds:List (DataW H)}{j:Nat}
  (h0:ts[j]? = some 59) (h1:ds[j]? = some d0) (hsz:(DataW.weightsEach Try.prog ts ds).all (·<=reachBytes)=true) {a:Addr} {n cap:Nat} (hv:cs[2]? = some (.slice (some a) n cap)):n * 56<=140737488351232:=by
 obtain⟨ys,n',rfl,hx,hl,hyl,hat⟩:=DataW.trod_struct Try.underlying59 hf;have hx':d0=.agg (ys.map (·.1)):=congrArg Prod.fst hx;have h4:DataW.trod enc Try.prog W 0 (fun _=>true) true n' 56 ((cs.drop 2).take (Try.prog.cellsOf 56))=ys[2]?:=hat 2 _ rfl;have hlt:2 < cs.length:=(List.getElem?_eq_some_iff.1 hv).1;have hg:cs[2]=.slice (some a) n cap:=(List.getElem?_eq_some_iff.1 hv).2;rw[show Try.prog.cellsOf 56=1 from by kernel_rfl,List.drop_eq_getElem_cons hlt,hg] at h4
 have hy2:2 < ys.length:=by rw[hyl]; decide
 rw[List.getElem?_eq_getElem hy2] at h4
 rcases DataW.trod_slice Try.underlying56 h4 with ⟨hh,_⟩ | ⟨a',len,cap',elems,rest,m',_,hh,hxx,_,_,_,hel,_⟩
 ·cases hh
 ·have hln:n=len:=by injection hh with q _; injection q
  have hy:(ys.map (·.1))[2]? = some (DataW.slice (elems.map (·.1)) (rest.map (·.1))):=by
   rw[List.getElem?_map,List.getElem?_eq_getElem hy2,hxx]; rfl
  have hw:((elems.map (·.1)).length+(rest.map (·.1)).length) * Try.prog.bytesOf 62∈d0.weights Try.prog 59:=by
   rw[hx']
   have h6:(DataW.agg (ys.map (·.1))).weights Try.prog 59=DataW.weightsEach Try.prog [55,3,56,57] (ys.map (·.1)):=by
    simp[DataW.weights,Try.underlying59]
   rw[h6];exact DataW.weights_mem_each (j:=2) (t:=56) rfl hy _ (by simp[DataW.weights,Try.underlying56])
  have h7:=List.all_eq_true.1 hsz _ (DataW.weights_mem_each h0 h1 _ hw);rw[show Try.prog.bytesOf 62=56 from by kernel_rfl] at h7
  simp only[List.length_map,reachBytes,decide_eq_true_eq] at h7
  omega
theorem zBV{β:Type}[Rp β]{e:Env}{c:C}{v:Value}{f:M}{l:List β}{B K:Nat}(hr:CR e c v)(hs:Sl f c l)(hB:∀a n cap,v=.slice (some a) n cap->n * B<=K):l.length * B<=K:=by
 have hl:=hs.slLen;have hi:=hs.isSl
 have h0:slLen c=0->l.length * B<=K:=fun h=>by rw[<- hl,h,Nat.zero_mul]; exact Nat.zero_le _
 cases c with
 | sl0=>exact h0 rfl
 | sl b o n s c=>
  have hn:n=l.length:=hl;rw[<- hn]
  cases c with
  | some c=>obtain⟨cb,sp,_,hv,_⟩:=hr; exact hB _ _ _ hv
  | none=>obtain⟨cb,off,cap,_,hv,_⟩:=hr; exact hB _ _ _ hv
 | _=>exact hi.elim
theorem zBW:laidOutB prog=true:=by kernel_rfl
theorem zBX:ownKnob prog.godebug=none:=by kernel_rfl
theorem zBY(os:Os)(started:os.Started)(H:Type)(enc:TypeId × Value->H) :
    ReturnsInHanded {} Try.checked os 7 .any (Rows.treatyOthersSpec.pre6 enc Try.prog Try.f7 Rows.treatyOthersRow.domain false) (Rows.treatyOthersSpec.post enc Try.prog Try.f7 false true false false):=by
  refine returnsInHanded_of_change_sized (C:=Try.checked) zBX started (by kernel_rfl) Try.func7
    (ChangeSpec.witness6 (enc:=enc) (C:=Try.checked) false ⟨#[],#[.agg #[.slice none 0 0,.int .i64 0,.slice none 0 0,.slice none 0 0],.int .u16 0,.int .u8 0,.int .u8 0],[]⟩ 8 (by kernel_rfl) (by kernel_rfl) (by kernel_rfl) (by kernel_rfl)) ?_
  intro W base args ds gs before hval0 hW hcnd hsz0 _;have hval:∀(j:Nat) t v,Try.f7.params[j]? = some t->args[j]? = some v->Value.okWide Try.prog W .any base t v:=hval0;have hW':=hW;obtain⟨p,q,hA0,hV,rfl,hfz,hnd⟩:=hW;have hA:DataW.TrodAll enc Try.prog W 0 (fun _=>true) true Try.f7.params.toList args.toList ds p:=hA0;rw[Try.params7] at hA hval;obtain⟨v0,v1,v2,v3,d0,d1,d2,d3,p0,p1,p2,p3,rfl,rfl,rfl,h0,h1,h2,h3⟩:=trodAll_four hA;obtain⟨rfl,rfl⟩:=trodVars_none hV;have hsz:(DataW.weightsEach Try.prog (Try.f7.params.toList++[]) ([d0,d1,d2,d3]++[])).all (·<=reachBytes)=true:=hsz0;rw[Try.params7] at hsz;obtain⟨n1,hv1⟩:=okWide_int Try.underlying60 (hval 1 60 v1 rfl rfl);obtain⟨n2,hv2⟩:=okWide_int Try.underlying5 (hval 2 5 v2 rfl rfl);obtain⟨n3,hv3⟩:=okWide_int Try.underlying5 (hval 3 5 v3 rfl rfl)
  have hlt:∀x∈p0++p1++p2++p3,x.block < W.heap.size:=fun x hx=>by simpa using hW'.lt x (by simpa using hx)
  obtain⟨fu0,hf0⟩:=id h0;obtain⟨fu1,hf1⟩:=id h1;obtain⟨fu2,hf2⟩:=id h2;obtain⟨fu3,hf3⟩:=id h3
  clear hA0 hval0
  obtain⟨e0,m0,w0,a_0,le0,sv0,lay0,cr0,zvQ,ok0⟩:=zBT H enc W true _ _ _ hf0 _ _ (Lay.nil W);obtain⟨i1,hc1,_,hw1⟩:=DataW.trod_int Try.underlying60 hf1;obtain⟨i2,hc2,_,hw2⟩:=DataW.trod_int Try.underlying5 hf2;obtain⟨i3,hc3,_,hw3⟩:=DataW.trod_int Try.underlying5 hf3;obtain⟨c0_0,c0_2,c0_3,rfl,g0_0,g0_2,g0_3⟩:=zvQ
  obtain⟨cs0,hv0,cl0⟩:∃cs,v0=.agg cs/\v0.cells.toList=cs.toList:=by
    have hl:=cr0.length
    cases v0 with
    | agg cs=>exact⟨cs,rfl,rfl⟩
    | _=>exact absurd hl (by simp[Value.cells])
  subst hv0;obtain⟨vz,hvz,hcr⟩:=cr0.get (i:=2) (x:=c0_2) rfl;have hbig:=zBV hcr g0_2 fun a n cap hq=>zBU (j:=0) hf0 rfl rfl hsz (by rw[<- hq]; exact hvz);subst hv1
  have hi1:i1=n1:=by
    have h:[Value.int .u16 n1]=[.int .u16 i1]:=hc1
    cases h; rfl
  subst hi1;subst hv2
  have hi2:i2=n2:=by
    have h:[Value.int .u8 n2]=[.int .u8 i2]:=hc2
    cases h; rfl
  subst hi2;subst hv3
  have hi3:i3=n3:=by
    have h:[Value.int .u8 n3]=[.int .u8 i3]:=hc3
    cases h; rfl
  subst hi3;have hargs:zeq (VR e0) [.agg 4 [c0_0,.int .i64 a_0.Reserve,c0_2,c0_3],.c (.int .u16 i1),.c (.int .u8 i2),.c (.int .u8 i3)] [.agg cs0,.int .u16 i1,.int .u8 i2,.int .u8 i3]:=.cons ⟨cs0,rfl,cr0,rfl⟩ (.cons rfl (.cons rfl (.cons rfl .nil)));refine(callsIn_wide.1 (zqC fits htab (zwZ (p:=a_0) (which:=i1) (part:=i2) (above:=i3) lay0.pre g0_0 g0_2 g0_3 (zBM ok0 hbig (zqA hw1) (zqA hw2) (zqA hw3)) (Q:=fun v _=>v=.c (.bool true)) fun _ _=>rfl) lay0.hr (args':=#[.agg cs0,.int .u16 i1,.int .u8 i2,.int .u8 i3]) hargs 0)).mono fun en W' hp=>?_;obtain⟨v,v',e',m',rfl,hst,hvr,rfl⟩:=hp;have hv':v'=.bool true:=hvr;subst hv';have hbelow:=lay0.below hst
  refine⟨_,rfl,[d0,d1,d2,d3],[],p0++p1++p2++p3,[],p0++(p1++(p2++p3)),[],by simpa using hW',trodAll_mk1 (shut_bool Try.underlying4 _),
    trodAll_mk4 (Below.trod zBW (by kernel_rfl) (of_decide_eq_true (by kernel_rfl)) h0 hbelow fun x hx=>hlt x (by simp[hx])) (Below.trod zBW (by kernel_rfl) (of_decide_eq_true (by kernel_rfl)) h1 hbelow fun x hx=>hlt x (by simp[hx])) (Below.trod zBW (by kernel_rfl) (of_decide_eq_true (by kernel_rfl)) h2 hbelow fun x hx=>hlt x (by simp[hx])) (Below.trod zBW (by kernel_rfl) (of_decide_eq_true (by kernel_rfl)) h3 hbelow fun x hx=>hlt x (by simp[hx])),rfl,lay0.kept hst _,fun hc=>by cases hc⟩
theorem TreatyOthersB_holds:Rows.TreatyOthersSaid:=
 OpenClaim.holds_of_wide 7 Try.f7 rfl rfl rfl rfl rfl rfl rfl ⟨rfl,rfl,rfl,rfl,rfl⟩ rfl rfl rfl rfl rfl (by kernel_rfl) Try.func7 (by kernel_rfl)
  (of_decide_eq_true (by kernel_rfl)) (by unfold Func.isWrapper; first | (rw[if_pos (by decide +kernel)]; kernel_rfl) | (rw[if_neg (by decide +kernel)]; exact⟨rfl,rfl⟩))
  (fun os started H enc _=>zBY os started H enc)
end Go.Proofs.Ytkcmdghjgoaggaa

