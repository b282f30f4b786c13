/- TreatyCheapest, for all that it can be called with, returns true. Condition: none. -/
import Derived.Test.YtkcmdghjgoaggaaGreatTbI
import GoSem.Step
import GoSem.ClaimKeys
import Derived.DeepKeys2
import Derived.RangeFuncLeaves
import Derived.OrdersIn
import Derived.Laws.World
import Derived.Laws.Sem
import Derived.RangeFuncRecord
import Derived.Laws.CopyRow
import Derived.Laws.Append
import Derived.Laws.Rows
import Derived.Laws.Slices
import Derived.Laws.Entries
import Derived.ChangeKeysEq
import Derived.IntWalk
import Derived.DeepKeys
import Derived.DeepKeys3
import Derived.Laws.StructEq
import Derived.MapKept
import Derived.Laws.AppendOwn
import Derived.ChangeArms
import Derived.ChangeOld
import Derived.Carry
import Derived.ChangeShapes
import Derived.KernelRfl
import Derived.ProofKit
import Derived.Test.YtkcmdghjgoaggaaGreatRows

namespace Go.Proofs.YtkcmdghjgoaggaaGreat
open _root_.Go.Proofs.Tryz
open Go.Abs
set_option maxRecDepth 100000
noncomputable section
def zAi(S:Int->Prop)(x:Int):Prop:=S x/\∀y,S y->x<=y
def zAj(S:Int->Prop)(x:Int):Prop:=S x/\∀y,S y->y<=x
theorem zAk{S:Int->Prop}{x y:Int}(h:zAi S x)(h':zAi S y):x=y:=Int.le_antisymm (h.2 _ h'.1) (h'.2 _ h.1)
theorem zAl{S:Int->Prop}{x y:Int}(h:zAj S x)(h':zAj S y):x=y:=Int.le_antisymm (h'.2 _ h.1) (h.2 _ h'.1)
theorem zAm{number:Oc->Option Int}{g:Oc->Int}{ws:List Oc}{y:List P5}{K:List Int->List P5->Option Rg}(hg:∀o∈ws,number o=some (g o)){acc:List Int}(hl:acc.length+ws.length<=1048576):zuj number ws y K (ws.length+1) acc 0=K (acc++ws.map g) y:=by
 have key:=zyv (n:=ws.length) (fun d (s:List Int) x=>zuj number ws y K d s x) (fun k=>acc++(ws.take k).map g) (fin:=K (acc++ws.map g) y) (fun d k hk=>?_) (fun d=>?_) (ws.length+1) 0 (by omega) (by omega)
 ·rw[List.take_zero,List.map_nil,List.append_nil] at key; exact key
 ·have hgt:=List.getElem?_eq_getElem hk;rw[zuj,if_pos (by omega),zrU hgt,obs,hg _ (List.getElem_mem hk),obs,zqt (by rw[List.length_append,List.length_map,List.length_take]; omega),zqt (fI (by omega)),List.take_add_one,hgt,List.map_append,<- List.append_assoc]; rfl
 ·rw[zuj,if_neg (by omega),List.take_length]
def tot(p:Pg)(A:List (List Int))(ks:List P5):Nat:=(ks.map fun k=>(grp p A k).length).sum
def zAn(p:Pg)(A:List (List Int))(rs:List Rpt)(g:Oc->Int)(ks:List P5)(y:Int):Prop:=∃k∈ks,agK k rs/\∃o∈grp p A k,g o=y
theorem zAo{p:Pg}{A:List (List Int)}{w:Wk}{number:Oc->Option Int}{g:Oc->Int}{lo hi:Int}(hr:zz7 w.p.Reports)(hs:zr4 w.p.Reports):∀(d:Nat) (rem:List P5) (acc:List Int),rem.length < d->acc.length+tot p A rem<=1048576->(∀k∈rem,zqM w.played k=some (grp p A k)/\∀o∈grp p A k,number o=some (g o)) ->
  zAi (fun y=>y∈acc\/zAn p A w.p.Reports g rem y) lo->zAj (fun y=>y∈acc\/zAn p A w.p.Reports g rem y) hi->pboundsW_L0 w number d acc rem=some { Lo:=lo,Hi:=hi }
 | 0,_,_,h,_,_,_,_=>by omega
 | d+1,rem,acc,h,hacc,hm,h1,h2=>by
  unfold pboundsW_L0;refine zrv (fun l1 a l2 hrr=>?_) fun hrr=>?_
  ·subst hrr
   have hsub:∀x,x∈l1++l2->x∈l1++a::l2:=fun x hx=>by
    rcases List.mem_append.1 hx with h | h
    ·exact List.mem_append_left _ h
    ·exact List.mem_append_right _ (List.mem_cons_of_mem _ h)
   have hspl:∀x,x∈l1++a::l2↔x=a\/x∈l1++l2:=fun x=>by simp only[List.mem_append,List.mem_cons]; constructor <;> (intro h; rcases h with h | h | h <;> simp[h])
   obtain⟨k1,k2⟩:=hm a (by simp)
   have hlen:(l1++l2).length+1=(l1++a::l2).length:=by simp only[List.length_append,List.length_cons]; omega
   have htot:tot p A (l1++a::l2)=(grp p A a).length+tot p A (l1++l2):=by unfold tot; simp only[List.map_append,List.map_cons,List.sum_append,List.sum_cons]; omega
   rw[k1,obs]
   by_cases ha:agK a w.p.Reports
   ·rw[(zAe hr hs).some_of ha,obs,if_pos rfl,zAm k2 (by omega)]
    have hiff:(fun y=>y∈acc++(grp p A a).map g\/zAn p A w.p.Reports g (l1++l2) y)=fun y=>y∈acc\/zAn p A w.p.Reports g (l1++a::l2) y:=funext fun y=>propext ⟨fun hy=>by
     rcases hy with hy | ⟨x,hx,hx2⟩
     ·rcases List.mem_append.1 hy with hy | hy
      ·exact .inl hy
      ·obtain⟨o,ho,hoy⟩:=List.mem_map.1 hy;exact .inr ⟨a,by simp,ha,o,ho,hoy⟩
     ·exact .inr ⟨x,hsub x hx,hx2⟩,fun hy=>by
     rcases hy with hy | ⟨x,hx,hx2,o,ho,hoy⟩
     ·exact .inl (List.mem_append_left _ hy)
     ·rcases (hspl x).1 hx with rfl | hx
      ·exact .inl (List.mem_append_right _ (List.mem_map.2 ⟨o,ho,hoy⟩))
      ·exact .inr ⟨x,hx,hx2,o,ho,hoy⟩⟩
    exact zAo hr hs d (l1++l2) _ (by omega) (by rw[List.length_append,List.length_map]; omega) (fun x hx=>hm x (hsub x hx)) (by rw[hiff]; exact h1) (by rw[hiff]; exact h2)
   ·rw[(zAe hr hs).some_not ha,obs,if_neg (by decide)]
    have hiff:(fun y=>y∈acc\/zAn p A w.p.Reports g (l1++l2) y)=fun y=>y∈acc\/zAn p A w.p.Reports g (l1++a::l2) y:=funext fun y=>propext ⟨fun hy=>hy.imp id fun⟨x,hx,hx2⟩=>⟨x,hsub x hx,hx2⟩,fun hy=>by
     rcases hy with hy | ⟨x,hx,hx2,hx3⟩
     ·exact .inl hy
     ·rcases (hspl x).1 hx with rfl | hx
      ·exact absurd hx2 ha
      ·exact .inr ⟨x,hx,hx2,hx3⟩⟩
    exact zAo hr hs d (l1++l2) acc (by omega) (by omega) (fun x hx=>hm x (hsub x hx)) (by rw[hiff]; exact h1) (by rw[hiff]; exact h2)
  ·subst hrr;have hno:∀y,(y∈acc\/zAn p A w.p.Reports g [] y)↔y∈acc:=fun y=>⟨fun h=>h.elim id (fun⟨x,hx,_⟩=>(by cases hx)),.inl⟩
   have hne:acc ≠ []:=fun he=>by have:=(hno _).1 h1.1; rw[he] at this; cases this
   have m1:=zsb hne;have m2:=zsc hne;have e1:zr7 acc=lo:=zAk ⟨(hno _).2 m1.1,fun y hy=>m1.2 y ((hno y).1 hy)⟩ h1;have e2:zr8 acc=hi:=zAl ⟨(hno _).2 m2.1,fun y hy=>m2.2 y ((hno y).1 hy)⟩ h2;rw[zzf hne (by omega),obs,zzg hne (by omega),obs,e1,e2]
open Classical in
theorem zAp{p:Pg}{A:List (List Int)}{ks:List P5}(h:ks.Nodup):tot p A ks<=A.length:=by
 have key:∀(ks:List P5) (B:List Oc),ks.Nodup->(ks.map fun k=>(B.filter fun o=>decide (o.pays=k)).length).sum<=B.length:=by
  intro ks
  induction ks with
  | nil=>intro B _; exact Nat.zero_le _
  | cons k ks ih=>
   intro B hn;obtain⟨h1,h2⟩:=List.nodup_cons.1 hn
   have e1:∀k'∈ks,(B.filter fun o=>decide (o.pays=k')).length=((B.filter fun o=>!decide (o.pays=k)).filter fun o=>decide (o.pays=k')).length:=fun k' hk'=>by
    rw[List.filter_filter]
    congr 1
    refine List.filter_congr fun o _=>?_
    by_cases ho:o.pays=k'
    ·have:¬ o.pays=k:=fun h3=>h1 (h3 ▸ ho ▸ hk')
     simp[ho,this]
     intro h3; exact h1 (h3 ▸ hk')
    ·simp[ho]
   have e2:(ks.map fun k'=>(B.filter fun o=>decide (o.pays=k')).length)=ks.map fun k'=>((B.filter fun o=>!decide (o.pays=k)).filter fun o=>decide (o.pays=k')).length:=List.map_congr_left e1
   have e3:(B.filter fun o=>decide (o.pays=k)).length+(B.filter fun o=>!decide (o.pays=k)).length=B.length:=by
    clear e1 e2 ih
    induction B with
    | nil=>rfl
    | cons o B ihB=>
     by_cases ho:o.pays=k
     ·rw[List.filter_cons_of_pos (by simp[ho]),List.filter_cons_of_neg (by simp[ho])]; simp only[List.length_cons]; omega
     ·rw[List.filter_cons_of_neg (by simp[ho]),List.filter_cons_of_pos (by simp[ho])]; simp only[List.length_cons]; omega
   rw[List.map_cons,List.sum_cons,e2];have:=ih (B.filter fun o=>!decide (o.pays=k)) h2
   omega
 have:=key ks (A.map (oc p)) h;rw[List.length_map] at this;exact this
def IsB(S:List Int->Prop)(g:List Int->Int)(r:Rg):Prop:=(∃L,S L/\g L=r.Lo)/\(∃L,S L/\g L=r.Hi)/\∀L,S L->r.Lo<=g L/\g L<=r.Hi
theorem IsB.uniq{S:List Int->Prop}{g:List Int->Int}{r r':Rg}(h:IsB S g r)(h':IsB S g r'):r=r':=by
 obtain⟨⟨a,a1,a2⟩,⟨b,b1,b2⟩,c⟩:=h;obtain⟨⟨a',a1',a2'⟩,⟨b',b1',b2'⟩,c'⟩:=h';have q1:=c a' a1'; have q2:=c b' b1'; have q3:=c' a a1; have q4:=c' b b1
 cases r; cases r'
 simp only at *
 congr 1 <;> omega
theorem IsB.congr{S S':List Int->Prop}{g g':List Int->Int}{r:Rg}(h:IsB S g r)(hS:∀L,S L↔S' L)(hg:∀L,S' L->g L=g' L):IsB S' g' r:=by
 obtain⟨⟨a,a1,a2⟩,⟨b,b1,b2⟩,c⟩:=h;exact⟨⟨a,(hS a).1 a1,by rw[<- hg a ((hS a).1 a1)]; exact a2⟩,⟨b,(hS b).1 b1,by rw[<- hg b ((hS b).1 b1)]; exact b2⟩,fun L hL=>by rw[<- hg L hL]; exact c L ((hS L).2 hL)⟩
def TrS(p:Pg)(rs:List Rpt)(L:List Int):Prop:=inL p.Losses L/\agN (zzy p.Treaties L).pays rs
open Classical in
theorem zAq{p:Pg}(h:VP p){number:Oc->Option Int}{g:Oc->Int}(hg:∀L,inL p.Losses L->number (oc p L)=some (g (oc p L)))(hc:zAg p p.Reports):∃r,zuk (zz0 p (zzS p)) number=some r/\IsB (TrS p p.Reports) (fun L=>g (oc p L)) r:=by
 have hA:∀L∈zzS p,inL p.Losses L:=fun L hL=>zzT.1 hL;have h5:=h.r5;have hs:zr4 p.Reports:=zr5 h5 (by omega);obtain⟨ks0,h0⟩:=zAb h hA
 have hgrp:∀{k o},o∈grp p (zzS p) k->∃L,inL p.Losses L/\oc p L=o/\(oc p L).pays=k:=fun {k o} ho=>by
  obtain⟨h3,h4⟩:=List.mem_filter.1 ho;obtain⟨L,h5,rfl⟩:=List.mem_map.1 h3;exact⟨L,hA L h5,rfl,of_decide_eq_true h4⟩
 have hin:∀{L},inL p.Losses L->oc p L∈grp p (zzS p) (oc p L).pays:=fun {L} hL=>List.mem_filter.2 ⟨List.mem_map.2 ⟨L,zzT.2 hL,rfl⟩,decide_eq_true rfl⟩
 have hans:∀ks,zro (plM p (zzS p)) ks->∀y,(y∈([]:List Int)\/zAn p (zzS p) p.Reports g ks y)↔∃L,TrS p p.Reports L/\g (oc p L)=y:=fun ks hk y=>by
  have h2:=((zz9 h hA ks).1 hk).2
  constructor
  ·rintro (h3 | ⟨k,hk1,hk2,o,ho,rfl⟩)
   ·cases h3
   ·obtain⟨L,hL,rfl,hk3⟩:=hgrp ho;subst hk3;exact⟨L,⟨hL,(zAc h.rsOk).1 hk2⟩,rfl⟩
  ·rintro⟨L,⟨hL,ha⟩,rfl⟩
   exact .inr ⟨_,(h2 _).2 ⟨L,zzT.2 hL,rfl⟩,(zAc h.rsOk).2 ha,_,hin hL,rfl⟩
 -- the zj2 and the zj3 one
 obtain⟨vs,hvs⟩:∃vs:List Int,∀y,y∈vs↔∃L,TrS p p.Reports L/\g (oc p L)=y:=by
  classical
  refine⟨((zzS p).filter fun L=>decide (agN (zzy p.Treaties L).pays p.Reports)).map fun L=>g (oc p L),fun y=>?_⟩;rw[List.mem_map]
  constructor
  ·rintro⟨L,hL,rfl⟩
   obtain⟨h3,h4⟩:=List.mem_filter.1 hL;exact⟨L,⟨hA L h3,of_decide_eq_true h4⟩,rfl⟩
  ·rintro⟨L,⟨h3,h4⟩,rfl⟩
   exact⟨L,List.mem_filter.2 ⟨zzT.2 h3,decide_eq_true h4⟩,rfl⟩
 have hne:vs ≠ []:=fun he=>by
  obtain⟨L,hL⟩:=hc;have:=(hvs _).2 ⟨L,hL,rfl⟩
  rw[he] at this; cases this
 have m1:=zsb hne;have m2:=zsc hne;refine⟨{ Lo:=zr7 vs,Hi:=zr8 vs },?_,(hvs _).1 m1.1,(hvs _).1 m2.1,fun L hL=>⟨m1.2 _ ((hvs _).2 ⟨L,hL,rfl⟩),m2.2 _ ((hvs _).2 ⟨L,hL,rfl⟩)⟩⟩;unfold zuk;refine zrr h0 fun ks hk=>?_;have htl:=zAp (p:=p) (A:=zzS p) hk.1;have hlen:=zzU h;refine zAo (p:=p) (A:=zzS p) (w:=zz0 p (zzS p)) (g:=g) h.rsOk hs _ ks [] (by omega) (by simp only[List.length_nil]; omega) (fun k hkk=>⟨?_,fun o ho=>?_⟩) ⟨(hans ks hk _).2 ((hvs _).1 m1.1),fun y hy=>m1.2 y ((hvs _).2 ((hans ks hk _).1 hy))⟩ ⟨(hans ks hk _).2 ((hvs _).1 m2.1),fun y hy=>m2.2 y ((hvs _).2 ((hans ks hk _).1 hy))⟩
 ·have h3:=((hk.2 k).1 hkk).2;have h4:(if grp p (zzS p) k=[] then none else some (grp p (zzS p) k)) ≠ none:=h3
  show(if grp p (zzS p) k=[] then none else some (grp p (zzS p) k))=_
  by_cases h5:grp p (zzS p) k=[]
  ·rw[if_pos h5] at h4; exact absurd rfl h4
  ·rw[if_neg h5]
 ·obtain⟨L,hL,rfl,_⟩:=hgrp ho;exact hg L hL
theorem zAr{p:Pg}(h:VP p):zr4 p.Losses/\zr4 p.Treaties/\zr4 p.Reports:=⟨zr5 h.l4 (by omega),zr5 h.t5 (by omega),zr5 h.r5 (by omega)⟩
theorem zAs{p:Pg}(h:VP p):ztO p=some 0:=by
 obtain⟨h1,h2,h3⟩:=zAr h;rw[zy4 h1 h2 h3,zyL.2 h]
def ShP(p:Pg):Prop:=zr4 p.Losses/\zr4 p.Treaties/\zr4 p.Reports
theorem zAt{p:Pg}{L:List Int}(h:VP p):Ev (ztQ p L) (inL p.Losses L):=by
 have h4:=h.l4;unfold ztQ
 by_cases hl:(L.length:Int)=p.Losses.length
 ·rw[if_pos hl];refine(Ev.loop (n:=p.Losses.length) (F:=fun d x=>ztP p L d x) (ok:=fun j=>∀r x,p.Losses[j]? = some r->L[j]? = some x->r.Lo<=x/\x<=r.Hi) (fin:=some true) (P:=True) (fun d k hk=>?_) (fun d=>?_) (by omega) (fun _=>Ev.tt trivial)).imp ?_
  ·have hg:=List.getElem?_eq_getElem hk;have hg2:=List.getElem?_eq_getElem (show k < L.length by omega)
   show(_->ztP p L (d+1) (k:Int)=_)/\(_->ztP p L (d+1) (k:Int)=_)
   rw[ztP,if_pos (by omega),zrU hg,obs,zrU hg2,obs];refine(zyM.imp ⟨fun h r x h1 h2=>?_,fun h=>h _ _ hg hg2⟩).step (by rw[if_pos rfl,zqt (fI (by omega))]) (by rw[if_neg (by decide)])
   rw[hg] at h1; rw[hg2] at h2; cases h1; cases h2; exact h
  ·show ztP p L (d+1) _=_
   rw[ztP,if_neg (Int.lt_irrefl _)]
  ·exact⟨fun h=>zzN (by omega) fun i r x h1 h2=>h.1 i (List.getElem?_eq_some_iff.1 h1).1 r x h1 h2,fun h=>⟨fun j _ r x h1 h2=>zzM h h1 h2,trivial⟩⟩
 ·rw[if_neg hl]; exact Ev.ff fun h=>hl (by rw[zzL h])
def lN(n:Nat)(f:Nat->Int):List Int:=(l5 f).take n
theorem zAu{n:Nat}(h:n<=5)(f:Nat->Int):(lN n f).length=n:=by unfold lN; rw[List.length_take]; show min n 5=n; omega
theorem zAv{n:Nat}(h:n<=5)(f:Nat->Int){k:Nat}(hk:k < n):(lN n f)[k]? = some (f k):=by unfold lN; rw[List.getElem?_take,if_pos hk,zyw (by omega)]
theorem zAw{p:Pg}(h:VP p){L:List Int}(hL:inL p.Losses L):zuf p L=some (lN p.Treaties.length (zzy p.Treaties L).pays,(zzy p.Treaties L).soc,0):=by
 have h4:=h.l4;have h5:=h.t5;obtain⟨M',q1,_⟩:=zzK h (zzO hL h.ls) (by rw[zzL hL]; omega) (zzH.nil p);unfold zuf;rw[zAs h,obs,if_pos rfl,(zAt h).some_of hL,obs,if_pos rfl,zyQ,obs]
 show((zt6 (wkP p _) L).bind _)=_
 rw[q1,obs,zqt (by omega),Int.toNat_natCast,show Int.toNat (0:Int)=0 from rfl,List.drop_zero]
 show((zuc (lN p.Treaties.length (zzy p.Treaties L).pays)).bind _)=_
 unfold zuc;rw[zqt (by rw[zAu h5]; simp only[List.length_nil]; omega)]
 rfl
theorem zAx{p:Pg}(h:VP p)(hc:zAg p p.Reports):zul p=some (zz0 p (zzS p),0):=by
 unfold zul;rw[zAs h,obs,if_pos rfl,zz6 h,obs]
 show((zui (zz0 p (zzS p)) p.Reports).bind _)=_
 rw[(zAh h h.rsOk (zAr h).2.2).some_of hc]; rfl
structure zAy (p:Pg) (bs:List Bd):Prop where
 len:bs.length=p.Treaties.length
 at':∀(k:Nat) (b:Bd),bs[k]? = some b->IsB (TrS p p.Reports) (fun L=>(zzy p.Treaties L).pays k) b.Pays/\IsB (TrS p p.Reports) (fun L=>(zzy p.Treaties L).keeps k) b.Keeps
theorem zAy.uniq{p:Pg}{bs bs':List Bd}(h:zAy p bs)(h':zAy p bs'):bs=bs':=by
 refine List.ext_getElem? fun k=>?_
 cases hb:bs[k]? with
 | none=>
  rw[List.getElem?_eq_none_iff] at hb;rw[List.getElem?_eq_none (by rw[h'.len,<- h.len]; exact hb)]
 | some b=>
  have hk:=(List.getElem?_eq_some_iff.1 hb).1;have hb':=List.getElem?_eq_getElem (show k < bs'.length by rw[h'.len,<- h.len]; exact hk);rw[hb'];obtain⟨q1,q2⟩:=h.at' k b hb;obtain⟨q3,q4⟩:=h'.at' k _ hb';have e1:=q1.uniq q3;have e2:=q2.uniq q4;generalize bs'[k]'(by rw[h'.len,<- h.len]; exact hk)=b' at e1 e2
  cases b; cases b'
  simp only at e1 e2
  rw[e1,e2]
theorem zAz{p:Pg}(h:VP p)(hc:zAg p p.Reports):∃bs,zup p=some (bs,0)/\zAy p bs:=by
 have h5:=h.t5
 have hx:∀k:Nat,k < p.Treaties.length->∃b:Bd,(∀L,inL p.Losses L->True)/\zuk (zz0 p (zzS p)) (fun a=>zum a (k:Int))=some b.Pays/\zuk (zz0 p (zzS p)) (fun a=>zun a (k:Int))=some b.Keeps/\IsB (TrS p p.Reports) (fun L=>(zzy p.Treaties L).pays k) b.Pays/\IsB (TrS p p.Reports) (fun L=>(zzy p.Treaties L).keeps k) b.Keeps:=fun k hk=>by
  obtain⟨r1,a1,a2⟩:=zAq h (number:=fun a=>zum a (k:Int)) (g:=fun o=>(idx ([o.pays.p0,o.pays.p1,o.pays.p2,o.pays.p3,o.pays.p4]:List Int) (k:Int)).getD 0) (fun L _=>by
   show((idx (l5 (zzy p.Treaties L).pays) (k:Int)).bind fun v=>some v)=some ((idx (l5 (zzy p.Treaties L).pays) (k:Int)).getD 0)
   rw[zyx (by omega)]; rfl) hc
  obtain⟨r2,b1,b2⟩:=zAq h (number:=fun a=>zun a (k:Int)) (g:=fun o=>(idx ([o.keeps.p0,o.keeps.p1,o.keeps.p2,o.keeps.p3,o.keeps.p4]:List Int) (k:Int)).getD 0) (fun L _=>by
   show((idx (l5 (zzy p.Treaties L).keeps) (k:Int)).bind fun v=>some v)=some ((idx (l5 (zzy p.Treaties L).keeps) (k:Int)).getD 0)
   rw[zyx (by omega)]; rfl) hc
  refine⟨⟨r1,r2⟩,fun _ _=>trivial,a1,b1,a2.congr (fun _=>Iff.rfl) fun L _=>?_,b2.congr (fun _=>Iff.rfl) fun L _=>?_⟩
  ·show(idx (l5 (zzy p.Treaties L).pays) (k:Int)).getD 0=_
   rw[zyx (by omega)]; rfl
  ·show(idx (l5 (zzy p.Treaties L).keeps) (k:Int)).getD 0=_
   rw[zyx (by omega)]; rfl
 unfold zup;rw[zAx h hc,obs,if_pos rfl]
 have key:∀(d k:Nat) (acc:List Bd),k<=p.Treaties.length->p.Treaties.length - k < d->acc.length=k->(∀(j:Nat) (b:Bd),acc[j]? = some b->IsB (TrS p p.Reports) (fun L=>(zzy p.Treaties L).pays j) b.Pays/\IsB (TrS p p.Reports) (fun L=>(zzy p.Treaties L).keeps j) b.Keeps) ->
   ∃bs,zuo p (zz0 p (zzS p),0) d acc (k:Int)=some (bs,0)/\zAy p bs:=by
  intro d
  induction d with
  | zero=>intro k acc _ h _ _; omega
  | succ d ih=>
   intro k acc hk hd hl hacc;rw[zuo]
   by_cases hkl:k < p.Treaties.length
   ·obtain⟨b,_,b1,b2,b3,b4⟩:=hx k hkl;rw[if_pos (by omega)]
    show ∃bs,((zuk (zz0 p (zzS p)) fun a=>zum a (k:Int)).bind _)=_/\_
    rw[b1,obs]
    show ∃bs,((zuk (zz0 p (zzS p)) fun a=>zun a (k:Int)).bind _)=_/\_
    rw[b2,obs,zqt (by omega),zqt (fI (by omega)),show(k:Int)+1=((k+1:Nat):Int) by omega];refine ih (k+1) _ (by omega) (by omega) (by rw[List.length_append,hl]; rfl) fun j b' hb'=>?_
    by_cases hj:j < acc.length
    ·rw[List.getElem?_append_left hj] at hb'; exact hacc j b' hb'
    ·rw[List.getElem?_append_right (by omega)] at hb'
     have hj2:j=k:=by
      have:=(List.getElem?_eq_some_iff.1 hb').1
      simp only[List.length_cons,List.length_nil] at this
      omega
     subst hj2;rw[show j - acc.length=0 by omega] at hb'
     cases hb'
     exact⟨b3,b4⟩
   ·rw[if_neg (by omega)];exact⟨acc,rfl,by omega,hacc⟩
 exact key (p.Treaties.length+1) 0 [] (Nat.zero_le _) (by omega) rfl fun j b hb=>by cases hb
theorem zAA{p:Pg}(h:VP p)(hc:zAg p p.Reports):∃r,zuq p=some (r,0)/\IsB (TrS p p.Reports) (fun L=>(zzy p.Treaties L).soc) r:=by
 obtain⟨r,a1,a2⟩:=zAq h (number:=fun a=>ztZ a) (g:=fun o=>o.society) (fun L _=>rfl) hc;refine⟨r,?_,a2⟩;unfold zuq;rw[zAx h hc,obs,if_pos rfl]
 show((zuk (zz0 p (zzS p)) fun a=>ztZ a).bind _)=_
 rw[a1]; rfl
end
end Go.Proofs.YtkcmdghjgoaggaaGreat

namespace Go.Proofs.YtkcmdghjgoaggaaGreat
open _root_.Go.Proofs.Tryz
open Go.Abs
set_option maxRecDepth 100000
noncomputable section
theorem zAB{n:Nat}(h:n<=5)(f:Nat->Int){k:Nat}(hk:k < n):idx (lN n f) (k:Int)=some (f k):=zrU (zAv h f hk)
theorem zAC{n:Nat}(h:n<=5)(f:Nat->Int){i:Int}(h0:0<=i)(hk:i < n):idx (lN n f) i=some (f i.toNat):=by
 have:=zAB h f (k:=i.toNat) (by omega)
 rwa [show((i.toNat:Nat):Int)=i by omega] at this
theorem zAD{n:Nat}(h:n<=5){l:List Int}{f:Nat->Int}(hl:l.length=n)(ha:∀k,k < n->l[k]? = some (f k)):l=lN n f:=by
 refine List.ext_getElem? fun k=>?_
 by_cases hk:k < n
 ·rw[ha k hk,zAv h f hk]
 ·rw[List.getElem?_eq_none (by omega),List.getElem?_eq_none (by rw[zAu h]; omega)]
theorem zAE{n:Nat}(h:n<=5)(f:Nat->Int){k:Nat}(hk:k < n)(a:Int):(lN n f).set k a=lN n (upF f k a):=by
 refine zAD h (by rw[List.length_set,zAu h]) fun j hj=>?_
 by_cases hjk:j=k
 ·subst hjk; rw[List.getElem?_set_self (by rw[zAu h]; exact hj),zyA]
 ·rw[List.getElem?_set_ne (Ne.symm hjk),zAv h f hj,zyB _ _ hjk]
theorem zAF{n:Nat}(h:n<=5):List.replicate n (0:Int)=lN n fun _=>0:=zAD h (List.length_replicate ..) fun k hk=>by rw[List.getElem?_replicate,if_pos hk]
theorem zAG{n:Nat}(h:n<=5){f g:Nat->Int}(hfg:∀k,k < n->f k=g k):lN n f=lN n g:=zAD h (zAu h f) fun k hk=>by rw[zAv h f hk,hfg k hk]
def a1(ts:List Ty)(th:Nat->Bool)(P:Nat->Int)(x:Int):Nat->(Nat->Int) × Int
 | 0=>(fun _=>0,x)
 | k+1=>match ts[k]? with
  | some t=>if t.Of < 0/\th k=true then (upF (a1 ts th P x k).1 k (zzi t (a1 ts th P x k).2 (P k)),(a1 ts th P x k).2 - zzi t (a1 ts th P x k).2 (P k)) else a1 ts th P x k
  | none=>a1 ts th P x k
theorem zAH{ts:List Ty}{th:Nat->Bool}{P:Nat->Int}{x:Int}{k:Nat}{t:Ty}(h:ts[k]? = some t):a1 ts th P x (k+1)=if t.Of < 0/\th k=true then (upF (a1 ts th P x k).1 k (zzi t (a1 ts th P x k).2 (P k)),(a1 ts th P x k).2 - zzi t (a1 ts th P x k).2 (P k)) else a1 ts th P x k:=by
 show(match ts[k]? with | some t=>_ | none=>_)=_
 rw[h]
def a2(ts:List Ty)(P:Nat->Int)(now:Nat->Int):Nat->(Nat->Int) × (Nat->Int)
 | 0=>(now,now)
 | k+1=>match ts[k]? with
  | some t=>if 0<=t.Of then (upF (a2 ts P now k).1 k (zzi t ((a2 ts P now k).2 t.Of.toNat) (P k)),upF (upF (a2 ts P now k).2 k (zzi t ((a2 ts P now k).2 t.Of.toNat) (P k))) t.Of.toNat ((a2 ts P now k).2 t.Of.toNat - zzi t ((a2 ts P now k).2 t.Of.toNat) (P k))) else a2 ts P now k
  | none=>a2 ts P now k
theorem zAI{ts:List Ty}{P now:Nat->Int}{k:Nat}{t:Ty}(h:ts[k]? = some t):a2 ts P now (k+1)=if 0<=t.Of then (upF (a2 ts P now k).1 k (zzi t ((a2 ts P now k).2 t.Of.toNat) (P k)),upF (upF (a2 ts P now k).2 k (zzi t ((a2 ts P now k).2 t.Of.toNat) (P k))) t.Of.toNat ((a2 ts P now k).2 t.Of.toNat - zzi t ((a2 ts P now k).2 t.Of.toNat) (P k))) else a2 ts P now k:=by
 show(match ts[k]? with | some t=>_ | none=>_)=_
 rw[h]
structure I1 (ts:List Ty) (P:Nat->Int) (x:Int) (s:(Nat->Int) × Int):Prop where
 left:0<=s.2/\s.2<=x
 now:∀j,0<=s.1 j/\s.1 j<=x
 cap:zzr ts fun j=>P j+s.1 j
theorem zAJ{ts:List Ty}{th:Nat->Bool}(hts:zzs ts){P:Nat->Int}(hP:zzr ts P){x:Int}(hx:0<=x/\x<=100000):∀k,k<=ts.length->I1 ts P x (a1 ts th P x k)
 | 0,_=>⟨⟨hx.1,Int.le_refl _⟩,fun _=>⟨Int.le_refl _,hx.1⟩,fun j t ht h1=>by have:=hP j t ht h1; show P j+0<=_; omega⟩
 | k+1,hk=>by
  have ih:=zAJ (th:=th) hts hP hx k (by omega);have hg:=List.getElem?_eq_getElem (show k < ts.length by omega);have hkd:=hts.k _ (List.getElem_mem (show k < ts.length by omega));rw[zAH hg];generalize a1 ts th P x k=s at ih ⊢;generalize ts[k]'(by omega)=t at hg hkd
  by_cases hc:t.Of < 0/\th k=true
  ·rw[if_pos hc];have hl:=ih.left;have hb:=zzl hkd (a:=s.2) (b:=P k) (by omega) (hP k t hg);refine⟨by show 0<=s.2 - _/\s.2 - _<=x; omega,fun j=>?_,fun j t' ht' h'=>?_⟩
   ·show 0<=upF s.1 k _ j/\upF s.1 k _ j<=x
    by_cases hjk:j=k
    ·subst hjk; rw[zyA]; omega
    ·rw[zyB _ _ hjk]; exact ih.now j
   ·show P j+upF s.1 k _ j<=_
    by_cases hjk:j=k
    ·subst hjk; rw[hg] at ht'; cases ht'; rw[zyA]; exact hb.2.2 h'
    ·rw[zyB _ _ hjk]; exact ih.cap j t' ht' h'
  ·rw[if_neg hc]; exact ih
structure I2 (ts:List Ty) (P:Nat->Int) (x:Int) (s:(Nat->Int) × (Nat->Int)):Prop where
 now:∀j,0<=s.1 j/\s.1 j<=x
 rest:∀j,0<=s.2 j/\s.2 j<=x
 cap:zzr ts fun j=>P j+s.1 j
theorem zAK{ts:List Ty}(hts:zzs ts){P now:Nat->Int}(hP:zzr ts P){x:Int}(hx:0<=x/\x<=100000)(hn:∀j,0<=now j/\now j<=x)(hc:zzr ts fun j=>P j+now j):∀k,k<=ts.length->I2 ts P x (a2 ts P now k)
 | 0,_=>⟨hn,hn,hc⟩
 | k+1,hk=>by
  have ih:=zAK hts hP hx hn hc k (by omega);have hg:=List.getElem?_eq_getElem (show k < ts.length by omega);have hkd:=hts.k _ (List.getElem_mem (show k < ts.length by omega));rw[zAI hg];generalize a2 ts P now k=s at ih ⊢;generalize ts[k]'(by omega)=t at hg hkd
  by_cases ho:0<=t.Of
  ·rw[if_pos ho];have hr:=ih.rest t.Of.toNat;have hb:=zzl hkd (a:=s.2 t.Of.toNat) (b:=P k) (by omega) (hP k t hg);refine⟨fun j=>?_,fun j=>?_,fun j t' ht' h'=>?_⟩
   ·show 0<=upF s.1 k _ j/\upF s.1 k _ j<=x
    by_cases hjk:j=k
    ·subst hjk; rw[zyA]; omega
    ·rw[zyB _ _ hjk]; exact ih.now j
   ·show 0<=upF (upF s.2 k _) _ _ j/\upF (upF s.2 k _) _ _ j<=x
    by_cases hjo:j=t.Of.toNat
    ·subst hjo; rw[zyA]; omega
    ·rw[zyB _ _ hjo]
     by_cases hjk:j=k
     ·subst hjk; rw[zyA]; omega
     ·rw[zyB _ _ hjk]; exact ih.rest j
   ·show P j+upF s.1 k _ j<=_
    by_cases hjk:j=k
    ·subst hjk; rw[hg] at ht'; cases ht'; rw[zyA]; exact hb.2.2 h'
    ·rw[zyB _ _ hjk]; exact ih.cap j t' ht' h'
  ·rw[if_neg ho]; exact ih
def zAL(ts:List Ty)(th:Nat->Bool)(s:(Nat->Int) × Int)(x:Int):(Nat->Int) × Int:=
 (fun j=>s.1 j+(a2 ts s.1 (a1 ts th s.1 x ts.length).1 ts.length).1 j,s.2+(a1 ts th s.1 x ts.length).2)
def zAM(ts:List Ty)(th:Nat->Bool)(L:List Int):(Nat->Int) × Int:=L.foldl (zAL ts th) (fun _=>0,0)
structure RI (ts:List Ty) (B:Int) (s:(Nat->Int) × Int):Prop where
 net:0<=s.2/\s.2<=B
 pays:∀j,0<=s.1 j/\s.1 j<=B
 cap:zzr ts s.1
theorem RI.step{ts:List Ty}{th:Nat->Bool}(hts:zzs ts){B:Int}{s:(Nat->Int) × Int}(h:RI ts B s){x:Int}(hx:0<=x/\x<=100000):RI ts (B+x) (zAL ts th s x):=by
 have h1:=zAJ (th:=th) hts h.cap hx ts.length (Nat.le_refl _);have h2:=zAK hts h.cap hx h1.now h1.cap ts.length (Nat.le_refl _);refine⟨?_,fun j=>?_,h2.cap⟩
 ·have:=h.net; have:=h1.left; show 0<=s.2+_/\s.2+_<=_; omega
 ·have:=h.pays j; have:=h2.now j; show 0<=s.1 j+_/\s.1 j+_<=_; omega
theorem wu{n:Nat}(h:n<=64):zmd .u64 (n:Int)=(n:Int):=wz (show(0:Int)<=n/\(n:Int) < 18446744073709551616 by omega)
theorem zAN(B k:Nat):(B:Int) / 2 ^ k % 2=((B / 2 ^ k % 2:Nat):Int):=by rw[zyb]; rfl
theorem zAO{B k:Nat}:(B:Int) / 2 ^ k % 2=1↔B.testBit k=true:=by
 rw[zAN,Nat.testBit_eq_decide_div_mod_eq,decide_eq_true_eq]; omega
section
variable {p:Pg} (h:VP p)
theorem zAP(h:VP p){x6 x7 x16:Int}{now:Nat->Int}{K:Int->Int->List Int->Option (List Int × Int)}{P:Nat->Int}(hP:∀j,0<=P j/\P j<=100000)(hn:∀j,0<=now j/\now j<=100000)(hx:0<=x7/\x7<=100000):zsJ p x6 x7 x16 (lN p.Treaties.length now) K 1000000 0 (lN p.Treaties.length P)=K (x6+x16) (x7+1) (lN p.Treaties.length fun j=>P j+now j):=by
 have h5:=h.t5
 let st:Nat->List Int:=fun k=>lN p.Treaties.length fun j=>if j < k then P j+now j else P j
 have key:=zyv (n:=p.Treaties.length) (fun d (s:List Int) y=>zsJ p x6 x7 x16 (lN p.Treaties.length now) K d y s) st (fin:=K (x6+x16) (x7+1) (lN p.Treaties.length fun j=>P j+now j)) (fun d k hk=>?_) (fun d=>?_) 1000000 0 (by omega) (by omega)
 ·exact key
 ·have h1:=hP k;have h2:=hn k
  show zsJ p x6 x7 x16 (lN p.Treaties.length now) K (d+1) (k:Int) (lN p.Treaties.length fun j=>if j < k then P j+now j else P j)=_
  rw[zsJ,if_pos (by omega),zAB h5 _ hk,obs,zAB h5 _ hk,obs,if_neg (by omega),zqt (fI (by omega)),obs,zqt (fI (by omega)),Int.toNat_natCast,zAE h5 _ hk]
  have e:(lN p.Treaties.length (upF (fun j=>if j < k then P j+now j else P j) k (P k+now k)))=st (k+1):=zAG h5 fun j hj=>by
   by_cases hjk:j=k
   ·subst hjk; rw[zyA,if_pos (by omega)]
   ·rw[zyB _ _ hjk]
    by_cases h3:j < k
    ·rw[if_pos h3,if_pos (by omega)]
    ·rw[if_neg h3,if_neg (by omega)]
  rw[e]
 ·show zsJ p x6 x7 x16 (lN p.Treaties.length now) K (d+1) (p.Treaties.length:Int) (lN p.Treaties.length fun j=>if j < p.Treaties.length then P j+now j else P j)=_
  rw[zsJ,if_neg (by omega),zqt (fI (by omega))]
  have e:(lN p.Treaties.length fun j=>if j < p.Treaties.length then P j+now j else P j)=lN p.Treaties.length fun j=>P j+now j:=zAG h5 fun j hj=>by rw[if_pos hj]
  rw[e]
theorem zAQ(h:VP p){x6 x7 x16:Int}{K:Int->Int->List Int->Option (List Int × Int)}{P now:Nat->Int}(hP:∀j,0<=P j/\P j<=100000)(hcap:zzr p.Treaties P){x:Int}(hx:0<=x/\x<=1000)(hn:∀j,0<=now j/\now j<=x)(hcn:zzr p.Treaties fun j=>P j+now j)(hx7:0<=x7/\x7<=100000) :
  zsK p x6 x7 x16 K 1000000 0 (lN p.Treaties.length P) (lN p.Treaties.length now) (lN p.Treaties.length now)=K (x6+x16) (x7+1) (lN p.Treaties.length fun j=>P j+(a2 p.Treaties P now p.Treaties.length).1 j):=by
 have h5:=h.t5;have key:=zyv (n:=p.Treaties.length) (fun d (s:(Nat->Int) × (Nat->Int)) y=>zsK p x6 x7 x16 K d y (lN p.Treaties.length P) (lN p.Treaties.length s.1) (lN p.Treaties.length s.2)) (fun k=>a2 p.Treaties P now k) (fin:=K (x6+x16) (x7+1) (lN p.Treaties.length fun j=>P j+(a2 p.Treaties P now p.Treaties.length).1 j)) (fun d k hk=>?_) (fun d=>?_) 1000000 0 (by omega) (by omega)
 ·exact key
 ·have hg:=List.getElem?_eq_getElem hk;have hkd:=h.tsOk.k _ (List.getElem_mem hk);have hof:=h.of' k _ hg;have ih:=zAK h.tsOk hcap (x:=x) (by omega) hn hcn k (by omega);rw[zAI hg];generalize a2 p.Treaties P now k=s at ih ⊢;rw[zsK,if_pos (by omega),zrU hg,obs];generalize p.Treaties[k]=t at hg hkd hof
  by_cases ho:0<=t.Of
  ·have hr:=ih.rest t.Of.toNat;have hb:=zzl hkd (a:=s.2 t.Of.toNat) (b:=P k) (by omega) (hcap k t hg);have hPk:=hP k;have htk:=zzo hkd (a:=s.2 t.Of.toNat) (b:=P k) (by omega) (by omega)
   have hne:t.Of.toNat ≠ k:=by omega
   have hoo:((t.Of.toNat:Nat):Int)=t.Of:=by omega
   rw[if_pos ho,if_pos ho,zAC h5 _ ho (by omega),obs,zAB h5 _ hk,obs,htk,obs,zAB h5 _ hk,obs,Int.toNat_natCast,zAE h5 _ hk,zAB h5 _ hk,obs,zyA,zAB h5 _ hk,obs,zAE h5 _ hk,zAC h5 _ ho (by omega),obs,zyB _ _ hne,obs,zqt (fI (by omega)),obs,zqt (fI (by omega)),zAE h5 _ (show t.Of.toNat < p.Treaties.length by omega)]
  ·rw[if_neg ho,if_neg ho,zqt (fI (by omega))]
 ·have i2:=zAK h.tsOk hcap (x:=x) (by omega) hn hcn p.Treaties.length (Nat.le_refl _);rw[zsK,if_neg (by omega)];exact zAP h hP (fun j=>by have:=i2.now j; omega) hx7
theorem zAR(h:VP p){b:Nat}(hb:b < 1000000){x6 x7:Int}{K:Int->Int->List Int->Option (List Int × Int)}{P:Nat->Int}(hP:∀j,0<=P j/\P j<=100000)(hcap:zzr p.Treaties P){x:Int}(hx:0<=x/\x<=1000)(hx6:0<=x6/\x6<=100000)(hx7:0<=x7/\x7<=100000) :
  zsL p (b:Int) x6 x7 K 1000000 x 0 (lN p.Treaties.length P) (List.replicate (Int.toNat (p.Treaties.length:Int)) 0)=K (x6+(a1 p.Treaties (fun k=>b.testBit k) P x p.Treaties.length).2) (x7+1) (lN p.Treaties.length fun j=>P j+(a2 p.Treaties P (a1 p.Treaties (fun k=>b.testBit k) P x p.Treaties.length).1 p.Treaties.length).1 j):=by
 have h5:=h.t5;rw[Int.toNat_natCast,zAF h5];have key:=zyv (n:=p.Treaties.length) (fun d (s:(Nat->Int) × Int) y=>zsL p (b:Int) x6 x7 K d s.2 y (lN p.Treaties.length P) (lN p.Treaties.length s.1)) (fun k=>a1 p.Treaties (fun k=>b.testBit k) P x k) (fin:=K (x6+(a1 p.Treaties (fun k=>b.testBit k) P x p.Treaties.length).2) (x7+1) (lN p.Treaties.length fun j=>P j+(a2 p.Treaties P (a1 p.Treaties (fun k=>b.testBit k) P x p.Treaties.length).1 p.Treaties.length).1 j)) (fun d k hk=>?_) (fun d=>?_) 1000000 0 (by omega) (by omega)
 ·exact key
 ·have hg:=List.getElem?_eq_getElem hk;have hkd:=h.tsOk.k _ (List.getElem_mem hk);have hof:=h.of' k _ hg;have ih:=zAJ (th:=fun k=>b.testBit k) h.tsOk hcap (x:=x) (by omega) k (by omega);rw[zAH hg];generalize a1 p.Treaties (fun k=>b.testBit k) P x k=s at ih ⊢;rw[zsL,if_pos (by omega),zrU hg,obs];generalize p.Treaties[k]=t at hg hkd hof
  by_cases ho:t.Of < 0
  ·have hdv:(0:Int)<=(b:Int) / 2 ^ k/\(b:Int) / 2 ^ k<=1000000:=by
    have hq0:=Nat.div_le_self b (2 ^ k);rw[zyb];generalize b / 2 ^ k=q at hq0
    omega
   rw[if_pos ho,zqt (by omega),wu (show k<=64 by omega),zqt (by omega),zqt (by omega),Int.toNat_natCast,zqt (fI (by omega)),zqt hdv.1,zqt (by omega),zqt (fI (by omega))]
   by_cases hbt:b.testBit k=true
   ·have hl:=ih.left;have hbd:=zzl hkd (a:=s.2) (b:=P k) (by omega) (hcap k t hg);have hPk:=hP k;have htk:=zzo hkd (a:=s.2) (b:=P k) (by omega) (by omega);rw[if_pos (zAO.2 hbt),if_pos ⟨ho,hbt⟩,zAB h5 _ hk,obs,htk,obs,zAB h5 _ hk,obs,zAE h5 _ hk,zAB h5 _ hk,obs,zyA,zqt (fI (by omega)),zqt (fI (by omega))]
   ·rw[if_neg fun hc=>hbt (zAO.1 hc),if_neg fun hc=>hbt hc.2,zqt (fI (by omega))]
  ·rw[if_neg ho,if_neg fun hc=>ho hc.1,zqt (fI (by omega))]
 ·have i1:=zAJ (th:=fun k=>b.testBit k) h.tsOk hcap (x:=x) (by omega) p.Treaties.length (Nat.le_refl _);have hl:=i1.left;rw[zsL,if_neg (by omega),zqt (fI (by omega)),zqt (by rw[zAu h5]; simp only[List.length_nil]; omega),List.nil_append];exact zAQ h hP hcap hx i1.now i1.cap hx7
theorem zAS(h:VP p){b:Nat}(hb:b < 1000000){L:List Int}(hL:∀x∈L,0<=x/\x<=1000)(hl:L.length<=9):∀(d k:Nat) (s:(Nat->Int) × Int),k<=L.length->L.length - k < d->RI p.Treaties (1000 * k) s ->
  zsM p L (b:Int) d s.2 (k:Int) (lN p.Treaties.length s.1)=some (lN p.Treaties.length ((L.drop k).foldl (zAL p.Treaties fun k=>b.testBit k) s).1,((L.drop k).foldl (zAL p.Treaties fun k=>b.testBit k) s).2)
 | 0,_,_,_,hd,_=>by omega
 | d+1,k,s,hk,hd,hs=>by
  have h5:=h.t5;rw[zsM]
  by_cases hkl:k < L.length
  ·have hg:=List.getElem?_eq_getElem hkl;have hx:=hL _ (List.getElem_mem hkl);have hn:=hs.net;rw[if_pos (by omega),zrU hg,obs,zqt (by omega),zAR h hb (fun j=>by have:=hs.pays j; omega) hs.cap hx (by omega) (by omega),show(k:Int)+1=((k+1:Nat):Int) by omega,List.drop_eq_getElem_cons hkl];have hs':=hs.step (th:=fun k=>b.testBit k) h.tsOk (x:=L[k]) (by omega);exact zAS h hb hL hl d (k+1) (zAL p.Treaties (fun k=>b.testBit k) s L[k]) (by omega) (by omega) ⟨by have:=hs'.net; omega,fun j=>by have:=hs'.pays j; omega,hs'.cap⟩
  ·rw[if_neg (by omega),List.drop_eq_nil_of_le (by omega)]
   rfl
theorem zAT(h:VP p){b:Nat}(hb:b < 1000000){L:List Int}(hL:∀x∈L,0<=x/\x<=1000)(hl:L.length<=9):zsN p L (b:Int)=some (lN p.Treaties.length (zAM p.Treaties (fun k=>b.testBit k) L).1,(zAM p.Treaties (fun k=>b.testBit k) L).2):=by
 have h5:=h.t5;unfold zsN;rw[zqt (by omega),Int.toNat_natCast,zAF h5];exact zAS h hb hL hl (L.length+1) 0 (fun _=>0,0) (Nat.zero_le _) (by omega) ⟨⟨Int.le_refl _,Int.le_refl _⟩,fun _=>⟨Int.le_refl _,Int.le_refl _⟩,zzz h.tsOk⟩
end
def ofB(ts:List Ty)(j:Nat):Bool:=match ts[j]? with | some t=>decide (t.Of < 0) | none=>false
theorem zAU{ts:List Ty}{j:Nat}{t:Ty}(h:ts[j]? = some t):ofB ts j=decide (t.Of < 0):=by unfold ofB; rw[h]
end
end Go.Proofs.YtkcmdghjgoaggaaGreat

namespace Go.Proofs.YtkcmdghjgoaggaaGreat
open _root_.Go.Proofs.Tryz
open Go.Abs
set_option maxRecDepth 100000
noncomputable section
theorem zAV{b:Nat}(hb:b < 65536):∀(d p:Nat) (acc:List Int),p<=16->16 - p < d->acc=zx5 b p->zsY (b:Int) d acc (p:Int)=some (zx6 b)
 | 0,_,_,_,h,_=>by omega
 | d+1,p,acc,hp,h,ha=>by
  have hle:b / 2 ^ p<=b:=Nat.div_le_self _ _;rw[zsY,wu (show p<=64 by omega)]
  have hq:(b:Int) / 2 ^ ((p:Int)).toNat=((b / 2 ^ p:Nat):Int):=by rw[Int.toNat_natCast]; simp
  rw[hq]
  clear hq
  have hl:=zya (b:=b) p;have hbit:b.testBit p=decide (b / 2 ^ p % 2=1):=Nat.testBit_eq_decide_div_mod_eq ..
  have h16:p=16->b / 2 ^ p=0:=fun he=>by subst he; exact Nat.div_eq_of_lt (by omega)
  have h0':b / 2 ^ p=0->zx5 b p=zx6 b:=fun h9=>by
   have:=zx9 (b:=b) (p:=p) (fun q hq=>zjo h9 hq) (16 - p);rw[show p+(16 - p)=16 by omega] at this;exact this.symm
  generalize b / 2 ^ p=q at hle hbit h16 h0' ⊢;rw[zqt (by omega),zqt (by omega),zqt (by omega),zqt (fI (by omega))]
  by_cases h0:0 < q
  ·have hp16:p < 16:=by
    rcases Nat.lt_or_ge p 16 with h1 | h1
    ·exact h1
    ·have:=h16 (by omega); omega
   rw[if_pos (by omega),zqt (by omega),zqt (by omega),zqt (by omega),zqt (fI (by omega)),zqt (by omega),zqt (by omega),zqt (fI (by omega))]
   by_cases h1:q % 2=1
   ·rw[if_pos (by omega),zqt (show acc.length < 1048576 by rw[ha]; omega),zqt (fI (by omega)),show(p:Int)+1=((p+1:Nat):Int) by omega];refine zAV hb d (p+1) _ (by omega) (by omega) ?_
    show _=zx5 b p++(if b.testBit p then [(p:Int)] else [])
    rw[ha,hbit,h1]; rfl
   ·rw[if_neg (by omega),zqt (fI (by omega)),show(p:Int)+1=((p+1:Nat):Int) by omega];refine zAV hb d (p+1) _ (by omega) (by omega) ?_
    show _=zx5 b p++(if b.testBit p then [(p:Int)] else [])
    rw[ha,hbit,decide_eq_false h1]; simp
  ·rw[if_neg (by omega),ha];exact congrArg some (h0' (by omega))
theorem zAW{b:Nat}(hb:b < 65536):zsZ (b:Int)=some (zx6 b):=zAV hb 1000000 0 [] (Nat.zero_le _) (by omega) rfl
theorem zAX{a b:List Int}(hl:a.length<=1000):∀(d k:Nat),k<=a.length->a.length - k < d->zs0 a b d (k:Int)=some (bef (a.drop k) (b.drop k))
 | 0,_,_,h=>by omega
 | d+1,k,hk,h=>by
  rw[zs0]
  by_cases hka:k < a.length
  ·rw[if_pos (by omega)];have da:=List.drop_eq_getElem_cons hka;have ga:=List.getElem?_eq_getElem hka
   by_cases hkb:k < b.length
   ·have db:=List.drop_eq_getElem_cons hkb;have gb:=List.getElem?_eq_getElem hkb;rw[if_pos (by omega),zrU ga,obs,zrU gb,obs,da,db];unfold bef
    by_cases he:a[k]=b[k]
    ·rw[if_pos he,if_pos he,zqt (fI (by omega)),show(k:Int)+1=((k+1:Nat):Int) by omega];exact zAX hl d (k+1) (by omega) (by omega)
    ·rw[if_neg he,if_neg he,obs,obs]
   ·rw[if_neg (by omega),da,List.drop_eq_nil_of_le (show b.length<=k by omega),decide_eq_false (by omega)]; rfl
  ·rw[if_neg (by omega),List.drop_eq_nil_of_le (show a.length<=k by omega)]
   by_cases hkb:k < b.length
   ·rw[List.drop_eq_getElem_cons hkb,decide_eq_true (by omega)]; rfl
   ·rw[List.drop_eq_nil_of_le (show b.length<=k by omega),decide_eq_false (by omega)]; rfl
theorem zAY{a b:List Int}(hl:a.length<=1000):zs1 a b=some (bef a b):=zAX hl (a.length+1) 0 (Nat.zero_le _) (by omega)
theorem zAZ{a b:List Int}(hl:a.length<=1000):zs2 a b=some (shB a b):=by
 unfold zs2 shB
 by_cases h1:a.length < b.length
 ·rw[if_pos (by omega),decide_eq_true h1]; rfl
 ·rw[if_neg (by omega),decide_eq_false h1]
  by_cases h2:a.length=b.length
  ·rw[if_pos (by omega),zAY hl,decide_eq_true h2]; simp
  ·rw[if_neg (by omega),decide_eq_false h2]; simp
def zA0(n:Nat):List Int:=(List.range n).map fun j=>((j:Nat):Int)
theorem zA1(n:Nat):Inc n 0 (zA0 n):=by
 refine⟨?_,fun v hv=>?_⟩
 ·unfold zA0;rw[List.pairwise_map]
  exact List.pairwise_lt_range.imp fun h=>by omega
 ·obtain⟨j,hj,rfl⟩:=List.mem_map.1 hv;have:=List.mem_range.1 hj
  omega
theorem zA2{n j:Nat}(h:j < n):inD (zA0 n) j=true:=decide_eq_true (List.mem_map.2 ⟨j,List.mem_range.2 h,rfl⟩)
theorem zA3{b:Nat}:(zx6 b).length<=16:=zya 16
structure zA4 (n:Nat) (P:(Nat->Bool)->Prop) (M:List Int):Prop where
 inc:Inc n 0 M
 ok:P (inD M)
 min:∀D,Inc n 0 D->P (inD D)->D=M\/shB M D=true
theorem zA4.uniq{n:Nat}{P:(Nat->Bool)->Prop}{M M':List Int}(h:zA4 n P M)(h':zA4 n P M'):M=M':=by
 rcases h.min M' h'.inc h'.ok with h1 | h1
 ·exact h1.symm
 ·rcases h'.min M h.inc h.ok with h2 | h2
  ·exact h2
  ·rw[zyj h1] at h2; cases h2
def macc(S:Nat->Bool):Nat->Nat
 | 0=>0
 | i+1=>if S i=true then macc S i ||| 2 ^ i else macc S i
theorem zA5(S:Nat->Bool)(j:Nat):∀i,(macc S i).testBit j=(decide (j < i) && S j)
 | 0=>by simp[macc]
 | i+1=>by
  have ih:=zA5 S j i;unfold macc
  by_cases hs:S i=true
  ·rw[if_pos hs,Nat.testBit_or,ih,Nat.testBit_two_pow]
   by_cases h:i=j
   ·subst h; simp[hs]
   ·have:decide (j < i+1)=decide (j < i):=decide_eq_decide.2 (by omega);rw[this]; simp[h]
  ·rw[if_neg hs,ih]
   by_cases h:i=j
   ·subst h
    have:S i=false:=by simpa using hs
    rw[this]; simp
   ·have:decide (j < i+1)=decide (j < i):=decide_eq_decide.2 (by omega);rw[this]
theorem zA6{i:Nat}(h:i<=6):2 ^ i<=64:=Nat.pow_le_pow_right (n:=2) (by omega) h
def zA7:List Rg->Int->List Int
 | [],_=>[]
 | r::rs,n=>(r.Lo+n % (r.Hi - r.Lo+1))::zA7 rs (n / (r.Hi - r.Lo+1))
theorem zA8:∀{rs:List Rg} {n:Int},(∀r∈rs,r.Lo<=r.Hi)->0<=n->inL rs (zA7 rs n)
 | [],_,_,_=>trivial
 | r::rs,n,h,h0=>by
  have hr:=h r (List.mem_cons_self ..);have h1:=Int.emod_nonneg n (show r.Hi - r.Lo+1 ≠ 0 by omega);have h2:=Int.emod_lt_of_pos n (show 0 < r.Hi - r.Lo+1 by omega);exact⟨⟨by omega,by omega⟩,zA8 (fun r hr=>h r (List.mem_cons_of_mem _ hr)) (Int.ediv_nonneg h0 (by omega))⟩
theorem zA9:∀{rs:List Rg} {L:List Int},inL rs L->∃n,0<=n/\n < zyJ rs/\zA7 rs n=L
 | [],[],_=>⟨0,Int.le_refl _,by show(0:Int) < 1; omega,rfl⟩
 | [],_::_,h=>h.elim
 | _::_,[],h=>h.elim
 | r::rs,x::xs,h=>by
  obtain⟨n,h0,h1,h2⟩:=zA9 h.2;have hx:=h.1;obtain⟨c,hc⟩:∃c,c=r.Hi - r.Lo+1:=⟨_,rfl⟩;refine⟨(x - r.Lo)+c * n,?_,?_,?_⟩
  ·have:=Int.mul_nonneg (show 0<=c by omega) h0; omega
  ·show _ < (r.Hi - r.Lo+1) * zyJ rs
   rw[<- hc];have:=Int.mul_le_mul_of_nonneg_left (show n+1<=zyJ rs by omega) (show 0<=c by omega);rw[Int.mul_add,Int.mul_one] at this
   omega
  ·show(r.Lo+_ % (r.Hi - r.Lo+1))::zA7 rs (_ / (r.Hi - r.Lo+1))=_
   rw[<- hc,Int.add_mul_emod_self_left,Int.emod_eq_of_lt (by omega) (by omega),Int.add_mul_ediv_left _ _ (by omega),Int.ediv_eq_zero_of_lt (by omega) (by omega),Int.zero_add,h2]
   congr 1; omega
theorem zBa{p:Pg}(h:VP p):∀(d k:Nat) (acc:List Int) (n:Int),k<=p.Losses.length->p.Losses.length - k < d->acc.length=k->0<=n/\n<=100000->zsF p d acc n (k:Int)=some (acc++zA7 (p.Losses.drop k) n)
 | 0,_,_,_,_,hd,_,_=>by omega
 | d+1,k,acc,n,hk,hd,ha,hn=>by
  have h4:=h.l4;rw[zsF]
  by_cases hkl:k < p.Losses.length
  ·have hg:=List.getElem?_eq_getElem hkl;have hr:=h.ls _ (List.getElem_mem hkl);rw[List.drop_eq_getElem_cons hkl];generalize p.Losses[k]=r at hg hr;have hr':=hr;unfold RgV at hr';have h1:=Int.emod_nonneg n (show r.Hi - r.Lo+1 ≠ 0 by omega);have h2:=Int.emod_lt_of_pos n (show 0 < r.Hi - r.Lo+1 by omega);have h3:=Int.ediv_nonneg hn.1 (show 0<=r.Hi - r.Lo+1 by omega);have h5:=Int.ediv_le_self (r.Hi - r.Lo+1) hn.1
   simp only[zrU hg,obs,zy8 hr]
   rw[if_pos (by omega),zqt hn.1,zqt (by omega),zqt (fI (by omega)),zqt (fI (by omega)),zqt (by omega),zqt hn.1,zqt (by omega),zqt (fI (by omega)),zqt (fI (by omega)),show(k:Int)+1=((k+1:Nat):Int) by omega];refine(zBa h d (k+1) (acc++[r.Lo+n % (r.Hi - r.Lo+1)]) (n / (r.Hi - r.Lo+1)) (by omega) (by omega) (by rw[List.length_append,ha]; rfl) (by omega)).trans ?_;rw[List.append_assoc]; rfl
  ·rw[if_neg (by omega),List.drop_eq_nil_of_le (by omega)]
   show _=some (acc++[])
   rw[List.append_nil]
theorem zBb{p:Pg}(h:VP p){n:Int}(hn:0<=n/\n<=100000):zsG p n=some (zA7 p.Losses n):=zBa h 1000000 0 [] n (Nat.zero_le _) (by have:=h.l4; omega) rfl hn
theorem VP.nthIn{p:Pg}(h:VP p){n:Int}(hn:0<=n):inL p.Losses (zA7 p.Losses n):=zA8 (fun r hr=>(h.ls r hr).2.1) hn
theorem zBc{n:Nat}(h:n<=6):(1:Int) * 2 ^ (Int.toNat (zmd .u64 (n:Int)))=((2 ^ n:Nat):Int):=by rw[wu (by omega),Int.toNat_natCast,Int.one_mul,Int.natCast_pow]; rfl
theorem zBd{n:Nat}(h:n<=6):(gd ((0:Int)<=(1:Int)) (gd ((0:Int)<=(zmd .u64 (n:Int))) (gd ((zmd .u64 (n:Int))<=(64:Int)) (gd (zl8 .i64 ((1:Int) * ((2:Int) ^ (Int.toNat (zmd .u64 (n:Int)))))) (gd (zl8 .i64 (((1:Int) * ((2:Int) ^ (Int.toNat (zmd .u64 (n:Int))))) - (1:Int))) (some (((1:Int) * ((2:Int) ^ (Int.toNat (zmd .u64 (n:Int))))) - (1:Int))))))))=some ((2 ^ n - 1:Nat):Int):=by
 have hp:=zA6 h;have hp0:0 < 2 ^ n:=Nat.two_pow_pos _;rw[zBc h,zqt (by omega),wu (by omega),zqt (by omega),zqt (by omega),zqt (fI (by omega)),zqt (fI (by omega))]
 congr 1
 omega
theorem zBe{p:Pg}(h:VP p):zsI p=some ((2 ^ p.Treaties.length - 1:Nat):Int):=zBd (by have:=h.t5; omega)
theorem l9{p:Pg}(h:VP p){L:List Int}(hL:inL p.Losses L):L.length<=9:=by rw[zzL hL]; have:=h.l4; omega
open Classical in
def agR(P:Nat->Int)(r:Rpt):Prop:=r.Paid.Lo<=P r.Treaty.toNat/\P r.Treaty.toNat<=r.Paid.Hi
open Classical in
def agf(p:Pg)(L:List Int)(j:Nat):Bool:=decide (∀r,p.Reports[j]? = some r->agR (zzy p.Treaties L).pays r)
open Classical in
theorem zBf{p:Pg}{L:List Int}{j:Nat}{r:Rpt}(h:p.Reports[j]? = some r):agf p L j=true↔agR (zzy p.Treaties L).pays r:=by
 unfold agf;rw[decide_eq_true_eq];exact⟨fun q=>q r h,fun q r' h'=>by rw[h] at h'; cases h'; exact q⟩
def zBg(p:Pg)(L:List Int):Nat:=macc (agf p L) p.Reports.length
def PL(p:Pg)(S:Nat->Bool):Prop:=∃L,inL p.Losses L/\∀j,j < p.Reports.length->S j=false->agf p L j=true
theorem PL.congr{p:Pg}{S S':Nat->Bool}(h:∀j,j < p.Reports.length->S j=S' j):PL p S↔PL p S':=
 exists_congr fun _=>and_congr_right fun _=>forall_congr' fun j=>forall_congr' fun hj=>by rw[h j hj]
theorem zBh{p:Pg}(h:VP p){L:List Int}(hL:inL p.Losses L):(∀j,0<=(zzy p.Treaties L).pays j/\(zzy p.Treaties L).pays j<=4000)/\(∀j,0<=(zzy p.Treaties L).keeps j/\(zzy p.Treaties L).keeps j<=4000)/\0<=(zzy p.Treaties L).soc/\(zzy p.Treaties L).soc<=4000:=by
 obtain⟨h1,h2,h3⟩:=zz2 h hL;refine⟨fun j=>?_,fun j=>?_,?_⟩
 ·have:=h1.pays j; omega
 ·have:=h1.keeps j; omega
 ·have:=h1.soc; omega
theorem VP.prodPos{p:Pg}(h:VP p):1<=zyJ p.Losses:=(zyY h.ls h.l4).1
end
end Go.Proofs.YtkcmdghjgoaggaaGreat

namespace Go.Proofs.YtkcmdghjgoaggaaGreat
open _root_.Go.Proofs.Tryz
open Go.Abs
set_option maxRecDepth 100000
noncomputable section
theorem zBi{p:Pg}{L:List Int}:zBg p L=2 ^ p.Reports.length - 1↔agN (zzy p.Treaties L).pays p.Reports:=by
 constructor
 ·intro h r hr;obtain⟨j,hj⟩:=List.mem_iff_getElem?.1 hr;have hjl:=(List.getElem?_eq_some_iff.1 hj).1
  have e:(zBg p L).testBit j=true:=by rw[h,Nat.testBit_two_pow_sub_one,decide_eq_true hjl]
  unfold zBg at e;rw[zA5] at e;exact(zBf hj).1 (Bool.and_eq_true_iff.1 e).2
 ·intro h
  apply Nat.eq_of_testBit_eq
  intro j;unfold zBg;rw[zA5,Nat.testBit_two_pow_sub_one]
  by_cases hj:j < p.Reports.length
  ·have hg:=List.getElem?_eq_getElem hj;rw[decide_eq_true hj,(zBf hg).2 (h _ (List.getElem_mem hj))]; rfl
  ·rw[decide_eq_false hj]; rfl
def trL(p:Pg):List (List Int):=((List.range (zyJ p.Losses).toNat).filter fun n:Nat=>decide (zBg p (zA7 p.Losses (n:Int))=2 ^ p.Reports.length - 1)).map fun n:Nat=>zA7 p.Losses (n:Int)
theorem zBj{p:Pg}(h:VP p){L:List Int}:L∈trL p↔TrS p p.Reports L:=by
 unfold trL TrS;rw[List.mem_map]
 constructor
 ·rintro⟨n,hn,rfl⟩
  obtain⟨_,h2⟩:=List.mem_filter.1 hn;exact⟨h.nthIn (by omega),zBi.1 (of_decide_eq_true h2)⟩
 ·rintro⟨hL,hA⟩
  obtain⟨n,n0,n1,rfl⟩:=zA9 hL;refine⟨n.toNat,List.mem_filter.2 ⟨List.mem_range.2 (by omega),decide_eq_true ?_⟩,?_⟩
  ·rw[show((n.toNat:Nat):Int)=n by omega]; exact zBi.2 hA
  ·show zA7 p.Losses ((n.toNat:Nat):Int)=_
   rw[show((n.toNat:Nat):Int)=n by omega]
theorem zBk{p:Pg}:zAg p p.Reports↔PL p fun j=>!(2 ^ p.Reports.length - 1).testBit j:=by
 constructor
 ·rintro⟨L,h1,h2⟩
  exact⟨L,h1,fun j hj _=>(zBf (List.getElem?_eq_getElem hj)).2 (h2 _ (List.getElem_mem hj))⟩
 ·rintro⟨L,h1,h2⟩
  refine⟨L,h1,fun r hr=>?_⟩;obtain⟨j,hj⟩:=List.mem_iff_getElem?.1 hr;have hjl:=(List.getElem?_eq_some_iff.1 hj).1;exact(zBf hj).1 (h2 j hjl (by show(!(2 ^ p.Reports.length - 1).testBit j)=false; rw[Nat.testBit_two_pow_sub_one,decide_eq_true hjl]; rfl))
def wd(r:Rg)(x:Int):Rg:={ Lo:=min r.Lo x,Hi:=max r.Hi x }
def emp:Rg:={ Lo:=1099511627776,Hi:=-1099511627776 }
def wdL(g:List Int->Int)(l:List (List Int)):Rg:=l.foldl (fun r L=>wd r (g L)) emp
theorem zBl{g:List Int->Int}{l:List (List Int)}{k:Nat}{L:List Int}(h:l[k]? = some L):wdL g (l.take (k+1))=wd (wdL g (l.take k)) (g L):=by
 unfold wdL;rw[List.take_add_one,h,List.foldl_append]; rfl
theorem zBm{g:List Int->Int}:∀(l:List (List Int)) (r:Rg),((l.foldl (fun r L=>wd r (g L)) r).Lo=r.Lo\/∃L∈l,g L=(l.foldl (fun r L=>wd r (g L)) r).Lo)/\((l.foldl (fun r L=>wd r (g L)) r).Hi=r.Hi\/∃L∈l,g L=(l.foldl (fun r L=>wd r (g L)) r).Hi)/\(l.foldl (fun r L=>wd r (g L)) r).Lo<=r.Lo/\r.Hi<=(l.foldl (fun r L=>wd r (g L)) r).Hi/\∀L∈l,(l.foldl (fun r L=>wd r (g L)) r).Lo<=g L/\g L<=(l.foldl (fun r L=>wd r (g L)) r).Hi
 | [],r=>⟨.inl rfl,.inl rfl,Int.le_refl _,Int.le_refl _,fun L hL=>by cases hL⟩
 | L::l,r=>by
  obtain⟨a,b,c,d,e⟩:=zBm (g:=g) l (wd r (g L));have h1:(wd r (g L)).Lo=min r.Lo (g L):=rfl;have h2:(wd r (g L)).Hi=max r.Hi (g L):=rfl;rw[h1] at a c;rw[h2] at b d;rw[List.foldl_cons];generalize l.foldl (fun r L=>wd r (g L)) (wd r (g L))=R at a b c d e ⊢;refine⟨?_,?_,by clear a b; omega,by clear a b; omega,fun L' hL'=>?_⟩
  ·clear b
   rcases a with a | ⟨L',q1,q2⟩
   ·rcases Int.le_total r.Lo (g L) with h | h
    ·exact .inl (by omega)
    ·exact .inr ⟨L,List.mem_cons_self ..,by omega⟩
   ·exact .inr ⟨L',List.mem_cons_of_mem _ q1,q2⟩
  ·clear a
   rcases b with b | ⟨L',q1,q2⟩
   ·rcases Int.le_total (g L) r.Hi with h | h
    ·exact .inl (by omega)
    ·exact .inr ⟨L,List.mem_cons_self ..,by omega⟩
   ·exact .inr ⟨L',List.mem_cons_of_mem _ q1,q2⟩
  ·clear a b
   rcases List.mem_cons.1 hL' with h | h
   ·subst h; omega
   ·exact e L' h
theorem zBn{g:List Int->Int}{l:List (List Int)}(hne:l ≠ [])(hb:∀L∈l,-1000000<=g L/\g L<=1000000):IsB (·∈l) g (wdL g l):=by
 obtain⟨a,b,c,d,e⟩:=zBm (g:=g) l emp;have h1:emp.Lo=1099511627776:=rfl;have h2:emp.Hi = -1099511627776:=rfl;rw[h1] at a c;rw[h2] at b d;obtain⟨L0,hL0⟩:=List.exists_mem_of_ne_nil l hne;have q1:=hb L0 hL0;have q2:=e L0 hL0;unfold wdL;generalize l.foldl (fun r L=>wd r (g L)) emp=R at a b c d e q2 ⊢;refine⟨?_,?_,e⟩
 ·clear b
  rcases a with a | a
  ·omega
  ·exact a
 ·clear a
  rcases b with b | b
  ·omega
  ·exact b
def bsN(n:Nat)(f:Nat->Bd):List Bd:=(List.range n).map f
theorem zBo{n:Nat}{f:Nat->Bd}:(bsN n f).length=n:=by unfold bsN; rw[List.length_map,List.length_range]
theorem zBp{n:Nat}{f:Nat->Bd}{k:Nat}(h:k < n):(bsN n f)[k]? = some (f k):=by unfold bsN; rw[List.getElem?_map,List.getElem?_range h]; rfl
def bdF(p:Pg)(l:List (List Int))(k:Nat):Bd:={ Pays:=wdL (fun L=>(zzy p.Treaties L).pays k) l,Keeps:=wdL (fun L=>(zzy p.Treaties L).keeps k) l }
theorem zBq{p:Pg}(h:VP p)(hc:zAg p p.Reports):zAy p (bsN p.Treaties.length (bdF p (trL p)))/\IsB (TrS p p.Reports) (fun L=>(zzy p.Treaties L).soc) (wdL (fun L=>(zzy p.Treaties L).soc) (trL p)):=by
 have hne:trL p ≠ []:=fun e=>by
  obtain⟨L,hL⟩:=hc;have:=(zBj h).2 hL
  rw[e] at this; cases this
 have hb:∀L∈trL p,inL p.Losses L:=fun L hL=>((zBj h).1 hL).1;refine⟨⟨zBo,fun k b hk=>?_⟩,?_⟩
 ·have hkl:=(List.getElem?_eq_some_iff.1 hk).1;rw[zBo] at hkl;rw[zBp hkl] at hk
  cases hk
  refine⟨(zBn hne fun L hL=>?_).congr (fun L=>zBj h) fun _ _=>rfl,(zBn hne fun L hL=>?_).congr (fun L=>zBj h) fun _ _=>rfl⟩
  ·have:=(zBh h (hb L hL)).1 k; omega
  ·have:=(zBh h (hb L hL)).2.1 k; omega
 ·refine(zBn hne fun L hL=>?_).congr (fun L=>zBj h) fun _ _=>rfl;have:=(zBh h (hb L hL)).2.2; omega
def kpF:List Rpt->Nat->(Nat->Bool)->List Rpt
 | [],_,_=>[]
 | v::V,i,S=>if S i=true then v::kpF V (i+1) S else kpF V (i+1) S
theorem zBr{S:Nat->Bool}{v:Rpt}:∀(V:List Rpt) (i:Nat),v∈kpF V i S↔∃j,V[j]? = some v/\S (i+j)=true
 | [],i=>by simp[kpF]
 | a::V,i=>by
  have ih:=zBr (S:=S) (v:=v) V (i+1)
  have e:(∃j,(a::V)[j]? = some v/\S (i+j)=true)↔(a=v/\S i=true)\/∃j,V[j]? = some v/\S (i+1+j)=true:=by
   constructor
   ·rintro⟨j,h1,h2⟩
    cases j with
    | zero=>exact .inl ⟨by simpa using h1,h2⟩
    | succ j=>exact .inr ⟨j,by simpa using h1,by rw[show i+1+j=i+(j+1) by omega]; exact h2⟩
   ·rintro (⟨h1,h2⟩ | ⟨j,h1,h2⟩)
    ·exact⟨0,by simpa using h1,h2⟩
    ·exact⟨j+1,by simpa using h1,by rw[show i+(j+1)=i+1+j by omega]; exact h2⟩
  rw[e];unfold kpF
  by_cases hs:S i=true
  ·rw[if_pos hs,List.mem_cons,ih];exact or_congr ⟨fun h=>⟨h.symm,hs⟩,fun h=>h.1.symm⟩ Iff.rfl
  ·rw[if_neg hs,ih];exact⟨.inr,fun h=>h.elim (fun h=>absurd h.2 hs) id⟩
theorem zBs{S:Nat->Bool}:∀(V:List Rpt) (i:Nat),(kpF V i S).length<=V.length
 | [],_=>Nat.le_refl _
 | a::V,i=>by
  have:=zBs (S:=S) V (i+1);unfold kpF
  split <;> simp only[List.length_cons] <;> omega
theorem zBt{l:List Int}{v:Int}(hl:zr4 l):∀d (k:Nat),k<=l.length->l.length - k < d->∃r,zt7 l v d (k:Int)=some r/\(0<=r↔v∈l.drop k)
 | 0,k,_,h=>by omega
 | d+1,k,hk,h=>by
  unfold zr4 at hl;unfold zt7
  by_cases hkn:k=l.length
  ·subst hkn; rw[if_neg (Int.lt_irrefl _)]; exact⟨_,rfl,by simp⟩
  ·have hlt:k < l.length:=by omega
   rw[if_pos (by omega),zrU (List.getElem?_eq_getElem hlt),obs];have hd:=List.drop_eq_getElem_cons hlt
   by_cases hv:v=l[k]
   ·rw[if_pos hv]; exact⟨_,rfl,⟨fun _=>by rw[hd,<- hv]; exact List.mem_cons_self ..,fun _=>by omega⟩⟩
   ·rw[if_neg hv,zqt (fI (by omega)),show(k:Int)+1=((k+1:Nat):Int) by omega];obtain⟨r,h1,h2⟩:=zBt hl d (k+1) (by omega) (by omega);exact⟨r,h1,h2.trans ⟨fun h=>by rw[hd]; exact List.mem_cons_of_mem _ h,fun h=>by rw[hd] at h; exact(List.mem_cons.1 h).resolve_left hv⟩⟩
theorem zBu{l:List Int}{v:Int}(hl:zr4 l):zt9 l v=some (decide (v∈l)):=by
 unfold zt9 zt8;obtain⟨r,h1,h2⟩:=zBt (v:=v) hl (l.length+1) 0 (Nat.zero_le _) (by omega);have h1:zt7 l v (l.length+1) 0=some r:=h1;rw[h1,obs];exact congrArg some (decide_eq_decide.2 (h2.trans (by rw[List.drop_zero])))
theorem zBv{p:Int->Option Bool}{f:Nat->Bool}{n:Nat}(hn:n<=1000000)(hp:∀m,m < n->p (m:Int)=some (f m))(hm:∀m k,m<=k->k < n->f m=true->f k=true):∀d (i j:Nat),i<=j->j<=n->j - i < d->(∀m,m < i->f m=false)->(∀m,j<=m->m < n->f m=true) ->
  ∃k:Nat,zuA p d (i:Int) (j:Int)=some (k:Int)/\k<=n/\(∀m,m < k->f m=false)/\(∀m,k<=m->m < n->f m=true)
 | 0,_,_,_,_,h,_,_=>by omega
 | d+1,i,j,hij,hj,h,hlo,hhi=>by
  rw[zuA]
  by_cases hc:i < j
  ·obtain⟨md,hmd⟩:∃md:Nat,md=(i+j) / 2:=⟨_,rfl⟩
   have hf:zl8 .u64 ((i:Int)+j):=show _/\_ by constructor <;> omega
   have e:zmd .i64 (zmd .u64 ((i:Int)+j) / 2)=(md:Int):=by
    rw[wz hf,wz (fI (by omega))]; omega
   rw[if_pos (by omega),zqt (fI (by omega)),zqt (by rw[wz hf]; omega),zqt (by omega),zqt (by omega),zqt (by rw[wz hf]; exact show _/\_ by constructor <;> omega),e,hp md (by omega),obs]
   cases hq:f md with
   | true=>
    rw[if_pos rfl];exact zBv hn hp hm d i md (by omega) (by omega) (by omega) hlo fun m h1 h2=>hm md m h1 h2 hq
   | false=>
    rw[if_neg (by decide),zqt (fI (by omega)),show(md:Int)+1=((md+1:Nat):Int) by omega]
    exact zBv hn hp hm d (md+1) j (by omega) hj (by omega) (fun m h1=>by
     cases hq2:f m with
     | false=>rfl
     | true=>have:=hm m md (by omega) (by omega) hq2; rw[hq] at this; cases this) hhi
  ·rw[if_neg (by omega)];exact⟨i,rfl,by omega,hlo,fun m h1 h2=>hhi m (by omega) h2⟩
theorem zBw{p:Pg}{L:List Int}{S:Nat->Bool}:agN (zzy p.Treaties L).pays (kpF p.Reports 0 S)↔∀j,j < p.Reports.length->S j=true->agf p L j=true:=by
 constructor
 ·intro h j hj hs;have hg:=List.getElem?_eq_getElem hj;exact(zBf hg).2 (h _ ((zBr _ _).2 ⟨j,hg,by rw[Nat.zero_add]; exact hs⟩))
 ·intro h r hr;obtain⟨j,h1,h2⟩:=(zBr _ _).1 hr;rw[Nat.zero_add] at h2;exact(zBf h1).1 (h j (List.getElem?_eq_some_iff.1 h1).1 h2)
theorem zBx{p:Pg}{S:Nat->Bool}:zAg p (kpF p.Reports 0 S)↔PL p fun j=>!S j:=by
 unfold zAg PL;refine exists_congr fun L=>and_congr_right fun _=>zBw.trans ?_;refine forall_congr' fun j=>forall_congr' fun _=>?_
 show(S j=true->_)↔((!S j)=false->_)
 cases S j <;> simp
theorem zBy{l:List Rpt}{D:List Int}(hl:l.length<=1000)(hD:zr4 D):zub l D=some (kpF l 0 fun j=>!inD D j):=by
 have key:∀(d k:Nat) (acc:List Rpt),k<=l.length->l.length - k < d->acc.length<=k->zua l D d acc (k:Int)=some (acc++kpF (l.drop k) k fun j=>!inD D j):=by
  intro d
  induction d with
  | zero=>intro k _ _ h _; omega
  | succ d ih=>
   intro k acc hk hd ha;rw[zua]
   by_cases hkl:k < l.length
   ·rw[if_pos (by omega),zrU (List.getElem?_eq_getElem hkl),obs,zBu hD,obs,List.drop_eq_getElem_cons hkl,kpF]
    by_cases hin:(k:Int)∈D
    ·have e:inD D k=true:=decide_eq_true hin;rw[decide_eq_true hin,if_pos rfl,zqt (fI (by omega)),show(k:Int)+1=((k+1:Nat):Int) by omega,if_neg (by rw[e]; simp)];exact ih (k+1) acc (by omega) (by omega) (by omega)
    ·have e:inD D k=false:=decide_eq_false hin;rw[decide_eq_false hin,if_neg (by decide),zqt (by omega),zqt (fI (by omega)),show(k:Int)+1=((k+1:Nat):Int) by omega,if_pos (by rw[e]; rfl)];refine(ih (k+1) _ (by omega) (by omega) (by rw[List.length_append]; show acc.length+1<=_; omega)).trans ?_;rw[List.append_assoc]; rfl
   ·rw[if_neg (by omega),List.drop_eq_nil_of_le (by omega)]
    show _=some (acc++[])
    rw[List.append_nil]
 exact key (l.length+1) 0 [] (Nat.zero_le _) (by omega) (Nat.le_refl _)
theorem zz7.kp{p:Pg}(h:VP p)(S:Nat->Bool):zz7 (kpF p.Reports 0 S):=fun r hr=>by
 obtain⟨j,h1,_⟩:=(zBr _ _).1 hr;exact h.rsOk r (List.mem_of_getElem? h1)
theorem zBz{p:Pg}(h:VP p){D:List Int}(hD:zr4 D):Ev (zuD D (zz0 p (zzS p)) p) (PL p (inD D)):=by
 have hr5:=h.r5;unfold zuD;rw[zBy (by omega) hD,obs]
 show Ev ((zui (zz0 p (zzS p)) (kpF p.Reports 0 fun j=>!inD D j)).bind _) _
 have hlen:=zBs (S:=fun j=>!inD D j) p.Reports 0;refine(zAh h (zz7.kp h _) (zr5 hlen (by omega))).ret.imp (zBx.trans (PL.congr fun j _=>?_))
 simp
theorem zBA{p:Pg}(h:VP p):PL p (inD (zA0 p.Reports.length)):=by
 obtain⟨L,hL⟩:=zzW h;exact⟨L,hL,fun j hj hs=>by rw[zA2 hj] at hs; cases hs⟩
theorem zBB{p:Pg}(h:VP p):∃M,zuE p=some (M,0)/\zA4 p.Reports.length (PL p) M:=by
 have h4:=h.r5;have hsh:∀D,Inc p.Reports.length 0 D->zr4 D:=fun D hD=>zr5 (Nat.le_refl D.length) (by have:=zx3 hD; omega)
 have ht:∀D,Inc p.Reports.length 0 D->((zuD D (zz0 p (zzS p)) p).getD false=true↔PL p (inD D)):=fun D hD=>by
  obtain⟨b,q1,q2⟩:=zBz h (hsh D hD);rw[q1]; exact q2
 obtain⟨s1,s2,s3⟩:=zyp (n:=p.Reports.length) (t:=fun L=>(zuD L (zz0 p (zzS p)) p).getD false) ⟨zA0 p.Reports.length,zA1 _,(ht _ (zA1 _)).2 (zBA h)⟩;refine⟨zrB p.Reports.length fun L=>(zuD L (zz0 p (zzS p)) p).getD false,?_,s1,(ht _ s1).1 s2,fun D hD hD2=>s3 D hD ((ht D hD).2 hD2)⟩;unfold zuE zrC
 rw[zAs h,obs,if_pos rfl,zz6 h,obs,zqt ⟨by omega,by omega,fun L hL=>by
  have hI:Inc p.Reports.length 0 L:=by rw[Int.toNat_natCast] at hL; exact zx4.1 hL
  obtain⟨b,q1,_⟩:=zBz h (hsh L hI)
  show(zuD L (zz0 p (zzS p)) p).isSome=true
  rw[q1]; rfl⟩,obs,Int.toNat_natCast]
def FP(p:Pg)(j:Nat):Prop:=zAg p (p.Reports.take (j+1))
theorem zBC{p:Pg}{i j:Nat}(hij:i<=j)(h:FP p j):FP p i:=by
 obtain⟨L,h1,h2⟩:=h;refine⟨L,h1,fun r hr=>h2 r ?_⟩
 have e:p.Reports.take (i+1)=(p.Reports.take (j+1)).take (i+1):=by rw[List.take_take,show min (i+1) (j+1)=i+1 by omega]
 rw[e] at hr;exact List.mem_of_mem_take hr
open Classical in
theorem zBD{p:Pg}(h:VP p):(∃j,j < p.Reports.length/\¬ FP p j/\(∀i,i < j->FP p i)/\zuC p=some ((j:Int),0))\/((∀j,j < p.Reports.length->FP p j)/\zuC p=some (0,7)):=by
 have h4:=h.r5
 have hf:∀m,m < p.Reports.length->zuz (m:Int) (zz0 p (zzS p)) p=some (decide (¬ FP p m)):=fun m hm=>by
  unfold zuz;rw[zqt (fI (by omega)),zqt (by omega),show Int.toNat ((m:Int)+1)=m+1 by omega,show Int.toNat (0:Int)=0 from rfl,List.drop_zero]
  show(zui (zz0 p (zzS p)) (p.Reports.take (m+1))).bind _=_
  have hlen:(p.Reports.take (m+1)).length<=5:=by rw[List.length_take]; omega
  have hc:=zAh h (rs:=p.Reports.take (m+1)) (fun r hr=>h.rsOk r (List.mem_of_mem_take hr)) (zr5 hlen (by omega))
  by_cases hq:FP p m
  ·rw[hc.some_of hq,obs,decide_eq_false (not_not_intro hq)]; rfl
  ·rw[hc.some_not hq,obs,decide_eq_true hq]; rfl
 obtain⟨k,q1,q2,q3,q4⟩:=zBv (n:=p.Reports.length) (p:=fun a=>zuz a (zz0 p (zzS p)) p) (f:=fun m=>decide (¬ FP p m)) (by omega) hf (fun m k h1 h2 h3=>decide_eq_true fun hk=>of_decide_eq_true h3 (zBC h1 hk)) ((p.Reports.length:Int).toNat+1) 0 p.Reports.length (Nat.zero_le _) (Nat.le_refl _) (by omega) (fun m hm=>by omega) fun m h1 h2=>by omega
 have e:zuC p=if ((k:Nat):Int)=(p.Reports.length:Int) then some (0,7) else some ((k:Int),0):=by
  unfold zuC zuB;rw[zAs h,obs,if_pos rfl,zz6 h,obs];have q1:zuA (fun a=>zuz a (zz0 p (zzS p)) p) ((p.Reports.length:Int).toNat+1) 0 (p.Reports.length:Int)=some (k:Int):=q1;rw[q1,obs]
 have hlt:∀i,i < k->FP p i:=fun i hi=>Classical.not_not.1 (of_decide_eq_false (q3 i hi))
 by_cases hk:k=p.Reports.length
 ·rw[if_pos (by omega)] at e;exact .inr ⟨fun j hj=>hlt j (by omega),e⟩
 ·rw[if_neg (by omega)] at e;exact .inl ⟨k,by omega,of_decide_eq_true (q4 k (Nat.le_refl _) (by omega)),hlt,e⟩
theorem zBE{p:Pg}{j j':Nat}(h1:¬ FP p j)(h2:∀i,i < j->FP p i)(h3:¬ FP p j')(h4:∀i,i < j'->FP p i):j=j':=by
 rcases Nat.lt_trichotomy j j' with h | h | h
 ·exact absurd (h4 j h) h1
 ·exact h
 ·exact absurd (h2 j' h) h3
end
end Go.Proofs.YtkcmdghjgoaggaaGreat

namespace Go.Proofs.YtkcmdghjgoaggaaGreat
open _root_.Go.Proofs.Tryz
open Go.Abs
set_option maxRecDepth 100000
noncomputable section
theorem zBF{l:List Int}:(∀j,0 < j->j < l.length->∀a b,l[j - 1]? = some a->l[j]? = some b->a < b)↔l.Pairwise (· < ·):=by
 constructor
 ·intro h;rw[List.pairwise_iff_getElem];intro i j hi hj hij
  have key:∀d,(hd:i+d+1 < l.length)->l[i] < l[i+d+1]:=fun d=>by
   induction d with
   | zero=>intro hd; exact h (i+1) (by omega) hd _ _ (List.getElem?_eq_getElem hi) (List.getElem?_eq_getElem hd)
   | succ d ih=>
    intro hd;have h1:=ih (by omega);have h2:=h (i+(d+1)+1) (by omega) hd _ _ (List.getElem?_eq_getElem (show i+d+1 < l.length by omega)) (List.getElem?_eq_getElem hd);exact Int.lt_trans h1 h2
  have:=key (j - i - 1) (by omega)
  simpa [show i+(j - i - 1)+1=j by omega] using this
 ·intro h j h0 hj a b ha hb;obtain⟨h1,rfl⟩:=List.getElem?_eq_some_iff.1 ha;obtain⟨h2,rfl⟩:=List.getElem?_eq_some_iff.1 hb;exact List.pairwise_iff_getElem.1 h (j - 1) j h1 h2 (by omega)
theorem zBG{l:List Int}(hl:zr4 l):Ev (ztH l) (l.Pairwise (· < ·)):=by
 unfold zr4 at hl;unfold ztH
 by_cases h0:l.length=0
 ·have:l=[]:=List.eq_nil_of_length_eq_zero h0;subst this
  show Ev (ztG [] 1 1) _
  rw[ztG,if_neg (by decide)];exact Ev.tt .nil
 ·have e:∃n,l.length=n+1:=⟨l.length - 1,by omega⟩;obtain⟨n,hn⟩:=e
  have key:=zrY (n:=n) (F:=fun d x=>ztG l d (x+1)) (ok:=fun j=>∀a b,l[j]? = some a->l[j+1]? = some b->a < b) (bad:=some false) (fin:=some true) (fun d k hk=>by
   show(_->ztG l (d+1) ((k:Int)+1)=_)/\_
   have ha:=List.getElem?_eq_getElem (show k < l.length by omega);have hb:=List.getElem?_eq_getElem (show k+1 < l.length by omega);rw[ztG,if_pos (by omega),zrV (show(k:Int)+1=((k+1:Nat):Int) by omega) (show k+1 < l.length by omega),obs,zqt (fI (by omega)),zrV (show(k:Int)+1 - 1=(k:Int) by omega) (show k < l.length by omega),obs];refine⟨fun h=>?_,fun h=>?_⟩
   ·have:=h _ _ ha hb;rw[if_neg (by omega),zqt (fI (by omega))]
   ·rw[if_pos]
    apply Classical.byContradiction
    intro h2
    exact h fun a b h3 h4=>by rw[ha] at h3; rw[hb] at h4; cases h3; cases h4; omega) (fun d=>by show ztG l (d+1) _=_; rw[ztG,if_neg (by omega)]) (d:=((l.length:Int) - 1).toNat+1) (by omega)
  have e0:ztG l (((l.length:Int) - 1).toNat+1) (0+1)=ztG l (((l.length:Int) - 1).toNat+1) 1:=rfl
  have hiff:(∀j,j < n->∀a b,l[j]? = some a->l[j+1]? = some b->a < b)↔l.Pairwise (· < ·):=by
   rw[<- zBF]
   constructor
   ·intro h j h0 hj a b h1 h2;have:=h (j - 1) (by omega) a b h1;rw[show j - 1+1=j by omega] at this;exact this h2
   ·intro h j hj a b h1 h2;exact h (j+1) (by omega) (by omega) a b (by rw[Nat.add_sub_cancel]; exact h1) h2
  by_cases hq:∀j,j < n->∀a b,l[j]? = some a->l[j+1]? = some b->a < b
  ·have:=key.1 hq;exact⟨true,this,⟨fun _=>hiff.1 hq,fun _=>rfl⟩⟩
  ·have:=key.2 hq;exact⟨false,this,⟨fun h=>(by cases h),fun h=>absurd (hiff.2 h) hq⟩⟩
def zkf(p:Pg)(l:List Int):Prop:=l.Pairwise (· < ·)/\∀v∈l,(0<=v/\v<=(p.Treaties.length:Int) - 1)/\ofB p.Treaties v.toNat=true
theorem zkf.inc{p:Pg}{l:List Int}(h:zkf p l):Inc p.Treaties.length 0 l:=⟨h.1,fun v hv=>by have:=(h.2 v hv).1; omega⟩
theorem zkf.len{p:Pg}{l:List Int}(h:zkf p l):l.length<=p.Treaties.length:=by have:=zx3 h.inc; omega
theorem zBH{p:Pg}(h:VP p){n:Int}:Ev (ztR p n) ((0<=n/\n<=(p.Treaties.length:Int) - 1)/\ofB p.Treaties n.toNat=true):=by
 have h5:=h.t5;refine(zyS (zAr h).2.1).and fun hc=>?_;have hg:=List.getElem?_eq_getElem (show n.toNat < p.Treaties.length by omega);have e:=zrU hg;rw[show((n.toNat:Nat):Int)=n by omega] at e;rw[e,obs];have ho:=h.of' _ _ hg;exact Ev.dec (by rw[zAU hg,decide_eq_true_eq]; omega)
theorem zBI{p:Pg}(h:VP p){l:List Int}(hl:zr4 l):Ev (ztS p l) (zkf p l):=
 (zBG hl).and fun _=>(Ev.each (p:=fun a=>ztR p a) (q:=fun v=>(0<=v/\v<=(p.Treaties.length:Int) - 1)/\ofB p.Treaties v.toNat=true) (fun v _=>zBH h) hl.lt gI).ret
def tyD:Ty:={ Kind:=0,Part:=0,Above:=0,Most:=0,Times:=0,Price:=0,Of:=-1 }
def tyA(ts:List Ty)(v:Int):Ty:=(ts[v.toNat]?).getD tyD
theorem zBJ{ts:List Ty}{v:Int}{t:Ty}(h:ts[v.toNat]? = some t):tyA ts v=t:=by unfold tyA; rw[h]; rfl
theorem zBK{ts:List Ty}{v:Int}(h0:0<=v)(h1:v<=(ts.length:Int) - 1):ts[v.toNat]? = some (tyA ts v):=by
 have hg:=List.getElem?_eq_getElem (show v.toNat < ts.length by omega);rw[zBJ hg,hg]
theorem zBL{ts:List Ty}{v:Int}(h0:0<=v)(h1:v<=(ts.length:Int) - 1):idx ts v=some (tyA ts v):=by
 have:=zrU (zBK h0 h1)
 rwa [show((v.toNat:Nat):Int)=v by omega] at this
def zBM(ts:List Ty):List Int->Int
 | []=>0
 | v::l=>(tyA ts v).Price+zBM ts l
theorem zBN{ts:List Ty}{v:Int}:∀l,zBM ts (l++[v])=zBM ts l+(tyA ts v).Price
 | []=>by show _+(0:Int)=0+_; omega
 | a::l=>by show _+zBM ts (l++[v])=_+zBM ts l+_; rw[zBN l]; omega
def InT(p:Pg)(l:List Int):Prop:=∀v∈l,0<=v/\v<=(p.Treaties.length:Int) - 1
theorem zBO{p:Pg}(h:VP p):∀{l:List Int},InT p l->0<=zBM p.Treaties l/\zBM p.Treaties l<=1000 * l.length
 | [],_=>⟨Int.le_refl _,by show(0:Int)<=1000 * ((0:Nat):Int); omega⟩
 | v::l,hl=>by
  have ih:=zBO h (l:=l) fun v hv=>hl v (List.mem_cons_of_mem _ hv);have hv:=hl v (List.mem_cons_self ..);have ht:=h.ts _ (List.mem_of_getElem? (zBK hv.1 hv.2));have h1:=ht.2
  show 0<=(tyA p.Treaties v).Price+zBM p.Treaties l/\(tyA p.Treaties v).Price+zBM p.Treaties l<=1000 * ((l.length+1:Nat):Int)
  omega
theorem zBP{α:Type}{l:List α}{k:Nat}{a:α}(h:l[k]? = some a):l.take (k+1)=l.take k++[a]:=by rw[List.take_add_one,h]; rfl
theorem zBQ{p:Pg}(h:VP p){l:List Int}(hl:InT p l)(h9:l.length<=9):ztU p l=some (zBM p.Treaties l):=by
 refine zyv (n:=l.length) (fun d (s:Int) y=>ztT p l d s y) (fun k=>zBM p.Treaties (l.take k)) (fun d k hk=>?_) (fun d=>?_) (l.length+1) 0 (by omega) (by omega)
 ·have hg:=List.getElem?_eq_getElem hk;have hv:=hl _ (List.getElem_mem hk);have hb:=zBO h (l:=l.take (k+1)) fun v hv=>hl v (List.mem_of_mem_take hv)
  have hlen:(l.take (k+1)).length<=9:=by rw[List.length_take]; omega
  rw[zBP hg,zBN] at hb;rw[List.length_append,List.length_take] at hb
  simp only[List.length_singleton] at hb
  show ztT p l (d+1) _ _=_
  rw[ztT,if_pos (by omega),zrU hg,obs,zBL hv.1 hv.2,obs,zqt (fI (by omega)),zqt (fI (by omega)),zBP hg,zBN]
 ·show ztT p l (d+1) _ _=_
  rw[ztT,if_neg (Int.lt_irrefl _),List.take_length]
def zBR(p:Pg)(l:List Int):Pg:={ Losses:=p.Losses,Reserve:=p.Reserve,Treaties:=l.map (tyA p.Treaties),Reports:=[] }
theorem zBS{p:Pg}{l:List Int}(hl:InT p l)(h9:l.length<=9):ztW p l=some (zBR p l):=by
 refine zyv (n:=l.length) (fun d (s:List Ty) y=>ztV p l d p.Reserve s y) (fun k=>(l.take k).map (tyA p.Treaties)) (fun d k hk=>?_) (fun d=>?_) (l.length+1) 0 (by omega) (by omega)
 ·have hg:=List.getElem?_eq_getElem hk;have hv:=hl _ (List.getElem_mem hk)
  show ztV p l (d+1) _ _ _=_
  rw[ztV,if_pos (by omega),zrU hg,obs,zBL hv.1 hv.2,obs,zqt (by rw[List.length_map,List.length_take]; omega),zqt (fI (by omega)),zBP hg,List.map_append]; rfl
 ·show ztV p l (d+1) _ _ _=_
  rw[ztV,if_neg (Int.lt_irrefl _),List.take_length]; rfl
theorem zkf.inT{p:Pg}{l:List Int}(h:zkf p l):InT p l:=fun v hv=>(h.2 v hv).1
theorem zkf.ty{p:Pg}(h:VP p){l:List Int}(hs:zkf p l){v:Int}(hv:v∈l):(tyA p.Treaties v).Of = -1:=by
 obtain⟨h1,h2⟩:=hs.2 v hv;have hg:=zBK h1.1 h1.2;rw[zAU hg,decide_eq_true_eq] at h2;have:=h.of' _ _ hg
 omega
theorem zBT{p:Pg}(h:VP p){l:List Int}(hs:zkf p l):VP (zBR p l):=by
 have h5:=h.t5;have hl:=hs.len;refine { ls:=h.ls,res:=h.res,ts:=fun t ht=>?_,of':=fun i t ht=>?_,rs:=fun r hr=>(by cases hr),l4:=h.l4,t5:=?_,r5:=Nat.zero_le _,many:=h.many }
 ·obtain⟨v,hv,rfl⟩:=List.mem_map.1 ht;have:=hs.inT v hv;exact h.ts _ (List.mem_of_getElem? (zBK this.1 this.2))
 ·obtain⟨v,hv,rfl⟩:=List.mem_map.1 (List.mem_of_getElem? ht);rw[hs.ty h hv]; omega
 ·show(l.map (tyA p.Treaties)).length<=5
  rw[List.length_map]; omega
theorem zBU{b k:Nat}:∀e,∃T,zx5 b (k+e)=zx5 b k++T
 | 0=>⟨[],(List.append_nil _).symm⟩
 | e+1=>by
  obtain⟨T,hT⟩:=zBU (b:=b) (k:=k) e;refine⟨T++(if b.testBit (k+e) then [((k+e:Nat):Int)] else []),?_⟩
  show zx5 b (k+e)++_=_
  rw[hT,List.append_assoc]; rfl
theorem zBV{b n:Nat}(hn:n<=16)(hb:b < 2 ^ n):zx6 b=zx5 b n:=by
 unfold zx6;obtain⟨e,he⟩:∃e,16=n+e:=⟨16 - n,by omega⟩;rw[he];exact zx9 (fun q hq=>Nat.testBit_lt_two_pow (Nat.lt_of_lt_of_le hb (Nat.pow_le_pow_right (by omega) hq))) e
theorem zBW{b k n j:Nat}(hk:k<=n)(hj:j < (zx5 b k).length):(zx5 b n)[j]? = (zx5 b k)[j]?:=by
 obtain⟨T,hT⟩:=zBU (b:=b) (k:=k) (n - k);rw[show k+(n - k)=n by omega] at hT;rw[hT,List.getElem?_append_left hj]
theorem zBX{ts:List Ty}{b n:Nat}(hn:n=ts.length)(hof:∀k t,ts[k]? = some t->b.testBit k=true->t.Of = -1){P P':Nat->Int}(hP:∀(j:Nat) (v:Int),(zx5 b n)[j]? = some v->P' j=P v.toNat){x:Int}:∀k,k<=n ->
  (dN ((zx5 b n).map (tyA ts)) P' x (zx5 b k).length).soc=(a1 ts (fun k=>b.testBit k) P x k).2/\∀(j:Nat) (v:Int),j < (zx5 b k).length->(zx5 b n)[j]? = some v->(dN ((zx5 b n).map (tyA ts)) P' x (zx5 b k).length).pays j=(a1 ts (fun k=>b.testBit k) P x k).1 v.toNat
 | 0,_=>⟨rfl,fun j v h=>by cases h⟩
 | k+1,hk=>by
  obtain⟨i1,i2⟩:=zBX hn hof hP (x:=x) k (by omega);have hg:=List.getElem?_eq_getElem (show k < ts.length by omega);rw[zAH hg];have ht:=hof k _ hg;generalize ts[k]'(by omega)=t at hg ht
  cases hb:b.testBit k with
  | true=>
   have ho:=ht hb
   have e:zx5 b (k+1)=zx5 b k++[(k:Int)]:=by show zx5 b k++(if b.testBit k then _ else _)=_; rw[hb]; rfl
   have el:(zx5 b (k+1)).length=(zx5 b k).length+1:=by rw[e,List.length_append]; rfl
   have hm:(zx5 b n)[(zx5 b k).length]? = some (k:Int):=by
    rw[zBW (k:=k+1) hk (by omega),e,List.getElem?_append_right (Nat.le_refl _),Nat.sub_self]; rfl
   have hmt:((zx5 b n).map (tyA ts))[(zx5 b k).length]? = some t:=by
    rw[List.getElem?_map,hm];exact congrArg some (zBJ (by rw[Int.toNat_natCast]; exact hg))
   rw[el,zzq hmt,if_pos ⟨by omega,rfl⟩];unfold zzp;rw[if_pos ho,i1,hP _ _ hm,Int.toNat_natCast];refine⟨rfl,fun j v hj hv=>?_⟩
   show upF _ (zx5 b k).length _ j=upF (a1 ts (fun k=>b.testBit k) P x k).1 k _ v.toNat
   by_cases hjm:j=(zx5 b k).length
   ·subst hjm;rw[hm] at hv
    cases hv
    rw[zyA,Int.toNat_natCast,zyA]
   ·rw[zyB _ _ hjm,i2 j v (by omega) hv];have hv2:=hv;rw[zBW (k:=k) (by omega) (by omega)] at hv2;have:=zx7.1 (List.mem_of_getElem? hv2);rw[zyB _ _ (by omega)]
  | false=>
   have e:zx5 b (k+1)=zx5 b k:=by show zx5 b k++(if b.testBit k then _ else _)=_; rw[hb]; exact List.append_nil _
   rw[e,if_neg fun h=>by cases h.2];exact⟨i1,i2⟩
theorem zBY{ts:List Ty}{P now:Nat->Int}{j:Nat}(hj:ofB ts j=true):∀k,k<=ts.length->(a2 ts P now k).1 j=now j
 | 0,_=>rfl
 | k+1,hk=>by
  have hg:=List.getElem?_eq_getElem (show k < ts.length by omega);have hfk:=zAU hg;have ih:=zBY (P:=P) (now:=now) hj k (by omega);rw[zAI hg];generalize ts[k]'(by omega)=t at hg hfk
  by_cases ho:0<=t.Of
  ·rw[if_pos ho]
   show upF (a2 ts P now k).1 k _ j=_
   rw[zyB _ _ fun e=>by subst e; rw[hfk,decide_eq_true_eq] at hj; omega,ih]
  ·rw[if_neg ho,ih]
theorem zBZ{ts:List Ty}{b:Nat}(hof:∀k t,ts[k]? = some t->b.testBit k=true->t.Of = -1):∀(L:List Int) (s:(Nat->Int) × Int) (o:DS),(∀(j:Nat) (v:Int),(zx5 b ts.length)[j]? = some v->o.pays j=s.1 v.toNat)->o.soc=s.2 ->
  (L.foldl (zzx ((zx5 b ts.length).map (tyA ts))) o).soc=(L.foldl (zAL ts fun k=>b.testBit k) s).2
 | [],_,_,_,h2=>h2
 | x::L,s,o,h1,h2=>by
  obtain⟨c1,c2⟩:=zBX rfl hof h1 (x:=x) ts.length (Nat.le_refl _);refine zBZ hof L (zAL ts (fun k=>b.testBit k) s x) (zzx ((zx5 b ts.length).map (tyA ts)) o x) (fun j v hv=>?_) ?_
  ·show o.pays j+(dN ((zx5 b ts.length).map (tyA ts)) o.pays x ((zx5 b ts.length).map (tyA ts)).length).pays j=s.1 v.toNat+(a2 ts s.1 (a1 ts (fun k=>b.testBit k) s.1 x ts.length).1 ts.length).1 v.toNat
   have hjl:=(List.getElem?_eq_some_iff.1 hv).1;have hmem:=zx7.1 (List.mem_of_getElem? hv);have hg:=List.getElem?_eq_getElem (show v.toNat < ts.length by omega);rw[List.length_map,h1 j v hv,c2 j v hjl hv,zBY (by rw[zAU hg,hof _ _ hg hmem.2.2]; rfl) ts.length (Nat.le_refl _)]
  ·show o.soc+(dN ((zx5 b ts.length).map (tyA ts)) o.pays x ((zx5 b ts.length).map (tyA ts)).length).soc=s.2+(a1 ts (fun k=>b.testBit k) s.1 x ts.length).2
   rw[List.length_map,c1,h2]
theorem zB0{ts:List Ty}{b:Nat}(hof:∀k t,ts[k]? = some t->b.testBit k=true->t.Of = -1)(L:List Int):(zzy ((zx5 b ts.length).map (tyA ts)) L).soc=(zAM ts (fun k=>b.testBit k) L).2:=
 zBZ hof L (fun _=>0,0) zzw (fun _ _ _=>rfl) rfl
theorem zB1{ts:List Ty}{th th':Nat->Bool}{P:Nat->Int}{x:Int}(h:∀j,j < ts.length->th j=th' j):∀k,k<=ts.length->a1 ts th P x k=a1 ts th' P x k
 | 0,_=>rfl
 | k+1,hk=>by
  have hg:=List.getElem?_eq_getElem (show k < ts.length by omega);rw[zAH hg,zAH hg,zB1 h k (by omega),h k (by omega)]
theorem zB2{ts:List Ty}{th th':Nat->Bool}(h:∀j,j < ts.length->th j=th' j)(L:List Int):zAM ts th L=zAM ts th' L:=by
 have e:zAL ts th=zAL ts th':=by
  funext s x
  unfold zAL;rw[zB1 h ts.length (Nat.le_refl _)]
 unfold zAM;rw[e]
theorem RI.mono{ts:List Ty}{B B':Int}{s:(Nat->Int) × Int}(h:RI ts B s)(hB:B<=B'):RI ts B' s:=⟨by have:=h.net; omega,fun j=>by have:=h.pays j; omega,h.cap⟩
theorem zB3{ts:List Ty}{th:Nat->Bool}(hts:zzs ts):∀(L:List Int) (s:(Nat->Int) × Int) (B:Int),(∀x∈L,0<=x/\x<=1000)->RI ts B s->RI ts (B+1000 * L.length) (L.foldl (zAL ts th) s)
 | [],s,B,_,h=>h.mono (by show B<=B+1000 * ((0:Nat):Int); omega)
 | x::L,s,B,hL,h=>by
  have hx:=hL x (List.mem_cons_self ..);have h1:=(h.step (th:=th) hts (x:=x) (by omega)).mono (B':=B+1000) (by omega);refine(zB3 hts L _ _ (fun x hx=>hL x (List.mem_cons_of_mem _ hx)) h1).mono ?_;rw[List.length_cons]; omega
theorem zB4{p:Pg}(h:VP p){th:Nat->Bool}{L:List Int}(hL:inL p.Losses L):0<=(zAM p.Treaties th L).2/\(zAM p.Treaties th L).2<=4000:=by
 have h4:=h.l4;have hl:=zzL hL;have:=(zB3 (th:=th) h.tsOk L (fun _=>0,0) 0 (zzO hL h.ls) ⟨⟨Int.le_refl _,Int.le_refl _⟩,fun _=>⟨Int.le_refl _,Int.le_refl _⟩,zzz h.tsOk⟩).net;unfold zAM
 omega
def zB5(p:Pg):List (List Int):=(List.range (zyJ p.Losses).toNat).map fun n:Nat=>zA7 p.Losses (n:Int)
theorem zB6{p:Pg}(h:VP p){L:List Int}:L∈zB5 p↔inL p.Losses L:=by
 unfold zB5;rw[List.mem_map]
 constructor
 ·rintro⟨n,_,rfl⟩; exact h.nthIn (by omega)
 ·intro hL;obtain⟨n,n0,n1,rfl⟩:=zA9 hL;exact⟨n.toNat,List.mem_range.2 (by omega),by rw[show((n.toNat:Nat):Int)=n by omega]⟩
def zB7(p:Pg)(th:Nat->Bool):Rg:=wdL (fun L=>(zAM p.Treaties th L).2) (zB5 p)
theorem zB8{p:Pg}{th th':Nat->Bool}(h:∀j,j < p.Treaties.length->th j=th' j):zB7 p th=zB7 p th':=by
 unfold zB7
 have:(fun L=>(zAM p.Treaties th L).2)=fun L=>(zAM p.Treaties th' L).2:=funext fun L=>by rw[zB2 h]
 rw[this]
theorem zB9{p:Pg}(h:VP p)(th:Nat->Bool):IsB (inL p.Losses) (fun L=>(zAM p.Treaties th L).2) (zB7 p th):=by
 obtain⟨L,hL⟩:=zzW h;refine(zBn (fun e=>?_) fun L hL=>?_).congr (fun L=>zB6 h) fun _ _=>rfl
 ·have:=(zB6 h).2 hL
  rw[e] at this; cases this
 ·have:=zB4 h (th:=th) ((zB6 h).1 hL); omega
theorem zCa{p:Pg}(h:VP p){b:Nat}(hb:b < 1000000):zsV p (b:Int)=some (zB7 p fun k=>b.testBit k):=by
 have hm:=h.many;have h1:=h.prodPos
 show(some emp).bind _=_
 rw[obs]
 have hlen:(zB5 p).length=(zyJ p.Losses).toNat:=by unfold zB5; rw[List.length_map,List.length_range]
 refine zyv (n:=(zyJ p.Losses).toNat) (fun d (s:Rg) y=>zsU p (b:Int) d s.Lo s.Hi y) (fun k=>wdL (fun L=>(zAM p.Treaties (fun k=>b.testBit k) L).2) ((zB5 p).take k)) (fun d k hk=>?_) (fun d=>?_) 1000000 0 (by omega) (by omega)
 ·have hin:=h.nthIn (n:=(k:Int)) (by omega)
  have hg:(zB5 p)[k]? = some (zA7 p.Losses (k:Int)):=by unfold zB5; rw[List.getElem?_map,List.getElem?_range hk]; rfl
  show zsU p (b:Int) (d+1) _ _ _=_
  rw[zsU,zzc h,obs,if_pos (by omega),zBb h (by omega),obs,zAT h hb (zzO hin h.ls) (l9 h hin),obs,zBl hg]
  show(some (wd _ _)).bind _=_
  rw[obs,zqt (fI (by omega))]
 ·show zsU p (b:Int) (d+1) _ _ _=_
  rw[zsU,zzc h,obs,if_neg (by omega),List.take_of_length_le (by rw[hlen]; exact Nat.le_refl _)]; rfl
theorem zkf.bits{p:Pg}(h:VP p){b:Nat}(hb:b < 2 ^ p.Treaties.length)(hs:zkf p (zx6 b)):∀k t,p.Treaties[k]? = some t->b.testBit k=true->t.Of = -1:=fun k t hk hbk=>by
 have hkl:=(List.getElem?_eq_some_iff.1 hk).1;have h5:=h.t5
 have hm:((k:Nat):Int)∈zx6 b:=by unfold zx6; exact zx7.2 ⟨by omega,by omega,hbk⟩
 have:=hs.ty h hm
 rwa [zBJ (t:=t) (by rw[Int.toNat_natCast]; exact hk)] at this
theorem zCb{p:Pg}(h:VP p){l:List Int}(hs:zkf p l):zur p l=some (zB7 p (inD l)):=by
 have h5:=h.t5;obtain⟨b,hb,hlb⟩:=zyu (n:=p.Treaties.length) (by omega) hs.inc;have hv:=zBT h hs;have hlen:=hs.len;have hof:=zkf.bits h hb (by rw[hlb]; exact hs)
 have hth:∀j,j < p.Treaties.length->inD l j=b.testBit j:=fun j hj=>by
  rw[<- hlb]; exact zyt (n:=p.Treaties.length) (by omega) hj
 have hlF:l=zx5 b p.Treaties.length:=by rw[<- hlb]; exact zBV (by omega) hb
 obtain⟨L0,hL0⟩:=zzW h;have hcan:zAg (zBR p l) (zBR p l).Reports:=⟨L0,hL0,fun r hr=>by cases hr⟩;obtain⟨r,a1,a2⟩:=zAq hv (number:=fun a=>ztZ a) (g:=fun o=>o.society) (fun L _=>rfl) hcan
 have hnet:∀L,(zzy (l.map (tyA p.Treaties)) L).soc=(zAM p.Treaties (fun k=>b.testBit k) L).2:=fun L=>by
  rw[hlF]; exact zB0 hof L
 have e:r=zB7 p (inD l):=by
  rw[zB8 hth];have q:IsB (inL p.Losses) (fun L=>(zAM p.Treaties (fun k=>b.testBit k) L).2) r:=a2.congr (fun L=>⟨fun q=>q.1,fun q=>⟨q,fun r hr=>by cases hr⟩⟩) fun L _=>hnet L;exact q.uniq (zB9 h fun k=>b.testBit k)
 unfold zur;rw[zBS hs.inT (by omega),obs,zz6 hv,obs];have a1':zuk ({ p:=(zz0 (zBR p l) (zzS (zBR p l))).p,kinds:=(zz0 (zBR p l) (zzS (zBR p l))).kinds,shared:=(),played:=(zz0 (zBR p l) (zzS (zBR p l))).played }:Wk) (fun a=>ztZ a)=some r:=a1;rw[a1',obs,e]
theorem zCc{p:Pg}(h:VP p){l:List Int}(hs:zkf p l):zus p l=some (decide ((zB7 p (inD l)).Hi<=p.Reserve)):=by
 unfold zus;rw[zCb h hs,obs]
theorem zCd{p:Pg}(h:VP p){l:List Int}(hl:zr4 l)(hs:zkf p l):zut p l=some (zB7 p (inD l),0):=by
 unfold zut;rw[zAs h,obs,if_pos rfl,(zBI h hl).some_of hs,obs,if_pos rfl,zCb h hs,obs]
def zCe(p:Pg)(l:List Int)(m:Int):Prop:=zkf p l/\zBM p.Treaties l<=m/\(zB7 p (inD l)).Hi<=p.Reserve
theorem zCf{p:Pg}(h:VP p){l:List Int}(hl:zr4 l){m:Int}:Ev (zuy p l m) (zCe p l m):=by
 have h5:=h.t5;unfold zuy;rw[zAs h,obs,if_pos rfl];refine((zBI h hl).and fun hs=>(?_:Ev _ (zBM p.Treaties l<=m/\(zB7 p (inD l)).Hi<=p.Reserve)));have:=hs.len;rw[zBQ h hs.inT (by omega),obs];refine Ev.ite fun _=>?_;rw[zCc h hs,obs];exact Ev.dec Iff.rfl
theorem zCg{l:List Int}(h:l.length<=100000):zuc l=some l:=by
 unfold zuc;rw[zqt (by simp only[List.length_nil]; omega)]; rfl
def zCh(p:Pg)(D:List Int):Prop:=zkf p D/\(zB7 p (inD D)).Hi<=p.Reserve
structure zCi (p:Pg) (M:List Int):Prop where
 good:zCh p M
 min:∀D,zCh p D->zBM p.Treaties M < zBM p.Treaties D\/(zBM p.Treaties M=zBM p.Treaties D/\(D=M\/shB M D=true))
theorem zCi.uniq{p:Pg}{M M':List Int}(h:zCi p M)(h':zCi p M'):M=M':=by
 rcases h.min M' h'.good with h1 | ⟨h1,h1'⟩ <;> rcases h'.min M h.good with h2 | ⟨h2,h2'⟩
 ·omega
 ·omega
 ·omega
 ·rcases h1' with h3 | h3
  ·exact h3.symm
  ·rcases h2' with h4 | h4
   ·exact h4
   ·rw[zyj h3] at h4; cases h4
open Classical in
def zCj(p:Pg)(s:List Int × Bool)(D:List Int):List Int × Bool:=if zCh p D/\(s.2=true->zBM p.Treaties D < zBM p.Treaties s.1) then (D,true) else s
theorem zCk{p:Pg}{s:List Int × Bool}(h:s.2=true->zkf p s.1)(D:List Int):(zCj p s D).2=true->zkf p (zCj p s D).1:=by
 unfold zCj
 split
 ·rename_i hc; exact fun _=>hc.1.1
 ·exact h
theorem zCl{p:Pg}(h:VP p){x:Int}(hx:0<=x/\x<=1000){K:List Int->Bool->Int->Option (List Int × Bool)}:∀(q:List (List Int)) (s:List Int × Bool),(∀D∈q,Inc p.Treaties.length 0 D)->(s.2=true->zkf p s.1) ->
  zuu p x K q s.1 s.2=K (q.foldl (zCj p) s).1 (q.foldl (zCj p) s).2 (x+1)/\((q.foldl (zCj p) s).2=true->zkf p (q.foldl (zCj p) s).1)
 | [],s,_,hs=>⟨by rw[zuu,zqt (fI (by omega))]; rfl,hs⟩
 | D::q,s,hq,hs=>by
  have h5:=h.t5;have hD:=zx3 (hq D (List.mem_cons_self ..));have ih:=zCl h hx (K:=K) q (zCj p s D) (fun D hD=>hq D (List.mem_cons_of_mem _ hD)) (zCk hs D);refine⟨?_,ih.2⟩;refine Eq.trans ?_ ih.1;rw[zuu]
  have hD5:D.length<=5:=by omega
  by_cases hset:zkf p D
  ·rw[(zBI h (zr5 hD5 (by omega))).some_of hset,obs,if_pos rfl];have hg:zCh p D↔(zB7 p (inD D)).Hi<=p.Reserve:=⟨fun q=>q.2,fun q=>⟨hset,q⟩⟩;obtain⟨M,b⟩:=s
   cases b with
   | true=>
    have hM:=hs rfl;have hMl:M.length<=p.Treaties.length:=hM.len
    show(if true=true then _ else _)=_
    rw[if_pos rfl,zBQ h hset.inT (by omega),obs]
    show(ztU p M).bind _=_
    rw[zBQ h hM.inT (by show M.length<=9; omega),obs]
    by_cases hp:zBM p.Treaties M<=zBM p.Treaties D
    ·rw[if_pos hp]
     have e:zCj p (M,true) D=(M,true):=if_neg fun q=>by have:zBM p.Treaties D < zBM p.Treaties M:=q.2 rfl; omega
     rw[e]
    ·rw[if_neg hp,zCc h hset,obs]
     by_cases hk:(zB7 p (inD D)).Hi<=p.Reserve
     ·have e:zCj p (M,true) D=(D,true):=if_pos ⟨hg.2 hk,fun _=>by show zBM p.Treaties D < zBM p.Treaties M; omega⟩;rw[decide_eq_true hk,if_pos rfl,zCg (by omega),obs,e]
     ·have e:zCj p (M,true) D=(M,true):=if_neg fun q=>hk (hg.1 q.1);rw[decide_eq_false hk,if_neg (by decide),e]
   | false=>
    show(if false=true then _ else _)=_
    rw[if_neg (by decide),zCc h hset,obs]
    by_cases hk:(zB7 p (inD D)).Hi<=p.Reserve
    ·have e:zCj p (M,false) D=(D,true):=if_pos ⟨hg.2 hk,fun q=>(by cases q)⟩;rw[decide_eq_true hk,if_pos rfl,zCg (by omega),obs,e]
    ·have e:zCj p (M,false) D=(M,false):=if_neg fun q=>hk (hg.1 q.1);rw[decide_eq_false hk,if_neg (by decide),e]
  ·rw[(zBI h (zr5 hD5 (by omega))).some_not hset,obs,if_neg (by decide)];have e:zCj p s D=s:=if_neg fun q=>hset q.1.1;rw[e]
theorem zCm{p:Pg}(h:VP p):∀(d e k:Nat) (s:List Int × Bool),k+e=p.Treaties.length+1->e < d->(s.2=true->zkf p s.1)->zuv p d s.1 s.2 (k:Int)=some ((zrz (fun s=>zrA p.Treaties.length s [] 0) e k).foldl (zCj p) s)
 | 0,_,_,_,_,hd,_=>by omega
 | d+1,0,k,s,hk,hd,hs=>by
  rw[zuv,if_neg (by omega)]; rfl
 | d+1,e+1,k,s,hk,hd,hs=>by
  have h5:=h.t5
  have hinc:∀D∈zrA p.Treaties.length k [] 0,Inc p.Treaties.length 0 D:=fun D hD=>by
   obtain⟨T,h1,_,h3⟩:=zx2.1 hD;rw[List.nil_append] at h1;rw[h1]; exact h3
  obtain⟨q1,q2⟩:=zCl h (x:=(k:Int)) (by omega) (K:=zuv p d) (zrA p.Treaties.length k [] 0) s hinc hs;rw[zuv,if_pos (by omega)];unfold zrD;rw[zqt (by omega),obs,Int.toNat_natCast,Int.toNat_natCast,q1,show(k:Int)+1=((k+1:Nat):Int) by omega];refine(zCm h d e (k+1) _ (by omega) (by omega) q2).trans ?_
  show _=some ((zrA p.Treaties.length k [] 0++zrz (fun s=>zrA p.Treaties.length s [] 0) e (k+1)).foldl (zCj p) s)
  rw[List.foldl_append]
theorem zCn{p:Pg}(h:VP p):zuw p=some ((zok p.Treaties.length).foldl (zCj p) ([],false)):=by
 have h5:=h.t5;unfold zuw;rw[zqt (fI (by omega))]
 exact zCm h _ (p.Treaties.length+1) 0 ([],false) (by omega) (by omega) fun q=>by cases q
structure zCo (p:Pg) (A:List (List Int)) (s:List Int × Bool):Prop where
 yes:s.2=true->s.1∈A/\zCh p s.1/\∀D∈A,zCh p D->zBM p.Treaties s.1 < zBM p.Treaties D\/(zBM p.Treaties s.1=zBM p.Treaties D/\(D=s.1\/shB s.1 D=true))
 no:s.2=false->s.1=[]/\∀D∈A,¬ zCh p D
theorem zCp{p:Pg}:∀(q A:List (List Int)) (s:List Int × Bool),(A++q).Pairwise (fun a b=>shB a b=true)->zCo p A s->zCo p (A++q) (q.foldl (zCj p) s)
 | [],A,s,_,h=>by rw[List.append_nil]; exact h
 | D::q,A,s,hp,h=>by
  have e:A++D::q=(A++[D])++q:=by rw[List.append_assoc]; rfl
  rw[e] at hp ⊢;refine zCp q (A++[D]) (zCj p s D) hp ?_;have hAD:∀a∈A,shB a D=true:=fun a ha=>(List.pairwise_append.1 (List.pairwise_append.1 hp).1).2.2 a ha D (List.mem_singleton.2 rfl)
  have hmem:∀D',D'∈A++[D]->D'∈A\/D'=D:=fun D' hD'=>by
   rcases List.mem_append.1 hD' with q | q
   ·exact .inl q
   ·exact .inr (List.mem_singleton.1 q)
  obtain⟨M,b⟩:=s
  by_cases hc:zCh p D/\(b=true->zBM p.Treaties D < zBM p.Treaties M)
  ·have e2:zCj p (M,b) D=(D,true):=if_pos hc;rw[e2];refine⟨fun _=>⟨List.mem_append_right _ (List.mem_singleton.2 rfl),hc.1,fun D' hD' hg=>?_⟩,fun q=>(by cases q)⟩
   rcases hmem D' hD' with hq | rfl
   ·cases b with
    | true=>
     have h1:zBM p.Treaties D < zBM p.Treaties M:=hc.2 rfl
     rcases (h.yes rfl).2.2 D' hq hg with h2 | ⟨h2,_⟩
     ·have h2:zBM p.Treaties M < zBM p.Treaties D':=h2;exact .inl (by show zBM p.Treaties D < _; omega)
     ·have h2:zBM p.Treaties M=zBM p.Treaties D':=h2;exact .inl (by show zBM p.Treaties D < _; omega)
    | false=>exact absurd hg ((h.no rfl).2 D' hq)
   ·exact .inr ⟨rfl,.inl rfl⟩
  ·have e2:zCj p (M,b) D=(M,b):=if_neg hc;rw[e2]
   cases b with
   | true=>
    refine⟨fun _=>?_,fun q=>(by cases q)⟩;obtain⟨y1,y2,y3⟩:=h.yes rfl;refine⟨List.mem_append_left _ y1,y2,fun D' hD' hg=>?_⟩
    rcases hmem D' hD' with hq | rfl
    ·exact y3 D' hq hg
    ·have h1:¬ zBM p.Treaties D' < zBM p.Treaties M:=fun q=>hc ⟨hg,fun _=>q⟩
     rcases Int.lt_or_eq_of_le (show zBM p.Treaties M<=zBM p.Treaties D' by omega) with h2 | h2
     ·exact .inl h2
     ·exact .inr ⟨h2,.inr (hAD M y1)⟩
   | false=>
    refine⟨fun q=>(by cases q),fun _=>⟨(h.no rfl).1,fun D' hD' hg=>?_⟩⟩
    rcases hmem D' hD' with hq | rfl
    ·exact(h.no rfl).2 D' hq hg
    ·exact hc ⟨hg,fun q=>(by cases q)⟩
theorem zCq{p:Pg}(h:VP p):(∃M,zuw p=some (M,true)/\zCi p M)\/(zuw p=some ([],false)/\∀D,¬ zCh p D):=by
 have hi:=zCp (p:=p) (zok p.Treaties.length) [] ([],false) (zyn _) ⟨fun q=>(by cases q),fun _=>⟨rfl,fun D hD=>by cases hD⟩⟩;rw[List.nil_append] at hi;rw[zCn h];generalize (zok p.Treaties.length).foldl (zCj p) ([],false)=s at hi;have hall:∀D,zCh p D->D∈zok p.Treaties.length:=fun D hD=>zx4.2 hD.1.inc;obtain⟨M,b⟩:=s
 cases b with
 | true=>
  obtain⟨_,y2,y3⟩:=hi.yes rfl;exact .inl ⟨M,rfl,y2,fun D hD=>y3 D (hall D hD) hD⟩
 | false=>
  obtain⟨n1,n2⟩:=hi.no rfl;have n1:M=[]:=n1;subst n1;exact .inr ⟨rfl,fun D hD=>n2 D (hall D hD) hD⟩
theorem zCr{p:Pg}(h:VP p):(∃M,zux p=some (M,zBM p.Treaties M,0)/\zCi p M)\/(zux p=some ([],0,10)/\∀D,¬ zCh p D):=by
 have h5:=h.t5;unfold zux;rw[zAs h,obs,if_pos rfl]
 rcases zCq h with ⟨M,q1,q2⟩ | ⟨q1,q2⟩
 ·have hl:=q2.good.1.len;refine .inl ⟨M,?_,q2⟩;rw[q1,obs]
  show(ztU p M).bind _=_
  rw[zBQ h q2.good.1.inT (by omega),obs]
 ·refine .inr ⟨?_,q2⟩;rw[q1,obs]; rfl
theorem zCs{p:Pg}(hp:ShP p)(hf:zyK p ≠ 0):zux p=some ([],0,zyK p):=by
 unfold zux;rw[zy4 hp.1 hp.2.1 hp.2.2,obs,if_neg hf]
def okE(p:Pg)(l:List Int)(i:Nat):Prop:=∀v,l[i]? = some v->((0<=v/\v<=(p.Treaties.length:Int) - 1)/\ofB p.Treaties v.toNat=true)/\(0 < i->∀u,l[i - 1]? = some u->u < v)
theorem zCt{p:Pg}{l:List Int}:(∀i,i < l.length->okE p l i)↔zkf p l:=by
 constructor
 ·intro h;refine⟨zBF.1 fun j h0 hj a b ha hb=>(h j hj b hb).2 h0 a ha,fun v hv=>?_⟩;obtain⟨i,hi⟩:=List.mem_iff_getElem?.1 hv;exact(h i (List.getElem?_eq_some_iff.1 hi).1 v hi).1
 ·intro h i hi v hv;refine⟨h.2 v (List.mem_of_getElem? hv),fun h0 u hu=>zBF.2 h.1 i h0 hi u v hu hv⟩
def mkL(l:List Int):Nat:=l.foldl (fun m v=>Nat.lor m (2 ^ v.toNat)) 0
theorem zCu{l:List Int}{k:Nat}{v:Int}(h:l[k]? = some v):mkL (l.take (k+1))=Nat.lor (mkL (l.take k)) (2 ^ v.toNat):=by
 unfold mkL;rw[zBP h,List.foldl_append]; rfl
theorem zCv:∀(l:List Int) (m j:Nat),(∀v∈l,0<=v)->(l.foldl (fun m v=>Nat.lor m (2 ^ v.toNat)) m).testBit j=(m.testBit j || inD l j)
 | [],m,j,_=>by show m.testBit j=(m.testBit j || decide ((j:Int)∈[])); rw[decide_eq_false (by simp)]; simp
 | v::l,m,j,h=>by
  have hv:=h v (List.mem_cons_self ..);rw[List.foldl_cons,zCv l _ j fun v hv=>h v (List.mem_cons_of_mem _ hv)]
  show((m ||| 2 ^ v.toNat).testBit j || _)=_
  rw[Nat.testBit_or,Nat.testBit_two_pow]
  have e:inD (v::l) j=(decide (v.toNat=j) || inD l j):=by
   unfold inD;rw[<- Bool.decide_or];exact decide_eq_decide.2 (by rw[List.mem_cons]; exact or_congr (by omega) Iff.rfl)
  rw[e,Bool.or_assoc]
theorem zCw{n:Nat}{l:List Int}(h:∀v∈l,0<=v/\v < n):mkL l < 2 ^ n:=by
 apply Nat.lt_pow_two_of_testBit
 intro j hj;unfold mkL;rw[zCv l 0 j fun v hv=>(h v hv).1,Nat.zero_testBit,Bool.false_or]
 exact decide_eq_false fun hm=>by have:=h _ hm; omega
open Classical in
theorem zCx{p:Pg}(h:VP p){l:List Int}(hl:l.length<=16):∀(d k:Nat),k<=l.length->l.length - k < d->(∀i,i < k->okE p l i)->zsS p l d (mkL (l.take k):Int) (k:Int)=if zkf p l then some ((mkL l:Int),true) else some (0,false)
 | 0,_,_,hd,_=>by omega
 | d+1,k,hk,hd,ho=>by
  have h5:=h.t5;rw[zsS]
  by_cases hkl:k < l.length
  ·have hg:=List.getElem?_eq_getElem hkl;have hno:¬ okE p l k->¬ zkf p l:=fun q hs=>q (zCt.2 hs k hkl)
   have htk:∀i,i < k+1->okE p l k->okE p l i:=fun i hi hok=>by
    rcases Nat.lt_or_ge i k with h1 | h1
    ·exact ho i h1
    ·rw[show i=k by omega]; exact hok
   generalize l[k]=v at hg
   have hin:∀u∈l.take k,0<=u/\u < p.Treaties.length:=fun u hu=>by
    obtain⟨i,hi⟩:=List.mem_iff_getElem?.1 hu;have hil:=(List.getElem?_eq_some_iff.1 hi).1;rw[List.length_take] at hil;rw[List.getElem?_take,if_pos (by omega)] at hi;have:=(ho i (by omega) u hi).1.1
    omega
   have hm0:=zCw hin;have hp5:=zA6 (i:=p.Treaties.length) (by omega);rw[if_pos (by omega)]
   simp only[zrU hg,obs]
   rw[zqt (fI (by omega))]
   by_cases c1:0<=v/\v<=(p.Treaties.length:Int) - 1
   ·rw[zy5.some_of c1,obs,if_pos rfl,zBL c1.1 c1.2,obs];have hgt:=zBK c1.1 c1.2;have hob:=zAU hgt;generalize tyA p.Treaties v=t at hgt hob
    by_cases c2:0<=t.Of
    ·rw[if_pos c2,if_neg (hno fun q=>by have:=(q v hg).1.2; rw[hob,decide_eq_true_eq] at this; omega)]
    ·rw[if_neg c2];have hv64:zmd .u64 v=v:=wz (show(0:Int)<=v/\v < 18446744073709551616 by omega);obtain⟨w,hw⟩:∃w:Nat,w=2 ^ v.toNat:=⟨_,rfl⟩
     have hpv:w<=64:=by rw[hw]; exact zA6 (by omega)
     have hpow:(1:Int) * 2 ^ v.toNat=(w:Int):=by rw[hw,Int.one_mul,Int.natCast_pow]; rfl
     have hm1:Nat.lor (mkL (l.take k)) w < 64:=by
      rw[hw]
      have:mkL (l.take (k+1)) < 2 ^ p.Treaties.length:=zCw fun u hu=>by
       rw[zBP hg] at hu
       rcases List.mem_append.1 hu with hu | hu
       ·exact hin u hu
       ·have:=List.mem_singleton.1 hu; omega
      rw[zCu hg] at this
      omega
     have hnx:okE p l k->zsS p l d ((Nat.lor (mkL (l.take k)) w:Nat):Int) ((k:Int)+1)=if zkf p l then some ((mkL l:Int),true) else some (0,false):=fun hok=>by
      rw[hw,<- zCu hg,show(k:Int)+1=((k+1:Nat):Int) by omega];exact zCx h hl d (k+1) (by omega) (by omega) fun i hi=>htk i hi hok
     have hofv:ofB p.Treaties v.toNat=true:=by rw[hob,decide_eq_true_eq]; omega
     by_cases c3:0 < k
     ·have hg1:=List.getElem?_eq_getElem (show k - 1 < l.length by omega);have hi1:idx l ((k:Int) - 1)=some l[k - 1]:=zrV (by omega) (by omega);generalize l[k - 1]=u at hg1 hi1;rw[if_pos (by omega),zqt (fI (by omega)),hi1,obs]
      by_cases c4:v<=u
      ·rw[if_pos c4,if_neg (hno fun q=>by have:=(q v hg).2 c3 u hg1; omega)]
      ·rw[if_neg c4,hv64,hpow,zqt (by omega),zqt (by omega),zqt (by omega),zqt (fI (by omega)),zqt (by omega),zqt (by omega),zqt (fI (by omega)),zqt (fI (by omega)),Int.toNat_natCast,Int.toNat_natCast,zqt (fI (by omega)),zqt (fI (by omega))]
       exact hnx fun v' hv'=>by
        rw[hg] at hv'; cases hv'
        exact⟨⟨c1,hofv⟩,fun _ u' hu'=>by rw[hg1] at hu'; cases hu'; omega⟩
     ·rw[if_neg (by omega),hv64,hpow,zqt (by omega),zqt (by omega),zqt (by omega),zqt (fI (by omega)),zqt (by omega),zqt (by omega),zqt (fI (by omega)),zqt (fI (by omega)),Int.toNat_natCast,Int.toNat_natCast,zqt (fI (by omega)),zqt (fI (by omega))]
      exact hnx fun v' hv'=>by
       rw[hg] at hv'; cases hv'
       exact⟨⟨c1,hofv⟩,fun q=>absurd q c3⟩
   ·rw[zy5.some_not c1,obs,if_neg (by decide),if_neg (hno fun q=>c1 (q v hg).1.1)]
  ·have hke:k=l.length:=by omega
   subst hke;rw[if_neg (by omega),List.take_length,if_pos (zCt.1 ho)]
open Classical in
theorem zCy{p:Pg}(h:VP p){l:List Int}(hl:l.length<=16):zsT p l=if zkf p l then some ((mkL l:Int),true) else some (0,false):=
 zCx h hl (l.length+1) 0 (Nat.zero_le _) (by omega) fun i hi=>by omega
theorem zCz{p:Pg}{b:Nat}{k:Nat}(hk:k<=p.Treaties.length):InT p (zx5 b k):=fun v hv=>by have:=zx7.1 hv; omega
theorem zCA{p:Pg}(h:VP p){b:Nat}(hb:b < 2 ^ p.Treaties.length):zsX p (b:Int)=some (zBM p.Treaties (zx6 b)):=by
 have h5:=h.t5;have hp:=zA6 (i:=p.Treaties.length) (by omega);rw[zBV (n:=p.Treaties.length) (by omega) hb];refine zyv (n:=p.Treaties.length) (fun d (s:Int) y=>zsW p (b:Int) d s y) (fun k=>zBM p.Treaties (zx5 b k)) (fun d k hk=>?_) (fun d=>?_) 1000000 0 (by omega) (by omega)
 ·have hg:=List.getElem?_eq_getElem hk;have hB:=zBO h (zCz (p:=p) (b:=b) (k:=k) (by omega));have hln:=zya (b:=b) k;have ht:=h.ts _ (List.getElem_mem hk);have h1:=ht.2;have hq0:=Nat.div_le_self b (2 ^ k)
  have hdv:(0:Int)<=(b:Int) / 2 ^ k/\(b:Int) / 2 ^ k<=1000000:=by
   rw[zyb];generalize b / 2 ^ k=q at hq0
   omega
  show zsW p (b:Int) (d+1) _ _=_
  rw[zsW,if_pos (by omega),zqt (by omega),wu (show k<=64 by omega),zqt (by omega),zqt (by omega),Int.toNat_natCast,zqt (fI (by omega)),zqt hdv.1,zqt (by omega),zqt (fI (by omega))]
  by_cases hbt:b.testBit k=true
  ·have e:zx5 b (k+1)=zx5 b k++[(k:Int)]:=by show zx5 b k++(if b.testBit k then _ else _)=_; rw[hbt]; rfl
   rw[if_pos (zAO.2 hbt),zrU hg,obs,e,zBN,zBJ (t:=p.Treaties[k]) (by rw[Int.toNat_natCast]; exact hg),zqt (fI (by omega)),zqt (fI (by omega))]
  ·have e:zx5 b (k+1)=zx5 b k:=by
    show zx5 b k++(if b.testBit k then _ else _)=_
    rw[if_neg hbt]; exact List.append_nil _
   rw[if_neg fun hc=>hbt (zAO.1 hc),zqt (fI (by omega)),e]
 ·show zsW p (b:Int) (d+1) _ _=_
  rw[zsW,if_neg (Int.lt_irrefl _)]
theorem zCB{p:Pg}(h:VP p){b:Nat}(hs:zkf p (zx6 b)):zCh p (zx6 b)↔(zB7 p fun k=>b.testBit k).Hi<=p.Reserve:=by
 have h5:=h.t5;unfold zCh;rw[zB8 (p:=p) (th':=fun k=>b.testBit k) fun j hj=>zyt (n:=p.Treaties.length) (by omega) hj];exact⟨fun q=>q.2,fun q=>⟨hs,q⟩⟩
structure zCC (p:Pg) (x x2:Nat) (b3:Bool):Prop where
 lt:x2 < 2 ^ p.Treaties.length
 yes:b3=true->zCh p (zx6 x2)/\∀b,b < x->zCh p (zx6 b)->zBM p.Treaties (zx6 x2) < zBM p.Treaties (zx6 b)\/(zBM p.Treaties (zx6 x2)=zBM p.Treaties (zx6 b)/\(zx6 b=zx6 x2\/shB (zx6 x2) (zx6 b)=true))
 no:b3=false->x2=0/\∀b,b < x->¬ zCh p (zx6 b)
theorem zCD{b x:Nat}(h:b < x+1):b < x\/b=x:=by omega
theorem zCE{p:Pg}(h:VP p):∀(d x x2:Nat) (b3:Bool),x<=2 ^ p.Treaties.length->2 ^ p.Treaties.length - x < d->zCC p x x2 b3->(∃b:Nat,zs3 p d (x2:Int) b3 (x:Int)=some ((b:Int),true)/\b < 2 ^ p.Treaties.length/\zCi p (zx6 b))\/(zs3 p d (x2:Int) b3 (x:Int)=some (0,false)/\∀D,¬ zCh p D)
 | 0,_,_,_,_,hd,_=>by omega
 | d+1,x,x2,b3,hx,hd,hi=>by
  have h5:=h.t5;have hp:=zA6 (i:=p.Treaties.length) (by omega);have hp0:=Nat.two_pow_pos p.Treaties.length;have hlt:=hi.lt;rw[zs3,zBe h,obs]
  by_cases hxe:x=2 ^ p.Treaties.length
  ·rw[if_neg (by omega)]
   have hall:∀D,zCh p D->∃b,b < x/\zx6 b=D:=fun D hD=>by
    obtain⟨b,h1,h2⟩:=zyu (n:=p.Treaties.length) (by omega) hD.1.inc;exact⟨b,by omega,h2⟩
   cases b3 with
   | true=>
    obtain⟨y1,y2⟩:=hi.yes rfl;refine .inl ⟨x2,rfl,hlt,y1,fun D hD=>?_⟩;obtain⟨b,h1,rfl⟩:=hall D hD;exact y2 b h1 hD
   | false=>
    obtain⟨n1,n2⟩:=hi.no rfl;subst n1;refine .inr ⟨rfl,fun D hD=>?_⟩;obtain⟨b,h1,rfl⟩:=hall D hD;exact n2 b h1 hD
  ·have hxl:x < 2 ^ p.Treaties.length:=by omega
   have hl1:=zA3 (b:=x);have hl2:=zA3 (b:=x2);rw[if_pos (by omega),zAW (by omega),obs,zCy h (by omega)]
   have hnext:(x:Int)+1=((x+1:Nat):Int):=by omega
   have skip:¬ zCh p (zx6 x)->zCC p (x+1) x2 b3:=fun hn=>by
    refine⟨hlt,fun q=>?_,fun q=>?_⟩
    ·obtain⟨y1,y2⟩:=hi.yes q;refine⟨y1,fun b hb hg=>?_⟩
     rcases zCD hb with h1 | rfl
     ·exact y2 b h1 hg
     ·exact absurd hg hn
    ·obtain⟨n1,n2⟩:=hi.no q;refine⟨n1,fun b hb hg=>?_⟩
     rcases zCD hb with h1 | rfl
     ·exact n2 b h1 hg
     ·exact hn hg
   by_cases hs:zkf p (zx6 x)
   ·rw[if_pos hs,obs]
    show(∃b:Nat,(if true=true then _ else _)=_/\_)\/((if true=true then _ else _)=_/\_)
    rw[if_pos rfl,zCa h (by omega),obs];have hg:=zCB h hs
    by_cases hk:p.Reserve < (zB7 p fun k=>x.testBit k).Hi
    ·rw[if_pos hk,zqt (fI (by omega)),hnext];exact zCE h d (x+1) x2 b3 (by omega) (by omega) (skip fun q=>by have:=hg.1 q; omega)
    ·rw[if_neg hk,zCA h hxl,obs,zCA h hlt,obs];have hgd:zCh p (zx6 x):=hg.2 (by omega)
     cases b3 with
     | false=>
      rw[if_neg (by decide),zqt (fI (by omega)),hnext];obtain⟨_,n2⟩:=hi.no rfl;refine zCE h d (x+1) x true (by omega) (by omega) ⟨hxl,fun _=>⟨hgd,fun b hb hgb=>?_⟩,fun q=>(by cases q)⟩
      rcases zCD hb with h1 | rfl
      ·exact absurd hgb (n2 b h1)
      ·exact .inr ⟨rfl,.inl rfl⟩
     | true=>
      obtain⟨y1,y2⟩:=hi.yes rfl;rw[if_pos rfl]
      by_cases c1:zBM p.Treaties (zx6 x) < zBM p.Treaties (zx6 x2)
      ·rw[if_pos c1,zqt (fI (by omega)),hnext];refine zCE h d (x+1) x true (by omega) (by omega) ⟨hxl,fun _=>⟨hgd,fun b hb hgb=>?_⟩,fun q=>(by cases q)⟩
       rcases zCD hb with h1 | rfl
       ·rcases y2 b h1 hgb with h2 | ⟨h2,_⟩
        ·exact .inl (by omega)
        ·exact .inl (by omega)
       ·exact .inr ⟨rfl,.inl rfl⟩
      ·rw[if_neg c1]
       by_cases c2:zBM p.Treaties (zx6 x)=zBM p.Treaties (zx6 x2)
       ·rw[if_pos c2,zAW (show x2 < 65536 by omega),obs,obs,zAZ (by omega),obs]
        cases hsh:shB (zx6 x) (zx6 x2) with
        | true=>
         rw[if_pos rfl,zqt (fI (by omega)),hnext];refine zCE h d (x+1) x true (by omega) (by omega) ⟨hxl,fun _=>⟨hgd,fun b hb hgb=>?_⟩,fun q=>(by cases q)⟩
         rcases zCD hb with h1 | rfl
         ·rcases y2 b h1 hgb with h2 | ⟨h2,h3⟩
          ·exact .inl (by omega)
          ·refine .inr ⟨by omega,.inr ?_⟩
           rcases h3 with h3 | h3
           ·rw[h3]; exact hsh
           ·exact zyh hsh h3
         ·exact .inr ⟨rfl,.inl rfl⟩
        | false=>
         rw[if_neg (by decide),zqt (fI (by omega)),hnext];refine zCE h d (x+1) x2 true (by omega) (by omega) ⟨hlt,fun _=>⟨y1,fun b hb hgb=>?_⟩,fun q=>(by cases q)⟩
         rcases zCD hb with h1 | rfl
         ·exact y2 b h1 hgb
         ·refine .inr ⟨c2.symm,?_⟩
          rcases zyi (zx6 b) (zx6 x2) with h6 | h6 | h6
          ·exact .inl h6
          ·rw[hsh] at h6; cases h6
          ·exact .inr h6
       ·rw[if_neg c2,zqt (fI (by omega)),hnext];refine zCE h d (x+1) x2 true (by omega) (by omega) ⟨hlt,fun _=>⟨y1,fun b hb hgb=>?_⟩,fun q=>(by cases q)⟩
        rcases zCD hb with h1 | rfl
        ·exact y2 b h1 hgb
        ·exact .inl (by omega)
   ·rw[if_neg hs,obs]
    show(∃b:Nat,(if false=true then _ else _)=_/\_)\/((if false=true then _ else _)=_/\_)
    rw[if_neg (by decide),zqt (fI (by omega)),hnext];exact zCE h d (x+1) x2 b3 (by omega) (by omega) (skip fun q=>hs q.1)
theorem zCF{p:Pg}(h:VP p):(∃b:Nat,zs4 p=some ((b:Int),true)/\b < 2 ^ p.Treaties.length/\zCi p (zx6 b))\/(zs4 p=some (0,false)/\∀D,¬ zCh p D):=by
 have h5:=h.t5;have hp:=zA6 (i:=p.Treaties.length) (by omega);exact zCE h 1000000 0 0 false (Nat.zero_le _) (by omega) ⟨Nat.two_pow_pos _,fun q=>(by cases q),fun _=>⟨rfl,fun b hb=>by omega⟩⟩
end
end Go.Proofs.YtkcmdghjgoaggaaGreat

namespace Go.Proofs.YtkcmdghjgoaggaaGreat
open _root_.Go.Proofs.Tryz
open Go.Abs
set_option maxRecDepth 100000
noncomputable section
def zCG(p:Pg):Prop:=p.Losses.length<=7/\p.Treaties.length<=8/\p.Reports.length<=8
theorem zCG.sh{p:Pg}(h:zCG p):ShP p:=by
 obtain⟨a,b,c⟩:=h;exact⟨zr5 a (by omega),zr5 b (by omega),zr5 c (by omega)⟩
def zCH(p:Pg):Prop:=zCG p/\(VP p->zyJ p.Losses<=300)
theorem zCI{p:Pg}:Ev (zuM p) (zCH p):=by
 unfold zuM zCH zCG
 by_cases h1:p.Losses.length<=7
 ·rw[if_pos (by omega)]
  by_cases h2:p.Treaties.length<=8
  ·rw[if_pos (by omega)]
   by_cases h3:p.Reports.length<=8
   ·rw[if_pos (by omega),zzd (by omega) (by omega) (by omega),obs]
    by_cases hf:zyK p=0
    ·have hv:=zyL.1 hf;rw[if_pos hf,zzc hv,obs];exact Ev.dec ⟨fun q=>⟨⟨h1,h2,h3⟩,fun _=>q⟩,fun q=>q.2 hv⟩
    ·rw[if_neg hf];exact Ev.tt ⟨⟨h1,h2,h3⟩,fun q=>absurd (zyL.2 q) hf⟩
   ·rw[if_neg (by omega)]; exact Ev.ff fun q=>h3 q.1.2.2
  ·rw[if_neg (by omega)]; exact Ev.ff fun q=>h2 q.1.2.1
 ·rw[if_neg (by omega)]; exact Ev.ff fun q=>h1 q.1.1
theorem zCJ{p:Pg}(h:zCG p):zuN p=some (zyK p):=by
 obtain⟨a,b,c⟩:=h;exact zze (by omega) (by omega) (by omega)
theorem zCK{p:Pg}(h:zCG p):zuJ p=some p:=by
 obtain⟨h1,h2,h3⟩:=h
 have k2:zuG p p.Losses p.Treaties 1000000 p.Reserve [] 0=some p:=by
  refine(zr0 (l:=p.Reports) (fun r=>r) (F:=fun d acc x=>zuG p p.Losses p.Treaties d p.Reserve acc x) (fun acc=>some ({ Losses:=p.Losses,Reserve:=p.Reserve,Treaties:=p.Treaties,Reports:=acc }:Pg)) (fun d k acc a hk ha=>?_) (fun d acc=>?_) (d:=1000000) (by omega)).trans (by rw[List.map_id'])
  ·have hkl:=(List.getElem?_eq_some_iff.1 hk).1
   show zuG p p.Losses p.Treaties (d+1) _ _ _=_
   rw[zuG,if_pos (by omega),zrU hk,obs,obs]
   show(some a.Paid).bind _=_
   rw[obs,zqt (by omega),zqt (fI (by omega))]
  ·show zuG p p.Losses p.Treaties (d+1) _ _ _=_
   rw[zuG,if_neg (Int.lt_irrefl _)]
 have k1:zuH p p.Losses 1000000 p.Reserve [] [] 0=some p:=by
  refine(zr0 (l:=p.Treaties) (fun r=>r) (F:=fun d acc x=>zuH p p.Losses d p.Reserve acc [] x) (fun acc=>zuG p p.Losses acc 1000000 p.Reserve [] 0) (fun d k acc a hk ha=>?_) (fun d acc=>?_) (d:=1000000) (by omega)).trans (by rw[List.map_id']; exact k2)
  ·have hkl:=(List.getElem?_eq_some_iff.1 hk).1
   show zuH p p.Losses (d+1) _ _ _ _=_
   rw[zuH,if_pos (by omega),zrU hk,obs,zqt (by omega),zqt (fI (by omega))]
  ·show zuH p p.Losses (d+1) _ _ _ _=_
   rw[zuH,if_neg (Int.lt_irrefl _)]
 refine(zr0 (l:=p.Losses) (fun r=>r) (F:=fun d acc x=>zuI p d acc p.Reserve [] [] x) (fun acc=>zuH p acc 1000000 p.Reserve [] [] 0) (fun d k acc a hk ha=>?_) (fun d acc=>?_) (d:=1000000) (by omega)).trans (by rw[List.map_id']; exact k1)
 ·have hkl:=(List.getElem?_eq_some_iff.1 hk).1
  show zuI p (d+1) _ _ _ _ _=_
  rw[zuI,if_pos (by omega),zrU hk,obs]
  show(some a).bind _=_
  rw[obs,zqt (by omega),zqt (fI (by omega))]
 ·show zuI p (d+1) _ _ _ _ _=_
  rw[zuI,if_neg (Int.lt_irrefl _)]
theorem zCL{l:List Int}(hl:l.length<=1000):zuL l l=some true:=by
 unfold zuL;rw[if_pos rfl]
 have key:=zr3 (l:=l) (F:=zuK l l) (ok:=fun _=>True) (bad:=some false) (fin:=some true) (fun d k a ha=>by
  have hk:=(List.getElem?_eq_some_iff.1 ha).1;refine⟨fun _=>?_,fun h=>absurd trivial h⟩
  rw[zuK,if_pos (by omega),zrU ha,obs,obs,if_pos rfl,zqt (fI (by omega))]) (fun d=>by rw[zuK,if_neg (Int.lt_irrefl _)]) (d:=l.length+1) (by omega)
 exact key.1 fun _ _=>trivial
def zCM(n:Int)(rs:List Rpt):Pg:={ Losses:=[{ Lo:=100,Hi:=120 },{ Lo:=300,Hi:=300 }],Reserve:=n,Treaties:=[{ Kind:=0,Part:=25,Above:=0,Most:=0,Times:=0,Price:=50,Of:=-1 },{ Kind:=1,Part:=0,Above:=50,Most:=100,Times:=0,Price:=30,Of:=-1 },{ Kind:=1,Part:=0,Above:=20,Most:=40,Times:=1,Price:=5,Of:=0 }],Reports:=rs }
def zCN:List Rpt:=[{ Treaty:=0,Paid:={ Lo:=103,Hi:=110 } },{ Treaty:=2,Paid:={ Lo:=45,Hi:=46 } }]
theorem zCO(rs:List Rpt):zuP rs=some (zCM 200 rs):=rfl
theorem zCP:zuQ=some zCN:=rfl
theorem zCQ(n:Int):zuR n=some (zCM n []):=rfl
theorem zCR{a b hi:Int}(h1:0<=a)(h2:a<=b)(h3:b<=hi):RgV { Lo:=a,Hi:=b } hi:=⟨h1,h2,h3⟩
theorem zCS{n:Int}{rs:List Rpt}(hn:0<=n/\n<=10000)(hr:rs.length<=5)(hrs:∀r∈rs,(0<=r.Treaty/\r.Treaty<=2)/\RgV r.Paid 10000):VP (zCM n rs):=by
 refine { ls:=fun r hr=>?_,res:=hn,ts:=fun t ht=>?_,of':=fun i t ht=>?_,rs:=fun r hr=>?_,l4:=by show 2<=4; omega,t5:=by show 3<=5; omega,r5:=hr,many:=by show zyJ [{ Lo:=100,Hi:=120 },{ Lo:=300,Hi:=300 }]<=1500; decide }
 ·rcases List.mem_cons.1 hr with rfl | hr
  ·exact zCR (by omega) (by omega) (by omega)
  rcases List.mem_cons.1 hr with rfl | hr
  ·exact zCR (by omega) (by omega) (by omega)
  ·cases hr
 ·rcases List.mem_cons.1 ht with rfl | ht
  ·exact⟨by unfold zgo; decide,by decide,by decide⟩
  rcases List.mem_cons.1 ht with rfl | ht
  ·exact⟨by unfold zgo; decide,by decide,by decide⟩
  rcases List.mem_cons.1 ht with rfl | ht
  ·exact⟨by unfold zgo; decide,by decide,by decide⟩
  ·cases ht
 ·match i,ht with
  | 0,ht=>cases ht; exact⟨by decide,by decide⟩
  | 1,ht=>cases ht; exact⟨by decide,by decide⟩
  | 2,ht=>cases ht; exact⟨by decide,by decide⟩
  | k+3,ht=>cases ht
 ·exact⟨(hrs r hr).1,(hrs r hr).2⟩
theorem vp3(n:Int)(hn:0<=n/\n<=10000):VP (zCM n []):=zCS hn (by show 0<=5; omega) fun r hr=>by cases hr
theorem zCT:VP (zCM 200 zCN):=zCS (by omega) (by show 2<=5; omega) fun r hr=>by
 rcases List.mem_cons.1 hr with rfl | hr
 ·exact⟨⟨by decide,by decide⟩,zCR (by omega) (by omega) (by omega)⟩
 rcases List.mem_cons.1 hr with rfl | hr
 ·exact⟨⟨by decide,by decide⟩,zCR (by omega) (by omega) (by omega)⟩
 ·cases hr
theorem zCU{p:Pg}(h:VP p){D:List Int}(hD:Inc p.Treaties.length 0 D):∃b,b < 2 ^ p.Treaties.length/\zx6 b=D:=zyu (by have:=h.t5; omega) hD
theorem zCV:zkf (zCM 200 []) [1]:=⟨List.pairwise_singleton _ _,fun v hv=>by
 have:=List.mem_singleton.1 hv; subst this
 exact⟨⟨by decide,by decide⟩,by decide +kernel⟩⟩
theorem zCW:zCi (zCM 300 []) [0,1]:=by
 have hs:zkf (zCM 300 []) [0,1]:=⟨by simp,fun v hv=>by
  rcases List.mem_cons.1 hv with rfl | hv
  ·exact⟨⟨by decide,by decide⟩,by decide +kernel⟩
  ·have:=List.mem_singleton.1 hv; subst this
   exact⟨⟨by decide,by decide⟩,by decide +kernel⟩⟩
 refine⟨⟨hs,by decide +kernel⟩,fun D hD=>?_⟩;obtain⟨b,hb,rfl⟩:=zCU (vp3 300 (by omega)) hD.1.inc;have hb:b < 8:=hb
 have:b=0\/b=1\/b=2\/b=3\/b=4\/b=5\/b=6\/b=7:=by omega
 rcases this with rfl | rfl | rfl | rfl | rfl | rfl | rfl | rfl
 ·exact absurd hD.2 (by decide +kernel)
 ·exact absurd hD.2 (by decide +kernel)
 ·exact absurd hD.2 (by decide +kernel)
 ·have e:zx6 3=[0,1]:=by decide +kernel
  rw[e]; exact .inr ⟨rfl,.inl rfl⟩
 ·exact absurd (hD.1.2 2 (by decide +kernel)).2 (by decide +kernel)
 ·exact absurd (hD.1.2 2 (by decide +kernel)).2 (by decide +kernel)
 ·exact absurd (hD.1.2 2 (by decide +kernel)).2 (by decide +kernel)
 ·exact absurd (hD.1.2 2 (by decide +kernel)).2 (by decide +kernel)
def okT(L:List Int):Bool:=decide (103<=(zzy (zCM 200 zCN).Treaties L).pays 0/\(zzy (zCM 200 zCN).Treaties L).pays 0<=110) && decide (45<=(zzy (zCM 200 zCN).Treaties L).pays 2/\(zzy (zCM 200 zCN).Treaties L).pays 2<=46)
theorem zCX:(zB5 (zCM 200 zCN)).all (fun L=>!okT L)=true:=by decide +kernel
theorem zCY:¬ zAg (zCM 200 zCN) zCN:=by
 rintro⟨L,hL,hA⟩
 have h1:=hA _ (List.mem_cons_self ..);have h2:=hA _ (List.mem_cons_of_mem _ (List.mem_cons_self ..));have h3:=List.all_eq_true.1 zCX L ((zB6 zCT).2 hL)
 have h4:okT L=true:=by
  unfold okT;rw[Bool.and_eq_true_iff];exact⟨decide_eq_true h1,decide_eq_true h2⟩
 rw[h4] at h3; cases h3
theorem fp0:FP (zCM 200 zCN) 0:=⟨[112,300],⟨⟨by decide,by decide⟩,⟨by decide,by decide⟩,trivial⟩,fun r hr=>by
 have hr:r∈[({ Treaty:=0,Paid:={ Lo:=103,Hi:=110 } }:Rpt)]:=hr;have:=List.mem_singleton.1 hr; subst this
 exact(by decide +kernel:(103:Int)<=(zzy (zCM 200 zCN).Treaties [112,300]).pays 0/\(zzy (zCM 200 zCN).Treaties [112,300]).pays 0<=110)⟩
theorem zCZ:zuC (zCM 200 zCN)=some (1,0):=by
 rcases zBD zCT with ⟨j,a1,a2,a3,a4⟩ | ⟨a1,a2⟩
 ·have:j=1:=zBE (p:=zCM 200 zCN) a2 a3 (j':=1) zCY fun i hi=>by
   rw[show i=0 by omega]; exact fp0
  subst this; exact a4
 ·exact absurd (a1 1 (by show 1 < 2; omega)) zCY
theorem zC0:zuE (zCM 200 zCN)=some ([0],0):=by
 obtain⟨M,q1,q2⟩:=zBB zCT
 have hm:zA4 2 (PL (zCM 200 zCN)) [0]:=by
  refine⟨⟨List.pairwise_singleton _ _,fun v hv=>by have:=List.mem_singleton.1 hv; subst this; exact⟨by decide,by decide⟩⟩,⟨[100,300],⟨⟨by decide,by decide⟩,⟨by decide,by decide⟩,trivial⟩,fun j hj hs=>?_⟩,fun D hD hP=>?_⟩
  ·have hj:j < 2:=hj
   have:j=0\/j=1:=by omega
   rcases this with rfl | rfl
   ·exact absurd hs (by decide +kernel)
   ·refine(zBf (p:=zCM 200 zCN) (j:=1) rfl).2 ?_;exact(by decide +kernel:(45:Int)<=(zzy (zCM 200 zCN).Treaties [100,300]).pays 2/\(zzy (zCM 200 zCN).Treaties [100,300]).pays 2<=46)
  ·obtain⟨b,hb,rfl⟩:=zyu (n:=2) (by omega) hD;have hb:b < 4:=hb
   have:b=0\/b=1\/b=2\/b=3:=by omega
   rcases this with rfl | rfl | rfl | rfl
   ·refine absurd (zBk.2 ((PL.congr fun j hj=>?_).1 hP)) zCY;have hj:j < 2:=hj
    have:j=0\/j=1:=by omega
    rcases this with rfl | rfl <;> decide +kernel
   ·exact .inl (by decide +kernel)
   ·exact .inr (by decide +kernel)
   ·exact .inr (by decide +kernel)
 rw[q2.uniq hm] at q1;exact q1
theorem zC1:zAg (zCM 200 []) (zCM 200 []).Reports:=⟨[100,300],⟨⟨by decide,by decide⟩,⟨by decide,by decide⟩,trivial⟩,fun r hr=>by cases hr⟩
theorem zC2:zuf (zCM 200 []) [100,300]=some ([100,100,45],200,0):=by
 rw[zAw (vp3 200 (by omega)) (L:=[100,300]) ⟨⟨by decide,by decide⟩,⟨by decide,by decide⟩,trivial⟩]
 have e1:lN (zCM 200 []).Treaties.length (zzy (zCM 200 []).Treaties [100,300]).pays=[100,100,45]:=by decide +kernel
 have e2:(zzy (zCM 200 []).Treaties [100,300]).soc=200:=by decide +kernel
 rw[e1,e2]
theorem zC3{r:Rg}{a b:Int}(h1:r.Lo=a)(h2:r.Hi=b):r={ Lo:=a,Hi:=b }:=by cases r; subst h1; subst h2; rfl
theorem zC4:zup (zCM 200 [])=some (bsN 3 (bdF (zCM 200 []) (trL (zCM 200 []))),0):=by
 have h:=vp3 200 (by omega);obtain⟨bs,q1,q2⟩:=zAz h zC1;rw[q1,q2.uniq (zBq h zC1).1]; rfl
theorem bd0:bdF (zCM 200 []) (trL (zCM 200 [])) 0={ Pays:={ Lo:=100,Hi:=105 },Keeps:={ Lo:=55,Hi:=55 } }:=by
 have e1:=zC3 (r:=(bdF (zCM 200 []) (trL (zCM 200 [])) 0).Pays) (a:=100) (b:=105) (by decide +kernel) (by decide +kernel);have e2:=zC3 (r:=(bdF (zCM 200 []) (trL (zCM 200 [])) 0).Keeps) (a:=55) (b:=55) (by decide +kernel) (by decide +kernel);generalize bdF (zCM 200 []) (trL (zCM 200 [])) 0=b at e1 e2
 cases b; simp only at e1 e2; rw[e1,e2]
theorem bd2:bdF (zCM 200 []) (trL (zCM 200 [])) 2={ Pays:={ Lo:=45,Hi:=50 },Keeps:={ Lo:=45,Hi:=50 } }:=by
 have e1:=zC3 (r:=(bdF (zCM 200 []) (trL (zCM 200 [])) 2).Pays) (a:=45) (b:=50) (by decide +kernel) (by decide +kernel);have e2:=zC3 (r:=(bdF (zCM 200 []) (trL (zCM 200 [])) 2).Keeps) (a:=45) (b:=50) (by decide +kernel) (by decide +kernel);generalize bdF (zCM 200 []) (trL (zCM 200 [])) 2=b at e1 e2
 cases b; simp only at e1 e2; rw[e1,e2]
theorem zC5:zuq (zCM 200 [])=some ({ Lo:=200,Hi:=215 },0):=by
 have h:=vp3 200 (by omega);obtain⟨r,q1,q2⟩:=zAA h zC1;rw[q1,q2.uniq (zBq h zC1).2,zC3 (r:=wdL (fun L=>(zzy (zCM 200 []).Treaties L).soc) (trL (zCM 200 []))) (a:=200) (b:=215) (by decide +kernel) (by decide +kernel)]
theorem zC6:zut (zCM 200 []) [1]=some ({ Lo:=300,Hi:=320 },0):=by
 rw[zCd (vp3 200 (by omega)) (by unfold zr4; decide) zCV,zC3 (r:=zB7 (zCM 200 []) (inD [1])) (a:=300) (b:=320) (by decide +kernel) (by decide +kernel)]
theorem zC7:zux (zCM 300 [])=some ([0,1],80,0):=by
 rcases zCr (vp3 300 (by omega)) with ⟨M,q1,q2⟩ | ⟨_,q2⟩
 ·rw[q1,q2.uniq zCW]; rfl
 ·exact absurd zCW.good (q2 _)
theorem zC8:zuy (zCM 300 []) [0,1] 80=some true:=
 (zCf (vp3 300 (by omega)) (by unfold zr4; decide)).some_of ⟨zCW.good.1,by decide +kernel,zCW.good.2⟩
theorem f64{n:Int}(h:-1000000<=n/\n<=1000000):zl8 .i64 n:=fI (by omega)
theorem zC9:zuS=some true:=by
 have i0:idx (bsN 3 (bdF (zCM 200 []) (trL (zCM 200 [])))) 0=some { Pays:={ Lo:=100,Hi:=105 },Keeps:={ Lo:=55,Hi:=55 } }:=by
  have:=zrU (zBp (n:=3) (f:=bdF (zCM 200 []) (trL (zCM 200 []))) (k:=0) (by omega));rw[bd0] at this; exact this
 have i2:idx (bsN 3 (bdF (zCM 200 []) (trL (zCM 200 [])))) 2=some { Pays:={ Lo:=45,Hi:=50 },Keeps:={ Lo:=45,Hi:=50 } }:=by
  have:=zrU (zBp (n:=3) (f:=bdF (zCM 200 []) (trL (zCM 200 []))) (k:=2) (by omega));rw[bd2] at this; exact this
 have hl:((bsN 3 (bdF (zCM 200 []) (trL (zCM 200 [])))).length:Int)=3:=by rw[zBo]; rfl
 have s1:zuL [100,100,45] [100,100,45]=some true:=zCL (by decide);have s2:zuL [0,1] [0,1]=some true:=zCL (by decide);have s3:zuL [0] [0]=some true:=zCL (by decide);have f:∀n:Int,-1000000<=n/\n<=1000000->zl8 .i64 n:=fun n h=>f64 h;unfold zuS
 simp only[zCO,zCP,zCQ,obs,zC2,zC4,zC5,zC6,zC7,zCZ,zC0,s1,s2,s3,if_true,hl,i0,i2,zuO]
 rw[zqt (f 100 (by omega)),zqt (f 100 (by omega)),zqt (f 105 (by omega)),zqt (f 105 (by omega)),zqt (f 55 (by omega)),zqt (f 55 (by omega)),zqt (f 55 (by omega)),zqt (f 55 (by omega)),if_pos (by decide),zqt (f 45 (by omega)),zqt (f 45 (by omega)),zqt (f 50 (by omega)),zqt (f 50 (by omega)),zqt (f 45 (by omega)),zqt (f 45 (by omega)),zqt (f 50 (by omega)),zqt (f 50 (by omega)),if_pos (by decide),zqt (f 200 (by omega)),zqt (f 200 (by omega)),zqt (f 215 (by omega)),zqt (f 215 (by omega)),if_pos (by decide),zqt (f 300 (by omega)),zqt (f 300 (by omega)),zqt (f 320 (by omega)),zqt (f 320 (by omega)),if_pos (by decide)]
 simp only[zC8,obs,if_true]
theorem aw:((zuS).bind fun r=>some r)=some true:=by rw[zC9]; rfl
theorem zDa{p:Pg}(_:zst p):zuT p=some true:=by
 unfold zuT
 refine zCI.pick (fun ht=>?_) fun _=>by rw[if_neg (by decide),aw]
 rw[if_pos rfl];have hsh:=ht.1.sh
 simp only[zCK ht.1,zCJ ht.1,obs,aw]
 by_cases hf:zyK p=0
 ·have h:=zyL.1 hf;have h5:=h.t5;have hp:=zA6 (i:=p.Treaties.length) (by omega)
  simp only[if_pos hf]
  rcases zCr h with ⟨M,a1,a2⟩ | ⟨a1,a2⟩ <;> rcases zCF h with ⟨b,b1,b2,b3⟩ | ⟨b1,b2⟩
  ·have e:=a2.uniq b3;have hl:=a2.good.1.len;rw[a1,b1,obs,obs]
   show(if true=true then (if (0:Int)=0 then _ else _) else _)=_
   rw[if_pos rfl,if_pos rfl]
   show(zsZ (b:Int)).bind _=_
   rw[zAW (by omega),obs]
   show(zuL M (zx6 b)).bind _=_
   rw[<- e,zCL (by omega),obs,if_pos rfl]
   show(zsX p (b:Int)).bind _=_
   rw[zCA h b2,obs,<- e]
   show(if zBM p.Treaties M=zBM p.Treaties M then _ else _)=_
   rw[if_pos rfl]
  ·exact absurd a2.good (b2 M)
  ·exact absurd b3.good (a2 _)
  ·rw[a1,b1,obs,obs]
   rfl
 ·rw[zCs hsh hf,obs,if_neg hf]
  show(if zyK p=zyK p then _ else _)=_
  rw[if_pos rfl]; rfl
end
end Go.Proofs.YtkcmdghjgoaggaaGreat

namespace Go.Proofs.YtkcmdghjgoaggaaGreat
open _root_.Go.Proofs.Tryz
open Go.ChangeShapes Go.WideShapes Go.ChangeAt Go.RowKit Go.Abs
set_option maxRecDepth 100000
theorem op3:zsd prog 3 Int (zl8 .i64):=zse (by kernel_rfl)
theorem zDb:zsd prog 55 Rg zsn:=zsl (fs:=[(3,0),(3,1)]) (by kernel_rfl) (by kernel_rfl) (zsk (α:=Int) (ok:=zl8 .i64) (k:=1) op3 (by kernel_rfl) rfl (zsk (α:=Int) (ok:=zl8 .i64) (k:=1) op3 (by kernel_rfl) rfl zsj)) (by kernel_rfl) fun m vs h=>by
 obtain⟨a0,c0,r0,m0,h0,p0,k0,s0,⟨a1,c1,r1,m1,h1,p1,k1,s1,rfl⟩⟩:=h;have p0:c0=[.int .i64 a0]:=p0; subst p0;have p1:c1=[.int .i64 a1]:=p1; subst p1;subst h1 h0;exact⟨⟨a0,a1⟩,rfl,⟨k0,k1⟩⟩
theorem zDc:zsd prog 22 (List Rg) (fun l=>l.length<=maxLen/\∀a0∈l,zsn a0):=zsg (by kernel_rfl) (by kernel_rfl) zDb
theorem zDd:zsd prog 87 Ty zsp:=zsl (fs:=[(3,0),(3,1),(3,2),(3,3),(3,4),(3,5),(3,6)]) (by kernel_rfl) (by kernel_rfl) (zsk (α:=Int) (ok:=zl8 .i64) (k:=1) op3 (by kernel_rfl) rfl (zsk (α:=Int) (ok:=zl8 .i64) (k:=1) op3 (by kernel_rfl) rfl (zsk (α:=Int) (ok:=zl8 .i64) (k:=1) op3 (by kernel_rfl) rfl (zsk (α:=Int) (ok:=zl8 .i64) (k:=1) op3 (by kernel_rfl) rfl (zsk (α:=Int) (ok:=zl8 .i64) (k:=1) op3 (by kernel_rfl) rfl (zsk (α:=Int) (ok:=zl8 .i64) (k:=1) op3 (by kernel_rfl) rfl (zsk (α:=Int) (ok:=zl8 .i64) (k:=1) op3 (by kernel_rfl) rfl zsj))))))) (by kernel_rfl) fun m vs h=>by
 obtain⟨a0,c0,r0,m0,h0,p0,k0,s0,⟨a1,c1,r1,m1,h1,p1,k1,s1,⟨a2,c2,r2,m2,h2,p2,k2,s2,⟨a3,c3,r3,m3,h3,p3,k3,s3,⟨a4,c4,r4,m4,h4,p4,k4,s4,⟨a5,c5,r5,m5,h5,p5,k5,s5,⟨a6,c6,r6,m6,h6,p6,k6,s6,rfl⟩⟩⟩⟩⟩⟩⟩:=h;have p0:c0=[.int .i64 a0]:=p0; subst p0;have p1:c1=[.int .i64 a1]:=p1; subst p1;have p2:c2=[.int .i64 a2]:=p2; subst p2;have p3:c3=[.int .i64 a3]:=p3; subst p3;have p4:c4=[.int .i64 a4]:=p4; subst p4;have p5:c5=[.int .i64 a5]:=p5; subst p5;have p6:c6=[.int .i64 a6]:=p6; subst p6;subst h6 h5 h4 h3 h2 h1 h0;exact⟨⟨a0,a1,a2,a3,a4,a5,a6⟩,rfl,⟨k0,k1,k2,k3,k4,k5,k6⟩⟩
theorem zDe:zsd prog 23 (List Ty) (fun l=>l.length<=maxLen/\∀a0∈l,zsp a0):=zsg (by kernel_rfl) (by kernel_rfl) zDd
theorem zDf:zsd prog 96 Rpt zsr:=zsl (fs:=[(3,0),(55,1)]) (by kernel_rfl) (by kernel_rfl) (zsk (α:=Int) (ok:=zl8 .i64) (k:=1) op3 (by kernel_rfl) rfl (zsk (α:=Rg) (ok:=zsn) (k:=2) zDb (by kernel_rfl) rfl zsj)) (by kernel_rfl) fun m vs h=>by
 obtain⟨a0,c0,r0,m0,h0,p0,k0,s0,⟨a1,c1,r1,m1,h1,p1,k1,s1,rfl⟩⟩:=h;have p0:c0=[.int .i64 a0]:=p0; subst p0;have p1:c1=[.int .i64 a1.Lo,.int .i64 a1.Hi]:=p1; subst p1;subst h1 h0;exact⟨⟨a0,a1⟩,rfl,⟨k0,k1⟩⟩
theorem zDg:zsd prog 24 (List Rpt) (fun l=>l.length<=maxLen/\∀a0∈l,zsr a0):=zsg (by kernel_rfl) (by kernel_rfl) zDf
theorem zDh:zsd prog 26 Pg zst:=zsl (fs:=[(22,0),(3,1),(23,2),(24,3)]) (by kernel_rfl) (by kernel_rfl) (zsk (α:=List Rg) (ok:=(fun l=>l.length<=maxLen/\∀a0∈l,zsn a0)) (k:=1) zDc (by kernel_rfl) rfl (zsk (α:=Int) (ok:=zl8 .i64) (k:=1) op3 (by kernel_rfl) rfl (zsk (α:=List Ty) (ok:=(fun l=>l.length<=maxLen/\∀a0∈l,zsp a0)) (k:=1) zDe (by kernel_rfl) rfl (zsk (α:=List Rpt) (ok:=(fun l=>l.length<=maxLen/\∀a0∈l,zsr a0)) (k:=1) zDg (by kernel_rfl) rfl zsj)))) (by kernel_rfl) fun m vs h=>by
 obtain⟨a0,c0,r0,m0,h0,p0,k0,s0,⟨a1,c1,r1,m1,h1,p1,k1,s1,⟨a2,c2,r2,m2,h2,p2,k2,s2,⟨a3,c3,r3,m3,h3,p3,k3,s3,rfl⟩⟩⟩⟩:=h;obtain⟨d0,rfl,p0⟩:=p0;have p1:c1=[.int .i64 a1]:=p1; subst p1;obtain⟨d2,rfl,p2⟩:=p2;obtain⟨d3,rfl,p3⟩:=p3;subst h3 h2 h1 h0;exact⟨⟨a0,a1,a2,a3⟩,⟨_,_,_,rfl,p0,p2,p3⟩,⟨k0,k1,k2,k3⟩⟩
theorem zDi:laidOutB prog=true:=by kernel_rfl
theorem zDj:ownKnob prog.godebug=none:=by kernel_rfl
theorem zDk(os:Os)(started:os.Started)(H:Type)(enc:TypeId × Value->H) :
    ReturnsInHanded {} Tryz.checked os 6 .any (Rows.treatyCheapestSpec.pre6 enc Tryz.prog Tryz.f6 Rows.treatyCheapestRow.domain false) (Rows.treatyCheapestSpec.post enc Tryz.prog Tryz.f6 false true false false):=by
  refine returnsInHanded_of_change (C:=Tryz.checked) zDj started (by kernel_rfl) Tryz.func6
    (ChangeSpec.witness6 (enc:=enc) (C:=Tryz.checked) false ⟨#[],#[.agg #[.slice none 0 0,.int .i64 0,.slice none 0 0,.slice none 0 0]],[]⟩ 8 (by kernel_rfl) (by kernel_rfl) (by kernel_rfl) (by kernel_rfl)) ?_
  intro W base args ds gs before hval0 hW hcnd _;have hval:∀(j:Nat) t v,Tryz.f6.params[j]? = some t->args[j]? = some v->Value.okWide Tryz.prog W .any base t v:=hval0;have hW':=hW;obtain⟨p,q,hA0,hV,rfl,hfz,hnd⟩:=hW;have hA:DataW.TrodAll enc Tryz.prog W 0 (fun _=>true) true Tryz.f6.params.toList args.toList ds p:=hA0;rw[Tryz.params6] at hA hval;obtain⟨v0,d0,rfl,rfl,h0⟩:=trodAll_one hA;obtain⟨rfl,rfl⟩:=trodVars_none hV
  have hlt:∀x∈p,x.block < W.heap.size:=fun x hx=>by simpa using hW'.lt x (by simpa using hx)
  obtain⟨fu0,hf0⟩:=id h0
  clear hA0 hval0
  obtain⟨e0,m0,w0,a_0,le0,sv0,lay0,cr0,zwV,ok0⟩:=zDh H enc W true _ _ _ hf0 _ _ (Lay.nil W);obtain⟨c0_0,c0_2,c0_3,rfl,g0_0,g0_2,g0_3⟩:=zwV
  obtain⟨cs0,hv0,cl0⟩:∃cs,v0=.agg cs/\v0.cells.toList=cs.toList:=by
    have hl:=cr0.length
    cases v0 with
    | agg cs=>exact⟨cs,rfl,rfl⟩
    | _=>exact absurd hl (by simp[Value.cells])
  subst hv0;have hargs:zeq (VR e0) [.agg 4 [c0_0,.int .i64 a_0.Reserve,c0_2,c0_3]] [.agg cs0]:=.cons ⟨cs0,rfl,cr0,rfl⟩ .nil;refine(callsIn_wide.1 (zqE fits htab (zx1 (p:=a_0) lay0.pre g0_0 g0_2 g0_3 (zDa ok0) (Q:=fun v _=>v=.c (.bool true)) fun _ _=>rfl) lay0.hr (args':=#[.agg cs0]) hargs 0)).mono fun en W' hp=>?_;obtain⟨v,v',e',m',rfl,hst,hvr,rfl⟩:=hp;have hv':v'=.bool true:=hvr;subst hv';have hbelow:=lay0.below hst
  refine⟨_,rfl,[d0],[],p,[],p,[],by simpa using hW',trodAll_mk1 (shut_bool Tryz.underlying4 _),
    trodAll_mk1 (Below.trod zDi (by kernel_rfl) (of_decide_eq_true (by kernel_rfl)) h0 hbelow fun x hx=>hlt x (by simp[hx])),rfl,lay0.kept hst _,fun hc=>by cases hc⟩
theorem TreatyCheapest_holds:Rows.TreatyCheapestSaid:=
 OpenClaim.holds_of_wide 6 Tryz.f6 rfl rfl rfl rfl rfl rfl rfl ⟨rfl,rfl,rfl,rfl,rfl⟩ rfl rfl rfl rfl rfl (by kernel_rfl) Tryz.func6 (by kernel_rfl)
  (of_decide_eq_true (by kernel_rfl)) (by unfold Func.isWrapper; first | (rw[if_pos (by decide +kernel)]; kernel_rfl) | (rw[if_neg (by decide +kernel)]; exact⟨rfl,rfl⟩))
  (fun os started H enc _=>zDk os started H enc)
end Go.Proofs.YtkcmdghjgoaggaaGreat

