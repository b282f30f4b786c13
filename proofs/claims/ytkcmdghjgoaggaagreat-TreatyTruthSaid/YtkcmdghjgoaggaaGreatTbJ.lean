/- TreatyTruth, for all that it can be called with, returns true. Condition: none. -/
import Derived.Test.YtkcmdghjgoaggaaGreatTbI
import GoSem.Step
import GoSem.ClaimKeys
import Derived.DeepKeys2
import Derived.RangeFuncLeaves
import Derived.OrdersIn
import Derived.Laws.World
import Derived.Laws.Sem
import Derived.RangeFuncRecord
import Derived.Laws.CopyRow
import Derived.Laws.Append
import Derived.Laws.Rows
import Derived.Laws.Slices
import Derived.Laws.Entries
import Derived.ChangeKeysEq
import Derived.IntWalk
import Derived.DeepKeys
import Derived.DeepKeys3
import Derived.Laws.StructEq
import Derived.MapKept
import Derived.Laws.AppendOwn
import Derived.ChangeArms
import Derived.ChangeOld
import Derived.Carry
import Derived.ChangeShapes
import Derived.KernelRfl
import Derived.ProofKit
import Derived.Test.YtkcmdghjgoaggaaGreatRows

namespace Go.Proofs.YtkcmdghjgoaggaaGreat
open _root_.Go.Proofs.Tryz
open Go.Abs
set_option maxRecDepth 100000
noncomputable section
def zz8(S:Int->Prop)(x:Int):Prop:=S x/\∀y,S y->x<=y
def zz9(S:Int->Prop)(x:Int):Prop:=S x/\∀y,S y->y<=x
theorem zAa{S:Int->Prop}{x y:Int}(h:zz8 S x)(h':zz8 S y):x=y:=Int.le_antisymm (h.2 _ h'.1) (h'.2 _ h.1)
theorem zAb{S:Int->Prop}{x y:Int}(h:zz9 S x)(h':zz9 S y):x=y:=Int.le_antisymm (h'.2 _ h.1) (h.2 _ h'.1)
theorem zAc{number:Oc->Option Int}{g:Oc->Int}{ws:List Oc}{y:List P5}{K:List Int->List P5->Option Rg}(hg:∀o∈ws,number o=some (g o)){acc:List Int}(hl:acc.length+ws.length<=1048576):zt9 number ws y K (ws.length+1) acc 0=K (acc++ws.map g) y:=by
 have key:=zym (n:=ws.length) (fun d (s:List Int) x=>zt9 number ws y K d s x) (fun k=>acc++(ws.take k).map g) (fin:=K (acc++ws.map g) y) (fun d k hk=>?_) (fun d=>?_) (ws.length+1) 0 (by omega) (by omega)
 ·rw[List.take_zero,List.map_nil,List.append_nil] at key; exact key
 ·have hgt:=List.getElem?_eq_getElem hk;rw[zt9,if_pos (by omega),zrT hgt,obs,hg _ (List.getElem_mem hk),obs,zqs (by rw[List.length_append,List.length_map,List.length_take]; omega),zqs (fI (by omega)),List.take_add_one,hgt,List.map_append,<- List.append_assoc]; rfl
 ·rw[zt9,if_neg (by omega),List.take_length]
def tot(p:Pg)(A:List (List Int))(ks:List P5):Nat:=(ks.map fun k=>(grp p A k).length).sum
def zAd(p:Pg)(A:List (List Int))(rs:List Rpt)(g:Oc->Int)(ks:List P5)(y:Int):Prop:=∃k∈ks,agK k rs/\∃o∈grp p A k,g o=y
theorem zAe{p:Pg}{A:List (List Int)}{w:Wk}{number:Oc->Option Int}{g:Oc->Int}{lo hi:Int}(hr:zzX w.p.Reports)(hs:zr3 w.p.Reports):∀(d:Nat) (rem:List P5) (acc:List Int),rem.length < d->acc.length+tot p A rem<=1048576->(∀k∈rem,zqL w.played k=some (grp p A k)/\∀o∈grp p A k,number o=some (g o)) ->
  zz8 (fun y=>y∈acc\/zAd p A w.p.Reports g rem y) lo->zz9 (fun y=>y∈acc\/zAd p A w.p.Reports g rem y) hi->pboundsW_L0 w number d acc rem=some { Lo:=lo,Hi:=hi }
 | 0,_,_,h,_,_,_,_=>by omega
 | d+1,rem,acc,h,hacc,hm,h1,h2=>by
  unfold pboundsW_L0;refine zru (fun l1 a l2 hrr=>?_) fun hrr=>?_
  ·subst hrr
   have hsub:∀x,x∈l1++l2->x∈l1++a::l2:=fun x hx=>by
    rcases List.mem_append.1 hx with h | h
    ·exact List.mem_append_left _ h
    ·exact List.mem_append_right _ (List.mem_cons_of_mem _ h)
   have hspl:∀x,x∈l1++a::l2↔x=a\/x∈l1++l2:=fun x=>by simp only[List.mem_append,List.mem_cons]; constructor <;> (intro h; rcases h with h | h | h <;> simp[h])
   obtain⟨k1,k2⟩:=hm a (by simp)
   have hlen:(l1++l2).length+1=(l1++a::l2).length:=by simp only[List.length_append,List.length_cons]; omega
   have htot:tot p A (l1++a::l2)=(grp p A a).length+tot p A (l1++l2):=by unfold tot; simp only[List.map_append,List.map_cons,List.sum_append,List.sum_cons]; omega
   rw[k1,obs]
   by_cases ha:agK a w.p.Reports
   ·rw[(zz4 hr hs).some_of ha,obs,if_pos rfl,zAc k2 (by omega)]
    have hiff:(fun y=>y∈acc++(grp p A a).map g\/zAd p A w.p.Reports g (l1++l2) y)=fun y=>y∈acc\/zAd p A w.p.Reports g (l1++a::l2) y:=funext fun y=>propext ⟨fun hy=>by
     rcases hy with hy | ⟨x,hx,hx2⟩
     ·rcases List.mem_append.1 hy with hy | hy
      ·exact .inl hy
      ·obtain⟨o,ho,hoy⟩:=List.mem_map.1 hy;exact .inr ⟨a,by simp,ha,o,ho,hoy⟩
     ·exact .inr ⟨x,hsub x hx,hx2⟩,fun hy=>by
     rcases hy with hy | ⟨x,hx,hx2,o,ho,hoy⟩
     ·exact .inl (List.mem_append_left _ hy)
     ·rcases (hspl x).1 hx with rfl | hx
      ·exact .inl (List.mem_append_right _ (List.mem_map.2 ⟨o,ho,hoy⟩))
      ·exact .inr ⟨x,hx,hx2,o,ho,hoy⟩⟩
    exact zAe hr hs d (l1++l2) _ (by omega) (by rw[List.length_append,List.length_map]; omega) (fun x hx=>hm x (hsub x hx)) (by rw[hiff]; exact h1) (by rw[hiff]; exact h2)
   ·rw[(zz4 hr hs).some_not ha,obs,if_neg (by decide)]
    have hiff:(fun y=>y∈acc\/zAd p A w.p.Reports g (l1++l2) y)=fun y=>y∈acc\/zAd p A w.p.Reports g (l1++a::l2) y:=funext fun y=>propext ⟨fun hy=>hy.imp id fun⟨x,hx,hx2⟩=>⟨x,hsub x hx,hx2⟩,fun hy=>by
     rcases hy with hy | ⟨x,hx,hx2,hx3⟩
     ·exact .inl hy
     ·rcases (hspl x).1 hx with rfl | hx
      ·exact absurd hx2 ha
      ·exact .inr ⟨x,hx,hx2,hx3⟩⟩
    exact zAe hr hs d (l1++l2) acc (by omega) (by omega) (fun x hx=>hm x (hsub x hx)) (by rw[hiff]; exact h1) (by rw[hiff]; exact h2)
  ·subst hrr;have hno:∀y,(y∈acc\/zAd p A w.p.Reports g [] y)↔y∈acc:=fun y=>⟨fun h=>h.elim id (fun⟨x,hx,_⟩=>(by cases hx)),.inl⟩
   have hne:acc ≠ []:=fun he=>by have:=(hno _).1 h1.1; rw[he] at this; cases this
   have m1:=zsa hne;have m2:=zsb hne;have e1:zr6 acc=lo:=zAa ⟨(hno _).2 m1.1,fun y hy=>m1.2 y ((hno y).1 hy)⟩ h1;have e2:zr7 acc=hi:=zAb ⟨(hno _).2 m2.1,fun y hy=>m2.2 y ((hno y).1 hy)⟩ h2;rw[zy5 hne (by omega),obs,zy6 hne (by omega),obs,e1,e2]
open Classical in
theorem zAf{p:Pg}{A:List (List Int)}{ks:List P5}(h:ks.Nodup):tot p A ks<=A.length:=by
 have key:∀(ks:List P5) (B:List Oc),ks.Nodup->(ks.map fun k=>(B.filter fun o=>decide (o.pays=k)).length).sum<=B.length:=by
  intro ks
  induction ks with
  | nil=>intro B _; exact Nat.zero_le _
  | cons k ks ih=>
   intro B hn;obtain⟨h1,h2⟩:=List.nodup_cons.1 hn
   have e1:∀k'∈ks,(B.filter fun o=>decide (o.pays=k')).length=((B.filter fun o=>!decide (o.pays=k)).filter fun o=>decide (o.pays=k')).length:=fun k' hk'=>by
    rw[List.filter_filter]
    congr 1
    refine List.filter_congr fun o _=>?_
    by_cases ho:o.pays=k'
    ·have:¬ o.pays=k:=fun h3=>h1 (h3 ▸ ho ▸ hk')
     simp[ho]
     intro h3; exact h1 (h3 ▸ hk')
    ·simp[ho]
   have e2:(ks.map fun k'=>(B.filter fun o=>decide (o.pays=k')).length)=ks.map fun k'=>((B.filter fun o=>!decide (o.pays=k)).filter fun o=>decide (o.pays=k')).length:=List.map_congr_left e1
   have e3:(B.filter fun o=>decide (o.pays=k)).length+(B.filter fun o=>!decide (o.pays=k)).length=B.length:=by
    clear e1 e2 ih
    induction B with
    | nil=>rfl
    | cons o B ihB=>
     by_cases ho:o.pays=k
     ·rw[List.filter_cons_of_pos (by simp[ho]),List.filter_cons_of_neg (by simp[ho])]; simp only[List.length_cons]; omega
     ·rw[List.filter_cons_of_neg (by simp[ho]),List.filter_cons_of_pos (by simp[ho])]; simp only[List.length_cons]; omega
   rw[List.map_cons,List.sum_cons,e2];have:=ih (B.filter fun o=>!decide (o.pays=k)) h2
   omega
 have:=key ks (A.map (oc p)) h;rw[List.length_map] at this;exact this
def IsB(S:List Int->Prop)(g:List Int->Int)(r:Rg):Prop:=(∃L,S L/\g L=r.Lo)/\(∃L,S L/\g L=r.Hi)/\∀L,S L->r.Lo<=g L/\g L<=r.Hi
theorem IsB.uniq{S:List Int->Prop}{g:List Int->Int}{r r':Rg}(h:IsB S g r)(h':IsB S g r'):r=r':=by
 obtain⟨⟨a,a1,a2⟩,⟨b,b1,b2⟩,c⟩:=h;obtain⟨⟨a',a1',a2'⟩,⟨b',b1',b2'⟩,c'⟩:=h';have q1:=c a' a1'; have q2:=c b' b1'; have q3:=c' a a1; have q4:=c' b b1
 cases r; cases r'
 simp only at *
 congr 1 <;> omega
theorem IsB.congr{S S':List Int->Prop}{g g':List Int->Int}{r:Rg}(h:IsB S g r)(hS:∀L,S L↔S' L)(hg:∀L,S' L->g L=g' L):IsB S' g' r:=by
 obtain⟨⟨a,a1,a2⟩,⟨b,b1,b2⟩,c⟩:=h;exact⟨⟨a,(hS a).1 a1,by rw[<- hg a ((hS a).1 a1)]; exact a2⟩,⟨b,(hS b).1 b1,by rw[<- hg b ((hS b).1 b1)]; exact b2⟩,fun L hL=>by rw[<- hg L hL]; exact c L ((hS L).2 hL)⟩
def TrS(p:Pg)(rs:List Rpt)(L:List Int):Prop:=inL p.Losses L/\agN (zzo p.Treaties L).pays rs
open Classical in
theorem zAg{p:Pg}(h:VP p){number:Oc->Option Int}{g:Oc->Int}(hg:∀L,inL p.Losses L->number (oc p L)=some (g (oc p L)))(hc:zz6 p p.Reports):∃r,zua (zzQ p (zzI p)) number=some r/\IsB (TrS p p.Reports) (fun L=>g (oc p L)) r:=by
 have hA:∀L∈zzI p,inL p.Losses L:=fun L hL=>zzJ.1 hL;have h5:=h.r5;have hs:zr3 p.Reports:=zr4 h5 (by omega);obtain⟨ks0,h0⟩:=zz1 h hA
 have hgrp:∀{k o},o∈grp p (zzI p) k->∃L,inL p.Losses L/\oc p L=o/\(oc p L).pays=k:=fun {k o} ho=>by
  obtain⟨h3,h4⟩:=List.mem_filter.1 ho;obtain⟨L,h5,rfl⟩:=List.mem_map.1 h3;exact⟨L,hA L h5,rfl,of_decide_eq_true h4⟩
 have hin:∀{L},inL p.Losses L->oc p L∈grp p (zzI p) (oc p L).pays:=fun {L} hL=>List.mem_filter.2 ⟨List.mem_map.2 ⟨L,zzJ.2 hL,rfl⟩,decide_eq_true rfl⟩
 have hans:∀ks,zrn (plM p (zzI p)) ks->∀y,(y∈([]:List Int)\/zAd p (zzI p) p.Reports g ks y)↔∃L,TrS p p.Reports L/\g (oc p L)=y:=fun ks hk y=>by
  have h2:=((zzZ h hA ks).1 hk).2
  constructor
  ·rintro (h3 | ⟨k,hk1,hk2,o,ho,rfl⟩)
   ·cases h3
   ·obtain⟨L,hL,rfl,hk3⟩:=hgrp ho;subst hk3;exact⟨L,⟨hL,(zz2 h.rsOk).1 hk2⟩,rfl⟩
  ·rintro⟨L,⟨hL,ha⟩,rfl⟩
   exact .inr ⟨_,(h2 _).2 ⟨L,zzJ.2 hL,rfl⟩,(zz2 h.rsOk).2 ha,_,hin hL,rfl⟩
 -- the zj2 and the zj3 one
 obtain⟨vs,hvs⟩:∃vs:List Int,∀y,y∈vs↔∃L,TrS p p.Reports L/\g (oc p L)=y:=by
  classical
  refine⟨((zzI p).filter fun L=>decide (agN (zzo p.Treaties L).pays p.Reports)).map fun L=>g (oc p L),fun y=>?_⟩;rw[List.mem_map]
  constructor
  ·rintro⟨L,hL,rfl⟩
   obtain⟨h3,h4⟩:=List.mem_filter.1 hL;exact⟨L,⟨hA L h3,of_decide_eq_true h4⟩,rfl⟩
  ·rintro⟨L,⟨h3,h4⟩,rfl⟩
   exact⟨L,List.mem_filter.2 ⟨zzJ.2 h3,decide_eq_true h4⟩,rfl⟩
 have hne:vs ≠ []:=fun he=>by
  obtain⟨L,hL⟩:=hc;have:=(hvs _).2 ⟨L,hL,rfl⟩
  rw[he] at this; cases this
 have m1:=zsa hne;have m2:=zsb hne;refine⟨{ Lo:=zr6 vs,Hi:=zr7 vs },?_,(hvs _).1 m1.1,(hvs _).1 m2.1,fun L hL=>⟨m1.2 _ ((hvs _).2 ⟨L,hL,rfl⟩),m2.2 _ ((hvs _).2 ⟨L,hL,rfl⟩)⟩⟩;unfold zua;refine zrq h0 fun ks hk=>?_;have htl:=zAf (p:=p) (A:=zzI p) hk.1;have hlen:=zzK h;refine zAe (p:=p) (A:=zzI p) (w:=zzQ p (zzI p)) (g:=g) h.rsOk hs _ ks [] (by omega) (by simp only[List.length_nil]; omega) (fun k hkk=>⟨?_,fun o ho=>?_⟩) ⟨(hans ks hk _).2 ((hvs _).1 m1.1),fun y hy=>m1.2 y ((hvs _).2 ((hans ks hk _).1 hy))⟩ ⟨(hans ks hk _).2 ((hvs _).1 m2.1),fun y hy=>m2.2 y ((hvs _).2 ((hans ks hk _).1 hy))⟩
 ·have h3:=((hk.2 k).1 hkk).2;have h4:(if grp p (zzI p) k=[] then none else some (grp p (zzI p) k)) ≠ none:=h3
  show(if grp p (zzI p) k=[] then none else some (grp p (zzI p) k))=_
  by_cases h5:grp p (zzI p) k=[]
  ·rw[if_pos h5] at h4; exact absurd rfl h4
  ·rw[if_neg h5]
 ·obtain⟨L,hL,rfl,_⟩:=hgrp ho;exact hg L hL
theorem zAh{p:Pg}(h:VP p):zr3 p.Losses/\zr3 p.Treaties/\zr3 p.Reports:=⟨zr4 h.l4 (by omega),zr4 h.t5 (by omega),zr4 h.r5 (by omega)⟩
theorem zAi{p:Pg}(h:VP p):ztE p=some 0:=by
 obtain⟨h1,h2,h3⟩:=zAh h;rw[zyV h1 h2 h3,zyC.2 h]
theorem zAj{p:Pg}{L:List Int}(h:VP p):Ev (ztG p L) (inL p.Losses L):=by
 have h4:=h.l4;unfold ztG
 by_cases hl:(L.length:Int)=p.Losses.length
 ·rw[if_pos hl];refine(Ev.loop (n:=p.Losses.length) (F:=fun d x=>ztF p L d x) (ok:=fun j=>∀r x,p.Losses[j]? = some r->L[j]? = some x->r.Lo<=x/\x<=r.Hi) (fin:=some true) (P:=True) (fun d k hk=>?_) (fun d=>?_) (by omega) (fun _=>Ev.tt trivial)).imp ?_
  ·have hg:=List.getElem?_eq_getElem hk;have hg2:=List.getElem?_eq_getElem (show k < L.length by omega)
   show(_->ztF p L (d+1) (k:Int)=_)/\(_->ztF p L (d+1) (k:Int)=_)
   rw[ztF,if_pos (by omega),zrT hg,obs,zrT hg2,obs];refine(zyD.imp ⟨fun h r x h1 h2=>?_,fun h=>h _ _ hg hg2⟩).step (by rw[if_pos rfl,zqs (fI (by omega))]) (by rw[if_neg (by decide)])
   rw[hg] at h1; rw[hg2] at h2; cases h1; cases h2; exact h
  ·show ztF p L (d+1) _=_
   rw[ztF,if_neg (Int.lt_irrefl _)]
  ·exact⟨fun h=>zzD (by omega) fun i r x h1 h2=>h.1 i (List.getElem?_eq_some_iff.1 h1).1 r x h1 h2,fun h=>⟨fun j _ r x h1 h2=>zzC h h1 h2,trivial⟩⟩
 ·rw[if_neg hl]; exact Ev.ff fun h=>hl (by rw[zzB h])
def lN(n:Nat)(f:Nat->Int):List Int:=(l5 f).take n
theorem zAk{n:Nat}(h:n<=5)(f:Nat->Int):(lN n f).length=n:=by unfold lN; rw[List.length_take]; show min n 5=n; omega
theorem zAl{n:Nat}(h:n<=5)(f:Nat->Int){k:Nat}(hk:k < n):(lN n f)[k]? = some (f k):=by unfold lN; rw[List.getElem?_take,if_pos hk,zyn (by omega)]
theorem zAm{p:Pg}(h:VP p){L:List Int}(hL:inL p.Losses L):zt5 p L=some (lN p.Treaties.length (zzo p.Treaties L).pays,(zzo p.Treaties L).soc,0):=by
 have h4:=h.l4;have h5:=h.t5;obtain⟨M',q1,_⟩:=zzA h (zzE hL h.ls) (by rw[zzB hL]; omega) (zzx.nil p);unfold zt5;rw[zAi h,obs,if_pos rfl,(zAj h).some_of hL,obs,if_pos rfl,zyH,obs]
 show((ztW (wkP p _) L).bind _)=_
 rw[q1,obs,zqs (by omega),Int.toNat_natCast,show Int.toNat (0:Int)=0 from rfl,List.drop_zero]
 show((zt2 (lN p.Treaties.length (zzo p.Treaties L).pays)).bind _)=_
 unfold zt2;rw[zqs (by rw[zAk h5]; simp only[List.length_nil]; omega)]
 rfl
theorem zAn{p:Pg}(h:VP p)(hc:zz6 p p.Reports):zub p=some (zzQ p (zzI p),0):=by
 unfold zub;rw[zAi h,obs,if_pos rfl,zzW h,obs]
 show((zt8 (zzQ p (zzI p)) p.Reports).bind _)=_
 rw[(zz7 h h.rsOk (zAh h).2.2).some_of hc]; rfl
structure zAo (p:Pg) (bs:List Bd):Prop where
 len:bs.length=p.Treaties.length
 at':∀(k:Nat) (b:Bd),bs[k]? = some b->IsB (TrS p p.Reports) (fun L=>(zzo p.Treaties L).pays k) b.Pays/\IsB (TrS p p.Reports) (fun L=>(zzo p.Treaties L).keeps k) b.Keeps
theorem zAo.uniq{p:Pg}{bs bs':List Bd}(h:zAo p bs)(h':zAo p bs'):bs=bs':=by
 refine List.ext_getElem? fun k=>?_
 cases hb:bs[k]? with
 | none=>
  rw[List.getElem?_eq_none_iff] at hb;rw[List.getElem?_eq_none (by rw[h'.len,<- h.len]; exact hb)]
 | some b=>
  have hk:=(List.getElem?_eq_some_iff.1 hb).1;have hb':=List.getElem?_eq_getElem (show k < bs'.length by rw[h'.len,<- h.len]; exact hk);rw[hb'];obtain⟨q1,q2⟩:=h.at' k b hb;obtain⟨q3,q4⟩:=h'.at' k _ hb';have e1:=q1.uniq q3;have e2:=q2.uniq q4;generalize bs'[k]'(by rw[h'.len,<- h.len]; exact hk)=b' at e1 e2
  cases b; cases b'
  simp only at e1 e2
  rw[e1,e2]
theorem zAp{p:Pg}(h:VP p)(hc:zz6 p p.Reports):∃bs,zuf p=some (bs,0)/\zAo p bs:=by
 have h5:=h.t5
 have hx:∀k:Nat,k < p.Treaties.length->∃b:Bd,(∀L,inL p.Losses L->True)/\zua (zzQ p (zzI p)) (fun a=>zuc a (k:Int))=some b.Pays/\zua (zzQ p (zzI p)) (fun a=>zud a (k:Int))=some b.Keeps/\IsB (TrS p p.Reports) (fun L=>(zzo p.Treaties L).pays k) b.Pays/\IsB (TrS p p.Reports) (fun L=>(zzo p.Treaties L).keeps k) b.Keeps:=fun k hk=>by
  obtain⟨r1,a1,a2⟩:=zAg h (number:=fun a=>zuc a (k:Int)) (g:=fun o=>(idx ([o.pays.p0,o.pays.p1,o.pays.p2,o.pays.p3,o.pays.p4]:List Int) (k:Int)).getD 0) (fun L _=>by
   show((idx (l5 (zzo p.Treaties L).pays) (k:Int)).bind fun v=>some v)=some ((idx (l5 (zzo p.Treaties L).pays) (k:Int)).getD 0)
   rw[zyo (by omega)]; rfl) hc
  obtain⟨r2,b1,b2⟩:=zAg h (number:=fun a=>zud a (k:Int)) (g:=fun o=>(idx ([o.keeps.p0,o.keeps.p1,o.keeps.p2,o.keeps.p3,o.keeps.p4]:List Int) (k:Int)).getD 0) (fun L _=>by
   show((idx (l5 (zzo p.Treaties L).keeps) (k:Int)).bind fun v=>some v)=some ((idx (l5 (zzo p.Treaties L).keeps) (k:Int)).getD 0)
   rw[zyo (by omega)]; rfl) hc
  refine⟨⟨r1,r2⟩,fun _ _=>trivial,a1,b1,a2.congr (fun _=>Iff.rfl) fun L _=>?_,b2.congr (fun _=>Iff.rfl) fun L _=>?_⟩
  ·show(idx (l5 (zzo p.Treaties L).pays) (k:Int)).getD 0=_
   rw[zyo (by omega)]; rfl
  ·show(idx (l5 (zzo p.Treaties L).keeps) (k:Int)).getD 0=_
   rw[zyo (by omega)]; rfl
 unfold zuf;rw[zAn h hc,obs,if_pos rfl]
 have key:∀(d k:Nat) (acc:List Bd),k<=p.Treaties.length->p.Treaties.length - k < d->acc.length=k->(∀(j:Nat) (b:Bd),acc[j]? = some b->IsB (TrS p p.Reports) (fun L=>(zzo p.Treaties L).pays j) b.Pays/\IsB (TrS p p.Reports) (fun L=>(zzo p.Treaties L).keeps j) b.Keeps) ->
   ∃bs,zue p (zzQ p (zzI p),0) d acc (k:Int)=some (bs,0)/\zAo p bs:=by
  intro d
  induction d with
  | zero=>intro k acc _ h _ _; omega
  | succ d ih=>
   intro k acc hk hd hl hacc;rw[zue]
   by_cases hkl:k < p.Treaties.length
   ·obtain⟨b,_,b1,b2,b3,b4⟩:=hx k hkl;rw[if_pos (by omega)]
    show ∃bs,((zua (zzQ p (zzI p)) fun a=>zuc a (k:Int)).bind _)=_/\_
    rw[b1,obs]
    show ∃bs,((zua (zzQ p (zzI p)) fun a=>zud a (k:Int)).bind _)=_/\_
    rw[b2,obs,zqs (by omega),zqs (fI (by omega)),show(k:Int)+1=((k+1:Nat):Int) by omega];refine ih (k+1) _ (by omega) (by omega) (by rw[List.length_append,hl]; rfl) fun j b' hb'=>?_
    by_cases hj:j < acc.length
    ·rw[List.getElem?_append_left hj] at hb'; exact hacc j b' hb'
    ·rw[List.getElem?_append_right (by omega)] at hb'
     have hj2:j=k:=by
      have:=(List.getElem?_eq_some_iff.1 hb').1
      simp only[List.length_cons,List.length_nil] at this
      omega
     subst hj2;rw[show j - acc.length=0 by omega] at hb'
     cases hb'
     exact⟨b3,b4⟩
   ·rw[if_neg (by omega)];exact⟨acc,rfl,by omega,hacc⟩
 exact key (p.Treaties.length+1) 0 [] (Nat.zero_le _) (by omega) rfl fun j b hb=>by cases hb
theorem zAq{p:Pg}(h:VP p)(hc:zz6 p p.Reports):∃r,zug p=some (r,0)/\IsB (TrS p p.Reports) (fun L=>(zzo p.Treaties L).soc) r:=by
 obtain⟨r,a1,a2⟩:=zAg h (number:=fun a=>ztP a) (g:=fun o=>o.society) (fun L _=>rfl) hc;refine⟨r,?_,a2⟩;unfold zug;rw[zAn h hc,obs,if_pos rfl]
 show((zua (zzQ p (zzI p)) fun a=>ztP a).bind _)=_
 rw[a1]; rfl
end
end Go.Proofs.YtkcmdghjgoaggaaGreat

namespace Go.Proofs.YtkcmdghjgoaggaaGreat
open _root_.Go.Proofs.Tryz
open Go.Abs
set_option maxRecDepth 100000
noncomputable section
theorem zAr{n:Nat}(h:n<=5)(f:Nat->Int){k:Nat}(hk:k < n):idx (lN n f) (k:Int)=some (f k):=zrT (zAl h f hk)
theorem zAs{n:Nat}(h:n<=5)(f:Nat->Int){i:Int}(h0:0<=i)(hk:i < n):idx (lN n f) i=some (f i.toNat):=by
 have:=zAr h f (k:=i.toNat) (by omega)
 rwa [show((i.toNat:Nat):Int)=i by omega] at this
theorem zAt{n:Nat}(h:n<=5){l:List Int}{f:Nat->Int}(hl:l.length=n)(ha:∀k,k < n->l[k]? = some (f k)):l=lN n f:=by
 refine List.ext_getElem? fun k=>?_
 by_cases hk:k < n
 ·rw[ha k hk,zAl h f hk]
 ·rw[List.getElem?_eq_none (by omega),List.getElem?_eq_none (by rw[zAk h]; omega)]
theorem zAu{n:Nat}(h:n<=5)(f:Nat->Int){k:Nat}(hk:k < n)(a:Int):(lN n f).set k a=lN n (upF f k a):=by
 refine zAt h (by rw[List.length_set,zAk h]) fun j hj=>?_
 by_cases hjk:j=k
 ·subst hjk; rw[List.getElem?_set_self (by rw[zAk h]; exact hj),zyr]
 ·rw[List.getElem?_set_ne (Ne.symm hjk),zAl h f hj,zys _ _ hjk]
theorem zAv{n:Nat}(h:n<=5):List.replicate n (0:Int)=lN n fun _=>0:=zAt h (List.length_replicate ..) fun k hk=>by rw[List.getElem?_replicate,if_pos hk]
theorem zAw{n:Nat}(h:n<=5){f g:Nat->Int}(hfg:∀k,k < n->f k=g k):lN n f=lN n g:=zAt h (zAk h f) fun k hk=>by rw[zAl h f hk,hfg k hk]
def a1(ts:List Ty)(th:Nat->Bool)(P:Nat->Int)(x:Int):Nat->(Nat->Int) × Int
 | 0=>(fun _=>0,x)
 | k+1=>match ts[k]? with
  | some t=>if t.Of < 0/\th k=true then (upF (a1 ts th P x k).1 k (zy8 t (a1 ts th P x k).2 (P k)),(a1 ts th P x k).2 - zy8 t (a1 ts th P x k).2 (P k)) else a1 ts th P x k
  | none=>a1 ts th P x k
theorem zAx{ts:List Ty}{th:Nat->Bool}{P:Nat->Int}{x:Int}{k:Nat}{t:Ty}(h:ts[k]? = some t):a1 ts th P x (k+1)=if t.Of < 0/\th k=true then (upF (a1 ts th P x k).1 k (zy8 t (a1 ts th P x k).2 (P k)),(a1 ts th P x k).2 - zy8 t (a1 ts th P x k).2 (P k)) else a1 ts th P x k:=by
 show(match ts[k]? with | some t=>_ | none=>_)=_
 rw[h]
def a2(ts:List Ty)(P:Nat->Int)(now:Nat->Int):Nat->(Nat->Int) × (Nat->Int)
 | 0=>(now,now)
 | k+1=>match ts[k]? with
  | some t=>if 0<=t.Of then (upF (a2 ts P now k).1 k (zy8 t ((a2 ts P now k).2 t.Of.toNat) (P k)),upF (upF (a2 ts P now k).2 k (zy8 t ((a2 ts P now k).2 t.Of.toNat) (P k))) t.Of.toNat ((a2 ts P now k).2 t.Of.toNat - zy8 t ((a2 ts P now k).2 t.Of.toNat) (P k))) else a2 ts P now k
  | none=>a2 ts P now k
theorem zAy{ts:List Ty}{P now:Nat->Int}{k:Nat}{t:Ty}(h:ts[k]? = some t):a2 ts P now (k+1)=if 0<=t.Of then (upF (a2 ts P now k).1 k (zy8 t ((a2 ts P now k).2 t.Of.toNat) (P k)),upF (upF (a2 ts P now k).2 k (zy8 t ((a2 ts P now k).2 t.Of.toNat) (P k))) t.Of.toNat ((a2 ts P now k).2 t.Of.toNat - zy8 t ((a2 ts P now k).2 t.Of.toNat) (P k))) else a2 ts P now k:=by
 show(match ts[k]? with | some t=>_ | none=>_)=_
 rw[h]
structure I1 (ts:List Ty) (P:Nat->Int) (x:Int) (s:(Nat->Int) × Int):Prop where
 left:0<=s.2/\s.2<=x
 now:∀j,0<=s.1 j/\s.1 j<=x
 cap:zzh ts fun j=>P j+s.1 j
theorem zAz{ts:List Ty}{th:Nat->Bool}(hts:zzi ts){P:Nat->Int}(hP:zzh ts P){x:Int}(hx:0<=x/\x<=100000):∀k,k<=ts.length->I1 ts P x (a1 ts th P x k)
 | 0,_=>⟨⟨hx.1,Int.le_refl _⟩,fun _=>⟨Int.le_refl _,hx.1⟩,fun j t ht h1=>by have:=hP j t ht h1; show P j+0<=_; omega⟩
 | k+1,hk=>by
  have ih:=zAz (th:=th) hts hP hx k (by omega);have hg:=List.getElem?_eq_getElem (show k < ts.length by omega);have hkd:=hts.k _ (List.getElem_mem (show k < ts.length by omega));rw[zAx hg];generalize a1 ts th P x k=s at ih ⊢;generalize ts[k]'(by omega)=t at hg hkd
  by_cases hc:t.Of < 0/\th k=true
  ·rw[if_pos hc];have hl:=ih.left;have hb:=zzb hkd (a:=s.2) (b:=P k) (by omega) (hP k t hg);refine⟨by show 0<=s.2 - _/\s.2 - _<=x; omega,fun j=>?_,fun j t' ht' h'=>?_⟩
   ·show 0<=upF s.1 k _ j/\upF s.1 k _ j<=x
    by_cases hjk:j=k
    ·subst hjk; rw[zyr]; omega
    ·rw[zys _ _ hjk]; exact ih.now j
   ·show P j+upF s.1 k _ j<=_
    by_cases hjk:j=k
    ·subst hjk; rw[hg] at ht'; cases ht'; rw[zyr]; exact hb.2.2 h'
    ·rw[zys _ _ hjk]; exact ih.cap j t' ht' h'
  ·rw[if_neg hc]; exact ih
structure I2 (ts:List Ty) (P:Nat->Int) (x:Int) (s:(Nat->Int) × (Nat->Int)):Prop where
 now:∀j,0<=s.1 j/\s.1 j<=x
 rest:∀j,0<=s.2 j/\s.2 j<=x
 cap:zzh ts fun j=>P j+s.1 j
theorem zAA{ts:List Ty}(hts:zzi ts){P now:Nat->Int}(hP:zzh ts P){x:Int}(hx:0<=x/\x<=100000)(hn:∀j,0<=now j/\now j<=x)(hc:zzh ts fun j=>P j+now j):∀k,k<=ts.length->I2 ts P x (a2 ts P now k)
 | 0,_=>⟨hn,hn,hc⟩
 | k+1,hk=>by
  have ih:=zAA hts hP hx hn hc k (by omega);have hg:=List.getElem?_eq_getElem (show k < ts.length by omega);have hkd:=hts.k _ (List.getElem_mem (show k < ts.length by omega));rw[zAy hg];generalize a2 ts P now k=s at ih ⊢;generalize ts[k]'(by omega)=t at hg hkd
  by_cases ho:0<=t.Of
  ·rw[if_pos ho];have hr:=ih.rest t.Of.toNat;have hb:=zzb hkd (a:=s.2 t.Of.toNat) (b:=P k) (by omega) (hP k t hg);refine⟨fun j=>?_,fun j=>?_,fun j t' ht' h'=>?_⟩
   ·show 0<=upF s.1 k _ j/\upF s.1 k _ j<=x
    by_cases hjk:j=k
    ·subst hjk; rw[zyr]; omega
    ·rw[zys _ _ hjk]; exact ih.now j
   ·show 0<=upF (upF s.2 k _) _ _ j/\upF (upF s.2 k _) _ _ j<=x
    by_cases hjo:j=t.Of.toNat
    ·subst hjo; rw[zyr]; omega
    ·rw[zys _ _ hjo]
     by_cases hjk:j=k
     ·subst hjk; rw[zyr]; omega
     ·rw[zys _ _ hjk]; exact ih.rest j
   ·show P j+upF s.1 k _ j<=_
    by_cases hjk:j=k
    ·subst hjk; rw[hg] at ht'; cases ht'; rw[zyr]; exact hb.2.2 h'
    ·rw[zys _ _ hjk]; exact ih.cap j t' ht' h'
  ·rw[if_neg ho]; exact ih
def zAB(ts:List Ty)(th:Nat->Bool)(s:(Nat->Int) × Int)(x:Int):(Nat->Int) × Int:=
 (fun j=>s.1 j+(a2 ts s.1 (a1 ts th s.1 x ts.length).1 ts.length).1 j,s.2+(a1 ts th s.1 x ts.length).2)
def zAC(ts:List Ty)(th:Nat->Bool)(L:List Int):(Nat->Int) × Int:=L.foldl (zAB ts th) (fun _=>0,0)
structure RI (ts:List Ty) (B:Int) (s:(Nat->Int) × Int):Prop where
 net:0<=s.2/\s.2<=B
 pays:∀j,0<=s.1 j/\s.1 j<=B
 cap:zzh ts s.1
theorem RI.step{ts:List Ty}{th:Nat->Bool}(hts:zzi ts){B:Int}{s:(Nat->Int) × Int}(h:RI ts B s){x:Int}(hx:0<=x/\x<=100000):RI ts (B+x) (zAB ts th s x):=by
 have h1:=zAz (th:=th) hts h.cap hx ts.length (Nat.le_refl _);have h2:=zAA hts h.cap hx h1.now h1.cap ts.length (Nat.le_refl _);refine⟨?_,fun j=>?_,h2.cap⟩
 ·have:=h.net; have:=h1.left; show 0<=s.2+_/\s.2+_<=_; omega
 ·have:=h.pays j; have:=h2.now j; show 0<=s.1 j+_/\s.1 j+_<=_; omega
theorem wu{n:Nat}(h:n<=64):zmc .u64 (n:Int)=(n:Int):=wz (show(0:Int)<=n/\(n:Int) < 18446744073709551616 by omega)
theorem zAD(B k:Nat):(B:Int) / 2 ^ k % 2=((B / 2 ^ k % 2:Nat):Int):=by rw[zx6]; rfl
theorem zAE{B k:Nat}:(B:Int) / 2 ^ k % 2=1↔B.testBit k=true:=by
 rw[zAD,Nat.testBit_eq_decide_div_mod_eq,decide_eq_true_eq]; omega
section
variable {p:Pg} (h:VP p)
theorem zAF(h:VP p){x6 x7 x16:Int}{now:Nat->Int}{K:Int->Int->List Int->Option (List Int × Int)}{P:Nat->Int}(hP:∀j,0<=P j/\P j<=100000)(hn:∀j,0<=now j/\now j<=100000)(hx:0<=x7/\x7<=100000):zsK p x6 x7 x16 (lN p.Treaties.length now) K 1000000 0 (lN p.Treaties.length P)=K (x6+x16) (x7+1) (lN p.Treaties.length fun j=>P j+now j):=by
 have h5:=h.t5
 let st:Nat->List Int:=fun k=>lN p.Treaties.length fun j=>if j < k then P j+now j else P j
 have key:=zym (n:=p.Treaties.length) (fun d (s:List Int) y=>zsK p x6 x7 x16 (lN p.Treaties.length now) K d y s) st (fin:=K (x6+x16) (x7+1) (lN p.Treaties.length fun j=>P j+now j)) (fun d k hk=>?_) (fun d=>?_) 1000000 0 (by omega) (by omega)
 ·exact key
 ·have h1:=hP k;have h2:=hn k
  show zsK p x6 x7 x16 (lN p.Treaties.length now) K (d+1) (k:Int) (lN p.Treaties.length fun j=>if j < k then P j+now j else P j)=_
  rw[zsK,if_pos (by omega),zAr h5 _ hk,obs,zAr h5 _ hk,obs,if_neg (by omega),zqs (fI (by omega)),obs,zqs (fI (by omega)),Int.toNat_natCast,zAu h5 _ hk]
  have e:(lN p.Treaties.length (upF (fun j=>if j < k then P j+now j else P j) k (P k+now k)))=st (k+1):=zAw h5 fun j hj=>by
   by_cases hjk:j=k
   ·subst hjk; rw[zyr,if_pos (by omega)]
   ·rw[zys _ _ hjk]
    by_cases h3:j < k
    ·rw[if_pos h3,if_pos (by omega)]
    ·rw[if_neg h3,if_neg (by omega)]
  rw[e]
 ·show zsK p x6 x7 x16 (lN p.Treaties.length now) K (d+1) (p.Treaties.length:Int) (lN p.Treaties.length fun j=>if j < p.Treaties.length then P j+now j else P j)=_
  rw[zsK,if_neg (by omega),zqs (fI (by omega))]
  have e:(lN p.Treaties.length fun j=>if j < p.Treaties.length then P j+now j else P j)=lN p.Treaties.length fun j=>P j+now j:=zAw h5 fun j hj=>by rw[if_pos hj]
  rw[e]
theorem zAG(h:VP p){x6 x7 x16:Int}{K:Int->Int->List Int->Option (List Int × Int)}{P now:Nat->Int}(hP:∀j,0<=P j/\P j<=100000)(hcap:zzh p.Treaties P){x:Int}(hx:0<=x/\x<=1000)(hn:∀j,0<=now j/\now j<=x)(hcn:zzh p.Treaties fun j=>P j+now j)(hx7:0<=x7/\x7<=100000) :
  zsL p x6 x7 x16 K 1000000 0 (lN p.Treaties.length P) (lN p.Treaties.length now) (lN p.Treaties.length now)=K (x6+x16) (x7+1) (lN p.Treaties.length fun j=>P j+(a2 p.Treaties P now p.Treaties.length).1 j):=by
 have h5:=h.t5;have key:=zym (n:=p.Treaties.length) (fun d (s:(Nat->Int) × (Nat->Int)) y=>zsL p x6 x7 x16 K d y (lN p.Treaties.length P) (lN p.Treaties.length s.1) (lN p.Treaties.length s.2)) (fun k=>a2 p.Treaties P now k) (fin:=K (x6+x16) (x7+1) (lN p.Treaties.length fun j=>P j+(a2 p.Treaties P now p.Treaties.length).1 j)) (fun d k hk=>?_) (fun d=>?_) 1000000 0 (by omega) (by omega)
 ·exact key
 ·have hg:=List.getElem?_eq_getElem hk;have hkd:=h.tsOk.k _ (List.getElem_mem hk);have hof:=h.of' k _ hg;have ih:=zAA h.tsOk hcap (x:=x) (by omega) hn hcn k (by omega);rw[zAy hg];generalize a2 p.Treaties P now k=s at ih ⊢;rw[zsL,if_pos (by omega),zrT hg,obs];generalize p.Treaties[k]=t at hg hkd hof
  by_cases ho:0<=t.Of
  ·have hr:=ih.rest t.Of.toNat;have hb:=zzb hkd (a:=s.2 t.Of.toNat) (b:=P k) (by omega) (hcap k t hg);have hPk:=hP k;have htk:=zze hkd (a:=s.2 t.Of.toNat) (b:=P k) (by omega) (by omega)
   have hne:t.Of.toNat ≠ k:=by omega
   have hoo:((t.Of.toNat:Nat):Int)=t.Of:=by omega
   rw[if_pos ho,if_pos ho,zAs h5 _ ho (by omega),obs,zAr h5 _ hk,obs,htk,obs,zAr h5 _ hk,obs,Int.toNat_natCast,zAu h5 _ hk,zAr h5 _ hk,obs,zyr,zAr h5 _ hk,obs,zAu h5 _ hk,zAs h5 _ ho (by omega),obs,zys _ _ hne,obs,zqs (fI (by omega)),obs,zqs (fI (by omega)),zAu h5 _ (show t.Of.toNat < p.Treaties.length by omega)]
  ·rw[if_neg ho,if_neg ho,zqs (fI (by omega))]
 ·have i2:=zAA h.tsOk hcap (x:=x) (by omega) hn hcn p.Treaties.length (Nat.le_refl _);rw[zsL,if_neg (by omega)];exact zAF h hP (fun j=>by have:=i2.now j; omega) hx7
theorem zAH(h:VP p){b:Nat}(hb:b < 1000000){x6 x7:Int}{K:Int->Int->List Int->Option (List Int × Int)}{P:Nat->Int}(hP:∀j,0<=P j/\P j<=100000)(hcap:zzh p.Treaties P){x:Int}(hx:0<=x/\x<=1000)(hx6:0<=x6/\x6<=100000)(hx7:0<=x7/\x7<=100000) :
  zsM p (b:Int) x6 x7 K 1000000 x 0 (lN p.Treaties.length P) (List.replicate (Int.toNat (p.Treaties.length:Int)) 0)=K (x6+(a1 p.Treaties (fun k=>b.testBit k) P x p.Treaties.length).2) (x7+1) (lN p.Treaties.length fun j=>P j+(a2 p.Treaties P (a1 p.Treaties (fun k=>b.testBit k) P x p.Treaties.length).1 p.Treaties.length).1 j):=by
 have h5:=h.t5;rw[Int.toNat_natCast,zAv h5];have key:=zym (n:=p.Treaties.length) (fun d (s:(Nat->Int) × Int) y=>zsM p (b:Int) x6 x7 K d s.2 y (lN p.Treaties.length P) (lN p.Treaties.length s.1)) (fun k=>a1 p.Treaties (fun k=>b.testBit k) P x k) (fin:=K (x6+(a1 p.Treaties (fun k=>b.testBit k) P x p.Treaties.length).2) (x7+1) (lN p.Treaties.length fun j=>P j+(a2 p.Treaties P (a1 p.Treaties (fun k=>b.testBit k) P x p.Treaties.length).1 p.Treaties.length).1 j)) (fun d k hk=>?_) (fun d=>?_) 1000000 0 (by omega) (by omega)
 ·exact key
 ·have hg:=List.getElem?_eq_getElem hk;have hkd:=h.tsOk.k _ (List.getElem_mem hk);have hof:=h.of' k _ hg;have ih:=zAz (th:=fun k=>b.testBit k) h.tsOk hcap (x:=x) (by omega) k (by omega);rw[zAx hg];generalize a1 p.Treaties (fun k=>b.testBit k) P x k=s at ih ⊢;rw[zsM,if_pos (by omega),zrT hg,obs];generalize p.Treaties[k]=t at hg hkd hof
  by_cases ho:t.Of < 0
  ·have hdv:(0:Int)<=(b:Int) / 2 ^ k/\(b:Int) / 2 ^ k<=1000000:=by
    have hq0:=Nat.div_le_self b (2 ^ k);rw[zx6];generalize b / 2 ^ k=q at hq0
    omega
   rw[if_pos ho,zqs (by omega),wu (show k<=64 by omega),zqs (by omega),zqs (by omega),Int.toNat_natCast,zqs (fI (by omega)),zqs hdv.1,zqs (by omega),zqs (fI (by omega))]
   by_cases hbt:b.testBit k=true
   ·have hl:=ih.left;have hbd:=zzb hkd (a:=s.2) (b:=P k) (by omega) (hcap k t hg);have hPk:=hP k;have htk:=zze hkd (a:=s.2) (b:=P k) (by omega) (by omega);rw[if_pos (zAE.2 hbt),if_pos ⟨ho,hbt⟩,zAr h5 _ hk,obs,htk,obs,zAr h5 _ hk,obs,zAu h5 _ hk,zAr h5 _ hk,obs,zyr,zqs (fI (by omega)),zqs (fI (by omega))]
   ·rw[if_neg fun hc=>hbt (zAE.1 hc),if_neg fun hc=>hbt hc.2,zqs (fI (by omega))]
  ·rw[if_neg ho,if_neg fun hc=>ho hc.1,zqs (fI (by omega))]
 ·have i1:=zAz (th:=fun k=>b.testBit k) h.tsOk hcap (x:=x) (by omega) p.Treaties.length (Nat.le_refl _);have hl:=i1.left;rw[zsM,if_neg (by omega),zqs (fI (by omega)),zqs (by rw[zAk h5]; simp only[List.length_nil]; omega),List.nil_append];exact zAG h hP hcap hx i1.now i1.cap hx7
theorem zAI(h:VP p){b:Nat}(hb:b < 1000000){L:List Int}(hL:∀x∈L,0<=x/\x<=1000)(hl:L.length<=9):∀(d k:Nat) (s:(Nat->Int) × Int),k<=L.length->L.length - k < d->RI p.Treaties (1000 * k) s ->
  zsN p L (b:Int) d s.2 (k:Int) (lN p.Treaties.length s.1)=some (lN p.Treaties.length ((L.drop k).foldl (zAB p.Treaties fun k=>b.testBit k) s).1,((L.drop k).foldl (zAB p.Treaties fun k=>b.testBit k) s).2)
 | 0,_,_,_,hd,_=>by omega
 | d+1,k,s,hk,hd,hs=>by
  have h5:=h.t5;rw[zsN]
  by_cases hkl:k < L.length
  ·have hg:=List.getElem?_eq_getElem hkl;have hx:=hL _ (List.getElem_mem hkl);have hn:=hs.net;rw[if_pos (by omega),zrT hg,obs,zqs (by omega),zAH h hb (fun j=>by have:=hs.pays j; omega) hs.cap hx (by omega) (by omega),show(k:Int)+1=((k+1:Nat):Int) by omega,List.drop_eq_getElem_cons hkl];have hs':=hs.step (th:=fun k=>b.testBit k) h.tsOk (x:=L[k]) (by omega);exact zAI h hb hL hl d (k+1) (zAB p.Treaties (fun k=>b.testBit k) s L[k]) (by omega) (by omega) ⟨by have:=hs'.net; omega,fun j=>by have:=hs'.pays j; omega,hs'.cap⟩
  ·rw[if_neg (by omega),List.drop_eq_nil_of_le (by omega)]
   rfl
theorem zAJ(h:VP p){b:Nat}(hb:b < 1000000){L:List Int}(hL:∀x∈L,0<=x/\x<=1000)(hl:L.length<=9):zsO p L (b:Int)=some (lN p.Treaties.length (zAC p.Treaties (fun k=>b.testBit k) L).1,(zAC p.Treaties (fun k=>b.testBit k) L).2):=by
 have h5:=h.t5;unfold zsO;rw[zqs (by omega),Int.toNat_natCast,zAv h5];exact zAI h hb hL hl (L.length+1) 0 (fun _=>0,0) (Nat.zero_le _) (by omega) ⟨⟨Int.le_refl _,Int.le_refl _⟩,fun _=>⟨Int.le_refl _,Int.le_refl _⟩,zzp h.tsOk⟩
end
def ofB(ts:List Ty)(j:Nat):Bool:=match ts[j]? with | some t=>decide (t.Of < 0) | none=>false
theorem zAK{ts:List Ty}{j:Nat}{t:Ty}(h:ts[j]? = some t):ofB ts j=decide (t.Of < 0):=by unfold ofB; rw[h]
theorem zAL{ts:List Ty}{P:Nat->Int}{x:Int}{j:Nat}:∀{k i:Nat},j < k->k<=i->(dN ts P x i).pays j=(dN ts P x k).pays j:=fun {k i} hj hk=>by
 obtain⟨e,rfl⟩:∃e,i=k+e:=⟨i - k,by omega⟩
 clear hk
 induction e with
 | zero=>rfl
 | succ e ih=>
  rw[<- ih]
  show(match ts[k+e]? with | some t=>zzf t (k+e) P (dN ts P x (k+e)) | none=>dN ts P x (k+e)).pays j=_
  cases ts[k+e]? with
  | none=>rfl
  | some t=>
   show(zzf t (k+e) P (dN ts P x (k+e))).pays j=_
   unfold zzf
   split
   ·exact zys _ _ (by omega)
   ·exact zys _ _ (by omega)
theorem zAM{ts:List Ty}(hts:zzi ts){th:Nat->Bool}(hth:∀j,j < ts.length->th j=true){P:Nat->Int}{x:Int}:∀k,k<=ts.length->(a1 ts th P x k).2=(dN ts P x k).soc/\∀j,(a1 ts th P x k).1 j=if j < k/\ofB ts j=true then (dN ts P x k).pays j else 0
 | 0,_=>⟨rfl,fun j=>by rw[if_neg (by omega)]; rfl⟩
 | k+1,hk=>by
  obtain⟨i1,i2⟩:=zAM hts hth (P:=P) (x:=x) k (by omega);have hg:=List.getElem?_eq_getElem (show k < ts.length by omega);have hof:=hts.o k _ hg;rw[zAx hg,zzg hg];have hfk:=zAK hg;generalize ts[k]'(by omega)=t at hg hof hfk;unfold zzf
  by_cases ho:t.Of < 0
  ·rw[if_pos ⟨ho,hth k (by omega)⟩,if_pos (show t.Of = -1 by omega),i1];refine⟨rfl,fun j=>?_⟩
   show upF (a1 ts th P x k).1 k _ j=if _ then upF (dN ts P x k).pays k _ j else 0
   by_cases hjk:j=k
   ·subst hjk; rw[zyr,zyr,if_pos ⟨by omega,by rw[hfk]; exact decide_eq_true ho⟩]
   ·rw[zys _ _ hjk,zys _ _ hjk,i2]
    by_cases hj:j < k/\ofB ts j=true
    ·rw[if_pos hj,if_pos ⟨by omega,hj.2⟩]
    ·rw[if_neg hj,if_neg fun h=>hj ⟨by omega,h.2⟩]
  ·rw[if_neg fun h=>ho h.1,if_neg (show ¬ t.Of = -1 by omega)];refine⟨i1,fun j=>?_⟩
   show(a1 ts th P x k).1 j=if _ then upF (dN ts P x k).pays k _ j else 0
   by_cases hjk:j=k
   ·subst hjk;rw[i2,if_neg (by omega),if_neg fun h=>ho (by rw[hfk] at h; exact of_decide_eq_true h.2)]
   ·rw[zys _ _ hjk,i2]
    by_cases hj:j < k/\ofB ts j=true
    ·rw[if_pos hj,if_pos ⟨by omega,hj.2⟩]
    ·rw[if_neg hj,if_neg fun h=>hj ⟨by omega,h.2⟩]
theorem zAN{ts:List Ty}(hts:zzi ts){P now:Nat->Int}{x:Int}(hn:∀j,now j=if j < ts.length/\ofB ts j=true then (dN ts P x ts.length).pays j else 0):∀k,k<=ts.length->(∀j,(a2 ts P now k).1 j=if j < k then (dN ts P x k).pays j else now j)/\∀j,(a2 ts P now k).2 j=if j < k then (dN ts P x k).keeps j else now j
 | 0,_=>⟨fun j=>by rw[if_neg (by omega)]; rfl,fun j=>by rw[if_neg (by omega)]; rfl⟩
 | k+1,hk=>by
  obtain⟨i1,i2⟩:=zAN hts hn k (by omega);have hg:=List.getElem?_eq_getElem (show k < ts.length by omega);have hof:=hts.o k _ hg;have hst:(dN ts P x ts.length).pays k=(dN ts P x (k+1)).pays k:=zAL (by omega) (by omega);rw[zzg hg] at hst;rw[zAy hg,zzg hg];have hfk:=zAK hg;have hnk:=hn k;generalize ts[k]'(by omega)=t at hg hof hfk hst
  by_cases ho:0<=t.Of
  ·have hne:t.Of.toNat ≠ k:=by omega
   have hlt:t.Of.toNat < k:=by omega
   have er:(a2 ts P now k).2 t.Of.toNat=(dN ts P x k).keeps t.Of.toNat:=by rw[i2,if_pos hlt]
   unfold zzf;rw[if_pos ho,if_neg (show ¬ t.Of = -1 by omega),er];refine⟨fun j=>?_,fun j=>?_⟩
   ·show upF (a2 ts P now k).1 k _ j=if j < k+1 then upF (dN ts P x k).pays k _ j else now j
    by_cases hjk:j=k
    ·subst hjk; rw[zyr,zyr,if_pos (by omega)]
    ·rw[zys _ _ hjk,zys _ _ hjk,i1]
     by_cases hj:j < k
     ·rw[if_pos hj,if_pos (by omega)]
     ·rw[if_neg hj,if_neg (by omega)]
   ·show upF (upF (a2 ts P now k).2 k _) _ _ j=if j < k+1 then upF (upF (dN ts P x k).keeps _ _) k _ j else now j
    by_cases hjk:j=k
    ·subst hjk; rw[zys _ _ (Ne.symm hne),zyr,zyr,if_pos (by omega)]
    ·rw[zys _ (zy8 t _ _) hjk]
     by_cases hjo:j=t.Of.toNat
     ·subst hjo; rw[zyr,zyr,if_pos (by omega)]
     ·rw[zys _ _ hjo,zys _ _ hjo,zys _ _ hjk,i2]
      by_cases hj:j < k
      ·rw[if_pos hj,if_pos (by omega)]
      ·rw[if_neg hj,if_neg (by omega)]
  ·rw[if_neg ho]
   have hfk':ofB ts k=true:=by rw[hfk]; exact decide_eq_true (by omega)
   rw[if_pos ⟨by omega,hfk'⟩,hst] at hnk;unfold zzf at hnk ⊢;rw[if_pos (show t.Of = -1 by omega)] at hnk ⊢;have hnk:now k=upF (dN ts P x k).pays k (zy8 t (dN ts P x k).soc (P k)) k:=hnk;rw[zyr] at hnk;refine⟨fun j=>?_,fun j=>?_⟩
   ·show(a2 ts P now k).1 j=if j < k+1 then upF (dN ts P x k).pays k _ j else now j
    by_cases hjk:j=k
    ·subst hjk; rw[zyr,if_pos (by omega),i1,if_neg (by omega)]; exact hnk
    ·rw[zys _ _ hjk,i1]
     by_cases hj:j < k
     ·rw[if_pos hj,if_pos (by omega)]
     ·rw[if_neg hj,if_neg (by omega)]
   ·show(a2 ts P now k).2 j=if j < k+1 then upF (dN ts P x k).keeps k _ j else now j
    by_cases hjk:j=k
    ·subst hjk; rw[zyr,if_pos (by omega),i2,if_neg (by omega)]; exact hnk
    ·rw[zys _ _ hjk,i2]
     by_cases hj:j < k
     ·rw[if_pos hj,if_pos (by omega)]
     ·rw[if_neg hj,if_neg (by omega)]
theorem zAO{ts:List Ty}(hts:zzi ts){th:Nat->Bool}(hth:∀j,j < ts.length->th j=true):∀(L:List Int) (s:(Nat->Int) × Int) (o:DS),(∀j,s.1 j=o.pays j)->s.2=o.soc->(∀j,ts.length<=j->o.pays j=0) ->
  (∀j,(L.foldl (zAB ts th) s).1 j=(L.foldl (zzn ts) o).pays j)/\(L.foldl (zAB ts th) s).2=(L.foldl (zzn ts) o).soc
 | [],s,o,h1,h2,_=>⟨h1,h2⟩
 | x::L,s,o,h1,h2,h3=>by
  have hs1:s.1=o.pays:=funext h1;obtain⟨c1,c2⟩:=zAM hts hth (P:=o.pays) (x:=x) ts.length (Nat.le_refl _);obtain⟨c3,_⟩:=zAN hts (P:=o.pays) (x:=x) c2 ts.length (Nat.le_refl _)
  have hz:∀(k j:Nat),k<=ts.length->k<=j->(dN ts o.pays x k).pays j=0:=fun k=>by
   induction k with
   | zero=>intro j _ _; rfl
   | succ k ih=>
    intro j hk hj;have hg:=List.getElem?_eq_getElem (show k < ts.length by omega);rw[zzg hg];unfold zzf
    split
    ·show upF _ k _ j=0; rw[zys _ _ (by omega)]; exact ih j (by omega) (by omega)
    ·show upF _ k _ j=0; rw[zys _ _ (by omega)]; exact ih j (by omega) (by omega)
  have e1:∀j,(zAB ts th s x).1 j=(zzn ts o x).pays j:=fun j=>by
   show s.1 j+(a2 ts s.1 (a1 ts th s.1 x ts.length).1 ts.length).1 j=o.pays j+(dN ts o.pays x ts.length).pays j
   rw[hs1,c3]
   by_cases hj:j < ts.length
   ·rw[if_pos hj]
   ·rw[if_neg hj,c2,if_neg fun h=>hj h.1,hz ts.length j (Nat.le_refl _) (by omega)]
  refine zAO hts hth L (zAB ts th s x) (zzn ts o x) e1 ?_ fun j hj=>?_
  ·show s.2+(a1 ts th s.1 x ts.length).2=o.soc+(dN ts o.pays x ts.length).soc
   rw[hs1,c1,h2]
  ·show o.pays j+(dN ts o.pays x ts.length).pays j=0
   rw[h3 j hj,hz ts.length j (Nat.le_refl _) hj]; rfl
theorem zAP{ts:List Ty}(hts:zzi ts){th:Nat->Bool}(hth:∀j,j < ts.length->th j=true)(L:List Int):(∀j,(zAC ts th L).1 j=(zzo ts L).pays j)/\(zAC ts th L).2=(zzo ts L).soc:=
 zAO hts hth L _ _ (fun _=>rfl) rfl fun _ _=>rfl
end
end Go.Proofs.YtkcmdghjgoaggaaGreat

namespace Go.Proofs.YtkcmdghjgoaggaaGreat
open _root_.Go.Proofs.Tryz
open Go.Abs
set_option maxRecDepth 100000
noncomputable section
def zAQ(n:Nat):List Int:=(List.range n).map fun j=>((j:Nat):Int)
theorem zAR(n:Nat):Inc n 0 (zAQ n):=by
 refine⟨?_,fun v hv=>?_⟩
 ·unfold zAQ;rw[List.pairwise_map]
  exact List.pairwise_lt_range.imp fun h=>by omega
 ·obtain⟨j,hj,rfl⟩:=List.mem_map.1 hv;have:=List.mem_range.1 hj
  omega
theorem zAS{n j:Nat}(h:j < n):inD (zAQ n) j=true:=decide_eq_true (List.mem_map.2 ⟨j,List.mem_range.2 h,rfl⟩)
structure zAT (n:Nat) (P:(Nat->Bool)->Prop) (M:List Int):Prop where
 inc:Inc n 0 M
 ok:P (inD M)
 min:∀D,Inc n 0 D->P (inD D)->D=M\/shB M D=true
theorem zAT.uniq{n:Nat}{P:(Nat->Bool)->Prop}{M M':List Int}(h:zAT n P M)(h':zAT n P M'):M=M':=by
 rcases h.min M' h'.inc h'.ok with h1 | h1
 ·exact h1.symm
 ·rcases h'.min M h.inc h.ok with h2 | h2
  ·exact h2
  ·rw[zya h1] at h2; cases h2
def macc(S:Nat->Bool):Nat->Nat
 | 0=>0
 | i+1=>if S i=true then macc S i ||| 2 ^ i else macc S i
theorem zAU(S:Nat->Bool)(j:Nat):∀i,(macc S i).testBit j=(decide (j < i) && S j)
 | 0=>by simp[macc]
 | i+1=>by
  have ih:=zAU S j i;unfold macc
  by_cases hs:S i=true
  ·rw[if_pos hs,Nat.testBit_or,ih,Nat.testBit_two_pow]
   by_cases h:i=j
   ·subst h; simp[hs]
   ·have:decide (j < i+1)=decide (j < i):=decide_eq_decide.2 (by omega);rw[this]; simp[h]
  ·rw[if_neg hs,ih]
   by_cases h:i=j
   ·subst h
    have:S i=false:=by simpa using hs
    rw[this]; simp
   ·have:decide (j < i+1)=decide (j < i):=decide_eq_decide.2 (by omega);rw[this]
theorem zAV{i:Nat}(h:i<=6):2 ^ i<=64:=Nat.pow_le_pow_right (n:=2) (by omega) h
def zAW:List Rg->Int->List Int
 | [],_=>[]
 | r::rs,n=>(r.Lo+n % (r.Hi - r.Lo+1))::zAW rs (n / (r.Hi - r.Lo+1))
theorem zAX:∀{rs:List Rg} {n:Int},(∀r∈rs,r.Lo<=r.Hi)->0<=n->inL rs (zAW rs n)
 | [],_,_,_=>trivial
 | r::rs,n,h,h0=>by
  have hr:=h r (List.mem_cons_self ..);have h1:=Int.emod_nonneg n (show r.Hi - r.Lo+1 ≠ 0 by omega);have h2:=Int.emod_lt_of_pos n (show 0 < r.Hi - r.Lo+1 by omega);exact⟨⟨by omega,by omega⟩,zAX (fun r hr=>h r (List.mem_cons_of_mem _ hr)) (Int.ediv_nonneg h0 (by omega))⟩
theorem zAY:∀{rs:List Rg} {L:List Int},inL rs L->∃n,0<=n/\n < zyA rs/\zAW rs n=L
 | [],[],_=>⟨0,Int.le_refl _,by show(0:Int) < 1; omega,rfl⟩
 | [],_::_,h=>h.elim
 | _::_,[],h=>h.elim
 | r::rs,x::xs,h=>by
  obtain⟨n,h0,h1,h2⟩:=zAY h.2;have hx:=h.1;obtain⟨c,hc⟩:∃c,c=r.Hi - r.Lo+1:=⟨_,rfl⟩;refine⟨(x - r.Lo)+c * n,?_,?_,?_⟩
  ·have:=Int.mul_nonneg (show 0<=c by omega) h0; omega
  ·show _ < (r.Hi - r.Lo+1) * zyA rs
   rw[<- hc];have:=Int.mul_le_mul_of_nonneg_left (show n+1<=zyA rs by omega) (show 0<=c by omega);rw[Int.mul_add,Int.mul_one] at this
   omega
  ·show(r.Lo+_ % (r.Hi - r.Lo+1))::zAW rs (_ / (r.Hi - r.Lo+1))=_
   rw[<- hc,Int.add_mul_emod_self_left,Int.emod_eq_of_lt (by omega) (by omega),Int.add_mul_ediv_left _ _ (by omega),Int.ediv_eq_zero_of_lt (by omega) (by omega),Int.zero_add,h2]
   congr 1; omega
theorem zAZ{p:Pg}(h:VP p):∀(d k:Nat) (acc:List Int) (n:Int),k<=p.Losses.length->p.Losses.length - k < d->acc.length=k->0<=n/\n<=100000->zsG p d acc n (k:Int)=some (acc++zAW (p.Losses.drop k) n)
 | 0,_,_,_,_,hd,_,_=>by omega
 | d+1,k,acc,n,hk,hd,ha,hn=>by
  have h4:=h.l4;rw[zsG]
  by_cases hkl:k < p.Losses.length
  ·have hg:=List.getElem?_eq_getElem hkl;have hr:=h.ls _ (List.getElem_mem hkl);rw[List.drop_eq_getElem_cons hkl];generalize p.Losses[k]=r at hg hr;have hr':=hr;unfold RgV at hr';have h1:=Int.emod_nonneg n (show r.Hi - r.Lo+1 ≠ 0 by omega);have h2:=Int.emod_lt_of_pos n (show 0 < r.Hi - r.Lo+1 by omega);have h3:=Int.ediv_nonneg hn.1 (show 0<=r.Hi - r.Lo+1 by omega);have h5:=Int.ediv_le_self (r.Hi - r.Lo+1) hn.1
   simp only[zrT hg,obs,zyZ hr]
   rw[if_pos (by omega),zqs hn.1,zqs (by omega),zqs (fI (by omega)),zqs (fI (by omega)),zqs (by omega),zqs hn.1,zqs (by omega),zqs (fI (by omega)),zqs (fI (by omega)),show(k:Int)+1=((k+1:Nat):Int) by omega];refine(zAZ h d (k+1) (acc++[r.Lo+n % (r.Hi - r.Lo+1)]) (n / (r.Hi - r.Lo+1)) (by omega) (by omega) (by rw[List.length_append,ha]; rfl) (by omega)).trans ?_;rw[List.append_assoc]; rfl
  ·rw[if_neg (by omega),List.drop_eq_nil_of_le (by omega)]
   show _=some (acc++[])
   rw[List.append_nil]
theorem zA0{p:Pg}(h:VP p){n:Int}(hn:0<=n/\n<=100000):zsH p n=some (zAW p.Losses n):=zAZ h 1000000 0 [] n (Nat.zero_le _) (by have:=h.l4; omega) rfl hn
theorem VP.nthIn{p:Pg}(h:VP p){n:Int}(hn:0<=n):inL p.Losses (zAW p.Losses n):=zAX (fun r hr=>(h.ls r hr).2.1) hn
def kpN(ts:List Ty)(P:Nat->Int)(k:Nat):Nat->Int
 | 0=>P k
 | m+1=>match ts[m]? with
  | some t=>if t.Of=(k:Int) then kpN ts P k m - P m else kpN ts P k m
  | none=>kpN ts P k m
theorem zA1{ts:List Ty}{P:Nat->Int}{k m:Nat}{t:Ty}(h:ts[m]? = some t):kpN ts P k (m+1)=if t.Of=(k:Int) then kpN ts P k m - P m else kpN ts P k m:=by
 show(match ts[m]? with | some t=>_ | none=>_)=_
 rw[h]
theorem zA2{ts:List Ty}{P:Nat->Int}{k:Nat}(hP:∀j,0<=P j/\P j<=100000):∀m,-100000 * m<=kpN ts P k m/\kpN ts P k m<=100000
 | 0=>by have:=hP k; show -100000 * ((0:Nat):Int)<=P k/\P k<=_; omega
 | m+1=>by
  have ih:=zA2 (ts:=ts) (k:=k) hP m;have hm:=hP m
  show -100000 * ((m+1:Nat):Int)<=(match ts[m]? with | some t=>if t.Of=(k:Int) then kpN ts P k m - P m else kpN ts P k m | none=>kpN ts P k m)/\(match ts[m]? with | some t=>if t.Of=(k:Int) then kpN ts P k m - P m else kpN ts P k m | none=>kpN ts P k m)<=_
  cases ts[m]? with
  | none=>exact⟨by show _<=kpN ts P k m; omega,ih.2⟩
  | some t=>
   show _<=(if t.Of=(k:Int) then kpN ts P k m - P m else kpN ts P k m)/\(if t.Of=(k:Int) then kpN ts P k m - P m else kpN ts P k m)<=_
   split <;> omega
theorem zA3{ts:List Ty}{P P':Nat->Int}{k:Nat}(h0:P k=P' k):∀m,(∀j,j < m->P j=P' j)->kpN ts P k m=kpN ts P' k m
 | 0,_=>h0
 | m+1,h=>by
  show(match ts[m]? with | some t=>if t.Of=(k:Int) then kpN ts P k m - P m else kpN ts P k m | none=>kpN ts P k m)=(match ts[m]? with | some t=>if t.Of=(k:Int) then kpN ts P' k m - P' m else kpN ts P' k m | none=>kpN ts P' k m)
  rw[zA3 h0 m fun j hj=>h j (by omega),h m (by omega)]
theorem zA4{ts:List Ty}(ho:zyw ts){P:Nat->Int}{k:Nat}:∀m,m<=k+1->kpN ts P k m=P k
 | 0,_=>rfl
 | m+1,h=>by
  have ih:=zA4 ho (P:=P) (k:=k) m (by omega)
  cases hg:ts[m]? with
  | none=>show(match ts[m]? with | some t=>if t.Of=(k:Int) then kpN ts P k m - P m else kpN ts P k m | none=>kpN ts P k m)=_; rw[hg]; exact ih
  | some t=>rw[zA1 hg,if_neg (by have:=ho m t hg; omega),ih]
theorem zA5{ts:List Ty}{P Q:Nat->Int}{k:Nat}:∀m,kpN ts (fun j=>P j+Q j) k m=kpN ts P k m+kpN ts Q k m
 | 0=>rfl
 | m+1=>by
  have ih:=zA5 (ts:=ts) (P:=P) (Q:=Q) (k:=k) m
  cases hg:ts[m]? with
  | none=>
   have e:∀P,kpN ts P k (m+1)=kpN ts P k m:=fun P=>by show(match ts[m]? with | some t=>if t.Of=(k:Int) then kpN ts P k m - P m else kpN ts P k m | none=>kpN ts P k m)=_; rw[hg]
   rw[e,e,e,ih]
  | some t=>
   rw[zA1 hg,zA1 hg,zA1 hg,ih]
   by_cases hc:t.Of=(k:Int)
   ·rw[if_pos hc,if_pos hc,if_pos hc]; omega
   ·rw[if_neg hc,if_neg hc,if_neg hc]
theorem zA6{ts:List Ty}{k:Nat}:∀m,kpN ts (fun _=>0) k m=0
 | 0=>rfl
 | m+1=>by
  show(match ts[m]? with | some t=>if t.Of=(k:Int) then kpN ts (fun _=>0) k m - 0 else kpN ts (fun _=>0) k m | none=>kpN ts (fun _=>0) k m)=0
  rw[zA6 m]
  cases ts[m]? with
  | none=>rfl
  | some t=>show(if _ then (0:Int) - 0 else 0)=0; split <;> rfl
theorem zA7{ts:List Ty}(hts:zzi ts){P:Nat->Int}{x:Int}:∀m,m<=ts.length->∀k,k < m->(dN ts P x m).keeps k=kpN ts (dN ts P x m).pays k m
 | 0,_,_,h=>by omega
 | m+1,hm,k,hk=>by
  have ih:=zA7 hts (P:=P) (x:=x) m (by omega);have hg:=List.getElem?_eq_getElem (show m < ts.length by omega);have ho:=hts.o m _ hg;rw[zzg hg,zA1 hg];generalize ts[m]'(by omega)=t at hg ho;unfold zzf
  by_cases h1:t.Of = -1
  ·rw[if_pos h1,if_neg (by omega)]
   show upF (dN ts P x m).keeps m _ k=kpN ts (upF (dN ts P x m).pays m _) k m
   by_cases hkm:k=m
   ·subst hkm; rw[zA4 hts.o _ (by omega),zyr,zyr]
   ·rw[zys _ _ hkm,ih k (by omega)];exact zA3 (zys _ _ hkm).symm m fun j hj=>(zys _ _ (by omega)).symm
  ·rw[if_neg h1]
   show upF (upF (dN ts P x m).keeps t.Of.toNat _) m _ k=if t.Of=(k:Int) then kpN ts (upF (dN ts P x m).pays m _) k m - upF (dN ts P x m).pays m _ m else kpN ts (upF (dN ts P x m).pays m _) k m
   rw[zyr]
   by_cases hkm:k=m
   ·subst hkm; rw[if_neg (by omega),zA4 hts.o _ (by omega),zyr,zyr]
   ·have e:∀a,kpN ts (upF (dN ts P x m).pays m a) k m=(dN ts P x m).keeps k:=fun a=>by
     rw[ih k (by omega)];exact zA3 (zys _ _ hkm) m fun j hj=>zys _ _ (by omega)
    rw[zys _ _ hkm,e]
    by_cases hc:t.Of=(k:Int)
    ·rw[if_pos hc,show t.Of.toNat=k by omega,zyr]
    ·rw[if_neg hc,zys _ _ (by omega)]
theorem zA8{ts:List Ty}(hts:zzi ts){k:Nat}(hk:k < ts.length):∀(L:List Int) (s:DS),s.keeps k=kpN ts s.pays k ts.length->(L.foldl (zzn ts) s).keeps k=kpN ts (L.foldl (zzn ts) s).pays k ts.length
 | [],_,h=>h
 | x::L,s,h=>zA8 hts hk L (zzn ts s x) (by
  show s.keeps k+(dN ts s.pays x ts.length).keeps k=kpN ts (fun j=>s.pays j+(dN ts s.pays x ts.length).pays j) k ts.length
  rw[zA5,<- h,zA7 hts ts.length (Nat.le_refl _) k hk])
theorem zA9{ts:List Ty}(hts:zzi ts){k:Nat}(hk:k < ts.length)(L:List Int):(zzo ts L).keeps k=kpN ts (zzo ts L).pays k ts.length:=zA8 hts hk L zzm (zA6 _).symm
theorem zBa{p:Pg}(h:VP p){P:Nat->Int}(hP:∀j,0<=P j/\P j<=100000){k:Nat}(hk:k < p.Treaties.length):zsQ p (lN p.Treaties.length P) (k:Int)=some (kpN p.Treaties P k p.Treaties.length):=by
 have h5:=h.t5;unfold zsQ;rw[zAr h5 _ hk,obs];refine zym (n:=p.Treaties.length) (fun d acc x=>zsP p (lN p.Treaties.length P) (k:Int) d acc x) (fun m=>kpN p.Treaties P k m) (fun d m hm=>?_) (fun d=>?_) 1000000 0 (by omega) (by omega)
 ·have hg:=List.getElem?_eq_getElem hm;have hb:=zA2 (ts:=p.Treaties) (k:=k) hP m;have hPm:=hP m
  show zsP p _ _ (d+1) _ _=_
  rw[zsP,if_pos (by omega),zrT hg,obs,zA1 hg]
  by_cases hc:(p.Treaties[m]).Of=(k:Int)
  ·rw[if_pos hc,if_pos hc,zAr h5 _ hm,obs,zqs (fI (by omega)),zqs (fI (by omega))]
  ·rw[if_neg hc,if_neg hc,zqs (fI (by omega))]
 ·show zsP p _ _ (d+1) _ _=_
  rw[zsP,if_neg (Int.lt_irrefl _)]
theorem zBb{p:Pg}(h:VP p){P:Nat->Int}(hP:∀j,0<=P j/\P j<=100000){k:Nat}(hk:k < p.Treaties.length):zuP p (lN p.Treaties.length P) (k:Int)=some (kpN p.Treaties P k p.Treaties.length):=by
 have h5:=h.t5;unfold zuP;rw[zAr h5 _ hk,obs];refine zym (n:=p.Treaties.length) (fun d acc x=>zuO p (lN p.Treaties.length P) (k:Int) d acc x) (fun m=>kpN p.Treaties P k m) (fun d m hm=>?_) (fun d=>?_) 1000000 0 (by omega) (by omega)
 ·have hg:=List.getElem?_eq_getElem hm;have hb:=zA2 (ts:=p.Treaties) (k:=k) hP m;have hPm:=hP m
  show zuO p _ _ (d+1) _ _=_
  rw[zuO,if_pos (by omega),if_pos (by rw[zAk h5]; omega),zrT hg,obs,zA1 hg]
  by_cases hc:(p.Treaties[m]).Of=(k:Int)
  ·rw[if_pos hc,if_pos hc,zAr h5 _ hm,obs,zqs (fI (by omega)),zqs (fI (by omega))]
  ·rw[if_neg hc,if_neg hc,zqs (fI (by omega))]
 ·show zuO p _ _ (d+1) _ _=_
  rw[zuO,if_neg (Int.lt_irrefl _)]
theorem zBc{n:Nat}(h:n<=6):(1:Int) * 2 ^ (Int.toNat (zmc .u64 (n:Int)))=((2 ^ n:Nat):Int):=by rw[wu (by omega),Int.toNat_natCast,Int.one_mul,Int.natCast_pow]; rfl
theorem zBd{n:Nat}(h:n<=6):(gd ((0:Int)<=(1:Int)) (gd ((0:Int)<=(zmc .u64 (n:Int))) (gd ((zmc .u64 (n:Int))<=(64:Int)) (gd (zl7 .i64 ((1:Int) * ((2:Int) ^ (Int.toNat (zmc .u64 (n:Int)))))) (gd (zl7 .i64 (((1:Int) * ((2:Int) ^ (Int.toNat (zmc .u64 (n:Int))))) - (1:Int))) (some (((1:Int) * ((2:Int) ^ (Int.toNat (zmc .u64 (n:Int))))) - (1:Int))))))))=some ((2 ^ n - 1:Nat):Int):=by
 have hp:=zAV h;have hp0:0 < 2 ^ n:=Nat.two_pow_pos _;rw[zBc h,zqs (by omega),wu (by omega),zqs (by omega),zqs (by omega),zqs (fI (by omega)),zqs (fI (by omega))]
 congr 1
 omega
theorem zBe{p:Pg}(h:VP p):zsJ p=some ((2 ^ p.Treaties.length - 1:Nat):Int):=zBd (by have:=h.t5; omega)
theorem l9{p:Pg}(h:VP p){L:List Int}(hL:inL p.Losses L):L.length<=9:=by rw[zzB hL]; have:=h.l4; omega
theorem zBf{p:Pg}(h:VP p){L:List Int}(hL:inL p.Losses L):zsO p L ((2 ^ p.Treaties.length - 1:Nat):Int)=some (lN p.Treaties.length (zzo p.Treaties L).pays,(zzo p.Treaties L).soc):=by
 have h5:=h.t5;have hp:=zAV (i:=p.Treaties.length) (by omega);rw[zAJ h (by omega) (zzE hL h.ls) (l9 h hL)];obtain⟨e1,e2⟩:=zAP h.tsOk (th:=fun k=>(2 ^ p.Treaties.length - 1).testBit k) (fun j hj=>by rw[Nat.testBit_two_pow_sub_one,decide_eq_true hj]) L;rw[zAw h5 fun j _=>e1 j,e2]
open Classical in
def agR(P:Nat->Int)(r:Rpt):Prop:=r.Paid.Lo<=P r.Treaty.toNat/\P r.Treaty.toNat<=r.Paid.Hi
open Classical in
def agf(p:Pg)(L:List Int)(j:Nat):Bool:=decide (∀r,p.Reports[j]? = some r->agR (zzo p.Treaties L).pays r)
open Classical in
theorem zBg{p:Pg}{L:List Int}{j:Nat}{r:Rpt}(h:p.Reports[j]? = some r):agf p L j=true↔agR (zzo p.Treaties L).pays r:=by
 unfold agf;rw[decide_eq_true_eq];exact⟨fun q=>q r h,fun q r' h'=>by rw[h] at h'; cases h'; exact q⟩
def zBh(p:Pg)(L:List Int):Nat:=macc (agf p L) p.Reports.length
def PL(p:Pg)(S:Nat->Bool):Prop:=∃L,inL p.Losses L/\∀j,j < p.Reports.length->S j=false->agf p L j=true
theorem PL.congr{p:Pg}{S S':Nat->Bool}(h:∀j,j < p.Reports.length->S j=S' j):PL p S↔PL p S':=
 exists_congr fun _=>and_congr_right fun _=>forall_congr' fun j=>forall_congr' fun hj=>by rw[h j hj]
theorem zBi{p:Pg}(h:VP p){L:List Int}(hL:inL p.Losses L):(∀j,0<=(zzo p.Treaties L).pays j/\(zzo p.Treaties L).pays j<=4000)/\(∀j,0<=(zzo p.Treaties L).keeps j/\(zzo p.Treaties L).keeps j<=4000)/\0<=(zzo p.Treaties L).soc/\(zzo p.Treaties L).soc<=4000:=by
 obtain⟨h1,h2,h3⟩:=zzS h hL;refine⟨fun j=>?_,fun j=>?_,?_⟩
 ·have:=h1.pays j; omega
 ·have:=h1.keeps j; omega
 ·have:=h1.soc; omega
theorem VP.prodPos{p:Pg}(h:VP p):1<=zyA p.Losses:=(zyP h.ls h.l4).1
end
end Go.Proofs.YtkcmdghjgoaggaaGreat

namespace Go.Proofs.YtkcmdghjgoaggaaGreat
open _root_.Go.Proofs.Tryz
open Go.Abs
set_option maxRecDepth 100000
noncomputable section
theorem zBj{p:Pg}{L:List Int}:zBh p L=2 ^ p.Reports.length - 1↔agN (zzo p.Treaties L).pays p.Reports:=by
 constructor
 ·intro h r hr;obtain⟨j,hj⟩:=List.mem_iff_getElem?.1 hr;have hjl:=(List.getElem?_eq_some_iff.1 hj).1
  have e:(zBh p L).testBit j=true:=by rw[h,Nat.testBit_two_pow_sub_one,decide_eq_true hjl]
  unfold zBh at e;rw[zAU] at e;exact(zBg hj).1 (Bool.and_eq_true_iff.1 e).2
 ·intro h
  apply Nat.eq_of_testBit_eq
  intro j;unfold zBh;rw[zAU,Nat.testBit_two_pow_sub_one]
  by_cases hj:j < p.Reports.length
  ·have hg:=List.getElem?_eq_getElem hj;rw[decide_eq_true hj,(zBg hg).2 (h _ (List.getElem_mem hj))]; rfl
  ·rw[decide_eq_false hj]; rfl
def trL(p:Pg):List (List Int):=((List.range (zyA p.Losses).toNat).filter fun n:Nat=>decide (zBh p (zAW p.Losses (n:Int))=2 ^ p.Reports.length - 1)).map fun n:Nat=>zAW p.Losses (n:Int)
theorem zBk{p:Pg}(h:VP p){L:List Int}:L∈trL p↔TrS p p.Reports L:=by
 unfold trL TrS;rw[List.mem_map]
 constructor
 ·rintro⟨n,hn,rfl⟩
  obtain⟨_,h2⟩:=List.mem_filter.1 hn;exact⟨h.nthIn (by omega),zBj.1 (of_decide_eq_true h2)⟩
 ·rintro⟨hL,hA⟩
  obtain⟨n,n0,n1,rfl⟩:=zAY hL;refine⟨n.toNat,List.mem_filter.2 ⟨List.mem_range.2 (by omega),decide_eq_true ?_⟩,?_⟩
  ·rw[show((n.toNat:Nat):Int)=n by omega]; exact zBj.2 hA
  ·show zAW p.Losses ((n.toNat:Nat):Int)=_
   rw[show((n.toNat:Nat):Int)=n by omega]
theorem zBl{p:Pg}:zz6 p p.Reports↔PL p fun j=>!(2 ^ p.Reports.length - 1).testBit j:=by
 constructor
 ·rintro⟨L,h1,h2⟩
  exact⟨L,h1,fun j hj _=>(zBg (List.getElem?_eq_getElem hj)).2 (h2 _ (List.getElem_mem hj))⟩
 ·rintro⟨L,h1,h2⟩
  refine⟨L,h1,fun r hr=>?_⟩;obtain⟨j,hj⟩:=List.mem_iff_getElem?.1 hr;have hjl:=(List.getElem?_eq_some_iff.1 hj).1;exact(zBg hj).1 (h2 j hjl (by show(!(2 ^ p.Reports.length - 1).testBit j)=false; rw[Nat.testBit_two_pow_sub_one,decide_eq_true hjl]; rfl))
def wd(r:Rg)(x:Int):Rg:={ Lo:=min r.Lo x,Hi:=max r.Hi x }
def emp:Rg:={ Lo:=1099511627776,Hi:=-1099511627776 }
def wdL(g:List Int->Int)(l:List (List Int)):Rg:=l.foldl (fun r L=>wd r (g L)) emp
theorem zBm{g:List Int->Int}{l:List (List Int)}{k:Nat}{L:List Int}(h:l[k]? = some L):wdL g (l.take (k+1))=wd (wdL g (l.take k)) (g L):=by
 unfold wdL;rw[List.take_add_one,h,List.foldl_append]; rfl
theorem zBn{g:List Int->Int}:∀(l:List (List Int)) (r:Rg),((l.foldl (fun r L=>wd r (g L)) r).Lo=r.Lo\/∃L∈l,g L=(l.foldl (fun r L=>wd r (g L)) r).Lo)/\((l.foldl (fun r L=>wd r (g L)) r).Hi=r.Hi\/∃L∈l,g L=(l.foldl (fun r L=>wd r (g L)) r).Hi)/\(l.foldl (fun r L=>wd r (g L)) r).Lo<=r.Lo/\r.Hi<=(l.foldl (fun r L=>wd r (g L)) r).Hi/\∀L∈l,(l.foldl (fun r L=>wd r (g L)) r).Lo<=g L/\g L<=(l.foldl (fun r L=>wd r (g L)) r).Hi
 | [],r=>⟨.inl rfl,.inl rfl,Int.le_refl _,Int.le_refl _,fun L hL=>by cases hL⟩
 | L::l,r=>by
  obtain⟨a,b,c,d,e⟩:=zBn (g:=g) l (wd r (g L));have h1:(wd r (g L)).Lo=min r.Lo (g L):=rfl;have h2:(wd r (g L)).Hi=max r.Hi (g L):=rfl;rw[h1] at a c;rw[h2] at b d;rw[List.foldl_cons];generalize l.foldl (fun r L=>wd r (g L)) (wd r (g L))=R at a b c d e ⊢;refine⟨?_,?_,by clear a b; omega,by clear a b; omega,fun L' hL'=>?_⟩
  ·clear b
   rcases a with a | ⟨L',q1,q2⟩
   ·rcases Int.le_total r.Lo (g L) with h | h
    ·exact .inl (by omega)
    ·exact .inr ⟨L,List.mem_cons_self ..,by omega⟩
   ·exact .inr ⟨L',List.mem_cons_of_mem _ q1,q2⟩
  ·clear a
   rcases b with b | ⟨L',q1,q2⟩
   ·rcases Int.le_total (g L) r.Hi with h | h
    ·exact .inl (by omega)
    ·exact .inr ⟨L,List.mem_cons_self ..,by omega⟩
   ·exact .inr ⟨L',List.mem_cons_of_mem _ q1,q2⟩
  ·clear a b
   rcases List.mem_cons.1 hL' with h | h
   ·subst h; omega
   ·exact e L' h
theorem zBo{g:List Int->Int}{l:List (List Int)}(hne:l ≠ [])(hb:∀L∈l,-1000000<=g L/\g L<=1000000):IsB (·∈l) g (wdL g l):=by
 obtain⟨a,b,c,d,e⟩:=zBn (g:=g) l emp;have h1:emp.Lo=1099511627776:=rfl;have h2:emp.Hi = -1099511627776:=rfl;rw[h1] at a c;rw[h2] at b d;obtain⟨L0,hL0⟩:=List.exists_mem_of_ne_nil l hne;have q1:=hb L0 hL0;have q2:=e L0 hL0;unfold wdL;generalize l.foldl (fun r L=>wd r (g L)) emp=R at a b c d e q2 ⊢;refine⟨?_,?_,e⟩
 ·clear b
  rcases a with a | a
  ·omega
  ·exact a
 ·clear a
  rcases b with b | b
  ·omega
  ·exact b
def bsN(n:Nat)(f:Nat->Bd):List Bd:=(List.range n).map f
theorem zBp{n:Nat}{f:Nat->Bd}:(bsN n f).length=n:=by unfold bsN; rw[List.length_map,List.length_range]
theorem zBq{n:Nat}{f:Nat->Bd}{k:Nat}(h:k < n):(bsN n f)[k]? = some (f k):=by unfold bsN; rw[List.getElem?_map,List.getElem?_range h]; rfl
def bdF(p:Pg)(l:List (List Int))(k:Nat):Bd:={ Pays:=wdL (fun L=>(zzo p.Treaties L).pays k) l,Keeps:=wdL (fun L=>(zzo p.Treaties L).keeps k) l }
theorem zBr{p:Pg}(h:VP p)(hc:zz6 p p.Reports):zAo p (bsN p.Treaties.length (bdF p (trL p)))/\IsB (TrS p p.Reports) (fun L=>(zzo p.Treaties L).soc) (wdL (fun L=>(zzo p.Treaties L).soc) (trL p)):=by
 have hne:trL p ≠ []:=fun e=>by
  obtain⟨L,hL⟩:=hc;have:=(zBk h).2 hL
  rw[e] at this; cases this
 have hb:∀L∈trL p,inL p.Losses L:=fun L hL=>((zBk h).1 hL).1;refine⟨⟨zBp,fun k b hk=>?_⟩,?_⟩
 ·have hkl:=(List.getElem?_eq_some_iff.1 hk).1;rw[zBp] at hkl;rw[zBq hkl] at hk
  cases hk
  refine⟨(zBo hne fun L hL=>?_).congr (fun L=>zBk h) fun _ _=>rfl,(zBo hne fun L hL=>?_).congr (fun L=>zBk h) fun _ _=>rfl⟩
  ·have:=(zBi h (hb L hL)).1 k; omega
  ·have:=(zBi h (hb L hL)).2.1 k; omega
 ·refine(zBo hne fun L hL=>?_).congr (fun L=>zBk h) fun _ _=>rfl;have:=(zBi h (hb L hL)).2.2; omega
def kpF:List Rpt->Nat->(Nat->Bool)->List Rpt
 | [],_,_=>[]
 | v::V,i,S=>if S i=true then v::kpF V (i+1) S else kpF V (i+1) S
theorem zBs{S:Nat->Bool}{v:Rpt}:∀(V:List Rpt) (i:Nat),v∈kpF V i S↔∃j,V[j]? = some v/\S (i+j)=true
 | [],i=>by simp[kpF]
 | a::V,i=>by
  have ih:=zBs (S:=S) (v:=v) V (i+1)
  have e:(∃j,(a::V)[j]? = some v/\S (i+j)=true)↔(a=v/\S i=true)\/∃j,V[j]? = some v/\S (i+1+j)=true:=by
   constructor
   ·rintro⟨j,h1,h2⟩
    cases j with
    | zero=>exact .inl ⟨by simpa using h1,h2⟩
    | succ j=>exact .inr ⟨j,by simpa using h1,by rw[show i+1+j=i+(j+1) by omega]; exact h2⟩
   ·rintro (⟨h1,h2⟩ | ⟨j,h1,h2⟩)
    ·exact⟨0,by simpa using h1,h2⟩
    ·exact⟨j+1,by simpa using h1,by rw[show i+(j+1)=i+1+j by omega]; exact h2⟩
  rw[e];unfold kpF
  by_cases hs:S i=true
  ·rw[if_pos hs,List.mem_cons,ih];exact or_congr ⟨fun h=>⟨h.symm,hs⟩,fun h=>h.1.symm⟩ Iff.rfl
  ·rw[if_neg hs,ih];exact⟨.inr,fun h=>h.elim (fun h=>absurd h.2 hs) id⟩
theorem zBt{S:Nat->Bool}:∀(V:List Rpt) (i:Nat),(kpF V i S).length<=V.length
 | [],_=>Nat.le_refl _
 | a::V,i=>by
  have:=zBt (S:=S) V (i+1);unfold kpF
  split <;> simp only[List.length_cons] <;> omega
theorem zBu{l:List Int}{v:Int}(hl:zr3 l):∀d (k:Nat),k<=l.length->l.length - k < d->∃r,ztX l v d (k:Int)=some r/\(0<=r↔v∈l.drop k)
 | 0,k,_,h=>by omega
 | d+1,k,hk,h=>by
  unfold zr3 at hl;unfold ztX
  by_cases hkn:k=l.length
  ·subst hkn; rw[if_neg (Int.lt_irrefl _)]; exact⟨_,rfl,by simp⟩
  ·have hlt:k < l.length:=by omega
   rw[if_pos (by omega),zrT (List.getElem?_eq_getElem hlt),obs];have hd:=List.drop_eq_getElem_cons hlt
   by_cases hv:v=l[k]
   ·rw[if_pos hv]; exact⟨_,rfl,⟨fun _=>by rw[hd,<- hv]; exact List.mem_cons_self ..,fun _=>by omega⟩⟩
   ·rw[if_neg hv,zqs (fI (by omega)),show(k:Int)+1=((k+1:Nat):Int) by omega];obtain⟨r,h1,h2⟩:=zBu hl d (k+1) (by omega) (by omega);exact⟨r,h1,h2.trans ⟨fun h=>by rw[hd]; exact List.mem_cons_of_mem _ h,fun h=>by rw[hd] at h; exact(List.mem_cons.1 h).resolve_left hv⟩⟩
theorem zBv{l:List Int}{v:Int}(hl:zr3 l):ztZ l v=some (decide (v∈l)):=by
 unfold ztZ ztY;obtain⟨r,h1,h2⟩:=zBu (v:=v) hl (l.length+1) 0 (Nat.zero_le _) (by omega);have h1:ztX l v (l.length+1) 0=some r:=h1;rw[h1,obs];exact congrArg some (decide_eq_decide.2 (h2.trans (by rw[List.drop_zero])))
theorem zBw{p:Int->Option Bool}{f:Nat->Bool}{n:Nat}(hn:n<=1000000)(hp:∀m,m < n->p (m:Int)=some (f m))(hm:∀m k,m<=k->k < n->f m=true->f k=true):∀d (i j:Nat),i<=j->j<=n->j - i < d->(∀m,m < i->f m=false)->(∀m,j<=m->m < n->f m=true) ->
  ∃k:Nat,zuq p d (i:Int) (j:Int)=some (k:Int)/\k<=n/\(∀m,m < k->f m=false)/\(∀m,k<=m->m < n->f m=true)
 | 0,_,_,_,_,h,_,_=>by omega
 | d+1,i,j,hij,hj,h,hlo,hhi=>by
  rw[zuq]
  by_cases hc:i < j
  ·obtain⟨md,hmd⟩:∃md:Nat,md=(i+j) / 2:=⟨_,rfl⟩
   have hf:zl7 .u64 ((i:Int)+j):=show _/\_ by constructor <;> omega
   have e:zmc .i64 (zmc .u64 ((i:Int)+j) / 2)=(md:Int):=by
    rw[wz hf,wz (fI (by omega))]; omega
   rw[if_pos (by omega),zqs (fI (by omega)),zqs (by rw[wz hf]; omega),zqs (by omega),zqs (by omega),zqs (by rw[wz hf]; exact show _/\_ by constructor <;> omega),e,hp md (by omega),obs]
   cases hq:f md with
   | true=>
    rw[if_pos rfl];exact zBw hn hp hm d i md (by omega) (by omega) (by omega) hlo fun m h1 h2=>hm md m h1 h2 hq
   | false=>
    rw[if_neg (by decide),zqs (fI (by omega)),show(md:Int)+1=((md+1:Nat):Int) by omega]
    exact zBw hn hp hm d (md+1) j (by omega) hj (by omega) (fun m h1=>by
     cases hq2:f m with
     | false=>rfl
     | true=>have:=hm m md (by omega) (by omega) hq2; rw[hq] at this; cases this) hhi
  ·rw[if_neg (by omega)];exact⟨i,rfl,by omega,hlo,fun m h1 h2=>hhi m (by omega) h2⟩
theorem zBx{p:Pg}{L:List Int}{S:Nat->Bool}:agN (zzo p.Treaties L).pays (kpF p.Reports 0 S)↔∀j,j < p.Reports.length->S j=true->agf p L j=true:=by
 constructor
 ·intro h j hj hs;have hg:=List.getElem?_eq_getElem hj;exact(zBg hg).2 (h _ ((zBs _ _).2 ⟨j,hg,by rw[Nat.zero_add]; exact hs⟩))
 ·intro h r hr;obtain⟨j,h1,h2⟩:=(zBs _ _).1 hr;rw[Nat.zero_add] at h2;exact(zBg h1).1 (h j (List.getElem?_eq_some_iff.1 h1).1 h2)
theorem zBy{p:Pg}{S:Nat->Bool}:zz6 p (kpF p.Reports 0 S)↔PL p fun j=>!S j:=by
 unfold zz6 PL;refine exists_congr fun L=>and_congr_right fun _=>zBx.trans ?_;refine forall_congr' fun j=>forall_congr' fun _=>?_
 show(S j=true->_)↔((!S j)=false->_)
 cases S j <;> simp
theorem zBz{l:List Rpt}{D:List Int}(hl:l.length<=1000)(hD:zr3 D):zt1 l D=some (kpF l 0 fun j=>!inD D j):=by
 have key:∀(d k:Nat) (acc:List Rpt),k<=l.length->l.length - k < d->acc.length<=k->zt0 l D d acc (k:Int)=some (acc++kpF (l.drop k) k fun j=>!inD D j):=by
  intro d
  induction d with
  | zero=>intro k _ _ h _; omega
  | succ d ih=>
   intro k acc hk hd ha;rw[zt0]
   by_cases hkl:k < l.length
   ·rw[if_pos (by omega),zrT (List.getElem?_eq_getElem hkl),obs,zBv hD,obs,List.drop_eq_getElem_cons hkl,kpF]
    by_cases hin:(k:Int)∈D
    ·have e:inD D k=true:=decide_eq_true hin;rw[decide_eq_true hin,if_pos rfl,zqs (fI (by omega)),show(k:Int)+1=((k+1:Nat):Int) by omega,if_neg (by rw[e]; simp)];exact ih (k+1) acc (by omega) (by omega) (by omega)
    ·have e:inD D k=false:=decide_eq_false hin;rw[decide_eq_false hin,if_neg (by decide),zqs (by omega),zqs (fI (by omega)),show(k:Int)+1=((k+1:Nat):Int) by omega,if_pos (by rw[e]; rfl)];refine(ih (k+1) _ (by omega) (by omega) (by rw[List.length_append]; show acc.length+1<=_; omega)).trans ?_;rw[List.append_assoc]; rfl
   ·rw[if_neg (by omega),List.drop_eq_nil_of_le (by omega)]
    show _=some (acc++[])
    rw[List.append_nil]
 exact key (l.length+1) 0 [] (Nat.zero_le _) (by omega) (Nat.le_refl _)
theorem zzX.kp{p:Pg}(h:VP p)(S:Nat->Bool):zzX (kpF p.Reports 0 S):=fun r hr=>by
 obtain⟨j,h1,_⟩:=(zBs _ _).1 hr;exact h.rsOk r (List.mem_of_getElem? h1)
theorem zBA{p:Pg}(h:VP p){D:List Int}(hD:zr3 D):Ev (zut D (zzQ p (zzI p)) p) (PL p (inD D)):=by
 have hr5:=h.r5;unfold zut;rw[zBz (by omega) hD,obs]
 show Ev ((zt8 (zzQ p (zzI p)) (kpF p.Reports 0 fun j=>!inD D j)).bind _) _
 have hlen:=zBt (S:=fun j=>!inD D j) p.Reports 0;refine(zz7 h (zzX.kp h _) (zr4 hlen (by omega))).ret.imp (zBy.trans (PL.congr fun j _=>?_))
 simp
theorem zBB{p:Pg}(h:VP p):PL p (inD (zAQ p.Reports.length)):=by
 obtain⟨L,hL⟩:=zzM h;exact⟨L,hL,fun j hj hs=>by rw[zAS hj] at hs; cases hs⟩
theorem zBC{p:Pg}(h:VP p):∃M,zuu p=some (M,0)/\zAT p.Reports.length (PL p) M:=by
 have h4:=h.r5;have hsh:∀D,Inc p.Reports.length 0 D->zr3 D:=fun D hD=>zr4 (Nat.le_refl D.length) (by have:=zxZ hD; omega)
 have ht:∀D,Inc p.Reports.length 0 D->((zut D (zzQ p (zzI p)) p).getD false=true↔PL p (inD D)):=fun D hD=>by
  obtain⟨b,q1,q2⟩:=zBA h (hsh D hD);rw[q1]; exact q2
 obtain⟨s1,s2,s3⟩:=zyg (n:=p.Reports.length) (t:=fun L=>(zut L (zzQ p (zzI p)) p).getD false) ⟨zAQ p.Reports.length,zAR _,(ht _ (zAR _)).2 (zBB h)⟩;refine⟨zrA p.Reports.length fun L=>(zut L (zzQ p (zzI p)) p).getD false,?_,s1,(ht _ s1).1 s2,fun D hD hD2=>s3 D hD ((ht D hD).2 hD2)⟩;unfold zuu zrB
 rw[zAi h,obs,if_pos rfl,zzW h,obs,zqs ⟨by omega,by omega,fun L hL=>by
  have hI:Inc p.Reports.length 0 L:=by rw[Int.toNat_natCast] at hL; exact zx0.1 hL
  obtain⟨b,q1,_⟩:=zBA h (hsh L hI)
  show(zut L (zzQ p (zzI p)) p).isSome=true
  rw[q1]; rfl⟩,obs,Int.toNat_natCast]
def FP(p:Pg)(j:Nat):Prop:=zz6 p (p.Reports.take (j+1))
theorem zBD{p:Pg}{i j:Nat}(hij:i<=j)(h:FP p j):FP p i:=by
 obtain⟨L,h1,h2⟩:=h;refine⟨L,h1,fun r hr=>h2 r ?_⟩
 have e:p.Reports.take (i+1)=(p.Reports.take (j+1)).take (i+1):=by rw[List.take_take,show min (i+1) (j+1)=i+1 by omega]
 rw[e] at hr;exact List.mem_of_mem_take hr
open Classical in
theorem zBE{p:Pg}(h:VP p):(∃j,j < p.Reports.length/\¬ FP p j/\(∀i,i < j->FP p i)/\zus p=some ((j:Int),0))\/((∀j,j < p.Reports.length->FP p j)/\zus p=some (0,7)):=by
 have h4:=h.r5
 have hf:∀m,m < p.Reports.length->zup (m:Int) (zzQ p (zzI p)) p=some (decide (¬ FP p m)):=fun m hm=>by
  unfold zup;rw[zqs (fI (by omega)),zqs (by omega),show Int.toNat ((m:Int)+1)=m+1 by omega,show Int.toNat (0:Int)=0 from rfl,List.drop_zero]
  show(zt8 (zzQ p (zzI p)) (p.Reports.take (m+1))).bind _=_
  have hlen:(p.Reports.take (m+1)).length<=5:=by rw[List.length_take]; omega
  have hc:=zz7 h (rs:=p.Reports.take (m+1)) (fun r hr=>h.rsOk r (List.mem_of_mem_take hr)) (zr4 hlen (by omega))
  by_cases hq:FP p m
  ·rw[hc.some_of hq,obs,decide_eq_false (not_not_intro hq)]; rfl
  ·rw[hc.some_not hq,obs,decide_eq_true hq]; rfl
 obtain⟨k,q1,q2,q3,q4⟩:=zBw (n:=p.Reports.length) (p:=fun a=>zup a (zzQ p (zzI p)) p) (f:=fun m=>decide (¬ FP p m)) (by omega) hf (fun m k h1 h2 h3=>decide_eq_true fun hk=>of_decide_eq_true h3 (zBD h1 hk)) ((p.Reports.length:Int).toNat+1) 0 p.Reports.length (Nat.zero_le _) (Nat.le_refl _) (by omega) (fun m hm=>by omega) fun m h1 h2=>by omega
 have e:zus p=if ((k:Nat):Int)=(p.Reports.length:Int) then some (0,7) else some ((k:Int),0):=by
  unfold zus zur;rw[zAi h,obs,if_pos rfl,zzW h,obs];have q1:zuq (fun a=>zup a (zzQ p (zzI p)) p) ((p.Reports.length:Int).toNat+1) 0 (p.Reports.length:Int)=some (k:Int):=q1;rw[q1,obs]
 have hlt:∀i,i < k->FP p i:=fun i hi=>Classical.not_not.1 (of_decide_eq_false (q3 i hi))
 by_cases hk:k=p.Reports.length
 ·rw[if_pos (by omega)] at e;exact .inr ⟨fun j hj=>hlt j (by omega),e⟩
 ·rw[if_neg (by omega)] at e;exact .inl ⟨k,by omega,of_decide_eq_true (q4 k (Nat.le_refl _) (by omega)),hlt,e⟩
theorem zBF{p:Pg}{j j':Nat}(h1:¬ FP p j)(h2:∀i,i < j->FP p i)(h3:¬ FP p j')(h4:∀i,i < j'->FP p i):j=j':=by
 rcases Nat.lt_trichotomy j j' with h | h | h
 ·exact absurd (h4 j h) h1
 ·exact h
 ·exact absurd (h2 j' h) h3
end
end Go.Proofs.YtkcmdghjgoaggaaGreat

namespace Go.Proofs.YtkcmdghjgoaggaaGreat
open _root_.Go.Proofs.Tryz
open Go.Abs
set_option maxRecDepth 100000
noncomputable section
theorem zBG{l:List Int}:(∀j,0 < j->j < l.length->∀a b,l[j - 1]? = some a->l[j]? = some b->a < b)↔l.Pairwise (· < ·):=by
 constructor
 ·intro h;rw[List.pairwise_iff_getElem];intro i j hi hj hij
  have key:∀d,(hd:i+d+1 < l.length)->l[i] < l[i+d+1]:=fun d=>by
   induction d with
   | zero=>intro hd; exact h (i+1) (by omega) hd _ _ (List.getElem?_eq_getElem hi) (List.getElem?_eq_getElem hd)
   | succ d ih=>
    intro hd;have h1:=ih (by omega);have h2:=h (i+(d+1)+1) (by omega) hd _ _ (List.getElem?_eq_getElem (show i+d+1 < l.length by omega)) (List.getElem?_eq_getElem hd);exact Int.lt_trans h1 h2
  have:=key (j - i - 1) (by omega)
  simpa [show i+(j - i - 1)+1=j by omega] using this
 ·intro h j h0 hj a b ha hb;obtain⟨h1,rfl⟩:=List.getElem?_eq_some_iff.1 ha;obtain⟨h2,rfl⟩:=List.getElem?_eq_some_iff.1 hb;exact List.pairwise_iff_getElem.1 h (j - 1) j h1 h2 (by omega)
theorem zBH{l:List Int}(hl:zr3 l):Ev (ztx l) (l.Pairwise (· < ·)):=by
 unfold zr3 at hl;unfold ztx
 by_cases h0:l.length=0
 ·have:l=[]:=List.eq_nil_of_length_eq_zero h0;subst this
  show Ev (ztw [] 1 1) _
  rw[ztw,if_neg (by decide)];exact Ev.tt .nil
 ·have e:∃n,l.length=n+1:=⟨l.length - 1,by omega⟩;obtain⟨n,hn⟩:=e
  have key:=zrX (n:=n) (F:=fun d x=>ztw l d (x+1)) (ok:=fun j=>∀a b,l[j]? = some a->l[j+1]? = some b->a < b) (bad:=some false) (fin:=some true) (fun d k hk=>by
   show(_->ztw l (d+1) ((k:Int)+1)=_)/\_
   have ha:=List.getElem?_eq_getElem (show k < l.length by omega);have hb:=List.getElem?_eq_getElem (show k+1 < l.length by omega);rw[ztw,if_pos (by omega),zrU (show(k:Int)+1=((k+1:Nat):Int) by omega) (show k+1 < l.length by omega),obs,zqs (fI (by omega)),zrU (show(k:Int)+1 - 1=(k:Int) by omega) (show k < l.length by omega),obs];refine⟨fun h=>?_,fun h=>?_⟩
   ·have:=h _ _ ha hb;rw[if_neg (by omega),zqs (fI (by omega))]
   ·rw[if_pos]
    apply Classical.byContradiction
    intro h2
    exact h fun a b h3 h4=>by rw[ha] at h3; rw[hb] at h4; cases h3; cases h4; omega) (fun d=>by show ztw l (d+1) _=_; rw[ztw,if_neg (by omega)]) (d:=((l.length:Int) - 1).toNat+1) (by omega)
  have e0:ztw l (((l.length:Int) - 1).toNat+1) (0+1)=ztw l (((l.length:Int) - 1).toNat+1) 1:=rfl
  have hiff:(∀j,j < n->∀a b,l[j]? = some a->l[j+1]? = some b->a < b)↔l.Pairwise (· < ·):=by
   rw[<- zBG]
   constructor
   ·intro h j h0 hj a b h1 h2;have:=h (j - 1) (by omega) a b h1;rw[show j - 1+1=j by omega] at this;exact this h2
   ·intro h j hj a b h1 h2;exact h (j+1) (by omega) (by omega) a b (by rw[Nat.add_sub_cancel]; exact h1) h2
  by_cases hq:∀j,j < n->∀a b,l[j]? = some a->l[j+1]? = some b->a < b
  ·have:=key.1 hq;exact⟨true,this,⟨fun _=>hiff.1 hq,fun _=>rfl⟩⟩
  ·have:=key.2 hq;exact⟨false,this,⟨fun h=>(by cases h),fun h=>absurd (hiff.2 h) hq⟩⟩
def zke(p:Pg)(l:List Int):Prop:=l.Pairwise (· < ·)/\∀v∈l,(0<=v/\v<=(p.Treaties.length:Int) - 1)/\ofB p.Treaties v.toNat=true
theorem zke.inc{p:Pg}{l:List Int}(h:zke p l):Inc p.Treaties.length 0 l:=⟨h.1,fun v hv=>by have:=(h.2 v hv).1; omega⟩
theorem zke.len{p:Pg}{l:List Int}(h:zke p l):l.length<=p.Treaties.length:=by have:=zxZ h.inc; omega
theorem zBI{p:Pg}(h:VP p){n:Int}:Ev (ztH p n) ((0<=n/\n<=(p.Treaties.length:Int) - 1)/\ofB p.Treaties n.toNat=true):=by
 have h5:=h.t5;refine(zyJ (zAh h).2.1).and fun hc=>?_;have hg:=List.getElem?_eq_getElem (show n.toNat < p.Treaties.length by omega);have e:=zrT hg;rw[show((n.toNat:Nat):Int)=n by omega] at e;rw[e,obs];have ho:=h.of' _ _ hg;exact Ev.dec (by rw[zAK hg,decide_eq_true_eq]; omega)
theorem zBJ{p:Pg}(h:VP p){l:List Int}(hl:zr3 l):Ev (ztI p l) (zke p l):=
 (zBH hl).and fun _=>(Ev.each (p:=fun a=>ztH p a) (q:=fun v=>(0<=v/\v<=(p.Treaties.length:Int) - 1)/\ofB p.Treaties v.toNat=true) (fun _ _=>zBI h) hl.lt gI).ret
def tyD:Ty:={ Kind:=0,Part:=0,Above:=0,Most:=0,Times:=0,Price:=0,Of:=-1 }
def tyA(ts:List Ty)(v:Int):Ty:=(ts[v.toNat]?).getD tyD
theorem zBK{ts:List Ty}{v:Int}{t:Ty}(h:ts[v.toNat]? = some t):tyA ts v=t:=by unfold tyA; rw[h]; rfl
theorem zBL{ts:List Ty}{v:Int}(h0:0<=v)(h1:v<=(ts.length:Int) - 1):ts[v.toNat]? = some (tyA ts v):=by
 have hg:=List.getElem?_eq_getElem (show v.toNat < ts.length by omega);rw[zBK hg,hg]
theorem zBM{ts:List Ty}{v:Int}(h0:0<=v)(h1:v<=(ts.length:Int) - 1):idx ts v=some (tyA ts v):=by
 have:=zrT (zBL h0 h1)
 rwa [show((v.toNat:Nat):Int)=v by omega] at this
def zBN(ts:List Ty):List Int->Int
 | []=>0
 | v::l=>(tyA ts v).Price+zBN ts l
theorem zBO{ts:List Ty}{v:Int}:∀l,zBN ts (l++[v])=zBN ts l+(tyA ts v).Price
 | []=>by show _+(0:Int)=0+_; omega
 | a::l=>by show _+zBN ts (l++[v])=_+zBN ts l+_; rw[zBO l]; omega
def InT(p:Pg)(l:List Int):Prop:=∀v∈l,0<=v/\v<=(p.Treaties.length:Int) - 1
theorem zBP{p:Pg}(h:VP p):∀{l:List Int},InT p l->0<=zBN p.Treaties l/\zBN p.Treaties l<=1000 * l.length
 | [],_=>⟨Int.le_refl _,by show(0:Int)<=1000 * ((0:Nat):Int); omega⟩
 | v::l,hl=>by
  have ih:=zBP h (l:=l) fun v hv=>hl v (List.mem_cons_of_mem _ hv);have hv:=hl v (List.mem_cons_self ..);have ht:=h.ts _ (List.mem_of_getElem? (zBL hv.1 hv.2));have h1:=ht.2
  show 0<=(tyA p.Treaties v).Price+zBN p.Treaties l/\(tyA p.Treaties v).Price+zBN p.Treaties l<=1000 * ((l.length+1:Nat):Int)
  omega
theorem zBQ{α:Type}{l:List α}{k:Nat}{a:α}(h:l[k]? = some a):l.take (k+1)=l.take k++[a]:=by rw[List.take_add_one,h]; rfl
theorem zBR{p:Pg}(h:VP p){l:List Int}(hl:InT p l)(h9:l.length<=9):ztK p l=some (zBN p.Treaties l):=by
 refine zym (n:=l.length) (fun d (s:Int) y=>ztJ p l d s y) (fun k=>zBN p.Treaties (l.take k)) (fun d k hk=>?_) (fun d=>?_) (l.length+1) 0 (by omega) (by omega)
 ·have hg:=List.getElem?_eq_getElem hk;have hv:=hl _ (List.getElem_mem hk);have hb:=zBP h (l:=l.take (k+1)) fun v hv=>hl v (List.mem_of_mem_take hv)
  have hlen:(l.take (k+1)).length<=9:=by rw[List.length_take]; omega
  rw[zBQ hg,zBO] at hb;rw[List.length_append,List.length_take] at hb
  simp only[List.length_singleton] at hb
  show ztJ p l (d+1) _ _=_
  rw[ztJ,if_pos (by omega),zrT hg,obs,zBM hv.1 hv.2,obs,zqs (fI (by omega)),zqs (fI (by omega)),zBQ hg,zBO]
 ·show ztJ p l (d+1) _ _=_
  rw[ztJ,if_neg (Int.lt_irrefl _),List.take_length]
def zBS(p:Pg)(l:List Int):Pg:={ Losses:=p.Losses,Reserve:=p.Reserve,Treaties:=l.map (tyA p.Treaties),Reports:=[] }
theorem zBT{p:Pg}{l:List Int}(hl:InT p l)(h9:l.length<=9):ztM p l=some (zBS p l):=by
 refine zym (n:=l.length) (fun d (s:List Ty) y=>ztL p l d p.Reserve s y) (fun k=>(l.take k).map (tyA p.Treaties)) (fun d k hk=>?_) (fun d=>?_) (l.length+1) 0 (by omega) (by omega)
 ·have hg:=List.getElem?_eq_getElem hk;have hv:=hl _ (List.getElem_mem hk)
  show ztL p l (d+1) _ _ _=_
  rw[ztL,if_pos (by omega),zrT hg,obs,zBM hv.1 hv.2,obs,zqs (by rw[List.length_map,List.length_take]; omega),zqs (fI (by omega)),zBQ hg,List.map_append]; rfl
 ·show ztL p l (d+1) _ _ _=_
  rw[ztL,if_neg (Int.lt_irrefl _),List.take_length]; rfl
theorem zke.inT{p:Pg}{l:List Int}(h:zke p l):InT p l:=fun v hv=>(h.2 v hv).1
theorem zke.ty{p:Pg}(h:VP p){l:List Int}(hs:zke p l){v:Int}(hv:v∈l):(tyA p.Treaties v).Of = -1:=by
 obtain⟨h1,h2⟩:=hs.2 v hv;have hg:=zBL h1.1 h1.2;rw[zAK hg,decide_eq_true_eq] at h2;have:=h.of' _ _ hg
 omega
theorem zBU{p:Pg}(h:VP p){l:List Int}(hs:zke p l):VP (zBS p l):=by
 have h5:=h.t5;have hl:=hs.len;refine { ls:=h.ls,res:=h.res,ts:=fun t ht=>?_,of':=fun i t ht=>?_,rs:=fun r hr=>(by cases hr),l4:=h.l4,t5:=?_,r5:=Nat.zero_le _,many:=h.many }
 ·obtain⟨v,hv,rfl⟩:=List.mem_map.1 ht;have:=hs.inT v hv;exact h.ts _ (List.mem_of_getElem? (zBL this.1 this.2))
 ·obtain⟨v,hv,rfl⟩:=List.mem_map.1 (List.mem_of_getElem? ht);rw[hs.ty h hv]; omega
 ·show(l.map (tyA p.Treaties)).length<=5
  rw[List.length_map]; omega
theorem zBV{b k:Nat}:∀e,∃T,zx1 b (k+e)=zx1 b k++T
 | 0=>⟨[],(List.append_nil _).symm⟩
 | e+1=>by
  obtain⟨T,hT⟩:=zBV (b:=b) (k:=k) e;refine⟨T++(if b.testBit (k+e) then [((k+e:Nat):Int)] else []),?_⟩
  show zx1 b (k+e)++_=_
  rw[hT,List.append_assoc]; rfl
theorem zBW{b n:Nat}(hn:n<=16)(hb:b < 2 ^ n):zx2 b=zx1 b n:=by
 unfold zx2;obtain⟨e,he⟩:∃e,16=n+e:=⟨16 - n,by omega⟩;rw[he];exact zx5 (fun q hq=>Nat.testBit_lt_two_pow (Nat.lt_of_lt_of_le hb (Nat.pow_le_pow_right (by omega) hq))) e
theorem zBX{b k n j:Nat}(hk:k<=n)(hj:j < (zx1 b k).length):(zx1 b n)[j]? = (zx1 b k)[j]?:=by
 obtain⟨T,hT⟩:=zBV (b:=b) (k:=k) (n - k);rw[show k+(n - k)=n by omega] at hT;rw[hT,List.getElem?_append_left hj]
theorem zBY{ts:List Ty}{b n:Nat}(hn:n=ts.length)(hof:∀k t,ts[k]? = some t->b.testBit k=true->t.Of = -1){P P':Nat->Int}(hP:∀(j:Nat) (v:Int),(zx1 b n)[j]? = some v->P' j=P v.toNat){x:Int}:∀k,k<=n ->
  (dN ((zx1 b n).map (tyA ts)) P' x (zx1 b k).length).soc=(a1 ts (fun k=>b.testBit k) P x k).2/\∀(j:Nat) (v:Int),j < (zx1 b k).length->(zx1 b n)[j]? = some v->(dN ((zx1 b n).map (tyA ts)) P' x (zx1 b k).length).pays j=(a1 ts (fun k=>b.testBit k) P x k).1 v.toNat
 | 0,_=>⟨rfl,fun j v h=>by cases h⟩
 | k+1,hk=>by
  obtain⟨i1,i2⟩:=zBY hn hof hP (x:=x) k (by omega);have hg:=List.getElem?_eq_getElem (show k < ts.length by omega);rw[zAx hg];have ht:=hof k _ hg;generalize ts[k]'(by omega)=t at hg ht
  cases hb:b.testBit k with
  | true=>
   have ho:=ht hb
   have e:zx1 b (k+1)=zx1 b k++[(k:Int)]:=by show zx1 b k++(if b.testBit k then _ else _)=_; rw[hb]; rfl
   have el:(zx1 b (k+1)).length=(zx1 b k).length+1:=by rw[e,List.length_append]; rfl
   have hm:(zx1 b n)[(zx1 b k).length]? = some (k:Int):=by
    rw[zBX (k:=k+1) hk (by omega),e,List.getElem?_append_right (Nat.le_refl _),Nat.sub_self]; rfl
   have hmt:((zx1 b n).map (tyA ts))[(zx1 b k).length]? = some t:=by
    rw[List.getElem?_map,hm];exact congrArg some (zBK (by rw[Int.toNat_natCast]; exact hg))
   rw[el,zzg hmt,if_pos ⟨by omega,rfl⟩];unfold zzf;rw[if_pos ho,i1,hP _ _ hm,Int.toNat_natCast];refine⟨rfl,fun j v hj hv=>?_⟩
   show upF _ (zx1 b k).length _ j=upF (a1 ts (fun k=>b.testBit k) P x k).1 k _ v.toNat
   by_cases hjm:j=(zx1 b k).length
   ·subst hjm;rw[hm] at hv
    cases hv
    rw[zyr,Int.toNat_natCast,zyr]
   ·rw[zys _ _ hjm,i2 j v (by omega) hv];have hv2:=hv;rw[zBX (k:=k) (by omega) (by omega)] at hv2;have:=zx3.1 (List.mem_of_getElem? hv2);rw[zys _ _ (by omega)]
  | false=>
   have e:zx1 b (k+1)=zx1 b k:=by show zx1 b k++(if b.testBit k then _ else _)=_; rw[hb]; exact List.append_nil _
   rw[e,if_neg fun h=>by cases h.2];exact⟨i1,i2⟩
theorem zBZ{ts:List Ty}{P now:Nat->Int}{j:Nat}(hj:ofB ts j=true):∀k,k<=ts.length->(a2 ts P now k).1 j=now j
 | 0,_=>rfl
 | k+1,hk=>by
  have hg:=List.getElem?_eq_getElem (show k < ts.length by omega);have hfk:=zAK hg;have ih:=zBZ (P:=P) (now:=now) hj k (by omega);rw[zAy hg];generalize ts[k]'(by omega)=t at hg hfk
  by_cases ho:0<=t.Of
  ·rw[if_pos ho]
   show upF (a2 ts P now k).1 k _ j=_
   rw[zys _ _ fun e=>by subst e; rw[hfk,decide_eq_true_eq] at hj; omega,ih]
  ·rw[if_neg ho,ih]
theorem zB0{ts:List Ty}{b:Nat}(hof:∀k t,ts[k]? = some t->b.testBit k=true->t.Of = -1):∀(L:List Int) (s:(Nat->Int) × Int) (o:DS),(∀(j:Nat) (v:Int),(zx1 b ts.length)[j]? = some v->o.pays j=s.1 v.toNat)->o.soc=s.2 ->
  (L.foldl (zzn ((zx1 b ts.length).map (tyA ts))) o).soc=(L.foldl (zAB ts fun k=>b.testBit k) s).2
 | [],_,_,_,h2=>h2
 | x::L,s,o,h1,h2=>by
  obtain⟨c1,c2⟩:=zBY rfl hof h1 (x:=x) ts.length (Nat.le_refl _);refine zB0 hof L (zAB ts (fun k=>b.testBit k) s x) (zzn ((zx1 b ts.length).map (tyA ts)) o x) (fun j v hv=>?_) ?_
  ·show o.pays j+(dN ((zx1 b ts.length).map (tyA ts)) o.pays x ((zx1 b ts.length).map (tyA ts)).length).pays j=s.1 v.toNat+(a2 ts s.1 (a1 ts (fun k=>b.testBit k) s.1 x ts.length).1 ts.length).1 v.toNat
   have hjl:=(List.getElem?_eq_some_iff.1 hv).1;have hmem:=zx3.1 (List.mem_of_getElem? hv);have hg:=List.getElem?_eq_getElem (show v.toNat < ts.length by omega);rw[List.length_map,h1 j v hv,c2 j v hjl hv,zBZ (by rw[zAK hg,hof _ _ hg hmem.2.2]; rfl) ts.length (Nat.le_refl _)]
  ·show o.soc+(dN ((zx1 b ts.length).map (tyA ts)) o.pays x ((zx1 b ts.length).map (tyA ts)).length).soc=s.2+(a1 ts (fun k=>b.testBit k) s.1 x ts.length).2
   rw[List.length_map,c1,h2]
theorem zB1{ts:List Ty}{b:Nat}(hof:∀k t,ts[k]? = some t->b.testBit k=true->t.Of = -1)(L:List Int):(zzo ((zx1 b ts.length).map (tyA ts)) L).soc=(zAC ts (fun k=>b.testBit k) L).2:=
 zB0 hof L (fun _=>0,0) zzm (fun _ _ _=>rfl) rfl
theorem zB2{ts:List Ty}{th th':Nat->Bool}{P:Nat->Int}{x:Int}(h:∀j,j < ts.length->th j=th' j):∀k,k<=ts.length->a1 ts th P x k=a1 ts th' P x k
 | 0,_=>rfl
 | k+1,hk=>by
  have hg:=List.getElem?_eq_getElem (show k < ts.length by omega);rw[zAx hg,zAx hg,zB2 h k (by omega),h k (by omega)]
theorem zB3{ts:List Ty}{th th':Nat->Bool}(h:∀j,j < ts.length->th j=th' j)(L:List Int):zAC ts th L=zAC ts th' L:=by
 have e:zAB ts th=zAB ts th':=by
  funext s x
  unfold zAB;rw[zB2 h ts.length (Nat.le_refl _)]
 unfold zAC;rw[e]
theorem RI.mono{ts:List Ty}{B B':Int}{s:(Nat->Int) × Int}(h:RI ts B s)(hB:B<=B'):RI ts B' s:=⟨by have:=h.net; omega,fun j=>by have:=h.pays j; omega,h.cap⟩
theorem zB4{ts:List Ty}{th:Nat->Bool}(hts:zzi ts):∀(L:List Int) (s:(Nat->Int) × Int) (B:Int),(∀x∈L,0<=x/\x<=1000)->RI ts B s->RI ts (B+1000 * L.length) (L.foldl (zAB ts th) s)
 | [],s,B,_,h=>h.mono (by show B<=B+1000 * ((0:Nat):Int); omega)
 | x::L,s,B,hL,h=>by
  have hx:=hL x (List.mem_cons_self ..);have h1:=(h.step (th:=th) hts (x:=x) (by omega)).mono (B':=B+1000) (by omega);refine(zB4 hts L _ _ (fun x hx=>hL x (List.mem_cons_of_mem _ hx)) h1).mono ?_;rw[List.length_cons]; omega
theorem zB5{p:Pg}(h:VP p){th:Nat->Bool}{L:List Int}(hL:inL p.Losses L):0<=(zAC p.Treaties th L).2/\(zAC p.Treaties th L).2<=4000:=by
 have h4:=h.l4;have hl:=zzB hL;have:=(zB4 (th:=th) h.tsOk L (fun _=>0,0) 0 (zzE hL h.ls) ⟨⟨Int.le_refl _,Int.le_refl _⟩,fun _=>⟨Int.le_refl _,Int.le_refl _⟩,zzp h.tsOk⟩).net;unfold zAC
 omega
def zB6(p:Pg):List (List Int):=(List.range (zyA p.Losses).toNat).map fun n:Nat=>zAW p.Losses (n:Int)
theorem zB7{p:Pg}(h:VP p){L:List Int}:L∈zB6 p↔inL p.Losses L:=by
 unfold zB6;rw[List.mem_map]
 constructor
 ·rintro⟨n,_,rfl⟩; exact h.nthIn (by omega)
 ·intro hL;obtain⟨n,n0,n1,rfl⟩:=zAY hL;exact⟨n.toNat,List.mem_range.2 (by omega),by rw[show((n.toNat:Nat):Int)=n by omega]⟩
def zB8(p:Pg)(th:Nat->Bool):Rg:=wdL (fun L=>(zAC p.Treaties th L).2) (zB6 p)
theorem zB9{p:Pg}{th th':Nat->Bool}(h:∀j,j < p.Treaties.length->th j=th' j):zB8 p th=zB8 p th':=by
 unfold zB8
 have:(fun L=>(zAC p.Treaties th L).2)=fun L=>(zAC p.Treaties th' L).2:=funext fun L=>by rw[zB3 h]
 rw[this]
theorem zCa{p:Pg}(h:VP p)(th:Nat->Bool):IsB (inL p.Losses) (fun L=>(zAC p.Treaties th L).2) (zB8 p th):=by
 obtain⟨L,hL⟩:=zzM h;refine(zBo (fun e=>?_) fun L hL=>?_).congr (fun L=>zB7 h) fun _ _=>rfl
 ·have:=(zB7 h).2 hL
  rw[e] at this; cases this
 ·have:=zB5 h (th:=th) ((zB7 h).1 hL); omega
theorem zCb{p:Pg}(h:VP p){b:Nat}(hb:b < 1000000):zsU p (b:Int)=some (zB8 p fun k=>b.testBit k):=by
 have hm:=h.many;have h1:=h.prodPos
 show(some emp).bind _=_
 rw[obs]
 have hlen:(zB6 p).length=(zyA p.Losses).toNat:=by unfold zB6; rw[List.length_map,List.length_range]
 refine zym (n:=(zyA p.Losses).toNat) (fun d (s:Rg) y=>zsT p (b:Int) d s.Lo s.Hi y) (fun k=>wdL (fun L=>(zAC p.Treaties (fun k=>b.testBit k) L).2) ((zB6 p).take k)) (fun d k hk=>?_) (fun d=>?_) 1000000 0 (by omega) (by omega)
 ·have hin:=h.nthIn (n:=(k:Int)) (by omega)
  have hg:(zB6 p)[k]? = some (zAW p.Losses (k:Int)):=by unfold zB6; rw[List.getElem?_map,List.getElem?_range hk]; rfl
  show zsT p (b:Int) (d+1) _ _ _=_
  rw[zsT,zy3 h,obs,if_pos (by omega),zA0 h (by omega),obs,zAJ h hb (zzE hin h.ls) (l9 h hin),obs,zBm hg]
  show(some (wd _ _)).bind _=_
  rw[obs,zqs (fI (by omega))]
 ·show zsT p (b:Int) (d+1) _ _ _=_
  rw[zsT,zy3 h,obs,if_neg (by omega),List.take_of_length_le (by rw[hlen]; exact Nat.le_refl _)]; rfl
theorem zke.bits{p:Pg}(h:VP p){b:Nat}(_hb:b < 2 ^ p.Treaties.length)(hs:zke p (zx2 b)):∀k t,p.Treaties[k]? = some t->b.testBit k=true->t.Of = -1:=fun k t hk hbk=>by
 have hkl:=(List.getElem?_eq_some_iff.1 hk).1;have h5:=h.t5
 have hm:((k:Nat):Int)∈zx2 b:=by unfold zx2; exact zx3.2 ⟨by omega,by omega,hbk⟩
 have:=hs.ty h hm
 rwa [zBK (t:=t) (by rw[Int.toNat_natCast]; exact hk)] at this
theorem zCc{p:Pg}(h:VP p){l:List Int}(hs:zke p l):zuh p l=some (zB8 p (inD l)):=by
 have h5:=h.t5;obtain⟨b,hb,hlb⟩:=zyl (n:=p.Treaties.length) (by omega) hs.inc;have hv:=zBU h hs;have hlen:=hs.len;have hof:=zke.bits h hb (by rw[hlb]; exact hs)
 have hth:∀j,j < p.Treaties.length->inD l j=b.testBit j:=fun j hj=>by
  rw[<- hlb]; exact zyk (n:=p.Treaties.length) (by omega) hj
 have hlF:l=zx1 b p.Treaties.length:=by rw[<- hlb]; exact zBW (by omega) hb
 obtain⟨L0,hL0⟩:=zzM h;have hcan:zz6 (zBS p l) (zBS p l).Reports:=⟨L0,hL0,fun r hr=>by cases hr⟩;obtain⟨r,a1,a2⟩:=zAg hv (number:=fun a=>ztP a) (g:=fun o=>o.society) (fun L _=>rfl) hcan
 have hnet:∀L,(zzo (l.map (tyA p.Treaties)) L).soc=(zAC p.Treaties (fun k=>b.testBit k) L).2:=fun L=>by
  rw[hlF]; exact zB1 hof L
 have e:r=zB8 p (inD l):=by
  rw[zB9 hth];have q:IsB (inL p.Losses) (fun L=>(zAC p.Treaties (fun k=>b.testBit k) L).2) r:=a2.congr (fun L=>⟨fun q=>q.1,fun q=>⟨q,fun r hr=>by cases hr⟩⟩) fun L _=>hnet L;exact q.uniq (zCa h fun k=>b.testBit k)
 unfold zuh;rw[zBT hs.inT (by omega),obs,zzW hv,obs];have a1':zua ({ p:=(zzQ (zBS p l) (zzI (zBS p l))).p,kinds:=(zzQ (zBS p l) (zzI (zBS p l))).kinds,shared:=(),played:=(zzQ (zBS p l) (zzI (zBS p l))).played }:Wk) (fun a=>ztP a)=some r:=a1;rw[a1',obs,e]
theorem zCd{p:Pg}(h:VP p){l:List Int}(hs:zke p l):zui p l=some (decide ((zB8 p (inD l)).Hi<=p.Reserve)):=by
 unfold zui;rw[zCc h hs,obs]
theorem zCe{p:Pg}(h:VP p){l:List Int}(hl:zr3 l)(hs:zke p l):zuj p l=some (zB8 p (inD l),0):=by
 unfold zuj;rw[zAi h,obs,if_pos rfl,(zBJ h hl).some_of hs,obs,if_pos rfl,zCc h hs,obs]
def zCf(p:Pg)(l:List Int)(m:Int):Prop:=zke p l/\zBN p.Treaties l<=m/\(zB8 p (inD l)).Hi<=p.Reserve
theorem zCg{p:Pg}(h:VP p){l:List Int}(hl:zr3 l){m:Int}:Ev (zuo p l m) (zCf p l m):=by
 have h5:=h.t5;unfold zuo;rw[zAi h,obs,if_pos rfl];refine((zBJ h hl).and fun hs=>(?_:Ev _ (zBN p.Treaties l<=m/\(zB8 p (inD l)).Hi<=p.Reserve)));have:=hs.len;rw[zBR h hs.inT (by omega),obs];refine Ev.ite fun _=>?_;rw[zCd h hs,obs];exact Ev.dec Iff.rfl
theorem zCh{l:List Int}(h:l.length<=100000):zt2 l=some l:=by
 unfold zt2;rw[zqs (by simp only[List.length_nil]; omega)]; rfl
def zCi(p:Pg)(D:List Int):Prop:=zke p D/\(zB8 p (inD D)).Hi<=p.Reserve
structure zCj (p:Pg) (M:List Int):Prop where
 good:zCi p M
 min:∀D,zCi p D->zBN p.Treaties M < zBN p.Treaties D\/(zBN p.Treaties M=zBN p.Treaties D/\(D=M\/shB M D=true))
theorem zCj.uniq{p:Pg}{M M':List Int}(h:zCj p M)(h':zCj p M'):M=M':=by
 rcases h.min M' h'.good with h1 | ⟨h1,h1'⟩ <;> rcases h'.min M h.good with h2 | ⟨h2,h2'⟩
 ·omega
 ·omega
 ·omega
 ·rcases h1' with h3 | h3
  ·exact h3.symm
  ·rcases h2' with h4 | h4
   ·exact h4
   ·rw[zya h3] at h4; cases h4
open Classical in
def zCk(p:Pg)(s:List Int × Bool)(D:List Int):List Int × Bool:=if zCi p D/\(s.2=true->zBN p.Treaties D < zBN p.Treaties s.1) then (D,true) else s
theorem zCl{p:Pg}{s:List Int × Bool}(h:s.2=true->zke p s.1)(D:List Int):(zCk p s D).2=true->zke p (zCk p s D).1:=by
 unfold zCk
 split
 ·rename_i hc; exact fun _=>hc.1.1
 ·exact h
theorem zCm{p:Pg}(h:VP p){x:Int}(hx:0<=x/\x<=1000){K:List Int->Bool->Int->Option (List Int × Bool)}:∀(q:List (List Int)) (s:List Int × Bool),(∀D∈q,Inc p.Treaties.length 0 D)->(s.2=true->zke p s.1) ->
  zuk p x K q s.1 s.2=K (q.foldl (zCk p) s).1 (q.foldl (zCk p) s).2 (x+1)/\((q.foldl (zCk p) s).2=true->zke p (q.foldl (zCk p) s).1)
 | [],s,_,hs=>⟨by rw[zuk,zqs (fI (by omega))]; rfl,hs⟩
 | D::q,s,hq,hs=>by
  have h5:=h.t5;have hD:=zxZ (hq D (List.mem_cons_self ..));have ih:=zCm h hx (K:=K) q (zCk p s D) (fun D hD=>hq D (List.mem_cons_of_mem _ hD)) (zCl hs D);refine⟨?_,ih.2⟩;refine Eq.trans ?_ ih.1;rw[zuk]
  have hD5:D.length<=5:=by omega
  by_cases hset:zke p D
  ·rw[(zBJ h (zr4 hD5 (by omega))).some_of hset,obs,if_pos rfl];have hg:zCi p D↔(zB8 p (inD D)).Hi<=p.Reserve:=⟨fun q=>q.2,fun q=>⟨hset,q⟩⟩;obtain⟨M,b⟩:=s
   cases b with
   | true=>
    have hM:=hs rfl;have hMl:M.length<=p.Treaties.length:=hM.len
    show(if true=true then _ else _)=_
    rw[if_pos rfl,zBR h hset.inT (by omega),obs]
    show(ztK p M).bind _=_
    rw[zBR h hM.inT (by show M.length<=9; omega),obs]
    by_cases hp:zBN p.Treaties M<=zBN p.Treaties D
    ·rw[if_pos hp]
     have e:zCk p (M,true) D=(M,true):=if_neg fun q=>by have:zBN p.Treaties D < zBN p.Treaties M:=q.2 rfl; omega
     rw[e]
    ·rw[if_neg hp,zCd h hset,obs]
     by_cases hk:(zB8 p (inD D)).Hi<=p.Reserve
     ·have e:zCk p (M,true) D=(D,true):=if_pos ⟨hg.2 hk,fun _=>by show zBN p.Treaties D < zBN p.Treaties M; omega⟩;rw[decide_eq_true hk,if_pos rfl,zCh (by omega),obs,e]
     ·have e:zCk p (M,true) D=(M,true):=if_neg fun q=>hk (hg.1 q.1);rw[decide_eq_false hk,if_neg (by decide),e]
   | false=>
    show(if false=true then _ else _)=_
    rw[if_neg (by decide),zCd h hset,obs]
    by_cases hk:(zB8 p (inD D)).Hi<=p.Reserve
    ·have e:zCk p (M,false) D=(D,true):=if_pos ⟨hg.2 hk,fun q=>(by cases q)⟩;rw[decide_eq_true hk,if_pos rfl,zCh (by omega),obs,e]
    ·have e:zCk p (M,false) D=(M,false):=if_neg fun q=>hk (hg.1 q.1);rw[decide_eq_false hk,if_neg (by decide),e]
  ·rw[(zBJ h (zr4 hD5 (by omega))).some_not hset,obs,if_neg (by decide)];have e:zCk p s D=s:=if_neg fun q=>hset q.1.1;rw[e]
theorem zCn{p:Pg}(h:VP p):∀(d e k:Nat) (s:List Int × Bool),k+e=p.Treaties.length+1->e < d->(s.2=true->zke p s.1)->zul p d s.1 s.2 (k:Int)=some ((zry (fun s=>zrz p.Treaties.length s [] 0) e k).foldl (zCk p) s)
 | 0,_,_,_,_,hd,_=>by omega
 | d+1,0,k,s,hk,hd,hs=>by
  rw[zul,if_neg (by omega)]; rfl
 | d+1,e+1,k,s,hk,hd,hs=>by
  have h5:=h.t5
  have hinc:∀D∈zrz p.Treaties.length k [] 0,Inc p.Treaties.length 0 D:=fun D hD=>by
   obtain⟨T,h1,_,h3⟩:=zxY.1 hD;rw[List.nil_append] at h1;rw[h1]; exact h3
  obtain⟨q1,q2⟩:=zCm h (x:=(k:Int)) (by omega) (K:=zul p d) (zrz p.Treaties.length k [] 0) s hinc hs;rw[zul,if_pos (by omega)];unfold zrC;rw[zqs (by omega),obs,Int.toNat_natCast,Int.toNat_natCast,q1,show(k:Int)+1=((k+1:Nat):Int) by omega];refine(zCn h d e (k+1) _ (by omega) (by omega) q2).trans ?_
  show _=some ((zrz p.Treaties.length k [] 0++zry (fun s=>zrz p.Treaties.length s [] 0) e (k+1)).foldl (zCk p) s)
  rw[List.foldl_append]
theorem zCo{p:Pg}(h:VP p):zum p=some ((zoj p.Treaties.length).foldl (zCk p) ([],false)):=by
 have h5:=h.t5;unfold zum;rw[zqs (fI (by omega))]
 exact zCn h _ (p.Treaties.length+1) 0 ([],false) (by omega) (by omega) fun q=>by cases q
structure zCp (p:Pg) (A:List (List Int)) (s:List Int × Bool):Prop where
 yes:s.2=true->s.1∈A/\zCi p s.1/\∀D∈A,zCi p D->zBN p.Treaties s.1 < zBN p.Treaties D\/(zBN p.Treaties s.1=zBN p.Treaties D/\(D=s.1\/shB s.1 D=true))
 no:s.2=false->s.1=[]/\∀D∈A,¬ zCi p D
theorem zCq{p:Pg}:∀(q A:List (List Int)) (s:List Int × Bool),(A++q).Pairwise (fun a b=>shB a b=true)->zCp p A s->zCp p (A++q) (q.foldl (zCk p) s)
 | [],A,s,_,h=>by rw[List.append_nil]; exact h
 | D::q,A,s,hp,h=>by
  have e:A++D::q=(A++[D])++q:=by rw[List.append_assoc]; rfl
  rw[e] at hp ⊢;refine zCq q (A++[D]) (zCk p s D) hp ?_;have hAD:∀a∈A,shB a D=true:=fun a ha=>(List.pairwise_append.1 (List.pairwise_append.1 hp).1).2.2 a ha D (List.mem_singleton.2 rfl)
  have hmem:∀D',D'∈A++[D]->D'∈A\/D'=D:=fun D' hD'=>by
   rcases List.mem_append.1 hD' with q | q
   ·exact .inl q
   ·exact .inr (List.mem_singleton.1 q)
  obtain⟨M,b⟩:=s
  by_cases hc:zCi p D/\(b=true->zBN p.Treaties D < zBN p.Treaties M)
  ·have e2:zCk p (M,b) D=(D,true):=if_pos hc;rw[e2];refine⟨fun _=>⟨List.mem_append_right _ (List.mem_singleton.2 rfl),hc.1,fun D' hD' hg=>?_⟩,fun q=>(by cases q)⟩
   rcases hmem D' hD' with hq | rfl
   ·cases b with
    | true=>
     have h1:zBN p.Treaties D < zBN p.Treaties M:=hc.2 rfl
     rcases (h.yes rfl).2.2 D' hq hg with h2 | ⟨h2,_⟩
     ·have h2:zBN p.Treaties M < zBN p.Treaties D':=h2;exact .inl (by show zBN p.Treaties D < _; omega)
     ·have h2:zBN p.Treaties M=zBN p.Treaties D':=h2;exact .inl (by show zBN p.Treaties D < _; omega)
    | false=>exact absurd hg ((h.no rfl).2 D' hq)
   ·exact .inr ⟨rfl,.inl rfl⟩
  ·have e2:zCk p (M,b) D=(M,b):=if_neg hc;rw[e2]
   cases b with
   | true=>
    refine⟨fun _=>?_,fun q=>(by cases q)⟩;obtain⟨y1,y2,y3⟩:=h.yes rfl;refine⟨List.mem_append_left _ y1,y2,fun D' hD' hg=>?_⟩
    rcases hmem D' hD' with hq | rfl
    ·exact y3 D' hq hg
    ·have h1:¬ zBN p.Treaties D' < zBN p.Treaties M:=fun q=>hc ⟨hg,fun _=>q⟩
     rcases Int.lt_or_eq_of_le (show zBN p.Treaties M<=zBN p.Treaties D' by omega) with h2 | h2
     ·exact .inl h2
     ·exact .inr ⟨h2,.inr (hAD M y1)⟩
   | false=>
    refine⟨fun q=>(by cases q),fun _=>⟨(h.no rfl).1,fun D' hD' hg=>?_⟩⟩
    rcases hmem D' hD' with hq | rfl
    ·exact(h.no rfl).2 D' hq hg
    ·exact hc ⟨hg,fun q=>(by cases q)⟩
theorem zCr{p:Pg}(h:VP p):(∃M,zum p=some (M,true)/\zCj p M)\/(zum p=some ([],false)/\∀D,¬ zCi p D):=by
 have hi:=zCq (p:=p) (zoj p.Treaties.length) [] ([],false) (zye _) ⟨fun q=>(by cases q),fun _=>⟨rfl,fun D hD=>by cases hD⟩⟩;rw[List.nil_append] at hi;rw[zCo h];generalize (zoj p.Treaties.length).foldl (zCk p) ([],false)=s at hi;have hall:∀D,zCi p D->D∈zoj p.Treaties.length:=fun D hD=>zx0.2 hD.1.inc;obtain⟨M,b⟩:=s
 cases b with
 | true=>
  obtain⟨_,y2,y3⟩:=hi.yes rfl;exact .inl ⟨M,rfl,y2,fun D hD=>y3 D (hall D hD) hD⟩
 | false=>
  obtain⟨n1,n2⟩:=hi.no rfl;have n1:M=[]:=n1;subst n1;exact .inr ⟨rfl,fun D hD=>n2 D (hall D hD) hD⟩
theorem zCs{p:Pg}(h:VP p):(∃M,zun p=some (M,zBN p.Treaties M,0)/\zCj p M)\/(zun p=some ([],0,10)/\∀D,¬ zCi p D):=by
 have h5:=h.t5;unfold zun;rw[zAi h,obs,if_pos rfl]
 rcases zCr h with ⟨M,q1,q2⟩ | ⟨q1,q2⟩
 ·have hl:=q2.good.1.len;refine .inl ⟨M,?_,q2⟩;rw[q1,obs]
  show(ztK p M).bind _=_
  rw[zBR h q2.good.1.inT (by omega),obs]
 ·refine .inr ⟨?_,q2⟩;rw[q1,obs]; rfl
end
end Go.Proofs.YtkcmdghjgoaggaaGreat

namespace Go.Proofs.YtkcmdghjgoaggaaGreat
open _root_.Go.Proofs.Tryz
open Go.Abs
set_option maxRecDepth 100000
noncomputable section
def zCt(p:Pg):Prop:=p.Losses.length<=7/\p.Treaties.length<=8/\p.Reports.length<=8
theorem VP.thin{p:Pg}(h:VP p):zCt p:=by
 have:=h.l4; have:=h.t5; have:=h.r5;exact⟨by omega,by omega,by omega⟩
def zCu(p:Pg):Prop:=zCt p/\(VP p->zyA p.Losses<=300)
theorem zCv{p:Pg}:Ev (zuD p) (zCu p):=by
 unfold zuD zCu zCt
 by_cases h1:p.Losses.length<=7
 ·rw[if_pos (by omega)]
  by_cases h2:p.Treaties.length<=8
  ·rw[if_pos (by omega)]
   by_cases h3:p.Reports.length<=8
   ·rw[if_pos (by omega),zy4 (by omega) (by omega) (by omega),obs]
    by_cases hf:zyB p=0
    ·have hv:=zyC.1 hf;rw[if_pos hf,zy3 hv,obs];exact Ev.dec ⟨fun q=>⟨⟨h1,h2,h3⟩,fun _=>q⟩,fun q=>q.2 hv⟩
    ·rw[if_neg hf];exact Ev.tt ⟨⟨h1,h2,h3⟩,fun q=>absurd (zyC.2 q) hf⟩
   ·rw[if_neg (by omega)]; exact Ev.ff fun q=>h3 q.1.2.2
  ·rw[if_neg (by omega)]; exact Ev.ff fun q=>h2 q.1.2.1
 ·rw[if_neg (by omega)]; exact Ev.ff fun q=>h1 q.1.1
theorem zCw{p:Pg}:Ev (zuJ p) (VP p/\zyA p.Losses<=300):=by
 unfold zuJ
 by_cases ht:zCu p
 ·obtain⟨⟨a,b,c⟩,ht2⟩:=ht;rw[zCv.some_of ⟨⟨a,b,c⟩,ht2⟩,obs,if_pos rfl,zy4 (by omega) (by omega) (by omega),obs];exact Ev.dec (zyC.trans ⟨fun q=>⟨q,ht2 q⟩,fun q=>q.1⟩)
 ·rw[zCv.some_not ht,obs,if_neg (by decide)];exact Ev.ff fun q=>ht ⟨q.1.thin,fun _=>q.2⟩
theorem zCx{p:Pg}(h:zCt p):zuA p=some p:=by
 obtain⟨h1,h2,h3⟩:=h
 have k2:zux p p.Losses p.Treaties 1000000 p.Reserve [] 0=some p:=by
  refine(zrZ (l:=p.Reports) (fun r=>r) (F:=fun d acc x=>zux p p.Losses p.Treaties d p.Reserve acc x) (fun acc=>some ({ Losses:=p.Losses,Reserve:=p.Reserve,Treaties:=p.Treaties,Reports:=acc }:Pg)) (fun d k acc a hk ha=>?_) (fun d acc=>?_) (d:=1000000) (by omega)).trans (by rw[List.map_id'])
  ·have hkl:=(List.getElem?_eq_some_iff.1 hk).1
   show zux p p.Losses p.Treaties (d+1) _ _ _=_
   rw[zux,if_pos (by omega),zrT hk,obs,obs]
   show(some a.Paid).bind _=_
   rw[obs,zqs (by omega),zqs (fI (by omega))]
  ·show zux p p.Losses p.Treaties (d+1) _ _ _=_
   rw[zux,if_neg (Int.lt_irrefl _)]
 have k1:zuy p p.Losses 1000000 p.Reserve [] [] 0=some p:=by
  refine(zrZ (l:=p.Treaties) (fun r=>r) (F:=fun d acc x=>zuy p p.Losses d p.Reserve acc [] x) (fun acc=>zux p p.Losses acc 1000000 p.Reserve [] 0) (fun d k acc a hk ha=>?_) (fun d acc=>?_) (d:=1000000) (by omega)).trans (by rw[List.map_id']; exact k2)
  ·have hkl:=(List.getElem?_eq_some_iff.1 hk).1
   show zuy p p.Losses (d+1) _ _ _ _=_
   rw[zuy,if_pos (by omega),zrT hk,obs,zqs (by omega),zqs (fI (by omega))]
  ·show zuy p p.Losses (d+1) _ _ _ _=_
   rw[zuy,if_neg (Int.lt_irrefl _)]
 refine(zrZ (l:=p.Losses) (fun r=>r) (F:=fun d acc x=>zuz p d acc p.Reserve [] [] x) (fun acc=>zuy p acc 1000000 p.Reserve [] [] 0) (fun d k acc a hk ha=>?_) (fun d acc=>?_) (d:=1000000) (by omega)).trans (by rw[List.map_id']; exact k1)
 ·have hkl:=(List.getElem?_eq_some_iff.1 hk).1
  show zuz p (d+1) _ _ _ _ _=_
  rw[zuz,if_pos (by omega),zrT hk,obs]
  show(some a).bind _=_
  rw[obs,zqs (by omega),zqs (fI (by omega))]
 ·show zuz p (d+1) _ _ _ _ _=_
  rw[zuz,if_neg (Int.lt_irrefl _)]
theorem zCy{l:List Int}(h:l.length<=1000):zuv l=some l:=by
 unfold zuv;rw[zqs (show([]:List Int).length+l.length<=1048576 by show 0+_<=_; omega)]; rfl
theorem zCz{l:List Int}(hl:l.length<=1000):zuC l l=some true:=by
 unfold zuC;rw[if_pos rfl]
 have key:=zr2 (l:=l) (F:=zuB l l) (ok:=fun _=>True) (bad:=some false) (fin:=some true) (fun d k a ha=>by
  have hk:=(List.getElem?_eq_some_iff.1 ha).1;refine⟨fun _=>?_,fun h=>absurd trivial h⟩
  rw[zuB,if_pos (by omega),zrT ha,obs,obs,if_pos rfl,zqs (fI (by omega))]) (fun d=>by rw[zuB,if_neg (Int.lt_irrefl _)]) (d:=l.length+1) (by omega)
 exact key.1 fun _ _=>trivial
def zCA(n:Int)(rs:List Rpt):Pg:={ Losses:=[{ Lo:=100,Hi:=120 },{ Lo:=300,Hi:=300 }],Reserve:=n,Treaties:=[{ Kind:=0,Part:=25,Above:=0,Most:=0,Times:=0,Price:=50,Of:=-1 },{ Kind:=1,Part:=0,Above:=50,Most:=100,Times:=0,Price:=30,Of:=-1 },{ Kind:=1,Part:=0,Above:=20,Most:=40,Times:=1,Price:=5,Of:=0 }],Reports:=rs }
def zCB:List Rpt:=[{ Treaty:=0,Paid:={ Lo:=103,Hi:=110 } },{ Treaty:=2,Paid:={ Lo:=45,Hi:=46 } }]
theorem zCC(rs:List Rpt):zuF rs=some (zCA 200 rs):=rfl
theorem zCD:zuG=some zCB:=rfl
theorem zCE(n:Int):zuH n=some (zCA n []):=rfl
theorem zCF{a b hi:Int}(h1:0<=a)(h2:a<=b)(h3:b<=hi):RgV { Lo:=a,Hi:=b } hi:=⟨h1,h2,h3⟩
theorem zCG{n:Int}{rs:List Rpt}(hn:0<=n/\n<=10000)(hr:rs.length<=5)(hrs:∀r∈rs,(0<=r.Treaty/\r.Treaty<=2)/\RgV r.Paid 10000):VP (zCA n rs):=by
 refine { ls:=fun r hr=>?_,res:=hn,ts:=fun t ht=>?_,of':=fun i t ht=>?_,rs:=fun r hr=>?_,l4:=by show 2<=4; omega,t5:=by show 3<=5; omega,r5:=hr,many:=by show zyA [{ Lo:=100,Hi:=120 },{ Lo:=300,Hi:=300 }]<=1500; decide }
 ·rcases List.mem_cons.1 hr with rfl | hr
  ·exact zCF (by omega) (by omega) (by omega)
  rcases List.mem_cons.1 hr with rfl | hr
  ·exact zCF (by omega) (by omega) (by omega)
  ·cases hr
 ·rcases List.mem_cons.1 ht with rfl | ht
  ·exact⟨by unfold zgo; decide,by decide,by decide⟩
  rcases List.mem_cons.1 ht with rfl | ht
  ·exact⟨by unfold zgo; decide,by decide,by decide⟩
  rcases List.mem_cons.1 ht with rfl | ht
  ·exact⟨by unfold zgo; decide,by decide,by decide⟩
  ·cases ht
 ·match i,ht with
  | 0,ht=>cases ht; exact⟨by decide,by decide⟩
  | 1,ht=>cases ht; exact⟨by decide,by decide⟩
  | 2,ht=>cases ht; exact⟨by decide,by decide⟩
  | k+3,ht=>cases ht
 ·exact⟨(hrs r hr).1,(hrs r hr).2⟩
theorem vp3(n:Int)(hn:0<=n/\n<=10000):VP (zCA n []):=zCG hn (by show 0<=5; omega) fun r hr=>by cases hr
theorem zCH:VP (zCA 200 zCB):=zCG (by omega) (by show 2<=5; omega) fun r hr=>by
 rcases List.mem_cons.1 hr with rfl | hr
 ·exact⟨⟨by decide,by decide⟩,zCF (by omega) (by omega) (by omega)⟩
 rcases List.mem_cons.1 hr with rfl | hr
 ·exact⟨⟨by decide,by decide⟩,zCF (by omega) (by omega) (by omega)⟩
 ·cases hr
theorem zCI{p:Pg}(h:VP p){D:List Int}(hD:Inc p.Treaties.length 0 D):∃b,b < 2 ^ p.Treaties.length/\zx2 b=D:=zyl (by have:=h.t5; omega) hD
theorem zCJ:zke (zCA 200 []) [1]:=⟨List.pairwise_singleton _ _,fun v hv=>by
 have:=List.mem_singleton.1 hv; subst this
 exact⟨⟨by decide,by decide⟩,by decide +kernel⟩⟩
theorem zCK:zCj (zCA 300 []) [0,1]:=by
 have hs:zke (zCA 300 []) [0,1]:=⟨by simp,fun v hv=>by
  rcases List.mem_cons.1 hv with rfl | hv
  ·exact⟨⟨by decide,by decide⟩,by decide +kernel⟩
  ·have:=List.mem_singleton.1 hv; subst this
   exact⟨⟨by decide,by decide⟩,by decide +kernel⟩⟩
 refine⟨⟨hs,by decide +kernel⟩,fun D hD=>?_⟩;obtain⟨b,hb,rfl⟩:=zCI (vp3 300 (by omega)) hD.1.inc;have hb:b < 8:=hb
 have:b=0\/b=1\/b=2\/b=3\/b=4\/b=5\/b=6\/b=7:=by omega
 rcases this with rfl | rfl | rfl | rfl | rfl | rfl | rfl | rfl
 ·exact absurd hD.2 (by decide +kernel)
 ·exact absurd hD.2 (by decide +kernel)
 ·exact absurd hD.2 (by decide +kernel)
 ·have e:zx2 3=[0,1]:=by decide +kernel
  rw[e]; exact .inr ⟨rfl,.inl rfl⟩
 ·exact absurd (hD.1.2 2 (by decide +kernel)).2 (by decide +kernel)
 ·exact absurd (hD.1.2 2 (by decide +kernel)).2 (by decide +kernel)
 ·exact absurd (hD.1.2 2 (by decide +kernel)).2 (by decide +kernel)
 ·exact absurd (hD.1.2 2 (by decide +kernel)).2 (by decide +kernel)
def okT(L:List Int):Bool:=decide (103<=(zzo (zCA 200 zCB).Treaties L).pays 0/\(zzo (zCA 200 zCB).Treaties L).pays 0<=110) && decide (45<=(zzo (zCA 200 zCB).Treaties L).pays 2/\(zzo (zCA 200 zCB).Treaties L).pays 2<=46)
theorem zCL:(zB6 (zCA 200 zCB)).all (fun L=>!okT L)=true:=by decide +kernel
theorem zCM:¬ zz6 (zCA 200 zCB) zCB:=by
 rintro⟨L,hL,hA⟩
 have h1:=hA _ (List.mem_cons_self ..);have h2:=hA _ (List.mem_cons_of_mem _ (List.mem_cons_self ..));have h3:=List.all_eq_true.1 zCL L ((zB7 zCH).2 hL)
 have h4:okT L=true:=by
  unfold okT;rw[Bool.and_eq_true_iff];exact⟨decide_eq_true h1,decide_eq_true h2⟩
 rw[h4] at h3; cases h3
theorem fp0:FP (zCA 200 zCB) 0:=⟨[112,300],⟨⟨by decide,by decide⟩,⟨by decide,by decide⟩,trivial⟩,fun r hr=>by
 have hr:r∈[({ Treaty:=0,Paid:={ Lo:=103,Hi:=110 } }:Rpt)]:=hr;have:=List.mem_singleton.1 hr; subst this
 exact(by decide +kernel:(103:Int)<=(zzo (zCA 200 zCB).Treaties [112,300]).pays 0/\(zzo (zCA 200 zCB).Treaties [112,300]).pays 0<=110)⟩
theorem zCN:zus (zCA 200 zCB)=some (1,0):=by
 rcases zBE zCH with ⟨j,a1,a2,a3,a4⟩ | ⟨a1,a2⟩
 ·have:j=1:=zBF (p:=zCA 200 zCB) a2 a3 (j':=1) zCM fun i hi=>by
   rw[show i=0 by omega]; exact fp0
  subst this; exact a4
 ·exact absurd (a1 1 (by show 1 < 2; omega)) zCM
theorem zCO:zuu (zCA 200 zCB)=some ([0],0):=by
 obtain⟨M,q1,q2⟩:=zBC zCH
 have hm:zAT 2 (PL (zCA 200 zCB)) [0]:=by
  refine⟨⟨List.pairwise_singleton _ _,fun v hv=>by have:=List.mem_singleton.1 hv; subst this; exact⟨by decide,by decide⟩⟩,⟨[100,300],⟨⟨by decide,by decide⟩,⟨by decide,by decide⟩,trivial⟩,fun j hj hs=>?_⟩,fun D hD hP=>?_⟩
  ·have hj:j < 2:=hj
   have:j=0\/j=1:=by omega
   rcases this with rfl | rfl
   ·exact absurd hs (by decide +kernel)
   ·refine(zBg (p:=zCA 200 zCB) (j:=1) rfl).2 ?_;exact(by decide +kernel:(45:Int)<=(zzo (zCA 200 zCB).Treaties [100,300]).pays 2/\(zzo (zCA 200 zCB).Treaties [100,300]).pays 2<=46)
  ·obtain⟨b,hb,rfl⟩:=zyl (n:=2) (by omega) hD;have hb:b < 4:=hb
   have:b=0\/b=1\/b=2\/b=3:=by omega
   rcases this with rfl | rfl | rfl | rfl
   ·refine absurd (zBl.2 ((PL.congr fun j hj=>?_).1 hP)) zCM;have hj:j < 2:=hj
    have:j=0\/j=1:=by omega
    rcases this with rfl | rfl <;> decide +kernel
   ·exact .inl (by decide +kernel)
   ·exact .inr (by decide +kernel)
   ·exact .inr (by decide +kernel)
 rw[q2.uniq hm] at q1;exact q1
theorem zCP:zz6 (zCA 200 []) (zCA 200 []).Reports:=⟨[100,300],⟨⟨by decide,by decide⟩,⟨by decide,by decide⟩,trivial⟩,fun r hr=>by cases hr⟩
theorem zCQ:zt5 (zCA 200 []) [100,300]=some ([100,100,45],200,0):=by
 rw[zAm (vp3 200 (by omega)) (L:=[100,300]) ⟨⟨by decide,by decide⟩,⟨by decide,by decide⟩,trivial⟩]
 have e1:lN (zCA 200 []).Treaties.length (zzo (zCA 200 []).Treaties [100,300]).pays=[100,100,45]:=by decide +kernel
 have e2:(zzo (zCA 200 []).Treaties [100,300]).soc=200:=by decide +kernel
 rw[e1,e2]
theorem zCR{r:Rg}{a b:Int}(h1:r.Lo=a)(h2:r.Hi=b):r={ Lo:=a,Hi:=b }:=by cases r; subst h1; subst h2; rfl
theorem zCS:zuf (zCA 200 [])=some (bsN 3 (bdF (zCA 200 []) (trL (zCA 200 []))),0):=by
 have h:=vp3 200 (by omega);obtain⟨bs,q1,q2⟩:=zAp h zCP;rw[q1,q2.uniq (zBr h zCP).1]; rfl
theorem bd0:bdF (zCA 200 []) (trL (zCA 200 [])) 0={ Pays:={ Lo:=100,Hi:=105 },Keeps:={ Lo:=55,Hi:=55 } }:=by
 have e1:=zCR (r:=(bdF (zCA 200 []) (trL (zCA 200 [])) 0).Pays) (a:=100) (b:=105) (by decide +kernel) (by decide +kernel);have e2:=zCR (r:=(bdF (zCA 200 []) (trL (zCA 200 [])) 0).Keeps) (a:=55) (b:=55) (by decide +kernel) (by decide +kernel);generalize bdF (zCA 200 []) (trL (zCA 200 [])) 0=b at e1 e2
 cases b; simp only at e1 e2; rw[e1,e2]
theorem bd2:bdF (zCA 200 []) (trL (zCA 200 [])) 2={ Pays:={ Lo:=45,Hi:=50 },Keeps:={ Lo:=45,Hi:=50 } }:=by
 have e1:=zCR (r:=(bdF (zCA 200 []) (trL (zCA 200 [])) 2).Pays) (a:=45) (b:=50) (by decide +kernel) (by decide +kernel);have e2:=zCR (r:=(bdF (zCA 200 []) (trL (zCA 200 [])) 2).Keeps) (a:=45) (b:=50) (by decide +kernel) (by decide +kernel);generalize bdF (zCA 200 []) (trL (zCA 200 [])) 2=b at e1 e2
 cases b; simp only at e1 e2; rw[e1,e2]
theorem zCT:zug (zCA 200 [])=some ({ Lo:=200,Hi:=215 },0):=by
 have h:=vp3 200 (by omega);obtain⟨r,q1,q2⟩:=zAq h zCP;rw[q1,q2.uniq (zBr h zCP).2,zCR (r:=wdL (fun L=>(zzo (zCA 200 []).Treaties L).soc) (trL (zCA 200 []))) (a:=200) (b:=215) (by decide +kernel) (by decide +kernel)]
theorem zCU:zuj (zCA 200 []) [1]=some ({ Lo:=300,Hi:=320 },0):=by
 rw[zCe (vp3 200 (by omega)) (by unfold zr3; decide) zCJ,zCR (r:=zB8 (zCA 200 []) (inD [1])) (a:=300) (b:=320) (by decide +kernel) (by decide +kernel)]
theorem zCV:zun (zCA 300 [])=some ([0,1],80,0):=by
 rcases zCs (vp3 300 (by omega)) with ⟨M,q1,q2⟩ | ⟨_,q2⟩
 ·rw[q1,q2.uniq zCK]; rfl
 ·exact absurd zCK.good (q2 _)
theorem zCW:zuo (zCA 300 []) [0,1] 80=some true:=
 (zCg (vp3 300 (by omega)) (by unfold zr3; decide)).some_of ⟨zCK.good.1,by decide +kernel,zCK.good.2⟩
theorem f64{n:Int}(h:-1000000<=n/\n<=1000000):zl7 .i64 n:=fI (by omega)
theorem zCX:zuI=some true:=by
 have i0:idx (bsN 3 (bdF (zCA 200 []) (trL (zCA 200 [])))) 0=some { Pays:={ Lo:=100,Hi:=105 },Keeps:={ Lo:=55,Hi:=55 } }:=by
  have:=zrT (zBq (n:=3) (f:=bdF (zCA 200 []) (trL (zCA 200 []))) (k:=0) (by omega));rw[bd0] at this; exact this
 have i2:idx (bsN 3 (bdF (zCA 200 []) (trL (zCA 200 [])))) 2=some { Pays:={ Lo:=45,Hi:=50 },Keeps:={ Lo:=45,Hi:=50 } }:=by
  have:=zrT (zBq (n:=3) (f:=bdF (zCA 200 []) (trL (zCA 200 []))) (k:=2) (by omega));rw[bd2] at this; exact this
 have hl:((bsN 3 (bdF (zCA 200 []) (trL (zCA 200 [])))).length:Int)=3:=by rw[zBp]; rfl
 have s1:zuC [100,100,45] [100,100,45]=some true:=zCz (by decide);have s2:zuC [0,1] [0,1]=some true:=zCz (by decide);have s3:zuC [0] [0]=some true:=zCz (by decide);have f:∀n:Int,-1000000<=n/\n<=1000000->zl7 .i64 n:=fun n h=>f64 h;unfold zuI
 simp only[zCC,zCD,zCE,obs,zCQ,zCS,zCT,zCU,zCV,zCN,zCO,s1,s2,s3,if_true,hl,i0,i2,zuE]
 rw[zqs (f 100 (by omega)),zqs (f 100 (by omega)),zqs (f 105 (by omega)),zqs (f 105 (by omega)),zqs (f 55 (by omega)),zqs (f 55 (by omega)),zqs (f 55 (by omega)),zqs (f 55 (by omega)),if_pos (by decide),zqs (f 45 (by omega)),zqs (f 45 (by omega)),zqs (f 50 (by omega)),zqs (f 50 (by omega)),zqs (f 45 (by omega)),zqs (f 45 (by omega)),zqs (f 50 (by omega)),zqs (f 50 (by omega)),if_pos (by decide),zqs (f 200 (by omega)),zqs (f 200 (by omega)),zqs (f 215 (by omega)),zqs (f 215 (by omega)),if_pos (by decide),zqs (f 300 (by omega)),zqs (f 300 (by omega)),zqs (f 320 (by omega)),zqs (f 320 (by omega)),if_pos (by decide)]
 simp only[zCW,obs,if_true]
theorem aw:((zuI).bind fun r=>some r)=some true:=by rw[zCX]; rfl
theorem zCY{x:Int}(h:zl7 .u16 x):zmc .i64 x=x/\0<=x/\x < 65536:=by
 have h':0<=x/\x < 65536:=h;exact⟨wz (fI (by omega)),h'⟩
def sS(ts:List Ty)(P:Nat->Int):Nat->Int
 | 0=>0
 | m+1=>match ts[m]? with
  | some t=>if t.Of < 0 then sS ts P m+P m else sS ts P m
  | none=>sS ts P m
theorem zCZ{ts:List Ty}{P:Nat->Int}{m:Nat}{t:Ty}(h:ts[m]? = some t):sS ts P (m+1)=if t.Of < 0 then sS ts P m+P m else sS ts P m:=by
 show(match ts[m]? with | some t=>_ | none=>_)=_
 rw[h]
theorem zC0{ts:List Ty}{P P':Nat->Int}:∀m,(∀j,j < m->P j=P' j)->sS ts P m=sS ts P' m
 | 0,_=>rfl
 | m+1,h=>by
  show(match ts[m]? with | some t=>if t.Of < 0 then sS ts P m+P m else sS ts P m | none=>sS ts P m)=(match ts[m]? with | some t=>if t.Of < 0 then sS ts P' m+P' m else sS ts P' m | none=>sS ts P' m)
  rw[zC0 m fun j hj=>h j (by omega),h m (by omega)]
theorem zC1{ts:List Ty}{P Q:Nat->Int}:∀m,sS ts (fun j=>P j+Q j) m=sS ts P m+sS ts Q m
 | 0=>rfl
 | m+1=>by
  have ih:=zC1 (ts:=ts) (P:=P) (Q:=Q) m
  show(match ts[m]? with | some t=>if t.Of < 0 then sS ts (fun j=>P j+Q j) m+(P m+Q m) else sS ts (fun j=>P j+Q j) m | none=>sS ts (fun j=>P j+Q j) m)=(match ts[m]? with | some t=>if t.Of < 0 then sS ts P m+P m else sS ts P m | none=>sS ts P m)+(match ts[m]? with | some t=>if t.Of < 0 then sS ts Q m+Q m else sS ts Q m | none=>sS ts Q m)
  rw[ih]
  cases ts[m]? with
  | none=>rfl
  | some t=>
   show(if t.Of < 0 then _ else _)=(if t.Of < 0 then _ else _)+(if t.Of < 0 then _ else _)
   by_cases hc:t.Of < 0
   ·rw[if_pos hc,if_pos hc,if_pos hc]; omega
   ·rw[if_neg hc,if_neg hc,if_neg hc]
theorem zC2{ts:List Ty}{P:Nat->Int}(hP:∀j,0<=P j/\P j<=100000):∀m,0<=sS ts P m/\sS ts P m<=100000 * m
 | 0=>⟨Int.le_refl _,by show(0:Int)<=100000 * ((0:Nat):Int); omega⟩
 | m+1=>by
  have ih:=zC2 (ts:=ts) hP m;have hm:=hP m
  show 0<=(match ts[m]? with | some t=>if t.Of < 0 then sS ts P m+P m else sS ts P m | none=>sS ts P m)/\(match ts[m]? with | some t=>if t.Of < 0 then sS ts P m+P m else sS ts P m | none=>sS ts P m)<=100000 * ((m+1:Nat):Int)
  cases ts[m]? with
  | none=>show 0<=sS ts P m/\sS ts P m<=_; omega
  | some t=>show 0<=(if t.Of < 0 then _ else _)/\(if t.Of < 0 then _ else _)<=_; split <;> omega
theorem zC3{ts:List Ty}(hts:zzi ts){P:Nat->Int}{x:Int}:∀m,m<=ts.length->(dN ts P x m).soc+sS ts (dN ts P x m).pays m=x
 | 0,_=>by show x+0=x; omega
 | m+1,hm=>by
  have ih:=zC3 hts (P:=P) (x:=x) m (by omega);have hg:=List.getElem?_eq_getElem (show m < ts.length by omega);have ho:=hts.o m _ hg;rw[zzg hg,zCZ hg];generalize ts[m]'(by omega)=t at hg ho;unfold zzf
  by_cases h1:t.Of = -1
  ·rw[if_pos h1,if_pos (by omega)]
   show _ - zy8 t _ _+(sS ts (upF (dN ts P x m).pays m _) m+upF (dN ts P x m).pays m _ m)=x
   rw[zyr,zC0 (P':=(dN ts P x m).pays) m fun j hj=>zys _ _ (by omega)]
   omega
  ·rw[if_neg h1,if_neg (by omega)]
   show(dN ts P x m).soc+sS ts (upF (dN ts P x m).pays m _) m=x
   rw[zC0 (P':=(dN ts P x m).pays) m fun j hj=>zys _ _ (by omega)];exact ih
theorem zC4{ts:List Ty}(hts:zzi ts):∀(L:List Int) (s:DS) (B:Int),s.soc+sS ts s.pays ts.length=B->(L.foldl (zzn ts) s).soc+sS ts (L.foldl (zzn ts) s).pays ts.length=B+zzq L
 | [],s,B,h=>by show s.soc+sS ts s.pays ts.length=B+0; omega
 | x::L,s,B,h=>by
  rw[zzs,<- Int.add_assoc];refine zC4 hts L (zzn ts s x) (B+x) ?_;have:=zC3 hts (P:=s.pays) (x:=x) ts.length (Nat.le_refl _)
  show s.soc+(dN ts s.pays x ts.length).soc+sS ts (fun j=>s.pays j+(dN ts s.pays x ts.length).pays j) ts.length=B+x
  rw[zC1]
  omega
theorem zC5{ts:List Ty}:∀m,sS ts (fun _=>0) m=0
 | 0=>rfl
 | m+1=>by
  show(match ts[m]? with | some t=>if t.Of < 0 then sS ts (fun _=>0) m+0 else sS ts (fun _=>0) m | none=>sS ts (fun _=>0) m)=0
  rw[zC5 m]
  cases ts[m]? with
  | none=>rfl
  | some t=>show(if _ then (0:Int)+0 else 0)=0; split <;> rfl
theorem zC6{ts:List Ty}(hts:zzi ts)(L:List Int):(zzo ts L).soc+sS ts (zzo ts L).pays ts.length=zzq L:=by
 have:=zC4 hts L zzm 0 (by show(0:Int)+sS ts (fun _=>0) ts.length=0; rw[zC5]; rfl);unfold zzo
 omega
theorem zC7{L:List Int}{k:Nat}{x:Int}(h:L[k]? = some x):zzq (L.take (k+1))=zzq (L.take k)+x:=by
 unfold zzq;rw[zBQ h,List.foldl_append]; rfl
theorem zC8{words:List W16}(hw:words.length<=maxLen/\∀a∈words,zsv a){i:Int}(hi:0<=i):∃w,zuK words i=some w/\0<=w/\w < 65536:=by
 have hml:=hw.1;unfold maxLen at hml;unfold zuK
 by_cases h0:(words.length:Int)=0
 ·rw[if_pos h0]; exact⟨0,rfl,by omega,by omega⟩
 ·have h1:=Int.emod_nonneg i (show(words.length:Int) ≠ 0 by omega);have h2:=Int.emod_lt_of_pos i (show(0:Int) < (words.length:Int) by omega);have hg:=List.getElem?_eq_getElem (show(i % (words.length:Int)).toNat < words.length by omega);have e:=zrT hg;rw[show(((i % (words.length:Int)).toNat:Nat):Int)=i % (words.length:Int) by omega] at e;have hv:zl7 .u16 (words[(i % (words.length:Int)).toNat]'(by omega)).v:=hw.2 _ (List.getElem_mem _);obtain⟨q1,q2⟩:=zCY hv;rw[if_neg h0,zqs hi,zqs (by omega),zqs (fI (by omega)),e,obs,q1];exact⟨_,rfl,q2⟩
def zC9(p:Pg)(rs:List Rpt):Pg:={ Losses:=p.Losses,Reserve:=p.Reserve,Treaties:=p.Treaties,Reports:=rs }
theorem zDa{p:Pg}(h:VP p){words:List W16}(hw:words.length<=maxLen/\∀a∈words,zsv a){T:List Int}{P:Nat->Int}(hP:∀j,0<=P j/\P j<=4000){z:Int}:∀(d k:Nat) (acc:List Rpt),k<=5->5 - k < d->acc.length=k->(∀r∈acc,zyx p r/\agR P r) ->
  ∃rs,zuL p words T (lN p.Treaties.length P,z) d p.Reserve acc (k:Int)=some (zC9 p rs,T)/\rs.length<=5/\∀r∈rs,zyx p r/\agR P r
 | 0,_,_,_,hd,_,_=>by omega
 | d+1,k,acc,hk,hd,hl,ha=>by
  have h5:=h.t5;obtain⟨w0,e0,b0,b1⟩:=zC8 hw (i:=0) (by omega);rw[zuL,e0,obs,zqs b0,zqs (by omega),zqs (fI (by omega))]
  by_cases c1:(k:Int) < w0 % 6
  ·rw[if_pos c1]
   by_cases c2:(0:Int) < p.Treaties.length
   ·obtain⟨w,e1,b2,b3⟩:=zC8 hw (i:=(k:Int)+1) (by omega);have m1:=Int.emod_nonneg w (show(p.Treaties.length:Int) ≠ 0 by omega);have m2:=Int.emod_lt_of_pos w c2;have hx:=hP (w % (p.Treaties.length:Int)).toNat;rw[if_pos c2,zqs (fI (by omega)),e1,obs]
    simp only[zAs h5 P m1 m2,obs]
    rw[zqs b2,zqs c2,zqs (fI (by omega)),zqs (by omega),zqs (by omega),zqs (fI (by omega)),zqs (by omega),zqs (by omega),zqs (fI (by omega)),zqs (fI (by omega)),zqs (by omega),zqs (by omega),zqs (fI (by omega)),zqs (by omega),zqs (by omega),zqs (fI (by omega)),zqs (fI (by omega)),zqs (by omega),zqs (fI (by omega)),show(k:Int)+1=((k+1:Nat):Int) by omega];refine zDa h hw hP d (k+1) _ (by omega) (by omega) (by rw[List.length_append,hl]; rfl) fun r hr=>?_
    rcases List.mem_append.1 hr with hr | hr
    ·exact ha r hr
    ·have:=List.mem_singleton.1 hr;subst this;refine⟨⟨⟨m1,by show w % (p.Treaties.length:Int)<=_; omega⟩,?_⟩,?_⟩
     ·show 0<=max 0 _/\max 0 _<=min 10000 _/\min 10000 _<=(10000:Int)
      omega
     ·show max 0 _<=P (w % (p.Treaties.length:Int)).toNat/\P (w % (p.Treaties.length:Int)).toNat<=min 10000 _
      omega
   ·rw[if_neg c2]; exact⟨acc,rfl,by omega,ha⟩
  ·rw[if_neg c1]; exact⟨acc,rfl,by omega,ha⟩
theorem zDb{p:Pg}(h:VP p){words:List W16}(hw:words.length<=maxLen/\∀a∈words,zsv a){which:Int}(hwh:zl7 .u16 which):∃rs T,zuM p which words=some (zC9 p rs,T)/\rs.length<=5/\inL p.Losses T/\∀r∈rs,zyx p r/\agR (zzo p.Treaties T).pays r:=by
 obtain⟨w1,w2⟩:=zCY hwh;have hm:=h.many;have h1:=h.prodPos;have m1:=Int.emod_nonneg which (show zyA p.Losses ≠ 0 by omega);have m2:=Int.emod_lt_of_pos which (show 0 < zyA p.Losses by omega);have hin:=h.nthIn (n:=which % zyA p.Losses) m1;obtain⟨ob,_,_⟩:=zBi h hin
 obtain⟨rs,q1,q2,q3⟩:=zDa h hw (T:=zAW p.Losses (which % zyA p.Losses)) (P:=(zzo p.Treaties (zAW p.Losses (which % zyA p.Losses))).pays) ob (z:=(zzo p.Treaties (zAW p.Losses (which % zyA p.Losses))).soc) 1000000 0 [] (by omega) (by omega) rfl fun r hr=>by cases hr
 refine⟨rs,_,?_,q2,hin,q3⟩;unfold zuM;rw[zy3 h,obs,w1,zqs w2.1,zqs (by omega),zqs (fI (by omega)),zA0 h (by omega),obs,zBe h,obs,zBf h hin,obs];exact q1
theorem zDc{p:Pg}(h:VP p){rs:List Rpt}(hl:rs.length<=5)(hr:∀r∈rs,zyx p r):VP (zC9 p rs):={ ls:=h.ls,res:=h.res,ts:=h.ts,of':=h.of',rs:=hr,l4:=h.l4,t5:=h.t5,r5:=hl,many:=h.many }
theorem zDd{n:Int}{r:Rg}:Ev (zuN n r) (r.Lo<=n/\n<=r.Hi):=Ev.ite fun _=>Ev.dec Iff.rfl
theorem zDe{p:Pg}{which:Int}{words:List W16}(_:zss p)(hwh:zl7 .u16 which)(hw:words.length<=maxLen/\∀a∈words,zsv a):zuS p which words=some true:=by
 unfold zuS
 refine zCw.pick (fun hv=>?_) fun _=>by rw[if_neg (by decide),aw]
 have h0:=hv.1;obtain⟨rs,T,e1,hrl,hT,hrs⟩:=zDb h0 hw hwh;have h:=zDc h0 hrl fun r hr=>(hrs r hr).1;have h5:p.Treaties.length<=5:=h.t5;have hlT:T.length<=9:=l9 h hT;have hTr:TrS (zC9 p rs) rs T:=⟨hT,fun r hr=>(hrs r hr).2⟩;have hc:zz6 (zC9 p rs) (zC9 p rs).Reports:=⟨T,hTr⟩;obtain⟨bs,q1,q2⟩:=zAp h hc;obtain⟨rn,q3,q4⟩:=zAq h hc;obtain⟨M,q5,q6⟩:=zBC h
 have hM:M=[]:=by
  have hP:PL (zC9 p rs) (inD []):=⟨T,hT,fun j hj _=>(zBg (List.getElem?_eq_getElem hj)).2 (hrs _ (List.getElem_mem hj)).2⟩
  rcases q6.min [] ⟨.nil,fun v hv=>by cases hv⟩ hP with e | e
  ·exact e.symm
  ·rcases zx9.1 e with e | ⟨e,_⟩
   ·exact absurd e (Nat.not_lt_zero _)
   ·exact List.eq_nil_of_length_eq_zero e
 have hF:zus (zC9 p rs)=some (0,7):=by
  rcases zBE h with ⟨j,a1,a2,a3,a4⟩ | ⟨_,a2⟩
  ·exact absurd ⟨T,hT,fun r hr=>(hrs r (List.mem_of_mem_take hr)).2⟩ a2
  ·exact a2
 subst hM;have hbl:bs.length=p.Treaties.length:=q2.len;have hth:=h.thin;rw[if_pos rfl,e1,obs]
 show((zuA (zC9 p rs)).bind fun r3760=>((zuv T).bind fun r3774=>_))=_
 simp only[zCx hth,zCy (show T.length<=1000 by omega),obs]
 rw[zAm h hT,obs,q1,obs,q3,obs,q5,obs,hF,obs]
 show(if (0:Int)=0 then (if (0:Int)=0 then (if (0:Int)=0 then (if (0:Int)=0 then (if ((([]:List Int).length:Nat):Int)=0 then (if (7:Int)=7 then (if ((lN p.Treaties.length (zzo p.Treaties T).pays).length:Int)=(p.Treaties.length:Int) then (if (bs.length:Int)=((lN p.Treaties.length (zzo p.Treaties T).pays).length:Int) then (zuR (zC9 p rs,T) (lN p.Treaties.length (zzo p.Treaties T).pays,(zzo p.Treaties T).soc,0) (bs,0) (rn,0) (T.length+1) 0 0) else _) else _) else _) else _) else _) else _) else _) else _)=_
 rw[if_pos rfl,if_pos rfl,if_pos rfl,if_pos rfl,if_pos (show((([]:List Int).length:Nat):Int)=0 from rfl),if_pos rfl,if_pos (by rw[zAk h5]),if_pos (by rw[zAk h5,hbl])];obtain⟨si,s0,s4⟩:=zzS h hT;have si:SI p.Treaties (zzq T) (zzo p.Treaties T):=si;have hsum:=zC6 (ts:=p.Treaties) h0.tsOk T
 have k1:zuQ (zC9 p rs,T) (lN p.Treaties.length (zzo p.Treaties T).pays,(zzo p.Treaties T).soc,0) (bs,0) (rn,0) (zzq T) ((lN p.Treaties.length (zzo p.Treaties T).pays).length+1) (zzo p.Treaties T).soc 0=some true:=by
  have key:=zym (n:=p.Treaties.length) (fun d (s:Int) y=>zuQ (zC9 p rs,T) (lN p.Treaties.length (zzo p.Treaties T).pays,(zzo p.Treaties T).soc,0) (bs,0) (rn,0) (zzq T) d s y) (fun k=>(zzo p.Treaties T).soc+sS p.Treaties (zzo p.Treaties T).pays k) (fin:=some true) (fun d k hk=>?_) (fun d=>?_) ((lN p.Treaties.length (zzo p.Treaties T).pays).length+1) 0 (by omega) (by rw[zAk h5]; omega)
  ·have e0:(zzo p.Treaties T).soc+sS p.Treaties (zzo p.Treaties T).pays 0=(zzo p.Treaties T).soc:=by show _+(0:Int)=_; omega
   rw[e0] at key; exact key
  ·have hg:=List.getElem?_eq_getElem hk;have hkd:=h0.tsOk.k _ (List.getElem_mem hk);have hcap:=si.cap k _ hg;have hgb:=List.getElem?_eq_getElem (show k < bs.length by omega);obtain⟨bp,bk⟩:=q2.at' k _ hgb;have hbp:=bp.2.2 T hTr;have hbk:=bk.2.2 T hTr;have hbp:bs[k].Pays.Lo<=(zzo p.Treaties T).pays k/\(zzo p.Treaties T).pays k<=bs[k].Pays.Hi:=hbp;have hbk:bs[k].Keeps.Lo<=(zzo p.Treaties T).keeps k/\(zzo p.Treaties T).keeps k<=bs[k].Keeps.Hi:=hbk;have hpk:=si.pays k;have hkk:=si.keeps k;have hsb:=si.soc;have hss:=zC2 (ts:=p.Treaties) (P:=(zzo p.Treaties T).pays) (fun j=>by have:=si.pays j; omega) k
   have hkp:zuP (zC9 p rs) (lN p.Treaties.length (zzo p.Treaties T).pays) (k:Int)=some ((zzo p.Treaties T).keeps k):=by
    rw[zA9 h0.tsOk hk];exact zBb h (fun j=>by have:=si.pays j; omega) hk
   have hcp:=zy9 hkd;unfold zy7 at hcap hcp
   show zuQ (zC9 p rs,T) _ (bs,0) (rn,0) (zzq T) (d+1) _ _=_
   rw[zCZ hg,zuQ]
   show(if (k:Int) < ((lN p.Treaties.length (zzo p.Treaties T).pays).length:Int) then ((idx p.Treaties (k:Int)).bind fun v3922=>((zuP (zC9 p rs) (lN p.Treaties.length (zzo p.Treaties T).pays) (k:Int)).bind fun r3941=>_)) else _)=_
   rw[if_pos (by rw[zAk h5]; omega),zrT hg,obs,hkp,obs]
   simp only[zAr h5 _ hk,zrT hgb,obs,zDd.some_of hbp,zDd.some_of hbk,if_true]
   generalize p.Treaties[k]=t at hg hkd hcap hcp;rw[if_neg (show ¬ (zzo p.Treaties T).keeps k < 0 by omega)]
   by_cases ho:t.Of < 0
   ·rw[if_pos ho,if_pos ho,zqs (fI (by omega)),if_neg (by omega),if_neg (by omega)]
    by_cases h1:t.Kind=1
    ·have hT3:0<=t.Most/\0<=t.Times/\t.Times<=3:=by
      rcases hkd with ⟨q,_⟩ | ⟨_,_,_,q1,q2,q3⟩ <;> omega
     rw[if_pos h1,zqs (fI (by omega)),zqs (by omega),zqs (by omega),zqs (fI (by omega)),if_neg (by have:=hcap h1; omega),zqs (fI (by omega)),Int.add_assoc]
    ·rw[if_neg h1,zqs (fI (by omega)),Int.add_assoc]
   ·rw[if_neg ho,if_neg ho,if_neg (by omega),if_neg (by omega),if_neg (by omega)]
    by_cases h1:t.Kind=1
    ·have hT3:0<=t.Most/\0<=t.Times/\t.Times<=3:=by
      rcases hkd with ⟨q,_⟩ | ⟨_,_,_,q1,q2,q3⟩ <;> omega
     rw[if_pos h1,zqs (fI (by omega)),zqs (by omega),zqs (by omega),zqs (fI (by omega)),if_neg (by have:=hcap h1; omega),zqs (fI (by omega))]
    ·rw[if_neg h1,zqs (fI (by omega))]
  ·have hsn:=q4.2.2 T hTr;have hsn:rn.Lo<=(zzo p.Treaties T).soc/\(zzo p.Treaties T).soc<=rn.Hi:=hsn
   show zuQ (zC9 p rs,T) _ (bs,0) (rn,0) (zzq T) (d+1) _ _=_
   rw[zuQ]
   show(if ((p.Treaties.length:Nat):Int) < ((lN p.Treaties.length (zzo p.Treaties T).pays).length:Int) then _ else (if _=zzq T then (if (0:Int)<=(zzo p.Treaties T).soc then ((zuN (zzo p.Treaties T).soc rn).bind fun r4102=>_) else _) else _))=_
   rw[if_neg (by rw[zAk h5]; omega),if_pos hsum,if_pos si.soc.1,zDd.some_of hsn,obs,if_pos rfl,aw]
 refine(zym (n:=T.length) (fun d (s:Int) y=>zuR (zC9 p rs,T) (lN p.Treaties.length (zzo p.Treaties T).pays,(zzo p.Treaties T).soc,0) (bs,0) (rn,0) d s y) (fun k=>zzq (T.take k)) (fun d k hk=>?_) (fun d=>?_) (T.length+1) 0 (by omega) (by omega)).trans k1
 ·have hg:=List.getElem?_eq_getElem hk;have hx:=zzE hT h0.ls _ (List.getElem_mem hk);have hb:=zzv (L:=T.take k) fun x hx=>zzE hT h0.ls x (List.mem_of_mem_take hx);rw[List.length_take] at hb
  show zuR (zC9 p rs,T) _ (bs,0) (rn,0) (d+1) _ _=_
  rw[zuR]
  show(if (k:Int) < (T.length:Int) then ((idx T (k:Int)).bind fun x3914=>_) else _)=_
  rw[if_pos (by omega),zrT hg,obs,zqs (fI (by omega)),zqs (fI (by omega)),zC7 hg]
 ·show zuR (zC9 p rs,T) _ (bs,0) (rn,0) (d+1) _ _=_
  rw[zuR]
  show(if (T.length:Int) < (T.length:Int) then _ else _)=_
  rw[if_neg (Int.lt_irrefl _),List.take_length]
end
end Go.Proofs.YtkcmdghjgoaggaaGreat

namespace Go.Proofs.YtkcmdghjgoaggaaGreat
open _root_.Go.Proofs.Tryz
open Go.ChangeShapes Go.WideShapes Go.ChangeAt Go.RowKit Go.Abs
set_option maxRecDepth 100000
theorem op3:zsc prog 3 Int (zl7 .i64):=zsd (by kernel_rfl)
theorem zDf:zsc prog 55 Rg zsm:=zsk (fs:=[(3,0),(3,1)]) (by kernel_rfl) (by kernel_rfl) (zsj (α:=Int) (ok:=zl7 .i64) (k:=1) op3 (by kernel_rfl) rfl (zsj (α:=Int) (ok:=zl7 .i64) (k:=1) op3 (by kernel_rfl) rfl zsi)) (by kernel_rfl) fun m vs h=>by
 obtain⟨a0,c0,r0,m0,h0,p0,k0,s0,⟨a1,c1,r1,m1,h1,p1,k1,s1,rfl⟩⟩:=h;have p0:c0=[.int .i64 a0]:=p0; subst p0;have p1:c1=[.int .i64 a1]:=p1; subst p1;subst h1 h0;exact⟨⟨a0,a1⟩,rfl,⟨k0,k1⟩⟩
theorem zDg:zsc prog 22 (List Rg) (fun l=>l.length<=maxLen/\∀a0∈l,zsm a0):=zsf (by kernel_rfl) (by kernel_rfl) zDf
theorem zDh:zsc prog 87 Ty zso:=zsk (fs:=[(3,0),(3,1),(3,2),(3,3),(3,4),(3,5),(3,6)]) (by kernel_rfl) (by kernel_rfl) (zsj (α:=Int) (ok:=zl7 .i64) (k:=1) op3 (by kernel_rfl) rfl (zsj (α:=Int) (ok:=zl7 .i64) (k:=1) op3 (by kernel_rfl) rfl (zsj (α:=Int) (ok:=zl7 .i64) (k:=1) op3 (by kernel_rfl) rfl (zsj (α:=Int) (ok:=zl7 .i64) (k:=1) op3 (by kernel_rfl) rfl (zsj (α:=Int) (ok:=zl7 .i64) (k:=1) op3 (by kernel_rfl) rfl (zsj (α:=Int) (ok:=zl7 .i64) (k:=1) op3 (by kernel_rfl) rfl (zsj (α:=Int) (ok:=zl7 .i64) (k:=1) op3 (by kernel_rfl) rfl zsi))))))) (by kernel_rfl) fun m vs h=>by
 obtain⟨a0,c0,r0,m0,h0,p0,k0,s0,⟨a1,c1,r1,m1,h1,p1,k1,s1,⟨a2,c2,r2,m2,h2,p2,k2,s2,⟨a3,c3,r3,m3,h3,p3,k3,s3,⟨a4,c4,r4,m4,h4,p4,k4,s4,⟨a5,c5,r5,m5,h5,p5,k5,s5,⟨a6,c6,r6,m6,h6,p6,k6,s6,rfl⟩⟩⟩⟩⟩⟩⟩:=h;have p0:c0=[.int .i64 a0]:=p0; subst p0;have p1:c1=[.int .i64 a1]:=p1; subst p1;have p2:c2=[.int .i64 a2]:=p2; subst p2;have p3:c3=[.int .i64 a3]:=p3; subst p3;have p4:c4=[.int .i64 a4]:=p4; subst p4;have p5:c5=[.int .i64 a5]:=p5; subst p5;have p6:c6=[.int .i64 a6]:=p6; subst p6;subst h6 h5 h4 h3 h2 h1 h0;exact⟨⟨a0,a1,a2,a3,a4,a5,a6⟩,rfl,⟨k0,k1,k2,k3,k4,k5,k6⟩⟩
theorem zDi:zsc prog 23 (List Ty) (fun l=>l.length<=maxLen/\∀a0∈l,zso a0):=zsf (by kernel_rfl) (by kernel_rfl) zDh
theorem zDj:zsc prog 96 Rpt zsq:=zsk (fs:=[(3,0),(55,1)]) (by kernel_rfl) (by kernel_rfl) (zsj (α:=Int) (ok:=zl7 .i64) (k:=1) op3 (by kernel_rfl) rfl (zsj (α:=Rg) (ok:=zsm) (k:=2) zDf (by kernel_rfl) rfl zsi)) (by kernel_rfl) fun m vs h=>by
 obtain⟨a0,c0,r0,m0,h0,p0,k0,s0,⟨a1,c1,r1,m1,h1,p1,k1,s1,rfl⟩⟩:=h;have p0:c0=[.int .i64 a0]:=p0; subst p0;have p1:c1=[.int .i64 a1.Lo,.int .i64 a1.Hi]:=p1; subst p1;subst h1 h0;exact⟨⟨a0,a1⟩,rfl,⟨k0,k1⟩⟩
theorem zDk:zsc prog 24 (List Rpt) (fun l=>l.length<=maxLen/\∀a0∈l,zsq a0):=zsf (by kernel_rfl) (by kernel_rfl) zDj
theorem zDl:zsc prog 26 Pg zss:=zsk (fs:=[(22,0),(3,1),(23,2),(24,3)]) (by kernel_rfl) (by kernel_rfl) (zsj (α:=List Rg) (ok:=(fun l=>l.length<=maxLen/\∀a0∈l,zsm a0)) (k:=1) zDg (by kernel_rfl) rfl (zsj (α:=Int) (ok:=zl7 .i64) (k:=1) op3 (by kernel_rfl) rfl (zsj (α:=List Ty) (ok:=(fun l=>l.length<=maxLen/\∀a0∈l,zso a0)) (k:=1) zDi (by kernel_rfl) rfl (zsj (α:=List Rpt) (ok:=(fun l=>l.length<=maxLen/\∀a0∈l,zsq a0)) (k:=1) zDk (by kernel_rfl) rfl zsi)))) (by kernel_rfl) fun m vs h=>by
 obtain⟨a0,c0,r0,m0,h0,p0,k0,s0,⟨a1,c1,r1,m1,h1,p1,k1,s1,⟨a2,c2,r2,m2,h2,p2,k2,s2,⟨a3,c3,r3,m3,h3,p3,k3,s3,rfl⟩⟩⟩⟩:=h;obtain⟨d0,rfl,p0⟩:=p0;have p1:c1=[.int .i64 a1]:=p1; subst p1;obtain⟨d2,rfl,p2⟩:=p2;obtain⟨d3,rfl,p3⟩:=p3;subst h3 h2 h1 h0;exact⟨⟨a0,a1,a2,a3⟩,⟨_,_,_,rfl,p0,p2,p3⟩,⟨k0,k1,k2,k3⟩⟩
theorem zDm:zsc prog 82 W16 zsv:=fun H enc W held n cs x hx e m hl=>by
 obtain⟨i,rfl,_,hw⟩:=DataW.trod_int (show prog.underlying 82=some (.int .u16) by kernel_rfl) hx;exact⟨e,m,[.int .u16 i],⟨i⟩,.refl _,.refl _,hl,.cons rfl .nil,rfl,zqB hw⟩
theorem zDn:zsc prog 83 (List W16) (fun l=>l.length<=maxLen/\∀a0∈l,zsv a0):=zsf (by kernel_rfl) (by kernel_rfl) zDm
theorem zDo:laidOutB prog=true:=by kernel_rfl
theorem zDp:ownKnob prog.godebug=none:=by kernel_rfl
theorem zDq(os:Os)(started:os.Started)(H:Type)(enc:TypeId × Value->H) :
    ReturnsInHanded {} Tryz.checked os 8 .any (Rows.treatyTruthSpec.pre6 enc Tryz.prog Tryz.f8 Rows.treatyTruthRow.domain false) (Rows.treatyTruthSpec.post enc Tryz.prog Tryz.f8 false true false false):=by
  refine returnsInHanded_of_change (C:=Tryz.checked) zDp started (by kernel_rfl) Tryz.func8
    (ChangeSpec.witness6 (enc:=enc) (C:=Tryz.checked) false ⟨#[],#[.agg #[.slice none 0 0,.int .i64 0,.slice none 0 0,.slice none 0 0],.int .u16 0,.slice none 0 0],[]⟩ 8 (by kernel_rfl) (by kernel_rfl) (by kernel_rfl) (by kernel_rfl)) ?_
  intro W base args ds gs before hval0 hW hcnd _;have hval:∀(j:Nat) t v,Tryz.f8.params[j]? = some t->args[j]? = some v->Value.okWide Tryz.prog W .any base t v:=hval0;have hW':=hW;obtain⟨p,q,hA0,hV,rfl,hfz,hnd⟩:=hW;have hA:DataW.TrodAll enc Tryz.prog W 0 (fun _=>true) true Tryz.f8.params.toList args.toList ds p:=hA0;rw[Tryz.params8] at hA hval;obtain⟨v0,v1,v2,d0,d1,d2,p0,p1,p2,rfl,rfl,rfl,h0,h1,h2⟩:=trodAll_three hA;obtain⟨rfl,rfl⟩:=trodVars_none hV;obtain⟨n1,hv1⟩:=okWide_int Tryz.underlying82 (hval 1 82 v1 rfl rfl);obtain⟨a2,len2,cap2,hv2⟩:=okWide_slice Tryz.underlying83 (hval 2 83 v2 rfl rfl)
  have hlt:∀x∈p0++p1++p2,x.block < W.heap.size:=fun x hx=>by simpa using hW'.lt x (by simpa using hx)
  obtain⟨fu0,hf0⟩:=id h0;obtain⟨fu1,hf1⟩:=id h1;obtain⟨fu2,hf2⟩:=id h2
  clear hA0 hval0
  obtain⟨e0,m0,w0,a_0,le0,sv0,lay0,cr0,zwL,ok0⟩:=zDl H enc W true _ _ _ hf0 _ _ (Lay.nil W);obtain⟨i1,hc1,_,hw1⟩:=DataW.trod_int Tryz.underlying82 hf1;obtain⟨e2,m2,w2,a_2,le2,sv2,lay2,cr2,rep2,ok2⟩:=zDn H enc W true _ _ _ hf2 e0 m0 lay0;obtain⟨c0_0,c0_2,c0_3,rfl,g0_0,g0_2,g0_3⟩:=zwL
  obtain⟨cs0,hv0,cl0⟩:∃cs,v0=.agg cs/\v0.cells.toList=cs.toList:=by
    have hl:=cr0.length
    cases v0 with
    | agg cs=>exact⟨cs,rfl,rfl⟩
    | _=>exact absurd hl (by simp[Value.cells])
  subst hv0;subst hv1
  have hi1:i1=n1:=by
    have h:[Value.int .u16 n1]=[.int .u16 i1]:=hc1
    cases h; rfl
  subst hi1;subst hv2;obtain⟨c2,rfl,rep2⟩:=rep2
  have cv2:CR e2 c2 (.slice a2 len2 cap2):=by
    cases cr2 with
    | cons h _=>exact h
  have hargs:zeq (VR e2) [.agg 4 [c0_0,.int .i64 a_0.Reserve,c0_2,c0_3],.c (.int .u16 i1),.c c2] [.agg cs0,.int .u16 i1,.slice a2 len2 cap2]:=.cons ⟨cs0,rfl,(cr0.mono fun _ _=>CR.mono le2),rfl⟩ (.cons rfl (.cons cv2 .nil));refine(callsIn_wide.1 (zqD fits htab (zxX (p:=a_0) (which:=i1) (words:=a_2) lay2.pre (g0_0.subv sv2) (g0_2.subv sv2) (g0_3.subv sv2) rep2 (zDe ok0 (zqB hw1) ok2) (Q:=fun v _=>v=.c (.bool true)) fun _ _=>rfl) lay2.hr (args':=#[.agg cs0,.int .u16 i1,.slice a2 len2 cap2]) hargs 0)).mono fun en W' hp=>?_;obtain⟨v,v',e',m',rfl,hst,hvr,rfl⟩:=hp;have hv':v'=.bool true:=hvr;subst hv';have hbelow:=lay2.below hst
  refine⟨_,rfl,[d0,d1,d2],[],p0++p1++p2,[],p0++(p1++p2),[],by simpa using hW',trodAll_mk1 (shut_bool Tryz.underlying4 _),
    trodAll_mk3 (Below.trod zDo (by kernel_rfl) (of_decide_eq_true (by kernel_rfl)) h0 hbelow fun x hx=>hlt x (by simp[hx])) (Below.trod zDo (by kernel_rfl) (of_decide_eq_true (by kernel_rfl)) h1 hbelow fun x hx=>hlt x (by simp[hx])) (Below.trod zDo (by kernel_rfl) (of_decide_eq_true (by kernel_rfl)) h2 hbelow fun x hx=>hlt x (by simp[hx])),rfl,lay2.kept hst _,fun hc=>by cases hc⟩
theorem TreatyTruth_holds:Rows.TreatyTruthSaid:=
 OpenClaim.holds_of_wide 8 Tryz.f8 rfl rfl rfl rfl rfl rfl rfl ⟨rfl,rfl,rfl,rfl,rfl⟩ rfl rfl rfl rfl rfl (by kernel_rfl) Tryz.func8 (by kernel_rfl)
  (of_decide_eq_true (by kernel_rfl)) (by unfold Func.isWrapper; first | (rw[if_pos (by decide +kernel)]; kernel_rfl) | (rw[if_neg (by decide +kernel)]; exact⟨rfl,rfl⟩))
  (fun os started H enc _=>zDq os started H enc)
end Go.Proofs.YtkcmdghjgoaggaaGreat

