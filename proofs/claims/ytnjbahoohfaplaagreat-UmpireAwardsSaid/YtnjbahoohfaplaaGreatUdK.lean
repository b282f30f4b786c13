/- UmpireAwards, for all that it can be called with, returns true. Condition: none. -/
import Derived.Test.YtnjbahoohfaplaaGreatUdJ
import GoSem.Step
import GoSem.ClaimKeys
import Derived.DeepKeys2
import Derived.RangeFuncLeaves
import Derived.OrdersIn
import Derived.Laws.World
import Derived.Laws.Sem
import Derived.RangeFuncRecord
import Derived.Laws.CopyRow
import Derived.Laws.Append
import Derived.Laws.Rows
import Derived.Laws.Slices
import Derived.Laws.Entries
import Derived.ChangeKeysEq
import Derived.IntWalk
import Derived.DeepKeys
import Derived.DeepKeys3
import Derived.Laws.StructEq
import Derived.MapKept
import Derived.Laws.AppendOwn
import Derived.ChangeArms
import Derived.ChangeOld
import Derived.Carry
import Derived.ChangeShapes
import Derived.KernelRfl
import Derived.ProofKit
import Derived.Test.YtnjbahoohfaplaaGreatRows

namespace Go.Proofs.YtnjbahoohfaplaaGreat
open _root_.Go.Proofs.Tryz
open Go.Abs
set_option maxRecDepth 100000
noncomputable section
open Classical in
theorem zDu{c:Cse}(hc:zB9 c){f:Fld}(hf:zB8 c.Tariffs f){M0:Option (Clm->Option Int)}:∀(l:List Thr) (M:Option (Clm->Option Int)) (g:Oc->Option Bool),zCT c M->(∀t∈l,zCw f t) ->
  ∃g' M',zui ⟨c,M0⟩ f l M (some g)=some (some g',M')/\zCT c M'/\∀o,g' o ≠ none↔g o ≠ none\/∃t∈l,ocN c f t=o
 | [],M,g,hM,_=>⟨g,M,rfl,hM,fun o=>⟨.inl,fun h=>h.elim id fun⟨t,ht,_⟩=>by cases ht⟩⟩
 | t::l,M,g,hM,hl=>by
  have ht:=hl t (List.mem_cons_self ..);obtain⟨M1,h1,h2⟩:=zCY hc hM hf ht;obtain⟨g',M',q1,q2,q3⟩:=zDu hc hf (M0:=M0) l M1 (fun j=>if j=ocN c f t then some true else g j) h2 fun u hu=>hl u (List.mem_cons_of_mem _ hu);refine⟨g',M',?_,q2,fun o=>?_⟩
  ·rw[zui]
   dsimp only
   rw[h1,obs,zqf (zC0 hc hf ht).fit]
   show(some _:Option (Option (Oc->Option Bool))).bind _=_
   rw[obs];exact q1
  ·rw[q3]
   constructor
   ·rintro (h | ⟨u,hu,rfl⟩)
    ·split at h
     ·rename_i he; exact .inr ⟨t,List.mem_cons_self ..,he.symm⟩
     ·exact .inl h
    ·exact .inr ⟨u,List.mem_cons_of_mem _ hu,rfl⟩
   ·rintro (h | ⟨u,hu,rfl⟩)
    ·left
     split
     ·simp
     ·exact h
    ·rcases List.mem_cons.1 hu with rfl | hu
     ·left; rw[if_pos rfl]; simp
     ·exact .inr ⟨u,hu,rfl⟩
theorem zDv{c:Cse}(hc:zB9 c){M:Option (Clm->Option Int)}(hM:zCT c M){f:Fld}(hf:zB8 c.Tariffs f):∃g M',zuj ⟨c,M⟩ f=some (some g,M')/\zCT c M'/\∀o,g o ≠ none↔∃t,zCw f t/\ocN c f t=o:=by
 obtain⟨g,M',h1,h2,h3⟩:=zDu hc hf (M0:=M) (zCJ f) M (fun _=>none) hM fun t ht=>(zCM hf).1 ht;refine⟨g,M',?_,h2,fun o=>?_⟩
 ·unfold zuj;rw[zCR hf,obs];exact h1
 ·rw[h3]
  constructor
  ·rintro (h | ⟨t,ht,he⟩)
   ·exact absurd rfl h
   ·exact⟨t,(zCM hf).1 ht,he⟩
  ·rintro⟨t,ht,he⟩
   exact .inr ⟨t,(zCM hf).2 ht,he⟩
theorem zDw{c:Cse}(hc:zB9 c){f:Fld}(hf:zB8 c.Tariffs f):∃L:List KOc,(∀a:KOc,a∈L↔∃t,zCw f t/\ocN c f t=a.1)/\L.length<=125:=by
 have hfit:∀t,zCw f t->MK.fit (ocN c f t):=fun t ht=>(zC0 hc hf ht).fit
 have key:∀l:List Thr,(∀t∈l,zCw f t)->∃L:List KOc,(∀a:KOc,a∈L↔∃t∈l,ocN c f t=a.1)/\L.length=l.length:=by
  intro l
  induction l with
  | nil=>exact fun _=>⟨[],fun a=>⟨fun h=>(by cases h),fun⟨_,h,_⟩=>(by cases h)⟩,rfl⟩
  | cons t l ih=>
   intro hl;obtain⟨L,h1,h2⟩:=ih fun u hu=>hl u (List.mem_cons_of_mem _ hu);refine⟨⟨ocN c f t,hfit t (hl t (List.mem_cons_self ..))⟩ :: L,fun a=>?_,by simp[h2]⟩;rw[List.mem_cons,h1]
   constructor
   ·rintro (rfl | ⟨u,hu,he⟩)
    ·exact⟨t,List.mem_cons_self ..,rfl⟩
    ·exact⟨u,List.mem_cons_of_mem _ hu,he⟩
   ·rintro⟨u,hu,he⟩
    rcases List.mem_cons.1 hu with rfl | hu
    ·exact .inl (Subtype.ext he.symm)
    ·exact .inr ⟨u,hu,he⟩
 obtain⟨L,h1,h2⟩:=key (zCJ f) fun t ht=>(zCM hf).1 ht;refine⟨L,fun a=>(h1 a).trans ⟨fun⟨t,ht,he⟩=>⟨t,(zCM hf).1 ht,he⟩,fun⟨t,ht,he⟩=>⟨t,(zCM hf).2 ht,he⟩⟩,by rw[h2]; exact(zCN hf).2⟩
open Classical in
theorem zDx{α:Type}:∀l:List α,∃l':List α,l'.Nodup/\(∀a,a∈l'↔a∈l)/\l'.length<=l.length
 | []=>⟨[],List.nodup_nil,fun _=>Iff.rfl,Nat.le_refl _⟩
 | a::l=>by
  obtain⟨l',h1,h2,h3⟩:=zDx l
  by_cases ha:a∈l'
  ·refine⟨l',h1,fun b=>?_,by simp; omega⟩;rw[List.mem_cons,h2];exact⟨.inr,fun h=>h.elim (fun h=>h ▸ (h2 a).1 ha) id⟩
  ·refine⟨a::l',List.nodup_cons.2 ⟨ha,h1⟩,fun b=>?_,by simp; omega⟩;rw[List.mem_cons,List.mem_cons,h2]
theorem zDy{c:Cse}(hc:zB9 c){f:Fld}(hf:zB8 c.Tariffs f){g:Oc->Option Bool}(hg:∀o,g o ≠ none↔∃t,zCw f t/\ocN c f t=o) :
  (∀o,o∈zu4 g↔∃t,zCw f t/\ocN c f t=o)/\(zu4 g).length<=125:=by
 obtain⟨L0,l1,l2⟩:=zDw hc hf;obtain⟨L,n1,n2,n3⟩:=zDx L0
 have hL:∀a:KOc,a∈L↔fOc g a ≠ none:=fun a=>by
  have e1:fOc g a ≠ none↔g a.1 ≠ none:=by
   show(g a.1).map MV.enc ≠ none↔_
   cases g a.1 <;> simp
  rw[e1,hg,n2,l1]
 have hex:zq0 (zqy Oc) (fOc g) L:=⟨n1,hL⟩;have hk:=zu3 hex;have hp:=zq0.perm hk hex
 constructor
 ·intro o;unfold zu4;rw[List.mem_map]
  constructor
  ·rintro⟨a,ha,rfl⟩
   exact(l1 a).1 ((n2 a).1 (hp.subset ha))
  ·rintro⟨t,ht,he⟩
   subst he;exact⟨⟨ocN c f t,(zC0 hc hf ht).fit⟩,hp.symm.subset ((n2 _).2 ((l1 _).2 ⟨t,ht,rfl⟩)),rfl⟩
 ·unfold zu4;rw[List.length_map,hp.length_eq]
  omega
inductive zDz (c:Cse):List Fld->List (Oc->Option Bool)->Prop where
 | nil:zDz c [] []
 | cons {f:Fld} {fs:List Fld} {g:Oc->Option Bool} {gs:List (Oc->Option Bool)}:(∀o,o∈zu4 g↔∃t,zCw f t/\ocN c f t=o)->(zu4 g).length<=125->zDz c fs gs->zDz c (f::fs) (g::gs)
theorem zDA{c:Cse}(hc:zB9 c){M0:Option (Clm->Option Int)}:∀(fs:List Fld) (M:Option (Clm->Option Int)),zCT c M->(∀f∈fs,zB8 c.Tariffs f)->∃gs M',zu8 ⟨c,M0⟩ fs M=some (gs,M')/\zCT c M'/\zDz c fs gs
 | [],M,hM,_=>⟨[],M,rfl,hM,.nil⟩
 | f::fs,M,hM,hf=>by
  obtain⟨g,M1,h1,h2,h3⟩:=zDv hc hM (hf f (List.mem_cons_self ..));obtain⟨gs,M',q1,q2,q3⟩:=zDA hc (M0:=M0) fs M1 h2 fun x hx=>hf x (List.mem_cons_of_mem _ hx);have hk:=zDy hc (hf f (List.mem_cons_self ..)) h3;refine⟨g::gs,M',?_,q2,.cons hk.1 hk.2 q3⟩;rw[zu8]
  dsimp only
  rw[h1,obs,obs,q1]; rfl
theorem zDB{c:Cse}(hc:zB9 c){fs:List Fld}{G:Ver->Option (List Ver)}{v:Ver}{k:Int}(hk:k<=100)(hv:zC2 k v){f:Fld}(hf:zB8 c.Tariffs f){N:Nat}
  (hG:∀v',zC2 (k+1) v'->∃vs,G v'=some vs/\(∀u,u∈vs↔∃ts,zDf fs ts/\zDk c fs ts v'=u)/\vs.length<=N) :
  ∀L:List Oc,(∀o∈L,∃t,zCw f t/\ocN c f t=o)->∃vs,zu5 G v L=some vs/\(∀u,u∈vs↔∃o∈L,∃ts,zDf fs ts/\zDk c fs ts (zC1 v o)=u)/\vs.length<=L.length * N
 | [],_=>⟨[],rfl,fun u=>⟨fun h=>(by cases h),fun⟨o,ho,_⟩=>(by cases ho)⟩,by simp⟩
 | o::L,hL=>by
  obtain⟨t,ht,he⟩:=hL o (List.mem_cons_self ..);have ho:zCZ o:=he ▸ zC0 hc hf ht;obtain⟨a,a1,a2,a3⟩:=hG _ (zC3 hv ho);obtain⟨b,b1,b2,b3⟩:=zDB hc hk hv hf hG L fun x hx=>hL x (List.mem_cons_of_mem _ hx);refine⟨a++b,?_,fun u=>?_,?_⟩
  ·rw[zu5,zC4 (by omega) hv ho,obs,a1,obs,b1]; rfl
  ·rw[List.mem_append,a2,b2]
   constructor
   ·rintro (⟨ts,h1,h2⟩ | ⟨x,hx,h⟩)
    ·exact⟨o,List.mem_cons_self ..,ts,h1,h2⟩
    ·exact⟨x,List.mem_cons_of_mem _ hx,h⟩
   ·rintro⟨x,hx,h⟩
    rcases List.mem_cons.1 hx with rfl | hx
    ·exact .inl h
    ·exact .inr ⟨x,hx,h⟩
  ·rw[List.length_append,List.length_cons,Nat.add_mul]; omega
theorem zDC{c:Cse}(hc:zB9 c):∀{fs:List Fld} {gs:List (Oc->Option Bool)},zDz c fs gs->(∀f∈fs,zB8 c.Tariffs f)->∀{k:Int} {v:Ver},k+fs.length<=100->zC2 k v ->
  ∃vs,zu6 (gs.map zu4) v=some vs/\(∀u,u∈vs↔∃ts,zDf fs ts/\zDk c fs ts v=u)/\vs.length<=125 ^ fs.length
 | _,_,.nil,_,k,v,_,hv=>⟨[v],rfl,fun u=>⟨fun h=>⟨[],trivial,(List.mem_singleton.1 h).symm⟩,fun ⟨ts,h1,h2⟩=>by
   cases ts with
   | nil=>exact List.mem_singleton.2 h2.symm
   | cons t ts=>exact h1.elim⟩,by simp⟩
 | _,_,.cons (f:=f) (fs:=fs) (g:=g) (gs:=gs) h1 h2 h3,hf,k,v,hk,hv=>by
  simp only[List.length_cons] at hk
  have hG:∀v',zC2 (k+1) v'->_:=fun v' hv'=>zDC hc h3 (fun x hx=>hf x (List.mem_cons_of_mem _ hx)) (k:=k+1) (v:=v') (by omega) hv';obtain⟨vs,q1,q2,q3⟩:=zDB hc (by omega) hv (hf f (List.mem_cons_self ..)) hG (zu4 g) fun o ho=>(h1 o).1 ho;refine⟨vs,q1,fun u=>?_,?_⟩
  ·rw[q2]
   constructor
   ·rintro⟨o,ho,ts,h4,h5⟩
    obtain⟨t,ht,rfl⟩:=(h1 o).1 ho;exact⟨t::ts,⟨ht,h4⟩,h5⟩
   ·rintro⟨ts,h4,h5⟩
    cases ts with
    | nil=>exact h4.elim
    | cons t ts=>exact⟨ocN c f t,(h1 _).2 ⟨t,h4.1,rfl⟩,ts,h4.2,h5⟩
  ·rw[List.length_cons,Nat.pow_succ,Nat.mul_comm];exact Nat.le_trans q3 (Nat.mul_le_mul_right _ h2)
theorem zDD{l:List Tf}:∀{fs:List Fld},(∀f∈fs,zB8 l f)->∃ts,zDf fs ts
 | [],_=>⟨[],trivial⟩
 | f::fs,h=>by
  obtain⟨ts,hts⟩:=zDD (fs:=fs) fun x hx=>h x (List.mem_cons_of_mem _ hx);have hf:=h f (List.mem_cons_self ..);exact⟨⟨f.First.Lo,f.Second.Lo,f.Umpire.Lo⟩ :: ts,⟨⟨Int.le_refl _,hf.fst.le⟩,⟨Int.le_refl _,hf.snd.le⟩,⟨Int.le_refl _,hf.ump.le⟩⟩,hts⟩
theorem zDE{c:Cse}(hc:zB9 c):∀{fs:List Fld} {ts:List Thr},(∀f∈fs,zB8 c.Tariffs f)->zDf fs ts->∀{k:Int} {v:Ver},zC2 k v->zC2 (k+fs.length) (zDk c fs ts v)
 | [],[],_,_,k,v,hv=>by simpa [zDk] using hv
 | f::fs,t::ts,hf,ht,k,v,hv=>by
  have:=zDE hc (fun x hx=>hf x (List.mem_cons_of_mem _ hx)) ht.2 (zC3 hv (zC0 hc (hf f (List.mem_cons_self ..)) ht.1));rw[List.length_cons,show k+((fs.length+1:Nat):Int)=k+1+fs.length by omega];exact this
 | [],_::_,_,ht,_,_,_=>ht.elim
 | _::_,[],_,ht,_,_,_=>ht.elim
theorem zDF{c:Cse}(hc:zB9 c){ts:List Thr}(ht:zDf c.Fields ts):zC2 3 (zDm c ts):=by
 have h:=zDE hc hc.fld ht (zDo hc);have:=hc.len;exact⟨h.fee,by have:=h.p; unfold zDm; omega,by have:=h.f0; unfold zDm; omega,by have:=h.f1; unfold zDm; omega,by have:=h.f2; unfold zDm; omega,by have:=h.f3; unfold zDm; omega⟩
structure zDG (c:Cse) (q:Ver->Int) (r:Rg):Prop where
 all:∀ts,zDf c.Fields ts->r.Lo<=q (zDm c ts)/\q (zDm c ts)<=r.Hi
 lo:∃ts,zDf c.Fields ts/\q (zDm c ts)=r.Lo
 hi:∃ts,zDf c.Fields ts/\q (zDm c ts)=r.Hi
theorem zDH{q:Ver->Option Int}{qN:Ver->Int}:∀{vs:List Ver},(∀v∈vs,q v=some (qN v))->zu7 q vs=some (vs.map qN)
 | [],_=>rfl
 | v::vs,h=>by
  rw[zu7,h v (List.mem_cons_self ..),obs,zDH fun u hu=>h u (List.mem_cons_of_mem _ hu)]; rfl
theorem zDI{c:Cse}(hc:zB9 c){M:Option (Clm->Option Int)}(hM:zCT c M){q:Ver->Option Int}{qN:Ver->Int}(hq:∀v,zC2 3 v->q v=some (qN v)):∃r M',zva ⟨c,M⟩ ⟨q⟩=some (r,M')/\zCT c M'/\zDG c qN r:=by
 have hl:=hc.len;obtain⟨gs,M',h1,h2,h3⟩:=zDA hc (M0:=M) c.Fields M hM hc.fld;obtain⟨vs,q1,q2,q3⟩:=zDC hc h3 hc.fld (k:=0) (v:=zu9 c.Fee) (by omega) (zDo hc);have hm:∀u,u∈vs↔∃ts,zDf c.Fields ts/\zDm c ts=u:=q2
 have hne:vs ≠ []:=by
  obtain⟨ts,hts⟩:=zDD hc.fld;exact List.ne_nil_of_mem ((hm _).2 ⟨ts,hts,rfl⟩)
 have hlen:vs.length<=125 ^ 3:=Nat.le_trans q3 (Nat.pow_le_pow_right (by omega) hl);have hlen:vs.length<=1953125:=hlen
 have hx:zu7 q vs=some (vs.map qN):=zDH fun v hv=>by
  obtain⟨ts,hts,rfl⟩:=(hm v).1 hv;exact hq _ (zDF hc hts)
 have hn2:vs.map qN ≠ []:=fun h=>hne (List.map_eq_nil_iff.1 h);refine⟨⟨zrh (vs.map qN),zri (vs.map qN)⟩,M',?_,h2,?_,?_,?_⟩
 ·unfold zva
  dsimp only
  rw[h1,obs,zqf (by omega)]
  dsimp only
  rw[q1,obs,zqf ⟨by omega,hne⟩,hx]; rfl
 ·intro ts hts;have hmem:qN (zDm c ts)∈vs.map qN:=List.mem_map.2 ⟨_,(hm _).2 ⟨ts,hts,rfl⟩,rfl⟩;exact⟨(zrl hn2).2 _ hmem,(zrm hn2).2 _ hmem⟩
 ·obtain⟨v,hv,he⟩:=List.mem_map.1 (zrl hn2).1;obtain⟨ts,hts,rfl⟩:=(hm v).1 hv;exact⟨ts,hts,he⟩
 ·obtain⟨v,hv,he⟩:=List.mem_map.1 (zrm hn2).1;obtain⟨ts,hts,rfl⟩:=(hm v).1 hv;exact⟨ts,hts,he⟩
end
end Go.Proofs.YtnjbahoohfaplaaGreat

namespace Go.Proofs.YtnjbahoohfaplaaGreat
open _root_.Go.Proofs.Tryz
open Go.Abs
set_option maxRecDepth 100000
noncomputable section
theorem zDJ{c:Cse}(hc:zB9 c):∃r,zvh c=some (r,0)/\zDG c (·.pence) r:=by
 obtain⟨r,M,h1,h2,h3⟩:=zDI hc zCU (q:=fun v=>zub v) (qN:=(·.pence)) fun v _=>rfl;refine⟨r,?_,h3⟩;unfold zvh;rw[zDr hc,obs,if_pos rfl,h1]; rfl
theorem zDK{c:Cse}(hc:zB9 c):∃r s,zvi c=some (r,s,0)/\zDG c zC6 r/\zDG c zC7 s:=by
 obtain⟨r,M,h1,h2,h3⟩:=zDI hc zCU (q:=fun v=>zuc v) (qN:=zC6) fun v hv=>zC9 (by omega) hv;obtain⟨s,M',g1,g2,g3⟩:=zDI hc h2 (q:=fun v=>zud v) (qN:=zC7) fun v hv=>zDb (by omega) hv;refine⟨r,s,?_,h3,g3⟩;unfold zvi;rw[zDr hc,obs,if_pos rfl,h1,obs]
 show(zva ⟨c,M⟩ _).bind _=_
 rw[g1]; rfl
def zDL(v:Ver):Int:=v.pence - zC6 v
def zDM(v:Ver):Int:=v.pence+zC7 v
theorem zDN{c:Cse}(hc:zB9 c):∃r s:Rg,zvj c=some (⟨r.Lo,s.Hi⟩,0)/\zDG c zDL r/\zDG c zDM s:=by
 obtain⟨r,M,h1,h2,h3⟩:=zDI hc zCU (q:=fun v=>zue v) (qN:=zDL) fun v hv=>zDd (by omega) hv;obtain⟨s,M',g1,g2,g3⟩:=zDI hc h2 (q:=fun v=>zuf v) (qN:=zDM) fun v hv=>zDe (by omega) hv;refine⟨r,s,?_,h3,g3⟩;unfold zvj;rw[zDr hc,obs,if_pos rfl,h1,obs]
 show(zva ⟨c,M⟩ _).bind _=_
 rw[g1]; rfl
theorem zDO{c:Cse}(hc:zCa c ≠ 0):zvh c=some (⟨0,0⟩,zCa c):=by unfold zvh; rw[zDs hc,obs,if_neg hc]
theorem zDP{c:Cse}(hc:zCa c ≠ 0):zvi c=some (⟨0,0⟩,⟨0,0⟩,zCa c):=by unfold zvi; rw[zDs hc,obs,if_neg hc]
theorem zDQ{c:Cse}(hc:zCa c ≠ 0):zvj c=some (⟨0,0⟩,zCa c):=by unfold zvj; rw[zDs hc,obs,if_neg hc]
def FL(S:Nat->Bool):List Bool:=(List.range 101).map S
theorem zDR{S:Nat->Bool}:(FL S).length=101:=by simp[FL]
theorem zDS{S:Nat->Bool}{k:Nat}(h:k < 101):(FL S)[k]? = some (S k):=by simp[FL,h]
theorem zDT{S:Nat->Bool}{l:List Bool}(hl:l.length=101)(h:∀k,k < 101->l[k]? = some (S k)):l=FL S:=by
 apply List.ext_getElem?
 intro k
 by_cases hk:k < 101
 ·rw[h k hk,zDS hk]
 ·rw[List.getElem?_eq_none (by omega),List.getElem?_eq_none (by rw[zDR]; omega)]
theorem zDU{S:Nat->Bool}{i:Nat}{b:Bool}(_hi:i < 101):(FL S).set i b=FL (fun j=>if j=i then b else S j):=by
 refine zDT (by rw[List.length_set,zDR]) fun k hk=>?_;rw[List.getElem?_set]
 by_cases he:i=k
 ·subst he; rw[if_pos rfl,if_pos (by rw[zDR]; omega),if_pos rfl]
 ·rw[if_neg he,zDS hk,if_neg (by omega)]
def zmI(S:Nat->Bool):List Int:=((List.range 101).filter S).map fun k:Nat=>(k:Int)
theorem zDV{S:Nat->Bool}{k:Nat}:(((List.range 101).take k).filter S).length<=101:=by
 refine Nat.le_trans (List.length_filter_le ..) ?_;rw[List.length_take]; simp; omega
theorem zDW{S:Nat->Bool}{k:Nat}(h:k < 101):((List.range 101).take (k+1)).filter S=((List.range 101).take k).filter S++(if S k=true then [k] else []):=by
 rw[List.take_add_one,List.filter_append]
 simp[h]
 split <;> simp_all
theorem zDX{S:Nat->Bool}:∀(d k:Nat),k<=101->101 - k < d->ztT (FL S) d ((((List.range 101).take k).filter S).map fun k:Nat=>(k:Int)) (k:Int)=some (zmI S)
 | 0,k,_,h=>by omega
 | d+1,k,hk,h=>by
  rw[ztT]
  by_cases hkl:k < 101
  ·rw[if_pos (by omega),zqf (by omega),zq3 (zDS hkl),obs];have:=zDX (S:=S) d (k+1) hkl (by omega);rw[zDW hkl] at this
   split
   ·rename_i hs
    rw[zqf (by rw[List.length_map]; exact Nat.lt_of_le_of_lt zDV (by omega)),zqf (fI (by omega)),show(k:Int)+1=((k+1:Nat):Int) by omega];rw[if_pos hs,List.map_append] at this;exact this
   ·rename_i hs
    rw[zqf (fI (by omega)),show(k:Int)+1=((k+1:Nat):Int) by omega];rw[if_neg hs,List.append_nil] at this;exact this
  ·rw[if_neg (by omega)]
   have:k=101:=by omega
   subst this;rw[List.take_of_length_le (by simp)]; rfl
theorem zDY{S:Nat->Bool}:ztU (FL S)=some (zmI S):=by
 exact zDX (S:=S) 102 0 (by omega) (by omega)
theorem zDZ{S:Nat->Bool}{n:Int}:n∈zmI S↔∃k:Nat,n=k/\k < 101/\S k=true:=by
 unfold zmI
 simp only[List.mem_map,List.mem_filter,List.mem_range]
 exact⟨fun⟨k,h,he⟩=>⟨k,he.symm,h⟩,fun⟨k,he,h⟩=>⟨k,h,he.symm⟩⟩
def zD0(l:List Thr)(f:Fld)(k:Nat):Bool:=l.any fun t=>decide (zCA f t=(k:Int))
theorem zD1{f:Fld}:∀(l:List Thr) (S:Nat->Bool),(∀t∈l,zCx t)->ztV f l (FL S)=some (FL fun k=>zD0 l f k || S k)
 | [],S,_=>rfl
 | t::l,S,h=>by
  have ht:=h t (List.mem_cons_self ..);have hr:=zCF (f:=f) ht;rw[ztV,zCG ht,obs,zqf (by omega),zqf zDR,zDU (by omega),zD1 l _ fun u hu=>h u (List.mem_cons_of_mem _ hu)]
  congr 2
  funext k
  unfold zD0;rw[List.any_cons]
  by_cases he:k=(zCA f t).toNat
  ·rw[if_pos he,show decide (zCA f t=(k:Int))=true from decide_eq_true (by omega)]; simp
  ·rw[if_neg he,show decide (zCA f t=(k:Int))=false from decide_eq_false (by omega)]; simp
theorem FL0:List.replicate 101 false=FL (fun _=>false):=by decide
def zD2(f:Fld)(k:Nat):Bool:=zD0 (zCJ f) f k
def zD3(f:Fld):List Int:=zmI (zD2 f)
theorem zD4{l:List Tf}{f:Fld}(hf:zB8 l f):∀t∈zCJ f,zCx t:=fun _t ht=>((zCM hf).1 ht).rng hf
theorem zD5{l:List Tf}{f:Fld}(hf:zB8 l f):ztW f=some (FL (zD2 f)):=by
 unfold ztW;rw[zCR hf,obs,FL0,zD1 _ _ (zD4 hf)]
 simp only[Bool.or_false]; rfl
theorem zD6{l:List Tf}{f:Fld}(hf:zB8 l f){n:Int}:n∈zD3 f↔∃t,zCw f t/\zCA f t=n:=by
 unfold zD3;rw[zDZ];unfold zD2 zD0
 constructor
 ·rintro⟨k,rfl,_,h⟩
  obtain⟨t,ht,he⟩:=List.any_eq_true.1 h;exact⟨t,(zCM hf).1 ht,of_decide_eq_true he⟩
 ·rintro⟨t,ht,rfl⟩
  have hr:=zCF (f:=f) (ht.rng hf);exact⟨(zCA f t).toNat,by omega,by omega,List.any_eq_true.2 ⟨t,(zCM hf).2 ht,decide_eq_true (by omega)⟩⟩
theorem zD7{c:Cse}(hl:c.Fields.length<=6){n:Int}:Ev (zt3 c n) (0<=n/\n < c.Fields.length):=Ev.gd (fI (by omega)) (zCc.ret.imp (by dsimp only; omega))
theorem zD8{c:Cse}(hc:zB9 c){k:Nat}{f:Fld}(hk:c.Fields[k]? = some f):zt8 c (k:Int)=some (f,0):=by
 have hkl:=(List.getElem?_eq_some_iff.1 hk).1;have:=hc.len;unfold zt8;rw[zCm,obs,if_pos (zCb.2 hc),(zD7 (by omega)).some_of (by omega),obs,if_pos rfl,zq3 hk]; rfl
theorem zD9{c:Cse}(hc:zB9 c){k:Nat}{f:Fld}(hk:c.Fields[k]? = some f):zuu c (k:Int)=some (zD3 f,0):=by
 unfold zuu;rw[zD8 hc hk,obs,if_pos rfl,zD5 (hc.fld f (List.mem_of_getElem? hk)),obs,zDY]; rfl
def zEa(f:Fld):Int:=if (zCJ f).all (fun t=>decide (zCz f t))=true then 1 else if (zCJ f).any (fun t=>decide (zCz f t))=true then 3 else 2
theorem zEb{f:Fld}:∀(l:List Thr) (a b:Bool),(∀t∈l,zCx t)->ztX f l a b=some (if (b || !(l.all fun t=>decide (zCz f t)))=true then (if (a || l.any fun t=>decide (zCz f t))=true then 3 else 2) else 1)
 | [],a,b,_=>by cases a <;> cases b <;> rfl
 | t::l,a,b,h=>by
  have ih:=fun a b=>zEb (f:=f) l a b fun u hu=>h u (List.mem_cons_of_mem _ hu);rw[ztX,(zCD (h t (List.mem_cons_self ..))).eqd,obs]
  cases a <;> cases b <;> simp only[ih,List.all_cons,List.any_cons] <;> by_cases hc:zCz f t <;> simp[hc]
theorem zEc{l:List Tf}{f:Fld}(hf:zB8 l f):ztY f=some (zEa f):=by
 unfold ztY zEa;rw[zCR hf,obs,zEb _ _ _ (zD4 hf)]
 simp only[Bool.false_or]
 cases (zCJ f).all fun t=>decide (zCz f t) <;> simp
theorem zEd{c:Cse}(hc:zB9 c){k:Nat}{f:Fld}(hk:c.Fields[k]? = some f):zuv c (k:Int)=some (zEa f,0):=by
 unfold zuv;rw[zD8 hc hk,obs,if_pos rfl,zEc (hc.fld f (List.mem_of_getElem? hk))]; rfl
def zEe(f:Fld)(t:Thr):Fld:=⟨f.Crop,f.Value,f.Near,⟨t.First,t.First⟩,⟨t.Second,t.Second⟩,f.Umpire⟩
theorem zEf{l:List Tf}{f:Fld}(hf:zB8 l f){t:Thr}(ht:zCw f t):zB8 l (zEe f t):=by
 have hr:=ht.rng hf;have h1:=hr.a; have h2:=hr.b;exact⟨hf.crop,hf.val,hf.near,⟨h1.1,Int.le_refl _,h1.2,by show t.First - t.First<=4; omega⟩,⟨h2.1,Int.le_refl _,h2.2,by show t.Second - t.Second<=4; omega⟩,hf.ump⟩
theorem zEg{c:Cse}(hc:zB9 c){f:Fld}(hf:zB8 c.Tariffs f){p:Int}{l:List Int}(hl:∀n∈l,0<=n/\n<=100)(hlen:l.length<=1000){M0:Option (Clm->Option Int)}:∀(d k:Nat) (S:Nat->Bool) (M:Option (Clm->Option Int)),k<=l.length->l.length - k < d->zCT c M ->
  ∃M',zum ⟨c,M0⟩ f p l d (FL S) M (k:Int)=some (FL (fun j=>if (j:Int)∈l.drop k then decide (zCS c f j=p) else S j),M')/\zCT c M'
 | 0,k,_,_,_,h,_=>by omega
 | d+1,k,S,M,hk,h,hM=>by
  rw[zum]
  by_cases hkl:k < l.length
  ·obtain⟨n,h1,h2⟩:=zDh hkl;have hn:=hl n (List.mem_of_getElem? h1);obtain⟨M1,g1,g2⟩:=zCX hc hM hf hn;rw[if_pos (by omega),zq3 h1,obs]
   dsimp only
   rw[g1,obs,zqf (by omega),zqf zDR,zqf (fI (by omega)),zDU (by omega),show(k:Int)+1=((k+1:Nat):Int) by omega];obtain⟨M',q1,q2⟩:=zEg hc hf hl hlen (M0:=M0) d (k+1) _ M1 hkl (by omega) g2;refine⟨M',?_,q2⟩;rw[q1]
   congr 3
   funext j
   rw[h2]
   by_cases hj:(j:Int)∈l.drop (k+1)
   ·rw[if_pos hj,if_pos (List.mem_cons_of_mem _ hj)]
   ·rw[if_neg hj]
    by_cases he:j=n.toNat
    ·rw[if_pos he,if_pos (by rw[show(j:Int)=n by omega]; exact List.mem_cons_self ..),show(j:Int)=n by omega]
    ·rw[if_neg he,if_neg fun hm=>(List.mem_cons.1 hm).elim (fun h=>he (by omega)) hj]
  ·rw[if_neg (by omega),List.drop_eq_nil_of_le (by omega)];exact⟨M,by simp,hM⟩
def zEh(c:Cse)(f:Fld)(t:Thr):Prop:=∃n∈zD3 (zEe f t),zCS c f n ≠ zCS c f (zCA f t)
instance (c:Cse) (f:Fld) (t:Thr):Decidable (zEh c f t):=by unfold zEh; infer_instance
theorem zEi{S:Nat->Bool}:(zmI S).length<=101:=by
 unfold zmI;rw[List.length_map];refine Nat.le_trans (List.length_filter_le ..) ?_
 simp
theorem zEj{S T:Nat->Bool}:FL S=FL T↔∀k,k < 101->S k=T k:=by
 constructor
 ·intro h k hk;have h1:=zDS (S:=S) hk;rw[h,zDS hk] at h1;exact(oi h1).symm
 ·intro h
  exact zDT zDR fun k hk=>by rw[zDS hk,h k hk]
theorem zEk{c:Cse}(hc:zB9 c){M:Option (Clm->Option Int)}(hM:zCT c M){f:Fld}(hf:zB8 c.Tariffs f){t:Thr}(ht:zCw f t):∃M',zuo ⟨c,M⟩ f t=some (decide (zEh c f t),M')/\zCT c M':=by
 have hr:=ht.rng hf;obtain⟨M1,g1,g2⟩:=zCX hc hM hf (zCF (f:=f) hr);have ho:=zEf hf ht
 have hl:∀n∈zmI (zD2 (zEe f t)),0<=n/\n<=100:=fun n hn=>by
  obtain⟨k,rfl,hk,_⟩:=zDZ.1 hn
  omega
 have hlen:=zEi (S:=zD2 (zEe f t));obtain⟨M',q1,q2⟩:=zEg hc ho (p:=zCS c f (zCA f t)) hl (by omega) (M0:=M1) ((zmI (zD2 (zEe f t))).length+1) 0 (zD2 (zEe f t)) M1 (by omega) (by omega) g2;refine⟨M',?_,q2⟩;unfold zuo;rw[zCG hr,obs,g1,obs]
 show(ztW (zEe f t)).bind _=_
 rw[zD5 ho,obs]
 have e:zun ⟨c,M1⟩ (zEe f t) (FL (zD2 (zEe f t))) (zCS c f (zCA f t))=some (FL (fun j=>if (j:Int)∈(zmI (zD2 (zEe f t))).drop 0 then decide (zCS c (zEe f t) j=zCS c f (zCA f t)) else zD2 (zEe f t) j),M'):=by
  unfold zun;rw[zDY,obs];exact q1
 show(zun ⟨c,M1⟩ (zEe f t) (FL (zD2 (zEe f t))) (zCS c f (zCA f t))).bind _=_
 rw[e,obs,zqf ⟨zDR,zDR⟩]
 congr 2
 have key:(FL (fun j=>if (j:Int)∈(zmI (zD2 (zEe f t))).drop 0 then decide (zCS c (zEe f t) j=zCS c f (zCA f t)) else zD2 (zEe f t) j)=FL (zD2 (zEe f t)))↔¬ zEh c f t:=by
  rw[zEj];unfold zEh zD3;rw[List.drop_zero]
  constructor
  ·rintro h ⟨n,hn,hne⟩
   obtain⟨k,rfl,hk,hs⟩:=zDZ.1 hn;have:=h k hk;rw[if_pos hn,hs] at this;exact hne (of_decide_eq_true this)
  ·intro h k hk
   by_cases hm:(k:Int)∈zmI (zD2 (zEe f t))
   ·rw[if_pos hm];obtain⟨k',he,_,hs⟩:=zDZ.1 hm;rw[show k=k' by omega,hs,<- show k=k' by omega];exact decide_eq_true (Classical.byContradiction fun hn=>h ⟨_,hm,hn⟩)
   ·rw[if_neg hm]
 by_cases hm:zEh c f t
 ·rw[decide_eq_true hm,decide_eq_false fun h=>(key.1 h) hm]; rfl
 ·rw[decide_eq_false hm,decide_eq_true (key.2 hm)]; rfl
def zEl(c:Cse)(f:Fld):Bool:=(zCJ f).any fun t=>decide (zEh c f t)
def zEm(c:Cse):List Fld->Nat->List Int
 | [],_=>[]
 | f::fs,k=>if zEl c f=true then (k:Int)::zEm c fs (k+1) else zEm c fs (k+1)
theorem zEn{c:Cse}(hc:zB9 c){f:Fld}(hf:zB8 c.Tariffs f){k:Nat}(hk:k<=1000){M0:Option (Clm->Option Int)}{K:List Int->Option (Clm->Option Int)->Int->Option (List Int × Option (Clm->Option Int))}{a:List Int}(ha:a.length<=1000){F:List Int->List Int}
  (hK:∀(a':List Int) M,a'.length<=a.length+1->zCT c M->∃M',K a' M ((k:Int)+1)=some (F a',M')/\zCT c M'):∀(l:List Thr) M,zCT c M->(∀t∈l,zCw f t)->∃M',zuq ⟨c,M0⟩ (k:Int) f K l a M=some (F (if (l.any fun t=>decide (zEh c f t))=true then a++[(k:Int)] else a),M')/\zCT c M'
 | [],M,hM,_=>by
  obtain⟨M',h1,h2⟩:=hK a M (by omega) hM;refine⟨M',?_,h2⟩;rw[zuq,zqf (fI (by omega)),h1]; rfl
 | t::l,M,hM,hl=>by
  obtain⟨M1,h1,h2⟩:=zEk hc hM hf (hl t (List.mem_cons_self ..));rw[zuq]
  dsimp only
  rw[h1,obs]
  by_cases hm:zEh c f t
  ·rw[if_pos (decide_eq_true hm),zqf (by omega)];unfold zup;obtain⟨M',q1,q2⟩:=hK (a++[(k:Int)]) M1 (by simp) h2;refine⟨M',?_,q2⟩;rw[zqf (fI (by omega)),q1,List.any_cons,decide_eq_true hm,Bool.true_or,if_pos rfl]
  ·obtain⟨M',q1,q2⟩:=zEn hc hf hk (M0:=M0) ha hK l M1 h2 fun u hu=>hl u (List.mem_cons_of_mem _ hu);refine⟨M',?_,q2⟩;rw[zqg (decide_eq_false hm),q1,List.any_cons,decide_eq_false hm,Bool.false_or]
theorem zEo{c:Cse}(hc:zB9 c){M0:Option (Clm->Option Int)}:∀(d k:Nat) (a:List Int) M,k<=c.Fields.length->c.Fields.length - k < d->a.length<=k->zCT c M->∃M',zur ⟨c,M0⟩ d a M (k:Int)=some (a++zEm c (c.Fields.drop k) k,M')/\zCT c M'
 | 0,k,_,_,_,h,_,_=>by omega
 | d+1,k,a,M,hk,h,ha,hM=>by
  have hlen:=hc.len;rw[zur]
  dsimp only
  by_cases hkl:k < c.Fields.length
  ·obtain⟨f,h1,h2⟩:=zDh hkl;have hf:=hc.fld f (List.mem_of_getElem? h1);rw[if_pos (by omega),zq3 h1,obs,zCR hf,obs,h2]
   have hK:∀(a':List Int) M,a'.length<=a.length+1->zCT c M->∃M',zur ⟨c,M0⟩ d a' M ((k:Int)+1)=some (a'++zEm c (c.Fields.drop (k+1)) (k+1),M')/\zCT c M':=fun a' M' ha' hM'=>by
    rw[show(k:Int)+1=((k+1:Nat):Int) by omega];exact zEo hc d (k+1) a' M' hkl (by omega) (by omega) hM'
   obtain⟨M',q1,q2⟩:=zEn hc hf (k:=k) (by omega) (M0:=M0) (a:=a) (by omega) (F:=fun a'=>a'++zEm c (c.Fields.drop (k+1)) (k+1)) hK (zCJ f) M hM fun t ht=>(zCM hf).1 ht;refine⟨M',?_,q2⟩;rw[q1,zEm];unfold zEl
   split <;> simp
  ·rw[if_neg (by omega),List.drop_eq_nil_of_le (by omega)];exact⟨M,by simp[zEm],hM⟩
theorem zEp{c:Cse}(hc:zB9 c):zuw c=some (zEm c c.Fields 0,0):=by
 obtain⟨M',h1,h2⟩:=zEo hc (M0:=some fun _=>none) (c.Fields.length+1) 0 [] (some fun _=>none) (by omega) (by omega) (by simp) zCU;unfold zuw;rw[zDr hc,obs,if_pos rfl];unfold zus
 show(zur ⟨c,some fun _=>none⟩ (c.Fields.length+1) [] (some fun _=>none) ((0:Nat):Int)).bind _=_
 rw[h1]; rfl
theorem zEq{c:Cse}(hc:zCa c ≠ 0):zuw c=some ([],zCa c):=by
 unfold zuw;rw[zDs hc,obs,if_neg hc]
def befU:List Int->List Int->Bool
 | x::a,y::b=>if x=y then befU a b else decide (x < y)
 | [],_::_=>true
 | _,[]=>false
theorem zEr:∀{a b:List Int},a.length=b.length->befU a b=false->befU b a=false->a=b
 | [],[],_,_,_=>rfl
 | x::a,y::b,hl,h1,h2=>by
  simp only[befU] at h1 h2
  by_cases he:x=y
  ·subst he;rw[if_pos rfl] at h1 h2;rw[zEr (Nat.succ.inj hl) h1 h2]
  ·rw[if_neg he] at h1;rw[if_neg fun h=>he h.symm] at h2;have:=of_decide_eq_false h1;have:=of_decide_eq_false h2
   omega
theorem zEs:∀{a:List Int},befU a a=false
 | []=>rfl
 | x::a=>by simp only[befU]; rw[if_pos trivial]; exact zEs
theorem zEt{a b:List Int}(hl:a.length<=1000):∀(d k:Nat),k<=a.length->a.length - k < d->zr5 a b d (k:Int)=some (befU (a.drop k) (b.drop k))
 | 0,_,_,h=>by omega
 | d+1,k,hk,h=>by
  rw[zr5]
  by_cases hka:k < a.length
  ·rw[if_pos (by omega)];have da:=List.drop_eq_getElem_cons hka;have ga:=List.getElem?_eq_getElem hka
   by_cases hkb:k < b.length
   ·have db:=List.drop_eq_getElem_cons hkb;have gb:=List.getElem?_eq_getElem hkb;rw[if_pos (by omega),zq3 ga,obs,zq3 gb,obs,da,db];unfold befU
    by_cases he:a[k]=b[k]
    ·rw[if_pos he,if_pos he,zqf (fI (by omega)),show(k:Int)+1=((k+1:Nat):Int) by omega];exact zEt hl d (k+1) (by omega) (by omega)
    ·rw[if_neg he,if_neg he,obs,obs]
   ·rw[if_neg (by omega),da,List.drop_eq_nil_of_le (show b.length<=k by omega),decide_eq_false (by omega)]; rfl
  ·rw[if_neg (by omega),List.drop_eq_nil_of_le (show a.length<=k by omega)]
   by_cases hkb:k < b.length
   ·rw[List.drop_eq_getElem_cons hkb,decide_eq_true (by omega)]; rfl
   ·rw[List.drop_eq_nil_of_le (show b.length<=k by omega),decide_eq_false (by omega)]; rfl
theorem zEu{a b:List Int}(hl:a.length<=1000):zr6 a b=some (befU a b):=zEt hl (a.length+1) 0 (Nat.zero_le _) (by omega)
theorem zEv{a b:List Int}(ha:a.length<=1000):Ev (zr7 a b) (a=b):=by
 unfold zr7
 by_cases hl:a.length=b.length
 ·rw[if_pos (by omega),zEu ha,obs]
  cases h1:befU a b with
  | true=>
   rw[if_pos rfl]
   exact Ev.ff fun he=>by subst he; rw[zEs] at h1; cases h1
  | false=>
   rw[if_neg (by simp),zEu (by omega),obs];refine Ev.mk' ?_
   cases h2:befU b a with
   | true=>exact⟨fun h=>(by cases h),fun he=>(by subst he; rw[zEs] at h2; cases h2)⟩
   | false=>exact⟨fun _=>zEr hl h1 h2,fun _=>rfl⟩
 ·rw[if_neg (by omega)];exact Ev.ff fun he=>hl (by rw[he])
theorem zEw{a b:Res}(ha:a.Counts.length<=1000):Ev (zuY a b) (a=b):=by
 refine(Ev.and (zEv ha) fun _=>Ev.ite fun _=>Ev.ite fun _=>Ev.dec Iff.rfl).imp ?_;obtain⟨a1,a2,a3,a4⟩:=a;obtain⟨b1,b2,b3,b4⟩:=b
 simp
def tfU:Tf:=⟨0,true,0,[0],[0,100],[[[0,100]]]⟩
def fA:Fld:=⟨0,1000,4,⟨40,41⟩,⟨30,30⟩,⟨33,36⟩⟩
def fB:Fld:=⟨0,200,4,⟨20,20⟩,⟨17,18⟩,⟨0,4⟩⟩
def zEx:Cse:=⟨[tfU],10,31,[fA,fB]⟩
theorem zEy:zu0=some zEx:=rfl
theorem zEz{α:Type}{a:α}{P:α->Prop}(h:P a):∀x∈[a],P x:=fun x hx=>by rw[List.mem_singleton.1 hx]; exact h
theorem zEA:zzY [tfU]=0:=by
 refine zzZ.2 ⟨?_,⟨by simp,zEz ⟨by decide,by decide,⟨by simp[tfU],rfl,by simp[tfU]⟩,⟨by simp[tfU],rfl,by simp[tfU]⟩,rfl,by simp[tfU],zEz ⟨rfl,zEz ⟨rfl,by simp⟩⟩⟩,by simp,rfl,zEz rfl⟩⟩
 rintro (h | ⟨t,ht,h⟩)
 ·simp at h
 ·rw[List.mem_singleton.1 ht] at h;unfold zzW at h
  simp[tfU] at h
theorem zEB:zB9 zEx:=by
 refine⟨zEA,by decide,by decide,by decide,fun f hf=>?_⟩
 rcases List.mem_cons.1 hf with rfl | hf
 ·exact⟨by decide,by decide,by decide,⟨by decide,by decide,by decide,by decide⟩,⟨by decide,by decide,by decide,by decide⟩,⟨by decide,by decide,by decide,by decide⟩⟩
 ·rw[List.mem_singleton.1 hf];exact⟨by decide,by decide,by decide,⟨by decide,by decide,by decide,by decide⟩,⟨by decide,by decide,by decide,by decide⟩,⟨by decide,by decide,by decide,by decide⟩⟩
theorem zEC{P:List Thr->Prop}(h:∀a∈zCJ fA,∀b∈zCJ fB,P [a,b]):∀ts,zDf zEx.Fields ts->P ts:=by
 intro ts ht
 match ts,ht with
 | [a,b],ht=>exact h a ((zCM (zEB.fld fA (by simp[zEx]))).2 ht.1) b ((zCM (zEB.fld fB (by simp[zEx]))).2 ht.2.1)
 | [],ht=>exact ht.elim
 | [_],ht=>exact ht.2.elim
 | _::_::_::_,ht=>exact ht.2.2.elim
theorem zED{a b:Thr}(ha:a∈zCJ fA)(hb:b∈zCJ fB):zDf zEx.Fields [a,b]:=⟨(zCM (zEB.fld fA (by simp[zEx]))).1 ha,(zCM (zEB.fld fB (by simp[zEx]))).1 hb,trivial⟩
theorem zEE{q:Ver->Int}{r:Rg}(h:zDG zEx q r){lo:Int}(hb:∀a∈zCJ fA,∀b∈zCJ fB,lo<=q (zDm zEx [a,b]))(hlo:∃a∈zCJ fA,∃b∈zCJ fB,q (zDm zEx [a,b])=lo):r.Lo=lo:=by
 obtain⟨t1,h1,h2⟩:=h.lo;obtain⟨a,ha,b,hb',e1⟩:=hlo;have k1:=h.all _ (zED ha hb');have k3:=zEC (P:=fun ts=>lo<=q (zDm zEx ts)) hb t1 h1
 omega
theorem zEF{q:Ver->Int}{r:Rg}(h:zDG zEx q r){hi:Int}(hb:∀a∈zCJ fA,∀b∈zCJ fB,q (zDm zEx [a,b])<=hi)(hhi:∃a∈zCJ fA,∃b∈zCJ fB,q (zDm zEx [a,b])=hi):r.Hi=hi:=by
 obtain⟨t1,h1,h2⟩:=h.hi;obtain⟨a,ha,b,hb',e1⟩:=hhi;have k1:=h.all _ (zED ha hb');have k3:=zEC (P:=fun ts=>q (zDm zEx ts)<=hi) hb t1 h1
 omega
theorem zEG:zvk=some true:=by
 obtain⟨a,ha,ea⟩:=zDJ zEB;obtain⟨x,y,hx,ex,ey⟩:=zDK zEB;obtain⟨n,o,ho,en,eo⟩:=zDN zEB;have a1:a.Lo=366:=zEE ea (by decide) (by decide);have a2:a.Hi=398:=zEF ea (by decide) (by decide);have x1:x.Lo=0:=zEE ex (by decide) (by decide);have x2:x.Hi=31:=zEF ex (by decide) (by decide);have y1:y.Lo=0:=zEE ey (by decide) (by decide);have y2:y.Hi=31:=zEF ey (by decide) (by decide);have n1:n.Lo=335:=zEE en (by decide) (by decide);have o2:o.Hi=429:=zEF eo (by decide) (by decide)
 have hP:zut zEx [⟨40,30,35⟩,⟨20,17,0⟩]=some (⟨[35,18],386,16,15⟩,0):=by
  have i1:(⟨40,30,35⟩:Thr)∈zCJ fA:=(zCM (zEB.fld fA (by simp[zEx]))).2 ⟨by decide,by decide,by decide⟩;have i2:(⟨20,17,0⟩:Thr)∈zCJ fB:=(zCM (zEB.fld fB (by simp[zEx]))).2 ⟨by decide,by decide,by decide⟩;rw[zDt zEB (zED i1 i2)];refine congrArg (fun r=>some (r,(0:Int))) ?_
  have r1:(zDn zEx [⟨40,30,35⟩,⟨20,17,0⟩]).Counts=[35,18]:=by decide
  have r2:(zDn zEx [⟨40,30,35⟩,⟨20,17,0⟩]).Award=386:=by decide
  have r3:(zDn zEx [⟨40,30,35⟩,⟨20,17,0⟩]).Farmer=16:=by decide
  have r4:(zDn zEx [⟨40,30,35⟩,⟨20,17,0⟩]).Society=15:=by decide
  generalize zDn zEx [⟨40,30,35⟩,⟨20,17,0⟩]=R at r1 r2 r3 r4;obtain⟨_,_,_,_⟩:=R
  dsimp only at r1 r2 r3 r4
  subst_vars; rfl
 have hC:zuu zEx (0:Int)=some ([33,34,35,36],0):=by
  rw[show zuu zEx (0:Int)=_ from zD9 zEB (k:=0) (f:=fA) rfl];exact congrArg (fun r=>some (r,(0:Int))) (by decide)
 have hD:zuv zEx (1:Int)=some (2,0):=by
  rw[show zuv zEx (1:Int)=_ from zEd zEB (k:=1) (f:=fB) rfl];exact congrArg (fun r=>some (r,(0:Int))) (by decide)
 have hM:zuw zEx=some ([0],0):=by
  rw[zEp zEB];exact congrArg (fun r=>some (r,(0:Int))) (by decide)
 have fz:∀n:Int,0<=n/\n<=1000->zl0 .i64 n:=fun n h=>fI (by omega);unfold zvk;rw[zEy,obs,show zu1 40 35 17=some [⟨40,30,35⟩,⟨20,17,0⟩] from rfl,obs,hP,obs,obs,hC,obs,obs,hD,obs,obs,ha,obs,obs,hx,obs,obs,ho,obs,obs,hM,obs];rw[if_pos rfl,(zEw (by decide)).some_of rfl,obs,if_pos rfl,if_pos rfl,(zEv (by decide)).some_of rfl,obs,if_pos rfl,if_pos rfl,if_pos rfl,if_pos rfl]
 show Go.Abs.gd _ _=_
 dsimp only
 rw[a1,a2,x1,x2,y1,y2,n1,o2];rw[zqf (fz _ (by omega)),zqf (fz _ (by omega)),zqf (fz _ (by omega)),zqf (fz _ (by omega)),if_pos rfl,if_pos rfl]
 show Go.Abs.gd _ _=_
 dsimp only
 rw[zqf (fz _ (by omega)),zqf (fz _ (by omega)),zqf (fz _ (by omega)),zqf (fz _ (by omega)),if_pos rfl,zqf (fz _ (by omega)),zqf (fz _ (by omega)),zqf (fz _ (by omega)),zqf (fz _ (by omega)),if_pos (by decide),if_pos (by decide)]
 show Go.Abs.gd _ _=_
 dsimp only
 rw[zqf (fz _ (by omega)),zqf (fz _ (by omega)),zqf (fz _ (by omega)),zqf (fz _ (by omega)),if_pos (by decide),(zEv (by decide)).some_of rfl]; rfl
theorem zEH{f:Fld}(h:zB6 f.Umpire){x y:Int}(hy:-1000<=y/\y<=1000){K:List Thr->Int->Option (List Thr)}:∀(d n:Nat) (k:Int) (acc:List Thr),f.Umpire.Lo<=k->n < d->k+n=f.Umpire.Hi+1->acc.length+n<=1000->zuJ f x y K d acc k=K (acc++(segI k n).map (fun u=>⟨x,y,u⟩)) (y+1)
 | 0,n,k,_,_,h2,_,_=>by omega
 | d+1,0,k,acc,_,_,h3,_=>by
  rw[zuJ,if_neg (by omega),zqf (fI (by omega))]; simp[segI]
 | d+1,n+1,k,acc,h1,h2,h3,h4=>by
  have:=h.lo; have:=h.hi;rw[zuJ,if_pos (by omega),zqf (by omega),zqf (fI (by omega)),zEH h hy d n (k+1) _ (by omega) (by omega) (by omega) (by simp; omega)]
  simp[segI]
theorem zEI{f:Fld}(hu:zB6 f.Umpire)(h:zB6 f.Second){x:Int}(hx:-1000<=x/\x<=1000){K:List Thr->Int->Option (List Thr)}:∀(d n:Nat) (k:Int) (acc:List Thr),f.Second.Lo<=k->n < d->k+n=f.Second.Hi+1->acc.length+5 * n<=1000->zuK f x K d acc k=K (acc++(segI k n).flatMap (fun b=>(segI f.Umpire.Lo (cnt f.Umpire)).map fun u=>⟨x,b,u⟩)) (x+1)
 | 0,n,k,_,_,h2,_,_=>by omega
 | d+1,0,k,acc,_,_,h3,_=>by
  rw[zuK,if_neg (by omega),zqf (fI (by omega))]; simp[segI]
 | d+1,n+1,k,acc,h1,h2,h3,h4=>by
  have:=h.lo; have:=h.hi; have:=hu.le;have:=zCL hu;rw[zuK,if_pos (by omega),zEH hu (by omega) 1000000 (cnt f.Umpire) f.Umpire.Lo _ (by omega) (by omega) (by unfold cnt; omega) (by omega),zEI hu h hx d n (k+1) _ (by omega) (by omega) (by omega) (by simp[zro]; omega)]
  simp[segI]
theorem zEJ{f:Fld}(hu:zB6 f.Umpire)(hs:zB6 f.Second)(h:zB6 f.First):∀(d n:Nat) (k:Int) (acc:List Thr),f.First.Lo<=k->n < d->k+n=f.First.Hi+1->acc.length+25 * n<=1000->zuL f d acc k=some (acc++(segI k n).flatMap fun a=>(segI f.Second.Lo (cnt f.Second)).flatMap fun b=>(segI f.Umpire.Lo (cnt f.Umpire)).map fun u=>⟨a,b,u⟩)
 | 0,n,k,_,_,h2,_,_=>by omega
 | d+1,0,k,acc,_,_,h3,_=>by
  rw[zuL,if_neg (by omega)]; simp[segI]
 | d+1,n+1,k,acc,h1,h2,h3,h4=>by
  have:=h.lo; have:=h.hi; have:=hs.le;have c1:=zCL hs; have c2:=zCL hu;have hm:cnt f.Second * cnt f.Umpire<=25:=Nat.mul_le_mul c1.2 c2.2;rw[zuL,if_pos (by omega),zEI hu hs (by omega) 1000000 (cnt f.Second) f.Second.Lo _ (by omega) (by omega) (by unfold cnt; omega) (by omega),zEJ hu hs h d n (k+1) _ (by omega) (by omega) (by omega) (by simp[List.length_flatMap,zro,List.map_const',List.sum_replicate_nat]; omega)]
  simp[segI]
theorem zEK{l:List Tf}{f:Fld}(h:zB8 l f):zuM f=some (zCJ f):=by
 have:=zCL h.fst; have:=h.fst.le;unfold zuM;rw[zEJ h.ump h.snd h.fst 1000000 (cnt f.First) f.First.Lo [] (by omega) (by omega) (by unfold cnt; omega) (by simp; omega)]; rfl
theorem zEL{a b:Int}(ha:0<=a/\a<=100)(hb:0<=b/\b<=100):zuA a b=some (zCy a b):=by
 unfold zuA zCy
 by_cases h:a < b
 ·rw[if_pos h,zqf (fI (by omega))]; congr 1; omega
 ·rw[if_neg h,zqf (fI (by omega))]; congr 1; omega
theorem zEM{f:Fld}{t:Thr}(h:zCx t):Ev (zuB f t) (zCz f t):=Ev.bind (zEL h.a h.b) (Ev.dec Iff.rfl)
theorem zEN{f:Fld}{t:Thr}(h:zCx t):zuC f t=some (zCA f t):=by
 have h1:=h.a; have h2:=h.b;unfold zuC zCA
 refine Ev.pick (zEM h) (fun hc=>?_) fun hc=>by
  rw[zqg rfl,if_neg hc,zqf (fI (by omega)),zqf (by omega),zqf (by omega),zqf (fI (by omega))]
 rw[if_pos rfl,if_pos hc]
 repeat' split
 all_goals (congr 1; omega)
def OkC(c:Cse):Prop:=zrL c
theorem zEO{c:Cse}(hc:zB9 c){f:Fld}(hf:zB8 c.Tariffs f){n:Int}(hn:0<=n/\n<=100):zuD c f n=some (zCS c f n):=by
 have h1:=VL.part_rng (zzZ.1 hc.tar).2 hf.crop.1 hf.crop.2 hn.1 hn.2 c.Day;have h2:=zBt hf.val h1;unfold zuD;rw[zAZ hc.tar hf.crop.1 hf.crop.2 hn.1 hn.2,obs,zqf hf.val.1,zqf h1.1,zqf (fI (by omega)),zqf h2.1,zqf (by omega),zqf (fI (by omega))]; rfl
def zEP(c:Cse)(f:Fld)(t:Thr):OcR:=⟨zCS c f (zCA f t),decide (zCz f t),if zCz f t then (if zCy t.Second (zCA f t) < zCy t.First (zCA f t) then 1 else if zCy t.First (zCA f t) < zCy t.Second (zCA f t) then -1 else 0) else 0⟩
theorem zEQ{c:Cse}(hc:zB9 c){f:Fld}(hf:zB8 c.Tariffs f){t:Thr}(ht:zCw f t):zuE c f t=some (zEP c f t):=by
 have hr:=ht.rng hf;have hs:=zCF (f:=f) hr;have e1:=zEL hr.a hs;have e2:=zEL hr.b hs;unfold zuE zEP;rw[zEN hr,obs,zEO hc hf hs,obs]
 refine Ev.pick (zEM hr) (fun hc=>?_) fun hc=>by rw[zqg rfl,if_neg hc,decide_eq_false hc]
 rw[if_pos rfl,if_pos hc,decide_eq_true hc,e1,obs,e2,obs]
 split
 ·rename_i h1
  rw[obs,obs,if_neg (by omega)]
 ·rename_i h1
  rw[obs,obs]
  split <;> rfl
def zER(c:Cse)(s:Int × Bool × Int):Res:=if s.2.1=true then (if 0 < s.2.2 then ⟨[],s.1,c.Fee,0⟩ else if s.2.2 < 0 then ⟨[],s.1,0,c.Fee⟩ else ⟨[],s.1,c.Fee - c.Fee / 2,c.Fee / 2⟩) else ⟨[],s.1,0,0⟩
def zES(s:Int × Bool × Int)(o:OcR):Int × Bool × Int:=(s.1+o.Pay,s.2.1 || o.Called,s.2.2+o.Lost)
theorem zET{c:Cse}(hc:zB9 c){l:List OcR}(hl:l.length<=1000)(hb:∀o∈l,(0<=o.Pay/\o.Pay<=100000)/\(-1<=o.Lost/\o.Lost<=1)):∀(d k:Nat) (A:Int) (b:Bool) (L:Int),k<=l.length->l.length - k < d->(0<=A/\A<=100000 * k)->(-(k:Int)<=L/\L<=k)->zuF c l d A 0 0 b L (k:Int)=some (zER c ((l.drop k).foldl zES (A,b,L)))
 | 0,k,_,_,_,_,h,_,_=>by omega
 | d+1,k,A,b,L,hk,h,hA,hL=>by
  have hfee:=hc.fee;rw[zuF]
  by_cases hkl:k < l.length
  ·obtain⟨o,h1,h2⟩:=zDh hkl;have ho:=hb o (List.mem_of_getElem? h1);have ih:=fun b'=>zET hc hl hb d (k+1) (A+o.Pay) b' (L+o.Lost) hkl (by omega) (by omega) (by omega);rw[if_pos (by omega),zq3 h1,obs,zqf (fI (by omega)),h2,List.foldl_cons,show(k:Int)+1=((k+1:Nat):Int) by omega]
   simp only[obs]
   rw[zqf (fI (by omega)),zqf (fI (by omega)),ih,ih]
   cases b
   ·rw[if_neg (by simp),zqf (fI (by omega)),zqf (fI (by omega))]; rfl
   ·rw[if_pos rfl]; rfl
  ·rw[if_neg (by omega),List.drop_eq_nil_of_le (by omega),List.foldl_nil];unfold zER
   dsimp only
   cases b
   ·simp
   ·rw[if_pos rfl,if_pos rfl]
    split
    ·rfl
    ·split
     ·rfl
     ·rw[zqf (by omega),zqf (by omega),zqf (fI (by omega)),zqf (fI (by omega))]
theorem zEU{c:Cse}(hc:zB9 c){l:List OcR}(hl:l.length<=1000)(hb:∀o∈l,(0<=o.Pay/\o.Pay<=100000)/\(-1<=o.Lost/\o.Lost<=1)):zuG c l=some (zER c (l.foldl zES (0,false,0))):=by
 have:=zET hc hl hb (l.length+1) 0 0 false 0 (by omega) (by omega) (by omega) (by omega);rw[List.drop_zero] at this;exact this
def zEV(c:Cse):List Fld->List Thr->List OcR
 | f::fs,t::ts=>zEP c f t::zEV c fs ts
 | _,_=>[]
theorem zEW{c:Cse}(hc:zB9 c){f:Fld}(hf:zB8 c.Tariffs f){t:Thr}(ht:zCw f t):(0<=(zEP c f t).Pay/\(zEP c f t).Pay<=100000)/\(-1<=(zEP c f t).Lost/\(zEP c f t).Lost<=1):=by
 refine⟨zCV hc hf (zCF (ht.rng hf)),?_⟩;unfold zEP
 dsimp only
 repeat' split
 all_goals omega
theorem zEX{c:Cse}(hc:zB9 c):∀{fs:List Fld} {ts:List Thr},(∀f∈fs,zB8 c.Tariffs f)->zDf fs ts->(∀o∈zEV c fs ts,(0<=o.Pay/\o.Pay<=100000)/\(-1<=o.Lost/\o.Lost<=1))/\(zEV c fs ts).length=fs.length
 | [],[],_,_=>⟨fun o h=>(by cases h),rfl⟩
 | f::fs,t::ts,hf,ht=>by
  have ih:=zEX hc (fun x hx=>hf x (List.mem_cons_of_mem _ hx)) ht.2;refine⟨fun o ho=>?_,by simp[zEV,ih.2]⟩
  rcases List.mem_cons.1 ho with rfl | ho
  ·exact zEW hc (hf f (List.mem_cons_self ..)) ht.1
  ·exact ih.1 o ho
theorem zEY{c:Cse}(hc:zB9 c){t:List Thr}(he:t.length=c.Fields.length){R:Res}:∀(d k:Nat) (l:List OcR) (n:List Int),k<=c.Fields.length->c.Fields.length - k < d->l.length=k->n.length=k->zDf (c.Fields.drop k) (t.drop k) ->
  zuG c (l++zEV c (c.Fields.drop k) (t.drop k))=some R->zuH c t d l n (k:Int)=some ⟨n++zDl (c.Fields.drop k) (t.drop k),R.Award,R.Farmer,R.Society⟩
 | 0,k,_,_,_,h,_,_,_,_=>by omega
 | d+1,k,l,n,hk,h,hll,hnl,ht,hR=>by
  have hlen:=hc.len;rw[zuH]
  by_cases hkl:k < c.Fields.length
  ·obtain⟨f,h1,h2⟩:=zDh hkl;obtain⟨x,h3,h4⟩:=zDh (l:=t) (k:=k) (by omega);rw[h2,h4] at ht hR ⊢;have hf:=hc.fld f (List.mem_of_getElem? h1);rw[if_pos (by omega),zq3 h1,obs,zq3 h3,obs,zEQ hc hf ht.1,obs,zqf (by omega),obs,obs,zEN (ht.1.rng hf),obs,zqf (by omega),zqf (fI (by omega)),show(k:Int)+1=((k+1:Nat):Int) by omega];rw[zEY hc he d (k+1) (l++[zEP c f x]) (n++[zCA f x]) hkl (by omega) (by simp; omega) (by simp; omega) ht.2 (by rw[List.append_assoc]; exact hR)]
   simp[zDl]
  ·rw[if_neg (by omega),List.drop_eq_nil_of_le (by omega),List.drop_eq_nil_of_le (by omega)];rw[List.drop_eq_nil_of_le (by omega),List.drop_eq_nil_of_le (by omega)] at hR
   simp only[zEV,List.append_nil] at hR
   rw[hR]; simp[zDl]
structure Rel (c:Cse) (v:Ver) (s:Int × Bool × Int):Prop where
 fee:v.fee=c.Fee
 p:v.pence=s.1
 cal:s.2.1=true↔0 < v.fields.f1+v.fields.f2+v.fields.f3
 nn:0<=v.fields.f1/\0<=v.fields.f2/\0<=v.fields.f3
 lost:s.2.2=v.fields.f2 - v.fields.f3
theorem Rel.add{c:Cse}{v:Ver}{s:Int × Bool × Int}(h:Rel c v s)(f:Fld)(t:Thr):Rel c (zC1 v (ocN c f t)) (zES s (zEP c f t)):=by
 obtain⟨h1,h2,h3,h4,h5⟩:=h;obtain⟨s1,s2,s3⟩:=s;unfold zC1 zES ocN zEP zCB
 dsimp only at *
 refine⟨h1,by dsimp only; rw[h2],?_,?_,?_⟩
 all_goals (dsimp only; by_cases hc:zCz f t)
 ·simp only[if_pos hc,decide_eq_true hc,Bool.or_true,true_iff]
  repeat' split
  all_goals omega
 ·simp only[if_neg hc,decide_eq_false hc,Bool.or_false,h3]
  simp
 ·simp only[if_pos hc]
  refine⟨?_,?_,?_⟩ <;> split <;> omega
 ·simp only[if_neg hc]
  simp; exact h4
 ·simp only[if_pos hc]
  by_cases h6:zCy t.Second (zCA f t) < zCy t.First (zCA f t)
  ·simp only[if_pos h6]; simp; omega
  ·by_cases h7:zCy t.First (zCA f t) < zCy t.Second (zCA f t)
   ·simp only[if_neg h6,if_pos h7]; simp; omega
   ·simp only[if_neg h6,if_neg h7]; simp; omega
 ·simp only[if_neg hc]
  simp; omega
theorem zEZ{c:Cse}:∀{fs:List Fld} {ts:List Thr} {v:Ver} {s:Int × Bool × Int},zDf fs ts->Rel c v s->Rel c (zDk c fs ts v) ((zEV c fs ts).foldl zES s)
 | [],[],_,_,_,h=>h
 | f::fs,t::ts,_,_,ht,h=>zEZ (fs:=fs) (ts:=ts) ht.2 (h.add f t)
theorem zE0{c:Cse}(hc:zB9 c){t:List Thr}(ht:zDf c.Fields t):zuI c t=some (zDn c t):=by
 have hl:=hc.len;have h1:=zEX hc hc.fld ht;have h2:=zEU hc (by omega) h1.1;have hrel:Rel c (zDm c t) ((zEV c c.Fields t).foldl zES (0,false,0)):=zEZ ht ⟨rfl,rfl,by simp,by simp,rfl⟩;have h3:=zEY hc ht.len.symm (t.length+1) 0 [] [] (by omega) (by have:=ht.len; omega) rfl rfl ht h2;unfold zuI;rw[show(0:Int)=((0:Nat):Int) from rfl,h3];unfold zDn;generalize (zEV c c.Fields t).foldl zES (0,false,0)=s at hrel;generalize zDm c t=v at hrel;obtain⟨e1,e2,e3,e4,e5⟩:=hrel;have hfee:=hc.fee;rw[List.drop_zero,List.drop_zero,List.nil_append];unfold zER zC6 zC7 zC6
 by_cases hv:zC5 v
 ·have hs:s.2.1=true:=e3.2 hv
  simp only[if_pos hs,if_pos hv]
  by_cases h6:v.fields.f2 < v.fields.f3
  ·rw[if_pos h6,if_neg (by omega),if_pos (by omega)]
   simp[e2,e1]
  ·by_cases h7:v.fields.f3 < v.fields.f2
   ·rw[if_neg h6,if_pos h7,if_pos (by omega)]
    simp[e2,e1]
   ·rw[if_neg h6,if_neg h7,if_neg (by omega),if_neg (by omega)]
    simp only[e2,e1]
    congr 2
    omega
 ·have hs:¬ s.2.1=true:=fun h=>hv (e3.1 h)
  simp only[if_neg hs,if_neg hv,e2]
theorem zDG.uniq{c:Cse}{q:Ver->Int}{r s:Rg}(h:zDG c q r)(h':zDG c q s):r=s:=by
 obtain⟨t1,a1,a2⟩:=h.lo;obtain⟨t2,b1,b2⟩:=h.hi;obtain⟨t3,c1,c2⟩:=h'.lo;obtain⟨t4,d1,d2⟩:=h'.hi;have k1:=h'.all _ a1; have k2:=h'.all _ b1; have k3:=h.all _ c1; have k4:=h.all _ d1;obtain⟨rl,rh⟩:=r;obtain⟨sl,sh⟩:=s
 dsimp only at *
 have e1:rl=sl:=by omega
 have e2:rh=sh:=by omega
 rw[e1,e2]
theorem zE1{c:Cse}(hc:zB9 c){f:Fld}(hf:zB8 c.Tariffs f){t:Thr}(ht:zCw f t):zl0 .i64 (zEP c f t).Pay/\zl0 .i64 (zEP c f t).Lost:=by
 have h:=zEW hc hf ht;exact⟨fI (by omega),fI (by omega)⟩
open Classical in
theorem zE2{l:List OcR}(hl:l.length<=1000){i:Int}{r:OcR}(hr:zl0 .i64 r.Pay/\zl0 .i64 r.Lost)(hlf:∀o∈l,zl0 .i64 o.Pay/\zl0 .i64 o.Lost)(hi:0<=i/\i<=1000){K:List OcR->Int->Option (List OcR)}:∀(d k:Nat) (b:Bool),k<=l.length->l.length - k < d ->
  zvl l i r K d b (k:Int)=if b=true\/r∈l.drop k then K l (i+1) else K (l++[r]) (i+1)
 | 0,k,_,_,h=>by omega
 | d+1,k,b,hk,h=>by
  rw[zvl]
  by_cases hkl:k < l.length
  ·obtain⟨o,h1,h2⟩:=zDh hkl;have ho:=hlf o (List.mem_of_getElem? h1);have ih:=fun b'=>zE2 hl hr hlf hi (K:=K) d (k+1) b' hkl (by omega);rw[if_pos (by omega)]
   cases b with
   | true=>
    rw[if_pos rfl,zqf (fI (by omega)),show(k:Int)+1=((k+1:Nat):Int) by omega,ih,if_pos (.inl rfl),if_pos (.inl rfl)]
   | false=>
    rw[if_neg (by simp),zq3 h1,obs,zqf ho.1,zqf hr.1,zqf ho.2,zqf hr.2,zqf (fI (by omega)),show(k:Int)+1=((k+1:Nat):Int) by omega,ih,h2]
    have e:((decide (o.Pay=r.Pay) && (o.Called == r.Called && decide (o.Lost=r.Lost)))=true)↔r=o:=by
     obtain⟨a1,a2,a3⟩:=o;obtain⟨b1,b2,b3⟩:=r
     simp only[Bool.and_eq_true,decide_eq_true_iff,beq_iff_eq,OcR.mk.injEq]
     exact⟨fun⟨x,y,z⟩=>⟨x.symm,y.symm,z.symm⟩,fun⟨x,y,z⟩=>⟨x.symm,y.symm,z.symm⟩⟩
    have e2:((decide (o.Pay=r.Pay) && (o.Called == r.Called && decide (o.Lost=r.Lost)))=true\/r∈l.drop (k+1))↔(false=true\/r∈o::l.drop (k+1)):=by
     rw[e,List.mem_cons]; simp
    by_cases hh:false=true\/r∈o::l.drop (k+1)
    ·rw[if_pos hh,if_pos (e2.2 hh)]
    ·rw[if_neg hh,if_neg fun h=>hh (e2.1 h)]
  ·rw[if_neg (by omega),List.drop_eq_nil_of_le (by omega)]
   cases b with
   | true=>rw[if_pos rfl,zqf (fI (by omega)),if_pos (.inl rfl)]
   | false=>rw[if_neg (by simp),zqf (by omega),zqf (fI (by omega)),if_neg (by simp)]
theorem zE3{α:Type}:∀{l U:List α},l.Nodup->(∀a∈l,a∈U)->l.length<=U.length
 | [],_,_,_=>by simp
 | a::l,U,hn,hs=>by
  obtain⟨U1,U2,rfl⟩:=List.append_of_mem (hs a (List.mem_cons_self ..));have h1:=List.nodup_cons.1 hn
  have:=zE3 (U:=U1++U2) h1.2 fun b hb=>by
   have:=hs b (List.mem_cons_of_mem _ hb)
   rcases List.mem_append.1 this with h | h
   ·exact List.mem_append_left _ h
   ·rcases List.mem_cons.1 h with rfl | h
    ·exact absurd hb h1.1
    ·exact List.mem_append_right _ h
  simp only[List.length_cons,List.length_append] at this ⊢
  omega
def zE4(c:Cse)(f:Fld):List OcR:=
 (segI f.First.Lo 5++segI f.Second.Lo 5++segI f.Umpire.Lo 5).flatMap (fun n=>[⟨zCS c f n,true,-1⟩,⟨zCS c f n,true,0⟩,⟨zCS c f n,true,1⟩])++(segI ((f.First.Lo+f.Second.Lo) / 2) 5).map fun n=>⟨zCS c f n,false,0⟩
theorem zE5{c:Cse}{f:Fld}:(zE4 c f).length=50:=by
 unfold zE4
 simp[List.length_flatMap,zro,List.map_const']
theorem zE6{c:Cse}{f:Fld}(hf:zB8 c.Tariffs f){t:Thr}(ht:zCw f t):zEP c f t∈zE4 c f:=by
 have w1:=hf.fst.wd; have w2:=hf.snd.wd; have w3:=hf.ump.wd;have t1:=ht.a; have t2:=ht.b; have t3:=ht.u;unfold zE4 zEP
 by_cases hc:zCz f t
 ·refine List.mem_append_left _ (List.mem_flatMap.2 ⟨zCA f t,?_,?_⟩)
  ·have hs:zCA f t=t.First\/zCA f t=t.Second\/zCA f t=t.Umpire:=by unfold zCA; rw[if_pos hc]; omega
   rcases hs with h | h | h
   ·exact List.mem_append_left _ (List.mem_append_left _ (zrn.2 (by omega)))
   ·exact List.mem_append_left _ (List.mem_append_right _ (zrn.2 (by omega)))
   ·exact List.mem_append_right _ (zrn.2 (by omega))
  ·rw[if_pos hc,decide_eq_true hc]
   split
   ·simp
   ·split <;> simp
 ·refine List.mem_append_right _ (List.mem_map.2 ⟨zCA f t,zrn.2 ?_,?_⟩)
  ·unfold zCA; rw[if_neg hc]; omega
  ·rw[if_neg hc,decide_eq_false hc]
theorem zE7{c:Cse}(hc:zB9 c){f:Fld}(hf:zB8 c.Tariffs f){ts:List Thr}(hts:∀t∈ts,zCw f t)(htl:ts.length<=1000):∀(d k:Nat) (l:List OcR),k<=ts.length->ts.length - k < d->l.Nodup->(∀o∈l,∃t,zCw f t/\zEP c f t=o) ->
  ∃L,zvm c f ts d l (k:Int)=some L/\L.Nodup/\(∀o,o∈L↔o∈l\/∃t∈ts.drop k,zEP c f t=o)/\(∀o∈L,∃t,zCw f t/\zEP c f t=o)
 | 0,k,_,_,h,_,_=>by omega
 | d+1,k,l,hk,h,hn,hl=>by
  have hlen:l.length<=50:=by
   rw[<- zE5 (c:=c) (f:=f)]
   exact zE3 hn fun o ho=>by obtain⟨t,ht,rfl⟩:=hl o ho; exact zE6 hf ht
  rw[zvm]
  by_cases hkl:k < ts.length
  ·obtain⟨t,h1,h2⟩:=zDh hkl;have ht:=hts t (List.mem_of_getElem? h1);rw[if_pos (by omega),zq3 h1,obs,zEQ hc hf ht,obs,h2];have hL1:=zE2 (l:=l) (by omega) (i:=(k:Int)) (zE1 hc hf ht) (fun o ho=>by obtain⟨u,hu,rfl⟩:=hl o ho; exact zE1 hc hf hu) (by omega) (K:=zvm c f ts d) (l.length+1) 0 false (by omega) (by omega);rw[show(0:Int)=((0:Nat):Int) from rfl,hL1,List.drop_zero,show(k:Int)+1=((k+1:Nat):Int) by omega]
   by_cases hm:zEP c f t∈l
   ·rw[if_pos (.inr hm)];obtain⟨L,q1,q2,q3,q4⟩:=zE7 hc hf hts htl d (k+1) l hkl (by omega) hn hl;refine⟨L,q1,q2,fun o=>?_,q4⟩;rw[q3]
    constructor
    ·rintro (h | ⟨u,hu,he⟩)
     ·exact .inl h
     ·exact .inr ⟨u,List.mem_cons_of_mem _ hu,he⟩
    ·rintro (h | ⟨u,hu,rfl⟩)
     ·exact .inl h
     ·rcases List.mem_cons.1 hu with rfl | hu
      ·exact .inl hm
      ·exact .inr ⟨u,hu,rfl⟩
   ·rw[if_neg (by simp[hm])];obtain⟨L,q1,q2,q3,q4⟩:=zE7 hc hf hts htl d (k+1) (l++[zEP c f t]) hkl (by omega) (List.nodup_append.2 ⟨hn,by simp,fun a ha b hb=>by rw[List.mem_singleton.1 hb]; exact fun he=>hm (he ▸ ha)⟩) (fun o ho=>(List.mem_append.1 ho).elim (hl o) fun h=>⟨t,ht,(List.mem_singleton.1 h).symm⟩);refine⟨L,q1,q2,fun o=>?_,q4⟩;rw[q3,List.mem_append,List.mem_singleton]
    constructor
    ·rintro ((h | h) | ⟨u,hu,he⟩)
     ·exact .inl h
     ·exact .inr ⟨t,List.mem_cons_self ..,h.symm⟩
     ·exact .inr ⟨u,List.mem_cons_of_mem _ hu,he⟩
    ·rintro (h | ⟨u,hu,rfl⟩)
     ·exact .inl (.inl h)
     ·rcases List.mem_cons.1 hu with rfl | hu
      ·exact .inl (.inr rfl)
      ·exact .inr ⟨u,hu,rfl⟩
  ·rw[if_neg (by omega),List.drop_eq_nil_of_le (by omega)];exact⟨l,rfl,hn,fun o=>⟨.inl,fun h=>h.elim id fun⟨_,h,_⟩=>by cases h⟩,hl⟩
theorem zE8{c:Cse}(hc:zB9 c){f:Fld}(hf:zB8 c.Tariffs f):∃L,zvn c f=some L/\L.length<=50/\∀o,o∈L↔∃t,zCw f t/\zEP c f t=o:=by
 have hn:=zCN hf;obtain⟨L,q1,q2,q3,q4⟩:=zE7 hc hf (ts:=zCJ f) (fun t ht=>(zCM hf).1 ht) (by omega) ((zCJ f).length+1) 0 [] (by omega) (by omega) List.nodup_nil (fun o ho=>by cases ho);refine⟨L,?_,?_,fun o=>?_⟩
 ·unfold zvn;rw[zEK hf,obs];exact q1
 ·rw[<- zE5 (c:=c) (f:=f)]
  exact zE3 q2 fun o ho=>by obtain⟨t,ht,rfl⟩:=q4 o ho; exact zE6 hf ht
 ·rw[q3,List.drop_zero];exact⟨fun h=>h.elim (fun h=>by cases h) fun⟨t,ht,he⟩=>⟨t,(zCM hf).1 ht,he⟩,fun⟨t,ht,he⟩=>.inr ⟨t,(zCM hf).2 ht,he⟩⟩
end
end Go.Proofs.YtnjbahoohfaplaaGreat

namespace Go.Proofs.YtnjbahoohfaplaaGreat
open _root_.Go.Proofs.Tryz
open Go.Abs
set_option maxRecDepth 100000
noncomputable section
theorem zE9{all:List (List OcR)}{outs:List OcR}{k:Nat}{v:List OcR}(hv:all[k]? = some v)(hvl:v.length<=1000)(hk:k<=1000000)(hol:outs.length<=1000){K:List (List OcR)->Int->Option (List Res)}:∀(d j:Nat) (acc:List (List OcR)),j<=outs.length->outs.length - j < d->acc.length+(outs.length - j)<=1000000 ->
  zvo all outs (k:Int) K d acc (j:Int)=K (acc++(outs.drop j).map fun o=>v++[o]) ((k:Int)+1)
 | 0,j,_,_,h,_=>by omega
 | d+1,j,acc,hj,h,hb=>by
  rw[zvo]
  by_cases hjl:j < outs.length
  ·obtain⟨o,h1,h2⟩:=zDh hjl;rw[if_pos (by omega),zq3 hv,obs,zqf (by simp; omega),zq3 h1,obs,zqf (by simp; omega),zqf (by omega),zqf (fI (by omega)),show(j:Int)+1=((j+1:Nat):Int) by omega,zE9 hv hvl hk hol d (j+1) _ hjl (by omega) (by simp; omega),h2]
   simp
  ·rw[if_neg (by omega),zqf (fI (by omega)),List.drop_eq_nil_of_le (by omega)]; simp
theorem zFa{all:List (List OcR)}{outs:List OcR}(hvl:∀v∈all,v.length<=1000)(hal:all.length<=1000000)(hol:outs.length<=1000){i:Int}(hi:0<=i/\i<=1000){K:List (List OcR)->Int->Option (List Res)}:∀(d k:Nat) (acc:List (List OcR)),k<=all.length->all.length - k < d->acc.length+(all.length - k) * outs.length<=1000000 ->
  zvp all i outs K d acc (k:Int)=K (acc++(all.drop k).flatMap fun v=>outs.map fun o=>v++[o]) (i+1)
 | 0,k,_,_,h,_=>by omega
 | d+1,k,acc,hk,h,hb=>by
  rw[zvp]
  by_cases hkl:k < all.length
  ·obtain⟨v,h1,h2⟩:=zDh hkl
   have hb2:(all.length - k) * outs.length=(all.length - (k+1)) * outs.length+outs.length:=by
    rw[show all.length - k=(all.length - (k+1))+1 by omega,Nat.add_mul,Nat.one_mul]
   rw[if_pos (by omega),show(0:Int)=((0:Nat):Int) from rfl,zE9 h1 (hvl v (List.mem_of_getElem? h1)) (by omega) hol _ 0 acc (by omega) (by omega) (by omega),show(k:Int)+1=((k+1:Nat):Int) by omega];rw[zFa hvl hal hol hi d (k+1) _ hkl (by omega) (by simp; omega),h2]
   simp
  ·rw[if_neg (by omega),zqf (fI (by omega)),List.drop_eq_nil_of_le (by omega)]; simp
def zFb(c:Cse)(v:List OcR):Res:=zER c (v.foldl zES (0,false,0))
theorem zFc{c:Cse}{all:List (List OcR)}(he:∀v∈all,zuG c v=some (zFb c v))(hal:all.length<=1000000):∀(d k:Nat) (acc:List Res),k<=all.length->all.length - k < d->acc.length=k->zvq c all d acc (k:Int)=some (acc++(all.drop k).map (zFb c))
 | 0,k,_,_,h,_=>by omega
 | d+1,k,acc,hk,h,ha=>by
  rw[zvq]
  by_cases hkl:k < all.length
  ·obtain⟨v,h1,h2⟩:=zDh hkl;rw[if_pos (by omega),zq3 h1,obs,he v (List.mem_of_getElem? h1),obs,zqf (by omega),zqf (fI (by omega)),show(k:Int)+1=((k+1:Nat):Int) by omega,zFc he hal d (k+1) _ hkl (by omega) (by simp; omega),h2]
   simp
  ·rw[if_neg (by omega),List.drop_eq_nil_of_le (by omega)]; simp
theorem zFd{f:Fld}:∀{fs:List Fld} {ts:List Thr},zDf (fs++[f]) ts↔∃us t,ts=us++[t]/\zDf fs us/\zCw f t
 | [],ts=>by
  constructor
  ·intro h
   match ts,h with
   | [t],h=>exact⟨[],t,rfl,trivial,h.1⟩
   | [],h=>exact h.elim
   | _::_::_,h=>exact h.2.elim
  ·rintro⟨us,t,rfl,h1,h2⟩
   cases us with
   | nil=>exact⟨h2,trivial⟩
   | cons u us=>exact h1.elim
 | g::fs,ts=>by
  constructor
  ·intro h
   match ts,h with
   | x::ts,h=>
    obtain⟨us,t,rfl,h1,h2⟩:=zFd.1 h.2;exact⟨x::us,t,rfl,⟨h.1,h1⟩,h2⟩
   | [],h=>exact h.elim
  ·rintro⟨us,t,rfl,h1,h2⟩
   cases us with
   | nil=>exact h1.elim
   | cons u us=>exact⟨h1.1,zFd.2 ⟨us,t,rfl,h1.2,h2⟩⟩
theorem zFe{c:Cse}{f:Fld}{t:Thr}:∀{fs:List Fld} {us:List Thr},zDf fs us->zEV c (fs++[f]) (us++[t])=zEV c fs us++[zEP c f t]
 | [],[],_=>rfl
 | g::fs,u::us,h=>by
  show zEP c g u::zEV c (fs++[f]) (us++[t])=_
  rw[zFe h.2]; rfl
theorem zFf{c:Cse}(hc:zB9 c):∀(d k:Nat) (all:List (List OcR)),k<=c.Fields.length->c.Fields.length - k+1<=d->all.length<=50 ^ k->(∀v,v∈all↔∃ts,zDf (c.Fields.take k) ts/\zEV c (c.Fields.take k) ts=v) ->
  ∃L,zvr c d all (k:Int)=some L/\L.length<=125000/\∀r,r∈L↔∃ts,zDf c.Fields ts/\zFb c (zEV c c.Fields ts)=r
 | 0,k,_,_,h,_,_=>by omega
 | d+1,k,all,hk,h,hal,hm=>by
  have hlen:=hc.len
  have hk3:k<=3:=by omega
  have hal2:all.length<=125000:=Nat.le_trans hal (Nat.le_trans (Nat.pow_le_pow_right (by omega) hk3) (by decide));have hft:∀f∈c.Fields.take k,zB8 c.Tariffs f:=fun f hf=>hc.fld f (List.mem_of_mem_take hf)
  have hvl:∀v∈all,v.length<=1000:=fun v hv=>by
   obtain⟨ts,h1,rfl⟩:=(hm v).1 hv;have:=(zEX hc hft h1).2;rw[List.length_take] at this
   omega
  rw[zvr]
  by_cases hkl:k < c.Fields.length
  ·obtain⟨f,h1,h2⟩:=zDh hkl;have hf:=hc.fld f (List.mem_of_getElem? h1)
   have htk:c.Fields.take (k+1)=c.Fields.take k++[f]:=by rw[List.take_add_one,h1]; rfl
   obtain⟨outs,o1,o2,o3⟩:=zE8 hc hf
   have hprod:all.length * outs.length<=125000:=by
    have hk2:k<=2:=by omega
    have a1:all.length<=2500:=Nat.le_trans hal (Nat.le_trans (Nat.pow_le_pow_right (by omega) hk2) (by decide));exact Nat.mul_le_mul a1 o2
   rw[if_pos (by omega),zq3 h1,obs,o1,obs,show(0:Int)=((0:Nat):Int) from rfl,zFa hvl (by omega) (by omega) (by omega) _ 0 [] (by omega) (by omega) (by simp; omega),show(k:Int)+1=((k+1:Nat):Int) by omega,List.nil_append,List.drop_zero];refine zFf hc d (k+1) _ hkl (by omega) ?_ fun v=>?_
   ·rw[Nat.pow_succ]
    have e:(all.flatMap fun v=>outs.map fun o=>v++[o]).length=all.length * outs.length:=by
     simp[List.length_flatMap,List.map_const',List.sum_replicate_nat]
    rw[e];exact Nat.mul_le_mul hal o2
   ·rw[List.mem_flatMap,htk]
    constructor
    ·rintro⟨w,hw,hv⟩
     obtain⟨o,ho,rfl⟩:=List.mem_map.1 hv;obtain⟨ts,q1,rfl⟩:=(hm w).1 hw;obtain⟨t,ht,rfl⟩:=(o3 o).1 ho;exact⟨ts++[t],zFd.2 ⟨ts,t,rfl,q1,ht⟩,zFe q1⟩
    ·rintro⟨ts,q1,rfl⟩
     obtain⟨us,t,rfl,q2,q3⟩:=zFd.1 q1;exact⟨_,(hm _).2 ⟨us,q2,rfl⟩,List.mem_map.2 ⟨zEP c f t,(o3 _).2 ⟨t,q3,rfl⟩,(zFe q2).symm⟩⟩
  ·have htk:c.Fields.take k=c.Fields:=List.take_of_length_le (by omega);rw[htk] at hm
   rw[if_neg (by omega),show(0:Int)=((0:Nat):Int) from rfl,zFc (fun v hv=>by
    obtain⟨ts,q1,rfl⟩:=(hm v).1 hv;have hok:=zEX hc hc.fld q1
    exact zEU hc (by omega) hok.1) (by omega) _ 0 [] (by omega) (by omega) rfl]
   refine⟨_,rfl,by simp; omega,fun r=>?_⟩;rw[List.nil_append,List.drop_zero,List.mem_map]
   constructor
   ·rintro⟨v,hv,rfl⟩
    obtain⟨ts,q1,rfl⟩:=(hm v).1 hv;exact⟨ts,q1,rfl⟩
   ·rintro⟨ts,q1,rfl⟩
    exact⟨_,(hm _).2 ⟨ts,q1,rfl⟩,rfl⟩
theorem zFg{c:Cse}(hc:zB9 c){ts:List Thr}(ht:zDf c.Fields ts):(zFb c (zEV c c.Fields ts)).Award=(zDm c ts).pence/\(zFb c (zEV c c.Fields ts)).Farmer=zC6 (zDm c ts)/\(zFb c (zEV c c.Fields ts)).Society=zC7 (zDm c ts):=by
 have hlen:=hc.len;have h1:=zEX hc hc.fld ht;have h2:=zEU hc (by omega) h1.1;have h3:=zEY hc ht.len.symm (t:=ts) (ts.length+1) 0 [] [] (by omega) (by have:=ht.len; omega) rfl rfl ht h2;have h4:=zE0 hc ht;unfold zuI at h4;rw[show zuH c ts (ts.length+1) [] [] (0:Int)=_ from h3] at h4;have h5:=oi h4;unfold zDn at h5;have h6:=Res.mk.inj h5;exact⟨h6.2.1,h6.2.2.1,h6.2.2.2⟩
theorem zFh{c:Cse}(hc:zB9 c):∃L,zvs c=some L/\L.length<=125000/\∀r,r∈L↔∃ts,zDf c.Fields ts/\zFb c (zEV c c.Fields ts)=r:=by
 have hlen:=hc.len;refine zFf hc 1000000 0 [[]] (by omega) (by omega) (by simp) fun v=>?_;rw[List.take_zero,List.mem_singleton]
 constructor
 ·rintro rfl; exact⟨[],trivial,rfl⟩
 ·rintro⟨ts,q1,rfl⟩
  cases ts with
  | nil=>rfl
  | cons t ts=>exact q1.elim
def zFi(q:Res->Int)(L:List Res)(r:Rg):Rg:=L.foldl (fun r x=>⟨min r.Lo (q x),max r.Hi (q x)⟩) r
theorem zFj{q:Res->Int}:∀{L:List Res} {r:Rg},((zFi q L r).Lo=r.Lo\/∃x∈L,q x=(zFi q L r).Lo)/\((zFi q L r).Hi=r.Hi\/∃x∈L,q x=(zFi q L r).Hi)/\(zFi q L r).Lo<=r.Lo/\r.Hi<=(zFi q L r).Hi/\∀x∈L,(zFi q L r).Lo<=q x/\q x<=(zFi q L r).Hi
 | [],r=>⟨.inl rfl,.inl rfl,Int.le_refl _,Int.le_refl _,fun x h=>by cases h⟩
 | y::L,r=>by
  obtain⟨h1,h2,h3,h4,h5⟩:=zFj (q:=q) (L:=L) (r:=⟨min r.Lo (q y),max r.Hi (q y)⟩);rw[show zFi q (y::L) r=zFi q L ⟨min r.Lo (q y),max r.Hi (q y)⟩ from rfl]
  dsimp only at h1 h2 h3 h4
  refine⟨?_,?_,by omega,by omega,fun x hx=>?_⟩
  ·rcases h1 with h1 | ⟨x,hx,he⟩
   ·by_cases hc:r.Lo<=q y
    ·exact .inl (by omega)
    ·exact .inr ⟨y,List.mem_cons_self ..,by omega⟩
   ·exact .inr ⟨x,List.mem_cons_of_mem _ hx,he⟩
  ·rcases h2 with h2 | ⟨x,hx,he⟩
   ·by_cases hc:q y<=r.Hi
    ·exact .inl (by omega)
    ·exact .inr ⟨y,List.mem_cons_self ..,by omega⟩
   ·exact .inr ⟨x,List.mem_cons_of_mem _ hx,he⟩
  ·rcases List.mem_cons.1 hx with rfl | hx
   ·omega
   ·exact h5 x hx
def zFk:Rg:=⟨1099511627776,-1099511627776⟩
theorem zFl{L:List Res}(hL:L.length<=1000000000)(hf:∀x∈L,zl0 .i64 (x.Award - x.Farmer)/\zl0 .i64 (x.Award+x.Society)):∀(d k:Nat) (a b s n o:Rg),k<=L.length->L.length - k < d ->
  zvt L d a.Lo a.Hi b.Lo b.Hi s.Lo s.Hi n.Lo n.Hi o.Lo o.Hi (k:Int)=some (zFi (·.Award) (L.drop k) a,zFi (·.Farmer) (L.drop k) b,zFi (·.Society) (L.drop k) s,⟨(zFi (fun x=>x.Award - x.Farmer) (L.drop k) n).Lo,(zFi (fun x=>x.Award+x.Society) (L.drop k) o).Hi⟩)
 | 0,k,_,_,_,_,_,_,h=>by omega
 | d+1,k,a,b,s,n,o,hk,h=>by
  rw[zvt]
  by_cases hkl:k < L.length
  ·obtain⟨x,h1,h2⟩:=zDh hkl;have hx:=hf x (List.mem_of_getElem? h1);rw[if_pos (by omega),zq3 h1]
   simp only[obs,zuN]
   rw[zqf hx.1,zqf hx.2,zqf (fI (by omega)),show(k:Int)+1=((k+1:Nat):Int) by omega,h2];exact zFl hL hf d (k+1) ⟨min a.Lo x.Award,max a.Hi x.Award⟩ ⟨min b.Lo x.Farmer,max b.Hi x.Farmer⟩ ⟨min s.Lo x.Society,max s.Hi x.Society⟩ ⟨min n.Lo (x.Award - x.Farmer),max n.Hi (x.Award - x.Farmer)⟩ ⟨min o.Lo (x.Award+x.Society),max o.Hi (x.Award+x.Society)⟩ hkl (by omega)
  ·rw[if_neg (by omega),List.drop_eq_nil_of_le (by omega)]; rfl
theorem zFm{c:Cse}(hc:zB9 c){L:List Res}(hL:∀r,r∈L↔∃ts,zDf c.Fields ts/\zFb c (zEV c c.Fields ts)=r){q:Res->Int}{qN:Ver->Int}(hq:∀ts,zDf c.Fields ts->q (zFb c (zEV c c.Fields ts))=qN (zDm c ts))(hb:∀ts,zDf c.Fields ts->-1000000<=qN (zDm c ts)/\qN (zDm c ts)<=1000000):zDG c qN (zFi q L zFk):=by
 obtain⟨h1,h2,h3,h4,h5⟩:=zFj (q:=q) (L:=L) (r:=zFk);obtain⟨ts,hts⟩:=zDD hc.fld;have hm:=h5 _ ((hL _).2 ⟨ts,hts,rfl⟩);rw[hq ts hts] at hm;have hb0:=hb ts hts;have e1:zFk.Lo=1099511627776:=rfl;have e2:zFk.Hi = -1099511627776:=rfl;refine⟨fun us hus=>?_,?_,?_⟩
 ·have:=h5 _ ((hL _).2 ⟨us,hus,rfl⟩);rw[hq us hus] at this;exact this
 ·rcases h1 with h1 | ⟨x,hx,he⟩
  ·omega
  ·obtain⟨us,hus,rfl⟩:=(hL x).1 hx;exact⟨us,hus,by rw[<- hq us hus]; exact he⟩
 ·rcases h2 with h2 | ⟨x,hx,he⟩
  ·omega
  ·obtain⟨us,hus,rfl⟩:=(hL x).1 hx;exact⟨us,hus,by rw[<- hq us hus]; exact he⟩
theorem zFn{c:Cse}(hc:zB9 c):∃a x y n o,zvu c=some (a,x,y,⟨n.Lo,o.Hi⟩)/\zDG c (·.pence) a/\zDG c zC6 x/\zDG c zC7 y/\zDG c zDL n/\zDG c zDM o:=by
 obtain⟨L,h1,hlen,h2⟩:=zFh hc
 have hb:∀ts,zDf c.Fields ts->(0<=(zDm c ts).pence/\(zDm c ts).pence<=300000)/\(0<=zC6 (zDm c ts)/\zC6 (zDm c ts)<=10000)/\(0<=zC7 (zDm c ts)/\zC7 (zDm c ts)<=10000):=fun ts ht=>by
  have hok:=zDF hc ht;have:=zDa hok; have:=zDc hok; have:=hok.p; have:=hok.fee
  omega
 have hr:=fun ts ht=>zFg hc (ts:=ts) ht
 have hf:∀x∈L,zl0 .i64 (x.Award - x.Farmer)/\zl0 .i64 (x.Award+x.Society):=fun x hx=>by
  obtain⟨ts,ht,rfl⟩:=(h2 x).1 hx;obtain⟨e1,e2,e3⟩:=hr ts ht;have:=hb ts ht;rw[e1,e2,e3];exact⟨fI (by omega),fI (by omega)⟩
 have h3:=zFl (by omega) hf (L.length+1) 0 zFk zFk zFk zFk zFk (by omega) (by omega);rw[List.drop_zero] at h3;refine⟨_,_,_,zFi (fun x=>x.Award - x.Farmer) L zFk,zFi (fun x=>x.Award+x.Society) L zFk,?_,zFm hc h2 (fun ts ht=>(hr ts ht).1) fun ts ht=>?_,zFm hc h2 (fun ts ht=>(hr ts ht).2.1) fun ts ht=>?_,zFm hc h2 (fun ts ht=>(hr ts ht).2.2) fun ts ht=>?_,zFm hc h2 (fun ts ht=>?_) fun ts ht=>?_,zFm hc h2 (fun ts ht=>?_) fun ts ht=>?_⟩
 ·unfold zvu;rw[h1,obs];exact h3
 ·have:=hb ts ht; omega
 ·have:=hb ts ht; omega
 ·have:=hb ts ht; omega
 ·obtain⟨e1,e2,e3⟩:=hr ts ht;rw[e1,e2]; rfl
 ·have:=hb ts ht; unfold zDL; omega
 ·obtain⟨e1,e2,e3⟩:=hr ts ht;rw[e1,e3]; rfl
 ·have:=hb ts ht; unfold zDM; omega
def zFo(c:Cse)(f:Fld)(t t':Thr):Prop:=t.First=t'.First/\t.Second=t'.Second/\zCS c f (zCA f t) ≠ zCS c f (zCA f t')
theorem zFp{c:Cse}(hc:zB9 c){f:Fld}(hf:zB8 c.Tariffs f){l:List Thr}(hl:∀t∈l,zCw f t)(hll:l.length<=1000){i:Nat}{t:Thr}(hi:l[i]? = some t){K:Bool->Int->Option Bool}{b:Bool}:∀(d k:Nat),k<=l.length->l.length - k < d ->
  ((∃t'∈l.drop k,zFo c f t t')->zuO c f l (i:Int) K d b (k:Int)=some true)/\((¬ ∃t'∈l.drop k,zFo c f t t')->zuO c f l (i:Int) K d b (k:Int)=K b ((i:Int)+1))
 | 0,k,_,h=>by omega
 | d+1,k,hk,h=>by
  have hil:=(List.getElem?_eq_some_iff.1 hi).1;rw[zuO]
  by_cases hkl:k < l.length
  ·obtain⟨u,h1,h2⟩:=zDh hkl;have ih:=zFp hc hf hl hll hi (K:=K) (b:=b) d (k+1) hkl (by omega);have ht:=hl t (List.mem_of_getElem? hi);have hu:=hl u (List.mem_of_getElem? h1);rw[if_pos (by omega),zq3 hi,zq3 h1,h2]
   simp only[obs]
   rw[zEQ hc hf ht,zEQ hc hf hu]
   simp only[obs]
   rw[zqf (show zl0 .i64 ((k:Int)+1) from fI (by omega)),show(k:Int)+1=((k+1:Nat):Int) by omega]
   show((∃t'∈u::l.drop (k+1),zFo c f t t')->(if t.First=u.First then (if t.Second=u.Second then (if zCS c f (zCA f t)=zCS c f (zCA f u) then _ else some true) else _) else _)=some true)/\((¬ ∃t'∈u::l.drop (k+1),zFo c f t t')->(if t.First=u.First then (if t.Second=u.Second then (if zCS c f (zCA f t)=zCS c f (zCA f u) then _ else some true) else _) else _)=_)
   by_cases hp:zFo c f t u
   ·refine⟨fun _=>?_,fun hn=>absurd ⟨u,List.mem_cons_self ..,hp⟩ hn⟩;rw[if_pos hp.1,if_pos hp.2.1,if_neg hp.2.2]
   ·have hcont:(if t.First=u.First then (if t.Second=u.Second then (if zCS c f (zCA f t)=zCS c f (zCA f u) then zuO c f l (i:Int) K d b ((k+1:Nat):Int) else some true) else zuO c f l (i:Int) K d b ((k+1:Nat):Int)) else zuO c f l (i:Int) K d b ((k+1:Nat):Int))=zuO c f l (i:Int) K d b ((k+1:Nat):Int):=by
     by_cases c1:t.First=u.First
     ·rw[if_pos c1]
      by_cases c2:t.Second=u.Second
      ·rw[if_pos c2]
       by_cases c3:zCS c f (zCA f t)=zCS c f (zCA f u)
       ·rw[if_pos c3]
       ·exact absurd ⟨c1,c2,c3⟩ hp
      ·rw[if_neg c2]
     ·rw[if_neg c1]
    refine⟨fun⟨t',ht',hpp⟩=>?_,fun hn=>?_⟩
    ·rcases List.mem_cons.1 ht' with rfl | ht'
     ·exact absurd hpp hp
     ·exact hcont.trans (ih.1 ⟨t',ht',hpp⟩)
    ·exact hcont.trans (ih.2 fun⟨t',ht',hpp⟩=>hn ⟨t',List.mem_cons_of_mem _ ht',hpp⟩)
  ·rw[if_neg (by omega),zqf (fI (by omega)),List.drop_eq_nil_of_le (by omega)];exact⟨fun⟨_,h,_⟩=>(by cases h),fun _=>rfl⟩
theorem zFq{c:Cse}(hc:zB9 c){f:Fld}(hf:zB8 c.Tariffs f){l:List Thr}(hl:∀t∈l,zCw f t)(hll:l.length<=1000):∀(d i:Nat) (b:Bool),i<=l.length->l.length - i < d->Ev (zuP c f l d b (i:Int)) (∃t∈l.drop i,∃t'∈l,zFo c f t t')
 | 0,i,_,_,h=>by omega
 | d+1,i,b,hi,h=>by
  rw[zuP]
  by_cases hil:i < l.length
  ·obtain⟨t,h1,h2⟩:=zDh hil;have key:=zFp hc hf hl hll h1 (K:=zuP c f l d) (b:=b) (l.length+1) 0 (by omega) (by omega);rw[List.drop_zero] at key;rw[if_pos (by omega),h2]
   by_cases hp:∃t'∈l,zFo c f t t'
   ·rw[show zuO c f l (i:Int) (zuP c f l d) (l.length+1) b (0:Int)=some true from key.1 hp];exact Ev.tt ⟨t,List.mem_cons_self ..,hp⟩
   ·rw[show zuO c f l (i:Int) (zuP c f l d) (l.length+1) b (0:Int)=_ from key.2 hp,show(i:Int)+1=((i+1:Nat):Int) by omega];refine(zFq hc hf hl hll d (i+1) b hil (by omega)).imp ⟨fun⟨u,hu,h⟩=>⟨u,List.mem_cons_of_mem _ hu,h⟩,fun⟨u,hu,h⟩=>?_⟩
    rcases List.mem_cons.1 hu with rfl | hu
    ·exact absurd h hp
    ·exact⟨u,hu,h⟩
  ·rw[if_neg (by omega),List.drop_eq_nil_of_le (by omega)]
   exact Ev.ff fun⟨_,h,_⟩=>by cases h
theorem zFr{c:Cse}(hc:zB9 c){f:Fld}(hf:zB8 c.Tariffs f):Ev (zuQ c f) (zEl c f=true):=by
 have hn:=zCN hf;unfold zuQ;refine Ev.bind (zEK hf) ((zFq hc hf (l:=zCJ f) (fun t ht=>(zCM hf).1 ht) (by omega) _ 0 false (by omega) (by omega)).imp ?_);rw[List.drop_zero]
 constructor
 ·rintro⟨t,ht,t',ht',h1,h2,h3⟩
  have ht0:=(zCM hf).1 ht;have ht1:=(zCM hf).1 ht';refine List.any_eq_true.2 ⟨t,ht,decide_eq_true ⟨zCA f t',(zD6 (zEf hf ht0)).2 ⟨t',⟨⟨by show t.First<=_; omega,by show _<=t.First; omega⟩,⟨by show t.Second<=_; omega,by show _<=t.Second; omega⟩,ht1.u⟩,rfl⟩,fun h=>h3 h.symm⟩⟩
 ·intro h;obtain⟨t,ht,he⟩:=List.any_eq_true.1 h;have ht0:=(zCM hf).1 ht;obtain⟨n,hn',hne⟩:=of_decide_eq_true he;obtain⟨t',ht',rfl⟩:=(zD6 (zEf hf ht0)).1 hn'
  have a1:t'.First=t.First:=by
   have h1:t.First<=t'.First/\t'.First<=t.First:=ht'.a
   omega
  have a2:t'.Second=t.Second:=by
   have h1:t.Second<=t'.Second/\t'.Second<=t.Second:=ht'.b
   omega
  exact⟨t,ht,t',(zCM hf).2 ⟨by rw[a1]; exact ht0.a,by rw[a2]; exact ht0.b,ht'.u⟩,a1.symm,a2.symm,fun h=>hne h.symm⟩
theorem zFs{c:Cse}(hc:zB9 c):∀(d k:Nat) (l:List Int),k<=c.Fields.length->c.Fields.length - k < d->l.length<=k->zuR c d l (k:Int)=some (l++zEm c (c.Fields.drop k) k)
 | 0,k,_,_,h,_=>by omega
 | d+1,k,l,hk,h,hl=>by
  have hlen:=hc.len;rw[zuR]
  by_cases hkl:k < c.Fields.length
  ·obtain⟨f,h1,h2⟩:=zDh hkl;have hf:=hc.fld f (List.mem_of_getElem? h1);rw[if_pos (by omega),zq3 h1,obs,h2,zEm];refine Ev.pick (zFr hc hf) (fun hm=>?_) fun hm=>?_
   ·rw[if_pos rfl,zqf (by omega),zqf (fI (by omega)),show(k:Int)+1=((k+1:Nat):Int) by omega,zFs hc d (k+1) _ hkl (by omega) (by simp; omega),if_pos hm]; simp
   ·rw[zqg rfl,zqf (fI (by omega)),show(k:Int)+1=((k+1:Nat):Int) by omega,zFs hc d (k+1) _ hkl (by omega) (by omega),if_neg hm]
  ·rw[if_neg (by omega),List.drop_eq_nil_of_le (by omega)]; simp[zEm]
theorem zFt{c:Cse}(hc:zB9 c):zuS c=some (zEm c c.Fields 0):=by
 have hlen:=hc.len;exact zFs hc 1000000 0 [] (by omega) (by omega) (by simp)
theorem zFu{c:Cse}:∀{fs:List Fld} {j:Nat},(zEm c fs j).length<=fs.length
 | [],_=>by simp[zEm]
 | f::fs,j=>by
  have:=zFu (c:=c) (fs:=fs) (j:=j+1);rw[zEm]
  split <;> simp <;> omega
theorem zFv{c:Cse}(_hc:zB9 c){q:Ver->Int}(hb:∀ts,zDf c.Fields ts->-1000000<=q (zDm c ts)/\q (zDm c ts)<=1000000){r:Rg}(h:zDG c q r):zl0 .i64 r.Lo/\zl0 .i64 r.Hi:=by
 obtain⟨t1,a1,a2⟩:=h.lo;obtain⟨t2,b1,b2⟩:=h.hi;have k1:=hb t1 a1;have k2:=hb t2 b1;exact⟨fI (by omega),fI (by omega)⟩
theorem f0:zl0 .i64 (0:Int):=fI (by omega)
theorem zFw{c:Cse}(_:OkC c):zvv c=some true:=by
 unfold zvv
 refine Ev.pick zCt (fun ht=>?_) fun ht=>by rw[zqg rfl,zEG]; rfl
 have hl:=ht.2;rw[if_pos rfl,zCv ht.1 hl,obs]
 by_cases h:zCa c=0
 ·have hc:=zCb.1 h;have hlen:=hc.len
  have hb:∀ts,zDf c.Fields ts->(0<=(zDm c ts).pence/\(zDm c ts).pence<=300000)/\(0<=zC6 (zDm c ts)/\zC6 (zDm c ts)<=10000)/\(0<=zC7 (zDm c ts)/\zC7 (zDm c ts)<=10000):=fun ts ht=>by
   have hok:=zDF hc ht;have:=zDa hok; have:=zDc hok; have:=hok.p; have:=hok.fee
   omega
  obtain⟨a,ha,ea⟩:=zDJ hc;obtain⟨x,y,hx,ex,ey⟩:=zDK hc;obtain⟨n,o,ho,en,eo⟩:=zDN hc;obtain⟨a',x',y',n',o',hB,ea',ex',ey',en',eo'⟩:=zFn hc;have e1:=zDG.uniq ea ea';have e2:=zDG.uniq ex ex';have e3:=zDG.uniq ey ey';have e4:=zDG.uniq en en';have e5:=zDG.uniq eo eo';rw[<- e1,<- e2,<- e3,<- e4,<- e5] at hB;have fa:=zFv hc (fun ts ht=>by have:=hb ts ht; omega) ea;have fx:=zFv hc (fun ts ht=>by have:=hb ts ht; omega) ex;have fy:=zFv hc (fun ts ht=>by have:=hb ts ht; omega) ey;have fn:=zFv hc (fun ts ht=>by have:=hb ts ht; unfold zDL; omega) en;have fo:=zFv hc (fun ts ht=>by have:=hb ts ht; unfold zDM; omega) eo;have hml:=zFu (c:=c) (fs:=c.Fields) (j:=0);rw[ha,obs,obs,hx,obs,obs,ho,obs,obs,zEp hc,obs,zCs,obs,if_pos h,hB,obs,if_pos rfl,if_pos rfl,if_pos rfl,if_pos rfl]
  simp only[zuT,obs]
  rw[zqf fa.1,zqf fa.1,zqf fa.2,zqf fa.2,if_pos (by simp),zqf fx.1,zqf fx.1,zqf fx.2,zqf fx.2,if_pos (by simp),zqf fy.1,zqf fy.1,zqf fy.2,zqf fy.2,if_pos (by simp),zqf fn.1,zqf fn.1,zqf fo.2,zqf fo.2,if_pos (by simp),zFt hc,obs,(zEv (by omega)).some_of rfl,obs,if_pos rfl,zEG]; rfl
 ·rw[zDO h,obs,obs,zDP h,obs,obs,zDQ h,obs,obs,zEq h,obs,zCs,obs,if_neg h,if_pos rfl,if_pos rfl,if_pos rfl,if_pos rfl]
  dsimp only
  rw[zqf f0,zqf f0,zqf f0,zqf f0,if_pos (by simp),zqf f0,zqf f0,zqf f0,zqf f0,if_pos (by simp),zqf f0,zqf f0,zqf f0,zqf f0,if_pos (by simp),zqf f0,zqf f0,zqf f0,zqf f0,if_pos (by simp),if_pos (by simp),zEG]; rfl
end
end Go.Proofs.YtnjbahoohfaplaaGreat

namespace Go.Proofs.YtnjbahoohfaplaaGreat
open _root_.Go.Proofs.Tryz
open Go.ChangeShapes Go.WideShapes Go.ChangeAt Go.RowKit Go.Abs
set_option maxRecDepth 100000
theorem op3:zrt prog 3 Int (zl0 .i64):=zru (by kernel_rfl)
theorem op4:zrt prog 4 Bool (fun _=>True):=zrv (by kernel_rfl)
theorem zFx:zrt prog 29 (List Int) (fun l=>l.length<=maxLen/\∀a0∈l,zl0 .i64 a0):=zrx (by kernel_rfl) (by kernel_rfl) op3
theorem zFy:zrt prog 140 (List (List Int)) (fun l=>l.length<=maxLen/\∀a0∈l,a0.length<=maxLen/\∀a1∈a0,zl0 .i64 a1):=zrx (by kernel_rfl) (by kernel_rfl) zFx
theorem zFz:zrt prog 78 (List (List (List Int))) (fun l=>l.length<=maxLen/\∀a0∈l,a0.length<=maxLen/\∀a1∈a0,a1.length<=maxLen/\∀a2∈a1,zl0 .i64 a2):=zrx (by kernel_rfl) (by kernel_rfl) zFy
theorem zFA:zrt prog 151 Tf zrG:=zrC (fs:=[(3,0),(4,1),(3,2),(29,3),(29,4),(78,5)]) (by kernel_rfl) (by kernel_rfl) (zrB (α:=Int) (ok:=zl0 .i64) (k:=1) op3 (by kernel_rfl) rfl (zrB (α:=Bool) (ok:=(fun _=>True)) (k:=1) op4 (by kernel_rfl) rfl (zrB (α:=Int) (ok:=zl0 .i64) (k:=1) op3 (by kernel_rfl) rfl (zrB (α:=List Int) (ok:=(fun l=>l.length<=maxLen/\∀a0∈l,zl0 .i64 a0)) (k:=1) zFx (by kernel_rfl) rfl (zrB (α:=List Int) (ok:=(fun l=>l.length<=maxLen/\∀a0∈l,zl0 .i64 a0)) (k:=1) zFx (by kernel_rfl) rfl (zrB (α:=List (List (List Int))) (ok:=(fun l=>l.length<=maxLen/\∀a0∈l,a0.length<=maxLen/\∀a1∈a0,a1.length<=maxLen/\∀a2∈a1,zl0 .i64 a2)) (k:=1) zFz (by kernel_rfl) rfl zrA)))))) (by kernel_rfl) fun m vs h=>by
 obtain⟨a0,c0,r0,m0,h0,p0,k0,s0,⟨a1,c1,r1,m1,h1,p1,k1,s1,⟨a2,c2,r2,m2,h2,p2,k2,s2,⟨a3,c3,r3,m3,h3,p3,k3,s3,⟨a4,c4,r4,m4,h4,p4,k4,s4,⟨a5,c5,r5,m5,h5,p5,k5,s5,rfl⟩⟩⟩⟩⟩⟩:=h;have p0:c0=[.int .i64 a0]:=p0; subst p0;have p1:c1=[.bool a1]:=p1; subst p1;have p2:c2=[.int .i64 a2]:=p2; subst p2;obtain⟨d3,rfl,p3⟩:=p3;obtain⟨d4,rfl,p4⟩:=p4;obtain⟨d5,rfl,p5⟩:=p5;subst h5 h4 h3 h2 h1 h0;exact⟨⟨a0,a1,a2,a3,a4,a5⟩,⟨_,_,_,rfl,p3,p4,p5⟩,⟨k0,k1,k2,k3,k4,k5⟩⟩
theorem zFB:zrt prog 22 (List Tf) (fun l=>l.length<=maxLen/\∀a0∈l,zrG a0):=zrx (by kernel_rfl) (by kernel_rfl) zFA
theorem zFC:zrt prog 58 Rg zrE:=zrC (fs:=[(3,0),(3,1)]) (by kernel_rfl) (by kernel_rfl) (zrB (α:=Int) (ok:=zl0 .i64) (k:=1) op3 (by kernel_rfl) rfl (zrB (α:=Int) (ok:=zl0 .i64) (k:=1) op3 (by kernel_rfl) rfl zrA)) (by kernel_rfl) fun m vs h=>by
 obtain⟨a0,c0,r0,m0,h0,p0,k0,s0,⟨a1,c1,r1,m1,h1,p1,k1,s1,rfl⟩⟩:=h;have p0:c0=[.int .i64 a0]:=p0; subst p0;have p1:c1=[.int .i64 a1]:=p1; subst p1;subst h1 h0;exact⟨⟨a0,a1⟩,rfl,⟨k0,k1⟩⟩
theorem zFD:zrt prog 60 Fld zrJ:=zrC (fs:=[(3,0),(3,1),(3,2),(58,3),(58,5),(58,7)]) (by kernel_rfl) (by kernel_rfl) (zrB (α:=Int) (ok:=zl0 .i64) (k:=1) op3 (by kernel_rfl) rfl (zrB (α:=Int) (ok:=zl0 .i64) (k:=1) op3 (by kernel_rfl) rfl (zrB (α:=Int) (ok:=zl0 .i64) (k:=1) op3 (by kernel_rfl) rfl (zrB (α:=Rg) (ok:=zrE) (k:=2) zFC (by kernel_rfl) rfl (zrB (α:=Rg) (ok:=zrE) (k:=2) zFC (by kernel_rfl) rfl (zrB (α:=Rg) (ok:=zrE) (k:=2) zFC (by kernel_rfl) rfl zrA)))))) (by kernel_rfl) fun m vs h=>by
 obtain⟨a0,c0,r0,m0,h0,p0,k0,s0,⟨a1,c1,r1,m1,h1,p1,k1,s1,⟨a2,c2,r2,m2,h2,p2,k2,s2,⟨a3,c3,r3,m3,h3,p3,k3,s3,⟨a4,c4,r4,m4,h4,p4,k4,s4,⟨a5,c5,r5,m5,h5,p5,k5,s5,rfl⟩⟩⟩⟩⟩⟩:=h;have p0:c0=[.int .i64 a0]:=p0; subst p0;have p1:c1=[.int .i64 a1]:=p1; subst p1;have p2:c2=[.int .i64 a2]:=p2; subst p2;have p3:c3=[.int .i64 a3.Lo,.int .i64 a3.Hi]:=p3; subst p3;have p4:c4=[.int .i64 a4.Lo,.int .i64 a4.Hi]:=p4; subst p4;have p5:c5=[.int .i64 a5.Lo,.int .i64 a5.Hi]:=p5; subst p5;subst h5 h4 h3 h2 h1 h0;exact⟨⟨a0,a1,a2,a3,a4,a5⟩,rfl,⟨k0,k1,k2,k3,k4,k5⟩⟩
theorem zFE:zrt prog 23 (List Fld) (fun l=>l.length<=maxLen/\∀a0∈l,zrJ a0):=zrx (by kernel_rfl) (by kernel_rfl) zFD
theorem zFF:zrt prog 25 Cse zrL:=zrC (fs:=[(22,0),(3,1),(3,2),(23,3)]) (by kernel_rfl) (by kernel_rfl) (zrB (α:=List Tf) (ok:=(fun l=>l.length<=maxLen/\∀a0∈l,zrG a0)) (k:=1) zFB (by kernel_rfl) rfl (zrB (α:=Int) (ok:=zl0 .i64) (k:=1) op3 (by kernel_rfl) rfl (zrB (α:=Int) (ok:=zl0 .i64) (k:=1) op3 (by kernel_rfl) rfl (zrB (α:=List Fld) (ok:=(fun l=>l.length<=maxLen/\∀a0∈l,zrJ a0)) (k:=1) zFE (by kernel_rfl) rfl zrA)))) (by kernel_rfl) fun m vs h=>by
 obtain⟨a0,c0,r0,m0,h0,p0,k0,s0,⟨a1,c1,r1,m1,h1,p1,k1,s1,⟨a2,c2,r2,m2,h2,p2,k2,s2,⟨a3,c3,r3,m3,h3,p3,k3,s3,rfl⟩⟩⟩⟩:=h;obtain⟨d0,rfl,p0⟩:=p0;have p1:c1=[.int .i64 a1]:=p1; subst p1;have p2:c2=[.int .i64 a2]:=p2; subst p2;obtain⟨d3,rfl,p3⟩:=p3;subst h3 h2 h1 h0;exact⟨⟨a0,a1,a2,a3⟩,⟨_,_,rfl,p0,p3⟩,⟨k0,k1,k2,k3⟩⟩
theorem zFG:laidOutB prog=true:=by kernel_rfl
theorem zFH:ownKnob prog.godebug=none:=by kernel_rfl
theorem zFI(os:Os)(started:os.Started)(H:Type)(enc:TypeId × Value->H) :
    ReturnsInHanded {} Tryz.checked os 5 .any (Rows.umpireAwardsSpec.pre6 enc Tryz.prog Tryz.f5 Rows.umpireAwardsRow.domain false) (Rows.umpireAwardsSpec.post enc Tryz.prog Tryz.f5 false true false false):=by
  refine returnsInHanded_of_change (C:=Tryz.checked) zFH started (by kernel_rfl) Tryz.func5
    (ChangeSpec.witness6 (enc:=enc) (C:=Tryz.checked) false ⟨#[],#[.agg #[.slice none 0 0,.int .i64 0,.int .i64 0,.slice none 0 0]],[]⟩ 8 (by kernel_rfl) (by kernel_rfl) (by kernel_rfl) (by kernel_rfl)) ?_
  intro W base args ds gs before hval0 hW hcnd _;have hval:∀(j:Nat) t v,Tryz.f5.params[j]? = some t->args[j]? = some v->Value.okWide Tryz.prog W .any base t v:=hval0;have hW':=hW;obtain⟨p,q,hA0,hV,rfl,hfz,hnd⟩:=hW;have hA:DataW.TrodAll enc Tryz.prog W 0 (fun _=>true) true Tryz.f5.params.toList args.toList ds p:=hA0;rw[Tryz.params5] at hA hval;obtain⟨v0,d0,rfl,rfl,h0⟩:=trodAll_one hA;obtain⟨rfl,rfl⟩:=trodVars_none hV
  have hlt:∀x∈p,x.block < W.heap.size:=fun x hx=>by simpa using hW'.lt x (by simpa using hx)
  obtain⟨fu0,hf0⟩:=id h0
  clear hA0 hval0
  obtain⟨e0,m0,w0,a_0,le0,sv0,lay0,cr0,rep0,ok0⟩:=zFF H enc W true _ _ _ hf0 _ _ (Lay.nil W);obtain⟨c0_0,c0_3,rfl,g0_0,g0_3⟩:=rep0
  obtain⟨cs0,hv0,cl0⟩:∃cs,v0=.agg cs/\v0.cells.toList=cs.toList:=by
    have hl:=cr0.length
    cases v0 with
    | agg cs=>exact⟨cs,rfl,rfl⟩
    | _=>exact absurd hl (by simp[Value.cells])
  subst hv0;have hargs:zen (VR e0) [.agg 4 [c0_0,.int .i64 a_0.Day,.int .i64 a_0.Fee,c0_3]] [.agg cs0]:=.cons ⟨cs0,rfl,cr0,rfl⟩ .nil;refine(callsIn_wide.1 (zqr fits htab (zBR (c:=a_0) lay0.pre g0_0 g0_3 (zFw ok0) (Q:=fun v _=>v=.c (.bool true)) fun _ _=>rfl) lay0.hr (args':=#[.agg cs0]) hargs 0)).mono fun en W' hp=>?_;obtain⟨v,v',e',m',rfl,hst,hvr,rfl⟩:=hp;have hv':v'=.bool true:=hvr;subst hv';have hbelow:=lay0.below hst
  refine⟨_,rfl,[d0],[],p,[],p,[],by simpa using hW',trodAll_mk1 (shut_bool Tryz.underlying4 _),
    trodAll_mk1 (Below.trod zFG (by kernel_rfl) (of_decide_eq_true (by kernel_rfl)) h0 hbelow fun x hx=>hlt x (by simp[hx])),rfl,lay0.kept hst _,fun hc=>by cases hc⟩
theorem UmpireAwards_holds:Rows.UmpireAwardsSaid:=
 OpenClaim.holds_of_wide 5 Tryz.f5 rfl rfl rfl rfl rfl rfl rfl ⟨rfl,rfl,rfl,rfl,rfl⟩ rfl rfl rfl rfl rfl (by kernel_rfl) Tryz.func5 (by kernel_rfl)
  (of_decide_eq_true (by kernel_rfl)) (by unfold Func.isWrapper; first | (rw[if_pos (by decide +kernel)]; kernel_rfl) | (rw[if_neg (by decide +kernel)]; exact⟨rfl,rfl⟩))
  (fun os started H enc _=>zFI os started H enc)
end Go.Proofs.YtnjbahoohfaplaaGreat

