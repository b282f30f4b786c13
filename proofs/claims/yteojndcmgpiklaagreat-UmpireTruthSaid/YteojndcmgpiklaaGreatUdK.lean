/- UmpireTruth, for all that it can be called with, returns true. Condition: none. -/
import Derived.Test.YteojndcmgpiklaaGreatUdJ
import GoSem.Step
import GoSem.ClaimKeys
import Derived.DeepKeys2
import Derived.RangeFuncLeaves
import Derived.OrdersIn
import Derived.Laws.World
import Derived.Laws.Sem
import Derived.RangeFuncRecord
import Derived.Laws.CopyRow
import Derived.Laws.Append
import Derived.Laws.Rows
import Derived.Laws.Slices
import Derived.Laws.Entries
import Derived.ChangeKeysEq
import Derived.IntWalk
import Derived.DeepKeys
import Derived.DeepKeys3
import Derived.Laws.StructEq
import Derived.MapKept
import Derived.Laws.AppendOwn
import Derived.ChangeArms
import Derived.ChangeOld
import Derived.Carry
import Derived.ChangeShapes
import Derived.KernelRfl
import Derived.ProofKit
import Derived.Test.YteojndcmgpiklaaGreatRows

namespace Go.Proofs.YteojndcmgpiklaaGreat
open _root_.Go.Proofs.Tryz
open Go.Abs
set_option maxRecDepth 100000
noncomputable section
def zCH:List Fld→List Thr→Prop
 | [],[]=>True
 | f::fs,t::ts=>zBY f t∧zCH fs ts
 | _,_=>False
theorem zCH.len:∀{fs:List Fld} {ts:List Thr},zCH fs ts→fs.length=ts.length
 | [],[],_=>rfl
 | _f::_fs,_t::_ts,h=>congrArg (· + 1) (zCH.len h.2)
theorem zCI{f:Fld}{t:Thr}:Ev (ztI f t) (zBY f t):=
 (Ev.and zBB fun _=>Ev.and zBB fun _=>zBB.ret).imp ⟨fun h=>⟨h.1,h.2.1,h.2.2⟩,fun h=>⟨h.a,h.b,h.u⟩⟩
theorem zCJ{α:Type}{l:List α}{k:Nat}(h:k < l.length):∃a,l[k]? = some a∧l.drop k=a::l.drop (k+1):=
 ⟨l[k],List.getElem?_eq_getElem h,List.drop_eq_getElem_cons h⟩
theorem zCK{c:Cse}{t:List Thr}(hl:c.Fields.length≤3)(he:t.length=c.Fields.length):∀(d k:Nat),k≤c.Fields.length→c.Fields.length - k < d→Ev (zt3 c t d (k:Int)) (zCH (c.Fields.drop k) (t.drop k))
 | 0,k,_,h=>by omega
 | d+1,k,hk,h=>by
  rw[zt3]
  by_cases hkl:k < c.Fields.length
  ·obtain⟨f,h1,h2⟩:=zCJ hkl;obtain⟨x,h3,h4⟩:=zCJ (l:=t) (k:=k) (by omega);rw[if_pos (by omega),zq5 h1,obs,zq5 h3,obs,h2,h4]
   exact Ev.and zCI fun _=>Ev.gd (fI (by omega)) (by
    rw[show(k:Int)+1=((k+1:Nat):Int) by omega]
    exact zCK hl he d (k+1) hkl (by omega))
  ·rw[if_neg (by omega),List.drop_eq_nil_of_le (by omega),List.drop_eq_nil_of_le (by omega)];exact Ev.tt trivial
theorem zCL{c:Cse}(hl:c.Fields.length≤3){t:List Thr}:Ev (zt4 c t) (zCH c.Fields t):=by
 unfold zt4
 by_cases he:t.length=c.Fields.length
 ·rw[if_pos (by omega)];exact zCK hl he (c.Fields.length+1) 0 (by omega) (by omega)
 ·rw[if_neg (by omega)];exact Ev.ff fun h=>he h.len.symm
def zCM(c:Cse):List Fld→List Thr→Ver→Ver
 | f::fs,t::ts,v=>zCM c fs ts (zCt v (ocN c f t))
 | _,_,v=>v
def zCN:List Fld→List Thr→List Int
 | f::fs,t::ts=>zB2 f t::zCN fs ts
 | _,_=>[]
def zCO(c:Cse)(ts:List Thr):Ver:=zCM c c.Fields ts ⟨c.Fee,0,⟨0,0,0,0⟩⟩
def zCP(c:Cse)(ts:List Thr):Res:=⟨zCN c.Fields ts,(zCO c ts).pence,zCy (zCO c ts),zCz (zCO c ts)⟩
theorem zCQ{c:Cse}(hc:zBy c):zCu 0 ⟨c.Fee,0,⟨0,0,0,0⟩⟩:=⟨hc.fee,by dsimp only; omega,by dsimp only; omega,by dsimp only; omega,by dsimp only; omega,by dsimp only; omega⟩
theorem zCR{c:Cse}(hc:zBy c){t:List Thr}(he:t.length=c.Fields.length):∀(d k:Nat) (M:Option (Clm→Option Int)) (l:List Int) (v:Ver),k≤c.Fields.length→c.Fields.length - k < d→l.length=k→zCH (c.Fields.drop k) (t.drop k)→zCl c M→zCu (k:Int) v→∀M0,
  ∃M',zuj ⟨c,M0⟩ t d l 0 0 0 v.fee v.pence v.fields.f0 v.fields.f1 v.fields.f2 v.fields.f3 M (k:Int)=some (⟨l++zCN (c.Fields.drop k) (t.drop k),(zCM c (c.Fields.drop k) (t.drop k) v).pence,zCy (zCM c (c.Fields.drop k) (t.drop k) v),zCz (zCM c (c.Fields.drop k) (t.drop k) v)⟩,M')∧zCl c M'
 | 0,k,_,_,_,_,h,_,_,_,_,_=>by omega
 | d+1,k,M,l,v,hk,h,hll,ht,hM,hv,M0=>by
  have hlen:=hc.len;rw[zuj]
  dsimp only
  by_cases hkl:k < c.Fields.length
  ·obtain⟨f,h1,h2⟩:=zCJ hkl;obtain⟨x,h3,h4⟩:=zCJ (l:=t) (k:=k) (by omega);rw[h2,h4] at ht ⊢;have hf:=hc.fld f (List.mem_of_getElem? h1);obtain⟨M1,g1,g2⟩:=zCq hc hM hf ht.1;rw[if_pos (by omega),zq5 h1,obs,zq5 h3,obs,zB8 (ht.1.rng hf),obs,zqf (by omega),obs,g1,obs]
   dsimp only
   have hvw:=zCw (k:=(k:Int)) (by omega) hv (zCs hc hf ht.1);rw[show(⟨v.fee,v.pence,⟨v.fields.f0,v.fields.f1,v.fields.f2,v.fields.f3⟩⟩:Ver)=v from rfl,hvw,obs,zqf (fI (by omega)),show(k:Int)+1=((k+1:Nat):Int) by omega];have hok:=zCv hv (zCs hc hf ht.1);obtain⟨M',q1,q2⟩:=zCR hc he d (k+1) M1 (l++[zB2 f x]) (zCt v (ocN c f x)) hkl (by omega) (by simp; omega) ht.2 g2 (by rw[show((k+1:Nat):Int)=(k:Int)+1 by omega]; exact hok) M0;refine⟨M',?_,q2⟩;rw[q1]
   simp[zCN,zCM]
  ·rw[if_neg (by omega),List.drop_eq_nil_of_le (by omega),List.drop_eq_nil_of_le (by omega)];refine⟨M,?_,hM⟩;rw[show(⟨v.fee,v.pence,⟨v.fields.f0,v.fields.f1,v.fields.f2,v.fields.f3⟩⟩:Ver)=v from rfl]
   simp only[zua,obs,zCB (k:=(k:Int)) (by omega) hv,zCD (k:=(k:Int)) (by omega) hv,zCN,zCM,List.append_nil]
theorem zCS{c:Cse}(hc:zBy c){M:Option (Clm→Option Int)}(hM:zCl c M){t:List Thr}(ht:zCH c.Fields t):∃M',zuk ⟨c,M⟩ t=some (zCP c t,M')∧zCl c M':=by
 obtain⟨M',h1,h2⟩:=zCR hc ht.len.symm (c.Fields.length+1) 0 M [] ⟨c.Fee,0,⟨0,0,0,0⟩⟩ (by omega) (by omega) rfl ht hM (zCQ hc) M;exact⟨M',h1,h2⟩
theorem zCT{c:Cse}(hc:zBy c):zt6 c=some (⟨c,some fun _=>none⟩,0):=by unfold zt6; rw[zBL,obs,zBA.2 hc,if_pos rfl]
theorem zCU{c:Cse}(hc:zBy c){t:List Thr}(ht:zCH c.Fields t):zus c t=some (zCP c t,0):=by
 obtain⟨M',h1,h2⟩:=zCS hc zCm ht;unfold zus;rw[zCT hc,obs,if_pos rfl,(zCL hc.len).some_of ht,obs,if_pos rfl,h1]; rfl
open Classical in
theorem zCV{c:Cse}(hc:zBy c){f:Fld}(hf:zBx c.Tariffs f){M0:Option (Clm→Option Int)}:∀(l:List Thr) (M:Option (Clm→Option Int)) (g:Oc→Option Bool),zCl c M→(∀t∈l,zBY f t) →
  ∃g' M',zuh ⟨c,M0⟩ f l M (some g)=some (some g',M')∧zCl c M'∧∀o,g' o ≠ none↔g o ≠ none∨∃t∈l,ocN c f t=o
 | [],M,g,hM,_=>⟨g,M,rfl,hM,fun o=>⟨.inl,fun h=>h.elim id fun⟨t,ht,_⟩=>by cases ht⟩⟩
 | t::l,M,g,hM,hl=>by
  have ht:=hl t (List.mem_cons_self ..);obtain⟨M1,h1,h2⟩:=zCq hc hM hf ht;obtain⟨g',M',q1,q2,q3⟩:=zCV hc hf (M0:=M0) l M1 (fun j=>if j=ocN c f t then some true else g j) h2 fun u hu=>hl u (List.mem_cons_of_mem _ hu);refine⟨g',M',?_,q2,fun o=>?_⟩
  ·rw[zuh]
   dsimp only
   rw[h1,obs,zqf (zCs hc hf ht).fit]
   show(some _:Option (Option (Oc→Option Bool))).bind _=_
   rw[obs];exact q1
  ·rw[q3]
   constructor
   ·rintro (h | ⟨u,hu,rfl⟩)
    ·split at h
     ·rename_i he; exact .inr ⟨t,List.mem_cons_self ..,he.symm⟩
     ·exact .inl h
    ·exact .inr ⟨u,List.mem_cons_of_mem _ hu,rfl⟩
   ·rintro (h | ⟨u,hu,rfl⟩)
    ·left
     split
     ·simp
     ·exact h
    ·rcases List.mem_cons.1 hu with rfl | hu
     ·left; rw[if_pos rfl]; simp
     ·exact .inr ⟨u,hu,rfl⟩
theorem zCW{c:Cse}(hc:zBy c){M:Option (Clm→Option Int)}(hM:zCl c M){f:Fld}(hf:zBx c.Tariffs f):∃g M',zui ⟨c,M⟩ f=some (some g,M')∧zCl c M'∧∀o,g o ≠ none↔∃t,zBY f t∧ocN c f t=o:=by
 obtain⟨g,M',h1,h2,h3⟩:=zCV hc hf (M0:=M) (zCb f) M (fun _=>none) hM fun t ht=>(zCe hf).1 ht;refine⟨g,M',?_,h2,fun o=>?_⟩
 ·unfold zui;rw[zCj hf,obs];exact h1
 ·rw[h3]
  constructor
  ·rintro (h | ⟨t,ht,he⟩)
   ·exact absurd rfl h
   ·exact⟨t,(zCe hf).1 ht,he⟩
  ·rintro⟨t,ht,he⟩
   exact .inr ⟨t,(zCe hf).2 ht,he⟩
theorem zCX{c:Cse}(hc:zBy c){f:Fld}(hf:zBx c.Tariffs f):∃L:List KOc,(∀a:KOc,a∈L↔∃t,zBY f t∧ocN c f t=a.1)∧L.length≤125:=by
 have hfit:∀t,zBY f t→MK.fit (ocN c f t):=fun t ht=>(zCs hc hf ht).fit
 have key:∀l:List Thr,(∀t∈l,zBY f t)→∃L:List KOc,(∀a:KOc,a∈L↔∃t∈l,ocN c f t=a.1)∧L.length=l.length:=by
  intro l
  induction l with
  | nil=>exact fun _=>⟨[],fun a=>⟨fun h=>(by cases h),fun⟨_,h,_⟩=>(by cases h)⟩,rfl⟩
  | cons t l ih=>
   intro hl;obtain⟨L,h1,h2⟩:=ih fun u hu=>hl u (List.mem_cons_of_mem _ hu);refine⟨⟨ocN c f t,hfit t (hl t (List.mem_cons_self ..))⟩ :: L,fun a=>?_,by simp[h2]⟩;rw[List.mem_cons,h1]
   constructor
   ·rintro (rfl | ⟨u,hu,he⟩)
    ·exact⟨t,List.mem_cons_self ..,rfl⟩
    ·exact⟨u,List.mem_cons_of_mem _ hu,he⟩
   ·rintro⟨u,hu,he⟩
    rcases List.mem_cons.1 hu with rfl | hu
    ·exact .inl (Subtype.ext he.symm)
    ·exact .inr ⟨u,hu,he⟩
 obtain⟨L,h1,h2⟩:=key (zCb f) fun t ht=>(zCe hf).1 ht;refine⟨L,fun a=>(h1 a).trans ⟨fun⟨t,ht,he⟩=>⟨t,(zCe hf).1 ht,he⟩,fun⟨t,ht,he⟩=>⟨t,(zCe hf).2 ht,he⟩⟩,by rw[h2]; exact(zCf hf).2⟩
open Classical in
theorem zCY{α:Type}:∀l:List α,∃l':List α,l'.Nodup∧(∀a,a∈l'↔a∈l)∧l'.length≤l.length
 | []=>⟨[],List.nodup_nil,fun _=>Iff.rfl,Nat.le_refl _⟩
 | a::l=>by
  obtain⟨l',h1,h2,h3⟩:=zCY l
  by_cases ha:a∈l'
  ·refine⟨l',h1,fun b=>?_,by simp; omega⟩;rw[List.mem_cons,h2];exact⟨.inr,fun h=>h.elim (fun h=>h ▸ (h2 a).1 ha) id⟩
  ·refine⟨a::l',List.nodup_cons.2 ⟨ha,h1⟩,fun b=>?_,by simp; omega⟩;rw[List.mem_cons,List.mem_cons,h2]
theorem zCZ{c:Cse}(hc:zBy c){f:Fld}(hf:zBx c.Tariffs f){g:Oc→Option Bool}(hg:∀o,g o ≠ none↔∃t,zBY f t∧ocN c f t=o) :
  (∀o,o∈zuX g↔∃t,zBY f t∧ocN c f t=o)∧(zuX g).length≤125:=by
 obtain⟨L0,l1,l2⟩:=zCX hc hf;obtain⟨L,n1,n2,n3⟩:=zCY L0
 have hL:∀a:KOc,a∈L↔fOc g a ≠ none:=fun a=>by
  have e1:fOc g a ≠ none↔g a.1 ≠ none:=by
   show(g a.1).map MV.enc ≠ none↔_
   cases g a.1 <;> simp
  rw[e1,hg,n2,l1]
 have hex:zq2 (zqy Oc) (fOc g) L:=⟨n1,hL⟩;have hk:=zuW hex;have hp:=zq2.perm hk hex
 constructor
 ·intro o;unfold zuX;rw[List.mem_map]
  constructor
  ·rintro⟨a,ha,rfl⟩
   exact(l1 a).1 ((n2 a).1 (hp.subset ha))
  ·rintro⟨t,ht,he⟩
   subst he;exact⟨⟨ocN c f t,(zCs hc hf ht).fit⟩,hp.symm.subset ((n2 _).2 ((l1 _).2 ⟨t,ht,rfl⟩)),rfl⟩
 ·unfold zuX;rw[List.length_map,hp.length_eq]
  omega
inductive zC0 (c:Cse):List Fld→List (Oc→Option Bool)→Prop where
 | nil:zC0 c [] []
 | cons {f:Fld} {fs:List Fld} {g:Oc→Option Bool} {gs:List (Oc→Option Bool)}:(∀o,o∈zuX g↔∃t,zBY f t∧ocN c f t=o)→(zuX g).length≤125→zC0 c fs gs→zC0 c (f::fs) (g::gs)
theorem zC1{c:Cse}(hc:zBy c){M0:Option (Clm→Option Int)}:∀(fs:List Fld) (M:Option (Clm→Option Int)),zCl c M→(∀f∈fs,zBx c.Tariffs f)→∃gs M',zu1 ⟨c,M0⟩ fs M=some (gs,M')∧zCl c M'∧zC0 c fs gs
 | [],M,hM,_=>⟨[],M,rfl,hM,.nil⟩
 | f::fs,M,hM,hf=>by
  obtain⟨g,M1,h1,h2,h3⟩:=zCW hc hM (hf f (List.mem_cons_self ..));obtain⟨gs,M',q1,q2,q3⟩:=zC1 hc (M0:=M0) fs M1 h2 fun x hx=>hf x (List.mem_cons_of_mem _ hx);have hk:=zCZ hc (hf f (List.mem_cons_self ..)) h3;refine⟨g::gs,M',?_,q2,.cons hk.1 hk.2 q3⟩;rw[zu1]
  dsimp only
  rw[h1,obs,obs,q1]; rfl
theorem zC2{c:Cse}(hc:zBy c){fs:List Fld}{G:Ver→Option (List Ver)}{v:Ver}{k:Int}(hk:k≤100)(hv:zCu k v){f:Fld}(hf:zBx c.Tariffs f){N:Nat}
  (hG:∀v',zCu (k+1) v'→∃vs,G v'=some vs∧(∀u,u∈vs↔∃ts,zCH fs ts∧zCM c fs ts v'=u)∧vs.length≤N) :
  ∀L:List Oc,(∀o∈L,∃t,zBY f t∧ocN c f t=o)→∃vs,zuY G v L=some vs∧(∀u,u∈vs↔∃o∈L,∃ts,zCH fs ts∧zCM c fs ts (zCt v o)=u)∧vs.length≤L.length * N
 | [],_=>⟨[],rfl,fun u=>⟨fun h=>(by cases h),fun⟨o,ho,_⟩=>(by cases ho)⟩,by simp⟩
 | o::L,hL=>by
  obtain⟨t,ht,he⟩:=hL o (List.mem_cons_self ..);have ho:zCr o:=he ▸ zCs hc hf ht;obtain⟨a,a1,a2,a3⟩:=hG _ (zCv hv ho);obtain⟨b,b1,b2,b3⟩:=zC2 hc hk hv hf hG L fun x hx=>hL x (List.mem_cons_of_mem _ hx);refine⟨a++b,?_,fun u=>?_,?_⟩
  ·rw[zuY,zCw (by omega) hv ho,obs,a1,obs,b1]; rfl
  ·rw[List.mem_append,a2,b2]
   constructor
   ·rintro (⟨ts,h1,h2⟩ | ⟨x,hx,h⟩)
    ·exact⟨o,List.mem_cons_self ..,ts,h1,h2⟩
    ·exact⟨x,List.mem_cons_of_mem _ hx,h⟩
   ·rintro⟨x,hx,h⟩
    rcases List.mem_cons.1 hx with rfl | hx
    ·exact .inl h
    ·exact .inr ⟨x,hx,h⟩
  ·rw[List.length_append,List.length_cons,Nat.add_mul]; omega
theorem zC3{c:Cse}(hc:zBy c):∀{fs:List Fld} {gs:List (Oc→Option Bool)},zC0 c fs gs→(∀f∈fs,zBx c.Tariffs f)→∀{k:Int} {v:Ver},k+fs.length≤100→zCu k v →
  ∃vs,zuZ (gs.map zuX) v=some vs∧(∀u,u∈vs↔∃ts,zCH fs ts∧zCM c fs ts v=u)∧vs.length≤125 ^ fs.length
 | _,_,.nil,_,k,v,_,hv=>⟨[v],rfl,fun u=>⟨fun h=>⟨[],trivial,(List.mem_singleton.1 h).symm⟩,fun ⟨ts,h1,h2⟩=>by
   cases ts with
   | nil=>exact List.mem_singleton.2 h2.symm
   | cons t ts=>exact h1.elim⟩,by simp⟩
 | _,_,.cons (f:=f) (fs:=fs) (g:=g) (gs:=gs) h1 h2 h3,hf,k,v,hk,hv=>by
  simp only[List.length_cons] at hk
  have hG:∀v',zCu (k+1) v'→_:=fun v' hv'=>zC3 hc h3 (fun x hx=>hf x (List.mem_cons_of_mem _ hx)) (k:=k+1) (v:=v') (by omega) hv';obtain⟨vs,q1,q2,q3⟩:=zC2 hc (by omega) hv (hf f (List.mem_cons_self ..)) hG (zuX g) fun o ho=>(h1 o).1 ho;refine⟨vs,q1,fun u=>?_,?_⟩
  ·rw[q2]
   constructor
   ·rintro⟨o,ho,ts,h4,h5⟩
    obtain⟨t,ht,rfl⟩:=(h1 o).1 ho;exact⟨t::ts,⟨ht,h4⟩,h5⟩
   ·rintro⟨ts,h4,h5⟩
    cases ts with
    | nil=>exact h4.elim
    | cons t ts=>exact⟨ocN c f t,(h1 _).2 ⟨t,h4.1,rfl⟩,ts,h4.2,h5⟩
  ·rw[List.length_cons,Nat.pow_succ,Nat.mul_comm];exact Nat.le_trans q3 (Nat.mul_le_mul_right _ h2)
theorem zC4{l:List Tf}:∀{fs:List Fld},(∀f∈fs,zBx l f)→∃ts,zCH fs ts
 | [],_=>⟨[],trivial⟩
 | f::fs,h=>by
  obtain⟨ts,hts⟩:=zC4 (fs:=fs) fun x hx=>h x (List.mem_cons_of_mem _ hx);have hf:=h f (List.mem_cons_self ..);exact⟨⟨f.First.Lo,f.Second.Lo,f.Umpire.Lo⟩ :: ts,⟨⟨Int.le_refl _,hf.fst.le⟩,⟨Int.le_refl _,hf.snd.le⟩,⟨Int.le_refl _,hf.ump.le⟩⟩,hts⟩
theorem zC5{c:Cse}(hc:zBy c):∀{fs:List Fld} {ts:List Thr},(∀f∈fs,zBx c.Tariffs f)→zCH fs ts→∀{k:Int} {v:Ver},zCu k v→zCu (k+fs.length) (zCM c fs ts v)
 | [],[],_,_,k,v,hv=>by simpa [zCM] using hv
 | f::fs,t::ts,hf,ht,k,v,hv=>by
  have:=zC5 hc (fun x hx=>hf x (List.mem_cons_of_mem _ hx)) ht.2 (zCv hv (zCs hc (hf f (List.mem_cons_self ..)) ht.1));rw[List.length_cons,show k+((fs.length+1:Nat):Int)=k+1+fs.length by omega];exact this
 | [],_::_,_,ht,_,_,_=>ht.elim
 | _::_,[],_,ht,_,_,_=>ht.elim
theorem zC6{c:Cse}(hc:zBy c){ts:List Thr}(ht:zCH c.Fields ts):zCu 3 (zCO c ts):=by
 have h:=zC5 hc hc.fld ht (zCQ hc);have:=hc.len;exact⟨h.fee,by have:=h.p; unfold zCO; omega,by have:=h.f0; unfold zCO; omega,by have:=h.f1; unfold zCO; omega,by have:=h.f2; unfold zCO; omega,by have:=h.f3; unfold zCO; omega⟩
structure zC7 (c:Cse) (q:Ver→Int) (r:Rg):Prop where
 all:∀ts,zCH c.Fields ts→r.Lo≤q (zCO c ts)∧q (zCO c ts)≤r.Hi
 lo:∃ts,zCH c.Fields ts∧q (zCO c ts)=r.Lo
 hi:∃ts,zCH c.Fields ts∧q (zCO c ts)=r.Hi
theorem zC8{q:Ver→Option Int}{qN:Ver→Int}:∀{vs:List Ver},(∀v∈vs,q v=some (qN v))→zu0 q vs=some (vs.map qN)
 | [],_=>rfl
 | v::vs,h=>by
  rw[zu0,h v (List.mem_cons_self ..),obs,zC8 fun u hu=>h u (List.mem_cons_of_mem _ hu)]; rfl
theorem zC9{c:Cse}(hc:zBy c){M:Option (Clm→Option Int)}(hM:zCl c M){q:Ver→Option Int}{qN:Ver→Int}(hq:∀v,zCu 3 v→q v=some (qN v)):∃r M',zu3 ⟨c,M⟩ ⟨q⟩=some (r,M')∧zCl c M'∧zC7 c qN r:=by
 have hl:=hc.len;obtain⟨gs,M',h1,h2,h3⟩:=zC1 hc (M0:=M) c.Fields M hM hc.fld;obtain⟨vs,q1,q2,q3⟩:=zC3 hc h3 hc.fld (k:=0) (v:=zu2 c.Fee) (by omega) (zCQ hc);have hm:∀u,u∈vs↔∃ts,zCH c.Fields ts∧zCO c ts=u:=q2
 have hne:vs ≠ []:=by
  obtain⟨ts,hts⟩:=zC4 hc.fld;exact List.ne_nil_of_mem ((hm _).2 ⟨ts,hts,rfl⟩)
 have hlen:vs.length≤125 ^ 3:=Nat.le_trans q3 (Nat.pow_le_pow_right (by omega) hl);have hlen:vs.length≤1953125:=hlen
 have hx:zu0 q vs=some (vs.map qN):=zC8 fun v hv=>by
  obtain⟨ts,hts,rfl⟩:=(hm v).1 hv;exact hq _ (zC6 hc hts)
 have hn2:vs.map qN ≠ []:=fun h=>hne (List.map_eq_nil_iff.1 h);refine⟨⟨zrj (vs.map qN),zrk (vs.map qN)⟩,M',?_,h2,?_,?_,?_⟩
 ·unfold zu3
  dsimp only
  rw[h1,obs,zqf (by omega)]
  dsimp only
  rw[q1,obs,zqf ⟨by omega,hne⟩,hx]; rfl
 ·intro ts hts;have hmem:qN (zCO c ts)∈vs.map qN:=List.mem_map.2 ⟨_,(hm _).2 ⟨ts,hts,rfl⟩,rfl⟩;exact⟨(zrn hn2).2 _ hmem,(zro hn2).2 _ hmem⟩
 ·obtain⟨v,hv,he⟩:=List.mem_map.1 (zrn hn2).1;obtain⟨ts,hts,rfl⟩:=(hm v).1 hv;exact⟨ts,hts,he⟩
 ·obtain⟨v,hv,he⟩:=List.mem_map.1 (zro hn2).1;obtain⟨ts,hts,rfl⟩:=(hm v).1 hv;exact⟨ts,hts,he⟩
end
end Go.Proofs.YteojndcmgpiklaaGreat

namespace Go.Proofs.YteojndcmgpiklaaGreat
open _root_.Go.Proofs.Tryz
open Go.Abs
set_option maxRecDepth 100000
noncomputable section
theorem zDa{c:Cse}(hc:zBy c):∃r,zva c=some (r,0)∧zC7 c (·.pence) r:=by
 obtain⟨r,M,h1,h2,h3⟩:=zC9 hc zCm (q:=fun v=>zua v) (qN:=(·.pence)) fun v _=>rfl;refine⟨r,?_,h3⟩;unfold zva;rw[zCT hc,obs,if_pos rfl,h1]; rfl
theorem zDb{c:Cse}(hc:zBy c):∃r s,zvb c=some (r,s,0)∧zC7 c zCy r∧zC7 c zCz s:=by
 obtain⟨r,M,h1,h2,h3⟩:=zC9 hc zCm (q:=fun v=>zub v) (qN:=zCy) fun v hv=>zCB (by omega) hv;obtain⟨s,M',g1,g2,g3⟩:=zC9 hc h2 (q:=fun v=>zuc v) (qN:=zCz) fun v hv=>zCD (by omega) hv;refine⟨r,s,?_,h3,g3⟩;unfold zvb;rw[zCT hc,obs,if_pos rfl,h1,obs]
 show(zu3 ⟨c,M⟩ _).bind _=_
 rw[g1]; rfl
def zDc(v:Ver):Int:=v.pence - zCy v
def zDd(v:Ver):Int:=v.pence+zCz v
theorem zDe{c:Cse}(hc:zBy c):∃r s:Rg,zvc c=some (⟨r.Lo,s.Hi⟩,0)∧zC7 c zDc r∧zC7 c zDd s:=by
 obtain⟨r,M,h1,h2,h3⟩:=zC9 hc zCm (q:=fun v=>zud v) (qN:=zDc) fun v hv=>zCF (by omega) hv;obtain⟨s,M',g1,g2,g3⟩:=zC9 hc h2 (q:=fun v=>zue v) (qN:=zDd) fun v hv=>zCG (by omega) hv;refine⟨r,s,?_,h3,g3⟩;unfold zvc;rw[zCT hc,obs,if_pos rfl,h1,obs]
 show(zu3 ⟨c,M⟩ _).bind _=_
 rw[g1]; rfl
def FL(S:Nat→Bool):List Bool:=(List.range 101).map S
theorem zDf{S:Nat→Bool}:(FL S).length=101:=by simp[FL]
theorem zDg{S:Nat→Bool}{k:Nat}(h:k < 101):(FL S)[k]? = some (S k):=by simp[FL,h]
theorem zDh{S:Nat→Bool}{l:List Bool}(hl:l.length=101)(h:∀k,k < 101→l[k]? = some (S k)):l=FL S:=by
 apply List.ext_getElem?
 intro k
 by_cases hk:k < 101
 ·rw[h k hk,zDg hk]
 ·rw[List.getElem?_eq_none (by omega),List.getElem?_eq_none (by rw[zDf]; omega)]
theorem zDi{S:Nat→Bool}{i:Nat}{b:Bool}(_hi:i < 101):(FL S).set i b=FL (fun j=>if j=i then b else S j):=by
 refine zDh (by rw[List.length_set,zDf]) fun k hk=>?_;rw[List.getElem?_set]
 by_cases he:i=k
 ·subst he; rw[if_pos rfl,if_pos (by rw[zDf]; omega),if_pos rfl]
 ·rw[if_neg he,zDg hk,if_neg (by omega)]
def zmI(S:Nat→Bool):List Int:=((List.range 101).filter S).map fun k:Nat=>(k:Int)
theorem zDj{S:Nat→Bool}{k:Nat}:(((List.range 101).take k).filter S).length≤101:=by
 refine Nat.le_trans (List.length_filter_le ..) ?_;rw[List.length_take]; simp; omega
theorem zDk{S:Nat→Bool}{k:Nat}(h:k < 101):((List.range 101).take (k+1)).filter S=((List.range 101).take k).filter S++(if S k=true then [k] else []):=by
 rw[List.take_add_one,List.filter_append]
 simp[h]
 split <;> simp_all
theorem zDl{S:Nat→Bool}:∀(d k:Nat),k≤101→101 - k < d→ztS (FL S) d ((((List.range 101).take k).filter S).map fun k:Nat=>(k:Int)) (k:Int)=some (zmI S)
 | 0,k,_,h=>by omega
 | d+1,k,hk,h=>by
  rw[ztS]
  by_cases hkl:k < 101
  ·rw[if_pos (by omega),zqf (by omega),zq5 (zDg hkl),obs];have:=zDl (S:=S) d (k+1) hkl (by omega);rw[zDk hkl] at this
   split
   ·rename_i hs
    rw[zqf (by rw[List.length_map]; exact Nat.lt_of_le_of_lt zDj (by omega)),zqf (fI (by omega)),show(k:Int)+1=((k+1:Nat):Int) by omega];rw[if_pos hs,List.map_append] at this;exact this
   ·rename_i hs
    rw[zqf (fI (by omega)),show(k:Int)+1=((k+1:Nat):Int) by omega];rw[if_neg hs,List.append_nil] at this;exact this
  ·rw[if_neg (by omega)]
   have:k=101:=by omega
   subst this;rw[List.take_of_length_le (by simp)]; rfl
theorem zDm{S:Nat→Bool}:ztT (FL S)=some (zmI S):=by
 exact zDl (S:=S) 102 0 (by omega) (by omega)
theorem zDn{S:Nat→Bool}{n:Int}:n∈zmI S↔∃k:Nat,n=k∧k < 101∧S k=true:=by
 unfold zmI
 simp only[List.mem_map,List.mem_filter,List.mem_range]
 exact⟨fun⟨k,h,he⟩=>⟨k,he.symm,h⟩,fun⟨k,he,h⟩=>⟨k,h,he.symm⟩⟩
def zDo(l:List Thr)(f:Fld)(k:Nat):Bool:=l.any fun t=>decide (zB2 f t=(k:Int))
theorem zDp{f:Fld}:∀(l:List Thr) (S:Nat→Bool),(∀t∈l,zBZ t)→ztU f l (FL S)=some (FL fun k=>zDo l f k || S k)
 | [],S,_=>rfl
 | t::l,S,h=>by
  have ht:=h t (List.mem_cons_self ..);have hr:=zB7 (f:=f) ht;rw[ztU,zB8 ht,obs,zqf (by omega),zqf zDf,zDi (by omega),zDp l _ fun u hu=>h u (List.mem_cons_of_mem _ hu)]
  congr 2
  funext k
  unfold zDo;rw[List.any_cons]
  by_cases he:k=(zB2 f t).toNat
  ·rw[if_pos he,show decide (zB2 f t=(k:Int))=true from decide_eq_true (by omega)]; simp
  ·rw[if_neg he,show decide (zB2 f t=(k:Int))=false from decide_eq_false (by omega)]; simp
theorem FL0:List.replicate 101 false=FL (fun _=>false):=by decide
def zDq(f:Fld)(k:Nat):Bool:=zDo (zCb f) f k
def zDr(f:Fld):List Int:=zmI (zDq f)
theorem zDs{l:List Tf}{f:Fld}(hf:zBx l f):∀t∈zCb f,zBZ t:=fun _t ht=>((zCe hf).1 ht).rng hf
theorem zDt{l:List Tf}{f:Fld}(hf:zBx l f):ztV f=some (FL (zDq f)):=by
 unfold ztV;rw[zCj hf,obs,FL0,zDp _ _ (zDs hf)]
 simp only[Bool.or_false]; rfl
theorem zDu{l:List Tf}{f:Fld}(hf:zBx l f){n:Int}:n∈zDr f↔∃t,zBY f t∧zB2 f t=n:=by
 unfold zDr;rw[zDn];unfold zDq zDo
 constructor
 ·rintro⟨k,rfl,_,h⟩
  obtain⟨t,ht,he⟩:=List.any_eq_true.1 h;exact⟨t,(zCe hf).1 ht,of_decide_eq_true he⟩
 ·rintro⟨t,ht,rfl⟩
  have hr:=zB7 (f:=f) (ht.rng hf);exact⟨(zB2 f t).toNat,by omega,by omega,List.any_eq_true.2 ⟨t,(zCe hf).2 ht,decide_eq_true (by omega)⟩⟩
theorem zDv{c:Cse}(hl:c.Fields.length≤6){n:Int}:Ev (zt2 c n) (0≤n∧n < c.Fields.length):=Ev.gd (fI (by omega)) (zBB.ret.imp (by dsimp only; omega))
theorem zDw{c:Cse}(hc:zBy c){k:Nat}{f:Fld}(hk:c.Fields[k]? = some f):zt7 c (k:Int)=some (f,0):=by
 have hkl:=(List.getElem?_eq_some_iff.1 hk).1;have:=hc.len;unfold zt7;rw[zBL,obs,if_pos (zBA.2 hc),(zDv (by omega)).some_of (by omega),obs,if_pos rfl,zq5 hk]; rfl
theorem zDx{c:Cse}(hc:zBy c){k:Nat}{f:Fld}(hk:c.Fields[k]? = some f):zut c (k:Int)=some (zDr f,0):=by
 unfold zut;rw[zDw hc hk,obs,if_pos rfl,zDt (hc.fld f (List.mem_of_getElem? hk)),obs,zDm]; rfl
def zDy(f:Fld):Int:=if (zCb f).all (fun t=>decide (zB1 f t))=true then 1 else if (zCb f).any (fun t=>decide (zB1 f t))=true then 3 else 2
theorem zDz{f:Fld}:∀(l:List Thr) (a b:Bool),(∀t∈l,zBZ t)→ztW f l a b=some (if (b || !(l.all fun t=>decide (zB1 f t)))=true then (if (a || l.any fun t=>decide (zB1 f t))=true then 3 else 2) else 1)
 | [],a,b,_=>by cases a <;> cases b <;> rfl
 | t::l,a,b,h=>by
  have ih:=fun a b=>zDz (f:=f) l a b fun u hu=>h u (List.mem_cons_of_mem _ hu);rw[ztW,(zB5 (h t (List.mem_cons_self ..))).eqd,obs]
  cases a <;> cases b <;> simp only[ih,List.all_cons,List.any_cons] <;> by_cases hc:zB1 f t <;> simp[hc]
theorem zDA{l:List Tf}{f:Fld}(hf:zBx l f):ztX f=some (zDy f):=by
 unfold ztX zDy;rw[zCj hf,obs,zDz _ _ _ (zDs hf)]
 simp only[Bool.false_or]
 cases (zCb f).all fun t=>decide (zB1 f t) <;> simp
theorem zDB{c:Cse}(hc:zBy c){k:Nat}{f:Fld}(hk:c.Fields[k]? = some f):zuu c (k:Int)=some (zDy f,0):=by
 unfold zuu;rw[zDw hc hk,obs,if_pos rfl,zDA (hc.fld f (List.mem_of_getElem? hk))]; rfl
def zDC(f:Fld)(t:Thr):Fld:=⟨f.Crop,f.Value,f.Near,⟨t.First,t.First⟩,⟨t.Second,t.Second⟩,f.Umpire⟩
theorem zDD{l:List Tf}{f:Fld}(hf:zBx l f){t:Thr}(ht:zBY f t):zBx l (zDC f t):=by
 have hr:=ht.rng hf;have h1:=hr.a; have h2:=hr.b;exact⟨hf.crop,hf.val,hf.near,⟨h1.1,Int.le_refl _,h1.2,by show t.First - t.First≤4; omega⟩,⟨h2.1,Int.le_refl _,h2.2,by show t.Second - t.Second≤4; omega⟩,hf.ump⟩
theorem zDE{c:Cse}(hc:zBy c){f:Fld}(hf:zBx c.Tariffs f){p:Int}{l:List Int}(hl:∀n∈l,0≤n∧n≤100)(hlen:l.length≤1000){M0:Option (Clm→Option Int)}:∀(d k:Nat) (S:Nat→Bool) (M:Option (Clm→Option Int)),k≤l.length→l.length - k < d→zCl c M →
  ∃M',zul ⟨c,M0⟩ f p l d (FL S) M (k:Int)=some (FL (fun j=>if (j:Int)∈l.drop k then decide (zCk c f j=p) else S j),M')∧zCl c M'
 | 0,k,_,_,_,h,_=>by omega
 | d+1,k,S,M,hk,h,hM=>by
  rw[zul]
  by_cases hkl:k < l.length
  ·obtain⟨n,h1,h2⟩:=zCJ hkl;have hn:=hl n (List.mem_of_getElem? h1);obtain⟨M1,g1,g2⟩:=zCp hc hM hf hn;rw[if_pos (by omega),zq5 h1,obs]
   dsimp only
   rw[g1,obs,zqf (by omega),zqf zDf,zqf (fI (by omega)),zDi (by omega),show(k:Int)+1=((k+1:Nat):Int) by omega];obtain⟨M',q1,q2⟩:=zDE hc hf hl hlen (M0:=M0) d (k+1) _ M1 hkl (by omega) g2;refine⟨M',?_,q2⟩;rw[q1]
   congr 3
   funext j
   rw[h2]
   by_cases hj:(j:Int)∈l.drop (k+1)
   ·rw[if_pos hj,if_pos (List.mem_cons_of_mem _ hj)]
   ·rw[if_neg hj]
    by_cases he:j=n.toNat
    ·rw[if_pos he,if_pos (by rw[show(j:Int)=n by omega]; exact List.mem_cons_self ..),show(j:Int)=n by omega]
    ·rw[if_neg he,if_neg fun hm=>(List.mem_cons.1 hm).elim (fun h=>he (by omega)) hj]
  ·rw[if_neg (by omega),List.drop_eq_nil_of_le (by omega)];exact⟨M,by simp,hM⟩
def zDF(c:Cse)(f:Fld)(t:Thr):Prop:=∃n∈zDr (zDC f t),zCk c f n ≠ zCk c f (zB2 f t)
instance (c:Cse) (f:Fld) (t:Thr):Decidable (zDF c f t):=by unfold zDF; infer_instance
theorem zDG{S:Nat→Bool}:(zmI S).length≤101:=by
 unfold zmI;rw[List.length_map];refine Nat.le_trans (List.length_filter_le ..) ?_
 simp
theorem zDH{S T:Nat→Bool}:FL S=FL T↔∀k,k < 101→S k=T k:=by
 constructor
 ·intro h k hk;have h1:=zDg (S:=S) hk;rw[h,zDg hk] at h1;exact(oi h1).symm
 ·intro h
  exact zDh zDf fun k hk=>by rw[zDg hk,h k hk]
theorem zDI{c:Cse}(hc:zBy c){M:Option (Clm→Option Int)}(hM:zCl c M){f:Fld}(hf:zBx c.Tariffs f){t:Thr}(ht:zBY f t):∃M',zun ⟨c,M⟩ f t=some (decide (zDF c f t),M')∧zCl c M':=by
 have hr:=ht.rng hf;obtain⟨M1,g1,g2⟩:=zCp hc hM hf (zB7 (f:=f) hr);have ho:=zDD hf ht
 have hl:∀n∈zmI (zDq (zDC f t)),0≤n∧n≤100:=fun n hn=>by
  obtain⟨k,rfl,hk,_⟩:=zDn.1 hn
  omega
 have hlen:=zDG (S:=zDq (zDC f t));obtain⟨M',q1,q2⟩:=zDE hc ho (p:=zCk c f (zB2 f t)) hl (by omega) (M0:=M1) ((zmI (zDq (zDC f t))).length+1) 0 (zDq (zDC f t)) M1 (by omega) (by omega) g2;refine⟨M',?_,q2⟩;unfold zun;rw[zB8 hr,obs,g1,obs]
 show(ztV (zDC f t)).bind _=_
 rw[zDt ho,obs]
 have e:zum ⟨c,M1⟩ (zDC f t) (FL (zDq (zDC f t))) (zCk c f (zB2 f t))=some (FL (fun j=>if (j:Int)∈(zmI (zDq (zDC f t))).drop 0 then decide (zCk c (zDC f t) j=zCk c f (zB2 f t)) else zDq (zDC f t) j),M'):=by
  unfold zum;rw[zDm,obs];exact q1
 show(zum ⟨c,M1⟩ (zDC f t) (FL (zDq (zDC f t))) (zCk c f (zB2 f t))).bind _=_
 rw[e,obs,zqf ⟨zDf,zDf⟩]
 congr 2
 have key:(FL (fun j=>if (j:Int)∈(zmI (zDq (zDC f t))).drop 0 then decide (zCk c (zDC f t) j=zCk c f (zB2 f t)) else zDq (zDC f t) j)=FL (zDq (zDC f t)))↔¬ zDF c f t:=by
  rw[zDH];unfold zDF zDr;rw[List.drop_zero]
  constructor
  ·rintro h ⟨n,hn,hne⟩
   obtain⟨k,rfl,hk,hs⟩:=zDn.1 hn;have:=h k hk;rw[if_pos hn,hs] at this;exact hne (of_decide_eq_true this)
  ·intro h k hk
   by_cases hm:(k:Int)∈zmI (zDq (zDC f t))
   ·rw[if_pos hm];obtain⟨k',he,_,hs⟩:=zDn.1 hm;rw[show k=k' by omega,hs,← show k=k' by omega];exact decide_eq_true (Classical.byContradiction fun hn=>h ⟨_,hm,hn⟩)
   ·rw[if_neg hm]
 by_cases hm:zDF c f t
 ·rw[decide_eq_true hm,decide_eq_false fun h=>(key.1 h) hm]; rfl
 ·rw[decide_eq_false hm,decide_eq_true (key.2 hm)]; rfl
def zDJ(c:Cse)(f:Fld):Bool:=(zCb f).any fun t=>decide (zDF c f t)
def zDK(c:Cse):List Fld→Nat→List Int
 | [],_=>[]
 | f::fs,k=>if zDJ c f=true then (k:Int)::zDK c fs (k+1) else zDK c fs (k+1)
theorem zDL{c:Cse}(hc:zBy c){f:Fld}(hf:zBx c.Tariffs f){k:Nat}(hk:k≤1000){M0:Option (Clm→Option Int)}{K:List Int→Option (Clm→Option Int)→Int→Option (List Int × Option (Clm→Option Int))}{a:List Int}(ha:a.length≤1000){F:List Int→List Int}
  (hK:∀(a':List Int) M,a'.length≤a.length+1→zCl c M→∃M',K a' M ((k:Int)+1)=some (F a',M')∧zCl c M'):∀(l:List Thr) M,zCl c M→(∀t∈l,zBY f t)→∃M',zup ⟨c,M0⟩ (k:Int) f K l a M=some (F (if (l.any fun t=>decide (zDF c f t))=true then a++[(k:Int)] else a),M')∧zCl c M'
 | [],M,hM,_=>by
  obtain⟨M',h1,h2⟩:=hK a M (by omega) hM;refine⟨M',?_,h2⟩;rw[zup,zqf (fI (by omega)),h1]; rfl
 | t::l,M,hM,hl=>by
  obtain⟨M1,h1,h2⟩:=zDI hc hM hf (hl t (List.mem_cons_self ..));rw[zup]
  dsimp only
  rw[h1,obs]
  by_cases hm:zDF c f t
  ·rw[if_pos (decide_eq_true hm),zqf (by omega)];unfold zuo;obtain⟨M',q1,q2⟩:=hK (a++[(k:Int)]) M1 (by simp) h2;refine⟨M',?_,q2⟩;rw[zqf (fI (by omega)),q1,List.any_cons,decide_eq_true hm,Bool.true_or,if_pos rfl]
  ·obtain⟨M',q1,q2⟩:=zDL hc hf hk (M0:=M0) ha hK l M1 h2 fun u hu=>hl u (List.mem_cons_of_mem _ hu);refine⟨M',?_,q2⟩;rw[zqg (decide_eq_false hm),q1,List.any_cons,decide_eq_false hm,Bool.false_or]
theorem zDM{c:Cse}(hc:zBy c){M0:Option (Clm→Option Int)}:∀(d k:Nat) (a:List Int) M,k≤c.Fields.length→c.Fields.length - k < d→a.length≤k→zCl c M→∃M',zuq ⟨c,M0⟩ d a M (k:Int)=some (a++zDK c (c.Fields.drop k) k,M')∧zCl c M'
 | 0,k,_,_,_,h,_,_=>by omega
 | d+1,k,a,M,hk,h,ha,hM=>by
  have hlen:=hc.len;rw[zuq]
  dsimp only
  by_cases hkl:k < c.Fields.length
  ·obtain⟨f,h1,h2⟩:=zCJ hkl;have hf:=hc.fld f (List.mem_of_getElem? h1);rw[if_pos (by omega),zq5 h1,obs,zCj hf,obs,h2]
   have hK:∀(a':List Int) M,a'.length≤a.length+1→zCl c M→∃M',zuq ⟨c,M0⟩ d a' M ((k:Int)+1)=some (a'++zDK c (c.Fields.drop (k+1)) (k+1),M')∧zCl c M':=fun a' M' ha' hM'=>by
    rw[show(k:Int)+1=((k+1:Nat):Int) by omega];exact zDM hc d (k+1) a' M' hkl (by omega) (by omega) hM'
   obtain⟨M',q1,q2⟩:=zDL hc hf (k:=k) (by omega) (M0:=M0) (a:=a) (by omega) (F:=fun a'=>a'++zDK c (c.Fields.drop (k+1)) (k+1)) hK (zCb f) M hM fun t ht=>(zCe hf).1 ht;refine⟨M',?_,q2⟩;rw[q1,zDK];unfold zDJ
   split <;> simp
  ·rw[if_neg (by omega),List.drop_eq_nil_of_le (by omega)];exact⟨M,by simp[zDK],hM⟩
theorem zDN{c:Cse}(hc:zBy c):zuv c=some (zDK c c.Fields 0,0):=by
 obtain⟨M',h1,h2⟩:=zDM hc (M0:=some fun _=>none) (c.Fields.length+1) 0 [] (some fun _=>none) (by omega) (by omega) (by simp) zCm;unfold zuv;rw[zCT hc,obs,if_pos rfl];unfold zur
 show(zuq ⟨c,some fun _=>none⟩ (c.Fields.length+1) [] (some fun _=>none) ((0:Nat):Int)).bind _=_
 rw[h1]; rfl
def befU:List Int→List Int→Bool
 | x::a,y::b=>if x=y then befU a b else decide (x < y)
 | [],_::_=>true
 | _,[]=>false
theorem zDO:∀{a b:List Int},a.length=b.length→befU a b=false→befU b a=false→a=b
 | [],[],_,_,_=>rfl
 | x::a,y::b,hl,h1,h2=>by
  simp only[befU] at h1 h2
  by_cases he:x=y
  ·subst he;rw[if_pos rfl] at h1 h2;rw[zDO (Nat.succ.inj hl) h1 h2]
  ·rw[if_neg he] at h1;rw[if_neg fun h=>he h.symm] at h2;have:=of_decide_eq_false h1;have:=of_decide_eq_false h2
   omega
theorem zDP:∀{a:List Int},befU a a=false
 | []=>rfl
 | x::a=>by simp only[befU]; rw[if_pos trivial]; exact zDP
theorem zDQ{a b:List Int}(hl:a.length≤1000):∀(d k:Nat),k≤a.length→a.length - k < d→zr4 a b d (k:Int)=some (befU (a.drop k) (b.drop k))
 | 0,_,_,h=>by omega
 | d+1,k,hk,h=>by
  rw[zr4]
  by_cases hka:k < a.length
  ·rw[if_pos (by omega)];have da:=List.drop_eq_getElem_cons hka;have ga:=List.getElem?_eq_getElem hka
   by_cases hkb:k < b.length
   ·have db:=List.drop_eq_getElem_cons hkb;have gb:=List.getElem?_eq_getElem hkb;rw[if_pos (by omega),zq5 ga,obs,zq5 gb,obs,da,db];unfold befU
    by_cases he:a[k]=b[k]
    ·rw[if_pos he,if_pos he,zqf (fI (by omega)),show(k:Int)+1=((k+1:Nat):Int) by omega];exact zDQ hl d (k+1) (by omega) (by omega)
    ·rw[if_neg he,if_neg he,obs,obs]
   ·rw[if_neg (by omega),da,List.drop_eq_nil_of_le (show b.length≤k by omega),decide_eq_false (by omega)]; rfl
  ·rw[if_neg (by omega),List.drop_eq_nil_of_le (show a.length≤k by omega)]
   by_cases hkb:k < b.length
   ·rw[List.drop_eq_getElem_cons hkb,decide_eq_true (by omega)]; rfl
   ·rw[List.drop_eq_nil_of_le (show b.length≤k by omega),decide_eq_false (by omega)]; rfl
theorem zDR{a b:List Int}(hl:a.length≤1000):zr5 a b=some (befU a b):=zDQ hl (a.length+1) 0 (Nat.zero_le _) (by omega)
theorem zDS{a b:List Int}(ha:a.length≤1000):Ev (zr6 a b) (a=b):=by
 unfold zr6
 by_cases hl:a.length=b.length
 ·rw[if_pos (by omega),zDR ha,obs]
  cases h1:befU a b with
  | true=>
   rw[if_pos rfl]
   exact Ev.ff fun he=>by subst he; rw[zDP] at h1; cases h1
  | false=>
   rw[if_neg (by simp),zDR (by omega),obs];refine Ev.mk' ?_
   cases h2:befU b a with
   | true=>exact⟨fun h=>(by cases h),fun he=>(by subst he; rw[zDP] at h2; cases h2)⟩
   | false=>exact⟨fun _=>zDO hl h1 h2,fun _=>rfl⟩
 ·rw[if_neg (by omega)];exact Ev.ff fun he=>hl (by rw[he])
theorem zDT{a b:Res}(ha:a.Counts.length≤1000):Ev (zuK a b) (a=b):=by
 refine(Ev.and (zDS ha) fun _=>Ev.ite fun _=>Ev.ite fun _=>Ev.dec Iff.rfl).imp ?_;obtain⟨a1,a2,a3,a4⟩:=a;obtain⟨b1,b2,b3,b4⟩:=b
 simp
theorem zDU:∀{fs:List Fld} {ts:List Thr},zCH fs ts→(zCN fs ts).length=fs.length
 | [],[],_=>rfl
 | _::_,_::_,h=>by simp[zCN,zDU h.2]
def tfU:Tf:=⟨0,true,0,[0],[0,100],[[[0,100]]]⟩
def fA:Fld:=⟨0,1000,4,⟨40,41⟩,⟨30,30⟩,⟨33,36⟩⟩
def fB:Fld:=⟨0,200,4,⟨20,20⟩,⟨17,18⟩,⟨0,4⟩⟩
def zDV:Cse:=⟨[tfU],10,31,[fA,fB]⟩
theorem zDW:zuM=some zDV:=rfl
theorem zDX{α:Type}{a:α}{P:α→Prop}(h:P a):∀x∈[a],P x:=fun x hx=>by rw[List.mem_singleton.1 hx]; exact h
theorem zDY:zzy [tfU]=0:=by
 refine zzz.2 ⟨?_,⟨by simp,zDX ⟨by decide,by decide,⟨by simp[tfU],rfl,by simp[tfU]⟩,⟨by simp[tfU],rfl,by simp[tfU]⟩,rfl,by simp[tfU],zDX ⟨rfl,zDX ⟨rfl,by simp⟩⟩⟩,by simp,rfl,zDX rfl⟩⟩
 rintro (h | ⟨t,ht,h⟩)
 ·simp at h
 ·rw[List.mem_singleton.1 ht] at h;unfold zzw at h
  simp[tfU] at h
theorem zDZ:zBy zDV:=by
 refine⟨zDY,by decide,by decide,by decide,fun f hf=>?_⟩
 rcases List.mem_cons.1 hf with rfl | hf
 ·exact⟨by decide,by decide,by decide,⟨by decide,by decide,by decide,by decide⟩,⟨by decide,by decide,by decide,by decide⟩,⟨by decide,by decide,by decide,by decide⟩⟩
 ·rw[List.mem_singleton.1 hf];exact⟨by decide,by decide,by decide,⟨by decide,by decide,by decide,by decide⟩,⟨by decide,by decide,by decide,by decide⟩,⟨by decide,by decide,by decide,by decide⟩⟩
theorem zD0{P:List Thr→Prop}(h:∀a∈zCb fA,∀b∈zCb fB,P [a,b]):∀ts,zCH zDV.Fields ts→P ts:=by
 intro ts ht
 match ts,ht with
 | [a,b],ht=>exact h a ((zCe (zDZ.fld fA (by simp[zDV]))).2 ht.1) b ((zCe (zDZ.fld fB (by simp[zDV]))).2 ht.2.1)
 | [],ht=>exact ht.elim
 | [_],ht=>exact ht.2.elim
 | _::_::_::_,ht=>exact ht.2.2.elim
theorem zD1{a b:Thr}(ha:a∈zCb fA)(hb:b∈zCb fB):zCH zDV.Fields [a,b]:=⟨(zCe (zDZ.fld fA (by simp[zDV]))).1 ha,(zCe (zDZ.fld fB (by simp[zDV]))).1 hb,trivial⟩
theorem zD2{q:Ver→Int}{r:Rg}(h:zC7 zDV q r){lo:Int}(hb:∀a∈zCb fA,∀b∈zCb fB,lo≤q (zCO zDV [a,b]))(hlo:∃a∈zCb fA,∃b∈zCb fB,q (zCO zDV [a,b])=lo):r.Lo=lo:=by
 obtain⟨t1,h1,h2⟩:=h.lo;obtain⟨a,ha,b,hb',e1⟩:=hlo;have k1:=h.all _ (zD1 ha hb');have k3:=zD0 (P:=fun ts=>lo≤q (zCO zDV ts)) hb t1 h1
 omega
theorem zD3{q:Ver→Int}{r:Rg}(h:zC7 zDV q r){hi:Int}(hb:∀a∈zCb fA,∀b∈zCb fB,q (zCO zDV [a,b])≤hi)(hhi:∃a∈zCb fA,∃b∈zCb fB,q (zCO zDV [a,b])=hi):r.Hi=hi:=by
 obtain⟨t1,h1,h2⟩:=h.hi;obtain⟨a,ha,b,hb',e1⟩:=hhi;have k1:=h.all _ (zD1 ha hb');have k3:=zD0 (P:=fun ts=>q (zCO zDV ts)≤hi) hb t1 h1
 omega
theorem zD4:zvd=some true:=by
 obtain⟨a,ha,ea⟩:=zDa zDZ;obtain⟨x,y,hx,ex,ey⟩:=zDb zDZ;obtain⟨n,o,ho,en,eo⟩:=zDe zDZ;have a1:a.Lo=366:=zD2 ea (by decide) (by decide);have a2:a.Hi=398:=zD3 ea (by decide) (by decide);have x1:x.Lo=0:=zD2 ex (by decide) (by decide);have x2:x.Hi=31:=zD3 ex (by decide) (by decide);have y1:y.Lo=0:=zD2 ey (by decide) (by decide);have y2:y.Hi=31:=zD3 ey (by decide) (by decide);have n1:n.Lo=335:=zD2 en (by decide) (by decide);have o2:o.Hi=429:=zD3 eo (by decide) (by decide)
 have hP:zus zDV [⟨40,30,35⟩,⟨20,17,0⟩]=some (⟨[35,18],386,16,15⟩,0):=by
  have i1:(⟨40,30,35⟩:Thr)∈zCb fA:=(zCe (zDZ.fld fA (by simp[zDV]))).2 ⟨by decide,by decide,by decide⟩;have i2:(⟨20,17,0⟩:Thr)∈zCb fB:=(zCe (zDZ.fld fB (by simp[zDV]))).2 ⟨by decide,by decide,by decide⟩;rw[zCU zDZ (zD1 i1 i2)];refine congrArg (fun r=>some (r,(0:Int))) ?_
  have r1:(zCP zDV [⟨40,30,35⟩,⟨20,17,0⟩]).Counts=[35,18]:=by decide
  have r2:(zCP zDV [⟨40,30,35⟩,⟨20,17,0⟩]).Award=386:=by decide
  have r3:(zCP zDV [⟨40,30,35⟩,⟨20,17,0⟩]).Farmer=16:=by decide
  have r4:(zCP zDV [⟨40,30,35⟩,⟨20,17,0⟩]).Society=15:=by decide
  generalize zCP zDV [⟨40,30,35⟩,⟨20,17,0⟩]=R at r1 r2 r3 r4;obtain⟨_,_,_,_⟩:=R
  dsimp only at r1 r2 r3 r4
  subst_vars; rfl
 have hC:zut zDV (0:Int)=some ([33,34,35,36],0):=by
  rw[show zut zDV (0:Int)=_ from zDx zDZ (k:=0) (f:=fA) rfl];exact congrArg (fun r=>some (r,(0:Int))) (by decide)
 have hD:zuu zDV (1:Int)=some (2,0):=by
  rw[show zuu zDV (1:Int)=_ from zDB zDZ (k:=1) (f:=fB) rfl];exact congrArg (fun r=>some (r,(0:Int))) (by decide)
 have hM:zuv zDV=some ([0],0):=by
  rw[zDN zDZ];exact congrArg (fun r=>some (r,(0:Int))) (by decide)
 have fz:∀n:Int,0≤n∧n≤1000→zl0 .i64 n:=fun n h=>fI (by omega);unfold zvd;rw[zDW,obs,show zuN 40 35 17=some [⟨40,30,35⟩,⟨20,17,0⟩] from rfl,obs,hP,obs,obs,hC,obs,obs,hD,obs,obs,ha,obs,obs,hx,obs,obs,ho,obs,obs,hM,obs];rw[if_pos rfl,(zDT (by decide)).some_of rfl,obs,if_pos rfl,if_pos rfl,(zDS (by decide)).some_of rfl,obs,if_pos rfl,if_pos rfl,if_pos rfl,if_pos rfl]
 show Go.Abs.gd _ _=_
 dsimp only
 rw[a1,a2,x1,x2,y1,y2,n1,o2];rw[zqf (fz _ (by omega)),zqf (fz _ (by omega)),zqf (fz _ (by omega)),zqf (fz _ (by omega)),if_pos rfl,if_pos rfl]
 show Go.Abs.gd _ _=_
 dsimp only
 rw[zqf (fz _ (by omega)),zqf (fz _ (by omega)),zqf (fz _ (by omega)),zqf (fz _ (by omega)),if_pos rfl,zqf (fz _ (by omega)),zqf (fz _ (by omega)),zqf (fz _ (by omega)),zqf (fz _ (by omega)),if_pos (by decide),if_pos (by decide)]
 show Go.Abs.gd _ _=_
 dsimp only
 rw[zqf (fz _ (by omega)),zqf (fz _ (by omega)),zqf (fz _ (by omega)),zqf (fz _ (by omega)),if_pos (by decide),(zDS (by decide)).some_of rfl]; rfl
theorem zD5{a b:Int}(ha:0≤a∧a≤100)(hb:0≤b∧b≤100):zuA a b=some (zB0 a b):=by
 unfold zuA zB0
 by_cases h:a < b
 ·rw[if_pos h,zqf (fI (by omega))]; congr 1; omega
 ·rw[if_neg h,zqf (fI (by omega))]; congr 1; omega
theorem zD6{f:Fld}{t:Thr}(h:zBZ t):Ev (zuB f t) (zB1 f t):=Ev.bind (zD5 h.a h.b) (Ev.dec Iff.rfl)
def OkC(c:Cse):Prop:=zrP c
theorem zD7{c:Cse}{t:List Thr}{r:Res}{e p:Int}(h:zus c t=some (r,e)):zuw c t p=some (if e=0 then decide (r.Award=p) else false):=by
 unfold zuw;rw[h,obs]
 by_cases he:e=0
 ·rw[if_pos he,if_pos he]
 ·rw[if_neg he,if_neg he]
theorem zD8{r:Rg}(h:zBv r){w:Int}(hw:0≤w∧w < 256):∃x,zuP r w=some x∧r.Lo≤x∧x≤r.Hi:=by
 have h1:=h.lo; have h2:=h.le; have h3:=h.hi; have h4:=h.wd;have h5:=Int.emod_nonneg w (show r.Hi - r.Lo+1 ≠ 0 by omega);have h6:=Int.emod_lt_of_pos w (show 0 < r.Hi - r.Lo+1 by omega);refine⟨r.Lo+w % (r.Hi - r.Lo+1),?_,by omega⟩;unfold zuP;rw[zqf (fI (by omega)),zqf (fI (by omega)),zqf hw.1,zqf (by omega),zqf (fI (by omega)),zqf (fI (by omega))]
def OkW(l:List W8):Prop:=l.length≤maxLen∧∀a∈l,zrG a
theorem zD9{l:List W8}(h:OkW l)(h0:0 < l.length){k:Int}(_hk:0≤k):∃w,idx l (k % (l.length:Int))=some w∧0≤w.v∧w.v < 256:=by
 have h5:=Int.emod_nonneg k (show(l.length:Int) ≠ 0 by omega);have h6:=Int.emod_lt_of_pos k (show 0 < (l.length:Int) by omega)
 have hlt:(k % (l.length:Int)).toNat < l.length:=by omega
 refine⟨l[(k % (l.length:Int)).toNat],zq6 (by omega) hlt,?_⟩;exact fU8 (h.2 _ (List.getElem_mem hlt))
theorem zEa{c:Cse}(hc:zBy c){l:List W8}(h:OkW l)(hm:l.length < 9223372036854775808):∀(d k:Nat) (acc:List Thr),k≤c.Fields.length→c.Fields.length - k < d→acc.length=k→∃ts,zuQ c l d acc (k:Int)=some (acc++ts)∧zCH (c.Fields.drop k) ts
 | 0,k,_,_,h,_=>by omega
 | d+1,k,acc,hk,hd,ha=>by
  have hlen:=hc.len;rw[zuQ]
  by_cases hkl:k < c.Fields.length
  ·obtain⟨f,h1,h2⟩:=zCJ hkl;have hf:=hc.fld f (List.mem_of_getElem? h1);rw[if_pos (by omega),zq5 h1,obs,h2]
   have fin:∀a b u,(f.First.Lo≤a∧a≤f.First.Hi)→(f.Second.Lo≤b∧b≤f.Second.Hi)→(f.Umpire.Lo≤u∧u≤f.Umpire.Hi)→∃ts,gd (acc.length < 1048576) (gd (zl0 .i64 ((k:Int)+1)) (zuQ c l d (acc++[⟨a,b,u⟩]) ((k:Int)+1)))=some (acc++ts)∧zCH (f::c.Fields.drop (k+1)) ts:=fun a b u ha' hb' hu'=>by
    obtain⟨ts,q1,q2⟩:=zEa hc h hm d (k+1) (acc++[⟨a,b,u⟩]) hkl (by omega) (by simp; omega);refine⟨⟨a,b,u⟩ :: ts,?_,⟨ha',hb',hu'⟩,q2⟩;rw[zqf (by omega),zqf (fI (by omega)),show(k:Int)+1=((k+1:Nat):Int) by omega,q1]; simp
   by_cases h0:0 < l.length
   ·obtain⟨w1,e1,r1⟩:=zD9 h h0 (k:=3 * (k:Int)) (by omega);obtain⟨w2,e2,r2⟩:=zD9 h h0 (k:=3 * (k:Int)+1) (by omega);obtain⟨w3,e3,r3⟩:=zD9 h h0 (k:=3 * (k:Int)+2) (by omega);have m1:=Int.emod_nonneg (3 * (k:Int)) (show(l.length:Int) ≠ 0 by omega);have m2:=Int.emod_nonneg (3 * (k:Int)+1) (show(l.length:Int) ≠ 0 by omega);have m3:=Int.emod_nonneg (3 * (k:Int)+2) (show(l.length:Int) ≠ 0 by omega);have n1:=Int.emod_lt_of_pos (3 * (k:Int)) (show 0 < (l.length:Int) by omega);have n2:=Int.emod_lt_of_pos (3 * (k:Int)+1) (show 0 < (l.length:Int) by omega);have n3:=Int.emod_lt_of_pos (3 * (k:Int)+2) (show 0 < (l.length:Int) by omega);rw[if_pos (by omega),zqf (by omega),zqf (by omega),zqf (fI (by omega)),zqf (by omega),zqf (by omega),zqf (fI (by omega)),e1,obs];rw[zqf (by omega),zqf (by omega),zqf (fI (by omega)),zqf (fI (by omega)),zqf (by omega),zqf (by omega),zqf (fI (by omega)),e2,obs];rw[zqf (by omega),zqf (by omega),zqf (fI (by omega)),zqf (fI (by omega)),zqf (by omega),zqf (by omega),zqf (fI (by omega)),e3,obs];rw[wz (fI (by omega)),wz (fI (by omega)),wz (fI (by omega))];obtain⟨a,p1,p2⟩:=zD8 hf.fst r1;obtain⟨b,p3,p4⟩:=zD8 hf.snd r2;obtain⟨u,p5,p6⟩:=zD8 hf.ump r3;rw[p1,obs,p3,obs,p5,obs];exact fin a b u p2 p4 p6
   ·obtain⟨a,p1,p2⟩:=zD8 hf.fst (w:=0) (by omega);obtain⟨b,p3,p4⟩:=zD8 hf.snd (w:=0) (by omega);obtain⟨u,p5,p6⟩:=zD8 hf.ump (w:=0) (by omega);rw[if_neg (by omega),p1,obs,p3,obs,p5,obs];exact fin a b u p2 p4 p6
  ·rw[if_neg (by omega),List.drop_eq_nil_of_le (by omega)];exact⟨[],by simp,trivial⟩
theorem zEb{c:Cse}(hc:zBy c){l:List W8}(h:OkW l):∃ts,zuR c l=some ts∧zCH c.Fields ts:=by
 have hlen:=hc.len
 have hm:maxLen < 9223372036854775808:=by decide
 obtain⟨ts,h1,h2⟩:=zEa hc h (by have:=h.1; omega) 1000000 0 [] (by omega) (by omega) rfl;exact⟨ts,h1,h2⟩
theorem zEc:∀{fs:List Fld} {ts:List Thr},zCH fs ts→∀{k:Nat},k < fs.length→∃f t,fs[k]? = some f∧ts[k]? = some t∧(zCN fs ts)[k]? = some (zB2 f t)∧zBY f t
 | f::fs,t::ts,h,0,_=>⟨f,t,rfl,rfl,rfl,h.1⟩
 | f::fs,t::ts,h,k+1,hk=>by
  obtain⟨g,x,h1,h2,h3,h4⟩:=zEc h.2 (k:=k) (by simpa using hk);exact⟨g,x,by simpa using h1,by simpa using h2,by simpa [zCN] using h3,h4⟩
 | [],[],_,k,hk=>by simp at hk
theorem zEd{fs:List Fld}{ts:List Thr}(h:zCH fs ts)(hl:fs.length≤3):ts.length≤1000000:=by have:=h.len; omega
def zEe(c:Cse)(x:Int):Cse:=⟨c.Tariffs,c.Day,x,c.Fields⟩
theorem zEf{c:Cse}{x:Int}:∀{fs:List Fld} {ts:List Thr} {v:Ver},zCM (zEe c x) fs ts ⟨x,v.pence,v.fields⟩=⟨x,(zCM c fs ts v).pence,(zCM c fs ts v).fields⟩
 | [],_,v=>by simp[zCM]
 | _::_,[],v=>by simp[zCM]
 | f::fs,t::ts,v=>by
  rw[zCM,zCM];exact zEf (fs:=fs) (ts:=ts) (v:=zCt v (ocN c f t))
theorem zEg{c:Cse}:∀{fs:List Fld} {ts:List Thr} {v:Ver},(zCM c fs ts v).fee=v.fee
 | [],_,v=>by simp[zCM]
 | _::_,[],v=>by simp[zCM]
 | f::fs,t::ts,v=>by rw[zCM,zEg]; rfl
theorem zEh{l:List Int}{n:Int}(hl:l.length≤1000):Ev (zuU l n) (n∈l):=by
 have key:∀(d k:Nat),k≤l.length→l.length - k < d→Ev (zuT l n d (k:Int)) (n∈l.drop k):=by
  intro d
  induction d with
  | zero=>intro k _ h; omega
  | succ d ih=>
   intro k hk h;rw[zuT]
   by_cases hkl:k < l.length
   ·obtain⟨a,h1,h2⟩:=zCJ hkl;rw[if_pos (by omega),zq5 h1,obs,h2]
    by_cases he:a=n
    ·rw[if_pos he]; exact Ev.tt (he ▸ List.mem_cons_self ..)
    ·rw[if_neg he,zqf (fI (by omega)),show(k:Int)+1=((k+1:Nat):Int) by omega];exact(ih (k+1) hkl (by omega)).imp ⟨List.mem_cons_of_mem _,fun h=>(List.mem_cons.1 h).elim (fun h=>absurd h.symm he) id⟩
   ·rw[if_neg (by omega),List.drop_eq_nil_of_le (by omega)]
    exact Ev.ff fun h=>by cases h
 exact key (l.length+1) 0 (by omega) (by omega)
theorem zEi{n:Int}{r:Rg}:Ev (zuS n r) (r.Lo≤n∧n≤r.Hi):=Ev.ite fun _=>Ev.dec Iff.rfl
def zEj:List Fld→List Thr→Bool
 | f::fs,t::ts=>decide (zB1 f t) || zEj fs ts
 | _,_=>false
theorem zEk{c:Cse}{v:Ver}{f:Fld}{t:Thr}(h:0≤v.fields.f1∧0≤v.fields.f2∧0≤v.fields.f3):(zCx (zCt v (ocN c f t))↔zB1 f t∨zCx v)∧0≤(zCt v (ocN c f t)).fields.f1∧0≤(zCt v (ocN c f t)).fields.f2∧0≤(zCt v (ocN c f t)).fields.f3:=by
 unfold zCx zCt ocN zB3
 dsimp only
 by_cases hc:zB1 f t
 ·simp only[if_pos hc,hc,true_or,iff_true]
  by_cases h6:zB0 t.Second (zB2 f t) < zB0 t.First (zB2 f t)
  ·simp only[if_pos h6]; simp; omega
  ·by_cases h7:zB0 t.First (zB2 f t) < zB0 t.Second (zB2 f t)
   ·simp only[if_neg h6,if_pos h7]; simp; omega
   ·simp only[if_neg h6,if_neg h7]; simp; omega
 ·simp only[if_neg hc,hc,false_or]
  simp; omega
theorem zEl{c:Cse}:∀{fs:List Fld} {ts:List Thr} {v:Ver},zCH fs ts→(0≤v.fields.f1∧0≤v.fields.f2∧0≤v.fields.f3)→(zCx (zCM c fs ts v)↔zEj fs ts=true∨zCx v)
 | [],[],v,_,_=>by simp[zCM,zEj]
 | f::fs,t::ts,v,ht,h=>by
  have h1:=zEk (c:=c) (f:=f) (t:=t) h;rw[zCM,zEl ht.2 h1.2,h1.1,zEj,Bool.or_eq_true,decide_eq_true_iff]
  constructor
  ·rintro (h | h | h)
   ·exact .inl (.inr h)
   ·exact .inl (.inl h)
   ·exact .inr h
  ·rintro ((h | h) | h)
   ·exact .inr (.inl h)
   ·exact .inl h
   ·exact .inr (.inr h)
theorem zEm{c:Cse}{ts:List Thr}(ht:zCH c.Fields ts):zCx (zCO c ts)↔zEj c.Fields ts=true:=by
 refine(zEl ht ⟨Int.le_refl _,Int.le_refl _,Int.le_refl _⟩).trans ⟨fun h=>h.elim id fun h=>?_,.inl⟩;unfold zCx at h
 simp at h
theorem zEn{l:List Tf}{f:Fld}(hf:zBx l f){t:Thr}(ht:zBY f t):(1≤zDy f∧zDy f≤3)∧(zB1 f t→zDy f ≠ 2)∧(¬ zB1 f t→zDy f ≠ 1):=by
 have hm:=(zCe hf).2 ht;unfold zDy;refine⟨?_,fun hc=>?_,fun hc=>?_⟩
 ·repeat' split
  all_goals omega
 ·split
  ·omega
  ·rw[if_pos (List.any_eq_true.2 ⟨t,hm,decide_eq_true hc⟩)]; omega
 ·rw[if_neg fun h=>hc (of_decide_eq_true (List.all_eq_true.1 h t hm))]
  split <;> omega
theorem zEo{c:Cse}(hc:zBy c){ts:List Thr}(ht:zCH c.Fields ts):zve c ts (zCP c ts,0) 1 (zEj c.Fields ts) (c.Fields.length:Int)=some true:=by
 have hfee:=hc.fee;have hok:=zC6 hc ht;have h1:=zCC hok;have h2:=zCE hok;have hv:(zCO c ts).fee=c.Fee:=zEg;rw[hv] at h1 h2
 have hs:zCx (zCO c ts)→zCy (zCO c ts)+zCz (zCO c ts)=c.Fee:=fun h=>by
  unfold zCz; rw[if_pos h,hv]; omega
 have hn:¬ zCx (zCO c ts)→zCy (zCO c ts)=0∧zCz (zCO c ts)=0:=fun h=>by
  unfold zCz; rw[if_neg h]; unfold zCy; rw[if_neg h]; exact⟨rfl,rfl⟩
 have hl:=ht.len;rw[zve,if_neg (by omega)]
 show gd (zl0 .i64 (zCy (zCO c ts)+zCz (zCO c ts))) (if zCy (zCO c ts)+zCz (zCO c ts)=c.Fee then _ else _)=_
 rw[zqf (fI (by omega))]
 show(if zCy (zCO c ts)+zCz (zCO c ts)=c.Fee then (if 0≤zCy (zCO c ts) then (if 0≤zCz (zCO c ts) then _ else _) else _) else _)=_
 by_cases hcal:zCx (zCO c ts)
 ·rw[if_pos (hs hcal),if_pos h1.1,if_pos h2.1,if_pos ((zEm ht).1 hcal),zD4]; rfl
 ·have hb:¬ zEj c.Fields ts=true:=fun h=>hcal ((zEm ht).2 h);have hz:=hn hcal
  by_cases he:zCy (zCO c ts)+zCz (zCO c ts)=c.Fee
  ·rw[if_pos he,if_pos h1.1,if_pos h2.1,if_neg hb]
   show gd (zl0 .i64 (zCy (zCO c ts)+zCz (zCO c ts))) (if zCy (zCO c ts)+zCz (zCO c ts)=0 then _ else _)=_
   rw[zqf (fI (by omega)),if_pos (by omega),zD4]; rfl
  ·rw[if_neg he,if_neg hb]
   show gd (zl0 .i64 (zCy (zCO c ts)+zCz (zCO c ts))) (if zCy (zCO c ts)+zCz (zCO c ts)=0 then (if 0≤zCy (zCO c ts) then (if 0≤zCz (zCO c ts) then (gd (zl0 .i64 (zCy (zCO c ts)+zCz (zCO c ts))) _) else _) else _) else _)=_
   rw[zqf (fI (by omega)),if_pos (by omega),if_pos h1.1,if_pos h2.1,zqf (fI (by omega)),zD4]; rfl
theorem zEp{c:Cse}{ts:List Thr}{r:Res × Int}{b:Bool}:∀d,zve c ts r (d+1) b (ts.length:Int)=zve c ts r 1 b (ts.length:Int):=fun d=>by
 rw[zve,zve,if_neg (Int.lt_irrefl _),if_neg (Int.lt_irrefl _)]
theorem zEq{c:Cse}(hc:zBy c)(hth:zAk c.Tariffs){ts:List Thr}(ht:zCH c.Fields ts):∀(d k:Nat) (b:Bool),k≤c.Fields.length→c.Fields.length - k < d→(b || zEj (c.Fields.drop k) (ts.drop k))=zEj c.Fields ts→zve c ts (zCP c ts,0) d b (k:Int)=some true
 | 0,k,_,_,h,_=>by omega
 | d+1,k,b,hk,hd,hb=>by
  have hlen:=hc.len;have hl:=ht.len
  by_cases hkl:k < c.Fields.length
  ·obtain⟨f,t,h1,h2,h3,h4⟩:=zEc ht hkl;obtain⟨f',h5,h6⟩:=zCJ hkl;obtain⟨t',h7,h8⟩:=zCJ (l:=ts) (k:=k) (by omega)
   rw[h1] at h5; cases h5
   rw[h2] at h7; cases h7
   rw[h6,h8,zEj] at hb;have hf:=hc.fld f (List.mem_of_getElem? h1);obtain⟨c1,c2,c3⟩:=zEn hf h4;have hmem:zB2 f t∈zDr f:=(zDu hf).2 ⟨t,h4,rfl⟩
   have hcl:(zDr f).length≤1000:=by have:=zDG (S:=zDq f); unfold zDr; omega
   have hbt:=@zB6 f t;have e3:idx (zCP c ts,(0:Int)).1.Counts (k:Int)=some (zB2 f t):=zq5 h3;have ih:=fun b' hb'=>zEq hc hth ht d (k+1) b' hkl (by omega) hb';rw[zve,if_pos (by omega),zBV hth (by omega)]
   simp only[obs]
   rw[zDx hc h1,zDB hc h1,zq5 h1,zq5 h2]
   simp only[obs]
   rw[(zD6 (h4.rng hf)).eqd]
   simp only[obs]
   rw[show idx (zCP c ts).Counts (k:Int)=some (zB2 f t) from e3]
   simp only[obs]
   rw[(zEh hcl).some_of hmem,(zzF (n:=zDy f) (lo:=1) (hi:=3)).some_of c1]
   simp only[obs,if_true]
   rw[show(k:Int)+1=((k+1:Nat):Int) by omega];have hfit:zl0 .i64 ((k+1:Nat):Int):=fI (by omega)
   have n1:¬ zB2 f t < min t.First t.Second:=by omega
   have n2:¬ max t.First t.Second < zB2 f t:=by omega
   by_cases hcal:zB1 f t
   ·have hr:zve c ts (zCP c ts,0) d true ((k+1:Nat):Int)=some true:=ih true (by rw[decide_eq_true hcal] at hb; simpa using hb);rw[decide_eq_true hcal]
    cases b <;> simp only[if_true,if_neg (c2 hcal),if_neg n1,if_neg n2,zqf hfit,hr,Bool.false_eq_true,if_false]
   ·have hr:zve c ts (zCP c ts,0) d b ((k+1:Nat):Int)=some true:=ih b (by rw[decide_eq_false hcal] at hb; simpa using hb);rw[decide_eq_false hcal]
    cases b <;> simp only[if_true,if_neg (c3 hcal),if_neg n1,if_neg n2,zqf hfit,hr,Bool.false_eq_true,if_false]
  ·have hke:k=c.Fields.length:=by omega
   subst hke;rw[List.drop_eq_nil_of_le (Nat.le_refl _),List.drop_eq_nil_of_le (by omega)] at hb
   have hb:b=zEj c.Fields ts:=by simpa [zEj] using hb
   subst hb;have:=zEp (c:=c) (ts:=ts) (r:=(zCP c ts,0)) (b:=zEj c.Fields ts) d;rw[← hl] at this;rw[this];exact zEo hc ht
theorem zEr{c:Cse}{words:List W8}(_:OkC c)(hw:OkW words):zvf c words=some true:=by
 unfold zvf
 refine Ev.pick zBT (fun hr=>?_) fun hr=>by rw[zqg rfl,zD4]; rfl
 obtain⟨⟨hth,hl⟩,hc⟩:=hr;obtain⟨ts,h1,h2⟩:=zEb hc hw;obtain⟨a,ha,ea⟩:=zDa hc;obtain⟨x,y,hx,ex,ey⟩:=zDb hc;obtain⟨n,o,ho,en,eo⟩:=zDe hc;have hP:=zCU hc h2;have hok:=zC6 hc h2;have k1:=zCC hok;have k2:=zCE hok;have k3:=hok.p;have k4:=hok.fee;rw[if_pos rfl,zBV hth hl,h1,obs,obs,zBX (zEd h2 hc.len),obs,hP,obs,obs,ha,obs,obs,hx,obs,obs,ho,obs,if_pos rfl,if_pos rfl,if_pos rfl,if_pos rfl,if_pos (by show((zCN c.Fields ts).length:Int)=_; rw[zDU h2])];have w1:zuS (zCP c ts,(0:Int)).1.Award a=some true:=zEi.some_of (ea.all ts h2);have w2:zuS (zCP c ts,(0:Int)).1.Farmer x=some true:=zEi.some_of (ex.all ts h2);have w3:zuS (zCP c ts,(0:Int)).1.Society y=some true:=zEi.some_of (ey.all ts h2);have w4:=(en.all ts h2).1;have w5:=(eo.all ts h2).2;unfold zDc at w4;unfold zDd at w5
 show(zuS (zCP c ts,(0:Int)).1.Award a).bind _=_
 rw[w1,obs,if_pos rfl]
 show(zuS (zCP c ts,(0:Int)).1.Farmer x).bind _=_
 rw[w2,obs,if_pos rfl]
 show(zuS (zCP c ts,(0:Int)).1.Society y).bind _=_
 rw[w3,obs,if_pos rfl]
 show gd (zl0 .i64 ((zCO c ts).pence - zCy (zCO c ts))) (if (zCO c ts).pence - zCy (zCO c ts) < n.Lo then _ else gd (zl0 .i64 ((zCO c ts).pence+zCz (zCO c ts))) (if o.Hi < (zCO c ts).pence+zCz (zCO c ts) then _ else _))=_
 rw[zqf (fI (by omega)),if_neg (by omega),zqf (fI (by omega)),if_neg (by omega),obs,obs,zD7 hP,obs,if_pos (by simp)];rw[show(0:Int)=((0:Nat):Int) from rfl];exact zEq hc hth h2 (ts.length+1) 0 false (by omega) (by have:=h2.len; omega) rfl
end
end Go.Proofs.YteojndcmgpiklaaGreat

namespace Go.Proofs.YteojndcmgpiklaaGreat
open _root_.Go.Proofs.Tryz
open Go.ChangeShapes Go.WideShapes Go.ChangeAt Go.RowKit Go.Abs
set_option maxRecDepth 100000
theorem op3:zrv prog 3 Int (zl0 .i64):=zrw (by kernel_rfl)
theorem op4:zrv prog 4 Bool (fun _=>True):=zrx (by kernel_rfl)
theorem zEs:zrv prog 29 (List Int) (fun l=>l.length≤maxLen∧∀a0∈l,zl0 .i64 a0):=zrz (by kernel_rfl) (by kernel_rfl) op3
theorem zEt:zrv prog 140 (List (List Int)) (fun l=>l.length≤maxLen∧∀a0∈l,a0.length≤maxLen∧∀a1∈a0,zl0 .i64 a1):=zrz (by kernel_rfl) (by kernel_rfl) zEs
theorem zEu:zrv prog 78 (List (List (List Int))) (fun l=>l.length≤maxLen∧∀a0∈l,a0.length≤maxLen∧∀a1∈a0,a1.length≤maxLen∧∀a2∈a1,zl0 .i64 a2):=zrz (by kernel_rfl) (by kernel_rfl) zEt
theorem zEv:zrv prog 151 Tf zrK:=zrE (fs:=[(3,0),(4,1),(3,2),(29,3),(29,4),(78,5)]) (by kernel_rfl) (by kernel_rfl) (zrD (α:=Int) (ok:=zl0 .i64) (k:=1) op3 (by kernel_rfl) rfl (zrD (α:=Bool) (ok:=(fun _=>True)) (k:=1) op4 (by kernel_rfl) rfl (zrD (α:=Int) (ok:=zl0 .i64) (k:=1) op3 (by kernel_rfl) rfl (zrD (α:=List Int) (ok:=(fun l=>l.length≤maxLen∧∀a0∈l,zl0 .i64 a0)) (k:=1) zEs (by kernel_rfl) rfl (zrD (α:=List Int) (ok:=(fun l=>l.length≤maxLen∧∀a0∈l,zl0 .i64 a0)) (k:=1) zEs (by kernel_rfl) rfl (zrD (α:=List (List (List Int))) (ok:=(fun l=>l.length≤maxLen∧∀a0∈l,a0.length≤maxLen∧∀a1∈a0,a1.length≤maxLen∧∀a2∈a1,zl0 .i64 a2)) (k:=1) zEu (by kernel_rfl) rfl zrC)))))) (by kernel_rfl) fun m vs h=>by
 obtain⟨a0,c0,r0,m0,h0,p0,k0,s0,⟨a1,c1,r1,m1,h1,p1,k1,s1,⟨a2,c2,r2,m2,h2,p2,k2,s2,⟨a3,c3,r3,m3,h3,p3,k3,s3,⟨a4,c4,r4,m4,h4,p4,k4,s4,⟨a5,c5,r5,m5,h5,p5,k5,s5,rfl⟩⟩⟩⟩⟩⟩:=h;have p0:c0=[.int .i64 a0]:=p0; subst p0;have p1:c1=[.bool a1]:=p1; subst p1;have p2:c2=[.int .i64 a2]:=p2; subst p2;obtain⟨d3,rfl,p3⟩:=p3;obtain⟨d4,rfl,p4⟩:=p4;obtain⟨d5,rfl,p5⟩:=p5;subst h5 h4 h3 h2 h1 h0;exact⟨⟨a0,a1,a2,a3,a4,a5⟩,⟨_,_,_,rfl,p3,p4,p5⟩,⟨k0,k1,k2,k3,k4,k5⟩⟩
theorem zEw:zrv prog 22 (List Tf) (fun l=>l.length≤maxLen∧∀a0∈l,zrK a0):=zrz (by kernel_rfl) (by kernel_rfl) zEv
theorem zEx:zrv prog 58 Rg zrI:=zrE (fs:=[(3,0),(3,1)]) (by kernel_rfl) (by kernel_rfl) (zrD (α:=Int) (ok:=zl0 .i64) (k:=1) op3 (by kernel_rfl) rfl (zrD (α:=Int) (ok:=zl0 .i64) (k:=1) op3 (by kernel_rfl) rfl zrC)) (by kernel_rfl) fun m vs h=>by
 obtain⟨a0,c0,r0,m0,h0,p0,k0,s0,⟨a1,c1,r1,m1,h1,p1,k1,s1,rfl⟩⟩:=h;have p0:c0=[.int .i64 a0]:=p0; subst p0;have p1:c1=[.int .i64 a1]:=p1; subst p1;subst h1 h0;exact⟨⟨a0,a1⟩,rfl,⟨k0,k1⟩⟩
theorem zEy:zrv prog 60 Fld zrN:=zrE (fs:=[(3,0),(3,1),(3,2),(58,3),(58,5),(58,7)]) (by kernel_rfl) (by kernel_rfl) (zrD (α:=Int) (ok:=zl0 .i64) (k:=1) op3 (by kernel_rfl) rfl (zrD (α:=Int) (ok:=zl0 .i64) (k:=1) op3 (by kernel_rfl) rfl (zrD (α:=Int) (ok:=zl0 .i64) (k:=1) op3 (by kernel_rfl) rfl (zrD (α:=Rg) (ok:=zrI) (k:=2) zEx (by kernel_rfl) rfl (zrD (α:=Rg) (ok:=zrI) (k:=2) zEx (by kernel_rfl) rfl (zrD (α:=Rg) (ok:=zrI) (k:=2) zEx (by kernel_rfl) rfl zrC)))))) (by kernel_rfl) fun m vs h=>by
 obtain⟨a0,c0,r0,m0,h0,p0,k0,s0,⟨a1,c1,r1,m1,h1,p1,k1,s1,⟨a2,c2,r2,m2,h2,p2,k2,s2,⟨a3,c3,r3,m3,h3,p3,k3,s3,⟨a4,c4,r4,m4,h4,p4,k4,s4,⟨a5,c5,r5,m5,h5,p5,k5,s5,rfl⟩⟩⟩⟩⟩⟩:=h;have p0:c0=[.int .i64 a0]:=p0; subst p0;have p1:c1=[.int .i64 a1]:=p1; subst p1;have p2:c2=[.int .i64 a2]:=p2; subst p2;have p3:c3=[.int .i64 a3.Lo,.int .i64 a3.Hi]:=p3; subst p3;have p4:c4=[.int .i64 a4.Lo,.int .i64 a4.Hi]:=p4; subst p4;have p5:c5=[.int .i64 a5.Lo,.int .i64 a5.Hi]:=p5; subst p5;subst h5 h4 h3 h2 h1 h0;exact⟨⟨a0,a1,a2,a3,a4,a5⟩,rfl,⟨k0,k1,k2,k3,k4,k5⟩⟩
theorem zEz:zrv prog 23 (List Fld) (fun l=>l.length≤maxLen∧∀a0∈l,zrN a0):=zrz (by kernel_rfl) (by kernel_rfl) zEy
theorem zEA:zrv prog 25 Cse zrP:=zrE (fs:=[(22,0),(3,1),(3,2),(23,3)]) (by kernel_rfl) (by kernel_rfl) (zrD (α:=List Tf) (ok:=(fun l=>l.length≤maxLen∧∀a0∈l,zrK a0)) (k:=1) zEw (by kernel_rfl) rfl (zrD (α:=Int) (ok:=zl0 .i64) (k:=1) op3 (by kernel_rfl) rfl (zrD (α:=Int) (ok:=zl0 .i64) (k:=1) op3 (by kernel_rfl) rfl (zrD (α:=List Fld) (ok:=(fun l=>l.length≤maxLen∧∀a0∈l,zrN a0)) (k:=1) zEz (by kernel_rfl) rfl zrC)))) (by kernel_rfl) fun m vs h=>by
 obtain⟨a0,c0,r0,m0,h0,p0,k0,s0,⟨a1,c1,r1,m1,h1,p1,k1,s1,⟨a2,c2,r2,m2,h2,p2,k2,s2,⟨a3,c3,r3,m3,h3,p3,k3,s3,rfl⟩⟩⟩⟩:=h;obtain⟨d0,rfl,p0⟩:=p0;have p1:c1=[.int .i64 a1]:=p1; subst p1;have p2:c2=[.int .i64 a2]:=p2; subst p2;obtain⟨d3,rfl,p3⟩:=p3;subst h3 h2 h1 h0;exact⟨⟨a0,a1,a2,a3⟩,⟨_,_,rfl,p0,p3⟩,⟨k0,k1,k2,k3⟩⟩
theorem op5:zrv prog 5 W8 zrG:=fun H enc W held n cs x hx e m hl=>by
 obtain⟨i,rfl,_,hw⟩:=DataW.trod_int (show prog.underlying 5=some (.int .u8) by kernel_rfl) hx;exact⟨e,m,[.int .u8 i],⟨i⟩,.refl _,.refl _,hl,.cons rfl .nil,rfl,zqp hw⟩
theorem zEB:zrv prog 81 (List W8) (fun l=>l.length≤maxLen∧∀a0∈l,zrG a0):=zrz (by kernel_rfl) (by kernel_rfl) op5
theorem zEC:laidOutB prog=true:=by kernel_rfl
theorem zED:ownKnob prog.godebug=none:=by kernel_rfl
theorem zEE(os:Os)(started:os.Started)(H:Type)(enc:TypeId × Value→H) :
    ReturnsInHanded {} Tryz.checked os 7 .any (Rows.umpireTruthSpec.pre6 enc Tryz.prog Tryz.f7 Rows.umpireTruthRow.domain false) (Rows.umpireTruthSpec.post enc Tryz.prog Tryz.f7 false true false false):=by
  refine returnsInHanded_of_change (C:=Tryz.checked) zED started (by kernel_rfl) Tryz.func7
    (ChangeSpec.witness6 (enc:=enc) (C:=Tryz.checked) false ⟨#[],#[.agg #[.slice none 0 0,.int .i64 0,.int .i64 0,.slice none 0 0],.slice none 0 0],[]⟩ 8 (by kernel_rfl) (by kernel_rfl) (by kernel_rfl) (by kernel_rfl)) ?_
  intro W base args ds gs before hval0 hW hcnd _;have hval:∀(j:Nat) t v,Tryz.f7.params[j]? = some t→args[j]? = some v→Value.okWide Tryz.prog W .any base t v:=hval0;have hW':=hW;obtain⟨p,q,hA0,hV,rfl,hfz,hnd⟩:=hW;have hA:DataW.TrodAll enc Tryz.prog W 0 (fun _=>true) true Tryz.f7.params.toList args.toList ds p:=hA0;rw[Tryz.params7] at hA hval;obtain⟨v0,v1,d0,d1,p0,p1,rfl,rfl,rfl,h0,h1⟩:=trodAll_two hA;obtain⟨rfl,rfl⟩:=trodVars_none hV;obtain⟨a1,len1,cap1,hv1⟩:=okWide_slice Tryz.underlying81 (hval 1 81 v1 rfl rfl)
  have hlt:∀x∈p0++p1,x.block < W.heap.size:=fun x hx=>by simpa using hW'.lt x (by simpa using hx)
  obtain⟨fu0,hf0⟩:=id h0;obtain⟨fu1,hf1⟩:=id h1
  clear hA0 hval0
  obtain⟨e0,m0,w0,a_0,le0,sv0,lay0,cr0,rep0,ok0⟩:=zEA H enc W true _ _ _ hf0 _ _ (Lay.nil W);obtain⟨e1,m1,w1,a_1,le1,sv1,lay1,cr1,rep1,ok1⟩:=zEB H enc W true _ _ _ hf1 e0 m0 lay0;obtain⟨c0_0,c0_3,rfl,g0_0,g0_3⟩:=rep0
  obtain⟨cs0,hv0,cl0⟩:∃cs,v0=.agg cs∧v0.cells.toList=cs.toList:=by
    have hl:=cr0.length
    cases v0 with
    | agg cs=>exact⟨cs,rfl,rfl⟩
    | _=>exact absurd hl (by simp[Value.cells])
  subst hv0;subst hv1;obtain⟨c1,rfl,rep1⟩:=rep1
  have cv1:CR e1 c1 (.slice a1 len1 cap1):=by
    cases cr1 with
    | cons h _=>exact h
  have hargs:zen (VR e1) [.agg 4 [c0_0,.int .i64 a_0.Day,.int .i64 a_0.Fee,c0_3],.c c1] [.agg cs0,.slice a1 len1 cap1]:=.cons ⟨cs0,rfl,(cr0.mono fun _ _=>CR.mono le1),rfl⟩ (.cons cv1 .nil);refine(callsIn_wide.1 (zqr fits htab (zBg (c:=a_0) (words:=a_1) lay1.pre (g0_0.subv sv1) (g0_3.subv sv1) rep1 (zEr ok0 ok1) (Q:=fun v _=>v=.c (.bool true)) fun _ _=>rfl) lay1.hr (args':=#[.agg cs0,.slice a1 len1 cap1]) hargs 0)).mono fun en W' hp=>?_;obtain⟨v,v',e',m',rfl,hst,hvr,rfl⟩:=hp;have hv':v'=.bool true:=hvr;subst hv';have hbelow:=lay1.below hst
  refine⟨_,rfl,[d0,d1],[],p0++p1,[],p0++p1,[],by simpa using hW',trodAll_mk1 (shut_bool Tryz.underlying4 _),
    trodAll_mk2 (Below.trod zEC (by kernel_rfl) (of_decide_eq_true (by kernel_rfl)) h0 hbelow fun x hx=>hlt x (by simp[hx])) (Below.trod zEC (by kernel_rfl) (of_decide_eq_true (by kernel_rfl)) h1 hbelow fun x hx=>hlt x (by simp[hx])),rfl,lay1.kept hst _,fun hc=>by cases hc⟩
theorem UmpireTruth_holds:Rows.UmpireTruthSaid:=
 OpenClaim.holds_of_wide 7 Tryz.f7 rfl rfl rfl rfl rfl rfl rfl ⟨rfl,rfl,rfl,rfl,rfl⟩ rfl rfl rfl rfl rfl (by kernel_rfl) Tryz.func7 (by kernel_rfl)
  (of_decide_eq_true (by kernel_rfl)) (by unfold Func.isWrapper; first | (rw[if_pos (by decide +kernel)]; kernel_rfl) | (rw[if_neg (by decide +kernel)]; exact⟨rfl,rfl⟩))
  (fun os started H enc _=>zEE os started H enc)
end Go.Proofs.YteojndcmgpiklaaGreat

