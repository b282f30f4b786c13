/- TariffParts, for all that it can be called with, returns true. Condition: none. -/
import Derived.Test.YtbkokcbnbmhaoaaTaG
import GoSem.Step
import GoSem.ClaimKeys
import Derived.DeepKeys2
import Derived.RangeFuncLeaves
import Derived.OrdersIn
import Derived.Laws.World
import Derived.Laws.Sem
import Derived.RangeFuncRecord
import Derived.Laws.CopyRow
import Derived.Laws.Append
import Derived.Laws.Rows
import Derived.Laws.Slices
import Derived.Laws.Entries
import Derived.ChangeKeysEq
import Derived.IntWalk
import Derived.DeepKeys
import Derived.DeepKeys3
import Derived.Laws.StructEq
import Derived.MapKept
import Derived.Laws.AppendOwn
import Derived.ChangeArms
import Derived.ChangeOld
import Derived.Carry
import Derived.ChangeShapes
import Derived.KernelRfl
import Derived.ProofKit
import Derived.Test.YtbkokcbnbmhaoaaRows

namespace Go.Proofs.Ytbkokcbnbmhaoaa
open _root_.Go.Proofs.Try
open Go.Abs
set_option maxRecDepth 100000
noncomputable section
theorem zwt{t:Tf}:Ev (zs7 t) (zvM t):=by
 unfold zs7 zvM
 by_cases h1:(4:Int) < (t.Weeks.length:Int)
 ·rw[if_pos h1]; exact Ev.tt (.inl (by omega))
 ·rw[if_neg h1]
  by_cases h2:(5:Int) < (t.Counts.length:Int)
  ·rw[if_pos h2]; exact Ev.tt (.inr (.inl (by omega)))
  ·rw[if_neg h2]; exact Ev.dec (by omega)
theorem zwu{l:List Tf}:Ev (ztI l) (zvN l):=by
 unfold ztI zvN
 by_cases h1:(3:Int) < (l.length:Int)
 ·rw[if_pos h1]; exact Ev.tt (.inl (by omega))
 ·rw[if_neg h1];exact(zwg (fun _ _=>zwt) (zwh (n:=3) (by omega) (by omega))).ret.imp ⟨fun h=>.inr h,fun h=>h.elim (fun h=>by omega) id⟩
theorem zwv{l:List Tf}(hl:zv2 l):zs4 l=some (l.map (·.From)):=by
 unfold zv2 at hl
 exact zsj (l:=l) (F:=zs3 l) (fun t:Tf=>t.From) some (fun d k acc a ha hac=>by
  have hk:=(List.getElem?_eq_some_iff.1 ha).1
  rw[zs3,if_pos (by omega),zsc ha,obs,zrt (show acc.length < 1048576 by omega),zrt (fI (by omega))]) (fun d acc=>by rw[zs3,if_neg (Int.lt_irrefl _)]) (by omega)
theorem zww{l:List Tf}(h:l ≠ []):∃t,l[0]? = some t/\zvL l=t.Rates.length:=by
 cases l with
 | nil=>exact absurd rfl h
 | cons t l=>exact⟨t,rfl,rfl⟩
theorem zwx{l:List Tf}(h:l ≠ []){t:Tf}:Ev (zs5 l t) (t.Rates.length=zvL l):=by
 obtain⟨u,h1,h2⟩:=zww h;exact Ev.bind (zsf h1) (Ev.dec (by rw[h2]; exact Int.ofNat_inj))
theorem zwy{l:List Tf}(h:¬ zvN l):l.length<=3/\∀t∈l,¬ zvM t:=by
 unfold zvN at h
 exact⟨by rcases Nat.lt_or_ge 3 l.length with h1 | h1; exact absurd (.inl h1) h; exact h1,fun t ht h1=>h (.inr ⟨t,ht,h1⟩)⟩
theorem zwz{l:List Tf}(h:¬ zvN l):Ev (ztJ l) (VL l):=by
 obtain⟨h3,ht⟩:=zwy h;have hs:zv2 l:=zwh h3 (by omega)
 have key:Ev (ztJ l) ((∀t∈l,VT t)/\((l.map (·.From)).Pairwise (· < ·)/\(l.map (·.From)).head? = some 0)/\∀t∈l,t.Rates.length=zvL l):=by
  refine Ev.and (zwc (fun t h'=>zwm (ht t h')) hs) fun _=>Ev.bind (zwv hs) (Ev.and (zv9 (by unfold zv2; rw[List.length_map]; exact hs)) fun hr=>(zwc (fun t _=>zwx (fun e=>by rw[e] at hr; cases hr.2)) hs).ret)
 exact key.imp ⟨fun⟨h1,h2,h4⟩=>⟨fun e=>(by rw[e] at h2; cases h2.2),h1,h2.1,h2.2,h4⟩,fun h=>⟨h.vt,⟨h.pw,h.hd⟩,h.crp⟩⟩
theorem zwA{l:List Tf}:ztK l=some (zvO l):=by
 unfold ztK;refine zwu.pick (fun h=>?_) fun h=>?_
 ·rw[if_pos rfl]; unfold zvO; rw[if_pos h]
 ·rw[if_neg (by simp)];refine(zwz h).pick (fun hv=>?_) fun hv=>?_
  ·rw[if_pos rfl]; unfold zvO; rw[if_neg h,if_pos hv]
  ·rw[if_neg (by simp)]; unfold zvO; rw[if_neg h,if_neg hv]
def zlq(l:List Tf)(j:Nat)(t:Tf):Prop:=VT t/\t.Rates.length=zvL l/\(j=0->t.From=0)/\(0 < j->∀u,l[j - 1]? = some u->u.From < t.From)
theorem zwB{l:List Tf}(h:¬ zvN l)(hne:l ≠ []):((∀j,j < l.length->∀t,l[j]? = some t->zlq l j t)->zsF l (l.length+1) 0=some 0)/\(¬ (∀j,j < l.length->∀t,l[j]? = some t->zlq l j t)->zsF l (l.length+1) 0=some 1):=by
 obtain⟨h3,ht⟩:=zwy h;obtain⟨u0,hu0,hcr⟩:=zww hne;refine zsh (F:=zsF l) (fun d k hk=>?_) (fun d=>by rw[zsF,if_neg (Int.lt_irrefl _),if_neg (by have:=List.length_pos_iff.2 hne; omega)]) (Nat.lt_succ_self _);have hg:=List.getElem?_eq_getElem hk;generalize l[k]=t at hg;have hT:=zws (ht t (List.mem_of_getElem? hg));have hgo:∀{P:Prop},(∀t',l[k]? = some t'->P)->P:=fun f=>f _ hg;rw[zsF,if_pos (by omega),zsc hg,obs];have zwH:∀{P:Tf->Prop},(∀t',l[k]? = some t'->P t')↔P t:=⟨fun f=>f _ hg,fun f t' ht'=>by rw[hg] at ht'; cases ht'; exact f⟩;rw[zwH];have done:∀{o:Option Int},(VT t->t.Rates.length=zvL l->(k=0->t.From=0)->(0 < k->∀u,l[k - 1]? = some u->u.From < t.From)->o=zsF l d ((k:Int)+1))->(¬ zlq l k t->o=some 1)->(zlq l k t->o=zsF l d ((k:Int)+1))/\(¬ zlq l k t->o=some 1):=fun a b=>⟨fun h=>a h.1 h.2.1 h.2.2.1 h.2.2.2,b⟩;obtain⟨b,hb,hb2⟩:=hT;rw[hb,obs]
 cases b with
 | false=>rw[if_neg (by simp)]; exact⟨fun h=>(by have:=hb2.2 h.1; cases this),fun _=>rfl⟩
 | true=>
  have hv:=hb2.1 rfl;rw[if_pos rfl,obs,zsf hu0,obs]
  by_cases hr:t.Rates.length=u0.Rates.length
  ·rw[if_pos (by omega)]
   have hr':t.Rates.length=zvL l:=by omega
   by_cases h0:k=0
   ·rw[if_pos (by omega),obs]
    by_cases hf:t.From=0
    ·rw[if_pos hf,if_neg (by omega),zrt (fI (by omega))];exact⟨fun _=>rfl,fun hn=>absurd ⟨hv,hr',fun _=>hf,fun h'=>by omega⟩ hn⟩
    ·rw[if_neg hf];exact⟨fun h'=>absurd (h'.2.2.1 h0) hf,fun _=>rfl⟩
   ·rw[if_neg (by omega),if_pos (by omega),obs,zrt (fI (by omega))]
    have hp:k - 1 < l.length:=by omega
    have hgp:=List.getElem?_eq_getElem hp;generalize l[k - 1]=u at hgp;rw[zse (by omega) hgp,obs]
    by_cases hle:t.From<=u.From
    ·rw[if_pos hle];exact⟨fun h'=>by have:=h'.2.2.2 (by omega) u hgp; omega,fun _=>rfl⟩
    ·rw[if_neg hle,zrt (fI (by omega))];exact⟨fun _=>rfl,fun hn=>absurd ⟨hv,hr',fun h'=>absurd h' h0,fun _ u' hu'=>by rw[hgp] at hu'; cases hu'; omega⟩ hn⟩
  ·rw[if_neg (by omega)];exact⟨fun h'=>by have:=h'.2.1; omega,fun _=>rfl⟩
theorem zwC{l:List Tf}(hne:l ≠ []):(∀j,j < l.length->∀t,l[j]? = some t->zlq l j t)↔VL l:=by
 have hm:∀j t,l[j]? = some t->nth (l.map (·.From)) j=t.From:=fun j t h=>zvF (by rw[List.getElem?_map,h]; rfl)
 constructor
 ·intro h;refine⟨hne,fun t ht=>?_,zv5 fun j h0 hj=>?_,?_,fun t ht=>?_⟩
  ·obtain⟨i,hi⟩:=List.mem_iff_getElem?.1 ht;exact(h i (List.getElem?_eq_some_iff.1 hi).1 t hi).1
  ·rw[List.length_map] at hj;have h1:=List.getElem?_eq_getElem hj;have h2:=List.getElem?_eq_getElem (show j - 1 < l.length by omega);rw[hm _ _ h1,hm _ _ h2];exact(h j hj _ h1).2.2.2 h0 _ h2
  ·obtain⟨t,h1,_⟩:=zww hne;have:=(h 0 (List.getElem?_eq_some_iff.1 h1).1 t h1).2.2.1 rfl
   cases l with
   | nil=>cases h1
   | cons a l=>cases h1; simp[this]
  ·obtain⟨i,hi⟩:=List.mem_iff_getElem?.1 ht;exact(h i (List.getElem?_eq_some_iff.1 hi).1 t hi).2.1
 ·intro h j hj t ht;refine⟨h.vt t (List.mem_of_getElem? ht),h.crp t (List.mem_of_getElem? ht),fun h0=>?_,fun h0 u hu=>?_⟩
  ·subst h0;have:=h.hd
   cases l with
   | nil=>cases ht
   | cons a l=>cases ht; simpa using this
  ·have:=zv6.2 h.pw j h0 (by rw[List.length_map]; exact hj)
   rwa [hm _ _ ht,hm _ _ hu] at this
theorem zwD{l:List Tf}:zsH l=some (zvO l):=by
 unfold zsH
 by_cases h1:(3:Int) < (l.length:Int)
 ·rw[if_pos h1]; unfold zvO; rw[if_pos (.inl (by omega))]
 ·rw[if_neg h1]
  have key:=zsh (n:=l.length) (F:=fun d x=>zsG l d 0 x) (ok:=fun j=>∀t,l[j]? = some t->¬ zvM t) (bad:=some 3) (fin:=zsF l (l.length+1) 0) (fun d k hk=>by
   have hg:=List.getElem?_eq_getElem hk;generalize l[k]=t at hg;have zwH:(∀t',l[k]? = some t'->¬ zvM t')↔¬ zvM t:=⟨fun f=>f _ hg,fun f t' ht'=>by rw[hg] at ht'; cases ht'; exact f⟩;rw[zwH,zsG,if_pos (by omega),zsc hg,obs];unfold zvM
   by_cases h4:(4:Int) < (t.Weeks.length:Int)
   ·rw[if_pos h4]; exact⟨fun h=>by omega,fun _=>rfl⟩
   ·rw[if_neg h4,obs]
    by_cases h5:(5:Int) < (t.Counts.length:Int)
    ·rw[if_pos h5]; exact⟨fun h=>by omega,fun _=>rfl⟩
    ·rw[if_neg h5,obs]
     by_cases h6:(3:Int) < (t.Rates.length:Int)
     ·rw[if_pos h6]; exact⟨fun h=>by omega,fun _=>rfl⟩
     ·rw[if_neg h6,zrt (fI (by omega))]; exact⟨fun _=>rfl,fun h=>by omega⟩) (fun d=>by rw[zsG,if_neg (Int.lt_irrefl _)]) (d:=l.length+1) (by omega)
  rw[zwp (P:=fun t=>¬ zvM t)] at key
  by_cases hm:zvN l
  ·unfold zvO;rw[if_pos hm];refine key.2 fun hh=>?_
   rcases hm with hm | ⟨t,ht,hm⟩
   ·omega
   ·exact hh t ht hm
  ·refine(key.1 (zwy hm).2).trans ?_;unfold zvO;rw[if_neg hm]
   by_cases hne:l=[]
   ·subst hne;rw[if_neg fun h=>h.ne rfl]
    rfl
   ·obtain⟨q1,q2⟩:=zwB hm hne;rw[zwC hne] at q1 q2
    by_cases hv:VL l
    ·rw[if_pos hv,q1 hv]
    ·rw[if_neg hv,q2 hv]
theorem zwE{l:List Tf}:zsU l=some (zvO l):=by unfold zsU; rw[zwD]; rfl
structure zwF (t:Tf):Prop where
 w:t.Weeks.length<=7
 c:t.Counts.length<=7
 r:t.Rates.length<=5
 rr:∀c∈t.Rates,c.length<=7/\∀w∈c,w.length<=7
def zwG(l:List Tf):Prop:=l.length<=5/\∀t∈l,zwF t
theorem zwH{α:Type}{l:List α}{k:Nat}{a:α}(h:l[k]? = some a){P:α->Prop}:(∀x,l[k]? = some x->P x)↔P a:=⟨fun f=>f _ h,fun f x hx=>by rw[h] at hx; cases hx; exact f⟩
theorem zwI{l:List Tf}{i c:Nat}{t:Tf}{wks:List (List Int)}(hi:l[i]? = some t)(hc:t.Rates[c]? = some wks)(h7:wks.length<=7)(h5:c < 5){K:Bool->Int->Option Bool}{b:Bool} :
  ((∀w∈wks,w.length<=7)->zsQ l (i:Int) (c:Int) K 1000000 b 0=K b ((c:Int)+1))/\(¬ (∀w∈wks,w.length<=7)->zsQ l (i:Int) (c:Int) K 1000000 b 0=some false):=by
 have key:=zsh (n:=wks.length) (F:=fun d x=>zsQ l (i:Int) (c:Int) K d b x) (ok:=fun j=>∀w,wks[j]? = some w->w.length<=7) (bad:=some false) (fin:=K b ((c:Int)+1)) (fun d k hk=>by
  have hg:=List.getElem?_eq_getElem hk;generalize wks[k]=w at hg;rw[zwH hg (P:=fun w=>w.length<=7),zsQ,zsc hi,obs,zsc hc,obs,if_pos (by omega),obs,zsc hc,obs,zsc hg,obs]
  by_cases h:(7:Int) < (w.length:Int)
  ·rw[if_pos h]; exact⟨fun h=>by omega,fun _=>rfl⟩
  ·rw[if_neg h,zrt (fI (by omega))]; exact⟨fun _=>rfl,fun h=>by omega⟩) (fun d=>by rw[zsQ,zsc hi,obs,zsc hc,obs,if_neg (Int.lt_irrefl _),zrt (fI (by omega))]) (d:=1000000) (by omega)
 rw[zwp (l:=wks) (P:=fun w:List Int=>w.length<=7)] at key;exact key
theorem zwJ{l:List Tf}{i:Nat}{t:Tf}(hi:l[i]? = some t)(h5:t.Rates.length<=5)(hi5:i < 5){K:Bool->Int->Option Bool}{b:Bool} :
  ((∀c∈t.Rates,c.length<=7/\∀w∈c,w.length<=7)->zsR l (i:Int) K 1000000 b 0=K b ((i:Int)+1))/\(¬ (∀c∈t.Rates,c.length<=7/\∀w∈c,w.length<=7)->zsR l (i:Int) K 1000000 b 0=some false):=by
 have key:=zsh (n:=t.Rates.length) (F:=fun d x=>zsR l (i:Int) K d b x) (ok:=fun j=>∀c,t.Rates[j]? = some c->c.length<=7/\∀w∈c,w.length<=7) (bad:=some false) (fin:=K b ((i:Int)+1)) (fun d k hk=>by
  have hg:=List.getElem?_eq_getElem hk;generalize t.Rates[k]=c at hg;rw[zwH hg (P:=fun c=>c.length<=7/\∀w∈c,w.length<=7),zsR,zsc hi,obs,if_pos (by omega),obs,zsc hg,obs]
  by_cases h:(7:Int) < (c.length:Int)
  ·rw[if_pos h]; exact⟨fun h=>by omega,fun _=>rfl⟩
  ·rw[if_neg h];obtain⟨q1,q2⟩:=zwI (K:=zsR l (i:Int) K d) (b:=b) hi hg (by omega) (by omega)
   exact⟨fun h'=>q1 h'.2,fun h'=>q2 fun h2=>h' ⟨by omega,h2⟩⟩) (fun d=>by rw[zsR,zsc hi,obs,if_neg (Int.lt_irrefl _),zrt (fI (by omega))]) (d:=1000000) (by omega)
 rw[zwp (l:=t.Rates) (P:=fun c:List (List Int)=>c.length<=7/\∀w∈c,w.length<=7)] at key;exact key
theorem zwK{l:List Tf}:Ev (zsT l) (zwG l):=by
 unfold zsT zwG;refine(Ev.itn (p:=(5:Int) < (l.length:Int)) (K:=∀t∈l,zwF t) fun h5=>?_).imp (and_congr (by omega) Iff.rfl)
 have key:=Ev.loop (n:=l.length) (F:=fun d x=>zsS l d false x) (ok:=fun j=>∀t,l[j]? = some t->zwF t) (fin:=some true) (P:=True) (fun d k hk=>by
  have hg:=List.getElem?_eq_getElem hk;generalize l[k]=t at hg;rw[zwH hg (P:=zwF),zsS,if_pos (by omega),zsc hg,obs]
  by_cases h1:(7:Int) < (t.Weeks.length:Int)
  ·rw[if_pos h1]; exact⟨fun h=>by have:=h.w; omega,fun _=>rfl⟩
  ·rw[if_neg h1,obs]
   by_cases h2:(7:Int) < (t.Counts.length:Int)
   ·rw[if_pos h2]; exact⟨fun h=>by have:=h.c; omega,fun _=>rfl⟩
   ·rw[if_neg h2,obs]
    by_cases h3:(5:Int) < (t.Rates.length:Int)
    ·rw[if_pos h3]; exact⟨fun h=>by have:=h.r; omega,fun _=>rfl⟩
    ·rw[if_neg h3];obtain⟨q1,q2⟩:=zwJ (K:=zsS l d) (b:=false) hg (by omega) (by omega)
     exact⟨fun h=>q1 h.rr,fun h=>q2 fun h'=>h ⟨by omega,by omega,by omega,h'⟩⟩) (fun d=>by rw[zsS,if_neg (Int.lt_irrefl _)]) (d:=l.length+1) (by omega) fun _=>Ev.tt trivial
 exact key.imp ⟨fun h=>zwp.1 h.1,fun h=>⟨zwp.2 h,trivial⟩⟩
theorem zwL{l:List Int}(h:l.length<=1048576):zsP l=some l:=by unfold zsP; rw[zrt (by simp; omega)]; simp
theorem zwM{l:List Tf}{i c:Nat}{t:Tf}{wks:List (List Int)}(hi:l[i]? = some t)(hc:t.Rates[c]? = some wks)(h7:wks.length<=7)(hw:∀w∈wks,w.length<=7)(h5:c < 5){a1:Int}{a2:Bool}{a3:Int}{a4:List (List (List Int))}(h4:a4.length < 5){K:Int->Bool->Int->List (List (List Int))->Int->Option (List Tf)} :
  ztQ l (i:Int) a1 a2 a3 a4 (c:Int) K 1000000 [] 0=K a1 a2 a3 (a4++[wks]) ((c:Int)+1):=by
 have key:=zsj (l:=wks) (fun w=>w) (F:=fun d acc x=>ztQ l (i:Int) a1 a2 a3 a4 (c:Int) K d acc x) (fun acc=>K a1 a2 a3 (a4++[acc]) ((c:Int)+1)) (fun d k acc a ha hac=>by
  have hk:=(List.getElem?_eq_some_iff.1 ha).1;have hs:=hw a (List.mem_of_getElem? ha)
  rw[ztQ,zsc hi,obs,zsc hc,obs,if_pos (by omega),obs,zsc hc,obs,zsc ha,obs,zwL (by omega),obs,zrt (show acc.length < 1048576 by omega),zrt (fI (by omega))]) (fun d acc=>by
  rw[ztQ,zsc hi,obs,zsc hc,obs,if_neg (Int.lt_irrefl _),zrt (show a4.length < 1048576 by omega),zrt (fI (by omega))]) (d:=1000000) (by omega)
 rw[List.map_id'] at key;exact key
theorem zwN{l out:List Tf}{i:Nat}{t:Tf}(hi:l[i]? = some t)(ht:zwF t)(hi5:i < 5)(ho:out.length < 5){r1 r2:List Int}{a1:Int}{a2:Bool}{a3:Int}{K:List Tf->Int->Option (List Tf)} :
  ztR l out (i:Int) r1 r2 K 1000000 a1 a2 a3 [] 0=K (out++[⟨a1,a2,a3,r1,r2,t.Rates⟩]) ((i:Int)+1):=by
 have hr:=ht.r
 have key:=zsj (l:=t.Rates) (fun w=>w) (F:=fun d acc x=>ztR l out (i:Int) r1 r2 K d a1 a2 a3 acc x) (fun acc=>K (out++[⟨a1,a2,a3,r1,r2,acc⟩]) ((i:Int)+1)) (fun d k acc a ha hac=>by
  have hk:=(List.getElem?_eq_some_iff.1 ha).1;obtain⟨q1,q2⟩:=ht.rr a (List.mem_of_getElem? ha)
  rw[ztR,zsc hi,obs,if_pos (by omega),zwM hi ha q1 q2 (by omega) (by omega)]) (fun d acc=>by
  rw[ztR,zsc hi,obs,if_neg (Int.lt_irrefl _),zrt (show out.length < 1048576 by omega),zrt (fI (by omega))]) (d:=1000000) (by omega)
 rw[List.map_id'] at key;exact key
theorem zwO{l:List Tf}(h:zwG l):ztT l=some l:=by
 obtain⟨h5,ht⟩:=h
 have key:=zsj (l:=l) (fun w=>w) (F:=ztS l) some (fun d k acc a ha hac=>by
  have hk:=(List.getElem?_eq_some_iff.1 ha).1;have hT:=ht a (List.mem_of_getElem? ha);have h1:=hT.w;have h2:=hT.c;rw[ztS,if_pos (by omega),zsc ha]
  simp only[obs]
  rw[zwL (by omega),obs,zwL (by omega),obs,zwN ha hT (by omega) (by omega)]) (fun d acc=>by rw[ztS,if_neg (Int.lt_irrefl _)]) (d:=l.length+1) (by omega)
 rw[List.map_id'] at key;exact key
theorem zwP{l:List Int}{n:Int}(hl:l.length<=1000):∀d (k:Nat),k < l.length->l.length - k<=d->zsI l n d (k:Int)=some (((k+lastN (l.drop k) n:Nat):Int))
 | 0,k,hk,h=>by omega
 | d+1,k,hk,h=>by
  rw[zsI,zrt (fI (by omega))]
  by_cases h1:k+1 < l.length
  ·have e1:=List.getElem?_eq_getElem h1;rw[if_pos (by omega),zrt (fI (by omega)),show(k:Int)+1=((k+1:Nat):Int) by omega,zsc e1,obs]
   have hd:l.drop k=l[k]::l[k+1]::l.drop (k+2):=by rw[List.drop_eq_getElem_cons hk,List.drop_eq_getElem_cons h1]
   have hd1:l.drop (k+1)=l[k+1]::l.drop (k+2):=List.drop_eq_getElem_cons h1
   by_cases hle:l[k+1]<=n
   ·rw[if_pos hle,zrt (fI (by omega)),zwP hl d (k+1) h1 (by omega),hd,lastN,if_pos hle,hd1]
    congr 2; omega
   ·rw[if_neg hle,hd,lastN,if_neg hle]; rfl
  ·rw[if_neg (by omega)]
   have hd:l.drop k=[l[k]]:=by rw[List.drop_eq_getElem_cons hk,List.drop_eq_nil_of_le (by omega)]
   rw[hd]; rfl
theorem zwQ{l:List Int}{n:Int}(hl:l.length<=1000)(hne:l ≠ []):zsJ l n=some (lastN l n:Int):=by
 have hlen:=List.length_pos_iff.2 hne;have h:=zwP (n:=n) hl 1000000 0 hlen (by omega);rw[List.drop_zero,Nat.zero_add] at h;exact h
theorem zwR{l:List Tf}(h:VL l)(hl:l.length<=3)(d:Int):zsL l d=some (ofN l d):=by
 have hne:l.map (·.From) ≠ []:=fun e=>h.ne (List.map_eq_nil_iff.1 e);obtain⟨h1,_⟩:=h.of d
 refine(zsj (l:=l) (fun t:Tf=>t.From) (F:=zsK l d) (fun acc=>((zsJ acc d).bind fun r=>(idx l r).bind fun v=>some v)) (fun d k acc a ha hac=>by
  have hk:=(List.getElem?_eq_some_iff.1 ha).1
  rw[zsK,if_pos (by omega),zsc ha,obs,zrt (show acc.length < 1048576 by omega),zrt (fI (by omega))]) (fun d acc=>by rw[zsK,if_neg (Int.lt_irrefl _)]) (d:=l.length+1) (by omega)).trans ?_
 rw[zwQ (by rw[List.length_map]; omega) hne,obs,zsc h1,obs]
theorem zwS{x y:Int}(hx:0<=x/\x<=100)(hy:0<=y/\y<=100):0<=x * y/\x * y<=10000:=by
 refine⟨Int.mul_nonneg hx.1 hy.1,?_⟩;have h1:x * y<=100 * y:=Int.mul_le_mul_of_nonneg_right hx.2 hy.1
 omega
theorem zwT{a b x y n:Int}(h1:0<=a/\a<=n)(h2:n<=b/\b<=100)(hab:a < b)(hx:0<=x/\x<=100)(hy:0<=y/\y<=100):0<=zvH a b x y n/\zvH a b x y n<=100:=
 ⟨zvK h1.2 h2.1 hab (Int.le_refl _) hx.1 hy.1,zvJ h1.2 h2.1 hab hx.1 hy.1 hx.2 hy.2⟩
theorem Cnt.rng{t:Tf}(h:VT t){i:Nat}(hi:i < t.Counts.length):0<=nth t.Counts i/\nth t.Counts i<=100:=h.cts.2.2 _ (List.mem_of_getElem? (zvG hi))
theorem zwU{t:Tf}(h:VT t)(hf:¬ zvM t){crop day n:Int}(h0:0<=crop)(h1:crop < t.Rates.length)(hn:0<=n)(h100:n<=100):zsM t crop day n=some (zvI t.Counts (zvQ t crop day) n):=by
 have hfew:=few hf;obtain⟨wks,q1,q2,q3⟩:=h.rates h0 h1 day;obtain⟨b1,b2⟩:=q3.btw hn h100;have hl:=q3.lt n
 have hlr:lastN t.Counts n < (zvQ t crop day).length:=by rw[q3.len]; exact hl
 have hi:=q3.at hl;unfold zsM;rw[show crop=((crop.toNat:Nat):Int) by omega,zsc q1,obs,zwQ (by omega) (zwi h.wks.2.1),obs,<- show crop=((crop.toNat:Nat):Int) by omega,zsc q2,obs,zwQ (by omega) h.cnt.ne,obs,zv3 hl,obs];unfold zvI
 dsimp only
 by_cases he:nth t.Counts (lastN t.Counts n)=n
 ·rw[if_pos he,if_pos he,zv3 hlr,obs]
 ·obtain⟨b3,b4⟩:=b2 he
  have hlr2:lastN t.Counts n+1 < (zvQ t crop day).length:=by rw[q3.len]; exact b3
  have hi2:=q3.at b3;have c1:=Cnt.rng h hl;have c2:=Cnt.rng h b3
  have hcast:((lastN t.Counts n:Nat):Int)+1=((lastN t.Counts n+1:Nat):Int):=by omega
  rw[if_neg he,if_neg he,zrt (fI (by omega)),hcast,zv3 b3,obs,zv3 hlr,obs,zv3 hlr2];have hline:=zwT ⟨c1.1,b1⟩ ⟨Int.le_of_lt b4,c2.2⟩ (by omega) hi hi2;unfold zvH at hline ⊢
  generalize nth t.Counts (lastN t.Counts n)=a at *
  generalize nth t.Counts (lastN t.Counts n+1)=b at *
  generalize nth (zvQ t crop day) (lastN t.Counts n)=x at *
  generalize nth (zvQ t crop day) (lastN t.Counts n+1)=y at *
  have p1:=zwS hi (show 0<=b - n/\b - n<=100 by omega);have p2:=zwS hi2 (show 0<=n - a/\n - a<=100 by omega);rw[zrt (fI (by omega)),zrt (by omega),zrt (by omega),zrt (fI (by omega)),zrt (fI (by omega)),obs,zrt (fI (by omega)),zrt (by omega),zrt (by omega),zrt (fI (by omega)),zrt (fI (by omega)),zrt (fI (by omega)),zrt (by omega),zrt (by omega),zrt (fI (by omega))]
theorem zwV{l:List Tf}(hf:zvO l=0){crop day n:Int}(h0:0<=crop)(h1:crop < zvL l)(hn:0<=n)(h100:n<=100):zsN l crop day n=some (zvT l crop day n):=by
 obtain⟨hm,hv⟩:=zvP.1 hf;obtain⟨h3,ht⟩:=zwy hm;have hT:=hv.vof day;obtain⟨r1,r2⟩:=(hv.rts h0 h1 day).loss_rng hn h100;have hls:=hT.lst;unfold zsN;rw[zwR hv h3,obs,zwU hT (ht _ (hv.of day).2) h0 (by rw[hv.cof]; exact h1) hn h100,obs];unfold zvT zvS zvR
 generalize zvI (ofN l day).Counts (zvQ (ofN l day) crop day) n=x at *
 generalize (ofN l day).Least=y at *
 by_cases h4:x < y
 ·rw[if_pos h4,if_pos h4]
 ·rw[if_neg h4,if_neg h4]
  by_cases h5:(ofN l day).Whole=true
  ·rw[if_pos h5,if_pos h5]
  ·rw[if_neg h5,if_neg h5,zrt (fI (by omega))]
theorem zwW{l:List Tf}(h:l ≠ []):zsO l=some (zvL l:Int):=by
 obtain⟨t,h1,h2⟩:=zww h;unfold zsO; rw[zsf h1,obs,h2]
theorem zwX{x:Int}:zs8 x=some false:=by unfold zs8; simp
theorem zwY{x:Int}:zs9 x=some false:=by unfold zs9; simp
theorem zwZ{x y:Int}:Ev (zta x y) (x < y):=by
 unfold zta;rw[zwX,obs,if_neg (by simp)];exact Ev.dec Iff.rfl
theorem fU{n:Int}(h:0<=n/\n < 18446744073709551616):zne .u64 n:=h
theorem zw0{l:List Int}(hp:l.Pairwise (· < ·)){i j:Nat}(hij:i<=j)(hj:j < l.length):nth l i<=nth l j:=by
 rcases Nat.lt_or_ge i j with h | h
 ·exact Int.le_of_lt (zvD hp (zvG (by omega)) (zvG hj) h)
 ·rw[show i=j by omega]; exact Int.le_refl _
theorem zw1{l:List Int}{x:Int}(hp:l.Pairwise (· < ·))(hl:l.length<=1048576):∀d (i j:Nat),i<=j->j<=l.length->j - i < d->(∀m,m < i->nth l m < x)->(∀m,j<=m->m < l.length->x<=nth l m) ->
  ∃(k:Nat) (f:Bool),ztb l x d (i:Int) (j:Int)=some ((k:Int),f)/\k<=l.length/\(∀m,m < k->nth l m < x)/\(∀m,k<=m->m < l.length->x<=nth l m)/\(f=true↔k < l.length/\nth l k=x)
 | 0,i,j,_,_,h,_,_=>by omega
 | d+1,i,j,hij,hj,h,hlo,hhi=>by
  rw[ztb]
  by_cases hlt:i < j
  ·have e1:znj .u64 ((i:Int)+(j:Int))=((i+j:Nat):Int):=by rw[wz (fU (by omega))]; omega
   have e2:((i+j:Nat):Int) / 2=(((i+j) / 2:Nat):Int):=by omega
   have hm:(i+j) / 2 < l.length:=by omega
   have e3:znj .i64 (((i+j) / 2:Nat):Int)=(((i+j) / 2:Nat):Int):=wz (fI (by omega));rw[if_pos (by omega),zrt (fI (by omega)),e1,zrt (by omega),zrt (by omega),zrt (by omega),e2,zrt (fU (by omega)),e3,zv3 hm,obs]
   generalize hmid:(i+j) / 2=md at *
   obtain⟨b,h1,h2⟩:=zwZ (x:=nth l md) (y:=x);rw[h1,obs]
   cases b with
   | true=>
    rw[if_pos rfl,zrt (fI (by omega)),show(md:Int)+1=((md+1:Nat):Int) by omega];have h3:=h2.1 rfl;exact zw1 hp hl d (md+1) j (by omega) hj (by omega) (fun m hm'=>by have:=zw0 hp (show m<=md by omega) hm; omega) hhi
   | false=>
    rw[if_neg (by simp)]
    have h3:x<=nth l md:=by
     rcases Int.lt_or_le (nth l md) x with h4 | h4
     ·have:=h2.2 h4; cases this
     ·exact h4
    exact zw1 hp hl d i md (by omega) (by omega) (by omega) hlo (fun m hm' hml=>by have:=zw0 hp hm' hml; omega)
  ·have hij':i=j:=by omega
   subst hij';rw[if_neg (Int.lt_irrefl _)]
   by_cases hil:i < l.length
   ·rw[if_pos (by omega),zv3 hil,obs]
    by_cases he:nth l i=x
    ·rw[if_pos he]; exact⟨i,true,rfl,hj,hlo,hhi,⟨fun _=>⟨hil,he⟩,fun _=>rfl⟩⟩
    ·rw[if_neg he,obs,zwY,obs,if_neg (by simp)];exact⟨i,false,rfl,hj,hlo,hhi,⟨fun h=>(by cases h),fun h=>absurd h.2 he⟩⟩
   ·rw[if_neg (by omega)];exact⟨i,false,rfl,hj,hlo,hhi,⟨fun h=>(by cases h),fun h=>absurd h.1 hil⟩⟩
theorem zw2{l:List Int}{x:Int}(hp:l.Pairwise (· < ·))(hl:l.length<=1048576) :
  ∃(k:Nat) (f:Bool),ztc l x=some ((k:Int),f)/\k<=l.length/\(∀m,m < k->nth l m < x)/\(∀m,k<=m->m < l.length->x<=nth l m)/\(f=true↔k < l.length/\nth l k=x):=
 zw1 hp hl (l.length+1) 0 l.length (Nat.zero_le _) (Nat.le_refl _) (by omega) (fun m h=>by omega) (fun m h1 h2=>by omega)
theorem zw3{l:List Int}{z:Int}(h:l.head? = some z):nth l 0=z/\0 < l.length:=by
 cases l with
 | nil=>cases h
 | cons a l=>cases h; exact⟨rfl,Nat.succ_pos _⟩
theorem zw4{l:List Int}{n:Int}(hp:l.Pairwise (· < ·))(hh:l.head? = some 0)(hl:l.length<=1000)(hn:0<=n/\n<=1000):ztd l n=some (lastN l n:Int):=by
 obtain⟨k,f,h1,h2,h3,h4,_⟩:=zw2 (x:=n+1) hp (by omega);obtain⟨e0,l0⟩:=zw3 hh
 have hk:0 < k:=by
  rcases Nat.eq_zero_or_pos k with h | h
  ·have:=h4 0 (by omega) l0; omega
  ·exact h
 have hu:lastN l n=k - 1:=zvE hp (by omega) (fun x hx=>by rw[<- zvF hx]; have:=h3 (k - 1) (by omega); omega) (fun x hx=>by
  have hlt:=(List.getElem?_eq_some_iff.1 hx).1
  rw[<- zvF hx]; have:=h4 (k - 1+1) (by omega) hlt; omega) (fun x hx=>by rw[hh] at hx; cases hx; exact hn.1)
 unfold ztd;rw[zrt (fI (by omega)),h1,obs,zrt (fI (by show _<=(k:Int) - 1/\_; omega)),hu]
 congr 1
 show(k:Int) - 1=_
 omega
theorem zw5{l:List Tf}(h:VL l)(hl:l.length<=3){d:Int}(hd:0<=d/\d<=120):zte l d=some (ofN l d):=by
 obtain⟨h1,_⟩:=h.of d;unfold zte;rw[zwv (zwh hl (by omega)),obs,zw4 h.pw h.hd (by rw[List.length_map]; omega) (by omega),obs,zsc h1,obs]
theorem zw6{t:Tf}(h:VT t)(hf:¬ zvM t){hh:Ht}(h0:0<=hh.crop)(h1:hh.crop < t.Rates.length)(hn:0<=hh.Count)(h100:hh.Count<=100)(hd:0<=hh.Day/\hh.Day<=120):zth t hh=some (zvI t.Counts (zvQ t hh.crop hh.Day) hh.Count):=by
 obtain⟨day,n,crop⟩:=hh
 dsimp only at h0 h1 hn h100 hd
 have hfew:=few hf;obtain⟨wks,q1,q2,q3⟩:=h.rates h0 h1 day;have hc:=h.cnt;obtain⟨b1,b2⟩:=q3.btw hn h100;obtain⟨k,f,k1,k2,k3,k4,k5⟩:=zw2 (x:=n) h.cts.1 (show t.Counts.length<=1048576 by omega);obtain⟨e0,l0⟩:=zw3 h.cts.2.1;unfold zth
 dsimp only
 rw[show idx t.Rates crop=idx t.Rates ((crop.toNat:Nat):Int) by rw[Int.toNat_of_nonneg h0],zsc q1,obs,zw4 h.wks.1 h.wks.2.1 (by omega) (by omega),obs,zsc q2,obs,k1,obs]
 dsimp only
 by_cases hfl:f=true
 ·obtain⟨c1,c2⟩:=k5.1 hfl
  have hu:lastN t.Counts n=k:=by rw[<- c2]; exact hc.last_at c1
  rw[if_pos hfl,zv3 (by rw[q3.len]; exact c1),obs];unfold zvI
  dsimp only
  rw[hu,if_pos c2]
 ·have hne:∀m,m < t.Counts.length->nth t.Counts m ≠ n:=fun m hm he=>by
   rcases Nat.lt_or_ge m k with h6 | h6
   ·have:=k3 m h6; omega
   ·rcases Nat.lt_or_ge k m with h7 | h7
    ·have h8:=k4 k (Nat.le_refl _) (by omega);have:=zvD h.cts.1 (zvG (show k < t.Counts.length by omega)) (zvG hm) h7
     omega
    ·have:m=k:=by omega
     subst this;exact hfl (k5.2 ⟨hm,he⟩)
  obtain⟨b3,b4⟩:=b2 (hne _ (hc.lt n))
  have hu:lastN t.Counts n+1=k:=by
   rcases Nat.lt_trichotomy (lastN t.Counts n+1) k with h6 | h6 | h6
   ·have:=k3 _ h6; omega
   ·exact h6
   ·have:=k4 (lastN t.Counts n) (by omega) (hc.lt n);have:=hne _ (hc.lt n)
    omega
  subst hu;have hl:=hc.lt n
  have hlr:lastN t.Counts n < (zvQ t crop day).length:=by rw[q3.len]; exact hl
  have hlr2:lastN t.Counts n+1 < (zvQ t crop day).length:=by rw[q3.len]; exact b3
  have hi:=q3.at hl;have hi2:=q3.at b3;have c1:=Cnt.rng h hl;have c2:=Cnt.rng h b3
  have hcast:((lastN t.Counts n+1:Nat):Int) - 1=((lastN t.Counts n:Nat):Int):=by omega
  rw[if_neg hfl,zrt (fI (by omega)),hcast,zv3 hl,obs,zv3 b3,obs,zrt (fI (by omega)),zv3 hlr,obs,zv3 hlr2];have hline:=zwT ⟨c1.1,b1⟩ ⟨Int.le_of_lt b4,c2.2⟩ (by omega) hi hi2;unfold zvI
  dsimp only
  rw[if_neg (hne _ hl)];unfold zvH at hline ⊢
  generalize nth t.Counts (lastN t.Counts n)=a at *
  generalize nth t.Counts (lastN t.Counts n+1)=b at *
  generalize nth (zvQ t crop day) (lastN t.Counts n)=x at *
  generalize nth (zvQ t crop day) (lastN t.Counts n+1)=y at *
  have p1:=zwS hi (show 0<=b - n/\b - n<=100 by omega);have p2:=zwS hi2 (show 0<=n - a/\n - a<=100 by omega);rw[zrt (fI (by omega)),zrt (by omega),zrt (by omega),zrt (fI (by omega)),obs,zrt (fI (by omega)),zrt (by omega),zrt (by omega),zrt (fI (by omega)),zrt (fI (by omega)),zrt (fI (by omega)),zrt (by omega),zrt (by omega),zrt (fI (by omega))]
theorem zw7{t:Tf}(h:VT t)(hf:¬ zvM t){hh:Ht}(h0:0<=hh.crop)(h1:hh.crop < t.Rates.length)(hn:0<=hh.Count)(h100:hh.Count<=100)(hd:0<=hh.Day/\hh.Day<=120):ztM t hh=some (zvS t hh.crop hh.Day hh.Count):=by
 obtain⟨_,_,_,q3⟩:=h.rates h0 h1 hh.Day;have hr:=q3.loss_rng hn h100;have hls:=h.lst;unfold ztM zvS zvR;rw[zw6 h hf h0 h1 hn h100 hd,obs]
 generalize zvI t.Counts (zvQ t hh.crop hh.Day) hh.Count=x at *
 by_cases h4:x < t.Least
 ·rw[if_pos h4,if_pos h4]
 ·rw[if_neg h4,if_neg h4];unfold ztL
  by_cases h5:t.Whole=true
  ·rw[if_pos h5,if_pos h5,obs]; rfl
  ·rw[if_neg h5,if_neg h5,obs]
   show Option.bind (ztg t x) _=_
   unfold ztg;rw[zrt (fI (by omega)),obs]
def zw8(l:List Tf)(M:Option (Ht->Option Int)):Prop:=∃f,M=some f/\∀h v,f h=some v->v=zvT l h.crop h.Day h.Count
structure zw9 (l:List Tf) (h:Ht):Prop where
 c:0<=h.crop/\h.crop < zvL l
 n:0<=h.Count/\h.Count<=100
 d:0<=h.Day/\h.Day<=120
theorem zxa{l:List Tf}(hf:zvO l=0):0 < zvL l/\zvL l<=3:=by
 obtain⟨hm,hv⟩:=zvP.1 hf;obtain⟨h3,ht⟩:=zwy hm;obtain⟨t,h1,h2⟩:=zww hv.ne;have hmem:=List.mem_of_getElem? h1;have:=few (ht t hmem);have:=List.length_pos_iff.2 (hv.vt t hmem).rne
 omega
theorem zxb{l:List Tf}(hf:zvO l=0){M:Option (Ht->Option Int)}(hM:zw8 l M){h:Ht}(hh:zw9 l h):∃M',ztO ⟨l,M⟩ h=some (zvT l h.crop h.Day h.Count,M')/\zw8 l M':=by
 obtain⟨hm,hv⟩:=zvP.1 hf;obtain⟨h3,ht⟩:=zwy hm;have hcr:=zxa hf;obtain⟨f,rfl,hf2⟩:=hM;have hc:=hh.c;have hn:=hh.n;have hd:=hh.d;unfold ztO;rw[zrt (show MK.fit h from ⟨fI (by omega),fI (by omega),fI (by omega),trivial⟩)]
 cases hg:zrM (some f) h with
 | some v=>
  rw[zrW rfl];have:v=_:=hf2 h v hg;subst this;exact⟨_,rfl,f,rfl,hf2⟩
 | none=>
  rw[zrV rfl,zw5 hv h3 hd,obs,zw7 (hv.vof _) (ht _ (hv.of _).2) hc.1 (by rw[hv.cof]; exact hc.2) hn.1 hn.2 hd,obs,zrt (show MK.fit h from ⟨fI (by omega),fI (by omega),fI (by omega),trivial⟩)];refine⟨_,rfl,_,rfl,fun k v hk=>?_⟩
  by_cases hkh:k=h
  ·subst hkh;rw[if_pos rfl] at hk;exact(oi hk).symm
  ·rw[if_neg hkh] at hk; exact hf2 k v hk
theorem zxc{l:List Tf}:zw8 l (some fun _=>none):=⟨_,rfl,fun _ _ h=>by cases h⟩
theorem zxd{l:List Tf}(hf:zvO l ≠ 0):ztN l=some (⟨[],none⟩,zvO l):=by unfold ztN; rw[zwA,obs,if_neg hf]
theorem zxe{l:List Tf}(hf:zvO l=0):ztN l=some (⟨l,some fun _=>none⟩,0):=by unfold ztN; rw[zwA,obs,if_pos hf]
theorem zxf{l:List Tf}(hf:zvO l=0){n:Int}:Ev (zs6 l n) (0<=n/\n < zvL l):=by
 obtain⟨hm,hv⟩:=zvP.1 hf;obtain⟨t,h1,h2⟩:=zww hv.ne;have:=zxa hf;refine Ev.bind (zsf h1) ?_;rw[<- h2];exact(zv1 (by omega)).ret
def InN(l:List Tf)(crop day count:Int):Prop:=(0<=crop/\crop < zvL l)/\(0<=day/\day<=120)/\(0<=count/\count<=100)
theorem zxg{l:List Tf}(hf:zvO l ≠ 0){c d n:Int}:ztP l c d n=some (0,zvO l):=by unfold ztP; rw[zxd hf,obs,if_neg hf]
theorem zxh{l:List Tf}(hf:zvO l=0){c d n:Int}(h:¬ InN l c d n):ztP l c d n=some (0,2):=by
 unfold ztP;rw[zxe hf,obs,if_pos rfl]
 refine(zxf hf).pick (fun h1=>?_) fun _=>by rw[if_neg (by simp)]
 rw[if_pos rfl]
 refine zvY.pick (fun h2=>?_) fun _=>by rw[if_neg (by simp)]
 rw[if_pos rfl]
 refine zvZ.pick (fun h3=>absurd ⟨h1,h2,h3⟩ h) fun _=>by rw[if_neg (by simp)]
theorem zxi{l:List Tf}(hf:zvO l=0){c d n:Int}(h:InN l c d n):ztP l c d n=some (zvT l c d n,0):=by
 obtain⟨h1,h2,h3⟩:=h;obtain⟨M',h4,_⟩:=zxb hf zxc (h:=⟨d,n,c⟩) ⟨h1,h3,h2⟩;unfold ztP;rw[zxe hf,obs,if_pos rfl,(zxf hf).some_of h1,obs,if_pos rfl,zvY.some_of h2,obs,if_pos rfl,zvZ.some_of h3,obs,if_pos rfl]
 dsimp only
 rw[h4,obs]
theorem aw:zsy=some true:=rfl
def OkL(l:List Tf):Prop:=l.length<=maxLen/\∀a∈l,zsw a
theorem zxj{l:List Tf}{crop day count:Int}(_:OkL l)(_:zne .i64 crop)(_:zne .i64 day)(_:zne .i64 count):ztU l crop day count=some true:=by
 unfold ztU
 refine zwK.pick (fun ht=>?_) fun _=>by rw[if_neg (by simp),aw,obs]
 rw[if_pos rfl,zwO ht,obs]
 by_cases hf:zvO l=0
 ·have hcr:=zxa hf;have hne:=(zvP.1 hf).2.ne;have hin:∀{P:Prop},Ev (zsz crop 0 ((zvL l:Int) - 1)) (0<=crop/\crop < zvL l):=fun {_}=>zvW.imp (by omega)
  by_cases h:InN l crop day count
  ·obtain⟨h1,h2,h3⟩:=id h
   rw[zxi hf h,obs,zwE,obs,obs,zwA,obs,if_pos rfl,if_pos hf,zwW hne,obs,zrt (fI (by omega)),
    (hin (P:=True)).some_of h1,obs,if_pos rfl,zvW.some_of h2,obs,if_pos rfl,zvW.some_of h3,obs,if_pos rfl,if_pos rfl,zwV hf h1.1 h1.2 h3.1 h3.2,obs,if_pos rfl,aw,obs]
  ·rw[zxh hf h,obs,zwE,obs,obs,zwA,obs,if_pos rfl,if_pos hf,zwW hne,obs,zrt (fI (by omega))]
   refine(hin (P:=True)).pick (fun h1=>?_) fun _=>by rw[if_neg (by simp),if_pos rfl,if_pos rfl,aw,obs]
   rw[if_pos rfl]
   refine zvW.pick (fun h2=>?_) fun _=>by rw[if_neg (by simp),if_pos rfl,if_pos rfl,aw,obs]
   rw[if_pos rfl]
   refine zvW.pick (fun h3=>absurd ⟨h1,h2,h3⟩ h) fun _=>by rw[if_neg (by simp),if_pos rfl,if_pos rfl,aw,obs]
 ·rw[zxg hf,obs,zwE,obs,obs,zwA,obs,if_pos rfl,if_neg hf,if_pos rfl,if_pos rfl,aw,obs]
end
end Go.Proofs.Ytbkokcbnbmhaoaa

namespace Go.Proofs.Ytbkokcbnbmhaoaa
open _root_.Go.Proofs.Try
open Go.ChangeShapes Go.WideShapes Go.ChangeAt Go.RowKit Go.Abs
set_option maxRecDepth 100000
theorem op3:zsl prog 3 Int (zne .i64):=zsm (by kernel_rfl)
theorem op4:zsl prog 4 Bool (fun _=>True):=zsn (by kernel_rfl)
theorem zxk:zsl prog 73 (List Int) (fun l=>l.length<=maxLen/\∀a0∈l,zne .i64 a0):=zsp (by kernel_rfl) (by kernel_rfl) op3
theorem zxl:zsl prog 77 (List (List Int)) (fun l=>l.length<=maxLen/\∀a0∈l,a0.length<=maxLen/\∀a1∈a0,zne .i64 a1):=zsp (by kernel_rfl) (by kernel_rfl) zxk
theorem zxm:zsl prog 74 (List (List (List Int))) (fun l=>l.length<=maxLen/\∀a0∈l,a0.length<=maxLen/\∀a1∈a0,a1.length<=maxLen/\∀a2∈a1,zne .i64 a2):=zsp (by kernel_rfl) (by kernel_rfl) zxl
theorem zxn:zsl prog 84 Tf zsw:=zsu (fs:=[(3,0),(4,1),(3,2),(73,3),(73,4),(74,5)]) (by kernel_rfl) (by kernel_rfl) (zst (α:=Int) (ok:=zne .i64) (k:=1) op3 (by kernel_rfl) rfl (zst (α:=Bool) (ok:=(fun _=>True)) (k:=1) op4 (by kernel_rfl) rfl (zst (α:=Int) (ok:=zne .i64) (k:=1) op3 (by kernel_rfl) rfl (zst (α:=List Int) (ok:=(fun l=>l.length<=maxLen/\∀a0∈l,zne .i64 a0)) (k:=1) zxk (by kernel_rfl) rfl (zst (α:=List Int) (ok:=(fun l=>l.length<=maxLen/\∀a0∈l,zne .i64 a0)) (k:=1) zxk (by kernel_rfl) rfl (zst (α:=List (List (List Int))) (ok:=(fun l=>l.length<=maxLen/\∀a0∈l,a0.length<=maxLen/\∀a1∈a0,a1.length<=maxLen/\∀a2∈a1,zne .i64 a2)) (k:=1) zxm (by kernel_rfl) rfl zss)))))) (by kernel_rfl) fun m vs h=>by
 obtain⟨a0,c0,r0,m0,h0,p0,k0,s0,⟨a1,c1,r1,m1,h1,p1,k1,s1,⟨a2,c2,r2,m2,h2,p2,k2,s2,⟨a3,c3,r3,m3,h3,p3,k3,s3,⟨a4,c4,r4,m4,h4,p4,k4,s4,⟨a5,c5,r5,m5,h5,p5,k5,s5,rfl⟩⟩⟩⟩⟩⟩:=h;have p0:c0=[.int .i64 a0]:=p0; subst p0;have p1:c1=[.bool a1]:=p1; subst p1;have p2:c2=[.int .i64 a2]:=p2; subst p2;obtain⟨d3,rfl,p3⟩:=p3;obtain⟨d4,rfl,p4⟩:=p4;obtain⟨d5,rfl,p5⟩:=p5;subst h5 h4 h3 h2 h1 h0;exact⟨⟨a0,a1,a2,a3,a4,a5⟩,⟨_,_,_,rfl,p3,p4,p5⟩,⟨k0,k1,k2,k3,k4,k5⟩⟩
theorem zxo:zsl prog 22 (List Tf) (fun l=>l.length<=maxLen/\∀a0∈l,zsw a0):=zsp (by kernel_rfl) (by kernel_rfl) zxn
theorem zxp:laidOutB prog=true:=by kernel_rfl
theorem zxq:ownKnob prog.godebug=none:=by kernel_rfl
theorem zxr(os:Os)(started:os.Started)(H:Type)(enc:TypeId × Value->H) :
    ReturnsInHanded {} Try.checked os 3 .any (Rows.tariffPartsSpec.pre6 enc Try.prog Try.f3 Rows.tariffPartsRow.domain false) (Rows.tariffPartsSpec.post enc Try.prog Try.f3 false true false false):=by
  refine returnsInHanded_of_change (C:=Try.checked) zxq started (by kernel_rfl) Try.func3
    (ChangeSpec.witness6 (enc:=enc) (C:=Try.checked) false ⟨#[],#[.slice none 0 0,.int .i64 0,.int .i64 0,.int .i64 0],[]⟩ 8 (by kernel_rfl) (by kernel_rfl) (by kernel_rfl) (by kernel_rfl)) ?_
  intro W base args ds gs before hval0 hW hcnd _;have hval:∀(j:Nat) t v,Try.f3.params[j]? = some t->args[j]? = some v->Value.okWide Try.prog W .any base t v:=hval0;have hW':=hW;obtain⟨p,q,hA0,hV,rfl,hfz,hnd⟩:=hW;have hA:DataW.TrodAll enc Try.prog W 0 (fun _=>true) true Try.f3.params.toList args.toList ds p:=hA0;rw[Try.params3] at hA hval;obtain⟨v0,v1,v2,v3,d0,d1,d2,d3,p0,p1,p2,p3,rfl,rfl,rfl,h0,h1,h2,h3⟩:=trodAll_four hA;obtain⟨rfl,rfl⟩:=trodVars_none hV;obtain⟨a0,len0,cap0,hv0⟩:=okWide_slice Try.underlying22 (hval 0 22 v0 rfl rfl);obtain⟨n1,hv1⟩:=okWide_int Try.underlying3 (hval 1 3 v1 rfl rfl);obtain⟨n2,hv2⟩:=okWide_int Try.underlying3 (hval 2 3 v2 rfl rfl);obtain⟨n3,hv3⟩:=okWide_int Try.underlying3 (hval 3 3 v3 rfl rfl)
  have hlt:∀x∈p0++p1++p2++p3,x.block < W.heap.size:=fun x hx=>by simpa using hW'.lt x (by simpa using hx)
  obtain⟨fu0,hf0⟩:=id h0;obtain⟨fu1,hf1⟩:=id h1;obtain⟨fu2,hf2⟩:=id h2;obtain⟨fu3,hf3⟩:=id h3
  clear hA0 hval0
  obtain⟨e0,m0,w0,a_0,le0,sv0,lay0,cr0,rep0,ok0⟩:=zxo H enc W true _ _ _ hf0 _ _ (Lay.nil W);obtain⟨e1,m1,w1,a_1,le1,sv1,lay1,cr1,rep1,ok1⟩:=op3 H enc W true _ _ _ hf1 e0 m0 lay0;obtain⟨e2,m2,w2,a_2,le2,sv2,lay2,cr2,rep2,ok2⟩:=op3 H enc W true _ _ _ hf2 e1 m1 lay1;obtain⟨e3,m3,w3,a_3,le3,sv3,lay3,cr3,rep3,ok3⟩:=op3 H enc W true _ _ _ hf3 e2 m2 lay2;subst hv0;obtain⟨c0,rfl,rep0⟩:=rep0
  have cv0:CR e3 c0 (.slice a0 len0 cap0):=by
    cases cr0 with
    | cons h _=>exact CR.mono ((le1.trans le2).trans le3) h
  have rep1:w1=[.int .i64 a_1]:=rep1;subst rep1 hv1
  have ha1:n1=a_1:=by
    cases cr1 with
    | cons h _=>have h:Value.int .i64 n1=.int .i64 a_1:=h; cases h; rfl
  subst ha1;have rep2:w2=[.int .i64 a_2]:=rep2;subst rep2 hv2
  have ha2:n2=a_2:=by
    cases cr2 with
    | cons h _=>have h:Value.int .i64 n2=.int .i64 a_2:=h; cases h; rfl
  subst ha2;have rep3:w3=[.int .i64 a_3]:=rep3;subst rep3 hv3
  have ha3:n3=a_3:=by
    cases cr3 with
    | cons h _=>have h:Value.int .i64 n3=.int .i64 a_3:=h; cases h; rfl
  subst ha3;have hargs:zen (VR e3) [.c c0,.c (.int .i64 n1),.c (.int .i64 n2),.c (.int .i64 n3)] [.slice a0 len0 cap0,.int .i64 n1,.int .i64 n2,.int .i64 n3]:=.cons cv0 (.cons rfl (.cons rfl (.cons rfl .nil)));refine(callsIn_wide.1 (zrE fits htab (zvz (l:=a_0) (crop:=n1) (day:=n2) (count:=n3) lay3.pre (((rep0.subv sv1).subv sv2).subv sv3) (zxj ok0 ok1 ok2 ok3) (Q:=fun v _=>v=.c (.bool true)) fun _ _=>rfl) lay3.hr (args':=#[.slice a0 len0 cap0,.int .i64 n1,.int .i64 n2,.int .i64 n3]) hargs 0)).mono fun en W' hp=>?_;obtain⟨v,v',e',m',rfl,hst,hvr,rfl⟩:=hp;have hv':v'=.bool true:=hvr;subst hv';have hbelow:=lay3.below hst
  refine⟨_,rfl,[d0,d1,d2,d3],[],p0++p1++p2++p3,[],p0++(p1++(p2++p3)),[],by simpa using hW',trodAll_mk1 (shut_bool Try.underlying4 _),
    trodAll_mk4 (Below.trod zxp (by kernel_rfl) (of_decide_eq_true (by kernel_rfl)) h0 hbelow fun x hx=>hlt x (by simp[hx])) (Below.trod zxp (by kernel_rfl) (of_decide_eq_true (by kernel_rfl)) h1 hbelow fun x hx=>hlt x (by simp[hx])) (Below.trod zxp (by kernel_rfl) (of_decide_eq_true (by kernel_rfl)) h2 hbelow fun x hx=>hlt x (by simp[hx])) (Below.trod zxp (by kernel_rfl) (of_decide_eq_true (by kernel_rfl)) h3 hbelow fun x hx=>hlt x (by simp[hx])),rfl,lay3.kept hst _,fun hc=>by cases hc⟩
theorem TariffParts_holds:Rows.TariffPartsSaid:=
 OpenClaim.holds_of_wide 3 Try.f3 rfl rfl rfl rfl rfl rfl rfl ⟨rfl,rfl,rfl,rfl,rfl⟩ rfl rfl rfl rfl rfl (by kernel_rfl) Try.func3 (by kernel_rfl)
  (of_decide_eq_true (by kernel_rfl)) (by unfold Func.isWrapper; first | (rw[if_pos (by decide +kernel)]; kernel_rfl) | (rw[if_neg (by decide +kernel)]; exact⟨rfl,rfl⟩))
  (fun os started H enc _=>zxr os started H enc)
end Go.Proofs.Ytbkokcbnbmhaoaa

