/- UmpireWider, for all that it can be called with, returns true. Condition: none. -/
import Derived.Test.YteojndcmgpiklaaGreatUdJ
import GoSem.Step
import GoSem.ClaimKeys
import Derived.DeepKeys2
import Derived.RangeFuncLeaves
import Derived.OrdersIn
import Derived.Laws.World
import Derived.Laws.Sem
import Derived.RangeFuncRecord
import Derived.Laws.CopyRow
import Derived.Laws.Append
import Derived.Laws.Rows
import Derived.Laws.Slices
import Derived.Laws.Entries
import Derived.ChangeKeysEq
import Derived.IntWalk
import Derived.DeepKeys
import Derived.DeepKeys3
import Derived.Laws.StructEq
import Derived.MapKept
import Derived.Laws.AppendOwn
import Derived.ChangeArms
import Derived.ChangeOld
import Derived.Carry
import Derived.ChangeShapes
import Derived.KernelRfl
import Derived.ProofKit
import Derived.Test.YteojndcmgpiklaaGreatRows

namespace Go.Proofs.YteojndcmgpiklaaGreat
open _root_.Go.Proofs.Tryz
open Go.Abs
set_option maxRecDepth 100000
noncomputable section
theorem zCN{c:Cse}(hc:zBe c):∃r,zuU c=some (r,0)∧zCK c (·.pence) r:=by
 obtain⟨r,M,h1,h2,h3⟩:=zCM hc zB0 (q:=fun v=>zt4 v) (qN:=(·.pence)) fun v _=>rfl;refine⟨r,?_,h3⟩;unfold zuU;rw[zCw hc,obs,if_pos rfl,h1]; rfl
theorem zCO{c:Cse}(hc:zBe c):∃r s,zuV c=some (r,s,0)∧zCK c zCc r∧zCK c zCd s:=by
 obtain⟨r,M,h1,h2,h3⟩:=zCM hc zB0 (q:=fun v=>zt5 v) (qN:=zCc) fun v hv=>zCf (by omega) hv;obtain⟨s,M',g1,g2,g3⟩:=zCM hc h2 (q:=fun v=>zt6 v) (qN:=zCd) fun v hv=>zCh (by omega) hv;refine⟨r,s,?_,h3,g3⟩;unfold zuV;rw[zCw hc,obs,if_pos rfl,h1,obs]
 show(zuN ⟨c,M⟩ _).bind _=_
 rw[g1]; rfl
def zCP(v:Ver):Int:=v.pence - zCc v
def zCQ(v:Ver):Int:=v.pence+zCd v
theorem zCR{c:Cse}(hc:zBe c):∃r s:Rg,zuW c=some (⟨r.Lo,s.Hi⟩,0)∧zCK c zCP r∧zCK c zCQ s:=by
 obtain⟨r,M,h1,h2,h3⟩:=zCM hc zB0 (q:=fun v=>zt7 v) (qN:=zCP) fun v hv=>zCj (by omega) hv;obtain⟨s,M',g1,g2,g3⟩:=zCM hc h2 (q:=fun v=>zt8 v) (qN:=zCQ) fun v hv=>zCk (by omega) hv;refine⟨r,s,?_,h3,g3⟩;unfold zuW;rw[zCw hc,obs,if_pos rfl,h1,obs]
 show(zuN ⟨c,M⟩ _).bind _=_
 rw[g1]; rfl
def FL(S:Nat→Bool):List Bool:=(List.range 101).map S
theorem zCS{S:Nat→Bool}:(FL S).length=101:=by simp[FL]
theorem zCT{S:Nat→Bool}{k:Nat}(h:k < 101):(FL S)[k]? = some (S k):=by simp[FL,h]
theorem zCU{S:Nat→Bool}{l:List Bool}(hl:l.length=101)(h:∀k,k < 101→l[k]? = some (S k)):l=FL S:=by
 apply List.ext_getElem?
 intro k
 by_cases hk:k < 101
 ·rw[h k hk,zCT hk]
 ·rw[List.getElem?_eq_none (by omega),List.getElem?_eq_none (by rw[zCS]; omega)]
theorem zCV{S:Nat→Bool}{i:Nat}{b:Bool}(_hi:i < 101):(FL S).set i b=FL (fun j=>if j=i then b else S j):=by
 refine zCU (by rw[List.length_set,zCS]) fun k hk=>?_;rw[List.getElem?_set]
 by_cases he:i=k
 ·subst he; rw[if_pos rfl,if_pos (by rw[zCS]; omega),if_pos rfl]
 ·rw[if_neg he,zCT hk,if_neg (by omega)]
def zmH(S:Nat→Bool):List Int:=((List.range 101).filter S).map fun k:Nat=>(k:Int)
theorem zCW{S:Nat→Bool}{k:Nat}:(((List.range 101).take k).filter S).length≤101:=by
 refine Nat.le_trans (List.length_filter_le ..) ?_;rw[List.length_take]; simp; omega
theorem zCX{S:Nat→Bool}{k:Nat}(h:k < 101):((List.range 101).take (k+1)).filter S=((List.range 101).take k).filter S++(if S k=true then [k] else []):=by
 rw[List.take_add_one,List.filter_append]
 simp[h]
 split <;> simp_all
theorem zCY{S:Nat→Bool}:∀(d k:Nat),k≤101→101 - k < d→ztM (FL S) d ((((List.range 101).take k).filter S).map fun k:Nat=>(k:Int)) (k:Int)=some (zmH S)
 | 0,k,_,h=>by omega
 | d+1,k,hk,h=>by
  rw[ztM]
  by_cases hkl:k < 101
  ·rw[if_pos (by omega),zqe (by omega),zq1 (zCT hkl),obs];have:=zCY (S:=S) d (k+1) hkl (by omega);rw[zCX hkl] at this
   split
   ·rename_i hs
    rw[zqe (by rw[List.length_map]; exact Nat.lt_of_le_of_lt zCW (by omega)),zqe (fI (by omega)),show(k:Int)+1=((k+1:Nat):Int) by omega];rw[if_pos hs,List.map_append] at this;exact this
   ·rename_i hs
    rw[zqe (fI (by omega)),show(k:Int)+1=((k+1:Nat):Int) by omega];rw[if_neg hs,List.append_nil] at this;exact this
  ·rw[if_neg (by omega)]
   have:k=101:=by omega
   subst this;rw[List.take_of_length_le (by simp)]; rfl
theorem zCZ{S:Nat→Bool}:ztN (FL S)=some (zmH S):=by
 exact zCY (S:=S) 102 0 (by omega) (by omega)
theorem zC0{S:Nat→Bool}{n:Int}:n∈zmH S↔∃k:Nat,n=k∧k < 101∧S k=true:=by
 unfold zmH
 simp only[List.mem_map,List.mem_filter,List.mem_range]
 exact⟨fun⟨k,h,he⟩=>⟨k,he.symm,h⟩,fun⟨k,he,h⟩=>⟨k,h,he.symm⟩⟩
def zC1(l:List Thr)(f:Fld)(k:Nat):Bool:=l.any fun t=>decide (zBG f t=(k:Int))
theorem zC2{f:Fld}:∀(l:List Thr) (S:Nat→Bool),(∀t∈l,zBD t)→ztO f l (FL S)=some (FL fun k=>zC1 l f k || S k)
 | [],S,_=>rfl
 | t::l,S,h=>by
  have ht:=h t (List.mem_cons_self ..);have hr:=zBL (f:=f) ht;rw[ztO,zBM ht,obs,zqe (by omega),zqe zCS,zCV (by omega),zC2 l _ fun u hu=>h u (List.mem_cons_of_mem _ hu)]
  congr 2
  funext k
  unfold zC1;rw[List.any_cons]
  by_cases he:k=(zBG f t).toNat
  ·rw[if_pos he,show decide (zBG f t=(k:Int))=true from decide_eq_true (by omega)]; simp
  ·rw[if_neg he,show decide (zBG f t=(k:Int))=false from decide_eq_false (by omega)]; simp
theorem FL0:List.replicate 101 false=FL (fun _=>false):=by decide
def zC3(f:Fld)(k:Nat):Bool:=zC1 (zBP f) f k
def zC4(f:Fld):List Int:=zmH (zC3 f)
theorem zC5{l:List Tf}{f:Fld}(hf:zBd l f):∀t∈zBP f,zBD t:=fun _t ht=>((zBS hf).1 ht).rng hf
theorem zC6{l:List Tf}{f:Fld}(hf:zBd l f):ztP f=some (FL (zC3 f)):=by
 unfold ztP;rw[zBX hf,obs,FL0,zC2 _ _ (zC5 hf)]
 simp only[Bool.or_false]; rfl
theorem zC7{l:List Tf}{f:Fld}(hf:zBd l f){n:Int}:n∈zC4 f↔∃t,zBC f t∧zBG f t=n:=by
 unfold zC4;rw[zC0];unfold zC3 zC1
 constructor
 ·rintro⟨k,rfl,_,h⟩
  obtain⟨t,ht,he⟩:=List.any_eq_true.1 h;exact⟨t,(zBS hf).1 ht,of_decide_eq_true he⟩
 ·rintro⟨t,ht,rfl⟩
  have hr:=zBL (f:=f) (ht.rng hf);exact⟨(zBG f t).toNat,by omega,by omega,List.any_eq_true.2 ⟨t,(zBS hf).2 ht,decide_eq_true (by omega)⟩⟩
theorem zC8{c:Cse}(hl:c.Fields.length≤6){n:Int}:Ev (ztW c n) (0≤n∧n < c.Fields.length):=Ev.gd (fI (by omega)) (zBh.ret.imp (by dsimp only; omega))
theorem zC9{c:Cse}(hc:zBe c){k:Nat}{f:Fld}(hk:c.Fields[k]? = some f):zt1 c (k:Int)=some (f,0):=by
 have hkl:=(List.getElem?_eq_some_iff.1 hk).1;have:=hc.len;unfold zt1;rw[zBr,obs,if_pos (zBg.2 hc),(zC8 (by omega)).some_of (by omega),obs,if_pos rfl,zq1 hk]; rfl
theorem zDa{c:Cse}(hc:zBe c){k:Nat}{f:Fld}(hk:c.Fields[k]? = some f):zun c (k:Int)=some (zC4 f,0):=by
 unfold zun;rw[zC9 hc hk,obs,if_pos rfl,zC6 (hc.fld f (List.mem_of_getElem? hk)),obs,zCZ]; rfl
def zDb(f:Fld):Int:=if (zBP f).all (fun t=>decide (zBF f t))=true then 1 else if (zBP f).any (fun t=>decide (zBF f t))=true then 3 else 2
theorem zDc{f:Fld}:∀(l:List Thr) (a b:Bool),(∀t∈l,zBD t)→ztQ f l a b=some (if (b || !(l.all fun t=>decide (zBF f t)))=true then (if (a || l.any fun t=>decide (zBF f t))=true then 3 else 2) else 1)
 | [],a,b,_=>by cases a <;> cases b <;> rfl
 | t::l,a,b,h=>by
  have ih:=fun a b=>zDc (f:=f) l a b fun u hu=>h u (List.mem_cons_of_mem _ hu);rw[ztQ,(zBJ (h t (List.mem_cons_self ..))).eqd,obs]
  cases a <;> cases b <;> simp only[ih,List.all_cons,List.any_cons] <;> by_cases hc:zBF f t <;> simp[hc]
theorem zDd{l:List Tf}{f:Fld}(hf:zBd l f):ztR f=some (zDb f):=by
 unfold ztR zDb;rw[zBX hf,obs,zDc _ _ _ (zC5 hf)]
 simp only[Bool.false_or]
 cases (zBP f).all fun t=>decide (zBF f t) <;> simp
theorem zDe{c:Cse}(hc:zBe c){k:Nat}{f:Fld}(hk:c.Fields[k]? = some f):zuo c (k:Int)=some (zDb f,0):=by
 unfold zuo;rw[zC9 hc hk,obs,if_pos rfl,zDd (hc.fld f (List.mem_of_getElem? hk))]; rfl
def zDf(f:Fld)(t:Thr):Fld:=⟨f.Crop,f.Value,f.Near,⟨t.First,t.First⟩,⟨t.Second,t.Second⟩,f.Umpire⟩
theorem zDg{l:List Tf}{f:Fld}(hf:zBd l f){t:Thr}(ht:zBC f t):zBd l (zDf f t):=by
 have hr:=ht.rng hf;have h1:=hr.a; have h2:=hr.b;exact⟨hf.crop,hf.val,hf.near,⟨h1.1,Int.le_refl _,h1.2,by show t.First - t.First≤4; omega⟩,⟨h2.1,Int.le_refl _,h2.2,by show t.Second - t.Second≤4; omega⟩,hf.ump⟩
theorem zDh{c:Cse}(hc:zBe c){f:Fld}(hf:zBd c.Tariffs f){p:Int}{l:List Int}(hl:∀n∈l,0≤n∧n≤100)(hlen:l.length≤1000){M0:Option (Clm→Option Int)}:∀(d k:Nat) (S:Nat→Bool) (M:Option (Clm→Option Int)),k≤l.length→l.length - k < d→zBZ c M →
  ∃M',zuf ⟨c,M0⟩ f p l d (FL S) M (k:Int)=some (FL (fun j=>if (j:Int)∈l.drop k then decide (zBY c f j=p) else S j),M')∧zBZ c M'
 | 0,k,_,_,_,h,_=>by omega
 | d+1,k,S,M,hk,h,hM=>by
  rw[zuf]
  by_cases hkl:k < l.length
  ·obtain⟨n,h1,h2⟩:=zCn hkl;have hn:=hl n (List.mem_of_getElem? h1);obtain⟨M1,g1,g2⟩:=zB3 hc hM hf hn;rw[if_pos (by omega),zq1 h1,obs]
   dsimp only
   rw[g1,obs,zqe (by omega),zqe zCS,zqe (fI (by omega)),zCV (by omega),show(k:Int)+1=((k+1:Nat):Int) by omega];obtain⟨M',q1,q2⟩:=zDh hc hf hl hlen (M0:=M0) d (k+1) _ M1 hkl (by omega) g2;refine⟨M',?_,q2⟩;rw[q1]
   congr 3
   funext j
   rw[h2]
   by_cases hj:(j:Int)∈l.drop (k+1)
   ·rw[if_pos hj,if_pos (List.mem_cons_of_mem _ hj)]
   ·rw[if_neg hj]
    by_cases he:j=n.toNat
    ·rw[if_pos he,if_pos (by rw[show(j:Int)=n by omega]; exact List.mem_cons_self ..),show(j:Int)=n by omega]
    ·rw[if_neg he,if_neg fun hm=>(List.mem_cons.1 hm).elim (fun h=>he (by omega)) hj]
  ·rw[if_neg (by omega),List.drop_eq_nil_of_le (by omega)];exact⟨M,by simp,hM⟩
def zDi(c:Cse)(f:Fld)(t:Thr):Prop:=∃n∈zC4 (zDf f t),zBY c f n ≠ zBY c f (zBG f t)
instance (c:Cse) (f:Fld) (t:Thr):Decidable (zDi c f t):=by unfold zDi; infer_instance
theorem zDj{S:Nat→Bool}:(zmH S).length≤101:=by
 unfold zmH;rw[List.length_map];refine Nat.le_trans (List.length_filter_le ..) ?_
 simp
theorem zDk{S T:Nat→Bool}:FL S=FL T↔∀k,k < 101→S k=T k:=by
 constructor
 ·intro h k hk;have h1:=zCT (S:=S) hk;rw[h,zCT hk] at h1;exact(oi h1).symm
 ·intro h
  exact zCU zCS fun k hk=>by rw[zCT hk,h k hk]
theorem zDl{c:Cse}(hc:zBe c){M:Option (Clm→Option Int)}(hM:zBZ c M){f:Fld}(hf:zBd c.Tariffs f){t:Thr}(ht:zBC f t):∃M',zuh ⟨c,M⟩ f t=some (decide (zDi c f t),M')∧zBZ c M':=by
 have hr:=ht.rng hf;obtain⟨M1,g1,g2⟩:=zB3 hc hM hf (zBL (f:=f) hr);have ho:=zDg hf ht
 have hl:∀n∈zmH (zC3 (zDf f t)),0≤n∧n≤100:=fun n hn=>by
  obtain⟨k,rfl,hk,_⟩:=zC0.1 hn
  omega
 have hlen:=zDj (S:=zC3 (zDf f t));obtain⟨M',q1,q2⟩:=zDh hc ho (p:=zBY c f (zBG f t)) hl (by omega) (M0:=M1) ((zmH (zC3 (zDf f t))).length+1) 0 (zC3 (zDf f t)) M1 (by omega) (by omega) g2;refine⟨M',?_,q2⟩;unfold zuh;rw[zBM hr,obs,g1,obs]
 show(ztP (zDf f t)).bind _=_
 rw[zC6 ho,obs]
 have e:zug ⟨c,M1⟩ (zDf f t) (FL (zC3 (zDf f t))) (zBY c f (zBG f t))=some (FL (fun j=>if (j:Int)∈(zmH (zC3 (zDf f t))).drop 0 then decide (zBY c (zDf f t) j=zBY c f (zBG f t)) else zC3 (zDf f t) j),M'):=by
  unfold zug;rw[zCZ,obs];exact q1
 show(zug ⟨c,M1⟩ (zDf f t) (FL (zC3 (zDf f t))) (zBY c f (zBG f t))).bind _=_
 rw[e,obs,zqe ⟨zCS,zCS⟩]
 congr 2
 have key:(FL (fun j=>if (j:Int)∈(zmH (zC3 (zDf f t))).drop 0 then decide (zBY c (zDf f t) j=zBY c f (zBG f t)) else zC3 (zDf f t) j)=FL (zC3 (zDf f t)))↔¬ zDi c f t:=by
  rw[zDk];unfold zDi zC4;rw[List.drop_zero]
  constructor
  ·rintro h ⟨n,hn,hne⟩
   obtain⟨k,rfl,hk,hs⟩:=zC0.1 hn;have:=h k hk;rw[if_pos hn,hs] at this;exact hne (of_decide_eq_true this)
  ·intro h k hk
   by_cases hm:(k:Int)∈zmH (zC3 (zDf f t))
   ·rw[if_pos hm];obtain⟨k',he,_,hs⟩:=zC0.1 hm;rw[show k=k' by omega,hs,← show k=k' by omega];exact decide_eq_true (Classical.byContradiction fun hn=>h ⟨_,hm,hn⟩)
   ·rw[if_neg hm]
 by_cases hm:zDi c f t
 ·rw[decide_eq_true hm,decide_eq_false fun h=>(key.1 h) hm]; rfl
 ·rw[decide_eq_false hm,decide_eq_true (key.2 hm)]; rfl
def zDm(c:Cse)(f:Fld):Bool:=(zBP f).any fun t=>decide (zDi c f t)
def zDn(c:Cse):List Fld→Nat→List Int
 | [],_=>[]
 | f::fs,k=>if zDm c f=true then (k:Int)::zDn c fs (k+1) else zDn c fs (k+1)
theorem zDo{c:Cse}(hc:zBe c){f:Fld}(hf:zBd c.Tariffs f){k:Nat}(hk:k≤1000){M0:Option (Clm→Option Int)}{K:List Int→Option (Clm→Option Int)→Int→Option (List Int × Option (Clm→Option Int))}{a:List Int}(ha:a.length≤1000){F:List Int→List Int}
  (hK:∀(a':List Int) M,a'.length≤a.length+1→zBZ c M→∃M',K a' M ((k:Int)+1)=some (F a',M')∧zBZ c M'):∀(l:List Thr) M,zBZ c M→(∀t∈l,zBC f t)→∃M',zuj ⟨c,M0⟩ (k:Int) f K l a M=some (F (if (l.any fun t=>decide (zDi c f t))=true then a++[(k:Int)] else a),M')∧zBZ c M'
 | [],M,hM,_=>by
  obtain⟨M',h1,h2⟩:=hK a M (by omega) hM;refine⟨M',?_,h2⟩;rw[zuj,zqe (fI (by omega)),h1]; rfl
 | t::l,M,hM,hl=>by
  obtain⟨M1,h1,h2⟩:=zDl hc hM hf (hl t (List.mem_cons_self ..));rw[zuj]
  dsimp only
  rw[h1,obs]
  by_cases hm:zDi c f t
  ·rw[if_pos (decide_eq_true hm),zqe (by omega)];unfold zui;obtain⟨M',q1,q2⟩:=hK (a++[(k:Int)]) M1 (by simp) h2;refine⟨M',?_,q2⟩;rw[zqe (fI (by omega)),q1,List.any_cons,decide_eq_true hm,Bool.true_or,if_pos rfl]
  ·obtain⟨M',q1,q2⟩:=zDo hc hf hk (M0:=M0) ha hK l M1 h2 fun u hu=>hl u (List.mem_cons_of_mem _ hu);refine⟨M',?_,q2⟩;rw[zqf (decide_eq_false hm),q1,List.any_cons,decide_eq_false hm,Bool.false_or]
theorem zDp{c:Cse}(hc:zBe c){M0:Option (Clm→Option Int)}:∀(d k:Nat) (a:List Int) M,k≤c.Fields.length→c.Fields.length - k < d→a.length≤k→zBZ c M→∃M',zuk ⟨c,M0⟩ d a M (k:Int)=some (a++zDn c (c.Fields.drop k) k,M')∧zBZ c M'
 | 0,k,_,_,_,h,_,_=>by omega
 | d+1,k,a,M,hk,h,ha,hM=>by
  have hlen:=hc.len;rw[zuk]
  dsimp only
  by_cases hkl:k < c.Fields.length
  ·obtain⟨f,h1,h2⟩:=zCn hkl;have hf:=hc.fld f (List.mem_of_getElem? h1);rw[if_pos (by omega),zq1 h1,obs,zBX hf,obs,h2]
   have hK:∀(a':List Int) M,a'.length≤a.length+1→zBZ c M→∃M',zuk ⟨c,M0⟩ d a' M ((k:Int)+1)=some (a'++zDn c (c.Fields.drop (k+1)) (k+1),M')∧zBZ c M':=fun a' M' ha' hM'=>by
    rw[show(k:Int)+1=((k+1:Nat):Int) by omega];exact zDp hc d (k+1) a' M' hkl (by omega) (by omega) hM'
   obtain⟨M',q1,q2⟩:=zDo hc hf (k:=k) (by omega) (M0:=M0) (a:=a) (by omega) (F:=fun a'=>a'++zDn c (c.Fields.drop (k+1)) (k+1)) hK (zBP f) M hM fun t ht=>(zBS hf).1 ht;refine⟨M',?_,q2⟩;rw[q1,zDn];unfold zDm
   split <;> simp
  ·rw[if_neg (by omega),List.drop_eq_nil_of_le (by omega)];exact⟨M,by simp[zDn],hM⟩
theorem zDq{c:Cse}(hc:zBe c):zup c=some (zDn c c.Fields 0,0):=by
 obtain⟨M',h1,h2⟩:=zDp hc (M0:=some fun _=>none) (c.Fields.length+1) 0 [] (some fun _=>none) (by omega) (by omega) (by simp) zB0;unfold zup;rw[zCw hc,obs,if_pos rfl];unfold zul
 show(zuk ⟨c,some fun _=>none⟩ (c.Fields.length+1) [] (some fun _=>none) ((0:Nat):Int)).bind _=_
 rw[h1]; rfl
def befU:List Int→List Int→Bool
 | x::a,y::b=>if x=y then befU a b else decide (x < y)
 | [],_::_=>true
 | _,[]=>false
theorem zDr:∀{a b:List Int},a.length=b.length→befU a b=false→befU b a=false→a=b
 | [],[],_,_,_=>rfl
 | x::a,y::b,hl,h1,h2=>by
  simp only[befU] at h1 h2
  by_cases he:x=y
  ·subst he;rw[if_pos rfl] at h1 h2;rw[zDr (Nat.succ.inj hl) h1 h2]
  ·rw[if_neg he] at h1;rw[if_neg fun h=>he h.symm] at h2;have:=of_decide_eq_false h1;have:=of_decide_eq_false h2
   omega
theorem zDs:∀{a:List Int},befU a a=false
 | []=>rfl
 | x::a=>by simp only[befU]; rw[if_pos trivial]; exact zDs
theorem zDt{a b:List Int}(hl:a.length≤1000):∀(d k:Nat),k≤a.length→a.length - k < d→zrY a b d (k:Int)=some (befU (a.drop k) (b.drop k))
 | 0,_,_,h=>by omega
 | d+1,k,hk,h=>by
  rw[zrY]
  by_cases hka:k < a.length
  ·rw[if_pos (by omega)];have da:=List.drop_eq_getElem_cons hka;have ga:=List.getElem?_eq_getElem hka
   by_cases hkb:k < b.length
   ·have db:=List.drop_eq_getElem_cons hkb;have gb:=List.getElem?_eq_getElem hkb;rw[if_pos (by omega),zq1 ga,obs,zq1 gb,obs,da,db];unfold befU
    by_cases he:a[k]=b[k]
    ·rw[if_pos he,if_pos he,zqe (fI (by omega)),show(k:Int)+1=((k+1:Nat):Int) by omega];exact zDt hl d (k+1) (by omega) (by omega)
    ·rw[if_neg he,if_neg he,obs,obs]
   ·rw[if_neg (by omega),da,List.drop_eq_nil_of_le (show b.length≤k by omega),decide_eq_false (by omega)]; rfl
  ·rw[if_neg (by omega),List.drop_eq_nil_of_le (show a.length≤k by omega)]
   by_cases hkb:k < b.length
   ·rw[List.drop_eq_getElem_cons hkb,decide_eq_true (by omega)]; rfl
   ·rw[List.drop_eq_nil_of_le (show b.length≤k by omega),decide_eq_false (by omega)]; rfl
theorem zDu{a b:List Int}(hl:a.length≤1000):zrZ a b=some (befU a b):=zDt hl (a.length+1) 0 (Nat.zero_le _) (by omega)
theorem zDv{a b:List Int}(ha:a.length≤1000):Ev (zr0 a b) (a=b):=by
 unfold zr0
 by_cases hl:a.length=b.length
 ·rw[if_pos (by omega),zDu ha,obs]
  cases h1:befU a b with
  | true=>
   rw[if_pos rfl]
   exact Ev.ff fun he=>by subst he; rw[zDs] at h1; cases h1
  | false=>
   rw[if_neg (by simp),zDu (by omega),obs];refine Ev.mk' ?_
   cases h2:befU b a with
   | true=>exact⟨fun h=>(by cases h),fun he=>(by subst he; rw[zDs] at h2; cases h2)⟩
   | false=>exact⟨fun _=>zDr hl h1 h2,fun _=>rfl⟩
 ·rw[if_neg (by omega)];exact Ev.ff fun he=>hl (by rw[he])
theorem zDw{a b:Res}(ha:a.Counts.length≤1000):Ev (zuy a b) (a=b):=by
 refine(Ev.and (zDv ha) fun _=>Ev.ite fun _=>Ev.ite fun _=>Ev.dec Iff.rfl).imp ?_;obtain⟨a1,a2,a3,a4⟩:=a;obtain⟨b1,b2,b3,b4⟩:=b
 simp
def tfU:Tf:=⟨0,true,0,[0],[0,100],[[[0,100]]]⟩
def fA:Fld:=⟨0,1000,4,⟨40,41⟩,⟨30,30⟩,⟨33,36⟩⟩
def fB:Fld:=⟨0,200,4,⟨20,20⟩,⟨17,18⟩,⟨0,4⟩⟩
def zDx:Cse:=⟨[tfU],10,31,[fA,fB]⟩
theorem zDy:zuA=some zDx:=rfl
theorem zDz{α:Type}{a:α}{P:α→Prop}(h:P a):∀x∈[a],P x:=fun x hx=>by rw[List.mem_singleton.1 hx]; exact h
theorem zDA:zzc [tfU]=0:=by
 refine zzd.2 ⟨?_,⟨by simp,zDz ⟨by decide,by decide,⟨by simp[tfU],rfl,by simp[tfU]⟩,⟨by simp[tfU],rfl,by simp[tfU]⟩,rfl,by simp[tfU],zDz ⟨rfl,zDz ⟨rfl,by simp⟩⟩⟩,by simp,rfl,zDz rfl⟩⟩
 rintro (h | ⟨t,ht,h⟩)
 ·simp at h
 ·rw[List.mem_singleton.1 ht] at h;unfold zza at h
  simp[tfU] at h
theorem zDB:zBe zDx:=by
 refine⟨zDA,by decide,by decide,by decide,fun f hf=>?_⟩
 rcases List.mem_cons.1 hf with rfl | hf
 ·exact⟨by decide,by decide,by decide,⟨by decide,by decide,by decide,by decide⟩,⟨by decide,by decide,by decide,by decide⟩,⟨by decide,by decide,by decide,by decide⟩⟩
 ·rw[List.mem_singleton.1 hf];exact⟨by decide,by decide,by decide,⟨by decide,by decide,by decide,by decide⟩,⟨by decide,by decide,by decide,by decide⟩,⟨by decide,by decide,by decide,by decide⟩⟩
theorem zDC{P:List Thr→Prop}(h:∀a∈zBP fA,∀b∈zBP fB,P [a,b]):∀ts,zCl zDx.Fields ts→P ts:=by
 intro ts ht
 match ts,ht with
 | [a,b],ht=>exact h a ((zBS (zDB.fld fA (by simp[zDx]))).2 ht.1) b ((zBS (zDB.fld fB (by simp[zDx]))).2 ht.2.1)
 | [],ht=>exact ht.elim
 | [_],ht=>exact ht.2.elim
 | _::_::_::_,ht=>exact ht.2.2.elim
theorem zDD{a b:Thr}(ha:a∈zBP fA)(hb:b∈zBP fB):zCl zDx.Fields [a,b]:=⟨(zBS (zDB.fld fA (by simp[zDx]))).1 ha,(zBS (zDB.fld fB (by simp[zDx]))).1 hb,trivial⟩
theorem zDE{q:Ver→Int}{r:Rg}(h:zCK zDx q r){lo:Int}(hb:∀a∈zBP fA,∀b∈zBP fB,lo≤q (zCr zDx [a,b]))(hlo:∃a∈zBP fA,∃b∈zBP fB,q (zCr zDx [a,b])=lo):r.Lo=lo:=by
 obtain⟨t1,h1,h2⟩:=h.lo;obtain⟨a,ha,b,hb',e1⟩:=hlo;have k1:=h.all _ (zDD ha hb');have k3:=zDC (P:=fun ts=>lo≤q (zCr zDx ts)) hb t1 h1
 omega
theorem zDF{q:Ver→Int}{r:Rg}(h:zCK zDx q r){hi:Int}(hb:∀a∈zBP fA,∀b∈zBP fB,q (zCr zDx [a,b])≤hi)(hhi:∃a∈zBP fA,∃b∈zBP fB,q (zCr zDx [a,b])=hi):r.Hi=hi:=by
 obtain⟨t1,h1,h2⟩:=h.hi;obtain⟨a,ha,b,hb',e1⟩:=hhi;have k1:=h.all _ (zDD ha hb');have k3:=zDC (P:=fun ts=>q (zCr zDx ts)≤hi) hb t1 h1
 omega
theorem zDG:zuX=some true:=by
 obtain⟨a,ha,ea⟩:=zCN zDB;obtain⟨x,y,hx,ex,ey⟩:=zCO zDB;obtain⟨n,o,ho,en,eo⟩:=zCR zDB;have a1:a.Lo=366:=zDE ea (by decide) (by decide);have a2:a.Hi=398:=zDF ea (by decide) (by decide);have x1:x.Lo=0:=zDE ex (by decide) (by decide);have x2:x.Hi=31:=zDF ex (by decide) (by decide);have y1:y.Lo=0:=zDE ey (by decide) (by decide);have y2:y.Hi=31:=zDF ey (by decide) (by decide);have n1:n.Lo=335:=zDE en (by decide) (by decide);have o2:o.Hi=429:=zDF eo (by decide) (by decide)
 have hP:zum zDx [⟨40,30,35⟩,⟨20,17,0⟩]=some (⟨[35,18],386,16,15⟩,0):=by
  have i1:(⟨40,30,35⟩:Thr)∈zBP fA:=(zBS (zDB.fld fA (by simp[zDx]))).2 ⟨by decide,by decide,by decide⟩;have i2:(⟨20,17,0⟩:Thr)∈zBP fB:=(zBS (zDB.fld fB (by simp[zDx]))).2 ⟨by decide,by decide,by decide⟩;rw[zCx zDB (zDD i1 i2)];refine congrArg (fun r=>some (r,(0:Int))) ?_
  have r1:(zCs zDx [⟨40,30,35⟩,⟨20,17,0⟩]).Counts=[35,18]:=by decide
  have r2:(zCs zDx [⟨40,30,35⟩,⟨20,17,0⟩]).Award=386:=by decide
  have r3:(zCs zDx [⟨40,30,35⟩,⟨20,17,0⟩]).Farmer=16:=by decide
  have r4:(zCs zDx [⟨40,30,35⟩,⟨20,17,0⟩]).Society=15:=by decide
  generalize zCs zDx [⟨40,30,35⟩,⟨20,17,0⟩]=R at r1 r2 r3 r4;obtain⟨_,_,_,_⟩:=R
  dsimp only at r1 r2 r3 r4
  subst_vars; rfl
 have hC:zun zDx (0:Int)=some ([33,34,35,36],0):=by
  rw[show zun zDx (0:Int)=_ from zDa zDB (k:=0) (f:=fA) rfl];exact congrArg (fun r=>some (r,(0:Int))) (by decide)
 have hD:zuo zDx (1:Int)=some (2,0):=by
  rw[show zuo zDx (1:Int)=_ from zDe zDB (k:=1) (f:=fB) rfl];exact congrArg (fun r=>some (r,(0:Int))) (by decide)
 have hM:zup zDx=some ([0],0):=by
  rw[zDq zDB];exact congrArg (fun r=>some (r,(0:Int))) (by decide)
 have fz:∀n:Int,0≤n∧n≤1000→zl0 .i64 n:=fun n h=>fI (by omega);unfold zuX;rw[zDy,obs,show zuB 40 35 17=some [⟨40,30,35⟩,⟨20,17,0⟩] from rfl,obs,hP,obs,obs,hC,obs,obs,hD,obs,obs,ha,obs,obs,hx,obs,obs,ho,obs,obs,hM,obs];rw[if_pos rfl,(zDw (by decide)).some_of rfl,obs,if_pos rfl,if_pos rfl,(zDv (by decide)).some_of rfl,obs,if_pos rfl,if_pos rfl,if_pos rfl,if_pos rfl]
 show Go.Abs.gd _ _=_
 dsimp only
 rw[a1,a2,x1,x2,y1,y2,n1,o2];rw[zqe (fz _ (by omega)),zqe (fz _ (by omega)),zqe (fz _ (by omega)),zqe (fz _ (by omega)),if_pos rfl,if_pos rfl]
 show Go.Abs.gd _ _=_
 dsimp only
 rw[zqe (fz _ (by omega)),zqe (fz _ (by omega)),zqe (fz _ (by omega)),zqe (fz _ (by omega)),if_pos rfl,zqe (fz _ (by omega)),zqe (fz _ (by omega)),zqe (fz _ (by omega)),zqe (fz _ (by omega)),if_pos (by decide),if_pos (by decide)]
 show Go.Abs.gd _ _=_
 dsimp only
 rw[zqe (fz _ (by omega)),zqe (fz _ (by omega)),zqe (fz _ (by omega)),zqe (fz _ (by omega)),if_pos (by decide),(zDv (by decide)).some_of rfl]; rfl
def OkC(c:Cse):Prop:=zrJ c
theorem zDH{l:List Int}{n:Int}(hl:l.length≤1000):Ev (zuE l n) (n∈l):=by
 have key:∀(d k:Nat),k≤l.length→l.length - k < d→Ev (zuD l n d (k:Int)) (n∈l.drop k):=by
  intro d
  induction d with
  | zero=>intro k _ h; omega
  | succ d ih=>
   intro k hk h;rw[zuD]
   by_cases hkl:k < l.length
   ·obtain⟨a,h1,h2⟩:=zCn hkl;rw[if_pos (by omega),zq1 h1,obs,h2]
    by_cases he:a=n
    ·rw[if_pos he]; exact Ev.tt (he ▸ List.mem_cons_self ..)
    ·rw[if_neg he,zqe (fI (by omega)),show(k:Int)+1=((k+1:Nat):Int) by omega];exact(ih (k+1) hkl (by omega)).imp ⟨List.mem_cons_of_mem _,fun h=>(List.mem_cons.1 h).elim (fun h=>absurd h.symm he) id⟩
   ·rw[if_neg (by omega),List.drop_eq_nil_of_le (by omega)]
    exact Ev.ff fun h=>by cases h
 exact key (l.length+1) 0 (by omega) (by omega)
def zDI(c:Cse)(k:Nat)(f:Fld):Cse:=⟨c.Tariffs,c.Day,c.Fee,c.Fields.set k f⟩
theorem zDJ{c:Cse}{k:Nat}(hk:k < c.Fields.length){f:Fld}:(zDI c k f).Fields[k]? = some f:=by
 show(c.Fields.set k f)[k]? = _
 rw[List.getElem?_set_self hk]
theorem zDK{c:Cse}(hc:zBe c):zuZ c=some ⟨c.Tariffs,c.Day,c.Fee,c.Fields⟩:=by
 have:=hc.len;unfold zuZ;rw[zqe (by simp; omega)]; rfl
theorem zDL{c:Cse}(hc:zBe c)(hth:zzY c.Tariffs){k:Nat}{f:Fld}:zuv (zDI c k f)=some (zDI c k f):=zBB hth (by show(c.Fields.set k f).length≤6; rw[List.length_set]; have:=hc.len; omega)
theorem zDM{c:Cse}{which:Int}(_hw:0≤which∧which < 256)(h0:0 < c.Fields.length):∃(k:Nat) (f:Fld),which % (c.Fields.length:Int)=(k:Int)∧k < c.Fields.length∧c.Fields[k]? = some f:=by
 have h5:=Int.emod_nonneg which (show(c.Fields.length:Int) ≠ 0 by omega);have h6:=Int.emod_lt_of_pos which (show 0 < (c.Fields.length:Int) by omega);exact⟨(which % (c.Fields.length:Int)).toNat,_,by omega,by omega,List.getElem?_eq_getElem (by omega)⟩
structure Wd (f g:Fld):Prop where
 crop:g.Crop=f.Crop
 val:g.Value=f.Value
 near:g.Near=f.Near
 thr:∀t,zBC f t→zBC g t
theorem Wd.sets{f g:Fld}(h:Wd f g)(t:Thr):zBG g t=zBG f t:=by
 have e1:zBF g t↔zBF f t:=by unfold zBF; rw[h.near]
 unfold zBG
 by_cases hc:zBF f t
 ·rw[if_pos hc,if_pos (e1.2 hc)]
 ·rw[if_neg hc,if_neg fun h=>hc (e1.1 h)]
theorem Wd.oc{c x:Cse}(hx:x.Tariffs=c.Tariffs∧x.Day=c.Day){f g:Fld}(h:Wd f g)(t:Thr):ocN x g t=ocN c f t:=by
 have e1:zBF g t↔zBF f t:=by unfold zBF; rw[h.near]
 have e2:zBG g t=zBG f t:=by
  unfold zBG
  by_cases hc:zBF f t
  ·rw[if_pos hc,if_pos (e1.2 hc)]
  ·rw[if_neg hc,if_neg fun h=>hc (e1.1 h)]
 have e3:zBH g t=zBH f t:=by
  unfold zBH;rw[e2]
  by_cases hc:zBF f t
  ·rw[if_pos hc,if_pos (e1.2 hc)]
  ·rw[if_neg hc,if_neg fun h=>hc (e1.1 h)]
 unfold ocN zBY;rw[e2,e3,h.val,h.crop,hx.1,hx.2]
theorem Wd.rfl'(f:Fld):Wd f f:=⟨rfl,rfl,rfl,fun _ h=>h⟩
theorem zDN{g:Fld}:∀{fs:List Fld} {ts:List Thr} {k:Nat} {f:Fld},fs[k]? = some f→Wd f g→zCl fs ts→zCl (fs.set k g) ts
 | f::fs,t::ts,0,_,h,w,ht=>by cases h; exact⟨w.thr t ht.1,ht.2⟩
 | f::fs,t::ts,k+1,_,h,w,ht=>⟨ht.1,zDN (fs:=fs) (by simpa using h) w ht.2⟩
 | [],[],_,_,h,_,_=>by simp at h
theorem zDO{c x:Cse}(hx:x.Tariffs=c.Tariffs∧x.Day=c.Day){g:Fld}:∀{fs:List Fld} {ts:List Thr} {k:Nat} {f:Fld} {v:Ver},fs[k]? = some f→Wd f g→verF x (fs.set k g) ts v=verF c fs ts v
 | [],_,_,_,_,h,_=>by simp at h
 | f::fs,[],k,_,v,h,w=>by cases k <;> simp[verF]
 | f::fs,t::ts,0,_,v,h,w=>by
  cases h
  have hall:∀{gs:List Fld} {us:List Thr} {v:Ver},verF x gs us v=verF c gs us v:=by
   intro gs
   induction gs with
   | nil=>intro us v; simp[verF]
   | cons a gs ih=>
    intro us v
    cases us with
    | nil=>simp[verF]
    | cons u us=>rw[verF,verF,(Wd.rfl' a).oc hx,ih]
  show verF x (g::fs) (t::ts) v=_
  rw[verF,verF,w.oc hx,hall]
 | f::fs,t::ts,k+1,_,v,h,w=>by
  show verF x (f::fs.set k g) (t::ts) v=_
  rw[verF,verF,(Wd.rfl' f).oc hx,zDO hx (by simpa using h) w]
theorem zDP{c:Cse}{k:Nat}{f g:Fld}(hat:c.Fields[k]? = some f)(w:Wd f g){q:Ver→Int}{r s:Rg}(h:zCK c q r)(h':zCK (zDI c k g) q s):s.Lo≤r.Lo∧r.Hi≤s.Hi:=by
 have hv:∀ts,zCr (zDI c k g) ts=zCr c ts:=fun ts=>zDO (c:=c) (x:=zDI c k g) ⟨rfl,rfl⟩ hat w;obtain⟨t1,a1,a2⟩:=h.lo;obtain⟨t2,b1,b2⟩:=h.hi;have k1:=h'.all t1 (zDN hat w a1);have k2:=h'.all t2 (zDN hat w b1);rw[hv] at k1 k2
 omega
theorem zDQ{a b:Rg}{p q s t:Rg}{o w:Rg}{u v:List Int}(hu:u.length≤1000)(hv:v.length≤1000)(hsub:∀n∈u,n∈v)(h1:b.Lo≤a.Lo∧a.Hi≤b.Hi)(h2:s.Lo≤p.Lo∧p.Hi≤s.Hi)(h3:t.Lo≤q.Lo∧q.Hi≤t.Hi)(h4:w.Lo≤o.Lo∧o.Hi≤w.Hi):∀(d k:Nat),k≤u.length→u.length - k < d→zu0 (a,0) (b,0) (p,q,0) (s,t,0) (o,0) (w,0) (u,0) (v,0) d (k:Int)=some true
 | 0,k,_,h=>by omega
 | d+1,k,hk,h=>by
  rw[zu0]
  dsimp only
  by_cases hkl:k < u.length
  ·obtain⟨x,e1,e2⟩:=zCn hkl;rw[if_pos (by omega),zq1 e1,obs,(zDH hv).some_of (hsub x (List.mem_of_getElem? e1)),obs,if_pos rfl,zqe (fI (by omega)),show(k:Int)+1=((k+1:Nat):Int) by omega];exact zDQ hu hv hsub h1 h2 h3 h4 d (k+1) hkl (by omega)
  ·rw[if_neg (by omega),if_pos h1.1,if_pos h1.2,if_pos h2.1,if_pos h2.2,if_pos h3.1,if_pos h3.2,if_pos h4.1,if_pos h4.2,zDG]; rfl
theorem zDR{c:Cse}{which by_:Int}(_:OkC c)(hw:zl0 .u8 which)(hb:zl0 .u8 by_):zu1 c which by_=some true:=by
 have hw:=fU8 hw;have hb:=fU8 hb;unfold zu1
 refine Ev.pick zBz (fun hr=>?_) fun hr=>by rw[zqf rfl,zDG]; rfl
 obtain⟨⟨hth,hl⟩,hc⟩:=hr;have hlen:=hc.len;rw[if_pos rfl]
 by_cases h0:c.Fields.length=0
 ·rw[if_pos (by omega),zDG]; rfl
 obtain⟨k,f,hk,hkl,hat⟩:=zDM hw (show 0 < c.Fields.length by omega);have hf:=hc.fld f (List.mem_of_getElem? hat)
 have tn:(k:Int).toNat=k:=by omega
 have a1:=hf.fst.lo; have a2:=hf.fst.le; have a3:=hf.fst.hi;have b1:=hf.snd.lo; have b2:=hf.snd.le; have b3:=hf.snd.hi;have u1:=hf.ump.lo; have u2:=hf.ump.le; have u3:=hf.ump.hi;rw[if_neg (by omega),wz (fI (by omega)),wz (fI (by omega)),zqe (by omega),zqe (by omega),hk,zqe (fI (by omega)),zDK hc,obs]
 dsimp only
 rw[zq1 hat,obs];rw[zqe (by omega),zqe (by omega),zqe (fI (by omega)),zqe (fI (by omega)),zqe (by omega),zqe (by omega),zqe (fI (by omega)),zqe (by omega),zqe (by omega),zqe (fI (by omega)),zqe (fI (by omega))];rw[zqe (by omega),zqe (by omega),zqe (fI (by omega)),zqe (by omega),zqe (by omega),zqe (fI (by omega)),zqe (fI (by omega)),zqe (by omega),zqe (by omega),zqe (fI (by omega)),zqe (by omega),zqe (by omega),zqe (fI (by omega)),zqe (fI (by omega))];rw[zqe (by omega),zqe (by omega),zqe (fI (by omega)),zqe (fI (by omega)),zqe (by omega),zqe (by omega),zqe (fI (by omega)),zqe (by omega),zqe (by omega),zqe (fI (by omega)),zqe (fI (by omega)),tn,List.set_set,List.set_set];have hwd:Wd f ⟨f.Crop,f.Value,f.Near,⟨max (0:Int) (f.First.Lo - by_ % 3),min (100:Int) (f.First.Hi+by_ / 3 % 3)⟩,⟨max (0:Int) (f.Second.Lo - by_ / 9 % 3),min (100:Int) (f.Second.Hi+by_ / 27 % 3)⟩,⟨max (0:Int) (f.Umpire.Lo - by_ / 81),min (100:Int) (f.Umpire.Hi+by_ % 5 / 3)⟩⟩:=⟨rfl,rfl,rfl,fun t ht=>⟨by have:=ht.a; dsimp only; omega,by have:=ht.b; dsimp only; omega,by have:=ht.u; dsimp only; omega⟩⟩;generalize (⟨f.Crop,f.Value,f.Near,⟨max (0:Int) (f.First.Lo - by_ % 3),min (100:Int) (f.First.Hi+by_ / 3 % 3)⟩,⟨max (0:Int) (f.Second.Lo - by_ / 9 % 3),min (100:Int) (f.Second.Hi+by_ / 27 % 3)⟩,⟨max (0:Int) (f.Umpire.Lo - by_ / 81),min (100:Int) (f.Umpire.Hi+by_ % 5 / 3)⟩⟩:Fld)=g at hwd ⊢
 show(zux (zDI c k g)).bind _=_
 rw[zBx,obs]
 by_cases hfa:zBf (zDI c k g)=0
 ·have hx:=zBg.1 hfa;have hg:=hx.fld g (List.mem_of_getElem? (zDJ hkl));obtain⟨a,ha,ea⟩:=zCN hc;obtain⟨b,hb',eb⟩:=zCN hx;obtain⟨p,q,hp,ep,eq⟩:=zCO hc;obtain⟨s,t,hs,es,et⟩:=zCO hx;obtain⟨n1,o1,ho1,en1,eo1⟩:=zCR hc;obtain⟨n2,o2,ho2,en2,eo2⟩:=zCR hx;have hcs:=zDL (f:=g) hc hth (k:=k)
  have hcu:(zC4 f).length≤1000:=by have:=zDj (S:=zC3 f); unfold zC4; omega
  have hcv:(zC4 g).length≤1000:=by have:=zDj (S:=zC3 g); unfold zC4; omega
  rw[if_pos hfa,zBB hth hl,obs,ha,obs]
  show(zuv (zDI c k g)).bind _=_
  rw[hcs,obs,hb',obs,obs,hp,obs]
  show(zuv (zDI c k g)).bind _=_
  rw[hcs,obs,hs,obs,obs,ho1,obs]
  show(zuv (zDI c k g)).bind _=_
  rw[hcs,obs,ho2,obs,obs,zDa hc hat,obs]
  show(zuv (zDI c k g)).bind _=_
  rw[hcs,obs,zDa hx (zDJ hkl),obs,if_pos rfl,if_pos rfl,if_pos rfl,if_pos rfl,if_pos rfl,if_pos rfl,if_pos rfl,if_pos rfl]
  have hsub:∀n∈zC4 f,n∈zC4 g:=fun n hn=>by
   obtain⟨t',ht',he⟩:=(zC7 hf).1 hn;refine(zC7 hg).2 ⟨t',hwd.thr t' ht',?_⟩;rw[← he,hwd.sets]
  have m1:=zDP hat hwd en1 en2;have m2:=zDP hat hwd eo1 eo2;exact zDQ (o:=⟨n1.Lo,o1.Hi⟩) (w:=⟨n2.Lo,o2.Hi⟩) hcu hcv hsub (zDP hat hwd ea eb) (zDP hat hwd ep es) (zDP hat hwd eq et) ⟨m1.1,m2.2⟩ ((zC4 f).length+1) 0 (by omega) (by omega)
 ·rw[if_neg hfa,zDG]; rfl
end
end Go.Proofs.YteojndcmgpiklaaGreat

namespace Go.Proofs.YteojndcmgpiklaaGreat
open _root_.Go.Proofs.Tryz
open Go.ChangeShapes Go.WideShapes Go.ChangeAt Go.RowKit Go.Abs
set_option maxRecDepth 100000
theorem op3:zrr prog 3 Int (zl0 .i64):=zrs (by kernel_rfl)
theorem op4:zrr prog 4 Bool (fun _=>True):=zrt (by kernel_rfl)
theorem zDS:zrr prog 29 (List Int) (fun l=>l.length≤maxLen∧∀a0∈l,zl0 .i64 a0):=zrv (by kernel_rfl) (by kernel_rfl) op3
theorem zDT:zrr prog 140 (List (List Int)) (fun l=>l.length≤maxLen∧∀a0∈l,a0.length≤maxLen∧∀a1∈a0,zl0 .i64 a1):=zrv (by kernel_rfl) (by kernel_rfl) zDS
theorem zDU:zrr prog 78 (List (List (List Int))) (fun l=>l.length≤maxLen∧∀a0∈l,a0.length≤maxLen∧∀a1∈a0,a1.length≤maxLen∧∀a2∈a1,zl0 .i64 a2):=zrv (by kernel_rfl) (by kernel_rfl) zDT
theorem zDV:zrr prog 151 Tf zrE:=zrA (fs:=[(3,0),(4,1),(3,2),(29,3),(29,4),(78,5)]) (by kernel_rfl) (by kernel_rfl) (zrz (α:=Int) (ok:=zl0 .i64) (k:=1) op3 (by kernel_rfl) rfl (zrz (α:=Bool) (ok:=(fun _=>True)) (k:=1) op4 (by kernel_rfl) rfl (zrz (α:=Int) (ok:=zl0 .i64) (k:=1) op3 (by kernel_rfl) rfl (zrz (α:=List Int) (ok:=(fun l=>l.length≤maxLen∧∀a0∈l,zl0 .i64 a0)) (k:=1) zDS (by kernel_rfl) rfl (zrz (α:=List Int) (ok:=(fun l=>l.length≤maxLen∧∀a0∈l,zl0 .i64 a0)) (k:=1) zDS (by kernel_rfl) rfl (zrz (α:=List (List (List Int))) (ok:=(fun l=>l.length≤maxLen∧∀a0∈l,a0.length≤maxLen∧∀a1∈a0,a1.length≤maxLen∧∀a2∈a1,zl0 .i64 a2)) (k:=1) zDU (by kernel_rfl) rfl zry)))))) (by kernel_rfl) fun m vs h=>by
 obtain⟨a0,c0,r0,m0,h0,p0,k0,s0,⟨a1,c1,r1,m1,h1,p1,k1,s1,⟨a2,c2,r2,m2,h2,p2,k2,s2,⟨a3,c3,r3,m3,h3,p3,k3,s3,⟨a4,c4,r4,m4,h4,p4,k4,s4,⟨a5,c5,r5,m5,h5,p5,k5,s5,rfl⟩⟩⟩⟩⟩⟩:=h;have p0:c0=[.int .i64 a0]:=p0; subst p0;have p1:c1=[.bool a1]:=p1; subst p1;have p2:c2=[.int .i64 a2]:=p2; subst p2;obtain⟨d3,rfl,p3⟩:=p3;obtain⟨d4,rfl,p4⟩:=p4;obtain⟨d5,rfl,p5⟩:=p5;subst h5 h4 h3 h2 h1 h0;exact⟨⟨a0,a1,a2,a3,a4,a5⟩,⟨_,_,_,rfl,p3,p4,p5⟩,⟨k0,k1,k2,k3,k4,k5⟩⟩
theorem zDW:zrr prog 22 (List Tf) (fun l=>l.length≤maxLen∧∀a0∈l,zrE a0):=zrv (by kernel_rfl) (by kernel_rfl) zDV
theorem zDX:zrr prog 58 Rg zrC:=zrA (fs:=[(3,0),(3,1)]) (by kernel_rfl) (by kernel_rfl) (zrz (α:=Int) (ok:=zl0 .i64) (k:=1) op3 (by kernel_rfl) rfl (zrz (α:=Int) (ok:=zl0 .i64) (k:=1) op3 (by kernel_rfl) rfl zry)) (by kernel_rfl) fun m vs h=>by
 obtain⟨a0,c0,r0,m0,h0,p0,k0,s0,⟨a1,c1,r1,m1,h1,p1,k1,s1,rfl⟩⟩:=h;have p0:c0=[.int .i64 a0]:=p0; subst p0;have p1:c1=[.int .i64 a1]:=p1; subst p1;subst h1 h0;exact⟨⟨a0,a1⟩,rfl,⟨k0,k1⟩⟩
theorem zDY:zrr prog 60 Fld zrH:=zrA (fs:=[(3,0),(3,1),(3,2),(58,3),(58,5),(58,7)]) (by kernel_rfl) (by kernel_rfl) (zrz (α:=Int) (ok:=zl0 .i64) (k:=1) op3 (by kernel_rfl) rfl (zrz (α:=Int) (ok:=zl0 .i64) (k:=1) op3 (by kernel_rfl) rfl (zrz (α:=Int) (ok:=zl0 .i64) (k:=1) op3 (by kernel_rfl) rfl (zrz (α:=Rg) (ok:=zrC) (k:=2) zDX (by kernel_rfl) rfl (zrz (α:=Rg) (ok:=zrC) (k:=2) zDX (by kernel_rfl) rfl (zrz (α:=Rg) (ok:=zrC) (k:=2) zDX (by kernel_rfl) rfl zry)))))) (by kernel_rfl) fun m vs h=>by
 obtain⟨a0,c0,r0,m0,h0,p0,k0,s0,⟨a1,c1,r1,m1,h1,p1,k1,s1,⟨a2,c2,r2,m2,h2,p2,k2,s2,⟨a3,c3,r3,m3,h3,p3,k3,s3,⟨a4,c4,r4,m4,h4,p4,k4,s4,⟨a5,c5,r5,m5,h5,p5,k5,s5,rfl⟩⟩⟩⟩⟩⟩:=h;have p0:c0=[.int .i64 a0]:=p0; subst p0;have p1:c1=[.int .i64 a1]:=p1; subst p1;have p2:c2=[.int .i64 a2]:=p2; subst p2;have p3:c3=[.int .i64 a3.Lo,.int .i64 a3.Hi]:=p3; subst p3;have p4:c4=[.int .i64 a4.Lo,.int .i64 a4.Hi]:=p4; subst p4;have p5:c5=[.int .i64 a5.Lo,.int .i64 a5.Hi]:=p5; subst p5;subst h5 h4 h3 h2 h1 h0;exact⟨⟨a0,a1,a2,a3,a4,a5⟩,rfl,⟨k0,k1,k2,k3,k4,k5⟩⟩
theorem zDZ:zrr prog 23 (List Fld) (fun l=>l.length≤maxLen∧∀a0∈l,zrH a0):=zrv (by kernel_rfl) (by kernel_rfl) zDY
theorem zD0:zrr prog 25 Cse zrJ:=zrA (fs:=[(22,0),(3,1),(3,2),(23,3)]) (by kernel_rfl) (by kernel_rfl) (zrz (α:=List Tf) (ok:=(fun l=>l.length≤maxLen∧∀a0∈l,zrE a0)) (k:=1) zDW (by kernel_rfl) rfl (zrz (α:=Int) (ok:=zl0 .i64) (k:=1) op3 (by kernel_rfl) rfl (zrz (α:=Int) (ok:=zl0 .i64) (k:=1) op3 (by kernel_rfl) rfl (zrz (α:=List Fld) (ok:=(fun l=>l.length≤maxLen∧∀a0∈l,zrH a0)) (k:=1) zDZ (by kernel_rfl) rfl zry)))) (by kernel_rfl) fun m vs h=>by
 obtain⟨a0,c0,r0,m0,h0,p0,k0,s0,⟨a1,c1,r1,m1,h1,p1,k1,s1,⟨a2,c2,r2,m2,h2,p2,k2,s2,⟨a3,c3,r3,m3,h3,p3,k3,s3,rfl⟩⟩⟩⟩:=h;obtain⟨d0,rfl,p0⟩:=p0;have p1:c1=[.int .i64 a1]:=p1; subst p1;have p2:c2=[.int .i64 a2]:=p2; subst p2;obtain⟨d3,rfl,p3⟩:=p3;subst h3 h2 h1 h0;exact⟨⟨a0,a1,a2,a3⟩,⟨_,_,rfl,p0,p3⟩,⟨k0,k1,k2,k3⟩⟩
theorem zD1:laidOutB prog=true:=by kernel_rfl
theorem zD2:ownKnob prog.godebug=none:=by kernel_rfl
theorem zD3(os:Os)(started:os.Started)(H:Type)(enc:TypeId × Value→H) :
    ReturnsInHanded {} Tryz.checked os 14 .any (Rows.umpireWiderSpec.pre6 enc Tryz.prog Tryz.f14 Rows.umpireWiderRow.domain false) (Rows.umpireWiderSpec.post enc Tryz.prog Tryz.f14 false true false false):=by
  refine returnsInHanded_of_change (C:=Tryz.checked) zD2 started (by kernel_rfl) Tryz.func14
    (ChangeSpec.witness6 (enc:=enc) (C:=Tryz.checked) false ⟨#[],#[.agg #[.slice none 0 0,.int .i64 0,.int .i64 0,.slice none 0 0],.int .u8 0,.int .u8 0],[]⟩ 8 (by kernel_rfl) (by kernel_rfl) (by kernel_rfl) (by kernel_rfl)) ?_
  intro W base args ds gs before hval0 hW hcnd _;have hval:∀(j:Nat) t v,Tryz.f14.params[j]? = some t→args[j]? = some v→Value.okWide Tryz.prog W .any base t v:=hval0;have hW':=hW;obtain⟨p,q,hA0,hV,rfl,hfz,hnd⟩:=hW;have hA:DataW.TrodAll enc Tryz.prog W 0 (fun _=>true) true Tryz.f14.params.toList args.toList ds p:=hA0;rw[Tryz.params14] at hA hval;obtain⟨v0,v1,v2,d0,d1,d2,p0,p1,p2,rfl,rfl,rfl,h0,h1,h2⟩:=trodAll_three hA;obtain⟨rfl,rfl⟩:=trodVars_none hV;obtain⟨n1,hv1⟩:=okWide_int Tryz.underlying5 (hval 1 5 v1 rfl rfl);obtain⟨n2,hv2⟩:=okWide_int Tryz.underlying5 (hval 2 5 v2 rfl rfl)
  have hlt:∀x∈p0++p1++p2,x.block < W.heap.size:=fun x hx=>by simpa using hW'.lt x (by simpa using hx)
  obtain⟨fu0,hf0⟩:=id h0;obtain⟨fu1,hf1⟩:=id h1;obtain⟨fu2,hf2⟩:=id h2
  clear hA0 hval0
  obtain⟨e0,m0,w0,a_0,le0,sv0,lay0,cr0,rep0,ok0⟩:=zD0 H enc W true _ _ _ hf0 _ _ (Lay.nil W);obtain⟨i1,hc1,_,hw1⟩:=DataW.trod_int Tryz.underlying5 hf1;obtain⟨i2,hc2,_,hw2⟩:=DataW.trod_int Tryz.underlying5 hf2;obtain⟨c0_0,c0_3,rfl,g0_0,g0_3⟩:=rep0
  obtain⟨cs0,hv0,cl0⟩:∃cs,v0=.agg cs∧v0.cells.toList=cs.toList:=by
    have hl:=cr0.length
    cases v0 with
    | agg cs=>exact⟨cs,rfl,rfl⟩
    | _=>exact absurd hl (by simp[Value.cells])
  subst hv0;subst hv1
  have hi1:i1=n1:=by
    have h:[Value.int .u8 n1]=[.int .u8 i1]:=hc1
    cases h; rfl
  subst hi1;subst hv2
  have hi2:i2=n2:=by
    have h:[Value.int .u8 n2]=[.int .u8 i2]:=hc2
    cases h; rfl
  subst hi2;have hargs:zen (VR e0) [.agg 4 [c0_0,.int .i64 a_0.Day,.int .i64 a_0.Fee,c0_3],.c (.int .u8 i1),.c (.int .u8 i2)] [.agg cs0,.int .u8 i1,.int .u8 i2]:=.cons ⟨cs0,rfl,cr0,rfl⟩ (.cons rfl (.cons rfl .nil));refine(callsIn_wide.1 (zqr fits htab (zAW (c:=a_0) (which:=i1) (by_:=i2) lay0.pre g0_0 g0_3 (zDR ok0 (zqp hw1) (zqp hw2)) (Q:=fun v _=>v=.c (.bool true)) fun _ _=>rfl) lay0.hr (args':=#[.agg cs0,.int .u8 i1,.int .u8 i2]) hargs 0)).mono fun en W' hp=>?_;obtain⟨v,v',e',m',rfl,hst,hvr,rfl⟩:=hp;have hv':v'=.bool true:=hvr;subst hv';have hbelow:=lay0.below hst
  refine⟨_,rfl,[d0,d1,d2],[],p0++p1++p2,[],p0++(p1++p2),[],by simpa using hW',trodAll_mk1 (shut_bool Tryz.underlying4 _),
    trodAll_mk3 (Below.trod zD1 (by kernel_rfl) (of_decide_eq_true (by kernel_rfl)) h0 hbelow fun x hx=>hlt x (by simp[hx])) (Below.trod zD1 (by kernel_rfl) (of_decide_eq_true (by kernel_rfl)) h1 hbelow fun x hx=>hlt x (by simp[hx])) (Below.trod zD1 (by kernel_rfl) (of_decide_eq_true (by kernel_rfl)) h2 hbelow fun x hx=>hlt x (by simp[hx])),rfl,lay0.kept hst _,fun hc=>by cases hc⟩
theorem UmpireWider_holds:Rows.UmpireWiderSaid:=
 OpenClaim.holds_of_wide 14 Tryz.f14 rfl rfl rfl rfl rfl rfl rfl ⟨rfl,rfl,rfl,rfl,rfl⟩ rfl rfl rfl rfl rfl (by kernel_rfl) Tryz.func14 (by kernel_rfl)
  (of_decide_eq_true (by kernel_rfl)) (by unfold Func.isWrapper; first | (rw[if_pos (by decide +kernel)]; kernel_rfl) | (rw[if_neg (by decide +kernel)]; exact⟨rfl,rfl⟩))
  (fun os started H enc _=>zD3 os started H enc)
end Go.Proofs.YteojndcmgpiklaaGreat

