/- UmpireEnds, for all that it can be called with, returns true. Condition: none. -/
import Derived.Test.YteojndcmgpiklaaGreatUdJ
import GoSem.Step
import GoSem.ClaimKeys
import Derived.DeepKeys2
import Derived.RangeFuncLeaves
import Derived.OrdersIn
import Derived.Laws.World
import Derived.Laws.Sem
import Derived.RangeFuncRecord
import Derived.Laws.CopyRow
import Derived.Laws.Append
import Derived.Laws.Rows
import Derived.Laws.Slices
import Derived.Laws.Entries
import Derived.ChangeKeysEq
import Derived.IntWalk
import Derived.DeepKeys
import Derived.DeepKeys3
import Derived.Laws.StructEq
import Derived.MapKept
import Derived.Laws.AppendOwn
import Derived.ChangeArms
import Derived.ChangeOld
import Derived.Carry
import Derived.ChangeShapes
import Derived.KernelRfl
import Derived.ProofKit
import Derived.Test.YteojndcmgpiklaaGreatRows

namespace Go.Proofs.YteojndcmgpiklaaGreat
open _root_.Go.Proofs.Tryz
open Go.Abs
set_option maxRecDepth 100000
noncomputable section
def zDS(f:Fld)(t:Thr):Fld:=⟨f.Crop,f.Value,f.Near,⟨t.First,t.First⟩,⟨t.Second,t.Second⟩,f.Umpire⟩
theorem zDT{l:List Tf}{f:Fld}(hf:zBQ l f){t:Thr}(ht:zCf f t):zBQ l (zDS f t):=by
 have hr:=ht.rng hf;have h1:=hr.a; have h2:=hr.b;exact⟨hf.crop,hf.val,hf.near,⟨h1.1,Int.le_refl _,h1.2,by show t.First - t.First≤4; omega⟩,⟨h2.1,Int.le_refl _,h2.2,by show t.Second - t.Second≤4; omega⟩,hf.ump⟩
theorem zDU{c:Cse}(hc:zBR c){f:Fld}(hf:zBQ c.Tariffs f){p:Int}{l:List Int}(hl:∀n∈l,0≤n∧n≤100)(hlen:l.length≤1000){M0:Option (Clm→Option Int)}:∀(d k:Nat) (S:Nat→Bool) (M:Option (Clm→Option Int)),k≤l.length→l.length - k < d→zCC c M →
  ∃M',zuk ⟨c,M0⟩ f p l d (FL S) M (k:Int)=some (FL (fun j=>if (j:Int)∈l.drop k then decide (zCB c f j=p) else S j),M')∧zCC c M'
 | 0,k,_,_,_,h,_=>by omega
 | d+1,k,S,M,hk,h,hM=>by
  rw[zuk]
  by_cases hkl:k < l.length
  ·obtain⟨n,h1,h2⟩:=zC0 hkl;have hn:=hl n (List.mem_of_getElem? h1);obtain⟨M1,g1,g2⟩:=zCG hc hM hf hn;rw[if_pos (by omega),zq2 h1,obs]
   dsimp only
   rw[g1,obs,zqe (by omega),zqe zDw,zqe (fI (by omega)),zDz (by omega),show(k:Int)+1=((k+1:Nat):Int) by omega];obtain⟨M',q1,q2⟩:=zDU hc hf hl hlen (M0:=M0) d (k+1) _ M1 hkl (by omega) g2;refine⟨M',?_,q2⟩;rw[q1]
   congr 3
   funext j
   rw[h2]
   by_cases hj:(j:Int)∈l.drop (k+1)
   ·rw[if_pos hj,if_pos (List.mem_cons_of_mem _ hj)]
   ·rw[if_neg hj]
    by_cases he:j=n.toNat
    ·rw[if_pos he,if_pos (by rw[show(j:Int)=n by omega]; exact List.mem_cons_self ..),show(j:Int)=n by omega]
    ·rw[if_neg he,if_neg fun hm=>(List.mem_cons.1 hm).elim (fun h=>he (by omega)) hj]
  ·rw[if_neg (by omega),List.drop_eq_nil_of_le (by omega)];exact⟨M,by simp,hM⟩
def zDV(c:Cse)(f:Fld)(t:Thr):Prop:=∃n∈zDI (zDS f t),zCB c f n ≠ zCB c f (zCj f t)
instance (c:Cse) (f:Fld) (t:Thr):Decidable (zDV c f t):=by unfold zDV; infer_instance
theorem zDW{S:Nat→Bool}:(zmH S).length≤101:=by
 unfold zmH;rw[List.length_map];refine Nat.le_trans (List.length_filter_le ..) ?_
 simp
theorem zDX{S T:Nat→Bool}:FL S=FL T↔∀k,k < 101→S k=T k:=by
 constructor
 ·intro h k hk;have h1:=zDx (S:=S) hk;rw[h,zDx hk] at h1;exact(oi h1).symm
 ·intro h
  exact zDy zDw fun k hk=>by rw[zDx hk,h k hk]
theorem zDY{c:Cse}(hc:zBR c){M:Option (Clm→Option Int)}(hM:zCC c M){f:Fld}(hf:zBQ c.Tariffs f){t:Thr}(ht:zCf f t):∃M',zum ⟨c,M⟩ f t=some (decide (zDV c f t),M')∧zCC c M':=by
 have hr:=ht.rng hf;obtain⟨M1,g1,g2⟩:=zCG hc hM hf (zCo (f:=f) hr);have ho:=zDT hf ht
 have hl:∀n∈zmH (zDH (zDS f t)),0≤n∧n≤100:=fun n hn=>by
  obtain⟨k,rfl,hk,_⟩:=zDE.1 hn
  omega
 have hlen:=zDW (S:=zDH (zDS f t));obtain⟨M',q1,q2⟩:=zDU hc ho (p:=zCB c f (zCj f t)) hl (by omega) (M0:=M1) ((zmH (zDH (zDS f t))).length+1) 0 (zDH (zDS f t)) M1 (by omega) (by omega) g2;refine⟨M',?_,q2⟩;unfold zum;rw[zCp hr,obs,g1,obs]
 show(ztU (zDS f t)).bind _=_
 rw[zDK ho,obs]
 have e:zul ⟨c,M1⟩ (zDS f t) (FL (zDH (zDS f t))) (zCB c f (zCj f t))=some (FL (fun j=>if (j:Int)∈(zmH (zDH (zDS f t))).drop 0 then decide (zCB c (zDS f t) j=zCB c f (zCj f t)) else zDH (zDS f t) j),M'):=by
  unfold zul;rw[zDD,obs];exact q1
 show(zul ⟨c,M1⟩ (zDS f t) (FL (zDH (zDS f t))) (zCB c f (zCj f t))).bind _=_
 rw[e,obs,zqe ⟨zDw,zDw⟩]
 congr 2
 have key:(FL (fun j=>if (j:Int)∈(zmH (zDH (zDS f t))).drop 0 then decide (zCB c (zDS f t) j=zCB c f (zCj f t)) else zDH (zDS f t) j)=FL (zDH (zDS f t)))↔¬ zDV c f t:=by
  rw[zDX];unfold zDV zDI;rw[List.drop_zero]
  constructor
  ·rintro h ⟨n,hn,hne⟩
   obtain⟨k,rfl,hk,hs⟩:=zDE.1 hn;have:=h k hk;rw[if_pos hn,hs] at this;exact hne (of_decide_eq_true this)
  ·intro h k hk
   by_cases hm:(k:Int)∈zmH (zDH (zDS f t))
   ·rw[if_pos hm];obtain⟨k',he,_,hs⟩:=zDE.1 hm;rw[show k=k' by omega,hs,← show k=k' by omega];exact decide_eq_true (Classical.byContradiction fun hn=>h ⟨_,hm,hn⟩)
   ·rw[if_neg hm]
 by_cases hm:zDV c f t
 ·rw[decide_eq_true hm,decide_eq_false fun h=>(key.1 h) hm]; rfl
 ·rw[decide_eq_false hm,decide_eq_true (key.2 hm)]; rfl
def zDZ(c:Cse)(f:Fld):Bool:=(zCs f).any fun t=>decide (zDV c f t)
def zD0(c:Cse):List Fld→Nat→List Int
 | [],_=>[]
 | f::fs,k=>if zDZ c f=true then (k:Int)::zD0 c fs (k+1) else zD0 c fs (k+1)
theorem zD1{c:Cse}(hc:zBR c){f:Fld}(hf:zBQ c.Tariffs f){k:Nat}(hk:k≤1000){M0:Option (Clm→Option Int)}{K:List Int→Option (Clm→Option Int)→Int→Option (List Int × Option (Clm→Option Int))}{a:List Int}(ha:a.length≤1000){F:List Int→List Int}
  (hK:∀(a':List Int) M,a'.length≤a.length+1→zCC c M→∃M',K a' M ((k:Int)+1)=some (F a',M')∧zCC c M'):∀(l:List Thr) M,zCC c M→(∀t∈l,zCf f t)→∃M',zuo ⟨c,M0⟩ (k:Int) f K l a M=some (F (if (l.any fun t=>decide (zDV c f t))=true then a++[(k:Int)] else a),M')∧zCC c M'
 | [],M,hM,_=>by
  obtain⟨M',h1,h2⟩:=hK a M (by omega) hM;refine⟨M',?_,h2⟩;rw[zuo,zqe (fI (by omega)),h1]; rfl
 | t::l,M,hM,hl=>by
  obtain⟨M1,h1,h2⟩:=zDY hc hM hf (hl t (List.mem_cons_self ..));rw[zuo]
  dsimp only
  rw[h1,obs]
  by_cases hm:zDV c f t
  ·rw[if_pos (decide_eq_true hm),zqe (by omega)];unfold zun;obtain⟨M',q1,q2⟩:=hK (a++[(k:Int)]) M1 (by simp) h2;refine⟨M',?_,q2⟩;rw[zqe (fI (by omega)),q1,List.any_cons,decide_eq_true hm,Bool.true_or,if_pos rfl]
  ·obtain⟨M',q1,q2⟩:=zD1 hc hf hk (M0:=M0) ha hK l M1 h2 fun u hu=>hl u (List.mem_cons_of_mem _ hu);refine⟨M',?_,q2⟩;rw[zqf (decide_eq_false hm),q1,List.any_cons,decide_eq_false hm,Bool.false_or]
theorem zD2{c:Cse}(hc:zBR c){M0:Option (Clm→Option Int)}:∀(d k:Nat) (a:List Int) M,k≤c.Fields.length→c.Fields.length - k < d→a.length≤k→zCC c M→∃M',zup ⟨c,M0⟩ d a M (k:Int)=some (a++zD0 c (c.Fields.drop k) k,M')∧zCC c M'
 | 0,k,_,_,_,h,_,_=>by omega
 | d+1,k,a,M,hk,h,ha,hM=>by
  have hlen:=hc.len;rw[zup]
  dsimp only
  by_cases hkl:k < c.Fields.length
  ·obtain⟨f,h1,h2⟩:=zC0 hkl;have hf:=hc.fld f (List.mem_of_getElem? h1);rw[if_pos (by omega),zq2 h1,obs,zCA hf,obs,h2]
   have hK:∀(a':List Int) M,a'.length≤a.length+1→zCC c M→∃M',zup ⟨c,M0⟩ d a' M ((k:Int)+1)=some (a'++zD0 c (c.Fields.drop (k+1)) (k+1),M')∧zCC c M':=fun a' M' ha' hM'=>by
    rw[show(k:Int)+1=((k+1:Nat):Int) by omega];exact zD2 hc d (k+1) a' M' hkl (by omega) (by omega) hM'
   obtain⟨M',q1,q2⟩:=zD1 hc hf (k:=k) (by omega) (M0:=M0) (a:=a) (by omega) (F:=fun a'=>a'++zD0 c (c.Fields.drop (k+1)) (k+1)) hK (zCs f) M hM fun t ht=>(zCv hf).1 ht;refine⟨M',?_,q2⟩;rw[q1,zD0];unfold zDZ
   split <;> simp
  ·rw[if_neg (by omega),List.drop_eq_nil_of_le (by omega)];exact⟨M,by simp[zD0],hM⟩
theorem zD3{c:Cse}(hc:zBR c):zuu c=some (zD0 c c.Fields 0,0):=by
 obtain⟨M',h1,h2⟩:=zD2 hc (M0:=some fun _=>none) (c.Fields.length+1) 0 [] (some fun _=>none) (by omega) (by omega) (by simp) zCD;unfold zuu;rw[zDa hc,obs,if_pos rfl];unfold zuq
 show(zup ⟨c,some fun _=>none⟩ (c.Fields.length+1) [] (some fun _=>none) ((0:Nat):Int)).bind _=_
 rw[h1]; rfl
def befU:List Int→List Int→Bool
 | x::a,y::b=>if x=y then befU a b else decide (x < y)
 | [],_::_=>true
 | _,[]=>false
theorem zD4:∀{a b:List Int},a.length=b.length→befU a b=false→befU b a=false→a=b
 | [],[],_,_,_=>rfl
 | x::a,y::b,hl,h1,h2=>by
  simp only[befU] at h1 h2
  by_cases he:x=y
  ·subst he;rw[if_pos rfl] at h1 h2;rw[zD4 (Nat.succ.inj hl) h1 h2]
  ·rw[if_neg he] at h1;rw[if_neg fun h=>he h.symm] at h2;have:=of_decide_eq_false h1;have:=of_decide_eq_false h2
   omega
theorem zD5:∀{a:List Int},befU a a=false
 | []=>rfl
 | x::a=>by simp only[befU]; rw[if_pos trivial]; exact zD5
theorem zD6{a b:List Int}(hl:a.length≤1000):∀(d k:Nat),k≤a.length→a.length - k < d→zr3 a b d (k:Int)=some (befU (a.drop k) (b.drop k))
 | 0,_,_,h=>by omega
 | d+1,k,hk,h=>by
  rw[zr3]
  by_cases hka:k < a.length
  ·rw[if_pos (by omega)];have da:=List.drop_eq_getElem_cons hka;have ga:=List.getElem?_eq_getElem hka
   by_cases hkb:k < b.length
   ·have db:=List.drop_eq_getElem_cons hkb;have gb:=List.getElem?_eq_getElem hkb;rw[if_pos (by omega),zq2 ga,obs,zq2 gb,obs,da,db];unfold befU
    by_cases he:a[k]=b[k]
    ·rw[if_pos he,if_pos he,zqe (fI (by omega)),show(k:Int)+1=((k+1:Nat):Int) by omega];exact zD6 hl d (k+1) (by omega) (by omega)
    ·rw[if_neg he,if_neg he,obs,obs]
   ·rw[if_neg (by omega),da,List.drop_eq_nil_of_le (show b.length≤k by omega),decide_eq_false (by omega)]; rfl
  ·rw[if_neg (by omega),List.drop_eq_nil_of_le (show a.length≤k by omega)]
   by_cases hkb:k < b.length
   ·rw[List.drop_eq_getElem_cons hkb,decide_eq_true (by omega)]; rfl
   ·rw[List.drop_eq_nil_of_le (show b.length≤k by omega),decide_eq_false (by omega)]; rfl
theorem zD7{a b:List Int}(hl:a.length≤1000):zr4 a b=some (befU a b):=zD6 hl (a.length+1) 0 (Nat.zero_le _) (by omega)
theorem zD8{a b:List Int}(ha:a.length≤1000):Ev (zr5 a b) (a=b):=by
 unfold zr5
 by_cases hl:a.length=b.length
 ·rw[if_pos (by omega),zD7 ha,obs]
  cases h1:befU a b with
  | true=>
   rw[if_pos rfl]
   exact Ev.ff fun he=>by subst he; rw[zD5] at h1; cases h1
  | false=>
   rw[if_neg (by simp),zD7 (by omega),obs];refine Ev.mk' ?_
   cases h2:befU b a with
   | true=>exact⟨fun h=>(by cases h),fun he=>(by subst he; rw[zD5] at h2; cases h2)⟩
   | false=>exact⟨fun _=>zD4 hl h1 h2,fun _=>rfl⟩
 ·rw[if_neg (by omega)];exact Ev.ff fun he=>hl (by rw[he])
theorem zD9{a b:Res}(ha:a.Counts.length≤1000):Ev (zuQ a b) (a=b):=by
 refine(Ev.and (zD8 ha) fun _=>Ev.ite fun _=>Ev.ite fun _=>Ev.dec Iff.rfl).imp ?_;obtain⟨a1,a2,a3,a4⟩:=a;obtain⟨b1,b2,b3,b4⟩:=b
 simp
def tfU:Tf:=⟨0,true,0,[0],[0,100],[[[0,100]]]⟩
def fA:Fld:=⟨0,1000,4,⟨40,41⟩,⟨30,30⟩,⟨33,36⟩⟩
def fB:Fld:=⟨0,200,4,⟨20,20⟩,⟨17,18⟩,⟨0,4⟩⟩
def zEa:Cse:=⟨[tfU],10,31,[fA,fB]⟩
theorem zEb:zuS=some zEa:=rfl
theorem zEc{α:Type}{a:α}{P:α→Prop}(h:P a):∀x∈[a],P x:=fun x hx=>by rw[List.mem_singleton.1 hx]; exact h
theorem zEd:zzM [tfU]=0:=by
 refine zzN.2 ⟨?_,⟨by simp,zEc ⟨by decide,by decide,⟨by simp[tfU],rfl,by simp[tfU]⟩,⟨by simp[tfU],rfl,by simp[tfU]⟩,rfl,by simp[tfU],zEc ⟨rfl,zEc ⟨rfl,by simp⟩⟩⟩,by simp,rfl,zEc rfl⟩⟩
 rintro (h | ⟨t,ht,h⟩)
 ·simp at h
 ·rw[List.mem_singleton.1 ht] at h;unfold zzK at h
  simp[tfU] at h
theorem zEe:zBR zEa:=by
 refine⟨zEd,by decide,by decide,by decide,fun f hf=>?_⟩
 rcases List.mem_cons.1 hf with rfl | hf
 ·exact⟨by decide,by decide,by decide,⟨by decide,by decide,by decide,by decide⟩,⟨by decide,by decide,by decide,by decide⟩,⟨by decide,by decide,by decide,by decide⟩⟩
 ·rw[List.mem_singleton.1 hf];exact⟨by decide,by decide,by decide,⟨by decide,by decide,by decide,by decide⟩,⟨by decide,by decide,by decide,by decide⟩,⟨by decide,by decide,by decide,by decide⟩⟩
theorem zEf{P:List Thr→Prop}(h:∀a∈zCs fA,∀b∈zCs fB,P [a,b]):∀ts,zCY zEa.Fields ts→P ts:=by
 intro ts ht
 match ts,ht with
 | [a,b],ht=>exact h a ((zCv (zEe.fld fA (by simp[zEa]))).2 ht.1) b ((zCv (zEe.fld fB (by simp[zEa]))).2 ht.2.1)
 | [],ht=>exact ht.elim
 | [_],ht=>exact ht.2.elim
 | _::_::_::_,ht=>exact ht.2.2.elim
theorem zEg{a b:Thr}(ha:a∈zCs fA)(hb:b∈zCs fB):zCY zEa.Fields [a,b]:=⟨(zCv (zEe.fld fA (by simp[zEa]))).1 ha,(zCv (zEe.fld fB (by simp[zEa]))).1 hb,trivial⟩
theorem zEh{q:Ver→Int}{r:Rg}(h:zDo zEa q r){lo:Int}(hb:∀a∈zCs fA,∀b∈zCs fB,lo≤q (zC5 zEa [a,b]))(hlo:∃a∈zCs fA,∃b∈zCs fB,q (zC5 zEa [a,b])=lo):r.Lo=lo:=by
 obtain⟨t1,h1,h2⟩:=h.lo;obtain⟨a,ha,b,hb',e1⟩:=hlo;have k1:=h.all _ (zEg ha hb');have k3:=zEf (P:=fun ts=>lo≤q (zC5 zEa ts)) hb t1 h1
 omega
theorem zEi{q:Ver→Int}{r:Rg}(h:zDo zEa q r){hi:Int}(hb:∀a∈zCs fA,∀b∈zCs fB,q (zC5 zEa [a,b])≤hi)(hhi:∃a∈zCs fA,∃b∈zCs fB,q (zC5 zEa [a,b])=hi):r.Hi=hi:=by
 obtain⟨t1,h1,h2⟩:=h.hi;obtain⟨a,ha,b,hb',e1⟩:=hhi;have k1:=h.all _ (zEg ha hb');have k3:=zEf (P:=fun ts=>q (zC5 zEa ts)≤hi) hb t1 h1
 omega
theorem zEj:zvf=some true:=by
 obtain⟨a,ha,ea⟩:=zDr zEe;obtain⟨x,y,hx,ex,ey⟩:=zDs zEe;obtain⟨n,o,ho,en,eo⟩:=zDv zEe;have a1:a.Lo=366:=zEh ea (by decide) (by decide);have a2:a.Hi=398:=zEi ea (by decide) (by decide);have x1:x.Lo=0:=zEh ex (by decide) (by decide);have x2:x.Hi=31:=zEi ex (by decide) (by decide);have y1:y.Lo=0:=zEh ey (by decide) (by decide);have y2:y.Hi=31:=zEi ey (by decide) (by decide);have n1:n.Lo=335:=zEh en (by decide) (by decide);have o2:o.Hi=429:=zEi eo (by decide) (by decide)
 have hP:zur zEa [⟨40,30,35⟩,⟨20,17,0⟩]=some (⟨[35,18],386,16,15⟩,0):=by
  have i1:(⟨40,30,35⟩:Thr)∈zCs fA:=(zCv (zEe.fld fA (by simp[zEa]))).2 ⟨by decide,by decide,by decide⟩;have i2:(⟨20,17,0⟩:Thr)∈zCs fB:=(zCv (zEe.fld fB (by simp[zEa]))).2 ⟨by decide,by decide,by decide⟩;rw[zDb zEe (zEg i1 i2)];refine congrArg (fun r=>some (r,(0:Int))) ?_
  have r1:(zC6 zEa [⟨40,30,35⟩,⟨20,17,0⟩]).Counts=[35,18]:=by decide
  have r2:(zC6 zEa [⟨40,30,35⟩,⟨20,17,0⟩]).Award=386:=by decide
  have r3:(zC6 zEa [⟨40,30,35⟩,⟨20,17,0⟩]).Farmer=16:=by decide
  have r4:(zC6 zEa [⟨40,30,35⟩,⟨20,17,0⟩]).Society=15:=by decide
  generalize zC6 zEa [⟨40,30,35⟩,⟨20,17,0⟩]=R at r1 r2 r3 r4;obtain⟨_,_,_,_⟩:=R
  dsimp only at r1 r2 r3 r4
  subst_vars; rfl
 have hC:zus zEa (0:Int)=some ([33,34,35,36],0):=by
  rw[show zus zEa (0:Int)=_ from zDN zEe (k:=0) (f:=fA) rfl];exact congrArg (fun r=>some (r,(0:Int))) (by decide)
 have hD:zut zEa (1:Int)=some (2,0):=by
  rw[show zut zEa (1:Int)=_ from zDR zEe (k:=1) (f:=fB) rfl];exact congrArg (fun r=>some (r,(0:Int))) (by decide)
 have hM:zuu zEa=some ([0],0):=by
  rw[zD3 zEe];exact congrArg (fun r=>some (r,(0:Int))) (by decide)
 have fz:∀n:Int,0≤n∧n≤1000→zl0 .i64 n:=fun n h=>fI (by omega);unfold zvf;rw[zEb,obs,show zuT 40 35 17=some [⟨40,30,35⟩,⟨20,17,0⟩] from rfl,obs,hP,obs,obs,hC,obs,obs,hD,obs,obs,ha,obs,obs,hx,obs,obs,ho,obs,obs,hM,obs];rw[if_pos rfl,(zD9 (by decide)).some_of rfl,obs,if_pos rfl,if_pos rfl,(zD8 (by decide)).some_of rfl,obs,if_pos rfl,if_pos rfl,if_pos rfl,if_pos rfl]
 show Go.Abs.gd _ _=_
 dsimp only
 rw[a1,a2,x1,x2,y1,y2,n1,o2];rw[zqe (fz _ (by omega)),zqe (fz _ (by omega)),zqe (fz _ (by omega)),zqe (fz _ (by omega)),if_pos rfl,if_pos rfl]
 show Go.Abs.gd _ _=_
 dsimp only
 rw[zqe (fz _ (by omega)),zqe (fz _ (by omega)),zqe (fz _ (by omega)),zqe (fz _ (by omega)),if_pos rfl,zqe (fz _ (by omega)),zqe (fz _ (by omega)),zqe (fz _ (by omega)),zqe (fz _ (by omega)),if_pos (by decide),if_pos (by decide)]
 show Go.Abs.gd _ _=_
 dsimp only
 rw[zqe (fz _ (by omega)),zqe (fz _ (by omega)),zqe (fz _ (by omega)),zqe (fz _ (by omega)),if_pos (by decide),(zD8 (by decide)).some_of rfl]; rfl
theorem zEk{f:Fld}(h:zBO f.Umpire){x y:Int}(hy:-1000≤y∧y≤1000){K:List Thr→Int→Option (List Thr)}:∀(d n:Nat) (k:Int) (acc:List Thr),f.Umpire.Lo≤k→n < d→k+n=f.Umpire.Hi+1→acc.length+n≤1000→zuH f x y K d acc k=K (acc++(segI k n).map (fun u=>⟨x,y,u⟩)) (y+1)
 | 0,n,k,_,_,h2,_,_=>by omega
 | d+1,0,k,acc,_,_,h3,_=>by
  rw[zuH,if_neg (by omega),zqe (fI (by omega))]; simp[segI]
 | d+1,n+1,k,acc,h1,h2,h3,h4=>by
  have:=h.lo; have:=h.hi;rw[zuH,if_pos (by omega),zqe (by omega),zqe (fI (by omega)),zEk h hy d n (k+1) _ (by omega) (by omega) (by omega) (by simp; omega)]
  simp[segI]
theorem zEl{f:Fld}(hu:zBO f.Umpire)(h:zBO f.Second){x:Int}(hx:-1000≤x∧x≤1000){K:List Thr→Int→Option (List Thr)}:∀(d n:Nat) (k:Int) (acc:List Thr),f.Second.Lo≤k→n < d→k+n=f.Second.Hi+1→acc.length+5 * n≤1000→zuI f x K d acc k=K (acc++(segI k n).flatMap (fun b=>(segI f.Umpire.Lo (cnt f.Umpire)).map fun u=>⟨x,b,u⟩)) (x+1)
 | 0,n,k,_,_,h2,_,_=>by omega
 | d+1,0,k,acc,_,_,h3,_=>by
  rw[zuI,if_neg (by omega),zqe (fI (by omega))]; simp[segI]
 | d+1,n+1,k,acc,h1,h2,h3,h4=>by
  have:=h.lo; have:=h.hi; have:=hu.le;have:=zCu hu;rw[zuI,if_pos (by omega),zEk hu (by omega) 1000000 (cnt f.Umpire) f.Umpire.Lo _ (by omega) (by omega) (by unfold cnt; omega) (by omega),zEl hu h hx d n (k+1) _ (by omega) (by omega) (by omega) (by simp[zrn]; omega)]
  simp[segI]
theorem zEm{f:Fld}(hu:zBO f.Umpire)(hs:zBO f.Second)(h:zBO f.First):∀(d n:Nat) (k:Int) (acc:List Thr),f.First.Lo≤k→n < d→k+n=f.First.Hi+1→acc.length+25 * n≤1000→zuJ f d acc k=some (acc++(segI k n).flatMap fun a=>(segI f.Second.Lo (cnt f.Second)).flatMap fun b=>(segI f.Umpire.Lo (cnt f.Umpire)).map fun u=>⟨a,b,u⟩)
 | 0,n,k,_,_,h2,_,_=>by omega
 | d+1,0,k,acc,_,_,h3,_=>by
  rw[zuJ,if_neg (by omega)]; simp[segI]
 | d+1,n+1,k,acc,h1,h2,h3,h4=>by
  have:=h.lo; have:=h.hi; have:=hs.le;have c1:=zCu hs; have c2:=zCu hu;have hm:cnt f.Second * cnt f.Umpire≤25:=Nat.mul_le_mul c1.2 c2.2;rw[zuJ,if_pos (by omega),zEl hu hs (by omega) 1000000 (cnt f.Second) f.Second.Lo _ (by omega) (by omega) (by unfold cnt; omega) (by omega),zEm hu hs h d n (k+1) _ (by omega) (by omega) (by omega) (by simp[List.length_flatMap,zrn,List.map_const',List.sum_replicate_nat]; omega)]
  simp[segI]
theorem zEn{l:List Tf}{f:Fld}(h:zBQ l f):zuK f=some (zCs f):=by
 have:=zCu h.fst; have:=h.fst.le;unfold zuK;rw[zEm h.ump h.snd h.fst 1000000 (cnt f.First) f.First.Lo [] (by omega) (by omega) (by unfold cnt; omega) (by simp; omega)]; rfl
theorem zEo{a b:Int}(ha:0≤a∧a≤100)(hb:0≤b∧b≤100):zuy a b=some (zCh a b):=by
 unfold zuy zCh
 by_cases h:a < b
 ·rw[if_pos h,zqe (fI (by omega))]; congr 1; omega
 ·rw[if_neg h,zqe (fI (by omega))]; congr 1; omega
theorem zEp{f:Fld}{t:Thr}(h:zCg t):Ev (zuz f t) (zCi f t):=Ev.bind (zEo h.a h.b) (Ev.dec Iff.rfl)
theorem zEq{f:Fld}{t:Thr}(h:zCg t):zuA f t=some (zCj f t):=by
 have h1:=h.a; have h2:=h.b;unfold zuA zCj
 refine Ev.pick (zEp h) (fun hc=>?_) fun hc=>by
  rw[zqf rfl,if_neg hc,zqe (fI (by omega)),zqe (by omega),zqe (by omega),zqe (fI (by omega))]
 rw[if_pos rfl,if_pos hc]
 repeat' split
 all_goals (congr 1; omega)
def OkC(c:Cse):Prop:=zrK c
theorem zEr{c:Cse}(hc:zBR c){f:Fld}(hf:zBQ c.Tariffs f){n:Int}(hn:0≤n∧n≤100):zuB c f n=some (zCB c f n):=by
 have h1:=VL.part_rng (zzN.1 hc.tar).2 hf.crop.1 hf.crop.2 hn.1 hn.2 c.Day;have h2:=zBh hf.val h1;unfold zuB;rw[zAN hc.tar hf.crop.1 hf.crop.2 hn.1 hn.2,obs,zqe hf.val.1,zqe h1.1,zqe (fI (by omega)),zqe h2.1,zqe (by omega),zqe (fI (by omega))]; rfl
def zEs(c:Cse)(f:Fld)(t:Thr):OcR:=⟨zCB c f (zCj f t),decide (zCi f t),if zCi f t then (if zCh t.Second (zCj f t) < zCh t.First (zCj f t) then 1 else if zCh t.First (zCj f t) < zCh t.Second (zCj f t) then -1 else 0) else 0⟩
theorem zEt{c:Cse}(hc:zBR c){f:Fld}(hf:zBQ c.Tariffs f){t:Thr}(ht:zCf f t):zuC c f t=some (zEs c f t):=by
 have hr:=ht.rng hf;have hs:=zCo (f:=f) hr;have e1:=zEo hr.a hs;have e2:=zEo hr.b hs;unfold zuC zEs;rw[zEq hr,obs,zEr hc hf hs,obs]
 refine Ev.pick (zEp hr) (fun hc=>?_) fun hc=>by rw[zqf rfl,if_neg hc,decide_eq_false hc]
 rw[if_pos rfl,if_pos hc,decide_eq_true hc,e1,obs,e2,obs]
 split
 ·rename_i h1
  rw[obs,obs,if_neg (by omega)]
 ·rename_i h1
  rw[obs,obs]
  split <;> rfl
def zEu(c:Cse)(s:Int × Bool × Int):Res:=if s.2.1=true then (if 0 < s.2.2 then ⟨[],s.1,c.Fee,0⟩ else if s.2.2 < 0 then ⟨[],s.1,0,c.Fee⟩ else ⟨[],s.1,c.Fee - c.Fee / 2,c.Fee / 2⟩) else ⟨[],s.1,0,0⟩
def zEv(s:Int × Bool × Int)(o:OcR):Int × Bool × Int:=(s.1+o.Pay,s.2.1 || o.Called,s.2.2+o.Lost)
theorem zEw{c:Cse}(hc:zBR c){l:List OcR}(hl:l.length≤1000)(hb:∀o∈l,(0≤o.Pay∧o.Pay≤100000)∧(-1≤o.Lost∧o.Lost≤1)):∀(d k:Nat) (A:Int) (b:Bool) (L:Int),k≤l.length→l.length - k < d→(0≤A∧A≤100000 * k)→(-(k:Int)≤L∧L≤k)→zuD c l d A 0 0 b L (k:Int)=some (zEu c ((l.drop k).foldl zEv (A,b,L)))
 | 0,k,_,_,_,_,h,_,_=>by omega
 | d+1,k,A,b,L,hk,h,hA,hL=>by
  have hfee:=hc.fee;rw[zuD]
  by_cases hkl:k < l.length
  ·obtain⟨o,h1,h2⟩:=zC0 hkl;have ho:=hb o (List.mem_of_getElem? h1);have ih:=fun b'=>zEw hc hl hb d (k+1) (A+o.Pay) b' (L+o.Lost) hkl (by omega) (by omega) (by omega);rw[if_pos (by omega),zq2 h1,obs,zqe (fI (by omega)),h2,List.foldl_cons,show(k:Int)+1=((k+1:Nat):Int) by omega]
   simp only[obs]
   rw[zqe (fI (by omega)),zqe (fI (by omega)),ih,ih]
   cases b
   ·rw[if_neg (by simp),zqe (fI (by omega)),zqe (fI (by omega))]; rfl
   ·rw[if_pos rfl]; rfl
  ·rw[if_neg (by omega),List.drop_eq_nil_of_le (by omega),List.foldl_nil];unfold zEu
   dsimp only
   cases b
   ·simp
   ·rw[if_pos rfl,if_pos rfl]
    split
    ·rfl
    ·split
     ·rfl
     ·rw[zqe (by omega),zqe (by omega),zqe (fI (by omega)),zqe (fI (by omega))]
theorem zEx{c:Cse}(hc:zBR c){l:List OcR}(hl:l.length≤1000)(hb:∀o∈l,(0≤o.Pay∧o.Pay≤100000)∧(-1≤o.Lost∧o.Lost≤1)):zuE c l=some (zEu c (l.foldl zEv (0,false,0))):=by
 have:=zEw hc hl hb (l.length+1) 0 0 false 0 (by omega) (by omega) (by omega) (by omega);rw[List.drop_zero] at this;exact this
def zEy(c:Cse):List Fld→List Thr→List OcR
 | f::fs,t::ts=>zEs c f t::zEy c fs ts
 | _,_=>[]
theorem zEz{c:Cse}(hc:zBR c){f:Fld}(hf:zBQ c.Tariffs f){t:Thr}(ht:zCf f t):(0≤(zEs c f t).Pay∧(zEs c f t).Pay≤100000)∧(-1≤(zEs c f t).Lost∧(zEs c f t).Lost≤1):=by
 refine⟨zCE hc hf (zCo (ht.rng hf)),?_⟩;unfold zEs
 dsimp only
 repeat' split
 all_goals omega
theorem zEA{c:Cse}(hc:zBR c):∀{fs:List Fld} {ts:List Thr},(∀f∈fs,zBQ c.Tariffs f)→zCY fs ts→(∀o∈zEy c fs ts,(0≤o.Pay∧o.Pay≤100000)∧(-1≤o.Lost∧o.Lost≤1))∧(zEy c fs ts).length=fs.length
 | [],[],_,_=>⟨fun o h=>(by cases h),rfl⟩
 | f::fs,t::ts,hf,ht=>by
  have ih:=zEA hc (fun x hx=>hf x (List.mem_cons_of_mem _ hx)) ht.2;refine⟨fun o ho=>?_,by simp[zEy,ih.2]⟩
  rcases List.mem_cons.1 ho with rfl | ho
  ·exact zEz hc (hf f (List.mem_cons_self ..)) ht.1
  ·exact ih.1 o ho
theorem zEB{c:Cse}(hc:zBR c){t:List Thr}(he:t.length=c.Fields.length){R:Res}:∀(d k:Nat) (l:List OcR) (n:List Int),k≤c.Fields.length→c.Fields.length - k < d→l.length=k→n.length=k→zCY (c.Fields.drop k) (t.drop k) →
  zuE c (l++zEy c (c.Fields.drop k) (t.drop k))=some R→zuF c t d l n (k:Int)=some ⟨n++zC4 (c.Fields.drop k) (t.drop k),R.Award,R.Farmer,R.Society⟩
 | 0,k,_,_,_,h,_,_,_,_=>by omega
 | d+1,k,l,n,hk,h,hll,hnl,ht,hR=>by
  have hlen:=hc.len;rw[zuF]
  by_cases hkl:k < c.Fields.length
  ·obtain⟨f,h1,h2⟩:=zC0 hkl;obtain⟨x,h3,h4⟩:=zC0 (l:=t) (k:=k) (by omega);rw[h2,h4] at ht hR ⊢;have hf:=hc.fld f (List.mem_of_getElem? h1);rw[if_pos (by omega),zq2 h1,obs,zq2 h3,obs,zEt hc hf ht.1,obs,zqe (by omega),obs,obs,zEq (ht.1.rng hf),obs,zqe (by omega),zqe (fI (by omega)),show(k:Int)+1=((k+1:Nat):Int) by omega];rw[zEB hc he d (k+1) (l++[zEs c f x]) (n++[zCj f x]) hkl (by omega) (by simp; omega) (by simp; omega) ht.2 (by rw[List.append_assoc]; exact hR)]
   simp[zC4]
  ·rw[if_neg (by omega),List.drop_eq_nil_of_le (by omega),List.drop_eq_nil_of_le (by omega)];rw[List.drop_eq_nil_of_le (by omega),List.drop_eq_nil_of_le (by omega)] at hR
   simp only[zEy,List.append_nil] at hR
   rw[hR]; simp[zC4]
structure Rel (c:Cse) (v:Ver) (s:Int × Bool × Int):Prop where
 fee:v.fee=c.Fee
 p:v.pence=s.1
 cal:s.2.1=true↔0 < v.fields.f1+v.fields.f2+v.fields.f3
 nn:0≤v.fields.f1∧0≤v.fields.f2∧0≤v.fields.f3
 lost:s.2.2=v.fields.f2 - v.fields.f3
theorem Rel.add{c:Cse}{v:Ver}{s:Int × Bool × Int}(h:Rel c v s)(f:Fld)(t:Thr):Rel c (zCK v (ocN c f t)) (zEv s (zEs c f t)):=by
 obtain⟨h1,h2,h3,h4,h5⟩:=h;obtain⟨s1,s2,s3⟩:=s;unfold zCK zEv ocN zEs zCk
 dsimp only at *
 refine⟨h1,by dsimp only; rw[h2],?_,?_,?_⟩
 all_goals (dsimp only; by_cases hc:zCi f t)
 ·simp only[if_pos hc,decide_eq_true hc,Bool.or_true,true_iff]
  repeat' split
  all_goals omega
 ·simp only[if_neg hc,decide_eq_false hc,Bool.or_false,h3]
  simp
 ·simp only[if_pos hc]
  refine⟨?_,?_,?_⟩ <;> split <;> omega
 ·simp only[if_neg hc]
  simp; exact h4
 ·simp only[if_pos hc]
  by_cases h6:zCh t.Second (zCj f t) < zCh t.First (zCj f t)
  ·simp only[if_pos h6]; simp; omega
  ·by_cases h7:zCh t.First (zCj f t) < zCh t.Second (zCj f t)
   ·simp only[if_neg h6,if_pos h7]; simp; omega
   ·simp only[if_neg h6,if_neg h7]; simp; omega
 ·simp only[if_neg hc]
  simp; omega
theorem zEC{c:Cse}:∀{fs:List Fld} {ts:List Thr} {v:Ver} {s:Int × Bool × Int},zCY fs ts→Rel c v s→Rel c (zC3 c fs ts v) ((zEy c fs ts).foldl zEv s)
 | [],[],_,_,_,h=>h
 | f::fs,t::ts,_,_,ht,h=>zEC (fs:=fs) (ts:=ts) ht.2 (h.add f t)
theorem zED{c:Cse}(hc:zBR c){t:List Thr}(ht:zCY c.Fields t):zuG c t=some (zC6 c t):=by
 have hl:=hc.len;have h1:=zEA hc hc.fld ht;have h2:=zEx hc (by omega) h1.1;have hrel:Rel c (zC5 c t) ((zEy c c.Fields t).foldl zEv (0,false,0)):=zEC ht ⟨rfl,rfl,by simp,by simp,rfl⟩;have h3:=zEB hc ht.len.symm (t.length+1) 0 [] [] (by omega) (by have:=ht.len; omega) rfl rfl ht h2;unfold zuG;rw[show(0:Int)=((0:Nat):Int) from rfl,h3];unfold zC6;generalize (zEy c c.Fields t).foldl zEv (0,false,0)=s at hrel;generalize zC5 c t=v at hrel;obtain⟨e1,e2,e3,e4,e5⟩:=hrel;have hfee:=hc.fee;rw[List.drop_zero,List.drop_zero,List.nil_append];unfold zEu zCP zCQ zCP
 by_cases hv:zCO v
 ·have hs:s.2.1=true:=e3.2 hv
  simp only[if_pos hs,if_pos hv]
  by_cases h6:v.fields.f2 < v.fields.f3
  ·rw[if_pos h6,if_neg (by omega),if_pos (by omega)]
   simp[e2,e1]
  ·by_cases h7:v.fields.f3 < v.fields.f2
   ·rw[if_neg h6,if_pos h7,if_pos (by omega)]
    simp[e2,e1]
   ·rw[if_neg h6,if_neg h7,if_neg (by omega),if_neg (by omega)]
    simp only[e2,e1]
    congr 2
    omega
 ·have hs:¬ s.2.1=true:=fun h=>hv (e3.1 h)
  simp only[if_neg hs,if_neg hv,e2]
theorem zEE{l:List Int}{n:Int}(hl:l.length≤1000):Ev (zuW l n) (n∈l):=by
 have key:∀(d k:Nat),k≤l.length→l.length - k < d→Ev (zuV l n d (k:Int)) (n∈l.drop k):=by
  intro d
  induction d with
  | zero=>intro k _ h; omega
  | succ d ih=>
   intro k hk h;rw[zuV]
   by_cases hkl:k < l.length
   ·obtain⟨a,h1,h2⟩:=zC0 hkl;rw[if_pos (by omega),zq2 h1,obs,h2]
    by_cases he:a=n
    ·rw[if_pos he]; exact Ev.tt (he ▸ List.mem_cons_self ..)
    ·rw[if_neg he,zqe (fI (by omega)),show(k:Int)+1=((k+1:Nat):Int) by omega];exact(ih (k+1) hkl (by omega)).imp ⟨List.mem_cons_of_mem _,fun h=>(List.mem_cons.1 h).elim (fun h=>absurd h.symm he) id⟩
   ·rw[if_neg (by omega),List.drop_eq_nil_of_le (by omega)]
    exact Ev.ff fun h=>by cases h
 exact key (l.length+1) 0 (by omega) (by omega)
def zEF(a x y o:Rg)(r:Res):Nat→Bool
 | 0=>decide (r.Award=a.Lo)
 | 1=>decide (r.Award=a.Hi)
 | 2=>decide (r.Farmer=x.Lo)
 | 3=>decide (r.Farmer=x.Hi)
 | 4=>decide (r.Society=y.Lo)
 | 5=>decide (r.Society=y.Hi)
 | 6=>decide (r.Award - r.Farmer=o.Lo)
 | 7=>decide (r.Award+r.Society=o.Hi)
 | _=>false
theorem zEG{k:Nat}(h:k < 8):k=0∨k=1∨k=2∨k=3∨k=4∨k=5∨k=6∨k=7:=by omega
theorem zEH{S:Nat→Bool}{k:Nat}(h:k < 8):idx ([S 0,S 1,S 2,S 3,S 4,S 5,S 6,S 7]:List Bool) (k:Int)=some (S k):=by
 rw[zp7]
 rcases zEG h with rfl | rfl | rfl | rfl | rfl | rfl | rfl | rfl <;> rfl
def zEI(S:Nat→Bool)(k:Nat)(v:Bool):Nat→Bool:=fun j=>if j=k then v else S j
theorem zEJ{S:Nat→Bool}{k:Nat}{v:Bool}(j:Nat):sti (k:Int) j v (S j)=zEI S k v j:=by
 unfold sti zEI
 by_cases h:j=k
 ·rw[if_pos h,if_pos (by omega)]
 ·rw[if_neg h,if_neg (by omega)]
theorem zEK{a x y o:Rg}{F:List Bool}{i:Int}{r:Res}{K:Bool→Bool→Bool→Bool→Bool→Bool→Bool→Bool→List Bool→Int→Option Bool}:∀(d k:Nat) (S:Nat→Bool),k≤8→8 - k < d →
  zvg (a,0) (x,y,0) (o,0) F i r K d (S 0) (S 1) (S 2) (S 3) (S 4) (S 5) (S 6) (S 7) (k:Int) =
   (fun T:Nat→Bool=>(idx r.Counts (0:Int)).bind fun x622=>(gd (0≤x622∧x622 < (101:Int)) (gd (F.length=101) (gd (zl0 .i64 (i+(1:Int))) (K (T 0) (T 1) (T 2) (T 3) (T 4) (T 5) (T 6) (T 7) (F.set (Int.toNat x622) true) (i+(1:Int))))))) (fun j=>if k≤j then S j || zEF a x y o r j else S j)
 | 0,k,_,_,h=>by omega
 | d+1,k,S,hk,h=>by
  rw[zvg]
  by_cases hkl:k < 8
  ·have hn:idx ([(decide (r.Award=a.Lo)),(decide (r.Award=a.Hi)),(decide (r.Farmer=x.Lo)),(decide (r.Farmer=x.Hi)),(decide (r.Society=y.Lo)),(decide (r.Society=y.Hi)),(decide ((r.Award - r.Farmer)=o.Lo)),(decide ((r.Award+r.Society)=o.Hi))]:List Bool) (k:Int)=some (zEF a x y o r k):=zEH (S:=zEF a x y o r) hkl;rw[if_pos (by omega),zEH hkl,obs]
   have key:∀v:Bool,v=(S k || zEF a x y o r k)→(fun j=>if k+1≤j then zEI S k v j || zEF a x y o r j else zEI S k v j)=(fun j=>if k≤j then S j || zEF a x y o r j else S j):=fun v hv=>by
    funext j
    unfold zEI
    by_cases h1:j=k
    ·rw[if_neg (by omega),if_pos h1,if_pos (by omega),hv,h1]
    ·by_cases h2:k≤j
     ·rw[if_pos (by omega),if_neg h1,if_pos h2]
     ·rw[if_neg (by omega),if_neg h1,if_neg h2]
   cases hS:S k with
   | true=>
    rw[if_pos rfl,zqe (by omega),zqe (fI (by omega)),zEJ,zEJ,zEJ,zEJ,zEJ,zEJ,zEJ,zEJ,show(k:Int)+1=((k+1:Nat):Int) by omega,zEK d (k+1) _ hkl (by omega),key true (by rw[hS]; rfl)]
   | false=>
    rw[if_neg (by simp)]
    dsimp only
    rw[hn,obs,zqe (by omega),zqe (fI (by omega)),zEJ,zEJ,zEJ,zEJ,zEJ,zEJ,zEJ,zEJ,show(k:Int)+1=((k+1:Nat):Int) by omega,zEK d (k+1) _ hkl (by omega),key _ (by rw[hS]; rfl)]
  ·rw[if_neg (by omega)]
   dsimp only
   rw[if_neg (by omega),if_neg (by omega),if_neg (by omega),if_neg (by omega),if_neg (by omega),if_neg (by omega),if_neg (by omega),if_neg (by omega)]
theorem zEL{l:List Int}(hl:l.length≤1000){F:Nat→Bool}(hF:∀n:Nat,n < 101→(F n=true↔(n:Int)∈l)):∀(d k:Nat),k≤101→101 - k < d→zvh (l,0) (FL F) d (k:Int)=some true
 | 0,k,_,h=>by omega
 | d+1,k,hk,h=>by
  rw[zvh]
  by_cases hkl:k < 101
  ·rw[if_pos (by omega),zqe (by omega),zq2 (zDx hkl),obs]
   dsimp only
   have hb:zuW l (k:Int)=some (F k):=by
    obtain⟨b,h1,h2⟩:=zEE (n:=(k:Int)) hl;rw[h1];have h3:=hF k hkl;rw[← h3] at h2
    cases b <;> cases hFk:F k <;> simp_all
   rw[hb,obs,if_pos (by simp),zqe (fI (by omega)),show(k:Int)+1=((k+1:Nat):Int) by omega];exact zEL hl hF d (k+1) hkl (by omega)
  ·rw[if_neg (by omega),zEj]; rfl
theorem zEM{l:List Int}(hl:l.length≤1000){F:Nat→Bool}(hF:∀n:Nat,n < 101→(F n=true↔(n:Int)∈l)){S:Nat→Bool}(hS:∀j,j < 8→S j=true):∀(d k:Nat) (b:Bool),k≤8→8 - k < d→zvi (l,0) (S 0) (S 1) (S 2) (S 3) (S 4) (S 5) (S 6) (S 7) (FL F) d b (k:Int)=some true
 | 0,k,_,_,h=>by omega
 | d+1,k,b,hk,h=>by
  rw[zvi]
  by_cases hkl:k < 8
  ·rw[if_pos (by omega),zEH hkl,obs,if_pos (hS k hkl),zqe (fI (by omega)),show(k:Int)+1=((k+1:Nat):Int) by omega];exact zEM hl hF hS d (k+1) b hkl (by omega)
  ·rw[if_neg (by omega)];exact zEL hl hF 102 0 (by omega) (by omega)
def zEN(c:Cse)(f:Fld):Cse:=⟨c.Tariffs,c.Day,c.Fee,[f]⟩
theorem zEO{c:Cse}{f:Fld}(hfs:(c.Fields.take (Int.toNat (1:Int))).drop (Int.toNat (0:Int))=[f])(hc:zBR (zEN c f))(hf:zBQ c.Tariffs f){a x y o:Rg}{cn:List Int}(hl:cn.length≤1000){l:List Thr}(hlt:∀t∈l,zCf f t)(hll:l.length≤1000)
  (hcn:∀n:Nat,n < 101→(zDF l f n=true↔(n:Int)∈cn)) (hnow:∀j,j < 8→∃t∈l,zEF a x y o (zC6 (zEN c f) [t]) j=true):∀(d k:Nat) (S F:Nat→Bool),k≤l.length→l.length - k < d →
  (∀j,j < 8→(S j || (l.drop k).any fun t=>zEF a x y o (zC6 (zEN c f) [t]) j)=true)→(∀n:Nat,n < 101→(F n || zDF (l.drop k) f n)=zDF l f n) →
  zvj c (a,0) (x,y,0) (o,0) (cn,0) l d (S 0) (S 1) (S 2) (S 3) (S 4) (S 5) (S 6) (S 7) (FL F) (k:Int)=some true
 | 0,k,_,_,_,h,_,_=>by omega
 | d+1,k,S,F,hk,h,hS,hF=>by
  rw[zvj]
  by_cases hkl:k < l.length
  ·obtain⟨t,h1,h2⟩:=zC0 hkl;have ht:=hlt t (List.mem_of_getElem? h1);have hts:zCY (zEN c f).Fields [t]:=⟨ht,trivial⟩;have hok:=zDn hc hts;have g1:=zCT hok;have g2:=zCV hok;have g3:=hok.p;have g4:=hok.fee;have hsr:=zCo (f:=f) (ht.rng hf);rw[if_pos (by omega),zq2 h1,obs,hfs]
   show(zuG (zEN c f) [t]).bind _=_
   rw[zED hc hts,obs]
   show gd (zl0 .i64 ((zC5 (zEN c f) [t]).pence - zCP (zC5 (zEN c f) [t]))) (gd (zl0 .i64 ((zC5 (zEN c f) [t]).pence+zCQ (zC5 (zEN c f) [t]))) _)=_
   rw[zqe (fI (by omega)),zqe (fI (by omega))];refine(zEK 9 0 S (by omega) (by omega)).trans ?_
   dsimp only
   rw[show idx (zC6 (zEN c f) [t]).Counts (0:Int)=some (zCj f t) from rfl,obs,zqe (by omega),zqe zDw,zqe (fI (by omega)),zDz (by omega),show(k:Int)+1=((k+1:Nat):Int) by omega];refine zEO hfs hc hf hl hlt hll hcn hnow d (k+1) (fun j=>if 0≤j then S j || zEF a x y o (zC6 (zEN c f) [t]) j else S j) _ hkl (by omega) (fun j hj=>?_) fun n hn=>?_
   ·have:=hS j hj;rw[h2,List.any_cons] at this;rw[if_pos (Nat.zero_le j),Bool.or_assoc];exact this
   ·rw[← hF n hn,h2];unfold zDF;rw[List.any_cons]
    by_cases he:n=(zCj f t).toNat
    ·rw[if_pos he,show decide (zCj f t=(n:Int))=true from decide_eq_true (by omega)]; simp
    ·rw[if_neg he,show decide (zCj f t=(n:Int))=false from decide_eq_false (by omega)]; simp
  ·rw[if_neg (by omega)];have hnil:l.drop k=[]:=List.drop_eq_nil_of_le (by omega);refine zEM hl (fun n hn=>?_) (fun j hj=>?_) 9 0 false (by omega) (by omega)
   ·have:=hF n hn;rw[hnil] at this
    have e:F n=zDF l f n:=by simpa [zDF] using this
    rw[e]; exact hcn n hn
   ·have:=hS j hj;rw[hnil] at this
    simpa using this
theorem zEP{c:Cse}{f:Fld}{ts:List Thr}(h:zCY (zEN c f).Fields ts):∃t,ts=[t]∧zCf f t:=by
 match ts,h with
 | [t],h=>exact⟨t,rfl,h.1⟩
 | [],h=>exact h.elim
 | _::_::_,h=>exact h.2.elim
theorem zEQ{c:Cse}(_:OkC c):zvk c=some true:=by
 unfold zvk
 refine Ev.pick zCc (fun hr=>?_) fun hr=>by rw[zqf rfl,zEj]; rfl
 obtain⟨⟨hth,hl⟩,hc⟩:=hr;have hlen:=hc.len;rw[if_pos rfl]
 by_cases h0:c.Fields.length=0
 ·rw[if_pos (by omega),zEj]; rfl
 obtain⟨f,fs,he⟩:∃f fs,c.Fields=f::fs:=by
  cases h:c.Fields with
  | nil=>rw[h] at h0; exact absurd rfl h0
  | cons f fs=>exact⟨f,fs,rfl⟩
 have hfs:(c.Fields.take (Int.toNat (1:Int))).drop (Int.toNat (0:Int))=[f]:=by rw[he]; rfl
 have hf:zBQ c.Tariffs f:=hc.fld f (by rw[he]; exact List.mem_cons_self ..);have hx:zBR (zEN c f):=⟨hc.tar,by simp[zEN],hc.day,hc.fee,fun g hg=>by rw[List.mem_singleton.1 hg]; exact hf⟩;have hcs:zuN (zEN c f)=some (zEN c f):=zCe hth (by simp[zEN]);obtain⟨a,ha,ea⟩:=zDr hx;obtain⟨x,y,hxy,ex,ey⟩:=zDs hx;obtain⟨n,o,ho,en,eo⟩:=zDv hx;have hcn:=zDN hx (k:=0) (f:=f) rfl
 have hcu:(zDI f).length≤1000:=by have:=zDW (S:=zDH f); unfold zDI; omega
 have hn:=zCw hf;rw[if_neg (by omega),zqe (by omega),hfs]
 show(zuN (zEN c f)).bind _=_
 rw[hcs,obs,ha,obs]
 show(zuN (zEN c f)).bind _=_
 rw[hcs,obs,hxy,obs]
 show(zuN (zEN c f)).bind _=_
 rw[hcs,obs,ho,obs]
 show(zuN (zEN c f)).bind _=_
 rw[hcs,obs,show zus (zEN c f) (0:Int)=_ from hcn,obs,if_pos rfl,if_pos rfl,if_pos rfl,if_pos rfl,show idx [f] (0:Int)=some f from rfl,obs,zEn hf,obs,FL0];have hlt:∀t∈zCs f,zCf f t:=fun t ht=>(zCv hf).1 ht
 have pick:∀{q:Ver→Int} {z:Int},(∃ts,zCY (zEN c f).Fields ts∧q (zC5 (zEN c f) ts)=z)→∃t∈zCs f,q (zC5 (zEN c f) [t])=z:=fun⟨ts,q1,q2⟩=>by
  obtain⟨t,rfl,ht⟩:=zEP q1;exact⟨t,(zCv hf).2 ht,q2⟩
 refine zEO (a:=a) (x:=x) (y:=y) (o:=⟨n.Lo,o.Hi⟩) hfs hx hf hcu hlt (by omega) (fun m hm=>?_) (fun j hj=>?_) ((zCs f).length+1) 0 (fun _=>false) (fun _=>false) (by omega) (by omega) (fun j hj=>?_) fun m _=>?_
 ·show zDH f m=true↔_
  unfold zDI;rw[zDE];exact⟨fun h=>⟨m,rfl,hm,h⟩,fun⟨k,h1,_,h2⟩=>by rw[show m=k by omega]; exact h2⟩
 ·rcases zEG hj with rfl | rfl | rfl | rfl | rfl | rfl | rfl | rfl
  ·obtain⟨t,q1,q2⟩:=pick ea.lo; exact⟨t,q1,decide_eq_true q2⟩
  ·obtain⟨t,q1,q2⟩:=pick ea.hi; exact⟨t,q1,decide_eq_true q2⟩
  ·obtain⟨t,q1,q2⟩:=pick ex.lo; exact⟨t,q1,decide_eq_true q2⟩
  ·obtain⟨t,q1,q2⟩:=pick ex.hi; exact⟨t,q1,decide_eq_true q2⟩
  ·obtain⟨t,q1,q2⟩:=pick ey.lo; exact⟨t,q1,decide_eq_true q2⟩
  ·obtain⟨t,q1,q2⟩:=pick ey.hi; exact⟨t,q1,decide_eq_true q2⟩
  ·obtain⟨t,q1,q2⟩:=pick en.lo; exact⟨t,q1,decide_eq_true q2⟩
  ·obtain⟨t,q1,q2⟩:=pick eo.hi; exact⟨t,q1,decide_eq_true q2⟩
 ·rw[List.drop_zero,Bool.false_or,List.any_eq_true]
  rcases zEG hj with rfl | rfl | rfl | rfl | rfl | rfl | rfl | rfl
  ·obtain⟨t,q1,q2⟩:=pick ea.lo; exact⟨t,q1,decide_eq_true q2⟩
  ·obtain⟨t,q1,q2⟩:=pick ea.hi; exact⟨t,q1,decide_eq_true q2⟩
  ·obtain⟨t,q1,q2⟩:=pick ex.lo; exact⟨t,q1,decide_eq_true q2⟩
  ·obtain⟨t,q1,q2⟩:=pick ex.hi; exact⟨t,q1,decide_eq_true q2⟩
  ·obtain⟨t,q1,q2⟩:=pick ey.lo; exact⟨t,q1,decide_eq_true q2⟩
  ·obtain⟨t,q1,q2⟩:=pick ey.hi; exact⟨t,q1,decide_eq_true q2⟩
  ·obtain⟨t,q1,q2⟩:=pick en.lo; exact⟨t,q1,decide_eq_true q2⟩
  ·obtain⟨t,q1,q2⟩:=pick eo.hi; exact⟨t,q1,decide_eq_true q2⟩
 ·rw[List.drop_zero,Bool.false_or]
end
end Go.Proofs.YteojndcmgpiklaaGreat

namespace Go.Proofs.YteojndcmgpiklaaGreat
open _root_.Go.Proofs.Tryz
open Go.ChangeShapes Go.WideShapes Go.ChangeAt Go.RowKit Go.Abs
set_option maxRecDepth 100000
theorem op3:zrs prog 3 Int (zl0 .i64):=zrt (by kernel_rfl)
theorem op4:zrs prog 4 Bool (fun _=>True):=zru (by kernel_rfl)
theorem zER:zrs prog 29 (List Int) (fun l=>l.length≤maxLen∧∀a0∈l,zl0 .i64 a0):=zrw (by kernel_rfl) (by kernel_rfl) op3
theorem zES:zrs prog 140 (List (List Int)) (fun l=>l.length≤maxLen∧∀a0∈l,a0.length≤maxLen∧∀a1∈a0,zl0 .i64 a1):=zrw (by kernel_rfl) (by kernel_rfl) zER
theorem zET:zrs prog 78 (List (List (List Int))) (fun l=>l.length≤maxLen∧∀a0∈l,a0.length≤maxLen∧∀a1∈a0,a1.length≤maxLen∧∀a2∈a1,zl0 .i64 a2):=zrw (by kernel_rfl) (by kernel_rfl) zES
theorem zEU:zrs prog 151 Tf zrF:=zrB (fs:=[(3,0),(4,1),(3,2),(29,3),(29,4),(78,5)]) (by kernel_rfl) (by kernel_rfl) (zrA (α:=Int) (ok:=zl0 .i64) (k:=1) op3 (by kernel_rfl) rfl (zrA (α:=Bool) (ok:=(fun _=>True)) (k:=1) op4 (by kernel_rfl) rfl (zrA (α:=Int) (ok:=zl0 .i64) (k:=1) op3 (by kernel_rfl) rfl (zrA (α:=List Int) (ok:=(fun l=>l.length≤maxLen∧∀a0∈l,zl0 .i64 a0)) (k:=1) zER (by kernel_rfl) rfl (zrA (α:=List Int) (ok:=(fun l=>l.length≤maxLen∧∀a0∈l,zl0 .i64 a0)) (k:=1) zER (by kernel_rfl) rfl (zrA (α:=List (List (List Int))) (ok:=(fun l=>l.length≤maxLen∧∀a0∈l,a0.length≤maxLen∧∀a1∈a0,a1.length≤maxLen∧∀a2∈a1,zl0 .i64 a2)) (k:=1) zET (by kernel_rfl) rfl zrz)))))) (by kernel_rfl) fun m vs h=>by
 obtain⟨a0,c0,r0,m0,h0,p0,k0,s0,⟨a1,c1,r1,m1,h1,p1,k1,s1,⟨a2,c2,r2,m2,h2,p2,k2,s2,⟨a3,c3,r3,m3,h3,p3,k3,s3,⟨a4,c4,r4,m4,h4,p4,k4,s4,⟨a5,c5,r5,m5,h5,p5,k5,s5,rfl⟩⟩⟩⟩⟩⟩:=h;have p0:c0=[.int .i64 a0]:=p0; subst p0;have p1:c1=[.bool a1]:=p1; subst p1;have p2:c2=[.int .i64 a2]:=p2; subst p2;obtain⟨d3,rfl,p3⟩:=p3;obtain⟨d4,rfl,p4⟩:=p4;obtain⟨d5,rfl,p5⟩:=p5;subst h5 h4 h3 h2 h1 h0;exact⟨⟨a0,a1,a2,a3,a4,a5⟩,⟨_,_,_,rfl,p3,p4,p5⟩,⟨k0,k1,k2,k3,k4,k5⟩⟩
theorem zEV:zrs prog 22 (List Tf) (fun l=>l.length≤maxLen∧∀a0∈l,zrF a0):=zrw (by kernel_rfl) (by kernel_rfl) zEU
theorem zEW:zrs prog 58 Rg zrD:=zrB (fs:=[(3,0),(3,1)]) (by kernel_rfl) (by kernel_rfl) (zrA (α:=Int) (ok:=zl0 .i64) (k:=1) op3 (by kernel_rfl) rfl (zrA (α:=Int) (ok:=zl0 .i64) (k:=1) op3 (by kernel_rfl) rfl zrz)) (by kernel_rfl) fun m vs h=>by
 obtain⟨a0,c0,r0,m0,h0,p0,k0,s0,⟨a1,c1,r1,m1,h1,p1,k1,s1,rfl⟩⟩:=h;have p0:c0=[.int .i64 a0]:=p0; subst p0;have p1:c1=[.int .i64 a1]:=p1; subst p1;subst h1 h0;exact⟨⟨a0,a1⟩,rfl,⟨k0,k1⟩⟩
theorem zEX:zrs prog 60 Fld zrI:=zrB (fs:=[(3,0),(3,1),(3,2),(58,3),(58,5),(58,7)]) (by kernel_rfl) (by kernel_rfl) (zrA (α:=Int) (ok:=zl0 .i64) (k:=1) op3 (by kernel_rfl) rfl (zrA (α:=Int) (ok:=zl0 .i64) (k:=1) op3 (by kernel_rfl) rfl (zrA (α:=Int) (ok:=zl0 .i64) (k:=1) op3 (by kernel_rfl) rfl (zrA (α:=Rg) (ok:=zrD) (k:=2) zEW (by kernel_rfl) rfl (zrA (α:=Rg) (ok:=zrD) (k:=2) zEW (by kernel_rfl) rfl (zrA (α:=Rg) (ok:=zrD) (k:=2) zEW (by kernel_rfl) rfl zrz)))))) (by kernel_rfl) fun m vs h=>by
 obtain⟨a0,c0,r0,m0,h0,p0,k0,s0,⟨a1,c1,r1,m1,h1,p1,k1,s1,⟨a2,c2,r2,m2,h2,p2,k2,s2,⟨a3,c3,r3,m3,h3,p3,k3,s3,⟨a4,c4,r4,m4,h4,p4,k4,s4,⟨a5,c5,r5,m5,h5,p5,k5,s5,rfl⟩⟩⟩⟩⟩⟩:=h;have p0:c0=[.int .i64 a0]:=p0; subst p0;have p1:c1=[.int .i64 a1]:=p1; subst p1;have p2:c2=[.int .i64 a2]:=p2; subst p2;have p3:c3=[.int .i64 a3.Lo,.int .i64 a3.Hi]:=p3; subst p3;have p4:c4=[.int .i64 a4.Lo,.int .i64 a4.Hi]:=p4; subst p4;have p5:c5=[.int .i64 a5.Lo,.int .i64 a5.Hi]:=p5; subst p5;subst h5 h4 h3 h2 h1 h0;exact⟨⟨a0,a1,a2,a3,a4,a5⟩,rfl,⟨k0,k1,k2,k3,k4,k5⟩⟩
theorem zEY:zrs prog 23 (List Fld) (fun l=>l.length≤maxLen∧∀a0∈l,zrI a0):=zrw (by kernel_rfl) (by kernel_rfl) zEX
theorem zEZ:zrs prog 25 Cse zrK:=zrB (fs:=[(22,0),(3,1),(3,2),(23,3)]) (by kernel_rfl) (by kernel_rfl) (zrA (α:=List Tf) (ok:=(fun l=>l.length≤maxLen∧∀a0∈l,zrF a0)) (k:=1) zEV (by kernel_rfl) rfl (zrA (α:=Int) (ok:=zl0 .i64) (k:=1) op3 (by kernel_rfl) rfl (zrA (α:=Int) (ok:=zl0 .i64) (k:=1) op3 (by kernel_rfl) rfl (zrA (α:=List Fld) (ok:=(fun l=>l.length≤maxLen∧∀a0∈l,zrI a0)) (k:=1) zEY (by kernel_rfl) rfl zrz)))) (by kernel_rfl) fun m vs h=>by
 obtain⟨a0,c0,r0,m0,h0,p0,k0,s0,⟨a1,c1,r1,m1,h1,p1,k1,s1,⟨a2,c2,r2,m2,h2,p2,k2,s2,⟨a3,c3,r3,m3,h3,p3,k3,s3,rfl⟩⟩⟩⟩:=h;obtain⟨d0,rfl,p0⟩:=p0;have p1:c1=[.int .i64 a1]:=p1; subst p1;have p2:c2=[.int .i64 a2]:=p2; subst p2;obtain⟨d3,rfl,p3⟩:=p3;subst h3 h2 h1 h0;exact⟨⟨a0,a1,a2,a3⟩,⟨_,_,rfl,p0,p3⟩,⟨k0,k1,k2,k3⟩⟩
theorem zE0:laidOutB prog=true:=by kernel_rfl
theorem zE1:ownKnob prog.godebug=none:=by kernel_rfl
theorem zE2(os:Os)(started:os.Started)(H:Type)(enc:TypeId × Value→H) :
    ReturnsInHanded {} Tryz.checked os 8 .any (Rows.umpireEndsSpec.pre6 enc Tryz.prog Tryz.f8 Rows.umpireEndsRow.domain false) (Rows.umpireEndsSpec.post enc Tryz.prog Tryz.f8 false true false false):=by
  refine returnsInHanded_of_change (C:=Tryz.checked) zE1 started (by kernel_rfl) Tryz.func8
    (ChangeSpec.witness6 (enc:=enc) (C:=Tryz.checked) false ⟨#[],#[.agg #[.slice none 0 0,.int .i64 0,.int .i64 0,.slice none 0 0]],[]⟩ 8 (by kernel_rfl) (by kernel_rfl) (by kernel_rfl) (by kernel_rfl)) ?_
  intro W base args ds gs before hval0 hW hcnd _;have hval:∀(j:Nat) t v,Tryz.f8.params[j]? = some t→args[j]? = some v→Value.okWide Tryz.prog W .any base t v:=hval0;have hW':=hW;obtain⟨p,q,hA0,hV,rfl,hfz,hnd⟩:=hW;have hA:DataW.TrodAll enc Tryz.prog W 0 (fun _=>true) true Tryz.f8.params.toList args.toList ds p:=hA0;rw[Tryz.params8] at hA hval;obtain⟨v0,d0,rfl,rfl,h0⟩:=trodAll_one hA;obtain⟨rfl,rfl⟩:=trodVars_none hV
  have hlt:∀x∈p,x.block < W.heap.size:=fun x hx=>by simpa using hW'.lt x (by simpa using hx)
  obtain⟨fu0,hf0⟩:=id h0
  clear hA0 hval0
  obtain⟨e0,m0,w0,a_0,le0,sv0,lay0,cr0,rep0,ok0⟩:=zEZ H enc W true _ _ _ hf0 _ _ (Lay.nil W);obtain⟨c0_0,c0_3,rfl,g0_0,g0_3⟩:=rep0
  obtain⟨cs0,hv0,cl0⟩:∃cs,v0=.agg cs∧v0.cells.toList=cs.toList:=by
    have hl:=cr0.length
    cases v0 with
    | agg cs=>exact⟨cs,rfl,rfl⟩
    | _=>exact absurd hl (by simp[Value.cells])
  subst hv0;have hargs:zen (VR e0) [.agg 4 [c0_0,.int .i64 a_0.Day,.int .i64 a_0.Fee,c0_3]] [.agg cs0]:=.cons ⟨cs0,rfl,cr0,rfl⟩ .nil;refine(callsIn_wide.1 (zqq fits htab (zBz (c:=a_0) lay0.pre g0_0 g0_3 (zEQ ok0) (Q:=fun v _=>v=.c (.bool true)) fun _ _=>rfl) lay0.hr (args':=#[.agg cs0]) hargs 0)).mono fun en W' hp=>?_;obtain⟨v,v',e',m',rfl,hst,hvr,rfl⟩:=hp;have hv':v'=.bool true:=hvr;subst hv';have hbelow:=lay0.below hst
  refine⟨_,rfl,[d0],[],p,[],p,[],by simpa using hW',trodAll_mk1 (shut_bool Tryz.underlying4 _),
    trodAll_mk1 (Below.trod zE0 (by kernel_rfl) (of_decide_eq_true (by kernel_rfl)) h0 hbelow fun x hx=>hlt x (by simp[hx])),rfl,lay0.kept hst _,fun hc=>by cases hc⟩
theorem UmpireEnds_holds:Rows.UmpireEndsSaid:=
 OpenClaim.holds_of_wide 8 Tryz.f8 rfl rfl rfl rfl rfl rfl rfl ⟨rfl,rfl,rfl,rfl,rfl⟩ rfl rfl rfl rfl rfl (by kernel_rfl) Tryz.func8 (by kernel_rfl)
  (of_decide_eq_true (by kernel_rfl)) (by unfold Func.isWrapper; first | (rw[if_pos (by decide +kernel)]; kernel_rfl) | (rw[if_neg (by decide +kernel)]; exact⟨rfl,rfl⟩))
  (fun os started H enc _=>zE2 os started H enc)
end Go.Proofs.YteojndcmgpiklaaGreat

