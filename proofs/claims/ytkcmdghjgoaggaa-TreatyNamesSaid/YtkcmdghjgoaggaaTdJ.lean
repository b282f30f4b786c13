/- TreatyNames, for all that it can be called with, returns true. Condition: none. -/
import Derived.Test.YtkcmdghjgoaggaaTdI
import GoSem.Step
import GoSem.ClaimKeys
import Derived.DeepKeys2
import Derived.RangeFuncLeaves
import Derived.OrdersIn
import Derived.Laws.World
import Derived.Laws.Sem
import Derived.RangeFuncRecord
import Derived.Laws.CopyRow
import Derived.Laws.Append
import Derived.Laws.Rows
import Derived.Laws.Slices
import Derived.Laws.Entries
import Derived.ChangeKeysEq
import Derived.IntWalk
import Derived.DeepKeys
import Derived.DeepKeys3
import Derived.Laws.StructEq
import Derived.MapKept
import Derived.Laws.AppendOwn
import Derived.ChangeArms
import Derived.ChangeOld
import Derived.Carry
import Derived.ChangeShapes
import Derived.KernelRfl
import Derived.ProofKit
import Derived.Test.YtkcmdghjgoaggaaRows

namespace Go.Proofs.Ytkcmdghjgoaggaa
open _root_.Go.Proofs.Try
open Go.Abs
set_option maxRecDepth 100000
noncomputable section
def inL:List Rg->List Int->Prop
 | [],[]=>True
 | r::rs,x::xs=>(r.Lo<=x/\x<=r.Hi)/\inL rs xs
 | _,_=>False
theorem zxM:∀{rs:List Rg} {xs:List Int},inL rs xs->xs.length=rs.length
 | [],[],_=>rfl
 | r::rs,x::xs,h=>by rw[List.length_cons,List.length_cons,zxM h.2]
 | [],x::xs,h=>h.elim
 | r::rs,[],h=>h.elim
theorem zxN:∀{rs:List Rg} {xs:List Int},inL rs xs->∀{i:Nat} {r:Rg} {x:Int},rs[i]? = some r->xs[i]? = some x->r.Lo<=x/\x<=r.Hi
 | [],[],_,_,_,_,h,_=>by cases h
 | r::rs,x::xs,h,0,_,_,h1,h2=>by cases h1; cases h2; exact h.1
 | r::rs,x::xs,h,i+1,_,_,h1,h2=>zxN h.2 (i:=i) h1 h2
 | [],x::xs,h,_,_,_,_,_=>h.elim
 | r::rs,[],h,_,_,_,_,_=>h.elim
theorem zxO:∀{rs:List Rg} {xs:List Int},xs.length=rs.length->(∀(i:Nat) (r:Rg) (x:Int),rs[i]? = some r->xs[i]? = some x->r.Lo<=x/\x<=r.Hi)->inL rs xs
 | [],[],_,_=>trivial
 | r::rs,x::xs,h,h2=>⟨h2 0 r x rfl rfl,zxO (by simpa using h) fun i r x h3 h4=>h2 (i+1) r x h3 h4⟩
 | [],x::xs,h,_=>by simp at h
 | r::rs,[],h,_=>by simp at h
theorem zxP{rs:List Rg}{xs:List Int}(h:inL rs xs)(hr:∀r∈rs,RgV r 1000):∀x∈xs,0<=x/\x<=1000:=fun x hx=>by
 obtain⟨i,hi⟩:=List.mem_iff_getElem?.1 hx;have hil:=(List.getElem?_eq_some_iff.1 hi).1;rw[zxM h] at hil;have hg:=List.getElem?_eq_getElem hil;have h1:=zxN h hg hi;have h2:=hr _ (List.getElem_mem hil);unfold RgV at h2
 omega
theorem zxQ:∀{rs:List Rg} {pre D:List Int},D∈chW rs pre↔∃T,D=pre++T/\inL rs T
 | [],pre,D=>by
  show D∈[pre]↔_
  rw[List.mem_singleton]
  constructor
  ·rintro rfl; exact⟨[],by simp,trivial⟩
  ·rintro⟨T,h1,h2⟩
   cases T with
   | nil=>rw[h1,List.append_nil]
   | cons x T=>exact h2.elim
 | r::rs,pre,D=>by
  show D∈zrv (fun n=>chW rs (pre++[r.Lo+(n:Int)])) (szR r).toNat 0↔_
  rw[zvf];have hsz:szR r=r.Hi - r.Lo+1:=rfl
  constructor
  ·rintro⟨j,h1,h2,h3⟩
   obtain⟨T,h4,h5⟩:=zxQ.1 h3;exact⟨(r.Lo+(j:Int))::T,by rw[h4]; simp,⟨by omega,h5⟩⟩
  ·rintro⟨T,h1,h2⟩
   cases T with
   | nil=>exact h2.elim
   | cons x T=>
    obtain⟨h3,h4⟩:=h2;refine⟨(x - r.Lo).toNat,Nat.zero_le _,by omega,zxQ.2 ⟨T,?_,h4⟩⟩;rw[h1,show r.Lo+(((x - r.Lo).toNat:Nat):Int)=x by omega]; simp
theorem zxR{α:Type}{g:Nat->List α}{c:Nat}(h:∀x,(g x).length=c):∀e n,(zrv g e n).length=e * c
 | 0,_=>by show 0=_; omega
 | e+1,n=>by show(g n++zrv g e (n+1)).length=_; rw[List.length_append,h,zxR h e,Nat.succ_mul]; omega
theorem zxS:∀{rs:List Rg},(∀r∈rs,RgV r 1000)->∀{pre:List Int},((chW rs pre).length:Int)=zwV rs
 | [],_,_=>rfl
 | r::rs,h,pre=>by
  have h1:=h r (List.mem_cons_self ..);have ih:=fun {pre:List Int}=>zxS (rs:=rs) (fun r hr=>h r (List.mem_cons_of_mem _ hr)) (pre:=pre)
  show((zrv (fun n=>chW rs (pre++[r.Lo+(n:Int)])) (szR r).toNat 0).length:Int)=(r.Hi - r.Lo+1) * zwV rs
  have hc:∀x:Nat,((fun n:Nat=>chW rs (pre++[r.Lo+(n:Int)])) x).length=(chW rs []).length:=fun x=>by
   have e1:=ih (pre:=pre++[r.Lo+(x:Int)]);have e2:=ih (pre:=[])
   dsimp only; omega
  rw[zxR hc];have hsz:szR r=r.Hi - r.Lo+1:=rfl;unfold RgV at h1;rw[<- ih (pre:=[]),Int.natCast_mul,hsz,Int.toNat_of_nonneg (by omega)]
def zxT(p:Pg):List (List Int):=chW p.Losses []
theorem zxU{p:Pg}{L:List Int}:L∈zxT p↔inL p.Losses L:=by
 unfold zxT;rw[zxQ];exact⟨fun⟨T,h1,h2⟩=>by rw[h1]; exact h2,fun h=>⟨L,rfl,h⟩⟩
theorem zxV{p:Pg}(h:VP p):(zxT p).length<=1500:=by
 have h1:=zxS h.ls (pre:=[]);have h2:=h.many;unfold zxT
 omega
theorem zxW{p:Pg}(h:VP p):zts p=some (zxT p):=by
 have h4:=h.l4;unfold zts;rw[zxf (by omega),obs];unfold ztr;rw[zqs ⟨by omega,fun r hr=>by have h1:=h.ls r hr; unfold RgV at h1; unfold okR; omega⟩,obs]; rfl
theorem zxX{p:Pg}(h:VP p):∃L,inL p.Losses L:=by
 refine⟨p.Losses.map (·.Lo),zxO (by rw[List.length_map]) fun i r x h1 h2=>?_⟩;rw[List.getElem?_map,h1] at h2
 cases h2
 have:=h.ls r (List.mem_of_getElem? h1);unfold RgV at this
 show r.Lo<=r.Lo/\r.Lo<=r.Hi
 omega
def oc(p:Pg)(L:List Int):Oc:=ocN (zxz p.Treaties L)
open Classical in
def grp(p:Pg)(A:List (List Int))(k:P5):List Oc:=(A.map (oc p)).filter fun o=>decide (o.pays=k)
def plM(p:Pg)(A:List (List Int)):Option (P5->Option (List Oc)):=some fun k=>if grp p A k=[] then none else some (grp p A k)
open Classical in
theorem zxY(p:Pg)(A:List (List Int))(k:P5):(zqJ (plM p A) k).getD []=grp p A k:=by
 show(if grp p A k=[] then none else some (grp p A k)).getD []=_
 by_cases h:grp p A k=[]
 ·rw[if_pos h,h]; rfl
 ·rw[if_neg h]; rfl
open Classical in
theorem zxZ(p:Pg)(A:List (List Int))(L:List Int)(k:P5):grp p (A++[L]) k=if (oc p L).pays=k then grp p A k++[oc p L] else grp p A k:=by
 unfold grp;rw[List.map_append,List.filter_append]
 by_cases h:(oc p L).pays=k
 ·rw[if_pos h,List.map_cons,List.map_nil,List.filter_cons_of_pos (by simp[h])]; rfl
 ·rw[if_neg h,List.map_cons,List.map_nil,List.filter_cons_of_neg (by simp[h]),List.filter_nil,List.append_nil]
open Classical in
theorem zx0(p:Pg)(A:List (List Int))(L:List Int):zqK (plM p A) (oc p L).pays ((zqJ (plM p A) (oc p L).pays).getD []++[oc p L])=some (plM p (A++[L])):=by
 rw[zxY]
 show some (some fun j=>if j=(oc p L).pays then _ else _)=some (some _)
 congr 2
 funext j
 rw[zxZ]
 by_cases h:j=(oc p L).pays
 ·subst h;rw[if_pos rfl,if_pos rfl,if_neg (by simp)]
 ·rw[if_neg h,if_neg (Ne.symm h)]
def zx1(p:Pg)(A:List (List Int)):Wk:={ p:=p,kinds:=zw1,shared:=(),played:=plM p A }
theorem zx2{f:Nat->Int}(h:∀j,0<=f j/\f j<=100000):MK.fit (mk5 f):=
 ⟨fI (by have:=h 0; show _<=f 0/\f 0 < _; omega),fI (by have:=h 1; show _<=f 1/\f 1 < _; omega),fI (by have:=h 2; show _<=f 2/\f 2 < _; omega),fI (by have:=h 3; show _<=f 3/\f 3 < _; omega),fI (by have:=h 4; show _<=f 4/\f 4 < _; omega),trivial⟩
theorem zx3{p:Pg}(h:VP p){L:List Int}(hL:inL p.Losses L):SI p.Treaties (zxB L) (zxz p.Treaties L)/\0<=zxB L/\zxB L<=4000:=by
 have hb:=zxP hL h.ls;have h1:=zxG hb;have h2:=zxM hL;have h4:=h.l4;exact⟨zxF h.tsOk fun x hx=>by have:=hb x hx; omega,by omega,by omega⟩
theorem zx4{p:Pg}(h:VP p){L:List Int}(hL:inL p.Losses L):MK.fit (oc p L).pays:=by
 obtain⟨h1,h2,h3⟩:=zx3 h hL
 exact zx2 fun j=>by have:=h1.pays j; omega
theorem zx5{p:Pg}(h:VP p):∀(q A:List (List Int)) (M:Option (Mt->Option Oc)),(∀L∈q,inL p.Losses L)->A.length+q.length<=1500->zxI p M->ztu p zw1 q M (plM p A)=some (zx1 p (A++q))
 | [],A,M,_,_,_=>by rw[ztu,List.append_nil]; rfl
 | L::q,A,M,hq,hl,hM=>by
  have hL:=hq L (List.mem_cons_self ..);have h4:=h.l4;obtain⟨M',q1,q2⟩:=zxL h (zxP hL h.ls) (by rw[zxM hL]; omega) hM;rw[ztu]
  show((ztk (wkP p M) L).bind _)=_
  rw[q1,obs]
  show gd (MK.fit (oc p L).pays) _=_
  rw[zqs (zx4 h hL)]
  show gd (((zqJ (plM p A) (oc p L).pays).getD []).length < 1048576) ((zqK (plM p A) (oc p L).pays ((zqJ (plM p A) (oc p L).pays).getD []++[oc p L])).bind _)=_
  rw[zx0,obs,zqs ?_]
  ·show ztu p zw1 q M' (plM p (A++[L]))=_
   rw[zx5 h q (A++[L]) M' (fun L hL=>hq L (List.mem_cons_of_mem _ hL)) (by rw[List.length_append]; simp only[List.length_cons,List.length_nil] at hl ⊢; omega) q2,List.append_assoc]; rfl
  ·rw[zxY];have:(grp p A (oc p L).pays).length<=(A.map (oc p)).length:=List.length_filter_le _ _;rw[List.length_map] at this
   simp only[List.length_cons] at hl
   omega
theorem zx6(p:Pg):plM p []=some fun _=>none:=rfl
theorem zx7{p:Pg}(h:VP p):ztv p=some (zx1 p (zxT p)):=by
 unfold ztv;rw[zw2,obs,zxW h,obs];have:=zx5 h (zxT p) [] _ (fun L hL=>zxU.1 hL) (by have:=zxV h; simp only[List.length_nil]; omega) (zxI.nil p);rw[zx6,List.nil_append] at this;exact this
def agN(P:Nat->Int)(rs:List Rpt):Prop:=∀r∈rs,r.Paid.Lo<=P r.Treaty.toNat/\P r.Treaty.toNat<=r.Paid.Hi
def zx8(rs:List Rpt):Prop:=∀r∈rs,0<=r.Treaty/\r.Treaty < 5
theorem VP.rsOk{p:Pg}(h:VP p):zx8 p.Reports:=fun r hr=>by have:=(h.rs r hr).1; have:=h.t5; omega
theorem zx9{P:Nat->Int}{rs:List Rpt}(hr:zx8 rs)(hs:zrZ rs):Ev (ztf (mk5 P) rs) (agN P rs):=
 (show Ev (zsO rs fun a=>zte a (mk5 P)) (agN P rs) from Ev.each (l:=rs) (p:=fun a=>zte a (mk5 P)) (q:=fun r=>r.Paid.Lo<=P r.Treaty.toNat/\P r.Treaty.toNat<=r.Paid.Hi) (fun r hm=>by
  show Ev ((idx (l5 P) r.Treaty).bind _) _
  rw[zwK (hr r hm).1 (hr r hm).2,obs]
  exact zwY.ret) hs.lt gQ).ret
open Classical in
theorem zya{p:Pg}(h:VP p){A:List (List Int)}(hA:∀L∈A,inL p.Losses L)(ks:List P5):zrk (plM p A) ks↔ks.Nodup/\∀k,k∈ks↔∃L∈A,(oc p L).pays=k:=by
 have hm:∀k,(MK.fit k/\zqJ (plM p A) k ≠ none)↔∃L∈A,(oc p L).pays=k:=fun k=>by
  show(MK.fit k/\(if grp p A k=[] then none else some (grp p A k)) ≠ none)↔_
  constructor
  ·rintro⟨_,h2⟩
   by_cases hg:grp p A k=[]
   ·rw[if_pos hg] at h2; exact absurd rfl h2
   ·obtain⟨o,ho⟩:=List.exists_mem_of_ne_nil _ hg;obtain⟨h3,h4⟩:=List.mem_filter.1 ho;obtain⟨L,h5,rfl⟩:=List.mem_map.1 h3;exact⟨L,h5,of_decide_eq_true h4⟩
  ·rintro⟨L,h1,rfl⟩
   refine⟨zx4 h (hA L h1),?_⟩;have hg:oc p L∈grp p A (oc p L).pays:=List.mem_filter.2 ⟨List.mem_map.2 ⟨L,h1,rfl⟩,decide_eq_true rfl⟩;rw[if_neg fun he=>by rw[he] at hg; cases hg];exact Option.some_ne_none _
 exact and_congr_right fun _=>forall_congr' fun k=>by rw[hm]
theorem zyb{α:Type}:∀L:List α,∃ks:List α,ks.Nodup/\∀k,k∈ks↔k∈L
 | []=>⟨[],List.nodup_nil,fun _=>Iff.rfl⟩
 | a::L=>by
  obtain⟨ks,h1,h2⟩:=zyb L
  by_cases h:a∈ks
  ·refine⟨ks,h1,fun k=>?_⟩;rw[h2,List.mem_cons];exact⟨.inr,fun hk=>hk.elim (fun he=>by rw[he]; exact(h2 a).1 h) id⟩
  ·exact⟨a::ks,List.nodup_cons.2 ⟨h,h1⟩,fun k=>by rw[List.mem_cons,List.mem_cons,h2]⟩
theorem zyc{p:Pg}(h:VP p){A:List (List Int)}(hA:∀L∈A,inL p.Losses L):∃ks,zrk (plM p A) ks:=by
 obtain⟨ks,h1,h2⟩:=zyb (A.map fun L=>(oc p L).pays);exact⟨ks,(zya h hA ks).2 ⟨h1,fun k=>(h2 k).trans List.mem_map⟩⟩
def agK(k:P5)(rs:List Rpt):Prop:=∃P,k=mk5 P/\agN P rs
theorem zyd{P:Nat->Int}{rs:List Rpt}(hr:zx8 rs):agK (mk5 P) rs↔agN P rs:=by
 refine⟨fun⟨P',h1,h2⟩ r hm=>?_,fun h=>⟨P,rfl,h⟩⟩;have:=hr r hm;have e:=zwL h1 (k:=r.Treaty.toNat) (by omega);rw[e]; exact h2 r hm
theorem zye(k:P5):∃f,k=mk5 f:=⟨fun j=>match j with | 0=>k.p0 | 1=>k.p1 | 2=>k.p2 | 3=>k.p3 | _=>k.p4,rfl⟩
theorem zyf{k:P5}{rs:List Rpt}(hr:zx8 rs)(hs:zrZ rs):Ev (ztf k rs) (agK k rs):=by
 obtain⟨f,rfl⟩:=zye k;exact(zx9 hr hs).imp (zyd hr).symm
theorem zyg{w:Wk}{rs:List Rpt}(hr:zx8 rs)(hs:zrZ rs):∀(d:Nat) (rem:List P5),rem.length < d->(∀k∈rem,zqJ w.played k ≠ none)->Ev (pcanHold_L0 w rs d rem) (∃k∈rem,agK k rs)
 | 0,_,h,_=>by omega
 | d+1,rem,h,hm=>by
  by_cases hex:∃k∈rem,agK k rs
  ·refine⟨true,?_,⟨fun _=>hex,fun _=>rfl⟩⟩;unfold pcanHold_L0
   refine zrr (fun l1 a l2 hrr=>?_) fun hrr=>by subst hrr; obtain⟨k,hk,_⟩:=hex; cases hk
   subst hrr;obtain⟨v,hv⟩:=Option.ne_none_iff_exists'.1 (hm a (by simp));rw[hv,obs];refine(zyf hr hs).pick (fun ha=>by rw[if_pos rfl]) fun ha=>?_;rw[if_neg (by decide)];refine(zyg hr hs d (l1++l2) (by simp only[List.length_append,List.length_cons] at h ⊢; omega) fun k hk=>hm k ?_).some_of ?_
   ·rcases List.mem_append.1 hk with h | h
    ·exact List.mem_append_left _ h
    ·exact List.mem_append_right _ (List.mem_cons_of_mem _ h)
   ·obtain⟨k,hk,h2⟩:=hex;refine⟨k,?_,h2⟩
    rcases List.mem_append.1 hk with h | h
    ·exact List.mem_append_left _ h
    ·rcases List.mem_cons.1 h with h | h
     ·exact absurd (h ▸ h2) ha
     ·exact List.mem_append_right _ h
  ·refine⟨false,?_,⟨fun h=>(by cases h),fun h=>absurd h hex⟩⟩;unfold pcanHold_L0;refine zrr (fun l1 a l2 hrr=>?_) fun hrr=>rfl;subst hrr;obtain⟨v,hv⟩:=Option.ne_none_iff_exists'.1 (hm a (by simp));rw[hv,obs,(zyf hr hs).some_not fun ha=>hex ⟨a,by simp,ha⟩,obs,if_neg (by decide)];refine(zyg hr hs d (l1++l2) (by simp only[List.length_append,List.length_cons] at h ⊢; omega) fun k hk=>hm k ?_).some_not ?_
   ·rcases List.mem_append.1 hk with h | h
    ·exact List.mem_append_left _ h
    ·exact List.mem_append_right _ (List.mem_cons_of_mem _ h)
   ·rintro⟨k,hk,h2⟩
    refine hex ⟨k,?_,h2⟩
    rcases List.mem_append.1 hk with h | h
    ·exact List.mem_append_left _ h
    ·exact List.mem_append_right _ (List.mem_cons_of_mem _ h)
def zyh(p:Pg)(rs:List Rpt):Prop:=∃L,inL p.Losses L/\agN (zxz p.Treaties L).pays rs
theorem zyi{p:Pg}(h:VP p){rs:List Rpt}(hr:zx8 rs)(hs:zrZ rs):Ev (ztw (zx1 p (zxT p)) rs) (zyh p rs):=by
 have hA:∀L∈zxT p,inL p.Losses L:=fun L hL=>zxU.1 hL;obtain⟨ks0,h0⟩:=zyc h hA
 have key:∀ks,zrk (plM p (zxT p)) ks->Ev (pcanHold_L0 (zx1 p (zxT p)) rs (ks.length+1) ks) (zyh p rs):=fun ks hk=>by
  have h2:=((zya h hA ks).1 hk).2;refine(zyg hr hs _ ks (by omega) fun k hkk=>((hk.2 k).1 hkk).2).imp ⟨?_,?_⟩
  ·rintro⟨k,hk1,hk2⟩
   obtain⟨L,hL,rfl⟩:=(h2 k).1 hk1;exact⟨L,hA L hL,(zyd hr).1 hk2⟩
  ·rintro⟨L,hL,h3⟩
   exact⟨_,(h2 _).2 ⟨L,zxU.2 hL,rfl⟩,(zyd hr).2 h3⟩
 unfold ztw
 by_cases hc:zyh p rs
 ·exact⟨true,zrn h0 fun ks hk=>(key ks hk).some_of hc,⟨fun _=>hc,fun _=>rfl⟩⟩
 ·exact⟨false,zrn h0 fun ks hk=>(key ks hk).some_not hc,⟨fun h=>(by cases h),fun h=>absurd h hc⟩⟩
end
end Go.Proofs.Ytkcmdghjgoaggaa

namespace Go.Proofs.Ytkcmdghjgoaggaa
open _root_.Go.Proofs.Try
open Go.Abs
set_option maxRecDepth 100000
noncomputable section
def zyj(S:Int->Prop)(x:Int):Prop:=S x/\∀y,S y->x<=y
def zyk(S:Int->Prop)(x:Int):Prop:=S x/\∀y,S y->y<=x
theorem zyl{S:Int->Prop}{x y:Int}(h:zyj S x)(h':zyj S y):x=y:=Int.le_antisymm (h.2 _ h'.1) (h'.2 _ h.1)
theorem zym{S:Int->Prop}{x y:Int}(h:zyk S x)(h':zyk S y):x=y:=Int.le_antisymm (h'.2 _ h.1) (h.2 _ h'.1)
theorem zyn{number:Oc->Option Int}{g:Oc->Int}{ws:List Oc}{y:List P5}{K:List Int->List P5->Option Rg}(hg:∀o∈ws,number o=some (g o)){acc:List Int}(hl:acc.length+ws.length<=1048576):ztx number ws y K (ws.length+1) acc 0=K (acc++ws.map g) y:=by
 have key:=zwH (n:=ws.length) (fun d (s:List Int) x=>ztx number ws y K d s x) (fun k=>acc++(ws.take k).map g) (fin:=K (acc++ws.map g) y) (fun d k hk=>?_) (fun d=>?_) (ws.length+1) 0 (by omega) (by omega)
 ·rw[List.take_zero,List.map_nil,List.append_nil] at key; exact key
 ·have hgt:=List.getElem?_eq_getElem hk;rw[ztx,if_pos (by omega),zrQ hgt,obs,hg _ (List.getElem_mem hk),obs,zqs (by rw[List.length_append,List.length_map,List.length_take]; omega),zqs (fI (by omega)),List.take_add_one,hgt,List.map_append,<- List.append_assoc]; rfl
 ·rw[ztx,if_neg (by omega),List.take_length]
def tot(p:Pg)(A:List (List Int))(ks:List P5):Nat:=(ks.map fun k=>(grp p A k).length).sum
def zyo(p:Pg)(A:List (List Int))(rs:List Rpt)(g:Oc->Int)(ks:List P5)(y:Int):Prop:=∃k∈ks,agK k rs/\∃o∈grp p A k,g o=y
theorem zyp{p:Pg}{A:List (List Int)}{w:Wk}{number:Oc->Option Int}{g:Oc->Int}{lo hi:Int}(hr:zx8 w.p.Reports)(hs:zrZ w.p.Reports):∀(d:Nat) (rem:List P5) (acc:List Int),rem.length < d->acc.length+tot p A rem<=1048576->(∀k∈rem,zqJ w.played k=some (grp p A k)/\∀o∈grp p A k,number o=some (g o)) ->
  zyj (fun y=>y∈acc\/zyo p A w.p.Reports g rem y) lo->zyk (fun y=>y∈acc\/zyo p A w.p.Reports g rem y) hi->pboundsW_L0 w number d acc rem=some { Lo:=lo,Hi:=hi }
 | 0,_,_,h,_,_,_,_=>by omega
 | d+1,rem,acc,h,hacc,hm,h1,h2=>by
  unfold pboundsW_L0;refine zrr (fun l1 a l2 hrr=>?_) fun hrr=>?_
  ·subst hrr
   have hsub:∀x,x∈l1++l2->x∈l1++a::l2:=fun x hx=>by
    rcases List.mem_append.1 hx with h | h
    ·exact List.mem_append_left _ h
    ·exact List.mem_append_right _ (List.mem_cons_of_mem _ h)
   have hspl:∀x,x∈l1++a::l2↔x=a\/x∈l1++l2:=fun x=>by simp only[List.mem_append,List.mem_cons]; constructor <;> (intro h; rcases h with h | h | h <;> simp[h])
   obtain⟨k1,k2⟩:=hm a (by simp)
   have hlen:(l1++l2).length+1=(l1++a::l2).length:=by simp only[List.length_append,List.length_cons]; omega
   have htot:tot p A (l1++a::l2)=(grp p A a).length+tot p A (l1++l2):=by unfold tot; simp only[List.map_append,List.map_cons,List.sum_append,List.sum_cons]; omega
   rw[k1,obs]
   by_cases ha:agK a w.p.Reports
   ·rw[(zyf hr hs).some_of ha,obs,if_pos rfl,zyn k2 (by omega)]
    have hiff:(fun y=>y∈acc++(grp p A a).map g\/zyo p A w.p.Reports g (l1++l2) y)=fun y=>y∈acc\/zyo p A w.p.Reports g (l1++a::l2) y:=funext fun y=>propext ⟨fun hy=>by
     rcases hy with hy | ⟨x,hx,hx2⟩
     ·rcases List.mem_append.1 hy with hy | hy
      ·exact .inl hy
      ·obtain⟨o,ho,hoy⟩:=List.mem_map.1 hy;exact .inr ⟨a,by simp,ha,o,ho,hoy⟩
     ·exact .inr ⟨x,hsub x hx,hx2⟩,fun hy=>by
     rcases hy with hy | ⟨x,hx,hx2,o,ho,hoy⟩
     ·exact .inl (List.mem_append_left _ hy)
     ·rcases (hspl x).1 hx with rfl | hx
      ·exact .inl (List.mem_append_right _ (List.mem_map.2 ⟨o,ho,hoy⟩))
      ·exact .inr ⟨x,hx,hx2,o,ho,hoy⟩⟩
    exact zyp hr hs d (l1++l2) _ (by omega) (by rw[List.length_append,List.length_map]; omega) (fun x hx=>hm x (hsub x hx)) (by rw[hiff]; exact h1) (by rw[hiff]; exact h2)
   ·rw[(zyf hr hs).some_not ha,obs,if_neg (by decide)]
    have hiff:(fun y=>y∈acc\/zyo p A w.p.Reports g (l1++l2) y)=fun y=>y∈acc\/zyo p A w.p.Reports g (l1++a::l2) y:=funext fun y=>propext ⟨fun hy=>hy.imp id fun⟨x,hx,hx2⟩=>⟨x,hsub x hx,hx2⟩,fun hy=>by
     rcases hy with hy | ⟨x,hx,hx2,hx3⟩
     ·exact .inl hy
     ·rcases (hspl x).1 hx with rfl | hx
      ·exact absurd hx2 ha
      ·exact .inr ⟨x,hx,hx2,hx3⟩⟩
    exact zyp hr hs d (l1++l2) acc (by omega) (by omega) (fun x hx=>hm x (hsub x hx)) (by rw[hiff]; exact h1) (by rw[hiff]; exact h2)
  ·subst hrr;have hno:∀y,(y∈acc\/zyo p A w.p.Reports g [] y)↔y∈acc:=fun y=>⟨fun h=>h.elim id (fun⟨x,hx,_⟩=>(by cases hx)),.inl⟩
   have hne:acc ≠ []:=fun he=>by have:=(hno _).1 h1.1; rw[he] at this; cases this
   have m1:=zr6 hne;have m2:=zr7 hne;have e1:zr2 acc=lo:=zyl ⟨(hno _).2 m1.1,fun y hy=>m1.2 y ((hno y).1 hy)⟩ h1;have e2:zr3 acc=hi:=zym ⟨(hno _).2 m2.1,fun y hy=>m2.2 y ((hno y).1 hy)⟩ h2;rw[zxh hne (by omega),obs,zxi hne (by omega),obs,e1,e2]
open Classical in
theorem zyq{p:Pg}{A:List (List Int)}{ks:List P5}(h:ks.Nodup):tot p A ks<=A.length:=by
 have key:∀(ks:List P5) (B:List Oc),ks.Nodup->(ks.map fun k=>(B.filter fun o=>decide (o.pays=k)).length).sum<=B.length:=by
  intro ks
  induction ks with
  | nil=>intro B _; exact Nat.zero_le _
  | cons k ks ih=>
   intro B hn;obtain⟨h1,h2⟩:=List.nodup_cons.1 hn
   have e1:∀k'∈ks,(B.filter fun o=>decide (o.pays=k')).length=((B.filter fun o=>!decide (o.pays=k)).filter fun o=>decide (o.pays=k')).length:=fun k' hk'=>by
    rw[List.filter_filter]
    congr 1
    refine List.filter_congr fun o _=>?_
    by_cases ho:o.pays=k'
    ·have:¬ o.pays=k:=fun h3=>h1 (h3 ▸ ho ▸ hk')
     simp[ho]
     intro h3; exact h1 (h3 ▸ hk')
    ·simp[ho]
   have e2:(ks.map fun k'=>(B.filter fun o=>decide (o.pays=k')).length)=ks.map fun k'=>((B.filter fun o=>!decide (o.pays=k)).filter fun o=>decide (o.pays=k')).length:=List.map_congr_left e1
   have e3:(B.filter fun o=>decide (o.pays=k)).length+(B.filter fun o=>!decide (o.pays=k)).length=B.length:=by
    clear e1 e2 ih
    induction B with
    | nil=>rfl
    | cons o B ihB=>
     by_cases ho:o.pays=k
     ·rw[List.filter_cons_of_pos (by simp[ho]),List.filter_cons_of_neg (by simp[ho])]; simp only[List.length_cons]; omega
     ·rw[List.filter_cons_of_neg (by simp[ho]),List.filter_cons_of_pos (by simp[ho])]; simp only[List.length_cons]; omega
   rw[List.map_cons,List.sum_cons,e2];have:=ih (B.filter fun o=>!decide (o.pays=k)) h2
   omega
 have:=key ks (A.map (oc p)) h;rw[List.length_map] at this;exact this
def IsB(S:List Int->Prop)(g:List Int->Int)(r:Rg):Prop:=(∃L,S L/\g L=r.Lo)/\(∃L,S L/\g L=r.Hi)/\∀L,S L->r.Lo<=g L/\g L<=r.Hi
theorem IsB.uniq{S:List Int->Prop}{g:List Int->Int}{r r':Rg}(h:IsB S g r)(h':IsB S g r'):r=r':=by
 obtain⟨⟨a,a1,a2⟩,⟨b,b1,b2⟩,c⟩:=h;obtain⟨⟨a',a1',a2'⟩,⟨b',b1',b2'⟩,c'⟩:=h';have q1:=c a' a1'; have q2:=c b' b1'; have q3:=c' a a1; have q4:=c' b b1
 cases r; cases r'
 simp only at *
 congr 1 <;> omega
theorem IsB.congr{S S':List Int->Prop}{g g':List Int->Int}{r:Rg}(h:IsB S g r)(hS:∀L,S L↔S' L)(hg:∀L,S' L->g L=g' L):IsB S' g' r:=by
 obtain⟨⟨a,a1,a2⟩,⟨b,b1,b2⟩,c⟩:=h;exact⟨⟨a,(hS a).1 a1,by rw[<- hg a ((hS a).1 a1)]; exact a2⟩,⟨b,(hS b).1 b1,by rw[<- hg b ((hS b).1 b1)]; exact b2⟩,fun L hL=>by rw[<- hg L hL]; exact c L ((hS L).2 hL)⟩
def TrS(p:Pg)(rs:List Rpt)(L:List Int):Prop:=inL p.Losses L/\agN (zxz p.Treaties L).pays rs
open Classical in
theorem zyr{p:Pg}(h:VP p){number:Oc->Option Int}{g:Oc->Int}(hg:∀L,inL p.Losses L->number (oc p L)=some (g (oc p L)))(hc:zyh p p.Reports):∃r,zty (zx1 p (zxT p)) number=some r/\IsB (TrS p p.Reports) (fun L=>g (oc p L)) r:=by
 have hA:∀L∈zxT p,inL p.Losses L:=fun L hL=>zxU.1 hL;have h5:=h.r5;have hs:zrZ p.Reports:=zr0 h5 (by omega);obtain⟨ks0,h0⟩:=zyc h hA
 have hgrp:∀{k o},o∈grp p (zxT p) k->∃L,inL p.Losses L/\oc p L=o/\(oc p L).pays=k:=fun {k o} ho=>by
  obtain⟨h3,h4⟩:=List.mem_filter.1 ho;obtain⟨L,h5,rfl⟩:=List.mem_map.1 h3;exact⟨L,hA L h5,rfl,of_decide_eq_true h4⟩
 have hin:∀{L},inL p.Losses L->oc p L∈grp p (zxT p) (oc p L).pays:=fun {L} hL=>List.mem_filter.2 ⟨List.mem_map.2 ⟨L,zxU.2 hL,rfl⟩,decide_eq_true rfl⟩
 have hans:∀ks,zrk (plM p (zxT p)) ks->∀y,(y∈([]:List Int)\/zyo p (zxT p) p.Reports g ks y)↔∃L,TrS p p.Reports L/\g (oc p L)=y:=fun ks hk y=>by
  have h2:=((zya h hA ks).1 hk).2
  constructor
  ·rintro (h3 | ⟨k,hk1,hk2,o,ho,rfl⟩)
   ·cases h3
   ·obtain⟨L,hL,rfl,hk3⟩:=hgrp ho;subst hk3;exact⟨L,⟨hL,(zyd h.rsOk).1 hk2⟩,rfl⟩
  ·rintro⟨L,⟨hL,ha⟩,rfl⟩
   exact .inr ⟨_,(h2 _).2 ⟨L,zxU.2 hL,rfl⟩,(zyd h.rsOk).2 ha,_,hin hL,rfl⟩
 -- the zj2 and the zj3 one
 obtain⟨vs,hvs⟩:∃vs:List Int,∀y,y∈vs↔∃L,TrS p p.Reports L/\g (oc p L)=y:=by
  classical
  refine⟨((zxT p).filter fun L=>decide (agN (zxz p.Treaties L).pays p.Reports)).map fun L=>g (oc p L),fun y=>?_⟩;rw[List.mem_map]
  constructor
  ·rintro⟨L,hL,rfl⟩
   obtain⟨h3,h4⟩:=List.mem_filter.1 hL;exact⟨L,⟨hA L h3,of_decide_eq_true h4⟩,rfl⟩
  ·rintro⟨L,⟨h3,h4⟩,rfl⟩
   exact⟨L,List.mem_filter.2 ⟨zxU.2 h3,decide_eq_true h4⟩,rfl⟩
 have hne:vs ≠ []:=fun he=>by
  obtain⟨L,hL⟩:=hc;have:=(hvs _).2 ⟨L,hL,rfl⟩
  rw[he] at this; cases this
 have m1:=zr6 hne;have m2:=zr7 hne;refine⟨{ Lo:=zr2 vs,Hi:=zr3 vs },?_,(hvs _).1 m1.1,(hvs _).1 m2.1,fun L hL=>⟨m1.2 _ ((hvs _).2 ⟨L,hL,rfl⟩),m2.2 _ ((hvs _).2 ⟨L,hL,rfl⟩)⟩⟩;unfold zty;refine zrn h0 fun ks hk=>?_;have htl:=zyq (p:=p) (A:=zxT p) hk.1;have hlen:=zxV h;refine zyp (p:=p) (A:=zxT p) (w:=zx1 p (zxT p)) (g:=g) h.rsOk hs _ ks [] (by omega) (by simp only[List.length_nil]; omega) (fun k hkk=>⟨?_,fun o ho=>?_⟩) ⟨(hans ks hk _).2 ((hvs _).1 m1.1),fun y hy=>m1.2 y ((hvs _).2 ((hans ks hk _).1 hy))⟩ ⟨(hans ks hk _).2 ((hvs _).1 m2.1),fun y hy=>m2.2 y ((hvs _).2 ((hans ks hk _).1 hy))⟩
 ·have h3:=((hk.2 k).1 hkk).2;have h4:(if grp p (zxT p) k=[] then none else some (grp p (zxT p) k)) ≠ none:=h3
  show(if grp p (zxT p) k=[] then none else some (grp p (zxT p) k))=_
  by_cases h5:grp p (zxT p) k=[]
  ·rw[if_pos h5] at h4; exact absurd rfl h4
  ·rw[if_neg h5]
 ·obtain⟨L,hL,rfl,_⟩:=hgrp ho;exact hg L hL
theorem zys{p:Pg}(h:VP p):zrZ p.Losses/\zrZ p.Treaties/\zrZ p.Reports:=⟨zr0 h.l4 (by omega),zr0 h.t5 (by omega),zr0 h.r5 (by omega)⟩
theorem zyt{p:Pg}(h:VP p):zs2 p=some 0:=by
 obtain⟨h1,h2,h3⟩:=zys h;rw[zxg h1 h2 h3,zwX.2 h]
theorem zyu{p:Pg}{L:List Int}(h:VP p):Ev (zs4 p L) (inL p.Losses L):=by
 have h4:=h.l4;unfold zs4
 by_cases hl:(L.length:Int)=p.Losses.length
 ·rw[if_pos hl];refine(Ev.loop (n:=p.Losses.length) (F:=fun d x=>zs3 p L d x) (ok:=fun j=>∀r x,p.Losses[j]? = some r->L[j]? = some x->r.Lo<=x/\x<=r.Hi) (fin:=some true) (P:=True) (fun d k hk=>?_) (fun d=>?_) (by omega) (fun _=>Ev.tt trivial)).imp ?_
  ·have hg:=List.getElem?_eq_getElem hk;have hg2:=List.getElem?_eq_getElem (show k < L.length by omega)
   show(_->zs3 p L (d+1) (k:Int)=_)/\(_->zs3 p L (d+1) (k:Int)=_)
   rw[zs3,if_pos (by omega),zrQ hg,obs,zrQ hg2,obs];refine(zwY.imp ⟨fun h r x h1 h2=>?_,fun h=>h _ _ hg hg2⟩).step (by rw[if_pos rfl,zqs (fI (by omega))]) (by rw[if_neg (by decide)])
   rw[hg] at h1; rw[hg2] at h2; cases h1; cases h2; exact h
  ·show zs3 p L (d+1) _=_
   rw[zs3,if_neg (Int.lt_irrefl _)]
  ·exact⟨fun h=>zxO (by omega) fun i r x h1 h2=>h.1 i (List.getElem?_eq_some_iff.1 h1).1 r x h1 h2,fun h=>⟨fun j _ r x h1 h2=>zxN h h1 h2,trivial⟩⟩
 ·rw[if_neg hl]; exact Ev.ff fun h=>hl (by rw[zxM h])
def lN(n:Nat)(f:Nat->Int):List Int:=(l5 f).take n
theorem zyv{n:Nat}(h:n<=5)(f:Nat->Int):(lN n f).length=n:=by unfold lN; rw[List.length_take]; show min n 5=n; omega
theorem zyw{p:Pg}(h:VP p){L:List Int}(hL:inL p.Losses L):ztt p L=some (lN p.Treaties.length (zxz p.Treaties L).pays,(zxz p.Treaties L).soc,0):=by
 have h4:=h.l4;have h5:=h.t5;obtain⟨M',q1,_⟩:=zxL h (zxP hL h.ls) (by rw[zxM hL]; omega) (zxI.nil p);unfold ztt;rw[zyt h,obs,if_pos rfl,(zyu h).some_of hL,obs,if_pos rfl,zw2,obs]
 show((ztk (wkP p _) L).bind _)=_
 rw[q1,obs,zqs (by omega),Int.toNat_natCast,show Int.toNat (0:Int)=0 from rfl,List.drop_zero]
 show((ztq (lN p.Treaties.length (zxz p.Treaties L).pays)).bind _)=_
 unfold ztq;rw[zqs (by rw[zyv h5]; simp only[List.length_nil]; omega)]
 rfl
theorem zyx{p:Pg}(h:VP p){L:List Int}(hL:¬ inL p.Losses L):ztt p L=some ([],0,2):=by
 unfold ztt;rw[zyt h,obs,if_pos rfl,(zyu h).some_not hL,obs,if_neg (by decide)]
def wk0:Wk:={ p:={ Losses:=[],Reserve:=0,Treaties:=[],Reports:=[] },kinds:={ k0:={ part:={ Lo:=0,Hi:=0 },above:={ Lo:=0,Hi:=0 },most:={ Lo:=0,Hi:=0 },times:={ Lo:=0,Hi:=0 },takes:=(fun _ _ _=>none) },k1:={ part:={ Lo:=0,Hi:=0 },above:={ Lo:=0,Hi:=0 },most:={ Lo:=0,Hi:=0 },times:={ Lo:=0,Hi:=0 },takes:=(fun _ _ _=>none) } },shared:=(),played:=none }
theorem zyy{p:Pg}(h:VP p)(hc:zyh p p.Reports):ztz p=some (zx1 p (zxT p),0):=by
 unfold ztz;rw[zyt h,obs,if_pos rfl,zx7 h,obs]
 show((ztw (zx1 p (zxT p)) p.Reports).bind _)=_
 rw[(zyi h h.rsOk (zys h).2.2).some_of hc]; rfl
theorem zyz{p:Pg}(h:VP p)(hc:¬ zyh p p.Reports):ztz p=some (wk0,11):=by
 unfold ztz;rw[zyt h,obs,if_pos rfl,zx7 h,obs]
 show((ztw (zx1 p (zxT p)) p.Reports).bind _)=_
 rw[(zyi h h.rsOk (zys h).2.2).some_not hc]; rfl
structure zyA (p:Pg) (bs:List Bd):Prop where
 len:bs.length=p.Treaties.length
 at':∀(k:Nat) (b:Bd),bs[k]? = some b->IsB (TrS p p.Reports) (fun L=>(zxz p.Treaties L).pays k) b.Pays/\IsB (TrS p p.Reports) (fun L=>(zxz p.Treaties L).keeps k) b.Keeps
theorem zyA.uniq{p:Pg}{bs bs':List Bd}(h:zyA p bs)(h':zyA p bs'):bs=bs':=by
 refine List.ext_getElem? fun k=>?_
 cases hb:bs[k]? with
 | none=>
  rw[List.getElem?_eq_none_iff] at hb;rw[List.getElem?_eq_none (by rw[h'.len,<- h.len]; exact hb)]
 | some b=>
  have hk:=(List.getElem?_eq_some_iff.1 hb).1;have hb':=List.getElem?_eq_getElem (show k < bs'.length by rw[h'.len,<- h.len]; exact hk);rw[hb'];obtain⟨q1,q2⟩:=h.at' k b hb;obtain⟨q3,q4⟩:=h'.at' k _ hb';have e1:=q1.uniq q3;have e2:=q2.uniq q4;generalize bs'[k]'(by rw[h'.len,<- h.len]; exact hk)=b' at e1 e2
  cases b; cases b'
  simp only at e1 e2
  rw[e1,e2]
theorem zyB{p:Pg}(h:VP p)(hc:zyh p p.Reports):∃bs,ztD p=some (bs,0)/\zyA p bs:=by
 have h5:=h.t5
 have hx:∀k:Nat,k < p.Treaties.length->∃b:Bd,(∀L,inL p.Losses L->True)/\zty (zx1 p (zxT p)) (fun a=>ztA a (k:Int))=some b.Pays/\zty (zx1 p (zxT p)) (fun a=>ztB a (k:Int))=some b.Keeps/\IsB (TrS p p.Reports) (fun L=>(zxz p.Treaties L).pays k) b.Pays/\IsB (TrS p p.Reports) (fun L=>(zxz p.Treaties L).keeps k) b.Keeps:=fun k hk=>by
  obtain⟨r1,a1,a2⟩:=zyr h (number:=fun a=>ztA a (k:Int)) (g:=fun o=>(idx ([o.pays.p0,o.pays.p1,o.pays.p2,o.pays.p3,o.pays.p4]:List Int) (k:Int)).getD 0) (fun L _=>by
   show((idx (l5 (zxz p.Treaties L).pays) (k:Int)).bind fun v=>some v)=some ((idx (l5 (zxz p.Treaties L).pays) (k:Int)).getD 0)
   rw[zwJ (by omega)]; rfl) hc
  obtain⟨r2,b1,b2⟩:=zyr h (number:=fun a=>ztB a (k:Int)) (g:=fun o=>(idx ([o.keeps.p0,o.keeps.p1,o.keeps.p2,o.keeps.p3,o.keeps.p4]:List Int) (k:Int)).getD 0) (fun L _=>by
   show((idx (l5 (zxz p.Treaties L).keeps) (k:Int)).bind fun v=>some v)=some ((idx (l5 (zxz p.Treaties L).keeps) (k:Int)).getD 0)
   rw[zwJ (by omega)]; rfl) hc
  refine⟨⟨r1,r2⟩,fun _ _=>trivial,a1,b1,a2.congr (fun _=>Iff.rfl) fun L _=>?_,b2.congr (fun _=>Iff.rfl) fun L _=>?_⟩
  ·show(idx (l5 (zxz p.Treaties L).pays) (k:Int)).getD 0=_
   rw[zwJ (by omega)]; rfl
  ·show(idx (l5 (zxz p.Treaties L).keeps) (k:Int)).getD 0=_
   rw[zwJ (by omega)]; rfl
 unfold ztD;rw[zyy h hc,obs,if_pos rfl]
 have key:∀(d k:Nat) (acc:List Bd),k<=p.Treaties.length->p.Treaties.length - k < d->acc.length=k->(∀(j:Nat) (b:Bd),acc[j]? = some b->IsB (TrS p p.Reports) (fun L=>(zxz p.Treaties L).pays j) b.Pays/\IsB (TrS p p.Reports) (fun L=>(zxz p.Treaties L).keeps j) b.Keeps) ->
   ∃bs,ztC p (zx1 p (zxT p),0) d acc (k:Int)=some (bs,0)/\zyA p bs:=by
  intro d
  induction d with
  | zero=>intro k acc _ h _ _; omega
  | succ d ih=>
   intro k acc hk hd hl hacc;rw[ztC]
   by_cases hkl:k < p.Treaties.length
   ·obtain⟨b,_,b1,b2,b3,b4⟩:=hx k hkl;rw[if_pos (by omega)]
    show ∃bs,((zty (zx1 p (zxT p)) fun a=>ztA a (k:Int)).bind _)=_/\_
    rw[b1,obs]
    show ∃bs,((zty (zx1 p (zxT p)) fun a=>ztB a (k:Int)).bind _)=_/\_
    rw[b2,obs,zqs (by omega),zqs (fI (by omega)),show(k:Int)+1=((k+1:Nat):Int) by omega];refine ih (k+1) _ (by omega) (by omega) (by rw[List.length_append,hl]; rfl) fun j b' hb'=>?_
    by_cases hj:j < acc.length
    ·rw[List.getElem?_append_left hj] at hb'; exact hacc j b' hb'
    ·rw[List.getElem?_append_right (by omega)] at hb'
     have hj2:j=k:=by
      have:=(List.getElem?_eq_some_iff.1 hb').1
      simp only[List.length_cons,List.length_nil] at this
      omega
     subst hj2;rw[show j - acc.length=0 by omega] at hb'
     cases hb'
     exact⟨b3,b4⟩
   ·rw[if_neg (by omega)];exact⟨acc,rfl,by omega,hacc⟩
 exact key (p.Treaties.length+1) 0 [] (Nat.zero_le _) (by omega) rfl fun j b hb=>by cases hb
theorem zyC{p:Pg}(h:VP p)(hc:¬ zyh p p.Reports):ztD p=some ([],11):=by
 unfold ztD;rw[zyz h hc,obs,if_neg (by decide)]
theorem zyD{p:Pg}(h:VP p)(hc:zyh p p.Reports):∃r,ztE p=some (r,0)/\IsB (TrS p p.Reports) (fun L=>(zxz p.Treaties L).soc) r:=by
 obtain⟨r,a1,a2⟩:=zyr h (number:=fun a=>ztd a) (g:=fun o=>o.society) (fun L _=>rfl) hc;refine⟨r,?_,a2⟩;unfold ztE;rw[zyy h hc,obs,if_pos rfl]
 show((zty (zx1 p (zxT p)) fun a=>ztd a).bind _)=_
 rw[a1]; rfl
end
end Go.Proofs.Ytkcmdghjgoaggaa

namespace Go.Proofs.Ytkcmdghjgoaggaa
open _root_.Go.Proofs.Try
open Go.Abs
set_option maxRecDepth 100000
noncomputable section
def a1(ts:List Ty)(th:Nat->Bool)(P:Nat->Int)(x:Int):Nat->(Nat->Int) × Int
 | 0=>(fun _=>0,x)
 | k+1=>match ts[k]? with
  | some t=>if t.Of < 0/\th k=true then (upF (a1 ts th P x k).1 k (zxk t (a1 ts th P x k).2 (P k)),(a1 ts th P x k).2 - zxk t (a1 ts th P x k).2 (P k)) else a1 ts th P x k
  | none=>a1 ts th P x k
theorem zyE{ts:List Ty}{th:Nat->Bool}{P:Nat->Int}{x:Int}{k:Nat}{t:Ty}(h:ts[k]? = some t):a1 ts th P x (k+1)=if t.Of < 0/\th k=true then (upF (a1 ts th P x k).1 k (zxk t (a1 ts th P x k).2 (P k)),(a1 ts th P x k).2 - zxk t (a1 ts th P x k).2 (P k)) else a1 ts th P x k:=by
 show(match ts[k]? with | some t=>_ | none=>_)=_
 rw[h]
def a2(ts:List Ty)(P:Nat->Int)(now:Nat->Int):Nat->(Nat->Int) × (Nat->Int)
 | 0=>(now,now)
 | k+1=>match ts[k]? with
  | some t=>if 0<=t.Of then (upF (a2 ts P now k).1 k (zxk t ((a2 ts P now k).2 t.Of.toNat) (P k)),upF (upF (a2 ts P now k).2 k (zxk t ((a2 ts P now k).2 t.Of.toNat) (P k))) t.Of.toNat ((a2 ts P now k).2 t.Of.toNat - zxk t ((a2 ts P now k).2 t.Of.toNat) (P k))) else a2 ts P now k
  | none=>a2 ts P now k
theorem zyF{ts:List Ty}{P now:Nat->Int}{k:Nat}{t:Ty}(h:ts[k]? = some t):a2 ts P now (k+1)=if 0<=t.Of then (upF (a2 ts P now k).1 k (zxk t ((a2 ts P now k).2 t.Of.toNat) (P k)),upF (upF (a2 ts P now k).2 k (zxk t ((a2 ts P now k).2 t.Of.toNat) (P k))) t.Of.toNat ((a2 ts P now k).2 t.Of.toNat - zxk t ((a2 ts P now k).2 t.Of.toNat) (P k))) else a2 ts P now k:=by
 show(match ts[k]? with | some t=>_ | none=>_)=_
 rw[h]
structure I1 (ts:List Ty) (P:Nat->Int) (x:Int) (s:(Nat->Int) × Int):Prop where
 left:0<=s.2/\s.2<=x
 now:∀j,0<=s.1 j/\s.1 j<=x
 cap:zxs ts fun j=>P j+s.1 j
theorem zyG{ts:List Ty}{th:Nat->Bool}(hts:zxt ts){P:Nat->Int}(hP:zxs ts P){x:Int}(hx:0<=x/\x<=100000):∀k,k<=ts.length->I1 ts P x (a1 ts th P x k)
 | 0,_=>⟨⟨hx.1,Int.le_refl _⟩,fun _=>⟨Int.le_refl _,hx.1⟩,fun j t ht h1=>by have:=hP j t ht h1; show P j+0<=_; omega⟩
 | k+1,hk=>by
  have ih:=zyG (th:=th) hts hP hx k (by omega);have hg:=List.getElem?_eq_getElem (show k < ts.length by omega);have hkd:=hts.k _ (List.getElem_mem (show k < ts.length by omega));rw[zyE hg];generalize a1 ts th P x k=s at ih ⊢;generalize ts[k]'(by omega)=t at hg hkd
  by_cases hc:t.Of < 0/\th k=true
  ·rw[if_pos hc];have hl:=ih.left;have hb:=zxn hkd (a:=s.2) (b:=P k) (by omega) (hP k t hg);refine⟨by show 0<=s.2 - _/\s.2 - _<=x; omega,fun j=>?_,fun j t' ht' h'=>?_⟩
   ·show 0<=upF s.1 k _ j/\upF s.1 k _ j<=x
    by_cases hjk:j=k
    ·subst hjk; rw[zwM]; omega
    ·rw[zwN _ _ hjk]; exact ih.now j
   ·show P j+upF s.1 k _ j<=_
    by_cases hjk:j=k
    ·subst hjk; rw[hg] at ht'; cases ht'; rw[zwM]; exact hb.2.2 h'
    ·rw[zwN _ _ hjk]; exact ih.cap j t' ht' h'
  ·rw[if_neg hc]; exact ih
structure I2 (ts:List Ty) (P:Nat->Int) (x:Int) (s:(Nat->Int) × (Nat->Int)):Prop where
 now:∀j,0<=s.1 j/\s.1 j<=x
 rest:∀j,0<=s.2 j/\s.2 j<=x
 cap:zxs ts fun j=>P j+s.1 j
theorem zyH{ts:List Ty}(hts:zxt ts){P now:Nat->Int}(hP:zxs ts P){x:Int}(hx:0<=x/\x<=100000)(hn:∀j,0<=now j/\now j<=x)(hc:zxs ts fun j=>P j+now j):∀k,k<=ts.length->I2 ts P x (a2 ts P now k)
 | 0,_=>⟨hn,hn,hc⟩
 | k+1,hk=>by
  have ih:=zyH hts hP hx hn hc k (by omega);have hg:=List.getElem?_eq_getElem (show k < ts.length by omega);have hkd:=hts.k _ (List.getElem_mem (show k < ts.length by omega));rw[zyF hg];generalize a2 ts P now k=s at ih ⊢;generalize ts[k]'(by omega)=t at hg hkd
  by_cases ho:0<=t.Of
  ·rw[if_pos ho];have hr:=ih.rest t.Of.toNat;have hb:=zxn hkd (a:=s.2 t.Of.toNat) (b:=P k) (by omega) (hP k t hg);refine⟨fun j=>?_,fun j=>?_,fun j t' ht' h'=>?_⟩
   ·show 0<=upF s.1 k _ j/\upF s.1 k _ j<=x
    by_cases hjk:j=k
    ·subst hjk; rw[zwM]; omega
    ·rw[zwN _ _ hjk]; exact ih.now j
   ·show 0<=upF (upF s.2 k _) _ _ j/\upF (upF s.2 k _) _ _ j<=x
    by_cases hjo:j=t.Of.toNat
    ·subst hjo; rw[zwM]; omega
    ·rw[zwN _ _ hjo]
     by_cases hjk:j=k
     ·subst hjk; rw[zwM]; omega
     ·rw[zwN _ _ hjk]; exact ih.rest j
   ·show P j+upF s.1 k _ j<=_
    by_cases hjk:j=k
    ·subst hjk; rw[hg] at ht'; cases ht'; rw[zwM]; exact hb.2.2 h'
    ·rw[zwN _ _ hjk]; exact ih.cap j t' ht' h'
  ·rw[if_neg ho]; exact ih
def zyI(ts:List Ty)(th:Nat->Bool)(s:(Nat->Int) × Int)(x:Int):(Nat->Int) × Int:=
 (fun j=>s.1 j+(a2 ts s.1 (a1 ts th s.1 x ts.length).1 ts.length).1 j,s.2+(a1 ts th s.1 x ts.length).2)
def zyJ(ts:List Ty)(th:Nat->Bool)(L:List Int):(Nat->Int) × Int:=L.foldl (zyI ts th) (fun _=>0,0)
structure RI (ts:List Ty) (B:Int) (s:(Nat->Int) × Int):Prop where
 net:0<=s.2/\s.2<=B
 pays:∀j,0<=s.1 j/\s.1 j<=B
 cap:zxs ts s.1
theorem RI.step{ts:List Ty}{th:Nat->Bool}(hts:zxt ts){B:Int}{s:(Nat->Int) × Int}(h:RI ts B s){x:Int}(hx:0<=x/\x<=100000):RI ts (B+x) (zyI ts th s x):=by
 have h1:=zyG (th:=th) hts h.cap hx ts.length (Nat.le_refl _);have h2:=zyH hts h.cap hx h1.now h1.cap ts.length (Nat.le_refl _);refine⟨?_,fun j=>?_,h2.cap⟩
 ·have:=h.net; have:=h1.left; show 0<=s.2+_/\s.2+_<=_; omega
 ·have:=h.pays j; have:=h2.now j; show 0<=s.1 j+_/\s.1 j+_<=_; omega
section
variable {p:Pg} (h:VP p)
end
def ofB(ts:List Ty)(j:Nat):Bool:=match ts[j]? with | some t=>decide (t.Of < 0) | none=>false
theorem zyK{ts:List Ty}{j:Nat}{t:Ty}(h:ts[j]? = some t):ofB ts j=decide (t.Of < 0):=by unfold ofB; rw[h]
end
end Go.Proofs.Ytkcmdghjgoaggaa

namespace Go.Proofs.Ytkcmdghjgoaggaa
open _root_.Go.Proofs.Try
open Go.Abs
set_option maxRecDepth 100000
noncomputable section
def zyL(n:Nat):List Int:=(List.range n).map fun j=>((j:Nat):Int)
theorem zyM(n:Nat):Inc n 0 (zyL n):=by
 refine⟨?_,fun v hv=>?_⟩
 ·unfold zyL;rw[List.pairwise_map]
  exact List.pairwise_lt_range.imp fun h=>by omega
 ·obtain⟨j,hj,rfl⟩:=List.mem_map.1 hv;have:=List.mem_range.1 hj
  omega
theorem zyN{n j:Nat}(h:j < n):inD (zyL n) j=true:=decide_eq_true (List.mem_map.2 ⟨j,List.mem_range.2 h,rfl⟩)
structure zyO (n:Nat) (P:(Nat->Bool)->Prop) (M:List Int):Prop where
 inc:Inc n 0 M
 ok:P (inD M)
 min:∀D,Inc n 0 D->P (inD D)->D=M\/shB M D=true
theorem zyO.uniq{n:Nat}{P:(Nat->Bool)->Prop}{M M':List Int}(h:zyO n P M)(h':zyO n P M'):M=M':=by
 rcases h.min M' h'.inc h'.ok with h1 | h1
 ·exact h1.symm
 ·rcases h'.min M h.inc h.ok with h2 | h2
  ·exact h2
  ·rw[zwv h1] at h2; cases h2
def macc(S:Nat->Bool):Nat->Nat
 | 0=>0
 | i+1=>if S i=true then macc S i ||| 2 ^ i else macc S i
theorem zyP(S:Nat->Bool)(j:Nat):∀i,(macc S i).testBit j=(decide (j < i) && S j)
 | 0=>by simp[macc]
 | i+1=>by
  have ih:=zyP S j i;unfold macc
  by_cases hs:S i=true
  ·rw[if_pos hs,Nat.testBit_or,ih,Nat.testBit_two_pow]
   by_cases h:i=j
   ·subst h; simp[hs]
   ·have:decide (j < i+1)=decide (j < i):=decide_eq_decide.2 (by omega);rw[this]; simp[h]
  ·rw[if_neg hs,ih]
   by_cases h:i=j
   ·subst h
    have:S i=false:=by simpa using hs
    rw[this]; simp
   ·have:decide (j < i+1)=decide (j < i):=decide_eq_decide.2 (by omega);rw[this]
def zyQ:List Rg->Int->List Int
 | [],_=>[]
 | r::rs,n=>(r.Lo+n % (r.Hi - r.Lo+1))::zyQ rs (n / (r.Hi - r.Lo+1))
theorem zyR:∀{rs:List Rg} {n:Int},(∀r∈rs,r.Lo<=r.Hi)->0<=n->inL rs (zyQ rs n)
 | [],_,_,_=>trivial
 | r::rs,n,h,h0=>by
  have hr:=h r (List.mem_cons_self ..);have h1:=Int.emod_nonneg n (show r.Hi - r.Lo+1 ≠ 0 by omega);have h2:=Int.emod_lt_of_pos n (show 0 < r.Hi - r.Lo+1 by omega);exact⟨⟨by omega,by omega⟩,zyR (fun r hr=>h r (List.mem_cons_of_mem _ hr)) (Int.ediv_nonneg h0 (by omega))⟩
theorem zyS:∀{rs:List Rg} {L:List Int},inL rs L->∃n,0<=n/\n < zwV rs/\zyQ rs n=L
 | [],[],_=>⟨0,Int.le_refl _,by show(0:Int) < 1; omega,rfl⟩
 | [],_::_,h=>h.elim
 | _::_,[],h=>h.elim
 | r::rs,x::xs,h=>by
  obtain⟨n,h0,h1,h2⟩:=zyS h.2;have hx:=h.1;obtain⟨c,hc⟩:∃c,c=r.Hi - r.Lo+1:=⟨_,rfl⟩;refine⟨(x - r.Lo)+c * n,?_,?_,?_⟩
  ·have:=Int.mul_nonneg (show 0<=c by omega) h0; omega
  ·show _ < (r.Hi - r.Lo+1) * zwV rs
   rw[<- hc];have:=Int.mul_le_mul_of_nonneg_left (show n+1<=zwV rs by omega) (show 0<=c by omega);rw[Int.mul_add,Int.mul_one] at this
   omega
  ·show(r.Lo+_ % (r.Hi - r.Lo+1))::zyQ rs (_ / (r.Hi - r.Lo+1))=_
   rw[<- hc,Int.add_mul_emod_self_left,Int.emod_eq_of_lt (by omega) (by omega),Int.add_mul_ediv_left _ _ (by omega),Int.ediv_eq_zero_of_lt (by omega) (by omega),Int.zero_add,h2]
   congr 1; omega
theorem VP.nthIn{p:Pg}(h:VP p){n:Int}(hn:0<=n):inL p.Losses (zyQ p.Losses n):=zyR (fun r hr=>(h.ls r hr).2.1) hn
open Classical in
def agR(P:Nat->Int)(r:Rpt):Prop:=r.Paid.Lo<=P r.Treaty.toNat/\P r.Treaty.toNat<=r.Paid.Hi
open Classical in
def agf(p:Pg)(L:List Int)(j:Nat):Bool:=decide (∀r,p.Reports[j]? = some r->agR (zxz p.Treaties L).pays r)
open Classical in
theorem zyT{p:Pg}{L:List Int}{j:Nat}{r:Rpt}(h:p.Reports[j]? = some r):agf p L j=true↔agR (zxz p.Treaties L).pays r:=by
 unfold agf;rw[decide_eq_true_eq];exact⟨fun q=>q r h,fun q r' h'=>by rw[h] at h'; cases h'; exact q⟩
def zyU(p:Pg)(L:List Int):Nat:=macc (agf p L) p.Reports.length
def PL(p:Pg)(S:Nat->Bool):Prop:=∃L,inL p.Losses L/\∀j,j < p.Reports.length->S j=false->agf p L j=true
theorem PL.congr{p:Pg}{S S':Nat->Bool}(h:∀j,j < p.Reports.length->S j=S' j):PL p S↔PL p S':=
 exists_congr fun _=>and_congr_right fun _=>forall_congr' fun j=>forall_congr' fun hj=>by rw[h j hj]
theorem zyV{p:Pg}(h:VP p){L:List Int}(hL:inL p.Losses L):(∀j,0<=(zxz p.Treaties L).pays j/\(zxz p.Treaties L).pays j<=4000)/\(∀j,0<=(zxz p.Treaties L).keeps j/\(zxz p.Treaties L).keeps j<=4000)/\0<=(zxz p.Treaties L).soc/\(zxz p.Treaties L).soc<=4000:=by
 obtain⟨h1,h2,h3⟩:=zx3 h hL;refine⟨fun j=>?_,fun j=>?_,?_⟩
 ·have:=h1.pays j; omega
 ·have:=h1.keeps j; omega
 ·have:=h1.soc; omega
end
end Go.Proofs.Ytkcmdghjgoaggaa

namespace Go.Proofs.Ytkcmdghjgoaggaa
open _root_.Go.Proofs.Try
open Go.Abs
set_option maxRecDepth 100000
noncomputable section
theorem zyW{p:Pg}{L:List Int}:zyU p L=2 ^ p.Reports.length - 1↔agN (zxz p.Treaties L).pays p.Reports:=by
 constructor
 ·intro h r hr;obtain⟨j,hj⟩:=List.mem_iff_getElem?.1 hr;have hjl:=(List.getElem?_eq_some_iff.1 hj).1
  have e:(zyU p L).testBit j=true:=by rw[h,Nat.testBit_two_pow_sub_one,decide_eq_true hjl]
  unfold zyU at e;rw[zyP] at e;exact(zyT hj).1 (Bool.and_eq_true_iff.1 e).2
 ·intro h
  apply Nat.eq_of_testBit_eq
  intro j;unfold zyU;rw[zyP,Nat.testBit_two_pow_sub_one]
  by_cases hj:j < p.Reports.length
  ·have hg:=List.getElem?_eq_getElem hj;rw[decide_eq_true hj,(zyT hg).2 (h _ (List.getElem_mem hj))]; rfl
  ·rw[decide_eq_false hj]; rfl
def trL(p:Pg):List (List Int):=((List.range (zwV p.Losses).toNat).filter fun n:Nat=>decide (zyU p (zyQ p.Losses (n:Int))=2 ^ p.Reports.length - 1)).map fun n:Nat=>zyQ p.Losses (n:Int)
theorem zyX{p:Pg}(h:VP p){L:List Int}:L∈trL p↔TrS p p.Reports L:=by
 unfold trL TrS;rw[List.mem_map]
 constructor
 ·rintro⟨n,hn,rfl⟩
  obtain⟨_,h2⟩:=List.mem_filter.1 hn;exact⟨h.nthIn (by omega),zyW.1 (of_decide_eq_true h2)⟩
 ·rintro⟨hL,hA⟩
  obtain⟨n,n0,n1,rfl⟩:=zyS hL;refine⟨n.toNat,List.mem_filter.2 ⟨List.mem_range.2 (by omega),decide_eq_true ?_⟩,?_⟩
  ·rw[show((n.toNat:Nat):Int)=n by omega]; exact zyW.2 hA
  ·show zyQ p.Losses ((n.toNat:Nat):Int)=_
   rw[show((n.toNat:Nat):Int)=n by omega]
theorem zyY{p:Pg}:zyh p p.Reports↔PL p fun j=>!(2 ^ p.Reports.length - 1).testBit j:=by
 constructor
 ·rintro⟨L,h1,h2⟩
  exact⟨L,h1,fun j hj _=>(zyT (List.getElem?_eq_getElem hj)).2 (h2 _ (List.getElem_mem hj))⟩
 ·rintro⟨L,h1,h2⟩
  refine⟨L,h1,fun r hr=>?_⟩;obtain⟨j,hj⟩:=List.mem_iff_getElem?.1 hr;have hjl:=(List.getElem?_eq_some_iff.1 hj).1;exact(zyT hj).1 (h2 j hjl (by show(!(2 ^ p.Reports.length - 1).testBit j)=false; rw[Nat.testBit_two_pow_sub_one,decide_eq_true hjl]; rfl))
def wd(r:Rg)(x:Int):Rg:={ Lo:=min r.Lo x,Hi:=max r.Hi x }
def emp:Rg:={ Lo:=1099511627776,Hi:=-1099511627776 }
def wdL(g:List Int->Int)(l:List (List Int)):Rg:=l.foldl (fun r L=>wd r (g L)) emp
theorem zyZ{g:List Int->Int}:∀(l:List (List Int)) (r:Rg),((l.foldl (fun r L=>wd r (g L)) r).Lo=r.Lo\/∃L∈l,g L=(l.foldl (fun r L=>wd r (g L)) r).Lo)/\((l.foldl (fun r L=>wd r (g L)) r).Hi=r.Hi\/∃L∈l,g L=(l.foldl (fun r L=>wd r (g L)) r).Hi)/\(l.foldl (fun r L=>wd r (g L)) r).Lo<=r.Lo/\r.Hi<=(l.foldl (fun r L=>wd r (g L)) r).Hi/\∀L∈l,(l.foldl (fun r L=>wd r (g L)) r).Lo<=g L/\g L<=(l.foldl (fun r L=>wd r (g L)) r).Hi
 | [],r=>⟨.inl rfl,.inl rfl,Int.le_refl _,Int.le_refl _,fun L hL=>by cases hL⟩
 | L::l,r=>by
  obtain⟨a,b,c,d,e⟩:=zyZ (g:=g) l (wd r (g L));have h1:(wd r (g L)).Lo=min r.Lo (g L):=rfl;have h2:(wd r (g L)).Hi=max r.Hi (g L):=rfl;rw[h1] at a c;rw[h2] at b d;rw[List.foldl_cons];generalize l.foldl (fun r L=>wd r (g L)) (wd r (g L))=R at a b c d e ⊢;refine⟨?_,?_,by clear a b; omega,by clear a b; omega,fun L' hL'=>?_⟩
  ·clear b
   rcases a with a | ⟨L',q1,q2⟩
   ·rcases Int.le_total r.Lo (g L) with h | h
    ·exact .inl (by omega)
    ·exact .inr ⟨L,List.mem_cons_self ..,by omega⟩
   ·exact .inr ⟨L',List.mem_cons_of_mem _ q1,q2⟩
  ·clear a
   rcases b with b | ⟨L',q1,q2⟩
   ·rcases Int.le_total (g L) r.Hi with h | h
    ·exact .inl (by omega)
    ·exact .inr ⟨L,List.mem_cons_self ..,by omega⟩
   ·exact .inr ⟨L',List.mem_cons_of_mem _ q1,q2⟩
  ·clear a b
   rcases List.mem_cons.1 hL' with h | h
   ·subst h; omega
   ·exact e L' h
theorem zy0{g:List Int->Int}{l:List (List Int)}(hne:l ≠ [])(hb:∀L∈l,-1000000<=g L/\g L<=1000000):IsB (·∈l) g (wdL g l):=by
 obtain⟨a,b,c,d,e⟩:=zyZ (g:=g) l emp;have h1:emp.Lo=1099511627776:=rfl;have h2:emp.Hi = -1099511627776:=rfl;rw[h1] at a c;rw[h2] at b d;obtain⟨L0,hL0⟩:=List.exists_mem_of_ne_nil l hne;have q1:=hb L0 hL0;have q2:=e L0 hL0;unfold wdL;generalize l.foldl (fun r L=>wd r (g L)) emp=R at a b c d e q2 ⊢;refine⟨?_,?_,e⟩
 ·clear b
  rcases a with a | a
  ·omega
  ·exact a
 ·clear a
  rcases b with b | b
  ·omega
  ·exact b
def bsN(n:Nat)(f:Nat->Bd):List Bd:=(List.range n).map f
theorem zy1{n:Nat}{f:Nat->Bd}:(bsN n f).length=n:=by unfold bsN; rw[List.length_map,List.length_range]
theorem zy2{n:Nat}{f:Nat->Bd}{k:Nat}(h:k < n):(bsN n f)[k]? = some (f k):=by unfold bsN; rw[List.getElem?_map,List.getElem?_range h]; rfl
def bdF(p:Pg)(l:List (List Int))(k:Nat):Bd:={ Pays:=wdL (fun L=>(zxz p.Treaties L).pays k) l,Keeps:=wdL (fun L=>(zxz p.Treaties L).keeps k) l }
theorem zy3{p:Pg}(h:VP p)(hc:zyh p p.Reports):zyA p (bsN p.Treaties.length (bdF p (trL p)))/\IsB (TrS p p.Reports) (fun L=>(zxz p.Treaties L).soc) (wdL (fun L=>(zxz p.Treaties L).soc) (trL p)):=by
 have hne:trL p ≠ []:=fun e=>by
  obtain⟨L,hL⟩:=hc;have:=(zyX h).2 hL
  rw[e] at this; cases this
 have hb:∀L∈trL p,inL p.Losses L:=fun L hL=>((zyX h).1 hL).1;refine⟨⟨zy1,fun k b hk=>?_⟩,?_⟩
 ·have hkl:=(List.getElem?_eq_some_iff.1 hk).1;rw[zy1] at hkl;rw[zy2 hkl] at hk
  cases hk
  refine⟨(zy0 hne fun L hL=>?_).congr (fun L=>zyX h) fun _ _=>rfl,(zy0 hne fun L hL=>?_).congr (fun L=>zyX h) fun _ _=>rfl⟩
  ·have:=(zyV h (hb L hL)).1 k; omega
  ·have:=(zyV h (hb L hL)).2.1 k; omega
 ·refine(zy0 hne fun L hL=>?_).congr (fun L=>zyX h) fun _ _=>rfl;have:=(zyV h (hb L hL)).2.2; omega
def kpF:List Rpt->Nat->(Nat->Bool)->List Rpt
 | [],_,_=>[]
 | v::V,i,S=>if S i=true then v::kpF V (i+1) S else kpF V (i+1) S
theorem zy4{S:Nat->Bool}{v:Rpt}:∀(V:List Rpt) (i:Nat),v∈kpF V i S↔∃j,V[j]? = some v/\S (i+j)=true
 | [],i=>by simp[kpF]
 | a::V,i=>by
  have ih:=zy4 (S:=S) (v:=v) V (i+1)
  have e:(∃j,(a::V)[j]? = some v/\S (i+j)=true)↔(a=v/\S i=true)\/∃j,V[j]? = some v/\S (i+1+j)=true:=by
   constructor
   ·rintro⟨j,h1,h2⟩
    cases j with
    | zero=>exact .inl ⟨by simpa using h1,h2⟩
    | succ j=>exact .inr ⟨j,by simpa using h1,by rw[show i+1+j=i+(j+1) by omega]; exact h2⟩
   ·rintro (⟨h1,h2⟩ | ⟨j,h1,h2⟩)
    ·exact⟨0,by simpa using h1,h2⟩
    ·exact⟨j+1,by simpa using h1,by rw[show i+(j+1)=i+1+j by omega]; exact h2⟩
  rw[e];unfold kpF
  by_cases hs:S i=true
  ·rw[if_pos hs,List.mem_cons,ih];exact or_congr ⟨fun h=>⟨h.symm,hs⟩,fun h=>h.1.symm⟩ Iff.rfl
  ·rw[if_neg hs,ih];exact⟨.inr,fun h=>h.elim (fun h=>absurd h.2 hs) id⟩
theorem zy5{S:Nat->Bool}:∀(V:List Rpt) (i:Nat),(kpF V i S).length<=V.length
 | [],_=>Nat.le_refl _
 | a::V,i=>by
  have:=zy5 (S:=S) V (i+1);unfold kpF
  split <;> simp only[List.length_cons] <;> omega
theorem zy6{l:List Int}{v:Int}(hl:zrZ l):∀d (k:Nat),k<=l.length->l.length - k < d->∃r,ztl l v d (k:Int)=some r/\(0<=r↔v∈l.drop k)
 | 0,k,_,h=>by omega
 | d+1,k,hk,h=>by
  unfold zrZ at hl;unfold ztl
  by_cases hkn:k=l.length
  ·subst hkn; rw[if_neg (Int.lt_irrefl _)]; exact⟨_,rfl,by simp⟩
  ·have hlt:k < l.length:=by omega
   rw[if_pos (by omega),zrQ (List.getElem?_eq_getElem hlt),obs];have hd:=List.drop_eq_getElem_cons hlt
   by_cases hv:v=l[k]
   ·rw[if_pos hv]; exact⟨_,rfl,⟨fun _=>by rw[hd,<- hv]; exact List.mem_cons_self ..,fun _=>by omega⟩⟩
   ·rw[if_neg hv,zqs (fI (by omega)),show(k:Int)+1=((k+1:Nat):Int) by omega];obtain⟨r,h1,h2⟩:=zy6 hl d (k+1) (by omega) (by omega);exact⟨r,h1,h2.trans ⟨fun h=>by rw[hd]; exact List.mem_cons_of_mem _ h,fun h=>by rw[hd] at h; exact(List.mem_cons.1 h).resolve_left hv⟩⟩
theorem zy7{l:List Int}{v:Int}(hl:zrZ l):ztn l v=some (decide (v∈l)):=by
 unfold ztn ztm;obtain⟨r,h1,h2⟩:=zy6 (v:=v) hl (l.length+1) 0 (Nat.zero_le _) (by omega);have h1:ztl l v (l.length+1) 0=some r:=h1;rw[h1,obs];exact congrArg some (decide_eq_decide.2 (h2.trans (by rw[List.drop_zero])))
theorem zy8{p:Int->Option Bool}{f:Nat->Bool}{n:Nat}(hn:n<=1000000)(hp:∀m,m < n->p (m:Int)=some (f m))(hm:∀m k,m<=k->k < n->f m=true->f k=true):∀d (i j:Nat),i<=j->j<=n->j - i < d->(∀m,m < i->f m=false)->(∀m,j<=m->m < n->f m=true) ->
  ∃k:Nat,ztO p d (i:Int) (j:Int)=some (k:Int)/\k<=n/\(∀m,m < k->f m=false)/\(∀m,k<=m->m < n->f m=true)
 | 0,_,_,_,_,h,_,_=>by omega
 | d+1,i,j,hij,hj,h,hlo,hhi=>by
  rw[ztO]
  by_cases hc:i < j
  ·obtain⟨md,hmd⟩:∃md:Nat,md=(i+j) / 2:=⟨_,rfl⟩
   have hf:zl7 .u64 ((i:Int)+j):=show _/\_ by constructor <;> omega
   have e:zmc .i64 (zmc .u64 ((i:Int)+j) / 2)=(md:Int):=by
    rw[wz hf,wz (fI (by omega))]; omega
   rw[if_pos (by omega),zqs (fI (by omega)),zqs (by rw[wz hf]; omega),zqs (by omega),zqs (by omega),zqs (by rw[wz hf]; exact show _/\_ by constructor <;> omega),e,hp md (by omega),obs]
   cases hq:f md with
   | true=>
    rw[if_pos rfl];exact zy8 hn hp hm d i md (by omega) (by omega) (by omega) hlo fun m h1 h2=>hm md m h1 h2 hq
   | false=>
    rw[if_neg (by decide),zqs (fI (by omega)),show(md:Int)+1=((md+1:Nat):Int) by omega]
    exact zy8 hn hp hm d (md+1) j (by omega) hj (by omega) (fun m h1=>by
     cases hq2:f m with
     | false=>rfl
     | true=>have:=hm m md (by omega) (by omega) hq2; rw[hq] at this; cases this) hhi
  ·rw[if_neg (by omega)];exact⟨i,rfl,by omega,hlo,fun m h1 h2=>hhi m (by omega) h2⟩
theorem zy9{p:Pg}{L:List Int}{S:Nat->Bool}:agN (zxz p.Treaties L).pays (kpF p.Reports 0 S)↔∀j,j < p.Reports.length->S j=true->agf p L j=true:=by
 constructor
 ·intro h j hj hs;have hg:=List.getElem?_eq_getElem hj;exact(zyT hg).2 (h _ ((zy4 _ _).2 ⟨j,hg,by rw[Nat.zero_add]; exact hs⟩))
 ·intro h r hr;obtain⟨j,h1,h2⟩:=(zy4 _ _).1 hr;rw[Nat.zero_add] at h2;exact(zyT h1).1 (h j (List.getElem?_eq_some_iff.1 h1).1 h2)
theorem zza{p:Pg}{S:Nat->Bool}:zyh p (kpF p.Reports 0 S)↔PL p fun j=>!S j:=by
 unfold zyh PL;refine exists_congr fun L=>and_congr_right fun _=>zy9.trans ?_;refine forall_congr' fun j=>forall_congr' fun _=>?_
 show(S j=true->_)↔((!S j)=false->_)
 cases S j <;> simp
theorem zzb{l:List Rpt}{D:List Int}(hl:l.length<=1000)(hD:zrZ D):ztp l D=some (kpF l 0 fun j=>!inD D j):=by
 have key:∀(d k:Nat) (acc:List Rpt),k<=l.length->l.length - k < d->acc.length<=k->zto l D d acc (k:Int)=some (acc++kpF (l.drop k) k fun j=>!inD D j):=by
  intro d
  induction d with
  | zero=>intro k _ _ h _; omega
  | succ d ih=>
   intro k acc hk hd ha;rw[zto]
   by_cases hkl:k < l.length
   ·rw[if_pos (by omega),zrQ (List.getElem?_eq_getElem hkl),obs,zy7 hD,obs,List.drop_eq_getElem_cons hkl,kpF]
    by_cases hin:(k:Int)∈D
    ·have e:inD D k=true:=decide_eq_true hin;rw[decide_eq_true hin,if_pos rfl,zqs (fI (by omega)),show(k:Int)+1=((k+1:Nat):Int) by omega,if_neg (by rw[e]; simp)];exact ih (k+1) acc (by omega) (by omega) (by omega)
    ·have e:inD D k=false:=decide_eq_false hin;rw[decide_eq_false hin,if_neg (by decide),zqs (by omega),zqs (fI (by omega)),show(k:Int)+1=((k+1:Nat):Int) by omega,if_pos (by rw[e]; rfl)];refine(ih (k+1) _ (by omega) (by omega) (by rw[List.length_append]; show acc.length+1<=_; omega)).trans ?_;rw[List.append_assoc]; rfl
   ·rw[if_neg (by omega),List.drop_eq_nil_of_le (by omega)]
    show _=some (acc++[])
    rw[List.append_nil]
 exact key (l.length+1) 0 [] (Nat.zero_le _) (by omega) (Nat.le_refl _)
theorem zx8.kp{p:Pg}(h:VP p)(S:Nat->Bool):zx8 (kpF p.Reports 0 S):=fun r hr=>by
 obtain⟨j,h1,_⟩:=(zy4 _ _).1 hr;exact h.rsOk r (List.mem_of_getElem? h1)
theorem zzc{p:Pg}(h:VP p){D:List Int}(hD:zrZ D):Ev (ztR D (zx1 p (zxT p)) p) (PL p (inD D)):=by
 have hr5:=h.r5;unfold ztR;rw[zzb (by omega) hD,obs]
 show Ev ((ztw (zx1 p (zxT p)) (kpF p.Reports 0 fun j=>!inD D j)).bind _) _
 have hlen:=zy5 (S:=fun j=>!inD D j) p.Reports 0;refine(zyi h (zx8.kp h _) (zr0 hlen (by omega))).ret.imp (zza.trans (PL.congr fun j _=>?_))
 simp
theorem zzd{p:Pg}(h:VP p):PL p (inD (zyL p.Reports.length)):=by
 obtain⟨L,hL⟩:=zxX h;exact⟨L,hL,fun j hj hs=>by rw[zyN hj] at hs; cases hs⟩
theorem zze{p:Pg}(h:VP p):∃M,ztS p=some (M,0)/\zyO p.Reports.length (PL p) M:=by
 have h4:=h.r5;have hsh:∀D,Inc p.Reports.length 0 D->zrZ D:=fun D hD=>zr0 (Nat.le_refl D.length) (by have:=zwm hD; omega)
 have ht:∀D,Inc p.Reports.length 0 D->((ztR D (zx1 p (zxT p)) p).getD false=true↔PL p (inD D)):=fun D hD=>by
  obtain⟨b,q1,q2⟩:=zzc h (hsh D hD);rw[q1]; exact q2
 obtain⟨s1,s2,s3⟩:=zwB (n:=p.Reports.length) (t:=fun L=>(ztR L (zx1 p (zxT p)) p).getD false) ⟨zyL p.Reports.length,zyM _,(ht _ (zyM _)).2 (zzd h)⟩;refine⟨zrx p.Reports.length fun L=>(ztR L (zx1 p (zxT p)) p).getD false,?_,s1,(ht _ s1).1 s2,fun D hD hD2=>s3 D hD ((ht D hD).2 hD2)⟩;unfold ztS zry
 rw[zyt h,obs,if_pos rfl,zx7 h,obs,zqs ⟨by omega,by omega,fun L hL=>by
  have hI:Inc p.Reports.length 0 L:=by rw[Int.toNat_natCast] at hL; exact zwn.1 hL
  obtain⟨b,q1,_⟩:=zzc h (hsh L hI)
  show(ztR L (zx1 p (zxT p)) p).isSome=true
  rw[q1]; rfl⟩,obs,Int.toNat_natCast]
def FP(p:Pg)(j:Nat):Prop:=zyh p (p.Reports.take (j+1))
theorem zzf{p:Pg}{i j:Nat}(hij:i<=j)(h:FP p j):FP p i:=by
 obtain⟨L,h1,h2⟩:=h;refine⟨L,h1,fun r hr=>h2 r ?_⟩
 have e:p.Reports.take (i+1)=(p.Reports.take (j+1)).take (i+1):=by rw[List.take_take,show min (i+1) (j+1)=i+1 by omega]
 rw[e] at hr;exact List.mem_of_mem_take hr
open Classical in
theorem zzg{p:Pg}(h:VP p):(∃j,j < p.Reports.length/\¬ FP p j/\(∀i,i < j->FP p i)/\ztQ p=some ((j:Int),0))\/((∀j,j < p.Reports.length->FP p j)/\ztQ p=some (0,7)):=by
 have h4:=h.r5
 have hf:∀m,m < p.Reports.length->ztN (m:Int) (zx1 p (zxT p)) p=some (decide (¬ FP p m)):=fun m hm=>by
  unfold ztN;rw[zqs (fI (by omega)),zqs (by omega),show Int.toNat ((m:Int)+1)=m+1 by omega,show Int.toNat (0:Int)=0 from rfl,List.drop_zero]
  show(ztw (zx1 p (zxT p)) (p.Reports.take (m+1))).bind _=_
  have hlen:(p.Reports.take (m+1)).length<=5:=by rw[List.length_take]; omega
  have hc:=zyi h (rs:=p.Reports.take (m+1)) (fun r hr=>h.rsOk r (List.mem_of_mem_take hr)) (zr0 hlen (by omega))
  by_cases hq:FP p m
  ·rw[hc.some_of hq,obs,decide_eq_false (not_not_intro hq)]; rfl
  ·rw[hc.some_not hq,obs,decide_eq_true hq]; rfl
 obtain⟨k,q1,q2,q3,q4⟩:=zy8 (n:=p.Reports.length) (p:=fun a=>ztN a (zx1 p (zxT p)) p) (f:=fun m=>decide (¬ FP p m)) (by omega) hf (fun m k h1 h2 h3=>decide_eq_true fun hk=>of_decide_eq_true h3 (zzf h1 hk)) ((p.Reports.length:Int).toNat+1) 0 p.Reports.length (Nat.zero_le _) (Nat.le_refl _) (by omega) (fun m hm=>by omega) fun m h1 h2=>by omega
 have e:ztQ p=if ((k:Nat):Int)=(p.Reports.length:Int) then some (0,7) else some ((k:Int),0):=by
  unfold ztQ ztP;rw[zyt h,obs,if_pos rfl,zx7 h,obs];have q1:ztO (fun a=>ztN a (zx1 p (zxT p)) p) ((p.Reports.length:Int).toNat+1) 0 (p.Reports.length:Int)=some (k:Int):=q1;rw[q1,obs]
 have hlt:∀i,i < k->FP p i:=fun i hi=>Classical.not_not.1 (of_decide_eq_false (q3 i hi))
 by_cases hk:k=p.Reports.length
 ·rw[if_pos (by omega)] at e;exact .inr ⟨fun j hj=>hlt j (by omega),e⟩
 ·rw[if_neg (by omega)] at e;exact .inl ⟨k,by omega,of_decide_eq_true (q4 k (Nat.le_refl _) (by omega)),hlt,e⟩
theorem zzh{p:Pg}{j j':Nat}(h1:¬ FP p j)(h2:∀i,i < j->FP p i)(h3:¬ FP p j')(h4:∀i,i < j'->FP p i):j=j':=by
 rcases Nat.lt_trichotomy j j' with h | h | h
 ·exact absurd (h4 j h) h1
 ·exact h
 ·exact absurd (h2 j' h) h3
end
end Go.Proofs.Ytkcmdghjgoaggaa

namespace Go.Proofs.Ytkcmdghjgoaggaa
open _root_.Go.Proofs.Try
open Go.Abs
set_option maxRecDepth 100000
noncomputable section
theorem zzi{l:List Int}:(∀j,0 < j->j < l.length->∀a b,l[j - 1]? = some a->l[j]? = some b->a < b)↔l.Pairwise (· < ·):=by
 constructor
 ·intro h;rw[List.pairwise_iff_getElem];intro i j hi hj hij
  have key:∀d,(hd:i+d+1 < l.length)->l[i] < l[i+d+1]:=fun d=>by
   induction d with
   | zero=>intro hd; exact h (i+1) (by omega) hd _ _ (List.getElem?_eq_getElem hi) (List.getElem?_eq_getElem hd)
   | succ d ih=>
    intro hd;have h1:=ih (by omega);have h2:=h (i+(d+1)+1) (by omega) hd _ _ (List.getElem?_eq_getElem (show i+d+1 < l.length by omega)) (List.getElem?_eq_getElem hd);exact Int.lt_trans h1 h2
  have:=key (j - i - 1) (by omega)
  simpa [show i+(j - i - 1)+1=j by omega] using this
 ·intro h j h0 hj a b ha hb;obtain⟨h1,rfl⟩:=List.getElem?_eq_some_iff.1 ha;obtain⟨h2,rfl⟩:=List.getElem?_eq_some_iff.1 hb;exact List.pairwise_iff_getElem.1 h (j - 1) j h1 h2 (by omega)
theorem zzj{l:List Int}(hl:zrZ l):Ev (zsV l) (l.Pairwise (· < ·)):=by
 unfold zrZ at hl;unfold zsV
 by_cases h0:l.length=0
 ·have:l=[]:=List.eq_nil_of_length_eq_zero h0;subst this
  show Ev (zsU [] 1 1) _
  rw[zsU,if_neg (by decide)];exact Ev.tt .nil
 ·have e:∃n,l.length=n+1:=⟨l.length - 1,by omega⟩;obtain⟨n,hn⟩:=e
  have key:=zrU (n:=n) (F:=fun d x=>zsU l d (x+1)) (ok:=fun j=>∀a b,l[j]? = some a->l[j+1]? = some b->a < b) (bad:=some false) (fin:=some true) (fun d k hk=>by
   show(_->zsU l (d+1) ((k:Int)+1)=_)/\_
   have ha:=List.getElem?_eq_getElem (show k < l.length by omega);have hb:=List.getElem?_eq_getElem (show k+1 < l.length by omega);rw[zsU,if_pos (by omega),zrR (show(k:Int)+1=((k+1:Nat):Int) by omega) (show k+1 < l.length by omega),obs,zqs (fI (by omega)),zrR (show(k:Int)+1 - 1=(k:Int) by omega) (show k < l.length by omega),obs];refine⟨fun h=>?_,fun h=>?_⟩
   ·have:=h _ _ ha hb;rw[if_neg (by omega),zqs (fI (by omega))]
   ·rw[if_pos]
    apply Classical.byContradiction
    intro h2
    exact h fun a b h3 h4=>by rw[ha] at h3; rw[hb] at h4; cases h3; cases h4; omega) (fun d=>by show zsU l (d+1) _=_; rw[zsU,if_neg (by omega)]) (d:=((l.length:Int) - 1).toNat+1) (by omega)
  have e0:zsU l (((l.length:Int) - 1).toNat+1) (0+1)=zsU l (((l.length:Int) - 1).toNat+1) 1:=rfl
  have hiff:(∀j,j < n->∀a b,l[j]? = some a->l[j+1]? = some b->a < b)↔l.Pairwise (· < ·):=by
   rw[<- zzi]
   constructor
   ·intro h j h0 hj a b h1 h2;have:=h (j - 1) (by omega) a b h1;rw[show j - 1+1=j by omega] at this;exact this h2
   ·intro h j hj a b h1 h2;exact h (j+1) (by omega) (by omega) a b (by rw[Nat.add_sub_cancel]; exact h1) h2
  by_cases hq:∀j,j < n->∀a b,l[j]? = some a->l[j+1]? = some b->a < b
  ·have:=key.1 hq;exact⟨true,this,⟨fun _=>hiff.1 hq,fun _=>rfl⟩⟩
  ·have:=key.2 hq;exact⟨false,this,⟨fun h=>(by cases h),fun h=>absurd (hiff.2 h) hq⟩⟩
def zke(p:Pg)(l:List Int):Prop:=l.Pairwise (· < ·)/\∀v∈l,(0<=v/\v<=(p.Treaties.length:Int) - 1)/\ofB p.Treaties v.toNat=true
theorem zke.inc{p:Pg}{l:List Int}(h:zke p l):Inc p.Treaties.length 0 l:=⟨h.1,fun v hv=>by have:=(h.2 v hv).1; omega⟩
theorem zke.len{p:Pg}{l:List Int}(h:zke p l):l.length<=p.Treaties.length:=by have:=zwm h.inc; omega
theorem zzk{p:Pg}(h:VP p){n:Int}:Ev (zs5 p n) ((0<=n/\n<=(p.Treaties.length:Int) - 1)/\ofB p.Treaties n.toNat=true):=by
 have h5:=h.t5;refine(zw4 (zys h).2.1).and fun hc=>?_;have hg:=List.getElem?_eq_getElem (show n.toNat < p.Treaties.length by omega);have e:=zrQ hg;rw[show((n.toNat:Nat):Int)=n by omega] at e;rw[e,obs];have ho:=h.of' _ _ hg;exact Ev.dec (by rw[zyK hg,decide_eq_true_eq]; omega)
theorem zzl{p:Pg}(h:VP p){l:List Int}(hl:zrZ l):Ev (zs6 p l) (zke p l):=
 (zzj hl).and fun _=>(Ev.each (p:=fun a=>zs5 p a) (q:=fun v=>(0<=v/\v<=(p.Treaties.length:Int) - 1)/\ofB p.Treaties v.toNat=true) (fun _ _=>zzk h) hl.lt gI).ret
def tyD:Ty:={ Kind:=0,Part:=0,Above:=0,Most:=0,Times:=0,Price:=0,Of:=-1 }
def tyA(ts:List Ty)(v:Int):Ty:=(ts[v.toNat]?).getD tyD
theorem zzm{ts:List Ty}{v:Int}{t:Ty}(h:ts[v.toNat]? = some t):tyA ts v=t:=by unfold tyA; rw[h]; rfl
theorem zzn{ts:List Ty}{v:Int}(h0:0<=v)(h1:v<=(ts.length:Int) - 1):ts[v.toNat]? = some (tyA ts v):=by
 have hg:=List.getElem?_eq_getElem (show v.toNat < ts.length by omega);rw[zzm hg,hg]
theorem zzo{ts:List Ty}{v:Int}(h0:0<=v)(h1:v<=(ts.length:Int) - 1):idx ts v=some (tyA ts v):=by
 have:=zrQ (zzn h0 h1)
 rwa [show((v.toNat:Nat):Int)=v by omega] at this
def zzp(ts:List Ty):List Int->Int
 | []=>0
 | v::l=>(tyA ts v).Price+zzp ts l
theorem zzq{ts:List Ty}{v:Int}:∀l,zzp ts (l++[v])=zzp ts l+(tyA ts v).Price
 | []=>by show _+(0:Int)=0+_; omega
 | a::l=>by show _+zzp ts (l++[v])=_+zzp ts l+_; rw[zzq l]; omega
def InT(p:Pg)(l:List Int):Prop:=∀v∈l,0<=v/\v<=(p.Treaties.length:Int) - 1
theorem zzr{p:Pg}(h:VP p):∀{l:List Int},InT p l->0<=zzp p.Treaties l/\zzp p.Treaties l<=1000 * l.length
 | [],_=>⟨Int.le_refl _,by show(0:Int)<=1000 * ((0:Nat):Int); omega⟩
 | v::l,hl=>by
  have ih:=zzr h (l:=l) fun v hv=>hl v (List.mem_cons_of_mem _ hv);have hv:=hl v (List.mem_cons_self ..);have ht:=h.ts _ (List.mem_of_getElem? (zzn hv.1 hv.2));have h1:=ht.2
  show 0<=(tyA p.Treaties v).Price+zzp p.Treaties l/\(tyA p.Treaties v).Price+zzp p.Treaties l<=1000 * ((l.length+1:Nat):Int)
  omega
theorem zzs{α:Type}{l:List α}{k:Nat}{a:α}(h:l[k]? = some a):l.take (k+1)=l.take k++[a]:=by rw[List.take_add_one,h]; rfl
theorem zzt{p:Pg}(h:VP p){l:List Int}(hl:InT p l)(h9:l.length<=9):zs8 p l=some (zzp p.Treaties l):=by
 refine zwH (n:=l.length) (fun d (s:Int) y=>zs7 p l d s y) (fun k=>zzp p.Treaties (l.take k)) (fun d k hk=>?_) (fun d=>?_) (l.length+1) 0 (by omega) (by omega)
 ·have hg:=List.getElem?_eq_getElem hk;have hv:=hl _ (List.getElem_mem hk);have hb:=zzr h (l:=l.take (k+1)) fun v hv=>hl v (List.mem_of_mem_take hv)
  have hlen:(l.take (k+1)).length<=9:=by rw[List.length_take]; omega
  rw[zzs hg,zzq] at hb;rw[List.length_append,List.length_take] at hb
  simp only[List.length_singleton] at hb
  show zs7 p l (d+1) _ _=_
  rw[zs7,if_pos (by omega),zrQ hg,obs,zzo hv.1 hv.2,obs,zqs (fI (by omega)),zqs (fI (by omega)),zzs hg,zzq]
 ·show zs7 p l (d+1) _ _=_
  rw[zs7,if_neg (Int.lt_irrefl _),List.take_length]
def zzu(p:Pg)(l:List Int):Pg:={ Losses:=p.Losses,Reserve:=p.Reserve,Treaties:=l.map (tyA p.Treaties),Reports:=[] }
theorem zzv{p:Pg}{l:List Int}(hl:InT p l)(h9:l.length<=9):zta p l=some (zzu p l):=by
 refine zwH (n:=l.length) (fun d (s:List Ty) y=>zs9 p l d p.Reserve s y) (fun k=>(l.take k).map (tyA p.Treaties)) (fun d k hk=>?_) (fun d=>?_) (l.length+1) 0 (by omega) (by omega)
 ·have hg:=List.getElem?_eq_getElem hk;have hv:=hl _ (List.getElem_mem hk)
  show zs9 p l (d+1) _ _ _=_
  rw[zs9,if_pos (by omega),zrQ hg,obs,zzo hv.1 hv.2,obs,zqs (by rw[List.length_map,List.length_take]; omega),zqs (fI (by omega)),zzs hg,List.map_append]; rfl
 ·show zs9 p l (d+1) _ _ _=_
  rw[zs9,if_neg (Int.lt_irrefl _),List.take_length]; rfl
theorem zke.inT{p:Pg}{l:List Int}(h:zke p l):InT p l:=fun v hv=>(h.2 v hv).1
theorem zke.ty{p:Pg}(h:VP p){l:List Int}(hs:zke p l){v:Int}(hv:v∈l):(tyA p.Treaties v).Of = -1:=by
 obtain⟨h1,h2⟩:=hs.2 v hv;have hg:=zzn h1.1 h1.2;rw[zyK hg,decide_eq_true_eq] at h2;have:=h.of' _ _ hg
 omega
theorem zzw{p:Pg}(h:VP p){l:List Int}(hs:zke p l):VP (zzu p l):=by
 have h5:=h.t5;have hl:=hs.len;refine { ls:=h.ls,res:=h.res,ts:=fun t ht=>?_,of':=fun i t ht=>?_,rs:=fun r hr=>(by cases hr),l4:=h.l4,t5:=?_,r5:=Nat.zero_le _,many:=h.many }
 ·obtain⟨v,hv,rfl⟩:=List.mem_map.1 ht;have:=hs.inT v hv;exact h.ts _ (List.mem_of_getElem? (zzn this.1 this.2))
 ·obtain⟨v,hv,rfl⟩:=List.mem_map.1 (List.mem_of_getElem? ht);rw[hs.ty h hv]; omega
 ·show(l.map (tyA p.Treaties)).length<=5
  rw[List.length_map]; omega
theorem zzx{b k:Nat}:∀e,∃T,zwo b (k+e)=zwo b k++T
 | 0=>⟨[],(List.append_nil _).symm⟩
 | e+1=>by
  obtain⟨T,hT⟩:=zzx (b:=b) (k:=k) e;refine⟨T++(if b.testBit (k+e) then [((k+e:Nat):Int)] else []),?_⟩
  show zwo b (k+e)++_=_
  rw[hT,List.append_assoc]; rfl
theorem zzy{b n:Nat}(hn:n<=16)(hb:b < 2 ^ n):zwp b=zwo b n:=by
 unfold zwp;obtain⟨e,he⟩:∃e,16=n+e:=⟨16 - n,by omega⟩;rw[he];exact zws (fun q hq=>Nat.testBit_lt_two_pow (Nat.lt_of_lt_of_le hb (Nat.pow_le_pow_right (by omega) hq))) e
theorem zzz{b k n j:Nat}(hk:k<=n)(hj:j < (zwo b k).length):(zwo b n)[j]? = (zwo b k)[j]?:=by
 obtain⟨T,hT⟩:=zzx (b:=b) (k:=k) (n - k);rw[show k+(n - k)=n by omega] at hT;rw[hT,List.getElem?_append_left hj]
theorem zzA{ts:List Ty}{b n:Nat}(hn:n=ts.length)(hof:∀k t,ts[k]? = some t->b.testBit k=true->t.Of = -1){P P':Nat->Int}(hP:∀(j:Nat) (v:Int),(zwo b n)[j]? = some v->P' j=P v.toNat){x:Int}:∀k,k<=n ->
  (dN ((zwo b n).map (tyA ts)) P' x (zwo b k).length).soc=(a1 ts (fun k=>b.testBit k) P x k).2/\∀(j:Nat) (v:Int),j < (zwo b k).length->(zwo b n)[j]? = some v->(dN ((zwo b n).map (tyA ts)) P' x (zwo b k).length).pays j=(a1 ts (fun k=>b.testBit k) P x k).1 v.toNat
 | 0,_=>⟨rfl,fun j v h=>by cases h⟩
 | k+1,hk=>by
  obtain⟨i1,i2⟩:=zzA hn hof hP (x:=x) k (by omega);have hg:=List.getElem?_eq_getElem (show k < ts.length by omega);rw[zyE hg];have ht:=hof k _ hg;generalize ts[k]'(by omega)=t at hg ht
  cases hb:b.testBit k with
  | true=>
   have ho:=ht hb
   have e:zwo b (k+1)=zwo b k++[(k:Int)]:=by show zwo b k++(if b.testBit k then _ else _)=_; rw[hb]; rfl
   have el:(zwo b (k+1)).length=(zwo b k).length+1:=by rw[e,List.length_append]; rfl
   have hm:(zwo b n)[(zwo b k).length]? = some (k:Int):=by
    rw[zzz (k:=k+1) hk (by omega),e,List.getElem?_append_right (Nat.le_refl _),Nat.sub_self]; rfl
   have hmt:((zwo b n).map (tyA ts))[(zwo b k).length]? = some t:=by
    rw[List.getElem?_map,hm];exact congrArg some (zzm (by rw[Int.toNat_natCast]; exact hg))
   rw[el,zxr hmt,if_pos ⟨by omega,rfl⟩];unfold zxq;rw[if_pos ho,i1,hP _ _ hm,Int.toNat_natCast];refine⟨rfl,fun j v hj hv=>?_⟩
   show upF _ (zwo b k).length _ j=upF (a1 ts (fun k=>b.testBit k) P x k).1 k _ v.toNat
   by_cases hjm:j=(zwo b k).length
   ·subst hjm;rw[hm] at hv
    cases hv
    rw[zwM,Int.toNat_natCast,zwM]
   ·rw[zwN _ _ hjm,i2 j v (by omega) hv];have hv2:=hv;rw[zzz (k:=k) (by omega) (by omega)] at hv2;have:=zwq.1 (List.mem_of_getElem? hv2);rw[zwN _ _ (by omega)]
  | false=>
   have e:zwo b (k+1)=zwo b k:=by show zwo b k++(if b.testBit k then _ else _)=_; rw[hb]; exact List.append_nil _
   rw[e,if_neg fun h=>by cases h.2];exact⟨i1,i2⟩
theorem zzB{ts:List Ty}{P now:Nat->Int}{j:Nat}(hj:ofB ts j=true):∀k,k<=ts.length->(a2 ts P now k).1 j=now j
 | 0,_=>rfl
 | k+1,hk=>by
  have hg:=List.getElem?_eq_getElem (show k < ts.length by omega);have hfk:=zyK hg;have ih:=zzB (P:=P) (now:=now) hj k (by omega);rw[zyF hg];generalize ts[k]'(by omega)=t at hg hfk
  by_cases ho:0<=t.Of
  ·rw[if_pos ho]
   show upF (a2 ts P now k).1 k _ j=_
   rw[zwN _ _ fun e=>by subst e; rw[hfk,decide_eq_true_eq] at hj; omega,ih]
  ·rw[if_neg ho,ih]
theorem zzC{ts:List Ty}{b:Nat}(hof:∀k t,ts[k]? = some t->b.testBit k=true->t.Of = -1):∀(L:List Int) (s:(Nat->Int) × Int) (o:DS),(∀(j:Nat) (v:Int),(zwo b ts.length)[j]? = some v->o.pays j=s.1 v.toNat)->o.soc=s.2 ->
  (L.foldl (zxy ((zwo b ts.length).map (tyA ts))) o).soc=(L.foldl (zyI ts fun k=>b.testBit k) s).2
 | [],_,_,_,h2=>h2
 | x::L,s,o,h1,h2=>by
  obtain⟨c1,c2⟩:=zzA rfl hof h1 (x:=x) ts.length (Nat.le_refl _);refine zzC hof L (zyI ts (fun k=>b.testBit k) s x) (zxy ((zwo b ts.length).map (tyA ts)) o x) (fun j v hv=>?_) ?_
  ·show o.pays j+(dN ((zwo b ts.length).map (tyA ts)) o.pays x ((zwo b ts.length).map (tyA ts)).length).pays j=s.1 v.toNat+(a2 ts s.1 (a1 ts (fun k=>b.testBit k) s.1 x ts.length).1 ts.length).1 v.toNat
   have hjl:=(List.getElem?_eq_some_iff.1 hv).1;have hmem:=zwq.1 (List.mem_of_getElem? hv);have hg:=List.getElem?_eq_getElem (show v.toNat < ts.length by omega);rw[List.length_map,h1 j v hv,c2 j v hjl hv,zzB (by rw[zyK hg,hof _ _ hg hmem.2.2]; rfl) ts.length (Nat.le_refl _)]
  ·show o.soc+(dN ((zwo b ts.length).map (tyA ts)) o.pays x ((zwo b ts.length).map (tyA ts)).length).soc=s.2+(a1 ts (fun k=>b.testBit k) s.1 x ts.length).2
   rw[List.length_map,c1,h2]
theorem zzD{ts:List Ty}{b:Nat}(hof:∀k t,ts[k]? = some t->b.testBit k=true->t.Of = -1)(L:List Int):(zxz ((zwo b ts.length).map (tyA ts)) L).soc=(zyJ ts (fun k=>b.testBit k) L).2:=
 zzC hof L (fun _=>0,0) zxx (fun _ _ _=>rfl) rfl
theorem zzE{ts:List Ty}{th th':Nat->Bool}{P:Nat->Int}{x:Int}(h:∀j,j < ts.length->th j=th' j):∀k,k<=ts.length->a1 ts th P x k=a1 ts th' P x k
 | 0,_=>rfl
 | k+1,hk=>by
  have hg:=List.getElem?_eq_getElem (show k < ts.length by omega);rw[zyE hg,zyE hg,zzE h k (by omega),h k (by omega)]
theorem zzF{ts:List Ty}{th th':Nat->Bool}(h:∀j,j < ts.length->th j=th' j)(L:List Int):zyJ ts th L=zyJ ts th' L:=by
 have e:zyI ts th=zyI ts th':=by
  funext s x
  unfold zyI;rw[zzE h ts.length (Nat.le_refl _)]
 unfold zyJ;rw[e]
theorem RI.mono{ts:List Ty}{B B':Int}{s:(Nat->Int) × Int}(h:RI ts B s)(hB:B<=B'):RI ts B' s:=⟨by have:=h.net; omega,fun j=>by have:=h.pays j; omega,h.cap⟩
theorem zzG{ts:List Ty}{th:Nat->Bool}(hts:zxt ts):∀(L:List Int) (s:(Nat->Int) × Int) (B:Int),(∀x∈L,0<=x/\x<=1000)->RI ts B s->RI ts (B+1000 * L.length) (L.foldl (zyI ts th) s)
 | [],s,B,_,h=>h.mono (by show B<=B+1000 * ((0:Nat):Int); omega)
 | x::L,s,B,hL,h=>by
  have hx:=hL x (List.mem_cons_self ..);have h1:=(h.step (th:=th) hts (x:=x) (by omega)).mono (B':=B+1000) (by omega);refine(zzG hts L _ _ (fun x hx=>hL x (List.mem_cons_of_mem _ hx)) h1).mono ?_;rw[List.length_cons]; omega
theorem zzH{p:Pg}(h:VP p){th:Nat->Bool}{L:List Int}(hL:inL p.Losses L):0<=(zyJ p.Treaties th L).2/\(zyJ p.Treaties th L).2<=4000:=by
 have h4:=h.l4;have hl:=zxM hL;have:=(zzG (th:=th) h.tsOk L (fun _=>0,0) 0 (zxP hL h.ls) ⟨⟨Int.le_refl _,Int.le_refl _⟩,fun _=>⟨Int.le_refl _,Int.le_refl _⟩,zxA h.tsOk⟩).net;unfold zyJ
 omega
def zzI(p:Pg):List (List Int):=(List.range (zwV p.Losses).toNat).map fun n:Nat=>zyQ p.Losses (n:Int)
theorem zzJ{p:Pg}(h:VP p){L:List Int}:L∈zzI p↔inL p.Losses L:=by
 unfold zzI;rw[List.mem_map]
 constructor
 ·rintro⟨n,_,rfl⟩; exact h.nthIn (by omega)
 ·intro hL;obtain⟨n,n0,n1,rfl⟩:=zyS hL;exact⟨n.toNat,List.mem_range.2 (by omega),by rw[show((n.toNat:Nat):Int)=n by omega]⟩
def zzK(p:Pg)(th:Nat->Bool):Rg:=wdL (fun L=>(zyJ p.Treaties th L).2) (zzI p)
theorem zzL{p:Pg}{th th':Nat->Bool}(h:∀j,j < p.Treaties.length->th j=th' j):zzK p th=zzK p th':=by
 unfold zzK
 have:(fun L=>(zyJ p.Treaties th L).2)=fun L=>(zyJ p.Treaties th' L).2:=funext fun L=>by rw[zzF h]
 rw[this]
theorem zzM{p:Pg}(h:VP p)(th:Nat->Bool):IsB (inL p.Losses) (fun L=>(zyJ p.Treaties th L).2) (zzK p th):=by
 obtain⟨L,hL⟩:=zxX h;refine(zy0 (fun e=>?_) fun L hL=>?_).congr (fun L=>zzJ h) fun _ _=>rfl
 ·have:=(zzJ h).2 hL
  rw[e] at this; cases this
 ·have:=zzH h (th:=th) ((zzJ h).1 hL); omega
theorem zke.bits{p:Pg}(h:VP p){b:Nat}(_hb:b < 2 ^ p.Treaties.length)(hs:zke p (zwp b)):∀k t,p.Treaties[k]? = some t->b.testBit k=true->t.Of = -1:=fun k t hk hbk=>by
 have hkl:=(List.getElem?_eq_some_iff.1 hk).1;have h5:=h.t5
 have hm:((k:Nat):Int)∈zwp b:=by unfold zwp; exact zwq.2 ⟨by omega,by omega,hbk⟩
 have:=hs.ty h hm
 rwa [zzm (t:=t) (by rw[Int.toNat_natCast]; exact hk)] at this
theorem zzN{p:Pg}(h:VP p){l:List Int}(hs:zke p l):ztF p l=some (zzK p (inD l)):=by
 have h5:=h.t5;obtain⟨b,hb,hlb⟩:=zwG (n:=p.Treaties.length) (by omega) hs.inc;have hv:=zzw h hs;have hlen:=hs.len;have hof:=zke.bits h hb (by rw[hlb]; exact hs)
 have hth:∀j,j < p.Treaties.length->inD l j=b.testBit j:=fun j hj=>by
  rw[<- hlb]; exact zwF (n:=p.Treaties.length) (by omega) hj
 have hlF:l=zwo b p.Treaties.length:=by rw[<- hlb]; exact zzy (by omega) hb
 obtain⟨L0,hL0⟩:=zxX h;have hcan:zyh (zzu p l) (zzu p l).Reports:=⟨L0,hL0,fun r hr=>by cases hr⟩;obtain⟨r,a1,a2⟩:=zyr hv (number:=fun a=>ztd a) (g:=fun o=>o.society) (fun L _=>rfl) hcan
 have hnet:∀L,(zxz (l.map (tyA p.Treaties)) L).soc=(zyJ p.Treaties (fun k=>b.testBit k) L).2:=fun L=>by
  rw[hlF]; exact zzD hof L
 have e:r=zzK p (inD l):=by
  rw[zzL hth];have q:IsB (inL p.Losses) (fun L=>(zyJ p.Treaties (fun k=>b.testBit k) L).2) r:=a2.congr (fun L=>⟨fun q=>q.1,fun q=>⟨q,fun r hr=>by cases hr⟩⟩) fun L _=>hnet L;exact q.uniq (zzM h fun k=>b.testBit k)
 unfold ztF;rw[zzv hs.inT (by omega),obs,zx7 hv,obs];have a1':zty ({ p:=(zx1 (zzu p l) (zxT (zzu p l))).p,kinds:=(zx1 (zzu p l) (zxT (zzu p l))).kinds,shared:=(),played:=(zx1 (zzu p l) (zxT (zzu p l))).played }:Wk) (fun a=>ztd a)=some r:=a1;rw[a1',obs,e]
theorem zzO{p:Pg}(h:VP p){l:List Int}(hs:zke p l):ztG p l=some (decide ((zzK p (inD l)).Hi<=p.Reserve)):=by
 unfold ztG;rw[zzN h hs,obs]
theorem zzP{p:Pg}(h:VP p){l:List Int}(hl:zrZ l)(hs:zke p l):ztH p l=some (zzK p (inD l),0):=by
 unfold ztH;rw[zyt h,obs,if_pos rfl,(zzl h hl).some_of hs,obs,if_pos rfl,zzN h hs,obs]
theorem zzQ{p:Pg}(h:VP p){l:List Int}(hl:zrZ l)(hs:¬ zke p l):ztH p l=some ({ Lo:=0,Hi:=0 },2):=by
 unfold ztH;rw[zyt h,obs,if_pos rfl,(zzl h hl).some_not hs,obs,if_neg (by decide)]
def zzR(p:Pg)(l:List Int)(m:Int):Prop:=zke p l/\zzp p.Treaties l<=m/\(zzK p (inD l)).Hi<=p.Reserve
theorem zzS{p:Pg}(h:VP p){l:List Int}(hl:zrZ l){m:Int}:Ev (ztM p l m) (zzR p l m):=by
 have h5:=h.t5;unfold ztM;rw[zyt h,obs,if_pos rfl];refine((zzl h hl).and fun hs=>(?_:Ev _ (zzp p.Treaties l<=m/\(zzK p (inD l)).Hi<=p.Reserve)));have:=hs.len;rw[zzt h hs.inT (by omega),obs];refine Ev.ite fun _=>?_;rw[zzO h hs,obs];exact Ev.dec Iff.rfl
theorem zzT{l:List Int}(h:l.length<=100000):ztq l=some l:=by
 unfold ztq;rw[zqs (by simp only[List.length_nil]; omega)]; rfl
def zzU(p:Pg)(D:List Int):Prop:=zke p D/\(zzK p (inD D)).Hi<=p.Reserve
structure zzV (p:Pg) (M:List Int):Prop where
 good:zzU p M
 min:∀D,zzU p D->zzp p.Treaties M < zzp p.Treaties D\/(zzp p.Treaties M=zzp p.Treaties D/\(D=M\/shB M D=true))
theorem zzV.uniq{p:Pg}{M M':List Int}(h:zzV p M)(h':zzV p M'):M=M':=by
 rcases h.min M' h'.good with h1 | ⟨h1,h1'⟩ <;> rcases h'.min M h.good with h2 | ⟨h2,h2'⟩
 ·omega
 ·omega
 ·omega
 ·rcases h1' with h3 | h3
  ·exact h3.symm
  ·rcases h2' with h4 | h4
   ·exact h4
   ·rw[zwv h3] at h4; cases h4
open Classical in
def zzW(p:Pg)(s:List Int × Bool)(D:List Int):List Int × Bool:=if zzU p D/\(s.2=true->zzp p.Treaties D < zzp p.Treaties s.1) then (D,true) else s
theorem zzX{p:Pg}{s:List Int × Bool}(h:s.2=true->zke p s.1)(D:List Int):(zzW p s D).2=true->zke p (zzW p s D).1:=by
 unfold zzW
 split
 ·rename_i hc; exact fun _=>hc.1.1
 ·exact h
theorem zzY{p:Pg}(h:VP p){x:Int}(hx:0<=x/\x<=1000){K:List Int->Bool->Int->Option (List Int × Bool)}:∀(q:List (List Int)) (s:List Int × Bool),(∀D∈q,Inc p.Treaties.length 0 D)->(s.2=true->zke p s.1) ->
  ztI p x K q s.1 s.2=K (q.foldl (zzW p) s).1 (q.foldl (zzW p) s).2 (x+1)/\((q.foldl (zzW p) s).2=true->zke p (q.foldl (zzW p) s).1)
 | [],s,_,hs=>⟨by rw[ztI,zqs (fI (by omega))]; rfl,hs⟩
 | D::q,s,hq,hs=>by
  have h5:=h.t5;have hD:=zwm (hq D (List.mem_cons_self ..));have ih:=zzY h hx (K:=K) q (zzW p s D) (fun D hD=>hq D (List.mem_cons_of_mem _ hD)) (zzX hs D);refine⟨?_,ih.2⟩;refine Eq.trans ?_ ih.1;rw[ztI]
  have hD5:D.length<=5:=by omega
  by_cases hset:zke p D
  ·rw[(zzl h (zr0 hD5 (by omega))).some_of hset,obs,if_pos rfl];have hg:zzU p D↔(zzK p (inD D)).Hi<=p.Reserve:=⟨fun q=>q.2,fun q=>⟨hset,q⟩⟩;obtain⟨M,b⟩:=s
   cases b with
   | true=>
    have hM:=hs rfl;have hMl:M.length<=p.Treaties.length:=hM.len
    show(if true=true then _ else _)=_
    rw[if_pos rfl,zzt h hset.inT (by omega),obs]
    show(zs8 p M).bind _=_
    rw[zzt h hM.inT (by show M.length<=9; omega),obs]
    by_cases hp:zzp p.Treaties M<=zzp p.Treaties D
    ·rw[if_pos hp]
     have e:zzW p (M,true) D=(M,true):=if_neg fun q=>by have:zzp p.Treaties D < zzp p.Treaties M:=q.2 rfl; omega
     rw[e]
    ·rw[if_neg hp,zzO h hset,obs]
     by_cases hk:(zzK p (inD D)).Hi<=p.Reserve
     ·have e:zzW p (M,true) D=(D,true):=if_pos ⟨hg.2 hk,fun _=>by show zzp p.Treaties D < zzp p.Treaties M; omega⟩;rw[decide_eq_true hk,if_pos rfl,zzT (by omega),obs,e]
     ·have e:zzW p (M,true) D=(M,true):=if_neg fun q=>hk (hg.1 q.1);rw[decide_eq_false hk,if_neg (by decide),e]
   | false=>
    show(if false=true then _ else _)=_
    rw[if_neg (by decide),zzO h hset,obs]
    by_cases hk:(zzK p (inD D)).Hi<=p.Reserve
    ·have e:zzW p (M,false) D=(D,true):=if_pos ⟨hg.2 hk,fun q=>(by cases q)⟩;rw[decide_eq_true hk,if_pos rfl,zzT (by omega),obs,e]
    ·have e:zzW p (M,false) D=(M,false):=if_neg fun q=>hk (hg.1 q.1);rw[decide_eq_false hk,if_neg (by decide),e]
  ·rw[(zzl h (zr0 hD5 (by omega))).some_not hset,obs,if_neg (by decide)];have e:zzW p s D=s:=if_neg fun q=>hset q.1.1;rw[e]
theorem zzZ{p:Pg}(h:VP p):∀(d e k:Nat) (s:List Int × Bool),k+e=p.Treaties.length+1->e < d->(s.2=true->zke p s.1)->ztJ p d s.1 s.2 (k:Int)=some ((zrv (fun s=>zrw p.Treaties.length s [] 0) e k).foldl (zzW p) s)
 | 0,_,_,_,_,hd,_=>by omega
 | d+1,0,k,s,hk,hd,hs=>by
  rw[ztJ,if_neg (by omega)]; rfl
 | d+1,e+1,k,s,hk,hd,hs=>by
  have h5:=h.t5
  have hinc:∀D∈zrw p.Treaties.length k [] 0,Inc p.Treaties.length 0 D:=fun D hD=>by
   obtain⟨T,h1,_,h3⟩:=zwl.1 hD;rw[List.nil_append] at h1;rw[h1]; exact h3
  obtain⟨q1,q2⟩:=zzY h (x:=(k:Int)) (by omega) (K:=ztJ p d) (zrw p.Treaties.length k [] 0) s hinc hs;rw[ztJ,if_pos (by omega)];unfold zrz;rw[zqs (by omega),obs,Int.toNat_natCast,Int.toNat_natCast,q1,show(k:Int)+1=((k+1:Nat):Int) by omega];refine(zzZ h d e (k+1) _ (by omega) (by omega) q2).trans ?_
  show _=some ((zrw p.Treaties.length k [] 0++zrv (fun s=>zrw p.Treaties.length s [] 0) e (k+1)).foldl (zzW p) s)
  rw[List.foldl_append]
theorem zz0{p:Pg}(h:VP p):ztK p=some ((zoj p.Treaties.length).foldl (zzW p) ([],false)):=by
 have h5:=h.t5;unfold ztK;rw[zqs (fI (by omega))]
 exact zzZ h _ (p.Treaties.length+1) 0 ([],false) (by omega) (by omega) fun q=>by cases q
structure zz1 (p:Pg) (A:List (List Int)) (s:List Int × Bool):Prop where
 yes:s.2=true->s.1∈A/\zzU p s.1/\∀D∈A,zzU p D->zzp p.Treaties s.1 < zzp p.Treaties D\/(zzp p.Treaties s.1=zzp p.Treaties D/\(D=s.1\/shB s.1 D=true))
 no:s.2=false->s.1=[]/\∀D∈A,¬ zzU p D
theorem zz2{p:Pg}:∀(q A:List (List Int)) (s:List Int × Bool),(A++q).Pairwise (fun a b=>shB a b=true)->zz1 p A s->zz1 p (A++q) (q.foldl (zzW p) s)
 | [],A,s,_,h=>by rw[List.append_nil]; exact h
 | D::q,A,s,hp,h=>by
  have e:A++D::q=(A++[D])++q:=by rw[List.append_assoc]; rfl
  rw[e] at hp ⊢;refine zz2 q (A++[D]) (zzW p s D) hp ?_;have hAD:∀a∈A,shB a D=true:=fun a ha=>(List.pairwise_append.1 (List.pairwise_append.1 hp).1).2.2 a ha D (List.mem_singleton.2 rfl)
  have hmem:∀D',D'∈A++[D]->D'∈A\/D'=D:=fun D' hD'=>by
   rcases List.mem_append.1 hD' with q | q
   ·exact .inl q
   ·exact .inr (List.mem_singleton.1 q)
  obtain⟨M,b⟩:=s
  by_cases hc:zzU p D/\(b=true->zzp p.Treaties D < zzp p.Treaties M)
  ·have e2:zzW p (M,b) D=(D,true):=if_pos hc;rw[e2];refine⟨fun _=>⟨List.mem_append_right _ (List.mem_singleton.2 rfl),hc.1,fun D' hD' hg=>?_⟩,fun q=>(by cases q)⟩
   rcases hmem D' hD' with hq | rfl
   ·cases b with
    | true=>
     have h1:zzp p.Treaties D < zzp p.Treaties M:=hc.2 rfl
     rcases (h.yes rfl).2.2 D' hq hg with h2 | ⟨h2,_⟩
     ·have h2:zzp p.Treaties M < zzp p.Treaties D':=h2;exact .inl (by show zzp p.Treaties D < _; omega)
     ·have h2:zzp p.Treaties M=zzp p.Treaties D':=h2;exact .inl (by show zzp p.Treaties D < _; omega)
    | false=>exact absurd hg ((h.no rfl).2 D' hq)
   ·exact .inr ⟨rfl,.inl rfl⟩
  ·have e2:zzW p (M,b) D=(M,b):=if_neg hc;rw[e2]
   cases b with
   | true=>
    refine⟨fun _=>?_,fun q=>(by cases q)⟩;obtain⟨y1,y2,y3⟩:=h.yes rfl;refine⟨List.mem_append_left _ y1,y2,fun D' hD' hg=>?_⟩
    rcases hmem D' hD' with hq | rfl
    ·exact y3 D' hq hg
    ·have h1:¬ zzp p.Treaties D' < zzp p.Treaties M:=fun q=>hc ⟨hg,fun _=>q⟩
     rcases Int.lt_or_eq_of_le (show zzp p.Treaties M<=zzp p.Treaties D' by omega) with h2 | h2
     ·exact .inl h2
     ·exact .inr ⟨h2,.inr (hAD M y1)⟩
   | false=>
    refine⟨fun q=>(by cases q),fun _=>⟨(h.no rfl).1,fun D' hD' hg=>?_⟩⟩
    rcases hmem D' hD' with hq | rfl
    ·exact(h.no rfl).2 D' hq hg
    ·exact hc ⟨hg,fun q=>(by cases q)⟩
theorem zz3{p:Pg}(h:VP p):(∃M,ztK p=some (M,true)/\zzV p M)\/(ztK p=some ([],false)/\∀D,¬ zzU p D):=by
 have hi:=zz2 (p:=p) (zoj p.Treaties.length) [] ([],false) (zwz _) ⟨fun q=>(by cases q),fun _=>⟨rfl,fun D hD=>by cases hD⟩⟩;rw[List.nil_append] at hi;rw[zz0 h];generalize (zoj p.Treaties.length).foldl (zzW p) ([],false)=s at hi;have hall:∀D,zzU p D->D∈zoj p.Treaties.length:=fun D hD=>zwn.2 hD.1.inc;obtain⟨M,b⟩:=s
 cases b with
 | true=>
  obtain⟨_,y2,y3⟩:=hi.yes rfl;exact .inl ⟨M,rfl,y2,fun D hD=>y3 D (hall D hD) hD⟩
 | false=>
  obtain⟨n1,n2⟩:=hi.no rfl;have n1:M=[]:=n1;subst n1;exact .inr ⟨rfl,fun D hD=>n2 D (hall D hD) hD⟩
theorem zz4{p:Pg}(h:VP p):(∃M,ztL p=some (M,zzp p.Treaties M,0)/\zzV p M)\/(ztL p=some ([],0,10)/\∀D,¬ zzU p D):=by
 have h5:=h.t5;unfold ztL;rw[zyt h,obs,if_pos rfl]
 rcases zz3 h with ⟨M,q1,q2⟩ | ⟨q1,q2⟩
 ·have hl:=q2.good.1.len;refine .inl ⟨M,?_,q2⟩;rw[q1,obs]
  show(zs8 p M).bind _=_
  rw[zzt h q2.good.1.inT (by omega),obs]
 ·refine .inr ⟨?_,q2⟩;rw[q1,obs]; rfl
end
end Go.Proofs.Ytkcmdghjgoaggaa

namespace Go.Proofs.Ytkcmdghjgoaggaa
open _root_.Go.Proofs.Try
open Go.Abs
set_option maxRecDepth 100000
noncomputable section
theorem zz5{l:List Int}(hl:l.length<=1000):ztU l l=some true:=by
 unfold ztU;rw[if_pos rfl]
 have key:=zrY (l:=l) (F:=ztT l l) (ok:=fun _=>True) (bad:=some false) (fin:=some true) (fun d k a ha=>by
  have hk:=(List.getElem?_eq_some_iff.1 ha).1;refine⟨fun _=>?_,fun h=>absurd trivial h⟩
  rw[ztT,if_pos (by omega),zrQ ha,obs,obs,if_pos rfl,zqs (fI (by omega))]) (fun d=>by rw[ztT,if_neg (Int.lt_irrefl _)]) (d:=l.length+1) (by omega)
 exact key.1 fun _ _=>trivial
def zz6(n:Int)(rs:List Rpt):Pg:={ Losses:=[{ Lo:=100,Hi:=120 },{ Lo:=300,Hi:=300 }],Reserve:=n,Treaties:=[{ Kind:=0,Part:=25,Above:=0,Most:=0,Times:=0,Price:=50,Of:=-1 },{ Kind:=1,Part:=0,Above:=50,Most:=100,Times:=0,Price:=30,Of:=-1 },{ Kind:=1,Part:=0,Above:=20,Most:=40,Times:=1,Price:=5,Of:=0 }],Reports:=rs }
def zz7:List Rpt:=[{ Treaty:=0,Paid:={ Lo:=103,Hi:=110 } },{ Treaty:=2,Paid:={ Lo:=45,Hi:=46 } }]
theorem zz8(rs:List Rpt):ztW rs=some (zz6 200 rs):=rfl
theorem zz9:ztX=some zz7:=rfl
theorem zAa(n:Int):ztY n=some (zz6 n []):=rfl
theorem zAb{a b hi:Int}(h1:0<=a)(h2:a<=b)(h3:b<=hi):RgV { Lo:=a,Hi:=b } hi:=⟨h1,h2,h3⟩
theorem zAc{n:Int}{rs:List Rpt}(hn:0<=n/\n<=10000)(hr:rs.length<=5)(hrs:∀r∈rs,(0<=r.Treaty/\r.Treaty<=2)/\RgV r.Paid 10000):VP (zz6 n rs):=by
 refine { ls:=fun r hr=>?_,res:=hn,ts:=fun t ht=>?_,of':=fun i t ht=>?_,rs:=fun r hr=>?_,l4:=by show 2<=4; omega,t5:=by show 3<=5; omega,r5:=hr,many:=by show zwV [{ Lo:=100,Hi:=120 },{ Lo:=300,Hi:=300 }]<=1500; decide }
 ·rcases List.mem_cons.1 hr with rfl | hr
  ·exact zAb (by omega) (by omega) (by omega)
  rcases List.mem_cons.1 hr with rfl | hr
  ·exact zAb (by omega) (by omega) (by omega)
  ·cases hr
 ·rcases List.mem_cons.1 ht with rfl | ht
  ·exact⟨by unfold zgo; decide,by decide,by decide⟩
  rcases List.mem_cons.1 ht with rfl | ht
  ·exact⟨by unfold zgo; decide,by decide,by decide⟩
  rcases List.mem_cons.1 ht with rfl | ht
  ·exact⟨by unfold zgo; decide,by decide,by decide⟩
  ·cases ht
 ·match i,ht with
  | 0,ht=>cases ht; exact⟨by decide,by decide⟩
  | 1,ht=>cases ht; exact⟨by decide,by decide⟩
  | 2,ht=>cases ht; exact⟨by decide,by decide⟩
  | k+3,ht=>cases ht
 ·exact⟨(hrs r hr).1,(hrs r hr).2⟩
theorem vp3(n:Int)(hn:0<=n/\n<=10000):VP (zz6 n []):=zAc hn (by show 0<=5; omega) fun r hr=>by cases hr
theorem zAd:VP (zz6 200 zz7):=zAc (by omega) (by show 2<=5; omega) fun r hr=>by
 rcases List.mem_cons.1 hr with rfl | hr
 ·exact⟨⟨by decide,by decide⟩,zAb (by omega) (by omega) (by omega)⟩
 rcases List.mem_cons.1 hr with rfl | hr
 ·exact⟨⟨by decide,by decide⟩,zAb (by omega) (by omega) (by omega)⟩
 ·cases hr
theorem zAe{p:Pg}(h:VP p){D:List Int}(hD:Inc p.Treaties.length 0 D):∃b,b < 2 ^ p.Treaties.length/\zwp b=D:=zwG (by have:=h.t5; omega) hD
theorem zAf:zke (zz6 200 []) [1]:=⟨List.pairwise_singleton _ _,fun v hv=>by
 have:=List.mem_singleton.1 hv; subst this
 exact⟨⟨by decide,by decide⟩,by decide +kernel⟩⟩
theorem zAg:zzV (zz6 300 []) [0,1]:=by
 have hs:zke (zz6 300 []) [0,1]:=⟨by simp,fun v hv=>by
  rcases List.mem_cons.1 hv with rfl | hv
  ·exact⟨⟨by decide,by decide⟩,by decide +kernel⟩
  ·have:=List.mem_singleton.1 hv; subst this
   exact⟨⟨by decide,by decide⟩,by decide +kernel⟩⟩
 refine⟨⟨hs,by decide +kernel⟩,fun D hD=>?_⟩;obtain⟨b,hb,rfl⟩:=zAe (vp3 300 (by omega)) hD.1.inc;have hb:b < 8:=hb
 have:b=0\/b=1\/b=2\/b=3\/b=4\/b=5\/b=6\/b=7:=by omega
 rcases this with rfl | rfl | rfl | rfl | rfl | rfl | rfl | rfl
 ·exact absurd hD.2 (by decide +kernel)
 ·exact absurd hD.2 (by decide +kernel)
 ·exact absurd hD.2 (by decide +kernel)
 ·have e:zwp 3=[0,1]:=by decide +kernel
  rw[e]; exact .inr ⟨rfl,.inl rfl⟩
 ·exact absurd (hD.1.2 2 (by decide +kernel)).2 (by decide +kernel)
 ·exact absurd (hD.1.2 2 (by decide +kernel)).2 (by decide +kernel)
 ·exact absurd (hD.1.2 2 (by decide +kernel)).2 (by decide +kernel)
 ·exact absurd (hD.1.2 2 (by decide +kernel)).2 (by decide +kernel)
def okT(L:List Int):Bool:=decide (103<=(zxz (zz6 200 zz7).Treaties L).pays 0/\(zxz (zz6 200 zz7).Treaties L).pays 0<=110) && decide (45<=(zxz (zz6 200 zz7).Treaties L).pays 2/\(zxz (zz6 200 zz7).Treaties L).pays 2<=46)
theorem zAh:(zzI (zz6 200 zz7)).all (fun L=>!okT L)=true:=by decide +kernel
theorem zAi:¬ zyh (zz6 200 zz7) zz7:=by
 rintro⟨L,hL,hA⟩
 have h1:=hA _ (List.mem_cons_self ..);have h2:=hA _ (List.mem_cons_of_mem _ (List.mem_cons_self ..));have h3:=List.all_eq_true.1 zAh L ((zzJ zAd).2 hL)
 have h4:okT L=true:=by
  unfold okT;rw[Bool.and_eq_true_iff];exact⟨decide_eq_true h1,decide_eq_true h2⟩
 rw[h4] at h3; cases h3
theorem fp0:FP (zz6 200 zz7) 0:=⟨[112,300],⟨⟨by decide,by decide⟩,⟨by decide,by decide⟩,trivial⟩,fun r hr=>by
 have hr:r∈[({ Treaty:=0,Paid:={ Lo:=103,Hi:=110 } }:Rpt)]:=hr;have:=List.mem_singleton.1 hr; subst this
 exact(by decide +kernel:(103:Int)<=(zxz (zz6 200 zz7).Treaties [112,300]).pays 0/\(zxz (zz6 200 zz7).Treaties [112,300]).pays 0<=110)⟩
theorem zAj:ztQ (zz6 200 zz7)=some (1,0):=by
 rcases zzg zAd with ⟨j,a1,a2,a3,a4⟩ | ⟨a1,a2⟩
 ·have:j=1:=zzh (p:=zz6 200 zz7) a2 a3 (j':=1) zAi fun i hi=>by
   rw[show i=0 by omega]; exact fp0
  subst this; exact a4
 ·exact absurd (a1 1 (by show 1 < 2; omega)) zAi
theorem zAk:ztS (zz6 200 zz7)=some ([0],0):=by
 obtain⟨M,q1,q2⟩:=zze zAd
 have hm:zyO 2 (PL (zz6 200 zz7)) [0]:=by
  refine⟨⟨List.pairwise_singleton _ _,fun v hv=>by have:=List.mem_singleton.1 hv; subst this; exact⟨by decide,by decide⟩⟩,⟨[100,300],⟨⟨by decide,by decide⟩,⟨by decide,by decide⟩,trivial⟩,fun j hj hs=>?_⟩,fun D hD hP=>?_⟩
  ·have hj:j < 2:=hj
   have:j=0\/j=1:=by omega
   rcases this with rfl | rfl
   ·exact absurd hs (by decide +kernel)
   ·refine(zyT (p:=zz6 200 zz7) (j:=1) rfl).2 ?_;exact(by decide +kernel:(45:Int)<=(zxz (zz6 200 zz7).Treaties [100,300]).pays 2/\(zxz (zz6 200 zz7).Treaties [100,300]).pays 2<=46)
  ·obtain⟨b,hb,rfl⟩:=zwG (n:=2) (by omega) hD;have hb:b < 4:=hb
   have:b=0\/b=1\/b=2\/b=3:=by omega
   rcases this with rfl | rfl | rfl | rfl
   ·refine absurd (zyY.2 ((PL.congr fun j hj=>?_).1 hP)) zAi;have hj:j < 2:=hj
    have:j=0\/j=1:=by omega
    rcases this with rfl | rfl <;> decide +kernel
   ·exact .inl (by decide +kernel)
   ·exact .inr (by decide +kernel)
   ·exact .inr (by decide +kernel)
 rw[q2.uniq hm] at q1;exact q1
theorem zAl:zyh (zz6 200 []) (zz6 200 []).Reports:=⟨[100,300],⟨⟨by decide,by decide⟩,⟨by decide,by decide⟩,trivial⟩,fun r hr=>by cases hr⟩
theorem zAm:ztt (zz6 200 []) [100,300]=some ([100,100,45],200,0):=by
 rw[zyw (vp3 200 (by omega)) (L:=[100,300]) ⟨⟨by decide,by decide⟩,⟨by decide,by decide⟩,trivial⟩]
 have e1:lN (zz6 200 []).Treaties.length (zxz (zz6 200 []).Treaties [100,300]).pays=[100,100,45]:=by decide +kernel
 have e2:(zxz (zz6 200 []).Treaties [100,300]).soc=200:=by decide +kernel
 rw[e1,e2]
theorem zAn{r:Rg}{a b:Int}(h1:r.Lo=a)(h2:r.Hi=b):r={ Lo:=a,Hi:=b }:=by cases r; subst h1; subst h2; rfl
theorem zAo:ztD (zz6 200 [])=some (bsN 3 (bdF (zz6 200 []) (trL (zz6 200 []))),0):=by
 have h:=vp3 200 (by omega);obtain⟨bs,q1,q2⟩:=zyB h zAl;rw[q1,q2.uniq (zy3 h zAl).1]; rfl
theorem bd0:bdF (zz6 200 []) (trL (zz6 200 [])) 0={ Pays:={ Lo:=100,Hi:=105 },Keeps:={ Lo:=55,Hi:=55 } }:=by
 have e1:=zAn (r:=(bdF (zz6 200 []) (trL (zz6 200 [])) 0).Pays) (a:=100) (b:=105) (by decide +kernel) (by decide +kernel);have e2:=zAn (r:=(bdF (zz6 200 []) (trL (zz6 200 [])) 0).Keeps) (a:=55) (b:=55) (by decide +kernel) (by decide +kernel);generalize bdF (zz6 200 []) (trL (zz6 200 [])) 0=b at e1 e2
 cases b; simp only at e1 e2; rw[e1,e2]
theorem bd2:bdF (zz6 200 []) (trL (zz6 200 [])) 2={ Pays:={ Lo:=45,Hi:=50 },Keeps:={ Lo:=45,Hi:=50 } }:=by
 have e1:=zAn (r:=(bdF (zz6 200 []) (trL (zz6 200 [])) 2).Pays) (a:=45) (b:=50) (by decide +kernel) (by decide +kernel);have e2:=zAn (r:=(bdF (zz6 200 []) (trL (zz6 200 [])) 2).Keeps) (a:=45) (b:=50) (by decide +kernel) (by decide +kernel);generalize bdF (zz6 200 []) (trL (zz6 200 [])) 2=b at e1 e2
 cases b; simp only at e1 e2; rw[e1,e2]
theorem zAp:ztE (zz6 200 [])=some ({ Lo:=200,Hi:=215 },0):=by
 have h:=vp3 200 (by omega);obtain⟨r,q1,q2⟩:=zyD h zAl;rw[q1,q2.uniq (zy3 h zAl).2,zAn (r:=wdL (fun L=>(zxz (zz6 200 []).Treaties L).soc) (trL (zz6 200 []))) (a:=200) (b:=215) (by decide +kernel) (by decide +kernel)]
theorem zAq:ztH (zz6 200 []) [1]=some ({ Lo:=300,Hi:=320 },0):=by
 rw[zzP (vp3 200 (by omega)) (by unfold zrZ; decide) zAf,zAn (r:=zzK (zz6 200 []) (inD [1])) (a:=300) (b:=320) (by decide +kernel) (by decide +kernel)]
theorem zAr:ztL (zz6 300 [])=some ([0,1],80,0):=by
 rcases zz4 (vp3 300 (by omega)) with ⟨M,q1,q2⟩ | ⟨_,q2⟩
 ·rw[q1,q2.uniq zAg]; rfl
 ·exact absurd zAg.good (q2 _)
theorem zAs:ztM (zz6 300 []) [0,1] 80=some true:=
 (zzS (vp3 300 (by omega)) (by unfold zrZ; decide)).some_of ⟨zAg.good.1,by decide +kernel,zAg.good.2⟩
theorem f64{n:Int}(h:-1000000<=n/\n<=1000000):zl7 .i64 n:=fI (by omega)
theorem zAt:ztZ=some true:=by
 have i0:idx (bsN 3 (bdF (zz6 200 []) (trL (zz6 200 [])))) 0=some { Pays:={ Lo:=100,Hi:=105 },Keeps:={ Lo:=55,Hi:=55 } }:=by
  have:=zrQ (zy2 (n:=3) (f:=bdF (zz6 200 []) (trL (zz6 200 []))) (k:=0) (by omega));rw[bd0] at this; exact this
 have i2:idx (bsN 3 (bdF (zz6 200 []) (trL (zz6 200 [])))) 2=some { Pays:={ Lo:=45,Hi:=50 },Keeps:={ Lo:=45,Hi:=50 } }:=by
  have:=zrQ (zy2 (n:=3) (f:=bdF (zz6 200 []) (trL (zz6 200 []))) (k:=2) (by omega));rw[bd2] at this; exact this
 have hl:((bsN 3 (bdF (zz6 200 []) (trL (zz6 200 [])))).length:Int)=3:=by rw[zy1]; rfl
 have s1:ztU [100,100,45] [100,100,45]=some true:=zz5 (by decide);have s2:ztU [0,1] [0,1]=some true:=zz5 (by decide);have s3:ztU [0] [0]=some true:=zz5 (by decide);have f:∀n:Int,-1000000<=n/\n<=1000000->zl7 .i64 n:=fun n h=>f64 h;unfold ztZ
 simp only[zz8,zz9,zAa,obs,zAm,zAo,zAp,zAq,zAr,zAj,zAk,s1,s2,s3,if_true,hl,i0,i2,ztV]
 rw[zqs (f 100 (by omega)),zqs (f 100 (by omega)),zqs (f 105 (by omega)),zqs (f 105 (by omega)),zqs (f 55 (by omega)),zqs (f 55 (by omega)),zqs (f 55 (by omega)),zqs (f 55 (by omega)),if_pos (by decide),zqs (f 45 (by omega)),zqs (f 45 (by omega)),zqs (f 50 (by omega)),zqs (f 50 (by omega)),zqs (f 45 (by omega)),zqs (f 45 (by omega)),zqs (f 50 (by omega)),zqs (f 50 (by omega)),if_pos (by decide),zqs (f 200 (by omega)),zqs (f 200 (by omega)),zqs (f 215 (by omega)),zqs (f 215 (by omega)),if_pos (by decide),zqs (f 300 (by omega)),zqs (f 300 (by omega)),zqs (f 320 (by omega)),zqs (f 320 (by omega)),if_pos (by decide)]
 simp only[zAs,obs,if_true]
theorem aw:((ztZ).bind fun r=>some r)=some true:=by rw[zAt]; rfl
theorem IsB.sub{S S':List Int->Prop}{g:List Int->Int}{r r':Rg}(h:IsB S g r)(h':IsB S' g r')(hS:∀L,S' L->S L):r.Lo<=r'.Lo/\r'.Hi<=r.Hi:=by
 obtain⟨⟨a,a1,a2⟩,⟨b,b1,b2⟩,_⟩:=h';have q1:=h.2.2 a (hS a a1);have q2:=h.2.2 b (hS b b1)
 omega
theorem zAu:ztt (zz6 200 []) [120,300]=some ([105,100,50],215,0):=by
 rw[zyw (vp3 200 (by omega)) (L:=[120,300]) ⟨⟨by decide,by decide⟩,⟨by decide,by decide⟩,trivial⟩]
 have e1:lN (zz6 200 []).Treaties.length (zxz (zz6 200 []).Treaties [120,300]).pays=[105,100,50]:=by decide +kernel
 have e2:(zxz (zz6 200 []).Treaties [120,300]).soc=215:=by decide +kernel
 rw[e1,e2]
theorem zAv(n:Int):zke (zz6 n []) [0]:=⟨List.pairwise_singleton _ _,fun v hv=>by
 have:=List.mem_singleton.1 hv; subst this
 exact⟨⟨by decide,by show(0:Int)<=((3:Nat):Int) - 1; decide⟩,by show ofB (zz6 0 []).Treaties 0=true; decide +kernel⟩⟩
theorem zAw(n:Int):zke (zz6 n []) [1]:=⟨List.pairwise_singleton _ _,fun v hv=>by
 have:=List.mem_singleton.1 hv; subst this
 exact⟨⟨by decide,by show(1:Int)<=((3:Nat):Int) - 1; decide⟩,by show ofB (zz6 0 []).Treaties 1=true; decide +kernel⟩⟩
theorem zAx(n:Int):∀D,(2:Int)∈D->¬ zke (zz6 n []) D:=fun D hD h=>absurd (h.2 2 hD).2 (by show ¬ ofB (zz6 0 []).Treaties 2=true; decide +kernel)
theorem zAy:ztH (zz6 200 []) [0]=some ({ Lo:=300,Hi:=315 },0):=by
 rw[zzP (vp3 200 (by omega)) (by unfold zrZ; decide) (zAv 200),zAn (r:=zzK (zz6 200 []) (inD [0])) (a:=300) (b:=315) (by decide +kernel) (by decide +kernel)]
theorem zAz:zzV (zz6 320 []) [1]:=by
 refine⟨⟨zAw 320,by decide +kernel⟩,fun D hD=>?_⟩;obtain⟨b,hb,rfl⟩:=zAe (vp3 320 (by omega)) hD.1.inc;have hb:b < 8:=hb
 have:b=0\/b=1\/b=2\/b=3\/b=4\/b=5\/b=6\/b=7:=by omega
 rcases this with rfl | rfl | rfl | rfl | rfl | rfl | rfl | rfl
 ·exact absurd hD.2 (by decide +kernel)
 ·exact .inl (by decide +kernel)
 ·have e:zwp 2=[1]:=by decide +kernel
  rw[e]; exact .inr ⟨rfl,.inl rfl⟩
 ·exact .inl (by decide +kernel)
 ·exact absurd hD.1 (zAx 320 _ (by decide +kernel))
 ·exact absurd hD.1 (zAx 320 _ (by decide +kernel))
 ·exact absurd hD.1 (zAx 320 _ (by decide +kernel))
 ·exact absurd hD.1 (zAx 320 _ (by decide +kernel))
theorem zAA:zzV (zz6 315 []) [0]:=by
 refine⟨⟨zAv 315,by decide +kernel⟩,fun D hD=>?_⟩;obtain⟨b,hb,rfl⟩:=zAe (vp3 315 (by omega)) hD.1.inc;have hb:b < 8:=hb
 have:b=0\/b=1\/b=2\/b=3\/b=4\/b=5\/b=6\/b=7:=by omega
 rcases this with rfl | rfl | rfl | rfl | rfl | rfl | rfl | rfl
 ·exact absurd hD.2 (by decide +kernel)
 ·have e:zwp 1=[0]:=by decide +kernel
  rw[e]; exact .inr ⟨rfl,.inl rfl⟩
 ·exact absurd hD.2 (by decide +kernel)
 ·exact .inl (by decide +kernel)
 ·exact absurd hD.1 (zAx 315 _ (by decide +kernel))
 ·exact absurd hD.1 (zAx 315 _ (by decide +kernel))
 ·exact absurd hD.1 (zAx 315 _ (by decide +kernel))
 ·exact absurd hD.1 (zAx 315 _ (by decide +kernel))
theorem zAB:∀D,¬ zzU (zz6 200 []) D:=fun D hD=>by
 obtain⟨b,hb,rfl⟩:=zAe (vp3 200 (by omega)) hD.1.inc;have hb:b < 8:=hb
 have:b=0\/b=1\/b=2\/b=3\/b=4\/b=5\/b=6\/b=7:=by omega
 rcases this with rfl | rfl | rfl | rfl | rfl | rfl | rfl | rfl
 ·exact absurd hD.2 (by decide +kernel)
 ·exact absurd hD.2 (by decide +kernel)
 ·exact absurd hD.2 (by decide +kernel)
 ·exact absurd hD.2 (by decide +kernel)
 ·exact absurd hD.1 (zAx 200 _ (by decide +kernel))
 ·exact absurd hD.1 (zAx 200 _ (by decide +kernel))
 ·exact absurd hD.1 (zAx 200 _ (by decide +kernel))
 ·exact absurd hD.1 (zAx 200 _ (by decide +kernel))
theorem zAC:ztL (zz6 320 [])=some ([1],30,0):=by
 rcases zz4 (vp3 320 (by omega)) with ⟨M,q1,q2⟩ | ⟨_,q2⟩
 ·rw[q1,q2.uniq zAz]; rfl
 ·exact absurd zAz.good (q2 _)
theorem zAD:ztL (zz6 315 [])=some ([0],50,0):=by
 rcases zz4 (vp3 315 (by omega)) with ⟨M,q1,q2⟩ | ⟨_,q2⟩
 ·rw[q1,q2.uniq zAA]; rfl
 ·exact absurd zAA.good (q2 _)
theorem zAE:ztL (zz6 200 [])=some ([],0,10):=by
 rcases zz4 (vp3 200 (by omega)) with ⟨M,_,q2⟩ | ⟨q1,_⟩
 ·exact absurd q2.good (zAB _)
 ·exact q1
theorem zAF:ztS (zz6 200 [])=some ([],0):=by
 obtain⟨M,q1,q2⟩:=zze (vp3 200 (by omega));have hl:=zwm q2.inc;have hl:M.length<=0:=hl;rw[q1,List.eq_nil_of_length_eq_zero (show M.length=0 by omega)]
theorem zAG:ztM (zz6 315 []) [0] 49=some false:=(zzS (vp3 315 (by omega)) (by unfold zrZ; decide)).some_not fun q=>absurd q.2.1 (by decide +kernel)
theorem zAH:ztM (zz6 314 []) [0] 50=some false:=(zzS (vp3 314 (by omega)) (by unfold zrZ; decide)).some_not fun q=>absurd q.2.2 (by decide +kernel)
theorem zAI:ztM (zz6 315 []) [0,2] 99=some false:=(zzS (vp3 315 (by omega)) (by unfold zrZ; decide)).some_not fun q=>absurd q.1 (zAx 315 _ (by decide))
theorem zAJ:ztt (zz6 200 []) [99,300]=some ([],0,2):=zyx (vp3 200 (by omega)) fun q=>absurd q.1.1 (by decide)
theorem zAK:ztt (zz6 200 []) [100]=some ([],0,2):=zyx (vp3 200 (by omega)) fun q=>by have:=zxM q; revert this; decide
theorem zAL:ztH (zz6 200 []) [2]=some ({ Lo:=0,Hi:=0 },2):=zzQ (vp3 200 (by omega)) (by unfold zrZ; decide) (zAx 200 _ (by decide))
theorem zAM:ztH (zz6 200 []) [1,0]=some ({ Lo:=0,Hi:=0 },2):=zzQ (vp3 200 (by omega)) (by unfold zrZ; decide) fun q=>absurd q.1 (by decide)
theorem zAN:ztD (zz6 200 zz7)=some ([],11):=zyC zAd zAi
theorem zAO:ztQ (zz6 200 [])=some (0,7):=by
 rcases zzg (vp3 200 (by omega)) with ⟨j,a1,_⟩ | ⟨_,a2⟩
 ·have a1:j < 0:=a1
  omega
 ·exact a2
theorem zAP{p:Pg}(h1:p.Losses.length<=9)(h2:p.Treaties.length<=9)(h3:p.Reports.length<=9):zs2 p=some (zwW p):=zxg (zr0 h1 (by omega)) (zr0 h2 (by omega)) (zr0 h3 (by omega))
theorem zAQ{p:Pg}(h1:p.Losses.length<=4)(h2:p.Treaties.length<=5)(h3:p.Reports.length<=5)(h:¬ zwT p):zs2 p=some 1:=by
 rw[zAP (by omega) (by omega) (by omega)];unfold zwW zwU;rw[if_neg (by omega),if_neg h]
theorem zAR{p:Pg}{t:Ty}(ht:t∈p.Treaties)(h:¬ zgo t):¬ zwT p:=fun q=>h (q.ts t ht).1
theorem zAS:zt1 []=some { Losses:=(zz6 200 []).Losses,Reserve:=200,Treaties:=(zz6 200 []).Treaties,Reports:=[] }:=rfl
theorem zAT:zt2 []=some { Losses:=(zz6 200 []).Losses,Reserve:=200,Treaties:=(zz6 200 []).Treaties,Reports:=[] }:=rfl
theorem zAU:zt0=some zz7:=rfl
def zAV(ts:List Ty):Pg:={ Losses:=(zz6 200 []).Losses,Reserve:=200,Treaties:=ts,Reports:=[] }
def q0:Ty:={ Kind:=0,Part:=25,Above:=0,Most:=0,Times:=0,Price:=50,Of:=-1 }
def q1:Ty:={ Kind:=1,Part:=0,Above:=50,Most:=100,Times:=0,Price:=30,Of:=-1 }
def q2:Ty:={ Kind:=1,Part:=0,Above:=20,Most:=40,Times:=1,Price:=5,Of:=0 }
theorem zAW:zs2 (zAV [{ Kind:=2,Part:=25,Above:=0,Most:=0,Times:=0,Price:=50,Of:=-1 },q1,q2])=some 1:=zAQ (by show 2<=4; omega) (by show 3<=5; omega) (by show 0<=5; omega) (zAR (List.mem_cons_self ..) (by unfold zgo; decide))
theorem zAX:zs2 (zAV [{ Kind:=0,Part:=0,Above:=0,Most:=0,Times:=0,Price:=50,Of:=-1 },q1,q2])=some 1:=zAQ (by show 2<=4; omega) (by show 3<=5; omega) (by show 0<=5; omega) (zAR (List.mem_cons_self ..) (by unfold zgo; decide))
theorem zAY:zs2 (zAV [q0,{ Kind:=1,Part:=0,Above:=50,Most:=0,Times:=0,Price:=30,Of:=-1 },q2])=some 1:=zAQ (by show 2<=4; omega) (by show 3<=5; omega) (by show 0<=5; omega) (zAR (List.mem_cons_of_mem _ (List.mem_cons_self ..)) (by unfold zgo; decide))
theorem zAZ:zs2 (zAV [{ Kind:=0,Part:=25,Above:=0,Most:=0,Times:=1,Price:=50,Of:=-1 },q1,q2])=some 1:=zAQ (by show 2<=4; omega) (by show 3<=5; omega) (by show 0<=5; omega) (zAR (List.mem_cons_self ..) (by unfold zgo; decide))
theorem zA0:zs2 (zAV [q0,q1,{ Kind:=1,Part:=0,Above:=20,Most:=40,Times:=1,Price:=5,Of:=2 }])=some 1:=zAQ (by show 2<=4; omega) (by show 3<=5; omega) (by show 0<=5; omega) fun q=>by
 have:=(q.of' 2 _ rfl).2
 revert this; decide
theorem zA1:zs2 { Losses:=[{ Lo:=100,Hi:=120 },{ Lo:=300,Hi:=300 }],Reserve:=200,Treaties:=[q0,q1,q2],Reports:=[{ Treaty:=3,Paid:={ Lo:=103,Hi:=110 } },{ Treaty:=2,Paid:={ Lo:=45,Hi:=46 } }] }=some 1:=zAQ (by show 2<=4; omega) (by show 3<=5; omega) (by show 2<=5; omega) fun q=>by
 have:=(q.rs _ (List.mem_cons_self ..)).1.2
 revert this; decide
theorem zA2:zs2 { Losses:=[{ Lo:=100,Hi:=1001 },{ Lo:=300,Hi:=300 }],Reserve:=200,Treaties:=[q0,q1,q2],Reports:=[] }=some 1:=zAQ (by show 2<=4; omega) (by show 3<=5; omega) (by show 0<=5; omega) fun q=>by
 have:=(q.ls _ (List.mem_cons_self ..)).2.2
 revert this; decide
theorem zA3:zs2 { Losses:=List.replicate 5 { Lo:=0,Hi:=0 },Reserve:=200,Treaties:=[q0,q1,q2],Reports:=[] }=some 3:=by
 rw[zAP (by show 5<=9; omega) (by show 3<=9; omega) (by show 0<=9; omega)];unfold zwW;rw[if_pos (.inl (by show 4 < 5; omega))]
theorem zA4:zs2 { Losses:=[{ Lo:=0,Hi:=99 },{ Lo:=0,Hi:=15 }],Reserve:=200,Treaties:=[q0,q1,q2],Reports:=[] }=some 3:=by
 rw[zAP (by show 2<=9; omega) (by show 3<=9; omega) (by show 0<=9; omega)];have h3:=vp3 200 (by omega)
 have hF:zwT { Losses:=[{ Lo:=0,Hi:=99 },{ Lo:=0,Hi:=15 }],Reserve:=200,Treaties:=[q0,q1,q2],Reports:=[] }:=by
  refine⟨fun r hr=>?_,h3.res,h3.ts,h3.of',fun r hr=>by cases hr⟩
  rcases List.mem_cons.1 hr with rfl | hr
  ·exact zAb (by omega) (by omega) (by omega)
  rcases List.mem_cons.1 hr with rfl | hr
  ·exact zAb (by omega) (by omega) (by omega)
  ·cases hr
 unfold zwW;rw[if_neg (by unfold zwU; show ¬ (4 < 2\/5 < 3\/5 < 0); omega),if_pos hF,if_pos (by decide)]
theorem zA5:zs2 { Losses:=[],Reserve:=0,Treaties:=[],Reports:=[] }=some 0:=by
 rw[zAP (by show 0<=9; omega) (by show 0<=9; omega) (by show 0<=9; omega)];refine congrArg some (zwX.2 { ls:=fun r hr=>(by cases hr),res:=⟨by show(0:Int)<=0; omega,by show(0:Int)<=10000; omega⟩,ts:=fun r hr=>(by cases hr),of':=fun i t ht=>(by cases ht),rs:=fun r hr=>(by cases hr),l4:=Nat.zero_le _,t5:=Nat.zero_le _,r5:=Nat.zero_le _,many:=by show(1:Int)<=1500; omega })
theorem zA6:zt3=some true:=by
 have s1:ztU [105,100,50] [105,100,50]=some true:=zz5 (by decide);have s2:ztU [1] [1]=some true:=zz5 (by decide);have s3:ztU [0] [0]=some true:=zz5 (by decide);have f:∀n:Int,-1000000<=n/\n<=1000000->zl7 .i64 n:=fun n h=>f64 h;unfold zt3
 simp only[zz8,zAU,zAa,zAS,zAT,obs,zAu,zAy,zAC,zAD,zAE,zAF,zAG,zAH,zAI,zAJ,zAK,zAL,zAM,zAN,zAO,s1,s2,s3,if_true,ztV]
 rw[zqs (f 300 (by omega)),zqs (f 300 (by omega)),zqs (f 315 (by omega)),zqs (f 315 (by omega)),if_pos (by decide),if_pos (show((([]:List Int).length:Nat):Int)=0 from rfl),if_neg (by decide),if_neg (by decide),if_neg (by decide)];have i0:idx (zz6 200 []).Treaties 0=some q0:=zrQ (k:=0) rfl;have i1:idx (zz6 200 []).Treaties 1=some q1:=zrQ (k:=1) rfl;have i2:idx (zz6 200 []).Treaties 2=some q2:=zrQ (k:=2) rfl;have i3:idx zz7 0=some { Treaty:=0,Paid:={ Lo:=103,Hi:=110 } }:=zrQ (k:=0) rfl;have i4:idx (zz6 200 []).Losses 0=some { Lo:=100,Hi:=120 }:=zrQ (k:=0) rfl
 simp only[i0,i1,i2,i3,i4,obs]
 rw[zqs (by omega)];have e1:=zAW; have e2:=zAX; have e3:=zAY; have e4:=zAZ; have e5:=zA0
 show((zs2 (zAV [{ Kind:=2,Part:=25,Above:=0,Most:=0,Times:=0,Price:=50,Of:=-1 },q1,q2])).bind _)=_
 rw[e1,obs,if_pos rfl]
 show((zs2 (zAV [{ Kind:=0,Part:=0,Above:=0,Most:=0,Times:=0,Price:=50,Of:=-1 },q1,q2])).bind _)=_
 rw[e2,obs,if_pos rfl]
 show((zs2 (zAV [q0,{ Kind:=1,Part:=0,Above:=50,Most:=0,Times:=0,Price:=30,Of:=-1 },q2])).bind _)=_
 rw[e3,obs,if_pos rfl]
 show((zs2 (zAV [{ Kind:=0,Part:=25,Above:=0,Most:=0,Times:=1,Price:=50,Of:=-1 },q1,q2])).bind _)=_
 rw[e4,obs,if_pos rfl]
 show((zs2 (zAV [q0,q1,{ Kind:=1,Part:=0,Above:=20,Most:=40,Times:=1,Price:=5,Of:=2 }])).bind _)=_
 rw[e5,obs,if_pos rfl]
 show((zs2 { Losses:=[{ Lo:=100,Hi:=120 },{ Lo:=300,Hi:=300 }],Reserve:=200,Treaties:=[q0,q1,q2],Reports:=[{ Treaty:=3,Paid:={ Lo:=103,Hi:=110 } },{ Treaty:=2,Paid:={ Lo:=45,Hi:=46 } }] }).bind _)=_
 rw[zA1,obs,if_pos rfl]
 show((zs2 { Losses:=[{ Lo:=100,Hi:=1001 },{ Lo:=300,Hi:=300 }],Reserve:=200,Treaties:=[q0,q1,q2],Reports:=[] }).bind _)=_
 rw[zA2,obs,if_pos rfl]
 show((zs2 { Losses:=List.replicate 5 { Lo:=0,Hi:=0 },Reserve:=200,Treaties:=[q0,q1,q2],Reports:=[] }).bind _)=_
 rw[zA3,obs,if_pos rfl]
 show((zs2 { Losses:=[{ Lo:=0,Hi:=99 },{ Lo:=0,Hi:=15 }],Reserve:=200,Treaties:=[q0,q1,q2],Reports:=[] }).bind _)=_
 rw[zA4,obs,if_pos rfl,zA5,obs,if_pos rfl,aw]
end
end Go.Proofs.Ytkcmdghjgoaggaa

namespace Go.Proofs.Ytkcmdghjgoaggaa
open _root_.Go.Proofs.Try
open Go.ChangeShapes Go.WideShapes Go.ChangeAt Go.RowKit Go.Abs
set_option maxRecDepth 100000
theorem zA7:ownKnob prog.godebug=none:=by kernel_rfl
theorem zA8(os:Os)(started:os.Started)(H:Type)(enc:TypeId × Value->H) :
  ReturnsInHanded {} Try.checked os 3 .any (Rows.treatyNamesSpec.pre6 enc Try.prog Try.f3 Rows.treatyNamesRow.domain false) (Rows.treatyNamesSpec.post enc Try.prog Try.f3 false true false false):=by
 refine returnsInHanded_of_change (C:=Try.checked) zA7 started (by kernel_rfl) Try.func3
  (ChangeSpec.witness6 (enc:=enc) (C:=Try.checked) false ⟨#[],#[],[]⟩ 8 (by kernel_rfl) (by kernel_rfl) (by kernel_rfl) (by kernel_rfl)) ?_
 intro W base args ds gs before hval0 hW hcnd _;have hW':=hW;obtain⟨p,q,hA0,hV,rfl,hfz,hnd⟩:=hW;have hA:DataW.TrodAll enc Try.prog W 0 (fun _=>true) true Try.f3.params.toList args.toList ds p:=hA0;rw[Try.params3] at hA;obtain⟨rfl,rfl,rfl⟩:=trodAll_none hA;obtain⟨rfl,rfl⟩:=trodVars_none hV
 clear hA0 hval0
 have lay9:=Lay.nil W;refine(callsIn_wide.1 (zqB fits htab (zwk lay9.pre zA6 (Q:=fun v _=>v=.c (.bool true)) fun _ _=>rfl) lay9.hr (args':=#[]) .nil 0)).mono fun en W' hp=>?_;obtain⟨v,v',e',m',rfl,hst,hvr,rfl⟩:=hp;have hv':v'=.bool true:=hvr;subst hv';have hbelow:=lay9.below hst;refine⟨_,rfl,[],[],[],[],[],[],by simpa using hW',trodAll_mk1 (shut_bool Try.underlying4 _),trodAll_mk0,rfl,lay9.kept hst _,fun hc=>by cases hc⟩
theorem TreatyNames_holds:Rows.TreatyNamesSaid:=
 OpenClaim.holds_of_wide 3 Try.f3 rfl rfl rfl rfl rfl rfl rfl ⟨rfl,rfl,rfl,rfl,rfl⟩ rfl rfl rfl rfl rfl (by kernel_rfl) Try.func3 (by kernel_rfl)
  (of_decide_eq_true (by kernel_rfl)) (by unfold Func.isWrapper; first | (rw[if_pos (by decide +kernel)]; kernel_rfl) | (rw[if_neg (by decide +kernel)]; exact⟨rfl,rfl⟩))
  (fun os started H enc _=>zA8 os started H enc)
end Go.Proofs.Ytkcmdghjgoaggaa

