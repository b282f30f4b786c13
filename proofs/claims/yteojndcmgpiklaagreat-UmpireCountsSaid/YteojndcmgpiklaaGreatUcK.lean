/- UmpireCounts, for all that it can be called with, returns true. Condition: none. -/
import Derived.Test.YteojndcmgpiklaaGreatUcJ
import GoSem.Step
import GoSem.ClaimKeys
import Derived.DeepKeys2
import Derived.RangeFuncLeaves
import Derived.OrdersIn
import Derived.Laws.World
import Derived.Laws.Sem
import Derived.RangeFuncRecord
import Derived.Laws.CopyRow
import Derived.Laws.Append
import Derived.Laws.Rows
import Derived.Laws.Slices
import Derived.Laws.Entries
import Derived.ChangeKeysEq
import Derived.IntWalk
import Derived.DeepKeys
import Derived.DeepKeys3
import Derived.Laws.StructEq
import Derived.MapKept
import Derived.Laws.AppendOwn
import Derived.ChangeArms
import Derived.ChangeOld
import Derived.Carry
import Derived.ChangeShapes
import Derived.KernelRfl
import Derived.ProofKit
import Derived.Test.YteojndcmgpiklaaGreatRows

namespace Go.Proofs.YteojndcmgpiklaaGreat
open _root_.Go.Proofs.Tryz
open Go.Abs
set_option maxRecDepth 100000
noncomputable section
theorem rEvery_L2{f:Fld}(h:CntsOk f.Umpire){x y:Int}(hy:-1000≤y∧y≤1000){K:List Thr→Int→Option (List Thr)}:∀(d n:Nat) (k:Int) (acc:List Thr),f.Umpire.Lo≤k→n < d→k+n=f.Umpire.Hi+1→acc.length+n≤1000→prEvery_L2 f x y K d acc k=K (acc++(segI k n).map (fun u=>⟨x,y,u⟩)) (y+1)
 | 0,n,k,_,_,h2,_,_=>by omega
 | d+1,0,k,acc,_,_,h3,_=>by
  rw[prEvery_L2,if_neg (by omega),gd_pos (fI (by omega))]; simp[segI]
 | d+1,n+1,k,acc,h1,h2,h3,h4=>by
  have:=h.lo; have:=h.hi;rw[prEvery_L2,if_pos (by omega),gd_pos (by omega),gd_pos (fI (by omega)),rEvery_L2 h hy d n (k+1) _ (by omega) (by omega) (by omega) (by simp; omega)]
  simp[segI]
theorem rEvery_L1{f:Fld}(hu:CntsOk f.Umpire)(h:CntsOk f.Second){x:Int}(hx:-1000≤x∧x≤1000){K:List Thr→Int→Option (List Thr)}:∀(d n:Nat) (k:Int) (acc:List Thr),f.Second.Lo≤k→n < d→k+n=f.Second.Hi+1→acc.length+5 * n≤1000→prEvery_L1 f x K d acc k=K (acc++(segI k n).flatMap (fun b=>(segI f.Umpire.Lo (cnt f.Umpire)).map fun u=>⟨x,b,u⟩)) (x+1)
 | 0,n,k,_,_,h2,_,_=>by omega
 | d+1,0,k,acc,_,_,h3,_=>by
  rw[prEvery_L1,if_neg (by omega),gd_pos (fI (by omega))]; simp[segI]
 | d+1,n+1,k,acc,h1,h2,h3,h4=>by
  have:=h.lo; have:=h.hi; have:=hu.le;have:=cnt_le hu;rw[prEvery_L1,if_pos (by omega),rEvery_L2 hu (by omega) 1000000 (cnt f.Umpire) f.Umpire.Lo _ (by omega) (by omega) (by unfold cnt; omega) (by omega),rEvery_L1 hu h hx d n (k+1) _ (by omega) (by omega) (by omega) (by simp[segI_len]; omega)]
  simp[segI]
theorem rEvery_L0{f:Fld}(hu:CntsOk f.Umpire)(hs:CntsOk f.Second)(h:CntsOk f.First):∀(d n:Nat) (k:Int) (acc:List Thr),f.First.Lo≤k→n < d→k+n=f.First.Hi+1→acc.length+25 * n≤1000→prEvery_L0 f d acc k=some (acc++(segI k n).flatMap fun a=>(segI f.Second.Lo (cnt f.Second)).flatMap fun b=>(segI f.Umpire.Lo (cnt f.Umpire)).map fun u=>⟨a,b,u⟩)
 | 0,n,k,_,_,h2,_,_=>by omega
 | d+1,0,k,acc,_,_,h3,_=>by
  rw[prEvery_L0,if_neg (by omega)]; simp[segI]
 | d+1,n+1,k,acc,h1,h2,h3,h4=>by
  have:=h.lo; have:=h.hi; have:=hs.le;have c1:=cnt_le hs; have c2:=cnt_le hu;have hm:cnt f.Second * cnt f.Umpire≤25:=Nat.mul_le_mul c1.2 c2.2;rw[prEvery_L0,if_pos (by omega),rEvery_L1 hu hs (by omega) 1000000 (cnt f.Second) f.Second.Lo _ (by omega) (by omega) (by unfold cnt; omega) (by omega),rEvery_L0 hu hs h d n (k+1) _ (by omega) (by omega) (by omega) (by simp[List.length_flatMap,segI_len,List.map_const',List.sum_replicate_nat]; omega)]
  simp[segI]
theorem rEvery_eq{l:List Tf}{f:Fld}(h:FldOk l f):prEvery f=some (threesN f):=by
 have:=cnt_le h.fst; have:=h.fst.le;unfold prEvery;rw[rEvery_L0 h.ump h.snd h.fst 1000000 (cnt f.First) f.First.Lo [] (by omega) (by omega) (by unfold cnt; omega) (by simp; omega)]; rfl
theorem rFar_eq{a b:Int}(ha:0≤a∧a≤100)(hb:0≤b∧b≤100):prFar a b=some (farN a b):=by
 unfold prFar farN
 by_cases h:a < b
 ·rw[if_pos h,gd_pos (fI (by omega))]; congr 1; omega
 ·rw[if_neg h,gd_pos (fI (by omega))]; congr 1; omega
theorem rIsCalled_ev{f:Fld}{t:Thr}(h:Rng3 t):Ev (prIsCalled f t) (calN f t):=Ev.bind (rFar_eq h.a h.b) (Ev.dec Iff.rfl)
theorem rSettled_eq{f:Fld}{t:Thr}(h:Rng3 t):prSettled f t=some (setN f t):=by
 have h1:=h.a; have h2:=h.b;unfold prSettled setN
 refine Ev.pick (rIsCalled_ev h) (fun hc=>?_) fun hc=>by
  rw[bif_neg rfl,if_neg hc,gd_pos (fI (by omega)),gd_pos (by omega),gd_pos (by omega),gd_pos (fI (by omega))]
 rw[if_pos rfl,if_pos hc]
 repeat' split
 all_goals (congr 1; omega)
theorem rCounts_L1{S:Nat→Bool}:∀(d k:Nat),k≤101→101 - k < d→prCounts_L1 (FL S) d ((((List.range 101).take k).filter S).map fun k:Nat=>(k:Int)) (k:Int)=some (listF S)
 | 0,k,_,h=>by omega
 | d+1,k,hk,h=>by
  rw[prCounts_L1]
  by_cases hkl:k < 101
  ·rw[if_pos (by omega),gd_pos (by omega),idx_at (FL_get hkl),obs];have:=rCounts_L1 (S:=S) d (k+1) hkl (by omega);rw[filt_step hkl] at this
   split
   ·rename_i hs
    rw[gd_pos (by rw[List.length_map]; exact Nat.lt_of_le_of_lt filter_le (by omega)),gd_pos (fI (by omega)),show(k:Int)+1=((k+1:Nat):Int) by omega];rw[if_pos hs,List.map_append] at this;exact this
   ·rename_i hs
    rw[gd_pos (fI (by omega)),show(k:Int)+1=((k+1:Nat):Int) by omega];rw[if_neg hs,List.append_nil] at this;exact this
  ·rw[if_neg (by omega)]
   have:k=101:=by omega
   subst this;rw[List.take_of_length_le (by simp)]; rfl
theorem rCounts_L0{f:Fld}{l:List Thr}(hr:∀t∈l,Rng3 t)(hl:l.length≤1000):∀(d k:Nat) (S:Nat→Bool),k≤l.length→l.length - k < d→prCounts_L0 f l d (FL S) (k:Int)=some (listF fun j=>cntS (l.drop k) f j || S j)
 | 0,k,_,_,h=>by omega
 | d+1,k,S,hk,h=>by
  rw[prCounts_L0]
  by_cases hkl:k < l.length
  ·obtain⟨t,h1,h2⟩:=drop_at hkl;have ht:=hr t (List.mem_of_getElem? h1);have hs:=setN_rng (f:=f) ht;rw[if_pos (by omega),idx_at h1,obs,rSettled_eq ht,obs,gd_pos (by omega),gd_pos FL_len,gd_pos (fI (by omega)),FL_set (by omega),show(k:Int)+1=((k+1:Nat):Int) by omega,rCounts_L0 hr hl d (k+1) _ hkl (by omega),h2]
   congr 2
   funext j
   unfold cntS;rw[List.any_cons]
   by_cases he:j=(setN f t).toNat
   ·rw[if_pos he,show decide (setN f t=(j:Int))=true from decide_eq_true (by omega)]; simp
   ·rw[if_neg he,show decide (setN f t=(j:Int))=false from decide_eq_false (by omega)]; simp
  ·rw[if_neg (by omega),List.drop_eq_nil_of_le (by omega)];have:=rCounts_L1 (S:=S) 102 0 (by omega) (by omega);exact this
theorem rCounts_eq{l:List Tf}{f:Fld}(hf:FldOk l f):prCounts f=some (countsN f):=by
 have hn:=threesN_len hf;unfold prCounts;rw[rEvery_eq hf,obs,FL0];rw[show((0:Int))=((0:Nat):Int) from rfl,rCounts_L0 (three_rng hf) (by omega) _ 0 _ (by omega) (by omega),List.drop_zero]
 simp only[Bool.or_false]; rfl
theorem rCalled_L0{f:Fld}{l:List Thr}(hr:∀t∈l,Rng3 t)(hl:l.length≤1000):∀(d k m:Nat),k≤l.length→l.length - k < d→m=(l.take k).countP (fun t=>decide (calN f t))→prCalled_L0 f l d (m:Int) (k:Int)=some (if l.countP (fun t=>decide (calN f t))=l.length then 1 else if l.countP (fun t=>decide (calN f t))=0 then 2 else 3)
 | 0,k,_,_,h,_=>by omega
 | d+1,k,m,hk,h,hm=>by
  have hle:(l.take k).countP (fun t=>decide (calN f t))≤l.length:=Nat.le_trans (List.countP_le_length ..) (by rw[List.length_take]; omega);rw[prCalled_L0]
  by_cases hkl:k < l.length
  ·have h1:=List.getElem?_eq_getElem hkl;have ht:=hr _ (List.mem_of_getElem? h1)
   have hstep:(l.take (k+1)).countP (fun t=>decide (calN f t))=(l.take k).countP (fun t=>decide (calN f t))+(if calN f l[k] then 1 else 0):=by
    rw[List.take_add_one,h1,List.countP_append]
    simp[List.countP_cons]
   rw[if_pos (by omega),idx_at h1,obs,(rIsCalled_ev ht).eqd,obs]
   by_cases hc:calN f l[k]
   ·rw[if_pos (decide_eq_true hc),gd_pos (fI (by omega)),gd_pos (fI (by omega)),show(k:Int)+1=((k+1:Nat):Int) by omega,show(m:Int)+1=((m+1:Nat):Int) by omega];exact rCalled_L0 hr hl d (k+1) (m+1) hkl (by omega) (by rw[hstep,if_pos hc]; omega)
   ·rw[bif_neg (decide_eq_false hc),gd_pos (fI (by omega)),show(k:Int)+1=((k+1:Nat):Int) by omega];exact rCalled_L0 hr hl d (k+1) m hkl (by omega) (by rw[hstep,if_neg hc]; omega)
  ·have:k=l.length:=by omega
   subst this;rw[List.take_length] at hm;rw[if_neg (by omega),← hm]
   by_cases h1:m=l.length
   ·rw[if_pos (by omega),if_pos h1]
   ·rw[if_neg (by omega),if_neg h1]
    by_cases h2:m=0
    ·rw[if_pos (by omega),if_pos h2]
    ·rw[if_neg (by omega),if_neg h2]
theorem rCalled_eq{l:List Tf}{f:Fld}(hf:FldOk l f):prCalled f=some (callsN f):=by
 have hn:=threesN_len hf;unfold prCalled callsN;rw[rEvery_eq hf,obs,show((0:Int))=((0:Nat):Int) from rfl,rCalled_L0 (three_rng hf) (by omega) _ 0 0 (by omega) (by omega) (by simp)]
 congr 1
 by_cases h1:(threesN f).countP (fun t=>decide (calN f t))=(threesN f).length
 ·rw[if_pos h1,if_pos (List.all_eq_true.2 (List.countP_eq_length.1 h1))]
 ·rw[if_neg h1,if_neg fun h=>h1 (List.countP_eq_length.2 (List.all_eq_true.1 h))]
  by_cases h2:(threesN f).countP (fun t=>decide (calN f t))=0
  ·rw[if_pos h2,if_neg];intro h;obtain⟨t,ht,he⟩:=List.any_eq_true.1 h;exact List.countP_eq_zero.1 h2 t ht he
  ·rw[if_neg h2,if_pos];refine Classical.byContradiction fun h=>h2 (List.countP_eq_zero.2 fun t ht he=>h (List.any_eq_true.2 ⟨t,ht,he⟩))
def OkC(c:Cse):Prop:=ok_Cse c
theorem fielded_eq{c:Cse}{n:Int}(hl:c.Fields.length≤6):pfielded c n=some (if ufaultN c=0 then (if 0≤n∧n < c.Fields.length then 0 else 2) else ufaultN c):=by
 unfold pfielded;rw[uFault_eq,obs]
 by_cases h:ufaultN c=0
 ·rw[if_pos h,if_pos h,gd_pos (fI (by omega))]
  refine Ev.pick In_ev (fun hc=>by rw[if_pos rfl,if_pos (by omega)]) fun hc=>by rw[bif_neg rfl,if_neg (by omega)]
 ·rw[if_neg h,if_neg h]
theorem m_UmpireCounts{c:Cse}{field:Int}(_:OkC c)(_:fitsP .i64 field):pUmpireCounts c field=some true:=by
 unfold pUmpireCounts
 refine Ev.pick uThin_ev (fun ht=>?_) fun ht=>by rw[bif_neg rfl,uAwake_eq]; rfl
 have hl:=ht.2;rw[if_pos rfl,lCase_eq ht.1 hl,obs]
 by_cases h:ufaultN c=0
 ·have hc:=ufaultN_zero.1 h
  by_cases hn:0≤field∧field < c.Fields.length
  ·obtain⟨k,rfl⟩:∃k:Nat,field=k:=⟨field.toNat,by omega⟩;have hk:=List.getElem?_eq_getElem (show k < c.Fields.length by omega);have hf:=hc.fld _ (List.mem_of_getElem? hk);have hlen:=listF_len (S:=cntsS c.Fields[k]);rw[Counts_ok hc hk,obs,obs,Called_ok hc hk,obs,fielded_eq hl,obs,if_pos h,if_pos hn,if_pos rfl,if_pos rfl,if_pos rfl,idx_at hk,obs,rCounts_eq hf,obs,(same_ev (show(countsN _).length≤1000 by unfold countsN; omega)).some_of rfl,obs,if_pos rfl,obs,rCalled_eq hf,obs,if_pos rfl,uAwake_eq]; rfl
  ·rw[Counts_no hc hn,obs,obs,Called_no hc hn,obs,fielded_eq hl,obs,if_pos h,if_neg hn,if_neg (by decide),if_pos rfl,if_pos rfl,if_pos (by simp),if_pos rfl,uAwake_eq]; rfl
 ·rw[Counts_bad h,obs,obs,Called_bad h,obs,fielded_eq hl,obs,if_neg h,if_neg h,if_pos rfl,if_pos rfl,if_pos (by simp),if_pos rfl,uAwake_eq]; rfl
end
end Go.Proofs.YteojndcmgpiklaaGreat

namespace Go.Proofs.YteojndcmgpiklaaGreat
open _root_.Go.Proofs.Tryz
open Go.ChangeShapes Go.WideShapes Go.ChangeAt Go.RowKit Go.Abs
set_option maxRecDepth 100000
theorem op3:Opens prog 3 Int (fitsP .i64):=opens_int (by kernel_rfl)
theorem op4:Opens prog 4 Bool (fun _=>True):=opens_bool (by kernel_rfl)
theorem op29:Opens prog 29 (List Int) (fun l=>l.length≤maxLen∧∀a0∈l,fitsP .i64 a0):=opens_slice (by kernel_rfl) (by kernel_rfl) op3
theorem op140:Opens prog 140 (List (List Int)) (fun l=>l.length≤maxLen∧∀a0∈l,a0.length≤maxLen∧∀a1∈a0,fitsP .i64 a1):=opens_slice (by kernel_rfl) (by kernel_rfl) op29
theorem op78:Opens prog 78 (List (List (List Int))) (fun l=>l.length≤maxLen∧∀a0∈l,a0.length≤maxLen∧∀a1∈a0,a1.length≤maxLen∧∀a2∈a1,fitsP .i64 a2):=opens_slice (by kernel_rfl) (by kernel_rfl) op140
theorem op151:Opens prog 151 Tf ok_Tf:=opens_struct (fs:=[(3,0),(4,1),(3,2),(29,3),(29,4),(78,5)]) (by kernel_rfl) (by kernel_rfl) (opensFs_cons (α:=Int) (ok:=fitsP .i64) (k:=1) op3 (by kernel_rfl) rfl (opensFs_cons (α:=Bool) (ok:=(fun _=>True)) (k:=1) op4 (by kernel_rfl) rfl (opensFs_cons (α:=Int) (ok:=fitsP .i64) (k:=1) op3 (by kernel_rfl) rfl (opensFs_cons (α:=List Int) (ok:=(fun l=>l.length≤maxLen∧∀a0∈l,fitsP .i64 a0)) (k:=1) op29 (by kernel_rfl) rfl (opensFs_cons (α:=List Int) (ok:=(fun l=>l.length≤maxLen∧∀a0∈l,fitsP .i64 a0)) (k:=1) op29 (by kernel_rfl) rfl (opensFs_cons (α:=List (List (List Int))) (ok:=(fun l=>l.length≤maxLen∧∀a0∈l,a0.length≤maxLen∧∀a1∈a0,a1.length≤maxLen∧∀a2∈a1,fitsP .i64 a2)) (k:=1) op78 (by kernel_rfl) rfl opensFs_nil)))))) (by kernel_rfl) fun m vs h=>by
 obtain⟨a0,c0,r0,m0,h0,p0,k0,s0,⟨a1,c1,r1,m1,h1,p1,k1,s1,⟨a2,c2,r2,m2,h2,p2,k2,s2,⟨a3,c3,r3,m3,h3,p3,k3,s3,⟨a4,c4,r4,m4,h4,p4,k4,s4,⟨a5,c5,r5,m5,h5,p5,k5,s5,rfl⟩⟩⟩⟩⟩⟩:=h;have p0:c0=[.int .i64 a0]:=p0; subst p0;have p1:c1=[.bool a1]:=p1; subst p1;have p2:c2=[.int .i64 a2]:=p2; subst p2;obtain⟨d3,rfl,p3⟩:=p3;obtain⟨d4,rfl,p4⟩:=p4;obtain⟨d5,rfl,p5⟩:=p5;subst h5 h4 h3 h2 h1 h0;exact⟨⟨a0,a1,a2,a3,a4,a5⟩,⟨_,_,_,rfl,p3,p4,p5⟩,⟨k0,k1,k2,k3,k4,k5⟩⟩
theorem op22:Opens prog 22 (List Tf) (fun l=>l.length≤maxLen∧∀a0∈l,ok_Tf a0):=opens_slice (by kernel_rfl) (by kernel_rfl) op151
theorem op58:Opens prog 58 Rg ok_Rg:=opens_struct (fs:=[(3,0),(3,1)]) (by kernel_rfl) (by kernel_rfl) (opensFs_cons (α:=Int) (ok:=fitsP .i64) (k:=1) op3 (by kernel_rfl) rfl (opensFs_cons (α:=Int) (ok:=fitsP .i64) (k:=1) op3 (by kernel_rfl) rfl opensFs_nil)) (by kernel_rfl) fun m vs h=>by
 obtain⟨a0,c0,r0,m0,h0,p0,k0,s0,⟨a1,c1,r1,m1,h1,p1,k1,s1,rfl⟩⟩:=h;have p0:c0=[.int .i64 a0]:=p0; subst p0;have p1:c1=[.int .i64 a1]:=p1; subst p1;subst h1 h0;exact⟨⟨a0,a1⟩,rfl,⟨k0,k1⟩⟩
theorem op60:Opens prog 60 Fld ok_Fld:=opens_struct (fs:=[(3,0),(3,1),(3,2),(58,3),(58,5),(58,7)]) (by kernel_rfl) (by kernel_rfl) (opensFs_cons (α:=Int) (ok:=fitsP .i64) (k:=1) op3 (by kernel_rfl) rfl (opensFs_cons (α:=Int) (ok:=fitsP .i64) (k:=1) op3 (by kernel_rfl) rfl (opensFs_cons (α:=Int) (ok:=fitsP .i64) (k:=1) op3 (by kernel_rfl) rfl (opensFs_cons (α:=Rg) (ok:=ok_Rg) (k:=2) op58 (by kernel_rfl) rfl (opensFs_cons (α:=Rg) (ok:=ok_Rg) (k:=2) op58 (by kernel_rfl) rfl (opensFs_cons (α:=Rg) (ok:=ok_Rg) (k:=2) op58 (by kernel_rfl) rfl opensFs_nil)))))) (by kernel_rfl) fun m vs h=>by
 obtain⟨a0,c0,r0,m0,h0,p0,k0,s0,⟨a1,c1,r1,m1,h1,p1,k1,s1,⟨a2,c2,r2,m2,h2,p2,k2,s2,⟨a3,c3,r3,m3,h3,p3,k3,s3,⟨a4,c4,r4,m4,h4,p4,k4,s4,⟨a5,c5,r5,m5,h5,p5,k5,s5,rfl⟩⟩⟩⟩⟩⟩:=h;have p0:c0=[.int .i64 a0]:=p0; subst p0;have p1:c1=[.int .i64 a1]:=p1; subst p1;have p2:c2=[.int .i64 a2]:=p2; subst p2;have p3:c3=[.int .i64 a3.Lo,.int .i64 a3.Hi]:=p3; subst p3;have p4:c4=[.int .i64 a4.Lo,.int .i64 a4.Hi]:=p4; subst p4;have p5:c5=[.int .i64 a5.Lo,.int .i64 a5.Hi]:=p5; subst p5;subst h5 h4 h3 h2 h1 h0;exact⟨⟨a0,a1,a2,a3,a4,a5⟩,rfl,⟨k0,k1,k2,k3,k4,k5⟩⟩
theorem op23:Opens prog 23 (List Fld) (fun l=>l.length≤maxLen∧∀a0∈l,ok_Fld a0):=opens_slice (by kernel_rfl) (by kernel_rfl) op60
theorem op25:Opens prog 25 Cse ok_Cse:=opens_struct (fs:=[(22,0),(3,1),(3,2),(23,3)]) (by kernel_rfl) (by kernel_rfl) (opensFs_cons (α:=List Tf) (ok:=(fun l=>l.length≤maxLen∧∀a0∈l,ok_Tf a0)) (k:=1) op22 (by kernel_rfl) rfl (opensFs_cons (α:=Int) (ok:=fitsP .i64) (k:=1) op3 (by kernel_rfl) rfl (opensFs_cons (α:=Int) (ok:=fitsP .i64) (k:=1) op3 (by kernel_rfl) rfl (opensFs_cons (α:=List Fld) (ok:=(fun l=>l.length≤maxLen∧∀a0∈l,ok_Fld a0)) (k:=1) op23 (by kernel_rfl) rfl opensFs_nil)))) (by kernel_rfl) fun m vs h=>by
 obtain⟨a0,c0,r0,m0,h0,p0,k0,s0,⟨a1,c1,r1,m1,h1,p1,k1,s1,⟨a2,c2,r2,m2,h2,p2,k2,s2,⟨a3,c3,r3,m3,h3,p3,k3,s3,rfl⟩⟩⟩⟩:=h;obtain⟨d0,rfl,p0⟩:=p0;have p1:c1=[.int .i64 a1]:=p1; subst p1;have p2:c2=[.int .i64 a2]:=p2; subst p2;obtain⟨d3,rfl,p3⟩:=p3;subst h3 h2 h1 h0;exact⟨⟨a0,a1,a2,a3⟩,⟨_,_,rfl,p0,p3⟩,⟨k0,k1,k2,k3⟩⟩
theorem laid:laidOutB prog=true:=by kernel_rfl
theorem ownNone:ownKnob prog.godebug=none:=by kernel_rfl
theorem UmpireCounts_lifted(os:Os)(started:os.Started)(H:Type)(enc:TypeId × Value→H) :
    ReturnsInHanded {} Tryz.checked os 4 .any (Rows.umpireCountsSpec.pre6 enc Tryz.prog Tryz.f4 Rows.umpireCountsRow.domain false) (Rows.umpireCountsSpec.post enc Tryz.prog Tryz.f4 false true false false):=by
  refine returnsInHanded_of_change (C:=Tryz.checked) ownNone started (by kernel_rfl) Tryz.func4
    (ChangeSpec.witness6 (enc:=enc) (C:=Tryz.checked) false ⟨#[],#[.agg #[.slice none 0 0,.int .i64 0,.int .i64 0,.slice none 0 0],.int .i64 0],[]⟩ 8 (by kernel_rfl) (by kernel_rfl) (by kernel_rfl) (by kernel_rfl)) ?_
  intro W base args ds gs before hval0 hW hcnd _;have hval:∀(j:Nat) t v,Tryz.f4.params[j]? = some t→args[j]? = some v→Value.okWide Tryz.prog W .any base t v:=hval0;have hW':=hW;obtain⟨p,q,hA0,hV,rfl,hfz,hnd⟩:=hW;have hA:DataW.TrodAll enc Tryz.prog W 0 (fun _=>true) true Tryz.f4.params.toList args.toList ds p:=hA0;rw[Tryz.params4] at hA hval;obtain⟨v0,v1,d0,d1,p0,p1,rfl,rfl,rfl,h0,h1⟩:=trodAll_two hA;obtain⟨rfl,rfl⟩:=trodVars_none hV;obtain⟨n1,hv1⟩:=okWide_int Tryz.underlying3 (hval 1 3 v1 rfl rfl)
  have hlt:∀x∈p0++p1,x.block < W.heap.size:=fun x hx=>by simpa using hW'.lt x (by simpa using hx)
  obtain⟨fu0,hf0⟩:=id h0;obtain⟨fu1,hf1⟩:=id h1
  clear hA0 hval0
  obtain⟨e0,m0,w0,a_0,le0,sv0,lay0,cr0,rep0,ok0⟩:=op25 H enc W true _ _ _ hf0 _ _ (Lay.nil W);obtain⟨e1,m1,w1,a_1,le1,sv1,lay1,cr1,rep1,ok1⟩:=op3 H enc W true _ _ _ hf1 e0 m0 lay0;obtain⟨c0_0,c0_3,rfl,g0_0,g0_3⟩:=rep0
  obtain⟨cs0,hv0,cl0⟩:∃cs,v0=.agg cs∧v0.cells.toList=cs.toList:=by
    have hl:=cr0.length
    cases v0 with
    | agg cs=>exact⟨cs,rfl,rfl⟩
    | _=>exact absurd hl (by simp[Value.cells])
  subst hv0;have rep1:w1=[.int .i64 a_1]:=rep1;subst rep1 hv1
  have ha1:n1=a_1:=by
    cases cr1 with
    | cons h _=>have h:Value.int .i64 n1=.int .i64 a_1:=h; cases h; rfl
  subst ha1;have hargs:All2 (VR e1) [.agg 4 [c0_0,.int .i64 a_0.Day,.int .i64 a_0.Fee,c0_3],.c (.int .i64 n1)] [.agg cs0,.int .i64 n1]:=.cons ⟨cs0,rfl,(cr0.mono fun _ _=>CR.mono le1),rfl⟩ (.cons rfl .nil);refine(callsIn_wide.1 (call_of fits htab (s_UmpireCounts (c:=a_0) (field:=n1) lay1.pre (g0_0.subv sv1) (g0_3.subv sv1) (m_UmpireCounts ok0 ok1) (Q:=fun v _=>v=.c (.bool true)) fun _ _=>rfl) lay1.hr (args':=#[.agg cs0,.int .i64 n1]) hargs 0)).mono fun en W' hp=>?_;obtain⟨v,v',e',m',rfl,hst,hvr,rfl⟩:=hp;have hv':v'=.bool true:=hvr;subst hv';have hbelow:=lay1.below hst
  refine⟨_,rfl,[d0,d1],[],p0++p1,[],p0++p1,[],by simpa using hW',trodAll_mk1 (shut_bool Tryz.underlying4 _),
    trodAll_mk2 (Below.trod laid (by kernel_rfl) (of_decide_eq_true (by kernel_rfl)) h0 hbelow fun x hx=>hlt x (by simp[hx])) (Below.trod laid (by kernel_rfl) (of_decide_eq_true (by kernel_rfl)) h1 hbelow fun x hx=>hlt x (by simp[hx])),rfl,lay1.kept hst _,fun hc=>by cases hc⟩
theorem UmpireCounts_holds:Rows.UmpireCountsSaid:=
 OpenClaim.holds_of_wide 4 Tryz.f4 rfl rfl rfl rfl rfl rfl rfl ⟨rfl,rfl,rfl,rfl,rfl⟩ rfl rfl rfl rfl rfl (by kernel_rfl) Tryz.func4 (by kernel_rfl)
  (of_decide_eq_true (by kernel_rfl)) (by unfold Func.isWrapper; first | (rw[if_pos (by decide +kernel)]; kernel_rfl) | (rw[if_neg (by decide +kernel)]; exact⟨rfl,rfl⟩))
  (fun os started H enc _=>UmpireCounts_lifted os started H enc)
end Go.Proofs.YteojndcmgpiklaaGreat

