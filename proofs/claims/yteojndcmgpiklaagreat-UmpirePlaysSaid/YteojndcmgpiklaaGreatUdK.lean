/- UmpirePlays, for all that it can be called with, returns true. Condition: none. -/
import Derived.Test.YteojndcmgpiklaaGreatUdJ
import GoSem.Step
import GoSem.ClaimKeys
import Derived.DeepKeys2
import Derived.RangeFuncLeaves
import Derived.OrdersIn
import Derived.Laws.World
import Derived.Laws.Sem
import Derived.RangeFuncRecord
import Derived.Laws.CopyRow
import Derived.Laws.Append
import Derived.Laws.Rows
import Derived.Laws.Slices
import Derived.Laws.Entries
import Derived.ChangeKeysEq
import Derived.IntWalk
import Derived.DeepKeys
import Derived.DeepKeys3
import Derived.Laws.StructEq
import Derived.MapKept
import Derived.Laws.AppendOwn
import Derived.ChangeArms
import Derived.ChangeOld
import Derived.Carry
import Derived.ChangeShapes
import Derived.KernelRfl
import Derived.ProofKit
import Derived.Test.YteojndcmgpiklaaGreatRows

namespace Go.Proofs.YteojndcmgpiklaaGreat
open _root_.Go.Proofs.Tryz
open Go.Abs
set_option maxRecDepth 100000
noncomputable section
theorem zEs{a b:Int}(ha:0≤a∧a≤100)(hb:0≤b∧b≤100):zuF a b=some (zCh a b):=by
 unfold zuF zCh
 by_cases h:a < b
 ·rw[if_pos h,zqf (fI (by omega))]; congr 1; omega
 ·rw[if_neg h,zqf (fI (by omega))]; congr 1; omega
theorem zEt{f:Fld}{t:Thr}(h:zCg t):Ev (zuG f t) (zCi f t):=Ev.bind (zEs h.a h.b) (Ev.dec Iff.rfl)
theorem zEu{f:Fld}{t:Thr}(h:zCg t):zuH f t=some (zCj f t):=by
 have h1:=h.a; have h2:=h.b;unfold zuH zCj
 refine Ev.pick (zEt h) (fun hc=>?_) fun hc=>by
  rw[zqg rfl,if_neg hc,zqf (fI (by omega)),zqf (by omega),zqf (by omega),zqf (fI (by omega))]
 rw[if_pos rfl,if_pos hc]
 repeat' split
 all_goals (congr 1; omega)
def OkC(c:Cse):Prop:=zrN c
theorem zEv{c:Cse}(hc:zBQ c){f:Fld}(hf:zBP c.Tariffs f){n:Int}(hn:0≤n∧n≤100):zuI c f n=some (zCB c f n):=by
 have h1:=VL.part_rng (zzM.1 hc.tar).2 hf.crop.1 hf.crop.2 hn.1 hn.2 c.Day;have h2:=zBg hf.val h1;unfold zuI;rw[zAM hc.tar hf.crop.1 hf.crop.2 hn.1 hn.2,obs,zqf hf.val.1,zqf h1.1,zqf (fI (by omega)),zqf h2.1,zqf (by omega),zqf (fI (by omega))]; rfl
def zEw(c:Cse)(f:Fld)(t:Thr):OcR:=⟨zCB c f (zCj f t),decide (zCi f t),if zCi f t then (if zCh t.Second (zCj f t) < zCh t.First (zCj f t) then 1 else if zCh t.First (zCj f t) < zCh t.Second (zCj f t) then -1 else 0) else 0⟩
theorem zEx{c:Cse}(hc:zBQ c){f:Fld}(hf:zBP c.Tariffs f){t:Thr}(ht:zCf f t):zuJ c f t=some (zEw c f t):=by
 have hr:=ht.rng hf;have hs:=zCo (f:=f) hr;have e1:=zEs hr.a hs;have e2:=zEs hr.b hs;unfold zuJ zEw;rw[zEu hr,obs,zEv hc hf hs,obs]
 refine Ev.pick (zEt hr) (fun hc=>?_) fun hc=>by rw[zqg rfl,if_neg hc,decide_eq_false hc]
 rw[if_pos rfl,if_pos hc,decide_eq_true hc,e1,obs,e2,obs]
 split
 ·rename_i h1
  rw[obs,obs,if_neg (by omega)]
 ·rename_i h1
  rw[obs,obs]
  split <;> rfl
def zEy(c:Cse)(s:Int × Bool × Int):Res:=if s.2.1=true then (if 0 < s.2.2 then ⟨[],s.1,c.Fee,0⟩ else if s.2.2 < 0 then ⟨[],s.1,0,c.Fee⟩ else ⟨[],s.1,c.Fee - c.Fee / 2,c.Fee / 2⟩) else ⟨[],s.1,0,0⟩
def zEz(s:Int × Bool × Int)(o:OcR):Int × Bool × Int:=(s.1+o.Pay,s.2.1 || o.Called,s.2.2+o.Lost)
theorem zEA{c:Cse}(hc:zBQ c){l:List OcR}(hl:l.length≤1000)(hb:∀o∈l,(0≤o.Pay∧o.Pay≤100000)∧(-1≤o.Lost∧o.Lost≤1)):∀(d k:Nat) (A:Int) (b:Bool) (L:Int),k≤l.length→l.length - k < d→(0≤A∧A≤100000 * k)→(-(k:Int)≤L∧L≤k)→zuK c l d A 0 0 b L (k:Int)=some (zEy c ((l.drop k).foldl zEz (A,b,L)))
 | 0,k,_,_,_,_,h,_,_=>by omega
 | d+1,k,A,b,L,hk,h,hA,hL=>by
  have hfee:=hc.fee;rw[zuK]
  by_cases hkl:k < l.length
  ·obtain⟨o,h1,h2⟩:=zC1 hkl;have ho:=hb o (List.mem_of_getElem? h1);have ih:=fun b'=>zEA hc hl hb d (k+1) (A+o.Pay) b' (L+o.Lost) hkl (by omega) (by omega) (by omega);rw[if_pos (by omega),zq5 h1,obs,zqf (fI (by omega)),h2,List.foldl_cons,show(k:Int)+1=((k+1:Nat):Int) by omega]
   simp only[obs]
   rw[zqf (fI (by omega)),zqf (fI (by omega)),ih,ih]
   cases b
   ·rw[if_neg (by simp),zqf (fI (by omega)),zqf (fI (by omega))]; rfl
   ·rw[if_pos rfl]; rfl
  ·rw[if_neg (by omega),List.drop_eq_nil_of_le (by omega),List.foldl_nil];unfold zEy
   dsimp only
   cases b
   ·simp
   ·rw[if_pos rfl,if_pos rfl]
    split
    ·rfl
    ·split
     ·rfl
     ·rw[zqf (by omega),zqf (by omega),zqf (fI (by omega)),zqf (fI (by omega))]
theorem zEB{c:Cse}(hc:zBQ c){l:List OcR}(hl:l.length≤1000)(hb:∀o∈l,(0≤o.Pay∧o.Pay≤100000)∧(-1≤o.Lost∧o.Lost≤1)):zuL c l=some (zEy c (l.foldl zEz (0,false,0))):=by
 have:=zEA hc hl hb (l.length+1) 0 0 false 0 (by omega) (by omega) (by omega) (by omega);rw[List.drop_zero] at this;exact this
def zEC(c:Cse):List Fld→List Thr→List OcR
 | f::fs,t::ts=>zEw c f t::zEC c fs ts
 | _,_=>[]
theorem zED{c:Cse}(hc:zBQ c){f:Fld}(hf:zBP c.Tariffs f){t:Thr}(ht:zCf f t):(0≤(zEw c f t).Pay∧(zEw c f t).Pay≤100000)∧(-1≤(zEw c f t).Lost∧(zEw c f t).Lost≤1):=by
 refine⟨zCE hc hf (zCo (ht.rng hf)),?_⟩;unfold zEw
 dsimp only
 repeat' split
 all_goals omega
theorem zEE{c:Cse}(hc:zBQ c):∀{fs:List Fld} {ts:List Thr},(∀f∈fs,zBP c.Tariffs f)→zCY fs ts→(∀o∈zEC c fs ts,(0≤o.Pay∧o.Pay≤100000)∧(-1≤o.Lost∧o.Lost≤1))∧(zEC c fs ts).length=fs.length
 | [],[],_,_=>⟨fun o h=>(by cases h),rfl⟩
 | f::fs,t::ts,hf,ht=>by
  have ih:=zEE hc (fun x hx=>hf x (List.mem_cons_of_mem _ hx)) ht.2;refine⟨fun o ho=>?_,by simp[zEC,ih.2]⟩
  rcases List.mem_cons.1 ho with rfl | ho
  ·exact zED hc (hf f (List.mem_cons_self ..)) ht.1
  ·exact ih.1 o ho
theorem zEF{c:Cse}(hc:zBQ c){t:List Thr}(he:t.length=c.Fields.length){R:Res}:∀(d k:Nat) (l:List OcR) (n:List Int),k≤c.Fields.length→c.Fields.length - k < d→l.length=k→n.length=k→zCY (c.Fields.drop k) (t.drop k) →
  zuL c (l++zEC c (c.Fields.drop k) (t.drop k))=some R→zuM c t d l n (k:Int)=some ⟨n++zC7 (c.Fields.drop k) (t.drop k),R.Award,R.Farmer,R.Society⟩
 | 0,k,_,_,_,h,_,_,_,_=>by omega
 | d+1,k,l,n,hk,h,hll,hnl,ht,hR=>by
  have hlen:=hc.len;rw[zuM]
  by_cases hkl:k < c.Fields.length
  ·obtain⟨f,h1,h2⟩:=zC1 hkl;obtain⟨x,h3,h4⟩:=zC1 (l:=t) (k:=k) (by omega);rw[h2,h4] at ht hR ⊢;have hf:=hc.fld f (List.mem_of_getElem? h1);rw[if_pos (by omega),zq5 h1,obs,zq5 h3,obs,zEx hc hf ht.1,obs,zqf (by omega),obs,obs,zEu (ht.1.rng hf),obs,zqf (by omega),zqf (fI (by omega)),show(k:Int)+1=((k+1:Nat):Int) by omega];rw[zEF hc he d (k+1) (l++[zEw c f x]) (n++[zCj f x]) hkl (by omega) (by simp; omega) (by simp; omega) ht.2 (by rw[List.append_assoc]; exact hR)]
   simp[zC7]
  ·rw[if_neg (by omega),List.drop_eq_nil_of_le (by omega),List.drop_eq_nil_of_le (by omega)];rw[List.drop_eq_nil_of_le (by omega),List.drop_eq_nil_of_le (by omega)] at hR
   simp only[zEC,List.append_nil] at hR
   rw[hR]; simp[zC7]
structure Rel (c:Cse) (v:Ver) (s:Int × Bool × Int):Prop where
 fee:v.fee=c.Fee
 p:v.pence=s.1
 cal:s.2.1=true↔0 < v.fields.f1+v.fields.f2+v.fields.f3
 nn:0≤v.fields.f1∧0≤v.fields.f2∧0≤v.fields.f3
 lost:s.2.2=v.fields.f2 - v.fields.f3
theorem Rel.add{c:Cse}{v:Ver}{s:Int × Bool × Int}(h:Rel c v s)(f:Fld)(t:Thr):Rel c (zCK v (ocN c f t)) (zEz s (zEw c f t)):=by
 obtain⟨h1,h2,h3,h4,h5⟩:=h;obtain⟨s1,s2,s3⟩:=s;unfold zCK zEz ocN zEw zCk
 dsimp only at *
 refine⟨h1,by dsimp only; rw[h2],?_,?_,?_⟩
 all_goals (dsimp only; by_cases hc:zCi f t)
 ·simp only[if_pos hc,decide_eq_true hc,Bool.or_true,true_iff]
  repeat' split
  all_goals omega
 ·simp only[if_neg hc,decide_eq_false hc,Bool.or_false,h3]
  simp
 ·simp only[if_pos hc]
  refine⟨?_,?_,?_⟩ <;> split <;> omega
 ·simp only[if_neg hc]
  simp; exact h4
 ·simp only[if_pos hc]
  by_cases h6:zCh t.Second (zCj f t) < zCh t.First (zCj f t)
  ·simp only[if_pos h6]; simp; omega
  ·by_cases h7:zCh t.First (zCj f t) < zCh t.Second (zCj f t)
   ·simp only[if_neg h6,if_pos h7]; simp; omega
   ·simp only[if_neg h6,if_neg h7]; simp; omega
 ·simp only[if_neg hc]
  simp; omega
theorem zEG{c:Cse}:∀{fs:List Fld} {ts:List Thr} {v:Ver} {s:Int × Bool × Int},zCY fs ts→Rel c v s→Rel c (zC6 c fs ts v) ((zEC c fs ts).foldl zEz s)
 | [],[],_,_,_,h=>h
 | f::fs,t::ts,_,_,ht,h=>zEG (fs:=fs) (ts:=ts) ht.2 (h.add f t)
theorem zEH{c:Cse}(hc:zBQ c){t:List Thr}(ht:zCY c.Fields t):zuN c t=some (zC9 c t):=by
 have hl:=hc.len;have h1:=zEE hc hc.fld ht;have h2:=zEB hc (by omega) h1.1;have hrel:Rel c (zC8 c t) ((zEC c c.Fields t).foldl zEz (0,false,0)):=zEG ht ⟨rfl,rfl,by simp,by simp,rfl⟩;have h3:=zEF hc ht.len.symm (t.length+1) 0 [] [] (by omega) (by have:=ht.len; omega) rfl rfl ht h2;unfold zuN;rw[show(0:Int)=((0:Nat):Int) from rfl,h3];unfold zC9;generalize (zEC c c.Fields t).foldl zEz (0,false,0)=s at hrel;generalize zC8 c t=v at hrel;obtain⟨e1,e2,e3,e4,e5⟩:=hrel;have hfee:=hc.fee;rw[List.drop_zero,List.drop_zero,List.nil_append];unfold zEy zCP zCQ zCP
 by_cases hv:zCO v
 ·have hs:s.2.1=true:=e3.2 hv
  simp only[if_pos hs,if_pos hv]
  by_cases h6:v.fields.f2 < v.fields.f3
  ·rw[if_pos h6,if_neg (by omega),if_pos (by omega)]
   simp[e2,e1]
  ·by_cases h7:v.fields.f3 < v.fields.f2
   ·rw[if_neg h6,if_pos h7,if_pos (by omega)]
    simp[e2,e1]
   ·rw[if_neg h6,if_neg h7,if_neg (by omega),if_neg (by omega)]
    simp only[e2,e1]
    congr 2
    omega
 ·have hs:¬ s.2.1=true:=fun h=>hv (e3.1 h)
  simp only[if_neg hs,if_neg hv,e2]
theorem zEI{c:Cse}{t:List Thr}{r:Res}{e p:Int}(h:zuv c t=some (r,e)):zuz c t p=some (if e=0 then decide (r.Award=p) else false):=by
 unfold zuz;rw[h,obs]
 by_cases he:e=0
 ·rw[if_pos he,if_pos he]
 ·rw[if_neg he,if_neg he]
theorem zEJ{c:Cse}{t:List Thr}{pence:Int}(_:OkC c)(_:t.length≤maxLen∧∀a∈t,zrO a)(_:zl0 .i64 pence):zvj c t pence=some true:=by
 unfold zvj
 refine Ev.pick zCa (fun ht=>?_) fun ht=>by rw[zqg rfl,zEr]; rfl
 have hl:=ht.2;rw[if_pos rfl]
 by_cases h6:6 < t.length
 ·rw[if_pos (by omega),zEr]; rfl
 rw[if_neg (by omega),zCc ht.1 hl,obs,zCe (show t.length≤1000000 by omega),obs]
 by_cases h:zBR c=0
 ·have hc:=zBS.1 h
  by_cases hT:zCY c.Fields t
  ·have hP:=zDg hc hT
   have hsl:(zC9 c t).Counts.length≤1000:=by
    show(zC7 c.Fields t).length≤1000
    rw[zEh hT]; omega
   rw[hP,obs,obs,obs,zEI hP,obs,zB9,obs,obs,zB3,obs,if_pos rfl,if_pos h,(zC5 hl).some_of hT,obs,if_pos rfl,zEH hc hT,obs,if_pos rfl,(zEg hsl).some_of rfl,obs,if_pos rfl,if_pos rfl,if_pos ?_,zEr]
   ·rfl
   ·rw[beq_iff_eq]
    by_cases he:(zC9 c t).Award=pence
    ·rw[decide_eq_true he,decide_eq_true he.symm]
    ·rw[decide_eq_false he,decide_eq_false fun h=>he h.symm]
  ·have hP:=zDh hc hT;rw[hP,obs,obs,obs,zEI hP,obs,zB9,obs,obs,zB3,obs,if_pos rfl,if_pos h,(zC5 hl).some_not hT,obs,zqg rfl,if_pos rfl]
   show(zuW zDf zDf).bind _=_
   rw[(zEg (show zDf.Counts.length≤1000 by simp[zDf])).some_of rfl,obs,if_pos rfl,if_neg (by simp),zEr]; rfl
 ·have hP:=zDi h (t:=t);rw[hP,obs,obs,obs,zEI hP,obs,zB9,obs,obs,zB3,obs,if_pos rfl,if_neg h,if_pos rfl]
  show(zuW zDf zDf).bind _=_
  rw[(zEg (show zDf.Counts.length≤1000 by simp[zDf])).some_of rfl,obs,if_pos rfl,if_neg (by simp[h]),zEr]; rfl
end
end Go.Proofs.YteojndcmgpiklaaGreat

namespace Go.Proofs.YteojndcmgpiklaaGreat
open _root_.Go.Proofs.Tryz
open Go.ChangeShapes Go.WideShapes Go.ChangeAt Go.RowKit Go.Abs
set_option maxRecDepth 100000
theorem op3:zrv prog 3 Int (zl0 .i64):=zrw (by kernel_rfl)
theorem op4:zrv prog 4 Bool (fun _=>True):=zrx (by kernel_rfl)
theorem zEK:zrv prog 29 (List Int) (fun l=>l.length≤maxLen∧∀a0∈l,zl0 .i64 a0):=zrz (by kernel_rfl) (by kernel_rfl) op3
theorem zEL:zrv prog 140 (List (List Int)) (fun l=>l.length≤maxLen∧∀a0∈l,a0.length≤maxLen∧∀a1∈a0,zl0 .i64 a1):=zrz (by kernel_rfl) (by kernel_rfl) zEK
theorem zEM:zrv prog 78 (List (List (List Int))) (fun l=>l.length≤maxLen∧∀a0∈l,a0.length≤maxLen∧∀a1∈a0,a1.length≤maxLen∧∀a2∈a1,zl0 .i64 a2):=zrz (by kernel_rfl) (by kernel_rfl) zEL
theorem zEN:zrv prog 151 Tf zrI:=zrE (fs:=[(3,0),(4,1),(3,2),(29,3),(29,4),(78,5)]) (by kernel_rfl) (by kernel_rfl) (zrD (α:=Int) (ok:=zl0 .i64) (k:=1) op3 (by kernel_rfl) rfl (zrD (α:=Bool) (ok:=(fun _=>True)) (k:=1) op4 (by kernel_rfl) rfl (zrD (α:=Int) (ok:=zl0 .i64) (k:=1) op3 (by kernel_rfl) rfl (zrD (α:=List Int) (ok:=(fun l=>l.length≤maxLen∧∀a0∈l,zl0 .i64 a0)) (k:=1) zEK (by kernel_rfl) rfl (zrD (α:=List Int) (ok:=(fun l=>l.length≤maxLen∧∀a0∈l,zl0 .i64 a0)) (k:=1) zEK (by kernel_rfl) rfl (zrD (α:=List (List (List Int))) (ok:=(fun l=>l.length≤maxLen∧∀a0∈l,a0.length≤maxLen∧∀a1∈a0,a1.length≤maxLen∧∀a2∈a1,zl0 .i64 a2)) (k:=1) zEM (by kernel_rfl) rfl zrC)))))) (by kernel_rfl) fun m vs h=>by
 obtain⟨a0,c0,r0,m0,h0,p0,k0,s0,⟨a1,c1,r1,m1,h1,p1,k1,s1,⟨a2,c2,r2,m2,h2,p2,k2,s2,⟨a3,c3,r3,m3,h3,p3,k3,s3,⟨a4,c4,r4,m4,h4,p4,k4,s4,⟨a5,c5,r5,m5,h5,p5,k5,s5,rfl⟩⟩⟩⟩⟩⟩:=h;have p0:c0=[.int .i64 a0]:=p0; subst p0;have p1:c1=[.bool a1]:=p1; subst p1;have p2:c2=[.int .i64 a2]:=p2; subst p2;obtain⟨d3,rfl,p3⟩:=p3;obtain⟨d4,rfl,p4⟩:=p4;obtain⟨d5,rfl,p5⟩:=p5;subst h5 h4 h3 h2 h1 h0;exact⟨⟨a0,a1,a2,a3,a4,a5⟩,⟨_,_,_,rfl,p3,p4,p5⟩,⟨k0,k1,k2,k3,k4,k5⟩⟩
theorem zEO:zrv prog 22 (List Tf) (fun l=>l.length≤maxLen∧∀a0∈l,zrI a0):=zrz (by kernel_rfl) (by kernel_rfl) zEN
theorem zEP:zrv prog 58 Rg zrG:=zrE (fs:=[(3,0),(3,1)]) (by kernel_rfl) (by kernel_rfl) (zrD (α:=Int) (ok:=zl0 .i64) (k:=1) op3 (by kernel_rfl) rfl (zrD (α:=Int) (ok:=zl0 .i64) (k:=1) op3 (by kernel_rfl) rfl zrC)) (by kernel_rfl) fun m vs h=>by
 obtain⟨a0,c0,r0,m0,h0,p0,k0,s0,⟨a1,c1,r1,m1,h1,p1,k1,s1,rfl⟩⟩:=h;have p0:c0=[.int .i64 a0]:=p0; subst p0;have p1:c1=[.int .i64 a1]:=p1; subst p1;subst h1 h0;exact⟨⟨a0,a1⟩,rfl,⟨k0,k1⟩⟩
theorem zEQ:zrv prog 60 Fld zrL:=zrE (fs:=[(3,0),(3,1),(3,2),(58,3),(58,5),(58,7)]) (by kernel_rfl) (by kernel_rfl) (zrD (α:=Int) (ok:=zl0 .i64) (k:=1) op3 (by kernel_rfl) rfl (zrD (α:=Int) (ok:=zl0 .i64) (k:=1) op3 (by kernel_rfl) rfl (zrD (α:=Int) (ok:=zl0 .i64) (k:=1) op3 (by kernel_rfl) rfl (zrD (α:=Rg) (ok:=zrG) (k:=2) zEP (by kernel_rfl) rfl (zrD (α:=Rg) (ok:=zrG) (k:=2) zEP (by kernel_rfl) rfl (zrD (α:=Rg) (ok:=zrG) (k:=2) zEP (by kernel_rfl) rfl zrC)))))) (by kernel_rfl) fun m vs h=>by
 obtain⟨a0,c0,r0,m0,h0,p0,k0,s0,⟨a1,c1,r1,m1,h1,p1,k1,s1,⟨a2,c2,r2,m2,h2,p2,k2,s2,⟨a3,c3,r3,m3,h3,p3,k3,s3,⟨a4,c4,r4,m4,h4,p4,k4,s4,⟨a5,c5,r5,m5,h5,p5,k5,s5,rfl⟩⟩⟩⟩⟩⟩:=h;have p0:c0=[.int .i64 a0]:=p0; subst p0;have p1:c1=[.int .i64 a1]:=p1; subst p1;have p2:c2=[.int .i64 a2]:=p2; subst p2;have p3:c3=[.int .i64 a3.Lo,.int .i64 a3.Hi]:=p3; subst p3;have p4:c4=[.int .i64 a4.Lo,.int .i64 a4.Hi]:=p4; subst p4;have p5:c5=[.int .i64 a5.Lo,.int .i64 a5.Hi]:=p5; subst p5;subst h5 h4 h3 h2 h1 h0;exact⟨⟨a0,a1,a2,a3,a4,a5⟩,rfl,⟨k0,k1,k2,k3,k4,k5⟩⟩
theorem zER:zrv prog 23 (List Fld) (fun l=>l.length≤maxLen∧∀a0∈l,zrL a0):=zrz (by kernel_rfl) (by kernel_rfl) zEQ
theorem zES:zrv prog 25 Cse zrN:=zrE (fs:=[(22,0),(3,1),(3,2),(23,3)]) (by kernel_rfl) (by kernel_rfl) (zrD (α:=List Tf) (ok:=(fun l=>l.length≤maxLen∧∀a0∈l,zrI a0)) (k:=1) zEO (by kernel_rfl) rfl (zrD (α:=Int) (ok:=zl0 .i64) (k:=1) op3 (by kernel_rfl) rfl (zrD (α:=Int) (ok:=zl0 .i64) (k:=1) op3 (by kernel_rfl) rfl (zrD (α:=List Fld) (ok:=(fun l=>l.length≤maxLen∧∀a0∈l,zrL a0)) (k:=1) zER (by kernel_rfl) rfl zrC)))) (by kernel_rfl) fun m vs h=>by
 obtain⟨a0,c0,r0,m0,h0,p0,k0,s0,⟨a1,c1,r1,m1,h1,p1,k1,s1,⟨a2,c2,r2,m2,h2,p2,k2,s2,⟨a3,c3,r3,m3,h3,p3,k3,s3,rfl⟩⟩⟩⟩:=h;obtain⟨d0,rfl,p0⟩:=p0;have p1:c1=[.int .i64 a1]:=p1; subst p1;have p2:c2=[.int .i64 a2]:=p2; subst p2;obtain⟨d3,rfl,p3⟩:=p3;subst h3 h2 h1 h0;exact⟨⟨a0,a1,a2,a3⟩,⟨_,_,rfl,p0,p3⟩,⟨k0,k1,k2,k3⟩⟩
theorem zET:zrv prog 86 Thr zrO:=zrE (fs:=[(3,0),(3,1),(3,2)]) (by kernel_rfl) (by kernel_rfl) (zrD (α:=Int) (ok:=zl0 .i64) (k:=1) op3 (by kernel_rfl) rfl (zrD (α:=Int) (ok:=zl0 .i64) (k:=1) op3 (by kernel_rfl) rfl (zrD (α:=Int) (ok:=zl0 .i64) (k:=1) op3 (by kernel_rfl) rfl zrC))) (by kernel_rfl) fun m vs h=>by
 obtain⟨a0,c0,r0,m0,h0,p0,k0,s0,⟨a1,c1,r1,m1,h1,p1,k1,s1,⟨a2,c2,r2,m2,h2,p2,k2,s2,rfl⟩⟩⟩:=h;have p0:c0=[.int .i64 a0]:=p0; subst p0;have p1:c1=[.int .i64 a1]:=p1; subst p1;have p2:c2=[.int .i64 a2]:=p2; subst p2;subst h2 h1 h0;exact⟨⟨a0,a1,a2⟩,rfl,⟨k0,k1,k2⟩⟩
theorem zEU:zrv prog 26 (List Thr) (fun l=>l.length≤maxLen∧∀a0∈l,zrO a0):=zrz (by kernel_rfl) (by kernel_rfl) zET
theorem zEV:laidOutB prog=true:=by kernel_rfl
theorem zEW:ownKnob prog.godebug=none:=by kernel_rfl
theorem zEX(os:Os)(started:os.Started)(H:Type)(enc:TypeId × Value→H) :
    ReturnsInHanded {} Tryz.checked os 3 .any (Rows.umpirePlaysSpec.pre6 enc Tryz.prog Tryz.f3 Rows.umpirePlaysRow.domain false) (Rows.umpirePlaysSpec.post enc Tryz.prog Tryz.f3 false true false false):=by
  refine returnsInHanded_of_change (C:=Tryz.checked) zEW started (by kernel_rfl) Tryz.func3
    (ChangeSpec.witness6 (enc:=enc) (C:=Tryz.checked) false ⟨#[],#[.agg #[.slice none 0 0,.int .i64 0,.int .i64 0,.slice none 0 0],.slice none 0 0,.int .i64 0],[]⟩ 8 (by kernel_rfl) (by kernel_rfl) (by kernel_rfl) (by kernel_rfl)) ?_
  intro W base args ds gs before hval0 hW hcnd _;have hval:∀(j:Nat) t v,Tryz.f3.params[j]? = some t→args[j]? = some v→Value.okWide Tryz.prog W .any base t v:=hval0;have hW':=hW;obtain⟨p,q,hA0,hV,rfl,hfz,hnd⟩:=hW;have hA:DataW.TrodAll enc Tryz.prog W 0 (fun _=>true) true Tryz.f3.params.toList args.toList ds p:=hA0;rw[Tryz.params3] at hA hval;obtain⟨v0,v1,v2,d0,d1,d2,p0,p1,p2,rfl,rfl,rfl,h0,h1,h2⟩:=trodAll_three hA;obtain⟨rfl,rfl⟩:=trodVars_none hV;obtain⟨a1,len1,cap1,hv1⟩:=okWide_slice Tryz.underlying26 (hval 1 26 v1 rfl rfl);obtain⟨n2,hv2⟩:=okWide_int Tryz.underlying3 (hval 2 3 v2 rfl rfl)
  have hlt:∀x∈p0++p1++p2,x.block < W.heap.size:=fun x hx=>by simpa using hW'.lt x (by simpa using hx)
  obtain⟨fu0,hf0⟩:=id h0;obtain⟨fu1,hf1⟩:=id h1;obtain⟨fu2,hf2⟩:=id h2
  clear hA0 hval0
  obtain⟨e0,m0,w0,a_0,le0,sv0,lay0,cr0,rep0,ok0⟩:=zES H enc W true _ _ _ hf0 _ _ (Lay.nil W);obtain⟨e1,m1,w1,a_1,le1,sv1,lay1,cr1,rep1,ok1⟩:=zEU H enc W true _ _ _ hf1 e0 m0 lay0;obtain⟨e2,m2,w2,a_2,le2,sv2,lay2,cr2,rep2,ok2⟩:=op3 H enc W true _ _ _ hf2 e1 m1 lay1;obtain⟨c0_0,c0_3,rfl,g0_0,g0_3⟩:=rep0
  obtain⟨cs0,hv0,cl0⟩:∃cs,v0=.agg cs∧v0.cells.toList=cs.toList:=by
    have hl:=cr0.length
    cases v0 with
    | agg cs=>exact⟨cs,rfl,rfl⟩
    | _=>exact absurd hl (by simp[Value.cells])
  subst hv0;subst hv1;obtain⟨c1,rfl,rep1⟩:=rep1
  have cv1:CR e2 c1 (.slice a1 len1 cap1):=by
    cases cr1 with
    | cons h _=>exact CR.mono le2 h
  have rep2:w2=[.int .i64 a_2]:=rep2;subst rep2 hv2
  have ha2:n2=a_2:=by
    cases cr2 with
    | cons h _=>have h:Value.int .i64 n2=.int .i64 a_2:=h; cases h; rfl
  subst ha2;have hargs:zen (VR e2) [.agg 4 [c0_0,.int .i64 a_0.Day,.int .i64 a_0.Fee,c0_3],.c c1,.c (.int .i64 n2)] [.agg cs0,.slice a1 len1 cap1,.int .i64 n2]:=.cons ⟨cs0,rfl,(cr0.mono fun _ _=>CR.mono (le1.trans le2)),rfl⟩ (.cons cv1 (.cons rfl .nil));refine(callsIn_wide.1 (zqr fits htab (zBy (c:=a_0) (t:=a_1) (pence:=n2) lay2.pre ((g0_0.subv sv1).subv sv2) ((g0_3.subv sv1).subv sv2) (rep1.subv sv2) (zEJ ok0 ok1 ok2) (Q:=fun v _=>v=.c (.bool true)) fun _ _=>rfl) lay2.hr (args':=#[.agg cs0,.slice a1 len1 cap1,.int .i64 n2]) hargs 0)).mono fun en W' hp=>?_;obtain⟨v,v',e',m',rfl,hst,hvr,rfl⟩:=hp;have hv':v'=.bool true:=hvr;subst hv';have hbelow:=lay2.below hst
  refine⟨_,rfl,[d0,d1,d2],[],p0++p1++p2,[],p0++(p1++p2),[],by simpa using hW',trodAll_mk1 (shut_bool Tryz.underlying4 _),
    trodAll_mk3 (Below.trod zEV (by kernel_rfl) (of_decide_eq_true (by kernel_rfl)) h0 hbelow fun x hx=>hlt x (by simp[hx])) (Below.trod zEV (by kernel_rfl) (of_decide_eq_true (by kernel_rfl)) h1 hbelow fun x hx=>hlt x (by simp[hx])) (Below.trod zEV (by kernel_rfl) (of_decide_eq_true (by kernel_rfl)) h2 hbelow fun x hx=>hlt x (by simp[hx])),rfl,lay2.kept hst _,fun hc=>by cases hc⟩
theorem UmpirePlays_holds:Rows.UmpirePlaysSaid:=
 OpenClaim.holds_of_wide 3 Tryz.f3 rfl rfl rfl rfl rfl rfl rfl ⟨rfl,rfl,rfl,rfl,rfl⟩ rfl rfl rfl rfl rfl (by kernel_rfl) Tryz.func3 (by kernel_rfl)
  (of_decide_eq_true (by kernel_rfl)) (by unfold Func.isWrapper; first | (rw[if_pos (by decide +kernel)]; kernel_rfl) | (rw[if_neg (by decide +kernel)]; exact⟨rfl,rfl⟩))
  (fun os started H enc _=>zEX os started H enc)
end Go.Proofs.YteojndcmgpiklaaGreat

