/- UmpireIdle, for all that it can be called with, returns true. Condition: none. -/
import Derived.Test.YteojndcmgpiklaaGreatUdJ
import GoSem.Step
import GoSem.ClaimKeys
import Derived.DeepKeys2
import Derived.RangeFuncLeaves
import Derived.OrdersIn
import Derived.Laws.World
import Derived.Laws.Sem
import Derived.RangeFuncRecord
import Derived.Laws.CopyRow
import Derived.Laws.Append
import Derived.Laws.Rows
import Derived.Laws.Slices
import Derived.Laws.Entries
import Derived.ChangeKeysEq
import Derived.IntWalk
import Derived.DeepKeys
import Derived.DeepKeys3
import Derived.Laws.StructEq
import Derived.MapKept
import Derived.Laws.AppendOwn
import Derived.ChangeArms
import Derived.ChangeOld
import Derived.Carry
import Derived.ChangeShapes
import Derived.KernelRfl
import Derived.ProofKit
import Derived.Test.YteojndcmgpiklaaGreatRows

namespace Go.Proofs.YteojndcmgpiklaaGreat
open _root_.Go.Proofs.Tryz
open Go.Abs
set_option maxRecDepth 100000
noncomputable section
def befU:List Int→List Int→Bool
 | x::a,y::b=>if x=y then befU a b else decide (x < y)
 | [],_::_=>true
 | _,[]=>false
theorem zDs:∀{a b:List Int},a.length=b.length→befU a b=false→befU b a=false→a=b
 | [],[],_,_,_=>rfl
 | x::a,y::b,hl,h1,h2=>by
  simp only[befU] at h1 h2
  by_cases he:x=y
  ·subst he;rw[if_pos rfl] at h1 h2;rw[zDs (Nat.succ.inj hl) h1 h2]
  ·rw[if_neg he] at h1;rw[if_neg fun h=>he h.symm] at h2;have:=of_decide_eq_false h1;have:=of_decide_eq_false h2
   omega
theorem zDt:∀{a:List Int},befU a a=false
 | []=>rfl
 | x::a=>by simp only[befU]; rw[if_pos trivial]; exact zDt
theorem zDu{a b:List Int}(hl:a.length≤1000):∀(d k:Nat),k≤a.length→a.length - k < d→zrY a b d (k:Int)=some (befU (a.drop k) (b.drop k))
 | 0,_,_,h=>by omega
 | d+1,k,hk,h=>by
  rw[zrY]
  by_cases hka:k < a.length
  ·rw[if_pos (by omega)];have da:=List.drop_eq_getElem_cons hka;have ga:=List.getElem?_eq_getElem hka
   by_cases hkb:k < b.length
   ·have db:=List.drop_eq_getElem_cons hkb;have gb:=List.getElem?_eq_getElem hkb;rw[if_pos (by omega),zq1 ga,obs,zq1 gb,obs,da,db];unfold befU
    by_cases he:a[k]=b[k]
    ·rw[if_pos he,if_pos he,zqe (fI (by omega)),show(k:Int)+1=((k+1:Nat):Int) by omega];exact zDu hl d (k+1) (by omega) (by omega)
    ·rw[if_neg he,if_neg he,obs,obs]
   ·rw[if_neg (by omega),da,List.drop_eq_nil_of_le (show b.length≤k by omega),decide_eq_false (by omega)]; rfl
  ·rw[if_neg (by omega),List.drop_eq_nil_of_le (show a.length≤k by omega)]
   by_cases hkb:k < b.length
   ·rw[List.drop_eq_getElem_cons hkb,decide_eq_true (by omega)]; rfl
   ·rw[List.drop_eq_nil_of_le (show b.length≤k by omega),decide_eq_false (by omega)]; rfl
theorem zDv{a b:List Int}(hl:a.length≤1000):zrZ a b=some (befU a b):=zDu hl (a.length+1) 0 (Nat.zero_le _) (by omega)
theorem zDw{a b:List Int}(ha:a.length≤1000):Ev (zr0 a b) (a=b):=by
 unfold zr0
 by_cases hl:a.length=b.length
 ·rw[if_pos (by omega),zDv ha,obs]
  cases h1:befU a b with
  | true=>
   rw[if_pos rfl]
   exact Ev.ff fun he=>by subst he; rw[zDt] at h1; cases h1
  | false=>
   rw[if_neg (by simp),zDv (by omega),obs];refine Ev.mk' ?_
   cases h2:befU b a with
   | true=>exact⟨fun h=>(by cases h),fun he=>(by subst he; rw[zDt] at h2; cases h2)⟩
   | false=>exact⟨fun _=>zDs hl h1 h2,fun _=>rfl⟩
 ·rw[if_neg (by omega)];exact Ev.ff fun he=>hl (by rw[he])
theorem zDx{a b:Res}(ha:a.Counts.length≤1000):Ev (zuy a b) (a=b):=by
 refine(Ev.and (zDw ha) fun _=>Ev.ite fun _=>Ev.ite fun _=>Ev.dec Iff.rfl).imp ?_;obtain⟨a1,a2,a3,a4⟩:=a;obtain⟨b1,b2,b3,b4⟩:=b
 simp
def tfU:Tf:=⟨0,true,0,[0],[0,100],[[[0,100]]]⟩
def fA:Fld:=⟨0,1000,4,⟨40,41⟩,⟨30,30⟩,⟨33,36⟩⟩
def fB:Fld:=⟨0,200,4,⟨20,20⟩,⟨17,18⟩,⟨0,4⟩⟩
def zDy:Cse:=⟨[tfU],10,31,[fA,fB]⟩
theorem zDz:zuA=some zDy:=rfl
theorem zDA{α:Type}{a:α}{P:α→Prop}(h:P a):∀x∈[a],P x:=fun x hx=>by rw[List.mem_singleton.1 hx]; exact h
theorem zDB:zzc [tfU]=0:=by
 refine zzd.2 ⟨?_,⟨by simp,zDA ⟨by decide,by decide,⟨by simp[tfU],rfl,by simp[tfU]⟩,⟨by simp[tfU],rfl,by simp[tfU]⟩,rfl,by simp[tfU],zDA ⟨rfl,zDA ⟨rfl,by simp⟩⟩⟩,by simp,rfl,zDA rfl⟩⟩
 rintro (h | ⟨t,ht,h⟩)
 ·simp at h
 ·rw[List.mem_singleton.1 ht] at h;unfold zza at h
  simp[tfU] at h
theorem zDC:zBe zDy:=by
 refine⟨zDB,by decide,by decide,by decide,fun f hf=>?_⟩
 rcases List.mem_cons.1 hf with rfl | hf
 ·exact⟨by decide,by decide,by decide,⟨by decide,by decide,by decide,by decide⟩,⟨by decide,by decide,by decide,by decide⟩,⟨by decide,by decide,by decide,by decide⟩⟩
 ·rw[List.mem_singleton.1 hf];exact⟨by decide,by decide,by decide,⟨by decide,by decide,by decide,by decide⟩,⟨by decide,by decide,by decide,by decide⟩,⟨by decide,by decide,by decide,by decide⟩⟩
theorem zDD{P:List Thr→Prop}(h:∀a∈zBP fA,∀b∈zBP fB,P [a,b]):∀ts,zCl zDy.Fields ts→P ts:=by
 intro ts ht
 match ts,ht with
 | [a,b],ht=>exact h a ((zBS (zDC.fld fA (by simp[zDy]))).2 ht.1) b ((zBS (zDC.fld fB (by simp[zDy]))).2 ht.2.1)
 | [],ht=>exact ht.elim
 | [_],ht=>exact ht.2.elim
 | _::_::_::_,ht=>exact ht.2.2.elim
theorem zDE{a b:Thr}(ha:a∈zBP fA)(hb:b∈zBP fB):zCl zDy.Fields [a,b]:=⟨(zBS (zDC.fld fA (by simp[zDy]))).1 ha,(zBS (zDC.fld fB (by simp[zDy]))).1 hb,trivial⟩
theorem zDF{q:Ver→Int}{r:Rg}(h:zCL zDy q r){lo:Int}(hb:∀a∈zBP fA,∀b∈zBP fB,lo≤q (zCs zDy [a,b]))(hlo:∃a∈zBP fA,∃b∈zBP fB,q (zCs zDy [a,b])=lo):r.Lo=lo:=by
 obtain⟨t1,h1,h2⟩:=h.lo;obtain⟨a,ha,b,hb',e1⟩:=hlo;have k1:=h.all _ (zDE ha hb');have k3:=zDD (P:=fun ts=>lo≤q (zCs zDy ts)) hb t1 h1
 omega
theorem zDG{q:Ver→Int}{r:Rg}(h:zCL zDy q r){hi:Int}(hb:∀a∈zBP fA,∀b∈zBP fB,q (zCs zDy [a,b])≤hi)(hhi:∃a∈zBP fA,∃b∈zBP fB,q (zCs zDy [a,b])=hi):r.Hi=hi:=by
 obtain⟨t1,h1,h2⟩:=h.hi;obtain⟨a,ha,b,hb',e1⟩:=hhi;have k1:=h.all _ (zDE ha hb');have k3:=zDD (P:=fun ts=>q (zCs zDy ts)≤hi) hb t1 h1
 omega
theorem zDH:zuX=some true:=by
 obtain⟨a,ha,ea⟩:=zCO zDC;obtain⟨x,y,hx,ex,ey⟩:=zCP zDC;obtain⟨n,o,ho,en,eo⟩:=zCS zDC;have a1:a.Lo=366:=zDF ea (by decide) (by decide);have a2:a.Hi=398:=zDG ea (by decide) (by decide);have x1:x.Lo=0:=zDF ex (by decide) (by decide);have x2:x.Hi=31:=zDG ex (by decide) (by decide);have y1:y.Lo=0:=zDF ey (by decide) (by decide);have y2:y.Hi=31:=zDG ey (by decide) (by decide);have n1:n.Lo=335:=zDF en (by decide) (by decide);have o2:o.Hi=429:=zDG eo (by decide) (by decide)
 have hP:zum zDy [⟨40,30,35⟩,⟨20,17,0⟩]=some (⟨[35,18],386,16,15⟩,0):=by
  have i1:(⟨40,30,35⟩:Thr)∈zBP fA:=(zBS (zDC.fld fA (by simp[zDy]))).2 ⟨by decide,by decide,by decide⟩;have i2:(⟨20,17,0⟩:Thr)∈zBP fB:=(zBS (zDC.fld fB (by simp[zDy]))).2 ⟨by decide,by decide,by decide⟩;rw[zCy zDC (zDE i1 i2)];refine congrArg (fun r=>some (r,(0:Int))) ?_
  have r1:(zCt zDy [⟨40,30,35⟩,⟨20,17,0⟩]).Counts=[35,18]:=by decide
  have r2:(zCt zDy [⟨40,30,35⟩,⟨20,17,0⟩]).Award=386:=by decide
  have r3:(zCt zDy [⟨40,30,35⟩,⟨20,17,0⟩]).Farmer=16:=by decide
  have r4:(zCt zDy [⟨40,30,35⟩,⟨20,17,0⟩]).Society=15:=by decide
  generalize zCt zDy [⟨40,30,35⟩,⟨20,17,0⟩]=R at r1 r2 r3 r4;obtain⟨_,_,_,_⟩:=R
  dsimp only at r1 r2 r3 r4
  subst_vars; rfl
 have hC:zun zDy (0:Int)=some ([33,34,35,36],0):=by
  rw[show zun zDy (0:Int)=_ from zDb zDC (k:=0) (f:=fA) rfl];exact congrArg (fun r=>some (r,(0:Int))) (by decide)
 have hD:zuo zDy (1:Int)=some (2,0):=by
  rw[show zuo zDy (1:Int)=_ from zDf zDC (k:=1) (f:=fB) rfl];exact congrArg (fun r=>some (r,(0:Int))) (by decide)
 have hM:zup zDy=some ([0],0):=by
  rw[zDr zDC];exact congrArg (fun r=>some (r,(0:Int))) (by decide)
 have fz:∀n:Int,0≤n∧n≤1000→zl0 .i64 n:=fun n h=>fI (by omega);unfold zuX;rw[zDz,obs,show zuB 40 35 17=some [⟨40,30,35⟩,⟨20,17,0⟩] from rfl,obs,hP,obs,obs,hC,obs,obs,hD,obs,obs,ha,obs,obs,hx,obs,obs,ho,obs,obs,hM,obs];rw[if_pos rfl,(zDx (by decide)).some_of rfl,obs,if_pos rfl,if_pos rfl,(zDw (by decide)).some_of rfl,obs,if_pos rfl,if_pos rfl,if_pos rfl,if_pos rfl]
 show Go.Abs.gd _ _=_
 dsimp only
 rw[a1,a2,x1,x2,y1,y2,n1,o2];rw[zqe (fz _ (by omega)),zqe (fz _ (by omega)),zqe (fz _ (by omega)),zqe (fz _ (by omega)),if_pos rfl,if_pos rfl]
 show Go.Abs.gd _ _=_
 dsimp only
 rw[zqe (fz _ (by omega)),zqe (fz _ (by omega)),zqe (fz _ (by omega)),zqe (fz _ (by omega)),if_pos rfl,zqe (fz _ (by omega)),zqe (fz _ (by omega)),zqe (fz _ (by omega)),zqe (fz _ (by omega)),if_pos (by decide),if_pos (by decide)]
 show Go.Abs.gd _ _=_
 dsimp only
 rw[zqe (fz _ (by omega)),zqe (fz _ (by omega)),zqe (fz _ (by omega)),zqe (fz _ (by omega)),if_pos (by decide),(zDw (by decide)).some_of rfl]; rfl
def OkC(c:Cse):Prop:=zrJ c
theorem zDI{l:List Int}{n:Int}(hl:l.length≤1000):Ev (zuE l n) (n∈l):=by
 have key:∀(d k:Nat),k≤l.length→l.length - k < d→Ev (zuD l n d (k:Int)) (n∈l.drop k):=by
  intro d
  induction d with
  | zero=>intro k _ h; omega
  | succ d ih=>
   intro k hk h;rw[zuD]
   by_cases hkl:k < l.length
   ·obtain⟨a,h1,h2⟩:=zCn hkl;rw[if_pos (by omega),zq1 h1,obs,h2]
    by_cases he:a=n
    ·rw[if_pos he]; exact Ev.tt (he ▸ List.mem_cons_self ..)
    ·rw[if_neg he,zqe (fI (by omega)),show(k:Int)+1=((k+1:Nat):Int) by omega];exact(ih (k+1) hkl (by omega)).imp ⟨List.mem_cons_of_mem _,fun h=>(List.mem_cons.1 h).elim (fun h=>absurd h.symm he) id⟩
   ·rw[if_neg (by omega),List.drop_eq_nil_of_le (by omega)]
    exact Ev.ff fun h=>by cases h
 exact key (l.length+1) 0 (by omega) (by omega)
def zDJ(c:Cse)(k:Nat)(f:Fld):Cse:=⟨c.Tariffs,c.Day,c.Fee,c.Fields.set k f⟩
theorem zDK{c:Cse}(hc:zBe c){k:Nat}{f:Fld}(hf:zBd c.Tariffs f):zBe (zDJ c k f):=
 ⟨hc.tar,by show(c.Fields.set k f).length≤3; rw[List.length_set]; exact hc.len,hc.day,hc.fee,fun x hx=>(List.mem_or_eq_of_mem_set hx).elim (hc.fld x) fun h=>h ▸ hf⟩
theorem zDL{c:Cse}{k:Nat}(hk:k < c.Fields.length){f:Fld}:(zDJ c k f).Fields[k]? = some f:=by
 show(c.Fields.set k f)[k]? = _
 rw[List.getElem?_set_self hk]
theorem zDM{c:Cse}(hc:zBe c):zuZ c=some ⟨c.Tariffs,c.Day,c.Fee,c.Fields⟩:=by
 have:=hc.len;unfold zuZ;rw[zqe (by simp; omega)]; rfl
theorem zDN{c:Cse}(hc:zBe c)(hth:zzY c.Tariffs){k:Nat}{f:Fld}:zuv (zDJ c k f)=some (zDJ c k f):=zBB hth (by show(c.Fields.set k f).length≤6; rw[List.length_set]; have:=hc.len; omega)
theorem zDO{c:Cse}{which:Int}(_hw:0≤which∧which < 256)(h0:0 < c.Fields.length):∃(k:Nat) (f:Fld),which % (c.Fields.length:Int)=(k:Int)∧k < c.Fields.length∧c.Fields[k]? = some f:=by
 have h5:=Int.emod_nonneg which (show(c.Fields.length:Int) ≠ 0 by omega);have h6:=Int.emod_lt_of_pos which (show 0 < (c.Fields.length:Int) by omega);exact⟨(which % (c.Fields.length:Int)).toNat,_,by omega,by omega,List.getElem?_eq_getElem (by omega)⟩
theorem zDP{l:List Tf}{f:Fld}(hf:zBd l f):zDc f=2↔∀t,zBC f t→¬ zBF f t:=by
 unfold zDc
 constructor
 ·intro h t ht hc;have hm:=(zBS hf).2 ht
  split at h
  ·omega
  ·rw[if_pos (List.any_eq_true.2 ⟨t,hm,decide_eq_true hc⟩)] at h
   omega
 ·intro h;have hn:=zBT hf;obtain⟨t,ht⟩:=List.exists_mem_of_length_pos hn.1;rw[if_neg fun ha=>h t ((zBS hf).1 ht) (of_decide_eq_true (List.all_eq_true.1 ha t ht)),if_neg];intro ha;obtain⟨u,hu,he⟩:=List.any_eq_true.1 ha;exact h u ((zBS hf).1 hu) (of_decide_eq_true he)
theorem zDQ{l:List Tf}{f:Fld}(hf:zBd l f):zDc f=1↔∀t,zBC f t→zBF f t:=by
 unfold zDc
 constructor
 ·intro h t ht
  split at h
  ·rename_i ha; exact of_decide_eq_true (List.all_eq_true.1 ha t ((zBS hf).2 ht))
  ·split at h <;> omega
 ·intro h;rw[if_pos (List.all_eq_true.2 fun t ht=>decide_eq_true (h t ((zBS hf).1 ht)))]
def zDR(f:Fld)(n:Int):Fld:=⟨f.Crop,f.Value,n,f.First,f.Second,f.Umpire⟩
theorem zDS{l:List Tf}{f:Fld}(hf:zBd l f){n:Int}(hn:0≤n∧n≤100):zBd l (zDR f n):=⟨hf.crop,hf.val,hn,hf.fst,hf.snd,hf.ump⟩
theorem zDT{f:Fld}{n:Int}{t:Thr}:zBC (zDR f n) t↔zBC f t:=⟨fun h=>⟨h.a,h.b,h.u⟩,fun h=>⟨h.a,h.b,h.u⟩⟩
theorem zDU{l:List Tf}{f:Fld}(hf:zBd l f){t:Thr}(ht:zBC f t):¬ zBF (zDR f 100) t:=by
 have hr:=ht.rng hf;have:=hr.a; have:=hr.b;unfold zBF zBE zDR
 dsimp only
 omega
theorem zDV{c:Cse}{more which:Int}(_:OkC c)(hm:zl0 .u8 more)(hw:zl0 .u8 which):zu0 c more which=some true:=by
 have hm:=fU8 hm;have hw:=fU8 hw;unfold zu0
 refine Ev.pick zBz (fun hr=>?_) fun hr=>by rw[zqf rfl,zDH]; rfl
 obtain⟨⟨hth,hl⟩,hc⟩:=hr;have hlen:=hc.len;rw[if_pos rfl]
 by_cases h0:c.Fields.length=0
 ·rw[if_pos (by omega),zDH]; rfl
 obtain⟨k,f,hk,hkl,hat⟩:=zDO hw (show 0 < c.Fields.length by omega);have hf:=hc.fld f (List.mem_of_getElem? hat);have hnr:=hf.near;have h9:=Int.emod_nonneg more (show(9:Int) ≠ 0 by omega);have h9':=Int.emod_lt_of_pos more (show(0:Int) < 9 by omega)
 have hn:0≤min (100:Int) (f.Near+more % 9)∧min (100:Int) (f.Near+more % 9)≤100:=by omega
 have hfx:=zDS hf hn;have hfy:=zDS hf (n:=100) (by omega);rw[if_neg (by omega),wz (fI (by omega)),wz (fI (by omega)),zqe (by omega),zqe (by omega),hk,zqe (fI (by omega)),zDM hc,obs,obs,zq1 hat,obs,zqe (by omega),zqe (by omega),zqe (fI (by omega)),zqe (fI (by omega)),obs,obs,zBB hth hl,obs,zDf hc hat,obs]
 have tn:(k:Int).toNat=k:=by omega
 rw[tn]
 show(zuv (zDJ c k (zDR f (min (100:Int) (f.Near+more % 9))))).bind _=_
 rw[zDN hc hth,obs,zDf (zDK hc hfx) (zDL hkl),obs]
 show(zuv (zDJ c k (zDR f 100))).bind _=_
 rw[zDN hc hth,obs,zDf (zDK hc hfy) (zDL hkl),obs];have e1:zDc (zDR f 100)=2:=(zDP hfy).2 fun t ht=>zDU hf (zDT.1 ht)
 have e2:zDc f=2→zDc (zDR f (min (100:Int) (f.Near+more % 9)))=2:=fun h=>(zDP hfx).2 fun t ht hcal=>(zDP hf).1 h t (zDT.1 ht) (by
  unfold zBF zDR at hcal;unfold zBF
  dsimp only at hcal
  have hr:=(zDT.1 ht).rng hf;have h1:=hr.a; have h2:=hr.b
  unfold zBE at *
  omega)
 have e3:zDc (zDR f (min (100:Int) (f.Near+more % 9)))=1→zDc f=1:=fun h=>(zDQ hf).2 fun t ht=>by
  have hcal:=(zDQ hfx).1 h t (zDT.2 ht);unfold zBF zDR at hcal;unfold zBF
  dsimp only at hcal
  have hr:=ht.rng hf;have h1:=hr.a; have h2:=hr.b
  unfold zBE at *
  omega
 rw[if_pos rfl,if_pos rfl,if_pos rfl,if_pos e1]
 dsimp only
 by_cases u2:zDc f=2
 ·rw[if_pos u2,if_pos (e2 u2),if_neg (by rw[e2 u2]; decide),zDH]; rfl
 ·rw[if_neg u2]
  by_cases v1:zDc (zDR f (min (100:Int) (f.Near+more % 9)))=1
  ·rw[if_pos v1,if_pos (e3 v1),zDH]; rfl
  ·rw[if_neg v1,zDH]; rfl
theorem zDW{c:Cse}{k:Nat}:∀{fs:List Fld} {j:Nat},(k:Int)∈zDo c fs j↔∃i f,fs[i]? = some f∧k=j+i∧zDn c f=true
 | [],j=>by simp[zDo]
 | f::fs,j=>by
  have ih:=zDW (c:=c) (k:=k) (fs:=fs) (j:=j+1)
  have key:((k:Int)∈zDo c (f::fs) j)↔(zDn c f=true∧k=j)∨(k:Int)∈zDo c fs (j+1):=by
   rw[zDo]
   split
   ·rename_i h
    rw[List.mem_cons]
    constructor
    ·rintro (h' | h')
     ·exact .inl ⟨h,by omega⟩
     ·exact .inr h'
    ·rintro (⟨_,h'⟩ | h')
     ·exact .inl (by omega)
     ·exact .inr h'
   ·rename_i h
    exact⟨.inr,fun h'=>h'.elim (fun h'=>absurd h'.1 h) id⟩
  rw[key,ih]
  constructor
  ·rintro (⟨h1,h2⟩ | ⟨i,g,h1,h2,h3⟩)
   ·exact⟨0,f,rfl,by omega,h1⟩
   ·exact⟨i+1,g,by simpa using h1,by omega,h3⟩
  ·rintro⟨i,g,h1,h2,h3⟩
   cases i with
   | zero=>cases h1; exact .inl ⟨h3,by omega⟩
   | succ i=>exact .inr ⟨i,g,by simpa using h1,by omega,h3⟩
theorem zDX{c:Cse}{k:Nat}{f:Fld}(h:c.Fields[k]? = some f):(k:Int)∈zDo c c.Fields 0↔zDn c f=true:=by
 rw[zDW]
 constructor
 ·rintro⟨i,g,h1,h2,h3⟩
  have:i=k:=by omega
  subst this
  rw[h] at h1; cases h1
  exact h3
 ·intro h3; exact⟨k,f,h,by omega,h3⟩
theorem zDY{c:Cse}{l:List Tf}{f:Fld}(hf:zBd l f)(h:∀t t',zBC f t→zBC f t'→t'.First=t.First→t'.Second=t.Second→zBY c f (zBG f t')=zBY c f (zBG f t)):¬ zDn c f=true:=by
 intro hm;unfold zDn at hm;obtain⟨t,ht,he⟩:=List.any_eq_true.1 hm;have ht:=(zBS hf).1 ht;obtain⟨n,hn,hne⟩:=of_decide_eq_true he;obtain⟨t',ht',rfl⟩:=(zC8 (zDh hf ht)).1 hn
 have a1:t'.First=t.First:=by
  have h1:t.First≤t'.First∧t'.First≤t.First:=ht'.a
  omega
 have a2:t'.Second=t.Second:=by
  have h1:t.Second≤t'.Second∧t'.Second≤t.Second:=ht'.b
  omega
 exact hne (h t t' ht ⟨by rw[a1]; exact ht.a,by rw[a2]; exact ht.b,ht'.u⟩ a1 a2)
theorem zDZ{c:Cse}{l:List Tf}{f:Fld}(hf:zBd l f)(h:∀t,zBC f t→¬ zBF f t):¬ zDn c f=true:=
 zDY hf fun t t' ht ht' a1 a2=>by
  unfold zBG;rw[if_neg (h t ht),if_neg (h t' ht'),a1,a2]
theorem zD0{c:Cse}:∀{fs:List Fld} {j:Nat},(zDo c fs j).length≤fs.length
 | [],_=>by simp[zDo]
 | f::fs,j=>by
  have:=zD0 (c:=c) (fs:=fs) (j:=j+1);rw[zDo]
  split <;> simp <;> omega
theorem zD1{c:Cse}(hc:zBe c)(hth:zzY c.Tariffs){k:Nat}{f g:Fld}(hkl:k < c.Fields.length)(hat:c.Fields[k]? = some f)(hg:zBd c.Tariffs g)(hno:¬ zDn (zDJ c k g) g=true) :
  ((zuv (zDJ c k g)).bind fun r635=>((zup r635).bind fun r649=>((zuv c).bind fun r660=>((zup r660).bind fun r673=>((zuv c).bind fun r684=>((zuo r684 (k:Int)).bind fun r697=>(if r649.2=(0:Int) then (if r673.2=(0:Int) then (if r697.2=(0:Int) then ((zuE r649.1 (k:Int)).bind fun r708=>(if r708=true then (some false) else (if r697.1=(2:Int) then ((zuE r673.1 (k:Int)).bind fun r726=>(if r726=true then (some false) else ((zuX).bind fun r735=>(some r735)))) else ((zuX).bind fun r718=>(some r718))))) else (some false)) else (some false)) else (some false))))))))=some true:=by
 have hf:=hc.fld f (List.mem_of_getElem? hat);have hlen:=hc.len;have l1:=zD0 (c:=c) (fs:=c.Fields) (j:=0);have l2:=zD0 (c:=zDJ c k g) (fs:=(zDJ c k g).Fields) (j:=0);have l3:(zDJ c k g).Fields.length≤3:=(zDK hc hg).len;rw[zDN hc hth,obs,zDr (zDK hc hg),obs,zBB hth (by omega),obs,zDr hc,obs,obs,zDf hc hat,obs,if_pos rfl,if_pos rfl,if_pos rfl]
 dsimp only
 rw[(zDI (by omega)).some_not fun h=>hno ((zDX (zDL hkl)).1 h),obs,if_neg (by simp)]
 by_cases h2:zDc f=2
 ·rw[if_pos h2,(zDI (by omega)).some_not fun h=>zDZ hf ((zDP hf).1 h2) ((zDX hat).1 h),obs,if_neg (by simp),zDH]; rfl
 ·rw[if_neg h2,zDH]; rfl
theorem zD2{c:Cse}{which how:Int}(_:OkC c)(hw:zl0 .u8 which)(hh:zl0 .u8 how):zu1 c which how=some true:=by
 have hw:=fU8 hw;have hh:=fU8 hh;unfold zu1
 refine Ev.pick zBz (fun hr=>?_) fun hr=>by rw[zqf rfl,zDH]; rfl
 obtain⟨⟨hth,hl⟩,hc⟩:=hr;have hlen:=hc.len;rw[if_pos rfl]
 by_cases h0:c.Fields.length=0
 ·rw[if_pos (by omega),zDH]; rfl
 obtain⟨k,f,hk,hkl,hat⟩:=zDO hw (show 0 < c.Fields.length by omega);have hf:=hc.fld f (List.mem_of_getElem? hat);have h3:=Int.emod_nonneg how (show(3:Int) ≠ 0 by omega);have h3':=Int.emod_lt_of_pos how (show(0:Int) < 3 by omega)
 have tn:(k:Int).toNat=k:=by omega
 rw[if_neg (by omega),wz (fI (by omega)),zqe (by omega),zqe (by omega),hk,zqe (fI (by omega)),zDM hc,obs]
 dsimp only
 rw[zq1 hat,obs,zqe (by omega),zqe (by omega),zqe (show zl0 .u8 _ from ⟨by omega,by show how % 3 < 256; omega⟩),tn]
 by_cases c0:how % 3=0
 ·rw[if_pos c0];refine zD1 hc hth (f:=f) (g:=zDR f 100) hkl hat (zDS hf (by omega)) (zDZ (zDS hf (by omega)) fun t ht=>zDU hf (zDT.1 ht))
 ·rw[if_neg c0]
  by_cases c1:how % 3=1
  ·rw[if_pos c1];have hu:=hf.ump;have hg:zBd c.Tariffs ⟨f.Crop,f.Value,f.Near,f.First,f.Second,⟨f.Umpire.Lo,f.Umpire.Lo⟩⟩:=⟨hf.crop,hf.val,hf.near,hf.fst,hf.snd,⟨hu.lo,Int.le_refl _,by have:=hu.le; have:=hu.hi; dsimp only; omega,by dsimp only; omega⟩⟩;refine zD1 hc hth (f:=f) (g:=⟨f.Crop,f.Value,f.Near,f.First,f.Second,⟨f.Umpire.Lo,f.Umpire.Lo⟩⟩) hkl hat hg (zDY hg fun t t' ht ht' a1 a2=>?_)
   have a3:t'.Umpire=t.Umpire:=by
    have h1:f.Umpire.Lo≤t.Umpire∧t.Umpire≤f.Umpire.Lo:=ht.u;have h2:f.Umpire.Lo≤t'.Umpire∧t'.Umpire≤f.Umpire.Lo:=ht'.u
    omega
   have:t'=t:=by
    obtain⟨x1,x2,x3⟩:=t;obtain⟨y1,y2,y3⟩:=t'
    dsimp only at a1 a2 a3
    rw[a1,a2,a3]
   rw[this]
  ·rw[if_neg c1];have hg:zBd c.Tariffs ⟨f.Crop,0,f.Near,f.First,f.Second,f.Umpire⟩:=⟨hf.crop,by dsimp only; omega,hf.near,hf.fst,hf.snd,hf.ump⟩;refine zD1 hc hth (f:=f) (g:=⟨f.Crop,0,f.Near,f.First,f.Second,f.Umpire⟩) hkl hat hg (zDY hg fun t t' ht ht' a1 a2=>?_);unfold zBY
   simp
end
end Go.Proofs.YteojndcmgpiklaaGreat

namespace Go.Proofs.YteojndcmgpiklaaGreat
open _root_.Go.Proofs.Tryz
open Go.ChangeShapes Go.WideShapes Go.ChangeAt Go.RowKit Go.Abs
set_option maxRecDepth 100000
theorem op3:zrr prog 3 Int (zl0 .i64):=zrs (by kernel_rfl)
theorem op4:zrr prog 4 Bool (fun _=>True):=zrt (by kernel_rfl)
theorem zD3:zrr prog 29 (List Int) (fun l=>l.length≤maxLen∧∀a0∈l,zl0 .i64 a0):=zrv (by kernel_rfl) (by kernel_rfl) op3
theorem zD4:zrr prog 140 (List (List Int)) (fun l=>l.length≤maxLen∧∀a0∈l,a0.length≤maxLen∧∀a1∈a0,zl0 .i64 a1):=zrv (by kernel_rfl) (by kernel_rfl) zD3
theorem zD5:zrr prog 78 (List (List (List Int))) (fun l=>l.length≤maxLen∧∀a0∈l,a0.length≤maxLen∧∀a1∈a0,a1.length≤maxLen∧∀a2∈a1,zl0 .i64 a2):=zrv (by kernel_rfl) (by kernel_rfl) zD4
theorem zD6:zrr prog 151 Tf zrE:=zrA (fs:=[(3,0),(4,1),(3,2),(29,3),(29,4),(78,5)]) (by kernel_rfl) (by kernel_rfl) (zrz (α:=Int) (ok:=zl0 .i64) (k:=1) op3 (by kernel_rfl) rfl (zrz (α:=Bool) (ok:=(fun _=>True)) (k:=1) op4 (by kernel_rfl) rfl (zrz (α:=Int) (ok:=zl0 .i64) (k:=1) op3 (by kernel_rfl) rfl (zrz (α:=List Int) (ok:=(fun l=>l.length≤maxLen∧∀a0∈l,zl0 .i64 a0)) (k:=1) zD3 (by kernel_rfl) rfl (zrz (α:=List Int) (ok:=(fun l=>l.length≤maxLen∧∀a0∈l,zl0 .i64 a0)) (k:=1) zD3 (by kernel_rfl) rfl (zrz (α:=List (List (List Int))) (ok:=(fun l=>l.length≤maxLen∧∀a0∈l,a0.length≤maxLen∧∀a1∈a0,a1.length≤maxLen∧∀a2∈a1,zl0 .i64 a2)) (k:=1) zD5 (by kernel_rfl) rfl zry)))))) (by kernel_rfl) fun m vs h=>by
 obtain⟨a0,c0,r0,m0,h0,p0,k0,s0,⟨a1,c1,r1,m1,h1,p1,k1,s1,⟨a2,c2,r2,m2,h2,p2,k2,s2,⟨a3,c3,r3,m3,h3,p3,k3,s3,⟨a4,c4,r4,m4,h4,p4,k4,s4,⟨a5,c5,r5,m5,h5,p5,k5,s5,rfl⟩⟩⟩⟩⟩⟩:=h;have p0:c0=[.int .i64 a0]:=p0; subst p0;have p1:c1=[.bool a1]:=p1; subst p1;have p2:c2=[.int .i64 a2]:=p2; subst p2;obtain⟨d3,rfl,p3⟩:=p3;obtain⟨d4,rfl,p4⟩:=p4;obtain⟨d5,rfl,p5⟩:=p5;subst h5 h4 h3 h2 h1 h0;exact⟨⟨a0,a1,a2,a3,a4,a5⟩,⟨_,_,_,rfl,p3,p4,p5⟩,⟨k0,k1,k2,k3,k4,k5⟩⟩
theorem zD7:zrr prog 22 (List Tf) (fun l=>l.length≤maxLen∧∀a0∈l,zrE a0):=zrv (by kernel_rfl) (by kernel_rfl) zD6
theorem zD8:zrr prog 58 Rg zrC:=zrA (fs:=[(3,0),(3,1)]) (by kernel_rfl) (by kernel_rfl) (zrz (α:=Int) (ok:=zl0 .i64) (k:=1) op3 (by kernel_rfl) rfl (zrz (α:=Int) (ok:=zl0 .i64) (k:=1) op3 (by kernel_rfl) rfl zry)) (by kernel_rfl) fun m vs h=>by
 obtain⟨a0,c0,r0,m0,h0,p0,k0,s0,⟨a1,c1,r1,m1,h1,p1,k1,s1,rfl⟩⟩:=h;have p0:c0=[.int .i64 a0]:=p0; subst p0;have p1:c1=[.int .i64 a1]:=p1; subst p1;subst h1 h0;exact⟨⟨a0,a1⟩,rfl,⟨k0,k1⟩⟩
theorem zD9:zrr prog 60 Fld zrH:=zrA (fs:=[(3,0),(3,1),(3,2),(58,3),(58,5),(58,7)]) (by kernel_rfl) (by kernel_rfl) (zrz (α:=Int) (ok:=zl0 .i64) (k:=1) op3 (by kernel_rfl) rfl (zrz (α:=Int) (ok:=zl0 .i64) (k:=1) op3 (by kernel_rfl) rfl (zrz (α:=Int) (ok:=zl0 .i64) (k:=1) op3 (by kernel_rfl) rfl (zrz (α:=Rg) (ok:=zrC) (k:=2) zD8 (by kernel_rfl) rfl (zrz (α:=Rg) (ok:=zrC) (k:=2) zD8 (by kernel_rfl) rfl (zrz (α:=Rg) (ok:=zrC) (k:=2) zD8 (by kernel_rfl) rfl zry)))))) (by kernel_rfl) fun m vs h=>by
 obtain⟨a0,c0,r0,m0,h0,p0,k0,s0,⟨a1,c1,r1,m1,h1,p1,k1,s1,⟨a2,c2,r2,m2,h2,p2,k2,s2,⟨a3,c3,r3,m3,h3,p3,k3,s3,⟨a4,c4,r4,m4,h4,p4,k4,s4,⟨a5,c5,r5,m5,h5,p5,k5,s5,rfl⟩⟩⟩⟩⟩⟩:=h;have p0:c0=[.int .i64 a0]:=p0; subst p0;have p1:c1=[.int .i64 a1]:=p1; subst p1;have p2:c2=[.int .i64 a2]:=p2; subst p2;have p3:c3=[.int .i64 a3.Lo,.int .i64 a3.Hi]:=p3; subst p3;have p4:c4=[.int .i64 a4.Lo,.int .i64 a4.Hi]:=p4; subst p4;have p5:c5=[.int .i64 a5.Lo,.int .i64 a5.Hi]:=p5; subst p5;subst h5 h4 h3 h2 h1 h0;exact⟨⟨a0,a1,a2,a3,a4,a5⟩,rfl,⟨k0,k1,k2,k3,k4,k5⟩⟩
theorem zEa:zrr prog 23 (List Fld) (fun l=>l.length≤maxLen∧∀a0∈l,zrH a0):=zrv (by kernel_rfl) (by kernel_rfl) zD9
theorem zEb:zrr prog 25 Cse zrJ:=zrA (fs:=[(22,0),(3,1),(3,2),(23,3)]) (by kernel_rfl) (by kernel_rfl) (zrz (α:=List Tf) (ok:=(fun l=>l.length≤maxLen∧∀a0∈l,zrE a0)) (k:=1) zD7 (by kernel_rfl) rfl (zrz (α:=Int) (ok:=zl0 .i64) (k:=1) op3 (by kernel_rfl) rfl (zrz (α:=Int) (ok:=zl0 .i64) (k:=1) op3 (by kernel_rfl) rfl (zrz (α:=List Fld) (ok:=(fun l=>l.length≤maxLen∧∀a0∈l,zrH a0)) (k:=1) zEa (by kernel_rfl) rfl zry)))) (by kernel_rfl) fun m vs h=>by
 obtain⟨a0,c0,r0,m0,h0,p0,k0,s0,⟨a1,c1,r1,m1,h1,p1,k1,s1,⟨a2,c2,r2,m2,h2,p2,k2,s2,⟨a3,c3,r3,m3,h3,p3,k3,s3,rfl⟩⟩⟩⟩:=h;obtain⟨d0,rfl,p0⟩:=p0;have p1:c1=[.int .i64 a1]:=p1; subst p1;have p2:c2=[.int .i64 a2]:=p2; subst p2;obtain⟨d3,rfl,p3⟩:=p3;subst h3 h2 h1 h0;exact⟨⟨a0,a1,a2,a3⟩,⟨_,_,rfl,p0,p3⟩,⟨k0,k1,k2,k3⟩⟩
theorem zEc:laidOutB prog=true:=by kernel_rfl
theorem zEd:ownKnob prog.godebug=none:=by kernel_rfl
theorem zEe(os:Os)(started:os.Started)(H:Type)(enc:TypeId × Value→H) :
    ReturnsInHanded {} Tryz.checked os 13 .any (Rows.umpireIdleSpec.pre6 enc Tryz.prog Tryz.f13 Rows.umpireIdleRow.domain false) (Rows.umpireIdleSpec.post enc Tryz.prog Tryz.f13 false true false false):=by
  refine returnsInHanded_of_change (C:=Tryz.checked) zEd started (by kernel_rfl) Tryz.func13
    (ChangeSpec.witness6 (enc:=enc) (C:=Tryz.checked) false ⟨#[],#[.agg #[.slice none 0 0,.int .i64 0,.int .i64 0,.slice none 0 0],.int .u8 0,.int .u8 0],[]⟩ 8 (by kernel_rfl) (by kernel_rfl) (by kernel_rfl) (by kernel_rfl)) ?_
  intro W base args ds gs before hval0 hW hcnd _;have hval:∀(j:Nat) t v,Tryz.f13.params[j]? = some t→args[j]? = some v→Value.okWide Tryz.prog W .any base t v:=hval0;have hW':=hW;obtain⟨p,q,hA0,hV,rfl,hfz,hnd⟩:=hW;have hA:DataW.TrodAll enc Tryz.prog W 0 (fun _=>true) true Tryz.f13.params.toList args.toList ds p:=hA0;rw[Tryz.params13] at hA hval;obtain⟨v0,v1,v2,d0,d1,d2,p0,p1,p2,rfl,rfl,rfl,h0,h1,h2⟩:=trodAll_three hA;obtain⟨rfl,rfl⟩:=trodVars_none hV;obtain⟨n1,hv1⟩:=okWide_int Tryz.underlying5 (hval 1 5 v1 rfl rfl);obtain⟨n2,hv2⟩:=okWide_int Tryz.underlying5 (hval 2 5 v2 rfl rfl)
  have hlt:∀x∈p0++p1++p2,x.block < W.heap.size:=fun x hx=>by simpa using hW'.lt x (by simpa using hx)
  obtain⟨fu0,hf0⟩:=id h0;obtain⟨fu1,hf1⟩:=id h1;obtain⟨fu2,hf2⟩:=id h2
  clear hA0 hval0
  obtain⟨e0,m0,w0,a_0,le0,sv0,lay0,cr0,rep0,ok0⟩:=zEb H enc W true _ _ _ hf0 _ _ (Lay.nil W);obtain⟨i1,hc1,_,hw1⟩:=DataW.trod_int Tryz.underlying5 hf1;obtain⟨i2,hc2,_,hw2⟩:=DataW.trod_int Tryz.underlying5 hf2;obtain⟨c0_0,c0_3,rfl,g0_0,g0_3⟩:=rep0
  obtain⟨cs0,hv0,cl0⟩:∃cs,v0=.agg cs∧v0.cells.toList=cs.toList:=by
    have hl:=cr0.length
    cases v0 with
    | agg cs=>exact⟨cs,rfl,rfl⟩
    | _=>exact absurd hl (by simp[Value.cells])
  subst hv0;subst hv1
  have hi1:i1=n1:=by
    have h:[Value.int .u8 n1]=[.int .u8 i1]:=hc1
    cases h; rfl
  subst hi1;subst hv2
  have hi2:i2=n2:=by
    have h:[Value.int .u8 n2]=[.int .u8 i2]:=hc2
    cases h; rfl
  subst hi2;have hargs:zen (VR e0) [.agg 4 [c0_0,.int .i64 a_0.Day,.int .i64 a_0.Fee,c0_3],.c (.int .u8 i1),.c (.int .u8 i2)] [.agg cs0,.int .u8 i1,.int .u8 i2]:=.cons ⟨cs0,rfl,cr0,rfl⟩ (.cons rfl (.cons rfl .nil));refine(callsIn_wide.1 (zqr fits htab (zAW (c:=a_0) (which:=i1) (how:=i2) lay0.pre g0_0 g0_3 (zD2 ok0 (zqp hw1) (zqp hw2)) (Q:=fun v _=>v=.c (.bool true)) fun _ _=>rfl) lay0.hr (args':=#[.agg cs0,.int .u8 i1,.int .u8 i2]) hargs 0)).mono fun en W' hp=>?_;obtain⟨v,v',e',m',rfl,hst,hvr,rfl⟩:=hp;have hv':v'=.bool true:=hvr;subst hv';have hbelow:=lay0.below hst
  refine⟨_,rfl,[d0,d1,d2],[],p0++p1++p2,[],p0++(p1++p2),[],by simpa using hW',trodAll_mk1 (shut_bool Tryz.underlying4 _),
    trodAll_mk3 (Below.trod zEc (by kernel_rfl) (of_decide_eq_true (by kernel_rfl)) h0 hbelow fun x hx=>hlt x (by simp[hx])) (Below.trod zEc (by kernel_rfl) (of_decide_eq_true (by kernel_rfl)) h1 hbelow fun x hx=>hlt x (by simp[hx])) (Below.trod zEc (by kernel_rfl) (of_decide_eq_true (by kernel_rfl)) h2 hbelow fun x hx=>hlt x (by simp[hx])),rfl,lay0.kept hst _,fun hc=>by cases hc⟩
theorem UmpireIdle_holds:Rows.UmpireIdleSaid:=
 OpenClaim.holds_of_wide 13 Tryz.f13 rfl rfl rfl rfl rfl rfl rfl ⟨rfl,rfl,rfl,rfl,rfl⟩ rfl rfl rfl rfl rfl (by kernel_rfl) Tryz.func13 (by kernel_rfl)
  (of_decide_eq_true (by kernel_rfl)) (by unfold Func.isWrapper; first | (rw[if_pos (by decide +kernel)]; kernel_rfl) | (rw[if_neg (by decide +kernel)]; exact⟨rfl,rfl⟩))
  (fun os started H enc _=>zEe os started H enc)
end Go.Proofs.YteojndcmgpiklaaGreat

