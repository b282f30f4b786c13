/- UmpireTurned, for all that it can be called with, returns true. Condition: none. -/
import Derived.Test.YteojndcmgpiklaaGreatUdJ
import GoSem.Step
import GoSem.ClaimKeys
import Derived.DeepKeys2
import Derived.RangeFuncLeaves
import Derived.OrdersIn
import Derived.Laws.World
import Derived.Laws.Sem
import Derived.RangeFuncRecord
import Derived.Laws.CopyRow
import Derived.Laws.Append
import Derived.Laws.Rows
import Derived.Laws.Slices
import Derived.Laws.Entries
import Derived.ChangeKeysEq
import Derived.IntWalk
import Derived.DeepKeys
import Derived.DeepKeys3
import Derived.Laws.StructEq
import Derived.MapKept
import Derived.Laws.AppendOwn
import Derived.ChangeArms
import Derived.ChangeOld
import Derived.Carry
import Derived.ChangeShapes
import Derived.KernelRfl
import Derived.ProofKit
import Derived.Test.YteojndcmgpiklaaGreatRows

namespace Go.Proofs.YteojndcmgpiklaaGreat
open _root_.Go.Proofs.Tryz
open Go.Abs
set_option maxRecDepth 100000
noncomputable section
def befU:List Int→List Int→Bool
 | x::a,y::b=>if x=y then befU a b else decide (x < y)
 | [],_::_=>true
 | _,[]=>false
theorem zDC:∀{a b:List Int},a.length=b.length→befU a b=false→befU b a=false→a=b
 | [],[],_,_,_=>rfl
 | x::a,y::b,hl,h1,h2=>by
  simp only[befU] at h1 h2
  by_cases he:x=y
  ·subst he;rw[if_pos rfl] at h1 h2;rw[zDC (Nat.succ.inj hl) h1 h2]
  ·rw[if_neg he] at h1;rw[if_neg fun h=>he h.symm] at h2;have:=of_decide_eq_false h1;have:=of_decide_eq_false h2
   omega
theorem zDD:∀{a:List Int},befU a a=false
 | []=>rfl
 | x::a=>by simp only[befU]; rw[if_pos trivial]; exact zDD
theorem zDE{a b:List Int}(hl:a.length≤1000):∀(d k:Nat),k≤a.length→a.length - k < d→zr1 a b d (k:Int)=some (befU (a.drop k) (b.drop k))
 | 0,_,_,h=>by omega
 | d+1,k,hk,h=>by
  rw[zr1]
  by_cases hka:k < a.length
  ·rw[if_pos (by omega)];have da:=List.drop_eq_getElem_cons hka;have ga:=List.getElem?_eq_getElem hka
   by_cases hkb:k < b.length
   ·have db:=List.drop_eq_getElem_cons hkb;have gb:=List.getElem?_eq_getElem hkb;rw[if_pos (by omega),zq2 ga,obs,zq2 gb,obs,da,db];unfold befU
    by_cases he:a[k]=b[k]
    ·rw[if_pos he,if_pos he,zqf (fI (by omega)),show(k:Int)+1=((k+1:Nat):Int) by omega];exact zDE hl d (k+1) (by omega) (by omega)
    ·rw[if_neg he,if_neg he,obs,obs]
   ·rw[if_neg (by omega),da,List.drop_eq_nil_of_le (show b.length≤k by omega),decide_eq_false (by omega)]; rfl
  ·rw[if_neg (by omega),List.drop_eq_nil_of_le (show a.length≤k by omega)]
   by_cases hkb:k < b.length
   ·rw[List.drop_eq_getElem_cons hkb,decide_eq_true (by omega)]; rfl
   ·rw[List.drop_eq_nil_of_le (show b.length≤k by omega),decide_eq_false (by omega)]; rfl
theorem zDF{a b:List Int}(hl:a.length≤1000):zr2 a b=some (befU a b):=zDE hl (a.length+1) 0 (Nat.zero_le _) (by omega)
theorem zDG{a b:List Int}(ha:a.length≤1000):Ev (zr3 a b) (a=b):=by
 unfold zr3
 by_cases hl:a.length=b.length
 ·rw[if_pos (by omega),zDF ha,obs]
  cases h1:befU a b with
  | true=>
   rw[if_pos rfl]
   exact Ev.ff fun he=>by subst he; rw[zDD] at h1; cases h1
  | false=>
   rw[if_neg (by simp),zDF (by omega),obs];refine Ev.mk' ?_
   cases h2:befU b a with
   | true=>exact⟨fun h=>(by cases h),fun he=>(by subst he; rw[zDD] at h2; cases h2)⟩
   | false=>exact⟨fun _=>zDC hl h1 h2,fun _=>rfl⟩
 ·rw[if_neg (by omega)];exact Ev.ff fun he=>hl (by rw[he])
theorem zDH{a b:Res}(ha:a.Counts.length≤1000):Ev (zuE a b) (a=b):=by
 refine(Ev.and (zDG ha) fun _=>Ev.ite fun _=>Ev.ite fun _=>Ev.dec Iff.rfl).imp ?_;obtain⟨a1,a2,a3,a4⟩:=a;obtain⟨b1,b2,b3,b4⟩:=b
 simp
theorem zDI:∀{fs:List Fld} {ts:List Thr},zCx fs ts→(setsN fs ts).length=fs.length
 | [],[],_=>rfl
 | _::_,_::_,h=>by simp[setsN,zDI h.2]
def tfU:Tf:=⟨0,true,0,[0],[0,100],[[[0,100]]]⟩
def fA:Fld:=⟨0,1000,4,⟨40,41⟩,⟨30,30⟩,⟨33,36⟩⟩
def fB:Fld:=⟨0,200,4,⟨20,20⟩,⟨17,18⟩,⟨0,4⟩⟩
def zDJ:Cse:=⟨[tfU],10,31,[fA,fB]⟩
theorem zDK:zuG=some zDJ:=rfl
theorem zDL{α:Type}{a:α}{P:α→Prop}(h:P a):∀x∈[a],P x:=fun x hx=>by rw[List.mem_singleton.1 hx]; exact h
theorem zDM:zzn [tfU]=0:=by
 refine zzo.2 ⟨?_,⟨by simp,zDL ⟨by decide,by decide,⟨by simp[tfU],rfl,by simp[tfU]⟩,⟨by simp[tfU],rfl,by simp[tfU]⟩,rfl,by simp[tfU],zDL ⟨rfl,zDL ⟨rfl,by simp⟩⟩⟩,by simp,rfl,zDL rfl⟩⟩
 rintro (h | ⟨t,ht,h⟩)
 ·simp at h
 ·rw[List.mem_singleton.1 ht] at h;unfold zzl at h
  simp[tfU] at h
theorem zDN:zBo zDJ:=by
 refine⟨zDM,by decide,by decide,by decide,fun f hf=>?_⟩
 rcases List.mem_cons.1 hf with rfl | hf
 ·exact⟨by decide,by decide,by decide,⟨by decide,by decide,by decide,by decide⟩,⟨by decide,by decide,by decide,by decide⟩,⟨by decide,by decide,by decide,by decide⟩⟩
 ·rw[List.mem_singleton.1 hf];exact⟨by decide,by decide,by decide,⟨by decide,by decide,by decide,by decide⟩,⟨by decide,by decide,by decide,by decide⟩,⟨by decide,by decide,by decide,by decide⟩⟩
theorem zDO{P:List Thr→Prop}(h:∀a∈zB1 fA,∀b∈zB1 fB,P [a,b]):∀ts,zCx zDJ.Fields ts→P ts:=by
 intro ts ht
 match ts,ht with
 | [a,b],ht=>exact h a ((zB4 (zDN.fld fA (by simp[zDJ]))).2 ht.1) b ((zB4 (zDN.fld fB (by simp[zDJ]))).2 ht.2.1)
 | [],ht=>exact ht.elim
 | [_],ht=>exact ht.2.elim
 | _::_::_::_,ht=>exact ht.2.2.elim
theorem zDP{a b:Thr}(ha:a∈zB1 fA)(hb:b∈zB1 fB):zCx zDJ.Fields [a,b]:=⟨(zB4 (zDN.fld fA (by simp[zDJ]))).1 ha,(zB4 (zDN.fld fB (by simp[zDJ]))).1 hb,trivial⟩
theorem zDQ{q:Ver→Int}{r:Rg}(h:zCV zDJ q r){lo:Int}(hb:∀a∈zB1 fA,∀b∈zB1 fB,lo≤q (zCC zDJ [a,b]))(hlo:∃a∈zB1 fA,∃b∈zB1 fB,q (zCC zDJ [a,b])=lo):r.Lo=lo:=by
 obtain⟨t1,h1,h2⟩:=h.lo;obtain⟨a,ha,b,hb',e1⟩:=hlo;have k1:=h.all _ (zDP ha hb');have k3:=zDO (P:=fun ts=>lo≤q (zCC zDJ ts)) hb t1 h1
 omega
theorem zDR{q:Ver→Int}{r:Rg}(h:zCV zDJ q r){hi:Int}(hb:∀a∈zB1 fA,∀b∈zB1 fB,q (zCC zDJ [a,b])≤hi)(hhi:∃a∈zB1 fA,∃b∈zB1 fB,q (zCC zDJ [a,b])=hi):r.Hi=hi:=by
 obtain⟨t1,h1,h2⟩:=h.hi;obtain⟨a,ha,b,hb',e1⟩:=hhi;have k1:=h.all _ (zDP ha hb');have k3:=zDO (P:=fun ts=>q (zCC zDJ ts)≤hi) hb t1 h1
 omega
theorem zDS:zu4=some true:=by
 obtain⟨a,ha,ea⟩:=zCY zDN;obtain⟨x,y,hx,ex,ey⟩:=zCZ zDN;obtain⟨n,o,ho,en,eo⟩:=zC2 zDN;have a1:a.Lo=366:=zDQ ea (by decide) (by decide);have a2:a.Hi=398:=zDR ea (by decide) (by decide);have x1:x.Lo=0:=zDQ ex (by decide) (by decide);have x2:x.Hi=31:=zDR ex (by decide) (by decide);have y1:y.Lo=0:=zDQ ey (by decide) (by decide);have y2:y.Hi=31:=zDR ey (by decide) (by decide);have n1:n.Lo=335:=zDQ en (by decide) (by decide);have o2:o.Hi=429:=zDR eo (by decide) (by decide)
 have hP:zup zDJ [⟨40,30,35⟩,⟨20,17,0⟩]=some (⟨[35,18],386,16,15⟩,0):=by
  have i1:(⟨40,30,35⟩:Thr)∈zB1 fA:=(zB4 (zDN.fld fA (by simp[zDJ]))).2 ⟨by decide,by decide,by decide⟩;have i2:(⟨20,17,0⟩:Thr)∈zB1 fB:=(zB4 (zDN.fld fB (by simp[zDJ]))).2 ⟨by decide,by decide,by decide⟩;rw[zCI zDN (zDP i1 i2)];refine congrArg (fun r=>some (r,(0:Int))) ?_
  have r1:(zCD zDJ [⟨40,30,35⟩,⟨20,17,0⟩]).Counts=[35,18]:=by decide
  have r2:(zCD zDJ [⟨40,30,35⟩,⟨20,17,0⟩]).Award=386:=by decide
  have r3:(zCD zDJ [⟨40,30,35⟩,⟨20,17,0⟩]).Farmer=16:=by decide
  have r4:(zCD zDJ [⟨40,30,35⟩,⟨20,17,0⟩]).Society=15:=by decide
  generalize zCD zDJ [⟨40,30,35⟩,⟨20,17,0⟩]=R at r1 r2 r3 r4;obtain⟨_,_,_,_⟩:=R
  dsimp only at r1 r2 r3 r4
  subst_vars; rfl
 have hC:zuq zDJ (0:Int)=some ([33,34,35,36],0):=by
  rw[show zuq zDJ (0:Int)=_ from zDl zDN (k:=0) (f:=fA) rfl];exact congrArg (fun r=>some (r,(0:Int))) (by decide)
 have hD:zur zDJ (1:Int)=some (2,0):=by
  rw[show zur zDJ (1:Int)=_ from zDp zDN (k:=1) (f:=fB) rfl];exact congrArg (fun r=>some (r,(0:Int))) (by decide)
 have hM:zus zDJ=some ([0],0):=by
  rw[zDB zDN];exact congrArg (fun r=>some (r,(0:Int))) (by decide)
 have fz:∀n:Int,0≤n∧n≤1000→zl0 .i64 n:=fun n h=>fI (by omega);unfold zu4;rw[zDK,obs,show zuH 40 35 17=some [⟨40,30,35⟩,⟨20,17,0⟩] from rfl,obs,hP,obs,obs,hC,obs,obs,hD,obs,obs,ha,obs,obs,hx,obs,obs,ho,obs,obs,hM,obs];rw[if_pos rfl,(zDH (by decide)).some_of rfl,obs,if_pos rfl,if_pos rfl,(zDG (by decide)).some_of rfl,obs,if_pos rfl,if_pos rfl,if_pos rfl,if_pos rfl]
 show Go.Abs.gd _ _=_
 dsimp only
 rw[a1,a2,x1,x2,y1,y2,n1,o2];rw[zqf (fz _ (by omega)),zqf (fz _ (by omega)),zqf (fz _ (by omega)),zqf (fz _ (by omega)),if_pos rfl,if_pos rfl]
 show Go.Abs.gd _ _=_
 dsimp only
 rw[zqf (fz _ (by omega)),zqf (fz _ (by omega)),zqf (fz _ (by omega)),zqf (fz _ (by omega)),if_pos rfl,zqf (fz _ (by omega)),zqf (fz _ (by omega)),zqf (fz _ (by omega)),zqf (fz _ (by omega)),if_pos (by decide),if_pos (by decide)]
 show Go.Abs.gd _ _=_
 dsimp only
 rw[zqf (fz _ (by omega)),zqf (fz _ (by omega)),zqf (fz _ (by omega)),zqf (fz _ (by omega)),if_pos (by decide),(zDG (by decide)).some_of rfl]; rfl
def OkC(c:Cse):Prop:=zrM c
theorem zDT{r:Rg}(h:zBl r){w:Int}(hw:0≤w∧w < 256):∃x,zuJ r w=some x∧r.Lo≤x∧x≤r.Hi:=by
 have h1:=h.lo; have h2:=h.le; have h3:=h.hi; have h4:=h.wd;have h5:=Int.emod_nonneg w (show r.Hi - r.Lo+1 ≠ 0 by omega);have h6:=Int.emod_lt_of_pos w (show 0 < r.Hi - r.Lo+1 by omega);refine⟨r.Lo+w % (r.Hi - r.Lo+1),?_,by omega⟩;unfold zuJ;rw[zqf (fI (by omega)),zqf (fI (by omega)),zqf hw.1,zqf (by omega),zqf (fI (by omega)),zqf (fI (by omega))]
def OkW(l:List W8):Prop:=l.length≤maxLen∧∀a∈l,zrD a
theorem zDU{l:List W8}(h:OkW l)(h0:0 < l.length){k:Int}(_hk:0≤k):∃w,idx l (k % (l.length:Int))=some w∧0≤w.v∧w.v < 256:=by
 have h5:=Int.emod_nonneg k (show(l.length:Int) ≠ 0 by omega);have h6:=Int.emod_lt_of_pos k (show 0 < (l.length:Int) by omega)
 have hlt:(k % (l.length:Int)).toNat < l.length:=by omega
 refine⟨l[(k % (l.length:Int)).toNat],zq3 (by omega) hlt,?_⟩;exact fU8 (h.2 _ (List.getElem_mem hlt))
theorem zDV{c:Cse}(hc:zBo c){l:List W8}(h:OkW l)(hm:l.length < 9223372036854775808):∀(d k:Nat) (acc:List Thr),k≤c.Fields.length→c.Fields.length - k < d→acc.length=k→∃ts,zuK c l d acc (k:Int)=some (acc++ts)∧zCx (c.Fields.drop k) ts
 | 0,k,_,_,h,_=>by omega
 | d+1,k,acc,hk,hd,ha=>by
  have hlen:=hc.len;rw[zuK]
  by_cases hkl:k < c.Fields.length
  ·obtain⟨f,h1,h2⟩:=zCz hkl;have hf:=hc.fld f (List.mem_of_getElem? h1);rw[if_pos (by omega),zq2 h1,obs,h2]
   have fin:∀a b u,(f.First.Lo≤a∧a≤f.First.Hi)→(f.Second.Lo≤b∧b≤f.Second.Hi)→(f.Umpire.Lo≤u∧u≤f.Umpire.Hi)→∃ts,gd (acc.length < 1048576) (gd (zl0 .i64 ((k:Int)+1)) (zuK c l d (acc++[⟨a,b,u⟩]) ((k:Int)+1)))=some (acc++ts)∧zCx (f::c.Fields.drop (k+1)) ts:=fun a b u ha' hb' hu'=>by
    obtain⟨ts,q1,q2⟩:=zDV hc h hm d (k+1) (acc++[⟨a,b,u⟩]) hkl (by omega) (by simp; omega);refine⟨⟨a,b,u⟩ :: ts,?_,⟨ha',hb',hu'⟩,q2⟩;rw[zqf (by omega),zqf (fI (by omega)),show(k:Int)+1=((k+1:Nat):Int) by omega,q1]; simp
   by_cases h0:0 < l.length
   ·obtain⟨w1,e1,r1⟩:=zDU h h0 (k:=3 * (k:Int)) (by omega);obtain⟨w2,e2,r2⟩:=zDU h h0 (k:=3 * (k:Int)+1) (by omega);obtain⟨w3,e3,r3⟩:=zDU h h0 (k:=3 * (k:Int)+2) (by omega);have m1:=Int.emod_nonneg (3 * (k:Int)) (show(l.length:Int) ≠ 0 by omega);have m2:=Int.emod_nonneg (3 * (k:Int)+1) (show(l.length:Int) ≠ 0 by omega);have m3:=Int.emod_nonneg (3 * (k:Int)+2) (show(l.length:Int) ≠ 0 by omega);have n1:=Int.emod_lt_of_pos (3 * (k:Int)) (show 0 < (l.length:Int) by omega);have n2:=Int.emod_lt_of_pos (3 * (k:Int)+1) (show 0 < (l.length:Int) by omega);have n3:=Int.emod_lt_of_pos (3 * (k:Int)+2) (show 0 < (l.length:Int) by omega);rw[if_pos (by omega),zqf (by omega),zqf (by omega),zqf (fI (by omega)),zqf (by omega),zqf (by omega),zqf (fI (by omega)),e1,obs];rw[zqf (by omega),zqf (by omega),zqf (fI (by omega)),zqf (fI (by omega)),zqf (by omega),zqf (by omega),zqf (fI (by omega)),e2,obs];rw[zqf (by omega),zqf (by omega),zqf (fI (by omega)),zqf (fI (by omega)),zqf (by omega),zqf (by omega),zqf (fI (by omega)),e3,obs];rw[wz (fI (by omega)),wz (fI (by omega)),wz (fI (by omega))];obtain⟨a,p1,p2⟩:=zDT hf.fst r1;obtain⟨b,p3,p4⟩:=zDT hf.snd r2;obtain⟨u,p5,p6⟩:=zDT hf.ump r3;rw[p1,obs,p3,obs,p5,obs];exact fin a b u p2 p4 p6
   ·obtain⟨a,p1,p2⟩:=zDT hf.fst (w:=0) (by omega);obtain⟨b,p3,p4⟩:=zDT hf.snd (w:=0) (by omega);obtain⟨u,p5,p6⟩:=zDT hf.ump (w:=0) (by omega);rw[if_neg (by omega),p1,obs,p3,obs,p5,obs];exact fin a b u p2 p4 p6
  ·rw[if_neg (by omega),List.drop_eq_nil_of_le (by omega)];exact⟨[],by simp,trivial⟩
theorem zDW{c:Cse}(hc:zBo c){l:List W8}(h:OkW l):∃ts,zuL c l=some ts∧zCx c.Fields ts:=by
 have hlen:=hc.len
 have hm:maxLen < 9223372036854775808:=by decide
 obtain⟨ts,h1,h2⟩:=zDV hc h (by have:=h.1; omega) 1000000 0 [] (by omega) (by omega) rfl;exact⟨ts,h1,h2⟩
theorem zDX{fs:List Fld}{ts:List Thr}(h:zCx fs ts)(hl:fs.length≤3):ts.length≤1000000:=by have:=h.len; omega
theorem zCV.uniq{c:Cse}{q:Ver→Int}{r s:Rg}(h:zCV c q r)(h':zCV c q s):r=s:=by
 obtain⟨t1,a1,a2⟩:=h.lo;obtain⟨t2,b1,b2⟩:=h.hi;obtain⟨t3,c1,c2⟩:=h'.lo;obtain⟨t4,d1,d2⟩:=h'.hi;have k1:=h'.all _ a1; have k2:=h'.all _ b1; have k3:=h.all _ c1; have k4:=h.all _ d1;obtain⟨rl,rh⟩:=r;obtain⟨sl,sh⟩:=s
 dsimp only at *
 have e1:rl=sl:=by omega
 have e2:rh=sh:=by omega
 rw[e1,e2]
theorem zDY{c:Cse}(hc:zBo c):zu6 c=some ⟨c.Tariffs,c.Day,c.Fee,c.Fields⟩:=by
 have:=hc.len;unfold zu6;rw[zqf (by simp; omega)]; rfl
theorem zDZ{c:Cse}{k:Nat}:∀{fs:List Fld} {j:Nat},(k:Int)∈zDy c fs j↔∃i f,fs[i]? = some f∧k=j+i∧zDx c f=true
 | [],j=>by simp[zDy]
 | f::fs,j=>by
  have ih:=zDZ (c:=c) (k:=k) (fs:=fs) (j:=j+1)
  have key:((k:Int)∈zDy c (f::fs) j)↔(zDx c f=true∧k=j)∨(k:Int)∈zDy c fs (j+1):=by
   rw[zDy]
   split
   ·rename_i h
    rw[List.mem_cons]
    constructor
    ·rintro (h' | h')
     ·exact .inl ⟨h,by omega⟩
     ·exact .inr h'
    ·rintro (⟨_,h'⟩ | h')
     ·exact .inl (by omega)
     ·exact .inr h'
   ·rename_i h
    exact⟨.inr,fun h'=>h'.elim (fun h'=>absurd h'.1 h) id⟩
  rw[key,ih]
  constructor
  ·rintro (⟨h1,h2⟩ | ⟨i,g,h1,h2,h3⟩)
   ·exact⟨0,f,rfl,by omega,h1⟩
   ·exact⟨i+1,g,by simpa using h1,by omega,h3⟩
  ·rintro⟨i,g,h1,h2,h3⟩
   cases i with
   | zero=>cases h1; exact .inl ⟨h3,by omega⟩
   | succ i=>exact .inr ⟨i,g,by simpa using h1,by omega,h3⟩
theorem zD0{c:Cse}:∀{fs:List Fld} {j:Nat},(zDy c fs j).length≤fs.length
 | [],_=>by simp[zDy]
 | f::fs,j=>by
  have:=zD0 (c:=c) (fs:=fs) (j:=j+1);rw[zDy]
  split <;> simp <;> omega
def swF(f:Fld):Fld:=⟨f.Crop,f.Value,f.Near,f.Second,f.First,f.Umpire⟩
def swT(t:Thr):Thr:=⟨t.Second,t.First,t.Umpire⟩
def swV(v:Ver):Ver:=⟨v.fee,v.pence,⟨v.fields.f0,v.fields.f1,v.fields.f3,v.fields.f2⟩⟩
def swC(c:Cse):Cse:=⟨c.Tariffs,c.Day,c.Fee,c.Fields.map swF⟩
theorem zD1{l:List Tf}{f:Fld}(h:zBn l f):zBn l (swF f):=⟨h.crop,h.val,h.near,h.snd,h.fst,h.ump⟩
theorem zD2{c:Cse}(hc:zBo c):zBo (swC c):=⟨hc.tar,by show(c.Fields.map swF).length≤3; rw[List.length_map]; exact hc.len,hc.day,hc.fee,fun f hf=>by
 obtain⟨g,hg,rfl⟩:=List.mem_map.1 hf
 exact zD1 (hc.fld g hg)⟩
theorem zD3(a b:Int):zBQ a b=zBQ b a:=by unfold zBQ; omega
theorem zD4{f:Fld}{t:Thr}:zBR (swF f) (swT t)↔zBR f t:=by
 unfold zBR;rw[show zBQ (swT t).First (swT t).Second=zBQ t.First t.Second from zD3 _ _]; rfl
theorem zD5{f:Fld}{t:Thr}:zBS (swF f) (swT t)=zBS f t:=by
 unfold zBS
 by_cases h:zBR f t
 ·rw[if_pos h,if_pos (zD4.2 h)];unfold swT
  dsimp only
  omega
 ·rw[if_neg h,if_neg fun h'=>h (zD4.1 h')];unfold swT
  dsimp only
  rw[Int.add_comm]
theorem zD6{f:Fld}{t:Thr}(h:zBO f t):zBO (swF f) (swT t):=⟨h.b,h.a,h.u⟩
theorem zD7:∀{fs:List Fld} {ts:List Thr},zCx fs ts→zCx (fs.map swF) (ts.map swT)
 | [],[],_=>trivial
 | _::_,_::_,h=>⟨zD6 h.1,zD7 h.2⟩
theorem zD8(l:List Fld):(l.map swF).map swF=l:=by
 rw[List.map_map];exact(List.map_congr_left fun x _=>rfl).trans (List.map_id l)
theorem zD9(l:List Thr):(l.map swT).map swT=l:=by
 rw[List.map_map];exact(List.map_congr_left fun x _=>rfl).trans (List.map_id l)
theorem zEa{c:Cse}{f:Fld}{t:Thr}{v:Ver}:zCj (swV v) (ocN (swC c) (swF f) (swT t))=swV (zCj v (ocN c f t)):=by
 have e1:zCa (swC c) (swF f) (zBS (swF f) (swT t))=zCa c f (zBS f t):=by rw[zD5]; rfl
 unfold ocN;rw[e1];unfold zCj swV zBT;rw[zD5]
 by_cases h:zBR f t
 ·rw[if_pos h,if_pos (zD4.2 h)]
  show(⟨_,_,_⟩:Ver)=_
  unfold swT
  dsimp only
  by_cases h6:zBQ t.Second (zBS f t) < zBQ t.First (zBS f t)
  ·have h8:¬ zBQ t.First (zBS f t) < zBQ t.Second (zBS f t):=by omega
   simp only[if_pos h6,if_neg h8]; simp
  ·by_cases h7:zBQ t.First (zBS f t) < zBQ t.Second (zBS f t)
   ·simp only[if_neg h6,if_pos h7]; simp
   ·simp only[if_neg h6,if_neg h7]; simp
 ·rw[if_neg h,if_neg fun h'=>h (zD4.1 h')]; simp
theorem zEb{c:Cse}:∀{fs:List Fld} {ts:List Thr} {v:Ver},verF (swC c) (fs.map swF) (ts.map swT) (swV v)=swV (verF c fs ts v)
 | [],_,v=>by simp[verF]
 | _::_,[],v=>by simp[verF]
 | f::fs,t::ts,v=>by
  rw[List.map_cons,List.map_cons,verF,verF,zEa];exact zEb
theorem zEc{c:Cse}{ts:List Thr}:zCC (swC c) (ts.map swT)=swV (zCC c ts):=zEb (v:=⟨c.Fee,0,⟨0,0,0,0⟩⟩)
theorem zEd:∀{fs:List Fld} {ts:List Thr},setsN (fs.map swF) (ts.map swT)=setsN fs ts
 | [],_=>by simp[setsN]
 | _::_,[]=>by simp[setsN]
 | f::fs,t::ts=>by rw[List.map_cons,List.map_cons,setsN,setsN,zD5,zEd]
theorem zEe{c:Cse}{r:Rg}(h:zCV c (·.pence) r):zCV (swC c) (·.pence) r:=by
 refine⟨fun ts ht=>?_,?_,?_⟩
 ·have h1:=zD7 ht;rw[show(swC c).Fields.map swF=c.Fields from zD8 _] at h1;have h2:=h.all _ h1;have h3:=zEc (c:=c) (ts:=ts.map swT);rw[zD9] at h3;rw[h3];exact h2
 ·obtain⟨ts,h1,h2⟩:=h.lo;exact⟨ts.map swT,zD7 h1,by rw[zEc]; exact h2⟩
 ·obtain⟨ts,h1,h2⟩:=h.hi;exact⟨ts.map swT,zD7 h1,by rw[zEc]; exact h2⟩
theorem zEf{c:Cse}{l:List Tf}{f:Fld}(hf:zBn l f){t:Thr}(ht:zBO f t)(h:zDt c f t):zDt (swC c) (swF f) (swT t):=by
 obtain⟨n,hn,hne⟩:=h;obtain⟨t',ht',he⟩:=(zDi (zDr hf ht)).1 hn;refine⟨n,(zDi (zDr (zD1 hf) (zD6 ht))).2 ⟨swT t',zD6 ht',?_⟩,?_⟩
 ·rw[← he];exact zD5 (f:=zDq f t) (t:=t')
 ·rw[zD5];exact hne
theorem zEg{c:Cse}{l:List Tf}{f:Fld}(hf:zBn l f)(h:zDx c f=true):zDx (swC c) (swF f)=true:=by
 obtain⟨t,ht,hm⟩:=List.any_eq_true.1 h;have ht:=(zB4 hf).1 ht;exact List.any_eq_true.2 ⟨swT t,(zB4 (zD1 hf)).2 (zD6 ht),decide_eq_true (zEf hf ht (of_decide_eq_true hm))⟩
theorem zEh{c:Cse}{l:List Tf}{f:Fld}(hf:zBn l f):zDx (swC c) (swF f)=zDx c f:=by
 cases h:zDx c f with
 | true=>exact zEg hf h
 | false=>
  cases h2:zDx (swC c) (swF f) with
  | false=>rfl
  | true=>
   have h3:=zEg (c:=swC c) (zD1 hf) h2;have h4:zDx (swC (swC c)) (swF (swF f))=zDx c f:=rfl
   rw[h4,h] at h3; cases h3
theorem zEi{c:Cse}:∀{fs:List Fld} {k:Nat},(∀f∈fs,zBn c.Tariffs f)→zDy (swC c) (fs.map swF) k=zDy c fs k
 | [],_,_=>rfl
 | f::fs,k,hf=>by
  rw[List.map_cons,zDy,zDy,zEh (hf f (List.mem_cons_self ..)),zEi fun x hx=>hf x (List.mem_cons_of_mem _ hx)]
def swK(l:List Fld)(k:Nat):List Fld:=(l.take k).map swF++l.drop k
theorem zEj{l:List Fld}{k:Nat}:(swK l k).length=l.length:=by unfold swK; simp; omega
theorem zEk{l:List Fld}{k:Nat}{f:Fld}(h:l[k]? = some f):(swK l k)[k]? = some f:=by
 have hk:=(List.getElem?_eq_some_iff.1 h).1;unfold swK;rw[List.getElem?_append_right (by simp; omega)]
 simp only[List.length_map,List.length_take,Nat.min_eq_left (Nat.le_of_lt hk),Nat.sub_self,List.getElem?_drop,Nat.add_zero]
 exact h
theorem zEl{l:List Fld}{k:Nat}{f:Fld}(h:l[k]? = some f):(swK l k).set k (swF f)=swK l (k+1):=by
 have hk:=(List.getElem?_eq_some_iff.1 h).1;unfold swK;rw[List.set_append_right _ _ (by simp; omega)]
 simp only[List.length_map,List.length_take,Nat.min_eq_left (Nat.le_of_lt hk),Nat.sub_self]
 rw[List.drop_eq_getElem_cons hk,List.set_cons_zero,List.take_add_one,h,List.map_append,List.append_assoc]
 rfl
theorem zEm{c:Cse}(hc:zBo c)(hth:zz9 c.Tariffs){ts:List Thr}(ht:zCx c.Fields ts):zu7 c ⟨c.Tariffs,c.Day,c.Fee,c.Fields⟩ ts 1 c.Day c.Fee (c.Fields.map swF) (ts.map swT) (ts.length:Int)=some true:=by
 have hlen:=hc.len;have hx:=zD2 hc;have hxl:=hx.len;have ht':=zD7 ht;obtain⟨a,ha,ea⟩:=zCY hc;obtain⟨b,hb,eb⟩:=zCY hx;have hab:a=b:=(zEe ea).uniq eb;subst hab;have hs:zuz (swC c)=some (swC c):=zBL hth (by omega);have hP:=zCI hc ht;have hP':zup (swC c) (ts.map swT)=some (zCD (swC c) (ts.map swT),0):=zCI hx ht';have htl:=zDX ht hlen;have hmm:zDy (swC c) (swC c).Fields 0=zDy c c.Fields 0:=zEi hc.fld;have hml:=zD0 (c:=c) (fs:=c.Fields) (j:=0);have hok:=zCU hc ht;have g1:=zCs hok;have g2:=zCu hok;have g3:=hok.fee;rw[zu7,if_neg (Int.lt_irrefl _),zBL hth (by omega),obs,zBN htl,obs,hP,obs]
 show(zuz (swC c)).bind _=_
 rw[hs,obs,zBN (by rw[List.length_map]; exact htl),obs,hP',obs,obs,ha,obs]
 show(zuz (swC c)).bind _=_
 rw[hs,obs,hb,obs,obs,zDB hc,obs]
 show(zuz (swC c)).bind _=_
 rw[hs,obs,zDB hx,obs,hmm];have ev:zCC (swC c) (ts.map swT)=swV (zCC c ts):=zEc;have ec:(zCD (swC c) (ts.map swT)).Counts=(zCD c ts).Counts:=zEd
 have ef:(zCD (swC c) (ts.map swT)).Farmer=zCo (swV (zCC c ts)):=by show zCo (zCC (swC c) (ts.map swT))=_; rw[ev]
 have es:(zCD (swC c) (ts.map swT)).Society=zCp (swV (zCC c ts)):=by show zCp (zCC (swC c) (ts.map swT))=_; rw[ev]
 have ep:(zCD (swC c) (ts.map swT)).Award=(zCD c ts).Award:=by show(zCC (swC c) (ts.map swT)).pence=_; rw[ev]; rfl
 have rf:(zCD c ts).Farmer=zCo (zCC c ts):=rfl;have rs:(zCD c ts).Society=zCp (zCC c ts):=rfl
 dsimp only
 rw[ec,ef,es,ep,rf,rs]
 have hscl:(zCD c ts).Counts.length≤1000:=by show(setsN c.Fields ts).length≤1000; rw[zDI ht]; omega
 have key:(zCo (zCC c ts) - zCp (swV (zCC c ts))=0∨(zCo (zCC c ts) - zCp (swV (zCC c ts))=1∧zCp (zCC c ts)=zCp (swV (zCC c ts))∧zCo (zCC c ts)=zCp (zCC c ts)+1))∧zCo (zCC c ts)+zCp (zCC c ts)=zCo (swV (zCC c ts))+zCp (swV (zCC c ts))∧(0≤zCp (swV (zCC c ts))∧zCp (swV (zCC c ts))≤10000)∧(0≤zCo (swV (zCC c ts))∧zCo (swV (zCC c ts))≤10000):=by
  generalize zCC c ts=v at g3;unfold zCp zCo zCn swV
  dsimp only
  repeat' split
  all_goals omega
 obtain⟨k1,k2,k3,k4⟩:=key
 have r1:0≤a.Lo∧a.Lo≤300000:=by
  obtain⟨t,q1,q2⟩:=ea.lo;have:=(zCU hc q1).p
  omega
 have r2:0≤a.Hi∧a.Hi≤300000:=by
  obtain⟨t,q1,q2⟩:=ea.hi;have:=(zCU hc q1).p
  omega
 rw[zqf (fI (by omega)),if_pos rfl,if_pos rfl,if_pos rfl,if_pos rfl,if_pos rfl,if_pos rfl,(zDG hscl).some_of rfl,obs,if_pos rfl,if_pos rfl,zqf (fI (by omega)),zqf (fI (by omega)),zqf (fI (by omega)),zqf (fI (by omega)),if_pos (by simp),(zDG (by omega)).some_of rfl,obs,if_pos rfl]
 rcases k1 with h1 | ⟨h1,h2,h3⟩
 ·rw[if_pos h1,zqf (fI (by omega)),zqf (fI (by omega)),if_pos k2,zDS]; rfl
 ·rw[if_neg (by omega),if_pos h1,if_pos h2,zqf (fI (by omega)),if_pos h3,zqf (fI (by omega)),zqf (fI (by omega)),if_pos k2,zDS]; rfl
theorem zEn{c:Cse}{r:zu5}{ts us:List Thr}{a b:Int}{F:List Fld}:∀d,zu7 c r ts (d+1) a b F us (ts.length:Int)=zu7 c r ts 1 a b F us (ts.length:Int):=fun d=>by
 rw[zu7,zu7,if_neg (Int.lt_irrefl _),if_neg (Int.lt_irrefl _)]
theorem zEo{c:Cse}(hc:zBo c)(hth:zz9 c.Tariffs){ts:List Thr}(ht:zCx c.Fields ts):∀(d k:Nat),k≤ts.length→ts.length - k < d→zu7 c ⟨c.Tariffs,c.Day,c.Fee,c.Fields⟩ ts d c.Day c.Fee (swK c.Fields k) ((ts.take k).map swT) (k:Int)=some true
 | 0,k,_,h=>by omega
 | d+1,k,hk,h=>by
  have hlen:=hc.len;have hl:=ht.len
  by_cases hkl:k < ts.length
  ·obtain⟨t,h1,h2⟩:=zCz hkl;obtain⟨f,h3,h4⟩:=zCz (l:=c.Fields) (k:=k) (by omega)
   have hs:=fun x:Fld=>show((swK c.Fields k).set k x)[k]? = some x from List.getElem?_set_self (by rw[zEj]; omega)
   have tn:(k:Int).toNat=k:=by omega
   rw[zu7,if_pos (by omega),zq2 h3,obs,obs,zq2 (zEk h3),obs,tn,zq2 (hs _),obs,zq2 h1,obs,obs,obs,zqf (by simp; omega),zqf (fI (by omega)),List.set_set]
   show zu7 c _ ts d c.Day c.Fee ((swK c.Fields k).set k (swF f)) ((ts.take k).map swT++[swT t]) ((k:Int)+1)=_
   rw[zEl h3,show(k:Int)+1=((k+1:Nat):Int) by omega,show(ts.take k).map swT++[swT t]=(ts.take (k+1)).map swT by rw[List.take_add_one,h1,List.map_append]; rfl];exact zEo hc hth ht d (k+1) hkl (by omega)
  ·have hke:k=ts.length:=by omega
   subst hke;rw[zEn,show swK c.Fields ts.length=c.Fields.map swF by unfold swK; rw[List.take_of_length_le (by omega),List.drop_eq_nil_of_le (by omega),List.append_nil],List.take_of_length_le (Nat.le_refl _)];exact zEm hc hth ht
theorem zEp{c:Cse}{words:List W8}(_:OkC c)(hw:OkW words):zu8 c words=some true:=by
 unfold zu8
 refine Ev.pick zBJ (fun hr=>?_) fun hr=>by rw[zqg rfl,zDS]; rfl
 obtain⟨⟨hth,hl⟩,hc⟩:=hr;obtain⟨ts,h1,h2⟩:=zDW hc hw;rw[if_pos rfl,zDY hc,obs,h1,obs];exact zEo hc hth h2 (ts.length+1) 0 (by omega) (by omega)
end
end Go.Proofs.YteojndcmgpiklaaGreat

namespace Go.Proofs.YteojndcmgpiklaaGreat
open _root_.Go.Proofs.Tryz
open Go.ChangeShapes Go.WideShapes Go.ChangeAt Go.RowKit Go.Abs
set_option maxRecDepth 100000
theorem op3:zrs prog 3 Int (zl0 .i64):=zrt (by kernel_rfl)
theorem op4:zrs prog 4 Bool (fun _=>True):=zru (by kernel_rfl)
theorem zEq:zrs prog 29 (List Int) (fun l=>l.length≤maxLen∧∀a0∈l,zl0 .i64 a0):=zrw (by kernel_rfl) (by kernel_rfl) op3
theorem zEr:zrs prog 140 (List (List Int)) (fun l=>l.length≤maxLen∧∀a0∈l,a0.length≤maxLen∧∀a1∈a0,zl0 .i64 a1):=zrw (by kernel_rfl) (by kernel_rfl) zEq
theorem zEs:zrs prog 78 (List (List (List Int))) (fun l=>l.length≤maxLen∧∀a0∈l,a0.length≤maxLen∧∀a1∈a0,a1.length≤maxLen∧∀a2∈a1,zl0 .i64 a2):=zrw (by kernel_rfl) (by kernel_rfl) zEr
theorem zEt:zrs prog 151 Tf zrH:=zrB (fs:=[(3,0),(4,1),(3,2),(29,3),(29,4),(78,5)]) (by kernel_rfl) (by kernel_rfl) (zrA (α:=Int) (ok:=zl0 .i64) (k:=1) op3 (by kernel_rfl) rfl (zrA (α:=Bool) (ok:=(fun _=>True)) (k:=1) op4 (by kernel_rfl) rfl (zrA (α:=Int) (ok:=zl0 .i64) (k:=1) op3 (by kernel_rfl) rfl (zrA (α:=List Int) (ok:=(fun l=>l.length≤maxLen∧∀a0∈l,zl0 .i64 a0)) (k:=1) zEq (by kernel_rfl) rfl (zrA (α:=List Int) (ok:=(fun l=>l.length≤maxLen∧∀a0∈l,zl0 .i64 a0)) (k:=1) zEq (by kernel_rfl) rfl (zrA (α:=List (List (List Int))) (ok:=(fun l=>l.length≤maxLen∧∀a0∈l,a0.length≤maxLen∧∀a1∈a0,a1.length≤maxLen∧∀a2∈a1,zl0 .i64 a2)) (k:=1) zEs (by kernel_rfl) rfl zrz)))))) (by kernel_rfl) fun m vs h=>by
 obtain⟨a0,c0,r0,m0,h0,p0,k0,s0,⟨a1,c1,r1,m1,h1,p1,k1,s1,⟨a2,c2,r2,m2,h2,p2,k2,s2,⟨a3,c3,r3,m3,h3,p3,k3,s3,⟨a4,c4,r4,m4,h4,p4,k4,s4,⟨a5,c5,r5,m5,h5,p5,k5,s5,rfl⟩⟩⟩⟩⟩⟩:=h;have p0:c0=[.int .i64 a0]:=p0; subst p0;have p1:c1=[.bool a1]:=p1; subst p1;have p2:c2=[.int .i64 a2]:=p2; subst p2;obtain⟨d3,rfl,p3⟩:=p3;obtain⟨d4,rfl,p4⟩:=p4;obtain⟨d5,rfl,p5⟩:=p5;subst h5 h4 h3 h2 h1 h0;exact⟨⟨a0,a1,a2,a3,a4,a5⟩,⟨_,_,_,rfl,p3,p4,p5⟩,⟨k0,k1,k2,k3,k4,k5⟩⟩
theorem zEu:zrs prog 22 (List Tf) (fun l=>l.length≤maxLen∧∀a0∈l,zrH a0):=zrw (by kernel_rfl) (by kernel_rfl) zEt
theorem zEv:zrs prog 58 Rg zrF:=zrB (fs:=[(3,0),(3,1)]) (by kernel_rfl) (by kernel_rfl) (zrA (α:=Int) (ok:=zl0 .i64) (k:=1) op3 (by kernel_rfl) rfl (zrA (α:=Int) (ok:=zl0 .i64) (k:=1) op3 (by kernel_rfl) rfl zrz)) (by kernel_rfl) fun m vs h=>by
 obtain⟨a0,c0,r0,m0,h0,p0,k0,s0,⟨a1,c1,r1,m1,h1,p1,k1,s1,rfl⟩⟩:=h;have p0:c0=[.int .i64 a0]:=p0; subst p0;have p1:c1=[.int .i64 a1]:=p1; subst p1;subst h1 h0;exact⟨⟨a0,a1⟩,rfl,⟨k0,k1⟩⟩
theorem zEw:zrs prog 60 Fld zrK:=zrB (fs:=[(3,0),(3,1),(3,2),(58,3),(58,5),(58,7)]) (by kernel_rfl) (by kernel_rfl) (zrA (α:=Int) (ok:=zl0 .i64) (k:=1) op3 (by kernel_rfl) rfl (zrA (α:=Int) (ok:=zl0 .i64) (k:=1) op3 (by kernel_rfl) rfl (zrA (α:=Int) (ok:=zl0 .i64) (k:=1) op3 (by kernel_rfl) rfl (zrA (α:=Rg) (ok:=zrF) (k:=2) zEv (by kernel_rfl) rfl (zrA (α:=Rg) (ok:=zrF) (k:=2) zEv (by kernel_rfl) rfl (zrA (α:=Rg) (ok:=zrF) (k:=2) zEv (by kernel_rfl) rfl zrz)))))) (by kernel_rfl) fun m vs h=>by
 obtain⟨a0,c0,r0,m0,h0,p0,k0,s0,⟨a1,c1,r1,m1,h1,p1,k1,s1,⟨a2,c2,r2,m2,h2,p2,k2,s2,⟨a3,c3,r3,m3,h3,p3,k3,s3,⟨a4,c4,r4,m4,h4,p4,k4,s4,⟨a5,c5,r5,m5,h5,p5,k5,s5,rfl⟩⟩⟩⟩⟩⟩:=h;have p0:c0=[.int .i64 a0]:=p0; subst p0;have p1:c1=[.int .i64 a1]:=p1; subst p1;have p2:c2=[.int .i64 a2]:=p2; subst p2;have p3:c3=[.int .i64 a3.Lo,.int .i64 a3.Hi]:=p3; subst p3;have p4:c4=[.int .i64 a4.Lo,.int .i64 a4.Hi]:=p4; subst p4;have p5:c5=[.int .i64 a5.Lo,.int .i64 a5.Hi]:=p5; subst p5;subst h5 h4 h3 h2 h1 h0;exact⟨⟨a0,a1,a2,a3,a4,a5⟩,rfl,⟨k0,k1,k2,k3,k4,k5⟩⟩
theorem zEx:zrs prog 23 (List Fld) (fun l=>l.length≤maxLen∧∀a0∈l,zrK a0):=zrw (by kernel_rfl) (by kernel_rfl) zEw
theorem zEy:zrs prog 25 Cse zrM:=zrB (fs:=[(22,0),(3,1),(3,2),(23,3)]) (by kernel_rfl) (by kernel_rfl) (zrA (α:=List Tf) (ok:=(fun l=>l.length≤maxLen∧∀a0∈l,zrH a0)) (k:=1) zEu (by kernel_rfl) rfl (zrA (α:=Int) (ok:=zl0 .i64) (k:=1) op3 (by kernel_rfl) rfl (zrA (α:=Int) (ok:=zl0 .i64) (k:=1) op3 (by kernel_rfl) rfl (zrA (α:=List Fld) (ok:=(fun l=>l.length≤maxLen∧∀a0∈l,zrK a0)) (k:=1) zEx (by kernel_rfl) rfl zrz)))) (by kernel_rfl) fun m vs h=>by
 obtain⟨a0,c0,r0,m0,h0,p0,k0,s0,⟨a1,c1,r1,m1,h1,p1,k1,s1,⟨a2,c2,r2,m2,h2,p2,k2,s2,⟨a3,c3,r3,m3,h3,p3,k3,s3,rfl⟩⟩⟩⟩:=h;obtain⟨d0,rfl,p0⟩:=p0;have p1:c1=[.int .i64 a1]:=p1; subst p1;have p2:c2=[.int .i64 a2]:=p2; subst p2;obtain⟨d3,rfl,p3⟩:=p3;subst h3 h2 h1 h0;exact⟨⟨a0,a1,a2,a3⟩,⟨_,_,rfl,p0,p3⟩,⟨k0,k1,k2,k3⟩⟩
theorem op5:zrs prog 5 W8 zrD:=fun H enc W held n cs x hx e m hl=>by
 obtain⟨i,rfl,_,hw⟩:=DataW.trod_int (show prog.underlying 5=some (.int .u8) by kernel_rfl) hx;exact⟨e,m,[.int .u8 i],⟨i⟩,.refl _,.refl _,hl,.cons rfl .nil,rfl,zqq hw⟩
theorem zEz:zrs prog 81 (List W8) (fun l=>l.length≤maxLen∧∀a0∈l,zrD a0):=zrw (by kernel_rfl) (by kernel_rfl) op5
theorem zEA:laidOutB prog=true:=by kernel_rfl
theorem zEB:ownKnob prog.godebug=none:=by kernel_rfl
theorem zEC(os:Os)(started:os.Started)(H:Type)(enc:TypeId × Value→H) :
    ReturnsInHanded {} Tryz.checked os 11 .any (Rows.umpireTurnedSpec.pre6 enc Tryz.prog Tryz.f11 Rows.umpireTurnedRow.domain false) (Rows.umpireTurnedSpec.post enc Tryz.prog Tryz.f11 false true false false):=by
  refine returnsInHanded_of_change (C:=Tryz.checked) zEB started (by kernel_rfl) Tryz.func11
    (ChangeSpec.witness6 (enc:=enc) (C:=Tryz.checked) false ⟨#[],#[.agg #[.slice none 0 0,.int .i64 0,.int .i64 0,.slice none 0 0],.slice none 0 0],[]⟩ 8 (by kernel_rfl) (by kernel_rfl) (by kernel_rfl) (by kernel_rfl)) ?_
  intro W base args ds gs before hval0 hW hcnd _;have hval:∀(j:Nat) t v,Tryz.f11.params[j]? = some t→args[j]? = some v→Value.okWide Tryz.prog W .any base t v:=hval0;have hW':=hW;obtain⟨p,q,hA0,hV,rfl,hfz,hnd⟩:=hW;have hA:DataW.TrodAll enc Tryz.prog W 0 (fun _=>true) true Tryz.f11.params.toList args.toList ds p:=hA0;rw[Tryz.params11] at hA hval;obtain⟨v0,v1,d0,d1,p0,p1,rfl,rfl,rfl,h0,h1⟩:=trodAll_two hA;obtain⟨rfl,rfl⟩:=trodVars_none hV;obtain⟨a1,len1,cap1,hv1⟩:=okWide_slice Tryz.underlying81 (hval 1 81 v1 rfl rfl)
  have hlt:∀x∈p0++p1,x.block < W.heap.size:=fun x hx=>by simpa using hW'.lt x (by simpa using hx)
  obtain⟨fu0,hf0⟩:=id h0;obtain⟨fu1,hf1⟩:=id h1
  clear hA0 hval0
  obtain⟨e0,m0,w0,a_0,le0,sv0,lay0,cr0,rep0,ok0⟩:=zEy H enc W true _ _ _ hf0 _ _ (Lay.nil W);obtain⟨e1,m1,w1,a_1,le1,sv1,lay1,cr1,rep1,ok1⟩:=zEz H enc W true _ _ _ hf1 e0 m0 lay0;obtain⟨c0_0,c0_3,rfl,g0_0,g0_3⟩:=rep0
  obtain⟨cs0,hv0,cl0⟩:∃cs,v0=.agg cs∧v0.cells.toList=cs.toList:=by
    have hl:=cr0.length
    cases v0 with
    | agg cs=>exact⟨cs,rfl,rfl⟩
    | _=>exact absurd hl (by simp[Value.cells])
  subst hv0;subst hv1;obtain⟨c1,rfl,rep1⟩:=rep1
  have cv1:CR e1 c1 (.slice a1 len1 cap1):=by
    cases cr1 with
    | cons h _=>exact h
  have hargs:zen (VR e1) [.agg 4 [c0_0,.int .i64 a_0.Day,.int .i64 a_0.Fee,c0_3],.c c1] [.agg cs0,.slice a1 len1 cap1]:=.cons ⟨cs0,rfl,(cr0.mono fun _ _=>CR.mono le1),rfl⟩ (.cons cv1 .nil);refine(callsIn_wide.1 (zqs fits htab (zA6 (c:=a_0) (words:=a_1) lay1.pre (g0_0.subv sv1) (g0_3.subv sv1) rep1 (zEp ok0 ok1) (Q:=fun v _=>v=.c (.bool true)) fun _ _=>rfl) lay1.hr (args':=#[.agg cs0,.slice a1 len1 cap1]) hargs 0)).mono fun en W' hp=>?_;obtain⟨v,v',e',m',rfl,hst,hvr,rfl⟩:=hp;have hv':v'=.bool true:=hvr;subst hv';have hbelow:=lay1.below hst
  refine⟨_,rfl,[d0,d1],[],p0++p1,[],p0++p1,[],by simpa using hW',trodAll_mk1 (shut_bool Tryz.underlying4 _),
    trodAll_mk2 (Below.trod zEA (by kernel_rfl) (of_decide_eq_true (by kernel_rfl)) h0 hbelow fun x hx=>hlt x (by simp[hx])) (Below.trod zEA (by kernel_rfl) (of_decide_eq_true (by kernel_rfl)) h1 hbelow fun x hx=>hlt x (by simp[hx])),rfl,lay1.kept hst _,fun hc=>by cases hc⟩
theorem UmpireTurned_holds:Rows.UmpireTurnedSaid:=
 OpenClaim.holds_of_wide 11 Tryz.f11 rfl rfl rfl rfl rfl rfl rfl ⟨rfl,rfl,rfl,rfl,rfl⟩ rfl rfl rfl rfl rfl (by kernel_rfl) Tryz.func11 (by kernel_rfl)
  (of_decide_eq_true (by kernel_rfl)) (by unfold Func.isWrapper; first | (rw[if_pos (by decide +kernel)]; kernel_rfl) | (rw[if_neg (by decide +kernel)]; exact⟨rfl,rfl⟩))
  (fun os started H enc _=>zEC os started H enc)
end Go.Proofs.YteojndcmgpiklaaGreat

