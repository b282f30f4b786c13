/- TreatyWider, for all that it can be called with, returns true. Condition: none. -/
import Derived.Test.YtkcmdghjgoaggaaGreatTwI
import GoSem.Step
import GoSem.ClaimKeys
import Derived.DeepKeys2
import Derived.RangeFuncLeaves
import Derived.OrdersIn
import Derived.Laws.World
import Derived.Laws.Sem
import Derived.RangeFuncRecord
import Derived.Laws.CopyRow
import Derived.Laws.Append
import Derived.Laws.Rows
import Derived.Laws.Slices
import Derived.Laws.Entries
import Derived.ChangeKeysEq
import Derived.IntWalk
import Derived.DeepKeys
import Derived.DeepKeys3
import Derived.Laws.StructEq
import Derived.MapKept
import Derived.Laws.AppendOwn
import Derived.ChangeArms
import Derived.ChangeOld
import Derived.Carry
import Derived.ChangeShapes
import Derived.KernelRfl
import Derived.ProofKit
import Derived.Test.YtkcmdghjgoaggaaGreatRows

namespace Go.Proofs.YtkcmdghjgoaggaaGreat
open _root_.Go.Proofs.Tryz
open Go.Abs
set_option maxRecDepth 100000
noncomputable section
theorem zyi{S β:Type}{n:Nat}(F:Nat->S->Int->Option β)(st:Nat->S){fin:Option β}(hstep:∀d k,k < n->F (d+1) (st k) (k:Int)=F d (st (k+1)) ((k:Int)+1))(hend:∀d,F (d+1) (st n) (n:Int)=fin) :
  ∀d k,k<=n->n - k < d->F d (st k) (k:Int)=fin
 | 0,k,_,h=>by omega
 | d+1,k,hk,h=>by
  by_cases hkn:k=n
  ·subst hkn; exact hend d
  ·rw[hstep d k (by omega),show(k:Int)+1=((k+1:Nat):Int) by omega];exact zyi F st hstep hend d (k+1) (by omega) (by omega)
def mk5(f:Nat->Int):P5:=⟨f 0,f 1,f 2,f 3,f 4⟩
def l5{α:Type}(f:Nat->α):List α:=[f 0,f 1,f 2,f 3,f 4]
theorem zyj{α:Type}{f:Nat->α}{k:Nat}(hk:k < 5):(l5 f)[k]? = some (f k):=by
 match k,hk with
 | 0,_=>rfl
 | 1,_=>rfl
 | 2,_=>rfl
 | 3,_=>rfl
 | 4,_=>rfl
theorem zyk{α:Type}{f:Nat->α}{k:Nat}(hk:k < 5):idx (l5 f) (k:Int)=some (f k):=zrS (zyj hk)
theorem zyl{α:Type}{f:Nat->α}{i:Int}(h0:0<=i)(h5:i < 5):idx (l5 f) i=some (f i.toNat):=by
 have:=zyk (f:=f) (k:=i.toNat) (by omega)
 rwa [show((i.toNat:Nat):Int)=i by omega] at this
theorem zym{f g:Nat->Int}(h:mk5 f=mk5 g){k:Nat}(hk:k < 5):f k=g k:=by
 have h:=P5.mk.inj h
 match k,hk with
 | 0,_=>exact h.1
 | 1,_=>exact h.2.1
 | 2,_=>exact h.2.2.1
 | 3,_=>exact h.2.2.2.1
 | 4,_=>exact h.2.2.2.2
def upF{α:Type}(f:Nat->α)(k:Nat)(a:α):Nat->α:=fun j=>if j=k then a else f j
theorem zyn{α:Type}(f:Nat->α)(k:Nat)(a:α):upF f k a k=a:=yaa rfl
theorem zyo{α:Type}(f:Nat->α){k j:Nat}(a:α)(h:j ≠ k):upF f k a j=f j:=yab h
theorem zyp{α:Type}(f:Nat->α)(k:Nat)(a:α)(j:Nat):sti (k:Int) j a (f j)=upF f k a j:=by
 unfold sti upF
 by_cases h:j=k
 ·rw[yaa h,yaa (by omega)]
 ·rw[yab h,yab (by omega)]
theorem zyq{α:Type}(f:Nat->α){i:Int}(hi:0<=i)(a:α)(j:Nat):sti i j a (f j)=upF f i.toNat a j:=by
 have:=zyp f i.toNat a j
 rwa [show((i.toNat:Nat):Int)=i by omega] at this
def RgV(r:Rg)(hi:Int):Prop:=0<=r.Lo/\r.Lo<=r.Hi/\r.Hi<=hi
def zgo(t:Ty):Prop:=(t.Kind=0/\(1<=t.Part/\t.Part<=100)/\t.Above=0/\t.Most=0/\t.Times=0)\/(t.Kind=1/\t.Part=0/\(0<=t.Above/\t.Above<=1000)/\(1<=t.Most/\t.Most<=1000)/\0<=t.Times/\t.Times<=3)
def zyr(t:Ty):Prop:=zgo t/\0<=t.Price/\t.Price<=1000
def zys(ts:List Ty):Prop:=∀(i:Nat) (t:Ty),ts[i]? = some t->-1<=t.Of/\t.Of<=(i:Int) - 1
def zyt(p:Pg)(r:Rpt):Prop:=(0<=r.Treaty/\r.Treaty<=(p.Treaties.length:Int) - 1)/\RgV r.Paid 10000
structure zyu (p:Pg):Prop where
 ls:∀r∈p.Losses,RgV r 1000
 res:0<=p.Reserve/\p.Reserve<=10000
 ts:∀t∈p.Treaties,zyr t
 of':zys p.Treaties
 rs:∀r∈p.Reports,zyt p r
def zyv(p:Pg):Prop:=4 < p.Losses.length\/5 < p.Treaties.length\/5 < p.Reports.length
def zyw:List Rg->Int
 | []=>1
 | r::l=>(r.Hi - r.Lo+1) * zyw l
open Classical in
def zyx(p:Pg):Int:=if zyv p then 3 else if zyu p then (if 1500 < zyw p.Losses then 3 else 0) else 1
structure VP (p:Pg):Prop extends zyu p where
 l4:p.Losses.length<=4
 t5:p.Treaties.length<=5
 r5:p.Reports.length<=5
 many:zyw p.Losses<=1500
theorem zyy{p:Pg}:zyx p=0↔VP p:=by
 unfold zyx
 by_cases h:zyv p
 ·rw[yaa h]; exact⟨fun h=>by omega,fun h2=>by have:=h2.l4; have:=h2.t5; have:=h2.r5; unfold zyv at h; omega⟩
 ·rw[yab h];unfold zyv at h
  by_cases hf:zyu p
  ·rw[yaa hf]
   by_cases hm:1500 < zyw p.Losses
   ·rw[yaa hm]; exact⟨fun h=>by omega,fun h=>by have:=h.many; omega⟩
   ·rw[yab hm]; exact⟨fun _=>⟨hf,by omega,by omega,by omega,by omega⟩,fun _=>rfl⟩
  ·rw[yab hf]; exact⟨fun h=>by omega,fun h=>absurd ⟨h.ls,h.res,h.ts,h.of',h.rs⟩ hf⟩
theorem zyz{r:Rg}{n:Int}:Ev (zsU r n) (r.Lo<=n/\n<=r.Hi):=Ev.ite fun _=>Ev.dec Iff.rfl
theorem zyA{a b:Int}{r:Rg}:Ev (zsV { Lo:=a,Hi:=b } r) (a<=r.Lo/\r.Lo<=r.Hi/\r.Hi<=b):=Ev.ite fun _=>Ev.ite fun _=>Ev.dec Iff.rfl
theorem zyB{k:Kd}{t:Ty}:Ev (zs4 k t) ((k.part.Lo<=t.Part/\t.Part<=k.part.Hi)/\(k.above.Lo<=t.Above/\t.Above<=k.above.Hi)/\(k.most.Lo<=t.Most/\t.Most<=k.most.Hi)/\k.times.Lo<=t.Times/\t.Times<=k.times.Hi):=
 zyz.and fun _=>zyz.and fun _=>zyz.and fun _=>zyz.ret
def zyC:K2:={ k0:={ part:={ Lo:=1,Hi:=100 },above:={ Lo:=0,Hi:=0 },most:={ Lo:=0,Hi:=0 },times:={ Lo:=0,Hi:=0 },takes:=(fun t a b=>zs1 t a b) },k1:={ part:={ Lo:=0,Hi:=0 },above:={ Lo:=0,Hi:=1000 },most:={ Lo:=1,Hi:=1000 },times:={ Lo:=0,Hi:=3 },takes:=(fun t a b=>zs2 t a b) } }
theorem zyD:zs3=some zyC:=rfl
theorem zyE{t:Ty}:Ev (zs5 zyC t) (zyr t):=by
 unfold zs5
 show Ev ((zsU { Lo:=0,Hi:=1 } t.Kind).bind _) _
 refine(zyz.and (K:=zgo t/\0<=t.Price/\t.Price<=1000) fun hk=>?_).imp ?_
 ·by_cases h0:t.Kind=0
  ·rw[yaa h0];refine(zyB.and fun _=>(show Ev (zsU { Lo:=0,Hi:=1000 } t.Price) _ from zyz).ret).imp ?_
   show((1<=t.Part/\t.Part<=100)/\(0<=t.Above/\t.Above<=0)/\(0<=t.Most/\t.Most<=0)/\0<=t.Times/\t.Times<=0)/\(0<=t.Price/\t.Price<=1000)↔_
   unfold zgo; omega
  ·have h1:t.Kind=1:=by
    have hk:0<=t.Kind/\t.Kind<=1:=hk
    omega
   rw[yab h0,yaa h1];refine(zyB.and fun _=>(show Ev (zsU { Lo:=0,Hi:=1000 } t.Price) _ from zyz).ret).imp ?_
   show((0<=t.Part/\t.Part<=0)/\(0<=t.Above/\t.Above<=1000)/\(1<=t.Most/\t.Most<=1000)/\0<=t.Times/\t.Times<=3)/\(0<=t.Price/\t.Price<=1000)↔_
   unfold zgo; omega
 ·show((0<=t.Kind/\t.Kind<=1)/\zgo t/\0<=t.Price/\t.Price<=1000)↔zyr t
  unfold zyr zgo; omega
theorem gR{l:List Rg}{p:Rg->Option Bool}:∀{d:Nat} {x:Int},ztc l p d x=gIdx l p d x
 | 0,_=>rfl
 | d+1,x=>by unfold ztc gIdx; simp only[gR]
theorem gT{l:List Ty}{p:Ty->Option Bool}:∀{d:Nat} {x:Int},zth l p d x=gIdx l p d x
 | 0,_=>rfl
 | d+1,x=>by unfold zth gIdx; simp only[gT]
theorem gQ{l:List Rpt}{p:Rpt->Option Bool}:∀{d:Nat} {x:Int},ztm l p d x=gIdx l p d x
 | 0,_=>rfl
 | d+1,x=>by unfold ztm gIdx; simp only[gQ]
theorem gI{l:List Int}{p:Int->Option Bool}:∀{d:Nat} {x:Int},ztr l p d x=gIdx l p d x
 | 0,_=>rfl
 | d+1,x=>by unfold ztr gIdx; simp only[gI]
theorem zyF{p:Pg}{n:Int}(h:zr2 p.Treaties):Ev (zs7 p n) (0<=n/\n<=(p.Treaties.length:Int) - 1):=by
 unfold zs7;unfold zr2 at h;refine Ev.gd (fI (by omega)) ?_;exact(show Ev (zsU { Lo:=0,Hi:=(p.Treaties.length:Int) - 1 } n) _ from zyz).ret
theorem zyG{p:Pg}{r:Rpt}(h:zr2 p.Treaties):Ev (zs8 p r) (zyt p r):=(zyF h).and fun _=>(zyA (a:=0) (b:=10000)).ret
theorem zyH{p:Pg}(h:zr2 p.Treaties):Ev (zta p) (zys p.Treaties):=by
 unfold zr2 at h;refine(Ev.loop (n:=p.Treaties.length) (F:=fun d x=>zs9 p d x) (ok:=fun j=>∀t,p.Treaties[j]? = some t->-1<=t.Of/\t.Of<=(j:Int) - 1) (fin:=some true) (P:=True) (fun d k hk=>?_) (fun d=>?_) (by omega) (fun _=>Ev.tt trivial)).imp ?_
 ·have hg:=yag hk
  show(_->zs9 p (d+1) (k:Int)=_)/\(_->zs9 p (d+1) (k:Int)=_)
  rw[zs9,yaa (by omega),zrS hg,obs,zqr (fI (by omega))];exact(show Ev (zsU { Lo:=-1,Hi:=(k:Int) - 1 } (p.Treaties[k]).Of) (∀t,p.Treaties[k]? = some t->-1<=t.Of/\t.Of<=(k:Int) - 1) from zyz.imp ⟨fun h t ht=>by rw[hg] at ht; cases ht; exact h,fun h=>h _ hg⟩).step (by rw[yaa rfl,zqr (fI (by omega))]) (by rw[yab (by decide)])
 ·show zs9 p (d+1) _=_
  rw[zs9,yab (yaH _)]
 ·exact⟨fun h i t ht=>h.1 i (yai.1 ht).1 t ht,fun h=>⟨fun j _ t ht=>h j t ht,trivial⟩⟩
theorem zyI{p:Pg}(h1:zr2 p.Losses)(h2:zr2 p.Treaties)(h3:zr2 p.Reports):Ev (ztx p) (zyu p):=by
 unfold ztx;rw[zyD,obs]
 show Ev ((ztf p.Losses fun a=>zsV { Lo:=0,Hi:=1000 } a).bind _) _
 refine((Ev.each (q:=fun r=>RgV r 1000) (fun a _=>zyA) h1.lt gR).and fun _=>(show Ev (zsU { Lo:=0,Hi:=10000 } p.Reserve) _ from zyz).and fun _=>(Ev.each (q:=zyr) (fun a _=>zyE) h2.lt gT).and fun _=>(zyH h2).and fun _=>(Ev.each (q:=zyt p) (fun a _=>zyG h2) h3.lt gQ).ret).imp ?_;exact⟨fun⟨a,b,c,d,e⟩=>⟨a,b,c,d,e⟩,fun⟨a,b,c,d,e⟩=>⟨a,b,c,d,e⟩⟩
theorem zyJ{p:Pg}:Ev (zs6 p) (zyv p):=by
 unfold zs6 zyv
 by_cases h:(4:Int) < p.Losses.length
 ·rw[yaa h]; exact Ev.tt (by omega)
 ·rw[yab h]
  by_cases h2:(5:Int) < p.Treaties.length
  ·rw[yaa h2]; exact Ev.tt (by omega)
  ·rw[yab h2]; exact Ev.dec (by omega)
theorem zyK{r:Rg}(h:RgV r 1000):zty r=some (r.Hi - r.Lo+1):=by
 unfold RgV at h;unfold zty;rw[zqr (fI (by omega)),zqr (fI (by omega))]
theorem zyL:∀{l:List Rg},(∀r∈l,RgV r 1000)->l.length<=4->1<=zyw l/\zyw l<=1001 ^ l.length
 | [],_,_=>⟨yam _,yam _⟩
 | r::l,h,h4=>by
  have h1:=h r (yad ..);obtain⟨h2,h3⟩:=zyL (l:=l) (fun r hr=>h r (yah _ hr)) (by simp only[List.length_cons] at h4; omega);unfold RgV at h1
  show 1<=(r.Hi - r.Lo+1) * zyw l/\(r.Hi - r.Lo+1) * zyw l<=1001 ^ (l.length+1)
  have h5:1 * 1<=(r.Hi - r.Lo+1) * zyw l:=yb5 (by omega) h2 (by omega) (by omega);have h6:(r.Hi - r.Lo+1) * zyw l<=1001 * 1001 ^ l.length:=yb5 (by omega) h3 (by omega) (by omega);refine⟨by omega,?_⟩;rw[Int.pow_succ,Int.mul_comm ((1001:Int) ^ l.length)]; exact h6
theorem zyM{n:Nat}(h:n<=4):(1001:Int) ^ n<=1004006004001:=by
 match n,h with
 | 0,_=>decide
 | 1,_=>decide
 | 2,_=>decide
 | 3,_=>decide
 | 4,_=>decide
theorem zyN{l:List Rg}{k:Nat}{r:Rg}(h:l[k]? = some r):zyw (l.take (k+1))=zyw (l.take k) * (r.Hi - r.Lo+1):=by
 induction l generalizing k with
 | nil=>cases h
 | cons a l ih=>
  cases k with
  | zero=>cases h; show(r.Hi - r.Lo+1) * 1=1 * (r.Hi - r.Lo+1); rw[Int.one_mul,Int.mul_one]
  | succ k=>
   rw[List.take_succ_cons,List.take_succ_cons]
   show(a.Hi - a.Lo+1) * zyw (l.take (k+1))=(a.Hi - a.Lo+1) * zyw (l.take k) * _
   rw[ih h,Int.mul_assoc]
theorem zyO{l:List Rg}(h:∀r∈l,RgV r 1000)(h4:l.length<=4)(k:Nat):1<=zyw (l.take k)/\zyw (l.take k)<=1004006004001:=by
 have h1:=zyL (l:=l.take k) (fun r hr=>h r (yb6 hr)) (by rw[yau]; omega);have h2:=zyM (n:=(l.take k).length) (by rw[yau]; omega)
 omega
theorem zyP{l:List Rg}(h:∀r∈l,RgV r 1000)(h4:l.length<=4):ztA l=some (zyw l):=by
 unfold ztA;have key:=zyi (n:=l.length) (fun d s x=>ztz l d s x) (fun k=>zyw (l.take k)) (fin:=some (zyw l)) (fun d k hk=>?_) (fun d=>?_) (l.length+1) 0 (by omega) (by omega)
 ·exact key
 ·have hg:=yag hk;have hr:=h _ (yat hk);have hb:=zyO h h4 k;have hb2:=zyO h h4 (k+1);rw[zyN hg] at hb2
  show ztz l (d+1) _ _=_
  rw[ztz,yaa (by omega),zrS hg,obs,zyK hr,obs,zqr (by omega),zqr (by unfold RgV at hr; omega),zqr (fI (by omega)),zqr (fI (by omega)),<- zyN hg]
 ·show ztz l (d+1) _ _=_
  rw[ztz,yab (by omega),yaZ]
theorem zyQ{p:Pg}(h4:p.Losses.length<=1000):ztC p=some p.Losses:=by
 unfold ztC;have key:=zyi (n:=p.Losses.length) (fun d s x=>ztB p d s x) (fun k=>p.Losses.take k) (fin:=some p.Losses) (fun d k hk=>?_) (fun d=>?_) (p.Losses.length+1) 0 (by omega) (by omega)
 ·exact key
 ·have hg:=yag hk
  show ztB p (d+1) _ _=_
  rw[ztB,yaa (by omega),zrS hg,obs,zqr (by rw[yau]; omega),zqr (fI (by omega)),ybf,hg]; rfl
 ·show ztB p (d+1) _ _=_
  rw[ztB,yab (by omega),yaZ]
theorem zyR{p:Pg}(h1:zr2 p.Losses)(h2:zr2 p.Treaties)(h3:zr2 p.Reports):ztD p=some (zyx p):=by
 unfold ztD zyx;refine zyJ.pick (fun h=>?_) fun h=>?_
 ·rw[yaa rfl,yaa h]
 ·rw[yab (by decide),yab h];unfold zyv at h;refine(zyI h1 h2 h3).pick (fun h=>?_) fun h=>?_
  ·rw[yaa rfl,yaa h,zyQ (by omega),obs,zyP h.ls (by omega),obs]
   split <;> rfl
  ·rw[yab (by decide),yab h]
theorem zyS{n lo hi:Int}:Ev (zsu n lo hi) (lo<=n/\n<=hi):=Ev.ite fun _=>Ev.dec Iff.rfl
theorem zyT{r:Rg}{a b:Int}:Ev (zsv r a b) (a<=r.Lo/\r.Lo<=r.Hi/\r.Hi<=b):=Ev.ite fun _=>Ev.ite fun _=>Ev.dec Iff.rfl
theorem zyU{t:Ty}{k:Nat}(hk:k<=1000):Ev (zsx t (k:Int)) (zyr t/\-1<=t.Of/\t.Of<=(k:Int) - 1):=by
 unfold zsx;refine(zyS.and (K:=(-1<=t.Of/\t.Of<=(k:Int) - 1)/\(0<=t.Times/\t.Times<=3)/\zgo t) fun _=>Ev.gd (fI (by omega)) (zyS.and fun _=>zyS.and fun _=>?_)).imp ?_
 ·by_cases h0:t.Kind=0
  ·rw[yaa h0];refine(zyS.and fun _=>Ev.ite fun _=>Ev.ite fun _=>Ev.dec Iff.rfl).imp ?_;unfold zgo; omega
  ·rw[yab h0];refine(Ev.ite fun _=>Ev.ite fun _=>zyS.and fun _=>zyS.ret).imp ?_;unfold zgo; omega
 ·unfold zyr zgo; omega
theorem zyV{r:Rg}(h:RgV r 1000):zsw r=some (r.Hi - r.Lo+1):=by
 unfold RgV at h;unfold zsw;rw[zqr (fI (by omega)),zqr (fI (by omega))]
def zyW(l:List Rg):Nat->Int
 | 0=>1
 | k+1=>match l[k]? with
  | some r=>min 2000 (zyW l k * (r.Hi - r.Lo+1))
  | none=>zyW l k
theorem zyX{l:List Rg}(h:∀r∈l,RgV r 1000)(h4:l.length<=4):∀k,k<=l.length->(1<=zyW l k/\zyW l k<=2000)/\(zyW l k=zyw (l.take k)\/(1500 < zyW l k/\1500 < zyw (l.take k)))
 | 0,_=>⟨by show(1:Int)<=1/\(1:Int)<=2000; omega,.inl rfl⟩
 | k+1,hk=>by
  obtain⟨h1,h2⟩:=zyX h h4 k (by omega);have hg:=yag (show k < l.length by omega);have hr:=h _ (yat (show k < l.length by omega));have hb:=zyO h h4 (k+1);have hb0:=zyO h h4 k;rw[zyN hg] at hb ⊢;unfold RgV at hr
  have e:zyW l (k+1)=min 2000 (zyW l k * ((l[k]'(by omega)).Hi - (l[k]'(by omega)).Lo+1)):=by
   show(match l[k]? with | some r=>min 2000 (zyW l k * (r.Hi - r.Lo+1)) | none=>zyW l k)=_
   rw[hg]
  rw[e];generalize hc:(l[k]'(by omega)).Hi - (l[k]'(by omega)).Lo+1=c at hb ⊢;have h5:zyW l k * 1<=zyW l k * c:=yb7 (by omega) (by omega);have h6:zyw (l.take k) * 1<=zyw (l.take k) * c:=yb7 (by omega) (by omega);refine⟨by omega,?_⟩
  rcases h2 with h2 | h2
  ·rw[h2] at h5 ⊢
   by_cases h7:zyw (l.take k) * c<=2000
   ·exact .inl (by omega)
   ·exact .inr (by omega)
  ·exact .inr (by omega)
theorem zyY{p:Pg}(h:∀r∈p.Losses,RgV r 1000)(h4:p.Losses.length<=4):zsz p=some (zyW p.Losses p.Losses.length):=by
 unfold zsz;have key:=zyi (n:=p.Losses.length) (fun d s x=>zsy p d s x) (fun k=>zyW p.Losses k) (fin:=some (zyW p.Losses p.Losses.length)) (fun d k hk=>?_) (fun d=>?_) 1000000 0 (by omega) (by omega)
 ·exact key
 ·have hg:=yag hk;have hr:=h _ (yat hk);obtain⟨hb,_⟩:=zyX h h4 k (by omega)
  have e:zyW p.Losses (k+1)=min 2000 (zyW p.Losses k * ((p.Losses[k]).Hi - (p.Losses[k]).Lo+1)):=by
   show(match p.Losses[k]? with | some r=>min 2000 (zyW p.Losses k * (r.Hi - r.Lo+1)) | none=>zyW p.Losses k)=_
   rw[hg]
  have hrr:=hr;unfold RgV at hrr;have h5:zyW p.Losses k * ((p.Losses[k]).Hi - (p.Losses[k]).Lo+1)<=2000 * 1001:=yb5 (by omega) (by omega) (by omega) (by omega);have h6:0<=zyW p.Losses k * ((p.Losses[k]).Hi - (p.Losses[k]).Lo+1):=yb8 (by omega) (by omega)
  show zsy p (d+1) _ _=_
  rw[zsy,yaa (by omega),zrS hg,obs,zyV hr,obs,zqr (by omega),zqr (by omega),zqr (fI (by omega)),zqr (fI (by omega)),e]
 ·show zsy p (d+1) _ _=_
  rw[zsy,yab (by omega)]
theorem zyZ{p:Pg}(h:VP p):zsz p=some (zyw p.Losses):=by
 rw[zyY h.ls h.l4];have h1:=(zyX h.ls h.l4 _ (yac _)).2;rw[yaZ] at h1;have:=h.many
 congr 1
 omega
theorem zy0{p:Pg}(h1:p.Losses.length<=100)(h2:p.Treaties.length<=100)(h3:p.Reports.length<=100):zsC p=some (zyx p):=by
 unfold zsC zyx zyv
 by_cases c1:4 < p.Losses.length
 ·rw[yaa (by omega),yaa (.inl c1)]
 rw[yab (by omega)]
 by_cases c2:5 < p.Treaties.length
 ·rw[yaa (by omega),yaa (.inr (.inl c2))]
 rw[yab (by omega)]
 by_cases c3:5 < p.Reports.length
 ·rw[yaa (by omega),yaa (.inr (.inr c3))]
 rw[yab (by omega),yab (show ¬ (4 < p.Losses.length\/5 < p.Treaties.length\/5 < p.Reports.length) by omega)]
 refine zyS.pick (fun c5=>?_) fun c5=>by rw[yab (by decide),yab fun h=>c5 h.res]
 rw[yaa rfl]
 have kL:=zr1 (l:=p.Losses) (F:=fun d x=>zsB p d 0 x) (ok:=fun r=>RgV r 1000) (bad:=some 1) (fin:=zsA p 1000000 0 0) (fun d k a hk=>by
  have hkl:=(yai.1 hk).1
  show(RgV a 1000->zsB p (d+1) 0 (k:Int)=_)/\_
  rw[zsB,yaa (by omega),zrS hk,obs]
  exact Ev.step zyT (by rw[yaa rfl,zqr (fI (by omega))]) (by rw[yab (by decide)])) (fun d=>by show zsB p (d+1) 0 _=_; rw[zsB,yab (yaH _)]) (d:=1000000) (by omega)
 have kT:=zrW (n:=p.Treaties.length) (F:=fun d x=>zsA p d 0 x) (ok:=fun j=>∀t,p.Treaties[j]? = some t->zyr t/\-1<=t.Of/\t.Of<=(j:Int) - 1) (bad:=some 1) (fin:=prFault_L2 p 1000000 0) (fun d k hk=>by
  have hg:=yag hk
  show(_->zsA p (d+1) 0 (k:Int)=_)/\(_->zsA p (d+1) 0 (k:Int)=_)
  rw[zsA,yaa (by omega),zrS hg,obs]
  exact((zyU (t:=p.Treaties[k]) (k:=k) (by omega)).imp ⟨fun h t ht=>by rw[hg] at ht; cases ht; exact h,fun h=>h _ hg⟩).step (by rw[yaa rfl,zqr (fI (by omega))]) (by rw[yab (by decide)])) (fun d=>by show zsA p (d+1) 0 _=_; rw[zsA,yab (yaH _)]) (d:=1000000) (by omega)
 have kR:=zr1 (l:=p.Reports) (F:=fun d x=>prFault_L2 p d x) (ok:=zyt p) (bad:=some 1) (fin:=(zsz p).bind fun r=>if (1500:Int) < r then some 3 else some 0) (fun d k a hk=>by
  have hkl:=(yai.1 hk).1
  show(zyt p a->prFault_L2 p (d+1) (k:Int)=_)/\(¬ zyt p a->prFault_L2 p (d+1) (k:Int)=_)
  rw[prFault_L2,yaa (by omega),zrS hk,obs,zqr (fI (by omega)),obs];refine⟨fun h=>?_,fun h=>?_⟩
  ·rw[zyS.some_of h.1,obs,yaa rfl,zyT.some_of h.2,obs,yaa rfl,zqr (fI (by omega))]
  ·refine zyS.pick (fun q1=>?_) fun q1=>by rw[yab (by decide)]
   rw[yaa rfl]
   refine zyT.pick (fun q2=>absurd ⟨q1,q2⟩ h) fun q2=>by rw[yab (by decide)]) (fun d=>by show prFault_L2 p (d+1) _=_; rw[prFault_L2,yab (yaH _)]) (d:=1000000) (by omega)
 by_cases c6:∀r∈p.Losses,RgV r 1000
 ·refine(kL.1 c6).trans ?_
  by_cases c7:∀j,j < p.Treaties.length->∀t,p.Treaties[j]? = some t->zyr t/\-1<=t.Of/\t.Of<=(j:Int) - 1
  ·refine(kT.1 c7).trans ?_
   by_cases c8:∀r∈p.Reports,zyt p r
   ·refine(kR.1 c8).trans ?_;rw[yaa ⟨c6,c5,fun t ht=>by obtain⟨i,hi⟩:=ybr.1 ht; exact(c7 i (yai.1 hi).1 t hi).1,fun i t ht=>(c7 i (yai.1 ht).1 t ht).2,c8⟩,zyY c6 (by omega),obs];have h9:=(zyX c6 (by omega) _ (yac _)).2;rw[yaZ] at h9
    by_cases h10:1500 < zyw p.Losses
    ·rw[yaa h10,yaa (by omega)]
    ·rw[yab h10,yab (by omega)]
   ·refine(kR.2 c8).trans ?_;rw[yab fun h=>c8 h.rs]
  ·refine(kT.2 c7).trans ?_;rw[yab fun h:zyu p=>c7 fun j _ t ht=>⟨h.ts t (yaI ht),h.of' j t ht⟩]
 ·refine(kL.2 c6).trans ?_;rw[yab fun h=>c6 h.ls]
end
end Go.Proofs.YtkcmdghjgoaggaaGreat

namespace Go.Proofs.YtkcmdghjgoaggaaGreat
open _root_.Go.Proofs.Tryz
open Go.Abs
set_option maxRecDepth 100000
noncomputable section
theorem zy1{l:List Int}(h:l ≠ [])(hl:l.length<=1048577):zsY l=some (zr5 l):=by
 unfold zsY
 cases l with
 | nil=>exact absurd rfl h
 | cons x l=>
  rw[yab (by rw[yaU]; omega),zrU rfl,obs];refine(zr4 (l:=x::l) (fun s a=>min s a) (fun d s k=>zsX (x::l) d s k) (fun s=>some s) (fun d k s a hk=>?_) (fun d s=>?_) _ 0 x (yaq _) (by omega)).trans ?_
  ·have hkl:=(yai.1 hk).1
   show zsX (x::l) (d+1) s (k:Int)=_
   rw[zsX,yaa (by omega),zrS hk,obs]
   by_cases hc:a < s
   ·rw[yaa hc,zqr (fI (by omega)),Int.min_eq_right (by omega)]
   ·rw[yab hc,zqr (fI (by omega)),Int.min_eq_left (by omega)]
  ·show zsX (x::l) (d+1) s _=_
   rw[zsX,yab (yaH _)]
  ·rw[yas]
   show some (l.foldl min (min x x))=_
   rw[Int.min_self]; rfl
theorem zy2{l:List Int}(h:l ≠ [])(hl:l.length<=1048577):zs0 l=some (zr6 l):=by
 unfold zs0
 cases l with
 | nil=>exact absurd rfl h
 | cons x l=>
  rw[yab (by rw[yaU]; omega),zrU rfl,obs];refine(zr4 (l:=x::l) (fun s a=>max s a) (fun d s k=>zsZ (x::l) d s k) (fun s=>some s) (fun d k s a hk=>?_) (fun d s=>?_) _ 1 x (by rw[yaU]; omega) (by rw[yaU]; omega)).trans ?_
  ·have hkl:=(yai.1 hk).1
   show zsZ (x::l) (d+1) s (k:Int)=_
   rw[zsZ,yaa (by omega),zrS hk,obs,zqr (fI (by omega))]
  ·show zsZ (x::l) (d+1) s _=_
   rw[zsZ,yab (yaH _)]
  ·rfl
def zy3(t:Ty):Int:=t.Most * (t.Times+1)
def zy4(t:Ty)(a b:Int):Int:=if t.Kind=0 then a * t.Part / 100 else min (min (max 0 (a - t.Above)) t.Most) (zy3 t - b)
theorem zy5{t:Ty}(ht:zgo t):0<=zy3 t/\zy3 t<=4000:=by
 unfold zy3
 rcases ht with ⟨_,_,_,h,_⟩ | ⟨_,_,_,h1,h2⟩
 ·rw[h,Int.zero_mul]; omega
 ·have:=yb5 (a:=t.Most) (b:=t.Times+1) (c:=1000) (d:=4) (by omega) (by omega) (by omega) (by omega);have:=yb8 (a:=t.Most) (b:=t.Times+1) (by omega) (by omega)
  omega
theorem zy6{t:Ty}{a:Int}(hp:1<=t.Part/\t.Part<=100)(ha:0<=a/\a<=100000):(0<=a * t.Part/\a * t.Part<=10000000)/\0<=a * t.Part / 100/\a * t.Part / 100<=a:=by
 have h1:=yb8 (a:=a) (b:=t.Part) (by omega) (by omega);have h2:=yb7 (a:=t.Part) (b:=100) (c:=a) (by omega) (by omega)
 omega
theorem zy7{t:Ty}(ht:zgo t){a b:Int}(ha:0<=a/\a<=100000)(hb:t.Kind=1->b<=zy3 t):0<=zy4 t a b/\zy4 t a b<=a/\(t.Kind=1->b+zy4 t a b<=zy3 t):=by
 unfold zy4
 rcases ht with ⟨h0,hp,_⟩ | ⟨h0,_,h3,h4,h5⟩
 ·have h1:=zy6 hp ha;rw[yaa h0]
  omega
 ·have hb:=hb h0;rw[yab (by omega)]
  omega
theorem zy8{t:Ty}(hp:1<=t.Part/\t.Part<=100){a b:Int}(ha:0<=a/\a<=100000):zs1 t a b=some (a * t.Part / 100):=by
 have h1:=zy6 hp ha;unfold zs1;rw[zqr (by omega),zqr (by omega),zqr (fI (by omega)),zqr (by omega),zqr (by omega),zqr (fI (by omega))]
theorem zy9{t:Ty}(ht:zgo t)(h1:t.Kind=1){a b:Int}(ha:0<=a/\a<=100000)(hb:-100000<=b/\b<=100000):zs2 t a b=some (zy4 t a b):=by
 have hc:=zy5 ht;unfold zgo at ht;unfold zy3 at hc;unfold zs2 zy4;rw[zqr (fI (by omega)),zqr (fI (by omega)),zqr (by omega),zqr (by omega),zqr (fI (by omega)),zqr (fI (by omega)),zy1 (by simp) (by simp),obs,yab (by omega)]
 rfl
theorem zza{t:Ty}(ht:zgo t){a b:Int}(ha:0<=a/\a<=100000)(hb:-100000<=b/\b<=100000):zsF t a b=some (zy4 t a b):=by
 have hc:=zy5 ht;unfold zsF zy4
 by_cases h0:t.Kind=0
 ·have hp:1<=t.Part/\t.Part<=100:=by unfold zgo at ht; omega
  have h1:=zy6 hp ha;rw[yaa h0,yaa h0,zqr (by omega),zqr (by omega),zqr (fI (by omega)),zqr (by omega),zqr (by omega),zqr (fI (by omega))]
 ·unfold zgo at ht;unfold zy3 at hc;rw[yab h0,yab h0,zqr (fI (by omega)),zqr (fI (by omega)),zqr (by omega),zqr (by omega),zqr (fI (by omega)),zqr (fI (by omega))]
  rfl
structure DS where
 pays:Nat->Int
 keeps:Nat->Int
 soc:Int
def zzb(t:Ty)(k:Nat)(P:Nat->Int)(s:DS):DS:=
 if t.Of = -1 then ⟨upF s.pays k (zy4 t s.soc (P k)),upF s.keeps k (zy4 t s.soc (P k)),s.soc - zy4 t s.soc (P k)⟩
 else ⟨upF s.pays k (zy4 t (s.keeps t.Of.toNat) (P k)),upF (upF s.keeps t.Of.toNat (s.keeps t.Of.toNat - zy4 t (s.keeps t.Of.toNat) (P k))) k (zy4 t (s.keeps t.Of.toNat) (P k)),s.soc⟩
def dN(ts:List Ty)(P:Nat->Int)(x:Int):Nat->DS
 | 0=>⟨fun _=>0,fun _=>0,x⟩
 | k+1=>match ts[k]? with
  | some t=>zzb t k P (dN ts P x k)
  | none=>dN ts P x k
theorem zzc{ts:List Ty}{P:Nat->Int}{x:Int}{k:Nat}{t:Ty}(h:ts[k]? = some t):dN ts P x (k+1)=zzb t k P (dN ts P x k):=by
 show(match ts[k]? with | some t=>zzb t k P (dN ts P x k) | none=>dN ts P x k)=_
 rw[h]
def zzd(ts:List Ty)(P:Nat->Int):Prop:=∀(j:Nat) (t:Ty),ts[j]? = some t->t.Kind=1->P j<=zy3 t
structure zze (ts:List Ty):Prop where
 k:∀t∈ts,zgo t
 o:zys ts
theorem VP.tsOk{p:Pg}(h:VP p):zze p.Treaties:=⟨fun t ht=>(h.ts t ht).1,h.of'⟩
structure DI (ts:List Ty) (P:Nat->Int) (x:Int) (k:Nat) (s:DS):Prop where
 soc:0<=s.soc/\s.soc<=x
 pays:∀j,0<=s.pays j/\s.pays j<=x
 keeps:∀j,0<=s.keeps j/\s.keeps j<=x
 z:∀j,k<=j->s.pays j=0/\s.keeps j=0
 cap:zzd ts fun j=>P j+s.pays j
theorem zzf{ts:List Ty}(hts:zze ts){P:Nat->Int}(hP:zzd ts P){x:Int}(hx:0<=x/\x<=100000):∀k,k<=ts.length->DI ts P x k (dN ts P x k)
 | 0,_=>⟨⟨hx.1,yam _⟩,fun _=>⟨yam _,hx.1⟩,fun _=>⟨yam _,hx.1⟩,fun _ _=>⟨rfl,rfl⟩,fun j t ht h1=>by have:=hP j t ht h1; show P j+0<=_; omega⟩
 | k+1,hk=>by
  have ih:=zzf hts hP hx k (by omega);have hg:=yag (show k < ts.length by omega);have hkd:=hts.k _ (yat (show k < ts.length by omega));have hof:=hts.o k _ hg;rw[zzc hg];generalize dN ts P x k=s at ih ⊢;generalize ts[k]'(by omega)=t at hg hkd hof;have hcp:t.Kind=1->P k<=zy3 t:=hP k t hg;unfold zzb
  by_cases h1:t.Of = -1
  ·rw[yaa h1];have hs:=ih.soc;have hb:=zy7 hkd (a:=s.soc) (by omega) hcp;refine⟨by show 0<=s.soc - zy4 t s.soc (P k)/\s.soc - zy4 t s.soc (P k)<=x; omega,fun j=>?_,fun j=>?_,fun j hj=>?_,fun j t' ht' h'=>?_⟩
   ·show 0<=upF s.pays k _ j/\upF s.pays k _ j<=x
    by_cases hjk:j=k
    ·subst hjk; rw[zyn]; omega
    ·rw[zyo _ _ hjk]; exact ih.pays j
   ·show 0<=upF s.keeps k _ j/\upF s.keeps k _ j<=x
    by_cases hjk:j=k
    ·subst hjk; rw[zyn]; omega
    ·rw[zyo _ _ hjk]; exact ih.keeps j
   ·show upF s.pays k _ j=0/\upF s.keeps k _ j=0
    rw[zyo _ _ (by omega),zyo _ _ (by omega)]; exact ih.z j (by omega)
   ·show P j+upF s.pays k _ j<=_
    by_cases hjk:j=k
    ·subst hjk; rw[hg] at ht'; cases ht'; rw[zyn]; exact hb.2.2 h'
    ·rw[zyo _ _ hjk]; exact ih.cap j t' ht' h'
  ·rw[yab h1];have hs:=ih.soc;have hk':=ih.keeps t.Of.toNat;have hb:=zy7 hkd (a:=s.keeps t.Of.toNat) (by omega) hcp;refine⟨hs,fun j=>?_,fun j=>?_,fun j hj=>?_,fun j t' ht' h'=>?_⟩
   ·show 0<=upF s.pays k _ j/\upF s.pays k _ j<=x
    by_cases hjk:j=k
    ·subst hjk; rw[zyn]; omega
    ·rw[zyo _ _ hjk]; exact ih.pays j
   ·show 0<=upF (upF s.keeps _ _) k _ j/\upF (upF s.keeps _ _) k _ j<=x
    by_cases hjk:j=k
    ·subst hjk; rw[zyn]; omega
    ·rw[zyo _ _ hjk]
     by_cases hjo:j=t.Of.toNat
     ·subst hjo; rw[zyn]; omega
     ·rw[zyo _ _ hjo]; exact ih.keeps j
   ·show upF s.pays k _ j=0/\upF (upF s.keeps _ _) k _ j=0
    rw[zyo _ _ (by omega),zyo _ _ (by omega),zyo _ _ (by omega)]; exact ih.z j (by omega)
   ·show P j+upF s.pays k _ j<=_
    by_cases hjk:j=k
    ·subst hjk; rw[hg] at ht'; cases ht'; rw[zyn]; exact hb.2.2 h'
    ·rw[zyo _ _ hjk]; exact ih.cap j t' ht' h'
def ocN(s:DS):Oc:={ pays:=mk5 s.pays,keeps:=mk5 s.keeps,society:=s.soc }
def wkD(p:Pg):WkD:={ p:=p,kinds:=zyC,shared:=(),played:=() }
theorem zzg{p:Pg}(h:VP p){P:Nat->Int}(hP:zzd p.Treaties P)(hb:∀j,0<=P j/\P j<=100000){x:Int}(hx:0<=x/\x<=1000):ztS (wkD p) { loss:=x,paid:=mk5 P }=some (ocN (dN p.Treaties P x p.Treaties.length)):=by
 have h5:=h.t5;unfold ztS
 show ztR (wkD p) _ (p.Treaties.length+1) _ _ _ _ _ _ _ _ _ _ x 0=_
 have key:=zyi (n:=p.Treaties.length) (fun d (s:DS) y=>ztR (wkD p) { loss:=x,paid:=mk5 P } d (s.pays 0) (s.pays 1) (s.pays 2) (s.pays 3) (s.pays 4) (s.keeps 0) (s.keeps 1) (s.keeps 2) (s.keeps 3) (s.keeps 4) s.soc y) (fun k=>dN p.Treaties P x k) (fin:=some (ocN (dN p.Treaties P x p.Treaties.length))) (fun d k hk=>?_) (fun d=>?_) (p.Treaties.length+1) 0 (by omega) (by omega)
 ·exact key
 ·have hg:=yag hk;have hkd:=h.tsOk.k _ (yat hk);have hof:=h.of' k _ hg;have ih:=zzf h.tsOk hP (x:=x) (by omega) k (by omega);rw[zzc hg];generalize dN p.Treaties P x k=s at ih ⊢;rw[ztR,yaa (show(k:Int) < ((wkD p).p.Treaties.length:Int) by show(k:Int) < (p.Treaties.length:Int); omega),show idx (wkD p).p.Treaties (k:Int)=_ from zrS hg,obs];generalize p.Treaties[k]=t at hg hkd hof;have hPk:idx (l5 P) (k:Int)=some (P k):=zyk (by omega);have hs:=ih.soc;have hbk:=hb k;have hcp:t.Kind=1->P k<=zy3 t:=hP k t hg;have hup:∀(f:Nat->Int) (a:Int) (j:Nat),sti (k:Int) j a (f j)=upF f k a j:=fun f a j=>zyp f k a j;unfold zzb
  by_cases h1:t.Of = -1
  ·have htk:=zy7 hkd (a:=s.soc) (by omega) hcp;rw[yaa h1,yaa h1]
   by_cases h0:t.Kind=0
   ·have e0:zy4 t s.soc (P k)=s.soc * t.Part / 100:=yaa h0;rw[yaa h0]
    show((idx (l5 P) (k:Int)).bind _)=_
    rw[hPk,obs,show(wkD p).kinds.k0.takes t s.soc (P k)=some (zy4 t s.soc (P k)) from (zy8 (b:=P k) (by unfold zgo at hkd; omega) (by omega)).trans (by rw[e0]),obs,zqr (fI (by omega)),zqr (by omega),zqr (by omega),zqr (fI (by omega))]
    simp only[hup]
   ·rw[yab h0,yaa (show t.Kind=1 by unfold zgo at hkd; omega)]
    show((idx (l5 P) (k:Int)).bind _)=_
    rw[hPk,obs,show(wkD p).kinds.k1.takes t s.soc (P k)=some (zy4 t s.soc (P k)) from zy9 hkd (by unfold zgo at hkd; omega) (by omega) (by omega),obs,zqr (fI (by omega)),zqr (by omega),zqr (by omega),zqr (fI (by omega))]
    simp only[hup]
  ·have ho:0<=t.Of/\t.Of < 5:=by omega
   have hk':=ih.keeps t.Of.toNat;have htk:=zy7 hkd (a:=s.keeps t.Of.toNat) (by omega) hcp;have hOk:idx (l5 s.keeps) t.Of=some (s.keeps t.Of.toNat):=zyl ho.1 ho.2;have huo:∀(f:Nat->Int) (a:Int) (j:Nat),sti t.Of j a (f j)=upF f t.Of.toNat a j:=fun f a j=>zyq f ho.1 a j;rw[yab h1,yab h1,zqr ho]
   by_cases h0:t.Kind=0
   ·have e0:zy4 t (s.keeps t.Of.toNat) (P k)=s.keeps t.Of.toNat * t.Part / 100:=yaa h0;rw[yaa h0]
    show((idx (l5 s.keeps) t.Of).bind _)=_
    rw[hOk,obs]
    show((idx (l5 P) (k:Int)).bind _)=_
    rw[hPk,obs,show(wkD p).kinds.k0.takes t (s.keeps t.Of.toNat) (P k)=some (zy4 t (s.keeps t.Of.toNat) (P k)) from (zy8 (b:=P k) (by unfold zgo at hkd; omega) (by omega)).trans (by rw[e0]),obs]
    show((idx (l5 s.keeps) t.Of).bind _)=_
    rw[hOk,obs,zqr (fI (by omega)),zqr (by omega),zqr (by omega),zqr (fI (by omega))]
    simp only[huo,hup]
   ·rw[yab h0,yaa (show t.Kind=1 by unfold zgo at hkd; omega)]
    show((idx (l5 s.keeps) t.Of).bind _)=_
    rw[hOk,obs]
    show((idx (l5 P) (k:Int)).bind _)=_
    rw[hPk,obs,show(wkD p).kinds.k1.takes t (s.keeps t.Of.toNat) (P k)=some (zy4 t (s.keeps t.Of.toNat) (P k)) from zy9 hkd (by unfold zgo at hkd; omega) (by omega) (by omega),obs]
    show((idx (l5 s.keeps) t.Of).bind _)=_
    rw[hOk,obs,zqr (fI (by omega)),zqr (by omega),zqr (by omega),zqr (fI (by omega))]
    simp only[huo,hup]
 ·rw[ztR,yab (show ¬ (p.Treaties.length:Int) < ((wkD p).p.Treaties.length:Int) by show ¬ (p.Treaties.length:Int) < (p.Treaties.length:Int); omega)]; rfl
def zzh(a b:DS):DS:=⟨fun j=>a.pays j+b.pays j,fun j=>a.keeps j+b.keeps j,a.soc+b.soc⟩
def zzi:DS:=⟨fun _=>0,fun _=>0,0⟩
def zzj(ts:List Ty)(s:DS)(x:Int):DS:=zzh s (dN ts s.pays x ts.length)
def zzk(ts:List Ty)(L:List Int):DS:=L.foldl (zzj ts) zzi
structure SI (ts:List Ty) (B:Int) (s:DS):Prop where
 soc:0<=s.soc/\s.soc<=B
 pays:∀j,0<=s.pays j/\s.pays j<=B
 keeps:∀j,0<=s.keeps j/\s.keeps j<=B
 z:∀j,ts.length<=j->s.pays j=0/\s.keeps j=0
 cap:zzd ts s.pays
theorem zzl{ts:List Ty}(h:zze ts):zzd ts fun _=>0:=fun _ t ht _=>(zy5 (h.k t (yaI ht))).1
theorem SI.zero{ts:List Ty}(h:zze ts):SI ts 0 zzi:=⟨⟨yam _,yam _⟩,fun _=>⟨yam _,yam _⟩,fun _=>⟨yam _,yam _⟩,fun _ _=>⟨rfl,rfl⟩,zzl h⟩
theorem SI.step{ts:List Ty}(hts:zze ts){B:Int}{s:DS}(h:SI ts B s){x:Int}(hx:0<=x/\x<=100000):SI ts (B+x) (zzj ts s x):=by
 have hd:=zzf hts h.cap hx ts.length (yac _);refine⟨?_,fun j=>?_,fun j=>?_,fun j hj=>?_,hd.cap⟩
 ·have:=h.soc; have:=hd.soc; show 0<=s.soc+_/\s.soc+_<=_; omega
 ·have:=h.pays j; have:=hd.pays j; show 0<=s.pays j+_/\s.pays j+_<=_; omega
 ·have:=h.keeps j; have:=hd.keeps j; show 0<=s.keeps j+_/\s.keeps j+_<=_; omega
 ·have:=h.z j hj; have:=hd.z j hj; show s.pays j+_=0/\s.keeps j+_=0; omega
def zzm(L:List Int):Int:=L.foldl (· + ·) 0
theorem zzn(L:List Int):∀a,L.foldl (· + ·) a=a+zzm L:=by
 unfold zzm
 induction L with
 | nil=>intro a; show a=a+0; omega
 | cons x L ih=>intro a; show L.foldl _ (a+x)=a+L.foldl _ (0+x); rw[ih,ih (0+x)]; omega
theorem zzo(x:Int)(L:List Int):zzm (x::L)=x+zzm L:=by
 show L.foldl _ (0+x)=_
 rw[zzn]; omega
theorem zzp{ts:List Ty}(hts:zze ts):∀{L:List Int},(∀x∈L,0<=x/\x<=100000)->∀{B:Int} {s:DS},SI ts B s->SI ts (B+zzm L) (L.foldl (zzj ts) s)
 | [],_,B,s,h=>by show SI ts (B+0) s; rw[Int.add_zero]; exact h
 | x::L,hL,B,s,h=>by
  rw[zzo,<- Int.add_assoc];exact zzp hts (fun y hy=>hL y (yah _ hy)) (h.step hts (hL x (yad ..)))
theorem zzq{ts:List Ty}(hts:zze ts){L:List Int}(hL:∀x∈L,0<=x/\x<=100000):SI ts (zzm L) (zzk ts L):=by
 have:=zzp hts hL (SI.zero hts)
 rwa [Int.zero_add] at this
theorem zzr{L:List Int}(hL:∀x∈L,0<=x/\x<=1000):0<=zzm L/\zzm L<=1000 * L.length:=by
 induction L with
 | nil=>exact⟨yam _,yam _⟩
 | cons x L ih=>
  have h1:=hL x (yad ..);have h2:=ih fun y hy=>hL y (yah _ hy);rw[zzo,yaU]
  omega
theorem zzs{a b:DS}(ha:(∀j,-1000000<=a.pays j/\a.pays j<=1000000)/\(∀j,-1000000<=a.keeps j/\a.keeps j<=1000000)/\-1000000<=a.soc/\a.soc<=1000000)(hb:(∀j,-1000000<=b.pays j/\b.pays j<=1000000)/\(∀j,-1000000<=b.keeps j/\b.keeps j<=1000000)/\-1000000<=b.soc/\b.soc<=1000000):ztN (ocN a) (ocN b)=some (ocN (zzh a b)):=by
 obtain⟨a1,a2,a3⟩:=ha;obtain⟨b1,b2,b3⟩:=hb;unfold ztN
 let st:Nat->DS:=fun k=>⟨fun j=>if j < k then a.pays j+b.pays j else a.pays j,fun j=>if j < k then a.keeps j+b.keeps j else a.keeps j,a.soc⟩
 have key:=zyi (n:=5) (fun d (s:DS) y=>ztM (ocN b) d (s.pays 0) (s.pays 1) (s.pays 2) (s.pays 3) (s.pays 4) (s.keeps 0) (s.keeps 1) (s.keeps 2) (s.keeps 3) (s.keeps 4) s.soc y) st (fin:=some (ocN (zzh a b))) (fun d k hk=>?_) (fun d=>?_) 6 0 (by omega) (by omega)
 ·exact key
 ·have p1:=a1 k; have p2:=b1 k; have p3:=a2 k; have p4:=b2 k;have e1:(st k).pays k=a.pays k:=yab (by omega);have e2:(st k).keeps k=a.keeps k:=yab (by omega)
  have u1:∀j,sti (k:Int) j (a.pays k+b.pays k) ((st k).pays j)=(st (k+1)).pays j:=fun j=>by
   rw[zyp]
   show(if j=k then _ else (if j < k then a.pays j+b.pays j else a.pays j))=if j < k+1 then a.pays j+b.pays j else a.pays j
   by_cases h:j=k
   ·subst h; rw[yaa rfl,yaa (by omega)]
   ·by_cases h2:j < k
    ·rw[yab h,yaa h2,yaa (by omega)]
    ·rw[yab h,yab h2,yab (by omega)]
  have u2:∀j,sti (k:Int) j (a.keeps k+b.keeps k) ((st k).keeps j)=(st (k+1)).keeps j:=fun j=>by
   rw[zyp]
   show(if j=k then _ else (if j < k then a.keeps j+b.keeps j else a.keeps j))=if j < k+1 then a.keeps j+b.keeps j else a.keeps j
   by_cases h:j=k
   ·subst h; rw[yaa rfl,yaa (by omega)]
   ·by_cases h2:j < k
    ·rw[yab h,yaa h2,yaa (by omega)]
    ·rw[yab h,yab h2,yab (by omega)]
  rw[ztM,yaa (by omega)]
  show((idx (l5 (st k).pays) (k:Int)).bind _)=_
  rw[zyk hk,obs]
  show((idx (l5 b.pays) (k:Int)).bind _)=_
  rw[zyk hk,obs,e1,zqr (fI (by omega)),zqr (by omega)]
  show((idx (l5 (st k).keeps) (k:Int)).bind _)=_
  rw[zyk hk,obs]
  show((idx (l5 b.keeps) (k:Int)).bind _)=_
  rw[zyk hk,obs,e2,zqr (fI (by omega)),zqr (by omega),zqr (fI (by omega)),u1 0,u1 1,u1 2,u1 3,u1 4,u2 0,u2 1,u2 2,u2 3,u2 4]
 ·rw[ztM,yab (by omega)]
  show gd (zl7 .i64 (a.soc+b.soc)) _=_
  rw[zqr (fI (by omega))]; rfl
def zzt(p:Pg)(M:Option (Mt->Option Oc)):Prop:=∃f,M=some f/\∀m o,f m=some o->ztS (wkD p) m=some o
theorem zzt.nil(p:Pg):zzt p (some fun _=>none):=⟨_,rfl,fun _ _ h=>by cases h⟩
def wkP(p:Pg)(M:Option (Mt->Option Oc)):WkP:={ p:=p,kinds:=zyC,shared:=M,played:=() }
open Classical in
theorem zzu{p:Pg}{M:Option (Mt->Option Oc)}(hM:zzt p M){m:Mt}{o:Oc}(hf:MK.fit m)(hd:ztS (wkD p) m=some o):∃M',ztT (wkP p M) m=some (o,M')/\zzt p M':=by
 obtain⟨f,rfl,hf2⟩:=hM;unfold ztT;rw[zqr hf]
 cases hfm:f m with
 | none=>
  refine⟨some fun j=>if j=m then some o else f j,?_,_,rfl,fun j o' h=>?_⟩
  ·rw[zqT (show zqK (wkP p (some f)).shared m=none from hfm),show ztS ({ p:=(wkP p (some f)).p,kinds:=(wkP p (some f)).kinds,shared:=(),played:=() }:WkD) m=some o from hd,obs,zqr hf]
   show(Option.bind (some _) _)=_
   rw[obs]
  ·by_cases hj:j=m
   ·rw[yaa hj] at h; cases h; rw[hj]; exact hd
   ·rw[yab hj] at h; exact hf2 j o' h
 | some o'=>
  have:=hf2 m o' hfm;rw[hd] at this
  cases this
  exact⟨some f,by rw[zqU (show zqK (wkP p (some f)).shared m=some o from hfm)]; rfl,f,rfl,hf2⟩
theorem zzv{p:Pg}(h:VP p){L:List Int}(hL:∀x∈L,0<=x/\x<=1000)(hl:L.length<=4){w:WkP}(hw:w.p=p/\w.kinds=zyC):∀(d k:Nat) (s:DS) (M:Option (Mt->Option Oc)),k<=L.length->L.length - k < d->SI p.Treaties (1000 * k) s->zzt p M ->
  ∃M',ztU w L d (s.pays 0) (s.pays 1) (s.pays 2) (s.pays 3) (s.pays 4) (s.keeps 0) (s.keeps 1) (s.keeps 2) (s.keeps 3) (s.keeps 4) s.soc M (k:Int)=some (ocN ((L.drop k).foldl (zzj p.Treaties) s),M')/\zzt p M'
 | 0,_,_,_,_,hd,_,_=>by omega
 | d+1,k,s,M,hk,hd,hs,hM=>by
  rw[ztU]
  by_cases hkl:k < L.length
  ·have hg:=yag hkl;have hx:=hL _ (yat hkl);have hp:=hs.pays;have hkp:=hs.keeps;have hso:=hs.soc
   have hb:∀j,0<=s.pays j/\s.pays j<=100000:=fun j=>by have:=hp j; omega
   have hdv:=zzg h hs.cap hb hx;have hdi:=zzf h.tsOk hs.cap (x:=L[k]) (by omega) p.Treaties.length (yac _);obtain⟨M',q1,q2⟩:=zzu hM (m:={ loss:=L[k],paid:=mk5 s.pays }) ⟨fI (by show _<=L[k]/\L[k] < _; omega),fI (by have:=hb 0; show _<=s.pays 0/\s.pays 0 < _; omega),fI (by have:=hb 1; show _<=s.pays 1/\s.pays 1 < _; omega),fI (by have:=hb 2; show _<=s.pays 2/\s.pays 2 < _; omega),fI (by have:=hb 3; show _<=s.pays 3/\s.pays 3 < _; omega),fI (by have:=hb 4; show _<=s.pays 4/\s.pays 4 < _; omega),trivial⟩ hdv;rw[yaa (by omega),zrS hg,obs,hw.1,hw.2]
   show ∃M',((ztT (wkP p M) { loss:=L[k],paid:=mk5 s.pays }).bind _)=_/\_
   rw[q1,obs]
   show ∃M',((ztN (ocN s) (ocN (dN p.Treaties s.pays L[k] p.Treaties.length))).bind _)=_/\_
   rw[zzs ⟨fun j=>by have:=hp j; omega,fun j=>by have:=hkp j; omega,by omega⟩ ⟨fun j=>by have:=hdi.pays j; omega,fun j=>by have:=hdi.keeps j; omega,by have:=hdi.soc; omega⟩,obs,zqr (fI (by omega)),show(k:Int)+1=((k+1:Nat):Int) by omega,yaJ hkl];have hs':=hs.step h.tsOk (x:=L[k]) (by omega);refine zzv h hL hl hw d (k+1) (zzj p.Treaties s L[k]) M' (by omega) (by omega) ⟨?_,fun j=>?_,fun j=>?_,hs'.z,hs'.cap⟩ q2
   ·have:=hs'.soc; omega
   ·have:=hs'.pays j; omega
   ·have:=hs'.keeps j; omega
  ·rw[yab (by omega),ybe (by omega)];exact⟨M,rfl,hM⟩
theorem zzw{p:Pg}(h:VP p){L:List Int}(hL:∀x∈L,0<=x/\x<=1000)(hl:L.length<=4){M:Option (Mt->Option Oc)}(hM:zzt p M):∃M',ztV (wkP p M) L=some (ocN (zzk p.Treaties L),M')/\zzt p M':=
 zzv h hL hl (w:=wkP p M) ⟨rfl,rfl⟩ (L.length+1) 0 zzi M (yaq _) (by omega) (SI.zero h.tsOk) hM
end
end Go.Proofs.YtkcmdghjgoaggaaGreat

namespace Go.Proofs.YtkcmdghjgoaggaaGreat
open _root_.Go.Proofs.Tryz
open Go.Abs
set_option maxRecDepth 100000
noncomputable section
def inL:List Rg->List Int->Prop
 | [],[]=>True
 | r::rs,x::xs=>(r.Lo<=x/\x<=r.Hi)/\inL rs xs
 | _,_=>False
theorem zzx:∀{rs:List Rg} {xs:List Int},inL rs xs->xs.length=rs.length
 | [],[],_=>rfl
 | r::rs,x::xs,h=>by rw[yaU,yaU,zzx h.2]
 | [],x::xs,h=>h.elim
 | r::rs,[],h=>h.elim
theorem zzy:∀{rs:List Rg} {xs:List Int},inL rs xs->∀{i:Nat} {r:Rg} {x:Int},rs[i]? = some r->xs[i]? = some x->r.Lo<=x/\x<=r.Hi
 | [],[],_,_,_,_,h,_=>by cases h
 | r::rs,x::xs,h,0,_,_,h1,h2=>by cases h1; cases h2; exact h.1
 | r::rs,x::xs,h,i+1,_,_,h1,h2=>zzy h.2 (i:=i) h1 h2
 | [],x::xs,h,_,_,_,_,_=>h.elim
 | r::rs,[],h,_,_,_,_,_=>h.elim
theorem zzz:∀{rs:List Rg} {xs:List Int},xs.length=rs.length->(∀(i:Nat) (r:Rg) (x:Int),rs[i]? = some r->xs[i]? = some x->r.Lo<=x/\x<=r.Hi)->inL rs xs
 | [],[],_,_=>trivial
 | r::rs,x::xs,h,h2=>⟨h2 0 r x rfl rfl,zzz (by simpa using h) fun i r x h3 h4=>h2 (i+1) r x h3 h4⟩
 | [],x::xs,h,_=>by simp at h
 | r::rs,[],h,_=>by simp at h
theorem zzA{rs:List Rg}{xs:List Int}(h:inL rs xs)(hr:∀r∈rs,RgV r 1000):∀x∈xs,0<=x/\x<=1000:=fun x hx=>by
 obtain⟨i,hi⟩:=ybr.1 hx;have hil:=(yai.1 hi).1;rw[zzx h] at hil;have hg:=yag hil;have h1:=zzy h hg hi;have h2:=hr _ (yat hil);unfold RgV at h2
 omega
theorem zzB:∀{rs:List Rg} {pre D:List Int},D∈chW rs pre↔∃T,D=pre++T/\inL rs T
 | [],pre,D=>by
  show D∈[pre]↔_
  rw[yaC]
  constructor
  ·rintro rfl; exact⟨[],by simp,trivial⟩
  ·rintro⟨T,h1,h2⟩
   cases T with
   | nil=>rw[h1,yaO]
   | cons x T=>exact h2.elim
 | r::rs,pre,D=>by
  show D∈zrx (fun n=>chW rs (pre++[r.Lo+(n:Int)])) (szR r).toNat 0↔_
  rw[zwC];have hsz:szR r=r.Hi - r.Lo+1:=rfl
  constructor
  ·rintro⟨j,h1,h2,h3⟩
   obtain⟨T,h4,h5⟩:=zzB.1 h3;exact⟨(r.Lo+(j:Int))::T,by rw[h4]; simp,⟨by omega,h5⟩⟩
  ·rintro⟨T,h1,h2⟩
   cases T with
   | nil=>exact h2.elim
   | cons x T=>
    obtain⟨h3,h4⟩:=h2;refine⟨(x - r.Lo).toNat,yaq _,by omega,zzB.2 ⟨T,?_,h4⟩⟩;rw[h1,show r.Lo+(((x - r.Lo).toNat:Nat):Int)=x by omega]; simp
theorem zzC{α:Type}{g:Nat->List α}{c:Nat}(h:∀x,(g x).length=c):∀e n,(zrx g e n).length=e * c
 | 0,_=>by show 0=_; omega
 | e+1,n=>by show(g n++zrx g e (n+1)).length=_; rw[yan,h,zzC h e,ybs]; omega
theorem zzD:∀{rs:List Rg},(∀r∈rs,RgV r 1000)->∀{pre:List Int},((chW rs pre).length:Int)=zyw rs
 | [],_,_=>rfl
 | r::rs,h,pre=>by
  have h1:=h r (yad ..);have ih:=fun {pre:List Int}=>zzD (rs:=rs) (fun r hr=>h r (yah _ hr)) (pre:=pre)
  show((zrx (fun n=>chW rs (pre++[r.Lo+(n:Int)])) (szR r).toNat 0).length:Int)=(r.Hi - r.Lo+1) * zyw rs
  have hc:∀x:Nat,((fun n:Nat=>chW rs (pre++[r.Lo+(n:Int)])) x).length=(chW rs []).length:=fun x=>by
   have e1:=ih (pre:=pre++[r.Lo+(x:Int)]);have e2:=ih (pre:=[])
   dsimp only; omega
  rw[zzC hc];have hsz:szR r=r.Hi - r.Lo+1:=rfl;unfold RgV at h1;rw[<- ih (pre:=[]),yce,hsz,Int.toNat_of_nonneg (by omega)]
def zzE(p:Pg):List (List Int):=chW p.Losses []
theorem zzF{p:Pg}{L:List Int}:L∈zzE p↔inL p.Losses L:=by
 unfold zzE;rw[zzB];exact⟨fun⟨T,h1,h2⟩=>by rw[h1]; exact h2,fun h=>⟨L,rfl,h⟩⟩
theorem zzG{p:Pg}(h:VP p):(zzE p).length<=1500:=by
 have h1:=zzD h.ls (pre:=[]);have h2:=h.many;unfold zzE
 omega
theorem zzH{p:Pg}(h:VP p):zt3 p=some (zzE p):=by
 have h4:=h.l4;unfold zt3;rw[zyQ (by omega),obs];unfold zt2;rw[zqr ⟨by omega,fun r hr=>by have h1:=h.ls r hr; unfold RgV at h1; unfold okR; omega⟩,obs]; rfl
theorem zzI{p:Pg}(h:VP p):∃L,inL p.Losses L:=by
 refine⟨p.Losses.map (·.Lo),zzz (by rw[yay]) fun i r x h1 h2=>?_⟩;rw[ybB,h1] at h2
 cases h2
 have:=h.ls r (yaI h1);unfold RgV at this
 show r.Lo<=r.Lo/\r.Lo<=r.Hi
 omega
def oc(p:Pg)(L:List Int):Oc:=ocN (zzk p.Treaties L)
open Classical in
def grp(p:Pg)(A:List (List Int))(k:P5):List Oc:=(A.map (oc p)).filter fun o=>decide (o.pays=k)
def plM(p:Pg)(A:List (List Int)):Option (P5->Option (List Oc)):=some fun k=>if grp p A k=[] then none else some (grp p A k)
open Classical in
theorem zzJ(p:Pg)(A:List (List Int))(k:P5):(zqK (plM p A) k).getD []=grp p A k:=by
 show(if grp p A k=[] then none else some (grp p A k)).getD []=_
 by_cases h:grp p A k=[]
 ·rw[yaa h,h]; rfl
 ·rw[yab h]; rfl
open Classical in
theorem zzK(p:Pg)(A:List (List Int))(L:List Int)(k:P5):grp p (A++[L]) k=if (oc p L).pays=k then grp p A k++[oc p L] else grp p A k:=by
 unfold grp;rw[ya2,List.filter_append]
 by_cases h:(oc p L).pays=k
 ·rw[yaa h,ya1,ybZ,ybW (by simp[h])]; rfl
 ·rw[yab h,ya1,ybZ,ybV (by simp[h]),List.filter_nil,yaO]
open Classical in
theorem zzL(p:Pg)(A:List (List Int))(L:List Int):zqL (plM p A) (oc p L).pays ((zqK (plM p A) (oc p L).pays).getD []++[oc p L])=some (plM p (A++[L])):=by
 rw[zzJ]
 show some (some fun j=>if j=(oc p L).pays then _ else _)=some (some _)
 congr 2
 funext j
 rw[zzK]
 by_cases h:j=(oc p L).pays
 ·subst h;rw[yaa rfl,yaa rfl,yab (by simp)]
 ·rw[yab h,yab (Ne.symm h)]
def zzM(p:Pg)(A:List (List Int)):Wk:={ p:=p,kinds:=zyC,shared:=(),played:=plM p A }
theorem zzN{f:Nat->Int}(h:∀j,0<=f j/\f j<=100000):MK.fit (mk5 f):=
 ⟨fI (by have:=h 0; show _<=f 0/\f 0 < _; omega),fI (by have:=h 1; show _<=f 1/\f 1 < _; omega),fI (by have:=h 2; show _<=f 2/\f 2 < _; omega),fI (by have:=h 3; show _<=f 3/\f 3 < _; omega),fI (by have:=h 4; show _<=f 4/\f 4 < _; omega),trivial⟩
theorem zzO{p:Pg}(h:VP p){L:List Int}(hL:inL p.Losses L):SI p.Treaties (zzm L) (zzk p.Treaties L)/\0<=zzm L/\zzm L<=4000:=by
 have hb:=zzA hL h.ls;have h1:=zzr hb;have h2:=zzx hL;have h4:=h.l4;exact⟨zzq h.tsOk fun x hx=>by have:=hb x hx; omega,by omega,by omega⟩
theorem zzP{p:Pg}(h:VP p){L:List Int}(hL:inL p.Losses L):MK.fit (oc p L).pays:=by
 obtain⟨h1,h2,h3⟩:=zzO h hL
 exact zzN fun j=>by have:=h1.pays j; omega
theorem zzQ{p:Pg}(h:VP p):∀(q A:List (List Int)) (M:Option (Mt->Option Oc)),(∀L∈q,inL p.Losses L)->A.length+q.length<=1500->zzt p M->zt5 p zyC q M (plM p A)=some (zzM p (A++q))
 | [],A,M,_,_,_=>by rw[zt5,yaO]; rfl
 | L::q,A,M,hq,hl,hM=>by
  have hL:=hq L (yad ..);have h4:=h.l4;obtain⟨M',q1,q2⟩:=zzw h (zzA hL h.ls) (by rw[zzx hL]; omega) hM;rw[zt5]
  show((ztV (wkP p M) L).bind _)=_
  rw[q1,obs]
  show gd (MK.fit (oc p L).pays) _=_
  rw[zqr (zzP h hL)]
  show gd (((zqK (plM p A) (oc p L).pays).getD []).length < 1048576) ((zqL (plM p A) (oc p L).pays ((zqK (plM p A) (oc p L).pays).getD []++[oc p L])).bind _)=_
  rw[zzL,obs,zqr ?_]
  ·show zt5 p zyC q M' (plM p (A++[L]))=_
   rw[zzQ h q (A++[L]) M' (fun L hL=>hq L (yah _ hL)) (by rw[yan]; simp only[List.length_cons,List.length_nil] at hl ⊢; omega) q2,yaK]; rfl
  ·rw[zzJ];have:(grp p A (oc p L).pays).length<=(A.map (oc p)).length:=List.length_filter_le _ _;rw[yay] at this
   simp only[List.length_cons] at hl
   omega
theorem zzR(p:Pg):plM p []=some fun _=>none:=rfl
theorem zzS{p:Pg}(h:VP p):zt6 p=some (zzM p (zzE p)):=by
 unfold zt6;rw[zyD,obs,zzH h,obs];have:=zzQ h (zzE p) [] _ (fun L hL=>zzF.1 hL) (by have:=zzG h; simp only[List.length_nil]; omega) (zzt.nil p);rw[zzR,ybh] at this;exact this
def agN(P:Nat->Int)(rs:List Rpt):Prop:=∀r∈rs,r.Paid.Lo<=P r.Treaty.toNat/\P r.Treaty.toNat<=r.Paid.Hi
def zzT(rs:List Rpt):Prop:=∀r∈rs,0<=r.Treaty/\r.Treaty < 5
theorem VP.rsOk{p:Pg}(h:VP p):zzT p.Reports:=fun r hr=>by have:=(h.rs r hr).1; have:=h.t5; omega
theorem zzU{P:Nat->Int}{rs:List Rpt}(hr:zzT rs)(hs:zr2 rs):Ev (ztQ (mk5 P) rs) (agN P rs):=
 (show Ev (ztp rs fun a=>ztP a (mk5 P)) (agN P rs) from Ev.each (l:=rs) (p:=fun a=>ztP a (mk5 P)) (q:=fun r=>r.Paid.Lo<=P r.Treaty.toNat/\P r.Treaty.toNat<=r.Paid.Hi) (fun r hm=>by
  show Ev ((idx (l5 P) r.Treaty).bind _) _
  rw[zyl (hr r hm).1 (hr r hm).2,obs]
  exact zyz.ret) hs.lt gQ).ret
open Classical in
theorem zzV{p:Pg}(h:VP p){A:List (List Int)}(hA:∀L∈A,inL p.Losses L)(ks:List P5):zrm (plM p A) ks↔ks.Nodup/\∀k,k∈ks↔∃L∈A,(oc p L).pays=k:=by
 have hm:∀k,(MK.fit k/\zqK (plM p A) k ≠ none)↔∃L∈A,(oc p L).pays=k:=fun k=>by
  show(MK.fit k/\(if grp p A k=[] then none else some (grp p A k)) ≠ none)↔_
  constructor
  ·rintro⟨_,h2⟩
   by_cases hg:grp p A k=[]
   ·rw[yaa hg] at h2; exact absurd rfl h2
   ·obtain⟨o,ho⟩:=ycB _ hg;obtain⟨h3,h4⟩:=yaS.1 ho;obtain⟨L,h5,rfl⟩:=yar.1 h3;exact⟨L,h5,of_decide_eq_true h4⟩
  ·rintro⟨L,h1,rfl⟩
   refine⟨zzP h (hA L h1),?_⟩;have hg:oc p L∈grp p A (oc p L).pays:=yaS.2 ⟨yar.2 ⟨L,h1,rfl⟩,decide_eq_true rfl⟩;rw[yab fun he=>by rw[he] at hg; cases hg];exact yaF _
 exact and_congr_right fun _=>forall_congr' fun k=>by rw[hm]
theorem zzW{α:Type}:∀L:List α,∃ks:List α,ks.Nodup/\∀k,k∈ks↔k∈L
 | []=>⟨[],ycv,fun _=>Iff.rfl⟩
 | a::L=>by
  obtain⟨ks,h1,h2⟩:=zzW L
  by_cases h:a∈ks
  ·refine⟨ks,h1,fun k=>?_⟩;rw[h2,yaj];exact⟨.inr,fun hk=>hk.elim (fun he=>by rw[he]; exact(h2 a).1 h) id⟩
  ·exact⟨a::ks,ybY.2 ⟨h,h1⟩,fun k=>by rw[yaj,yaj,h2]⟩
theorem zzX{p:Pg}(h:VP p){A:List (List Int)}(hA:∀L∈A,inL p.Losses L):∃ks,zrm (plM p A) ks:=by
 obtain⟨ks,h1,h2⟩:=zzW (A.map fun L=>(oc p L).pays);exact⟨ks,(zzV h hA ks).2 ⟨h1,fun k=>(h2 k).trans yar⟩⟩
def agK(k:P5)(rs:List Rpt):Prop:=∃P,k=mk5 P/\agN P rs
theorem zzY{P:Nat->Int}{rs:List Rpt}(hr:zzT rs):agK (mk5 P) rs↔agN P rs:=by
 refine⟨fun⟨P',h1,h2⟩ r hm=>?_,fun h=>⟨P,rfl,h⟩⟩;have:=hr r hm;have e:=zym h1 (k:=r.Treaty.toNat) (by omega);rw[e]; exact h2 r hm
theorem zzZ(k:P5):∃f,k=mk5 f:=⟨fun j=>match j with | 0=>k.p0 | 1=>k.p1 | 2=>k.p2 | 3=>k.p3 | _=>k.p4,rfl⟩
theorem zz0{k:P5}{rs:List Rpt}(hr:zzT rs)(hs:zr2 rs):Ev (ztQ k rs) (agK k rs):=by
 obtain⟨f,rfl⟩:=zzZ k;exact(zzU hr hs).imp (zzY hr).symm
theorem zz1{w:Wk}{rs:List Rpt}(hr:zzT rs)(hs:zr2 rs):∀(d:Nat) (rem:List P5),rem.length < d->(∀k∈rem,zqK w.played k ≠ none)->Ev (pcanHold_L0 w rs d rem) (∃k∈rem,agK k rs)
 | 0,_,h,_=>by omega
 | d+1,rem,h,hm=>by
  by_cases hex:∃k∈rem,agK k rs
  ·refine⟨true,?_,⟨fun _=>hex,fun _=>rfl⟩⟩;unfold pcanHold_L0
   refine zrt (fun l1 a l2 hrr=>?_) fun hrr=>by subst hrr; obtain⟨k,hk,_⟩:=hex; cases hk
   subst hrr;obtain⟨v,hv⟩:=yb2.1 (hm a (by simp));rw[hv,obs];refine(zz0 hr hs).pick (fun ha=>by rw[yaa rfl]) fun ha=>?_;rw[yab (by decide)];refine(zz1 hr hs d (l1++l2) (by simp only[List.length_append,List.length_cons] at h ⊢; omega) fun k hk=>hm k ?_).some_of ?_
   ·rcases yaV.1 hk with h | h
    ·exact ya5 _ h
    ·exact ya6 _ (yah _ h)
   ·obtain⟨k,hk,h2⟩:=hex;refine⟨k,?_,h2⟩
    rcases yaV.1 hk with h | h
    ·exact ya5 _ h
    ·rcases yaj.1 h with h | h
     ·exact absurd (h ▸ h2) ha
     ·exact ya6 _ h
  ·refine⟨false,?_,⟨fun h=>(by cases h),fun h=>absurd h hex⟩⟩;unfold pcanHold_L0;refine zrt (fun l1 a l2 hrr=>?_) fun hrr=>rfl;subst hrr;obtain⟨v,hv⟩:=yb2.1 (hm a (by simp));rw[hv,obs,(zz0 hr hs).some_not fun ha=>hex ⟨a,by simp,ha⟩,obs,if_neg (by decide)];refine(zz1 hr hs d (l1++l2) (by simp only[List.length_append,List.length_cons] at h ⊢; omega) fun k hk=>hm k ?_).some_not ?_
   ·rcases yaV.1 hk with h | h
    ·exact ya5 _ h
    ·exact ya6 _ (yah _ h)
   ·rintro⟨k,hk,h2⟩
    refine hex ⟨k,?_,h2⟩
    rcases yaV.1 hk with h | h
    ·exact ya5 _ h
    ·exact ya6 _ (yah _ h)
def zz2(p:Pg)(rs:List Rpt):Prop:=∃L,inL p.Losses L/\agN (zzk p.Treaties L).pays rs
theorem zz3{p:Pg}(h:VP p){rs:List Rpt}(hr:zzT rs)(hs:zr2 rs):Ev (zt7 (zzM p (zzE p)) rs) (zz2 p rs):=by
 have hA:∀L∈zzE p,inL p.Losses L:=fun L hL=>zzF.1 hL;obtain⟨ks0,h0⟩:=zzX h hA
 have key:∀ks,zrm (plM p (zzE p)) ks->Ev (pcanHold_L0 (zzM p (zzE p)) rs (ks.length+1) ks) (zz2 p rs):=fun ks hk=>by
  have h2:=((zzV h hA ks).1 hk).2;refine(zz1 hr hs _ ks (by omega) fun k hkk=>((hk.2 k).1 hkk).2).imp ⟨?_,?_⟩
  ·rintro⟨k,hk1,hk2⟩
   obtain⟨L,hL,rfl⟩:=(h2 k).1 hk1;exact⟨L,hA L hL,(zzY hr).1 hk2⟩
  ·rintro⟨L,hL,h3⟩
   exact⟨_,(h2 _).2 ⟨L,zzF.2 hL,rfl⟩,(zzY hr).2 h3⟩
 unfold zt7
 by_cases hc:zz2 p rs
 ·exact⟨true,zrp h0 fun ks hk=>(key ks hk).some_of hc,⟨fun _=>hc,fun _=>rfl⟩⟩
 ·exact⟨false,zrp h0 fun ks hk=>(key ks hk).some_not hc,⟨fun h=>(by cases h),fun h=>absurd h hc⟩⟩
end
end Go.Proofs.YtkcmdghjgoaggaaGreat

namespace Go.Proofs.YtkcmdghjgoaggaaGreat
open _root_.Go.Proofs.Tryz
open Go.Abs
set_option maxRecDepth 100000
noncomputable section
def zz4(S:Int->Prop)(x:Int):Prop:=S x/\∀y,S y->x<=y
def zz5(S:Int->Prop)(x:Int):Prop:=S x/\∀y,S y->y<=x
theorem zz6{S:Int->Prop}{x y:Int}(h:zz4 S x)(h':zz4 S y):x=y:=Int.le_antisymm (h.2 _ h'.1) (h'.2 _ h.1)
theorem zz7{S:Int->Prop}{x y:Int}(h:zz5 S x)(h':zz5 S y):x=y:=Int.le_antisymm (h'.2 _ h.1) (h.2 _ h'.1)
theorem zz8{number:Oc->Option Int}{g:Oc->Int}{ws:List Oc}{y:List P5}{K:List Int->List P5->Option Rg}(hg:∀o∈ws,number o=some (g o)){acc:List Int}(hl:acc.length+ws.length<=1048576):zt8 number ws y K (ws.length+1) acc 0=K (acc++ws.map g) y:=by
 have key:=zyi (n:=ws.length) (fun d (s:List Int) x=>zt8 number ws y K d s x) (fun k=>acc++(ws.take k).map g) (fin:=K (acc++ws.map g) y) (fun d k hk=>?_) (fun d=>?_) (ws.length+1) 0 (by omega) (by omega)
 ·rw[ybj,ybZ,yaO] at key; exact key
 ·have hgt:=yag hk;rw[zt8,yaa (by omega),zrS hgt,obs,hg _ (yat hk),obs,zqr (by rw[yan,yay,yau]; omega),zqr (fI (by omega)),ybf,hgt,ya2,<- yaK]; rfl
 ·rw[zt8,yab (by omega),yaZ]
def tot(p:Pg)(A:List (List Int))(ks:List P5):Nat:=(ks.map fun k=>(grp p A k).length).sum
def zz9(p:Pg)(A:List (List Int))(rs:List Rpt)(g:Oc->Int)(ks:List P5)(y:Int):Prop:=∃k∈ks,agK k rs/\∃o∈grp p A k,g o=y
theorem zAa{p:Pg}{A:List (List Int)}{w:Wk}{number:Oc->Option Int}{g:Oc->Int}{lo hi:Int}(hr:zzT w.p.Reports)(hs:zr2 w.p.Reports):∀(d:Nat) (rem:List P5) (acc:List Int),rem.length < d->acc.length+tot p A rem<=1048576->(∀k∈rem,zqK w.played k=some (grp p A k)/\∀o∈grp p A k,number o=some (g o)) ->
  zz4 (fun y=>y∈acc\/zz9 p A w.p.Reports g rem y) lo->zz5 (fun y=>y∈acc\/zz9 p A w.p.Reports g rem y) hi->pboundsW_L0 w number d acc rem=some { Lo:=lo,Hi:=hi }
 | 0,_,_,h,_,_,_,_=>by omega
 | d+1,rem,acc,h,hacc,hm,h1,h2=>by
  unfold pboundsW_L0;refine zrt (fun l1 a l2 hrr=>?_) fun hrr=>?_
  ·subst hrr
   have hsub:∀x,x∈l1++l2->x∈l1++a::l2:=fun x hx=>by
    rcases yaV.1 hx with h | h
    ·exact ya5 _ h
    ·exact ya6 _ (yah _ h)
   have hspl:∀x,x∈l1++a::l2↔x=a\/x∈l1++l2:=fun x=>by simp only[List.mem_append,List.mem_cons]; constructor <;> (intro h; rcases h with h | h | h <;> simp[h])
   obtain⟨k1,k2⟩:=hm a (by simp)
   have hlen:(l1++l2).length+1=(l1++a::l2).length:=by simp only[List.length_append,List.length_cons]; omega
   have htot:tot p A (l1++a::l2)=(grp p A a).length+tot p A (l1++l2):=by unfold tot; simp only[List.map_append,List.map_cons,List.sum_append,List.sum_cons]; omega
   rw[k1,obs]
   by_cases ha:agK a w.p.Reports
   ·rw[(zz0 hr hs).some_of ha,obs,yaa rfl,zz8 k2 (by omega)]
    have hiff:(fun y=>y∈acc++(grp p A a).map g\/zz9 p A w.p.Reports g (l1++l2) y)=fun y=>y∈acc\/zz9 p A w.p.Reports g (l1++a::l2) y:=funext fun y=>propext ⟨fun hy=>by
     rcases hy with hy | ⟨x,hx,hx2⟩
     ·rcases yaV.1 hy with hy | hy
      ·exact .inl hy
      ·obtain⟨o,ho,hoy⟩:=yar.1 hy;exact .inr ⟨a,by simp,ha,o,ho,hoy⟩
     ·exact .inr ⟨x,hsub x hx,hx2⟩,fun hy=>by
     rcases hy with hy | ⟨x,hx,hx2,o,ho,hoy⟩
     ·exact .inl (ya5 _ hy)
     ·rcases (hspl x).1 hx with rfl | hx
      ·exact .inl (ya6 _ (yar.2 ⟨o,ho,hoy⟩))
      ·exact .inr ⟨x,hx,hx2,o,ho,hoy⟩⟩
    exact zAa hr hs d (l1++l2) _ (by omega) (by rw[yan,yay]; omega) (fun x hx=>hm x (hsub x hx)) (by rw[hiff]; exact h1) (by rw[hiff]; exact h2)
   ·rw[(zz0 hr hs).some_not ha,obs,yab (by decide)]
    have hiff:(fun y=>y∈acc\/zz9 p A w.p.Reports g (l1++l2) y)=fun y=>y∈acc\/zz9 p A w.p.Reports g (l1++a::l2) y:=funext fun y=>propext ⟨fun hy=>hy.imp id fun⟨x,hx,hx2⟩=>⟨x,hsub x hx,hx2⟩,fun hy=>by
     rcases hy with hy | ⟨x,hx,hx2,hx3⟩
     ·exact .inl hy
     ·rcases (hspl x).1 hx with rfl | hx
      ·exact absurd hx2 ha
      ·exact .inr ⟨x,hx,hx2,hx3⟩⟩
    exact zAa hr hs d (l1++l2) acc (by omega) (by omega) (fun x hx=>hm x (hsub x hx)) (by rw[hiff]; exact h1) (by rw[hiff]; exact h2)
  ·subst hrr;have hno:∀y,(y∈acc\/zz9 p A w.p.Reports g [] y)↔y∈acc:=fun y=>⟨fun h=>h.elim id (fun⟨x,hx,_⟩=>(by cases hx)),.inl⟩
   have hne:acc ≠ []:=fun he=>by have:=(hno _).1 h1.1; rw[he] at this; cases this
   have m1:=zr9 hne;have m2:=zsa hne;have e1:zr5 acc=lo:=zz6 ⟨(hno _).2 m1.1,fun y hy=>m1.2 y ((hno y).1 hy)⟩ h1;have e2:zr6 acc=hi:=zz7 ⟨(hno _).2 m2.1,fun y hy=>m2.2 y ((hno y).1 hy)⟩ h2;rw[zy1 hne (by omega),obs,zy2 hne (by omega),obs,e1,e2]
open Classical in
theorem zAb{p:Pg}{A:List (List Int)}{ks:List P5}(h:ks.Nodup):tot p A ks<=A.length:=by
 have key:∀(ks:List P5) (B:List Oc),ks.Nodup->(ks.map fun k=>(B.filter fun o=>decide (o.pays=k)).length).sum<=B.length:=by
  intro ks
  induction ks with
  | nil=>intro B _; exact yaq _
  | cons k ks ih=>
   intro B hn;obtain⟨h1,h2⟩:=ybY.1 hn
   have e1:∀k'∈ks,(B.filter fun o=>decide (o.pays=k')).length=((B.filter fun o=>!decide (o.pays=k)).filter fun o=>decide (o.pays=k')).length:=fun k' hk'=>by
    rw[List.filter_filter]
    congr 1
    refine List.filter_congr fun o _=>?_
    by_cases ho:o.pays=k'
    ·have:¬ o.pays=k:=fun h3=>h1 (h3 ▸ ho ▸ hk')
     simp[ho]
     intro h3; exact h1 (h3 ▸ hk')
    ·simp[ho]
   have e2:(ks.map fun k'=>(B.filter fun o=>decide (o.pays=k')).length)=ks.map fun k'=>((B.filter fun o=>!decide (o.pays=k)).filter fun o=>decide (o.pays=k')).length:=List.map_congr_left e1
   have e3:(B.filter fun o=>decide (o.pays=k)).length+(B.filter fun o=>!decide (o.pays=k)).length=B.length:=by
    clear e1 e2 ih
    induction B with
    | nil=>rfl
    | cons o B ihB=>
     by_cases ho:o.pays=k
     ·rw[ybW (by simp[ho]),ybV (by simp[ho])]; simp only[List.length_cons]; omega
     ·rw[ybV (by simp[ho]),ybW (by simp[ho])]; simp only[List.length_cons]; omega
   rw[ya1,List.sum_cons,e2];have:=ih (B.filter fun o=>!decide (o.pays=k)) h2
   omega
 have:=key ks (A.map (oc p)) h;rw[yay] at this;exact this
def IsB(S:List Int->Prop)(g:List Int->Int)(r:Rg):Prop:=(∃L,S L/\g L=r.Lo)/\(∃L,S L/\g L=r.Hi)/\∀L,S L->r.Lo<=g L/\g L<=r.Hi
theorem IsB.uniq{S:List Int->Prop}{g:List Int->Int}{r r':Rg}(h:IsB S g r)(h':IsB S g r'):r=r':=by
 obtain⟨⟨a,a1,a2⟩,⟨b,b1,b2⟩,c⟩:=h;obtain⟨⟨a',a1',a2'⟩,⟨b',b1',b2'⟩,c'⟩:=h';have q1:=c a' a1'; have q2:=c b' b1'; have q3:=c' a a1; have q4:=c' b b1
 cases r; cases r'
 simp only at *
 congr 1 <;> omega
theorem IsB.congr{S S':List Int->Prop}{g g':List Int->Int}{r:Rg}(h:IsB S g r)(hS:∀L,S L↔S' L)(hg:∀L,S' L->g L=g' L):IsB S' g' r:=by
 obtain⟨⟨a,a1,a2⟩,⟨b,b1,b2⟩,c⟩:=h;exact⟨⟨a,(hS a).1 a1,by rw[<- hg a ((hS a).1 a1)]; exact a2⟩,⟨b,(hS b).1 b1,by rw[<- hg b ((hS b).1 b1)]; exact b2⟩,fun L hL=>by rw[<- hg L hL]; exact c L ((hS L).2 hL)⟩
def TrS(p:Pg)(rs:List Rpt)(L:List Int):Prop:=inL p.Losses L/\agN (zzk p.Treaties L).pays rs
open Classical in
theorem zAc{p:Pg}(h:VP p){number:Oc->Option Int}{g:Oc->Int}(hg:∀L,inL p.Losses L->number (oc p L)=some (g (oc p L)))(hc:zz2 p p.Reports):∃r,zt9 (zzM p (zzE p)) number=some r/\IsB (TrS p p.Reports) (fun L=>g (oc p L)) r:=by
 have hA:∀L∈zzE p,inL p.Losses L:=fun L hL=>zzF.1 hL;have h5:=h.r5;have hs:zr2 p.Reports:=zr3 h5 (by omega);obtain⟨ks0,h0⟩:=zzX h hA
 have hgrp:∀{k o},o∈grp p (zzE p) k->∃L,inL p.Losses L/\oc p L=o/\(oc p L).pays=k:=fun {k o} ho=>by
  obtain⟨h3,h4⟩:=yaS.1 ho;obtain⟨L,h5,rfl⟩:=yar.1 h3;exact⟨L,hA L h5,rfl,of_decide_eq_true h4⟩
 have hin:∀{L},inL p.Losses L->oc p L∈grp p (zzE p) (oc p L).pays:=fun {L} hL=>yaS.2 ⟨yar.2 ⟨L,zzF.2 hL,rfl⟩,decide_eq_true rfl⟩
 have hans:∀ks,zrm (plM p (zzE p)) ks->∀y,(y∈([]:List Int)\/zz9 p (zzE p) p.Reports g ks y)↔∃L,TrS p p.Reports L/\g (oc p L)=y:=fun ks hk y=>by
  have h2:=((zzV h hA ks).1 hk).2
  constructor
  ·rintro (h3 | ⟨k,hk1,hk2,o,ho,rfl⟩)
   ·cases h3
   ·obtain⟨L,hL,rfl,hk3⟩:=hgrp ho;subst hk3;exact⟨L,⟨hL,(zzY h.rsOk).1 hk2⟩,rfl⟩
  ·rintro⟨L,⟨hL,ha⟩,rfl⟩
   exact .inr ⟨_,(h2 _).2 ⟨L,zzF.2 hL,rfl⟩,(zzY h.rsOk).2 ha,_,hin hL,rfl⟩
 -- the zj2 and the zj3 one
 obtain⟨vs,hvs⟩:∃vs:List Int,∀y,y∈vs↔∃L,TrS p p.Reports L/\g (oc p L)=y:=by
  classical
  refine⟨((zzE p).filter fun L=>decide (agN (zzk p.Treaties L).pays p.Reports)).map fun L=>g (oc p L),fun y=>?_⟩;rw[List.mem_map]
  constructor
  ·rintro⟨L,hL,rfl⟩
   obtain⟨h3,h4⟩:=yaS.1 hL;exact⟨L,⟨hA L h3,of_decide_eq_true h4⟩,rfl⟩
  ·rintro⟨L,⟨h3,h4⟩,rfl⟩
   exact⟨L,yaS.2 ⟨zzF.2 h3,decide_eq_true h4⟩,rfl⟩
 have hne:vs ≠ []:=fun he=>by
  obtain⟨L,hL⟩:=hc;have:=(hvs _).2 ⟨L,hL,rfl⟩
  rw[he] at this; cases this
 have m1:=zr9 hne;have m2:=zsa hne;refine⟨{ Lo:=zr5 vs,Hi:=zr6 vs },?_,(hvs _).1 m1.1,(hvs _).1 m2.1,fun L hL=>⟨m1.2 _ ((hvs _).2 ⟨L,hL,rfl⟩),m2.2 _ ((hvs _).2 ⟨L,hL,rfl⟩)⟩⟩;unfold zt9;refine zrp h0 fun ks hk=>?_;have htl:=zAb (p:=p) (A:=zzE p) hk.1;have hlen:=zzG h;refine zAa (p:=p) (A:=zzE p) (w:=zzM p (zzE p)) (g:=g) h.rsOk hs _ ks [] (by omega) (by simp only[List.length_nil]; omega) (fun k hkk=>⟨?_,fun o ho=>?_⟩) ⟨(hans ks hk _).2 ((hvs _).1 m1.1),fun y hy=>m1.2 y ((hvs _).2 ((hans ks hk _).1 hy))⟩ ⟨(hans ks hk _).2 ((hvs _).1 m2.1),fun y hy=>m2.2 y ((hvs _).2 ((hans ks hk _).1 hy))⟩
 ·have h3:=((hk.2 k).1 hkk).2;have h4:(if grp p (zzE p) k=[] then none else some (grp p (zzE p) k)) ≠ none:=h3
  show(if grp p (zzE p) k=[] then none else some (grp p (zzE p) k))=_
  by_cases h5:grp p (zzE p) k=[]
  ·rw[yaa h5] at h4; exact absurd rfl h4
  ·rw[yab h5]
 ·obtain⟨L,hL,rfl,_⟩:=hgrp ho;exact hg L hL
theorem zAd{p:Pg}(h:VP p):zr2 p.Losses/\zr2 p.Treaties/\zr2 p.Reports:=⟨zr3 h.l4 (by omega),zr3 h.t5 (by omega),zr3 h.r5 (by omega)⟩
theorem zAe{p:Pg}(h:VP p):ztD p=some 0:=by
 obtain⟨h1,h2,h3⟩:=zAd h;rw[zyR h1 h2 h3,zyy.2 h]
theorem zAf{p:Pg}{L:List Int}(h:VP p):Ev (ztF p L) (inL p.Losses L):=by
 have h4:=h.l4;unfold ztF
 by_cases hl:(L.length:Int)=p.Losses.length
 ·rw[yaa hl];refine(Ev.loop (n:=p.Losses.length) (F:=fun d x=>ztE p L d x) (ok:=fun j=>∀r x,p.Losses[j]? = some r->L[j]? = some x->r.Lo<=x/\x<=r.Hi) (fin:=some true) (P:=True) (fun d k hk=>?_) (fun d=>?_) (by omega) (fun _=>Ev.tt trivial)).imp ?_
  ·have hg:=yag hk;have hg2:=yag (show k < L.length by omega)
   show(_->ztE p L (d+1) (k:Int)=_)/\(_->ztE p L (d+1) (k:Int)=_)
   rw[ztE,yaa (by omega),zrS hg,obs,zrS hg2,obs];refine(zyz.imp ⟨fun h r x h1 h2=>?_,fun h=>h _ _ hg hg2⟩).step (by rw[yaa rfl,zqr (fI (by omega))]) (by rw[yab (by decide)])
   rw[hg] at h1; rw[hg2] at h2; cases h1; cases h2; exact h
  ·show ztE p L (d+1) _=_
   rw[ztE,yab (yaH _)]
  ·exact⟨fun h=>zzz (by omega) fun i r x h1 h2=>h.1 i (yai.1 h1).1 r x h1 h2,fun h=>⟨fun j _ r x h1 h2=>zzy h h1 h2,trivial⟩⟩
 ·rw[yab hl]; exact Ev.ff fun h=>hl (by rw[zzx h])
def lN(n:Nat)(f:Nat->Int):List Int:=(l5 f).take n
theorem zAg{n:Nat}(h:n<=5)(f:Nat->Int):(lN n f).length=n:=by unfold lN; rw[yau]; show min n 5=n; omega
theorem zAh{n:Nat}(h:n<=5)(f:Nat->Int){k:Nat}(hk:k < n):(lN n f)[k]? = some (f k):=by unfold lN; rw[yaX,yaa hk,zyj (by omega)]
theorem zAi{p:Pg}(h:VP p){L:List Int}(hL:inL p.Losses L):zt4 p L=some (lN p.Treaties.length (zzk p.Treaties L).pays,(zzk p.Treaties L).soc,0):=by
 have h4:=h.l4;have h5:=h.t5;obtain⟨M',q1,_⟩:=zzw h (zzA hL h.ls) (by rw[zzx hL]; omega) (zzt.nil p);unfold zt4;rw[zAe h,obs,yaa rfl,(zAf h).some_of hL,obs,yaa rfl,zyD,obs]
 show((ztV (wkP p _) L).bind _)=_
 rw[q1,obs,zqr (by omega),yaA,show Int.toNat (0:Int)=0 from rfl,yas]
 show((zt1 (lN p.Treaties.length (zzk p.Treaties L).pays)).bind _)=_
 unfold zt1;rw[zqr (by rw[zAg h5]; simp only[List.length_nil]; omega)]
 rfl
def wk0:Wk:={ p:={ Losses:=[],Reserve:=0,Treaties:=[],Reports:=[] },kinds:={ k0:={ part:={ Lo:=0,Hi:=0 },above:={ Lo:=0,Hi:=0 },most:={ Lo:=0,Hi:=0 },times:={ Lo:=0,Hi:=0 },takes:=(fun _ _ _=>none) },k1:={ part:={ Lo:=0,Hi:=0 },above:={ Lo:=0,Hi:=0 },most:={ Lo:=0,Hi:=0 },times:={ Lo:=0,Hi:=0 },takes:=(fun _ _ _=>none) } },shared:=(),played:=none }
theorem zAj{p:Pg}(h:VP p)(hc:zz2 p p.Reports):zua p=some (zzM p (zzE p),0):=by
 unfold zua;rw[zAe h,obs,yaa rfl,zzS h,obs]
 show((zt7 (zzM p (zzE p)) p.Reports).bind _)=_
 rw[(zz3 h h.rsOk (zAd h).2.2).some_of hc]; rfl
theorem zAk{p:Pg}(h:VP p)(hc:¬ zz2 p p.Reports):zua p=some (wk0,11):=by
 unfold zua;rw[zAe h,obs,yaa rfl,zzS h,obs]
 show((zt7 (zzM p (zzE p)) p.Reports).bind _)=_
 rw[(zz3 h h.rsOk (zAd h).2.2).some_not hc]; rfl
structure zAl (p:Pg) (bs:List Bd):Prop where
 len:bs.length=p.Treaties.length
 at':∀(k:Nat) (b:Bd),bs[k]? = some b->IsB (TrS p p.Reports) (fun L=>(zzk p.Treaties L).pays k) b.Pays/\IsB (TrS p p.Reports) (fun L=>(zzk p.Treaties L).keeps k) b.Keeps
theorem zAl.uniq{p:Pg}{bs bs':List Bd}(h:zAl p bs)(h':zAl p bs'):bs=bs':=by
 refine ybu fun k=>?_
 cases hb:bs[k]? with
 | none=>
  rw[List.getElem?_eq_none_iff] at hb;rw[ya9 (by rw[h'.len,<- h.len]; exact hb)]
 | some b=>
  have hk:=(yai.1 hb).1;have hb':=yag (show k < bs'.length by rw[h'.len,<- h.len]; exact hk);rw[hb'];obtain⟨q1,q2⟩:=h.at' k b hb;obtain⟨q3,q4⟩:=h'.at' k _ hb';have e1:=q1.uniq q3;have e2:=q2.uniq q4;generalize bs'[k]'(by rw[h'.len,<- h.len]; exact hk)=b' at e1 e2
  cases b; cases b'
  simp only at e1 e2
  rw[e1,e2]
theorem zAm{p:Pg}(h:VP p)(hc:zz2 p p.Reports):∃bs,zue p=some (bs,0)/\zAl p bs:=by
 have h5:=h.t5
 have hx:∀k:Nat,k < p.Treaties.length->∃b:Bd,(∀L,inL p.Losses L->True)/\zt9 (zzM p (zzE p)) (fun a=>zub a (k:Int))=some b.Pays/\zt9 (zzM p (zzE p)) (fun a=>zuc a (k:Int))=some b.Keeps/\IsB (TrS p p.Reports) (fun L=>(zzk p.Treaties L).pays k) b.Pays/\IsB (TrS p p.Reports) (fun L=>(zzk p.Treaties L).keeps k) b.Keeps:=fun k hk=>by
  obtain⟨r1,a1,a2⟩:=zAc h (number:=fun a=>zub a (k:Int)) (g:=fun o=>(idx ([o.pays.p0,o.pays.p1,o.pays.p2,o.pays.p3,o.pays.p4]:List Int) (k:Int)).getD 0) (fun L _=>by
   show((idx (l5 (zzk p.Treaties L).pays) (k:Int)).bind fun v=>some v)=some ((idx (l5 (zzk p.Treaties L).pays) (k:Int)).getD 0)
   rw[zyk (by omega)]; rfl) hc
  obtain⟨r2,b1,b2⟩:=zAc h (number:=fun a=>zuc a (k:Int)) (g:=fun o=>(idx ([o.keeps.p0,o.keeps.p1,o.keeps.p2,o.keeps.p3,o.keeps.p4]:List Int) (k:Int)).getD 0) (fun L _=>by
   show((idx (l5 (zzk p.Treaties L).keeps) (k:Int)).bind fun v=>some v)=some ((idx (l5 (zzk p.Treaties L).keeps) (k:Int)).getD 0)
   rw[zyk (by omega)]; rfl) hc
  refine⟨⟨r1,r2⟩,fun _ _=>trivial,a1,b1,a2.congr (fun _=>Iff.rfl) fun L _=>?_,b2.congr (fun _=>Iff.rfl) fun L _=>?_⟩
  ·show(idx (l5 (zzk p.Treaties L).pays) (k:Int)).getD 0=_
   rw[zyk (by omega)]; rfl
  ·show(idx (l5 (zzk p.Treaties L).keeps) (k:Int)).getD 0=_
   rw[zyk (by omega)]; rfl
 unfold zue;rw[zAj h hc,obs,yaa rfl]
 have key:∀(d k:Nat) (acc:List Bd),k<=p.Treaties.length->p.Treaties.length - k < d->acc.length=k->(∀(j:Nat) (b:Bd),acc[j]? = some b->IsB (TrS p p.Reports) (fun L=>(zzk p.Treaties L).pays j) b.Pays/\IsB (TrS p p.Reports) (fun L=>(zzk p.Treaties L).keeps j) b.Keeps) ->
   ∃bs,zud p (zzM p (zzE p),0) d acc (k:Int)=some (bs,0)/\zAl p bs:=by
  intro d
  induction d with
  | zero=>intro k acc _ h _ _; omega
  | succ d ih=>
   intro k acc hk hd hl hacc;rw[zud]
   by_cases hkl:k < p.Treaties.length
   ·obtain⟨b,_,b1,b2,b3,b4⟩:=hx k hkl;rw[yaa (by omega)]
    show ∃bs,((zt9 (zzM p (zzE p)) fun a=>zub a (k:Int)).bind _)=_/\_
    rw[b1,obs]
    show ∃bs,((zt9 (zzM p (zzE p)) fun a=>zuc a (k:Int)).bind _)=_/\_
    rw[b2,obs,zqr (by omega),zqr (fI (by omega)),show(k:Int)+1=((k+1:Nat):Int) by omega];refine ih (k+1) _ (by omega) (by omega) (by rw[yan,hl]; rfl) fun j b' hb'=>?_
    by_cases hj:j < acc.length
    ·rw[ybk hj] at hb'; exact hacc j b' hb'
    ·rw[ybt (by omega)] at hb'
     have hj2:j=k:=by
      have:=(yai.1 hb').1
      simp only[List.length_cons,List.length_nil] at this
      omega
     subst hj2;rw[show j - acc.length=0 by omega] at hb'
     cases hb'
     exact⟨b3,b4⟩
   ·rw[yab (by omega)];exact⟨acc,rfl,by omega,hacc⟩
 exact key (p.Treaties.length+1) 0 [] (yaq _) (by omega) rfl fun j b hb=>by cases hb
theorem zAn{p:Pg}(h:VP p)(hc:¬ zz2 p p.Reports):zue p=some ([],11):=by
 unfold zue;rw[zAk h hc,obs,yab (by decide)]
theorem zAo{p:Pg}(h:VP p)(hc:zz2 p p.Reports):∃r,zuf p=some (r,0)/\IsB (TrS p p.Reports) (fun L=>(zzk p.Treaties L).soc) r:=by
 obtain⟨r,a1,a2⟩:=zAc h (number:=fun a=>ztO a) (g:=fun o=>o.society) (fun L _=>rfl) hc;refine⟨r,?_,a2⟩;unfold zuf;rw[zAj h hc,obs,yaa rfl]
 show((zt9 (zzM p (zzE p)) fun a=>ztO a).bind _)=_
 rw[a1]; rfl
end
end Go.Proofs.YtkcmdghjgoaggaaGreat

namespace Go.Proofs.YtkcmdghjgoaggaaGreat
open _root_.Go.Proofs.Tryz
open Go.Abs
set_option maxRecDepth 100000
noncomputable section
theorem zAp{n:Nat}(h:n<=5)(f:Nat->Int){k:Nat}(hk:k < n):idx (lN n f) (k:Int)=some (f k):=zrS (zAh h f hk)
theorem zAq{n:Nat}(h:n<=5)(f:Nat->Int){i:Int}(h0:0<=i)(hk:i < n):idx (lN n f) i=some (f i.toNat):=by
 have:=zAp h f (k:=i.toNat) (by omega)
 rwa [show((i.toNat:Nat):Int)=i by omega] at this
theorem zAr{n:Nat}(h:n<=5){l:List Int}{f:Nat->Int}(hl:l.length=n)(ha:∀k,k < n->l[k]? = some (f k)):l=lN n f:=by
 refine ybu fun k=>?_
 by_cases hk:k < n
 ·rw[ha k hk,zAh h f hk]
 ·rw[ya9 (by omega),ya9 (by rw[zAg h]; omega)]
theorem zAs{n:Nat}(h:n<=5)(f:Nat->Int){k:Nat}(hk:k < n)(a:Int):(lN n f).set k a=lN n (upF f k a):=by
 refine zAr h (by rw[ybi,zAg h]) fun j hj=>?_
 by_cases hjk:j=k
 ·subst hjk; rw[ya4 (by rw[zAg h]; exact hj),zyn]
 ·rw[ycy (Ne.symm hjk),zAh h f hj,zyo _ _ hjk]
theorem zAt{n:Nat}(h:n<=5):List.replicate n (0:Int)=lN n fun _=>0:=zAr h (List.length_replicate ..) fun k hk=>by rw[List.getElem?_replicate,yaa hk]
theorem zAu{n:Nat}(h:n<=5){f g:Nat->Int}(hfg:∀k,k < n->f k=g k):lN n f=lN n g:=zAr h (zAg h f) fun k hk=>by rw[zAh h f hk,hfg k hk]
def a1(ts:List Ty)(th:Nat->Bool)(P:Nat->Int)(x:Int):Nat->(Nat->Int) × Int
 | 0=>(fun _=>0,x)
 | k+1=>match ts[k]? with
  | some t=>if t.Of < 0/\th k=true then (upF (a1 ts th P x k).1 k (zy4 t (a1 ts th P x k).2 (P k)),(a1 ts th P x k).2 - zy4 t (a1 ts th P x k).2 (P k)) else a1 ts th P x k
  | none=>a1 ts th P x k
theorem zAv{ts:List Ty}{th:Nat->Bool}{P:Nat->Int}{x:Int}{k:Nat}{t:Ty}(h:ts[k]? = some t):a1 ts th P x (k+1)=if t.Of < 0/\th k=true then (upF (a1 ts th P x k).1 k (zy4 t (a1 ts th P x k).2 (P k)),(a1 ts th P x k).2 - zy4 t (a1 ts th P x k).2 (P k)) else a1 ts th P x k:=by
 show(match ts[k]? with | some t=>_ | none=>_)=_
 rw[h]
def a2(ts:List Ty)(P:Nat->Int)(now:Nat->Int):Nat->(Nat->Int) × (Nat->Int)
 | 0=>(now,now)
 | k+1=>match ts[k]? with
  | some t=>if 0<=t.Of then (upF (a2 ts P now k).1 k (zy4 t ((a2 ts P now k).2 t.Of.toNat) (P k)),upF (upF (a2 ts P now k).2 k (zy4 t ((a2 ts P now k).2 t.Of.toNat) (P k))) t.Of.toNat ((a2 ts P now k).2 t.Of.toNat - zy4 t ((a2 ts P now k).2 t.Of.toNat) (P k))) else a2 ts P now k
  | none=>a2 ts P now k
theorem zAw{ts:List Ty}{P now:Nat->Int}{k:Nat}{t:Ty}(h:ts[k]? = some t):a2 ts P now (k+1)=if 0<=t.Of then (upF (a2 ts P now k).1 k (zy4 t ((a2 ts P now k).2 t.Of.toNat) (P k)),upF (upF (a2 ts P now k).2 k (zy4 t ((a2 ts P now k).2 t.Of.toNat) (P k))) t.Of.toNat ((a2 ts P now k).2 t.Of.toNat - zy4 t ((a2 ts P now k).2 t.Of.toNat) (P k))) else a2 ts P now k:=by
 show(match ts[k]? with | some t=>_ | none=>_)=_
 rw[h]
structure I1 (ts:List Ty) (P:Nat->Int) (x:Int) (s:(Nat->Int) × Int):Prop where
 left:0<=s.2/\s.2<=x
 now:∀j,0<=s.1 j/\s.1 j<=x
 cap:zzd ts fun j=>P j+s.1 j
theorem zAx{ts:List Ty}{th:Nat->Bool}(hts:zze ts){P:Nat->Int}(hP:zzd ts P){x:Int}(hx:0<=x/\x<=100000):∀k,k<=ts.length->I1 ts P x (a1 ts th P x k)
 | 0,_=>⟨⟨hx.1,yam _⟩,fun _=>⟨yam _,hx.1⟩,fun j t ht h1=>by have:=hP j t ht h1; show P j+0<=_; omega⟩
 | k+1,hk=>by
  have ih:=zAx (th:=th) hts hP hx k (by omega);have hg:=yag (show k < ts.length by omega);have hkd:=hts.k _ (yat (show k < ts.length by omega));rw[zAv hg];generalize a1 ts th P x k=s at ih ⊢;generalize ts[k]'(by omega)=t at hg hkd
  by_cases hc:t.Of < 0/\th k=true
  ·rw[yaa hc];have hl:=ih.left;have hb:=zy7 hkd (a:=s.2) (b:=P k) (by omega) (hP k t hg);refine⟨by show 0<=s.2 - _/\s.2 - _<=x; omega,fun j=>?_,fun j t' ht' h'=>?_⟩
   ·show 0<=upF s.1 k _ j/\upF s.1 k _ j<=x
    by_cases hjk:j=k
    ·subst hjk; rw[zyn]; omega
    ·rw[zyo _ _ hjk]; exact ih.now j
   ·show P j+upF s.1 k _ j<=_
    by_cases hjk:j=k
    ·subst hjk; rw[hg] at ht'; cases ht'; rw[zyn]; exact hb.2.2 h'
    ·rw[zyo _ _ hjk]; exact ih.cap j t' ht' h'
  ·rw[yab hc]; exact ih
structure I2 (ts:List Ty) (P:Nat->Int) (x:Int) (s:(Nat->Int) × (Nat->Int)):Prop where
 now:∀j,0<=s.1 j/\s.1 j<=x
 rest:∀j,0<=s.2 j/\s.2 j<=x
 cap:zzd ts fun j=>P j+s.1 j
theorem zAy{ts:List Ty}(hts:zze ts){P now:Nat->Int}(hP:zzd ts P){x:Int}(hx:0<=x/\x<=100000)(hn:∀j,0<=now j/\now j<=x)(hc:zzd ts fun j=>P j+now j):∀k,k<=ts.length->I2 ts P x (a2 ts P now k)
 | 0,_=>⟨hn,hn,hc⟩
 | k+1,hk=>by
  have ih:=zAy hts hP hx hn hc k (by omega);have hg:=yag (show k < ts.length by omega);have hkd:=hts.k _ (yat (show k < ts.length by omega));rw[zAw hg];generalize a2 ts P now k=s at ih ⊢;generalize ts[k]'(by omega)=t at hg hkd
  by_cases ho:0<=t.Of
  ·rw[yaa ho];have hr:=ih.rest t.Of.toNat;have hb:=zy7 hkd (a:=s.2 t.Of.toNat) (b:=P k) (by omega) (hP k t hg);refine⟨fun j=>?_,fun j=>?_,fun j t' ht' h'=>?_⟩
   ·show 0<=upF s.1 k _ j/\upF s.1 k _ j<=x
    by_cases hjk:j=k
    ·subst hjk; rw[zyn]; omega
    ·rw[zyo _ _ hjk]; exact ih.now j
   ·show 0<=upF (upF s.2 k _) _ _ j/\upF (upF s.2 k _) _ _ j<=x
    by_cases hjo:j=t.Of.toNat
    ·subst hjo; rw[zyn]; omega
    ·rw[zyo _ _ hjo]
     by_cases hjk:j=k
     ·subst hjk; rw[zyn]; omega
     ·rw[zyo _ _ hjk]; exact ih.rest j
   ·show P j+upF s.1 k _ j<=_
    by_cases hjk:j=k
    ·subst hjk; rw[hg] at ht'; cases ht'; rw[zyn]; exact hb.2.2 h'
    ·rw[zyo _ _ hjk]; exact ih.cap j t' ht' h'
  ·rw[yab ho]; exact ih
def zAz(ts:List Ty)(th:Nat->Bool)(s:(Nat->Int) × Int)(x:Int):(Nat->Int) × Int:=
 (fun j=>s.1 j+(a2 ts s.1 (a1 ts th s.1 x ts.length).1 ts.length).1 j,s.2+(a1 ts th s.1 x ts.length).2)
def zAA(ts:List Ty)(th:Nat->Bool)(L:List Int):(Nat->Int) × Int:=L.foldl (zAz ts th) (fun _=>0,0)
structure RI (ts:List Ty) (B:Int) (s:(Nat->Int) × Int):Prop where
 net:0<=s.2/\s.2<=B
 pays:∀j,0<=s.1 j/\s.1 j<=B
 cap:zzd ts s.1
theorem RI.step{ts:List Ty}{th:Nat->Bool}(hts:zze ts){B:Int}{s:(Nat->Int) × Int}(h:RI ts B s){x:Int}(hx:0<=x/\x<=100000):RI ts (B+x) (zAz ts th s x):=by
 have h1:=zAx (th:=th) hts h.cap hx ts.length (yac _);have h2:=zAy hts h.cap hx h1.now h1.cap ts.length (yac _);refine⟨?_,fun j=>?_,h2.cap⟩
 ·have:=h.net; have:=h1.left; show 0<=s.2+_/\s.2+_<=_; omega
 ·have:=h.pays j; have:=h2.now j; show 0<=s.1 j+_/\s.1 j+_<=_; omega
theorem wu{n:Nat}(h:n<=64):zmb .u64 (n:Int)=(n:Int):=wz (show(0:Int)<=n/\(n:Int) < 18446744073709551616 by omega)
theorem zAB(B k:Nat):(B:Int) / 2 ^ k % 2=((B / 2 ^ k % 2:Nat):Int):=by rw[zx2]; rfl
theorem zAC{B k:Nat}:(B:Int) / 2 ^ k % 2=1↔B.testBit k=true:=by
 rw[zAB,ycn,decide_eq_true_eq]; omega
section
variable {p:Pg} (h:VP p)
theorem zAD(h:VP p){x6 x7 x16:Int}{now:Nat->Int}{K:Int->Int->List Int->Option (List Int × Int)}{P:Nat->Int}(hP:∀j,0<=P j/\P j<=100000)(hn:∀j,0<=now j/\now j<=100000)(hx:0<=x7/\x7<=100000):zsH p x6 x7 x16 (lN p.Treaties.length now) K 1000000 0 (lN p.Treaties.length P)=K (x6+x16) (x7+1) (lN p.Treaties.length fun j=>P j+now j):=by
 have h5:=h.t5
 let st:Nat->List Int:=fun k=>lN p.Treaties.length fun j=>if j < k then P j+now j else P j
 have key:=zyi (n:=p.Treaties.length) (fun d (s:List Int) y=>zsH p x6 x7 x16 (lN p.Treaties.length now) K d y s) st (fin:=K (x6+x16) (x7+1) (lN p.Treaties.length fun j=>P j+now j)) (fun d k hk=>?_) (fun d=>?_) 1000000 0 (by omega) (by omega)
 ·exact key
 ·have h1:=hP k;have h2:=hn k
  show zsH p x6 x7 x16 (lN p.Treaties.length now) K (d+1) (k:Int) (lN p.Treaties.length fun j=>if j < k then P j+now j else P j)=_
  rw[zsH,yaa (by omega),zAp h5 _ hk,obs,zAp h5 _ hk,obs,yab (by omega),zqr (fI (by omega)),obs,zqr (fI (by omega)),yaA,zAs h5 _ hk]
  have e:(lN p.Treaties.length (upF (fun j=>if j < k then P j+now j else P j) k (P k+now k)))=st (k+1):=zAu h5 fun j hj=>by
   by_cases hjk:j=k
   ·subst hjk; rw[zyn,yaa (by omega)]
   ·rw[zyo _ _ hjk]
    by_cases h3:j < k
    ·rw[yaa h3,yaa (by omega)]
    ·rw[yab h3,yab (by omega)]
  rw[e]
 ·show zsH p x6 x7 x16 (lN p.Treaties.length now) K (d+1) (p.Treaties.length:Int) (lN p.Treaties.length fun j=>if j < p.Treaties.length then P j+now j else P j)=_
  rw[zsH,yab (by omega),zqr (fI (by omega))]
  have e:(lN p.Treaties.length fun j=>if j < p.Treaties.length then P j+now j else P j)=lN p.Treaties.length fun j=>P j+now j:=zAu h5 fun j hj=>by rw[yaa hj]
  rw[e]
theorem zAE(h:VP p){x6 x7 x16:Int}{K:Int->Int->List Int->Option (List Int × Int)}{P now:Nat->Int}(hP:∀j,0<=P j/\P j<=100000)(hcap:zzd p.Treaties P){x:Int}(hx:0<=x/\x<=1000)(hn:∀j,0<=now j/\now j<=x)(hcn:zzd p.Treaties fun j=>P j+now j)(hx7:0<=x7/\x7<=100000) :
  zsI p x6 x7 x16 K 1000000 0 (lN p.Treaties.length P) (lN p.Treaties.length now) (lN p.Treaties.length now)=K (x6+x16) (x7+1) (lN p.Treaties.length fun j=>P j+(a2 p.Treaties P now p.Treaties.length).1 j):=by
 have h5:=h.t5;have key:=zyi (n:=p.Treaties.length) (fun d (s:(Nat->Int) × (Nat->Int)) y=>zsI p x6 x7 x16 K d y (lN p.Treaties.length P) (lN p.Treaties.length s.1) (lN p.Treaties.length s.2)) (fun k=>a2 p.Treaties P now k) (fin:=K (x6+x16) (x7+1) (lN p.Treaties.length fun j=>P j+(a2 p.Treaties P now p.Treaties.length).1 j)) (fun d k hk=>?_) (fun d=>?_) 1000000 0 (by omega) (by omega)
 ·exact key
 ·have hg:=yag hk;have hkd:=h.tsOk.k _ (yat hk);have hof:=h.of' k _ hg;have ih:=zAy h.tsOk hcap (x:=x) (by omega) hn hcn k (by omega);rw[zAw hg];generalize a2 p.Treaties P now k=s at ih ⊢;rw[zsI,yaa (by omega),zrS hg,obs];generalize p.Treaties[k]=t at hg hkd hof
  by_cases ho:0<=t.Of
  ·have hr:=ih.rest t.Of.toNat;have hb:=zy7 hkd (a:=s.2 t.Of.toNat) (b:=P k) (by omega) (hcap k t hg);have hPk:=hP k;have htk:=zza hkd (a:=s.2 t.Of.toNat) (b:=P k) (by omega) (by omega)
   have hne:t.Of.toNat ≠ k:=by omega
   have hoo:((t.Of.toNat:Nat):Int)=t.Of:=by omega
   rw[yaa ho,yaa ho,zAq h5 _ ho (by omega),obs,zAp h5 _ hk,obs,htk,obs,zAp h5 _ hk,obs,yaA,zAs h5 _ hk,zAp h5 _ hk,obs,zyn,zAp h5 _ hk,obs,zAs h5 _ hk,zAq h5 _ ho (by omega),obs,zyo _ _ hne,obs,zqr (fI (by omega)),obs,zqr (fI (by omega)),zAs h5 _ (show t.Of.toNat < p.Treaties.length by omega)]
  ·rw[yab ho,yab ho,zqr (fI (by omega))]
 ·have i2:=zAy h.tsOk hcap (x:=x) (by omega) hn hcn p.Treaties.length (yac _);rw[zsI,yab (by omega)];exact zAD h hP (fun j=>by have:=i2.now j; omega) hx7
theorem zAF(h:VP p){b:Nat}(hb:b < 1000000){x6 x7:Int}{K:Int->Int->List Int->Option (List Int × Int)}{P:Nat->Int}(hP:∀j,0<=P j/\P j<=100000)(hcap:zzd p.Treaties P){x:Int}(hx:0<=x/\x<=1000)(hx6:0<=x6/\x6<=100000)(hx7:0<=x7/\x7<=100000) :
  zsJ p (b:Int) x6 x7 K 1000000 x 0 (lN p.Treaties.length P) (List.replicate (Int.toNat (p.Treaties.length:Int)) 0)=K (x6+(a1 p.Treaties (fun k=>b.testBit k) P x p.Treaties.length).2) (x7+1) (lN p.Treaties.length fun j=>P j+(a2 p.Treaties P (a1 p.Treaties (fun k=>b.testBit k) P x p.Treaties.length).1 p.Treaties.length).1 j):=by
 have h5:=h.t5;rw[yaA,zAt h5];have key:=zyi (n:=p.Treaties.length) (fun d (s:(Nat->Int) × Int) y=>zsJ p (b:Int) x6 x7 K d s.2 y (lN p.Treaties.length P) (lN p.Treaties.length s.1)) (fun k=>a1 p.Treaties (fun k=>b.testBit k) P x k) (fin:=K (x6+(a1 p.Treaties (fun k=>b.testBit k) P x p.Treaties.length).2) (x7+1) (lN p.Treaties.length fun j=>P j+(a2 p.Treaties P (a1 p.Treaties (fun k=>b.testBit k) P x p.Treaties.length).1 p.Treaties.length).1 j)) (fun d k hk=>?_) (fun d=>?_) 1000000 0 (by omega) (by omega)
 ·exact key
 ·have hg:=yag hk;have hkd:=h.tsOk.k _ (yat hk);have hof:=h.of' k _ hg;have ih:=zAx (th:=fun k=>b.testBit k) h.tsOk hcap (x:=x) (by omega) k (by omega);rw[zAv hg];generalize a1 p.Treaties (fun k=>b.testBit k) P x k=s at ih ⊢;rw[zsJ,yaa (by omega),zrS hg,obs];generalize p.Treaties[k]=t at hg hkd hof
  by_cases ho:t.Of < 0
  ·have hdv:(0:Int)<=(b:Int) / 2 ^ k/\(b:Int) / 2 ^ k<=1000000:=by
    have hq0:=Nat.div_le_self b (2 ^ k);rw[zx2];generalize b / 2 ^ k=q at hq0
    omega
   rw[yaa ho,zqr (by omega),wu (show k<=64 by omega),zqr (by omega),zqr (by omega),yaA,zqr (fI (by omega)),zqr hdv.1,zqr (by omega),zqr (fI (by omega))]
   by_cases hbt:b.testBit k=true
   ·have hl:=ih.left;have hbd:=zy7 hkd (a:=s.2) (b:=P k) (by omega) (hcap k t hg);have hPk:=hP k;have htk:=zza hkd (a:=s.2) (b:=P k) (by omega) (by omega);rw[yaa (zAC.2 hbt),yaa ⟨ho,hbt⟩,zAp h5 _ hk,obs,htk,obs,zAp h5 _ hk,obs,zAs h5 _ hk,zAp h5 _ hk,obs,zyn,zqr (fI (by omega)),zqr (fI (by omega))]
   ·rw[yab fun hc=>hbt (zAC.1 hc),yab fun hc=>hbt hc.2,zqr (fI (by omega))]
  ·rw[yab ho,yab fun hc=>ho hc.1,zqr (fI (by omega))]
 ·have i1:=zAx (th:=fun k=>b.testBit k) h.tsOk hcap (x:=x) (by omega) p.Treaties.length (yac _);have hl:=i1.left;rw[zsJ,yab (by omega),zqr (fI (by omega)),zqr (by rw[zAg h5]; simp only[List.length_nil]; omega),ybh];exact zAE h hP hcap hx i1.now i1.cap hx7
theorem zAG(h:VP p){b:Nat}(hb:b < 1000000){L:List Int}(hL:∀x∈L,0<=x/\x<=1000)(hl:L.length<=9):∀(d k:Nat) (s:(Nat->Int) × Int),k<=L.length->L.length - k < d->RI p.Treaties (1000 * k) s ->
  zsK p L (b:Int) d s.2 (k:Int) (lN p.Treaties.length s.1)=some (lN p.Treaties.length ((L.drop k).foldl (zAz p.Treaties fun k=>b.testBit k) s).1,((L.drop k).foldl (zAz p.Treaties fun k=>b.testBit k) s).2)
 | 0,_,_,_,hd,_=>by omega
 | d+1,k,s,hk,hd,hs=>by
  have h5:=h.t5;rw[zsK]
  by_cases hkl:k < L.length
  ·have hg:=yag hkl;have hx:=hL _ (yat hkl);have hn:=hs.net;rw[yaa (by omega),zrS hg,obs,zqr (by omega),zAF h hb (fun j=>by have:=hs.pays j; omega) hs.cap hx (by omega) (by omega),show(k:Int)+1=((k+1:Nat):Int) by omega,yaJ hkl];have hs':=hs.step (th:=fun k=>b.testBit k) h.tsOk (x:=L[k]) (by omega);exact zAG h hb hL hl d (k+1) (zAz p.Treaties (fun k=>b.testBit k) s L[k]) (by omega) (by omega) ⟨by have:=hs'.net; omega,fun j=>by have:=hs'.pays j; omega,hs'.cap⟩
  ·rw[yab (by omega),ybe (by omega)]
   rfl
theorem zAH(h:VP p){b:Nat}(hb:b < 1000000){L:List Int}(hL:∀x∈L,0<=x/\x<=1000)(hl:L.length<=9):zsL p L (b:Int)=some (lN p.Treaties.length (zAA p.Treaties (fun k=>b.testBit k) L).1,(zAA p.Treaties (fun k=>b.testBit k) L).2):=by
 have h5:=h.t5;unfold zsL;rw[zqr (by omega),yaA,zAt h5];exact zAG h hb hL hl (L.length+1) 0 (fun _=>0,0) (yaq _) (by omega) ⟨⟨yam _,yam _⟩,fun _=>⟨yam _,yam _⟩,zzl h.tsOk⟩
end
def ofB(ts:List Ty)(j:Nat):Bool:=match ts[j]? with | some t=>decide (t.Of < 0) | none=>false
theorem zAI{ts:List Ty}{j:Nat}{t:Ty}(h:ts[j]? = some t):ofB ts j=decide (t.Of < 0):=by unfold ofB; rw[h]
end
end Go.Proofs.YtkcmdghjgoaggaaGreat

namespace Go.Proofs.YtkcmdghjgoaggaaGreat
open _root_.Go.Proofs.Tryz
open Go.Abs
set_option maxRecDepth 100000
noncomputable section
theorem zAJ{b:Nat}(hb:b < 65536):∀(d p:Nat) (acc:List Int),p<=16->16 - p < d->acc=zxW b p->zsS (b:Int) d acc (p:Int)=some (zxX b)
 | 0,_,_,_,h,_=>by omega
 | d+1,p,acc,hp,h,ha=>by
  have hle:b / 2 ^ p<=b:=Nat.div_le_self _ _;rw[zsS,wu (show p<=64 by omega)]
  have hq:(b:Int) / 2 ^ ((p:Int)).toNat=((b / 2 ^ p:Nat):Int):=by rw[yaA]; simp
  rw[hq]
  clear hq
  have hl:=zx1 (b:=b) p;have hbit:b.testBit p=decide (b / 2 ^ p % 2=1):=ycn ..
  have h16:p=16->b / 2 ^ p=0:=fun he=>by subst he; exact Nat.div_eq_of_lt (by omega)
  have h0':b / 2 ^ p=0->zxW b p=zxX b:=fun h9=>by
   have:=zx0 (b:=b) (p:=p) (fun q hq=>zjo h9 hq) (16 - p);rw[show p+(16 - p)=16 by omega] at this;exact this.symm
  generalize b / 2 ^ p=q at hle hbit h16 h0' ⊢;rw[zqr (by omega),zqr (by omega),zqr (by omega),zqr (fI (by omega))]
  by_cases h0:0 < q
  ·have hp16:p < 16:=by
    rcases yax p 16 with h1 | h1
    ·exact h1
    ·have:=h16 (by omega); omega
   rw[yaa (by omega),zqr (by omega),zqr (by omega),zqr (by omega),zqr (fI (by omega)),zqr (by omega),zqr (by omega),zqr (fI (by omega))]
   by_cases h1:q % 2=1
   ·rw[yaa (by omega),zqr (show acc.length < 1048576 by rw[ha]; omega),zqr (fI (by omega)),show(p:Int)+1=((p+1:Nat):Int) by omega];refine zAJ hb d (p+1) _ (by omega) (by omega) ?_
    show _=zxW b p++(if b.testBit p then [(p:Int)] else [])
    rw[ha,hbit,h1]; rfl
   ·rw[yab (by omega),zqr (fI (by omega)),show(p:Int)+1=((p+1:Nat):Int) by omega];refine zAJ hb d (p+1) _ (by omega) (by omega) ?_
    show _=zxW b p++(if b.testBit p then [(p:Int)] else [])
    rw[ha,hbit,decide_eq_false h1]; simp
  ·rw[yab (by omega),ha];exact congrArg some (h0' (by omega))
theorem zAK{b:Nat}(hb:b < 65536):zsT (b:Int)=some (zxX b):=zAJ hb 1000000 0 [] (yaq _) (by omega) rfl
def zAL(n:Nat):List Int:=(List.range n).map fun j=>((j:Nat):Int)
theorem zAM(n:Nat):Inc n 0 (zAL n):=by
 refine⟨?_,fun v hv=>?_⟩
 ·unfold zAL;rw[ybq]
  exact List.pairwise_lt_range.imp fun h=>by omega
 ·obtain⟨j,hj,rfl⟩:=yar.1 hv;have:=ybP.1 hj
  omega
theorem zAN{n j:Nat}(h:j < n):inD (zAL n) j=true:=decide_eq_true (yar.2 ⟨j,ybP.2 h,rfl⟩)
theorem zAO{b:Nat}:(zxX b).length<=16:=zx1 16
structure zAP (n:Nat) (P:(Nat->Bool)->Prop) (M:List Int):Prop where
 inc:Inc n 0 M
 ok:P (inD M)
 min:∀D,Inc n 0 D->P (inD D)->D=M\/shB M D=true
theorem zAP.uniq{n:Nat}{P:(Nat->Bool)->Prop}{M M':List Int}(h:zAP n P M)(h':zAP n P M'):M=M':=by
 rcases h.min M' h'.inc h'.ok with h1 | h1
 ·exact h1.symm
 ·rcases h'.min M h.inc h.ok with h2 | h2
  ·exact h2
  ·rw[zx6 h1] at h2; cases h2
def macc(S:Nat->Bool):Nat->Nat
 | 0=>0
 | i+1=>if S i=true then macc S i ||| 2 ^ i else macc S i
theorem zAQ(S:Nat->Bool)(j:Nat):∀i,(macc S i).testBit j=(decide (j < i) && S j)
 | 0=>by simp[macc]
 | i+1=>by
  have ih:=zAQ S j i;unfold macc
  by_cases hs:S i=true
  ·rw[yaa hs,ybO,ih,yco]
   by_cases h:i=j
   ·subst h; simp[hs]
   ·have:decide (j < i+1)=decide (j < i):=decide_eq_decide.2 (by omega);rw[this]; simp[h]
  ·rw[yab hs,ih]
   by_cases h:i=j
   ·subst h
    have:S i=false:=by simpa using hs
    rw[this]; simp
   ·have:decide (j < i+1)=decide (j < i):=decide_eq_decide.2 (by omega);rw[this]
theorem zAR{n:Nat}:2 ^ n - 1 < 2 ^ n:=by have:=ycx n; omega
theorem zAS{i:Nat}(h:i<=6):2 ^ i<=64:=ybw (n:=2) (by omega) h
def zAT:List Rg->Int->List Int
 | [],_=>[]
 | r::rs,n=>(r.Lo+n % (r.Hi - r.Lo+1))::zAT rs (n / (r.Hi - r.Lo+1))
theorem zAU:∀{rs:List Rg} {n:Int},(∀r∈rs,r.Lo<=r.Hi)->0<=n->inL rs (zAT rs n)
 | [],_,_,_=>trivial
 | r::rs,n,h,h0=>by
  have hr:=h r (yad ..);have h1:=yb9 n (show r.Hi - r.Lo+1 ≠ 0 by omega);have h2:=yca n (show 0 < r.Hi - r.Lo+1 by omega);exact⟨⟨by omega,by omega⟩,zAU (fun r hr=>h r (yah _ hr)) (Int.ediv_nonneg h0 (by omega))⟩
theorem zAV:∀{rs:List Rg} {L:List Int},inL rs L->∃n,0<=n/\n < zyw rs/\zAT rs n=L
 | [],[],_=>⟨0,yam _,by show(0:Int) < 1; omega,rfl⟩
 | [],_::_,h=>h.elim
 | _::_,[],h=>h.elim
 | r::rs,x::xs,h=>by
  obtain⟨n,h0,h1,h2⟩:=zAV h.2;have hx:=h.1;obtain⟨c,hc⟩:∃c,c=r.Hi - r.Lo+1:=⟨_,rfl⟩;refine⟨(x - r.Lo)+c * n,?_,?_,?_⟩
  ·have:=yb8 (show 0<=c by omega) h0; omega
  ·show _ < (r.Hi - r.Lo+1) * zyw rs
   rw[<- hc];have:=yb7 (show n+1<=zyw rs by omega) (show 0<=c by omega);rw[Int.mul_add,Int.mul_one] at this
   omega
  ·show(r.Lo+_ % (r.Hi - r.Lo+1))::zAT rs (_ / (r.Hi - r.Lo+1))=_
   rw[<- hc,Int.add_mul_emod_self_left,Int.emod_eq_of_lt (by omega) (by omega),Int.add_mul_ediv_left _ _ (by omega),Int.ediv_eq_zero_of_lt (by omega) (by omega),Int.zero_add,h2]
   congr 1; omega
theorem zAW{p:Pg}(h:VP p):∀(d k:Nat) (acc:List Int) (n:Int),k<=p.Losses.length->p.Losses.length - k < d->acc.length=k->0<=n/\n<=100000->zsD p d acc n (k:Int)=some (acc++zAT (p.Losses.drop k) n)
 | 0,_,_,_,_,hd,_,_=>by omega
 | d+1,k,acc,n,hk,hd,ha,hn=>by
  have h4:=h.l4;rw[zsD]
  by_cases hkl:k < p.Losses.length
  ·have hg:=yag hkl;have hr:=h.ls _ (yat hkl);rw[yaJ hkl];generalize p.Losses[k]=r at hg hr;have hr':=hr;unfold RgV at hr';have h1:=yb9 n (show r.Hi - r.Lo+1 ≠ 0 by omega);have h2:=yca n (show 0 < r.Hi - r.Lo+1 by omega);have h3:=Int.ediv_nonneg hn.1 (show 0<=r.Hi - r.Lo+1 by omega);have h5:=Int.ediv_le_self (r.Hi - r.Lo+1) hn.1
   simp only[zrS hg,obs,zyV hr]
   rw[yaa (by omega),zqr hn.1,zqr (by omega),zqr (fI (by omega)),zqr (fI (by omega)),zqr (by omega),zqr hn.1,zqr (by omega),zqr (fI (by omega)),zqr (fI (by omega)),show(k:Int)+1=((k+1:Nat):Int) by omega];refine(zAW h d (k+1) (acc++[r.Lo+n % (r.Hi - r.Lo+1)]) (n / (r.Hi - r.Lo+1)) (by omega) (by omega) (by rw[yan,ha]; rfl) (by omega)).trans ?_;rw[yaK]; rfl
  ·rw[yab (by omega),ybe (by omega)]
   show _=some (acc++[])
   rw[yaO]
theorem zAX{p:Pg}(h:VP p){n:Int}(hn:0<=n/\n<=100000):zsE p n=some (zAT p.Losses n):=zAW h 1000000 0 [] n (yaq _) (by have:=h.l4; omega) rfl hn
theorem VP.nthIn{p:Pg}(h:VP p){n:Int}(hn:0<=n):inL p.Losses (zAT p.Losses n):=zAU (fun r hr=>(h.ls r hr).2.1) hn
theorem zAY{n:Nat}(h:n<=6):(1:Int) * 2 ^ (Int.toNat (zmb .u64 (n:Int)))=((2 ^ n:Nat):Int):=by rw[wu (by omega),yaA,Int.one_mul,ycf]; rfl
theorem zAZ{n:Nat}(h:n<=6):(gd ((0:Int)<=(1:Int)) (gd ((0:Int)<=(zmb .u64 (n:Int))) (gd ((zmb .u64 (n:Int))<=(64:Int)) (gd (zl7 .i64 ((1:Int) * ((2:Int) ^ (Int.toNat (zmb .u64 (n:Int)))))) (gd (zl7 .i64 (((1:Int) * ((2:Int) ^ (Int.toNat (zmb .u64 (n:Int))))) - (1:Int))) (some (((1:Int) * ((2:Int) ^ (Int.toNat (zmb .u64 (n:Int))))) - (1:Int))))))))=some ((2 ^ n - 1:Nat):Int):=by
 have hp:=zAS h;have hp0:0 < 2 ^ n:=ycx _;rw[zAY h,zqr (by omega),wu (by omega),zqr (by omega),zqr (by omega),zqr (fI (by omega)),zqr (fI (by omega))]
 congr 1
 omega
theorem zA0{p:Pg}(h:VP p):zsG p=some ((2 ^ p.Treaties.length - 1:Nat):Int):=zAZ (by have:=h.t5; omega)
theorem l9{p:Pg}(h:VP p){L:List Int}(hL:inL p.Losses L):L.length<=9:=by rw[zzx hL]; have:=h.l4; omega
open Classical in
def agR(P:Nat->Int)(r:Rpt):Prop:=r.Paid.Lo<=P r.Treaty.toNat/\P r.Treaty.toNat<=r.Paid.Hi
open Classical in
def agf(p:Pg)(L:List Int)(j:Nat):Bool:=decide (∀r,p.Reports[j]? = some r->agR (zzk p.Treaties L).pays r)
open Classical in
theorem zA1{p:Pg}{L:List Int}{j:Nat}{r:Rpt}(h:p.Reports[j]? = some r):agf p L j=true↔agR (zzk p.Treaties L).pays r:=by
 unfold agf;rw[decide_eq_true_eq];exact⟨fun q=>q r h,fun q r' h'=>by rw[h] at h'; cases h'; exact q⟩
def zA2(p:Pg)(L:List Int):Nat:=macc (agf p L) p.Reports.length
def PL(p:Pg)(S:Nat->Bool):Prop:=∃L,inL p.Losses L/\∀j,j < p.Reports.length->S j=false->agf p L j=true
theorem PL.congr{p:Pg}{S S':Nat->Bool}(h:∀j,j < p.Reports.length->S j=S' j):PL p S↔PL p S':=
 exists_congr fun _=>and_congr_right fun _=>forall_congr' fun j=>forall_congr' fun hj=>by rw[h j hj]
theorem zA3{p:Pg}(h:VP p){L:List Int}(hL:inL p.Losses L):(∀j,0<=(zzk p.Treaties L).pays j/\(zzk p.Treaties L).pays j<=4000)/\(∀j,0<=(zzk p.Treaties L).keeps j/\(zzk p.Treaties L).keeps j<=4000)/\0<=(zzk p.Treaties L).soc/\(zzk p.Treaties L).soc<=4000:=by
 obtain⟨h1,h2,h3⟩:=zzO h hL;refine⟨fun j=>?_,fun j=>?_,?_⟩
 ·have:=h1.pays j; omega
 ·have:=h1.keeps j; omega
 ·have:=h1.soc; omega
theorem VP.prodPos{p:Pg}(h:VP p):1<=zyw p.Losses:=(zyL h.ls h.l4).1
end
end Go.Proofs.YtkcmdghjgoaggaaGreat

namespace Go.Proofs.YtkcmdghjgoaggaaGreat
open _root_.Go.Proofs.Tryz
open Go.Abs
set_option maxRecDepth 100000
noncomputable section
theorem zA4{p:Pg}{L:List Int}:zA2 p L=2 ^ p.Reports.length - 1↔agN (zzk p.Treaties L).pays p.Reports:=by
 constructor
 ·intro h r hr;obtain⟨j,hj⟩:=ybr.1 hr;have hjl:=(yai.1 hj).1
  have e:(zA2 p L).testBit j=true:=by rw[h,ycz,decide_eq_true hjl]
  unfold zA2 at e;rw[zAQ] at e;exact(zA1 hj).1 (Bool.and_eq_true_iff.1 e).2
 ·intro h
  apply Nat.eq_of_testBit_eq
  intro j;unfold zA2;rw[zAQ,ycz]
  by_cases hj:j < p.Reports.length
  ·have hg:=yag hj;rw[decide_eq_true hj,(zA1 hg).2 (h _ (yat hj))]; rfl
  ·rw[decide_eq_false hj]; rfl
def trL(p:Pg):List (List Int):=((List.range (zyw p.Losses).toNat).filter fun n:Nat=>decide (zA2 p (zAT p.Losses (n:Int))=2 ^ p.Reports.length - 1)).map fun n:Nat=>zAT p.Losses (n:Int)
theorem zA5{p:Pg}(h:VP p){L:List Int}:L∈trL p↔TrS p p.Reports L:=by
 unfold trL TrS;rw[yar]
 constructor
 ·rintro⟨n,hn,rfl⟩
  obtain⟨_,h2⟩:=yaS.1 hn;exact⟨h.nthIn (by omega),zA4.1 (of_decide_eq_true h2)⟩
 ·rintro⟨hL,hA⟩
  obtain⟨n,n0,n1,rfl⟩:=zAV hL;refine⟨n.toNat,yaS.2 ⟨ybP.2 (by omega),decide_eq_true ?_⟩,?_⟩
  ·rw[show((n.toNat:Nat):Int)=n by omega]; exact zA4.2 hA
  ·show zAT p.Losses ((n.toNat:Nat):Int)=_
   rw[show((n.toNat:Nat):Int)=n by omega]
theorem zA6{p:Pg}:zz2 p p.Reports↔PL p fun j=>!(2 ^ p.Reports.length - 1).testBit j:=by
 constructor
 ·rintro⟨L,h1,h2⟩
  exact⟨L,h1,fun j hj _=>(zA1 (yag hj)).2 (h2 _ (yat hj))⟩
 ·rintro⟨L,h1,h2⟩
  refine⟨L,h1,fun r hr=>?_⟩;obtain⟨j,hj⟩:=ybr.1 hr;have hjl:=(yai.1 hj).1;exact(zA1 hj).1 (h2 j hjl (by show(!(2 ^ p.Reports.length - 1).testBit j)=false; rw[ycz,decide_eq_true hjl]; rfl))
def wd(r:Rg)(x:Int):Rg:={ Lo:=min r.Lo x,Hi:=max r.Hi x }
def emp:Rg:={ Lo:=1099511627776,Hi:=-1099511627776 }
def wdL(g:List Int->Int)(l:List (List Int)):Rg:=l.foldl (fun r L=>wd r (g L)) emp
theorem zA7{g:List Int->Int}{l:List (List Int)}{k:Nat}{L:List Int}(h:l[k]? = some L):wdL g (l.take (k+1))=wd (wdL g (l.take k)) (g L):=by
 unfold wdL;rw[ybf,h,List.foldl_append]; rfl
theorem zA8{g:List Int->Int}:∀(l:List (List Int)) (r:Rg),((l.foldl (fun r L=>wd r (g L)) r).Lo=r.Lo\/∃L∈l,g L=(l.foldl (fun r L=>wd r (g L)) r).Lo)/\((l.foldl (fun r L=>wd r (g L)) r).Hi=r.Hi\/∃L∈l,g L=(l.foldl (fun r L=>wd r (g L)) r).Hi)/\(l.foldl (fun r L=>wd r (g L)) r).Lo<=r.Lo/\r.Hi<=(l.foldl (fun r L=>wd r (g L)) r).Hi/\∀L∈l,(l.foldl (fun r L=>wd r (g L)) r).Lo<=g L/\g L<=(l.foldl (fun r L=>wd r (g L)) r).Hi
 | [],r=>⟨.inl rfl,.inl rfl,yam _,yam _,fun L hL=>by cases hL⟩
 | L::l,r=>by
  obtain⟨a,b,c,d,e⟩:=zA8 (g:=g) l (wd r (g L));have h1:(wd r (g L)).Lo=min r.Lo (g L):=rfl;have h2:(wd r (g L)).Hi=max r.Hi (g L):=rfl;rw[h1] at a c;rw[h2] at b d;rw[ycc];generalize l.foldl (fun r L=>wd r (g L)) (wd r (g L))=R at a b c d e ⊢;refine⟨?_,?_,by clear a b; omega,by clear a b; omega,fun L' hL'=>?_⟩
  ·clear b
   rcases a with a | ⟨L',q1,q2⟩
   ·rcases yb3 r.Lo (g L) with h | h
    ·exact .inl (by omega)
    ·exact .inr ⟨L,yad ..,by omega⟩
   ·exact .inr ⟨L',yah _ q1,q2⟩
  ·clear a
   rcases b with b | ⟨L',q1,q2⟩
   ·rcases yb3 (g L) r.Hi with h | h
    ·exact .inl (by omega)
    ·exact .inr ⟨L,yad ..,by omega⟩
   ·exact .inr ⟨L',yah _ q1,q2⟩
  ·clear a b
   rcases yaj.1 hL' with h | h
   ·subst h; omega
   ·exact e L' h
theorem zA9{g:List Int->Int}{l:List (List Int)}(hne:l ≠ [])(hb:∀L∈l,-1000000<=g L/\g L<=1000000):IsB (·∈l) g (wdL g l):=by
 obtain⟨a,b,c,d,e⟩:=zA8 (g:=g) l emp;have h1:emp.Lo=1099511627776:=rfl;have h2:emp.Hi = -1099511627776:=rfl;rw[h1] at a c;rw[h2] at b d;obtain⟨L0,hL0⟩:=ycB l hne;have q1:=hb L0 hL0;have q2:=e L0 hL0;unfold wdL;generalize l.foldl (fun r L=>wd r (g L)) emp=R at a b c d e q2 ⊢;refine⟨?_,?_,e⟩
 ·clear b
  rcases a with a | a
  ·omega
  ·exact a
 ·clear a
  rcases b with b | b
  ·omega
  ·exact b
def bsN(n:Nat)(f:Nat->Bd):List Bd:=(List.range n).map f
theorem zBa{n:Nat}{f:Nat->Bd}:(bsN n f).length=n:=by unfold bsN; rw[yay,List.length_range]
theorem zBb{n:Nat}{f:Nat->Bd}{k:Nat}(h:k < n):(bsN n f)[k]? = some (f k):=by unfold bsN; rw[ybB,List.getElem?_range h]; rfl
def bdF(p:Pg)(l:List (List Int))(k:Nat):Bd:={ Pays:=wdL (fun L=>(zzk p.Treaties L).pays k) l,Keeps:=wdL (fun L=>(zzk p.Treaties L).keeps k) l }
theorem zBc{p:Pg}(h:VP p)(hc:zz2 p p.Reports):zAl p (bsN p.Treaties.length (bdF p (trL p)))/\IsB (TrS p p.Reports) (fun L=>(zzk p.Treaties L).soc) (wdL (fun L=>(zzk p.Treaties L).soc) (trL p)):=by
 have hne:trL p ≠ []:=fun e=>by
  obtain⟨L,hL⟩:=hc;have:=(zA5 h).2 hL
  rw[e] at this; cases this
 have hb:∀L∈trL p,inL p.Losses L:=fun L hL=>((zA5 h).1 hL).1;refine⟨⟨zBa,fun k b hk=>?_⟩,?_⟩
 ·have hkl:=(yai.1 hk).1;rw[zBa] at hkl;rw[zBb hkl] at hk
  cases hk
  refine⟨(zA9 hne fun L hL=>?_).congr (fun L=>zA5 h) fun _ _=>rfl,(zA9 hne fun L hL=>?_).congr (fun L=>zA5 h) fun _ _=>rfl⟩
  ·have:=(zA3 h (hb L hL)).1 k; omega
  ·have:=(zA3 h (hb L hL)).2.1 k; omega
 ·refine(zA9 hne fun L hL=>?_).congr (fun L=>zA5 h) fun _ _=>rfl;have:=(zA3 h (hb L hL)).2.2; omega
def kpF:List Rpt->Nat->(Nat->Bool)->List Rpt
 | [],_,_=>[]
 | v::V,i,S=>if S i=true then v::kpF V (i+1) S else kpF V (i+1) S
theorem zBd{S:Nat->Bool}{v:Rpt}:∀(V:List Rpt) (i:Nat),v∈kpF V i S↔∃j,V[j]? = some v/\S (i+j)=true
 | [],i=>by simp[kpF]
 | a::V,i=>by
  have ih:=zBd (S:=S) (v:=v) V (i+1)
  have e:(∃j,(a::V)[j]? = some v/\S (i+j)=true)↔(a=v/\S i=true)\/∃j,V[j]? = some v/\S (i+1+j)=true:=by
   constructor
   ·rintro⟨j,h1,h2⟩
    cases j with
    | zero=>exact .inl ⟨by simpa using h1,h2⟩
    | succ j=>exact .inr ⟨j,by simpa using h1,by rw[show i+1+j=i+(j+1) by omega]; exact h2⟩
   ·rintro (⟨h1,h2⟩ | ⟨j,h1,h2⟩)
    ·exact⟨0,by simpa using h1,h2⟩
    ·exact⟨j+1,by simpa using h1,by rw[show i+(j+1)=i+1+j by omega]; exact h2⟩
  rw[e];unfold kpF
  by_cases hs:S i=true
  ·rw[yaa hs,yaj,ih];exact or_congr ⟨fun h=>⟨h.symm,hs⟩,fun h=>h.1.symm⟩ Iff.rfl
  ·rw[yab hs,ih];exact⟨.inr,fun h=>h.elim (fun h=>absurd h.2 hs) id⟩
theorem zBe{S:Nat->Bool}:∀(V:List Rpt) (i:Nat),(kpF V i S).length<=V.length
 | [],_=>yac _
 | a::V,i=>by
  have:=zBe (S:=S) V (i+1);unfold kpF
  split <;> simp only[List.length_cons] <;> omega
theorem zBf{l:List Int}{v:Int}(hl:zr2 l):∀d (k:Nat),k<=l.length->l.length - k < d->∃r,ztW l v d (k:Int)=some r/\(0<=r↔v∈l.drop k)
 | 0,k,_,h=>by omega
 | d+1,k,hk,h=>by
  unfold zr2 at hl;unfold ztW
  by_cases hkn:k=l.length
  ·subst hkn; rw[yab (yaH _)]; exact⟨_,rfl,by simp⟩
  ·have hlt:k < l.length:=by omega
   rw[yaa (by omega),zrS (yag hlt),obs];have hd:=yaJ hlt
   by_cases hv:v=l[k]
   ·rw[yaa hv]; exact⟨_,rfl,⟨fun _=>by rw[hd,<- hv]; exact yad ..,fun _=>by omega⟩⟩
   ·rw[yab hv,zqr (fI (by omega)),show(k:Int)+1=((k+1:Nat):Int) by omega];obtain⟨r,h1,h2⟩:=zBf hl d (k+1) (by omega) (by omega);exact⟨r,h1,h2.trans ⟨fun h=>by rw[hd]; exact yah _ h,fun h=>by rw[hd] at h; exact(yaj.1 h).resolve_left hv⟩⟩
theorem zBg{l:List Int}{v:Int}(hl:zr2 l):ztY l v=some (decide (v∈l)):=by
 unfold ztY ztX;obtain⟨r,h1,h2⟩:=zBf (v:=v) hl (l.length+1) 0 (yaq _) (by omega);have h1:ztW l v (l.length+1) 0=some r:=h1;rw[h1,obs];exact congrArg some (decide_eq_decide.2 (h2.trans (by rw[yas])))
theorem zBh{p:Int->Option Bool}{f:Nat->Bool}{n:Nat}(hn:n<=1000000)(hp:∀m,m < n->p (m:Int)=some (f m))(hm:∀m k,m<=k->k < n->f m=true->f k=true):∀d (i j:Nat),i<=j->j<=n->j - i < d->(∀m,m < i->f m=false)->(∀m,j<=m->m < n->f m=true) ->
  ∃k:Nat,zup p d (i:Int) (j:Int)=some (k:Int)/\k<=n/\(∀m,m < k->f m=false)/\(∀m,k<=m->m < n->f m=true)
 | 0,_,_,_,_,h,_,_=>by omega
 | d+1,i,j,hij,hj,h,hlo,hhi=>by
  rw[zup]
  by_cases hc:i < j
  ·obtain⟨md,hmd⟩:∃md:Nat,md=(i+j) / 2:=⟨_,rfl⟩
   have hf:zl7 .u64 ((i:Int)+j):=show _/\_ by constructor <;> omega
   have e:zmb .i64 (zmb .u64 ((i:Int)+j) / 2)=(md:Int):=by
    rw[wz hf,wz (fI (by omega))]; omega
   rw[yaa (by omega),zqr (fI (by omega)),zqr (by rw[wz hf]; omega),zqr (by omega),zqr (by omega),zqr (by rw[wz hf]; exact show _/\_ by constructor <;> omega),e,hp md (by omega),obs]
   cases hq:f md with
   | true=>
    rw[yaa rfl];exact zBh hn hp hm d i md (by omega) (by omega) (by omega) hlo fun m h1 h2=>hm md m h1 h2 hq
   | false=>
    rw[yab (by decide),zqr (fI (by omega)),show(md:Int)+1=((md+1:Nat):Int) by omega]
    exact zBh hn hp hm d (md+1) j (by omega) hj (by omega) (fun m h1=>by
     cases hq2:f m with
     | false=>rfl
     | true=>have:=hm m md (by omega) (by omega) hq2; rw[hq] at this; cases this) hhi
  ·rw[yab (by omega)];exact⟨i,rfl,by omega,hlo,fun m h1 h2=>hhi m (by omega) h2⟩
theorem zBi{p:Pg}{L:List Int}{S:Nat->Bool}:agN (zzk p.Treaties L).pays (kpF p.Reports 0 S)↔∀j,j < p.Reports.length->S j=true->agf p L j=true:=by
 constructor
 ·intro h j hj hs;have hg:=yag hj;exact(zA1 hg).2 (h _ ((zBd _ _).2 ⟨j,hg,by rw[yav]; exact hs⟩))
 ·intro h r hr;obtain⟨j,h1,h2⟩:=(zBd _ _).1 hr;rw[yav] at h2;exact(zA1 h1).1 (h j (yai.1 h1).1 h2)
theorem zBj{p:Pg}{S:Nat->Bool}:zz2 p (kpF p.Reports 0 S)↔PL p fun j=>!S j:=by
 unfold zz2 PL;refine exists_congr fun L=>and_congr_right fun _=>zBi.trans ?_;refine forall_congr' fun j=>forall_congr' fun _=>?_
 show(S j=true->_)↔((!S j)=false->_)
 cases S j <;> simp
theorem zBk{l:List Rpt}{D:List Int}(hl:l.length<=1000)(hD:zr2 D):zt0 l D=some (kpF l 0 fun j=>!inD D j):=by
 have key:∀(d k:Nat) (acc:List Rpt),k<=l.length->l.length - k < d->acc.length<=k->ztZ l D d acc (k:Int)=some (acc++kpF (l.drop k) k fun j=>!inD D j):=by
  intro d
  induction d with
  | zero=>intro k _ _ h _; omega
  | succ d ih=>
   intro k acc hk hd ha;rw[ztZ]
   by_cases hkl:k < l.length
   ·rw[yaa (by omega),zrS (yag hkl),obs,zBg hD,obs,yaJ hkl,kpF]
    by_cases hin:(k:Int)∈D
    ·have e:inD D k=true:=decide_eq_true hin;rw[decide_eq_true hin,yaa rfl,zqr (fI (by omega)),show(k:Int)+1=((k+1:Nat):Int) by omega,yab (by rw[e]; simp)];exact ih (k+1) acc (by omega) (by omega) (by omega)
    ·have e:inD D k=false:=decide_eq_false hin;rw[decide_eq_false hin,yab (by decide),zqr (by omega),zqr (fI (by omega)),show(k:Int)+1=((k+1:Nat):Int) by omega,yaa (by rw[e]; rfl)];refine(ih (k+1) _ (by omega) (by omega) (by rw[yan]; show acc.length+1<=_; omega)).trans ?_;rw[yaK]; rfl
   ·rw[yab (by omega),ybe (by omega)]
    show _=some (acc++[])
    rw[yaO]
 exact key (l.length+1) 0 [] (yaq _) (by omega) (yac _)
theorem zzT.kp{p:Pg}(h:VP p)(S:Nat->Bool):zzT (kpF p.Reports 0 S):=fun r hr=>by
 obtain⟨j,h1,_⟩:=(zBd _ _).1 hr;exact h.rsOk r (yaI h1)
theorem zBl{p:Pg}(h:VP p){D:List Int}(hD:zr2 D):Ev (zus D (zzM p (zzE p)) p) (PL p (inD D)):=by
 have hr5:=h.r5;unfold zus;rw[zBk (by omega) hD,obs]
 show Ev ((zt7 (zzM p (zzE p)) (kpF p.Reports 0 fun j=>!inD D j)).bind _) _
 have hlen:=zBe (S:=fun j=>!inD D j) p.Reports 0;refine(zz3 h (zzT.kp h _) (zr3 hlen (by omega))).ret.imp (zBj.trans (PL.congr fun j _=>?_))
 simp
theorem zBm{p:Pg}(h:VP p):PL p (inD (zAL p.Reports.length)):=by
 obtain⟨L,hL⟩:=zzI h;exact⟨L,hL,fun j hj hs=>by rw[zAN hj] at hs; cases hs⟩
theorem zBn{p:Pg}(h:VP p):∃M,zut p=some (M,0)/\zAP p.Reports.length (PL p) M:=by
 have h4:=h.r5;have hsh:∀D,Inc p.Reports.length 0 D->zr2 D:=fun D hD=>zr3 (yac D.length) (by have:=zxU hD; omega)
 have ht:∀D,Inc p.Reports.length 0 D->((zus D (zzM p (zzE p)) p).getD false=true↔PL p (inD D)):=fun D hD=>by
  obtain⟨b,q1,q2⟩:=zBl h (hsh D hD);rw[q1]; exact q2
 obtain⟨s1,s2,s3⟩:=zyc (n:=p.Reports.length) (t:=fun L=>(zus L (zzM p (zzE p)) p).getD false) ⟨zAL p.Reports.length,zAM _,(ht _ (zAM _)).2 (zBm h)⟩;refine⟨zrz p.Reports.length fun L=>(zus L (zzM p (zzE p)) p).getD false,?_,s1,(ht _ s1).1 s2,fun D hD hD2=>s3 D hD ((ht D hD).2 hD2)⟩;unfold zut zrA
 rw[zAe h,obs,yaa rfl,zzS h,obs,zqr ⟨by omega,by omega,fun L hL=>by
  have hI:Inc p.Reports.length 0 L:=by rw[yaA] at hL; exact zxV.1 hL
  obtain⟨b,q1,_⟩:=zBl h (hsh L hI)
  show(zus L (zzM p (zzE p)) p).isSome=true
  rw[q1]; rfl⟩,obs,yaA]
def FP(p:Pg)(j:Nat):Prop:=zz2 p (p.Reports.take (j+1))
theorem zBo{p:Pg}{i j:Nat}(hij:i<=j)(h:FP p j):FP p i:=by
 obtain⟨L,h1,h2⟩:=h;refine⟨L,h1,fun r hr=>h2 r ?_⟩
 have e:p.Reports.take (i+1)=(p.Reports.take (j+1)).take (i+1):=by rw[yaz,show min (i+1) (j+1)=i+1 by omega]
 rw[e] at hr;exact yb6 hr
open Classical in
theorem zBp{p:Pg}(h:VP p):(∃j,j < p.Reports.length/\¬ FP p j/\(∀i,i < j->FP p i)/\zur p=some ((j:Int),0))\/((∀j,j < p.Reports.length->FP p j)/\zur p=some (0,7)):=by
 have h4:=h.r5
 have hf:∀m,m < p.Reports.length->zuo (m:Int) (zzM p (zzE p)) p=some (decide (¬ FP p m)):=fun m hm=>by
  unfold zuo;rw[zqr (fI (by omega)),zqr (by omega),show Int.toNat ((m:Int)+1)=m+1 by omega,show Int.toNat (0:Int)=0 from rfl,yas]
  show(zt7 (zzM p (zzE p)) (p.Reports.take (m+1))).bind _=_
  have hlen:(p.Reports.take (m+1)).length<=5:=by rw[yau]; omega
  have hc:=zz3 h (rs:=p.Reports.take (m+1)) (fun r hr=>h.rsOk r (yb6 hr)) (zr3 hlen (by omega))
  by_cases hq:FP p m
  ·rw[hc.some_of hq,obs,decide_eq_false (not_not_intro hq)]; rfl
  ·rw[hc.some_not hq,obs,decide_eq_true hq]; rfl
 obtain⟨k,q1,q2,q3,q4⟩:=zBh (n:=p.Reports.length) (p:=fun a=>zuo a (zzM p (zzE p)) p) (f:=fun m=>decide (¬ FP p m)) (by omega) hf (fun m k h1 h2 h3=>decide_eq_true fun hk=>of_decide_eq_true h3 (zBo h1 hk)) ((p.Reports.length:Int).toNat+1) 0 p.Reports.length (yaq _) (yac _) (by omega) (fun m hm=>by omega) fun m h1 h2=>by omega
 have e:zur p=if ((k:Nat):Int)=(p.Reports.length:Int) then some (0,7) else some ((k:Int),0):=by
  unfold zur zuq;rw[zAe h,obs,yaa rfl,zzS h,obs];have q1:zup (fun a=>zuo a (zzM p (zzE p)) p) ((p.Reports.length:Int).toNat+1) 0 (p.Reports.length:Int)=some (k:Int):=q1;rw[q1,obs]
 have hlt:∀i,i < k->FP p i:=fun i hi=>Classical.not_not.1 (of_decide_eq_false (q3 i hi))
 by_cases hk:k=p.Reports.length
 ·rw[yaa (by omega)] at e;exact .inr ⟨fun j hj=>hlt j (by omega),e⟩
 ·rw[yab (by omega)] at e;exact .inl ⟨k,by omega,of_decide_eq_true (q4 k (yac _) (by omega)),hlt,e⟩
theorem zBq{p:Pg}{j j':Nat}(h1:¬ FP p j)(h2:∀i,i < j->FP p i)(h3:¬ FP p j')(h4:∀i,i < j'->FP p i):j=j':=by
 rcases ycp j j' with h | h | h
 ·exact absurd (h4 j h) h1
 ·exact h
 ·exact absurd (h2 j' h) h3
end
end Go.Proofs.YtkcmdghjgoaggaaGreat

namespace Go.Proofs.YtkcmdghjgoaggaaGreat
open _root_.Go.Proofs.Tryz
open Go.Abs
set_option maxRecDepth 100000
noncomputable section
theorem zBr{l:List Int}:(∀j,0 < j->j < l.length->∀a b,l[j - 1]? = some a->l[j]? = some b->a < b)↔l.Pairwise (· < ·):=by
 constructor
 ·intro h;rw[ycC];intro i j hi hj hij
  have key:∀d,(hd:i+d+1 < l.length)->l[i] < l[i+d+1]:=fun d=>by
   induction d with
   | zero=>intro hd; exact h (i+1) (by omega) hd _ _ (yag hi) (yag hd)
   | succ d ih=>
    intro hd;have h1:=ih (by omega);have h2:=h (i+(d+1)+1) (by omega) hd _ _ (yag (show i+d+1 < l.length by omega)) (yag hd);exact Int.lt_trans h1 h2
  have:=key (j - i - 1) (by omega)
  simpa [show i+(j - i - 1)+1=j by omega] using this
 ·intro h j h0 hj a b ha hb;obtain⟨h1,rfl⟩:=yai.1 ha;obtain⟨h2,rfl⟩:=yai.1 hb;exact ycC.1 h (j - 1) j h1 h2 (by omega)
theorem zBs{l:List Int}(hl:zr2 l):Ev (ztw l) (l.Pairwise (· < ·)):=by
 unfold zr2 at hl;unfold ztw
 by_cases h0:l.length=0
 ·have:l=[]:=yaT h0;subst this
  show Ev (ztv [] 1 1) _
  rw[ztv,yab (by decide)];exact Ev.tt .nil
 ·have e:∃n,l.length=n+1:=⟨l.length - 1,by omega⟩;obtain⟨n,hn⟩:=e
  have key:=zrW (n:=n) (F:=fun d x=>ztv l d (x+1)) (ok:=fun j=>∀a b,l[j]? = some a->l[j+1]? = some b->a < b) (bad:=some false) (fin:=some true) (fun d k hk=>by
   show(_->ztv l (d+1) ((k:Int)+1)=_)/\_
   have ha:=yag (show k < l.length by omega);have hb:=yag (show k+1 < l.length by omega);rw[ztv,yaa (by omega),zrT (show(k:Int)+1=((k+1:Nat):Int) by omega) (show k+1 < l.length by omega),obs,zqr (fI (by omega)),zrT (show(k:Int)+1 - 1=(k:Int) by omega) (show k < l.length by omega),obs];refine⟨fun h=>?_,fun h=>?_⟩
   ·have:=h _ _ ha hb;rw[yab (by omega),zqr (fI (by omega))]
   ·rw[yaa]
    apply Classical.byContradiction
    intro h2
    exact h fun a b h3 h4=>by rw[ha] at h3; rw[hb] at h4; cases h3; cases h4; omega) (fun d=>by show ztv l (d+1) _=_; rw[ztv,yab (by omega)]) (d:=((l.length:Int) - 1).toNat+1) (by omega)
  have e0:ztv l (((l.length:Int) - 1).toNat+1) (0+1)=ztv l (((l.length:Int) - 1).toNat+1) 1:=rfl
  have hiff:(∀j,j < n->∀a b,l[j]? = some a->l[j+1]? = some b->a < b)↔l.Pairwise (· < ·):=by
   rw[<- zBr]
   constructor
   ·intro h j h0 hj a b h1 h2;have:=h (j - 1) (by omega) a b h1;rw[show j - 1+1=j by omega] at this;exact this h2
   ·intro h j hj a b h1 h2;exact h (j+1) (by omega) (by omega) a b (by rw[Nat.add_sub_cancel]; exact h1) h2
  by_cases hq:∀j,j < n->∀a b,l[j]? = some a->l[j+1]? = some b->a < b
  ·have:=key.1 hq;exact⟨true,this,⟨fun _=>hiff.1 hq,fun _=>rfl⟩⟩
  ·have:=key.2 hq;exact⟨false,this,⟨fun h=>(by cases h),fun h=>absurd (hiff.2 h) hq⟩⟩
def zke(p:Pg)(l:List Int):Prop:=l.Pairwise (· < ·)/\∀v∈l,(0<=v/\v<=(p.Treaties.length:Int) - 1)/\ofB p.Treaties v.toNat=true
theorem zke.inc{p:Pg}{l:List Int}(h:zke p l):Inc p.Treaties.length 0 l:=⟨h.1,fun v hv=>by have:=(h.2 v hv).1; omega⟩
theorem zke.len{p:Pg}{l:List Int}(h:zke p l):l.length<=p.Treaties.length:=by have:=zxU h.inc; omega
theorem zBt{p:Pg}(h:VP p){n:Int}:Ev (ztG p n) ((0<=n/\n<=(p.Treaties.length:Int) - 1)/\ofB p.Treaties n.toNat=true):=by
 have h5:=h.t5;refine(zyF (zAd h).2.1).and fun hc=>?_;have hg:=yag (show n.toNat < p.Treaties.length by omega);have e:=zrS hg;rw[show((n.toNat:Nat):Int)=n by omega] at e;rw[e,obs];have ho:=h.of' _ _ hg;exact Ev.dec (by rw[zAI hg,decide_eq_true_eq]; omega)
theorem zBu{p:Pg}(h:VP p){l:List Int}(hl:zr2 l):Ev (ztH p l) (zke p l):=
 (zBs hl).and fun _=>(Ev.each (p:=fun a=>ztG p a) (q:=fun v=>(0<=v/\v<=(p.Treaties.length:Int) - 1)/\ofB p.Treaties v.toNat=true) (fun _ _=>zBt h) hl.lt gI).ret
def tyD:Ty:={ Kind:=0,Part:=0,Above:=0,Most:=0,Times:=0,Price:=0,Of:=-1 }
def tyA(ts:List Ty)(v:Int):Ty:=(ts[v.toNat]?).getD tyD
theorem zBv{ts:List Ty}{v:Int}{t:Ty}(h:ts[v.toNat]? = some t):tyA ts v=t:=by unfold tyA; rw[h]; rfl
theorem zBw{ts:List Ty}{v:Int}(h0:0<=v)(h1:v<=(ts.length:Int) - 1):ts[v.toNat]? = some (tyA ts v):=by
 have hg:=yag (show v.toNat < ts.length by omega);rw[zBv hg,hg]
theorem zBx{ts:List Ty}{v:Int}(h0:0<=v)(h1:v<=(ts.length:Int) - 1):idx ts v=some (tyA ts v):=by
 have:=zrS (zBw h0 h1)
 rwa [show((v.toNat:Nat):Int)=v by omega] at this
def zBy(ts:List Ty):List Int->Int
 | []=>0
 | v::l=>(tyA ts v).Price+zBy ts l
theorem zBz{ts:List Ty}{v:Int}:∀l,zBy ts (l++[v])=zBy ts l+(tyA ts v).Price
 | []=>by show _+(0:Int)=0+_; omega
 | a::l=>by show _+zBy ts (l++[v])=_+zBy ts l+_; rw[zBz l]; omega
def InT(p:Pg)(l:List Int):Prop:=∀v∈l,0<=v/\v<=(p.Treaties.length:Int) - 1
theorem zBA{p:Pg}(h:VP p):∀{l:List Int},InT p l->0<=zBy p.Treaties l/\zBy p.Treaties l<=1000 * l.length
 | [],_=>⟨yam _,by show(0:Int)<=1000 * ((0:Nat):Int); omega⟩
 | v::l,hl=>by
  have ih:=zBA h (l:=l) fun v hv=>hl v (yah _ hv);have hv:=hl v (yad ..);have ht:=h.ts _ (yaI (zBw hv.1 hv.2));have h1:=ht.2
  show 0<=(tyA p.Treaties v).Price+zBy p.Treaties l/\(tyA p.Treaties v).Price+zBy p.Treaties l<=1000 * ((l.length+1:Nat):Int)
  omega
theorem zBB{α:Type}{l:List α}{k:Nat}{a:α}(h:l[k]? = some a):l.take (k+1)=l.take k++[a]:=by rw[ybf,h]; rfl
theorem zBC{p:Pg}(h:VP p){l:List Int}(hl:InT p l)(h9:l.length<=9):ztJ p l=some (zBy p.Treaties l):=by
 refine zyi (n:=l.length) (fun d (s:Int) y=>ztI p l d s y) (fun k=>zBy p.Treaties (l.take k)) (fun d k hk=>?_) (fun d=>?_) (l.length+1) 0 (by omega) (by omega)
 ·have hg:=yag hk;have hv:=hl _ (yat hk);have hb:=zBA h (l:=l.take (k+1)) fun v hv=>hl v (yb6 hv)
  have hlen:(l.take (k+1)).length<=9:=by rw[yau]; omega
  rw[zBB hg,zBz] at hb;rw[yan,yau] at hb
  simp only[List.length_singleton] at hb
  show ztI p l (d+1) _ _=_
  rw[ztI,yaa (by omega),zrS hg,obs,zBx hv.1 hv.2,obs,zqr (fI (by omega)),zqr (fI (by omega)),zBB hg,zBz]
 ·show ztI p l (d+1) _ _=_
  rw[ztI,yab (yaH _),yaZ]
def zBD(p:Pg)(l:List Int):Pg:={ Losses:=p.Losses,Reserve:=p.Reserve,Treaties:=l.map (tyA p.Treaties),Reports:=[] }
theorem zBE{p:Pg}{l:List Int}(hl:InT p l)(h9:l.length<=9):ztL p l=some (zBD p l):=by
 refine zyi (n:=l.length) (fun d (s:List Ty) y=>ztK p l d p.Reserve s y) (fun k=>(l.take k).map (tyA p.Treaties)) (fun d k hk=>?_) (fun d=>?_) (l.length+1) 0 (by omega) (by omega)
 ·have hg:=yag hk;have hv:=hl _ (yat hk)
  show ztK p l (d+1) _ _ _=_
  rw[ztK,yaa (by omega),zrS hg,obs,zBx hv.1 hv.2,obs,zqr (by rw[yay,yau]; omega),zqr (fI (by omega)),zBB hg,ya2]; rfl
 ·show ztK p l (d+1) _ _ _=_
  rw[ztK,yab (yaH _),yaZ]; rfl
theorem zke.inT{p:Pg}{l:List Int}(h:zke p l):InT p l:=fun v hv=>(h.2 v hv).1
theorem zke.ty{p:Pg}(h:VP p){l:List Int}(hs:zke p l){v:Int}(hv:v∈l):(tyA p.Treaties v).Of = -1:=by
 obtain⟨h1,h2⟩:=hs.2 v hv;have hg:=zBw h1.1 h1.2;rw[zAI hg,decide_eq_true_eq] at h2;have:=h.of' _ _ hg
 omega
theorem zBF{p:Pg}(h:VP p){l:List Int}(hs:zke p l):VP (zBD p l):=by
 have h5:=h.t5;have hl:=hs.len;refine { ls:=h.ls,res:=h.res,ts:=fun t ht=>?_,of':=fun i t ht=>?_,rs:=fun r hr=>(by cases hr),l4:=h.l4,t5:=?_,r5:=yaq _,many:=h.many }
 ·obtain⟨v,hv,rfl⟩:=yar.1 ht;have:=hs.inT v hv;exact h.ts _ (yaI (zBw this.1 this.2))
 ·obtain⟨v,hv,rfl⟩:=yar.1 (yaI ht);rw[hs.ty h hv]; omega
 ·show(l.map (tyA p.Treaties)).length<=5
  rw[yay]; omega
theorem zBG{b k:Nat}:∀e,∃T,zxW b (k+e)=zxW b k++T
 | 0=>⟨[],(yaO _).symm⟩
 | e+1=>by
  obtain⟨T,hT⟩:=zBG (b:=b) (k:=k) e;refine⟨T++(if b.testBit (k+e) then [((k+e:Nat):Int)] else []),?_⟩
  show zxW b (k+e)++_=_
  rw[hT,yaK]; rfl
theorem zBH{b n:Nat}(hn:n<=16)(hb:b < 2 ^ n):zxX b=zxW b n:=by
 unfold zxX;obtain⟨e,he⟩:∃e,16=n+e:=⟨16 - n,by omega⟩;rw[he];exact zx0 (fun q hq=>ybJ (yaf hb (ybw (by omega) hq))) e
theorem zBI{b k n j:Nat}(hk:k<=n)(hj:j < (zxW b k).length):(zxW b n)[j]? = (zxW b k)[j]?:=by
 obtain⟨T,hT⟩:=zBG (b:=b) (k:=k) (n - k);rw[show k+(n - k)=n by omega] at hT;rw[hT,ybk hj]
theorem zBJ{ts:List Ty}{b n:Nat}(hn:n=ts.length)(hof:∀k t,ts[k]? = some t->b.testBit k=true->t.Of = -1){P P':Nat->Int}(hP:∀(j:Nat) (v:Int),(zxW b n)[j]? = some v->P' j=P v.toNat){x:Int}:∀k,k<=n ->
  (dN ((zxW b n).map (tyA ts)) P' x (zxW b k).length).soc=(a1 ts (fun k=>b.testBit k) P x k).2/\∀(j:Nat) (v:Int),j < (zxW b k).length->(zxW b n)[j]? = some v->(dN ((zxW b n).map (tyA ts)) P' x (zxW b k).length).pays j=(a1 ts (fun k=>b.testBit k) P x k).1 v.toNat
 | 0,_=>⟨rfl,fun j v h=>by cases h⟩
 | k+1,hk=>by
  obtain⟨i1,i2⟩:=zBJ hn hof hP (x:=x) k (by omega);have hg:=yag (show k < ts.length by omega);rw[zAv hg];have ht:=hof k _ hg;generalize ts[k]'(by omega)=t at hg ht
  cases hb:b.testBit k with
  | true=>
   have ho:=ht hb
   have e:zxW b (k+1)=zxW b k++[(k:Int)]:=by show zxW b k++(if b.testBit k then _ else _)=_; rw[hb]; rfl
   have el:(zxW b (k+1)).length=(zxW b k).length+1:=by rw[e,yan]; rfl
   have hm:(zxW b n)[(zxW b k).length]? = some (k:Int):=by
    rw[zBI (k:=k+1) hk (by omega),e,ybt (yac _),ybx]; rfl
   have hmt:((zxW b n).map (tyA ts))[(zxW b k).length]? = some t:=by
    rw[ybB,hm];exact congrArg some (zBv (by rw[yaA]; exact hg))
   rw[el,zzc hmt,yaa ⟨by omega,rfl⟩];unfold zzb;rw[yaa ho,i1,hP _ _ hm,yaA];refine⟨rfl,fun j v hj hv=>?_⟩
   show upF _ (zxW b k).length _ j=upF (a1 ts (fun k=>b.testBit k) P x k).1 k _ v.toNat
   by_cases hjm:j=(zxW b k).length
   ·subst hjm;rw[hm] at hv
    cases hv
    rw[zyn,yaA,zyn]
   ·rw[zyo _ _ hjm,i2 j v (by omega) hv];have hv2:=hv;rw[zBI (k:=k) (by omega) (by omega)] at hv2;have:=zxY.1 (yaI hv2);rw[zyo _ _ (by omega)]
  | false=>
   have e:zxW b (k+1)=zxW b k:=by show zxW b k++(if b.testBit k then _ else _)=_; rw[hb]; exact yaO _
   rw[e,yab fun h=>by cases h.2];exact⟨i1,i2⟩
theorem zBK{ts:List Ty}{P now:Nat->Int}{j:Nat}(hj:ofB ts j=true):∀k,k<=ts.length->(a2 ts P now k).1 j=now j
 | 0,_=>rfl
 | k+1,hk=>by
  have hg:=yag (show k < ts.length by omega);have hfk:=zAI hg;have ih:=zBK (P:=P) (now:=now) hj k (by omega);rw[zAw hg];generalize ts[k]'(by omega)=t at hg hfk
  by_cases ho:0<=t.Of
  ·rw[yaa ho]
   show upF (a2 ts P now k).1 k _ j=_
   rw[zyo _ _ fun e=>by subst e; rw[hfk,decide_eq_true_eq] at hj; omega,ih]
  ·rw[yab ho,ih]
theorem zBL{ts:List Ty}{b:Nat}(hof:∀k t,ts[k]? = some t->b.testBit k=true->t.Of = -1):∀(L:List Int) (s:(Nat->Int) × Int) (o:DS),(∀(j:Nat) (v:Int),(zxW b ts.length)[j]? = some v->o.pays j=s.1 v.toNat)->o.soc=s.2 ->
  (L.foldl (zzj ((zxW b ts.length).map (tyA ts))) o).soc=(L.foldl (zAz ts fun k=>b.testBit k) s).2
 | [],_,_,_,h2=>h2
 | x::L,s,o,h1,h2=>by
  obtain⟨c1,c2⟩:=zBJ rfl hof h1 (x:=x) ts.length (yac _);refine zBL hof L (zAz ts (fun k=>b.testBit k) s x) (zzj ((zxW b ts.length).map (tyA ts)) o x) (fun j v hv=>?_) ?_
  ·show o.pays j+(dN ((zxW b ts.length).map (tyA ts)) o.pays x ((zxW b ts.length).map (tyA ts)).length).pays j=s.1 v.toNat+(a2 ts s.1 (a1 ts (fun k=>b.testBit k) s.1 x ts.length).1 ts.length).1 v.toNat
   have hjl:=(yai.1 hv).1;have hmem:=zxY.1 (yaI hv);have hg:=yag (show v.toNat < ts.length by omega);rw[yay,h1 j v hv,c2 j v hjl hv,zBK (by rw[zAI hg,hof _ _ hg hmem.2.2]; rfl) ts.length (yac _)]
  ·show o.soc+(dN ((zxW b ts.length).map (tyA ts)) o.pays x ((zxW b ts.length).map (tyA ts)).length).soc=s.2+(a1 ts (fun k=>b.testBit k) s.1 x ts.length).2
   rw[yay,c1,h2]
theorem zBM{ts:List Ty}{b:Nat}(hof:∀k t,ts[k]? = some t->b.testBit k=true->t.Of = -1)(L:List Int):(zzk ((zxW b ts.length).map (tyA ts)) L).soc=(zAA ts (fun k=>b.testBit k) L).2:=
 zBL hof L (fun _=>0,0) zzi (fun _ _ _=>rfl) rfl
theorem zBN{ts:List Ty}{th th':Nat->Bool}{P:Nat->Int}{x:Int}(h:∀j,j < ts.length->th j=th' j):∀k,k<=ts.length->a1 ts th P x k=a1 ts th' P x k
 | 0,_=>rfl
 | k+1,hk=>by
  have hg:=yag (show k < ts.length by omega);rw[zAv hg,zAv hg,zBN h k (by omega),h k (by omega)]
theorem zBO{ts:List Ty}{th th':Nat->Bool}(h:∀j,j < ts.length->th j=th' j)(L:List Int):zAA ts th L=zAA ts th' L:=by
 have e:zAz ts th=zAz ts th':=by
  funext s x
  unfold zAz;rw[zBN h ts.length (yac _)]
 unfold zAA;rw[e]
theorem RI.mono{ts:List Ty}{B B':Int}{s:(Nat->Int) × Int}(h:RI ts B s)(hB:B<=B'):RI ts B' s:=⟨by have:=h.net; omega,fun j=>by have:=h.pays j; omega,h.cap⟩
theorem zBP{ts:List Ty}{th:Nat->Bool}(hts:zze ts):∀(L:List Int) (s:(Nat->Int) × Int) (B:Int),(∀x∈L,0<=x/\x<=1000)->RI ts B s->RI ts (B+1000 * L.length) (L.foldl (zAz ts th) s)
 | [],s,B,_,h=>h.mono (by show B<=B+1000 * ((0:Nat):Int); omega)
 | x::L,s,B,hL,h=>by
  have hx:=hL x (yad ..);have h1:=(h.step (th:=th) hts (x:=x) (by omega)).mono (B':=B+1000) (by omega);refine(zBP hts L _ _ (fun x hx=>hL x (yah _ hx)) h1).mono ?_;rw[yaU]; omega
theorem zBQ{p:Pg}(h:VP p){th:Nat->Bool}{L:List Int}(hL:inL p.Losses L):0<=(zAA p.Treaties th L).2/\(zAA p.Treaties th L).2<=4000:=by
 have h4:=h.l4;have hl:=zzx hL;have:=(zBP (th:=th) h.tsOk L (fun _=>0,0) 0 (zzA hL h.ls) ⟨⟨yam _,yam _⟩,fun _=>⟨yam _,yam _⟩,zzl h.tsOk⟩).net;unfold zAA
 omega
def zBR(p:Pg):List (List Int):=(List.range (zyw p.Losses).toNat).map fun n:Nat=>zAT p.Losses (n:Int)
theorem zBS{p:Pg}(h:VP p){L:List Int}:L∈zBR p↔inL p.Losses L:=by
 unfold zBR;rw[yar]
 constructor
 ·rintro⟨n,_,rfl⟩; exact h.nthIn (by omega)
 ·intro hL;obtain⟨n,n0,n1,rfl⟩:=zAV hL;exact⟨n.toNat,ybP.2 (by omega),by rw[show((n.toNat:Nat):Int)=n by omega]⟩
def zBT(p:Pg)(th:Nat->Bool):Rg:=wdL (fun L=>(zAA p.Treaties th L).2) (zBR p)
theorem zBU{p:Pg}{th th':Nat->Bool}(h:∀j,j < p.Treaties.length->th j=th' j):zBT p th=zBT p th':=by
 unfold zBT
 have:(fun L=>(zAA p.Treaties th L).2)=fun L=>(zAA p.Treaties th' L).2:=funext fun L=>by rw[zBO h]
 rw[this]
theorem zBV{p:Pg}(h:VP p)(th:Nat->Bool):IsB (inL p.Losses) (fun L=>(zAA p.Treaties th L).2) (zBT p th):=by
 obtain⟨L,hL⟩:=zzI h;refine(zA9 (fun e=>?_) fun L hL=>?_).congr (fun L=>zBS h) fun _ _=>rfl
 ·have:=(zBS h).2 hL
  rw[e] at this; cases this
 ·have:=zBQ h (th:=th) ((zBS h).1 hL); omega
theorem zBW{p:Pg}(h:VP p){b:Nat}(hb:b < 1000000):zsR p (b:Int)=some (zBT p fun k=>b.testBit k):=by
 have hm:=h.many;have h1:=h.prodPos
 show(some emp).bind _=_
 rw[obs]
 have hlen:(zBR p).length=(zyw p.Losses).toNat:=by unfold zBR; rw[yay,List.length_range]
 refine zyi (n:=(zyw p.Losses).toNat) (fun d (s:Rg) y=>zsQ p (b:Int) d s.Lo s.Hi y) (fun k=>wdL (fun L=>(zAA p.Treaties (fun k=>b.testBit k) L).2) ((zBR p).take k)) (fun d k hk=>?_) (fun d=>?_) 1000000 0 (by omega) (by omega)
 ·have hin:=h.nthIn (n:=(k:Int)) (by omega)
  have hg:(zBR p)[k]? = some (zAT p.Losses (k:Int)):=by unfold zBR; rw[ybB,List.getElem?_range hk]; rfl
  show zsQ p (b:Int) (d+1) _ _ _=_
  rw[zsQ,zyZ h,obs,yaa (by omega),zAX h (by omega),obs,zAH h hb (zzA hin h.ls) (l9 h hin),obs,zA7 hg]
  show(some (wd _ _)).bind _=_
  rw[obs,zqr (fI (by omega))]
 ·show zsQ p (b:Int) (d+1) _ _ _=_
  rw[zsQ,zyZ h,obs,yab (by omega),yaw (by rw[hlen]; exact yac _)]; rfl
theorem zke.bits{p:Pg}(h:VP p){b:Nat}(_hb:b < 2 ^ p.Treaties.length)(hs:zke p (zxX b)):∀k t,p.Treaties[k]? = some t->b.testBit k=true->t.Of = -1:=fun k t hk hbk=>by
 have hkl:=(yai.1 hk).1;have h5:=h.t5
 have hm:((k:Nat):Int)∈zxX b:=by unfold zxX; exact zxY.2 ⟨by omega,by omega,hbk⟩
 have:=hs.ty h hm
 rwa [zBv (t:=t) (by rw[yaA]; exact hk)] at this
theorem zBX{p:Pg}(h:VP p){l:List Int}(hs:zke p l):zug p l=some (zBT p (inD l)):=by
 have h5:=h.t5;obtain⟨b,hb,hlb⟩:=zyh (n:=p.Treaties.length) (by omega) hs.inc;have hv:=zBF h hs;have hlen:=hs.len;have hof:=zke.bits h hb (by rw[hlb]; exact hs)
 have hth:∀j,j < p.Treaties.length->inD l j=b.testBit j:=fun j hj=>by
  rw[<- hlb]; exact zyg (n:=p.Treaties.length) (by omega) hj
 have hlF:l=zxW b p.Treaties.length:=by rw[<- hlb]; exact zBH (by omega) hb
 obtain⟨L0,hL0⟩:=zzI h;have hcan:zz2 (zBD p l) (zBD p l).Reports:=⟨L0,hL0,fun r hr=>by cases hr⟩;obtain⟨r,a1,a2⟩:=zAc hv (number:=fun a=>ztO a) (g:=fun o=>o.society) (fun L _=>rfl) hcan
 have hnet:∀L,(zzk (l.map (tyA p.Treaties)) L).soc=(zAA p.Treaties (fun k=>b.testBit k) L).2:=fun L=>by
  rw[hlF]; exact zBM hof L
 have e:r=zBT p (inD l):=by
  rw[zBU hth];have q:IsB (inL p.Losses) (fun L=>(zAA p.Treaties (fun k=>b.testBit k) L).2) r:=a2.congr (fun L=>⟨fun q=>q.1,fun q=>⟨q,fun r hr=>by cases hr⟩⟩) fun L _=>hnet L;exact q.uniq (zBV h fun k=>b.testBit k)
 unfold zug;rw[zBE hs.inT (by omega),obs,zzS hv,obs];have a1':zt9 ({ p:=(zzM (zBD p l) (zzE (zBD p l))).p,kinds:=(zzM (zBD p l) (zzE (zBD p l))).kinds,shared:=(),played:=(zzM (zBD p l) (zzE (zBD p l))).played }:Wk) (fun a=>ztO a)=some r:=a1;rw[a1',obs,e]
theorem zBY{p:Pg}(h:VP p){l:List Int}(hs:zke p l):zuh p l=some (decide ((zBT p (inD l)).Hi<=p.Reserve)):=by
 unfold zuh;rw[zBX h hs,obs]
theorem zBZ{p:Pg}(h:VP p){l:List Int}(hl:zr2 l)(hs:zke p l):zui p l=some (zBT p (inD l),0):=by
 unfold zui;rw[zAe h,obs,yaa rfl,(zBu h hl).some_of hs,obs,yaa rfl,zBX h hs,obs]
def zB0(p:Pg)(l:List Int)(m:Int):Prop:=zke p l/\zBy p.Treaties l<=m/\(zBT p (inD l)).Hi<=p.Reserve
theorem zB1{p:Pg}(h:VP p){l:List Int}(hl:zr2 l){m:Int}:Ev (zun p l m) (zB0 p l m):=by
 have h5:=h.t5;unfold zun;rw[zAe h,obs,yaa rfl];refine((zBu h hl).and fun hs=>(?_:Ev _ (zBy p.Treaties l<=m/\(zBT p (inD l)).Hi<=p.Reserve)));have:=hs.len;rw[zBC h hs.inT (by omega),obs];refine Ev.ite fun _=>?_;rw[zBY h hs,obs];exact Ev.dec Iff.rfl
theorem zB2{l:List Int}(h:l.length<=100000):zt1 l=some l:=by
 unfold zt1;rw[zqr (by simp only[List.length_nil]; omega)]; rfl
def zB3(p:Pg)(D:List Int):Prop:=zke p D/\(zBT p (inD D)).Hi<=p.Reserve
structure zB4 (p:Pg) (M:List Int):Prop where
 good:zB3 p M
 min:∀D,zB3 p D->zBy p.Treaties M < zBy p.Treaties D\/(zBy p.Treaties M=zBy p.Treaties D/\(D=M\/shB M D=true))
theorem zB4.uniq{p:Pg}{M M':List Int}(h:zB4 p M)(h':zB4 p M'):M=M':=by
 rcases h.min M' h'.good with h1 | ⟨h1,h1'⟩ <;> rcases h'.min M h.good with h2 | ⟨h2,h2'⟩
 ·omega
 ·omega
 ·omega
 ·rcases h1' with h3 | h3
  ·exact h3.symm
  ·rcases h2' with h4 | h4
   ·exact h4
   ·rw[zx6 h3] at h4; cases h4
open Classical in
def zB5(p:Pg)(s:List Int × Bool)(D:List Int):List Int × Bool:=if zB3 p D/\(s.2=true->zBy p.Treaties D < zBy p.Treaties s.1) then (D,true) else s
theorem zB6{p:Pg}{s:List Int × Bool}(h:s.2=true->zke p s.1)(D:List Int):(zB5 p s D).2=true->zke p (zB5 p s D).1:=by
 unfold zB5
 split
 ·rename_i hc; exact fun _=>hc.1.1
 ·exact h
theorem zB7{p:Pg}(h:VP p){x:Int}(hx:0<=x/\x<=1000){K:List Int->Bool->Int->Option (List Int × Bool)}:∀(q:List (List Int)) (s:List Int × Bool),(∀D∈q,Inc p.Treaties.length 0 D)->(s.2=true->zke p s.1) ->
  zuj p x K q s.1 s.2=K (q.foldl (zB5 p) s).1 (q.foldl (zB5 p) s).2 (x+1)/\((q.foldl (zB5 p) s).2=true->zke p (q.foldl (zB5 p) s).1)
 | [],s,_,hs=>⟨by rw[zuj,zqr (fI (by omega))]; rfl,hs⟩
 | D::q,s,hq,hs=>by
  have h5:=h.t5;have hD:=zxU (hq D (yad ..));have ih:=zB7 h hx (K:=K) q (zB5 p s D) (fun D hD=>hq D (yah _ hD)) (zB6 hs D);refine⟨?_,ih.2⟩;refine Eq.trans ?_ ih.1;rw[zuj]
  have hD5:D.length<=5:=by omega
  by_cases hset:zke p D
  ·rw[(zBu h (zr3 hD5 (by omega))).some_of hset,obs,yaa rfl];have hg:zB3 p D↔(zBT p (inD D)).Hi<=p.Reserve:=⟨fun q=>q.2,fun q=>⟨hset,q⟩⟩;obtain⟨M,b⟩:=s
   cases b with
   | true=>
    have hM:=hs rfl;have hMl:M.length<=p.Treaties.length:=hM.len
    show(if true=true then _ else _)=_
    rw[yaa rfl,zBC h hset.inT (by omega),obs]
    show(ztJ p M).bind _=_
    rw[zBC h hM.inT (by show M.length<=9; omega),obs]
    by_cases hp:zBy p.Treaties M<=zBy p.Treaties D
    ·rw[yaa hp]
     have e:zB5 p (M,true) D=(M,true):=yab fun q=>by have:zBy p.Treaties D < zBy p.Treaties M:=q.2 rfl; omega
     rw[e]
    ·rw[yab hp,zBY h hset,obs]
     by_cases hk:(zBT p (inD D)).Hi<=p.Reserve
     ·have e:zB5 p (M,true) D=(D,true):=yaa ⟨hg.2 hk,fun _=>by show zBy p.Treaties D < zBy p.Treaties M; omega⟩;rw[decide_eq_true hk,yaa rfl,zB2 (by omega),obs,e]
     ·have e:zB5 p (M,true) D=(M,true):=yab fun q=>hk (hg.1 q.1);rw[decide_eq_false hk,yab (by decide),e]
   | false=>
    show(if false=true then _ else _)=_
    rw[yab (by decide),zBY h hset,obs]
    by_cases hk:(zBT p (inD D)).Hi<=p.Reserve
    ·have e:zB5 p (M,false) D=(D,true):=yaa ⟨hg.2 hk,fun q=>(by cases q)⟩;rw[decide_eq_true hk,yaa rfl,zB2 (by omega),obs,e]
    ·have e:zB5 p (M,false) D=(M,false):=yab fun q=>hk (hg.1 q.1);rw[decide_eq_false hk,yab (by decide),e]
  ·rw[(zBu h (zr3 hD5 (by omega))).some_not hset,obs,yab (by decide)];have e:zB5 p s D=s:=yab fun q=>hset q.1.1;rw[e]
theorem zB8{p:Pg}(h:VP p):∀(d e k:Nat) (s:List Int × Bool),k+e=p.Treaties.length+1->e < d->(s.2=true->zke p s.1)->zuk p d s.1 s.2 (k:Int)=some ((zrx (fun s=>zry p.Treaties.length s [] 0) e k).foldl (zB5 p) s)
 | 0,_,_,_,_,hd,_=>by omega
 | d+1,0,k,s,hk,hd,hs=>by
  rw[zuk,yab (by omega)]; rfl
 | d+1,e+1,k,s,hk,hd,hs=>by
  have h5:=h.t5
  have hinc:∀D∈zry p.Treaties.length k [] 0,Inc p.Treaties.length 0 D:=fun D hD=>by
   obtain⟨T,h1,_,h3⟩:=zxT.1 hD;rw[ybh] at h1;rw[h1]; exact h3
  obtain⟨q1,q2⟩:=zB7 h (x:=(k:Int)) (by omega) (K:=zuk p d) (zry p.Treaties.length k [] 0) s hinc hs;rw[zuk,yaa (by omega)];unfold zrB;rw[zqr (by omega),obs,yaA,yaA,q1,show(k:Int)+1=((k+1:Nat):Int) by omega];refine(zB8 h d e (k+1) _ (by omega) (by omega) q2).trans ?_
  show _=some ((zry p.Treaties.length k [] 0++zrx (fun s=>zry p.Treaties.length s [] 0) e (k+1)).foldl (zB5 p) s)
  rw[List.foldl_append]
theorem zB9{p:Pg}(h:VP p):zul p=some ((zoi p.Treaties.length).foldl (zB5 p) ([],false)):=by
 have h5:=h.t5;unfold zul;rw[zqr (fI (by omega))]
 exact zB8 h _ (p.Treaties.length+1) 0 ([],false) (by omega) (by omega) fun q=>by cases q
structure zCa (p:Pg) (A:List (List Int)) (s:List Int × Bool):Prop where
 yes:s.2=true->s.1∈A/\zB3 p s.1/\∀D∈A,zB3 p D->zBy p.Treaties s.1 < zBy p.Treaties D\/(zBy p.Treaties s.1=zBy p.Treaties D/\(D=s.1\/shB s.1 D=true))
 no:s.2=false->s.1=[]/\∀D∈A,¬ zB3 p D
theorem zCb{p:Pg}:∀(q A:List (List Int)) (s:List Int × Bool),(A++q).Pairwise (fun a b=>shB a b=true)->zCa p A s->zCa p (A++q) (q.foldl (zB5 p) s)
 | [],A,s,_,h=>by rw[yaO]; exact h
 | D::q,A,s,hp,h=>by
  have e:A++D::q=(A++[D])++q:=by rw[yaK]; rfl
  rw[e] at hp ⊢;refine zCb q (A++[D]) (zB5 p s D) hp ?_;have hAD:∀a∈A,shB a D=true:=fun a ha=>(ybD.1 (ybD.1 hp).1).2.2 a ha D (yaC.2 rfl)
  have hmem:∀D',D'∈A++[D]->D'∈A\/D'=D:=fun D' hD'=>by
   rcases yaV.1 hD' with q | q
   ·exact .inl q
   ·exact .inr (yaC.1 q)
  obtain⟨M,b⟩:=s
  by_cases hc:zB3 p D/\(b=true->zBy p.Treaties D < zBy p.Treaties M)
  ·have e2:zB5 p (M,b) D=(D,true):=yaa hc;rw[e2];refine⟨fun _=>⟨ya6 _ (yaC.2 rfl),hc.1,fun D' hD' hg=>?_⟩,fun q=>(by cases q)⟩
   rcases hmem D' hD' with hq | rfl
   ·cases b with
    | true=>
     have h1:zBy p.Treaties D < zBy p.Treaties M:=hc.2 rfl
     rcases (h.yes rfl).2.2 D' hq hg with h2 | ⟨h2,_⟩
     ·have h2:zBy p.Treaties M < zBy p.Treaties D':=h2;exact .inl (by show zBy p.Treaties D < _; omega)
     ·have h2:zBy p.Treaties M=zBy p.Treaties D':=h2;exact .inl (by show zBy p.Treaties D < _; omega)
    | false=>exact absurd hg ((h.no rfl).2 D' hq)
   ·exact .inr ⟨rfl,.inl rfl⟩
  ·have e2:zB5 p (M,b) D=(M,b):=yab hc;rw[e2]
   cases b with
   | true=>
    refine⟨fun _=>?_,fun q=>(by cases q)⟩;obtain⟨y1,y2,y3⟩:=h.yes rfl;refine⟨ya5 _ y1,y2,fun D' hD' hg=>?_⟩
    rcases hmem D' hD' with hq | rfl
    ·exact y3 D' hq hg
    ·have h1:¬ zBy p.Treaties D' < zBy p.Treaties M:=fun q=>hc ⟨hg,fun _=>q⟩
     rcases Int.lt_or_eq_of_le (show zBy p.Treaties M<=zBy p.Treaties D' by omega) with h2 | h2
     ·exact .inl h2
     ·exact .inr ⟨h2,.inr (hAD M y1)⟩
   | false=>
    refine⟨fun q=>(by cases q),fun _=>⟨(h.no rfl).1,fun D' hD' hg=>?_⟩⟩
    rcases hmem D' hD' with hq | rfl
    ·exact(h.no rfl).2 D' hq hg
    ·exact hc ⟨hg,fun q=>(by cases q)⟩
theorem zCc{p:Pg}(h:VP p):(∃M,zul p=some (M,true)/\zB4 p M)\/(zul p=some ([],false)/\∀D,¬ zB3 p D):=by
 have hi:=zCb (p:=p) (zoi p.Treaties.length) [] ([],false) (zya _) ⟨fun q=>(by cases q),fun _=>⟨rfl,fun D hD=>by cases hD⟩⟩;rw[ybh] at hi;rw[zB9 h];generalize (zoi p.Treaties.length).foldl (zB5 p) ([],false)=s at hi;have hall:∀D,zB3 p D->D∈zoi p.Treaties.length:=fun D hD=>zxV.2 hD.1.inc;obtain⟨M,b⟩:=s
 cases b with
 | true=>
  obtain⟨_,y2,y3⟩:=hi.yes rfl;exact .inl ⟨M,rfl,y2,fun D hD=>y3 D (hall D hD) hD⟩
 | false=>
  obtain⟨n1,n2⟩:=hi.no rfl;have n1:M=[]:=n1;subst n1;exact .inr ⟨rfl,fun D hD=>n2 D (hall D hD) hD⟩
theorem zCd{p:Pg}(h:VP p):(∃M,zum p=some (M,zBy p.Treaties M,0)/\zB4 p M)\/(zum p=some ([],0,10)/\∀D,¬ zB3 p D):=by
 have h5:=h.t5;unfold zum;rw[zAe h,obs,yaa rfl]
 rcases zCc h with ⟨M,q1,q2⟩ | ⟨q1,q2⟩
 ·have hl:=q2.good.1.len;refine .inl ⟨M,?_,q2⟩;rw[q1,obs]
  show(ztJ p M).bind _=_
  rw[zBC h q2.good.1.inT (by omega),obs]
 ·refine .inr ⟨?_,q2⟩;rw[q1,obs]; rfl
end
end Go.Proofs.YtkcmdghjgoaggaaGreat

namespace Go.Proofs.YtkcmdghjgoaggaaGreat
open _root_.Go.Proofs.Tryz
open Go.Abs
set_option maxRecDepth 100000
noncomputable section
def zCe(p:Pg):Prop:=p.Losses.length<=7/\p.Treaties.length<=8/\p.Reports.length<=8
theorem VP.thin{p:Pg}(h:VP p):zCe p:=by
 have:=h.l4; have:=h.t5; have:=h.r5;exact⟨by omega,by omega,by omega⟩
def zCf(p:Pg):Prop:=zCe p/\(VP p->zyw p.Losses<=300)
theorem zCg{p:Pg}:Ev (zuC p) (zCf p):=by
 unfold zuC zCf zCe
 by_cases h1:p.Losses.length<=7
 ·rw[yaa (by omega)]
  by_cases h2:p.Treaties.length<=8
  ·rw[yaa (by omega)]
   by_cases h3:p.Reports.length<=8
   ·rw[yaa (by omega),zy0 (by omega) (by omega) (by omega),obs]
    by_cases hf:zyx p=0
    ·have hv:=zyy.1 hf;rw[yaa hf,zyZ hv,obs];exact Ev.dec ⟨fun q=>⟨⟨h1,h2,h3⟩,fun _=>q⟩,fun q=>q.2 hv⟩
    ·rw[yab hf];exact Ev.tt ⟨⟨h1,h2,h3⟩,fun q=>absurd (zyy.2 q) hf⟩
   ·rw[yab (by omega)]; exact Ev.ff fun q=>h3 q.1.2.2
  ·rw[yab (by omega)]; exact Ev.ff fun q=>h2 q.1.2.1
 ·rw[yab (by omega)]; exact Ev.ff fun q=>h1 q.1.1
theorem zCh{p:Pg}:Ev (zuI p) (VP p/\zyw p.Losses<=300):=by
 unfold zuI
 by_cases ht:zCf p
 ·obtain⟨⟨a,b,c⟩,ht2⟩:=ht;rw[zCg.some_of ⟨⟨a,b,c⟩,ht2⟩,obs,yaa rfl,zy0 (by omega) (by omega) (by omega),obs];exact Ev.dec (zyy.trans ⟨fun q=>⟨q,ht2 q⟩,fun q=>q.1⟩)
 ·rw[zCg.some_not ht,obs,yab (by decide)];exact Ev.ff fun q=>ht ⟨q.1.thin,fun _=>q.2⟩
theorem zCi{p:Pg}(h:zCe p):zuz p=some p:=by
 obtain⟨h1,h2,h3⟩:=h
 have k2:zuw p p.Losses p.Treaties 1000000 p.Reserve [] 0=some p:=by
  refine(zrY (l:=p.Reports) (fun r=>r) (F:=fun d acc x=>zuw p p.Losses p.Treaties d p.Reserve acc x) (fun acc=>some ({ Losses:=p.Losses,Reserve:=p.Reserve,Treaties:=p.Treaties,Reports:=acc }:Pg)) (fun d k acc a hk ha=>?_) (fun d acc=>?_) (d:=1000000) (by omega)).trans (by rw[List.map_id'])
  ·have hkl:=(yai.1 hk).1
   show zuw p p.Losses p.Treaties (d+1) _ _ _=_
   rw[zuw,yaa (by omega),zrS hk,obs,obs]
   show(some a.Paid).bind _=_
   rw[obs,zqr (by omega),zqr (fI (by omega))]
  ·show zuw p p.Losses p.Treaties (d+1) _ _ _=_
   rw[zuw,yab (yaH _)]
 have k1:zux p p.Losses 1000000 p.Reserve [] [] 0=some p:=by
  refine(zrY (l:=p.Treaties) (fun r=>r) (F:=fun d acc x=>zux p p.Losses d p.Reserve acc [] x) (fun acc=>zuw p p.Losses acc 1000000 p.Reserve [] 0) (fun d k acc a hk ha=>?_) (fun d acc=>?_) (d:=1000000) (by omega)).trans (by rw[List.map_id']; exact k2)
  ·have hkl:=(yai.1 hk).1
   show zux p p.Losses (d+1) _ _ _ _=_
   rw[zux,yaa (by omega),zrS hk,obs,zqr (by omega),zqr (fI (by omega))]
  ·show zux p p.Losses (d+1) _ _ _ _=_
   rw[zux,yab (yaH _)]
 refine(zrY (l:=p.Losses) (fun r=>r) (F:=fun d acc x=>zuy p d acc p.Reserve [] [] x) (fun acc=>zux p acc 1000000 p.Reserve [] [] 0) (fun d k acc a hk ha=>?_) (fun d acc=>?_) (d:=1000000) (by omega)).trans (by rw[List.map_id']; exact k1)
 ·have hkl:=(yai.1 hk).1
  show zuy p (d+1) _ _ _ _ _=_
  rw[zuy,yaa (by omega),zrS hk,obs]
  show(some a).bind _=_
  rw[obs,zqr (by omega),zqr (fI (by omega))]
 ·show zuy p (d+1) _ _ _ _ _=_
  rw[zuy,yab (yaH _)]
theorem zCj{l:List Int}(h:l.length<=1000):zuu l=some l:=by
 unfold zuu;rw[zqr (show([]:List Int).length+l.length<=1048576 by show 0+_<=_; omega)]; rfl
theorem zCk{l:List Int}(hl:l.length<=1000):zuB l l=some true:=by
 unfold zuB;rw[yaa rfl]
 have key:=zr1 (l:=l) (F:=zuA l l) (ok:=fun _=>True) (bad:=some false) (fin:=some true) (fun d k a ha=>by
  have hk:=(yai.1 ha).1;refine⟨fun _=>?_,fun h=>absurd trivial h⟩
  rw[zuA,yaa (by omega),zrS ha,obs,obs,yaa rfl,zqr (fI (by omega))]) (fun d=>by rw[zuA,yab (yaH _)]) (d:=l.length+1) (by omega)
 exact key.1 fun _ _=>trivial
def zCl(n:Int)(rs:List Rpt):Pg:={ Losses:=[{ Lo:=100,Hi:=120 },{ Lo:=300,Hi:=300 }],Reserve:=n,Treaties:=[{ Kind:=0,Part:=25,Above:=0,Most:=0,Times:=0,Price:=50,Of:=-1 },{ Kind:=1,Part:=0,Above:=50,Most:=100,Times:=0,Price:=30,Of:=-1 },{ Kind:=1,Part:=0,Above:=20,Most:=40,Times:=1,Price:=5,Of:=0 }],Reports:=rs }
def zCm:List Rpt:=[{ Treaty:=0,Paid:={ Lo:=103,Hi:=110 } },{ Treaty:=2,Paid:={ Lo:=45,Hi:=46 } }]
theorem zCn(rs:List Rpt):zuE rs=some (zCl 200 rs):=rfl
theorem zCo:zuF=some zCm:=rfl
theorem zCp(n:Int):zuG n=some (zCl n []):=rfl
theorem zCq{a b hi:Int}(h1:0<=a)(h2:a<=b)(h3:b<=hi):RgV { Lo:=a,Hi:=b } hi:=⟨h1,h2,h3⟩
theorem zCr{n:Int}{rs:List Rpt}(hn:0<=n/\n<=10000)(hr:rs.length<=5)(hrs:∀r∈rs,(0<=r.Treaty/\r.Treaty<=2)/\RgV r.Paid 10000):VP (zCl n rs):=by
 refine { ls:=fun r hr=>?_,res:=hn,ts:=fun t ht=>?_,of':=fun i t ht=>?_,rs:=fun r hr=>?_,l4:=by show 2<=4; omega,t5:=by show 3<=5; omega,r5:=hr,many:=by show zyw [{ Lo:=100,Hi:=120 },{ Lo:=300,Hi:=300 }]<=1500; decide }
 ·rcases yaj.1 hr with rfl | hr
  ·exact zCq (by omega) (by omega) (by omega)
  rcases yaj.1 hr with rfl | hr
  ·exact zCq (by omega) (by omega) (by omega)
  ·cases hr
 ·rcases yaj.1 ht with rfl | ht
  ·exact⟨by unfold zgo; decide,by decide,by decide⟩
  rcases yaj.1 ht with rfl | ht
  ·exact⟨by unfold zgo; decide,by decide,by decide⟩
  rcases yaj.1 ht with rfl | ht
  ·exact⟨by unfold zgo; decide,by decide,by decide⟩
  ·cases ht
 ·match i,ht with
  | 0,ht=>cases ht; exact⟨by decide,by decide⟩
  | 1,ht=>cases ht; exact⟨by decide,by decide⟩
  | 2,ht=>cases ht; exact⟨by decide,by decide⟩
  | k+3,ht=>cases ht
 ·exact⟨(hrs r hr).1,(hrs r hr).2⟩
theorem vp3(n:Int)(hn:0<=n/\n<=10000):VP (zCl n []):=zCr hn (by show 0<=5; omega) fun r hr=>by cases hr
theorem zCs:VP (zCl 200 zCm):=zCr (by omega) (by show 2<=5; omega) fun r hr=>by
 rcases yaj.1 hr with rfl | hr
 ·exact⟨⟨by decide,by decide⟩,zCq (by omega) (by omega) (by omega)⟩
 rcases yaj.1 hr with rfl | hr
 ·exact⟨⟨by decide,by decide⟩,zCq (by omega) (by omega) (by omega)⟩
 ·cases hr
theorem zCt{p:Pg}(h:VP p){D:List Int}(hD:Inc p.Treaties.length 0 D):∃b,b < 2 ^ p.Treaties.length/\zxX b=D:=zyh (by have:=h.t5; omega) hD
theorem zCu:zke (zCl 200 []) [1]:=⟨ybS _ _,fun v hv=>by
 have:=yaC.1 hv; subst this
 exact⟨⟨by decide,by decide⟩,by decide +kernel⟩⟩
theorem zCv:zB4 (zCl 300 []) [0,1]:=by
 have hs:zke (zCl 300 []) [0,1]:=⟨by simp,fun v hv=>by
  rcases yaj.1 hv with rfl | hv
  ·exact⟨⟨by decide,by decide⟩,by decide +kernel⟩
  ·have:=yaC.1 hv; subst this
   exact⟨⟨by decide,by decide⟩,by decide +kernel⟩⟩
 refine⟨⟨hs,by decide +kernel⟩,fun D hD=>?_⟩;obtain⟨b,hb,rfl⟩:=zCt (vp3 300 (by omega)) hD.1.inc;have hb:b < 8:=hb
 have:b=0\/b=1\/b=2\/b=3\/b=4\/b=5\/b=6\/b=7:=by omega
 rcases this with rfl | rfl | rfl | rfl | rfl | rfl | rfl | rfl
 ·exact absurd hD.2 (by decide +kernel)
 ·exact absurd hD.2 (by decide +kernel)
 ·exact absurd hD.2 (by decide +kernel)
 ·have e:zxX 3=[0,1]:=by decide +kernel
  rw[e]; exact .inr ⟨rfl,.inl rfl⟩
 ·exact absurd (hD.1.2 2 (by decide +kernel)).2 (by decide +kernel)
 ·exact absurd (hD.1.2 2 (by decide +kernel)).2 (by decide +kernel)
 ·exact absurd (hD.1.2 2 (by decide +kernel)).2 (by decide +kernel)
 ·exact absurd (hD.1.2 2 (by decide +kernel)).2 (by decide +kernel)
def okT(L:List Int):Bool:=decide (103<=(zzk (zCl 200 zCm).Treaties L).pays 0/\(zzk (zCl 200 zCm).Treaties L).pays 0<=110) && decide (45<=(zzk (zCl 200 zCm).Treaties L).pays 2/\(zzk (zCl 200 zCm).Treaties L).pays 2<=46)
theorem zCw:(zBR (zCl 200 zCm)).all (fun L=>!okT L)=true:=by decide +kernel
theorem zCx:¬ zz2 (zCl 200 zCm) zCm:=by
 rintro⟨L,hL,hA⟩
 have h1:=hA _ (yad ..);have h2:=hA _ (yah _ (yad ..));have h3:=ycq.1 zCw L ((zBS zCs).2 hL)
 have h4:okT L=true:=by
  unfold okT;rw[Bool.and_eq_true_iff];exact⟨decide_eq_true h1,decide_eq_true h2⟩
 rw[h4] at h3; cases h3
theorem fp0:FP (zCl 200 zCm) 0:=⟨[112,300],⟨⟨by decide,by decide⟩,⟨by decide,by decide⟩,trivial⟩,fun r hr=>by
 have hr:r∈[({ Treaty:=0,Paid:={ Lo:=103,Hi:=110 } }:Rpt)]:=hr;have:=yaC.1 hr; subst this
 exact(by decide +kernel:(103:Int)<=(zzk (zCl 200 zCm).Treaties [112,300]).pays 0/\(zzk (zCl 200 zCm).Treaties [112,300]).pays 0<=110)⟩
theorem zCy:zur (zCl 200 zCm)=some (1,0):=by
 rcases zBp zCs with ⟨j,a1,a2,a3,a4⟩ | ⟨a1,a2⟩
 ·have:j=1:=zBq (p:=zCl 200 zCm) a2 a3 (j':=1) zCx fun i hi=>by
   rw[show i=0 by omega]; exact fp0
  subst this; exact a4
 ·exact absurd (a1 1 (by show 1 < 2; omega)) zCx
theorem zCz:zut (zCl 200 zCm)=some ([0],0):=by
 obtain⟨M,q1,q2⟩:=zBn zCs
 have hm:zAP 2 (PL (zCl 200 zCm)) [0]:=by
  refine⟨⟨ybS _ _,fun v hv=>by have:=yaC.1 hv; subst this; exact⟨by decide,by decide⟩⟩,⟨[100,300],⟨⟨by decide,by decide⟩,⟨by decide,by decide⟩,trivial⟩,fun j hj hs=>?_⟩,fun D hD hP=>?_⟩
  ·have hj:j < 2:=hj
   have:j=0\/j=1:=by omega
   rcases this with rfl | rfl
   ·exact absurd hs (by decide +kernel)
   ·refine(zA1 (p:=zCl 200 zCm) (j:=1) rfl).2 ?_;exact(by decide +kernel:(45:Int)<=(zzk (zCl 200 zCm).Treaties [100,300]).pays 2/\(zzk (zCl 200 zCm).Treaties [100,300]).pays 2<=46)
  ·obtain⟨b,hb,rfl⟩:=zyh (n:=2) (by omega) hD;have hb:b < 4:=hb
   have:b=0\/b=1\/b=2\/b=3:=by omega
   rcases this with rfl | rfl | rfl | rfl
   ·refine absurd (zA6.2 ((PL.congr fun j hj=>?_).1 hP)) zCx;have hj:j < 2:=hj
    have:j=0\/j=1:=by omega
    rcases this with rfl | rfl <;> decide +kernel
   ·exact .inl (by decide +kernel)
   ·exact .inr (by decide +kernel)
   ·exact .inr (by decide +kernel)
 rw[q2.uniq hm] at q1;exact q1
theorem zCA:zz2 (zCl 200 []) (zCl 200 []).Reports:=⟨[100,300],⟨⟨by decide,by decide⟩,⟨by decide,by decide⟩,trivial⟩,fun r hr=>by cases hr⟩
theorem zCB:zt4 (zCl 200 []) [100,300]=some ([100,100,45],200,0):=by
 rw[zAi (vp3 200 (by omega)) (L:=[100,300]) ⟨⟨by decide,by decide⟩,⟨by decide,by decide⟩,trivial⟩]
 have e1:lN (zCl 200 []).Treaties.length (zzk (zCl 200 []).Treaties [100,300]).pays=[100,100,45]:=by decide +kernel
 have e2:(zzk (zCl 200 []).Treaties [100,300]).soc=200:=by decide +kernel
 rw[e1,e2]
theorem zCC{r:Rg}{a b:Int}(h1:r.Lo=a)(h2:r.Hi=b):r={ Lo:=a,Hi:=b }:=by cases r; subst h1; subst h2; rfl
theorem zCD:zue (zCl 200 [])=some (bsN 3 (bdF (zCl 200 []) (trL (zCl 200 []))),0):=by
 have h:=vp3 200 (by omega);obtain⟨bs,q1,q2⟩:=zAm h zCA;rw[q1,q2.uniq (zBc h zCA).1]; rfl
theorem bd0:bdF (zCl 200 []) (trL (zCl 200 [])) 0={ Pays:={ Lo:=100,Hi:=105 },Keeps:={ Lo:=55,Hi:=55 } }:=by
 have e1:=zCC (r:=(bdF (zCl 200 []) (trL (zCl 200 [])) 0).Pays) (a:=100) (b:=105) (by decide +kernel) (by decide +kernel);have e2:=zCC (r:=(bdF (zCl 200 []) (trL (zCl 200 [])) 0).Keeps) (a:=55) (b:=55) (by decide +kernel) (by decide +kernel);generalize bdF (zCl 200 []) (trL (zCl 200 [])) 0=b at e1 e2
 cases b; simp only at e1 e2; rw[e1,e2]
theorem bd2:bdF (zCl 200 []) (trL (zCl 200 [])) 2={ Pays:={ Lo:=45,Hi:=50 },Keeps:={ Lo:=45,Hi:=50 } }:=by
 have e1:=zCC (r:=(bdF (zCl 200 []) (trL (zCl 200 [])) 2).Pays) (a:=45) (b:=50) (by decide +kernel) (by decide +kernel);have e2:=zCC (r:=(bdF (zCl 200 []) (trL (zCl 200 [])) 2).Keeps) (a:=45) (b:=50) (by decide +kernel) (by decide +kernel);generalize bdF (zCl 200 []) (trL (zCl 200 [])) 2=b at e1 e2
 cases b; simp only at e1 e2; rw[e1,e2]
theorem zCE:zuf (zCl 200 [])=some ({ Lo:=200,Hi:=215 },0):=by
 have h:=vp3 200 (by omega);obtain⟨r,q1,q2⟩:=zAo h zCA;rw[q1,q2.uniq (zBc h zCA).2,zCC (r:=wdL (fun L=>(zzk (zCl 200 []).Treaties L).soc) (trL (zCl 200 []))) (a:=200) (b:=215) (by decide +kernel) (by decide +kernel)]
theorem zCF:zui (zCl 200 []) [1]=some ({ Lo:=300,Hi:=320 },0):=by
 rw[zBZ (vp3 200 (by omega)) (by unfold zr2; decide) zCu,zCC (r:=zBT (zCl 200 []) (inD [1])) (a:=300) (b:=320) (by decide +kernel) (by decide +kernel)]
theorem zCG:zum (zCl 300 [])=some ([0,1],80,0):=by
 rcases zCd (vp3 300 (by omega)) with ⟨M,q1,q2⟩ | ⟨_,q2⟩
 ·rw[q1,q2.uniq zCv]; rfl
 ·exact absurd zCv.good (q2 _)
theorem zCH:zun (zCl 300 []) [0,1] 80=some true:=
 (zB1 (vp3 300 (by omega)) (by unfold zr2; decide)).some_of ⟨zCv.good.1,by decide +kernel,zCv.good.2⟩
theorem f64{n:Int}(h:-1000000<=n/\n<=1000000):zl7 .i64 n:=fI (by omega)
theorem zCI:zuH=some true:=by
 have i0:idx (bsN 3 (bdF (zCl 200 []) (trL (zCl 200 [])))) 0=some { Pays:={ Lo:=100,Hi:=105 },Keeps:={ Lo:=55,Hi:=55 } }:=by
  have:=zrS (zBb (n:=3) (f:=bdF (zCl 200 []) (trL (zCl 200 []))) (k:=0) (by omega));rw[bd0] at this; exact this
 have i2:idx (bsN 3 (bdF (zCl 200 []) (trL (zCl 200 [])))) 2=some { Pays:={ Lo:=45,Hi:=50 },Keeps:={ Lo:=45,Hi:=50 } }:=by
  have:=zrS (zBb (n:=3) (f:=bdF (zCl 200 []) (trL (zCl 200 []))) (k:=2) (by omega));rw[bd2] at this; exact this
 have hl:((bsN 3 (bdF (zCl 200 []) (trL (zCl 200 [])))).length:Int)=3:=by rw[zBa]; rfl
 have s1:zuB [100,100,45] [100,100,45]=some true:=zCk (by decide);have s2:zuB [0,1] [0,1]=some true:=zCk (by decide);have s3:zuB [0] [0]=some true:=zCk (by decide);have f:∀n:Int,-1000000<=n/\n<=1000000->zl7 .i64 n:=fun n h=>f64 h;unfold zuH
 simp only[zCn,zCo,zCp,obs,zCB,zCD,zCE,zCF,zCG,zCy,zCz,s1,s2,s3,if_true,hl,i0,i2,zuD]
 rw[zqr (f 100 (by omega)),zqr (f 100 (by omega)),zqr (f 105 (by omega)),zqr (f 105 (by omega)),zqr (f 55 (by omega)),zqr (f 55 (by omega)),zqr (f 55 (by omega)),zqr (f 55 (by omega)),yaa (by decide),zqr (f 45 (by omega)),zqr (f 45 (by omega)),zqr (f 50 (by omega)),zqr (f 50 (by omega)),zqr (f 45 (by omega)),zqr (f 45 (by omega)),zqr (f 50 (by omega)),zqr (f 50 (by omega)),yaa (by decide),zqr (f 200 (by omega)),zqr (f 200 (by omega)),zqr (f 215 (by omega)),zqr (f 215 (by omega)),yaa (by decide),zqr (f 300 (by omega)),zqr (f 300 (by omega)),zqr (f 320 (by omega)),zqr (f 320 (by omega)),yaa (by decide)]
 simp only[zCH,obs,if_true]
theorem aw:((zuH).bind fun r=>some r)=some true:=by rw[zCI]; rfl
theorem zCJ{n a:Nat}:Nat.land a (2 ^ n - 1) < 2 ^ n:=by
 have h1:Nat.land a (2 ^ n - 1)<=2 ^ n - 1:=Nat.and_le_right;have h2:=zAR (n:=n)
 omega
theorem u8w{x:Int}(h:zl7 .u8 x):zmb .i64 x=x/\0<=x/\x < 256:=by
 have h':0<=x/\x < 256:=h;exact⟨wz (fI (by omega)),h'⟩
theorem zCK{a b:Rg}:Ev (zuJ a b) (b.Lo<=a.Lo/\a.Hi<=b.Hi):=Ev.ite fun _=>Ev.dec Iff.rfl
theorem zCL{bs bs':List Bd}(hl:bs'.length=bs.length)(h9:bs'.length<=1000)(h:∀(k:Nat) (a b:Bd),bs'[k]? = some a->bs[k]? = some b->(b.Pays.Lo<=a.Pays.Lo/\a.Pays.Hi<=b.Pays.Hi)/\b.Keeps.Lo<=a.Keeps.Lo/\a.Keeps.Hi<=b.Keeps.Hi):zuL bs' bs=some true:=by
 unfold zuL;rw[yaa (by omega)]
 have key:=zr1 (l:=bs') (F:=zuK bs' bs) (ok:=fun _=>True) (bad:=some false) (fin:=some true) (fun d k a ha=>by
  have hk:=(yai.1 ha).1;refine⟨fun _=>?_,fun h=>absurd trivial h⟩;have hb:=yag (show k < bs.length by omega);obtain⟨h1,h2⟩:=h k a _ ha hb;generalize bs[k]=b at hb h1 h2
  rw[zuK,yaa (by omega),zrS ha,obs,zrS hb,obs,zCK.some_of h1,obs,yaa rfl,obs,obs,zCK.some_of h2,obs,yaa rfl,zqr (fI (by omega))]) (fun d=>by rw[zuK,yab (yaH _)]) (d:=bs'.length+1) (by omega)
 exact key.1 fun _ _=>trivial
theorem IsB.sub{S S':List Int->Prop}{g:List Int->Int}{r r':Rg}(h:IsB S g r)(h':IsB S' g r')(hS:∀L,S' L->S L):r.Lo<=r'.Lo/\r'.Hi<=r.Hi:=by
 obtain⟨⟨a,a1,a2⟩,⟨b,b1,b2⟩,_⟩:=h';have q1:=h.2.2 a (hS a a1);have q2:=h.2.2 b (hS b b1)
 omega
theorem zCM{p x:Pg}(ht:x.Treaties=p.Treaties)(h5:p.Treaties.length<=5)(hS:∀L,TrS x x.Reports L->TrS p p.Reports L){bs bs':List Bd}(h:zAl p bs)(h':zAl x bs'):zuL bs' bs=some true:=by
 have l1:=h.len;have l2:=h'.len;rw[ht] at l2;refine zCL (by omega) (by omega) fun k a b ha hb=>?_;obtain⟨a1,a2⟩:=h'.at' k a ha;obtain⟨b1,b2⟩:=h.at' k b hb;rw[ht] at a1 a2;exact⟨b1.sub a1 hS,b2.sub a2 hS⟩
structure Wid (p x:Pg):Prop where
 tr:x.Treaties=p.Treaties
 res:x.Reserve=p.Reserve
 lo:∀L,inL p.Losses L->inL x.Losses L
 rl:x.Reports.length=p.Reports.length
 rp:∀(j:Nat) (r r':Rpt),p.Reports[j]? = some r->x.Reports[j]? = some r'->r'.Treaty=r.Treaty/\r'.Paid.Lo<=r.Paid.Lo/\r.Paid.Hi<=r'.Paid.Hi
theorem Wid.agw{p x:Pg}(hw:Wid p x){L:List Int}{j:Nat}(hj:j < p.Reports.length)(h:agf p L j=true):agf x L j=true:=by
 have hg:=yag hj;have hg':=yag (show j < x.Reports.length by rw[hw.rl]; exact hj);obtain⟨h1,h2,h3⟩:=hw.rp j _ _ hg hg';have h4:=(zA1 hg).1 h;refine(zA1 hg').2 ?_;unfold agR at h4 ⊢;rw[hw.tr,h1]
 omega
theorem Wid.pl{p x:Pg}(hw:Wid p x){S:Nat->Bool}(h:PL p S):PL x S:=by
 obtain⟨L,h1,h2⟩:=h;exact⟨L,hw.lo L h1,fun j hj hs=>by rw[hw.rl] at hj; exact hw.agw hj (h2 j hj hs)⟩
theorem zCN{p:Pg}{L:List Int}:TrS p p.Reports L↔inL p.Losses L/\∀j,j < p.Reports.length->agf p L j=true:=by
 refine and_congr_right fun _=>⟨fun h j hj=>(zA1 (yag hj)).2 (h _ (yat hj)),fun h r hr=>?_⟩;obtain⟨j,hj⟩:=ybr.1 hr;exact(zA1 hj).1 (h j (yai.1 hj).1)
theorem Wid.trs{p x:Pg}(hw:Wid p x){L:List Int}(h:TrS p p.Reports L):TrS x x.Reports L:=by
 obtain⟨h1,h2⟩:=zCN.1 h;exact zCN.2 ⟨hw.lo L h1,fun j hj=>by rw[hw.rl] at hj; exact hw.agw hj (h2 j hj)⟩
theorem Wid.kept{p x:Pg}(hw:Wid p x)(h:VP p)(hx:VP x)(th:Nat->Bool):(zBT p th).Hi<=(zBT x th).Hi:=by
 have h1:=zBV h th;have h2:=zBV hx th;rw[hw.tr] at h2;exact(h2.sub h1 fun L hL=>hw.lo L hL).2
theorem Wid.prv{p x:Pg}(hw:Wid p x)(h:VP p)(hx:VP x){l:List Int}{m:Int}(hp:zB0 x l m):zB0 p l m:=by
 obtain⟨a,b,c⟩:=hp;unfold zke at a;rw[hw.tr] at a b;rw[hw.res] at c;have:=hw.kept h hx (inD l);exact⟨a,b,by omega⟩
theorem zCO{p x:Pg}(h:VP p)(hx:VP x)(hw:Wid p x){bits:Int}(hb:zl7 .u8 bits):((zsG p).bind fun r10=>(gd ((0:Int)<=(zmb .i64 bits)) (gd ((0:Int)<=r10) (gd (zl7 .i64 (zmb .i64 bits)) (gd (zl7 .i64 r10) (gd (zl7 .i64 (((Nat.land (Int.toNat (zmb .i64 bits)) (Int.toNat r10)):Nat):Int)) ((zsT (((Nat.land (Int.toNat (zmb .i64 bits)) (Int.toNat r10)):Nat):Int)).bind fun r11=>((zuz x).bind fun r12=>((zuu r11).bind fun r13=>((zun r12 r13 (9999:Int)).bind fun r14=>(if r14=true then ((zuz p).bind fun r15=>((zuu r11).bind fun r16=>((zun r15 r16 (9999:Int)).bind fun r17=>(if r17=true then ((zuH).bind fun r18=>(some r18)) else (some false))))) else ((zuH).bind fun r19=>(some r19)))))))))))))=some true:=by
 have h5:=h.t5;have hp:=zAS (i:=p.Treaties.length) (by omega);obtain⟨w1,w2⟩:=u8w hb;obtain⟨t,ht1⟩:∃t:Nat,t=Nat.land bits.toNat (2 ^ p.Treaties.length - 1):=⟨_,rfl⟩
 have htl:t < 2 ^ p.Treaties.length:=by rw[ht1]; exact zCJ
 have hlb:=zAO (b:=t);have hs:zr2 (zxX t):=zr3 (n:=16) hlb (by omega);rw[zA0 h,obs,w1,zqr w2.1,zqr (by omega),zqr (fI (by omega)),zqr (fI (by omega)),yaA,<- ht1,zqr (fI (by omega)),zAK (by omega),obs,zCi hx.thin,obs,zCj (by omega),obs];obtain⟨b,e1,e2⟩:=zB1 hx hs (m:=9999);rw[e1,obs]
 cases b with
 | true=>rw[yaa rfl,zCi h.thin,obs,obs,(zB1 h hs (m:=9999)).some_of (hw.prv h hx (e2.1 rfl)),obs,yaa rfl,aw]
 | false=>rw[yab (by decide),aw]
theorem zCP{p x:Pg}(h:VP p)(hw:Wid p x){bits:Int}(hb:zl7 .u8 bits):((zuI x).bind fun r0=>(if r0=true then ((zuz p).bind fun r1=>((zut r1).bind fun r2=>((zuz x).bind fun r3=>((zut r3).bind fun r4=>((zuz p).bind fun r5=>((zue r5).bind fun r6=>((zuz x).bind fun r7=>((zue r7).bind fun r8=>(if r2.2=(0:Int) then (if r4.2=(0:Int) then (if (r2.1.length:Int) < (r4.1.length:Int) then (some false) else (if r6.2=(0:Int) then (if r8.2=(0:Int) then ((zuL r6.1 r8.1).bind fun r9=>(if r9=true then ((zsG p).bind fun r10=>(gd ((0:Int)<=(zmb .i64 bits)) (gd ((0:Int)<=r10) (gd (zl7 .i64 (zmb .i64 bits)) (gd (zl7 .i64 r10) (gd (zl7 .i64 (((Nat.land (Int.toNat (zmb .i64 bits)) (Int.toNat r10)):Nat):Int)) ((zsT (((Nat.land (Int.toNat (zmb .i64 bits)) (Int.toNat r10)):Nat):Int)).bind fun r11=>((zuz x).bind fun r12=>((zuu r11).bind fun r13=>((zun r12 r13 (9999:Int)).bind fun r14=>(if r14=true then ((zuz p).bind fun r15=>((zuu r11).bind fun r16=>((zun r15 r16 (9999:Int)).bind fun r17=>(if r17=true then ((zuH).bind fun r18=>(some r18)) else (some false))))) else ((zuH).bind fun r19=>(some r19))))))))))))) else (some false))) else (some false)) else (if r6.2=(11:Int) then ((zsG p).bind fun r20=>(gd ((0:Int)<=(zmb .i64 bits)) (gd ((0:Int)<=r20) (gd (zl7 .i64 (zmb .i64 bits)) (gd (zl7 .i64 r20) (gd (zl7 .i64 (((Nat.land (Int.toNat (zmb .i64 bits)) (Int.toNat r20)):Nat):Int)) ((zsT (((Nat.land (Int.toNat (zmb .i64 bits)) (Int.toNat r20)):Nat):Int)).bind fun r21=>((zuz x).bind fun r22=>((zuu r21).bind fun r23=>((zun r22 r23 (9999:Int)).bind fun r24=>(if r24=true then ((zuz p).bind fun r25=>((zuu r21).bind fun r26=>((zun r25 r26 (9999:Int)).bind fun r27=>(if r27=true then ((zuH).bind fun r28=>(some r28)) else (some false))))) else ((zuH).bind fun r29=>(some r29))))))))))))) else (some false)))) else (some false)) else (some false)))))))))) else ((zuH).bind fun r30=>(some r30))))=some true:=by
 refine zCh.pick (fun hv=>?_) fun _=>by rw[yab (by decide),aw]
 have hx:=hv.1;rw[yaa rfl];obtain⟨M,q1,q2⟩:=zBn h;obtain⟨M',q3,q4⟩:=zBn hx
 have hlen:¬ (M.length:Int) < (M'.length:Int):=by
  have hi:=q2.inc;rw[<- hw.rl] at hi
  rcases q4.min M hi (hw.pl q2.ok) with h1 | h1
  ·rw[h1]; omega
  ·rcases zx5.1 h1 with h2 | ⟨h2,_⟩ <;> omega
 rw[zCi h.thin,obs,q1,obs,zCi hx.thin,obs,q3,obs,obs]
 by_cases hc:zz2 p p.Reports
 ·obtain⟨bs,b1,b2⟩:=zAm h hc;obtain⟨L,hL⟩:=hc;obtain⟨bs',b3,b4⟩:=zAm hx ⟨L,hw.trs hL⟩;have hn:=zCM (p:=x) (x:=p) hw.tr.symm hx.t5 (fun L hL=>hw.trs hL) b4 b2;rw[b1,obs,obs,b3,obs]
  show(if (0:Int)=0 then (if (0:Int)=0 then (if (M.length:Int) < (M'.length:Int) then _ else (if (0:Int)=0 then (if (0:Int)=0 then ((zuL bs bs').bind fun r9=>_) else _) else _)) else _) else _)=_
  rw[yaa rfl,yaa rfl,yab hlen,yaa rfl,yaa rfl,hn,obs,yaa rfl];have e:=zCO h hx hw hb;rw[zCi h.thin,zCi hx.thin] at e;exact e
 ·rw[zAn h hc,obs,obs]
  have hx8:∃r,zue x=some r:=by
   by_cases hc2:zz2 x x.Reports
   ·obtain⟨bs',b3,_⟩:=zAm hx hc2;exact⟨_,b3⟩
   ·exact⟨_,zAn hx hc2⟩
  obtain⟨r,hr⟩:=hx8;rw[hr,obs]
  show(if (0:Int)=0 then (if (0:Int)=0 then (if (M.length:Int) < (M'.length:Int) then _ else (if (11:Int)=0 then _ else (if (11:Int)=11 then _ else _))) else _) else _)=_
  rw[yaa rfl,yaa rfl,yab hlen,yab (by decide),yaa rfl];have e:=zCO h hx hw hb;rw[zCi h.thin,zCi hx.thin] at e;exact e
theorem zCQ{p:Pg}(h:VP p){i:Nat}{r:Rg}(hr:p.Losses[i]? = some r){a b:Int}(ha:0<=a)(hb:0<=b):Wid p { Losses:=p.Losses.set i { Lo:=max 0 (r.Lo - a),Hi:=min 1000 (r.Hi+b) },Reserve:=p.Reserve,Treaties:=p.Treaties,Reports:=p.Reports }:=by
 refine⟨rfl,rfl,fun L hL=>?_,rfl,fun j q q' hq hq'=>?_⟩
 ·refine zzz (by rw[ybi]; exact zzx hL) fun j q x hq hx=>?_
  by_cases hj:j=i
  ·subst hj;have hv:=h.ls r (yaI hr);unfold RgV at hv;have:=zzy hL hr hx;have hil:=(yai.1 hr).1;have hq:(p.Losses.set j { Lo:=max 0 (r.Lo - a),Hi:=min 1000 (r.Hi+b) })[j]? = some q:=hq;rw[ya4 hil] at hq
   cases hq
   show max 0 (r.Lo - a)<=x/\x<=min 1000 (r.Hi+b)
   omega
  ·have hq:(p.Losses.set i { Lo:=max 0 (r.Lo - a),Hi:=min 1000 (r.Hi+b) })[j]? = some q:=hq;rw[ycy (Ne.symm hj)] at hq;exact zzy hL hq hx
 ·have hq':p.Reports[j]? = some q':=hq'
  rw[hq] at hq'; cases hq'
  exact⟨rfl,yam _,yam _⟩
theorem zCR{p:Pg}(h:VP p){i:Nat}{r:Rpt}(hr:p.Reports[i]? = some r){a b:Int}(ha:0<=a)(hb:0<=b):Wid p { Losses:=p.Losses,Reserve:=p.Reserve,Treaties:=p.Treaties,Reports:=p.Reports.set i { Treaty:=r.Treaty,Paid:={ Lo:=max 0 (r.Paid.Lo - a),Hi:=min 10000 (r.Paid.Hi+b) } } }:=by
 refine⟨rfl,rfl,fun L hL=>hL,ybi ..,fun j q q' hq hq'=>?_⟩;have hq':(p.Reports.set i { Treaty:=r.Treaty,Paid:={ Lo:=max 0 (r.Paid.Lo - a),Hi:=min 10000 (r.Paid.Hi+b) } })[j]? = some q':=hq'
 by_cases hj:j=i
 ·subst hj;have hv:=(h.rs r (yaI hr)).2;unfold RgV at hv;have hil:=(yai.1 hr).1;rw[ya4 hil] at hq';rw[hr] at hq
  cases hq; cases hq'
  refine⟨rfl,?_,?_⟩
  ·show max 0 (r.Paid.Lo - a)<=r.Paid.Lo; omega
  ·show r.Paid.Hi<=min 10000 (r.Paid.Hi+b); omega
 ·rw[ycy (Ne.symm hj),hq] at hq'
  cases hq'
  exact⟨rfl,yam _,yam _⟩
theorem zCS(p:Pg):Wid p { Losses:=p.Losses,Reserve:=p.Reserve,Treaties:=p.Treaties,Reports:=p.Reports }:=⟨rfl,rfl,fun _ h=>h,rfl,fun j r r' h h'=>by
 have h':p.Reports[j]? = some r':=h'
 rw[h] at h'; cases h'; exact⟨rfl,yam _,yam _⟩⟩
theorem zCT{p:Pg}{which by_ bits:Int}(_:zsr p)(hw:zl7 .u8 which)(hy:zl7 .u8 by_)(hb:zl7 .u8 bits):zuM p which by_ bits=some true:=by
 unfold zuM
 refine zCh.pick (fun hv=>?_) fun _=>by rw[yab (by decide),aw]
 have h:=hv.1;have h4:=h.l4;have h5:=h.r5;obtain⟨w1,w2⟩:=u8w hw;obtain⟨y1,y2⟩:=u8w hy
 have f8:zl7 .u8 (which % 2):=show 0<=which % 2/\which % 2 < 256 by omega
 simp only[List.nil_append,List.set_set,w1,y1,if_true]
 rw[zqr (by simp only[List.length_nil]; omega),zqr (by simp only[List.length_nil]; omega),zqr y2.1,zqr (by omega),zqr (fI (by omega)),zqr y2.1,zqr (by omega),zqr (fI (by omega)),zqr (by omega),zqr (by omega),zqr (fI (by omega)),zqr w2.1,zqr (by omega),zqr f8]
 by_cases c0:which % 2=0
 ·rw[yaa c0]
  by_cases c1:(0:Int) < p.Losses.length
  ·have m1:=yb9 (which / 2) (show(p.Losses.length:Int) ≠ 0 by omega);have m2:=yca (which / 2) c1;have hg:=yag (show(which / 2 % (p.Losses.length:Int)).toNat < p.Losses.length by omega);have hi:=zrS hg;rw[show(((which / 2 % (p.Losses.length:Int)).toNat:Nat):Int)=which / 2 % (p.Losses.length:Int) by omega] at hi;have hr:=h.ls _ (yat (show(which / 2 % (p.Losses.length:Int)).toNat < p.Losses.length by omega));generalize p.Losses[(which / 2 % (p.Losses.length:Int)).toNat]'(by omega)=r at hg hi hr;unfold RgV at hr;rw[yaa c1,zqr w2.1,zqr (by omega),zqr (fI (by omega)),zqr (by omega),zqr c1,zqr (fI (by omega)),hi,obs,zqr (fI (by omega)),zqr (fI (by omega)),zqr w2.1,zqr (by omega),zqr f8,yab (by omega)];exact zCP h (zCQ h hg (by omega) (by omega)) hb
  ·rw[yab c1,zqr w2.1,zqr (by omega),zqr f8,yab (by omega)];exact zCP h (zCS p) hb
 ·rw[yab c0,zqr w2.1,zqr (by omega),zqr f8,yaa (by omega)]
  by_cases c1:(0:Int) < p.Reports.length
  ·have m1:=yb9 (which / 2) (show(p.Reports.length:Int) ≠ 0 by omega);have m2:=yca (which / 2) c1;have hg:=yag (show(which / 2 % (p.Reports.length:Int)).toNat < p.Reports.length by omega);have hi:=zrS hg;rw[show(((which / 2 % (p.Reports.length:Int)).toNat:Nat):Int)=which / 2 % (p.Reports.length:Int) by omega] at hi;have hr:=(h.rs _ (yat (show(which / 2 % (p.Reports.length:Int)).toNat < p.Reports.length by omega))).2;generalize p.Reports[(which / 2 % (p.Reports.length:Int)).toNat]'(by omega)=r at hg hi hr;unfold RgV at hr;rw[yaa c1,zqr w2.1,zqr (by omega),zqr (fI (by omega)),zqr (by omega),zqr c1,zqr (fI (by omega)),hi,obs,zqr (fI (by omega)),zqr (fI (by omega))];exact zCP h (zCR h hg (by omega) (by omega)) hb
  ·rw[yab c1];exact zCP h (zCS p) hb
end
end Go.Proofs.YtkcmdghjgoaggaaGreat

namespace Go.Proofs.YtkcmdghjgoaggaaGreat
open _root_.Go.Proofs.Tryz
open Go.ChangeShapes Go.WideShapes Go.ChangeAt Go.RowKit Go.Abs
set_option maxRecDepth 100000
theorem op3:zsb prog 3 Int (zl7 .i64):=zsc (by kernel_rfl)
theorem zCU:zsb prog 55 Rg zsl:=zsj (fs:=[(3,0),(3,1)]) (by kernel_rfl) (by kernel_rfl) (zsi (α:=Int) (ok:=zl7 .i64) (k:=1) op3 (by kernel_rfl) rfl (zsi (α:=Int) (ok:=zl7 .i64) (k:=1) op3 (by kernel_rfl) rfl zsh)) (by kernel_rfl) fun m vs h=>by
 obtain⟨a0,c0,r0,m0,h0,p0,k0,s0,⟨a1,c1,r1,m1,h1,p1,k1,s1,rfl⟩⟩:=h;have p0:c0=[.int .i64 a0]:=p0; subst p0;have p1:c1=[.int .i64 a1]:=p1; subst p1;subst h1 h0;exact⟨⟨a0,a1⟩,rfl,⟨k0,k1⟩⟩
theorem zCV:zsb prog 22 (List Rg) (fun l=>l.length<=maxLen/\∀a0∈l,zsl a0):=zse (by kernel_rfl) (by kernel_rfl) zCU
theorem zCW:zsb prog 87 Ty zsn:=zsj (fs:=[(3,0),(3,1),(3,2),(3,3),(3,4),(3,5),(3,6)]) (by kernel_rfl) (by kernel_rfl) (zsi (α:=Int) (ok:=zl7 .i64) (k:=1) op3 (by kernel_rfl) rfl (zsi (α:=Int) (ok:=zl7 .i64) (k:=1) op3 (by kernel_rfl) rfl (zsi (α:=Int) (ok:=zl7 .i64) (k:=1) op3 (by kernel_rfl) rfl (zsi (α:=Int) (ok:=zl7 .i64) (k:=1) op3 (by kernel_rfl) rfl (zsi (α:=Int) (ok:=zl7 .i64) (k:=1) op3 (by kernel_rfl) rfl (zsi (α:=Int) (ok:=zl7 .i64) (k:=1) op3 (by kernel_rfl) rfl (zsi (α:=Int) (ok:=zl7 .i64) (k:=1) op3 (by kernel_rfl) rfl zsh))))))) (by kernel_rfl) fun m vs h=>by
 obtain⟨a0,c0,r0,m0,h0,p0,k0,s0,⟨a1,c1,r1,m1,h1,p1,k1,s1,⟨a2,c2,r2,m2,h2,p2,k2,s2,⟨a3,c3,r3,m3,h3,p3,k3,s3,⟨a4,c4,r4,m4,h4,p4,k4,s4,⟨a5,c5,r5,m5,h5,p5,k5,s5,⟨a6,c6,r6,m6,h6,p6,k6,s6,rfl⟩⟩⟩⟩⟩⟩⟩:=h;have p0:c0=[.int .i64 a0]:=p0; subst p0;have p1:c1=[.int .i64 a1]:=p1; subst p1;have p2:c2=[.int .i64 a2]:=p2; subst p2;have p3:c3=[.int .i64 a3]:=p3; subst p3;have p4:c4=[.int .i64 a4]:=p4; subst p4;have p5:c5=[.int .i64 a5]:=p5; subst p5;have p6:c6=[.int .i64 a6]:=p6; subst p6;subst h6 h5 h4 h3 h2 h1 h0;exact⟨⟨a0,a1,a2,a3,a4,a5,a6⟩,rfl,⟨k0,k1,k2,k3,k4,k5,k6⟩⟩
theorem zCX:zsb prog 23 (List Ty) (fun l=>l.length<=maxLen/\∀a0∈l,zsn a0):=zse (by kernel_rfl) (by kernel_rfl) zCW
theorem zCY:zsb prog 96 Rpt zsp:=zsj (fs:=[(3,0),(55,1)]) (by kernel_rfl) (by kernel_rfl) (zsi (α:=Int) (ok:=zl7 .i64) (k:=1) op3 (by kernel_rfl) rfl (zsi (α:=Rg) (ok:=zsl) (k:=2) zCU (by kernel_rfl) rfl zsh)) (by kernel_rfl) fun m vs h=>by
 obtain⟨a0,c0,r0,m0,h0,p0,k0,s0,⟨a1,c1,r1,m1,h1,p1,k1,s1,rfl⟩⟩:=h;have p0:c0=[.int .i64 a0]:=p0; subst p0;have p1:c1=[.int .i64 a1.Lo,.int .i64 a1.Hi]:=p1; subst p1;subst h1 h0;exact⟨⟨a0,a1⟩,rfl,⟨k0,k1⟩⟩
theorem zCZ:zsb prog 24 (List Rpt) (fun l=>l.length<=maxLen/\∀a0∈l,zsp a0):=zse (by kernel_rfl) (by kernel_rfl) zCY
theorem zC0:zsb prog 26 Pg zsr:=zsj (fs:=[(22,0),(3,1),(23,2),(24,3)]) (by kernel_rfl) (by kernel_rfl) (zsi (α:=List Rg) (ok:=(fun l=>l.length<=maxLen/\∀a0∈l,zsl a0)) (k:=1) zCV (by kernel_rfl) rfl (zsi (α:=Int) (ok:=zl7 .i64) (k:=1) op3 (by kernel_rfl) rfl (zsi (α:=List Ty) (ok:=(fun l=>l.length<=maxLen/\∀a0∈l,zsn a0)) (k:=1) zCX (by kernel_rfl) rfl (zsi (α:=List Rpt) (ok:=(fun l=>l.length<=maxLen/\∀a0∈l,zsp a0)) (k:=1) zCZ (by kernel_rfl) rfl zsh)))) (by kernel_rfl) fun m vs h=>by
 obtain⟨a0,c0,r0,m0,h0,p0,k0,s0,⟨a1,c1,r1,m1,h1,p1,k1,s1,⟨a2,c2,r2,m2,h2,p2,k2,s2,⟨a3,c3,r3,m3,h3,p3,k3,s3,rfl⟩⟩⟩⟩:=h;obtain⟨d0,rfl,p0⟩:=p0;have p1:c1=[.int .i64 a1]:=p1; subst p1;obtain⟨d2,rfl,p2⟩:=p2;obtain⟨d3,rfl,p3⟩:=p3;subst h3 h2 h1 h0;exact⟨⟨a0,a1,a2,a3⟩,⟨_,_,_,rfl,p0,p2,p3⟩,⟨k0,k1,k2,k3⟩⟩
theorem zC1:laidOutB prog=true:=by kernel_rfl
theorem zC2:ownKnob prog.godebug=none:=by kernel_rfl
theorem zC3(os:Os)(started:os.Started)(H:Type)(enc:TypeId × Value->H) :
    ReturnsInHanded {} Tryz.checked os 10 .any (Rows.treatyWiderSpec.pre6 enc Tryz.prog Tryz.f10 Rows.treatyWiderRow.domain false) (Rows.treatyWiderSpec.post enc Tryz.prog Tryz.f10 false true false false):=by
  refine returnsInHanded_of_change (C:=Tryz.checked) zC2 started (by kernel_rfl) Tryz.func10
    (ChangeSpec.witness6 (enc:=enc) (C:=Tryz.checked) false ⟨#[],#[.agg #[.slice none 0 0,.int .i64 0,.slice none 0 0,.slice none 0 0],.int .u8 0,.int .u8 0,.int .u8 0],[]⟩ 8 (by kernel_rfl) (by kernel_rfl) (by kernel_rfl) (by kernel_rfl)) ?_
  intro W base args ds gs before hval0 hW hcnd _;have hval:∀(j:Nat) t v,Tryz.f10.params[j]? = some t->args[j]? = some v->Value.okWide Tryz.prog W .any base t v:=hval0;have hW':=hW;obtain⟨p,q,hA0,hV,rfl,hfz,hnd⟩:=hW;have hA:DataW.TrodAll enc Tryz.prog W 0 (fun _=>true) true Tryz.f10.params.toList args.toList ds p:=hA0;rw[Tryz.params10] at hA hval;obtain⟨v0,v1,v2,v3,d0,d1,d2,d3,p0,p1,p2,p3,rfl,rfl,rfl,h0,h1,h2,h3⟩:=trodAll_four hA;obtain⟨rfl,rfl⟩:=trodVars_none hV;obtain⟨n1,hv1⟩:=okWide_int Tryz.underlying5 (hval 1 5 v1 rfl rfl);obtain⟨n2,hv2⟩:=okWide_int Tryz.underlying5 (hval 2 5 v2 rfl rfl);obtain⟨n3,hv3⟩:=okWide_int Tryz.underlying5 (hval 3 5 v3 rfl rfl)
  have hlt:∀x∈p0++p1++p2++p3,x.block < W.heap.size:=fun x hx=>by simpa using hW'.lt x (by simpa using hx)
  obtain⟨fu0,hf0⟩:=id h0;obtain⟨fu1,hf1⟩:=id h1;obtain⟨fu2,hf2⟩:=id h2;obtain⟨fu3,hf3⟩:=id h3
  clear hA0 hval0
  obtain⟨e0,m0,w0,a_0,le0,sv0,lay0,cr0,zwD,ok0⟩:=zC0 H enc W true _ _ _ hf0 _ _ (Lay.nil W);obtain⟨i1,hc1,_,hw1⟩:=yb4 Tryz.underlying5 hf1;obtain⟨i2,hc2,_,hw2⟩:=yb4 Tryz.underlying5 hf2;obtain⟨i3,hc3,_,hw3⟩:=yb4 Tryz.underlying5 hf3;obtain⟨c0_0,c0_2,c0_3,rfl,g0_0,g0_2,g0_3⟩:=zwD
  obtain⟨cs0,hv0,cl0⟩:∃cs,v0=.agg cs/\v0.cells.toList=cs.toList:=by
    have hl:=cr0.length
    cases v0 with
    | agg cs=>exact⟨cs,rfl,rfl⟩
    | _=>exact absurd hl (by simp[Value.cells])
  subst hv0;subst hv1
  have hi1:i1=n1:=by
    have h:[Value.int .u8 n1]=[.int .u8 i1]:=hc1
    cases h; rfl
  subst hi1;subst hv2
  have hi2:i2=n2:=by
    have h:[Value.int .u8 n2]=[.int .u8 i2]:=hc2
    cases h; rfl
  subst hi2;subst hv3
  have hi3:i3=n3:=by
    have h:[Value.int .u8 n3]=[.int .u8 i3]:=hc3
    cases h; rfl
  subst hi3;have hargs:zeq (VR e0) [.agg 4 [c0_0,.int .i64 a_0.Reserve,c0_2,c0_3],.c (.int .u8 i1),.c (.int .u8 i2),.c (.int .u8 i3)] [.agg cs0,.int .u8 i1,.int .u8 i2,.int .u8 i3]:=.cons ⟨cs0,rfl,cr0,rfl⟩ (.cons rfl (.cons rfl (.cons rfl .nil)));refine(callsIn_wide.1 (zqC fits htab (zxS (p:=a_0) (which:=i1) (by_:=i2) (bits:=i3) lay0.pre g0_0 g0_2 g0_3 (zCT ok0 (zqA hw1) (zqA hw2) (zqA hw3)) (Q:=fun v _=>v=.c (.bool true)) fun _ _=>rfl) lay0.hr (args':=#[.agg cs0,.int .u8 i1,.int .u8 i2,.int .u8 i3]) hargs 0)).mono fun en W' hp=>?_;obtain⟨v,v',e',m',rfl,hst,hvr,rfl⟩:=hp;have hv':v'=.bool true:=hvr;subst hv';have hbelow:=lay0.below hst
  refine⟨_,rfl,[d0,d1,d2,d3],[],p0++p1++p2++p3,[],p0++(p1++(p2++p3)),[],by simpa using hW',trodAll_mk1 (shut_bool Tryz.underlying4 _),
    trodAll_mk4 (Below.trod zC1 (by kernel_rfl) (of_decide_eq_true (by kernel_rfl)) h0 hbelow fun x hx=>hlt x (by simp[hx])) (Below.trod zC1 (by kernel_rfl) (of_decide_eq_true (by kernel_rfl)) h1 hbelow fun x hx=>hlt x (by simp[hx])) (Below.trod zC1 (by kernel_rfl) (of_decide_eq_true (by kernel_rfl)) h2 hbelow fun x hx=>hlt x (by simp[hx])) (Below.trod zC1 (by kernel_rfl) (of_decide_eq_true (by kernel_rfl)) h3 hbelow fun x hx=>hlt x (by simp[hx])),rfl,lay0.kept hst _,fun hc=>by cases hc⟩
theorem TreatyWider_holds:Rows.TreatyWiderSaid:=
 OpenClaim.holds_of_wide 10 Tryz.f10 rfl rfl rfl rfl rfl rfl rfl ⟨rfl,rfl,rfl,rfl,rfl⟩ rfl rfl rfl rfl rfl (by kernel_rfl) Tryz.func10 (by kernel_rfl)
  (of_decide_eq_true (by kernel_rfl)) (by unfold Func.isWrapper; first | (rw[yaa (by decide +kernel)]; kernel_rfl) | (rw[yab (by decide +kernel)]; exact⟨rfl,rfl⟩))
  (fun os started H enc _=>zC3 os started H enc)
end Go.Proofs.YtkcmdghjgoaggaaGreat

