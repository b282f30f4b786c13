/- DoubleFirst, for all that it can be called with, returns true. Condition: none. -/
import Derived.Test.YtpjnfiegpjlfgaaGreatVfJ
import GoSem.Step
import GoSem.ClaimKeys
import Derived.DeepKeys2
import Derived.RangeFuncLeaves
import Derived.OrdersIn
import Derived.Laws.World
import Derived.Laws.Sem
import Derived.RangeFuncRecord
import Derived.Laws.CopyRow
import Derived.Laws.Append
import Derived.Laws.Rows
import Derived.Laws.Slices
import Derived.Laws.Entries
import Derived.ChangeKeysEq
import Derived.IntWalk
import Derived.DeepKeys
import Derived.DeepKeys3
import Derived.Laws.StructEq
import Derived.MapKept
import Derived.Laws.AppendOwn
import Derived.ChangeArms
import Derived.ChangeOld
import Derived.Carry
import Derived.ChangeShapes
import Derived.KernelRfl
import Derived.ProofKit
import Derived.Test.YtpjnfiegpjlfgaaGreatRows

namespace Go.Proofs.YtpjnfiegpjlfgaaGreat
open _root_.Go.Proofs.Tryz
open Go.Abs
set_option maxRecDepth 100000
noncomputable section
def zzL(p:P3):Prop:=(0<=p.p0/\p.p0<=1000000)/\(0<=p.p1/\p.p1<=1000000)/\0<=p.p2/\p.p2<=1000000
def zzM(d:Dm):Prop:=(0<=d.amount/\d.amount<=1000000)/\zzL d.sums
def up3(p:P3)(k:Nat):Int:=([p.p0,p.p1,p.p2].take k).foldl (· + ·) 0
def zzN(p:P3):Int:=p.p0+p.p1+p.p2
theorem zzO{p:P3}(hp:zzL p){s:Int}{n:Nat}(hs:s+1=(n:Int))(hn:n<=3):∀d k,k<=n->n - k < d->zuc p s d (up3 p k) (k:Int)=some (up3 p n)
 | 0,k,_,h=>by omega
 | d+1,k,hk,h=>by
  unfold zzL at hp;rw[zuc]
  have hl:((([p.p0,p.p1,p.p2]:List Int).take (Int.toNat (s+(1:Int)))).drop (Int.toNat (0:Int)))=([p.p0,p.p1,p.p2]:List Int).take n:=by
   rw[hs]; rfl
  rw[hl]
  have a:(([p.p0,p.p1,p.p2]:List Int).take n).length=n:=by rw[yap]; show min n 3=n; omega
  rw[a]
  by_cases i:k < n
  ·rw[yab (by omega)]
   have key:∃x,(([p.p0,p.p1,p.p2]:List Int).take n)[k]? = some x/\up3 p (k+1)=up3 p k+x/\(0<=x/\x<=1000000)/\0<=up3 p k/\up3 p k<=3000000:=by
    rw[ya0,yab i]
    match k,(show k < 3 by omega) with
    | 0,_=>exact⟨p.p0,rfl,rfl,by omega,by show(0:Int)<=0; omega,by show(0:Int)<=_; omega⟩
    | 1,_=>exact⟨p.p1,rfl,rfl,by omega,by show(0:Int)<=0+p.p0; omega,by show 0+p.p0<=3000000; omega⟩
    | 2,_=>exact⟨p.p2,rfl,rfl,by omega,by show(0:Int)<=0+p.p0+p.p1; omega,by show 0+p.p0+p.p1<=3000000; omega⟩
   obtain⟨x,h1,h2,h3,h4⟩:=key;rw[zrB h1,obs,zqj (fI (by omega)),zqj (fI (by omega)),<- h2,show(k:Int)+1=((k+1:Nat):Int) by omega];exact zzO hp hs hn d (k+1) (by omega) (by omega)
  ·rw[yaa (by omega),show k=n by omega]
theorem zzP{p:P3}(hp:zzL p){s:Int}{n:Nat}(hs:s+1=(n:Int))(hn:n<=3):zud p s=some (up3 p n):=by
 unfold zud;rw[zqj (fI (by omega)),zqj (by omega)]
 have a:Int.toNat (((([p.p0,p.p1,p.p2]:List Int).take (Int.toNat (s+(1:Int)))).drop (Int.toNat (0:Int))).length:Int)+1=n+1:=by
  rw[hs]
  show Int.toNat ((([p.p0,p.p1,p.p2]:List Int).take n).length:Int)+1=n+1
  rw[yap]
  have:min n ([p.p0,p.p1,p.p2]:List Int).length=n:=by show min n 3=n; omega
  rw[this]; omega
 rw[a];exact zzO hp hs hn (n+1) 0 (yam _) (by omega)
def zzQ(d:Dm):P3:=if zzN d.sums<=d.amount then d.sums else
 { p0:=d.amount * d.sums.p0 / zzN d.sums,p1:=d.amount * (d.sums.p0+d.sums.p1) / zzN d.sums - d.amount * d.sums.p0 / zzN d.sums,p2:=d.amount - d.amount * (d.sums.p0+d.sums.p1) / zzN d.sums }
theorem zzR{a x s:Int}(hx:0<=x)(h:x<=s)(hs:0 < s)(ha:0<=a):0<=a * x / s/\a * x / s<=a:=by
 constructor
 ·exact Int.ediv_nonneg (ybu ha hx) (Int.le_of_lt hs)
 ·have h1:a * x<=a * s:=ybg h ha;have h2:=ybU hs h1
  rwa [ycu _ (by omega)] at h2
theorem zzS{a x y s:Int}(h:x<=y)(hs:0 < s)(ha:0<=a):a * x / s<=a * y / s:=ybU hs (ybg h ha)
theorem zzT{a x:Int}(ha:0<=a/\a<=1000000)(hx:0<=x/\x<=3000000):0<=a * x/\a * x<=3000000000000:=by
 refine⟨ybu ha.1 hx.1,?_⟩;have h1:a * x<=1000000 * x:=ybV ha.2 hx.1
 omega
theorem zzU{d:Dm}(hd:zzM d):zuh d=some (zzQ d):=by
 obtain⟨ha,hp⟩:=hd;have q:=hp;unfold zzL at hp
 have i:up3 d.sums 3=zzN d.sums:=by show 0+d.sums.p0+d.sums.p1+d.sums.p2=_; unfold zzN; omega
 unfold zuh zzQ;rw[zzP q (n:=3) (by omega) (by omega),obs,i]
 by_cases h:zzN d.sums<=d.amount
 ·rw[yab h,yab h]
 ·rw[yaa h,yaa h]
  have hs:0 < zzN d.sums:=by omega
  have u:zzN d.sums<=3000000:=by unfold zzN; omega
  have step:∀(k:Nat) (e:Nat) (y0 y1 y2 x:Int),k < 3->0<=x/\x<=1000000->zug d (zzN d.sums) (e+1) y0 y1 y2 x (k:Int)=zug d (zzN d.sums) e (sti (k:Int) 0 (d.amount * up3 d.sums (k+1) / zzN d.sums - x) y0) (sti (k:Int) 1 (d.amount * up3 d.sums (k+1) / zzN d.sums - x) y1) (sti (k:Int) 2 (d.amount * up3 d.sums (k+1) / zzN d.sums - x) y2) (d.amount * up3 d.sums (k+1) / zzN d.sums) ((k:Int)+1):=fun k e y0 y1 y2 x hk hx=>by
   have hu:0<=up3 d.sums (k+1)/\up3 d.sums (k+1)<=zzN d.sums:=by
    unfold zzN
    match k,hk with
    | 0,_=>show 0<=0+d.sums.p0/\0+d.sums.p0<=_; omega
    | 1,_=>show 0<=0+d.sums.p0+d.sums.p1/\0+d.sums.p0+d.sums.p1<=_; omega
    | 2,_=>show 0<=0+d.sums.p0+d.sums.p1+d.sums.p2/\0+d.sums.p0+d.sums.p1+d.sums.p2<=_; omega
   have hm:=zzT ha (x:=up3 d.sums (k+1)) (by omega);have hq:=zzR hu.1 hu.2 hs ha.1;rw[zug,yab (by omega),zzP q (n:=k+1) (by omega) (by omega),obs,zqj ha.1,zqj hu.1,zqj (fI (by omega)),zqj hm.1,zqj hs,zqj (fI (by omega)),zqj (fI (by omega)),zqj (by omega),zqj (fI (by omega))]
  show zug d (zzN d.sums) 4 0 0 0 0 0=_
  have q1:up3 d.sums 1=d.sums.p0:=by show 0+d.sums.p0=_; omega
  have q2:up3 d.sums 2=d.sums.p0+d.sums.p1:=by show 0+d.sums.p0+d.sums.p1=_; omega
  have b1:=zzR (a:=d.amount) (x:=d.sums.p0) (s:=zzN d.sums) (by omega) (by unfold zzN; omega) hs ha.1;have b2:=zzR (a:=d.amount) (x:=d.sums.p0+d.sums.p1) (s:=zzN d.sums) (by omega) (by unfold zzN; omega) hs ha.1;have e0:=step 0 3 0 0 0 0 (by omega) (by omega);have e1:=step 1 2 (d.amount * d.sums.p0 / zzN d.sums - 0) 0 0 (d.amount * d.sums.p0 / zzN d.sums) (by omega) (by omega);have e2:=step 2 1 (d.amount * d.sums.p0 / zzN d.sums - 0) (d.amount * (d.sums.p0+d.sums.p1) / zzN d.sums - d.amount * d.sums.p0 / zzN d.sums) 0 (d.amount * (d.sums.p0+d.sums.p1) / zzN d.sums) (by omega) (by omega);rw[show(0:Nat)+1=1 from rfl,q1] at e0;rw[show(1:Nat)+1=2 from rfl,q2] at e1;rw[show(2:Nat)+1=3 from rfl,i,ycu _ (by omega)] at e2;refine e0.trans (e1.trans (e2.trans ?_))
  show zug d (zzN d.sums) 1 _ _ _ _ 3=_
  rw[zug,yaa (by omega)];refine congrArg some ?_;rw[Int.sub_zero]
  rfl
theorem zzV{d:Dm}(hd:zzM d):zzL (zzQ d)/\zzN (zzQ d)=min d.amount (zzN d.sums)/\(zzQ d).p0<=d.sums.p0/\(zzQ d).p1<=d.sums.p1/\(zzQ d).p2<=d.sums.p2:=by
 obtain⟨ha,hp⟩:=hd;have i:=hp;unfold zzL at hp;unfold zzQ
 by_cases h:zzN d.sums<=d.amount
 ·rw[yab h];exact⟨i,by omega,by omega,by omega,by omega⟩
 ·rw[yaa h]
  have hs:0 < zzN d.sums:=by omega
  have b1:=zzR (a:=d.amount) (x:=d.sums.p0) (s:=zzN d.sums) (by omega) (by unfold zzN; omega) hs ha.1;have b2:=zzR (a:=d.amount) (x:=d.sums.p0+d.sums.p1) (s:=zzN d.sums) (by omega) (by unfold zzN; omega) hs ha.1;have m1:=zzS (a:=d.amount) (x:=d.sums.p0) (y:=d.sums.p0+d.sums.p1) (s:=zzN d.sums) (by omega) hs ha.1;have le:∀x:Int,0<=x->d.amount * x<=zzN d.sums * x:=fun x hx=>ybV (by omega) hx
  have c1:d.amount * d.sums.p0 / zzN d.sums<=d.sums.p0:=by
   have:=ybU hs (le d.sums.p0 (by omega))
   rwa [Int.mul_ediv_cancel_left _ (by omega)] at this
  have c2:d.amount * (d.sums.p0+d.sums.p1) / zzN d.sums - d.amount * d.sums.p0 / zzN d.sums<=d.sums.p1:=by
   have h1:d.amount * (d.sums.p0+d.sums.p1)<=d.amount * d.sums.p0+zzN d.sums * d.sums.p1:=by
    rw[Int.mul_add]; have:=le d.sums.p1 (by omega); omega
   have h2:=ybU hs h1;rw[Int.add_mul_ediv_left _ _ (by omega)] at h2; omega
  have c3:d.amount - d.amount * (d.sums.p0+d.sums.p1) / zzN d.sums<=d.sums.p2:=by
   have h1:d.amount * zzN d.sums<=d.amount * (d.sums.p0+d.sums.p1)+zzN d.sums * d.sums.p2:=by
    have e:d.amount * zzN d.sums=d.amount * (d.sums.p0+d.sums.p1)+d.amount * d.sums.p2:=by
     unfold zzN; rw[Int.mul_add]
    have:=le d.sums.p2 (by omega); omega
   have h2:=ybU hs h1;rw[Int.add_mul_ediv_left _ _ (by omega),ycu _ (by omega)] at h2; omega
  refine⟨⟨?_,?_,?_⟩,?_,?_,?_,?_⟩ <;> (try dsimp only) <;> first | omega | (unfold zzN; dsimp only; unfold zzN at *; omega)
theorem zzW{p:P3}{n:Nat}(hn:n<=3):zuf p (n:Int)=some (([p.p0,p.p1,p.p2]:List Int).take n):=by
 unfold zuf;rw[zqj (by omega)]
 show(zue (([p.p0,p.p1,p.p2]:List Int).take n)).bind _=_
 unfold zue;rw[zqj (by rw[yap]; show 0+min n 3<=_; omega)]; rfl
def Inc(n fr:Nat)(T:List Int):Prop:=T.Pairwise (· < ·)/\∀v∈T,(fr:Int)<=v/\v < n
theorem Inc.cons{n fr:Nat}{x:Int}{T:List Int}:Inc n fr (x::T)↔((fr:Int)<=x/\x < n)/\Inc n (x+1).toNat T:=by
 unfold Inc;rw[ybD]
 constructor
 ·rintro⟨⟨h1,h2⟩,h3⟩
  have hx:=h3 x (yae ..);exact⟨hx,h2,fun v hv=>by have:=h1 v hv; have:=h3 v (yag _ hv); omega⟩
 ·rintro⟨hx,h2,h3⟩
  refine⟨⟨fun v hv=>by have:=h3 v hv; omega,h2⟩,fun v hv=>?_⟩
  rcases yal.1 hv with rfl | hv
  ·exact hx
  ·have:=h3 v hv; omega
theorem zzX{n:Nat}{D:List Int}:∀{d:Nat} {pre:List Int} {fr:Nat},D∈zrv n d pre fr↔∃T,D=pre++T/\T.length=d/\Inc n fr T
 | 0,pre,fr=>by
  show D∈[pre]↔_
  rw[yaP]
  constructor
  ·rintro rfl; exact⟨[],by simp,rfl,.nil,fun v hv=>by cases hv⟩
  ·rintro⟨T,h1,h2,_⟩
   rw[yaW h2,yaK] at h1; exact h1
 | d+1,pre,fr=>by
  show D∈zru (fun x=>zrv n d (pre++[(x:Int)]) (x+1)) (n - fr) fr↔_
  rw[zxZ]
  constructor
  ·rintro⟨x,h1,h2,h3⟩
   obtain⟨T,h4,h5,h6⟩:=zzX.1 h3;refine⟨(x:Int)::T,by rw[h4]; simp,by simp[h5],Inc.cons.2 ⟨by omega,?_⟩⟩;rw[show((x:Int)+1).toNat=x+1 by omega]; exact h6
  ·rintro⟨T,h1,h2,h3⟩
   cases T with
   | nil=>simp at h2
   | cons v T=>
    obtain⟨h4,h5⟩:=Inc.cons.1 h3;refine⟨v.toNat,by omega,by omega,zzX.2 ⟨T,?_,by simpa using h2,?_⟩⟩
    ·rw[show((v.toNat:Nat):Int)=v by omega,h1]; simp
    ·rw[show v.toNat+1=(v+1).toNat by omega]; exact h5
theorem zzY{n:Nat}:∀{T:List Int} {fr:Nat},Inc n fr T->T.length<=n - fr
 | [],_,_=>yam _
 | v::T,fr,h=>by
  obtain⟨h1,h2⟩:=Inc.cons.1 h;have:=zzY h2
  simp only[List.length_cons]
  omega
theorem zzZ{n:Nat}{D:List Int}:D∈zoa n↔Inc n 0 D:=by
 unfold zoa;rw[zxZ]
 constructor
 ·rintro⟨s,_,_,h⟩
  obtain⟨T,h1,_,h2⟩:=zzX.1 h;rw[h1]; exact h2
 ·intro h;have:=zzY h;exact⟨D.length,yam _,by omega,zzX.2 ⟨D,rfl,rfl,h⟩⟩
def zz0(p:P3)(s:Int):Int:=if s=0 then p.p0 else if s=1 then p.p1 else p.p2
def zz1(s:Int):Prop:=0<=s/\s < 3
theorem zz2{p:P3}{s:Int}(h:zz1 s):idx ([p.p0,p.p1,p.p2]:List Int) s=some (zz0 p s):=by
 obtain⟨n,rfl⟩:∃n:Nat,s=(n:Int):=⟨s.toNat,by unfold zz1 at h; omega⟩;unfold zz1 at h;rw[zqc]
 match n,(show n < 3 by omega) with
 | 0,_=>rfl
 | 1,_=>rfl
 | 2,_=>rfl
def zz3(p:P3)(x:Clm):Prop:=x.Paid.Lo<=zz0 p x.Society/\zz0 p x.Society<=x.Paid.Hi
instance (p:P3) (x:Clm):Decidable (zz3 p x):=by unfold zz3; infer_instance
def zz4(p:P3)(l:List Clm):Prop:=∀x∈l,zz3 p x
instance (p:P3) (l:List Clm):Decidable (zz4 p l):=by unfold zz4; infer_instance
def zz5(l:List Clm):Prop:=∀x∈l,zz1 x.Society
theorem zz6{r:Rg}{n:Int}:Ev (ztF r n) (r.Lo<=n/\n<=r.Hi):=Ev.ite fun _=>Ev.dec Iff.rfl
theorem zz7{x:Clm}{p:P3}(h:zz1 x.Society):Ev (zuj x p) (zz3 p x):=Ev.bind (zz2 h) zz6.ret
theorem gM{l:List Clm}{p:Clm->Option Bool}:∀{d:Nat} {x:Int},ztT l p d x=gIdx l p d x
 | 0,_=>rfl
 | d+1,x=>by unfold ztT gIdx; simp only[gM]
theorem zz8{l:List Clm}{p:Clm->Option Bool}{q:Clm->Prop}(hp:∀a∈l,Ev (p a) (q a))(hl:zrK l):Ev (ztW l p) (∀a∈l,q a):=Ev.each hp hl.lt gM
theorem zz9{p:P3}{l:List Clm}(h:zz5 l)(hl:zrK l):zuk p l=some (decide (zz4 p l)):=(zz8 (q:=fun x=>zz3 p x) (fun x hx=>zz7 (h x hx)) hl).ret.eqd
def zAa(c:Cs)(v:Cv)(e:Hd)(s:Int):Prop:=v.Parcel=c.Parcel/\e.Covered=true/\e.Owner=v.Owner/\s<=c.Day/\c.Day<=v.Until
instance (c:Cs) (v:Cv) (e:Hd) (s:Int):Decidable (zAa c v e s):=by unfold zAa; infer_instance
theorem zAb{c:Cs}{v:Cv}{e:Hd}{s:Int}:Ev (zuo c v e s) (zAa c v e s):=Ev.ite fun _=>Ev.ite fun _=>Ev.ite fun _=>Ev.ite fun _=>Ev.dec Iff.rfl
def zAc(p:P3)(s x:Int):P3:={ p0:=sti s 0 (zz0 p s+x) p.p0,p1:=sti s 1 (zz0 p s+x) p.p1,p2:=sti s 2 (zz0 p s+x) p.p2 }
def sumsN(c:Cs)(e:Hd):List Cv->List Int->P3->P3
 | v::vs,s::ss,p=>sumsN c e vs ss (if zAa c v e s then zAc p v.Society v.Sum else p)
 | _,_,p=>p
def zAd(c:Cs)(e:Hd)(ss:List Int)(loss:Int):Dm:={ amount:=e.Value * loss / 100,sums:=sumsN c e c.Covers ss { p0:=0,p1:=0,p2:=0 } }
def zAe(v:Cv):Prop:=zz1 v.Society/\0<=v.Sum/\v.Sum<=1000
theorem zAf{p:P3}{s x:Int}{B:Int}(_hs:zz1 s)(hx:0<=x/\x<=1000)(h0:0<=p.p0/\p.p0<=B)(h1:0<=p.p1/\p.p1<=B)(h2:0<=p.p2/\p.p2<=B):(0<=(zAc p s x).p0/\(zAc p s x).p0<=B+1000)/\(0<=(zAc p s x).p1/\(zAc p s x).p1<=B+1000)/\0<=(zAc p s x).p2/\(zAc p s x).p2<=B+1000:=by
 unfold zAc zz0 sti
 dsimp only
 refine⟨?_,?_,?_⟩ <;> (repeat' split) <;> omega
theorem zAg{c:Cs}{e:Hd}:∀{vs:List Cv} {ss:List Int} {p:P3} {B:Int},(∀v∈vs,zAe v)->0<=B->(0<=p.p0/\p.p0<=B)->(0<=p.p1/\p.p1<=B)->(0<=p.p2/\p.p2<=B)->(0<=(sumsN c e vs ss p).p0/\(sumsN c e vs ss p).p0<=B+1000 * vs.length)/\(0<=(sumsN c e vs ss p).p1/\(sumsN c e vs ss p).p1<=B+1000 * vs.length)/\0<=(sumsN c e vs ss p).p2/\(sumsN c e vs ss p).p2<=B+1000 * vs.length
 | [],ss,p,B,_,hB,h0,h1,h2=>by
  have e1:sumsN c e [] ss p=p:=by unfold sumsN; rfl
  rw[e1]
  show _/\_/\_
  have:(([]:List Cv).length:Int)=0:=rfl
  omega
 | v::vs,[],p,B,_,hB,h0,h1,h2=>by
  have e1:sumsN c e (v::vs) [] p=p:=by unfold sumsN; rfl
  rw[e1];have:(0:Int)<=((v::vs).length:Int):=yaT _
  omega
 | v::vs,s::ss,p,B,hv,hB,h0,h1,h2=>by
  obtain⟨k1,k2⟩:=hv v (yae ..);rw[sumsN];have a:∀v∈vs,zAe v:=fun x hx=>hv x (yag _ hx)
  have hl:((v::vs).length:Int)=vs.length+1:=by rw[yaE]; omega
  have key:∀q:P3,(0<=q.p0/\q.p0<=B+1000)->(0<=q.p1/\q.p1<=B+1000)->(0<=q.p2/\q.p2<=B+1000)->(0<=(sumsN c e vs ss q).p0/\(sumsN c e vs ss q).p0<=B+1000 * (v::vs).length)/\(0<=(sumsN c e vs ss q).p1/\(sumsN c e vs ss q).p1<=B+1000 * (v::vs).length)/\0<=(sumsN c e vs ss q).p2/\(sumsN c e vs ss q).p2<=B+1000 * (v::vs).length:=fun q q0 q1 q2=>by
   have:=zAg (c:=c) (e:=e) (ss:=ss) (p:=q) (B:=B+1000) a (by omega) q0 q1 q2;rw[hl]; omega
  split
  ·obtain⟨a0,a1,a2⟩:=zAf k1 k2 h0 h1 h2;exact key _ a0 a1 a2
  ·exact key _ (by omega) (by omega) (by omega)
theorem zAh{c:Cs}{e:Hd}{ss:List Int}{loss:Int}(hv:∀v∈c.Covers,zAe v)(hl:c.Covers.length<=100)(he:0<=e.Value/\e.Value<=10000)(hx:0<=loss/\loss<=100):zzM (zAd c e ss loss):=by
 have h1:=zAg (c:=c) (e:=e) (ss:=ss) (p:={ p0:=0,p1:=0,p2:=0 }) (B:=0) hv (by omega) ⟨ybf _,ybf _⟩ ⟨ybf _,ybf _⟩ ⟨ybf _,ybf _⟩;have h2:0<=e.Value * loss:=ybu he.1 hx.1;have h3:e.Value * loss<=10000 * loss:=ybV he.2 hx.1;unfold zzM zzL zAd
 dsimp only
 refine⟨⟨by omega,by omega⟩,?_,?_,?_⟩ <;> omega
theorem zAi{c:Cs}{e:Hd}{ss:List Int}(hv:∀v∈c.Covers,zAe v)(hl:c.Covers.length<=100)(hs:c.Covers.length<=ss.length)(a:Int):∀(d k:Nat) (p:P3),k<=c.Covers.length->c.Covers.length - k < d->(0<=p.p0/\p.p0<=1000 * k)->(0<=p.p1/\p.p1<=1000 * k)->(0<=p.p2/\p.p2<=1000 * k) ->
  zup c e ss d a p.p0 p.p1 p.p2 (k:Int)=some { amount:=a,sums:=sumsN c e (c.Covers.drop k) (ss.drop k) p }
 | 0,k,_,_,h,_,_,_=>by omega
 | d+1,k,p,hk,h,h0,h1,h2=>by
  rw[zup]
  by_cases i:k < c.Covers.length
  ·have hg:=yak i;have q:=yak (show k < ss.length by omega);obtain⟨k1,k2⟩:=hv _ (ybE hg);rw[yab (by omega),zrB hg,obs,zrB q,obs,zAb.eqd,obs,yat i,yat (show k < ss.length by omega)];rw[sumsN]
   have hc:(k:Int)+1=((k+1:Nat):Int):=by omega
   by_cases hh:zAa c c.Covers[k] e ss[k]
   ·rw[yab hh];rw[yab (decide_eq_true hh),show idx ([p.p0,p.p1,p.p2]:List Int) (c.Covers[k]).Society=_ from zz2 k1,obs]
    have s:0<=zz0 p (c.Covers[k]).Society/\zz0 p (c.Covers[k]).Society<=1000 * k:=by
     unfold zz0; repeat' split
     all_goals omega
    obtain⟨a0,a1,a2⟩:=zAf (B:=1000 * k) k1 k2 h0 h1 h2;rw[zqj (fI (by omega)),zqj (by unfold zz1 at k1; omega),zqj (fI (by omega)),hc];exact zAi hv hl hs a d (k+1) (zAc p (c.Covers[k]).Society (c.Covers[k]).Sum) (by omega) (by omega) (by omega) (by omega) (by omega)
   ·rw[yaa hh];rw[yaa (by simp[hh]),zqj (fI (by omega)),hc];exact zAi hv hl hs a d (k+1) p (by omega) (by omega) (by omega) (by omega) (by omega)
  ·rw[yaa (by omega),yax (by omega)];unfold sumsN; rfl
theorem zAj{c:Cs}{e:Hd}{ss:List Int}{loss:Int}(hv:∀v∈c.Covers,zAe v)(hl:c.Covers.length<=100)(hs:c.Covers.length<=ss.length)(he:0<=e.Value/\e.Value<=10000)(hx:0<=loss/\loss<=100):zuq c e ss loss=some (zAd c e ss loss):=by
 have h2:0<=e.Value * loss:=ybu he.1 hx.1;have h3:e.Value * loss<=10000 * loss:=ybV he.2 hx.1;unfold zuq;rw[zqj he.1,zqj hx.1,zqj (fI (by omega)),zqj h2,zqj (by omega),zqj (fI (by omega))];exact zAi hv hl hs _ (c.Covers.length+1) 0 { p0:=0,p1:=0,p2:=0 } (yam _) (by omega) (by show(0:Int)<=0/\(0:Int)<=_; omega) (by show(0:Int)<=0/\(0:Int)<=_; omega) (by show(0:Int)<=0/\(0:Int)<=_; omega)
def zAk(c:Cs):List Rg:=c.Book.Entries.map (·.Day)++c.Book.Parcels.map (·.Sown)
def zAl(c:Cs):List Rg:=c.Covers.map (·.Start)++[c.Loss]
theorem zAm{c:Cs}(h1:c.Book.Entries.length<=100)(h2:c.Book.Parcels.length<=100):zt6 c=some (zAk c):=by
 unfold zt6;refine zrG (l:=c.Book.Entries) (·.Day) (F:=fun d acc x=>zt5 c d acc x) (fun acc=>zt4 c (c.Book.Parcels.length+1) acc 0) (fun d k acc a hk ha=>?_) (fun d acc=>by rw[zt5,yaa (yaJ _)]) (by omega) |>.trans ?_
 ·have q:=(yah.1 hk).1;rw[zt5,yab (by omega),zrB hk,obs,zqj (by omega),zqj (fI (by omega))]
 ·have key:∀(d k:Nat) (acc:List Rg),k<=c.Book.Parcels.length->c.Book.Parcels.length - k < d->acc.length<=100+k->zt4 c d acc (k:Int)=some (acc++(c.Book.Parcels.drop k).map (·.Sown)):=by
   intro d
   induction d with
   | zero=>intro k _ _ h; omega
   | succ d ih=>
    intro k acc hk h ha;rw[zt4]
    by_cases i:k < c.Book.Parcels.length
    ·have hg:=yak i;rw[yab (by omega),zrB hg,obs,zqj (by omega),zqj (fI (by omega)),show(k:Int)+1=((k+1:Nat):Int) by omega,ih (k+1) _ (by omega) (by omega) (by rw[yai,ybF]; omega),yat i,yaX,yav]; rfl
    ·rw[yaa (by omega),yax (by omega)]; simp
  exact key _ 0 _ (yam _) (by omega) (by rw[yas]; omega)
theorem zAn{c:Cs}(h1:c.Covers.length<=100):zt8 c=some (zAl c):=by
 unfold zt8;refine zrG (l:=c.Covers) (·.Start) (F:=fun d acc x=>zt7 c d acc x) (fun acc=>gd (acc.length < 1048576) (some (acc++[c.Loss]))) (fun d k acc a hk ha=>?_) (fun d acc=>by rw[zt7,yaa (yaJ _)]) (by omega) |>.trans ?_
 ·have h:=(yah.1 hk).1;rw[zt7,yab (by omega),zrB hk,obs,zqj (by omega),zqj (fI (by omega))]
 ·rw[zqj (by rw[yas]; omega)]; rfl
def inR:List Rg->List Int->Prop
 | [],[]=>True
 | r::rs,x::xs=>(r.Lo<=x/\x<=r.Hi)/\inR rs xs
 | _,_=>False
theorem zAo:∀{rs:List Rg} {xs:List Int},inR rs xs->xs.length=rs.length
 | [],[],_=>rfl
 | _::_,_::_,h=>by rw[yaE,yaE,zAo h.2]
theorem zAp{L:List Int}:∀{rs:List Rg} {pre:List Int},L∈chW rs pre↔∃xs,L=pre++xs/\inR rs xs
 | [],pre=>by
  rw[chW,yaP]
  constructor
  ·intro h; exact⟨[],by rw[h,yaK],trivial⟩
  ·rintro⟨xs,h1,h2⟩
   cases xs with
   | nil=>rw[h1,yaK]
   | cons _ _=>exact h2.elim
 | r::rs,pre=>by
  rw[chW,zxZ]
  constructor
  ·rintro⟨j,_,h1,h2⟩
   obtain⟨xs,h3,h4⟩:=(zAp (rs:=rs)).1 h2;refine⟨(r.Lo+(j:Int))::xs,by rw[h3,yav]; rfl,⟨?_,h4⟩⟩;unfold szR at h1; omega
  ·rintro⟨xs,h1,h2⟩
   cases xs with
   | nil=>exact h2.elim
   | cons x xs=>
    obtain⟨h3,h4⟩:=h2;refine⟨(x - r.Lo).toNat,yam _,by unfold szR; omega,(zAp (rs:=rs)).2 ⟨xs,?_,h4⟩⟩;rw[h1,show r.Lo+((x - r.Lo).toNat:Int)=x by omega,yav]; rfl
theorem zAq{L:List Int}{rs:List Rg}:L∈chW rs []↔inR rs L:=by
 rw[zAp];exact⟨fun⟨xs,h1,h2⟩=>by rw[h1]; exact h2,fun h=>⟨L,rfl,h⟩⟩
theorem zAr{l:List Rg}(h1:l.length<=100)(h2:∀r∈l,okR r):ztq l=some (chW l []):=zqj ⟨h1,h2⟩
def zAs(n:Nat)(days:List Int):Tr:={ Days:=days.take n,Sown:=days.drop n }
def hd0:Hd:={ There:=false,Covered:=false,Owner:=0,Value:=0 }
def zAt(c:Cs)(E:Tr->Option Hd):List (Tr × Hd):=(chW (zAk c) []).filterMap fun days=>(E (zAs c.Book.Entries.length days)).map fun h=>(zAs c.Book.Entries.length days,h)
def zAu(c:Cs)(t:Tr)(h:Hd)(own:List Int):Dt × Dm:=({ Book:=t,Starts:=own.take c.Covers.length,Loss:=own.getD c.Covers.length 0 },zAd c h (own.take c.Covers.length) (own.getD c.Covers.length 0))
def zAv(c:Cs)(E:Tr->Option Hd):List (Dt × Dm):=(zAt c E).flatMap fun x=>(chW (zAl c) []).map (zAu c x.1 x.2)
structure zAw (c:Cs) (E:Tr->Option Hd):Prop where
 ev:∀days∈chW (zAk c) [],zun c (zAs c.Book.Entries.length days)=some (match E (zAs c.Book.Entries.length days) with | some h=>(h,0) | none=>(hd0,11))
 val:∀t h,E t=some h->0<=h.Value/\h.Value<=10000
 ent:c.Book.Entries.length<=20
 par:c.Book.Parcels.length<=20
 rng:∀r∈zAk c,okR r
 cov:∀v∈c.Covers,zAe v
 len:c.Covers.length<=20
 own:∀v∈c.Covers,okR v.Start
 los:0<=c.Loss.Lo/\c.Loss.Lo<=c.Loss.Hi/\c.Loss.Hi<=100
 clm:zz5 c.Claims
 few:c.Claims.length<=20
 soc:1<=c.Societies/\c.Societies<=3
section
variable {c:Cs} {E:Tr->Option Hd}
theorem zAx(h:zAw c E):∀l:List (List Int),(∀x∈l,x∈chW (zAk c) [])->pbooks1_L0 c l=some (l.filterMap fun days=>(E (zAs c.Book.Entries.length days)).map fun h=>(zAs c.Book.Entries.length days,h))
 | [],_=>by unfold pbooks1_L0; rfl
 | a::l,hl=>by
  have ih:=zAx h l fun x hx=>hl x (yag _ hx);have ha:=hl a (yae ..);have i:=zAo (zAq.1 ha)
  have q:c.Book.Entries.length<=a.length:=by rw[i]; unfold zAk; rw[yai,yas]; omega
  have e1:({ Days:=((a.take (Int.toNat (c.Book.Entries.length:Int))).drop (Int.toNat (0:Int))),Sown:=((a.take (Int.toNat (a.length:Int))).drop (Int.toNat (c.Book.Entries.length:Int))) }:Tr)=zAs c.Book.Entries.length a:=by
   unfold zAs;rw[ya3,ya3,ybc]; rfl
  rw[pbooks1_L0,zqj (by omega),zqj (by omega),e1,h.ev a ha,obs]
  cases hE:E (zAs c.Book.Entries.length a) with
  | none=>
   dsimp only
   rw[yaa (by omega),List.filterMap_cons_none (by rw[hE]; rfl)];exact ih
  | some e=>
   dsimp only
   rw[yab rfl,ih,List.filterMap_cons_some (by rw[hE]; rfl)]; rfl
theorem zAy(h:zAw c E):zuu c=some (zAt c E):=by
 unfold zuu zut;rw[zAm (by have:=h.ent; omega) (by have:=h.par; omega),obs,zAr (by unfold zAk; rw[yai,yas,yas]; have:=h.ent; have:=h.par; omega) h.rng,obs,zAx h _ fun x hx=>hx]; rfl
theorem zAz(h:zAw c E){a:List Int}(ha:a∈chW (zAl c) []):a.length=c.Covers.length+1/\0<=a.getD c.Covers.length 0/\a.getD c.Covers.length 0<=100/\a[c.Covers.length]? = some (a.getD c.Covers.length 0):=by
 have hi:=zAq.1 ha;have i:=zAo hi
 have hl:a.length=c.Covers.length+1:=by rw[i]; unfold zAl; rw[yai,yas]; rfl
 have key:∀(rs:List Rg) (xs:List Int),inR (rs++[c.Loss]) xs->∃x,xs[rs.length]? = some x/\c.Loss.Lo<=x/\x<=c.Loss.Hi:=by
  intro rs
  induction rs with
  | nil=>
   intro xs hx
   cases xs with
   | nil=>exact hx.elim
   | cons x xs=>exact⟨x,rfl,hx.1⟩
  | cons r rs ih=>
   intro xs hx
   cases xs with
   | nil=>exact hx.elim
   | cons x xs=>obtain⟨y,h1,h2⟩:=ih xs hx.2; exact⟨y,h1,h2⟩
 obtain⟨x,h1,h2,h3⟩:=key _ _ hi;rw[yas] at h1
 have hg:a.getD c.Covers.length 0=x:=by rw[yaF,h1]; rfl
 have:=h.los;rw[hg];exact⟨hl,by omega,by omega,h1⟩
theorem zAA(h:zAw c E)(x:Tr × Hd)(hx:0<=x.2.Value/\x.2.Value<=10000)(R:List (Dt × Dm)):∀l:List (List Int),(∀x∈l,x∈chW (zAl c) [])->zux c x (some R) l=some (l.map (zAu c x.1 x.2)++R)
 | [],_=>by unfold zux; rfl
 | a::l,hl=>by
  have ih:=zAA h x hx R l fun x hx=>hl x (yag _ hx);obtain⟨k1,k2,k3,k4⟩:=zAz h (hl a (yae ..));rw[zux,zqj (by omega),zrB k4,obs]
  have e1:((a.take (Int.toNat (c.Covers.length:Int))).drop (Int.toNat (0:Int)))=a.take c.Covers.length:=by rw[ya3]; rfl
  rw[e1,zAj h.cov (by have:=h.len; omega) (by rw[yap]; omega) hx ⟨k2,k3⟩,obs,ih]; rfl
theorem zAB(h:zAw c E):∀l:List (Tr × Hd),(∀x∈l,0<=x.2.Value/\x.2.Value<=10000)->punclaimed1_L0 c l=some (l.flatMap fun x=>(chW (zAl c) []).map (zAu c x.1 x.2))
 | [],_=>by unfold punclaimed1_L0; rfl
 | a::l,hl=>by
  have ih:=zAB h l fun x hx=>hl x (yag _ hx);rw[punclaimed1_L0,zAn (by have:=h.len; omega),obs,zAr (by unfold zAl; rw[yai,yas]; have:=h.len; show _+1<=_; omega) (fun r hr=>?_),obs,ih,zAA h a (hl a (yae ..)) _ _ fun x hx=>hx]; rfl;unfold zAl at hr
  rcases yaL.1 hr with hr | hr
  ·obtain⟨v,hv,rfl⟩:=yaq.1 hr; exact h.own v hv
  ·rw[yaP.1 hr]; have:=h.los; unfold okR; omega
theorem zAC(h:zAw c E):zuz c=some (zAv c E):=by
 unfold zuz zuy;rw[zAy h,obs,zAB h _ fun x hx=>?_]; rfl;unfold zAt at hx;obtain⟨days,_,h2⟩:=List.mem_filterMap.1 hx;obtain⟨e,h3,rfl⟩:=Option.map_eq_some_iff.1 h2;exact h.val _ _ h3
theorem zAD(h:zAw c E){x:Dt × Dm}(hx:x∈zAv c E):zzM x.2:=by
 unfold zAv at hx;obtain⟨y,hy,h2⟩:=List.mem_flatMap.1 hx;obtain⟨own,ho,rfl⟩:=yaq.1 h2;obtain⟨k1,k2,k3,k4⟩:=zAz h ho;unfold zAt at hy;obtain⟨days,_,h3⟩:=List.mem_filterMap.1 hy;obtain⟨e,h4,rfl⟩:=Option.map_eq_some_iff.1 h3;exact zAh h.cov (by have:=h.len; omega) (h.val _ _ h4) ⟨k2,k3⟩
end
end
end Go.Proofs.YtpjnfiegpjlfgaaGreat

namespace Go.Proofs.YtpjnfiegpjlfgaaGreat
open _root_.Go.Proofs.Tryz
open Go.Abs
set_option maxRecDepth 100000
noncomputable section
section
open Classical
def SM(P:Dm->Prop):Option (Dm->Option P3):=some fun d=>if P d then some (zzQ d) else none
def PM(P:P3->Prop):Option (P3->Option Bool):=some fun p=>if P p then some true else none
theorem zAE{P P':Dm->Prop}(h:∀d,P d↔P' d):SM P=SM P':=congrArg SM (funext fun d=>propext (h d))
theorem zAF{P P':P3->Prop}(h:∀d,P d↔P' d):PM P=PM P':=congrArg PM (funext fun d=>propext (h d))
theorem zAG{P:Dm->Prop}{d:Dm}:zqD (SM P) d (zzQ d)=some (SM fun x=>x=d\/P x):=by
 show some (some fun j=>if j=d then some (zzQ d) else if P j then some (zzQ j) else none)=_
 refine congrArg some (congrArg some (funext fun j=>?_))
 by_cases hj:j=d
 ·rw[yab hj,yab (.inl hj),hj]
 ·rw[yaa hj]
  by_cases hP:P j
  ·rw[yab hP,yab (.inr hP)]
  ·rw[yaa hP,yaa fun h=>h.elim hj hP]
theorem zAH{P:P3->Prop}{p:P3}:zqD (PM P) p true=some (PM fun x=>x=p\/P x):=by
 show some (some fun j=>if j=p then some true else if P j then some true else none)=_
 refine congrArg some (congrArg some (funext fun j=>?_))
 by_cases hj:j=p
 ·rw[yab hj,yab (.inl hj)]
 ·rw[yaa hj]
  by_cases hP:P j
  ·rw[yab hP,yab (.inr hP)]
  ·rw[yaa hP,yaa fun h=>h.elim hj hP]
theorem zAI{P:Dm->Prop}{d:Dm}:zqC (SM P) d=if P d then some (zzQ d) else none:=rfl
theorem zAJ{P:P3->Prop}{p:P3}:zqC (PM P) p=if P p then some true else none:=rfl
end
theorem zAK{d:Dm}(h:zzM d):MK.fit d:=by
 obtain⟨h1,h2,h3,h4⟩:=h;exact⟨fI (by omega),fI (by omega),fI (by omega),fI (by omega),trivial⟩
theorem zAL{p:P3}(h:zzL p):MK.fit p:=by
 obtain⟨h2,h3,h4⟩:=h;exact⟨fI (by omega),fI (by omega),fI (by omega),trivial⟩
def zAM(c:Cs)(L:List Dm):Wd:={ c:=c,settled:=SM (·∈L),paid:=PM fun p=>∃d∈L,zzQ d=p }
theorem zAN{c:Cs}:∀(l:List (Dt × Dm)),(∀x∈l,zzM x.2)->∀P:Dm->Prop,psettleAll_L0 c l (SM P) (PM fun p=>∃d,P d/\zzQ d=p)=some { c:=c,settled:=SM fun d=>d∈l.map (·.2)\/P d,paid:=PM fun p=>∃d,(d∈l.map (·.2)\/P d)/\zzQ d=p }
 | [],_,P=>by
  unfold psettleAll_L0;rw[zAE (P:=P) (P':=fun d=>d∈([]:List (Dt × Dm)).map (·.2)\/P d) (fun d=>by simp),zAF (P:=fun p=>∃d,P d/\zzQ d=p) (P':=fun p=>∃d,(d∈([]:List (Dt × Dm)).map (·.2)\/P d)/\zzQ d=p) (fun p=>by simp)]
 | a::l,hl,P=>by
  have hd:=hl a (yae ..);have q:∀x∈l,zzM x.2:=fun x hx=>hl x (yag _ hx);rw[psettleAll_L0,zqj (zAK hd)]
  by_cases hP:P a.2
  ·rw[zqL (v:=zzQ a.2) (by rw[zAI,yab hP])];rw[zAN l q P]
   have i:∀d,(d∈l.map (·.2)\/P d)↔(d∈(a::l).map (·.2)\/P d):=fun d=>by
    rw[yaX,yal]
    constructor
    ·rintro (h | h)
     ·exact .inl (.inr h)
     ·exact .inr h
    ·rintro ((h | h) | h)
     ·exact .inr (h ▸ hP)
     ·exact .inl h
     ·exact .inr h
   rw[zAE i,zAF fun p=>exists_congr fun d=>and_congr_left' (i d)]
  ·rw[zqK (by rw[zAI,yaa hP]),zzU hd,obs,zqj (zAK hd),zAG,obs,zqj (zAL (zzV hd).1),zAH,obs]
   have h1:PM (fun x=>x=zzQ a.2\/∃d,P d/\zzQ d=x)=PM fun p=>∃d,(d=a.2\/P d)/\zzQ d=p:=zAF fun p=>by
    constructor
    ·rintro (h | ⟨d,h,h2⟩)
     ·exact⟨a.2,.inl rfl,h.symm⟩
     ·exact⟨d,.inr h,h2⟩
    ·rintro⟨d,h | h,h2⟩
     ·exact .inl (by rw[<- h2,h])
     ·exact .inr ⟨d,h,h2⟩
   rw[h1,zAN l q fun d=>d=a.2\/P d]
   have i:∀d,(d∈l.map (·.2)\/d=a.2\/P d)↔(d∈(a::l).map (·.2)\/P d):=fun d=>by
    rw[yaX,yal]
    constructor
    ·rintro (h | h | h)
     ·exact .inl (.inr h)
     ·exact .inl (.inl h)
     ·exact .inr h
    ·rintro ((h | h) | h)
     ·exact .inr (.inl h)
     ·exact .inl h
     ·exact .inr (.inr h)
   rw[zAE i,zAF fun p=>exists_congr fun d=>and_congr_left' (i d)]
theorem zAO{c:Cs}{E:Tr->Option Hd}(h:zAw c E):zuA c=some (zAM c ((zAv c E).map (·.2))):=by
 unfold zuA;rw[zAC h,obs];have e1:(some fun _=>none:Option (Dm->Option P3))=SM fun _=>False:=congrArg some (funext fun d=>(yaa (fun h=>h)).symm);have e2:(some fun _=>none:Option (P3->Option Bool))=PM fun p=>∃d,(False:Prop)/\zzQ d=p:=congrArg some (funext fun p=>(yaa (fun⟨_,h,_⟩=>h)).symm);rw[e1,e2,zAN _ fun x hx=>zAD h hx];unfold zAM;rw[zAE (P':=(·∈(zAv c E).map (·.2))) fun d=>by simp,zAF (P':=fun p=>∃d∈(zAv c E).map (·.2),zzQ d=p) fun p=>by simp]
theorem zAP{α:Type}:∀l:List α,∃ks:List α,ks.Nodup/\∀k,k∈ks↔k∈l
 | []=>⟨[],ycs,fun _=>Iff.rfl⟩
 | a::l=>by
  obtain⟨ks,h1,h2⟩:=zAP l
  by_cases h:a∈ks
  ·refine⟨ks,h1,fun k=>?_⟩;rw[h2,yal];exact⟨.inr,fun hk=>hk.elim (fun he=>by rw[he]; exact(h2 a).1 h) id⟩
  ·exact⟨a::ks,yb7.2 ⟨h,h1⟩,fun k=>by rw[yal,yal,h2]⟩
theorem zAQ{α:Type}:∀{ks L:List α},ks.Nodup->(∀x∈ks,x∈L)->ks.length<=L.length
 | [],_,_,_=>yam _
 | a::ks,L,h,hs=>by
  obtain⟨h1,h2⟩:=yb7.1 h;obtain⟨l1,l2,rfl⟩:=List.append_of_mem (hs a (yae ..))
  have:=zAQ (L:=l1++l2) h2 fun x hx=>by
   have h3:=hs x (yag _ hx)
   rcases yaL.1 h3 with h4 | h4
   ·exact yaR _ h4
   ·rcases yal.1 h4 with h4 | h4
    ·exact absurd (h4 ▸ hx) h1
    ·exact yaZ _ h4
  simp only[List.length_append,List.length_cons] at this ⊢
  omega
theorem zAR{c:Cs}{L:List Dm}(hL:∀d∈L,zzM d)(ks:List Dm):zri (zAM c L).settled ks↔ks.Nodup/\∀k,k∈ks↔k∈L:=by
 have hm:∀k,(MK.fit k/\zqC (zAM c L).settled k ≠ none)↔k∈L:=fun k=>by
  show(MK.fit k/\zqC (SM (·∈L)) k ≠ none)↔_
  rw[zAI]
  by_cases hk:k∈L
  ·rw[yab hk]; exact⟨fun _=>hk,fun _=>⟨zAK (hL k hk),yaI _⟩⟩
  ·rw[yaa hk]; exact⟨fun h=>absurd rfl h.2,fun h=>absurd h hk⟩
 exact and_congr_right fun _=>forall_congr' fun k=>by rw[hm]
theorem zAS{c:Cs}{L:List Dm}(hL:∀d∈L,zzM d)(ks:List P3):zri (zAM c L).paid ks↔ks.Nodup/\∀k,k∈ks↔∃d∈L,zzQ d=k:=by
 have hm:∀k,(MK.fit k/\zqC (zAM c L).paid k ≠ none)↔∃d∈L,zzQ d=k:=fun k=>by
  show(MK.fit k/\zqC (PM fun p=>∃d∈L,zzQ d=p) k ≠ none)↔_
  rw[zAJ]
  by_cases hk:∃d∈L,zzQ d=k
  ·rw[yab hk];refine⟨fun _=>hk,fun _=>⟨?_,yaI _⟩⟩;obtain⟨d,h1,rfl⟩:=hk;exact zAL (zzV (hL d h1)).1
  ·rw[yaa hk]; exact⟨fun h=>absurd rfl h.2,fun h=>absurd h hk⟩
 exact and_congr_right fun _=>forall_congr' fun k=>by rw[hm]
theorem zAT{c:Cs}{L:List Dm}(hL:∀d∈L,zzM d):∃ks,zri (zAM c L).settled ks:=by
 obtain⟨ks,h1,h2⟩:=zAP L;exact⟨ks,(zAR hL ks).2 ⟨h1,h2⟩⟩
theorem zAU{c:Cs}{L:List Dm}(hL:∀d∈L,zzM d):∃ks,zri (zAM c L).paid ks:=by
 obtain⟨ks,h1,h2⟩:=zAP (L.map zzQ);exact⟨ks,(zAS hL ks).2 ⟨h1,fun k=>(h2 k).trans yaq⟩⟩
theorem zAV{c:Cs}{L:List Dm}(hL:∀d∈L,zzM d):((zrq (zAM c L).settled:Nat):Int)=0↔L=[]:=by
 obtain⟨ks,hk⟩:=zAT (c:=c) hL;rw[zrr hk];have h2:=((zAR hL ks).1 hk).2
 constructor
 ·intro h;have:ks=[]:=yaW (by omega);subst this
  exact ycx.2 fun d hd=>by have:=(h2 d).2 hd; cases this
 ·intro h;subst h
  have:ks=[]:=ycx.2 fun d hd=>by have:=(h2 d).1 hd; cases this
  rw[this]; rfl
def zAW(L:List Dm)(l:List Clm):Prop:=∃d∈L,zz4 (zzQ d) l
instance (L:List Dm) (l:List Clm):Decidable (zAW L l):=by unfold zAW; infer_instance
theorem zAX{w:Wd}{l:List Clm}(hl:zz5 l)(hs:zrK l):∀(d:Nat) (rem:List P3),rem.length < d->(∀p∈rem,zqC w.paid p ≠ none)->pcanHold_L0 w l d rem=some (decide (∃p∈rem,zz4 p l))
 | 0,_,h,_=>by omega
 | d+1,rem,h,hm=>by
  unfold pcanHold_L0;refine zrp (fun l1 a l2 hr=>?_) fun hr=>?_
  ·subst hr
   obtain⟨v,hv⟩:∃v,zqC w.paid a=some v:=by
    cases hg:zqC w.paid a with
    | none=>exact absurd hg (hm a (by simp))
    | some v=>exact⟨v,rfl⟩
   rw[hv,obs,zz9 hl hs,obs]
   by_cases ha:zz4 a l
   ·rw[yab (decide_eq_true ha),decide_eq_true (show ∃p∈l1++a::l2,zz4 p l from ⟨a,by simp,ha⟩)]
   ·rw[yaa (by simp[ha]),zAX hl hs d (l1++l2) (by simp only[List.length_append,List.length_cons] at h ⊢; omega) fun p hp=>hm p (by
     rcases yaL.1 hp with h | h
     ·exact yaR _ h
     ·exact yaZ _ (yag _ h))]
    refine congrArg some (decide_eq_decide.2 ⟨fun⟨p,hp,h2⟩=>⟨p,?_,h2⟩,fun⟨p,hp,h2⟩=>⟨p,?_,h2⟩⟩)
    ·rcases yaL.1 hp with h | h
     ·exact yaR _ h
     ·exact yaZ _ (yag _ h)
    ·rcases yaL.1 hp with h | h
     ·exact yaR _ h
     ·rcases yal.1 h with h | h
      ·exact absurd (h ▸ h2) ha
      ·exact yaZ _ h
  ·subst hr; simp
theorem zAY{c:Cs}{L:List Dm}(hL:∀d∈L,zzM d){l:List Clm}(hl:zz5 l)(hs:zrK l):zuC (zAM c L) l=some (decide (zAW L l)):=by
 unfold zuC;obtain⟨a,h0⟩:=zAU (c:=c) hL;refine zrl h0 fun ks hk=>?_;rw[zAX hl hs _ ks (by omega) fun p hp=>((hk.2 p).1 hp).2];have h2:=((zAS hL ks).1 hk).2;refine congrArg some (decide_eq_decide.2 ⟨fun⟨p,hp,h⟩=>?_,fun⟨d,hd,h⟩=>⟨zzQ d,(h2 _).2 ⟨d,hd,rfl⟩,h⟩⟩);obtain⟨d,hd,rfl⟩:=(h2 p).1 hp;exact⟨d,hd,h⟩
def zAZ(S:Int->Prop)(x:Int):Prop:=S x/\∀y,S y->x<=y
def zA0(S:Int->Prop)(x:Int):Prop:=S x/\∀y,S y->y<=x
theorem zA1{S:Int->Prop}{x y:Int}(h:zAZ S x)(h':zAZ S y):x=y:=Int.le_antisymm (h.2 _ h'.1) (h'.2 _ h.1)
theorem zA2{S:Int->Prop}{x y:Int}(h:zA0 S x)(h':zA0 S y):x=y:=Int.le_antisymm (h'.2 _ h.1) (h.2 _ h'.1)
theorem zA3{l:List Int}(h:l ≠ [])(hl:l.length<=1048577):zuK l=some (zrN l):=by
 unfold zuK
 cases l with
 | nil=>exact absurd rfl h
 | cons x l=>
  rw[yaa (by rw[yaE]; omega),zrC rfl,obs];refine(zrM (l:=x::l) (fun s a=>min s a) (fun d s k=>zuJ (x::l) d s k) (fun s=>some s) (fun d k s a hk=>?_) (fun d s=>?_) _ 0 x (yam _) (by omega)).trans ?_
  ·have i:=(yah.1 hk).1
   show zuJ (x::l) (d+1) s (k:Int)=_
   rw[zuJ,yab (by omega),zrB hk,obs]
   by_cases hc:a < s
   ·rw[yab hc,zqj (fI (by omega)),ybT (by omega)]
   ·rw[yaa hc,zqj (fI (by omega)),ybS (by omega)]
  ·show zuJ (x::l) (d+1) s _=_
   rw[zuJ,yaa (yaJ _)]
  ·rw[yau]
   show some (l.foldl min (min x x))=_
   rw[Int.min_self]; rfl
theorem zA4{l:List Int}(h:l ≠ [])(hl:l.length<=1048577):zuM l=some (zrO l):=by
 unfold zuM
 cases l with
 | nil=>exact absurd rfl h
 | cons x l=>
  rw[yaa (by rw[yaE]; omega),zrC rfl,obs];refine(zrM (l:=x::l) (fun s a=>max s a) (fun d s k=>zuL (x::l) d s k) (fun s=>some s) (fun d k s a hk=>?_) (fun d s=>?_) _ 1 x (by rw[yaE]; omega) (by rw[yaE]; omega)).trans ?_
  ·have i:=(yah.1 hk).1
   show zuL (x::l) (d+1) s (k:Int)=_
   rw[zuL,yab (by omega),zrB hk,obs,zqj (fI (by omega))]
  ·show zuL (x::l) (d+1) s _=_
   rw[zuL,yaa (yaJ _)]
  ·rfl
def zA5(L:List Dm)(l:List Clm)(g:Dm->Int)(y:Int):Prop:=∃d∈L,zz4 (zzQ d) l/\g d=y
theorem zA6{w:Wd}{q:Qu}{s:Int}{g:Dm->Int}{lo hi:Int}(hl:zz5 w.c.Claims)(hs:zrK w.c.Claims):∀(d:Nat) (rem:List Dm) (acc:List Int),rem.length < d->acc.length+rem.length<=1048576->(∀x∈rem,zqC w.settled x=some (zzQ x)/\q.ask { d:=x,pays:=zzQ x } s=some (g x)) ->
  zAZ (fun y=>y∈acc\/zA5 rem w.c.Claims g y) lo->zA0 (fun y=>y∈acc\/zA5 rem w.c.Claims g y) hi->pboundsW_L0 w q s d acc rem=some { Lo:=lo,Hi:=hi }
 | 0,_,_,h,_,_,_,_=>by omega
 | d+1,rem,acc,h,I,hm,h1,h2=>by
  unfold pboundsW_L0;refine zrp (fun l1 a l2 hr=>?_) fun hr=>?_
  ·subst hr
   have A:∀x,x∈l1++l2->x∈l1++a::l2:=fun x hx=>by
    rcases yaL.1 hx with h | h
    ·exact yaR _ h
    ·exact yaZ _ (yag _ h)
   have J:∀x,x∈l1++a::l2↔x=a\/x∈l1++l2:=fun x=>by simp only[List.mem_append,List.mem_cons]; constructor <;> (intro h; rcases h with h | h | h <;> simp[h])
   obtain⟨k1,k2⟩:=hm a (by simp)
   have N:(l1++l2).length+1=(l1++a::l2).length:=by simp only[List.length_append,List.length_cons]; omega
   rw[k1,obs,zz9 hl hs,obs]
   by_cases ha:zz4 (zzQ a) w.c.Claims
   ·rw[yab (decide_eq_true ha),k2,obs,zqj (by omega)]
    have u:(fun y=>y∈acc++[g a]\/zA5 (l1++l2) w.c.Claims g y)=fun y=>y∈acc\/zA5 (l1++a::l2) w.c.Claims g y:=funext fun y=>propext ⟨fun hy=>by
     rcases hy with hy | ⟨x,hx,i⟩
     ·rcases yaL.1 hy with hy | hy
      ·exact .inl hy
      ·exact .inr ⟨a,by simp,ha,(yaP.1 hy).symm⟩
     ·exact .inr ⟨x,A x hx,i⟩,fun hy=>by
     rcases hy with hy | ⟨x,hx,i,F⟩
     ·exact .inl (yaR _ hy)
     ·rcases (J x).1 hx with rfl | hx
      ·exact .inl (yaZ _ (by rw[F]; exact yae ..))
      ·exact .inr ⟨x,hx,i,F⟩⟩
    exact zA6 hl hs d (l1++l2) _ (by omega) (by rw[yai,ybF]; omega) (fun x hx=>hm x (A x hx)) (by rw[u]; exact h1) (by rw[u]; exact h2)
   ·rw[yaa (by simp[ha])]
    have u:(fun y=>y∈acc\/zA5 (l1++l2) w.c.Claims g y)=fun y=>y∈acc\/zA5 (l1++a::l2) w.c.Claims g y:=funext fun y=>propext ⟨fun hy=>hy.imp id fun⟨x,hx,i⟩=>⟨x,A x hx,i⟩,fun hy=>by
     rcases hy with hy | ⟨x,hx,i,F⟩
     ·exact .inl hy
     ·rcases (J x).1 hx with rfl | hx
      ·exact absurd i ha
      ·exact .inr ⟨x,hx,i,F⟩⟩
    exact zA6 hl hs d (l1++l2) acc (by omega) (by omega) (fun x hx=>hm x (A x hx)) (by rw[u]; exact h1) (by rw[u]; exact h2)
  ·subst hr;have D:∀y,(y∈acc\/zA5 [] w.c.Claims g y)↔y∈acc:=fun y=>⟨fun h=>h.elim id (fun⟨x,hx,_⟩=>(by cases hx)),.inl⟩
   have G:acc ≠ []:=fun he=>by have:=(D _).1 h1.1; rw[he] at this; cases this
   have m1:=zrR G;have m2:=zrS G;have e1:zrN acc=lo:=zA1 ⟨(D _).2 m1.1,fun y hy=>m1.2 y ((D y).1 hy)⟩ h1;have e2:zrO acc=hi:=zA2 ⟨(D _).2 m2.1,fun y hy=>m2.2 y ((D y).1 hy)⟩ h2;rw[zA3 G (by simp only[List.length_nil] at I; omega),obs,zA4 G (by simp only[List.length_nil] at I; omega),obs,e1,e2]
theorem zA7{c:Cs}{L:List Dm}(hL:∀d∈L,zzM d)(hn:L.length<=1048576)(hl:zz5 c.Claims)(hs:zrK c.Claims){q:Qu}{s:Int}{g:Dm->Int}(hq:∀d∈L,q.ask { d:=d,pays:=zzQ d } s=some (g d)){lo hi:Int}(h1:zAZ (zA5 L c.Claims g) lo)(h2:zA0 (zA5 L c.Claims g) hi):zuQ (zAM c L) q s=some { Lo:=lo,Hi:=hi }:=by
 unfold zuQ;obtain⟨A,h0⟩:=zAT (c:=c) hL;refine zrl h0 fun ks hk=>?_;obtain⟨i,h3⟩:=(zAR hL ks).1 hk;have u:ks.length<=L.length:=zAQ i fun x hx=>(h3 x).1 hx;have a:(fun y=>y∈([]:List Int)\/zA5 ks c.Claims g y)=zA5 L c.Claims g:=funext fun y=>propext ⟨fun h=>h.elim (fun h=>by cases h) fun⟨d,hd,h⟩=>⟨d,(h3 d).1 hd,h⟩,fun⟨d,hd,h⟩=>.inr ⟨d,(h3 d).2 hd,h⟩⟩;refine zA6 (w:=zAM c L) (g:=g) hl hs _ ks [] (by omega) (by simp only[List.length_nil]; omega) (fun x hx=>⟨?_,hq x ((h3 x).1 hx)⟩) (by show zAZ (fun y=>y∈([]:List Int)\/zA5 ks c.Claims g y) lo; rw[a]; exact h1) (by show zA0 (fun y=>y∈([]:List Int)\/zA5 ks c.Claims g y) hi; rw[a]; exact h2)
 show zqC (SM (·∈L)) x=_
 rw[zAI,yab ((h3 x).1 hx)]
end
end Go.Proofs.YtpjnfiegpjlfgaaGreat

namespace Go.Proofs.YtpjnfiegpjlfgaaGreat
open _root_.Go.Proofs.Tryz
open Go.Abs
set_option maxRecDepth 100000
noncomputable section
structure zA8 (c:Cs) (E:Tr->Option Hd):Prop where
 e:zAw c E
 chk:zt9 c=some 0
 n:(zAv c E).length<=100000
def zA9(c:Cs)(E:Tr->Option Hd):List Dm:=(zAv c E).map (·.2)
def wd0:Wd:={ c:=({ Book:=({ Last:=0,Owners:=0,Parcels:=[],Entries:=[] }:Boo),Societies:=0,Day:=0,Parcel:=0,Covers:=[],Loss:=({ Lo:=0,Hi:=(0:Int) }:Rg),Claims:=[] }:Cs),settled:=none,paid:=none }
theorem zBa{n l:Int}:Ev (ztE n l) (0<=n/\n<=l):=Ev.ite fun _=>Ev.dec Iff.rfl
theorem zBb{c:Cs}{n:Int}(h:1<=c.Societies/\c.Societies<=3):Ev (ztH c n) (0<=n/\n<=c.Societies - 1):=Ev.gd (fI (by omega)) zBa.ret
theorem gI{l:List Int}{p:Int->Option Bool}:∀{d:Nat} {x:Int},ztY l p d x=gIdx l p d x
 | 0,_=>rfl
 | d+1,x=>by unfold ztY gIdx; simp only[gI]
theorem zBc{l:List Int}{p:Int->Option Bool}{q:Int->Prop}(hp:∀a∈l,Ev (p a) (q a))(hl:zrK l):Ev (zt1 l p) (∀a∈l,q a):=Ev.each hp hl.lt gI
section
variable {c:Cs} {E:Tr->Option Hd}
theorem zBd(h:zA8 c E):∀d∈zA9 c E,zzM d:=fun d hd=>by
 obtain⟨x,hx,rfl⟩:=yaq.1 hd;exact zAD h.e hx
theorem zBe(h:zA8 c E):(zA9 c E).length<=100000:=by unfold zA9; rw[yas]; exact h.n
theorem zBf(h:zA8 c E){asked:List Int}(hl:zrK asked)(ha:∀s∈asked,0<=s/\s<=c.Societies - 1):zuB c asked=some (if zA9 c E=[] then (wd0,9) else (zAM c (zA9 c E),0)):=by
 unfold zuB;rw[h.chk,obs,yab rfl];refine(zBc (q:=fun s=>0<=s/\s<=c.Societies - 1) (fun s _=>zBb h.e.soc) hl).pick (fun _=>?_) fun hq=>absurd ha hq;rw[yab rfl,zAO h.e,obs]
 show(if ((zrq (zAM c (zA9 c E)).settled:Nat):Int)=0 then _ else _)=_
 by_cases h0:zA9 c E=[]
 ·rw[yab ((zAV (zBd h)).2 h0),yab h0]; rfl
 ·rw[yaa fun h1=>h0 ((zAV (zBd h)).1 h1),yaa h0]; rfl
theorem zBg(h:zA8 c E):zuB c []=some (if zA9 c E=[] then (wd0,9) else (zAM c (zA9 c E),0)):=zBf h (by show 0<=_; omega) fun s hs=>by cases hs
def noN(c:Cs)(E:Tr->Option Hd):Int:=if zA9 c E=[] then 9 else if zAW (zA9 c E) c.Claims then 0 else 11
theorem zBh:noN c E=0↔zAW (zA9 c E) c.Claims:=by
 unfold noN
 by_cases h:zA9 c E=[]
 ·rw[yab h,h];exact⟨fun h=>(by cases h),fun⟨d,hd,_⟩=>(by cases hd)⟩
 ·rw[yaa h]
  by_cases h2:zAW (zA9 c E) c.Claims
  ·rw[yab h2]; exact⟨fun _=>h2,fun _=>rfl⟩
  ·rw[yaa h2]; exact⟨fun h=>(by cases h),fun h=>absurd h h2⟩
theorem zBi(h:zA8 c E){asked:List Int}(hl:zrK asked)(ha:∀s∈asked,0<=s/\s<=c.Societies - 1):zuD c asked=some (if noN c E=0 then zAM c (zA9 c E) else wd0,noN c E):=by
 unfold zuD;rw[zBf h hl ha,obs];unfold noN
 by_cases h0:zA9 c E=[]
 ·rw[yab h0,yab h0,yaa (by dsimp only; omega),yaa (by omega)]; rfl
 ·rw[yaa h0,yaa h0,yab rfl]
  show(zuC (zAM c (zA9 c E)) c.Claims).bind _=_
  rw[zAY (zBd h) h.e.clm (zrL h.e.few (by omega)),obs]
  by_cases h2:zAW (zA9 c E) c.Claims
  ·rw[yab (decide_eq_true h2),yab h2,yab rfl]
  ·rw[yaa (by simp[h2]),yaa h2,yaa (by omega)]; rfl
theorem zBj(h:zA8 c E):zuD c []=some (if noN c E=0 then zAM c (zA9 c E) else wd0,noN c E):=zBi h (by show 0<=_; omega) fun s hs=>by cases hs
def zBk(L:List Dm)(l:List Clm)(g:Dm->Int):List Int:=(L.filter fun d=>decide (zz4 (zzQ d) l)).map g
theorem zBl{L:List Dm}{l:List Clm}{g:Dm->Int}(h:zAW L l):zBk L l g ≠ []:=fun he=>by
 obtain⟨d,hd,h2⟩:=h;have:g d∈zBk L l g:=yaq.2 ⟨d,ybA.2 ⟨hd,decide_eq_true h2⟩,rfl⟩
 rw[he] at this; cases this
theorem zBm{L:List Dm}{l:List Clm}{g:Dm->Int}{y:Int}:y∈zBk L l g↔zA5 L l g y:=by
 unfold zBk zA5;rw[yaq]
 exact exists_congr fun d=>by rw[ybA,decide_eq_true_iff,and_assoc]
def bdN(L:List Dm)(l:List Clm)(g:Dm->Int):Rg:={ Lo:=zrN (zBk L l g),Hi:=zrO (zBk L l g) }
theorem zBn{L:List Dm}{l:List Clm}{g:Dm->Int}(h:zAW L l):zAZ (zA5 L l g) (bdN L l g).Lo:=by
 obtain⟨h1,h2⟩:=zrR (zBl (g:=g) h);exact⟨zBm.1 h1,fun y hy=>h2 y (zBm.2 hy)⟩
theorem zBo{L:List Dm}{l:List Clm}{g:Dm->Int}(h:zAW L l):zA0 (zA5 L l g) (bdN L l g).Hi:=by
 obtain⟨h1,h2⟩:=zrS (zBl (g:=g) h);exact⟨zBm.1 h1,fun y hy=>h2 y (zBm.2 hy)⟩
theorem zBp(h:zA8 c E)(hc:zAW (zA9 c E) c.Claims){q:Qu}{s:Int}{g:Dm->Int}(hq:∀d∈zA9 c E,q.ask { d:=d,pays:=zzQ d } s=some (g d)):zuQ (zAM c (zA9 c E)) q s=some (bdN (zA9 c E) c.Claims g):=
 zA7 (zBd h) (by have:=zBe h; omega) h.e.clm (zrL h.e.few (by omega)) hq (zBn hc) (zBo hc)
def zBq(s:Int)(d:Dm):Int:=zz0 (zzQ d) s
def zBr(s:Int)(d:Dm):Int:=min (zz0 d.sums s) d.amount - zz0 (zzQ d) s
def zBs(n:Nat)(d:Dm):Int:=up3 (zzQ d) n
theorem zBt{d:Dm}{s:Int}(hs:zz1 s):zuN { d:=d,pays:=zzQ d } s=some (zBq s d):=by
 unfold zuN;rw[show idx _ s=_ from zz2 (p:=zzQ d) hs]; rfl
theorem zBu{p:P3}(h:zzL p)(s:Int):0<=zz0 p s/\zz0 p s<=1000000:=by
 unfold zzL at h;unfold zz0
 repeat' split
 all_goals omega
theorem zBv{d:Dm}(hd:zzM d){s:Int}(hs:zz1 s):zuP { d:=d,pays:=zzQ d } s=some (zBr s d):=by
 have h1:=zBu (zzV hd).1 s;have h2:=zBu hd.2 s;have h3:=hd.1;unfold zuP;rw[show idx ([d.sums.p0,d.sums.p1,d.sums.p2]:List Int) s=_ from zz2 hs,obs,show idx _ s=_ from zz2 (p:=zzQ d) hs,obs,zqj (fI (by dsimp only; omega))]; rfl
theorem zBw{d:Dm}(hd:zzM d){s:Int}{n:Nat}(hs:s+1=(n:Int))(hn:n<=3):zuO { d:=d,pays:=zzQ d } s=some (zBs n d):=by
 unfold zuO;rw[show zud _ s=_ from zzP (zzV hd).1 hs hn]; rfl
def zBx(c:Cs)(E:Tr->Option Hd)(s:Int):Bd:={ Pays:=bdN (zA9 c E) c.Claims (zBq s),Refund:=bdN (zA9 c E) c.Claims (zBr s) }
theorem zBy(h:zA8 c E):zuS c=some (if noN c E=0 then (segI 0 c.Societies.toNat).map (zBx c E) else [],noN c E):=by
 unfold zuS;rw[zBj h,obs]
 dsimp only
 by_cases h0:noN c E=0
 ·rw[yab h0,yab h0,h0];have hc:=zBh.1 h0;have s:=h.e.soc
  have hl:((segI 0 c.Societies.toNat).length:Int)=c.Societies:=by rw[zrU]; omega
  refine(zrG (l:=segI 0 c.Societies.toNat) (zBx c E) (F:=fun d acc x=>zuR c (zAM c (zA9 c E),0) d acc x) (fun acc=>some (acc,0)) (fun d k acc a hk ha=>?_) (fun d acc=>?_) (d:=Int.toNat c.Societies+1) (by rw[zrU]; omega)).trans rfl
  ·have i:=(yah.1 hk).1;rw[zrU] at i
   have q:a=(k:Int):=by rw[zrV i] at hk; have:=oi hk; omega
   subst q
   have hs:zz1 (k:Int):=by unfold zz1; omega
   show zuR c (zAM c (zA9 c E),0) (d+1) acc (k:Int)=_
   rw[zuR,yab (by omega),zBp h hc (g:=zBq k) (fun d _=>zBt hs),obs,zBp h hc (g:=zBr k) (fun d hd=>zBv (zBd h d hd) hs),obs,zqj (by omega),zqj (fI (by omega))]; rfl
  ·show zuR c (zAM c (zA9 c E),0) (d+1) acc _=_
   rw[zuR,yaa (by omega)]
 ·rw[yaa h0,yaa h0]
theorem zBz(h:zA8 c E):zuT c=some (if noN c E=0 then bdN (zA9 c E) c.Claims (zBs c.Societies.toNat) else { Lo:=0,Hi:=0 },noN c E):=by
 unfold zuT;rw[zBj h,obs]
 dsimp only
 by_cases h0:noN c E=0
 ·have a:=h.e.soc;rw[yab h0,yab h0,h0,zqj (fI (by omega))];rw[zBp h (zBh.1 h0) (g:=zBs c.Societies.toNat) (fun d hd=>zBw (zBd h d hd) (by omega) (by omega)),obs,yab rfl]
 ·rw[yaa h0,yaa h0]
def zBA(L:List Dm)(l:List Clm):Nat->Nat->Int × Int
 | 0,_=>(0,7)
 | d+1,n=>if zAW L (l.take (n+1)) then zBA L l d (n+1) else ((n:Int),0)
theorem zBB{l:List Clm}(h:zz5 l)(n:Nat):zz5 (l.take n):=fun x hx=>h x (List.mem_of_mem_take hx)
theorem zBC(h:zA8 c E):∀(d k:Nat),k+d=c.Claims.length->zuU (zAM c (zA9 c E),0) (d+1) (k:Int)=some (zBA (zA9 c E) c.Claims d k)
 | 0,k,hk=>by
  rw[zuU]
  show(if (k:Int) < (c.Claims.length:Int) then _ else _)=_
  rw[yaa (by omega)]; rfl
 | d+1,k,hk=>by
  have hf:=h.e.few;rw[zuU]
  show(if (k:Int) < (c.Claims.length:Int) then gd _ (gd _ ((zuC (zAM c (zA9 c E)) ((c.Claims.take (Int.toNat ((k:Int)+1))).drop (Int.toNat 0))).bind _)) else _)=_
  rw[yab (by omega),zqj (fI (by omega)),zqj (by show 0<=(0:Int)/\(0:Int)<=_/\(k:Int)+1<=(c.Claims.length:Int); omega)];have e1:(c.Claims.take (Int.toNat ((k:Int)+1))).drop (Int.toNat 0)=c.Claims.take (k+1):=rfl;rw[e1,zAY (zBd h) (zBB h.e.clm _) (zrL (n:=20) (by rw[yap]; omega) (by omega)),obs,zBA]
  by_cases hc:zAW (zA9 c E) (c.Claims.take (k+1))
  ·rw[yab (decide_eq_true hc),yab hc,zqj (fI (by omega)),show(k:Int)+1=((k+1:Nat):Int) by omega];exact zBC h d (k+1) (by omega)
  ·rw[yaa (by simp[hc]),yaa hc]
theorem zBD(h:zA8 c E):zuV c=some (if zA9 c E=[] then (0,9) else zBA (zA9 c E) c.Claims c.Claims.length 0):=by
 unfold zuV;rw[zBg h,obs]
 by_cases h0:zA9 c E=[]
 ·rw[yab h0,yab h0,yaa (by dsimp only; omega)]
 ·rw[yaa h0,yaa h0,yab rfl];exact zBC h c.Claims.length 0 (by omega)
def woN(D:List Int):List Clm->Nat->List Clm
 | [],_=>[]
 | x::l,i=>if (i:Int)∈D then woN D l (i+1) else x::woN D l (i+1)
theorem zBE{l:List Int}{v:Int}(hl:l.length<=100000):zuG l v=some (decide (v∈l)):=by
 have key:∀(d k:Nat),k<=l.length->l.length - k < d->∃r,zuE l v d (k:Int)=some r/\(0<=r↔v∈l.drop k):=by
  intro d
  induction d with
  | zero=>intro k _ h; omega
  | succ d ih=>
   intro k hk h;rw[zuE]
   by_cases a:k < l.length
   ·have hg:=yak a;rw[yab (by omega),zrB hg,obs,yat a]
    by_cases hv:v=l[k]
    ·rw[yab hv]; exact⟨_,rfl,⟨fun _=>by rw[hv]; exact yae ..,fun _=>by omega⟩⟩
    ·rw[yaa hv,zqj (fI (by omega)),show(k:Int)+1=((k+1:Nat):Int) by omega];obtain⟨r,h1,h2⟩:=ih (k+1) (by omega) (by omega);exact⟨r,h1,h2.trans ⟨fun h=>yag _ h,fun h=>(yal.1 h).resolve_left hv⟩⟩
   ·rw[yaa (by omega),yax (by omega)];exact⟨_,rfl,⟨fun h=>by omega,fun h=>by cases h⟩⟩
 obtain⟨r,h1,h2⟩:=key (l.length+1) 0 (yam _) (by omega);have h1:zuE l v (l.length+1) 0=some r:=h1;unfold zuG zuF;rw[h1,obs];exact congrArg some (decide_eq_decide.2 h2)
theorem zBF{w:Wd}{D:List Int}(hD:D.length<=100000)(hl:w.c.Claims.length<=1000):zuI w D=some (woN D w.c.Claims 0):=by
 have key:∀(d k:Nat) (acc:List Clm),k<=w.c.Claims.length->w.c.Claims.length - k < d->acc.length<=k->zuH w D d acc (k:Int)=some (acc++woN D (w.c.Claims.drop k) k):=by
  intro d
  induction d with
  | zero=>intro k _ _ h; omega
  | succ d ih=>
   intro k acc hk h ha;rw[zuH]
   by_cases a:k < w.c.Claims.length
   ·have hg:=yak a;rw[yab (by omega),zrB hg,obs,zBE hD,obs,yat a,woN]
    by_cases hv:(k:Int)∈D
    ·rw[yab (decide_eq_true hv),yab hv,zqj (fI (by omega)),show(k:Int)+1=((k+1:Nat):Int) by omega,ih (k+1) acc (by omega) (by omega) (by omega)]
    ·rw[yaa (by simp[hv]),yaa hv,zqj (by omega),zqj (fI (by omega)),show(k:Int)+1=((k+1:Nat):Int) by omega,ih (k+1) _ (by omega) (by omega) (by rw[yai,ybF]; omega),yav]; rfl
   ·rw[yaa (by omega),yax (by omega),woN,yaK]
 exact key _ 0 [] (yam _) (by omega) (yam _)
theorem zBG{D:List Int}:∀{l:List Clm} {i:Nat} {x:Clm},x∈woN D l i->x∈l
 | [],_,_,h=>h
 | y::l,i,x,h=>by
  rw[woN] at h
  split at h
  ·exact yag _ (zBG h)
  ·rcases yal.1 h with h | h
   ·rw[h]; exact yae ..
   ·exact yag _ (zBG h)
theorem zBH{D:List Int}:∀{l:List Clm} {i:Nat},(woN D l i).length<=l.length
 | [],_=>yac _
 | y::l,i=>by
  rw[woN]
  split
  ·exact yad zBH (by rw[yaE]; omega)
  ·rw[yaE,yaE]; have:=zBH (D:=D) (l:=l) (i:=i+1); omega
theorem zBI(h:zA8 c E){D:List Int}(hD:D.length<=100000):zuW D (zAM c (zA9 c E))=some (decide (zAW (zA9 c E) (woN D c.Claims 0))):=by
 unfold zuW;rw[zBF hD (by have:=h.e.few; show c.Claims.length<=1000; omega),obs]
 show(zuC (zAM c (zA9 c E)) (woN D c.Claims 0)).bind _=_
 rw[zAY (zBd h) (fun x hx=>h.e.clm x (zBG hx)) (zrL (n:=20) (yad zBH h.e.few) (by omega))]; rfl
theorem zBJ(h:zA8 c E):zuX c=some (if zA9 c E=[] then ([],9) else (zrw c.Claims.length fun D=>decide (zAW (zA9 c E) (woN D c.Claims 0)),0)):=by
 unfold zuX;rw[zBg h,obs]
 by_cases h0:zA9 c E=[]
 ·rw[yab h0,yab h0,yaa (by dsimp only; omega)]
 ·rw[yaa h0,yaa h0,yab rfl];have hf:=h.e.few
  have i:∀D∈zoa c.Claims.length,D.length<=100000:=fun D hD=>by have:=zzY (zzZ.1 hD); omega
  show(zrx (c.Claims.length:Int) fun D=>zuW D (zAM c (zA9 c E))).bind _=_
  unfold zrx
  rw[zqj ⟨by omega,by omega,fun D hD=>by
   show(zuW D (zAM c (zA9 c E))).isSome=true
   rw[zBI h (i D (by rw[ya3] at hD; exact hD))]; rfl⟩,obs,ya3]
  refine congrArg some (congrArg (fun l=>(l,(0:Int))) ?_);unfold zrw
  have e:∀(l:List (List Int)),(∀D∈l,D.length<=100000)->l.find? (fun D=>(zuW D (zAM c (zA9 c E))).getD false)=l.find? (fun D=>decide (zAW (zA9 c E) (woN D c.Claims 0))):=by
   intro l hl
   induction l with
   | nil=>rfl
   | cons a l ih=>
    rw[yb3,yb3,zBI h (hl a (yae ..)),ih fun D hD=>hl D (yag _ hD)]; rfl
  rw[e _ i]
theorem zBK(h:zA8 c E){t:Dt}(hf:zum c t=some true)(he:∀e,E t.Book=some e->0<=e.Value/\e.Value<=10000)(hE:zun c t.Book=some (match E t.Book with | some h=>(h,0) | none=>(hd0,11)))(hs:c.Covers.length<=t.Starts.length)(hx:0<=t.Loss/\t.Loss<=100) :
  zur c t=some (match E t.Book with | some e=>if zz4 (zzQ (zAd c e t.Starts t.Loss)) c.Claims then ((([(zzQ (zAd c e t.Starts t.Loss)).p0,(zzQ (zAd c e t.Starts t.Loss)).p1,(zzQ (zAd c e t.Starts t.Loss)).p2]:List Int).take c.Societies.toNat),(zAd c e t.Starts t.Loss).amount,0) else ([],0,11) | none=>([],0,11)):=by
 unfold zur;rw[h.chk,obs,yab rfl,hf,obs,yab rfl,hE,obs]
 cases a:E t.Book with
 | none=>dsimp only; rw[if_neg (by omega)]
 | some e=>
  have hd:=zAh (c:=c) (e:=e) (ss:=t.Starts) (loss:=t.Loss) h.e.cov (by have:=h.e.len; omega) (he e a) hx
  dsimp only
  rw[yab rfl,zAj h.e.cov (by have:=h.e.len; omega) hs (he e a) hx,obs,zzU hd,obs,zz9 h.e.clm (zrL h.e.few (by omega)),obs]
  by_cases hc:zz4 (zzQ (zAd c e t.Starts t.Loss)) c.Claims
  ·have i:=h.e.soc;rw[yab (decide_eq_true hc),yab hc];have:=zzW (p:=zzQ (zAd c e t.Starts t.Loss)) (n:=c.Societies.toNat) (by omega);rw[show((c.Societies.toNat:Nat):Int)=c.Societies by omega] at this;rw[this]; rfl
  ·rw[yaa (by simp[hc]),yaa hc]
end
end
end Go.Proofs.YtpjnfiegpjlfgaaGreat

namespace Go.Proofs.YtpjnfiegpjlfgaaGreat
open _root_.Go.Proofs.Tryz
open Go.Abs
set_option maxRecDepth 100000
noncomputable section
def zBL(l:List En):Int:=((l.filter fun e=>decide (e.Kind=1)).length:Int)
def zBM(b:Boo):Int:=(b.Parcels.length:Int)+zBL b.Entries
def zBN(b:Boo)(r:Rg):Prop:=0<=r.Lo/\r.Lo<=r.Hi/\r.Hi<=b.Last
def InN(n lo hi:Int):Prop:=lo<=n/\n<=hi
def zgl(b:Boo)(e:En):Prop:=
 (e.Kind=0/\InN e.From 0 (b.Owners - 1)/\InN e.To 0 (b.Owners - 1)/\e.From ≠ e.To/\e.Part=0/\e.Other=0) \/
 (e.Kind=1/\e.From=0/\e.To=0/\e.Other=0/\InN e.Part 1 1000) \/
 (e.Kind=2/\e.From=0/\e.To=0/\e.Part=0/\InN e.Other 0 (zBM b - 1)/\e.Other ≠ e.Parcel) \/
 (e.Kind=3/\e.From=0/\e.To=0/\e.Part=0/\e.Other=0)
def zBO(b:Boo)(e:En):Prop:=zBN b e.Day/\InN e.Parcel 0 (zBM b - 1)/\zgl b e
def zBP(b:Boo)(p:Pc):Prop:=InN p.Owner 0 (b.Owners - 1)/\InN p.Value 0 1000/\zBN b p.Sown
theorem zBQ{l:List En}:0<=zBL l/\zBL l<=l.length:=by
 unfold zBL;have:=List.length_filter_le (fun e:En=>decide (e.Kind=1)) l
 omega
theorem zBR{n lo hi:Int}:Ev (zsp n lo hi) (InN n lo hi):=Ev.ite fun _=>Ev.dec Iff.rfl
theorem zBS{b:Boo}{r:Rg}:Ev (zsq b r) (zBN b r):=Ev.ite fun _=>Ev.ite fun _=>Ev.dec Iff.rfl
theorem zBT{b:Boo}{n:Int}(hl:b.Entries.length<=100){m:Nat}(hm:n=(m:Int))(i:m<=b.Entries.length)(hp:b.Parcels.length<=100):∀(d k:Nat),k<=m->m - k < d->prNumbers_L0 b n d ((b.Parcels.length:Int)+zBL (b.Entries.take k)) (k:Int)=some ((b.Parcels.length:Int)+zBL (b.Entries.take m))
 | 0,_,_,h=>by omega
 | d+1,k,hk,h=>by
  unfold prNumbers_L0
  by_cases q:k=m
  ·subst q;rw[yaa (by omega)]
  ·have s:k < b.Entries.length:=by omega
   have hg:=yak s
   have a:zBL (b.Entries.take (k+1))=zBL (b.Entries.take k)+if b.Entries[k].Kind=1 then 1 else 0:=by
    rw[ybx,hg];unfold zBL;rw[ycr,yai]
    by_cases h1:b.Entries[k].Kind=1
    ·rw[yab h1]; simp[h1]
    ·rw[yaa h1]; simp[h1]
   have hr:=zBQ (l:=b.Entries.take k)
   have:(b.Entries.take k).length<=100:=by rw[yap]; omega
   have ih:=zBT hl hm i hp d (k+1) (by omega) (by omega);rw[yab (by omega),zrB hg,obs]
   by_cases h1:b.Entries[k].Kind=1
   ·rw[yab h1] at a;rw[yab h1,zqj (fI (by omega)),zqj (fI (by omega)),show(k:Int)+1=((k+1:Nat):Int) by omega,Int.add_assoc,<- a];exact ih
   ·rw[yaa h1,ycc] at a;rw[yaa h1,zqj (fI (by omega)),show(k:Int)+1=((k+1:Nat):Int) by omega,<- a];exact ih
theorem zBU{b:Boo}(hl:b.Entries.length<=100)(hp:b.Parcels.length<=100):zss b=some (zBM b):=by
 unfold zss zsr;have:=zBT hl rfl (yac _) hp (b.Entries.length+1) 0 (yam _) (by omega);rw[ybc] at this;rw[ya3];have h0:zBL (b.Entries.take 0)=0:=rfl;rw[h0,ycc] at this;rw[show((0:Nat):Int)=0 from rfl] at this;rw[this]; rfl
theorem zBV{b:Boo}(hl:b.Entries.length<=100)(hp:b.Parcels.length<=100):0<=zBM b/\zBM b<=200:=by
 have:=zBQ (l:=b.Entries);unfold zBM; omega
theorem zBW{b:Boo}{e:En}(hl:b.Entries.length<=100)(hp:b.Parcels.length<=100)(ho:1<=b.Owners/\b.Owners<=4):Ev (zst b e) (zBO b e):=by
 have hr:=zBV hl hp;unfold zst;refine(zBS.and (K:=InN e.Parcel 0 (zBM b - 1)/\zgl b e) fun _=>Ev.bind (zBU hl hp) (Ev.gd (fI (by omega)) (zBR.and fun a=>?_)));unfold zgl
 by_cases h0:e.From=0
 ·rw[yab h0]
  by_cases k0:e.Kind=0
  ·rw[yab k0];refine(Ev.gd (fI (by omega)) (zBR.and fun _=>Ev.gd (fI (by omega)) (zBR.and fun _=>Ev.itn fun _=>Ev.ite fun _=>Ev.dec Iff.rfl))).imp ?_
   simp[k0,and_assoc]
  ·rw[yaa k0]
   by_cases k1:e.Kind=1
   ·rw[yab k1];refine(Ev.ite fun _=>Ev.ite fun _=>zBR.ret).imp ?_
    simp[k1,h0]
   ·rw[yaa k1]
    by_cases k2:e.Kind=2
    ·rw[yab k2];refine(Ev.ite fun _=>Ev.ite fun _=>Ev.bind (zBU hl hp) (Ev.gd (fI (by omega)) (zBR.and (K:=¬ e.Other=e.Parcel) fun _=>Ev.mk' (by simp)))).imp ?_
     simp[k2,h0]
    ·rw[yaa k2]
     by_cases k3:e.Kind=3
     ·rw[yab k3];refine(Ev.ite fun _=>Ev.ite fun _=>Ev.dec Iff.rfl).imp ?_
      simp[k3,h0]
     ·rw[yaa k3];exact Ev.ff (by simp[k0,k1,k2,k3])
 ·rw[yaa h0]
  by_cases k0:e.Kind=0
  ·rw[yab k0];refine(Ev.gd (fI (by omega)) (zBR.and fun _=>Ev.gd (fI (by omega)) (zBR.and fun _=>Ev.itn fun _=>Ev.ite fun _=>Ev.dec Iff.rfl))).imp ?_
   simp[k0,and_assoc]
  ·rw[yaa k0]
   repeat' split
   all_goals exact Ev.ff (by simp[k0,h0])
def zBX(x:Int)(l:List Rg):Int:=l.foldl (fun p r=>p * szR r) x
def zBY(C:Int)(x:Int)(l:List Rg):Int:=l.foldl (fun p r=>min C (p * szR r)) x
def zBZ(S:Int)(l:List Rg):Prop:=∀r∈l,1<=szR r/\szR r<=S
theorem zB0:∀{l:List Rg} {x:Int},zBX x l=x * zBX 1 l
 | [],x=>(Int.mul_one x).symm
 | r::l,x=>by
  show zBX (x * szR r) l=x * zBX (1 * szR r) l
  rw[zB0 (l:=l) (x:=x * szR r),zB0 (l:=l) (x:=1 * szR r),ybW,Int.mul_assoc]
theorem zB1{l:List Rg}{r:Rg}{x:Int}:zBX x (r::l)=zBX (x * szR r) l:=rfl
theorem zB2{l k:List Rg}{x:Int}:zBX x (l++k)=zBX (zBX x l) k:=by unfold zBX; rw[List.foldl_append]
theorem zB3{C:Int}{l k:List Rg}{x:Int}:zBY C x (l++k)=zBY C (zBY C x l) k:=by unfold zBY; rw[List.foldl_append]
theorem zB4{S:Int}:∀{l:List Rg},zBZ S l->1<=zBX 1 l
 | [],_=>by show(1:Int)<=1; omega
 | r::l,h=>by
  rw[zB1,ybW,zB0];have h1:=h r (yae ..);have h2:=zB4 fun r hr=>h r (yag _ hr);have:=ybX h1.1 h2 (by omega) (by omega)
  omega
theorem zB5{S C:Int}(hC:0<=C):∀{l:List Rg} {x:Int},zBZ S l->0<=x->x<=C->zBY C x l=min C (zBX x l)
 | [],x,_,_,hx=>(ybT hx).symm
 | r::l,x,h,h0,hx=>by
  have h1:=h r (yae ..);have hl:zBZ S l:=fun r hr=>h r (yag _ hr);have h2:=zB4 hl;have h3:0<=x * szR r:=ybu h0 (by omega)
  show zBY C (min C (x * szR r)) l=min C (zBX (x * szR r) l)
  rw[zB5 hC hl (by omega) (by omega)]
  by_cases h4:x * szR r<=C
  ·rw[ybT h4]
  ·rw[ybS (a:=C) (b:=x * szR r) (by omega),zB0 (x:=C),zB0 (x:=x * szR r)];have a1:C * 1<=C * zBX 1 l:=ybg h2 hC;have a2:(x * szR r) * 1<=(x * szR r) * zBX 1 l:=ybg h2 h3;rw[ybS (by omega),ybS (by omega)]
theorem zB6{C:Int}(hC:1<=C){S:Int}{l:List Rg}(h:zBZ S l){x:Int}(h0:1<=x)(hx:x<=C):1<=zBY C x l/\zBY C x l<=C:=by
 rw[zB5 (by omega) h (by omega) hx,zB0];have h2:=zB4 h;have a2:x * 1<=x * zBX 1 l:=ybg h2 (by omega)
 omega
theorem zB7{x s C S:Int}(hx:0<=x/\x<=C)(hs:1<=s/\s<=S)(hC:0<=C):0<=x * s/\x * s<=C * S:=⟨ybu hx.1 (by omega),ybX hx.2 hs.2 (by omega) hC⟩
theorem zB8{b:Boo}(hp:b.Parcels.length<=100)(hz:zBZ 100 (b.Parcels.map (·.Sown)))(hr:∀p∈b.Parcels,okR p.Sown):∀(d k:Nat) (x:Int),k<=b.Parcels.length->b.Parcels.length - k < d->1<=x->x<=2000->zsu b d x (k:Int)=some (zBY 2000 x ((b.Parcels.drop k).map (·.Sown)))
 | 0,_,_,_,h,_,_=>by omega
 | d+1,k,x,hk,h,h0,hx=>by
  rw[zsu]
  by_cases a:k < b.Parcels.length
  ·have hg:=yak a;have hm:=ya9 a;have hs:=hz _ (yaq.2 ⟨_,hm,rfl⟩);have ho:=hr _ hm;unfold okR at ho;have i:b.Parcels[k].Sown.Hi - b.Parcels[k].Sown.Lo+1=szR b.Parcels[k].Sown:=rfl;have q:=zB7 (C:=2000) ⟨by omega,hx⟩ hs (by omega);rw[yab (by omega),zrB hg,obs,obs,zqj (fI (by omega)),zqj (fI (by omega)),zqj (by omega),i,zqj (by omega),zqj (fI (by omega)),zqj (fI (by omega)),show(k:Int)+1=((k+1:Nat):Int) by omega];have h1:x * 1<=x * szR b.Parcels[k].Sown:=ybg hs.1 (by omega);rw[zB8 hp hz hr d (k+1) _ (by omega) (by omega) (by omega) (by omega),yat a]; rfl
  ·rw[yaa (by omega),yax (by omega)]; rfl
theorem zB9{b:Boo}(hp:b.Entries.length<=100)(hz:zBZ 100 (b.Entries.map (·.Day)))(hr:∀p∈b.Entries,okR p.Day):∀(d k:Nat) (x:Int),k<=b.Entries.length->b.Entries.length - k < d->1<=x->x<=2000->zsv b d x (k:Int)=zsu b 1000000 (zBY 2000 x ((b.Entries.drop k).map (·.Day))) 0
 | 0,_,_,_,h,_,_=>by omega
 | d+1,k,x,hk,h,h0,hx=>by
  rw[zsv]
  by_cases a:k < b.Entries.length
  ·have hg:=yak a;have hm:=ya9 a;have hs:=hz _ (yaq.2 ⟨_,hm,rfl⟩);have ho:=hr _ hm;unfold okR at ho;have i:b.Entries[k].Day.Hi - b.Entries[k].Day.Lo+1=szR b.Entries[k].Day:=rfl;have q:=zB7 (C:=2000) ⟨by omega,hx⟩ hs (by omega);rw[yab (by omega),zrB hg,obs,obs,zqj (fI (by omega)),zqj (fI (by omega)),zqj (by omega),i,zqj (by omega),zqj (fI (by omega)),zqj (fI (by omega)),show(k:Int)+1=((k+1:Nat):Int) by omega];have h1:x * 1<=x * szR b.Entries[k].Day:=ybg hs.1 (by omega);rw[zB9 hp hz hr d (k+1) _ (by omega) (by omega) (by omega) (by omega),yat a]; rfl
  ·rw[yaa (by omega),yax (by omega)]; rfl
def zCa(b:Boo):List Rg:=b.Entries.map (·.Day)++b.Parcels.map (·.Sown)
theorem zCb{b:Boo}(hL:b.Last<=30){r:Rg}(h:zBN b r):(1<=szR r/\szR r<=31)/\okR r:=by
 unfold zBN at h;unfold szR okR
 omega
theorem zCc{b:Boo}(hL:b.Last<=30)(hP:∀p∈b.Parcels,zBP b p)(hE:∀e∈b.Entries,zBO b e):zBZ 31 (zCa b)/\∀r∈zCa b,okR r:=by
 have key:∀r∈zCa b,zBN b r:=fun r hr=>by
  rcases yaL.1 hr with h | h
  ·obtain⟨e,he,rfl⟩:=yaq.1 h; exact(hE e he).1
  ·obtain⟨e,he,rfl⟩:=yaq.1 h; exact(hP e he).2.2
 exact⟨fun r hr=>(zCb hL (key r hr)).1,fun r hr=>(zCb hL (key r hr)).2⟩
theorem zBZ.mono{S T:Int}(h:S<=T){l k:List Rg}(hk:∀r∈k,r∈l)(hl:zBZ S l):zBZ T k:=fun r hr=>⟨(hl r (hk r hr)).1,by have:=(hl r (hk r hr)).2; omega⟩
theorem zCd{b:Boo}(h1:b.Entries.length<=100)(h2:b.Parcels.length<=100)(hL:b.Last<=30)(hP:∀p∈b.Parcels,zBP b p)(hE:∀e∈b.Entries,zBO b e):zsw b=some (min 2000 (zBX 1 (zCa b))):=by
 obtain⟨hz,hr⟩:=zCc hL hP hE;have a:zBZ 100 (b.Entries.map (·.Day)):=zBZ.mono (by omega) (fun r hr=>yaR _ hr) hz;have h:zBZ 100 (b.Parcels.map (·.Sown)):=zBZ.mono (by omega) (fun r hr=>yaZ _ hr) hz;unfold zsw;have g1:=zB9 h1 a (fun e he=>hr _ (yaR _ (yaq.2 ⟨e,he,rfl⟩))) 1000000 0 1 (yam _) (by omega) (by omega) (by omega);have hc:=zB6 (C:=2000) (x:=1) (by omega) a (by omega) (by omega);have g2:=zB8 h2 h (fun e he=>hr _ (yaZ _ (yaq.2 ⟨e,he,rfl⟩))) 1000000 0 (zBY 2000 1 (b.Entries.map (·.Day))) (yam _) (by omega) hc.1 hc.2;rw[yau] at g1 g2;refine g1.trans (g2.trans ?_);rw[<- zB3];exact congrArg some (zB5 (by omega) hz (by omega) (by omega))
def zCe(b:Boo):Prop:=(InN b.Last 0 30/\1<=b.Owners)/\(∀p∈b.Parcels,zBP b p)/\∀e∈b.Entries,zBO b e
open Classical in
def zCf(b:Boo):Int:=if 4 < b.Owners\/4 < b.Parcels.length\/6 < b.Entries.length then 3 else if zCe b then (if 1000 < zBX 1 (zCa b) then 3 else 0) else 1
theorem zCg{b:Boo}(ho:zl2 .i64 b.Owners):zsy b=some (zCf b):=by
 have ho:=fI' ho;unfold zsy zCf
 by_cases c1:4 < b.Owners
 ·rw[yab c1,yab (.inl c1)]
 rw[yaa c1]
 by_cases c2:4 < b.Parcels.length
 ·rw[yab (by omega),yab (.inr (.inl c2))]
 rw[yaa (by omega)]
 by_cases c3:6 < b.Entries.length
 ·rw[yab (by omega),yab (.inr (.inr c3))]
 rw[yaa (by omega),yaa (show ¬ (4 < b.Owners\/4 < b.Parcels.length\/6 < b.Entries.length) by omega)]
 refine zBR.pick (P:=InN b.Last 0 30) (fun hl=>?_) fun hl=>by rw[yaa (by simp),yaa fun h=>hl h.1.1]
 rw[yab rfl]
 by_cases c4:b.Owners < 1
 ·rw[yab c4,yaa fun h=>by have:=h.1.2; omega]
 rw[yaa c4]
 obtain⟨l1,l2⟩:=zrJ (l:=b.Parcels) (F:=fun d x=>zsx b d 0 x) (ok:=zBP b) (bad:=some 1) (fin:=prFault_L1 b 1000000 0) (fun d k a hk=>by
  have y:=(yah.1 hk).1
  have e1:zsx b (d+1) 0 (k:Int)=gd (zl2 .i64 (b.Owners - (1:Int))) ((zsp a.Owner (0:Int) (b.Owners - (1:Int))).bind fun i=>(if i=true then ((zsp a.Value (0:Int) (1000:Int)).bind fun q=>(if q=true then ((zsq b a.Sown).bind fun s=>(if s=true then (gd (zl2 .i64 ((k:Int)+(1:Int))) (zsx b d 0 ((k:Int)+(1:Int)))) else (some (1:Int)))) else (some (1:Int)))) else (some (1:Int)))):=by
   rw[zsx,yab (by omega),zrB hk,obs]
  rw[e1,zqj (fI (by omega)),zqj (fI (by omega))]
  constructor
  ·intro h;rw[zBR.some_of h.1,obs,yab rfl,zBR.some_of h.2.1,obs,yab rfl,zBS.some_of h.2.2,obs,yab rfl]
  ·intro h
   refine zBR.pick (P:=InN a.Owner 0 (b.Owners - 1)) (fun q1=>?_) fun q1=>by rw[yaa (by simp)]
   rw[yab rfl]
   refine zBR.pick (P:=InN a.Value 0 1000) (fun q2=>?_) fun q2=>by rw[yaa (by simp)]
   rw[yab rfl]
   exact zBS.pick (fun q3=>absurd ⟨q1,q2,q3⟩ h) fun q3=>by rw[yaa (by simp)]) (fun d=>by
  show zsx b (d+1) 0 _=_
  rw[zsx,yaa (yaJ _)]) (d:=1000000) (by omega)
 by_cases c5:∀p∈b.Parcels,zBP b p
 rotate_left
 ·rw[yaa fun h=>c5 h.2.1]; exact l2 c5
 refine(l1 c5).trans ?_
 obtain⟨m1,m2⟩:=zrJ (l:=b.Entries) (F:=fun d x=>prFault_L1 b d x) (ok:=zBO b) (bad:=some 1) (fin:=(zsw b).bind fun u=>(if (1000:Int) < u then (some (3:Int)) else (some (0:Int)))) (fun d k a hk=>by
  have y:=(yah.1 hk).1
  have e1:prFault_L1 b (d+1) (k:Int)=(zst b a).bind fun w=>(if w=true then (gd (zl2 .i64 ((k:Int)+(1:Int))) (prFault_L1 b d ((k:Int)+(1:Int)))) else (some (1:Int))):=by
   rw[prFault_L1,yab (by omega),zrB hk,obs]
  rw[e1,zqj (fI (by omega))]
  exact(zBW (by omega) (by omega) (by omega)).step (by rw[yab rfl]) (by rw[yaa (by simp)])) (fun d=>by
  show prFault_L1 b (d+1) _=_
  rw[prFault_L1,yaa (yaJ _)]) (d:=1000000) (by omega)
 by_cases c6:∀e∈b.Entries,zBO b e
 rotate_left
 ·rw[yaa fun h=>c6 h.2.2]; exact m2 c6
 refine(m1 c6).trans ?_;rw[yab ⟨⟨hl,by omega⟩,c5,c6⟩,zCd (by omega) (by omega) hl.2 c5 c6,obs]
 by_cases c7:1000 < zBX 1 (zCa b)
 ·rw[yab (by omega),yab c7]
 ·rw[yaa (by omega),yaa c7]
end
end Go.Proofs.YtpjnfiegpjlfgaaGreat

namespace Go.Proofs.YtpjnfiegpjlfgaaGreat
open _root_.Go.Proofs.Tryz
open Go.Abs
set_option maxRecDepth 100000
noncomputable section
def zCh:O6:={ o0:=false,o1:=false,o2:=false,o3:=false,o4:=false,o5:=false }
def zCi(m:M6):List Int:=[m.m0,m.m1,m.m2,m.m3,m.m4,m.m5]
structure zCj (w:Wk) (b:Boo):Prop where
 eb:w.b=b
 n:w.numbers=zBM b
 o:w.out=zCh
 m:∀(i:Nat) (e:En),b.Entries[i]? = some e->e.Kind=1->(zCi w.makes)[i]? = some ((b.Parcels.length:Int)+zBL (b.Entries.take i))
theorem zCk{l:List En}{k:Nat}{e:En}(h:l[k]? = some e):zBL (l.take (k+1))=zBL (l.take k)+if e.Kind=1 then 1 else 0:=by
 rw[ybx,h];unfold zBL;rw[ycr,yai]
 by_cases h1:e.Kind=1
 ·rw[yab h1]; simp[h1]
 ·rw[yaa h1]; simp[h1]
theorem zCl{k:Nat}{v a0 a1 a2 a3 a4 a5:Int}(hk:k < 6):([sti (k:Int) 0 v a0,sti (k:Int) 1 v a1,sti (k:Int) 2 v a2,sti (k:Int) 3 v a3,sti (k:Int) 4 v a4,sti (k:Int) 5 v a5]:List Int)[k]? = some v/\∀i,i ≠ k->([sti (k:Int) 0 v a0,sti (k:Int) 1 v a1,sti (k:Int) 2 v a2,sti (k:Int) 3 v a3,sti (k:Int) 4 v a4,sti (k:Int) 5 v a5]:List Int)[i]? = ([a0,a1,a2,a3,a4,a5]:List Int)[i]?:=by
 have e:∀(j:Nat) (x:Int),sti (k:Int) j v x=if k=j then v else x:=fun j x=>by
  unfold sti
  by_cases h:k=j
  ·rw[yab h,yab (by omega)]
  ·rw[yaa h,yaa (by omega)]
 simp only[e]
 have:k=0\/k=1\/k=2\/k=3\/k=4\/k=5:=by omega
 rcases this with rfl | rfl | rfl | rfl | rfl | rfl <;> exact⟨rfl,fun i hi=>by rcases i with _ | _ | _ | _ | _ | _ | i <;> first | rfl | exact absurd rfl hi⟩
theorem zCm{b:Boo}(hl:b.Entries.length<=6)(hp:b.Parcels.length<=100):∀(d k:Nat) (n a0 a1 a2 a3 a4 a5:Int),k<=b.Entries.length->b.Entries.length - k < d->n=(b.Parcels.length:Int)+zBL (b.Entries.take k) ->
  (∀(i:Nat) (e:En),i < k->b.Entries[i]? = some e->e.Kind=1->([a0,a1,a2,a3,a4,a5]:List Int)[i]? = some ((b.Parcels.length:Int)+zBL (b.Entries.take i))) ->
  ∃w,zsZ b d b.Last b.Owners n a0 a1 a2 a3 a4 a5 false false false false false false (k:Int)=some w/\zCj w b
 | 0,_,_,_,_,_,_,_,_,_,h,_,_=>by omega
 | d+1,k,n,a0,a1,a2,a3,a4,a5,hk,h,hn,hm=>by
  rw[zsZ]
  by_cases u:k < b.Entries.length
  ·have hg:=yak u;have s:=zCk hg;have hr:=zBQ (l:=b.Entries.take k)
   have A:(b.Entries.take k).length<=6:=by rw[yap]; omega
   rw[yab (by omega),zrB hg,obs]
   by_cases h1:b.Entries[k].Kind=1
   ·rw[yab h1] at s;obtain⟨s1,s2⟩:=zCl (k:=k) (v:=n) (a0:=a0) (a1:=a1) (a2:=a2) (a3:=a3) (a4:=a4) (a5:=a5) (by omega);rw[yab h1,zqj (by omega),zqj (fI (by omega)),zqj (fI (by omega)),show(k:Int)+1=((k+1:Nat):Int) by omega];refine zCm hl hp d (k+1) (n+1) _ _ _ _ _ _ (by omega) (by omega) (by omega) fun i e hi he a=>?_
    by_cases q:i=k
    ·subst q; rw[s1,hn]
    ·rw[s2 i q]; exact hm i e (by omega) he a
   ·rw[yaa h1] at s;rw[yaa h1,zqj (fI (by omega)),show(k:Int)+1=((k+1:Nat):Int) by omega];refine zCm hl hp d (k+1) n _ _ _ _ _ _ (by omega) (by omega) (by omega) fun i e hi he a=>?_
    by_cases q:i=k
    ·subst q; rw[hg] at he; cases he; exact absurd a h1
    ·exact hm i e (by omega) he a
  ·rw[yaa (by omega)]
   have y:k=b.Entries.length:=by omega
   subst y;rw[ybc] at hn;exact⟨_,rfl,rfl,hn,rfl,fun i e he a=>hm i e (yah.1 he).1 he a⟩
theorem zCn{b:Boo}(hl:b.Entries.length<=6)(hp:b.Parcels.length<=100):∃w,zs0 b=some w/\zCj w b:=
 zCm hl hp (b.Entries.length+1) 0 _ 0 0 0 0 0 0 (yam _) (by omega) (by show _=_+zBL []; unfold zBL; simp) fun i e hi=>absurd hi (ya8 _)
theorem zCo{n lo hi:Int}:Ev (zsG n lo hi) (InN n lo hi):=Ev.ite fun _=>Ev.dec Iff.rfl
theorem zCp{w:Wk}{n:Int}:Ev (zsJ w n) (InN n 0 w.b.Last):=zCo.ret
theorem zCq{w:Wk}{r:Rg}:Ev (zsK w r) (zBN w.b r):=
 (Ev.ite fun _=>zCp.and fun _=>zCp.ret).imp (by unfold InN zBN; omega)
theorem zCr{w:Wk}{n:Int}(ho:-1000<=w.b.Owners/\w.b.Owners<=1000):Ev (zsI w n) (InN n 0 (w.b.Owners - 1)):=Ev.gd (fI (by omega)) zCo.ret
theorem zCs{w:Wk}{n:Int}(ho:0<=w.numbers/\w.numbers<=1000):Ev (zsH w n) (InN n 0 (w.numbers - 1)):=Ev.gd (fI (by omega)) zCo.ret
theorem zCt{w:Wk}{p:Pc}(ho:-1000<=w.b.Owners/\w.b.Owners<=1000):Ev (zsM w p) (zBP w.b p):=(zCr ho).and fun _=>zCo.and fun _=>zCq.ret
theorem zCu{w:Wk}{e:En}(hw:w.numbers=zBM w.b)(hn:0<=w.numbers/\w.numbers<=1000)(ho:-1000<=w.b.Owners/\w.b.Owners<=1000)(he:zsa e):Ev (zsL w e) (zBO w.b e):=by
 obtain⟨f1,f2,f3,f4,f5,f6,f7,f8⟩:=he;have fz:zl2 .i64 0:=fI (by omega);unfold zsL
 simp only[zqj f1,zqj f2,zqj f3,zqj f4,zqj f5,zqj f6,zqj f7,zqj f8,zqj fz]
 refine((zCs hn).and (K:=zBN w.b e.Day/\zgl w.b e) fun _=>zCq.and fun _=>?_).imp (by rw[hw]; unfold zBO; constructor <;> (rintro⟨a,b,c⟩; exact⟨b,a,c⟩))
 unfold zgl;rw[<- hw]
 by_cases k0:e.Kind=0
 ·rw[yab k0];refine((zCr ho).and fun _=>(zCr ho).and fun _=>Ev.itn (K:=e.Part=0/\e.Other=0) fun _=>Ev.mk' (by simp; exact And.comm)).imp ?_
  simp[k0]
 ·rw[yaa k0]
  by_cases k1:e.Kind=1
  ·rw[yab k1];refine(zCo.and (K:=e.Other=0/\e.From=0/\e.To=0) fun _=>Ev.mk' (by simp)).imp ?_
   simp[k1]
   constructor
   ·rintro⟨a,b,c,d⟩; exact⟨c,d,b,a⟩
   ·rintro⟨c,d,b,a⟩; exact⟨a,b,c,d⟩
  ·rw[yaa k1]
   by_cases k2:e.Kind=2
   ·rw[yab k2];refine((zCs hn).and fun _=>Ev.itn (K:=e.From=0/\e.To=0/\e.Part=0) fun _=>Ev.mk' (by simp)).imp ?_
    simp[k2]
    constructor
    ·rintro⟨a,b,c,d,f⟩; exact⟨c,d,f,a,b⟩
    ·rintro⟨c,d,f,a,b⟩; exact⟨a,b,c,d,f⟩
   ·rw[yaa k2]
    by_cases k3:e.Kind=3
    ·rw[yab k3];refine(Ev.mk' (P:=e.Other=0/\e.From=0/\e.To=0/\e.Part=0) (by simp)).imp ?_
     simp[k3]
     constructor
     ·rintro⟨a,b,c,d⟩; exact⟨b,c,d,a⟩
     ·rintro⟨b,c,d,a⟩; exact⟨a,b,c,d⟩
    ·rw[yaa k3];exact Ev.ff (by simp[k0,k1,k2,k3])
theorem gP{l:List Pc}{p:Pc->Option Bool}:∀{d:Nat} {x:Int},zsO l p d x=gIdx l p d x
 | 0,_=>rfl
 | d+1,x=>by unfold zsO gIdx; simp only[gP]
theorem gE{l:List En}{p:En->Option Bool}:∀{d:Nat} {x:Int},zsT l p d x=gIdx l p d x
 | 0,_=>rfl
 | d+1,x=>by unfold zsT gIdx; simp only[gE]
theorem zCv{w:Wk}{b:Boo}(hw:zCj w b)(h1:b.Entries.length<=6)(h2:b.Parcels.length<=4)(ho:-1000<=b.Owners/\b.Owners<=1000)(hE:∀e∈b.Entries,zsa e):Ev (zsX w) (zCe b):=by
 have e1:=hw.eb;subst e1;have hr:=zBV (b:=w.b) (by omega) (by omega);have hn:=hw.n;refine(zCo.and fun _=>Ev.ite fun _=>(Ev.each (q:=zBP w.b) (fun a _=>zCt ho) (by omega) gP).and fun _=>(Ev.each (q:=zBO w.b) (fun a ha=>zCu hn (by omega) ho (hE a ha)) (by omega) gE).ret).imp ?_;unfold zCe;rw[and_assoc]
theorem zCw{w:Wk}{b:Boo}(hw:zCj w b)(h1:b.Entries.length<=6)(h2:b.Parcels.length<=100):zs3 w=some (zCa b):=by
 have e1:=hw.eb;subst e1;unfold zs3;refine zrG (l:=w.b.Entries) (·.Day) (F:=fun d acc x=>zs2 w d acc x) (fun acc=>zs1 w (w.b.Parcels.length+1) acc 0) (fun d k acc a hk ha=>?_) (fun d acc=>by rw[zs2,yaa (yaJ _)]) (by omega) |>.trans ?_
 ·have q:=(yah.1 hk).1
  have ho:([w.out.o0,w.out.o1,w.out.o2,w.out.o3,w.out.o4,w.out.o5]:List Bool)[k]? = some false:=by
   rw[hw.o]
   have:k=0\/k=1\/k=2\/k=3\/k=4\/k=5:=by omega
   rcases this with rfl | rfl | rfl | rfl | rfl | rfl <;> rfl
  rw[zs2,yab (by omega),zrB hk,obs,zrB ho,obs,yaa (by simp),zqj (by omega),zqj (fI (by omega))]
 ·have key:∀(d k:Nat) (acc:List Rg),k<=w.b.Parcels.length->w.b.Parcels.length - k < d->acc.length<=100+k->zs1 w d acc (k:Int)=some (acc++(w.b.Parcels.drop k).map (·.Sown)):=by
   intro d
   induction d with
   | zero=>intro k _ _ h; omega
   | succ d ih=>
    intro k acc hk h ha;rw[zs1]
    by_cases i:k < w.b.Parcels.length
    ·have hg:=yak i;rw[yab (by omega),zrB hg,obs,zqj (by omega),zqj (fI (by omega)),show(k:Int)+1=((k+1:Nat):Int) by omega,ih (k+1) _ (by omega) (by omega) (by rw[yai,ybF]; omega),yat i,yaX,yav]; rfl
    ·rw[yaa (by omega),yax (by omega)]; simp
  exact key _ 0 _ (yam _) (by omega) (by rw[yas]; omega)
theorem zCx{S:Nat}{l:List Rg}(hS:1<=S/\S<=1000)(hz:zBZ S l)(hr:∀r∈l,okR r)(hl:l.length<=100):∀(d k:Nat) (x:Nat),k<=l.length->l.length - k < d->x * S ^ (l.length - k)<=1000000000000000000->zs5 l d (x:Int) (k:Int)=some (zBX (x:Int) (l.drop k))
 | 0,_,_,_,h,_=>by omega
 | d+1,k,x,hk,h,hx=>by
  rw[zs5]
  by_cases a:k < l.length
  ·have hg:=yak a;have hm:=ya9 a;have hs:=hz _ hm;have ho:=hr _ hm;unfold okR at ho;have s:l[k].Hi - l[k].Lo+1=szR l[k]:=rfl
   have es:zs4 l[k]=some (szR l[k]):=by unfold zs4; rw[zqj (fI (by omega)),zqj (fI (by omega))]; rfl
   obtain⟨z,i⟩:∃z:Nat,szR l[k]=(z:Int):=⟨(szR l[k]).toNat,by omega⟩;rw[i] at hs es
   have q:z<=S:=by omega
   have e1:l.length - k=(l.length - (k+1))+1:=by omega
   rw[e1,Nat.pow_succ] at hx
   have u:x * z * S ^ (l.length - (k+1))<=x * (S ^ (l.length - (k+1)) * S):=by
    rw[Nat.mul_comm (S ^ _) S,<- Nat.mul_assoc];exact yaO _ (Nat.mul_le_mul_left _ q)
   have hp:1<=S ^ (l.length - (k+1)):=Nat.pow_pos (by omega);have w:x * z<=x * z * S ^ (l.length - (k+1)):=Nat.le_mul_of_pos_right _ hp;have ec:(x:Int) * (z:Int)=((x * z:Nat):Int):=(yby x z).symm;rw[yab (by omega),zrB hg,obs,es,obs,zqj (by omega),zqj (by omega),ec,zqj (fI (by omega)),zqj (fI (by omega)),show(k:Int)+1=((k+1:Nat):Int) by omega,zCx hS hz hr hl d (k+1) (x * z) (by omega) (by omega) (by omega),yat a,zB1,i,ec]
  ·rw[yaa (by omega),yax (by omega)]; rfl
theorem zCy{S:Nat}{l:List Rg}(hS:1<=S/\S<=1000)(hz:zBZ S l)(hr:∀r∈l,okR r)(hl:l.length<=100)(hp:S ^ l.length<=1000000000000000000):zs6 l=some (zBX 1 l):=
 zCx hS hz hr hl (l.length+1) 0 1 (yam _) (by omega) (by rw[ybq]; exact hp)
theorem zCz{b:Boo}(hb:zsc b):zs7 b=some (zCf b):=by
 obtain⟨f1,f2,⟨f3,f4⟩,f5,f6⟩:=hb;unfold zs7 zCf
 have et:zsY b=some (decide (4 < b.Owners\/4 < b.Parcels.length\/6 < b.Entries.length)):=by
  unfold zsY
  by_cases c1:4 < b.Owners
  ·rw[yab c1,decide_eq_true (.inl c1)]
  rw[yaa c1]
  by_cases c2:4 < b.Parcels.length
  ·rw[yab (by omega),decide_eq_true (.inr (.inl c2))]
  rw[yaa (by omega)];exact congrArg some (decide_eq_decide.2 (by omega))
 rw[et,obs]
 by_cases c1:4 < b.Owners\/4 < b.Parcels.length\/6 < b.Entries.length
 ·rw[yab (decide_eq_true c1),yab c1]
 rw[yaa (by simpa using c1),yaa c1];obtain⟨w,hw,ww⟩:=zCn (b:=b) (by omega) (by omega);rw[hw,obs]
 by_cases c2:b.Owners < 1
 ·have:¬ zCe b:=fun h=>by have:=h.1.2; omega
  rw[yaa this]
  have e2:zsX w=some false:=by
   have hb:=ww.eb;unfold zsX
   refine zCo.pick (P:=InN w.b.Last 0 30) (fun _=>?_) fun _=>by rw[yaa (by simp)]
   rw[yab rfl,yaa (by rw[hb]; omega)]
  rw[e2,obs,yaa (by simp)]
 refine(zCv ww (by omega) (by omega) (by omega) f6).pick (fun h=>?_) fun h=>by rw[yaa (by simp),yaa h]
 obtain⟨hz,hr⟩:=zCc h.1.1.2 h.2.1 h.2.2
 have hl:(zCa b).length<=10:=by unfold zCa; rw[yai,yas,yas]; omega
 rw[yab rfl,yab h,zCw ww (by omega) (by omega),obs,zCy (S:=31) (by omega) hz hr (by omega) (yad (ybz (by omega) hl) (by decide)),obs]
 by_cases c7:1000 < zBX 1 (zCa b)
 ·rw[yab c7,yab c7]
 ·rw[yaa c7,yaa c7]
def insR(a:Evt):List Evt->List Evt
 | []=>[a]
 | x::r=>if a.on < x.on then x::insR a r else a::x::r
def zCA(p:List Evt)(a:Evt):List Evt:=(insR a p.reverse).reverse
def zCB(l:List Evt):List Evt:=l.foldl zCA []
theorem zCC{q:List Evt}{x a:Evt}:zCA (q++[x]) a=if a.on < x.on then zCA q a++[x] else q++[x,a]:=by
 unfold zCA;rw[List.reverse_append]
 show(insR a (x::q.reverse)).reverse=_
 rw[insR]
 by_cases h:a.on < x.on
 ·rw[yab h,yab h,List.reverse_cons]
 ·rw[yaa h,yaa h]; simp
theorem zCD{a:Evt}:∀{r:List Evt},(insR a r).Perm (a::r)
 | []=>List.Perm.refl _
 | x::r=>by
  unfold insR
  split
  ·exact((zCD (r:=r)).cons x).trans (List.Perm.swap a x r)
  ·exact List.Perm.refl _
theorem zCE{p:List Evt}{a:Evt}:(zCA p a).Perm (p++[a]):=
 (List.reverse_perm _).trans (zCD.trans (((List.reverse_perm p).cons a).trans (List.perm_append_singleton a p).symm))
theorem zCF{p:List Evt}{a:Evt}:(zCA p a).length=p.length+1:=by rw[zCE.length_eq,yai]; rfl
theorem zCG:∀{l p:List Evt},(l.foldl zCA p).Perm (p++l)
 | [],p=>by rw[yaK]; exact List.Perm.refl _
 | a::l,p=>by
  refine(zCG (l:=l) (p:=zCA p a)).trans ?_;refine(zCE.append_right l).trans ?_;rw[yav]; exact List.Perm.refl _
theorem zCH{l:List Evt}:(zCB l).Perm l:=zCG
theorem zCI{l:List Evt}:(zCB l).length=l.length:=zCH.length_eq
theorem zCJ{a b:Evt}:ztm a b=some (if a.on < b.on then -1 else if b.on < a.on then 1 else 0):=by
 unfold ztm ztl ztk
 simp only[obs]
 simp only[decide_true,Bool.not_true,Bool.false_eq_true,if_false]
 by_cases h1:a.on < b.on
 ·rw[yab h1,yab h1]; rfl
 ·rw[yaa h1,yaa h1]
  by_cases h2:b.on < a.on
  ·rw[yab h2,yab h2]; rfl
  ·rw[yaa h2,yaa h2]; rfl
theorem zCK{K:Int->List Evt->Option (Unit × List Evt)}{x1:Int}(hx:0<=x1/\x1<=1000000)(a:Evt):∀(n:Nat) (d:Nat) (p s:List Evt),p.length=n->n < d->n<=1000000 ->
  ztn 0 (fun a b=>ztm a b) x1 K d (n:Int) (p++a::s)=K (x1+1) (zCA p a++s)
 | 0,0,_,_,_,h,_=>by omega
 | 0,d+1,p,s,hp,h,hn=>by
  rw[ztn,yaa (by omega),zqj (fI (by omega)),yaW hp]; rfl
 | n+1,0,_,_,_,h,_=>by omega
 | n+1,d+1,p,s,hp,h,hn=>by
  have i:p ≠ []:=fun h=>by rw[h] at hp; cases hp
  obtain⟨q,x,rfl⟩:∃q x,p=q++[x]:=⟨p.dropLast,p.getLast i,(List.dropLast_concat_getLast i).symm⟩
  have hq:q.length=n:=by rw[yai] at hp; exact Nat.succ.inj hp
  have e1:(q++[x])++a::s=q++x::a::s:=by rw[yav]; rfl
  rw[e1]
  have g1:(q++x::a::s)[n+1]? = some a:=by rw[ybv (by omega)]; rw[show n+1 - q.length=1 by omega]; rfl
  have g0:(q++x::a::s)[n]? = some x:=by rw[ybv (by omega)]; rw[show n - q.length=0 by omega]; rfl
  have g1i:idx (q++x::a::s) ((n+1:Nat):Int)=some a:=zrB g1
  have g0i:idx (q++x::a::s) (((n+1:Nat):Int) - 1)=some x:=by rw[show((n+1:Nat):Int) - 1=(n:Int) by omega]; exact zrB g0
  rw[ztn,yab (by omega),g1i,obs,zqj (fI (by omega)),g0i,obs,zCJ,obs,zCC]
  by_cases hc:a.on < x.on
  ·have s1:(q++x::a::s).set (Int.toNat ((n+1:Nat):Int)) x=q++x::x::s:=by
    rw[ya3,ybP _ _ (by omega),show n+1 - q.length=1 by omega]; rfl
   have g2:idx (q++x::x::s) (((n+1:Nat):Int) - 1)=some x:=by
    rw[show((n+1:Nat):Int) - 1=(n:Int) by omega];exact zrB (by rw[ybv (by omega),show n - q.length=0 by omega]; rfl)
   have s2:(q++x::x::s).set (Int.toNat (((n+1:Nat):Int) - 1)) a=q++a::x::s:=by
    rw[show(((n+1:Nat):Int) - 1).toNat=n by omega,ybP _ _ (by omega),show n - q.length=0 by omega]; rfl
   rw[yab hc,yab (by omega),zqj (fI (by omega)),zqj (fI (by omega)),obs,obs,obs,s1,g2,obs,zqj (fI (by omega)),s2,yab hc,show((n+1:Nat):Int) - 1=(n:Int) by omega,zCK hx a n d q (x::s) hq (by omega) (by omega)];rw[yav]; rfl
  ·have hz:¬ (if a.on < x.on then (-1:Int) else if x.on < a.on then 1 else 0) < 0:=by
    rw[yaa hc]; split <;> omega
   rw[yaa hz,zqj (fI (by omega)),yaa hc];rw[yav]; rfl
theorem zCL{n:Nat}(hn:n<=1000):∀(zk8 p:List Evt) (d:Nat),p.length+zk8.length=n->zk8.length < d->zto 0 (n:Int) (fun a b=>ztm a b) d (p.length:Int) (p++zk8)=some ((),zk8.foldl zCA p)
 | _,_,0,_,h=>by omega
 | [],p,d+1,hl,h=>by
  rw[zto,yaa (by simp at hl; omega),yaK]; rfl
 | a::zk8,p,d+1,hl,h=>by
  have i:p.length+(zk8.length+1)=n:=hl;rw[zto,yab (by omega),zCK (by omega) a p.length 1000000 p zk8 rfl (by omega) (by omega)]
  have e:(p.length:Int)+1=((zCA p a).length:Int):=by rw[zCF]; rfl
  rw[e,zCL hn zk8 (zCA p a) d (by rw[zCF]; omega) (by have h':zk8.length+1 < d+1:=h; omega)]; rfl
theorem zCM{l:List Evt}(hl:l.length<=19):ztx l (fun a b=>ztm a b)=some ((),zCB l):=by
 unfold ztx ztw;rw[ztv,yaa (by omega)]
 have key:ztp l 0 (l.length:Int) (fun a b=>ztm a b)=some ((),zCB l):=by
  unfold ztp;rw[zqj (fI (by omega))]
  cases l with
  | nil=>
   rw[zto,yaa (by simp)]; rfl
  | cons a r=>
   have h:r.length+1<=19:=hl;have:=zCL (n:=r.length+1) (by omega) r [a] ((((r.length+1:Nat):Int) - (0+1)).toNat+1) (by simp; omega) (by omega);exact this
 rw[key,obs,show((l.length:Int) - 20).toNat+1=1 by omega,ztu,yaa (by omega)]
 rfl
def evsN:List En->List Int->List Int->List Evt
 | e::es,d::ds,m::ms=>{ e:=e,on:=d,makes:=m } :: evsN es ds ms
 | _,_,_=>[]
theorem zCN{x:Evt}:∀{es:List En} {ds ms:List Int},x∈evsN es ds ms->∃i:Nat,es[i]? = some x.e/\ds[i]? = some x.on/\ms[i]? = some x.makes
 | e::es,d::ds,m::ms,h=>by
  rcases yal.1 h with rfl | h
  ·exact⟨0,rfl,rfl,rfl⟩
  ·obtain⟨i,h1,h2,h3⟩:=zCN h; exact⟨i+1,h1,h2,h3⟩
 | [],_,_,h=>by simp[evsN] at h
 | _::_,[],_,h=>by simp[evsN] at h
 | _::_,_::_,[],h=>by simp[evsN] at h
theorem zCO:∀{es:List En} {ds ms:List Int},(evsN es ds ms).length<=es.length
 | e::es,d::ds,m::ms=>by have:=zCO (es:=es) (ds:=ds) (ms:=ms); simp[evsN]; omega
 | [],_,_=>by simp[evsN]
 | _::_,[],_=>by simp[evsN]
 | _::_,_::_,[]=>by simp[evsN]
theorem zCP{w:Wk}{b:Boo}(hw:zCj w b){days:List Int}(hl:b.Entries.length<=6)(hd:days.length=b.Entries.length):ztz w days=some (zCB (evsN b.Entries days (zCi w.makes))):=by
 have e1:=hw.eb;subst e1;unfold ztz;rw[zqj (by omega)]
 have key:∀(d k:Nat) (acc:List Evt),k<=w.b.Entries.length->w.b.Entries.length - k < d->acc.length=k->zty w days d acc (k:Int)=some (zCB (acc++evsN (w.b.Entries.drop k) (days.drop k) ((zCi w.makes).drop k))):=by
  intro d
  induction d with
  | zero=>intro k _ _ h; omega
  | succ d ih=>
   intro k acc hk h ha;rw[zty]
   by_cases a:k < w.b.Entries.length
   ·have hg:=yak a;have q:=yak (l:=days) (show k < days.length by omega)
    have i:k < (zCi w.makes).length:=by show k < 6; omega
    have s:=yak i
    have ho:([w.out.o0,w.out.o1,w.out.o2,w.out.o3,w.out.o4,w.out.o5]:List Bool)[k]? = some false:=by
     rw[hw.o]
     have:k=0\/k=1\/k=2\/k=3\/k=4\/k=5:=by omega
     rcases this with rfl | rfl | rfl | rfl | rfl | rfl <;> rfl
    have em:idx ([w.makes.m0,w.makes.m1,w.makes.m2,w.makes.m3,w.makes.m4,w.makes.m5]:List Int) (k:Int)=some (zCi w.makes)[k]:=zrB s;rw[yab (by omega),zrB hg,obs,zrB ho,obs,yaa (by simp),zrB q,obs,em,obs,zqj (by rw[Int.toNat_natCast]; omega),zqj (fI (by omega)),show(k:Int)+1=((k+1:Nat):Int) by omega,ih (k+1) _ (by omega) (by omega) (by rw[yai,ha]; rfl),yat a,yat (l:=days) (show k < days.length by omega),yat i,evsN,yav]; rfl
   ·have e2:w.b.Entries.drop k=[]:=yax (by omega);rw[yaa (by omega),e2,evsN,yaK,zCM (by omega)]; rfl
    all_goals (intros; simp_all)
 exact key (w.b.Entries.length+1) 0 [] (yam _) (by omega) rfl
def pl0:Pl:={ owner:=0,value:=0,there:=false,harvested:=false,sown:=0 }
def zCQ:List Pl:=List.replicate 10 pl0
def zCR(s:List Pl)(i:Int):Pl:=s.getD i.toNat pl0
def zCS(p:Pl):Bool:=p.there && !p.harvested
def zCT(s:List Pl)(e:Evt):Bool × List Pl:=
 let x:=zCR s e.e.Parcel
 if zCS x=false then (false,s)
 else if e.e.Kind=0 then (if x.owner=e.e.From then (true,s.set e.e.Parcel.toNat { x with owner:=e.e.To }) else (false,s))
 else if e.e.Kind=1 then (if x.value<=e.e.Part then (false,s) else (true,(s.set e.e.Parcel.toNat { x with value:=x.value - e.e.Part }).set e.makes.toNat { x with value:=e.e.Part }))
 else if e.e.Kind=2 then (let y:=zCR s e.e.Other; if zCS y=false then (false,s) else if x.owner=y.owner then (false,s) else (true,(s.set e.e.Parcel.toNat { x with owner:=y.owner }).set e.e.Other.toNat { y with owner:=x.owner }))
 else (if e.on < x.sown then (false,s) else (true,s.set e.e.Parcel.toNat { x with harvested:=true }))
structure zCU (e:Evt):Prop where
 p:0<=e.e.Parcel/\e.e.Parcel < 10
 k:e.e.Kind=0\/e.e.Kind=1\/e.e.Kind=2\/e.e.Kind=3
 m:e.e.Kind=1->(0<=e.makes/\e.makes < 10)/\1<=e.e.Part/\e.e.Part<=1000
 o:e.e.Kind=2->(0<=e.e.Other/\e.e.Other < 10)/\e.e.Other ≠ e.e.Parcel
def zCV(s:List Pl):Prop:=s.length=10/\∀p∈s,0<=p.value/\p.value<=1000
theorem zCW{s:List Pl}(hs:s.length=10){i:Int}(hi:0<=i/\i < 10):idx s i=some (zCR s i):=by
 have hk:i.toNat < s.length:=by omega
 have hg:=yak hk;unfold zCR;rw[yaF,hg];have:=zrB hg;rw[show((i.toNat:Nat):Int)=i by omega] at this;exact this
theorem zCX{s:List Pl}(hs:s.length=10){i j:Int}(hi:0<=i/\i < 10)(hj:0<=j/\j < 10){v:Pl}:zCR (s.set i.toNat v) j=if i=j then v else zCR s j:=by
 unfold zCR;rw[yaF,yaF,List.getElem?_set]
 by_cases h:i=j
 ·subst h; rw[yab rfl,yab (by omega),yab rfl]; rfl
 ·rw[yaa (by omega),yaa h]
theorem zCY{p:Pl}:ztb p=some (zCS p):=by
 unfold ztb zCS
 cases p.there <;> rfl
theorem zCZ{s:List Pl}(hs:zCV s){e:Evt}(he:zCU e){β:Type}{f:Bool × List Pl->Option β}:((ztr e.e.Kind).bind fun r=>(r.happen s e).bind f)=f (zCT s e):=by
 have hl:=hs.1;have hx:=zCW hl he.p
 have a:zCR s e.e.Parcel∈s:=by
  unfold zCR;rw[yaF,yak (show e.e.Parcel.toNat < s.length by have:=he.p; omega)];exact ya9 _
 have hv:=hs.2 _ a;unfold ztr zCT
 dsimp only
 rcases he.k with k | k | k | k
 ·rw[yab k,obs]
  show(zte s e).bind f=_
  unfold zte;rw[zqj he.p,zqj hl,hx,obs,zCY,obs]
  cases hst:zCS (zCR s e.e.Parcel) with
  | false=>rw[yaa (show ¬ (false=true) by decide),yab rfl]; rfl
  | true=>
   rw[yab rfl,yaa (show ¬ (true=false) by decide),yab k]
   by_cases ho:(zCR s e.e.Parcel).owner=e.e.From
   ·rw[yab ho,yab ho]; rfl
   ·rw[yaa ho,yaa ho]; rfl
 ·rw[yaa (by omega),yab k,obs]
  show(ztf s e).bind f=_
  obtain⟨hm,hp⟩:=he.m k;unfold ztf;rw[zqj he.p,zqj hl,hx,obs,zCY,obs]
  cases hst:zCS (zCR s e.e.Parcel) with
  | false=>rw[yaa (show ¬ (false=true) by decide),yab rfl]; rfl
  | true=>
   rw[yab rfl,yaa (show ¬ (true=false) by decide),yaa (show ¬ e.e.Kind=0 by omega),yab k]
   by_cases ho:(zCR s e.e.Parcel).value<=e.e.Part
   ·rw[yab ho,yab ho]; rfl
   ·rw[yaa ho,yaa ho,zqj (fI (by omega)),zqj hm,zCW (by rw[yaC]; exact hl) hm]; rfl
 ·rw[yaa (by omega),yaa (by omega),yab k,obs]
  show(ztg s e).bind f=_
  obtain⟨hm,h⟩:=he.o k;unfold ztg;rw[zqj he.p,zqj hm,zqj hl,hx,obs,zCY,obs]
  cases hst:zCS (zCR s e.e.Parcel) with
  | false=>rw[yaa (show ¬ (false=true) by decide),yab rfl]; rfl
  | true=>
   rw[yab rfl,yaa (show ¬ (true=false) by decide),yaa (show ¬ e.e.Kind=0 by omega),yaa (show ¬ e.e.Kind=1 by omega),yab k,zCW hl hm,obs,zCY,obs]
   cases hst2:zCS (zCR s e.e.Other) with
   | false=>rw[yaa (show ¬ (false=true) by decide),yab rfl]; rfl
   | true=>
    rw[yab rfl,yaa (show ¬ (true=false) by decide)]
    by_cases ho:(zCR s e.e.Parcel).owner=(zCR s e.e.Other).owner
    ·rw[yab ho,yab ho]; rfl
    ·rw[yaa ho,yaa ho,zCW (by rw[yaC]; exact hl) hm,obs,zCX hl he.p hm,yaa (Ne.symm h)]; rfl
 ·rw[yaa (by omega),yaa (by omega),yaa (by omega),yab k,obs]
  show(zth s e).bind f=_
  unfold zth;rw[zqj he.p,zqj hl,hx,obs,zCY,obs]
  cases hst:zCS (zCR s e.e.Parcel) with
  | false=>rw[yaa (show ¬ (false=true) by decide),yab rfl]; rfl
  | true=>
   rw[yab rfl,yaa (show ¬ (true=false) by decide),yaa (show ¬ e.e.Kind=0 by omega),yaa (show ¬ e.e.Kind=1 by omega),yaa (show ¬ e.e.Kind=2 by omega)]
   by_cases ho:e.on < (zCR s e.e.Parcel).sown
   ·rw[yab ho,yab ho]; rfl
   ·rw[yaa ho,yaa ho]; rfl
theorem zCV.set{s:List Pl}(h:zCV s){i:Nat}{v:Pl}(hv:0<=v.value/\v.value<=1000):zCV (s.set i v):=
 ⟨by rw[yaC]; exact h.1,fun p hp=>by
  rcases List.mem_or_eq_of_mem_set hp with h' | h'
  ·exact h.2 p h'
  ·rw[h']; exact hv⟩
theorem zCV.at{s:List Pl}(h:zCV s)(i:Int):0<=(zCR s i).value/\(zCR s i).value<=1000:=by
 unfold zCR;rw[yaF]
 cases hg:s[i.toNat]? with
 | none=>exact⟨by decide,by decide⟩
 | some x=>exact h.2 x (ybE hg)
theorem zC0{s:List Pl}(hs:zCV s){e:Evt}(he:zCU e):zCV (zCT s e).2:=by
 have hv:=hs.at e.e.Parcel;have a:=hs.at e.e.Other;unfold zCT
 dsimp only
 split
 ·exact hs
 split
 ·split
  ·exact hs.set hv
  ·exact hs
 split
 ·rename_i k1
  obtain⟨_,hp⟩:=he.m k1
  split
  ·exact hs
  ·exact(hs.set (by dsimp only; omega)).set (by dsimp only; omega)
 split
 ·split
  ·exact hs
  split
  ·exact hs
  ·exact(hs.set (by dsimp only; exact hv)).set (by dsimp only; exact a)
 split
 ·exact hs
 ·exact hs.set hv
def stepsN(day:Int):List Evt->List Pl->List Pl->List Pl × Bool
 | [],out,_=>(out,true)
 | e::l,out,now=>if (zCT now e).1=true then stepsN day l (if e.on<=day then (zCT now e).2 else out) (zCT now e).2 else (zCQ,false)
theorem zC1:zCV zCQ:=⟨rfl,fun p hp=>by rw[List.eq_of_mem_replicate hp]; exact⟨by decide,by decide⟩⟩
theorem zC2{day:Int}:∀{l:List Evt} {out now:List Pl},(∀e∈l,zCU e)->zCV out->zCV now->zCV (stepsN day l out now).1
 | [],_,_,_,h,_=>h
 | e::l,out,now,hl,h,hn=>by
  unfold stepsN;have h2:=zC0 hn (hl e (yae ..))
  split
  ·refine zC2 (fun e he=>hl e (yag _ he)) ?_ h2
   split
   ·exact h2
   ·exact h
  ·exact zC1
theorem zC3{day:Int}{L:List Evt}(hL:∀e∈L,zCU e)(i:L.length<=1000):∀(d k:Nat) (out now:List Pl),k<=L.length->L.length - k < d->zCV out->zCV now->ztA day L d out now (k:Int)=some (stepsN day (L.drop k) out now)
 | 0,_,_,_,_,h,_,_=>by omega
 | d+1,k,out,now,hk,h,ho,hn=>by
  rw[ztA]
  by_cases a:k < L.length
  ·have hg:=yak a;have he:=hL _ (ya9 a);have h2:=zC0 hn he;rw[yab (by omega),zrB hg,obs,zCZ hn he,yat a,stepsN]
   by_cases hb:(zCT now L[k]).1=true
   ·rw[yab hb,yab hb]
    by_cases hd:L[k].on<=day
    ·rw[yab hd,zqj ⟨ho.1,h2.1⟩,zqj (fI (by omega)),show(k:Int)+1=((k+1:Nat):Int) by omega,zC3 hL i d (k+1) _ _ (by omega) (by omega) h2 h2,yab hd]
    ·rw[yaa hd,zqj (fI (by omega)),show(k:Int)+1=((k+1:Nat):Int) by omega,zC3 hL i d (k+1) _ _ (by omega) (by omega) ho h2,yaa hd]
   ·rw[yaa hb,yaa hb]; rfl
  ·rw[yaa (by omega),yax (by omega)]; rfl
def zC4(p:Pc)(s:Int):Pl:={ owner:=p.Owner,value:=p.Value,there:=true,harvested:=false,sown:=s }
def zC5:List Pc->List Int->List Pl
 | p::ps,s::ss=>zC4 p s::zC5 ps ss
 | _,_=>[]
theorem zC6:∀{ps:List Pc} {ss:List Int},ss.length=ps.length->(zC5 ps ss).length=ps.length
 | [],_,_=>rfl
 | _::_,[],h=>by cases h
 | p::ps,s::ss,h=>by simp[zC5,zC6 (Nat.succ.inj h)]
def zC7(b:Boo)(sown:List Int):List Pl:=zC5 b.Parcels sown++List.replicate (10 - b.Parcels.length) pl0
theorem zC8{b:Boo}{sown:List Int}(hl:b.Parcels.length<=4)(hs:sown.length=b.Parcels.length)(hP:∀p∈b.Parcels,zBP b p):zCV (zC7 b sown):=by
 unfold zC7;refine⟨by rw[yai,zC6 hs,ybs]; omega,fun p hp=>?_⟩
 rcases yaL.1 hp with h | h
 ·have key:∀(ps:List Pc) (ss:List Int),p∈zC5 ps ss->∃q∈ps,p.value=q.Value:=by
   intro ps
   induction ps with
   | nil=>intro ss h; simp[zC5] at h
   | cons q ps ih=>
    intro ss h
    cases ss with
    | nil=>simp[zC5] at h
    | cons s ss=>
     rcases yal.1 h with rfl | h
     ·exact⟨q,yae ..,rfl⟩
     ·obtain⟨q',h1,h2⟩:=ih ss h; exact⟨q',yag _ h1,h2⟩
  obtain⟨q,h1,h2⟩:=key _ _ h;rw[h2]; exact(hP q h1).2.1
 ·rw[List.eq_of_mem_replicate h]; exact⟨by decide,by decide⟩
theorem zC9{w:Wk}{b:Boo}(hw:zCj w b){sown:List Int}(hl:b.Parcels.length<=4)(hs:sown.length=b.Parcels.length):ztj w sown=some (zC7 b sown):=by
 have e1:=hw.eb;subst e1
 have key:∀(d k:Nat) (pre:List Pl),k<=w.b.Parcels.length->w.b.Parcels.length - k < d->pre.length=k->zti w sown d (pre++List.replicate (10 - k) pl0) (k:Int)=some (pre++zC5 (w.b.Parcels.drop k) (sown.drop k)++List.replicate (10 - w.b.Parcels.length) pl0):=by
  intro d
  induction d with
  | zero=>intro k _ _ h; omega
  | succ d ih=>
   intro k pre hk h hp;rw[zti]
   by_cases i:k < w.b.Parcels.length
   ·have hg:=yak i;have s:=yak (l:=sown) (show k < sown.length by omega)
    have a:(pre++List.replicate (10 - k) pl0).length=10:=by rw[yai,ybs]; omega
    have q:(pre++List.replicate (10 - k) pl0).set (Int.toNat (k:Int)) (zC4 w.b.Parcels[k] sown[k])=(pre++[zC4 w.b.Parcels[k] sown[k]])++List.replicate (10 - (k+1)) pl0:=by
     rw[ya3,ybP _ _ (by omega),hp,ybn,show 10 - k=(10 - (k+1))+1 by omega,ybl,yav]; rfl
    rw[yab (by omega),zrB hg,obs,zrB s,obs,zqj (by omega),zqj a,zCW a (by omega),obs,zqj (fI (by omega)),show(k:Int)+1=((k+1:Nat):Int) by omega];refine(congrArg (fun y=>zti w sown d y ((k+1:Nat):Int)) q).trans ?_;rw[ih (k+1) _ (by omega) (by omega) (by rw[yai,hp]; rfl),yat i,yat (l:=sown) (show k < sown.length by omega),zC5,yav pre]; rfl
   ·rw[yaa (by omega)]
    have u:k=w.b.Parcels.length:=by omega
    subst u;rw[yct]
    show some _=some (pre++[]++_)
    rw[yaK]
 exact key (w.b.Parcels.length+1) 0 [] (yam _) (by omega) rfl
def zDa(w:Wk)(b:Boo)(t:Tr):List Evt:=zCB (evsN b.Entries t.Days (zCi w.makes))
theorem zDb{w:Wk}{b:Boo}(hw:zCj w b)(h1:b.Entries.length<=6)(h2:b.Parcels.length<=4)(hE:∀e∈b.Entries,zBO b e){t:Tr}:∀e∈zDa w b t,zCU e:=by
 intro x hx;obtain⟨i,a1,a2,a3⟩:=zCN (zCH.mem_iff.1 hx);obtain⟨d1,d2,d3⟩:=hE x.e (ybE a1);have hr:=zBQ (l:=b.Entries);unfold InN zBM at d2;refine⟨by omega,?_,fun k=>?_,fun k=>?_⟩
 ·rcases d3 with h | h | h | h
  ·exact .inl h.1
  ·exact .inr (.inl h.1)
  ·exact .inr (.inr (.inl h.1))
  ·exact .inr (.inr (.inr h.1))
 ·have hm:=hw.m i x.e a1 k;rw[a3] at hm;have hm:=oi hm;have a:=zBQ (l:=b.Entries.take i);have q:=(yah.1 a1).1;rw[yap] at a;refine⟨by omega,?_⟩
  rcases d3 with h | h | h | h
  ·omega
  ·exact h.2.2.2.2
  ·omega
  ·omega
 ·rcases d3 with h | h | h | h
  ·omega
  ·omega
  ·have:=h.2.2.2.2.1; unfold InN zBM at this; exact⟨by omega,h.2.2.2.2.2⟩
  ·omega
theorem zDc{w:Wk}{b:Boo}(hw:zCj w b)(h1:b.Entries.length<=6)(h2:b.Parcels.length<=4)(hP:∀p∈b.Parcels,zBP b p)(hE:∀e∈b.Entries,zBO b e){t:Tr}(hd:t.Days.length=b.Entries.length)(hs:t.Sown.length=b.Parcels.length){day:Int} :
  ztB w t day=some (stepsN day (zDa w b t) (zC7 b t.Sown) (zC7 b t.Sown))/\zCV (stepsN day (zDa w b t) (zC7 b t.Sown) (zC7 b t.Sown)).1:=by
 have a:=zC8 h2 hs hP;have h:=zDb hw h1 h2 hE (t:=t)
 have i:(zDa w b t).length<=6:=by unfold zDa; rw[zCI]; exact yad zCO h1
 refine⟨?_,zC2 h a a⟩;unfold ztB;rw[zC9 hw h2 hs,obs,zqj ⟨rfl,a.1⟩,zCP hw h1 hd,obs];exact zC3 h (by omega) _ 0 _ _ (yam _) (ybd _) a a
theorem zDd:∀{rs:List Rg} {xs:List Int},inR rs xs↔xs.length=rs.length/\∀(j:Nat) r x,rs[j]? = some r->xs[j]? = some x->r.Lo<=x/\x<=r.Hi
 | [],[]=>⟨fun _=>⟨rfl,fun j r x h=>by simp at h⟩,fun _=>trivial⟩
 | [],_::_=>⟨fun h=>h.elim,fun h=>by simp at h⟩
 | _::_,[]=>⟨fun h=>h.elim,fun h=>by simp at h⟩
 | r::rs,x::xs=>by
  have ih:=zDd (rs:=rs) (xs:=xs)
  show(r.Lo<=x/\x<=r.Hi)/\inR rs xs↔_
  rw[ih]
  constructor
  ·rintro⟨h1,h2,h3⟩
   refine⟨by simp[h2],fun j r' x' hr hx=>?_⟩
   cases j with
   | zero=>cases hr; cases hx; exact h1
   | succ j=>exact h3 j r' x' hr hx
  ·rintro⟨h1,h2⟩
   exact⟨h2 0 r x rfl rfl,by simpa using h1,fun j r' x' hr hx=>h2 (j+1) r' x' hr hx⟩
def zDe(b:Boo)(t:Tr):Prop:=inR (b.Entries.map (·.Day)) t.Days/\inR (b.Parcels.map (·.Sown)) t.Sown
theorem zDf{w:Wk}{b:Boo}(hw:zCj w b){t:Tr}(h1:b.Entries.length<=100)(h2:b.Parcels.length<=100):Ev (zta w t) (zDe b t):=by
 have e1:=hw.eb;subst e1;unfold zta zDe;rw[zDd,zDd,yas,yas]
 by_cases c1:t.Days.length=w.b.Entries.length
 rotate_left
 ·rw[yaa (by omega)]; exact Ev.ff fun h=>c1 h.1.1
 rw[yab (by omega)]
 by_cases c2:t.Sown.length=w.b.Parcels.length
 rotate_left
 ·rw[yaa (by omega)]; exact Ev.ff fun h=>c2 h.2.1
 rw[yab (by omega)]
 have l2:Ev (zs8 w t (t.Sown.length+1) 0) ((∀j,j < t.Sown.length->∀r x,(w.b.Parcels.map (·.Sown))[j]? = some r->t.Sown[j]? = some x->r.Lo<=x/\x<=r.Hi)/\True):=by
  refine Ev.loop (F:=fun d x=>zs8 w t d x) (fin:=some true) (fun d k hk=>?_) (fun d=>by rw[zs8,yaa (yaJ _)]) (ybd _) fun _=>Ev.tt trivial;have hg:=yak hk;have i:=yak (l:=w.b.Parcels) (show k < w.b.Parcels.length by omega)
  have he:(∀r x,(w.b.Parcels.map (·.Sown))[k]? = some r->t.Sown[k]? = some x->r.Lo<=x/\x<=r.Hi)↔InN t.Sown[k] w.b.Parcels[k].Sown.Lo w.b.Parcels[k].Sown.Hi:=by
   rw[ybM,hg,i];exact⟨fun h=>h _ _ rfl rfl,fun h r x hr hx=>by cases hr; cases hx; exact h⟩
  rw[he]
  show(_->zs8 w t (d+1) (k:Int)=_)/\_
  have e2:zs8 w t (d+1) (k:Int)=(zsG t.Sown[k] w.b.Parcels[k].Sown.Lo w.b.Parcels[k].Sown.Hi).bind fun r=>if r=true then zs8 w t d ((k:Int)+1) else some false:=by
   rw[zs8,yab (by omega),zrB hg,obs,zrB i,obs,zqj (fI (by omega))]
  rw[e2];exact zCo.step (by rw[yab rfl]) (by rw[yaa (by simp)])
 have l1:Ev (zs9 w t (t.Days.length+1) false 0) ((∀j,j < t.Days.length->∀r x,(w.b.Entries.map (·.Day))[j]? = some r->t.Days[j]? = some x->r.Lo<=x/\x<=r.Hi)/\((∀j,j < t.Sown.length->∀r x,(w.b.Parcels.map (·.Sown))[j]? = some r->t.Sown[j]? = some x->r.Lo<=x/\x<=r.Hi)/\True)):=by
  refine Ev.loop (F:=fun d x=>zs9 w t d false x) (fin:=zs8 w t (t.Sown.length+1) 0) (fun d k hk=>?_) (fun d=>by rw[zs9,yaa (yaJ _)]) (ybd _) fun _=>l2;have hg:=yak hk;have i:=yak (l:=w.b.Entries) (show k < w.b.Entries.length by omega)
  have he:(∀r x,(w.b.Entries.map (·.Day))[k]? = some r->t.Days[k]? = some x->r.Lo<=x/\x<=r.Hi)↔InN t.Days[k] w.b.Entries[k].Day.Lo w.b.Entries[k].Day.Hi:=by
   rw[ybM,hg,i];exact⟨fun h=>h _ _ rfl rfl,fun h r x hr hx=>by cases hr; cases hx; exact h⟩
  rw[he]
  show(_->zs9 w t (d+1) false (k:Int)=_)/\_
  have e2:zs9 w t (d+1) false (k:Int)=(zsG t.Days[k] w.b.Entries[k].Day.Lo w.b.Entries[k].Day.Hi).bind fun r=>if r=true then zs9 w t d false ((k:Int)+1) else some false:=by
   rw[zs9,yab (by omega),zrB hg,obs,zrB i,obs,zqj (fI (by omega))]
  rw[e2];exact zCo.step (by rw[yab rfl]) (by rw[yaa (by simp)])
 refine l1.imp ⟨fun⟨a,b,_⟩=>⟨⟨c1,fun j r x hr hx=>a j (yah.1 hx).1 r x hr hx⟩,c2,fun j r x hr hx=>b j (yah.1 hx).1 r x hr hx⟩,fun⟨⟨_,a⟩,_,b⟩=>⟨fun j _=>a j,fun j _=>b j,trivial⟩⟩
def zDg(p:Pl)(day:Int):Hd:=if p.there=true then { There:=true,Covered:=zCS p && decide (p.sown<=day),Owner:=p.owner,Value:=p.value } else hd0
theorem zDh{p:Pl}{day:Int}:ztd p day=some (zDg p day):=by
 unfold ztd zDg ztc
 by_cases h:p.there=true
 ·rw[yab h,yab h,zCY,obs]
  cases hs:zCS p with
  | true=>rw[yab rfl]; rfl
  | false=>rw[yaa (by simp)]; rfl
 ·rw[yaa h,yaa h]; rfl
theorem zDi{day:Int}{r:List Pl × Bool}(hr:r.1.length=10){n:Nat}(hn:n<=10):∀(d k:Nat) (pre:List Hd),k<=n->n - k < d->pre.length=k->ztC day r d (k:Int) (pre++List.replicate (n - k) hd0)=some (pre++(segI (k:Int) (n - k)).map (fun i=>zDg (zCR r.1 i) day),0)
 | 0,_,_,_,h,_=>by omega
 | d+1,k,pre,hk,h,hp=>by
  rw[ztC]
  have q:(pre++List.replicate (n - k) hd0).length=n:=by rw[yai,ybs]; omega
  by_cases s:k < n
  ·have e1:n - k=(n - (k+1))+1:=by omega
   have a:(pre++List.replicate (n - k) hd0).set (Int.toNat (k:Int)) (zDg (zCR r.1 (k:Int)) day)=(pre++[zDg (zCR r.1 (k:Int)) day])++List.replicate (n - (k+1)) hd0:=by
    rw[ya3,ybP _ _ (by omega),hp,ybn,e1,ybl,yav]; rfl
   have hx:∃v,idx (pre++List.replicate (n - k) hd0) (k:Int)=some v:=⟨_,zrB (yak (by omega))⟩;obtain⟨v,hx⟩:=hx;rw[yab (by omega),zqj (by omega),zqj hr,zCW hr (by omega),obs,zDh,obs,hx,obs,zqj (fI (by omega)),a,show(k:Int)+1=((k+1:Nat):Int) by omega,zDi hr hn d (k+1) _ (by omega) (by omega) (by rw[yai,hp]; rfl),e1,segI,yaX,yav]; rfl
  ·rw[yaa (by omega),show n - k=0 by omega,segI]; simp
def wkN(b:Boo):Wk:=(zs0 b).getD { b:=b,numbers:=0,makes:=⟨0,0,0,0,0,0⟩,out:=zCh }
theorem zDj{b:Boo}(hl:b.Entries.length<=6)(hp:b.Parcels.length<=100):zs0 b=some (wkN b)/\zCj (wkN b) b:=by
 obtain⟨w,h1,h2⟩:=zCn hl hp;unfold wkN;rw[h1]; exact⟨rfl,h2⟩
def zDk(b:Boo)(t:Tr)(day:Int):List Pl × Bool:=stepsN day (zDa (wkN b) b t) (zC7 b t.Sown) (zC7 b t.Sown)
theorem zDl{b:Boo}:zCf b=0↔(b.Owners<=4/\b.Parcels.length<=4/\b.Entries.length<=6)/\zCe b/\zBX 1 (zCa b)<=1000:=by
 unfold zCf
 by_cases c1:4 < b.Owners\/4 < b.Parcels.length\/6 < b.Entries.length
 ·rw[yab c1]; exact⟨fun h=>absurd h (by omega),fun h=>by omega⟩
 ·rw[yaa c1]
  by_cases c2:zCe b
  ·rw[yab c2]
   by_cases c3:1000 < zBX 1 (zCa b)
   ·rw[yab c3]; exact⟨fun h=>absurd h (by omega),fun h=>by omega⟩
   ·rw[yaa c3]; exact⟨fun _=>⟨by omega,c2,by omega⟩,fun _=>rfl⟩
  ·rw[yaa c2]; exact⟨fun h=>absurd h (by omega),fun h=>absurd h.2.1 c2⟩
section
variable {b:Boo} (hb:zsc b)
include hb
theorem zDm(hf:zCf b=0){t:Tr}{day:Int}(ht:zDe b t)(hd:InN day 0 b.Last):ztD b t day=some (if (zDk b t day).2=true then ((segI 0 (zBM b).toNat).map (fun i=>zDg (zCR (zDk b t day).1 i) day),0) else ([],11))/\zCV (zDk b t day).1:=by
 obtain⟨⟨k1,k2,k3⟩,⟨k4,k5,k6⟩,k7⟩:=zDl.1 hf;obtain⟨w1,w2⟩:=zDj (b:=b) k3 (by omega);have hr:=zBQ (l:=b.Entries);have a:zBM b=(b.Parcels.length:Int)+zBL b.Entries:=rfl;obtain⟨p1,p2⟩:=zDc w2 k3 k2 k5 k6 (t:=t) (day:=day) (by have:=zAo ht.1; rw[yas] at this; exact this) (by have:=zAo ht.2; rw[yas] at this; exact this);refine⟨?_,p2⟩;unfold ztD;rw[zCz hb,obs,yab hf,w1,obs,(zDf w2 (by omega) (by omega)).some_of ht,obs,yab rfl,zCp.some_of (by rw[w2.eb]; exact hd),obs,yab rfl,p1,obs]
 show(if (zDk b t day).2=true then _ else _)=_
 by_cases h2:(zDk b t day).2=true
 ·rw[yab h2,yab h2,w2.n,zqj (by omega)];exact zDi p2.1 (n:=(zBM b).toNat) (by omega) 1000000 0 [] (yam _) (by omega) rfl
 ·rw[yaa h2,yaa h2]
end
def zDn(c:Cs)(t:Tr):Option Hd:=if (zDk c.Book t c.Day).2=true then some (zDg (zCR (zDk c.Book t c.Day).1 c.Parcel) c.Day) else none
theorem zDo{c:Cs}(hb:zsc c.Book)(hf:zCf c.Book=0){t:Tr}(ht:zDe c.Book t)(hd:InN c.Day 0 c.Book.Last)(hp:InN c.Parcel 0 (zBM c.Book - 1)) :
  zun c t=some (match zDn c t with | some h=>(h,0) | none=>(hd0,11)):=by
 unfold zun zDn;rw[(zDm hb hf ht hd).1,obs]
 by_cases h2:(zDk c.Book t c.Day).2=true
 ·rw[yab h2,yab h2,yab rfl];unfold InN at hp
  have:idx ((segI 0 (zBM c.Book).toNat).map fun i=>zDg (zCR (zDk c.Book t c.Day).1 i) c.Day) c.Parcel=some (zDg (zCR (zDk c.Book t c.Day).1 c.Parcel) c.Day):=by
   have hk:=zrB (l:=(segI 0 (zBM c.Book).toNat).map fun i=>zDg (zCR (zDk c.Book t c.Day).1 i) c.Day) (k:=c.Parcel.toNat) (a:=zDg (zCR (zDk c.Book t c.Day).1 c.Parcel) c.Day) (by
    rw[ybM,zrV (by omega),show(0:Int)+(c.Parcel.toNat:Int)=c.Parcel by omega]; rfl)
   rw[show((c.Parcel.toNat:Nat):Int)=c.Parcel by omega] at hk;exact hk
  rw[this]; rfl
 ·rw[yaa h2,yaa h2,yaa (by decide)]; rfl
theorem zDp{c:Cs}(hb:zsc c.Book)(hf:zCf c.Book=0){t:Tr}(ht:zDe c.Book t)(hd:InN c.Day 0 c.Book.Last){h:Hd}(he:zDn c t=some h):0<=h.Value/\h.Value<=1000:=by
 have hs:=(zDm hb hf ht hd).2;unfold zDn at he
 split at he
 ·cases he
  unfold zDg
  split
  ·exact hs.at _
  ·exact⟨by decide,by decide⟩
 ·cases he
end
end Go.Proofs.YtpjnfiegpjlfgaaGreat

namespace Go.Proofs.YtpjnfiegpjlfgaaGreat
open _root_.Go.Proofs.Tryz
open Go.Abs
set_option maxRecDepth 100000
noncomputable section
def WiN(r:Rg)(lo hi:Int):Prop:=lo<=r.Lo/\r.Lo<=r.Hi/\r.Hi<=hi
def zDq(c:Cs)(x:Cv):Prop:=InN x.Society 0 (c.Societies - 1)/\InN x.Owner 0 (c.Book.Owners - 1)/\InN x.Parcel 0 (zBM c.Book - 1)/\InN x.Sum 0 1000/\InN x.Until 0 c.Book.Last/\WiN x.Start 0 c.Book.Last
def zDr(c:Cs)(x:Clm):Prop:=InN x.Society 0 (c.Societies - 1)/\WiN x.Paid 0 1000
def zDs(c:Cs):Prop:=(1<=c.Societies/\InN c.Day 0 c.Book.Last/\InN c.Parcel 0 (zBM c.Book - 1)/\WiN c.Loss 0 100)/\(∀x∈c.Covers,zDq c x)/\∀x∈c.Claims,zDr c x
def zDt(c:Cs):Int:=zBX 1 (zCa c.Book) * zBX 1 (zAl c)
open Classical in
def zDu(c:Cs):Int:=if zCf c.Book=0 then (if 3 < c.Societies\/5 < c.Covers.length\/5 < c.Claims.length then 3 else if zDs c then (if 2000 < zDt c then 3 else 0) else 1) else zCf c.Book
theorem zDv{r:Rg}{lo hi:Int}:Ev (zuY r lo hi) (WiN r lo hi):=Ev.ite fun _=>Ev.ite fun _=>Ev.dec Iff.rfl
theorem zDw{r:Rg}{hi:Int}:Ev (ztG r hi) (WiN r 0 hi):=Ev.ite fun _=>Ev.ite fun _=>Ev.dec Iff.rfl
theorem zDx{n l:Int}:Ev (ztE n l) (InN n 0 l):=Ev.ite fun _=>Ev.dec Iff.rfl
section
variable {c:Cs} (h1:c.Book.Entries.length<=6) (h2:c.Book.Parcels.length<=4)
include h1 h2
theorem zDy{n:Int}:Ev (ztL c n) (InN n 0 (zBM c.Book - 1)):=by
 have key:∀(d k:Nat),k<=c.Book.Entries.length->c.Book.Entries.length - k < d->Ev (ztK c n d ((c.Book.Parcels.length:Int) - 1+zBL (c.Book.Entries.take k)) (k:Int)) (InN n 0 (zBM c.Book - 1)):=by
  intro d
  induction d with
  | zero=>intro k _ h; omega
  | succ d ih=>
   intro k hk h;rw[ztK]
   by_cases i:k < c.Book.Entries.length
   ·have hg:=yak i;have a:=zCk hg;have hr:=zBQ (l:=c.Book.Entries.take k)
    have s:(c.Book.Entries.take k).length<=6:=by rw[yap]; omega
    have ih:=ih (k+1) (by omega) (by omega);rw[yab (by omega),zrB hg,obs]
    by_cases k1:c.Book.Entries[k].Kind=1
    ·rw[yab k1] at a;rw[yab k1,zqj (fI (by omega)),zqj (fI (by omega)),show(k:Int)+1=((k+1:Nat):Int) by omega,Int.add_assoc,<- a];exact ih
    ·rw[yaa k1,ycc] at a;rw[yaa k1,zqj (fI (by omega)),show(k:Int)+1=((k+1:Nat):Int) by omega,<- a];exact ih
   ·have q:k=c.Book.Entries.length:=by omega
    subst q;rw[yaa (by omega),ybc]
    have:(c.Book.Parcels.length:Int) - 1+zBL c.Book.Entries=zBM c.Book - 1:=by unfold zBM; omega
    rw[this];exact zDx.ret
 unfold ztL;have k0:=key (c.Book.Entries.length+1) 0 (yam _) (by omega);have e0:zBL (c.Book.Entries.take 0)=0:=rfl;rw[e0,ycc] at k0;exact Ev.gd (fI (by omega)) k0
theorem zDz(ho:1<=c.Book.Owners/\c.Book.Owners<=4)(hs:1<=c.Societies/\c.Societies<=3){x:Cv}:Ev (ztM c x) (zDq c x):=by
 refine((zBb hs).and fun _=>(Ev.gd (P:=InN x.Owner 0 (c.Book.Owners - 1)) (fI (by omega)) zDx.ret).and fun _=>(zDy h1 h2).and fun _=>zDx.and fun _=>zDw.and fun _=>(zDx.ret (P:=InN x.Until 0 c.Book.Last)).ret).imp ?_;unfold zDq;exact⟨fun⟨a,b,c,d,e,f⟩=>⟨a,b,c,d,f,e⟩,fun⟨a,b,c,d,f,e⟩=>⟨a,b,c,d,e,f⟩⟩
theorem zDA(ho:1<=c.Book.Owners/\c.Book.Owners<=4)(hs:1<=c.Societies/\c.Societies<=3){x:Cv}:Ev (zu0 c x) (zDq c x):=by
 have hr:=zBV (b:=c.Book) (by omega) (by omega);exact Ev.gd (fI (by omega)) (zBR.and fun _=>Ev.gd (fI (by omega)) (zBR.and fun _=>Ev.bind (zBU (by omega) (by omega)) (Ev.gd (fI (by omega)) (zBR.and fun _=>zBR.and fun _=>zBR.and fun _=>zDv.ret))))
omit h1 h2 in
theorem zDB(hs:1<=c.Societies/\c.Societies<=3){x:Clm}:Ev (ztN c x) (zDr c x):=(zBb hs).and fun _=>zDw.ret
end
theorem gC{l:List Cv}{p:Cv->Option Bool}:∀{d:Nat} {x:Int},pindexC_L0 l p d x=gIdx l p d x
 | 0,_=>rfl
 | d+1,x=>by unfold pindexC_L0 gIdx; simp only[gC]
theorem zDC{c:Cs}(hz:zBZ 1000 (c.Covers.map (·.Start)))(hr:∀x∈c.Covers,okR x.Start)(hl:c.Covers.length<=100):∀(d k:Nat) (x:Int),k<=c.Covers.length->c.Covers.length - k < d->1<=x->x<=3000->zu1 c d x (k:Int)=some (zBY 3000 x ((c.Covers.drop k).map (·.Start)))
 | 0,_,_,_,h,_,_=>by omega
 | d+1,k,x,hk,h,h0,hx=>by
  rw[zu1]
  by_cases a:k < c.Covers.length
  ·have hg:=yak a;have hm:=ya9 a;have hs:=hz _ (yaq.2 ⟨_,hm,rfl⟩);have ho:=hr _ hm;unfold okR at ho
   have es:zuZ c.Covers[k].Start=some (szR c.Covers[k].Start):=by unfold zuZ; rw[zqj (fI (by omega)),zqj (fI (by omega))]; rfl
   have i:=zB7 (C:=3000) ⟨by omega,hx⟩ hs (by omega);have h1:x * 1<=x * szR c.Covers[k].Start:=ybg hs.1 (by omega);rw[yab (by omega),zrB hg,obs,es,obs,zqj (by omega),zqj (by omega),zqj (fI (by omega)),zqj (fI (by omega)),show(k:Int)+1=((k+1:Nat):Int) by omega,zDC hz hr hl d (k+1) _ (by omega) (by omega) (by omega) (by omega),yat a]; rfl
  ·rw[yaa (by omega),yax (by omega)]; rfl
theorem zDD{l k:List Rg}{x:Int}:zBX x (l++k)=zBX x (k++l):=by
 rw[zB2,zB2,zB0 (l:=k),zB0 (l:=l) (x:=x),zB0 (l:=l) (x:=zBX x k),zB0 (l:=k) (x:=x),Int.mul_assoc,Int.mul_assoc,Int.mul_comm (zBX 1 l)]
theorem zDE{c:Cs}(hL:c.Book.Last<=30)(hf:zDs c):zBZ 101 (zAl c)/\∀r∈zAl c,okR r:=by
 have key:∀r∈zAl c,(1<=szR r/\szR r<=101)/\okR r:=fun r hr=>by
  unfold szR okR
  rcases yaL.1 hr with h | h
  ·obtain⟨x,hx,rfl⟩:=yaq.1 h;have:=(hf.2.1 x hx).2.2.2.2.2;unfold WiN at this; omega
  ·rw[yaP.1 h];have:=hf.1.2.2.2;unfold WiN at this; omega
 exact⟨fun r hr=>(key r hr).1,fun r hr=>(key r hr).2⟩
theorem zDF{c:Cs}(hb:zCf c.Book=0)(hf:zDs c)(hl:c.Covers.length<=5):zu2 c=some (min 3000 (zDt c))/\1<=zDt c:=by
 obtain⟨⟨k1,k2,k3⟩,⟨k4,k5,k6⟩,k7⟩:=zDl.1 hb;obtain⟨hz,hr⟩:=zDE k4.1.2 hf;obtain⟨bz,br⟩:=zCc k4.1.2 k5 k6;have bp:=zB4 bz;have op:=zB4 hz;have a:=hz c.Loss (yaZ _ (yaP.2 rfl));have s:=hr c.Loss (yaZ _ (yaP.2 rfl));unfold okR at s;have i:zBZ 1000 (c.Covers.map (·.Start)):=zBZ.mono (by omega) (fun r hr=>yaR _ hr) hz
 have es:zuZ c.Loss=some (szR c.Loss):=by unfold zuZ; rw[zqj (fI (by omega)),zqj (fI (by omega))]; rfl
 have u:=zB7 (C:=1000) (x:=zBX 1 (zCa c.Book)) ⟨by omega,k7⟩ a (by omega);have h1:zBX 1 (zCa c.Book) * 1<=zBX 1 (zCa c.Book) * szR c.Loss:=ybg a.1 (by omega)
 have q:1<=zDt c:=by
  unfold zDt;have:=ybX bp op (by omega) (by omega)
  omega
 refine⟨?_,q⟩;unfold zu2;rw[zCd (by omega) (by omega) k4.1.2 k5 k6,obs,es,obs,ybT (by omega),zqj (by omega),zqj (by omega),zqj (fI (by omega))];refine(zDC i (fun x hx=>hr _ (yaR _ (yaq.2 ⟨x,hx,rfl⟩))) (by omega) 1000000 0 _ (yam _) (by omega) (by omega) (by omega)).trans ?_;rw[yau];have e1:zBY 3000 (min 3000 (zBX 1 (zCa c.Book) * szR c.Loss)) (c.Covers.map (·.Start))=zBY 3000 (zBX 1 (zCa c.Book)) ([c.Loss]++c.Covers.map (·.Start)):=rfl;rw[e1,zB5 (S:=1000) (by omega) (fun r hr=>?_) (by omega) (by omega)]
 ·rw[zDD,zB0]; rfl
 ·rcases yaL.1 hr with h | h
  ·rw[yaP.1 h]; omega
  ·exact i r h
theorem zDG{c:Cs}(hc:zsn c):zu5 c=some (zDu c):=by
 obtain⟨⟨b1,b2,b3,b4⟩,f2,f3,f4,⟨f5,_⟩,f6,f7,_⟩:=hc;have f2:=fI' f2;unfold zu5 zDu;rw[zCg b2,obs]
 by_cases hb:zCf c.Book=0
 rotate_left
 ·rw[yaa hb,yaa hb]
 rw[yab hb,yab hb];obtain⟨⟨k1,k2,k3⟩,⟨k4,k5,k6⟩,k7⟩:=zDl.1 hb;have hr:=zBV (b:=c.Book) (by omega) (by omega)
 by_cases c1:3 < c.Societies
 ·rw[yab c1,yab (.inl c1)]
 rw[yaa c1]
 by_cases c2:5 < c.Covers.length
 ·rw[yab (by omega),yab (.inr (.inl c2))]
 rw[yaa (by omega)]
 by_cases c3:5 < c.Claims.length
 ·rw[yab (by omega),yab (.inr (.inr c3))]
 rw[yaa (by omega),yaa (show ¬ (3 < c.Societies\/5 < c.Covers.length\/5 < c.Claims.length) by omega)]
 by_cases c4:c.Societies < 1
 ·rw[yab c4,yaa fun h=>by have:=h.1.1; omega]
 rw[yaa c4]
 refine zBR.pick (P:=InN c.Day 0 c.Book.Last) (fun d1=>?_) fun d1=>by rw[yaa (by simp),yaa fun h=>d1 h.1.2.1]
 rw[yab rfl,zBU (by omega) (by omega),obs,zqj (fI (by omega))]
 refine zBR.pick (P:=InN c.Parcel 0 (zBM c.Book - 1)) (fun d2=>?_) fun d2=>by rw[yaa (by simp),yaa fun h=>d2 h.1.2.2.1]
 rw[yab rfl]
 refine zDv.pick (P:=WiN c.Loss 0 100) (fun d3=>?_) fun d3=>by rw[yaa (by simp),yaa fun h=>d3 h.1.2.2.2]
 rw[yab rfl]
 obtain⟨l1,l2⟩:=zrJ (l:=c.Covers) (F:=fun d x=>zu4 c d 0 x) (ok:=zDq c) (bad:=some 1) (fin:=zu3 c 1000000 0) (fun d k a hk=>by
  have w:=(yah.1 hk).1
  have e1:zu4 c (d+1) 0 (k:Int)=(zu0 c a).bind fun i=>(if i=true then zu4 c d 0 ((k:Int)+(1:Int)) else (some (1:Int))):=by
   rw[zu4,yab (by omega),zrB hk,obs,zqj (fI (by omega))]
  rw[e1]
  exact(zDA k3 k2 ⟨by have:=k4.2; omega,k1⟩ (by omega)).step (by rw[yab rfl]) (by rw[yaa (by simp)])) (fun d=>by
  show zu4 c (d+1) 0 _=_
  rw[zu4,yaa (yaJ _)]) (d:=1000000) (by omega)
 by_cases c5:∀x∈c.Covers,zDq c x
 rotate_left
 ·rw[yaa fun h=>c5 h.2.1]; exact l2 c5
 refine(l1 c5).trans ?_
 obtain⟨m1,m2⟩:=zrJ (l:=c.Claims) (F:=fun d x=>zu3 c d x) (ok:=zDr c) (bad:=some 1) (fin:=(zu2 c).bind fun q=>(if (2000:Int) < q then (some (3:Int)) else (some (0:Int)))) (fun d k a hk=>by
  have w:=(yah.1 hk).1
  have e1:zu3 c (d+1) (k:Int)=(zsp a.Society (0:Int) (c.Societies - (1:Int))).bind fun s=>(if s=true then ((zuY a.Paid (0:Int) (1000:Int)).bind fun u=>(if u=true then zu3 c d ((k:Int)+(1:Int)) else (some (1:Int)))) else (some (1:Int))):=by
   rw[zu3,yab (by omega),zrB hk,obs,obs,zqj (fI (by omega)),zqj (fI (by omega))]
  rw[e1]
  constructor
  ·intro h;rw[zBR.some_of h.1,obs,yab rfl,zDv.some_of h.2,obs,yab rfl]
  ·intro h
   refine zBR.pick (P:=InN a.Society 0 (c.Societies - 1)) (fun q1=>?_) fun q1=>by rw[yaa (by simp)]
   rw[yab rfl]
   exact zDv.pick (fun q2=>absurd ⟨q1,q2⟩ h) fun q2=>by rw[yaa (by simp)]) (fun d=>by
  show zu3 c (d+1) _=_
  rw[zu3,yaa (yaJ _)]) (d:=1000000) (by omega)
 by_cases c6:∀x∈c.Claims,zDr c x
 rotate_left
 ·rw[yaa fun h=>c6 h.2.2]; exact m2 c6
 refine(m1 c6).trans ?_;have hF:zDs c:=⟨⟨by omega,d1,d2,d3⟩,c5,c6⟩;rw[yab hF,(zDF hb hF (by omega)).1,obs]
 by_cases c7:2000 < zDt c
 ·rw[yab (by omega),yab c7]
 ·rw[yaa (by omega),yaa c7]
theorem zDH{c:Cs}(hc:zsn c):zt9 c=some (zDu c):=by
 obtain⟨i,f2,f3,f4,⟨f5,_⟩,f6,f7,_⟩:=hc;have f2:=fI' f2;unfold zt9 zDu;rw[zCz i,obs]
 by_cases hb:zCf c.Book=0
 rotate_left
 ·rw[yaa hb,yaa hb]
 rw[yab hb,yab hb];obtain⟨⟨k1,k2,k3⟩,⟨k4,k5,k6⟩,k7⟩:=zDl.1 hb
 have et:zt3 c=some (decide (3 < c.Societies\/5 < c.Covers.length\/5 < c.Claims.length)):=by
  unfold zt3
  by_cases c1:3 < c.Societies
  ·rw[yab c1,decide_eq_true (.inl c1)]
  rw[yaa c1]
  by_cases c2:5 < c.Covers.length
  ·rw[yab (by omega),decide_eq_true (.inr (.inl c2))]
  rw[yaa (by omega)];exact congrArg some (decide_eq_decide.2 (by omega))
 rw[et,obs]
 by_cases c1:3 < c.Societies\/5 < c.Covers.length\/5 < c.Claims.length
 ·rw[yab (decide_eq_true c1),yab c1]
 rw[yaa (by simpa using c1),yaa c1]
 have hv:Ev (zt2 c) (zDs c):=by
  by_cases c4:1<=c.Societies
  ·unfold zDs;refine(Ev.ite fun _=>(zDx.ret (P:=InN c.Day 0 c.Book.Last)).and fun _=>(zDy k3 k2).and fun _=>zDw.and fun _=>(Ev.each (q:=zDq c) (fun a _=>zDz k3 k2 ⟨by have:=k4.2; omega,k1⟩ (by omega)) (by omega) gC).and fun _=>(Ev.each (q:=zDr c) (fun a _=>zDB (by omega)) (by omega) gM).ret).imp ?_;exact⟨fun⟨a,b,c,d,e,f⟩=>⟨⟨a,b,c,d⟩,e,f⟩,fun⟨⟨a,b,c,d⟩,e,f⟩=>⟨a,b,c,d,e,f⟩⟩
  ·unfold zt2;rw[yaa c4];exact Ev.ff fun h=>c4 h.1.1
 refine hv.pick (fun hF=>?_) fun hF=>by rw[yaa (by simp),yaa hF]
 obtain⟨bz,br⟩:=zCc k4.1.2 k5 k6;obtain⟨hz,hr⟩:=zDE k4.1.2 hF
 have bl:(zCa c.Book).length<=10:=by unfold zCa; rw[yai,yas,yas]; omega
 have ol:(zAl c).length<=6:=by unfold zAl; rw[yai,yas,ybF]; omega
 have bp:=zB4 bz;have op:=zB4 hz
 have ob:zBX 1 (zAl c)<=1061520150601:=by
  have key:∀(l:List Rg),zBZ 101 l->zBX 1 l<=((101 ^ l.length:Nat):Int):=by
   intro l
   induction l with
   | nil=>intro _; exact ybf _
   | cons r l ih=>
    intro h;have ih:=ih fun r hr=>h r (yag _ hr);have hr:=h r (yae ..);rw[zB1,ybW,zB0,yaE,Nat.pow_succ,yby,Int.mul_comm];exact ybX ih hr.2 (by omega) (yaT _)
  have h1:=key _ hz;have h2:(101:Nat) ^ (zAl c).length<=101 ^ 6:=ybz (by omega) ol
  have h3:(101:Nat) ^ 6=1061520150601:=by decide
  omega
 have u:zBX 1 (zCa c.Book) * zBX 1 (zAl c)<=1000 * 1061520150601:=ybX k7 ob (by omega) (by omega);have s:0<=zBX 1 (zCa c.Book) * zBX 1 (zAl c):=ybu (by omega) (by omega);rw[yab rfl,yab hF,zAm (by omega) (by omega),obs];rw[show zAk c=zCa c.Book from rfl,zCy (S:=31) (by omega) bz br (by omega) (yad (ybz (by omega) bl) (by decide)),obs,zAn (by omega),obs,zCy (S:=101) (by omega) hz hr (by omega) (yad (ybz (by omega) ol) (by decide)),obs,zqj (by omega),zqj (by omega),zqj (fI (by omega))]
 show(if 2000 < zDt c then _ else _)=_
 by_cases c7:2000 < zDt c
 ·rw[yab c7,yab c7]
 ·rw[yaa c7,yaa c7]
end
end Go.Proofs.YtpjnfiegpjlfgaaGreat

namespace Go.Proofs.YtpjnfiegpjlfgaaGreat
open _root_.Go.Proofs.Tryz
open Go.Abs
set_option maxRecDepth 100000
noncomputable section
theorem zDI{α β:Type}{a a':Option α}{f:α->Option β}(h:a=a'):a.bind f=a'.bind f:=by rw[h]
theorem zDJ{α:Type}{p q:Prop}{x:Option α}(h:p=q):gd p x=gd q x:=by rw[h]
theorem zDK{α:Type}{x:Option α}:gd True x=x:=zqj trivial
def pcS:Pc:={ Owner:=0,Value:=100,Sown:={ Lo:=0,Hi:=0 } }
def enS:En:={ Kind:=0,Parcel:=0,Other:=0,From:=0,To:=1,Part:=0,Day:={ Lo:=4,Hi:=5 } }
def zDL:Boo:={ Last:=9,Owners:=2,Parcels:=[pcS],Entries:=[enS] }
attribute [local congr] zDI zDJ
attribute [local simp] zDK
set_option maxHeartbeats 4000000
theorem zDM:zs0 zDL=some { b:=zDL,numbers:=1,makes:=⟨0,0,0,0,0,0⟩,out:=⟨false,false,false,false,false,false⟩ }:=by
 simp[zs0,zsZ,zDL,enS,pcS,idx,zl2]
def wkS:Wk:={ b:=zDL,numbers:=1,makes:=⟨0,0,0,0,0,0⟩,out:=⟨false,false,false,false,false,false⟩ }
theorem zDN:zsX wkS=some true:=by
 simp[zsX,wkS,zDL,enS,pcS,idx,zl2,zsG,zsR,zsW,zsQ,zsV,zsP,zsU,zsO,zsT,zsN,zsS,zsM,zsL,zsI,zsK,zsJ,zsH]
theorem zDO:zs7 zDL=some 0:=by
 have h:=zDN;unfold zs7;rw[zDM]
 simp only[obs]
 rw[show({ b:=zDL,numbers:=1,makes:=⟨0,0,0,0,0,0⟩,out:=⟨false,false,false,false,false,false⟩ }:Wk)=wkS from rfl,h]
 simp[zsY,zs3,zs2,zs1,zs6,zs5,zs4,wkS,zDL,enS,pcS,idx,zl2]
def trS(d:Int):Tr:={ Days:=[d],Sown:=[0] }
def plS(o:Int):Pl:={ owner:=o,value:=100,there:=true,harvested:=false,sown:=0 }
def hdS(o:Int):Hd:={ There:=true,Covered:=true,Owner:=o,Value:=100 }
theorem zDP{d:Int}(h:d=4\/d=5):zta wkS (trS d)=some true:=by
 rcases h with rfl | rfl <;> simp[zta,zs9,zs8,wkS,trS,zDL,enS,pcS,idx,zl2,zsG]
theorem zDQ{d:Int}:ztz wkS [d]=some [{ e:=enS,on:=d,makes:=0 }]:=by
 simp[ztz,zty,ztx,ztw,ztv,ztu,ztp,zto,wkS,zDL,enS,pcS,idx,zl2]
theorem zDR{d:Int}(h:d=4\/d=5):ztB wkS (trS d) 4=some (plS (if d=4 then 1 else 0)::List.replicate 9 { owner:=0,value:=0,there:=false,harvested:=false,sown:=0 },true):=by
 unfold ztB;have:=zDQ (d:=d);unfold trS
 simp only[this]
 rcases h with rfl | rfl <;> simp[ztj,zti,ztA,ztr,zte,ztb,wkS,zDL,enS,pcS,idx,zl2,plS,List.replicate]
theorem zDS{d:Int}(h:d=4\/d=5):ztD zDL (trS d) 4=some ([hdS (if d=4 then 1 else 0)],0):=by
 unfold ztD;rw[zDO,zDM]
 simp only[obs]
 rw[show({ b:=zDL,numbers:=1,makes:=⟨0,0,0,0,0,0⟩,out:=⟨false,false,false,false,false,false⟩ }:Wk)=wkS from rfl,zDP h,zDR h]
 rcases h with rfl | rfl <;> simp[zsJ,zsG,ztC,ztd,ztc,ztb,wkS,zDL,plS,hdS,idx,zl2,List.replicate]
def zDT(cl:List Clm):Cs:={ Book:=zDL,Societies:=2,Day:=4,Parcel:=0,Covers:=[{ Society:=0,Owner:=0,Parcel:=0,Sum:=60,Until:=9,Start:={ Lo:=1,Hi:=1 } },{ Society:=1,Owner:=0,Parcel:=0,Sum:=90,Until:=9,Start:={ Lo:=3,Hi:=5 } },{ Society:=1,Owner:=1,Parcel:=0,Sum:=50,Until:=9,Start:={ Lo:=0,Hi:=0 } }],Loss:={ Lo:=40,Hi:=50 },Claims:=cl }
def zDU:List Clm:=[{ Society:=0,Paid:={ Lo:=16,Hi:=20 } },{ Society:=1,Paid:={ Lo:=10,Hi:=20 } }]
theorem zDV(cl:List Clm):zve cl=some (zDT cl):=rfl
theorem zDW:zvf=some zDU:=rfl
theorem zDX:zvg=some { Book:=trS 5,Starts:=[1,4,0],Loss:=50 }:=rfl
def eS(t:Tr):Option Hd:=some (hdS (if t.Days=[4] then 1 else 0))
theorem zDY{cl:List Clm}(h:cl=[]\/cl=zDU):zt9 (zDT cl)=some 0:=by
 unfold zt9;rw[show(zDT cl).Book=zDL from rfl,zDO]
 rcases h with rfl | rfl <;> simp[zt3,zt2,zDT,zDU,zDL,enS,pcS,idx,zl2,ztJ,ztE,ztL,ztK,ztG,ztR,ztW,ztQ,ztV,ztP,ztU,pindexC_L0,ztT,ztO,ztS,ztM,ztN,ztH,ztI,zt6,zt5,zt4,zt8,zt7,zs6,zs5,zs4]
theorem zDZ:∀days∈chW (zAk (zDT [])) [],days=[4,0]\/days=[5,0]:=by decide
theorem zD0{cl:List Clm}(h:zz5 cl)(hl:cl.length<=20):zAw (zDT cl) eS:=by
 refine⟨fun days hd=>?_,fun t h he=>?_,show 1<=20 by decide,show 1<=20 by decide,?_,?_,show 3<=20 by decide,?_,show(0:Int)<=40/\(40:Int)<=50/\(50:Int)<=100 by decide,h,hl,show(1:Int)<=2/\(2:Int)<=3 by decide⟩
 ·have:=zDZ days hd
  have key:∀d:Int,d=4\/d=5->zun (zDT cl) (trS d)=some (hdS (if d=4 then 1 else 0),0):=fun d hd=>by
   unfold zun;rw[show(zDT cl).Book=zDL from rfl,show(zDT cl).Day=4 from rfl,zDS hd]
   rfl
  rcases this with rfl | rfl
  ·exact key 4 (.inl rfl)
  ·exact key 5 (.inr rfl)
 ·cases he; exact show(0:Int)<=100/\(100:Int)<=10000 by decide
 ·intro r hr
  have:r={ Lo:=4,Hi:=5 }\/r={ Lo:=0,Hi:=0 }:=by simpa [zAk,zDT,zDL,enS,pcS] using hr
  rcases this with rfl | rfl <;> exact⟨by decide,by decide⟩
 ·intro v hv;have:v∈(zDT []).Covers:=hv
  simp[zDT] at this
  rcases this with rfl | rfl | rfl <;> exact⟨⟨by decide,by decide⟩,by decide,by decide⟩
 ·intro v hv;have:v∈(zDT []).Covers:=hv
  simp[zDT] at this
  rcases this with rfl | rfl | rfl <;> exact⟨by decide,by decide⟩
theorem zD1{cl:List Clm}(h:cl=[]\/cl=zDU):zA8 (zDT cl) eS:=by
 refine⟨zD0 ?_ ?_,zDY h,?_⟩
 ·rcases h with rfl | rfl
  ·exact fun x hx=>by cases hx
  ·intro x hx
   simp[zDU] at hx
   rcases hx with rfl | rfl <;> exact⟨by decide,by decide⟩
 ·rcases h with rfl | rfl <;> decide
 ·have:(zAv (zDT cl) eS).length=(zAv (zDT []) eS).length:=rfl;rw[this]
  decide
theorem zD2:zui 50 [33,33,34]=some ([16,17,17],0):=by
 simp[zui,zub,ztE,zt1,zt0,ztZ,ztY,ztX,zua,idx,zl2,zuh,zud,zuc,zug,sti,zuf,zue]
theorem zD3:zur (zDT []) { Book:=trS 5,Starts:=[1,4,0],Loss:=50 }=some ([20,30],50,0):=by
 have hf:zum (zDT []) { Book:=trS 5,Starts:=[1,4,0],Loss:=50 }=some true:=by
  simp[zum,zul,zDT,idx,zl2,ztF]
 have:=zBK (zD1 (.inl rfl)) hf (fun e he=>by cases he; exact show(0:Int)<=100/\(100:Int)<=10000 by decide) (by
  unfold zun;rw[show(zDT []).Book=zDL from rfl,show(zDT []).Day=4 from rfl,zDS (.inr rfl)]
  rfl) (by decide) (by decide)
 rw[this]
 decide
theorem zD4{L:List Dm}{l:List Clm}{g:Dm->Int}{lo hi:Int}(h:zrN (zBk L l g)=lo/\zrO (zBk L l g)=hi):bdN L l g={ Lo:=lo,Hi:=hi }:=by unfold bdN; rw[h.1,h.2]
theorem noS:noN (zDT []) eS=0:=by decide +kernel
theorem zD5:zuS (zDT [])=some ([{ Pays:={ Lo:=0,Hi:=50 },Refund:={ Lo:=0,Hi:=30 } },{ Pays:={ Lo:=0,Hi:=50 },Refund:={ Lo:=0,Hi:=20 } }],0):=by
 rw[zBy (zD1 (.inl rfl)),noS,yab rfl]
 show some ([zBx (zDT []) eS 0,zBx (zDT []) eS 1],(0:Int))=_
 unfold zBx;rw[zD4 (g:=zBq 0) (lo:=0) (hi:=50) (by decide +kernel),zD4 (g:=zBr 0) (lo:=0) (hi:=30) (by decide +kernel),zD4 (g:=zBq 1) (lo:=0) (hi:=50) (by decide +kernel),zD4 (g:=zBr 1) (lo:=0) (hi:=20) (by decide +kernel)]
theorem zD6:zuT (zDT [])=some ({ Lo:=40,Hi:=50 },0):=by
 rw[zBz (zD1 (.inl rfl)),noS,yab rfl,zD4 (lo:=40) (hi:=50) (by decide +kernel)]
theorem zD7:zuV (zDT zDU)=some (1,0):=by
 rw[zBD (zD1 (.inr rfl))]
 decide +kernel
theorem zD8:zuX (zDT zDU)=some ([1],0):=by
 rw[zBJ (zD1 (.inr rfl))]
 decide +kernel
theorem zD9:zvh=some true:=by
 unfold zvh;rw[zD2,zDV,zDX,zDW]
 simp only[obs,zDV]
 rw[zD3,zD5,zD6,zD7,zD8]
 simp[zvb,zva,zvd,idx,zl2]
end
end Go.Proofs.YtpjnfiegpjlfgaaGreat

namespace Go.Proofs.YtpjnfiegpjlfgaaGreat
open _root_.Go.Proofs.Tryz
open Go.Abs
set_option maxRecDepth 100000
noncomputable section
open Classical in
def zEa(c:Cs)(t:Tr):Option Hd:=if zDe c.Book t then zDn c t else none
theorem zEb:∀{us bs:List Rg} {xs:List Int},inR (us++bs) xs->inR us (xs.take us.length)/\inR bs (xs.drop us.length)
 | [],_,_,h=>⟨trivial,h⟩
 | _::_,_,[],h=>h.elim
 | a::us,bs,x::xs,h=>by
  obtain⟨h1,h2⟩:=zEb (us:=us) h.2;exact⟨⟨h.1,h1⟩,h2⟩
theorem zEc{α:Type}{g:Nat->List α}{L:Nat}(hg:∀n,(g n).length=L):∀(e n:Nat),(zru g e n).length=e * L
 | 0,n=>by rw[zru,yaN]; rfl
 | e+1,n=>by rw[zru,yai,hg,zEc hg e (n+1),ya7,ybm]
theorem zEd{S:Int}:∀{rs:List Rg} {pre:List Int},zBZ S rs->((chW rs pre).length:Int)=zBX 1 rs
 | [],pre,_=>rfl
 | r::rs,pre,h=>by
  have hr:=h r (yae ..);have hz:zBZ S rs:=fun r hr=>h r (yag _ hr);have ih:∀p,((chW rs p).length:Int)=zBX 1 rs:=fun p=>zEd hz
  have e0:∀p,(chW rs p).length=(zBX 1 rs).toNat:=fun p=>by have:=ih p; omega
  have hp:=zB4 hz;rw[chW,zEc (L:=(zBX 1 rs).toNat) (fun n=>e0 _),zB1,ybW,zB0 (x:=szR r),yby];rw[show((szR r).toNat:Int)=szR r by omega,show((zBX 1 rs).toNat:Int)=zBX 1 rs by omega]
theorem zEe{α β:Type}{f:α->List β}{n:Nat}(hf:∀a,(f a).length=n):∀l:List α,(l.flatMap f).length=l.length * n
 | []=>by simp
 | a::l=>by rw[ybC,yai,hf,zEe hf l,yaE,ya7,ybm]
theorem zEf{c:Cs}(h:zDu c=0):zCf c.Book=0/\(c.Societies<=3/\c.Covers.length<=5/\c.Claims.length<=5)/\zDs c/\zDt c<=2000:=by
 unfold zDu at h
 by_cases c0:zCf c.Book=0
 ·rw[yab c0] at h
  by_cases c1:3 < c.Societies\/5 < c.Covers.length\/5 < c.Claims.length
  ·rw[yab c1] at h; exact absurd h (by omega)
  ·rw[yaa c1] at h
   by_cases c2:zDs c
   ·rw[yab c2] at h
    by_cases c3:2000 < zDt c
    ·rw[yab c3] at h; exact absurd h (by omega)
    ·exact⟨c0,by omega,c2,by omega⟩
   ·rw[yaa c2] at h; exact absurd h (by omega)
 ·rw[yaa c0] at h; exact absurd h c0
theorem zEg{c:Cs}(hc:zsn c)(hf:zDu c=0):zA8 c (zEa c):=by
 obtain⟨hb,⟨n1,n2,n3⟩,hF,hm⟩:=zEf hf;obtain⟨⟨k1,k2,k3⟩,⟨k4,k5,k6⟩,k7⟩:=zDl.1 hb;obtain⟨bz,br⟩:=zCc k4.1.2 k5 k6;obtain⟨hz,hr⟩:=zDE k4.1.2 hF;have bp:=zB4 bz;have op:=zB4 hz
 have i:∀days∈chW (zAk c) [],zDe c.Book (zAs c.Book.Entries.length days):=fun days hd=>by
  have:=zEb (zAq.1 hd);rw[yas] at this;exact this
 have hE:zAw c (zEa c):=by
  refine⟨fun days hd=>?_,fun t h he=>?_,by omega,by omega,br,fun v hv=>?_,by omega,fun v hv=>?_,?_,fun x hx=>?_,by omega,⟨hF.1.1,n1⟩⟩
  ·unfold zEa;rw[yab (i days hd)];exact zDo hc.1 hb (i days hd) hF.1.2.1 hF.1.2.2.1
  ·unfold zEa at he
   split at he
   ·rename_i ht
    have:=zDp hc.1 hb ht hF.1.2.1 he
    omega
   ·cases he
  ·obtain⟨q1,_,_,q4,_,_⟩:=hF.2.1 v hv;unfold InN at q1 q4;exact⟨⟨by omega,by omega⟩,by omega,by omega⟩
  ·exact hr _ (yaR _ (yaq.2 ⟨v,hv,rfl⟩))
  ·have:=hF.1.2.2.2;unfold WiN at this; omega
  ·obtain⟨q1,_⟩:=hF.2.2 x hx;unfold InN at q1;exact⟨by omega,by omega⟩
 refine⟨hE,by rw[zDH hc,hf],?_⟩
 have l1:((zAt c (zEa c)).length:Int)<=zBX 1 (zCa c.Book):=by
  have:=List.length_filterMap_le (fun days=>(zEa c (zAs c.Book.Entries.length days)).map fun h=>(zAs c.Book.Entries.length days,h)) (chW (zAk c) []);have e:=zEd (pre:=[]) bz;unfold zAt;rw[<- e];exact yb1.2 this
 have l2:(zAv c (zEa c)).length=(zAt c (zEa c)).length * (chW (zAl c) []).length:=zEe (fun a=>by rw[yas]) _;have e2:=zEd (pre:=[]) hz
 have l3:((zAv c (zEa c)).length:Int)<=zDt c:=by
  rw[l2,yby,e2];exact ybV l1 (by omega)
 omega
def zEh(c:Cs):Prop:=c.Covers.length<=8/\c.Claims.length<=8/\(c.Book.Parcels.length<=7/\c.Book.Entries.length<=9)/\(zDu c=0->zDt c<=300)
theorem zEi{c:Cs}(hc:zsn c):Ev (zvc c) (zEh c):=by
 unfold zvc zEh
 by_cases c1:c.Covers.length<=8
 rotate_left
 ·rw[yaa (by omega)]; exact Ev.ff fun h=>c1 h.1
 rw[yab (by omega)]
 by_cases c2:c.Claims.length<=8
 rotate_left
 ·rw[yaa (by omega)]; exact Ev.ff fun h=>c2 h.2.1
 rw[yab (by omega)];have t1:Ev (zsF c.Book) (c.Book.Parcels.length<=7/\c.Book.Entries.length<=9):=(Ev.ite fun _=>Ev.dec Iff.rfl).imp (by omega);refine(t1.and (K:=zDu c=0->zDt c<=300) fun _=>Ev.bind (zDG hc) ?_).imp ⟨fun h=>⟨c1,c2,h⟩,fun h=>h.2.2⟩
 by_cases hf:zDu c=0
 ·obtain⟨hb,⟨n1,n2,n3⟩,hF,hm⟩:=zEf hf;rw[yab hf];exact Ev.bind (zDF hb hF n2).1 (Ev.dec ⟨fun h _=>by omega,fun h=>by have:=h hf; omega⟩)
 ·rw[yaa hf]; exact Ev.tt fun h=>absurd h hf
theorem zEj{c:Cs}(hc:zsn c):Ev (zvi c) (zEh c/\zDu c=0):=(zEi hc).and fun _=>Ev.bind (zDG hc) (Ev.dec Iff.rfl)
theorem zEk{b:Boo}(h1:b.Entries.length<=1000)(h2:b.Parcels.length<=1000):zsE b=some b:=by
 unfold zsE;refine(zrG (l:=b.Parcels) id (F:=fun d acc x=>zsD b d b.Last b.Owners acc [] x) (fun acc=>zsC b acc 1000000 b.Last b.Owners [] 0) (fun d k acc a hk ha=>?_) (fun d acc=>by rw[zsD,yaa (yaJ _)]) (by omega)).trans ?_
 ·have h:=(yah.1 hk).1;rw[zsD,yab (by omega),zrB hk,obs]
  show((some a.Sown).bind _)=_
  rw[obs,zqj (by omega),zqj (fI (by omega))]; rfl
 ·rw[ycd];refine(zrG (l:=b.Entries) id (F:=fun d acc x=>zsC b b.Parcels d b.Last b.Owners acc x) (fun acc=>some { Last:=b.Last,Owners:=b.Owners,Parcels:=b.Parcels,Entries:=acc }) (fun d k acc a hk ha=>?_) (fun d acc=>by rw[zsC,yaa (yaJ _)]) (by omega)).trans ?_
  ·have h:=(yah.1 hk).1;rw[zsC,yab (by omega),zrB hk,obs]
   show((some a.Day).bind _)=_
   rw[obs,zqj (by omega),zqj (fI (by omega))]; rfl
  ·rw[ycd]
theorem zEl{c:Cs}(h1:c.Book.Entries.length<=1000)(h2:c.Book.Parcels.length<=1000)(h3:c.Covers.length<=1000)(h4:c.Claims.length<=1000):zu9 c=some c:=by
 unfold zu9;rw[zEk h1 h2,obs]
 show((some c.Loss).bind _)=_
 rw[obs];refine(zrG (l:=c.Covers) id (F:=fun d acc x=>zu8 c c.Book d c.Book.Last c.Book.Owners c.Societies c.Day c.Parcel acc c.Loss.Lo c.Loss.Hi [] x) (fun acc=>zu7 c c.Book acc 1000000 c.Book.Last c.Book.Owners c.Societies c.Day c.Parcel c.Loss.Lo c.Loss.Hi [] 0) (fun d k acc a hk ha=>?_) (fun d acc=>by rw[zu8,yaa (yaJ _)]) (by omega)).trans ?_
 ·have h:=(yah.1 hk).1;rw[zu8,yab (by omega),zrB hk,obs]
  show((some a.Start).bind _)=_
  rw[obs,zqj (by omega),zqj (fI (by omega))]; rfl
 ·rw[ycd]
  refine(zrG (l:=c.Claims) id (F:=fun d acc x=>zu7 c c.Book c.Covers d c.Book.Last c.Book.Owners c.Societies c.Day c.Parcel c.Loss.Lo c.Loss.Hi acc x) (fun acc=>some { c with Claims:=acc }) (fun d k acc a hk ha=>?_) (fun d acc=>by rw[zu7,yaa (yaJ _)]) (by omega)).trans ?_
  ·have h:=(yah.1 hk).1;rw[zu7,yab (by omega),zrB hk,obs,obs]
   show((some a.Paid).bind _)=_
   rw[obs,zqj (by omega),zqj (fI (by omega))]; rfl
  ·rw[ycd]
structure zEm (c:Cs):Prop where
 ok:zA8 c (zEa c)
 cl:c.Claims.length<=5
 cp:zu9 c=some c
theorem zEn{c:Cs}(hc:zsn c)(h:zEh c/\zDu c=0):zEm c:=by
 obtain⟨hb,⟨n1,n2,n3⟩,hF,hm⟩:=zEf h.2;obtain⟨⟨k1,k2,k3⟩,_,_⟩:=zDl.1 hb;exact⟨zEg hc h.2,n3,zEl (by omega) (by omega) (by omega) (by omega)⟩
end
end Go.Proofs.YtpjnfiegpjlfgaaGreat

namespace Go.Proofs.YtpjnfiegpjlfgaaGreat
open _root_.Go.Proofs.Tryz
open Go.Abs
set_option maxRecDepth 100000
noncomputable section
def zcV(bits:Int)(i:Nat):Bool:=decide (bits / 2 ^ i % 2=1)
def zEo(bits:Int):List Clm->Nat->List Clm
 | [],_=>[]
 | x::l,i=>if zcV bits i=true then x::zEo bits l (i+1) else zEo bits l (i+1)
theorem zEp{n:Nat}(h:n<=64):zl7 .u64 (n:Int)=(n:Int):=wz (show zl2 .u64 (n:Int) from ⟨by omega,by omega⟩)
theorem zEq{c:Cs}{bits:Int}(hb:0<=bits/\bits<=1000000)(hl:c.Claims.length<=60):zvk c bits=some { c with Claims:=zEo bits c.Claims 0 }:=by
 have key:∀(d k:Nat) (acc:List Clm),k<=c.Claims.length->c.Claims.length - k < d->acc.length<=k->zvj c bits d c.Book.Last c.Book.Owners c.Societies c.Day c.Parcel c.Loss.Lo c.Loss.Hi acc (k:Int)=some { c with Claims:=acc++zEo bits (c.Claims.drop k) k }:=by
  intro d
  induction d with
  | zero=>intro k _ _ h; omega
  | succ d ih=>
   intro k acc hk h ha;rw[zvj]
   by_cases i:k < c.Claims.length
   ·have hg:=yak i
    have q:(2:Int) ^ k=((2 ^ k:Nat):Int):=by rw[ych]; rfl
    have w:1<=2 ^ k:=Nat.pow_pos (by omega);obtain⟨B,hB⟩:∃B:Nat,bits=(B:Int):=⟨bits.toNat,by omega⟩
    have hd:bits / 2 ^ k=((B / 2 ^ k:Nat):Int):=by rw[hB,q]; rfl
    have s:B / 2 ^ k<=B:=Nat.div_le_self _ _;have u:0<=bits / 2 ^ k/\bits / 2 ^ k<=1000000:=⟨by rw[hd]; exact yaT _,by rw[hd]; exact Int.le_trans (yb1.2 s) (by omega)⟩;rw[yab (by omega),zEp (by omega),ya3,zqj hb.1,zqj (by omega),zqj (by omega),zqj (fI (by omega)),zqj u.1,zqj (by omega),zqj (fI (by omega)),yat i,zEo]
    by_cases a:bits / 2 ^ k % 2=1
    ·rw[yab a,yab (show zcV bits k=true from decide_eq_true a),zrB hg,obs,zqj (by omega),zqj (fI (by omega)),show(k:Int)+1=((k+1:Nat):Int) by omega,ih (k+1) _ (by omega) (by omega) (by rw[yai,ybF]; omega),yav]; rfl
    ·rw[yaa a,yaa (by unfold zcV; simpa using a),zqj (fI (by omega)),show(k:Int)+1=((k+1:Nat):Int) by omega,ih (k+1) _ (by omega) (by omega) (by omega)]
   ·rw[yaa (by omega),yax (by omega),zEo,yaK]
 exact key 1000000 0 [] (yam _) (by omega) (yam _)
theorem zEr:∀n,n < 7->∀i,i < 7->zcV ((2:Int) ^ n - 1) i=decide (i < n):=by decide
theorem zEs{n:Nat}(hn:n < 7):∀(l:List Clm) (i:Nat),i+l.length<=7->zEo ((2:Int) ^ n - 1) l i=l.take (n - i)
 | [],i,_=>by rw[zEo,List.take_nil]
 | x::l,i,h=>by
  have h':i+(l.length+1)<=7:=h;rw[zEo,zEr n hn i (by omega),zEs hn l (i+1) (by omega)]
  by_cases hi:i < n
  ·rw[yab (decide_eq_true hi),show n - i=(n - (i+1))+1 by omega,List.take_succ_cons]
  ·rw[yaa (by simpa using hi),show n - (i+1)=0 by omega,show n - i=0 by omega]; rfl
theorem zEt{c:Cs}(hc:zsn c)(hf:zDu c=0){l:List Clm}(hl:∀x∈l,x∈c.Claims)(hn:l.length<=c.Claims.length):zsn { c with Claims:=l }/\zDu { c with Claims:=l }=0:=by
 obtain⟨hb,⟨n1,n2,n3⟩,hF,hm⟩:=zEf hf;obtain⟨g1,g2,g3,g4,g5,g6,g7,g8⟩:=hc;refine⟨⟨g1,g2,g3,g4,g5,g6,yad hn g7,fun x hx=>g8 x (hl x hx)⟩,?_⟩
 have a:zDs { c with Claims:=l }:=⟨hF.1,hF.2.1,fun x hx=>hF.2.2 x (hl x hx)⟩
 unfold zDu
 rw[yab (show zCf ({ c with Claims:=l }:Cs).Book=0 from hb),yaa (show ¬ (3 < ({ c with Claims:=l }:Cs).Societies\/5 < ({ c with Claims:=l }:Cs).Covers.length\/5 < ({ c with Claims:=l }:Cs).Claims.length) by dsimp only; omega),yab a,yaa (show ¬ 2000 < zDt { c with Claims:=l } from by have:zDt { c with Claims:=l }=zDt c:=rfl; omega)]
theorem zEu{c:Cs}{l:List Clm}{e:Hd}:∀{vs:List Cv} {ss:List Int} {p:P3},sumsN { c with Claims:=l } e vs ss p=sumsN c e vs ss p
 | [],_,_=>rfl
 | _::_,[],_=>rfl
 | v::vs,s::ss,p=>zEu (vs:=vs) (ss:=ss) (p:=if zAa c v e s then zAc p v.Society v.Sum else p)
theorem zEv{c:Cs}{l:List Clm}{t:Tr}{h:Hd}:zAu { c with Claims:=l } t h=zAu c t h:=by
 funext own
 unfold zAu zAd
 dsimp only
 rw[zEu]
theorem zEw{c:Cs}{l:List Clm}{E:Tr->Option Hd}:zA9 { c with Claims:=l } E=zA9 c E:=by
 unfold zA9 zAv
 simp only[zEv]
 rfl
theorem zEx{L:List Dm}{l:List Clm}:∀{d n:Nat},(zBA L l d n=(0,7)/\∀k,n < k->k<=n+d->zAW L (l.take k))\/(∃k:Nat,zBA L l d n=((k:Int),0)/\n<=k/\k < n+d/\¬ zAW L (l.take (k+1))/\∀j,n < j->j<=k->zAW L (l.take j))
 | 0,n=>.inl ⟨rfl,fun k h1 h2=>by omega⟩
 | d+1,n=>by
  rw[zBA]
  by_cases h:zAW L (l.take (n+1))
  ·rw[yab h]
   rcases zEx (L:=L) (l:=l) (d:=d) (n:=n+1) with ⟨e,h1⟩ | ⟨k,e,h1,h2,h3,h4⟩
   ·refine .inl ⟨e,fun k k1 k2=>?_⟩
    by_cases hk:k=n+1
    ·rw[hk]; exact h
    ·exact h1 k (by omega) (by omega)
   ·refine .inr ⟨k,e,by omega,by omega,h3,fun j k1 k2=>?_⟩
    by_cases hj:j=n+1
    ·rw[hj]; exact h
    ·exact h4 j (by omega) k2
  ·rw[yaa h];exact .inr ⟨n,rfl,yac _,by omega,h,fun j h1 h2=>by omega⟩
theorem zEy{L:List Dm}(h:L ≠ []):zAW L []:=by
 obtain⟨d,l,rfl⟩:=List.exists_cons_of_ne_nil h;exact⟨d,yae ..,fun x hx=>by cases hx⟩
theorem zEz{n:Nat}(hn:n<=5):(1<=(2:Int) ^ n/\(2:Int) ^ n<=32)/\(2:Int) * 2 ^ n=2 ^ (n+1):=by
 have:n=0\/n=1\/n=2\/n=3\/n=4\/n=5:=by omega
 rcases this with rfl | rfl | rfl | rfl | rfl | rfl <;> decide
theorem zEA{c:Cs}(hc:zsn c)(hf:zEh c/\zDu c=0){n:Nat}(hn:n<=6):((zvk c ((2:Int) ^ n - 1)).bind fun x=>(zu9 x).bind fun y=>zuS y)=some (if noN { c with Claims:=c.Claims.take n } (zEa c)=0 then (segI 0 c.Societies.toNat).map (zBx { c with Claims:=c.Claims.take n } (zEa c)) else [],noN { c with Claims:=c.Claims.take n } (zEa c)):=by
 have hr:=zEn hc hf
 have hp:0<=(2:Int) ^ n - 1/\(2:Int) ^ n - 1<=1000000:=by
  have:n=0\/n=1\/n=2\/n=3\/n=4\/n=5\/n=6:=by omega
  rcases this with rfl | rfl | rfl | rfl | rfl | rfl | rfl <;> decide
 have hs:=zEt hc hf.2 (l:=c.Claims.take n) (fun x hx=>List.mem_of_mem_take hx) (by rw[yap]; omega);have a:=hr.cl;obtain⟨hb,⟨n1,n2,n3⟩,hF,hm⟩:=zEf hf.2;obtain⟨⟨k1,k2,k3⟩,_,_⟩:=zDl.1 hb
 rw[zEq hp (by omega),obs,zEs (by omega) _ _ (by omega),Nat.sub_zero,zEl (c:={ c with Claims:=c.Claims.take n }) (show c.Book.Entries.length<=1000 by omega) (show c.Book.Parcels.length<=1000 by omega) (show c.Covers.length<=1000 by omega) (show(c.Claims.take n).length<=1000 by rw[yap]; omega),obs]
 exact zBy (zEg hs.1 hs.2)
theorem zEB{c:Cs}(hc:zsn c):zvl c=some true:=by
 have a:(zvh.bind fun r=>some r)=some true:=by rw[zD9]; rfl
 unfold zvl
 refine(zEj hc).pick (fun hf=>?_) fun _=>by rw[yaa (by simp)]; exact a
 have hr:=zEn hc hf;have s:=hr.cl;rw[yab rfl,hr.cp,obs,zBD hr.ok,obs]
 by_cases hd:zA9 c (zEa c)=[]
 ·rw[yab hd,yaa (show ¬ ((9:Int)=0) by decide),obs,zBy hr.ok,obs]
  have h:noN c (zEa c)=9:=by unfold noN; rw[yab hd]
  rw[h]
  dsimp only
  rw[yaa (by decide),yab rfl,yab rfl]; exact a
 ·rw[yaa hd]
  rcases zEx (L:=zA9 c (zEa c)) (l:=c.Claims) (d:=c.Claims.length) (n:=0) with ⟨e,h1⟩ | ⟨k,e,h1,h2,h3,h4⟩
  ·rw[e,yaa (show ¬ ((7:Int)=0) by decide),obs,zBy hr.ok,obs]
   have h:noN c (zEa c)=0:=zBh.2 (by
    by_cases hl:c.Claims.length=0
    ·rw[yaW hl]; exact zEy hd
    ·have:=h1 c.Claims.length (by omega) (by omega)
     rw[ybc] at this; exact this)
   rw[h]
   dsimp only
   rw[yab rfl,yab rfl]; exact a
  ·rw[e,yab (show((0:Int)=0) from rfl)];have hp:=zEz (n:=k) (by omega);rw[zqj (fI (by omega)),zBR.some_of ⟨by dsimp only; omega,by dsimp only; omega⟩,obs,yab rfl]
   dsimp only
   have b1:=zEA hc hf (n:=k) (by omega);have b2:=zEA hc hf (n:=k+1) (by omega)
   have i:noN { c with Claims:=c.Claims.take k } (zEa c)=0:=(zBh (c:={ c with Claims:=c.Claims.take k }) (E:=zEa c)).2 (by
    rw[zEw]
    show zAW (zA9 c (zEa c)) (c.Claims.take k)
    by_cases hk:k=0
    ·rw[hk]; exact zEy hd
    ·exact h4 k (by omega) (yac _))
   have q:noN { c with Claims:=c.Claims.take (k+1) } (zEa c)=11:=by
    unfold noN
    rw[zEw,yaa hd,yaa (show ¬ zAW (zA9 c (zEa c)) ({ c with Claims:=c.Claims.take (k+1) }:Cs).Claims from h3)]
   rw[i] at b1;rw[q] at b2;rw[zEp (by omega),ya3,ybW,hp.2,zqj (by omega),zqj (by omega),zqj (by omega),zqj (fI (by omega)),zqj (fI (by omega))]
   cases e1:zvk c ((2:Int) ^ k - 1) with
   | none=>rw[e1] at b1; cases b1
   | some x1=>
    rw[e1,obs] at b1;rw[obs]
    cases e2:zu9 x1 with
    | none=>rw[e2] at b1; cases b1
    | some y1=>
     rw[e2,obs] at b1;have u:=zEz (n:=k) (by omega);rw[obs,b1,obs,zqj (by omega),zqj (by omega),zqj (by omega),zqj (fI (by omega)),zqj (fI (by omega))]
     cases e3:zvk c ((2:Int) ^ (k+1) - 1) with
     | none=>rw[e3] at b2; cases b2
     | some x2=>
      rw[e3,obs] at b2;rw[obs]
      cases e4:zu9 x2 with
      | none=>rw[e4] at b2; cases b2
      | some y2=>
       rw[e4,obs] at b2;rw[obs,b2,obs]
       dsimp only
       rw[yab rfl,yab rfl]; exact a
end
end Go.Proofs.YtpjnfiegpjlfgaaGreat

namespace Go.Proofs.YtpjnfiegpjlfgaaGreat
open _root_.Go.Proofs.Tryz
open Go.ChangeShapes Go.WideShapes Go.ChangeAt Go.RowKit Go.Abs
set_option maxRecDepth 100000
theorem op3:zrW prog 3 Int (zl2 .i64):=zrX (by kernel_rfl)
theorem zEC:zrW prog 38 Rg zr6:=zr4 (fs:=[(3,0),(3,1)]) (by kernel_rfl) (by kernel_rfl) (zr3 (α:=Int) (ok:=zl2 .i64) (k:=1) op3 (by kernel_rfl) rfl (zr3 (α:=Int) (ok:=zl2 .i64) (k:=1) op3 (by kernel_rfl) rfl zr2)) (by kernel_rfl) fun m vs h=>by
 obtain⟨a0,c0,r0,m0,h0,p0,k0,s0,⟨a1,c1,r1,m1,h1,p1,k1,s1,rfl⟩⟩:=h;have p0:c0=[.int .i64 a0]:=p0; subst p0;have p1:c1=[.int .i64 a1]:=p1; subst p1;subst h1 h0;exact⟨⟨a0,a1⟩,rfl,⟨k0,k1⟩⟩
theorem zED:zrW prog 207 Pc zr8:=zr4 (fs:=[(3,0),(3,1),(38,2)]) (by kernel_rfl) (by kernel_rfl) (zr3 (α:=Int) (ok:=zl2 .i64) (k:=1) op3 (by kernel_rfl) rfl (zr3 (α:=Int) (ok:=zl2 .i64) (k:=1) op3 (by kernel_rfl) rfl (zr3 (α:=Rg) (ok:=zr6) (k:=2) zEC (by kernel_rfl) rfl zr2))) (by kernel_rfl) fun m vs h=>by
 obtain⟨a0,c0,r0,m0,h0,p0,k0,s0,⟨a1,c1,r1,m1,h1,p1,k1,s1,⟨a2,c2,r2,m2,h2,p2,k2,s2,rfl⟩⟩⟩:=h;have p0:c0=[.int .i64 a0]:=p0; subst p0;have p1:c1=[.int .i64 a1]:=p1; subst p1;have p2:c2=[.int .i64 a2.Lo,.int .i64 a2.Hi]:=p2; subst p2;subst h2 h1 h0;exact⟨⟨a0,a1,a2⟩,rfl,⟨k0,k1,k2⟩⟩
theorem zEE:zrW prog 32 (List Pc) (fun l=>l.length<=maxLen/\∀a0∈l,zr8 a0):=zrZ (by kernel_rfl) (by kernel_rfl) zED
theorem zEF:zrW prog 210 En zsa:=zr4 (fs:=[(3,0),(3,1),(3,2),(3,3),(3,4),(3,5),(38,6)]) (by kernel_rfl) (by kernel_rfl) (zr3 (α:=Int) (ok:=zl2 .i64) (k:=1) op3 (by kernel_rfl) rfl (zr3 (α:=Int) (ok:=zl2 .i64) (k:=1) op3 (by kernel_rfl) rfl (zr3 (α:=Int) (ok:=zl2 .i64) (k:=1) op3 (by kernel_rfl) rfl (zr3 (α:=Int) (ok:=zl2 .i64) (k:=1) op3 (by kernel_rfl) rfl (zr3 (α:=Int) (ok:=zl2 .i64) (k:=1) op3 (by kernel_rfl) rfl (zr3 (α:=Int) (ok:=zl2 .i64) (k:=1) op3 (by kernel_rfl) rfl (zr3 (α:=Rg) (ok:=zr6) (k:=2) zEC (by kernel_rfl) rfl zr2))))))) (by kernel_rfl) fun m vs h=>by
 obtain⟨a0,c0,r0,m0,h0,p0,k0,s0,⟨a1,c1,r1,m1,h1,p1,k1,s1,⟨a2,c2,r2,m2,h2,p2,k2,s2,⟨a3,c3,r3,m3,h3,p3,k3,s3,⟨a4,c4,r4,m4,h4,p4,k4,s4,⟨a5,c5,r5,m5,h5,p5,k5,s5,⟨a6,c6,r6,m6,h6,p6,k6,s6,rfl⟩⟩⟩⟩⟩⟩⟩:=h;have p0:c0=[.int .i64 a0]:=p0; subst p0;have p1:c1=[.int .i64 a1]:=p1; subst p1;have p2:c2=[.int .i64 a2]:=p2; subst p2;have p3:c3=[.int .i64 a3]:=p3; subst p3;have p4:c4=[.int .i64 a4]:=p4; subst p4;have p5:c5=[.int .i64 a5]:=p5; subst p5;have p6:c6=[.int .i64 a6.Lo,.int .i64 a6.Hi]:=p6; subst p6;subst h6 h5 h4 h3 h2 h1 h0;exact⟨⟨a0,a1,a2,a3,a4,a5,a6⟩,rfl,⟨k0,k1,k2,k3,k4,k5,k6⟩⟩
theorem zEG:zrW prog 33 (List En) (fun l=>l.length<=maxLen/\∀a0∈l,zsa a0):=zrZ (by kernel_rfl) (by kernel_rfl) zEF
theorem zEH:zrW prog 35 Boo zsc:=zr4 (fs:=[(3,0),(3,1),(32,2),(33,3)]) (by kernel_rfl) (by kernel_rfl) (zr3 (α:=Int) (ok:=zl2 .i64) (k:=1) op3 (by kernel_rfl) rfl (zr3 (α:=Int) (ok:=zl2 .i64) (k:=1) op3 (by kernel_rfl) rfl (zr3 (α:=List Pc) (ok:=(fun l=>l.length<=maxLen/\∀a0∈l,zr8 a0)) (k:=1) zEE (by kernel_rfl) rfl (zr3 (α:=List En) (ok:=(fun l=>l.length<=maxLen/\∀a0∈l,zsa a0)) (k:=1) zEG (by kernel_rfl) rfl zr2)))) (by kernel_rfl) fun m vs h=>by
 obtain⟨a0,c0,r0,m0,h0,p0,k0,s0,⟨a1,c1,r1,m1,h1,p1,k1,s1,⟨a2,c2,r2,m2,h2,p2,k2,s2,⟨a3,c3,r3,m3,h3,p3,k3,s3,rfl⟩⟩⟩⟩:=h;have p0:c0=[.int .i64 a0]:=p0; subst p0;have p1:c1=[.int .i64 a1]:=p1; subst p1;obtain⟨d2,rfl,p2⟩:=p2;obtain⟨d3,rfl,p3⟩:=p3;subst h3 h2 h1 h0;exact⟨⟨a0,a1,a2,a3⟩,⟨_,_,rfl,p2,p3⟩,⟨k0,k1,k2,k3⟩⟩
theorem zEI:zrW prog 120 Cv zsj:=zr4 (fs:=[(3,0),(3,1),(3,2),(3,3),(3,4),(38,5)]) (by kernel_rfl) (by kernel_rfl) (zr3 (α:=Int) (ok:=zl2 .i64) (k:=1) op3 (by kernel_rfl) rfl (zr3 (α:=Int) (ok:=zl2 .i64) (k:=1) op3 (by kernel_rfl) rfl (zr3 (α:=Int) (ok:=zl2 .i64) (k:=1) op3 (by kernel_rfl) rfl (zr3 (α:=Int) (ok:=zl2 .i64) (k:=1) op3 (by kernel_rfl) rfl (zr3 (α:=Int) (ok:=zl2 .i64) (k:=1) op3 (by kernel_rfl) rfl (zr3 (α:=Rg) (ok:=zr6) (k:=2) zEC (by kernel_rfl) rfl zr2)))))) (by kernel_rfl) fun m vs h=>by
 obtain⟨a0,c0,r0,m0,h0,p0,k0,s0,⟨a1,c1,r1,m1,h1,p1,k1,s1,⟨a2,c2,r2,m2,h2,p2,k2,s2,⟨a3,c3,r3,m3,h3,p3,k3,s3,⟨a4,c4,r4,m4,h4,p4,k4,s4,⟨a5,c5,r5,m5,h5,p5,k5,s5,rfl⟩⟩⟩⟩⟩⟩:=h;have p0:c0=[.int .i64 a0]:=p0; subst p0;have p1:c1=[.int .i64 a1]:=p1; subst p1;have p2:c2=[.int .i64 a2]:=p2; subst p2;have p3:c3=[.int .i64 a3]:=p3; subst p3;have p4:c4=[.int .i64 a4]:=p4; subst p4;have p5:c5=[.int .i64 a5.Lo,.int .i64 a5.Hi]:=p5; subst p5;subst h5 h4 h3 h2 h1 h0;exact⟨⟨a0,a1,a2,a3,a4,a5⟩,rfl,⟨k0,k1,k2,k3,k4,k5⟩⟩
theorem zEJ:zrW prog 36 (List Cv) (fun l=>l.length<=maxLen/\∀a0∈l,zsj a0):=zrZ (by kernel_rfl) (by kernel_rfl) zEI
theorem zEK:zrW prog 122 Clm zsl:=zr4 (fs:=[(3,0),(38,1)]) (by kernel_rfl) (by kernel_rfl) (zr3 (α:=Int) (ok:=zl2 .i64) (k:=1) op3 (by kernel_rfl) rfl (zr3 (α:=Rg) (ok:=zr6) (k:=2) zEC (by kernel_rfl) rfl zr2)) (by kernel_rfl) fun m vs h=>by
 obtain⟨a0,c0,r0,m0,h0,p0,k0,s0,⟨a1,c1,r1,m1,h1,p1,k1,s1,rfl⟩⟩:=h;have p0:c0=[.int .i64 a0]:=p0; subst p0;have p1:c1=[.int .i64 a1.Lo,.int .i64 a1.Hi]:=p1; subst p1;subst h1 h0;exact⟨⟨a0,a1⟩,rfl,⟨k0,k1⟩⟩
theorem zEL:zrW prog 39 (List Clm) (fun l=>l.length<=maxLen/\∀a0∈l,zsl a0):=zrZ (by kernel_rfl) (by kernel_rfl) zEK
theorem zEM:zrW prog 41 Cs zsn:=zr4 (fs:=[(35,0),(3,4),(3,5),(3,6),(36,7),(38,8),(39,10)]) (by kernel_rfl) (by kernel_rfl) (zr3 (α:=Boo) (ok:=zsc) (k:=4) zEH (by kernel_rfl) rfl (zr3 (α:=Int) (ok:=zl2 .i64) (k:=1) op3 (by kernel_rfl) rfl (zr3 (α:=Int) (ok:=zl2 .i64) (k:=1) op3 (by kernel_rfl) rfl (zr3 (α:=Int) (ok:=zl2 .i64) (k:=1) op3 (by kernel_rfl) rfl (zr3 (α:=List Cv) (ok:=(fun l=>l.length<=maxLen/\∀a0∈l,zsj a0)) (k:=1) zEJ (by kernel_rfl) rfl (zr3 (α:=Rg) (ok:=zr6) (k:=2) zEC (by kernel_rfl) rfl (zr3 (α:=List Clm) (ok:=(fun l=>l.length<=maxLen/\∀a0∈l,zsl a0)) (k:=1) zEL (by kernel_rfl) rfl zr2))))))) (by kernel_rfl) fun m vs h=>by
 obtain⟨a0,c0,r0,m0,h0,p0,k0,s0,⟨a1,c1,r1,m1,h1,p1,k1,s1,⟨a2,c2,r2,m2,h2,p2,k2,s2,⟨a3,c3,r3,m3,h3,p3,k3,s3,⟨a4,c4,r4,m4,h4,p4,k4,s4,⟨a5,c5,r5,m5,h5,p5,k5,s5,⟨a6,c6,r6,m6,h6,p6,k6,s6,rfl⟩⟩⟩⟩⟩⟩⟩:=h;obtain⟨d0_2,d0_3,rfl,q0_2,q0_3⟩:=p0;have p1:c1=[.int .i64 a1]:=p1; subst p1;have p2:c2=[.int .i64 a2]:=p2; subst p2;have p3:c3=[.int .i64 a3]:=p3; subst p3;obtain⟨d4,rfl,p4⟩:=p4;have p5:c5=[.int .i64 a5.Lo,.int .i64 a5.Hi]:=p5; subst p5;obtain⟨d6,rfl,p6⟩:=p6;subst h6 h5 h4 h3 h2 h1 h0;exact⟨⟨a0,a1,a2,a3,a4,a5,a6⟩,⟨_,_,_,_,rfl,q0_2,q0_3,p4,p6⟩,⟨k0,k1,k2,k3,k4,k5,k6⟩⟩
theorem zEN:laidOutB prog=true:=by kernel_rfl
theorem zEO:ownKnob prog.godebug=none:=by kernel_rfl
theorem zEP(os:Os)(started:os.Started)(H:Type)(enc:TypeId × Value->H) :
    ReturnsInHanded {} Tryz.checked os 15 .any (Rows.doubleFirstSpec.pre6 enc Tryz.prog Tryz.f15 Rows.doubleFirstRow.domain false) (Rows.doubleFirstSpec.post enc Tryz.prog Tryz.f15 false true false false):=by
  refine returnsInHanded_of_change (C:=Tryz.checked) zEO started (by kernel_rfl) Tryz.func15
    (ChangeSpec.witness6 (enc:=enc) (C:=Tryz.checked) false ⟨#[],#[.agg #[.int .i64 0,.int .i64 0,.slice none 0 0,.slice none 0 0,.int .i64 0,.int .i64 0,.int .i64 0,.slice none 0 0,.int .i64 0,.int .i64 0,.slice none 0 0]],[]⟩ 8 (by kernel_rfl) (by kernel_rfl) (by kernel_rfl) (by kernel_rfl)) ?_
  intro W base args ds gs before h hW S _;have F:∀(j:Nat) t v,Tryz.f15.params[j]? = some t->args[j]? = some v->Value.okWide Tryz.prog W .any base t v:=h;have w:=hW;obtain⟨p,q,y,hV,rfl,T,Y⟩:=hW;have hA:DataW.TrodAll enc Tryz.prog W 0 (fun _=>true) true Tryz.f15.params.toList args.toList ds p:=y;rw[Tryz.params15] at hA F;obtain⟨v0,d0,rfl,rfl,h0⟩:=trodAll_one hA;obtain⟨rfl,rfl⟩:=trodVars_none hV
  have G:∀x∈p,x.block < W.heap.size:=fun x hx=>by simpa using w.lt x (by simpa using hx)
  obtain⟨Z,I⟩:=id h0
  clear y h
  obtain⟨e0,m0,w0,a_0,aa,ab,a,A,zx0,J⟩:=zEM H enc W true _ _ _ I _ _ (Lay.nil W);obtain⟨c0_2,c0_3,c0_7,c0_10,rfl,g0_2,g0_3,g0_7,g0_10⟩:=zx0
  obtain⟨i,N,ac⟩:∃cs,v0=.agg cs/\v0.cells.toList=cs.toList:=by
    have hl:=A.length
    cases v0 with
    | agg cs=>exact⟨cs,rfl,rfl⟩
    | _=>exact absurd hl (by simp[Value.cells])
  subst N;have u:zen (VR e0) [.agg 11 [.int .i64 a_0.Book.Last,.int .i64 a_0.Book.Owners,c0_2,c0_3,.int .i64 a_0.Societies,.int .i64 a_0.Day,.int .i64 a_0.Parcel,c0_7,.int .i64 a_0.Loss.Lo,.int .i64 a_0.Loss.Hi,c0_10]] [.agg i]:=.cons ⟨i,rfl,A,rfl⟩ .nil;refine(callsIn_wide.1 (zqu fits htab (zzK (c:=a_0) a.pre g0_2 g0_3 g0_7 g0_10 (zEB J) (Q:=fun v _=>v=.c (.bool true)) fun _ _=>rfl) a.hr (args':=#[.agg i]) u 0)).mono fun en W' hp=>?_;obtain⟨v,v',e',m',rfl,D,O,rfl⟩:=hp;have P:v'=.bool true:=O;subst P;have s:=a.below D
  refine⟨_,rfl,[d0],[],p,[],p,[],by simpa using w,trodAll_mk1 (shut_bool Tryz.underlying4 _),
    trodAll_mk1 (Below.trod zEN (by kernel_rfl) (of_decide_eq_true (by kernel_rfl)) h0 s fun x hx=>G x (by simp[hx])),rfl,a.kept D _,fun hc=>by cases hc⟩
theorem jn0:(Rows.doubleFirstRow.wf (OpenSpec.ofChange Rows.doubleFirstSpec))=true:=by kernel_rfl
theorem jn1:(laidOutB Tryz.checked.prog)=true:=by kernel_rfl
theorem jn2:(mapsRowed Tryz.checked.prog)=true:=by kernel_rfl
theorem jn3:(Tryz.f15.params.all (Tryz.checked.prog.readableRec ·))=true:=by kernel_rfl
theorem jn4:(namedTie Tryz.checked.prog Rows.doubleFirstRow.named Rows.doubleFirstSpec.vars)=true:=by kernel_rfl
theorem jn6:(Tryz.checked.prog.stops == [])=true:=by kernel_rfl
theorem jn8:(Tryz.checked.prog.stopKnobs == [])=true:=by kernel_rfl
theorem jn9:(Rows.doubleFirstRow.inPlace == Tryz.checked.prog.inPlace 15)=true:=by kernel_rfl
theorem zEQ:(Rows.doubleFirstRow.unfollowed == Tryz.checked.prog.unfollowed 15)=true:=by kernel_rfl
theorem zER:(Rows.doubleFirstRow.recurses == Tryz.checked.prog.recurses 15)=true:=by kernel_rfl
theorem zES:(Rows.doubleFirstRow.named == Tryz.checked.prog.varsNamed 15)=true:=by kernel_rfl
theorem jnA{a b:Bool}(h:a=true)(h2:b=true):(a && b)=true:=by rw[h,h2]; rfl
theorem jn:joinedFacts Tryz.checked.prog 15 Tryz.f15 Rows.doubleFirstSpec Rows.doubleFirstRow=true:=by
 unfold joinedFacts;exact jnA (jnA (jnA (jnA (jnA (jnA (jnA (jnA (jnA (jnA (jnA (jnA (jnA (jnA (jnA (jnA (jnA (jnA (jnA (jnA (jnA (jnA (jnA (jnA (jnA (jnA (jnA (jnA (jnA (jnA (jnA jn0 jn1) jn2) jn3) jn4) (by kernel_rfl)) jn6) (by kernel_rfl)) jn8) jn9) zEQ) zER) zES) (by kernel_rfl)) (by kernel_rfl)) (by kernel_rfl)) (by kernel_rfl)) (by kernel_rfl)) (by kernel_rfl)) (by kernel_rfl)) (by kernel_rfl)) (by kernel_rfl)) (by kernel_rfl)) (by kernel_rfl)) (by kernel_rfl)) (by kernel_rfl)) (by kernel_rfl)) (by kernel_rfl)) (by kernel_rfl)) (by kernel_rfl)) (by kernel_rfl)) (by kernel_rfl)
theorem DoubleFirst_holds:Rows.DoubleFirstSaid:=
 OpenClaim.holds_of_wide 15 Tryz.f15 rfl rfl rfl rfl rfl rfl rfl ⟨rfl,rfl,rfl,rfl,rfl⟩ rfl rfl rfl rfl rfl (by kernel_rfl) Tryz.func15 jn
  (of_decide_eq_true (by kernel_rfl)) (by unfold Func.isWrapper; first | (rw[yab (by decide +kernel)]; kernel_rfl) | (rw[yaa (by decide +kernel)]; exact⟨rfl,rfl⟩))
  (fun os started H enc _=>zEP os started H enc)
end Go.Proofs.YtpjnfiegpjlfgaaGreat

