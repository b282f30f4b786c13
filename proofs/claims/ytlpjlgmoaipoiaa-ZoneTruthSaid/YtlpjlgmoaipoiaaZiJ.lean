/- An evaluator of code, its soundness, and what functions of the program do. Condition: none; a lemma text. -/
import Derived.Test.YtlpjlgmoaipoiaaZiI

namespace Go.Proofs.Ytlpjlgmoaipoiaa
open _root_.Go.Proofs.Try
open Go.Abs
set_option maxRecDepth 100000
noncomputable section
theorem zwA{S β:Type}{n:Nat}(F:Nat->S->Int->Option β)(st:Nat->S){fin:Option β}(hstep:∀d k,k < n->F (d+1) (st k) (k:Int)=F d (st (k+1)) ((k:Int)+1))(hend:∀d,F (d+1) (st n) (n:Int)=fin) :
  ∀d k,k<=n->n - k < d->F d (st k) (k:Int)=fin
 | 0,k,_,h=>by omega
 | d+1,k,hk,h=>by
  by_cases hkn:k=n
  ·subst hkn; exact hend d
  ·rw[hstep d k (by omega),show(k:Int)+1=((k+1:Nat):Int) by omega];exact zwA F st hstep hend d (k+1) (by omega) (by omega)
def RgP(r:Rg):Prop:=0<=r.Lo/\r.Lo<=r.Hi/\r.Hi<=10000/\r.Hi - r.Lo<=5
def zwB(y:Yr):Prop:=RgP y.Losses/\RgP y.Premiums/\0<=y.Parcels/\y.Parcels<=100
def zwC(l:List Int)(j:Nat):Prop:=0 < j->∀x y,l[j]? = some x->l[j - 1]? = some y->¬ x < y
structure zwD (r:Rl):Prop where
 c0:1<=r.Classes
 pl:(r.Price.length:Int)=r.Classes
 gb:0<=r.Good/\r.Good<=r.Bad/\r.Bad<=300
 rest:0<=r.Rest/\r.Rest<=4
 few:0<=r.Fewest/\r.Fewest<=100
 pr:∀x∈r.Price,1<=x/\x<=10000
 so:∀j,j < r.Price.length->zwC r.Price j
structure zwE (r:Rl) (z:Zn):Prop where
 rl:zwD r
 first:0<=z.First/\z.First<=r.Classes - 1
 ys:∀y∈z.Years,zwB y
def zwF(r:Rl)(z:Zn):Prop:=6 < r.Classes\/6 < z.Years.length
open Classical in
def zwG(r:Rl)(z:Zn):Int:=if zwF r z then 3 else if zwE r z then 0 else 1
structure VZ (r:Rl) (z:Zn):Prop where
 full:zwE r z
 c6:r.Classes<=6
 y6:z.Years.length<=6
theorem zwH{r:Rl}{z:Zn}:zwG r z=0↔VZ r z:=by
 unfold zwG
 by_cases h:zwF r z
 ·rw[if_pos h]; exact⟨fun h=>by omega,fun h2=>by have:=h2.c6; have:=h2.y6; unfold zwF at h; omega⟩
 ·rw[if_neg h];unfold zwF at h
  by_cases hf:zwE r z
  ·rw[if_pos hf]; exact⟨fun _=>⟨hf,by omega,by omega⟩,fun _=>rfl⟩
  ·rw[if_neg hf]; exact⟨fun h=>by omega,fun h=>absurd h.full hf⟩
theorem zwI{r:Rg}{n:Int}:Ev (zsr r n) (r.Lo<=n/\n<=r.Hi):=Ev.ite fun _=>Ev.dec Iff.rfl
theorem zwJ{a b:Int}{r:Rg}:Ev (zss { Lo:=a,Hi:=b } r) (a<=r.Lo/\r.Lo<=r.Hi/\r.Hi<=b):=Ev.ite fun _=>Ev.ite fun _=>Ev.dec Iff.rfl
theorem gI{l:List Int}{p:Int->Option Bool}:∀{d:Nat} {x:Int},zsD l p d x=gIdx l p d x
 | 0,_=>rfl
 | d+1,x=>by unfold zsD gIdx; simp only[gI]
theorem gY{l:List Yr}{p:Yr->Option Bool}:∀{d:Nat} {x:Int},zsI l p d x=gIdx l p d x
 | 0,_=>rfl
 | d+1,x=>by unfold zsI gIdx; simp only[gY]
theorem zwK{l:Lm}{r:Rg}(h1:l.pence=⟨0,10000⟩)(h2:l.wide=⟨0,5⟩):Ev (zsM l r) (RgP r):=by
 unfold zsM;rw[h1,h2];refine(zwJ.and fun hc=>Ev.gd (fI (by omega)) zwI.ret).imp ?_;unfold RgP
 show(_/\_/\_)/\((0:Int)<=r.Hi - r.Lo/\r.Hi - r.Lo<=5)↔_
 omega
theorem zwL{y:Yr}:Ev (zsN { pence:=⟨0,10000⟩,wide:=⟨0,5⟩,parcels:=⟨0,100⟩ } y) (zwB y):=
 ((zwK rfl rfl).and fun _=>(zwK rfl rfl).and fun _=>zwI.ret).imp Iff.rfl
theorem zwM{x y:Int}:zsz x y=some (decide (x < y)):=by
 unfold zsz zsy;rw[obs,if_neg (by simp)]
theorem zwN{l:List Int}(hl:zrH l):∀(d i:Nat),i < l.length->i < d->Ev (zsA l d (i:Int)) (∀j,j<=i->zwC l j)
 | 0,_,_,h=>by omega
 | d+1,i,hi,hd=>by
  unfold zrH at hl;unfold zsA
  cases i with
  | zero=>
   rw[if_neg (by omega)]
   exact Ev.tt fun j hj h0=>by omega
  | succ i=>
   have hg:=List.getElem?_eq_getElem hi;have hg0:=List.getElem?_eq_getElem (show i < l.length by omega)
   have e:((i+1:Nat):Int) - 1=(i:Int):=by omega
   rw[if_pos (by omega),zrx hg,obs,e,zqs (fI (by omega)),zrx hg0,obs,zwM,obs];have hso:zwC l (i+1)↔¬ l[i+1] < l[i]:=⟨fun h=>h (by omega) _ _ hg hg0,fun h _ x y hx hy=>by rw[hg] at hx; have hy:l[i]? = some y:=hy; rw[hg0] at hy; cases hx; cases hy; exact h⟩
   by_cases hc:l[i+1] < l[i]
   ·rw[decide_eq_true hc,if_pos rfl];exact Ev.ff fun h=>(hso.1 (h _ (Nat.le_refl _))) hc
   ·rw[decide_eq_false hc,if_neg (by decide),zqs (fI (by omega))]
    exact(zwN hl d i (by omega) (by omega)).imp ⟨fun h j hj=>by
     rcases Nat.lt_or_eq_of_le hj with h1 | h1
     ·exact h j (by omega)
     ·subst h1; exact hso.2 hc,fun h j hj=>h j (by omega)⟩
theorem zwO{l:List Int}(hl:l.length<=1000):Ev (zsB l) (∀j,j < l.length->zwC l j):=by
 unfold zsB;refine Ev.gd (fI (by omega)) ?_
 cases hn:l.length with
 | zero=>
  show Ev (zsA l (999999+1) _) _
  rw[zsA,if_neg (by omega)]
  exact Ev.tt fun j hj=>by omega
 | succ n=>
  rw[show((n+1:Nat):Int) - 1=(n:Int) by omega];exact(zwN (zrI hl (by omega)) 1000000 n (by omega) (by omega)).imp ⟨fun h j hj=>h j (by omega),fun h j hj=>h j (by omega)⟩
theorem zwP{r:Rl}(hl:r.Price.length<=1000):Ev (zsO r) ((r.Price.length:Int)=r.Classes/\(∀x∈r.Price,1<=x/\x<=10000)/\∀j,j < r.Price.length->zwC r.Price j):=by
 unfold zsO;exact Ev.ite fun _=>(Ev.each (q:=fun x=>1<=x/\x<=10000) (fun a _=>zwI) (by omega) gI).and fun _=>(zwO hl).ret
theorem zwQ{r:Rl}(hl:r.Price.length<=1000):Ev (zsP r) (zwD r):=by
 unfold zsP;refine(Ev.ite fun _=>(zwJ (a:=0) (b:=300) (r:=⟨r.Good,r.Bad⟩)).and fun _=>(zwI (r:=⟨0,4⟩) (n:=r.Rest)).and fun _=>(zwI (r:=⟨0,100⟩) (n:=r.Fewest)).and fun _=>(zwP hl).ret).imp ?_;exact⟨fun⟨a,b,c,d,e,f,g⟩=>⟨by omega,e,b,c,d,f,g⟩,fun⟨a,b,c,d,e,f,g⟩=>⟨by omega,c,d,e,b,f,g⟩⟩
theorem zwR{r:Rl}{z:Zn}(hz:z.Years.length<=1000)(hr:zwD r)(hl:r.Price.length<=1000):Ev (zsR r z) ((0<=z.First/\z.First<=r.Classes - 1)/\∀y∈z.Years,zwB y):=by
 unfold zsR zsQ;have:=hr.pl;have:=hr.c0
 show Ev ((gd (zl6 .i64 (r.Classes - 1)) _).bind _) _
 rw[zqs (fI (by omega))];refine(show Ev ((zsr ⟨0,r.Classes - 1⟩ z.First).bind fun r=>some r) (0<=z.First/\z.First<=r.Classes - 1) from zwI.ret).and fun _=>(Ev.each (q:=zwB) (fun a _=>zwL) (by omega) gY).ret
theorem zwS{r:Rl}{z:Zn}(h1:r.Price.length<=1000)(h2:z.Years.length<=1000):zsV r z=some (zwG r z):=by
 unfold zsV zwG zwF
 by_cases c1:6 < r.Classes
 ·rw[if_pos c1,if_pos (.inl c1)]
 rw[if_neg c1]
 by_cases c2:6 < z.Years.length
 ·rw[if_pos (by omega),if_pos (.inr c2)]
 rw[if_neg (by omega),if_neg (show ¬ (6 < r.Classes\/6 < z.Years.length) by omega)]
 refine(zwQ h1).pick (fun h=>?_) fun h=>by rw[if_neg (by decide),if_neg fun h'=>h h'.rl]
 rw[if_pos rfl]
 refine(zwR h2 h h1).pick (fun h'=>?_) fun h'=>by rw[if_neg (by decide),if_neg fun h9=>h' ⟨h9.first,h9.ys⟩]
 rw[if_pos rfl,if_pos ⟨h,h'.1,h'.2⟩]
theorem zwT{n lo hi:Int}:Ev (zsb n lo hi) (lo<=n/\n<=hi):=Ev.ite fun _=>Ev.dec Iff.rfl
theorem zwU{r:Rg}:Ev (zsc r) (RgP r):=by
 unfold zsc;exact Ev.ite fun _=>Ev.ite fun _=>Ev.ite fun _=>Ev.gd (fI (by omega)) (Ev.dec Iff.rfl)
theorem zwV{r:Rl}{z:Zn}(h1:r.Price.length<=1000)(h2:z.Years.length<=1000):zse r z=some (zwG r z):=by
 unfold zse zwG zwF
 by_cases c1:6 < r.Classes
 ·rw[if_pos c1,if_pos (.inl c1)]
 rw[if_neg c1]
 by_cases c2:6 < z.Years.length
 ·rw[if_pos (by omega),if_pos (.inr c2)]
 rw[if_neg (by omega),if_neg (show ¬ (6 < r.Classes\/6 < z.Years.length) by omega)]
 by_cases c3:r.Classes < 1
 ·rw[if_pos c3,if_neg fun h=>by have:=h.rl.c0; omega]
 rw[if_neg c3]
 by_cases c4:(r.Price.length:Int)=r.Classes
 rotate_left
 ·rw[if_neg c4,if_neg fun h=>c4 h.rl.pl]
 rw[if_pos c4]
 refine zwT.pick (fun c5=>?_) fun c5=>by rw[if_neg (by decide),if_neg fun h=>c5 ⟨h.rl.gb.1,h.rl.gb.2.1⟩]
 rw[if_pos rfl]
 by_cases c6:300 < r.Bad
 ·rw[if_pos c6,if_neg fun h=>by have:=h.rl.gb; omega]
 rw[if_neg c6]
 refine zwT.pick (fun c7=>?_) fun c7=>by rw[if_neg (by decide),if_neg fun h=>c7 h.rl.rest]
 rw[if_pos rfl]
 refine zwT.pick (fun c8=>?_) fun c8=>by rw[if_neg (by decide),if_neg fun h=>c8 h.rl.few]
 rw[if_pos rfl,zqs (fI (by omega))]
 refine zwT.pick (fun c9=>?_) fun c9=>by rw[if_neg (by decide),if_neg fun h=>c9 h.first]
 rw[if_pos rfl]
 have kY:=zrG (l:=z.Years) (F:=fun d x=>prFault_L1 z d x) (ok:=zwB) (bad:=some 1) (fin:=some 0) (fun d k a hk=>by
  have hkl:=(List.getElem?_eq_some_iff.1 hk).1
  show(zwB a->prFault_L1 z (d+1) (k:Int)=_)/\(¬ zwB a->prFault_L1 z (d+1) (k:Int)=_)
  rw[prFault_L1,if_pos (by omega),zrx hk,obs];refine⟨fun h=>?_,fun h=>?_⟩
  ·rw[zwU.some_of h.1,obs,if_pos rfl,zwU.some_of h.2.1,obs,if_pos rfl,zwT.some_of h.2.2,obs,if_pos rfl,zqs (fI (by omega))]
  ·refine zwU.pick (fun a1=>?_) fun _=>by rw[if_neg (by decide)]
   rw[if_pos rfl]
   refine zwU.pick (fun a2=>?_) fun _=>by rw[if_neg (by decide)]
   rw[if_pos rfl]
   refine zwT.pick (fun a3=>absurd ⟨a1,a2,a3⟩ h) fun _=>by rw[if_neg (by decide)]) (fun d=>by show prFault_L1 z (d+1) _=_; rw[prFault_L1,if_neg (Int.lt_irrefl _)]) (d:=1000000) (by omega)
 have kP:=zrB (n:=r.Price.length) (F:=fun d x=>zsd r z d 0 x) (ok:=fun j=>(∀x,r.Price[j]? = some x->1<=x/\x<=10000)/\zwC r.Price j) (bad:=some 1) (fin:=prFault_L1 z 1000000 0) (fun d k hk=>by
  have hg:=List.getElem?_eq_getElem hk;have hk':=hk
  show(_->zsd r z (d+1) 0 (k:Int)=_)/\(_->zsd r z (d+1) 0 (k:Int)=_)
  rw[zsd,if_pos (by omega),zrx hg,obs];have e1:(∀x,r.Price[k]? = some x->1<=x/\x<=10000)↔(1<=r.Price[k]/\r.Price[k]<=10000):=⟨fun h=>h _ hg,fun h x hx=>by rw[hg] at hx; cases hx; exact h⟩;rw[e1]
  by_cases q1:1<=r.Price[k]/\r.Price[k]<=10000
  rotate_left
  ·rw[zwT.some_not q1,obs,if_neg (by decide)];exact⟨fun h=>absurd h.1 q1,fun _=>rfl⟩
  rw[zwT.some_of q1,obs,if_pos rfl]
  cases k with
  | zero=>
   rw[if_neg (by omega),zqs (fI (by omega))];exact⟨fun _=>rfl,fun h=>absurd ⟨q1,fun h0=>by omega⟩ h⟩
  | succ i=>
   have hg0:=List.getElem?_eq_getElem (show i < r.Price.length by omega)
   have e:((i+1:Nat):Int) - 1=(i:Int):=by omega
   rw[if_pos (by omega),obs,e,zqs (fI (by omega)),zrx hg0,obs];have hso:zwC r.Price (i+1)↔¬ r.Price[i+1] < r.Price[i]:=⟨fun h=>h (by omega) _ _ hg hg0,fun h _ x y hx hy=>by rw[hg] at hx; have hy:r.Price[i]? = some y:=hy; rw[hg0] at hy; cases hx; cases hy; exact h⟩
   by_cases hc:r.Price[i+1] < r.Price[i]
   ·rw[if_pos hc]; exact⟨fun h=>absurd hc (hso.1 h.2),fun _=>rfl⟩
   ·rw[if_neg hc,zqs (fI (by omega))]; exact⟨fun _=>rfl,fun h=>absurd ⟨q1,hso.2 hc⟩ h⟩) (fun d=>by show zsd r z (d+1) 0 _=_; rw[zsd,if_neg (Int.lt_irrefl _)]) (d:=1000000) (by omega)
 by_cases q:∀j,j < r.Price.length->(∀x,r.Price[j]? = some x->1<=x/\x<=10000)/\zwC r.Price j
 rotate_left
 ·have:=kP.2 q;have this:zsd r z 1000000 0 0=some 1:=this;rw[this,if_neg fun h=>q fun j hj=>⟨fun x hx=>h.rl.pr x (List.mem_of_getElem? hx),h.rl.so j hj⟩]
 have e:=kP.1 q;have e:zsd r z 1000000 0 0=prFault_L1 z 1000000 0:=e;rw[e]
 have hrl:zwD r:=⟨by omega,c4,⟨c5.1,c5.2,by omega⟩,c7,c8,fun x hx=>by
  obtain⟨i,hi⟩:=List.mem_iff_getElem?.1 hx
  exact(q i (List.getElem?_eq_some_iff.1 hi).1).1 x hi,fun j hj=>(q j hj).2⟩
 by_cases qy:∀y∈z.Years,zwB y
 ·rw[if_pos ⟨hrl,c9,qy⟩]; exact kY.1 qy
 ·rw[if_neg fun h=>qy h.ys]; exact kY.2 qy
end
end Go.Proofs.Ytlpjlgmoaipoiaa

namespace Go.Proofs.Ytlpjlgmoaipoiaa
open _root_.Go.Proofs.Try
open Go.Abs
set_option maxRecDepth 100000
noncomputable section
def zwW(r:Rl)(y:Yr):Bool:=!y.Exempt && decide (r.Fewest<=y.Parcels)
def kN(r:Rl)(y:Yr)(l p:Int):Int:=if zwW r y=true then (if l * 100 < p * r.Good then 1 else if p * r.Bad < l * 100 then 2 else 3) else 0
theorem zwX{r:Rl}{y:Yr}:zs1 r y=some (zwW r y):=by
 unfold zs1 zwW
 cases y.Exempt <;> simp
theorem zwY(r:Rl)(y:Yr)(l p:Int):0<=kN r y l p/\kN r y l p < 4:=by
 unfold kN
 split
 ·split
  ·omega
  ·split <;> omega
 ·omega
theorem zwZ{r:Rl}{y:Yr}{l p:Int}:kN r y l p=0↔zwW r y=false:=by
 unfold kN
 cases zwW r y with
 | true=>
  rw[if_pos rfl]
  constructor
  ·intro h; split at h
   ·omega
   ·split at h <;> omega
  ·intro h; cases h
 | false=>simp
theorem zw0{a b:Int}(h1:0<=a/\a<=10000)(h2:0<=b/\b<=300):0<=a * b/\a * b<=3000000:=
 ⟨Int.mul_nonneg h1.1 h2.1,by have:a * b<=10000 * 300:=Int.mul_le_mul h1.2 h2.2 h2.1 (by omega); omega⟩
theorem zw1{r:Rl}(h:zwD r){y:Yr}{l p:Int}(hl:0<=l/\l<=10000)(hp:0<=p/\p<=10000):zs2 r y l p=some (kN r y l p):=by
 have hg:=h.gb;have m1:=zw0 hp (b:=r.Good) (by omega);have m2:=zw0 hp (b:=r.Bad) (by omega);unfold zs2 kN;rw[zwX,obs]
 by_cases hc:zwW r y=true
 rotate_left
 ·rw[if_neg hc,if_neg hc]
 rw[if_pos hc,if_pos hc,zqs hl.1,zqs (by omega),zqs (fI (by omega)),zqs hp.1,zqs (by omega),zqs (fI (by omega))]
 by_cases h1:l * 100 < p * r.Good
 ·rw[if_pos h1,if_pos h1]
 ·rw[if_neg h1,if_neg h1,zqs hl.1,zqs (by omega),zqs (fI (by omega)),zqs hp.1,zqs (by omega),zqs (fI (by omega))]
  split <;> rfl
theorem zw2{r:Rl}(h:zwD r){y:Yr}{l p:Int}(hl:0<=l/\l<=10000)(hp:0<=p/\p<=10000):zsg r y l p=some (kN r y l p):=zw1 h hl hp
def mkP(f:Nat->Bool):P4:=⟨f 0,f 1,f 2,f 3⟩
def upF{α:Type}(f:Nat->α)(k:Nat)(a:α):Nat->α:=fun j=>if j=k then a else f j
theorem zw3{α:Type}(f:Nat->α){i:Int}(hi:0<=i)(a:α)(j:Nat):sti i j a (f j)=upF f i.toNat a j:=by
 unfold sti upF
 by_cases h:j=i.toNat
 ·rw[if_pos h,if_pos (by omega)]
 ·rw[if_neg h,if_neg (by omega)]
theorem zw4(f:Nat->Bool)(i k:Nat):upF f i true k=true↔f k=true\/i=k:=by
 unfold upF
 by_cases h:k=i
 ·rw[if_pos h]; exact⟨fun _=>.inr h.symm,fun _=>rfl⟩
 ·rw[if_neg h]; exact⟨.inl,fun h'=>h'.elim id fun h2=>absurd h2.symm h⟩
theorem zw5{f g:Nat->Bool}(h:∀k,k < 4->(f k=true↔g k=true)):mkP f=mkP g:=by
 have e:∀k,k < 4->f k=g k:=fun k hk=>Bool.eq_iff_iff.2 (h k hk);unfold mkP;rw[e 0 (by omega),e 1 (by omega),e 2 (by omega),e 3 (by omega)]
def zw6(r:Rg):List Int:=segI r.Lo (r.Hi - r.Lo+1).toNat
def kB(r:Rl)(y:Yr)(k:Nat):Bool:=(zw6 y.Losses).any fun l=>(zw6 y.Premiums).any fun p=>kN r y l p == (k:Int)
def zw7(r:Rl)(y:Yr)(k:Int):Prop:=∃l p,(y.Losses.Lo<=l/\l<=y.Losses.Hi)/\(y.Premiums.Lo<=p/\p<=y.Premiums.Hi)/\kN r y l p=k
theorem zw8{r:Rg}{x:Int}:x∈zw6 r↔r.Lo<=x/\x<=r.Hi:=by
 unfold zw6;rw[zrQ]
 omega
theorem zw9{r:Rl}{y:Yr}{k:Nat}:kB r y k=true↔zw7 r y (k:Int):=by
 unfold kB zw7;rw[List.any_eq_true]
 constructor
 ·rintro⟨l,hl,h⟩
  obtain⟨p,hp,h⟩:=List.any_eq_true.1 h;exact⟨l,p,zw8.1 hl,zw8.1 hp,of_decide_eq_true h⟩
 ·rintro⟨l,p,hl,hp,h⟩
  exact⟨l,zw8.2 hl,List.any_eq_true.2 ⟨p,zw8.2 hp,decide_eq_true h⟩⟩
theorem zxa{r:Rl}(h:zwD r){y:Yr}:∀(l:List (List Int)) (f:Nat->Bool),(∀a∈l,∃x p,a=[x,p]/\(0<=x/\x<=10000)/\0<=p/\p<=10000) ->
  ∃g:Nat->Bool,pwithin_L0 r y l (f 0) (f 1) (f 2) (f 3)=some (mkP g)/\∀k,g k=true↔f k=true\/∃x p,[x,p]∈l/\kN r y x p=(k:Int)
 | [],f,_=>⟨f,rfl,fun k=>⟨.inl,fun h=>h.elim id fun⟨_,_,h,_⟩=>by cases h⟩⟩
 | a::l,f,hl=>by
  obtain⟨x,p,rfl,hx,hp⟩:=hl a (List.mem_cons_self ..);have hb:=zwY r y x p;obtain⟨g,h1,h2⟩:=zxa h (y:=y) l (upF f (kN r y x p).toNat true) fun b hb=>hl b (List.mem_cons_of_mem _ hb);refine⟨g,?_,fun k=>(h2 k).trans ?_⟩
  ·unfold pwithin_L0;rw[show idx [x,p] 0=some x from rfl,obs,show idx [x,p] 1=some p from rfl,obs,zw1 h hx hp,obs,zqs ⟨hb.1,hb.2⟩,zw3 f hb.1,zw3 f hb.1,zw3 f hb.1,zw3 f hb.1];exact h1
  ·rw[zw4]
   constructor
   ·rintro ((h3 | h3) | ⟨x',p',h3,h4⟩)
    ·exact .inl h3
    ·exact .inr ⟨x,p,List.mem_cons_self ..,by omega⟩
    ·exact .inr ⟨x',p',List.mem_cons_of_mem _ h3,h4⟩
   ·rintro (h3 | ⟨x',p',h3,h4⟩)
    ·exact .inl (.inl h3)
    ·rcases List.mem_cons.1 h3 with h5 | h5
     ·injection h5 with e1 e2
      injection e2 with e2 _
      subst e1 e2;exact .inl (.inr (by omega))
     ·exact .inr ⟨x',p',h5,h4⟩
theorem zxb{a b:Rg}{x p:Int}:[x,p]∈chW [a,b] []↔(a.Lo<=x/\x<=a.Hi)/\b.Lo<=p/\p<=b.Hi:=by
 show[x,p]∈zrm (fun n=>zrm (fun m=>[([]++[a.Lo+(n:Int)])++[b.Lo+(m:Int)]]) (szR b).toNat 0) (szR a).toNat 0↔_
 rw[zvy];unfold szR
 constructor
 ·rintro⟨n,_,hn,h⟩
  rw[zvy] at h;obtain⟨m,_,hm,h⟩:=h;have h:=List.mem_singleton.1 h
  injection h with e1 e2
  injection e2 with e2 _
  omega
 ·intro h;refine⟨(x - a.Lo).toNat,by omega,by omega,(zvy _ _ _ _).2 ⟨(p - b.Lo).toNat,by omega,by omega,List.mem_singleton.2 ?_⟩⟩;rw[show a.Lo+((x - a.Lo).toNat:Int)=x by omega,show b.Lo+((p - b.Lo).toNat:Int)=p by omega]; rfl
theorem zxc{a b:Rg}{l:List Int}(h:l∈chW [a,b] []):∃x p,l=[x,p]:=by
 have h:l∈zrm (fun n=>zrm (fun m=>[([]++[a.Lo+(n:Int)])++[b.Lo+(m:Int)]]) (szR b).toNat 0) (szR a).toNat 0:=h;rw[zvy] at h;obtain⟨n,_,hn,h⟩:=h;rw[zvy] at h;obtain⟨m,_,hm,h⟩:=h;exact⟨_,_,List.mem_singleton.1 h⟩
theorem zxd{r:Rl}(h:zwD r){y:Yr}(hy:zwB y):ztB r y=some (mkP (kB r y)):=by
 obtain⟨h1,h2,_⟩:=hy;unfold RgP at h1 h2;unfold ztB zty
 rw[zqs ⟨by simp,fun a ha=>by
  unfold okR
  rcases List.mem_cons.1 ha with rfl | ha
  ·omega
  ·rw[List.mem_singleton.1 ha]; omega⟩,obs]
 obtain⟨g,e1,e2⟩:=zxa h (y:=y) (chW [y.Losses,y.Premiums] []) (fun _=>false) fun a ha=>by
  obtain⟨x,p,rfl⟩:=zxc ha;have:=zxb.1 ha;exact⟨x,p,rfl,by omega,by omega⟩
 have e1:pwithin_L0 r y (chW [y.Losses,y.Premiums] []) false false false false=some (mkP g):=e1;rw[e1]
 congr 1
 refine zw5 fun k _=>(e2 k).trans ?_;rw[zw9];unfold zw7
 constructor
 ·rintro (h3 | ⟨x,p,h3,h4⟩)
  ·cases h3
  ·exact⟨x,p,(zxb.1 h3).1,(zxb.1 h3).2,h4⟩
 ·rintro⟨x,p,h3,h4,h5⟩
  exact .inr ⟨x,p,zxb.2 ⟨h3,h4⟩,h5⟩
def step(r:Rl)(k:Int)(s:Stt):Stt:=if k=2 then ⟨min (s.cls+1) (r.Classes - 1),0⟩ else if k=1 then ⟨if s.since=r.Rest then max 0 (s.cls - 1) else s.cls,min (s.since+1) r.Rest⟩ else if k=3 then ⟨s.cls,min (s.since+1) r.Rest⟩ else s
def SOk(r:Rl)(s:Stt):Prop:=(0<=s.cls/\s.cls<=r.Classes - 1)/\0<=s.since/\s.since<=r.Rest
theorem zxe{r:Rl}(h:zwD r)(k:Int){s:Stt}(hs:SOk r s):SOk r (step r k s):=by
 have h1:=h.rest;have h2:=h.c0;unfold SOk at hs;unfold step SOk
 split
 ·exact⟨⟨by show(0:Int)<=min _ _; omega,by show min _ _<=_; omega⟩,by show(0:Int)<=0; omega,by show(0:Int)<=_; omega⟩
 ·split
  ·refine⟨?_,by show(0:Int)<=min _ _; omega,by show min _ _<=_; omega⟩
   show 0<=(if s.since=r.Rest then max 0 (s.cls - 1) else s.cls)/\(if s.since=r.Rest then max 0 (s.cls - 1) else s.cls)<=r.Classes - 1
   split <;> omega
  ·split
   ·exact⟨hs.1,by show(0:Int)<=min _ _; omega,by show min _ _<=_; omega⟩
   ·exact hs
def zxf(r:Rl)(s:Stt)(ks:List Int):Stt:=ks.foldl (fun s k=>step r k s) s
def zxg(r:Rl):Stt->List Int->List Int
 | _,[]=>[]
 | s,k::ks=>(step r k s).cls::zxg r (step r k s) ks
theorem zxh{r:Rl}(h:zwD r):∀(ks:List Int) {s:Stt},SOk r s->SOk r (zxf r s ks)
 | [],_,hs=>hs
 | k::ks,_,hs=>zxh h ks (zxe h k hs)
theorem zxi(r:Rl)(s:Stt)(a b:List Int):zxf r s (a++b)=zxf r (zxf r s a) b:=List.foldl_append
theorem zxj(r:Rl)(s:Stt)(a:List Int)(k:Int):zxf r s (a++[k])=step r k (zxf r s a):=zxi r s a [k]
theorem zxk(r:Rl):∀(a b:List Int) (s:Stt),zxg r s (a++b)=zxg r s a++zxg r (zxf r s a) b
 | [],_,_=>rfl
 | k::a,b,s=>congrArg ((step r k s).cls :: ·) (zxk r a b (step r k s))
theorem zxl(r:Rl):∀(a:List Int) (s:Stt),(zxg r s a).length=a.length
 | [],_=>rfl
 | k::a,s=>congrArg (· + 1) (zxl r a (step r k s))
theorem zxm(r:Rl):∀(a:List Int) (s:Stt) (i:Nat),i < a.length->(zxg r s a)[i]? = some (zxf r s (a.take (i+1))).cls
 | [],_,_,h=>by simp at h
 | k::a,s,0,_=>rfl
 | k::a,s,i+1,h=>zxm r a (step r k s) i (by simp at h; omega)
theorem zxn{l:List Int}{k:Nat}{x:Int}(h:l[k]? = some x):l.take (k+1)=l.take k++[x]:=by rw[List.take_add_one,h]; rfl
def zxo:K4:={ k0:={ lead:=fun a b=>zsW a b },k1:={ lead:=fun a b=>zsY a b },k2:={ lead:=fun a b=>zsZ a b },k3:={ lead:=fun a b=>zsX a b } }
theorem zxp:zs0=some zxo:=rfl
theorem zxq{r:Rl}{s:Stt}:zsW r s=some (step r 0 s):=rfl
theorem zxr{r:Rl}(h:zwD r){s:Stt}(hs:SOk r s):zsX r s=some (step r 3 s):=by
 have:=h.rest;unfold SOk at hs;unfold zsX;rw[zqs (fI (by omega))]; rfl
theorem zxs{r:Rl}(h:zwD r)(hc:r.Classes<=6){s:Stt}(hs:SOk r s):zsY r s=some (step r 1 s):=by
 have hs':=hs;unfold SOk at hs';unfold zsY;rw[zxr h hs,obs];unfold step
 by_cases hr:s.since=r.Rest
 ·rw[if_pos hr,zqs (fI (by omega)),if_neg (by decide),if_pos rfl,if_pos hr]; rfl
 ·rw[if_neg hr,if_neg (by decide),if_pos rfl,if_neg hr]; rfl
theorem zxt{r:Rl}(h:zwD r)(hc:r.Classes<=6){s:Stt}(hs:SOk r s):zsZ r s=some (step r 2 s):=by
 have:=h.c0;unfold SOk at hs;unfold zsZ;rw[zqs (fI (by omega)),zqs (fI (by omega))]; rfl
def zxu(r:Rl)(z:Zn):Wk:={ r:=r,zone:=z,kinds:=zxo,can:=z.Years.map fun y=>mkP (kB r y) }
theorem zxv{r:Rl}{z:Zn}(h:VZ r z):ztD r z=some (zxu r z,0):=by
 have h6:=h.y6;have hpl:=h.full.rl.pl;have hc6:=h.c6;unfold ztD;rw[zwS (by omega) (by omega),obs,zwH.2 h,if_pos rfl,zxp,obs]
 exact zrD (l:=z.Years) (fun y=>mkP (kB r y)) (F:=fun d acc x=>ztC r z zxo d r.Classes r.Good r.Bad r.Rest r.Fewest z.First acc x) (fun acc=>some (({ r:=r,zone:=z,kinds:=zxo,can:=acc }:Wk),(0:Int))) (fun d k acc a hk ha=>by
  have hkl:=(List.getElem?_eq_some_iff.1 hk).1
  show ztC r z zxo (d+1) _ _ _ _ _ _ _ _=_
  rw[ztC,if_pos (by omega),zrx hk,obs,zxd h.full.rl (h.full.ys a (List.mem_of_getElem? hk)),obs,zqs (by omega),zqs (fI (by omega))]) (fun d acc=>by
  show ztC r z zxo (d+1) _ _ _ _ _ _ _ _=_
  rw[ztC,if_neg (Int.lt_irrefl _)]) (by omega)
theorem zxw{z:Zn}(h:z.Years.length<=1000){n:Int}:Ev (zsS z n) (0<=n/\n<=(z.Years.length:Int) - 1):=by
 unfold zsS;refine Ev.gd (fI (by omega)) ?_;exact(show Ev (zsr { Lo:=0,Hi:=(z.Years.length:Int) - 1 } n) _ from zwI).ret
theorem zxx{r:Rl}{z:Zn}(h:VZ r z){n:Int}(hn:0<=n/\n<=(z.Years.length:Int) - 1):ztE r z n=some (zxu r z,0):=by
 have:=h.y6;unfold ztE;rw[zxv h,obs,if_pos rfl,(zxw (by omega)).some_of hn,obs,if_pos rfl]
theorem zxy{r:Rl}{z:Zn}(h:VZ r z){n:Int}(hn:¬ (0<=n/\n<=(z.Years.length:Int) - 1)):∃w,ztE r z n=some (w,2):=by
 have:=h.y6;unfold ztE;rw[zxv h,obs,if_pos rfl,(zxw (by omega)).some_not hn,obs,if_neg (by decide)];exact⟨_,rfl⟩
def zxz(z:Zn)(t:Tr)(j:Nat):Prop:=∀(y:Yr) (a b:Int),z.Years[j]? = some y->t.Losses[j]? = some a->t.Premiums[j]? = some b->(y.Losses.Lo<=a/\a<=y.Losses.Hi)/\y.Premiums.Lo<=b/\b<=y.Premiums.Hi
structure zxA (z:Zn) (t:Tr):Prop where
 l:t.Losses.length=z.Years.length
 p:t.Premiums.length=z.Years.length
 ok:∀j,zxz z t j
theorem zxB{z:Zn}{t:Tr}(h:z.Years.length<=1000):Ev (zsU z t) (zxA z t):=by
 unfold zsU;refine(Ev.ite (K:=t.Premiums.length=z.Years.length/\(∀j,j < z.Years.length->zxz z t j)/\True) fun h1=>(Ev.ite fun h2=>Ev.loop (n:=z.Years.length) (F:=fun d x=>zsT z t d x) (ok:=fun j=>zxz z t j) (fin:=some true) (P:=True) (fun d k hk=>?_) (fun d=>?_) (by omega) fun _=>Ev.tt trivial).imp (and_congr_left fun _=>by omega)).imp ?_
 ·have hg:=List.getElem?_eq_getElem hk;have ha:=List.getElem?_eq_getElem (show k < t.Losses.length by omega);have hb:=List.getElem?_eq_getElem (show k < t.Premiums.length by omega)
  show(_->zsT z t (d+1) (k:Int)=_)/\(_->zsT z t (d+1) (k:Int)=_)
  rw[zsT,if_pos (by omega),zrx hg,obs,zrx ha,obs]
  have e:zxz z t k↔((z.Years[k].Losses.Lo<=t.Losses[k]/\t.Losses[k]<=z.Years[k].Losses.Hi)/\z.Years[k].Premiums.Lo<=t.Premiums[k]/\t.Premiums[k]<=z.Years[k].Premiums.Hi):=by
   unfold zxz;rw[hg,ha,hb];exact⟨fun q=>q _ _ _ rfl rfl rfl,fun q y a b h1 h2 h3=>by cases h1; cases h2; cases h3; exact q⟩
  rw[e]
  by_cases c1:z.Years[k].Losses.Lo<=t.Losses[k]/\t.Losses[k]<=z.Years[k].Losses.Hi
  ·rw[zwI.some_of c1,obs,if_pos rfl,zrx hb,obs]
   by_cases c2:z.Years[k].Premiums.Lo<=t.Premiums[k]/\t.Premiums[k]<=z.Years[k].Premiums.Hi
   ·rw[zwI.some_of c2,obs,if_pos rfl,zqs (fI (by omega))];exact⟨fun _=>rfl,fun q=>absurd ⟨c1,c2⟩ q⟩
   ·rw[zwI.some_not c2,obs,if_neg (by decide)];exact⟨fun q=>absurd q.2 c2,fun _=>rfl⟩
  ·rw[zwI.some_not c1,obs,if_neg (by decide)];exact⟨fun q=>absurd q.1 c1,fun _=>rfl⟩
 ·show zsT z t (d+1) _=_
  rw[zsT,if_neg (Int.lt_irrefl _)]
 ·exact⟨fun⟨h1,h2,h3,_⟩=>⟨by omega,h2,fun j y a b hy=>h3 j (List.getElem?_eq_some_iff.1 hy).1 y a b hy⟩,fun⟨h1,h2,h3⟩=>⟨by omega,h2,fun j _=>h3 j,trivial⟩⟩
def ktL(r:Rl):List Yr->List Int->List Int->List Int
 | y::ys,a::us,b::vs=>kN r y a b::ktL r ys us vs
 | [],_,_=>[]
 | _::_,[],_=>[]
 | _::_,_::_,[]=>[]
theorem zxC{r:Rl}:∀{ys:List Yr} {us vs:List Int},us.length=ys.length->vs.length=ys.length->(ktL r ys us vs).length=ys.length
 | [],_,_,_,_=>rfl
 | y::ys,a::us,b::vs,h1,h2=>by
  show(ktL r ys us vs).length+1=ys.length+1
  rw[zxC (by simpa using h1) (by simpa using h2)]
 | y::ys,[],_,h1,_=>by simp at h1
 | y::ys,_::_,[],_,h2=>by simp at h2
theorem zxD{r:Rl}:∀{ys:List Yr} {us vs:List Int} {k:Nat} {y:Yr} {a b:Int},ys[k]? = some y->us[k]? = some a->vs[k]? = some b->(ktL r ys us vs)[k]? = some (kN r y a b)
 | [],_,_,_,_,_,_,h,_,_=>by simp at h
 | _::_,[],_,_,_,_,_,_,h,_=>by simp at h
 | _::_,_::_,[],_,_,_,_,_,_,h=>by simp at h
 | y::ys,a::us,b::vs,0,_,_,_,h1,h2,h3=>by cases h1; cases h2; cases h3; rfl
 | y::ys,a::us,b::vs,k+1,_,_,_,h1,h2,h3=>zxD (ys:=ys) (us:=us) (vs:=vs) (k:=k) h1 h2 h3
def st0(r:Rl)(z:Zn):Stt:=⟨z.First,r.Rest⟩
def ktN(r:Rl)(z:Zn)(t:Tr):List Int:=ktL r z.Years t.Losses t.Premiums
def zxE(r:Rl)(z:Zn)(t:Tr):List Int:=zxg r (st0 r z) (ktN r z t)
theorem VZ.st0{r:Rl}{z:Zn}(h:VZ r z):SOk r (st0 r z):=by
 have h1:=h.full.first;have h2:=h.full.rl.rest;exact⟨h1,h2.1,Int.le_refl _⟩
theorem zxF{r:Rl}(h:zwD r)(hc:r.Classes<=6){s:Stt}(hs:SOk r s){k:Int}(hk:0<=k/\k < 4){β:Type}{G:Stt->Option β} :
  (if k=0 then (zxo.k0.lead r s).bind G else if k=1 then (zxo.k1.lead r s).bind G else if k=2 then (zxo.k2.lead r s).bind G else if k=3 then (zxo.k3.lead r s).bind G else none)=G (step r k s):=by
 by_cases h0:k=0
 ·subst h0; rw[if_pos rfl,show zxo.k0.lead r s=some (step r 0 s) from zxq,obs]
 rw[if_neg h0]
 by_cases h1:k=1
 ·subst h1; rw[if_pos rfl,show zxo.k1.lead r s=some (step r 1 s) from zxs h hc hs,obs]
 rw[if_neg h1]
 by_cases h2:k=2
 ·subst h2; rw[if_pos rfl,show zxo.k2.lead r s=some (step r 2 s) from zxt h hc hs,obs]
 rw[if_neg h2]
 have h3:k=3:=by omega
 subst h3; rw[if_pos rfl,show zxo.k3.lead r s=some (step r 3 s) from zxr h hs,obs]
theorem zxG{r:Rl}{z:Zn}(h:VZ r z){t:Tr}(ht:zxA z t){k:Nat}(hk:k < z.Years.length) :
  ∃y a b,z.Years[k]? = some y/\t.Losses[k]? = some a/\t.Premiums[k]? = some b/\((y.Losses.Lo<=a/\a<=y.Losses.Hi)/\y.Premiums.Lo<=b/\b<=y.Premiums.Hi)/\(0<=a/\a<=10000)/\0<=b/\b<=10000:=by
 have h1:=ht.l;have h2:=ht.p;have hg:=List.getElem?_eq_getElem hk;have ha:=List.getElem?_eq_getElem (show k < t.Losses.length by omega);have hb:=List.getElem?_eq_getElem (show k < t.Premiums.length by omega);have hr:=ht.ok k _ _ _ hg ha hb;have hy:=h.full.ys _ (List.getElem_mem hk);obtain⟨q1,q2,_⟩:=hy;unfold RgP at q1 q2;exact⟨_,_,_,hg,ha,hb,hr,by omega,by omega⟩
theorem zxH{r:Rl}{z:Zn}{t:Tr}(ht:zxA z t):(ktN r z t).length=z.Years.length:=zxC ht.l ht.p
theorem zxI{r:Rl}{z:Zn}{t:Tr}{k:Nat}{y:Yr}{a b:Int}(h1:z.Years[k]? = some y)(h2:t.Losses[k]? = some a)(h3:t.Premiums[k]? = some b):(ktN r z t)[k]? = some (kN r y a b):=zxD h1 h2 h3
theorem zxJ{r:Rl}{s:Stt}{ks:List Int}{k:Nat}{x:Int}(h:ks[k]? = some x):zxg r s (ks.take (k+1))=zxg r s (ks.take k)++[(step r x (zxf r s (ks.take k))).cls]:=by
 rw[zxn h,zxk]; rfl
theorem zxK{r:Rl}{s:Stt}{ks:List Int}{k:Nat}{x:Int}(h:ks[k]? = some x):zxf r s (ks.take (k+1))=step r x (zxf r s (ks.take k)):=by
 rw[zxn h,zxj]
theorem zxL{r:Rl}{z:Zn}(h:VZ r z){t:Tr}(ht:zxA z t):zth (zxu r z) t=some (zxE r z t):=by
 have h6:=h.y6;have hl:=zxH (r:=r) ht;unfold zth ztf;rw[obs];refine zwA (n:=z.Years.length) (fun d (s:Stt × List Int) x=>ztg (zxu r z) t d s.1.cls s.1.since s.2 x) (fun k=>(zxf r (st0 r z) ((ktN r z t).take k),zxg r (st0 r z) ((ktN r z t).take k))) (fun d k hk=>?_) (fun d=>?_) (z.Years.length+1) 0 (by omega) (by omega)
 ·obtain⟨y,a,b,hy,ha,hb,_,ha2,hb2⟩:=zxG h ht hk;have hkt:=zxI (r:=r) hy ha hb;have hs:=zxh h.full.rl ((ktN r z t).take k) h.st0
  have hlen:(zxg r (st0 r z) ((ktN r z t).take k)).length < 1048576:=by rw[zxl,List.length_take]; omega
  show ztg (zxu r z) t (d+1) (zxf r (st0 r z) ((ktN r z t).take k)).cls (zxf r (st0 r z) ((ktN r z t).take k)).since (zxg r (st0 r z) ((ktN r z t).take k)) (k:Int)=ztg (zxu r z) t d (zxf r (st0 r z) ((ktN r z t).take (k+1))).cls (zxf r (st0 r z) ((ktN r z t).take (k+1))).since (zxg r (st0 r z) ((ktN r z t).take (k+1))) ((k:Int)+1)
  rw[zxK hkt,zxJ hkt];generalize zxg r (st0 r z) ((ktN r z t).take k)=acc at hlen;generalize zxf r (st0 r z) ((ktN r z t).take k)=s at hs;rw[ztg];refine(if_pos (show(k:Int) < ((zxu r z).zone.Years.length:Int) from by show(k:Int) < (z.Years.length:Int); omega)).trans ?_;rw[show idx (zxu r z).zone.Years (k:Int)=some y from zrx hy,obs,zrx ha,obs,zrx hb,obs,show zs2 (zxu r z).r y a b=_ from zw1 h.full.rl ha2 hb2,obs];refine(zxF (r:=r) h.full.rl h.c6 hs (zwY r y a b) (G:=fun s=>gd (acc.length < 1048576) (gd (zl6 .i64 ((k:Int)+1)) (ztg (zxu r z) t d s.cls s.since (acc++[s.cls]) ((k:Int)+1))))).trans ?_
  show gd _ (gd _ _)=_
  rw[zqs hlen,zqs (fI (by omega))]
 ·show ztg (zxu r z) t (d+1) _ _ _ _=_
  rw[ztg];refine(if_neg (show ¬ (z.Years.length:Int) < ((zxu r z).zone.Years.length:Int) from Int.lt_irrefl _)).trans ?_
  show some (zxg r (st0 r z) ((ktN r z t).take z.Years.length))=_
  rw[<- hl,List.take_length]; rfl
theorem zxM{r:Rl}{z:Zn}(h:VZ r z){t:Tr}(ht:zxA z t):ztF r z t=some (zxE r z t,0):=by
 have:=h.y6;unfold ztF;rw[zxv h,obs,if_pos rfl,(zxB (by omega)).some_of ht,obs,if_pos rfl,zxL h ht,obs]
theorem zxN{r:Rl}{z:Zn}(h:VZ r z){t:Tr}(ht:¬ zxA z t):ztF r z t=some ([],2):=by
 have:=h.y6;unfold ztF;rw[zxv h,obs,if_pos rfl,(zxB (by omega)).some_not ht,obs,if_neg (by decide)]
def zxO(first:Int)(l:List Int):Int:=match l.getLast? with | some x=>x | none=>first
theorem zxP{l:List Int}(h:0 < l.length)(first:Int):idx l ((l.length:Int) - 1)=some (zxO first l):=by
 rw[show(l.length:Int) - 1=((l.length - 1:Nat):Int) by omega,zql];unfold zxO;rw[List.getLast?_eq_getElem?,List.getElem?_eq_getElem (by omega)]
theorem zxQ{r:Rl}{z:Zn}{t:Tr}(ht:zxA z t):(zxE r z t).length=z.Years.length:=by
 unfold zxE; rw[zxl,zxH ht]
theorem zxR{r:Rl}{z:Zn}(h:VZ r z){t:Tr}(ht:zxA z t){c:Int}:ztL r z t c=some (decide (zxO z.First (zxE r z t)=c)):=by
 have h6:=h.y6;have hl:=zxQ (r:=r) ht;unfold ztL;rw[zxM h ht,obs,if_pos rfl]
 by_cases h0:z.Years.length=0
 ·rw[if_pos (show((zxE r z t).length:Int)=0 by omega)];have:zxE r z t=[]:=List.eq_nil_of_length_eq_zero (by omega);rw[this]; rfl
 ·rw[if_neg (show ¬ ((zxE r z t).length:Int)=0 by omega),zqs (fI (show -9223372036854775808<=((zxE r z t).length:Int) - 1/\((zxE r z t).length:Int) - 1 < 9223372036854775808 by omega)),show idx (zxE r z t,(0:Int)).1 (((zxE r z t).length:Int) - 1)=_ from zxP (show 0 < (zxE r z t).length by omega) z.First,obs]
def zxS(ks:List Int):Prop:=∀k∈ks,0<=k/\k < 4
theorem zxT{r:Rl}{s:Stt}(hs:SOk r s)(x:Int):(step r x s).cls=if x=2 then min (s.cls+1) (r.Classes - 1) else if x=1 then (if s.since=r.Rest then max (s.cls - 1) 0 else s.cls) else s.cls:=by
 unfold step
 by_cases h2:x=2
 ·rw[if_pos h2,if_pos h2]
 rw[if_neg h2,if_neg h2]
 by_cases h1:x=1
 ·rw[if_pos h1,if_pos h1]
  show(if _ then _ else _)=_
  rw[Int.max_comm]
 rw[if_neg h1,if_neg h1]
 split <;> rfl
def kl(p:P4):List Int:=(if p.p0=true then [0] else [])++((if p.p1=true then [1] else [])++((if p.p2=true then [2] else [])++if p.p3=true then [3] else []))
theorem zxU{p:P4}{k:Int}(h:k∈kl p):0<=k/\k < 4:=by
 unfold kl at h
 simp only[List.mem_append] at h
 rcases h with h | h | h | h <;> split at h <;> first | cases h; done | (rw[List.mem_singleton] at h; omega)
theorem zxV{f:Nat->Bool}{k:Int}:k∈kl (mkP f)↔(0<=k/\k < 4)/\f k.toNat=true:=by
 constructor
 ·intro h;refine⟨zxU h,?_⟩;unfold kl mkP at h
  simp only[List.mem_append] at h
  rcases h with h | h | h | h <;> split at h <;> first | (cases h; done) | (rename_i q; rw[List.mem_singleton] at h; rw[h]; exact q)
 ·rintro⟨hk,h⟩
  unfold kl mkP
  simp only[List.mem_append]
  have:k=0\/k=1\/k=2\/k=3:=by omega
  rcases this with rfl | rfl | rfl | rfl
  ·exact .inl (by rw[if_pos (show f 0=true from h)]; exact List.mem_singleton.2 rfl)
  ·exact .inr (.inl (by rw[if_pos (show f 1=true from h)]; exact List.mem_singleton.2 rfl))
  ·exact .inr (.inr (.inl (by rw[if_pos (show f 2=true from h)]; exact List.mem_singleton.2 rfl)))
  ·exact .inr (.inr (.inr (by rw[if_pos (show f 3=true from h)]; exact List.mem_singleton.2 rfl)))
theorem zxW{p:P4}{d:Nat}{i:Nat}{b:Bool}{l:List Int}(hi:i < 4)(hb:([p.p0,p.p1,p.p2,p.p3]:List Bool)[i]? = some b)(h:zs7 p d ((i:Int)+1)=some l):zs7 p (d+1) (i:Int)=some ((if b=true then [(i:Int)] else [])++l):=by
 rw[zs7,if_pos (by omega),zrx hb,obs,zqs (fI (by omega)),h]
 cases b <;> rfl
theorem zxX{p:P4}:zs9 p=some (kl p):=by
 have h4:zs7 p (0+1) (((3:Nat):Int)+1)=some []:=by rw[zs7,if_neg (by omega)]
 have h3:=zxW (i:=3) (by omega) rfl h4;have h2:=zxW (i:=2) (by omega) rfl h3;have h1:=zxW (i:=1) (by omega) rfl h2;have h0:=zxW (i:=0) (by omega) rfl h1;unfold zs9 zs8;have h0:zs7 p (Int.toNat 4+1) 0=_:=h0;rw[h0,obs,List.append_nil]; rfl
def zxY(cs:List P4):List (List Int):=cs.foldl (fun all p=>all.flatMap fun l=>(kl p).map fun k=>l++[k]) [[]]
theorem zxZ(cs:List P4)(p:P4):zxY (cs++[p])=(zxY cs).flatMap fun l=>(kl p).map fun k=>l++[k]:=by
 unfold zxY;rw[List.foldl_append]; rfl
theorem zx0{cs:List P4}{p:P4}{l:List Int}:l∈zxY (cs++[p])↔∃l' k,l'∈zxY cs/\k∈kl p/\l=l'++[k]:=by
 rw[zxZ,List.mem_flatMap]
 constructor
 ·rintro⟨l',h1,h2⟩
  obtain⟨k,h3,h4⟩:=List.mem_map.1 h2;exact⟨l',k,h1,h3,h4.symm⟩
 ·rintro⟨l',k,h1,h2,rfl⟩
  exact⟨l',h1,List.mem_map.2 ⟨k,h2,rfl⟩⟩
theorem zx1{α:Type}{l:List α}{k:Nat}{x:α}(h:l[k]? = some x):l.take (k+1)=l.take k++[x]:=by rw[List.take_add_one,h]; rfl
def Fit(ks:List Int)(cs:List P4):Prop:=ks.length=cs.length/\∀(i:Nat) (k:Int) (p:P4),ks[i]? = some k->cs[i]? = some p->k∈kl p
theorem zx2{cs:List P4}{p:P4}{l:List Int}:Fit l (cs++[p])↔∃l' k,Fit l' cs/\k∈kl p/\l=l'++[k]:=by
 unfold Fit
 constructor
 ·rintro⟨h1,h2⟩
  rw[List.length_append] at h1
  simp only[List.length_cons,List.length_nil] at h1
  have hl:cs.length < l.length:=by omega
  have hg:=List.getElem?_eq_getElem hl;refine⟨l.take cs.length,l[cs.length],⟨by rw[List.length_take]; omega,fun i k q hi hq=>?_⟩,h2 cs.length _ p hg (by rw[List.getElem?_append_right (Nat.le_refl _),Nat.sub_self]; rfl),?_⟩
  ·have hi':=(List.getElem?_eq_some_iff.1 hq).1;rw[List.getElem?_take,if_pos hi'] at hi;exact h2 i k q hi (by rw[List.getElem?_append_left hi']; exact hq)
  ·rw[<- zx1 hg,List.take_of_length_le (by omega)]
 ·rintro⟨l',k,⟨h1,h2⟩,h3,rfl⟩
  refine⟨by rw[List.length_append,List.length_append,h1]; rfl,fun i k' q hi hq=>?_⟩
  rcases Nat.lt_or_ge i cs.length with h4 | h4
  ·rw[List.getElem?_append_left (by omega)] at hi;rw[List.getElem?_append_left h4] at hq;exact h2 i k' q hi hq
  ·have h5:=(List.getElem?_eq_some_iff.1 hq).1;rw[List.length_append] at h5
   simp only[List.length_cons,List.length_nil] at h5
   have e:i=cs.length:=by omega
   subst e;rw[List.getElem?_append_right (Nat.le_refl _),Nat.sub_self] at hq;rw[<- h1,List.getElem?_append_right (Nat.le_refl _),Nat.sub_self] at hi
   cases hq; cases hi; exact h3
theorem zx3:∀(cs:List P4) {l:List Int},l∈zxY cs↔Fit l cs:=by
 have key:∀(n:Nat) (cs:List P4),cs.length=n->∀{l:List Int},l∈zxY cs↔Fit l cs:=by
  intro n
  induction n with
  | zero=>
   intro cs h l;rw[List.eq_nil_of_length_eq_zero h]
   show l∈[[]]↔_
   rw[List.mem_singleton];exact⟨fun h=>by rw[h]; exact⟨rfl,fun i k p hi=>by simp at hi⟩,fun h=>List.eq_nil_of_length_eq_zero h.1⟩
  | succ n ih=>
   intro cs h l;have hg:=List.getElem?_eq_getElem (show n < cs.length by omega)
   have e:cs=cs.take n++[cs[n]]:=by rw[<- zx1 hg,List.take_of_length_le (by omega)]
   rw[e,zx0,zx2];exact exists_congr fun l'=>exists_congr fun k=>and_congr_left fun _=>ih _ (by rw[List.length_take]; omega)
 intro cs;exact key cs.length cs rfl
def nx(r:Rl)(p:P4)(q:Stt):List Stt:=(kl p).map fun k=>step r k q
def zx4(r:Rl)(s:Stt)(cs:List P4):List Stt:=(zxY cs).map (zxf r s)
theorem zx5{r:Rl}{s q:Stt}{cs:List P4}:q∈zx4 r s cs↔∃ks,Fit ks cs/\zxf r s ks=q:=by
 unfold zx4;rw[List.mem_map];exact exists_congr fun ks=>and_congr_left fun _=>zx3 cs
theorem zx6{r:Rl}{s q:Stt}{cs:List P4}{p:P4}:q∈zx4 r s (cs++[p])↔∃q',q'∈zx4 r s cs/\q∈nx r p q':=by
 rw[zx5]
 constructor
 ·rintro⟨ks,h1,h2⟩
  obtain⟨l',k,h3,h4,rfl⟩:=zx2.1 h1;rw[zxj] at h2;exact⟨_,zx5.2 ⟨l',h3,rfl⟩,List.mem_map.2 ⟨k,h4,h2⟩⟩
 ·rintro⟨q',h1,h2⟩
  obtain⟨l',h3,rfl⟩:=zx5.1 h1;obtain⟨k,h4,h5⟩:=List.mem_map.1 h2;exact⟨l'++[k],zx2.2 ⟨l',k,h3,h4,rfl⟩,by rw[zxj]; exact h5⟩
theorem zx7{r:Rl}(h:zwD r){s:Stt}(hs:SOk r s){cs:List P4}:∀q∈zx4 r s cs,SOk r q:=fun q hq=>by
 obtain⟨ks,_,rfl⟩:=zx5.1 hq;exact zxh h ks hs
open Classical in
def mL(l:List Stt):Option (Stt->Option Bool):=some fun q=>if q∈l then some true else none
theorem zx8{l l':List Stt}(h:∀q,q∈l↔q∈l'):mL l=mL l':=by
 unfold mL
 congr 1
 funext q
 by_cases hq:q∈l
 ·rw[if_pos hq,if_pos ((h q).1 hq)]
 ·rw[if_neg hq,if_neg fun h'=>hq ((h q).2 h')]
theorem zx9:mL []=some fun _=>none:=by
 unfold mL
 congr 1
theorem zya{l:List Stt}{q:Stt}(h:q∈l):zqG (mL l) q=some true:=if_pos h
theorem zyb{l:List Stt}{q:Stt}:zqG (mL l) q ≠ none↔q∈l:=by
 constructor
 ·intro h
  by_cases hq:q∈l
  ·exact hq
  ·exact absurd (show zqG (mL l) q=none from if_neg hq) h
 ·intro h;rw[zya h]; simp
open Classical in
theorem zyc{l:List Stt}{q:Stt}:zqH (mL l) q true=some (mL (l++[q])):=by
 show some (some _)=some (some _)
 congr 2
 funext j
 by_cases hj:j=q
 ·rw[if_pos hj,if_pos (by rw[hj]; simp)]
 ·rw[if_neg hj]
  show(if j∈l then some true else none)=if j∈l++[q] then some true else none
  by_cases h2:j∈l
  ·rw[if_pos h2,if_pos (List.mem_append_left _ h2)]
  ·rw[if_neg h2,if_neg fun h=>(List.mem_append.1 h).elim h2 fun h=>hj (List.mem_singleton.1 h)]
theorem SOk.fit{r:Rl}(h:zwD r)(hc:r.Classes<=6){q:Stt}(hq:SOk r q):MK.fit q:=by
 have:=h.rest;unfold SOk at hq
 show zl6 .i64 q.cls/\zl6 .i64 q.since/\True
 exact⟨fI (by omega),fI (by omega),trivial⟩
theorem zyd{α:Type}:∀l:List α,∃ks:List α,ks.Nodup/\∀k,k∈ks↔k∈l
 | []=>⟨[],List.nodup_nil,fun _=>Iff.rfl⟩
 | a::l=>by
  obtain⟨ks,h1,h2⟩:=zyd l
  by_cases h:a∈ks
  ·refine⟨ks,h1,fun k=>?_⟩;rw[h2,List.mem_cons];exact⟨.inr,fun hk=>hk.elim (fun he=>by rw[he]; exact(h2 a).1 h) id⟩
  ·exact⟨a::ks,List.nodup_cons.2 ⟨h,h1⟩,fun k=>by rw[List.mem_cons,List.mem_cons,h2]⟩
theorem zye{r:Rl}(h:zwD r)(hc:r.Classes<=6){l:List Stt}(hl:∀q∈l,SOk r q){R:Type}{g:List Stt->Option R}{v:R}(hg:∀ks,(∀q,q∈ks↔q∈l)->g ks=some v):zrc (mL l) g=some v:=by
 obtain⟨ks0,h1,h2⟩:=zyd l;have hk:∀ks:List Stt,zrb (mL l) ks->∀q,q∈ks↔q∈l:=fun ks hks q=>(hks.2 q).trans ⟨fun hq=>zyb.1 hq.2,fun hq=>⟨(hl q hq).fit h hc,zyb.2 hq⟩⟩;exact zre (ks0:=ks0) ⟨h1,fun q=>(h2 q).trans ⟨fun hq=>⟨(hl q hq).fit h hc,zyb.2 hq⟩,fun hq=>zyb.1 hq.2⟩⟩ fun ks hks=>hg ks (hk ks hks)
theorem zyf{w:Wk}(h:zwD w.r)(hc:w.r.Classes<=6)(hw:w.kinds=zxo){q:Stt}(hq:SOk w.r q){rest:List Stt}{K:Option (Stt->Option Bool)->List Stt->Option (Option (Stt->Option Bool))}:∀(ks:List Int) (A:List Stt),zxS ks ->
  zti w q rest K ks (mL A)=K (mL (A++ks.map fun k=>step w.r k q)) rest
 | [],A,_=>by rw[zti,List.map_nil,List.append_nil]
 | k::ks,A,hk=>by
  rw[zti,hw];have hkb:=hk k (List.mem_cons_self ..);have ih:=zyf h hc hw hq (rest:=rest) (K:=K) ks (A++[step w.r k q]) fun x hx=>hk x (List.mem_cons_of_mem _ hx);refine(zxF h hc hq hkb (G:=fun s=>gd (MK.fit s) ((zqH (mL A) s true).bind fun w'=>zti w q rest K ks w'))).trans ?_
  show gd (MK.fit (step w.r k q)) _=_
  rw[zqs ((zxe h k hq).fit h hc),zyc,obs,ih,List.append_assoc]; rfl
theorem zyg{w:Wk}(h:zwD w.r)(hc:w.r.Classes<=6)(hw:w.kinds=zxo){l:List Stt}(hl:∀q∈l,SOk w.r q){i:Nat}{p:P4}(hi:w.can[i]? = some p):∀(n d:Nat) (rem A:List Stt),rem.length=n->n < d->(∀q∈rem,q∈l) ->
  ztj w (mL l) (i:Int) d (mL A) rem=some (mL (A++rem.flatMap (nx w.r p)))
 | n,0,_,_,_,h,_=>by omega
 | n,d+1,rem,A,hn,hd,hr=>by
  rw[ztj];refine zri (fun l1 a l2 he=>?_) fun he=>?_
  ·have ha:=hr a (by rw[he]; simp);rw[zya ha,obs,zrx hi,obs,zxX,obs,zyf h hc hw (hl a ha) _ _ fun k hk=>zxU hk]
   have hlen:(l1++l2).length+1=n:=by rw[<- hn,he]; simp; omega
   rw[zyg h hc hw hl hi ((l1++l2).length) d (l1++l2) _ rfl (by omega) fun q hq=>hr q (by rw[he]; rcases List.mem_append.1 hq with h1 | h1 <;> simp[h1])]
   congr 1
   refine zx8 fun q=>?_;rw[he]
   simp only[List.mem_append,List.mem_flatMap,List.mem_cons]
   show(q∈A\/q∈nx w.r p a)\/_↔_
   constructor
   ·rintro ((h1 | h1) | ⟨b,h1,h2⟩)
    ·exact .inl h1
    ·exact .inr ⟨a,.inr (.inl rfl),h1⟩
    ·exact .inr ⟨b,h1.elim .inl fun h=>.inr (.inr h),h2⟩
   ·rintro (h1 | ⟨b,h1,h2⟩)
    ·exact .inl (.inl h1)
    ·rcases h1 with h1 | rfl | h1
     ·exact .inr ⟨b,.inl h1,h2⟩
     ·exact .inl (.inr h2)
     ·exact .inr ⟨b,.inr h1,h2⟩
  ·subst he;rw[List.flatMap_nil,List.append_nil]
theorem zyh{w:Wk}(h:zwD w.r)(hc:w.r.Classes<=6)(hw:w.kinds=zxo){l:List Stt}(hl:∀q∈l,SOk w.r q){i:Nat}{p:P4}(hi:w.can[i]? = some p):ztk w (mL l) (i:Int)=some (mL (l.flatMap (nx w.r p))):=by
 unfold ztk;refine zye h hc hl fun ks hks=>?_;rw[<- zx9,zyg h hc hw hl hi ks.length (ks.length+1) ks [] rfl (by omega) fun q hq=>(hks q).1 hq,List.nil_append]
 congr 1
 refine zx8 fun q=>?_
 simp only[List.mem_flatMap]
 exact exists_congr fun a=>and_congr_left fun _=>hks a
theorem zyi{w:Wk}(h:zwD w.r)(hc:w.r.Classes<=6)(hw:w.kinds=zxo)(hf:SOk w.r ⟨w.zone.First,w.r.Rest⟩){n:Nat}(hn:n<=w.can.length)(hn2:n<=1000):ztm w (n:Int)=some (mL (zx4 w.r ⟨w.zone.First,w.r.Rest⟩ (w.can.take n))):=by
 unfold ztm ztf;rw[obs,zqs (hf.fit h hc),<- zx9,zyc,obs];refine zwA (n:=n) (fun d (s:Option (Stt->Option Bool)) x=>ztl w (n:Int) d s x) (fun k=>mL (zx4 w.r ⟨w.zone.First,w.r.Rest⟩ (w.can.take k))) (fun d k hk=>?_) (fun d=>?_) (Int.toNat (n:Int)+1) 0 (by omega) (by omega)
 ·have hg:=List.getElem?_eq_getElem (show k < w.can.length by omega)
  show ztl w (n:Int) (d+1) _ _=_
  rw[ztl,if_pos (by omega),zyh h hc hw (zx7 h hf) hg,obs,zqs (fI (by omega))]
  congr 1
  refine zx8 fun q=>?_;rw[zx1 hg,zx6,List.mem_flatMap]
 ·show ztl w (n:Int) (d+1) _ _=_
  rw[ztl,if_neg (Int.lt_irrefl _)]
def mkC(f:Nat->Bool):C6:=⟨f 0,f 1,f 2,f 3,f 4,f 5⟩
theorem zyj{f g:Nat->Bool}(h:∀k,k < 6->(f k=true↔g k=true)):mkC f=mkC g:=by
 have e:∀k,k < 6->f k=g k:=fun k hk=>Bool.eq_iff_iff.2 (h k hk);unfold mkC;rw[e 0 (by omega),e 1 (by omega),e 2 (by omega),e 3 (by omega),e 4 (by omega),e 5 (by omega)]
theorem zyk{f:Nat->Bool}{k:Nat}(hk:k < 6):([(mkC f).c0,(mkC f).c1,(mkC f).c2,(mkC f).c3,(mkC f).c4,(mkC f).c5]:List Bool)[k]? = some (f k):=by
 match k,hk with
 | 0,_=>rfl
 | 1,_=>rfl
 | 2,_=>rfl
 | 3,_=>rfl
 | 4,_=>rfl
 | 5,_=>rfl
def clB(l:List Stt)(c:Nat):Bool:=l.any fun q=>q.cls == (c:Int)
theorem zyl{l:List Stt}{c:Nat}:clB l c=true↔∃q∈l,q.cls=(c:Int):=by
 unfold clB;rw[List.any_eq_true];exact exists_congr fun q=>and_congr_right fun _=>beq_iff_eq
theorem zym{r:Rl}(hc:r.Classes<=6){l:List Stt}(hl:∀q∈l,SOk r q):∀(n d:Nat) (rem:List Stt) (f:Nat->Bool),rem.length=n->n < d->(∀q∈rem,q∈l) ->
  ztd (mL l) d (f 0) (f 1) (f 2) (f 3) (f 4) (f 5) rem=some (mkC fun c=>f c || clB rem c)
 | n,0,_,_,_,h,_=>by omega
 | n,d+1,rem,f,hn,hd,hr=>by
  rw[ztd];refine zri (fun l1 a l2 he=>?_) fun he=>?_
  ·have ha:=hr a (by rw[he]; simp);have hb:=(hl a ha).1
   have hlen:(l1++l2).length+1=n:=by rw[<- hn,he]; simp; omega
   rw[zya ha,obs,zqs ⟨hb.1,by omega⟩,zw3 f hb.1,zw3 f hb.1,zw3 f hb.1,zw3 f hb.1,zw3 f hb.1,zw3 f hb.1]
   rw[zym hc hl ((l1++l2).length) d (l1++l2) (upF f a.cls.toNat true) rfl (by omega) fun q hq=>hr q (by rw[he]; rcases List.mem_append.1 hq with h1 | h1 <;> simp[h1])]
   congr 1
   refine zyj fun k _=>?_;rw[Bool.or_eq_true,Bool.or_eq_true,zw4,zyl,zyl,he]
   simp only[List.mem_append,List.mem_cons]
   constructor
   ·rintro ((h1 | h1) | ⟨b,h1,h2⟩)
    ·exact .inl h1
    ·exact .inr ⟨a,.inr (.inl rfl),by omega⟩
    ·exact .inr ⟨b,h1.elim .inl fun h=>.inr (.inr h),h2⟩
   ·rintro (h1 | ⟨b,h1,h2⟩)
    ·exact .inl (.inl h1)
    ·rcases h1 with h1 | rfl | h1
     ·exact .inr ⟨b,.inl h1,h2⟩
     ·exact .inl (.inr (by omega))
     ·exact .inr ⟨b,.inr h1,h2⟩
  ·subst he
   show some (mkC f)=_
   congr 1
   exact zyj fun k _=>by rw[Bool.or_eq_true]; exact⟨.inl,fun h=>h.elim id fun h=>by cases h⟩
theorem zyn{r:Rl}(h:zwD r)(hc:r.Classes<=6){l:List Stt}(hl:∀q∈l,SOk r q):zte (mL l)=some (mkC (clB l)):=by
 unfold zte;refine zye h hc hl fun ks hks=>?_;have e:=zym hc hl ks.length (ks.length+1) ks (fun _=>false) rfl (by omega) fun q hq=>(hks q).1 hq;have e:ztd (mL l) (ks.length+1) false false false false false false ks=_:=e;rw[e]
 congr 1
 refine zyj fun k _=>?_;rw[Bool.or_eq_true,zyl,zyl];exact⟨fun h=>h.elim (fun h=>by cases h) fun⟨q,h1,h2⟩=>⟨q,(hks q).1 h1,h2⟩,fun⟨q,h1,h2⟩=>.inr ⟨q,(hks q).2 h1,h2⟩⟩
def zyo(f:Nat->Bool)(n:Nat):List Int:=((List.range n).filter f).map fun c:Nat=>(c:Int)
theorem zyp(f:Nat->Bool)(n:Nat):zyo f (n+1)=zyo f n++if f n=true then [(n:Int)] else []:=by
 unfold zyo;rw[List.range_succ,List.filter_append,List.map_append]
 congr 1
 cases h:f n <;> simp[h]
theorem zyq{f:Nat->Bool}{n:Nat}{x:Int}:x∈zyo f n↔0<=x/\x < n/\f x.toNat=true:=by
 unfold zyo;rw[List.mem_map]
 constructor
 ·rintro⟨c,hc,rfl⟩
  rw[List.mem_filter,List.mem_range] at hc;exact⟨by omega,by omega,hc.2⟩
 ·rintro⟨h1,h2,h3⟩
  exact⟨x.toNat,List.mem_filter.2 ⟨List.mem_range.2 (by omega),h3⟩,by omega⟩
theorem zyr(f:Nat->Bool)(n:Nat):(zyo f n).length<=n:=by
 unfold zyo;rw[List.length_map];exact Nat.le_trans (List.length_filter_le _ _) (by rw[List.length_range]; exact Nat.le_refl _)
theorem zys{f:Nat->Bool}:zs6 (mkC f)=some (zyo f 6):=by
 unfold zs6;refine zwA (n:=6) (fun d (s:List Int) x=>zs5 (mkC f) d s x) (fun k=>zyo f k) (fun d k hk=>?_) (fun d=>?_) (Int.toNat 6+1) 0 (by omega) (by show 6 - 0 < 6+1; omega)
 ·show zs5 (mkC f) (d+1) _ _=_
  have:=zyr f k;rw[zs5,if_pos (by omega),zrx (zyk hk),obs,zyp]
  cases f k with
  | true=>rw[if_pos rfl,if_pos rfl,zqs (by omega),zqs (fI (by omega))]
  | false=>rw[if_neg (by decide),if_neg (by decide),zqs (fI (by omega)),List.append_nil]
 ·show zs5 (mkC f) (d+1) _ _=_
  rw[zs5,if_neg (by omega)]
def zyt(r:Rl)(z:Zn)(n:Nat):List Stt:=zx4 r (st0 r z) ((zxu r z).can.take n)
theorem zyu{r:Rl}{z:Zn}(h:VZ r z){n:Nat}:∀q∈zyt r z n,SOk r q:=zx7 h.full.rl h.st0
theorem zyv{r:Rl}{z:Zn}(h:VZ r z){i:Nat}(hi:i < z.Years.length):ztG r z (i:Int)=some (zyo (clB (zyt r z (i+1))) 6,0):=by
 have h6:=h.y6;unfold ztG;rw[zxx h (by omega),obs,if_pos rfl,zqs (fI (by omega)),show(i:Int)+1=((i+1:Nat):Int) by omega];have e:ztm (zxu r z) ((i+1:Nat):Int)=some (mL (zyt r z (i+1))):=zyi (w:=zxu r z) h.full.rl h.c6 rfl h.st0 (n:=i+1) (by show i+1<=(z.Years.map _).length; rw[List.length_map]; omega) (by omega)
 show(ztm (zxu r z) _).bind _=_
 rw[e,obs,zyn (r:=r) (l:=zyt r z (i+1)) h.full.rl h.c6 (zyu h),obs,zys,obs]
theorem zyw{r:Rl}{z:Zn}(h:VZ r z){n:Int}(hn:¬ (0<=n/\n<=(z.Years.length:Int) - 1)):ztG r z n=some ([],2):=by
 obtain⟨w,e⟩:=zxy h hn;unfold ztG;rw[e,obs,if_neg (show ¬ (2:Int)=0 by decide)]
end
end Go.Proofs.Ytlpjlgmoaipoiaa

namespace Go.Proofs.Ytlpjlgmoaipoiaa
open _root_.Go.Proofs.Try
open Go.Abs
set_option maxRecDepth 100000
noncomputable section
theorem zyx{c:Int}(hc:0<=c/\c < 6):zs4 c=some (mkC fun k=>decide ((k:Int)=c)):=by
 unfold zs4;rw[zqs hc]
 have e:∀k:Nat,sti c k true false=decide ((k:Int)=c):=fun k=>by
  unfold sti
  by_cases h:c=(k:Int)
  ·rw[if_pos h,decide_eq_true h.symm]
  ·rw[if_neg h,decide_eq_false fun h'=>h h'.symm]
 rw[e,e,e,e,e,e]; rfl
def mvB(l:List Stt)(c:Int):Bool:=l.any fun q=>q.cls != c
def syB(l:List Stt)(c:Int):Bool:=l.any fun q=>q.cls == c
theorem zyy{l:List Stt}{c:Int}:mvB l c=true↔∃q∈l,q.cls ≠ c:=by
 unfold mvB;rw[List.any_eq_true];exact exists_congr fun q=>and_congr_right fun _=>bne_iff_ne
theorem zyz{l:List Stt}{c:Int}:syB l c=true↔∃q∈l,q.cls=c:=by
 unfold syB;rw[List.any_eq_true];exact exists_congr fun q=>and_congr_right fun _=>beq_iff_eq
theorem zyA{r:Rl}(hc6:r.Classes<=6){l:List Stt}(hl:∀q∈l,SOk r q)(hne:l ≠ []){c:Int}(hc:0<=c/\c < 6) :
  (!(((mkC (clB l)).c0 == (mkC fun k=>decide ((k:Int)=c)).c0) && (((mkC (clB l)).c1 == (mkC fun k=>decide ((k:Int)=c)).c1) && (((mkC (clB l)).c2 == (mkC fun k=>decide ((k:Int)=c)).c2) && (((mkC (clB l)).c3 == (mkC fun k=>decide ((k:Int)=c)).c3) && (((mkC (clB l)).c4 == (mkC fun k=>decide ((k:Int)=c)).c4) && ((mkC (clB l)).c5 == (mkC fun k=>decide ((k:Int)=c)).c5)))))))=mvB l c:=by
 have e:(((mkC (clB l)).c0 == (mkC fun k=>decide ((k:Int)=c)).c0) && (((mkC (clB l)).c1 == (mkC fun k=>decide ((k:Int)=c)).c1) && (((mkC (clB l)).c2 == (mkC fun k=>decide ((k:Int)=c)).c2) && (((mkC (clB l)).c3 == (mkC fun k=>decide ((k:Int)=c)).c3) && (((mkC (clB l)).c4 == (mkC fun k=>decide ((k:Int)=c)).c4) && ((mkC (clB l)).c5 == (mkC fun k=>decide ((k:Int)=c)).c5))))))=true↔∀k:Nat,k < 6->clB l k=decide ((k:Int)=c):=by
  simp only[Bool.and_eq_true,beq_iff_eq]
  constructor
  ·rintro⟨h0,h1,h2,h3,h4,h5⟩ k hk
   match k,hk with
   | 0,_=>exact h0
   | 1,_=>exact h1
   | 2,_=>exact h2
   | 3,_=>exact h3
   | 4,_=>exact h4
   | 5,_=>exact h5
  ·intro h;exact⟨h 0 (by omega),h 1 (by omega),h 2 (by omega),h 3 (by omega),h 4 (by omega),h 5 (by omega)⟩
 rw[Bool.eq_iff_iff,Bool.not_eq_true',<- Bool.not_eq_true,e,zyy]
 constructor
 ·intro h;refine Classical.byContradiction fun hn=>h fun k hk=>?_;have hall:∀q∈l,q.cls=c:=fun q hq=>Classical.byContradiction fun h'=>hn ⟨q,hq,h'⟩;rw[Bool.eq_iff_iff,zyl,decide_eq_true_eq]
  constructor
  ·rintro⟨q,h1,h2⟩; rw[<- h2]; exact hall q h1
  ·intro h1;obtain⟨q,hq⟩:=List.exists_mem_of_ne_nil l hne;exact⟨q,hq,by rw[hall q hq,h1]⟩
 ·rintro⟨q,hq,hne⟩ h
  have hb:=(hl q hq).1;have h8:=h q.cls.toNat (by omega);rw[Bool.eq_iff_iff,zyl,decide_eq_true_eq] at h8;exact hne ((Int.toNat_of_nonneg hb.1).symm.trans (h8.1 ⟨q,hq,(Int.toNat_of_nonneg hb.1).symm⟩))
def zyB(m s:Bool):Int:=if s=true then (if m=true then 3 else 2) else 1
theorem zyC{r:Rl}{y:Yr}(hy:zwB y):kl (mkP (kB r y)) ≠ []:=by
 obtain⟨⟨h1,h2,h3,h4⟩,⟨h5,h6,h7,h8⟩,_⟩:=hy;have hb:=zwY r y y.Losses.Lo y.Premiums.Lo;have:kN r y y.Losses.Lo y.Premiums.Lo∈kl (mkP (kB r y)):=zxV.2 ⟨hb,zw9.2 ⟨_,_,⟨Int.le_refl _,h2⟩,⟨Int.le_refl _,h6⟩,by omega⟩⟩;intro h
 rw[h] at this; cases this
theorem zyD{w:Wk}(h:zwD w.r)(hc:w.r.Classes<=6)(hw:w.kinds=zxo){l:List Stt}(hl:∀q∈l,SOk w.r q){i:Nat}{p:P4}(hi:w.can[i]? = some p)(hp:kl p ≠ []):∀(n d:Nat) (rem:List Stt) (b1 b2:Bool),rem.length=n->n < d->(∀q∈rem,q∈l) ->
  ztn w (i:Int) (mL l) d b1 b2 rem=some (zyB (b1 || rem.any fun q=>mvB (nx w.r p q) q.cls) (b2 || rem.any fun q=>syB (nx w.r p q) q.cls))
 | n,0,_,_,_,_,h,_=>by omega
 | n,d+1,rem,b1,b2,hn,hd,hr=>by
  rw[ztn];refine zri (fun l1 a l2 he=>?_) fun he=>?_
  ·have ha:=hr a (by rw[he]; simp);have hs:=hl a ha;have hb:=hs.1
   have hlen:(l1++l2).length+1=n:=by rw[<- hn,he]; simp; omega
   have hnx:∀q∈nx w.r p a,SOk w.r q:=fun q hq=>by
    obtain⟨k,_,rfl⟩:=List.mem_map.1 hq;exact zxe h k hs
   have hne:nx w.r p a ≠ []:=by
    unfold nx;intro h';exact hp (List.map_eq_nil_iff.1 h')
   have ih:=fun b1 b2=>zyD h hc hw hl hi hp ((l1++l2).length) d (l1++l2) b1 b2 rfl (by omega) fun q hq=>hr q (by rw[he]; rcases List.mem_append.1 hq with h1 | h1 <;> simp[h1])
   have ef:ztk w (mL [a]) (i:Int)=some (mL (nx w.r p a)):=by
    have:=zyh h hc hw (l:=[a]) (fun q hq=>by rw[List.mem_singleton.1 hq]; exact hs) hi;rw[this]
    congr 1
    exact zx8 fun q=>by simp
   rw[zya ha,obs,zqs (hs.fit h hc),<- zx9,zyc,obs,List.nil_append,ef,obs,zyn h hc hnx,obs]
   have hsy:idx ([(mkC (clB (nx w.r p a))).c0,(mkC (clB (nx w.r p a))).c1,(mkC (clB (nx w.r p a))).c2,(mkC (clB (nx w.r p a))).c3,(mkC (clB (nx w.r p a))).c4,(mkC (clB (nx w.r p a))).c5]:List Bool) a.cls=some (syB (nx w.r p a) a.cls):=by
    have e0:a.cls=((a.cls.toNat:Nat):Int):=by omega
    rw[e0,zrx (zyk (by omega)),<- e0]
    congr 1
    rw[Bool.eq_iff_iff,zyl,zyz,<- e0]
   have hm:(!(((mkC (clB (nx w.r p a))).c0 == (mkC fun k=>decide ((k:Int)=a.cls)).c0) && (((mkC (clB (nx w.r p a))).c1 == (mkC fun k=>decide ((k:Int)=a.cls)).c1) && (((mkC (clB (nx w.r p a))).c2 == (mkC fun k=>decide ((k:Int)=a.cls)).c2) && (((mkC (clB (nx w.r p a))).c3 == (mkC fun k=>decide ((k:Int)=a.cls)).c3) && (((mkC (clB (nx w.r p a))).c4 == (mkC fun k=>decide ((k:Int)=a.cls)).c4) && ((mkC (clB (nx w.r p a))).c5 == (mkC fun k=>decide ((k:Int)=a.cls)).c5)))))))=mvB (nx w.r p a) a.cls:=zyA hc hnx hne (by omega)
   have any_e:∀(g:Stt->Bool),rem.any g=(g a || (l1++l2).any g):=fun g=>by
    rw[he,List.any_append,List.any_cons,List.any_append]
    cases l1.any g <;> cases g a <;> cases l2.any g <;> rfl
   rw[any_e,any_e]
   cases b1 with
   | true=>
    rw[if_pos rfl]
    cases b2 with
    | true=>rw[if_pos rfl,ih,Bool.true_or,Bool.true_or,Bool.true_or,Bool.true_or]
    | false=>rw[if_neg (by decide),hsy,obs,ih,Bool.true_or,Bool.true_or,Bool.false_or]
   | false=>
    rw[if_neg (by decide),zyx (by omega),obs]
    cases b2 with
    | true=>rw[if_pos rfl,hm,ih,Bool.true_or,Bool.true_or,Bool.false_or]
    | false=>rw[if_neg (by decide),hsy,obs,hm,ih,Bool.false_or,Bool.false_or]
  ·subst he;rw[List.any_nil,List.any_nil,Bool.or_false,Bool.or_false];unfold zyB
   cases b1 <;> cases b2 <;> rfl
def zyE(r:Rl)(z:Zn)(i:Nat)(p:P4):Int:=zyB ((zyt r z i).any fun q=>mvB (nx r p q) q.cls) ((zyt r z i).any fun q=>syB (nx r p q) q.cls)
theorem zyF{r:Rl}{z:Zn}{i:Nat}{y:Yr}(h:z.Years[i]? = some y):(zxu r z).can[i]? = some (mkP (kB r y)):=by
 show(z.Years.map _)[i]? = _
 rw[List.getElem?_map,h]; rfl
theorem zyG{l l':List Stt}(h:∀q,q∈l↔q∈l')(g:Stt->Bool):l.any g=l'.any g:=by
 rw[Bool.eq_iff_iff,List.any_eq_true,List.any_eq_true];exact exists_congr fun q=>and_congr_left fun _=>h q
theorem zyH{r:Rl}{z:Zn}(h:VZ r z){i:Nat}{y:Yr}(hi:z.Years[i]? = some y):ztH r z (i:Int)=some (zyE r z i (mkP (kB r y)),0):=by
 have h6:=h.y6;have hil:=(List.getElem?_eq_some_iff.1 hi).1;unfold ztH;rw[zxx h (by omega),obs,if_pos rfl];have e:ztm (zxu r z) (i:Int)=some (mL (zyt r z i)):=zyi (w:=zxu r z) h.full.rl h.c6 rfl h.st0 (n:=i) (by show i<=(z.Years.map _).length; rw[List.length_map]; omega) (by omega)
 show(zto (zxu r z) _).bind _=_
 unfold zto;rw[e,obs]
 have e2:zrc (mL (zyt r z i)) (fun ks=>ztn (zxu r z) (i:Int) (mL (zyt r z i)) (ks.length+1) false false ks)=some (zyE r z i (mkP (kB r y))):=by
  refine zye h.full.rl h.c6 (zyu h) fun ks hks=>?_;rw[zyD (w:=zxu r z) h.full.rl h.c6 rfl (zyu h) (zyF hi) (zyC (h.full.ys y (List.mem_of_getElem? hi))) ks.length (ks.length+1) ks false false rfl (by omega) fun q hq=>(hks q).1 hq,Bool.false_or,Bool.false_or,zyG hks,zyG hks]; rfl
 rw[e2,obs]
theorem zyI{r:Rl}{z:Zn}(h:VZ r z){n:Int}(hn:¬ (0<=n/\n<=(z.Years.length:Int) - 1)):ztH r z n=some (0,2):=by
 obtain⟨w,e⟩:=zxy h hn;unfold ztH;rw[e,obs,if_neg (show ¬ (2:Int)=0 by decide)]
theorem zyJ{l:List Int}(h:l ≠ [])(hl:l.length<=1048577):zsv l=some (zrK l):=by
 unfold zsv
 cases l with
 | nil=>exact absurd rfl h
 | cons x l=>
  rw[if_neg (by rw[List.length_cons]; omega),zrz rfl,obs];refine(zrJ (l:=x::l) (fun s a=>min s a) (fun d s k=>zsu (x::l) d s k) (fun s=>some s) (fun d k s a hk=>?_) (fun d s=>?_) _ 0 x (Nat.zero_le _) (by omega)).trans ?_
  ·have hkl:=(List.getElem?_eq_some_iff.1 hk).1
   show zsu (x::l) (d+1) s (k:Int)=_
   rw[zsu,if_pos (by omega),zrx hk,obs]
   by_cases hc:a < s
   ·rw[if_pos hc,zqs (fI (by omega)),Int.min_eq_right (by omega)]
   ·rw[if_neg hc,zqs (fI (by omega)),Int.min_eq_left (by omega)]
  ·show zsu (x::l) (d+1) s _=_
   rw[zsu,if_neg (Int.lt_irrefl _)]
  ·rw[List.drop_zero]
   show some (l.foldl min (min x x))=_
   rw[Int.min_self]; rfl
theorem zyK{l:List Int}(h:l ≠ [])(hl:l.length<=1048577):zsx l=some (zrL l):=by
 unfold zsx
 cases l with
 | nil=>exact absurd rfl h
 | cons x l=>
  rw[if_neg (by rw[List.length_cons]; omega),zrz rfl,obs];refine(zrJ (l:=x::l) (fun s a=>max s a) (fun d s k=>zsw (x::l) d s k) (fun s=>some s) (fun d k s a hk=>?_) (fun d s=>?_) _ 1 x (by rw[List.length_cons]; omega) (by rw[List.length_cons]; omega)).trans ?_
  ·have hkl:=(List.getElem?_eq_some_iff.1 hk).1
   show zsw (x::l) (d+1) s (k:Int)=_
   rw[zsw,if_pos (by omega),zrx hk,obs,zqs (fI (by omega))]
  ·show zsw (x::l) (d+1) s _=_
   rw[zsw,if_neg (Int.lt_irrefl _)]
  ·rfl
theorem zyL(f:Nat->Bool)(n:Nat):(zyo f n).Pairwise (· < ·):=by
 unfold zyo;rw[List.pairwise_map]
 exact(List.pairwise_lt_range.filter _).imp fun h=>by omega
theorem zyM{L:List Int}(h:L.Pairwise (· < ·)){i j:Nat}{a c:Int}(hi:L[i]? = some a)(hj:L[j]? = some c)(hij:i<=j):a<=c:=by
 obtain⟨h1,rfl⟩:=List.getElem?_eq_some_iff.1 hi;obtain⟨h2,rfl⟩:=List.getElem?_eq_some_iff.1 hj
 rcases Nat.lt_or_eq_of_le hij with h3 | rfl
 ·exact Int.le_of_lt (List.pairwise_iff_getElem.1 h i j h1 h2 h3)
 ·exact Int.le_refl _
def zyN(r:Rl)(c:Int):Int:=(r.Price[c.toNat]?).getD 0
theorem zyO{r:Rl}(h:zwD r){c:Int}(hc:0<=c/\c<=r.Classes - 1):idx r.Price c=some (zyN r c):=by
 have:=h.pl;unfold zyN;rw[show idx r.Price c=r.Price[c.toNat]? from if_pos hc.1,List.getElem?_eq_getElem (by omega)]; rfl
theorem zyP{r:Rl}(h:zwD r):∀(j i:Nat),i<=j->j < r.Price.length->zyN r (i:Int)<=zyN r (j:Int)
 | 0,i,hi,_=>by rw[show i=0 by omega]; exact Int.le_refl _
 | j+1,i,hi,hj=>by
  rcases Nat.lt_or_eq_of_le hi with h1 | rfl
  ·have h2:=zyP h j i (by omega) (by omega);have g1:=List.getElem?_eq_getElem hj;have g0:=List.getElem?_eq_getElem (show j < r.Price.length by omega);have h3:=h.so (j+1) hj (by omega) _ _ g1 g0;unfold zyN at h2 ⊢;rw[Int.toNat_natCast,Int.toNat_natCast] at h2 ⊢;rw[g0] at h2;rw[g1]
   show _<=r.Price[j+1]
   have h2:_<=r.Price[j]:=h2
   omega
  ·exact Int.le_refl _
theorem zyQ{r:Rl}(h:zwD r){a b:Int}(ha:0<=a)(hab:a<=b)(hb:b<=r.Classes - 1):zyN r a<=zyN r b:=by
 have:=h.pl;have:=zyP h b.toNat a.toNat (by omega) (by omega)
 rwa [show(a.toNat:Int)=a by omega,show(b.toNat:Int)=b by omega] at this
theorem zyR{r:Rl}(hc:r.Classes<=6){l:List Stt}(hl:∀q∈l,SOk r q){c:Int}:c∈zyo (clB l) 6↔∃q∈l,q.cls=c:=by
 rw[zyq]
 constructor
 ·rintro⟨h1,h2,h3⟩
  obtain⟨q,hq,h4⟩:=zyl.1 h3;exact⟨q,hq,by omega⟩
 ·rintro⟨q,hq,rfl⟩
  have:=(hl q hq).1;exact⟨this.1,by omega,zyl.2 ⟨q,hq,by omega⟩⟩
theorem zyS{r:Rl}{s:Stt}:∀(n:Nat) (cs:List P4),cs.length=n->(∀p∈cs,kl p ≠ [])->∃q,q∈zx4 r s cs
 | 0,cs,h,_=>by
  rw[List.eq_nil_of_length_eq_zero h];exact⟨s,List.mem_singleton.2 rfl⟩
 | n+1,cs,h,hc=>by
  have hg:=List.getElem?_eq_getElem (show n < cs.length by omega)
  have e:cs=cs.take n++[cs[n]]:=by rw[<- zx1 hg,List.take_of_length_le (by omega)]
  obtain⟨q,hq⟩:=zyS (r:=r) (s:=s) n (cs.take n) (by rw[List.length_take]; omega) fun p hp=>hc p (List.mem_of_mem_take hp);obtain⟨k,hk⟩:=List.exists_mem_of_ne_nil _ (hc _ (List.getElem_mem (show n < cs.length by omega)));exact⟨step r k q,by rw[e,zx6]; exact⟨q,hq,List.mem_map.2 ⟨k,hk,rfl⟩⟩⟩
theorem zyT{r:Rl}{z:Zn}(h:VZ r z):∀p∈(zxu r z).can,kl p ≠ []:=fun p hp=>by
 obtain⟨y,hy,rfl⟩:=List.mem_map.1 (show p∈z.Years.map _ from hp);exact zyC (h.full.ys y hy)
theorem zyU{r:Rl}{z:Zn}(h:VZ r z)(n:Nat):∃q,q∈zyt r z n:=zyS _ _ rfl fun p hp=>zyT h p (List.mem_of_mem_take hp)
def zyV(r:Rl)(z:Zn)(n:Nat):List Int:=zyo (clB (zyt r z n)) 6
theorem zyW{r:Rl}{z:Zn}(h:VZ r z){n:Nat}{c:Int}:c∈zyV r z n↔∃q∈zyt r z n,q.cls=c:=zyR h.c6 (zyu h)
theorem zyX{r:Rl}{z:Zn}(h:VZ r z){n:Nat}{c:Int}(hc:c∈zyV r z n):0<=c/\c<=r.Classes - 1:=by
 obtain⟨q,hq,rfl⟩:=(zyW h).1 hc;exact(zyu h q hq).1
theorem zyY{r:Rl}{z:Zn}(h:VZ r z)(n:Nat):zyV r z n ≠ []:=fun he=>by
 obtain⟨q,hq⟩:=zyU h n;have:q.cls∈zyV r z n:=(zyW h).2 ⟨q,hq,rfl⟩
 rw[he] at this; cases this
theorem zyZ{r:Rl}{z:Zn}:(zxu r z).can.length=z.Years.length:=List.length_map _
theorem zy0{r:Rl}{z:Zn}(h:VZ r z):ztr (zxu r z)=some ((zyV r z z.Years.length).map (zyN r)):=by
 have h6:=h.y6;have e:ztm (zxu r z) (z.Years.length:Int)=some (mL (zyt r z z.Years.length)):=zyi (w:=zxu r z) h.full.rl h.c6 rfl h.st0 (n:=z.Years.length) (by rw[zyZ]; exact Nat.le_refl _) (by omega);unfold ztr ztp;rw[zyZ,e,obs,zyn (r:=r) h.full.rl h.c6 (zyu h),obs,obs,zys,obs]
 show ztq (zxu r z) (zyV r z z.Years.length) _ _ _=_
 have hl:(zyV r z z.Years.length).length<=6:=zyr _ _
 exact zrD (l:=zyV r z z.Years.length) (zyN r) (F:=fun d acc x=>ztq (zxu r z) (zyV r z z.Years.length) d acc x) (fun acc=>some acc) (fun d k acc a hk ha=>by
  have hkl:=(List.getElem?_eq_some_iff.1 hk).1
  show ztq _ _ (d+1) _ _=_
  rw[ztq,if_pos (by omega),zrx hk,obs,show idx (zxu r z).r.Price a=_ from zyO h.full.rl (zyX h (List.mem_of_getElem? hk)),obs,zqs (by omega),zqs (fI (by omega))]) (fun d acc=>by
  show ztq _ _ (d+1) _ _=_
  rw[ztq,if_neg (Int.lt_irrefl _)]) (Nat.lt_succ_self _)
theorem zy1{r:Rl}{z:Zn}(h:VZ r z){a b:Int}(ha:(zyV r z z.Years.length)[0]? = some a)(hb:(zyV r z z.Years.length)[(zyV r z z.Years.length).length - 1]? = some b):ztI r z=some (⟨zyN r a,zyN r b⟩,0):=by
 unfold ztI;have hl:(zyV r z z.Years.length).length<=6:=zyr _ _;have hs:(zyV r z z.Years.length).Pairwise (· < ·):=zyL _ _;have hbd:∀c∈zyV r z z.Years.length,0<=c/\c<=r.Classes - 1:=fun c hc=>zyX h hc;rw[zxv h,obs,if_pos rfl,zy0 h,obs];generalize zyV r z z.Years.length=L at ha hb hl hs hbd
 have hne:L.map (zyN r) ≠ []:=fun he=>by
  rw[List.map_eq_nil_iff.1 he] at ha; cases ha
 rw[zyJ hne (by rw[List.length_map]; omega),obs,zyK hne (by rw[List.length_map]; omega),obs];obtain⟨m1,m2⟩:=zrO hne;obtain⟨m3,m4⟩:=zrP hne;have ham:=List.mem_of_getElem? ha;have hbm:=List.mem_of_getElem? hb
 have e1:zrK (L.map (zyN r))=zyN r a:=by
  obtain⟨c,hc,he⟩:=List.mem_map.1 m1;obtain⟨i,hi⟩:=List.mem_iff_getElem?.1 hc;have h1:=zyQ h.full.rl (hbd a ham).1 (zyM hs ha hi (Nat.zero_le _)) (hbd c hc).2;have h2:=m2 _ (List.mem_map.2 ⟨a,ham,rfl⟩)
  omega
 have e2:zrL (L.map (zyN r))=zyN r b:=by
  obtain⟨c,hc,he⟩:=List.mem_map.1 m3;obtain⟨i,hi⟩:=List.mem_iff_getElem?.1 hc;have hil:=(List.getElem?_eq_some_iff.1 hi).1;have h1:=zyQ h.full.rl (hbd c hc).1 (zyM hs hi hb (by omega)) (hbd b hbm).2;have h2:=m4 _ (List.mem_map.2 ⟨b,hbm,rfl⟩)
  omega
 rw[e1,e2]
def zy2(r:Rl)(z:Zn)(i:Nat):Bool:=match z.Years[i]? with | some y=>decide (1 < (kl (mkP (kB r y))).length) | none=>false
theorem zy3{l:List Int}(hl:l.length<=1000):ztc l=some l:=by
 have key:∀(l acc:List Int),l.length+acc.length<=1000->zta l acc=some (acc++l):=by
  intro l
  induction l with
  | nil=>intro acc _; rw[zta,List.append_nil]
  | cons a l ih=>
   intro acc h;rw[List.length_cons] at h;rw[zta,zqs (by omega),ih (acc++[a]) (by rw[List.length_append]; show _+(acc.length+1)<=_; omega),List.append_assoc]; rfl
 unfold ztc ztb;rw[key l [] (by simpa using hl),obs]; rfl
theorem zy4(p:P4):(kl p).length<=4:=by
 unfold kl
 cases p with
 | mk a b c d=>cases a <;> cases b <;> cases c <;> cases d <;> decide
theorem zy5{r:Rl}{z:Zn}(h:VZ r z):ztt (zxu r z)=some (zyo (zy2 r z) z.Years.length):=by
 have h6:=h.y6;unfold ztt;rw[zyZ];refine zwA (n:=z.Years.length) (fun d (s:List Int) x=>zts (zxu r z) d s x) (fun k=>zyo (zy2 r z) k) (fun d k hk=>?_) (fun d=>?_) (z.Years.length+1) 0 (by omega) (by omega)
 ·have hg:=List.getElem?_eq_getElem hk;have hk4:=zy4 (mkP (kB r z.Years[k]));have hn:=zyr (zy2 r z) k
  show zts (zxu r z) (d+1) _ _=_
  rw[zts,zyZ,if_pos (by omega),zrx (zyF hg),obs,zxX,obs,zy3 (by omega),obs,zyp]
  have e:zy2 r z k=decide (1 < (kl (mkP (kB r z.Years[k]))).length):=by unfold zy2; rw[hg]
  by_cases hc:1 < (kl (mkP (kB r z.Years[k]))).length
  ·rw[if_pos (by omega),zqs (by omega),zqs (fI (by omega)),if_pos (by rw[e]; exact decide_eq_true hc)]
  ·rw[if_neg (by omega),zqs (fI (by omega)),if_neg (by rw[e,decide_eq_false hc]; decide),List.append_nil]
 ·show zts (zxu r z) (d+1) _ _=_
  rw[zts,zyZ,if_neg (Int.lt_irrefl _)]
theorem zy6{r:Rl}{z:Zn}(h:VZ r z):ztJ r z=some (zyo (zy2 r z) z.Years.length,0):=by
 unfold ztJ;rw[zxv h,obs,if_pos rfl,zy5 h,obs]
def zy7:P4:=⟨false,true,true,true⟩
def zy8(r:Rl)(z:Zn)(S:Nat->Bool):List P4:=z.Years.mapIdx fun i y=>if (S i && zwW r y)=true then zy7 else mkP (kB r y)
theorem zy9{r:Rl}{z:Zn}{S:Nat->Bool}{i:Nat}{y:Yr}(h:z.Years[i]? = some y):(zy8 r z S)[i]? = some (if (S i && zwW r y)=true then zy7 else mkP (kB r y)):=by
 unfold zy8;rw[List.getElem?_mapIdx,h]; rfl
theorem zza{r:Rl}{z:Zn}{S:Nat->Bool}:(zy8 r z S).length=z.Years.length:=by
 unfold zy8;rw[List.length_mapIdx]
theorem zzb{r:Rl}{z:Zn}{S:Nat->Bool}{cs:List P4}(hl:cs.length=z.Years.length)(h:∀i y,z.Years[i]? = some y->cs[i]? = some (if (S i && zwW r y)=true then zy7 else mkP (kB r y))):cs=zy8 r z S:=by
 refine List.ext_getElem? fun i=>?_
 rcases Nat.lt_or_ge i z.Years.length with hi | hi
 ·have hg:=List.getElem?_eq_getElem hi;rw[h i _ hg,zy9 hg]
 ·rw[List.getElem?_eq_none (by omega),List.getElem?_eq_none (by rw[zza]; exact hi)]
theorem zzc{r:Rl}{z:Zn}:(zxu r z).can=zy8 r z fun _=>false:=zzb zyZ fun i y hy=>by
 rw[zyF hy,if_neg (by simp)]
def zzd(r:Rl)(z:Zn)(S:Nat->Bool):Wk:={ r:=r,zone:=z,kinds:=zxo,can:=zy8 r z S }
theorem zze{L:List Int}{k:Nat}{v:Int}(hv:L[k]? = some v)(j:Nat):inD (L.take (k+1)) j=(inD (L.take k) j || decide ((j:Int)=v)):=by
 unfold inD;rw[zx1 hv,Bool.eq_iff_iff,Bool.or_eq_true,decide_eq_true_eq,decide_eq_true_eq,decide_eq_true_eq,List.mem_append,List.mem_singleton]
theorem zzf{r:Rl}{z:Zn}{S:Nat->Bool}{v:Nat}{y:Yr}(hv:z.Years[v]? = some y)(hc:zwW r y=true):(zy8 r z S).set v zy7=zy8 r z fun j=>S j || decide ((j:Int)=(v:Int)):=by
 refine zzb (by rw[List.length_set]; exact zza) fun i y' hy=>?_
 by_cases h:v=i
 ·subst h
  rw[hv] at hy; cases hy
  rw[List.getElem?_set_self (by rw[zza]; exact(List.getElem?_eq_some_iff.1 hv).1),decide_eq_true rfl,Bool.or_true,hc]; rfl
 ·rw[List.getElem?_set_ne h,zy9 hy,decide_eq_false (by omega),Bool.or_false]
theorem zzg{r:Rl}{z:Zn}{S:Nat->Bool}{v:Nat}{y:Yr}(hv:z.Years[v]? = some y)(hc:zwW r y=false):zy8 r z S=zy8 r z fun j=>S j || decide ((j:Int)=(v:Int)):=by
 refine zzb zza fun i y' hy=>?_;rw[zy9 hy]
 by_cases h:v=i
 ·subst h
  rw[hv] at hy; cases hy
  rw[hc,Bool.and_false,Bool.and_false]
 ·rw[decide_eq_false (by omega),Bool.or_false]
theorem zzh{r:Rl}{z:Zn}(h:VZ r z){L:List Int}(hL:∀v∈L,0<=v/\v < z.Years.length)(hl:L.length<=1000):ztw (zxu r z) L=some (zzd r z (inD L)):=by
 have h6:=h.y6;unfold ztw ztu;have hcl:=zyZ (r:=r) (z:=z);rw[zqs (by rw[List.length_nil]; omega),obs,List.nil_append,zzc];refine zwA (n:=L.length) (fun d (s:List P4) x=>ztv (zxu r z) L d r.Classes r.Good r.Bad r.Rest r.Fewest z.First s x) (fun k=>zy8 r z (inD (L.take k))) (fun d k hk=>?_) (fun d=>?_) (L.length+1) 0 (by omega) (by omega)
 ·have hg:=List.getElem?_eq_getElem hk;have hv:=hL _ (List.getElem_mem hk);generalize L[k]=v at hg hv;have hy:=List.getElem?_eq_getElem (show v.toNat < z.Years.length by omega)
  have ev:((v.toNat:Nat):Int)=v:=by omega
  show ztv (zxu r z) L (d+1) _ _ _ _ _ _ _ _=_
  have e1:idx (zxu r z).zone.Years v=some (z.Years[v.toNat]'(by omega)):=by
   have:=zrx hy
   rwa [ev] at this
  have e2:=zy9 (r:=r) (S:=inD (L.take k)) hy;have e3:=zrx e2;rw[ev] at e3
  have e4:(fun j=>inD (L.take k) j || decide ((j:Int)=((v.toNat:Nat):Int)))=inD (L.take (k+1)):=funext fun j=>by rw[zze hg,ev]
  rw[ztv,if_pos (by omega),zrx hg,obs,e1,obs,zwX,obs]
  show(if zwW r _=true then _ else _)=_
  by_cases hc:zwW r (z.Years[v.toNat]'(by omega))=true
  ·rw[if_pos hc]
   show((idx (zy8 r z (inD (L.take k))) v).bind _)=_
   rw[e3,obs,zqs (fI (by omega))]
   show ztv (zxu r z) L d _ _ _ _ _ _ ((zy8 r z (inD (L.take k))).set v.toNat zy7) _=_
   rw[zzf hy hc,e4]
  ·rw[if_neg hc,zqs (fI (by omega)),<- e4,<- zzg hy (by simpa using hc)]
 ·show ztv (zxu r z) L (d+1) _ _ _ _ _ _ _ _=_
  rw[ztv,if_neg (Int.lt_irrefl _),List.take_length]; rfl
def zzi(r:Rl)(z:Zn)(S:Nat->Bool)(n:Nat):List Stt:=zx4 r (st0 r z) ((zy8 r z S).take n)
theorem zzj{r:Rl}{z:Zn}(h:VZ r z){S:Nat->Bool}{n:Nat}:∀q∈zzi r z S n,SOk r q:=zx7 h.full.rl h.st0
theorem zzk{r:Rl}{z:Zn}(h:VZ r z){S:Nat->Bool}:ztp (zzd r z S)=some (mkC (clB (zzi r z S z.Years.length))):=by
 have h6:=h.y6;unfold ztp;have e:ztm (zzd r z S) (z.Years.length:Int)=some (mL (zzi r z S z.Years.length)):=zyi (w:=zzd r z S) h.full.rl h.c6 rfl h.st0 (n:=z.Years.length) (by show z.Years.length<=(zy8 r z S).length; rw[zza]; exact Nat.le_refl _) (by omega);rw[show((zzd r z S).can.length:Int)=(z.Years.length:Int) from by show((zy8 r z S).length:Int)=_; rw[zza],e,obs,zyn (r:=r) h.full.rl h.c6 (zzj h),obs]
def zzl(r:Rl)(z:Zn)(c:Nat)(S:Nat->Bool):Bool:=clB (zzi r z S z.Years.length) c
theorem zzm{r:Rl}{z:Zn}(h:VZ r z){c:Nat}(hc:c < 6){L:List Int}(hL:Inc z.Years.length 0 L):ztz (zxu r z) (c:Int) L=some (zzl r z c (inD L)):=by
 have h6:=h.y6;have hll:=zwu hL;unfold ztz;rw[zzh h (fun v hv=>by have:=hL.2 v hv; omega) (by omega),obs,zzk h,obs,zrx (zyk hc)]; rfl
def zzn(r:Rl)(z:Zn)(c:Nat)(L:List Int):Bool:=zzl r z c (inD L)
theorem zzo{r:Rl}{z:Zn}(h:VZ r z){c:Nat}(hc:c < 6):ztA (zxu r z) (c:Int)=some (zro z.Years.length (zzn r z c),((zoi z.Years.length).find? (zzn r z c)).isSome):=by
 have h6:=h.y6;unfold ztA;rw[zyZ,zqs ⟨by omega,fun L hL=>by rw[zzm h hc (zwv.1 hL)]; rfl⟩]
 have e:∀L∈zoi z.Years.length,((ztz (zxu r z) (c:Int) L).getD false)=zzn r z c L:=fun L hL=>by rw[zzm h hc (zwv.1 hL)]; rfl
 have e2:(zoi z.Years.length).find? (fun L=>(ztz (zxu r z) (c:Int) L).getD false)=(zoi z.Years.length).find? (zzn r z c):=by
  have key:∀l:List (List Int),(∀L∈l,((ztz (zxu r z) (c:Int) L).getD false)=zzn r z c L)->l.find? (fun L=>(ztz (zxu r z) (c:Int) L).getD false)=l.find? (zzn r z c):=by
   intro l
   induction l with
   | nil=>intro _; rfl
   | cons a l ih=>
    intro hl;rw[List.find?_cons,List.find?_cons,hl a (List.mem_cons_self ..),ih fun L hL=>hl L (List.mem_cons_of_mem _ hL)]
  exact key _ e
 unfold zro;rw[e2]
theorem zzp{r:Rl}(h:zwD r)(hc:r.Classes<=6){c:Int}:Ev (zsQ r c) (0<=c/\c<=r.Classes - 1):=by
 have:=h.c0;unfold zsQ;refine Ev.gd (fI (by omega)) ?_;exact(show Ev (zsr ⟨0,r.Classes - 1⟩ c) _ from zwI).ret
theorem zzq{r:Rl}{z:Zn}(h:VZ r z){c:Nat}(hc:(c:Int)<=r.Classes - 1)(hn:∀L,Inc z.Years.length 0 L->zzn r z c L=false):ztK r z (c:Int)=some ([],7):=by
 have hc6:=h.c6;unfold ztK;rw[zxv h,obs,if_pos rfl,(zzp h.full.rl h.c6).some_of ⟨by omega,hc⟩,obs,if_pos rfl,zzo h (by omega),obs]
 have e:(zoi z.Years.length).find? (zzn r z c)=none:=List.find?_eq_none.2 fun L hL=>by rw[hn L (zwv.1 hL)]; decide
 rw[e]; rfl
theorem zzr{r:Rl}{z:Zn}(h:VZ r z){c:Nat}(hc:(c:Int)<=r.Classes - 1)(hn:∃L,Inc z.Years.length 0 L/\zzn r z c L=true):ztK r z (c:Int)=some (zro z.Years.length (zzn r z c),0):=by
 have hc6:=h.c6;unfold ztK;rw[zxv h,obs,if_pos rfl,(zzp h.full.rl h.c6).some_of ⟨by omega,hc⟩,obs,if_pos rfl,zzo h (by omega),obs];obtain⟨L,h1,h2⟩:=hn
 have e:((zoi z.Years.length).find? (zzn r z c)).isSome=true:=by
  rw[List.find?_isSome];exact⟨L,zwv.2 h1,h2⟩
 rw[e]; rfl
theorem zzs{r:Rl}{z:Zn}(h:VZ r z){c:Int}(hc:¬ (0<=c/\c<=r.Classes - 1)):ztK r z c=some ([],2):=by
 unfold ztK;rw[zxv h,obs,if_pos rfl,(zzp h.full.rl h.c6).some_not hc,obs,if_neg (by decide)]
theorem zzt{a b:List Int}(hl:a.length<=1000):∀(d k:Nat),k<=a.length->a.length - k < d->zsm a b d (k:Int)=some (bef (a.drop k) (b.drop k))
 | 0,_,_,h=>by omega
 | d+1,k,hk,h=>by
  rw[zsm]
  by_cases hka:k < a.length
  ·rw[if_pos (by omega)];have da:=List.drop_eq_getElem_cons hka;have ga:=List.getElem?_eq_getElem hka
   by_cases hkb:k < b.length
   ·have db:=List.drop_eq_getElem_cons hkb;have gb:=List.getElem?_eq_getElem hkb;rw[if_pos (by omega),zrx ga,obs,zrx gb,obs,da,db];unfold bef
    by_cases he:a[k]=b[k]
    ·rw[if_pos he,if_pos he,zqs (fI (by omega)),show(k:Int)+1=((k+1:Nat):Int) by omega];exact zzt hl d (k+1) (by omega) (by omega)
    ·rw[if_neg he,if_neg he,obs,obs]
   ·rw[if_neg (by omega),da,List.drop_eq_nil_of_le (show b.length<=k by omega),decide_eq_false (by omega)]; rfl
  ·rw[if_neg (by omega),List.drop_eq_nil_of_le (show a.length<=k by omega)]
   by_cases hkb:k < b.length
   ·rw[List.drop_eq_getElem_cons hkb,decide_eq_true (by omega)]; rfl
   ·rw[List.drop_eq_nil_of_le (show b.length<=k by omega),decide_eq_false (by omega)]; rfl
theorem zzu{a b:List Int}(hl:a.length<=1000):zsn a b=some (bef a b):=zzt hl (a.length+1) 0 (Nat.zero_le _) (by omega)
theorem zzv{l:List Int}{cs:List P4}(h:Fit l cs)(m:Nat):Fit (l.take m) (cs.take m):=by
 refine⟨by rw[List.length_take,List.length_take,h.1],fun i k p hi hp=>?_⟩;rw[List.getElem?_take] at hi hp
 by_cases hm:i < m
 ·rw[if_pos hm] at hi hp; exact h.2 i k p hi hp
 ·rw[if_neg hm] at hi; cases hi
theorem zzw{cs:List P4}(hc:∀p∈cs,kl p ≠ []){m:Nat}:∀(n:Nat) {l:List Int},n+m=cs.length->Fit l (cs.take m)->∃l',Fit l' cs/\l'.take m=l
 | 0,l,hn,h=>⟨l,by rwa [List.take_of_length_le (by omega)] at h,by rw[List.take_of_length_le (by have:=h.1; rw[List.length_take] at this; omega)]⟩
 | n+1,l,hn,h=>by
  have hg:=List.getElem?_eq_getElem (show m < cs.length by omega);obtain⟨k,hk⟩:=List.exists_mem_of_ne_nil _ (hc _ (List.getElem_mem (show m < cs.length by omega)));obtain⟨l',h1,h2⟩:=zzw hc (m:=m+1) n (l:=l++[k]) (by omega) (by rw[zx1 hg,zx2]; exact⟨l,k,h,hk,rfl⟩);refine⟨l',h1,?_⟩;have hl:=h.1;rw[List.length_take] at hl;have e:=congrArg (List.take m) h2;rw[List.take_take,Nat.min_eq_left (by omega),List.take_left' (by omega)] at e;exact e
def mvL(r:Rl)(z:Zn)(i:Nat)(l:List Int):Bool:=(zxf r (st0 r z) (l.take (i+1))).cls != (zxf r (st0 r z) (l.take i)).cls
theorem zzx{r:Rl}{z:Zn}(h:VZ r z){i:Nat}{y:Yr}(hi:z.Years[i]? = some y):((zyt r z i).any fun q=>mvB (nx r (mkP (kB r y)) q) q.cls)=true↔∃l∈zxY (zxu r z).can,mvL r z i l=true:=by
 have hil:=(List.getElem?_eq_some_iff.1 hi).1;have hcan:=zyF (r:=r) hi;rw[List.any_eq_true]
 constructor
 ·rintro⟨q,hq,h1⟩
  obtain⟨q',hq',h2⟩:=zyy.1 h1;obtain⟨ks,h3,rfl⟩:=zx5.1 hq;obtain⟨k,h4,rfl⟩:=List.mem_map.1 hq';obtain⟨l,h5,h6⟩:=zzw (zyT h) (m:=i+1) (z.Years.length - (i+1)) (l:=ks++[k]) (by rw[zyZ]; omega) (by rw[zx1 hcan,zx2]; exact⟨ks,k,h3,h4,rfl⟩);refine⟨l,(zx3 _).2 h5,?_⟩
  have hkl:ks.length=i:=by rw[h3.1,List.length_take,zyZ]; omega
  have e:=congrArg (List.take i) h6;rw[List.take_take,Nat.min_eq_left (by omega),List.take_left' hkl] at e;unfold mvL;rw[h6,e,zxj];exact bne_iff_ne.2 h2
 ·rintro⟨l,hl,h1⟩
  have hf:=(zx3 _).1 hl
  have hll:l.length=z.Years.length:=by rw[hf.1,zyZ]
  have hg:=List.getElem?_eq_getElem (show i < l.length by omega);refine⟨zxf r (st0 r z) (l.take i),zx5.2 ⟨l.take i,zzv hf i,rfl⟩,zyy.2 ⟨_,List.mem_map.2 ⟨l[i],hf.2 i _ _ hg hcan,rfl⟩,?_⟩⟩;unfold mvL at h1;rw[zxK hg] at h1;exact bne_iff_ne.1 h1
theorem zzy{r:Rl}{z:Zn}(h:VZ r z){i:Nat}{y:Yr}(hi:z.Years[i]? = some y):((zyt r z i).any fun q=>syB (nx r (mkP (kB r y)) q) q.cls)=true↔∃l∈zxY (zxu r z).can,mvL r z i l=false:=by
 have hil:=(List.getElem?_eq_some_iff.1 hi).1;have hcan:=zyF (r:=r) hi;rw[List.any_eq_true]
 constructor
 ·rintro⟨q,hq,h1⟩
  obtain⟨q',hq',h2⟩:=zyz.1 h1;obtain⟨ks,h3,rfl⟩:=zx5.1 hq;obtain⟨k,h4,rfl⟩:=List.mem_map.1 hq';obtain⟨l,h5,h6⟩:=zzw (zyT h) (m:=i+1) (z.Years.length - (i+1)) (l:=ks++[k]) (by rw[zyZ]; omega) (by rw[zx1 hcan,zx2]; exact⟨ks,k,h3,h4,rfl⟩);refine⟨l,(zx3 _).2 h5,?_⟩
  have hkl:ks.length=i:=by rw[h3.1,List.length_take,zyZ]; omega
  have e:=congrArg (List.take i) h6;rw[List.take_take,Nat.min_eq_left (by omega),List.take_left' hkl] at e;unfold mvL;rw[h6,e,zxj];exact bne_eq_false_iff_eq.2 h2
 ·rintro⟨l,hl,h1⟩
  have hf:=(zx3 _).1 hl
  have hll:l.length=z.Years.length:=by rw[hf.1,zyZ]
  have hg:=List.getElem?_eq_getElem (show i < l.length by omega);refine⟨zxf r (st0 r z) (l.take i),zx5.2 ⟨l.take i,zzv hf i,rfl⟩,zyz.2 ⟨_,List.mem_map.2 ⟨l[i],hf.2 i _ _ hg hcan,rfl⟩,?_⟩⟩;unfold mvL at h1;rw[zxK hg] at h1;exact bne_eq_false_iff_eq.1 h1
theorem zzz{l:List Int}{n:Int}(hl:l.length<=1000):Ev (zsp l n) (n∈l):=by
 have key:=zrG (l:=l) (F:=fun d x=>zso l n d x) (ok:=fun a=>¬ a=n) (bad:=some true) (fin:=some false) (fun d k a ha=>by
  have hk:=(List.getElem?_eq_some_iff.1 ha).1
  show(_->zso l n (d+1) _=_)/\(_->zso l n (d+1) _=_)
  rw[zso,if_pos (by omega),zrx ha,obs]
  refine⟨fun h=>by rw[if_neg h,zqs (fI (by omega))],fun h=>by rw[if_pos (Classical.not_not.1 h)]⟩) (fun d=>by show zso l n (d+1) _=_; rw[zso,if_neg (Int.lt_irrefl _)]) (d:=l.length+1) (by omega)
 unfold zsp
 by_cases h:n∈l
 ·rw[key.2 fun q=>q n h rfl]; exact Ev.tt h
 ·rw[key.1 fun a ha he=>h (he ▸ ha)]; exact Ev.ff h
theorem zzA{a b:List Int}(ha:a.length<=1000):Ev (zsq a b) (a=b):=by
 unfold zsq
 by_cases hl:a.length=b.length
 ·rw[if_pos (by omega),zzu ha,obs]
  rcases zwy a b with h | h | h
  ·subst h;rw[zww,if_neg (by decide),zzu ha,zww,obs]; exact Ev.tt rfl
  ·rw[h,if_pos rfl]
   exact Ev.ff fun he=>by subst he; rw[zww] at h; cases h
  ·rw[zwx h,if_neg (by decide),zzu (by omega),h,obs]
   exact Ev.ff fun he=>by subst he; rw[zww] at h; cases h
 ·rw[if_neg (by omega)]; exact Ev.ff fun he=>hl (by rw[he])
theorem zzB{a:List Int}(ha:a.length<=1000):zsq a a=some true:=(zzA ha).some_of rfl
theorem zzC{l:List Int}(hl:l.length<=1000):ztM l=some l:=by
 unfold ztM;rw[zqs (by rw[List.length_nil]; omega)]; rfl
theorem zzD{r:Rl}(h:r.Price.length<=1000):ztO r=some r:=by
 unfold ztO;rw[zzC h,obs]
theorem zzE{z:Zn}(h:z.Years.length<=1000):ztQ z=some z:=by
 unfold ztQ
 exact(zrD (l:=z.Years) id (F:=fun d acc x=>ztP z d z.First acc x) (fun acc=>some ({ First:=z.First,Years:=acc }:Zn)) (fun d k acc a hk ha=>by
  have hkl:=(List.getElem?_eq_some_iff.1 hk).1
  show ztP z (d+1) _ _ _=_
  rw[ztP,if_pos (by omega),zrx hk,obs]
  show gd _ _=_
  rw[zqs (by omega),zqs (fI (by omega))]; rfl) (fun d acc=>by
  show ztP z (d+1) _ _ _=_
  rw[ztP,if_neg (Int.lt_irrefl _)]) (d:=1000000) (by omega)).trans (by rw[List.map_id])
theorem zzF{t:Tr}(h1:t.Losses.length<=1000)(h2:t.Premiums.length<=1000):ztR t=some t:=by
 unfold ztR;rw[zzC h1,obs,zzC h2,obs]
theorem zzG{r:Rl}{z:Zn}:Ev (ztS r z) (r.Price.length<=9/\z.Years.length<=9):=by
 unfold ztS;exact(Ev.ite fun _=>Ev.dec Iff.rfl).imp (by omega)
theorem zzH{r:Rl}{z:Zn}(h1:r.Price.length<=1000)(h2:z.Years.length<=1000):ztT r z=some (zwG r z):=by
 unfold ztT;rw[zwV h1 h2,obs]
theorem zzI{r:Rl}{z:Zn}:Ev (ztY r z) (VZ r z):=by
 unfold ztY;refine(zzG.and (K:=VZ r z) fun ht=>?_).imp ⟨fun h=>h.2,fun h=>⟨?_,h⟩⟩
 ·rw[zzH (by omega) (by omega),obs];exact Ev.dec zwH
 ·have h1:=h.full.rl.pl;have h2:=h.c6;have h3:=h.y6
  omega
theorem VZ.pl{r:Rl}{z:Zn}(h:VZ r z):r.Price.length<=6:=by
 have h1:=h.full.rl.pl;have h2:=h.c6
 omega
theorem zzJ{r:Rl}{z:Zn}(h:VZ r z):ztO r=some r:=zzD (by have:=h.pl; omega)
theorem zzK{r:Rl}{z:Zn}(h:VZ r z):ztQ z=some z:=zzE (by have:=h.y6; omega)
def zzL:Rl:={ Classes:=4,Good:=40,Bad:=120,Rest:=1,Fewest:=5,Price:=[10,20,40,80] }
def yrN(a b c d p:Int):Yr:={ Losses:=⟨a,b⟩,Premiums:=⟨c,d⟩,Parcels:=p,Exempt:=false }
def zzM:Zn:={ First:=1,Years:=[yrN 50 50 100 102 9,yrN 130 131 108 109 9,yrN 10 10 100 100 3,yrN 30 30 100 100 9,yrN 39 41 100 100 9] }
theorem zzN:ztV=some zzL:=rfl
theorem zzO:ztW=some zzM:=rfl
theorem zzP{r:Rl}{z:Zn}(h1:1<=r.Classes/\r.Classes<=6)(h2:(r.Price.length:Int)=r.Classes)(h3:0<=r.Good/\r.Good<=r.Bad/\r.Bad<=300)(h4:0<=r.Rest/\r.Rest<=4)(h5:0<=r.Fewest/\r.Fewest<=100)(h6:∀x∈r.Price,1<=x/\x<=10000)(h7:r.Price.Pairwise (·<=·))(h8:0<=z.First/\z.First<=r.Classes - 1)(h9:∀y∈z.Years,zwB y)(h10:z.Years.length<=6):VZ r z:=
 ⟨⟨⟨h1.1,h2,h3,h4,h5,h6,fun j hj h0 x y hx hy=>by
  obtain⟨q1,rfl⟩:=List.getElem?_eq_some_iff.1 hx;obtain⟨q2,rfl⟩:=List.getElem?_eq_some_iff.1 hy;have:=List.pairwise_iff_getElem.1 h7 (j - 1) j q2 q1 (by omega)
  omega⟩,h8,h9⟩,h1.2,h10⟩
instance (r:Rg):Decidable (RgP r):=by unfold RgP; infer_instance
instance (y:Yr):Decidable (zwB y):=by unfold zwB; infer_instance
theorem vEx:VZ zzL zzM:=zzP (by decide) (by decide) (by decide) (by decide) (by decide) (by decide) (by decide) (by decide) (by decide) (by decide)
theorem zzQ:zyo (clB (zyt zzL zzM 4)) 6=[0,2]:=by decide +kernel
theorem zzR:zyV zzL zzM 5=[0,1,2]:=by decide +kernel
theorem zzS:zyE zzL zzM 0 (mkP (kB zzL (yrN 50 50 100 102 9)))=2:=by decide +kernel
theorem zzT:zyE zzL zzM 3 (mkP (kB zzL (yrN 30 30 100 100 9)))=3:=by decide +kernel
theorem zzU:zyo (zy2 zzL zzM) 5=[1,4]:=by decide +kernel
theorem zzV:zzn zzL zzM 3 [0]=true:=by decide +kernel
theorem zzW:zro 5 (zzn zzL zzM 3)=[0]:=by decide +kernel
theorem zzX:ztX=some true:=by
 have e1:ztG zzL zzM 3=some ([0,2],0):=(zyv vEx (i:=3) (by decide)).trans (by rw[zzQ]);have e2:ztG zzL zzM 4=some ([0,1,2],0):=(zyv vEx (i:=4) (by decide)).trans (by rw[show zyo (clB (zyt zzL zzM (4+1))) 6=[0,1,2] from zzR]);have e3:ztH zzL zzM 0=some (2,0):=(zyH vEx (i:=0) (y:=yrN 50 50 100 102 9) rfl).trans (by rw[zzS]);have e4:ztH zzL zzM 3=some (3,0):=(zyH vEx (i:=3) (y:=yrN 30 30 100 100 9) rfl).trans (by rw[zzT]);have e5:ztI zzL zzM=some (⟨10,40⟩,0):=(zy1 vEx (a:=0) (b:=2) (by rw[show zyV zzL zzM zzM.Years.length=[0,1,2] from zzR]; rfl) (by rw[show zyV zzL zzM zzM.Years.length=[0,1,2] from zzR]; rfl)).trans rfl;have e6:ztJ zzL zzM=some ([1,4],0):=(zy6 vEx).trans (by rw[show zyo (zy2 zzL zzM) zzM.Years.length=[1,4] from zzU]);have e7:ztK zzL zzM 3=some ([0],0):=(zzr vEx (c:=3) (by decide) ⟨[0],⟨by decide,fun v hv=>by rw[List.mem_singleton.1 hv]; decide⟩,zzV⟩).trans (by rw[show zro zzM.Years.length (zzn zzL zzM 3)=[0] from zzW]);have s1:zsq [0,2] [0,2]=some true:=zzB (by decide);have s2:zsq [0,1,2] [0,1,2]=some true:=zzB (by decide);have s3:zsq [1,4] [1,4]=some true:=zzB (by decide);have s4:zsq [0] [0]=some true:=zzB (by decide);have b1:ztU 10 40=some ⟨10,40⟩:=rfl;unfold ztX
 simp only[zzN,zzO,obs,e1,e2,e3,e4,e5,e6,e7,s1,s2,s3,s4,b1,if_true]
 rw[zqs (fI (by decide)),zqs (fI (by decide)),zqs (fI (by decide)),zqs (fI (by decide))]
 simp
theorem aw:(ztX.bind fun r=>some r)=some true:=by rw[zzX]; rfl
theorem zzY{r:Rl}{z:Zn}(h:VZ r z){c:Int}(hc:c∈zyV r z z.Years.length):zl6 .i64 (zyN r c):=by
 have hb:=zyX h hc;have hp:=zyO h.full.rl hb;obtain⟨n,h1,h2,h3⟩:=zqk hp;have:=h.full.rl.pr _ (List.mem_of_getElem? h3);exact fI (by omega)
theorem zzZ{r:Rl}{z:Zn}(h:VZ r z)(n:Nat):∃a b,(zyV r z n)[0]? = some a/\(zyV r z n)[(zyV r z n).length - 1]? = some b:=by
 have hl:0 < (zyV r z n).length:=List.length_pos_iff.2 (zyY h n);exact⟨_,_,List.getElem?_eq_getElem hl,List.getElem?_eq_getElem (by omega)⟩
theorem zz0{r:Rl}(hc:r.Classes<=6){q:Stt}(hq:SOk r q):zyo (clB [q]) 6=[q.cls]:=by
 refine zwz (zyL _ _) (List.pairwise_singleton _ _) fun v=>?_;rw[zyR (r:=r) hc (fun q' h=>by rw[List.mem_singleton.1 h]; exact hq),List.mem_singleton];exact⟨fun⟨q',h1,h2⟩=>by rw[<- h2,List.mem_singleton.1 h1],fun h=>⟨q,List.mem_singleton.2 rfl,h.symm⟩⟩
theorem zz1{w:Int}{r:Rg}(hw:0<=w)(h:r.Lo<=r.Hi):(0<=w % (r.Hi - r.Lo+1)/\w % (r.Hi - r.Lo+1) < r.Hi - r.Lo+1):=⟨Int.emod_nonneg _ (by omega),Int.emod_lt_of_pos _ (by omega)⟩
theorem zz2{r:Rl}{z:Zn}(h:VZ r z){words:List W8}(hw:words.length<=maxLen/\∀a∈words,zr9 a):∀(d k:Nat) (a b:List Int),k<=z.Years.length->z.Years.length - k < d->a.length=k->b.length=k->(∀j,zxz z ⟨a,b⟩ j) ->
  ∃t,ztZ z words d a b (k:Int)=some t/\zxA z t
 | 0,k,_,_,_,hd,_,_,_=>by omega
 | d+1,k,a,b,hk,hd,ha,hb,hab=>by
  have h6:=h.y6
  by_cases hkn:k < z.Years.length
  ·have hg:=List.getElem?_eq_getElem hkn;have hy:=h.full.ys _ (List.getElem_mem hkn);obtain⟨q1,q2,_⟩:=hy;unfold RgP at q1 q2
   have hnext:∀u v:Int,0<=u->0<=v->∃t,ztZ z words d (a++[(z.Years[k]).Losses.Lo+u % ((z.Years[k]).Losses.Hi - (z.Years[k]).Losses.Lo+1)]) (b++[(z.Years[k]).Premiums.Lo+v % ((z.Years[k]).Premiums.Hi - (z.Years[k]).Premiums.Lo+1)]) ((k:Int)+1)=some t/\zxA z t:=fun u v hu hv=>by
    have m1:=zz1 hu q1.2.1;have m2:=zz1 hv q2.2.1;rw[show(k:Int)+1=((k+1:Nat):Int) by omega];refine zz2 h hw d (k+1) _ _ (by omega) (by omega) (by rw[List.length_append,ha]; rfl) (by rw[List.length_append,hb]; rfl) fun j y x p hy hx hp=>?_
    rcases Nat.lt_or_ge j k with hj | hj
    ·have hx:(a++_)[j]? = some x:=hx;have hp:(b++_)[j]? = some p:=hp;rw[List.getElem?_append_left (by omega)] at hx hp;exact hab j y x p hy hx hp
    ·have hj2:=(List.getElem?_eq_some_iff.1 hx).1;have hj2:j < (a++[_]).length:=hj2;rw[List.length_append,ha] at hj2
     have e:j=k:=by simp only[List.length_cons,List.length_nil] at hj2; omega
     subst e;have hx:(a++_)[j]? = some x:=hx;have hp:(b++_)[j]? = some p:=hp;rw[List.getElem?_append_right (by omega),ha,Nat.sub_self] at hx;rw[List.getElem?_append_right (by omega),hb,Nat.sub_self] at hp
     cases hx; cases hp
     rw[hg] at hy; cases hy
     omega
   have ga:a.length < 1048576:=by omega
   have gb:b.length < 1048576:=by omega
   rw[ztZ,if_pos (by omega)]
   by_cases h0:0 < words.length
   ·have hm:words.length<=1048576\/True:=.inr trivial;have e1:=Int.emod_nonneg (2 * (k:Int)) (show(words.length:Int) ≠ 0 by omega);have e2:=Int.emod_lt_of_pos (2 * (k:Int)) (show(0:Int) < (words.length:Int) by omega);have e3:=Int.emod_nonneg (2 * (k:Int)+1) (show(words.length:Int) ≠ 0 by omega);have e4:=Int.emod_lt_of_pos (2 * (k:Int)+1) (show(0:Int) < (words.length:Int) by omega);have hlw:words.length<=maxLen:=hw.1;unfold maxLen at hlw;obtain⟨u,hu⟩:∃u,idx words (2 * (k:Int) % (words.length:Int))=some u:=⟨_,zry (k:=(2 * (k:Int) % (words.length:Int)).toNat) (by omega) (by omega)⟩;obtain⟨v,hv⟩:∃v,idx words ((2 * (k:Int)+1) % (words.length:Int))=some v:=⟨_,zry (k:=((2 * (k:Int)+1) % (words.length:Int)).toNat) (by omega) (by omega)⟩
    have ou:∀w i,idx words i=some w->0<=w.v/\w.v < 256:=fun w i hi=>by
     obtain⟨n,_,_,hn⟩:=zqk hi;exact fU8 (hw.2 w (List.mem_of_getElem? hn))
    have u1:=ou u _ hu;have v1:=ou v _ hv;have wu1:zmb .i64 u.v=u.v:=wz (fI (by omega));have wv1:zmb .i64 v.v=v.v:=wz (fI (by omega));have m1:=zz1 (w:=u.v) u1.1 q1.2.1;have m2:=zz1 (w:=v.v) v1.1 q2.2.1
    rw[if_pos (by omega),zqs (by omega),zqs (by omega),zqs (fI (by omega)),zqs (by omega),zqs (by omega),zqs (fI (by omega)),hu,obs,zqs (by omega),zqs (by omega),zqs (fI (by omega)),zqs (fI (by omega)),zqs (by omega),zqs (by omega),zqs (fI (by omega)),hv,obs,zrx hg,obs,wu1,wv1,
     zqs (fI (by omega)),zqs (fI (by omega)),zqs u1.1,zqs (by omega),zqs (fI (by omega)),zqs (fI (by omega)),zqs ga,zqs (fI (by omega)),zqs (fI (by omega)),zqs v1.1,zqs (by omega),zqs (fI (by omega)),zqs (fI (by omega)),zqs gb,zqs (fI (by omega))]
    exact hnext u.v v.v u1.1 v1.1
   ·have m1:=zz1 (w:=0) (Int.le_refl 0) q1.2.1;have m2:=zz1 (w:=0) (Int.le_refl 0) q2.2.1;rw[if_neg (by omega),zrx hg,obs,zqs (fI (by omega)),zqs (fI (by omega)),zqs (by omega),zqs (by omega),zqs (fI (by omega)),zqs (fI (by omega)),zqs ga,zqs (fI (by omega)),zqs (fI (by omega)),zqs (by omega),zqs (by omega),zqs (fI (by omega)),zqs (fI (by omega)),zqs gb,zqs (fI (by omega))];exact hnext 0 0 (Int.le_refl 0) (Int.le_refl 0)
  ·rw[ztZ,if_neg (by omega)];exact⟨_,rfl,by show a.length=_; omega,by show b.length=_; omega,hab⟩
theorem zz3{r:Rl}{z:Zn}(h:VZ r z){words:List W8}(hw:words.length<=maxLen/\∀a∈words,zr9 a):∃t,zt0 z words=some t/\zxA z t:=by
 have h6:=h.y6
 exact zz2 h hw 1000000 0 [] [] (Nat.zero_le _) (by omega) rfl rfl fun j y x p _ hx=>by simp at hx
theorem zz4{r:Rl}{z:Zn}(h:VZ r z){t:Tr}(ht:zxA z t):ztR t=some t:=by
 have h6:=h.y6;have:=ht.l;have:=ht.p;exact zzF (by omega) (by omega)
theorem zz5{r:Rl}{z:Zn}(h:VZ r z){t:Tr}(ht:zxA z t):Fit (ktN r z t) (zxu r z).can:=by
 refine⟨by rw[zxH ht,zyZ],fun i k p hi hp=>?_⟩;have hil:=(List.getElem?_eq_some_iff.1 hi).1;rw[zxH ht] at hil;obtain⟨y,a,b,hy,ha,hb,hr,_⟩:=zxG h ht hil;rw[zxI hy ha hb] at hi;rw[zyF hy] at hp
 cases hi; cases hp
 have hk:=zwY r y a b;exact zxV.2 ⟨hk,zw9.2 ⟨a,b,hr.1,hr.2,by omega⟩⟩
theorem zz6{r:Rl}{z:Zn}(h:VZ r z){t:Tr}(ht:zxA z t)(m:Nat):zxf r (st0 r z) ((ktN r z t).take m)∈zyt r z m:=zx5.2 ⟨_,zzv (zz5 h ht) m,rfl⟩
def zz7(r:Rl)(z:Zn)(t:Tr)(k:Nat):Int:=(zxf r (st0 r z) ((ktN r z t).take k)).cls
theorem zz8{r:Rl}{z:Zn}(h:VZ r z){t:Tr}(ht:zxA z t)(m:Nat):zz7 r z t m∈zyV r z m:=(zyW h).2 ⟨_,zz6 h ht m,rfl⟩
theorem zz9{r:Rl}{z:Zn}{t:Tr}(ht:zxA z t){k:Nat}(hk:k < z.Years.length):(zxE r z t)[k]? = some (zz7 r z t (k+1)):=zxm r (ktN r z t) (st0 r z) k (by rw[zxH ht]; exact hk)
theorem zAa{r:Rl}{z:Zn}(h:VZ r z){t:Tr}{k:Nat}{x:Int}(hx:(ktN r z t)[k]? = some x):∃s,SOk r s/\s.cls=zz7 r z t k/\(step r x s).cls=zz7 r z t (k+1)/\s=zxf r (st0 r z) ((ktN r z t).take k):=
 ⟨_,zxh h.full.rl _ h.st0,rfl,by unfold zz7; rw[zxK hx],rfl⟩
theorem zAb{r:Rl}{z:Zn}(h:VZ r z){t:Tr}(ht:zxA z t){k:Nat}{y:Yr}(hy:z.Years[k]? = some y):(zz7 r z t (k+1)=zz7 r z t k->¬ zyE r z k (mkP (kB r y))=1)/\(¬ zz7 r z t (k+1)=zz7 r z t k->¬ zyE r z k (mkP (kB r y))=2)/\(1<=zyE r z k (mkP (kB r y))/\zyE r z k (mkP (kB r y))<=3):=by
 have hil:=(List.getElem?_eq_some_iff.1 hy).1;have hl:ktN r z t∈zxY (zxu r z).can:=(zx3 _).2 (zz5 h ht);have hm:=zzx h hy;have hs:=zzy h hy;unfold zyE zyB;have hmv:mvL r z k (ktN r z t)=(zz7 r z t (k+1) != zz7 r z t k):=rfl;generalize ((zyt r z k).any fun q=>mvB (nx r (mkP (kB r y)) q) q.cls)=bm at hm;generalize ((zyt r z k).any fun q=>syB (nx r (mkP (kB r y)) q) q.cls)=bs at hs;refine⟨fun he=>?_,fun he=>?_,?_⟩
 ·have:bs=true:=hs.2 ⟨_,hl,by rw[hmv]; exact bne_eq_false_iff_eq.2 he⟩
  rw[this,if_pos rfl]; split <;> omega
 ·have:bm=true:=hm.2 ⟨_,hl,by rw[hmv]; exact bne_iff_ne.2 he⟩
  rw[this,if_pos rfl]; split <;> omega
 ·split
  ·split <;> omega
  ·omega
theorem zAc{r:Rl}{z:Zn}(h:VZ r z):zyV r z 0=[z.First]:=zz0 h.c6 h.st0
theorem zAd{r:Rl}{z:Zn}(h:VZ r z){t:Tr}{k:Nat}{x:Int}(hx:(ktN r z t)[k]? = some x):(x=0\/x=3->zz7 r z t (k+1)=zz7 r z t k)/\(x=2->zz7 r z t (k+1)=min (zz7 r z t k+1) (r.Classes - 1))/\(x=1->zz7 r z t (k+1)=zz7 r z t k\/zz7 r z t (k+1)=zz7 r z t k - 1):=by
 obtain⟨s,hs,e1,e2,_⟩:=zAa h hx;rw[<- e1,<- e2,zxT hs];have hb:=hs.1;refine⟨fun hx=>?_,fun hx=>?_,fun hx=>?_⟩
 ·rw[if_neg (by omega),if_neg (by omega)]
 ·rw[if_pos hx]
 ·rw[if_neg (by omega),if_pos hx]
  split
  ·omega
  ·exact .inl rfl
theorem zAe{r:Rl}{z:Zn}(h:VZ r z){t:Tr}(ht:zxA z t)(k:Nat):0<=zz7 r z t k/\zz7 r z t k<=r.Classes - 1:=zyX h (zz8 h ht k)
theorem zAf{r:Rl}{z:Zn}(h:VZ r z){t:Tr}(ht:zxA z t):zxO z.First (zxE r z t)=zz7 r z t z.Years.length:=by
 have hl:=zxQ (r:=r) ht
 by_cases h0:z.Years.length=0
 ·have e:zxE r z t=[]:=List.eq_nil_of_length_eq_zero (by omega);rw[e];unfold zz7;rw[h0]; rfl
 ·have:=zxP (l:=zxE r z t) (by omega) z.First;rw[show((zxE r z t).length:Int) - 1=((z.Years.length - 1:Nat):Int) by omega,zrx (zz9 ht (by omega)),show z.Years.length - 1+1=z.Years.length by omega] at this;exact(oi this).symm
theorem zAg{r:Rl}{z:Zn}(h:VZ r z){t:Tr}(ht:zxA z t){a b:Int}(ha:(zyV r z z.Years.length)[0]? = some a)(hb:(zyV r z z.Years.length)[(zyV r z z.Years.length).length - 1]? = some b):∀(d k:Nat),k<=z.Years.length->z.Years.length - k < d ->
  zt1 r z t (zxE r z t,0) (⟨zyN r a,zyN r b⟩,0) d false (zz7 r z t k) (zyV r z k) (k:Int)=some true
 | 0,k,_,hd=>by omega
 | d+1,k,hk,hd=>by
  have h6:=h.y6;have hc6:=h.c6;have hc0:=h.full.rl.c0;have hpl:=zxQ (r:=r) ht;rw[zt1]
  by_cases hkn:k < z.Years.length
  ·rw[if_pos (show(k:Int) < ((zxE r z t).length:Int) by omega)];obtain⟨y,u,v,hy,hu,hv,_,hu2,hv2⟩:=zxG h ht hkn;have hx:=zxI (r:=r) hy hu hv;have hkb:=zwY r y u v;have hkind:=zAd h hx;obtain⟨hm1,hm2,hm3⟩:=zAb h ht hy;have hin:=zwT.some_of hm3;have hbn:=zAe h ht k;have hbn1:=zAe h ht (k+1);have hin2:=zwT.some_of hbn1;have hhas:zsp (zyo (clB (zyt r z (k+1))) 6) (zz7 r z t (k+1))=some true:=(zzz (Nat.le_trans (zyr _ _) (by omega))).some_of (zz8 h ht (k+1));have ih:=zAg h ht ha hb d (k+1) (by omega) (by omega);rw[show((k+1:Nat):Int)=(k:Int)+1 by omega] at ih;have ih:zt1 r z t (zxE r z t,0) (⟨zyN r a,zyN r b⟩,0) d false (zz7 r z t (k+1)) (zyo (clB (zyt r z (k+1))) 6) ((k:Int)+1)=some true:=ih;have hi:idx (zxE r z t) (k:Int)=some (zz7 r z t (k+1)):=zrx (zz9 ht hkn);rw[zzJ h,obs,zzK h,obs,zyv h hkn,obs,obs,obs,zyH h hy,obs,zrx hy,obs,zrx hu,obs,zrx hv,obs,zw2 h.full.rl hu2 hv2,obs,if_pos rfl,if_pos rfl];have g1:zl6 .i64 ((k:Int)+1):=fI (by omega);have g2:zl6 .i64 (r.Classes - 1):=fI (by omega);have g3:zl6 .i64 (zz7 r z t k+1):=fI (by omega);have g4:zl6 .i64 (zz7 r z t k - 1):=fI (by omega)
   simp only[hi,obs,hhas,if_true,hin,hin2,zqs g1,zqs g2,zqs g3,zqs g4]
   generalize hM:zyE r z k (mkP (kB r y))=M at hm1 hm2 hm3 ⊢;generalize hK:kN r y u v=K at hkb hkind ⊢
   generalize zz7 r z t (k+1)=x at *
   generalize zz7 r z t k=n at *
   obtain⟨k03,k2,k1⟩:=hkind
   clear hx hi hM hK
   by_cases e:x=n
   ·have hM1:=hm1 e;subst e
    by_cases q0:K=0
    ·subst q0; simp[hM1,ih]
    by_cases q1:K=1
    ·subst q1; simp[hM1,ih]
    by_cases q2:K=2
    ·have e2:=(k2 q2).symm;subst q2; simp[hM1,ih,e2]
    by_cases q3:K=3
    ·subst q3; simp[hM1,ih]
    omega
   ·have hM2:=hm2 e
    by_cases q1:K=1
    ·have e2:x=n - 1:=(k1 q1).resolve_left e;subst q1; simp[hM2,ih,e,<- e2]
    by_cases q2:K=2
    ·have e2:=(k2 q2).symm;subst q2; simp[hM2,ih,e,e2]
    exact absurd (k03 (by omega)) e
  ·have hkn:k=z.Years.length:=by omega
   subst hkn;have hn:=zz8 h ht z.Years.length;have hbn:=zAe h ht z.Years.length;have hpr:=zxR h ht (c:=zz7 r z t z.Years.length);rw[zAf h ht,decide_eq_true rfl] at hpr;have hlt:=zz4 h ht;have fa:=zzY h (List.mem_of_getElem? ha);have fb:=zzY h (List.mem_of_getElem? hb);have hs:(zyV r z z.Years.length).Pairwise (· < ·):=zyL _ _;have hba:=zyX h (List.mem_of_getElem? ha);have hbb:=zyX h (List.mem_of_getElem? hb);have hl6:(zyV r z z.Years.length).length<=6:=zyr _ _;have hl0:=(List.getElem?_eq_some_iff.1 ha).1;obtain⟨i,hi⟩:=List.mem_iff_getElem?.1 hn;have hil:=(List.getElem?_eq_some_iff.1 hi).1;have p1:=zyQ h.full.rl hba.1 (zyM hs ha hi (Nat.zero_le _)) hbn.2;have p2:=zyQ h.full.rl hbn.1 (zyM hs hi hb (by omega)) hbb.2;rw[if_neg (show ¬ (z.Years.length:Int) < ((zxE r z t).length:Int) by omega),zyO h.full.rl hbn,obs]
   show(if zyN r (zz7 r z t z.Years.length) < zyN r a then _ else (if zyN r b < zyN r (zz7 r z t z.Years.length) then _ else _))=_
   rw[if_neg (by omega),if_neg (by omega),zzJ h,obs,zzK h,obs,hlt,obs,hpr,obs,if_pos rfl,if_neg (by omega),zrz ha,obs,zqs (fI (by omega)),zwT.some_of hba,obs,if_pos rfl,zqs (fI (by omega)),show((zyV r z z.Years.length).length:Int) - 1=(((zyV r z z.Years.length).length - 1:Nat):Int) by omega,zrx hb,obs,zqs (fI (by omega)),zwT.some_of hbb,obs,if_pos rfl,obs,zyO h.full.rl hba,obs,zqs (fI (by omega)),obs,zyO h.full.rl hbb,obs]
   show gd (zl6 .i64 (zyN r a)) (gd (zl6 .i64 (zyN r a)) (gd (zl6 .i64 (zyN r b)) (gd (zl6 .i64 (zyN r b)) (if (decide (zyN r a=zyN r a) && decide (zyN r b=zyN r b))=true then _ else _))))=_
   rw[zqs fa,zqs fa,zqs fb,zqs fb,if_pos (by simp)]; exact aw
theorem zAh{r:Rl}{z:Zn}{words:List W8}(_:zr4 r)(_:zr7 z)(hw:words.length<=maxLen/\∀a∈words,zr9 a):zt2 r z words=some true:=by
 unfold zt2
 refine zzI.pick (fun h=>?_) fun _=>by rw[if_neg (by decide)]; exact aw
 have h6:=h.y6;obtain⟨t,et,ht⟩:=zz3 h hw;obtain⟨a,b,ha,hb⟩:=zzZ h z.Years.length;have hpl:=zxQ (r:=r) ht;rw[if_pos rfl,et,obs,zzJ h,obs,zzK h,obs,zz4 h ht,obs,zxM h ht,obs,obs,obs,zy1 h ha hb,obs,if_pos rfl,if_pos rfl,if_pos (show((zxE r z t).length:Int)=(z.Years.length:Int) by omega)];have e:=zAg h ht ha hb ((zxE r z t).length+1) 0 (Nat.zero_le _) (by omega);rw[zAc h] at e;exact e
def zAi(r:Rl)(z:Zn)(n:Nat):Nat:=((z.Years.take n).filter (zwW r)).length
theorem zAj{r:Rl}{z:Zn}{k:Nat}{y:Yr}(h:z.Years[k]? = some y):zAi r z (k+1)=zAi r z k+if zwW r y=true then 1 else 0:=by
 unfold zAi;rw[zx1 h,List.filter_append,List.length_append]
 congr 1
 cases hc:zwW r y with
 | true=>rw[List.filter_cons_of_pos hc]; rfl
 | false=>rw[List.filter_cons_of_neg (by rw[hc]; decide)]; rfl
theorem zAk{r:Rl}{y:Yr}(hc:zwW r y=false){k:Int}(hk:k∈kl (mkP (kB r y))):k=0:=by
 obtain⟨h1,h2⟩:=zxV.1 hk;obtain⟨l,p,_,_,h3⟩:=zw9.1 h2;rw[zwZ.2 hc] at h3
 omega
theorem zAl{r:Rl}(h:zwD r){s:Stt}(hs:SOk r s)(x:Int):(step r x s).cls<=s.cls+1/\s.cls - 1<=(step r x s).cls:=by
 have hb:=hs.1;rw[zxT hs]
 split
 ·omega
 ·split
  ·split <;> omega
  ·omega
theorem zAm{r:Rl}{z:Zn}(h:VZ r z){S:Nat->Bool}:∀m,m<=z.Years.length->∀q∈zzi r z S m,q.cls<=z.First+zAi r z m/\z.First - zAi r z m<=q.cls
 | 0,_,q,hq=>by
  have:q=st0 r z:=List.mem_singleton.1 hq;rw[this]
  show z.First<=z.First+((0:Nat):Int)/\z.First - ((0:Nat):Int)<=z.First
  omega
 | m+1,hm,q,hq=>by
  have hg:=List.getElem?_eq_getElem (show m < z.Years.length by omega);have hc:=zy9 (r:=r) (S:=S) hg;unfold zzi at hq;rw[zx1 hc,zx6] at hq;obtain⟨q',h1,h2⟩:=hq;have ih:=zAm h m (by omega) q' h1;obtain⟨k,h3,rfl⟩:=List.mem_map.1 h2;have hs:=zzj h q' h1;rw[zAj hg]
  cases hcn:zwW r z.Years[m] with
  | true=>
   have:=zAl h.full.rl hs k;rw[if_pos rfl]
   omega
  | false=>
   rw[hcn,Bool.and_false,if_neg (by decide)] at h3;rw[zAk hcn h3,if_neg (by decide)]
   show q'.cls<=_/\_<=q'.cls
   omega
theorem zAn{r:Rl}{z:Zn}(h:VZ r z){c:Nat}(hf:(zAi r z z.Years.length:Int) < (c:Int) - z.First\/(zAi r z z.Years.length:Int) < z.First - (c:Int))(S:Nat->Bool):zzl r z c S=false:=by
 cases hq:zzl r z c S with
 | false=>rfl
 | true=>
  obtain⟨q,h1,h2⟩:=zyl.1 (show clB (zzi r z S z.Years.length) c=true from hq);have:=zAm h z.Years.length (Nat.le_refl _) q h1
  omega
def zAo:Tr:={ Losses:=[50,130,10,30,39],Premiums:=[100,109,100,100,100] }
def zAp:Tr:={ Losses:=[50,131,10,30,39],Premiums:=[100,108,100,100,100] }
theorem zAq{z:Zn}{t:Tr}(h1:t.Losses.length=z.Years.length)(h2:t.Premiums.length=z.Years.length)(h3:∀x∈(z.Years.zip (t.Losses.zip t.Premiums)),(x.1.Losses.Lo<=x.2.1/\x.2.1<=x.1.Losses.Hi)/\x.1.Premiums.Lo<=x.2.2/\x.2.2<=x.1.Premiums.Hi):zxA z t:=by
 refine⟨h1,h2,fun j y a b hy ha hb=>h3 (y,a,b) (List.mem_iff_getElem?.2 ⟨j,?_⟩)⟩;rw[List.getElem?_zip_eq_some,List.getElem?_zip_eq_some];exact⟨hy,ha,hb⟩
theorem zAr:zxA zzM zAo:=zAq rfl rfl (by decide)
theorem zAs:zxA zzM zAp:=zAq rfl rfl (by decide)
theorem zAt{r:Rl}{z:Zn}(h:zwF r z):zwG r z=3:=by unfold zwG; rw[if_pos h]
theorem zAu{r:Rl}{z:Zn}(h1:¬ zwF r z)(h:¬ zwE r z):zwG r z=1:=by unfold zwG; rw[if_neg h1,if_neg h]
theorem chk{r:Rl}{z:Zn}{n:Int}(h1:r.Price.length<=1000)(h2:z.Years.length<=1000)(h:zwG r z=n):zsV r z=some n:=by rw[zwS h1 h2,h]
def zAv:Zn:={ First:=1,Years:=[yrN 50 50 100 102 9] }
theorem zAw:VZ zzL zAv:=zzP (by decide) (by decide) (by decide) (by decide) (by decide) (by decide) (by decide) (by decide) (by decide) (by decide)
theorem zAx:VZ zzL { First:=2,Years:=[] }:=zzP (by decide) (by decide) (by decide) (by decide) (by decide) (by decide) (by decide) (by decide) (by decide) (by decide)
theorem zAy:zwr=some true:=by
 have hv:=vEx;have a1:ztF zzL zzM { Losses:=[50,130,10,30,39],Premiums:=[100,109,100,100,100] }=some ([1,1,1,0,0],0):=(zxM hv zAr).trans (by rw[show zxE zzL zzM zAo=[1,1,1,0,0] by decide +kernel])
 have e2:zxE zzL zzM zAp=[1,2,2,2,1]:=by decide +kernel
 have a2:ztF zzL zzM { Losses:=[50,131,10,30,39],Premiums:=[100,108,100,100,100] }=some ([1,2,2,2,1],0):=(zxM hv zAs).trans (by rw[e2]);have a3:ztG zzL zzM 1=some ([1,2],0):=(zyv hv (i:=1) (by decide)).trans (by rw[show zyo (clB (zyt zzL zzM (1+1))) 6=[1,2] by decide +kernel]);have a4:ztK zzL zzM 0=some ([],0):=(zzr hv (c:=0) (by decide) ⟨[],⟨.nil,fun v h=>by cases h⟩,by decide +kernel⟩).trans (by rw[show zro zzM.Years.length (zzn zzL zzM 0)=[] by decide +kernel]);have a5:ztL zzL zzM { Losses:=[50,131,10,30,39],Premiums:=[100,108,100,100,100] } 1=some true:=(zxR hv zAs).trans (by rw[e2]; rfl);have a6:ztL zzL zzM { Losses:=[50,131,10,30,39],Premiums:=[100,108,100,100,100] } 0=some false:=(zxR hv zAs).trans (by rw[e2]; rfl);have a7:ztL zzL { First:=2,Years:=[] } { Losses:=[],Premiums:=[] } 2=some true:=(zxR zAx (zAq rfl rfl (by decide))).trans rfl
 have a8:ztF zzL zzM { Losses:=[50,132,10,30,39],Premiums:=[100,108,100,100,100] }=some ([],2):=zxN hv fun h=>by
  have h9:((130:Int)<=132/\(132:Int)<=131)/\(108:Int)<=108/\(108:Int)<=109:=h.ok 1 (yrN 130 131 108 109 9) 132 108 rfl rfl rfl
  omega
 have a9:ztF zzL zzM { Losses:=[50,131,10,30,39],Premiums:=[] }=some ([],2):=zxN hv fun h=>absurd h.p (by decide);have b1:ztG zzL zzM 5=some ([],2):=zyw hv (by decide);have b2:ztH zzL zzM (-1)=some (0,2):=zyI hv (by decide);have b3:ztK zzL zzM 4=some ([],2):=zzs hv (by decide);have b4:ztK zzL zAv 3=some ([],7):=zzq zAw (c:=3) (by decide) fun L _=>zAn zAw (.inl (by decide)) _;have b4:ztK zzL { First:=zzM.First,Years:=((zzM.Years.take (Int.toNat 1)).drop (Int.toNat 0)) } 3=some ([],7):=b4
 have nm:∀{r:Rl} {z:Zn},r.Classes<=6->z.Years.length<=6->¬ zwF r z:=fun h1 h2 h=>by unfold zwF at h; omega
 have c1:zsV { Classes:=7,Good:=zzL.Good,Bad:=zzL.Bad,Rest:=zzL.Rest,Fewest:=zzL.Fewest,Price:=zzL.Price } zzM=some 3:=chk (by decide) (by decide) (zAt (.inl (by decide)));have c2:zsV zzL { First:=4,Years:=zzM.Years }=some 1:=chk (by decide) (by decide) (zAu (nm (by decide) (by decide)) fun h=>absurd h.first (by decide));have c3:zsV { Classes:=zzL.Classes,Good:=121,Bad:=zzL.Bad,Rest:=zzL.Rest,Fewest:=zzL.Fewest,Price:=zzL.Price } zzM=some 1:=chk (by decide) (by decide) (zAu (nm (by decide) (by decide)) fun h=>absurd h.rl.gb (by decide));have c4:zsV { Classes:=zzL.Classes,Good:=zzL.Good,Bad:=zzL.Bad,Rest:=zzL.Rest,Fewest:=zzL.Fewest,Price:=[10,20,40] } zzM=some 1:=chk (by decide) (by decide) (zAu (nm (by decide) (by decide)) fun h=>absurd h.rl.pl (by decide));have c5:zsV { Classes:=zzL.Classes,Good:=zzL.Good,Bad:=zzL.Bad,Rest:=zzL.Rest,Fewest:=zzL.Fewest,Price:=[10,20,40,39] } zzM=some 1:=chk (by decide) (by decide) (zAu (nm (by decide) (by decide)) fun h=>h.rl.so 3 (by decide) (by decide) 39 40 rfl rfl (by decide));have c6:zsV { Classes:=zzL.Classes,Good:=zzL.Good,Bad:=zzL.Bad,Rest:=5,Fewest:=zzL.Fewest,Price:=zzL.Price } zzM=some 1:=chk (by decide) (by decide) (zAu (nm (by decide) (by decide)) fun h=>absurd h.rl.rest (by decide));have c7:zsV zzL { First:=zzM.First,Years:=List.replicate (Int.toNat 7) { Losses:={ Lo:=0,Hi:=0 },Premiums:={ Lo:=0,Hi:=0 },Parcels:=0,Exempt:=false } }=some 3:=chk (by decide) (by decide) (zAt (.inr (by decide)))
 have c8:zsV { Classes:=0,Good:=0,Bad:=0,Rest:=0,Fewest:=0,Price:=[] } zzM=some 1:=chk (by decide) (by decide) (zAu (nm (by decide) (by decide)) fun h=>absurd h.rl.c0 (by decide));have s1:zsq [1,1,1,0,0] [1,1,1,0,0]=some true:=zzB (by decide);have s2:zsq [1,2,2,2,1] [1,2,2,2,1]=some true:=zzB (by decide);have s3:zsq [1,2] [1,2]=some true:=zzB (by decide)
 have g1:(0:Int)<=0/\(0:Int)<=1/\(1:Int)<=(zzM.Years.length:Int):=by decide
 have g2:(0:Int)<=7/\(7:Int)<=4096:=by decide
 unfold zwr
 simp only[zzN,zzO,obs,a1,a2,a3,a4,a5,a6,a7,a8,a9,b1,b2,b3,b4,c1,c2,c3,c4,c5,c6,c7,c8,s1,s2,s3,zqs g1,zqs g2,if_true,zzX]
 rfl
end
end Go.Proofs.Ytlpjlgmoaipoiaa

