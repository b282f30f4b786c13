/- An evaluator of code, its soundness, and what functions of the program do. Condition: none; a lemma text. -/
import Derived.Test.YtlpjlgmoaipoiaaZiI

namespace Go.Proofs.Ytlpjlgmoaipoiaa
open _root_.Go.Proofs.Try
open Go.Abs
set_option maxRecDepth 100000
noncomputable section
theorem zwo{S β:Type}{n:Nat}(F:Nat->S->Int->Option β)(st:Nat->S){fin:Option β}(hstep:∀d k,k < n->F (d+1) (st k) (k:Int)=F d (st (k+1)) ((k:Int)+1))(hend:∀d,F (d+1) (st n) (n:Int)=fin) :
  ∀d k,k<=n->n - k < d->F d (st k) (k:Int)=fin
 | 0,k,_,h=>by omega
 | d+1,k,hk,h=>by
  by_cases hkn:k=n
  ·subst hkn; exact hend d
  ·rw[hstep d k (by omega),show(k:Int)+1=((k+1:Nat):Int) by omega];exact zwo F st hstep hend d (k+1) (by omega) (by omega)
def RgP(r:Rg):Prop:=0<=r.Lo/\r.Lo<=r.Hi/\r.Hi<=10000/\r.Hi - r.Lo<=5
def zwp(y:Yr):Prop:=RgP y.Losses/\RgP y.Premiums/\0<=y.Parcels/\y.Parcels<=100
def zwq(l:List Int)(j:Nat):Prop:=0 < j->∀x y,l[j]? = some x->l[j - 1]? = some y->¬ x < y
structure zwr (r:Rl):Prop where
 c0:1<=r.Classes
 pl:(r.Price.length:Int)=r.Classes
 gb:0<=r.Good/\r.Good<=r.Bad/\r.Bad<=300
 rest:0<=r.Rest/\r.Rest<=4
 few:0<=r.Fewest/\r.Fewest<=100
 pr:∀x∈r.Price,1<=x/\x<=10000
 so:∀j,j < r.Price.length->zwq r.Price j
structure zws (r:Rl) (z:Zn):Prop where
 rl:zwr r
 first:0<=z.First/\z.First<=r.Classes - 1
 ys:∀y∈z.Years,zwp y
def zwt(r:Rl)(z:Zn):Prop:=6 < r.Classes\/6 < z.Years.length
open Classical in
def zwu(r:Rl)(z:Zn):Int:=if zwt r z then 3 else if zws r z then 0 else 1
structure VZ (r:Rl) (z:Zn):Prop where
 full:zws r z
 c6:r.Classes<=6
 y6:z.Years.length<=6
theorem zwv{r:Rl}{z:Zn}:zwu r z=0↔VZ r z:=by
 unfold zwu
 by_cases h:zwt r z
 ·rw[if_pos h]; exact⟨fun h=>by omega,fun h2=>by have:=h2.c6; have:=h2.y6; unfold zwt at h; omega⟩
 ·rw[if_neg h];unfold zwt at h
  by_cases hf:zws r z
  ·rw[if_pos hf]; exact⟨fun _=>⟨hf,by omega,by omega⟩,fun _=>rfl⟩
  ·rw[if_neg hf]; exact⟨fun h=>by omega,fun h=>absurd h.full hf⟩
theorem zww{r:Rg}{n:Int}:Ev (zsf r n) (r.Lo<=n/\n<=r.Hi):=Ev.ite fun _=>Ev.dec Iff.rfl
theorem zwx{a b:Int}{r:Rg}:Ev (zsg { Lo:=a,Hi:=b } r) (a<=r.Lo/\r.Lo<=r.Hi/\r.Hi<=b):=Ev.ite fun _=>Ev.ite fun _=>Ev.dec Iff.rfl
theorem gI{l:List Int}{p:Int->Option Bool}:∀{d:Nat} {x:Int},zsr l p d x=gIdx l p d x
 | 0,_=>rfl
 | d+1,x=>by unfold zsr gIdx; simp only[gI]
theorem gY{l:List Yr}{p:Yr->Option Bool}:∀{d:Nat} {x:Int},zsw l p d x=gIdx l p d x
 | 0,_=>rfl
 | d+1,x=>by unfold zsw gIdx; simp only[gY]
theorem zwy{l:Lm}{r:Rg}(h1:l.pence=⟨0,10000⟩)(h2:l.wide=⟨0,5⟩):Ev (zsA l r) (RgP r):=by
 unfold zsA;rw[h1,h2];refine(zwx.and fun hc=>Ev.gd (fI (by omega)) zww.ret).imp ?_;unfold RgP
 show(_/\_/\_)/\((0:Int)<=r.Hi - r.Lo/\r.Hi - r.Lo<=5)↔_
 omega
theorem zwz{y:Yr}:Ev (zsB { pence:=⟨0,10000⟩,wide:=⟨0,5⟩,parcels:=⟨0,100⟩ } y) (zwp y):=
 ((zwy rfl rfl).and fun _=>(zwy rfl rfl).and fun _=>zww.ret).imp Iff.rfl
theorem zwA{x y:Int}:zsn x y=some (decide (x < y)):=by
 unfold zsn zsm;rw[obs,if_neg (by simp)]
theorem zwB{l:List Int}(hl:zrF l):∀(d i:Nat),i < l.length->i < d->Ev (zso l d (i:Int)) (∀j,j<=i->zwq l j)
 | 0,_,_,h=>by omega
 | d+1,i,hi,hd=>by
  unfold zrF at hl;unfold zso
  cases i with
  | zero=>
   rw[if_neg (by omega)]
   exact Ev.tt fun j hj h0=>by omega
  | succ i=>
   have hg:=List.getElem?_eq_getElem hi;have hg0:=List.getElem?_eq_getElem (show i < l.length by omega)
   have e:((i+1:Nat):Int) - 1=(i:Int):=by omega
   rw[if_pos (by omega),zrv hg,obs,e,zqs (fI (by omega)),zrv hg0,obs,zwA,obs];have hso:zwq l (i+1)↔¬ l[i+1] < l[i]:=⟨fun h=>h (by omega) _ _ hg hg0,fun h _ x y hx hy=>by rw[hg] at hx; have hy:l[i]? = some y:=hy; rw[hg0] at hy; cases hx; cases hy; exact h⟩
   by_cases hc:l[i+1] < l[i]
   ·rw[decide_eq_true hc,if_pos rfl];exact Ev.ff fun h=>(hso.1 (h _ (Nat.le_refl _))) hc
   ·rw[decide_eq_false hc,if_neg (by decide),zqs (fI (by omega))]
    exact(zwB hl d i (by omega) (by omega)).imp ⟨fun h j hj=>by
     rcases Nat.lt_or_eq_of_le hj with h1 | h1
     ·exact h j (by omega)
     ·subst h1; exact hso.2 hc,fun h j hj=>h j (by omega)⟩
theorem zwC{l:List Int}(hl:l.length<=1000):Ev (zsp l) (∀j,j < l.length->zwq l j):=by
 unfold zsp;refine Ev.gd (fI (by omega)) ?_
 cases hn:l.length with
 | zero=>
  show Ev (zso l (999999+1) _) _
  rw[zso,if_neg (by omega)]
  exact Ev.tt fun j hj=>by omega
 | succ n=>
  rw[show((n+1:Nat):Int) - 1=(n:Int) by omega];exact(zwB (zrG hl (by omega)) 1000000 n (by omega) (by omega)).imp ⟨fun h j hj=>h j (by omega),fun h j hj=>h j (by omega)⟩
theorem zwD{r:Rl}(hl:r.Price.length<=1000):Ev (zsC r) ((r.Price.length:Int)=r.Classes/\(∀x∈r.Price,1<=x/\x<=10000)/\∀j,j < r.Price.length->zwq r.Price j):=by
 unfold zsC;exact Ev.ite fun _=>(Ev.each (q:=fun x=>1<=x/\x<=10000) (fun a _=>zww) (by omega) gI).and fun _=>(zwC hl).ret
theorem zwE{r:Rl}(hl:r.Price.length<=1000):Ev (zsD r) (zwr r):=by
 unfold zsD;refine(Ev.ite fun _=>(zwx (a:=0) (b:=300) (r:=⟨r.Good,r.Bad⟩)).and fun _=>(zww (r:=⟨0,4⟩) (n:=r.Rest)).and fun _=>(zww (r:=⟨0,100⟩) (n:=r.Fewest)).and fun _=>(zwD hl).ret).imp ?_;exact⟨fun⟨a,b,c,d,e,f,g⟩=>⟨by omega,e,b,c,d,f,g⟩,fun⟨a,b,c,d,e,f,g⟩=>⟨by omega,c,d,e,b,f,g⟩⟩
theorem zwF{r:Rl}{z:Zn}(hz:z.Years.length<=1000)(hr:zwr r)(hl:r.Price.length<=1000):Ev (zsF r z) ((0<=z.First/\z.First<=r.Classes - 1)/\∀y∈z.Years,zwp y):=by
 unfold zsF zsE;have:=hr.pl;have:=hr.c0
 show Ev ((gd (zl6 .i64 (r.Classes - 1)) _).bind _) _
 rw[zqs (fI (by omega))];refine(show Ev ((zsf ⟨0,r.Classes - 1⟩ z.First).bind fun r=>some r) (0<=z.First/\z.First<=r.Classes - 1) from zww.ret).and fun _=>(Ev.each (q:=zwp) (fun a _=>zwz) (by omega) gY).ret
theorem zwG{r:Rl}{z:Zn}(h1:r.Price.length<=1000)(h2:z.Years.length<=1000):zsJ r z=some (zwu r z):=by
 unfold zsJ zwu zwt
 by_cases c1:6 < r.Classes
 ·rw[if_pos c1,if_pos (.inl c1)]
 rw[if_neg c1]
 by_cases c2:6 < z.Years.length
 ·rw[if_pos (by omega),if_pos (.inr c2)]
 rw[if_neg (by omega),if_neg (show ¬ (6 < r.Classes\/6 < z.Years.length) by omega)]
 refine(zwE h1).pick (fun h=>?_) fun h=>by rw[if_neg (by decide),if_neg fun h'=>h h'.rl]
 rw[if_pos rfl]
 refine(zwF h2 h h1).pick (fun h'=>?_) fun h'=>by rw[if_neg (by decide),if_neg fun h9=>h' ⟨h9.first,h9.ys⟩]
 rw[if_pos rfl,if_pos ⟨h,h'.1,h'.2⟩]
theorem zwH{n lo hi:Int}:Ev (zrZ n lo hi) (lo<=n/\n<=hi):=Ev.ite fun _=>Ev.dec Iff.rfl
theorem zwI{r:Rg}:Ev (zr0 r) (RgP r):=by
 unfold zr0;exact Ev.ite fun _=>Ev.ite fun _=>Ev.ite fun _=>Ev.gd (fI (by omega)) (Ev.dec Iff.rfl)
theorem zwJ{r:Rl}{z:Zn}(h1:r.Price.length<=1000)(h2:z.Years.length<=1000):zr2 r z=some (zwu r z):=by
 unfold zr2 zwu zwt
 by_cases c1:6 < r.Classes
 ·rw[if_pos c1,if_pos (.inl c1)]
 rw[if_neg c1]
 by_cases c2:6 < z.Years.length
 ·rw[if_pos (by omega),if_pos (.inr c2)]
 rw[if_neg (by omega),if_neg (show ¬ (6 < r.Classes\/6 < z.Years.length) by omega)]
 by_cases c3:r.Classes < 1
 ·rw[if_pos c3,if_neg fun h=>by have:=h.rl.c0; omega]
 rw[if_neg c3]
 by_cases c4:(r.Price.length:Int)=r.Classes
 rotate_left
 ·rw[if_neg c4,if_neg fun h=>c4 h.rl.pl]
 rw[if_pos c4]
 refine zwH.pick (fun c5=>?_) fun c5=>by rw[if_neg (by decide),if_neg fun h=>c5 ⟨h.rl.gb.1,h.rl.gb.2.1⟩]
 rw[if_pos rfl]
 by_cases c6:300 < r.Bad
 ·rw[if_pos c6,if_neg fun h=>by have:=h.rl.gb; omega]
 rw[if_neg c6]
 refine zwH.pick (fun c7=>?_) fun c7=>by rw[if_neg (by decide),if_neg fun h=>c7 h.rl.rest]
 rw[if_pos rfl]
 refine zwH.pick (fun c8=>?_) fun c8=>by rw[if_neg (by decide),if_neg fun h=>c8 h.rl.few]
 rw[if_pos rfl,zqs (fI (by omega))]
 refine zwH.pick (fun c9=>?_) fun c9=>by rw[if_neg (by decide),if_neg fun h=>c9 h.first]
 rw[if_pos rfl]
 have kY:=zrE (l:=z.Years) (F:=fun d x=>prFault_L1 z d x) (ok:=zwp) (bad:=some 1) (fin:=some 0) (fun d k a hk=>by
  have hkl:=(List.getElem?_eq_some_iff.1 hk).1
  show(zwp a->prFault_L1 z (d+1) (k:Int)=_)/\(¬ zwp a->prFault_L1 z (d+1) (k:Int)=_)
  rw[prFault_L1,if_pos (by omega),zrv hk,obs];refine⟨fun h=>?_,fun h=>?_⟩
  ·rw[zwI.some_of h.1,obs,if_pos rfl,zwI.some_of h.2.1,obs,if_pos rfl,zwH.some_of h.2.2,obs,if_pos rfl,zqs (fI (by omega))]
  ·refine zwI.pick (fun a1=>?_) fun _=>by rw[if_neg (by decide)]
   rw[if_pos rfl]
   refine zwI.pick (fun a2=>?_) fun _=>by rw[if_neg (by decide)]
   rw[if_pos rfl]
   refine zwH.pick (fun a3=>absurd ⟨a1,a2,a3⟩ h) fun _=>by rw[if_neg (by decide)]) (fun d=>by show prFault_L1 z (d+1) _=_; rw[prFault_L1,if_neg (Int.lt_irrefl _)]) (d:=1000000) (by omega)
 have kP:=zrz (n:=r.Price.length) (F:=fun d x=>zr1 r z d 0 x) (ok:=fun j=>(∀x,r.Price[j]? = some x->1<=x/\x<=10000)/\zwq r.Price j) (bad:=some 1) (fin:=prFault_L1 z 1000000 0) (fun d k hk=>by
  have hg:=List.getElem?_eq_getElem hk;have hk':=hk
  show(_->zr1 r z (d+1) 0 (k:Int)=_)/\(_->zr1 r z (d+1) 0 (k:Int)=_)
  rw[zr1,if_pos (by omega),zrv hg,obs];have e1:(∀x,r.Price[k]? = some x->1<=x/\x<=10000)↔(1<=r.Price[k]/\r.Price[k]<=10000):=⟨fun h=>h _ hg,fun h x hx=>by rw[hg] at hx; cases hx; exact h⟩;rw[e1]
  by_cases q1:1<=r.Price[k]/\r.Price[k]<=10000
  rotate_left
  ·rw[zwH.some_not q1,obs,if_neg (by decide)];exact⟨fun h=>absurd h.1 q1,fun _=>rfl⟩
  rw[zwH.some_of q1,obs,if_pos rfl]
  cases k with
  | zero=>
   rw[if_neg (by omega),zqs (fI (by omega))];exact⟨fun _=>rfl,fun h=>absurd ⟨q1,fun h0=>by omega⟩ h⟩
  | succ i=>
   have hg0:=List.getElem?_eq_getElem (show i < r.Price.length by omega)
   have e:((i+1:Nat):Int) - 1=(i:Int):=by omega
   rw[if_pos (by omega),obs,e,zqs (fI (by omega)),zrv hg0,obs];have hso:zwq r.Price (i+1)↔¬ r.Price[i+1] < r.Price[i]:=⟨fun h=>h (by omega) _ _ hg hg0,fun h _ x y hx hy=>by rw[hg] at hx; have hy:r.Price[i]? = some y:=hy; rw[hg0] at hy; cases hx; cases hy; exact h⟩
   by_cases hc:r.Price[i+1] < r.Price[i]
   ·rw[if_pos hc]; exact⟨fun h=>absurd hc (hso.1 h.2),fun _=>rfl⟩
   ·rw[if_neg hc,zqs (fI (by omega))]; exact⟨fun _=>rfl,fun h=>absurd ⟨q1,hso.2 hc⟩ h⟩) (fun d=>by show zr1 r z (d+1) 0 _=_; rw[zr1,if_neg (Int.lt_irrefl _)]) (d:=1000000) (by omega)
 by_cases q:∀j,j < r.Price.length->(∀x,r.Price[j]? = some x->1<=x/\x<=10000)/\zwq r.Price j
 rotate_left
 ·have:=kP.2 q;have this:zr1 r z 1000000 0 0=some 1:=this;rw[this,if_neg fun h=>q fun j hj=>⟨fun x hx=>h.rl.pr x (List.mem_of_getElem? hx),h.rl.so j hj⟩]
 have e:=kP.1 q;have e:zr1 r z 1000000 0 0=prFault_L1 z 1000000 0:=e;rw[e]
 have hrl:zwr r:=⟨by omega,c4,⟨c5.1,c5.2,by omega⟩,c7,c8,fun x hx=>by
  obtain⟨i,hi⟩:=List.mem_iff_getElem?.1 hx
  exact(q i (List.getElem?_eq_some_iff.1 hi).1).1 x hi,fun j hj=>(q j hj).2⟩
 by_cases qy:∀y∈z.Years,zwp y
 ·rw[if_pos ⟨hrl,c9,qy⟩]; exact kY.1 qy
 ·rw[if_neg fun h=>qy h.ys]; exact kY.2 qy
end
end Go.Proofs.Ytlpjlgmoaipoiaa

namespace Go.Proofs.Ytlpjlgmoaipoiaa
open _root_.Go.Proofs.Try
open Go.Abs
set_option maxRecDepth 100000
noncomputable section
def zwK(r:Rl)(y:Yr):Bool:=!y.Exempt && decide (r.Fewest<=y.Parcels)
def kN(r:Rl)(y:Yr)(l p:Int):Int:=if zwK r y=true then (if l * 100 < p * r.Good then 1 else if p * r.Bad < l * 100 then 2 else 3) else 0
theorem zwL{r:Rl}{y:Yr}:zsP r y=some (zwK r y):=by
 unfold zsP zwK
 cases y.Exempt <;> simp
theorem zwM(r:Rl)(y:Yr)(l p:Int):0<=kN r y l p/\kN r y l p < 4:=by
 unfold kN
 split
 ·split
  ·omega
  ·split <;> omega
 ·omega
theorem zwN{r:Rl}{y:Yr}{l p:Int}:kN r y l p=0↔zwK r y=false:=by
 unfold kN
 cases zwK r y with
 | true=>
  rw[if_pos rfl]
  constructor
  ·intro h; split at h
   ·omega
   ·split at h <;> omega
  ·intro h; cases h
 | false=>simp
theorem zwO{a b:Int}(h1:0<=a/\a<=10000)(h2:0<=b/\b<=300):0<=a * b/\a * b<=3000000:=
 ⟨Int.mul_nonneg h1.1 h2.1,by have:a * b<=10000 * 300:=Int.mul_le_mul h1.2 h2.2 h2.1 (by omega); omega⟩
theorem zwP{r:Rl}(h:zwr r){y:Yr}{l p:Int}(hl:0<=l/\l<=10000)(hp:0<=p/\p<=10000):zsQ r y l p=some (kN r y l p):=by
 have hg:=h.gb;have m1:=zwO hp (b:=r.Good) (by omega);have m2:=zwO hp (b:=r.Bad) (by omega);unfold zsQ kN;rw[zwL,obs]
 by_cases hc:zwK r y=true
 rotate_left
 ·rw[if_neg hc,if_neg hc]
 rw[if_pos hc,if_pos hc,zqs hl.1,zqs (by omega),zqs (fI (by omega)),zqs hp.1,zqs (by omega),zqs (fI (by omega))]
 by_cases h1:l * 100 < p * r.Good
 ·rw[if_pos h1,if_pos h1]
 ·rw[if_neg h1,if_neg h1,zqs hl.1,zqs (by omega),zqs (fI (by omega)),zqs hp.1,zqs (by omega),zqs (fI (by omega))]
  split <;> rfl
theorem zwQ{r:Rl}(h:zwr r){y:Yr}{l p:Int}(hl:0<=l/\l<=10000)(hp:0<=p/\p<=10000):zr4 r y l p=some (kN r y l p):=zwP h hl hp
def mkP(f:Nat->Bool):P4:=⟨f 0,f 1,f 2,f 3⟩
def upF{α:Type}(f:Nat->α)(k:Nat)(a:α):Nat->α:=fun j=>if j=k then a else f j
theorem zwR{α:Type}(f:Nat->α){i:Int}(hi:0<=i)(a:α)(j:Nat):sti i j a (f j)=upF f i.toNat a j:=by
 unfold sti upF
 by_cases h:j=i.toNat
 ·rw[if_pos h,if_pos (by omega)]
 ·rw[if_neg h,if_neg (by omega)]
theorem zwS(f:Nat->Bool)(i k:Nat):upF f i true k=true↔f k=true\/i=k:=by
 unfold upF
 by_cases h:k=i
 ·rw[if_pos h]; exact⟨fun _=>.inr h.symm,fun _=>rfl⟩
 ·rw[if_neg h]; exact⟨.inl,fun h'=>h'.elim id fun h2=>absurd h2.symm h⟩
theorem zwT{f g:Nat->Bool}(h:∀k,k < 4->(f k=true↔g k=true)):mkP f=mkP g:=by
 have e:∀k,k < 4->f k=g k:=fun k hk=>Bool.eq_iff_iff.2 (h k hk);unfold mkP;rw[e 0 (by omega),e 1 (by omega),e 2 (by omega),e 3 (by omega)]
def zwU(r:Rg):List Int:=segI r.Lo (r.Hi - r.Lo+1).toNat
def kB(r:Rl)(y:Yr)(k:Nat):Bool:=(zwU y.Losses).any fun l=>(zwU y.Premiums).any fun p=>kN r y l p == (k:Int)
def zwV(r:Rl)(y:Yr)(k:Int):Prop:=∃l p,(y.Losses.Lo<=l/\l<=y.Losses.Hi)/\(y.Premiums.Lo<=p/\p<=y.Premiums.Hi)/\kN r y l p=k
theorem zwW{r:Rg}{x:Int}:x∈zwU r↔r.Lo<=x/\x<=r.Hi:=by
 unfold zwU;rw[zrO]
 omega
theorem zwX{r:Rl}{y:Yr}{k:Nat}:kB r y k=true↔zwV r y (k:Int):=by
 unfold kB zwV;rw[List.any_eq_true]
 constructor
 ·rintro⟨l,hl,h⟩
  obtain⟨p,hp,h⟩:=List.any_eq_true.1 h;exact⟨l,p,zwW.1 hl,zwW.1 hp,of_decide_eq_true h⟩
 ·rintro⟨l,p,hl,hp,h⟩
  exact⟨l,zwW.2 hl,List.any_eq_true.2 ⟨p,zwW.2 hp,decide_eq_true h⟩⟩
theorem zwY{r:Rl}(h:zwr r){y:Yr}:∀(l:List (List Int)) (f:Nat->Bool),(∀a∈l,∃x p,a=[x,p]/\(0<=x/\x<=10000)/\0<=p/\p<=10000) ->
  ∃g:Nat->Bool,pwithin_L0 r y l (f 0) (f 1) (f 2) (f 3)=some (mkP g)/\∀k,g k=true↔f k=true\/∃x p,[x,p]∈l/\kN r y x p=(k:Int)
 | [],f,_=>⟨f,rfl,fun k=>⟨.inl,fun h=>h.elim id fun⟨_,_,h,_⟩=>by cases h⟩⟩
 | a::l,f,hl=>by
  obtain⟨x,p,rfl,hx,hp⟩:=hl a (List.mem_cons_self ..);have hb:=zwM r y x p;obtain⟨g,h1,h2⟩:=zwY h (y:=y) l (upF f (kN r y x p).toNat true) fun b hb=>hl b (List.mem_cons_of_mem _ hb);refine⟨g,?_,fun k=>(h2 k).trans ?_⟩
  ·unfold pwithin_L0;rw[show idx [x,p] 0=some x from rfl,obs,show idx [x,p] 1=some p from rfl,obs,zwP h hx hp,obs,zqs ⟨hb.1,hb.2⟩,zwR f hb.1,zwR f hb.1,zwR f hb.1,zwR f hb.1];exact h1
  ·rw[zwS]
   constructor
   ·rintro ((h3 | h3) | ⟨x',p',h3,h4⟩)
    ·exact .inl h3
    ·exact .inr ⟨x,p,List.mem_cons_self ..,by omega⟩
    ·exact .inr ⟨x',p',List.mem_cons_of_mem _ h3,h4⟩
   ·rintro (h3 | ⟨x',p',h3,h4⟩)
    ·exact .inl (.inl h3)
    ·rcases List.mem_cons.1 h3 with h5 | h5
     ·injection h5 with e1 e2
      injection e2 with e2 _
      subst e1 e2;exact .inl (.inr (by omega))
     ·exact .inr ⟨x',p',h5,h4⟩
theorem zwZ{a b:Rg}{x p:Int}:[x,p]∈chW [a,b] []↔(a.Lo<=x/\x<=a.Hi)/\b.Lo<=p/\p<=b.Hi:=by
 show[x,p]∈zrk (fun n=>zrk (fun m=>[([]++[a.Lo+(n:Int)])++[b.Lo+(m:Int)]]) (szR b).toNat 0) (szR a).toNat 0↔_
 rw[zvm];unfold szR
 constructor
 ·rintro⟨n,_,hn,h⟩
  rw[zvm] at h;obtain⟨m,_,hm,h⟩:=h;have h:=List.mem_singleton.1 h
  injection h with e1 e2
  injection e2 with e2 _
  omega
 ·intro h;refine⟨(x - a.Lo).toNat,by omega,by omega,(zvm _ _ _ _).2 ⟨(p - b.Lo).toNat,by omega,by omega,List.mem_singleton.2 ?_⟩⟩;rw[show a.Lo+((x - a.Lo).toNat:Int)=x by omega,show b.Lo+((p - b.Lo).toNat:Int)=p by omega]; rfl
theorem zw0{a b:Rg}{l:List Int}(h:l∈chW [a,b] []):∃x p,l=[x,p]:=by
 have h:l∈zrk (fun n=>zrk (fun m=>[([]++[a.Lo+(n:Int)])++[b.Lo+(m:Int)]]) (szR b).toNat 0) (szR a).toNat 0:=h;rw[zvm] at h;obtain⟨n,_,hn,h⟩:=h;rw[zvm] at h;obtain⟨m,_,hm,h⟩:=h;exact⟨_,_,List.mem_singleton.1 h⟩
theorem zw1{r:Rl}(h:zwr r){y:Yr}(hy:zwp y):ztp r y=some (mkP (kB r y)):=by
 obtain⟨h1,h2,_⟩:=hy;unfold RgP at h1 h2;unfold ztp ztm
 rw[zqs ⟨by simp,fun a ha=>by
  unfold okR
  rcases List.mem_cons.1 ha with rfl | ha
  ·omega
  ·rw[List.mem_singleton.1 ha]; omega⟩,obs]
 obtain⟨g,e1,e2⟩:=zwY h (y:=y) (chW [y.Losses,y.Premiums] []) (fun _=>false) fun a ha=>by
  obtain⟨x,p,rfl⟩:=zw0 ha;have:=zwZ.1 ha;exact⟨x,p,rfl,by omega,by omega⟩
 have e1:pwithin_L0 r y (chW [y.Losses,y.Premiums] []) false false false false=some (mkP g):=e1;rw[e1]
 congr 1
 refine zwT fun k _=>(e2 k).trans ?_;rw[zwX];unfold zwV
 constructor
 ·rintro (h3 | ⟨x,p,h3,h4⟩)
  ·cases h3
  ·exact⟨x,p,(zwZ.1 h3).1,(zwZ.1 h3).2,h4⟩
 ·rintro⟨x,p,h3,h4,h5⟩
  exact .inr ⟨x,p,zwZ.2 ⟨h3,h4⟩,h5⟩
def step(r:Rl)(k:Int)(s:Stt):Stt:=if k=2 then ⟨min (s.cls+1) (r.Classes - 1),0⟩ else if k=1 then ⟨if s.since=r.Rest then max 0 (s.cls - 1) else s.cls,min (s.since+1) r.Rest⟩ else if k=3 then ⟨s.cls,min (s.since+1) r.Rest⟩ else s
def SOk(r:Rl)(s:Stt):Prop:=(0<=s.cls/\s.cls<=r.Classes - 1)/\0<=s.since/\s.since<=r.Rest
theorem zw2{r:Rl}(h:zwr r)(k:Int){s:Stt}(hs:SOk r s):SOk r (step r k s):=by
 have h1:=h.rest;have h2:=h.c0;unfold SOk at hs;unfold step SOk
 split
 ·exact⟨⟨by show(0:Int)<=min _ _; omega,by show min _ _<=_; omega⟩,by show(0:Int)<=0; omega,by show(0:Int)<=_; omega⟩
 ·split
  ·refine⟨?_,by show(0:Int)<=min _ _; omega,by show min _ _<=_; omega⟩
   show 0<=(if s.since=r.Rest then max 0 (s.cls - 1) else s.cls)/\(if s.since=r.Rest then max 0 (s.cls - 1) else s.cls)<=r.Classes - 1
   split <;> omega
  ·split
   ·exact⟨hs.1,by show(0:Int)<=min _ _; omega,by show min _ _<=_; omega⟩
   ·exact hs
def zw3(r:Rl)(s:Stt)(ks:List Int):Stt:=ks.foldl (fun s k=>step r k s) s
def zw4(r:Rl):Stt->List Int->List Int
 | _,[]=>[]
 | s,k::ks=>(step r k s).cls::zw4 r (step r k s) ks
theorem zw5{r:Rl}(h:zwr r):∀(ks:List Int) {s:Stt},SOk r s->SOk r (zw3 r s ks)
 | [],_,hs=>hs
 | k::ks,_,hs=>zw5 h ks (zw2 h k hs)
theorem zw6(r:Rl)(s:Stt)(a b:List Int):zw3 r s (a++b)=zw3 r (zw3 r s a) b:=List.foldl_append
theorem zw7(r:Rl)(s:Stt)(a:List Int)(k:Int):zw3 r s (a++[k])=step r k (zw3 r s a):=zw6 r s a [k]
theorem zw8(r:Rl):∀(a b:List Int) (s:Stt),zw4 r s (a++b)=zw4 r s a++zw4 r (zw3 r s a) b
 | [],_,_=>rfl
 | k::a,b,s=>congrArg ((step r k s).cls :: ·) (zw8 r a b (step r k s))
theorem zw9(r:Rl):∀(a:List Int) (s:Stt),(zw4 r s a).length=a.length
 | [],_=>rfl
 | k::a,s=>congrArg (· + 1) (zw9 r a (step r k s))
theorem zxa(r:Rl):∀(a:List Int) (s:Stt) (i:Nat),i < a.length->(zw4 r s a)[i]? = some (zw3 r s (a.take (i+1))).cls
 | [],_,_,h=>by simp at h
 | k::a,s,0,_=>rfl
 | k::a,s,i+1,h=>zxa r a (step r k s) i (by simp at h; omega)
theorem zxb{l:List Int}{k:Nat}{x:Int}(h:l[k]? = some x):l.take (k+1)=l.take k++[x]:=by rw[List.take_add_one,h]; rfl
def zxc:K4:={ k0:={ lead:=fun a b=>zsK a b },k1:={ lead:=fun a b=>zsM a b },k2:={ lead:=fun a b=>zsN a b },k3:={ lead:=fun a b=>zsL a b } }
theorem zxd:zsO=some zxc:=rfl
theorem zxe{r:Rl}{s:Stt}:zsK r s=some (step r 0 s):=rfl
theorem zxf{r:Rl}(h:zwr r){s:Stt}(hs:SOk r s):zsL r s=some (step r 3 s):=by
 have:=h.rest;unfold SOk at hs;unfold zsL;rw[zqs (fI (by omega))]; rfl
theorem zxg{r:Rl}(h:zwr r)(hc:r.Classes<=6){s:Stt}(hs:SOk r s):zsM r s=some (step r 1 s):=by
 have hs':=hs;unfold SOk at hs';unfold zsM;rw[zxf h hs,obs];unfold step
 by_cases hr:s.since=r.Rest
 ·rw[if_pos hr,zqs (fI (by omega)),if_neg (by decide),if_pos rfl,if_pos hr]; rfl
 ·rw[if_neg hr,if_neg (by decide),if_pos rfl,if_neg hr]; rfl
theorem zxh{r:Rl}(h:zwr r)(hc:r.Classes<=6){s:Stt}(hs:SOk r s):zsN r s=some (step r 2 s):=by
 have:=h.c0;unfold SOk at hs;unfold zsN;rw[zqs (fI (by omega)),zqs (fI (by omega))]; rfl
def zxi(r:Rl)(z:Zn):Wk:={ r:=r,zone:=z,kinds:=zxc,can:=z.Years.map fun y=>mkP (kB r y) }
theorem zxj{r:Rl}{z:Zn}(h:VZ r z):ztr r z=some (zxi r z,0):=by
 have h6:=h.y6;have hpl:=h.full.rl.pl;have hc6:=h.c6;unfold ztr;rw[zwG (by omega) (by omega),obs,zwv.2 h,if_pos rfl,zxd,obs]
 exact zrB (l:=z.Years) (fun y=>mkP (kB r y)) (F:=fun d acc x=>ztq r z zxc d r.Classes r.Good r.Bad r.Rest r.Fewest z.First acc x) (fun acc=>some (({ r:=r,zone:=z,kinds:=zxc,can:=acc }:Wk),(0:Int))) (fun d k acc a hk ha=>by
  have hkl:=(List.getElem?_eq_some_iff.1 hk).1
  show ztq r z zxc (d+1) _ _ _ _ _ _ _ _=_
  rw[ztq,if_pos (by omega),zrv hk,obs,zw1 h.full.rl (h.full.ys a (List.mem_of_getElem? hk)),obs,zqs (by omega),zqs (fI (by omega))]) (fun d acc=>by
  show ztq r z zxc (d+1) _ _ _ _ _ _ _ _=_
  rw[ztq,if_neg (Int.lt_irrefl _)]) (by omega)
theorem zxk{z:Zn}(h:z.Years.length<=1000){n:Int}:Ev (zsG z n) (0<=n/\n<=(z.Years.length:Int) - 1):=by
 unfold zsG;refine Ev.gd (fI (by omega)) ?_;exact(show Ev (zsf { Lo:=0,Hi:=(z.Years.length:Int) - 1 } n) _ from zww).ret
theorem zxl{r:Rl}{z:Zn}(h:VZ r z){n:Int}(hn:0<=n/\n<=(z.Years.length:Int) - 1):zts r z n=some (zxi r z,0):=by
 have:=h.y6;unfold zts;rw[zxj h,obs,if_pos rfl,(zxk (by omega)).some_of hn,obs,if_pos rfl]
theorem zxm{r:Rl}{z:Zn}(h:VZ r z){n:Int}(hn:¬ (0<=n/\n<=(z.Years.length:Int) - 1)):∃w,zts r z n=some (w,2):=by
 have:=h.y6;unfold zts;rw[zxj h,obs,if_pos rfl,(zxk (by omega)).some_not hn,obs,if_neg (by decide)];exact⟨_,rfl⟩
def zxn(z:Zn)(t:Tr)(j:Nat):Prop:=∀(y:Yr) (a b:Int),z.Years[j]? = some y->t.Losses[j]? = some a->t.Premiums[j]? = some b->(y.Losses.Lo<=a/\a<=y.Losses.Hi)/\y.Premiums.Lo<=b/\b<=y.Premiums.Hi
structure zxo (z:Zn) (t:Tr):Prop where
 l:t.Losses.length=z.Years.length
 p:t.Premiums.length=z.Years.length
 ok:∀j,zxn z t j
theorem zxp{z:Zn}{t:Tr}(h:z.Years.length<=1000):Ev (zsI z t) (zxo z t):=by
 unfold zsI;refine(Ev.ite (K:=t.Premiums.length=z.Years.length/\(∀j,j < z.Years.length->zxn z t j)/\True) fun h1=>(Ev.ite fun h2=>Ev.loop (n:=z.Years.length) (F:=fun d x=>zsH z t d x) (ok:=fun j=>zxn z t j) (fin:=some true) (P:=True) (fun d k hk=>?_) (fun d=>?_) (by omega) fun _=>Ev.tt trivial).imp (and_congr_left fun _=>by omega)).imp ?_
 ·have hg:=List.getElem?_eq_getElem hk;have ha:=List.getElem?_eq_getElem (show k < t.Losses.length by omega);have hb:=List.getElem?_eq_getElem (show k < t.Premiums.length by omega)
  show(_->zsH z t (d+1) (k:Int)=_)/\(_->zsH z t (d+1) (k:Int)=_)
  rw[zsH,if_pos (by omega),zrv hg,obs,zrv ha,obs]
  have e:zxn z t k↔((z.Years[k].Losses.Lo<=t.Losses[k]/\t.Losses[k]<=z.Years[k].Losses.Hi)/\z.Years[k].Premiums.Lo<=t.Premiums[k]/\t.Premiums[k]<=z.Years[k].Premiums.Hi):=by
   unfold zxn;rw[hg,ha,hb];exact⟨fun q=>q _ _ _ rfl rfl rfl,fun q y a b h1 h2 h3=>by cases h1; cases h2; cases h3; exact q⟩
  rw[e]
  by_cases c1:z.Years[k].Losses.Lo<=t.Losses[k]/\t.Losses[k]<=z.Years[k].Losses.Hi
  ·rw[zww.some_of c1,obs,if_pos rfl,zrv hb,obs]
   by_cases c2:z.Years[k].Premiums.Lo<=t.Premiums[k]/\t.Premiums[k]<=z.Years[k].Premiums.Hi
   ·rw[zww.some_of c2,obs,if_pos rfl,zqs (fI (by omega))];exact⟨fun _=>rfl,fun q=>absurd ⟨c1,c2⟩ q⟩
   ·rw[zww.some_not c2,obs,if_neg (by decide)];exact⟨fun q=>absurd q.2 c2,fun _=>rfl⟩
  ·rw[zww.some_not c1,obs,if_neg (by decide)];exact⟨fun q=>absurd q.1 c1,fun _=>rfl⟩
 ·show zsH z t (d+1) _=_
  rw[zsH,if_neg (Int.lt_irrefl _)]
 ·exact⟨fun⟨h1,h2,h3,_⟩=>⟨by omega,h2,fun j y a b hy=>h3 j (List.getElem?_eq_some_iff.1 hy).1 y a b hy⟩,fun⟨h1,h2,h3⟩=>⟨by omega,h2,fun j _=>h3 j,trivial⟩⟩
def ktL(r:Rl):List Yr->List Int->List Int->List Int
 | y::ys,a::us,b::vs=>kN r y a b::ktL r ys us vs
 | [],_,_=>[]
 | _::_,[],_=>[]
 | _::_,_::_,[]=>[]
theorem zxq{r:Rl}:∀{ys:List Yr} {us vs:List Int},us.length=ys.length->vs.length=ys.length->(ktL r ys us vs).length=ys.length
 | [],_,_,_,_=>rfl
 | y::ys,a::us,b::vs,h1,h2=>by
  show(ktL r ys us vs).length+1=ys.length+1
  rw[zxq (by simpa using h1) (by simpa using h2)]
 | y::ys,[],_,h1,_=>by simp at h1
 | y::ys,_::_,[],_,h2=>by simp at h2
theorem zxr{r:Rl}:∀{ys:List Yr} {us vs:List Int} {k:Nat} {y:Yr} {a b:Int},ys[k]? = some y->us[k]? = some a->vs[k]? = some b->(ktL r ys us vs)[k]? = some (kN r y a b)
 | [],_,_,_,_,_,_,h,_,_=>by simp at h
 | _::_,[],_,_,_,_,_,_,h,_=>by simp at h
 | _::_,_::_,[],_,_,_,_,_,_,h=>by simp at h
 | y::ys,a::us,b::vs,0,_,_,_,h1,h2,h3=>by cases h1; cases h2; cases h3; rfl
 | y::ys,a::us,b::vs,k+1,_,_,_,h1,h2,h3=>zxr (ys:=ys) (us:=us) (vs:=vs) (k:=k) h1 h2 h3
def st0(r:Rl)(z:Zn):Stt:=⟨z.First,r.Rest⟩
def ktN(r:Rl)(z:Zn)(t:Tr):List Int:=ktL r z.Years t.Losses t.Premiums
def zxs(r:Rl)(z:Zn)(t:Tr):List Int:=zw4 r (st0 r z) (ktN r z t)
theorem VZ.st0{r:Rl}{z:Zn}(h:VZ r z):SOk r (st0 r z):=by
 have h1:=h.full.first;have h2:=h.full.rl.rest;exact⟨h1,h2.1,Int.le_refl _⟩
theorem zxt{r:Rl}(h:zwr r)(hc:r.Classes<=6){s:Stt}(hs:SOk r s){k:Int}(hk:0<=k/\k < 4){β:Type}{G:Stt->Option β} :
  (if k=0 then (zxc.k0.lead r s).bind G else if k=1 then (zxc.k1.lead r s).bind G else if k=2 then (zxc.k2.lead r s).bind G else if k=3 then (zxc.k3.lead r s).bind G else none)=G (step r k s):=by
 by_cases h0:k=0
 ·subst h0; rw[if_pos rfl,show zxc.k0.lead r s=some (step r 0 s) from zxe,obs]
 rw[if_neg h0]
 by_cases h1:k=1
 ·subst h1; rw[if_pos rfl,show zxc.k1.lead r s=some (step r 1 s) from zxg h hc hs,obs]
 rw[if_neg h1]
 by_cases h2:k=2
 ·subst h2; rw[if_pos rfl,show zxc.k2.lead r s=some (step r 2 s) from zxh h hc hs,obs]
 rw[if_neg h2]
 have h3:k=3:=by omega
 subst h3; rw[if_pos rfl,show zxc.k3.lead r s=some (step r 3 s) from zxf h hs,obs]
theorem zxu{r:Rl}{z:Zn}(h:VZ r z){t:Tr}(ht:zxo z t){k:Nat}(hk:k < z.Years.length) :
  ∃y a b,z.Years[k]? = some y/\t.Losses[k]? = some a/\t.Premiums[k]? = some b/\((y.Losses.Lo<=a/\a<=y.Losses.Hi)/\y.Premiums.Lo<=b/\b<=y.Premiums.Hi)/\(0<=a/\a<=10000)/\0<=b/\b<=10000:=by
 have h1:=ht.l;have h2:=ht.p;have hg:=List.getElem?_eq_getElem hk;have ha:=List.getElem?_eq_getElem (show k < t.Losses.length by omega);have hb:=List.getElem?_eq_getElem (show k < t.Premiums.length by omega);have hr:=ht.ok k _ _ _ hg ha hb;have hy:=h.full.ys _ (List.getElem_mem hk);obtain⟨q1,q2,_⟩:=hy;unfold RgP at q1 q2;exact⟨_,_,_,hg,ha,hb,hr,by omega,by omega⟩
theorem zxv{r:Rl}{z:Zn}{t:Tr}(ht:zxo z t):(ktN r z t).length=z.Years.length:=zxq ht.l ht.p
theorem zxw{r:Rl}{z:Zn}{t:Tr}{k:Nat}{y:Yr}{a b:Int}(h1:z.Years[k]? = some y)(h2:t.Losses[k]? = some a)(h3:t.Premiums[k]? = some b):(ktN r z t)[k]? = some (kN r y a b):=zxr h1 h2 h3
theorem zxx{r:Rl}{s:Stt}{ks:List Int}{k:Nat}{x:Int}(h:ks[k]? = some x):zw4 r s (ks.take (k+1))=zw4 r s (ks.take k)++[(step r x (zw3 r s (ks.take k))).cls]:=by
 rw[zxb h,zw8]; rfl
theorem zxy{r:Rl}{s:Stt}{ks:List Int}{k:Nat}{x:Int}(h:ks[k]? = some x):zw3 r s (ks.take (k+1))=step r x (zw3 r s (ks.take k)):=by
 rw[zxb h,zw7]
theorem zxz{r:Rl}{z:Zn}(h:VZ r z){t:Tr}(ht:zxo z t):zs5 (zxi r z) t=some (zxs r z t):=by
 have h6:=h.y6;have hl:=zxv (r:=r) ht;unfold zs5 zs3;rw[obs];refine zwo (n:=z.Years.length) (fun d (s:Stt × List Int) x=>zs4 (zxi r z) t d s.1.cls s.1.since s.2 x) (fun k=>(zw3 r (st0 r z) ((ktN r z t).take k),zw4 r (st0 r z) ((ktN r z t).take k))) (fun d k hk=>?_) (fun d=>?_) (z.Years.length+1) 0 (by omega) (by omega)
 ·obtain⟨y,a,b,hy,ha,hb,_,ha2,hb2⟩:=zxu h ht hk;have hkt:=zxw (r:=r) hy ha hb;have hs:=zw5 h.full.rl ((ktN r z t).take k) h.st0
  have hlen:(zw4 r (st0 r z) ((ktN r z t).take k)).length < 1048576:=by rw[zw9,List.length_take]; omega
  show zs4 (zxi r z) t (d+1) (zw3 r (st0 r z) ((ktN r z t).take k)).cls (zw3 r (st0 r z) ((ktN r z t).take k)).since (zw4 r (st0 r z) ((ktN r z t).take k)) (k:Int)=zs4 (zxi r z) t d (zw3 r (st0 r z) ((ktN r z t).take (k+1))).cls (zw3 r (st0 r z) ((ktN r z t).take (k+1))).since (zw4 r (st0 r z) ((ktN r z t).take (k+1))) ((k:Int)+1)
  rw[zxy hkt,zxx hkt];generalize zw4 r (st0 r z) ((ktN r z t).take k)=acc at hlen;generalize zw3 r (st0 r z) ((ktN r z t).take k)=s at hs;rw[zs4];refine(if_pos (show(k:Int) < ((zxi r z).zone.Years.length:Int) from by show(k:Int) < (z.Years.length:Int); omega)).trans ?_;rw[show idx (zxi r z).zone.Years (k:Int)=some y from zrv hy,obs,zrv ha,obs,zrv hb,obs,show zsQ (zxi r z).r y a b=_ from zwP h.full.rl ha2 hb2,obs];refine(zxt (r:=r) h.full.rl h.c6 hs (zwM r y a b) (G:=fun s=>gd (acc.length < 1048576) (gd (zl6 .i64 ((k:Int)+1)) (zs4 (zxi r z) t d s.cls s.since (acc++[s.cls]) ((k:Int)+1))))).trans ?_
  show gd _ (gd _ _)=_
  rw[zqs hlen,zqs (fI (by omega))]
 ·show zs4 (zxi r z) t (d+1) _ _ _ _=_
  rw[zs4];refine(if_neg (show ¬ (z.Years.length:Int) < ((zxi r z).zone.Years.length:Int) from Int.lt_irrefl _)).trans ?_
  show some (zw4 r (st0 r z) ((ktN r z t).take z.Years.length))=_
  rw[<- hl,List.take_length]; rfl
theorem zxA{r:Rl}{z:Zn}(h:VZ r z){t:Tr}(ht:zxo z t):ztt r z t=some (zxs r z t,0):=by
 have:=h.y6;unfold ztt;rw[zxj h,obs,if_pos rfl,(zxp (by omega)).some_of ht,obs,if_pos rfl,zxz h ht,obs]
theorem zxB{r:Rl}{z:Zn}(h:VZ r z){t:Tr}(ht:¬ zxo z t):ztt r z t=some ([],2):=by
 have:=h.y6;unfold ztt;rw[zxj h,obs,if_pos rfl,(zxp (by omega)).some_not ht,obs,if_neg (by decide)]
def zxC(first:Int)(l:List Int):Int:=match l.getLast? with | some x=>x | none=>first
theorem zxD{l:List Int}(h:0 < l.length)(first:Int):idx l ((l.length:Int) - 1)=some (zxC first l):=by
 rw[show(l.length:Int) - 1=((l.length - 1:Nat):Int) by omega,zql];unfold zxC;rw[List.getLast?_eq_getElem?,List.getElem?_eq_getElem (by omega)]
theorem zxE{r:Rl}{z:Zn}{t:Tr}(ht:zxo z t):(zxs r z t).length=z.Years.length:=by
 unfold zxs; rw[zw9,zxv ht]
theorem zxF{r:Rl}{z:Zn}(h:VZ r z){t:Tr}(ht:zxo z t){c:Int}:ztz r z t c=some (decide (zxC z.First (zxs r z t)=c)):=by
 have h6:=h.y6;have hl:=zxE (r:=r) ht;unfold ztz;rw[zxA h ht,obs,if_pos rfl]
 by_cases h0:z.Years.length=0
 ·rw[if_pos (show((zxs r z t).length:Int)=0 by omega)];have:zxs r z t=[]:=List.eq_nil_of_length_eq_zero (by omega);rw[this]; rfl
 ·rw[if_neg (show ¬ ((zxs r z t).length:Int)=0 by omega),zqs (fI (show -9223372036854775808<=((zxs r z t).length:Int) - 1/\((zxs r z t).length:Int) - 1 < 9223372036854775808 by omega)),show idx (zxs r z t,(0:Int)).1 (((zxs r z t).length:Int) - 1)=_ from zxD (show 0 < (zxs r z t).length by omega) z.First,obs]
def zxG(ks:List Int):Prop:=∀k∈ks,0<=k/\k < 4
theorem zxH{r:Rl}{s:Stt}(hs:SOk r s)(x:Int):(step r x s).cls=if x=2 then min (s.cls+1) (r.Classes - 1) else if x=1 then (if s.since=r.Rest then max (s.cls - 1) 0 else s.cls) else s.cls:=by
 unfold step
 by_cases h2:x=2
 ·rw[if_pos h2,if_pos h2]
 rw[if_neg h2,if_neg h2]
 by_cases h1:x=1
 ·rw[if_pos h1,if_pos h1]
  show(if _ then _ else _)=_
  rw[Int.max_comm]
 rw[if_neg h1,if_neg h1]
 split <;> rfl
def kl(p:P4):List Int:=(if p.p0=true then [0] else [])++((if p.p1=true then [1] else [])++((if p.p2=true then [2] else [])++if p.p3=true then [3] else []))
theorem zxI{p:P4}{k:Int}(h:k∈kl p):0<=k/\k < 4:=by
 unfold kl at h
 simp only[List.mem_append] at h
 rcases h with h | h | h | h <;> split at h <;> first | cases h; done | (rw[List.mem_singleton] at h; omega)
theorem zxJ{f:Nat->Bool}{k:Int}:k∈kl (mkP f)↔(0<=k/\k < 4)/\f k.toNat=true:=by
 constructor
 ·intro h;refine⟨zxI h,?_⟩;unfold kl mkP at h
  simp only[List.mem_append] at h
  rcases h with h | h | h | h <;> split at h <;> first | (cases h; done) | (rename_i q; rw[List.mem_singleton] at h; rw[h]; exact q)
 ·rintro⟨hk,h⟩
  unfold kl mkP
  simp only[List.mem_append]
  have:k=0\/k=1\/k=2\/k=3:=by omega
  rcases this with rfl | rfl | rfl | rfl
  ·exact .inl (by rw[if_pos (show f 0=true from h)]; exact List.mem_singleton.2 rfl)
  ·exact .inr (.inl (by rw[if_pos (show f 1=true from h)]; exact List.mem_singleton.2 rfl))
  ·exact .inr (.inr (.inl (by rw[if_pos (show f 2=true from h)]; exact List.mem_singleton.2 rfl)))
  ·exact .inr (.inr (.inr (by rw[if_pos (show f 3=true from h)]; exact List.mem_singleton.2 rfl)))
theorem zxK{p:P4}{d:Nat}{i:Nat}{b:Bool}{l:List Int}(hi:i < 4)(hb:([p.p0,p.p1,p.p2,p.p3]:List Bool)[i]? = some b)(h:zsV p d ((i:Int)+1)=some l):zsV p (d+1) (i:Int)=some ((if b=true then [(i:Int)] else [])++l):=by
 rw[zsV,if_pos (by omega),zrv hb,obs,zqs (fI (by omega)),h]
 cases b <;> rfl
theorem zxL{p:P4}:zsX p=some (kl p):=by
 have h4:zsV p (0+1) (((3:Nat):Int)+1)=some []:=by rw[zsV,if_neg (by omega)]
 have h3:=zxK (i:=3) (by omega) rfl h4;have h2:=zxK (i:=2) (by omega) rfl h3;have h1:=zxK (i:=1) (by omega) rfl h2;have h0:=zxK (i:=0) (by omega) rfl h1;unfold zsX zsW;have h0:zsV p (Int.toNat 4+1) 0=_:=h0;rw[h0,obs,List.append_nil]; rfl
def zxM(cs:List P4):List (List Int):=cs.foldl (fun all p=>all.flatMap fun l=>(kl p).map fun k=>l++[k]) [[]]
theorem zxN(cs:List P4)(p:P4):zxM (cs++[p])=(zxM cs).flatMap fun l=>(kl p).map fun k=>l++[k]:=by
 unfold zxM;rw[List.foldl_append]; rfl
theorem zxO{cs:List P4}{p:P4}{l:List Int}:l∈zxM (cs++[p])↔∃l' k,l'∈zxM cs/\k∈kl p/\l=l'++[k]:=by
 rw[zxN,List.mem_flatMap]
 constructor
 ·rintro⟨l',h1,h2⟩
  obtain⟨k,h3,h4⟩:=List.mem_map.1 h2;exact⟨l',k,h1,h3,h4.symm⟩
 ·rintro⟨l',k,h1,h2,rfl⟩
  exact⟨l',h1,List.mem_map.2 ⟨k,h2,rfl⟩⟩
theorem zxP{α:Type}{l:List α}{k:Nat}{x:α}(h:l[k]? = some x):l.take (k+1)=l.take k++[x]:=by rw[List.take_add_one,h]; rfl
def Fit(ks:List Int)(cs:List P4):Prop:=ks.length=cs.length/\∀(i:Nat) (k:Int) (p:P4),ks[i]? = some k->cs[i]? = some p->k∈kl p
theorem zxQ{cs:List P4}{p:P4}{l:List Int}:Fit l (cs++[p])↔∃l' k,Fit l' cs/\k∈kl p/\l=l'++[k]:=by
 unfold Fit
 constructor
 ·rintro⟨h1,h2⟩
  rw[List.length_append] at h1
  simp only[List.length_cons,List.length_nil] at h1
  have hl:cs.length < l.length:=by omega
  have hg:=List.getElem?_eq_getElem hl;refine⟨l.take cs.length,l[cs.length],⟨by rw[List.length_take]; omega,fun i k q hi hq=>?_⟩,h2 cs.length _ p hg (by rw[List.getElem?_append_right (Nat.le_refl _),Nat.sub_self]; rfl),?_⟩
  ·have hi':=(List.getElem?_eq_some_iff.1 hq).1;rw[List.getElem?_take,if_pos hi'] at hi;exact h2 i k q hi (by rw[List.getElem?_append_left hi']; exact hq)
  ·rw[<- zxP hg,List.take_of_length_le (by omega)]
 ·rintro⟨l',k,⟨h1,h2⟩,h3,rfl⟩
  refine⟨by rw[List.length_append,List.length_append,h1]; rfl,fun i k' q hi hq=>?_⟩
  rcases Nat.lt_or_ge i cs.length with h4 | h4
  ·rw[List.getElem?_append_left (by omega)] at hi;rw[List.getElem?_append_left h4] at hq;exact h2 i k' q hi hq
  ·have h5:=(List.getElem?_eq_some_iff.1 hq).1;rw[List.length_append] at h5
   simp only[List.length_cons,List.length_nil] at h5
   have e:i=cs.length:=by omega
   subst e;rw[List.getElem?_append_right (Nat.le_refl _),Nat.sub_self] at hq;rw[<- h1,List.getElem?_append_right (Nat.le_refl _),Nat.sub_self] at hi
   cases hq; cases hi; exact h3
theorem zxR:∀(cs:List P4) {l:List Int},l∈zxM cs↔Fit l cs:=by
 have key:∀(n:Nat) (cs:List P4),cs.length=n->∀{l:List Int},l∈zxM cs↔Fit l cs:=by
  intro n
  induction n with
  | zero=>
   intro cs h l;rw[List.eq_nil_of_length_eq_zero h]
   show l∈[[]]↔_
   rw[List.mem_singleton];exact⟨fun h=>by rw[h]; exact⟨rfl,fun i k p hi=>by simp at hi⟩,fun h=>List.eq_nil_of_length_eq_zero h.1⟩
  | succ n ih=>
   intro cs h l;have hg:=List.getElem?_eq_getElem (show n < cs.length by omega)
   have e:cs=cs.take n++[cs[n]]:=by rw[<- zxP hg,List.take_of_length_le (by omega)]
   rw[e,zxO,zxQ];exact exists_congr fun l'=>exists_congr fun k=>and_congr_left fun _=>ih _ (by rw[List.length_take]; omega)
 intro cs;exact key cs.length cs rfl
def nx(r:Rl)(p:P4)(q:Stt):List Stt:=(kl p).map fun k=>step r k q
def zxS(r:Rl)(s:Stt)(cs:List P4):List Stt:=(zxM cs).map (zw3 r s)
theorem zxT{r:Rl}{s q:Stt}{cs:List P4}:q∈zxS r s cs↔∃ks,Fit ks cs/\zw3 r s ks=q:=by
 unfold zxS;rw[List.mem_map];exact exists_congr fun ks=>and_congr_left fun _=>zxR cs
theorem zxU{r:Rl}{s q:Stt}{cs:List P4}{p:P4}:q∈zxS r s (cs++[p])↔∃q',q'∈zxS r s cs/\q∈nx r p q':=by
 rw[zxT]
 constructor
 ·rintro⟨ks,h1,h2⟩
  obtain⟨l',k,h3,h4,rfl⟩:=zxQ.1 h1;rw[zw7] at h2;exact⟨_,zxT.2 ⟨l',h3,rfl⟩,List.mem_map.2 ⟨k,h4,h2⟩⟩
 ·rintro⟨q',h1,h2⟩
  obtain⟨l',h3,rfl⟩:=zxT.1 h1;obtain⟨k,h4,h5⟩:=List.mem_map.1 h2;exact⟨l'++[k],zxQ.2 ⟨l',k,h3,h4,rfl⟩,by rw[zw7]; exact h5⟩
theorem zxV{r:Rl}(h:zwr r){s:Stt}(hs:SOk r s){cs:List P4}:∀q∈zxS r s cs,SOk r q:=fun q hq=>by
 obtain⟨ks,_,rfl⟩:=zxT.1 hq;exact zw5 h ks hs
open Classical in
def mL(l:List Stt):Option (Stt->Option Bool):=some fun q=>if q∈l then some true else none
theorem zxW{l l':List Stt}(h:∀q,q∈l↔q∈l'):mL l=mL l':=by
 unfold mL
 congr 1
 funext q
 by_cases hq:q∈l
 ·rw[if_pos hq,if_pos ((h q).1 hq)]
 ·rw[if_neg hq,if_neg fun h'=>hq ((h q).2 h')]
theorem zxX:mL []=some fun _=>none:=by
 unfold mL
 congr 1
theorem zxY{l:List Stt}{q:Stt}(h:q∈l):zqE (mL l) q=some true:=if_pos h
theorem zxZ{l:List Stt}{q:Stt}:zqE (mL l) q ≠ none↔q∈l:=by
 constructor
 ·intro h
  by_cases hq:q∈l
  ·exact hq
  ·exact absurd (show zqE (mL l) q=none from if_neg hq) h
 ·intro h;rw[zxY h]; simp
open Classical in
theorem zx0{l:List Stt}{q:Stt}:zqF (mL l) q true=some (mL (l++[q])):=by
 show some (some _)=some (some _)
 congr 2
 funext j
 by_cases hj:j=q
 ·rw[if_pos hj,if_pos (by rw[hj]; simp)]
 ·rw[if_neg hj]
  show(if j∈l then some true else none)=if j∈l++[q] then some true else none
  by_cases h2:j∈l
  ·rw[if_pos h2,if_pos (List.mem_append_left _ h2)]
  ·rw[if_neg h2,if_neg fun h=>(List.mem_append.1 h).elim h2 fun h=>hj (List.mem_singleton.1 h)]
theorem SOk.fit{r:Rl}(h:zwr r)(hc:r.Classes<=6){q:Stt}(hq:SOk r q):MK.fit q:=by
 have:=h.rest;unfold SOk at hq
 show zl6 .i64 q.cls/\zl6 .i64 q.since/\True
 exact⟨fI (by omega),fI (by omega),trivial⟩
theorem zx1{α:Type}:∀l:List α,∃ks:List α,ks.Nodup/\∀k,k∈ks↔k∈l
 | []=>⟨[],List.nodup_nil,fun _=>Iff.rfl⟩
 | a::l=>by
  obtain⟨ks,h1,h2⟩:=zx1 l
  by_cases h:a∈ks
  ·refine⟨ks,h1,fun k=>?_⟩;rw[h2,List.mem_cons];exact⟨.inr,fun hk=>hk.elim (fun he=>by rw[he]; exact(h2 a).1 h) id⟩
  ·exact⟨a::ks,List.nodup_cons.2 ⟨h,h1⟩,fun k=>by rw[List.mem_cons,List.mem_cons,h2]⟩
theorem zx2{r:Rl}(h:zwr r)(hc:r.Classes<=6){l:List Stt}(hl:∀q∈l,SOk r q){R:Type}{g:List Stt->Option R}{v:R}(hg:∀ks,(∀q,q∈ks↔q∈l)->g ks=some v):zra (mL l) g=some v:=by
 obtain⟨ks0,h1,h2⟩:=zx1 l;have hk:∀ks:List Stt,zq9 (mL l) ks->∀q,q∈ks↔q∈l:=fun ks hks q=>(hks.2 q).trans ⟨fun hq=>zxZ.1 hq.2,fun hq=>⟨(hl q hq).fit h hc,zxZ.2 hq⟩⟩;exact zrc (ks0:=ks0) ⟨h1,fun q=>(h2 q).trans ⟨fun hq=>⟨(hl q hq).fit h hc,zxZ.2 hq⟩,fun hq=>zxZ.1 hq.2⟩⟩ fun ks hks=>hg ks (hk ks hks)
theorem zx3{w:Wk}(h:zwr w.r)(hc:w.r.Classes<=6)(hw:w.kinds=zxc){q:Stt}(hq:SOk w.r q){rest:List Stt}{K:Option (Stt->Option Bool)->List Stt->Option (Option (Stt->Option Bool))}:∀(ks:List Int) (A:List Stt),zxG ks ->
  zs6 w q rest K ks (mL A)=K (mL (A++ks.map fun k=>step w.r k q)) rest
 | [],A,_=>by rw[zs6,List.map_nil,List.append_nil]
 | k::ks,A,hk=>by
  rw[zs6,hw];have hkb:=hk k (List.mem_cons_self ..);have ih:=zx3 h hc hw hq (rest:=rest) (K:=K) ks (A++[step w.r k q]) fun x hx=>hk x (List.mem_cons_of_mem _ hx);refine(zxt h hc hq hkb (G:=fun s=>gd (MK.fit s) ((zqF (mL A) s true).bind fun w'=>zs6 w q rest K ks w'))).trans ?_
  show gd (MK.fit (step w.r k q)) _=_
  rw[zqs ((zw2 h k hq).fit h hc),zx0,obs,ih,List.append_assoc]; rfl
theorem zx4{w:Wk}(h:zwr w.r)(hc:w.r.Classes<=6)(hw:w.kinds=zxc){l:List Stt}(hl:∀q∈l,SOk w.r q){i:Nat}{p:P4}(hi:w.can[i]? = some p):∀(n d:Nat) (rem A:List Stt),rem.length=n->n < d->(∀q∈rem,q∈l) ->
  zs7 w (mL l) (i:Int) d (mL A) rem=some (mL (A++rem.flatMap (nx w.r p)))
 | n,0,_,_,_,h,_=>by omega
 | n,d+1,rem,A,hn,hd,hr=>by
  rw[zs7];refine zrg (fun l1 a l2 he=>?_) fun he=>?_
  ·have ha:=hr a (by rw[he]; simp);rw[zxY ha,obs,zrv hi,obs,zxL,obs,zx3 h hc hw (hl a ha) _ _ fun k hk=>zxI hk]
   have hlen:(l1++l2).length+1=n:=by rw[<- hn,he]; simp; omega
   rw[zx4 h hc hw hl hi ((l1++l2).length) d (l1++l2) _ rfl (by omega) fun q hq=>hr q (by rw[he]; rcases List.mem_append.1 hq with h1 | h1 <;> simp[h1])]
   congr 1
   refine zxW fun q=>?_;rw[he]
   simp only[List.mem_append,List.mem_flatMap,List.mem_cons]
   show(q∈A\/q∈nx w.r p a)\/_↔_
   constructor
   ·rintro ((h1 | h1) | ⟨b,h1,h2⟩)
    ·exact .inl h1
    ·exact .inr ⟨a,.inr (.inl rfl),h1⟩
    ·exact .inr ⟨b,h1.elim .inl fun h=>.inr (.inr h),h2⟩
   ·rintro (h1 | ⟨b,h1,h2⟩)
    ·exact .inl (.inl h1)
    ·rcases h1 with h1 | rfl | h1
     ·exact .inr ⟨b,.inl h1,h2⟩
     ·exact .inl (.inr h2)
     ·exact .inr ⟨b,.inr h1,h2⟩
  ·subst he;rw[List.flatMap_nil,List.append_nil]
theorem zx5{w:Wk}(h:zwr w.r)(hc:w.r.Classes<=6)(hw:w.kinds=zxc){l:List Stt}(hl:∀q∈l,SOk w.r q){i:Nat}{p:P4}(hi:w.can[i]? = some p):zs8 w (mL l) (i:Int)=some (mL (l.flatMap (nx w.r p))):=by
 unfold zs8;refine zx2 h hc hl fun ks hks=>?_;rw[<- zxX,zx4 h hc hw hl hi ks.length (ks.length+1) ks [] rfl (by omega) fun q hq=>(hks q).1 hq,List.nil_append]
 congr 1
 refine zxW fun q=>?_
 simp only[List.mem_flatMap]
 exact exists_congr fun a=>and_congr_left fun _=>hks a
theorem zx6{w:Wk}(h:zwr w.r)(hc:w.r.Classes<=6)(hw:w.kinds=zxc)(hf:SOk w.r ⟨w.zone.First,w.r.Rest⟩){n:Nat}(hn:n<=w.can.length)(hn2:n<=1000):zta w (n:Int)=some (mL (zxS w.r ⟨w.zone.First,w.r.Rest⟩ (w.can.take n))):=by
 unfold zta zs3;rw[obs,zqs (hf.fit h hc),<- zxX,zx0,obs];refine zwo (n:=n) (fun d (s:Option (Stt->Option Bool)) x=>zs9 w (n:Int) d s x) (fun k=>mL (zxS w.r ⟨w.zone.First,w.r.Rest⟩ (w.can.take k))) (fun d k hk=>?_) (fun d=>?_) (Int.toNat (n:Int)+1) 0 (by omega) (by omega)
 ·have hg:=List.getElem?_eq_getElem (show k < w.can.length by omega)
  show zs9 w (n:Int) (d+1) _ _=_
  rw[zs9,if_pos (by omega),zx5 h hc hw (zxV h hf) hg,obs,zqs (fI (by omega))]
  congr 1
  refine zxW fun q=>?_;rw[zxP hg,zxU,List.mem_flatMap]
 ·show zs9 w (n:Int) (d+1) _ _=_
  rw[zs9,if_neg (Int.lt_irrefl _)]
def mkC(f:Nat->Bool):C6:=⟨f 0,f 1,f 2,f 3,f 4,f 5⟩
theorem zx7{f g:Nat->Bool}(h:∀k,k < 6->(f k=true↔g k=true)):mkC f=mkC g:=by
 have e:∀k,k < 6->f k=g k:=fun k hk=>Bool.eq_iff_iff.2 (h k hk);unfold mkC;rw[e 0 (by omega),e 1 (by omega),e 2 (by omega),e 3 (by omega),e 4 (by omega),e 5 (by omega)]
theorem zx8{f:Nat->Bool}{k:Nat}(hk:k < 6):([(mkC f).c0,(mkC f).c1,(mkC f).c2,(mkC f).c3,(mkC f).c4,(mkC f).c5]:List Bool)[k]? = some (f k):=by
 match k,hk with
 | 0,_=>rfl
 | 1,_=>rfl
 | 2,_=>rfl
 | 3,_=>rfl
 | 4,_=>rfl
 | 5,_=>rfl
def clB(l:List Stt)(c:Nat):Bool:=l.any fun q=>q.cls == (c:Int)
theorem zx9{l:List Stt}{c:Nat}:clB l c=true↔∃q∈l,q.cls=(c:Int):=by
 unfold clB;rw[List.any_eq_true];exact exists_congr fun q=>and_congr_right fun _=>beq_iff_eq
theorem zya{r:Rl}(hc:r.Classes<=6){l:List Stt}(hl:∀q∈l,SOk r q):∀(n d:Nat) (rem:List Stt) (f:Nat->Bool),rem.length=n->n < d->(∀q∈rem,q∈l) ->
  zs1 (mL l) d (f 0) (f 1) (f 2) (f 3) (f 4) (f 5) rem=some (mkC fun c=>f c || clB rem c)
 | n,0,_,_,_,h,_=>by omega
 | n,d+1,rem,f,hn,hd,hr=>by
  rw[zs1];refine zrg (fun l1 a l2 he=>?_) fun he=>?_
  ·have ha:=hr a (by rw[he]; simp);have hb:=(hl a ha).1
   have hlen:(l1++l2).length+1=n:=by rw[<- hn,he]; simp; omega
   rw[zxY ha,obs,zqs ⟨hb.1,by omega⟩,zwR f hb.1,zwR f hb.1,zwR f hb.1,zwR f hb.1,zwR f hb.1,zwR f hb.1]
   rw[zya hc hl ((l1++l2).length) d (l1++l2) (upF f a.cls.toNat true) rfl (by omega) fun q hq=>hr q (by rw[he]; rcases List.mem_append.1 hq with h1 | h1 <;> simp[h1])]
   congr 1
   refine zx7 fun k _=>?_;rw[Bool.or_eq_true,Bool.or_eq_true,zwS,zx9,zx9,he]
   simp only[List.mem_append,List.mem_cons]
   constructor
   ·rintro ((h1 | h1) | ⟨b,h1,h2⟩)
    ·exact .inl h1
    ·exact .inr ⟨a,.inr (.inl rfl),by omega⟩
    ·exact .inr ⟨b,h1.elim .inl fun h=>.inr (.inr h),h2⟩
   ·rintro (h1 | ⟨b,h1,h2⟩)
    ·exact .inl (.inl h1)
    ·rcases h1 with h1 | rfl | h1
     ·exact .inr ⟨b,.inl h1,h2⟩
     ·exact .inl (.inr (by omega))
     ·exact .inr ⟨b,.inr h1,h2⟩
  ·subst he
   show some (mkC f)=_
   congr 1
   exact zx7 fun k _=>by rw[Bool.or_eq_true]; exact⟨.inl,fun h=>h.elim id fun h=>by cases h⟩
theorem zyb{r:Rl}(h:zwr r)(hc:r.Classes<=6){l:List Stt}(hl:∀q∈l,SOk r q):zs2 (mL l)=some (mkC (clB l)):=by
 unfold zs2;refine zx2 h hc hl fun ks hks=>?_;have e:=zya hc hl ks.length (ks.length+1) ks (fun _=>false) rfl (by omega) fun q hq=>(hks q).1 hq;have e:zs1 (mL l) (ks.length+1) false false false false false false ks=_:=e;rw[e]
 congr 1
 refine zx7 fun k _=>?_;rw[Bool.or_eq_true,zx9,zx9];exact⟨fun h=>h.elim (fun h=>by cases h) fun⟨q,h1,h2⟩=>⟨q,(hks q).1 h1,h2⟩,fun⟨q,h1,h2⟩=>.inr ⟨q,(hks q).2 h1,h2⟩⟩
def zyc(f:Nat->Bool)(n:Nat):List Int:=((List.range n).filter f).map fun c:Nat=>(c:Int)
theorem zyd(f:Nat->Bool)(n:Nat):zyc f (n+1)=zyc f n++if f n=true then [(n:Int)] else []:=by
 unfold zyc;rw[List.range_succ,List.filter_append,List.map_append]
 congr 1
 cases h:f n <;> simp[h]
theorem zye{f:Nat->Bool}{n:Nat}{x:Int}:x∈zyc f n↔0<=x/\x < n/\f x.toNat=true:=by
 unfold zyc;rw[List.mem_map]
 constructor
 ·rintro⟨c,hc,rfl⟩
  rw[List.mem_filter,List.mem_range] at hc;exact⟨by omega,by omega,hc.2⟩
 ·rintro⟨h1,h2,h3⟩
  exact⟨x.toNat,List.mem_filter.2 ⟨List.mem_range.2 (by omega),h3⟩,by omega⟩
theorem zyf(f:Nat->Bool)(n:Nat):(zyc f n).length<=n:=by
 unfold zyc;rw[List.length_map];exact Nat.le_trans (List.length_filter_le _ _) (by rw[List.length_range]; exact Nat.le_refl _)
theorem zyg{f:Nat->Bool}:zsU (mkC f)=some (zyc f 6):=by
 unfold zsU;refine zwo (n:=6) (fun d (s:List Int) x=>zsT (mkC f) d s x) (fun k=>zyc f k) (fun d k hk=>?_) (fun d=>?_) (Int.toNat 6+1) 0 (by omega) (by show 6 - 0 < 6+1; omega)
 ·show zsT (mkC f) (d+1) _ _=_
  have:=zyf f k;rw[zsT,if_pos (by omega),zrv (zx8 hk),obs,zyd]
  cases f k with
  | true=>rw[if_pos rfl,if_pos rfl,zqs (by omega),zqs (fI (by omega))]
  | false=>rw[if_neg (by decide),if_neg (by decide),zqs (fI (by omega)),List.append_nil]
 ·show zsT (mkC f) (d+1) _ _=_
  rw[zsT,if_neg (by omega)]
def zyh(r:Rl)(z:Zn)(n:Nat):List Stt:=zxS r (st0 r z) ((zxi r z).can.take n)
theorem zyi{r:Rl}{z:Zn}(h:VZ r z){n:Nat}:∀q∈zyh r z n,SOk r q:=zxV h.full.rl h.st0
theorem zyj{r:Rl}{z:Zn}(h:VZ r z){i:Nat}(hi:i < z.Years.length):ztu r z (i:Int)=some (zyc (clB (zyh r z (i+1))) 6,0):=by
 have h6:=h.y6;unfold ztu;rw[zxl h (by omega),obs,if_pos rfl,zqs (fI (by omega)),show(i:Int)+1=((i+1:Nat):Int) by omega];have e:zta (zxi r z) ((i+1:Nat):Int)=some (mL (zyh r z (i+1))):=zx6 (w:=zxi r z) h.full.rl h.c6 rfl h.st0 (n:=i+1) (by show i+1<=(z.Years.map _).length; rw[List.length_map]; omega) (by omega)
 show(zta (zxi r z) _).bind _=_
 rw[e,obs,zyb (r:=r) (l:=zyh r z (i+1)) h.full.rl h.c6 (zyi h),obs,zyg,obs]
theorem zyk{r:Rl}{z:Zn}(h:VZ r z){n:Int}(hn:¬ (0<=n/\n<=(z.Years.length:Int) - 1)):ztu r z n=some ([],2):=by
 obtain⟨w,e⟩:=zxm h hn;unfold ztu;rw[e,obs,if_neg (show ¬ (2:Int)=0 by decide)]
end
end Go.Proofs.Ytlpjlgmoaipoiaa

namespace Go.Proofs.Ytlpjlgmoaipoiaa
open _root_.Go.Proofs.Try
open Go.Abs
set_option maxRecDepth 100000
noncomputable section
theorem zyl{c:Int}(hc:0<=c/\c < 6):zsS c=some (mkC fun k=>decide ((k:Int)=c)):=by
 unfold zsS;rw[zqs hc]
 have e:∀k:Nat,sti c k true false=decide ((k:Int)=c):=fun k=>by
  unfold sti
  by_cases h:c=(k:Int)
  ·rw[if_pos h,decide_eq_true h.symm]
  ·rw[if_neg h,decide_eq_false fun h'=>h h'.symm]
 rw[e,e,e,e,e,e]; rfl
def mvB(l:List Stt)(c:Int):Bool:=l.any fun q=>q.cls != c
def syB(l:List Stt)(c:Int):Bool:=l.any fun q=>q.cls == c
theorem zym{l:List Stt}{c:Int}:mvB l c=true↔∃q∈l,q.cls ≠ c:=by
 unfold mvB;rw[List.any_eq_true];exact exists_congr fun q=>and_congr_right fun _=>bne_iff_ne
theorem zyn{l:List Stt}{c:Int}:syB l c=true↔∃q∈l,q.cls=c:=by
 unfold syB;rw[List.any_eq_true];exact exists_congr fun q=>and_congr_right fun _=>beq_iff_eq
theorem zyo{r:Rl}(hc6:r.Classes<=6){l:List Stt}(hl:∀q∈l,SOk r q)(hne:l ≠ []){c:Int}(hc:0<=c/\c < 6) :
  (!(((mkC (clB l)).c0 == (mkC fun k=>decide ((k:Int)=c)).c0) && (((mkC (clB l)).c1 == (mkC fun k=>decide ((k:Int)=c)).c1) && (((mkC (clB l)).c2 == (mkC fun k=>decide ((k:Int)=c)).c2) && (((mkC (clB l)).c3 == (mkC fun k=>decide ((k:Int)=c)).c3) && (((mkC (clB l)).c4 == (mkC fun k=>decide ((k:Int)=c)).c4) && ((mkC (clB l)).c5 == (mkC fun k=>decide ((k:Int)=c)).c5)))))))=mvB l c:=by
 have e:(((mkC (clB l)).c0 == (mkC fun k=>decide ((k:Int)=c)).c0) && (((mkC (clB l)).c1 == (mkC fun k=>decide ((k:Int)=c)).c1) && (((mkC (clB l)).c2 == (mkC fun k=>decide ((k:Int)=c)).c2) && (((mkC (clB l)).c3 == (mkC fun k=>decide ((k:Int)=c)).c3) && (((mkC (clB l)).c4 == (mkC fun k=>decide ((k:Int)=c)).c4) && ((mkC (clB l)).c5 == (mkC fun k=>decide ((k:Int)=c)).c5))))))=true↔∀k:Nat,k < 6->clB l k=decide ((k:Int)=c):=by
  simp only[Bool.and_eq_true,beq_iff_eq]
  constructor
  ·rintro⟨h0,h1,h2,h3,h4,h5⟩ k hk
   match k,hk with
   | 0,_=>exact h0
   | 1,_=>exact h1
   | 2,_=>exact h2
   | 3,_=>exact h3
   | 4,_=>exact h4
   | 5,_=>exact h5
  ·intro h;exact⟨h 0 (by omega),h 1 (by omega),h 2 (by omega),h 3 (by omega),h 4 (by omega),h 5 (by omega)⟩
 rw[Bool.eq_iff_iff,Bool.not_eq_true',<- Bool.not_eq_true,e,zym]
 constructor
 ·intro h;refine Classical.byContradiction fun hn=>h fun k hk=>?_;have hall:∀q∈l,q.cls=c:=fun q hq=>Classical.byContradiction fun h'=>hn ⟨q,hq,h'⟩;rw[Bool.eq_iff_iff,zx9,decide_eq_true_eq]
  constructor
  ·rintro⟨q,h1,h2⟩; rw[<- h2]; exact hall q h1
  ·intro h1;obtain⟨q,hq⟩:=List.exists_mem_of_ne_nil l hne;exact⟨q,hq,by rw[hall q hq,h1]⟩
 ·rintro⟨q,hq,hne⟩ h
  have hb:=(hl q hq).1;have h8:=h q.cls.toNat (by omega);rw[Bool.eq_iff_iff,zx9,decide_eq_true_eq] at h8;exact hne ((Int.toNat_of_nonneg hb.1).symm.trans (h8.1 ⟨q,hq,(Int.toNat_of_nonneg hb.1).symm⟩))
def zyp(m s:Bool):Int:=if s=true then (if m=true then 3 else 2) else 1
theorem zyq{r:Rl}{y:Yr}(hy:zwp y):kl (mkP (kB r y)) ≠ []:=by
 obtain⟨⟨h1,h2,h3,h4⟩,⟨h5,h6,h7,h8⟩,_⟩:=hy;have hb:=zwM r y y.Losses.Lo y.Premiums.Lo;have:kN r y y.Losses.Lo y.Premiums.Lo∈kl (mkP (kB r y)):=zxJ.2 ⟨hb,zwX.2 ⟨_,_,⟨Int.le_refl _,h2⟩,⟨Int.le_refl _,h6⟩,by omega⟩⟩;intro h
 rw[h] at this; cases this
theorem zyr{w:Wk}(h:zwr w.r)(hc:w.r.Classes<=6)(hw:w.kinds=zxc){l:List Stt}(hl:∀q∈l,SOk w.r q){i:Nat}{p:P4}(hi:w.can[i]? = some p)(hp:kl p ≠ []):∀(n d:Nat) (rem:List Stt) (b1 b2:Bool),rem.length=n->n < d->(∀q∈rem,q∈l) ->
  ztb w (i:Int) (mL l) d b1 b2 rem=some (zyp (b1 || rem.any fun q=>mvB (nx w.r p q) q.cls) (b2 || rem.any fun q=>syB (nx w.r p q) q.cls))
 | n,0,_,_,_,_,h,_=>by omega
 | n,d+1,rem,b1,b2,hn,hd,hr=>by
  rw[ztb];refine zrg (fun l1 a l2 he=>?_) fun he=>?_
  ·have ha:=hr a (by rw[he]; simp);have hs:=hl a ha;have hb:=hs.1
   have hlen:(l1++l2).length+1=n:=by rw[<- hn,he]; simp; omega
   have hnx:∀q∈nx w.r p a,SOk w.r q:=fun q hq=>by
    obtain⟨k,_,rfl⟩:=List.mem_map.1 hq;exact zw2 h k hs
   have hne:nx w.r p a ≠ []:=by
    unfold nx;intro h';exact hp (List.map_eq_nil_iff.1 h')
   have ih:=fun b1 b2=>zyr h hc hw hl hi hp ((l1++l2).length) d (l1++l2) b1 b2 rfl (by omega) fun q hq=>hr q (by rw[he]; rcases List.mem_append.1 hq with h1 | h1 <;> simp[h1])
   have ef:zs8 w (mL [a]) (i:Int)=some (mL (nx w.r p a)):=by
    have:=zx5 h hc hw (l:=[a]) (fun q hq=>by rw[List.mem_singleton.1 hq]; exact hs) hi;rw[this]
    congr 1
    exact zxW fun q=>by simp
   rw[zxY ha,obs,zqs (hs.fit h hc),<- zxX,zx0,obs,List.nil_append,ef,obs,zyb h hc hnx,obs]
   have hsy:idx ([(mkC (clB (nx w.r p a))).c0,(mkC (clB (nx w.r p a))).c1,(mkC (clB (nx w.r p a))).c2,(mkC (clB (nx w.r p a))).c3,(mkC (clB (nx w.r p a))).c4,(mkC (clB (nx w.r p a))).c5]:List Bool) a.cls=some (syB (nx w.r p a) a.cls):=by
    have e0:a.cls=((a.cls.toNat:Nat):Int):=by omega
    rw[e0,zrv (zx8 (by omega)),<- e0]
    congr 1
    rw[Bool.eq_iff_iff,zx9,zyn,<- e0]
   have hm:(!(((mkC (clB (nx w.r p a))).c0 == (mkC fun k=>decide ((k:Int)=a.cls)).c0) && (((mkC (clB (nx w.r p a))).c1 == (mkC fun k=>decide ((k:Int)=a.cls)).c1) && (((mkC (clB (nx w.r p a))).c2 == (mkC fun k=>decide ((k:Int)=a.cls)).c2) && (((mkC (clB (nx w.r p a))).c3 == (mkC fun k=>decide ((k:Int)=a.cls)).c3) && (((mkC (clB (nx w.r p a))).c4 == (mkC fun k=>decide ((k:Int)=a.cls)).c4) && ((mkC (clB (nx w.r p a))).c5 == (mkC fun k=>decide ((k:Int)=a.cls)).c5)))))))=mvB (nx w.r p a) a.cls:=zyo hc hnx hne (by omega)
   have any_e:∀(g:Stt->Bool),rem.any g=(g a || (l1++l2).any g):=fun g=>by
    rw[he,List.any_append,List.any_cons,List.any_append]
    cases l1.any g <;> cases g a <;> cases l2.any g <;> rfl
   rw[any_e,any_e]
   cases b1 with
   | true=>
    rw[if_pos rfl]
    cases b2 with
    | true=>rw[if_pos rfl,ih,Bool.true_or,Bool.true_or,Bool.true_or,Bool.true_or]
    | false=>rw[if_neg (by decide),hsy,obs,ih,Bool.true_or,Bool.true_or,Bool.false_or]
   | false=>
    rw[if_neg (by decide),zyl (by omega),obs]
    cases b2 with
    | true=>rw[if_pos rfl,hm,ih,Bool.true_or,Bool.true_or,Bool.false_or]
    | false=>rw[if_neg (by decide),hsy,obs,hm,ih,Bool.false_or,Bool.false_or]
  ·subst he;rw[List.any_nil,List.any_nil,Bool.or_false,Bool.or_false];unfold zyp
   cases b1 <;> cases b2 <;> rfl
def zys(r:Rl)(z:Zn)(i:Nat)(p:P4):Int:=zyp ((zyh r z i).any fun q=>mvB (nx r p q) q.cls) ((zyh r z i).any fun q=>syB (nx r p q) q.cls)
theorem zyt{r:Rl}{z:Zn}{i:Nat}{y:Yr}(h:z.Years[i]? = some y):(zxi r z).can[i]? = some (mkP (kB r y)):=by
 show(z.Years.map _)[i]? = _
 rw[List.getElem?_map,h]; rfl
theorem zyu{l l':List Stt}(h:∀q,q∈l↔q∈l')(g:Stt->Bool):l.any g=l'.any g:=by
 rw[Bool.eq_iff_iff,List.any_eq_true,List.any_eq_true];exact exists_congr fun q=>and_congr_left fun _=>h q
theorem zyv{r:Rl}{z:Zn}(h:VZ r z){i:Nat}{y:Yr}(hi:z.Years[i]? = some y):ztv r z (i:Int)=some (zys r z i (mkP (kB r y)),0):=by
 have h6:=h.y6;have hil:=(List.getElem?_eq_some_iff.1 hi).1;unfold ztv;rw[zxl h (by omega),obs,if_pos rfl];have e:zta (zxi r z) (i:Int)=some (mL (zyh r z i)):=zx6 (w:=zxi r z) h.full.rl h.c6 rfl h.st0 (n:=i) (by show i<=(z.Years.map _).length; rw[List.length_map]; omega) (by omega)
 show(ztc (zxi r z) _).bind _=_
 unfold ztc;rw[e,obs]
 have e2:zra (mL (zyh r z i)) (fun ks=>ztb (zxi r z) (i:Int) (mL (zyh r z i)) (ks.length+1) false false ks)=some (zys r z i (mkP (kB r y))):=by
  refine zx2 h.full.rl h.c6 (zyi h) fun ks hks=>?_;rw[zyr (w:=zxi r z) h.full.rl h.c6 rfl (zyi h) (zyt hi) (zyq (h.full.ys y (List.mem_of_getElem? hi))) ks.length (ks.length+1) ks false false rfl (by omega) fun q hq=>(hks q).1 hq,Bool.false_or,Bool.false_or,zyu hks,zyu hks]; rfl
 rw[e2,obs]
theorem zyw{r:Rl}{z:Zn}(h:VZ r z){n:Int}(hn:¬ (0<=n/\n<=(z.Years.length:Int) - 1)):ztv r z n=some (0,2):=by
 obtain⟨w,e⟩:=zxm h hn;unfold ztv;rw[e,obs,if_neg (show ¬ (2:Int)=0 by decide)]
theorem zyx{l:List Int}(h:l ≠ [])(hl:l.length<=1048577):zsj l=some (zrI l):=by
 unfold zsj
 cases l with
 | nil=>exact absurd rfl h
 | cons x l=>
  rw[if_neg (by rw[List.length_cons]; omega),zrx rfl,obs];refine(zrH (l:=x::l) (fun s a=>min s a) (fun d s k=>zsi (x::l) d s k) (fun s=>some s) (fun d k s a hk=>?_) (fun d s=>?_) _ 0 x (Nat.zero_le _) (by omega)).trans ?_
  ·have hkl:=(List.getElem?_eq_some_iff.1 hk).1
   show zsi (x::l) (d+1) s (k:Int)=_
   rw[zsi,if_pos (by omega),zrv hk,obs]
   by_cases hc:a < s
   ·rw[if_pos hc,zqs (fI (by omega)),Int.min_eq_right (by omega)]
   ·rw[if_neg hc,zqs (fI (by omega)),Int.min_eq_left (by omega)]
  ·show zsi (x::l) (d+1) s _=_
   rw[zsi,if_neg (Int.lt_irrefl _)]
  ·rw[List.drop_zero]
   show some (l.foldl min (min x x))=_
   rw[Int.min_self]; rfl
theorem zyy{l:List Int}(h:l ≠ [])(hl:l.length<=1048577):zsl l=some (zrJ l):=by
 unfold zsl
 cases l with
 | nil=>exact absurd rfl h
 | cons x l=>
  rw[if_neg (by rw[List.length_cons]; omega),zrx rfl,obs];refine(zrH (l:=x::l) (fun s a=>max s a) (fun d s k=>zsk (x::l) d s k) (fun s=>some s) (fun d k s a hk=>?_) (fun d s=>?_) _ 1 x (by rw[List.length_cons]; omega) (by rw[List.length_cons]; omega)).trans ?_
  ·have hkl:=(List.getElem?_eq_some_iff.1 hk).1
   show zsk (x::l) (d+1) s (k:Int)=_
   rw[zsk,if_pos (by omega),zrv hk,obs,zqs (fI (by omega))]
  ·show zsk (x::l) (d+1) s _=_
   rw[zsk,if_neg (Int.lt_irrefl _)]
  ·rfl
theorem zyz(f:Nat->Bool)(n:Nat):(zyc f n).Pairwise (· < ·):=by
 unfold zyc;rw[List.pairwise_map]
 exact(List.pairwise_lt_range.filter _).imp fun h=>by omega
theorem zyA{L:List Int}(h:L.Pairwise (· < ·)){i j:Nat}{a c:Int}(hi:L[i]? = some a)(hj:L[j]? = some c)(hij:i<=j):a<=c:=by
 obtain⟨h1,rfl⟩:=List.getElem?_eq_some_iff.1 hi;obtain⟨h2,rfl⟩:=List.getElem?_eq_some_iff.1 hj
 rcases Nat.lt_or_eq_of_le hij with h3 | rfl
 ·exact Int.le_of_lt (List.pairwise_iff_getElem.1 h i j h1 h2 h3)
 ·exact Int.le_refl _
def zyB(r:Rl)(c:Int):Int:=(r.Price[c.toNat]?).getD 0
theorem zyC{r:Rl}(h:zwr r){c:Int}(hc:0<=c/\c<=r.Classes - 1):idx r.Price c=some (zyB r c):=by
 have:=h.pl;unfold zyB;rw[show idx r.Price c=r.Price[c.toNat]? from if_pos hc.1,List.getElem?_eq_getElem (by omega)]; rfl
theorem zyD{r:Rl}(h:zwr r):∀(j i:Nat),i<=j->j < r.Price.length->zyB r (i:Int)<=zyB r (j:Int)
 | 0,i,hi,_=>by rw[show i=0 by omega]; exact Int.le_refl _
 | j+1,i,hi,hj=>by
  rcases Nat.lt_or_eq_of_le hi with h1 | rfl
  ·have h2:=zyD h j i (by omega) (by omega);have g1:=List.getElem?_eq_getElem hj;have g0:=List.getElem?_eq_getElem (show j < r.Price.length by omega);have h3:=h.so (j+1) hj (by omega) _ _ g1 g0;unfold zyB at h2 ⊢;rw[Int.toNat_natCast,Int.toNat_natCast] at h2 ⊢;rw[g0] at h2;rw[g1]
   show _<=r.Price[j+1]
   have h2:_<=r.Price[j]:=h2
   omega
  ·exact Int.le_refl _
theorem zyE{r:Rl}(h:zwr r){a b:Int}(ha:0<=a)(hab:a<=b)(hb:b<=r.Classes - 1):zyB r a<=zyB r b:=by
 have:=h.pl;have:=zyD h b.toNat a.toNat (by omega) (by omega)
 rwa [show(a.toNat:Int)=a by omega,show(b.toNat:Int)=b by omega] at this
theorem zyF{r:Rl}(hc:r.Classes<=6){l:List Stt}(hl:∀q∈l,SOk r q){c:Int}:c∈zyc (clB l) 6↔∃q∈l,q.cls=c:=by
 rw[zye]
 constructor
 ·rintro⟨h1,h2,h3⟩
  obtain⟨q,hq,h4⟩:=zx9.1 h3;exact⟨q,hq,by omega⟩
 ·rintro⟨q,hq,rfl⟩
  have:=(hl q hq).1;exact⟨this.1,by omega,zx9.2 ⟨q,hq,by omega⟩⟩
theorem zyG{r:Rl}{s:Stt}:∀(n:Nat) (cs:List P4),cs.length=n->(∀p∈cs,kl p ≠ [])->∃q,q∈zxS r s cs
 | 0,cs,h,_=>by
  rw[List.eq_nil_of_length_eq_zero h];exact⟨s,List.mem_singleton.2 rfl⟩
 | n+1,cs,h,hc=>by
  have hg:=List.getElem?_eq_getElem (show n < cs.length by omega)
  have e:cs=cs.take n++[cs[n]]:=by rw[<- zxP hg,List.take_of_length_le (by omega)]
  obtain⟨q,hq⟩:=zyG (r:=r) (s:=s) n (cs.take n) (by rw[List.length_take]; omega) fun p hp=>hc p (List.mem_of_mem_take hp);obtain⟨k,hk⟩:=List.exists_mem_of_ne_nil _ (hc _ (List.getElem_mem (show n < cs.length by omega)));exact⟨step r k q,by rw[e,zxU]; exact⟨q,hq,List.mem_map.2 ⟨k,hk,rfl⟩⟩⟩
theorem zyH{r:Rl}{z:Zn}(h:VZ r z):∀p∈(zxi r z).can,kl p ≠ []:=fun p hp=>by
 obtain⟨y,hy,rfl⟩:=List.mem_map.1 (show p∈z.Years.map _ from hp);exact zyq (h.full.ys y hy)
theorem zyI{r:Rl}{z:Zn}(h:VZ r z)(n:Nat):∃q,q∈zyh r z n:=zyG _ _ rfl fun p hp=>zyH h p (List.mem_of_mem_take hp)
def zyJ(r:Rl)(z:Zn)(n:Nat):List Int:=zyc (clB (zyh r z n)) 6
theorem zyK{r:Rl}{z:Zn}(h:VZ r z){n:Nat}{c:Int}:c∈zyJ r z n↔∃q∈zyh r z n,q.cls=c:=zyF h.c6 (zyi h)
theorem zyL{r:Rl}{z:Zn}(h:VZ r z){n:Nat}{c:Int}(hc:c∈zyJ r z n):0<=c/\c<=r.Classes - 1:=by
 obtain⟨q,hq,rfl⟩:=(zyK h).1 hc;exact(zyi h q hq).1
theorem zyM{r:Rl}{z:Zn}(h:VZ r z)(n:Nat):zyJ r z n ≠ []:=fun he=>by
 obtain⟨q,hq⟩:=zyI h n;have:q.cls∈zyJ r z n:=(zyK h).2 ⟨q,hq,rfl⟩
 rw[he] at this; cases this
theorem zyN{r:Rl}{z:Zn}:(zxi r z).can.length=z.Years.length:=List.length_map _
theorem zyO{r:Rl}{z:Zn}(h:VZ r z):ztf (zxi r z)=some ((zyJ r z z.Years.length).map (zyB r)):=by
 have h6:=h.y6;have e:zta (zxi r z) (z.Years.length:Int)=some (mL (zyh r z z.Years.length)):=zx6 (w:=zxi r z) h.full.rl h.c6 rfl h.st0 (n:=z.Years.length) (by rw[zyN]; exact Nat.le_refl _) (by omega);unfold ztf ztd;rw[zyN,e,obs,zyb (r:=r) h.full.rl h.c6 (zyi h),obs,obs,zyg,obs]
 show zte (zxi r z) (zyJ r z z.Years.length) _ _ _=_
 have hl:(zyJ r z z.Years.length).length<=6:=zyf _ _
 exact zrB (l:=zyJ r z z.Years.length) (zyB r) (F:=fun d acc x=>zte (zxi r z) (zyJ r z z.Years.length) d acc x) (fun acc=>some acc) (fun d k acc a hk ha=>by
  have hkl:=(List.getElem?_eq_some_iff.1 hk).1
  show zte _ _ (d+1) _ _=_
  rw[zte,if_pos (by omega),zrv hk,obs,show idx (zxi r z).r.Price a=_ from zyC h.full.rl (zyL h (List.mem_of_getElem? hk)),obs,zqs (by omega),zqs (fI (by omega))]) (fun d acc=>by
  show zte _ _ (d+1) _ _=_
  rw[zte,if_neg (Int.lt_irrefl _)]) (Nat.lt_succ_self _)
theorem zyP{r:Rl}{z:Zn}(h:VZ r z){a b:Int}(ha:(zyJ r z z.Years.length)[0]? = some a)(hb:(zyJ r z z.Years.length)[(zyJ r z z.Years.length).length - 1]? = some b):ztw r z=some (⟨zyB r a,zyB r b⟩,0):=by
 unfold ztw;have hl:(zyJ r z z.Years.length).length<=6:=zyf _ _;have hs:(zyJ r z z.Years.length).Pairwise (· < ·):=zyz _ _;have hbd:∀c∈zyJ r z z.Years.length,0<=c/\c<=r.Classes - 1:=fun c hc=>zyL h hc;rw[zxj h,obs,if_pos rfl,zyO h,obs];generalize zyJ r z z.Years.length=L at ha hb hl hs hbd
 have hne:L.map (zyB r) ≠ []:=fun he=>by
  rw[List.map_eq_nil_iff.1 he] at ha; cases ha
 rw[zyx hne (by rw[List.length_map]; omega),obs,zyy hne (by rw[List.length_map]; omega),obs];obtain⟨m1,m2⟩:=zrM hne;obtain⟨m3,m4⟩:=zrN hne;have ham:=List.mem_of_getElem? ha;have hbm:=List.mem_of_getElem? hb
 have e1:zrI (L.map (zyB r))=zyB r a:=by
  obtain⟨c,hc,he⟩:=List.mem_map.1 m1;obtain⟨i,hi⟩:=List.mem_iff_getElem?.1 hc;have h1:=zyE h.full.rl (hbd a ham).1 (zyA hs ha hi (Nat.zero_le _)) (hbd c hc).2;have h2:=m2 _ (List.mem_map.2 ⟨a,ham,rfl⟩)
  omega
 have e2:zrJ (L.map (zyB r))=zyB r b:=by
  obtain⟨c,hc,he⟩:=List.mem_map.1 m3;obtain⟨i,hi⟩:=List.mem_iff_getElem?.1 hc;have hil:=(List.getElem?_eq_some_iff.1 hi).1;have h1:=zyE h.full.rl (hbd c hc).1 (zyA hs hi hb (by omega)) (hbd b hbm).2;have h2:=m4 _ (List.mem_map.2 ⟨b,hbm,rfl⟩)
  omega
 rw[e1,e2]
def zyQ(r:Rl)(z:Zn)(i:Nat):Bool:=match z.Years[i]? with | some y=>decide (1 < (kl (mkP (kB r y))).length) | none=>false
theorem zyR{l:List Int}(hl:l.length<=1000):zs0 l=some l:=by
 have key:∀(l acc:List Int),l.length+acc.length<=1000->zsY l acc=some (acc++l):=by
  intro l
  induction l with
  | nil=>intro acc _; rw[zsY,List.append_nil]
  | cons a l ih=>
   intro acc h;rw[List.length_cons] at h;rw[zsY,zqs (by omega),ih (acc++[a]) (by rw[List.length_append]; show _+(acc.length+1)<=_; omega),List.append_assoc]; rfl
 unfold zs0 zsZ;rw[key l [] (by simpa using hl),obs]; rfl
theorem zyS(p:P4):(kl p).length<=4:=by
 unfold kl
 cases p with
 | mk a b c d=>cases a <;> cases b <;> cases c <;> cases d <;> decide
theorem zyT{r:Rl}{z:Zn}(h:VZ r z):zth (zxi r z)=some (zyc (zyQ r z) z.Years.length):=by
 have h6:=h.y6;unfold zth;rw[zyN];refine zwo (n:=z.Years.length) (fun d (s:List Int) x=>ztg (zxi r z) d s x) (fun k=>zyc (zyQ r z) k) (fun d k hk=>?_) (fun d=>?_) (z.Years.length+1) 0 (by omega) (by omega)
 ·have hg:=List.getElem?_eq_getElem hk;have hk4:=zyS (mkP (kB r z.Years[k]));have hn:=zyf (zyQ r z) k
  show ztg (zxi r z) (d+1) _ _=_
  rw[ztg,zyN,if_pos (by omega),zrv (zyt hg),obs,zxL,obs,zyR (by omega),obs,zyd]
  have e:zyQ r z k=decide (1 < (kl (mkP (kB r z.Years[k]))).length):=by unfold zyQ; rw[hg]
  by_cases hc:1 < (kl (mkP (kB r z.Years[k]))).length
  ·rw[if_pos (by omega),zqs (by omega),zqs (fI (by omega)),if_pos (by rw[e]; exact decide_eq_true hc)]
  ·rw[if_neg (by omega),zqs (fI (by omega)),if_neg (by rw[e,decide_eq_false hc]; decide),List.append_nil]
 ·show ztg (zxi r z) (d+1) _ _=_
  rw[ztg,zyN,if_neg (Int.lt_irrefl _)]
theorem zyU{r:Rl}{z:Zn}(h:VZ r z):ztx r z=some (zyc (zyQ r z) z.Years.length,0):=by
 unfold ztx;rw[zxj h,obs,if_pos rfl,zyT h,obs]
def zyV:P4:=⟨false,true,true,true⟩
def zyW(r:Rl)(z:Zn)(S:Nat->Bool):List P4:=z.Years.mapIdx fun i y=>if (S i && zwK r y)=true then zyV else mkP (kB r y)
theorem zyX{r:Rl}{z:Zn}{S:Nat->Bool}{i:Nat}{y:Yr}(h:z.Years[i]? = some y):(zyW r z S)[i]? = some (if (S i && zwK r y)=true then zyV else mkP (kB r y)):=by
 unfold zyW;rw[List.getElem?_mapIdx,h]; rfl
theorem zyY{r:Rl}{z:Zn}{S:Nat->Bool}:(zyW r z S).length=z.Years.length:=by
 unfold zyW;rw[List.length_mapIdx]
theorem zyZ{r:Rl}{z:Zn}{S:Nat->Bool}{cs:List P4}(hl:cs.length=z.Years.length)(h:∀i y,z.Years[i]? = some y->cs[i]? = some (if (S i && zwK r y)=true then zyV else mkP (kB r y))):cs=zyW r z S:=by
 refine List.ext_getElem? fun i=>?_
 rcases Nat.lt_or_ge i z.Years.length with hi | hi
 ·have hg:=List.getElem?_eq_getElem hi;rw[h i _ hg,zyX hg]
 ·rw[List.getElem?_eq_none (by omega),List.getElem?_eq_none (by rw[zyY]; exact hi)]
theorem zy0{r:Rl}{z:Zn}:(zxi r z).can=zyW r z fun _=>false:=zyZ zyN fun i y hy=>by
 rw[zyt hy,if_neg (by simp)]
def zy1(r:Rl)(z:Zn)(S:Nat->Bool):Wk:={ r:=r,zone:=z,kinds:=zxc,can:=zyW r z S }
theorem zy2{L:List Int}{k:Nat}{v:Int}(hv:L[k]? = some v)(j:Nat):inD (L.take (k+1)) j=(inD (L.take k) j || decide ((j:Int)=v)):=by
 unfold inD;rw[zxP hv,Bool.eq_iff_iff,Bool.or_eq_true,decide_eq_true_eq,decide_eq_true_eq,decide_eq_true_eq,List.mem_append,List.mem_singleton]
theorem zy3{r:Rl}{z:Zn}{S:Nat->Bool}{v:Nat}{y:Yr}(hv:z.Years[v]? = some y)(hc:zwK r y=true):(zyW r z S).set v zyV=zyW r z fun j=>S j || decide ((j:Int)=(v:Int)):=by
 refine zyZ (by rw[List.length_set]; exact zyY) fun i y' hy=>?_
 by_cases h:v=i
 ·subst h
  rw[hv] at hy; cases hy
  rw[List.getElem?_set_self (by rw[zyY]; exact(List.getElem?_eq_some_iff.1 hv).1),decide_eq_true rfl,Bool.or_true,hc]; rfl
 ·rw[List.getElem?_set_ne h,zyX hy,decide_eq_false (by omega),Bool.or_false]
theorem zy4{r:Rl}{z:Zn}{S:Nat->Bool}{v:Nat}{y:Yr}(hv:z.Years[v]? = some y)(hc:zwK r y=false):zyW r z S=zyW r z fun j=>S j || decide ((j:Int)=(v:Int)):=by
 refine zyZ zyY fun i y' hy=>?_;rw[zyX hy]
 by_cases h:v=i
 ·subst h
  rw[hv] at hy; cases hy
  rw[hc,Bool.and_false,Bool.and_false]
 ·rw[decide_eq_false (by omega),Bool.or_false]
theorem zy5{r:Rl}{z:Zn}(h:VZ r z){L:List Int}(hL:∀v∈L,0<=v/\v < z.Years.length)(hl:L.length<=1000):ztk (zxi r z) L=some (zy1 r z (inD L)):=by
 have h6:=h.y6;unfold ztk zti;have hcl:=zyN (r:=r) (z:=z);rw[zqs (by rw[List.length_nil]; omega),obs,List.nil_append,zy0];refine zwo (n:=L.length) (fun d (s:List P4) x=>ztj (zxi r z) L d r.Classes r.Good r.Bad r.Rest r.Fewest z.First s x) (fun k=>zyW r z (inD (L.take k))) (fun d k hk=>?_) (fun d=>?_) (L.length+1) 0 (by omega) (by omega)
 ·have hg:=List.getElem?_eq_getElem hk;have hv:=hL _ (List.getElem_mem hk);generalize L[k]=v at hg hv;have hy:=List.getElem?_eq_getElem (show v.toNat < z.Years.length by omega)
  have ev:((v.toNat:Nat):Int)=v:=by omega
  show ztj (zxi r z) L (d+1) _ _ _ _ _ _ _ _=_
  have e1:idx (zxi r z).zone.Years v=some (z.Years[v.toNat]'(by omega)):=by
   have:=zrv hy
   rwa [ev] at this
  have e2:=zyX (r:=r) (S:=inD (L.take k)) hy;have e3:=zrv e2;rw[ev] at e3
  have e4:(fun j=>inD (L.take k) j || decide ((j:Int)=((v.toNat:Nat):Int)))=inD (L.take (k+1)):=funext fun j=>by rw[zy2 hg,ev]
  rw[ztj,if_pos (by omega),zrv hg,obs,e1,obs,zwL,obs]
  show(if zwK r _=true then _ else _)=_
  by_cases hc:zwK r (z.Years[v.toNat]'(by omega))=true
  ·rw[if_pos hc]
   show((idx (zyW r z (inD (L.take k))) v).bind _)=_
   rw[e3,obs,zqs (fI (by omega))]
   show ztj (zxi r z) L d _ _ _ _ _ _ ((zyW r z (inD (L.take k))).set v.toNat zyV) _=_
   rw[zy3 hy hc,e4]
  ·rw[if_neg hc,zqs (fI (by omega)),<- e4,<- zy4 hy (by simpa using hc)]
 ·show ztj (zxi r z) L (d+1) _ _ _ _ _ _ _ _=_
  rw[ztj,if_neg (Int.lt_irrefl _),List.take_length]; rfl
def zy6(r:Rl)(z:Zn)(S:Nat->Bool)(n:Nat):List Stt:=zxS r (st0 r z) ((zyW r z S).take n)
theorem zy7{r:Rl}{z:Zn}(h:VZ r z){S:Nat->Bool}{n:Nat}:∀q∈zy6 r z S n,SOk r q:=zxV h.full.rl h.st0
theorem zy8{r:Rl}{z:Zn}(h:VZ r z){S:Nat->Bool}:ztd (zy1 r z S)=some (mkC (clB (zy6 r z S z.Years.length))):=by
 have h6:=h.y6;unfold ztd;have e:zta (zy1 r z S) (z.Years.length:Int)=some (mL (zy6 r z S z.Years.length)):=zx6 (w:=zy1 r z S) h.full.rl h.c6 rfl h.st0 (n:=z.Years.length) (by show z.Years.length<=(zyW r z S).length; rw[zyY]; exact Nat.le_refl _) (by omega);rw[show((zy1 r z S).can.length:Int)=(z.Years.length:Int) from by show((zyW r z S).length:Int)=_; rw[zyY],e,obs,zyb (r:=r) h.full.rl h.c6 (zy7 h),obs]
def zy9(r:Rl)(z:Zn)(c:Nat)(S:Nat->Bool):Bool:=clB (zy6 r z S z.Years.length) c
theorem zza{r:Rl}{z:Zn}(h:VZ r z){c:Nat}(hc:c < 6){L:List Int}(hL:Inc z.Years.length 0 L):ztn (zxi r z) (c:Int) L=some (zy9 r z c (inD L)):=by
 have h6:=h.y6;have hll:=zwi hL;unfold ztn;rw[zy5 h (fun v hv=>by have:=hL.2 v hv; omega) (by omega),obs,zy8 h,obs,zrv (zx8 hc)]; rfl
def zzb(r:Rl)(z:Zn)(c:Nat)(L:List Int):Bool:=zy9 r z c (inD L)
theorem zzc{r:Rl}{z:Zn}(h:VZ r z){c:Nat}(hc:c < 6):zto (zxi r z) (c:Int)=some (zrm z.Years.length (zzb r z c),((zoi z.Years.length).find? (zzb r z c)).isSome):=by
 have h6:=h.y6;unfold zto;rw[zyN,zqs ⟨by omega,fun L hL=>by rw[zza h hc (zwj.1 hL)]; rfl⟩]
 have e:∀L∈zoi z.Years.length,((ztn (zxi r z) (c:Int) L).getD false)=zzb r z c L:=fun L hL=>by rw[zza h hc (zwj.1 hL)]; rfl
 have e2:(zoi z.Years.length).find? (fun L=>(ztn (zxi r z) (c:Int) L).getD false)=(zoi z.Years.length).find? (zzb r z c):=by
  have key:∀l:List (List Int),(∀L∈l,((ztn (zxi r z) (c:Int) L).getD false)=zzb r z c L)->l.find? (fun L=>(ztn (zxi r z) (c:Int) L).getD false)=l.find? (zzb r z c):=by
   intro l
   induction l with
   | nil=>intro _; rfl
   | cons a l ih=>
    intro hl;rw[List.find?_cons,List.find?_cons,hl a (List.mem_cons_self ..),ih fun L hL=>hl L (List.mem_cons_of_mem _ hL)]
  exact key _ e
 unfold zrm;rw[e2]
theorem zzd{r:Rl}(h:zwr r)(hc:r.Classes<=6){c:Int}:Ev (zsE r c) (0<=c/\c<=r.Classes - 1):=by
 have:=h.c0;unfold zsE;refine Ev.gd (fI (by omega)) ?_;exact(show Ev (zsf ⟨0,r.Classes - 1⟩ c) _ from zww).ret
theorem zze{r:Rl}{z:Zn}(h:VZ r z){c:Nat}(hc:(c:Int)<=r.Classes - 1)(hn:∀L,Inc z.Years.length 0 L->zzb r z c L=false):zty r z (c:Int)=some ([],7):=by
 have hc6:=h.c6;unfold zty;rw[zxj h,obs,if_pos rfl,(zzd h.full.rl h.c6).some_of ⟨by omega,hc⟩,obs,if_pos rfl,zzc h (by omega),obs]
 have e:(zoi z.Years.length).find? (zzb r z c)=none:=List.find?_eq_none.2 fun L hL=>by rw[hn L (zwj.1 hL)]; decide
 rw[e]; rfl
theorem zzf{r:Rl}{z:Zn}(h:VZ r z){c:Nat}(hc:(c:Int)<=r.Classes - 1)(hn:∃L,Inc z.Years.length 0 L/\zzb r z c L=true):zty r z (c:Int)=some (zrm z.Years.length (zzb r z c),0):=by
 have hc6:=h.c6;unfold zty;rw[zxj h,obs,if_pos rfl,(zzd h.full.rl h.c6).some_of ⟨by omega,hc⟩,obs,if_pos rfl,zzc h (by omega),obs];obtain⟨L,h1,h2⟩:=hn
 have e:((zoi z.Years.length).find? (zzb r z c)).isSome=true:=by
  rw[List.find?_isSome];exact⟨L,zwj.2 h1,h2⟩
 rw[e]; rfl
theorem zzg{r:Rl}{z:Zn}(h:VZ r z){c:Int}(hc:¬ (0<=c/\c<=r.Classes - 1)):zty r z c=some ([],2):=by
 unfold zty;rw[zxj h,obs,if_pos rfl,(zzd h.full.rl h.c6).some_not hc,obs,if_neg (by decide)]
theorem zzh{a b:List Int}(hl:a.length<=1000):∀(d k:Nat),k<=a.length->a.length - k < d->zsa a b d (k:Int)=some (bef (a.drop k) (b.drop k))
 | 0,_,_,h=>by omega
 | d+1,k,hk,h=>by
  rw[zsa]
  by_cases hka:k < a.length
  ·rw[if_pos (by omega)];have da:=List.drop_eq_getElem_cons hka;have ga:=List.getElem?_eq_getElem hka
   by_cases hkb:k < b.length
   ·have db:=List.drop_eq_getElem_cons hkb;have gb:=List.getElem?_eq_getElem hkb;rw[if_pos (by omega),zrv ga,obs,zrv gb,obs,da,db];unfold bef
    by_cases he:a[k]=b[k]
    ·rw[if_pos he,if_pos he,zqs (fI (by omega)),show(k:Int)+1=((k+1:Nat):Int) by omega];exact zzh hl d (k+1) (by omega) (by omega)
    ·rw[if_neg he,if_neg he,obs,obs]
   ·rw[if_neg (by omega),da,List.drop_eq_nil_of_le (show b.length<=k by omega),decide_eq_false (by omega)]; rfl
  ·rw[if_neg (by omega),List.drop_eq_nil_of_le (show a.length<=k by omega)]
   by_cases hkb:k < b.length
   ·rw[List.drop_eq_getElem_cons hkb,decide_eq_true (by omega)]; rfl
   ·rw[List.drop_eq_nil_of_le (show b.length<=k by omega),decide_eq_false (by omega)]; rfl
theorem zzi{a b:List Int}(hl:a.length<=1000):zsb a b=some (bef a b):=zzh hl (a.length+1) 0 (Nat.zero_le _) (by omega)
theorem zzj{l:List Int}{cs:List P4}(h:Fit l cs)(m:Nat):Fit (l.take m) (cs.take m):=by
 refine⟨by rw[List.length_take,List.length_take,h.1],fun i k p hi hp=>?_⟩;rw[List.getElem?_take] at hi hp
 by_cases hm:i < m
 ·rw[if_pos hm] at hi hp; exact h.2 i k p hi hp
 ·rw[if_neg hm] at hi; cases hi
theorem zzk{cs:List P4}(hc:∀p∈cs,kl p ≠ []){m:Nat}:∀(n:Nat) {l:List Int},n+m=cs.length->Fit l (cs.take m)->∃l',Fit l' cs/\l'.take m=l
 | 0,l,hn,h=>⟨l,by rwa [List.take_of_length_le (by omega)] at h,by rw[List.take_of_length_le (by have:=h.1; rw[List.length_take] at this; omega)]⟩
 | n+1,l,hn,h=>by
  have hg:=List.getElem?_eq_getElem (show m < cs.length by omega);obtain⟨k,hk⟩:=List.exists_mem_of_ne_nil _ (hc _ (List.getElem_mem (show m < cs.length by omega)));obtain⟨l',h1,h2⟩:=zzk hc (m:=m+1) n (l:=l++[k]) (by omega) (by rw[zxP hg,zxQ]; exact⟨l,k,h,hk,rfl⟩);refine⟨l',h1,?_⟩;have hl:=h.1;rw[List.length_take] at hl;have e:=congrArg (List.take m) h2;rw[List.take_take,Nat.min_eq_left (by omega),List.take_left' (by omega)] at e;exact e
def mvL(r:Rl)(z:Zn)(i:Nat)(l:List Int):Bool:=(zw3 r (st0 r z) (l.take (i+1))).cls != (zw3 r (st0 r z) (l.take i)).cls
theorem zzl{r:Rl}{z:Zn}(h:VZ r z){i:Nat}{y:Yr}(hi:z.Years[i]? = some y):((zyh r z i).any fun q=>mvB (nx r (mkP (kB r y)) q) q.cls)=true↔∃l∈zxM (zxi r z).can,mvL r z i l=true:=by
 have hil:=(List.getElem?_eq_some_iff.1 hi).1;have hcan:=zyt (r:=r) hi;rw[List.any_eq_true]
 constructor
 ·rintro⟨q,hq,h1⟩
  obtain⟨q',hq',h2⟩:=zym.1 h1;obtain⟨ks,h3,rfl⟩:=zxT.1 hq;obtain⟨k,h4,rfl⟩:=List.mem_map.1 hq';obtain⟨l,h5,h6⟩:=zzk (zyH h) (m:=i+1) (z.Years.length - (i+1)) (l:=ks++[k]) (by rw[zyN]; omega) (by rw[zxP hcan,zxQ]; exact⟨ks,k,h3,h4,rfl⟩);refine⟨l,(zxR _).2 h5,?_⟩
  have hkl:ks.length=i:=by rw[h3.1,List.length_take,zyN]; omega
  have e:=congrArg (List.take i) h6;rw[List.take_take,Nat.min_eq_left (by omega),List.take_left' hkl] at e;unfold mvL;rw[h6,e,zw7];exact bne_iff_ne.2 h2
 ·rintro⟨l,hl,h1⟩
  have hf:=(zxR _).1 hl
  have hll:l.length=z.Years.length:=by rw[hf.1,zyN]
  have hg:=List.getElem?_eq_getElem (show i < l.length by omega);refine⟨zw3 r (st0 r z) (l.take i),zxT.2 ⟨l.take i,zzj hf i,rfl⟩,zym.2 ⟨_,List.mem_map.2 ⟨l[i],hf.2 i _ _ hg hcan,rfl⟩,?_⟩⟩;unfold mvL at h1;rw[zxy hg] at h1;exact bne_iff_ne.1 h1
theorem zzm{r:Rl}{z:Zn}(h:VZ r z){i:Nat}{y:Yr}(hi:z.Years[i]? = some y):((zyh r z i).any fun q=>syB (nx r (mkP (kB r y)) q) q.cls)=true↔∃l∈zxM (zxi r z).can,mvL r z i l=false:=by
 have hil:=(List.getElem?_eq_some_iff.1 hi).1;have hcan:=zyt (r:=r) hi;rw[List.any_eq_true]
 constructor
 ·rintro⟨q,hq,h1⟩
  obtain⟨q',hq',h2⟩:=zyn.1 h1;obtain⟨ks,h3,rfl⟩:=zxT.1 hq;obtain⟨k,h4,rfl⟩:=List.mem_map.1 hq';obtain⟨l,h5,h6⟩:=zzk (zyH h) (m:=i+1) (z.Years.length - (i+1)) (l:=ks++[k]) (by rw[zyN]; omega) (by rw[zxP hcan,zxQ]; exact⟨ks,k,h3,h4,rfl⟩);refine⟨l,(zxR _).2 h5,?_⟩
  have hkl:ks.length=i:=by rw[h3.1,List.length_take,zyN]; omega
  have e:=congrArg (List.take i) h6;rw[List.take_take,Nat.min_eq_left (by omega),List.take_left' hkl] at e;unfold mvL;rw[h6,e,zw7];exact bne_eq_false_iff_eq.2 h2
 ·rintro⟨l,hl,h1⟩
  have hf:=(zxR _).1 hl
  have hll:l.length=z.Years.length:=by rw[hf.1,zyN]
  have hg:=List.getElem?_eq_getElem (show i < l.length by omega);refine⟨zw3 r (st0 r z) (l.take i),zxT.2 ⟨l.take i,zzj hf i,rfl⟩,zyn.2 ⟨_,List.mem_map.2 ⟨l[i],hf.2 i _ _ hg hcan,rfl⟩,?_⟩⟩;unfold mvL at h1;rw[zxy hg] at h1;exact bne_eq_false_iff_eq.1 h1
theorem zzn{l:List Int}{n:Int}(hl:l.length<=1000):Ev (zsd l n) (n∈l):=by
 have key:=zrE (l:=l) (F:=fun d x=>zsc l n d x) (ok:=fun a=>¬ a=n) (bad:=some true) (fin:=some false) (fun d k a ha=>by
  have hk:=(List.getElem?_eq_some_iff.1 ha).1
  show(_->zsc l n (d+1) _=_)/\(_->zsc l n (d+1) _=_)
  rw[zsc,if_pos (by omega),zrv ha,obs]
  refine⟨fun h=>by rw[if_neg h,zqs (fI (by omega))],fun h=>by rw[if_pos (Classical.not_not.1 h)]⟩) (fun d=>by show zsc l n (d+1) _=_; rw[zsc,if_neg (Int.lt_irrefl _)]) (d:=l.length+1) (by omega)
 unfold zsd
 by_cases h:n∈l
 ·rw[key.2 fun q=>q n h rfl]; exact Ev.tt h
 ·rw[key.1 fun a ha he=>h (he ▸ ha)]; exact Ev.ff h
theorem zzo{a b:List Int}(ha:a.length<=1000):Ev (zse a b) (a=b):=by
 unfold zse
 by_cases hl:a.length=b.length
 ·rw[if_pos (by omega),zzi ha,obs]
  rcases zwm a b with h | h | h
  ·subst h;rw[zwk,if_neg (by decide),zzi ha,zwk,obs]; exact Ev.tt rfl
  ·rw[h,if_pos rfl]
   exact Ev.ff fun he=>by subst he; rw[zwk] at h; cases h
  ·rw[zwl h,if_neg (by decide),zzi (by omega),h,obs]
   exact Ev.ff fun he=>by subst he; rw[zwk] at h; cases h
 ·rw[if_neg (by omega)]; exact Ev.ff fun he=>hl (by rw[he])
theorem zzp{a:List Int}(ha:a.length<=1000):zse a a=some true:=(zzo ha).some_of rfl
theorem zzq{l:List Int}(hl:l.length<=1000):ztA l=some l:=by
 unfold ztA;rw[zqs (by rw[List.length_nil]; omega)]; rfl
theorem zzr{r:Rl}(h:r.Price.length<=1000):ztC r=some r:=by
 unfold ztC;rw[zzq h,obs]
theorem zzs{z:Zn}(h:z.Years.length<=1000):ztE z=some z:=by
 unfold ztE
 exact(zrB (l:=z.Years) id (F:=fun d acc x=>ztD z d z.First acc x) (fun acc=>some ({ First:=z.First,Years:=acc }:Zn)) (fun d k acc a hk ha=>by
  have hkl:=(List.getElem?_eq_some_iff.1 hk).1
  show ztD z (d+1) _ _ _=_
  rw[ztD,if_pos (by omega),zrv hk,obs]
  show gd _ _=_
  rw[zqs (by omega),zqs (fI (by omega))]; rfl) (fun d acc=>by
  show ztD z (d+1) _ _ _=_
  rw[ztD,if_neg (Int.lt_irrefl _)]) (d:=1000000) (by omega)).trans (by rw[List.map_id])
theorem zzt{t:Tr}(h1:t.Losses.length<=1000)(h2:t.Premiums.length<=1000):ztF t=some t:=by
 unfold ztF;rw[zzq h1,obs,zzq h2,obs]
theorem zzu{r:Rl}{z:Zn}:Ev (ztG r z) (r.Price.length<=9/\z.Years.length<=9):=by
 unfold ztG;exact(Ev.ite fun _=>Ev.dec Iff.rfl).imp (by omega)
theorem zzv{r:Rl}{z:Zn}(h1:r.Price.length<=1000)(h2:z.Years.length<=1000):ztH r z=some (zwu r z):=by
 unfold ztH;rw[zwJ h1 h2,obs]
theorem zzw{r:Rl}{z:Zn}:Ev (ztM r z) (VZ r z):=by
 unfold ztM;refine(zzu.and (K:=VZ r z) fun ht=>?_).imp ⟨fun h=>h.2,fun h=>⟨?_,h⟩⟩
 ·rw[zzv (by omega) (by omega),obs];exact Ev.dec zwv
 ·have h1:=h.full.rl.pl;have h2:=h.c6;have h3:=h.y6
  omega
theorem VZ.pl{r:Rl}{z:Zn}(h:VZ r z):r.Price.length<=6:=by
 have h1:=h.full.rl.pl;have h2:=h.c6
 omega
theorem zzx{r:Rl}{z:Zn}(h:VZ r z):ztC r=some r:=zzr (by have:=h.pl; omega)
theorem zzy{r:Rl}{z:Zn}(h:VZ r z):ztE z=some z:=zzs (by have:=h.y6; omega)
def zzz:Rl:={ Classes:=4,Good:=40,Bad:=120,Rest:=1,Fewest:=5,Price:=[10,20,40,80] }
def yrN(a b c d p:Int):Yr:={ Losses:=⟨a,b⟩,Premiums:=⟨c,d⟩,Parcels:=p,Exempt:=false }
def zzA:Zn:={ First:=1,Years:=[yrN 50 50 100 102 9,yrN 130 131 108 109 9,yrN 10 10 100 100 3,yrN 30 30 100 100 9,yrN 39 41 100 100 9] }
theorem zzB:ztJ=some zzz:=rfl
theorem zzC:ztK=some zzA:=rfl
theorem zzD{r:Rl}{z:Zn}(h1:1<=r.Classes/\r.Classes<=6)(h2:(r.Price.length:Int)=r.Classes)(h3:0<=r.Good/\r.Good<=r.Bad/\r.Bad<=300)(h4:0<=r.Rest/\r.Rest<=4)(h5:0<=r.Fewest/\r.Fewest<=100)(h6:∀x∈r.Price,1<=x/\x<=10000)(h7:r.Price.Pairwise (·<=·))(h8:0<=z.First/\z.First<=r.Classes - 1)(h9:∀y∈z.Years,zwp y)(h10:z.Years.length<=6):VZ r z:=
 ⟨⟨⟨h1.1,h2,h3,h4,h5,h6,fun j hj h0 x y hx hy=>by
  obtain⟨q1,rfl⟩:=List.getElem?_eq_some_iff.1 hx;obtain⟨q2,rfl⟩:=List.getElem?_eq_some_iff.1 hy;have:=List.pairwise_iff_getElem.1 h7 (j - 1) j q2 q1 (by omega)
  omega⟩,h8,h9⟩,h1.2,h10⟩
instance (r:Rg):Decidable (RgP r):=by unfold RgP; infer_instance
instance (y:Yr):Decidable (zwp y):=by unfold zwp; infer_instance
theorem vEx:VZ zzz zzA:=zzD (by decide) (by decide) (by decide) (by decide) (by decide) (by decide) (by decide) (by decide) (by decide) (by decide)
theorem zzE:zyc (clB (zyh zzz zzA 4)) 6=[0,2]:=by decide +kernel
theorem zzF:zyJ zzz zzA 5=[0,1,2]:=by decide +kernel
theorem zzG:zys zzz zzA 0 (mkP (kB zzz (yrN 50 50 100 102 9)))=2:=by decide +kernel
theorem zzH:zys zzz zzA 3 (mkP (kB zzz (yrN 30 30 100 100 9)))=3:=by decide +kernel
theorem zzI:zyc (zyQ zzz zzA) 5=[1,4]:=by decide +kernel
theorem zzJ:zzb zzz zzA 3 [0]=true:=by decide +kernel
theorem zzK:zrm 5 (zzb zzz zzA 3)=[0]:=by decide +kernel
theorem zzL:ztL=some true:=by
 have e1:ztu zzz zzA 3=some ([0,2],0):=(zyj vEx (i:=3) (by decide)).trans (by rw[zzE]);have e2:ztu zzz zzA 4=some ([0,1,2],0):=(zyj vEx (i:=4) (by decide)).trans (by rw[show zyc (clB (zyh zzz zzA (4+1))) 6=[0,1,2] from zzF]);have e3:ztv zzz zzA 0=some (2,0):=(zyv vEx (i:=0) (y:=yrN 50 50 100 102 9) rfl).trans (by rw[zzG]);have e4:ztv zzz zzA 3=some (3,0):=(zyv vEx (i:=3) (y:=yrN 30 30 100 100 9) rfl).trans (by rw[zzH]);have e5:ztw zzz zzA=some (⟨10,40⟩,0):=(zyP vEx (a:=0) (b:=2) (by rw[show zyJ zzz zzA zzA.Years.length=[0,1,2] from zzF]; rfl) (by rw[show zyJ zzz zzA zzA.Years.length=[0,1,2] from zzF]; rfl)).trans rfl;have e6:ztx zzz zzA=some ([1,4],0):=(zyU vEx).trans (by rw[show zyc (zyQ zzz zzA) zzA.Years.length=[1,4] from zzI]);have e7:zty zzz zzA 3=some ([0],0):=(zzf vEx (c:=3) (by decide) ⟨[0],⟨by decide,fun v hv=>by rw[List.mem_singleton.1 hv]; decide⟩,zzJ⟩).trans (by rw[show zrm zzA.Years.length (zzb zzz zzA 3)=[0] from zzK]);have s1:zse [0,2] [0,2]=some true:=zzp (by decide);have s2:zse [0,1,2] [0,1,2]=some true:=zzp (by decide);have s3:zse [1,4] [1,4]=some true:=zzp (by decide);have s4:zse [0] [0]=some true:=zzp (by decide);have b1:ztI 10 40=some ⟨10,40⟩:=rfl;unfold ztL
 simp only[zzB,zzC,obs,e1,e2,e3,e4,e5,e6,e7,s1,s2,s3,s4,b1,if_true]
 rw[zqs (fI (by decide)),zqs (fI (by decide)),zqs (fI (by decide)),zqs (fI (by decide))]
 simp
theorem aw:(ztL.bind fun r=>some r)=some true:=by rw[zzL]; rfl
theorem zzM{r:Rl}{z:Zn}(h:VZ r z){c:Int}(hc:c∈zyJ r z z.Years.length):zl6 .i64 (zyB r c):=by
 have hb:=zyL h hc;have hp:=zyC h.full.rl hb;obtain⟨n,h1,h2,h3⟩:=zqk hp;have:=h.full.rl.pr _ (List.mem_of_getElem? h3);exact fI (by omega)
theorem zzN{r:Rl}{z:Zn}(h:VZ r z)(n:Nat):∃a b,(zyJ r z n)[0]? = some a/\(zyJ r z n)[(zyJ r z n).length - 1]? = some b:=by
 have hl:0 < (zyJ r z n).length:=List.length_pos_iff.2 (zyM h n);exact⟨_,_,List.getElem?_eq_getElem hl,List.getElem?_eq_getElem (by omega)⟩
theorem zzO{r:Rl}(hc:r.Classes<=6){q:Stt}(hq:SOk r q):zyc (clB [q]) 6=[q.cls]:=by
 refine zwn (zyz _ _) (List.pairwise_singleton _ _) fun v=>?_;rw[zyF (r:=r) hc (fun q' h=>by rw[List.mem_singleton.1 h]; exact hq),List.mem_singleton];exact⟨fun⟨q',h1,h2⟩=>by rw[<- h2,List.mem_singleton.1 h1],fun h=>⟨q,List.mem_singleton.2 rfl,h.symm⟩⟩
theorem zzP{w:Int}{r:Rg}(hw:0<=w)(h:r.Lo<=r.Hi):(0<=w % (r.Hi - r.Lo+1)/\w % (r.Hi - r.Lo+1) < r.Hi - r.Lo+1):=⟨Int.emod_nonneg _ (by omega),Int.emod_lt_of_pos _ (by omega)⟩
theorem zzQ{r:Rl}{z:Zn}(h:VZ r z){words:List W8}(hw:words.length<=maxLen/\∀a∈words,zrX a):∀(d k:Nat) (a b:List Int),k<=z.Years.length->z.Years.length - k < d->a.length=k->b.length=k->(∀j,zxn z ⟨a,b⟩ j) ->
  ∃t,ztN z words d a b (k:Int)=some t/\zxo z t
 | 0,k,_,_,_,hd,_,_,_=>by omega
 | d+1,k,a,b,hk,hd,ha,hb,hab=>by
  have h6:=h.y6
  by_cases hkn:k < z.Years.length
  ·have hg:=List.getElem?_eq_getElem hkn;have hy:=h.full.ys _ (List.getElem_mem hkn);obtain⟨q1,q2,_⟩:=hy;unfold RgP at q1 q2
   have hnext:∀u v:Int,0<=u->0<=v->∃t,ztN z words d (a++[(z.Years[k]).Losses.Lo+u % ((z.Years[k]).Losses.Hi - (z.Years[k]).Losses.Lo+1)]) (b++[(z.Years[k]).Premiums.Lo+v % ((z.Years[k]).Premiums.Hi - (z.Years[k]).Premiums.Lo+1)]) ((k:Int)+1)=some t/\zxo z t:=fun u v hu hv=>by
    have m1:=zzP hu q1.2.1;have m2:=zzP hv q2.2.1;rw[show(k:Int)+1=((k+1:Nat):Int) by omega];refine zzQ h hw d (k+1) _ _ (by omega) (by omega) (by rw[List.length_append,ha]; rfl) (by rw[List.length_append,hb]; rfl) fun j y x p hy hx hp=>?_
    rcases Nat.lt_or_ge j k with hj | hj
    ·have hx:(a++_)[j]? = some x:=hx;have hp:(b++_)[j]? = some p:=hp;rw[List.getElem?_append_left (by omega)] at hx hp;exact hab j y x p hy hx hp
    ·have hj2:=(List.getElem?_eq_some_iff.1 hx).1;have hj2:j < (a++[_]).length:=hj2;rw[List.length_append,ha] at hj2
     have e:j=k:=by simp only[List.length_cons,List.length_nil] at hj2; omega
     subst e;have hx:(a++_)[j]? = some x:=hx;have hp:(b++_)[j]? = some p:=hp;rw[List.getElem?_append_right (by omega),ha,Nat.sub_self] at hx;rw[List.getElem?_append_right (by omega),hb,Nat.sub_self] at hp
     cases hx; cases hp
     rw[hg] at hy; cases hy
     omega
   have ga:a.length < 1048576:=by omega
   have gb:b.length < 1048576:=by omega
   rw[ztN,if_pos (by omega)]
   by_cases h0:0 < words.length
   ·have hm:words.length<=1048576\/True:=.inr trivial;have e1:=Int.emod_nonneg (2 * (k:Int)) (show(words.length:Int) ≠ 0 by omega);have e2:=Int.emod_lt_of_pos (2 * (k:Int)) (show(0:Int) < (words.length:Int) by omega);have e3:=Int.emod_nonneg (2 * (k:Int)+1) (show(words.length:Int) ≠ 0 by omega);have e4:=Int.emod_lt_of_pos (2 * (k:Int)+1) (show(0:Int) < (words.length:Int) by omega);have hlw:words.length<=maxLen:=hw.1;unfold maxLen at hlw;obtain⟨u,hu⟩:∃u,idx words (2 * (k:Int) % (words.length:Int))=some u:=⟨_,zrw (k:=(2 * (k:Int) % (words.length:Int)).toNat) (by omega) (by omega)⟩;obtain⟨v,hv⟩:∃v,idx words ((2 * (k:Int)+1) % (words.length:Int))=some v:=⟨_,zrw (k:=((2 * (k:Int)+1) % (words.length:Int)).toNat) (by omega) (by omega)⟩
    have ou:∀w i,idx words i=some w->0<=w.v/\w.v < 256:=fun w i hi=>by
     obtain⟨n,_,_,hn⟩:=zqk hi;exact fU8 (hw.2 w (List.mem_of_getElem? hn))
    have u1:=ou u _ hu;have v1:=ou v _ hv;have wu1:zmb .i64 u.v=u.v:=wz (fI (by omega));have wv1:zmb .i64 v.v=v.v:=wz (fI (by omega));have m1:=zzP (w:=u.v) u1.1 q1.2.1;have m2:=zzP (w:=v.v) v1.1 q2.2.1
    rw[if_pos (by omega),zqs (by omega),zqs (by omega),zqs (fI (by omega)),zqs (by omega),zqs (by omega),zqs (fI (by omega)),hu,obs,zqs (by omega),zqs (by omega),zqs (fI (by omega)),zqs (fI (by omega)),zqs (by omega),zqs (by omega),zqs (fI (by omega)),hv,obs,zrv hg,obs,wu1,wv1,
     zqs (fI (by omega)),zqs (fI (by omega)),zqs u1.1,zqs (by omega),zqs (fI (by omega)),zqs (fI (by omega)),zqs ga,zqs (fI (by omega)),zqs (fI (by omega)),zqs v1.1,zqs (by omega),zqs (fI (by omega)),zqs (fI (by omega)),zqs gb,zqs (fI (by omega))]
    exact hnext u.v v.v u1.1 v1.1
   ·have m1:=zzP (w:=0) (Int.le_refl 0) q1.2.1;have m2:=zzP (w:=0) (Int.le_refl 0) q2.2.1;rw[if_neg (by omega),zrv hg,obs,zqs (fI (by omega)),zqs (fI (by omega)),zqs (by omega),zqs (by omega),zqs (fI (by omega)),zqs (fI (by omega)),zqs ga,zqs (fI (by omega)),zqs (fI (by omega)),zqs (by omega),zqs (by omega),zqs (fI (by omega)),zqs (fI (by omega)),zqs gb,zqs (fI (by omega))];exact hnext 0 0 (Int.le_refl 0) (Int.le_refl 0)
  ·rw[ztN,if_neg (by omega)];exact⟨_,rfl,by show a.length=_; omega,by show b.length=_; omega,hab⟩
theorem zzR{r:Rl}{z:Zn}(h:VZ r z){words:List W8}(hw:words.length<=maxLen/\∀a∈words,zrX a):∃t,ztO z words=some t/\zxo z t:=by
 have h6:=h.y6
 exact zzQ h hw 1000000 0 [] [] (Nat.zero_le _) (by omega) rfl rfl fun j y x p _ hx=>by simp at hx
theorem zzS{r:Rl}{z:Zn}(h:VZ r z){t:Tr}(ht:zxo z t):ztF t=some t:=by
 have h6:=h.y6;have:=ht.l;have:=ht.p;exact zzt (by omega) (by omega)
theorem zzT{r:Rl}{z:Zn}(h:VZ r z){t:Tr}(ht:zxo z t):Fit (ktN r z t) (zxi r z).can:=by
 refine⟨by rw[zxv ht,zyN],fun i k p hi hp=>?_⟩;have hil:=(List.getElem?_eq_some_iff.1 hi).1;rw[zxv ht] at hil;obtain⟨y,a,b,hy,ha,hb,hr,_⟩:=zxu h ht hil;rw[zxw hy ha hb] at hi;rw[zyt hy] at hp
 cases hi; cases hp
 have hk:=zwM r y a b;exact zxJ.2 ⟨hk,zwX.2 ⟨a,b,hr.1,hr.2,by omega⟩⟩
theorem zzU{r:Rl}{z:Zn}(h:VZ r z){t:Tr}(ht:zxo z t)(m:Nat):zw3 r (st0 r z) ((ktN r z t).take m)∈zyh r z m:=zxT.2 ⟨_,zzj (zzT h ht) m,rfl⟩
def zzV(r:Rl)(z:Zn)(t:Tr)(k:Nat):Int:=(zw3 r (st0 r z) ((ktN r z t).take k)).cls
theorem zzW{r:Rl}{z:Zn}(h:VZ r z){t:Tr}(ht:zxo z t)(m:Nat):zzV r z t m∈zyJ r z m:=(zyK h).2 ⟨_,zzU h ht m,rfl⟩
theorem zzX{r:Rl}{z:Zn}{t:Tr}(ht:zxo z t){k:Nat}(hk:k < z.Years.length):(zxs r z t)[k]? = some (zzV r z t (k+1)):=zxa r (ktN r z t) (st0 r z) k (by rw[zxv ht]; exact hk)
theorem zzY{r:Rl}{z:Zn}(h:VZ r z){t:Tr}{k:Nat}{x:Int}(hx:(ktN r z t)[k]? = some x):∃s,SOk r s/\s.cls=zzV r z t k/\(step r x s).cls=zzV r z t (k+1)/\s=zw3 r (st0 r z) ((ktN r z t).take k):=
 ⟨_,zw5 h.full.rl _ h.st0,rfl,by unfold zzV; rw[zxy hx],rfl⟩
theorem zzZ{r:Rl}{z:Zn}(h:VZ r z){t:Tr}(ht:zxo z t){k:Nat}{y:Yr}(hy:z.Years[k]? = some y):(zzV r z t (k+1)=zzV r z t k->¬ zys r z k (mkP (kB r y))=1)/\(¬ zzV r z t (k+1)=zzV r z t k->¬ zys r z k (mkP (kB r y))=2)/\(1<=zys r z k (mkP (kB r y))/\zys r z k (mkP (kB r y))<=3):=by
 have hil:=(List.getElem?_eq_some_iff.1 hy).1;have hl:ktN r z t∈zxM (zxi r z).can:=(zxR _).2 (zzT h ht);have hm:=zzl h hy;have hs:=zzm h hy;unfold zys zyp;have hmv:mvL r z k (ktN r z t)=(zzV r z t (k+1) != zzV r z t k):=rfl;generalize ((zyh r z k).any fun q=>mvB (nx r (mkP (kB r y)) q) q.cls)=bm at hm;generalize ((zyh r z k).any fun q=>syB (nx r (mkP (kB r y)) q) q.cls)=bs at hs;refine⟨fun he=>?_,fun he=>?_,?_⟩
 ·have:bs=true:=hs.2 ⟨_,hl,by rw[hmv]; exact bne_eq_false_iff_eq.2 he⟩
  rw[this,if_pos rfl]; split <;> omega
 ·have:bm=true:=hm.2 ⟨_,hl,by rw[hmv]; exact bne_iff_ne.2 he⟩
  rw[this,if_pos rfl]; split <;> omega
 ·split
  ·split <;> omega
  ·omega
theorem zz0{r:Rl}{z:Zn}(h:VZ r z):zyJ r z 0=[z.First]:=zzO h.c6 h.st0
theorem zz1{r:Rl}{z:Zn}(h:VZ r z){t:Tr}{k:Nat}{x:Int}(hx:(ktN r z t)[k]? = some x):(x=0\/x=3->zzV r z t (k+1)=zzV r z t k)/\(x=2->zzV r z t (k+1)=min (zzV r z t k+1) (r.Classes - 1))/\(x=1->zzV r z t (k+1)=zzV r z t k\/zzV r z t (k+1)=zzV r z t k - 1):=by
 obtain⟨s,hs,e1,e2,_⟩:=zzY h hx;rw[<- e1,<- e2,zxH hs];have hb:=hs.1;refine⟨fun hx=>?_,fun hx=>?_,fun hx=>?_⟩
 ·rw[if_neg (by omega),if_neg (by omega)]
 ·rw[if_pos hx]
 ·rw[if_neg (by omega),if_pos hx]
  split
  ·omega
  ·exact .inl rfl
theorem zz2{r:Rl}{z:Zn}(h:VZ r z){t:Tr}(ht:zxo z t)(k:Nat):0<=zzV r z t k/\zzV r z t k<=r.Classes - 1:=zyL h (zzW h ht k)
theorem zz3{r:Rl}{z:Zn}(h:VZ r z){t:Tr}(ht:zxo z t):zxC z.First (zxs r z t)=zzV r z t z.Years.length:=by
 have hl:=zxE (r:=r) ht
 by_cases h0:z.Years.length=0
 ·have e:zxs r z t=[]:=List.eq_nil_of_length_eq_zero (by omega);rw[e];unfold zzV;rw[h0]; rfl
 ·have:=zxD (l:=zxs r z t) (by omega) z.First;rw[show((zxs r z t).length:Int) - 1=((z.Years.length - 1:Nat):Int) by omega,zrv (zzX ht (by omega)),show z.Years.length - 1+1=z.Years.length by omega] at this;exact(oi this).symm
theorem zz4{r:Rl}{z:Zn}(h:VZ r z){t:Tr}(ht:zxo z t){a b:Int}(ha:(zyJ r z z.Years.length)[0]? = some a)(hb:(zyJ r z z.Years.length)[(zyJ r z z.Years.length).length - 1]? = some b):∀(d k:Nat),k<=z.Years.length->z.Years.length - k < d ->
  ztP r z t (zxs r z t,0) (⟨zyB r a,zyB r b⟩,0) d false (zzV r z t k) (zyJ r z k) (k:Int)=some true
 | 0,k,_,hd=>by omega
 | d+1,k,hk,hd=>by
  have h6:=h.y6;have hc6:=h.c6;have hc0:=h.full.rl.c0;have hpl:=zxE (r:=r) ht;rw[ztP]
  by_cases hkn:k < z.Years.length
  ·rw[if_pos (show(k:Int) < ((zxs r z t).length:Int) by omega)];obtain⟨y,u,v,hy,hu,hv,_,hu2,hv2⟩:=zxu h ht hkn;have hx:=zxw (r:=r) hy hu hv;have hkb:=zwM r y u v;have hkind:=zz1 h hx;obtain⟨hm1,hm2,hm3⟩:=zzZ h ht hy;have hin:=zwH.some_of hm3;have hbn:=zz2 h ht k;have hbn1:=zz2 h ht (k+1);have hin2:=zwH.some_of hbn1;have hhas:zsd (zyc (clB (zyh r z (k+1))) 6) (zzV r z t (k+1))=some true:=(zzn (Nat.le_trans (zyf _ _) (by omega))).some_of (zzW h ht (k+1));have ih:=zz4 h ht ha hb d (k+1) (by omega) (by omega);rw[show((k+1:Nat):Int)=(k:Int)+1 by omega] at ih;have ih:ztP r z t (zxs r z t,0) (⟨zyB r a,zyB r b⟩,0) d false (zzV r z t (k+1)) (zyc (clB (zyh r z (k+1))) 6) ((k:Int)+1)=some true:=ih;have hi:idx (zxs r z t) (k:Int)=some (zzV r z t (k+1)):=zrv (zzX ht hkn);rw[zzx h,obs,zzy h,obs,zyj h hkn,obs,obs,obs,zyv h hy,obs,zrv hy,obs,zrv hu,obs,zrv hv,obs,zwQ h.full.rl hu2 hv2,obs,if_pos rfl,if_pos rfl];have g1:zl6 .i64 ((k:Int)+1):=fI (by omega);have g2:zl6 .i64 (r.Classes - 1):=fI (by omega);have g3:zl6 .i64 (zzV r z t k+1):=fI (by omega);have g4:zl6 .i64 (zzV r z t k - 1):=fI (by omega)
   simp only[hi,obs,hhas,if_true,hin,hin2,zqs g1,zqs g2,zqs g3,zqs g4]
   generalize hM:zys r z k (mkP (kB r y))=M at hm1 hm2 hm3 ⊢;generalize hK:kN r y u v=K at hkb hkind ⊢
   generalize zzV r z t (k+1)=x at *
   generalize zzV r z t k=n at *
   obtain⟨k03,k2,k1⟩:=hkind
   clear hx hi hM hK
   by_cases e:x=n
   ·have hM1:=hm1 e;subst e
    by_cases q0:K=0
    ·subst q0; simp[hM1,ih]
    by_cases q1:K=1
    ·subst q1; simp[hM1,ih]
    by_cases q2:K=2
    ·have e2:=(k2 q2).symm;subst q2; simp[hM1,ih,e2]
    by_cases q3:K=3
    ·subst q3; simp[hM1,ih]
    omega
   ·have hM2:=hm2 e
    by_cases q1:K=1
    ·have e2:x=n - 1:=(k1 q1).resolve_left e;subst q1; simp[hM2,ih,e,<- e2]
    by_cases q2:K=2
    ·have e2:=(k2 q2).symm;subst q2; simp[hM2,ih,e,e2]
    exact absurd (k03 (by omega)) e
  ·have hkn:k=z.Years.length:=by omega
   subst hkn;have hn:=zzW h ht z.Years.length;have hbn:=zz2 h ht z.Years.length;have hpr:=zxF h ht (c:=zzV r z t z.Years.length);rw[zz3 h ht,decide_eq_true rfl] at hpr;have hlt:=zzS h ht;have fa:=zzM h (List.mem_of_getElem? ha);have fb:=zzM h (List.mem_of_getElem? hb);have hs:(zyJ r z z.Years.length).Pairwise (· < ·):=zyz _ _;have hba:=zyL h (List.mem_of_getElem? ha);have hbb:=zyL h (List.mem_of_getElem? hb);have hl6:(zyJ r z z.Years.length).length<=6:=zyf _ _;have hl0:=(List.getElem?_eq_some_iff.1 ha).1;obtain⟨i,hi⟩:=List.mem_iff_getElem?.1 hn;have hil:=(List.getElem?_eq_some_iff.1 hi).1;have p1:=zyE h.full.rl hba.1 (zyA hs ha hi (Nat.zero_le _)) hbn.2;have p2:=zyE h.full.rl hbn.1 (zyA hs hi hb (by omega)) hbb.2;rw[if_neg (show ¬ (z.Years.length:Int) < ((zxs r z t).length:Int) by omega),zyC h.full.rl hbn,obs]
   show(if zyB r (zzV r z t z.Years.length) < zyB r a then _ else (if zyB r b < zyB r (zzV r z t z.Years.length) then _ else _))=_
   rw[if_neg (by omega),if_neg (by omega),zzx h,obs,zzy h,obs,hlt,obs,hpr,obs,if_pos rfl,if_neg (by omega),zrx ha,obs,zqs (fI (by omega)),zwH.some_of hba,obs,if_pos rfl,zqs (fI (by omega)),show((zyJ r z z.Years.length).length:Int) - 1=(((zyJ r z z.Years.length).length - 1:Nat):Int) by omega,zrv hb,obs,zqs (fI (by omega)),zwH.some_of hbb,obs,if_pos rfl,obs,zyC h.full.rl hba,obs,zqs (fI (by omega)),obs,zyC h.full.rl hbb,obs]
   show gd (zl6 .i64 (zyB r a)) (gd (zl6 .i64 (zyB r a)) (gd (zl6 .i64 (zyB r b)) (gd (zl6 .i64 (zyB r b)) (if (decide (zyB r a=zyB r a) && decide (zyB r b=zyB r b))=true then _ else _))))=_
   rw[zqs fa,zqs fa,zqs fb,zqs fb,if_pos (by simp)]; exact aw
theorem zz5{r:Rl}{z:Zn}{words:List W8}(_:zrS r)(_:zrV z)(hw:words.length<=maxLen/\∀a∈words,zrX a):ztQ r z words=some true:=by
 unfold ztQ
 refine zzw.pick (fun h=>?_) fun _=>by rw[if_neg (by decide)]; exact aw
 have h6:=h.y6;obtain⟨t,et,ht⟩:=zzR h hw;obtain⟨a,b,ha,hb⟩:=zzN h z.Years.length;have hpl:=zxE (r:=r) ht;rw[if_pos rfl,et,obs,zzx h,obs,zzy h,obs,zzS h ht,obs,zxA h ht,obs,obs,obs,zyP h ha hb,obs,if_pos rfl,if_pos rfl,if_pos (show((zxs r z t).length:Int)=(z.Years.length:Int) by omega)];have e:=zz4 h ht ha hb ((zxs r z t).length+1) 0 (Nat.zero_le _) (by omega);rw[zz0 h] at e;exact e
def zz6(r:Rl)(z:Zn)(n:Nat):Nat:=((z.Years.take n).filter (zwK r)).length
theorem zz7{r:Rl}{z:Zn}{k:Nat}{y:Yr}(h:z.Years[k]? = some y):zz6 r z (k+1)=zz6 r z k+if zwK r y=true then 1 else 0:=by
 unfold zz6;rw[zxP h,List.filter_append,List.length_append]
 congr 1
 cases hc:zwK r y with
 | true=>rw[List.filter_cons_of_pos hc]; rfl
 | false=>rw[List.filter_cons_of_neg (by rw[hc]; decide)]; rfl
theorem zz8{r:Rl}{y:Yr}(hc:zwK r y=false){k:Int}(hk:k∈kl (mkP (kB r y))):k=0:=by
 obtain⟨h1,h2⟩:=zxJ.1 hk;obtain⟨l,p,_,_,h3⟩:=zwX.1 h2;rw[zwN.2 hc] at h3
 omega
theorem zz9{r:Rl}(h:zwr r){s:Stt}(hs:SOk r s)(x:Int):(step r x s).cls<=s.cls+1/\s.cls - 1<=(step r x s).cls:=by
 have hb:=hs.1;rw[zxH hs]
 split
 ·omega
 ·split
  ·split <;> omega
  ·omega
theorem zAa{r:Rl}{z:Zn}(h:VZ r z){S:Nat->Bool}:∀m,m<=z.Years.length->∀q∈zy6 r z S m,q.cls<=z.First+zz6 r z m/\z.First - zz6 r z m<=q.cls
 | 0,_,q,hq=>by
  have:q=st0 r z:=List.mem_singleton.1 hq;rw[this]
  show z.First<=z.First+((0:Nat):Int)/\z.First - ((0:Nat):Int)<=z.First
  omega
 | m+1,hm,q,hq=>by
  have hg:=List.getElem?_eq_getElem (show m < z.Years.length by omega);have hc:=zyX (r:=r) (S:=S) hg;unfold zy6 at hq;rw[zxP hc,zxU] at hq;obtain⟨q',h1,h2⟩:=hq;have ih:=zAa h m (by omega) q' h1;obtain⟨k,h3,rfl⟩:=List.mem_map.1 h2;have hs:=zy7 h q' h1;rw[zz7 hg]
  cases hcn:zwK r z.Years[m] with
  | true=>
   have:=zz9 h.full.rl hs k;rw[if_pos rfl]
   omega
  | false=>
   rw[hcn,Bool.and_false,if_neg (by decide)] at h3;rw[zz8 hcn h3,if_neg (by decide)]
   show q'.cls<=_/\_<=q'.cls
   omega
theorem zAb{r:Rl}{z:Zn}(h:VZ r z){c:Nat}(hf:(zz6 r z z.Years.length:Int) < (c:Int) - z.First\/(zz6 r z z.Years.length:Int) < z.First - (c:Int))(S:Nat->Bool):zy9 r z c S=false:=by
 cases hq:zy9 r z c S with
 | false=>rfl
 | true=>
  obtain⟨q,h1,h2⟩:=zx9.1 (show clB (zy6 r z S z.Years.length) c=true from hq);have:=zAa h z.Years.length (Nat.le_refl _) q h1
  omega
def zAc:Tr:={ Losses:=[50,130,10,30,39],Premiums:=[100,109,100,100,100] }
def zAd:Tr:={ Losses:=[50,131,10,30,39],Premiums:=[100,108,100,100,100] }
theorem zAe{z:Zn}{t:Tr}(h1:t.Losses.length=z.Years.length)(h2:t.Premiums.length=z.Years.length)(h3:∀x∈(z.Years.zip (t.Losses.zip t.Premiums)),(x.1.Losses.Lo<=x.2.1/\x.2.1<=x.1.Losses.Hi)/\x.1.Premiums.Lo<=x.2.2/\x.2.2<=x.1.Premiums.Hi):zxo z t:=by
 refine⟨h1,h2,fun j y a b hy ha hb=>h3 (y,a,b) (List.mem_iff_getElem?.2 ⟨j,?_⟩)⟩;rw[List.getElem?_zip_eq_some,List.getElem?_zip_eq_some];exact⟨hy,ha,hb⟩
theorem zAf:zxo zzA zAc:=zAe rfl rfl (by decide)
theorem zAg:zxo zzA zAd:=zAe rfl rfl (by decide)
theorem zAh{r:Rl}{z:Zn}(h:zwt r z):zwu r z=3:=by unfold zwu; rw[if_pos h]
theorem zAi{r:Rl}{z:Zn}(h1:¬ zwt r z)(h:¬ zws r z):zwu r z=1:=by unfold zwu; rw[if_neg h1,if_neg h]
theorem chk{r:Rl}{z:Zn}{n:Int}(h1:r.Price.length<=1000)(h2:z.Years.length<=1000)(h:zwu r z=n):zsJ r z=some n:=by rw[zwG h1 h2,h]
def zAj:Zn:={ First:=1,Years:=[yrN 50 50 100 102 9] }
theorem zAk:VZ zzz zAj:=zzD (by decide) (by decide) (by decide) (by decide) (by decide) (by decide) (by decide) (by decide) (by decide) (by decide)
theorem zAl:VZ zzz { First:=2,Years:=[] }:=zzD (by decide) (by decide) (by decide) (by decide) (by decide) (by decide) (by decide) (by decide) (by decide) (by decide)
theorem zAm:zwf=some true:=by
 have hv:=vEx;have a1:ztt zzz zzA { Losses:=[50,130,10,30,39],Premiums:=[100,109,100,100,100] }=some ([1,1,1,0,0],0):=(zxA hv zAf).trans (by rw[show zxs zzz zzA zAc=[1,1,1,0,0] by decide +kernel])
 have e2:zxs zzz zzA zAd=[1,2,2,2,1]:=by decide +kernel
 have a2:ztt zzz zzA { Losses:=[50,131,10,30,39],Premiums:=[100,108,100,100,100] }=some ([1,2,2,2,1],0):=(zxA hv zAg).trans (by rw[e2]);have a3:ztu zzz zzA 1=some ([1,2],0):=(zyj hv (i:=1) (by decide)).trans (by rw[show zyc (clB (zyh zzz zzA (1+1))) 6=[1,2] by decide +kernel]);have a4:zty zzz zzA 0=some ([],0):=(zzf hv (c:=0) (by decide) ⟨[],⟨.nil,fun v h=>by cases h⟩,by decide +kernel⟩).trans (by rw[show zrm zzA.Years.length (zzb zzz zzA 0)=[] by decide +kernel]);have a5:ztz zzz zzA { Losses:=[50,131,10,30,39],Premiums:=[100,108,100,100,100] } 1=some true:=(zxF hv zAg).trans (by rw[e2]; rfl);have a6:ztz zzz zzA { Losses:=[50,131,10,30,39],Premiums:=[100,108,100,100,100] } 0=some false:=(zxF hv zAg).trans (by rw[e2]; rfl);have a7:ztz zzz { First:=2,Years:=[] } { Losses:=[],Premiums:=[] } 2=some true:=(zxF zAl (zAe rfl rfl (by decide))).trans rfl
 have a8:ztt zzz zzA { Losses:=[50,132,10,30,39],Premiums:=[100,108,100,100,100] }=some ([],2):=zxB hv fun h=>by
  have h9:((130:Int)<=132/\(132:Int)<=131)/\(108:Int)<=108/\(108:Int)<=109:=h.ok 1 (yrN 130 131 108 109 9) 132 108 rfl rfl rfl
  omega
 have a9:ztt zzz zzA { Losses:=[50,131,10,30,39],Premiums:=[] }=some ([],2):=zxB hv fun h=>absurd h.p (by decide);have b1:ztu zzz zzA 5=some ([],2):=zyk hv (by decide);have b2:ztv zzz zzA (-1)=some (0,2):=zyw hv (by decide);have b3:zty zzz zzA 4=some ([],2):=zzg hv (by decide);have b4:zty zzz zAj 3=some ([],7):=zze zAk (c:=3) (by decide) fun L _=>zAb zAk (.inl (by decide)) _;have b4:zty zzz { First:=zzA.First,Years:=((zzA.Years.take (Int.toNat 1)).drop (Int.toNat 0)) } 3=some ([],7):=b4
 have nm:∀{r:Rl} {z:Zn},r.Classes<=6->z.Years.length<=6->¬ zwt r z:=fun h1 h2 h=>by unfold zwt at h; omega
 have c1:zsJ { Classes:=7,Good:=zzz.Good,Bad:=zzz.Bad,Rest:=zzz.Rest,Fewest:=zzz.Fewest,Price:=zzz.Price } zzA=some 3:=chk (by decide) (by decide) (zAh (.inl (by decide)));have c2:zsJ zzz { First:=4,Years:=zzA.Years }=some 1:=chk (by decide) (by decide) (zAi (nm (by decide) (by decide)) fun h=>absurd h.first (by decide));have c3:zsJ { Classes:=zzz.Classes,Good:=121,Bad:=zzz.Bad,Rest:=zzz.Rest,Fewest:=zzz.Fewest,Price:=zzz.Price } zzA=some 1:=chk (by decide) (by decide) (zAi (nm (by decide) (by decide)) fun h=>absurd h.rl.gb (by decide));have c4:zsJ { Classes:=zzz.Classes,Good:=zzz.Good,Bad:=zzz.Bad,Rest:=zzz.Rest,Fewest:=zzz.Fewest,Price:=[10,20,40] } zzA=some 1:=chk (by decide) (by decide) (zAi (nm (by decide) (by decide)) fun h=>absurd h.rl.pl (by decide));have c5:zsJ { Classes:=zzz.Classes,Good:=zzz.Good,Bad:=zzz.Bad,Rest:=zzz.Rest,Fewest:=zzz.Fewest,Price:=[10,20,40,39] } zzA=some 1:=chk (by decide) (by decide) (zAi (nm (by decide) (by decide)) fun h=>h.rl.so 3 (by decide) (by decide) 39 40 rfl rfl (by decide));have c6:zsJ { Classes:=zzz.Classes,Good:=zzz.Good,Bad:=zzz.Bad,Rest:=5,Fewest:=zzz.Fewest,Price:=zzz.Price } zzA=some 1:=chk (by decide) (by decide) (zAi (nm (by decide) (by decide)) fun h=>absurd h.rl.rest (by decide));have c7:zsJ zzz { First:=zzA.First,Years:=List.replicate (Int.toNat 7) { Losses:={ Lo:=0,Hi:=0 },Premiums:={ Lo:=0,Hi:=0 },Parcels:=0,Exempt:=false } }=some 3:=chk (by decide) (by decide) (zAh (.inr (by decide)))
 have c8:zsJ { Classes:=0,Good:=0,Bad:=0,Rest:=0,Fewest:=0,Price:=[] } zzA=some 1:=chk (by decide) (by decide) (zAi (nm (by decide) (by decide)) fun h=>absurd h.rl.c0 (by decide));have s1:zse [1,1,1,0,0] [1,1,1,0,0]=some true:=zzp (by decide);have s2:zse [1,2,2,2,1] [1,2,2,2,1]=some true:=zzp (by decide);have s3:zse [1,2] [1,2]=some true:=zzp (by decide)
 have g1:(0:Int)<=0/\(0:Int)<=1/\(1:Int)<=(zzA.Years.length:Int):=by decide
 have g2:(0:Int)<=7/\(7:Int)<=4096:=by decide
 unfold zwf
 simp only[zzB,zzC,obs,a1,a2,a3,a4,a5,a6,a7,a8,a9,b1,b2,b3,b4,c1,c2,c3,c4,c5,c6,c7,c8,s1,s2,s3,zqs g1,zqs g2,if_true,zzL]
 rfl
end
end Go.Proofs.Ytlpjlgmoaipoiaa

