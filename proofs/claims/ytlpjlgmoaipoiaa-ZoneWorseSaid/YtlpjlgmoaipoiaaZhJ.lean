/- An evaluator of code, its soundness, and what functions of the program do. Condition: none; a lemma text. -/
import Derived.Test.YtlpjlgmoaipoiaaZhI

namespace Go.Proofs.Ytlpjlgmoaipoiaa
open _root_.Go.Proofs.Try
open Go.Abs
set_option maxRecDepth 100000
noncomputable section
def zzs:P4:=⟨false,true,true,true⟩
def zzt(r:Rl)(z:Zn)(S:Nat->Bool):List P4:=z.Years.mapIdx fun i y=>if (S i && zxo r y)=true then zzs else mkP (kB r y)
theorem zzu{r:Rl}{z:Zn}{S:Nat->Bool}{i:Nat}{y:Yr}(h:z.Years[i]? = some y):(zzt r z S)[i]? = some (if (S i && zxo r y)=true then zzs else mkP (kB r y)):=by
 unfold zzt;rw[List.getElem?_mapIdx,h]; rfl
theorem zzv{r:Rl}{z:Zn}{S:Nat->Bool}:(zzt r z S).length=z.Years.length:=by
 unfold zzt;rw[List.length_mapIdx]
theorem zzw{r:Rl}{z:Zn}{S:Nat->Bool}{cs:List P4}(hl:cs.length=z.Years.length)(h:∀i y,z.Years[i]? = some y->cs[i]? = some (if (S i && zxo r y)=true then zzs else mkP (kB r y))):cs=zzt r z S:=by
 refine List.ext_getElem? fun i=>?_
 rcases Nat.lt_or_ge i z.Years.length with hi | hi
 ·have hg:=List.getElem?_eq_getElem hi;rw[h i _ hg,zzu hg]
 ·rw[List.getElem?_eq_none (by omega),List.getElem?_eq_none (by rw[zzv]; exact hi)]
theorem zzx{r:Rl}{z:Zn}:(zxW r z).can=zzt r z fun _=>false:=zzw zzk fun i y hy=>by
 rw[zy1 hy,if_neg (by simp)]
def zzy(r:Rl)(z:Zn)(S:Nat->Bool):Wk:={ r:=r,zone:=z,kinds:=zxQ,can:=zzt r z S }
theorem zzz{L:List Int}{k:Nat}{v:Int}(hv:L[k]? = some v)(j:Nat):inD (L.take (k+1)) j=(inD (L.take k) j || decide ((j:Int)=v)):=by
 unfold inD;rw[zyo hv,Bool.eq_iff_iff,Bool.or_eq_true,decide_eq_true_eq,decide_eq_true_eq,decide_eq_true_eq,List.mem_append,List.mem_singleton]
theorem zzA{r:Rl}{z:Zn}{S:Nat->Bool}{v:Nat}{y:Yr}(hv:z.Years[v]? = some y)(hc:zxo r y=true):(zzt r z S).set v zzs=zzt r z fun j=>S j || decide ((j:Int)=(v:Int)):=by
 refine zzw (by rw[List.length_set]; exact zzv) fun i y' hy=>?_
 by_cases h:v=i
 ·subst h
  rw[hv] at hy; cases hy
  rw[List.getElem?_set_self (by rw[zzv]; exact(List.getElem?_eq_some_iff.1 hv).1),decide_eq_true rfl,Bool.or_true,hc]; rfl
 ·rw[List.getElem?_set_ne h,zzu hy,decide_eq_false (by omega),Bool.or_false]
theorem zzB{r:Rl}{z:Zn}{S:Nat->Bool}{v:Nat}{y:Yr}(hv:z.Years[v]? = some y)(hc:zxo r y=false):zzt r z S=zzt r z fun j=>S j || decide ((j:Int)=(v:Int)):=by
 refine zzw zzv fun i y' hy=>?_;rw[zzu hy]
 by_cases h:v=i
 ·subst h
  rw[hv] at hy; cases hy
  rw[hc,Bool.and_false,Bool.and_false]
 ·rw[decide_eq_false (by omega),Bool.or_false]
theorem zzC{r:Rl}{z:Zn}(h:VZ r z){L:List Int}(hL:∀v∈L,0<=v/\v < z.Years.length)(hl:L.length<=1000):ztK (zxW r z) L=some (zzy r z (inD L)):=by
 have h6:=h.y6;unfold ztK ztI;have hcl:=zzk (r:=r) (z:=z);rw[zqr (by rw[List.length_nil]; omega),obs,List.nil_append,zzx];refine zw2 (n:=L.length) (fun d (s:List P4) x=>ztJ (zxW r z) L d r.Classes r.Good r.Bad r.Rest r.Fewest z.First s x) (fun k=>zzt r z (inD (L.take k))) (fun d k hk=>?_) (fun d=>?_) (L.length+1) 0 (by omega) (by omega)
 ·have hg:=List.getElem?_eq_getElem hk;have hv:=hL _ (List.getElem_mem hk);generalize L[k]=v at hg hv;have hy:=List.getElem?_eq_getElem (show v.toNat < z.Years.length by omega)
  have ev:((v.toNat:Nat):Int)=v:=by omega
  show ztJ (zxW r z) L (d+1) _ _ _ _ _ _ _ _=_
  have e1:idx (zxW r z).zone.Years v=some (z.Years[v.toNat]'(by omega)):=by
   have:=zrx hy
   rwa [ev] at this
  have e2:=zzu (r:=r) (S:=inD (L.take k)) hy;have e3:=zrx e2;rw[ev] at e3
  have e4:(fun j=>inD (L.take k) j || decide ((j:Int)=((v.toNat:Nat):Int)))=inD (L.take (k+1)):=funext fun j=>by rw[zzz hg,ev]
  rw[ztJ,if_pos (by omega),zrx hg,obs,e1,obs,zxp,obs]
  show(if zxo r _=true then _ else _)=_
  by_cases hc:zxo r (z.Years[v.toNat]'(by omega))=true
  ·rw[if_pos hc]
   show((idx (zzt r z (inD (L.take k))) v).bind _)=_
   rw[e3,obs,zqr (fI (by omega))]
   show ztJ (zxW r z) L d _ _ _ _ _ _ ((zzt r z (inD (L.take k))).set v.toNat zzs) _=_
   rw[zzA hy hc,e4]
  ·rw[if_neg hc,zqr (fI (by omega)),<- e4,<- zzB hy (by simpa using hc)]
 ·show ztJ (zxW r z) L (d+1) _ _ _ _ _ _ _ _=_
  rw[ztJ,if_neg (Int.lt_irrefl _),List.take_length]; rfl
def zzD(r:Rl)(z:Zn)(S:Nat->Bool)(n:Nat):List Stt:=zyr r (st0 r z) ((zzt r z S).take n)
theorem zzE{r:Rl}{z:Zn}(h:VZ r z){S:Nat->Bool}{n:Nat}:∀q∈zzD r z S n,SOk r q:=zyu h.full.rl h.st0
theorem zzF{r:Rl}{z:Zn}{n:Nat}:zzD r z (fun _=>false) n=zyQ r z n:=by
 unfold zzD zyQ;rw[zzx]
theorem zzG{r:Rl}{z:Zn}(h:VZ r z){S:Nat->Bool}:ztD (zzy r z S)=some (mkC (clB (zzD r z S z.Years.length))):=by
 have h6:=h.y6;unfold ztD;have e:ztA (zzy r z S) (z.Years.length:Int)=some (mL (zzD r z S z.Years.length)):=zyF (w:=zzy r z S) h.full.rl h.c6 rfl h.st0 (n:=z.Years.length) (by show z.Years.length<=(zzt r z S).length; rw[zzv]; exact Nat.le_refl _) (by omega);rw[show((zzy r z S).can.length:Int)=(z.Years.length:Int) from by show((zzt r z S).length:Int)=_; rw[zzv],e,obs,zyK (r:=r) h.full.rl h.c6 (zzE h),obs]
def zzH(r:Rl)(z:Zn)(c:Nat)(S:Nat->Bool):Bool:=clB (zzD r z S z.Years.length) c
theorem zzI{r:Rl}{z:Zn}(h:VZ r z){c:Nat}(hc:c < 6){L:List Int}(hL:Inc z.Years.length 0 L):ztN (zxW r z) (c:Int) L=some (zzH r z c (inD L)):=by
 have h6:=h.y6;have hll:=zwQ hL;unfold ztN;rw[zzC h (fun v hv=>by have:=hL.2 v hv; omega) (by omega),obs,zzG h,obs,zrx (zyH hc)]; rfl
def zzJ(r:Rl)(z:Zn)(c:Nat)(L:List Int):Bool:=zzH r z c (inD L)
theorem zzK{r:Rl}{z:Zn}(h:VZ r z){c:Nat}(hc:c < 6):ztO (zxW r z) (c:Int)=some (zrm z.Years.length (zzJ r z c),((zoh z.Years.length).find? (zzJ r z c)).isSome):=by
 have h6:=h.y6;unfold ztO;rw[zzk,zqr ⟨by omega,fun L hL=>by rw[zzI h hc (zwR.1 hL)]; rfl⟩]
 have e:∀L∈zoh z.Years.length,((ztN (zxW r z) (c:Int) L).getD false)=zzJ r z c L:=fun L hL=>by rw[zzI h hc (zwR.1 hL)]; rfl
 have e2:(zoh z.Years.length).find? (fun L=>(ztN (zxW r z) (c:Int) L).getD false)=(zoh z.Years.length).find? (zzJ r z c):=by
  have key:∀l:List (List Int),(∀L∈l,((ztN (zxW r z) (c:Int) L).getD false)=zzJ r z c L)->l.find? (fun L=>(ztN (zxW r z) (c:Int) L).getD false)=l.find? (zzJ r z c):=by
   intro l
   induction l with
   | nil=>intro _; rfl
   | cons a l ih=>
    intro hl;rw[List.find?_cons,List.find?_cons,hl a (List.mem_cons_self ..),ih fun L hL=>hl L (List.mem_cons_of_mem _ hL)]
  exact key _ e
 unfold zrm;rw[e2]
theorem zzL{r:Rl}(h:zw5 r)(hc:r.Classes<=6){c:Int}:Ev (zs4 r c) (0<=c/\c<=r.Classes - 1):=by
 have:=h.c0;unfold zs4;refine Ev.gd (fI (by omega)) ?_;exact(show Ev (zsF ⟨0,r.Classes - 1⟩ c) _ from zxa).ret
theorem zzM{r:Rl}{z:Zn}(h:VZ r z){c:Nat}(hc:(c:Int)<=r.Classes - 1)(hn:∀L,Inc z.Years.length 0 L->zzJ r z c L=false):ztY r z (c:Int)=some ([],7):=by
 have hc6:=h.c6;unfold ztY;rw[zxX h,obs,if_pos rfl,(zzL h.full.rl h.c6).some_of ⟨by omega,hc⟩,obs,if_pos rfl,zzK h (by omega),obs]
 have e:(zoh z.Years.length).find? (zzJ r z c)=none:=List.find?_eq_none.2 fun L hL=>by rw[hn L (zwR.1 hL)]; decide
 rw[e]; rfl
theorem zzN{r:Rl}{z:Zn}(h:VZ r z){c:Nat}(hc:(c:Int)<=r.Classes - 1)(hn:∃L,Inc z.Years.length 0 L/\zzJ r z c L=true):ztY r z (c:Int)=some (zrm z.Years.length (zzJ r z c),0):=by
 have hc6:=h.c6;unfold ztY;rw[zxX h,obs,if_pos rfl,(zzL h.full.rl h.c6).some_of ⟨by omega,hc⟩,obs,if_pos rfl,zzK h (by omega),obs];obtain⟨L,h1,h2⟩:=hn
 have e:((zoh z.Years.length).find? (zzJ r z c)).isSome=true:=by
  rw[List.find?_isSome];exact⟨L,zwR.2 h1,h2⟩
 rw[e]; rfl
theorem zzO{a b:List Int}(hl:a.length<=1000):∀(d k:Nat),k<=a.length->a.length - k < d->zsA a b d (k:Int)=some (bef (a.drop k) (b.drop k))
 | 0,_,_,h=>by omega
 | d+1,k,hk,h=>by
  rw[zsA]
  by_cases hka:k < a.length
  ·rw[if_pos (by omega)];have da:=List.drop_eq_getElem_cons hka;have ga:=List.getElem?_eq_getElem hka
   by_cases hkb:k < b.length
   ·have db:=List.drop_eq_getElem_cons hkb;have gb:=List.getElem?_eq_getElem hkb;rw[if_pos (by omega),zrx ga,obs,zrx gb,obs,da,db];unfold bef
    by_cases he:a[k]=b[k]
    ·rw[if_pos he,if_pos he,zqr (fI (by omega)),show(k:Int)+1=((k+1:Nat):Int) by omega];exact zzO hl d (k+1) (by omega) (by omega)
    ·rw[if_neg he,if_neg he,obs,obs]
   ·rw[if_neg (by omega),da,List.drop_eq_nil_of_le (show b.length<=k by omega),decide_eq_false (by omega)]; rfl
  ·rw[if_neg (by omega),List.drop_eq_nil_of_le (show a.length<=k by omega)]
   by_cases hkb:k < b.length
   ·rw[List.drop_eq_getElem_cons hkb,decide_eq_true (by omega)]; rfl
   ·rw[List.drop_eq_nil_of_le (show b.length<=k by omega),decide_eq_false (by omega)]; rfl
theorem zzP{a b:List Int}(hl:a.length<=1000):zsB a b=some (bef a b):=zzO hl (a.length+1) 0 (Nat.zero_le _) (by omega)
structure zzQ (n:Nat) (P:(Nat->Bool)->Prop) (M:List Int):Prop where
 inc:Inc n 0 M
 ok:P (inD M)
 min:∀D,Inc n 0 D->P (inD D)->D=M\/shB M D=true
theorem zzR{r:Rl}{y:Yr}(hy:zw3 y):kB r y 0 = !zxo r y:=by
 obtain⟨⟨h1,h2,h3,h4⟩,⟨h5,h6,h7,h8⟩,_⟩:=hy;rw[Bool.eq_iff_iff,zxB,Bool.not_eq_true']
 constructor
 ·rintro⟨l,p,_,_,h⟩; exact zxr.1 h
 ·intro h; exact⟨_,_,⟨Int.le_refl _,h2⟩,⟨Int.le_refl _,h6⟩,zxr.2 h⟩
theorem zzS{l:List Int}{cs:List P4}(h:Fit l cs)(m:Nat):Fit (l.take m) (cs.take m):=by
 refine⟨by rw[List.length_take,List.length_take,h.1],fun i k p hi hp=>?_⟩;rw[List.getElem?_take] at hi hp
 by_cases hm:i < m
 ·rw[if_pos hm] at hi hp; exact h.2 i k p hi hp
 ·rw[if_neg hm] at hi; cases hi
theorem zzT{r:Rl}{y:Yr}(hy:zw3 y):decide (1 < (kl (mkP (kB r y))).length)=((kB r y 1 && kB r y 2) || (kB r y 1 && kB r y 3) || (kB r y 2 && kB r y 3)):=by
 have h0:=zzR (r:=r) hy
 cases hc:zxo r y with
 | true=>
  rw[hc] at h0;unfold kl mkP;rw[h0]
  cases kB r y 1 <;> cases kB r y 2 <;> cases kB r y 3 <;> rfl
 | false=>
  have e:∀k:Nat,0 < k->kB r y k=false:=fun k hk=>by
   cases hb:kB r y k with
   | false=>rfl
   | true=>
    obtain⟨l,p,_,_,h1⟩:=zxB.1 hb;rw[zxr.2 hc] at h1
    omega
  unfold kl mkP;rw[e 1 (by omega),e 2 (by omega),e 3 (by omega)]
  cases kB r y 0 <;> rfl
theorem zzU{l:List Int}{n:Int}(hl:l.length<=1000):Ev (zsD l n) (n∈l):=by
 have key:=zrG (l:=l) (F:=fun d x=>zsC l n d x) (ok:=fun a=>¬ a=n) (bad:=some true) (fin:=some false) (fun d k a ha=>by
  have hk:=(List.getElem?_eq_some_iff.1 ha).1
  show(_->zsC l n (d+1) _=_)/\(_->zsC l n (d+1) _=_)
  rw[zsC,if_pos (by omega),zrx ha,obs]
  refine⟨fun h=>by rw[if_neg h,zqr (fI (by omega))],fun h=>by rw[if_pos (Classical.not_not.1 h)]⟩) (fun d=>by show zsC l n (d+1) _=_; rw[zsC,if_neg (Int.lt_irrefl _)]) (d:=l.length+1) (by omega)
 unfold zsD
 by_cases h:n∈l
 ·rw[key.2 fun q=>q n h rfl]; exact Ev.tt h
 ·rw[key.1 fun a ha he=>h (he ▸ ha)]; exact Ev.ff h
theorem zzV{a b:List Int}(ha:a.length<=1000):Ev (zsE a b) (a=b):=by
 unfold zsE
 by_cases hl:a.length=b.length
 ·rw[if_pos (by omega),zzP ha,obs]
  rcases zwU a b with h | h | h
  ·subst h;rw[zwS,if_neg (by decide),zzP ha,zwS,obs]; exact Ev.tt rfl
  ·rw[h,if_pos rfl]
   exact Ev.ff fun he=>by subst he; rw[zwS] at h; cases h
  ·rw[zwT h,if_neg (by decide),zzP (by omega),h,obs]
   exact Ev.ff fun he=>by subst he; rw[zwS] at h; cases h
 ·rw[if_neg (by omega)]; exact Ev.ff fun he=>hl (by rw[he])
theorem zzW{a:List Int}(ha:a.length<=1000):zsE a a=some true:=(zzV ha).some_of rfl
theorem zzX{r:Rl}{z:Zn}{c:Nat}(hn:∃L,Inc z.Years.length 0 L/\zzJ r z c L=true):zzQ z.Years.length (fun S=>zzH r z c S=true) (zrm z.Years.length (zzJ r z c)):=by
 obtain⟨h1,h2,h3⟩:=zw1 hn;exact⟨h1,h2,h3⟩
theorem zzY{r:Rl}{z:Zn}(h:VZ r z){c:Nat}(hc:(c:Int)<=r.Classes - 1):(∃M,ztY r z (c:Int)=some (M,0)/\zzQ z.Years.length (fun S=>zzH r z c S=true) M)\/(ztY r z (c:Int)=some ([],7)/\∀D,Inc z.Years.length 0 D->zzH r z c (inD D)=false):=by
 by_cases hn:∃L,Inc z.Years.length 0 L/\zzJ r z c L=true
 ·exact .inl ⟨_,zzN h hc hn,zzX hn⟩
 ·have hf:∀D,Inc z.Years.length 0 D->zzJ r z c D=false:=fun D hD=>by
   cases hq:zzJ r z c D with
   | false=>rfl
   | true=>exact absurd ⟨D,hD,hq⟩ hn
  exact .inr ⟨zzM h hc hf,hf⟩
theorem zzZ{l:List Int}(hl:l.length<=1000):ztZ l=some l:=by
 unfold ztZ;rw[zqr (by rw[List.length_nil]; omega)]; rfl
theorem zz0{r:Rl}(h:r.Price.length<=1000):zt1 r=some r:=by
 unfold zt1;rw[zzZ h,obs]
theorem zz1{z:Zn}(h:z.Years.length<=1000):zt3 z=some z:=by
 unfold zt3
 exact(zrD (l:=z.Years) id (F:=fun d acc x=>zt2 z d z.First acc x) (fun acc=>some ({ First:=z.First,Years:=acc }:Zn)) (fun d k acc a hk ha=>by
  have hkl:=(List.getElem?_eq_some_iff.1 hk).1
  show zt2 z (d+1) _ _ _=_
  rw[zt2,if_pos (by omega),zrx hk,obs]
  show gd _ _=_
  rw[zqr (by omega),zqr (fI (by omega))]; rfl) (fun d acc=>by
  show zt2 z (d+1) _ _ _=_
  rw[zt2,if_neg (Int.lt_irrefl _)]) (d:=1000000) (by omega)).trans (by rw[List.map_id])
theorem zz2{t:Tr}(h1:t.Losses.length<=1000)(h2:t.Premiums.length<=1000):zt4 t=some t:=by
 unfold zt4;rw[zzZ h1,obs,zzZ h2,obs]
theorem zz3{r:Rl}{z:Zn}:Ev (zt5 r z) (r.Price.length<=9/\z.Years.length<=9):=by
 unfold zt5;exact(Ev.ite fun _=>Ev.dec Iff.rfl).imp (by omega)
theorem zz4{r:Rl}{z:Zn}(h1:r.Price.length<=1000)(h2:z.Years.length<=1000):zt6 r z=some (zw8 r z):=by
 unfold zt6;rw[zxn h1 h2,obs]
theorem zz5{r:Rl}{z:Zn}:Ev (zub r z) (VZ r z):=by
 unfold zub;refine(zz3.and (K:=VZ r z) fun ht=>?_).imp ⟨fun h=>h.2,fun h=>⟨?_,h⟩⟩
 ·rw[zz4 (by omega) (by omega),obs];exact Ev.dec zw9
 ·have h1:=h.full.rl.pl;have h2:=h.c6;have h3:=h.y6
  omega
theorem VZ.pl{r:Rl}{z:Zn}(h:VZ r z):r.Price.length<=6:=by
 have h1:=h.full.rl.pl;have h2:=h.c6
 omega
theorem zz6{r:Rl}{z:Zn}(h:VZ r z):zt1 r=some r:=zz0 (by have:=h.pl; omega)
theorem zz7{r:Rl}{z:Zn}(h:VZ r z):zt3 z=some z:=zz1 (by have:=h.y6; omega)
def zz8:Rl:={ Classes:=4,Good:=40,Bad:=120,Rest:=1,Fewest:=5,Price:=[10,20,40,80] }
def yrN(a b c d p:Int):Yr:={ Losses:=⟨a,b⟩,Premiums:=⟨c,d⟩,Parcels:=p,Exempt:=false }
def zz9:Zn:={ First:=1,Years:=[yrN 50 50 100 102 9,yrN 130 131 108 109 9,yrN 10 10 100 100 3,yrN 30 30 100 100 9,yrN 39 41 100 100 9] }
theorem zAa:zt8=some zz8:=rfl
theorem zAb:zt9=some zz9:=rfl
theorem zAc{r:Rl}{z:Zn}(h1:1<=r.Classes/\r.Classes<=6)(h2:(r.Price.length:Int)=r.Classes)(h3:0<=r.Good/\r.Good<=r.Bad/\r.Bad<=300)(h4:0<=r.Rest/\r.Rest<=4)(h5:0<=r.Fewest/\r.Fewest<=100)(h6:∀x∈r.Price,1<=x/\x<=10000)(h7:r.Price.Pairwise (·<=·))(h8:0<=z.First/\z.First<=r.Classes - 1)(h9:∀y∈z.Years,zw3 y)(h10:z.Years.length<=6):VZ r z:=
 ⟨⟨⟨h1.1,h2,h3,h4,h5,h6,fun j hj h0 x y hx hy=>by
  obtain⟨q1,rfl⟩:=List.getElem?_eq_some_iff.1 hx;obtain⟨q2,rfl⟩:=List.getElem?_eq_some_iff.1 hy;have:=List.pairwise_iff_getElem.1 h7 (j - 1) j q2 q1 (by omega)
  omega⟩,h8,h9⟩,h1.2,h10⟩
instance (r:Rg):Decidable (RgP r):=by unfold RgP; infer_instance
instance (y:Yr):Decidable (zw3 y):=by unfold zw3; infer_instance
theorem vEx:VZ zz8 zz9:=zAc (by decide) (by decide) (by decide) (by decide) (by decide) (by decide) (by decide) (by decide) (by decide) (by decide)
theorem zAd:zyL (clB (zyQ zz8 zz9 4)) 6=[0,2]:=by decide +kernel
theorem zAe:zzg zz8 zz9 5=[0,1,2]:=by decide +kernel
theorem zAf:zy0 zz8 zz9 0 (mkP (kB zz8 (yrN 50 50 100 102 9)))=2:=by decide +kernel
theorem zAg:zy0 zz8 zz9 3 (mkP (kB zz8 (yrN 30 30 100 100 9)))=3:=by decide +kernel
theorem zAh:zyL (zzn zz8 zz9) 5=[1,4]:=by decide +kernel
theorem zAi:zzJ zz8 zz9 3 [0]=true:=by decide +kernel
theorem zAj:zrm 5 (zzJ zz8 zz9 3)=[0]:=by decide +kernel
theorem zAk:zua=some true:=by
 have e1:ztU zz8 zz9 3=some ([0,2],0):=(zyS vEx (i:=3) (by decide)).trans (by rw[zAd]);have e2:ztU zz8 zz9 4=some ([0,1,2],0):=(zyS vEx (i:=4) (by decide)).trans (by rw[show zyL (clB (zyQ zz8 zz9 (4+1))) 6=[0,1,2] from zAe]);have e3:ztV zz8 zz9 0=some (2,0):=(zy3 vEx (i:=0) (y:=yrN 50 50 100 102 9) rfl).trans (by rw[zAf]);have e4:ztV zz8 zz9 3=some (3,0):=(zy3 vEx (i:=3) (y:=yrN 30 30 100 100 9) rfl).trans (by rw[zAg]);have e5:ztW zz8 zz9=some (⟨10,40⟩,0):=(zzm vEx (a:=0) (b:=2) (by rw[show zzg zz8 zz9 zz9.Years.length=[0,1,2] from zAe]; rfl) (by rw[show zzg zz8 zz9 zz9.Years.length=[0,1,2] from zAe]; rfl)).trans rfl;have e6:ztX zz8 zz9=some ([1,4],0):=(zzr vEx).trans (by rw[show zyL (zzn zz8 zz9) zz9.Years.length=[1,4] from zAh]);have e7:ztY zz8 zz9 3=some ([0],0):=(zzN vEx (c:=3) (by decide) ⟨[0],⟨by decide,fun v hv=>by rw[List.mem_singleton.1 hv]; decide⟩,zAi⟩).trans (by rw[show zrm zz9.Years.length (zzJ zz8 zz9 3)=[0] from zAj]);have s1:zsE [0,2] [0,2]=some true:=zzW (by decide);have s2:zsE [0,1,2] [0,1,2]=some true:=zzW (by decide);have s3:zsE [1,4] [1,4]=some true:=zzW (by decide);have s4:zsE [0] [0]=some true:=zzW (by decide);have b1:zt7 10 40=some ⟨10,40⟩:=rfl;unfold zua
 simp only[zAa,zAb,obs,e1,e2,e3,e4,e5,e6,e7,s1,s2,s3,s4,b1,if_true]
 rw[zqr (fI (by decide)),zqr (fI (by decide)),zqr (fI (by decide)),zqr (fI (by decide))]
 simp
theorem aw:(zua.bind fun r=>some r)=some true:=by rw[zAk]; rfl
theorem nl(x:Int):((([]:List Int),x).1.length:Int)=0:=rfl
theorem zAl{w:Int}(hw:zl6 .u8 w):∃n:Nat,w=(n:Int)/\n < 256/\zma .i64 w=(n:Int):=by
 have:=fU8 hw;exact⟨w.toNat,by omega,by omega,(wz (fI (by omega))).trans (by omega)⟩
theorem zAm{w:Int}{r:Rg}(hw:0<=w)(h:r.Lo<=r.Hi):(0<=w % (r.Hi - r.Lo+1)/\w % (r.Hi - r.Lo+1) < r.Hi - r.Lo+1):=⟨Int.emod_nonneg _ (by omega),Int.emod_lt_of_pos _ (by omega)⟩
theorem zAn{r:Rl}{z:Zn}(h:VZ r z){words:List W8}(hw:words.length<=maxLen/\∀a∈words,zr9 a):∀(d k:Nat) (a b:List Int),k<=z.Years.length->z.Years.length - k < d->a.length=k->b.length=k->(∀j,zx0 z ⟨a,b⟩ j) ->
  ∃t,zuc z words d a b (k:Int)=some t/\zx1 z t
 | 0,k,_,_,_,hd,_,_,_=>by omega
 | d+1,k,a,b,hk,hd,ha,hb,hab=>by
  have h6:=h.y6
  by_cases hkn:k < z.Years.length
  ·have hg:=List.getElem?_eq_getElem hkn;have hy:=h.full.ys _ (List.getElem_mem hkn);obtain⟨q1,q2,_⟩:=hy;unfold RgP at q1 q2
   have hnext:∀u v:Int,0<=u->0<=v->∃t,zuc z words d (a++[(z.Years[k]).Losses.Lo+u % ((z.Years[k]).Losses.Hi - (z.Years[k]).Losses.Lo+1)]) (b++[(z.Years[k]).Premiums.Lo+v % ((z.Years[k]).Premiums.Hi - (z.Years[k]).Premiums.Lo+1)]) ((k:Int)+1)=some t/\zx1 z t:=fun u v hu hv=>by
    have m1:=zAm hu q1.2.1;have m2:=zAm hv q2.2.1;rw[show(k:Int)+1=((k+1:Nat):Int) by omega];refine zAn h hw d (k+1) _ _ (by omega) (by omega) (by rw[List.length_append,ha]; rfl) (by rw[List.length_append,hb]; rfl) fun j y x p hy hx hp=>?_
    rcases Nat.lt_or_ge j k with hj | hj
    ·have hx:(a++_)[j]? = some x:=hx;have hp:(b++_)[j]? = some p:=hp;rw[List.getElem?_append_left (by omega)] at hx hp;exact hab j y x p hy hx hp
    ·have hj2:=(List.getElem?_eq_some_iff.1 hx).1;have hj2:j < (a++[_]).length:=hj2;rw[List.length_append,ha] at hj2
     have e:j=k:=by simp only[List.length_cons,List.length_nil] at hj2; omega
     subst e;have hx:(a++_)[j]? = some x:=hx;have hp:(b++_)[j]? = some p:=hp;rw[List.getElem?_append_right (by omega),ha,Nat.sub_self] at hx;rw[List.getElem?_append_right (by omega),hb,Nat.sub_self] at hp
     cases hx; cases hp
     rw[hg] at hy; cases hy
     omega
   have ga:a.length < 1048576:=by omega
   have gb:b.length < 1048576:=by omega
   rw[zuc,if_pos (by omega)]
   by_cases h0:0 < words.length
   ·have hm:words.length<=1048576\/True:=.inr trivial;have e1:=Int.emod_nonneg (2 * (k:Int)) (show(words.length:Int) ≠ 0 by omega);have e2:=Int.emod_lt_of_pos (2 * (k:Int)) (show(0:Int) < (words.length:Int) by omega);have e3:=Int.emod_nonneg (2 * (k:Int)+1) (show(words.length:Int) ≠ 0 by omega);have e4:=Int.emod_lt_of_pos (2 * (k:Int)+1) (show(0:Int) < (words.length:Int) by omega);have hlw:words.length<=maxLen:=hw.1;unfold maxLen at hlw;obtain⟨u,hu⟩:∃u,idx words (2 * (k:Int) % (words.length:Int))=some u:=⟨_,zry (k:=(2 * (k:Int) % (words.length:Int)).toNat) (by omega) (by omega)⟩;obtain⟨v,hv⟩:∃v,idx words ((2 * (k:Int)+1) % (words.length:Int))=some v:=⟨_,zry (k:=((2 * (k:Int)+1) % (words.length:Int)).toNat) (by omega) (by omega)⟩
    have ou:∀w i,idx words i=some w->0<=w.v/\w.v < 256:=fun w i hi=>by
     obtain⟨n,_,_,hn⟩:=zqj hi;exact fU8 (hw.2 w (List.mem_of_getElem? hn))
    have u1:=ou u _ hu;have v1:=ou v _ hv;have wu1:zma .i64 u.v=u.v:=wz (fI (by omega));have wv1:zma .i64 v.v=v.v:=wz (fI (by omega));have m1:=zAm (w:=u.v) u1.1 q1.2.1;have m2:=zAm (w:=v.v) v1.1 q2.2.1
    rw[if_pos (by omega),zqr (by omega),zqr (by omega),zqr (fI (by omega)),zqr (by omega),zqr (by omega),zqr (fI (by omega)),hu,obs,zqr (by omega),zqr (by omega),zqr (fI (by omega)),zqr (fI (by omega)),zqr (by omega),zqr (by omega),zqr (fI (by omega)),hv,obs,zrx hg,obs,wu1,wv1,
     zqr (fI (by omega)),zqr (fI (by omega)),zqr u1.1,zqr (by omega),zqr (fI (by omega)),zqr (fI (by omega)),zqr ga,zqr (fI (by omega)),zqr (fI (by omega)),zqr v1.1,zqr (by omega),zqr (fI (by omega)),zqr (fI (by omega)),zqr gb,zqr (fI (by omega))]
    exact hnext u.v v.v u1.1 v1.1
   ·have m1:=zAm (w:=0) (Int.le_refl 0) q1.2.1;have m2:=zAm (w:=0) (Int.le_refl 0) q2.2.1;rw[if_neg (by omega),zrx hg,obs,zqr (fI (by omega)),zqr (fI (by omega)),zqr (by omega),zqr (by omega),zqr (fI (by omega)),zqr (fI (by omega)),zqr ga,zqr (fI (by omega)),zqr (fI (by omega)),zqr (by omega),zqr (by omega),zqr (fI (by omega)),zqr (fI (by omega)),zqr gb,zqr (fI (by omega))];exact hnext 0 0 (Int.le_refl 0) (Int.le_refl 0)
  ·rw[zuc,if_neg (by omega)];exact⟨_,rfl,by show a.length=_; omega,by show b.length=_; omega,hab⟩
theorem zAo{r:Rl}{z:Zn}(h:VZ r z){words:List W8}(hw:words.length<=maxLen/\∀a∈words,zr9 a):∃t,zud z words=some t/\zx1 z t:=by
 have h6:=h.y6
 exact zAn h hw 1000000 0 [] [] (Nat.zero_le _) (by omega) rfl rfl fun j y x p _ hx=>by simp at hx
theorem zAp{r:Rl}{z:Zn}(h:VZ r z){t:Tr}(ht:zx1 z t):zt4 t=some t:=by
 have h6:=h.y6;have:=ht.l;have:=ht.p;exact zz2 (by omega) (by omega)
theorem zAq{r:Rl}{z:Zn}(h:VZ r z){t:Tr}(ht:zx1 z t):Fit (ktN r z t) (zxW r z).can:=by
 refine⟨by rw[zx8 ht,zzk],fun i k p hi hp=>?_⟩;have hil:=(List.getElem?_eq_some_iff.1 hi).1;rw[zx8 ht] at hil;obtain⟨y,a,b,hy,ha,hb,hr,_⟩:=zx7 h ht hil;rw[zx9 hy ha hb] at hi;rw[zy1 hy] at hp
 cases hi; cases hp
 have hk:=zxq r y a b;exact zyi.2 ⟨hk,zxB.2 ⟨a,b,hr.1,hr.2,by omega⟩⟩
theorem zAr{r:Rl}{z:Zn}(h:VZ r z){t:Tr}(ht:zx1 z t)(m:Nat):zxH r (st0 r z) ((ktN r z t).take m)∈zyQ r z m:=zys.2 ⟨_,zzS (zAq h ht) m,rfl⟩
def zAs(r:Rl)(z:Zn)(t:Tr)(k:Nat):Int:=(zxH r (st0 r z) ((ktN r z t).take k)).cls
theorem zAt{r:Rl}{z:Zn}(h:VZ r z){t:Tr}(ht:zx1 z t)(m:Nat):zAs r z t m∈zzg r z m:=(zzh h).2 ⟨_,zAr h ht m,rfl⟩
theorem zAu{r:Rl}{z:Zn}{t:Tr}(ht:zx1 z t){k:Nat}(hk:k < z.Years.length):(zx5 r z t)[k]? = some (zAs r z t (k+1)):=zxO r (ktN r z t) (st0 r z) k (by rw[zx8 ht]; exact hk)
theorem zAv{r:Rl}{z:Zn}(h:VZ r z){t:Tr}{k:Nat}{x:Int}(hx:(ktN r z t)[k]? = some x):∃s,SOk r s/\s.cls=zAs r z t k/\(step r x s).cls=zAs r z t (k+1)/\s=zxH r (st0 r z) ((ktN r z t).take k):=
 ⟨_,zxJ h.full.rl _ h.st0,rfl,by unfold zAs; rw[zyb hx],rfl⟩
theorem zAw{r:Rl}{z:Zn}(h:VZ r z){t:Tr}(ht:zx1 z t)(k:Nat):0<=zAs r z t k/\zAs r z t k<=r.Classes - 1:=zzi h (zAt h ht k)
def zAx(r:Rl)(n:Int):Rl:={ Classes:=r.Classes,Good:=r.Good,Bad:=r.Bad,Rest:=n,Fewest:=r.Fewest,Price:=r.Price }
theorem zAy{r:Rl}{z:Zn}(h:VZ r z){n:Int}(hn:0<=n/\n<=4):VZ (zAx r n) z:=
 ⟨⟨⟨h.full.rl.c0,h.full.rl.pl,h.full.rl.gb,hn,h.full.rl.few,h.full.rl.pr,h.full.rl.so⟩,h.full.first,h.full.ys⟩,h.c6,h.y6⟩
theorem zAz{r:Rl}{z:Zn}{t:Tr}{n:Int}:ktN (zAx r n) z t=ktN r z t:=by
 unfold ktN;generalize z.Years=ys;generalize t.Losses=us;generalize t.Premiums=vs
 induction ys generalizing us vs with
 | nil=>rfl
 | cons y ys ih=>
  cases us with
  | nil=>rfl
  | cons u us=>
   cases vs with
   | nil=>rfl
   | cons v vs=>exact congrArg (kN r y u v :: ·) (ih us vs)
theorem zAA{r:Rl}(h:zw5 r){m n:Int}(hm:0<=m/\m<=4)(hmn:m<=n){s s':Stt}(hs:SOk (zAx r n) s)(hs':SOk (zAx r m) s')(h1:s'.cls<=s.cls)(h2:s'.since=min s.since m)(x:Int):(step (zAx r m) x s').cls<=(step (zAx r n) x s).cls/\(step (zAx r m) x s').since=min (step (zAx r n) x s).since m:=by
 obtain⟨a1,a2⟩:=hs;obtain⟨b1,b2⟩:=hs';have a1:0<=s.cls/\s.cls<=r.Classes - 1:=a1;have a2:0<=s.since/\s.since<=n:=a2;have b1:0<=s'.cls/\s'.cls<=r.Classes - 1:=b1;have b2:0<=s'.since/\s'.since<=m:=b2;unfold step
 by_cases x2:x=2
 ·rw[if_pos x2,if_pos x2]
  show min (s'.cls+1) (r.Classes - 1)<=min (s.cls+1) (r.Classes - 1)/\(0:Int)=min 0 m
  omega
 rw[if_neg x2,if_neg x2]
 by_cases x1:x=1
 ·rw[if_pos x1,if_pos x1]
  show(if s'.since=m then max 0 (s'.cls - 1) else s'.cls)<=(if s.since=n then max 0 (s.cls - 1) else s.cls)/\min (s'.since+1) m=min (min (s.since+1) n) m
  refine⟨?_,by omega⟩
  by_cases c1:s.since=n
  ·rw[if_pos c1,if_pos (by omega)]; omega
  ·rw[if_neg c1]; split <;> omega
 rw[if_neg x1,if_neg x1]
 by_cases x3:x=3
 ·rw[if_pos x3,if_pos x3]
  show s'.cls<=s.cls/\min (s'.since+1) m=min (min (s.since+1) n) m
  exact⟨h1,by omega⟩
 rw[if_neg x3,if_neg x3];exact⟨h1,h2⟩
theorem zAB{r:Rl}(h:zw5 r){m n:Int}(hm:0<=m/\m<=4)(hn:n<=4)(hmn:m<=n):∀(ks:List Int) {s s':Stt},SOk (zAx r n) s->SOk (zAx r m) s'->s'.cls<=s.cls->s'.since=min s.since m->(zxH (zAx r m) s' ks).cls<=(zxH (zAx r n) s ks).cls
 | [],_,_,_,_,h1,_=>h1
 | k::ks,s,s',hs,hs',h1,h2=>by
  have hr:∀q:Int,0<=q/\q<=4->zw5 (zAx r q):=fun q hq=>⟨h.c0,h.pl,h.gb,hq,h.few,h.pr,h.so⟩;obtain⟨h3,h4⟩:=zAA h hm hmn hs hs' h1 h2 k;exact zAB h hm hn hmn ks (zxG (hr n (by omega)) k hs) (zxG (hr m hm) k hs') h3 h4
theorem zAC{r:Rl}{z:Zn}(h:VZ r z){t:Tr}{m n:Int}(hm:0<=m/\m<=4)(hn:n<=4)(hmn:m<=n)(k:Nat):zAs (zAx r m) z t k<=zAs (zAx r n) z t k:=by
 have hf:=h.full.first;unfold zAs;rw[zAz,zAz];exact zAB h.full.rl hm hn hmn _ (zAy h (by omega)).st0 (zAy h hm).st0 (Int.le_refl _) (show m=min n m by omega)
theorem zAD(r:Rl):zAx r r.Rest=r:=rfl
theorem zAE{r:Rl}{z:Zn}(h:VZ r z){t:Tr}(ht:zx1 z t){m:Int}(hm:0<=m/\m<=r.Rest):∀(d k:Nat),k<=z.Years.length->z.Years.length - k < d ->
  zup r z t (zx5 r z t,0) (zx5 (zAx r m) z t,0) (zx5 (zAx r 0) z t,0) d (zAs (zAx r 0) z t k) (k:Int)=some true
 | 0,k,_,hd=>by omega
 | d+1,k,hk,hd=>by
  have h6:=h.y6;have hr:=h.full.rl.rest;have hpl:=zye (r:=r) ht;rw[zup]
  by_cases hkn:k < z.Years.length
  ·rw[if_pos (show(k:Int) < ((zx5 r z t).length:Int) by omega)];obtain⟨y,u,v,hy,hu,hv,_,hu2,hv2⟩:=zx7 h ht hkn
   have hx:(ktN (zAx r 0) z t)[k]? = some (kN r y u v):=by rw[zAz]; exact zx9 hy hu hv
   have i1:idx (zx5 r z t) (k:Int)=_:=zrx (zAu ht hkn);have i2:idx (zx5 (zAx r m) z t) (k:Int)=_:=zrx (zAu ht hkn);have i3:idx (zx5 (zAx r 0) z t) (k:Int)=_:=zrx (zAu ht hkn);have e1:=zAC h (t:=t) (m:=m) (n:=r.Rest) (by omega) (by omega) hm.2 (k+1);rw[zAD] at e1;have e2:=zAC h (t:=t) (m:=0) (n:=m) (by omega) (by omega) hm.1 (k+1);have hb:=zAw (zAy h (n:=0) (by omega)) ht k;have hb:0<=zAs (zAx r 0) z t k/\zAs (zAx r 0) z t k<=r.Classes - 1:=hb;have hc6:=h.c6;have ih:=zAE h ht hm d (k+1) (by omega) (by omega);rw[show((k+1:Nat):Int)=(k:Int)+1 by omega] at ih
   show(idx (zx5 (zAx r m) z t) (k:Int)).bind _=_
   rw[i2,obs]
   show(idx (zx5 r z t) (k:Int)).bind _=_
   rw[i1,obs,if_neg (by omega)]
   show(idx (zx5 (zAx r 0) z t) (k:Int)).bind _=_
   rw[i3,obs,obs,if_neg (by omega),zrx hy,obs,zrx hu,obs,zrx hv,obs,zxu h.full.rl hu2 hv2,obs]
   by_cases hk1:kN r y u v=1
   ·rw[if_pos hk1,obs,zqr (fI (by omega))];obtain⟨s,hs,q1,q2,_⟩:=zAv (zAy h (n:=0) (by omega)) hx;have q3:=zyg hs (kN r y u v);have hs2:0<=s.since/\s.since<=0:=hs.2;rw[hk1,if_neg (by decide),if_pos rfl,if_pos (show s.since=(zAx r 0).Rest by show s.since=0; omega),q1] at q3;rw[hk1,q3] at q2;rw[if_pos q2.symm,obs,zqr (fI (by omega))];exact ih
   ·rw[if_neg hk1,obs,zqr (fI (by omega))];exact ih
  ·rw[if_neg (show ¬ (k:Int) < ((zx5 r z t).length:Int) by omega)]; exact aw
def zAF(z:Zn)(f:Nat->Yr->Yr)(k:Nat):List Yr:=z.Years.mapIdx fun i y=>if i < k then f i y else y
theorem zAG{z:Zn}{f:Nat->Yr->Yr}{k:Nat}:(zAF z f k).length=z.Years.length:=List.length_mapIdx
theorem zAH{z:Zn}{f:Nat->Yr->Yr}{k i:Nat}{y:Yr}(h:z.Years[i]? = some y):(zAF z f k)[i]? = some (if i < k then f i y else y):=by
 unfold zAF;rw[List.getElem?_mapIdx,h]; rfl
theorem zAI{z:Zn}{f:Nat->Yr->Yr}:zAF z f 0=z.Years:=by
 refine List.ext_getElem? fun i=>?_
 rcases Nat.lt_or_ge i z.Years.length with hi | hi
 ·rw[zAH (List.getElem?_eq_getElem hi),if_neg (by omega),List.getElem?_eq_getElem hi]
 ·rw[List.getElem?_eq_none (by rw[zAG]; exact hi),List.getElem?_eq_none hi]
theorem zAJ{z:Zn}{f:Nat->Yr->Yr}{k:Nat}{y:Yr}(h:z.Years[k]? = some y):(zAF z f k).set k (f k y)=zAF z f (k+1):=by
 have hk:=(List.getElem?_eq_some_iff.1 h).1;refine List.ext_getElem? fun i=>?_
 by_cases hi:k=i
 ·subst hi;rw[List.getElem?_set_self (by rw[zAG]; exact hk),zAH h,if_pos (by omega)]
 ·rw[List.getElem?_set_ne hi]
  rcases Nat.lt_or_ge i z.Years.length with hil | hil
  ·have hg:=List.getElem?_eq_getElem hil;rw[zAH hg,zAH hg]
   by_cases hik:i < k
   ·rw[if_pos hik,if_pos (by omega)]
   ·rw[if_neg hik,if_neg (by omega)]
  ·rw[List.getElem?_eq_none (by rw[zAG]; exact hil),List.getElem?_eq_none (by rw[zAG]; exact hil)]
def gL(l:List Int)(i:Nat):Int:=(l[i]?).getD 0
theorem zAK{l:List Int}{i:Nat}{x:Int}(h:l[i]? = some x):gL l i=x:=by unfold gL; rw[h]; rfl
def zAL(n:Int)(t:Tr)(i:Nat)(y:Yr):Yr:={ Losses:=⟨n * gL t.Losses i,n * gL t.Losses i⟩,Premiums:=⟨n * gL t.Premiums i,n * gL t.Premiums i⟩,Parcels:=y.Parcels,Exempt:=y.Exempt }
def zAM(t:Tr)(i:Nat)(y:Yr):Yr:={ Losses:=⟨gL t.Losses i,gL t.Losses i⟩,Premiums:=⟨gL t.Premiums i,gL t.Premiums i⟩,Parcels:=y.Parcels,Exempt:=y.Exempt }
def zAN(z:Zn)(t:Tr):Zn:={ First:=z.First,Years:=zAF z (zAM t) z.Years.length }
def scZ(n:Int)(z:Zn)(t:Tr):Zn:={ First:=z.First,Years:=zAF z (zAL n t) z.Years.length }
def scT(n:Int)(t:Tr):Tr:={ Losses:=t.Losses.map (n * ·),Premiums:=t.Premiums.map (n * ·) }
theorem zAO{r:Rl}{n:Int}(hn:1<=n){y y':Yr}(hc:zxo r y'=zxo r y)(a b:Int):kN r y' (n * a) (n * b)=kN r y a b:=by
 unfold kN;rw[hc]
 have e1:n * a * 100 < n * b * r.Good↔a * 100 < b * r.Good:=by
  rw[Int.mul_assoc,Int.mul_assoc];exact Int.mul_lt_mul_left (by omega)
 have e2:n * b * r.Bad < n * a * 100↔b * r.Bad < a * 100:=by
  rw[Int.mul_assoc,Int.mul_assoc];exact Int.mul_lt_mul_left (by omega)
 simp only[e1,e2]
theorem zAP{r:Rl}{z:Zn}(h:VZ r z){t:Tr}(ht:zx1 z t):VZ r (zAN z t):=by
 refine⟨⟨h.full.rl,h.full.first,fun y hy=>?_⟩,h.c6,by show(zAF z (zAM t) z.Years.length).length<=6; rw[zAG]; exact h.y6⟩;obtain⟨i,hi⟩:=List.mem_iff_getElem?.1 hy;have hi:(zAF z (zAM t) z.Years.length)[i]? = some y:=hi;have hil:=(List.getElem?_eq_some_iff.1 hi).1;rw[zAG] at hil;obtain⟨y0,u,v,hy0,hu,hv,_,hu2,hv2⟩:=zx7 h ht hil;rw[zAH hy0,if_pos hil] at hi
 cases hi
 have hp:=(h.full.ys y0 (List.mem_of_getElem? hy0)).2.2;unfold zAM;rw[zAK hu,zAK hv];exact⟨⟨hu2.1,Int.le_refl _,hu2.2,by show u - u<=(5:Int); omega⟩,⟨hv2.1,Int.le_refl _,hv2.2,by show v - v<=(5:Int); omega⟩,hp⟩
theorem zAQ{z:Zn}{t:Tr}(ht:zx1 z t):zx1 (zAN z t) t:=by
 refine⟨by rw[ht.l]; exact zAG.symm,by rw[ht.p]; exact zAG.symm,fun j y a b hy ha hb=>?_⟩;have hy:(zAF z (zAM t) z.Years.length)[j]? = some y:=hy;have hil:=(List.getElem?_eq_some_iff.1 hy).1;rw[zAG] at hil;rw[zAH (List.getElem?_eq_getElem hil),if_pos hil] at hy
 cases hy
 unfold zAM;rw[zAK ha,zAK hb];exact⟨⟨Int.le_refl _,Int.le_refl _⟩,Int.le_refl _,Int.le_refl _⟩
theorem zAR{z:Zn}{t:Tr}(ht:zx1 z t){n:Int}:zx1 (scZ n z t) (scT n t):=by
 refine⟨by show(t.Losses.map _).length=_; rw[List.length_map,ht.l]; exact zAG.symm,by show(t.Premiums.map _).length=_; rw[List.length_map,ht.p]; exact zAG.symm,fun j y a b hy ha hb=>?_⟩;have hy:(zAF z (zAL n t) z.Years.length)[j]? = some y:=hy;have hil:=(List.getElem?_eq_some_iff.1 hy).1;rw[zAG] at hil;rw[zAH (List.getElem?_eq_getElem hil),if_pos hil] at hy
 cases hy
 have ha:(t.Losses.map (n * ·))[j]? = some a:=ha;have hb:(t.Premiums.map (n * ·))[j]? = some b:=hb;have h1:=ht.l;have h2:=ht.p;have ga:=List.getElem?_eq_getElem (show j < t.Losses.length by omega);have gb:=List.getElem?_eq_getElem (show j < t.Premiums.length by omega);rw[List.getElem?_map,ga] at ha;rw[List.getElem?_map,gb] at hb
 cases ha; cases hb
 unfold zAL;rw[zAK ga,zAK gb];exact⟨⟨Int.le_refl _,Int.le_refl _⟩,Int.le_refl _,Int.le_refl _⟩
theorem zAS{r:Rl}{z:Zn}{t:Tr}(ht:zx1 z t){n:Int}(hn:1<=n):ktN r (scZ n z t) (scT n t)=ktN r (zAN z t) t:=by
 refine List.ext_getElem? fun i=>?_
 rcases Nat.lt_or_ge i z.Years.length with hi | hi
 ·have h1:=ht.l;have h2:=ht.p;have hg:=List.getElem?_eq_getElem hi;have ga:=List.getElem?_eq_getElem (show i < t.Losses.length by omega);have gb:=List.getElem?_eq_getElem (show i < t.Premiums.length by omega);have e1:(scZ n z t).Years[i]? = some (zAL n t i z.Years[i]):=(zAH hg).trans (by rw[if_pos hi]);have e2:(zAN z t).Years[i]? = some (zAM t i z.Years[i]):=(zAH hg).trans (by rw[if_pos hi])
  have e3:(scT n t).Losses[i]? = some (n * t.Losses[i]):=by show(t.Losses.map _)[i]? = _; rw[List.getElem?_map,ga]; rfl
  have e4:(scT n t).Premiums[i]? = some (n * t.Premiums[i]):=by show(t.Premiums.map _)[i]? = _; rw[List.getElem?_map,gb]; rfl
  rw[zx9 e1 e3 e4,zx9 e2 ga gb,zAO (y:=zAM t i z.Years[i]) (y':=zAL n t i z.Years[i]) hn rfl]
 ·have l1:(ktN r (scZ n z t) (scT n t)).length=z.Years.length:=(zx8 (zAR ht)).trans zAG;have l2:(ktN r (zAN z t) t).length=z.Years.length:=(zx8 (zAQ ht)).trans zAG;rw[List.getElem?_eq_none (by omega),List.getElem?_eq_none (by omega)]
theorem zAT{f:Nat->Bool}{n:Nat}(h:∀k,k < n->f k=false):zyL f n=[]:=by
 unfold zyL;rw[List.filter_eq_nil_iff.2 fun a ha=>by rw[h a (List.mem_range.1 ha)]; decide]; rfl
theorem zAU{r:Rl}{z:Zn}(h:VZ r z){t:Tr}(ht:zx1 z t):zyL (zzn r (zAN z t)) (zAN z t).Years.length=[]:=by
 refine zAT fun k hk=>?_;have hv:=zAP h ht;have hg:=List.getElem?_eq_getElem hk;have hy:=hv.full.ys _ (List.getElem_mem hk)
 have hk':k < z.Years.length:=by have:=hk; show _ < _; exact Nat.lt_of_lt_of_eq this zAG
 have e2:(zAN z t).Years[k]? = some (zAM t k z.Years[k]):=(zAH (List.getElem?_eq_getElem hk')).trans (by rw[if_pos hk']);rw[hg] at e2;have e2:=oi e2;unfold zzn;rw[hg]
 show decide _=false
 rw[zzT hy,e2]
 have key:∀c:Nat,kB r (zAM t k z.Years[k]) c=true->kN r (zAM t k z.Years[k]) (gL t.Losses k) (gL t.Premiums k)=(c:Int):=fun c hc=>by
  obtain⟨l,p,h1,h2,h3⟩:=zxB.1 hc;have h1:gL t.Losses k<=l/\l<=gL t.Losses k:=h1;have h2:gL t.Premiums k<=p/\p<=gL t.Premiums k:=h2;rw[show l=gL t.Losses k by omega,show p=gL t.Premiums k by omega] at h3;exact h3
 cases k1:kB r (zAM t k z.Years[k]) 1 <;> cases k2:kB r (zAM t k z.Years[k]) 2 <;> cases k3:kB r (zAM t k z.Years[k]) 3 <;> first
  | rfl
  | (have q1:=key 1 k1; have q2:=key 2 k2; omega)
  | (have q1:=key 1 k1; have q3:=key 3 k3; omega)
  | (have q2:=key 2 k2; have q3:=key 3 k3; omega)
theorem zAV{r:Rl}{z:Zn}(h:VZ r z){t:Tr}(ht:zx1 z t){w n:Int}(hw:1+zma .i64 w % 5=n)(hn:1<=n/\n<=5):∀(d k:Nat),k<=z.Years.length->z.Years.length - k < d ->
  zun r w t d z.First (zAF z (zAM t) k) z.First (zAF z (zAL n t) k) ((t.Losses.map (n * ·)).take k) ((t.Premiums.map (n * ·)).take k) (k:Int)=some true
 | 0,k,_,hd=>by omega
 | d+1,k,hk,hd=>by
  have h6:=h.y6;have h1:=ht.l;have h2:=ht.p;rw[zun,hw]
  by_cases hkn:k < z.Years.length
  ·obtain⟨y,u,v,hy,hu,hv,_,hu2,hv2⟩:=zx7 h ht hkn;have ix:(zAF z (zAM t) k)[k]? = some y:=(zAH hy).trans (by rw[if_neg (by omega)]);have iy:(zAF z (zAL n t) k)[k]? = some y:=(zAH hy).trans (by rw[if_neg (by omega)]);have b1:0<=n * u/\n * u<=50000:=⟨Int.mul_nonneg (by omega) hu2.1,by have:n * u<=5 * 10000:=Int.mul_le_mul hn.2 hu2.2 hu2.1 (by omega); omega⟩;have b2:0<=n * v/\n * v<=50000:=⟨Int.mul_nonneg (by omega) hv2.1,by have:n * v<=5 * 10000:=Int.mul_le_mul hn.2 hv2.2 hv2.1 (by omega); omega⟩
   have hm1:(t.Losses.map (n * ·))[k]? = some (n * u):=by rw[List.getElem?_map,hu]; rfl
   have hm2:(t.Premiums.map (n * ·))[k]? = some (n * v):=by rw[List.getElem?_map,hv]; rfl
   have sx:∀A:Yr,((zAF z (zAM t) k).set k A)[k]? = some A:=fun A=>List.getElem?_set_self (by rw[zAG]; exact hkn);have sy:∀A:Yr,((zAF z (zAL n t) k).set k A)[k]? = some A:=fun A=>List.getElem?_set_self (by rw[zAG]; exact hkn)
   have ex:zAM t k y={ Losses:=⟨u,u⟩,Premiums:=⟨v,v⟩,Parcels:=y.Parcels,Exempt:=y.Exempt }:=by unfold zAM; rw[zAK hu,zAK hv]
   have ey:zAL n t k y={ Losses:=⟨n * u,n * u⟩,Premiums:=⟨n * v,n * v⟩,Parcels:=y.Parcels,Exempt:=y.Exempt }:=by unfold zAL; rw[zAK hu,zAK hv]
   have ih:=zAV h ht hw hn d (k+1) (by omega) (by omega);rw[zxP hm1,zxP hm2,<- zAJ hy,<- zAJ hy,ex,ey,show((k+1:Nat):Int)=(k:Int)+1 by omega] at ih;rw[if_pos (by omega),zrx hu,obs,zrx hv,obs,zrx ix,obs,Int.toNat_natCast,zrx (sx _),obs,zqr (by omega),zqr hu2.1,zqr (fI (by omega)),zqr (by omega),zqr hu2.1,zqr (fI (by omega)),zqr (by omega),zqr hv2.1,zqr (fI (by omega)),zqr (by omega),zqr hv2.1,zqr (fI (by omega)),zrx iy,obs,zrx (sy _),obs,zqr (by omega),zqr hu2.1,zqr (fI (by omega)),zqr (by rw[List.length_take]; omega),zqr (by omega),zqr hv2.1,zqr (fI (by omega)),zqr (by rw[List.length_take]; show _+1<=_; omega),zqr (fI (by omega)),List.set_set,List.set_set];exact ih
  ·have hkn:k=z.Years.length:=by omega
   subst hkn;have hvx:=zAP h ht;have htx:=zAQ ht;have hty:=zAR (n:=n) ht;have hpl:=h.pl;have e1:(t.Losses.map (n * ·)).take z.Years.length=t.Losses.map (n * ·):=List.take_of_length_le (by rw[List.length_map]; omega);have e2:(t.Premiums.map (n * ·)).take z.Years.length=t.Premiums.map (n * ·):=List.take_of_length_le (by rw[List.length_map]; omega);rw[if_neg (by omega),e1,e2]
   show(zt6 r (scZ n z t)).bind _=_
   rw[zz4 (by omega) (by show(zAF z (zAL n t) z.Years.length).length<=1000; rw[zAG]; omega),obs]
   by_cases hf:zw8 r (scZ n z t)=0
   ·have hvy:=zw9.1 hf
    have hsame:zx5 r (scZ n z t) (scT n t)=zx5 r (zAN z t) t:=by
     unfold zx5;rw[zAS ht hn.1]; rfl
    rw[if_pos hf,zz6 h,obs]
    show(zt3 (zAN z t)).bind _=_
    rw[zz7 hvx,obs,zAp h ht,obs,zyd hvx htx,obs,obs]
    show(zt3 (scZ n z t)).bind _=_
    rw[zz7 hvy,obs]
    show(zt4 (scT n t)).bind _=_
    rw[zAp hvy hty,obs,zyd hvy hty,obs,obs]
    show(zt3 (zAN z t)).bind _=_
    rw[zz7 hvx,obs,zzr hvx,obs,if_pos rfl,if_pos rfl,hsame,zzW (show(zx5 r (zAN z t) t).length<=1000 by rw[zye htx]; have:=hvx.y6; omega),obs,if_pos rfl,if_pos rfl,zAU h ht,if_pos (nl _)]; exact aw
   ·rw[if_neg hf]; exact aw
theorem zAW{r:Rl}{z:Zn}{words:List W8}{by_:Int}(_:zr4 r)(_:zr7 z)(hw:words.length<=maxLen/\∀a∈words,zr9 a)(hb:zl6 .u8 by_):zuo r z words by_=some true:=by
 unfold zuo
 refine zz5.pick (fun h=>?_) fun _=>by rw[if_neg (by decide)]; exact aw
 have h6:=h.y6;obtain⟨n,hn0,hn,e⟩:=zAl hb;obtain⟨t,et,ht⟩:=zAo h hw;rw[if_pos rfl,e,zqr (by omega),zqr (by omega),zqr (fI (by omega)),zqr (fI (by omega)),et,obs,zqr (by rw[List.length_nil]; omega),zqr (by rw[List.length_nil]; omega),List.nil_append];have:=zAV h ht (w:=by_) (n:=1+(n:Int) % 5) (by rw[e]) (by omega) 1000000 0 (Nat.zero_le _) (by omega);rw[zAI,zAI] at this;exact this
theorem u8n{w:Int}(hw:zl6 .u8 w):∃n:Nat,w=(n:Int)/\n < 256/\zma .i64 w=(n:Int):=by
 have:=fU8 hw;exact⟨w.toNat,by omega,by omega,(wz (fI (by omega))).trans (by omega)⟩
theorem zAX{r:Rl}{z:Zn}(h:VZ r z){n:Nat}(hn:z.Years.length=n+1){a b:Int}(ha:(zzg r z (n+1))[0]? = some a)(hb:(zzg r z (n+1))[(zzg r z (n+1)).length - 1]? = some b):zue r z=some (a,b,true):=by
 have h6:=h.y6;have hl:=(List.getElem?_eq_some_iff.1 ha).1;have hl6:(zzg r z (n+1)).length<=6:=zyO _ _;unfold zue;rw[zz6 h,obs,zz7 h,obs,zqr (fI (by omega)),show(z.Years.length:Int) - 1=(n:Int) by omega,zyS h (by omega),obs,if_pos rfl]
 show(if ((zzg r z (n+1)).length:Int)=0 then _ else (idx (zzg r z (n+1)) 0).bind _)=_
 rw[if_neg (by omega),zrz ha,obs]
 show gd (zl6 .i64 (((zzg r z (n+1)).length:Int) - 1)) ((idx (zzg r z (n+1)) (((zzg r z (n+1)).length:Int) - 1)).bind _)=_
 rw[zqr (fI (by omega)),show((zzg r z (n+1)).length:Int) - 1=(((zzg r z (n+1)).length - 1:Nat):Int) by omega,zrx hb,obs]
def zAY(r:Rl)(p p':P4):Prop:=∀q,SOk r q->(∀k'∈kl p',∃k∈kl p,(step r k q).cls<=(step r k' q).cls)/\∀k∈kl p,∃k'∈kl p',(step r k q).cls<=(step r k' q).cls
theorem zAZ{r:Rl}{z x:Zn}(h:VZ r z)(hx:VZ r x){n:Nat}{y y':Yr}(hy:z.Years[n]? = some y)(hy':x.Years[n]? = some y')(hs:zyQ r z n=zyQ r x n)(hp:zAY r (mkP (kB r y)) (mkP (kB r y'))){a b c d:Int}(ha:(zzg r z (n+1))[0]? = some a)(hb:(zzg r z (n+1))[(zzg r z (n+1)).length - 1]? = some b)(hc:(zzg r x (n+1))[0]? = some c)(hd:(zzg r x (n+1))[(zzg r x (n+1)).length - 1]? = some d):a<=c/\b<=d:=by
 have sz:(zzg r z (n+1)).Pairwise (· < ·):=zy6 _ _;have sx:(zzg r x (n+1)).Pairwise (· < ·):=zy6 _ _
 have mz:∀q,q∈zyQ r z (n+1)↔∃q',q'∈zyQ r z n/\q∈nx r (mkP (kB r y)) q':=fun q=>by
  unfold zyQ;rw[zyo (zy1 hy),zyt]
 have mx:∀q,q∈zyQ r x (n+1)↔∃q',q'∈zyQ r x n/\q∈nx r (mkP (kB r y')) q':=fun q=>by
  unfold zyQ;rw[zyo (zy1 hy'),zyt]
 constructor
 ·obtain⟨q,h1,h2⟩:=(zzh hx).1 (List.mem_of_getElem? hc);obtain⟨q',h3,h4⟩:=(mx q).1 h1;obtain⟨k',h5,rfl⟩:=List.mem_map.1 h4;rw[<- hs] at h3;obtain⟨k,h6,h7⟩:=(hp q' (zyR h q' h3)).1 k' h5;have hm:(step r k q').cls∈zzg r z (n+1):=(zzh h).2 ⟨_,(mz _).2 ⟨q',h3,List.mem_map.2 ⟨k,h6,rfl⟩⟩,rfl⟩;obtain⟨i,hi⟩:=List.mem_iff_getElem?.1 hm;have:=zy7 sz ha hi (Nat.zero_le _)
  omega
 ·obtain⟨q,h1,h2⟩:=(zzh h).1 (List.mem_of_getElem? hb);obtain⟨q',h3,h4⟩:=(mz q).1 h1;obtain⟨k,h5,rfl⟩:=List.mem_map.1 h4;obtain⟨k',h6,h7⟩:=(hp q' (zyR h q' h3)).2 k h5;rw[hs] at h3;have hm:(step r k' q').cls∈zzg r x (n+1):=(zzh hx).2 ⟨_,(mx _).2 ⟨q',h3,List.mem_map.2 ⟨k',h6,rfl⟩⟩,rfl⟩;obtain⟨i,hi⟩:=List.mem_iff_getElem?.1 hm;have hil:=(List.getElem?_eq_some_iff.1 hi).1;have:=zy7 sx hi hd (by omega)
  omega
theorem zA0{r:Rl}{q:Stt}(hq:SOk r q)(k:Int):(step r 1 q).cls<=(step r k q).cls:=by
 have hb:=hq.1;rw[zyg hq,zyg hq,if_neg (by decide),if_pos rfl]
 repeat' split
 all_goals omega
theorem zA1{r:Rl}{q:Stt}(hq:SOk r q)(k:Int):(step r k q).cls<=(step r 2 q).cls:=by
 have hb:=hq.1;rw[zyg hq,zyg hq,if_pos rfl]
 split
 ·omega
 ·split
  ·split <;> omega
  ·omega
theorem zA2{r:Rl}{y y':Yr}(hc:zxo r y'=zxo r y){l p l' p':Int}(h1:l * 100<=l' * 100)(h2:p' * r.Good<=p * r.Good)(h3:p' * r.Bad<=p * r.Bad){q:Stt}(hq:SOk r q):(step r (kN r y l p) q).cls<=(step r (kN r y' l' p') q).cls:=by
 unfold kN;rw[hc]
 by_cases hcn:zxo r y=true
 ·rw[if_pos hcn,if_pos hcn]
  by_cases c1:l * 100 < p * r.Good
  ·rw[if_pos c1]; exact zA0 hq _
  have c3:¬ l' * 100 < p' * r.Good:=by omega
  rw[if_neg c1,if_neg c3]
  by_cases c2:p * r.Bad < l * 100
  ·have c4:p' * r.Bad < l' * 100:=by omega
   rw[if_pos c2,if_pos c4]; exact Int.le_refl _
  rw[if_neg c2]
  split
  ·exact zA1 hq _
  ·exact Int.le_refl _
 ·rw[if_neg hcn,if_neg hcn]; exact Int.le_refl _
theorem zA3{r:Rl}{y:Yr}{l p:Int}(hl:y.Losses.Lo<=l/\l<=y.Losses.Hi)(hp:y.Premiums.Lo<=p/\p<=y.Premiums.Hi):kN r y l p∈kl (mkP (kB r y)):=by
 have hb:=zxq r y l p;exact zyi.2 ⟨hb,zxB.2 ⟨l,p,hl,hp,by omega⟩⟩
theorem zA4{r:Rl}{y:Yr}{k:Int}(h:k∈kl (mkP (kB r y))):∃l p,(y.Losses.Lo<=l/\l<=y.Losses.Hi)/\(y.Premiums.Lo<=p/\p<=y.Premiums.Hi)/\kN r y l p=k:=by
 obtain⟨h1,h2⟩:=zyi.1 h;obtain⟨l,p,q1,q2,q3⟩:=zxB.1 h2;exact⟨l,p,q1,q2,by omega⟩
def lsY(y:Yr)(a:Int):Yr:={ Losses:=⟨y.Losses.Lo+a,y.Losses.Hi+a⟩,Premiums:=y.Premiums,Parcels:=y.Parcels,Exempt:=y.Exempt }
def prY(y:Yr)(b:Int):Yr:={ Losses:=y.Losses,Premiums:=⟨y.Premiums.Lo+b,y.Premiums.Hi+b⟩,Parcels:=y.Parcels,Exempt:=y.Exempt }
theorem zA5{r:Rl}{y:Yr}{m:Int}(hm:0<=m):zAY r (mkP (kB r y)) (mkP (kB r (lsY y m))):=fun q hq=>by
 constructor
 ·intro k' hk';obtain⟨l,p,h1,h2,rfl⟩:=zA4 hk';have h1:y.Losses.Lo+m<=l/\l<=y.Losses.Hi+m:=h1;exact⟨_,zA3 (l:=l - m) (by omega) h2,zA2 (y:=y) (y':=lsY y m) rfl (by omega) (Int.le_refl _) (Int.le_refl _) hq⟩
 ·intro k hk;obtain⟨l,p,h1,h2,rfl⟩:=zA4 hk;exact⟨_,zA3 (y:=lsY y m) (l:=l+m) (show y.Losses.Lo+m<=l+m/\l+m<=y.Losses.Hi+m by omega) h2,zA2 (y:=y) (y':=lsY y m) rfl (by omega) (Int.le_refl _) (Int.le_refl _) hq⟩
theorem zA6{r:Rl}(hr:zw5 r){y:Yr}{m:Int}(hm:0<=m):zAY r (mkP (kB r (prY y m))) (mkP (kB r y)):=fun q hq=>by
 have hg:=hr.gb;have mono:∀p:Int,p * r.Good<=(p+m) * r.Good/\p * r.Bad<=(p+m) * r.Bad:=fun p=>⟨Int.mul_le_mul_of_nonneg_right (by omega) (by omega),Int.mul_le_mul_of_nonneg_right (by omega) (by omega)⟩
 constructor
 ·intro k' hk';obtain⟨l,p,h1,h2,rfl⟩:=zA4 hk';exact⟨_,zA3 (y:=prY y m) (p:=p+m) h1 (show y.Premiums.Lo+m<=p+m/\p+m<=y.Premiums.Hi+m by omega),zA2 (y:=prY y m) (y':=y) rfl (Int.le_refl _) (mono p).1 (mono p).2 hq⟩
 ·intro k hk;obtain⟨l,p,h1,h2,rfl⟩:=zA4 hk;have h2:y.Premiums.Lo+m<=p/\p<=y.Premiums.Hi+m:=h2;have h3:=mono (p - m);rw[show p - m+m=p by omega] at h3;exact⟨_,zA3 (p:=p - m) h1 (by omega),zA2 (y:=prY y m) (y':=y) rfl (Int.le_refl _) h3.1 h3.2 hq⟩
def zA7(z:Zn)(n:Nat)(y:Yr):Zn:={ First:=z.First,Years:=z.Years.set n y }
theorem zA8{r:Rl}{z:Zn}{n:Nat}{y:Yr}:zyQ r (zA7 z n y) n=zyQ r z n:=by
 have e:(zxW r (zA7 z n y)).can.take n=(zxW r z).can.take n:=by
  show((z.Years.set n y).map _).take n=(z.Years.map _).take n
  rw[<- List.map_take,<- List.map_take,List.take_set_of_le (Nat.le_refl n)]
 unfold zyQ;rw[e]; rfl
theorem zA9{z:Zn}{n:Nat}{y:Yr}(hn:n < z.Years.length):(zA7 z n y).Years[n]? = some y:=List.getElem?_set_self hn
theorem zBa{z:Zn}{n:Nat}{y:Yr}:(zA7 z n y).Years.length=z.Years.length:=List.length_set
theorem zBb{r:Rl}{z:Zn}(h:VZ r z)(n:Nat):∃a b,(zzg r z n)[0]? = some a/\(zzg r z n)[(zzg r z n).length - 1]? = some b:=by
 have hl:0 < (zzg r z n).length:=List.length_pos_iff.2 (zzj h n);exact⟨_,_,List.getElem?_eq_getElem hl,List.getElem?_eq_getElem (by omega)⟩
theorem zBc{w:Int}(hw:zl6 .u16 w):∃n:Nat,w=(n:Int)/\n < 65536/\zma .i64 w=(n:Int):=by
 have:=zrw hw;exact⟨w.toNat,by omega,by omega,(wz (fI (by omega))).trans (by omega)⟩
theorem zBd{r:Rl}{z:Zn}{by_:Int}(_:zr4 r)(_:zr7 z)(hb:zl6 .u16 by_):zug r z by_=some true:=by
 unfold zug
 refine zz5.pick (fun h=>?_) fun _=>by rw[if_neg (by decide)]; exact aw
 have h6:=h.y6;have hpl:=h.pl;rw[if_pos rfl]
 by_cases h0:z.Years.length=0
 ·rw[if_pos (by omega)]; exact aw
 obtain⟨w,rfl,hw,e⟩:=zBc hb;obtain⟨n,hn⟩:∃n,z.Years.length=n+1:=⟨z.Years.length - 1,by omega⟩
 have hnl:n < z.Years.length:=by omega
 have en:(z.Years.length:Int) - 1=(n:Int):=by omega
 obtain⟨m,hm,em⟩:∃m:Int,(0<=m/\m < 2000)/\(w:Int) % 2000=m:=⟨_,by omega,rfl⟩;have hy:=List.getElem?_eq_getElem hnl;have hyo:=h.full.ys _ (List.getElem_mem hnl);generalize z.Years[n]=y at hy hyo;obtain⟨⟨p1,p2,p3,p4⟩,⟨p5,p6,p7,p8⟩,_⟩:=hyo;obtain⟨a,b,ha,hb2⟩:=zBb h (n+1)
 have tailP:(zt6 r (zA7 z n (prY y m))).bind (fun f=>if f=0 then (zue r (zA7 z n (prY y m))).bind fun s=>(if s.2.2=true then (if a < s.1 then some false else if b < s.2.1 then some false else zua.bind fun r=>some r) else some false) else zua.bind fun r=>some r)=some true:=by
  rw[zz4 (by omega) (by rw[zBa]; omega),obs]
  by_cases hf:zw8 r (zA7 z n (prY y m))=0
  ·have hv:=zw9.1 hf;obtain⟨c,d,hc,hd⟩:=zBb hv (n+1);have hle:=zAZ hv h (zA9 hnl) hy zA8 (zA6 h.full.rl hm.1) hc hd ha hb2;rw[if_pos hf,zAX hv (by rw[zBa]; exact hn) hc hd,obs,if_pos rfl]
   show(if a < c then _ else if b < d then _ else _)=_
   rw[if_neg (by omega),if_neg (by omega)]; exact aw
  ·rw[if_neg hf]; exact aw
 rw[if_neg (by omega),e,en,em,zqr (by rw[List.length_nil]; omega),zqr (by rw[List.length_nil]; omega),zqr (fI (by omega)),zqr (by omega),zqr (by omega),zqr (fI (by omega)),zrx hy,obs,zqr (fI (by omega)),obs,zqr (fI (by omega)),List.nil_append,zrx hy,obs,obs,zqr (fI (by omega)),obs,zqr (fI (by omega)),obs,zAX h hn ha hb2,obs,if_pos rfl,Int.toNat_natCast]
 show(zt6 r (zA7 z n (lsY y m))).bind _=_
 rw[zz4 (by omega) (by rw[zBa]; omega),obs]
 by_cases hf:zw8 r (zA7 z n (lsY y m))=0
 ·have hv:=zw9.1 hf;obtain⟨c,d,hc,hd⟩:=zBb hv (n+1);have hle:=zAZ h hv hy (zA9 hnl) zA8.symm (zA5 hm.1) ha hb2 hc hd;rw[if_pos hf]
  show(zue r (zA7 z n (lsY y m))).bind _=_
  rw[zAX hv (by rw[zBa]; exact hn) hc hd,obs,if_pos rfl]
  show(if c < a then _ else if d < b then _ else _)=_
  rw[if_neg (by omega),if_neg (by omega)];exact tailP
 ·rw[if_neg hf];exact tailP
structure WdY (y y':Yr):Prop where
 l1:y'.Losses.Lo<=y.Losses.Lo
 l2:y.Losses.Hi<=y'.Losses.Hi
 p1:y'.Premiums.Lo<=y.Premiums.Lo
 p2:y.Premiums.Hi<=y'.Premiums.Hi
 pa:y'.Parcels=y.Parcels
 ex:y'.Exempt=y.Exempt
theorem WdY.refl(y:Yr):WdY y y:=⟨Int.le_refl _,Int.le_refl _,Int.le_refl _,Int.le_refl _,rfl,rfl⟩
theorem zBe{r:Rl}{y y':Yr}(h:WdY y y'):zxo r y'=zxo r y:=by unfold zxo; rw[h.pa,h.ex]
theorem zBf{r:Rl}{y y':Yr}(h:WdY y y')(l p:Int):kN r y' l p=kN r y l p:=by unfold kN; rw[zBe h]
theorem zBg{r:Rl}{y y':Yr}(h:WdY y y'){k:Int}(hk:k∈kl (mkP (kB r y))):k∈kl (mkP (kB r y')):=by
 obtain⟨l,p,h1,h2,rfl⟩:=zA4 hk;have a:=h.l1;have b:=h.l2;have c:=h.p1;have d:=h.p2;rw[<- zBf h];exact zA3 (by omega) (by omega)
structure WdZ (z x:Zn):Prop where
 f:x.First=z.First
 l:x.Years.length=z.Years.length
 at_:∀(i:Nat) (y y':Yr),z.Years[i]? = some y->x.Years[i]? = some y'->WdY y y'
theorem zBh{r:Rl}{z x:Zn}(h:WdZ z x){S:Nat->Bool}{m:Nat}{ks:List Int}(hf:Fit ks ((zzt r z S).take m)):Fit ks ((zzt r x S).take m):=by
 refine⟨by rw[hf.1,List.length_take,List.length_take,zzv,zzv,h.l],fun i k p hi hp=>?_⟩;rw[List.getElem?_take] at hp
 by_cases him:i < m
 ·rw[if_pos him] at hp;have hil:=(List.getElem?_eq_some_iff.1 hp).1;rw[zzv,h.l] at hil;have hg:=List.getElem?_eq_getElem hil;have hg':=List.getElem?_eq_getElem (show i < x.Years.length by rw[h.l]; exact hil);have hw:=h.at_ i _ _ hg hg';rw[zzu hg'] at hp
  cases hp
  have hk:=hf.2 i k _ hi (by rw[List.getElem?_take,if_pos him,zzu hg]);rw[zBe hw]
  by_cases hc:(S i && zxo r z.Years[i])=true
  ·rw[if_pos hc] at hk ⊢; exact hk
  ·rw[if_neg hc] at hk ⊢; exact zBg hw hk
 ·rw[if_neg him] at hp; cases hp
theorem zBi{r:Rl}{z x:Zn}(h:WdZ z x){S:Nat->Bool}{m:Nat}{q:Stt}(hq:q∈zzD r z S m):q∈zzD r x S m:=by
 obtain⟨ks,h1,rfl⟩:=zys.1 hq
 have e:st0 r x=st0 r z:=by unfold st0; rw[h.f]
 exact zys.2 ⟨ks,zBh h h1,by rw[e]⟩
theorem zBj{r:Rl}{z x:Zn}(h:WdZ z x){S:Nat->Bool}{c:Nat}(hc:zzH r z c S=true):zzH r x c S=true:=by
 obtain⟨q,h1,h2⟩:=zyI.1 (show clB (zzD r z S z.Years.length) c=true from hc);have h3:=zBi h h1;rw[<- h.l] at h3;exact zyI.2 ⟨q,h3,h2⟩
theorem zBk{r:Rl}{z x:Zn}(hz:VZ r z)(hx:VZ r x)(h:WdZ z x){m:Nat}{c:Int}(hc:c∈zzg r z m):c∈zzg r x m:=by
 obtain⟨q,h1,h2⟩:=(zzh hz).1 hc;rw[<- zzF] at h1;have h3:=zBi h h1;rw[zzF] at h3;exact(zzh hx).2 ⟨q,h3,h2⟩
theorem zBl{l m:List Int}(hs:∀v∈l,v∈m)(hl:l.length<=1000)(hm:m.length<=1000){x:Int}(hx:0<=x/\x<=1000){e f:Int}{K:Bool->Int->Option Bool}:zuh x (l,e) (m,f) K (l.length+1) false 0=K false (x+1):=by
 refine zw2 (n:=l.length) (fun d (s:Bool) y=>zuh x (l,e) (m,f) K d s y) (fun _=>false) (fun d k hk=>?_) (fun d=>?_) (l.length+1) 0 (by omega) (by omega)
 ·have hg:=List.getElem?_eq_getElem hk
  show zuh x (l,e) (m,f) K (d+1) false (k:Int)=_
  rw[zuh,if_pos (show(k:Int) < (l.length:Int) by omega)]
  show(idx l (k:Int)).bind _=_
  rw[zrx hg,obs,(zzU hm).some_of (hs _ (List.getElem_mem hk)),obs,if_pos rfl,zqr (fI (by omega))]
 ·show zuh x (l,e) (m,f) K (d+1) false (l.length:Int)=_
  rw[zuh,if_neg (show ¬ (l.length:Int) < (l.length:Int) by omega),zqr (fI (by omega))]
def wdY(y:Yr)(w:Int):Yr:={ Losses:=⟨max 0 (y.Losses.Lo - w % 4),min 10000 (y.Losses.Hi+w / 4 % 4)⟩,Premiums:=⟨max 0 (y.Premiums.Lo - w / 16 % 4),min 10000 (y.Premiums.Hi+w / 64)⟩,Parcels:=y.Parcels,Exempt:=y.Exempt }
theorem zBm{y:Yr}(hy:zw3 y){w:Int}(hw:0<=w/\w < 256):WdY y (wdY y w):=by
 obtain⟨⟨a,b,c,d⟩,⟨e,f,g,i⟩,_⟩:=hy;refine⟨?_,?_,?_,?_,rfl,rfl⟩
 ·show max 0 (y.Losses.Lo - w % 4)<=_; omega
 ·show _<=min 10000 (y.Losses.Hi+w / 4 % 4); omega
 ·show max 0 (y.Premiums.Lo - w / 16 % 4)<=_; omega
 ·show _<=min 10000 (y.Premiums.Hi+w / 64); omega
theorem zBn{z:Zn}{n:Nat}{y:Yr}(hy:z.Years[n]? = some y){y':Yr}(hw:WdY y y'):WdZ z (zA7 z n y'):=by
 refine⟨rfl,zBa,fun i a b ha hb=>?_⟩;have hb:(z.Years.set n y')[i]? = some b:=hb
 by_cases hi:n=i
 ·subst hi;rw[List.getElem?_set_self (List.getElem?_eq_some_iff.1 hy).1] at hb;rw[hy] at ha
  cases ha; cases hb; exact hw
 ·rw[List.getElem?_set_ne hi,ha] at hb
  cases hb; exact .refl _
theorem zBo{r:Rl}{z:Zn}(h:VZ r z){wh w wc:Int}{n c:Nat}(hn:n < z.Years.length)(e1:zma .i64 wh % (z.Years.length:Int)=(n:Int)){b:Int}(e2:zma .i64 w=b)(e3:zma .i64 wc % r.Classes=(c:Int))(hc:(c:Int)<=r.Classes - 1){y:Yr}(hx:VZ r (zA7 z n (wdY y b)))(hw:WdZ z (zA7 z n (wdY y b))):∀d k:Nat,k<=z.Years.length->z.Years.length - k < d->zui r z wh w wc y d false (k:Int)=some true
 | 0,k,_,hd=>by omega
 | d+1,k,hk,hd=>by
  have h6:=h.y6
  have hcn:∀A:Yr,(([]++z.Years).set n A).set n (wdY y b)=z.Years.set n (wdY y b):=fun A=>by rw[List.nil_append,List.set_set]
  rw[zui]
  simp only[e1,e2,e3,Int.toNat_natCast]
  by_cases hkn:k < z.Years.length
  ·have hkx:k < (zA7 z n (wdY y b)).Years.length:=by rw[zBa]; exact hkn
   rw[if_pos (by omega),zz6 h,obs,zz7 h,obs,zyS h hkn,obs,obs]
   have ez:∀A:Yr,zt3 { First:=z.First,Years:=(([]++z.Years).set n A).set n (wdY y b) }=some (zA7 z n (wdY y b)):=fun A=>by rw[hcn]; exact zz7 hx
   refine(congrArg (fun o=>Option.bind o _) (ez _)).trans ?_;rw[obs,zyS hx hkx,obs,if_pos rfl,if_pos rfl];have:=zBl (l:=zzg r z (k+1)) (m:=zzg r (zA7 z n (wdY y b)) (k+1)) (fun v hv=>zBk h hx hw hv) (Nat.le_trans (zyO _ _) (by omega)) (Nat.le_trans (zyO _ _) (by omega)) (x:=(k:Int)) (by omega) (e:=0) (f:=0) (K:=zui r z wh w wc y d);refine this.trans ?_;rw[show(k:Int)+1=((k+1:Nat):Int) by omega];exact zBo h hn e1 e2 e3 hc hx hw d (k+1) (by omega) (by omega)
  ·rw[if_neg (by omega),zz6 h,obs,zz7 h,obs]
   have ez:∀A:Yr,zt3 { First:=z.First,Years:=(([]++z.Years).set n A).set n (wdY y b) }=some (zA7 z n (wdY y b)):=fun A=>by rw[hcn]; exact zz7 hx
   rcases zzY h hc with ⟨M,q1,q2⟩ | ⟨q1,q2⟩
   ·rcases zzY hx hc with ⟨M',q3,q4⟩ | ⟨q3,q4⟩
    ·rw[q1,obs,obs];refine(congrArg (fun o=>Option.bind o _) (ez _)).trans ?_;rw[obs,q3,obs,if_pos rfl,if_pos rfl]
     have hle:M'.length<=M.length:=by
      have hi:=q2.inc;rw[<- hw.l] at hi
      rcases q4.min M hi (zBj hw q2.ok) with h1 | h1
      ·rw[h1]; exact Nat.le_refl _
      ·rcases zwV.1 h1 with h2 | h2 <;> omega
     refine(if_pos (show(M'.length:Int)<=(M.length:Int) by omega)).trans ?_;exact aw
    ·have hi:=q2.inc;rw[<- hw.l] at hi;have h1:=q4 M hi;have h2:zzH r (zA7 z n (wdY y b)) c (inD M)=true:=zBj hw q2.ok
     rw[h1] at h2; cases h2
   ·rcases zzY hx hc with ⟨M',q3,q4⟩ | ⟨q3,q4⟩
    ·rw[q1,obs,obs];refine(congrArg (fun o=>Option.bind o _) (ez _)).trans ?_;rw[obs,q3,obs]
     simp[zAk]
    ·rw[q1,obs,obs];refine(congrArg (fun o=>Option.bind o _) (ez _)).trans ?_;rw[obs,q3,obs]
     simp[zAk]
theorem zBp{r:Rl}{z:Zn}{which by_ class_:Int}(_:zr4 r)(_:zr7 z)(hw:zl6 .u8 which)(hb:zl6 .u8 by_)(hc:zl6 .u8 class_):zuj r z which by_ class_=some true:=by
 unfold zuj
 refine zz5.pick (fun h=>?_) fun _=>by rw[if_neg (by decide)]; exact aw
 have h6:=h.y6;have hpl:=h.pl;have hc0:=h.full.rl.c0;have hc6:=h.c6;rw[if_pos rfl]
 by_cases h0:z.Years.length=0
 ·rw[if_pos (by omega)]; exact aw
 obtain⟨w1,rfl,hw1,e1⟩:=u8n hw;obtain⟨w2,rfl,hw2,e2⟩:=u8n hb;obtain⟨w3,rfl,hw3,e3⟩:=u8n hc
 have em:(w1:Int) % (z.Years.length:Int)=((w1 % z.Years.length:Nat):Int):=by omega
 have hk:w1 % z.Years.length < z.Years.length:=Nat.mod_lt _ (by omega);have m1:=Int.emod_nonneg (w3:Int) (show r.Classes ≠ 0 by omega);have m2:=Int.emod_lt_of_pos (w3:Int) (show(0:Int) < r.Classes by omega);obtain⟨c,hcn⟩:∃c:Nat,(w3:Int) % r.Classes=(c:Int):=⟨((w3:Int) % r.Classes).toNat,by omega⟩
 have E1:zma .i64 (w1:Int) % (z.Years.length:Int)=((w1 % z.Years.length:Nat):Int):=by rw[e1,em]
 have E3:zma .i64 (w3:Int) % r.Classes=(c:Int):=by rw[e3]; exact hcn
 simp only[E1,E3,e2,Int.toNat_natCast]
 generalize w1 % z.Years.length=n at hk E1;have hy:=List.getElem?_eq_getElem hk;have hyo:=h.full.ys _ (List.getElem_mem hk);generalize z.Years[n]=y at hy hyo;have hwd:=zBm hyo (w:=(w2:Int)) (by omega);have hZ:=zBn hy hwd;obtain⟨⟨p1,p2,p3,p4⟩,⟨p5,p6,p7,p8⟩,_⟩:=hyo;rw[if_neg (by omega),zqr (by rw[List.length_nil]; omega),e1,zqr (by omega),zqr (by omega),zqr (fI (by omega)),List.nil_append,zrx hy,obs,zqr (by omega),zqr (by omega),zqr (fI (by omega)),zqr (fI (by omega)),zqr (by omega),zqr (by omega),zqr (fI (by omega)),zqr (by omega),zqr (by omega),zqr (fI (by omega)),zqr (fI (by omega)),zqr (by omega),zqr (by omega),zqr (fI (by omega)),zqr (by omega),zqr (by omega),zqr (fI (by omega)),zqr (fI (by omega)),zqr (by omega),zqr (by omega),zqr (fI (by omega)),zqr (fI (by omega)),List.set_set]
 show(zt6 r (zA7 z n (wdY y (w2:Int)))).bind _=_
 rw[zz4 (by omega) (by rw[zBa]; omega),obs]
 by_cases hf:zw8 r (zA7 z n (wdY y (w2:Int)))=0
 ·have hx:=zw9.1 hf;rw[if_pos hf,e3,zqr (by omega),zqr (by omega),zqr (fI (by omega))];exact zBo h hk E1 e2 E3 (by omega) hx hZ 1000000 0 (Nat.zero_le _) (by omega)
 ·rw[if_neg hf]; exact aw
end
end Go.Proofs.Ytlpjlgmoaipoiaa

