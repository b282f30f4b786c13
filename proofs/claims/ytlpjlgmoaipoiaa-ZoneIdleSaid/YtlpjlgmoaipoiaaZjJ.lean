/- An evaluator of code, its soundness, and what functions of the program do. Condition: none; a lemma text. -/
import Derived.Test.YtlpjlgmoaipoiaaZjI

namespace Go.Proofs.Ytlpjlgmoaipoiaa
open _root_.Go.Proofs.Try
open Go.Abs
set_option maxRecDepth 100000
noncomputable section
def zzM{α:Type}(l:List α)(k:Nat):List α:=l.take k++l.drop (k+1)
theorem zzN{α:Type}{l:List α}{k:Nat}(hk:k < l.length):(zzM l k).length=l.length - 1:=by
 unfold zzM;rw[List.length_append,List.length_take,List.length_drop]
 omega
theorem zzO{α:Type}{l:List α}{k i:Nat}(hk:k < l.length):(zzM l k)[i]? = if i < k then l[i]? else l[i+1]?:=by
 unfold zzM
 by_cases hi:i < k
 ·rw[if_pos hi,List.getElem?_append_left (by rw[List.length_take]; omega),List.getElem?_take,if_pos hi]
 ·rw[if_neg hi,List.getElem?_append_right (by rw[List.length_take]; omega),List.length_take,List.getElem?_drop]
  congr 1
  omega
theorem zzP{α:Type}{l:List α}{k:Nat}{x:α}(h:l[k]? = some x):l=l.take k++x::l.drop (k+1):=by
 obtain⟨hk,rfl⟩:=List.getElem?_eq_some_iff.1 h;rw[<- List.drop_eq_getElem_cons hk,List.take_append_drop]
def exY(y:Yr):Yr:={ Losses:=y.Losses,Premiums:=y.Premiums,Parcels:=y.Parcels,Exempt:=true }
def exZ(z:Zn)(k:Nat)(y:Yr):Zn:={ First:=z.First,Years:=z.Years.set k (exY y) }
def zzQ(z:Zn)(k:Nat):Zn:={ First:=z.First,Years:=zzM z.Years k }
def zzR(t:Tr)(k:Nat):Tr:={ Losses:=zzM t.Losses k,Premiums:=zzM t.Premiums k }
theorem zzS{r:Rl}{z:Zn}(h:VZ r z){k:Nat}{y:Yr}(hy:z.Years[k]? = some y):VZ r (exZ z k y):=by
 refine⟨⟨h.full.rl,h.full.first,fun y' hy'=>?_⟩,h.c6,by show(z.Years.set k (exY y)).length<=6; rw[List.length_set]; exact h.y6⟩
 rcases List.mem_or_eq_of_mem_set hy' with h1 | h1
 ·exact h.full.ys y' h1
 ·rw[h1]; exact h.full.ys y (List.mem_of_getElem? hy)
theorem zzT{r:Rl}{z:Zn}(h:VZ r z){k:Nat}(hk:k < z.Years.length):VZ r (zzQ z k):=by
 refine⟨⟨h.full.rl,h.full.first,fun y hy=>?_⟩,h.c6,by show(zzM z.Years k).length<=6; rw[zzN hk]; have:=h.y6; omega⟩
 rcases List.mem_append.1 (show y∈z.Years.take k++z.Years.drop (k+1) from hy) with h1 | h1
 ·exact h.full.ys y (List.mem_of_mem_take h1)
 ·exact h.full.ys y (List.mem_of_mem_drop h1)
theorem zzU{z:Zn}{t:Tr}(ht:zxq z t){k:Nat}(hk:k < z.Years.length):zxq (zzQ z k) (zzR t k):=by
 have h1:=ht.l;have h2:=ht.p;refine⟨by show(zzM t.Losses k).length=(zzM z.Years k).length; rw[zzN hk,zzN (by omega)]; omega,by show(zzM t.Premiums k).length=(zzM z.Years k).length; rw[zzN hk,zzN (by omega)]; omega,fun j y a b hy ha hb=>?_⟩;have hy:(zzM z.Years k)[j]? = some y:=hy;have ha:(zzM t.Losses k)[j]? = some a:=ha;have hb:(zzM t.Premiums k)[j]? = some b:=hb;rw[zzO hk] at hy;rw[zzO (by omega)] at ha hb
 by_cases hj:j < k
 ·rw[if_pos hj] at hy ha hb; exact ht.ok j y a b hy ha hb
 ·rw[if_neg hj] at hy ha hb; exact ht.ok (j+1) y a b hy ha hb
theorem zzV{r:Rl}{z:Zn}{t:Tr}(ht:zxq z t){k:Nat}(hk:k < z.Years.length):ktN r (zzQ z k) (zzR t k)=zzM (ktN r z t) k:=by
 have h1:=ht.l;have h2:=ht.p;have hl:=zxx (r:=r) ht;refine List.ext_getElem? fun i=>?_;rw[zzO (by omega)];have lr:(ktN r (zzQ z k) (zzR t k)).length=z.Years.length - 1:=(zxx (zzU ht hk)).trans (zzN hk)
 have at_:∀j,j < z.Years.length->(ktN r z t)[j]? = some (kN r (z.Years[j]?.getD (exY (z.Years[k]))) (t.Losses[j]?.getD 0) (t.Premiums[j]?.getD 0)):=fun j hj=>by
  have hg:=List.getElem?_eq_getElem hj;have ga:=List.getElem?_eq_getElem (show j < t.Losses.length by omega);have gb:=List.getElem?_eq_getElem (show j < t.Premiums.length by omega);rw[zxy hg ga gb,hg,ga,gb]; rfl
 have ar:∀j,i+1 < z.Years.length->(if i < k then i else i+1)=j->(ktN r (zzQ z k) (zzR t k))[i]? = (ktN r z t)[j]?:=fun j hi hj=>by
  have hjl:j < z.Years.length:=by rw[<- hj]; split <;> omega
  have hg:=List.getElem?_eq_getElem hjl;have ga:=List.getElem?_eq_getElem (show j < t.Losses.length by omega);have gb:=List.getElem?_eq_getElem (show j < t.Premiums.length by omega)
  have e1:(zzQ z k).Years[i]? = some z.Years[j]:=by show(zzM z.Years k)[i]? = _; rw[zzO hk,<- hg,<- hj]; split <;> rfl
  have e2:(zzR t k).Losses[i]? = some t.Losses[j]:=by show(zzM t.Losses k)[i]? = _; rw[zzO (by omega),<- ga,<- hj]; split <;> rfl
  have e3:(zzR t k).Premiums[i]? = some t.Premiums[j]:=by show(zzM t.Premiums k)[i]? = _; rw[zzO (by omega),<- gb,<- hj]; split <;> rfl
  rw[zxy e1 e2 e3,zxy hg ga gb]
 rcases Nat.lt_or_ge (i+1) z.Years.length with hi | hi
 ·by_cases hik:i < k
  ·rw[if_pos hik]; exact ar i hi (if_pos hik)
  ·rw[if_neg hik]; exact ar (i+1) hi (if_neg hik)
 ·rw[List.getElem?_eq_none (by omega)]
  by_cases hik:i < k
  ·omega
  ·rw[if_neg hik,List.getElem?_eq_none (by omega)]
theorem zzW{r:Rl}{y:Yr}:zwO r (exY y)=false:=rfl
theorem zzX{r:Rl}{y:Yr}(hy:zwt y):∀k,k∈kl (mkP (kB r (exY y)))↔k=0:=fun k=>by
 have hy:zwt (exY y):=hy
 constructor
 ·intro h;obtain⟨h1,h2⟩:=zxG.1 h;obtain⟨l,p,_,_,h3⟩:=zw0.1 h2;rw[zwR.2 zzW] at h3
  omega
 ·rintro rfl
  exact zxG.2 ⟨by omega,by rw[show Int.toNat 0=0 from rfl,zzd hy,zzW]; rfl⟩
theorem zzY{r:Rl}{y:Yr}(hy:zwt y){q q':Stt}:q'∈nx r (mkP (kB r (exY y))) q↔q'=q:=by
 unfold nx;rw[List.mem_map]
 constructor
 ·rintro⟨k,h1,rfl⟩
  rw[(zzX hy k).1 h1]; rfl
 ·rintro rfl
  exact⟨0,(zzX hy 0).2 rfl,rfl⟩
theorem zzZ{r:Rl}{s:Stt}{A:List P4}{p:P4}(hp:∀q q',q'∈nx r p q↔q'=q):∀(n:Nat) (B:List P4),B.length=n->∀q,q∈zxP r s (A++p::B)↔q∈zxP r s (A++B)
 | 0,B,hB,q=>by
  rw[List.eq_nil_of_length_eq_zero hB,List.append_nil,zxR];exact⟨fun⟨q',h1,h2⟩=>by rw[(hp q' q).1 h2]; exact h1,fun h=>⟨q,h,(hp q q).2 rfl⟩⟩
 | n+1,B,hB,q=>by
  have hg:=List.getElem?_eq_getElem (show n < B.length by omega)
  have e:B=B.take n++[B[n]]:=by rw[<- zxM hg,List.take_of_length_le (by omega)]
  rw[e,<- List.append_assoc,<- List.cons_append,<- List.append_assoc,zxR,zxR];exact exists_congr fun q'=>and_congr_left fun _=>zzZ hp n (B.take n) (by rw[List.length_take]; omega) q'
theorem zz0{z:Zn}{k:Nat}{y:Yr}(hk:k < z.Years.length):(exZ z k y).Years[k]? = some (exY y):=List.getElem?_set_self hk
theorem zz1{r:Rl}{z:Zn}(h:VZ r z){k:Nat}{y:Yr}(hy:z.Years[k]? = some y):zyE r (zzQ (exZ z k y) k) (zzQ (exZ z k y) k).Years.length=zyE r (exZ z k y) (exZ z k y).Years.length:=by
 have hk:=(List.getElem?_eq_some_iff.1 hy).1;have hv:=zzS h hy
 have hke:k < (exZ z k y).Years.length:=by show k < (z.Years.set k _).length; rw[List.length_set]; exact hk
 have hvr:=zzT hv hke;unfold zyE;refine zze fun c _=>?_;rw[zx6,zx6];refine exists_congr fun q=>and_congr_left fun _=>?_;have hc:=zyp (r:=r) (zz0 (y:=y) hk);have hs:=zzP hc
 have e1:zye r (exZ z k y) (exZ z k y).Years.length=zxP r (st0 r z) ((zxl r (exZ z k y)).can.take k++mkP (kB r (exY y))::(zxl r (exZ z k y)).can.drop (k+1)):=by
  rw[<- hs];unfold zye;rw[List.take_of_length_le (by rw[zyI]; exact Nat.le_refl _)]; rfl
 have e2:zye r (zzQ (exZ z k y) k) (zzQ (exZ z k y) k).Years.length=zxP r (st0 r z) ((zxl r (exZ z k y)).can.take k++(zxl r (exZ z k y)).can.drop (k+1)):=by
  unfold zye;rw[List.take_of_length_le (by rw[zyI]; exact Nat.le_refl _)]
  congr 1
  show(zzM (exZ z k y).Years k).map _=((exZ z k y).Years.map _).take k++((exZ z k y).Years.map _).drop (k+1)
  unfold zzM;rw[List.map_append,List.map_take,List.map_drop]
 rw[e1,e2];exact(zzZ (fun q q'=>zzY (h.full.ys y (List.mem_of_getElem? hy))) _ _ rfl q).symm
theorem zz2{r:Rl}{z:Zn}(h:VZ r z){k:Nat}{y:Yr}(hy:z.Years[k]? = some y):zyo r (exZ z k y) k (mkP (kB r (exY y)))=2:=by
 have hv:=zzS h hy;have hy2:=h.full.ys y (List.mem_of_getElem? hy);obtain⟨q,hq⟩:=zyD hv k;unfold zyo zyl;have e1:((zye r (exZ z k y) k).any fun q=>syB (nx r (mkP (kB r (exY y))) q) q.cls)=true:=List.any_eq_true.2 ⟨q,hq,zyj.2 ⟨q,(zzY hy2).2 rfl,rfl⟩⟩
 have e2:¬ ((zye r (exZ z k y) k).any fun q=>mvB (nx r (mkP (kB r (exY y))) q) q.cls)=true:=fun hm=>by
  obtain⟨q,_,h1⟩:=List.any_eq_true.1 hm;obtain⟨q',h2,h3⟩:=zyi.1 h1;exact h3 (by rw[(zzY hy2).1 h2])
 rw[if_pos e1,if_neg e2]
theorem zz3{r:Rl}{z:Zn}(h:VZ r z){k:Nat}{y:Yr}(hy:z.Years[k]? = some y){t:Tr}(ht:zxq (exZ z k y) t):zzM (zxu r (exZ z k y) t) k=zxu r (zzQ (exZ z k y) k) (zzR t k)/\zzK r (exZ z k y) t (k+1)=zzK r (exZ z k y) t k:=by
 have hk:=(List.getElem?_eq_some_iff.1 hy).1
 have hke:k < (exZ z k y).Years.length:=by show k < (z.Years.set k _).length; rw[List.length_set]; exact hk
 have h1:=ht.l;have h2:=ht.p;have ga:=List.getElem?_eq_getElem (show k < t.Losses.length by omega);have gb:=List.getElem?_eq_getElem (show k < t.Premiums.length by omega);have hx:=zxy (r:=r) (zz0 (y:=y) hk) ga gb;rw[zwR.2 zzW] at hx;have hl:=zxx (r:=r) ht
 constructor
 ·unfold zxu;rw[zzV ht hke]
  show zzM (zw7 r (st0 r z) (ktN r (exZ z k y) t)) k=zw7 r (st0 r z) (zzM (ktN r (exZ z k y) t) k)
  have hs:=zzP hx;generalize ktN r (exZ z k y) t=ks at hs hl hx
  have hlen:(zw7 r (st0 r z) (ks.take k)).length=k:=by rw[zxc,List.length_take]; omega
  conv=>lhs; rw[hs]
  unfold zzM;rw[zxb,zxb]
  show(zw7 r (st0 r z) (ks.take k)++(zw6 r (st0 r z) (ks.take k)).cls::zw7 r (zw6 r (st0 r z) (ks.take k)) (ks.drop (k+1))).take k++(zw7 r (st0 r z) (ks.take k)++(zw6 r (st0 r z) (ks.take k)).cls::zw7 r (zw6 r (st0 r z) (ks.take k)) (ks.drop (k+1))).drop (k+1)=_
  rw[List.take_left' hlen,List.drop_append,hlen,show k+1 - k=1 by omega,List.drop_of_length_le (by omega)]; rfl
 ·unfold zzK;rw[zxA hx]; rfl
theorem zz4{α:Type}{l:List α}{k:Nat}:(l.take (Int.toNat (l.length:Int))).drop (Int.toNat ((k:Int)+1))=l.drop (k+1):=by
 rw[Int.toNat_natCast,List.take_length,show Int.toNat ((k:Int)+1)=k+1 by omega]
theorem zz5{α:Type}{l:List α}{k:Nat}:(l.take (Int.toNat (k:Int))).drop (Int.toNat 0)=l.take k:=by rw[Int.toNat_natCast]; rfl
theorem zz6{l:List Int}(hl:l.length<=1000):zwi l=some l:=by
 unfold zwi;rw[zqs (by rw[List.length_nil]; omega)]; rfl
theorem zz7{z:Zn}{k:Nat}(hk:k < z.Years.length)(h6:z.Years.length<=100):ztX z (k:Int)=some (zzQ z k):=by
 unfold ztX;rw[zz5,zz4,zqs (by omega),zqs (by rw[List.length_take,List.length_nil]; omega),zqs (fI (by omega)),zqs (by omega),zqs (by rw[List.nil_append,List.length_take,List.length_drop]; omega)]; rfl
theorem zz8{r:Rl}{z:Zn}{which:Int}{words:List W8}(_:zr3 r)(_:zr6 z)(hb:zl6 .u8 which)(hw:words.length<=maxLen/\∀a∈words,zr8 a):zwj r z which words=some true:=by
 unfold zwj
 refine zzn.pick (fun h=>?_) fun _=>by rw[if_neg (by decide)]; exact aw
 have h6:=h.y6;rw[if_pos rfl]
 by_cases h0:z.Years.length=0
 ·rw[if_pos (by omega)]; exact aw
 obtain⟨n,rfl,hn,e⟩:=zzF hb;rw[if_neg (by omega),e]
 have em:(n:Int) % (z.Years.length:Int)=((n % z.Years.length:Nat):Int):=by omega
 have hk:n % z.Years.length < z.Years.length:=Nat.mod_lt _ (by omega);rw[em];generalize n % z.Years.length=k at hk;have hy:=List.getElem?_eq_getElem hk;generalize z.Years[k]=y at hy;have hx:=zzS h hy;have hxl:(exZ z k y).Years.length=z.Years.length:=List.length_set
 have hkx:k < (exZ z k y).Years.length:=by omega
 have hr:=zzT hx hkx;obtain⟨t,et,ht⟩:=zzI hx hw;have htr:=zzU ht hkx;have h1:=ht.l;have h2:=ht.p;have hp1:=zxD (r:=r) ht;have hp2:=zxD (r:=r) htr;have hrl:(zzQ (exZ z k y) k).Years.length=z.Years.length - 1:=(zzN hkx).trans (by rw[hxl]);obtain⟨i1,i2⟩:=zz3 h hy ht;rw[zqs (by omega),zqs (by omega),zqs (fI (by omega)),zqs (by rw[List.length_nil]; omega),List.nil_append,zrw hy,obs,Int.toNat_natCast]
 show(ztW (exZ z k y) words).bind _=_
 rw[et,obs]
 show(ztX (exZ z k y) (k:Int)).bind _=_
 rw[zz7 hkx (by omega),obs,zqs (by omega)]
 show(zwi (t.Losses.take k)).bind _=_
 rw[zz6 (by rw[List.length_take]; omega),obs,zqs (fI (by omega)),zqs (by omega),zz4,zqs (by rw[List.length_take,List.length_drop]; omega),zqs (by omega)]
 show(zwi (t.Premiums.take k)).bind _=_
 rw[zz6 (by rw[List.length_take]; omega),obs,zqs (fI (by omega)),zqs (by omega),zz4,zqs (by rw[List.length_take,List.length_drop]; omega),zzo h,obs]
 show(ztM (exZ z k y)).bind _=_
 rw[zzp hx,obs,zzJ hx ht,obs,zxC hx ht,obs,obs,zzp hr,obs]
 show(ztN (zzR t k)).bind _=_
 rw[zzJ hr htr,obs,zxC hr htr,obs,obs]
 show(ztM (exZ z k y)).bind _=_
 obtain⟨a,b,ha,hb⟩:=zzE hx (exZ z k y).Years.length;have hn1:=zyK hx ha hb;have fa:=zzD hx (List.mem_of_getElem? ha);have fb:=zzD hx (List.mem_of_getElem? hb);rw[<- zz1 h hy] at ha hb;have hn2:=zyK hr ha hb;rw[zzp hx,obs,zyr hx (zz0 hk),obs,obs]
 show(ztM (exZ z k y)).bind _=_
 rw[zzp hx,obs,hn1,obs,obs,obs,hn2,obs,if_pos rfl,if_pos rfl,if_pos rfl,if_pos rfl,if_pos rfl,zz2 h hy,if_pos rfl]
 show gd (zl6 .i64 (zyw r a)) (gd (zl6 .i64 (zyw r a)) (gd (zl6 .i64 (zyw r b)) (gd (zl6 .i64 (zyw r b)) (if (decide (zyw r a=zyw r a) && decide (zyw r b=zyw r b))=true then _ else _))))=_
 rw[zqs fa,zqs fa,zqs fb,zqs fb,if_pos (by simp)];refine(if_pos (show((zxu r (exZ z k y) t).length:Int)=((exZ z k y).Years.length:Int) by omega)).trans ?_;refine(if_pos (show((zxu r (zzQ (exZ z k y) k) (zzR t k)).length:Int)=((zzQ (exZ z k y) k).Years.length:Int) by omega)).trans ?_;have hpk:idx (zxu r (exZ z k y) t) (k:Int)=some (zzK r (exZ z k y) t (k+1)):=zrw (zzL ht hkx)
 have tail:(gd (0<=(0:Int)/\(0:Int)<=(k:Int)/\(k:Int)<=((zxu r (exZ z k y) t).length:Int)) ((zwi ((zxu r (exZ z k y) t).take k)).bind fun l=>gd (zl6 .i64 ((k:Int)+1)) (gd (0<=(k:Int)+1/\(k:Int)+1<=((zxu r (exZ z k y) t).length:Int)/\((zxu r (exZ z k y) t).length:Int)<=((zxu r (exZ z k y) t).length:Int)) (gd (l.length+((zxu r (exZ z k y) t).drop (k+1)).length<=1048576) ((zsn (l++(zxu r (exZ z k y) t).drop (k+1)) (zxu r (zzQ (exZ z k y) k) (zzR t k))).bind fun b=>if b=true then ztT.bind fun r=>some r else some false)))))=some true:=by
  rw[zqs (by omega),zz6 (by rw[List.length_take]; omega),obs,zqs (fI (by omega)),zqs (by omega),zqs (by rw[List.length_take,List.length_drop]; omega)]
  show(zsn (zzM (zxu r (exZ z k y) t) k) _).bind _=_
  rw[i1,zzg (by omega),obs,if_pos rfl]; exact aw
 by_cases h0k:0 < k
 ·have hpk1:idx (zxu r (exZ z k y) t) ((k:Int) - 1)=some (zzK r (exZ z k y) t k):=by
   have:=zzL (r:=r) ht (show k - 1 < (exZ z k y).Years.length by omega);rw[show k - 1+1=k by omega] at this;rw[show(k:Int) - 1=((k - 1:Nat):Int) by omega];exact zrw this
  rw[if_pos (by omega),zqs (fI (by omega))]
  show(idx (zxu r (exZ z k y) t) ((k:Int) - 1)).bind _=_
  rw[hpk1,obs]
  show(idx (zxu r (exZ z k y) t) (k:Int)).bind _=_
  rw[hpk,obs,if_pos i2]
  show gd _ ((zwi ((zxu r (exZ z k y) t).take k)).bind _)=_
  rw[zz4];exact tail
 ·have hk0:k=0:=by omega
  rw[if_neg (by omega)]
  show(idx (zxu r (exZ z k y) t) (k:Int)).bind _=_
  have e0:zzK r (exZ z k y) t k=z.First:=by rw[hk0]; rfl
  rw[hpk,obs,if_pos (i2.trans e0)]
  show gd _ ((zwi ((zxu r (exZ z k y) t).take k)).bind _)=_
  rw[zz4];exact tail
end
end Go.Proofs.Ytlpjlgmoaipoiaa

