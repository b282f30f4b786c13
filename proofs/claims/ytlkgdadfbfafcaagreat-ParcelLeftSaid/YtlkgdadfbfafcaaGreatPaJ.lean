/- An evaluator of code, its soundness, and what functions of the program do. Condition: none; a lemma text. -/
import Derived.Test.YtlkgdadfbfafcaaGreatPaI

namespace Go.Proofs.YtlkgdadfbfafcaaGreat
open _root_.Go.Proofs.Tryz
open Go.Abs
set_option maxRecDepth 100000
noncomputable section
theorem zAw{α:Type}{k:Nat}{v a0 a1 a2 a3 a4 a5:α}(hk:k < 6):([sti (k:Int) 0 v a0,sti (k:Int) 1 v a1,sti (k:Int) 2 v a2,sti (k:Int) 3 v a3,sti (k:Int) 4 v a4,sti (k:Int) 5 v a5]:List α)[k]? = some v/\∀i,i ≠ k->([sti (k:Int) 0 v a0,sti (k:Int) 1 v a1,sti (k:Int) 2 v a2,sti (k:Int) 3 v a3,sti (k:Int) 4 v a4,sti (k:Int) 5 v a5]:List α)[i]? = ([a0,a1,a2,a3,a4,a5]:List α)[i]?:=by
 have e:∀(j:Nat) (x:α),sti (k:Int) j v x=if k=j then v else x:=fun j x=>by
  unfold sti
  by_cases h:k=j
  ·rw[if_pos h,if_pos (by omega)]
  ·rw[if_neg h,if_neg (by omega)]
 simp only[e]
 have:k=0\/k=1\/k=2\/k=3\/k=4\/k=5:=by omega
 rcases this with rfl | rfl | rfl | rfl | rfl | rfl <;> exact⟨rfl,fun i hi=>by rcases i with _ | _ | _ | _ | _ | _ | i <;> first | rfl | exact absurd rfl hi⟩
theorem zAx{o:O6}{f:Nat->Bool}(h:∀i,i < 6->(zxN o)[i]? = some (f i)){i:Nat}(hi:i < 6):zxO o i=f i:=by
 unfold zxO;rw[List.getD_eq_getElem?_getD,h i hi]; rfl
section
variable {w:Wk} {b:Boo} {O:O6} (hw:zxS w b O)
include hw
theorem zAy{D:List Int}(hl:D.length<=1000)(hD:∀v∈D,0<=v/\v < 6)(hO:∀i,zxO O i=false):∃w' O',ztY w D=some w'/\zxS w' b O'/\∀i,i < 6->zxO O' i=inD D i:=by
 have key:∀(d k:Nat) (a0 a1 a2 a3 a4 a5:Bool),k<=D.length->D.length - k < d->(∀i,i < 6->([a0,a1,a2,a3,a4,a5]:List Bool)[i]? = some (inD (D.take k) i)) ->
   ∃w' O',ztX w D d w.b.Last w.b.Owners w.numbers w.makes.m0 w.makes.m1 w.makes.m2 w.makes.m3 w.makes.m4 w.makes.m5 a0 a1 a2 a3 a4 a5 (k:Int)=some w'/\zxS w' b O'/\∀i,i < 6->zxO O' i=inD D i:=by
  intro d
  induction d with
  | zero=>intro k _ _ _ _ _ _ _ h; omega
  | succ d ih=>
   intro k a0 a1 a2 a3 a4 a5 hk h ha;rw[ztX]
   by_cases hkn:k < D.length
   ·have hg:=List.getElem?_eq_getElem hkn;have hv:=hD _ (List.getElem_mem hkn);obtain⟨v,hv'⟩:∃v:Nat,D[k]=(v:Int):=⟨D[k].toNat,by omega⟩;obtain⟨s1,s2⟩:=zAw (α:=Bool) (k:=v) (v:=true) (a0:=a0) (a1:=a1) (a2:=a2) (a3:=a3) (a4:=a4) (a5:=a5) (by omega);rw[if_pos (by omega),zrX hg,obs,zq0 (by omega),zq0 (fI (by omega)),hv',show(k:Int)+1=((k+1:Nat):Int) by omega];refine ih (k+1) _ _ _ _ _ _ (by omega) (by omega) fun i hi=>?_
    have e:D.take (k+1)=D.take k++[(v:Int)]:=by rw[List.take_add_one,hg,hv']; rfl
    by_cases hiv:i=v
    ·subst hiv;rw[s1,e];exact congrArg some (decide_eq_true (by simp)).symm
    ·rw[s2 i hiv,ha i hi,e];unfold inD;exact congrArg some (decide_eq_decide.2 (by rw[List.mem_append,List.mem_singleton]; exact⟨.inl,fun h=>h.resolve_right (by omega)⟩))
   ·have hkl:k=D.length:=by omega
    subst hkl;rw[List.take_length] at ha;rw[if_neg (by omega)];have e1:=hw.eb;subst e1;exact⟨_,_,rfl,⟨rfl,hw.n,rfl,hw.m⟩,fun i hi=>zAx (o:={ o0:=a0,o1:=a1,o2:=a2,o3:=a3,o4:=a4,o5:=a5 }) ha hi⟩
 unfold ztY;have ho:=hw.o;refine key (D.length+1) 0 _ _ _ _ _ _ (Nat.zero_le _) (by omega) fun i hi=>?_;rw[ho];refine(zxR hi).trans (congrArg some ?_);rw[hO i]; rfl
theorem zAz{n:Nat}(h6:b.Entries.length<=6)(hO:∀i,zxO O i=false):∃w' O',ztW w (n:Int)=some w'/\zxS w' b O'/\∀i,i < b.Entries.length->zxO O' i=decide (n < i):=by
 have e1:=hw.eb;subst e1
 have key:∀(d k:Nat) (a0 a1 a2 a3 a4 a5:Bool),k<=w.b.Entries.length->w.b.Entries.length - k < d->(∀i,i < 6->([a0,a1,a2,a3,a4,a5]:List Bool)[i]? = some (if i < k then decide (n < i) else false)) ->
   ∃w' O',ztV w (n:Int) d w.b.Last w.b.Owners w.numbers w.makes.m0 w.makes.m1 w.makes.m2 w.makes.m3 w.makes.m4 w.makes.m5 a0 a1 a2 a3 a4 a5 (k:Int)=some w'/\zxS w' w.b O'/\∀i,i < w.b.Entries.length->zxO O' i=decide (n < i):=by
  intro d
  induction d with
  | zero=>intro k _ _ _ _ _ _ _ h; omega
  | succ d ih=>
   intro k a0 a1 a2 a3 a4 a5 hk h ha;rw[ztV]
   by_cases hkn:k < w.b.Entries.length
   ·obtain⟨s1,s2⟩:=zAw (α:=Bool) (k:=k) (v:=decide ((n:Int) < (k:Int))) (a0:=a0) (a1:=a1) (a2:=a2) (a3:=a3) (a4:=a4) (a5:=a5) (by omega);rw[if_pos (by omega),zq0 (by omega),zq0 (fI (by omega)),show(k:Int)+1=((k+1:Nat):Int) by omega];refine ih (k+1) _ _ _ _ _ _ (by omega) (by omega) fun i hi=>?_
    by_cases hik:i=k
    ·subst hik;rw[s1,if_pos (by omega)];exact congrArg some (decide_eq_decide.2 (by omega))
    ·rw[s2 i hik,ha i hi]
     by_cases h2:i < k
     ·rw[if_pos h2,if_pos (by omega)]
     ·rw[if_neg h2,if_neg (by omega)]
   ·rw[if_neg (by omega)];refine⟨_,_,rfl,⟨rfl,hw.n,rfl,hw.m⟩,fun i hi=>?_⟩;have:=zAx (o:={ o0:=a0,o1:=a1,o2:=a2,o3:=a3,o4:=a4,o5:=a5 }) ha (i:=i) (by omega);rw[if_pos (by omega)] at this;exact this
 unfold ztW;have ho:=hw.o;refine key (w.b.Entries.length+1) 0 _ _ _ _ _ _ (Nat.zero_le _) (by omega) fun i hi=>?_;rw[ho,if_neg (by omega)];refine(zxR hi).trans (congrArg some ?_);exact hO i
end
theorem zAA{b:Boo}(hb:zsm b)(hf:zxJ b=0):ztn b=some 0:=by rw[zyf hb,hf]
section
variable {b:Boo} (h:zzz b)
include h
theorem wkV:ztg b=some (wkN b)/\zxS (wkN b) b zxL:=zyW h.e6 (by have:=h.p4; omega)
theorem zAB{D:List Int}(hD:Inc b.Entries.length 0 D):Ev (ztZ D (wkN b)) (zzJ b (inD D)):=by
 have h6:=h.e6;have hl:=zwK hD;obtain⟨w',O',q1,q2,q3⟩:=zAy (wkV h).2 (D:=D) (by omega) (fun v hv=>by have:=hD.2 v hv; omega) fun i=>zya;unfold ztZ;rw[q1,obs];have:=((zz0 h q2).imp (zzJ.congr (o':=inD D) fun j hj=>q3 j (by omega)));exact this.ret
theorem zAC(hb:zsm b)(hf:zxJ b=0):∃M,zt0 b=some (M,0)/\zAc b.Entries.length (zzJ b) M:=by
 have h6:=h.e6
 have ht:∀D,Inc b.Entries.length 0 D->((ztZ D (wkN b)).getD false=true↔zzJ b (inD D)):=fun D hD=>by
  obtain⟨x,q1,q2⟩:=zAB h hD;rw[q1]; exact q2
 obtain⟨s1,s2,s3⟩:=zw7 (n:=b.Entries.length) (t:=fun L=>(ztZ L (wkN b)).getD false) ⟨zz8 b.Entries.length,zz9 _,(ht _ (zz9 _)).2 (zzJ.all h fun j hj=>zAa hj)⟩;refine⟨zrU b.Entries.length fun L=>(ztZ L (wkN b)).getD false,?_,s1,(ht _ s1).1 s2,fun D hD hD2=>s3 D hD ((ht D hD).2 hD2)⟩;unfold zt0 zrV
 rw[zAA hb hf,obs,if_pos rfl,(wkV h).1,obs,(wkV h).2.eb,zq0 ⟨by omega,by omega,fun L hL=>by
  have hI:Inc b.Entries.length 0 L:=by rw[Int.toNat_natCast] at hL; exact zwL.1 hL
  obtain⟨x,q1,_⟩:=zAB h hI
  show(ztZ L (wkN b)).isSome=true
  rw[q1]; rfl⟩,obs,Int.toNat_natCast]
def FP(b:Boo)(j:Nat):Prop:=zzJ b fun i=>decide (j < i)
theorem zAD(hb:zsm b)(hf:zxJ b=0):(∃j,j < b.Entries.length/\¬ FP b j/\(∀i,i < j->FP b i)/\zt2 b=some ((j:Int),0))\/((∀j,j < b.Entries.length->FP b j)/\zt2 b=some (0,7)):=by
 have h6:=h.e6;have hw:=(wkV h).2
 have key:=zAf (n:=b.Entries.length) (F:=fun d x=>zt1 (wkN b) d x) (ok:=FP b) (res:=fun j=>some ((j:Int),0)) (fin:=some (0,7)) (fun d k hk=>by
  obtain⟨w',O',q1,q2,q3⟩:=zAz hw (n:=k) h6 fun i=>zya;have hev:Ev (ztU w') (FP b k):=(zz0 h q2).imp (zzJ.congr fun j hj=>q3 j hj)
  show(_->zt1 (wkN b) (d+1) (k:Int)=_)/\(_->zt1 (wkN b) (d+1) (k:Int)=_)
  rw[zt1,hw.eb,if_pos (by omega),q1,obs]
  exact hev.step (by rw[if_pos rfl,zq0 (fI (by omega))]) (by rw[if_neg (by simp)])) (fun d=>by rw[zt1,hw.eb,if_neg (Int.lt_irrefl _)]) (b.Entries.length+1) 0 (Nat.zero_le _) (by omega)
 unfold zt2;rw[zAA hb hf,obs,if_pos rfl,(wkV h).1,obs,hw.eb]
 rcases key with ⟨j,_,q2,q3,q4,q5⟩ | ⟨q1,q2⟩
 ·exact .inl ⟨j,q2,q3,fun i hi=>q4 i (Nat.zero_le _) hi,q5⟩
 ·exact .inr ⟨fun j hj=>q1 j (Nat.zero_le _) hj,q2⟩
theorem zAE{x:Nat}:zzJ b (inD (zwN x))↔zzJ b fun j=>x.testBit j:=zzJ.congr fun j hj=>zxb (n:=b.Entries.length) (by have:=h.e6; omega) hj
theorem zAF:∀(d x:Nat) (best:List Int),x<=2 ^ b.Entries.length->2 ^ b.Entries.length - x < d->Inc b.Entries.length 0 best->zzJ b (inD best)->(∀c,c < x->(zzJ b fun j=>c.testBit j)->zwN c=best\/shB best (zwN c)=true) ->
  ∃M,zt7 b d best (x:Int)=some M/\zAc b.Entries.length (zzJ b) M
 | 0,x,best,_,hd,_,_,_=>by omega
 | d+1,x,best,hx,hd,h1,h2,h3=>by
  have h6:=h.e6;have hp:=zAg (i:=b.Entries.length) (by omega);have hp0:=Nat.two_pow_pos b.Entries.length;rw[zt7,zAh h6,zq0 (by omega),wu (show b.Entries.length<=64 by omega),zq0 (by omega),zq0 (by omega),zq0 (fI (by omega))]
  by_cases hxe:x=2 ^ b.Entries.length
  ·rw[if_neg (by omega)];refine⟨best,rfl,h1,h2,fun D hD hD2=>?_⟩;obtain⟨c,hc,rfl⟩:=zxc (n:=b.Entries.length) (by omega) hD;exact h3 c (by omega) ((zAE h).1 hD2)
  ·have hl:=zAb (b:=x)
   have hxl:x < 2 ^ b.Entries.length:=by omega
   rw[if_pos (by omega),zz4 (by omega),obs,zz7 (by omega),obs];have hi:Inc b.Entries.length 0 (zwN x):=zxa (by omega) hxl
   have hnext:(x:Int)+1=((x+1:Nat):Int):=by omega
   cases hs:shB (zwN x) best with
   | true=>
    rw[if_pos rfl];obtain⟨c,hc1,hc2⟩:=zAv h (zAu (x:=x) (by omega));rw[hc1,obs]
    cases c with
    | true=>
     rw[if_pos rfl,zq0 (fI (by omega)),hnext];refine zAF d (x+1) _ (by omega) (by omega) hi ((zAE h).2 (hc2.1 rfl)) fun c hc hcr=>?_
     rcases Nat.lt_or_ge c x with h5 | h5
     ·rcases h3 c h5 hcr with h6 | h6
      ·rw[h6]; exact .inr hs
      ·exact .inr (zwY hs h6)
     ·rw[show c=x by omega]; exact .inl rfl
    | false=>
     rw[if_neg (by simp),zq0 (fI (by omega)),hnext];refine zAF d (x+1) _ (by omega) (by omega) h1 h2 fun c hc hcr=>?_
     rcases Nat.lt_or_ge c x with h5 | h5
     ·exact h3 c h5 hcr
     ·rw[show c=x by omega] at hcr;have:=hc2.2 hcr
      cases this
   | false=>
    rw[if_neg (by simp),zq0 (fI (by omega)),hnext];refine zAF d (x+1) _ (by omega) (by omega) h1 h2 fun c hc hcr=>?_
    rcases Nat.lt_or_ge c x with h5 | h5
    ·exact h3 c h5 hcr
    ·rw[show c=x by omega]
     rcases zwZ (zwN x) best with h6 | h6 | h6
     ·exact .inl h6
     ·rw[hs] at h6; cases h6
     ·exact .inr h6
theorem zAG:∃M,zt8 b=some M/\zAc b.Entries.length (zzJ b) M:=by
 have h6:=h.e6;have hp:=zAg (i:=b.Entries.length) (by omega);have hp0:=Nat.two_pow_pos b.Entries.length;unfold zt8;rw[zAh h6,zq0 (by omega),wu (show b.Entries.length<=64 by omega),zq0 (by omega),zq0 (by omega),zq0 (fI (by omega)),zq0 (fI (by omega)),show((2 ^ b.Entries.length:Nat):Int) - 1=((2 ^ b.Entries.length - 1:Nat):Int) by omega,zz4 (by omega),obs]
 refine zAF h 1000000 0 _ (Nat.zero_le _) (by omega) (zxa (by omega) zAd) ?_ fun c hc=>by omega
 refine zzJ.all h fun j hj=>?_;rw[zxb (n:=b.Entries.length) (by omega) hj,Nat.testBit_two_pow_sub_one,decide_eq_true hj]
theorem zAH:(∃j,j < b.Entries.length/\¬ FP b j/\(∀i,i < j->FP b i)/\zt6 b=some (j:Int))\/((∀j,j < b.Entries.length->FP b j)/\zt6 b=some (-1)):=by
 have h6:=h.e6;have hq:=zAg (i:=b.Entries.length) (by omega);have hq0:=Nat.two_pow_pos b.Entries.length
 have key:=zAf (n:=b.Entries.length) (F:=zt5 b) (ok:=FP b) (res:=fun j=>some (j:Int)) (fin:=some (-1)) (fun d k hk=>by
  have hp:=zAg (i:=k+1) (by omega);have hp0:=Nat.two_pow_pos (k+1);have hlt:2 ^ (k+1) - 1 < 2 ^ b.Entries.length:=Nat.lt_of_lt_of_le (zAd (n:=k+1)) (Nat.pow_le_pow_right (by omega) (by omega));obtain⟨c1,c2⟩:=zAe (n:=b.Entries.length) hlt;have hwk:zmJ .u64 (((k+1:Nat):Int))=((k+1:Nat):Int):=wu (by omega);rw[zt5,if_pos (by omega),zq0 (fI (by omega)),show(k:Int)+1=((k+1:Nat):Int) by omega,zAh (n:=k+1) (by omega),zAh h6,zq0 (by omega),hwk,zq0 (by omega),zq0 (by omega),zq0 (fI (by omega)),show((2 ^ (k+1):Nat):Int) - 1=((2 ^ (k+1) - 1:Nat):Int) by omega,show((2 ^ b.Entries.length:Nat):Int) - 1=((2 ^ b.Entries.length - 1:Nat):Int) by omega,zq0 (fI (by omega)),zq0 (by omega),zq0 (by omega),zq0 (fI (by omega)),zq0 (fI (by omega)),Int.toNat_natCast,Int.toNat_natCast,zq0 (fI (by omega))]
  have hc:Ev (zt4 b ((Nat.xor (2 ^ b.Entries.length - 1) (Nat.land (2 ^ b.Entries.length - 1) (2 ^ (k+1) - 1)):Nat):Int)) (FP b k):=(zAv h (zAu (by omega))).imp (zzJ.congr fun j hj=>by
   rw[c2 j hj,Nat.testBit_two_pow_sub_one]
   by_cases hjk:j < k+1
   ·rw[decide_eq_true hjk,decide_eq_false (by omega)]; rfl
   ·rw[decide_eq_false hjk,decide_eq_true (by omega)]; rfl)
  exact hc.step (by rw[if_pos rfl,zq0 (fI (by omega))]) (by rw[if_neg (by simp)])) (fun d=>by rw[zt5,if_neg (Int.lt_irrefl _)]) 1000000 0 (Nat.zero_le _) (by omega)
 unfold zt6;rw[zAh h6,zq0 (by omega),wu (show b.Entries.length<=64 by omega),zq0 (by omega),zq0 (by omega),zq0 (fI (by omega)),zq0 (fI (by omega))]
 rcases key with ⟨j,_,q2,q3,q4,q5⟩ | ⟨q1,q2⟩
 ·exact .inl ⟨j,q2,q3,fun i hi=>q4 i (Nat.zero_le _) hi,q5⟩
 ·exact .inr ⟨fun j hj=>q1 j (Nat.zero_le _) hj,q2⟩
end
theorem zAI{b:Boo}{j j':Nat}(h1:¬ FP b j)(h2:∀i,i < j->FP b i)(h3:¬ FP b j')(h4:∀i,i < j'->FP b i):j=j':=by
 rcases Nat.lt_trichotomy j j' with h | h | h
 ·exact absurd (h4 j h) h1
 ·exact h
 ·exact absurd (h2 j' h) h3
end
end Go.Proofs.YtlkgdadfbfafcaaGreat

namespace Go.Proofs.YtlkgdadfbfafcaaGreat
open _root_.Go.Proofs.Tryz
open Go.Abs
set_option maxRecDepth 100000
noncomputable section
theorem aw:((zss).bind fun r=>some r)=some true:=rfl
theorem zAJ{b:Boo}:Ev (zsV b) (b.Parcels.length<=7/\b.Entries.length<=9):=(Ev.ite fun _=>Ev.dec Iff.rfl).imp (by omega)
theorem zAK{b:Boo}(hb:zsm b):zua b=some (zxJ b):=by
 unfold zua;rw[zxK hb.2.1,obs]
theorem zAL{b:Boo}(hb:zsm b):Ev (zub b) ((b.Parcels.length<=7/\b.Entries.length<=9)/\zxJ b=0):=by
 unfold zub;exact zAJ.and fun _=>Ev.bind (zAK hb) (Ev.dec Iff.rfl)
theorem zAM{b:Boo}(h1:b.Entries.length<=1000)(h2:b.Parcels.length<=1000):zsU b=some b:=by
 unfold zsU;refine(zr1 (l:=b.Parcels) id (F:=fun d acc x=>zsT b d b.Last b.Owners acc [] x) (fun acc=>zsS b acc 1000000 b.Last b.Owners [] 0) (fun d k acc a hk ha=>?_) (fun d acc=>by rw[zsT,if_neg (Int.lt_irrefl _)]) (by omega)).trans ?_
 ·have hkl:=(List.getElem?_eq_some_iff.1 hk).1;rw[zsT,if_pos (by omega),zrX hk,obs]
  show((some a.Sown).bind _)=_
  rw[obs,zq0 (by omega),zq0 (fI (by omega))]; rfl
 ·rw[List.map_id];refine(zr1 (l:=b.Entries) id (F:=fun d acc x=>zsS b b.Parcels d b.Last b.Owners acc x) (fun acc=>some { Last:=b.Last,Owners:=b.Owners,Parcels:=b.Parcels,Entries:=acc }) (fun d k acc a hk ha=>?_) (fun d acc=>by rw[zsS,if_neg (Int.lt_irrefl _)]) (by omega)).trans ?_
  ·have hkl:=(List.getElem?_eq_some_iff.1 hk).1;rw[zsS,if_pos (by omega),zrX hk,obs]
   show((some a.Day).bind _)=_
   rw[obs,zq0 (by omega),zq0 (fI (by omega))]; rfl
  ·rw[List.map_id]
theorem zAN{M:List Int}(hl:M.length<=1000):zt9 M M=some true:=by
 unfold zt9;rw[if_pos rfl,zz6 hl,zwT,obs,if_neg (by simp),obs]; rfl
theorem zAO{b:Boo}(hb:zsm b)(hf:zxJ b ≠ 0):zt0 b=some ([],zxJ b):=by
 unfold zt0;rw[zyf hb,obs,if_neg hf]
theorem zAP{b:Boo}(hb:zsm b)(hf:zxJ b ≠ 0):zt2 b=some (0,zxJ b):=by
 unfold zt2;rw[zyf hb,obs,if_neg hf]
theorem zAQ{b:Boo}(hb:zsm b):zud b=some true:=by
 unfold zud
 refine zAJ.pick (fun ht=>?_) fun _=>by rw[if_neg (by decide),aw]
 rw[if_pos rfl,zAM (by omega) (by omega),obs]
 by_cases hf:zxJ b=0
 ·have h:=zzA hf;obtain⟨M,q1,q2⟩:=zAC h hb hf;obtain⟨M',r1,r2⟩:=zAG h;have hMM:M=M':=q2.uniq r2;subst hMM;have hl:=zwK q2.inc;have h6:=h.e6;have hs:=zAN (M:=M) (by omega)
  rcases zAD h hb hf with ⟨j,a1,a2,a3,a4⟩ | ⟨a1,a2⟩
  ·rcases zAH h with ⟨j',b1,b2,b3,b4⟩ | ⟨b1,b2⟩
   ·have:j=j':=zAI a2 a3 b2 b3;subst this;rw[a4,obs,obs,q1,obs,zAK hb,obs,if_pos hf,b4,obs,if_neg (by omega)]
    show(if (0:Int)=0 then (if (j:Int)=(j:Int) then (if (0:Int)=0 then _ else _) else _) else _)=_
    rw[if_pos rfl,if_pos rfl,if_pos rfl,r1,obs,hs,obs,if_pos rfl,aw]
   ·exact absurd (b1 j a1) a2
  ·rcases zAH h with ⟨j',b1,b2,b3,b4⟩ | ⟨b1,b2⟩
   ·exact absurd (a1 j' b1) b2
   ·rw[a2,obs,obs,q1,obs,zAK hb,obs,if_pos hf,b2,obs,if_pos (by decide)]
    show(if (7:Int)=7 then (if (0:Int)=0 then (if (0:Int)=0 then _ else _) else _) else _)=_
    rw[if_pos rfl,if_pos rfl,if_pos rfl,r1,obs,hs,obs,if_pos rfl,aw]
 ·rw[zAP hb hf,obs,obs,zAO hb hf,obs,zAK hb,obs,if_neg hf]
  show(if zxJ b=zxJ b then (if zxJ b=zxJ b then (if (0:Int)=0 then (if (0:Int)=0 then _ else _) else _) else _) else _)=_
  rw[if_pos rfl,if_pos rfl,if_pos rfl,if_pos rfl,aw]
def zAR(b:Boo)(n:Nat):Boo:={ Last:=b.Last,Owners:=b.Owners,Parcels:=b.Parcels,Entries:=b.Entries.take n }
theorem zAS{b:Boo}(h:zzz b){o:Nat->Bool}{D:Nat->Int}{S:List Int}(hs:S.length=b.Parcels.length):okB b o D S=(zy7 (bkN (evI b D o) (b.Last+1).toNat) (zyQ b S)).isSome:=by
 unfold okB;rw[zzr hs h.p4 h.e6,zzj fun e he=>(zzB h (zzq hs) e (zyY.1 he).1).2,Option.isSome_map]
theorem zAT{b:Boo}{n i:Nat}(hi:i < n):zxP (zAR b n) i=zxP b i:=by
 unfold zxP zAR;rw[List.getD_eq_getElem?_getD,List.getD_eq_getElem?_getD,List.getElem?_take,if_pos hi]
theorem zAU{b:Boo}{n i:Nat}(hi:i < n){D:Nat->Int}:zyt (zAR b n) D i=zyt b D i:=by
 unfold zyt mkC;rw[zAT hi]
 show({ e:=zxP b i,on:=D i,makes:=if (zxP b i).Kind=1 then (b.Parcels.length:Int)+zxg ((b.Entries.take n).take i) else 0 }:Evt)=_
 rw[List.take_take,Nat.min_eq_left (by omega)]
theorem zAV{b:Boo}{n:Nat}{D:Nat->Int}:∀k,k<=n->evK b D (fun i=>decide (n<=i)) k=evK (zAR b n) D (fun _=>false) k
 | 0,_=>rfl
 | k+1,hk=>by
  rw[zyu,zyu,zAV k (by omega),zAU (by omega),if_neg (by simp; omega),if_neg (by simp)]
theorem zAW{b:Boo}{n:Nat}(hn:n<=b.Entries.length){D:Nat->Int}:evI b D (fun i=>decide (n<=i))=evI (zAR b n) D fun _=>false:=by
 have key:∀k,n<=k->evK b D (fun i=>decide (n<=i)) k=evK b D (fun i=>decide (n<=i)) n:=by
  intro k
  induction k with
  | zero=>intro h; rw[show n=0 by omega]
  | succ k ih=>
   intro h
   by_cases hk:n=k+1
   ·rw[hk]
   ·rw[zyu,if_pos (by simp; omega),List.append_nil,ih (by omega)]
 have hl:(zAR b n).Entries.length=n:=by show(b.Entries.take n).length=n; rw[List.length_take]; omega
 unfold evI;rw[key _ hn,zAV n (Nat.le_refl _),hl]
theorem zAX{b:Boo}(h:zzz b){n:Nat}(hn:n<=b.Entries.length)(hk:zzz (zAR b n)):zzJ (zAR b n) (fun _=>false)↔zzJ b fun i=>decide (n<=i):=by
 have hl:(zAR b n).Entries.length=n:=by show(b.Entries.take n).length=n; rw[List.length_take]; omega
 have hok:∀{D:Nat->Int} {S:List Int},inR (b.Parcels.map (·.Sown)) S->okB (zAR b n) (fun _=>false) D S=okB b (fun i=>decide (n<=i)) D S:=fun {D S} hS=>by
  have hs:=zxd hS;rw[List.length_map] at hs;rw[zAS h hs,zAS hk hs,zAW hn]; rfl
 constructor
 ·rintro⟨D,S,h1,h2,h3⟩
  refine⟨D,S,fun i hi ho=>?_,h2,by rw[<- hok h2]; exact h3⟩
  have hin:i < n:=by have:=of_decide_eq_false ho; omega
  have:=h1 i (by rw[hl]; exact hin) rfl;rw[zAT hin] at this; exact this
 ·rintro⟨D,S,h1,h2,h3⟩
  refine⟨D,S,fun i hi _=>?_,h2,by rw[hok h2]; exact h3⟩;rw[hl] at hi;rw[zAT hi];exact h1 i (by omega) (decide_eq_false (by omega))
theorem zAc.nil{n:Nat}{P:(Nat->Bool)->Prop}{M:List Int}(h:zAc n P M)(h0:P (inD [])):M=[]:=by
 rcases h.min [] ⟨List.Pairwise.nil,fun v hv=>by simp at hv⟩ h0 with h1 | h1
 ·exact h1.symm
 ·rcases zwX.1 h1 with h2 | ⟨h2,_⟩
  ·exact absurd h2 (Nat.not_lt_zero _)
  ·exact List.eq_nil_of_length_eq_zero h2
theorem zAY:inD []=fun _=>false:=by funext j; exact decide_eq_false (by simp)
theorem zAZ{b:Boo}(h:zzz b){n:Nat}(hn:n<=b.Entries.length):zuc b (n:Int)=some (zAR b n):=by
 have h6:=h.e6;unfold zuc zAR;have e:((b.Entries.take n).drop (Int.toNat 0))=b.Entries.take n:=List.drop_zero;rw[zq0 (by omega),Int.toNat_natCast,e,zq0 (by rw[List.length_nil,List.length_take]; omega)]; rfl
theorem zA0{b:Boo}(hb:zsm b)(n:Nat):zsm (zAR b n):=by
 obtain⟨f1,f2,f3,f5,f6⟩:=hb;refine⟨f1,f2,f3,?_,fun e he=>f6 e (List.mem_of_mem_take he)⟩
 show(b.Entries.take n).length<=_
 rw[List.length_take]; omega
theorem zA1{b:Boo}(hb:zsm b)(h:zzz b){n:Nat}(hn:n<=b.Entries.length)(hf:zxJ (zAR b n)=0):∃M,zt0 (zAR b n)=some (M,0)/\(M=[]↔zzJ b fun i=>decide (n<=i)):=by
 have hk:=zzA hf;obtain⟨M,q1,q2⟩:=zAC hk (zA0 hb n) hf;refine⟨M,q1,?_⟩;rw[<- zAX h hn hk]
 constructor
 ·intro hM;have:=q2.ok;rw[hM,zAY] at this; exact this
 ·intro hc;exact q2.nil (by rw[zAY]; exact hc)
theorem zA2{b:Boo}(hb:zsm b):zue b=some true:=by
 unfold zue
 refine(zAL hb).pick (fun⟨ht,hf⟩=>?_) fun _=>by rw[if_neg (by decide),aw]
 have h:=zzA hf;have h6:=h.e6;have h4:=h.p4;have hlb:∀n,zsU (zAR b n)=some (zAR b n):=fun n=>zAM (by show(b.Entries.take n).length<=_; rw[List.length_take]; omega) (by show b.Parcels.length<=_; omega);rw[if_pos rfl,zAM (by omega) (by omega),obs]
 rcases zAD h hb hf with ⟨j,a1,a2,a3,a4⟩ | ⟨a1,a2⟩
 ·have hj1:zzJ b fun i=>decide (j<=i):=by
   cases j with
   | zero=>exact zzJ.all h fun i _=>decide_eq_true (Nat.zero_le _)
   | succ j=>exact(zzJ.congr fun i _=>decide_eq_decide.2 (by omega)).1 (a3 j (by omega))
  have hj2:¬ zzJ b fun i=>decide (j+1<=i):=fun hc=>a2 ((zzJ.congr fun i _=>decide_eq_decide.2 (by omega)).1 hc)
  have hsecond:(zua (zAR b (j+1))).bind (fun r2350=>if r2350=(0:Int) then (zsU (zAR b (j+1))).bind fun r2359=>(zt0 r2359).bind fun r2372=>if r2372.2=(0:Int) then (if (r2372.1.length:Int)=(0:Int) then some false else (zss).bind fun r2385=>some r2385) else some false else (zss).bind fun r2393=>some r2393)=some true:=by
   rw[zAK (zA0 hb _),obs]
   by_cases hf2:zxJ (zAR b (j+1))=0
   ·obtain⟨M,q1,q2⟩:=zA1 hb h (n:=j+1) (by omega) hf2;have hM:¬ (M.length:Int)=0:=fun hl=>hj2 (q2.1 (List.eq_nil_of_length_eq_zero (by omega)));rw[if_pos hf2,hlb,obs,q1,obs,if_pos rfl,if_neg hM,aw]
   ·rw[if_neg hf2,aw]
  rw[a4,obs]
  show(if (0:Int)=0 then _ else _)=_
  rw[if_pos rfl,zq0 (fI (by omega)),zxm.some_of (P:=InN (j:Int) 0 ((b.Entries.length:Int) - 1)) (by unfold InN; omega),obs,if_pos rfl]
  show((zuc b (j:Int)).bind fun r=>gd (zmE .i64 ((j:Int)+1)) ((zuc b ((j:Int)+1)).bind _))=_
  rw[zAZ h (by omega),obs,zq0 (fI (by omega)),show(j:Int)+1=((j+1:Nat):Int) by omega,zAZ h (by omega),obs,zAK (zA0 hb _),obs]
  by_cases hf1:zxJ (zAR b j)=0
  ·obtain⟨M,q1,q2⟩:=zA1 hb h (n:=j) (by omega) hf1;have hM:M=[]:=q2.2 hj1;subst hM;rw[if_pos hf1,hlb,obs,q1,obs]
   show(if (0:Int)=0 then (if (0:Int)=0 then _ else _) else _)=_
   rw[if_pos rfl,if_pos rfl];exact hsecond
  ·rw[if_neg hf1];exact hsecond
 ·obtain⟨M,q1,q2⟩:=zAC h hb hf
  have hM:M=[]:=q2.nil (by
   rw[zAY]
   by_cases h0:b.Entries.length=0
   ·exact zzJ.all h fun j hj=>by omega
   ·exact(zzJ.congr fun i hi=>decide_eq_false (by omega)).1 (a1 (b.Entries.length - 1) (by omega)))
  subst hM;rw[a2,obs]
  show(if (7:Int)=0 then _ else _)=_
  rw[if_neg (by decide),obs,q1,obs]
  show(if (7:Int)=7 then (if (0:Int)=0 then (if (0:Int)=0 then _ else _) else _) else _)=_
  rw[if_pos rfl,if_pos rfl,if_pos rfl,aw]
theorem zA3{S β:Type}{n:Nat}(F:Nat->S->Int->Option β)(st:Nat->S){fin:Option β}(hstep:∀d k,k < n->F (d+1) (st k) (k:Int)=F d (st (k+1)) ((k:Int)+1))(hend:∀d,F (d+1) (st n) (n:Int)=fin) :
  ∀d k,k<=n->n - k < d->F d (st k) (k:Int)=fin
 | 0,k,_,h=>by omega
 | d+1,k,hk,h=>by
  by_cases hkn:k=n
  ·subst hkn; exact hend d
  ·rw[hstep d k (by omega),show(k:Int)+1=((k+1:Nat):Int) by omega];exact zA3 F st hstep hend d (k+1) (by omega) (by omega)
theorem zA4{l:List Int}:(∀j,0 < j->j < l.length->∀a b,l[j - 1]? = some a->l[j]? = some b->a < b)↔l.Pairwise (· < ·):=by
 constructor
 ·intro h;rw[List.pairwise_iff_getElem];intro i j hi hj hij
  have key:∀d,(hd:i+d+1 < l.length)->l[i] < l[i+d+1]:=fun d=>by
   induction d with
   | zero=>intro hd; exact h (i+1) (by omega) hd _ _ (List.getElem?_eq_getElem hi) (List.getElem?_eq_getElem hd)
   | succ d ih=>
    intro hd;have h1:=ih (by omega);have h2:=h (i+(d+1)+1) (by omega) hd _ _ (List.getElem?_eq_getElem (show i+d+1 < l.length by omega)) (List.getElem?_eq_getElem hd);exact Int.lt_trans h1 h2
  have:=key (j - i - 1) (by omega)
  simpa [show i+(j - i - 1)+1=j by omega] using this
 ·intro h j h0 hj a b ha hb;obtain⟨h1,rfl⟩:=List.getElem?_eq_some_iff.1 ha;obtain⟨h2,rfl⟩:=List.getElem?_eq_some_iff.1 hb;exact List.pairwise_iff_getElem.1 h (j - 1) j h1 h2 (by omega)
def mkL(l:List Int):Nat:=l.foldl (fun m v=>Nat.lor m (2 ^ v.toNat)) 0
theorem zA5{α:Type}{l:List α}{k:Nat}{a:α}(h:l[k]? = some a):l.take (k+1)=l.take k++[a]:=by rw[List.take_add_one,h]; rfl
theorem zA6{l:List Int}{k:Nat}{v:Int}(h:l[k]? = some v):mkL (l.take (k+1))=Nat.lor (mkL (l.take k)) (2 ^ v.toNat):=by
 unfold mkL;rw[zA5 h,List.foldl_append]; rfl
theorem zA7:∀(l:List Int) (m j:Nat),(∀v∈l,0<=v)->(l.foldl (fun m v=>Nat.lor m (2 ^ v.toNat)) m).testBit j=(m.testBit j || inD l j)
 | [],m,j,_=>by show m.testBit j=(m.testBit j || decide ((j:Int)∈[])); rw[decide_eq_false (by simp)]; simp
 | v::l,m,j,h=>by
  have hv:=h v (List.mem_cons_self ..);rw[List.foldl_cons,zA7 l _ j fun v hv=>h v (List.mem_cons_of_mem _ hv)]
  show((m ||| 2 ^ v.toNat).testBit j || _)=_
  rw[Nat.testBit_or,Nat.testBit_two_pow]
  have e:inD (v::l) j=(decide (v.toNat=j) || inD l j):=by
   unfold inD;rw[<- Bool.decide_or];exact decide_eq_decide.2 (by rw[List.mem_cons]; exact or_congr (by omega) Iff.rfl)
  rw[e,Bool.or_assoc]
theorem zA8{n:Nat}{l:List Int}(h:∀v∈l,0<=v/\v < n):mkL l < 2 ^ n:=by
 apply Nat.lt_pow_two_of_testBit
 intro j hj;unfold mkL;rw[zA7 l 0 j fun v hv=>(h v hv).1,Nat.zero_testBit,Bool.false_or]
 exact decide_eq_false fun hm=>by have:=h _ hm; omega
theorem zA9{n:Nat}(hn:n<=16){l:List Int}(h:Inc n 0 l):zwN (mkL l)=l:=by
 obtain⟨b,hb,e⟩:=zxc hn h
 have hlt:mkL l < 2 ^ n:=zA8 fun v hv=>by have:=h.2 v hv; omega
 have:mkL l=b:=by
  apply Nat.eq_of_testBit_eq
  intro j
  by_cases hj:j < n
  ·rw[<- zxb (b:=b) hn hj,e];unfold mkL;rw[zA7 l 0 j fun v hv=>by have:=h.2 v hv; omega,Nat.zero_testBit,Bool.false_or]
  ·rw[Nat.testBit_lt_two_pow (Nat.lt_of_lt_of_le hlt (Nat.pow_le_pow_right (by omega) (by omega))),Nat.testBit_lt_two_pow (Nat.lt_of_lt_of_le hb (Nat.pow_le_pow_right (by omega) (by omega)))]
 rw[this,e]
open Classical in
theorem u8w{x:Int}(h:zmE .u8 x):zmJ .i64 x=x/\0<=x/\x < 256:=by
 have h':0<=x/\x < 256:=h;exact⟨wz (fI (by omega)),h'⟩
theorem zBa{b:Boo}{bits:Int}(hb:zsm b)(ht:zmE .u8 bits):zug b bits=some true:=by
 unfold zug
 refine(zAL hb).pick (fun⟨hth,hf⟩=>?_) fun _=>by rw[if_neg (by decide),aw]
 have h:=zzA hf;have h6:=h.e6;have hp:=zAg (i:=b.Entries.length) (by omega);have hp0:=Nat.two_pow_pos b.Entries.length;obtain⟨w1,w2⟩:=u8w ht;obtain⟨M,q1,q2⟩:=zAC h hb hf;have hMl:=zwK q2.inc
 have hMin:∀v∈M,0<=v/\v < b.Entries.length:=fun v hv=>by have:=q2.inc.2 v hv; omega
 rw[if_pos rfl,zAM (by omega) (by omega),obs,q1,obs]
 show(if (0:Int)=0 then _ else _)=_
 rw[if_pos rfl];refine zA3 (n:=M.length) (fun d (s:Int) y=>zuf b bits (M,0) d s y) (fun k=>(mkL (M.take k):Int)) (fun d k hk=>?_) (fun d=>?_) (M.length+1) 0 (by omega) (by omega)
 ·have hg:=List.getElem?_eq_getElem hk;have hv:=hMin _ (List.getElem_mem hk);have hprev:∀u,0 < k->M[k - 1]? = some u->u < M[k]:=fun u h0 hu=>zA4.2 q2.inc.1 k h0 hk u _ hu hg;have hm0:mkL (M.take k) < 2 ^ b.Entries.length:=zA8 fun v hv=>hMin v (List.mem_of_mem_take hv);have hm1:mkL (M.take (k+1)) < 2 ^ b.Entries.length:=zA8 fun v hv=>hMin v (List.mem_of_mem_take hv);rw[zA6 hg] at hm1 ⊢;generalize M[k]=v at hg hv hprev hm1
  show zuf b bits (M,0) (d+1) _ _=_
  rw[zuf]
  show(if (k:Int) < (M.length:Int) then ((idx M (k:Int)).bind fun x4359=>_) else _)=_
  have hv64:zmJ .u64 v=v:=wz (show(0:Int)<=v/\v < 18446744073709551616 by omega);obtain⟨w,hw⟩:∃w:Nat,w=2 ^ v.toNat:=⟨_,rfl⟩
  have hpv:w<=64:=by rw[hw]; exact zAg (by omega)
  have hpow:(1:Int) * 2 ^ v.toNat=(w:Int):=by rw[hw,Int.one_mul,Int.natCast_pow]; rfl
  rw[<- hw] at hm1 ⊢;rw[if_pos (by omega)]
  simp only[zrX hg,obs]
  rw[zq0 (fI (by omega)),zxm.some_of (P:=InN v 0 ((b.Entries.length:Int) - 1)) (by unfold InN; omega),obs,if_pos rfl]
  by_cases h0:0 < k
  ·have hg1:=List.getElem?_eq_getElem (show k - 1 < M.length by omega)
   have hi1:idx M ((k:Int) - 1)=some M[k - 1]:=by rw[show(k:Int) - 1=((k - 1:Nat):Int) by omega]; exact zrX hg1
   have hlt:=hprev _ h0 hg1;rw[if_pos (by omega),zq0 (fI (by omega)),hi1,obs,if_neg (by omega),hv64,hpow,zq0 (by omega),zq0 (by omega),zq0 (by omega),zq0 (fI (by omega)),zq0 (by omega),zq0 (by omega),zq0 (fI (by omega)),zq0 (fI (by omega)),Int.toNat_natCast,Int.toNat_natCast,zq0 (fI (by omega)),zq0 (fI (by omega))]
  ·rw[if_neg (by omega),hv64,hpow,zq0 (by omega),zq0 (by omega),zq0 (by omega),zq0 (fI (by omega)),zq0 (by omega),zq0 (by omega),zq0 (fI (by omega)),zq0 (fI (by omega)),Int.toNat_natCast,Int.toNat_natCast,zq0 (fI (by omega)),zq0 (fI (by omega))]
 ·show zuf b bits (M,0) (d+1) _ _=_
  rw[zuf]
  show(if (M.length:Int) < (M.length:Int) then _ else _)=_
  have hmk:mkL M < 2 ^ b.Entries.length:=zA8 hMin;have hbm:zwN (mkL M)=M:=zA9 (n:=b.Entries.length) (by omega) q2.inc;have hm1:=Int.emod_nonneg bits (show((2 ^ b.Entries.length:Nat):Int) ≠ 0 by omega);have hm2:=Int.emod_lt_of_pos bits (show 0 < ((2 ^ b.Entries.length:Nat):Int) by omega);obtain⟨t,ht1⟩:∃t:Nat,bits % ((2 ^ b.Entries.length:Nat):Int)=(t:Int):=⟨(bits % ((2 ^ b.Entries.length:Nat):Int)).toNat,by omega⟩;rw[ht1] at hm1 hm2;have hlb:=zAb (b:=t);rw[if_neg (Int.lt_irrefl _),List.take_length,w1,zAh h6,zq0 (by omega),wu (show b.Entries.length<=64 by omega),zq0 (by omega),zq0 (by omega),zq0 (fI (by omega)),zq0 (by omega),zq0 (by omega),ht1,zq0 (fI (by omega))];rw[(zAv h (zAu (x:=mkL M) (by omega))).some_of ((zAE h).1 (by rw[hbm]; exact q2.ok)),obs,if_pos rfl]
  refine(zAv h (zAu (x:=t) (by omega))).pick (fun hc=>?_) fun _=>by rw[if_neg (by decide),aw]
  have hmin:=q2.min (zwN t) (zxa (by omega) (by omega)) ((zAE h).2 hc)
  have hsh:shB (zwN t) M=false:=by
   rcases hmin with h1 | h1
   ·rw[h1]; exact zw0 _
   ·exact zw1 h1
  rw[if_pos rfl,zz4 (by omega),obs]
  show((zsQ (zwN t) M).bind _)=_
  rw[zz7 (by omega),obs,hsh,if_neg (by decide),aw]
end
end Go.Proofs.YtlkgdadfbfafcaaGreat

namespace Go.Proofs.YtlkgdadfbfafcaaGreat
open _root_.Go.Proofs.Tryz
open Go.Abs
set_option maxRecDepth 100000
noncomputable section
def zBb(l:List Fd):Prop:=∀x∈l,(x.There=true\/x=fd0)/\0<=x.Owner/\x.Owner<=3
theorem zBb.set{l:List Fd}(h:zBb l){i:Nat}{v:Fd}(h1:v.There=true)(h2:0<=v.Owner/\v.Owner<=3):zBb (l.set i v):=fun x hx=>by
 rcases List.mem_or_eq_of_mem_set hx with h' | h'
 ·exact h x h'
 ·rw[h']; exact⟨.inl h1,h2⟩
theorem zBb.at{l:List Fd}(h:zBb l)(i:Int):((zza l i).There=true\/zza l i=fd0)/\0<=(zza l i).Owner/\(zza l i).Owner<=3:=by
 unfold zza;rw[List.getD_eq_getElem?_getD]
 cases hg:l[i.toNat]? with
 | none=>exact⟨.inr rfl,by decide,by decide⟩
 | some x=>exact h x (List.mem_of_getElem? hg)
end
end Go.Proofs.YtlkgdadfbfafcaaGreat

