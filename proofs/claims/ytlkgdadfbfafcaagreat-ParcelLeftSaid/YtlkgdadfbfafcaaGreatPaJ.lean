/- An evaluator of code, its soundness, and what functions of the program do. Condition: none; a lemma text. -/
import Derived.Test.YtlkgdadfbfafcaaGreatPaI

namespace Go.Proofs.YtlkgdadfbfafcaaGreat
open _root_.Go.Proofs.Tryz
open Go.Abs
set_option maxRecDepth 100000
noncomputable section
theorem zBi{α:Type}{k:Nat}{v a0 a1 a2 a3 a4 a5:α}(hk:k < 6):([sti (k:Int) 0 v a0,sti (k:Int) 1 v a1,sti (k:Int) 2 v a2,sti (k:Int) 3 v a3,sti (k:Int) 4 v a4,sti (k:Int) 5 v a5]:List α)[k]? = some v/\∀i,i ≠ k->([sti (k:Int) 0 v a0,sti (k:Int) 1 v a1,sti (k:Int) 2 v a2,sti (k:Int) 3 v a3,sti (k:Int) 4 v a4,sti (k:Int) 5 v a5]:List α)[i]? = ([a0,a1,a2,a3,a4,a5]:List α)[i]?:=by
 have e:∀(j:Nat) (x:α),sti (k:Int) j v x=if k=j then v else x:=fun j x=>by
  unfold sti
  by_cases h:k=j
  ·rw[if_pos h,if_pos (by omega)]
  ·rw[if_neg h,if_neg (by omega)]
 simp only[e]
 have:k=0\/k=1\/k=2\/k=3\/k=4\/k=5:=by omega
 rcases this with rfl | rfl | rfl | rfl | rfl | rfl <;> exact⟨rfl,fun i hi=>by rcases i with _ | _ | _ | _ | _ | _ | i <;> first | rfl | exact absurd rfl hi⟩
theorem zBj{o:O6}{f:Nat->Bool}(h:∀i,i < 6->(zyz o)[i]? = some (f i)){i:Nat}(hi:i < 6):zyA o i=f i:=by
 unfold zyA;rw[List.getD_eq_getElem?_getD,h i hi]; rfl
section
variable {w:Wk} {b:Boo} {O:O6} (hw:zyE w b O)
include hw
theorem zBk{D:List Int}(hl:D.length<=1000)(hD:∀v∈D,0<=v/\v < 6)(hO:∀i,zyA O i=false):∃w' O',zuK w D=some w'/\zyE w' b O'/\∀i,i < 6->zyA O' i=inD D i:=by
 have key:∀(d k:Nat) (a0 a1 a2 a3 a4 a5:Bool),k<=D.length->D.length - k < d->(∀i,i < 6->([a0,a1,a2,a3,a4,a5]:List Bool)[i]? = some (inD (D.take k) i)) ->
   ∃w' O',zuJ w D d w.b.Last w.b.Owners w.numbers w.makes.m0 w.makes.m1 w.makes.m2 w.makes.m3 w.makes.m4 w.makes.m5 a0 a1 a2 a3 a4 a5 (k:Int)=some w'/\zyE w' b O'/\∀i,i < 6->zyA O' i=inD D i:=by
  intro d
  induction d with
  | zero=>intro k _ _ _ _ _ _ _ h; omega
  | succ d ih=>
   intro k a0 a1 a2 a3 a4 a5 hk h ha;rw[zuJ]
   by_cases hkn:k < D.length
   ·have hg:=List.getElem?_eq_getElem hkn;have hv:=hD _ (List.getElem_mem hkn);obtain⟨v,hv'⟩:∃v:Nat,D[k]=(v:Int):=⟨D[k].toNat,by omega⟩;obtain⟨s1,s2⟩:=zBi (α:=Bool) (k:=v) (v:=true) (a0:=a0) (a1:=a1) (a2:=a2) (a3:=a3) (a4:=a4) (a5:=a5) (by omega);rw[if_pos (by omega),zsJ hg,obs,zrM (by omega),zrM (fI (by omega)),hv',show(k:Int)+1=((k+1:Nat):Int) by omega];refine ih (k+1) _ _ _ _ _ _ (by omega) (by omega) fun i hi=>?_
    have e:D.take (k+1)=D.take k++[(v:Int)]:=by rw[List.take_add_one,hg,hv']; rfl
    by_cases hiv:i=v
    ·subst hiv;rw[s1,e];exact congrArg some (decide_eq_true (by simp)).symm
    ·rw[s2 i hiv,ha i hi,e];unfold inD;exact congrArg some (decide_eq_decide.2 (by rw[List.mem_append,List.mem_singleton]; exact⟨.inl,fun h=>h.resolve_right (by omega)⟩))
   ·have hkl:k=D.length:=by omega
    subst hkl;rw[List.take_length] at ha;rw[if_neg (by omega)];have e1:=hw.eb;subst e1;exact⟨_,_,rfl,⟨rfl,hw.n,rfl,hw.m⟩,fun i hi=>zBj (o:={ o0:=a0,o1:=a1,o2:=a2,o3:=a3,o4:=a4,o5:=a5 }) ha hi⟩
 unfold zuK;have ho:=hw.o;refine key (D.length+1) 0 _ _ _ _ _ _ (Nat.zero_le _) (by omega) fun i hi=>?_;rw[ho];refine(zyD hi).trans (congrArg some ?_);rw[hO i]; rfl
theorem zBl{n:Nat}(h6:b.Entries.length<=6)(hO:∀i,zyA O i=false):∃w' O',zuI w (n:Int)=some w'/\zyE w' b O'/\∀i,i < b.Entries.length->zyA O' i=decide (n < i):=by
 have e1:=hw.eb;subst e1
 have key:∀(d k:Nat) (a0 a1 a2 a3 a4 a5:Bool),k<=w.b.Entries.length->w.b.Entries.length - k < d->(∀i,i < 6->([a0,a1,a2,a3,a4,a5]:List Bool)[i]? = some (if i < k then decide (n < i) else false)) ->
   ∃w' O',zuH w (n:Int) d w.b.Last w.b.Owners w.numbers w.makes.m0 w.makes.m1 w.makes.m2 w.makes.m3 w.makes.m4 w.makes.m5 a0 a1 a2 a3 a4 a5 (k:Int)=some w'/\zyE w' w.b O'/\∀i,i < w.b.Entries.length->zyA O' i=decide (n < i):=by
  intro d
  induction d with
  | zero=>intro k _ _ _ _ _ _ _ h; omega
  | succ d ih=>
   intro k a0 a1 a2 a3 a4 a5 hk h ha;rw[zuH]
   by_cases hkn:k < w.b.Entries.length
   ·obtain⟨s1,s2⟩:=zBi (α:=Bool) (k:=k) (v:=decide ((n:Int) < (k:Int))) (a0:=a0) (a1:=a1) (a2:=a2) (a3:=a3) (a4:=a4) (a5:=a5) (by omega);rw[if_pos (by omega),zrM (by omega),zrM (fI (by omega)),show(k:Int)+1=((k+1:Nat):Int) by omega];refine ih (k+1) _ _ _ _ _ _ (by omega) (by omega) fun i hi=>?_
    by_cases hik:i=k
    ·subst hik;rw[s1,if_pos (by omega)];exact congrArg some (decide_eq_decide.2 (by omega))
    ·rw[s2 i hik,ha i hi]
     by_cases h2:i < k
     ·rw[if_pos h2,if_pos (by omega)]
     ·rw[if_neg h2,if_neg (by omega)]
   ·rw[if_neg (by omega)];refine⟨_,_,rfl,⟨rfl,hw.n,rfl,hw.m⟩,fun i hi=>?_⟩;have:=zBj (o:={ o0:=a0,o1:=a1,o2:=a2,o3:=a3,o4:=a4,o5:=a5 }) ha (i:=i) (by omega);rw[if_pos (by omega)] at this;exact this
 unfold zuI;have ho:=hw.o;refine key (w.b.Entries.length+1) 0 _ _ _ _ _ _ (Nat.zero_le _) (by omega) fun i hi=>?_;rw[ho,if_neg (by omega)];refine(zyD hi).trans (congrArg some ?_);exact hO i
end
theorem zBm{b:Boo}(hb:zs8 b)(hf:zyv b=0):zt9 b=some 0:=by rw[zy1 hb,hf]
section
variable {b:Boo} (h:zAl b)
include h
theorem wkV:zt2 b=some (wkN b)/\zyE (wkN b) b zyx:=zzI h.e6 (by have:=h.p4; omega)
theorem zBn{D:List Int}(hD:Inc b.Entries.length 0 D):Ev (zuL D (wkN b)) (zAv b (inD D)):=by
 have h6:=h.e6;have hl:=zxw hD;obtain⟨w',O',q1,q2,q3⟩:=zBk (wkV h).2 (D:=D) (by omega) (fun v hv=>by have:=hD.2 v hv; omega) fun i=>zyW;unfold zuL;rw[q1,obs];have:=((zAM h q2).imp (zAv.congr (o':=inD D) fun j hj=>q3 j (by omega)));exact this.ret
theorem zBo(hb:zs8 b)(hf:zyv b=0):∃M,zuM b=some (M,0)/\zAY b.Entries.length (zAv b) M:=by
 have h6:=h.e6
 have ht:∀D,Inc b.Entries.length 0 D->((zuL D (wkN b)).getD false=true↔zAv b (inD D)):=fun D hD=>by
  obtain⟨x,q1,q2⟩:=zBn h hD;rw[q1]; exact q2
 obtain⟨s1,s2,s3⟩:=zxT (n:=b.Entries.length) (t:=fun L=>(zuL L (wkN b)).getD false) ⟨zAU b.Entries.length,zAV _,(ht _ (zAV _)).2 (zAv.all h fun j hj=>zAW hj)⟩;refine⟨zsG b.Entries.length fun L=>(zuL L (wkN b)).getD false,?_,s1,(ht _ s1).1 s2,fun D hD hD2=>s3 D hD ((ht D hD).2 hD2)⟩;unfold zuM zsH
 rw[zBm hb hf,obs,if_pos rfl,(wkV h).1,obs,(wkV h).2.eb,zrM ⟨by omega,by omega,fun L hL=>by
  have hI:Inc b.Entries.length 0 L:=by rw[Int.toNat_natCast] at hL; exact zxx.1 hL
  obtain⟨x,q1,_⟩:=zBn h hI
  show(zuL L (wkN b)).isSome=true
  rw[q1]; rfl⟩,obs,Int.toNat_natCast]
def FP(b:Boo)(j:Nat):Prop:=zAv b fun i=>decide (j < i)
theorem zBp(hb:zs8 b)(hf:zyv b=0):(∃j,j < b.Entries.length/\¬ FP b j/\(∀i,i < j->FP b i)/\zuO b=some ((j:Int),0))\/((∀j,j < b.Entries.length->FP b j)/\zuO b=some (0,7)):=by
 have h6:=h.e6;have hw:=(wkV h).2
 have key:=zA1 (n:=b.Entries.length) (F:=fun d x=>zuN (wkN b) d x) (ok:=FP b) (res:=fun j=>some ((j:Int),0)) (fin:=some (0,7)) (fun d k hk=>by
  obtain⟨w',O',q1,q2,q3⟩:=zBl hw (n:=k) h6 fun i=>zyW;have hev:Ev (zuG w') (FP b k):=(zAM h q2).imp (zAv.congr fun j hj=>q3 j hj)
  show(_->zuN (wkN b) (d+1) (k:Int)=_)/\(_->zuN (wkN b) (d+1) (k:Int)=_)
  rw[zuN,hw.eb,if_pos (by omega),q1,obs]
  exact hev.step (by rw[if_pos rfl,zrM (fI (by omega))]) (by rw[if_neg (by simp)])) (fun d=>by rw[zuN,hw.eb,if_neg (Int.lt_irrefl _)]) (b.Entries.length+1) 0 (Nat.zero_le _) (by omega)
 unfold zuO;rw[zBm hb hf,obs,if_pos rfl,(wkV h).1,obs,hw.eb]
 rcases key with ⟨j,_,q2,q3,q4,q5⟩ | ⟨q1,q2⟩
 ·exact .inl ⟨j,q2,q3,fun i hi=>q4 i (Nat.zero_le _) hi,q5⟩
 ·exact .inr ⟨fun j hj=>q1 j (Nat.zero_le _) hj,q2⟩
theorem zBq{x:Nat}:zAv b (inD (zxz x))↔zAv b fun j=>x.testBit j:=zAv.congr fun j hj=>zxX (n:=b.Entries.length) (by have:=h.e6; omega) hj
theorem zBr:∀(d x:Nat) (best:List Int),x<=2 ^ b.Entries.length->2 ^ b.Entries.length - x < d->Inc b.Entries.length 0 best->zAv b (inD best)->(∀c,c < x->(zAv b fun j=>c.testBit j)->zxz c=best\/shB best (zxz c)=true) ->
  ∃M,zuT b d best (x:Int)=some M/\zAY b.Entries.length (zAv b) M
 | 0,x,best,_,hd,_,_,_=>by omega
 | d+1,x,best,hx,hd,h1,h2,h3=>by
  have h6:=h.e6;have hp:=zA2 (i:=b.Entries.length) (by omega);have hp0:=Nat.two_pow_pos b.Entries.length;rw[zuT,zA3 h6,zrM (by omega),wu (show b.Entries.length<=64 by omega),zrM (by omega),zrM (by omega),zrM (fI (by omega))]
  by_cases hxe:x=2 ^ b.Entries.length
  ·rw[if_neg (by omega)];refine⟨best,rfl,h1,h2,fun D hD hD2=>?_⟩;obtain⟨c,hc,rfl⟩:=zxY (n:=b.Entries.length) (by omega) hD;exact h3 c (by omega) ((zBq h).1 hD2)
  ·have hl:=zAX (b:=x)
   have hxl:x < 2 ^ b.Entries.length:=by omega
   rw[if_pos (by omega),zAQ (by omega),obs,zAT (by omega),obs];have hi:Inc b.Entries.length 0 (zxz x):=zxW (by omega) hxl
   have hnext:(x:Int)+1=((x+1:Nat):Int):=by omega
   cases hs:shB (zxz x) best with
   | true=>
    rw[if_pos rfl];obtain⟨c,hc1,hc2⟩:=zBh h (zBg (x:=x) (by omega));rw[hc1,obs]
    cases c with
    | true=>
     rw[if_pos rfl,zrM (fI (by omega)),hnext];refine zBr d (x+1) _ (by omega) (by omega) hi ((zBq h).2 (hc2.1 rfl)) fun c hc hcr=>?_
     rcases Nat.lt_or_ge c x with h5 | h5
     ·rcases h3 c h5 hcr with h6 | h6
      ·rw[h6]; exact .inr hs
      ·exact .inr (zxK hs h6)
     ·rw[show c=x by omega]; exact .inl rfl
    | false=>
     rw[if_neg (by simp),zrM (fI (by omega)),hnext];refine zBr d (x+1) _ (by omega) (by omega) h1 h2 fun c hc hcr=>?_
     rcases Nat.lt_or_ge c x with h5 | h5
     ·exact h3 c h5 hcr
     ·rw[show c=x by omega] at hcr;have:=hc2.2 hcr
      cases this
   | false=>
    rw[if_neg (by simp),zrM (fI (by omega)),hnext];refine zBr d (x+1) _ (by omega) (by omega) h1 h2 fun c hc hcr=>?_
    rcases Nat.lt_or_ge c x with h5 | h5
    ·exact h3 c h5 hcr
    ·rw[show c=x by omega]
     rcases zxL (zxz x) best with h6 | h6 | h6
     ·exact .inl h6
     ·rw[hs] at h6; cases h6
     ·exact .inr h6
theorem zBs:∃M,zuU b=some M/\zAY b.Entries.length (zAv b) M:=by
 have h6:=h.e6;have hp:=zA2 (i:=b.Entries.length) (by omega);have hp0:=Nat.two_pow_pos b.Entries.length;unfold zuU;rw[zA3 h6,zrM (by omega),wu (show b.Entries.length<=64 by omega),zrM (by omega),zrM (by omega),zrM (fI (by omega)),zrM (fI (by omega)),show((2 ^ b.Entries.length:Nat):Int) - 1=((2 ^ b.Entries.length - 1:Nat):Int) by omega,zAQ (by omega),obs]
 refine zBr h 1000000 0 _ (Nat.zero_le _) (by omega) (zxW (by omega) zAZ) ?_ fun c hc=>by omega
 refine zAv.all h fun j hj=>?_;rw[zxX (n:=b.Entries.length) (by omega) hj,Nat.testBit_two_pow_sub_one,decide_eq_true hj]
theorem zBt:(∃j,j < b.Entries.length/\¬ FP b j/\(∀i,i < j->FP b i)/\zuS b=some (j:Int))\/((∀j,j < b.Entries.length->FP b j)/\zuS b=some (-1)):=by
 have h6:=h.e6;have hq:=zA2 (i:=b.Entries.length) (by omega);have hq0:=Nat.two_pow_pos b.Entries.length
 have key:=zA1 (n:=b.Entries.length) (F:=zuR b) (ok:=FP b) (res:=fun j=>some (j:Int)) (fin:=some (-1)) (fun d k hk=>by
  have hp:=zA2 (i:=k+1) (by omega);have hp0:=Nat.two_pow_pos (k+1);have hlt:2 ^ (k+1) - 1 < 2 ^ b.Entries.length:=Nat.lt_of_lt_of_le (zAZ (n:=k+1)) (Nat.pow_le_pow_right (by omega) (by omega));obtain⟨c1,c2⟩:=zA0 (n:=b.Entries.length) hlt;have hwk:znv .u64 (((k+1:Nat):Int))=((k+1:Nat):Int):=wu (by omega);rw[zuR,if_pos (by omega),zrM (fI (by omega)),show(k:Int)+1=((k+1:Nat):Int) by omega,zA3 (n:=k+1) (by omega),zA3 h6,zrM (by omega),hwk,zrM (by omega),zrM (by omega),zrM (fI (by omega)),show((2 ^ (k+1):Nat):Int) - 1=((2 ^ (k+1) - 1:Nat):Int) by omega,show((2 ^ b.Entries.length:Nat):Int) - 1=((2 ^ b.Entries.length - 1:Nat):Int) by omega,zrM (fI (by omega)),zrM (by omega),zrM (by omega),zrM (fI (by omega)),zrM (fI (by omega)),Int.toNat_natCast,Int.toNat_natCast,zrM (fI (by omega))]
  have hc:Ev (zuQ b ((Nat.xor (2 ^ b.Entries.length - 1) (Nat.land (2 ^ b.Entries.length - 1) (2 ^ (k+1) - 1)):Nat):Int)) (FP b k):=(zBh h (zBg (by omega))).imp (zAv.congr fun j hj=>by
   rw[c2 j hj,Nat.testBit_two_pow_sub_one]
   by_cases hjk:j < k+1
   ·rw[decide_eq_true hjk,decide_eq_false (by omega)]; rfl
   ·rw[decide_eq_false hjk,decide_eq_true (by omega)]; rfl)
  exact hc.step (by rw[if_pos rfl,zrM (fI (by omega))]) (by rw[if_neg (by simp)])) (fun d=>by rw[zuR,if_neg (Int.lt_irrefl _)]) 1000000 0 (Nat.zero_le _) (by omega)
 unfold zuS;rw[zA3 h6,zrM (by omega),wu (show b.Entries.length<=64 by omega),zrM (by omega),zrM (by omega),zrM (fI (by omega)),zrM (fI (by omega))]
 rcases key with ⟨j,_,q2,q3,q4,q5⟩ | ⟨q1,q2⟩
 ·exact .inl ⟨j,q2,q3,fun i hi=>q4 i (Nat.zero_le _) hi,q5⟩
 ·exact .inr ⟨fun j hj=>q1 j (Nat.zero_le _) hj,q2⟩
end
theorem zBu{b:Boo}{j j':Nat}(h1:¬ FP b j)(h2:∀i,i < j->FP b i)(h3:¬ FP b j')(h4:∀i,i < j'->FP b i):j=j':=by
 rcases Nat.lt_trichotomy j j' with h | h | h
 ·exact absurd (h4 j h) h1
 ·exact h
 ·exact absurd (h2 j' h) h3
end
end Go.Proofs.YtlkgdadfbfafcaaGreat

namespace Go.Proofs.YtlkgdadfbfafcaaGreat
open _root_.Go.Proofs.Tryz
open Go.Abs
set_option maxRecDepth 100000
noncomputable section
theorem aw:((zte).bind fun r=>some r)=some true:=rfl
theorem zBv{b:Boo}:Ev (ztH b) (b.Parcels.length<=7/\b.Entries.length<=9):=(Ev.ite fun _=>Ev.dec Iff.rfl).imp (by omega)
theorem zBw{b:Boo}(hb:zs8 b):zuW b=some (zyv b):=by
 unfold zuW;rw[zyw hb.2.1,obs]
theorem zBx{b:Boo}(hb:zs8 b):Ev (zuX b) ((b.Parcels.length<=7/\b.Entries.length<=9)/\zyv b=0):=by
 unfold zuX;exact zBv.and fun _=>Ev.bind (zBw hb) (Ev.dec Iff.rfl)
theorem zBy{b:Boo}(h1:b.Entries.length<=1000)(h2:b.Parcels.length<=1000):ztG b=some b:=by
 unfold ztG;refine(zsN (l:=b.Parcels) id (F:=fun d acc x=>ztF b d b.Last b.Owners acc [] x) (fun acc=>ztE b acc 1000000 b.Last b.Owners [] 0) (fun d k acc a hk ha=>?_) (fun d acc=>by rw[ztF,if_neg (Int.lt_irrefl _)]) (by omega)).trans ?_
 ·have hkl:=(List.getElem?_eq_some_iff.1 hk).1;rw[ztF,if_pos (by omega),zsJ hk,obs]
  show((some a.Sown).bind _)=_
  rw[obs,zrM (by omega),zrM (fI (by omega))]; rfl
 ·rw[List.map_id];refine(zsN (l:=b.Entries) id (F:=fun d acc x=>ztE b b.Parcels d b.Last b.Owners acc x) (fun acc=>some { Last:=b.Last,Owners:=b.Owners,Parcels:=b.Parcels,Entries:=acc }) (fun d k acc a hk ha=>?_) (fun d acc=>by rw[ztE,if_neg (Int.lt_irrefl _)]) (by omega)).trans ?_
  ·have hkl:=(List.getElem?_eq_some_iff.1 hk).1;rw[ztE,if_pos (by omega),zsJ hk,obs]
   show((some a.Day).bind _)=_
   rw[obs,zrM (by omega),zrM (fI (by omega))]; rfl
  ·rw[List.map_id]
theorem zBz{M:List Int}(hl:M.length<=1000):zuV M M=some true:=by
 unfold zuV;rw[if_pos rfl,zAS hl,zxF,obs,if_neg (by simp),obs]; rfl
theorem zBA{b:Boo}(hb:zs8 b)(hf:zyv b ≠ 0):zuM b=some ([],zyv b):=by
 unfold zuM;rw[zy1 hb,obs,if_neg hf]
theorem zBB{b:Boo}(hb:zs8 b)(hf:zyv b ≠ 0):zuO b=some (0,zyv b):=by
 unfold zuO;rw[zy1 hb,obs,if_neg hf]
theorem zBC{b:Boo}(hb:zs8 b):zuZ b=some true:=by
 unfold zuZ
 refine zBv.pick (fun ht=>?_) fun _=>by rw[if_neg (by decide),aw]
 rw[if_pos rfl,zBy (by omega) (by omega),obs]
 by_cases hf:zyv b=0
 ·have h:=zAm hf;obtain⟨M,q1,q2⟩:=zBo h hb hf;obtain⟨M',r1,r2⟩:=zBs h;have hMM:M=M':=q2.uniq r2;subst hMM;have hl:=zxw q2.inc;have h6:=h.e6;have hs:=zBz (M:=M) (by omega)
  rcases zBp h hb hf with ⟨j,a1,a2,a3,a4⟩ | ⟨a1,a2⟩
  ·rcases zBt h with ⟨j',b1,b2,b3,b4⟩ | ⟨b1,b2⟩
   ·have:j=j':=zBu a2 a3 b2 b3;subst this;rw[a4,obs,obs,q1,obs,zBw hb,obs,if_pos hf,b4,obs,if_neg (by omega)]
    show(if (0:Int)=0 then (if (j:Int)=(j:Int) then (if (0:Int)=0 then _ else _) else _) else _)=_
    rw[if_pos rfl,if_pos rfl,if_pos rfl,r1,obs,hs,obs,if_pos rfl,aw]
   ·exact absurd (b1 j a1) a2
  ·rcases zBt h with ⟨j',b1,b2,b3,b4⟩ | ⟨b1,b2⟩
   ·exact absurd (a1 j' b1) b2
   ·rw[a2,obs,obs,q1,obs,zBw hb,obs,if_pos hf,b2,obs,if_pos (by decide)]
    show(if (7:Int)=7 then (if (0:Int)=0 then (if (0:Int)=0 then _ else _) else _) else _)=_
    rw[if_pos rfl,if_pos rfl,if_pos rfl,r1,obs,hs,obs,if_pos rfl,aw]
 ·rw[zBB hb hf,obs,obs,zBA hb hf,obs,zBw hb,obs,if_neg hf]
  show(if zyv b=zyv b then (if zyv b=zyv b then (if (0:Int)=0 then (if (0:Int)=0 then _ else _) else _) else _) else _)=_
  rw[if_pos rfl,if_pos rfl,if_pos rfl,if_pos rfl,aw]
def zBD(b:Boo)(n:Nat):Boo:={ Last:=b.Last,Owners:=b.Owners,Parcels:=b.Parcels,Entries:=b.Entries.take n }
theorem zBE{b:Boo}(h:zAl b){o:Nat->Bool}{D:Nat->Int}{S:List Int}(hs:S.length=b.Parcels.length):okB b o D S=(zzT (bkN (evI b D o) (b.Last+1).toNat) (zzC b S)).isSome:=by
 unfold okB;rw[zAd hs h.p4 h.e6,zz5 fun e he=>(zAn h (zAc hs) e (zzK.1 he).1).2,Option.isSome_map]
theorem zBF{b:Boo}{n i:Nat}(hi:i < n):zyB (zBD b n) i=zyB b i:=by
 unfold zyB zBD;rw[List.getD_eq_getElem?_getD,List.getD_eq_getElem?_getD,List.getElem?_take,if_pos hi]
theorem zBG{b:Boo}{n i:Nat}(hi:i < n){D:Nat->Int}:zzf (zBD b n) D i=zzf b D i:=by
 unfold zzf mkC;rw[zBF hi]
 show({ e:=zyB b i,on:=D i,makes:=if (zyB b i).Kind=1 then (b.Parcels.length:Int)+zx2 ((b.Entries.take n).take i) else 0 }:Evt)=_
 rw[List.take_take,Nat.min_eq_left (by omega)]
theorem zBH{b:Boo}{n:Nat}{D:Nat->Int}:∀k,k<=n->evK b D (fun i=>decide (n<=i)) k=evK (zBD b n) D (fun _=>false) k
 | 0,_=>rfl
 | k+1,hk=>by
  rw[zzg,zzg,zBH k (by omega),zBG (by omega),if_neg (by simp; omega),if_neg (by simp)]
theorem zBI{b:Boo}{n:Nat}(hn:n<=b.Entries.length){D:Nat->Int}:evI b D (fun i=>decide (n<=i))=evI (zBD b n) D fun _=>false:=by
 have key:∀k,n<=k->evK b D (fun i=>decide (n<=i)) k=evK b D (fun i=>decide (n<=i)) n:=by
  intro k
  induction k with
  | zero=>intro h; rw[show n=0 by omega]
  | succ k ih=>
   intro h
   by_cases hk:n=k+1
   ·rw[hk]
   ·rw[zzg,if_pos (by simp; omega),List.append_nil,ih (by omega)]
 have hl:(zBD b n).Entries.length=n:=by show(b.Entries.take n).length=n; rw[List.length_take]; omega
 unfold evI;rw[key _ hn,zBH n (Nat.le_refl _),hl]
theorem zBJ{b:Boo}(h:zAl b){n:Nat}(hn:n<=b.Entries.length)(hk:zAl (zBD b n)):zAv (zBD b n) (fun _=>false)↔zAv b fun i=>decide (n<=i):=by
 have hl:(zBD b n).Entries.length=n:=by show(b.Entries.take n).length=n; rw[List.length_take]; omega
 have hok:∀{D:Nat->Int} {S:List Int},inR (b.Parcels.map (·.Sown)) S->okB (zBD b n) (fun _=>false) D S=okB b (fun i=>decide (n<=i)) D S:=fun {D S} hS=>by
  have hs:=zxZ hS;rw[List.length_map] at hs;rw[zBE h hs,zBE hk hs,zBI hn]; rfl
 constructor
 ·rintro⟨D,S,h1,h2,h3⟩
  refine⟨D,S,fun i hi ho=>?_,h2,by rw[<- hok h2]; exact h3⟩
  have hin:i < n:=by have:=of_decide_eq_false ho; omega
  have:=h1 i (by rw[hl]; exact hin) rfl;rw[zBF hin] at this; exact this
 ·rintro⟨D,S,h1,h2,h3⟩
  refine⟨D,S,fun i hi _=>?_,h2,by rw[hok h2]; exact h3⟩;rw[hl] at hi;rw[zBF hi];exact h1 i (by omega) (decide_eq_false (by omega))
theorem zAY.nil{n:Nat}{P:(Nat->Bool)->Prop}{M:List Int}(h:zAY n P M)(h0:P (inD [])):M=[]:=by
 rcases h.min [] ⟨List.Pairwise.nil,fun v hv=>by simp at hv⟩ h0 with h1 | h1
 ·exact h1.symm
 ·rcases zxJ.1 h1 with h2 | ⟨h2,_⟩
  ·exact absurd h2 (Nat.not_lt_zero _)
  ·exact List.eq_nil_of_length_eq_zero h2
theorem zBK:inD []=fun _=>false:=by funext j; exact decide_eq_false (by simp)
theorem zBL{b:Boo}(h:zAl b){n:Nat}(hn:n<=b.Entries.length):zuY b (n:Int)=some (zBD b n):=by
 have h6:=h.e6;unfold zuY zBD;have e:((b.Entries.take n).drop (Int.toNat 0))=b.Entries.take n:=List.drop_zero;rw[zrM (by omega),Int.toNat_natCast,e,zrM (by rw[List.length_nil,List.length_take]; omega)]; rfl
theorem zBM{b:Boo}(hb:zs8 b)(n:Nat):zs8 (zBD b n):=by
 obtain⟨f1,f2,f3,f5,f6⟩:=hb;refine⟨f1,f2,f3,?_,fun e he=>f6 e (List.mem_of_mem_take he)⟩
 show(b.Entries.take n).length<=_
 rw[List.length_take]; omega
theorem zBN{b:Boo}(hb:zs8 b)(h:zAl b){n:Nat}(hn:n<=b.Entries.length)(hf:zyv (zBD b n)=0):∃M,zuM (zBD b n)=some (M,0)/\(M=[]↔zAv b fun i=>decide (n<=i)):=by
 have hk:=zAm hf;obtain⟨M,q1,q2⟩:=zBo hk (zBM hb n) hf;refine⟨M,q1,?_⟩;rw[<- zBJ h hn hk]
 constructor
 ·intro hM;have:=q2.ok;rw[hM,zBK] at this; exact this
 ·intro hc;exact q2.nil (by rw[zBK]; exact hc)
theorem zBO{b:Boo}(hb:zs8 b):zu0 b=some true:=by
 unfold zu0
 refine(zBx hb).pick (fun⟨ht,hf⟩=>?_) fun _=>by rw[if_neg (by decide),aw]
 have h:=zAm hf;have h6:=h.e6;have h4:=h.p4;have hlb:∀n,ztG (zBD b n)=some (zBD b n):=fun n=>zBy (by show(b.Entries.take n).length<=_; rw[List.length_take]; omega) (by show b.Parcels.length<=_; omega);rw[if_pos rfl,zBy (by omega) (by omega),obs]
 rcases zBp h hb hf with ⟨j,a1,a2,a3,a4⟩ | ⟨a1,a2⟩
 ·have hj1:zAv b fun i=>decide (j<=i):=by
   cases j with
   | zero=>exact zAv.all h fun i _=>decide_eq_true (Nat.zero_le _)
   | succ j=>exact(zAv.congr fun i _=>decide_eq_decide.2 (by omega)).1 (a3 j (by omega))
  have hj2:¬ zAv b fun i=>decide (j+1<=i):=fun hc=>a2 ((zAv.congr fun i _=>decide_eq_decide.2 (by omega)).1 hc)
  have hsecond:(zuW (zBD b (j+1))).bind (fun r2350=>if r2350=(0:Int) then (ztG (zBD b (j+1))).bind fun r2359=>(zuM r2359).bind fun r2372=>if r2372.2=(0:Int) then (if (r2372.1.length:Int)=(0:Int) then some false else (zte).bind fun r2385=>some r2385) else some false else (zte).bind fun r2393=>some r2393)=some true:=by
   rw[zBw (zBM hb _),obs]
   by_cases hf2:zyv (zBD b (j+1))=0
   ·obtain⟨M,q1,q2⟩:=zBN hb h (n:=j+1) (by omega) hf2;have hM:¬ (M.length:Int)=0:=fun hl=>hj2 (q2.1 (List.eq_nil_of_length_eq_zero (by omega)));rw[if_pos hf2,hlb,obs,q1,obs,if_pos rfl,if_neg hM,aw]
   ·rw[if_neg hf2,aw]
  rw[a4,obs]
  show(if (0:Int)=0 then _ else _)=_
  rw[if_pos rfl,zrM (fI (by omega)),zx8.some_of (P:=InN (j:Int) 0 ((b.Entries.length:Int) - 1)) (by unfold InN; omega),obs,if_pos rfl]
  show((zuY b (j:Int)).bind fun r=>gd (znq .i64 ((j:Int)+1)) ((zuY b ((j:Int)+1)).bind _))=_
  rw[zBL h (by omega),obs,zrM (fI (by omega)),show(j:Int)+1=((j+1:Nat):Int) by omega,zBL h (by omega),obs,zBw (zBM hb _),obs]
  by_cases hf1:zyv (zBD b j)=0
  ·obtain⟨M,q1,q2⟩:=zBN hb h (n:=j) (by omega) hf1;have hM:M=[]:=q2.2 hj1;subst hM;rw[if_pos hf1,hlb,obs,q1,obs]
   show(if (0:Int)=0 then (if (0:Int)=0 then _ else _) else _)=_
   rw[if_pos rfl,if_pos rfl];exact hsecond
  ·rw[if_neg hf1];exact hsecond
 ·obtain⟨M,q1,q2⟩:=zBo h hb hf
  have hM:M=[]:=q2.nil (by
   rw[zBK]
   by_cases h0:b.Entries.length=0
   ·exact zAv.all h fun j hj=>by omega
   ·exact(zAv.congr fun i hi=>decide_eq_false (by omega)).1 (a1 (b.Entries.length - 1) (by omega)))
  subst hM;rw[a2,obs]
  show(if (7:Int)=0 then _ else _)=_
  rw[if_neg (by decide),obs,q1,obs]
  show(if (7:Int)=7 then (if (0:Int)=0 then (if (0:Int)=0 then _ else _) else _) else _)=_
  rw[if_pos rfl,if_pos rfl,if_pos rfl,aw]
theorem zBP{S β:Type}{n:Nat}(F:Nat->S->Int->Option β)(st:Nat->S){fin:Option β}(hstep:∀d k,k < n->F (d+1) (st k) (k:Int)=F d (st (k+1)) ((k:Int)+1))(hend:∀d,F (d+1) (st n) (n:Int)=fin) :
  ∀d k,k<=n->n - k < d->F d (st k) (k:Int)=fin
 | 0,k,_,h=>by omega
 | d+1,k,hk,h=>by
  by_cases hkn:k=n
  ·subst hkn; exact hend d
  ·rw[hstep d k (by omega),show(k:Int)+1=((k+1:Nat):Int) by omega];exact zBP F st hstep hend d (k+1) (by omega) (by omega)
theorem zBQ{l:List Int}:(∀j,0 < j->j < l.length->∀a b,l[j - 1]? = some a->l[j]? = some b->a < b)↔l.Pairwise (· < ·):=by
 constructor
 ·intro h;rw[List.pairwise_iff_getElem];intro i j hi hj hij
  have key:∀d,(hd:i+d+1 < l.length)->l[i] < l[i+d+1]:=fun d=>by
   induction d with
   | zero=>intro hd; exact h (i+1) (by omega) hd _ _ (List.getElem?_eq_getElem hi) (List.getElem?_eq_getElem hd)
   | succ d ih=>
    intro hd;have h1:=ih (by omega);have h2:=h (i+(d+1)+1) (by omega) hd _ _ (List.getElem?_eq_getElem (show i+d+1 < l.length by omega)) (List.getElem?_eq_getElem hd);exact Int.lt_trans h1 h2
  have:=key (j - i - 1) (by omega)
  simpa [show i+(j - i - 1)+1=j by omega] using this
 ·intro h j h0 hj a b ha hb;obtain⟨h1,rfl⟩:=List.getElem?_eq_some_iff.1 ha;obtain⟨h2,rfl⟩:=List.getElem?_eq_some_iff.1 hb;exact List.pairwise_iff_getElem.1 h (j - 1) j h1 h2 (by omega)
def mkL(l:List Int):Nat:=l.foldl (fun m v=>Nat.lor m (2 ^ v.toNat)) 0
theorem zBR{α:Type}{l:List α}{k:Nat}{a:α}(h:l[k]? = some a):l.take (k+1)=l.take k++[a]:=by rw[List.take_add_one,h]; rfl
theorem zBS{l:List Int}{k:Nat}{v:Int}(h:l[k]? = some v):mkL (l.take (k+1))=Nat.lor (mkL (l.take k)) (2 ^ v.toNat):=by
 unfold mkL;rw[zBR h,List.foldl_append]; rfl
theorem zBT:∀(l:List Int) (m j:Nat),(∀v∈l,0<=v)->(l.foldl (fun m v=>Nat.lor m (2 ^ v.toNat)) m).testBit j=(m.testBit j || inD l j)
 | [],m,j,_=>by show m.testBit j=(m.testBit j || decide ((j:Int)∈[])); rw[decide_eq_false (by simp)]; simp
 | v::l,m,j,h=>by
  have hv:=h v (List.mem_cons_self ..);rw[List.foldl_cons,zBT l _ j fun v hv=>h v (List.mem_cons_of_mem _ hv)]
  show((m ||| 2 ^ v.toNat).testBit j || _)=_
  rw[Nat.testBit_or,Nat.testBit_two_pow]
  have e:inD (v::l) j=(decide (v.toNat=j) || inD l j):=by
   unfold inD;rw[<- Bool.decide_or];exact decide_eq_decide.2 (by rw[List.mem_cons]; exact or_congr (by omega) Iff.rfl)
  rw[e,Bool.or_assoc]
theorem zBU{n:Nat}{l:List Int}(h:∀v∈l,0<=v/\v < n):mkL l < 2 ^ n:=by
 apply Nat.lt_pow_two_of_testBit
 intro j hj;unfold mkL;rw[zBT l 0 j fun v hv=>(h v hv).1,Nat.zero_testBit,Bool.false_or]
 exact decide_eq_false fun hm=>by have:=h _ hm; omega
theorem zBV{n:Nat}(hn:n<=16){l:List Int}(h:Inc n 0 l):zxz (mkL l)=l:=by
 obtain⟨b,hb,e⟩:=zxY hn h
 have hlt:mkL l < 2 ^ n:=zBU fun v hv=>by have:=h.2 v hv; omega
 have:mkL l=b:=by
  apply Nat.eq_of_testBit_eq
  intro j
  by_cases hj:j < n
  ·rw[<- zxX (b:=b) hn hj,e];unfold mkL;rw[zBT l 0 j fun v hv=>by have:=h.2 v hv; omega,Nat.zero_testBit,Bool.false_or]
  ·rw[Nat.testBit_lt_two_pow (Nat.lt_of_lt_of_le hlt (Nat.pow_le_pow_right (by omega) (by omega))),Nat.testBit_lt_two_pow (Nat.lt_of_lt_of_le hb (Nat.pow_le_pow_right (by omega) (by omega)))]
 rw[this,e]
open Classical in
theorem u8w{x:Int}(h:znq .u8 x):znv .i64 x=x/\0<=x/\x < 256:=by
 have h':0<=x/\x < 256:=h;exact⟨wz (fI (by omega)),h'⟩
theorem zBW{b:Boo}{bits:Int}(hb:zs8 b)(ht:znq .u8 bits):zu2 b bits=some true:=by
 unfold zu2
 refine(zBx hb).pick (fun⟨hth,hf⟩=>?_) fun _=>by rw[if_neg (by decide),aw]
 have h:=zAm hf;have h6:=h.e6;have hp:=zA2 (i:=b.Entries.length) (by omega);have hp0:=Nat.two_pow_pos b.Entries.length;obtain⟨w1,w2⟩:=u8w ht;obtain⟨M,q1,q2⟩:=zBo h hb hf;have hMl:=zxw q2.inc
 have hMin:∀v∈M,0<=v/\v < b.Entries.length:=fun v hv=>by have:=q2.inc.2 v hv; omega
 rw[if_pos rfl,zBy (by omega) (by omega),obs,q1,obs]
 show(if (0:Int)=0 then _ else _)=_
 rw[if_pos rfl];refine zBP (n:=M.length) (fun d (s:Int) y=>zu1 b bits (M,0) d s y) (fun k=>(mkL (M.take k):Int)) (fun d k hk=>?_) (fun d=>?_) (M.length+1) 0 (by omega) (by omega)
 ·have hg:=List.getElem?_eq_getElem hk;have hv:=hMin _ (List.getElem_mem hk);have hprev:∀u,0 < k->M[k - 1]? = some u->u < M[k]:=fun u h0 hu=>zBQ.2 q2.inc.1 k h0 hk u _ hu hg;have hm0:mkL (M.take k) < 2 ^ b.Entries.length:=zBU fun v hv=>hMin v (List.mem_of_mem_take hv);have hm1:mkL (M.take (k+1)) < 2 ^ b.Entries.length:=zBU fun v hv=>hMin v (List.mem_of_mem_take hv);rw[zBS hg] at hm1 ⊢;generalize M[k]=v at hg hv hprev hm1
  show zu1 b bits (M,0) (d+1) _ _=_
  rw[zu1]
  show(if (k:Int) < (M.length:Int) then ((idx M (k:Int)).bind fun x4359=>_) else _)=_
  have hv64:znv .u64 v=v:=wz (show(0:Int)<=v/\v < 18446744073709551616 by omega);obtain⟨w,hw⟩:∃w:Nat,w=2 ^ v.toNat:=⟨_,rfl⟩
  have hpv:w<=64:=by rw[hw]; exact zA2 (by omega)
  have hpow:(1:Int) * 2 ^ v.toNat=(w:Int):=by rw[hw,Int.one_mul,Int.natCast_pow]; rfl
  rw[<- hw] at hm1 ⊢;rw[if_pos (by omega)]
  simp only[zsJ hg,obs]
  rw[zrM (fI (by omega)),zx8.some_of (P:=InN v 0 ((b.Entries.length:Int) - 1)) (by unfold InN; omega),obs,if_pos rfl]
  by_cases h0:0 < k
  ·have hg1:=List.getElem?_eq_getElem (show k - 1 < M.length by omega)
   have hi1:idx M ((k:Int) - 1)=some M[k - 1]:=by rw[show(k:Int) - 1=((k - 1:Nat):Int) by omega]; exact zsJ hg1
   have hlt:=hprev _ h0 hg1;rw[if_pos (by omega),zrM (fI (by omega)),hi1,obs,if_neg (by omega),hv64,hpow,zrM (by omega),zrM (by omega),zrM (by omega),zrM (fI (by omega)),zrM (by omega),zrM (by omega),zrM (fI (by omega)),zrM (fI (by omega)),Int.toNat_natCast,Int.toNat_natCast,zrM (fI (by omega)),zrM (fI (by omega))]
  ·rw[if_neg (by omega),hv64,hpow,zrM (by omega),zrM (by omega),zrM (by omega),zrM (fI (by omega)),zrM (by omega),zrM (by omega),zrM (fI (by omega)),zrM (fI (by omega)),Int.toNat_natCast,Int.toNat_natCast,zrM (fI (by omega)),zrM (fI (by omega))]
 ·show zu1 b bits (M,0) (d+1) _ _=_
  rw[zu1]
  show(if (M.length:Int) < (M.length:Int) then _ else _)=_
  have hmk:mkL M < 2 ^ b.Entries.length:=zBU hMin;have hbm:zxz (mkL M)=M:=zBV (n:=b.Entries.length) (by omega) q2.inc;have hm1:=Int.emod_nonneg bits (show((2 ^ b.Entries.length:Nat):Int) ≠ 0 by omega);have hm2:=Int.emod_lt_of_pos bits (show 0 < ((2 ^ b.Entries.length:Nat):Int) by omega);obtain⟨t,ht1⟩:∃t:Nat,bits % ((2 ^ b.Entries.length:Nat):Int)=(t:Int):=⟨(bits % ((2 ^ b.Entries.length:Nat):Int)).toNat,by omega⟩;rw[ht1] at hm1 hm2;have hlb:=zAX (b:=t);rw[if_neg (Int.lt_irrefl _),List.take_length,w1,zA3 h6,zrM (by omega),wu (show b.Entries.length<=64 by omega),zrM (by omega),zrM (by omega),zrM (fI (by omega)),zrM (by omega),zrM (by omega),ht1,zrM (fI (by omega))];rw[(zBh h (zBg (x:=mkL M) (by omega))).some_of ((zBq h).1 (by rw[hbm]; exact q2.ok)),obs,if_pos rfl]
  refine(zBh h (zBg (x:=t) (by omega))).pick (fun hc=>?_) fun _=>by rw[if_neg (by decide),aw]
  have hmin:=q2.min (zxz t) (zxW (by omega) (by omega)) ((zBq h).2 hc)
  have hsh:shB (zxz t) M=false:=by
   rcases hmin with h1 | h1
   ·rw[h1]; exact zxM _
   ·exact zxN h1
  rw[if_pos rfl,zAQ (by omega),obs]
  show((ztC (zxz t) M).bind _)=_
  rw[zAT (by omega),obs,hsh,if_neg (by decide),aw]
end
end Go.Proofs.YtlkgdadfbfafcaaGreat

namespace Go.Proofs.YtlkgdadfbfafcaaGreat
open _root_.Go.Proofs.Tryz
open Go.Abs
set_option maxRecDepth 100000
noncomputable section
def zBX(l:List Fd):Prop:=∀x∈l,(x.There=true\/x=fd0)/\0<=x.Owner/\x.Owner<=3
theorem zBX.set{l:List Fd}(h:zBX l){i:Nat}{v:Fd}(h1:v.There=true)(h2:0<=v.Owner/\v.Owner<=3):zBX (l.set i v):=fun x hx=>by
 rcases List.mem_or_eq_of_mem_set hx with h' | h'
 ·exact h x h'
 ·rw[h']; exact⟨.inl h1,h2⟩
theorem zBX.at{l:List Fd}(h:zBX l)(i:Int):((zzW l i).There=true\/zzW l i=fd0)/\0<=(zzW l i).Owner/\(zzW l i).Owner<=3:=by
 unfold zzW;rw[List.getD_eq_getElem?_getD]
 cases hg:l[i.toNat]? with
 | none=>exact⟨.inr rfl,by decide,by decide⟩
 | some x=>exact h x (List.mem_of_getElem? hg)
end
end Go.Proofs.YtlkgdadfbfafcaaGreat

