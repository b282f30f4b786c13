/- TariffMore, for all that it can be called with, returns true. Condition: none. -/
import Derived.Test.YtbkokcbnbmhaoaaTaG
import GoSem.Step
import GoSem.ClaimKeys
import Derived.DeepKeys2
import Derived.RangeFuncLeaves
import Derived.OrdersIn
import Derived.Laws.World
import Derived.Laws.Sem
import Derived.RangeFuncRecord
import Derived.Laws.CopyRow
import Derived.Laws.Append
import Derived.Laws.Rows
import Derived.Laws.Slices
import Derived.Laws.Entries
import Derived.ChangeKeysEq
import Derived.IntWalk
import Derived.DeepKeys
import Derived.DeepKeys3
import Derived.Laws.StructEq
import Derived.MapKept
import Derived.Laws.AppendOwn
import Derived.ChangeArms
import Derived.ChangeOld
import Derived.Carry
import Derived.ChangeShapes
import Derived.KernelRfl
import Derived.ProofKit
import Derived.Test.YtbkokcbnbmhaoaaRows

namespace Go.Proofs.Ytbkokcbnbmhaoaa
open _root_.Go.Proofs.Try
open Go.Abs
set_option maxRecDepth 100000
noncomputable section
theorem last_at{l:List Int}(h:l ≠ []):∃x,idx l ((l.length:Int) - 1)=some x/\l.getLast? = some x:=by
 have hl:0 < l.length:=List.length_pos_iff.2 h;refine⟨l[l.length - 1],zsd (by omega) (by omega),?_⟩;rw[List.getLast?_eq_getElem?,List.getElem?_eq_getElem]
theorem few{t:Tf}(h:¬ zvV t):t.Weeks.length<=4/\t.Counts.length<=5/\t.Rates.length<=3:=by unfold zvV at h; omega
theorem zws{α:Type}{l:List α}{n:Nat}(h:l.length<=n)(hn:n<=1048576):zwd l:=Nat.le_trans h hn
theorem zwt{l:List Int}{x:Int}(h:l.head? = some x):l ≠ []:=fun e=>by rw[e] at h; cases h
theorem zwu{t:Tf}(h:¬ zvV t){w:List Int}:Ev (ztJ t w) (w.length=t.Counts.length/\∀r∈w,0<=r/\r<=100):=by
 have hf:=few h;exact(Ev.ite fun hl=>(zwo (q:=fun r=>0<=r/\r<=100) (fun _ _=>zwb) (zws (n:=5) (by omega) (by omega))).ret).imp (and_congr Int.ofNat_inj Iff.rfl)
theorem zwv{t:Tf}(h:¬ zvV t){c:List (List Int)}:Ev (ztK t c) (c.length=t.Weeks.length/\∀w∈c,w.length=t.Counts.length/\∀r∈w,0<=r/\r<=100):=by
 have hf:=few h;exact(Ev.ite fun hl=>(zwp (fun _ _=>zwu h) (zws (n:=4) (by omega) (by omega))).ret).imp (and_congr Int.ofNat_inj Iff.rfl)
theorem zww{t:Tf}:VT t↔((0<=t.From/\t.From<=120)/\(0<=t.Least/\t.Least<=100)/\(t.Weeks.Pairwise (· < ·)/\t.Weeks.head? = some 0)/\(∀x∈t.Weeks,0<=x/\x<=120)/\(t.Counts.Pairwise (· < ·)/\t.Counts.head? = some 0)/\t.Counts.getLast? = some 100/\t.Rates ≠ []/\∀c∈t.Rates,c.length=t.Weeks.length/\∀w∈c,w.length=t.Counts.length/\∀r∈w,0<=r/\r<=100):=by
 constructor
 ·intro h; exact⟨h.frm,h.lst,⟨h.wks.1,h.wks.2.1⟩,h.wks.2.2,⟨h.cts.1,h.cts.2.1⟩,h.c100,h.rne,h.rts⟩
 ·rintro⟨h1,h2,h3,h4,h5,h6,h7,h8⟩
  refine⟨h1,h2,⟨h3.1,h3.2,h4⟩,⟨h5.1,h5.2,fun x hx=>?_⟩,h6,h7,h8⟩;obtain⟨i,hi⟩:=List.mem_iff_getElem?.1 hx;have hil:=(List.getElem?_eq_some_iff.1 hi).1
  have h0:t.Counts[0]? = some 0:=by rw[<- h5.2]; cases t.Counts <;> rfl
  have hl:t.Counts[t.Counts.length - 1]? = some 100:=by rw[<- h6,List.getLast?_eq_getElem?]
  constructor
  ·rcases Nat.eq_zero_or_pos i with h9 | h9
   ·subst h9; rw[h0] at hi; cases hi; exact Int.le_refl _
   ·exact Int.le_of_lt (zvK h5.1 h0 hi h9)
  ·rcases Nat.lt_or_ge i (t.Counts.length - 1) with h9 | h9
   ·exact Int.le_of_lt (zvK h5.1 hi hl h9)
   ·rw[show i=t.Counts.length - 1 by omega,hl] at hi; cases hi; exact Int.le_refl _
theorem zwx{t:Tf}(h:¬ zvV t):Ev (ztL t) (VT t):=by
 have hf:=few h;have hw:zwd t.Weeks:=zws (n:=4) (by omega) (by omega);have hc:zwd t.Counts:=zws (n:=5) (by omega) (by omega);have hr:zwd t.Rates:=zws (n:=3) (by omega) (by omega);refine Ev.imp (Ev.and zv9 fun _=>Ev.and zwb fun _=>Ev.and (zwk hw) fun _=>Ev.and (zwo (q:=fun r=>0<=r/\r<=120) (fun _ _=>zv9) hw) fun _=>Ev.and (K:=t.Counts.getLast? = some 100/\t.Rates ≠ []/\∀c∈t.Rates,c.length=t.Weeks.length/\∀w∈c,w.length=t.Counts.length/\∀r∈w,0<=r/\r<=100) (zwk hc) fun hr2=>?_) zww.symm;obtain⟨x,hx,hx2⟩:=last_at (zwt hr2.2);refine Ev.gd (fI (by omega)) (Ev.bind hx (Ev.imp (Ev.ite fun _=>Ev.ite fun _=>(zwq (fun _ _=>zwv h) hr).ret) ?_));rw[hx2];refine and_congr ⟨fun h=>by rw[h],fun h=>oi h⟩ (and_congr ?_ Iff.rfl);rw[<- List.length_pos_iff]; omega
theorem zwy{t:Tf}{c w:Nat}{wks:List (List Int)}{rs:List Int}(hc:t.Rates[c]? = some wks)(hw:wks[w]? = some rs)(hl:rs.length=t.Counts.length)(h5:t.Counts.length<=5)(hw4:w<=4){K:Bool->Int->Option Bool}{b:Bool} :
  ((∀r∈rs,0<=r/\r<=100)->zsD t (c:Int) (w:Int) K 1000000 b 0=K b ((w:Int)+1))/\(¬ (∀r∈rs,0<=r/\r<=100)->zsD t (c:Int) (w:Int) K 1000000 b 0=some false):=by
 have key:=zsh (n:=rs.length) (F:=fun d x=>zsD t (c:Int) (w:Int) K d b x) (ok:=fun j=>0<=nth rs j/\nth rs j<=100) (bad:=some false) (fin:=K b ((w:Int)+1)) (fun d k hk=>by
  rw[zsD,if_pos (by omega),zsc hc,obs,zsc hw,obs,zwe hk,obs];obtain⟨b',h1,h2⟩:=zv7 (n:=nth rs k) (lo:=0) (hi:=100);rw[h1,obs]
  cases b' with
  | true=>rw[if_pos rfl,zrt (fI (by omega))]; exact⟨fun _=>rfl,fun h=>absurd (h2.1 rfl) h⟩
  | false=>rw[if_neg (by simp)]; exact⟨fun h=>(by have:=h2.2 h; cases this),fun _=>rfl⟩) (fun d=>by rw[zsD,if_neg (by omega),zrt (fI (by omega))]) (d:=1000000) (by omega)
 have hiff:(∀j,j < rs.length->0<=nth rs j/\nth rs j<=100)↔∀r∈rs,0<=r/\r<=100:=⟨fun h r hr=>by
  obtain⟨i,hi⟩:=List.mem_iff_getElem?.1 hr
  rw[<- zvN hi]; exact h i (List.getElem?_eq_some_iff.1 hi).1,fun h j hj=>h _ (List.mem_of_getElem? (zvO hj))⟩
 rw[hiff] at key;exact key
def zwz(t:Tf)(rs:List Int):Prop:=rs.length=t.Counts.length/\∀r∈rs,0<=r/\r<=100
theorem zwA{α:Type}{l:List α}{P:α->Prop}:(∀j,j < l.length->∀a,l[j]? = some a->P a)↔∀a∈l,P a:=
 ⟨fun h a ha=>by
  obtain⟨i,hi⟩:=List.mem_iff_getElem?.1 ha
  exact h i (List.getElem?_eq_some_iff.1 hi).1 a hi,fun h j _ a ha=>h a (List.mem_of_getElem? ha)⟩
theorem zwB{t:Tf}(h:¬ zvV t){c:Nat}{wks:List (List Int)}(hc:t.Rates[c]? = some wks)(hl:wks.length=t.Weeks.length){K:Bool->Int->Option Bool}{b:Bool} :
  ((∀w∈wks,zwz t w)->zsE t (c:Int) K 1000000 b 0=K b ((c:Int)+1))/\(¬ (∀w∈wks,zwz t w)->zsE t (c:Int) K 1000000 b 0=some false):=by
 have hf:=few h;have hcl:c < t.Rates.length:=(List.getElem?_eq_some_iff.1 hc).1
 have key:=zsh (n:=wks.length) (F:=fun d x=>zsE t (c:Int) K d b x) (ok:=fun j=>∀rs,wks[j]? = some rs->zwz t rs) (bad:=some false) (fin:=K b ((c:Int)+1)) (fun d k hk=>by
  have hw:=List.getElem?_eq_getElem hk;rw[zsE,if_pos (by omega),zsc hc,obs,zsc hw,obs]
  by_cases hlen:wks[k].length=t.Counts.length
  ·rw[if_pos (by omega)];obtain⟨q1,q2⟩:=zwy (t:=t) (b:=b) (K:=zsE t (c:Int) K d) hc hw hlen hf.2.1 (by omega);exact⟨fun hok=>q1 (hok _ hw).2,fun hok=>q2 fun h'=>hok fun rs hrs=>by rw[hw] at hrs; cases hrs; exact⟨hlen,h'⟩⟩
  ·rw[if_neg (by omega)]
   exact⟨fun hok=>absurd (hok _ hw).1 hlen,fun _=>rfl⟩) (fun d=>by rw[zsE,if_neg (by omega),zrt (fI (by omega))]) (d:=1000000) (by omega)
 rw[zwA (P:=zwz t)] at key;exact key
theorem zwC{t:Tf}(h:¬ zvV t):Ev (zsF t 1000000 false 0) (∀c∈t.Rates,c.length=t.Weeks.length/\∀w∈c,zwz t w):=by
 have hf:=few h
 have key:=Ev.loop (n:=t.Rates.length) (F:=fun d x=>zsF t d false x) (ok:=fun j=>∀c,t.Rates[j]? = some c->c.length=t.Weeks.length/\∀w∈c,zwz t w) (fin:=some true) (P:=True) (fun d k hk=>by
  have hc:=List.getElem?_eq_getElem hk;rw[zsF,if_pos (by omega),zsc hc,obs]
  by_cases hlen:t.Rates[k].length=t.Weeks.length
  ·rw[if_pos (by omega)];obtain⟨q1,q2⟩:=zwB h (b:=false) (K:=zsF t d) hc hlen;exact⟨fun hok=>q1 (hok _ hc).2,fun hok=>q2 fun h'=>hok fun rs hrs=>by rw[hc] at hrs; cases hrs; exact⟨hlen,h'⟩⟩
  ·rw[if_neg (by omega)]
   exact⟨fun hok=>absurd (hok _ hc).1 hlen,fun _=>rfl⟩) (fun d=>by rw[zsF,if_neg (Int.lt_irrefl _)]) (d:=1000000) (by omega) fun _=>Ev.tt trivial
 refine key.imp ⟨fun h=>zwA.1 h.1,fun h=>⟨zwA.2 h,trivial⟩⟩
theorem zwD{t:Tf}(h:¬ zvV t):Ev (zsG t) (VT t):=by
 have hf:=few h;have hw:zwd t.Weeks:=zws (n:=4) (by omega) (by omega);have hc:zwd t.Counts:=zws (n:=5) (by omega) (by omega);refine Ev.imp (Ev.and zv7 fun _=>Ev.and zv7 fun _=>Ev.and (zwl hw) fun _=>Ev.and (K:=t.Counts.getLast? = some 100/\t.Rates ≠ []/\∀c∈t.Rates,c.length=t.Weeks.length/\∀w∈c,zwz t w) (zwl hc) fun hr2=>?_) ?_
 ·obtain⟨x,hx,hx2⟩:=last_at (zwt hr2.1.2);refine Ev.gd (fI (by omega)) (Ev.bind hx (Ev.imp (Ev.ite fun _=>Ev.itn fun _=>zwC h) ?_));rw[hx2];refine and_congr ⟨fun h=>by rw[h],fun h=>oi h⟩ (and_congr ?_ Iff.rfl);rw[<- List.length_pos_iff]; omega
 ·refine⟨fun⟨h1,h2,h3,h4,h5,h6,h7⟩=>⟨h1,h2,⟨h3.1.1,h3.1.2,h3.2⟩,⟨h4.1.1,h4.1.2,h4.2⟩,h5,h6,h7⟩,fun h=>⟨h.frm,h.lst,⟨⟨h.wks.1,h.wks.2.1⟩,h.wks.2.2⟩,⟨⟨h.cts.1,h.cts.2.1⟩,h.cts.2.2⟩,h.c100,h.rne,h.rts⟩⟩
theorem zwE{t:Tf}:Ev (ztb t) (zvV t):=by
 unfold ztb zvV
 by_cases h1:(4:Int) < (t.Weeks.length:Int)
 ·rw[if_pos h1]; exact Ev.tt (.inl (by omega))
 ·rw[if_neg h1]
  by_cases h2:(5:Int) < (t.Counts.length:Int)
  ·rw[if_pos h2]; exact Ev.tt (.inr (.inl (by omega)))
  ·rw[if_neg h2]; exact Ev.dec (by omega)
theorem zwF{l:List Tf}:Ev (ztM l) (zvW l):=by
 unfold ztM zvW
 by_cases h1:(3:Int) < (l.length:Int)
 ·rw[if_pos h1]; exact Ev.tt (.inl (by omega))
 ·rw[if_neg h1];exact(zwr (fun _ _=>zwE) (zws (n:=3) (by omega) (by omega))).ret.imp ⟨fun h=>.inr h,fun h=>h.elim (fun h=>by omega) id⟩
theorem zwG{l:List Tf}(hl:zwd l):zs8 l=some (l.map (·.From)):=by
 unfold zwd at hl
 exact zsj (l:=l) (F:=zs7 l) (fun t:Tf=>t.From) some (fun d k acc a ha hac=>by
  have hk:=(List.getElem?_eq_some_iff.1 ha).1
  rw[zs7,if_pos (by omega),zsc ha,obs,zrt (show acc.length < 1048576 by omega),zrt (fI (by omega))]) (fun d acc=>by rw[zs7,if_neg (Int.lt_irrefl _)]) (by omega)
theorem zwH{l:List Tf}(h:l ≠ []):∃t,l[0]? = some t/\zvU l=t.Rates.length:=by
 cases l with
 | nil=>exact absurd rfl h
 | cons t l=>exact⟨t,rfl,rfl⟩
theorem zwI{l:List Tf}(h:l ≠ []){t:Tf}:Ev (zs9 l t) (t.Rates.length=zvU l):=by
 obtain⟨u,h1,h2⟩:=zwH h;exact Ev.bind (zsf h1) (Ev.dec (by rw[h2]; exact Int.ofNat_inj))
theorem zwJ{l:List Tf}(h:¬ zvW l):l.length<=3/\∀t∈l,¬ zvV t:=by
 unfold zvW at h
 exact⟨by rcases Nat.lt_or_ge 3 l.length with h1 | h1; exact absurd (.inl h1) h; exact h1,fun t ht h1=>h (.inr ⟨t,ht,h1⟩)⟩
theorem zwK{l:List Tf}(h:¬ zvW l):Ev (ztN l) (VL l):=by
 obtain⟨h3,ht⟩:=zwJ h;have hs:zwd l:=zws h3 (by omega)
 have key:Ev (ztN l) ((∀t∈l,VT t)/\((l.map (·.From)).Pairwise (· < ·)/\(l.map (·.From)).head? = some 0)/\∀t∈l,t.Rates.length=zvU l):=by
  refine Ev.and (zwn (fun t h'=>zwx (ht t h')) hs) fun _=>Ev.bind (zwG hs) (Ev.and (zwk (by unfold zwd; rw[List.length_map]; exact hs)) fun hr=>(zwn (fun t _=>zwI (fun e=>by rw[e] at hr; cases hr.2)) hs).ret)
 exact key.imp ⟨fun⟨h1,h2,h4⟩=>⟨fun e=>(by rw[e] at h2; cases h2.2),h1,h2.1,h2.2,h4⟩,fun h=>⟨h.vt,⟨h.pw,h.hd⟩,h.crp⟩⟩
theorem zwL{l:List Tf}:ztO l=some (zvX l):=by
 unfold ztO;refine zwF.pick (fun h=>?_) fun h=>?_
 ·rw[if_pos rfl]; unfold zvX; rw[if_pos h]
 ·rw[if_neg (by simp)];refine(zwK h).pick (fun hv=>?_) fun hv=>?_
  ·rw[if_pos rfl]; unfold zvX; rw[if_neg h,if_pos hv]
  ·rw[if_neg (by simp)]; unfold zvX; rw[if_neg h,if_neg hv]
def zlq(l:List Tf)(j:Nat)(t:Tf):Prop:=VT t/\t.Rates.length=zvU l/\(j=0->t.From=0)/\(0 < j->∀u,l[j - 1]? = some u->u.From < t.From)
theorem zwM{l:List Tf}(h:¬ zvW l)(hne:l ≠ []):((∀j,j < l.length->∀t,l[j]? = some t->zlq l j t)->zsH l (l.length+1) 0=some 0)/\(¬ (∀j,j < l.length->∀t,l[j]? = some t->zlq l j t)->zsH l (l.length+1) 0=some 1):=by
 obtain⟨h3,ht⟩:=zwJ h;obtain⟨u0,hu0,hcr⟩:=zwH hne;refine zsh (F:=zsH l) (fun d k hk=>?_) (fun d=>by rw[zsH,if_neg (Int.lt_irrefl _),if_neg (by have:=List.length_pos_iff.2 hne; omega)]) (Nat.lt_succ_self _);have hg:=List.getElem?_eq_getElem hk;generalize l[k]=t at hg;have hT:=zwD (ht t (List.mem_of_getElem? hg));have hgo:∀{P:Prop},(∀t',l[k]? = some t'->P)->P:=fun f=>f _ hg;rw[zsH,if_pos (by omega),zsc hg,obs];have zwS:∀{P:Tf->Prop},(∀t',l[k]? = some t'->P t')↔P t:=⟨fun f=>f _ hg,fun f t' ht'=>by rw[hg] at ht'; cases ht'; exact f⟩;rw[zwS];have done:∀{o:Option Int},(VT t->t.Rates.length=zvU l->(k=0->t.From=0)->(0 < k->∀u,l[k - 1]? = some u->u.From < t.From)->o=zsH l d ((k:Int)+1))->(¬ zlq l k t->o=some 1)->(zlq l k t->o=zsH l d ((k:Int)+1))/\(¬ zlq l k t->o=some 1):=fun a b=>⟨fun h=>a h.1 h.2.1 h.2.2.1 h.2.2.2,b⟩;obtain⟨b,hb,hb2⟩:=hT;rw[hb,obs]
 cases b with
 | false=>rw[if_neg (by simp)]; exact⟨fun h=>(by have:=hb2.2 h.1; cases this),fun _=>rfl⟩
 | true=>
  have hv:=hb2.1 rfl;rw[if_pos rfl,obs,zsf hu0,obs]
  by_cases hr:t.Rates.length=u0.Rates.length
  ·rw[if_pos (by omega)]
   have hr':t.Rates.length=zvU l:=by omega
   by_cases h0:k=0
   ·rw[if_pos (by omega),obs]
    by_cases hf:t.From=0
    ·rw[if_pos hf,if_neg (by omega),zrt (fI (by omega))];exact⟨fun _=>rfl,fun hn=>absurd ⟨hv,hr',fun _=>hf,fun h'=>by omega⟩ hn⟩
    ·rw[if_neg hf];exact⟨fun h'=>absurd (h'.2.2.1 h0) hf,fun _=>rfl⟩
   ·rw[if_neg (by omega),if_pos (by omega),obs,zrt (fI (by omega))]
    have hp:k - 1 < l.length:=by omega
    have hgp:=List.getElem?_eq_getElem hp;generalize l[k - 1]=u at hgp;rw[zse (by omega) hgp,obs]
    by_cases hle:t.From<=u.From
    ·rw[if_pos hle];exact⟨fun h'=>by have:=h'.2.2.2 (by omega) u hgp; omega,fun _=>rfl⟩
    ·rw[if_neg hle,zrt (fI (by omega))];exact⟨fun _=>rfl,fun hn=>absurd ⟨hv,hr',fun h'=>absurd h' h0,fun _ u' hu'=>by rw[hgp] at hu'; cases hu'; omega⟩ hn⟩
  ·rw[if_neg (by omega)];exact⟨fun h'=>by have:=h'.2.1; omega,fun _=>rfl⟩
theorem zwN{l:List Tf}(hne:l ≠ []):(∀j,j < l.length->∀t,l[j]? = some t->zlq l j t)↔VL l:=by
 have hm:∀j t,l[j]? = some t->nth (l.map (·.From)) j=t.From:=fun j t h=>zvN (by rw[List.getElem?_map,h]; rfl)
 constructor
 ·intro h;refine⟨hne,fun t ht=>?_,zwg fun j h0 hj=>?_,?_,fun t ht=>?_⟩
  ·obtain⟨i,hi⟩:=List.mem_iff_getElem?.1 ht;exact(h i (List.getElem?_eq_some_iff.1 hi).1 t hi).1
  ·rw[List.length_map] at hj;have h1:=List.getElem?_eq_getElem hj;have h2:=List.getElem?_eq_getElem (show j - 1 < l.length by omega);rw[hm _ _ h1,hm _ _ h2];exact(h j hj _ h1).2.2.2 h0 _ h2
  ·obtain⟨t,h1,_⟩:=zwH hne;have:=(h 0 (List.getElem?_eq_some_iff.1 h1).1 t h1).2.2.1 rfl
   cases l with
   | nil=>cases h1
   | cons a l=>cases h1; simp[this]
  ·obtain⟨i,hi⟩:=List.mem_iff_getElem?.1 ht;exact(h i (List.getElem?_eq_some_iff.1 hi).1 t hi).2.1
 ·intro h j hj t ht;refine⟨h.vt t (List.mem_of_getElem? ht),h.crp t (List.mem_of_getElem? ht),fun h0=>?_,fun h0 u hu=>?_⟩
  ·subst h0;have:=h.hd
   cases l with
   | nil=>cases ht
   | cons a l=>cases ht; simpa using this
  ·have:=zwh.2 h.pw j h0 (by rw[List.length_map]; exact hj)
   rwa [hm _ _ ht,hm _ _ hu] at this
theorem zwO{l:List Tf}:zsJ l=some (zvX l):=by
 unfold zsJ
 by_cases h1:(3:Int) < (l.length:Int)
 ·rw[if_pos h1]; unfold zvX; rw[if_pos (.inl (by omega))]
 ·rw[if_neg h1]
  have key:=zsh (n:=l.length) (F:=fun d x=>zsI l d 0 x) (ok:=fun j=>∀t,l[j]? = some t->¬ zvV t) (bad:=some 3) (fin:=zsH l (l.length+1) 0) (fun d k hk=>by
   have hg:=List.getElem?_eq_getElem hk;generalize l[k]=t at hg;have zwS:(∀t',l[k]? = some t'->¬ zvV t')↔¬ zvV t:=⟨fun f=>f _ hg,fun f t' ht'=>by rw[hg] at ht'; cases ht'; exact f⟩;rw[zwS,zsI,if_pos (by omega),zsc hg,obs];unfold zvV
   by_cases h4:(4:Int) < (t.Weeks.length:Int)
   ·rw[if_pos h4]; exact⟨fun h=>by omega,fun _=>rfl⟩
   ·rw[if_neg h4,obs]
    by_cases h5:(5:Int) < (t.Counts.length:Int)
    ·rw[if_pos h5]; exact⟨fun h=>by omega,fun _=>rfl⟩
    ·rw[if_neg h5,obs]
     by_cases h6:(3:Int) < (t.Rates.length:Int)
     ·rw[if_pos h6]; exact⟨fun h=>by omega,fun _=>rfl⟩
     ·rw[if_neg h6,zrt (fI (by omega))]; exact⟨fun _=>rfl,fun h=>by omega⟩) (fun d=>by rw[zsI,if_neg (Int.lt_irrefl _)]) (d:=l.length+1) (by omega)
  rw[zwA (P:=fun t=>¬ zvV t)] at key
  by_cases hm:zvW l
  ·unfold zvX;rw[if_pos hm];refine key.2 fun hh=>?_
   rcases hm with hm | ⟨t,ht,hm⟩
   ·omega
   ·exact hh t ht hm
  ·refine(key.1 (zwJ hm).2).trans ?_;unfold zvX;rw[if_neg hm]
   by_cases hne:l=[]
   ·subst hne;rw[if_neg fun h=>h.ne rfl]
    rfl
   ·obtain⟨q1,q2⟩:=zwM hm hne;rw[zwN hne] at q1 q2
    by_cases hv:VL l
    ·rw[if_pos hv,q1 hv]
    ·rw[if_neg hv,q2 hv]
theorem zwP{l:List Tf}:zsX l=some (zvX l):=by unfold zsX; rw[zwO]; rfl
structure zwQ (t:Tf):Prop where
 w:t.Weeks.length<=7
 c:t.Counts.length<=7
 r:t.Rates.length<=5
 rr:∀c∈t.Rates,c.length<=7/\∀w∈c,w.length<=7
def zwR(l:List Tf):Prop:=l.length<=5/\∀t∈l,zwQ t
theorem zwS{α:Type}{l:List α}{k:Nat}{a:α}(h:l[k]? = some a){P:α->Prop}:(∀x,l[k]? = some x->P x)↔P a:=⟨fun f=>f _ h,fun f x hx=>by rw[h] at hx; cases hx; exact f⟩
theorem zwT{l:List Tf}{i c:Nat}{t:Tf}{wks:List (List Int)}(hi:l[i]? = some t)(hc:t.Rates[c]? = some wks)(h7:wks.length<=7)(h5:c < 5){K:Bool->Int->Option Bool}{b:Bool} :
  ((∀w∈wks,w.length<=7)->zsT l (i:Int) (c:Int) K 1000000 b 0=K b ((c:Int)+1))/\(¬ (∀w∈wks,w.length<=7)->zsT l (i:Int) (c:Int) K 1000000 b 0=some false):=by
 have key:=zsh (n:=wks.length) (F:=fun d x=>zsT l (i:Int) (c:Int) K d b x) (ok:=fun j=>∀w,wks[j]? = some w->w.length<=7) (bad:=some false) (fin:=K b ((c:Int)+1)) (fun d k hk=>by
  have hg:=List.getElem?_eq_getElem hk;generalize wks[k]=w at hg;rw[zwS hg (P:=fun w=>w.length<=7),zsT,zsc hi,obs,zsc hc,obs,if_pos (by omega),obs,zsc hc,obs,zsc hg,obs]
  by_cases h:(7:Int) < (w.length:Int)
  ·rw[if_pos h]; exact⟨fun h=>by omega,fun _=>rfl⟩
  ·rw[if_neg h,zrt (fI (by omega))]; exact⟨fun _=>rfl,fun h=>by omega⟩) (fun d=>by rw[zsT,zsc hi,obs,zsc hc,obs,if_neg (Int.lt_irrefl _),zrt (fI (by omega))]) (d:=1000000) (by omega)
 rw[zwA (l:=wks) (P:=fun w:List Int=>w.length<=7)] at key;exact key
theorem zwU{l:List Tf}{i:Nat}{t:Tf}(hi:l[i]? = some t)(h5:t.Rates.length<=5)(hi5:i < 5){K:Bool->Int->Option Bool}{b:Bool} :
  ((∀c∈t.Rates,c.length<=7/\∀w∈c,w.length<=7)->zsU l (i:Int) K 1000000 b 0=K b ((i:Int)+1))/\(¬ (∀c∈t.Rates,c.length<=7/\∀w∈c,w.length<=7)->zsU l (i:Int) K 1000000 b 0=some false):=by
 have key:=zsh (n:=t.Rates.length) (F:=fun d x=>zsU l (i:Int) K d b x) (ok:=fun j=>∀c,t.Rates[j]? = some c->c.length<=7/\∀w∈c,w.length<=7) (bad:=some false) (fin:=K b ((i:Int)+1)) (fun d k hk=>by
  have hg:=List.getElem?_eq_getElem hk;generalize t.Rates[k]=c at hg;rw[zwS hg (P:=fun c=>c.length<=7/\∀w∈c,w.length<=7),zsU,zsc hi,obs,if_pos (by omega),obs,zsc hg,obs]
  by_cases h:(7:Int) < (c.length:Int)
  ·rw[if_pos h]; exact⟨fun h=>by omega,fun _=>rfl⟩
  ·rw[if_neg h];obtain⟨q1,q2⟩:=zwT (K:=zsU l (i:Int) K d) (b:=b) hi hg (by omega) (by omega)
   exact⟨fun h'=>q1 h'.2,fun h'=>q2 fun h2=>h' ⟨by omega,h2⟩⟩) (fun d=>by rw[zsU,zsc hi,obs,if_neg (Int.lt_irrefl _),zrt (fI (by omega))]) (d:=1000000) (by omega)
 rw[zwA (l:=t.Rates) (P:=fun c:List (List Int)=>c.length<=7/\∀w∈c,w.length<=7)] at key;exact key
theorem zwV{l:List Tf}:Ev (zsW l) (zwR l):=by
 unfold zsW zwR;refine(Ev.itn (p:=(5:Int) < (l.length:Int)) (K:=∀t∈l,zwQ t) fun h5=>?_).imp (and_congr (by omega) Iff.rfl)
 have key:=Ev.loop (n:=l.length) (F:=fun d x=>zsV l d false x) (ok:=fun j=>∀t,l[j]? = some t->zwQ t) (fin:=some true) (P:=True) (fun d k hk=>by
  have hg:=List.getElem?_eq_getElem hk;generalize l[k]=t at hg;rw[zwS hg (P:=zwQ),zsV,if_pos (by omega),zsc hg,obs]
  by_cases h1:(7:Int) < (t.Weeks.length:Int)
  ·rw[if_pos h1]; exact⟨fun h=>by have:=h.w; omega,fun _=>rfl⟩
  ·rw[if_neg h1,obs]
   by_cases h2:(7:Int) < (t.Counts.length:Int)
   ·rw[if_pos h2]; exact⟨fun h=>by have:=h.c; omega,fun _=>rfl⟩
   ·rw[if_neg h2,obs]
    by_cases h3:(5:Int) < (t.Rates.length:Int)
    ·rw[if_pos h3]; exact⟨fun h=>by have:=h.r; omega,fun _=>rfl⟩
    ·rw[if_neg h3];obtain⟨q1,q2⟩:=zwU (K:=zsV l d) (b:=false) hg (by omega) (by omega)
     exact⟨fun h=>q1 h.rr,fun h=>q2 fun h'=>h ⟨by omega,by omega,by omega,h'⟩⟩) (fun d=>by rw[zsV,if_neg (Int.lt_irrefl _)]) (d:=l.length+1) (by omega) fun _=>Ev.tt trivial
 exact key.imp ⟨fun h=>zwA.1 h.1,fun h=>⟨zwA.2 h,trivial⟩⟩
theorem zwW{l:List Int}(h:l.length<=1048576):zsS l=some l:=by unfold zsS; rw[zrt (by simp; omega)]; simp
theorem zwX{l:List Tf}{i c:Nat}{t:Tf}{wks:List (List Int)}(hi:l[i]? = some t)(hc:t.Rates[c]? = some wks)(h7:wks.length<=7)(hw:∀w∈wks,w.length<=7)(h5:c < 5){a1:Int}{a2:Bool}{a3:Int}{a4:List (List (List Int))}(h4:a4.length < 5){K:Int->Bool->Int->List (List (List Int))->Int->Option (List Tf)} :
  ztW l (i:Int) a1 a2 a3 a4 (c:Int) K 1000000 [] 0=K a1 a2 a3 (a4++[wks]) ((c:Int)+1):=by
 have key:=zsj (l:=wks) (fun w=>w) (F:=fun d acc x=>ztW l (i:Int) a1 a2 a3 a4 (c:Int) K d acc x) (fun acc=>K a1 a2 a3 (a4++[acc]) ((c:Int)+1)) (fun d k acc a ha hac=>by
  have hk:=(List.getElem?_eq_some_iff.1 ha).1;have hs:=hw a (List.mem_of_getElem? ha)
  rw[ztW,zsc hi,obs,zsc hc,obs,if_pos (by omega),obs,zsc hc,obs,zsc ha,obs,zwW (by omega),obs,zrt (show acc.length < 1048576 by omega),zrt (fI (by omega))]) (fun d acc=>by
  rw[ztW,zsc hi,obs,zsc hc,obs,if_neg (Int.lt_irrefl _),zrt (show a4.length < 1048576 by omega),zrt (fI (by omega))]) (d:=1000000) (by omega)
 rw[List.map_id'] at key;exact key
theorem zwY{l out:List Tf}{i:Nat}{t:Tf}(hi:l[i]? = some t)(ht:zwQ t)(hi5:i < 5)(ho:out.length < 5){r1 r2:List Int}{a1:Int}{a2:Bool}{a3:Int}{K:List Tf->Int->Option (List Tf)} :
  ztX l out (i:Int) r1 r2 K 1000000 a1 a2 a3 [] 0=K (out++[⟨a1,a2,a3,r1,r2,t.Rates⟩]) ((i:Int)+1):=by
 have hr:=ht.r
 have key:=zsj (l:=t.Rates) (fun w=>w) (F:=fun d acc x=>ztX l out (i:Int) r1 r2 K d a1 a2 a3 acc x) (fun acc=>K (out++[⟨a1,a2,a3,r1,r2,acc⟩]) ((i:Int)+1)) (fun d k acc a ha hac=>by
  have hk:=(List.getElem?_eq_some_iff.1 ha).1;obtain⟨q1,q2⟩:=ht.rr a (List.mem_of_getElem? ha)
  rw[ztX,zsc hi,obs,if_pos (by omega),zwX hi ha q1 q2 (by omega) (by omega)]) (fun d acc=>by
  rw[ztX,zsc hi,obs,if_neg (Int.lt_irrefl _),zrt (show out.length < 1048576 by omega),zrt (fI (by omega))]) (d:=1000000) (by omega)
 rw[List.map_id'] at key;exact key
theorem zwZ{l:List Tf}(h:zwR l):ztZ l=some l:=by
 obtain⟨h5,ht⟩:=h
 have key:=zsj (l:=l) (fun w=>w) (F:=ztY l) some (fun d k acc a ha hac=>by
  have hk:=(List.getElem?_eq_some_iff.1 ha).1;have hT:=ht a (List.mem_of_getElem? ha);have h1:=hT.w;have h2:=hT.c;rw[ztY,if_pos (by omega),zsc ha]
  simp only[obs]
  rw[zwW (by omega),obs,zwW (by omega),obs,zwY ha hT (by omega) (by omega)]) (fun d acc=>by rw[ztY,if_neg (Int.lt_irrefl _)]) (d:=l.length+1) (by omega)
 rw[List.map_id'] at key;exact key
theorem zw0{l:List Tf}:Ev (zsY l) (zwR l/\zvX l=0):=Ev.and zwV fun _=>Ev.bind zwP (Ev.dec Iff.rfl)
theorem zw1{l:List Int}{n:Int}(hl:l.length<=1000):∀d (k:Nat),k < l.length->l.length - k<=d->zsK l n d (k:Int)=some (((k+lastN (l.drop k) n:Nat):Int))
 | 0,k,hk,h=>by omega
 | d+1,k,hk,h=>by
  rw[zsK,zrt (fI (by omega))]
  by_cases h1:k+1 < l.length
  ·have e1:=List.getElem?_eq_getElem h1;rw[if_pos (by omega),zrt (fI (by omega)),show(k:Int)+1=((k+1:Nat):Int) by omega,zsc e1,obs]
   have hd:l.drop k=l[k]::l[k+1]::l.drop (k+2):=by rw[List.drop_eq_getElem_cons hk,List.drop_eq_getElem_cons h1]
   have hd1:l.drop (k+1)=l[k+1]::l.drop (k+2):=List.drop_eq_getElem_cons h1
   by_cases hle:l[k+1]<=n
   ·rw[if_pos hle,zrt (fI (by omega)),zw1 hl d (k+1) h1 (by omega),hd,lastN,if_pos hle,hd1]
    congr 2; omega
   ·rw[if_neg hle,hd,lastN,if_neg hle]; rfl
  ·rw[if_neg (by omega)]
   have hd:l.drop k=[l[k]]:=by rw[List.drop_eq_getElem_cons hk,List.drop_eq_nil_of_le (by omega)]
   rw[hd]; rfl
theorem zw2{l:List Int}{n:Int}(hl:l.length<=1000)(hne:l ≠ []):zsL l n=some (lastN l n:Int):=by
 have hlen:=List.length_pos_iff.2 hne;have h:=zw1 (n:=n) hl 1000000 0 hlen (by omega);rw[List.drop_zero,Nat.zero_add] at h;exact h
theorem zw3{l:List Tf}(h:VL l)(hl:l.length<=3)(d:Int):zsN l d=some (ofN l d):=by
 have hne:l.map (·.From) ≠ []:=fun e=>h.ne (List.map_eq_nil_iff.1 e);obtain⟨h1,_⟩:=h.of d
 refine(zsj (l:=l) (fun t:Tf=>t.From) (F:=zsM l d) (fun acc=>((zsL acc d).bind fun r=>(idx l r).bind fun v=>some v)) (fun d k acc a ha hac=>by
  have hk:=(List.getElem?_eq_some_iff.1 ha).1
  rw[zsM,if_pos (by omega),zsc ha,obs,zrt (show acc.length < 1048576 by omega),zrt (fI (by omega))]) (fun d acc=>by rw[zsM,if_neg (Int.lt_irrefl _)]) (d:=l.length+1) (by omega)).trans ?_
 rw[zw2 (by rw[List.length_map]; omega) hne,obs,zsc h1,obs]
theorem zw4{x y:Int}(hx:0<=x/\x<=100)(hy:0<=y/\y<=100):0<=x * y/\x * y<=10000:=by
 refine⟨Int.mul_nonneg hx.1 hy.1,?_⟩;have h1:x * y<=100 * y:=Int.mul_le_mul_of_nonneg_right hx.2 hy.1
 omega
theorem zw5{a b x y n:Int}(h1:0<=a/\a<=n)(h2:n<=b/\b<=100)(hab:a < b)(hx:0<=x/\x<=100)(hy:0<=y/\y<=100):0<=zvP a b x y n/\zvP a b x y n<=100:=
 ⟨zvS h1.2 h2.1 hab (Int.le_refl _) hx.1 hy.1,zvR h1.2 h2.1 hab hx.1 hy.1 hx.2 hy.2⟩
theorem Cnt.rng{t:Tf}(h:VT t){i:Nat}(hi:i < t.Counts.length):0<=nth t.Counts i/\nth t.Counts i<=100:=h.cts.2.2 _ (List.mem_of_getElem? (zvO hi))
theorem zw6{l:List Tf}(h:l ≠ []):zsO l=some (zvU l:Int):=by
 obtain⟨t,h1,h2⟩:=zwH h;unfold zsO; rw[zsf h1,obs,h2]
theorem zw7{x:Int}:ztc x=some false:=by unfold ztc; simp
theorem zw8{x:Int}:ztd x=some false:=by unfold ztd; simp
theorem zw9{x y:Int}:Ev (zte x y) (x < y):=by
 unfold zte;rw[zw7,obs,if_neg (by simp)];exact Ev.dec Iff.rfl
theorem fU{n:Int}(h:0<=n/\n < 18446744073709551616):zne .u64 n:=h
theorem zxa{l:List Int}(hp:l.Pairwise (· < ·)){i j:Nat}(hij:i<=j)(hj:j < l.length):nth l i<=nth l j:=by
 rcases Nat.lt_or_ge i j with h | h
 ·exact Int.le_of_lt (zvK hp (zvO (by omega)) (zvO hj) h)
 ·rw[show i=j by omega]; exact Int.le_refl _
theorem zxb{l:List Int}{x:Int}(hp:l.Pairwise (· < ·))(hl:l.length<=1048576):∀d (i j:Nat),i<=j->j<=l.length->j - i < d->(∀m,m < i->nth l m < x)->(∀m,j<=m->m < l.length->x<=nth l m) ->
  ∃(k:Nat) (f:Bool),ztf l x d (i:Int) (j:Int)=some ((k:Int),f)/\k<=l.length/\(∀m,m < k->nth l m < x)/\(∀m,k<=m->m < l.length->x<=nth l m)/\(f=true↔k < l.length/\nth l k=x)
 | 0,i,j,_,_,h,_,_=>by omega
 | d+1,i,j,hij,hj,h,hlo,hhi=>by
  rw[ztf]
  by_cases hlt:i < j
  ·have e1:znj .u64 ((i:Int)+(j:Int))=((i+j:Nat):Int):=by rw[wz (fU (by omega))]; omega
   have e2:((i+j:Nat):Int) / 2=(((i+j) / 2:Nat):Int):=by omega
   have hm:(i+j) / 2 < l.length:=by omega
   have e3:znj .i64 (((i+j) / 2:Nat):Int)=(((i+j) / 2:Nat):Int):=wz (fI (by omega));rw[if_pos (by omega),zrt (fI (by omega)),e1,zrt (by omega),zrt (by omega),zrt (by omega),e2,zrt (fU (by omega)),e3,zwe hm,obs]
   generalize hmid:(i+j) / 2=md at *
   obtain⟨b,h1,h2⟩:=zw9 (x:=nth l md) (y:=x);rw[h1,obs]
   cases b with
   | true=>
    rw[if_pos rfl,zrt (fI (by omega)),show(md:Int)+1=((md+1:Nat):Int) by omega];have h3:=h2.1 rfl;exact zxb hp hl d (md+1) j (by omega) hj (by omega) (fun m hm'=>by have:=zxa hp (show m<=md by omega) hm; omega) hhi
   | false=>
    rw[if_neg (by simp)]
    have h3:x<=nth l md:=by
     rcases Int.lt_or_le (nth l md) x with h4 | h4
     ·have:=h2.2 h4; cases this
     ·exact h4
    exact zxb hp hl d i md (by omega) (by omega) (by omega) hlo (fun m hm' hml=>by have:=zxa hp hm' hml; omega)
  ·have hij':i=j:=by omega
   subst hij';rw[if_neg (Int.lt_irrefl _)]
   by_cases hil:i < l.length
   ·rw[if_pos (by omega),zwe hil,obs]
    by_cases he:nth l i=x
    ·rw[if_pos he]; exact⟨i,true,rfl,hj,hlo,hhi,⟨fun _=>⟨hil,he⟩,fun _=>rfl⟩⟩
    ·rw[if_neg he,obs,zw8,obs,if_neg (by simp)];exact⟨i,false,rfl,hj,hlo,hhi,⟨fun h=>(by cases h),fun h=>absurd h.2 he⟩⟩
   ·rw[if_neg (by omega)];exact⟨i,false,rfl,hj,hlo,hhi,⟨fun h=>(by cases h),fun h=>absurd h.1 hil⟩⟩
theorem zxc{l:List Int}{x:Int}(hp:l.Pairwise (· < ·))(hl:l.length<=1048576) :
  ∃(k:Nat) (f:Bool),ztg l x=some ((k:Int),f)/\k<=l.length/\(∀m,m < k->nth l m < x)/\(∀m,k<=m->m < l.length->x<=nth l m)/\(f=true↔k < l.length/\nth l k=x):=
 zxb hp hl (l.length+1) 0 l.length (Nat.zero_le _) (Nat.le_refl _) (by omega) (fun m h=>by omega) (fun m h1 h2=>by omega)
theorem zxd{l:List Int}{z:Int}(h:l.head? = some z):nth l 0=z/\0 < l.length:=by
 cases l with
 | nil=>cases h
 | cons a l=>cases h; exact⟨rfl,Nat.succ_pos _⟩
theorem zxe{l:List Int}{n:Int}(hp:l.Pairwise (· < ·))(hh:l.head? = some 0)(hl:l.length<=1000)(hn:0<=n/\n<=1000):zth l n=some (lastN l n:Int):=by
 obtain⟨k,f,h1,h2,h3,h4,_⟩:=zxc (x:=n+1) hp (by omega);obtain⟨e0,l0⟩:=zxd hh
 have hk:0 < k:=by
  rcases Nat.eq_zero_or_pos k with h | h
  ·have:=h4 0 (by omega) l0; omega
  ·exact h
 have hu:lastN l n=k - 1:=zvL hp (by omega) (fun x hx=>by rw[<- zvN hx]; have:=h3 (k - 1) (by omega); omega) (fun x hx=>by
  have hlt:=(List.getElem?_eq_some_iff.1 hx).1
  rw[<- zvN hx]; have:=h4 (k - 1+1) (by omega) hlt; omega) (fun x hx=>by rw[hh] at hx; cases hx; exact hn.1)
 unfold zth;rw[zrt (fI (by omega)),h1,obs,zrt (fI (by show _<=(k:Int) - 1/\_; omega)),hu]
 congr 1
 show(k:Int) - 1=_
 omega
theorem zxf{l:List Tf}(h:VL l)(hl:l.length<=3){d:Int}(hd:0<=d/\d<=120):zti l d=some (ofN l d):=by
 obtain⟨h1,_⟩:=h.of d;unfold zti;rw[zwG (zws hl (by omega)),obs,zxe h.pw h.hd (by rw[List.length_map]; omega) (by omega),obs,zsc h1,obs]
theorem zxg{t:Tf}(h:VT t)(hf:¬ zvV t){hh:Ht}(h0:0<=hh.crop)(h1:hh.crop < t.Rates.length)(hn:0<=hh.Count)(h100:hh.Count<=100)(hd:0<=hh.Day/\hh.Day<=120):ztl t hh=some (zvQ t.Counts (zvZ t hh.crop hh.Day) hh.Count):=by
 obtain⟨day,n,crop⟩:=hh
 dsimp only at h0 h1 hn h100 hd
 have hfew:=few hf;obtain⟨wks,q1,q2,q3⟩:=h.rates h0 h1 day;have hc:=h.cnt;obtain⟨b1,b2⟩:=q3.btw hn h100;obtain⟨k,f,k1,k2,k3,k4,k5⟩:=zxc (x:=n) h.cts.1 (show t.Counts.length<=1048576 by omega);obtain⟨e0,l0⟩:=zxd h.cts.2.1;unfold ztl
 dsimp only
 rw[show idx t.Rates crop=idx t.Rates ((crop.toNat:Nat):Int) by rw[Int.toNat_of_nonneg h0],zsc q1,obs,zxe h.wks.1 h.wks.2.1 (by omega) (by omega),obs,zsc q2,obs,k1,obs]
 dsimp only
 by_cases hfl:f=true
 ·obtain⟨c1,c2⟩:=k5.1 hfl
  have hu:lastN t.Counts n=k:=by rw[<- c2]; exact hc.last_at c1
  rw[if_pos hfl,zwe (by rw[q3.len]; exact c1),obs];unfold zvQ
  dsimp only
  rw[hu,if_pos c2]
 ·have hne:∀m,m < t.Counts.length->nth t.Counts m ≠ n:=fun m hm he=>by
   rcases Nat.lt_or_ge m k with h6 | h6
   ·have:=k3 m h6; omega
   ·rcases Nat.lt_or_ge k m with h7 | h7
    ·have h8:=k4 k (Nat.le_refl _) (by omega);have:=zvK h.cts.1 (zvO (show k < t.Counts.length by omega)) (zvO hm) h7
     omega
    ·have:m=k:=by omega
     subst this;exact hfl (k5.2 ⟨hm,he⟩)
  obtain⟨b3,b4⟩:=b2 (hne _ (hc.lt n))
  have hu:lastN t.Counts n+1=k:=by
   rcases Nat.lt_trichotomy (lastN t.Counts n+1) k with h6 | h6 | h6
   ·have:=k3 _ h6; omega
   ·exact h6
   ·have:=k4 (lastN t.Counts n) (by omega) (hc.lt n);have:=hne _ (hc.lt n)
    omega
  subst hu;have hl:=hc.lt n
  have hlr:lastN t.Counts n < (zvZ t crop day).length:=by rw[q3.len]; exact hl
  have hlr2:lastN t.Counts n+1 < (zvZ t crop day).length:=by rw[q3.len]; exact b3
  have hi:=q3.at hl;have hi2:=q3.at b3;have c1:=Cnt.rng h hl;have c2:=Cnt.rng h b3
  have hcast:((lastN t.Counts n+1:Nat):Int) - 1=((lastN t.Counts n:Nat):Int):=by omega
  rw[if_neg hfl,zrt (fI (by omega)),hcast,zwe hl,obs,zwe b3,obs,zrt (fI (by omega)),zwe hlr,obs,zwe hlr2];have hline:=zw5 ⟨c1.1,b1⟩ ⟨Int.le_of_lt b4,c2.2⟩ (by omega) hi hi2;unfold zvQ
  dsimp only
  rw[if_neg (hne _ hl)];unfold zvP at hline ⊢
  generalize nth t.Counts (lastN t.Counts n)=a at *
  generalize nth t.Counts (lastN t.Counts n+1)=b at *
  generalize nth (zvZ t crop day) (lastN t.Counts n)=x at *
  generalize nth (zvZ t crop day) (lastN t.Counts n+1)=y at *
  have p1:=zw4 hi (show 0<=b - n/\b - n<=100 by omega);have p2:=zw4 hi2 (show 0<=n - a/\n - a<=100 by omega);rw[zrt (fI (by omega)),zrt (by omega),zrt (by omega),zrt (fI (by omega)),obs,zrt (fI (by omega)),zrt (by omega),zrt (by omega),zrt (fI (by omega)),zrt (fI (by omega)),zrt (fI (by omega)),zrt (by omega),zrt (by omega),zrt (fI (by omega))]
theorem zxh{t:Tf}(h:VT t)(hf:¬ zvV t){hh:Ht}(h0:0<=hh.crop)(h1:hh.crop < t.Rates.length)(hn:0<=hh.Count)(h100:hh.Count<=100)(hd:0<=hh.Day/\hh.Day<=120):ztQ t hh=some (zv1 t hh.crop hh.Day hh.Count):=by
 obtain⟨_,_,_,q3⟩:=h.rates h0 h1 hh.Day;have hr:=q3.loss_rng hn h100;have hls:=h.lst;unfold ztQ zv1 zv0;rw[zxg h hf h0 h1 hn h100 hd,obs]
 generalize zvQ t.Counts (zvZ t hh.crop hh.Day) hh.Count=x at *
 by_cases h4:x < t.Least
 ·rw[if_pos h4,if_pos h4]
 ·rw[if_neg h4,if_neg h4];unfold ztP
  by_cases h5:t.Whole=true
  ·rw[if_pos h5,if_pos h5,obs]; rfl
  ·rw[if_neg h5,if_neg h5,obs]
   show Option.bind (ztk t x) _=_
   unfold ztk;rw[zrt (fI (by omega)),obs]
def zxi(l:List Tf)(M:Option (Ht->Option Int)):Prop:=∃f,M=some f/\∀h v,f h=some v->v=zv2 l h.crop h.Day h.Count
structure zxj (l:List Tf) (h:Ht):Prop where
 c:0<=h.crop/\h.crop < zvU l
 n:0<=h.Count/\h.Count<=100
 d:0<=h.Day/\h.Day<=120
theorem zxk{l:List Tf}(hf:zvX l=0):0 < zvU l/\zvU l<=3:=by
 obtain⟨hm,hv⟩:=zvY.1 hf;obtain⟨h3,ht⟩:=zwJ hm;obtain⟨t,h1,h2⟩:=zwH hv.ne;have hmem:=List.mem_of_getElem? h1;have:=few (ht t hmem);have:=List.length_pos_iff.2 (hv.vt t hmem).rne
 omega
theorem zxl{l:List Tf}(hf:zvX l=0){M:Option (Ht->Option Int)}(hM:zxi l M){h:Ht}(hh:zxj l h):∃M',ztS ⟨l,M⟩ h=some (zv2 l h.crop h.Day h.Count,M')/\zxi l M':=by
 obtain⟨hm,hv⟩:=zvY.1 hf;obtain⟨h3,ht⟩:=zwJ hm;have hcr:=zxk hf;obtain⟨f,rfl,hf2⟩:=hM;have hc:=hh.c;have hn:=hh.n;have hd:=hh.d;unfold ztS;rw[zrt (show MK.fit h from ⟨fI (by omega),fI (by omega),fI (by omega),trivial⟩)]
 cases hg:zrM (some f) h with
 | some v=>
  rw[zrW rfl];have:v=_:=hf2 h v hg;subst this;exact⟨_,rfl,f,rfl,hf2⟩
 | none=>
  rw[zrV rfl,zxf hv h3 hd,obs,zxh (hv.vof _) (ht _ (hv.of _).2) hc.1 (by rw[hv.cof]; exact hc.2) hn.1 hn.2 hd,obs,zrt (show MK.fit h from ⟨fI (by omega),fI (by omega),fI (by omega),trivial⟩)];refine⟨_,rfl,_,rfl,fun k v hk=>?_⟩
  by_cases hkh:k=h
  ·subst hkh;rw[if_pos rfl] at hk;exact(oi hk).symm
  ·rw[if_neg hkh] at hk; exact hf2 k v hk
theorem zxm{l:List Tf}:zxi l (some fun _=>none):=⟨_,rfl,fun _ _ h=>by cases h⟩
theorem zxn{l:List Tf}(hf:zvX l=0):ztR l=some (⟨l,some fun _=>none⟩,0):=by unfold ztR; rw[zwL,obs,if_pos hf]
theorem zxo{l:List Tf}(hf:zvX l=0){n:Int}:Ev (zta l n) (0<=n/\n < zvU l):=by
 obtain⟨hm,hv⟩:=zvY.1 hf;obtain⟨t,h1,h2⟩:=zwH hv.ne;have:=zxk hf;refine Ev.bind (zsf h1) ?_;rw[<- h2];exact(zwc (by omega)).ret
def InN(l:List Tf)(crop day count:Int):Prop:=(0<=crop/\crop < zvU l)/\(0<=day/\day<=120)/\(0<=count/\count<=100)
theorem zxp{l:List Tf}(hf:zvX l=0){c d n:Int}(h:InN l c d n):ztT l c d n=some (zv2 l c d n,0):=by
 obtain⟨h1,h2,h3⟩:=h;obtain⟨M',h4,_⟩:=zxl hf zxm (h:=⟨d,n,c⟩) ⟨h1,h3,h2⟩;unfold ztT;rw[zxn hf,obs,if_pos rfl,(zxo hf).some_of h1,obs,if_pos rfl,zv9.some_of h2,obs,if_pos rfl,zwa.some_of h3,obs,if_pos rfl]
 dsimp only
 rw[h4,obs]
theorem zxq{l:List Tf}(hf:zvX l=0){h:Ht}(hh:zxj l h):0<=zv2 l h.crop h.Day h.Count/\zv2 l h.crop h.Day h.Count<=100:=
 (zvY.1 hf).2.part_rng hh.c.1 hh.c.2 hh.n.1 hh.n.2 _
theorem zxr{l:List Tf}(hf:zvX l=0){c d:Int}(hc:0<=c/\c < zvU l)(hd:0<=d/\d<=120){r:Wk × Int}(hr:r.1.tariffs=l):∀fu (k:Nat) M,k<=101->101 - k < fu->zxi l M->(∀j:Int,0<=j->j < k->zv2 l c d j=0) ->
  (∃n:Int,0<=n/\n<=100/\ztU c d r fu M (k:Int)=some (n,0)/\0 < zv2 l c d n/\∀j,0<=j->j < n->zv2 l c d j=0)\/(ztU c d r fu M (k:Int)=some (0,7)/\∀j,0<=j->j<=100->zv2 l c d j=0)
 | 0,k,M,_,h,_,_=>by omega
 | fu+1,k,M,hk,h,hM,hz=>by
  rw[ztU]
  by_cases h1:k=101
  ·subst h1;rw[if_neg (by omega)];exact .inr ⟨rfl,fun j h2 h3=>hz j h2 (by omega)⟩
  ·have hh:zxj l ⟨d,k,c⟩:=⟨hc,by show 0<=(k:Int)/\(k:Int)<=100; omega,hd⟩;obtain⟨M',h2,h3⟩:=zxl hf hM hh;have hp:=zxq hf hh
   dsimp only at h2 hp
   rw[if_pos (by omega),hr,h2,obs]
   dsimp only
   by_cases h4:0 < zv2 l c d k
   ·rw[if_pos h4];exact .inl ⟨k,by omega,by omega,rfl,h4,hz⟩
   ·rw[if_neg h4,zrt (fI (by omega)),show(k:Int)+1=((k+1:Nat):Int) by omega]
    exact zxr hf hc hd hr fu (k+1) M' (by omega) (by omega) h3 fun j h5 h6=>by
     rcases Int.lt_or_le j k with h7 | h7
     ·exact hz j h5 h7
     ·have:j=k:=by omega
      subst this; omega
theorem zxs{l:List Tf}(hf:zvX l=0){c d:Int}(hc:0<=c/\c < zvU l)(hd:0<=d/\d<=120) :
  (∃n:Int,0<=n/\n<=100/\ztV l c d=some (n,0)/\0 < zv2 l c d n/\∀j,0<=j->j < n->zv2 l c d j=0)\/(ztV l c d=some (0,7)/\∀j,0<=j->j<=100->zv2 l c d j=0):=by
 have h:=zxr hf hc hd (r:=(⟨l,some fun _=>none⟩,0)) rfl 102 0 _ (by omega) (by omega) zxm (fun j h1 h2=>by omega);unfold ztV;rw[zxn hf,obs,if_pos rfl,(zxo hf).some_of hc,obs,if_pos rfl,zv9.some_of hd,obs,if_pos rfl];exact h
theorem aw:zsA=some true:=rfl
def OkL(l:List Tf):Prop:=l.length<=maxLen/\∀a∈l,zsy a
theorem drawn{l:List Tf}(hf:zvX l=0){crop day count:Int}(hc:zne .u8 crop)(hd:zne .u8 day)(hn:zne .u8 count) :
  znj .i64 crop=crop/\znj .i64 day=day/\znj .i64 count=count/\(0<=crop/\0<=day/\0<=count)/\(0 < (zvU l:Int)/\(zvU l:Int)<=3)/\InN l (crop % zvU l) (day % 121) (count % 101):=by
 have h1:=fU8 hc;have h2:=fU8 hd;have h3:=fU8 hn;have hcr:=zxk hf;have e1:=Int.emod_nonneg crop (show(zvU l:Int) ≠ 0 by omega);have e2:=Int.emod_lt_of_pos crop (show 0 < (zvU l:Int) by omega);exact⟨wz (fI (by omega)),wz (fI (by omega)),wz (fI (by omega)),⟨h1.1,h2.1,h3.1⟩,by omega,⟨e1,e2⟩,by omega,by omega⟩
def zxt(out:Int)(i:Nat):Prop:=out / ((2:Int) ^ i) % 2=0
theorem zxu{out:Int}(h:0<=out)(i:Nat):0<=out / ((2:Int) ^ i)/\out / ((2:Int) ^ i)<=out:=by
 have hp:(0:Int) < (2:Int) ^ i:=Int.pow_pos (by omega);exact⟨Int.ediv_nonneg h (Int.le_of_lt hp),Int.ediv_le_self _ h⟩
open Classical in
theorem zxv{l:List Int}{out:Int}(ho:0<=out/\out < 1000000000)(hl:l.length<=60){i:Nat}(hi:i < l.length){K:Bool->Int->Option Bool}{b:Bool} :
  zsP l out (i:Int) K (((l.length:Int) - ((i:Int)+1)).toNat+1) b ((i:Int)+1)=if (∀k,i+1<=k->k < l.length->(zxt out i->zxt out k->nth l i<=nth l k)) then K b ((i:Int)+1) else some false:=by
 have hw:∀k:Nat,k<=60->znj .u64 (k:Int)=(k:Int):=fun k hk=>wz (fU (by omega))
 have key:=zsg l.length (fun d x=>zsP l out (i:Int) K d b x) (fun k=>zxt out i->zxt out k->nth l i<=nth l k) (some false) (K b ((i:Int)+1)) (fun d k hk=>by
  have s1:=zxu ho.1 i;have s2:=zxu ho.1 k;have m1:=Int.emod_nonneg (out / (2:Int) ^ i) (show(2:Int) ≠ 0 by omega);have m2:=Int.emod_nonneg (out / (2:Int) ^ k) (show(2:Int) ≠ 0 by omega);have m3:=Int.emod_lt_of_pos (out / (2:Int) ^ i) (show(0:Int) < 2 by omega);have m4:=Int.emod_lt_of_pos (out / (2:Int) ^ k) (show(0:Int) < 2 by omega);rw[zsP,if_pos (by omega),hw i (by omega),hw k (by omega)]
  simp only[Int.toNat_natCast]
  rw[zrt ho.1,zrt (by omega),zrt (by omega),zrt (fI (by omega)),zrt s1.1,zrt (by omega),zrt (fI (by omega))];unfold zxt
  by_cases c1:out / (2:Int) ^ i % 2=0
  ·rw[if_pos c1,zrt ho.1,zrt (by omega),zrt (by omega),zrt (fI (by omega)),zrt s2.1,zrt (by omega),zrt (fI (by omega))]
   by_cases c2:out / (2:Int) ^ k % 2=0
   ·rw[if_pos c2,zwe hk,obs,zwe hi,obs]
    by_cases c3:nth l k < nth l i
    ·rw[if_pos c3,if_neg fun h=>by have:=h c1 c2; omega]
    ·rw[if_neg c3,zrt (fI (by omega)),if_pos fun _ _=>by omega]
   ·rw[if_neg c2,zrt (fI (by omega)),if_pos fun _ h=>absurd h c2]
  ·rw[if_neg c1,zrt (fI (by omega)),if_pos fun h _=>absurd h c1]) (fun d=>by rw[zsP,if_neg (Int.lt_irrefl _),zrt (fI (by omega))]) (((l.length:Int) - ((i:Int)+1)).toNat+1) (i+1) (by omega) (by omega)
 exact key
theorem zxw{l:List Int}{out:Int}(ho:0<=out/\out < 1000000000)(hl:l.length<=60):Ev (zsR l out) (∀i k,i < k->k < l.length->zxt out i->zxt out k->nth l i<=nth l k):=by
 have key:=Ev.loop (n:=l.length) (F:=fun d x=>zsQ l out d false x) (ok:=fun i=>∀k,i+1<=k->k < l.length->(zxt out i->zxt out k->nth l i<=nth l k)) (fin:=some true) (P:=True) (fun d k hk=>by
  rw[zsQ,if_pos (by omega),zrt (fI (by omega)),zxv ho hl hk]
  exact⟨fun h=>if_pos h,fun h=>if_neg h⟩) (fun d=>by rw[zsQ,if_neg (Int.lt_irrefl _)]) (d:=l.length+1) (by omega) fun _=>Ev.tt trivial
 exact key.imp ⟨fun h i k h1 h2=>h.1 i (by omega) k (by omega) h2,fun h=>⟨fun i hi k h1 h2=>h i k (by omega) h2,trivial⟩⟩
theorem zxx(i:Nat):zxt 0 i:=by unfold zxt; simp
theorem zxy{l:List Int}(hl:l.length<=60):Ev (zsR l 0) (l.Pairwise (·<=·)):=
 (zxw (by omega) hl).imp ⟨fun h=>List.pairwise_iff_getElem.2 fun i j hi hj hij=>by
  have:=h i j hij hj (zxx _) (zxx _)
  rwa [zvN (List.getElem?_eq_getElem hi),zvN (List.getElem?_eq_getElem hj)] at this,fun h i k hik hk _ _=>by
  rw[zvN (List.getElem?_eq_getElem (show i < l.length by omega)),zvN (List.getElem?_eq_getElem hk)]
  exact List.pairwise_iff_getElem.1 h i k (by omega) hk hik⟩
theorem zxz{l:List Tf}(hf:zvX l=0){c d:Int}(hc:0<=c/\c < zvU l):∃wks,idx (ofN l d).Rates c=some wks/\idx wks (lastN (ofN l d).Weeks d:Int)=some (zvZ (ofN l d) c d)/\(ofN l d).Weeks.length<=4/\(ofN l d).Counts.length<=5:=by
 obtain⟨hm,hv⟩:=zvY.1 hf;have hfew:=few ((zwJ hm).2 _ (hv.of d).2);obtain⟨wks,q1,q2,_⟩:=(hv.vof d).rates hc.1 (by rw[hv.cof]; exact hc.2) d;refine⟨wks,?_,zsc q2,hfew.1,hfew.2.1⟩;rw[show c=((c.toNat:Nat):Int) by omega]; exact zsc q1
theorem zxA{l:List Tf}{crop day count more:Int}(_:OkL l)(hc:zne .u8 crop)(hd:zne .u8 day)(hn:zne .u8 count)(hmo:zne .u8 more):zt0 l crop day count more=some true:=by
 unfold zt0
 refine zw0.pick (fun⟨ht,hf⟩=>?_) fun _=>by rw[if_neg (by simp),aw,obs]
 rw[if_pos rfl];obtain⟨hm,hv⟩:=zvY.1 hf;obtain⟨h3,htm⟩:=zwJ hm;obtain⟨w1,w2,w3,p,hcr,hin⟩:=drawn hf hc hd hn;have u4:=fU8 hmo;have w4:znj .i64 more=more:=wz (fI (by omega));obtain⟨i1,i2,i3⟩:=id hin;rw[zw6 hv.ne,obs,w1,w2,w3,w4]
 generalize crop % (zvU l:Int)=c at *
 generalize day % 121=d at *
 generalize count % 101=n at *
 obtain⟨wks,q1,q2,q3,q4⟩:=zxz hf (d:=d) i1;have hrts:=hv.rts i1.1 i1.2 d;rw[zrt p.1,zrt hcr.1,zrt (fI (by omega)),zrt p.2.1,zrt (by omega),zrt (fI (by omega)),zrt p.2.2,zrt (by omega),zrt (fI (by omega)),zw3 hv h3,obs,q1,obs,zw2 (by omega) (zwt (hv.vof d).wks.2.1),obs,q2,obs]
 refine(zxy (by rw[hrts.len]; omega)).pick (fun hr=>?_) fun _=>by rw[if_neg (by simp),aw,obs]
 have hin2:InN l c d (min 100 (n+more)):=⟨i1,i2,by omega⟩;rw[if_pos rfl,zrt (fI (by omega))]
 simp only[zwZ ht,obs]
 rw[zxp hf hin,obs,zxp hf hin2,obs];have hmono:∀{a b:Int},0<=a->a<=b->b<=100->zv2 l c d a<=zv2 l c d b:=fun h1 h2 h4=>zv4 (hv.vof d) (hrts.loss_mono hr h1 h2 h4) (hrts.loss_rng h1 (by omega)).1
 have hge:¬ zv2 l c d (min 100 (n+more)) < zv2 l c d n:=by
  have:=hmono (a:=n) (b:=min 100 (n+more)) i3.1 (by omega) (by omega)
  omega
 have hpr:=hv.part_rng i1.1 i1.2 i3.1 i3.2 d
 rcases zxs hf i1 i2 with ⟨k,k0,k1,k2,k3,k4⟩ | ⟨k2,k3⟩
 ·rw[k2,obs,if_pos rfl,if_pos rfl,if_neg hge,if_pos rfl,if_pos,aw,obs]
  dsimp only
  rw[beq_iff_eq,decide_eq_decide]
  constructor
  ·intro h
   rcases Int.lt_or_le n k with h5 | h5
   ·have:=k4 n i3.1 h5; omega
   ·exact h5
  ·intro h;have:=hmono k0 h i3.2; omega
 ·rw[k2,obs,if_pos rfl,if_pos rfl,if_neg hge,if_neg (by decide),if_pos rfl,if_pos,aw,obs]
  dsimp only
  rw[beq_iff_eq,k3 n i3.1 i3.2]; decide
end
end Go.Proofs.Ytbkokcbnbmhaoaa

namespace Go.Proofs.Ytbkokcbnbmhaoaa
open _root_.Go.Proofs.Try
open Go.ChangeShapes Go.WideShapes Go.ChangeAt Go.RowKit Go.Abs
set_option maxRecDepth 100000
theorem op3:zsl prog 3 Int (zne .i64):=zsm (by kernel_rfl)
theorem op4:zsl prog 4 Bool (fun _=>True):=zsn (by kernel_rfl)
theorem zxB:zsl prog 73 (List Int) (fun l=>l.length<=maxLen/\∀a0∈l,zne .i64 a0):=zsp (by kernel_rfl) (by kernel_rfl) op3
theorem zxC:zsl prog 77 (List (List Int)) (fun l=>l.length<=maxLen/\∀a0∈l,a0.length<=maxLen/\∀a1∈a0,zne .i64 a1):=zsp (by kernel_rfl) (by kernel_rfl) zxB
theorem zxD:zsl prog 74 (List (List (List Int))) (fun l=>l.length<=maxLen/\∀a0∈l,a0.length<=maxLen/\∀a1∈a0,a1.length<=maxLen/\∀a2∈a1,zne .i64 a2):=zsp (by kernel_rfl) (by kernel_rfl) zxC
theorem zxE:zsl prog 84 Tf zsy:=zsu (fs:=[(3,0),(4,1),(3,2),(73,3),(73,4),(74,5)]) (by kernel_rfl) (by kernel_rfl) (zst (α:=Int) (ok:=zne .i64) (k:=1) op3 (by kernel_rfl) rfl (zst (α:=Bool) (ok:=(fun _=>True)) (k:=1) op4 (by kernel_rfl) rfl (zst (α:=Int) (ok:=zne .i64) (k:=1) op3 (by kernel_rfl) rfl (zst (α:=List Int) (ok:=(fun l=>l.length<=maxLen/\∀a0∈l,zne .i64 a0)) (k:=1) zxB (by kernel_rfl) rfl (zst (α:=List Int) (ok:=(fun l=>l.length<=maxLen/\∀a0∈l,zne .i64 a0)) (k:=1) zxB (by kernel_rfl) rfl (zst (α:=List (List (List Int))) (ok:=(fun l=>l.length<=maxLen/\∀a0∈l,a0.length<=maxLen/\∀a1∈a0,a1.length<=maxLen/\∀a2∈a1,zne .i64 a2)) (k:=1) zxD (by kernel_rfl) rfl zss)))))) (by kernel_rfl) fun m vs h=>by
 obtain⟨a0,c0,r0,m0,h0,p0,k0,s0,⟨a1,c1,r1,m1,h1,p1,k1,s1,⟨a2,c2,r2,m2,h2,p2,k2,s2,⟨a3,c3,r3,m3,h3,p3,k3,s3,⟨a4,c4,r4,m4,h4,p4,k4,s4,⟨a5,c5,r5,m5,h5,p5,k5,s5,rfl⟩⟩⟩⟩⟩⟩:=h;have p0:c0=[.int .i64 a0]:=p0; subst p0;have p1:c1=[.bool a1]:=p1; subst p1;have p2:c2=[.int .i64 a2]:=p2; subst p2;obtain⟨d3,rfl,p3⟩:=p3;obtain⟨d4,rfl,p4⟩:=p4;obtain⟨d5,rfl,p5⟩:=p5;subst h5 h4 h3 h2 h1 h0;exact⟨⟨a0,a1,a2,a3,a4,a5⟩,⟨_,_,_,rfl,p3,p4,p5⟩,⟨k0,k1,k2,k3,k4,k5⟩⟩
theorem zxF:zsl prog 22 (List Tf) (fun l=>l.length<=maxLen/\∀a0∈l,zsy a0):=zsp (by kernel_rfl) (by kernel_rfl) zxE
theorem zxG:laidOutB prog=true:=by kernel_rfl
theorem zxH:ownKnob prog.godebug=none:=by kernel_rfl
theorem zxI(os:Os)(started:os.Started)(H:Type)(enc:TypeId × Value->H) :
    ReturnsInHanded {} Try.checked os 10 .any (Rows.tariffMoreSpec.pre6 enc Try.prog Try.f10 Rows.tariffMoreRow.domain false) (Rows.tariffMoreSpec.post enc Try.prog Try.f10 false true false false):=by
  refine returnsInHanded_of_change (C:=Try.checked) zxH started (by kernel_rfl) Try.func10
    (ChangeSpec.witness6 (enc:=enc) (C:=Try.checked) false ⟨#[],#[.slice none 0 0,.int .u8 0,.int .u8 0,.int .u8 0,.int .u8 0],[]⟩ 8 (by kernel_rfl) (by kernel_rfl) (by kernel_rfl) (by kernel_rfl)) ?_
  intro W base args ds gs before hval0 hW hcnd _;have hval:∀(j:Nat) t v,Try.f10.params[j]? = some t->args[j]? = some v->Value.okWide Try.prog W .any base t v:=hval0;have hW':=hW;obtain⟨p,q,hA0,hV,rfl,hfz,hnd⟩:=hW;have hA:DataW.TrodAll enc Try.prog W 0 (fun _=>true) true Try.f10.params.toList args.toList ds p:=hA0;rw[Try.params10] at hA hval;obtain⟨v0,v1,v2,v3,v4,d0,d1,d2,d3,d4,p0,p1,p2,p3,p4,rfl,rfl,rfl,h0,h1,h2,h3,h4⟩:=zsv hA;obtain⟨rfl,rfl⟩:=trodVars_none hV;obtain⟨a0,len0,cap0,hv0⟩:=okWide_slice Try.underlying22 (hval 0 22 v0 rfl rfl);obtain⟨n1,hv1⟩:=okWide_int Try.underlying5 (hval 1 5 v1 rfl rfl);obtain⟨n2,hv2⟩:=okWide_int Try.underlying5 (hval 2 5 v2 rfl rfl);obtain⟨n3,hv3⟩:=okWide_int Try.underlying5 (hval 3 5 v3 rfl rfl);obtain⟨n4,hv4⟩:=okWide_int Try.underlying5 (hval 4 5 v4 rfl rfl)
  have hlt:∀x∈p0++p1++p2++p3++p4,x.block < W.heap.size:=fun x hx=>by simpa using hW'.lt x (by simpa using hx)
  obtain⟨fu0,hf0⟩:=id h0;obtain⟨fu1,hf1⟩:=id h1;obtain⟨fu2,hf2⟩:=id h2;obtain⟨fu3,hf3⟩:=id h3;obtain⟨fu4,hf4⟩:=id h4
  clear hA0 hval0
  obtain⟨e0,m0,w0,a_0,le0,sv0,lay0,cr0,rep0,ok0⟩:=zxF H enc W true _ _ _ hf0 _ _ (Lay.nil W);obtain⟨i1,hc1,_,hw1⟩:=DataW.trod_int Try.underlying5 hf1;obtain⟨i2,hc2,_,hw2⟩:=DataW.trod_int Try.underlying5 hf2;obtain⟨i3,hc3,_,hw3⟩:=DataW.trod_int Try.underlying5 hf3;obtain⟨i4,hc4,_,hw4⟩:=DataW.trod_int Try.underlying5 hf4;subst hv0;obtain⟨c0,rfl,rep0⟩:=rep0
  have cv0:CR e0 c0 (.slice a0 len0 cap0):=by
    cases cr0 with
    | cons h _=>exact h
  subst hv1
  have hi1:i1=n1:=by
    have h:[Value.int .u8 n1]=[.int .u8 i1]:=hc1
    cases h; rfl
  subst hi1;subst hv2
  have hi2:i2=n2:=by
    have h:[Value.int .u8 n2]=[.int .u8 i2]:=hc2
    cases h; rfl
  subst hi2;subst hv3
  have hi3:i3=n3:=by
    have h:[Value.int .u8 n3]=[.int .u8 i3]:=hc3
    cases h; rfl
  subst hi3;subst hv4
  have hi4:i4=n4:=by
    have h:[Value.int .u8 n4]=[.int .u8 i4]:=hc4
    cases h; rfl
  subst hi4;have hargs:zen (VR e0) [.c c0,.c (.int .u8 i1),.c (.int .u8 i2),.c (.int .u8 i3),.c (.int .u8 i4)] [.slice a0 len0 cap0,.int .u8 i1,.int .u8 i2,.int .u8 i3,.int .u8 i4]:=.cons cv0 (.cons rfl (.cons rfl (.cons rfl (.cons rfl .nil))));refine(callsIn_wide.1 (zrE fits htab (zvG (l:=a_0) (crop:=i1) (day:=i2) (count:=i3) (more:=i4) lay0.pre rep0 (zxA ok0 (zrC hw1) (zrC hw2) (zrC hw3) (zrC hw4)) (Q:=fun v _=>v=.c (.bool true)) fun _ _=>rfl) lay0.hr (args':=#[.slice a0 len0 cap0,.int .u8 i1,.int .u8 i2,.int .u8 i3,.int .u8 i4]) hargs 0)).mono fun en W' hp=>?_;obtain⟨v,v',e',m',rfl,hst,hvr,rfl⟩:=hp;have hv':v'=.bool true:=hvr;subst hv';have hbelow:=lay0.below hst
  refine⟨_,rfl,[d0,d1,d2,d3,d4],[],p0++p1++p2++p3++p4,[],p0++(p1++(p2++(p3++p4))),[],by simpa using hW',trodAll_mk1 (shut_bool Try.underlying4 _),
    zsw (Below.trod zxG (by kernel_rfl) (of_decide_eq_true (by kernel_rfl)) h0 hbelow fun x hx=>hlt x (by simp[hx])) (Below.trod zxG (by kernel_rfl) (of_decide_eq_true (by kernel_rfl)) h1 hbelow fun x hx=>hlt x (by simp[hx])) (Below.trod zxG (by kernel_rfl) (of_decide_eq_true (by kernel_rfl)) h2 hbelow fun x hx=>hlt x (by simp[hx])) (Below.trod zxG (by kernel_rfl) (of_decide_eq_true (by kernel_rfl)) h3 hbelow fun x hx=>hlt x (by simp[hx])) (Below.trod zxG (by kernel_rfl) (of_decide_eq_true (by kernel_rfl)) h4 hbelow fun x hx=>hlt x (by simp[hx])),rfl,lay0.kept hst _,fun hc=>by cases hc⟩
theorem TariffMore_holds:Rows.TariffMoreSaid:=
 OpenClaim.holds_of_wide 10 Try.f10 rfl rfl rfl rfl rfl rfl rfl ⟨rfl,rfl,rfl,rfl,rfl⟩ rfl rfl rfl rfl rfl (by kernel_rfl) Try.func10 (by kernel_rfl)
  (of_decide_eq_true (by kernel_rfl)) (by unfold Func.isWrapper; first | (rw[if_pos (by decide +kernel)]; kernel_rfl) | (rw[if_neg (by decide +kernel)]; exact⟨rfl,rfl⟩))
  (fun os started H enc _=>zxI os started H enc)
end Go.Proofs.Ytbkokcbnbmhaoaa

