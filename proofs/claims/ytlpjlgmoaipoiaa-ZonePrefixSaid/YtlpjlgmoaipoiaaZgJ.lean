/- An evaluator of code, its soundness, and what functions of the program do. Condition: none; a lemma text. -/
import Derived.Test.YtlpjlgmoaipoiaaZgI

namespace Go.Proofs.Ytlpjlgmoaipoiaa
open _root_.Go.Proofs.Try
open Go.Abs
set_option maxRecDepth 100000
noncomputable section
def kl(p:P4):List Int:=(if p.p0=true then [0] else [])++((if p.p1=true then [1] else [])++((if p.p2=true then [2] else [])++if p.p3=true then [3] else []))
theorem zyt{p:P4}{k:Int}(h:k∈kl p):0<=k/\k < 4:=by
 unfold kl at h
 simp only[List.mem_append] at h
 rcases h with h | h | h | h <;> split at h <;> first | cases h; done | (rw[List.mem_singleton] at h; omega)
theorem zyu{f:Nat->Bool}{k:Int}:k∈kl (mkP f)↔(0<=k/\k < 4)/\f k.toNat=true:=by
 constructor
 ·intro h;refine⟨zyt h,?_⟩;unfold kl mkP at h
  simp only[List.mem_append] at h
  rcases h with h | h | h | h <;> split at h <;> first | (cases h; done) | (rename_i q; rw[List.mem_singleton] at h; rw[h]; exact q)
 ·rintro⟨hk,h⟩
  unfold kl mkP
  simp only[List.mem_append]
  have:k=0\/k=1\/k=2\/k=3:=by omega
  rcases this with rfl | rfl | rfl | rfl
  ·exact .inl (by rw[if_pos (show f 0=true from h)]; exact List.mem_singleton.2 rfl)
  ·exact .inr (.inl (by rw[if_pos (show f 1=true from h)]; exact List.mem_singleton.2 rfl))
  ·exact .inr (.inr (.inl (by rw[if_pos (show f 2=true from h)]; exact List.mem_singleton.2 rfl)))
  ·exact .inr (.inr (.inr (by rw[if_pos (show f 3=true from h)]; exact List.mem_singleton.2 rfl)))
theorem zyv{p:P4}{d:Nat}{i:Nat}{b:Bool}{l:List Int}(hi:i < 4)(hb:([p.p0,p.p1,p.p2,p.p3]:List Bool)[i]? = some b)(h:ztl p d ((i:Int)+1)=some l):ztl p (d+1) (i:Int)=some ((if b=true then [(i:Int)] else [])++l):=by
 rw[ztl,if_pos (by omega),zrx hb,obs,zqs (fI (by omega)),h]
 cases b <;> rfl
theorem zyw{p:P4}:ztn p=some (kl p):=by
 have h4:ztl p (0+1) (((3:Nat):Int)+1)=some []:=by rw[ztl,if_neg (by omega)]
 have h3:=zyv (i:=3) (by omega) rfl h4;have h2:=zyv (i:=2) (by omega) rfl h3;have h1:=zyv (i:=1) (by omega) rfl h2;have h0:=zyv (i:=0) (by omega) rfl h1;unfold ztn ztm;have h0:ztl p (Int.toNat 4+1) 0=_:=h0;rw[h0,obs,List.append_nil]; rfl
def zyx(cs:List P4):List (List Int):=cs.foldl (fun all p=>all.flatMap fun l=>(kl p).map fun k=>l++[k]) [[]]
theorem zyy(cs:List P4)(p:P4):zyx (cs++[p])=(zyx cs).flatMap fun l=>(kl p).map fun k=>l++[k]:=by
 unfold zyx;rw[List.foldl_append]; rfl
theorem zyz{cs:List P4}{p:P4}{l:List Int}:l∈zyx (cs++[p])↔∃l' k,l'∈zyx cs/\k∈kl p/\l=l'++[k]:=by
 rw[zyy,List.mem_flatMap]
 constructor
 ·rintro⟨l',h1,h2⟩
  obtain⟨k,h3,h4⟩:=List.mem_map.1 h2;exact⟨l',k,h1,h3,h4.symm⟩
 ·rintro⟨l',k,h1,h2,rfl⟩
  exact⟨l',h1,List.mem_map.2 ⟨k,h2,rfl⟩⟩
theorem zyA{α:Type}{l:List α}{k:Nat}{x:α}(h:l[k]? = some x):l.take (k+1)=l.take k++[x]:=by rw[List.take_add_one,h]; rfl
def Fit(ks:List Int)(cs:List P4):Prop:=ks.length=cs.length/\∀(i:Nat) (k:Int) (p:P4),ks[i]? = some k->cs[i]? = some p->k∈kl p
theorem zyB{cs:List P4}{p:P4}{l:List Int}:Fit l (cs++[p])↔∃l' k,Fit l' cs/\k∈kl p/\l=l'++[k]:=by
 unfold Fit
 constructor
 ·rintro⟨h1,h2⟩
  rw[List.length_append] at h1
  simp only[List.length_cons,List.length_nil] at h1
  have hl:cs.length < l.length:=by omega
  have hg:=List.getElem?_eq_getElem hl;refine⟨l.take cs.length,l[cs.length],⟨by rw[List.length_take]; omega,fun i k q hi hq=>?_⟩,h2 cs.length _ p hg (by rw[List.getElem?_append_right (Nat.le_refl _),Nat.sub_self]; rfl),?_⟩
  ·have hi':=(List.getElem?_eq_some_iff.1 hq).1;rw[List.getElem?_take,if_pos hi'] at hi;exact h2 i k q hi (by rw[List.getElem?_append_left hi']; exact hq)
  ·rw[<- zyA hg,List.take_of_length_le (by omega)]
 ·rintro⟨l',k,⟨h1,h2⟩,h3,rfl⟩
  refine⟨by rw[List.length_append,List.length_append,h1]; rfl,fun i k' q hi hq=>?_⟩
  rcases Nat.lt_or_ge i cs.length with h4 | h4
  ·rw[List.getElem?_append_left (by omega)] at hi;rw[List.getElem?_append_left h4] at hq;exact h2 i k' q hi hq
  ·have h5:=(List.getElem?_eq_some_iff.1 hq).1;rw[List.length_append] at h5
   simp only[List.length_cons,List.length_nil] at h5
   have e:i=cs.length:=by omega
   subst e;rw[List.getElem?_append_right (Nat.le_refl _),Nat.sub_self] at hq;rw[<- h1,List.getElem?_append_right (Nat.le_refl _),Nat.sub_self] at hi
   cases hq; cases hi; exact h3
theorem zyC:∀(cs:List P4) {l:List Int},l∈zyx cs↔Fit l cs:=by
 have key:∀(n:Nat) (cs:List P4),cs.length=n->∀{l:List Int},l∈zyx cs↔Fit l cs:=by
  intro n
  induction n with
  | zero=>
   intro cs h l;rw[List.eq_nil_of_length_eq_zero h]
   show l∈[[]]↔_
   rw[List.mem_singleton];exact⟨fun h=>by rw[h]; exact⟨rfl,fun i k p hi=>by simp at hi⟩,fun h=>List.eq_nil_of_length_eq_zero h.1⟩
  | succ n ih=>
   intro cs h l;have hg:=List.getElem?_eq_getElem (show n < cs.length by omega)
   have e:cs=cs.take n++[cs[n]]:=by rw[<- zyA hg,List.take_of_length_le (by omega)]
   rw[e,zyz,zyB];exact exists_congr fun l'=>exists_congr fun k=>and_congr_left fun _=>ih _ (by rw[List.length_take]; omega)
 intro cs;exact key cs.length cs rfl
theorem zyD{l:List Int}{cs:List P4}(h:Fit l cs):zyo l:=fun k hk=>by
 obtain⟨i,hi⟩:=List.mem_iff_getElem?.1 hk;have hl:=(List.getElem?_eq_some_iff.1 hi).1;exact zyt (h.2 i k _ hi (List.getElem?_eq_getElem (by rw[<- h.1]; exact hl)))
def nx(r:Rl)(p:P4)(q:Stt):List Stt:=(kl p).map fun k=>step r k q
def zyE(r:Rl)(s:Stt)(cs:List P4):List Stt:=(zyx cs).map (zxQ r s)
theorem zyF{r:Rl}{s q:Stt}{cs:List P4}:q∈zyE r s cs↔∃ks,Fit ks cs/\zxQ r s ks=q:=by
 unfold zyE;rw[List.mem_map];exact exists_congr fun ks=>and_congr_left fun _=>zyC cs
theorem zyG{r:Rl}{s q:Stt}{cs:List P4}{p:P4}:q∈zyE r s (cs++[p])↔∃q',q'∈zyE r s cs/\q∈nx r p q':=by
 rw[zyF]
 constructor
 ·rintro⟨ks,h1,h2⟩
  obtain⟨l',k,h3,h4,rfl⟩:=zyB.1 h1;rw[zxU] at h2;exact⟨_,zyF.2 ⟨l',h3,rfl⟩,List.mem_map.2 ⟨k,h4,h2⟩⟩
 ·rintro⟨q',h1,h2⟩
  obtain⟨l',h3,rfl⟩:=zyF.1 h1;obtain⟨k,h4,h5⟩:=List.mem_map.1 h2;exact⟨l'++[k],zyB.2 ⟨l',k,h3,h4,rfl⟩,by rw[zxU]; exact h5⟩
theorem zyH{r:Rl}(h:zxa r){s:Stt}(hs:SOk r s){cs:List P4}:∀q∈zyE r s cs,SOk r q:=fun q hq=>by
 obtain⟨ks,_,rfl⟩:=zyF.1 hq;exact zxS h ks hs
open Classical in
def mL(l:List Stt):Option (Stt->Option Bool):=some fun q=>if q∈l then some true else none
theorem zyI{l l':List Stt}(h:∀q,q∈l↔q∈l'):mL l=mL l':=by
 unfold mL
 congr 1
 funext q
 by_cases hq:q∈l
 ·rw[if_pos hq,if_pos ((h q).1 hq)]
 ·rw[if_neg hq,if_neg fun h'=>hq ((h q).2 h')]
theorem zyJ:mL []=some fun _=>none:=by
 unfold mL
 congr 1
theorem zyK{l:List Stt}{q:Stt}(h:q∈l):zqG (mL l) q=some true:=if_pos h
theorem zyL{l:List Stt}{q:Stt}:zqG (mL l) q ≠ none↔q∈l:=by
 constructor
 ·intro h
  by_cases hq:q∈l
  ·exact hq
  ·exact absurd (show zqG (mL l) q=none from if_neg hq) h
 ·intro h;rw[zyK h]; simp
open Classical in
theorem zyM{l:List Stt}{q:Stt}:zqH (mL l) q true=some (mL (l++[q])):=by
 show some (some _)=some (some _)
 congr 2
 funext j
 by_cases hj:j=q
 ·rw[if_pos hj,if_pos (by rw[hj]; simp)]
 ·rw[if_neg hj]
  show(if j∈l then some true else none)=if j∈l++[q] then some true else none
  by_cases h2:j∈l
  ·rw[if_pos h2,if_pos (List.mem_append_left _ h2)]
  ·rw[if_neg h2,if_neg fun h=>(List.mem_append.1 h).elim h2 fun h=>hj (List.mem_singleton.1 h)]
theorem SOk.fit{r:Rl}(h:zxa r)(hc:r.Classes<=6){q:Stt}(hq:SOk r q):MK.fit q:=by
 have:=h.rest;unfold SOk at hq
 show zl6 .i64 q.cls/\zl6 .i64 q.since/\True
 exact⟨fI (by omega),fI (by omega),trivial⟩
theorem zyN{α:Type}:∀l:List α,∃ks:List α,ks.Nodup/\∀k,k∈ks↔k∈l
 | []=>⟨[],List.nodup_nil,fun _=>Iff.rfl⟩
 | a::l=>by
  obtain⟨ks,h1,h2⟩:=zyN l
  by_cases h:a∈ks
  ·refine⟨ks,h1,fun k=>?_⟩;rw[h2,List.mem_cons];exact⟨.inr,fun hk=>hk.elim (fun he=>by rw[he]; exact(h2 a).1 h) id⟩
  ·exact⟨a::ks,List.nodup_cons.2 ⟨h,h1⟩,fun k=>by rw[List.mem_cons,List.mem_cons,h2]⟩
theorem zyO{r:Rl}(h:zxa r)(hc:r.Classes<=6){l:List Stt}(hl:∀q∈l,SOk r q){R:Type}{g:List Stt->Option R}{v:R}(hg:∀ks,(∀q,q∈ks↔q∈l)->g ks=some v):zrc (mL l) g=some v:=by
 obtain⟨ks0,h1,h2⟩:=zyN l;have hk:∀ks:List Stt,zrb (mL l) ks->∀q,q∈ks↔q∈l:=fun ks hks q=>(hks.2 q).trans ⟨fun hq=>zyL.1 hq.2,fun hq=>⟨(hl q hq).fit h hc,zyL.2 hq⟩⟩;exact zre (ks0:=ks0) ⟨h1,fun q=>(h2 q).trans ⟨fun hq=>⟨(hl q hq).fit h hc,zyL.2 hq⟩,fun hq=>zyL.1 hq.2⟩⟩ fun ks hks=>hg ks (hk ks hks)
theorem zyP{w:Wk}(h:zxa w.r)(hc:w.r.Classes<=6)(hw:w.kinds=zxZ){q:Stt}(hq:SOk w.r q){rest:List Stt}{K:Option (Stt->Option Bool)->List Stt->Option (Option (Stt->Option Bool))}:∀(ks:List Int) (A:List Stt),zyo ks ->
  ztw w q rest K ks (mL A)=K (mL (A++ks.map fun k=>step w.r k q)) rest
 | [],A,_=>by rw[ztw,List.map_nil,List.append_nil]
 | k::ks,A,hk=>by
  rw[ztw,hw];have hkb:=hk k (List.mem_cons_self ..);have ih:=zyP h hc hw hq (rest:=rest) (K:=K) ks (A++[step w.r k q]) fun x hx=>hk x (List.mem_cons_of_mem _ hx);refine(zyf h hc hq hkb (G:=fun s=>gd (MK.fit s) ((zqH (mL A) s true).bind fun w'=>ztw w q rest K ks w'))).trans ?_
  show gd (MK.fit (step w.r k q)) _=_
  rw[zqs ((zxP h k hq).fit h hc),zyM,obs,ih,List.append_assoc]; rfl
theorem zyQ{w:Wk}(h:zxa w.r)(hc:w.r.Classes<=6)(hw:w.kinds=zxZ){l:List Stt}(hl:∀q∈l,SOk w.r q){i:Nat}{p:P4}(hi:w.can[i]? = some p):∀(n d:Nat) (rem A:List Stt),rem.length=n->n < d->(∀q∈rem,q∈l) ->
  ztx w (mL l) (i:Int) d (mL A) rem=some (mL (A++rem.flatMap (nx w.r p)))
 | n,0,_,_,_,h,_=>by omega
 | n,d+1,rem,A,hn,hd,hr=>by
  rw[ztx];refine zri (fun l1 a l2 he=>?_) fun he=>?_
  ·have ha:=hr a (by rw[he]; simp);rw[zyK ha,obs,zrx hi,obs,zyw,obs,zyP h hc hw (hl a ha) _ _ fun k hk=>zyt hk]
   have hlen:(l1++l2).length+1=n:=by rw[<- hn,he]; simp; omega
   rw[zyQ h hc hw hl hi ((l1++l2).length) d (l1++l2) _ rfl (by omega) fun q hq=>hr q (by rw[he]; rcases List.mem_append.1 hq with h1 | h1 <;> simp[h1])]
   congr 1
   refine zyI fun q=>?_;rw[he]
   simp only[List.mem_append,List.mem_flatMap,List.mem_cons]
   show(q∈A\/q∈nx w.r p a)\/_↔_
   constructor
   ·rintro ((h1 | h1) | ⟨b,h1,h2⟩)
    ·exact .inl h1
    ·exact .inr ⟨a,.inr (.inl rfl),h1⟩
    ·exact .inr ⟨b,h1.elim .inl fun h=>.inr (.inr h),h2⟩
   ·rintro (h1 | ⟨b,h1,h2⟩)
    ·exact .inl (.inl h1)
    ·rcases h1 with h1 | rfl | h1
     ·exact .inr ⟨b,.inl h1,h2⟩
     ·exact .inl (.inr h2)
     ·exact .inr ⟨b,.inr h1,h2⟩
  ·subst he;rw[List.flatMap_nil,List.append_nil]
theorem zyR{w:Wk}(h:zxa w.r)(hc:w.r.Classes<=6)(hw:w.kinds=zxZ){l:List Stt}(hl:∀q∈l,SOk w.r q){i:Nat}{p:P4}(hi:w.can[i]? = some p):zty w (mL l) (i:Int)=some (mL (l.flatMap (nx w.r p))):=by
 unfold zty;refine zyO h hc hl fun ks hks=>?_;rw[<- zyJ,zyQ h hc hw hl hi ks.length (ks.length+1) ks [] rfl (by omega) fun q hq=>(hks q).1 hq,List.nil_append]
 congr 1
 refine zyI fun q=>?_
 simp only[List.mem_flatMap]
 exact exists_congr fun a=>and_congr_left fun _=>hks a
theorem zyS{w:Wk}(h:zxa w.r)(hc:w.r.Classes<=6)(hw:w.kinds=zxZ)(hf:SOk w.r ⟨w.zone.First,w.r.Rest⟩){n:Nat}(hn:n<=w.can.length)(hn2:n<=1000):ztA w (n:Int)=some (mL (zyE w.r ⟨w.zone.First,w.r.Rest⟩ (w.can.take n))):=by
 unfold ztA ztt;rw[obs,zqs (hf.fit h hc),<- zyJ,zyM,obs];refine zw7 (n:=n) (fun d (s:Option (Stt->Option Bool)) x=>ztz w (n:Int) d s x) (fun k=>mL (zyE w.r ⟨w.zone.First,w.r.Rest⟩ (w.can.take k))) (fun d k hk=>?_) (fun d=>?_) (Int.toNat (n:Int)+1) 0 (by omega) (by omega)
 ·have hg:=List.getElem?_eq_getElem (show k < w.can.length by omega)
  show ztz w (n:Int) (d+1) _ _=_
  rw[ztz,if_pos (by omega),zyR h hc hw (zyH h hf) hg,obs,zqs (fI (by omega))]
  congr 1
  refine zyI fun q=>?_;rw[zyA hg,zyG,List.mem_flatMap]
 ·show ztz w (n:Int) (d+1) _ _=_
  rw[ztz,if_neg (Int.lt_irrefl _)]
def mkC(f:Nat->Bool):C6:=⟨f 0,f 1,f 2,f 3,f 4,f 5⟩
theorem zyT{f g:Nat->Bool}(h:∀k,k < 6->(f k=true↔g k=true)):mkC f=mkC g:=by
 have e:∀k,k < 6->f k=g k:=fun k hk=>Bool.eq_iff_iff.2 (h k hk);unfold mkC;rw[e 0 (by omega),e 1 (by omega),e 2 (by omega),e 3 (by omega),e 4 (by omega),e 5 (by omega)]
theorem zyU{f:Nat->Bool}{k:Nat}(hk:k < 6):([(mkC f).c0,(mkC f).c1,(mkC f).c2,(mkC f).c3,(mkC f).c4,(mkC f).c5]:List Bool)[k]? = some (f k):=by
 match k,hk with
 | 0,_=>rfl
 | 1,_=>rfl
 | 2,_=>rfl
 | 3,_=>rfl
 | 4,_=>rfl
 | 5,_=>rfl
def clB(l:List Stt)(c:Nat):Bool:=l.any fun q=>q.cls == (c:Int)
theorem zyV{l:List Stt}{c:Nat}:clB l c=true↔∃q∈l,q.cls=(c:Int):=by
 unfold clB;rw[List.any_eq_true];exact exists_congr fun q=>and_congr_right fun _=>beq_iff_eq
theorem zyW{r:Rl}(hc:r.Classes<=6){l:List Stt}(hl:∀q∈l,SOk r q):∀(n d:Nat) (rem:List Stt) (f:Nat->Bool),rem.length=n->n < d->(∀q∈rem,q∈l) ->
  ztr (mL l) d (f 0) (f 1) (f 2) (f 3) (f 4) (f 5) rem=some (mkC fun c=>f c || clB rem c)
 | n,0,_,_,_,h,_=>by omega
 | n,d+1,rem,f,hn,hd,hr=>by
  rw[ztr];refine zri (fun l1 a l2 he=>?_) fun he=>?_
  ·have ha:=hr a (by rw[he]; simp);have hb:=(hl a ha).1
   have hlen:(l1++l2).length+1=n:=by rw[<- hn,he]; simp; omega
   rw[zyK ha,obs,zqs ⟨hb.1,by omega⟩,zxB f hb.1,zxB f hb.1,zxB f hb.1,zxB f hb.1,zxB f hb.1,zxB f hb.1]
   rw[zyW hc hl ((l1++l2).length) d (l1++l2) (upF f a.cls.toNat true) rfl (by omega) fun q hq=>hr q (by rw[he]; rcases List.mem_append.1 hq with h1 | h1 <;> simp[h1])]
   congr 1
   refine zyT fun k _=>?_;rw[Bool.or_eq_true,Bool.or_eq_true,zxC,zyV,zyV,he]
   simp only[List.mem_append,List.mem_cons]
   constructor
   ·rintro ((h1 | h1) | ⟨b,h1,h2⟩)
    ·exact .inl h1
    ·exact .inr ⟨a,.inr (.inl rfl),by omega⟩
    ·exact .inr ⟨b,h1.elim .inl fun h=>.inr (.inr h),h2⟩
   ·rintro (h1 | ⟨b,h1,h2⟩)
    ·exact .inl (.inl h1)
    ·rcases h1 with h1 | rfl | h1
     ·exact .inr ⟨b,.inl h1,h2⟩
     ·exact .inl (.inr (by omega))
     ·exact .inr ⟨b,.inr h1,h2⟩
  ·subst he
   show some (mkC f)=_
   congr 1
   exact zyT fun k _=>by rw[Bool.or_eq_true]; exact⟨.inl,fun h=>h.elim id fun h=>by cases h⟩
theorem zyX{r:Rl}(h:zxa r)(hc:r.Classes<=6){l:List Stt}(hl:∀q∈l,SOk r q):zts (mL l)=some (mkC (clB l)):=by
 unfold zts;refine zyO h hc hl fun ks hks=>?_;have e:=zyW hc hl ks.length (ks.length+1) ks (fun _=>false) rfl (by omega) fun q hq=>(hks q).1 hq;have e:ztr (mL l) (ks.length+1) false false false false false false ks=_:=e;rw[e]
 congr 1
 refine zyT fun k _=>?_;rw[Bool.or_eq_true,zyV,zyV];exact⟨fun h=>h.elim (fun h=>by cases h) fun⟨q,h1,h2⟩=>⟨q,(hks q).1 h1,h2⟩,fun⟨q,h1,h2⟩=>.inr ⟨q,(hks q).2 h1,h2⟩⟩
def zyY(f:Nat->Bool)(n:Nat):List Int:=((List.range n).filter f).map fun c:Nat=>(c:Int)
theorem zyZ(f:Nat->Bool)(n:Nat):zyY f (n+1)=zyY f n++if f n=true then [(n:Int)] else []:=by
 unfold zyY;rw[List.range_succ,List.filter_append,List.map_append]
 congr 1
 cases h:f n <;> simp[h]
theorem zy0{f:Nat->Bool}{n:Nat}{x:Int}:x∈zyY f n↔0<=x/\x < n/\f x.toNat=true:=by
 unfold zyY;rw[List.mem_map]
 constructor
 ·rintro⟨c,hc,rfl⟩
  rw[List.mem_filter,List.mem_range] at hc;exact⟨by omega,by omega,hc.2⟩
 ·rintro⟨h1,h2,h3⟩
  exact⟨x.toNat,List.mem_filter.2 ⟨List.mem_range.2 (by omega),h3⟩,by omega⟩
theorem zy1(f:Nat->Bool)(n:Nat):(zyY f n).length<=n:=by
 unfold zyY;rw[List.length_map];exact Nat.le_trans (List.length_filter_le _ _) (by rw[List.length_range]; exact Nat.le_refl _)
theorem zy2{f:Nat->Bool}:ztk (mkC f)=some (zyY f 6):=by
 unfold ztk;refine zw7 (n:=6) (fun d (s:List Int) x=>ztj (mkC f) d s x) (fun k=>zyY f k) (fun d k hk=>?_) (fun d=>?_) (Int.toNat 6+1) 0 (by omega) (by show 6 - 0 < 6+1; omega)
 ·show ztj (mkC f) (d+1) _ _=_
  have:=zy1 f k;rw[ztj,if_pos (by omega),zrx (zyU hk),obs,zyZ]
  cases f k with
  | true=>rw[if_pos rfl,if_pos rfl,zqs (by omega),zqs (fI (by omega))]
  | false=>rw[if_neg (by decide),if_neg (by decide),zqs (fI (by omega)),List.append_nil]
 ·show ztj (mkC f) (d+1) _ _=_
  rw[ztj,if_neg (by omega)]
def zy3(r:Rl)(z:Zn)(n:Nat):List Stt:=zyE r (st0 r z) ((zx5 r z).can.take n)
theorem zy4{r:Rl}{z:Zn}(h:VZ r z){n:Nat}:∀q∈zy3 r z n,SOk r q:=zyH h.full.rl h.st0
theorem zy5{r:Rl}{z:Zn}(h:VZ r z){i:Nat}(hi:i < z.Years.length):ztU r z (i:Int)=some (zyY (clB (zy3 r z (i+1))) 6,0):=by
 have h6:=h.y6;unfold ztU;rw[zx8 h (by omega),obs,if_pos rfl,zqs (fI (by omega)),show(i:Int)+1=((i+1:Nat):Int) by omega];have e:ztA (zx5 r z) ((i+1:Nat):Int)=some (mL (zy3 r z (i+1))):=zyS (w:=zx5 r z) h.full.rl h.c6 rfl h.st0 (n:=i+1) (by show i+1<=(z.Years.map _).length; rw[List.length_map]; omega) (by omega)
 show(ztA (zx5 r z) _).bind _=_
 rw[e,obs,zyX (r:=r) (l:=zy3 r z (i+1)) h.full.rl h.c6 (zy4 h),obs,zy2,obs]
end
end Go.Proofs.Ytlpjlgmoaipoiaa

namespace Go.Proofs.Ytlpjlgmoaipoiaa
open _root_.Go.Proofs.Try
open Go.Abs
set_option maxRecDepth 100000
noncomputable section
theorem zy6{c:Int}(hc:0<=c/\c < 6):zti c=some (mkC fun k=>decide ((k:Int)=c)):=by
 unfold zti;rw[zqs hc]
 have e:∀k:Nat,sti c k true false=decide ((k:Int)=c):=fun k=>by
  unfold sti
  by_cases h:c=(k:Int)
  ·rw[if_pos h,decide_eq_true h.symm]
  ·rw[if_neg h,decide_eq_false fun h'=>h h'.symm]
 rw[e,e,e,e,e,e]; rfl
def mvB(l:List Stt)(c:Int):Bool:=l.any fun q=>q.cls != c
def syB(l:List Stt)(c:Int):Bool:=l.any fun q=>q.cls == c
theorem zy7{l:List Stt}{c:Int}:mvB l c=true↔∃q∈l,q.cls ≠ c:=by
 unfold mvB;rw[List.any_eq_true];exact exists_congr fun q=>and_congr_right fun _=>bne_iff_ne
theorem zy8{l:List Stt}{c:Int}:syB l c=true↔∃q∈l,q.cls=c:=by
 unfold syB;rw[List.any_eq_true];exact exists_congr fun q=>and_congr_right fun _=>beq_iff_eq
theorem zy9{r:Rl}(hc6:r.Classes<=6){l:List Stt}(hl:∀q∈l,SOk r q)(hne:l ≠ []){c:Int}(hc:0<=c/\c < 6) :
  (!(((mkC (clB l)).c0 == (mkC fun k=>decide ((k:Int)=c)).c0) && (((mkC (clB l)).c1 == (mkC fun k=>decide ((k:Int)=c)).c1) && (((mkC (clB l)).c2 == (mkC fun k=>decide ((k:Int)=c)).c2) && (((mkC (clB l)).c3 == (mkC fun k=>decide ((k:Int)=c)).c3) && (((mkC (clB l)).c4 == (mkC fun k=>decide ((k:Int)=c)).c4) && ((mkC (clB l)).c5 == (mkC fun k=>decide ((k:Int)=c)).c5)))))))=mvB l c:=by
 have e:(((mkC (clB l)).c0 == (mkC fun k=>decide ((k:Int)=c)).c0) && (((mkC (clB l)).c1 == (mkC fun k=>decide ((k:Int)=c)).c1) && (((mkC (clB l)).c2 == (mkC fun k=>decide ((k:Int)=c)).c2) && (((mkC (clB l)).c3 == (mkC fun k=>decide ((k:Int)=c)).c3) && (((mkC (clB l)).c4 == (mkC fun k=>decide ((k:Int)=c)).c4) && ((mkC (clB l)).c5 == (mkC fun k=>decide ((k:Int)=c)).c5))))))=true↔∀k:Nat,k < 6->clB l k=decide ((k:Int)=c):=by
  simp only[Bool.and_eq_true,beq_iff_eq]
  constructor
  ·rintro⟨h0,h1,h2,h3,h4,h5⟩ k hk
   match k,hk with
   | 0,_=>exact h0
   | 1,_=>exact h1
   | 2,_=>exact h2
   | 3,_=>exact h3
   | 4,_=>exact h4
   | 5,_=>exact h5
  ·intro h;exact⟨h 0 (by omega),h 1 (by omega),h 2 (by omega),h 3 (by omega),h 4 (by omega),h 5 (by omega)⟩
 rw[Bool.eq_iff_iff,Bool.not_eq_true',<- Bool.not_eq_true,e,zy7]
 constructor
 ·intro h;refine Classical.byContradiction fun hn=>h fun k hk=>?_;have hall:∀q∈l,q.cls=c:=fun q hq=>Classical.byContradiction fun h'=>hn ⟨q,hq,h'⟩;rw[Bool.eq_iff_iff,zyV,decide_eq_true_eq]
  constructor
  ·rintro⟨q,h1,h2⟩; rw[<- h2]; exact hall q h1
  ·intro h1;obtain⟨q,hq⟩:=List.exists_mem_of_ne_nil l hne;exact⟨q,hq,by rw[hall q hq,h1]⟩
 ·rintro⟨q,hq,hne⟩ h
  have hb:=(hl q hq).1;have h8:=h q.cls.toNat (by omega);rw[Bool.eq_iff_iff,zyV,decide_eq_true_eq] at h8;exact hne ((Int.toNat_of_nonneg hb.1).symm.trans (h8.1 ⟨q,hq,(Int.toNat_of_nonneg hb.1).symm⟩))
def zza(m s:Bool):Int:=if s=true then (if m=true then 3 else 2) else 1
theorem zzb{r:Rl}{y:Yr}(hy:zw8 y):kl (mkP (kB r y)) ≠ []:=by
 obtain⟨⟨h1,h2,h3,h4⟩,⟨h5,h6,h7,h8⟩,_⟩:=hy;have hb:=zxw r y y.Losses.Lo y.Premiums.Lo;have:kN r y y.Losses.Lo y.Premiums.Lo∈kl (mkP (kB r y)):=zyu.2 ⟨hb,zxH.2 ⟨_,_,⟨Int.le_refl _,h2⟩,⟨Int.le_refl _,h6⟩,by omega⟩⟩;intro h
 rw[h] at this; cases this
theorem zzc{w:Wk}(h:zxa w.r)(hc:w.r.Classes<=6)(hw:w.kinds=zxZ){l:List Stt}(hl:∀q∈l,SOk w.r q){i:Nat}{p:P4}(hi:w.can[i]? = some p)(hp:kl p ≠ []):∀(n d:Nat) (rem:List Stt) (b1 b2:Bool),rem.length=n->n < d->(∀q∈rem,q∈l) ->
  ztB w (i:Int) (mL l) d b1 b2 rem=some (zza (b1 || rem.any fun q=>mvB (nx w.r p q) q.cls) (b2 || rem.any fun q=>syB (nx w.r p q) q.cls))
 | n,0,_,_,_,_,h,_=>by omega
 | n,d+1,rem,b1,b2,hn,hd,hr=>by
  rw[ztB];refine zri (fun l1 a l2 he=>?_) fun he=>?_
  ·have ha:=hr a (by rw[he]; simp);have hs:=hl a ha;have hb:=hs.1
   have hlen:(l1++l2).length+1=n:=by rw[<- hn,he]; simp; omega
   have hnx:∀q∈nx w.r p a,SOk w.r q:=fun q hq=>by
    obtain⟨k,_,rfl⟩:=List.mem_map.1 hq;exact zxP h k hs
   have hne:nx w.r p a ≠ []:=by
    unfold nx;intro h';exact hp (List.map_eq_nil_iff.1 h')
   have ih:=fun b1 b2=>zzc h hc hw hl hi hp ((l1++l2).length) d (l1++l2) b1 b2 rfl (by omega) fun q hq=>hr q (by rw[he]; rcases List.mem_append.1 hq with h1 | h1 <;> simp[h1])
   have ef:zty w (mL [a]) (i:Int)=some (mL (nx w.r p a)):=by
    have:=zyR h hc hw (l:=[a]) (fun q hq=>by rw[List.mem_singleton.1 hq]; exact hs) hi;rw[this]
    congr 1
    exact zyI fun q=>by simp
   rw[zyK ha,obs,zqs (hs.fit h hc),<- zyJ,zyM,obs,List.nil_append,ef,obs,zyX h hc hnx,obs]
   have hsy:idx ([(mkC (clB (nx w.r p a))).c0,(mkC (clB (nx w.r p a))).c1,(mkC (clB (nx w.r p a))).c2,(mkC (clB (nx w.r p a))).c3,(mkC (clB (nx w.r p a))).c4,(mkC (clB (nx w.r p a))).c5]:List Bool) a.cls=some (syB (nx w.r p a) a.cls):=by
    have e0:a.cls=((a.cls.toNat:Nat):Int):=by omega
    rw[e0,zrx (zyU (by omega)),<- e0]
    congr 1
    rw[Bool.eq_iff_iff,zyV,zy8,<- e0]
   have hm:(!(((mkC (clB (nx w.r p a))).c0 == (mkC fun k=>decide ((k:Int)=a.cls)).c0) && (((mkC (clB (nx w.r p a))).c1 == (mkC fun k=>decide ((k:Int)=a.cls)).c1) && (((mkC (clB (nx w.r p a))).c2 == (mkC fun k=>decide ((k:Int)=a.cls)).c2) && (((mkC (clB (nx w.r p a))).c3 == (mkC fun k=>decide ((k:Int)=a.cls)).c3) && (((mkC (clB (nx w.r p a))).c4 == (mkC fun k=>decide ((k:Int)=a.cls)).c4) && ((mkC (clB (nx w.r p a))).c5 == (mkC fun k=>decide ((k:Int)=a.cls)).c5)))))))=mvB (nx w.r p a) a.cls:=zy9 hc hnx hne (by omega)
   have any_e:∀(g:Stt->Bool),rem.any g=(g a || (l1++l2).any g):=fun g=>by
    rw[he,List.any_append,List.any_cons,List.any_append]
    cases l1.any g <;> cases g a <;> cases l2.any g <;> rfl
   rw[any_e,any_e]
   cases b1 with
   | true=>
    rw[if_pos rfl]
    cases b2 with
    | true=>rw[if_pos rfl,ih,Bool.true_or,Bool.true_or,Bool.true_or,Bool.true_or]
    | false=>rw[if_neg (by decide),hsy,obs,ih,Bool.true_or,Bool.true_or,Bool.false_or]
   | false=>
    rw[if_neg (by decide),zy6 (by omega),obs]
    cases b2 with
    | true=>rw[if_pos rfl,hm,ih,Bool.true_or,Bool.true_or,Bool.false_or]
    | false=>rw[if_neg (by decide),hsy,obs,hm,ih,Bool.false_or,Bool.false_or]
  ·subst he;rw[List.any_nil,List.any_nil,Bool.or_false,Bool.or_false];unfold zza
   cases b1 <;> cases b2 <;> rfl
def zzd(r:Rl)(z:Zn)(i:Nat)(p:P4):Int:=zza ((zy3 r z i).any fun q=>mvB (nx r p q) q.cls) ((zy3 r z i).any fun q=>syB (nx r p q) q.cls)
theorem zze{r:Rl}{z:Zn}{i:Nat}{y:Yr}(h:z.Years[i]? = some y):(zx5 r z).can[i]? = some (mkP (kB r y)):=by
 show(z.Years.map _)[i]? = _
 rw[List.getElem?_map,h]; rfl
theorem zzf{l l':List Stt}(h:∀q,q∈l↔q∈l')(g:Stt->Bool):l.any g=l'.any g:=by
 rw[Bool.eq_iff_iff,List.any_eq_true,List.any_eq_true];exact exists_congr fun q=>and_congr_left fun _=>h q
theorem zzg{r:Rl}{z:Zn}(h:VZ r z){i:Nat}{y:Yr}(hi:z.Years[i]? = some y):ztV r z (i:Int)=some (zzd r z i (mkP (kB r y)),0):=by
 have h6:=h.y6;have hil:=(List.getElem?_eq_some_iff.1 hi).1;unfold ztV;rw[zx8 h (by omega),obs,if_pos rfl];have e:ztA (zx5 r z) (i:Int)=some (mL (zy3 r z i)):=zyS (w:=zx5 r z) h.full.rl h.c6 rfl h.st0 (n:=i) (by show i<=(z.Years.map _).length; rw[List.length_map]; omega) (by omega)
 show(ztC (zx5 r z) _).bind _=_
 unfold ztC;rw[e,obs]
 have e2:zrc (mL (zy3 r z i)) (fun ks=>ztB (zx5 r z) (i:Int) (mL (zy3 r z i)) (ks.length+1) false false ks)=some (zzd r z i (mkP (kB r y))):=by
  refine zyO h.full.rl h.c6 (zy4 h) fun ks hks=>?_;rw[zzc (w:=zx5 r z) h.full.rl h.c6 rfl (zy4 h) (zze hi) (zzb (h.full.ys y (List.mem_of_getElem? hi))) ks.length (ks.length+1) ks false false rfl (by omega) fun q hq=>(hks q).1 hq,Bool.false_or,Bool.false_or,zzf hks,zzf hks]; rfl
 rw[e2,obs]
theorem zzh{l:List Int}(h:l ≠ [])(hl:l.length<=1048577):zsJ l=some (zrK l):=by
 unfold zsJ
 cases l with
 | nil=>exact absurd rfl h
 | cons x l=>
  rw[if_neg (by rw[List.length_cons]; omega),zrz rfl,obs];refine(zrJ (l:=x::l) (fun s a=>min s a) (fun d s k=>zsI (x::l) d s k) (fun s=>some s) (fun d k s a hk=>?_) (fun d s=>?_) _ 0 x (Nat.zero_le _) (by omega)).trans ?_
  ·have hkl:=(List.getElem?_eq_some_iff.1 hk).1
   show zsI (x::l) (d+1) s (k:Int)=_
   rw[zsI,if_pos (by omega),zrx hk,obs]
   by_cases hc:a < s
   ·rw[if_pos hc,zqs (fI (by omega)),Int.min_eq_right (by omega)]
   ·rw[if_neg hc,zqs (fI (by omega)),Int.min_eq_left (by omega)]
  ·show zsI (x::l) (d+1) s _=_
   rw[zsI,if_neg (Int.lt_irrefl _)]
  ·rw[List.drop_zero]
   show some (l.foldl min (min x x))=_
   rw[Int.min_self]; rfl
theorem zzi{l:List Int}(h:l ≠ [])(hl:l.length<=1048577):zsL l=some (zrL l):=by
 unfold zsL
 cases l with
 | nil=>exact absurd rfl h
 | cons x l=>
  rw[if_neg (by rw[List.length_cons]; omega),zrz rfl,obs];refine(zrJ (l:=x::l) (fun s a=>max s a) (fun d s k=>zsK (x::l) d s k) (fun s=>some s) (fun d k s a hk=>?_) (fun d s=>?_) _ 1 x (by rw[List.length_cons]; omega) (by rw[List.length_cons]; omega)).trans ?_
  ·have hkl:=(List.getElem?_eq_some_iff.1 hk).1
   show zsK (x::l) (d+1) s (k:Int)=_
   rw[zsK,if_pos (by omega),zrx hk,obs,zqs (fI (by omega))]
  ·show zsK (x::l) (d+1) s _=_
   rw[zsK,if_neg (Int.lt_irrefl _)]
  ·rfl
theorem zzj(f:Nat->Bool)(n:Nat):(zyY f n).Pairwise (· < ·):=by
 unfold zyY;rw[List.pairwise_map]
 exact(List.pairwise_lt_range.filter _).imp fun h=>by omega
theorem zzk{L:List Int}(h:L.Pairwise (· < ·)){i j:Nat}{a c:Int}(hi:L[i]? = some a)(hj:L[j]? = some c)(hij:i<=j):a<=c:=by
 obtain⟨h1,rfl⟩:=List.getElem?_eq_some_iff.1 hi;obtain⟨h2,rfl⟩:=List.getElem?_eq_some_iff.1 hj
 rcases Nat.lt_or_eq_of_le hij with h3 | rfl
 ·exact Int.le_of_lt (List.pairwise_iff_getElem.1 h i j h1 h2 h3)
 ·exact Int.le_refl _
def zzl(r:Rl)(c:Int):Int:=(r.Price[c.toNat]?).getD 0
theorem zzm{r:Rl}(h:zxa r){c:Int}(hc:0<=c/\c<=r.Classes - 1):idx r.Price c=some (zzl r c):=by
 have:=h.pl;unfold zzl;rw[show idx r.Price c=r.Price[c.toNat]? from if_pos hc.1,List.getElem?_eq_getElem (by omega)]; rfl
theorem zzn{r:Rl}(h:zxa r):∀(j i:Nat),i<=j->j < r.Price.length->zzl r (i:Int)<=zzl r (j:Int)
 | 0,i,hi,_=>by rw[show i=0 by omega]; exact Int.le_refl _
 | j+1,i,hi,hj=>by
  rcases Nat.lt_or_eq_of_le hi with h1 | rfl
  ·have h2:=zzn h j i (by omega) (by omega);have g1:=List.getElem?_eq_getElem hj;have g0:=List.getElem?_eq_getElem (show j < r.Price.length by omega);have h3:=h.so (j+1) hj (by omega) _ _ g1 g0;unfold zzl at h2 ⊢;rw[Int.toNat_natCast,Int.toNat_natCast] at h2 ⊢;rw[g0] at h2;rw[g1]
   show _<=r.Price[j+1]
   have h2:_<=r.Price[j]:=h2
   omega
  ·exact Int.le_refl _
theorem zzo{r:Rl}(h:zxa r){a b:Int}(ha:0<=a)(hab:a<=b)(hb:b<=r.Classes - 1):zzl r a<=zzl r b:=by
 have:=h.pl;have:=zzn h b.toNat a.toNat (by omega) (by omega)
 rwa [show(a.toNat:Int)=a by omega,show(b.toNat:Int)=b by omega] at this
theorem zzp{r:Rl}(hc:r.Classes<=6){l:List Stt}(hl:∀q∈l,SOk r q){c:Int}:c∈zyY (clB l) 6↔∃q∈l,q.cls=c:=by
 rw[zy0]
 constructor
 ·rintro⟨h1,h2,h3⟩
  obtain⟨q,hq,h4⟩:=zyV.1 h3;exact⟨q,hq,by omega⟩
 ·rintro⟨q,hq,rfl⟩
  have:=(hl q hq).1;exact⟨this.1,by omega,zyV.2 ⟨q,hq,by omega⟩⟩
def zzq(r:Rl)(z:Zn)(n:Nat):List Int:=zyY (clB (zy3 r z n)) 6
theorem zzr{r:Rl}{z:Zn}(h:VZ r z){n:Nat}{c:Int}:c∈zzq r z n↔∃q∈zy3 r z n,q.cls=c:=zzp h.c6 (zy4 h)
theorem zzs{r:Rl}{z:Zn}(h:VZ r z){n:Nat}{c:Int}(hc:c∈zzq r z n):0<=c/\c<=r.Classes - 1:=by
 obtain⟨q,hq,rfl⟩:=(zzr h).1 hc;exact(zy4 h q hq).1
theorem zzt{r:Rl}{z:Zn}:(zx5 r z).can.length=z.Years.length:=List.length_map _
theorem zzu{r:Rl}{z:Zn}(h:VZ r z):ztF (zx5 r z)=some ((zzq r z z.Years.length).map (zzl r)):=by
 have h6:=h.y6;have e:ztA (zx5 r z) (z.Years.length:Int)=some (mL (zy3 r z z.Years.length)):=zyS (w:=zx5 r z) h.full.rl h.c6 rfl h.st0 (n:=z.Years.length) (by rw[zzt]; exact Nat.le_refl _) (by omega);unfold ztF ztD;rw[zzt,e,obs,zyX (r:=r) h.full.rl h.c6 (zy4 h),obs,obs,zy2,obs]
 show ztE (zx5 r z) (zzq r z z.Years.length) _ _ _=_
 have hl:(zzq r z z.Years.length).length<=6:=zy1 _ _
 exact zrD (l:=zzq r z z.Years.length) (zzl r) (F:=fun d acc x=>ztE (zx5 r z) (zzq r z z.Years.length) d acc x) (fun acc=>some acc) (fun d k acc a hk ha=>by
  have hkl:=(List.getElem?_eq_some_iff.1 hk).1
  show ztE _ _ (d+1) _ _=_
  rw[ztE,if_pos (by omega),zrx hk,obs,show idx (zx5 r z).r.Price a=_ from zzm h.full.rl (zzs h (List.mem_of_getElem? hk)),obs,zqs (by omega),zqs (fI (by omega))]) (fun d acc=>by
  show ztE _ _ (d+1) _ _=_
  rw[ztE,if_neg (Int.lt_irrefl _)]) (Nat.lt_succ_self _)
theorem zzv{r:Rl}{z:Zn}(h:VZ r z){a b:Int}(ha:(zzq r z z.Years.length)[0]? = some a)(hb:(zzq r z z.Years.length)[(zzq r z z.Years.length).length - 1]? = some b):ztW r z=some (⟨zzl r a,zzl r b⟩,0):=by
 unfold ztW;have hl:(zzq r z z.Years.length).length<=6:=zy1 _ _;have hs:(zzq r z z.Years.length).Pairwise (· < ·):=zzj _ _;have hbd:∀c∈zzq r z z.Years.length,0<=c/\c<=r.Classes - 1:=fun c hc=>zzs h hc;rw[zx6 h,obs,if_pos rfl,zzu h,obs];generalize zzq r z z.Years.length=L at ha hb hl hs hbd
 have hne:L.map (zzl r) ≠ []:=fun he=>by
  rw[List.map_eq_nil_iff.1 he] at ha; cases ha
 rw[zzh hne (by rw[List.length_map]; omega),obs,zzi hne (by rw[List.length_map]; omega),obs];obtain⟨m1,m2⟩:=zrO hne;obtain⟨m3,m4⟩:=zrP hne;have ham:=List.mem_of_getElem? ha;have hbm:=List.mem_of_getElem? hb
 have e1:zrK (L.map (zzl r))=zzl r a:=by
  obtain⟨c,hc,he⟩:=List.mem_map.1 m1;obtain⟨i,hi⟩:=List.mem_iff_getElem?.1 hc;have h1:=zzo h.full.rl (hbd a ham).1 (zzk hs ha hi (Nat.zero_le _)) (hbd c hc).2;have h2:=m2 _ (List.mem_map.2 ⟨a,ham,rfl⟩)
  omega
 have e2:zrL (L.map (zzl r))=zzl r b:=by
  obtain⟨c,hc,he⟩:=List.mem_map.1 m3;obtain⟨i,hi⟩:=List.mem_iff_getElem?.1 hc;have hil:=(List.getElem?_eq_some_iff.1 hi).1;have h1:=zzo h.full.rl (hbd c hc).1 (zzk hs hi hb (by omega)) (hbd b hbm).2;have h2:=m4 _ (List.mem_map.2 ⟨b,hbm,rfl⟩)
  omega
 rw[e1,e2]
def zzw(r:Rl)(z:Zn)(i:Nat):Bool:=match z.Years[i]? with | some y=>decide (1 < (kl (mkP (kB r y))).length) | none=>false
theorem zzx{l:List Int}(hl:l.length<=1000):ztq l=some l:=by
 have key:∀(l acc:List Int),l.length+acc.length<=1000->zto l acc=some (acc++l):=by
  intro l
  induction l with
  | nil=>intro acc _; rw[zto,List.append_nil]
  | cons a l ih=>
   intro acc h;rw[List.length_cons] at h;rw[zto,zqs (by omega),ih (acc++[a]) (by rw[List.length_append]; show _+(acc.length+1)<=_; omega),List.append_assoc]; rfl
 unfold ztq ztp;rw[key l [] (by simpa using hl),obs]; rfl
theorem zzy(p:P4):(kl p).length<=4:=by
 unfold kl
 cases p with
 | mk a b c d=>cases a <;> cases b <;> cases c <;> cases d <;> decide
theorem zzz{r:Rl}{z:Zn}(h:VZ r z):ztH (zx5 r z)=some (zyY (zzw r z) z.Years.length):=by
 have h6:=h.y6;unfold ztH;rw[zzt];refine zw7 (n:=z.Years.length) (fun d (s:List Int) x=>ztG (zx5 r z) d s x) (fun k=>zyY (zzw r z) k) (fun d k hk=>?_) (fun d=>?_) (z.Years.length+1) 0 (by omega) (by omega)
 ·have hg:=List.getElem?_eq_getElem hk;have hk4:=zzy (mkP (kB r z.Years[k]));have hn:=zy1 (zzw r z) k
  show ztG (zx5 r z) (d+1) _ _=_
  rw[ztG,zzt,if_pos (by omega),zrx (zze hg),obs,zyw,obs,zzx (by omega),obs,zyZ]
  have e:zzw r z k=decide (1 < (kl (mkP (kB r z.Years[k]))).length):=by unfold zzw; rw[hg]
  by_cases hc:1 < (kl (mkP (kB r z.Years[k]))).length
  ·rw[if_pos (by omega),zqs (by omega),zqs (fI (by omega)),if_pos (by rw[e]; exact decide_eq_true hc)]
  ·rw[if_neg (by omega),zqs (fI (by omega)),if_neg (by rw[e,decide_eq_false hc]; decide),List.append_nil]
 ·show ztG (zx5 r z) (d+1) _ _=_
  rw[ztG,zzt,if_neg (Int.lt_irrefl _)]
theorem zzA{r:Rl}{z:Zn}(h:VZ r z):ztX r z=some (zyY (zzw r z) z.Years.length,0):=by
 unfold ztX;rw[zx6 h,obs,if_pos rfl,zzz h,obs]
def zzB:P4:=⟨false,true,true,true⟩
def zzC(r:Rl)(z:Zn)(S:Nat->Bool):List P4:=z.Years.mapIdx fun i y=>if (S i && zxt r y)=true then zzB else mkP (kB r y)
theorem zzD{r:Rl}{z:Zn}{S:Nat->Bool}{i:Nat}{y:Yr}(h:z.Years[i]? = some y):(zzC r z S)[i]? = some (if (S i && zxt r y)=true then zzB else mkP (kB r y)):=by
 unfold zzC;rw[List.getElem?_mapIdx,h]; rfl
theorem zzE{r:Rl}{z:Zn}{S:Nat->Bool}:(zzC r z S).length=z.Years.length:=by
 unfold zzC;rw[List.length_mapIdx]
theorem zzF{r:Rl}{z:Zn}{S:Nat->Bool}{cs:List P4}(hl:cs.length=z.Years.length)(h:∀i y,z.Years[i]? = some y->cs[i]? = some (if (S i && zxt r y)=true then zzB else mkP (kB r y))):cs=zzC r z S:=by
 refine List.ext_getElem? fun i=>?_
 rcases Nat.lt_or_ge i z.Years.length with hi | hi
 ·have hg:=List.getElem?_eq_getElem hi;rw[h i _ hg,zzD hg]
 ·rw[List.getElem?_eq_none (by omega),List.getElem?_eq_none (by rw[zzE]; exact hi)]
theorem zzG{r:Rl}{z:Zn}:(zx5 r z).can=zzC r z fun _=>false:=zzF zzt fun i y hy=>by
 rw[zze hy,if_neg (by simp)]
theorem zzH{r:Rl}{z:Zn}{S S':Nat->Bool}(h:∀i,i < z.Years.length->S i=S' i):zzC r z S=zzC r z S':=zzF zzE fun i y hy=>by
 rw[zzD hy,h i (List.getElem?_eq_some_iff.1 hy).1]
theorem zzI{r:Rl}{z:Zn}(h:VZ r z){S:Nat->Bool}:∀p∈zzC r z S,kl p ≠ []:=fun p hp=>by
 obtain⟨i,hi⟩:=List.mem_iff_getElem?.1 hp;have hil:=(List.getElem?_eq_some_iff.1 hi).1;rw[zzE] at hil;have hg:=List.getElem?_eq_getElem hil;rw[zzD hg] at hi
 injection hi with hi
 subst hi
 split
 ·exact fun h'=>by cases h'
 ·exact zzb (h.full.ys _ (List.getElem_mem hil))
def zzJ(r:Rl)(z:Zn)(S:Nat->Bool):Wk:={ r:=r,zone:=z,kinds:=zxZ,can:=zzC r z S }
theorem zzK{L:List Int}{k:Nat}{v:Int}(hv:L[k]? = some v)(j:Nat):inD (L.take (k+1)) j=(inD (L.take k) j || decide ((j:Int)=v)):=by
 unfold inD;rw[zyA hv,Bool.eq_iff_iff,Bool.or_eq_true,decide_eq_true_eq,decide_eq_true_eq,decide_eq_true_eq,List.mem_append,List.mem_singleton]
theorem zzL{r:Rl}{z:Zn}{S:Nat->Bool}{v:Nat}{y:Yr}(hv:z.Years[v]? = some y)(hc:zxt r y=true):(zzC r z S).set v zzB=zzC r z fun j=>S j || decide ((j:Int)=(v:Int)):=by
 refine zzF (by rw[List.length_set]; exact zzE) fun i y' hy=>?_
 by_cases h:v=i
 ·subst h
  rw[hv] at hy; cases hy
  rw[List.getElem?_set_self (by rw[zzE]; exact(List.getElem?_eq_some_iff.1 hv).1),decide_eq_true rfl,Bool.or_true,hc]; rfl
 ·rw[List.getElem?_set_ne h,zzD hy,decide_eq_false (by omega),Bool.or_false]
theorem zzM{r:Rl}{z:Zn}{S:Nat->Bool}{v:Nat}{y:Yr}(hv:z.Years[v]? = some y)(hc:zxt r y=false):zzC r z S=zzC r z fun j=>S j || decide ((j:Int)=(v:Int)):=by
 refine zzF zzE fun i y' hy=>?_;rw[zzD hy]
 by_cases h:v=i
 ·subst h
  rw[hv] at hy; cases hy
  rw[hc,Bool.and_false,Bool.and_false]
 ·rw[decide_eq_false (by omega),Bool.or_false]
theorem zzN{r:Rl}{z:Zn}(h:VZ r z){L:List Int}(hL:∀v∈L,0<=v/\v < z.Years.length)(hl:L.length<=1000):ztK (zx5 r z) L=some (zzJ r z (inD L)):=by
 have h6:=h.y6;unfold ztK ztI;have hcl:=zzt (r:=r) (z:=z);rw[zqs (by rw[List.length_nil]; omega),obs,List.nil_append,zzG];refine zw7 (n:=L.length) (fun d (s:List P4) x=>ztJ (zx5 r z) L d r.Classes r.Good r.Bad r.Rest r.Fewest z.First s x) (fun k=>zzC r z (inD (L.take k))) (fun d k hk=>?_) (fun d=>?_) (L.length+1) 0 (by omega) (by omega)
 ·have hg:=List.getElem?_eq_getElem hk;have hv:=hL _ (List.getElem_mem hk);generalize L[k]=v at hg hv;have hy:=List.getElem?_eq_getElem (show v.toNat < z.Years.length by omega)
  have ev:((v.toNat:Nat):Int)=v:=by omega
  show ztJ (zx5 r z) L (d+1) _ _ _ _ _ _ _ _=_
  have e1:idx (zx5 r z).zone.Years v=some (z.Years[v.toNat]'(by omega)):=by
   have:=zrx hy
   rwa [ev] at this
  have e2:=zzD (r:=r) (S:=inD (L.take k)) hy;have e3:=zrx e2;rw[ev] at e3
  have e4:(fun j=>inD (L.take k) j || decide ((j:Int)=((v.toNat:Nat):Int)))=inD (L.take (k+1)):=funext fun j=>by rw[zzK hg,ev]
  rw[ztJ,if_pos (by omega),zrx hg,obs,e1,obs,zxu,obs]
  show(if zxt r _=true then _ else _)=_
  by_cases hc:zxt r (z.Years[v.toNat]'(by omega))=true
  ·rw[if_pos hc]
   show((idx (zzC r z (inD (L.take k))) v).bind _)=_
   rw[e3,obs,zqs (fI (by omega))]
   show ztJ (zx5 r z) L d _ _ _ _ _ _ ((zzC r z (inD (L.take k))).set v.toNat zzB) _=_
   rw[zzL hy hc,e4]
  ·rw[if_neg hc,zqs (fI (by omega)),<- e4,<- zzM hy (by simpa using hc)]
 ·show ztJ (zx5 r z) L (d+1) _ _ _ _ _ _ _ _=_
  rw[ztJ,if_neg (Int.lt_irrefl _),List.take_length]; rfl
def zzO(r:Rl)(z:Zn)(S:Nat->Bool)(n:Nat):List Stt:=zyE r (st0 r z) ((zzC r z S).take n)
theorem zzP{r:Rl}{z:Zn}(h:VZ r z){S:Nat->Bool}{n:Nat}:∀q∈zzO r z S n,SOk r q:=zyH h.full.rl h.st0
theorem zzQ{r:Rl}{z:Zn}(h:VZ r z){S:Nat->Bool}:ztD (zzJ r z S)=some (mkC (clB (zzO r z S z.Years.length))):=by
 have h6:=h.y6;unfold ztD;have e:ztA (zzJ r z S) (z.Years.length:Int)=some (mL (zzO r z S z.Years.length)):=zyS (w:=zzJ r z S) h.full.rl h.c6 rfl h.st0 (n:=z.Years.length) (by show z.Years.length<=(zzC r z S).length; rw[zzE]; exact Nat.le_refl _) (by omega);rw[show((zzJ r z S).can.length:Int)=(z.Years.length:Int) from by show((zzC r z S).length:Int)=_; rw[zzE],e,obs,zyX (r:=r) h.full.rl h.c6 (zzP h),obs]
def zzR(r:Rl)(z:Zn)(c:Nat)(S:Nat->Bool):Bool:=clB (zzO r z S z.Years.length) c
theorem zzS{r:Rl}{z:Zn}{c:Nat}{S S':Nat->Bool}(h:∀i,i < z.Years.length->S i=S' i):zzR r z c S=zzR r z c S':=by
 unfold zzR zzO;rw[zzH h]
theorem zzT{r:Rl}{z:Zn}(h:VZ r z){c:Nat}(hc:c < 6){L:List Int}(hL:Inc z.Years.length 0 L):ztN (zx5 r z) (c:Int) L=some (zzR r z c (inD L)):=by
 have h6:=h.y6;have hll:=zwU hL;unfold ztN;rw[zzN h (fun v hv=>by have:=hL.2 v hv; omega) (by omega),obs,zzQ h,obs,zrx (zyU hc)]; rfl
def zzU(r:Rl)(z:Zn)(c:Nat)(L:List Int):Bool:=zzR r z c (inD L)
theorem zzV{r:Rl}{z:Zn}(h:VZ r z){c:Nat}(hc:c < 6):ztO (zx5 r z) (c:Int)=some (zro z.Years.length (zzU r z c),((zoi z.Years.length).find? (zzU r z c)).isSome):=by
 have h6:=h.y6;unfold ztO;rw[zzt,zqs ⟨by omega,fun L hL=>by rw[zzT h hc (zwV.1 hL)]; rfl⟩]
 have e:∀L∈zoi z.Years.length,((ztN (zx5 r z) (c:Int) L).getD false)=zzU r z c L:=fun L hL=>by rw[zzT h hc (zwV.1 hL)]; rfl
 have e2:(zoi z.Years.length).find? (fun L=>(ztN (zx5 r z) (c:Int) L).getD false)=(zoi z.Years.length).find? (zzU r z c):=by
  have key:∀l:List (List Int),(∀L∈l,((ztN (zx5 r z) (c:Int) L).getD false)=zzU r z c L)->l.find? (fun L=>(ztN (zx5 r z) (c:Int) L).getD false)=l.find? (zzU r z c):=by
   intro l
   induction l with
   | nil=>intro _; rfl
   | cons a l ih=>
    intro hl;rw[List.find?_cons,List.find?_cons,hl a (List.mem_cons_self ..),ih fun L hL=>hl L (List.mem_cons_of_mem _ hL)]
  exact key _ e
 unfold zro;rw[e2]
theorem zzW{r:Rl}(h:zxa r)(hc:r.Classes<=6){c:Int}:Ev (zs4 r c) (0<=c/\c<=r.Classes - 1):=by
 have:=h.c0;unfold zs4;refine Ev.gd (fI (by omega)) ?_;exact(show Ev (zsF ⟨0,r.Classes - 1⟩ c) _ from zxf).ret
theorem zzX{r:Rl}{z:Zn}(h:VZ r z){c:Nat}(hc:(c:Int)<=r.Classes - 1)(hn:∀L,Inc z.Years.length 0 L->zzU r z c L=false):ztY r z (c:Int)=some ([],7):=by
 have hc6:=h.c6;unfold ztY;rw[zx6 h,obs,if_pos rfl,(zzW h.full.rl h.c6).some_of ⟨by omega,hc⟩,obs,if_pos rfl,zzV h (by omega),obs]
 have e:(zoi z.Years.length).find? (zzU r z c)=none:=List.find?_eq_none.2 fun L hL=>by rw[hn L (zwV.1 hL)]; decide
 rw[e]; rfl
theorem zzY{r:Rl}{z:Zn}(h:VZ r z){c:Nat}(hc:(c:Int)<=r.Classes - 1)(hn:∃L,Inc z.Years.length 0 L/\zzU r z c L=true):ztY r z (c:Int)=some (zro z.Years.length (zzU r z c),0):=by
 have hc6:=h.c6;unfold ztY;rw[zx6 h,obs,if_pos rfl,(zzW h.full.rl h.c6).some_of ⟨by omega,hc⟩,obs,if_pos rfl,zzV h (by omega),obs];obtain⟨L,h1,h2⟩:=hn
 have e:((zoi z.Years.length).find? (zzU r z c)).isSome=true:=by
  rw[List.find?_isSome];exact⟨L,zwV.2 h1,h2⟩
 rw[e]; rfl
theorem zzZ{a b:List Int}(hl:a.length<=1000):∀(d k:Nat),k<=a.length->a.length - k < d->zsA a b d (k:Int)=some (bef (a.drop k) (b.drop k))
 | 0,_,_,h=>by omega
 | d+1,k,hk,h=>by
  rw[zsA]
  by_cases hka:k < a.length
  ·rw[if_pos (by omega)];have da:=List.drop_eq_getElem_cons hka;have ga:=List.getElem?_eq_getElem hka
   by_cases hkb:k < b.length
   ·have db:=List.drop_eq_getElem_cons hkb;have gb:=List.getElem?_eq_getElem hkb;rw[if_pos (by omega),zrx ga,obs,zrx gb,obs,da,db];unfold bef
    by_cases he:a[k]=b[k]
    ·rw[if_pos he,if_pos he,zqs (fI (by omega)),show(k:Int)+1=((k+1:Nat):Int) by omega];exact zzZ hl d (k+1) (by omega) (by omega)
    ·rw[if_neg he,if_neg he,obs,obs]
   ·rw[if_neg (by omega),da,List.drop_eq_nil_of_le (show b.length<=k by omega),decide_eq_false (by omega)]; rfl
  ·rw[if_neg (by omega),List.drop_eq_nil_of_le (show a.length<=k by omega)]
   by_cases hkb:k < b.length
   ·rw[List.drop_eq_getElem_cons hkb,decide_eq_true (by omega)]; rfl
   ·rw[List.drop_eq_nil_of_le (show b.length<=k by omega),decide_eq_false (by omega)]; rfl
theorem zz0{a b:List Int}(hl:a.length<=1000):zsB a b=some (bef a b):=zzZ hl (a.length+1) 0 (Nat.zero_le _) (by omega)
def zz1(n:Nat):List Int:=(List.range n).map fun j=>((j:Nat):Int)
theorem zz2(n:Nat):Inc n 0 (zz1 n):=by
 refine⟨?_,fun v hv=>?_⟩
 ·unfold zz1;rw[List.pairwise_map]
  exact List.pairwise_lt_range.imp fun h=>by omega
 ·obtain⟨j,hj,rfl⟩:=List.mem_map.1 hv;have:=List.mem_range.1 hj
  omega
theorem zz3{n j:Nat}(h:j < n):inD (zz1 n) j=true:=decide_eq_true (List.mem_map.2 ⟨j,List.mem_range.2 h,rfl⟩)
structure zz4 (n:Nat) (P:(Nat->Bool)->Prop) (M:List Int):Prop where
 inc:Inc n 0 M
 ok:P (inD M)
 min:∀D,Inc n 0 D->P (inD D)->D=M\/shB M D=true
def zz5(p:P4)(i:Nat):Bool:=(([p.p0,p.p1,p.p2,p.p3]:List Bool)[i]?).getD false
theorem zz6{p:P4}{i:Nat}(h:i < 4):([p.p0,p.p1,p.p2,p.p3]:List Bool)[i]? = some (zz5 p i):=by
 match i,h with
 | 0,_=>rfl
 | 1,_=>rfl
 | 2,_=>rfl
 | 3,_=>rfl
theorem zz7(p:P4):zyY (zz5 p) 4=kl p:=by
 cases p with
 | mk a b c d=>cases a <;> cases b <;> cases c <;> cases d <;> rfl
theorem zz8{l:List (List Int)}{p:P4}{x:Nat}{a:List Int}(hx:l[x]? = some a)(ha:a.length<=100)(hl:l.length<=10000){acc:List (List Int)}(hacc:acc.length<=100000){K:List (List Int)->Int->Option (List (List Int))} :
  zst l p (x:Int) K (Int.toNat 4+1) acc 0=K (acc++(kl p).map fun k=>a++[k]) ((x:Int)+1):=by
 have hxl:=(List.getElem?_eq_some_iff.1 hx).1
 refine zw7 (n:=4) (fun d (s:List (List Int)) y=>zst l p (x:Int) K d s y) (fun k=>acc++(zyY (zz5 p) k).map fun k=>a++[k]) (fun d k hk=>?_) (fun d=>?_) (Int.toNat 4+1) 0 (by omega) (by show 4 - 0 < 4+1; omega) |> fun h=>(show zst l p (x:Int) K (Int.toNat 4+1) acc 0=_ from by
  have e:acc++(zyY (zz5 p) 0).map (fun k=>a++[k])=acc:=List.append_nil _;have h:zst l p (x:Int) K (Int.toNat 4+1) (acc++(zyY (zz5 p) 0).map fun k=>a++[k]) 0=K (acc++(kl p).map fun k=>a++[k]) ((x:Int)+1):=h
  rwa [e] at h)
 ·have hn:=zy1 (zz5 p) k
  have hal:(acc++(zyY (zz5 p) k).map fun k=>a++[k]).length < 1048576:=by rw[List.length_append,List.length_map]; omega
  show zst l p (x:Int) K (d+1) _ _=_
  rw[zst,if_pos (by omega),zrx (zz6 hk),obs,zyZ]
  cases zz5 p k with
  | true=>
   rw[if_pos rfl,if_pos rfl,zrx hx,obs,List.nil_append,zqs (by rw[List.length_nil]; omega),zqs (by omega),zqs hal,zqs (fI (by omega)),List.map_append,<- List.append_assoc]; rfl
  | false=>rw[if_neg (by decide),if_neg (by decide),zqs (fI (by omega)),List.append_nil]
 ·show zst l p (x:Int) K (d+1) _ _=_
  rw[zst,if_neg (by omega),zqs (fI (by omega)),zz7]
def zz9(p:P4)(l:List (List Int)):List (List Int):=l.flatMap fun a=>(kl p).map fun k=>a++[k]
theorem zAa(p:P4):∀l:List (List Int),(zz9 p l).length<=4 * l.length
 | []=>Nat.le_refl _
 | a::l=>by
  have:=zAa p l;have:=zzy p
  unfold zz9 at *
  rw[List.flatMap_cons,List.length_append,List.length_map,List.length_cons]
  omega
theorem zAb{l:List (List Int)}{p:P4}{y:Int}(hy:0<=y/\y<=1000)(ha:∀a∈l,a.length<=100)(hl:l.length<=10000){K:List (List Int)->Int->Option (List (List Int))} :
  zsu l y p K (l.length+1) [] 0=K (zz9 p l) (y+1):=by
 refine zw7 (n:=l.length) (fun d (s:List (List Int)) x=>zsu l y p K d s x) (fun k=>zz9 p (l.take k)) (fun d k hk=>?_) (fun d=>?_) (l.length+1) 0 (by omega) (by omega)
 ·have hg:=List.getElem?_eq_getElem hk;have h4:=zAa p (l.take k);rw[List.length_take] at h4
  show zsu l y p K (d+1) _ _=_
  rw[zsu,if_pos (by omega),zz8 hg (ha _ (List.getElem_mem hk)) hl (by omega),zyA hg]
  congr 1
  unfold zz9;rw[List.flatMap_append,List.flatMap_cons,List.flatMap_nil,List.append_nil]
 ·show zsu l y p K (d+1) _ _=_
  rw[zsu,if_neg (Int.lt_irrefl _),zqs (fI (by omega)),List.take_length]
theorem L46{l:List (List Int)}{p:P4}{x:Int}{K:List (List Int)->Int->Option (List (List Int))}:∀(d:Nat) (acc:List (List Int)) (k:Int),zsr l p x K d acc k=zst l p x K d acc k
 | 0,_,_=>rfl
 | d+1,acc,k=>by rw[zsr,zst]; simp only[L46]
theorem L35{l:List (List Int)}{p:P4}{y:Int}{K:List (List Int)->Int->Option (List (List Int))}:∀(d:Nat) (acc:List (List Int)) (x:Int),zss l y p K d acc x=zsu l y p K d acc x
 | 0,_,_=>rfl
 | d+1,acc,x=>by
  rw[zss,zsu,L46,show zss l y p K d=zsu l y p K d from funext fun a=>funext fun b=>L35 d a b]
theorem L26{l:List (List Int)}{x:Int}{K:List (List Int)->Int->Option (List (List Int))}:∀(d:Nat) (acc:List (List Int)) (k:Int),zsp l x K d acc k=zst l zzB x K d acc k
 | 0,_,_=>rfl
 | d+1,acc,k=>by rw[zsp,zst]; simp only[L26]; rfl
theorem L15{l:List (List Int)}{y:Int}{K:List (List Int)->Int->Option (List (List Int))}:∀(d:Nat) (acc:List (List Int)) (x:Int),zsq l y K d acc x=zsu l y zzB K d acc x
 | 0,_,_=>rfl
 | d+1,acc,x=>by
  rw[zsq,zsu,L26,show zsq l y K d=zsu l y zzB K d from funext fun a=>funext fun b=>L15 d a b]
theorem zAc{r:Rl}{y:Yr}(hy:zw8 y):kB r y 0 = !zxt r y:=by
 obtain⟨⟨h1,h2,h3,h4⟩,⟨h5,h6,h7,h8⟩,_⟩:=hy;rw[Bool.eq_iff_iff,zxH,Bool.not_eq_true']
 constructor
 ·rintro⟨l,p,_,_,h⟩; exact zxx.1 h
 ·intro h; exact⟨_,_,⟨Int.le_refl _,h2⟩,⟨Int.le_refl _,h6⟩,zxx.2 h⟩
theorem zAd:∀(n:Nat) (cs:List P4),cs.length=n->(zyx cs).length<=4 ^ n
 | 0,cs,h=>by rw[List.eq_nil_of_length_eq_zero h]; exact Nat.le_refl _
 | n+1,cs,h=>by
  have hg:=List.getElem?_eq_getElem (show n < cs.length by omega)
  have e:cs=cs.take n++[cs[n]]:=by rw[<- zyA hg,List.take_of_length_le (by omega)]
  have ih:=zAd n (cs.take n) (by rw[List.length_take]; omega);have h4:=zAa cs[n] (zyx (cs.take n));rw[e,zyy,Nat.pow_succ]
  show(zz9 cs[n] (zyx (cs.take n))).length<=_
  omega
theorem zAe{n:Nat}(h:n<=6):4 ^ n<=4096:=Nat.pow_le_pow_right (by omega) h
theorem zAf{r:Rl}{z:Zn}(h:VZ r z){b:Nat}(hb:b < 65536):zsw r z (b:Int)=some (zyx (zzC r z fun i=>b.testBit i)):=by
 have h6:=h.y6;refine zw7 (n:=z.Years.length) (fun d (s:List (List Int)) x=>zsv r z (b:Int) d s x) (fun k=>zyx ((zzC r z fun i=>b.testBit i).take k)) (fun d k hk=>?_) (fun d=>?_) 1000000 0 (by omega) (by omega)
 ·have hg:=List.getElem?_eq_getElem hk;have hy:=h.full.ys _ (List.getElem_mem hk);have hc:=zzD (r:=r) (S:=fun i=>b.testBit i) hg;have hle:b / 2 ^ k<=b:=Nat.div_le_self _ _;have hbit:b.testBit k=decide (b / 2 ^ k % 2=1):=Nat.testBit_eq_decide_div_mod_eq ..
  have hq:(b:Int) / 2 ^ ((k:Int)).toNat=((b / 2 ^ k:Nat):Int):=by rw[Int.toNat_natCast]; simp
  have htl:((zzC r z fun i=>b.testBit i).take k).length=k:=by rw[List.length_take,zzE]; omega
  have hlen:=zAd k _ htl;have hp4:=zAe (n:=k) (by omega)
  have hall:∀a∈zyx ((zzC r z fun i=>b.testBit i).take k),a.length<=100:=fun a ha=>by
   have:=((zyC _).1 ha).1
   omega
  have hadd:∀p,zz9 p (zyx ((zzC r z fun i=>b.testBit i).take k))=zyx ((zzC r z fun i=>b.testBit i).take k++[p]):=fun p=>(zyy _ _).symm
  show zsv r z (b:Int) (d+1) _ _=_
  rw[zsv,wu (show k<=64 by omega),if_pos (by omega),zrx hg,obs,zxO h.full.rl hy,obs,hq];rw[zyA hc];generalize (zzC r z fun i=>b.testBit i).take k=cs at hlen hall hadd;generalize z.Years[k]=y at hg hy
  clear hq hc
  show _=zsv r z (b:Int) d (zyx (cs++[if (b.testBit k && zxt r y)=true then zzB else mkP (kB r y)])) _
  rw[hbit];generalize b / 2 ^ k=q at hle;rw[zqs (by omega),zqs (by omega),zqs (by omega),zqs (fI (by omega)),zqs (by omega),zqs (by omega),zqs (fI (by omega))]
  by_cases h1:q % 2=1
  ·rw[if_pos (by omega),decide_eq_true h1,Bool.true_and,show idx ([(mkP (kB r y)).p0,(mkP (kB r y)).p1,(mkP (kB r y)).p2,(mkP (kB r y)).p3]:List Bool) 0=some (kB r y 0) from rfl,obs,zAc hy]
   cases hcn:zxt r y with
   | true=>rw[Bool.not_true,if_neg (by decide),if_pos rfl,L15,zAb (by omega) hall (by omega),hadd]
   | false=>rw[Bool.not_false,if_pos rfl,if_neg (by decide),L35,zAb (by omega) hall (by omega),hadd]
  ·rw[if_neg (by omega),decide_eq_false h1,Bool.false_and,if_neg (by decide),zAb (by omega) hall (by omega),hadd]
 ·show zsv r z (b:Int) (d+1) _ _=_
  rw[zsv,if_neg (Int.lt_irrefl _),List.take_of_length_le (by rw[zzE]; exact Nat.le_refl _)]
theorem zAg{l:List Int}{cs:List P4}(h:Fit l cs)(m:Nat):Fit (l.take m) (cs.take m):=by
 refine⟨by rw[List.length_take,List.length_take,h.1],fun i k p hi hp=>?_⟩;rw[List.getElem?_take] at hi hp
 by_cases hm:i < m
 ·rw[if_pos hm] at hi hp; exact h.2 i k p hi hp
 ·rw[if_neg hm] at hi; cases hi
theorem zAh{cs:List P4}(hc:∀p∈cs,kl p ≠ []){m:Nat}:∀(n:Nat) {l:List Int},n+m=cs.length->Fit l (cs.take m)->∃l',Fit l' cs/\l'.take m=l
 | 0,l,hn,h=>⟨l,by rwa [List.take_of_length_le (by omega)] at h,by rw[List.take_of_length_le (by have:=h.1; rw[List.length_take] at this; omega)]⟩
 | n+1,l,hn,h=>by
  have hg:=List.getElem?_eq_getElem (show m < cs.length by omega);obtain⟨k,hk⟩:=List.exists_mem_of_ne_nil _ (hc _ (List.getElem_mem (show m < cs.length by omega)));obtain⟨l',h1,h2⟩:=zAh hc (m:=m+1) n (l:=l++[k]) (by omega) (by rw[zyA hg,zyB]; exact⟨l,k,h,hk,rfl⟩);refine⟨l',h1,?_⟩;have hl:=h.1;rw[List.length_take] at hl;have e:=congrArg (List.take m) h2;rw[List.take_take,Nat.min_eq_left (by omega),List.take_left' (by omega)] at e;exact e
theorem zAi{g:Nat->Bool}:zsx (g 0) (g 1) (g 2) (g 3) (g 4) (g 5) (Int.toNat 6+1) [] 0=some (zyY g 6):=by
 refine zw7 (n:=6) (fun d (s:List Int) x=>zsx (g 0) (g 1) (g 2) (g 3) (g 4) (g 5) d s x) (fun k=>zyY g k) (fun d k hk=>?_) (fun d=>?_) (Int.toNat 6+1) 0 (by omega) (by show 6 - 0 < 6+1; omega)
 ·show zsx _ _ _ _ _ _ (d+1) _ _=_
  have:=zy1 g k;rw[zsx,if_pos (by omega),show idx ([g 0,g 1,g 2,g 3,g 4,g 5]:List Bool) (k:Int)=some (g k) from zrx (zyU (f:=g) hk),obs,zyZ]
  cases g k with
  | true=>rw[if_pos rfl,if_pos rfl,zqs (by omega),zqs (fI (by omega))]
  | false=>rw[if_neg (by decide),if_neg (by decide),zqs (fI (by omega)),List.append_nil]
 ·show zsx _ _ _ _ _ _ (d+1) _ _=_
  rw[zsx,if_neg (by omega)]
theorem zAj{r:Rl}{z:Zn}(h:VZ r z){all:List (List Int)}(hall:all.length<=10000)(hk:∀l∈all,zyo l/\l.length=z.Years.length){m:Nat}(hm:m<=z.Years.length):∀(n x d:Nat) (f:Nat->Bool),n+x=all.length->n < d ->
  ∃g:Nat->Bool,zsy r z ((m:Int) - 1) all d (f 0) (f 1) (f 2) (f 3) (f 4) (f 5) (x:Int)=some (zyY g 6)/\∀c,g c=true↔f c=true\/∃l∈all.drop x,(zxQ r (st0 r z) (l.take m)).cls=(c:Int)
 | 0,x,0,f,_,hd=>by omega
 | 0,x,d+1,f,hx,_=>⟨f,by rw[zsy,if_neg (by omega),zAi],fun c=>⟨.inl,fun q=>q.elim id fun⟨l,hl,_⟩=>by rw[List.drop_eq_nil_of_le (by omega)] at hl; cases hl⟩⟩
 | n+1,x,0,f,_,hd=>by omega
 | n+1,x,d+1,f,hx,hd=>by
  have h6:=h.y6
  have hxl:x < all.length:=by omega
  have hg:=List.getElem?_eq_getElem hxl;obtain⟨hks,hll⟩:=hk _ (List.getElem_mem hxl);have hdr:=List.drop_eq_getElem_cons hxl;generalize all[x]=l at hg hks hll hdr;have hs:=zxS h.full.rl (l.take m) h.st0;have hb:=hs.1;have hc6:=h.c6;obtain⟨g,h1,h2⟩:=zAj h hall hk hm n (x+1) d (upF f (zxQ r (st0 r z) (l.take m)).cls.toNat true) (by omega) (by omega);refine⟨g,?_,fun c=>(h2 c).trans ?_⟩
  ·rw[<- h1,zsy,if_pos (by omega)]
   have e:(x:Int)+1=((x+1:Nat):Int):=by omega
   by_cases hm0:m=0
   ·subst hm0;have hf:=h.full.first;have ef:(zxQ r (st0 r z) (l.take 0)).cls=z.First:=rfl;rw[ef,if_neg (by omega),zqs ⟨hf.1,by omega⟩,zqs (fI (by omega)),zxB f hf.1,zxB f hf.1,zxB f hf.1,zxB f hf.1,zxB f hf.1,zxB f hf.1,e]
   ·have em:(m:Int) - 1=((m - 1:Nat):Int):=by omega
    have hcg:=zxX r l ⟨z.First,r.Rest⟩ (m - 1) (by omega);rw[show m - 1+1=m by omega] at hcg
    have hi:idx (zxR r ⟨z.First,r.Rest⟩ l) ((m:Int) - 1)=some (zxQ r (st0 r z) (l.take m)).cls:=by rw[em]; exact zrx hcg
    rw[if_pos (by omega),zrx hg,obs,zys h.full.rl h.c6 hks (by omega) h.full.first,obs,hi,obs];generalize (zxQ r (st0 r z) (l.take m)).cls=c at hb;rw[zqs ⟨hb.1,by omega⟩,zqs (fI (by omega)),zxB f hb.1,zxB f hb.1,zxB f hb.1,zxB f hb.1,zxB f hb.1,zxB f hb.1,e]
  ·rw[zxC,hdr]
   constructor
   ·rintro ((h3 | h3) | ⟨l',h3,h4⟩)
    ·exact .inl h3
    ·exact .inr ⟨l,List.mem_cons_self ..,by omega⟩
    ·exact .inr ⟨l',List.mem_cons_of_mem _ h3,h4⟩
   ·rintro (h3 | ⟨l',h3,h4⟩)
    ·exact .inl (.inl h3)
    ·rcases List.mem_cons.1 h3 with rfl | h5
     ·exact .inl (.inr (by omega))
     ·exact .inr ⟨l',h5,h4⟩
theorem zAk{f g:Nat->Bool}{n:Nat}(h:∀k,k < n->(f k=true↔g k=true)):zyY f n=zyY g n:=by
 induction n with
 | zero=>rfl
 | succ n ih=>
  rw[zyZ,zyZ,ih fun k hk=>h k (by omega),show f n=g n from Bool.eq_iff_iff.2 (h n (by omega))]
theorem zAl{r:Rl}{z:Zn}(h:VZ r z)(S:Nat->Bool):(zyx (zzC r z S)).length<=10000/\∀l∈zyx (zzC r z S),zyo l/\l.length=z.Years.length:=by
 have h6:=h.y6;have h1:=zAd z.Years.length (zzC r z S) zzE;have h2:=zAe h6;refine⟨by omega,fun l hl=>?_⟩;have hf:=(zyC _).1 hl;exact⟨zyD hf,by rw[hf.1,zzE]⟩
theorem zAm{r:Rl}{z:Zn}(h:VZ r z){S:Nat->Bool}{m:Nat}(hm:m<=z.Years.length){c:Int}:(∃q∈zzO r z S m,q.cls=c)↔∃l∈zyx (zzC r z S),(zxQ r (st0 r z) (l.take m)).cls=c:=by
 constructor
 ·rintro⟨q,hq,hc⟩
  obtain⟨ks,h1,rfl⟩:=zyF.1 hq;obtain⟨l,h2,h3⟩:=zAh (zzI h) (z.Years.length - m) (by rw[zzE]; omega) h1;exact⟨l,(zyC _).2 h2,by rw[h3]; exact hc⟩
 ·rintro⟨l,hl,hc⟩
  exact⟨_,zyF.2 ⟨l.take m,zAg ((zyC _).1 hl) m,rfl⟩,hc⟩
theorem zAn{r:Rl}{z:Zn}(h:VZ r z){b:Nat}(hb:b < 65536){m:Nat}(hm:m<=z.Years.length):zsz r z ((m:Int) - 1) (b:Int)=some (zyY (clB (zzO r z (fun i=>b.testBit i) m)) 6):=by
 obtain⟨f1,f2⟩:=zAl h fun i=>b.testBit i;unfold zsz;rw[zAf h hb,obs];obtain⟨g,h1,h2⟩:=zAj h f1 f2 hm (zyx (zzC r z fun i=>b.testBit i)).length 0 ((zyx (zzC r z fun i=>b.testBit i)).length+1) (fun _=>false) (by omega) (by omega);have h1:zsy r z ((m:Int) - 1) (zyx (zzC r z fun i=>b.testBit i)) ((zyx (zzC r z fun i=>b.testBit i)).length+1) false false false false false false 0=_:=h1;rw[h1]
 congr 1
 refine zAk fun c _=>(h2 c).trans ?_;rw[zyV,zAm h hm,List.drop_zero];exact⟨fun q=>q.elim (fun q=>by cases q) id,.inr⟩
theorem zAo{l:List Int}{n:Int}(hl:l.length<=1000):Ev (zsD l n) (n∈l):=by
 have key:=zrG (l:=l) (F:=fun d x=>zsC l n d x) (ok:=fun a=>¬ a=n) (bad:=some true) (fin:=some false) (fun d k a ha=>by
  have hk:=(List.getElem?_eq_some_iff.1 ha).1
  show(_->zsC l n (d+1) _=_)/\(_->zsC l n (d+1) _=_)
  rw[zsC,if_pos (by omega),zrx ha,obs]
  refine⟨fun h=>by rw[if_neg h,zqs (fI (by omega))],fun h=>by rw[if_pos (Classical.not_not.1 h)]⟩) (fun d=>by show zsC l n (d+1) _=_; rw[zsC,if_neg (Int.lt_irrefl _)]) (d:=l.length+1) (by omega)
 unfold zsD
 by_cases h:n∈l
 ·rw[key.2 fun q=>q n h rfl]; exact Ev.tt h
 ·rw[key.1 fun a ha he=>h (he ▸ ha)]; exact Ev.ff h
theorem zAp{a b:List Int}(ha:a.length<=1000):Ev (zsE a b) (a=b):=by
 unfold zsE
 by_cases hl:a.length=b.length
 ·rw[if_pos (by omega),zz0 ha,obs]
  rcases zwY a b with h | h | h
  ·subst h;rw[zwW,if_neg (by decide),zz0 ha,zwW,obs]; exact Ev.tt rfl
  ·rw[h,if_pos rfl]
   exact Ev.ff fun he=>by subst he; rw[zwW] at h; cases h
  ·rw[zwX h,if_neg (by decide),zz0 (by omega),h,obs]
   exact Ev.ff fun he=>by subst he; rw[zwW] at h; cases h
 ·rw[if_neg (by omega)]; exact Ev.ff fun he=>hl (by rw[he])
theorem zAq{a:List Int}(ha:a.length<=1000):zsE a a=some true:=(zAp ha).some_of rfl
theorem zAr{n:Nat}(h:n<=6):2 ^ n<=64:=Nat.pow_le_pow_right (by omega) h
theorem zAs{n:Nat}(h:n<=6):(1:Int) * 2 ^ (Int.toNat (zmb .u64 (n:Int)))=((2 ^ n:Nat):Int):=by rw[wu (by omega),Int.toNat_natCast,Int.one_mul,Int.natCast_pow]; rfl
theorem zAt{r:Rl}{z:Zn}{S:Nat->Bool}{c:Nat}(hc:c < 6):Ev (zsD (zyY (clB (zzO r z S z.Years.length)) 6) (c:Int)) (zzR r z c S=true):=by
 have:=zy1 (clB (zzO r z S z.Years.length)) 6;refine(zAo (by omega)).imp ?_;rw[zy0,Int.toNat_natCast];unfold zzR;exact⟨fun h=>h.2.2,fun h=>⟨by omega,by omega,h⟩⟩
theorem zAu{r:Rl}{z:Zn}{c:Nat}(hn:∃L,Inc z.Years.length 0 L/\zzU r z c L=true):zz4 z.Years.length (fun S=>zzR r z c S=true) (zro z.Years.length (zzU r z c)):=by
 obtain⟨h1,h2,h3⟩:=zw5 hn;exact⟨h1,h2,h3⟩
theorem zAv{r:Rl}{z:Zn}(h:VZ r z){c:Nat}(hc:(c:Int)<=r.Classes - 1):(∃M,ztY r z (c:Int)=some (M,0)/\zz4 z.Years.length (fun S=>zzR r z c S=true) M)\/(ztY r z (c:Int)=some ([],7)/\∀D,Inc z.Years.length 0 D->zzR r z c (inD D)=false):=by
 by_cases hn:∃L,Inc z.Years.length 0 L/\zzU r z c L=true
 ·exact .inl ⟨_,zzY h hc hn,zAu hn⟩
 ·have hf:∀D,Inc z.Years.length 0 D->zzU r z c D=false:=fun D hD=>by
   cases hq:zzU r z c D with
   | false=>rfl
   | true=>exact absurd ⟨D,hD,hq⟩ hn
  exact .inr ⟨zzX h hc hf,hf⟩
theorem zAw{l:List Int}(hl:l.length<=1000):ztZ l=some l:=by
 unfold ztZ;rw[zqs (by rw[List.length_nil]; omega)]; rfl
theorem zAx{r:Rl}(h:r.Price.length<=1000):zt1 r=some r:=by
 unfold zt1;rw[zAw h,obs]
theorem zAy{z:Zn}(h:z.Years.length<=1000):zt3 z=some z:=by
 unfold zt3
 exact(zrD (l:=z.Years) id (F:=fun d acc x=>zt2 z d z.First acc x) (fun acc=>some ({ First:=z.First,Years:=acc }:Zn)) (fun d k acc a hk ha=>by
  have hkl:=(List.getElem?_eq_some_iff.1 hk).1
  show zt2 z (d+1) _ _ _=_
  rw[zt2,if_pos (by omega),zrx hk,obs]
  show gd _ _=_
  rw[zqs (by omega),zqs (fI (by omega))]; rfl) (fun d acc=>by
  show zt2 z (d+1) _ _ _=_
  rw[zt2,if_neg (Int.lt_irrefl _)]) (d:=1000000) (by omega)).trans (by rw[List.map_id])
theorem zAz{t:Tr}(h1:t.Losses.length<=1000)(h2:t.Premiums.length<=1000):zt4 t=some t:=by
 unfold zt4;rw[zAw h1,obs,zAw h2,obs]
theorem zAA{r:Rl}{z:Zn}:Ev (zt5 r z) (r.Price.length<=9/\z.Years.length<=9):=by
 unfold zt5;exact(Ev.ite fun _=>Ev.dec Iff.rfl).imp (by omega)
theorem zAB{r:Rl}{z:Zn}(h1:r.Price.length<=1000)(h2:z.Years.length<=1000):zt6 r z=some (zxd r z):=by
 unfold zt6;rw[zxs h1 h2,obs]
theorem zAC{r:Rl}{z:Zn}:Ev (zub r z) (VZ r z):=by
 unfold zub;refine(zAA.and (K:=VZ r z) fun ht=>?_).imp ⟨fun h=>h.2,fun h=>⟨?_,h⟩⟩
 ·rw[zAB (by omega) (by omega),obs];exact Ev.dec zxe
 ·have h1:=h.full.rl.pl;have h2:=h.c6;have h3:=h.y6
  omega
theorem VZ.pl{r:Rl}{z:Zn}(h:VZ r z):r.Price.length<=6:=by
 have h1:=h.full.rl.pl;have h2:=h.c6
 omega
theorem zAD{r:Rl}{z:Zn}(h:VZ r z):zt1 r=some r:=zAx (by have:=h.pl; omega)
theorem zAE{r:Rl}{z:Zn}(h:VZ r z):zt3 z=some z:=zAy (by have:=h.y6; omega)
def zAF:Rl:={ Classes:=4,Good:=40,Bad:=120,Rest:=1,Fewest:=5,Price:=[10,20,40,80] }
def yrN(a b c d p:Int):Yr:={ Losses:=⟨a,b⟩,Premiums:=⟨c,d⟩,Parcels:=p,Exempt:=false }
def zAG:Zn:={ First:=1,Years:=[yrN 50 50 100 102 9,yrN 130 131 108 109 9,yrN 10 10 100 100 3,yrN 30 30 100 100 9,yrN 39 41 100 100 9] }
theorem zAH:zt8=some zAF:=rfl
theorem zAI:zt9=some zAG:=rfl
theorem zAJ{r:Rl}{z:Zn}(h1:1<=r.Classes/\r.Classes<=6)(h2:(r.Price.length:Int)=r.Classes)(h3:0<=r.Good/\r.Good<=r.Bad/\r.Bad<=300)(h4:0<=r.Rest/\r.Rest<=4)(h5:0<=r.Fewest/\r.Fewest<=100)(h6:∀x∈r.Price,1<=x/\x<=10000)(h7:r.Price.Pairwise (·<=·))(h8:0<=z.First/\z.First<=r.Classes - 1)(h9:∀y∈z.Years,zw8 y)(h10:z.Years.length<=6):VZ r z:=
 ⟨⟨⟨h1.1,h2,h3,h4,h5,h6,fun j hj h0 x y hx hy=>by
  obtain⟨q1,rfl⟩:=List.getElem?_eq_some_iff.1 hx;obtain⟨q2,rfl⟩:=List.getElem?_eq_some_iff.1 hy;have:=List.pairwise_iff_getElem.1 h7 (j - 1) j q2 q1 (by omega)
  omega⟩,h8,h9⟩,h1.2,h10⟩
instance (r:Rg):Decidable (RgP r):=by unfold RgP; infer_instance
instance (y:Yr):Decidable (zw8 y):=by unfold zw8; infer_instance
theorem vEx:VZ zAF zAG:=zAJ (by decide) (by decide) (by decide) (by decide) (by decide) (by decide) (by decide) (by decide) (by decide) (by decide)
theorem zAK:zyY (clB (zy3 zAF zAG 4)) 6=[0,2]:=by decide +kernel
theorem zAL:zzq zAF zAG 5=[0,1,2]:=by decide +kernel
theorem zAM:zzd zAF zAG 0 (mkP (kB zAF (yrN 50 50 100 102 9)))=2:=by decide +kernel
theorem zAN:zzd zAF zAG 3 (mkP (kB zAF (yrN 30 30 100 100 9)))=3:=by decide +kernel
theorem zAO:zyY (zzw zAF zAG) 5=[1,4]:=by decide +kernel
theorem zAP:zzU zAF zAG 3 [0]=true:=by decide +kernel
theorem zAQ:zro 5 (zzU zAF zAG 3)=[0]:=by decide +kernel
theorem zAR:zua=some true:=by
 have e1:ztU zAF zAG 3=some ([0,2],0):=(zy5 vEx (i:=3) (by decide)).trans (by rw[zAK]);have e2:ztU zAF zAG 4=some ([0,1,2],0):=(zy5 vEx (i:=4) (by decide)).trans (by rw[show zyY (clB (zy3 zAF zAG (4+1))) 6=[0,1,2] from zAL]);have e3:ztV zAF zAG 0=some (2,0):=(zzg vEx (i:=0) (y:=yrN 50 50 100 102 9) rfl).trans (by rw[zAM]);have e4:ztV zAF zAG 3=some (3,0):=(zzg vEx (i:=3) (y:=yrN 30 30 100 100 9) rfl).trans (by rw[zAN]);have e5:ztW zAF zAG=some (⟨10,40⟩,0):=(zzv vEx (a:=0) (b:=2) (by rw[show zzq zAF zAG zAG.Years.length=[0,1,2] from zAL]; rfl) (by rw[show zzq zAF zAG zAG.Years.length=[0,1,2] from zAL]; rfl)).trans rfl;have e6:ztX zAF zAG=some ([1,4],0):=(zzA vEx).trans (by rw[show zyY (zzw zAF zAG) zAG.Years.length=[1,4] from zAO]);have e7:ztY zAF zAG 3=some ([0],0):=(zzY vEx (c:=3) (by decide) ⟨[0],⟨by decide,fun v hv=>by rw[List.mem_singleton.1 hv]; decide⟩,zAP⟩).trans (by rw[show zro zAG.Years.length (zzU zAF zAG 3)=[0] from zAQ]);have s1:zsE [0,2] [0,2]=some true:=zAq (by decide);have s2:zsE [0,1,2] [0,1,2]=some true:=zAq (by decide);have s3:zsE [1,4] [1,4]=some true:=zAq (by decide);have s4:zsE [0] [0]=some true:=zAq (by decide);have b1:zt7 10 40=some ⟨10,40⟩:=rfl;unfold zua
 simp only[zAH,zAI,obs,e1,e2,e3,e4,e5,e6,e7,s1,s2,s3,s4,b1,if_true]
 rw[zqs (fI (by decide)),zqs (fI (by decide)),zqs (fI (by decide)),zqs (fI (by decide))]
 simp
theorem aw:(zua.bind fun r=>some r)=some true:=by rw[zAR]; rfl
theorem nl(x:Int):((([]:List Int),x).1.length:Int)=0:=rfl
theorem zAS:∀(n:Nat) (cs:List P4),cs.length=n->(∀p∈cs,(kl p).length=1)->∃l,zyx cs=[l]
 | 0,cs,h,_=>⟨[],by rw[List.eq_nil_of_length_eq_zero h]; rfl⟩
 | n+1,cs,h,hc=>by
  have hg:=List.getElem?_eq_getElem (show n < cs.length by omega)
  have e:cs=cs.take n++[cs[n]]:=by rw[<- zyA hg,List.take_of_length_le (by omega)]
  obtain⟨l,hl⟩:=zAS n (cs.take n) (by rw[List.length_take]; omega) fun p hp=>hc p (List.mem_of_mem_take hp);obtain⟨k,hk⟩:=List.length_eq_one_iff.1 (hc _ (List.getElem_mem (show n < cs.length by omega)));exact⟨l++[k],by rw[e,zyy,hl,hk]; rfl⟩
theorem zAT{r:Rl}{s:Stt}{cs:List P4}(hc:∀p∈cs,(kl p).length=1):∃q,zyE r s cs=[q]:=by
 obtain⟨l,hl⟩:=zAS cs.length cs rfl hc;exact⟨zxQ r s l,by unfold zyE; rw[hl]; rfl⟩
theorem zAU{r:Rl}(hc:r.Classes<=6){q:Stt}(hq:SOk r q):zyY (clB [q]) 6=[q.cls]:=by
 refine zw6 (zzj _ _) (List.pairwise_singleton _ _) fun v=>?_;rw[zzp (r:=r) hc (fun q' h=>by rw[List.mem_singleton.1 h]; exact hq),List.mem_singleton];exact⟨fun⟨q',h1,h2⟩=>by rw[<- h2,List.mem_singleton.1 h1],fun h=>⟨q,List.mem_singleton.2 rfl,h.symm⟩⟩
def zAV(r:Rl)(z:Zn)(n:Nat):Prop:=∀i,i < n->zzw r z i=false
theorem zAW{r:Rl}{z:Zn}(h:VZ r z){n:Nat}(hn:n<=z.Years.length)(hs:zAV r z n):∀p∈(zx5 r z).can.take n,(kl p).length=1:=fun p hp=>by
 obtain⟨i,hi⟩:=List.mem_iff_getElem?.1 hp;have hil:=(List.getElem?_eq_some_iff.1 hi).1;rw[List.length_take,zzt] at hil;have hg:=List.getElem?_eq_getElem (show i < z.Years.length by omega);rw[List.getElem?_take,if_pos (by omega),zze hg] at hi
 injection hi with hi
 subst hi;have hd:=hs i (by omega);unfold zzw at hd;rw[hg] at hd;have hd:=of_decide_eq_false hd;have hne:=zzb (r:=r) (h.full.ys _ (List.getElem_mem (show i < z.Years.length by omega)));have:=List.length_pos_iff.2 hne
 omega
theorem zAX{r:Rl}{z:Zn}(h:VZ r z){i:Nat}(hi:i < z.Years.length)(hs:zAV r z (i+1)):(zyY (clB (zy3 r z (i+1))) 6).length=1:=by
 obtain⟨q,hq⟩:=zAT (r:=r) (s:=st0 r z) (zAW h (n:=i+1) (by omega) hs);have e:zy3 r z (i+1)=[q]:=hq;rw[e,zAU h.c6 (zy4 h q (by rw[e]; exact List.mem_singleton.2 rfl))]; rfl
theorem zAY{r:Rl}{z:Zn}(h:VZ r z){i:Nat}{y:Yr}(hi:z.Years[i]? = some y)(hs:zAV r z (i+1)):¬ zzd r z i (mkP (kB r y))=3:=by
 have hil:=(List.getElem?_eq_some_iff.1 hi).1;obtain⟨q,hq⟩:=zAT (r:=r) (s:=st0 r z) (zAW h (n:=i) (by omega) fun j hj=>hs j (by omega));have e:zy3 r z i=[q]:=hq;have hk:=zAW h (n:=i+1) (by omega) hs (mkP (kB r y)) (by rw[zyA (zze hi)]; simp);obtain⟨k,hk⟩:=List.length_eq_one_iff.1 hk;unfold zzd zza;rw[e];unfold nx mvB syB
 simp only[hk,List.map_cons,List.map_nil,List.any_cons,List.any_nil,Bool.or_false]
 by_cases hc:(step r k q).cls=q.cls
 ·rw[if_pos (by simp[hc]),if_neg (by simp[hc])]; decide
 ·rw[if_neg (by simp[hc])]; decide
theorem zAZ{r:Rl}{z:Zn}(h:VZ r z){f:Nat}(hs:zAV r z f):∀d k:Nat,k<=z.Years.length->z.Years.length - k < d->zue r z (f:Int) d (k:Int)=some true
 | 0,k,_,hd=>by omega
 | d+1,k,hk,hd=>by
  have h6:=h.y6;rw[zue]
  by_cases hkn:k < z.Years.length
  ·rw[if_pos (by omega)]
   by_cases hkf:k < f
   ·have hg:=List.getElem?_eq_getElem hkn;have hs':zAV r z (k+1):=fun j hj=>hs j (by omega);rw[if_pos (by omega),zAD h,obs,zAE h,obs,zy5 h hkn,obs,obs,obs,zzg h hg,obs,if_pos rfl,if_pos rfl,if_pos (by show((zyY (clB (zy3 r z (k+1))) 6).length:Int)=1; rw[zAX h hkn hs']; rfl),if_neg (zAY h hg hs'),zqs (fI (by omega)),show(k:Int)+1=((k+1:Nat):Int) by omega];exact zAZ h hs d (k+1) (by omega) (by omega)
   ·rw[if_neg (by omega)]; exact aw
  ·rw[if_neg (by omega)]; exact aw
theorem zA0{r:Rl}{z:Zn}(h:VZ r z)(hs:zAV r z z.Years.length):∀d k:Nat,k<=z.Years.length->z.Years.length - k < d->zuf r z d (k:Int)=some true
 | 0,k,_,hd=>by omega
 | d+1,k,hk,hd=>by
  have h6:=h.y6;rw[zuf]
  by_cases hkn:k < z.Years.length
  ·have hg:=List.getElem?_eq_getElem hkn;have hs':zAV r z (k+1):=fun j hj=>hs j (by omega);rw[if_pos (by omega),zAD h,obs,zAE h,obs,zy5 h hkn,obs,obs,obs,zzg h hg,obs,if_pos rfl,if_pos rfl,if_pos (by show((zyY (clB (zy3 r z (k+1))) 6).length:Int)=1; rw[zAX h hkn hs']; rfl),if_neg (zAY h hg hs'),zqs (fI (by omega)),show(k:Int)+1=((k+1:Nat):Int) by omega];exact zA0 h hs d (k+1) (by omega) (by omega)
  ·rw[if_neg (by omega)]; exact aw
theorem zA1{r:Rl}{z:Zn}(_:zr4 r)(_:zr7 z):zug r z=some true:=by
 unfold zug
 refine zAC.pick (fun h=>?_) fun _=>by rw[if_neg (by decide)]; exact aw
 have h6:=h.y6;rw[if_pos rfl,zAD h,obs,zAE h,obs,zzA h,obs,if_pos rfl]
 have hsn:∀i,i < z.Years.length->(i:Int) ∉ zyY (zzw r z) z.Years.length->zzw r z i=false:=fun i hi hn=>by
  cases hd:zzw r z i with
  | false=>rfl
  | true=>exact absurd (zy0.2 ⟨by omega,by omega,by simpa using hd⟩) hn
 by_cases hl:0 < (zyY (zzw r z) z.Years.length).length
 ·have hg:=List.getElem?_eq_getElem hl;have hm:=zy0.1 (List.getElem_mem hl)
  have hmin:∀v∈zyY (zzw r z) z.Years.length,(zyY (zzw r z) z.Years.length)[0]<=v:=fun v hv=>by
   obtain⟨i,hi⟩:=List.mem_iff_getElem?.1 hv;exact zzk (zzj _ _) hg hi (Nat.zero_le _)
  rw[if_pos (show(0:Int) < ((zyY (zzw r z) z.Years.length).length:Int) by omega),show idx (zyY (zzw r z) z.Years.length,(0:Int)).1 0=_ from zrz hg,obs];generalize (zyY (zzw r z) z.Years.length)[0]=v at hm hmin;obtain⟨f,rfl⟩:∃f:Nat,v=(f:Int):=⟨v.toNat,by omega⟩;refine zAZ h (fun i hi=>hsn i (by omega) fun hv=>?_) 1000000 0 (Nat.zero_le _) (by omega);have:=hmin _ hv
  omega
 ·rw[if_neg (show ¬ (0:Int) < ((zyY (zzw r z) z.Years.length).length:Int) by omega)];have e:zyY (zzw r z) z.Years.length=[]:=List.eq_nil_of_length_eq_zero (by omega);exact zA0 h (fun i hi=>hsn i hi (by rw[e]; exact fun h=>by cases h)) 1000000 0 (Nat.zero_le _) (by omega)
def zA2(z:Zn)(n:Nat):Zn:={ First:=z.First,Years:=z.Years.take n }
theorem zA3{r:Rl}{z:Zn}(h:VZ r z)(n:Nat):VZ r (zA2 z n):=
 ⟨⟨h.full.rl,h.full.first,fun y hy=>h.full.ys y (List.mem_of_mem_take hy)⟩,h.c6,by have:=h.y6; show(z.Years.take n).length<=6; rw[List.length_take]; omega⟩
theorem zA4{r:Rl}{z:Zn}{m n:Nat}(hm:m<=n):zy3 r (zA2 z n) m=zy3 r z m:=by
 have e:(zx5 r (zA2 z n)).can.take m=(zx5 r z).can.take m:=by
  show((z.Years.take n).map _).take m=(z.Years.map _).take m
  rw[List.map_take,List.take_take,Nat.min_eq_left hm]
 unfold zy3;rw[e]; rfl
theorem zA5{w:Int}(hw:zl6 .u8 w):∃n:Nat,w=(n:Int)/\n < 256/\zmb .i64 w=(n:Int):=by
 have:=fU8 hw;exact⟨w.toNat,by omega,by omega,(wz (fI (by omega))).trans (by omega)⟩
theorem zA6{r:Rl}{z:Zn}{which:Int}(_:zr4 r)(_:zr7 z)(hw:zl6 .u8 which):zun r z which=some true:=by
 unfold zun
 refine zAC.pick (fun h=>?_) fun _=>by rw[if_neg (by decide)]; exact aw
 have h6:=h.y6;rw[if_pos rfl]
 by_cases h0:z.Years.length=0
 ·rw[if_pos (by omega)]; exact aw
 obtain⟨n,rfl,hn,e⟩:=zA5 hw;rw[if_neg (by omega),e]
 have em:(n:Int) % (z.Years.length:Int)=((n % z.Years.length:Nat):Int):=by omega
 have hk:n % z.Years.length < z.Years.length:=Nat.mod_lt _ (by omega);rw[em];generalize n % z.Years.length=k at hk;have hv:=zA3 h (k+1);have hg:=List.getElem?_eq_getElem hk
 have hgc:(zA2 z (k+1)).Years[k]? = some z.Years[k]:=by
  show(z.Years.take (k+1))[k]? = _
  rw[List.getElem?_take,if_pos (by omega)]; exact hg
 have ec:({ First:=z.First,Years:=((z.Years.take (Int.toNat ((k:Int)+1))).drop (Int.toNat 0)) }:Zn)=zA2 z (k+1):=by
  rw[show Int.toNat ((k:Int)+1)=k+1 by omega]; rfl
 rw[zqs (by omega),zqs (by omega),zqs (fI (by omega)),zqs (fI (by omega)),zqs (by omega),ec,zAD h,obs,zAE h,obs,zy5 h hk,obs,obs,zAE hv,obs,zy5 hv (List.getElem?_eq_some_iff.1 hgc).1,obs,obs,obs,zzg h hg,obs,obs,obs,zzg hv hgc,obs,if_pos rfl,if_pos rfl,if_pos rfl,if_pos rfl,zA4 (Nat.le_refl _),zAq (show(zyY (clB (zy3 r z (k+1))) 6).length<=1000 from Nat.le_trans (zy1 _ _) (by omega)),obs,if_pos rfl]
 have e3:zzd r (zA2 z (k+1)) k (mkP (kB r z.Years[k]))=zzd r z k (mkP (kB r z.Years[k])):=by
  unfold zzd;rw[zA4 (Nat.le_succ k)]
 rw[e3,if_pos rfl]; exact aw
theorem zA7{w:Int}{r:Rg}(hw:0<=w)(h:r.Lo<=r.Hi):(0<=w % (r.Hi - r.Lo+1)/\w % (r.Hi - r.Lo+1) < r.Hi - r.Lo+1):=⟨Int.emod_nonneg _ (by omega),Int.emod_lt_of_pos _ (by omega)⟩
theorem zA8{r:Rl}{z:Zn}(h:VZ r z){words:List W8}(hw:words.length<=maxLen/\∀a∈words,zr9 a):∀(d k:Nat) (a b:List Int),k<=z.Years.length->z.Years.length - k < d->a.length=k->b.length=k->(∀j,zx9 z ⟨a,b⟩ j) ->
  ∃t,zuc z words d a b (k:Int)=some t/\zya z t
 | 0,k,_,_,_,hd,_,_,_=>by omega
 | d+1,k,a,b,hk,hd,ha,hb,hab=>by
  have h6:=h.y6
  by_cases hkn:k < z.Years.length
  ·have hg:=List.getElem?_eq_getElem hkn;have hy:=h.full.ys _ (List.getElem_mem hkn);obtain⟨q1,q2,_⟩:=hy;unfold RgP at q1 q2
   have hnext:∀u v:Int,0<=u->0<=v->∃t,zuc z words d (a++[(z.Years[k]).Losses.Lo+u % ((z.Years[k]).Losses.Hi - (z.Years[k]).Losses.Lo+1)]) (b++[(z.Years[k]).Premiums.Lo+v % ((z.Years[k]).Premiums.Hi - (z.Years[k]).Premiums.Lo+1)]) ((k:Int)+1)=some t/\zya z t:=fun u v hu hv=>by
    have m1:=zA7 hu q1.2.1;have m2:=zA7 hv q2.2.1;rw[show(k:Int)+1=((k+1:Nat):Int) by omega];refine zA8 h hw d (k+1) _ _ (by omega) (by omega) (by rw[List.length_append,ha]; rfl) (by rw[List.length_append,hb]; rfl) fun j y x p hy hx hp=>?_
    rcases Nat.lt_or_ge j k with hj | hj
    ·have hx:(a++_)[j]? = some x:=hx;have hp:(b++_)[j]? = some p:=hp;rw[List.getElem?_append_left (by omega)] at hx hp;exact hab j y x p hy hx hp
    ·have hj2:=(List.getElem?_eq_some_iff.1 hx).1;have hj2:j < (a++[_]).length:=hj2;rw[List.length_append,ha] at hj2
     have e:j=k:=by simp only[List.length_cons,List.length_nil] at hj2; omega
     subst e;have hx:(a++_)[j]? = some x:=hx;have hp:(b++_)[j]? = some p:=hp;rw[List.getElem?_append_right (by omega),ha,Nat.sub_self] at hx;rw[List.getElem?_append_right (by omega),hb,Nat.sub_self] at hp
     cases hx; cases hp
     rw[hg] at hy; cases hy
     omega
   have ga:a.length < 1048576:=by omega
   have gb:b.length < 1048576:=by omega
   rw[zuc,if_pos (by omega)]
   by_cases h0:0 < words.length
   ·have hm:words.length<=1048576\/True:=.inr trivial;have e1:=Int.emod_nonneg (2 * (k:Int)) (show(words.length:Int) ≠ 0 by omega);have e2:=Int.emod_lt_of_pos (2 * (k:Int)) (show(0:Int) < (words.length:Int) by omega);have e3:=Int.emod_nonneg (2 * (k:Int)+1) (show(words.length:Int) ≠ 0 by omega);have e4:=Int.emod_lt_of_pos (2 * (k:Int)+1) (show(0:Int) < (words.length:Int) by omega);have hlw:words.length<=maxLen:=hw.1;unfold maxLen at hlw;obtain⟨u,hu⟩:∃u,idx words (2 * (k:Int) % (words.length:Int))=some u:=⟨_,zry (k:=(2 * (k:Int) % (words.length:Int)).toNat) (by omega) (by omega)⟩;obtain⟨v,hv⟩:∃v,idx words ((2 * (k:Int)+1) % (words.length:Int))=some v:=⟨_,zry (k:=((2 * (k:Int)+1) % (words.length:Int)).toNat) (by omega) (by omega)⟩
    have ou:∀w i,idx words i=some w->0<=w.v/\w.v < 256:=fun w i hi=>by
     obtain⟨n,_,_,hn⟩:=zqk hi;exact fU8 (hw.2 w (List.mem_of_getElem? hn))
    have u1:=ou u _ hu;have v1:=ou v _ hv;have wu1:zmb .i64 u.v=u.v:=wz (fI (by omega));have wv1:zmb .i64 v.v=v.v:=wz (fI (by omega));have m1:=zA7 (w:=u.v) u1.1 q1.2.1;have m2:=zA7 (w:=v.v) v1.1 q2.2.1
    rw[if_pos (by omega),zqs (by omega),zqs (by omega),zqs (fI (by omega)),zqs (by omega),zqs (by omega),zqs (fI (by omega)),hu,obs,zqs (by omega),zqs (by omega),zqs (fI (by omega)),zqs (fI (by omega)),zqs (by omega),zqs (by omega),zqs (fI (by omega)),hv,obs,zrx hg,obs,wu1,wv1,
     zqs (fI (by omega)),zqs (fI (by omega)),zqs u1.1,zqs (by omega),zqs (fI (by omega)),zqs (fI (by omega)),zqs ga,zqs (fI (by omega)),zqs (fI (by omega)),zqs v1.1,zqs (by omega),zqs (fI (by omega)),zqs (fI (by omega)),zqs gb,zqs (fI (by omega))]
    exact hnext u.v v.v u1.1 v1.1
   ·have m1:=zA7 (w:=0) (Int.le_refl 0) q1.2.1;have m2:=zA7 (w:=0) (Int.le_refl 0) q2.2.1;rw[if_neg (by omega),zrx hg,obs,zqs (fI (by omega)),zqs (fI (by omega)),zqs (by omega),zqs (by omega),zqs (fI (by omega)),zqs (fI (by omega)),zqs ga,zqs (fI (by omega)),zqs (fI (by omega)),zqs (by omega),zqs (by omega),zqs (fI (by omega)),zqs (fI (by omega)),zqs gb,zqs (fI (by omega))];exact hnext 0 0 (Int.le_refl 0) (Int.le_refl 0)
  ·rw[zuc,if_neg (by omega)];exact⟨_,rfl,by show a.length=_; omega,by show b.length=_; omega,hab⟩
theorem zA9{r:Rl}{z:Zn}(h:VZ r z){words:List W8}(hw:words.length<=maxLen/\∀a∈words,zr9 a):∃t,zud z words=some t/\zya z t:=by
 have h6:=h.y6
 exact zA8 h hw 1000000 0 [] [] (Nat.zero_le _) (by omega) rfl rfl fun j y x p _ hx=>by simp at hx
theorem zBa{r:Rl}{z:Zn}(h:VZ r z){t:Tr}(ht:zya z t):zt4 t=some t:=by
 have h6:=h.y6;have:=ht.l;have:=ht.p;exact zAz (by omega) (by omega)
theorem zBb{r:Rl}{z:Zn}(h:VZ r z){t:Tr}(ht:zya z t):Fit (ktN r z t) (zx5 r z).can:=by
 refine⟨by rw[zyh ht,zzt],fun i k p hi hp=>?_⟩;have hil:=(List.getElem?_eq_some_iff.1 hi).1;rw[zyh ht] at hil;obtain⟨y,a,b,hy,ha,hb,hr,_⟩:=zyg h ht hil;rw[zyi hy ha hb] at hi;rw[zze hy] at hp
 cases hi; cases hp
 have hk:=zxw r y a b;exact zyu.2 ⟨hk,zxH.2 ⟨a,b,hr.1,hr.2,by omega⟩⟩
theorem zBc{r:Rl}{z:Zn}(h:VZ r z){t:Tr}(ht:zya z t)(m:Nat):zxQ r (st0 r z) ((ktN r z t).take m)∈zy3 r z m:=zyF.2 ⟨_,zAg (zBb h ht) m,rfl⟩
def zBd(r:Rl)(z:Zn)(t:Tr)(k:Nat):Int:=(zxQ r (st0 r z) ((ktN r z t).take k)).cls
theorem zBe{r:Rl}{z:Zn}(h:VZ r z){t:Tr}(ht:zya z t)(m:Nat):zBd r z t m∈zzq r z m:=(zzr h).2 ⟨_,zBc h ht m,rfl⟩
theorem zBf{r:Rl}{z:Zn}{t:Tr}(ht:zya z t){k:Nat}(hk:k < z.Years.length):(zye r z t)[k]? = some (zBd r z t (k+1)):=zxX r (ktN r z t) (st0 r z) k (by rw[zyh ht]; exact hk)
theorem zBg{r:Rl}{z:Zn}(h:VZ r z){t:Tr}{k:Nat}{x:Int}(hx:(ktN r z t)[k]? = some x):∃s,SOk r s/\s.cls=zBd r z t k/\(step r x s).cls=zBd r z t (k+1)/\s=zxQ r (st0 r z) ((ktN r z t).take k):=
 ⟨_,zxS h.full.rl _ h.st0,rfl,by unfold zBd; rw[zyk hx],rfl⟩
theorem zBh{r:Rl}{z:Zn}(h:VZ r z){t:Tr}(ht:zya z t)(k:Nat):0<=zBd r z t k/\zBd r z t k<=r.Classes - 1:=zzs h (zBe h ht k)
def zBi(r:Rl)(n:Int):Rl:={ Classes:=r.Classes,Good:=r.Good,Bad:=r.Bad,Rest:=n,Fewest:=r.Fewest,Price:=r.Price }
theorem zBj{r:Rl}{z:Zn}(h:VZ r z){n:Int}(hn:0<=n/\n<=4):VZ (zBi r n) z:=
 ⟨⟨⟨h.full.rl.c0,h.full.rl.pl,h.full.rl.gb,hn,h.full.rl.few,h.full.rl.pr,h.full.rl.so⟩,h.full.first,h.full.ys⟩,h.c6,h.y6⟩
theorem zBk{r:Rl}{z:Zn}{t:Tr}{n:Int}:ktN (zBi r n) z t=ktN r z t:=by
 unfold ktN;generalize z.Years=ys;generalize t.Losses=us;generalize t.Premiums=vs
 induction ys generalizing us vs with
 | nil=>rfl
 | cons y ys ih=>
  cases us with
  | nil=>rfl
  | cons u us=>
   cases vs with
   | nil=>rfl
   | cons v vs=>exact congrArg (kN r y u v :: ·) (ih us vs)
theorem zBl{r:Rl}(h:zxa r){m n:Int}(hm:0<=m/\m<=4)(hmn:m<=n){s s':Stt}(hs:SOk (zBi r n) s)(hs':SOk (zBi r m) s')(h1:s'.cls<=s.cls)(h2:s'.since=min s.since m)(x:Int):(step (zBi r m) x s').cls<=(step (zBi r n) x s).cls/\(step (zBi r m) x s').since=min (step (zBi r n) x s).since m:=by
 obtain⟨a1,a2⟩:=hs;obtain⟨b1,b2⟩:=hs';have a1:0<=s.cls/\s.cls<=r.Classes - 1:=a1;have a2:0<=s.since/\s.since<=n:=a2;have b1:0<=s'.cls/\s'.cls<=r.Classes - 1:=b1;have b2:0<=s'.since/\s'.since<=m:=b2;unfold step
 by_cases x2:x=2
 ·rw[if_pos x2,if_pos x2]
  show min (s'.cls+1) (r.Classes - 1)<=min (s.cls+1) (r.Classes - 1)/\(0:Int)=min 0 m
  omega
 rw[if_neg x2,if_neg x2]
 by_cases x1:x=1
 ·rw[if_pos x1,if_pos x1]
  show(if s'.since=m then max 0 (s'.cls - 1) else s'.cls)<=(if s.since=n then max 0 (s.cls - 1) else s.cls)/\min (s'.since+1) m=min (min (s.since+1) n) m
  refine⟨?_,by omega⟩
  by_cases c1:s.since=n
  ·rw[if_pos c1,if_pos (by omega)]; omega
  ·rw[if_neg c1]; split <;> omega
 rw[if_neg x1,if_neg x1]
 by_cases x3:x=3
 ·rw[if_pos x3,if_pos x3]
  show s'.cls<=s.cls/\min (s'.since+1) m=min (min (s.since+1) n) m
  exact⟨h1,by omega⟩
 rw[if_neg x3,if_neg x3];exact⟨h1,h2⟩
theorem zBm{r:Rl}(h:zxa r){m n:Int}(hm:0<=m/\m<=4)(hn:n<=4)(hmn:m<=n):∀(ks:List Int) {s s':Stt},SOk (zBi r n) s->SOk (zBi r m) s'->s'.cls<=s.cls->s'.since=min s.since m->(zxQ (zBi r m) s' ks).cls<=(zxQ (zBi r n) s ks).cls
 | [],_,_,_,_,h1,_=>h1
 | k::ks,s,s',hs,hs',h1,h2=>by
  have hr:∀q:Int,0<=q/\q<=4->zxa (zBi r q):=fun q hq=>⟨h.c0,h.pl,h.gb,hq,h.few,h.pr,h.so⟩;obtain⟨h3,h4⟩:=zBl h hm hmn hs hs' h1 h2 k;exact zBm h hm hn hmn ks (zxP (hr n (by omega)) k hs) (zxP (hr m hm) k hs') h3 h4
theorem zBn{r:Rl}{z:Zn}(h:VZ r z){t:Tr}{m n:Int}(hm:0<=m/\m<=4)(hn:n<=4)(hmn:m<=n)(k:Nat):zBd (zBi r m) z t k<=zBd (zBi r n) z t k:=by
 have hf:=h.full.first;unfold zBd;rw[zBk,zBk];exact zBm h.full.rl hm hn hmn _ (zBj h (by omega)).st0 (zBj h hm).st0 (Int.le_refl _) (show m=min n m by omega)
theorem zBo(r:Rl):zBi r r.Rest=r:=rfl
theorem zBp{r:Rl}{z:Zn}(h:VZ r z){t:Tr}(ht:zya z t){m:Int}(hm:0<=m/\m<=r.Rest):∀(d k:Nat),k<=z.Years.length->z.Years.length - k < d ->
  zul r z t (zye r z t,0) (zye (zBi r m) z t,0) (zye (zBi r 0) z t,0) d (zBd (zBi r 0) z t k) (k:Int)=some true
 | 0,k,_,hd=>by omega
 | d+1,k,hk,hd=>by
  have h6:=h.y6;have hr:=h.full.rl.rest;have hpl:=zyn (r:=r) ht;rw[zul]
  by_cases hkn:k < z.Years.length
  ·rw[if_pos (show(k:Int) < ((zye r z t).length:Int) by omega)];obtain⟨y,u,v,hy,hu,hv,_,hu2,hv2⟩:=zyg h ht hkn
   have hx:(ktN (zBi r 0) z t)[k]? = some (kN r y u v):=by rw[zBk]; exact zyi hy hu hv
   have i1:idx (zye r z t) (k:Int)=_:=zrx (zBf ht hkn);have i2:idx (zye (zBi r m) z t) (k:Int)=_:=zrx (zBf ht hkn);have i3:idx (zye (zBi r 0) z t) (k:Int)=_:=zrx (zBf ht hkn);have e1:=zBn h (t:=t) (m:=m) (n:=r.Rest) (by omega) (by omega) hm.2 (k+1);rw[zBo] at e1;have e2:=zBn h (t:=t) (m:=0) (n:=m) (by omega) (by omega) hm.1 (k+1);have hb:=zBh (zBj h (n:=0) (by omega)) ht k;have hb:0<=zBd (zBi r 0) z t k/\zBd (zBi r 0) z t k<=r.Classes - 1:=hb;have hc6:=h.c6;have ih:=zBp h ht hm d (k+1) (by omega) (by omega);rw[show((k+1:Nat):Int)=(k:Int)+1 by omega] at ih
   show(idx (zye (zBi r m) z t) (k:Int)).bind _=_
   rw[i2,obs]
   show(idx (zye r z t) (k:Int)).bind _=_
   rw[i1,obs,if_neg (by omega)]
   show(idx (zye (zBi r 0) z t) (k:Int)).bind _=_
   rw[i3,obs,obs,if_neg (by omega),zrx hy,obs,zrx hu,obs,zrx hv,obs,zxA h.full.rl hu2 hv2,obs]
   by_cases hk1:kN r y u v=1
   ·rw[if_pos hk1,obs,zqs (fI (by omega))];obtain⟨s,hs,q1,q2,_⟩:=zBg (zBj h (n:=0) (by omega)) hx;have q3:=zyr hs (kN r y u v);have hs2:0<=s.since/\s.since<=0:=hs.2;rw[hk1,if_neg (by decide),if_pos rfl,if_pos (show s.since=(zBi r 0).Rest by show s.since=0; omega),q1] at q3;rw[hk1,q3] at q2;rw[if_pos q2.symm,obs,zqs (fI (by omega))];exact ih
   ·rw[if_neg hk1,obs,zqs (fI (by omega))];exact ih
  ·rw[if_neg (show ¬ (k:Int) < ((zye r z t).length:Int) by omega)]; exact aw
theorem zBq{r:Rl}{z:Zn}{words:List W8}{by_:Int}(_:zr4 r)(_:zr7 z)(hw:words.length<=maxLen/\∀a∈words,zr9 a)(hb:zl6 .u8 by_):zum r z words by_=some true:=by
 unfold zum
 refine zAC.pick (fun h=>?_) fun _=>by rw[if_neg (by decide)]; exact aw
 have h6:=h.y6;have hr:=h.full.rl.rest;obtain⟨n,rfl,hn,e⟩:=zA5 hb;obtain⟨t,et,ht⟩:=zA9 h hw;have hpl:=zyn (r:=r) ht;rw[if_pos rfl,e,zqs (by omega),zqs (by omega),zqs (fI (by omega)),zqs (fI (by omega)),et,obs];obtain⟨m,hm,em⟩:∃m:Int,(0<=m/\m<=r.Rest)/\max 0 (r.Rest - (n:Int) % 3)=m:=⟨_,by omega,rfl⟩;rw[em];have hv:=zBj h (n:=m) (by omega);have hv0:=zBj h (n:=0) (by omega);have hpm:(zye (zBi r m) z t).length=z.Years.length:=zyn ht;have hp0:(zye (zBi r 0) z t).length=z.Years.length:=zyn ht;rw[zAD h,obs,zAE h,obs,zBa h ht,obs,zym h ht,obs]
 show(zt1 (zBi r m)).bind _=_
 rw[zAD hv,obs,obs,obs,zym hv ht,obs]
 show(zt1 (zBi r 0)).bind _=_
 rw[zAD hv0,obs,obs,obs,zym hv0 ht,obs,if_pos rfl,if_pos rfl,if_pos rfl,if_pos (show((zye r z t).length:Int)=(z.Years.length:Int) by omega),if_pos (show((zye (zBi r m) z t).length:Int)=((zye r z t).length:Int) by omega),if_pos (show((zye (zBi r 0) z t).length:Int)=((zye r z t).length:Int) by omega)];exact zBp h ht hm ((zye r z t).length+1) 0 (Nat.zero_le _) (by omega)
theorem u8n{w:Int}(hw:zl6 .u8 w):∃n:Nat,w=(n:Int)/\n < 256/\zmb .i64 w=(n:Int):=by
 have:=fU8 hw;exact⟨w.toNat,by omega,by omega,(wz (fI (by omega))).trans (by omega)⟩
def zBr(r:Rl)(z:Zn)(n:Nat):Nat:=((z.Years.take n).filter (zxt r)).length
theorem zBs{r:Rl}{z:Zn}{k:Nat}{y:Yr}(h:z.Years[k]? = some y):zBr r z (k+1)=zBr r z k+if zxt r y=true then 1 else 0:=by
 unfold zBr;rw[zyA h,List.filter_append,List.length_append]
 congr 1
 cases hc:zxt r y with
 | true=>rw[List.filter_cons_of_pos hc]; rfl
 | false=>rw[List.filter_cons_of_neg (by rw[hc]; decide)]; rfl
theorem zBt{r:Rl}{z:Zn}{n:Nat}:zBr r z n<=n:=Nat.le_trans (List.length_filter_le _ _) (by rw[List.length_take]; omega)
theorem zBu{r:Rl}{y:Yr}(hc:zxt r y=false){k:Int}(hk:k∈kl (mkP (kB r y))):k=0:=by
 obtain⟨h1,h2⟩:=zyu.1 hk;obtain⟨l,p,_,_,h3⟩:=zxH.1 h2;rw[zxx.2 hc] at h3
 omega
theorem zBv{r:Rl}(h:zxa r){s:Stt}(hs:SOk r s)(x:Int):(step r x s).cls<=s.cls+1/\s.cls - 1<=(step r x s).cls:=by
 have hb:=hs.1;rw[zyr hs]
 split
 ·omega
 ·split
  ·split <;> omega
  ·omega
theorem zBw{r:Rl}{z:Zn}(h:VZ r z){S:Nat->Bool}:∀m,m<=z.Years.length->∀q∈zzO r z S m,q.cls<=z.First+zBr r z m/\z.First - zBr r z m<=q.cls
 | 0,_,q,hq=>by
  have:q=st0 r z:=List.mem_singleton.1 hq;rw[this]
  show z.First<=z.First+((0:Nat):Int)/\z.First - ((0:Nat):Int)<=z.First
  omega
 | m+1,hm,q,hq=>by
  have hg:=List.getElem?_eq_getElem (show m < z.Years.length by omega);have hc:=zzD (r:=r) (S:=S) hg;unfold zzO at hq;rw[zyA hc,zyG] at hq;obtain⟨q',h1,h2⟩:=hq;have ih:=zBw h m (by omega) q' h1;obtain⟨k,h3,rfl⟩:=List.mem_map.1 h2;have hs:=zzP h q' h1;rw[zBs hg]
  cases hcn:zxt r z.Years[m] with
  | true=>
   have:=zBv h.full.rl hs k;rw[if_pos rfl]
   omega
  | false=>
   rw[hcn,Bool.and_false,if_neg (by decide)] at h3;rw[zBu hcn h3,if_neg (by decide)]
   show q'.cls<=_/\_<=q'.cls
   omega
theorem zBx{r:Rl}{z:Zn}(h:VZ r z){c:Nat}(hf:(zBr r z z.Years.length:Int) < (c:Int) - z.First\/(zBr r z z.Years.length:Int) < z.First - (c:Int))(S:Nat->Bool):zzR r z c S=false:=by
 cases hq:zzR r z c S with
 | false=>rfl
 | true=>
  obtain⟨q,h1,h2⟩:=zyV.1 (show clB (zzO r z S z.Years.length) c=true from hq);have:=zBw h z.Years.length (Nat.le_refl _) q h1
  omega
theorem zBy{M:List Int}{k:Nat}{v:Int}(hv:M[k]? = some v)(hv0:0<=v){b:Nat}(hb:∀j,b.testBit j=inD (M.take k) j)(j:Nat):(Nat.lor b (2 ^ v.toNat)).testBit j=inD (M.take (k+1)) j:=by
 show(b ||| 2 ^ v.toNat).testBit j=_
 rw[zzK hv,Nat.testBit_or,hb,Nat.testBit_two_pow]
 congr 1
 exact decide_eq_decide.2 (by omega)
theorem zBz:∀b,b < 32->∀v,v < 5->b.testBit v=true->∀j,j < 5->(b - 2 ^ v).testBit j=(b.testBit j && decide (j ≠ v)):=by decide
theorem zBA{b v:Nat}(h:b.testBit v=true):2 ^ v<=b:=Nat.ge_two_pow_of_testBit h
theorem zBB{v:Int}(hv:0<=v/\v < 6):(1:Int) * 2 ^ (Int.toNat (zmb .u64 v))=((2 ^ v.toNat:Nat):Int)/\zmb .u64 v=v:=by
 have e:zmb .u64 v=v:=wz (show(0:Int)<=v/\v < 18446744073709551616 by omega);rw[e,Int.one_mul,Int.natCast_pow];exact⟨rfl,rfl⟩
theorem zBC{r:Rl}{z:Zn}(h:VZ r z)(h5:z.Years.length<=5){w:Int}{c:Nat}(hc:c < 6)(hw:zmb .i64 w % r.Classes=(c:Int)){M:List Int}(hM:zz4 z.Years.length (fun S=>zzR r z c S=true) M){b:Nat}(hb32:b < 32)(hb:∀j,b.testBit j=inD M j){e:Int}:∀(d i:Nat),i<=M.length->M.length - i < d->zuh r z w (M,e) (b:Int) d (i:Int)=some true
 | 0,i,_,hd=>by omega
 | d+1,i,hi,hd=>by
  have hl:=zwU hM.inc;rw[zuh,hw]
  by_cases hil:i < M.length
  ·have hg:=List.getElem?_eq_getElem hil;have hv:=hM.inc.2 _ (List.getElem_mem hil);have hvm:=List.getElem_mem hil;generalize M[i]=v at hg hv hvm;obtain⟨e1,e2⟩:=zBB (v:=v) (by omega);have hp:2 ^ v.toNat<=2 ^ 5:=Nat.pow_le_pow_right (by decide) (by omega)
   have hbit:b.testBit v.toNat=true:=by
    rw[hb]; exact decide_eq_true (by rwa [show((v.toNat:Nat):Int)=v by omega])
   have hle:=zBA hbit
   have es:(b:Int) - ((2 ^ v.toNat:Nat):Int)=((b - 2 ^ v.toNat:Nat):Int):=by omega
   have hre:=zAn h (b:=b - 2 ^ v.toNat) (Nat.lt_of_le_of_lt (Nat.sub_le _ _) (by omega)) (Nat.le_refl z.Years.length)
   have hno:¬ zzR r z c (fun j=>(b - 2 ^ v.toNat).testBit j)=true:=fun hcan=>by
    have hsub:zzR r z c (fun j=>(b - 2 ^ v.toNat).testBit j)=zzR r z c (inD (M.filter (· != v))):=zzS fun j hj=>by
     rw[zBz b hb32 v.toNat (by omega) hbit j (by omega),hb];unfold inD;rw[Bool.eq_iff_iff,Bool.and_eq_true,decide_eq_true_eq,decide_eq_true_eq,decide_eq_true_eq,List.mem_filter,bne_iff_ne]
     exact and_congr_right fun _=>by omega
    rw[hsub] at hcan;have hinc:Inc z.Years.length 0 (M.filter (· != v)):=⟨hM.inc.1.filter _,fun x hx=>hM.inc.2 x (List.mem_filter.1 hx).1⟩;have hlen:(M.filter (· != v)).length < M.length:=List.length_filter_lt_length_iff_exists.2 ⟨v,hvm,by simp⟩
    rcases hM.min _ hinc hcan with h1 | h1
    ·rw[h1] at hlen; omega
    ·have:shB (M.filter (· != v)) M=true:=by unfold shB; rw[decide_eq_true hlen]; rfl
     rw[zwZ h1] at this; cases this
   rw[if_pos (show(i:Int) < (M.length:Int) by omega),zqs (fI (by omega))]
   show(idx M (i:Int)).bind _=_
   rw[zrx hg,obs,e1,e2];generalize 2 ^ v.toNat=P at hp hle es hre hno;rw[zqs (by omega),zqs (by omega),zqs (by omega),zqs (fI (by omega)),es,zqs (fI (by omega)),hre,obs,(zAt hc).some_not hno,obs,if_neg (by decide),zqs (fI (by omega)),show(i:Int)+1=((i+1:Nat):Int) by omega];exact zBC h h5 hc hw hM hb32 hb d (i+1) (by omega) (by omega)
  ·rw[if_neg (show ¬ (i:Int) < (M.length:Int) by omega)]; exact aw
theorem zBD{a b:Nat}(ha:a < 32)(hb:b < 32):Nat.lor a b < 32:=Nat.or_lt_two_pow (n:=5) ha hb
theorem zBE{r:Rl}{z:Zn}(h:VZ r z)(h5:z.Years.length<=5){w:Int}{c:Nat}(hc:c < 6)(hw:zmb .i64 w % r.Classes=(c:Int)){M:List Int}(hM:zz4 z.Years.length (fun S=>zzR r z c S=true) M){e:Int}:∀(d i b:Nat),i<=M.length->M.length - i < d->b < 32->(∀j,b.testBit j=inD (M.take i) j)->zui r z w (M,e) d false (b:Int) (i:Int)=some true
 | 0,i,_,_,hd,_,_=>by omega
 | d+1,i,b,hi,hd,hb32,hb=>by
  have hl:=zwU hM.inc;rw[zui,hw]
  by_cases hil:i < M.length
  ·have hg:=List.getElem?_eq_getElem hil;have hv:=hM.inc.2 _ (List.getElem_mem hil);generalize hMv:M[i]=v at hg hv;obtain⟨e1,e2⟩:=zBB (v:=v) (by omega);have hp:2 ^ v.toNat < 2 ^ 5:=Nat.pow_lt_pow_right (by decide) (by omega);have hlor:=zBD hb32 hp;have ih:=zBE h h5 hc hw hM (e:=e) d (i+1) (Nat.lor b (2 ^ v.toNat)) (by omega) (by omega) hlor (zBy hg (by omega) hb);rw[show((i+1:Nat):Int)=(i:Int)+1 by omega] at ih
   have hin:(0:Int)<=v/\v<=(z.Years.length:Int) - 1:=by omega
   generalize 2 ^ v.toNat=P at hp hlor ih e1
   have fin:(gd ((0:Int)<=1) (gd ((0:Int)<=v) (gd (v<=64) (gd (zl6 .i64 ((P:Nat):Int)) (gd ((0:Int)<=(b:Int)) (gd ((0:Int)<=((P:Nat):Int)) (gd (zl6 .i64 (b:Int)) (gd (zl6 .i64 ((P:Nat):Int)) (gd (zl6 .i64 ((Nat.lor (Int.toNat (b:Int)) (Int.toNat ((P:Nat):Int)):Nat):Int)) (gd (zl6 .i64 ((i:Int)+1)) (zui r z w (M,e) d false ((Nat.lor (Int.toNat (b:Int)) (Int.toNat ((P:Nat):Int)):Nat):Int) ((i:Int)+1))))))))))))=some true:=by
    rw[zqs (by omega),zqs (by omega),zqs (by omega),zqs (fI (by omega)),zqs (by omega),zqs (by omega),zqs (fI (by omega)),zqs (fI (by omega)),Int.toNat_natCast,Int.toNat_natCast,zqs (fI (by omega)),zqs (fI (by omega))];exact ih
   have hgi:idx M (i:Int)=some v:=zrx hg;rw[if_pos (show(i:Int) < (M.length:Int) by omega)]
   show(idx M (i:Int)).bind _=_
   rw[hgi,obs,zqs (fI (by omega)),zxq.some_of hin,obs,if_pos rfl]
   by_cases h0:0 < i
   ·have hg0:=List.getElem?_eq_getElem (show i - 1 < M.length by omega)
    have hlt:M[i - 1] < v:=by rw[<- hMv]; exact List.pairwise_iff_getElem.1 hM.inc.1 (i - 1) i (by omega) hil (by omega)
    rw[if_pos (by omega),obs,zqs (fI (by omega)),show(i:Int) - 1=((i - 1:Nat):Int) by omega]
    show(idx M ((i - 1:Nat):Int)).bind _=_
    rw[zrx hg0,obs,if_neg (by omega),obs,e1,e2];exact fin
   ·rw[if_neg (by omega),obs,e1,e2];exact fin
  ·have hi':i=M.length:=by omega
   subst hi';rw[List.take_length] at hb;have hre:=zAn h (b:=b) (by omega) (Nat.le_refl z.Years.length)
   have hcan:zzR r z c (fun j=>b.testBit j)=true:=by
    rw[zzS (S':=inD M) fun j _=>hb j]; exact hM.ok
   rw[if_neg (show ¬ (M.length:Int) < (M.length:Int) by omega),zqs (fI (by omega)),hre,obs,(zAt hc).some_of hcan,obs,if_pos rfl];exact zBC h h5 hc hw hM hb32 hb (M.length+1) 0 (Nat.zero_le _) (by omega)
theorem zBF{r:Rl}{z:Zn}(h:VZ r z)(h5:z.Years.length<=5){w:Int}{c:Nat}(hc:(c:Int)<=r.Classes - 1)(hw:zmb .i64 w % r.Classes=(c:Int)){res:List Int × Int}(hres:ztY r z (c:Int)=some res):∀(d k:Nat),k<=z.Years.length->z.Years.length - k < d->zuj r z w res d (zBr r z k:Int) (k:Int)=some true
 | 0,k,_,hd=>by omega
 | d+1,k,hk,hd=>by
  have hc6:=h.c6;have hf:=h.full.first;have hcl:=zBt (r:=r) (z:=z) (n:=k);rw[zuj,hw]
  by_cases hkn:k < z.Years.length
  ·have hg:=List.getElem?_eq_getElem hkn;have ih:=zBF h h5 hc hw hres d (k+1) (by omega) (by omega);rw[zBs hg] at ih;rw[if_pos (by omega),zrx hg,obs,zxv,obs]
   cases hcn:zxt r z.Years[k] with
   | true=>
    rw[hcn,if_pos rfl] at ih;rw[if_pos rfl,zqs (fI (by omega)),zqs (fI (by omega))]; exact ih
   | false=>
    rw[hcn,if_neg (by decide)] at ih;rw[if_neg (by decide),zqs (fI (by omega))]; exact ih
  ·have hkn:k=z.Years.length:=by omega
   subst hkn
   have hnone:(∀D,Inc z.Years.length 0 D->zzR r z c (inD D)=false)->res=([],7):=fun hn=>by
    rcases zAv h hc with ⟨M,q1,q2⟩ | ⟨q1,_⟩
    ·have:=hn M q2.inc;have h9:zzR r z c (inD M)=true:=q2.ok
     rw[this] at h9; cases h9
    ·rw[hres] at q1; exact oi q1
   rw[if_neg (Int.lt_irrefl _),zqs (fI (by omega))]
   by_cases f1:(zBr r z z.Years.length:Int) < (c:Int) - z.First
   ·rw[if_pos f1,hnone fun D _=>zBx h (.inl f1) _,if_pos rfl,if_pos (nl _)]; exact aw
   rw[if_neg f1,zqs (fI (by omega))]
   by_cases f2:(zBr r z z.Years.length:Int) < z.First - (c:Int)
   ·rw[if_pos f2,hnone fun D _=>zBx h (.inr f2) _,if_pos rfl,if_pos (nl _)]; exact aw
   rw[if_neg f2]
   rcases zAv h hc with ⟨M,q1,q2⟩ | ⟨q1,q2⟩
   ·rw[hres] at q1;have e:=oi q1;subst e;rw[if_pos rfl]
    exact zBE h h5 (by omega) hw q2 (M.length+1) 0 0 (Nat.zero_le _) (by omega) (by omega) fun j=>by rw[Nat.zero_testBit]; rfl
   ·rw[hres] at q1;have e:=oi q1;subst e;have hp:=zAr (n:=z.Years.length) (by omega);have hp0:=Nat.two_pow_pos z.Years.length;have hre:=zAn h (b:=2 ^ z.Years.length - 1) (by omega) (Nat.le_refl z.Years.length)
    have hno:¬ zzR r z c (fun j=>(2 ^ z.Years.length - 1).testBit j)=true:=fun hcan=>by
     rw[zzS (S':=inD (zz1 z.Years.length)) fun j hj=>by rw[Nat.testBit_two_pow_sub_one,zz3 hj,decide_eq_true hj]] at hcan
     rw[q2 _ (zz2 _)] at hcan; cases hcan
    rw[if_neg (show ¬ (7:Int)=0 by decide),if_pos rfl,zqs (fI (by omega)),zAs (by omega),zqs (by omega),wu (by omega),zqs (by omega),zqs (by omega),zqs (fI (by omega)),zqs (fI (by omega)),show((2 ^ z.Years.length:Nat):Int) - 1=((2 ^ z.Years.length - 1:Nat):Int) by omega,hre,obs,(zAt (c:=c) (by omega)).some_not hno,obs,if_neg (by decide)]; exact aw
theorem zBG{r:Rl}{z:Zn}{class_:Int}(_:zr4 r)(_:zr7 z)(hb:zl6 .u8 class_):zuk r z class_=some true:=by
 unfold zuk
 refine zAC.pick (fun h=>?_) fun _=>by rw[if_neg (by decide)]; exact aw
 have hc6:=h.c6;have hc0:=h.full.rl.c0;rw[if_pos rfl]
 by_cases h5:5 < z.Years.length
 ·rw[if_pos (by omega)]; exact aw
 obtain⟨n,rfl,hn,e⟩:=u8n hb;have m1:=Int.emod_nonneg (n:Int) (show r.Classes ≠ 0 by omega);have m2:=Int.emod_lt_of_pos (n:Int) (show(0:Int) < r.Classes by omega);obtain⟨c,hcn⟩:∃c:Nat,(n:Int) % r.Classes=(c:Int):=⟨((n:Int) % r.Classes).toNat,by omega⟩
 have hw:zmb .i64 (n:Int) % r.Classes=(c:Int):=by rw[e]; exact hcn
 rw[if_neg (by omega),hw,e,zqs (by omega),zqs (by omega),zqs (fI (by omega)),zAD h,obs,zAE h,obs]
 rcases zAv h (c:=c) (by omega) with ⟨M,q1,_⟩ | ⟨q1,_⟩
 ·rw[q1,obs];exact zBF h (by omega) (by omega) hw q1 1000000 0 (Nat.zero_le _) (by omega)
 ·rw[q1,obs];exact zBF h (by omega) (by omega) hw q1 1000000 0 (Nat.zero_le _) (by omega)
end
end Go.Proofs.Ytlpjlgmoaipoiaa

