/- An evaluator of code, its soundness, and what functions of the program do. Condition: none; a lemma text. -/
import Derived.Test.YtdedachmfbiekaaTaI

namespace Go.Proofs.Ytdedachmfbiekaa
open _root_.Go.Proofs.Try
open Go.Abs
set_option maxRecDepth 100000
noncomputable section
def lastN:List Int->Int->Nat
 | x::y::l,n=>if y<=n then lastN (y::l) n+1 else 0
 | _,_=>0
theorem zx6:∀(l:List Int) (n:Int),l ≠ []->lastN l n < l.length
 | [],_,h=>absurd rfl h
 | [_],_,_=>by simp[lastN]
 | x::y::l,n,_=>by
  unfold lastN
  split
  ·have:=zx6 (y::l) n (by simp)
   simp only[List.length_cons] at this ⊢; omega
  ·simp
theorem zx7:∀(l:List Int) (n:Int),(∀x,l.head? = some x->x<=n)->∀x,l[lastN l n]? = some x->x<=n
 | [],_,_,x,h=>by simp at h
 | [a],n,h0,x,h=>by
  simp[lastN] at h; subst h; exact h0 a rfl
 | a::y::l,n,h0,x,h=>by
  unfold lastN at h
  split at h
  ·rename_i hy
   rw[List.getElem?_cons_succ] at h;exact zx7 (y::l) n (fun z hz=>by simp at hz; omega) x h
  ·simp at h; subst h; exact h0 _ rfl
theorem zx8:∀(l:List Int) (n:Int),l.Pairwise (· < ·)->∀j,lastN l n < j->∀x,l[j]? = some x->n < x
 | [],_,_,j,_,x,h=>by simp at h
 | [a],n,_,j,hj,x,h=>by
  have:j < [a].length:=(List.getElem?_eq_some_iff.1 h).1
  simp at this; omega
 | a::y::l,n,hp,j,hj,x,h=>by
  have hp':=(List.pairwise_cons.1 hp).2;unfold lastN at hj
  cases j with
  | zero=>omega
  | succ j=>
   rw[List.getElem?_cons_succ] at h
   split at hj
   ·exact zx8 (y::l) n hp' j (by omega) x h
   ·rename_i hy
    have hx:x∈y::l:=List.mem_of_getElem? h
    rcases List.mem_cons.1 hx with hx | hx
    ·omega
    ·have:=(List.pairwise_cons.1 hp').1 x hx; omega
theorem zx9{l:List Int}(hp:l.Pairwise (· < ·)){i j:Nat}{x y:Int}(hx:l[i]? = some x)(hy:l[j]? = some y)(hij:i < j):x < y:=by
 obtain⟨h1,h2⟩:=List.getElem?_eq_some_iff.1 hx;obtain⟨h3,h4⟩:=List.getElem?_eq_some_iff.1 hy;rw[<- h2,<- h4];exact List.pairwise_iff_getElem.1 hp i j h1 h3 hij
theorem zya{l:List Int}{n:Int}(hp:l.Pairwise (· < ·)){k:Nat}(hk:k < l.length)(h1:∀x,l[k]? = some x->x<=n)(h2:∀x,l[k+1]? = some x->n < x)(h0:∀x,l.head? = some x->x<=n):lastN l n=k:=by
 have hne:l ≠ []:=fun h=>by subst h; simp at hk
 have hl:=zx6 l n hne;obtain⟨a,ha⟩:∃a,l[lastN l n]? = some a:=⟨_,List.getElem?_eq_getElem hl⟩;obtain⟨b,hb⟩:∃b,l[k]? = some b:=⟨_,List.getElem?_eq_getElem hk⟩;have h3:=zx7 l n h0 a ha;have h4:=h1 b hb
 rcases Nat.lt_trichotomy (lastN l n) k with h | h | h
 ·have:=zx8 l n hp k h b hb; omega
 ·exact h
 ·have hk1:k+1 < l.length:=by omega
  have h5:=h2 _ (List.getElem?_eq_getElem hk1)
  rcases Nat.lt_or_ge (k+1) (lastN l n) with h6 | h6
  ·have:=zx9 hp (List.getElem?_eq_getElem hk1) ha h6; omega
  ·have h7:lastN l n=k+1:=by omega
   rw[h7,List.getElem?_eq_getElem hk1] at ha
   cases ha; omega
theorem zyb{l:List Int}{n m:Int}(h:n<=m):lastN l n<=lastN l m:=by
 induction l with
 | nil=>exact Nat.le_refl _
 | cons x l ih=>
  cases l with
  | nil=>exact Nat.le_refl _
  | cons y l=>
   unfold lastN
   split
   ·rw[if_pos (by omega)]; exact Nat.succ_le_succ ih
   ·exact Nat.zero_le _
def nth(l:List Int)(i:Nat):Int:=l.getD i 0
theorem zyc{l:List Int}{i:Nat}{x:Int}(h:l[i]? = some x):nth l i=x:=by
 unfold nth; rw[List.getD_eq_getElem?_getD,h]; rfl
theorem zyd{l:List Int}{i:Nat}(h:i < l.length):l[i]? = some (nth l i):=by
 rw[List.getElem?_eq_getElem h,zyc (List.getElem?_eq_getElem h)]
def zye(a b x y n:Int):Int:=(x * (b - n)+y * (n - a)) / (b - a)
def zyf(counts rates:List Int)(n:Int):Int:=
 let i:=lastN counts n
 if nth counts i=n then nth rates i else zye (nth counts i) (nth counts (i+1)) (nth rates i) (nth rates (i+1)) n
theorem zyg{a b x y n z:Int}(h1:a<=n)(h2:n<=b)(hab:a < b)(hx:0<=x)(hy:0<=y)(hxz:x<=z)(hyz:y<=z):zye a b x y n<=z:=by
  unfold zye;have e1:x * (b - n)<=z * (b - n):=Int.mul_le_mul_of_nonneg_right hxz (by omega);have e2:y * (n - a)<=z * (n - a):=Int.mul_le_mul_of_nonneg_right hyz (by omega)
  have e3:z * (b - n)+z * (n - a)=z * (b - a):=by rw[<- Int.mul_add]; congr 1; omega
  have:x * (b - n)+y * (n - a)<=z * (b - a):=by omega
  calc (x * (b - n)+y * (n - a)) / (b - a)<=(z * (b - a)) / (b - a):=Int.ediv_le_ediv (by omega) this
    _=z:=Int.mul_ediv_cancel _ (by omega)
theorem zyh{a b x y n z:Int}(h1:a<=n)(h2:n<=b)(hab:a < b)(hz:0<=z)(hxz:z<=x)(hyz:z<=y):z<=zye a b x y n:=by
  unfold zye;have e1:z * (b - n)<=x * (b - n):=Int.mul_le_mul_of_nonneg_right hxz (by omega);have e2:z * (n - a)<=y * (n - a):=Int.mul_le_mul_of_nonneg_right hyz (by omega)
  have e3:z * (b - n)+z * (n - a)=z * (b - a):=by rw[<- Int.mul_add]; congr 1; omega
  have:z * (b - a)<=x * (b - n)+y * (n - a):=by omega
  calc z=(z * (b - a)) / (b - a):=(Int.mul_ediv_cancel _ (by omega)).symm
    _<=_:=Int.ediv_le_ediv (by omega) this
theorem zyi{a b x y n m:Int}(h1:a<=n)(hnm:n<=m)(h2:m<=b)(hab:a < b)(hx:0<=x)(hxy:x<=y):zye a b x y n<=zye a b x y m:=by
 unfold zye;refine Int.ediv_le_ediv (by omega) ?_;have e1:x * (m - n)<=y * (m - n):=Int.mul_le_mul_of_nonneg_right hxy (by omega)
 have e2:x * (b - n)=x * (b - m)+x * (m - n):=by rw[<- Int.mul_add]; congr 1; omega
 have e3:y * (m - a)=y * (n - a)+y * (m - n):=by rw[<- Int.mul_add]; congr 1; omega
 omega
structure Cnt (counts:List Int):Prop where
 pw:counts.Pairwise (· < ·)
 hd:counts.head? = some 0
 lst:counts.getLast? = some 100
structure Rts (counts rates:List Int):Prop extends Cnt counts where
 len:rates.length=counts.length
 rng:∀r∈rates,0<=r/\r<=100
variable {cs rs:List Int}
theorem Cnt.ne(h:Cnt cs):cs ≠ []:=fun e=>by have:=h.hd; rw[e] at this; cases this
theorem Cnt.h0(h:Cnt cs){n:Int}(hn:0<=n):∀x,cs.head? = some x->x<=n:=fun x hx=>by
 have:=h.hd; rw[this] at hx; cases hx; exact hn
theorem Cnt.lt(h:Cnt cs)(n:Int):lastN cs n < cs.length:=zx6 cs n h.ne
theorem Cnt.btw(h:Cnt cs){n:Int}(hn:0<=n)(h100:n<=100):nth cs (lastN cs n)<=n/\(nth cs (lastN cs n) ≠ n->lastN cs n+1 < cs.length/\n < nth cs (lastN cs n+1)):=by
 have hl:=h.lt n;have h1:=zx7 cs n (h.h0 hn) _ (zyd hl);refine⟨h1,fun hne=>?_⟩
 have hlast:cs[cs.length - 1]? = some 100:=by rw[<- h.lst,List.getLast?_eq_getElem?]
 have hlt:lastN cs n+1 < cs.length:=by
  rcases Nat.lt_or_ge (lastN cs n+1) cs.length with hh | hh
  ·exact hh
  ·have:lastN cs n=cs.length - 1:=by omega
   rw[this] at hne h1;have:=zyc hlast
   omega
 exact⟨hlt,zx8 cs n h.pw _ (Nat.lt_succ_self _) _ (zyd hlt)⟩
theorem Rts.at(h:Rts cs rs){i:Nat}(hi:i < cs.length):0<=nth rs i/\nth rs i<=100:=by
 have:i < rs.length:=by rw[h.len]; exact hi
 exact h.rng _ (List.mem_of_getElem? (zyd this))
theorem Rts.loss_rng(h:Rts cs rs){n:Int}(hn:0<=n)(h100:n<=100):0<=zyf cs rs n/\zyf cs rs n<=100:=by
 obtain⟨h1,h2⟩:=h.btw hn h100;have hi:=h.at (h.lt n);unfold zyf; dsimp only
 split
 ·exact hi
 ·rename_i hne
  obtain⟨h3,h4⟩:=h2 hne;have hi2:=h.at h3;exact⟨zyh h1 (by omega) (by omega) (Int.le_refl _) hi.1 hi2.1,zyg h1 (by omega) (by omega) hi.1 hi2.1 hi.2 hi2.2⟩
theorem Rts.loss_btw(h:Rts cs rs){n:Int}(hn:0<=n)(h100:n<=100) :
  min (nth rs (lastN cs n)) (nth rs (min (lastN cs n+1) (cs.length - 1)))<=zyf cs rs n/\zyf cs rs n<=max (nth rs (lastN cs n)) (nth rs (min (lastN cs n+1) (cs.length - 1))):=by
 obtain⟨h1,h2⟩:=h.btw hn h100;have hi:=h.at (h.lt n);unfold zyf; dsimp only
 split
 ·exact⟨Int.min_le_left _ _,Int.le_max_left _ _⟩
 ·rename_i hne
  obtain⟨h3,h4⟩:=h2 hne;have hi2:=h.at h3;rw[Nat.min_eq_left (by omega)];exact⟨zyh h1 (by omega) (by omega) (by omega) (Int.min_le_left _ _) (Int.min_le_right _ _),zyg h1 (by omega) (by omega) hi.1 hi2.1 (Int.le_max_left _ _) (Int.le_max_right _ _)⟩
theorem Cnt.last_at(h:Cnt cs){i:Nat}(hi:i < cs.length):lastN cs (nth cs i)=i:=by
 refine zya h.pw hi (fun x hx=>?_) (fun x hx=>?_) fun x hx=>?_
 ·rw[zyc hx]; exact Int.le_refl _
 ·exact zx9 h.pw (zyd hi) hx (Nat.lt_succ_self _)
 ·have h0:cs[0]? = some x:=by rw[<- hx]; cases cs <;> rfl
  rcases Nat.eq_zero_or_pos i with h5 | h5
  ·subst h5; rw[zyc h0]; exact Int.le_refl _
  ·exact Int.le_of_lt (zx9 h.pw h0 (zyd hi) h5)
theorem Cnt.loss_at(h:Cnt cs){i:Nat}(hi:i < cs.length):zyf cs rs (nth cs i)=nth rs i:=by
 unfold zyf; dsimp only;rw[h.last_at hi,if_pos rfl]
theorem Rts.loss_mono(h:Rts cs rs)(hr:rs.Pairwise (·<=·)){n m:Int}(hn:0<=n)(hnm:n<=m)(h100:m<=100):zyf cs rs n<=zyf cs rs m:=by
 have hle:∀i j,i<=j->j < cs.length->nth rs i<=nth rs j:=fun i j hij hj=>by
  rcases Nat.lt_or_ge i j with h1 | h1
  ·have hj':j < rs.length:=by rw[h.len]; exact hj
   have hi':i < rs.length:=by omega
   have e1:=zyc (List.getElem?_eq_getElem hi');have e2:=zyc (List.getElem?_eq_getElem hj');rw[e1,e2];exact List.pairwise_iff_getElem.1 hr i j hi' hj' h1
  ·have:i=j:=by omega
   subst this; exact Int.le_refl _
 obtain⟨h1,h2⟩:=h.btw hn (by omega);obtain⟨h3,h4⟩:=h.btw (show 0<=m by omega) h100;have hi:=h.at (h.lt n);have hj:=h.at (h.lt m);have hmono:=zyb (l:=cs) hnm;unfold zyf; dsimp only
 by_cases he:nth cs (lastN cs n)=n
 ·rw[if_pos he]
  by_cases hf:nth cs (lastN cs m)=m
  ·rw[if_pos hf]; exact hle _ _ hmono (h.lt m)
  ·rw[if_neg hf];obtain⟨h5,h6⟩:=h4 hf;exact zyh h3 (by omega) (by omega) hi.1 (hle _ _ hmono (h.lt m)) (hle _ _ (by omega) h5)
 ·rw[if_neg he];obtain⟨h7,h8⟩:=h2 he
  rcases Nat.lt_or_ge (lastN cs n) (lastN cs m) with hlt | hge
  ·have h9:zye (nth cs (lastN cs n)) (nth cs (lastN cs n+1)) (nth rs (lastN cs n)) (nth rs (lastN cs n+1)) n<=nth rs (lastN cs m):=
    zyg h1 (by omega) (by omega) hi.1 (h.at h7).1 (hle _ _ hmono (h.lt m)) (hle _ _ hlt (h.lt m))
   refine Int.le_trans h9 ?_
   by_cases hf:nth cs (lastN cs m)=m
   ·rw[if_pos hf]; exact Int.le_refl _
   ·rw[if_neg hf];obtain⟨h5,h6⟩:=h4 hf;exact zyh h3 (by omega) (by omega) hj.1 (Int.le_refl _) (hle _ _ (by omega) h5)
  ·have heq:lastN cs m=lastN cs n:=by omega
   rw[heq] at h3 h4 ⊢
   by_cases hf:nth cs (lastN cs n)=m
   ·omega
   ·rw[if_neg hf];obtain⟨h5,h6⟩:=h4 hf;exact zyi h1 hnm (by omega) (by omega) hi.1 (hle _ _ (by omega) h5)
end
end Go.Proofs.Ytdedachmfbiekaa

namespace Go.Proofs.Ytdedachmfbiekaa
open _root_.Go.Proofs.Try
open Go.Abs
set_option maxRecDepth 100000
noncomputable section
structure VT (t:Tf):Prop where
 frm:0<=t.From/\t.From<=120
 lst:0<=t.Least/\t.Least<=100
 wks:t.Weeks.Pairwise (· < ·)/\t.Weeks.head? = some 0/\∀x∈t.Weeks,0<=x/\x<=120
 cts:t.Counts.Pairwise (· < ·)/\t.Counts.head? = some 0/\∀x∈t.Counts,0<=x/\x<=100
 c100:t.Counts.getLast? = some 100
 rne:t.Rates ≠ []
 rts:∀c∈t.Rates,c.length=t.Weeks.length/\∀w∈c,w.length=t.Counts.length/\∀r∈w,0<=r/\r<=100
def zyj(l:List Tf):Nat:=match l with | []=>0 | t::_=>t.Rates.length
structure VL (l:List Tf):Prop where
 ne:l ≠ []
 vt:∀t∈l,VT t
 pw:(l.map (·.From)).Pairwise (· < ·)
 hd:(l.map (·.From)).head? = some 0
 crp:∀t∈l,t.Rates.length=zyj l
def zyk(t:Tf):Prop:=4 < t.Weeks.length\/5 < t.Counts.length\/3 < t.Rates.length
def zyl(l:List Tf):Prop:=3 < l.length\/∃t∈l,zyk t
open Classical in
def zym(l:List Tf):Int:=if zyl l then 3 else if VL l then 0 else 1
theorem zyn{l:List Tf}:zym l=0↔¬ zyl l/\VL l:=by
 unfold zym
 split
 ·rename_i h; exact⟨fun h=>by omega,fun h'=>absurd h h'.1⟩
 ·rename_i h
  split
  ·rename_i h2; exact⟨fun _=>⟨h,h2⟩,fun _=>rfl⟩
  ·rename_i h2; exact⟨fun h=>by omega,fun h'=>absurd h'.2 h2⟩
def zyo(t:Tf)(crop day:Int):List Int:=(t.Rates.getD crop.toNat []).getD (lastN t.Weeks day) []
def zyp(t:Tf)(loss:Int):Int:=if loss < t.Least then 0 else if t.Whole=true then loss else loss - t.Least
def zyq(t:Tf)(crop day count:Int):Int:=zyp t (zyf t.Counts (zyo t crop day) count)
instance:Inhabited Tf:=⟨⟨0,false,0,[],[],[]⟩⟩
def ofN(l:List Tf)(day:Int):Tf:=l.getD (lastN (l.map (·.From)) day) default
def zyr(l:List Tf)(crop day count:Int):Int:=zyq (ofN l day) crop day count
theorem VT.wlt{t:Tf}(h:VT t)(d:Int):lastN t.Weeks d < t.Weeks.length:=zx6 _ _ fun e=>by have:=h.wks.2.1; rw[e] at this; cases this
theorem VT.cnt{t:Tf}(h:VT t):Cnt t.Counts:=⟨h.cts.1,h.cts.2.1,h.c100⟩
theorem VT.rates{t:Tf}(h:VT t){crop:Int}(h0:0<=crop)(h1:crop < t.Rates.length)(day:Int) :
  ∃wks,t.Rates[crop.toNat]? = some wks/\wks[lastN t.Weeks day]? = some (zyo t crop day)/\Rts t.Counts (zyo t crop day):=by
 have hc:crop.toNat < t.Rates.length:=by omega
 have e1:=List.getElem?_eq_getElem hc;obtain⟨q1,q2⟩:=h.rts _ (List.getElem_mem hc)
 have hw:lastN t.Weeks day < t.Rates[crop.toNat].length:=by rw[q1]; exact h.wlt day
 have e2:=List.getElem?_eq_getElem hw
 have e3:zyo t crop day=t.Rates[crop.toNat][lastN t.Weeks day]:=by
  have e4:t.Rates.getD crop.toNat []=t.Rates[crop.toNat]:=by rw[List.getD_eq_getElem?_getD,e1]; rfl
  unfold zyo;rw[e4,List.getD_eq_getElem?_getD,e2,Option.getD_some]
 obtain⟨q3,q4⟩:=q2 _ (List.getElem_mem hw);refine⟨_,e1,by rw[e2,e3],⟨h.cnt,by rw[e3]; exact q3,by rw[e3]; exact q4⟩⟩
theorem VL.of{l:List Tf}(h:VL l)(day:Int):l[lastN (l.map (·.From)) day]? = some (ofN l day)/\ofN l day∈l:=by
 have hl:=zx6 (l.map (·.From)) day fun e=>h.ne (List.map_eq_nil_iff.1 e);rw[List.length_map] at hl
 have e:l[lastN (l.map (·.From)) day]? = some (ofN l day):=by
  unfold ofN;rw[List.getD_eq_getElem?_getD,List.getElem?_eq_getElem hl,Option.getD_some]
 exact⟨e,List.mem_of_getElem? e⟩
theorem zys{t:Tf}(h:VT t){x:Int}(h0:0<=x)(h1:x<=100):0<=zyp t x/\zyp t x<=100:=by
 have:=h.lst;unfold zyp
 split
 ·omega
 ·split <;> omega
theorem VL.vof{l:List Tf}(h:VL l)(day:Int):VT (ofN l day):=h.vt _ (h.of day).2
theorem VL.cof{l:List Tf}(h:VL l)(day:Int):(ofN l day).Rates.length=zyj l:=h.crp _ (h.of day).2
theorem VL.rts{l:List Tf}(h:VL l){crop:Int}(h0:0<=crop)(h1:crop < zyj l)(day:Int):Rts (ofN l day).Counts (zyo (ofN l day) crop day):=by
 obtain⟨_,_,_,q⟩:=(h.vof day).rates h0 (by rw[h.cof]; exact h1) day;exact q
theorem VL.part_rng{l:List Tf}(h:VL l){crop n:Int}(h0:0<=crop)(h1:crop < zyj l)(hn:0<=n)(hn1:n<=100)(day:Int):0<=zyr l crop day n/\zyr l crop day n<=100:=by
 obtain⟨q1,q2⟩:=(h.rts h0 h1 day).loss_rng hn hn1;exact zys (h.vof day) q1 q2
theorem zyt{t:Tf}(h:VT t){x y:Int}(hxy:x<=y)(hx:0<=x):zyp t x<=zyp t y:=by
 have:=h.lst;unfold zyp
 by_cases h1:x < t.Least
 ·rw[if_pos h1]
  split
  ·omega
  ·split <;> omega
 ·rw[if_neg h1,if_neg (show ¬ y < t.Least by omega)]
  split <;> omega
theorem zyu{l:List Int}{x n:Int}(hx:n < x):lastN (l++[x]) n=lastN l n:=by
 induction l with
 | nil=>rfl
 | cons a l ih=>
  cases l with
  | nil=>show lastN [a,x] n=_; unfold lastN; rw[if_neg (by omega)]
  | cons y l=>
   show lastN (a::y::(l++[x])) n=_
   unfold lastN;have ih:lastN (y::(l++[x])) n=lastN (y::l) n:=ih;rw[ih]
end
end Go.Proofs.Ytdedachmfbiekaa

namespace Go.Proofs.Ytdedachmfbiekaa
open _root_.Go.Proofs.Try
open Go.Abs
set_option maxRecDepth 100000
noncomputable section
structure zoP (t u:Tf):Prop where
 frm:u.From=t.From
 wks:u.Weeks=t.Weeks
 cts:u.Counts=t.Counts
 rts:u.Rates=t.Rates
theorem VT.same{t u:Tf}(h:VT t)(s:zoP t u)(hl:0<=u.Least/\u.Least<=100):VT u:=
 ⟨by rw[s.frm]; exact h.frm,hl,by rw[s.wks]; exact h.wks,by rw[s.cts]; exact h.cts,by rw[s.cts]; exact h.c100,by rw[s.rts]; exact h.rne,by rw[s.rts,s.wks,s.cts]; exact h.rts⟩
theorem zyv{f:Tf->Tf}{l:List Tf}(hs:∀t∈l,zoP t (f t)):zyj (l.map f)=zyj l:=by
 cases l with
 | nil=>rfl
 | cons t l=>show(f t).Rates.length=t.Rates.length; rw[(hs t (List.mem_cons_self ..)).rts]
theorem zyw{f:Tf->Tf}{l:List Tf}(hs:∀t∈l,zoP t (f t)):(l.map f).map (·.From)=l.map (·.From):=by
 rw[List.map_map];exact List.map_congr_left fun t ht=>(hs t ht).frm
theorem VL.map{f:Tf->Tf}{l:List Tf}(h:VL l)(hs:∀t∈l,zoP t (f t))(hl:∀t∈l,0<=(f t).Least/\(f t).Least<=100):VL (l.map f):=by
 have hf:=zyw hs;refine⟨fun e=>h.ne (List.map_eq_nil_iff.1 e),fun u hu=>?_,by rw[hf]; exact h.pw,by rw[hf]; exact h.hd,fun u hu=>?_⟩
 ·obtain⟨t,ht,rfl⟩:=List.mem_map.1 hu;exact(h.vt t ht).same (hs t ht) (hl t ht)
 ·obtain⟨t,ht,rfl⟩:=List.mem_map.1 hu;rw[zyv hs,(hs t ht).rts];exact h.crp t ht
theorem zyx{f:Tf->Tf}{l:List Tf}(h:¬ zyl l)(hs:∀t∈l,zoP t (f t)):¬ zyl (l.map f):=by
 rintro (h1 | ⟨u,hu,h1⟩)
 ·exact h (.inl (by rwa [List.length_map] at h1))
 ·obtain⟨t,ht,rfl⟩:=List.mem_map.1 hu;refine h (.inr ⟨t,ht,?_⟩);have s:=hs t ht;unfold zyk at h1 ⊢
  rwa [s.wks,s.cts,s.rts] at h1
theorem zyy{f:Tf->Tf}{l:List Tf}(h:zym l=0)(hs:∀t∈l,zoP t (f t))(hl:∀t∈l,0<=(f t).Least/\(f t).Least<=100):zym (l.map f)=0:=by
 obtain⟨h1,h2⟩:=zyn.1 h;exact zyn.2 ⟨zyx h1 hs,h2.map hs hl⟩
theorem zyz{f:Tf->Tf}{l:List Tf}(h:VL l)(hs:∀t∈l,zoP t (f t))(d:Int):ofN (l.map f) d=f (ofN l d):=by
 obtain⟨h1,_⟩:=h.of d;unfold ofN at h1 ⊢;rw[zyw hs,List.getD_eq_getElem?_getD,List.getElem?_map,h1]
 rfl
theorem zyA{l:List Tf}(h:zym l=0)(h2:2<=l.length):zym (l.take (l.length - 1))=0:=by
 obtain⟨h1,h3⟩:=zyn.1 h;have hsub:∀t,t∈l.take (l.length - 1)->t∈l:=fun t ht=>List.mem_of_mem_take ht
 obtain⟨t,r,rfl⟩:∃t r,l=t::r:=by
  cases l with
  | nil=>simp at h2
  | cons t r=>exact⟨t,r,rfl⟩
 obtain⟨k,hk⟩:∃k,(t::r).length - 1=k+1:=⟨(t::r).length - 2,by simp at h2 ⊢; omega⟩;refine zyn.2 ⟨?_,?_⟩
 ·rintro (h4 | ⟨u,hu,h4⟩)
  ·refine h1 (.inl ?_); rw[List.length_take] at h4; omega
  ·exact h1 (.inr ⟨u,hsub u hu,h4⟩)
 ·refine⟨?_,fun u hu=>h3.vt u (hsub u hu),?_,?_,fun u hu=>?_⟩
  ·rw[hk,List.take_succ_cons]; simp
  ·rw[List.map_take]; exact h3.pw.sublist (List.take_sublist _ _)
  ·have:=h3.hd;rw[hk,List.take_succ_cons]; simpa using this
  ·have:=h3.crp u (hsub u hu);rw[hk,List.take_succ_cons]; exact this
theorem zyB{l:List Tf}(h:VL l){t:Tf}(ht:l.getLast? = some t)(d:Int)(hd:d < t.From)(h2:2<=l.length):ofN (l.take (l.length - 1)) d=ofN l d:=by
 have hl:l=l.take (l.length - 1)++[t]:=by
  have hne0:l ≠ []:=fun e=>by subst e; cases ht
  have e:=List.dropLast_concat_getLast hne0;rw[List.getLast?_eq_some_getLast hne0] at ht;rw[oi ht,List.dropLast_eq_take] at e;exact e.symm
 have hne:l.take (l.length - 1) ≠ []:=fun e=>by
  have:=congrArg List.length e;rw[List.length_take] at this
  simp at this; omega
 generalize hp:l.take (l.length - 1)=p at hl hne ⊢;subst hl;unfold ofN;rw[List.map_append,List.map_cons,List.map_nil,zyu hd]
 have hlt:lastN (p.map (·.From)) d < p.length:=by
  have:=zx6 (p.map (·.From)) d fun e=>hne (List.map_eq_nil_iff.1 e)
  rwa [List.length_map] at this
 rw[List.getD_eq_getElem?_getD,List.getD_eq_getElem?_getD,List.getElem?_append_left hlt]
theorem zyC{n lo hi:Int}:Ev (zsX n lo hi) (lo<=n/\n<=hi):=Ev.ite fun _=>Ev.dec Iff.rfl
theorem zyD{r:Rg}{n:Int}:Ev (ztD r n) (r.Lo<=n/\n<=r.Hi):=Ev.ite fun _=>Ev.dec Iff.rfl
theorem zyE{n:Int}:Ev (ztF n) (0<=n/\n<=120):=zyD.ret
theorem zyF{n:Int}:Ev (ztG n) (0<=n/\n<=100):=zyD.ret
theorem zyG{n:Int}:Ev (ztH n) (0<=n/\n<=100):=zyD.ret
theorem zyH{n s:Int}(hs:0<=s/\s<=4611686018427387904):Ev (ztE n s) (0<=n/\n < s):=Ev.gd (fI (by omega)) (zyD.ret.imp (by show 0<=n/\n<=s - 1↔_; omega))
def zyI{α:Type}(l:List α):Prop:=l.length<=1048576
theorem zyI.lt{α:Type}{l:List α}(h:zyI l):l.length < 4611686018427387904:=by unfold zyI at h; omega
theorem zyJ{l:List Int}{k:Nat}(h:k < l.length):idx l (k:Int)=some (nth l k):=zst (zyd h)
theorem zyK{l:List Int}{k:Nat}(h0:0 < k)(h:k - 1 < l.length):idx l ((k:Int) - 1)=some (nth l (k - 1)):=zsv h0 (zyd h)
theorem zyL:∀{l:List Int},(∀j,0 < j->j < l.length->nth l (j - 1) < nth l j)->l.Pairwise (· < ·)
 | [],_=>.nil
 | [a],_=>List.pairwise_singleton _ _
 | a::b::l,h=>by
  have h1:(b::l).Pairwise (· < ·):=zyL fun j h0 hj=>by
   have:=h (j+1) (by omega) (by simp at hj ⊢; omega);obtain⟨i,rfl⟩:∃i,j=i+1:=⟨j - 1,by omega⟩;exact this
  have h2:a < b:=h 1 (by omega) (by simp);refine List.pairwise_cons.2 ⟨fun x hx=>?_,h1⟩
  rcases List.mem_cons.1 hx with rfl | hx
  ·exact h2
  ·exact Int.lt_trans h2 ((List.pairwise_cons.1 h1).1 x hx)
theorem zyM{l:List Int}:(∀j,0 < j->j < l.length->nth l (j - 1) < nth l j)↔l.Pairwise (· < ·):=
 ⟨zyL,fun h j h0 hj=>zx9 h (zyd (by omega)) (zyd hj) (by omega)⟩
theorem zyN{l:List Int}:(∀j,0 < j->j < l.length->∀a b,l[j - 1]? = some a->l[j]? = some b->a < b)↔l.Pairwise (· < ·):=by
 constructor
 ·intro h;rw[List.pairwise_iff_getElem];intro i j hi hj hij
  have key:∀d,(hd:i+d+1 < l.length)->l[i] < l[i+d+1]:=fun d=>by
   induction d with
   | zero=>intro hd; exact h (i+1) (by omega) hd _ _ (List.getElem?_eq_getElem hi) (List.getElem?_eq_getElem hd)
   | succ d ih=>
    intro hd;have h1:=ih (by omega);have h2:=h (i+(d+1)+1) (by omega) hd _ _ (List.getElem?_eq_getElem (show i+d+1 < l.length by omega)) (List.getElem?_eq_getElem hd);exact Int.lt_trans h1 h2
  have:=key (j - i - 1) (by omega)
  simpa [show i+(j - i - 1)+1=j by omega] using this
 ·intro h j h0 hj a b ha hb;obtain⟨h1,rfl⟩:=List.getElem?_eq_some_iff.1 ha;obtain⟨h2,rfl⟩:=List.getElem?_eq_some_iff.1 hb;exact List.pairwise_iff_getElem.1 h (j - 1) j h1 h2 (by omega)
theorem zyO{l:List Int}(hl:zyI l):Ev (ztJ l) (l.Pairwise (· < ·)):=by
 unfold zyI at hl;unfold ztJ
 by_cases h0:l.length=0
 ·have:l=[]:=List.eq_nil_of_length_eq_zero h0;subst this
  show Ev (ztI [] 1 1) _
  rw[ztI,if_neg (by decide)];exact Ev.tt .nil
 ·have e:∃n,l.length=n+1:=⟨l.length - 1,by omega⟩;obtain⟨n,hn⟩:=e
  have key:=zsy (n:=n) (F:=fun d x=>ztI l d (x+1)) (ok:=fun j=>∀a b,l[j]? = some a->l[j+1]? = some b->a < b) (bad:=some false) (fin:=some true) (fun d k hk=>by
   show(_->ztI l (d+1) ((k:Int)+1)=_)/\_
   have ha:=List.getElem?_eq_getElem (show k < l.length by omega);have hb:=List.getElem?_eq_getElem (show k+1 < l.length by omega);rw[ztI,if_pos (by omega),zsu (show(k:Int)+1=((k+1:Nat):Int) by omega) (show k+1 < l.length by omega),obs,zrD (fI (by omega)),zsu (show(k:Int)+1 - 1=(k:Int) by omega) (show k < l.length by omega),obs];refine⟨fun h=>?_,fun h=>?_⟩
   ·have:=h _ _ ha hb;rw[if_neg (by omega),zrD (fI (by omega))]
   ·rw[if_pos]
    apply Classical.byContradiction
    intro h2
    exact h fun a b h3 h4=>by rw[ha] at h3; rw[hb] at h4; cases h3; cases h4; omega) (fun d=>by show ztI l (d+1) _=_; rw[ztI,if_neg (by omega)]) (d:=((l.length:Int) - 1).toNat+1) (by omega)
  have e0:ztI l (((l.length:Int) - 1).toNat+1) (0+1)=ztI l (((l.length:Int) - 1).toNat+1) 1:=rfl
  have hiff:(∀j,j < n->∀a b,l[j]? = some a->l[j+1]? = some b->a < b)↔l.Pairwise (· < ·):=by
   rw[<- zyN]
   constructor
   ·intro h j h0 hj a b h1 h2;have:=h (j - 1) (by omega) a b h1;rw[show j - 1+1=j by omega] at this;exact this h2
   ·intro h j hj a b h1 h2;exact h (j+1) (by omega) (by omega) a b (by rw[Nat.add_sub_cancel]; exact h1) h2
  by_cases hq:∀j,j < n->∀a b,l[j]? = some a->l[j+1]? = some b->a < b
  ·have:=key.1 hq;exact⟨true,this,⟨fun _=>hiff.1 hq,fun _=>rfl⟩⟩
  ·have:=key.2 hq;exact⟨false,this,⟨fun h=>(by cases h),fun h=>absurd (hiff.2 h) hq⟩⟩
theorem zyP{l:List Int}(hl:zyI l):Ev (ztK l) (l.Pairwise (· < ·)/\l.head? = some 0):=by
 unfold ztK
 cases l with
 | nil=>exact Ev.ff (by simp)
 | cons a l=>
  rw[if_pos (by simp)];refine Ev.bind (zsw rfl) ?_;refine(Ev.ite fun _=>(zyO hl).ret).imp ?_
  constructor
  ·rintro⟨rfl,h⟩; exact⟨h,rfl⟩
  ·rintro⟨h,e⟩; exact⟨oi e,h⟩
theorem zyQ{l:List Int}{most:Int}(hl:zyI l):Ev (zsY l most) ((l.Pairwise (· < ·)/\l.head? = some 0)/\∀x∈l,0<=x/\x<=most):=by
 have hl:=hl.lt
 have key:Ev (prRises_L0 l most (l.length+1) 0) ((∀j,j < l.length->((0<=nth l j/\nth l j<=most)/\(0 < j->nth l (j - 1) < nth l j)))/\l.head? = some 0):=by
  refine Ev.loop (F:=prRises_L0 l most) (fin:=if (0:Int) < (l.length:Int) then ((idx l (0:Int)).bind fun x=>some (decide (x=(0:Int)))) else some false) (fun d k hk=>?_) (fun d=>?_) (by omega) fun _=>?_
  ·rw[prRises_L0,if_pos (by omega),zyJ hk,obs];obtain⟨b,h1,h2⟩:=zyC (n:=nth l k) (lo:=0) (hi:=most);rw[h1,obs]
   cases b with
   | false=>
    rw[if_neg (by simp)];exact⟨fun h=>(by have:=h2.2 h.1; cases this),fun _=>rfl⟩
   | true=>
    have h3:=h2.1 rfl;rw[if_pos rfl]
    by_cases h0:0 < k
    ·rw[if_pos (show(0:Int) < k by omega),obs,zrD (fI (by omega)),zyK h0 (by omega),obs,zrD (fI (by omega))];refine⟨fun h=>?_,fun h=>?_⟩
     ·rw[if_neg (by have:=h.2 h0; omega)]
     ·rw[if_pos (by
       rcases Int.lt_or_le (nth l (k - 1)) (nth l k) with h1 | h1
       ·exact absurd ⟨h3,fun _=>h1⟩ h
       ·exact h1)]
    ·rw[if_neg (show ¬ (0:Int) < k by omega),zrD (fI (by omega))];exact⟨fun _=>rfl,fun h=>absurd ⟨h3,fun h'=>absurd h' h0⟩ h⟩
  ·rw[prRises_L0,if_neg (Int.lt_irrefl _)]
  ·cases l with
   | nil=>exact Ev.ff (by simp)
   | cons a l=>rw[if_pos (by simp)]; exact Ev.bind (zsw rfl) (Ev.dec (by simp))
 refine key.imp ⟨fun⟨h1,h2⟩=>⟨⟨zyL fun j h0 hj=>(h1 j hj).2 h0,h2⟩,fun x hx=>?_⟩,fun⟨⟨h1,h2⟩,h3⟩=>⟨fun j hj=>⟨h3 _ (List.mem_of_getElem? (zyd hj)),fun h0=>zyM.2 h1 j h0 hj⟩,h2⟩⟩;obtain⟨i,hi⟩:=List.mem_iff_getElem?.1 hx;rw[<- zyc hi];exact(h1 i (List.getElem?_eq_some_iff.1 hi).1).1
theorem gTf{l:List Tf}{p:Tf->Option Bool}:∀{d:Nat} {x:Int},zt7 l p d x=gIdx l p d x
 | 0,_=>rfl
 | d+1,x=>by unfold zt7 gIdx; simp only[gTf (d:=d)]
theorem zyR{l:List Tf}{p:Tf->Option Bool}:∀{d:Nat} {x:Int},zub l p d x=gIdx l p d x
 | 0,_=>rfl
 | d+1,x=>by unfold zub gIdx; simp only[zyR (d:=d)]
theorem gCl{l:List Clm}{p:Clm->Option Bool}:∀{d:Nat} {x:Int},zuf l p d x=gIdx l p d x
 | 0,_=>rfl
 | d+1,x=>by unfold zuf gIdx; simp only[gCl (d:=d)]
theorem gI{l:List Int}{p:Int->Option Bool}:∀{d:Nat} {x:Int},zuk l p d x=gIdx l p d x
 | 0,_=>rfl
 | d+1,x=>by unfold zuk gIdx; simp only[gI (d:=d)]
theorem gL{l:List (List Int)}{p:List Int->Option Bool}:∀{d:Nat} {x:Int},zup l p d x=gIdx l p d x
 | 0,_=>rfl
 | d+1,x=>by unfold zup gIdx; simp only[gL (d:=d)]
theorem gLL{l:List (List (List Int))}{p:List (List Int)->Option Bool}:∀{d:Nat} {x:Int},zuu l p d x=gIdx l p d x
 | 0,_=>rfl
 | d+1,x=>by unfold zuu gIdx; simp only[gLL (d:=d)]
theorem zyS{l:List Tf}{p:Tf->Option Bool}{q:Tf->Prop}(hp:∀a∈l,Ev (p a) (q a))(hl:zyI l):Ev (zua l p) (∀a∈l,q a):=Ev.each hp hl.lt gTf
theorem zyT{l:List Clm}{p:Clm->Option Bool}{q:Clm->Prop}(hp:∀a∈l,Ev (p a) (q a))(hl:zyI l):Ev (zui l p) (∀a∈l,q a):=Ev.each hp hl.lt gCl
theorem zyU{l:List Int}{p:Int->Option Bool}{q:Int->Prop}(hp:∀a∈l,Ev (p a) (q a))(hl:zyI l):Ev (zun l p) (∀a∈l,q a):=Ev.each hp hl.lt gI
theorem zyV{l:List (List Int)}{p:List Int->Option Bool}{q:List Int->Prop}(hp:∀a∈l,Ev (p a) (q a))(hl:zyI l):Ev (zus l p) (∀a∈l,q a):=Ev.each hp hl.lt gL
theorem zyW{l:List (List (List Int))}{p:List (List Int)->Option Bool}{q:List (List Int)->Prop}(hp:∀a∈l,Ev (p a) (q a))(hl:zyI l):Ev (zux l p) (∀a∈l,q a):=Ev.each hp hl.lt gLL
theorem zyX{l:List Tf}{p:Tf->Option Bool}{q:Tf->Prop}(hp:∀a∈l,Ev (p a) (q a))(hl:zyI l):Ev (zud l p) (∃a∈l,q a):=Ev.contains hp hl.lt zyR
theorem last_at{l:List Int}(h:l ≠ []):∃x,idx l ((l.length:Int) - 1)=some x/\l.getLast? = some x:=by
 have hl:0 < l.length:=List.length_pos_iff.2 h;refine⟨l[l.length - 1],zsu (by omega) (by omega),?_⟩;rw[List.getLast?_eq_getElem?,List.getElem?_eq_getElem]
theorem few{t:Tf}(h:¬ zyk t):t.Weeks.length<=4/\t.Counts.length<=5/\t.Rates.length<=3:=by unfold zyk at h; omega
theorem zyY{α:Type}{l:List α}{n:Nat}(h:l.length<=n)(hn:n<=1048576):zyI l:=Nat.le_trans h hn
theorem zyZ{l:List Int}{x:Int}(h:l.head? = some x):l ≠ []:=fun e=>by rw[e] at h; cases h
theorem zy0{t:Tf}(h:¬ zyk t){w:List Int}:Ev (zuz t w) (w.length=t.Counts.length/\∀r∈w,0<=r/\r<=100):=by
 have hf:=few h;exact(Ev.ite fun hl=>(zyU (q:=fun r=>0<=r/\r<=100) (fun _ _=>zyG) (zyY (n:=5) (by omega) (by omega))).ret).imp (and_congr Int.ofNat_inj Iff.rfl)
theorem zy1{t:Tf}(h:¬ zyk t){c:List (List Int)}:Ev (zuA t c) (c.length=t.Weeks.length/\∀w∈c,w.length=t.Counts.length/\∀r∈w,0<=r/\r<=100):=by
 have hf:=few h;exact(Ev.ite fun hl=>(zyV (fun _ _=>zy0 h) (zyY (n:=4) (by omega) (by omega))).ret).imp (and_congr Int.ofNat_inj Iff.rfl)
theorem zy2{t:Tf}:VT t↔((0<=t.From/\t.From<=120)/\(0<=t.Least/\t.Least<=100)/\(t.Weeks.Pairwise (· < ·)/\t.Weeks.head? = some 0)/\(∀x∈t.Weeks,0<=x/\x<=120)/\(t.Counts.Pairwise (· < ·)/\t.Counts.head? = some 0)/\t.Counts.getLast? = some 100/\t.Rates ≠ []/\∀c∈t.Rates,c.length=t.Weeks.length/\∀w∈c,w.length=t.Counts.length/\∀r∈w,0<=r/\r<=100):=by
 constructor
 ·intro h; exact⟨h.frm,h.lst,⟨h.wks.1,h.wks.2.1⟩,h.wks.2.2,⟨h.cts.1,h.cts.2.1⟩,h.c100,h.rne,h.rts⟩
 ·rintro⟨h1,h2,h3,h4,h5,h6,h7,h8⟩
  refine⟨h1,h2,⟨h3.1,h3.2,h4⟩,⟨h5.1,h5.2,fun x hx=>?_⟩,h6,h7,h8⟩;obtain⟨i,hi⟩:=List.mem_iff_getElem?.1 hx;have hil:=(List.getElem?_eq_some_iff.1 hi).1
  have h0:t.Counts[0]? = some 0:=by rw[<- h5.2]; cases t.Counts <;> rfl
  have hl:t.Counts[t.Counts.length - 1]? = some 100:=by rw[<- h6,List.getLast?_eq_getElem?]
  constructor
  ·rcases Nat.eq_zero_or_pos i with h9 | h9
   ·subst h9; rw[h0] at hi; cases hi; exact Int.le_refl _
   ·exact Int.le_of_lt (zx9 h5.1 h0 hi h9)
  ·rcases Nat.lt_or_ge i (t.Counts.length - 1) with h9 | h9
   ·exact Int.le_of_lt (zx9 h5.1 hi hl h9)
   ·rw[show i=t.Counts.length - 1 by omega,hl] at hi; cases hi; exact Int.le_refl _
theorem zy3{t:Tf}(h:¬ zyk t):Ev (zuB t) (VT t):=by
 have hf:=few h;have hw:zyI t.Weeks:=zyY (n:=4) (by omega) (by omega);have hc:zyI t.Counts:=zyY (n:=5) (by omega) (by omega);have hr:zyI t.Rates:=zyY (n:=3) (by omega) (by omega);refine Ev.imp (Ev.and zyE fun _=>Ev.and zyG fun _=>Ev.and (zyP hw) fun _=>Ev.and (zyU (q:=fun r=>0<=r/\r<=120) (fun _ _=>zyE) hw) fun _=>Ev.and (K:=t.Counts.getLast? = some 100/\t.Rates ≠ []/\∀c∈t.Rates,c.length=t.Weeks.length/\∀w∈c,w.length=t.Counts.length/\∀r∈w,0<=r/\r<=100) (zyP hc) fun hr2=>?_) zy2.symm;obtain⟨x,hx,hx2⟩:=last_at (zyZ hr2.2);refine Ev.gd (fI (by omega)) (Ev.bind hx (Ev.imp (Ev.ite fun _=>Ev.ite fun _=>(zyW (fun _ _=>zy1 h) hr).ret) ?_));rw[hx2];refine and_congr ⟨fun h=>by rw[h],fun h=>oi h⟩ (and_congr ?_ Iff.rfl);rw[<- List.length_pos_iff]; omega
theorem zy4{t:Tf}{c w:Nat}{wks:List (List Int)}{rs:List Int}(hc:t.Rates[c]? = some wks)(hw:wks[w]? = some rs)(hl:rs.length=t.Counts.length)(h5:t.Counts.length<=5)(hw4:w<=4){K:Bool->Int->Option Bool}{b:Bool} :
  ((∀r∈rs,0<=r/\r<=100)->zsZ t (c:Int) (w:Int) K 1000000 b 0=K b ((w:Int)+1))/\(¬ (∀r∈rs,0<=r/\r<=100)->zsZ t (c:Int) (w:Int) K 1000000 b 0=some false):=by
 have key:=zsy (n:=rs.length) (F:=fun d x=>zsZ t (c:Int) (w:Int) K d b x) (ok:=fun j=>0<=nth rs j/\nth rs j<=100) (bad:=some false) (fin:=K b ((w:Int)+1)) (fun d k hk=>by
  rw[zsZ,if_pos (by omega),zst hc,obs,zst hw,obs,zyJ hk,obs];obtain⟨b',h1,h2⟩:=zyC (n:=nth rs k) (lo:=0) (hi:=100);rw[h1,obs]
  cases b' with
  | true=>rw[if_pos rfl,zrD (fI (by omega))]; exact⟨fun _=>rfl,fun h=>absurd (h2.1 rfl) h⟩
  | false=>rw[if_neg (by simp)]; exact⟨fun h=>(by have:=h2.2 h; cases this),fun _=>rfl⟩) (fun d=>by rw[zsZ,if_neg (by omega),zrD (fI (by omega))]) (d:=1000000) (by omega)
 have hiff:(∀j,j < rs.length->0<=nth rs j/\nth rs j<=100)↔∀r∈rs,0<=r/\r<=100:=⟨fun h r hr=>by
  obtain⟨i,hi⟩:=List.mem_iff_getElem?.1 hr
  rw[<- zyc hi]; exact h i (List.getElem?_eq_some_iff.1 hi).1,fun h j hj=>h _ (List.mem_of_getElem? (zyd hj))⟩
 rw[hiff] at key;exact key
def zy5(t:Tf)(rs:List Int):Prop:=rs.length=t.Counts.length/\∀r∈rs,0<=r/\r<=100
theorem zy6{α:Type}{l:List α}{P:α->Prop}:(∀j,j < l.length->∀a,l[j]? = some a->P a)↔∀a∈l,P a:=
 ⟨fun h a ha=>by
  obtain⟨i,hi⟩:=List.mem_iff_getElem?.1 ha
  exact h i (List.getElem?_eq_some_iff.1 hi).1 a hi,fun h j _ a ha=>h a (List.mem_of_getElem? ha)⟩
theorem zy7{t:Tf}(h:¬ zyk t){c:Nat}{wks:List (List Int)}(hc:t.Rates[c]? = some wks)(hl:wks.length=t.Weeks.length){K:Bool->Int->Option Bool}{b:Bool} :
  ((∀w∈wks,zy5 t w)->zs0 t (c:Int) K 1000000 b 0=K b ((c:Int)+1))/\(¬ (∀w∈wks,zy5 t w)->zs0 t (c:Int) K 1000000 b 0=some false):=by
 have hf:=few h;have hcl:c < t.Rates.length:=(List.getElem?_eq_some_iff.1 hc).1
 have key:=zsy (n:=wks.length) (F:=fun d x=>zs0 t (c:Int) K d b x) (ok:=fun j=>∀rs,wks[j]? = some rs->zy5 t rs) (bad:=some false) (fin:=K b ((c:Int)+1)) (fun d k hk=>by
  have hw:=List.getElem?_eq_getElem hk;rw[zs0,if_pos (by omega),zst hc,obs,zst hw,obs]
  by_cases hlen:wks[k].length=t.Counts.length
  ·rw[if_pos (by omega)];obtain⟨q1,q2⟩:=zy4 (t:=t) (b:=b) (K:=zs0 t (c:Int) K d) hc hw hlen hf.2.1 (by omega);exact⟨fun hok=>q1 (hok _ hw).2,fun hok=>q2 fun h'=>hok fun rs hrs=>by rw[hw] at hrs; cases hrs; exact⟨hlen,h'⟩⟩
  ·rw[if_neg (by omega)]
   exact⟨fun hok=>absurd (hok _ hw).1 hlen,fun _=>rfl⟩) (fun d=>by rw[zs0,if_neg (by omega),zrD (fI (by omega))]) (d:=1000000) (by omega)
 rw[zy6 (P:=zy5 t)] at key;exact key
theorem zy8{t:Tf}(h:¬ zyk t):Ev (zs1 t 1000000 false 0) (∀c∈t.Rates,c.length=t.Weeks.length/\∀w∈c,zy5 t w):=by
 have hf:=few h
 have key:=Ev.loop (n:=t.Rates.length) (F:=fun d x=>zs1 t d false x) (ok:=fun j=>∀c,t.Rates[j]? = some c->c.length=t.Weeks.length/\∀w∈c,zy5 t w) (fin:=some true) (P:=True) (fun d k hk=>by
  have hc:=List.getElem?_eq_getElem hk;rw[zs1,if_pos (by omega),zst hc,obs]
  by_cases hlen:t.Rates[k].length=t.Weeks.length
  ·rw[if_pos (by omega)];obtain⟨q1,q2⟩:=zy7 h (b:=false) (K:=zs1 t d) hc hlen;exact⟨fun hok=>q1 (hok _ hc).2,fun hok=>q2 fun h'=>hok fun rs hrs=>by rw[hc] at hrs; cases hrs; exact⟨hlen,h'⟩⟩
  ·rw[if_neg (by omega)]
   exact⟨fun hok=>absurd (hok _ hc).1 hlen,fun _=>rfl⟩) (fun d=>by rw[zs1,if_neg (Int.lt_irrefl _)]) (d:=1000000) (by omega) fun _=>Ev.tt trivial
 refine key.imp ⟨fun h=>zy6.1 h.1,fun h=>⟨zy6.2 h,trivial⟩⟩
theorem zy9{t:Tf}(h:¬ zyk t):Ev (zs2 t) (VT t):=by
 have hf:=few h;have hw:zyI t.Weeks:=zyY (n:=4) (by omega) (by omega);have hc:zyI t.Counts:=zyY (n:=5) (by omega) (by omega);refine Ev.imp (Ev.and zyC fun _=>Ev.and zyC fun _=>Ev.and (zyQ hw) fun _=>Ev.and (K:=t.Counts.getLast? = some 100/\t.Rates ≠ []/\∀c∈t.Rates,c.length=t.Weeks.length/\∀w∈c,zy5 t w) (zyQ hc) fun hr2=>?_) ?_
 ·obtain⟨x,hx,hx2⟩:=last_at (zyZ hr2.1.2);refine Ev.gd (fI (by omega)) (Ev.bind hx (Ev.imp (Ev.ite fun _=>Ev.itn fun _=>zy8 h) ?_));rw[hx2];refine and_congr ⟨fun h=>by rw[h],fun h=>oi h⟩ (and_congr ?_ Iff.rfl);rw[<- List.length_pos_iff]; omega
 ·refine⟨fun⟨h1,h2,h3,h4,h5,h6,h7⟩=>⟨h1,h2,⟨h3.1.1,h3.1.2,h3.2⟩,⟨h4.1.1,h4.1.2,h4.2⟩,h5,h6,h7⟩,fun h=>⟨h.frm,h.lst,⟨⟨h.wks.1,h.wks.2.1⟩,h.wks.2.2⟩,⟨⟨h.cts.1,h.cts.2.1⟩,h.cts.2.2⟩,h.c100,h.rne,h.rts⟩⟩
theorem zza{t:Tf}:Ev (ztP t) (zyk t):=by
 unfold ztP zyk
 by_cases h1:(4:Int) < (t.Weeks.length:Int)
 ·rw[if_pos h1]; exact Ev.tt (.inl (by omega))
 ·rw[if_neg h1]
  by_cases h2:(5:Int) < (t.Counts.length:Int)
  ·rw[if_pos h2]; exact Ev.tt (.inr (.inl (by omega)))
  ·rw[if_neg h2]; exact Ev.dec (by omega)
theorem zzb{l:List Tf}:Ev (zuC l) (zyl l):=by
 unfold zuC zyl
 by_cases h1:(3:Int) < (l.length:Int)
 ·rw[if_pos h1]; exact Ev.tt (.inl (by omega))
 ·rw[if_neg h1];exact(zyX (fun _ _=>zza) (zyY (n:=3) (by omega) (by omega))).ret.imp ⟨fun h=>.inr h,fun h=>h.elim (fun h=>by omega) id⟩
theorem zzc{l:List Tf}(hl:zyI l):ztM l=some (l.map (·.From)):=by
 unfold zyI at hl
 exact zsA (l:=l) (F:=ztL l) (fun t:Tf=>t.From) some (fun d k acc a ha hac=>by
  have hk:=(List.getElem?_eq_some_iff.1 ha).1
  rw[ztL,if_pos (by omega),zst ha,obs,zrD (show acc.length < 1048576 by omega),zrD (fI (by omega))]) (fun d acc=>by rw[ztL,if_neg (Int.lt_irrefl _)]) (by omega)
theorem zzd{l:List Tf}(h:l ≠ []):∃t,l[0]? = some t/\zyj l=t.Rates.length:=by
 cases l with
 | nil=>exact absurd rfl h
 | cons t l=>exact⟨t,rfl,rfl⟩
theorem zze{l:List Tf}(h:l ≠ []){t:Tf}:Ev (ztN l t) (t.Rates.length=zyj l):=by
 obtain⟨u,h1,h2⟩:=zzd h;exact Ev.bind (zsw h1) (Ev.dec (by rw[h2]; exact Int.ofNat_inj))
theorem zzf{l:List Tf}(h:¬ zyl l):l.length<=3/\∀t∈l,¬ zyk t:=by
 unfold zyl at h
 exact⟨by rcases Nat.lt_or_ge 3 l.length with h1 | h1; exact absurd (.inl h1) h; exact h1,fun t ht h1=>h (.inr ⟨t,ht,h1⟩)⟩
theorem zzg{l:List Tf}(h:¬ zyl l):Ev (zuD l) (VL l):=by
 obtain⟨h3,ht⟩:=zzf h;have hs:zyI l:=zyY h3 (by omega)
 have key:Ev (zuD l) ((∀t∈l,VT t)/\((l.map (·.From)).Pairwise (· < ·)/\(l.map (·.From)).head? = some 0)/\∀t∈l,t.Rates.length=zyj l):=by
  refine Ev.and (zyS (fun t h'=>zy3 (ht t h')) hs) fun _=>Ev.bind (zzc hs) (Ev.and (zyP (by unfold zyI; rw[List.length_map]; exact hs)) fun hr=>(zyS (fun t _=>zze (fun e=>by rw[e] at hr; cases hr.2)) hs).ret)
 exact key.imp ⟨fun⟨h1,h2,h4⟩=>⟨fun e=>(by rw[e] at h2; cases h2.2),h1,h2.1,h2.2,h4⟩,fun h=>⟨h.vt,⟨h.pw,h.hd⟩,h.crp⟩⟩
theorem zzh{l:List Tf}:zuF l=some (zym l):=by
 unfold zuF;refine zzb.pick (fun h=>?_) fun h=>?_
 ·rw[if_pos rfl]; unfold zym; rw[if_pos h]
 ·rw[if_neg (by simp)];refine(zzg h).pick (fun hv=>?_) fun hv=>?_
  ·rw[if_pos rfl]; unfold zym; rw[if_neg h,if_pos hv]
  ·rw[if_neg (by simp)]; unfold zym; rw[if_neg h,if_neg hv]
def zlv(l:List Tf)(j:Nat)(t:Tf):Prop:=VT t/\t.Rates.length=zyj l/\(j=0->t.From=0)/\(0 < j->∀u,l[j - 1]? = some u->u.From < t.From)
theorem zzi{l:List Tf}(h:¬ zyl l)(hne:l ≠ []):((∀j,j < l.length->∀t,l[j]? = some t->zlv l j t)->zs3 l (l.length+1) 0=some 0)/\(¬ (∀j,j < l.length->∀t,l[j]? = some t->zlv l j t)->zs3 l (l.length+1) 0=some 1):=by
 obtain⟨h3,ht⟩:=zzf h;obtain⟨u0,hu0,hcr⟩:=zzd hne;refine zsy (F:=zs3 l) (fun d k hk=>?_) (fun d=>by rw[zs3,if_neg (Int.lt_irrefl _),if_neg (by have:=List.length_pos_iff.2 hne; omega)]) (Nat.lt_succ_self _);have hg:=List.getElem?_eq_getElem hk;generalize l[k]=t at hg;have hT:=zy9 (ht t (List.mem_of_getElem? hg));have hgo:∀{P:Prop},(∀t',l[k]? = some t'->P)->P:=fun f=>f _ hg;rw[zs3,if_pos (by omega),zst hg,obs];have zzo:∀{P:Tf->Prop},(∀t',l[k]? = some t'->P t')↔P t:=⟨fun f=>f _ hg,fun f t' ht'=>by rw[hg] at ht'; cases ht'; exact f⟩;rw[zzo];have done:∀{o:Option Int},(VT t->t.Rates.length=zyj l->(k=0->t.From=0)->(0 < k->∀u,l[k - 1]? = some u->u.From < t.From)->o=zs3 l d ((k:Int)+1))->(¬ zlv l k t->o=some 1)->(zlv l k t->o=zs3 l d ((k:Int)+1))/\(¬ zlv l k t->o=some 1):=fun a b=>⟨fun h=>a h.1 h.2.1 h.2.2.1 h.2.2.2,b⟩;obtain⟨b,hb,hb2⟩:=hT;rw[hb,obs]
 cases b with
 | false=>rw[if_neg (by simp)]; exact⟨fun h=>(by have:=hb2.2 h.1; cases this),fun _=>rfl⟩
 | true=>
  have hv:=hb2.1 rfl;rw[if_pos rfl,obs,zsw hu0,obs]
  by_cases hr:t.Rates.length=u0.Rates.length
  ·rw[if_pos (by omega)]
   have hr':t.Rates.length=zyj l:=by omega
   by_cases h0:k=0
   ·rw[if_pos (by omega),obs]
    by_cases hf:t.From=0
    ·rw[if_pos hf,if_neg (by omega),zrD (fI (by omega))];exact⟨fun _=>rfl,fun hn=>absurd ⟨hv,hr',fun _=>hf,fun h'=>by omega⟩ hn⟩
    ·rw[if_neg hf];exact⟨fun h'=>absurd (h'.2.2.1 h0) hf,fun _=>rfl⟩
   ·rw[if_neg (by omega),if_pos (by omega),obs,zrD (fI (by omega))]
    have hp:k - 1 < l.length:=by omega
    have hgp:=List.getElem?_eq_getElem hp;generalize l[k - 1]=u at hgp;rw[zsv (by omega) hgp,obs]
    by_cases hle:t.From<=u.From
    ·rw[if_pos hle];exact⟨fun h'=>by have:=h'.2.2.2 (by omega) u hgp; omega,fun _=>rfl⟩
    ·rw[if_neg hle,zrD (fI (by omega))];exact⟨fun _=>rfl,fun hn=>absurd ⟨hv,hr',fun h'=>absurd h' h0,fun _ u' hu'=>by rw[hgp] at hu'; cases hu'; omega⟩ hn⟩
  ·rw[if_neg (by omega)];exact⟨fun h'=>by have:=h'.2.1; omega,fun _=>rfl⟩
theorem zzj{l:List Tf}(hne:l ≠ []):(∀j,j < l.length->∀t,l[j]? = some t->zlv l j t)↔VL l:=by
 have hm:∀j t,l[j]? = some t->nth (l.map (·.From)) j=t.From:=fun j t h=>zyc (by rw[List.getElem?_map,h]; rfl)
 constructor
 ·intro h;refine⟨hne,fun t ht=>?_,zyL fun j h0 hj=>?_,?_,fun t ht=>?_⟩
  ·obtain⟨i,hi⟩:=List.mem_iff_getElem?.1 ht;exact(h i (List.getElem?_eq_some_iff.1 hi).1 t hi).1
  ·rw[List.length_map] at hj;have h1:=List.getElem?_eq_getElem hj;have h2:=List.getElem?_eq_getElem (show j - 1 < l.length by omega);rw[hm _ _ h1,hm _ _ h2];exact(h j hj _ h1).2.2.2 h0 _ h2
  ·obtain⟨t,h1,_⟩:=zzd hne;have:=(h 0 (List.getElem?_eq_some_iff.1 h1).1 t h1).2.2.1 rfl
   cases l with
   | nil=>cases h1
   | cons a l=>cases h1; simp[this]
  ·obtain⟨i,hi⟩:=List.mem_iff_getElem?.1 ht;exact(h i (List.getElem?_eq_some_iff.1 hi).1 t hi).2.1
 ·intro h j hj t ht;refine⟨h.vt t (List.mem_of_getElem? ht),h.crp t (List.mem_of_getElem? ht),fun h0=>?_,fun h0 u hu=>?_⟩
  ·subst h0;have:=h.hd
   cases l with
   | nil=>cases ht
   | cons a l=>cases ht; simpa using this
  ·have:=zyM.2 h.pw j h0 (by rw[List.length_map]; exact hj)
   rwa [hm _ _ ht,hm _ _ hu] at this
theorem zzk{l:List Tf}:zs5 l=some (zym l):=by
 unfold zs5
 by_cases h1:(3:Int) < (l.length:Int)
 ·rw[if_pos h1]; unfold zym; rw[if_pos (.inl (by omega))]
 ·rw[if_neg h1]
  have key:=zsy (n:=l.length) (F:=fun d x=>zs4 l d 0 x) (ok:=fun j=>∀t,l[j]? = some t->¬ zyk t) (bad:=some 3) (fin:=zs3 l (l.length+1) 0) (fun d k hk=>by
   have hg:=List.getElem?_eq_getElem hk;generalize l[k]=t at hg;have zzo:(∀t',l[k]? = some t'->¬ zyk t')↔¬ zyk t:=⟨fun f=>f _ hg,fun f t' ht'=>by rw[hg] at ht'; cases ht'; exact f⟩;rw[zzo,zs4,if_pos (by omega),zst hg,obs];unfold zyk
   by_cases h4:(4:Int) < (t.Weeks.length:Int)
   ·rw[if_pos h4]; exact⟨fun h=>by omega,fun _=>rfl⟩
   ·rw[if_neg h4,obs]
    by_cases h5:(5:Int) < (t.Counts.length:Int)
    ·rw[if_pos h5]; exact⟨fun h=>by omega,fun _=>rfl⟩
    ·rw[if_neg h5,obs]
     by_cases h6:(3:Int) < (t.Rates.length:Int)
     ·rw[if_pos h6]; exact⟨fun h=>by omega,fun _=>rfl⟩
     ·rw[if_neg h6,zrD (fI (by omega))]; exact⟨fun _=>rfl,fun h=>by omega⟩) (fun d=>by rw[zs4,if_neg (Int.lt_irrefl _)]) (d:=l.length+1) (by omega)
  rw[zy6 (P:=fun t=>¬ zyk t)] at key
  by_cases hm:zyl l
  ·unfold zym;rw[if_pos hm];refine key.2 fun hh=>?_
   rcases hm with hm | ⟨t,ht,hm⟩
   ·omega
   ·exact hh t ht hm
  ·refine(key.1 (zzf hm).2).trans ?_;unfold zym;rw[if_neg hm]
   by_cases hne:l=[]
   ·subst hne;rw[if_neg fun h=>h.ne rfl]
    rfl
   ·obtain⟨q1,q2⟩:=zzi hm hne;rw[zzj hne] at q1 q2
    by_cases hv:VL l
    ·rw[if_pos hv,q1 hv]
    ·rw[if_neg hv,q2 hv]
theorem zzl{l:List Tf}:ztx l=some (zym l):=by unfold ztx; rw[zzk]; rfl
structure zzm (t:Tf):Prop where
 w:t.Weeks.length<=7
 c:t.Counts.length<=7
 r:t.Rates.length<=5
 rr:∀c∈t.Rates,c.length<=7/\∀w∈c,w.length<=7
def zzn(l:List Tf):Prop:=l.length<=5/\∀t∈l,zzm t
theorem zzo{α:Type}{l:List α}{k:Nat}{a:α}(h:l[k]? = some a){P:α->Prop}:(∀x,l[k]? = some x->P x)↔P a:=⟨fun f=>f _ h,fun f x hx=>by rw[h] at hx; cases hx; exact f⟩
theorem zzp{l:List Tf}{i c:Nat}{t:Tf}{wks:List (List Int)}(hi:l[i]? = some t)(hc:t.Rates[c]? = some wks)(h7:wks.length<=7)(h5:c < 5){K:Bool->Int->Option Bool}{b:Bool} :
  ((∀w∈wks,w.length<=7)->ztt l (i:Int) (c:Int) K 1000000 b 0=K b ((c:Int)+1))/\(¬ (∀w∈wks,w.length<=7)->ztt l (i:Int) (c:Int) K 1000000 b 0=some false):=by
 have key:=zsy (n:=wks.length) (F:=fun d x=>ztt l (i:Int) (c:Int) K d b x) (ok:=fun j=>∀w,wks[j]? = some w->w.length<=7) (bad:=some false) (fin:=K b ((c:Int)+1)) (fun d k hk=>by
  have hg:=List.getElem?_eq_getElem hk;generalize wks[k]=w at hg;rw[zzo hg (P:=fun w=>w.length<=7),ztt,zst hi,obs,zst hc,obs,if_pos (by omega),obs,zst hc,obs,zst hg,obs]
  by_cases h:(7:Int) < (w.length:Int)
  ·rw[if_pos h]; exact⟨fun h=>by omega,fun _=>rfl⟩
  ·rw[if_neg h,zrD (fI (by omega))]; exact⟨fun _=>rfl,fun h=>by omega⟩) (fun d=>by rw[ztt,zst hi,obs,zst hc,obs,if_neg (Int.lt_irrefl _),zrD (fI (by omega))]) (d:=1000000) (by omega)
 rw[zy6 (l:=wks) (P:=fun w:List Int=>w.length<=7)] at key;exact key
theorem zzq{l:List Tf}{i:Nat}{t:Tf}(hi:l[i]? = some t)(h5:t.Rates.length<=5)(hi5:i < 5){K:Bool->Int->Option Bool}{b:Bool} :
  ((∀c∈t.Rates,c.length<=7/\∀w∈c,w.length<=7)->ztu l (i:Int) K 1000000 b 0=K b ((i:Int)+1))/\(¬ (∀c∈t.Rates,c.length<=7/\∀w∈c,w.length<=7)->ztu l (i:Int) K 1000000 b 0=some false):=by
 have key:=zsy (n:=t.Rates.length) (F:=fun d x=>ztu l (i:Int) K d b x) (ok:=fun j=>∀c,t.Rates[j]? = some c->c.length<=7/\∀w∈c,w.length<=7) (bad:=some false) (fin:=K b ((i:Int)+1)) (fun d k hk=>by
  have hg:=List.getElem?_eq_getElem hk;generalize t.Rates[k]=c at hg;rw[zzo hg (P:=fun c=>c.length<=7/\∀w∈c,w.length<=7),ztu,zst hi,obs,if_pos (by omega),obs,zst hg,obs]
  by_cases h:(7:Int) < (c.length:Int)
  ·rw[if_pos h]; exact⟨fun h=>by omega,fun _=>rfl⟩
  ·rw[if_neg h];obtain⟨q1,q2⟩:=zzp (K:=ztu l (i:Int) K d) (b:=b) hi hg (by omega) (by omega)
   exact⟨fun h'=>q1 h'.2,fun h'=>q2 fun h2=>h' ⟨by omega,h2⟩⟩) (fun d=>by rw[ztu,zst hi,obs,if_neg (Int.lt_irrefl _),zrD (fI (by omega))]) (d:=1000000) (by omega)
 rw[zy6 (l:=t.Rates) (P:=fun c:List (List Int)=>c.length<=7/\∀w∈c,w.length<=7)] at key;exact key
theorem zzr{l:List Tf}:Ev (ztw l) (zzn l):=by
 unfold ztw zzn;refine(Ev.itn (p:=(5:Int) < (l.length:Int)) (K:=∀t∈l,zzm t) fun h5=>?_).imp (and_congr (by omega) Iff.rfl)
 have key:=Ev.loop (n:=l.length) (F:=fun d x=>ztv l d false x) (ok:=fun j=>∀t,l[j]? = some t->zzm t) (fin:=some true) (P:=True) (fun d k hk=>by
  have hg:=List.getElem?_eq_getElem hk;generalize l[k]=t at hg;rw[zzo hg (P:=zzm),ztv,if_pos (by omega),zst hg,obs]
  by_cases h1:(7:Int) < (t.Weeks.length:Int)
  ·rw[if_pos h1]; exact⟨fun h=>by have:=h.w; omega,fun _=>rfl⟩
  ·rw[if_neg h1,obs]
   by_cases h2:(7:Int) < (t.Counts.length:Int)
   ·rw[if_pos h2]; exact⟨fun h=>by have:=h.c; omega,fun _=>rfl⟩
   ·rw[if_neg h2,obs]
    by_cases h3:(5:Int) < (t.Rates.length:Int)
    ·rw[if_pos h3]; exact⟨fun h=>by have:=h.r; omega,fun _=>rfl⟩
    ·rw[if_neg h3];obtain⟨q1,q2⟩:=zzq (K:=ztv l d) (b:=false) hg (by omega) (by omega)
     exact⟨fun h=>q1 h.rr,fun h=>q2 fun h'=>h ⟨by omega,by omega,by omega,h'⟩⟩) (fun d=>by rw[ztv,if_neg (Int.lt_irrefl _)]) (d:=l.length+1) (by omega) fun _=>Ev.tt trivial
 exact key.imp ⟨fun h=>zy6.1 h.1,fun h=>⟨zy6.2 h,trivial⟩⟩
theorem zzs{l:List Int}(h:l.length<=1048576):ztq l=some l:=by unfold ztq; rw[zrD (by simp; omega)]; simp
theorem zzt{l:List Tf}{i c:Nat}{t:Tf}{wks:List (List Int)}(hi:l[i]? = some t)(hc:t.Rates[c]? = some wks)(h7:wks.length<=7)(hw:∀w∈wks,w.length<=7)(h5:c < 5){a1:Int}{a2:Bool}{a3:Int}{a4:List (List (List Int))}(h4:a4.length < 5){K:Int->Bool->Int->List (List (List Int))->Int->Option (List Tf)} :
  zva l (i:Int) a1 a2 a3 a4 (c:Int) K 1000000 [] 0=K a1 a2 a3 (a4++[wks]) ((c:Int)+1):=by
 have key:=zsA (l:=wks) (fun w=>w) (F:=fun d acc x=>zva l (i:Int) a1 a2 a3 a4 (c:Int) K d acc x) (fun acc=>K a1 a2 a3 (a4++[acc]) ((c:Int)+1)) (fun d k acc a ha hac=>by
  have hk:=(List.getElem?_eq_some_iff.1 ha).1;have hs:=hw a (List.mem_of_getElem? ha)
  rw[zva,zst hi,obs,zst hc,obs,if_pos (by omega),obs,zst hc,obs,zst ha,obs,zzs (by omega),obs,zrD (show acc.length < 1048576 by omega),zrD (fI (by omega))]) (fun d acc=>by
  rw[zva,zst hi,obs,zst hc,obs,if_neg (Int.lt_irrefl _),zrD (show a4.length < 1048576 by omega),zrD (fI (by omega))]) (d:=1000000) (by omega)
 rw[List.map_id'] at key;exact key
theorem zzu{l out:List Tf}{i:Nat}{t:Tf}(hi:l[i]? = some t)(ht:zzm t)(hi5:i < 5)(ho:out.length < 5){r1 r2:List Int}{a1:Int}{a2:Bool}{a3:Int}{K:List Tf->Int->Option (List Tf)} :
  zvb l out (i:Int) r1 r2 K 1000000 a1 a2 a3 [] 0=K (out++[⟨a1,a2,a3,r1,r2,t.Rates⟩]) ((i:Int)+1):=by
 have hr:=ht.r
 have key:=zsA (l:=t.Rates) (fun w=>w) (F:=fun d acc x=>zvb l out (i:Int) r1 r2 K d a1 a2 a3 acc x) (fun acc=>K (out++[⟨a1,a2,a3,r1,r2,acc⟩]) ((i:Int)+1)) (fun d k acc a ha hac=>by
  have hk:=(List.getElem?_eq_some_iff.1 ha).1;obtain⟨q1,q2⟩:=ht.rr a (List.mem_of_getElem? ha)
  rw[zvb,zst hi,obs,if_pos (by omega),zzt hi ha q1 q2 (by omega) (by omega)]) (fun d acc=>by
  rw[zvb,zst hi,obs,if_neg (Int.lt_irrefl _),zrD (show out.length < 1048576 by omega),zrD (fI (by omega))]) (d:=1000000) (by omega)
 rw[List.map_id'] at key;exact key
theorem zzv{l:List Tf}(h:zzn l):zvd l=some l:=by
 obtain⟨h5,ht⟩:=h
 have key:=zsA (l:=l) (fun w=>w) (F:=zvc l) some (fun d k acc a ha hac=>by
  have hk:=(List.getElem?_eq_some_iff.1 ha).1;have hT:=ht a (List.mem_of_getElem? ha);have h1:=hT.w;have h2:=hT.c;rw[zvc,if_pos (by omega),zst ha]
  simp only[obs]
  rw[zzs (by omega),obs,zzs (by omega),obs,zzu ha hT (by omega) (by omega)]) (fun d acc=>by rw[zvc,if_neg (Int.lt_irrefl _)]) (d:=l.length+1) (by omega)
 rw[List.map_id'] at key;exact key
theorem zzw{l:List Tf}:Ev (ztz l) (zzn l/\zym l=0):=Ev.and zzr fun _=>Ev.bind zzl (Ev.dec Iff.rfl)
theorem zzx{l:List Int}{n:Int}(hl:l.length<=1000):∀d (k:Nat),k < l.length->l.length - k<=d->zs6 l n d (k:Int)=some (((k+lastN (l.drop k) n:Nat):Int))
 | 0,k,hk,h=>by omega
 | d+1,k,hk,h=>by
  rw[zs6,zrD (fI (by omega))]
  by_cases h1:k+1 < l.length
  ·have e1:=List.getElem?_eq_getElem h1;rw[if_pos (by omega),zrD (fI (by omega)),show(k:Int)+1=((k+1:Nat):Int) by omega,zst e1,obs]
   have hd:l.drop k=l[k]::l[k+1]::l.drop (k+2):=by rw[List.drop_eq_getElem_cons hk,List.drop_eq_getElem_cons h1]
   have hd1:l.drop (k+1)=l[k+1]::l.drop (k+2):=List.drop_eq_getElem_cons h1
   by_cases hle:l[k+1]<=n
   ·rw[if_pos hle,zrD (fI (by omega)),zzx hl d (k+1) h1 (by omega),hd,lastN,if_pos hle,hd1]
    congr 2; omega
   ·rw[if_neg hle,hd,lastN,if_neg hle]; rfl
  ·rw[if_neg (by omega)]
   have hd:l.drop k=[l[k]]:=by rw[List.drop_eq_getElem_cons hk,List.drop_eq_nil_of_le (by omega)]
   rw[hd]; rfl
theorem zzy{l:List Int}{n:Int}(hl:l.length<=1000)(hne:l ≠ []):zs7 l n=some (lastN l n:Int):=by
 have hlen:=List.length_pos_iff.2 hne;have h:=zzx (n:=n) hl 1000000 0 hlen (by omega);rw[List.drop_zero,Nat.zero_add] at h;exact h
theorem zzz{l:List Tf}(h:VL l)(hl:l.length<=3)(d:Int):zs9 l d=some (ofN l d):=by
 have hne:l.map (·.From) ≠ []:=fun e=>h.ne (List.map_eq_nil_iff.1 e);obtain⟨h1,_⟩:=h.of d
 refine(zsA (l:=l) (fun t:Tf=>t.From) (F:=zs8 l d) (fun acc=>((zs7 acc d).bind fun r=>(idx l r).bind fun v=>some v)) (fun d k acc a ha hac=>by
  have hk:=(List.getElem?_eq_some_iff.1 ha).1
  rw[zs8,if_pos (by omega),zst ha,obs,zrD (show acc.length < 1048576 by omega),zrD (fI (by omega))]) (fun d acc=>by rw[zs8,if_neg (Int.lt_irrefl _)]) (d:=l.length+1) (by omega)).trans ?_
 rw[zzy (by rw[List.length_map]; omega) hne,obs,zst h1,obs]
theorem zzA{x y:Int}(hx:0<=x/\x<=100)(hy:0<=y/\y<=100):0<=x * y/\x * y<=10000:=by
 refine⟨Int.mul_nonneg hx.1 hy.1,?_⟩;have h1:x * y<=100 * y:=Int.mul_le_mul_of_nonneg_right hx.2 hy.1
 omega
theorem zzB{a b x y n:Int}(h1:0<=a/\a<=n)(h2:n<=b/\b<=100)(hab:a < b)(hx:0<=x/\x<=100)(hy:0<=y/\y<=100):0<=zye a b x y n/\zye a b x y n<=100:=
 ⟨zyh h1.2 h2.1 hab (Int.le_refl _) hx.1 hy.1,zyg h1.2 h2.1 hab hx.1 hy.1 hx.2 hy.2⟩
theorem Cnt.rng{t:Tf}(h:VT t){i:Nat}(hi:i < t.Counts.length):0<=nth t.Counts i/\nth t.Counts i<=100:=h.cts.2.2 _ (List.mem_of_getElem? (zyd hi))
theorem zzC{t:Tf}(h:VT t)(hf:¬ zyk t){crop day n:Int}(h0:0<=crop)(h1:crop < t.Rates.length)(hn:0<=n)(h100:n<=100):zta t crop day n=some (zyf t.Counts (zyo t crop day) n):=by
 have hfew:=few hf;obtain⟨wks,q1,q2,q3⟩:=h.rates h0 h1 day;obtain⟨b1,b2⟩:=q3.btw hn h100;have hl:=q3.lt n
 have hlr:lastN t.Counts n < (zyo t crop day).length:=by rw[q3.len]; exact hl
 have hi:=q3.at hl;unfold zta;rw[show crop=((crop.toNat:Nat):Int) by omega,zst q1,obs,zzy (by omega) (zyZ h.wks.2.1),obs,<- show crop=((crop.toNat:Nat):Int) by omega,zst q2,obs,zzy (by omega) h.cnt.ne,obs,zyJ hl,obs];unfold zyf
 dsimp only
 by_cases he:nth t.Counts (lastN t.Counts n)=n
 ·rw[if_pos he,if_pos he,zyJ hlr,obs]
 ·obtain⟨b3,b4⟩:=b2 he
  have hlr2:lastN t.Counts n+1 < (zyo t crop day).length:=by rw[q3.len]; exact b3
  have hi2:=q3.at b3;have c1:=Cnt.rng h hl;have c2:=Cnt.rng h b3
  have hcast:((lastN t.Counts n:Nat):Int)+1=((lastN t.Counts n+1:Nat):Int):=by omega
  rw[if_neg he,if_neg he,zrD (fI (by omega)),hcast,zyJ b3,obs,zyJ hlr,obs,zyJ hlr2];have hline:=zzB ⟨c1.1,b1⟩ ⟨Int.le_of_lt b4,c2.2⟩ (by omega) hi hi2;unfold zye at hline ⊢
  generalize nth t.Counts (lastN t.Counts n)=a at *
  generalize nth t.Counts (lastN t.Counts n+1)=b at *
  generalize nth (zyo t crop day) (lastN t.Counts n)=x at *
  generalize nth (zyo t crop day) (lastN t.Counts n+1)=y at *
  have p1:=zzA hi (show 0<=b - n/\b - n<=100 by omega);have p2:=zzA hi2 (show 0<=n - a/\n - a<=100 by omega);rw[zrD (fI (by omega)),zrD (by omega),zrD (by omega),zrD (fI (by omega)),zrD (fI (by omega)),obs,zrD (fI (by omega)),zrD (by omega),zrD (by omega),zrD (fI (by omega)),zrD (fI (by omega)),zrD (fI (by omega)),zrD (by omega),zrD (by omega),zrD (fI (by omega))]
theorem zzD{l:List Tf}(hf:zym l=0){crop day n:Int}(h0:0<=crop)(h1:crop < zyj l)(hn:0<=n)(h100:n<=100):ztb l crop day n=some (zyr l crop day n):=by
 obtain⟨hm,hv⟩:=zyn.1 hf;obtain⟨h3,ht⟩:=zzf hm;have hT:=hv.vof day;obtain⟨r1,r2⟩:=(hv.rts h0 h1 day).loss_rng hn h100;have hls:=hT.lst;unfold ztb;rw[zzz hv h3,obs,zzC hT (ht _ (hv.of day).2) h0 (by rw[hv.cof]; exact h1) hn h100,obs];unfold zyr zyq zyp
 generalize zyf (ofN l day).Counts (zyo (ofN l day) crop day) n=x at *
 generalize (ofN l day).Least=y at *
 by_cases h4:x < y
 ·rw[if_pos h4,if_pos h4]
 ·rw[if_neg h4,if_neg h4]
  by_cases h5:(ofN l day).Whole=true
  ·rw[if_pos h5,if_pos h5]
  ·rw[if_neg h5,if_neg h5,zrD (fI (by omega))]
theorem zzE{l:List Tf}(h:l ≠ []):ztc l=some (zyj l:Int):=by
 obtain⟨t,h1,h2⟩:=zzd h;unfold ztc; rw[zsw h1,obs,h2]
theorem zzF{x:Int}:ztR x=some false:=by unfold ztR; simp
theorem zzG{x:Int}:ztS x=some false:=by unfold ztS; simp
theorem zzH{x y:Int}:Ev (ztT x y) (x < y):=by
 unfold ztT;rw[zzF,obs,if_neg (by simp)];exact Ev.dec Iff.rfl
theorem fU{n:Int}(h:0<=n/\n < 18446744073709551616):znj .u64 n:=h
theorem zzI{l:List Int}(hp:l.Pairwise (· < ·)){i j:Nat}(hij:i<=j)(hj:j < l.length):nth l i<=nth l j:=by
 rcases Nat.lt_or_ge i j with h | h
 ·exact Int.le_of_lt (zx9 hp (zyd (by omega)) (zyd hj) h)
 ·rw[show i=j by omega]; exact Int.le_refl _
theorem zzJ{l:List Int}{x:Int}(hp:l.Pairwise (· < ·))(hl:l.length<=1048576):∀d (i j:Nat),i<=j->j<=l.length->j - i < d->(∀m,m < i->nth l m < x)->(∀m,j<=m->m < l.length->x<=nth l m) ->
  ∃(k:Nat) (f:Bool),ztV l x d (i:Int) (j:Int)=some ((k:Int),f)/\k<=l.length/\(∀m,m < k->nth l m < x)/\(∀m,k<=m->m < l.length->x<=nth l m)/\(f=true↔k < l.length/\nth l k=x)
 | 0,i,j,_,_,h,_,_=>by omega
 | d+1,i,j,hij,hj,h,hlo,hhi=>by
  rw[ztV]
  by_cases hlt:i < j
  ·have e1:zno .u64 ((i:Int)+(j:Int))=((i+j:Nat):Int):=by rw[wz (fU (by omega))]; omega
   have e2:((i+j:Nat):Int) / 2=(((i+j) / 2:Nat):Int):=by omega
   have hm:(i+j) / 2 < l.length:=by omega
   have e3:zno .i64 (((i+j) / 2:Nat):Int)=(((i+j) / 2:Nat):Int):=wz (fI (by omega));rw[if_pos (by omega),zrD (fI (by omega)),e1,zrD (by omega),zrD (by omega),zrD (by omega),e2,zrD (fU (by omega)),e3,zyJ hm,obs]
   generalize hmid:(i+j) / 2=md at *
   obtain⟨b,h1,h2⟩:=zzH (x:=nth l md) (y:=x);rw[h1,obs]
   cases b with
   | true=>
    rw[if_pos rfl,zrD (fI (by omega)),show(md:Int)+1=((md+1:Nat):Int) by omega];have h3:=h2.1 rfl;exact zzJ hp hl d (md+1) j (by omega) hj (by omega) (fun m hm'=>by have:=zzI hp (show m<=md by omega) hm; omega) hhi
   | false=>
    rw[if_neg (by simp)]
    have h3:x<=nth l md:=by
     rcases Int.lt_or_le (nth l md) x with h4 | h4
     ·have:=h2.2 h4; cases this
     ·exact h4
    exact zzJ hp hl d i md (by omega) (by omega) (by omega) hlo (fun m hm' hml=>by have:=zzI hp hm' hml; omega)
  ·have hij':i=j:=by omega
   subst hij';rw[if_neg (Int.lt_irrefl _)]
   by_cases hil:i < l.length
   ·rw[if_pos (by omega),zyJ hil,obs]
    by_cases he:nth l i=x
    ·rw[if_pos he]; exact⟨i,true,rfl,hj,hlo,hhi,⟨fun _=>⟨hil,he⟩,fun _=>rfl⟩⟩
    ·rw[if_neg he,obs,zzG,obs,if_neg (by simp)];exact⟨i,false,rfl,hj,hlo,hhi,⟨fun h=>(by cases h),fun h=>absurd h.2 he⟩⟩
   ·rw[if_neg (by omega)];exact⟨i,false,rfl,hj,hlo,hhi,⟨fun h=>(by cases h),fun h=>absurd h.1 hil⟩⟩
theorem zzK{l:List Int}{x:Int}(hp:l.Pairwise (· < ·))(hl:l.length<=1048576) :
  ∃(k:Nat) (f:Bool),ztW l x=some ((k:Int),f)/\k<=l.length/\(∀m,m < k->nth l m < x)/\(∀m,k<=m->m < l.length->x<=nth l m)/\(f=true↔k < l.length/\nth l k=x):=
 zzJ hp hl (l.length+1) 0 l.length (Nat.zero_le _) (Nat.le_refl _) (by omega) (fun m h=>by omega) (fun m h1 h2=>by omega)
theorem zzL{l:List Int}{z:Int}(h:l.head? = some z):nth l 0=z/\0 < l.length:=by
 cases l with
 | nil=>cases h
 | cons a l=>cases h; exact⟨rfl,Nat.succ_pos _⟩
theorem zzM{l:List Int}{n:Int}(hp:l.Pairwise (· < ·))(hh:l.head? = some 0)(hl:l.length<=1000)(hn:0<=n/\n<=1000):ztX l n=some (lastN l n:Int):=by
 obtain⟨k,f,h1,h2,h3,h4,_⟩:=zzK (x:=n+1) hp (by omega);obtain⟨e0,l0⟩:=zzL hh
 have hk:0 < k:=by
  rcases Nat.eq_zero_or_pos k with h | h
  ·have:=h4 0 (by omega) l0; omega
  ·exact h
 have hu:lastN l n=k - 1:=zya hp (by omega) (fun x hx=>by rw[<- zyc hx]; have:=h3 (k - 1) (by omega); omega) (fun x hx=>by
  have hlt:=(List.getElem?_eq_some_iff.1 hx).1
  rw[<- zyc hx]; have:=h4 (k - 1+1) (by omega) hlt; omega) (fun x hx=>by rw[hh] at hx; cases hx; exact hn.1)
 unfold ztX;rw[zrD (fI (by omega)),h1,obs,zrD (fI (by show _<=(k:Int) - 1/\_; omega)),hu]
 congr 1
 show(k:Int) - 1=_
 omega
theorem zzN{l:List Tf}(h:VL l)(hl:l.length<=3){d:Int}(hd:0<=d/\d<=120):ztY l d=some (ofN l d):=by
 obtain⟨h1,_⟩:=h.of d;unfold ztY;rw[zzc (zyY hl (by omega)),obs,zzM h.pw h.hd (by rw[List.length_map]; omega) (by omega),obs,zst h1,obs]
theorem zzO{t:Tf}(h:VT t)(hf:¬ zyk t){hh:Ht}(h0:0<=hh.crop)(h1:hh.crop < t.Rates.length)(hn:0<=hh.Count)(h100:hh.Count<=100)(hd:0<=hh.Day/\hh.Day<=120):zt1 t hh=some (zyf t.Counts (zyo t hh.crop hh.Day) hh.Count):=by
 obtain⟨day,n,crop⟩:=hh
 dsimp only at h0 h1 hn h100 hd
 have hfew:=few hf;obtain⟨wks,q1,q2,q3⟩:=h.rates h0 h1 day;have hc:=h.cnt;obtain⟨b1,b2⟩:=q3.btw hn h100;obtain⟨k,f,k1,k2,k3,k4,k5⟩:=zzK (x:=n) h.cts.1 (show t.Counts.length<=1048576 by omega);obtain⟨e0,l0⟩:=zzL h.cts.2.1;unfold zt1
 dsimp only
 rw[show idx t.Rates crop=idx t.Rates ((crop.toNat:Nat):Int) by rw[Int.toNat_of_nonneg h0],zst q1,obs,zzM h.wks.1 h.wks.2.1 (by omega) (by omega),obs,zst q2,obs,k1,obs]
 dsimp only
 by_cases hfl:f=true
 ·obtain⟨c1,c2⟩:=k5.1 hfl
  have hu:lastN t.Counts n=k:=by rw[<- c2]; exact hc.last_at c1
  rw[if_pos hfl,zyJ (by rw[q3.len]; exact c1),obs];unfold zyf
  dsimp only
  rw[hu,if_pos c2]
 ·have hne:∀m,m < t.Counts.length->nth t.Counts m ≠ n:=fun m hm he=>by
   rcases Nat.lt_or_ge m k with h6 | h6
   ·have:=k3 m h6; omega
   ·rcases Nat.lt_or_ge k m with h7 | h7
    ·have h8:=k4 k (Nat.le_refl _) (by omega);have:=zx9 h.cts.1 (zyd (show k < t.Counts.length by omega)) (zyd hm) h7
     omega
    ·have:m=k:=by omega
     subst this;exact hfl (k5.2 ⟨hm,he⟩)
  obtain⟨b3,b4⟩:=b2 (hne _ (hc.lt n))
  have hu:lastN t.Counts n+1=k:=by
   rcases Nat.lt_trichotomy (lastN t.Counts n+1) k with h6 | h6 | h6
   ·have:=k3 _ h6; omega
   ·exact h6
   ·have:=k4 (lastN t.Counts n) (by omega) (hc.lt n);have:=hne _ (hc.lt n)
    omega
  subst hu;have hl:=hc.lt n
  have hlr:lastN t.Counts n < (zyo t crop day).length:=by rw[q3.len]; exact hl
  have hlr2:lastN t.Counts n+1 < (zyo t crop day).length:=by rw[q3.len]; exact b3
  have hi:=q3.at hl;have hi2:=q3.at b3;have c1:=Cnt.rng h hl;have c2:=Cnt.rng h b3
  have hcast:((lastN t.Counts n+1:Nat):Int) - 1=((lastN t.Counts n:Nat):Int):=by omega
  rw[if_neg hfl,zrD (fI (by omega)),hcast,zyJ hl,obs,zyJ b3,obs,zrD (fI (by omega)),zyJ hlr,obs,zyJ hlr2];have hline:=zzB ⟨c1.1,b1⟩ ⟨Int.le_of_lt b4,c2.2⟩ (by omega) hi hi2;unfold zyf
  dsimp only
  rw[if_neg (hne _ hl)];unfold zye at hline ⊢
  generalize nth t.Counts (lastN t.Counts n)=a at *
  generalize nth t.Counts (lastN t.Counts n+1)=b at *
  generalize nth (zyo t crop day) (lastN t.Counts n)=x at *
  generalize nth (zyo t crop day) (lastN t.Counts n+1)=y at *
  have p1:=zzA hi (show 0<=b - n/\b - n<=100 by omega);have p2:=zzA hi2 (show 0<=n - a/\n - a<=100 by omega);rw[zrD (fI (by omega)),zrD (by omega),zrD (by omega),zrD (fI (by omega)),obs,zrD (fI (by omega)),zrD (by omega),zrD (by omega),zrD (fI (by omega)),zrD (fI (by omega)),zrD (fI (by omega)),zrD (by omega),zrD (by omega),zrD (fI (by omega))]
theorem zzP{t:Tf}(h:VT t)(hf:¬ zyk t){hh:Ht}(h0:0<=hh.crop)(h1:hh.crop < t.Rates.length)(hn:0<=hh.Count)(h100:hh.Count<=100)(hd:0<=hh.Day/\hh.Day<=120):zuH t hh=some (zyq t hh.crop hh.Day hh.Count):=by
 obtain⟨_,_,_,q3⟩:=h.rates h0 h1 hh.Day;have hr:=q3.loss_rng hn h100;have hls:=h.lst;unfold zuH zyq zyp;rw[zzO h hf h0 h1 hn h100 hd,obs]
 generalize zyf t.Counts (zyo t hh.crop hh.Day) hh.Count=x at *
 by_cases h4:x < t.Least
 ·rw[if_pos h4,if_pos h4]
 ·rw[if_neg h4,if_neg h4];unfold zuG
  by_cases h5:t.Whole=true
  ·rw[if_pos h5,if_pos h5,obs]; rfl
  ·rw[if_neg h5,if_neg h5,obs]
   show Option.bind (zt0 t x) _=_
   unfold zt0;rw[zrD (fI (by omega)),obs]
def zzQ(l:List Tf)(M:Option (Ht->Option Int)):Prop:=∃f,M=some f/\∀h v,f h=some v->v=zyr l h.crop h.Day h.Count
structure zzR (l:List Tf) (h:Ht):Prop where
 c:0<=h.crop/\h.crop < zyj l
 n:0<=h.Count/\h.Count<=100
 d:0<=h.Day/\h.Day<=120
theorem zzS{l:List Tf}(hf:zym l=0):0 < zyj l/\zyj l<=3:=by
 obtain⟨hm,hv⟩:=zyn.1 hf;obtain⟨h3,ht⟩:=zzf hm;obtain⟨t,h1,h2⟩:=zzd hv.ne;have hmem:=List.mem_of_getElem? h1;have:=few (ht t hmem);have:=List.length_pos_iff.2 (hv.vt t hmem).rne
 omega
theorem zzT{l:List Tf}(hf:zym l=0){M:Option (Ht->Option Int)}(hM:zzQ l M){h:Ht}(hh:zzR l h):∃M',zuK ⟨l,M⟩ h=some (zyr l h.crop h.Day h.Count,M')/\zzQ l M':=by
 obtain⟨hm,hv⟩:=zyn.1 hf;obtain⟨h3,ht⟩:=zzf hm;have hcr:=zzS hf;obtain⟨f,rfl,hf2⟩:=hM;have hc:=hh.c;have hn:=hh.n;have hd:=hh.d;unfold zuK;rw[zrD (show MK.fit h from ⟨fI (by omega),fI (by omega),fI (by omega),trivial⟩)]
 cases hg:zrW (some f) h with
 | some v=>
  rw[zr6 rfl];have:v=_:=hf2 h v hg;subst this;exact⟨_,rfl,f,rfl,hf2⟩
 | none=>
  rw[zr5 rfl,zzN hv h3 hd,obs,zzP (hv.vof _) (ht _ (hv.of _).2) hc.1 (by rw[hv.cof]; exact hc.2) hn.1 hn.2 hd,obs,zrD (show MK.fit h from ⟨fI (by omega),fI (by omega),fI (by omega),trivial⟩)];refine⟨_,rfl,_,rfl,fun k v hk=>?_⟩
  by_cases hkh:k=h
  ·subst hkh;rw[if_pos rfl] at hk;exact(oi hk).symm
  ·rw[if_neg hkh] at hk; exact hf2 k v hk
theorem zzU{l:List Tf}:zzQ l (some fun _=>none):=⟨_,rfl,fun _ _ h=>by cases h⟩
theorem zzV{l:List Tf}(hf:zym l ≠ 0):zuI l=some (⟨[],none⟩,zym l):=by unfold zuI; rw[zzh,obs,if_neg hf]
theorem zzW{l:List Tf}(hf:zym l=0):zuI l=some (⟨l,some fun _=>none⟩,0):=by unfold zuI; rw[zzh,obs,if_pos hf]
theorem zzX{l:List Tf}(hf:zym l=0){n:Int}:Ev (ztO l n) (0<=n/\n < zyj l):=by
 obtain⟨hm,hv⟩:=zyn.1 hf;obtain⟨t,h1,h2⟩:=zzd hv.ne;have:=zzS hf;refine Ev.bind (zsw h1) ?_;rw[<- h2];exact(zyH (by omega)).ret
def InN(l:List Tf)(crop day count:Int):Prop:=(0<=crop/\crop < zyj l)/\(0<=day/\day<=120)/\(0<=count/\count<=100)
theorem zzY{l:List Tf}(hf:zym l ≠ 0){c d n:Int}:zu5 l c d n=some (0,zym l):=by unfold zu5; rw[zzV hf,obs,if_neg hf]
theorem zzZ{l:List Tf}(hf:zym l=0){c d n:Int}(h:¬ InN l c d n):zu5 l c d n=some (0,2):=by
 unfold zu5;rw[zzW hf,obs,if_pos rfl]
 refine(zzX hf).pick (fun h1=>?_) fun _=>by rw[if_neg (by simp)]
 rw[if_pos rfl]
 refine zyE.pick (fun h2=>?_) fun _=>by rw[if_neg (by simp)]
 rw[if_pos rfl]
 refine zyF.pick (fun h3=>absurd ⟨h1,h2,h3⟩ h) fun _=>by rw[if_neg (by simp)]
theorem zz0{l:List Tf}(hf:zym l=0){c d n:Int}(h:InN l c d n):zu5 l c d n=some (zyr l c d n,0):=by
 obtain⟨h1,h2,h3⟩:=h;obtain⟨M',h4,_⟩:=zzT hf zzU (h:=⟨d,n,c⟩) ⟨h1,h3,h2⟩;unfold zu5;rw[zzW hf,obs,if_pos rfl,(zzX hf).some_of h1,obs,if_pos rfl,zyE.some_of h2,obs,if_pos rfl,zyF.some_of h3,obs,if_pos rfl]
 dsimp only
 rw[h4,obs]
structure zz1 (l:List Tf) (c:Clm):Prop where
 crop:0<=c.Crop/\c.Crop < zyj l
 val:0<=c.Value/\c.Value<=100000
 day:0<=c.Day.Lo/\c.Day.Lo<=c.Day.Hi/\c.Day.Hi<=120/\c.Day.Hi - c.Day.Lo<=10
 cnt:0<=c.Count.Lo/\c.Count.Lo<=c.Count.Hi/\c.Count.Hi<=100
theorem zz2{r:Rg}{p:Int->Option Bool}{q:Int->Prop}(hp:∀n,Ev (p n) (q n)):Ev (zuy r p) (r.Lo<=r.Hi/\q r.Lo/\q r.Hi):=Ev.ite fun _=>Ev.and (hp _) fun _=>(hp _).ret
theorem zz3{l:List Tf}(hf:zym l=0){c:Clm}:Ev (zuE l c) (zz1 l c):=by
 refine Ev.imp (Ev.and (zzX hf) fun _=>Ev.and zyD fun _=>Ev.and (K:=c.Day.Hi - c.Day.Lo<=10/\(c.Count.Lo<=c.Count.Hi/\(0<=c.Count.Lo/\c.Count.Lo<=100)/\(0<=c.Count.Hi/\c.Count.Hi<=100))) (zz2 (fun _=>zyE)) fun hd=>Ev.gd (fI (by omega)) (Ev.ite fun _=>(zz2 (fun _=>zyF)).ret)) ?_
 dsimp only
 exact⟨fun⟨h1,h2,h3,h4⟩=>⟨h1,h2,by omega,by omega⟩,fun h=>by
  have h3:=h.day;have h4:=h.cnt
  exact⟨h.crop,h.val,by omega,by omega⟩⟩
theorem zz4{l:List Tf}(hf:zym l=0){c:Clm}:Ev (ztd l c) (zz1 l c):=by
 obtain⟨hm,hv⟩:=zyn.1 hf;have hcr:=zzS hf;refine Ev.imp (P:=(0<=c.Crop/\c.Crop<=(zyj l:Int) - 1)/\(0<=c.Value/\c.Value<=100000)/\0<=c.Day.Lo/\c.Day.Lo<=c.Day.Hi/\c.Day.Hi<=120/\c.Day.Hi - c.Day.Lo<=10/\0<=c.Count.Lo/\c.Count.Lo<=c.Count.Hi/\c.Count.Hi<=100) (Ev.bind (zzE hv.ne) (Ev.gd (fI (by omega)) (Ev.and zyC fun _=>Ev.and zyC fun _=>Ev.ite fun h0=>Ev.ite fun h1=>Ev.ite fun h2=>Ev.gd (fI (by omega)) (Ev.ite fun _=>Ev.ite fun _=>Ev.ite fun _=>Ev.dec Iff.rfl)))) ?_
 exact⟨fun⟨h1,h2,h3⟩=>⟨by omega,h2,by omega,by omega⟩,fun h=>by
  have h1:=h.crop;have h3:=h.day;have h4:=h.cnt
  exact⟨by omega,h.val,by omega⟩⟩
open Classical in
def zz5(l:List Tf)(c:Clm):Int:=if zym l=0 then (if zz1 l c then 0 else 2) else zym l
theorem zz6{l:List Tf}{c:Clm}:zty l c=some (zz5 l c):=by
 unfold zty zz5;rw[zzl,obs]
 by_cases hf:zym l=0
 ·rw[if_pos hf,if_pos hf];refine(zz4 hf).pick (fun h=>?_) fun h=>?_
  ·rw[if_pos rfl,if_pos h]
  ·rw[if_neg (by simp),if_neg h]
 ·rw[if_neg hf,if_neg hf]
theorem zz7{l:List Tf}{c:Clm}:zz5 l c=0↔zym l=0/\zz1 l c:=by
 unfold zz5
 by_cases hf:zym l=0
 ·rw[if_pos hf]
  by_cases h:zz1 l c
  ·rw[if_pos h]; exact⟨fun _=>⟨hf,h⟩,fun _=>rfl⟩
  ·rw[if_neg h]; exact⟨fun h'=>by omega,fun h'=>absurd h'.2 h⟩
 ·rw[if_neg hf]; exact⟨fun h=>absurd h hf,fun h=>absurd h.1 hf⟩
theorem zz8{l:List Tf}{c:Clm}:Ev (ztA l c) (zzn l/\zym l=0/\zz1 l c):=Ev.and zzr fun _=>Ev.bind zz6 (Ev.dec zz7)
def zz9(c:Clm)(t:Tr):Prop:=(c.Day.Lo<=t.Day/\t.Day<=c.Day.Hi)/\(c.Count.Lo<=t.Count/\t.Count<=c.Count.Hi)
theorem zAa{c:Clm}{t:Tr}:Ev (ztQ c t) (zz9 c t):=Ev.and zyD fun _=>zyD.ret
theorem zAb{c:Clm}{t:Tr}:Ev (zte c t) (zz9 c t):=Ev.and zyC fun _=>zyC.ret
def zAc(l:List Tf)(c:Clm)(t:Tr):Int:=c.Value * zyr l c.Crop t.Day t.Count / 100
theorem zAd{l:List Tf}{cs:List Clm}(hf:zym l=0)(h5:cs.length<=5)(hc:∀c∈cs,zz1 l c):zuJ l cs=some (⟨l,some fun _=>none⟩,0):=by
 unfold zuJ;rw[zzW hf,obs,if_pos rfl,if_neg (by omega),(zyT (fun c _=>zz3 hf) (zyY h5 (by omega))).some_of hc,obs,if_pos rfl]
theorem zAe{l:List Tf}{cs:List Clm}(hf:zym l=0)(h5:cs.length<=5)(hc:¬ ∀c∈cs,zz1 l c):zuJ l cs=some (⟨[],none⟩,2):=by
 unfold zuJ;rw[zzW hf,obs,if_pos rfl,if_neg (by omega),(zyT (fun c _=>zz3 hf) (zyY h5 (by omega))).some_not hc,obs,if_neg (by simp)]
theorem zAf{l:List Tf}{cs:List Clm}(hf:zym l ≠ 0):zuJ l cs=some (⟨[],none⟩,zym l):=by
 unfold zuJ;rw[zzV hf,obs,if_neg hf]
theorem zAg{l:List Tf}{c:Clm}(hc:zz1 l c){t:Tr}(ht:zz9 c t):zzR l ⟨t.Day,t.Count,c.Crop⟩:=by
 have h1:=hc.day;have h2:=hc.cnt;obtain⟨h3,h4⟩:=ht;exact⟨hc.crop,by show 0<=t.Count/\t.Count<=100; omega,by show 0<=t.Day/\t.Day<=120; omega⟩
theorem zAh{l:List Tf}(hf:zym l=0){h:Ht}(hh:zzR l h):0<=zyr l h.crop h.Day h.Count/\zyr l h.crop h.Day h.Count<=100:=
 (zyn.1 hf).2.part_rng hh.c.1 hh.c.2 hh.n.1 hh.n.2 _
theorem zAi{v p:Int}(hv:0<=v/\v<=100000)(hp:0<=p/\p<=100):0<=v * p/\v * p<=10000000:=by
 refine⟨Int.mul_nonneg hv.1 hp.1,?_⟩;have h1:v * p<=100000 * p:=Int.mul_le_mul_of_nonneg_right hv.2 hp.1
 omega
theorem zAj{l:List Tf}(hf:zym l=0){M:Option (Ht->Option Int)}(hM:zzQ l M){c:Clm}(hc:zz1 l c){t:Tr}(ht:zz9 c t):∃M',zuL ⟨l,M⟩ c t=some (zAc l c t,M')/\zzQ l M':=by
 have hh:=zAg hc ht;obtain⟨M',h1,h2⟩:=zzT hf hM hh;have hp:=zAh hf hh;have hv:=zAi hc.val hp;have hval:=hc.val;refine⟨M',?_,h2⟩;unfold zuL;rw[h1,obs]
 dsimp only at hp hv ⊢
 rw[zrD (by omega),zrD (by omega),zrD (fI (by omega)),zrD (by omega),zrD (by omega),zrD (fI (by omega))]
 rfl
theorem zAk{l:List Tf}(hf:zym l=0){c:Clm}(hc:zz1 l c){t:Tr}(ht:zz9 c t):ztf l c t=some (zAc l c t):=by
 have hh:=zAg hc ht;have hp:=zAh hf hh;have hv:=zAi hc.val hp;have hval:=hc.val;unfold ztf;rw[zzD hf hh.c.1 hh.c.2 hh.n.1 hh.n.2,obs]
 dsimp only at hp hv ⊢
 rw[zrD (by omega),zrD (by omega),zrD (fI (by omega)),zrD (by omega),zrD (by omega),zrD (fI (by omega))]
 rfl
theorem zAl{α:Type}{a:α}{P:α->Prop}:(∀x∈[a],P x)↔P a:=by simp
theorem zAm{l:List Tf}(hf:zym l ≠ 0){c:Clm}{t:Tr}:zu6 l c t=some (0,zym l):=by unfold zu6; rw[zAf hf,obs,if_neg hf]
theorem zAn{l:List Tf}(hf:zym l=0){c:Clm}(hc:¬ zz1 l c){t:Tr}:zu6 l c t=some (0,2):=by
 unfold zu6; rw[zAe hf (by simp) (by rw[zAl]; exact hc),obs,if_neg (by decide)]
theorem zAo{l:List Tf}(hf:zym l=0){c:Clm}(hc:zz1 l c){t:Tr}(ht:¬ zz9 c t):zu6 l c t=some (0,2):=by
 unfold zu6; rw[zAd hf (by simp) (zAl.2 hc),obs,if_pos rfl,zAa.some_not ht,obs,if_neg (by simp)]
theorem zAp{l:List Tf}(hf:zym l=0){c:Clm}(hc:zz1 l c){t:Tr}(ht:zz9 c t):zu6 l c t=some (zAc l c t,0):=by
 obtain⟨M',h1,_⟩:=zAj hf zzU hc ht;unfold zu6; rw[zAd hf (by simp) (zAl.2 hc),obs,if_pos rfl,zAa.some_of ht,obs,if_pos rfl,h1,obs]
theorem zAq{c:Clm}:zto c=some c:=rfl
theorem zAr{t:Tr}:ztp t=some t:=rfl
theorem zAs{l:List Tf}(hf:zym l=0){c d:Int}(hc:0<=c/\c < zyj l)(hd:0<=d/\d<=120){r:Wk × Int}(hr:r.1.tariffs=l):∀fu (k:Nat) M,k<=101->101 - k < fu->zzQ l M->(∀j:Int,0<=j->j < k->zyr l c d j=0) ->
  (∃n:Int,0<=n/\n<=100/\zu8 c d r fu M (k:Int)=some (n,0)/\0 < zyr l c d n/\∀j,0<=j->j < n->zyr l c d j=0)\/(zu8 c d r fu M (k:Int)=some (0,7)/\∀j,0<=j->j<=100->zyr l c d j=0)
 | 0,k,M,_,h,_,_=>by omega
 | fu+1,k,M,hk,h,hM,hz=>by
  rw[zu8]
  by_cases h1:k=101
  ·subst h1;rw[if_neg (by omega)];exact .inr ⟨rfl,fun j h2 h3=>hz j h2 (by omega)⟩
  ·have hh:zzR l ⟨d,k,c⟩:=⟨hc,by show 0<=(k:Int)/\(k:Int)<=100; omega,hd⟩;obtain⟨M',h2,h3⟩:=zzT hf hM hh;have hp:=zAh hf hh
   dsimp only at h2 hp
   rw[if_pos (by omega),hr,h2,obs]
   dsimp only
   by_cases h4:0 < zyr l c d k
   ·rw[if_pos h4];exact .inl ⟨k,by omega,by omega,rfl,h4,hz⟩
   ·rw[if_neg h4,zrD (fI (by omega)),show(k:Int)+1=((k+1:Nat):Int) by omega]
    exact zAs hf hc hd hr fu (k+1) M' (by omega) (by omega) h3 fun j h5 h6=>by
     rcases Int.lt_or_le j k with h7 | h7
     ·exact hz j h5 h7
     ·have:j=k:=by omega
      subst this; omega
theorem zAt{l:List Tf}(hf:zym l=0){c d:Int}(hc:0<=c/\c < zyj l)(hd:0<=d/\d<=120) :
  (∃n:Int,0<=n/\n<=100/\zu9 l c d=some (n,0)/\0 < zyr l c d n/\∀j,0<=j->j < n->zyr l c d j=0)\/(zu9 l c d=some (0,7)/\∀j,0<=j->j<=100->zyr l c d j=0):=by
 have h:=zAs hf hc hd (r:=(⟨l,some fun _=>none⟩,0)) rfl 102 0 _ (by omega) (by omega) zzU (fun j h1 h2=>by omega);unfold zu9;rw[zzW hf,obs,if_pos rfl,(zzX hf).some_of hc,obs,if_pos rfl,zyE.some_of hd,obs,if_pos rfl];exact h
end
end Go.Proofs.Ytdedachmfbiekaa

namespace Go.Proofs.Ytdedachmfbiekaa
open _root_.Go.Proofs.Try
open Go.Abs
set_option maxRecDepth 100000
noncomputable section
theorem aw:zsW=some true:=rfl
def OkL(l:List Tf):Prop:=l.length<=maxLen/\∀a∈l,zsQ a
theorem zAu{l:List Tf}{crop day count:Int}(_:OkL l)(_:znj .i64 crop)(_:znj .i64 day)(_:znj .i64 count):zve l crop day count=some true:=by
 unfold zve
 refine zzr.pick (fun ht=>?_) fun _=>by rw[if_neg (by simp),aw,obs]
 rw[if_pos rfl,zzv ht,obs]
 by_cases hf:zym l=0
 ·have hcr:=zzS hf;have hne:=(zyn.1 hf).2.ne;have hin:∀{P:Prop},Ev (zsX crop 0 ((zyj l:Int) - 1)) (0<=crop/\crop < zyj l):=fun {_}=>zyC.imp (by omega)
  by_cases h:InN l crop day count
  ·obtain⟨h1,h2,h3⟩:=id h
   rw[zz0 hf h,obs,zzl,obs,obs,zzh,obs,if_pos rfl,if_pos hf,zzE hne,obs,zrD (fI (by omega)),
    (hin (P:=True)).some_of h1,obs,if_pos rfl,zyC.some_of h2,obs,if_pos rfl,zyC.some_of h3,obs,if_pos rfl,if_pos rfl,zzD hf h1.1 h1.2 h3.1 h3.2,obs,if_pos rfl,aw,obs]
  ·rw[zzZ hf h,obs,zzl,obs,obs,zzh,obs,if_pos rfl,if_pos hf,zzE hne,obs,zrD (fI (by omega))]
   refine(hin (P:=True)).pick (fun h1=>?_) fun _=>by rw[if_neg (by simp),if_pos rfl,if_pos rfl,aw,obs]
   rw[if_pos rfl]
   refine zyC.pick (fun h2=>?_) fun _=>by rw[if_neg (by simp),if_pos rfl,if_pos rfl,aw,obs]
   rw[if_pos rfl]
   refine zyC.pick (fun h3=>absurd ⟨h1,h2,h3⟩ h) fun _=>by rw[if_neg (by simp),if_pos rfl,if_pos rfl,aw,obs]
 ·rw[zzY hf,obs,zzl,obs,obs,zzh,obs,if_pos rfl,if_neg hf,if_pos rfl,if_pos rfl,aw,obs]
theorem zAv{l:List Tf}{c:Clm}{t:Tr}{n e p:Int}(h:zu6 l c t=some (n,e)):zu7 l c t p=some (decide (e=0) && decide (n=p)):=by
 unfold zu7;rw[h,obs]
 dsimp only
 by_cases he:e=0
 ·rw[if_pos he,decide_eq_true he,Bool.true_and]
 ·rw[if_neg he,decide_eq_false he,Bool.false_and]
theorem zAw{l:List Tf}{c:Clm}{t:Tr}{pence:Int}(_:OkL l)(_:zsS c)(_:zsU t)(_:znj .i64 pence):zvf l c t pence=some true:=by
 unfold zvf
 refine zzr.pick (fun ht=>?_) fun _=>by rw[if_neg (by simp),aw,obs]
 rw[if_pos rfl]
 simp only[zzv ht,zAq,zAr,obs,zz6,aw]
 by_cases hf:zym l=0
 ·by_cases hc:zz1 l c
  ·have h0:=zz7.2 ⟨hf,hc⟩
   by_cases htr:zz9 c t
   ·rw[zAv (zAp hf hc htr),zAp hf hc htr,obs,obs,h0,if_pos rfl,zAb.some_of htr,obs,if_pos rfl,zAk hf hc htr,obs,if_pos rfl,if_pos rfl,if_pos (by simp)]
   ·rw[zAv (zAo hf hc htr),zAo hf hc htr,obs,obs,h0,if_pos rfl,zAb.some_not htr,obs,if_neg (by simp),if_pos rfl,if_pos rfl,if_neg (by simp)]
  ·have h0:zz5 l c=2:=by unfold zz5; rw[if_pos hf,if_neg hc]
   rw[zAv (zAn hf hc),zAn hf hc,obs,obs,h0,if_neg (by decide),if_pos rfl,if_pos rfl,if_neg (by simp)]
 ·have h0:zz5 l c=zym l:=by unfold zz5; rw[if_neg hf]
  rw[zAv (zAm hf),zAm hf,obs,obs,h0,if_neg hf,if_pos rfl,if_pos rfl,if_neg (by simp[hf])]
theorem drawn{l:List Tf}(hf:zym l=0){crop day count:Int}(hc:znj .u8 crop)(hd:znj .u8 day)(hn:znj .u8 count) :
  zno .i64 crop=crop/\zno .i64 day=day/\zno .i64 count=count/\(0<=crop/\0<=day/\0<=count)/\(0 < (zyj l:Int)/\(zyj l:Int)<=3)/\InN l (crop % zyj l) (day % 121) (count % 101):=by
 have h1:=fU8 hc;have h2:=fU8 hd;have h3:=fU8 hn;have hcr:=zzS hf;have e1:=Int.emod_nonneg crop (show(zyj l:Int) ≠ 0 by omega);have e2:=Int.emod_lt_of_pos crop (show 0 < (zyj l:Int) by omega);exact⟨wz (fI (by omega)),wz (fI (by omega)),wz (fI (by omega)),⟨h1.1,h2.1,h3.1⟩,by omega,⟨e1,e2⟩,by omega,by omega⟩
theorem zAx{l:List Tf}{crop day count:Int}(_:OkL l)(hc:znj .u8 crop)(hd:znj .u8 day)(hn:znj .u8 count):zvg l crop day count=some true:=by
 unfold zvg
 refine zzw.pick (fun⟨ht,hf⟩=>?_) fun _=>by rw[if_neg (by simp),aw,obs]
 rw[if_pos rfl]
 by_cases h2:l.length < 2
 ·rw[if_pos (by omega),aw,obs]
 rw[if_neg (by omega)];obtain⟨hm,hv⟩:=zyn.1 hf;obtain⟨h3,_⟩:=zzf hm;obtain⟨w1,w2,w3,p,hcr,hin,_,hin3⟩:=drawn hf hc hd hn;have u1:=fU8 hc;have u2:=fU8 hd
 have hl1:l.length - 1 < l.length:=by omega
 have hg:=List.getElem?_eq_getElem hl1;generalize l[l.length - 1]=t at hg
 have hlast:l.getLast? = some t:=by rw[List.getLast?_eq_getElem?]; exact hg
 have hT:=hv.vt t (List.mem_of_getElem? hg)
 have hfrom:0 < t.From/\t.From<=120:=by
  refine⟨?_,hT.frm.2⟩;have h0:=List.getElem?_eq_getElem (show 0 < l.length by omega);have:=zx9 hv.pw (i:=0) (j:=l.length - 1) (x:=(l[0]).From) (y:=t.From) (by rw[List.getElem?_map,h0]; rfl) (by rw[List.getElem?_map,hg]; rfl) (by omega);have:=(hv.vt _ (List.mem_of_getElem? h0)).frm
  omega
 have e1:=Int.emod_nonneg day (show t.From ≠ 0 by omega);have e2:=Int.emod_lt_of_pos day hfrom.1
 have htk:(l.take (Int.toNat ((l.length:Int) - (1:Int)))).drop (Int.toNat (0:Int))=l.take (l.length - 1):=by
  rw[show Int.toNat ((l.length:Int) - 1)=l.length - 1 by omega]; rfl
 have hf2:=zyA hf (by omega)
 have hcr2:zyj (l.take (l.length - 1))=zyj l:=by
  have hv2:=(zyn.1 hf2).2;obtain⟨x,q1,q2⟩:=zzd hv2.ne;have:=hv.crp x (List.mem_of_mem_take (List.mem_of_getElem? q1))
  omega
 have hthin:zzn (l.take (l.length - 1)):=⟨by rw[List.length_take]; omega,fun x hx=>ht.2 x (List.mem_of_mem_take hx)⟩;have hin':InN l (crop % zyj l) (day % t.From) (count % 101):=⟨hin,by omega,hin3⟩;have hin2:InN (l.take (l.length - 1)) (crop % zyj l) (day % t.From) (count % 101):=⟨by rw[hcr2]; exact hin,by omega,hin3⟩
 have hsame:zyr (l.take (l.length - 1)) (crop % zyj l) (day % t.From) (count % 101)=zyr l (crop % zyj l) (day % t.From) (count % 101):=by
  unfold zyr; rw[zyB hv hlast _ e2 (by omega)]
 rw[w1,w2,w3,zrD (fI (by omega)),zsv (by omega) hg,obs,zzE hv.ne,obs,zrD p.1,zrD hcr.1,zrD (fI (by have:=hin; omega)),zrD p.2.1,zrD hfrom.1,zrD (fI (by omega)),zrD p.2.2,zrD (by omega),zrD (fI (by omega)),
  zzv ht,obs,zz0 hf hin',obs,zrD (fI (by omega)),zrD (by omega),htk,zzv hthin,obs,zz0 hf2 hin2,obs,if_pos rfl,if_pos rfl,if_pos hsame.symm,aw,obs]
def zAy(out:Int)(i:Nat):Prop:=out / ((2:Int) ^ i) % 2=0
theorem zAz{out:Int}(h:0<=out)(i:Nat):0<=out / ((2:Int) ^ i)/\out / ((2:Int) ^ i)<=out:=by
 have hp:(0:Int) < (2:Int) ^ i:=Int.pow_pos (by omega);exact⟨Int.ediv_nonneg h (Int.le_of_lt hp),Int.ediv_le_self _ h⟩
open Classical in
theorem zAA{l:List Int}{out:Int}(ho:0<=out/\out < 1000000000)(hl:l.length<=60){i:Nat}(hi:i < l.length){K:Bool->Int->Option Bool}{b:Bool} :
  ztk l out (i:Int) K (((l.length:Int) - ((i:Int)+1)).toNat+1) b ((i:Int)+1)=if (∀k,i+1<=k->k < l.length->(zAy out i->zAy out k->nth l i<=nth l k)) then K b ((i:Int)+1) else some false:=by
 have hw:∀k:Nat,k<=60->zno .u64 (k:Int)=(k:Int):=fun k hk=>wz (fU (by omega))
 have key:=zsx l.length (fun d x=>ztk l out (i:Int) K d b x) (fun k=>zAy out i->zAy out k->nth l i<=nth l k) (some false) (K b ((i:Int)+1)) (fun d k hk=>by
  have s1:=zAz ho.1 i;have s2:=zAz ho.1 k;have m1:=Int.emod_nonneg (out / (2:Int) ^ i) (show(2:Int) ≠ 0 by omega);have m2:=Int.emod_nonneg (out / (2:Int) ^ k) (show(2:Int) ≠ 0 by omega);have m3:=Int.emod_lt_of_pos (out / (2:Int) ^ i) (show(0:Int) < 2 by omega);have m4:=Int.emod_lt_of_pos (out / (2:Int) ^ k) (show(0:Int) < 2 by omega);rw[ztk,if_pos (by omega),hw i (by omega),hw k (by omega)]
  simp only[Int.toNat_natCast]
  rw[zrD ho.1,zrD (by omega),zrD (by omega),zrD (fI (by omega)),zrD s1.1,zrD (by omega),zrD (fI (by omega))];unfold zAy
  by_cases c1:out / (2:Int) ^ i % 2=0
  ·rw[if_pos c1,zrD ho.1,zrD (by omega),zrD (by omega),zrD (fI (by omega)),zrD s2.1,zrD (by omega),zrD (fI (by omega))]
   by_cases c2:out / (2:Int) ^ k % 2=0
   ·rw[if_pos c2,zyJ hk,obs,zyJ hi,obs]
    by_cases c3:nth l k < nth l i
    ·rw[if_pos c3,if_neg fun h=>by have:=h c1 c2; omega]
    ·rw[if_neg c3,zrD (fI (by omega)),if_pos fun _ _=>by omega]
   ·rw[if_neg c2,zrD (fI (by omega)),if_pos fun _ h=>absurd h c2]
  ·rw[if_neg c1,zrD (fI (by omega)),if_pos fun h _=>absurd h c1]) (fun d=>by rw[ztk,if_neg (Int.lt_irrefl _),zrD (fI (by omega))]) (((l.length:Int) - ((i:Int)+1)).toNat+1) (i+1) (by omega) (by omega)
 exact key
theorem zAB{l:List Int}{out:Int}(ho:0<=out/\out < 1000000000)(hl:l.length<=60):Ev (ztm l out) (∀i k,i < k->k < l.length->zAy out i->zAy out k->nth l i<=nth l k):=by
 have key:=Ev.loop (n:=l.length) (F:=fun d x=>ztl l out d false x) (ok:=fun i=>∀k,i+1<=k->k < l.length->(zAy out i->zAy out k->nth l i<=nth l k)) (fin:=some true) (P:=True) (fun d k hk=>by
  rw[ztl,if_pos (by omega),zrD (fI (by omega)),zAA ho hl hk]
  exact⟨fun h=>if_pos h,fun h=>if_neg h⟩) (fun d=>by rw[ztl,if_neg (Int.lt_irrefl _)]) (d:=l.length+1) (by omega) fun _=>Ev.tt trivial
 exact key.imp ⟨fun h i k h1 h2=>h.1 i (by omega) k (by omega) h2,fun h=>⟨fun i hi k h1 h2=>h i k (by omega) h2,trivial⟩⟩
theorem zAC(i:Nat):zAy 0 i:=by unfold zAy; simp
theorem zAD{l:List Int}(hl:l.length<=60):Ev (ztm l 0) (l.Pairwise (·<=·)):=
 (zAB (by omega) hl).imp ⟨fun h=>List.pairwise_iff_getElem.2 fun i j hi hj hij=>by
  have:=h i j hij hj (zAC _) (zAC _)
  rwa [zyc (List.getElem?_eq_getElem hi),zyc (List.getElem?_eq_getElem hj)] at this,fun h i k hik hk _ _=>by
  rw[zyc (List.getElem?_eq_getElem (show i < l.length by omega)),zyc (List.getElem?_eq_getElem hk)]
  exact List.pairwise_iff_getElem.1 h i k (by omega) hk hik⟩
theorem zAE{l:List Tf}(hf:zym l=0){c d:Int}(hc:0<=c/\c < zyj l):∃wks,idx (ofN l d).Rates c=some wks/\idx wks (lastN (ofN l d).Weeks d:Int)=some (zyo (ofN l d) c d)/\(ofN l d).Weeks.length<=4/\(ofN l d).Counts.length<=5:=by
 obtain⟨hm,hv⟩:=zyn.1 hf;have hfew:=few ((zzf hm).2 _ (hv.of d).2);obtain⟨wks,q1,q2,_⟩:=(hv.vof d).rates hc.1 (by rw[hv.cof]; exact hc.2) d;refine⟨wks,?_,zst q2,hfew.1,hfew.2.1⟩;rw[show c=((c.toNat:Nat):Int) by omega]; exact zst q1
theorem zAF{l:List Tf}{crop day count more:Int}(_:OkL l)(hc:znj .u8 crop)(hd:znj .u8 day)(hn:znj .u8 count)(hmo:znj .u8 more):zvh l crop day count more=some true:=by
 unfold zvh
 refine zzw.pick (fun⟨ht,hf⟩=>?_) fun _=>by rw[if_neg (by simp),aw,obs]
 rw[if_pos rfl];obtain⟨hm,hv⟩:=zyn.1 hf;obtain⟨h3,htm⟩:=zzf hm;obtain⟨w1,w2,w3,p,hcr,hin⟩:=drawn hf hc hd hn;have u4:=fU8 hmo;have w4:zno .i64 more=more:=wz (fI (by omega));obtain⟨i1,i2,i3⟩:=id hin;rw[zzE hv.ne,obs,w1,w2,w3,w4]
 generalize crop % (zyj l:Int)=c at *
 generalize day % 121=d at *
 generalize count % 101=n at *
 obtain⟨wks,q1,q2,q3,q4⟩:=zAE hf (d:=d) i1;have hrts:=hv.rts i1.1 i1.2 d;rw[zrD p.1,zrD hcr.1,zrD (fI (by omega)),zrD p.2.1,zrD (by omega),zrD (fI (by omega)),zrD p.2.2,zrD (by omega),zrD (fI (by omega)),zzz hv h3,obs,q1,obs,zzy (by omega) (zyZ (hv.vof d).wks.2.1),obs,q2,obs]
 refine(zAD (by rw[hrts.len]; omega)).pick (fun hr=>?_) fun _=>by rw[if_neg (by simp),aw,obs]
 have hin2:InN l c d (min 100 (n+more)):=⟨i1,i2,by omega⟩;rw[if_pos rfl,zrD (fI (by omega))]
 simp only[zzv ht,obs]
 rw[zz0 hf hin,obs,zz0 hf hin2,obs];have hmono:∀{a b:Int},0<=a->a<=b->b<=100->zyr l c d a<=zyr l c d b:=fun h1 h2 h4=>zyt (hv.vof d) (hrts.loss_mono hr h1 h2 h4) (hrts.loss_rng h1 (by omega)).1
 have hge:¬ zyr l c d (min 100 (n+more)) < zyr l c d n:=by
  have:=hmono (a:=n) (b:=min 100 (n+more)) i3.1 (by omega) (by omega)
  omega
 have hpr:=hv.part_rng i1.1 i1.2 i3.1 i3.2 d
 rcases zAt hf i1 i2 with ⟨k,k0,k1,k2,k3,k4⟩ | ⟨k2,k3⟩
 ·rw[k2,obs,if_pos rfl,if_pos rfl,if_neg hge,if_pos rfl,if_pos,aw,obs]
  dsimp only
  rw[beq_iff_eq,decide_eq_decide]
  constructor
  ·intro h
   rcases Int.lt_or_le n k with h5 | h5
   ·have:=k4 n i3.1 h5; omega
   ·exact h5
  ·intro h;have:=hmono k0 h i3.2; omega
 ·rw[k2,obs,if_pos rfl,if_pos rfl,if_neg hge,if_neg (by decide),if_pos rfl,if_pos,aw,obs]
  dsimp only
  rw[beq_iff_eq,k3 n i3.1 i3.2]; decide
theorem zAG{l:List Tf}{crop day count:Int}(_:OkL l)(hc:znj .u8 crop)(hd:znj .u8 day)(hn:znj .u8 count):zvm l crop day count=some true:=by
 unfold zvm
 refine zzw.pick (fun⟨ht,hf⟩=>?_) fun _=>by rw[if_neg (by simp),aw,obs]
 rw[if_pos rfl];obtain⟨hm,hv⟩:=zyn.1 hf;obtain⟨h3,htm⟩:=zzf hm;obtain⟨w1,w2,w3,p,hcr,hin⟩:=drawn hf hc hd hn;obtain⟨i1,i2,i3⟩:=id hin
 let z:Tf->Tf:=fun t=>{ t with Least:=0 }
 have hs:∀t∈l,zoP t (z t):=fun t _=>⟨rfl,rfl,rfl,rfl⟩
 have hf2:zym (l.map z)=0:=zyy hf hs fun t _=>by show(0:Int)<=0/\(0:Int)<=100; omega
 obtain⟨hm2,hv2⟩:=zyn.1 hf2;obtain⟨h32,htm2⟩:=zzf hm2
 have hthin:zzn (l.map z):=⟨by rw[List.length_map]; exact ht.1,fun t h=>by
  obtain⟨u,hu,rfl⟩:=List.mem_map.1 h;have:=ht.2 u hu
  exact⟨this.w,this.c,this.r,this.rr⟩⟩
 have hcr2:zyj (l.map z)=zyj l:=zyv hs;have hof:=zyz hv hs (day % 121);rw[zzE hv.ne,obs,w1,w2,w3,zrD p.1,zrD hcr.1,zrD (fI (by omega)),zrD p.2.1,zrD (by omega),zrD (fI (by omega)),zrD p.2.2,zrD (by omega),zrD (fI (by omega))]
 refine(zsA (l:=l) z (F:=fun d acc x=>zvl l crop day count (zyj l) d acc x) _ (fun d k acc a ha hac=>by
  have hk:=(List.getElem?_eq_some_iff.1 ha).1
  rw[zvl,if_pos (by omega),zst ha,obs,zrD (show acc.length < 1048576 by omega),zrD (fI (by omega))]) (fun d acc=>by rw[zvl,if_neg (Int.lt_irrefl _)]) (d:=l.length+1) (by omega)).trans ?_
 rw[w1,w2,w3];have hq:InN (l.map z) (crop % zyj l) (day % 121) (count % 101):=⟨by rw[hcr2]; exact i1,i2,i3⟩
 generalize crop % (zyj l:Int)=c at *
 generalize day % 121=d at *
 generalize count % 101=n at *
 have hT:=hv2.vof d;have hfew:=few (htm2 _ (hv2.of d).2);have hrts:=hv2.rts hq.1.1 hq.1.2 d;have hcnt:=hT.cnt;have hlt:=hcnt.lt n
 have hlt2:min (lastN (ofN (l.map z) d).Counts n+1) ((ofN (l.map z) d).Counts.length - 1) < (ofN (l.map z) d).Counts.length:=by omega
 have hI1:InN (l.map z) c d (nth (ofN (l.map z) d).Counts (lastN (ofN (l.map z) d).Counts n)):=⟨hq.1,hq.2.1,Cnt.rng hT hlt⟩;have hI2:InN (l.map z) c d (nth (ofN (l.map z) d).Counts (min (lastN (ofN (l.map z) d).Counts n+1) ((ofN (l.map z) d).Counts.length - 1))):=⟨hq.1,hq.2.1,Cnt.rng hT hlt2⟩
 have e2:min ((lastN (ofN (l.map z) d).Counts n:Int)+1) (((ofN (l.map z) d).Counts.length:Int) - 1)=((min (lastN (ofN (l.map z) d).Counts n+1) ((ofN (l.map z) d).Counts.length - 1):Nat):Int):=by omega
 rw[zzz hv2 h32,obs,zzy (by omega) hcnt.ne,obs]
 simp only[zzv hthin,obs]
 rw[zyJ hlt,obs,zz0 hf2 hI1,obs,zrD (fI (by omega)),zrD (fI (by omega)),e2,zyJ hlt2,obs,zz0 hf2 hI2,obs,zz0 hf2 hq,obs,if_pos rfl,if_pos rfl,if_pos rfl]
 have hl0:(ofN (l.map z) d).Least=0:=by rw[hof]
 have hpart:∀x,0<=x->x<=100->zyr (l.map z) c d x=zyf (ofN (l.map z) d).Counts (zyo (ofN (l.map z) d) c d) x:=fun x x0 x1=>by
  have:=(hrts.loss_rng x0 x1).1;unfold zyr zyq zyp;rw[hl0,if_neg (by omega)]
  split <;> omega
 obtain⟨b1,b2⟩:=hrts.loss_btw i3.1 i3.2;rw[hpart _ hI1.2.2.1 hI1.2.2.2,hpart _ hI2.2.2.1 hI2.2.2.2,hpart _ i3.1 i3.2,hcnt.loss_at hlt,hcnt.loss_at hlt2,if_pos b1,if_pos b2,obs]
 by_cases he:n=nth (ofN (l.map z) d).Counts (lastN (ofN (l.map z) d).Counts n)
 ·rw[if_pos he,if_pos,aw,obs]
  show zyf _ _ n=_
  unfold zyf
  dsimp only
  rw[if_pos he.symm]
 ·rw[if_neg he,aw,obs]
end
end Go.Proofs.Ytdedachmfbiekaa

namespace Go.Proofs.Ytdedachmfbiekaa
open _root_.Go.Proofs.Try
open Go.Abs
set_option maxRecDepth 100000
noncomputable section
theorem zAH{l:List Tf}{c:Clm}(h:zz1 l c){day count:Int}(hd:0<=day/\day < 256)(hn:0<=count/\count < 256) :
  ztC c day count=some ⟨c.Day.Lo+day % (c.Day.Hi - c.Day.Lo+1),c.Count.Lo+count % (c.Count.Hi - c.Count.Lo+1)⟩/\zz9 c ⟨c.Day.Lo+day % (c.Day.Hi - c.Day.Lo+1),c.Count.Lo+count % (c.Count.Hi - c.Count.Lo+1)⟩:=by
 have h1:=h.day;have h2:=h.cnt;have e1:=Int.emod_nonneg day (show c.Day.Hi - c.Day.Lo+1 ≠ 0 by omega);have e2:=Int.emod_lt_of_pos day (show 0 < c.Day.Hi - c.Day.Lo+1 by omega);have e3:=Int.emod_nonneg count (show c.Count.Hi - c.Count.Lo+1 ≠ 0 by omega);have e4:=Int.emod_lt_of_pos count (show 0 < c.Count.Hi - c.Count.Lo+1 by omega);refine⟨?_,?_,?_⟩
 ·unfold ztC;rw[wz (show znj .i64 day from fI (by omega)),wz (show znj .i64 count from fI (by omega)),zrD (fI (by omega)),zrD (fI (by omega)),zrD (by omega),zrD (by omega),zrD (fI (by omega)),zrD (fI (by omega)),zrD (fI (by omega)),zrD (fI (by omega)),zrD (by omega),zrD (by omega),zrD (fI (by omega)),zrD (fI (by omega))]
 ·show c.Day.Lo<=c.Day.Lo+_/\c.Day.Lo+_<=c.Day.Hi; omega
 ·show c.Count.Lo<=c.Count.Lo+_/\c.Count.Lo+_<=c.Count.Hi; omega
theorem zz1.val'{l:List Tf}{c:Clm}(h:zz1 l c){v:Int}(hv:0<=v/\v<=100000):zz1 l ⟨c.Crop,v,c.Day,c.Count⟩:=⟨h.crop,hv,h.day,h.cnt⟩
theorem zAI{l:List Tf}{c:Clm}{part:Int}(_:OkL l)(_:zsS c)(hp:znj .u16 part):zvi l c part=some true:=by
 unfold zvi
 refine zz8.pick (fun⟨ht,hf,hc⟩=>?_) fun _=>by rw[if_neg (by simp),aw,obs]
 rw[if_pos rfl];have u:=zss hp;have hval:=hc.val;obtain⟨p1,p2⟩:=zAH hc (day:=0) (count:=0) (by omega) (by omega);rw[p1,obs,wz (show znj .i64 part from fI (by omega))];generalize (⟨c.Day.Lo+0 % (c.Day.Hi - c.Day.Lo+1),c.Count.Lo+0 % (c.Count.Hi - c.Count.Lo+1)⟩:Tr)=t at p2;have e1:=Int.emod_nonneg part (show c.Value+1 ≠ 0 by omega);have e2:=Int.emod_lt_of_pos part (show 0 < c.Value+1 by omega);have hh:=zAg hc p2;have hpr:=zAh hf hh;have hin:InN l c.Crop t.Day t.Count:=⟨hh.c,hh.d,hh.n⟩;rw[zrD (fI (by omega)),zrD (by omega),zrD (by omega),zrD (fI (by omega)),zrD (fI (by omega)),zrD (by omega),zrD (by omega),zrD (fI (by omega)),zrD (fI (by omega))]
 simp only[zzv ht,zAq,zAr,obs,aw]
 generalize part % (c.Value+1)=a at *
 rw[zAp hf hc p2,obs,zAp hf (hc.val' (v:=a) (by omega)) p2,obs,zAp hf (hc.val' (v:=c.Value - a) (by omega)) p2,obs,zAp hf (hc.val' (v:=c.Value - c.Value % 100) (by omega)) p2,obs,zz0 hf hin,obs];unfold zAc
 dsimp only at hpr ⊢
 generalize zyr l c.Crop t.Day t.Count=P at *
 have v0:=zAi hval hpr;have v1:=zAi (v:=a) (p:=P) (by omega) hpr;have v2:=zAi (v:=c.Value - a) (p:=P) (by omega) hpr;have v3:=zAi (v:=(c.Value - c.Value % 100) / 100) (p:=P) (by omega) hpr
 have s1:c.Value * P=a * P+(c.Value - a) * P:=by rw[<- Int.add_mul]; congr 1; omega
 have s2:(c.Value - c.Value % 100) * P=100 * ((c.Value - c.Value % 100) / 100 * P):=by rw[<- Int.mul_assoc]; congr 1; omega
 rw[s2,s1];rw[s1] at v0
 generalize a * P=A at *
 generalize (c.Value - a) * P=B at *
 generalize (c.Value - c.Value % 100) / 100 * P=D at *
 rw[if_pos rfl,if_pos rfl,if_pos rfl,if_pos rfl,if_pos rfl,zrD (fI (by omega)),if_pos (by omega),zrD (fI (by omega)),zrD (fI (by omega)),if_pos (by omega),zrD (by omega),zrD (by omega),zrD (fI (by omega)),zrD (by omega),zrD (by omega),zrD (fI (by omega)),if_pos (by omega)]
theorem zAJ{α β γ:Type}(l:List α)(g1 g2 g3 g4:α->γ)(F:Nat->List γ->List γ->List γ->List γ->Int->Option β)(fin:List γ->List γ->List γ->List γ->Option β)
  (hstep:∀d (k:Nat) w x y z a,l[k]? = some a->w.length=k->x.length=k->y.length=k->z.length=k->F (d+1) w x y z (k:Int)=F d (w++[g1 a]) (x++[g2 a]) (y++[g3 a]) (z++[g4 a]) ((k:Int)+1)) (hend:∀d w x y z,F (d+1) w x y z (l.length:Int)=fin w x y z) {d:Nat} (hd:l.length < d) :
  F d [] [] [] [] 0=fin (l.map g1) (l.map g2) (l.map g3) (l.map g4):=by
 have go:∀d (k:Nat),k<=l.length->l.length - k < d->F d ((l.take k).map g1) ((l.take k).map g2) ((l.take k).map g3) ((l.take k).map g4) (k:Int)=fin (l.map g1) (l.map g2) (l.map g3) (l.map g4):=by
  intro d
  induction d with
  | zero=>intro k hk h; omega
  | succ d ih=>
   intro k hk h
   by_cases hkn:k=l.length
   ·subst hkn;rw[hend,List.take_length]
   ·have hlt:k < l.length:=by omega
    have hget:=List.getElem?_eq_getElem hlt
    have hlen:∀g:α->γ,((l.take k).map g).length=k:=fun g=>by rw[List.length_map,List.length_take]; omega
    rw[hstep d k _ _ _ _ _ hget (hlen g1) (hlen g2) (hlen g3) (hlen g4),show(k:Int)+1=((k+1:Nat):Int) by omega]
    have e:∀g:α->γ,(l.take k).map g++[g l[k]]=(l.take (k+1)).map g:=fun g=>by rw[List.take_add_one,hget,List.map_append]; rfl
    rw[e,e,e,e];exact ih (k+1) (by omega) (by omega)
 exact go d 0 (Nat.zero_le _) (by omega)
theorem zAK{f:Tf->Tf}{l:List Tf}(ht:zzn l)(hs:∀t∈l,zoP t (f t)):zzn (l.map f):=⟨by rw[List.length_map]; exact ht.1,fun t h=>by
 obtain⟨u,hu,rfl⟩:=List.mem_map.1 h;have h1:=ht.2 u hu;have s:=hs u hu
 exact⟨by rw[s.wks]; exact h1.w,by rw[s.cts]; exact h1.c,by rw[s.rts]; exact h1.r,by rw[s.rts]; exact h1.rr⟩⟩
theorem zAL{l:List Tf}{crop day count more:Int}(_:OkL l)(hc:znj .u8 crop)(hd:znj .u8 day)(hn:znj .u8 count)(hmo:znj .u8 more):zvk l crop day count more=some true:=by
 unfold zvk
 refine zzw.pick (fun⟨ht,hf⟩=>?_) fun _=>by rw[if_neg (by simp),aw,obs]
 rw[if_pos rfl];obtain⟨hm,hv⟩:=zyn.1 hf;obtain⟨h3,htm⟩:=zzf hm;obtain⟨w1,w2,w3,p,hcr,hin⟩:=drawn hf hc hd hn;obtain⟨i1,i2,i3⟩:=id hin;have u4:=fU8 hmo;have w4:zno .i64 more=more:=wz (fI (by omega))
 let z1:Tf->Tf:=fun t=>⟨t.From,t.Whole,min 100 (t.Least+more % 20),t.Weeks,t.Counts,t.Rates⟩
 let z2:Tf->Tf:=fun t=>⟨t.From,true,t.Least,t.Weeks,t.Counts,t.Rates⟩
 let z3:Tf->Tf:=fun t=>⟨t.From,false,t.Least,t.Weeks,t.Counts,t.Rates⟩
 let z4:Tf->Tf:=fun t=>⟨t.From,false,0,t.Weeks,t.Counts,t.Rates⟩
 have hs1:∀t∈l,zoP t (z1 t):=fun t _=>⟨rfl,rfl,rfl,rfl⟩;have hs2:∀t∈l,zoP t (z2 t):=fun t _=>⟨rfl,rfl,rfl,rfl⟩;have hs3:∀t∈l,zoP t (z3 t):=fun t _=>⟨rfl,rfl,rfl,rfl⟩;have hs4:∀t∈l,zoP t (z4 t):=fun t _=>⟨rfl,rfl,rfl,rfl⟩
 have f1:zym (l.map z1)=0:=zyy hf hs1 fun t h=>by have:=(hv.vt t h).lst; show 0<=min 100 (t.Least+more % 20)/\min 100 (t.Least+more % 20)<=100; omega
 have f2:zym (l.map z2)=0:=zyy hf hs2 fun t h=>(hv.vt t h).lst;have f3:zym (l.map z3)=0:=zyy hf hs3 fun t h=>(hv.vt t h).lst
 have f4:zym (l.map z4)=0:=zyy hf hs4 fun t h=>by show(0:Int)<=0/\(0:Int)<=100; omega
 rw[zzE hv.ne,obs,w1,w2,w3,zrD p.1,zrD hcr.1,zrD (fI (by omega)),zrD p.2.1,zrD (by omega),zrD (fI (by omega)),zrD p.2.2,zrD (by omega),zrD (fI (by omega))]
 refine(zAJ l z1 z2 z3 z4 (fun d w x y z i=>zvj l crop day count more (zyj l) d w x y z i) _ (fun d k w x y z a ha h1 h2 h4 h5=>by
  have hk:=(List.getElem?_eq_some_iff.1 ha).1;have hls:=(hv.vt a (List.mem_of_getElem? ha)).lst
  rw[zvj,if_pos (by omega),zst ha,obs,w4,zrD u4.1,zrD (by omega),zrD (fI (by omega)),zrD (fI (by omega)),zrD (show w.length < 1048576 by omega),obs,zrD (show x.length < 1048576 by omega),zrD (show y.length < 1048576 by omega),zrD (show z.length < 1048576 by omega),zrD (fI (by omega))]) (fun d w x y z=>by rw[zvj,if_neg (Int.lt_irrefl _)]) (d:=l.length+1) (by omega)).trans ?_
 rw[w1,w2,w3];have j1:InN (l.map z1) (crop % zyj l) (day % 121) (count % 101):=⟨by rw[zyv hs1]; exact i1,i2,i3⟩;have j2:InN (l.map z2) (crop % zyj l) (day % 121) (count % 101):=⟨by rw[zyv hs2]; exact i1,i2,i3⟩;have j3:InN (l.map z3) (crop % zyj l) (day % 121) (count % 101):=⟨by rw[zyv hs3]; exact i1,i2,i3⟩;have j4:InN (l.map z4) (crop % zyj l) (day % 121) (count % 101):=⟨by rw[zyv hs4]; exact i1,i2,i3⟩
 generalize crop % (zyj l:Int)=c at *
 generalize day % 121=d at *
 generalize count % 101=n at *
 simp only[zzv ht,zzv (zAK ht hs1),zzv (zAK ht hs2),zzv (zAK ht hs3),zzv (zAK ht hs4),obs,zz0 hf hin,zz0 f1 j1,zz0 f2 j2,zz0 f3 j3,zz0 f4 j4,zzz hv h3,aw]
 obtain⟨r1,r2⟩:=(hv.rts i1.1 i1.2 d).loss_rng i3.1 i3.2;have hT:=hv.vof d;have hls:=hT.lst;unfold zyr;rw[zyz hv hs1,zyz hv hs2,zyz hv hs3,zyz hv hs4]
 generalize ofN l d=t at *
 have hrate:∀z:Tf->Tf,zoP t (z t)->zyf (z t).Counts (zyo (z t) c d) n=zyf t.Counts (zyo t c d) n:=fun z s=>by
  unfold zyo; rw[s.cts,s.rts,s.wks]
 have k1:=hrate z1 ⟨rfl,rfl,rfl,rfl⟩;have k2:=hrate z2 ⟨rfl,rfl,rfl,rfl⟩;have k3:=hrate z3 ⟨rfl,rfl,rfl,rfl⟩;have k4:=hrate z4 ⟨rfl,rfl,rfl,rfl⟩;unfold zyq;rw[k1,k2,k3,k4]
 generalize zyf t.Counts (zyo t c d) n=x at *
 have y2:zyp (z2 t) x=if x < t.Least then 0 else x:=by
  show(if x < t.Least then 0 else if true=true then x else x - t.Least)=_
  rw[if_pos rfl]
 have y3:zyp (z3 t) x=if x < t.Least then 0 else x - t.Least:=by
  show(if x < t.Least then 0 else if false=true then x else x - t.Least)=_
  rw[if_neg (show ¬ false=true by decide)]
 have y4:zyp (z4 t) x=x:=by
  show(if x < 0 then 0 else if false=true then x else x - 0)=_
  rw[if_neg (by omega),if_neg (by decide)]; omega
 have y1:zyp (z1 t) x=if x < min 100 (t.Least+more % 20) then 0 else if t.Whole=true then x else x - min 100 (t.Least+more % 20):=rfl;have y0:zyp t x=if x < t.Least then 0 else if t.Whole=true then x else x - t.Least:=rfl
 have a1:¬ zyp t x < zyp (z1 t) x:=by
  rw[y0,y1]
  have:t.Least<=min 100 (t.Least+more % 20):=by omega
  generalize min 100 (t.Least+more % 20)=L at *
  by_cases b1:x < t.Least
  ·rw[if_pos b1,if_pos (by omega)]; omega
  ·rw[if_neg b1]
   by_cases b2:x < L
   ·rw[if_pos b2]; split <;> omega
   ·rw[if_neg b2]; split <;> omega
 rw[if_pos trivial,if_pos trivial,if_pos trivial,if_pos trivial,if_pos trivial,if_neg a1,y2,y3,y4]
 by_cases b1:x < t.Least
 ·simp only[if_pos b1]
  rw[if_neg (by omega),if_neg (by omega),if_pos trivial,if_pos trivial]
 ·simp only[if_neg b1]
  rw[if_neg (by omega),if_neg (by omega),if_pos (by omega),if_pos trivial,zrD (fI (by omega)),if_pos trivial]
theorem zAM{α β S:Type}{l:List α}(f:S->α->S)(F:Nat->S->Int->Option β)(fin:S->Option β)
  (hstep:∀d (k:Nat) s a,l[k]? = some a->F (d+1) s (k:Int)=F d (f s a) ((k:Int)+1)) (hend:∀d s,F (d+1) s (l.length:Int)=fin s) :
  ∀d (k:Nat) s,k<=l.length->l.length - k < d->F d s (k:Int)=fin ((l.drop k).foldl f s)
 | 0,k,_,_,h=>by omega
 | d+1,k,s,hk,h=>by
  by_cases hkn:k=l.length
  ·subst hkn;rw[hend,List.drop_length]; rfl
  ·have hlt:k < l.length:=by omega
   rw[hstep d k s _ (List.getElem?_eq_getElem hlt),show(k:Int)+1=((k+1:Nat):Int) by omega,zAM f F fin hstep hend d (k+1) _ (by omega) (by omega),List.drop_eq_getElem_cons hlt]; rfl
def zAN:List Int->Int | []=>0 | x::l=>l.foldl min x
def zAO:List Int->Int | []=>0 | x::l=>l.foldl max x
theorem zAP:∀(l:List Int) (x:Int),(l.foldl min x=x\/l.foldl min x∈l)/\l.foldl min x<=x/\∀y∈l,l.foldl min x<=y
 | [],x=>⟨.inl rfl,Int.le_refl _,by simp⟩
 | a::l,x=>by
  obtain⟨h1,h2,h3⟩:=zAP l (min x a);refine⟨?_,?_,?_⟩
  ·show l.foldl min (min x a)=x\/l.foldl min (min x a)∈a::l
   rcases h1 with h1 | h1
   ·rw[h1]
    rcases Int.le_total x a with h | h
    ·rw[Int.min_eq_left h]; exact .inl rfl
    ·rw[Int.min_eq_right h]; exact .inr (List.mem_cons_self ..)
   ·exact .inr (List.mem_cons_of_mem _ h1)
  ·show l.foldl min (min x a)<=x; omega
  ·intro y hy
   show l.foldl min (min x a)<=y
   rcases List.mem_cons.1 hy with rfl | hy
   ·omega
   ·exact h3 y hy
theorem zAQ:∀(l:List Int) (x:Int),(l.foldl max x=x\/l.foldl max x∈l)/\x<=l.foldl max x/\∀y∈l,y<=l.foldl max x
 | [],x=>⟨.inl rfl,Int.le_refl _,by simp⟩
 | a::l,x=>by
  obtain⟨h1,h2,h3⟩:=zAQ l (max x a);refine⟨?_,?_,?_⟩
  ·show l.foldl max (max x a)=x\/l.foldl max (max x a)∈a::l
   rcases h1 with h1 | h1
   ·rw[h1]
    rcases Int.le_total x a with h | h
    ·rw[Int.max_eq_right h]; exact .inr (List.mem_cons_self ..)
    ·rw[Int.max_eq_left h]; exact .inl rfl
   ·exact .inr (List.mem_cons_of_mem _ h1)
  ·show x<=l.foldl max (max x a); omega
  ·intro y hy
   show y<=l.foldl max (max x a)
   rcases List.mem_cons.1 hy with rfl | hy
   ·omega
   ·exact h3 y hy
theorem zAR{l:List Int}(h:l ≠ []):zAN l∈l/\∀y∈l,zAN l<=y:=by
 cases l with
 | nil=>exact absurd rfl h
 | cons x l=>
  obtain⟨h1,h2,h3⟩:=zAP l x;refine⟨?_,fun y hy=>?_⟩
  ·show l.foldl min x∈_
   rcases h1 with h1 | h1
   ·rw[h1]; exact List.mem_cons_self ..
   ·exact List.mem_cons_of_mem _ h1
  ·rcases List.mem_cons.1 hy with rfl | hy
   ·exact h2
   ·exact h3 y hy
theorem zAS{l:List Int}(h:l ≠ []):zAO l∈l/\∀y∈l,y<=zAO l:=by
 cases l with
 | nil=>exact absurd rfl h
 | cons x l=>
  obtain⟨h1,h2,h3⟩:=zAQ l x;refine⟨?_,fun y hy=>?_⟩
  ·show l.foldl max x∈_
   rcases h1 with h1 | h1
   ·rw[h1]; exact List.mem_cons_self ..
   ·exact List.mem_cons_of_mem _ h1
  ·rcases List.mem_cons.1 hy with rfl | hy
   ·exact h2
   ·exact h3 y hy
theorem zAT{l:List Int}(h:l ≠ [])(hl:zyI l):zt3 l=some (zAN l):=by
 have hl:=hl.lt
 cases l with
 | nil=>exact absurd rfl h
 | cons x l=>
  unfold zt3;rw[if_neg (by simp; omega),zsw rfl,obs]
  have key:=zAM (l:=x::l) (fun s a=>min s a) (fun d s k=>zt2 (x::l) d s k) some (fun d k s a ha=>by
   have hk:=(List.getElem?_eq_some_iff.1 ha).1;rw[zt2,if_pos (by omega),zst ha,obs]
   by_cases hc:a < s
   ·rw[if_pos hc,zrD (fI (by omega)),Int.min_eq_right (by omega)]
   ·rw[if_neg hc,zrD (fI (by omega)),Int.min_eq_left (by omega)]) (fun d s=>by rw[zt2,if_neg (Int.lt_irrefl _)]) ((x::l).length+1) 0 x (Nat.zero_le _) (by omega)
  refine key.trans ?_;rw[List.drop_zero]
  show some (l.foldl min (min x x))=_
  rw[Int.min_self]; rfl
theorem zAU{l:List Int}(h:l ≠ [])(hl:zyI l):zt5 l=some (zAO l):=by
 have hl:=hl.lt
 cases l with
 | nil=>exact absurd rfl h
 | cons x l=>
  unfold zt5;rw[if_neg (by simp; omega),zsw rfl,obs]
  have key:=zAM (l:=x::l) (fun s a=>max s a) (fun d s k=>zt4 (x::l) d s k) some (fun d k s a ha=>by
   have hk:=(List.getElem?_eq_some_iff.1 ha).1
   rw[zt4,if_pos (by omega),zst ha,obs,zrD (fI (by omega))]) (fun d s=>by rw[zt4,if_neg (Int.lt_irrefl _)]) ((((x::l).length:Int) - 1).toNat+1) 1 x (by simp) (by simp only[List.length_cons]; omega)
  exact key
def seg(lo:Int):Nat->List Int
 | 0=>[]
 | n+1=>lo::seg (lo+1) n
theorem zAV{x:Int}:∀{n:Nat} {lo:Int},x∈seg lo n↔lo<=x/\x < lo+n
 | 0,lo=>by simp[seg]
 | n+1,lo=>by
  unfold seg;rw[List.mem_cons,zAV]; omega
theorem zAW:∀{n:Nat} {lo:Int},(seg lo n).length=n
 | 0,_=>rfl
 | n+1,lo=>by unfold seg; rw[List.length_cons,zAW]
def zAX(c:Clm):List Tr:=(seg c.Day.Lo (c.Day.Hi - c.Day.Lo+1).toNat).flatMap fun d=>(seg c.Count.Lo (c.Count.Hi - c.Count.Lo+1).toNat).map fun n=>⟨d,n⟩
theorem zAY{c:Clm}(h1:c.Day.Lo<=c.Day.Hi)(h2:c.Count.Lo<=c.Count.Hi){t:Tr}:t∈zAX c↔zz9 c t:=by
 unfold zAX zz9;rw[List.mem_flatMap]
 constructor
 ·rintro⟨d,hd,ht⟩
  obtain⟨n,hn,rfl⟩:=List.mem_map.1 ht;have hd:=zAV.1 hd;have hn:=zAV.1 hn
  dsimp only
  omega
 ·intro⟨h3,h4⟩;exact⟨t.Day,zAV.2 (by omega),List.mem_map.2 ⟨t.Count,zAV.2 (by omega),rfl⟩⟩
theorem zAZ{c:Clm}{x:Int}(hx:-1000<=x/\x<=1000)(hh:-1000<=c.Count.Lo/\c.Count.Hi<=1000){K:Int->Option (List Tr)}{r:List Tr}(hK:K (x+1)=some r):∀(d n:Nat) (k:Int),c.Count.Lo<=k->n < d->k+n=c.Count.Hi+1->zuM c x K d k=some ((seg k n).map (fun n=>⟨x,n⟩)++r)
 | 0,n,k,_,h,_=>by omega
 | d+1,0,k,_,_,hk=>by
  rw[zuM,if_neg (by omega),zrD (fI (by omega)),hK]; rfl
 | d+1,n+1,k,h0,h,hk=>by
  rw[zuM,if_pos (by omega),zrD (fI (by omega)),zAZ hx hh hK d n (k+1) (by omega) (by omega) (by omega),obs]; rfl
theorem zA0{c:Clm}(hd:-1000<=c.Day.Lo/\c.Day.Hi<=1000)(hh:-1000<=c.Count.Lo/\c.Count.Hi<=1000)(h2:c.Count.Lo<=c.Count.Hi):∀(d n:Nat) (x:Int),c.Day.Lo<=x->n < d->x+n=c.Day.Hi+1->zuN c d x=some ((seg x n).flatMap fun d=>(seg c.Count.Lo (c.Count.Hi - c.Count.Lo+1).toNat).map fun n=>⟨d,n⟩)
 | 0,n,x,_,h,_=>by omega
 | d+1,0,x,_,_,hx=>by rw[zuN,if_neg (by omega)]; rfl
 | d+1,n+1,x,h0,h,hx=>by
  rw[zuN,if_pos (by omega),zAZ (by omega) hh (zA0 hd hh h2 d n (x+1) (by omega) (by omega) (by omega)) _ (c.Count.Hi - c.Count.Lo+1).toNat c.Count.Lo (Int.le_refl _) (by omega) (by omega)]; rfl
theorem zA1{l:List Tf}{c:Clm}(h:zz1 l c):zuP c=some (zAX c):=by
 have h1:=h.day;have h2:=h.cnt;unfold zuP zuO;rw[zA0 (by omega) (by omega) (by omega) _ (c.Day.Hi - c.Day.Lo+1).toNat c.Day.Lo (Int.le_refl _) (by omega) (by omega)]; rfl
theorem zA2{l:List Tf}{c:Clm}(h:zz1 l c):0 < (zAX c).length/\(zAX c).length<=1111:=by
 have h1:=h.day;have h2:=h.cnt
 have:(zAX c).length=(c.Day.Hi - c.Day.Lo+1).toNat * (c.Count.Hi - c.Count.Lo+1).toNat:=by
  unfold zAX;rw[List.length_flatMap]
  simp only[List.length_map,zAW]
  generalize (c.Day.Hi - c.Day.Lo+1).toNat=n;generalize (c.Count.Hi - c.Count.Lo+1).toNat=k;generalize c.Day.Lo=x
  induction n generalizing x with
  | zero=>simp[seg]
  | succ n ih=>unfold seg; rw[List.map_cons,List.sum_cons,ih,Nat.succ_mul]; omega
 rw[this]
 have a1:1<=(c.Day.Hi - c.Day.Lo+1).toNat:=by omega
 have a2:(c.Day.Hi - c.Day.Lo+1).toNat<=11:=by omega
 have a3:1<=(c.Count.Hi - c.Count.Lo+1).toNat:=by omega
 have a4:(c.Count.Hi - c.Count.Lo+1).toNat<=101:=by omega
 exact⟨Nat.mul_pos a1 a3,Nat.mul_le_mul a2 a4⟩
def zA3(l:List Tf)(c:Clm):Rg:=⟨zAN ((zAX c).map (zAc l c)),zAO ((zAX c).map (zAc l c))⟩
theorem zA4{l:List Tf}(hf:zym l=0){c:Clm}(hc:zz1 l c){t:Tr}(ht:zz9 c t):0<=zAc l c t/\zAc l c t<=100000:=by
 have hp:=zAh hf (zAg hc ht);have hv:=zAi hc.val hp;unfold zAc
 dsimp only at hv
 omega
theorem zA5{l:List Tf}{c:Clm}(hc:zz1 l c):(∀t,zz9 c t->(zA3 l c).Lo<=zAc l c t/\zAc l c t<=(zA3 l c).Hi)/\(∃t,zz9 c t/\zAc l c t=(zA3 l c).Lo)/\∃t,zz9 c t/\zAc l c t=(zA3 l c).Hi:=by
 have h1:=hc.day;have h2:=hc.cnt;have hm:∀{t:Tr},t∈zAX c↔zz9 c t:=zAY (by omega) (by omega)
 have hne:(zAX c).map (zAc l c) ≠ []:=fun e=>by
  have:=(zA2 hc).1;rw[List.map_eq_nil_iff.1 e] at this
  simp at this
 obtain⟨a1,a2⟩:=zAR hne;obtain⟨b1,b2⟩:=zAS hne;refine⟨fun t ht=>⟨a2 _ (List.mem_map.2 ⟨t,hm.2 ht,rfl⟩),b2 _ (List.mem_map.2 ⟨t,hm.2 ht,rfl⟩)⟩,?_,?_⟩
 ·obtain⟨t,h3,h4⟩:=List.mem_map.1 a1;exact⟨t,hm.1 h3,h4⟩
 ·obtain⟨t,h3,h4⟩:=List.mem_map.1 b1;exact⟨t,hm.1 h3,h4⟩
theorem zA6{l:List Tf}(hf:zym l=0){c:Clm}(hc:zz1 l c):0<=(zA3 l c).Lo/\(zA3 l c).Lo<=100000/\0<=(zA3 l c).Hi/\(zA3 l c).Hi<=100000:=by
 obtain⟨_,⟨t,h1,h2⟩,⟨u,h3,h4⟩⟩:=zA5 (l:=l) hc;have:=zA4 hf hc h1;have:=zA4 hf hc h3
 omega
theorem zA7{l:List Tf}(hf:zym l=0){c:Clm}(hc:zz1 l c){w:Wk}(hw:w.tariffs=l):∀(ts:List Tr) (acc:List Int) (M:Option (Ht->Option Int)),(∀t∈ts,zz9 c t)->zzQ l M->ts.length+acc.length<=1111->acc++ts.map (zAc l c) ≠ [] ->
  ∃M',zuT w c ts acc M=some (⟨zAN (acc++ts.map (zAc l c)),zAO (acc++ts.map (zAc l c))⟩,M')/\zzQ l M'
 | [],acc,M,_,hM,hl,hne=>by
  rw[List.map_nil,List.append_nil] at hne ⊢;have hs:zyI acc:=Nat.le_trans (Nat.le_trans (Nat.le_add_left _ _) hl) (by omega);refine⟨M,?_,hM⟩;rw[zuT,zAT hne hs,obs,zAU hne hs,obs]
 | t::ts,acc,M,hts,hM,hl,hne=>by
  obtain⟨M1,h1,h2⟩:=zAj hf hM hc (hts t (List.mem_cons_self ..));rw[List.length_cons] at hl;obtain⟨M',h3,h4⟩:=zA7 hf hc hw ts (acc++[zAc l c t]) M1 (fun u hu=>hts u (List.mem_cons_of_mem _ hu)) h2 (by rw[List.length_append]; simp; omega) (by simp);refine⟨M',?_,h4⟩;rw[zuT,hw,h1,obs]
  dsimp only
  rw[zrD (by omega),h3,List.append_assoc]; rfl
theorem zA8{l:List Tf}(hf:zym l=0){c:Clm}(hc:zz1 l c){M:Option (Ht->Option Int)}(hM:zzQ l M):∃M',zuU ⟨l,M⟩ c=some (zA3 l c,M')/\zzQ l M':=by
 have h1:=hc.day;have h2:=hc.cnt;have hlen:=zA2 hc;unfold zuU;rw[zA1 hc,obs]
 exact zA7 hf hc rfl (zAX c) [] M (fun t ht=>(zAY (by omega) (by omega)).1 ht) hM (by simp; omega) (by
  intro e;rw[List.nil_append] at e;rw[List.map_eq_nil_iff.1 e] at hlen
  exact absurd hlen.1 (by simp))
theorem zA9{l:List Tf}(hf:zym l=0){c:Clm}(hc:zz1 l c):zu1 l c=some (zA3 l c,0):=by
 obtain⟨M',h1,_⟩:=zA8 hf hc zzU;unfold zu1;rw[zAd hf (by simp) (zAl.2 hc),obs,if_pos rfl,h1,obs]
theorem zBa{l:List Tf}(hf:zym l=0){c:Clm}(hc:¬ zz1 l c):zu1 l c=some (⟨0,0⟩,2):=by
 unfold zu1;rw[zAe hf (by simp) (by rw[zAl]; exact hc),obs,if_neg (by decide)]
theorem zBb{l:List Tf}(hf:zym l ≠ 0){c:Clm}:zu1 l c=some (⟨0,0⟩,zym l):=by
 unfold zu1;rw[zAf hf,obs,if_neg hf]
theorem zBc{a b:Int}:ztB a b=some ⟨a,b⟩:=rfl
theorem zBd{c:Clm}{t u:Tr}(h:zz9 ⟨c.Crop,c.Value,⟨t.Day,t.Day⟩,⟨t.Count,t.Count⟩⟩ u):u=t:=by
 obtain⟨h1,h2⟩:=h
 dsimp only at h1 h2
 cases u; cases t
 simp only[Tr.mk.injEq] at *
 omega
theorem zBe{l:List Tf}{c:Clm}{wd day count:Int}(_:OkL l)(_:zsS c)(hw:znj .u8 wd)(hd:znj .u8 day)(hn:znj .u8 count):zvn l c wd day count=some true:=by
 unfold zvn
 refine zz8.pick (fun⟨ht,hf,hc⟩=>?_) fun _=>by rw[if_neg (by simp),aw,obs]
 rw[if_pos rfl];have u1:=fU8 hw;have u2:=fU8 hd;have u3:=fU8 hn;have h1:=hc.day;have h2:=hc.cnt;obtain⟨p1,p2⟩:=zAH hc (day:=day) (count:=count) u2 u3;rw[wz (show znj .i64 wd from fI (by omega))]
 rw[zrD (by omega),zrD (by omega),zrD (fI (by omega)),zrD (fI (by omega)),zrD (by omega),zrD (by omega),zrD (fI (by omega)),zrD (by omega),zrD (by omega),zrD (fI (by omega)),zrD (fI (by omega)),
  zrD (by omega),zrD (by omega),zrD (fI (by omega)),zrD (by omega),zrD (by omega),zrD (fI (by omega)),zrD (fI (by omega)),
  zrD (by omega),zrD (by omega),zrD (fI (by omega)),zrD (by omega),zrD (by omega),zrD (fI (by omega)),zrD (fI (by omega)),p1,obs]
 have hxd:max 0 (c.Day.Lo - wd % 3)<=c.Day.Lo/\c.Day.Hi<=min 120 (c.Day.Hi+wd / 3 % 3):=by omega
 have hxc:max 0 (c.Count.Lo - wd / 9 % 9)<=c.Count.Lo/\c.Count.Hi<=min 100 (c.Count.Hi+wd / 81 * 7):=by omega
 generalize max 0 (c.Day.Lo - wd % 3)=d1 at *
 generalize min 120 (c.Day.Hi+wd / 3 % 3)=d2 at *
 generalize max 0 (c.Count.Lo - wd / 9 % 9)=n1 at *
 generalize min 100 (c.Count.Hi+wd / 81 * 7)=n2 at *
 generalize (⟨c.Day.Lo+day % (c.Day.Hi - c.Day.Lo+1),c.Count.Lo+count % (c.Count.Hi - c.Count.Lo+1)⟩:Tr)=t at p2 ⊢;have p2':=p2;obtain⟨t1,t2⟩:=p2';have hy:zz1 l ⟨c.Crop,c.Value,⟨t.Day,t.Day⟩,⟨t.Count,t.Count⟩⟩:=⟨hc.crop,hc.val,by dsimp only; omega,by dsimp only; omega⟩
 simp only[zzv ht,zAq,zAr,obs,aw,zBc,zA9 hf hc,zA9 hf hy,zAp hf hc p2]
 obtain⟨a1,a2,a3⟩:=zA5 (l:=l) hc;obtain⟨_,⟨v,b2,b3⟩,⟨w,b4,b5⟩⟩:=zA5 (l:=l) hy;have hpay:=zA4 hf hc p2
 have e1:(zA3 l ⟨c.Crop,c.Value,⟨t.Day,t.Day⟩,⟨t.Count,t.Count⟩⟩).Lo=zAc l c t:=by rw[<- b3,zBd b2]; rfl
 have e2:(zA3 l ⟨c.Crop,c.Value,⟨t.Day,t.Day⟩,⟨t.Count,t.Count⟩⟩).Hi=zAc l c t:=by rw[<- b5,zBd b4]; rfl
 obtain⟨c1,c2⟩:=a1 t p2;rw[e1,e2,if_pos trivial,if_pos trivial,if_pos trivial,zrD (fI (by omega)),zrD (fI (by omega)),zrD (fI (by omega)),zrD (fI (by omega)),if_pos (by simp),if_neg (by omega),if_neg (by omega)]
 refine zz8.pick (fun⟨_,_,hx⟩=>?_) fun _=>by rw[if_neg (by simp)]
 rw[if_pos rfl,zA9 hf hx,obs,if_pos rfl];obtain⟨x1,_,_⟩:=zA5 (l:=l) hx;obtain⟨v,q1,q2⟩:=a2;obtain⟨w,q3,q4⟩:=a3
 have k1:(zA3 l ⟨c.Crop,c.Value,⟨d1,d2⟩,⟨n1,n2⟩⟩).Lo<=(zA3 l c).Lo:=by
  rw[<- q2];exact(x1 v ⟨by have:=q1.1; dsimp only; omega,by have:=q1.2; dsimp only; omega⟩).1
 have k2:(zA3 l c).Hi<=(zA3 l ⟨c.Crop,c.Value,⟨d1,d2⟩,⟨n1,n2⟩⟩).Hi:=by
  rw[<- q4];exact(x1 w ⟨by have:=q3.1; dsimp only; omega,by have:=q3.2; dsimp only; omega⟩).2
 rw[if_pos k1,if_pos k2]
theorem zBf{α β:Type}{l:List α}{F:Nat->List α->Int->Option β}(fin:List α->Option β)
  (hstep:∀d (k:Nat) acc a,l[k]? = some a->acc.length=k->F (d+1) acc (k:Int)=F d (acc++[a]) ((k:Int)+1)) (hend:∀d acc,F (d+1) acc (l.length:Int)=fin acc) {d:Nat} (hd:l.length < d):F d [] 0=fin l:=by
 have h:=zsA (l:=l) (fun a=>a) fin hstep hend hd
 rwa [List.map_id'] at h
theorem zBg{cs:List Clm}(h:cs.length<=1000):zts cs=some cs:=
 zBf (F:=ztr cs) some (fun d k acc a ha hac=>by
  have hk:=(List.getElem?_eq_some_iff.1 ha).1
  rw[ztr,if_pos (by omega),zst ha,obs,zAq,obs,zrD (show acc.length < 1048576 by omega),zrD (fI (by omega))]) (fun d acc=>by rw[ztr,if_neg (Int.lt_irrefl _)]) (Nat.lt_succ_self _)
def zBh(l:List Tf)(cs:List Clm):Rg:=⟨(cs.map fun c=>(zA3 l c).Lo).sum,(cs.map fun c=>(zA3 l c).Hi).sum⟩
theorem zBi{l:List Tf}(hf:zym l=0){cs:List Clm}(h5:cs.length<=5)(hc:∀c∈cs,zz1 l c){r:Wk × Int}(hr:r.1.tariffs=l):∀d (k:Nat) (a b:Int) M,k<=cs.length->cs.length - k < d->0<=a/\a<=100000 * k->0<=b/\b<=100000 * k->zzQ l M ->
  zu3 cs r d a b M (k:Int)=some (⟨a+((cs.drop k).map fun c=>(zA3 l c).Lo).sum,b+((cs.drop k).map fun c=>(zA3 l c).Hi).sum⟩,0)
 | 0,k,_,_,_,_,h,_,_,_=>by omega
 | d+1,k,a,b,M,hk,h,ha,hb,hM=>by
  by_cases hkn:k=cs.length
  ·subst hkn;rw[zu3,if_neg (Int.lt_irrefl _),List.drop_length]; simp
  ·have hlt:k < cs.length:=by omega
   have hget:=List.getElem?_eq_getElem hlt;have hck:=hc _ (List.getElem_mem hlt);obtain⟨M',h1,h2⟩:=zA8 hf hck hM;have hr2:=zA6 hf hck;rw[zu3,if_pos (by omega),zst hget,obs,hr,h1,obs]
   dsimp only
   rw[zrD (fI (by omega)),zrD (fI (by omega)),zrD (fI (by omega)),show(k:Int)+1=((k+1:Nat):Int) by omega,zBi hf h5 hc hr d (k+1) _ _ M' (by omega) (by omega) (by omega) (by omega) h2,List.drop_eq_getElem_cons hlt]
   simp only[List.map_cons,List.sum_cons]
   rw[Int.add_assoc,Int.add_assoc]
theorem zBj{l:List Tf}(hf:zym l=0){cs:List Clm}(h5:cs.length<=5)(hc:∀c∈cs,zz1 l c):zu4 l cs=some (zBh l cs,0):=by
 unfold zu4;rw[zAd hf h5 hc,obs,if_pos rfl];have h:=zBi hf h5 hc (r:=(⟨l,some fun _=>none⟩,0)) rfl (cs.length+1) 0 0 0 _ (Nat.zero_le _) (by omega) (by omega) (by omega) zzU;rw[List.drop_zero,Int.zero_add,Int.zero_add] at h;exact h
theorem zBk{l:List Tf}(hf:zym l=0):∀{cs:List Clm},(∀c∈cs,zz1 l c)->0<=(zBh l cs).Lo/\(zBh l cs).Lo<=100000 * cs.length/\0<=(zBh l cs).Hi/\(zBh l cs).Hi<=100000 * cs.length
 | [],_=>by simp[zBh]
 | c::cs,h=>by
  have h1:=zBk hf (cs:=cs) fun c hc=>h c (List.mem_cons_of_mem _ hc);have h2:=zA6 hf (h c (List.mem_cons_self ..));unfold zBh at h1 ⊢
  simp only[List.map_cons,List.sum_cons,List.length_cons] at h1 ⊢
  omega
theorem zBl{l:List Tf}{cs ds:List Clm}(h:cs.Perm ds):zBh l cs=zBh l ds:=by
 have hs:∀{a b:List Int},a.Perm b->a.sum=b.sum:=fun h=>by
  induction h with
  | nil=>rfl
  | cons x _ ih=>simp only[List.sum_cons,ih]
  | swap x y l=>simp only[List.sum_cons]; omega
  | trans _ _ h1 h2=>exact h1.trans h2
 unfold zBh;rw[hs (h.map _),hs (h.map _)]
theorem zBm{l:List Tf}{cs:List Clm}{c:Clm}:(zBh l (cs++[c])).Lo=(zBh l cs).Lo+(zA3 l c).Lo/\(zBh l (cs++[c])).Hi=(zBh l cs).Hi+(zA3 l c).Hi:=by
 unfold zBh
 simp[List.sum_append]
def zBn(cs:List Clm)(w:Nat):List Clm:=cs.drop (w % cs.length)++cs.take (w % cs.length)
theorem zBo{cs:List Clm}{w:Nat}:(zBn cs w).Perm cs:=by
 unfold zBn;exact List.perm_append_comm.trans (by rw[List.take_append_drop])
theorem zBp{cs:List Clm}{w:Nat}:(zBn cs w).length=cs.length:=zBo.length_eq
theorem zBq{cs:List Clm}{w k:Nat}(hk:k < cs.length):(zBn cs w)[k]? = cs[(k+w) % cs.length]?:=by
 unfold zBn;have hm:w % cs.length < cs.length:=Nat.mod_lt _ (by omega)
 have e:(k+w) % cs.length=(k+w % cs.length) % cs.length:=by rw[Nat.add_mod,Nat.add_mod k (w % cs.length),Nat.mod_mod]
 rw[e]
 by_cases h:k < cs.length - w % cs.length
 ·rw[List.getElem?_append_left (by rw[List.length_drop]; exact h),List.getElem?_drop,Nat.mod_eq_of_lt (show k+w % cs.length < cs.length by omega),Nat.add_comm]
 ·rw[List.getElem?_append_right (by rw[List.length_drop]; omega),List.length_drop,List.getElem?_take,if_pos (by omega)]
  have:(k+w % cs.length) % cs.length=k - (cs.length - w % cs.length):=by
   rw[show k+w % cs.length=k - (cs.length - w % cs.length)+cs.length by omega,Nat.add_mod_right,Nat.mod_eq_of_lt (by omega)]
  rw[this]
theorem zBr{l:List Tf}{claims:List Clm}{more:Clm}{wd:Int}(_:OkL l)(_:claims.length<=maxLen/\∀a∈claims,zsS a)(_:zsS more)(hw:znj .u8 wd):zvq l claims more wd=some true:=by
 unfold zvq
 refine zz8.pick (fun⟨ht,hf,hmo⟩=>?_) fun _=>by rw[if_neg (by simp),aw,obs]
 rw[if_pos rfl];have u1:=fU8 hw
 by_cases h4:claims.length<=4
 ·rw[if_neg (by omega)]
  obtain⟨q1,q2⟩:=zsy (n:=claims.length) (F:=fun d x=>zvp l claims more wd d x) (ok:=fun j=>∀c,claims[j]? = some c->zz1 l c) (bad:=some true) (fin:=zvo l claims more wd (claims.length+1) [] 0) (fun d k hk=>by
   have hg:=List.getElem?_eq_getElem hk;generalize claims[k]=c at hg;rw[zzo hg (P:=zz1 l),zvp,if_pos (by omega),zst hg,obs];obtain⟨b,hb1,hb2⟩:=zz8 (l:=l) (c:=c);rw[hb1,obs]
   cases b with
   | true=>rw[if_pos rfl,zrD (fI (by omega))]; exact⟨fun _=>rfl,fun h=>absurd (hb2.1 rfl).2.2 h⟩
   | false=>rw[if_neg (by simp),aw,obs]; exact⟨fun h=>(by have:=hb2.2 ⟨ht,hf,h⟩; cases this),fun _=>rfl⟩) (fun d=>by rw[zvp,if_neg (Int.lt_irrefl _)]) (d:=claims.length+1) (by omega)
  rw[zy6 (P:=zz1 l)] at q1 q2
  by_cases hall:∀c∈claims,zz1 l c
  ·rw[q1 hall]
   have hloop:zvo l claims more wd (claims.length+1) [] 0=zvo l claims more wd 1 (zBn claims wd.toNat) (claims.length:Int):=by
    have hr:=zBp (cs:=claims) (w:=wd.toNat)
    have hend:∀d acc,zvo l claims more wd (d+1) acc (claims.length:Int)=zvo l claims more wd 1 acc (claims.length:Int):=fun d acc=>by
     rw[zvo,zvo,if_neg (Int.lt_irrefl _),if_neg (Int.lt_irrefl _)]
    refine zBf (l:=zBn claims wd.toNat) (F:=fun d acc x=>zvo l claims more wd d acc x) (fun acc=>zvo l claims more wd 1 acc (claims.length:Int)) (fun d k acc a ha hac=>?_) (fun d acc=>by rw[hr]; exact hend d acc) (by rw[hr]; exact Nat.lt_succ_self _)
    have hk:k < claims.length:=by rw[<- hr]; exact(List.getElem?_eq_some_iff.1 ha).1
    rw[zBq hk] at ha
    have e:((k:Int)+wd) % (claims.length:Int)=(((k+wd.toNat) % claims.length:Nat):Int):=by
     have hw':wd=((wd.toNat:Nat):Int):=by omega
     generalize wd.toNat=w at hw';subst hw';rw[<- Int.natCast_add]; exact(Int.natCast_emod _ _).symm
    have hm:=Nat.mod_lt (k+wd.toNat) (show 0 < claims.length by omega);rw[zvo,if_pos (by omega),wz (show znj .i64 wd from fI (by omega)),zrD (fI (by omega)),zrD (by omega),zrD (by omega),e,zrD (fI (by omega)),zst ha,obs,zrD (show acc.length < 1048576 by omega),zrD (fI (by omega))]
   rw[hloop,zvo,if_neg (Int.lt_irrefl _)];have hp:=zBo (cs:=claims) (w:=wd.toNat);have hr:=zBp (cs:=claims) (w:=wd.toNat)
   generalize zBn claims wd.toNat=tu at *
   have htu:∀c∈tu,zz1 l c:=fun c hc=>hall c (hp.mem_iff.1 hc)
   have htm:∀c∈tu++[more],zz1 l c:=fun c hc=>by
    rcases List.mem_append.1 hc with hc | hc
    ·exact htu c hc
    ·rw[List.mem_singleton.1 hc]; exact hmo
   have s1:=zBk hf hall;have s3:=zA6 hf hmo;obtain⟨s4,s5⟩:=zBm (l:=l) (cs:=tu) (c:=more);have e1:=zBl (l:=l) hp;rw[e1] at s4 s5
   simp only[zzv ht,zAq,obs,aw,zBc,zBg (show claims.length<=1000 by omega),zBg (show tu.length<=1000 by omega),zA9 hf hmo,zBj hf (show claims.length<=5 by omega) hall,zBj hf (show tu.length<=5 by omega) htu]
   rw[zrD (by simp; omega),zBg (by rw[List.length_append]; simp; omega),obs,zBj hf (by rw[List.length_append]; simp; omega) htm,obs]
   dsimp only
   rw[e1,s4,s5]
   have hl1:(claims.length:Int)<=4:=by omega
   rw[if_pos trivial,if_pos trivial,if_pos trivial,if_pos rfl,zrD (fI (by omega)),zrD (fI (by omega)),zrD (fI (by omega)),zrD (fI (by omega)),if_pos (by simp),zrD (fI (by omega)),zrD (fI (by omega)),zrD (fI (by omega)),zrD (fI (by omega)),zrD (fI (by omega)),zrD (fI (by omega)),if_pos (by simp)]
   by_cases h0:0 < claims.length
   ·rw[if_pos (by omega)]
   ·have hnil:claims=[]:=List.eq_nil_of_length_eq_zero (by omega);subst hnil;rw[if_neg (by simp),zrD (fI (by omega)),zrD (fI (by omega)),zrD (fI (by omega)),zrD (fI (by omega)),if_pos (by simp[zBh])]
  ·exact q2 hall
 ·rw[if_pos (by omega),aw,obs]
def zBs(l:List Tf)(c:Clm)(b a:Tr):Tr:=if zAc l c a < zAc l c b then a else b
def zBt(l:List Tf)(c:Clm)(b a:Tr):Tr:=if zAc l c b < zAc l c a then a else b
def zBu(l:List Tf)(c:Clm):List Tr->Tr | []=>⟨0,0⟩ | t::ts=>ts.foldl (zBs l c) t
def zBv(l:List Tf)(c:Clm):List Tr->Tr | []=>⟨0,0⟩ | t::ts=>ts.foldl (zBt l c) t
theorem zBw{l:List Tf}{c:Clm}:∀(ts:List Tr) (t:Tr),zAc l c (ts.foldl (zBs l c) t)=(ts.map (zAc l c)).foldl min (zAc l c t)/\(ts.foldl (zBs l c) t=t\/ts.foldl (zBs l c) t∈ts)
 | [],t=>⟨rfl,.inl rfl⟩
 | a::ts,t=>by
  obtain⟨h1,h2⟩:=zBw (l:=l) (c:=c) ts (zBs l c t a)
  have e:zAc l c (zBs l c t a)=min (zAc l c t) (zAc l c a):=by
   unfold zBs
   split <;> omega
  refine⟨?_,?_⟩
  ·show zAc l c (ts.foldl (zBs l c) (zBs l c t a))=(ts.map (zAc l c)).foldl min (min (zAc l c t) (zAc l c a))
   rw[h1,e]
  ·show ts.foldl (zBs l c) (zBs l c t a)=t\/ts.foldl (zBs l c) (zBs l c t a)∈a::ts
   rcases h2 with h2 | h2
   ·rw[h2]; unfold zBs
    split
    ·exact .inr (List.mem_cons_self ..)
    ·exact .inl rfl
   ·exact .inr (List.mem_cons_of_mem _ h2)
theorem zBx{l:List Tf}{c:Clm}:∀(ts:List Tr) (t:Tr),zAc l c (ts.foldl (zBt l c) t)=(ts.map (zAc l c)).foldl max (zAc l c t)/\(ts.foldl (zBt l c) t=t\/ts.foldl (zBt l c) t∈ts)
 | [],t=>⟨rfl,.inl rfl⟩
 | a::ts,t=>by
  obtain⟨h1,h2⟩:=zBx (l:=l) (c:=c) ts (zBt l c t a)
  have e:zAc l c (zBt l c t a)=max (zAc l c t) (zAc l c a):=by
   unfold zBt
   split <;> omega
  refine⟨?_,?_⟩
  ·show zAc l c (ts.foldl (zBt l c) (zBt l c t a))=(ts.map (zAc l c)).foldl max (max (zAc l c t) (zAc l c a))
   rw[h1,e]
  ·show ts.foldl (zBt l c) (zBt l c t a)=t\/ts.foldl (zBt l c) (zBt l c t a)∈a::ts
   rcases h2 with h2 | h2
   ·rw[h2]; unfold zBt
    split
    ·exact .inr (List.mem_cons_self ..)
    ·exact .inl rfl
   ·exact .inr (List.mem_cons_of_mem _ h2)
theorem zBy{l:List Tf}{c:Clm}(hc:zz1 l c):∃t ts,zAX c=t::ts:=by
 have:=(zA2 hc).1
 cases h:zAX c with
 | nil=>rw[h] at this; simp at this
 | cons t ts=>exact⟨t,ts,rfl⟩
theorem zBz{l:List Tf}{c:Clm}(hc:zz1 l c){t:Tr}:t∈zAX c↔zz9 c t:=by
 have h1:=hc.day;have h2:=hc.cnt;exact zAY (by omega) (by omega)
theorem zBA{l:List Tf}{c:Clm}(hc:zz1 l c):zz9 c (zBu l c (zAX c))/\zAc l c (zBu l c (zAX c))=(zA3 l c).Lo:=by
 obtain⟨t,ts,h⟩:=zBy hc;obtain⟨h1,h2⟩:=zBw (l:=l) (c:=c) ts t;refine⟨(zBz hc).1 ?_,?_⟩
 ·rw[h]
  show ts.foldl (zBs l c) t∈_
  rcases h2 with h2 | h2
  ·rw[h2]; exact List.mem_cons_self ..
  ·exact List.mem_cons_of_mem _ h2
 ·unfold zA3; rw[h]; exact h1
theorem zBB{l:List Tf}{c:Clm}(hc:zz1 l c):zz9 c (zBv l c (zAX c))/\zAc l c (zBv l c (zAX c))=(zA3 l c).Hi:=by
 obtain⟨t,ts,h⟩:=zBy hc;obtain⟨h1,h2⟩:=zBx (l:=l) (c:=c) ts t;refine⟨(zBz hc).1 ?_,?_⟩
 ·rw[h]
  show ts.foldl (zBt l c) t∈_
  rcases h2 with h2 | h2
  ·rw[h2]; exact List.mem_cons_self ..
  ·exact List.mem_cons_of_mem _ h2
 ·unfold zA3; rw[h]; exact h1
theorem zBC{x y:Int}:ztU x y=some (if x < y then -1 else if y < x then 1 else 0):=by
 unfold ztU;rw[zzF,obs,zzF,obs,if_neg (by simp),if_neg (by simp)]
 split
 ·rfl
 ·split <;> rfl
theorem zBD{l:List Tf}(hf:zym l=0){M:Option (Ht->Option Int)}(hM:zzQ l M){c:Clm}(hc:zz1 l c){t u:Tr}(ht:zz9 c t)(hu:zz9 c u) :
  ∃M',zuV t u ⟨l,M⟩ c=some (if zAc l c t < zAc l c u then -1 else if zAc l c u < zAc l c t then 1 else 0,M')/\zzQ l M':=by
 obtain⟨M1,h1,h2⟩:=zAj hf hM hc ht;obtain⟨M2,h3,h4⟩:=zAj hf h2 hc hu;refine⟨M2,?_,h4⟩;unfold zuV;rw[h1,obs,h3,obs,zBC,obs]
theorem zBE{l:List Tf}(hf:zym l=0){c:Clm}(hc:zz1 l c){ts:List Tr}(hts:∀t∈ts,zz9 c t)(hlen:ts.length<=2000):∀d (k:Nat) (b:Tr) M,k<=ts.length->ts.length - k < d->zz9 c b->zzQ l M ->
  ∃M',zuW ts (fun a1 a2 M_=>zuV a1 a2 ⟨l,M_⟩ c) d b.Day b.Count M (k:Int)=some ((ts.drop k).foldl (zBt l c) b,M')/\zzQ l M'
 | 0,k,_,_,_,h,_,_=>by omega
 | d+1,k,b,M,hk,h,hb,hM=>by
  by_cases hkn:k=ts.length
  ·subst hkn;rw[zuW,if_neg (Int.lt_irrefl _),List.drop_length];exact⟨M,rfl,hM⟩
  ·have hlt:k < ts.length:=by omega
   have hget:=List.getElem?_eq_getElem hlt;have hmem:=hts _ (List.getElem_mem hlt);obtain⟨M1,h1,h2⟩:=zBD hf hM hc hmem hb;rw[zuW,if_pos (by omega),zst hget,obs]
   try dsimp only
   rw[h1,obs]
   try dsimp only
   rw[List.drop_eq_getElem_cons hlt]
   show ∃M',_=some ((ts.drop (k+1)).foldl (zBt l c) (zBt l c b ts[k]),M')/\_
   by_cases h3:zAc l c b < zAc l c ts[k]
   ·rw[if_neg (show ¬ zAc l c ts[k] < zAc l c b by omega),if_pos h3,if_pos (by decide),obs,zrD (fI (by omega)),show(k:Int)+1=((k+1:Nat):Int) by omega];obtain⟨M',h4,h5⟩:=zBE hf hc hts hlen d (k+1) ts[k] M1 (by omega) (by omega) hmem h2;exact⟨M',by rw[h4,show zBt l c b ts[k]=ts[k] from if_pos h3],h5⟩
   ·rw[if_neg h3,if_neg (by split <;> omega),zrD (fI (by omega)),show(k:Int)+1=((k+1:Nat):Int) by omega]
    obtain⟨M',h4,h5⟩:=zBE hf hc hts hlen d (k+1) b M1 (by omega) (by omega) hb h2;exact⟨M',by rw[h4,show zBt l c b ts[k]=b from if_neg h3],h5⟩
theorem zBF{l:List Tf}(hf:zym l=0){c:Clm}(hc:zz1 l c){ts:List Tr}(hts:∀t∈ts,zz9 c t)(hlen:ts.length<=2000):∀d (k:Nat) (b:Tr) M,k<=ts.length->ts.length - k < d->zz9 c b->zzQ l M ->
  ∃M',zuY ts (fun a1 a2 M_=>zuV a1 a2 ⟨l,M_⟩ c) d b.Day b.Count M (k:Int)=some ((ts.drop k).foldl (zBs l c) b,M')/\zzQ l M'
 | 0,k,_,_,_,h,_,_=>by omega
 | d+1,k,b,M,hk,h,hb,hM=>by
  by_cases hkn:k=ts.length
  ·subst hkn;rw[zuY,if_neg (Int.lt_irrefl _),List.drop_length];exact⟨M,rfl,hM⟩
  ·have hlt:k < ts.length:=by omega
   have hget:=List.getElem?_eq_getElem hlt;have hmem:=hts _ (List.getElem_mem hlt);obtain⟨M1,h1,h2⟩:=zBD hf hM hc hmem hb;rw[zuY,if_pos (by omega),zst hget,obs]
   try dsimp only
   rw[h1,obs]
   try dsimp only
   rw[List.drop_eq_getElem_cons hlt]
   show ∃M',_=some ((ts.drop (k+1)).foldl (zBs l c) (zBs l c b ts[k]),M')/\_
   by_cases h3:zAc l c ts[k] < zAc l c b
   ·rw[if_pos h3,if_pos (by decide),obs,zrD (fI (by omega)),show(k:Int)+1=((k+1:Nat):Int) by omega];obtain⟨M',h4,h5⟩:=zBF hf hc hts hlen d (k+1) ts[k] M1 (by omega) (by omega) hmem h2;exact⟨M',by rw[h4,show zBs l c b ts[k]=ts[k] from if_pos h3],h5⟩
   ·rw[if_neg h3,if_neg (by split <;> omega),zrD (fI (by omega)),show(k:Int)+1=((k+1:Nat):Int) by omega]
    obtain⟨M',h4,h5⟩:=zBF hf hc hts hlen d (k+1) b M1 (by omega) (by omega) hb h2;exact⟨M',by rw[h4,show zBs l c b ts[k]=b from if_neg h3],h5⟩
theorem zBG:∀(ts acc:List Tr),ts.length+acc.length<=2000->zuQ ts acc=some (acc++ts)
 | [],acc,_=>by rw[zuQ,List.append_nil]
 | t::ts,acc,h=>by
  rw[List.length_cons] at h;rw[zuQ,zrD (by omega),zBG ts _ (by rw[List.length_append]; simp; omega),List.append_assoc]; rfl
theorem zBH{ts:List Tr}(h:ts.length<=2000):zuS ts=some ts:=by
 unfold zuS zuR;rw[zBG ts [] (by simpa using h),obs]; rfl
theorem zBI{l:List Tf}(hf:zym l=0){c:Clm}(hc:zz1 l c):zu0 l c true=some (zBv l c (zAX c),0)/\zu0 l c false=some (zBu l c (zAX c),0):=by
 obtain⟨t,ts,h⟩:=zBy hc;have hlen:=zA2 hc;have hts:∀u∈t::ts,zz9 c u:=fun u hu=>(zBz hc).1 (by rw[h]; exact hu);have ht:=hts t (List.mem_cons_self ..);rw[h] at hlen
 simp only[List.length_cons] at hlen
 constructor
 ·obtain⟨M',h1,_⟩:=zBE hf hc hts (by simp; omega) (((((t::ts).length:Nat):Int) - 1).toNat+1) 1 t _ (by simp) (by simp only[List.length_cons]; omega) ht zzU;unfold zu0;rw[zAd hf (by simp) (zAl.2 hc),obs,if_pos rfl,zA1 hc,obs,zBH (by rw[h]; simp; omega),obs,if_pos rfl,h];unfold zuX;rw[if_neg (by simp only[List.length_cons]; omega),zsw rfl,obs];exact(congrArg (fun o=>Option.bind o _) h1).trans rfl
 ·obtain⟨M',h1,_⟩:=zBF hf hc hts (by simp; omega) (((((t::ts).length:Nat):Int) - 1).toNat+1) 1 t _ (by simp) (by simp only[List.length_cons]; omega) ht zzU;unfold zu0;rw[zAd hf (by simp) (zAl.2 hc),obs,if_pos rfl,zA1 hc,obs,zBH (by rw[h]; simp; omega),obs,if_neg (by simp),h];unfold zuZ;rw[if_neg (by simp only[List.length_cons]; omega),zsw rfl,obs];exact(congrArg (fun o=>Option.bind o _) h1).trans rfl
theorem zBJ{l:List Tf}(hf:zym l=0){c:Clm}(hc:¬ zz1 l c){b:Bool}:zu0 l c b=some (⟨0,0⟩,2):=by
 unfold zu0; rw[zAe hf (by simp) (by rw[zAl]; exact hc),obs,if_neg (by decide)]
theorem zBK{l:List Tf}(hf:zym l ≠ 0){c:Clm}{b:Bool}:zu0 l c b=some (⟨0,0⟩,zym l):=by
 unfold zu0; rw[zAf hf,obs,if_neg hf]
def zBL(r:Rg):Int:=if 0 < r.Lo then 1 else if r.Hi=0 then 2 else 3
theorem zBM{r:Rg}:ztj r=some (zBL r):=by
 unfold ztj zBL
 split
 ·rfl
 ·split <;> rfl
theorem zBN{l:List Tf}(hf:zym l=0){c:Clm}(hc:zz1 l c):zu2 l c=some (zBL (zA3 l c),0):=by
 unfold zu2;rw[zA9 hf hc,obs,if_pos rfl];unfold zBL
 dsimp only
 split
 ·rfl
 ·split <;> rfl
theorem zBO{l:List Tf}(hf:zym l=0){c:Clm}(hc:¬ zz1 l c):zu2 l c=some (0,2):=by
 unfold zu2; rw[zBa hf hc,obs,if_neg (by decide)]
theorem zBP{l:List Tf}(hf:zym l ≠ 0){c:Clm}:zu2 l c=some (0,zym l):=by
 unfold zu2; rw[zBb hf,obs,if_neg hf]
theorem zBQ{l:List Tf}{c:Clm}{day count:Int}(_:OkL l)(_:zsS c)(hd:znj .u8 day)(hn:znj .u8 count):zvs l c day count=some true:=by
 unfold zvs
 refine zz8.pick (fun⟨ht,hf,hc⟩=>?_) fun _=>by rw[if_neg (by simp),aw,obs]
 rw[if_pos rfl];obtain⟨p1,p2⟩:=zAH hc (day:=day) (count:=count) (fU8 hd) (fU8 hn);rw[p1,obs];generalize (⟨c.Day.Lo+day % (c.Day.Hi - c.Day.Lo+1),c.Count.Lo+count % (c.Count.Hi - c.Count.Lo+1)⟩:Tr)=t at p2;obtain⟨s1,s2⟩:=zBI hf hc;obtain⟨a1,a2⟩:=zBA (l:=l) hc;obtain⟨b1,b2⟩:=zBB (l:=l) hc;obtain⟨e1,_⟩:=zA5 (l:=l) hc;obtain⟨e2,e3⟩:=e1 t p2;have hr:=zA6 hf hc
 have v1:zu7 l c (zBu l c (zAX c)) (zA3 l c).Lo=some true:=by rw[zAv (zAp hf hc a1),a2]; simp
 have v2:zu7 l c (zBv l c (zAX c)) (zA3 l c).Hi=some true:=by rw[zAv (zAp hf hc b1),b2]; simp
 have hin:zsX (zBL (zA3 l c)) 1 3=some true:=zyC.some_of (by
  unfold zBL
  split
  ·omega
  ·split <;> omega)
 simp only[zzv ht,zAq,zAr,obs,aw,zA9 hf hc,zAp hf hc p2,s1,s2,zBN hf hc,v1,v2,hin,if_true]
 rw[if_neg (by omega),if_neg (by omega)]
 by_cases h1:zBL (zA3 l c)=1
 ·have:0 < (zA3 l c).Lo:=by
   unfold zBL at h1
   by_cases h:0 < (zA3 l c).Lo
   ·exact h
   ·rw[if_neg h] at h1; split at h1 <;> omega
  rw[if_pos h1,if_neg (by omega),if_neg (by omega)]
 ·rw[if_neg h1]
  by_cases h2:zBL (zA3 l c)=2
  ·have:(zA3 l c).Hi=0:=by
    unfold zBL at h2
    by_cases h:(zA3 l c).Hi=0
    ·exact h
    ·split at h2
     ·omega
     ·first | omega | (split at h2 <;> omega)
   rw[if_pos h2,if_neg (by omega)]
  ·rw[if_neg h2]
structure BS where
 lo:Int
 hi:Int
 ld:Int
 ln:Int
 hd:Int
 hn:Int
def zBR(l:List Tf)(c:Clm)(s:BS)(t:Tr):BS:=
 ⟨if zAc l c t < s.lo then zAc l c t else s.lo,if s.hi < zAc l c t then zAc l c t else s.hi,if zAc l c t < s.lo then t.Day else s.ld,if zAc l c t < s.lo then t.Count else s.ln,if s.hi < zAc l c t then t.Day else s.hd,if s.hi < zAc l c t then t.Count else s.hn⟩
theorem zBS{l:List Tf}(hf:zym l=0){c:Clm}(hc:zz1 l c){x:Int}(hx:c.Day.Lo<=x/\x<=c.Day.Hi){K:Int->Int->Int->Int->Int->Int->Int->Option (Rg × Tr × Tr)}:∀(d n:Nat) (k:Int) (s:BS),c.Count.Lo<=k->n < d->k+n=c.Count.Hi+1 ->
  ztg l c x K d s.lo s.hi s.ld s.ln s.hd s.hn k=(fun s:BS=>K s.lo s.hi s.ld s.ln s.hd s.hn (x+1)) (((seg k n).map fun n=>(⟨x,n⟩:Tr)).foldl (zBR l c) s)
 | 0,n,k,s,_,h,_=>by omega
 | d+1,0,k,s,_,_,hk=>by
  have h1:=hc.day;rw[ztg,if_neg (by omega),zrD (fI (by omega))]; rfl
 | d+1,n+1,k,s,h0,h,hk=>by
  have h2:=hc.cnt;have ht:zz9 c ⟨x,k⟩:=⟨hx,by dsimp only; omega⟩;have ih:=zBS hf hc hx (K:=K) d n (k+1) (zBR l c s ⟨x,k⟩) (by omega) (by omega) (by omega);rw[ztg,if_pos (by omega),zAk hf hc ht,obs]
  show _=(fun s:BS=>K s.lo s.hi s.ld s.ln s.hd s.hn (x+1)) (((seg (k+1) n).map fun n=>(⟨x,n⟩:Tr)).foldl (zBR l c) (zBR l c s ⟨x,k⟩))
  rw[<- ih];unfold zBR
  dsimp only
  by_cases q1:zAc l c ⟨x,k⟩ < s.lo
  ·by_cases q2:s.hi < zAc l c ⟨x,k⟩
   ·simp only[if_pos q1,if_pos q2]; rw[zrD (fI (by omega))]
   ·simp only[if_pos q1,if_neg q2]; rw[zrD (fI (by omega))]
  ·by_cases q2:s.hi < zAc l c ⟨x,k⟩
   ·simp only[if_neg q1,if_pos q2]; rw[zrD (fI (by omega))]
   ·simp only[if_neg q1,if_neg q2]; rw[zrD (fI (by omega))]
theorem zBT{l:List Tf}(hf:zym l=0){c:Clm}(hc:zz1 l c):∀(d n:Nat) (x:Int) (s:BS),c.Day.Lo<=x->n < d->x+n=c.Day.Hi+1 ->
  zth l c d s.lo s.hi s.ld s.ln s.hd s.hn x=(fun s:BS=>some ((⟨s.lo,s.hi⟩:Rg),(⟨s.ld,s.ln⟩:Tr),(⟨s.hd,s.hn⟩:Tr))) (((seg x n).flatMap fun d=>(seg c.Count.Lo (c.Count.Hi - c.Count.Lo+1).toNat).map fun n=>(⟨d,n⟩:Tr)).foldl (zBR l c) s)
 | 0,n,x,s,_,h,_=>by omega
 | d+1,0,x,s,_,_,hx=>by rw[zth,if_neg (by omega)]; rfl
 | d+1,n+1,x,s,h0,h,hx=>by
  have h2:=hc.cnt;rw[zth,if_pos (by omega),zBS hf hc (by omega) 1000000 (c.Count.Hi - c.Count.Lo+1).toNat c.Count.Lo s (Int.le_refl _) (by omega) (by omega)]
  dsimp only
  rw[zBT hf hc d n (x+1) _ (by omega) (by omega) (by omega)];rw[show seg x (n+1)=x::seg (x+1) n from rfl,List.flatMap_cons,List.foldl_append]
theorem zBU{l:List Tf}{c:Clm}:∀(ts:List Tr) (u v:Tr),ts.foldl (zBR l c) ⟨zAc l c u,zAc l c v,u.Day,u.Count,v.Day,v.Count⟩ =
  ⟨zAc l c (ts.foldl (zBs l c) u),zAc l c (ts.foldl (zBt l c) v),(ts.foldl (zBs l c) u).Day,(ts.foldl (zBs l c) u).Count,(ts.foldl (zBt l c) v).Day,(ts.foldl (zBt l c) v).Count⟩
 | [],u,v=>rfl
 | a::ts,u,v=>by
  show ts.foldl (zBR l c) (zBR l c ⟨zAc l c u,zAc l c v,u.Day,u.Count,v.Day,v.Count⟩ a)=_
  have e:zBR l c ⟨zAc l c u,zAc l c v,u.Day,u.Count,v.Day,v.Count⟩ a=⟨zAc l c (zBs l c u a),zAc l c (zBt l c v a),(zBs l c u a).Day,(zBs l c u a).Count,(zBt l c v a).Day,(zBt l c v a).Count⟩:=by
   unfold zBR zBs zBt
   dsimp only
   by_cases q1:zAc l c a < zAc l c u
   ·by_cases q2:zAc l c v < zAc l c a
    ·simp only[if_pos q1,if_pos q2]
    ·simp only[if_pos q1,if_neg q2]
   ·by_cases q2:zAc l c v < zAc l c a
    ·simp only[if_neg q1,if_pos q2]
    ·simp only[if_neg q1,if_neg q2]
  rw[e];exact zBU ts _ _
theorem zBV{l:List Tf}(hf:zym l=0){c:Clm}(hc:zz1 l c):zti l c=some (zA3 l c,zBu l c (zAX c),zBv l c (zAX c)):=by
 have h1:=hc.day;obtain⟨t,ts,h⟩:=zBy hc;have ht:zz9 c t:=(zBz hc).1 (by rw[h]; exact List.mem_cons_self ..);have hp:=zA4 hf hc ht;have key:=zBT hf hc 1000000 (c.Day.Hi - c.Day.Lo+1).toNat c.Day.Lo ⟨1099511627776,-1,0,0,0,0⟩ (Int.le_refl _) (by omega) (by omega);have hL:((seg c.Day.Lo (c.Day.Hi - c.Day.Lo+1).toNat).flatMap fun d=>(seg c.Count.Lo (c.Count.Hi - c.Count.Lo+1).toNat).map fun n=>(⟨d,n⟩:Tr))=t::ts:=h;rw[hL] at key
 have e:(t::ts).foldl (zBR l c) ⟨1099511627776,-1,0,0,0,0⟩=ts.foldl (zBR l c) ⟨zAc l c t,zAc l c t,t.Day,t.Count,t.Day,t.Count⟩:=by
  show ts.foldl (zBR l c) (zBR l c _ t)=_
  congr 1
  unfold zBR
  dsimp only
  rw[if_pos (by omega),if_pos (by omega),if_pos (by omega),if_pos (by omega),if_pos (by omega),if_pos (by omega)]
 rw[e,zBU] at key;have a2:=(zBA (l:=l) hc).2;have b2:=(zBB (l:=l) hc).2;rw[h] at a2 b2;refine Eq.trans key ?_;rw[h]
 show some ((⟨zAc l c (zBu l c (t::ts)),zAc l c (zBv l c (t::ts))⟩:Rg),_,_)=_
 rw[a2,b2]; rfl
theorem zBW{r:Rg}:ztn r=some r:=rfl
theorem zBX{l:List Tf}{c:Clm}(_:OkL l)(_:zsS c):zvr l c=some true:=by
 unfold zvr
 refine zzr.pick (fun ht=>?_) fun _=>by rw[if_neg (by simp),aw,obs]
 rw[if_pos rfl];have z:znj .i64 0:=fI (by omega)
 by_cases hf:zym l=0
 ·by_cases hc:zz1 l c
  ·have h0:=zz7.2 ⟨hf,hc⟩;obtain⟨s1,s2⟩:=zBI hf hc;have hr:=zA6 hf hc;have a1:=(zBA (l:=l) hc).1;have b1:=(zBB (l:=l) hc).1;have h1:=hc.day;have h2:=hc.cnt;obtain⟨a3,a4⟩:=a1;obtain⟨b3,b4⟩:=b1
   simp only[zzv ht,zAq,zAr,zBW,obs,aw,zA9 hf hc,s1,s2,zBN hf hc,zz6,h0,zBV hf hc,zBM,if_true,decide_true,Bool.and_self]
   rw[zrD (fI (by omega)),zrD (fI (by omega)),zrD (fI (by omega)),zrD (fI (by omega)),zrD (fI (by omega)),zrD (fI (by omega)),zrD (fI (by omega)),zrD (fI (by omega)),zrD (fI (by omega)),zrD (fI (by omega)),zrD (fI (by omega)),zrD (fI (by omega))]
  ·have h0:zz5 l c=2:=by unfold zz5; rw[if_pos hf,if_neg hc]
   simp only[zzv ht,zAq,zAr,zBW,obs,aw,zBa hf hc,zBJ hf hc,zBO hf hc,zz6,h0,if_true,zrD z,decide_true,Bool.and_self]
   rw[if_neg (by decide)]
 ·have h0:zz5 l c=zym l:=by unfold zz5; rw[if_neg hf]
  simp only[zzv ht,zAq,zAr,zBW,obs,aw,zBb hf,zBK hf,zBP hf,zz6,h0,if_true,zrD z,decide_true,Bool.and_self]
  rw[if_neg hf]
end
end Go.Proofs.Ytdedachmfbiekaa

