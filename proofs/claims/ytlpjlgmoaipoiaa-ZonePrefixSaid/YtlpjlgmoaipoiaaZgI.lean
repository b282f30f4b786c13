/- An evaluator of code, its soundness, and what functions of the program do. Condition: none; a lemma text. -/
import Derived.Test.YtlpjlgmoaipoiaaZgH

namespace Go.Proofs.Ytlpjlgmoaipoiaa
open _root_.Go.Proofs.Try
open Go.Abs
set_option maxRecDepth 100000
noncomputable section
theorem zwd(y:C)(b:Nat){m:M}{Q:V->M->Prop}(h:(∀e:M,(e=M.new m (AO.cells 1 [y] false))->∃f,ldC e (.ptr b 0)=some f/\isSl f/\∃i:Nat,∃a:Nat,(slLen f:Int)=((i:Nat):Int)/\(slLen f:Int)=((a:Nat):Int)/\i<=a/\a<=4096/\∀g:M,(g=M.new e (AO.cells (a * 1) (zaJ [Il 0] a) false))->∀l:M,(l=M.new g (AO.cells 1 [C.sl0] false))->∃d:M,stC l (.ptr g.nxt 0) 1 [.sl e.nxt 0 i 0 (some a)]=some d/\∀o:M,(o=M.new d (AO.cells 1 [C.nilFn] false))->∃j:M,stC o (.ptr d.nxt 0) 1 [(C.fn (Fn.func 115) [] [(W.c (C0.ptr b 0)),(W.c (C0.ptr m.nxt 0)),(W.c (C0.ptr g.nxt 0)),(W.c (C0.ptr d.nxt 0))])]=some j/\∃p,ldC j (.ptr d.nxt 0)=some p/\zmw prog tbl [.c (Il 0)] p j (fun q r=>∃s,q=.c (.bool s)/\Q (.tup []) r))):Wc prog tbl 114 [.c y,.c (.ptr b 0)] m Q:=zpK (n:=2) rfl (by kernel_rfl) (by kernel_rfl) h
theorem zwe(at':Int)(br k bd cv:Nat){m:M}{Q:V->M->Prop}(h:(∃u,ldC m (.ptr br 0)=some u/\isSl u/\ifB (decide (at'=(slLen u:Int))) (∃z,ldC m (.ptr k 0)=some z/\∃A,ldC m (.ptr bd 0)=some A/\zmw prog tbl [.c A] z m (fun N O=>∃B,N=.c (.bool B)/\Q (.c (.bool B)) O)) (∃w,ldC m (.ptr br 0)=some w/\∃y:Nat,at'=((y:Nat):Int)/\y < (slLen w)/\∃D F,ldA m (zl8 w (y * 2)) 2=some [Il D,Il F]/\Wc prog tbl 116 [.agg 2 [Il D,Il F]] m (fun G I=>∃p,G=.c (Il p)/\∀g:List V->M->Prop,(∀q:Bool,∀a:Int,∀d:M,(ifB (decide (a < p)) (∃i,ldC d (.ptr bd 0)=some i/\∃e,ldC d (.ptr br 0)=some e/\∃f:Nat,at'=((f:Nat):Int)/\f < (slLen e)/\isPt (zl8 e (f * 2))/\∃j,ldC d (zl7 (zl8 e (f * 2)) 0)=some (Il j)/\zl6 .i64 (j+a)/\∃l:Nat,at'=((l:Nat):Int)/\l < (slLen i)/\∃o:M,stC d (zl8 i (l * 1)) 1 [(Il (j+a))]=some o/\∃r,ldC o (.ptr cv 0)=some r/\zl6 .i64 (at'+(1:Int))/\zmw prog tbl [.c (Il (at'+(1:Int)))] r o (fun J s=>∃t,J=.c (.bool t)/\ifB (!t) (Q (.c (.bool false)) s) (zl6 .i64 (a+1)/\g [.c (.bool q),(.c (Il (a+1)))] s))) (Q (.c (.bool true)) d))->g [.c (.bool q),(.c (Il a))] d)->g [.c (.bool false),(.c (Il 0))] I)))):Wc prog tbl 115 [.c (Il at'),.c (.ptr br 0),.c (.ptr k 0),.c (.ptr bd 0),.c (.ptr cv 0)] m Q:=zpK (n:=5) rfl (by kernel_rfl) (by kernel_rfl) h
theorem zwf{n:Int}(h1:-1000000<=n)(h2:n<=1000000):zl6 .i64 n:=by simp only[zl6]; omega
theorem zwg{r:Rg}(h:okR r):ztL r=some (szR r):=by
 unfold okR at h;unfold ztL gd;rw[if_pos (zwf (by omega) (by omega)),if_pos (zwf (by omega) (by omega))]; rfl
def hdP(bl N:Nat):C:=.sl bl 0 N 0 (some N)
def flP(br k bd cv:Nat):C:=.fn (.func 115) [] [.c (.ptr br 0),.c (.ptr k 0),.c (.ptr bd 0),.c (.ptr cv 0)]
theorem zwh{P:List Int}{p:Nat}(hp:p < P.length)(n:Int):(P.set p n).take (p+1)=P.take p++[n]:=by
 rw[List.take_add_one,List.getElem?_set_self hp,List.take_set_of_le (Nat.le_refl _)]; rfl
theorem zwi(L:List Int)(i:Nat)(v:Int):(zqc L).set i (.int .i64 v)=zqc (L.set i v):=by unfold zqc; rw[List.map_set]
theorem zwj(n:Nat):zaJ [C.int .i64 0] n=zqc (List.replicate n 0):=by rw[zeB]; simp[zqc]
theorem zwk{m:M}{b n:Nat}{vs:List C}(h:Bk m b n vs){k:Nat}(c:C)(hk:k < vs.length)(hn:vs.length=n):stC m (.ptr b (0+k * 1)) 1 [c]=some (m.set b (.cells n (vs.set k c) false)):=by
 rw[show 0+k * 1=k by omega]
 by_cases h1:n=1
 ·subst h1
  have hk0:k=0:=by omega
  subst hk0
  have:vs.set 0 c=[c]:=by
   match vs,hn with
   | [a],_=>rfl
  rw[this];exact zp4 h.g [c]
 ·exact zp5 h.g c hk hn h1
structure CkF (f:M) (l br k bd cv bl N:Nat) (cR:C) (S:Nat->Prop) (m:M) (P:List Int):Prop where
 sb:Sub f m
 rr:Bk m br 1 [cR]
 kk:Bk m k 1 [.fn (.yield l) [] []]
 dd:Bk m bd 1 [hdP bl N]
 cc:Bk m cv 1 [flP br k bd cv]
 ll:Bk m bl N (zqc P)
 ss:∀b',S b'->b' ≠ br/\b' ≠ k/\b' ≠ bd/\b' ≠ cv/\b' ≠ bl/\f.g b'=none/\f.vw b'=none
 ne:br ≠ bl/\k ≠ bl/\bd ≠ bl/\cv ≠ bl
variable {f:M} {l br k bd cv bl N:Nat} {cR:C}
theorem CkF.chg{S S':Nat->Prop}{m m':M}{P:List Int}(hz:∀b,f.nxt<=b->f.g b=none)(hv:∀b,f.nxt<=b->f.vw b=none)(h:CkF f l br k bd cv bl N cR S m P)(hc:Chg S m m')(ho:Own S m S'):CkF f l br k bd cv bl N cR S' m' P:=by
 have tr:∀{b' j:Nat} {vs:List C},Bk m b' j vs->¬ S b'->Bk m' b' j vs:=fun hb hS=>⟨(hc.g _ hb.lt hS).trans hb.g,Nat.lt_of_lt_of_le hb.lt hc.nxt⟩;refine⟨⟨Nat.le_trans h.sb.nxt hc.nxt,hc.vw.trans h.sb.vw,fun b' hb hd=>?_⟩,tr h.rr fun hs=>(h.ss _ hs).1 rfl,tr h.kk fun hs=>(h.ss _ hs).2.1 rfl,tr h.dd fun hs=>(h.ss _ hs).2.2.1 rfl,tr h.cc fun hs=>(h.ss _ hs).2.2.2.1 rfl,tr h.ll fun hs=>(h.ss _ hs).2.2.2.2.1 rfl,fun b' hb=>?_,h.ne⟩
 ·rw[hc.g b' (Nat.lt_of_lt_of_le hb h.sb.nxt) fun hs=>hd.elim (fun h1=>h1 (h.ss b' hs).2.2.2.2.2.1) fun h1=>h1 (h.ss b' hs).2.2.2.2.2.2];exact h.sb.g b' hb hd
 ·rcases ho b' hb with hs | hs
  ·exact h.ss b' hs
  ·have:=h.rr.lt; have:=h.kk.lt; have:=h.dd.lt; have:=h.cc.lt; have:=h.ll.lt; have:=h.sb.nxt;exact⟨by omega,by omega,by omega,by omega,by omega,hz b' (by omega),hv b' (by omega)⟩
theorem CkF.ext{S:Nat->Prop}{m m':M}{P:List Int}(hz:∀b,f.nxt<=b->f.g b=none)(hv:∀b,f.nxt<=b->f.vw b=none)(h:CkF f l br k bd cv bl N cR S m P)(x:Ext m m'):CkF f l br k bd cv bl N cR S m' P:=
 h.chg hz hv ⟨x.nxt,fun b' hb _=>x.g b' hb,x.vw⟩ fun _ hb=>.inl hb
theorem CkF.set{S:Nat->Prop}{m:M}{P:List Int}(h:CkF f l br k bd cv bl N cR S m P)(hb:f.g bl=none/\f.vw bl=none)(P':List Int):CkF f l br k bd cv bl N cR S (m.set bl (.cells N (zqc P') false)) P':=
 ⟨⟨h.sb.nxt,h.sb.vw,fun b' hb' hd=>by
  rw[M.g_set,if_neg fun he=>by subst he; exact hd.elim (fun q=>q hb.1) fun q=>q hb.2]
  exact h.sb.g b' hb' hd⟩,h.rr.setNe h.ne.1 _,h.kk.setNe h.ne.2.1 _,h.dd.setNe h.ne.2.2.1 _,h.cc.setNe h.ne.2.2.2 _,h.ll.set _,h.ss,h.ne⟩
theorem slP{m:M}{P:List Int}(h:Bk m bl N (zqc P))(hP:P.length=N):SlX m (fun b'=>b'=bl) (hdP bl N) P:=by
 refine⟨⟨zqc P,⟨by rw[zqd]; exact Nat.mul_one _,.inr ⟨bl,0,0,some N,by rw[hP]; rfl,h.lt,fun _=>.inl ⟨N,zqc P,false,h.g,by rw[zqd]; exact hP,by rw[zqd]; omega,by rw[List.drop_zero,List.take_of_length_le (Nat.le_refl _)]⟩⟩⟩,(by first | exact zq7 m _ | exact zq7 _),.inr (.inl ⟨bl,0,0,N,by rw[hP]; rfl,by omega⟩)⟩,fun b o' n s d he=>by cases he; rfl⟩
theorem zwl{ranges:List Rg}{n0 n1:Nat}{all:List (List Int)}{I:Nat->(Nat->Prop)->M->Prop}{E:(Nat->Prop)->M->Prop}(hz:∀b,f.nxt<=b->f.g b=none)(hv:∀b,f.nxt<=b->f.vw b=none)(hR:Sl f cR ranges)(hN:ranges.length=N)(hN1:N<=100)(hok:∀r∈ranges,okR r)(hfb:f.g bl=none/\f.vw bl=none)
  (hn0:n0<=bl) (hn1:n1<=bl) (hcl:zq3 prog tbl n0 l (VsW all n1) I E) :
  ∀(rs:List Rg) (p:Nat),ranges.drop p=rs->p<=N->∀(i:Nat) (S:Nat->Prop) (m:M) (P:List Int) (Q:V->M->Prop),CkF f l br k bd cv bl N cR S m P->P.length=N ->
   (∀j L,(chW rs (P.take p))[j]? = some L->all[i+j]? = some L)->I i S m ->
   (∀S' m' P',Own S m S'->Chg (fun b'=>S b'\/b'=bl) m m'->CkF f l br k bd cv bl N cR S' m' P'->P'.length=N->P'.take p=P.take p->I (i+(chW rs (P.take p)).length) S' m'->Q (.c (.bool true)) m') ->
   (∀S' m',Own S m S'->Chg (fun b'=>S b'\/b'=bl) m m'->E S' m'->Q (.c (.bool false)) m') ->
   Wc prog tbl 115 [.c (.int .i64 (p:Int)),.c (.ptr br 0),.c (.ptr k 0),.c (.ptr bd 0),.c (.ptr cv 0)] m Q:=by
 intro rs
 have ctr:∀{S S1:Nat->Prop} {m m1 m2:M},Chg (fun b=>S b\/b=bl) m m1->Chg (fun b=>S1 b\/b=bl) m1 m2->Own S m S1->Chg (fun b=>S b\/b=bl) m m2:=fun {S S1 m m1 m2} h1 h2 ho=>
  ⟨Nat.le_trans h1.nxt h2.nxt,fun b hb hS=>by
   rw[h2.g b (Nat.lt_of_lt_of_le hb h1.nxt) fun h=>h.elim (fun h3=>(ho b h3).elim (fun h4=>hS (.inl h4)) fun h4=>by omega) fun h3=>hS (.inr h3)]
   exact h1.g b hb hS,h2.vw.trans h1.vw⟩
 have otr:∀{S S1 S2:Nat->Prop} {m m1:M},Own S m S1->Own S1 m1 S2->m.nxt<=m1.nxt->Own S m S2:=fun h1 h2 hn b' hb=>(h2 b' hb).elim (h1 b') fun h=>.inr (by omega);have cor:∀{S:Nat->Prop} {m m':M},Chg S m m'->Chg (fun b=>S b\/b=bl) m m':=fun h=>⟨h.nxt,fun b hb hS=>h.g b hb fun h2=>hS (.inl h2),h.vw⟩
 induction rs with
 | nil=>
  intro p hp hpN i S m P Q hst hP hxs hI hT hFl
  have hpe:p=N:=by have:=congrArg List.length hp; rw[List.length_drop,List.length_nil] at this; omega
  subst hpe;refine zwe (p:Int) br k bd cv ⟨_,hst.rr.rc rfl,hR.isSl,?_⟩;rw[hR.slLen,zpP];refine⟨fun _=>?_,fun h1=>absurd (by omega) h1⟩;have hx0:=hxs 0 (P.take p) rfl;rw[Nat.add_zero] at hx0;have hPp:P.take p=P:=List.take_of_length_le (by omega);rw[hPp] at hx0;have s0:=slP hst.ll hP;refine⟨_,hst.kk.rc rfl,_,hst.dd.rc rfl,?_⟩
  show Wy prog tbl l [.c (hdP bl p)] m _
  refine hcl.yield i _ S m ⟨P,fun b'=>b'=bl,hx0,⟨_,rfl,s0⟩,fun b' hb'=>by subst hb'; exact⟨hn1,fun hs=>(hst.ss _ hs).2.2.2.2.1 rfl,hst.ll.lt⟩⟩ hI _ (fun S' m' ho hch hI'=>⟨_,rfl,?_⟩) fun S' m' ho hch hE=>⟨_,rfl,hFl S' m' ho (cor hch) hE⟩;exact hT S' m' P ho (cor hch) (hst.chg hz hv hch ho) hP rfl hI'
 | cons r rs ih=>
  intro p hp hpN i S m P Q hst hP hxs hI hT hFl
  have hpl:p < ranges.length:=by
   have:=congrArg List.length hp;rw[List.length_drop,List.length_cons] at this; omega
  have hpN':p < N:=by omega
  have hd:=List.drop_eq_getElem_cons hpl;rw[hp] at hd
  have hr:ranges[p]? = some r:=by rw[List.getElem?_eq_getElem hpl,(List.cons.inj hd).1]
  have hdrop:ranges.drop (p+1)=rs:=(List.cons.inj hd).2.symm;have hrk:=hok r (List.mem_of_getElem? hr);have hrk':=hrk;unfold okR at hrk';obtain⟨_,hrd⟩:=zr3 hR hr;have hSl:=(hcl.li i).lt _ _ hI;refine zwe (p:Int) br k bd cv ⟨_,hst.rr.rc rfl,hR.isSl,?_⟩;rw[hR.slLen,zpP];refine⟨fun h1=>by omega,fun _=>⟨_,hst.rr.rc rfl,p,rfl,by rw[hR.slLen]; exact hpl,_,_,(hrd m hst.sb).1,?_⟩⟩;refine zvS (r:=r) ⟨hst.sb,hz,hv⟩ (zwg hrk) fun m20 e20=>⟨_,rfl,fun R22 hstep=>?_⟩;have hst20:=hst.ext hz hv e20;have hI20:I i S m20:=(hcl.li i).st _ _ _ hI e20.nxt e20.vw (fun b' hb=>e20.g b' (hSl b' hb)) fun b' hb=>e20.g b' (by have:=hst.ll.lt; omega)
  let g:Nat->List (List Int):=fun n=>chW rs (P.take p++[r.Lo+(n:Int)])
  have hex:chW (r::rs) (P.take p)=zrm g (szR r).toNat 0:=rfl;rw[hex] at hxs hT
  have hgo:∀(d n:Nat) (b7:Bool) (m9:M) (S1:Nat->Prop) (P1:List Int) (i1:Nat),n+d=(szR r).toNat->Own S m20 S1->Chg (fun b'=>S b'\/b'=bl) m20 m9->CkF f l br k bd cv bl N cR S1 m9 P1->P1.length=N->P1.take p=P.take p->I i1 S1 m9 ->
    i1+(zrm g d n).length=i+(zrm g (szR r).toNat 0).length->(∀j L,(zrm g d n)[j]? = some L->all[i1+j]? = some L)->R22 [.c (.bool b7),.c (.int .i64 (n:Int))] m9:=by
   intro d
   induction d with
   | zero=>
    intro n b7 m9 S1 P1 i1 hen ho hch hst1 hP1 htk hI1 hlen hxs1;refine hstep _ _ _ ?_;rw[zpP];refine⟨fun h1=>by omega,fun _=>hT S1 m9 P1 (fun b' hb'=>(ho b' hb').imp id fun h=>Nat.le_trans e20.nxt h) (ctr (S1:=S) (cor ⟨e20.nxt,fun b' hb' _=>e20.g b' hb',e20.vw⟩) hch fun b' hb'=>.inl hb') hst1 hP1 htk ?_⟩;have h9:i1+0=_:=hlen;rw[<- h9,Nat.add_zero]; exact hI1
   | succ d ihe=>
    intro n b7 m9 S1 P1 i1 hen ho hch hst1 hP1 htk hI1 hlen hxs1;have hns:szR r=r.Hi - r.Lo+1:=rfl;refine hstep _ _ _ ?_;rw[zpP];refine⟨fun _=>?_,fun h1=>absurd (by omega) h1⟩
    have hp9:p < P1.length:=by omega
    refine⟨_,hst1.dd.rc rfl,_,hst1.rr.rc rfl,p,rfl,by rw[hR.slLen]; exact hpl,hR.isPt hr _,_,(hrd m9 hst1.sb).2.1 0 _ rfl,zwf (by omega) (by omega),p,rfl,(by show p < N; omega),_,zwk hst1.ll _ (by rw[zqd]; exact hp9) (by rw[zqd]; exact hP1),?_⟩;rw[zwi];have hst2:=hst1.set hfb (P1.set p (r.Lo+(n:Int)));have hch2:Chg (fun b'=>S1 b'\/b'=bl) m9 (m9.set bl (.cells N (zqc (P1.set p (r.Lo+(n:Int)))) false)):=⟨Nat.le_refl _,fun b' _ hS=>by rw[M.g_set,if_neg fun h1=>hS (.inr h1)],rfl⟩;have hI2:I i1 S1 (m9.set bl (.cells N (zqc (P1.set p (r.Lo+(n:Int)))) false)):=(hcl.li i1).st _ _ _ hI1 (Nat.le_refl _) rfl (fun b' hb=>by rw[M.g_set,if_neg (hst1.ss b' hb).2.2.2.2.1]) (fun b' hb=>by rw[M.g_set,if_neg (by omega)]);have hchm:=ctr hch hch2 ho;generalize m9.set bl (.cells N (zqc (P1.set p (r.Lo+(n:Int)))) false)=m13 at hst2 hch2 hI2 hchm
    have hP2:(P1.set p (r.Lo+(n:Int))).length=N:=by rw[List.length_set]; exact hP1
    have htk2:(P1.set p (r.Lo+(n:Int))).take (p+1)=P.take p++[r.Lo+(n:Int)]:=by rw[zwh hp9,htk]
    have htk3:(P1.set p (r.Lo+(n:Int))).take p=P.take p:=by rw[List.take_set_of_le (Nat.le_refl _),htk]
    generalize P1.set p (r.Lo+(n:Int))=P2 at hst2 htk2 htk3 hP2;have hge:zrm g (d+1) n=g n++zrm g d (n+1):=rfl
    have hg:g n=chW rs (P2.take (p+1)):=by rw[htk2]
    rw[hge,hg] at hlen hxs1;rw[List.length_append] at hlen;refine⟨_,hst2.cc.rc rfl,zwf (by omega) (by omega),?_⟩
    show Wc prog tbl 115 [.c (.int .i64 ((p+1:Nat):Int)),.c (.ptr br 0),.c (.ptr k 0),.c (.ptr bd 0),.c (.ptr cv 0)] m13 _
    refine ih (p+1) hdrop (by omega) i1 S1 m13 P2 _ hst2 hP2 (fun j H hj=>hxs1 j H (by rw[List.getElem?_append_left (List.getElem?_eq_some_iff.1 hj).1]; exact hj)) hI2 (fun S' m' P' ho' hch' hst' hP' htk' hI'=>⟨_,rfl,?_⟩) fun S' m' ho' hch' hE=>⟨_,rfl,?_⟩
    ·have htk4:P'.take p=P.take p:=by
      have h1:=congrArg (List.take p) htk';rw[List.take_take,List.take_take,Nat.min_eq_left (by omega)] at h1;rw[h1,htk3]
     refine zqX ⟨zwf (by omega) (by omega),ihe (n+1) b7 m' S' P' _ (by omega) (otr ho ho' hchm.nxt) (ctr hchm hch' ho) hst' hP' htk4 hI' (by omega) fun j H hj=>?_⟩;rw[Nat.add_assoc];exact hxs1 _ H (by rw[List.getElem?_append_right (by omega),Nat.add_sub_cancel_left]; exact hj)
    ·refine zqY ?_;exact hFl S' m' (fun b' hb'=>(otr ho ho' hchm.nxt b' hb').imp id fun h=>Nat.le_trans e20.nxt h) (ctr (S1:=S) (cor ⟨e20.nxt,fun b' hb' _=>e20.g b' hb',e20.vw⟩) (ctr hchm hch' ho) fun b' hb'=>.inl hb') hE
  exact hgo (szR r).toNat 0 false m20 S P i (by omega) (fun b' hb'=>.inl hb') ⟨Nat.le_refl _,fun _ _ _=>rfl,rfl⟩ hst20 hP rfl hI20 rfl hxs
end
end Go.Proofs.Ytlpjlgmoaipoiaa

namespace Go.Proofs.Ytlpjlgmoaipoiaa
open _root_.Go.Proofs.Try
open Go.Abs
set_option maxRecDepth 100000
noncomputable section
theorem zwm{rs:List Rg}{cR:C}{f:M}{b:Nat}(hR0:Sl f cR rs)(hb:Bk f b 1 [cR])(hN1:rs.length<=100)(hok:∀r∈rs,okR r)
    (n0 l:Nat) (I:Nat->(Nat->Prop)->M->Prop) (E:(Nat->Prop)->M->Prop) (S:Nat->Prop) (m:M) (hc:zq3 prog tbl n0 l (VsW (chW rs []) m.nxt) I E) (_hn:n0<=m.nxt) (hI:I 0 S m) (hS:Pre f m) (hSf:∀b,S b->f.g b=none/\f.vw b=none) (Q:V->M->Prop)
    (hQ:∀v S' m',Own S m S'->Chg S m m'->I (chW rs []).length S' m'\/E S' m'->Q v m'):Wc prog tbl 114 [.c (.fn (.yield l) [] []),.c (.ptr b 0)] m Q:=by
 have hSl:=(hc.li 0).lt _ _ hI;refine zwd _ b fun a w=>?_;obtain⟨O,p⟩:=Bk.new w
 have q0:a.nxt=m.nxt+1:=by rw[w]; rfl
 have y:Sub f a:=⟨Nat.le_trans hS.sub.nxt p.nxt,p.vw.trans hS.sub.vw,fun b' hb' hd=>(p.g b' (Nat.lt_of_lt_of_le hb' hS.sub.nxt)).trans (hS.sub.g b' hb' hd)⟩;refine⟨_,(hb.sub y).rc rfl,hR0.isSl,rs.length,rs.length,by rw[hR0.slLen],by rw[hR0.slLen],Nat.le_refl _,by omega,fun d s n e5=>?_⟩;rw[zwj,Nat.mul_one] at s;obtain⟨P,T⟩:=Bk.new s;obtain⟨z,A⟩:=Bk.new e5
 have q4:d.nxt=m.nxt+2:=by rw[s]; show a.nxt+1=_; omega
 have Y:n.nxt=m.nxt+3:=by rw[e5]; show d.nxt+1=_; omega
 refine⟨n.set d.nxt (.cells 1 [hdP a.nxt rs.length] false),z.st _,fun o t=>?_⟩;have B:=z.set [hdP a.nxt rs.length];have D:=(P.ext A).setNe (c:=d.nxt) (by omega) (.cells 1 [hdP a.nxt rs.length] false);have F:Ext a (n.set d.nxt (.cells 1 [hdP a.nxt rs.length] false)):=(T.trans A).setR (by omega) _;have Z:(n.set d.nxt (.cells 1 [hdP a.nxt rs.length] false)).nxt=m.nxt+3:=Y;generalize n.set d.nxt (.cells 1 [hdP a.nxt rs.length] false)=e at B D F Z t ⊢;obtain⟨G,x7⟩:=Bk.new t
 have q7:o.nxt=m.nxt+4:=by rw[t]; show e.nxt+1=_; omega
 refine⟨o.set e.nxt (.cells 1 [flP b m.nxt d.nxt e.nxt] false),G.st _,?_⟩;have u:=G.set [flP b m.nxt d.nxt e.nxt];have q:Ext e (o.set e.nxt (.cells 1 [flP b m.nxt d.nxt e.nxt] false)):=x7.setR (Nat.le_refl _) _;have q8:(o.set e.nxt (.cells 1 [flP b m.nxt d.nxt e.nxt] false)).nxt=m.nxt+4:=q7;generalize o.set e.nxt (.cells 1 [flP b m.nxt d.nxt e.nxt] false)=i at u q q8 ⊢;refine⟨_,u.rc rfl,?_⟩
 show Wc prog tbl 115 [.c (Il ((0:Nat):Int)),.c (.ptr b 0),.c (.ptr m.nxt 0),.c (.ptr d.nxt 0),.c (.ptr e.nxt 0)] i _
 have J:=F.trans q;have ym:=p.trans J;have subx:Sub f i:=⟨Nat.le_trans hS.sub.nxt ym.nxt,ym.vw.trans hS.sub.vw,fun b' hb' hd=>(ym.g b' (Nat.lt_of_lt_of_le hb' hS.sub.nxt)).trans (hS.sub.g b' hb' hd)⟩;have hff:=hS.sub.nxt;have hbf:=hb.lt
 have hbg:f.g b ≠ none:=by rw[hb.g]; exact Option.some_ne_none _
 have hst:CkF f l b m.nxt d.nxt e.nxt a.nxt rs.length cR S i (List.replicate rs.length 0):=
  ⟨subx,hb.sub subx,O.ext J,B.ext q,u,D.ext q,fun b' hb'=>by
   have h1:=hSl b' hb'
   exact⟨fun he=>hbg (he ▸ (hSf b' hb').1),by omega,by omega,by omega,by omega,hSf b' hb'⟩,by omega,by omega,by omega,by omega⟩
 have N:I 0 S i:=(hc.li 0).st _ _ _ hI ym.nxt ym.vw (fun b' hb'=>ym.g b' (hSl b' hb')) fun b' hb'=>ym.g b' (by omega)
 have fin:∀{m':M},Chg (fun b'=>S b'\/b'=a.nxt) i m'->Chg S m m':=fun {m'} h=>⟨Nat.le_trans ym.nxt h.nxt,fun b' hb' hs=>by
  rw[h.g b' (by have:=ym.nxt; omega) fun hY=>hY.elim hs fun h9=>by omega]
  exact ym.g b' hb',h.vw.trans ym.vw⟩
 have hfb:f.g a.nxt=none/\f.vw a.nxt=none:=⟨hS.fz _ (by omega),hS.fv _ (by omega)⟩;refine zwl hS.fz hS.fv hR0 rfl hN1 hok hfb (n0:=n0) (n1:=m.nxt) (by omega) (by omega) hc rs 0 List.drop_zero (Nat.zero_le _) 0 S i (List.replicate rs.length 0) _ hst (by rw[List.length_replicate]) (fun j L hj=>?_) N (fun S' m' P' ho hch hst' hP' htk hI'=>⟨_,rfl,?_⟩) fun S' m' ho hch hE=>⟨_,rfl,?_⟩
 ·rw[Nat.zero_add]; exact hj
 ·rw[Nat.zero_add] at hI';exact hQ _ S' m' (fun b' hb'=>(ho b' hb').imp id fun h=>Nat.le_trans ym.nxt h) (fin hch) (.inl hI')
 ·exact hQ _ S' m' (fun b' hb'=>(ho b' hb').imp id fun h=>Nat.le_trans ym.nxt h) (fin hch) (.inr hE)
theorem zwn{l:List Rg}{ca100:C}{m f:M}{Q:V->M->Prop}{rz:List (List Int)}(hS:Pre f m)(ha100:Sl f ca100 l)(hp:ztM l=some rz)(hq:∀m' f' c0,Grw m f m' f'->ItW prog tbl f' c0 rz->Q (.c c0) m'):Wc prog tbl 101 [.c ca100] m Q:=by
 have e:=hS.st;obtain⟨g,_⟩:=zr1;refine zur ?_;unfold ztM at hp;intro r h;obtain⟨s,i,t,j⟩:=e.blk h g 1;obtain⟨d,a,n,hb⟩:=j.freeze i;obtain⟨⟨o,p⟩,hp⟩:=zqr hp;obtain rfl:=oi hp
 have hI:ItW prog tbl d (C.fn (Fn.func 114) [] [(W.c (C0.ptr m.nxt 0))]) (chW l []):=
  zq6 a.fz a.fv fun q ly I E S m' hc hn hI hP hSf Q hQ=>zwm (ha100.sub n.fs) hb o p q ly I E S m' hc hn hI hP hSf Q hQ
 exact hq _ d _ a.grw hI
theorem w95(z:C)(bw bc bf:Nat){m:M}{Q:V->M->Prop}(h:(∃Y Z x2 x3 x4 c5 x6 c7 c8 c9 f g i,ldA m (.ptr bw 0) 13=some [Il Y,Il Z,Il x2,Il x3,Il x4,c5,Il x6,c7,c8,c9,f,g,i]/\Wc prog tbl 96 [.agg 13 [Il Y,Il Z,Il x2,Il x3,Il x4,c5,Il x6,c7,c8,c9,f,g,i],.c z] m (fun ai j=>∃l o p q r s t u w y A B D,ai=.agg 13 [Il l,Il o,Il p,Il q,Il r,s,Il t,u,w,y,A,B,D]/\Wc prog tbl 91 [.agg 13 [Il l,Il o,Il p,Il q,Il r,s,Il t,u,w,y,A,B,D]] j (fun aj F=>∃G I J N O P,aj=.agg 6 [.bool G,.bool I,.bool J,.bool N,.bool O,.bool P]/\∃a,ldC F (.ptr bc 0)=some (Il a)/\ldC j (.ptr bc 0)=some (Il a)/\ldC m (.ptr bc 0)=some (Il a)/\∃d:Nat,a=((d:Nat):Int)/\d < 6/\∃S,atS [(C.bool G),.bool I,.bool J,.bool N,.bool O,.bool P] (d * 1)=some (.bool S)/\∃e:M,stC F (.ptr bf 0) 1 [.bool S]=some e/\∃T,ldC e (.ptr bf 0)=some (.bool T)/\Q (.c (.bool T)) e)))):Wc prog tbl 95 [.c z,.c (.ptr bw 0),.c (.ptr bc 0),.c (.ptr bf 0)] m Q:=zpK (n:=4) rfl (by kernel_rfl) (by kernel_rfl) h
theorem _root_.Go.Abs.ExtX.ext{m m0 m':M}{B:Nat}(h:ExtX (isB B) m0 m')(e:Ext m m0)(hB:m.nxt<=B):Ext m m':=⟨Nat.le_trans e.nxt h.nxt,fun b hb=>by rw[h.g b (Nat.lt_of_lt_of_le hb e.nxt) fun he=>by have he:b=B:=he; omega]; exact e.g b hb,h.vw.trans e.vw⟩
theorem _root_.Go.Abs.ExtX.bk{m m':M}{B b n:Nat}{vs:List C}(h:ExtX (isB B) m m')(k:Bk m b n vs)(hb:b ≠ B):Bk m' b n vs:=⟨(h.g b k.lt hb).trans k.g,Nat.lt_of_lt_of_le k.lt h.nxt⟩
def zwo(n:Nat)(m:M)(B:Nat)(fnc:C)(t:List Int->Bool):Prop:=
 ∀m' z L v,ExtX (isB B) m m'->Bk m' B 1 [.bool v]->Li m' z L->zqj z 1 L.length->L∈zoi n->∀Q:V->M->Prop,(∀m'',ExtX (isB B) m' m''->Bk m'' B 1 [.bool (t L)]->Q (.c (.bool (t L))) m'')->zmw prog tbl [.c z] fnc m' Q
theorem zwp{n B:Nat}{fnc:C}{t:List Int->Bool}{m:M}{Q:V->M->Prop}(hn:n<=100)(hB:Bk m B 1 [.bool false])(ht:zwo n m B fnc t)(h:∀z m',ExtX (isB B) m m'->Bk m' B 1 [.bool ((zoi n).find? t).isSome]->Li m' z (zro n t)->zqj z 1 (zro n t).length->(∀b o n' s d,z=.sl b o n' s d->m.nxt<=b)->Q (.c z) m'):Wc prog tbl 94 [.c (.int .i64 (n:Int)),.c fnc] m Q:=by
 refine w94 fun m0 e0 m1 e1=>?_;obtain⟨b0,x0⟩:=Bk.new e0;obtain⟨b1,x1⟩:=Bk.new e1;have x01:=x0.trans x1
 have n0:m0.nxt=m.nxt+1:=by rw[e0]; rfl
 have hBm:=hB.lt;refine⟨zvX (by omega) (by omega),fun R2 hstep=>?_⟩
 let G:Nat->List (List Int):=fun s=>zrn n s [] 0
 have hgo:∀(e s:Nat) (m4:M),e+s=n+1->ExtX (isB B) m m4->Bk m4 m.nxt 1 [fnc]->Bk m4 m0.nxt 1 [.sl0]->Bk m4 B 1 [.bool false]->(zrm G e s).find? t=(zoi n).find? t->R2 [.c (.int .i64 (s:Int))] m4:=by
  intro e
  induction e with
  | zero=>
   intro s m4 hes x4 k0 k1 kB hfind;refine hstep _ _ ?_;rw[zpP];refine⟨fun h1=>by omega,fun _=>⟨_,k1.rc rfl,?_⟩⟩;have h0:(zoi n).find? t=none:=hfind.symm
   have:zro n t=[]:=by unfold zro; rw[h0]; rfl
   refine h _ _ x4 (by rw[h0]; exact kB) ?_ ?_ fun _ _ _ _ _ h9=>by cases h9
   ·rw[this]; exact Ls.nil m4 1
   ·rw[this]; exact .inl ⟨rfl,rfl⟩
  | succ e ih=>
   intro s m4 hes x4 k0 k1 kB hfind;refine hstep _ _ ?_;rw[zpP];refine⟨fun _=>?_,fun h1=>absurd (by omega) h1⟩;refine zuG fun m5 e5 m6 e6=>?_;obtain⟨b5,x5⟩:=Bk.new e5;obtain⟨b6,x6⟩:=Bk.new e6;have x56:=x5.trans x6;refine⟨_,rfl,?_⟩;have hk0:=k0.lt;have hk1:=k1.lt;have hkB:=kB.lt
   have n5:m5.nxt=m4.nxt+1:=by rw[e5]; rfl
   have x46:ExtX (isB B) m m6:=⟨Nat.le_trans x4.nxt x56.nxt,fun b hb hne=>by rw[x56.g b (Nat.lt_of_lt_of_le hb x4.nxt)]; exact x4.g b hb hne,x56.vw.trans x4.vw⟩;have k06:=k0.ext x56;have k16:=k1.ext x56;have kB6:=kB.ext x56;rw[zv4] at hfind
   refine zq2 (zv1 (b:=m5.nxt) (b2:=m4.nxt) (n:=n) (size:=s) (by omega) (by omega)) ⟨b6,b5.ext x6⟩
    (J:=fun i S ma=>(∀b',S b'↔b'=m0.nxt\/b'=B)/\Bk ma m0.nxt 1 [.sl0]/\Bk ma B 1 [.bool false]/\((G s).drop i).find? t=(G s).find? t/\m6.nxt<=ma.nxt/\ma.vw=m6.vw/\∀b',b' < m6.nxt->b' ≠ m0.nxt->b' ≠ B->ma.g b'=m6.g b')
    (X:=fun ex S ma=>ex=.exit 0/\∃z L,(∀b',S b'↔b'=m0.nxt\/b'=B\/∃o n s d,z=.sl b' o n s d)/\Bk ma m0.nxt 1 [z]/\Bk ma B 1 [.bool true]/\Li ma z L/\(∀b' o n s d,z=.sl b' o n s d->m.nxt<=b'/\b' < ma.nxt)/\((G s).find? t=some L/\zqj z 1 L.length)/\m6.nxt<=ma.nxt/\ma.vw=m6.vw/\∀b',b' < m6.nxt->b' ≠ m0.nxt->b' ≠ B->ma.g b'=m6.g b')
    (fun i=>⟨fun S ma mb hj hn' hv hg hlow=>⟨hj.1,⟨(hg _ ((hj.1 _).2 (.inl rfl))).trans hj.2.1.g,Nat.lt_of_lt_of_le hj.2.1.lt hn'⟩,⟨(hg _ ((hj.1 _).2 (.inr rfl))).trans hj.2.2.1.g,Nat.lt_of_lt_of_le hj.2.2.1.lt hn'⟩,hj.2.2.2.1,Nat.le_trans hj.2.2.2.2.1 hn',hv.trans hj.2.2.2.2.2.1,fun b' hb' hne hne2=>(hlow b' hb').trans (hj.2.2.2.2.2.2 b' hb' hne hne2)⟩,fun S ma hj b' hb'=>by
     rcases (hj.1 b').1 hb' with h1 | h1
     ·rw[h1]; exact hj.2.1.lt
     ·rw[h1]; exact hj.2.2.1.lt⟩)
    (fun ex=>⟨fun S ma mb hj hn' hv hg hlow=>?_,fun S ma hj b' hb'=>?_⟩) (S0:=fun b'=>b'=m0.nxt\/b'=B) ⟨fun _=>Iff.rfl,k16,kB6,rfl,Nat.le_refl _,rfl,fun _ _ _ _=>rfl⟩ (fun b' hb' hd=>by rcases hb' with hb' | hb' <;> rcases hd with hd | hd <;> omega) ?_ ?_ ?_ ?_
   ·obtain⟨h1,z,L,h2,h3,hB3,h4,h5,h6,h7,h8,h9⟩:=hj;refine⟨h1,z,L,h2,⟨(hg _ ((h2 _).2 (.inl rfl))).trans h3.g,Nat.lt_of_lt_of_le h3.lt hn'⟩,⟨(hg _ ((h2 _).2 (.inr (.inl rfl)))).trans hB3.g,Nat.lt_of_lt_of_le hB3.lt hn'⟩,h4.to hn' (fun b' _ hx'=>?_) hv,fun b' o n s d hz=>⟨(h5 b' o n s d hz).1,Nat.lt_of_lt_of_le (h5 b' o n s d hz).2 hn'⟩,h6,Nat.le_trans h7 hn',hv.trans h8,fun b' hb' hne hne2=>(hlow b' hb').trans (h9 b' hb' hne hne2)⟩;obtain⟨o,s',d,hx'⟩:=hx';exact hg b' ((h2 b').2 (.inr (.inr ⟨_,_,_,_,hx'⟩)))
   ·obtain⟨h1,z,L,h2,h3,hB3,h4,h5,h6,_⟩:=hj
    rcases (h2 b').1 hb' with rfl | rfl | ⟨o,n',s',d,hz⟩
    ·exact h3.lt
    ·exact hB3.lt
    ·exact(h5 _ _ _ _ _ hz).2
   ·intro i xv S ma B' enter K hxv hj hlt hSl hown henter hK;obtain⟨L,z,hL,rfl,hz,hnil,hfr⟩:=hxv;obtain⟨hS,hkb,hkB5,hf,hn6,hv6,hg6⟩:=hj;refine⟨z,rfl,henter ma _ rfl fun m15 hn15 hv15 hg15 hB15=>?_⟩
    have hne0:m0.nxt ≠ m6.nxt:=by have:=k16.lt; omega
    have hneB:B ≠ m6.nxt:=by have:=kB6.lt; omega
    have hl15:Li m15 z L:=hz.to (by omega) (fun b' _ hx'=>by obtain⟨o,s',d,hx'⟩:=hx'; exact hg15 b' (by have:=hfr b' _ _ _ _ hx'; omega)) hv15;have kk15:Bk m15 m0.nxt 1 [.sl0]:=⟨(hg15 _ hne0).trans hkb.g,by rw[hn15]; exact hkb.lt⟩;have kB15:Bk m15 B 1 [.bool false]:=⟨(hg15 _ hneB).trans hkB5.g,by rw[hn15]; exact hkB5.lt⟩;have hold:∀b',b' < m6.nxt->b' ≠ m0.nxt->b' ≠ B->m15.g b'=m6.g b':=fun b' hb' hne hne2=>(hg15 b' (by omega)).trans (hg6 b' hb' hne hne2);have x15:ExtX (isB B) m m15:=⟨by rw[hn15]; exact Nat.le_trans x46.nxt hn6,fun b' hb' hne=>by rw[hold b' (Nat.lt_of_lt_of_le hb' x46.nxt) (by omega) hne]; exact x46.g b' hb' hne,by rw[hv15,hv6]; exact x46.vw⟩;have kf15:Bk m15 m.nxt 1 [fnc]:=⟨(hold _ k06.lt (by omega) (by omega)).trans k06.g,by rw[hn15]; exact Nat.lt_of_lt_of_le k06.lt hn6⟩;have hLm:L∈zrn n s [] 0:=List.mem_of_getElem? hL;have hmem:L∈zoi n:=(zvY _ _ _ _).2 ⟨s,Nat.zero_le _,by omega,hLm⟩;have hlen:=zv6 hLm
    simp only[List.length_nil] at hlen
    refine⟨fnc,kf15.rc rfl,ht m15 z L false x15 kB15 hl15 hnil.2 hmem _ fun m18 e18 kB18=>⟨_,rfl,?_⟩⟩;have kk18:=e18.bk kk15 (by omega)
    have hg18:∀b',b' < ma.nxt->b' ≠ m6.nxt->b' ≠ B->m18.g b'=ma.g b':=fun b' hb' hne hne2=>by rw[e18.g b' (by omega) hne2]; exact hg15 b' hne
    have hn18:ma.nxt<=m18.nxt:=by rw[<- hn15]; exact e18.nxt
    have hv18:m18.vw=ma.vw:=e18.vw.trans hv15;have hB18:m18.g m6.nxt=m15.g m6.nxt:=e18.g _ (by omega) hneB.symm;rw[zpQ];refine⟨fun htl=>?_,fun htl=>?_⟩
    ·have hl18:Li m18 z L:=hl15.to e18.nxt (fun b' hb' hx'=>by obtain⟨o,s',d,hx'⟩:=hx'; exact e18.g b' hb' (by have h1:=hfr b' _ _ _ _ hx'; have h2:=x46.nxt; show ¬ b'=B; omega)) e18.vw;rw[htl] at kB18;refine zv3 hl18 hnil.1 (by omega) fun z' m21 e21 hz' hfr' hok'=>⟨z',rfl,_,(kk18.ext e21).st _,?_⟩
     have hzne:∀b' o n s d,z'=.sl b' o n s d->b' ≠ m0.nxt:=fun b' o n s d hq=>by have:=hfr' b' o n s d hq; have:=kk18.lt; omega
     refine hK (.exit 0) (fun b'=>b'=m0.nxt\/b'=B\/∃o n s d,z'=.sl b' o n s d) _ (hB15 _ ?_) (Nat.le_trans hn18 e21.nxt) (e21.vw.trans hv18) (fun b' hb' hSb hbl=>?_) (fun b' hb'=>?_) ⟨rfl,z',L,fun _=>Iff.rfl,(kk18.ext e21).set _,(kB18.ext e21).setNe (by omega) _,hz'.setNe hzne _,fun b' o n s d hq=>?_,?_,?_,?_,fun b' hb' hne hne2=>?_⟩
     ·rw[M.g_set,if_neg (by omega),e21.g _ (by omega)]; exact hB18
     ·rw[M.g_set,if_neg fun h0=>hSb ((hS b').2 (.inl h0)),e21.g b' (by omega)]; exact hg18 b' hb' hbl fun h0=>hSb ((hS b').2 (.inr h0))
     ·rcases hb' with h0 | h0 | ⟨o,n',s',d,hq⟩
      ·exact .inl ((hS b').2 (.inl h0))
      ·exact .inl ((hS b').2 (.inr h0))
      ·exact .inr (by have:=hfr' _ _ _ _ _ hq; omega)
     ·have hmm:m.nxt<=b':=by have:=hfr' _ _ _ _ _ hq; have:=x15.nxt; have:=e18.nxt; omega
      refine⟨hmm,?_⟩;subst hq
      rcases hz'.val with ⟨h0,_⟩ | ⟨b3,o3,s3,c3,h0,h1,_⟩
      ·cases h0
      ·cases h0; exact h1
     ·exact⟨by rw[<- hf,zv5 hL,if_pos htl],hok'⟩
     ·exact Nat.le_trans hn6 (Nat.le_trans hn18 e21.nxt)
     ·exact(e21.vw.trans hv18).trans hv6
     ·rw[M.g_set,if_neg hne,e21.g b' (by omega),hg18 b' (by omega) (by omega) hne2]; exact hg6 b' hb' hne hne2
    ·rw[htl] at kB18;refine hK .nrm S _ (hB15 _ hB18) hn18 hv18 (fun b' hb' hSb hbl=>hg18 b' hb' hbl fun h0=>hSb ((hS b').2 (.inr h0))) (Own.refl S ma) ⟨hS,kk18,kB18,?_,Nat.le_trans hn6 hn18,hv18.trans hv6,fun b' hb' hne hne2=>by rw[hg18 b' (by omega) (by omega) hne2]; exact hg6 b' hb' hne hne2⟩;rw[<- hf,zv5 hL,if_neg (by rw[htl]; decide)]
   ·intro S' m5' hown hlt hv hg hj;obtain⟨hS,hkb,hkB5,hf,hn6,hv6,hg6⟩:=hj
    have hnone:(G s).find? t=none:=by rw[<- hf,List.drop_eq_nil_of_le (Nat.le_refl _)]; rfl
    rw[hnone] at hfind;refine⟨zvX (by omega) (by omega),ih (s+1) m5' (by omega) ⟨Nat.le_trans x46.nxt hn6,fun b' hb' hne=>by rw[hg6 b' (Nat.lt_of_lt_of_le hb' x46.nxt) (by omega) hne]; exact x46.g b' hb' hne,hv6.trans x46.vw⟩ ⟨(hg6 _ k06.lt (by omega) (by omega)).trans k06.g,Nat.lt_of_lt_of_le k06.lt hn6⟩ hkb hkB5 hfind⟩
   ·intro id S' m5' hown hlt hv hg hj;obtain⟨h1,z,L,h2,h3,hB3,h4,h5,h6,hn6,hv6,hg6⟩:=hj
    cases h1
    have hfs:(zoi n).find? t=some L:=by rw[<- hfind,h6.1]; rfl
    refine⟨z,h3.rc rfl,h z m5' ⟨Nat.le_trans x46.nxt hn6,fun b' hb' hne=>by rw[hg6 b' (Nat.lt_of_lt_of_le hb' x46.nxt) (by omega) hne]; exact x46.g b' hb' hne,hv6.trans x46.vw⟩ (by rw[hfs]; exact hB3) ?_ ?_ fun b o n' s d hz=>(h5 b o n' s d hz).1⟩ <;> rw[show zro n t=L from by unfold zro; rw[hfs]; rfl]
    ·exact h4
    ·exact h6.2
   ·intro S' m5' hown hlt hv hg hj;exact absurd hj.1 (by intro h; cases h)
 exact hgo (n+1) 0 m1 (by omega) ⟨x01.nxt,fun b hb _=>x01.g b hb,x01.vw⟩ (b0.ext x1) b1 (hB.ext x01) rfl
theorem zwq{f m m':M}(hS:Pre f m)(e:Ext m m'):Grw m f m' (grM f m m'):=⟨e,⟨Nat.le_trans hS.sub.nxt e.nxt,rfl,fun b hb _=>if_pos (Nat.lt_of_lt_of_le hb hS.sub.nxt)⟩,zwc hS e,fun b hb=>if_pos hb⟩
theorem zwr{w:Wk}{class_:Int}{ca105 ca107 ca108 ca109 ca110 ca111 ca112:C}{m f:M}{Q:V->M->Prop}{rz:List Int × Bool}(hS:Pre f m)(ha105:Sl f ca105 w.r.Price)(ha107:Sl f ca107 w.zone.Years)(ha108:zuJ f ca108 w.kinds.k0.lead)(ha109:zuJ f ca109 w.kinds.k1.lead)(ha110:zuJ f ca110 w.kinds.k2.lead)(ha111:zuJ f ca111 w.kinds.k3.lead)(ha112:Sl f ca112 w.can)(hp:ztO w class_=some rz)(hq:∀m' f' c0,Grw m f m' f'->Sl f' c0 rz.1->Q (.tup [.c c0,.c (.bool rz.2)]) m'):Wc prog tbl 73 [.agg 13 [Il w.r.Classes,Il w.r.Good,Il w.r.Bad,Il w.r.Rest,Il w.r.Fewest,ca105,Il w.zone.First,ca107,ca108,ca109,ca110,ca111,ca112],.c (Il class_)] m Q:=by
 obtain⟨⟨h1,h2⟩,hp⟩:=zqr hp;obtain rfl:=oi hp;refine w73 fun u G a I m2 J=>?_;obtain⟨N,x0⟩:=Bk.new G;obtain⟨b1,x1⟩:=Bk.new I;obtain⟨b2,O⟩:=Bk.new J
 have n0:u.nxt=m.nxt+1:=by rw[G]; rfl
 have n1:a.nxt=m.nxt+2:=by rw[I]; show u.nxt+1=_; omega
 have n2:m2.nxt=m.nxt+3:=by rw[J]; show a.nxt+1=_; omega
 have j:=x1.trans O;have A:=x0.trans j;refine⟨trivial,_,(N.ext j).rc rfl,ha112.isSl,?_⟩;rw[ha112.slLen];refine zwp (n:=w.can.length) (B:=a.nxt) (t:=fun L=>(ztN w class_ L).getD false) h1 b2 (fun m' z L v e hB hz hok hL Q' hQ'=>?_) fun z m' e hB hz hok hfr=>?_
 ·have hs:=h2 L hL;obtain⟨bb,hbb⟩:∃bb,ztN w class_ L=some bb:=Option.isSome_iff_exists.1 hs
  have hQ':∀m'',ExtX (isB a.nxt) m' m''->Bk m'' a.nxt 1 [.bool bb]->Q' (.c (.bool bb)) m'':=fun m''=>by
   have P:ExtX (isB a.nxt) m' m''->Bk m'' a.nxt 1 [.bool ((ztN w class_ L).getD false)]->Q' (.c (.bool ((ztN w class_ L).getD false))) m'':=hQ' m'';rw[hbb] at P;exact P
  have em:Ext m m':=e.ext A (by omega);have sA:Sub f (asM m'):=zv9 hS.sub em;have pA:Pre (asM m') m':=zwa hS em;have kw:=e.bk (N.ext j) (by omega);have kc:=e.bk (b1.ext O) (by omega)
  show Wc prog tbl 95 [.c z,.c (.ptr m.nxt 0),.c (.ptr u.nxt 0),.c (.ptr a.nxt 0)] m' Q'
  refine w95 z m.nxt u.nxt a.nxt ⟨_,_,_,_,_,_,_,_,_,_,_,_,_,kw.ra,?_⟩;obtain⟨v1,g1,hbb⟩:=zqq hbb;obtain⟨i,g2,hbb⟩:=zqq hbb;refine zvR (w:=w) (list:=L) pA (ha105.sub sA) (ha107.sub sA) (ha108.sub sA) (ha109.sub sA) (ha110.sub sA) (ha111.sub sA) (ha112.sub sA) (zwb hz hok) g1 fun qa sa c5 c7 c8 c9 ta ua va h q5 q7 q8 q9 S T Y=>⟨_,_,_,_,_,_,_,_,_,_,_,_,_,rfl,?_⟩;refine zvN (w:=v1) h.pre q5 q7 q8 q9 S T Y g2 fun wa D=>⟨_,_,_,_,_,_,rfl,_,((kc.ext h.ext).ext D).rc rfl,(kc.ext h.ext).rc rfl,kc.rc rfl,?_⟩;obtain⟨n,ni,nl,ng⟩:=zqk hbb;have xt:=h.ext.trans D;refine⟨n,ni,nl,_,zrw (l:=([i.c0,i.c1,i.c2,i.c3,i.c4,i.c5]:List Bool)) (enc:=C.bool) rfl ng,_,(hB.ext xt).st _,_,((hB.ext xt).set _).rc rfl,?_⟩;exact hQ' _ ⟨xt.nxt,fun b hb hne=>by rw[M.g_set,if_neg (show ¬ b=a.nxt from hne)]; exact xt.g b hb,xt.vw⟩ ((hB.ext xt).set _)
 ·have em:Ext m m':=e.ext A (by omega);refine⟨_,rfl,_,hB.rc rfl,_,hB.st _,_,(hB.set _).rc rfl,?_⟩;have F:Ext m (m'.set a.nxt (.cells 1 [C.bool ((zoi w.can.length).find? fun L=>(ztN w class_ L).getD false).isSome] false)):=em.setR (by omega) _;have p:=hz.setNe (c:=a.nxt) (fun b o n s d hq=>by have:=hfr b o n s d hq; omega) (.cells 1 [C.bool ((zoi w.can.length).find? fun L=>(ztN w class_ L).getD false).isSome] false);generalize m'.set a.nxt (.cells 1 [C.bool ((zoi w.can.length).find? fun L=>(ztN w class_ L).getD false).isSome] false)=q at F p;refine hq q (grM f m q) z (zwq hS F) ?_;refine⟨zqc _,⟨p.len,?_⟩,zq7 _,hok⟩
  rcases p.val with y | ⟨b,o,t,c,y,Z,h6⟩
  ·exact .inl y
  ·refine .inr ⟨b,o,t,c,y,Z,fun h0=>(h6 h0).to' ?_ ?_⟩
   ·have h7:=hfr _ _ _ _ _ y
    show(if b < m.nxt then f.g b else if b < q.nxt then q.g b else none)=_
    rw[if_neg (by omega),if_pos Z]
   ·show f.vw b=q.vw b
    rw[F.vw,hS.sub.vw]
theorem zws:TA prog 37 6:=⟨104,by kernel_rfl,by kernel_rfl,by kernel_rfl⟩
theorem zwt{r:Rl}{y:Yr}{ca105:C}{m f:M}{Q:V->M->Prop}{rz:P4}(hS:Pre f m)(ha105:Sl f ca105 r.Price)(hp:ztP r y=some rz)(hq:∀m',Ext m m'->Q (.agg 4 [.bool rz.p0,.bool rz.p1,.bool rz.p2,.bool rz.p3]) m'):Wc prog tbl 77 [.agg 6 [Il r.Classes,Il r.Good,Il r.Bad,Il r.Rest,Il r.Fewest,ca105],.agg 6 [Il y.Losses.Lo,Il y.Losses.Hi,Il y.Premiums.Lo,Il y.Premiums.Hi,Il y.Parcels,.bool y.Exempt]] m Q:=by
 have S0:=hS.st;obtain⟨τ0,_⟩:=zr1;refine w77 ?_;unfold ztP at hp;intro m0 za;obtain⟨Aa,Ba,bc,Ca⟩:=S0.blk za τ0 1;intro m1 Ea;obtain⟨Fa,Ga,Ha,Ia⟩:=Ba.blk Ea Aa 2;have Ja:=Ca.k Ha;intro m2 La;obtain⟨Ma,Na,da,Oa⟩:=Ga.blk La Fa 3;have Pa:=Ja.k da;have Qa:=Ia.k da;intro m3 Ra;obtain⟨Sa,Ta,J,Ua⟩:=Na.blk Ra Ma 4;have Va:=Pa.k J;have N:=Qa.k J;have Wa:=Oa.k J;refine⟨trivial,_,_,N.bk.rp (k:=0) (j:=2) rfl (by omega),trivial,_,_,N.bk.rp (k:=2) (j:=2) rfl (by omega),?_⟩;intro m8 Xa;obtain⟨ea,Ya,u,Za⟩:=Ta.blk Xa Sa 5;have ab:=Va.k u;have cb:=N.k u;have db:=Wa.k u;have eb:=Ua.k u;obtain⟨fa,ga,p,na⟩:=Za.freeze Ya;have fb:=ab.k p;have gb:=cb.k p;have hb:=db.k p;have ib:=eb.k p;have jb:Sl fa (C.sl m3.nxt 0 2 0 (Option.some 2)) ([y.Losses,y.Premiums]:List Rg):=Bk.sl (α:=Rg) (l:=([y.Losses,y.Premiums]:List Rg)) na (show Cat (α:=Rg) fa [Il y.Losses.Lo,Il y.Losses.Hi,Il y.Premiums.Lo,Il y.Premiums.Hi] ([y.Losses,y.Premiums]:List Rg) from ⟨[Il y.Losses.Lo,Il y.Losses.Hi],_,rfl,rfl,⟨[Il y.Premiums.Lo,Il y.Premiums.Hi],_,rfl,rfl,rfl⟩⟩) rfl rfl _;obtain⟨dc,kb,hp⟩:=zqq hp;refine zwn (l:=([y.Losses,y.Premiums]:List Rg)) ga.pre jb kb fun nc ec fc mb ob=>?_;obtain⟨pb,q⟩:=ga.callG mb ea;have ha:=fb.k q;have ia:=gb.k q;have ja:=hb.k q;have ka:=ib.k q;refine⟨_,rfl,?_⟩;refine zrl (α:=List Int) pb ob (σ:=Bool × Bool × Bool × Bool) 6 (fun st bb=>(False\/(False\/(False\/False)))) (fun st gG gF gT gM=>(Lb gG gF gT gM 1 m.nxt 6 [Il r.Classes,Il r.Good,Il r.Bad,Il r.Rest,Il r.Fewest,ca105])/\(Lb gG gF gT gM 2 m0.nxt 6 [Il y.Losses.Lo,Il y.Losses.Hi,Il y.Premiums.Lo,Il y.Premiums.Hi,Il y.Parcels,.bool y.Exempt])/\(Lb gG gF gT gM 3 m1.nxt 4 [.bool false,.bool false,.bool false,.bool false])/\(Lb gG gF gT gM 4 m2.nxt 4 [.bool st.1,.bool st.2.1,.bool st.2.2.1,.bool st.2.2.2])) (fun rr_ st=>pwithin_L0 r y rr_ st.1 st.2.1 st.2.2.1 st.2.2.2=some rz) (fun ex st=>False) (fun st=>(Gux.and (Gux.lb ha.bk.lt (by decide)) (Gux.and (Gux.lb ia.bk.lt (by decide)) (Gux.and (Gux.lb ja.bk.lt (by decide)) (Gux.lb ka.bk.lt (by decide)))))) (st0:=(false,false,false,false)) (τ:=ea) ⟨ha,ia,ja,ka⟩ hp ?_ ?_ ?_ ?_
 ·intro qb rb st w s T z gc Vb Wb Xb _ _ sb tb hA oa hp hrep Yb pa qa;obtain⟨hc,rfl,⟨A,_⟩⟩:=hrep;obtain⟨a,c,d,e⟩:=st;obtain⟨n,o,h,i⟩:=hA
  replace n:Lb z w s T 1 m.nxt 6 [Il r.Classes,Il r.Good,Il r.Bad,Il r.Rest,Il r.Fewest,ca105]:=n
  replace o:Lb z w s T 2 m0.nxt 6 [Il y.Losses.Lo,Il y.Losses.Hi,Il y.Premiums.Lo,Il y.Premiums.Hi,Il y.Parcels,.bool y.Exempt]:=o
  replace h:Lb z w s T 3 m1.nxt 4 [.bool false,.bool false,.bool false,.bool false]:=h
  replace i:Lb z w s T 4 m2.nxt 4 [.bool a,.bool c,.bool d,.bool e]:=i
  replace hp:pwithin_L0 r y (qb::rb) a c d e=some rz:=hp
  rw[pwithin_L0] at hp;refine⟨_,rfl,?_⟩;refine pa _ _ _ _ sb oa fun oc ic B D sa ta=>?_;have la:=n.k D;have ma:=o.k D;have ub:=h.k D;have vb:=i.k D;refine⟨_,_,_,_,_,_,la.bk.ra,_,_,_,_,_,_,ma.bk.ra,?_⟩;obtain⟨wb,O,hp⟩:=zqq hp;obtain⟨Sb,ua,Y,O⟩:=zqk O;refine⟨Sb,ua,(by first|exact Y|(rw[A.slLen];exact Y)),_,(A.rdI O B.sub),?_⟩;obtain⟨xb,P,hp⟩:=zqq hp;obtain⟨Tb,va,Z,P⟩:=zqk P;refine⟨Tb,va,(by first|exact Z|(rw[A.slLen];exact Z)),_,(A.rdI P B.sub),?_⟩;obtain⟨g,yb,hp⟩:=zqq hp;refine zvz (r:=r) (y:=y) (losses:=wb) (premiums:=xb) B.pre (ha105.sub (Sub.trans (Sub.trans p.fs q.fs) tb)) yb fun pc zb=>?_;obtain⟨Ab,t⟩:=B.call zb s;have Bb:=la.k t;have Cb:=ma.k t;have Db:=ub.k t;have Eb:=vb.k t;have wa:=sa.k t;refine⟨_,rfl,trivial,?_⟩;obtain⟨Fb,hp⟩:=zqr hp;obtain⟨Ub,aa,ba⟩:=zqQ Fb;refine⟨Ub,aa,ba,?_⟩;obtain⟨Gb,Hb,Ib,F,S⟩:=Eb.sta Ab (pre:=[]) (post:=[]) (l:=([a,c,d,e]:List Bool)) (enc:=C.bool) rfl rfl aa ba true
  replace S:Lb _ _ _ _ _ _ _ [(.bool (sti g 0 true a)),(.bool (sti g 1 true c)),(.bool (sti g 2 true d)),(.bool (sti g 3 true e))]:=S
  have Jb:=Bb.k F;have Kb:=Cb.k F;have Mb:=Db.k F;have xa:=wa.k F;refine⟨Gb,Hb,?_⟩;exact qa .nrm ((sti g 0 true a),(sti g 1 true c),(sti g 2 true d),(sti g 3 true e)) _ _ _ _ Ib ⟨Jb,Kb,Mb,S⟩ xa ta hp
 ·intro st G I ca Nb jc hA hp;obtain⟨a,c,d,e⟩:=st
  replace hp:pwithin_L0 r y [] a c d e=some rz:=hp
  obtain⟨n,o,h,i⟩:=hA
  replace n:Lb (Fm.of m) G I ca 1 m.nxt 6 [Il r.Classes,Il r.Good,Il r.Bad,Il r.Rest,Il r.Fewest,ca105]:=n
  replace o:Lb (Fm.of m) G I ca 2 m0.nxt 6 [Il y.Losses.Lo,Il y.Losses.Hi,Il y.Premiums.Lo,Il y.Premiums.Hi,Il y.Parcels,.bool y.Exempt]:=o
  replace h:Lb (Fm.of m) G I ca 3 m1.nxt 4 [.bool false,.bool false,.bool false,.bool false]:=h
  replace i:Lb (Fm.of m) G I ca 4 m2.nxt 4 [.bool a,.bool c,.bool d,.bool e]:=i
  rw[pwithin_L0] at hp;refine⟨_,_,_,_,i.bk.ra,?_⟩;obtain⟨Ob,Pb,Qb,kc,Rb⟩:=h.sto Nb [.bool a,.bool c,.bool d,.bool e];refine⟨Ob,Pb,?_⟩;refine⟨_,_,_,_,Rb.bk.ra,?_⟩;obtain rfl:=oi hp;exact hq _ Qb.ext'
 ·intro id st _ _ _ _ _ _ hn; first | exact hn.elim | (cases hn)
 ·intro st _ _ _ _ _ _ hn; first | exact hn.elim | (cases hn)
theorem zwu{r:Rl}{z:Zn}{ca105 ca201:C}{m f:M}{Q:V->M->Prop}{rz:Wk × Int}(hS:Pre f m)(ha105:Sl f ca105 r.Price)(ha201:Sl f ca201 z.Years)(hp:ztR r z=some rz)(hq:∀m' f' c5 c7 c8 c9 c10 c11 c12,Grw m f m' f'->Sl f' c5 rz.1.r.Price->Sl f' c7 rz.1.zone.Years->zuJ f' c8 rz.1.kinds.k0.lead->zuJ f' c9 rz.1.kinds.k1.lead->zuJ f' c10 rz.1.kinds.k2.lead->zuJ f' c11 rz.1.kinds.k3.lead->Sl f' c12 rz.1.can->Q (.tup [.agg 13 [Il rz.1.r.Classes,Il rz.1.r.Good,Il rz.1.r.Bad,Il rz.1.r.Rest,Il rz.1.r.Fewest,c5,Il rz.1.zone.First,c7,c8,c9,c10,c11,c12],.c (Il rz.2)]) m'):Wc prog tbl 53 [.agg 6 [Il r.Classes,Il r.Good,Il r.Bad,Il r.Rest,Il r.Fewest,ca105],.agg 2 [Il z.First,ca201]] m Q:=by
 have S0:=hS.st;obtain⟨τ0,_⟩:=zr1;refine w53 ?_;unfold ztR at hp;intro m0 Ua;obtain⟨Va,Wa,Xc,Xa⟩:=S0.blk Ua τ0 1;intro m1 Ya;obtain⟨Za,ab,bb,cb⟩:=Wa.blk Ya Va 2;have db:=Xa.k bb;intro m2 eb;obtain⟨ta,ua,va,fb⟩:=ab.blk eb Za 3;have wa:=db.k va;have xa:=cb.k va;refine⟨_,_,_,_,_,_,wa.bk.ra,_,_,xa.bk.ra,?_⟩;obtain⟨Zc,gb,hp⟩:=zqq hp;refine zvs (r:=r) (z:=z) ua.pre ha105 ha201 gb fun Jc hb=>?_;obtain⟨ya,da⟩:=ua.call hb ta;have ib:=wa.k da;have jb:=xa.k da;have za:=fb.k da;refine⟨_,rfl,?_⟩;refine zqT hp (fun kb hp=>?_) fun kb hp=>?_
 ·obtain⟨mb,ob,pb,ad,qb⟩:=za.sto ya [Il 0,Il 0,Il 0,Il 0,Il 0,.sl0,Il 0,.sl0,C.nilFn,C.nilFn,C.nilFn,C.nilFn,.sl0];refine⟨mb,ob,?_⟩;refine⟨_,_,_,_,_,_,_,_,_,_,_,_,_,qb.bk.ra,?_⟩
  have Oc:zuJ f .nilFn (fun _ _=>none):=by refine⟨rfl,?_⟩; intro f9 m9 _ _ _ r9 Q9 _ _ _ e; exact absurd e (by intro i; cases i)
  have Pc:zuJ f .nilFn (fun _ _=>none):=by refine⟨rfl,?_⟩; intro f9 m9 _ _ _ r9 Q9 _ _ _ e; exact absurd e (by intro i; cases i)
  have Qc:zuJ f .nilFn (fun _ _=>none):=by refine⟨rfl,?_⟩; intro f9 m9 _ _ _ r9 Q9 _ _ _ e; exact absurd e (by intro i; cases i)
  have Rc:zuJ f .nilFn (fun _ _=>none):=by refine⟨rfl,?_⟩; intro f9 m9 _ _ _ r9 Q9 _ _ _ e; exact absurd e (by intro i; cases i)
  have Na:zuJ f .nilFn (fun _ _=>none):=by refine⟨rfl,?_⟩; intro f9 m9 _ _ _ r9 Q9 _ _ _ e; exact absurd e (by intro i; cases i)
  have Oa:zuJ f .nilFn (fun _ _=>none):=by refine⟨rfl,?_⟩; intro f9 m9 _ _ _ r9 Q9 _ _ _ e; exact absurd e (by intro i; cases i)
  have Pa:zuJ f .nilFn (fun _ _=>none):=by refine⟨rfl,?_⟩; intro f9 m9 _ _ _ r9 Q9 _ _ _ e; exact absurd e (by intro i; cases i)
  have Qa:zuJ f .nilFn (fun _ _=>none):=by refine⟨rfl,?_⟩; intro f9 m9 _ _ _ r9 Q9 _ _ _ e; exact absurd e (by intro i; cases i)
  obtain rfl:=oi hp;exact hq _ f .sl0 .sl0 C.nilFn C.nilFn C.nilFn C.nilFn .sl0 pb.grw (Sl.nil _) (Sl.nil _) Na Oa Pa Qa (Sl.nil _)
 intro bd rb;obtain⟨Aa,Ba,ia,Ra⟩:=ya.growK rb ta 4;have Ca:=ib.k ia;have Da:=jb.k ia;have sb:=za.k ia;have tb:=Ra 0 (by decide);refine⟨_,_,_,_,_,_,Ca.bk.ra,_,_,Da.bk.ra,?_⟩;obtain⟨ub,vb,hp⟩:=zqq hp;refine zvx Ba.pre  vb fun cd j B D F G wb xb yb zb Ab=>?_;obtain⟨Bb,g⟩:=Ba.callG wb Aa;have Ea:=Ca.k g;have Fa:=Da.k g;have Cb:=sb.k g;have Db:=tb.k g;refine⟨_,_,_,_,rfl,(by rw[show zaL cmC _=true from zoW (zqu rfl (zqu ha201.noFn zqv))]; exact(Fa.bk.ra)),(by rw[show zaL cmC _=true from zoW (zqu rfl (zqu rfl (zqu rfl (zqu rfl (zqu rfl (zqu ha105.noFn zqv))))))]; exact(Ea.bk.ra)),?_⟩;intro dd Eb;obtain⟨Fb,ja,Gb⟩:=Db.set Bb Eb;have Ga:=Ea.k ja;have Ha:=Fa.k ja;have Hb:=Cb.k ja;refine⟨(by rw[show zaL cmC _=true from zoW (zqu rfl (zqu ha201.noFn zqv))]; exact(Ha.bk.ra)),(by rw[show zaL cmC _=true from zoW (zqu rfl (zqu rfl (zqu rfl (zqu rfl (zqu rfl (zqu ha105.noFn zqv))))))]; exact(Ga.bk.ra)),?_⟩;obtain⟨Ib,Jb,Kb,ka,I⟩:=Gb.sto Fb [Il r.Classes,Il r.Good,Il r.Bad,Il r.Rest,Il r.Fewest,ca105,Il z.First,ca201,B,D,F,G,.sl0];have T:=Ga.k ka;have J:=Ha.k ka;have N:=Hb.k ka;refine⟨Ib,Jb,?_⟩;refine⟨trivial,_,J.bk.rc rfl,ha201.isSl,?_⟩;intro Kc Mb
 have hgo:∀(Y:Nat) (qa:Int) (o:C) (p:Int) (q:Int) (s:Int) (t:Int) (u:Int) (w:Int) (Z:List P4) (n:M) (h:Nat->Nat),St (Fm.of m) f j n->Lb (Fm.of m) j h n 1 m.nxt 6 [Il r.Classes,Il r.Good,Il r.Bad,Il r.Rest,Il r.Fewest,ca105]->Lb (Fm.of m) j h n 2 m0.nxt 2 [Il z.First,ca201]->Lb (Fm.of m) j h n 3 m1.nxt 13 [Il 0,Il 0,Il 0,Il 0,Il 0,.sl0,Il 0,.sl0,C.nilFn,C.nilFn,C.nilFn,C.nilFn,.sl0]->Lb (Fm.of m) j h n 4 (Jc.nxt+0) 13 [Il p,Il q,Il s,Il t,Il u,ca105,Il w,ca201,B,D,F,G,o]->Ow (Fm.of m) j h n 5 o Z->ztQ r z ub Y p q s t u w Z qa=some rz->Kc [.c (Il qa)] n:=by
  intro Y
  induction Y with
  | zero=>intro qa o p q s t u w Z n h aa T J N I d hp; cases hp
  | succ Y Sa=>
   intro qa o p q s t u w Z n h aa T J N I d hp;refine Mb _ _ ?_;rw[ztQ] at hp
   try rw[ha201.slLen]
   refine ifd hp (fun Nb hp=>?_) fun Nb hp=>?_; rotate_left
   ·refine⟨_,_,_,_,_,_,_,_,_,_,_,_,_,I.bk.ra,?_⟩;obtain⟨Ob,Pb,Qb,Rb,Sb⟩:=N.sto aa [Il p,Il q,Il s,Il t,Il u,ca105,Il w,ca201,B,D,F,G,o];have d:=d.k Rb;refine⟨Ob,Pb,?_⟩;refine⟨_,_,_,_,_,_,_,_,_,_,_,_,_,Sb.bk.ra,?_⟩;obtain⟨Tb,Ub,A,Vb⟩:=d.freeze Qb;obtain rfl:=oi hp;exact hq _ Tb ca105 ca201 B D F G o Ub.grw (ha105.sub (Sub.trans g.fs A.fs)) (ha201.sub (Sub.trans g.fs A.fs)) (xb.sub A.fs) (yb.sub A.fs) (zb.sub A.fs) (Ab.sub A.fs) Vb
   obtain⟨l,la,hp⟩:=zqq hp;obtain⟨Nc,Ta,sa,la⟩:=zqk la;obtain⟨_,Wb⟩:=zr6 ha201 la;refine⟨Nc,Ta,(by first|exact sa|(rw[ha201.slLen];exact sa)),_,_,_,_,_,_,(Wb _ (Sub.trans g.fs aa.sub)).1,?_⟩;intro ed Xb;obtain⟨Yb,Zb,O,ac⟩:=aa.blk Xb h 6;have bc:=T.k O;have cc:=J.k O;have dc:=N.k O;have ec:=I.k O;have d:=d.k O;obtain⟨fc,gc,Ia,P,hc⟩:=ac.sto Zb [Il l.Losses.Lo,Il l.Losses.Hi,Il l.Premiums.Lo,Il l.Premiums.Hi,Il l.Parcels,.bool l.Exempt];have Ja:=bc.k P;have ic:=cc.k P;have jc:=dc.k P;have Ka:=ec.k P;have d:=d.k P;refine⟨fc,gc,?_⟩;refine⟨trivial,_,Ka.bk.rc rfl,_,_,_,_,_,_,Ja.bk.ra,_,_,_,_,_,_,hc.bk.ra,?_⟩;obtain⟨La,kc,hp⟩:=zqq hp;refine zwt (r:=r) (y:=l) Ia.pre (ha105.sub g.fs) kc fun fd nc=>?_;obtain⟨oc,S⟩:=Ia.call nc Yb;have pc:=Ja.k S;have qc:=ic.k S;have sc:=jc.k S;have ma:=Ka.k S;have d:=d.k S;refine⟨_,_,_,_,rfl,(by rw[show cmC _=true from zoV (d.noFn)]; exact(ma.bk.rc rfl)),?_⟩;obtain⟨tc,hp⟩:=zqr hp;intro hd Ma;refine⟨(by rw[show cmC _=true from zoV (d.noFn)]; exact(ma.bk.ext (Bk.new Ma).2).rc rfl),?_⟩;obtain⟨na,uc,vc,wc,xc,ba,oa⟩:=d.app' zuP oc (a:=La) (show Rp.rep (α:=P4) j _ La from rfl) tc Ma;have yc:=pc.k ba;have zc:=qc.k ba;have Ac:=sc.k ba;have Bc:=ma.k ba;refine⟨na,uc,wc,?_⟩;refine⟨trivial,?_⟩;obtain⟨Cc,Dc,Ec,ca,pa⟩:=Bc.sto1 xc 12 na (by simp) rfl
   replace pa:Lb _ _ _ _ _ _ _ [Il p,Il q,Il s,Il t,Il u,ca105,Il w,ca201,B,D,F,G,na]:=pa
   have Fc:=yc.k ca;have Gc:=zc.k ca;have Hc:=Ac.k ca;have oa:=oa.k ca;refine⟨Cc,Dc,?_⟩;refine gdi hp fun Ic hp=>?_;exact Sa _ _ _ _ _ _ _ _ _ _ vc Ec Fc Gc Hc pa oa hp
 exact hgo _ _ _ _ _ _ _ _ _ _ _ Aa Kb T J N I (Ow.nil _ _ _ _ _) hp
theorem zwv{r:Rl}{z:Zn}{year:Int}{ca105 ca201:C}{m f:M}{Q:V->M->Prop}{rz:Wk × Int}(hS:Pre f m)(ha105:Sl f ca105 r.Price)(ha201:Sl f ca201 z.Years)(hp:ztS r z year=some rz)(hq:∀m' f' c5 c7 c8 c9 c10 c11 c12,Grw m f m' f'->Sl f' c5 rz.1.r.Price->Sl f' c7 rz.1.zone.Years->zuJ f' c8 rz.1.kinds.k0.lead->zuJ f' c9 rz.1.kinds.k1.lead->zuJ f' c10 rz.1.kinds.k2.lead->zuJ f' c11 rz.1.kinds.k3.lead->Sl f' c12 rz.1.can->Q (.tup [.agg 13 [Il rz.1.r.Classes,Il rz.1.r.Good,Il rz.1.r.Bad,Il rz.1.r.Rest,Il rz.1.r.Fewest,c5,Il rz.1.zone.First,c7,c8,c9,c10,c11,c12],.c (Il rz.2)]) m'):Wc prog tbl 61 [.agg 6 [Il r.Classes,Il r.Good,Il r.Bad,Il r.Rest,Il r.Fewest,ca105],.agg 2 [Il z.First,ca201],.c (Il year)] m Q:=by
 have S0:=hS.st;obtain⟨τ0,_⟩:=zr1;refine w61 ?_;unfold ztS at hp;intro m0 ia;obtain⟨ja,ka,hb,la⟩:=S0.blk ia τ0 1;intro m1 ma;obtain⟨na,oa,pa,qa⟩:=ka.blk ma ja 2;have sa:=la.k pa;intro m2 ta;obtain⟨A,B,D,ua⟩:=oa.blk ta na 3;have va:=sa.k D;have F:=qa.k D;refine⟨_,_,_,_,_,_,va.bk.ra,_,_,F.bk.ra,?_⟩;obtain⟨a,wa,hp⟩:=zqq hp;refine zwu (r:=r) (z:=z) B.pre ha105 ha201 wa fun ob d h i j l n o p xa G I J N O P S=>?_;obtain⟨ya,q⟩:=B.callG xa A;have za:=F.k q;have Aa:=ua.k q;refine⟨_,_,_,_,_,_,_,_,_,_,_,_,_,_,rfl,?_⟩;intro pb Ba;obtain⟨Ca,Da,T,Ea⟩:=ya.blk Ba A 4;have Fa:=za.k T;have Ga:=Aa.k T;obtain⟨Ha,Ia,s,Y,Z⟩:=Ea.sto Da [Il a.1.r.Classes,Il a.1.r.Good,Il a.1.r.Bad,Il a.1.r.Rest,Il a.1.r.Fewest,h,Il a.1.zone.First,i,j,l,n,o,p];have Ja:=Fa.k Y;have aa:=Ga.k Y;refine⟨Ha,Ia,?_⟩;refine ifd hp (fun Ka hp=>?_) fun Ka hp=>?_; rotate_left
 ·refine⟨_,_,_,_,_,_,_,_,_,_,_,_,_,Z.bk.ra,?_⟩;obtain⟨La,Ma,Na,ib,Oa⟩:=aa.sto s [Il a.1.r.Classes,Il a.1.r.Good,Il a.1.r.Bad,Il a.1.r.Rest,Il a.1.r.Fewest,h,Il a.1.zone.First,i,j,l,n,o,p];refine⟨La,Ma,?_⟩;refine⟨_,_,_,_,_,_,_,_,_,_,_,_,_,Oa.bk.ra,?_⟩;obtain rfl:=oi hp;exact hq _ d h i j l n o p Na.grw G I J N O P S
 refine⟨_,_,Ja.bk.ra,?_⟩;obtain⟨jb,Pa,hp⟩:=zqq hp;refine zvq (z:=z) (year:=year) s.pre (ha201.sub q.fs) Pa fun qb Qa=>?_;obtain⟨ba,ca⟩:=s.call Qa Ca;have da:=aa.k ca;have Ra:=Z.k ca;refine⟨_,rfl,?_⟩;refine zqV hp (fun Sa hp=>?_) fun Sa hp=>?_; rotate_left
 ·refine⟨_,_,_,_,_,_,_,_,_,_,_,_,_,Ra.bk.ra,?_⟩;obtain⟨Ta,Ua,Va,kb,Wa⟩:=da.sto ba [Il a.1.r.Classes,Il a.1.r.Good,Il a.1.r.Bad,Il a.1.r.Rest,Il a.1.r.Fewest,h,Il a.1.zone.First,i,j,l,n,o,p];refine⟨Ta,Ua,?_⟩;refine⟨_,_,_,_,_,_,_,_,_,_,_,_,_,Wa.bk.ra,?_⟩;obtain rfl:=oi hp;exact hq _ d h i j l n o p Va.grw G I J N O P S
 obtain⟨Xa,Ya,Za,mb,ab⟩:=da.sto ba [Il 0,Il 0,Il 0,Il 0,Il 0,.sl0,Il 0,.sl0,C.nilFn,C.nilFn,C.nilFn,C.nilFn,.sl0];refine⟨Xa,Ya,?_⟩;refine⟨_,_,_,_,_,_,_,_,_,_,_,_,_,ab.bk.ra,?_⟩
 have bb:zuJ d .nilFn (fun _ _=>none):=by refine⟨rfl,?_⟩; intro t u _ _ _ w y _ _ _ e; exact absurd e (by intro g; cases g)
 have cb:zuJ d .nilFn (fun _ _=>none):=by refine⟨rfl,?_⟩; intro t u _ _ _ w y _ _ _ e; exact absurd e (by intro g; cases g)
 have db:zuJ d .nilFn (fun _ _=>none):=by refine⟨rfl,?_⟩; intro t u _ _ _ w y _ _ _ e; exact absurd e (by intro g; cases g)
 have eb:zuJ d .nilFn (fun _ _=>none):=by refine⟨rfl,?_⟩; intro t u _ _ _ w y _ _ _ e; exact absurd e (by intro g; cases g)
 have ea:zuJ d .nilFn (fun _ _=>none):=by refine⟨rfl,?_⟩; intro t u _ _ _ w y _ _ _ e; exact absurd e (by intro g; cases g)
 have fa:zuJ d .nilFn (fun _ _=>none):=by refine⟨rfl,?_⟩; intro t u _ _ _ w y _ _ _ e; exact absurd e (by intro g; cases g)
 have ga:zuJ d .nilFn (fun _ _=>none):=by refine⟨rfl,?_⟩; intro t u _ _ _ w y _ _ _ e; exact absurd e (by intro g; cases g)
 have ha:zuJ d .nilFn (fun _ _=>none):=by refine⟨rfl,?_⟩; intro t u _ _ _ w y _ _ _ e; exact absurd e (by intro g; cases g)
 obtain rfl:=oi hp;exact hq _ d .sl0 .sl0 C.nilFn C.nilFn C.nilFn C.nilFn .sl0 Za.grw (Sl.nil _) (Sl.nil _) ea fa ga ha (Sl.nil _)
theorem zww{r:Rl}{z:Zn}{t:Tr}{ca105 ca201 ca300 ca301:C}{m f:M}{Q:V->M->Prop}{rz:List Int × Int}(hS:Pre f m)(ha105:Sl f ca105 r.Price)(ha201:Sl f ca201 z.Years)(ha300:Sl f ca300 t.Losses)(ha301:Sl f ca301 t.Premiums)(hp:ztT r z t=some rz)(hq:∀m' f' c0,Grw m f m' f'->Sl f' c0 rz.1->Q (.tup [.c c0,.c (Il rz.2)]) m'):Wc prog tbl 19 [.agg 6 [Il r.Classes,Il r.Good,Il r.Bad,Il r.Rest,Il r.Fewest,ca105],.agg 2 [Il z.First,ca201],.agg 2 [ca300,ca301]] m Q:=by
 have S0:=hS.st;obtain⟨τ0,_⟩:=zr1;refine w19 ?_;unfold ztT at hp;intro m0 y;obtain⟨A,B,Pa,D⟩:=S0.blk y τ0 1;intro m1 F;obtain⟨G,I,J,N⟩:=B.blk F A 2;have O:=D.k J;intro m2 P;obtain⟨h,i,j,S⟩:=I.blk P G 3;have T:=O.k j;have l:=N.k j;refine⟨_,_,_,_,_,_,T.bk.ra,_,_,l.bk.ra,?_⟩;obtain⟨a,Y,hp⟩:=zqq hp;refine zwu (r:=r) (z:=z) i.pre ha105 ha201 Y fun Ta n Z aa ba ca da ea fa ga ha ia ja ka la ma na=>?_;obtain⟨oa,d⟩:=i.callG ga h;have pa:=l.k d;have qa:=S.k d;refine⟨_,_,_,_,_,_,_,_,_,_,_,_,_,_,rfl,?_⟩;intro Ua sa;obtain⟨o,ta,p,ua⟩:=oa.blk sa h 4;have va:=pa.k p;have wa:=qa.k p;obtain⟨xa,ya,e,q,za⟩:=ua.sto ta [Il a.1.r.Classes,Il a.1.r.Good,Il a.1.r.Bad,Il a.1.r.Rest,Il a.1.r.Fewest,Z,Il a.1.zone.First,aa,ba,ca,da,ea,fa];have Aa:=va.k q;have s:=wa.k q;refine⟨xa,ya,?_⟩;refine zqT hp (fun Ba hp=>?_) fun Ba hp=>?_
 ·obtain rfl:=oi hp;exact hq _ n .sl0 e.grw (Sl.nil _)
 refine⟨_,_,Aa.bk.ra,_,_,s.bk.ra,?_⟩;obtain⟨Qa,Ca,hp⟩:=zqq hp;refine zvr (z:=z) (t:=t) e.pre (ha201.sub d.fs) (ha300.sub d.fs) (ha301.sub d.fs) Ca fun Va Da=>?_;obtain⟨g,u⟩:=e.call Da o;have Ea:=s.k u;have Fa:=za.k u;refine⟨_,rfl,?_⟩;refine zqV hp (fun Ga hp=>?_) fun Ga hp=>?_
 ·obtain rfl:=oi hp;exact hq _ n .sl0 g.grw (Sl.nil _)
 refine⟨_,_,_,_,_,_,_,_,_,_,_,_,_,Fa.bk.ra,_,_,Ea.bk.ra,?_⟩;obtain⟨Ra,Ha,hp⟩:=zqq hp;refine zvJ (w:=a.1) (t:=t) g.pre ha ia ja ka la ma na (ha300.sub d.fs) (ha301.sub d.fs) Ha fun Wa Ia Ja Ka La=>?_;obtain⟨Ma,Sa⟩:=g.callG Ka o;refine⟨_,rfl,?_⟩;obtain rfl:=oi hp;exact hq _ Ia Ja Ma.grw La
theorem zwx{r:Rl}{z:Zn}{year:Int}{ca105 ca201:C}{m f:M}{Q:V->M->Prop}{rz:List Int × Int}(hS:Pre f m)(ha105:Sl f ca105 r.Price)(ha201:Sl f ca201 z.Years)(hp:ztU r z year=some rz)(hq:∀m' f' c0,Grw m f m' f'->Sl f' c0 rz.1->Q (.tup [.c c0,.c (Il rz.2)]) m'):Wc prog tbl 29 [.agg 6 [Il r.Classes,Il r.Good,Il r.Bad,Il r.Rest,Il r.Fewest,ca105],.agg 2 [Il z.First,ca201],.c (Il year)] m Q:=by
 have S0:=hS.st;obtain⟨τ0,_⟩:=zr1;refine w29 ?_;unfold ztU at hp;intro m0 l;obtain⟨n,o,Ca,p⟩:=S0.blk l τ0 1;intro m1 q;obtain⟨g,h,t,u⟩:=o.blk q n 2;have y:=p.k t;refine⟨_,_,_,_,_,_,y.bk.ra,_,_,u.bk.ra,?_⟩;obtain⟨a,A,hp⟩:=zqq hp;refine zwv (r:=r) (z:=z) (year:=year) h.pre ha105 ha201 A fun Ma B D F G I J N O P S T Y Z aa ba ca=>?_;obtain⟨da,Da⟩:=h.callG P g;refine⟨_,_,_,_,_,_,_,_,_,_,_,_,_,_,rfl,?_⟩;intro Na ea;obtain⟨d,fa,Ea,ga⟩:=da.blk ea g 3;obtain⟨ha,ia,e,Fa,ja⟩:=ga.sto fa [Il a.1.r.Classes,Il a.1.r.Good,Il a.1.r.Bad,Il a.1.r.Rest,Il a.1.r.Fewest,D,Il a.1.zone.First,F,G,I,J,N,O];refine⟨ha,ia,?_⟩;refine zqT hp (fun ka hp=>?_) fun ka hp=>?_
 ·obtain rfl:=oi hp;exact hq _ B .sl0 e.grw (Sl.nil _)
 refine⟨_,_,_,_,_,_,_,_,_,_,_,_,_,ja.bk.ra,?_⟩;refine gdi hp fun la hp=>?_;obtain⟨ma,na,hp⟩:=zqq hp;refine zvL (w:=a.1) (years:=(year+1)) e.pre S T Y Z aa ba ca na fun Oa Ga Ha oa pa=>?_;obtain⟨i,Ia⟩:=e.callG oa d;refine⟨_,rfl,?_⟩;obtain⟨qa,sa,hp⟩:=zqq hp;refine zvH (s:=ma) i.pre pa sa fun Pa ta=>?_;obtain⟨j,Ja⟩:=i.call ta d;refine⟨_,_,_,_,_,_,rfl,?_⟩;obtain⟨Ka,ua,hp⟩:=zqq hp;refine zvC (c:=qa) j.pre  ua fun Qa va wa xa ya=>?_;obtain⟨za,La⟩:=j.callG xa d;refine⟨_,rfl,?_⟩;obtain rfl:=oi hp;exact hq _ va wa za.grw ya
theorem zwy{r:Rl}{z:Zn}{year:Int}{ca105 ca201:C}{m f:M}{Q:V->M->Prop}{rz:Int × Int}(hS:Pre f m)(ha105:Sl f ca105 r.Price)(ha201:Sl f ca201 z.Years)(hp:ztV r z year=some rz)(hq:∀m',Ext m m'->Q (.tup [.c (Il rz.1),.c (Il rz.2)]) m'):Wc prog tbl 30 [.agg 6 [Il r.Classes,Il r.Good,Il r.Bad,Il r.Rest,Il r.Fewest,ca105],.agg 2 [Il z.First,ca201],.c (Il year)] m Q:=by
 have S0:=hS.st;obtain⟨τ0,_⟩:=zr1;refine w30 ?_;unfold ztV at hp;intro m0 h;obtain⟨i,j,ma,l⟩:=S0.blk h τ0 1;intro m1 n;obtain⟨e,g,o,p⟩:=j.blk n i 2;have q:=l.k o;refine⟨_,_,_,_,_,_,q.bk.ra,_,_,p.bk.ra,?_⟩;obtain⟨a,s,hp⟩:=zqq hp;refine zwv (r:=r) (z:=z) (year:=year) g.pre ha105 ha201 s fun ua na t u y A B D F G I J N O P S T=>?_;obtain⟨Y,oa⟩:=g.callG G e;refine⟨_,_,_,_,_,_,_,_,_,_,_,_,_,_,rfl,?_⟩;intro va Z;obtain⟨aa,ba,pa,ca⟩:=Y.blk Z e 3;obtain⟨da,ea,d,qa,fa⟩:=ca.sto ba [Il a.1.r.Classes,Il a.1.r.Good,Il a.1.r.Bad,Il a.1.r.Rest,Il a.1.r.Fewest,t,Il a.1.zone.First,u,y,A,B,D,F];refine⟨da,ea,?_⟩;refine zqT hp (fun ga hp=>?_) fun ga hp=>?_
 ·obtain rfl:=oi hp;exact hq _ d.ext'
 refine⟨_,_,_,_,_,_,_,_,_,_,_,_,_,fa.bk.ra,?_⟩;obtain⟨sa,ha,hp⟩:=zqq hp;refine zvM (w:=a.1) (year:=year) d.pre I J N O P S T ha fun wa ia=>?_;obtain⟨ja,ta⟩:=d.call ia aa;refine⟨_,rfl,?_⟩;obtain rfl:=oi hp;exact hq _ ja.ext'
theorem zwz{r:Rl}{z:Zn}{ca105 ca201:C}{m f:M}{Q:V->M->Prop}{rz:Rg × Int}(hS:Pre f m)(ha105:Sl f ca105 r.Price)(ha201:Sl f ca201 z.Years)(hp:ztW r z=some rz)(hq:∀m',Ext m m'->Q (.tup [.agg 2 [Il rz.1.Lo,Il rz.1.Hi],.c (Il rz.2)]) m'):Wc prog tbl 34 [.agg 6 [Il r.Classes,Il r.Good,Il r.Bad,Il r.Rest,Il r.Fewest,ca105],.agg 2 [Il z.First,ca201]] m Q:=by
 have S0:=hS.st;obtain⟨τ0,_⟩:=zr1;refine w34 ?_;unfold ztW at hp;intro m0 s;obtain⟨t,u,Za,y⟩:=S0.blk s τ0 1;intro m1 A;obtain⟨B,D,F,G⟩:=u.blk A t 2;have I:=y.k F;intro m2 J;obtain⟨g,h,i,N⟩:=D.blk J B 3;have O:=I.k i;have P:=G.k i;refine⟨_,_,_,_,_,_,O.bk.ra,_,_,P.bk.ra,?_⟩;obtain⟨a,S,hp⟩:=zqq hp;refine zwu (r:=r) (z:=z) h.pre ha105 ha201 S fun fb ab T Y Z aa ba ca da ea fa ga ha ia ja ka la=>?_;obtain⟨ma,na⟩:=h.callG ea g;have oa:=N.k na;refine⟨_,_,_,_,_,_,_,_,_,_,_,_,_,_,rfl,?_⟩;intro gb pa;obtain⟨d,qa,sa,ta⟩:=ma.blk pa g 4;have ua:=oa.k sa;obtain⟨va,wa,e,xa,ya⟩:=ta.sto qa [Il a.1.r.Classes,Il a.1.r.Good,Il a.1.r.Bad,Il a.1.r.Rest,Il a.1.r.Fewest,T,Il a.1.zone.First,Y,Z,aa,ba,ca,da];have j:=ua.k xa;refine⟨va,wa,?_⟩;refine zqT hp (fun za hp=>?_) fun za hp=>?_
 ·obtain⟨Aa,Ba,Ca,bb,Da⟩:=j.sto e [Il 0,Il 0];refine⟨Aa,Ba,?_⟩;refine⟨_,_,Da.bk.ra,?_⟩;obtain rfl:=oi hp;exact hq _ Ca.ext'
 refine⟨_,_,_,_,_,_,_,_,_,_,_,_,_,ya.bk.ra,?_⟩;obtain⟨n,Ea,hp⟩:=zqq hp;refine zvO (w:=a.1) e.pre fa ga ha ia ja ka la Ea fun hb cb db Fa o=>?_;obtain⟨p,Ga⟩:=e.callG Fa d;have Ha:=j.k Ga;refine⟨_,rfl,?_⟩;obtain⟨Ia,Ja,hp⟩:=zqq hp;refine zu7 (l:=n) p.pre o Ja fun ib Ka=>?_;obtain⟨q,La⟩:=p.call Ka d;have Ma:=Ha.k La;refine⟨_,rfl,?_⟩;obtain⟨Na,Oa,hp⟩:=zqq hp;refine zu8 (l:=n) q.pre o Oa fun jb Pa=>?_;obtain⟨Qa,Ra⟩:=q.call Pa d;have Sa:=Ma.k Ra;refine⟨_,rfl,?_⟩;obtain⟨Ta,Ua,Va,eb,Wa⟩:=Sa.sto Qa [Il Ia,Il Na];refine⟨Ta,Ua,?_⟩;refine⟨_,_,Wa.bk.ra,?_⟩;obtain rfl:=oi hp;exact hq _ Va.ext'
theorem zwA{r:Rl}{z:Zn}{ca105 ca201:C}{m f:M}{Q:V->M->Prop}{rz:List Int × Int}(hS:Pre f m)(ha105:Sl f ca105 r.Price)(ha201:Sl f ca201 z.Years)(hp:ztX r z=some rz)(hq:∀m' f' c0,Grw m f m' f'->Sl f' c0 rz.1->Q (.tup [.c c0,.c (Il rz.2)]) m'):Wc prog tbl 35 [.agg 6 [Il r.Classes,Il r.Good,Il r.Bad,Il r.Rest,Il r.Fewest,ca105],.agg 2 [Il z.First,ca201]] m Q:=by
 have S0:=hS.st;obtain⟨τ0,_⟩:=zr1;refine w35 ?_;unfold ztX at hp;intro m0 h;obtain⟨i,j,qa,l⟩:=S0.blk h τ0 1;intro m1 n;obtain⟨e,g,o,p⟩:=j.blk n i 2;have q:=l.k o;refine⟨_,_,_,_,_,_,q.bk.ra,_,_,p.bk.ra,?_⟩;obtain⟨a,s,hp⟩:=zqq hp;refine zwu (r:=r) (z:=z) g.pre ha105 ha201 s fun xa t u y A B D F G I J N O P S T Y=>?_;obtain⟨Z,sa⟩:=g.callG I e;refine⟨_,_,_,_,_,_,_,_,_,_,_,_,_,_,rfl,?_⟩;intro ya aa;obtain⟨ba,ca,ta,da⟩:=Z.blk aa e 3;obtain⟨ea,fa,d,ua,ga⟩:=da.sto ca [Il a.1.r.Classes,Il a.1.r.Good,Il a.1.r.Bad,Il a.1.r.Rest,Il a.1.r.Fewest,u,Il a.1.zone.First,y,A,B,D,F,G];refine⟨ea,fa,?_⟩;refine zqT hp (fun ha hp=>?_) fun ha hp=>?_
 ·obtain rfl:=oi hp;exact hq _ t .sl0 d.grw (Sl.nil _)
 refine⟨_,_,_,_,_,_,_,_,_,_,_,_,_,ga.bk.ra,?_⟩;obtain⟨va,ia,hp⟩:=zqq hp;refine zvP (w:=a.1) d.pre J N O P S T Y ia fun za ja ka la ma=>?_;obtain⟨na,wa⟩:=d.callG la ba;refine⟨_,rfl,?_⟩;obtain rfl:=oi hp;exact hq _ ja ka na.grw ma
theorem zwB{r:Rl}{z:Zn}{class_:Int}{ca105 ca201:C}{m f:M}{Q:V->M->Prop}{rz:List Int × Int}(hS:Pre f m)(ha105:Sl f ca105 r.Price)(ha201:Sl f ca201 z.Years)(hp:ztY r z class_=some rz)(hq:∀m' f' c0,Grw m f m' f'->Sl f' c0 rz.1->Q (.tup [.c c0,.c (Il rz.2)]) m'):Wc prog tbl 39 [.agg 6 [Il r.Classes,Il r.Good,Il r.Bad,Il r.Rest,Il r.Fewest,ca105],.agg 2 [Il z.First,ca201],.c (Il class_)] m Q:=by
 have S0:=hS.st;obtain⟨τ0,_⟩:=zr1;refine w39 ?_;unfold ztY at hp;intro m0 na;obtain⟨oa,pa,Ha,qa⟩:=S0.blk na τ0 1;intro m1 sa;obtain⟨j,l,ta,ua⟩:=pa.blk sa oa 2;have n:=qa.k ta;refine⟨_,_,_,_,_,_,n.bk.ra,_,_,ua.bk.ra,?_⟩;obtain⟨a,va,hp⟩:=zqq hp;refine zwu (r:=r) (z:=z) l.pre ha105 ha201 va fun Ia o wa xa q s t u y ya za Aa A B D F G=>?_;obtain⟨Ba,p⟩:=l.callG ya j;have I:=n.k p;refine⟨_,_,_,_,_,_,_,_,_,_,_,_,_,_,rfl,?_⟩;intro Ja J;obtain⟨g,N,O,P⟩:=Ba.blk J j 3;have S:=I.k O;obtain⟨T,Y,d,Z,aa⟩:=P.sto N [Il a.1.r.Classes,Il a.1.r.Good,Il a.1.r.Bad,Il a.1.r.Rest,Il a.1.r.Fewest,wa,Il a.1.zone.First,xa,q,s,t,u,y];have ba:=S.k Z;refine⟨T,Y,?_⟩;refine zqT hp (fun ca hp=>?_) fun ca hp=>?_
 ·obtain rfl:=oi hp;exact hq _ o .sl0 d.grw (Sl.nil _)
 refine⟨_,_,_,_,_,_,ba.bk.ra,?_⟩;obtain⟨Ca,da,hp⟩:=zqq hp;refine zvo (r:=r) (class_:=class_) d.pre (ha105.sub p.fs) da fun Ka ea=>?_;obtain⟨e,fa⟩:=d.call ea g;have ga:=aa.k fa;refine⟨_,rfl,?_⟩;refine zqV hp (fun ha hp=>?_) fun ha hp=>?_
 ·obtain rfl:=oi hp;exact hq _ o .sl0 e.grw (Sl.nil _)
 refine⟨_,_,_,_,_,_,_,_,_,_,_,_,_,ga.bk.ra,?_⟩;obtain⟨Da,ia,hp⟩:=zqq hp;refine zwr (w:=a.1) (class_:=class_) e.pre za Aa A B D F G ia fun La h ja ka la=>?_;obtain⟨i,Ea⟩:=e.callG ka g;refine⟨_,_,rfl,?_⟩;refine zqV hp (fun ma hp=>?_) fun ma hp=>?_
 ·obtain rfl:=oi hp;exact hq _ h .sl0 i.grw (Sl.nil _)
 obtain rfl:=oi hp;exact hq _ h ja i.grw la
theorem zwC{l:List Int}{ca100:C}{m f:M}{Q:V->M->Prop}{rz:List Int}(hS:Pre f m)(ha100:Sl f ca100 l)(hp:ztZ l=some rz)(hq:∀m' f' c0,Grw m f m' f'->Sl f' c0 rz->Q (.c c0) m'):Wc prog tbl 50 [.c ca100] m Q:=by
 have z:=hS.st;obtain⟨A,_⟩:=zr1;refine w50 ?_;unfold ztZ at hp;intro B d;obtain⟨s,e,t,g⟩:=Ow.lit0 (α:=Int) z A 1 d;obtain⟨h,hp⟩:=zqr hp;obtain⟨a,i,u,j,n,w,o⟩:=g.appL zuO e ha100 h;refine⟨a,i,j,?_⟩;obtain⟨p,q,y,r⟩:=o.freeze n;obtain rfl:=oi hp;exact hq _ p a q.grw r
theorem zwD{r:Rg}{m f:M}{Q:V->M->Prop}{rz:Rg}(hS:Pre f m)(hp:zt0 r=some rz)(hq:∀m',Ext m m'->Q (.agg 2 [Il rz.Lo,Il rz.Hi]) m'):Wc prog tbl 36 [.agg 2 [Il r.Lo,Il r.Hi]] m Q:=by
 have w:=hS.st;obtain⟨y,_⟩:=zr1;refine w36 ?_;unfold zt0 at hp;intro z c;obtain⟨d,e,s,g⟩:=w.blk c y 1;intro A h;obtain⟨t,i,j,l⟩:=e.blk h d 2;have a:=g.k j;refine⟨trivial,_,a.bk.rc rfl,trivial,_,a.bk.rc rfl,?_⟩;obtain⟨n,o,p,u,q⟩:=l.sto i [Il r.Lo,Il r.Hi];refine⟨n,o,?_⟩;refine⟨_,_,q.bk.ra,?_⟩;obtain rfl:=oi hp;exact hq _ p.ext'
theorem zwE{r:Rl}{ca105:C}{m f:M}{Q:V->M->Prop}{rz:Rl}(hS:Pre f m)(ha105:Sl f ca105 r.Price)(hp:zt1 r=some rz)(hq:∀m' f' c5,Grw m f m' f'->Sl f' c5 rz.Price->Q (.agg 6 [Il rz.Classes,Il rz.Good,Il rz.Bad,Il rz.Rest,Il rz.Fewest,c5]) m'):Wc prog tbl 20 [.agg 6 [Il r.Classes,Il r.Good,Il r.Bad,Il r.Rest,Il r.Fewest,ca105]] m Q:=by
 have O:=hS.st;obtain⟨P,_⟩:=zr1;refine w20 ?_;unfold zt1 at hp;intro S h;obtain⟨i,j,I,n⟩:=O.blk h P 1;intro T o;obtain⟨p,d,q,s⟩:=j.blk o i 2;have a:=n.k q;refine⟨trivial,_,a.bk.rc rfl,trivial,_,a.bk.rc rfl,trivial,_,a.bk.rc rfl,trivial,_,a.bk.rc rfl,trivial,_,a.bk.rc rfl,trivial,_,a.bk.rc rfl,?_⟩;obtain⟨J,t,hp⟩:=zqq hp;refine zwC (l:=r.Price) d.pre ha105 t fun Y u e w y=>?_;obtain⟨z,g⟩:=d.callG w p;have c:=a.k g;have A:=s.k g;refine⟨_,rfl,(c.bk.rc rfl),(c.bk.rc rfl),(c.bk.rc rfl),(c.bk.rc rfl),(c.bk.rc rfl),?_⟩;obtain⟨B,D,F,N,G⟩:=A.sto z [Il r.Classes,Il r.Good,Il r.Bad,Il r.Rest,Il r.Fewest,e];refine⟨B,D,?_⟩;refine⟨_,_,_,_,_,_,G.bk.ra,?_⟩;obtain rfl:=oi hp;exact hq _ u e F.grw y
theorem zwF{z:Zn}{ca101:C}{m f:M}{Q:V->M->Prop}{rz:Zn}(hS:Pre f m)(ha101:Sl f ca101 z.Years)(hp:zt3 z=some rz)(hq:∀m' f' c1,Grw m f m' f'->Sl f' c1 rz.Years->Q (.agg 2 [Il rz.First,c1]) m'):Wc prog tbl 21 [.agg 2 [Il z.First,ca101]] m Q:=by
 have S0:=hS.st;obtain⟨τ0,_⟩:=zr1;refine w21 ?_;unfold zt3 at hp;intro m0 ka;obtain⟨la,ma,Ab,na⟩:=S0.blk ka τ0 1;intro m1 oa;obtain⟨pa,qa,sa,ta⟩:=ma.blk oa la 2;have T:=na.k sa;refine⟨trivial,_,T.bk.rc rfl,?_⟩;intro m3 ua;obtain⟨va,wa,Y,xa⟩:=qa.blk ua pa 3;have ya:=T.k Y;have za:=ta.k Y;obtain⟨Aa,Ba,Ca,Z,n⟩:=xa.sto wa [Il z.First,.sl0];have h:=ya.k Z;have o:=za.k Z;refine⟨Aa,Ba,?_⟩;intro R5 yb
 have hgo:∀(t:Nat) (x6:Int) (i:C) (l:Int) (u:List Yr) (P:M) (g:Nat->Nat),St (Fm.of m) f f P->Lb (Fm.of m) f g P 1 m.nxt 2 [Il z.First,ca101]->Lb (Fm.of m) f g P 2 m0.nxt 2 [Il 0,.sl0]->Lb (Fm.of m) f g P 3 m1.nxt 2 [Il l,i]->Ow (Fm.of m) f g P 4 i u->zt2 z t l u x6=some rz->R5 [.c (Il x6)] P:=by
  intro t
  induction t with
  | zero=>intro x6 i l u P g w h o n d hp; cases hp
  | succ t xb=>
   intro x6 i l u P g w h o n d hp;refine yb _ _ ?_;rw[zt2] at hp;refine⟨trivial,_,h.bk.rc rfl,ha101.isSl,?_⟩
   try rw[ha101.slLen]
   refine ifd hp (fun Ea hp=>?_) fun Ea hp=>?_; rotate_left
   ·refine⟨_,_,n.bk.ra,?_⟩;obtain⟨Fa,Ga,Ha,Ia,Ja⟩:=o.sto w [Il l,i];have d:=d.k Ia;refine⟨Fa,Ga,?_⟩;refine⟨_,_,Ja.bk.ra,?_⟩;obtain⟨Ka,La,Bb,Ma⟩:=d.freeze Ha;obtain rfl:=oi hp;exact hq _ Ka i La.grw Ma
   refine⟨trivial,_,h.bk.rc rfl,?_⟩;obtain⟨e,D,hp⟩:=zqq hp;obtain⟨zb,ja,S,D⟩:=zqk D;obtain⟨_,Na⟩:=zr6 ha101 D;refine⟨zb,ja,(by first|exact S|(rw[ha101.slLen];exact S)),_,_,_,_,_,_,(Na _ w.sub).1,?_⟩;intro Hb Oa;obtain⟨aa,Pa,y,Qa⟩:=w.blk Oa g 5;have Ra:=h.k y;have Sa:=o.k y;have Ta:=n.k y;have d:=d.k y;obtain⟨Ua,Va,ba,A,p⟩:=Qa.sto Pa [Il e.Losses.Lo,Il e.Losses.Hi,Il e.Premiums.Lo,Il e.Premiums.Hi,Il e.Parcels,.bool e.Exempt];have Wa:=Ra.k A;have Xa:=Sa.k A;have ca:=Ta.k A;have d:=d.k A;refine⟨Ua,Va,?_⟩;refine⟨trivial,_,ca.bk.rc rfl,trivial,_,_,p.bk.rp (k:=0) (j:=2) rfl (by omega),?_⟩;obtain⟨da,Ya,hp⟩:=zqq hp;refine zwD (r:=e.Losses) ba.pre  Ya fun Ib Za=>?_;obtain⟨ea,q⟩:=ba.call Za aa;have ab:=Wa.k q;have bb:=Xa.k q;have fa:=ca.k q;have B:=p.k q;have d:=d.k q;refine⟨_,_,rfl,(by rw[show cmC _=true from zoV (d.noFn)]; exact(fa.bk.rc rfl)),trivial,_,_,B.bk.rp (k:=2) (j:=2) rfl (by omega),(p.bk.rp (k:=2) (j:=2) rfl (by omega)),?_⟩;obtain⟨ga,cb,hp⟩:=zqq hp;refine zwD (r:=e.Premiums) ea.pre  cb fun Jb db=>?_;obtain⟨eb,s⟩:=ea.call db aa;have fb:=ab.k s;have gb:=bb.k s;have F:=fa.k s;have ha:=B.k s;have d:=d.k s;refine⟨_,_,rfl,(by rw[show cmC _=true from zoV (d.noFn)]; exact(F.bk.rc rfl)),trivial,_,ha.bk.rc rfl,(B.bk.rc rfl),(p.bk.rc rfl),trivial,_,ha.bk.rc rfl,(B.bk.rc rfl),(p.bk.rc rfl),?_⟩;obtain⟨hb,hp⟩:=zqr hp;intro Kb ia;refine⟨(by rw[show cmC _=true from zoV (d.noFn)]; exact(F.bk.ext (Bk.new ia).2).rc rfl),?_⟩;obtain⟨G,ib,jb,kb,mb,I,J⟩:=d.app' zws eb (a:=({ Losses:=da,Premiums:=ga,Parcels:=e.Parcels,Exempt:=e.Exempt }:Yr)) (show Rp.rep (α:=Yr) f _ ({ Losses:=da,Premiums:=ga,Parcels:=e.Parcels,Exempt:=e.Exempt }:Yr) from rfl) hb ia
   have ob:=fb.k I;have pb:=gb.k I;have qb:=F.k I;refine⟨G,ib,kb,?_⟩;refine⟨trivial,?_⟩;obtain⟨rb,sb,tb,N,O⟩:=qb.sto1 mb 1 G (by simp) rfl
   replace O:Lb _ _ _ _ _ _ _ [Il l,G]:=O
   have ub:=ob.k N;have vb:=pb.k N;have J:=J.k N;refine⟨rb,sb,?_⟩;refine gdi hp fun wb hp=>?_;exact xb _ _ _ _ _ jb tb ub vb O J hp
 exact hgo _ _ _ _ _ _ va Ca h o n (Ow.nil _ _ _ _ _) hp
theorem zwG{t:Tr}{ca100 ca101:C}{m f:M}{Q:V->M->Prop}{rz:Tr}(hS:Pre f m)(ha100:Sl f ca100 t.Losses)(ha101:Sl f ca101 t.Premiums)(hp:zt4 t=some rz)(hq:∀m' f' c0 c1,Grw m f m' f'->Sl f' c0 rz.Losses->Sl f' c1 rz.Premiums->Q (.agg 2 [c0,c1]) m'):Wc prog tbl 22 [.agg 2 [ca100,ca101]] m Q:=by
 have S0:=hS.st;obtain⟨τ0,_⟩:=zr1;refine w22 ?_;unfold zt4 at hp;intro m0 n;obtain⟨o,p,Y,q⟩:=S0.blk n τ0 1;intro m1 r;obtain⟨d,e,s,u⟩:=p.blk r o 2;have a:=q.k s;refine⟨trivial,_,a.bk.rc rfl,?_⟩;obtain⟨Z,w,hp⟩:=zqq hp;refine zwC (l:=t.Losses) e.pre ha100 w fun m4 aa g y z=>?_;obtain⟨h,c⟩:=e.callG y d;have A:=a.k c;have B:=u.k c;refine⟨_,rfl,trivial,_,A.bk.rc rfl,(by rw[show cmC _=true from zoV (ha101.noFn)]; exact(a.bk.rc rfl)),?_⟩;obtain⟨ba,D,hp⟩:=zqq hp;refine zwC (l:=t.Premiums) h.pre (ha101.sub c.fs) D fun m8 F i G I=>?_;obtain⟨J,j⟩:=h.callG G d;have N:=B.k j;refine⟨_,rfl,?_⟩;obtain⟨O,P,S,ca,T⟩:=N.sto J [g,i];refine⟨O,P,?_⟩;refine⟨_,_,T.bk.ra,?_⟩;obtain rfl:=oi hp;exact hq _ F g i S.grw (z.sub j.fs) I
theorem zwH{r:Rl}{z:Zn}{ca105 ca201:C}{m f:M}{Q:V->M->Prop}{rz:Bool}(hS:Pre f m)(ha105:Sl f ca105 r.Price)(ha201:Sl f ca201 z.Years)(hp:zt5 r z=some rz)(hq:∀m',Ext m m'->Q (.c (.bool rz)) m'):Wc prog tbl 17 [.agg 6 [Il r.Classes,Il r.Good,Il r.Bad,Il r.Rest,Il r.Fewest,ca105],.agg 2 [Il z.First,ca201]] m Q:=by
 have s:=hS.st;obtain⟨t,_⟩:=zr1;refine w17 ?_;unfold zt5 at hp;intro u d;obtain⟨e,g,p,h⟩:=s.blk d t 1;intro w i;obtain⟨q,a,j,l⟩:=g.blk i e 2;have n:=h.k j;refine⟨trivial,_,n.bk.rc rfl,ha105.isSl,?_⟩
 try rw[ha105.slLen]
 refine ifd hp (fun o hp=>?_) fun o hp=>?_; rotate_left
 ·obtain rfl:=oi hp;exact hq _ a.ext'
 refine⟨trivial,_,l.bk.rc rfl,ha201.isSl,?_⟩
 try rw[ha201.slLen]
 obtain rfl:=oi hp;exact hq _ a.ext'
theorem zwI{r:Rl}{z:Zn}{ca105 ca201:C}{m f:M}{Q:V->M->Prop}{rz:Int}(hS:Pre f m)(ha105:Sl f ca105 r.Price)(ha201:Sl f ca201 z.Years)(hp:zt6 r z=some rz)(hq:∀m',Ext m m'->Q (.c (Il rz)) m'):Wc prog tbl 24 [.agg 6 [Il r.Classes,Il r.Good,Il r.Bad,Il r.Rest,Il r.Fewest,ca105],.agg 2 [Il z.First,ca201]] m Q:=by
 have y:=hS.st;obtain⟨A,_⟩:=zr1;refine w24 ?_;unfold zt6 at hp;intro D d;obtain⟨e,g,t,h⟩:=y.blk d A 1;intro F i;obtain⟨j,a,l,n⟩:=g.blk i e 2;have o:=h.k l;refine⟨_,_,_,_,_,_,o.bk.ra,_,_,n.bk.ra,?_⟩;obtain⟨u,p,hp⟩:=zqq hp;refine zuT (r:=r) (z:=z) a.pre ha105 ha201 p fun B q=>?_;obtain⟨s,w⟩:=a.call q j;refine⟨_,rfl,?_⟩;obtain rfl:=oi hp;exact hq _ s.ext'
theorem zwJ{low:Int}{high:Int}{m f:M}{Q:V->M->Prop}{rz:Rg}(hS:Pre f m)(hp:zt7 low high=some rz)(hq:∀m',Ext m m'->Q (.agg 2 [Il rz.Lo,Il rz.Hi]) m'):Wc prog tbl 48 [.c (Il low),.c (Il high)] m Q:=by
 have p:=hS.st;obtain⟨q,_⟩:=zr1;refine w48 ?_;unfold zt7 at hp;intro r a;obtain⟨l,d,n,e⟩:=p.blk a q 1;obtain⟨g,h,i,o,j⟩:=e.sto d [Il low,Il high];refine⟨g,h,?_⟩;refine⟨_,_,j.bk.ra,?_⟩;obtain rfl:=oi hp;exact hq _ i.ext'
theorem zwK{m f:M}{Q:V->M->Prop}{rz:Rl}(hS:Pre f m)(hp:zt8=some rz)(hq:∀m' f' c5,Grw m f m' f'->Sl f' c5 rz.Price->Q (.agg 6 [Il rz.Classes,Il rz.Good,Il rz.Bad,Il rz.Rest,Il rz.Fewest,c5]) m'):Wc prog tbl 42 [] m Q:=by
 have G:=hS.st;obtain⟨I,_⟩:=zr1;refine w42 ?_;unfold zt8 at hp;intro A d;obtain⟨e,g,B,h⟩:=G.blk d I 1;intro J i;obtain⟨D,j,n,o⟩:=g.blk i e 2;have p:=h.k n;obtain⟨q,r,s,t,u⟩:=p.sto j [(Il (4:Int)),(Il (40:Int)),(Il (120:Int)),(Il (1:Int)),(Il (5:Int)),(C.sl A.nxt 0 4 0 (Option.some 4))];have w:=o.k t;refine⟨q,r,?_⟩;refine⟨_,_,_,_,_,_,u.bk.ra,?_⟩;obtain⟨a,y,F,c⟩:=w.freeze s;have z:Sl a (C.sl A.nxt 0 4 0 (Option.some 4)) ([(10:Int),(20:Int),(40:Int),(80:Int)]:List Int):=Bk.sl (α:=Int) (l:=([(10:Int),(20:Int),(40:Int),(80:Int)]:List Int)) c (show Cat (α:=Int) a [(Il (10:Int)),(Il (20:Int)),(Il (40:Int)),(Il (80:Int))] ([(10:Int),(20:Int),(40:Int),(80:Int)]:List Int) from ⟨[(Il (10:Int))],_,rfl,rfl,⟨[(Il (20:Int))],_,rfl,rfl,⟨[(Il (40:Int))],_,rfl,rfl,⟨[(Il (80:Int))],_,rfl,rfl,rfl⟩⟩⟩⟩) rfl rfl _;obtain rfl:=oi hp;exact hq _ a (C.sl A.nxt 0 4 0 (Option.some 4)) y.grw z
theorem zwL{m f:M}{Q:V->M->Prop}{rz:Zn}(hS:Pre f m)(hp:zt9=some rz)(hq:∀m' f' c1,Grw m f m' f'->Sl f' c1 rz.Years->Q (.agg 2 [Il rz.First,c1]) m'):Wc prog tbl 43 [] m Q:=by
 have S0:=hS.st;obtain⟨τ0,_⟩:=zr1;refine w43 ?_;unfold zt9 at hp;intro m0 I;obtain⟨a,r,Wa,J⟩:=S0.blk I τ0 1;obtain⟨c,N,hp⟩:=zqq hp;refine zwJ (low:=(50:Int)) (high:=(50:Int)) r.pre  N fun m2 O=>?_;obtain⟨s,P⟩:=r.call O a;have S:=J.k P;refine⟨_,_,rfl,?_⟩;obtain⟨d,T,hp⟩:=zqq hp;refine zwJ (low:=(100:Int)) (high:=(102:Int)) s.pre  T fun m6 Y=>?_;obtain⟨t,Z⟩:=s.call Y a;have aa:=S.k Z;refine⟨_,_,rfl,?_⟩;obtain⟨e,ba,hp⟩:=zqq hp;refine zwJ (low:=(130:Int)) (high:=(131:Int)) t.pre  ba fun bb ca=>?_;obtain⟨u,da⟩:=t.call ca a;have ea:=aa.k da;refine⟨_,_,rfl,?_⟩;obtain⟨g,fa,hp⟩:=zqq hp;refine zwJ (low:=(108:Int)) (high:=(109:Int)) u.pre  fa fun cb ga=>?_;obtain⟨w,ha⟩:=u.call ga a;have ia:=ea.k ha;refine⟨_,_,rfl,?_⟩;obtain⟨h,ja,hp⟩:=zqq hp;refine zwJ (low:=(10:Int)) (high:=(10:Int)) w.pre  ja fun db ka=>?_;obtain⟨y,la⟩:=w.call ka a;have ma:=ia.k la;refine⟨_,_,rfl,?_⟩;obtain⟨i,na,hp⟩:=zqq hp;refine zwJ (low:=(100:Int)) (high:=(100:Int)) y.pre  na fun eb oa=>?_;obtain⟨z,pa⟩:=y.call oa a;have qa:=ma.k pa;refine⟨_,_,rfl,?_⟩;obtain⟨j,sa,hp⟩:=zqq hp;refine zwJ (low:=(30:Int)) (high:=(30:Int)) z.pre  sa fun fb ta=>?_;obtain⟨A,ua⟩:=z.call ta a;have va:=qa.k ua;refine⟨_,_,rfl,?_⟩;obtain⟨n,wa,hp⟩:=zqq hp;refine zwJ (low:=(100:Int)) (high:=(100:Int)) A.pre  wa fun gb xa=>?_;obtain⟨B,ya⟩:=A.call xa a;have za:=va.k ya;refine⟨_,_,rfl,?_⟩;obtain⟨o,Aa,hp⟩:=zqq hp;refine zwJ (low:=(39:Int)) (high:=(41:Int)) B.pre  Aa fun hb Ba=>?_
 obtain⟨D,Ca⟩:=B.call Ba a;have Da:=za.k Ca;refine⟨_,_,rfl,?_⟩;obtain⟨p,Ea,hp⟩:=zqq hp;refine zwJ (low:=(100:Int)) (high:=(100:Int)) D.pre  Ea fun F Fa=>?_;obtain⟨Ga,Ha⟩:=D.call Fa a;have Ia:=Da.k Ha;refine⟨_,_,rfl,?_⟩;intro ib Ja;obtain⟨Xa,Ka,La,Ma⟩:=Ga.blk Ja a 2;have Na:=Ia.k La;obtain⟨Oa,Pa,Qa,Ra,Sa⟩:=Na.sto Ka [(Il (1:Int)),(C.sl F.nxt 0 5 0 (Option.some 5))];have Ta:=Ma.k Ra;refine⟨Oa,Pa,?_⟩;refine⟨_,_,Sa.bk.ra,?_⟩;obtain⟨q,Ua,Ya,G⟩:=Ta.freeze Qa;have Va:Sl q (C.sl F.nxt 0 5 0 (Option.some 5)) ([({ Losses:=c,Premiums:=d,Parcels:=(9:Int),Exempt:=false }:Yr),({ Losses:=e,Premiums:=g,Parcels:=(9:Int),Exempt:=false }:Yr),({ Losses:=h,Premiums:=i,Parcels:=(3:Int),Exempt:=false }:Yr),({ Losses:=j,Premiums:=n,Parcels:=(9:Int),Exempt:=false }:Yr),({ Losses:=o,Premiums:=p,Parcels:=(9:Int),Exempt:=false }:Yr)]:List Yr):=Bk.sl (α:=Yr) (l:=([({ Losses:=c,Premiums:=d,Parcels:=(9:Int),Exempt:=false }:Yr),({ Losses:=e,Premiums:=g,Parcels:=(9:Int),Exempt:=false }:Yr),({ Losses:=h,Premiums:=i,Parcels:=(3:Int),Exempt:=false }:Yr),({ Losses:=j,Premiums:=n,Parcels:=(9:Int),Exempt:=false }:Yr),({ Losses:=o,Premiums:=p,Parcels:=(9:Int),Exempt:=false }:Yr)]:List Yr)) G (show Cat (α:=Yr) q [Il c.Lo,Il c.Hi,Il d.Lo,Il d.Hi,(Il (9:Int)),.bool false,Il e.Lo,Il e.Hi,Il g.Lo,Il g.Hi,(Il (9:Int)),.bool false,Il h.Lo,Il h.Hi,Il i.Lo,Il i.Hi,(Il (3:Int)),.bool false,Il j.Lo,Il j.Hi,Il n.Lo,Il n.Hi,(Il (9:Int)),.bool false,Il o.Lo,Il o.Hi,Il p.Lo,Il p.Hi,(Il (9:Int)),.bool false] ([({ Losses:=c,Premiums:=d,Parcels:=(9:Int),Exempt:=false }:Yr),({ Losses:=e,Premiums:=g,Parcels:=(9:Int),Exempt:=false }:Yr),({ Losses:=h,Premiums:=i,Parcels:=(3:Int),Exempt:=false }:Yr),({ Losses:=j,Premiums:=n,Parcels:=(9:Int),Exempt:=false }:Yr),({ Losses:=o,Premiums:=p,Parcels:=(9:Int),Exempt:=false }:Yr)]:List Yr) from ⟨[Il c.Lo,Il c.Hi,Il d.Lo,Il d.Hi,(Il (9:Int)),.bool false],_,rfl,rfl,⟨[Il e.Lo,Il e.Hi,Il g.Lo,Il g.Hi,(Il (9:Int)),.bool false],_,rfl,rfl,⟨[Il h.Lo,Il h.Hi,Il i.Lo,Il i.Hi,(Il (3:Int)),.bool false],_,rfl,rfl,⟨[Il j.Lo,Il j.Hi,Il n.Lo,Il n.Hi,(Il (9:Int)),.bool false],_,rfl,rfl,⟨[Il o.Lo,Il o.Hi,Il p.Lo,Il p.Hi,(Il (9:Int)),.bool false],_,rfl,rfl,rfl⟩⟩⟩⟩⟩) rfl rfl _
 obtain rfl:=oi hp;exact hq _ q (C.sl F.nxt 0 5 0 (Option.some 5)) Ua.grw Va
theorem zwM{m f:M}{Q:V->M->Prop}{rz:Bool}(hS:Pre f m)(hp:zua=some rz)(hq:∀m',Ext m m'->Q (.c (.bool rz)) m'):Wc prog tbl 18 [] m Q:=by
 have S0:=hS.st;obtain⟨g,_⟩:=zr1;refine w18 ?_;unfold zua at hp;obtain⟨Ga,Ha,hp⟩:=zqq hp;refine zwK S0.pre  Ha fun m1 Td Ud Ia Ja=>?_;obtain⟨F,Vd⟩:=S0.callG Ia g;refine⟨_,_,_,_,_,_,rfl,?_⟩;obtain⟨Ka,La,hp⟩:=zqq hp;refine zwL F.pre  La fun m9 Wd Xd Ma Na=>?_;obtain⟨G,Oa⟩:=F.callG Ma g;refine⟨_,_,rfl,?_⟩;obtain⟨Pa,Qa,hp⟩:=zqq hp;refine zwx (r:=Ga) (z:=Ka) (year:=(3:Int)) G.pre (Ja.sub Oa.fs) Na Qa fun hf Yd Zd Ra Sa=>?_;obtain⟨I,ae⟩:=G.callG Ra g;refine⟨_,_,rfl,?_⟩;obtain⟨Ta,Ua,hp⟩:=zqq hp;refine zwK I.pre  Ua fun jf be ce Va Wa=>?_;obtain⟨J,Xa⟩:=I.callG Va g;refine⟨_,_,_,_,_,_,rfl,?_⟩;obtain⟨Ya,Za,hp⟩:=zqq hp;refine zwL J.pre  Za fun kf de ee ab bb=>?_;obtain⟨N,O⟩:=J.callG ab g;refine⟨_,_,rfl,?_⟩;obtain⟨cb,db,hp⟩:=zqq hp;refine zwx (r:=Ta) (z:=Ya) (year:=(4:Int)) N.pre (Wa.sub O.fs) bb db fun lf fe ge eb fb=>?_;obtain⟨P,gb⟩:=N.callG eb g;refine⟨_,_,rfl,?_⟩;obtain⟨hb,ib,hp⟩:=zqq hp;refine zwK P.pre  ib fun mf he ie jb kb=>?_;obtain⟨S,T⟩:=P.callG jb g;refine⟨_,_,_,_,_,_,rfl,?_⟩;obtain⟨mb,ob,hp⟩:=zqq hp;refine zwL S.pre  ob fun nf je ke pb qb=>?_;obtain⟨Y,q⟩:=S.callG pb g;refine⟨_,_,rfl,?_⟩;obtain⟨me,rb,hp⟩:=zqq hp;refine zwy (r:=hb) (z:=mb) (year:=(0:Int)) Y.pre (kb.sub q.fs) qb rb fun pf sb=>?_;obtain⟨Z,oe⟩:=Y.call sb g;refine⟨_,_,rfl,?_⟩;obtain⟨tb,ub,hp⟩:=zqq hp;refine zwK Z.pre  ub fun qf pe qe vb wb=>?_;obtain⟨aa,ba⟩:=Z.callG vb g;refine⟨_,_,_,_,_,_,rfl,?_⟩;obtain⟨xb,yb,hp⟩:=zqq hp;refine zwL aa.pre  yb fun rf re se zb Ab=>?_
 obtain⟨ca,s⟩:=aa.callG zb g;refine⟨_,_,rfl,?_⟩;obtain⟨te,Bb,hp⟩:=zqq hp;refine zwy (r:=tb) (z:=xb) (year:=(3:Int)) ca.pre (wb.sub s.fs) Ab Bb fun sf Cb=>?_;obtain⟨da,ue⟩:=ca.call Cb g;refine⟨_,_,rfl,?_⟩;obtain⟨Db,Eb,hp⟩:=zqq hp;refine zwK da.pre  Eb fun tf ve we Fb Gb=>?_;obtain⟨ea,fa⟩:=da.callG Fb g;refine⟨_,_,_,_,_,_,rfl,?_⟩;obtain⟨Hb,Ib,hp⟩:=zqq hp;refine zwL ea.pre  Ib fun uf xe ye Jb Kb=>?_;obtain⟨ga,t⟩:=ea.callG Jb g;refine⟨_,_,rfl,?_⟩;obtain⟨ha,Mb,hp⟩:=zqq hp;refine zwz (r:=Db) (z:=Hb) ga.pre (Gb.sub t.fs) Kb Mb fun vf Nb=>?_;obtain⟨Ob,ze⟩:=ga.call Nb g;refine⟨_,_,_,rfl,?_⟩;intro wf Pb;obtain⟨e,Qb,Ae,Rb⟩:=Ob.blk Pb g 1;obtain⟨Sb,Tb,ia,Be,Ub⟩:=Rb.sto Qb [Il ha.1.Lo,Il ha.1.Hi];refine⟨Sb,Tb,?_⟩;obtain⟨Vb,Wb,hp⟩:=zqq hp;refine zwK ia.pre  Wb fun xf Ce De Xb Yb=>?_;obtain⟨ja,u⟩:=ia.callG Xb e;have Zb:=Ub.k u;refine⟨_,_,_,_,_,_,rfl,?_⟩;obtain⟨ac,bc,hp⟩:=zqq hp;refine zwL ja.pre  bc fun yf Ee Fe cc dc=>?_;obtain⟨ka,j⟩:=ja.callG cc e;have ec:=Zb.k j;refine⟨_,_,rfl,?_⟩;obtain⟨fc,gc,hp⟩:=zqq hp;refine zwA (r:=Vb) (z:=ac) ka.pre (Yb.sub j.fs) dc gc fun zf Ge He hc ic=>?_;obtain⟨la,w⟩:=ka.callG hc e;have jc:=ec.k w;refine⟨_,_,rfl,?_⟩;obtain⟨kc,nc,hp⟩:=zqq hp;refine zwK la.pre  nc fun Ye Ie Je oc pc=>?_;obtain⟨ma,n⟩:=la.callG oc e;have qc:=jc.k n;refine⟨_,_,_,_,_,_,rfl,?_⟩;obtain⟨sc,tc,hp⟩:=zqq hp;refine zwL ma.pre  tc fun Ze Ke Me uc vc=>?_;obtain⟨na,h⟩:=ma.callG uc e;have wc:=qc.k h;refine⟨_,_,rfl,?_⟩;obtain⟨xc,yc,hp⟩:=zqq hp
 refine zwB (r:=kc) (z:=sc) (class_:=(3:Int)) na.pre (pc.sub h.fs) vc yc fun Od Ne Oe zc Ac=>?_;obtain⟨oa,o⟩:=na.callG zc e;have Bc:=wc.k o;refine⟨_,_,rfl,?_⟩;refine ifd hp (fun Cc hp=>?_) fun Cc hp=>?_; rotate_left
 ·obtain rfl:=oi hp;exact hq _ oa.ext'
 intro af Dc;obtain⟨pa,Ec,Fc,Gc⟩:=oa.blk Dc e 2;have Hc:=Bc.k Fc;obtain⟨qa,sa,i,Ca⟩:=Gc.freeze Ec;have Ic:=Hc.k i;have Jc:Sl qa (C.sl Od.nxt 0 2 0 (Option.some 2)) ([(0:Int),(2:Int)]:List Int):=Bk.sl (α:=Int) (l:=([(0:Int),(2:Int)]:List Int)) Ca (show Cat (α:=Int) qa [Il 0,(Il (2:Int))] ([(0:Int),(2:Int)]:List Int) from ⟨[Il 0],_,rfl,rfl,⟨[(Il (2:Int))],_,rfl,rfl,rfl⟩⟩) rfl rfl _;obtain⟨Pe,Kc,hp⟩:=zqq hp;refine zu3 (a:=Pa.1) (b:=([(0:Int),(2:Int)]:List Int)) sa.pre (Sa.sub (Sub.trans (Sub.trans (Sub.trans (Sub.trans (Sub.trans (Sub.trans (Sub.trans (Sub.trans (Sub.trans (Sub.trans (Sub.trans (Sub.trans (Sub.trans (Sub.trans (Sub.trans Xa.fs O.fs) gb.fs) T.fs) q.fs) ba.fs) s.fs) fa.fs) t.fs) u.fs) j.fs) w.fs) n.fs) h.fs) o.fs) i.fs)) Jc Kc fun Pd Nc=>?_;obtain⟨y,Oc⟩:=sa.call Nc pa;have Pc:=Ic.k Oc;refine⟨_,rfl,?_⟩;refine zqU hp (fun Qc hp=>?_) fun Qc hp=>?_; rotate_left
 ·obtain rfl:=oi hp;exact hq _ y.ext'
 refine ifd hp (fun Rc hp=>?_) fun Rc hp=>?_; rotate_left
 ·obtain rfl:=oi hp;exact hq _ y.ext'
 intro bf Tc;obtain⟨A,Uc,Vc,Xc⟩:=y.blk Tc pa 3;have Yc:=Pc.k Vc;obtain⟨ta,ua,p,Da⟩:=Xc.freeze Uc;have Zc:=Yc.k p;have ad:Sl ta (C.sl Pd.nxt 0 3 0 (Option.some 3)) ([(0:Int),(1:Int),(2:Int)]:List Int):=Bk.sl (α:=Int) (l:=([(0:Int),(1:Int),(2:Int)]:List Int)) Da (show Cat (α:=Int) ta [Il 0,(Il (1:Int)),(Il (2:Int))] ([(0:Int),(1:Int),(2:Int)]:List Int) from ⟨[Il 0],_,rfl,rfl,⟨[(Il (1:Int))],_,rfl,rfl,⟨[(Il (2:Int))],_,rfl,rfl,rfl⟩⟩⟩) rfl rfl _;obtain⟨Qe,bd,hp⟩:=zqq hp;refine zu3 (a:=cb.1) (b:=([(0:Int),(1:Int),(2:Int)]:List Int)) ua.pre (fb.sub (Sub.trans (Sub.trans (Sub.trans (Sub.trans (Sub.trans (Sub.trans (Sub.trans (Sub.trans (Sub.trans (Sub.trans (Sub.trans (Sub.trans (Sub.trans T.fs q.fs) ba.fs) s.fs) fa.fs) t.fs) u.fs) j.fs) w.fs) n.fs) h.fs) o.fs) i.fs) p.fs)) ad bd fun cf cd=>?_;obtain⟨d,dd⟩:=ua.call cd A;have va:=Zc.k dd;refine⟨_,rfl,?_⟩;refine zqU hp (fun ed hp=>?_) fun ed hp=>?_; rotate_left
 ·obtain rfl:=oi hp;exact hq _ d.ext'
 refine ifd hp (fun fd hp=>?_) fun fd hp=>?_; rotate_left
 ·obtain rfl:=oi hp;exact hq _ d.ext'
 refine ifd hp (fun hd hp=>?_) fun hd hp=>?_; rotate_left
 ·obtain rfl:=oi hp;exact hq _ d.ext'
 refine ifd hp (fun id hp=>?_) fun id hp=>?_; rotate_left
 ·obtain rfl:=oi hp;exact hq _ d.ext'
 refine ifd hp (fun jd hp=>?_) fun jd hp=>?_; rotate_left
 ·obtain rfl:=oi hp;exact hq _ d.ext'
 refine ifd hp (fun kd hp=>?_) fun kd hp=>?_; rotate_left
 ·obtain rfl:=oi hp;exact hq _ d.ext'
 refine⟨_,_,va.bk.ra,?_⟩;obtain⟨Re,ld,hp⟩:=zqq hp;refine zwJ (low:=(10:Int)) (high:=(40:Int)) d.pre  ld fun Qd md=>?_;obtain⟨B,nd⟩:=d.call md A;have od:=va.k nd;refine⟨_,_,rfl,(od.bk.ra),?_⟩;refine gdi hp fun pd hp=>?_;refine gdi hp fun qd hp=>?_;refine gdi hp fun sd hp=>?_;refine gdi hp fun td hp=>?_;refine zqU hp (fun ud hp=>?_) fun ud hp=>?_; rotate_left
 ·obtain rfl:=oi hp;exact hq _ B.ext'
 refine ifd hp (fun vd hp=>?_) fun vd hp=>?_; rotate_left
 ·obtain rfl:=oi hp;exact hq _ B.ext'
 intro df wd;obtain⟨wa,xd,Se,yd⟩:=B.blk wd A 4;obtain⟨xa,ya,za,Ea⟩:=yd.freeze xd;have zd:Sl xa (C.sl Qd.nxt 0 2 0 (Option.some 2)) ([(1:Int),(4:Int)]:List Int):=Bk.sl (α:=Int) (l:=([(1:Int),(4:Int)]:List Int)) Ea (show Cat (α:=Int) xa [(Il (1:Int)),(Il (4:Int))] ([(1:Int),(4:Int)]:List Int) from ⟨[(Il (1:Int))],_,rfl,rfl,⟨[(Il (4:Int))],_,rfl,rfl,rfl⟩⟩) rfl rfl _;obtain⟨Te,Ad,hp⟩:=zqq hp;refine zu3 (a:=fc.1) (b:=([(1:Int),(4:Int)]:List Int)) ya.pre (ic.sub (Sub.trans (Sub.trans (Sub.trans (Sub.trans (Sub.trans n.fs h.fs) o.fs) i.fs) p.fs) za.fs)) zd Ad fun Rd Bd=>?_;obtain⟨D,Ue⟩:=ya.call Bd wa;refine⟨_,rfl,?_⟩;refine zqU hp (fun Cd hp=>?_) fun Cd hp=>?_; rotate_left
 ·obtain rfl:=oi hp;exact hq _ D.ext'
 refine ifd hp (fun Dd hp=>?_) fun Dd hp=>?_; rotate_left
 ·obtain rfl:=oi hp;exact hq _ D.ext'
 intro ef Ed;obtain⟨Fd,Gd,Ve,Hd⟩:=D.blk Ed wa 5;obtain⟨Aa,Ba,Id,Fa⟩:=Hd.freeze Gd;have Jd:Sl Aa (C.sl Rd.nxt 0 1 0 (Option.some 1)) ([(0:Int)]:List Int):=Bk.sl (α:=Int) (l:=([(0:Int)]:List Int)) Fa (show Cat (α:=Int) Aa [Il 0] ([(0:Int)]:List Int) from ⟨[Il 0],_,rfl,rfl,rfl⟩) rfl rfl _;obtain⟨We,Ld,hp⟩:=zqq hp;refine zu3 (a:=xc.1) (b:=([(0:Int)]:List Int)) Ba.pre (Ac.sub (Sub.trans (Sub.trans (Sub.trans i.fs p.fs) za.fs) Id.fs)) Jd Ld fun gf Md=>?_;obtain⟨Nd,Xe⟩:=Ba.call Md Fd;refine⟨_,rfl,?_⟩;obtain rfl:=oi hp;exact hq _ Nd.ext'
theorem zwN{r:Rl}{z:Zn}{ca105 ca201:C}{m f:M}{Q:V->M->Prop}{rz:Bool}(hS:Pre f m)(ha105:Sl f ca105 r.Price)(ha201:Sl f ca201 z.Years)(hp:zub r z=some rz)(hq:∀m',Ext m m'->Q (.c (.bool rz)) m'):Wc prog tbl 44 [.agg 6 [Il r.Classes,Il r.Good,Il r.Bad,Il r.Rest,Il r.Fewest,ca105],.agg 2 [Il z.First,ca201]] m Q:=by
 have N:=hS.st;obtain⟨O,_⟩:=zr1;refine w44 ?_;unfold zub at hp;intro T j;obtain⟨l,n,F,o⟩:=N.blk j O 1;intro Y p;obtain⟨d,e,q,g⟩:=n.blk p l 2;have h:=o.k q;refine⟨_,_,_,_,_,_,h.bk.ra,_,_,g.bk.ra,?_⟩;obtain⟨G,s,hp⟩:=zqq hp;refine zwH (r:=r) (z:=z) e.pre ha105 ha201 s fun P t=>?_;obtain⟨a,i⟩:=e.call t d;have u:=h.k i;have w:=g.k i;refine⟨_,rfl,?_⟩;refine zqU hp (fun y hp=>?_) fun y hp=>?_; rotate_left
 ·obtain rfl:=oi hp;exact hq _ a.ext'
 refine⟨_,_,_,_,_,_,u.bk.ra,_,_,w.bk.ra,?_⟩;obtain⟨I,A,hp⟩:=zqq hp;refine zwI (r:=r) (z:=z) a.pre ha105 ha201 A fun S B=>?_;obtain⟨D,J⟩:=a.call B d;refine⟨_,rfl,?_⟩;obtain rfl:=oi hp;exact hq _ D.ext'
theorem zwO{z:Zn}{words:List W8}{ca101 ca200:C}{m f:M}{Q:V->M->Prop}{rz:Tr}(hS:Pre f m)(ha101:Sl f ca101 z.Years)(ha200:Sl f ca200 words)(hp:zud z words=some rz)(hq:∀m' f' c0 c1,Grw m f m' f'->Sl f' c0 rz.Losses->Sl f' c1 rz.Premiums->Q (.agg 2 [c0,c1]) m'):Wc prog tbl 45 [.agg 2 [Il z.First,ca101],.c ca200] m Q:=by
 have S0:=hS.st;obtain⟨τ0,_⟩:=zr1;refine w45 ?_;unfold zud at hp;intro m0 Oa;obtain⟨Pa,Qa,Md,Ra⟩:=S0.blk Oa τ0 1;intro m1 Sa;obtain⟨Ta,Ua,Va,Wa⟩:=Qa.blk Sa Pa 2;have Xa:=Ra.k Va;intro m2 Ya;obtain⟨Za,ab,za,q⟩:=Ua.blk Ya Ta 3;have j:=Xa.k za;have r:=Wa.k za;intro R3 Id
 have hgo:∀(J:Nat) (x4:Int) (s:C) (l:C) (N:List Int) (O:List Int) (m5:M) (i:Nat->Nat),St (Fm.of m) f f m5->Lb (Fm.of m) f i m5 1 m.nxt 2 [Il z.First,ca101]->Lb (Fm.of m) f i m5 2 m0.nxt 2 [.sl0,.sl0]->Lb (Fm.of m) f i m5 3 m1.nxt 2 [s,l]->Ow (Fm.of m) f i m5 4 s N->Ow (Fm.of m) f i m5 5 l O->zuc z words J N O x4=some rz->R3 [.c (Il x4)] m5:=by
  intro J
  induction J with
  | zero=>intro x4 s l N O m5 i n j r q h d hp; cases hp
  | succ J La=>
   intro x4 s l N O m5 i n j r q h d hp;refine Id _ _ ?_;rw[zuc] at hp;refine⟨trivial,_,j.bk.rc rfl,ha101.isSl,?_⟩
   try rw[ha101.slLen]
   refine ifd hp (fun cb hp=>?_) fun cb hp=>?_; rotate_left
   ·refine⟨_,_,q.bk.ra,?_⟩;obtain⟨db,eb,fb,Aa,gb⟩:=r.sto n [s,l];have h:=h.k Aa;have d:=d.k Aa;refine⟨db,eb,?_⟩;refine⟨_,_,gb.bk.ra,?_⟩;obtain⟨Nd,hb,ib,jb⟩:=h.freeze fb;have d:=d.k ib;obtain⟨kb,mb,ob,pb⟩:=d.freeze hb;obtain rfl:=oi hp;exact hq _ kb s l mb.grw (jb.sub ob.fs) pb
   refine⟨ha200.isSl,?_⟩
   try rw[ha200.slLen]
   refine ifd hp (fun qb hp=>?_) fun qb hp=>?_; rotate_left
   ·refine⟨trivial,_,j.bk.rc rfl,?_⟩;obtain⟨e,ea,hp⟩:=zqq hp;obtain⟨Jd,Ma,ta,ea⟩:=zqk ea;obtain⟨_,rb⟩:=zr6 ha101 ea;refine⟨Jd,Ma,(by first|exact ta|(rw[ha101.slLen];exact ta)),_,_,_,_,_,_,(rb _ n.sub).1,?_⟩;intro Zd sb;obtain⟨Od,tb,t,ub⟩:=n.blk sb i 7;have vb:=j.k t;have wb:=r.k t;have xb:=q.k t;have h:=h.k t;have d:=d.k t;obtain⟨yb,zb,Ab,u,P⟩:=ub.sto tb [Il e.Losses.Lo,Il e.Losses.Hi,Il e.Premiums.Lo,Il e.Premiums.Hi,Il e.Parcels,.bool e.Exempt];have Bb:=vb.k u;have Cb:=wb.k u;have fa:=xb.k u;have h:=h.k u;have d:=d.k u;refine⟨yb,zb,?_⟩;refine⟨trivial,_,fa.bk.rc rfl,trivial,trivial,_,P.bk.rc rfl,trivial,trivial,_,P.bk.rc rfl,trivial,trivial,_,P.bk.rc rfl,?_⟩;refine gdi hp fun Db hp=>?_;refine gdi hp fun Eb hp=>?_;refine gdi hp fun Fb hp=>?_;refine gdi hp fun Gb hp=>?_;refine gdi hp fun Hb hp=>?_;refine gdi hp fun Ib hp=>?_;obtain⟨Jb,hp⟩:=zqr hp;intro ae Ba;refine⟨(by rw[show cmC _=true from zoV (h.noFn)]; exact(fa.bk.ext (Bk.new Ba).2).rc rfl),?_⟩;obtain⟨S,Kb,Pd,Mb,Nb,w,o⟩:=h.app' zuO Ab (a:=(e.Losses.Lo+((0:Int) % ((e.Losses.Hi - e.Losses.Lo)+(1:Int))))) (show Rp.rep (α:=Int) f _ (e.Losses.Lo+((0:Int) % ((e.Losses.Hi - e.Losses.Lo)+(1:Int)))) from rfl) Jb Ba;have Ob:=Bb.k w;have Pb:=Cb.k w;have Qb:=fa.k w;have Rb:=P.k w;have d:=d.k w;refine⟨S,Kb,Mb,?_⟩;refine⟨trivial,?_⟩;obtain⟨Sb,Tb,Ub,y,A⟩:=Qb.sto1 Nb 0 S (by simp) rfl
    replace A:Lb _ _ _ _ _ _ _ [S,l]:=A
    have Vb:=Ob.k y;have Wb:=Pb.k y;have ga:=Rb.k y;have d:=d.k y;have o:=o.k y;refine⟨Sb,Tb,?_⟩;refine⟨trivial,_,A.bk.rc rfl,trivial,trivial,_,ga.bk.rc rfl,trivial,trivial,_,ga.bk.rc rfl,trivial,trivial,_,ga.bk.rc rfl,?_⟩;refine gdi hp fun Xb hp=>?_;refine gdi hp fun Yb hp=>?_;refine gdi hp fun Zb hp=>?_;refine gdi hp fun ac hp=>?_;refine gdi hp fun bc hp=>?_;refine gdi hp fun cc hp=>?_;obtain⟨dc,hp⟩:=zqr hp;intro be Ca;refine⟨(by rw[show cmC _=true from zoV (d.noFn)]; exact(A.bk.ext (Bk.new Ca).2).rc rfl),?_⟩;obtain⟨ha,ec,fc,gc,hc,T,ia⟩:=d.app' zuO Ub (a:=(e.Premiums.Lo+((0:Int) % ((e.Premiums.Hi - e.Premiums.Lo)+(1:Int))))) (show Rp.rep (α:=Int) f _ (e.Premiums.Lo+((0:Int) % ((e.Premiums.Hi - e.Premiums.Lo)+(1:Int)))) from rfl) dc Ca;have ic:=Vb.k T;have jc:=Wb.k T;have kc:=A.k T;have o:=o.k T;refine⟨ha,ec,gc,?_⟩;refine⟨trivial,?_⟩;obtain⟨nc,oc,pc,Y,ja⟩:=kc.sto1 hc 1 ha (by simp) rfl
    replace ja:Lb _ _ _ _ _ _ _ [S,ha]:=ja
    have qc:=ic.k Y;have sc:=jc.k Y;have o:=o.k Y;have ia:=ia.k Y;refine⟨nc,oc,?_⟩;refine gdi hp fun tc hp=>?_;exact La _ _ _ _ _ _ fc pc qc sc ja o ia hp
   refine gdi hp fun uc hp=>?_;refine gdi hp fun vc hp=>?_;obtain⟨wc,hp⟩:=zqr hp;refine⟨wc,ha200.isSl,?_⟩;refine gdi hp fun xc hp=>?_;obtain⟨Da,hp⟩:=zqr hp;refine⟨(by first|exact Da|(rw[ha200.slLen];exact Da)),?_⟩;obtain⟨Ea,hp⟩:=zqr hp;refine⟨(by first|exact Ea|(rw[ha200.slLen];exact Ea)),?_⟩;obtain⟨Fa,ka,hp⟩:=zqq hp;obtain⟨n7,ua,va,ka⟩:=zqk ka;refine⟨n7,(by first|exact ua|(rw[ha200.slLen];exact ua)),(by first|exact va|(rw[ha200.slLen];exact va)),_,(zsa ha200 ka n.sub),?_⟩;refine gdi hp fun yc hp=>?_;refine gdi hp fun zc hp=>?_;refine gdi hp fun Ac hp=>?_;obtain⟨Bc,hp⟩:=zqr hp;refine⟨Bc,ha200.isSl,?_⟩;refine gdi hp fun Cc hp=>?_;obtain⟨Ga,hp⟩:=zqr hp;refine⟨(by first|exact Ga|(rw[ha200.slLen];exact Ga)),?_⟩;obtain⟨Ha,hp⟩:=zqr hp;refine⟨(by first|exact Ha|(rw[ha200.slLen];exact Ha)),?_⟩;obtain⟨Ia,la,hp⟩:=zqq hp;obtain⟨n9,wa,xa,la⟩:=zqk la;refine⟨n9,(by first|exact wa|(rw[ha200.slLen];exact wa)),(by first|exact xa|(rw[ha200.slLen];exact xa)),_,(zsa ha200 la n.sub),trivial,_,j.bk.rc rfl,?_⟩;obtain⟨g,ma,hp⟩:=zqq hp;obtain⟨Ld,Na,ya,ma⟩:=zqk ma;obtain⟨_,Dc⟩:=zr6 ha101 ma;refine⟨Ld,Na,(by first|exact ya|(rw[ha101.slLen];exact ya)),_,_,_,_,_,_,(Dc _ n.sub).1,?_⟩;intro ce Ec;obtain⟨Qd,Fc,B,Gc⟩:=n.blk Ec i 6;have Hc:=j.k B;have Ic:=r.k B;have Jc:=q.k B;have h:=h.k B;have d:=d.k B;obtain⟨Kc,Nc,Oc,D,Z⟩:=Gc.sto Fc [Il g.Losses.Lo,Il g.Losses.Hi,Il g.Premiums.Lo,Il g.Premiums.Hi,Il g.Parcels,.bool g.Exempt];have Pc:=Hc.k D;have Qc:=Ic.k D;have na:=Jc.k D;have h:=h.k D;have d:=d.k D
   refine⟨Kc,Nc,?_⟩;refine⟨trivial,_,na.bk.rc rfl,trivial,trivial,_,Z.bk.rc rfl,trivial,trivial,_,Z.bk.rc rfl,trivial,trivial,_,Z.bk.rc rfl,?_⟩;refine gdi hp fun Rc hp=>?_;refine gdi hp fun Tc hp=>?_;refine gdi hp fun Uc hp=>?_;refine gdi hp fun Vc hp=>?_;refine gdi hp fun Xc hp=>?_;refine gdi hp fun Yc hp=>?_;obtain⟨Zc,hp⟩:=zqr hp;intro de Ja;refine⟨(by rw[show cmC _=true from zoV (h.noFn)]; exact(na.bk.ext (Bk.new Ja).2).rc rfl),?_⟩;obtain⟨aa,ad,Rd,bd,cd,F,p⟩:=h.app' zuO Oc (a:=(g.Losses.Lo+((zmb .i64 Fa.v) % ((g.Losses.Hi - g.Losses.Lo)+(1:Int))))) (show Rp.rep (α:=Int) f _ (g.Losses.Lo+((zmb .i64 Fa.v) % ((g.Losses.Hi - g.Losses.Lo)+(1:Int)))) from rfl) Zc Ja;have dd:=Pc.k F;have ed:=Qc.k F;have fd:=na.k F;have hd:=Z.k F;have d:=d.k F;refine⟨aa,ad,bd,?_⟩;refine⟨trivial,?_⟩;obtain⟨id,jd,kd,G,I⟩:=fd.sto1 cd 0 aa (by simp) rfl
   replace I:Lb _ _ _ _ _ _ _ [aa,l]:=I
   have ld:=dd.k G;have md:=ed.k G;have oa:=hd.k G;have d:=d.k G;have p:=p.k G;refine⟨id,jd,?_⟩;refine⟨trivial,_,I.bk.rc rfl,trivial,trivial,_,oa.bk.rc rfl,trivial,trivial,_,oa.bk.rc rfl,trivial,trivial,_,oa.bk.rc rfl,?_⟩;refine gdi hp fun nd hp=>?_;refine gdi hp fun od hp=>?_;refine gdi hp fun pd hp=>?_;refine gdi hp fun qd hp=>?_;refine gdi hp fun sd hp=>?_;refine gdi hp fun td hp=>?_;obtain⟨ud,hp⟩:=zqr hp;intro ee Ka;refine⟨(by rw[show cmC _=true from zoV (d.noFn)]; exact(I.bk.ext (Bk.new Ka).2).rc rfl),?_⟩;obtain⟨pa,vd,wd,xd,yd,ba,qa⟩:=d.app' zuO kd (a:=(g.Premiums.Lo+((zmb .i64 Ia.v) % ((g.Premiums.Hi - g.Premiums.Lo)+(1:Int))))) (show Rp.rep (α:=Int) f _ (g.Premiums.Lo+((zmb .i64 Ia.v) % ((g.Premiums.Hi - g.Premiums.Lo)+(1:Int)))) from rfl) ud Ka;have zd:=ld.k ba;have Ad:=md.k ba;have Bd:=I.k ba;have p:=p.k ba;refine⟨pa,vd,xd,?_⟩;refine⟨trivial,?_⟩;obtain⟨Cd,Dd,Ed,ca,sa⟩:=Bd.sto1 yd 1 pa (by simp) rfl
   replace sa:Lb _ _ _ _ _ _ _ [aa,pa]:=sa
   have Fd:=zd.k ca;have Gd:=Ad.k ca;have p:=p.k ca;have qa:=qa.k ca;refine⟨Cd,Dd,?_⟩;refine gdi hp fun Hd hp=>?_;exact La _ _ _ _ _ _ wd Ed Fd Gd sa p qa hp
 exact hgo _ _ _ _ _ _ _ Za ab j r q (Ow.nil _ _ _ _ _) (Ow.nil _ _ _ _ _) hp
theorem zwP{r:Rl}{z:Zn}{ca105 ca201:C}{m f:M}{Q:V->M->Prop}{rz:Bool}(hS:Pre f m)(ha105:Sl f ca105 r.Price)(ha201:Sl f ca201 z.Years)(hp:zug r z=some rz)(hq:∀m',Ext m m'->Q (.c (.bool rz)) m'):Wc prog tbl 10 [.agg 6 [Il r.Classes,Il r.Good,Il r.Bad,Il r.Rest,Il r.Fewest,ca105],.agg 2 [Il z.First,ca201]] m Q:=by
 have S0:=hS.st;obtain⟨τ0,_⟩:=zr1;refine w10 ?_;unfold zug at hp;intro m0 Sa;obtain⟨Ta,Ua,nd,Va⟩:=S0.blk Sa τ0 1;intro m1 Wa;obtain⟨o,ia,Xa,ja⟩:=Ua.blk Wa Ta 2;have ka:=Va.k Xa;refine⟨_,_,_,_,_,_,ka.bk.ra,_,_,ja.bk.ra,?_⟩;obtain⟨od,Ya,hp⟩:=zqq hp;refine zwN (r:=r) (z:=z) ia.pre ha105 ha201 Ya fun me Za=>?_;obtain⟨N,la⟩:=ia.call Za o;have ma:=ka.k la;have na:=ja.k la;refine⟨_,rfl,?_⟩;refine zqV hp (fun ab hp=>?_) fun ab hp=>?_
 ·obtain⟨pd,bb,hp⟩:=zqq hp;refine zwM N.pre  bb fun oe cb=>?_;obtain⟨db,qd⟩:=N.call cb o;refine⟨_,rfl,?_⟩;obtain rfl:=oi hp;exact hq _ db.ext'
 refine⟨_,_,_,_,_,_,ma.bk.ra,?_⟩;obtain⟨eb,fb,hp⟩:=zqq hp;refine zwE (r:=r) N.pre ha105 fb fun pe sd td gb hb=>?_;obtain⟨oa,g⟩:=N.callG gb o;have ib:=ma.k g;have pa:=na.k g;refine⟨_,_,_,_,_,_,rfl,_,_,pa.bk.ra,(by rw[show zaL cmC _=true from zoW (zqu rfl (zqu ha201.noFn zqv))]; exact(na.bk.ra)),?_⟩;obtain⟨jb,kb,hp⟩:=zqq hp;refine zwF (z:=z) oa.pre (ha201.sub g.fs) kb fun qe ud vd mb ob=>?_;obtain⟨qa,h⟩:=oa.callG mb o;have pb:=ib.k h;have qb:=pa.k h;refine⟨_,_,rfl,?_⟩;obtain⟨wd,rb,hp⟩:=zqq hp;refine zwA (r:=eb) (z:=jb) qa.pre (hb.sub h.fs) ob rb fun re O xd sb P=>?_;obtain⟨S,i⟩:=qa.callG sb o;have j:=pb.k i;have a:=qb.k i;refine⟨_,_,rfl,?_⟩;refine zqT hp (fun tb hp=>?_) fun tb hp=>?_
 ·obtain rfl:=oi hp;exact hq _ S.ext'
 refine⟨trivial,_,a.bk.rc rfl,ha201.isSl,P.isSl,?_⟩
 try rw[P.slLen]
 refine ifd hp (fun ub hp=>?_) fun ub hp=>?_; rotate_left
 ·intro id vb
  have hgo:∀(T:Nat) (ha:Bool) (I:Int) (J:M) (q:M) (e:Nat->Nat),St (Fm.of m) f q J->Sub O q->Lb (Fm.of m) q e J 1 m.nxt 6 [Il r.Classes,Il r.Good,Il r.Bad,Il r.Rest,Il r.Fewest,ca105]->Lb (Fm.of m) q e J 2 m0.nxt 2 [Il z.First,ca201]->zuf r z T I=some rz->id [.c (.bool ha),.c (Il I)] J:=by
   intro T
   induction T with
   | zero=>intro ha I J q e A l j a hp; cases hp
   | succ T Pa=>
    intro ha I J q e A l j a hp;refine vb _ _ _ ?_;rw[zuf] at hp;refine⟨trivial,_,a.bk.rc rfl,ha201.isSl,?_⟩
    try rw[ha201.slLen]
    refine ifd hp (fun sa hp=>?_) fun sa hp=>?_; rotate_left
    ·obtain⟨yd,wb,hp⟩:=zqq hp;refine zwM A.pre  wb fun de xb=>?_;obtain⟨yb,zd⟩:=A.call xb e;refine⟨_,rfl,?_⟩;obtain rfl:=oi hp;exact hq _ yb.ext'
    try rw[ha201.slLen]
    refine zqW sa ?_;refine⟨_,_,_,_,_,_,j.bk.ra,?_⟩;obtain⟨zb,Ab,hp⟩:=zqq hp;refine zwE (r:=r) A.pre (ha105.sub (Sub.trans (Sub.trans (Sub.trans g.fs h.fs) i.fs) l)) Ab fun ee Ad Bd Bb Cb=>?_;obtain⟨ta,s⟩:=A.callG Bb e;have Db:=j.k s;have ua:=a.k s;refine⟨_,_,_,_,_,_,rfl,_,_,ua.bk.ra,(by rw[show zaL cmC _=true from zoW (zqu rfl (zqu ha201.noFn zqv))]; exact(a.bk.ra)),?_⟩;obtain⟨Eb,Fb,hp⟩:=zqq hp;refine zwF (z:=z) ta.pre (ha201.sub (Sub.trans (Sub.trans (Sub.trans (Sub.trans g.fs h.fs) i.fs) l) s.fs)) Fb fun fe Cd Dd Gb Hb=>?_;obtain⟨va,t⟩:=ta.callG Gb e;have Ib:=Db.k t;have Jb:=ua.k t;refine⟨_,_,rfl,?_⟩;obtain⟨Ed,Kb,hp⟩:=zqq hp;refine zwx (r:=zb) (z:=Eb) (year:=I) va.pre (Cb.sub t.fs) Hb Kb fun ge Fd Gd Mb wa=>?_;obtain⟨xa,B⟩:=va.callG Mb e;have ya:=Ib.k B;have za:=Jb.k B;refine⟨_,_,rfl,_,_,_,_,_,_,ya.bk.ra,?_⟩;obtain⟨Nb,Ob,hp⟩:=zqq hp;refine zwE (r:=r) xa.pre (ha105.sub (Sub.trans (Sub.trans (Sub.trans (Sub.trans (Sub.trans (Sub.trans g.fs h.fs) i.fs) l) s.fs) t.fs) B.fs)) Ob fun he Hd Id Pb Qb=>?_;obtain⟨Aa,Y⟩:=xa.callG Pb e;have Rb:=ya.k Y;have Ba:=za.k Y;refine⟨_,_,_,_,_,_,rfl,_,_,Ba.bk.ra,(by rw[show zaL cmC _=true from zoW (zqu rfl (zqu ha201.noFn zqv))]; exact(za.bk.ra)),?_⟩;obtain⟨Sb,Tb,hp⟩:=zqq hp;refine zwF (z:=z) Aa.pre (ha201.sub (Sub.trans (Sub.trans (Sub.trans (Sub.trans (Sub.trans (Sub.trans (Sub.trans g.fs h.fs) i.fs) l) s.fs) t.fs) B.fs) Y.fs)) Tb fun ie Ub Jd Vb Wb=>?_;obtain⟨Ca,Z⟩:=Aa.callG Vb e;have Xb:=Rb.k Z;have Yb:=Ba.k Z
    refine⟨_,_,rfl,?_⟩;obtain⟨Ld,Zb,hp⟩:=zqq hp;refine zwy (r:=Nb) (z:=Sb) (year:=I) Ca.pre (Qb.sub Z.fs) Wb Zb fun je ac=>?_;obtain⟨D,Da⟩:=Ca.call ac e;have bc:=Xb.k Da;have cc:=Yb.k Da;refine⟨_,_,rfl,?_⟩;refine zqT hp (fun dc hp=>?_) fun dc hp=>?_
    ·obtain rfl:=oi hp;exact hq _ D.ext'
    refine zqT hp (fun ec hp=>?_) fun ec hp=>?_
    ·obtain rfl:=oi hp;exact hq _ D.ext'
    refine⟨wa.isSl,?_⟩
    try rw[wa.slLen]
    refine zqT hp (fun fc hp=>?_) fun fc hp=>?_
    ·obtain rfl:=oi hp;exact hq _ D.ext'
    refine ifd hp (fun gc hp=>?_) fun gc hp=>?_
    ·obtain rfl:=oi hp;exact hq _ D.ext'
    refine gdi hp fun hc hp=>?_;exact Pa _ _ _ Ub e D (Sub.trans (Sub.trans (Sub.trans (Sub.trans (Sub.trans l s.fs) t.fs) B.fs) Y.fs) Z.fs) bc cc hp
  exact hgo _ _ _ _ O o S (Sub.refl _) j a hp
 obtain⟨ic,fa,hp⟩:=zqq hp;obtain⟨ld,Qa,ga,fa⟩:=zqk fa;refine⟨ld,Qa,(by first|exact ga|(rw[P.slLen];exact ga)),_,(P.rdI fa S.sub),?_⟩;intro md jd
 have hgo:∀(aa:Nat) (Ra:Bool) (da:Int) (ea:M) (u:M) (d:Nat->Nat),St (Fm.of m) f u ea->Sub O u->Lb (Fm.of m) u d ea 1 m.nxt 6 [Il r.Classes,Il r.Good,Il r.Bad,Il r.Rest,Il r.Fewest,ca105]->Lb (Fm.of m) u d ea 2 m0.nxt 2 [Il z.First,ca201]->zue r z ic aa da=some rz->md [.c (.bool Ra),.c (Il da)] ea:=by
  intro aa
  induction aa with
  | zero=>intro Ra da ea u d p n j a hp; cases hp
  | succ aa jc=>
   intro Ra da ea u d p n j a hp;refine jd _ _ _ ?_;rw[zue] at hp;refine⟨trivial,_,a.bk.rc rfl,ha201.isSl,?_⟩
   try rw[ha201.slLen]
   refine ifd hp (fun kc hp=>?_) fun kc hp=>?_; rotate_left
   ·obtain⟨Md,nc,hp⟩:=zqq hp;refine zwM p.pre  nc fun ke oc=>?_;obtain⟨pc,Nd⟩:=p.call oc d;refine⟨_,rfl,?_⟩;obtain rfl:=oi hp;exact hq _ pc.ext'
   refine ifd hp (fun qc hp=>?_) fun qc hp=>?_; rotate_left
   ·obtain⟨Od,sc,hp⟩:=zqq hp;refine zwM p.pre  sc fun se tc=>?_;obtain⟨uc,Pd⟩:=p.call tc d;refine⟨_,rfl,?_⟩;obtain rfl:=oi hp;exact hq _ uc.ext'
   refine⟨_,_,_,_,_,_,j.bk.ra,?_⟩;obtain⟨vc,wc,hp⟩:=zqq hp;refine zwE (r:=r) p.pre (ha105.sub (Sub.trans (Sub.trans (Sub.trans g.fs h.fs) i.fs) n)) wc fun te Qd Rd xc yc=>?_;obtain⟨Ea,w⟩:=p.callG xc d;have zc:=j.k w;have Fa:=a.k w;refine⟨_,_,_,_,_,_,rfl,_,_,Fa.bk.ra,(by rw[show zaL cmC _=true from zoW (zqu rfl (zqu ha201.noFn zqv))]; exact(a.bk.ra)),?_⟩;obtain⟨Ac,Bc,hp⟩:=zqq hp;refine zwF (z:=z) Ea.pre (ha201.sub (Sub.trans (Sub.trans (Sub.trans (Sub.trans g.fs h.fs) i.fs) n) w.fs)) Bc fun ue Sd Td Cc Dc=>?_;obtain⟨Ga,y⟩:=Ea.callG Cc d;have Ec:=zc.k y;have Fc:=Fa.k y;refine⟨_,_,rfl,?_⟩;obtain⟨Ud,Gc,hp⟩:=zqq hp;refine zwx (r:=vc) (z:=Ac) (year:=da) Ga.pre (yc.sub y.fs) Dc Gc fun ve Vd Wd Hc Ha=>?_;obtain⟨Ia,F⟩:=Ga.callG Hc d;have Ja:=Ec.k F;have Ka:=Fc.k F;refine⟨_,_,rfl,_,_,_,_,_,_,Ja.bk.ra,?_⟩;obtain⟨Ic,Jc,hp⟩:=zqq hp;refine zwE (r:=r) Ia.pre (ha105.sub (Sub.trans (Sub.trans (Sub.trans (Sub.trans (Sub.trans (Sub.trans g.fs h.fs) i.fs) n) w.fs) y.fs) F.fs)) Jc fun we Xd Yd Kc Nc=>?_;obtain⟨La,ba⟩:=Ia.callG Kc d;have Oc:=Ja.k ba;have Ma:=Ka.k ba;refine⟨_,_,_,_,_,_,rfl,_,_,Ma.bk.ra,(by rw[show zaL cmC _=true from zoW (zqu rfl (zqu ha201.noFn zqv))]; exact(Ka.bk.ra)),?_⟩;obtain⟨Pc,Qc,hp⟩:=zqq hp;refine zwF (z:=z) La.pre (ha201.sub (Sub.trans (Sub.trans (Sub.trans (Sub.trans (Sub.trans (Sub.trans (Sub.trans g.fs h.fs) i.fs) n) w.fs) y.fs) F.fs) ba.fs)) Qc fun xe Rc Zd Tc Uc=>?_;obtain⟨Na,ca⟩:=La.callG Tc d;have Vc:=Oc.k ca;have Xc:=Ma.k ca
   refine⟨_,_,rfl,?_⟩;obtain⟨ae,Yc,hp⟩:=zqq hp;refine zwy (r:=Ic) (z:=Pc) (year:=da) Na.pre (Nc.sub ca.fs) Uc Yc fun ye Zc=>?_;obtain⟨G,Oa⟩:=Na.call Zc d;have ad:=Vc.k Oa;have bd:=Xc.k Oa;refine⟨_,_,rfl,?_⟩;refine zqT hp (fun cd hp=>?_) fun cd hp=>?_
   ·obtain rfl:=oi hp;exact hq _ G.ext'
   refine zqT hp (fun dd hp=>?_) fun dd hp=>?_
   ·obtain rfl:=oi hp;exact hq _ G.ext'
   refine⟨Ha.isSl,?_⟩
   try rw[Ha.slLen]
   refine zqT hp (fun ed hp=>?_) fun ed hp=>?_
   ·obtain rfl:=oi hp;exact hq _ G.ext'
   refine ifd hp (fun fd hp=>?_) fun fd hp=>?_
   ·obtain rfl:=oi hp;exact hq _ G.ext'
   refine gdi hp fun hd hp=>?_;exact jc _ _ _ Rc d G (Sub.trans (Sub.trans (Sub.trans (Sub.trans (Sub.trans n w.fs) y.fs) F.fs) ba.fs) ca.fs) ad bd hp
 exact hgo _ _ _ _ O o S (Sub.refl _) j a hp
theorem zwQ{r:Rl}{z:Zn}{class_:Int}{ca105 ca201:C}{m f:M}{Q:V->M->Prop}{rz:Bool}(hS:Pre f m)(ha105:Sl f ca105 r.Price)(ha201:Sl f ca201 z.Years)(hp:zuk r z class_=some rz)(hq:∀m',Ext m m'->Q (.c (.bool rz)) m'):Wc prog tbl 13 [.agg 6 [Il r.Classes,Il r.Good,Il r.Bad,Il r.Rest,Il r.Fewest,ca105],.agg 2 [Il z.First,ca201],.c (.int .u8 class_)] m Q:=by
 have S0:=hS.st;obtain⟨τ0,_⟩:=zr1;refine w13 ?_;unfold zuk at hp;intro m0 ub;obtain⟨vb,wb,ue,xb⟩:=S0.blk ub τ0 1;intro m1 yb;obtain⟨B,za,zb,Aa⟩:=wb.blk yb vb 2;have Ba:=xb.k zb;refine⟨_,_,_,_,_,_,Ba.bk.ra,_,_,Aa.bk.ra,?_⟩;obtain⟨ve,Ab,hp⟩:=zqq hp;refine zwN (r:=r) (z:=z) za.pre ha105 ha201 Ab fun nf Bb=>?_;obtain⟨F,Ca⟩:=za.call Bb B;have da:=Ba.k Ca;have ea:=Aa.k Ca;refine⟨_,rfl,?_⟩;refine zqV hp (fun Cb hp=>?_) fun Cb hp=>?_
 ·obtain⟨we,Db,hp⟩:=zqq hp;refine zwM F.pre  Db fun pf Eb=>?_;obtain⟨Fb,xe⟩:=F.call Eb B;refine⟨_,rfl,?_⟩;obtain rfl:=oi hp;exact hq _ Fb.ext'
 refine⟨trivial,_,ea.bk.rc rfl,ha201.isSl,?_⟩
 try rw[ha201.slLen]
 refine ifd hp (fun Gb hp=>?_) fun Gb hp=>?_
 ·obtain⟨ye,Hb,hp⟩:=zqq hp;refine zwM F.pre  Hb fun qf Ib=>?_;obtain⟨Jb,ze⟩:=F.call Ib B;refine⟨_,rfl,?_⟩;obtain rfl:=oi hp;exact hq _ Jb.ext'
 refine⟨trivial,_,da.bk.rc rfl,?_⟩;refine gdi hp fun Kb hp=>?_;refine gdi hp fun Mb hp=>?_;obtain⟨Nb,hp⟩:=zqr hp;refine⟨Nb,_,_,_,_,_,_,da.bk.ra,?_⟩;obtain⟨Ob,Pb,hp⟩:=zqq hp;refine zwE (r:=r) F.pre ha105 Pb fun rf Ae Be Qb Rb=>?_;obtain⟨Da,o⟩:=F.callG Qb B;have Sb:=da.k o;have Ea:=ea.k o;refine⟨_,_,_,_,_,_,rfl,_,_,Ea.bk.ra,(by rw[show zaL cmC _=true from zoW (zqu rfl (zqu ha201.noFn zqv))]; exact(ea.bk.ra)),?_⟩;obtain⟨Tb,Ub,hp⟩:=zqq hp;refine zwF (z:=z) Da.pre (ha201.sub o.fs) Ub fun sf Ce De Vb Wb=>?_;obtain⟨Fa,p⟩:=Da.callG Vb B;have Xb:=Sb.k p;have Yb:=Ea.k p;refine⟨_,_,rfl,?_⟩;obtain⟨fa,Zb,hp⟩:=zqq hp;refine zwB (r:=Ob) (z:=Tb) (class_:=((zmb .i64 class_) % r.Classes)) Fa.pre (Rb.sub p.fs) Wb Zb fun tf Ga Ee ac d=>?_;obtain⟨bc,q⟩:=Fa.callG ac B;have j:=Xb.k q;have e:=Yb.k q;refine⟨_,_,rfl,?_⟩;intro qe ge
 have hgo:∀(T:Nat) (Ha:Int) (Ia:Int) (ba:M) (s:M) (i:Nat->Nat),St (Fm.of m) f s ba->Sub Ga s->Lb (Fm.of m) s i ba 1 m.nxt 6 [Il r.Classes,Il r.Good,Il r.Bad,Il r.Rest,Il r.Fewest,ca105]->Lb (Fm.of m) s i ba 2 m0.nxt 2 [Il z.First,ca201]->zuj r z class_ fa T Ha Ia=some rz->qe [.c (Il Ha),.c (Il Ia)] ba:=by
  intro T
  induction T with
  | zero=>intro Ha Ia ba s i g a j e hp; cases hp
  | succ T Ja=>
   intro Ha Ia ba s i g a j e hp;refine ge _ _ _ ?_;rw[zuj] at hp;refine⟨trivial,_,e.bk.rc rfl,ha201.isSl,?_⟩
   try rw[ha201.slLen]
   refine ifd hp (fun cc hp=>?_) fun cc hp=>?_
   ·refine⟨_,_,_,_,_,_,j.bk.ra,trivial,_,e.bk.rc rfl,?_⟩;obtain⟨dc,ga,hp⟩:=zqq hp;obtain⟨re,kb,qa,ga⟩:=zqk ga;obtain⟨_,ec⟩:=zr6 ha201 ga;refine⟨re,kb,(by first|exact qa|(rw[ha201.slLen];exact qa)),_,_,_,_,_,_,(ec _ (Sub.trans (Sub.trans (Sub.trans (Sub.trans o.fs p.fs) q.fs) a) g.sub)).1,?_⟩;obtain⟨Fe,fc,hp⟩:=zqq hp;refine zuU (r:=r) (y:=dc) g.pre (ha105.sub (Sub.trans (Sub.trans (Sub.trans o.fs p.fs) q.fs) a)) fc fun uf gc=>?_;obtain⟨Ka,La⟩:=g.call gc i;have Ma:=j.k La;have Na:=e.k La;refine⟨_,rfl,?_⟩;refine zqU hp (fun hc hp=>?_) fun hc hp=>?_; rotate_left
    ·refine gdi hp fun ic hp=>?_;exact Ja _ _ _ s i Ka a Ma Na hp
    refine gdi hp fun jc hp=>?_;refine gdi hp fun kc hp=>?_;exact Ja _ _ _ s i Ka a Ma Na hp
   refine⟨trivial,_,e.bk.rc rfl,?_⟩;refine gdi hp fun nc hp=>?_;refine ifd hp (fun oc hp=>?_) fun oc hp=>?_
   ·refine ifd hp (fun pc hp=>?_) fun pc hp=>?_; rotate_left
    ·obtain rfl:=oi hp;exact hq _ g.ext'
    refine⟨d.isSl,?_⟩
    try rw[d.slLen]
    refine ifd hp (fun qc hp=>?_) fun qc hp=>?_; rotate_left
    ·obtain rfl:=oi hp;exact hq _ g.ext'
    obtain⟨Ge,sc,hp⟩:=zqq hp;refine zwM g.pre  sc fun vf tc=>?_;obtain⟨uc,He⟩:=g.call tc i;refine⟨_,rfl,?_⟩;obtain rfl:=oi hp;exact hq _ uc.ext'
   refine⟨trivial,_,e.bk.rc rfl,?_⟩;refine gdi hp fun vc hp=>?_;refine ifd hp (fun wc hp=>?_) fun wc hp=>?_
   ·refine ifd hp (fun xc hp=>?_) fun xc hp=>?_; rotate_left
    ·obtain rfl:=oi hp;exact hq _ g.ext'
    refine⟨d.isSl,?_⟩
    try rw[d.slLen]
    refine ifd hp (fun yc hp=>?_) fun yc hp=>?_; rotate_left
    ·obtain rfl:=oi hp;exact hq _ g.ext'
    obtain⟨Ie,zc,hp⟩:=zqq hp;refine zwM g.pre  zc fun wf Ac=>?_;obtain⟨Bc,Je⟩:=g.call Ac i;refine⟨_,rfl,?_⟩;obtain rfl:=oi hp;exact hq _ Bc.ext'
   refine zqT hp (fun Cc hp=>?_) fun Cc hp=>?_
   ·refine ifd hp (fun Dc hp=>?_) fun Dc hp=>?_; rotate_left
    ·obtain rfl:=oi hp;exact hq _ g.ext'
    refine⟨_,_,_,_,_,_,j.bk.ra,_,_,e.bk.ra,trivial,_,e.bk.rc rfl,ha201.isSl,?_⟩;obtain⟨Oa,hp⟩:=zqr hp;refine⟨(by first|exact Oa|(rw[ha201.slLen];exact Oa)),trivial,_,e.bk.rc rfl,ha201.isSl,?_⟩;refine gdi hp fun Ec hp=>?_;obtain⟨Pa,hp⟩:=zqr hp;refine⟨(by first|exact Pa|(rw[ha201.slLen];exact Pa)),?_⟩;obtain⟨Qa,hp⟩:=zqr hp;refine⟨(by first|exact Qa|(rw[ha201.slLen];exact Qa)),?_⟩;obtain⟨Ra,hp⟩:=zqr hp;refine⟨(by first|exact Ra|(rw[ha201.slLen];exact Ra)),?_⟩;obtain⟨Sa,hp⟩:=zqr hp;refine⟨(by first|exact Sa|(rw[ha201.slLen];exact Sa)),?_⟩
    try rw[ha201.slLen]
    obtain⟨Fc,Gc,hp⟩:=zqq hp;refine zu0 (r:=r) (z:=z) (year:=((z.Years.length:Int) - (1:Int))) (out_:=(((1:Int) * ((2:Int) ^ (Int.toNat (zmb .u64 (z.Years.length:Int))))) - (1:Int))) g.pre (ha105.sub (Sub.trans (Sub.trans (Sub.trans o.fs p.fs) q.fs) a)) (ha201.sub (Sub.trans (Sub.trans (Sub.trans o.fs p.fs) q.fs) a)) Gc fun xf Ke Me Hc Ic=>?_;obtain⟨Ta,Ne⟩:=g.callG Hc i;refine⟨_,rfl,?_⟩;obtain⟨Oe,Jc,hp⟩:=zqq hp;refine zu2 (l:=Fc) (n:=((zmb .i64 class_) % r.Classes)) Ta.pre Ic Jc fun yf Kc=>?_;obtain⟨ha,Pe⟩:=Ta.call Kc i;refine⟨_,rfl,?_⟩;refine zqV hp (fun Nc hp=>?_) fun Nc hp=>?_; rotate_left
    ·obtain rfl:=oi hp;exact hq _ ha.ext'
    obtain⟨Qe,Oc,hp⟩:=zqq hp;refine zwM ha.pre  Oc fun zf Pc=>?_;obtain⟨Qc,Re⟩:=ha.call Pc i;refine⟨_,rfl,?_⟩;obtain rfl:=oi hp;exact hq _ Qc.ext'
   intro se he
   have hgo:∀(Y:Nat) (Ua:Bool) (aa:Int) (Va:Int) (ca:M) (u:M) (t:Nat->Nat),St (Fm.of m) f u ca->Sub s u->Lb (Fm.of m) u t ca 1 m.nxt 6 [Il r.Classes,Il r.Good,Il r.Bad,Il r.Rest,Il r.Fewest,ca105]->Lb (Fm.of m) u t ca 2 m0.nxt 2 [Il z.First,ca201]->zui r z class_ fa Y Ua aa Va=some rz->se [.c (.bool Ua),.c (Il aa),.c (Il Va)] ca:=by
    intro Y
    induction Y with
    | zero=>intro Ua aa Va ca u t G h j e hp; cases hp
    | succ Y Wa=>
     intro Ua aa Va ca u t G h j e hp;refine he _ _ _ _ ?_;rw[zui] at hp;refine⟨d.isSl,?_⟩
     try rw[d.slLen]
     refine ifd hp (fun Rc hp=>?_) fun Rc hp=>?_
     ·obtain⟨Tc,ia,hp⟩:=zqq hp;obtain⟨te,mb,sa,ia⟩:=zqk ia;refine⟨te,mb,(by first|exact sa|(rw[d.slLen];exact sa)),_,(d.rdI ia (Sub.trans (Sub.trans a h) G.sub)),trivial,_,e.bk.rc rfl,ha201.isSl,?_⟩;obtain⟨Xa,hp⟩:=zqr hp;refine⟨(by first|exact Xa|(rw[ha201.slLen];exact Xa)),?_⟩
      try rw[ha201.slLen]
      obtain⟨Se,Uc,hp⟩:=zqq hp;refine zuR (n:=Tc) (low:=(0:Int)) (high:=((z.Years.length:Int) - (1:Int))) G.pre  Uc fun gf Vc=>?_;obtain⟨w,Ya⟩:=G.call Vc t;have Za:=j.k Ya;have ab:=e.k Ya;refine⟨_,rfl,?_⟩;refine zqV hp (fun Xc hp=>?_) fun Xc hp=>?_
      ·obtain rfl:=oi hp;exact hq _ w.ext'
      refine ifd hp (fun Yc hp=>?_) fun Yc hp=>?_; rotate_left
      ·obtain⟨Te,ja,hp⟩:=zqq hp;obtain⟨ie,ob,ta,ja⟩:=zqk ja;refine⟨ie,ob,(by first|exact ta|(rw[d.slLen];exact ta)),_,(d.rdI ja (Sub.trans (Sub.trans a h) w.sub)),?_⟩;refine gdi hp fun Zc hp=>?_;refine gdi hp fun ad hp=>?_;refine gdi hp fun bd hp=>?_;refine gdi hp fun cd hp=>?_;refine gdi hp fun dd hp=>?_;refine gdi hp fun ed hp=>?_;refine gdi hp fun fd hp=>?_;refine gdi hp fun hd hp=>?_;refine gdi hp fun id hp=>?_;refine gdi hp fun jd hp=>?_;exact Wa _ _ _ _ u t w h Za ab hp
      obtain⟨Ue,ka,hp⟩:=zqq hp;obtain⟨je,pb,ua,ka⟩:=zqk ka;refine⟨je,pb,(by first|exact ua|(rw[d.slLen];exact ua)),_,(d.rdI ka (Sub.trans (Sub.trans a h) w.sub)),?_⟩;refine gdi hp fun kd hp=>?_;obtain⟨Ve,la,hp⟩:=zqq hp;obtain⟨ke,qb,va,la⟩:=zqk la;refine⟨ke,qb,(by first|exact va|(rw[d.slLen];exact va)),_,(d.rdI la (Sub.trans (Sub.trans a h) w.sub)),?_⟩;refine ifd hp (fun ld hp=>?_) fun ld hp=>?_
      ·obtain rfl:=oi hp;exact hq _ w.ext'
      obtain⟨We,ma,hp⟩:=zqq hp;obtain⟨me,rb,wa,ma⟩:=zqk ma;refine⟨me,rb,(by first|exact wa|(rw[d.slLen];exact wa)),_,(d.rdI ma (Sub.trans (Sub.trans a h) w.sub)),?_⟩;refine gdi hp fun md hp=>?_;refine gdi hp fun nd hp=>?_;refine gdi hp fun od hp=>?_;refine gdi hp fun pd hp=>?_;refine gdi hp fun qd hp=>?_;refine gdi hp fun sd hp=>?_;refine gdi hp fun td hp=>?_;refine gdi hp fun ud hp=>?_;refine gdi hp fun vd hp=>?_;refine gdi hp fun wd hp=>?_;exact Wa _ _ _ _ u t w h Za ab hp
     refine⟨_,_,_,_,_,_,j.bk.ra,_,_,e.bk.ra,trivial,_,e.bk.rc rfl,ha201.isSl,?_⟩;obtain⟨bb,hp⟩:=zqr hp;refine⟨(by first|exact bb|(rw[ha201.slLen];exact bb)),?_⟩
     try rw[ha201.slLen]
     obtain⟨xd,yd,hp⟩:=zqq hp;refine zu0 (r:=r) (z:=z) (year:=((z.Years.length:Int) - (1:Int))) (out_:=aa) G.pre (ha105.sub (Sub.trans (Sub.trans (Sub.trans (Sub.trans o.fs p.fs) q.fs) a) h)) (ha201.sub (Sub.trans (Sub.trans (Sub.trans (Sub.trans o.fs p.fs) q.fs) a) h)) yd fun hf cb Xe zd Ad=>?_;obtain⟨db,O⟩:=G.callG zd t;have Bd:=j.k O;have Cd:=e.k O;refine⟨_,rfl,?_⟩;obtain⟨Ye,Dd,hp⟩:=zqq hp;refine zu2 (l:=xd) (n:=((zmb .i64 class_) % r.Classes)) db.pre Ad Dd fun jf Ed=>?_;obtain⟨eb,fb⟩:=db.call Ed t;have P:=Bd.k fb;have I:=Cd.k fb;refine⟨_,rfl,?_⟩;refine zqV hp (fun Fd hp=>?_) fun Fd hp=>?_
     ·obtain rfl:=oi hp;exact hq _ eb.ext'
     intro oe Gd
     have hgo:∀(Z:Nat) (ya:Bool) (na:Int) (S:M) (J:M) (A:Nat->Nat),St (Fm.of m) f J S->Sub cb J->Lb (Fm.of m) J A S 1 m.nxt 6 [Il r.Classes,Il r.Good,Il r.Bad,Il r.Rest,Il r.Fewest,ca105]->Lb (Fm.of m) J A S 2 m0.nxt 2 [Il z.First,ca201]->zuh r z class_ fa aa Z na=some rz->oe [.c (.bool ya),.c (Il na)] S:=by
      intro Z
      induction Z with
      | zero=>intro ya na S J A N D P I hp; cases hp
      | succ Z sb=>
       intro ya na S J A N D P I hp;refine Gd _ _ _ ?_;rw[zuh] at hp;refine⟨d.isSl,?_⟩
       try rw[d.slLen]
       refine ifd hp (fun Hd hp=>?_) fun Hd hp=>?_; rotate_left
       ·obtain⟨Ze,Id,hp⟩:=zqq hp;refine zwM N.pre  Id fun kf Jd=>?_;obtain⟨Ld,af⟩:=N.call Jd A;refine⟨_,rfl,?_⟩;obtain rfl:=oi hp;exact hq _ Ld.ext'
       refine⟨_,_,_,_,_,_,P.bk.ra,_,_,I.bk.ra,trivial,_,I.bk.rc rfl,ha201.isSl,?_⟩;obtain⟨gb,hp⟩:=zqr hp;refine⟨(by first|exact gb|(rw[ha201.slLen];exact gb)),?_⟩;obtain⟨Md,oa,hp⟩:=zqq hp;obtain⟨pe,tb,xa,oa⟩:=zqk oa;refine⟨pe,tb,(by first|exact xa|(rw[d.slLen];exact xa)),_,(d.rdI oa (Sub.trans (Sub.trans (Sub.trans (Sub.trans a h) O.fs) D) N.sub)),?_⟩;refine gdi hp fun Nd hp=>?_;refine gdi hp fun Od hp=>?_;refine gdi hp fun Pd hp=>?_;refine gdi hp fun Qd hp=>?_;refine gdi hp fun Rd hp=>?_
       try rw[ha201.slLen]
       obtain⟨Sd,Td,hp⟩:=zqq hp;refine zu0 (r:=r) (z:=z) (year:=((z.Years.length:Int) - (1:Int))) (out_:=(aa - ((1:Int) * ((2:Int) ^ (Int.toNat (zmb .u64 Md)))))) N.pre (ha105.sub (Sub.trans (Sub.trans (Sub.trans (Sub.trans (Sub.trans (Sub.trans o.fs p.fs) q.fs) a) h) O.fs) D)) (ha201.sub (Sub.trans (Sub.trans (Sub.trans (Sub.trans (Sub.trans (Sub.trans o.fs p.fs) q.fs) a) h) O.fs) D)) Td fun lf Ud bf Vd Wd=>?_;obtain⟨hb,pa⟩:=N.callG Vd A;have Xd:=P.k pa;have Yd:=I.k pa;refine⟨_,rfl,?_⟩;obtain⟨cf,Zd,hp⟩:=zqq hp;refine zu2 (l:=Sd) (n:=((zmb .i64 class_) % r.Classes)) hb.pre Wd Zd fun mf ae=>?_;obtain⟨ib,jb⟩:=hb.call ae A;have be:=Xd.k jb;have ce:=Yd.k jb;refine⟨_,rfl,?_⟩;refine zqU hp (fun de hp=>?_) fun de hp=>?_
       ·obtain rfl:=oi hp;exact hq _ ib.ext'
       refine gdi hp fun ee hp=>?_;exact sb _ _ _ Ud A ib (Sub.trans D pa.fs) be ce hp
     exact hgo _ _ _ _ cb t eb (Sub.refl _) P I hp
   exact hgo _ _ _ _ _ s i g (Sub.refl _) j e hp
 exact hgo _ _ _ _ Ga B bc (Sub.refl _) j e hp
theorem zwR{r:Rl}{z:Zn}{words:List W8}{by_:Int}{ca105 ca201 ca300:C}{m f:M}{Q:V->M->Prop}{rz:Bool}(hS:Pre f m)(ha105:Sl f ca105 r.Price)(ha201:Sl f ca201 z.Years)(ha300:Sl f ca300 words)(hp:zum r z words by_=some rz)(hq:∀m',Ext m m'->Q (.c (.bool rz)) m'):Wc prog tbl 15 [.agg 6 [Il r.Classes,Il r.Good,Il r.Bad,Il r.Rest,Il r.Fewest,ca105],.agg 2 [Il z.First,ca201],.c ca300,.c (.int .u8 by_)] m Q:=by
 have S0:=hS.st;obtain⟨τ0,_⟩:=zr1;refine w15 ?_;unfold zum at hp;intro m0 bc;obtain⟨cc,dc,ig,ec⟩:=S0.blk bc τ0 1;intro m1 fc;obtain⟨ga,Sa,gc,Ta⟩:=dc.blk fc cc 2;have Ua:=ec.k gc;refine⟨_,_,_,_,_,_,Ua.bk.ra,_,_,Ta.bk.ra,?_⟩;obtain⟨jg,hc,hp⟩:=zqq hp;refine zwN (r:=r) (z:=z) Sa.pre ha105 ha201 hc fun fg ic=>?_;obtain⟨ha,Va⟩:=Sa.call ic ga;have jc:=Ua.k Va;have kc:=Ta.k Va;refine⟨_,rfl,?_⟩;refine zqV hp (fun nc hp=>?_) fun nc hp=>?_
 ·obtain⟨kg,oc,hp⟩:=zqq hp;refine zwM ha.pre  oc fun mh pc=>?_;obtain⟨qc,lg⟩:=ha.call pc ga;refine⟨_,rfl,?_⟩;obtain rfl:=oi hp;exact hq _ qc.ext'
 intro gg sc;obtain⟨tc,uc,Wa,Qb⟩:=ha.growK sc ga 3;have ia:=jc.k Wa;have vc:=kc.k Wa;have wc:=Qb 0 (by decide);refine⟨_,_,_,_,_,_,ia.bk.ra,_,_,_,_,_,_,ia.bk.ra,?_⟩;intro nh xc;obtain⟨Xa,yc,ja,zc⟩:=uc.blk xc tc 4;have ka:=ia.k ja;have Ac:=vc.k ja;have Bc:=wc.k ja;refine⟨(by rw[show zaL cmC _=true from zoW (zqu rfl (zqu rfl (zqu rfl (zqu rfl (zqu rfl (zqu ha105.noFn zqv))))))]; exact(ka.bk.ra)),(by rw[show zaL cmC _=true from zoW (zqu rfl (zqu rfl (zqu rfl (zqu rfl (zqu rfl (zqu ha105.noFn zqv))))))]; exact(ka.bk.ra)),?_⟩;intro oh Cc;obtain⟨Dc,la,Ec⟩:=Bc.set yc Cc;have ma:=ka.k la;have Fc:=Ac.k la;have Gc:=zc.k la;refine⟨(by rw[show zaL cmC _=true from zoW (zqu rfl (zqu rfl (zqu rfl (zqu rfl (zqu rfl (zqu ha105.noFn zqv))))))]; exact(ma.bk.ra)),(by rw[show zaL cmC _=true from zoW (zqu rfl (zqu rfl (zqu rfl (zqu rfl (zqu rfl (zqu ha105.noFn zqv))))))]; exact(ma.bk.ra)),?_⟩;obtain⟨Hc,Ic,Jc,na,Kc⟩:=Gc.sto Dc [Il r.Classes,Il r.Good,Il r.Bad,Il r.Rest,Il r.Fewest,ca105];have Ya:=ma.k na;have Nc:=Fc.k na;have Oc:=Ec.k na;refine⟨Hc,Ic,?_⟩;refine⟨(by rw[show zaL cmC _=true from zoW (zqu rfl (zqu rfl (zqu rfl (zqu rfl (zqu rfl (zqu ha105.noFn zqv))))))]; exact(Ya.bk.ra)),?_⟩;obtain⟨Pc,Qc,Rc,oa,Tc⟩:=Oc.sto Jc [Il r.Classes,Il r.Good,Il r.Bad,Il r.Rest,Il r.Fewest,ca105];have Za:=Ya.k oa;have Uc:=Nc.k oa;have Vc:=Kc.k oa
 refine⟨Pc,Qc,?_⟩;refine⟨trivial,_,Za.bk.rc rfl,?_⟩;refine gdi hp fun Xc hp=>?_;refine gdi hp fun Yc hp=>?_;refine gdi hp fun Zc hp=>?_;obtain⟨ad,hp⟩:=zqr hp;refine⟨ad,trivial,?_⟩;obtain⟨bd,cd,dd,pa,qa⟩:=Vc.sto1 Rc 3 (Il (max (0:Int) (r.Rest - ((zmb .i64 by_) % (3:Int))))) (by simp) rfl
 replace qa:Lb _ _ _ _ _ _ _ [Il r.Classes,Il r.Good,Il r.Bad,(Il (max (0:Int) (r.Rest - ((zmb .i64 by_) % (3:Int))))),Il r.Fewest,ca105]:=qa
 have ed:=Za.k pa;have fd:=Uc.k pa;have hd:=Tc.k pa;refine⟨bd,cd,?_⟩;refine⟨trivial,?_⟩;obtain⟨id,jd,ab,sa,ta⟩:=hd.sto1 dd 3 (Il 0) (by simp) rfl
 replace ta:Lb _ _ _ _ _ _ _ [Il r.Classes,Il r.Good,Il r.Bad,Il 0,Il r.Fewest,ca105]:=ta
 have kd:=ed.k sa;have bb:=fd.k sa;have ld:=qa.k sa;refine⟨id,jd,?_⟩;refine⟨_,_,bb.bk.ra,?_⟩;obtain⟨aa,md,hp⟩:=zqq hp;refine zwO (z:=z) (words:=words) ab.pre ha201 ha300 md fun hg mg cb db nd A B=>?_;obtain⟨od,u⟩:=ab.callG nd Xa;have pd:=kd.k u;have qd:=bb.k u;have sd:=ld.k u;have td:=ta.k u;refine⟨_,_,rfl,?_⟩;intro ph ud;obtain⟨s,vd,ba,wd⟩:=od.blk ud Xa 5;have xd:=pd.k ba;have yd:=qd.k ba;have zd:=sd.k ba;have Ad:=td.k ba;obtain⟨Bd,Cd,eb,ca,fb⟩:=wd.sto vd [cb,db];have gb:=xd.k ca;have hb:=yd.k ca;have Dd:=zd.k ca;have Ed:=Ad.k ca;refine⟨Bd,Cd,?_⟩;refine⟨_,_,_,_,_,_,gb.bk.ra,?_⟩;obtain⟨Fd,Gd,hp⟩:=zqq hp;refine zwE (r:=r) eb.pre (ha105.sub u.fs) Gd fun qh ng og Hd Id=>?_;obtain⟨ib,a⟩:=eb.callG Hd s;have Jd:=gb.k a;have jb:=hb.k a;have Ld:=Dd.k a;have Md:=Ed.k a;have kb:=fb.k a;refine⟨_,_,_,_,_,_,rfl,_,_,jb.bk.ra,(by rw[show zaL cmC _=true from zoW (zqu rfl (zqu ha201.noFn zqv))]; exact(hb.bk.ra)),?_⟩;obtain⟨Nd,Od,hp⟩:=zqq hp;refine zwF (z:=z) ib.pre (ha201.sub (Sub.trans u.fs a.fs)) Od fun rh pg qg Pd Qd=>?_;obtain⟨mb,d⟩:=ib.callG Pd s;have Rd:=Jd.k d;have Sd:=jb.k d;have Td:=Ld.k d;have Ud:=Md.k d;have ob:=kb.k d;refine⟨_,_,rfl,_,_,ob.bk.ra,(by rw[show zaL cmC _=true from zoW (zqu A.noFn (zqu B.noFn zqv))]; exact(kb.bk.ra)),(by rw[show zaL cmC _=true from zoW (zqu A.noFn (zqu B.noFn zqv))]; exact(fb.bk.ra)),?_⟩;obtain⟨Vd,Wd,hp⟩:=zqq hp;refine zwG (t:=aa) mb.pre (A.sub (Sub.trans a.fs d.fs)) (B.sub (Sub.trans a.fs d.fs)) Wd fun th rg sg tg Xd Yd Zd=>?_
 obtain⟨pb,e⟩:=mb.callG Xd s;have ae:=Rd.k e;have be:=Sd.k e;have ce:=Td.k e;have de:=Ud.k e;have ee:=ob.k e;refine⟨_,_,rfl,?_⟩;obtain⟨fe,ge,hp⟩:=zqq hp;refine zww (r:=Fd) (z:=Nd) (t:=Vd) pb.pre (Id.sub (Sub.trans d.fs e.fs)) (Qd.sub e.fs) Yd Zd ge fun uh ug vg he F=>?_;obtain⟨qb,g⟩:=pb.callG he s;have ie:=ae.k g;have rb:=be.k g;have sb:=ce.k g;have je:=de.k g;have tb:=ee.k g;refine⟨_,_,rfl,_,_,_,_,_,_,sb.bk.ra,?_⟩;obtain⟨ke,me,hp⟩:=zqq hp;refine zwE (r:=({ Classes:=r.Classes,Good:=r.Good,Bad:=r.Bad,Rest:=(max (0:Int) (r.Rest - ((zmb .i64 by_) % (3:Int)))),Fewest:=r.Fewest,Price:=r.Price }:Rl)) qb.pre (ha105.sub (Sub.trans (Sub.trans (Sub.trans (Sub.trans u.fs a.fs) d.fs) e.fs) g.fs)) me fun vh xg zg oe pe=>?_;obtain⟨ub,h⟩:=qb.callG oe s;have qe:=ie.k h;have vb:=rb.k h;have re:=sb.k h;have se:=je.k h;have wb:=tb.k h;refine⟨_,_,_,_,_,_,rfl,_,_,vb.bk.ra,(by rw[show zaL cmC _=true from zoW (zqu rfl (zqu ha201.noFn zqv))]; exact(rb.bk.ra)),?_⟩;obtain⟨te,ue,hp⟩:=zqq hp;refine zwF (z:=z) ub.pre (ha201.sub (Sub.trans (Sub.trans (Sub.trans (Sub.trans (Sub.trans u.fs a.fs) d.fs) e.fs) g.fs) h.fs)) ue fun wh Ag Bg ve we=>?_;obtain⟨xb,i⟩:=ub.callG ve s;have xe:=qe.k i;have ye:=vb.k i;have ze:=re.k i;have Ae:=se.k i;have yb:=wb.k i;refine⟨_,_,rfl,_,_,yb.bk.ra,(by rw[show zaL cmC _=true from zoW (zqu A.noFn (zqu B.noFn zqv))]; exact(wb.bk.ra)),(by rw[show zaL cmC _=true from zoW (zqu A.noFn (zqu B.noFn zqv))]; exact(tb.bk.ra)),?_⟩
 obtain⟨Be,Ce,hp⟩:=zqq hp;refine zwG (t:=aa) xb.pre (A.sub (Sub.trans (Sub.trans (Sub.trans (Sub.trans (Sub.trans a.fs d.fs) e.fs) g.fs) h.fs) i.fs)) (B.sub (Sub.trans (Sub.trans (Sub.trans (Sub.trans (Sub.trans a.fs d.fs) e.fs) g.fs) h.fs) i.fs)) Ce fun xh Cg Dg Eg De Ee Fe=>?_;obtain⟨zb,j⟩:=xb.callG De s;have Ge:=xe.k j;have He:=ye.k j;have Ie:=ze.k j;have Je:=Ae.k j;have Ke:=yb.k j;refine⟨_,_,rfl,?_⟩;obtain⟨Me,Ne,hp⟩:=zqq hp;refine zww (r:=ke) (z:=te) (t:=Be) zb.pre (pe.sub (Sub.trans i.fs j.fs)) (we.sub j.fs) Ee Fe Ne fun fh Fg Gg Oe O=>?_;obtain⟨Ab,o⟩:=zb.callG Oe s;have Pe:=Ge.k o;have Bb:=He.k o;have Qe:=Ie.k o;have Cb:=Je.k o;have Db:=Ke.k o;refine⟨_,_,rfl,_,_,_,_,_,_,Cb.bk.ra,?_⟩;obtain⟨Re,Se,hp⟩:=zqq hp;refine zwE (r:=({ Classes:=r.Classes,Good:=r.Good,Bad:=r.Bad,Rest:=(0:Int),Fewest:=r.Fewest,Price:=r.Price }:Rl)) Ab.pre (ha105.sub (Sub.trans (Sub.trans (Sub.trans (Sub.trans (Sub.trans (Sub.trans (Sub.trans (Sub.trans u.fs a.fs) d.fs) e.fs) g.fs) h.fs) i.fs) j.fs) o.fs)) Se fun gh Hg Ig Te Ue=>?_;obtain⟨Eb,l⟩:=Ab.callG Te s;have Ve:=Pe.k l;have Fb:=Bb.k l;have We:=Qe.k l;have Xe:=Cb.k l;have Gb:=Db.k l;refine⟨_,_,_,_,_,_,rfl,_,_,Fb.bk.ra,(by rw[show zaL cmC _=true from zoW (zqu rfl (zqu ha201.noFn zqv))]; exact(Bb.bk.ra)),?_⟩;obtain⟨Ye,Ze,hp⟩:=zqq hp;refine zwF (z:=z) Eb.pre (ha201.sub (Sub.trans (Sub.trans (Sub.trans (Sub.trans (Sub.trans (Sub.trans (Sub.trans (Sub.trans (Sub.trans u.fs a.fs) d.fs) e.fs) g.fs) h.fs) i.fs) j.fs) o.fs) l.fs)) Ze fun hh Jg Kg af bf=>?_
 obtain⟨Hb,n⟩:=Eb.callG af s;have cf:=Ve.k n;have df:=Fb.k n;have ef:=We.k n;have gf:=Xe.k n;have Ib:=Gb.k n;refine⟨_,_,rfl,_,_,Ib.bk.ra,(by rw[show zaL cmC _=true from zoW (zqu A.noFn (zqu B.noFn zqv))]; exact(Gb.bk.ra)),(by rw[show zaL cmC _=true from zoW (zqu A.noFn (zqu B.noFn zqv))]; exact(Db.bk.ra)),?_⟩;obtain⟨hf,jf,hp⟩:=zqq hp;refine zwG (t:=aa) Hb.pre (A.sub (Sub.trans (Sub.trans (Sub.trans (Sub.trans (Sub.trans (Sub.trans (Sub.trans (Sub.trans (Sub.trans a.fs d.fs) e.fs) g.fs) h.fs) i.fs) j.fs) o.fs) l.fs) n.fs)) (B.sub (Sub.trans (Sub.trans (Sub.trans (Sub.trans (Sub.trans (Sub.trans (Sub.trans (Sub.trans (Sub.trans a.fs d.fs) e.fs) g.fs) h.fs) i.fs) j.fs) o.fs) l.fs) n.fs)) jf fun ih Lg Mg Ng kf lf mf=>?_;obtain⟨Jb,p⟩:=Hb.callG kf s;have nf:=cf.k p;have pf:=df.k p;have qf:=ef.k p;have rf:=gf.k p;have sf:=Ib.k p;refine⟨_,_,rfl,?_⟩;obtain⟨tf,uf,hp⟩:=zqq hp;refine zww (r:=Re) (z:=Ye) (t:=hf) Jb.pre (Ue.sub (Sub.trans n.fs p.fs)) (bf.sub p.fs) lf mf uf fun jh P Og vf G=>?_;obtain⟨I,w⟩:=Jb.callG vf s;have Y:=nf.k w;have J:=pf.k w;have da:=qf.k w;have ea:=rf.k w;have S:=sf.k w;refine⟨_,_,rfl,?_⟩;refine zqT hp (fun wf hp=>?_) fun wf hp=>?_
 ·obtain rfl:=oi hp;exact hq _ I.ext'
 refine zqT hp (fun xf hp=>?_) fun xf hp=>?_
 ·obtain rfl:=oi hp;exact hq _ I.ext'
 refine zqT hp (fun yf hp=>?_) fun yf hp=>?_
 ·obtain rfl:=oi hp;exact hq _ I.ext'
 refine⟨F.isSl,trivial,_,J.bk.rc rfl,ha201.isSl,?_⟩
 try rw[F.slLen]
 try rw[ha201.slLen]
 refine zqT hp (fun zf hp=>?_) fun zf hp=>?_
 ·obtain rfl:=oi hp;exact hq _ I.ext'
 refine⟨O.isSl,F.isSl,?_⟩
 try rw[O.slLen]
 try rw[F.slLen]
 refine zqT hp (fun Af hp=>?_) fun Af hp=>?_
 ·obtain rfl:=oi hp;exact hq _ I.ext'
 refine⟨G.isSl,F.isSl,?_⟩
 try rw[G.slLen]
 try rw[F.slLen]
 refine zqT hp (fun Bf hp=>?_) fun Bf hp=>?_
 ·obtain rfl:=oi hp;exact hq _ I.ext'
 refine⟨trivial,_,J.bk.rc rfl,?_⟩;intro Uf Cf
 have hgo:∀(fa:Nat) (Ra:Bool) (ua:Int) (va:Int) (N:M) (D:Nat->Nat),St (Fm.of m) f P N->Lb (Fm.of m) P D N 1 m.nxt 6 [Il r.Classes,Il r.Good,Il r.Bad,Il r.Rest,Il r.Fewest,ca105]->Lb (Fm.of m) P D N 2 m0.nxt 2 [Il z.First,ca201]->Lb (Fm.of m) P D N 4 gg.nxt 6 [Il r.Classes,Il r.Good,Il r.Bad,(Il (max (0:Int) (r.Rest - ((zmb .i64 by_) % (3:Int))))),Il r.Fewest,ca105]->Lb (Fm.of m) P D N 3 (fg.nxt+0) 6 [Il r.Classes,Il r.Good,Il r.Bad,Il 0,Il r.Fewest,ca105]->Lb (Fm.of m) P D N 5 hg.nxt 2 [cb,db]->zul r z aa fe Me tf fa ua va=some rz->Uf [.c (.bool Ra),.c (Il ua),.c (Il va)] N:=by
  intro fa
  induction fa with
  | zero=>intro Ra ua va N D q Y J da ea S hp; cases hp
  | succ fa Ga=>
   intro Ra ua va N D q Y J da ea S hp;refine Cf _ _ _ _ ?_;rw[zul] at hp;refine⟨F.isSl,?_⟩
   try rw[F.slLen]
   refine ifd hp (fun Df hp=>?_) fun Df hp=>?_; rotate_left
   ·obtain⟨Pg,Ef,hp⟩:=zqq hp;refine zwM q.pre  Ef fun kh Ff=>?_;obtain⟨Gf,Qg⟩:=q.call Ff D;refine⟨_,rfl,?_⟩;obtain rfl:=oi hp;exact hq _ Gf.ext'
   obtain⟨Sg,wa,hp⟩:=zqq hp;obtain⟨Vf,Rb,Ha,wa⟩:=zqk wa;refine⟨Vf,Rb,(by first|exact Ha|(rw[O.slLen];exact Ha)),_,(O.rdI wa (Sub.trans (Sub.trans (Sub.trans (Sub.trans l.fs n.fs) p.fs) w.fs) q.sub)),?_⟩;obtain⟨Tg,xa,hp⟩:=zqq hp;obtain⟨Wf,Sb,Ia,xa⟩:=zqk xa;refine⟨Wf,Sb,(by first|exact Ia|(rw[F.slLen];exact Ia)),_,(F.rdI xa (Sub.trans (Sub.trans (Sub.trans (Sub.trans (Sub.trans (Sub.trans (Sub.trans (Sub.trans h.fs i.fs) j.fs) o.fs) l.fs) n.fs) p.fs) w.fs) q.sub)),?_⟩;refine ifd hp (fun Hf hp=>?_) fun Hf hp=>?_
   ·obtain rfl:=oi hp;exact hq _ q.ext'
   obtain⟨Ug,ya,hp⟩:=zqq hp;obtain⟨Xf,Tb,Ja,ya⟩:=zqk ya;refine⟨Xf,Tb,(by first|exact Ja|(rw[G.slLen];exact Ja)),_,(G.rdI ya q.sub),?_⟩;obtain⟨Vg,za,hp⟩:=zqq hp;obtain⟨Yf,Ub,Ka,za⟩:=zqk za;refine⟨Yf,Ub,(by first|exact Ka|(rw[O.slLen];exact Ka)),_,(O.rdI za (Sub.trans (Sub.trans (Sub.trans (Sub.trans l.fs n.fs) p.fs) w.fs) q.sub)),?_⟩;refine ifd hp (fun If hp=>?_) fun If hp=>?_
   ·obtain rfl:=oi hp;exact hq _ q.ext'
   refine⟨_,_,_,_,_,_,Y.bk.ra,trivial,_,J.bk.rc rfl,?_⟩;obtain⟨Jf,Aa,hp⟩:=zqq hp;obtain⟨Zf,Vb,La,Aa⟩:=zqk Aa;obtain⟨_,Kf⟩:=zr6 ha201 Aa;refine⟨Zf,Vb,(by first|exact La|(rw[ha201.slLen];exact La)),_,_,_,_,_,_,(Kf _ (Sub.trans (Sub.trans (Sub.trans (Sub.trans (Sub.trans (Sub.trans (Sub.trans (Sub.trans (Sub.trans (Sub.trans (Sub.trans (Sub.trans (Sub.trans u.fs a.fs) d.fs) e.fs) g.fs) h.fs) i.fs) j.fs) o.fs) l.fs) n.fs) p.fs) w.fs) q.sub)).1,trivial,_,S.bk.rc rfl,?_⟩;obtain⟨Lf,Ba,hp⟩:=zqq hp;obtain⟨ag,Wb,Ma,Ba⟩:=zqk Ba;refine⟨ag,Wb,(by first|exact Ma|(rw[A.slLen];exact Ma)),_,(A.rdI Ba (Sub.trans (Sub.trans (Sub.trans (Sub.trans (Sub.trans (Sub.trans (Sub.trans (Sub.trans (Sub.trans (Sub.trans (Sub.trans (Sub.trans a.fs d.fs) e.fs) g.fs) h.fs) i.fs) j.fs) o.fs) l.fs) n.fs) p.fs) w.fs) q.sub)),trivial,_,S.bk.rc rfl,?_⟩;obtain⟨Mf,Ca,hp⟩:=zqq hp;obtain⟨bg,Xb,Na,Ca⟩:=zqk Ca;refine⟨bg,Xb,(by first|exact Na|(rw[B.slLen];exact Na)),_,(B.rdI Ca (Sub.trans (Sub.trans (Sub.trans (Sub.trans (Sub.trans (Sub.trans (Sub.trans (Sub.trans (Sub.trans (Sub.trans (Sub.trans (Sub.trans a.fs d.fs) e.fs) g.fs) h.fs) i.fs) j.fs) o.fs) l.fs) n.fs) p.fs) w.fs) q.sub)),?_⟩;obtain⟨Xg,Nf,hp⟩:=zqq hp;refine zuV (r:=r) (y:=Jf) (losses:=Lf) (premiums:=Mf) q.pre (ha105.sub (Sub.trans (Sub.trans (Sub.trans (Sub.trans (Sub.trans (Sub.trans (Sub.trans (Sub.trans (Sub.trans (Sub.trans (Sub.trans (Sub.trans u.fs a.fs) d.fs) e.fs) g.fs) h.fs) i.fs) j.fs) o.fs) l.fs) n.fs) p.fs) w.fs)) Nf fun lh Of=>?_
   obtain⟨T,Z⟩:=q.call Of D;have Kb:=Y.k Z;have Mb:=J.k Z;have Nb:=da.k Z;have Ob:=ea.k Z;have Pb:=S.k Z;refine⟨_,rfl,?_⟩;refine ifd hp (fun Pf hp=>?_) fun Pf hp=>?_; rotate_left
   ·obtain⟨Zg,Da,hp⟩:=zqq hp;obtain⟨cg,Yb,Oa,Da⟩:=zqk Da;refine⟨cg,Yb,(by first|exact Oa|(rw[G.slLen];exact Oa)),_,(G.rdI Da T.sub),?_⟩;refine gdi hp fun Qf hp=>?_;exact Ga _ _ _ _ D T Kb Mb Nb Ob Pb hp
   obtain⟨ah,Ea,hp⟩:=zqq hp;obtain⟨dg,Zb,Pa,Ea⟩:=zqk Ea;refine⟨dg,Zb,(by first|exact Pa|(rw[G.slLen];exact Pa)),_,(G.rdI Ea T.sub),?_⟩;refine gdi hp fun Rf hp=>?_;refine zqT hp (fun Sf hp=>?_) fun Sf hp=>?_
   ·obtain rfl:=oi hp;exact hq _ T.ext'
   obtain⟨bh,Fa,hp⟩:=zqq hp;obtain⟨eg,ac,Qa,Fa⟩:=zqk Fa;refine⟨eg,ac,(by first|exact Qa|(rw[G.slLen];exact Qa)),_,(G.rdI Fa T.sub),?_⟩;refine gdi hp fun Tf hp=>?_;exact Ga _ _ _ _ D T Kb Mb Nb Ob Pb hp
 exact hgo _ _ _ _ _ s I Y J da ea S hp
theorem zwS{r:Rl}{z:Zn}{which:Int}{ca105 ca201:C}{m f:M}{Q:V->M->Prop}{rz:Bool}(hS:Pre f m)(ha105:Sl f ca105 r.Price)(ha201:Sl f ca201 z.Years)(hp:zun r z which=some rz)(hq:∀m',Ext m m'->Q (.c (.bool rz)) m'):Wc prog tbl 16 [.agg 6 [Il r.Classes,Il r.Good,Il r.Bad,Il r.Rest,Il r.Fewest,ca105],.agg 2 [Il z.First,ca201],.c (.int .u8 which)] m Q:=by
 have S0:=hS.st;obtain⟨τ0,_⟩:=zr1;refine w16 ?_;unfold zun at hp;intro m0 za;obtain⟨Aa,Ba,Gc,Ca⟩:=S0.blk za τ0 1;intro m1 Da;obtain⟨u,I,Ea,J⟩:=Ba.blk Da Aa 2;have N:=Ca.k Ea;refine⟨_,_,_,_,_,_,N.bk.ra,_,_,J.bk.ra,?_⟩;obtain⟨Hc,Fa,hp⟩:=zqq hp;refine zwN (r:=r) (z:=z) I.pre ha105 ha201 Fa fun Bd Ga=>?_;obtain⟨t,O⟩:=I.call Ga u;have Ha:=N.k O;have w:=J.k O;refine⟨_,rfl,?_⟩;refine zqV hp (fun Ia hp=>?_) fun Ia hp=>?_
 ·obtain⟨Ic,Ja,hp⟩:=zqq hp;refine zwM t.pre  Ja fun Cd Ka=>?_;obtain⟨La,Jc⟩:=t.call Ka u;refine⟨_,rfl,?_⟩;obtain rfl:=oi hp;exact hq _ La.ext'
 refine⟨trivial,_,w.bk.rc rfl,ha201.isSl,?_⟩
 try rw[ha201.slLen]
 refine ifd hp (fun Ma hp=>?_) fun Ma hp=>?_
 ·obtain⟨Kc,Na,hp⟩:=zqq hp;refine zwM t.pre  Na fun Dd Oa=>?_;obtain⟨Pa,Nc⟩:=t.call Oa u;refine⟨_,rfl,?_⟩;obtain rfl:=oi hp;exact hq _ Pa.ext'
 refine⟨trivial,_,w.bk.rc rfl,ha201.isSl,?_⟩;refine gdi hp fun Qa hp=>?_;obtain⟨P,hp⟩:=zqr hp;refine⟨(by first|exact P|(rw[ha201.slLen];exact P)),?_⟩;obtain⟨S,hp⟩:=zqr hp;refine⟨(by first|exact S|(rw[ha201.slLen];exact S)),_,_,w.bk.ra,?_⟩;intro Ed Ra;obtain⟨d,Sa,T,Ta⟩:=t.blk Ra u 3;have Ua:=Ha.k T;have Va:=w.k T;obtain⟨Wa,Xa,Ya,Y,Za⟩:=Ta.sto Sa [Il z.First,ca201];have ab:=Ua.k Y;have Z:=Va.k Y;refine⟨Wa,Xa,?_⟩;refine⟨trivial,_,Z.bk.rc rfl,?_⟩;obtain⟨aa,hp⟩:=zqr hp;refine⟨(by first|exact aa|(rw[ha201.slLen];exact aa)),?_⟩
 try rw[ha201.slLen]
 obtain⟨Oc,hp⟩:=zqr hp;obtain⟨D,bb,y⟩:=ha201.subC (i:=Int.toNat (0:Int)) (j:=Int.toNat (((zmb .i64 which) % (z.Years.length:Int))+(1:Int))) (by omega) (by omega);refine⟨_,_,rfl,(show(((zmb .i64 which) % (z.Years.length:Int))+(1:Int))=((Int.toNat (((zmb .i64 which) % (z.Years.length:Int))+(1:Int)):Nat):Int) by omega),D,bb,?_⟩;refine⟨trivial,?_⟩;obtain⟨cb,db,ba,ca,F⟩:=Za.sto1 Ya 1 D (by simp) rfl
 replace F:Lb _ _ _ _ _ _ _ [Il z.First,D]:=F
 have da:=ab.k ca;have ea:=Z.k ca;refine⟨cb,db,?_⟩;refine⟨_,_,_,_,_,_,da.bk.ra,?_⟩;obtain⟨eb,fb,hp⟩:=zqq hp;refine zwE (r:=r) ba.pre ha105 fb fun Fd Pc Qc gb hb=>?_;obtain⟨fa,e⟩:=ba.callG gb d;have ib:=da.k e;have ga:=ea.k e;have jb:=F.k e;refine⟨_,_,_,_,_,_,rfl,_,_,ga.bk.ra,(by rw[show zaL cmC _=true from zoW (zqu rfl (zqu ha201.noFn zqv))]; exact(ea.bk.ra)),?_⟩;obtain⟨kb,mb,hp⟩:=zqq hp;refine zwF (z:=z) fa.pre (ha201.sub e.fs) mb fun Gd Rc Tc ob pb=>?_;obtain⟨ha,g⟩:=fa.callG ob d;have qb:=ib.k g;have rb:=ga.k g;have sb:=jb.k g;refine⟨_,_,rfl,?_⟩
 try rw[ha201.slLen]
 obtain⟨tb,ub,hp⟩:=zqq hp;refine zwx (r:=eb) (z:=kb) (year:=((zmb .i64 which) % (z.Years.length:Int))) ha.pre (hb.sub g.fs) pb ub fun Hd Uc Vc vb wb=>?_;obtain⟨ia,h⟩:=ha.callG vb d;have ja:=qb.k h;have xb:=rb.k h;have ka:=sb.k h;refine⟨_,_,rfl,_,_,_,_,_,_,ja.bk.ra,?_⟩;obtain⟨yb,zb,hp⟩:=zqq hp;refine zwE (r:=r) ia.pre (ha105.sub (Sub.trans (Sub.trans e.fs g.fs) h.fs)) zb fun Id Xc Yc Ab Bb=>?_;obtain⟨la,l⟩:=ia.callG Ab d;have Cb:=ja.k l;have Db:=xb.k l;have ma:=ka.k l;refine⟨_,_,_,_,_,_,rfl,_,_,ma.bk.ra,(by rw[show zaL cmC _=true from zoW (zqu rfl (zqu y.noFn zqv))]; exact(ka.bk.ra)),?_⟩;obtain⟨Eb,Fb,hp⟩:=zqq hp;refine zwF (z:=({ First:=z.First,Years:=((z.Years.take (Int.toNat (((zmb .i64 which) % (z.Years.length:Int))+(1:Int)))).drop (Int.toNat (0:Int))) }:Zn)) la.pre (y.sub (Sub.trans (Sub.trans (Sub.trans e.fs g.fs) h.fs) l.fs)) Fb fun Jd Zc ad Gb Hb=>?_;obtain⟨na,n⟩:=la.callG Gb d;have Ib:=Cb.k n;have Jb:=Db.k n;have Kb:=ma.k n;refine⟨_,_,rfl,?_⟩
 try rw[ha201.slLen]
 obtain⟨Mb,Nb,hp⟩:=zqq hp;refine zwx (r:=yb) (z:=Eb) (year:=((zmb .i64 which) % (z.Years.length:Int))) na.pre (Bb.sub n.fs) Hb Nb fun Ld bd cd Ob Pb=>?_;obtain⟨oa,o⟩:=na.callG Ob d;have pa:=Ib.k o;have qa:=Jb.k o;have Qb:=Kb.k o;refine⟨_,_,rfl,_,_,_,_,_,_,pa.bk.ra,?_⟩;obtain⟨Rb,Sb,hp⟩:=zqq hp;refine zwE (r:=r) oa.pre (ha105.sub (Sub.trans (Sub.trans (Sub.trans (Sub.trans (Sub.trans e.fs g.fs) h.fs) l.fs) n.fs) o.fs)) Sb fun Md dd ed Tb Ub=>?_;obtain⟨sa,p⟩:=oa.callG Tb d;have Vb:=pa.k p;have Wb:=qa.k p;have Xb:=Qb.k p;refine⟨_,_,_,_,_,_,rfl,_,_,Wb.bk.ra,(by rw[show zaL cmC _=true from zoW (zqu rfl (zqu ha201.noFn zqv))]; exact(qa.bk.ra)),?_⟩;obtain⟨Yb,Zb,hp⟩:=zqq hp;refine zwF (z:=z) sa.pre (ha201.sub (Sub.trans (Sub.trans (Sub.trans (Sub.trans (Sub.trans (Sub.trans e.fs g.fs) h.fs) l.fs) n.fs) o.fs) p.fs)) Zb fun Nd fd hd ac bc=>?_;obtain⟨ta,q⟩:=sa.callG ac d;have cc:=Vb.k q;have dc:=Xb.k q;refine⟨_,_,rfl,?_⟩
 try rw[ha201.slLen]
 obtain⟨id,ec,hp⟩:=zqq hp;refine zwy (r:=Rb) (z:=Yb) (year:=((zmb .i64 which) % (z.Years.length:Int))) ta.pre (Ub.sub q.fs) bc ec fun Od fc=>?_;obtain⟨ua,va⟩:=ta.call fc d;have gc:=cc.k va;have wa:=dc.k va;refine⟨_,_,rfl,_,_,_,_,_,_,gc.bk.ra,?_⟩;obtain⟨hc,ic,hp⟩:=zqq hp;refine zwE (r:=r) ua.pre (ha105.sub (Sub.trans (Sub.trans (Sub.trans (Sub.trans (Sub.trans (Sub.trans (Sub.trans e.fs g.fs) h.fs) l.fs) n.fs) o.fs) p.fs) q.fs)) ic fun wd jd kd jc kc=>?_;obtain⟨xa,A⟩:=ua.callG jc d;have nc:=wa.k A;refine⟨_,_,_,_,_,_,rfl,_,_,nc.bk.ra,(by rw[show zaL cmC _=true from zoW (zqu rfl (zqu y.noFn zqv))]; exact(wa.bk.ra)),?_⟩;obtain⟨oc,pc,hp⟩:=zqq hp;refine zwF (z:=({ First:=z.First,Years:=((z.Years.take (Int.toNat (((zmb .i64 which) % (z.Years.length:Int))+(1:Int)))).drop (Int.toNat (0:Int))) }:Zn)) xa.pre (y.sub (Sub.trans (Sub.trans (Sub.trans (Sub.trans (Sub.trans (Sub.trans (Sub.trans (Sub.trans e.fs g.fs) h.fs) l.fs) n.fs) o.fs) p.fs) q.fs) A.fs)) pc fun xd ld md qc sc=>?_;obtain⟨ya,G⟩:=xa.callG qc d;refine⟨_,_,rfl,?_⟩
 try rw[ha201.slLen]
 obtain⟨nd,tc,hp⟩:=zqq hp;refine zwy (r:=hc) (z:=oc) (year:=((zmb .i64 which) % (z.Years.length:Int))) ya.pre (kc.sub G.fs) sc tc fun yd uc=>?_;obtain⟨s,od⟩:=ya.call uc d;refine⟨_,_,rfl,?_⟩;refine ifd hp (fun vc hp=>?_) fun vc hp=>?_; rotate_left
 ·obtain rfl:=oi hp;exact hq _ s.ext'
 refine ifd hp (fun wc hp=>?_) fun wc hp=>?_; rotate_left
 ·obtain rfl:=oi hp;exact hq _ s.ext'
 refine ifd hp (fun xc hp=>?_) fun xc hp=>?_; rotate_left
 ·obtain rfl:=oi hp;exact hq _ s.ext'
 refine ifd hp (fun yc hp=>?_) fun yc hp=>?_; rotate_left
 ·obtain rfl:=oi hp;exact hq _ s.ext'
 obtain⟨pd,zc,hp⟩:=zqq hp;refine zu3 (a:=tb.1) (b:=Mb.1) s.pre (wb.sub (Sub.trans (Sub.trans (Sub.trans (Sub.trans (Sub.trans (Sub.trans l.fs n.fs) o.fs) p.fs) q.fs) A.fs) G.fs)) (Pb.sub (Sub.trans (Sub.trans (Sub.trans p.fs q.fs) A.fs) G.fs)) zc fun zd Ac=>?_;obtain⟨B,qd⟩:=s.call Ac d;refine⟨_,rfl,?_⟩;refine zqU hp (fun Bc hp=>?_) fun Bc hp=>?_; rotate_left
 ·obtain rfl:=oi hp;exact hq _ B.ext'
 refine ifd hp (fun Cc hp=>?_) fun Cc hp=>?_; rotate_left
 ·obtain rfl:=oi hp;exact hq _ B.ext'
 obtain⟨sd,Dc,hp⟩:=zqq hp;refine zwM B.pre  Dc fun Ad Ec=>?_;obtain⟨Fc,td⟩:=B.call Ec d;refine⟨_,rfl,?_⟩;obtain rfl:=oi hp;exact hq _ Fc.ext'
def Inc(n fr:Nat)(T:List Int):Prop:=T.Pairwise (· < ·)/\∀v∈T,(fr:Int)<=v/\v < n
theorem Inc.cons{n fr:Nat}{x:Int}{T:List Int}:Inc n fr (x::T)↔((fr:Int)<=x/\x < n)/\Inc n (x+1).toNat T:=by
 unfold Inc;rw[List.pairwise_cons]
 constructor
 ·rintro⟨⟨h1,h2⟩,h3⟩
  have hx:=h3 x (List.mem_cons_self ..);exact⟨hx,h2,fun v hv=>by have:=h1 v hv; have:=h3 v (List.mem_cons_of_mem _ hv); omega⟩
 ·rintro⟨hx,h2,h3⟩
  refine⟨⟨fun v hv=>by have:=h3 v hv; omega,h2⟩,fun v hv=>?_⟩
  rcases List.mem_cons.1 hv with rfl | hv
  ·exact hx
  ·have:=h3 v hv; omega
theorem zwT{n:Nat}{D:List Int}:∀{d:Nat} {pre:List Int} {fr:Nat},D∈zrn n d pre fr↔∃T,D=pre++T/\T.length=d/\Inc n fr T
 | 0,pre,fr=>by
  show D∈[pre]↔_
  rw[List.mem_singleton]
  constructor
  ·rintro rfl; exact⟨[],by simp,rfl,.nil,fun v hv=>by cases hv⟩
  ·rintro⟨T,h1,h2,_⟩
   rw[List.eq_nil_of_length_eq_zero h2,List.append_nil] at h1; exact h1
 | d+1,pre,fr=>by
  show D∈zrm (fun x=>zrn n d (pre++[(x:Int)]) (x+1)) (n - fr) fr↔_
  rw[zvY]
  constructor
  ·rintro⟨x,h1,h2,h3⟩
   obtain⟨T,h4,h5,h6⟩:=zwT.1 h3;refine⟨(x:Int)::T,by rw[h4]; simp,by simp[h5],Inc.cons.2 ⟨by omega,?_⟩⟩;rw[show((x:Int)+1).toNat=x+1 by omega]; exact h6
  ·rintro⟨T,h1,h2,h3⟩
   cases T with
   | nil=>simp at h2
   | cons v T=>
    obtain⟨h4,h5⟩:=Inc.cons.1 h3;refine⟨v.toNat,by omega,by omega,zwT.2 ⟨T,?_,by simpa using h2,?_⟩⟩
    ·rw[show((v.toNat:Nat):Int)=v by omega,h1]; simp
    ·rw[show v.toNat+1=(v+1).toNat by omega]; exact h5
theorem zwU{n:Nat}:∀{T:List Int} {fr:Nat},Inc n fr T->T.length<=n - fr
 | [],_,_=>Nat.zero_le _
 | v::T,fr,h=>by
  obtain⟨h1,h2⟩:=Inc.cons.1 h;have:=zwU h2
  simp only[List.length_cons]
  omega
theorem zwV{n:Nat}{D:List Int}:D∈zoi n↔Inc n 0 D:=by
 unfold zoi;rw[zvY]
 constructor
 ·rintro⟨s,_,_,h⟩
  obtain⟨T,h1,_,h2⟩:=zwT.1 h;rw[h1]; exact h2
 ·intro h;have:=zwU h;exact⟨D.length,Nat.zero_le _,by omega,zwT.2 ⟨D,rfl,rfl,h⟩⟩
def inD(D:List Int)(j:Nat):Bool:=decide ((j:Int)∈D)
def bef:List Int->List Int->Bool
 | [],[]=>false
 | [],_::_=>true
 | _::_,[]=>false
 | x::a,y::b=>if x=y then bef a b else decide (x < y)
def shB(a b:List Int):Bool:=decide (a.length < b.length) || (decide (a.length=b.length) && bef a b)
theorem zwW:∀A:List Int,bef A A=false
 | []=>rfl
 | x::A=>by show(if x=x then bef A A else _)=_; rw[if_pos rfl,zwW A]
theorem zwX:∀{A B:List Int},bef A B=true->bef B A=false
 | [],[],h=>by cases h
 | [],_::_,_=>rfl
 | _::_,[],h=>by cases h
 | x::A,y::B,h=>by
  have h':(if x=y then bef A B else decide (x < y))=true:=h
  show(if y=x then bef B A else decide (y < x))=false
  by_cases hxy:x=y
  ·rw[if_pos hxy] at h'; rw[if_pos hxy.symm]; exact zwX h'
  ·rw[if_neg hxy] at h'; rw[if_neg fun h=>hxy h.symm];have:=of_decide_eq_true h';exact decide_eq_false (by omega)
theorem zwY:∀A B:List Int,A=B\/bef A B=true\/bef B A=true
 | [],[]=>.inl rfl
 | [],_::_=>.inr (.inl rfl)
 | _::_,[]=>.inr (.inr rfl)
 | x::A,y::B=>by
  show x::A=y::B\/(if x=y then bef A B else decide (x < y))=true\/(if y=x then bef B A else decide (y < x))=true
  by_cases hxy:x=y
  ·subst hxy;rw[if_pos rfl,if_pos rfl]
   rcases zwY A B with h | h | h
   ·exact .inl (by rw[h])
   ·exact .inr (.inl h)
   ·exact .inr (.inr h)
  ·rw[if_neg hxy,if_neg fun h=>hxy h.symm]
   by_cases h:x < y
   ·exact .inr (.inl (decide_eq_true h))
   ·exact .inr (.inr (decide_eq_true (by omega)))
theorem zwZ{A B:List Int}(h:shB A B=true):shB B A=false:=by
 unfold shB at h ⊢;rw[Bool.or_eq_true,Bool.and_eq_true,decide_eq_true_eq,decide_eq_true_eq] at h
 rcases h with h | ⟨h1,h2⟩
 ·rw[decide_eq_false (by omega),decide_eq_false (by omega)]; rfl
 ·rw[decide_eq_false (by omega),zwX h2]; simp
theorem zw0(x y:Int)(A B:List Int)(hxy:x < y):∀pre:List Int,bef (pre++x::A) (pre++y::B)=true
 | []=>by show(if x=y then _ else decide (x < y))=true; rw[if_neg (by omega),decide_eq_true hxy]
 | p::pre=>by show(if p=p then bef (pre++x::A) (pre++y::B) else _)=true; rw[if_pos rfl]; exact zw0 x y A B hxy pre
theorem zw1{α:Type}{R:α->α->Prop}(g:Nat->List α)(h1:∀x,(g x).Pairwise R)(h2:∀x y,x < y->∀a∈g x,∀b∈g y,R a b):∀e x,(zrm g e x).Pairwise R
 | 0,_=>.nil
 | e+1,x=>by
  show(g x++zrm g e (x+1)).Pairwise R
  rw[List.pairwise_append];refine⟨h1 x,zw1 g h1 h2 e (x+1),fun a ha b hb=>?_⟩;obtain⟨j,h3,_,h4⟩:=(zvY g b e (x+1)).1 hb;exact h2 x j (by omega) a ha b h4
theorem zw2{n:Nat}:∀(d:Nat) (pre:List Int) (fr:Nat),(zrn n d pre fr).Pairwise fun a b=>bef a b=true
 | 0,pre,fr=>List.pairwise_singleton _ _
 | d+1,pre,fr=>zw1 _ (fun x=>zw2 d _ _) (fun x y hxy a ha b hb=>by
  obtain⟨T,h1,_,_⟩:=zwT.1 ha;obtain⟨T',h2,_,_⟩:=zwT.1 hb;rw[h1,h2,List.append_assoc,List.append_assoc]
  exact zw0 _ _ _ _ (by omega) pre) _ _
theorem zw3(n:Nat):(zoi n).Pairwise fun a b=>shB a b=true:=
 zw1 _ (fun s=>(zw2 s [] 0).imp_of_mem fun {a b} ha hb hab=>by
  have h1:=zv6 ha;have h2:=zv6 hb;unfold shB
  rw[hab,decide_eq_true (show a.length=b.length by omega)]; simp) (fun s s' hs a ha b hb=>by
  have h1:=zv6 ha;have h2:=zv6 hb;unfold shB
  rw[decide_eq_true (by omega)]; rfl) _ _
theorem zw4{t:List Int->Bool}:∀{l:List (List Int)},l.Pairwise (fun a b=>shB a b=true)->∀{D D':List Int},l.find? t=some D->D'∈l->t D'=true->D'=D\/shB D D'=true
 | [],_,_,_,h,_,_=>by cases h
 | a::l,hp,D,D',h,hm,ht=>by
  rw[List.pairwise_cons] at hp;rw[List.find?_cons] at h
  cases hta:t a with
  | true=>
   rw[hta] at h;have:a=D:=oi h;subst this
   rcases List.mem_cons.1 hm with rfl | h1
   ·exact .inl rfl
   ·exact .inr (hp.1 _ h1)
  | false=>
   rw[hta] at h
   rcases List.mem_cons.1 hm with rfl | h1
   ·rw[hta] at ht; cases ht
   ·exact zw4 hp.2 h h1 ht
theorem zw5{n:Nat}{t:List Int->Bool}(h:∃D,Inc n 0 D/\t D=true):Inc n 0 (zro n t)/\t (zro n t)=true/\∀D,Inc n 0 D->t D=true->D=zro n t\/shB (zro n t) D=true:=by
 obtain⟨D0,h1,h2⟩:=h;unfold zro
 cases hf:(zoi n).find? t with
 | none=>exact absurd h2 (by have:=List.find?_eq_none.1 hf D0 (zwV.2 h1); simpa using this)
 | some D=>exact⟨zwV.1 (List.mem_of_find?_eq_some hf),List.find?_some hf,fun D' h3 h4=>zw4 (zw3 n) hf (zwV.2 h3) h4⟩
theorem zw6:∀{A B:List Int},A.Pairwise (· < ·)->B.Pairwise (· < ·)->(∀v,v∈A↔v∈B)->A=B
 | [],[],_,_,_=>rfl
 | [],b::B,_,_,h=>by have:=(h b).2 (List.mem_cons_self ..); cases this
 | a::A,[],_,_,h=>by have:=(h a).1 (List.mem_cons_self ..); cases this
 | a::A,b::B,hA,hB,h=>by
  rw[List.pairwise_cons] at hA hB
  have hab:a=b:=by
   rcases List.mem_cons.1 ((h a).1 (List.mem_cons_self ..)) with h1 | h1
   ·exact h1
   ·rcases List.mem_cons.1 ((h b).2 (List.mem_cons_self ..)) with h2 | h2
    ·exact h2.symm
    ·have:=hA.1 _ h2; have:=hB.1 _ h1; omega
  subst hab
  congr 1
  refine zw6 hA.2 hB.2 fun v=>?_;have hv:=h v;rw[List.mem_cons,List.mem_cons] at hv
  constructor
  ·intro h1
   rcases hv.1 (.inr h1) with h2 | h2
   ·have:=hA.1 _ h1; omega
   ·exact h2
  ·intro h1
   rcases hv.2 (.inr h1) with h2 | h2
   ·have:=hB.1 _ h1; omega
   ·exact h2
theorem zw7{S β:Type}{n:Nat}(F:Nat->S->Int->Option β)(st:Nat->S){fin:Option β}(hstep:∀d k,k < n->F (d+1) (st k) (k:Int)=F d (st (k+1)) ((k:Int)+1))(hend:∀d,F (d+1) (st n) (n:Int)=fin) :
  ∀d k,k<=n->n - k < d->F d (st k) (k:Int)=fin
 | 0,k,_,h=>by omega
 | d+1,k,hk,h=>by
  by_cases hkn:k=n
  ·subst hkn; exact hend d
  ·rw[hstep d k (by omega),show(k:Int)+1=((k+1:Nat):Int) by omega];exact zw7 F st hstep hend d (k+1) (by omega) (by omega)
theorem wu{n:Nat}(h:n<=64):zmb .u64 (n:Int)=(n:Int):=wz (show(0:Int)<=n/\(n:Int) < 18446744073709551616 by omega)
def RgP(r:Rg):Prop:=0<=r.Lo/\r.Lo<=r.Hi/\r.Hi<=10000/\r.Hi - r.Lo<=5
def zw8(y:Yr):Prop:=RgP y.Losses/\RgP y.Premiums/\0<=y.Parcels/\y.Parcels<=100
def zw9(l:List Int)(j:Nat):Prop:=0 < j->∀x y,l[j]? = some x->l[j - 1]? = some y->¬ x < y
structure zxa (r:Rl):Prop where
 c0:1<=r.Classes
 pl:(r.Price.length:Int)=r.Classes
 gb:0<=r.Good/\r.Good<=r.Bad/\r.Bad<=300
 rest:0<=r.Rest/\r.Rest<=4
 few:0<=r.Fewest/\r.Fewest<=100
 pr:∀x∈r.Price,1<=x/\x<=10000
 so:∀j,j < r.Price.length->zw9 r.Price j
structure zxb (r:Rl) (z:Zn):Prop where
 rl:zxa r
 first:0<=z.First/\z.First<=r.Classes - 1
 ys:∀y∈z.Years,zw8 y
def zxc(r:Rl)(z:Zn):Prop:=6 < r.Classes\/6 < z.Years.length
open Classical in
def zxd(r:Rl)(z:Zn):Int:=if zxc r z then 3 else if zxb r z then 0 else 1
structure VZ (r:Rl) (z:Zn):Prop where
 full:zxb r z
 c6:r.Classes<=6
 y6:z.Years.length<=6
theorem zxe{r:Rl}{z:Zn}:zxd r z=0↔VZ r z:=by
 unfold zxd
 by_cases h:zxc r z
 ·rw[if_pos h]; exact⟨fun h=>by omega,fun h2=>by have:=h2.c6; have:=h2.y6; unfold zxc at h; omega⟩
 ·rw[if_neg h];unfold zxc at h
  by_cases hf:zxb r z
  ·rw[if_pos hf]; exact⟨fun _=>⟨hf,by omega,by omega⟩,fun _=>rfl⟩
  ·rw[if_neg hf]; exact⟨fun h=>by omega,fun h=>absurd h.full hf⟩
theorem zxf{r:Rg}{n:Int}:Ev (zsF r n) (r.Lo<=n/\n<=r.Hi):=Ev.ite fun _=>Ev.dec Iff.rfl
theorem zxg{a b:Int}{r:Rg}:Ev (zsG { Lo:=a,Hi:=b } r) (a<=r.Lo/\r.Lo<=r.Hi/\r.Hi<=b):=Ev.ite fun _=>Ev.ite fun _=>Ev.dec Iff.rfl
theorem gI{l:List Int}{p:Int->Option Bool}:∀{d:Nat} {x:Int},zsR l p d x=gIdx l p d x
 | 0,_=>rfl
 | d+1,x=>by unfold zsR gIdx; simp only[gI]
theorem gY{l:List Yr}{p:Yr->Option Bool}:∀{d:Nat} {x:Int},zsW l p d x=gIdx l p d x
 | 0,_=>rfl
 | d+1,x=>by unfold zsW gIdx; simp only[gY]
theorem zxh{l:Lm}{r:Rg}(h1:l.pence=⟨0,10000⟩)(h2:l.wide=⟨0,5⟩):Ev (zs0 l r) (RgP r):=by
 unfold zs0;rw[h1,h2];refine(zxg.and fun hc=>Ev.gd (fI (by omega)) zxf.ret).imp ?_;unfold RgP
 show(_/\_/\_)/\((0:Int)<=r.Hi - r.Lo/\r.Hi - r.Lo<=5)↔_
 omega
theorem zxi{y:Yr}:Ev (zs1 { pence:=⟨0,10000⟩,wide:=⟨0,5⟩,parcels:=⟨0,100⟩ } y) (zw8 y):=
 ((zxh rfl rfl).and fun _=>(zxh rfl rfl).and fun _=>zxf.ret).imp Iff.rfl
theorem zxj{x y:Int}:zsN x y=some (decide (x < y)):=by
 unfold zsN zsM;rw[obs,if_neg (by simp)]
theorem zxk{l:List Int}(hl:zrH l):∀(d i:Nat),i < l.length->i < d->Ev (zsO l d (i:Int)) (∀j,j<=i->zw9 l j)
 | 0,_,_,h=>by omega
 | d+1,i,hi,hd=>by
  unfold zrH at hl;unfold zsO
  cases i with
  | zero=>
   rw[if_neg (by omega)]
   exact Ev.tt fun j hj h0=>by omega
  | succ i=>
   have hg:=List.getElem?_eq_getElem hi;have hg0:=List.getElem?_eq_getElem (show i < l.length by omega)
   have e:((i+1:Nat):Int) - 1=(i:Int):=by omega
   rw[if_pos (by omega),zrx hg,obs,e,zqs (fI (by omega)),zrx hg0,obs,zxj,obs];have hso:zw9 l (i+1)↔¬ l[i+1] < l[i]:=⟨fun h=>h (by omega) _ _ hg hg0,fun h _ x y hx hy=>by rw[hg] at hx; have hy:l[i]? = some y:=hy; rw[hg0] at hy; cases hx; cases hy; exact h⟩
   by_cases hc:l[i+1] < l[i]
   ·rw[decide_eq_true hc,if_pos rfl];exact Ev.ff fun h=>(hso.1 (h _ (Nat.le_refl _))) hc
   ·rw[decide_eq_false hc,if_neg (by decide),zqs (fI (by omega))]
    exact(zxk hl d i (by omega) (by omega)).imp ⟨fun h j hj=>by
     rcases Nat.lt_or_eq_of_le hj with h1 | h1
     ·exact h j (by omega)
     ·subst h1; exact hso.2 hc,fun h j hj=>h j (by omega)⟩
theorem zxl{l:List Int}(hl:l.length<=1000):Ev (zsP l) (∀j,j < l.length->zw9 l j):=by
 unfold zsP;refine Ev.gd (fI (by omega)) ?_
 cases hn:l.length with
 | zero=>
  show Ev (zsO l (999999+1) _) _
  rw[zsO,if_neg (by omega)]
  exact Ev.tt fun j hj=>by omega
 | succ n=>
  rw[show((n+1:Nat):Int) - 1=(n:Int) by omega];exact(zxk (zrI hl (by omega)) 1000000 n (by omega) (by omega)).imp ⟨fun h j hj=>h j (by omega),fun h j hj=>h j (by omega)⟩
theorem zxm{r:Rl}(hl:r.Price.length<=1000):Ev (zs2 r) ((r.Price.length:Int)=r.Classes/\(∀x∈r.Price,1<=x/\x<=10000)/\∀j,j < r.Price.length->zw9 r.Price j):=by
 unfold zs2;exact Ev.ite fun _=>(Ev.each (q:=fun x=>1<=x/\x<=10000) (fun a _=>zxf) (by omega) gI).and fun _=>(zxl hl).ret
theorem zxn{r:Rl}(hl:r.Price.length<=1000):Ev (zs3 r) (zxa r):=by
 unfold zs3;refine(Ev.ite fun _=>(zxg (a:=0) (b:=300) (r:=⟨r.Good,r.Bad⟩)).and fun _=>(zxf (r:=⟨0,4⟩) (n:=r.Rest)).and fun _=>(zxf (r:=⟨0,100⟩) (n:=r.Fewest)).and fun _=>(zxm hl).ret).imp ?_;exact⟨fun⟨a,b,c,d,e,f,g⟩=>⟨by omega,e,b,c,d,f,g⟩,fun⟨a,b,c,d,e,f,g⟩=>⟨by omega,c,d,e,b,f,g⟩⟩
theorem zxo{r:Rl}{z:Zn}(hz:z.Years.length<=1000)(hr:zxa r)(hl:r.Price.length<=1000):Ev (zs5 r z) ((0<=z.First/\z.First<=r.Classes - 1)/\∀y∈z.Years,zw8 y):=by
 unfold zs5 zs4;have:=hr.pl;have:=hr.c0
 show Ev ((gd (zl6 .i64 (r.Classes - 1)) _).bind _) _
 rw[zqs (fI (by omega))];refine(show Ev ((zsF ⟨0,r.Classes - 1⟩ z.First).bind fun r=>some r) (0<=z.First/\z.First<=r.Classes - 1) from zxf.ret).and fun _=>(Ev.each (q:=zw8) (fun a _=>zxi) (by omega) gY).ret
theorem zxp{r:Rl}{z:Zn}(h1:r.Price.length<=1000)(h2:z.Years.length<=1000):zs9 r z=some (zxd r z):=by
 unfold zs9 zxd zxc
 by_cases c1:6 < r.Classes
 ·rw[if_pos c1,if_pos (.inl c1)]
 rw[if_neg c1]
 by_cases c2:6 < z.Years.length
 ·rw[if_pos (by omega),if_pos (.inr c2)]
 rw[if_neg (by omega),if_neg (show ¬ (6 < r.Classes\/6 < z.Years.length) by omega)]
 refine(zxn h1).pick (fun h=>?_) fun h=>by rw[if_neg (by decide),if_neg fun h'=>h h'.rl]
 rw[if_pos rfl]
 refine(zxo h2 h h1).pick (fun h'=>?_) fun h'=>by rw[if_neg (by decide),if_neg fun h9=>h' ⟨h9.first,h9.ys⟩]
 rw[if_pos rfl,if_pos ⟨h,h'.1,h'.2⟩]
theorem zxq{n lo hi:Int}:Ev (zsb n lo hi) (lo<=n/\n<=hi):=Ev.ite fun _=>Ev.dec Iff.rfl
theorem zxr{r:Rg}:Ev (zsc r) (RgP r):=by
 unfold zsc;exact Ev.ite fun _=>Ev.ite fun _=>Ev.ite fun _=>Ev.gd (fI (by omega)) (Ev.dec Iff.rfl)
theorem zxs{r:Rl}{z:Zn}(h1:r.Price.length<=1000)(h2:z.Years.length<=1000):zse r z=some (zxd r z):=by
 unfold zse zxd zxc
 by_cases c1:6 < r.Classes
 ·rw[if_pos c1,if_pos (.inl c1)]
 rw[if_neg c1]
 by_cases c2:6 < z.Years.length
 ·rw[if_pos (by omega),if_pos (.inr c2)]
 rw[if_neg (by omega),if_neg (show ¬ (6 < r.Classes\/6 < z.Years.length) by omega)]
 by_cases c3:r.Classes < 1
 ·rw[if_pos c3,if_neg fun h=>by have:=h.rl.c0; omega]
 rw[if_neg c3]
 by_cases c4:(r.Price.length:Int)=r.Classes
 rotate_left
 ·rw[if_neg c4,if_neg fun h=>c4 h.rl.pl]
 rw[if_pos c4]
 refine zxq.pick (fun c5=>?_) fun c5=>by rw[if_neg (by decide),if_neg fun h=>c5 ⟨h.rl.gb.1,h.rl.gb.2.1⟩]
 rw[if_pos rfl]
 by_cases c6:300 < r.Bad
 ·rw[if_pos c6,if_neg fun h=>by have:=h.rl.gb; omega]
 rw[if_neg c6]
 refine zxq.pick (fun c7=>?_) fun c7=>by rw[if_neg (by decide),if_neg fun h=>c7 h.rl.rest]
 rw[if_pos rfl]
 refine zxq.pick (fun c8=>?_) fun c8=>by rw[if_neg (by decide),if_neg fun h=>c8 h.rl.few]
 rw[if_pos rfl,zqs (fI (by omega))]
 refine zxq.pick (fun c9=>?_) fun c9=>by rw[if_neg (by decide),if_neg fun h=>c9 h.first]
 rw[if_pos rfl]
 have kY:=zrG (l:=z.Years) (F:=fun d x=>prFault_L1 z d x) (ok:=zw8) (bad:=some 1) (fin:=some 0) (fun d k a hk=>by
  have hkl:=(List.getElem?_eq_some_iff.1 hk).1
  show(zw8 a->prFault_L1 z (d+1) (k:Int)=_)/\(¬ zw8 a->prFault_L1 z (d+1) (k:Int)=_)
  rw[prFault_L1,if_pos (by omega),zrx hk,obs];refine⟨fun h=>?_,fun h=>?_⟩
  ·rw[zxr.some_of h.1,obs,if_pos rfl,zxr.some_of h.2.1,obs,if_pos rfl,zxq.some_of h.2.2,obs,if_pos rfl,zqs (fI (by omega))]
  ·refine zxr.pick (fun a1=>?_) fun _=>by rw[if_neg (by decide)]
   rw[if_pos rfl]
   refine zxr.pick (fun a2=>?_) fun _=>by rw[if_neg (by decide)]
   rw[if_pos rfl]
   refine zxq.pick (fun a3=>absurd ⟨a1,a2,a3⟩ h) fun _=>by rw[if_neg (by decide)]) (fun d=>by show prFault_L1 z (d+1) _=_; rw[prFault_L1,if_neg (Int.lt_irrefl _)]) (d:=1000000) (by omega)
 have kP:=zrB (n:=r.Price.length) (F:=fun d x=>zsd r z d 0 x) (ok:=fun j=>(∀x,r.Price[j]? = some x->1<=x/\x<=10000)/\zw9 r.Price j) (bad:=some 1) (fin:=prFault_L1 z 1000000 0) (fun d k hk=>by
  have hg:=List.getElem?_eq_getElem hk;have hk':=hk
  show(_->zsd r z (d+1) 0 (k:Int)=_)/\(_->zsd r z (d+1) 0 (k:Int)=_)
  rw[zsd,if_pos (by omega),zrx hg,obs];have e1:(∀x,r.Price[k]? = some x->1<=x/\x<=10000)↔(1<=r.Price[k]/\r.Price[k]<=10000):=⟨fun h=>h _ hg,fun h x hx=>by rw[hg] at hx; cases hx; exact h⟩;rw[e1]
  by_cases q1:1<=r.Price[k]/\r.Price[k]<=10000
  rotate_left
  ·rw[zxq.some_not q1,obs,if_neg (by decide)];exact⟨fun h=>absurd h.1 q1,fun _=>rfl⟩
  rw[zxq.some_of q1,obs,if_pos rfl]
  cases k with
  | zero=>
   rw[if_neg (by omega),zqs (fI (by omega))];exact⟨fun _=>rfl,fun h=>absurd ⟨q1,fun h0=>by omega⟩ h⟩
  | succ i=>
   have hg0:=List.getElem?_eq_getElem (show i < r.Price.length by omega)
   have e:((i+1:Nat):Int) - 1=(i:Int):=by omega
   rw[if_pos (by omega),obs,e,zqs (fI (by omega)),zrx hg0,obs];have hso:zw9 r.Price (i+1)↔¬ r.Price[i+1] < r.Price[i]:=⟨fun h=>h (by omega) _ _ hg hg0,fun h _ x y hx hy=>by rw[hg] at hx; have hy:r.Price[i]? = some y:=hy; rw[hg0] at hy; cases hx; cases hy; exact h⟩
   by_cases hc:r.Price[i+1] < r.Price[i]
   ·rw[if_pos hc]; exact⟨fun h=>absurd hc (hso.1 h.2),fun _=>rfl⟩
   ·rw[if_neg hc,zqs (fI (by omega))]; exact⟨fun _=>rfl,fun h=>absurd ⟨q1,hso.2 hc⟩ h⟩) (fun d=>by show zsd r z (d+1) 0 _=_; rw[zsd,if_neg (Int.lt_irrefl _)]) (d:=1000000) (by omega)
 by_cases q:∀j,j < r.Price.length->(∀x,r.Price[j]? = some x->1<=x/\x<=10000)/\zw9 r.Price j
 rotate_left
 ·have:=kP.2 q;have this:zsd r z 1000000 0 0=some 1:=this;rw[this,if_neg fun h=>q fun j hj=>⟨fun x hx=>h.rl.pr x (List.mem_of_getElem? hx),h.rl.so j hj⟩]
 have e:=kP.1 q;have e:zsd r z 1000000 0 0=prFault_L1 z 1000000 0:=e;rw[e]
 have hrl:zxa r:=⟨by omega,c4,⟨c5.1,c5.2,by omega⟩,c7,c8,fun x hx=>by
  obtain⟨i,hi⟩:=List.mem_iff_getElem?.1 hx
  exact(q i (List.getElem?_eq_some_iff.1 hi).1).1 x hi,fun j hj=>(q j hj).2⟩
 by_cases qy:∀y∈z.Years,zw8 y
 ·rw[if_pos ⟨hrl,c9,qy⟩]; exact kY.1 qy
 ·rw[if_neg fun h=>qy h.ys]; exact kY.2 qy
end
end Go.Proofs.Ytlpjlgmoaipoiaa

namespace Go.Proofs.Ytlpjlgmoaipoiaa
open _root_.Go.Proofs.Try
open Go.Abs
set_option maxRecDepth 100000
noncomputable section
def zxt(r:Rl)(y:Yr):Bool:=!y.Exempt && decide (r.Fewest<=y.Parcels)
def kN(r:Rl)(y:Yr)(l p:Int):Int:=if zxt r y=true then (if l * 100 < p * r.Good then 1 else if p * r.Bad < l * 100 then 2 else 3) else 0
theorem zxu{r:Rl}{y:Yr}:ztf r y=some (zxt r y):=by
 unfold ztf zxt
 cases y.Exempt <;> simp
theorem zxv{r:Rl}{y:Yr}:zsf r y=some (zxt r y):=zxu
theorem zxw(r:Rl)(y:Yr)(l p:Int):0<=kN r y l p/\kN r y l p < 4:=by
 unfold kN
 split
 ·split
  ·omega
  ·split <;> omega
 ·omega
theorem zxx{r:Rl}{y:Yr}{l p:Int}:kN r y l p=0↔zxt r y=false:=by
 unfold kN
 cases zxt r y with
 | true=>
  rw[if_pos rfl]
  constructor
  ·intro h; split at h
   ·omega
   ·split at h <;> omega
  ·intro h; cases h
 | false=>simp
theorem zxy{a b:Int}(h1:0<=a/\a<=10000)(h2:0<=b/\b<=300):0<=a * b/\a * b<=3000000:=
 ⟨Int.mul_nonneg h1.1 h2.1,by have:a * b<=10000 * 300:=Int.mul_le_mul h1.2 h2.2 h2.1 (by omega); omega⟩
theorem zxz{r:Rl}(h:zxa r){y:Yr}{l p:Int}(hl:0<=l/\l<=10000)(hp:0<=p/\p<=10000):ztg r y l p=some (kN r y l p):=by
 have hg:=h.gb;have m1:=zxy hp (b:=r.Good) (by omega);have m2:=zxy hp (b:=r.Bad) (by omega);unfold ztg kN;rw[zxu,obs]
 by_cases hc:zxt r y=true
 rotate_left
 ·rw[if_neg hc,if_neg hc]
 rw[if_pos hc,if_pos hc,zqs hl.1,zqs (by omega),zqs (fI (by omega)),zqs hp.1,zqs (by omega),zqs (fI (by omega))]
 by_cases h1:l * 100 < p * r.Good
 ·rw[if_pos h1,if_pos h1]
 ·rw[if_neg h1,if_neg h1,zqs hl.1,zqs (by omega),zqs (fI (by omega)),zqs hp.1,zqs (by omega),zqs (fI (by omega))]
  split <;> rfl
theorem zxA{r:Rl}(h:zxa r){y:Yr}{l p:Int}(hl:0<=l/\l<=10000)(hp:0<=p/\p<=10000):zsg r y l p=some (kN r y l p):=zxz h hl hp
def mkP(f:Nat->Bool):P4:=⟨f 0,f 1,f 2,f 3⟩
def upF{α:Type}(f:Nat->α)(k:Nat)(a:α):Nat->α:=fun j=>if j=k then a else f j
theorem zxB{α:Type}(f:Nat->α){i:Int}(hi:0<=i)(a:α)(j:Nat):sti i j a (f j)=upF f i.toNat a j:=by
 unfold sti upF
 by_cases h:j=i.toNat
 ·rw[if_pos h,if_pos (by omega)]
 ·rw[if_neg h,if_neg (by omega)]
theorem zxC(f:Nat->Bool)(i k:Nat):upF f i true k=true↔f k=true\/i=k:=by
 unfold upF
 by_cases h:k=i
 ·rw[if_pos h]; exact⟨fun _=>.inr h.symm,fun _=>rfl⟩
 ·rw[if_neg h]; exact⟨.inl,fun h'=>h'.elim id fun h2=>absurd h2.symm h⟩
theorem zxD{f g:Nat->Bool}(h:∀k,k < 4->(f k=true↔g k=true)):mkP f=mkP g:=by
 have e:∀k,k < 4->f k=g k:=fun k hk=>Bool.eq_iff_iff.2 (h k hk);unfold mkP;rw[e 0 (by omega),e 1 (by omega),e 2 (by omega),e 3 (by omega)]
def zxE(r:Rg):List Int:=segI r.Lo (r.Hi - r.Lo+1).toNat
def kB(r:Rl)(y:Yr)(k:Nat):Bool:=(zxE y.Losses).any fun l=>(zxE y.Premiums).any fun p=>kN r y l p == (k:Int)
def zxF(r:Rl)(y:Yr)(k:Int):Prop:=∃l p,(y.Losses.Lo<=l/\l<=y.Losses.Hi)/\(y.Premiums.Lo<=p/\p<=y.Premiums.Hi)/\kN r y l p=k
theorem zxG{r:Rg}{x:Int}:x∈zxE r↔r.Lo<=x/\x<=r.Hi:=by
 unfold zxE;rw[zrQ]
 omega
theorem zxH{r:Rl}{y:Yr}{k:Nat}:kB r y k=true↔zxF r y (k:Int):=by
 unfold kB zxF;rw[List.any_eq_true]
 constructor
 ·rintro⟨l,hl,h⟩
  obtain⟨p,hp,h⟩:=List.any_eq_true.1 h;exact⟨l,p,zxG.1 hl,zxG.1 hp,of_decide_eq_true h⟩
 ·rintro⟨l,p,hl,hp,h⟩
  exact⟨l,zxG.2 hl,List.any_eq_true.2 ⟨p,zxG.2 hp,decide_eq_true h⟩⟩
theorem zxI{r:Rl}(h:zxa r){y:Yr}:∀(l:List (List Int)) (f:Nat->Bool),(∀a∈l,∃x p,a=[x,p]/\(0<=x/\x<=10000)/\0<=p/\p<=10000) ->
  ∃g:Nat->Bool,pwithin_L0 r y l (f 0) (f 1) (f 2) (f 3)=some (mkP g)/\∀k,g k=true↔f k=true\/∃x p,[x,p]∈l/\kN r y x p=(k:Int)
 | [],f,_=>⟨f,rfl,fun k=>⟨.inl,fun h=>h.elim id fun⟨_,_,h,_⟩=>by cases h⟩⟩
 | a::l,f,hl=>by
  obtain⟨x,p,rfl,hx,hp⟩:=hl a (List.mem_cons_self ..);have hb:=zxw r y x p;obtain⟨g,h1,h2⟩:=zxI h (y:=y) l (upF f (kN r y x p).toNat true) fun b hb=>hl b (List.mem_cons_of_mem _ hb);refine⟨g,?_,fun k=>(h2 k).trans ?_⟩
  ·unfold pwithin_L0;rw[show idx [x,p] 0=some x from rfl,obs,show idx [x,p] 1=some p from rfl,obs,zxz h hx hp,obs,zqs ⟨hb.1,hb.2⟩,zxB f hb.1,zxB f hb.1,zxB f hb.1,zxB f hb.1];exact h1
  ·rw[zxC]
   constructor
   ·rintro ((h3 | h3) | ⟨x',p',h3,h4⟩)
    ·exact .inl h3
    ·exact .inr ⟨x,p,List.mem_cons_self ..,by omega⟩
    ·exact .inr ⟨x',p',List.mem_cons_of_mem _ h3,h4⟩
   ·rintro (h3 | ⟨x',p',h3,h4⟩)
    ·exact .inl (.inl h3)
    ·rcases List.mem_cons.1 h3 with h5 | h5
     ·injection h5 with e1 e2
      injection e2 with e2 _
      subst e1 e2;exact .inl (.inr (by omega))
     ·exact .inr ⟨x',p',h5,h4⟩
theorem zxJ{a b:Rg}{x p:Int}:[x,p]∈chW [a,b] []↔(a.Lo<=x/\x<=a.Hi)/\b.Lo<=p/\p<=b.Hi:=by
 show[x,p]∈zrm (fun n=>zrm (fun m=>[([]++[a.Lo+(n:Int)])++[b.Lo+(m:Int)]]) (szR b).toNat 0) (szR a).toNat 0↔_
 rw[zvY];unfold szR
 constructor
 ·rintro⟨n,_,hn,h⟩
  rw[zvY] at h;obtain⟨m,_,hm,h⟩:=h;have h:=List.mem_singleton.1 h
  injection h with e1 e2
  injection e2 with e2 _
  omega
 ·intro h;refine⟨(x - a.Lo).toNat,by omega,by omega,(zvY _ _ _ _).2 ⟨(p - b.Lo).toNat,by omega,by omega,List.mem_singleton.2 ?_⟩⟩;rw[show a.Lo+((x - a.Lo).toNat:Int)=x by omega,show b.Lo+((p - b.Lo).toNat:Int)=p by omega]; rfl
theorem zxK{a b:Rg}{l:List Int}(h:l∈chW [a,b] []):∃x p,l=[x,p]:=by
 have h:l∈zrm (fun n=>zrm (fun m=>[([]++[a.Lo+(n:Int)])++[b.Lo+(m:Int)]]) (szR b).toNat 0) (szR a).toNat 0:=h;rw[zvY] at h;obtain⟨n,_,hn,h⟩:=h;rw[zvY] at h;obtain⟨m,_,hm,h⟩:=h;exact⟨_,_,List.mem_singleton.1 h⟩
theorem zxL{r:Rl}(h:zxa r){y:Yr}(hy:zw8 y):ztP r y=some (mkP (kB r y)):=by
 obtain⟨h1,h2,_⟩:=hy;unfold RgP at h1 h2;unfold ztP ztM
 rw[zqs ⟨by simp,fun a ha=>by
  unfold okR
  rcases List.mem_cons.1 ha with rfl | ha
  ·omega
  ·rw[List.mem_singleton.1 ha]; omega⟩,obs]
 obtain⟨g,e1,e2⟩:=zxI h (y:=y) (chW [y.Losses,y.Premiums] []) (fun _=>false) fun a ha=>by
  obtain⟨x,p,rfl⟩:=zxK ha;have:=zxJ.1 ha;exact⟨x,p,rfl,by omega,by omega⟩
 have e1:pwithin_L0 r y (chW [y.Losses,y.Premiums] []) false false false false=some (mkP g):=e1;rw[e1]
 congr 1
 refine zxD fun k _=>(e2 k).trans ?_;rw[zxH];unfold zxF
 constructor
 ·rintro (h3 | ⟨x,p,h3,h4⟩)
  ·cases h3
  ·exact⟨x,p,(zxJ.1 h3).1,(zxJ.1 h3).2,h4⟩
 ·rintro⟨x,p,h3,h4,h5⟩
  exact .inr ⟨x,p,zxJ.2 ⟨h3,h4⟩,h5⟩
theorem zxM{r:Rl}(h:zxa r){y:Yr}(hy:RgP y.Premiums){x:Int}(hx:0<=x/\x<=10000){K:Bool->Bool->Bool->Bool->Int->Option P4}:∀(n d:Nat) (p:Int) (f:Nat->Bool),(n:Int)=y.Premiums.Hi+1 - p->y.Premiums.Lo<=p->n < d ->
  ∃g:Nat->Bool,zsm r y x K d (f 0) (f 1) (f 2) (f 3) p=K (g 0) (g 1) (g 2) (g 3) (x+1)/\∀k,g k=true↔f k=true\/∃q,(p<=q/\q<=y.Premiums.Hi)/\kN r y x q=(k:Int)
 | 0,0,_,_,_,_,h=>by omega
 | 0,d+1,p,f,hn,hp,_=>by
  refine⟨f,?_,fun k=>⟨.inl,fun h=>h.elim id fun⟨q,h1,_⟩=>by omega⟩⟩;rw[zsm,if_neg (by omega),zqs (fI (by omega))]
 | n+1,0,_,_,_,_,h=>by omega
 | n+1,d+1,p,f,hn,hp,hd=>by
  unfold RgP at hy;have hb:=zxw r y x p;obtain⟨g,h1,h2⟩:=zxM h (by unfold RgP; exact hy) hx (K:=K) n d (p+1) (upF f (kN r y x p).toNat true) (by omega) (by omega) (by omega);refine⟨g,?_,fun k=>(h2 k).trans ?_⟩
  ·rw[zsm,if_pos (by omega),zxA h hx (by omega),obs,zqs ⟨hb.1,hb.2⟩,zqs (fI (by omega)),zxB f hb.1,zxB f hb.1,zxB f hb.1,zxB f hb.1];exact h1
  ·rw[zxC]
   constructor
   ·rintro ((h3 | h3) | ⟨q,h3,h4⟩)
    ·exact .inl h3
    ·exact .inr ⟨p,by omega,by omega⟩
    ·exact .inr ⟨q,by omega,h4⟩
   ·rintro (h3 | ⟨q,h3,h4⟩)
    ·exact .inl (.inl h3)
    ·by_cases hq:q=p
     ·subst hq; exact .inl (.inr (by omega))
     ·exact .inr ⟨q,by omega,h4⟩
theorem zxN{r:Rl}(h:zxa r){y:Yr}(hy1:RgP y.Losses)(hy:RgP y.Premiums):∀(n d:Nat) (x:Int) (f:Nat->Bool),(n:Int)=y.Losses.Hi+1 - x->y.Losses.Lo<=x->n < d ->
  ∃g:Nat->Bool,zsn r y d (f 0) (f 1) (f 2) (f 3) x=some (mkP g)/\∀k,g k=true↔f k=true\/∃l p,(x<=l/\l<=y.Losses.Hi)/\(y.Premiums.Lo<=p/\p<=y.Premiums.Hi)/\kN r y l p=(k:Int)
 | 0,0,_,_,_,_,h=>by omega
 | 0,d+1,p,f,hn,hp,_=>by
  refine⟨f,?_,fun k=>⟨.inl,fun h=>h.elim id fun⟨q,_,h1,_⟩=>by omega⟩⟩;rw[zsn,if_neg (by omega)]; rfl
 | n+1,0,_,_,_,_,h=>by omega
 | n+1,d+1,x,f,hn,hx,hd=>by
  have hy1':=hy1;have hy':=hy;unfold RgP at hy1' hy';obtain⟨g,h1,h2⟩:=zxM h hy (x:=x) (by omega) (K:=zsn r y d) (y.Premiums.Hi+1 - y.Premiums.Lo).toNat 1000000 y.Premiums.Lo f (by omega) (by omega) (by omega);obtain⟨g2,h3,h4⟩:=zxN h hy1 hy n d (x+1) g (by omega) (by omega) (by omega);refine⟨g2,?_,fun k=>(h4 k).trans ?_⟩
  ·rw[zsn,if_pos (by omega),h1]; exact h3
  ·rw[h2]
   constructor
   ·rintro ((h5 | ⟨q,h5,h6⟩) | ⟨l,p,h5,h6,h7⟩)
    ·exact .inl h5
    ·exact .inr ⟨x,q,by omega,h5,h6⟩
    ·exact .inr ⟨l,p,by omega,h6,h7⟩
   ·rintro (h5 | ⟨l,p,h5,h6,h7⟩)
    ·exact .inl (.inl h5)
    ·by_cases hq:l=x
     ·subst hq; exact .inl (.inr ⟨p,h6,h7⟩)
     ·exact .inr ⟨l,p,by omega,h6,h7⟩
theorem zxO{r:Rl}(h:zxa r){y:Yr}(hy:zw8 y):zso r y=some (mkP (kB r y)):=by
 obtain⟨h1,h2,_⟩:=hy;have h1':=h1;unfold RgP at h1';unfold zso;obtain⟨g,e1,e2⟩:=zxN h h1 h2 (y.Losses.Hi+1 - y.Losses.Lo).toNat 1000000 y.Losses.Lo (fun _=>false) (by omega) (by omega) (by omega);have e1:zsn r y 1000000 false false false false y.Losses.Lo=some (mkP g):=e1;rw[e1]
 congr 1
 refine zxD fun k _=>(e2 k).trans ?_;rw[zxH];unfold zxF;exact⟨fun h=>h.elim (fun h=>by cases h) id,.inr⟩
def step(r:Rl)(k:Int)(s:Stt):Stt:=if k=2 then ⟨min (s.cls+1) (r.Classes - 1),0⟩ else if k=1 then ⟨if s.since=r.Rest then max 0 (s.cls - 1) else s.cls,min (s.since+1) r.Rest⟩ else if k=3 then ⟨s.cls,min (s.since+1) r.Rest⟩ else s
def SOk(r:Rl)(s:Stt):Prop:=(0<=s.cls/\s.cls<=r.Classes - 1)/\0<=s.since/\s.since<=r.Rest
theorem zxP{r:Rl}(h:zxa r)(k:Int){s:Stt}(hs:SOk r s):SOk r (step r k s):=by
 have h1:=h.rest;have h2:=h.c0;unfold SOk at hs;unfold step SOk
 split
 ·exact⟨⟨by show(0:Int)<=min _ _; omega,by show min _ _<=_; omega⟩,by show(0:Int)<=0; omega,by show(0:Int)<=_; omega⟩
 ·split
  ·refine⟨?_,by show(0:Int)<=min _ _; omega,by show min _ _<=_; omega⟩
   show 0<=(if s.since=r.Rest then max 0 (s.cls - 1) else s.cls)/\(if s.since=r.Rest then max 0 (s.cls - 1) else s.cls)<=r.Classes - 1
   split <;> omega
  ·split
   ·exact⟨hs.1,by show(0:Int)<=min _ _; omega,by show min _ _<=_; omega⟩
   ·exact hs
def zxQ(r:Rl)(s:Stt)(ks:List Int):Stt:=ks.foldl (fun s k=>step r k s) s
def zxR(r:Rl):Stt->List Int->List Int
 | _,[]=>[]
 | s,k::ks=>(step r k s).cls::zxR r (step r k s) ks
theorem zxS{r:Rl}(h:zxa r):∀(ks:List Int) {s:Stt},SOk r s->SOk r (zxQ r s ks)
 | [],_,hs=>hs
 | k::ks,_,hs=>zxS h ks (zxP h k hs)
theorem zxT(r:Rl)(s:Stt)(a b:List Int):zxQ r s (a++b)=zxQ r (zxQ r s a) b:=List.foldl_append
theorem zxU(r:Rl)(s:Stt)(a:List Int)(k:Int):zxQ r s (a++[k])=step r k (zxQ r s a):=zxT r s a [k]
theorem zxV(r:Rl):∀(a b:List Int) (s:Stt),zxR r s (a++b)=zxR r s a++zxR r (zxQ r s a) b
 | [],_,_=>rfl
 | k::a,b,s=>congrArg ((step r k s).cls :: ·) (zxV r a b (step r k s))
theorem zxW(r:Rl):∀(a:List Int) (s:Stt),(zxR r s a).length=a.length
 | [],_=>rfl
 | k::a,s=>congrArg (· + 1) (zxW r a (step r k s))
theorem zxX(r:Rl):∀(a:List Int) (s:Stt) (i:Nat),i < a.length->(zxR r s a)[i]? = some (zxQ r s (a.take (i+1))).cls
 | [],_,_,h=>by simp at h
 | k::a,s,0,_=>rfl
 | k::a,s,i+1,h=>zxX r a (step r k s) i (by simp at h; omega)
theorem zxY{l:List Int}{k:Nat}{x:Int}(h:l[k]? = some x):l.take (k+1)=l.take k++[x]:=by rw[List.take_add_one,h]; rfl
def zxZ:K4:={ k0:={ lead:=fun a b=>zta a b },k1:={ lead:=fun a b=>ztc a b },k2:={ lead:=fun a b=>ztd a b },k3:={ lead:=fun a b=>ztb a b } }
theorem zx0:zte=some zxZ:=rfl
theorem zx1{r:Rl}{s:Stt}:zta r s=some (step r 0 s):=rfl
theorem zx2{r:Rl}(h:zxa r){s:Stt}(hs:SOk r s):ztb r s=some (step r 3 s):=by
 have:=h.rest;unfold SOk at hs;unfold ztb;rw[zqs (fI (by omega))]; rfl
theorem zx3{r:Rl}(h:zxa r)(hc:r.Classes<=6){s:Stt}(hs:SOk r s):ztc r s=some (step r 1 s):=by
 have hs':=hs;unfold SOk at hs';unfold ztc;rw[zx2 h hs,obs];unfold step
 by_cases hr:s.since=r.Rest
 ·rw[if_pos hr,zqs (fI (by omega)),if_neg (by decide),if_pos rfl,if_pos hr]; rfl
 ·rw[if_neg hr,if_neg (by decide),if_pos rfl,if_neg hr]; rfl
theorem zx4{r:Rl}(h:zxa r)(hc:r.Classes<=6){s:Stt}(hs:SOk r s):ztd r s=some (step r 2 s):=by
 have:=h.c0;unfold SOk at hs;unfold ztd;rw[zqs (fI (by omega)),zqs (fI (by omega))]; rfl
def zx5(r:Rl)(z:Zn):Wk:={ r:=r,zone:=z,kinds:=zxZ,can:=z.Years.map fun y=>mkP (kB r y) }
theorem zx6{r:Rl}{z:Zn}(h:VZ r z):ztR r z=some (zx5 r z,0):=by
 have h6:=h.y6;have hpl:=h.full.rl.pl;have hc6:=h.c6;unfold ztR;rw[zxp (by omega) (by omega),obs,zxe.2 h,if_pos rfl,zx0,obs]
 exact zrD (l:=z.Years) (fun y=>mkP (kB r y)) (F:=fun d acc x=>ztQ r z zxZ d r.Classes r.Good r.Bad r.Rest r.Fewest z.First acc x) (fun acc=>some (({ r:=r,zone:=z,kinds:=zxZ,can:=acc }:Wk),(0:Int))) (fun d k acc a hk ha=>by
  have hkl:=(List.getElem?_eq_some_iff.1 hk).1
  show ztQ r z zxZ (d+1) _ _ _ _ _ _ _ _=_
  rw[ztQ,if_pos (by omega),zrx hk,obs,zxL h.full.rl (h.full.ys a (List.mem_of_getElem? hk)),obs,zqs (by omega),zqs (fI (by omega))]) (fun d acc=>by
  show ztQ r z zxZ (d+1) _ _ _ _ _ _ _ _=_
  rw[ztQ,if_neg (Int.lt_irrefl _)]) (by omega)
theorem zx7{z:Zn}(h:z.Years.length<=1000){n:Int}:Ev (zs6 z n) (0<=n/\n<=(z.Years.length:Int) - 1):=by
 unfold zs6;refine Ev.gd (fI (by omega)) ?_;exact(show Ev (zsF { Lo:=0,Hi:=(z.Years.length:Int) - 1 } n) _ from zxf).ret
theorem zx8{r:Rl}{z:Zn}(h:VZ r z){n:Int}(hn:0<=n/\n<=(z.Years.length:Int) - 1):ztS r z n=some (zx5 r z,0):=by
 have:=h.y6;unfold ztS;rw[zx6 h,obs,if_pos rfl,(zx7 (by omega)).some_of hn,obs,if_pos rfl]
def zx9(z:Zn)(t:Tr)(j:Nat):Prop:=∀(y:Yr) (a b:Int),z.Years[j]? = some y->t.Losses[j]? = some a->t.Premiums[j]? = some b->(y.Losses.Lo<=a/\a<=y.Losses.Hi)/\y.Premiums.Lo<=b/\b<=y.Premiums.Hi
structure zya (z:Zn) (t:Tr):Prop where
 l:t.Losses.length=z.Years.length
 p:t.Premiums.length=z.Years.length
 ok:∀j,zx9 z t j
theorem zyb{z:Zn}{t:Tr}(h:z.Years.length<=1000):Ev (zs8 z t) (zya z t):=by
 unfold zs8;refine(Ev.ite (K:=t.Premiums.length=z.Years.length/\(∀j,j < z.Years.length->zx9 z t j)/\True) fun h1=>(Ev.ite fun h2=>Ev.loop (n:=z.Years.length) (F:=fun d x=>zs7 z t d x) (ok:=fun j=>zx9 z t j) (fin:=some true) (P:=True) (fun d k hk=>?_) (fun d=>?_) (by omega) fun _=>Ev.tt trivial).imp (and_congr_left fun _=>by omega)).imp ?_
 ·have hg:=List.getElem?_eq_getElem hk;have ha:=List.getElem?_eq_getElem (show k < t.Losses.length by omega);have hb:=List.getElem?_eq_getElem (show k < t.Premiums.length by omega)
  show(_->zs7 z t (d+1) (k:Int)=_)/\(_->zs7 z t (d+1) (k:Int)=_)
  rw[zs7,if_pos (by omega),zrx hg,obs,zrx ha,obs]
  have e:zx9 z t k↔((z.Years[k].Losses.Lo<=t.Losses[k]/\t.Losses[k]<=z.Years[k].Losses.Hi)/\z.Years[k].Premiums.Lo<=t.Premiums[k]/\t.Premiums[k]<=z.Years[k].Premiums.Hi):=by
   unfold zx9;rw[hg,ha,hb];exact⟨fun q=>q _ _ _ rfl rfl rfl,fun q y a b h1 h2 h3=>by cases h1; cases h2; cases h3; exact q⟩
  rw[e]
  by_cases c1:z.Years[k].Losses.Lo<=t.Losses[k]/\t.Losses[k]<=z.Years[k].Losses.Hi
  ·rw[zxf.some_of c1,obs,if_pos rfl,zrx hb,obs]
   by_cases c2:z.Years[k].Premiums.Lo<=t.Premiums[k]/\t.Premiums[k]<=z.Years[k].Premiums.Hi
   ·rw[zxf.some_of c2,obs,if_pos rfl,zqs (fI (by omega))];exact⟨fun _=>rfl,fun q=>absurd ⟨c1,c2⟩ q⟩
   ·rw[zxf.some_not c2,obs,if_neg (by decide)];exact⟨fun q=>absurd q.2 c2,fun _=>rfl⟩
  ·rw[zxf.some_not c1,obs,if_neg (by decide)];exact⟨fun q=>absurd q.1 c1,fun _=>rfl⟩
 ·show zs7 z t (d+1) _=_
  rw[zs7,if_neg (Int.lt_irrefl _)]
 ·exact⟨fun⟨h1,h2,h3,_⟩=>⟨by omega,h2,fun j y a b hy=>h3 j (List.getElem?_eq_some_iff.1 hy).1 y a b hy⟩,fun⟨h1,h2,h3⟩=>⟨by omega,h2,fun j _=>h3 j,trivial⟩⟩
def ktL(r:Rl):List Yr->List Int->List Int->List Int
 | y::ys,a::us,b::vs=>kN r y a b::ktL r ys us vs
 | [],_,_=>[]
 | _::_,[],_=>[]
 | _::_,_::_,[]=>[]
theorem zyc{r:Rl}:∀{ys:List Yr} {us vs:List Int},us.length=ys.length->vs.length=ys.length->(ktL r ys us vs).length=ys.length
 | [],_,_,_,_=>rfl
 | y::ys,a::us,b::vs,h1,h2=>by
  show(ktL r ys us vs).length+1=ys.length+1
  rw[zyc (by simpa using h1) (by simpa using h2)]
 | y::ys,[],_,h1,_=>by simp at h1
 | y::ys,_::_,[],_,h2=>by simp at h2
theorem zyd{r:Rl}:∀{ys:List Yr} {us vs:List Int} {k:Nat} {y:Yr} {a b:Int},ys[k]? = some y->us[k]? = some a->vs[k]? = some b->(ktL r ys us vs)[k]? = some (kN r y a b)
 | [],_,_,_,_,_,_,h,_,_=>by simp at h
 | _::_,[],_,_,_,_,_,_,h,_=>by simp at h
 | _::_,_::_,[],_,_,_,_,_,_,h=>by simp at h
 | y::ys,a::us,b::vs,0,_,_,_,h1,h2,h3=>by cases h1; cases h2; cases h3; rfl
 | y::ys,a::us,b::vs,k+1,_,_,_,h1,h2,h3=>zyd (ys:=ys) (us:=us) (vs:=vs) (k:=k) h1 h2 h3
def st0(r:Rl)(z:Zn):Stt:=⟨z.First,r.Rest⟩
def ktN(r:Rl)(z:Zn)(t:Tr):List Int:=ktL r z.Years t.Losses t.Premiums
def zye(r:Rl)(z:Zn)(t:Tr):List Int:=zxR r (st0 r z) (ktN r z t)
theorem VZ.st0{r:Rl}{z:Zn}(h:VZ r z):SOk r (st0 r z):=by
 have h1:=h.full.first;have h2:=h.full.rl.rest;exact⟨h1,h2.1,Int.le_refl _⟩
theorem zyf{r:Rl}(h:zxa r)(hc:r.Classes<=6){s:Stt}(hs:SOk r s){k:Int}(hk:0<=k/\k < 4){β:Type}{G:Stt->Option β} :
  (if k=0 then (zxZ.k0.lead r s).bind G else if k=1 then (zxZ.k1.lead r s).bind G else if k=2 then (zxZ.k2.lead r s).bind G else if k=3 then (zxZ.k3.lead r s).bind G else none)=G (step r k s):=by
 by_cases h0:k=0
 ·subst h0; rw[if_pos rfl,show zxZ.k0.lead r s=some (step r 0 s) from zx1,obs]
 rw[if_neg h0]
 by_cases h1:k=1
 ·subst h1; rw[if_pos rfl,show zxZ.k1.lead r s=some (step r 1 s) from zx3 h hc hs,obs]
 rw[if_neg h1]
 by_cases h2:k=2
 ·subst h2; rw[if_pos rfl,show zxZ.k2.lead r s=some (step r 2 s) from zx4 h hc hs,obs]
 rw[if_neg h2]
 have h3:k=3:=by omega
 subst h3; rw[if_pos rfl,show zxZ.k3.lead r s=some (step r 3 s) from zx2 h hs,obs]
theorem zyg{r:Rl}{z:Zn}(h:VZ r z){t:Tr}(ht:zya z t){k:Nat}(hk:k < z.Years.length) :
  ∃y a b,z.Years[k]? = some y/\t.Losses[k]? = some a/\t.Premiums[k]? = some b/\((y.Losses.Lo<=a/\a<=y.Losses.Hi)/\y.Premiums.Lo<=b/\b<=y.Premiums.Hi)/\(0<=a/\a<=10000)/\0<=b/\b<=10000:=by
 have h1:=ht.l;have h2:=ht.p;have hg:=List.getElem?_eq_getElem hk;have ha:=List.getElem?_eq_getElem (show k < t.Losses.length by omega);have hb:=List.getElem?_eq_getElem (show k < t.Premiums.length by omega);have hr:=ht.ok k _ _ _ hg ha hb;have hy:=h.full.ys _ (List.getElem_mem hk);obtain⟨q1,q2,_⟩:=hy;unfold RgP at q1 q2;exact⟨_,_,_,hg,ha,hb,hr,by omega,by omega⟩
theorem zyh{r:Rl}{z:Zn}{t:Tr}(ht:zya z t):(ktN r z t).length=z.Years.length:=zyc ht.l ht.p
theorem zyi{r:Rl}{z:Zn}{t:Tr}{k:Nat}{y:Yr}{a b:Int}(h1:z.Years[k]? = some y)(h2:t.Losses[k]? = some a)(h3:t.Premiums[k]? = some b):(ktN r z t)[k]? = some (kN r y a b):=zyd h1 h2 h3
theorem zyj{r:Rl}{s:Stt}{ks:List Int}{k:Nat}{x:Int}(h:ks[k]? = some x):zxR r s (ks.take (k+1))=zxR r s (ks.take k)++[(step r x (zxQ r s (ks.take k))).cls]:=by
 rw[zxY h,zxV]; rfl
theorem zyk{r:Rl}{s:Stt}{ks:List Int}{k:Nat}{x:Int}(h:ks[k]? = some x):zxQ r s (ks.take (k+1))=step r x (zxQ r s (ks.take k)):=by
 rw[zxY h,zxU]
theorem zyl{r:Rl}{z:Zn}(h:VZ r z){t:Tr}(ht:zya z t):ztv (zx5 r z) t=some (zye r z t):=by
 have h6:=h.y6;have hl:=zyh (r:=r) ht;unfold ztv ztt;rw[obs];refine zw7 (n:=z.Years.length) (fun d (s:Stt × List Int) x=>ztu (zx5 r z) t d s.1.cls s.1.since s.2 x) (fun k=>(zxQ r (st0 r z) ((ktN r z t).take k),zxR r (st0 r z) ((ktN r z t).take k))) (fun d k hk=>?_) (fun d=>?_) (z.Years.length+1) 0 (by omega) (by omega)
 ·obtain⟨y,a,b,hy,ha,hb,_,ha2,hb2⟩:=zyg h ht hk;have hkt:=zyi (r:=r) hy ha hb;have hs:=zxS h.full.rl ((ktN r z t).take k) h.st0
  have hlen:(zxR r (st0 r z) ((ktN r z t).take k)).length < 1048576:=by rw[zxW,List.length_take]; omega
  show ztu (zx5 r z) t (d+1) (zxQ r (st0 r z) ((ktN r z t).take k)).cls (zxQ r (st0 r z) ((ktN r z t).take k)).since (zxR r (st0 r z) ((ktN r z t).take k)) (k:Int)=ztu (zx5 r z) t d (zxQ r (st0 r z) ((ktN r z t).take (k+1))).cls (zxQ r (st0 r z) ((ktN r z t).take (k+1))).since (zxR r (st0 r z) ((ktN r z t).take (k+1))) ((k:Int)+1)
  rw[zyk hkt,zyj hkt];generalize zxR r (st0 r z) ((ktN r z t).take k)=acc at hlen;generalize zxQ r (st0 r z) ((ktN r z t).take k)=s at hs;rw[ztu];refine(if_pos (show(k:Int) < ((zx5 r z).zone.Years.length:Int) from by show(k:Int) < (z.Years.length:Int); omega)).trans ?_;rw[show idx (zx5 r z).zone.Years (k:Int)=some y from zrx hy,obs,zrx ha,obs,zrx hb,obs,show ztg (zx5 r z).r y a b=_ from zxz h.full.rl ha2 hb2,obs];refine(zyf (r:=r) h.full.rl h.c6 hs (zxw r y a b) (G:=fun s=>gd (acc.length < 1048576) (gd (zl6 .i64 ((k:Int)+1)) (ztu (zx5 r z) t d s.cls s.since (acc++[s.cls]) ((k:Int)+1))))).trans ?_
  show gd _ (gd _ _)=_
  rw[zqs hlen,zqs (fI (by omega))]
 ·show ztu (zx5 r z) t (d+1) _ _ _ _=_
  rw[ztu];refine(if_neg (show ¬ (z.Years.length:Int) < ((zx5 r z).zone.Years.length:Int) from Int.lt_irrefl _)).trans ?_
  show some (zxR r (st0 r z) ((ktN r z t).take z.Years.length))=_
  rw[<- hl,List.take_length]; rfl
theorem zym{r:Rl}{z:Zn}(h:VZ r z){t:Tr}(ht:zya z t):ztT r z t=some (zye r z t,0):=by
 have:=h.y6;unfold ztT;rw[zx6 h,obs,if_pos rfl,(zyb (by omega)).some_of ht,obs,if_pos rfl,zyl h ht,obs]
theorem zyn{r:Rl}{z:Zn}{t:Tr}(ht:zya z t):(zye r z t).length=z.Years.length:=by
 unfold zye; rw[zxW,zyh ht]
def zyo(ks:List Int):Prop:=∀k∈ks,0<=k/\k < 4
theorem zyp{r:Rl}(h:zxa r){ks:List Int}(hk:zyo ks)(hl:ks.length<=1000){s:Stt}(hs:SOk r s)(hs0:s.since=r.Rest):∀(i d:Nat) (m:Int),i<=ks.length->i < d->0<=m->m<=10 ->
  zsh r ks d m ((i:Int) - 1)=some (decide (r.Rest<=(zxQ r s (ks.take i)).since+m))
 | 0,0,_,_,h,_,_=>by omega
 | 0,d+1,m,_,_,hm,_=>by
  rw[zsh,if_neg (by omega)];refine congrArg some (decide_eq_true ?_).symm
  show r.Rest<=s.since+m
  omega
 | i+1,0,_,_,h,_,_=>by omega
 | i+1,d+1,m,hi,hd,hm,hm2=>by
  have hr:=h.rest;have hg:=List.getElem?_eq_getElem (show i < ks.length by omega);have hx:=hk _ (List.getElem_mem (show i < ks.length by omega));have hs1:=zxS h (ks.take i) hs;have ih:=fun m hm hm2=>zyp h hk hl hs hs0 i d m (by omega) (by omega) hm hm2;rw[zyk hg];generalize zxQ r s (ks.take i)=q at hs1 ih;generalize ks[i]=x at hg hx;unfold SOk at hs1;rw[zsh,if_pos (by omega)];rw[show((i+1:Nat):Int) - 1=(i:Int) by omega]
  by_cases hmr:m < r.Rest
  ·rw[if_pos hmr,zrx hg,obs]
   by_cases h2:x=2
   ·subst h2;rw[if_pos rfl];refine congrArg some (decide_eq_false ?_).symm
    show ¬ r.Rest<=(0:Int)+m
    omega
   ·rw[if_neg h2,obs]
    by_cases h0:0 < x
    ·rw[if_pos h0,zqs (fI (by omega)),zqs (fI (by omega)),ih (m+1) (by omega) (by omega)];refine congrArg some (decide_eq_decide.2 ?_)
     have e:(step r x q).since=min (q.since+1) r.Rest:=by
      unfold step;rw[if_neg h2]
      by_cases h1:x=1
      ·rw[if_pos h1]
      ·rw[if_neg h1,if_pos (by omega)]
     rw[e]
     omega
    ·rw[if_neg h0,zqs (fI (by omega)),ih m hm hm2]
     have e:step r x q=q:=by
      unfold step;rw[if_neg h2,if_neg (by omega),if_neg (by omega)]
     rw[e]
  ·rw[if_neg hmr];refine congrArg some (decide_eq_true ?_).symm;have:=(zxP h x hs1).2.1
   omega
theorem zyq{r:Rl}(h:zxa r){ks:List Int}(hk:zyo ks)(hl:ks.length<=1000){s:Stt}(hs:SOk r s)(hs0:s.since=r.Rest):zsi r ks=some (decide ((zxQ r s ks).since=r.Rest)):=by
 unfold zsi;rw[zqs (fI (by omega))];have e:=zyp h hk hl hs hs0 ks.length 1000000 0 (by omega) (by omega) (by omega) (by omega);have hb:=(zxS h ks hs).2;rw[List.take_length] at e;rw[e];refine congrArg some (decide_eq_decide.2 ?_)
 omega
theorem zyr{r:Rl}{s:Stt}(hs:SOk r s)(x:Int):(step r x s).cls=if x=2 then min (s.cls+1) (r.Classes - 1) else if x=1 then (if s.since=r.Rest then max (s.cls - 1) 0 else s.cls) else s.cls:=by
 unfold step
 by_cases h2:x=2
 ·rw[if_pos h2,if_pos h2]
 rw[if_neg h2,if_neg h2]
 by_cases h1:x=1
 ·rw[if_pos h1,if_pos h1]
  show(if _ then _ else _)=_
  rw[Int.max_comm]
 rw[if_neg h1,if_neg h1]
 split <;> rfl
theorem zys{r:Rl}(h:zxa r)(hc6:r.Classes<=6){ks:List Int}(hk:zyo ks)(hl:ks.length<=1000){c:Int}(hc:0<=c/\c<=r.Classes - 1):zsk r c ks=some (zxR r ⟨c,r.Rest⟩ ks):=by
 have hs:SOk r ⟨c,r.Rest⟩:=⟨hc,h.rest.1,Int.le_refl _⟩;unfold zsk;refine zw7 (n:=ks.length) (fun d (s:Int × List Int) x=>zsj r ks d s.1 s.2 x) (fun k=>((zxQ r ⟨c,r.Rest⟩ (ks.take k)).cls,zxR r ⟨c,r.Rest⟩ (ks.take k))) (fun d k hkl=>?_) (fun d=>?_) (ks.length+1) 0 (by omega) (by omega)
 ·have hg:=List.getElem?_eq_getElem hkl;have hsk:=zxS h (ks.take k) hs;have hrs:=zyq h (ks:=ks.take k) (fun x hx=>hk x (List.mem_of_mem_take hx)) (by rw[List.length_take]; omega) hs rfl
  have hlen:(zxR r ⟨c,r.Rest⟩ (ks.take k)).length < 1048576:=by rw[zxW,List.length_take]; omega
  rw[zyk hg,zyj hg,zyr hsk];generalize zxR r ⟨c,r.Rest⟩ (ks.take k)=acc at hlen;generalize zxQ r ⟨c,r.Rest⟩ (ks.take k)=s at hsk hrs;unfold SOk at hsk
  show zsj r ks (d+1) s.cls acc (k:Int)=_
  have e0:((ks.take (Int.toNat (k:Int))).drop (Int.toNat 0))=ks.take k:=by rw[Int.toNat_natCast]; rfl
  rw[zsj,if_pos (by omega),zrx hg,obs]
  by_cases h2:ks[k]=2
  ·rw[if_pos h2,if_pos h2,zqs (fI (by omega)),zqs (fI (by omega)),obs,if_neg (by omega),zqs hlen,zqs (fI (by omega))]
  ·rw[if_neg h2,if_neg h2,obs]
   by_cases h1:ks[k]=1
   ·rw[if_pos h1,if_pos h1,zqs ⟨by omega,by omega,by omega⟩,e0,hrs,obs]
    by_cases hr:s.since=r.Rest
    ·rw[decide_eq_true hr,if_pos rfl,if_pos hr,zqs (fI (by omega)),zqs hlen,zqs (fI (by omega))]
    ·rw[decide_eq_false hr,if_neg (by decide),if_neg hr,zqs hlen,zqs (fI (by omega))]
   ·rw[if_neg h1,if_neg h1,zqs hlen,zqs (fI (by omega))]
 ·show zsj r ks (d+1) _ _ _=_
  rw[zsj,if_neg (Int.lt_irrefl _),List.take_length]
end
end Go.Proofs.Ytlpjlgmoaipoiaa

