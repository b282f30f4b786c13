/- An evaluator of the code of a program, its soundness, what calls ask, memory, and what functions of the program do. Condition: none; a lemma text of this claim. -/
import Derived.Test.YtnjbahoohfaplaaGreatUdI

namespace Go.Proofs.YtnjbahoohfaplaaGreat
open _root_.Go.Proofs.Tryz
open Go.Abs
set_option maxRecDepth 100000
noncomputable section
theorem zzv(a100 a200 a201 a202 a203 a204 a205:Int)(b0 b1 b2:Nat){m:M}{Q:V->M->Prop}(h:(∀a:M,(a=M.new m (AO.cells 6 [Il a200,Il a201,Il a202,Il a203,Il a204,Il a205] false))->∃Z,ldC a (.ptr b0 0)=some Z/\isSl Z/\ifB (decide (a100=(slLen Z:Int))) (∃c2,ldC a (.ptr b1 0)=some c2/\∃x3 x4 x5 x6 x7 x8,ldA a (.ptr m.nxt 0) 6=some [Il x3,Il x4,Il x5,Il x6,Il x7,Il x8]/\zmq prog tbl [.agg 6 [Il x3,Il x4,Il x5,Il x6,Il x7,Il x8]] c2 a (fun v9 ah=>∃l,v9=.c (.bool l)/\Q (.c (.bool l)) ah)) (∃f,ldC a (.ptr b0 0)=some f/\∃g:Nat,a100=((g:Nat):Int)/\g < (slLen f)/\∃o,ldC a (zl2 f (g * 1))=some o/\∃p:AO,zl8 a o=some p/\∀q:M,(q=M.new a p)->∀i:List V->M->Prop,(∀r:Bool,∀j:M,(∃l20:List ((U × U) × M),nxM j (.ptr a.nxt 0)=some l20/\((l20=[])->Q (.c (.bool true)) j)/\∀ai aj:U,∀b:M,InL ai aj b l20->∃s t,∃ak:U,enM b (.ptr a.nxt 0)=some ((.agg 2 [Il s,Il t]),ak)/\∀u:M,(u=M.new b (AO.cells 2 [Il 0,Il 0] false))->∃d:M,stC u (.ptr b.nxt 0) 2 [Il s,Il t]=some d/\∃e,ldC d (.ptr b2 0)=some e/\zl0 .i64 (a100+1)/\∃w x y z A B,ldA d (.ptr m.nxt 0) 6=some [Il w,Il x,Il y,Il z,Il A,Il B]/\∃D F,ldA d (.ptr b.nxt 0) 2=some [Il D,Il F]/\Wc prog tbl 86 [.agg 6 [Il w,Il x,Il y,Il z,Il A,Il B],(.agg 2 [Il D,Il F])] d (fun al G=>∃I J N O P S,al=.agg 6 [Il I,Il J,Il N,Il O,Il P,Il S]/\ifB (cmC e) (ldC G (.ptr b2 0)=some e) False/\zmq prog tbl [.c (Il (a100+1)),(.agg 6 [Il I,Il J,Il N,Il O,Il P,Il S])] e G (fun am T=>∃Y,am=.c (.bool Y)/\ifB (!Y) (Q (.c (.bool false)) T) (i [.c (.bool r)] T))))->i [.c (.bool r)] j)->i [.c (.bool false)] q))):Wc prog tbl 132 [.c (Il a100),.agg 6 [Il a200,Il a201,Il a202,Il a203,Il a204,Il a205],.c (.ptr b0 0),.c (.ptr b1 0),.c (.ptr b2 0)] m Q:=zpB (n:=5) rfl (by kernel_rfl) (by kernel_rfl) h
theorem zzw(y:C)(b0:Nat){m:M}{Q:V->M->Prop}(h:(∀e:M,(e=M.new m (AO.cells 1 [y] false))->∀m1:M,(m1=M.new e (AO.cells 1 [C.sl0] false))->isPt (.ptr b0 0)/\isPt (.ptr b0 0)/\∃g,ldC m1 (.ptr b0 3)=some g/\isSl g/\∀R3:List V->M->Prop,(∀i:Int,∀b:M,(ifB (decide (i < (slLen g:Int))) (∃n6:Nat,i=((n6:Nat):Int)/\n6 < (slLen g)/\∃x7 x8 x9 o p q r s t,ldA b (zl2 g (n6 * 9)) 9=some [Il x7,Il x8,Il x9,Il o,Il p,Il q,Il r,Il s,Il t]/\∀u:M,(u=M.new b (AO.cells 9 [Il 0,Il 0,Il 0,Il 0,Il 0,Il 0,Il 0,Il 0,Il 0] false))->∃d:M,stC u (.ptr b.nxt 0) 9 [Il x7,Il x8,Il x9,Il o,Il p,Il q,Il r,Il s,Il t]=some d/\∃a,ldC d (.ptr e.nxt 0)=some a/\∃w x z A B,ldA d (.ptr b0 0) 5=some [w,Il x,Il z,A,B]/\∃D F G I J N O P S,ldA d (.ptr b.nxt 0) 9=some [Il D,Il F,Il G,Il I,Il J,Il N,Il O,Il P,Il S]/\Wc prog tbl 131 [.agg 5 [w,Il x,Il z,A,B],(.agg 9 [Il D,Il F,Il G,Il I,Il J,Il N,Il O,Il P,Il S])] d (fun ak j=>∃T,ak=.c T/\ifB (cmC a) (ldC j (.ptr e.nxt 0)=some a) False/\∀l:M,(l=M.new j (AO.cells 1 [T] false))->ifB (cmC a) (ldC l (.ptr e.nxt 0)=some a) False/\∃Y,∃Z:M,ApR prog 196 l a (.sl j.nxt 0 1 0 (some 1)) Y Z/\∃aa:M,stC Z (.ptr e.nxt 0) 1 [Y]=some aa/\zl0 .i64 (i+1)/\R3 [.c (Il (i+1))] aa)) (∀ab:M,(ab=M.new b (AO.cells 1 [C.nilFn] false))->∃f:M,stC ab (.ptr b.nxt 0) 1 [(C.fn (Fn.func 132) [] [(W.c (C0.ptr e.nxt 0)),(W.c (C0.ptr m.nxt 0)),(W.c (C0.ptr b.nxt 0))])]=some f/\∃ac,ldC f (.ptr b.nxt 0)=some ac/\isPt (.ptr b0 0)/\isPt (.ptr b0 0)/\∃ad,ldC f (.ptr b0 2)=some (Il ad)/\zmq prog tbl [.c (Il 0),(.agg 6 [Il ad,Il 0,Il 0,Il 0,Il 0,Il 0])] ac f (fun al am=>∃an,al=.c (.bool an)/\Q (.tup []) am)))->R3 [.c (Il i)] b)->R3 [.c (Il 0)] m1)):Wc prog tbl 130 [.c y,.c (.ptr b0 0)] m Q:=zpB (n:=2) rfl (by kernel_rfl) (by kernel_rfl) h
def zzx(v:Ver):List C:=[.int .i64 v.fee,.int .i64 v.pence,.int .i64 v.fields.f0,.int .i64 v.fields.f1,.int .i64 v.fields.f2,.int .i64 v.fields.f3]
theorem zzy(a b:KOc)(h:zqy Oc a=zqy Oc b):a=b:=by
 obtain⟨⟨a1,a2⟩,ha⟩:=a;obtain⟨⟨b1,b2⟩,hb⟩:=b;have h:U.agg 2 [C.int .i64 a1,C.int .i64 a2]=U.agg 2 [C.int .i64 b1,C.int .i64 b2]:=h
 simp only[U.agg.injEq,List.cons.injEq,C.int.injEq,true_and,and_true] at h
 obtain⟨rfl,rfl⟩:=h
 rfl
structure ChG (m:M) (ba bY bc l:Nat) (ca:C) (rs:List Nat) (fs:List (Oc->Option Bool)):Prop where
 a:Bk m ba 1 [ca]
 y:Bk m bY 1 [.fn (.yield l) [] []]
 c:Bk m bc 1 [.fn (.func 132) [] [.c (.ptr ba 0),.c (.ptr bY 0),.c (.ptr bc 0)]]
 s:Ls m 1 ca (rs.map C.map) rs.length
 len:fs.length=rs.length
 mp:∀(i r:Nat) (g:Oc->Option Bool),rs[i]? = some r->fs[i]? = some g->Mp (zqy Oc) m r (fOc g)
def ChD(ba bY bc:Nat)(ca:C)(rs:List Nat)(b:Nat):Prop:=b=ba\/b=bY\/b=bc\/(∃o n s d,ca=.sl b o n s d)\/b∈rs
theorem ChG.to{m m':M}{ba bY bc l:Nat}{ca:C}{rs:List Nat}{fs:List (Oc->Option Bool)}(h:ChG m ba bY bc l ca rs fs)(hn:m.nxt<=m'.nxt)(hv:m'.vw=m.vw)(hg:∀b,b < m.nxt->ChD ba bY bc ca rs b->m'.g b=m.g b):ChG m' ba bY bc l ca rs fs:=
  ⟨⟨(hg _ h.a.lt (.inl rfl)).trans h.a.g,Nat.lt_of_lt_of_le h.a.lt hn⟩,⟨(hg _ h.y.lt (.inr (.inl rfl))).trans h.y.g,Nat.lt_of_lt_of_le h.y.lt hn⟩,⟨(hg _ h.c.lt (.inr (.inr (.inl rfl)))).trans h.c.g,Nat.lt_of_lt_of_le h.c.lt hn⟩,
    h.s.to hn (fun b hb ⟨_o,_s,_d,he⟩=>hg b hb (.inr (.inr (.inr (.inl ⟨_,_,_,_,he⟩))))) hv,h.len,fun i r g hr hgg=>(h.mp i r g hr hgg).to hn (hg r (h.mp i r g hr hgg).lt (.inr (.inr (.inr (.inr (List.mem_of_getElem? hr))))))⟩
theorem ChG.ext{m m':M}{ba bY bc l:Nat}{ca:C}{rs:List Nat}{fs:List (Oc->Option Bool)}(h:ChG m ba bY bc l ca rs fs)(e:Ext m m'):ChG m' ba bY bc l ca rs fs:=h.to e.nxt e.vw fun b hb _=>e.g b hb
structure zzz (n0 l N:Nat) (A:Ver->Prop) (I:List Ver->(Nat->Prop)->M->Prop):Prop where
 st:∀d S m m',I d S m->m.nxt<=m'.nxt->m'.vw=m.vw->(∀b,S b->m'.g b=m.g b)->(∀b,b < n0->m'.g b=m.g b)->I d S m'
 lt:∀d S m,I d S m->∀b,S b->b < m.nxt
 yield:∀d v S m,I d S m->d.length < N->A v->∀Q:V->M->Prop,(∀S' m',Own S m S'->Chg S m m'->I (d++[v]) S' m'->Q (.c (.bool true)) m')->Wy prog tbl l [.agg 6 (zzx v)] m Q
theorem zzA{S S':Nat->Prop}{a b c:M}(h1:Chg S a b)(ho:Own S a S')(h2:Chg S' b c):Chg S a c:=
 ⟨Nat.le_trans h1.nxt h2.nxt,fun x hx hS=>by
  rw[h2.g x (Nat.lt_of_lt_of_le hx h1.nxt) fun h=>(ho x h).elim hS fun h=>by omega]
  exact h1.g x hx hS,h2.vw.trans h1.vw⟩
theorem zzB{S S' S'':Nat->Prop}{a b:M}(h1:Own S a S')(hn:a.nxt<=b.nxt)(h2:Own S' b S''):Own S a S'':=fun x hx=>(h2 x hx).elim (h1 x) fun h=>.inr (by omega)
theorem zzC{S:Nat->Prop}{a b:M}(h:Ext a b):Chg S a b:=⟨h.nxt,fun x hx _=>h.g x hx,h.vw⟩
theorem zzD{f m m':M}{S:Nat->Prop}(h:Pre f m)(hc:Chg S m m')(hS:∀b,S b->f.g b=none/\f.vw b=none):Pre f m':=⟨zqb h.sub hc.nxt hc.vw hS hc.g,h.fz,h.fv⟩
theorem zzE{n0 l N:Nat}{A:Ver->Prop}{f:M}{I:List Ver->(Nat->Prop)->M->Prop}(hc:zzz n0 l N A I){ba bY bc:Nat}{ca:C}{rs:List Nat}{fs:List (Oc->Option Bool)}(hrs:rs.length<=1000) :
  ∀(j k:Nat) (v:Ver) (vs d:List Ver) (S:Nat->Prop) (m:M),k+j=rs.length->n0<=m.nxt->Pre f m->ChG m ba bY bc l ca rs fs->I d S m->(∀b,S b->f.g b=none/\f.vw b=none)->(∀b,S b->¬ ChD ba bY bc ca rs b)->zu6 ((fs.drop k).map zu4) v=some vs->d.length+vs.length<=N->(∀u∈vs,A u) ->
  ∀Q:V->M->Prop,(∀vs' S' m',vs'.Perm vs->Own S m S'->Chg S m m'->I (d++vs') S' m'->Q (.c (.bool true)) m') ->
  Wc prog tbl 132 [.c (.int .i64 (k:Int)),.agg 6 (zzx v),.c (.ptr ba 0),.c (.ptr bY 0),.c (.ptr bc 0)] m Q:=by
 intro j
 induction j with
 | zero=>
  intro k v vs d S m hk hn0 hP G hI hSf hD hv hN hA Q hQ
  have hk:k=rs.length:=by omega
  refine zzv (k:Int) v.fee v.pence v.fields.f0 v.fields.f1 v.fields.f2 v.fields.f3 ba bY bc fun m0 e0=>?_;obtain⟨b0,x0⟩:=Bk.new e0;have g0:=G.ext x0;refine⟨_,g0.a.rc rfl,g0.s.isSl,?_⟩;rw[g0.s.slLen];refine zpG.2 ⟨fun _=>?_,fun hne=>absurd (by rw[hk]) hne⟩;refine⟨_,g0.y.rc rfl,_,_,_,_,_,_,b0.ra,?_⟩
  have hvs:vs=[v]:=by
   rw[List.drop_eq_nil_of_le (by rw[G.len]; omega)] at hv;exact(oi hv).symm
  subst hvs;have hlt:=hc.lt _ _ _ hI;have hI0:I d S m0:=hc.st _ _ _ _ hI x0.nxt x0.vw (fun b hb=>x0.g b (hlt b hb)) fun b hb=>x0.g b (by omega)
  show Wy prog tbl l [.agg 6 (zzx v)] m0 _
  refine hc.yield d v S m0 hI0 (by simp at hN; omega) (hA v (List.mem_cons_self ..)) _ fun S' m' ho hch hI'=>⟨true,rfl,hQ [v] S' m' (.refl _) (fun b hb=>(ho b hb).imp id fun h=>by have:=x0.nxt; omega) (zzA (zzC x0) (fun b hb=>.inl hb) hch) hI'⟩
 | succ j ih=>
  intro k v vs d S m hk hn0 hP G hI hSf hD hv hN hA Q hQ
  have hkr:k < rs.length:=by omega
  refine zzv (k:Int) v.fee v.pence v.fields.f0 v.fields.f1 v.fields.f2 v.fields.f3 ba bY bc fun m0 e0=>?_;obtain⟨b0,x0⟩:=Bk.new e0;have g0:=G.ext x0
  have q0:m0.nxt=m.nxt+1:=by rw[e0]; rfl
  refine⟨_,g0.a.rc rfl,g0.s.isSl,?_⟩;rw[g0.s.slLen];refine zpG.2 ⟨fun he=>by omega,fun _=>?_⟩;refine⟨_,g0.a.rc rfl,k,rfl,by rw[g0.s.slLen]; exact hkr,?_⟩;obtain⟨r,hr⟩:∃r,rs[k]? = some r:=⟨_,List.getElem?_eq_getElem hkr⟩;obtain⟨g,hg⟩:∃g,fs[k]? = some g:=⟨_,List.getElem?_eq_getElem (by rw[G.len]; exact hkr)⟩;refine⟨_,g0.s.rd (i:=k * 1) (c:=.map r) (by rw[Nat.mul_one,List.getElem?_map,hr]; rfl),?_⟩;obtain⟨ks,o,hks,hro,hit⟩:=Mp.range zzy (g0.mp k r g hr hg);refine⟨o,hro,fun m16 e16 R hR=>?_⟩;have it16:=hit m16 e16
  have x16:Ext m0 m16:=by rw[e16]; exact Ext.new _ _
  have q16:m16.nxt=m.nxt+2:=by rw[e16]; show m0.nxt+1=_; omega
  have hlt:=hc.lt _ _ _ hI
  have hdrop:fs.drop k=g::fs.drop (k+1):=by
   rw[List.drop_eq_getElem_cons (by rw[G.len]; exact hkr)]
   congr 1
   rw[List.getElem?_eq_getElem (by rw[G.len]; exact hkr)] at hg;exact oi hg
  rw[hdrop,List.map_cons] at hv;have hv:zu5 (zu6 ((fs.drop (k+1)).map zu4)) v (zu4 g)=some vs:=hv;have hperm:(ks.map (·.1)).Perm (zu4 g):=(zq0.perm hks (zu3 hks)).map _;obtain⟨vr0,hvr0,hpr0⟩:=zvc hperm.symm hv
  -- a round of the loop, with these keys left
  have main:∀(n:Nat) (rem:List KOc) (w vr:List Ver) (S1:Nat->Prop) (m1:M),rem.length=n->ItR (zqy Oc) m1 m0.nxt r (fOc g) rem->Bk m1 m.nxt 6 (zzx v)->ChG m1 ba bY bc l ca rs fs->I (d++w) S1 m1->Own S m S1->¬ S1 m.nxt->¬ S1 m0.nxt->Chg S m m1->m.nxt+2<=m1.nxt ->
    zu5 (zu6 ((fs.drop (k+1)).map zu4)) v (rem.map (·.1))=some vr->(w++vr).Perm vs->R [V.c (C.bool false)] m1:=by
   intro n
   induction n with
   | zero=>
    intro rem w vr S1 m1 hrem hit1 hb1 hG1 hI1 hO1 hS1 hS2 hC1 hn1 hvr hpw;have hrem:rem=[]:=List.eq_nil_of_length_eq_zero hrem;subst hrem;have hvr':vr=[]:=(oi hvr).symm;subst hvr';obtain⟨lx,q1,q2,q3⟩:=hit1.next;have hlx:=q2.2 rfl;subst hlx;refine hR false m1 ⟨[],q1,fun _=>?_,fun k' y' m' hl=>by cases hl⟩;rw[List.append_nil] at hpw;exact hQ w S1 m1 hpw hO1 hC1 hI1
   | succ n ihn=>
    intro rem w vr S1 m1 hrem hit1 hb1 hG1 hI1 hO1 hS1 hS2 hC1 hn1 hvr hpw;obtain⟨lx,q1,q2,q3⟩:=hit1.next;refine hR false m1 ⟨lx,q1,fun he=>?_,fun k' y' m2 hl=>?_⟩
    ·have:=q2.1 he
     rw[this] at hrem; cases hrem
    obtain⟨l1,a,l2,o2,rfl,rfl,hfa,e2,hen,hit2⟩:=q3 _ _ _ hl
    have n2:m2.nxt=m1.nxt:=by rw[e2]; rfl
    have v2:m2.vw=m1.vw:=by rw[e2]; rfl
    have g2:∀b,b ≠ m0.nxt->m2.g b=m1.g b:=fun b hb=>by rw[e2,M.g_set,if_neg hb]
    have hlt1:=hc.lt _ _ _ hI1
    have dlt:∀b,ChD ba bY bc ca rs b->b < m.nxt:=fun b hb=>by
     rcases hb with rfl | rfl | rfl | ⟨o',n',s',d',he⟩ | hb
     ·exact G.a.lt
     ·exact G.y.lt
     ·exact G.c.lt
     ·rcases G.s.val with ⟨h1,_⟩ | ⟨b',o1,t1,c1,h1,h2,_⟩
      ·rw[h1] at he; cases he
      ·rw[h1] at he; cases he; exact h2
     ·obtain⟨i,hi⟩:=List.getElem?_of_mem hb;have hilt:i < rs.length:=(List.getElem?_eq_some_iff.1 hi).1;exact(G.mp i b _ hi (List.getElem?_eq_getElem (by rw[G.len]; exact hilt))).lt
    have G2:ChG m2 ba bY bc l ca rs fs:=hG1.to (by omega) v2 fun b hb hDb=>g2 b (by have:=dlt b hDb; omega);have B2:Bk m2 m.nxt 6 (zzx v):=⟨(g2 _ (by omega)).trans hb1.g,by have:=hb1.lt; omega⟩;have I2:I (d++w) S1 m2:=hc.st _ _ _ _ hI1 (by omega) v2 (fun b hb=>g2 b fun h=>hS2 (h ▸ hb)) fun b hb=>g2 b (by omega);have C2:Chg S m m2:=⟨by have:=hC1.nxt; omega,fun b hb hs=>(g2 b (by omega)).trans (hC1.g b hb hs),v2.trans hC1.vw⟩;refine⟨a.1.pence,a.1.loser,y',hen,fun m3 e3=>?_⟩;obtain⟨b3,x3⟩:=Bk.new e3;refine⟨m3.set m2.nxt (.cells 2 [.int .i64 a.1.pence,.int .i64 a.1.loser] false),b3.st _,?_⟩;have k4:=b3.set [.int .i64 a.1.pence,.int .i64 a.1.loser];have x4:Ext m2 (m3.set m2.nxt (.cells 2 [.int .i64 a.1.pence,.int .i64 a.1.loser] false)):=x3.setR (Nat.le_refl _) _
    have q4:(m3.set m2.nxt (.cells 2 [.int .i64 a.1.pence,.int .i64 a.1.loser] false)).nxt=m2.nxt+1:=by show m3.nxt=_; rw[e3]; rfl
    generalize m3.set m2.nxt (.cells 2 [.int .i64 a.1.pence,.int .i64 a.1.loser] false)=m4 at k4 x4 q4 ⊢;have G4:=G2.ext x4;obtain⟨v',c,vr',p1,p2,p3,p4⟩:=zvb (v:=v) (a:=a.1) (l1:=l1.map (·.1)) (l2:=l2.map (·.1)) (by rw[<- hvr,List.map_append,List.map_cons]);have C4:Chg S m m4:=zzA C2 (fun b hb=>.inl hb) (zzC x4);refine⟨_,G4.c.rc rfl,by show zl0 .i64 ((k:Int)+1); unfold zl0; exact⟨by omega,by omega⟩,_,_,_,_,_,_,(B2.ext x4).ra,_,_,k4.ra,?_⟩;refine zyT (v:=v) (o:=a.1) (zzD hP C4 hSf) p1 fun m5 x5=>⟨_,_,_,_,_,_,rfl,?_⟩;have G5:=G4.ext x5;refine⟨?_,?_⟩
    ·show ifB true _ _
     exact G5.c.rc rfl
    have x45:=x4.trans x5;have I5:I (d++w) S1 m5:=hc.st _ _ _ _ I2 x45.nxt x45.vw (fun b hb=>x45.g b (by rw[n2]; exact hlt1 b hb)) fun b hb=>x45.g b (by have:=x45.nxt; omega);have C5:Chg S m m5:=zzA C4 (fun b hb=>.inl hb) (zzC x5)
    have n5:m2.nxt < m5.nxt:=by have:=x5.nxt; omega
    show Wc prog tbl 132 [.c (.int .i64 ((k:Int)+1)),.agg 6 (zzx v'),.c (.ptr ba 0),.c (.ptr bY 0),.c (.ptr bc 0)] m5 _
    rw[show(k:Int)+1=((k+1:Nat):Int) by omega];have hsub:(w++(c++vr')).Perm vs:=((List.Perm.append_left w p4).trans hpw);refine ih (k+1) v' c (d++w) S1 m5 (by omega) (by omega) (zzD hP C5 hSf) G5 I5 (fun b hb=>(hO1 b hb).elim (hSf b) fun h=>⟨hP.fz b (Nat.le_trans hP.sub.nxt h),hP.fv b (Nat.le_trans hP.sub.nxt h)⟩) (fun b hb hDb=>?_) p2 ?_ (fun u hu=>hA u (hsub.subset (List.mem_append_right _ (List.mem_append_left _ hu)))) _ fun vs' S' m6 hpv hO6 hC6 hI6=>⟨true,rfl,?_⟩
    ·rcases hO1 b hb with h | h
     ·exact hD b h hDb
     ·have:=dlt b hDb; omega
    ·have:=hsub.length_eq
     simp only[List.length_append] at this ⊢
     omega
    ·-- the next round
     show ifB false _ _
     have hC16:Chg S1 m5 m6:=hC6;have keep:∀b,b < m5.nxt->¬ S1 b->m6.g b=m5.g b:=hC6.g;have hit5:ItR (zqy Oc) m5 m0.nxt r (fOc g) (l1++l2):=hit2.to (x45.g _ (by omega)) (x45.g _ (by have:=dlt r (.inr (.inr (.inr (.inr (List.mem_of_getElem? hr))))); omega));have hrD:ChD ba bY bc ca rs r:=.inr (.inr (.inr (.inr (List.mem_of_getElem? hr))))
     have hS1D:∀b,ChD ba bY bc ca rs b->¬ S1 b:=fun b hDb hb=>by
      rcases hO1 b hb with h | h
      ·exact hD b h hDb
      ·have:=dlt b hDb; omega
     refine ihn (l1++l2) (w++vs') vr' S' m6 ?_ (hit5.to (keep _ (by omega) hS2) (keep r (by have:=dlt r hrD; omega) (hS1D r hrD))) ?_ ?_ ?_ ?_ ?_ ?_ ?_ ?_ ?_ ?_
     ·simp only[List.length_append,List.length_cons] at hrem ⊢; omega
     ·exact⟨(keep _ (by omega) hS1).trans ((x45.g _ (by omega)).trans B2.g),by have:=hC6.nxt; omega⟩
     ·exact G5.to hC6.nxt hC6.vw fun b hb hDb=>keep b hb (hS1D b hDb)
     ·rw[<- List.append_assoc]; exact hI6
     ·exact zzB hO1 (by have:=C5.nxt; omega) hO6
     ·intro hb
      rcases hO6 _ hb with h | h
      ·exact hS1 h
      ·omega
     ·intro hb
      rcases hO6 _ hb with h | h
      ·exact hS2 h
      ·omega
     ·exact zzA C5 hO1 hC6
     ·have:=hC6.nxt; omega
     ·rw[List.map_append]; exact p3
     ·refine List.Perm.trans ?_ hsub;rw[List.append_assoc];exact(hpv.append_right vr').append_left w
  have x016:=x0.trans x16;refine main ks.length ks [] vr0 S m16 rfl it16 ((b0.ext x16)) (g0.ext x16) ?_ (fun b hb=>.inl hb) (fun hb=>by have:=hlt _ hb; omega) (fun hb=>by have:=hlt _ hb; omega) (zzC x016) (by omega) hvr0 hpr0;rw[List.append_nil];exact hc.st _ _ _ _ hI x016.nxt x016.vw (fun b hb=>x016.g b (hlt b hb)) fun b hb=>x016.g b (by omega)
structure zzF where
 b:Nat
instance:Rp zzF:=⟨1,by omega,fun _ cs a=>cs=[.map a.b],fun h=>by rw[h]; rfl,fun h _=>h⟩
theorem zzG{f:M}:∀{l:List zzF} {vs:List C},Cat f vs l->vs=(l.map (·.b)).map C.map
 | [],vs,h=>h
 | a::l,vs,h=>by
  obtain⟨cs,ws,h1,h2,h3⟩:=h;have h2:cs=[.map a.b]:=h2;rw[h1,h2,zzG h3]; rfl
theorem zzH:TA prog 196 1:=⟨197,by kernel_rfl,by kernel_rfl,by kernel_rfl⟩
theorem zzI{K V' K2 V2:Type}[MK K][MV V'][MK K2][MV V2]{F:Fm}{f0 f m m' f':M}(s:St F f0 f m){τ:Nat->Nat}{t:Nat}{c:C}{M M':Option (K->Option V')}(h:Mo F f τ m t c M)(g:zrp c m f m' f')(h':Mi m' c M'){c2:C}{M2:Option (K2->Option V2)}(hn:Mn m f' m' c2 M2)(t2:Nat) :
  ∃τ',St F f0 f' m'/\Kp τ f m τ' f' m' [t]/\Mo F f' τ' m' t c M'/\Mo F f' τ' m' t2 c2 M2:=by
 obtain⟨s1,k1,h1⟩:=s.callGM h g h';refine⟨fun b=>if m.nxt<=b then t2 else τ b,s1,⟨k1.nxt,fun b hb=>if_neg (by omega),k1.g,k1.fg,k1.fs,k1.vw⟩,⟨h1.mi,fun b hb=>?_⟩,hn.mi,fun b hb=>?_⟩
 ·obtain⟨q1,q2,q3,q4⟩:=h1.own b hb;have:=(h.own b hb).2.2.2;exact⟨q1,q2,(if_neg (by omega)).trans q3,q4⟩
 ·obtain⟨q1,q2,q3⟩:=hn.own b hb;exact⟨.inl (Nat.le_trans s.ext.nxt q2),q1,if_pos q2,q3⟩
theorem zzJ{w:UWk}{ca100 ca103 ca104:C}{b0 n0 l N:Nat}{A:Ver->Prop}{I:List Ver->(Nat->Prop)->M->Prop}(hc:zzz n0 l N A I){S:Nat->Prop}{m f:M}{Q:V->M->Prop}{rz:List (Oc->Option Bool) × Option (Clm->Option Int)}{vs:List Ver}
    (hS:Pre f m) (hw:Bk f b0 5 [ca100,Il w.c.Day,Il w.c.Fee,ca103,ca104]) (ha100:Sl f ca100 w.c.Tariffs) (ha103:Sl f ca103 w.c.Fields) (ha104:Mc f m ca104 w.payments)
    (hp:zu8 w w.c.Fields w.payments=some rz) (_hlen:w.c.Fields.length<=1000) (hv:zu6 (rz.1.map zu4) (zu9 w.c.Fee)=some vs) (hN:vs.length<=N) (hA:∀u∈vs,A u)
    (hn0:n0<=m.nxt) (hI:∀m',zqB ca104 m m'->Mi m' ca104 rz.2->I [] S m') (hSl:∀b,S b->b < m.nxt) (hSf:∀b,S b->f.g b=none/\f.vw b=none) (hSc:∀b,S b->ca104 ≠ .map b)
    (hq:∀vs' S' m1 m',vs'.Perm vs->zqB ca104 m m1->Own S m1 S'->Chg S m1 m'->I vs' S' m'->Q (.tup []) m') :
    Wc prog tbl 130 [.c (.fn (.yield l) [] []),.c (.ptr b0 0)] m Q:=by
 have S0:=hS.stM ha104;obtain⟨τ0,M0⟩:∃τ,Mo (Fm.mp m ca104) f τ m 1 ca104 w.payments:=⟨_,ha104.mo 1⟩;refine zzw _ _ ?_;intro D e0;obtain⟨τ1,S1,k1,Ly⟩:=S0.blk e0 τ0 2;have M1:=M0.k k1;intro m1 e1;obtain⟨τ2,S2,k2,La⟩:=S1.blk e1 τ1 3;have Ly:=Ly.k k2;have M2:=M1.k k2;refine⟨trivial,trivial,_,(hw.sub S2.sub).rc rfl,ha103.isSl,?_⟩;intro R3 O
 have hgo:∀(q:List Fld) (i:Nat) (ca:C) (rs:List zzF) (gs:List (Oc->Option Bool)) (p:Option (Clm->Option Int)) (s:List (Oc->Option Bool) × Option (Clm->Option Int)) (d x:M) (τ:Nat->Nat),i+q.length=w.c.Fields.length->w.c.Fields.drop i=q->rs.length=i->gs.length=i->St (Fm.mp m ca104) f x d->Lb (Fm.mp m ca104) x τ d 2 m.nxt 1 [.fn (.yield l) [] []]->Lb (Fm.mp m ca104) x τ d 3 D.nxt 1 [ca]->Ow (Fm.mp m ca104) x τ d 4 ca rs->Mo (Fm.mp m ca104) x τ d 1 ca104 p->(∀(j:Nat) (r:zzF) (g:Oc->Option Bool),rs[j]? = some r->gs[j]? = some g->Mo (Fm.mp m ca104) x τ d 5 (.map r.b) (some g)) ->
   zu8 w q p=some s->rz=(gs++s.1,s.2)->R3 [.c (Il (i:Int))] d:=by
  intro q
  induction q with
  | nil=>
   intro i ca rs gs p s d x τ hi hd hrs hgs S5 Ly La Oa Mp Mm hp hrz;refine O _ _ ?_;rw[ha103.slLen];refine zpG.2 ⟨fun h=>by simp at hi; omega,fun _=>?_⟩;intro ab ka;obtain⟨τ6,S6,n,Lc⟩:=S5.blk ka τ 6;have Ly:=Ly.k n;have La:=La.k n;have Mp:=Mp.k n;have Oa:=Oa.k n;have Mm:=fun j r g hr hg=>(Mm j r g hr hg).k n (by decide);obtain⟨o,la,e,t,Lc⟩:=Lc.sto S6 [(C.fn (Fn.func 132) [] [(W.c (C0.ptr (D).nxt 0)),(W.c (C0.ptr (m).nxt 0)),(W.c (C0.ptr (d).nxt 0))])];have Ly:=Ly.k t;have La:=La.k t;have Mp:=Mp.k t;have Oa:=Oa.k t;have Mm:=fun j r g hr hg=>(Mm j r g hr hg).k t (by decide);refine⟨o,la,_,Lc.bk.rc rfl,trivial,trivial,_,(hw.sub (e.fs.trans e.sub)).rc rfl,?_⟩;obtain rfl:=oi hp
   have ba:rz.1=gs:=by rw[hrz]; exact List.append_nil _
   have da:rz.2=p:=by rw[hrz]
   have hext:=e.extB;have hpre:Pre f o:=⟨e.fs.trans e.sub,hS.fz,hS.fv⟩;obtain⟨ws,o1,o2⟩:=Oa.own;have o2:=zzG o2
   have hi':i=w.c.Fields.length:=by simpa using hi
   show Wc prog tbl 132 [.c (Il ((0:Nat):Int)),.agg 6 (zzx (zu9 w.c.Fee)),.c (.ptr D.nxt 0),.c (.ptr m.nxt 0),.c (.ptr d.nxt 0)] o _
   have hg:ChG o D.nxt m.nxt d.nxt l ca (rs.map (·.b)) gs:=by
    refine⟨La.bk,Ly.bk,Lc.bk,?_,by rw[List.length_map]; omega,fun j r g hr hg=>?_⟩
    ·have:=o1.ls;rw[o2] at this;rw[List.length_map];exact this
    ·rw[List.getElem?_map] at hr
     obtain⟨r',hr',rfl⟩:∃r',rs[j]? = some r'/\r'.b=r:=by
      cases h:rs[j]? with
      | none=>rw[h] at hr; cases hr
      | some r'=>rw[h] at hr; exact⟨r',rfl,oi hr⟩
     obtain⟨b,ma,na⟩:=(Mm j r' g hr' hg).mi
     cases ma
     exact na
   have hSD:∀b,S b->¬ ChD D.nxt m.nxt d.nxt ca (rs.map (·.b)) b:=by
    intro b hb hD;have hlt:=hSl b hb;have n1:=S1.ext.nxt;have n5:=S5.ext.nxt
    have hF:∀b',b'=b->¬ ((Fm.mp m ca104).m.nxt<=b'\/(Fm.mp m ca104).B b'):=by
     intro b' hbb h;subst hbb;exact h.elim (fun h=>absurd hlt (Nat.not_lt_of_le h)) (hSc b' hb)
    rcases hD with h | h | h | ⟨o',n',s',d',he⟩ | h
    ·exact hF D.nxt h.symm La.new
    ·exact hF m.nxt h.symm Ly.new
    ·exact hF d.nxt h.symm Lc.new
    ·exact hF b rfl (Oa.nw _ _ _ _ _ he).1
    ·obtain⟨r',hr',rfl⟩:=List.mem_map.1 h;obtain⟨j,hj⟩:=List.getElem?_of_mem hr';have hjl:j < rs.length:=(List.getElem?_eq_some_iff.1 hj).1;exact hF _ rfl ((Mm j r' _ hj (List.getElem?_eq_getElem (by omega))).own _ rfl).1
   refine zzE hc (by rw[List.length_map]; omega) rs.length 0 (zu9 w.c.Fee) vs [] S o (by rw[List.length_map]; omega) (Nat.le_trans hn0 hext.nxt) hpre hg (hI o hext (by rw[da]; exact Mp.mi)) hSf hSD (by rw[List.drop_zero,<- ba]; exact hv) (by simpa using hN) hA _ fun vs' S' m' hpv ho hch hI'=>⟨true,rfl,?_⟩;exact hq vs' S' o m' hpv hext ho hch hI'
  | cons fl q ih=>
   intro i ca rs gs p s d x τ hi hd hrs hgs S5 Ly La Oa Mp Mm hp hrz
   have hil:i < w.c.Fields.length:=by simp at hi; omega
   have hfl:w.c.Fields[i]? = some fl:=by
    have h0:(w.c.Fields.drop i)[0]? = some fl:=by rw[hd]; rfl
    rwa [List.getElem?_drop,Nat.add_zero] at h0
   refine O _ _ ?_;rw[ha103.slLen];refine zpG.2 ⟨fun _=>?_,fun h=>absurd (Int.ofNat_lt.2 hil) h⟩;obtain⟨_,r1⟩:=zrK ha103 hfl;refine⟨i,rfl,hil,_,_,_,_,_,_,_,_,_,(r1 _ (S5.fs.trans S5.sub)).1,?_⟩;intro bb oa;obtain⟨τ6,S6,n,Lf⟩:=S5.blk oa τ 6;have Ly:=Ly.k n;have La:=La.k n;have Mp:=Mp.k n;have Oa:=Oa.k n;have Mm:=fun j r g hr hg=>(Mm j r g hr hg).k n (by decide);obtain⟨pa,qa,e,t,Lf⟩:=Lf.sto S6 [Il fl.Crop,Il fl.Value,Il fl.Near,Il fl.First.Lo,Il fl.First.Hi,Il fl.Second.Lo,Il fl.Second.Hi,Il fl.Umpire.Lo,Il fl.Umpire.Hi];have Ly:=Ly.k t;have La:=La.k t;have Mp:=Mp.k t;have Oa:=Oa.k t;have Mm:=fun j r g hr hg=>(Mm j r g hr hg).k t (by decide);refine⟨pa,qa,_,La.bk.rc rfl,_,_,_,_,_,(hw.sub (e.fs.trans e.sub)).ra,_,_,_,_,_,_,_,_,_,Lf.bk.ra,?_⟩;obtain⟨r,sa,ta⟩:=zqd (show(zuj ({ c:=w.c,payments:=p }:UWk) fl).bind _=some s from hp);obtain⟨g,P,ua⟩:=zqd ta;obtain⟨s',va,wa⟩:=zqd ua
   cases wa
   refine zy2 (w:=({ c:=w.c,payments:=p }:UWk)) (f_:=fl) e.pre (ha100.sub e.fs) (ha103.sub e.fs) (Mp.mc e) sa fun cb T xa ya za fa=>?_;obtain⟨τ8,S8,J,Mp,Mr⟩:=zzI e Mp ya fa za 5;have Ly:=Ly.k J;have La:=La.k J;have Oa:=Oa.k J;have Mm:=fun j r g hr hg=>(Mm j r g hr hg).k J (by decide)
   obtain⟨z,ga,_⟩:∃b,xa=.map b/\True:=by
    have:=Mr.mi;rw[P] at this;obtain⟨b,hb,_⟩:=this;exact⟨b,hb,trivial⟩
   subst ga;refine⟨_,rfl,?_,?_⟩
   ·rw[zoM Oa.noFn]; exact La.bk.rc rfl
   intro db Y;have Aa:=La;have Ba:=Oa;obtain⟨F,Ca,τ9,Da,S9,G,Oa'⟩:=Oa.app' zzH S8 (a:=(⟨z⟩:zzF)) (show Rp.rep (α:=zzF) T [.map z] ⟨z⟩ from rfl) (by omega) Y;have Ly:=Ly.k G;have La:=La.k G;have Mp:=Mp.k G;have Mr:=Mr.k G;have Mm:=fun j r g hr hg=>(Mm j r g hr hg).k G (by decide);refine⟨?_,F,Ca,Da,?_⟩
   ·rw[zoM Ba.noFn]; exact(Aa.bk.ext (Bk.new Y).2).rc rfl
   obtain⟨Z,Ea,Fa,y,La⟩:=La.sto S9 [F];have Ly:=Ly.k y;have Mp:=Mp.k y;have Oa':=Oa'.k y;have Mr:=Mr.k y;have Mm:=fun j r g hr hg=>(Mm j r g hr hg).k y (by decide);refine⟨Z,Ea,by unfold zl0; exact⟨by omega,by omega⟩,?_⟩
   have hx:rz=((gs++[g])++s'.1,s'.2):=by rw[hrz,List.append_assoc]; rfl
   rw[show(i:Int)+1=((i+1:Nat):Int) by omega];refine ih (i+1) F (rs++[⟨z⟩]) (gs++[g]) r.2 s' Z T τ9 (by simp at hi; omega) ?_ (by simp; omega) (by simp; omega) Fa Ly La Oa' Mp ?_ va hx
   ·rw[<- List.drop_drop,hd]; rfl
   ·intro j rr gg hrr hgg;rw[List.getElem?_append] at hrr hgg
    by_cases hj:j < i
    ·rw[if_pos (by omega)] at hrr hgg;exact Mm j rr gg hrr hgg
    ·rw[if_neg (by omega)] at hrr hgg
     have Ga:j - rs.length=0:=by
      rcases Nat.eq_zero_or_pos (j - rs.length) with h | h
      ·exact h
      ·rw[List.getElem?_eq_none (by simp; omega)] at hrr; cases hrr
     rw[Ga] at hrr;rw[show j - gs.length=0 by omega] at hgg
     cases hrr; cases hgg
     rw[P] at Mr;exact Mr
 exact hgo w.c.Fields 0 .sl0 [] [] w.payments rz m1 f τ2 (by omega) rfl rfl rfl S2 Ly La (Ow.nil ..) M2 (fun j r g hr _=>by cases hr) hp rfl
def lastN:List Int->Int->Nat
 | _x::y::l,n=>if y<=n then lastN (y::l) n+1 else 0
 | _,_=>0
theorem zzK:∀(l:List Int) (n:Int),l ≠ []->lastN l n < l.length
 | [],_,h=>absurd rfl h
 | [_],_,_=>by simp[lastN]
 | x::y::l,n,_=>by
  unfold lastN
  split
  ·have:=zzK (y::l) n (by simp)
   simp only[List.length_cons] at this ⊢; omega
  ·simp
theorem zzL:∀(l:List Int) (n:Int),(∀x,l.head? = some x->x<=n)->∀x,l[lastN l n]? = some x->x<=n
 | [],_,_,x,h=>by simp at h
 | [a],n,h0,x,h=>by
  simp[lastN] at h; subst h; exact h0 a rfl
 | a::y::l,n,h0,x,h=>by
  unfold lastN at h
  split at h
  ·rename_i hy
   rw[List.getElem?_cons_succ] at h;exact zzL (y::l) n (fun z hz=>by simp at hz; omega) x h
  ·simp at h; subst h; exact h0 _ rfl
theorem zzM:∀(l:List Int) (n:Int),l.Pairwise (· < ·)->∀j,lastN l n < j->∀x,l[j]? = some x->n < x
 | [],_,_,j,_,x,h=>by simp at h
 | [a],n,_,j,hj,x,h=>by
  have:j < [a].length:=(List.getElem?_eq_some_iff.1 h).1
  simp at this; omega
 | a::y::l,n,hp,j,hj,x,h=>by
  have hp':=(List.pairwise_cons.1 hp).2;unfold lastN at hj
  cases j with
  | zero=>omega
  | succ j=>
   rw[List.getElem?_cons_succ] at h
   split at hj
   ·exact zzM (y::l) n hp' j (by omega) x h
   ·rename_i hy
    have hx:x∈y::l:=List.mem_of_getElem? h
    rcases List.mem_cons.1 hx with hx | hx
    ·omega
    ·have:=(List.pairwise_cons.1 hp').1 x hx; omega
theorem zzN{l:List Int}(hp:l.Pairwise (· < ·)){i j:Nat}{x y:Int}(hx:l[i]? = some x)(hy:l[j]? = some y)(hij:i < j):x < y:=by
 obtain⟨h1,h2⟩:=List.getElem?_eq_some_iff.1 hx;obtain⟨h3,h4⟩:=List.getElem?_eq_some_iff.1 hy;rw[<- h2,<- h4];exact List.pairwise_iff_getElem.1 hp i j h1 h3 hij
theorem zzO{l:List Int}{n:Int}(hp:l.Pairwise (· < ·)){k:Nat}(hk:k < l.length)(h1:∀x,l[k]? = some x->x<=n)(h2:∀x,l[k+1]? = some x->n < x)(h0:∀x,l.head? = some x->x<=n):lastN l n=k:=by
 have hne:l ≠ []:=fun h=>by subst h; simp at hk
 have hl:=zzK l n hne;obtain⟨a,ha⟩:∃a,l[lastN l n]? = some a:=⟨_,List.getElem?_eq_getElem hl⟩;obtain⟨b,hb⟩:∃b,l[k]? = some b:=⟨_,List.getElem?_eq_getElem hk⟩;have h3:=zzL l n h0 a ha;have h4:=h1 b hb
 rcases Nat.lt_trichotomy (lastN l n) k with h | h | h
 ·have:=zzM l n hp k h b hb; omega
 ·exact h
 ·have hk1:k+1 < l.length:=by omega
  have h5:=h2 _ (List.getElem?_eq_getElem hk1)
  rcases Nat.lt_or_ge (k+1) (lastN l n) with h6 | h6
  ·have:=zzN hp (List.getElem?_eq_getElem hk1) ha h6; omega
  ·have h7:lastN l n=k+1:=by omega
   rw[h7,List.getElem?_eq_getElem hk1] at ha
   cases ha; omega
def nth(l:List Int)(i:Nat):Int:=l.getD i 0
theorem zzP{l:List Int}{i:Nat}{x:Int}(h:l[i]? = some x):nth l i=x:=by
 unfold nth; rw[List.getD_eq_getElem?_getD,h]; rfl
theorem zzQ{l:List Int}{i:Nat}(h:i < l.length):l[i]? = some (nth l i):=by
 rw[List.getElem?_eq_getElem h,zzP (List.getElem?_eq_getElem h)]
def zzR(a b x y n:Int):Int:=(x * (b - n)+y * (n - a)) / (b - a)
def zzS(counts rates:List Int)(n:Int):Int:=
 let i:=lastN counts n
 if nth counts i=n then nth rates i else zzR (nth counts i) (nth counts (i+1)) (nth rates i) (nth rates (i+1)) n
theorem zzT{a b x y n z:Int}(h1:a<=n)(h2:n<=b)(hab:a < b)(_hx:0<=x)(_hy:0<=y)(hxz:x<=z)(hyz:y<=z):zzR a b x y n<=z:=by
  unfold zzR;have e1:x * (b - n)<=z * (b - n):=Int.mul_le_mul_of_nonneg_right hxz (by omega);have e2:y * (n - a)<=z * (n - a):=Int.mul_le_mul_of_nonneg_right hyz (by omega)
  have e3:z * (b - n)+z * (n - a)=z * (b - a):=by rw[<- Int.mul_add]; congr 1; omega
  have:x * (b - n)+y * (n - a)<=z * (b - a):=by omega
  calc (x * (b - n)+y * (n - a)) / (b - a)<=(z * (b - a)) / (b - a):=Int.ediv_le_ediv (by omega) this
    _=z:=Int.mul_ediv_cancel _ (by omega)
theorem zzU{a b x y n z:Int}(h1:a<=n)(h2:n<=b)(hab:a < b)(_hz:0<=z)(hxz:z<=x)(hyz:z<=y):z<=zzR a b x y n:=by
  unfold zzR;have e1:z * (b - n)<=x * (b - n):=Int.mul_le_mul_of_nonneg_right hxz (by omega);have e2:z * (n - a)<=y * (n - a):=Int.mul_le_mul_of_nonneg_right hyz (by omega)
  have e3:z * (b - n)+z * (n - a)=z * (b - a):=by rw[<- Int.mul_add]; congr 1; omega
  have:z * (b - a)<=x * (b - n)+y * (n - a):=by omega
  calc z=(z * (b - a)) / (b - a):=(Int.mul_ediv_cancel _ (by omega)).symm
    _<=_:=Int.ediv_le_ediv (by omega) this
structure Cnt (counts:List Int):Prop where
 pw:counts.Pairwise (· < ·)
 hd:counts.head? = some 0
 lst:counts.getLast? = some 100
structure Rts (counts rates:List Int):Prop extends Cnt counts where
 len:rates.length=counts.length
 rng:∀r∈rates,0<=r/\r<=100
variable {cs rs:List Int}
theorem Cnt.ne(h:Cnt cs):cs ≠ []:=fun e=>by have:=h.hd; rw[e] at this; cases this
theorem Cnt.h0(h:Cnt cs){n:Int}(hn:0<=n):∀x,cs.head? = some x->x<=n:=fun x hx=>by
 have:=h.hd; rw[this] at hx; cases hx; exact hn
theorem Cnt.lt(h:Cnt cs)(n:Int):lastN cs n < cs.length:=zzK cs n h.ne
theorem Cnt.btw(h:Cnt cs){n:Int}(hn:0<=n)(h100:n<=100):nth cs (lastN cs n)<=n/\(nth cs (lastN cs n) ≠ n->lastN cs n+1 < cs.length/\n < nth cs (lastN cs n+1)):=by
 have hl:=h.lt n;have h1:=zzL cs n (h.h0 hn) _ (zzQ hl);refine⟨h1,fun hne=>?_⟩
 have hlast:cs[cs.length - 1]? = some 100:=by rw[<- h.lst,List.getLast?_eq_getElem?]
 have hlt:lastN cs n+1 < cs.length:=by
  rcases Nat.lt_or_ge (lastN cs n+1) cs.length with hh | hh
  ·exact hh
  ·have:lastN cs n=cs.length - 1:=by omega
   rw[this] at hne h1;have:=zzP hlast
   omega
 exact⟨hlt,zzM cs n h.pw _ (Nat.lt_succ_self _) _ (zzQ hlt)⟩
theorem Rts.at(h:Rts cs rs){i:Nat}(hi:i < cs.length):0<=nth rs i/\nth rs i<=100:=by
 have:i < rs.length:=by rw[h.len]; exact hi
 exact h.rng _ (List.mem_of_getElem? (zzQ this))
theorem Rts.loss_rng(h:Rts cs rs){n:Int}(hn:0<=n)(h100:n<=100):0<=zzS cs rs n/\zzS cs rs n<=100:=by
 obtain⟨h1,h2⟩:=h.btw hn h100;have hi:=h.at (h.lt n);unfold zzS; dsimp only
 split
 ·exact hi
 ·rename_i hne
  obtain⟨h3,h4⟩:=h2 hne;have hi2:=h.at h3;exact⟨zzU h1 (by omega) (by omega) (Int.le_refl _) hi.1 hi2.1,zzT h1 (by omega) (by omega) hi.1 hi2.1 hi.2 hi2.2⟩
theorem Cnt.last_at(h:Cnt cs){i:Nat}(hi:i < cs.length):lastN cs (nth cs i)=i:=by
 refine zzO h.pw hi (fun x hx=>?_) (fun x hx=>?_) fun x hx=>?_
 ·rw[zzP hx]; exact Int.le_refl _
 ·exact zzN h.pw (zzQ hi) hx (Nat.lt_succ_self _)
 ·have h0:cs[0]? = some x:=by rw[<- hx]; cases cs <;> rfl
  rcases Nat.eq_zero_or_pos i with h5 | h5
  ·subst h5; rw[zzP h0]; exact Int.le_refl _
  ·exact Int.le_of_lt (zzN h.pw h0 (zzQ hi) h5)
end
end Go.Proofs.YtnjbahoohfaplaaGreat

namespace Go.Proofs.YtnjbahoohfaplaaGreat
open _root_.Go.Proofs.Tryz
open Go.Abs
set_option maxRecDepth 100000
noncomputable section
structure VT (t:Tf):Prop where
 frm:0<=t.From/\t.From<=120
 lst:0<=t.Least/\t.Least<=100
 wks:t.Weeks.Pairwise (· < ·)/\t.Weeks.head? = some 0/\∀x∈t.Weeks,0<=x/\x<=120
 cts:t.Counts.Pairwise (· < ·)/\t.Counts.head? = some 0/\∀x∈t.Counts,0<=x/\x<=100
 c100:t.Counts.getLast? = some 100
 rne:t.Rates ≠ []
 rts:∀c∈t.Rates,c.length=t.Weeks.length/\∀w∈c,w.length=t.Counts.length/\∀r∈w,0<=r/\r<=100
def zzV(l:List Tf):Nat:=match l with | []=>0 | t::_=>t.Rates.length
structure VL (l:List Tf):Prop where
 ne:l ≠ []
 vt:∀t∈l,VT t
 pw:(l.map (·.From)).Pairwise (· < ·)
 hd:(l.map (·.From)).head? = some 0
 crp:∀t∈l,t.Rates.length=zzV l
def zzW(t:Tf):Prop:=4 < t.Weeks.length\/5 < t.Counts.length\/3 < t.Rates.length
def zzX(l:List Tf):Prop:=3 < l.length\/∃t∈l,zzW t
open Classical in
def zzY(l:List Tf):Int:=if zzX l then 3 else if VL l then 0 else 1
theorem zzZ{l:List Tf}:zzY l=0↔¬ zzX l/\VL l:=by
 unfold zzY
 split
 ·rename_i h; exact⟨fun h=>by omega,fun h'=>absurd h h'.1⟩
 ·rename_i h
  split
  ·rename_i h2; exact⟨fun _=>⟨h,h2⟩,fun _=>rfl⟩
  ·rename_i h2; exact⟨fun h=>by omega,fun h'=>absurd h'.2 h2⟩
def zz0(t:Tf)(crop day:Int):List Int:=(t.Rates.getD crop.toNat []).getD (lastN t.Weeks day) []
def zz1(t:Tf)(loss:Int):Int:=if loss < t.Least then 0 else if t.Whole=true then loss else loss - t.Least
def zz2(t:Tf)(crop day count:Int):Int:=zz1 t (zzS t.Counts (zz0 t crop day) count)
instance:Inhabited Tf:=⟨⟨0,false,0,[],[],[]⟩⟩
def ofN(l:List Tf)(day:Int):Tf:=l.getD (lastN (l.map (·.From)) day) default
def zz3(l:List Tf)(crop day count:Int):Int:=zz2 (ofN l day) crop day count
theorem VT.wlt{t:Tf}(h:VT t)(d:Int):lastN t.Weeks d < t.Weeks.length:=zzK _ _ fun e=>by have:=h.wks.2.1; rw[e] at this; cases this
theorem VT.cnt{t:Tf}(h:VT t):Cnt t.Counts:=⟨h.cts.1,h.cts.2.1,h.c100⟩
theorem VT.rates{t:Tf}(h:VT t){crop:Int}(h0:0<=crop)(h1:crop < t.Rates.length)(day:Int) :
  ∃wks,t.Rates[crop.toNat]? = some wks/\wks[lastN t.Weeks day]? = some (zz0 t crop day)/\Rts t.Counts (zz0 t crop day):=by
 have hc:crop.toNat < t.Rates.length:=by omega
 have e1:=List.getElem?_eq_getElem hc;obtain⟨q1,q2⟩:=h.rts _ (List.getElem_mem hc)
 have hw:lastN t.Weeks day < t.Rates[crop.toNat].length:=by rw[q1]; exact h.wlt day
 have e2:=List.getElem?_eq_getElem hw
 have e3:zz0 t crop day=t.Rates[crop.toNat][lastN t.Weeks day]:=by
  have e4:t.Rates.getD crop.toNat []=t.Rates[crop.toNat]:=by rw[List.getD_eq_getElem?_getD,e1]; rfl
  unfold zz0;rw[e4,List.getD_eq_getElem?_getD,e2,Option.getD_some]
 obtain⟨q3,q4⟩:=q2 _ (List.getElem_mem hw);refine⟨_,e1,by rw[e2,e3],⟨h.cnt,by rw[e3]; exact q3,by rw[e3]; exact q4⟩⟩
theorem VL.of{l:List Tf}(h:VL l)(day:Int):l[lastN (l.map (·.From)) day]? = some (ofN l day)/\ofN l day∈l:=by
 have hl:=zzK (l.map (·.From)) day fun e=>h.ne (List.map_eq_nil_iff.1 e);rw[List.length_map] at hl
 have e:l[lastN (l.map (·.From)) day]? = some (ofN l day):=by
  unfold ofN;rw[List.getD_eq_getElem?_getD,List.getElem?_eq_getElem hl,Option.getD_some]
 exact⟨e,List.mem_of_getElem? e⟩
theorem zz4{t:Tf}(h:VT t){x:Int}(h0:0<=x)(h1:x<=100):0<=zz1 t x/\zz1 t x<=100:=by
 have:=h.lst;unfold zz1
 split
 ·omega
 ·split <;> omega
theorem VL.vof{l:List Tf}(h:VL l)(day:Int):VT (ofN l day):=h.vt _ (h.of day).2
theorem VL.cof{l:List Tf}(h:VL l)(day:Int):(ofN l day).Rates.length=zzV l:=h.crp _ (h.of day).2
theorem VL.rts{l:List Tf}(h:VL l){crop:Int}(h0:0<=crop)(h1:crop < zzV l)(day:Int):Rts (ofN l day).Counts (zz0 (ofN l day) crop day):=by
 obtain⟨_,_,_,q⟩:=(h.vof day).rates h0 (by rw[h.cof]; exact h1) day;exact q
theorem VL.part_rng{l:List Tf}(h:VL l){crop n:Int}(h0:0<=crop)(h1:crop < zzV l)(hn:0<=n)(hn1:n<=100)(day:Int):0<=zz3 l crop day n/\zz3 l crop day n<=100:=by
 obtain⟨q1,q2⟩:=(h.rts h0 h1 day).loss_rng hn hn1;exact zz4 (h.vof day) q1 q2
end
end Go.Proofs.YtnjbahoohfaplaaGreat

namespace Go.Proofs.YtnjbahoohfaplaaGreat
open _root_.Go.Proofs.Tryz
open Go.Abs
set_option maxRecDepth 100000
noncomputable section
theorem zz5{n lo hi:Int}:Ev (zrP n lo hi) (lo<=n/\n<=hi):=Ev.ite fun _=>Ev.dec Iff.rfl
theorem zz6{r:Rg}{n:Int}:Ev (zsh r n) (r.Lo<=n/\n<=r.Hi):=Ev.ite fun _=>Ev.dec Iff.rfl
theorem zz7{n:Int}:Ev (zsj n) (0<=n/\n<=120):=zz6.ret
theorem zz8{n:Int}:Ev (zsk n) (0<=n/\n<=100):=zz6.ret
theorem zz9{n:Int}:Ev (zsl n) (0<=n/\n<=100):=zz6.ret
theorem zAa{n s:Int}(hs:0<=s/\s<=4611686018427387904):Ev (zsi n s) (0<=n/\n < s):=Ev.gd (fI (by omega)) (zz6.ret.imp (by show 0<=n/\n<=s - 1↔_; omega))
theorem zAb{l:List Int}{k:Nat}(h:k < l.length):idx l (k:Int)=some (nth l k):=zq3 (zzQ h)
theorem zAc{l:List Int}{k:Nat}(h0:0 < k)(h:k - 1 < l.length):idx l ((k:Int) - 1)=some (nth l (k - 1)):=zq5 h0 (zzQ h)
theorem zAd:∀{l:List Int},(∀j,0 < j->j < l.length->nth l (j - 1) < nth l j)->l.Pairwise (· < ·)
 | [],_=>.nil
 | [a],_=>List.pairwise_singleton _ _
 | a::b::l,h=>by
  have h1:(b::l).Pairwise (· < ·):=zAd fun j h0 hj=>by
   have:=h (j+1) (by omega) (by simp at hj ⊢; omega);obtain⟨i,rfl⟩:∃i,j=i+1:=⟨j - 1,by omega⟩;exact this
  have h2:a < b:=h 1 (by omega) (by simp);refine List.pairwise_cons.2 ⟨fun x hx=>?_,h1⟩
  rcases List.mem_cons.1 hx with rfl | hx
  ·exact h2
  ·exact Int.lt_trans h2 ((List.pairwise_cons.1 h1).1 x hx)
theorem zAe{l:List Int}:(∀j,0 < j->j < l.length->nth l (j - 1) < nth l j)↔l.Pairwise (· < ·):=
 ⟨zAd,fun h j h0 hj=>zzN h (zzQ (by omega)) (zzQ hj) (by omega)⟩
theorem zAf{l:List Int}(hl:zre l):Ev (zsn l) (l.Pairwise (· < ·)/\l.head? = some 0):=by
 have hl:=hl.lt
 have key:Ev (zsm l (l.length+1) 0) ((∀j,j < l.length->(0 < j->nth l (j - 1) < nth l j))/\l.head? = some 0):=by
  refine Ev.loop (F:=zsm l) (fin:=if (0:Int) < (l.length:Int) then ((idx l (0:Int)).bind fun x=>some (decide (x=(0:Int)))) else some false) (fun d k hk=>?_) (fun d=>?_) (by omega) fun _=>?_
  ·rw[zsm,if_pos (by omega),zAb hk,obs]
   by_cases h0:0 < k
   ·rw[if_pos (show(0:Int) < k by omega),zqf (fI (by omega)),zAc h0 (by omega),obs,zqf (fI (by omega))];refine⟨fun h=>?_,fun h=>?_⟩
    ·rw[if_neg (by have:=h h0; omega)]
    ·rw[if_pos (by
      rcases Int.lt_or_le (nth l (k - 1)) (nth l k) with h1 | h1
      ·exact absurd (fun _=>h1) h
      ·exact h1)]
   ·rw[if_neg (show ¬ (0:Int) < k by omega),zqf (fI (by omega))];exact⟨fun _=>rfl,fun h=>absurd (fun h'=>absurd h' h0) h⟩
  ·rw[zsm,if_neg (Int.lt_irrefl _)]
  ·cases l with
   | nil=>exact Ev.ff (by simp)
   | cons a l=>rw[if_pos (by simp)]; exact Ev.bind (zq6 rfl) (Ev.dec (by simp))
 exact key.imp (and_congr ⟨fun h=>zAd fun j h0 hj=>h j hj h0,fun h j hj h0=>zAe.2 h j h0 hj⟩ Iff.rfl)
theorem zAg{l:List Int}{most:Int}(hl:zre l):Ev (zrQ l most) ((l.Pairwise (· < ·)/\l.head? = some 0)/\∀x∈l,0<=x/\x<=most):=by
 have hl:=hl.lt
 have key:Ev (prRises_L0 l most (l.length+1) 0) ((∀j,j < l.length->((0<=nth l j/\nth l j<=most)/\(0 < j->nth l (j - 1) < nth l j)))/\l.head? = some 0):=by
  refine Ev.loop (F:=prRises_L0 l most) (fin:=if (0:Int) < (l.length:Int) then ((idx l (0:Int)).bind fun x=>some (decide (x=(0:Int)))) else some false) (fun d k hk=>?_) (fun d=>?_) (by omega) fun _=>?_
  ·rw[prRises_L0,if_pos (by omega),zAb hk,obs];obtain⟨b,h1,h2⟩:=zz5 (n:=nth l k) (lo:=0) (hi:=most);rw[h1,obs]
   cases b with
   | false=>
    rw[if_neg (by simp)];exact⟨fun h=>(by have:=h2.2 h.1; cases this),fun _=>rfl⟩
   | true=>
    have h3:=h2.1 rfl;rw[if_pos rfl]
    by_cases h0:0 < k
    ·rw[if_pos (show(0:Int) < k by omega),obs,zqf (fI (by omega)),zAc h0 (by omega),obs,zqf (fI (by omega))];refine⟨fun h=>?_,fun h=>?_⟩
     ·rw[if_neg (by have:=h.2 h0; omega)]
     ·rw[if_pos (by
       rcases Int.lt_or_le (nth l (k - 1)) (nth l k) with h1 | h1
       ·exact absurd ⟨h3,fun _=>h1⟩ h
       ·exact h1)]
    ·rw[if_neg (show ¬ (0:Int) < k by omega),zqf (fI (by omega))];exact⟨fun _=>rfl,fun h=>absurd ⟨h3,fun h'=>absurd h' h0⟩ h⟩
  ·rw[prRises_L0,if_neg (Int.lt_irrefl _)]
  ·cases l with
   | nil=>exact Ev.ff (by simp)
   | cons a l=>rw[if_pos (by simp)]; exact Ev.bind (zq6 rfl) (Ev.dec (by simp))
 refine key.imp ⟨fun⟨h1,h2⟩=>⟨⟨zAd fun j h0 hj=>(h1 j hj).2 h0,h2⟩,fun x hx=>?_⟩,fun⟨⟨h1,h2⟩,h3⟩=>⟨fun j hj=>⟨h3 _ (List.mem_of_getElem? (zzQ hj)),fun h0=>zAe.2 h1 j h0 hj⟩,h2⟩⟩;obtain⟨i,hi⟩:=List.mem_iff_getElem?.1 hx;rw[<- zzP hi];exact(h1 i (List.getElem?_eq_some_iff.1 hi).1).1
theorem gTf{l:List Tf}{p:Tf->Option Bool}:∀{d:Nat} {x:Int},zsJ l p d x=gIdx l p d x
 | 0,_=>rfl
 | d+1,x=>by unfold zsJ gIdx; simp only[gTf (d:=d)]
theorem zAh{l:List Tf}{p:Tf->Option Bool}:∀{d:Nat} {x:Int},zsN l p d x=gIdx l p d x
 | 0,_=>rfl
 | d+1,x=>by unfold zsN gIdx; simp only[zAh (d:=d)]
theorem gCl{l:List Clm}{p:Clm->Option Bool}:∀{d:Nat} {x:Int},zsR l p d x=gIdx l p d x
 | 0,_=>rfl
 | d+1,x=>by unfold zsR gIdx; simp only[gCl (d:=d)]
theorem gI{l:List Int}{p:Int->Option Bool}:∀{d:Nat} {x:Int},zsW l p d x=gIdx l p d x
 | 0,_=>rfl
 | d+1,x=>by unfold zsW gIdx; simp only[gI (d:=d)]
theorem gL{l:List (List Int)}{p:List Int->Option Bool}:∀{d:Nat} {x:Int},zs1 l p d x=gIdx l p d x
 | 0,_=>rfl
 | d+1,x=>by unfold zs1 gIdx; simp only[gL (d:=d)]
theorem gLL{l:List (List (List Int))}{p:List (List Int)->Option Bool}:∀{d:Nat} {x:Int},zs6 l p d x=gIdx l p d x
 | 0,_=>rfl
 | d+1,x=>by unfold zs6 gIdx; simp only[gLL (d:=d)]
theorem zAi{l:List Tf}{p:Tf->Option Bool}{q:Tf->Prop}(hp:∀a∈l,Ev (p a) (q a))(hl:zre l):Ev (zsM l p) (∀a∈l,q a):=Ev.each hp hl.lt gTf
theorem zAj{l:List Clm}{p:Clm->Option Bool}{q:Clm->Prop}(hp:∀a∈l,Ev (p a) (q a))(hl:zre l):Ev (zsU l p) (∀a∈l,q a):=Ev.each hp hl.lt gCl
theorem zAk{l:List Int}{p:Int->Option Bool}{q:Int->Prop}(hp:∀a∈l,Ev (p a) (q a))(hl:zre l):Ev (zsZ l p) (∀a∈l,q a):=Ev.each hp hl.lt gI
theorem zAl{l:List (List Int)}{p:List Int->Option Bool}{q:List Int->Prop}(hp:∀a∈l,Ev (p a) (q a))(hl:zre l):Ev (zs4 l p) (∀a∈l,q a):=Ev.each hp hl.lt gL
theorem zAm{l:List (List (List Int))}{p:List (List Int)->Option Bool}{q:List (List Int)->Prop}(hp:∀a∈l,Ev (p a) (q a))(hl:zre l):Ev (zs9 l p) (∀a∈l,q a):=Ev.each hp hl.lt gLL
theorem zAn{l:List Tf}{p:Tf->Option Bool}{q:Tf->Prop}(hp:∀a∈l,Ev (p a) (q a))(hl:zre l):Ev (zsP l p) (∃a∈l,q a):=Ev.contains hp hl.lt zAh
theorem last_at{l:List Int}(h:l ≠ []):∃x,idx l ((l.length:Int) - 1)=some x/\l.getLast? = some x:=by
 have hl:0 < l.length:=List.length_pos_iff.2 h;refine⟨l[l.length - 1],zq4 (by omega) (by omega),?_⟩;rw[List.getLast?_eq_getElem?,List.getElem?_eq_getElem]
theorem few{t:Tf}(h:¬ zzW t):t.Weeks.length<=4/\t.Counts.length<=5/\t.Rates.length<=3:=by unfold zzW at h; omega
theorem zAo{l:List Int}{x:Int}(h:l.head? = some x):l ≠ []:=fun e=>by rw[e] at h; cases h
theorem zAp{t:Tf}(h:¬ zzW t){w:List Int}:Ev (ztb t w) (w.length=t.Counts.length/\∀r∈w,0<=r/\r<=100):=by
 have hf:=few h;exact(Ev.ite fun hl=>(zAk (q:=fun r=>0<=r/\r<=100) (fun _ _=>zz9) (zrf (n:=5) (by omega) (by omega))).ret).imp (and_congr Int.ofNat_inj Iff.rfl)
theorem zAq{t:Tf}(h:¬ zzW t){c:List (List Int)}:Ev (ztc t c) (c.length=t.Weeks.length/\∀w∈c,w.length=t.Counts.length/\∀r∈w,0<=r/\r<=100):=by
 have hf:=few h;exact(Ev.ite fun hl=>(zAl (fun _ _=>zAp h) (zrf (n:=4) (by omega) (by omega))).ret).imp (and_congr Int.ofNat_inj Iff.rfl)
theorem zAr{t:Tf}:VT t↔((0<=t.From/\t.From<=120)/\(0<=t.Least/\t.Least<=100)/\(t.Weeks.Pairwise (· < ·)/\t.Weeks.head? = some 0)/\(∀x∈t.Weeks,0<=x/\x<=120)/\(t.Counts.Pairwise (· < ·)/\t.Counts.head? = some 0)/\t.Counts.getLast? = some 100/\t.Rates ≠ []/\∀c∈t.Rates,c.length=t.Weeks.length/\∀w∈c,w.length=t.Counts.length/\∀r∈w,0<=r/\r<=100):=by
 constructor
 ·intro h; exact⟨h.frm,h.lst,⟨h.wks.1,h.wks.2.1⟩,h.wks.2.2,⟨h.cts.1,h.cts.2.1⟩,h.c100,h.rne,h.rts⟩
 ·rintro⟨h1,h2,h3,h4,h5,h6,h7,h8⟩
  refine⟨h1,h2,⟨h3.1,h3.2,h4⟩,⟨h5.1,h5.2,fun x hx=>?_⟩,h6,h7,h8⟩;obtain⟨i,hi⟩:=List.mem_iff_getElem?.1 hx;have hil:=(List.getElem?_eq_some_iff.1 hi).1
  have h0:t.Counts[0]? = some 0:=by rw[<- h5.2]; cases t.Counts <;> rfl
  have hl:t.Counts[t.Counts.length - 1]? = some 100:=by rw[<- h6,List.getLast?_eq_getElem?]
  constructor
  ·rcases Nat.eq_zero_or_pos i with h9 | h9
   ·subst h9; rw[h0] at hi; cases hi; exact Int.le_refl _
   ·exact Int.le_of_lt (zzN h5.1 h0 hi h9)
  ·rcases Nat.lt_or_ge i (t.Counts.length - 1) with h9 | h9
   ·exact Int.le_of_lt (zzN h5.1 hi hl h9)
   ·rw[show i=t.Counts.length - 1 by omega,hl] at hi; cases hi; exact Int.le_refl _
theorem zAs{t:Tf}(h:¬ zzW t):Ev (ztd t) (VT t):=by
 have hf:=few h;have hw:zre t.Weeks:=zrf (n:=4) (by omega) (by omega);have hc:zre t.Counts:=zrf (n:=5) (by omega) (by omega);have hr:zre t.Rates:=zrf (n:=3) (by omega) (by omega);refine Ev.imp (Ev.and zz7 fun _=>Ev.and zz9 fun _=>Ev.and (zAf hw) fun _=>Ev.and (zAk (q:=fun r=>0<=r/\r<=120) (fun _ _=>zz7) hw) fun _=>Ev.and (K:=t.Counts.getLast? = some 100/\t.Rates ≠ []/\∀c∈t.Rates,c.length=t.Weeks.length/\∀w∈c,w.length=t.Counts.length/\∀r∈w,0<=r/\r<=100) (zAf hc) fun hr2=>?_) zAr.symm;obtain⟨x,hx,hx2⟩:=last_at (zAo hr2.2);refine Ev.gd (fI (by omega)) (Ev.bind hx (Ev.imp (Ev.ite fun _=>Ev.ite fun _=>(zAm (fun _ _=>zAq h) hr).ret) ?_));rw[hx2];refine and_congr ⟨fun h=>by rw[h],fun h=>oi h⟩ (and_congr ?_ Iff.rfl);rw[<- List.length_pos_iff]; omega
theorem zAt{t:Tf}{c w:Nat}{wks:List (List Int)}{rs:List Int}(hc:t.Rates[c]? = some wks)(hw:wks[w]? = some rs)(hl:rs.length=t.Counts.length)(h5:t.Counts.length<=5)(hw4:w<=4){K:Bool->Int->Option Bool}{b:Bool} :
  ((∀r∈rs,0<=r/\r<=100)->zrR t (c:Int) (w:Int) K 1000000 b 0=K b ((w:Int)+1))/\(¬ (∀r∈rs,0<=r/\r<=100)->zrR t (c:Int) (w:Int) K 1000000 b 0=some false):=by
 have key:=zq8 (n:=rs.length) (F:=fun d x=>zrR t (c:Int) (w:Int) K d b x) (ok:=fun j=>0<=nth rs j/\nth rs j<=100) (bad:=some false) (fin:=K b ((w:Int)+1)) (fun d k hk=>by
  rw[zrR,if_pos (by omega),zq3 hc,obs,zq3 hw,obs,zAb hk,obs];obtain⟨b',h1,h2⟩:=zz5 (n:=nth rs k) (lo:=0) (hi:=100);rw[h1,obs]
  cases b' with
  | true=>rw[if_pos rfl,zqf (fI (by omega))]; exact⟨fun _=>rfl,fun h=>absurd (h2.1 rfl) h⟩
  | false=>rw[if_neg (by simp)]; exact⟨fun h=>(by have:=h2.2 h; cases this),fun _=>rfl⟩) (fun d=>by rw[zrR,if_neg (by omega),zqf (fI (by omega))]) (d:=1000000) (by omega)
 have hiff:(∀j,j < rs.length->0<=nth rs j/\nth rs j<=100)↔∀r∈rs,0<=r/\r<=100:=⟨fun h r hr=>by
  obtain⟨i,hi⟩:=List.mem_iff_getElem?.1 hr
  rw[<- zzP hi]; exact h i (List.getElem?_eq_some_iff.1 hi).1,fun h j hj=>h _ (List.mem_of_getElem? (zzQ hj))⟩
 rw[hiff] at key;exact key
def zAu(t:Tf)(rs:List Int):Prop:=rs.length=t.Counts.length/\∀r∈rs,0<=r/\r<=100
theorem zrc{α:Type}{l:List α}{P:α->Prop}:(∀j,j < l.length->∀a,l[j]? = some a->P a)↔∀a∈l,P a:=
 ⟨fun h a ha=>by
  obtain⟨i,hi⟩:=List.mem_iff_getElem?.1 ha
  exact h i (List.getElem?_eq_some_iff.1 hi).1 a hi,fun h j _ a ha=>h a (List.mem_of_getElem? ha)⟩
theorem zAv{t:Tf}(h:¬ zzW t){c:Nat}{wks:List (List Int)}(hc:t.Rates[c]? = some wks)(hl:wks.length=t.Weeks.length){K:Bool->Int->Option Bool}{b:Bool} :
  ((∀w∈wks,zAu t w)->zrS t (c:Int) K 1000000 b 0=K b ((c:Int)+1))/\(¬ (∀w∈wks,zAu t w)->zrS t (c:Int) K 1000000 b 0=some false):=by
 have hf:=few h;have hcl:c < t.Rates.length:=(List.getElem?_eq_some_iff.1 hc).1
 have key:=zq8 (n:=wks.length) (F:=fun d x=>zrS t (c:Int) K d b x) (ok:=fun j=>∀rs,wks[j]? = some rs->zAu t rs) (bad:=some false) (fin:=K b ((c:Int)+1)) (fun d k hk=>by
  have hw:=List.getElem?_eq_getElem hk;rw[zrS,if_pos (by omega),zq3 hc,obs,zq3 hw,obs]
  by_cases hlen:wks[k].length=t.Counts.length
  ·rw[if_pos (by omega)];obtain⟨q1,q2⟩:=zAt (t:=t) (b:=b) (K:=zrS t (c:Int) K d) hc hw hlen hf.2.1 (by omega);exact⟨fun hok=>q1 (hok _ hw).2,fun hok=>q2 fun h'=>hok fun rs hrs=>by rw[hw] at hrs; cases hrs; exact⟨hlen,h'⟩⟩
  ·rw[if_neg (by omega)]
   exact⟨fun hok=>absurd (hok _ hw).1 hlen,fun _=>rfl⟩) (fun d=>by rw[zrS,if_neg (by omega),zqf (fI (by omega))]) (d:=1000000) (by omega)
 rw[zrc (P:=zAu t)] at key;exact key
theorem zAw{t:Tf}(h:¬ zzW t):Ev (zrT t 1000000 false 0) (∀c∈t.Rates,c.length=t.Weeks.length/\∀w∈c,zAu t w):=by
 have hf:=few h
 have key:=Ev.loop (n:=t.Rates.length) (F:=fun d x=>zrT t d false x) (ok:=fun j=>∀c,t.Rates[j]? = some c->c.length=t.Weeks.length/\∀w∈c,zAu t w) (fin:=some true) (P:=True) (fun d k hk=>by
  have hc:=List.getElem?_eq_getElem hk;rw[zrT,if_pos (by omega),zq3 hc,obs]
  by_cases hlen:t.Rates[k].length=t.Weeks.length
  ·rw[if_pos (by omega)];obtain⟨q1,q2⟩:=zAv h (b:=false) (K:=zrT t d) hc hlen;exact⟨fun hok=>q1 (hok _ hc).2,fun hok=>q2 fun h'=>hok fun rs hrs=>by rw[hc] at hrs; cases hrs; exact⟨hlen,h'⟩⟩
  ·rw[if_neg (by omega)]
   exact⟨fun hok=>absurd (hok _ hc).1 hlen,fun _=>rfl⟩) (fun d=>by rw[zrT,if_neg (Int.lt_irrefl _)]) (d:=1000000) (by omega) fun _=>Ev.tt trivial
 refine key.imp ⟨fun h=>zrc.1 h.1,fun h=>⟨zrc.2 h,trivial⟩⟩
theorem zAx{t:Tf}(h:¬ zzW t):Ev (zrU t) (VT t):=by
 have hf:=few h;have hw:zre t.Weeks:=zrf (n:=4) (by omega) (by omega);have hc:zre t.Counts:=zrf (n:=5) (by omega) (by omega);refine Ev.imp (Ev.and zz5 fun _=>Ev.and zz5 fun _=>Ev.and (zAg hw) fun _=>Ev.and (K:=t.Counts.getLast? = some 100/\t.Rates ≠ []/\∀c∈t.Rates,c.length=t.Weeks.length/\∀w∈c,zAu t w) (zAg hc) fun hr2=>?_) ?_
 ·obtain⟨x,hx,hx2⟩:=last_at (zAo hr2.1.2);refine Ev.gd (fI (by omega)) (Ev.bind hx (Ev.imp (Ev.ite fun _=>Ev.itn fun _=>zAw h) ?_));rw[hx2];refine and_congr ⟨fun h=>by rw[h],fun h=>oi h⟩ (and_congr ?_ Iff.rfl);rw[<- List.length_pos_iff]; omega
 ·refine⟨fun⟨h1,h2,h3,h4,h5,h6,h7⟩=>⟨h1,h2,⟨h3.1.1,h3.1.2,h3.2⟩,⟨h4.1.1,h4.1.2,h4.2⟩,h5,h6,h7⟩,fun h=>⟨h.frm,h.lst,⟨⟨h.wks.1,h.wks.2.1⟩,h.wks.2.2⟩,⟨⟨h.cts.1,h.cts.2.1⟩,h.cts.2.2⟩,h.c100,h.rne,h.rts⟩⟩
theorem zAy{t:Tf}:Ev (zss t) (zzW t):=by
 unfold zss zzW
 by_cases h1:(4:Int) < (t.Weeks.length:Int)
 ·rw[if_pos h1]; exact Ev.tt (.inl (by omega))
 ·rw[if_neg h1]
  by_cases h2:(5:Int) < (t.Counts.length:Int)
  ·rw[if_pos h2]; exact Ev.tt (.inr (.inl (by omega)))
  ·rw[if_neg h2]; exact Ev.dec (by omega)
theorem zAz{l:List Tf}:Ev (zte l) (zzX l):=by
 unfold zte zzX
 by_cases h1:(3:Int) < (l.length:Int)
 ·rw[if_pos h1]; exact Ev.tt (.inl (by omega))
 ·rw[if_neg h1];exact(zAn (fun _ _=>zAy) (zrf (n:=3) (by omega) (by omega))).ret.imp ⟨fun h=>.inr h,fun h=>h.elim (fun h=>by omega) id⟩
theorem zAA{l:List Tf}(hl:zre l):zsp l=some (l.map (·.From)):=by
 unfold zre at hl
 exact zra (l:=l) (F:=zso l) (fun t:Tf=>t.From) some (fun d k acc a ha hac=>by
  have hk:=(List.getElem?_eq_some_iff.1 ha).1
  rw[zso,if_pos (by omega),zq3 ha,obs,zqf (show acc.length < 1048576 by omega),zqf (fI (by omega))]) (fun d acc=>by rw[zso,if_neg (Int.lt_irrefl _)]) (by omega)
theorem zAB{l:List Tf}(h:l ≠ []):∃t,l[0]? = some t/\zzV l=t.Rates.length:=by
 cases l with
 | nil=>exact absurd rfl h
 | cons t l=>exact⟨t,rfl,rfl⟩
theorem zAC{l:List Tf}(h:l ≠ []){t:Tf}:Ev (zsq l t) (t.Rates.length=zzV l):=by
 obtain⟨u,h1,h2⟩:=zAB h;exact Ev.bind (zq6 h1) (Ev.dec (by rw[h2]; exact Int.ofNat_inj))
theorem zAD{l:List Tf}(h:¬ zzX l):l.length<=3/\∀t∈l,¬ zzW t:=by
 unfold zzX at h
 exact⟨by rcases Nat.lt_or_ge 3 l.length with h1 | h1; exact absurd (.inl h1) h; exact h1,fun t ht h1=>h (.inr ⟨t,ht,h1⟩)⟩
theorem zAE{l:List Tf}(h:¬ zzX l):Ev (ztf l) (VL l):=by
 obtain⟨h3,ht⟩:=zAD h;have hs:zre l:=zrf h3 (by omega)
 have key:Ev (ztf l) ((∀t∈l,VT t)/\((l.map (·.From)).Pairwise (· < ·)/\(l.map (·.From)).head? = some 0)/\∀t∈l,t.Rates.length=zzV l):=by
  refine Ev.and (zAi (fun t h'=>zAs (ht t h')) hs) fun _=>Ev.bind (zAA hs) (Ev.and (zAf (by unfold zre; rw[List.length_map]; exact hs)) fun hr=>(zAi (fun t _=>zAC (fun e=>by rw[e] at hr; cases hr.2)) hs).ret)
 exact key.imp ⟨fun⟨h1,h2,h4⟩=>⟨fun e=>(by rw[e] at h2; cases h2.2),h1,h2.1,h2.2,h4⟩,fun h=>⟨h.vt,⟨h.pw,h.hd⟩,h.crp⟩⟩
theorem zAF{l:List Tf}:zth l=some (zzY l):=by
 unfold zth;refine zAz.pick (fun h=>?_) fun h=>?_
 ·rw[if_pos rfl]; unfold zzY; rw[if_pos h]
 ·rw[if_neg (by simp)];refine(zAE h).pick (fun hv=>?_) fun hv=>?_
  ·rw[if_pos rfl]; unfold zzY; rw[if_neg h,if_pos hv]
  ·rw[if_neg (by simp)]; unfold zzY; rw[if_neg h,if_neg hv]
def zla(l:List Tf)(j:Nat)(t:Tf):Prop:=VT t/\t.Rates.length=zzV l/\(j=0->t.From=0)/\(0 < j->∀u,l[j - 1]? = some u->u.From < t.From)
theorem zAG{l:List Tf}(h:¬ zzX l)(hne:l ≠ []):((∀j,j < l.length->∀t,l[j]? = some t->zla l j t)->zrV l (l.length+1) 0=some 0)/\(¬ (∀j,j < l.length->∀t,l[j]? = some t->zla l j t)->zrV l (l.length+1) 0=some 1):=by
 obtain⟨h3,ht⟩:=zAD h;obtain⟨u0,hu0,hcr⟩:=zAB hne;refine zq8 (F:=zrV l) (fun d k hk=>?_) (fun d=>by rw[zrV,if_neg (Int.lt_irrefl _),if_neg (by have:=List.length_pos_iff.2 hne; omega)]) (Nat.lt_succ_self _);have hg:=List.getElem?_eq_getElem hk;generalize l[k]=t at hg;have hT:=zAx (ht t (List.mem_of_getElem? hg));have hgo:∀{P:Prop},(∀t',l[k]? = some t'->P)->P:=fun f=>f _ hg;rw[zrV,if_pos (by omega),zq3 hg,obs];have zAL:∀{P:Tf->Prop},(∀t',l[k]? = some t'->P t')↔P t:=⟨fun f=>f _ hg,fun f t' ht'=>by rw[hg] at ht'; cases ht'; exact f⟩;rw[zAL];have done:∀{o:Option Int},(VT t->t.Rates.length=zzV l->(k=0->t.From=0)->(0 < k->∀u,l[k - 1]? = some u->u.From < t.From)->o=zrV l d ((k:Int)+1))->(¬ zla l k t->o=some 1)->(zla l k t->o=zrV l d ((k:Int)+1))/\(¬ zla l k t->o=some 1):=fun a b=>⟨fun h=>a h.1 h.2.1 h.2.2.1 h.2.2.2,b⟩;obtain⟨b,hb,hb2⟩:=hT;rw[hb,obs]
 cases b with
 | false=>rw[if_neg (by simp)]; exact⟨fun h=>(by have:=hb2.2 h.1; cases this),fun _=>rfl⟩
 | true=>
  have hv:=hb2.1 rfl;rw[if_pos rfl,obs,zq6 hu0,obs]
  by_cases hr:t.Rates.length=u0.Rates.length
  ·rw[if_pos (by omega)]
   have hr':t.Rates.length=zzV l:=by omega
   by_cases h0:k=0
   ·rw[if_pos (by omega),obs]
    by_cases hf:t.From=0
    ·rw[if_pos hf,if_neg (by omega),zqf (fI (by omega))];exact⟨fun _=>rfl,fun hn=>absurd ⟨hv,hr',fun _=>hf,fun h'=>by omega⟩ hn⟩
    ·rw[if_neg hf];exact⟨fun h'=>absurd (h'.2.2.1 h0) hf,fun _=>rfl⟩
   ·rw[if_neg (by omega),if_pos (by omega),obs,zqf (fI (by omega))]
    have hp:k - 1 < l.length:=by omega
    have hgp:=List.getElem?_eq_getElem hp;generalize l[k - 1]=u at hgp;rw[zq5 (by omega) hgp,obs]
    by_cases hle:t.From<=u.From
    ·rw[if_pos hle];exact⟨fun h'=>by have:=h'.2.2.2 (by omega) u hgp; omega,fun _=>rfl⟩
    ·rw[if_neg hle,zqf (fI (by omega))];exact⟨fun _=>rfl,fun hn=>absurd ⟨hv,hr',fun h'=>absurd h' h0,fun _ u' hu'=>by rw[hgp] at hu'; cases hu'; omega⟩ hn⟩
  ·rw[if_neg (by omega)];exact⟨fun h'=>by have:=h'.2.1; omega,fun _=>rfl⟩
theorem zAH{l:List Tf}(hne:l ≠ []):(∀j,j < l.length->∀t,l[j]? = some t->zla l j t)↔VL l:=by
 have hm:∀j t,l[j]? = some t->nth (l.map (·.From)) j=t.From:=fun j t h=>zzP (by rw[List.getElem?_map,h]; rfl)
 constructor
 ·intro h;refine⟨hne,fun t ht=>?_,zAd fun j h0 hj=>?_,?_,fun t ht=>?_⟩
  ·obtain⟨i,hi⟩:=List.mem_iff_getElem?.1 ht;exact(h i (List.getElem?_eq_some_iff.1 hi).1 t hi).1
  ·rw[List.length_map] at hj;have h1:=List.getElem?_eq_getElem hj;have h2:=List.getElem?_eq_getElem (show j - 1 < l.length by omega);rw[hm _ _ h1,hm _ _ h2];exact(h j hj _ h1).2.2.2 h0 _ h2
  ·obtain⟨t,h1,_⟩:=zAB hne;have:=(h 0 (List.getElem?_eq_some_iff.1 h1).1 t h1).2.2.1 rfl
   cases l with
   | nil=>cases h1
   | cons a l=>cases h1; simp[this]
  ·obtain⟨i,hi⟩:=List.mem_iff_getElem?.1 ht;exact(h i (List.getElem?_eq_some_iff.1 hi).1 t hi).2.1
 ·intro h j hj t ht;refine⟨h.vt t (List.mem_of_getElem? ht),h.crp t (List.mem_of_getElem? ht),fun h0=>?_,fun h0 u hu=>?_⟩
  ·subst h0;have:=h.hd
   cases l with
   | nil=>cases ht
   | cons a l=>cases ht; simpa using this
  ·have:=zAe.2 h.pw j h0 (by rw[List.length_map]; exact hj)
   rwa [hm _ _ ht,hm _ _ hu] at this
theorem zAI{l:List Tf}:zrX l=some (zzY l):=by
 unfold zrX
 by_cases h1:(3:Int) < (l.length:Int)
 ·rw[if_pos h1]; unfold zzY; rw[if_pos (.inl (by omega))]
 ·rw[if_neg h1]
  have key:=zq8 (n:=l.length) (F:=fun d x=>zrW l d 0 x) (ok:=fun j=>∀t,l[j]? = some t->¬ zzW t) (bad:=some 3) (fin:=zrV l (l.length+1) 0) (fun d k hk=>by
   have hg:=List.getElem?_eq_getElem hk;generalize l[k]=t at hg;have zAL:(∀t',l[k]? = some t'->¬ zzW t')↔¬ zzW t:=⟨fun f=>f _ hg,fun f t' ht'=>by rw[hg] at ht'; cases ht'; exact f⟩;rw[zAL,zrW,if_pos (by omega),zq3 hg,obs];unfold zzW
   by_cases h4:(4:Int) < (t.Weeks.length:Int)
   ·rw[if_pos h4]; exact⟨fun h=>by omega,fun _=>rfl⟩
   ·rw[if_neg h4,obs]
    by_cases h5:(5:Int) < (t.Counts.length:Int)
    ·rw[if_pos h5]; exact⟨fun h=>by omega,fun _=>rfl⟩
    ·rw[if_neg h5,obs]
     by_cases h6:(3:Int) < (t.Rates.length:Int)
     ·rw[if_pos h6]; exact⟨fun h=>by omega,fun _=>rfl⟩
     ·rw[if_neg h6,zqf (fI (by omega))]; exact⟨fun _=>rfl,fun h=>by omega⟩) (fun d=>by rw[zrW,if_neg (Int.lt_irrefl _)]) (d:=l.length+1) (by omega)
  rw[zrc (P:=fun t=>¬ zzW t)] at key
  by_cases hm:zzX l
  ·unfold zzY;rw[if_pos hm];refine key.2 fun hh=>?_
   rcases hm with hm | ⟨t,ht,hm⟩
   ·omega
   ·exact hh t ht hm
  ·refine(key.1 (zAD hm).2).trans ?_;unfold zzY;rw[if_neg hm]
   by_cases hne:l=[]
   ·subst hne;rw[if_neg fun h=>h.ne rfl]
    rfl
   ·obtain⟨q1,q2⟩:=zAG hm hne;rw[zAH hne] at q1 q2
    by_cases hv:VL l
    ·rw[if_pos hv,q1 hv]
    ·rw[if_neg hv,q2 hv]
structure zAJ (t:Tf):Prop where
 w:t.Weeks.length<=7
 c:t.Counts.length<=7
 r:t.Rates.length<=5
 rr:∀c∈t.Rates,c.length<=7/\∀w∈c,w.length<=7
def zAK(l:List Tf):Prop:=l.length<=5/\∀t∈l,zAJ t
theorem zAL{α:Type}{l:List α}{k:Nat}{a:α}(h:l[k]? = some a){P:α->Prop}:(∀x,l[k]? = some x->P x)↔P a:=⟨fun f=>f _ h,fun f x hx=>by rw[h] at hx; cases hx; exact f⟩
theorem zAM{l:List Tf}{i c:Nat}{t:Tf}{wks:List (List Int)}(hi:l[i]? = some t)(hc:t.Rates[c]? = some wks)(h7:wks.length<=7)(h5:c < 5){K:Bool->Int->Option Bool}{b:Bool} :
  ((∀w∈wks,w.length<=7)->zr9 l (i:Int) (c:Int) K 1000000 b 0=K b ((c:Int)+1))/\(¬ (∀w∈wks,w.length<=7)->zr9 l (i:Int) (c:Int) K 1000000 b 0=some false):=by
 have key:=zq8 (n:=wks.length) (F:=fun d x=>zr9 l (i:Int) (c:Int) K d b x) (ok:=fun j=>∀w,wks[j]? = some w->w.length<=7) (bad:=some false) (fin:=K b ((c:Int)+1)) (fun d k hk=>by
  have hg:=List.getElem?_eq_getElem hk;generalize wks[k]=w at hg;rw[zAL hg (P:=fun w=>w.length<=7),zr9,zq3 hi,obs,zq3 hc,obs,if_pos (by omega),obs,zq3 hc,obs,zq3 hg,obs]
  by_cases h:(7:Int) < (w.length:Int)
  ·rw[if_pos h]; exact⟨fun h=>by omega,fun _=>rfl⟩
  ·rw[if_neg h,zqf (fI (by omega))]; exact⟨fun _=>rfl,fun h=>by omega⟩) (fun d=>by rw[zr9,zq3 hi,obs,zq3 hc,obs,if_neg (Int.lt_irrefl _),zqf (fI (by omega))]) (d:=1000000) (by omega)
 rw[zrc (l:=wks) (P:=fun w:List Int=>w.length<=7)] at key;exact key
theorem zAN{l:List Tf}{i:Nat}{t:Tf}(hi:l[i]? = some t)(h5:t.Rates.length<=5)(hi5:i < 5){K:Bool->Int->Option Bool}{b:Bool} :
  ((∀c∈t.Rates,c.length<=7/\∀w∈c,w.length<=7)->zsa l (i:Int) K 1000000 b 0=K b ((i:Int)+1))/\(¬ (∀c∈t.Rates,c.length<=7/\∀w∈c,w.length<=7)->zsa l (i:Int) K 1000000 b 0=some false):=by
 have key:=zq8 (n:=t.Rates.length) (F:=fun d x=>zsa l (i:Int) K d b x) (ok:=fun j=>∀c,t.Rates[j]? = some c->c.length<=7/\∀w∈c,w.length<=7) (bad:=some false) (fin:=K b ((i:Int)+1)) (fun d k hk=>by
  have hg:=List.getElem?_eq_getElem hk;generalize t.Rates[k]=c at hg;rw[zAL hg (P:=fun c=>c.length<=7/\∀w∈c,w.length<=7),zsa,zq3 hi,obs,if_pos (by omega),obs,zq3 hg,obs]
  by_cases h:(7:Int) < (c.length:Int)
  ·rw[if_pos h]; exact⟨fun h=>by omega,fun _=>rfl⟩
  ·rw[if_neg h];obtain⟨q1,q2⟩:=zAM (K:=zsa l (i:Int) K d) (b:=b) hi hg (by omega) (by omega)
   exact⟨fun h'=>q1 h'.2,fun h'=>q2 fun h2=>h' ⟨by omega,h2⟩⟩) (fun d=>by rw[zsa,zq3 hi,obs,if_neg (Int.lt_irrefl _),zqf (fI (by omega))]) (d:=1000000) (by omega)
 rw[zrc (l:=t.Rates) (P:=fun c:List (List Int)=>c.length<=7/\∀w∈c,w.length<=7)] at key;exact key
theorem zAO{l:List Tf}:Ev (zsc l) (zAK l):=by
 unfold zsc zAK;refine(Ev.itn (p:=(5:Int) < (l.length:Int)) (K:=∀t∈l,zAJ t) fun h5=>?_).imp (and_congr (by omega) Iff.rfl)
 have key:=Ev.loop (n:=l.length) (F:=fun d x=>zsb l d false x) (ok:=fun j=>∀t,l[j]? = some t->zAJ t) (fin:=some true) (P:=True) (fun d k hk=>by
  have hg:=List.getElem?_eq_getElem hk;generalize l[k]=t at hg;rw[zAL hg (P:=zAJ),zsb,if_pos (by omega),zq3 hg,obs]
  by_cases h1:(7:Int) < (t.Weeks.length:Int)
  ·rw[if_pos h1]; exact⟨fun h=>by have:=h.w; omega,fun _=>rfl⟩
  ·rw[if_neg h1,obs]
   by_cases h2:(7:Int) < (t.Counts.length:Int)
   ·rw[if_pos h2]; exact⟨fun h=>by have:=h.c; omega,fun _=>rfl⟩
   ·rw[if_neg h2,obs]
    by_cases h3:(5:Int) < (t.Rates.length:Int)
    ·rw[if_pos h3]; exact⟨fun h=>by have:=h.r; omega,fun _=>rfl⟩
    ·rw[if_neg h3];obtain⟨q1,q2⟩:=zAN (K:=zsb l d) (b:=false) hg (by omega) (by omega)
     exact⟨fun h=>q1 h.rr,fun h=>q2 fun h'=>h ⟨by omega,by omega,by omega,h'⟩⟩) (fun d=>by rw[zsb,if_neg (Int.lt_irrefl _)]) (d:=l.length+1) (by omega) fun _=>Ev.tt trivial
 exact key.imp ⟨fun h=>zrc.1 h.1,fun h=>⟨zrc.2 h,trivial⟩⟩
theorem zAP{l:List Int}(h:l.length<=1048576):zr8 l=some l:=by unfold zr8; rw[zqf (by simp; omega)]; simp
theorem zAQ{l:List Tf}{i c:Nat}{t:Tf}{wks:List (List Int)}(hi:l[i]? = some t)(hc:t.Rates[c]? = some wks)(h7:wks.length<=7)(hw:∀w∈wks,w.length<=7)(h5:c < 5){a1:Int}{a2:Bool}{a3:Int}{a4:List (List (List Int))}(h4:a4.length < 5){K:Int->Bool->Int->List (List (List Int))->Int->Option (List Tf)} :
  zsd l (i:Int) a1 a2 a3 a4 (c:Int) K 1000000 [] 0=K a1 a2 a3 (a4++[wks]) ((c:Int)+1):=by
 have key:=zra (l:=wks) (fun w=>w) (F:=fun d acc x=>zsd l (i:Int) a1 a2 a3 a4 (c:Int) K d acc x) (fun acc=>K a1 a2 a3 (a4++[acc]) ((c:Int)+1)) (fun d k acc a ha hac=>by
  have hk:=(List.getElem?_eq_some_iff.1 ha).1;have hs:=hw a (List.mem_of_getElem? ha)
  rw[zsd,zq3 hi,obs,zq3 hc,obs,if_pos (by omega),obs,zq3 hc,obs,zq3 ha,obs,zAP (by omega),obs,zqf (show acc.length < 1048576 by omega),zqf (fI (by omega))]) (fun d acc=>by
  rw[zsd,zq3 hi,obs,zq3 hc,obs,if_neg (Int.lt_irrefl _),zqf (show a4.length < 1048576 by omega),zqf (fI (by omega))]) (d:=1000000) (by omega)
 rw[List.map_id'] at key;exact key
theorem zAR{l out:List Tf}{i:Nat}{t:Tf}(hi:l[i]? = some t)(ht:zAJ t)(hi5:i < 5)(ho:out.length < 5){r1 r2:List Int}{a1:Int}{a2:Bool}{a3:Int}{K:List Tf->Int->Option (List Tf)} :
  zse l out (i:Int) r1 r2 K 1000000 a1 a2 a3 [] 0=K (out++[⟨a1,a2,a3,r1,r2,t.Rates⟩]) ((i:Int)+1):=by
 have hr:=ht.r
 have key:=zra (l:=t.Rates) (fun w=>w) (F:=fun d acc x=>zse l out (i:Int) r1 r2 K d a1 a2 a3 acc x) (fun acc=>K (out++[⟨a1,a2,a3,r1,r2,acc⟩]) ((i:Int)+1)) (fun d k acc a ha hac=>by
  have hk:=(List.getElem?_eq_some_iff.1 ha).1;obtain⟨q1,q2⟩:=ht.rr a (List.mem_of_getElem? ha)
  rw[zse,zq3 hi,obs,if_pos (by omega),zAQ hi ha q1 q2 (by omega) (by omega)]) (fun d acc=>by
  rw[zse,zq3 hi,obs,if_neg (Int.lt_irrefl _),zqf (show out.length < 1048576 by omega),zqf (fI (by omega))]) (d:=1000000) (by omega)
 rw[List.map_id'] at key;exact key
theorem zAS{l:List Tf}(h:zAK l):zsg l=some l:=by
 obtain⟨h5,ht⟩:=h
 have key:=zra (l:=l) (fun w=>w) (F:=zsf l) some (fun d k acc a ha hac=>by
  have hk:=(List.getElem?_eq_some_iff.1 ha).1;have hT:=ht a (List.mem_of_getElem? ha);have h1:=hT.w;have h2:=hT.c;rw[zsf,if_pos (by omega),zq3 ha]
  simp only[obs]
  rw[zAP (by omega),obs,zAP (by omega),obs,zAR ha hT (by omega) (by omega)]) (fun d acc=>by rw[zsf,if_neg (Int.lt_irrefl _)]) (d:=l.length+1) (by omega)
 rw[List.map_id'] at key;exact key
theorem zAT{l:List Int}{n:Int}(hl:l.length<=1000):∀d (k:Nat),k < l.length->l.length - k<=d->zrY l n d (k:Int)=some (((k+lastN (l.drop k) n:Nat):Int))
 | 0,k,hk,h=>by omega
 | d+1,k,hk,h=>by
  rw[zrY,zqf (fI (by omega))]
  by_cases h1:k+1 < l.length
  ·have e1:=List.getElem?_eq_getElem h1;rw[if_pos (by omega),zqf (fI (by omega)),show(k:Int)+1=((k+1:Nat):Int) by omega,zq3 e1,obs]
   have hd:l.drop k=l[k]::l[k+1]::l.drop (k+2):=by rw[List.drop_eq_getElem_cons hk,List.drop_eq_getElem_cons h1]
   have hd1:l.drop (k+1)=l[k+1]::l.drop (k+2):=List.drop_eq_getElem_cons h1
   by_cases hle:l[k+1]<=n
   ·rw[if_pos hle,zqf (fI (by omega)),zAT hl d (k+1) h1 (by omega),hd,lastN,if_pos hle,hd1]
    congr 2; omega
   ·rw[if_neg hle,hd,lastN,if_neg hle]; rfl
  ·rw[if_neg (by omega)]
   have hd:l.drop k=[l[k]]:=by rw[List.drop_eq_getElem_cons hk,List.drop_eq_nil_of_le (by omega)]
   rw[hd]; rfl
theorem zAU{l:List Int}{n:Int}(hl:l.length<=1000)(hne:l ≠ []):zrZ l n=some (lastN l n:Int):=by
 have hlen:=List.length_pos_iff.2 hne;have h:=zAT (n:=n) hl 1000000 0 hlen (by omega);rw[List.drop_zero,Nat.zero_add] at h;exact h
theorem zAV{l:List Tf}(h:VL l)(hl:l.length<=3)(d:Int):zr1 l d=some (ofN l d):=by
 have hne:l.map (·.From) ≠ []:=fun e=>h.ne (List.map_eq_nil_iff.1 e);obtain⟨h1,_⟩:=h.of d
 refine(zra (l:=l) (fun t:Tf=>t.From) (F:=zr0 l d) (fun acc=>((zrZ acc d).bind fun r=>(idx l r).bind fun v=>some v)) (fun d k acc a ha hac=>by
  have hk:=(List.getElem?_eq_some_iff.1 ha).1
  rw[zr0,if_pos (by omega),zq3 ha,obs,zqf (show acc.length < 1048576 by omega),zqf (fI (by omega))]) (fun d acc=>by rw[zr0,if_neg (Int.lt_irrefl _)]) (d:=l.length+1) (by omega)).trans ?_
 rw[zAU (by rw[List.length_map]; omega) hne,obs,zq3 h1,obs]
theorem zAW{x y:Int}(hx:0<=x/\x<=100)(hy:0<=y/\y<=100):0<=x * y/\x * y<=10000:=by
 refine⟨Int.mul_nonneg hx.1 hy.1,?_⟩;have h1:x * y<=100 * y:=Int.mul_le_mul_of_nonneg_right hx.2 hy.1
 omega
theorem zAX{a b x y n:Int}(h1:0<=a/\a<=n)(h2:n<=b/\b<=100)(hab:a < b)(hx:0<=x/\x<=100)(hy:0<=y/\y<=100):0<=zzR a b x y n/\zzR a b x y n<=100:=
 ⟨zzU h1.2 h2.1 hab (Int.le_refl _) hx.1 hy.1,zzT h1.2 h2.1 hab hx.1 hy.1 hx.2 hy.2⟩
theorem Cnt.rng{t:Tf}(h:VT t){i:Nat}(hi:i < t.Counts.length):0<=nth t.Counts i/\nth t.Counts i<=100:=h.cts.2.2 _ (List.mem_of_getElem? (zzQ hi))
theorem zAY{t:Tf}(h:VT t)(hf:¬ zzW t){crop day n:Int}(h0:0<=crop)(h1:crop < t.Rates.length)(hn:0<=n)(h100:n<=100):zr2 t crop day n=some (zzS t.Counts (zz0 t crop day) n):=by
 have hfew:=few hf;obtain⟨wks,q1,q2,q3⟩:=h.rates h0 h1 day;obtain⟨b1,b2⟩:=q3.btw hn h100;have hl:=q3.lt n
 have hlr:lastN t.Counts n < (zz0 t crop day).length:=by rw[q3.len]; exact hl
 have hi:=q3.at hl;unfold zr2;rw[show crop=((crop.toNat:Nat):Int) by omega,zq3 q1,obs,zAU (by omega) (zAo h.wks.2.1),obs,<- show crop=((crop.toNat:Nat):Int) by omega,zq3 q2,obs,zAU (by omega) h.cnt.ne,obs,zAb hl,obs];unfold zzS
 dsimp only
 by_cases he:nth t.Counts (lastN t.Counts n)=n
 ·rw[if_pos he,if_pos he,zAb hlr,obs]
 ·obtain⟨b3,b4⟩:=b2 he
  have hlr2:lastN t.Counts n+1 < (zz0 t crop day).length:=by rw[q3.len]; exact b3
  have hi2:=q3.at b3;have c1:=Cnt.rng h hl;have c2:=Cnt.rng h b3
  have hcast:((lastN t.Counts n:Nat):Int)+1=((lastN t.Counts n+1:Nat):Int):=by omega
  rw[if_neg he,if_neg he,zqf (fI (by omega)),hcast,zAb b3,obs,zAb hlr,obs,zAb hlr2];have hline:=zAX ⟨c1.1,b1⟩ ⟨Int.le_of_lt b4,c2.2⟩ (by omega) hi hi2;unfold zzR at hline ⊢
  generalize nth t.Counts (lastN t.Counts n)=a at *
  generalize nth t.Counts (lastN t.Counts n+1)=b at *
  generalize nth (zz0 t crop day) (lastN t.Counts n)=x at *
  generalize nth (zz0 t crop day) (lastN t.Counts n+1)=y at *
  have p1:=zAW hi (show 0<=b - n/\b - n<=100 by omega);have p2:=zAW hi2 (show 0<=n - a/\n - a<=100 by omega);rw[zqf (fI (by omega)),zqf (by omega),zqf (by omega),zqf (fI (by omega)),zqf (fI (by omega)),obs,zqf (fI (by omega)),zqf (by omega),zqf (by omega),zqf (fI (by omega)),zqf (fI (by omega)),zqf (fI (by omega)),zqf (by omega),zqf (by omega),zqf (fI (by omega))]
theorem zAZ{l:List Tf}(hf:zzY l=0){crop day n:Int}(h0:0<=crop)(h1:crop < zzV l)(hn:0<=n)(h100:n<=100):zr3 l crop day n=some (zz3 l crop day n):=by
 obtain⟨hm,hv⟩:=zzZ.1 hf;obtain⟨h3,ht⟩:=zAD hm;have hT:=hv.vof day;obtain⟨r1,r2⟩:=(hv.rts h0 h1 day).loss_rng hn h100;have hls:=hT.lst;unfold zr3;rw[zAV hv h3,obs,zAY hT (ht _ (hv.of day).2) h0 (by rw[hv.cof]; exact h1) hn h100,obs];unfold zz3 zz2 zz1
 generalize zzS (ofN l day).Counts (zz0 (ofN l day) crop day) n=x at *
 generalize (ofN l day).Least=y at *
 by_cases h4:x < y
 ·rw[if_pos h4,if_pos h4]
 ·rw[if_neg h4,if_neg h4]
  by_cases h5:(ofN l day).Whole=true
  ·rw[if_pos h5,if_pos h5]
  ·rw[if_neg h5,if_neg h5,zqf (fI (by omega))]
theorem zA0{l:List Tf}(h:l ≠ []):zr4 l=some (zzV l:Int):=by
 obtain⟨t,h1,h2⟩:=zAB h;unfold zr4; rw[zq6 h1,obs,h2]
theorem zA1{x:Int}:zsu x=some false:=by unfold zsu; simp
theorem zA2{x:Int}:zsv x=some false:=by unfold zsv; simp
theorem zA3{x y:Int}:Ev (zsw x y) (x < y):=by
 unfold zsw;rw[zA1,obs,if_neg (by simp)];exact Ev.dec Iff.rfl
theorem fU{n:Int}(h:0<=n/\n < 18446744073709551616):zl0 .u64 n:=h
theorem zA4{l:List Int}(hp:l.Pairwise (· < ·)){i j:Nat}(hij:i<=j)(hj:j < l.length):nth l i<=nth l j:=by
 rcases Nat.lt_or_ge i j with h | h
 ·exact Int.le_of_lt (zzN hp (zzQ (by omega)) (zzQ hj) h)
 ·rw[show i=j by omega]; exact Int.le_refl _
theorem zA5{l:List Int}{x:Int}(hp:l.Pairwise (· < ·))(hl:l.length<=1048576):∀d (i j:Nat),i<=j->j<=l.length->j - i < d->(∀m,m < i->nth l m < x)->(∀m,j<=m->m < l.length->x<=nth l m) ->
  ∃(k:Nat) (f:Bool),zsx l x d (i:Int) (j:Int)=some ((k:Int),f)/\k<=l.length/\(∀m,m < k->nth l m < x)/\(∀m,k<=m->m < l.length->x<=nth l m)/\(f=true↔k < l.length/\nth l k=x)
 | 0,i,j,_,_,h,_,_=>by omega
 | d+1,i,j,hij,hj,h,hlo,hhi=>by
  rw[zsx]
  by_cases hlt:i < j
  ·have e1:zl5 .u64 ((i:Int)+(j:Int))=((i+j:Nat):Int):=by rw[wz (fU (by omega))]; omega
   have e2:((i+j:Nat):Int) / 2=(((i+j) / 2:Nat):Int):=by omega
   have hm:(i+j) / 2 < l.length:=by omega
   have e3:zl5 .i64 (((i+j) / 2:Nat):Int)=(((i+j) / 2:Nat):Int):=wz (fI (by omega));rw[if_pos (by omega),zqf (fI (by omega)),e1,zqf (by omega),zqf (by omega),zqf (by omega),e2,zqf (fU (by omega)),e3,zAb hm,obs]
   generalize hmid:(i+j) / 2=md at *
   obtain⟨b,h1,h2⟩:=zA3 (x:=nth l md) (y:=x);rw[h1,obs]
   cases b with
   | true=>
    rw[if_pos rfl,zqf (fI (by omega)),show(md:Int)+1=((md+1:Nat):Int) by omega];have h3:=h2.1 rfl;exact zA5 hp hl d (md+1) j (by omega) hj (by omega) (fun m hm'=>by have:=zA4 hp (show m<=md by omega) hm; omega) hhi
   | false=>
    rw[if_neg (by simp)]
    have h3:x<=nth l md:=by
     rcases Int.lt_or_le (nth l md) x with h4 | h4
     ·have:=h2.2 h4; cases this
     ·exact h4
    exact zA5 hp hl d i md (by omega) (by omega) (by omega) hlo (fun m hm' hml=>by have:=zA4 hp hm' hml; omega)
  ·have hij':i=j:=by omega
   subst hij';rw[if_neg (Int.lt_irrefl _)]
   by_cases hil:i < l.length
   ·rw[if_pos (by omega),zAb hil,obs]
    by_cases he:nth l i=x
    ·rw[if_pos he]; exact⟨i,true,rfl,hj,hlo,hhi,⟨fun _=>⟨hil,he⟩,fun _=>rfl⟩⟩
    ·rw[if_neg he,obs,zA2,obs,if_neg (by simp)];exact⟨i,false,rfl,hj,hlo,hhi,⟨fun h=>(by cases h),fun h=>absurd h.2 he⟩⟩
   ·rw[if_neg (by omega)];exact⟨i,false,rfl,hj,hlo,hhi,⟨fun h=>(by cases h),fun h=>absurd h.1 hil⟩⟩
theorem zA6{l:List Int}{x:Int}(hp:l.Pairwise (· < ·))(hl:l.length<=1048576) :
  ∃(k:Nat) (f:Bool),zsy l x=some ((k:Int),f)/\k<=l.length/\(∀m,m < k->nth l m < x)/\(∀m,k<=m->m < l.length->x<=nth l m)/\(f=true↔k < l.length/\nth l k=x):=
 zA5 hp hl (l.length+1) 0 l.length (Nat.zero_le _) (Nat.le_refl _) (by omega) (fun m h=>by omega) (fun m h1 h2=>by omega)
theorem zA7{l:List Int}{z:Int}(h:l.head? = some z):nth l 0=z/\0 < l.length:=by
 cases l with
 | nil=>cases h
 | cons a l=>cases h; exact⟨rfl,Nat.succ_pos _⟩
theorem zA8{l:List Int}{n:Int}(hp:l.Pairwise (· < ·))(hh:l.head? = some 0)(hl:l.length<=1000)(hn:0<=n/\n<=1000):zsz l n=some (lastN l n:Int):=by
 obtain⟨k,f,h1,h2,h3,h4,_⟩:=zA6 (x:=n+1) hp (by omega);obtain⟨e0,l0⟩:=zA7 hh
 have hk:0 < k:=by
  rcases Nat.eq_zero_or_pos k with h | h
  ·have:=h4 0 (by omega) l0; omega
  ·exact h
 have hu:lastN l n=k - 1:=zzO hp (by omega) (fun x hx=>by rw[<- zzP hx]; have:=h3 (k - 1) (by omega); omega) (fun x hx=>by
  have hlt:=(List.getElem?_eq_some_iff.1 hx).1
  rw[<- zzP hx]; have:=h4 (k - 1+1) (by omega) hlt; omega) (fun x hx=>by rw[hh] at hx; cases hx; exact hn.1)
 unfold zsz;rw[zqf (fI (by omega)),h1,obs,zqf (fI (by show _<=(k:Int) - 1/\_; omega)),hu]
 congr 1
 show(k:Int) - 1=_
 omega
theorem zA9{l:List Tf}(h:VL l)(hl:l.length<=3){d:Int}(hd:0<=d/\d<=120):zsA l d=some (ofN l d):=by
 obtain⟨h1,_⟩:=h.of d;unfold zsA;rw[zAA (zrf hl (by omega)),obs,zA8 h.pw h.hd (by rw[List.length_map]; omega) (by omega),obs,zq3 h1,obs]
theorem zBa{t:Tf}(h:VT t)(hf:¬ zzW t){hh:Ht}(h0:0<=hh.crop)(h1:hh.crop < t.Rates.length)(hn:0<=hh.Count)(h100:hh.Count<=100)(hd:0<=hh.Day/\hh.Day<=120):zsD t hh=some (zzS t.Counts (zz0 t hh.crop hh.Day) hh.Count):=by
 obtain⟨day,n,crop⟩:=hh
 dsimp only at h0 h1 hn h100 hd
 have hfew:=few hf;obtain⟨wks,q1,q2,q3⟩:=h.rates h0 h1 day;have hc:=h.cnt;obtain⟨b1,b2⟩:=q3.btw hn h100;obtain⟨k,f,k1,k2,k3,k4,k5⟩:=zA6 (x:=n) h.cts.1 (show t.Counts.length<=1048576 by omega);obtain⟨e0,l0⟩:=zA7 h.cts.2.1;unfold zsD
 dsimp only
 rw[show idx t.Rates crop=idx t.Rates ((crop.toNat:Nat):Int) by rw[Int.toNat_of_nonneg h0],zq3 q1,obs,zA8 h.wks.1 h.wks.2.1 (by omega) (by omega),obs,zq3 q2,obs,k1,obs]
 dsimp only
 by_cases hfl:f=true
 ·obtain⟨c1,c2⟩:=k5.1 hfl
  have hu:lastN t.Counts n=k:=by rw[<- c2]; exact hc.last_at c1
  rw[if_pos hfl,zAb (by rw[q3.len]; exact c1),obs];unfold zzS
  dsimp only
  rw[hu,if_pos c2]
 ·have hne:∀m,m < t.Counts.length->nth t.Counts m ≠ n:=fun m hm he=>by
   rcases Nat.lt_or_ge m k with h6 | h6
   ·have:=k3 m h6; omega
   ·rcases Nat.lt_or_ge k m with h7 | h7
    ·have h8:=k4 k (Nat.le_refl _) (by omega);have:=zzN h.cts.1 (zzQ (show k < t.Counts.length by omega)) (zzQ hm) h7
     omega
    ·have:m=k:=by omega
     subst this;exact hfl (k5.2 ⟨hm,he⟩)
  obtain⟨b3,b4⟩:=b2 (hne _ (hc.lt n))
  have hu:lastN t.Counts n+1=k:=by
   rcases Nat.lt_trichotomy (lastN t.Counts n+1) k with h6 | h6 | h6
   ·have:=k3 _ h6; omega
   ·exact h6
   ·have:=k4 (lastN t.Counts n) (by omega) (hc.lt n);have:=hne _ (hc.lt n)
    omega
  subst hu;have hl:=hc.lt n
  have hlr:lastN t.Counts n < (zz0 t crop day).length:=by rw[q3.len]; exact hl
  have hlr2:lastN t.Counts n+1 < (zz0 t crop day).length:=by rw[q3.len]; exact b3
  have hi:=q3.at hl;have hi2:=q3.at b3;have c1:=Cnt.rng h hl;have c2:=Cnt.rng h b3
  have hcast:((lastN t.Counts n+1:Nat):Int) - 1=((lastN t.Counts n:Nat):Int):=by omega
  rw[if_neg hfl,zqf (fI (by omega)),hcast,zAb hl,obs,zAb b3,obs,zqf (fI (by omega)),zAb hlr,obs,zAb hlr2];have hline:=zAX ⟨c1.1,b1⟩ ⟨Int.le_of_lt b4,c2.2⟩ (by omega) hi hi2;unfold zzS
  dsimp only
  rw[if_neg (hne _ hl)];unfold zzR at hline ⊢
  generalize nth t.Counts (lastN t.Counts n)=a at *
  generalize nth t.Counts (lastN t.Counts n+1)=b at *
  generalize nth (zz0 t crop day) (lastN t.Counts n)=x at *
  generalize nth (zz0 t crop day) (lastN t.Counts n+1)=y at *
  have p1:=zAW hi (show 0<=b - n/\b - n<=100 by omega);have p2:=zAW hi2 (show 0<=n - a/\n - a<=100 by omega);rw[zqf (fI (by omega)),zqf (by omega),zqf (by omega),zqf (fI (by omega)),obs,zqf (fI (by omega)),zqf (by omega),zqf (by omega),zqf (fI (by omega)),zqf (fI (by omega)),zqf (fI (by omega)),zqf (by omega),zqf (by omega),zqf (fI (by omega))]
theorem zBb{t:Tf}(h:VT t)(hf:¬ zzW t){hh:Ht}(h0:0<=hh.crop)(h1:hh.crop < t.Rates.length)(hn:0<=hh.Count)(h100:hh.Count<=100)(hd:0<=hh.Day/\hh.Day<=120):ztj t hh=some (zz2 t hh.crop hh.Day hh.Count):=by
 obtain⟨_,_,_,q3⟩:=h.rates h0 h1 hh.Day;have hr:=q3.loss_rng hn h100;have hls:=h.lst;unfold ztj zz2 zz1;rw[zBa h hf h0 h1 hn h100 hd,obs]
 generalize zzS t.Counts (zz0 t hh.crop hh.Day) hh.Count=x at *
 by_cases h4:x < t.Least
 ·rw[if_pos h4,if_pos h4]
 ·rw[if_neg h4,if_neg h4];unfold zti
  by_cases h5:t.Whole=true
  ·rw[if_pos h5,if_pos h5,obs]; rfl
  ·rw[if_neg h5,if_neg h5,obs]
   show Option.bind (zsC t x) _=_
   unfold zsC;rw[zqf (fI (by omega)),obs]
def zBc(l:List Tf)(M:Option (Ht->Option Int)):Prop:=∃f,M=some f/\∀h v,f h=some v->v=zz3 l h.crop h.Day h.Count
structure zBd (l:List Tf) (h:Ht):Prop where
 c:0<=h.crop/\h.crop < zzV l
 n:0<=h.Count/\h.Count<=100
 d:0<=h.Day/\h.Day<=120
theorem zBe{l:List Tf}(hf:zzY l=0):0 < zzV l/\zzV l<=3:=by
 obtain⟨hm,hv⟩:=zzZ.1 hf;obtain⟨h3,ht⟩:=zAD hm;obtain⟨t,h1,h2⟩:=zAB hv.ne;have hmem:=List.mem_of_getElem? h1;have:=few (ht t hmem);have:=List.length_pos_iff.2 (hv.vt t hmem).rne
 omega
theorem zBf{l:List Tf}(hf:zzY l=0){M:Option (Ht->Option Int)}(hM:zBc l M){h:Ht}(hh:zBd l h):∃M',ztm ⟨l,M⟩ h=some (zz3 l h.crop h.Day h.Count,M')/\zBc l M':=by
 obtain⟨hm,hv⟩:=zzZ.1 hf;obtain⟨h3,ht⟩:=zAD hm;have hcr:=zBe hf;obtain⟨f,rfl,hf2⟩:=hM;have hc:=hh.c;have hn:=hh.n;have hd:=hh.d;unfold ztm;rw[zqf (show MK.fit h from ⟨fI (by omega),fI (by omega),fI (by omega),trivial⟩)]
 cases hg:zqz (some f) h with
 | some v=>
  rw[zqK rfl];have:v=_:=hf2 h v hg;subst this;exact⟨_,rfl,f,rfl,hf2⟩
 | none=>
  rw[zqJ rfl,zA9 hv h3 hd,obs,zBb (hv.vof _) (ht _ (hv.of _).2) hc.1 (by rw[hv.cof]; exact hc.2) hn.1 hn.2 hd,obs,zqf (show MK.fit h from ⟨fI (by omega),fI (by omega),fI (by omega),trivial⟩)];refine⟨_,rfl,_,rfl,fun k v hk=>?_⟩
  by_cases hkh:k=h
  ·subst hkh;rw[if_pos rfl] at hk;exact(oi hk).symm
  ·rw[if_neg hkh] at hk; exact hf2 k v hk
theorem zBg{l:List Tf}:zBc l (some fun _=>none):=⟨_,rfl,fun _ _ h=>by cases h⟩
theorem zBh{l:List Tf}(hf:zzY l=0):ztk l=some (⟨l,some fun _=>none⟩,0):=by unfold ztk; rw[zAF,obs,if_pos hf]
theorem zBi{l:List Tf}(hf:zzY l=0){n:Int}:Ev (zsr l n) (0<=n/\n < zzV l):=by
 obtain⟨hm,hv⟩:=zzZ.1 hf;obtain⟨t,h1,h2⟩:=zAB hv.ne;have:=zBe hf;refine Ev.bind (zq6 h1) ?_;rw[<- h2];exact(zAa (by omega)).ret
structure zBj (l:List Tf) (c:Clm):Prop where
 crop:0<=c.Crop/\c.Crop < zzV l
 val:0<=c.Value/\c.Value<=100000
 day:0<=c.Day.Lo/\c.Day.Lo<=c.Day.Hi/\c.Day.Hi<=120/\c.Day.Hi - c.Day.Lo<=10
 cnt:0<=c.Count.Lo/\c.Count.Lo<=c.Count.Hi/\c.Count.Hi<=100
theorem zBk{r:Rg}{p:Int->Option Bool}{q:Int->Prop}(hp:∀n,Ev (p n) (q n)):Ev (zta r p) (r.Lo<=r.Hi/\q r.Lo/\q r.Hi):=Ev.ite fun _=>Ev.and (hp _) fun _=>(hp _).ret
theorem zBl{l:List Tf}(hf:zzY l=0){c:Clm}:Ev (ztg l c) (zBj l c):=by
 refine Ev.imp (Ev.and (zBi hf) fun _=>Ev.and zz6 fun _=>Ev.and (K:=c.Day.Hi - c.Day.Lo<=10/\(c.Count.Lo<=c.Count.Hi/\(0<=c.Count.Lo/\c.Count.Lo<=100)/\(0<=c.Count.Hi/\c.Count.Hi<=100))) (zBk (fun _=>zz7)) fun hd=>Ev.gd (fI (by omega)) (Ev.ite fun _=>(zBk (fun _=>zz8)).ret)) ?_
 dsimp only
 exact⟨fun⟨h1,h2,h3,h4⟩=>⟨h1,h2,by omega,by omega⟩,fun h=>by
  have h3:=h.day;have h4:=h.cnt
  exact⟨h.crop,h.val,by omega,by omega⟩⟩
open Classical in
def zBm(c:Clm)(t:Tr):Prop:=(c.Day.Lo<=t.Day/\t.Day<=c.Day.Hi)/\(c.Count.Lo<=t.Count/\t.Count<=c.Count.Hi)
theorem zBn{c:Clm}{t:Tr}:Ev (zst c t) (zBm c t):=Ev.and zz6 fun _=>zz6.ret
def zBo(l:List Tf)(c:Clm)(t:Tr):Int:=c.Value * zz3 l c.Crop t.Day t.Count / 100
theorem zBp{l:List Tf}{cs:List Clm}(hf:zzY l=0)(h5:cs.length<=5)(hc:∀c∈cs,zBj l c):ztl l cs=some (⟨l,some fun _=>none⟩,0):=by
 unfold ztl;rw[zBh hf,obs,if_pos rfl,if_neg (by omega),(zAj (fun c _=>zBl hf) (zrf h5 (by omega))).some_of hc,obs,if_pos rfl]
theorem zBq{l:List Tf}{cs:List Clm}(hf:zzY l=0)(h5:cs.length<=5)(hc:¬ ∀c∈cs,zBj l c):ztl l cs=some (⟨[],none⟩,2):=by
 unfold ztl;rw[zBh hf,obs,if_pos rfl,if_neg (by omega),(zAj (fun c _=>zBl hf) (zrf h5 (by omega))).some_not hc,obs,if_neg (by simp)]
theorem zBr{l:List Tf}{c:Clm}(hc:zBj l c){t:Tr}(ht:zBm c t):zBd l ⟨t.Day,t.Count,c.Crop⟩:=by
 have h1:=hc.day;have h2:=hc.cnt;obtain⟨h3,h4⟩:=ht;exact⟨hc.crop,by show 0<=t.Count/\t.Count<=100; omega,by show 0<=t.Day/\t.Day<=120; omega⟩
theorem zBs{l:List Tf}(hf:zzY l=0){h:Ht}(hh:zBd l h):0<=zz3 l h.crop h.Day h.Count/\zz3 l h.crop h.Day h.Count<=100:=
 (zzZ.1 hf).2.part_rng hh.c.1 hh.c.2 hh.n.1 hh.n.2 _
theorem zBt{v p:Int}(hv:0<=v/\v<=100000)(hp:0<=p/\p<=100):0<=v * p/\v * p<=10000000:=by
 refine⟨Int.mul_nonneg hv.1 hp.1,?_⟩;have h1:v * p<=100000 * p:=Int.mul_le_mul_of_nonneg_right hv.2 hp.1
 omega
theorem zBu{l:List Tf}(hf:zzY l=0){M:Option (Ht->Option Int)}(hM:zBc l M){c:Clm}(hc:zBj l c){t:Tr}(ht:zBm c t):∃M',ztn ⟨l,M⟩ c t=some (zBo l c t,M')/\zBc l M':=by
 have hh:=zBr hc ht;obtain⟨M',h1,h2⟩:=zBf hf hM hh;have hp:=zBs hf hh;have hv:=zBt hc.val hp;have hval:=hc.val;refine⟨M',?_,h2⟩;unfold ztn;rw[h1,obs]
 dsimp only at hp hv ⊢
 rw[zqf (by omega),zqf (by omega),zqf (fI (by omega)),zqf (by omega),zqf (by omega),zqf (fI (by omega))]
 rfl
theorem zBv{α:Type}{a:α}{P:α->Prop}:(∀x∈[a],P x)↔P a:=by simp
theorem zBw{l:List Tf}(hf:zzY l=0){c:Clm}(hc:zBj l c){t:Tr}(ht:zBm c t):ztv l c t=some (zBo l c t,0):=by
 obtain⟨M',h1,_⟩:=zBu hf zBg hc ht;unfold ztv; rw[zBp hf (by simp) (zBv.2 hc),obs,if_pos rfl,zBn.some_of ht,obs,if_pos rfl,h1,obs]
end
end Go.Proofs.YtnjbahoohfaplaaGreat

namespace Go.Proofs.YtnjbahoohfaplaaGreat
open _root_.Go.Proofs.Tryz
open Go.Abs
set_option maxRecDepth 100000
noncomputable section
theorem zBx{l:List Int}(h:l ≠ [])(hl:l.length < 9223372036854775807):zsF l=some (zrh l):=by
 cases l with
 | nil=>exact absurd rfl h
 | cons x l=>
  unfold zsF;rw[if_neg (by simp; omega),zq6 rfl,obs]
  have key:=zrg (l:=x::l) (fun s a=>min s a) (fun d s k=>zsE (x::l) d s k) some (fun d k s a ha=>by
   have hk:=(List.getElem?_eq_some_iff.1 ha).1;rw[zsE,if_pos (by omega),zq3 ha,obs]
   by_cases hc:a < s
   ·rw[if_pos hc,zqf (fI (by omega)),Int.min_eq_right (by omega)]
   ·rw[if_neg hc,zqf (fI (by omega)),Int.min_eq_left (by omega)]) (fun d s=>by rw[zsE,if_neg (Int.lt_irrefl _)]) ((x::l).length+1) 0 x (Nat.zero_le _) (by omega)
  refine key.trans ?_;rw[List.drop_zero]
  show some (l.foldl min (min x x))=_
  rw[Int.min_self]; rfl
theorem zBy{l:List Int}(h:l ≠ [])(hl:l.length < 9223372036854775807):zsH l=some (zri l):=by
 cases l with
 | nil=>exact absurd rfl h
 | cons x l=>
  unfold zsH;rw[if_neg (by simp; omega),zq6 rfl,obs]
  have key:=zrg (l:=x::l) (fun s a=>max s a) (fun d s k=>zsG (x::l) d s k) some (fun d k s a ha=>by
   have hk:=(List.getElem?_eq_some_iff.1 ha).1
   rw[zsG,if_pos (by omega),zq3 ha,obs,zqf (fI (by omega))]) (fun d s=>by rw[zsG,if_neg (Int.lt_irrefl _)]) ((((x::l).length:Int) - 1).toNat+1) 1 x (by simp) (by simp only[List.length_cons]; omega)
  exact key
theorem w68{f g i j:C}{l o:Int}{m:M}{Q:V->M->Prop}(h:(∀w:M,(w=M.new m (AO.cells 5 [f,Il l,Il o,g,i] false))->∀p:M,(p=M.new w (AO.cells 1 [j] false))->∀b:M,(b=M.new p (AO.cells 2 [Il 0,Il 0] false))->∀m3:M,(m3=M.new b (AO.cells 1 [C.sl0] false))->∃c4 x5 x6 c7 c8,ldA m3 (.ptr m.nxt 0) 5=some [c4,Il x5,Il x6,c7,c8]/\Wc prog tbl 100 [.agg 5 [c4,Il x5,Il x6,c7,c8]] m3 (fun v9 au=>∃x,v9=.c x/\zoA prog tbl x au (fun av q aw ax=>∃y z A B D F,av=[.agg 6 [Il y,Il z,Il A,Il B,Il D,Il F]]/\∀G:M,(G=M.new q (AO.cells 6 [Il 0,Il 0,Il 0,Il 0,Il 0,Il 0] false))->∃I:M,stC G (.ptr q.nxt 0) 6 [Il y,Il z,Il A,Il B,Il D,Il F]=some I/\aw I (fun d=>∃a,ldC d (.ptr b.nxt 0)=some a/\isPt (.ptr w.nxt 0)/\∃J,ldC d (.ptr w.nxt 0)=some J/\∃N O P S T Y,ldA d (.ptr q.nxt 0) 6=some [Il N,Il O,Il P,Il S,Il T,Il Y]/\zmq prog tbl [.agg 6 [Il N,Il O,Il P,Il S,Il T,Il Y]] J d (fun ay r=>∃Z,ay=.c (Il Z)/\ifB (cmC a) (ldC r (.ptr b.nxt 0)=some a) False/\∀s:M,(s=M.new r (AO.cells 1 [Il Z] false))->ifB (cmC a) (ldC s (.ptr b.nxt 0)=some a) False/\∃aa,∃ab:M,ApR prog 29 s a (.sl r.nxt 0 1 0 (some 1)) aa ab/\∃ac:M,stC ab (.ptr b.nxt 0) 1 [aa]=some ac/\ax Ex.nrm ac))) (zoq.mk (fun t=>∃ad,ldC t (.ptr b.nxt 0)=some ad/\Wc prog tbl 101 [.c ad] t (fun az ae=>∃af,az=.c (Il af)/\∃e,ldC ae (.ptr b.nxt 0)=some e/\ifB (cmC e) (ldC t (.ptr b.nxt 0)=some e) False/\Wc prog tbl 102 [.c e] ae (fun aA aB=>∃ag,aA=.c (Il ag)/\∃u:M,stC aB (.ptr p.nxt 0) 2 [Il af,Il ag]=some u/\∃ah ai,ldA u (.ptr p.nxt 0) 2=some [Il ah,Il ai]/\Q (.agg 2 [Il ah,Il ai]) u))) [] (fun aj=>∃ak al,ldA aj (.ptr p.nxt 0) 2=some [Il ak,Il al]/\Q (.agg 2 [Il ak,Il al]) aj))))):Wc prog tbl 68 [.agg 5 [f,Il l,Il o,g,i],(.agg 1 [j])] m Q:=zpB (n:=2) rfl (by kernel_rfl) (by kernel_rfl) h
theorem zBz{l l':List Int}(h:l.Perm l')(hn:l ≠ []):zrh l=zrh l':=by
 have hn':l' ≠ []:=fun he=>hn (by rw[he] at h; exact List.Perm.eq_nil h);have a:=zrl hn;have b:=zrl hn';exact Int.le_antisymm (a.2 _ (h.symm.subset b.1)) (b.2 _ (h.subset a.1))
theorem zBA{l l':List Int}(h:l.Perm l')(hn:l ≠ []):zri l=zri l':=by
 have hn':l' ≠ []:=fun he=>hn (by rw[he] at h; exact List.Perm.eq_nil h);have a:=zrm hn;have b:=zrm hn';exact Int.le_antisymm (b.2 _ (h.subset a.1)) (a.2 _ (h.symm.subset b.1))
def zBB(f:M)(x:C)(g:Ver->Option (Int)):Prop:=∀(f' m:M) (a0:Ver) (r:Int) (Q:V->M->Prop),Sub f f'->Pre f' m->g a0=some r->(∀m',Ext m m'->Q (.c (.int .i64 r)) m')->zmq prog tbl [.agg 6 [(.int .i64 a0.fee),(.int .i64 a0.pence),(.int .i64 a0.fields.f0),(.int .i64 a0.fields.f1),(.int .i64 a0.fields.f2),(.int .i64 a0.fields.f3)]] x m Q
theorem zBB.sub{f m:M}{x:C}{g:Ver->Option (Int)}(h:zBB f x g)(s:Sub f m):zBB m x g:=fun f' m' a0 r Q hs=>h f' m' a0 r Q (s.trans hs)
def zBC(xs:List Int):List C:=xs.map (C.int .i64)
theorem zBD:∃el,tk prog 29=.sl el/\zct prog el=true/\prog.cellsOf el=1/\prog.bytesOf el=8:=⟨3,by kernel_rfl,by kernel_rfl,by kernel_rfl,by kernel_rfl⟩
structure BdI (f1:M) (L A qb:Nat) (a200 cp:C) (Mz:Option (Clm->Option Int)) (rec_:AO) (ask:Ver->Option Int) (d:List Ver) (S:Nat->Prop) (m:M):Prop where
 ex:∃ca xs,zu7 ask d=some xs/\Bk m A 1 [ca]/\zpX m 1 ca (zBC xs) d.length/\(∀b,S b↔b=L\/b=A\/∃o n s c,ca=.sl b o n s c)/\¬ (∃o n s c,ca=.sl A o n s c)/\¬ (∃o n s c,ca=.sl L o n s c)/\(∀b,(∃o n s c,ca=.sl b o n s c)->L < b)
 rc:m.g L=some rec_
 lt:L < m.nxt
 q:Bk m qb 1 [a200]
 sub:Sub f1 m
 mi:Mi m cp Mz
theorem zBE{m:M}{k n:Nat}{x:C}{vs:List C}(h:zpX m k x vs n){b:Nat}(hb:∃o n s c,x=.sl b o n s c):b < m.nxt:=by
 obtain⟨o,n',s,c,he⟩:=hb;exact h.lt he
theorem zBF{n0 L A qb N:Nat}{f1:M}{a200 cp:C}{Mz:Option (Clm->Option Int)}{mk:LoopState->Option Code->AO}{ask:Ver->Option Int}{round:zow}(hy:Go.Abs.zoz prog tbl mk L round)(hn0:n0=L+1)(hAL:A < L)(hqA:qb ≠ A)(hq:qb < n0)(hqL:qb ≠ L)(hf1:f1.nxt<=L)(hfz:∀b,f1.nxt<=b->f1.g b=none)(hfv:∀b,f1.nxt<=b->f1.vw b=none)(hfA:f1.g A=none/\f1.vw A=none)(hcp:∀b,cp=.map b->b < n0/\b ≠ A/\b ≠ L)(hF:zBB f1 a200 ask)(hN:N * 8<=140737488355328)
  (hround:∀ v m1 (R14:M->(M->Prop)->Prop) (R15:Ex->M->Prop),
   (∀ m22:M,m22=M.new m1 (AO.cells 6 [(C.int IntKind.i64 (0:Int)),(C.int IntKind.i64 (0:Int)),(C.int IntKind.i64 (0:Int)),(C.int IntKind.i64 (0:Int)),(C.int IntKind.i64 (0:Int)),(C.int IntKind.i64 (0:Int))] false)->(∃ m23:M,
    ((stC m22 (C.ptr (m1).nxt 0) 6 (zzx v))=(Option.some m23)) /\
    (R14 m23 (fun m24=>(∃ c25:C,(((ldC m24 (C.ptr A 0))=(Option.some c25))/\(isPt (C.ptr qb 0)/\(∃ c26:C,(((ldC m24 (C.ptr qb 0))=(Option.some c26)) /\
     (∃x27:Int,(∃x28:Int,(∃x29:Int,(∃x30:Int,(∃x31:Int,(∃x32:Int,(((ldA m24 (C.ptr (m1).nxt 0) 6)=(Option.some [(C.int IntKind.i64 x27),(C.int IntKind.i64 x28),(C.int IntKind.i64 x29),(C.int IntKind.i64 x30),(C.int IntKind.i64 x31),(C.int IntKind.i64 x32)])) /\
     (zmq prog tbl [(V.agg 6 [(C.int IntKind.i64 x27),(C.int IntKind.i64 x28),(C.int IntKind.i64 x29),(C.int IntKind.i64 x30),(C.int IntKind.i64 x31),(C.int IntKind.i64 x32)])] c26 m24 (fun v33 m34=>
      (∃x35:Int,((v33=(V.c (C.int IntKind.i64 x35)))/\((ifB (cmC c25) ((ldC m34 (C.ptr A 0))=(Option.some c25)) False) /\
      (∀m36:M,((m36=(M.new m34 (AO.cells 1 [(C.int IntKind.i64 x35)] false)))->((ifB (cmC c25) ((ldC m36 (C.ptr A 0))=(Option.some c25)) False)/\(∃c37:C,
      (∃m38:M,((ApR prog 29 m36 c25 (C.sl (m34).nxt 0 1 0 (Option.some 1)) c37 m38)/\(∃m39:M,(((stC m38 (C.ptr A 0) 1 [c37])=(Option.some m39))/\(R15 Ex.nrm m39)))))))))))))))))))))))))))))) ->
   round [.agg 6 (zzx v)] m1 R14 R15) :
  zzz n0 L N (fun v=>ask v ≠ none) (BdI f1 L A qb a200 cp Mz (mk .ready none) ask):=by
 refine⟨fun d S m m' h hn hv hs h0=>?_,fun d S m h b hb=>?_,fun d v S m h hd hA Q hQ=>?_⟩
 ·obtain⟨⟨ca,xs,q1,q2,q3,q4,q5,q6,q7⟩,h2,h3,h4,h5,h6⟩:=h;refine⟨⟨ca,xs,q1,⟨(hs A ((q4 A).2 (.inr (.inl rfl)))).trans q2.g,Nat.lt_of_lt_of_le q2.lt hn⟩,q3.to hn (fun b _ ⟨s,c,he⟩=>hs b ((q4 b).2 (.inr (.inr ⟨_,_,_,_,he⟩)))),q4,q5,q6,q7⟩,(hs L ((q4 L).2 (.inl rfl))).trans h2,by omega,⟨(h0 qb hq).trans h4.g,Nat.lt_of_lt_of_le h4.lt hn⟩,⟨Nat.le_trans h5.nxt hn,hv.trans h5.vw,fun b hb hd=>(h0 b (by omega)).trans (h5.g b hb hd)⟩,h6.to hn fun b hb=>h0 b (hcp b hb).1⟩
 ·obtain⟨⟨ca,xs,q1,q2,q3,q4,q5,q6,q7⟩,h2,h3,h4,h5,h6⟩:=h
  rcases (q4 b).1 hb with rfl | rfl | hb
  ·exact h3
  ·exact q2.lt
  ·exact zBE q3 hb
 ·obtain⟨⟨ca,xs,q1,q2,q3,q4,q5,q6,q7⟩,h2,h3,h4,h5,h6⟩:=h
  obtain⟨x,hx⟩:∃x,ask v=some x:=by
   cases hv:ask v with
   | none=>exact absurd hv hA
   | some x=>exact⟨x,rfl⟩
  refine hy _ m Q h2 (hround v m _ _ fun m22 e22=>?_);obtain⟨b22,x22⟩:=Bk.new e22
  have n22:m22.nxt=m.nxt+1:=by rw[e22]; rfl
  refine⟨_,b22.st (zzx v),?_⟩;have k23:=b22.set (zzx v);have x23:Ext m (m22.set m.nxt (.cells 6 (zzx v) false)):=x22.setR (Nat.le_refl _) _;have n23:(m22.set m.nxt (.cells 6 (zzx v) false)).nxt=m.nxt+1:=n22;generalize m22.set m.nxt (.cells 6 (zzx v) false)=m23 at k23 x23 n23 ⊢;refine⟨(x23.g L h3).trans h2,?_⟩
  have g24:∀b,b < m.nxt->b ≠ L->(m23.set L (mk .busy none)).g b=m.g b:=fun b hb hne=>by rw[M.g_set,if_neg hne]; exact x23.g b hb
  have k24:Bk (m23.set L (mk .busy none)) m.nxt 6 (zzx v):=k23.setNe (by omega) _
  have l24:(m23.set L (mk .busy none)).g L=some (mk .busy none):=by rw[M.g_set,if_pos rfl]
  have n24:(m23.set L (mk .busy none)).nxt=m.nxt+1:=n23;have v24:(m23.set L (mk .busy none)).vw=m.vw:=x23.vw;generalize m23.set L (mk .busy none)=m24 at g24 k24 l24 n24 v24 ⊢;have A24:Bk m24 A 1 [ca]:=⟨(g24 A q2.lt (by omega)).trans q2.g,by have:=q2.lt; omega⟩;have Q24:Bk m24 qb 1 [a200]:=⟨(g24 qb h4.lt hqL).trans h4.g,by have:=h4.lt; omega⟩;have sub24:Sub f1 m24:=⟨by have:=h5.nxt; omega,v24.trans h5.vw,fun b hb hd=>(g24 b (by have:=h5.nxt; omega) (by omega)).trans (h5.g b hb hd)⟩;have o24:zpX m24 1 ca (zBC xs) d.length:=q3.to (by omega) fun b hb ⟨s,c,he⟩=>g24 b hb (by have:=q7 b ⟨_,_,_,_,he⟩; omega);refine⟨_,A24.rc rfl,trivial,_,Q24.rc rfl,_,_,_,_,_,_,k24.ra,?_⟩;refine hF f1 m24 v x _ (.refl f1) ⟨sub24,hfz,hfv⟩ hx fun m34 e34=>⟨_,rfl,?_,fun m36 e36=>?_⟩
  ·rw[zoM o24.ls.noFn]; exact(A24.ext e34).rc rfl
  obtain⟨b36,x36⟩:=Bk.new e36;have e46:=e34.trans x36
  have n36:m36.nxt=m34.nxt+1:=by rw[e36]; rfl
  refine⟨by rw[zoM o24.ls.noFn]; exact(A24.ext e46).rc rfl,?_⟩;obtain⟨el,t1,t2,t3,t4⟩:=zBD;obtain⟨m38,p1,p2,p3,p4,p5⟩:=zpY (P:=prog) t1 t2 t3 (o24.ext e46) (Ls.one b36.g rfl b36.lt 0 (some 1)) (by omega) (by omega) (by rw[t4]; omega)
  have A38:Bk m38 A 1 [ca]:=⟨(p5 A (by have:=q2.lt; have:=e46.nxt; omega) fun he=>by
   obtain⟨o,n,s,hc⟩:=zqc he
   exact q5 ⟨_,_,_,_,hc⟩).trans (A24.ext e46).g,by have:=(A24.ext e46).lt; omega⟩
  refine⟨_,m38,p1,_,A38.st _,?_⟩
  have g38:∀b,b < m.nxt->b ≠ L->slB ca ≠ some b->m38.g b=m.g b:=fun b hb hne hsl=>by
   rw[p5 b (by have:=e46.nxt; omega) hsl,e46.g b (by omega)]; exact g24 b hb hne
  have l38:m38.g L=some (mk .busy none):=by
   rw[p5 L (by have:=e46.nxt; omega) (fun he=>by
    obtain⟨o,n,s,hc⟩:=zqc he
    exact q6 ⟨_,_,_,_,hc⟩),e46.g L (by omega)]
   exact l24
  have n38:m.nxt<=m36.nxt:=by have:=e46.nxt; omega
  refine⟨⟨_,_,by rw[M.g_set,if_neg (by omega)]; exact l38⟩,?_⟩
  have hslS:∀b,slB ca=some b->S b:=fun b hb=>by
   obtain⟨o,n,s,hc⟩:=zqc hb;exact(q4 b).2 (.inr (.inr ⟨_,_,_,_,hc⟩))
  have g40:∀b,b ≠ L->b ≠ A->((m38.set A (.cells 1 [.sl m36.nxt 0 (d.length+1) 1 none] false)).set L (mk .ready none)).g b=m38.g b:=fun b h1 h2=>by rw[M.g_set,if_neg h1,M.g_set,if_neg h2]
  have a40:((m38.set A (.cells 1 [.sl m36.nxt 0 (d.length+1) 1 none] false)).set L (mk .ready none)).g A=some (.cells 1 [.sl m36.nxt 0 (d.length+1) 1 none] false):=by rw[M.g_set,if_neg (by omega),M.g_set,if_pos rfl]
  have l40:((m38.set A (.cells 1 [.sl m36.nxt 0 (d.length+1) 1 none] false)).set L (mk .ready none)).g L=some (mk .ready none):=by rw[M.g_set,if_pos rfl]
  have n40:((m38.set A (.cells 1 [.sl m36.nxt 0 (d.length+1) 1 none] false)).set L (mk .ready none)).nxt=m36.nxt+1:=p3;have v40:((m38.set A (.cells 1 [.sl m36.nxt 0 (d.length+1) 1 none] false)).set L (mk .ready none)).vw=m.vw:=p4.trans (e46.vw.trans v24);generalize (m38.set A (.cells 1 [.sl m36.nxt 0 (d.length+1) 1 none] false)).set L (mk .ready none)=m40 at g40 a40 l40 n40 v40 ⊢
  have gg:∀b,b < m.nxt->¬ S b->m40.g b=m.g b:=fun b hb hS=>by
   rw[g40 b (fun h=>hS ((q4 b).2 (.inl h))) (fun h=>hS ((q4 b).2 (.inr (.inl h))))];exact g38 b hb (fun h=>hS ((q4 b).2 (.inl h))) fun h=>hS (hslS b h)
  have hold:∀b,b < n0->b ≠ A->b ≠ L->m40.g b=m.g b:=fun b hb h1 h2=>gg b (by omega) fun hS=>by
   rcases (q4 b).1 hS with h | h | h
   ·exact h2 h
   ·exact h1 h
   ·have:=q7 b h; omega
  refine hQ (fun b=>b=L\/b=A\/b=m36.nxt) m40 (fun b hb=>?_) ⟨by omega,gg,v40⟩ ⟨⟨.sl m36.nxt 0 (d.length+1) 1 none,xs++[x],?_,⟨a40,by have:=q2.lt; omega⟩,?_,fun b=>?_,?_,?_,fun b hb=>?_⟩,l40,by omega,⟨(hold qb hq hqA hqL).trans h4.g,by have:=h4.lt; omega⟩,⟨by have:=h5.nxt; omega,v40.trans h5.vw,fun b hb hd=>(hold b (by omega) (fun h=>by subst h; exact hd.elim (fun h=>h hfA.1) fun h=>h hfA.2) (by omega)).trans (h5.g b hb hd)⟩,h6.to (by omega) fun b hb=>hold b (hcp b hb).1 (hcp b hb).2.1 (hcp b hb).2.2⟩
  ·rcases hb with h | h | h
   ·exact .inl ((q4 b).2 (.inl h))
   ·exact .inl ((q4 b).2 (.inr (.inl h)))
   ·exact .inr (by omega)
  ·exact zve hx q1
  ·have:zpX m38 1 (.sl m36.nxt 0 (d.length+1) 1 none) (zBC (xs++[x])) (d.length+1):=by
    unfold zBC at p2 ⊢;rw[List.map_append]; exact p2
   rw[List.length_append]
   exact this.to (by omega) fun b hb ⟨s,c,he⟩=>by
    cases he
    exact g40 _ (by omega) (by have:=q2.lt; omega)
  ·constructor
   ·rintro (h | h | h)
    ·exact .inl h
    ·exact .inr (.inl h)
    ·exact .inr (.inr ⟨_,_,_,_,by rw[h]⟩)
   ·rintro (h | h | ⟨o,n,s,c,h⟩)
    ·exact .inl h
    ·exact .inr (.inl h)
    ·cases h; exact .inr (.inr rfl)
  ·rintro⟨o,n,s,c,h⟩
   cases h
   have:=q2.lt
   omega
  ·rintro⟨o,n,s,c,h⟩
   cases h
   omega
  ·obtain⟨o,n,s,c,h⟩:=hb
   cases h
   omega
open Classical in
def tgB(A R:Nat)(cp:C):Nat->Nat:=fun b=>if b=A then 2 else if b=R then 3 else if cp=.map b then 1 else 4
theorem zBG{w:UWk}{q:Qn}{ca100 ca103 ca104 a200:C}{m f:M}{Q:V->M->Prop}{rz:Rg × Option (Clm->Option Int)}(hS:Pre f m)(ha100:Sl f ca100 w.c.Tariffs)(ha103:Sl f ca103 w.c.Fields)(ha104:Mc f m ca104 w.payments)(hF:zBB f a200 q.ask)(hp:zva w q=some rz)
    (hq:∀m',zqB ca104 m m'->Mi m' ca104 rz.2->Q (.agg 2 [Il rz.1.Lo,Il rz.1.Hi]) m'):Wc prog tbl 68 [.agg 5 [ca100,Il w.c.Day,Il w.c.Fee,ca103,ca104],.agg 1 [a200]] m Q:=by
 obtain⟨r,hr,z⟩:=zqd (show(zu8 w w.c.Fields w.payments).bind _=some rz from hp);obtain⟨hlen,D⟩:=zqe z;obtain⟨vs,hvs,t⟩:=zqd D;obtain⟨⟨hN,hne⟩,h4⟩:=zqe t;obtain⟨xs,hxs,h5⟩:=zqd h4;obtain rfl:=oi h5
 clear z D t h4 h5 hp
 have S0:=hS.stM ha104;obtain⟨τ0,M0⟩:∃τ,Mo (Fm.mp m ca104) f τ m 1 ca104 w.payments:=⟨_,ha104.mo 1⟩;refine w68 ?_;intro m0 e0;obtain⟨τ1,S1,k1,Lw⟩:=S0.blk e0 τ0 2;have M1:=M0.k k1;intro j e1;obtain⟨τ2,S2,k2,Lq⟩:=S1.blk e1 τ1 3;have Lw:=Lw.k k2;have M2:=M1.k k2;intro i e2;obtain⟨τ3,S3,k3,Lr⟩:=S2.blk e2 τ2 4;have Lw:=Lw.k k3;have Lq:=Lq.k k3;have M3:=M2.k k3;intro m3 e3;obtain⟨τ4,S4,F,La⟩:=S3.blk e3 τ3 5;have Lw:=Lw.k F;have Lq:=Lq.k F;have Lr:=Lr.k F;have M4:=M3.k F;refine⟨_,_,_,_,_,Lw.bk.ra,?_⟩;refine zwf fun a Y=>⟨_,rfl,?_⟩;obtain⟨τ5,S5,G,Lx⟩:=S4.blk Y τ4 6;have Lq:=Lq.k G;have Lr:=Lr.k G;have La:=La.k G;have M5:=M4.k G;obtain⟨f1,e,I,Wf⟩:=Lx.freeze S5;have Lq:=Lq.k I;have Lr:=Lr.k I;have La:=La.k I;have M6:=M5.k I;intro mk hy;have eL:a.new (mk .ready none)=a.new (mk .ready none):=rfl;obtain⟨x,J⟩:=e.new eL τ5 7;have Lq:=Lq.k J;have Lr:=Lr.k J;have La:=La.k J;have O:=M6.k J
 have rL:(a.new (mk .ready none)).g a.nxt=some (mk .ready none):=by rw[M.g_new,if_pos rfl]
 have nL:(a.new (mk .ready none)).nxt=a.nxt+1:=rfl
 have q0:m0.nxt=m.nxt+1:=by rw[e0]; rfl
 have q1:j.nxt=m.nxt+2:=by rw[e1]; show m0.nxt+1=_; omega
 have q2:i.nxt=m.nxt+3:=by rw[e2]; show j.nxt+1=_; omega
 have q3:m3.nxt=m.nxt+4:=by rw[e3]; show i.nxt+1=_; omega
 have bb:a.nxt=m.nxt+5:=by rw[Y]; show m3.nxt+1=_; omega
 generalize hmL:a.new (mk .ready none)=mL at *
 have hcp:∀b,ca104=.map b->b < m.nxt:=fun b hb=>(ha104.own b hb).2.2;have hfA:f1.g i.nxt=none/\f1.vw i.nxt=none:=⟨La.nf,x.v0 _ La.new⟩;have hcli:=zBF (n0:=a.nxt+1) (L:=a.nxt) (A:=i.nxt) (qb:=m0.nxt) (N:=vs.length) (f1:=f1) (a200:=a200) (cp:=ca104) (Mz:=r.2) (mk:=mk) (ask:=q.ask) hy rfl (by omega) (by omega) (by omega) (by omega) e.sub.nxt e.fz e.fv hfA (fun b hb=>by have:=hcp b hb; omega) (hF.sub e.fs) (by omega) (fun v j cb db h=>⟨_,_,_,_,_,_,rfl,h⟩)
 show Wc prog tbl 130 [.c (.fn (.yield a.nxt) [] []),.c (.ptr m3.nxt 0)] mL _
 refine zzJ (w:=w) (S:=fun b=>b=a.nxt\/b=i.nxt) (rz:=r) (vs:=vs) hcli x.pre Wf (ha100.sub e.fs) (ha103.sub e.fs) (O.mc x) hr hlen hvs (Nat.le_refl _) (fun u hu=>zvf hxs u hu) (by omega) (fun m' e' mi'=>?_) (fun b hb=>by omega) (fun b hb=>?_) (fun b hb hc=>by have:=hcp b hc; omega) fun vs' S' m8 p hpv P ho hch hI=>?_
 ·-- before any verdict
  have hg:∀b,b < mL.nxt->m.nxt<=b->m'.g b=mL.g b:=fun b hb hm=>e'.g b hb fun hc=>by have:=hcp b hc; omega
  refine⟨⟨.sl0,[],rfl,⟨(hg _ (by omega) (by omega)).trans La.bk.g,by have:=e'.nxt; omega⟩,zpX.nil' _ _,fun b=>⟨fun h=>h.elim .inl fun h=>.inr (.inl h),fun h=>?_⟩,?_,?_,?_⟩,(hg _ (by omega) (by omega)).trans rL,by have:=e'.nxt; omega,⟨(hg _ (by omega) (by omega)).trans Lq.bk.g,by have:=e'.nxt; omega⟩,?_,mi'⟩
  ·rcases h with h | h | ⟨_,_,_,_,h⟩
   ·exact .inl h
   ·exact .inr h
   ·cases h
  ·rintro⟨_,_,_,_,h⟩; cases h
  ·rintro⟨_,_,_,_,h⟩; cases h
  ·rintro b ⟨_,_,_,_,h⟩; cases h
  ·exact zqb x.sub e'.nxt e'.vw (X:=fun b=>ca104=.map b) (fun b hb=>⟨(O.own b hb).2.1,x.v0 b (O.own b hb).1⟩) e'.g
 ·rcases hb with rfl | rfl
  ·exact⟨e.fz _ e.sub.nxt,e.fv _ e.sub.nxt⟩
  ·exact hfA
 ·-- behind the loop
  obtain⟨⟨ca,ys,T,u2,u3,u4,u5,u6,u7⟩,i2,i3,i4,i5,i6⟩:=hI;refine⟨_,_,i2,(fun h=>by cases h),?_⟩
  show zoq.nrm _ (p.del a.nxt)
  have hd:∀b,b ≠ a.nxt->(p.del a.nxt).g b=p.g b:=fun b hb=>by rw[M.g_del,if_neg hb]
  have nd:(p.del a.nxt).nxt=p.nxt:=rfl;have vd:(p.del a.nxt).vw=p.vw:=rfl;generalize p.del a.nxt=l at hd nd vd ⊢;have hnx:mL.nxt<=p.nxt:=Nat.le_trans P.nxt hch.nxt;have hvw:p.vw=mL.vw:=hch.vw.trans P.vw
  have Z:∀b,b < mL.nxt->b ≠ a.nxt->b ≠ i.nxt->ca104 ≠ .map b->l.g b=mL.g b:=fun b hb z D t=>by
   rw[hd b z,hch.g b (Nat.lt_of_lt_of_le hb P.nxt) fun h=>h.elim z D];exact P.g b hb t
  have hextm:∀b,b < m.nxt->ca104 ≠ .map b->l.g b=m.g b:=fun b hb t=>(Z b (by omega) (by omega) (by omega) t).trans (x.ext.g b hb t);have S8:St (Fm.mp m ca104) f f1 l:=⟨⟨by show m.nxt<=_; omega,hextm,(vd.trans hvw).trans x.ext.vw⟩,⟨by have:=i5.nxt; omega,vd.trans i5.vw,fun b hb hdd=>(hd b (by have:=e.sub.nxt; omega)).trans (i5.g b hb hdd)⟩,e.fz,e.fv,e.v0,e.fs,e.old⟩
  have hAr:i.nxt ≠ j.nxt:=by omega
  have tA:tgB i.nxt j.nxt ca104 i.nxt=2:=by unfold tgB; rw[if_pos rfl]
  have tR:tgB i.nxt j.nxt ca104 j.nxt=3:=by unfold tgB; rw[if_neg (by omega),if_pos rfl]
  have LA:Lb (Fm.mp m ca104) f1 (tgB i.nxt j.nxt ca104) l 2 i.nxt 1 [ca]:=⟨⟨(hd _ (by omega)).trans u2.g,by have:=u2.lt; omega⟩,La.new,La.nf,tA⟩;have LR:Lb (Fm.mp m ca104) f1 (tgB i.nxt j.nxt ca104) l 3 j.nxt 2 [Il 0,Il 0]:=⟨⟨(Z _ (by omega) (by omega) (by omega) (fun hc=>by have:=hcp _ hc; omega)).trans Lr.bk.g,by omega⟩,Lr.new,Lr.nf,tR⟩;have MM:Mo (Fm.mp m ca104) f1 (tgB i.nxt j.nxt ca104) l 1 ca104 r.2:=⟨i6.to (by omega) fun b hb=>hd b (by have:=hcp b hb; omega),fun b hb=>⟨.inr hb,(O.own b hb).2.1,by have:=hcp b hb; unfold tgB; rw[if_neg (by omega),if_neg (by omega),if_pos hb],by have:=hcp b hb; omega⟩⟩
  have OO:Ow (α:=Int) (Fm.mp m ca104) f1 (tgB i.nxt j.nxt ca104) l 4 ca ys:=by
   refine⟨⟨zBC ys,?_,?_⟩,fun b o n s d he=>?_⟩
   ·rw[zvg T];exact u3.to (by omega) fun b hb ⟨s,c,he⟩=>hd b fun h=>u6 ⟨_,_,_,_,h ▸ he⟩
   ·clear T u3
    induction ys with
    | nil=>exact rfl
    | cons y ys ih=>exact⟨[Il y],zBC ys,rfl,rfl,ih⟩
   ·have hb:=u7 b ⟨_,_,_,_,he⟩;refine⟨.inl (by show m.nxt<=b; omega),e.fz b (by have:=e.sub.nxt; omega),?_⟩;unfold tgB;rw[if_neg (by omega),if_neg (by omega),if_neg (fun hc=>by have:=hcp b hc; omega)]
  have hyl:ys.length=vs.length:=by rw[zvg T,hpv.length_eq]
  have hyp:ys.Perm xs:=by
   obtain⟨zs,z1,z2⟩:=zvd hpv.symm hxs;rw[T] at z1
   cases z1
   exact z2
  have hyn:ys ≠ []:=fun h=>hne (List.eq_nil_of_length_eq_zero (by rw[<- hyl,h]; rfl));refine⟨_,LA.bk.rc rfl,?_⟩;obtain⟨f2,S9,k9,Sa⟩:=OO.freeze S8;have LA:=LA.k k9;have LR:=LR.k k9;have MM:=MM.k k9;refine zxI S9.pre Sa (zBx hyn (by omega)) fun eb ta=>⟨_,rfl,?_⟩;obtain⟨aa,B⟩:=S9.call ta (tgB i.nxt j.nxt ca104);have ua:=LA.k B;have LR:=LR.k B;have MM:=MM.k B;refine⟨_,ua.bk.rc rfl,?_,?_⟩
  ·rw[zoM Sa.noFn]; exact LA.bk.rc rfl
  refine zxJ aa.pre Sa (zBy hyn (by omega)) fun fb va=>⟨_,rfl,?_⟩;obtain⟨wa,ba⟩:=aa.call va (tgB i.nxt j.nxt ca104);have LR:=LR.k ba;have MM:=MM.k ba;obtain⟨xa,ya,za,Aa,LR⟩:=LR.sto wa [(Il (zrh ys)),(Il (zri ys))];have MM:=MM.k Aa;refine⟨xa,ya,_,_,LR.bk.ra,?_⟩;rw[zBz hyp hyn,zBA hyp hyn];exact hq _ za.extB MM.mi
end
end Go.Proofs.YtnjbahoohfaplaaGreat

namespace Go.Proofs.YtnjbahoohfaplaaGreat
open _root_.Go.Proofs.Tryz
open Go.Abs
set_option maxRecDepth 100000
noncomputable section
theorem zBH{c:Cse}{ca100 ca103:C}{m f:M}{Q:V->M->Prop}{rz:Rg × Int}(hS:Pre f m)(ha100:Sl f ca100 c.Tariffs)(ha103:Sl f ca103 c.Fields)(hp:zvh c=some rz)(hq:∀m',Ext m m'->Q (.tup [.agg 2 [Il rz.1.Lo,Il rz.1.Hi],.c (Il rz.2)]) m'):Wc prog tbl 33 [.agg 4 [ca100,Il c.Day,Il c.Fee,ca103]] m Q:=by
 have S0:=hS.st;obtain⟨τ0,_⟩:=zrD;refine w33 ?_;unfold zvh at hp;intro m0 p;obtain⟨s,t,Aa,u⟩:=S0.blk p τ0 1;intro m1 x;obtain⟨y,e,z,A⟩:=t.blk x s 2;have B:=u.k z;refine⟨_,_,_,_,B.bk.ra,?_⟩;obtain⟨d,D,hp⟩:=zqd hp;refine zyR (c:=c) e.pre ha100 ha103 D fun m7 F zvD G I J N O P=>?_;obtain⟨S,T,Y,Z⟩:=e.callN J P y 3;have aa:=A.k Y;refine⟨_,_,_,_,_,_,rfl,?_⟩;intro Fa ba;obtain⟨Ba,ca,g,da⟩:=T.blk ba S 4;have ea:=aa.k g;have fa:=Z.k g;obtain⟨ga,ha,a,h,ia⟩:=da.sto ca [zvD,Il d.1.c.Day,Il d.1.c.Fee,G,I];have i:=ea.k h;have j:=fa.k h;refine⟨ga,ha,?_⟩;refine zqR hp (fun ja hp=>?_) fun ja hp=>?_
 ·obtain⟨ka,la,ma,Ca,na⟩:=i.sto a [Il 0,Il 0];refine⟨ka,la,?_⟩;refine⟨_,_,na.bk.ra,?_⟩;obtain rfl:=oi hp;exact hq _ ma.ext'
 refine⟨_,_,_,_,_,ia.bk.ra,?_⟩
 have n:zBB F ((C.fn (Fn.func 69) [] [])) (fun b=>zub b):=by
  intro f' m' b r Q hs hpre  hg hq;exact zyV hpre  hg hq
 obtain⟨l,oa,hp⟩:=zqd hp;refine zBG (w:=d.1) (q:=({ ask:=(fun b=>zub b) }:Qn)) a.pre N O (j.mc a) n oa fun Ga pa o=>?_;obtain⟨qa,sa,Da⟩:=a.callM j pa o;have ta:=i.k sa;refine⟨_,_,rfl,?_⟩;obtain⟨ua,va,wa,Ea,xa⟩:=ta.sto qa [Il l.1.Lo,Il l.1.Hi];refine⟨ua,va,?_⟩;refine⟨_,_,xa.bk.ra,?_⟩;obtain rfl:=oi hp;exact hq _ wa.ext'
theorem zBI{c:Cse}{ca100 ca103:C}{m f:M}{Q:V->M->Prop}{rz:Rg × Rg × Int}(hS:Pre f m)(ha100:Sl f ca100 c.Tariffs)(ha103:Sl f ca103 c.Fields)(hp:zvi c=some rz)(hq:∀m',Ext m m'->Q (.tup [.agg 2 [Il rz.1.Lo,Il rz.1.Hi],.agg 2 [Il rz.2.1.Lo,Il rz.2.1.Hi],.c (Il rz.2.2)]) m'):Wc prog tbl 34 [.agg 4 [ca100,Il c.Day,Il c.Fee,ca103]] m Q:=by
 have S0:=hS.st;obtain⟨τ0,_⟩:=zrD;refine w34 ?_;unfold zvi at hp;intro m0 O;obtain⟨P,S,qb,T⟩:=S0.blk O τ0 1;intro m1 Y;obtain⟨Z,aa,ba,ca⟩:=S.blk Y P 2;have da:=T.k ba;intro m2 ea;obtain⟨fa,t,u,ga⟩:=aa.blk ea Z 3;have ha:=da.k u;have ia:=ca.k u;refine⟨_,_,_,_,ha.bk.ra,?_⟩;obtain⟨a,ja,hp⟩:=zqd hp;refine zyR (c:=c) t.pre ha100 ha103 ja fun m8 x ka la ma na g h oa=>?_;obtain⟨pa,qa,y,sa⟩:=t.callN na oa fa 4;have ta:=ia.k y;have ua:=ga.k y;refine⟨_,_,_,_,_,_,rfl,?_⟩;intro tb va;obtain⟨rb,wa,i,xa⟩:=qa.blk va pa 5;have ya:=ta.k i;have za:=ua.k i;have Aa:=sa.k i;obtain⟨Ba,Ca,b,j,l⟩:=xa.sto wa [ka,Il a.1.c.Day,Il a.1.c.Fee,la,ma];have z:=ya.k j;have A:=za.k j;have B:=Aa.k j;refine⟨Ba,Ca,?_⟩;refine zqR hp (fun Da hp=>?_) fun Da hp=>?_
 ·obtain⟨Ea,Fa,Ga,Ha,Ia⟩:=z.sto b [Il 0,Il 0];have Ja:=A.k Ha;refine⟨Ea,Fa,?_⟩;obtain⟨Ka,La,Ma,Na,Oa⟩:=Ja.sto Ga [Il 0,Il 0];have Pa:=Ia.k Na;refine⟨Ka,La,?_⟩;refine⟨_,_,Pa.bk.ra,_,_,Oa.bk.ra,?_⟩;obtain rfl:=oi hp;exact hq _ Ma.ext'
 refine⟨_,_,_,_,_,l.bk.ra,?_⟩
 have G:zBB x ((C.fn (Fn.func 70) [] [])) (fun d=>zuc d):=by
  intro f' m' d r Q hs hpre  hg hq;exact zyW hpre  hg hq
 obtain⟨n,Qa,hp⟩:=zqd hp;refine zBG (w:=a.1) (q:=({ ask:=(fun d=>zuc d) }:Qn)) b.pre g h (B.mc b) G Qa fun ub Ra I=>?_;obtain⟨o,p,s⟩:=b.callM B Ra I;have Sa:=z.k p;have Ta:=A.k p;have Ua:=l.k p;refine⟨_,_,rfl,_,_,_,_,_,Ua.bk.ra,(by rw[show zaL cmC _=true from zoN (zqh g.noFn (zqh rfl (zqh rfl (zqh h.noFn (zqh s.mi.noFn zqi)))))]; exact(l.bk.ra)),?_⟩
 have J:zBB x ((C.fn (Fn.func 71) [] [])) (fun e=>zud e):=by
  intro f' m' e r Q hs hpre  hg hq;exact zyX hpre  hg hq
 obtain⟨D,Va,hp⟩:=zqd hp;refine zBG (w:=({ c:=a.1.c,payments:=n.2 }:UWk)) (q:=({ ask:=(fun e=>zud e) }:Qn)) o.pre g h (s.mc o) J Va fun vb Wa N=>?_;obtain⟨Xa,F,sb⟩:=o.callM s Wa N;have Ya:=Sa.k F;have Za:=Ta.k F;refine⟨_,_,rfl,?_⟩;obtain⟨ab,bb,cb,db,eb⟩:=Ya.sto Xa [Il n.1.Lo,Il n.1.Hi];have fb:=Za.k db;refine⟨ab,bb,?_⟩;obtain⟨gb,hb,ib,jb,kb⟩:=fb.sto cb [Il D.1.Lo,Il D.1.Hi];have mb:=eb.k jb;refine⟨gb,hb,?_⟩;refine⟨_,_,mb.bk.ra,_,_,kb.bk.ra,?_⟩;obtain rfl:=oi hp;exact hq _ ib.ext'
theorem zBJ{c:Cse}{ca100 ca103:C}{m f:M}{Q:V->M->Prop}{rz:Rg × Int}(hS:Pre f m)(ha100:Sl f ca100 c.Tariffs)(ha103:Sl f ca103 c.Fields)(hp:zvj c=some rz)(hq:∀m',Ext m m'->Q (.tup [.agg 2 [Il rz.1.Lo,Il rz.1.Hi],.c (Il rz.2)]) m'):Wc prog tbl 35 [.agg 4 [ca100,Il c.Day,Il c.Fee,ca103]] m Q:=by
 have S0:=hS.st;obtain⟨τ0,_⟩:=zrD;refine w35 ?_;unfold zvj at hp;intro m0 F;obtain⟨G,I,Ma,J⟩:=S0.blk F τ0 1;intro m1 N;obtain⟨O,n,P,S⟩:=I.blk N G 2;have T:=J.k P;refine⟨_,_,_,_,T.bk.ra,?_⟩;obtain⟨a,Y,hp⟩:=zqd hp;refine zyR (c:=c) n.pre ha100 ha103 Y fun m7 o Z aa ba ca g h da=>?_;obtain⟨ea,fa,ga,ha⟩:=n.callN ca da O 3;have ia:=S.k ga;refine⟨_,_,_,_,_,_,rfl,?_⟩;intro Ra ja;obtain⟨Na,ka,p,la⟩:=fa.blk ja ea 4;have ma:=ia.k p;have na:=ha.k p;obtain⟨oa,pa,b,s,i⟩:=la.sto ka [Z,Il a.1.c.Day,Il a.1.c.Fee,aa,ba];have t:=ma.k s;have u:=na.k s;refine⟨oa,pa,?_⟩;refine zqR hp (fun qa hp=>?_) fun qa hp=>?_
 ·obtain⟨sa,ta,ua,Oa,va⟩:=t.sto b [Il 0,Il 0];refine⟨sa,ta,?_⟩;refine⟨_,_,va.bk.ra,?_⟩;obtain rfl:=oi hp;exact hq _ ua.ext'
 refine⟨_,_,_,_,_,i.bk.ra,?_⟩
 have z:zBB o ((C.fn (Fn.func 72) [] [])) (fun d=>zue d):=by
  intro f' m' d r Q hs hpre  hg hq;exact zyY hpre  hg hq
 obtain⟨x,wa,hp⟩:=zqd hp;refine zBG (w:=a.1) (q:=({ ask:=(fun d=>zue d) }:Qn)) b.pre g h (u.mc b) z wa fun Sa xa A=>?_;obtain⟨j,y,l⟩:=b.callM u xa A;have ya:=t.k y;have za:=i.k y;refine⟨_,_,rfl,_,_,_,_,_,za.bk.ra,(by rw[show zaL cmC _=true from zoN (zqh g.noFn (zqh rfl (zqh rfl (zqh h.noFn (zqh l.mi.noFn zqi)))))]; exact(i.bk.ra)),?_⟩
 have B:zBB o ((C.fn (Fn.func 73) [] [])) (fun e=>zuf e):=by
  intro f' m' e r Q hs hpre  hg hq;exact zyZ hpre  hg hq
 obtain⟨Aa,Ba,hp⟩:=zqd hp;refine zBG (w:=({ c:=a.1.c,payments:=x.2 }:UWk)) (q:=({ ask:=(fun e=>zuf e) }:Qn)) j.pre g h (l.mc j) B Ba fun Ta Ca D=>?_;obtain⟨Da,Ea,Pa⟩:=j.callM l Ca D;have Fa:=ya.k Ea;refine⟨_,_,rfl,?_⟩;obtain⟨Ga,Ha,Ia,Qa,Ja⟩:=Fa.sto Da [Il x.1.Lo,Il Aa.1.Hi];refine⟨Ga,Ha,?_⟩;refine⟨_,_,Ja.bk.ra,?_⟩;obtain rfl:=oi hp;exact hq _ Ia.ext'
theorem zBK{m f:M}{Q:V->M->Prop}{rz:Bool}(hS:Pre f m)(hp:zvk=some rz)(hq:∀m',Ext m m'->Q (.c (.bool rz)) m'):Wc prog tbl 17 [] m Q:=by
 have S0:=hS.st;obtain⟨τ0,_⟩:=zrD;refine w17 ?_;unfold zvk at hp;obtain⟨Qa,Ra,hp⟩:=zqd hp;refine zzt S0.pre  Ra fun m1 Lf Mf Nf Sa Ta Ua=>?_;obtain⟨ca,Of⟩:=S0.callG Sa τ0;refine⟨_,_,_,_,rfl,?_⟩;obtain⟨Va,Wa,hp⟩:=zqd hp;refine zzu (first:=(40:Int)) (u:=(35:Int)) (second:=(17:Int)) ca.pre  Wa fun m7 Pf Qf Xa Ya=>?_;obtain⟨da,ea⟩:=ca.callG Xa τ0;refine⟨_,rfl,?_⟩;obtain⟨r,Za,hp⟩:=zqd hp;refine zy7 (c:=Qa) (t:=Va) da.pre (Ta.sub ea.fs) (Ua.sub ea.fs) Ya Za fun Hg Rf ab bb fa=>?_;obtain⟨cb,Sf⟩:=da.callG bb τ0;refine⟨_,_,_,_,_,rfl,?_⟩;intro Ig db;obtain⟨d,eb,Uf,fb⟩:=cb.blk db τ0 1;obtain⟨gb,hb,ga,Vf,ib⟩:=fb.sto eb [ab,Il r.1.Award,Il r.1.Farmer,Il r.1.Society];refine⟨gb,hb,?_⟩;obtain⟨jb,kb,hp⟩:=zqd hp;refine zzt ga.pre  kb fun Jg Wf Xf Yf mb ob pb=>?_;obtain⟨ha,ia⟩:=ga.callG mb d;have qb:=ib.k ia;refine⟨_,_,_,_,rfl,?_⟩;obtain⟨rb,sb,hp⟩:=zqd hp;refine zy8 (c:=jb) (field:=(0:Int)) ha.pre ob pb sb fun Kg Zf ag tb ub=>?_;obtain⟨ja,ka⟩:=ha.callG tb d;have vb:=qb.k ka;refine⟨_,_,rfl,?_⟩;obtain⟨wb,xb,hp⟩:=zqd hp;refine zzt ja.pre  xb fun Lg bg cg dg yb zb Ab=>?_;obtain⟨la,I⟩:=ja.callG yb d;have Bb:=vb.k I;refine⟨_,_,_,_,rfl,?_⟩;obtain⟨eg,Cb,hp⟩:=zqd hp;refine zy9 (c:=wb) (field:=(1:Int)) la.pre zb Ab Cb fun Mg Db=>?_;obtain⟨ma,Eb⟩:=la.call Db d;have Fb:=Bb.k Eb;refine⟨_,_,rfl,?_⟩;obtain⟨Gb,Hb,hp⟩:=zqd hp;refine zzt ma.pre  Hb fun Ng fg gg hg Ib Jb Kb=>?_;obtain⟨na,J⟩:=ma.callG Ib d;have Mb:=Fb.k J;refine⟨_,_,_,_,rfl,?_⟩;obtain⟨oa,Nb,hp⟩:=zqd hp
 refine zBH (c:=Gb) na.pre Jb Kb Nb fun Og Ob=>?_;obtain⟨Pb,Qb⟩:=na.call Ob d;have Rb:=Mb.k Qb;refine⟨_,_,_,rfl,?_⟩;intro Pg Sb;obtain⟨N,Tb,Ub,Vb⟩:=Pb.blk Sb d 2;have Wb:=Rb.k Ub;obtain⟨Xb,Yb,pa,Zb,ac⟩:=Vb.sto Tb [Il oa.1.Lo,Il oa.1.Hi];have bc:=Wb.k Zb;refine⟨Xb,Yb,?_⟩;obtain⟨cc,dc,hp⟩:=zqd hp;refine zzt pa.pre  dc fun Qg ig jg kg ec fc gc=>?_;obtain⟨qa,s⟩:=pa.callG ec N;have hc:=bc.k s;have ic:=ac.k s;refine⟨_,_,_,_,rfl,?_⟩;obtain⟨w,jc,hp⟩:=zqd hp;refine zBI (c:=cc) qa.pre fc gc jc fun Sg kc=>?_;obtain⟨lc,sa⟩:=qa.call kc N;have nc:=hc.k sa;have oc:=ic.k sa;refine⟨_,_,_,_,_,rfl,?_⟩;intro Tg pc;obtain⟨qc,sc,ta,tc⟩:=lc.blk pc N 3;have uc:=nc.k ta;have vc:=oc.k ta;intro Ug wc;obtain⟨O,xc,P,yc⟩:=sc.blk wc qc 4;have zc:=uc.k P;have Ac:=vc.k P;have Bc:=tc.k P;obtain⟨Cc,Dc,Ec,S,Fc⟩:=Bc.sto xc [Il w.1.Lo,Il w.1.Hi];have Gc:=zc.k S;have Hc:=Ac.k S;have Ic:=yc.k S;refine⟨Cc,Dc,?_⟩;obtain⟨Jc,Kc,ua,T,Lc⟩:=Ic.sto Ec [Il w.2.1.Lo,Il w.2.1.Hi];have Nc:=Gc.k T;have Pc:=Hc.k T;have Qc:=Fc.k T;refine⟨Jc,Kc,?_⟩;obtain⟨Rc,Tc,hp⟩:=zqd hp;refine zzt ua.pre  Tc fun Vg lg mg ng Uc Vc Xc=>?_;obtain⟨va,i⟩:=ua.callG Uc O;have Yc:=Nc.k i;have Zc:=Pc.k i;have ad:=Qc.k i;have bd:=Lc.k i;refine⟨_,_,_,_,rfl,?_⟩;obtain⟨wa,cd,hp⟩:=zqd hp;refine zBJ (c:=Rc) va.pre Vc Xc cd fun Wg dd=>?_;obtain⟨ed,x⟩:=va.call dd O;have fd:=Yc.k x;have hd:=Zc.k x;have id:=ad.k x;have jd:=bd.k x;refine⟨_,_,_,rfl,?_⟩;intro Xg kd;obtain⟨Y,ld,y,md⟩:=ed.blk kd O 5;have nd:=fd.k y;have od:=hd.k y;have pd:=id.k y;have qd:=jd.k y
 obtain⟨sd,td,xa,z,ud⟩:=md.sto ld [Il wa.1.Lo,Il wa.1.Hi];have vd:=nd.k z;have wd:=od.k z;have xd:=pd.k z;have yd:=qd.k z;refine⟨sd,td,?_⟩;obtain⟨zd,Ad,hp⟩:=zqd hp;refine zzt xa.pre  Ad fun Zg og pg qg Bd Cd Dd=>?_;obtain⟨ya,e⟩:=xa.callG Bd Y;have Ed:=vd.k e;have Fd:=wd.k e;have Gd:=xd.k e;have Hd:=yd.k e;have Id:=ud.k e;refine⟨_,_,_,_,rfl,?_⟩;obtain⟨Jd,Ld,hp⟩:=zqd hp;refine zza (c:=zd) ya.pre Cd Dd Ld fun Jf rg sg Md Nd=>?_;obtain⟨za,g⟩:=ya.callG Md Y;have Aa:=Ed.k g;have Od:=Fd.k g;have Pd:=Gd.k g;have Qd:=Hd.k g;have Rd:=Id.k g;refine⟨_,_,rfl,?_⟩;refine ifd hp (fun Sd hp=>?_) fun Sd hp=>?_; rotate_left
 ·obtain rfl:=oi hp;exact hq _ za.ext'
 refine⟨_,_,_,_,Aa.bk.ra,?_⟩;intro ah Td;obtain⟨Ba,Ud,o,Vd⟩:=za.blk Td Y 6;have Wd:=Aa.k o;have Xd:=Od.k o;have Yd:=Pd.k o;have Zd:=Qd.k o;have ae:=Rd.k o;refine⟨(by rw[show zaL cmC _=true from zoN (zqh fa.noFn (zqh rfl (zqh rfl (zqh rfl zqi))))]; exact(Wd.bk.ra)),?_⟩;obtain⟨Ca,Da,h,Na⟩:=Vd.freeze Ud;have be:=Xd.k h;have ce:=Yd.k h;have de:=Zd.k h;have ee:=ae.k h;have fe:Sl Ca (C.sl Jf.nxt 0 2 0 (Option.some 2)) ([(35:Int),(18:Int)]:List Int):=Bk.sl (α:=Int) (l:=([(35:Int),(18:Int)]:List Int)) Na (show Cat (α:=Int) Ca [(Il (35:Int)),(Il (18:Int))] ([(35:Int),(18:Int)]:List Int) from ⟨[(Il (35:Int))],_,rfl,rfl,⟨[(Il (18:Int))],_,rfl,rfl,rfl⟩⟩) rfl rfl _;obtain⟨tg,ge,hp⟩:=zqd hp;refine zzr (a:=r.1) (b:=({ Counts:=([(35:Int),(18:Int)]:List Int),Award:=(386:Int),Farmer:=(16:Int),Society:=(15:Int) }:Res)) Da.pre (fa.sub (Sub.trans (Sub.trans (Sub.trans (Sub.trans (Sub.trans (Sub.trans (Sub.trans (Sub.trans ia.fs ka.fs) I.fs) J.fs) s.fs) i.fs) e.fs) g.fs) h.fs)) fe ge fun Kf he=>?_;obtain⟨Z,A⟩:=Da.call he Ba;have ie:=be.k A;have je:=ce.k A;have ke:=de.k A;have me:=ee.k A;refine⟨_,rfl,?_⟩;refine zqS hp (fun oe hp=>?_) fun oe hp=>?_; rotate_left
 ·obtain rfl:=oi hp;exact hq _ Z.ext'
 refine ifd hp (fun pe hp=>?_) fun pe hp=>?_; rotate_left
 ·obtain rfl:=oi hp;exact hq _ Z.ext'
 intro bh qe;obtain⟨p,re,B,se⟩:=Z.blk qe Ba 7;have te:=ie.k B;have ue:=je.k B;have ve:=ke.k B;have we:=me.k B;obtain⟨Ea,Fa,j,Oa⟩:=se.freeze re;have xe:=te.k j;have ye:=ue.k j;have ze:=ve.k j;have Ae:=we.k j;have Be:Sl Ea (C.sl Kf.nxt 0 4 0 (Option.some 4)) ([(33:Int),(34:Int),(35:Int),(36:Int)]:List Int):=Bk.sl (α:=Int) (l:=([(33:Int),(34:Int),(35:Int),(36:Int)]:List Int)) Oa (show Cat (α:=Int) Ea [(Il (33:Int)),(Il (34:Int)),(Il (35:Int)),(Il (36:Int))] ([(33:Int),(34:Int),(35:Int),(36:Int)]:List Int) from ⟨[(Il (33:Int))],_,rfl,rfl,⟨[(Il (34:Int))],_,rfl,rfl,⟨[(Il (35:Int))],_,rfl,rfl,⟨[(Il (36:Int))],_,rfl,rfl,rfl⟩⟩⟩⟩) rfl rfl _;obtain⟨ug,Ce,hp⟩:=zqd hp;refine zxk (a:=rb.1) (b:=([(33:Int),(34:Int),(35:Int),(36:Int)]:List Int)) Fa.pre (ub.sub (Sub.trans (Sub.trans (Sub.trans (Sub.trans (Sub.trans (Sub.trans (Sub.trans I.fs J.fs) s.fs) i.fs) e.fs) g.fs) h.fs) j.fs)) Be Ce fun vg De=>?_;obtain⟨n,D⟩:=Fa.call De p;have Ga:=xe.k D;have Ee:=ye.k D;have Fe:=ze.k D;have Ge:=Ae.k D;refine⟨_,rfl,?_⟩;refine zqS hp (fun He hp=>?_) fun He hp=>?_; rotate_left
 ·obtain rfl:=oi hp;exact hq _ n.ext'
 refine ifd hp (fun Ie hp=>?_) fun Ie hp=>?_; rotate_left
 ·obtain rfl:=oi hp;exact hq _ n.ext'
 refine ifd hp (fun Je hp=>?_) fun Je hp=>?_; rotate_left
 ·obtain rfl:=oi hp;exact hq _ n.ext'
 refine ifd hp (fun Ke hp=>?_) fun Ke hp=>?_; rotate_left
 ·obtain rfl:=oi hp;exact hq _ n.ext'
 refine⟨_,_,Ga.bk.ra,?_⟩;obtain⟨wg,Me,hp⟩:=zqd hp;refine zzs (low:=(366:Int)) (high:=(398:Int)) n.pre  Me fun xg Ne=>?_;obtain⟨F,G⟩:=n.call Ne p;have Oe:=Ga.k G;have Ha:=Ee.k G;have Pe:=Fe.k G;have Qe:=Ge.k G;refine⟨_,_,rfl,(Oe.bk.ra),?_⟩;refine gdi hp fun Re hp=>?_;refine gdi hp fun Se hp=>?_;refine gdi hp fun Te hp=>?_;refine gdi hp fun Ue hp=>?_;refine zqS hp (fun Ve hp=>?_) fun Ve hp=>?_; rotate_left
 ·obtain rfl:=oi hp;exact hq _ F.ext'
 refine ifd hp (fun We hp=>?_) fun We hp=>?_; rotate_left
 ·obtain rfl:=oi hp;exact hq _ F.ext'
 refine⟨_,_,Ha.bk.ra,?_⟩;obtain⟨zg,Xe,hp⟩:=zqd hp;refine zzs (low:=(0:Int)) (high:=(31:Int)) F.pre  Xe fun Ag Ye=>?_;obtain⟨q,aa⟩:=F.call Ye p;have Ia:=Ha.k aa;have Ze:=Pe.k aa;have Ja:=Qe.k aa;refine⟨_,_,rfl,(Ia.bk.ra),?_⟩;refine gdi hp fun af hp=>?_;refine gdi hp fun bf hp=>?_;refine gdi hp fun cf hp=>?_;refine gdi hp fun df hp=>?_;refine zqS hp (fun ef hp=>?_) fun ef hp=>?_; rotate_left
 ·obtain rfl:=oi hp;exact hq _ q.ext'
 refine⟨_,_,Ze.bk.ra,_,_,Ia.bk.ra,?_⟩;refine gdi hp fun gf hp=>?_;refine gdi hp fun hf hp=>?_;refine gdi hp fun jf hp=>?_;refine gdi hp fun kf hp=>?_;refine zqS hp (fun lf hp=>?_) fun lf hp=>?_; rotate_left
 ·obtain rfl:=oi hp;exact hq _ q.ext'
 refine ifd hp (fun mf hp=>?_) fun mf hp=>?_; rotate_left
 ·obtain rfl:=oi hp;exact hq _ q.ext'
 refine⟨_,_,Ja.bk.ra,?_⟩;obtain⟨Bg,nf,hp⟩:=zqd hp;refine zzs (low:=(335:Int)) (high:=(429:Int)) q.pre  nf fun pf qf=>?_;obtain⟨ba,rf⟩:=q.call qf p;have sf:=Ja.k rf;refine⟨_,_,rfl,(sf.bk.ra),?_⟩;refine gdi hp fun tf hp=>?_;refine gdi hp fun uf hp=>?_;refine gdi hp fun vf hp=>?_;refine gdi hp fun wf hp=>?_;refine zqS hp (fun xf hp=>?_) fun xf hp=>?_; rotate_left
 ·obtain rfl:=oi hp;exact hq _ ba.ext'
 refine ifd hp (fun yf hp=>?_) fun yf hp=>?_; rotate_left
 ·obtain rfl:=oi hp;exact hq _ ba.ext'
 intro Cg zf;obtain⟨Af,Bf,Dg,Cf⟩:=ba.blk zf p 8;obtain⟨Ka,La,Df,Pa⟩:=Cf.freeze Bf;have Ef:Sl Ka (C.sl pf.nxt 0 1 0 (Option.some 1)) ([(0:Int)]:List Int):=Bk.sl (α:=Int) (l:=([(0:Int)]:List Int)) Pa (show Cat (α:=Int) Ka [Il 0] ([(0:Int)]:List Int) from ⟨[Il 0],_,rfl,rfl,rfl⟩) rfl rfl _;obtain⟨Eg,Ff,hp⟩:=zqd hp;refine zxk (a:=Jd.1) (b:=([(0:Int)]:List Int)) La.pre (Nd.sub (Sub.trans (Sub.trans h.fs j.fs) Df.fs)) Ef Ff fun Fg Gf=>?_;obtain⟨Hf,Gg⟩:=La.call Gf Af;refine⟨_,rfl,?_⟩;obtain rfl:=oi hp;exact hq _ Hf.ext'
theorem zBL{F:Fm}{f m:M}{τ:Nat->Nat}{t:Nat}{x:C}{l:List OcR}(h:Ow F f τ m t x l){n:Nat}{a:OcR}(hi:l[n]? = some a):ldA m (zl2 x (n * 3)) 3=some [.int .i64 a.Pay,.bool a.Called,.int .i64 a.Lost]/\(∀j c,([.int .i64 a.Pay,.bool a.Called,.int .i64 a.Lost]:List C)[j]? = some c->ldC m (zl1 (zl2 x (n * 3)) j)=some c)/\∀j i,0 < i->j+i<=3->ldA m (zl1 (zl2 x (n * 3)) j) i=some ((([.int .i64 a.Pay,.bool a.Called,.int .i64 a.Lost]:List C).drop j).take i):=by
 obtain⟨cs,q1,q2⟩:=h.rdP hi;have q2:cs=_:=q2;subst q2;exact q1
theorem zBM:TA prog 136 4:=⟨47,by kernel_rfl,by kernel_rfl,by kernel_rfl⟩
theorem zBN:TA prog 175 1:=⟨117,by kernel_rfl,by kernel_rfl,by kernel_rfl⟩
theorem zBO{c:Cse}{f_:Fld}{ca100 ca103:C}{m f:M}{Q:V->M->Prop}{rz:List OcR}(hS:Pre f m)(ha100:Sl f ca100 c.Tariffs)(ha103:Sl f ca103 c.Fields)(hp:zvn c f_=some rz)(hq:∀m' f' c0,Grw m f m' f'->Sl f' c0 rz->Q (.c c0) m'):Wc prog tbl 105 [.agg 4 [ca100,Il c.Day,Il c.Fee,ca103],.agg 9 [Il f_.Crop,Il f_.Value,Il f_.Near,Il f_.First.Lo,Il f_.First.Hi,Il f_.Second.Lo,Il f_.Second.Hi,Il f_.Umpire.Lo,Il f_.Umpire.Hi]] m Q:=by
 have S0:=hS.st;obtain⟨τ0,_⟩:=zrD;refine zwg ?_;unfold zvn at hp;intro m0 qa;obtain⟨sa,ta,zb,ua⟩:=S0.blk qa τ0 1;intro m1 va;obtain⟨ba,ca,wa,da⟩:=ta.blk va sa 2;have xa:=ua.k wa;refine⟨_,_,_,_,_,_,_,_,_,da.bk.ra,?_⟩;obtain⟨ea,ya,hp⟩:=zqd hp;refine zzj (f_:=f_) ca.pre  ya fun Db d Ab za t=>?_;obtain⟨Aa,u⟩:=ca.callG za ba;have w:=xa.k u;have y:=da.k u;refine⟨_,rfl,?_⟩;intro tb Ba
 have hgo:∀(q:Nat) (s:C) (B:Int) (l:List OcR) (o:M) (n:Nat->Nat),St (Fm.of m) f d o->Lb (Fm.of m) d n o 1 m.nxt 4 [ca100,Il c.Day,Il c.Fee,ca103]->Lb (Fm.of m) d n o 2 m0.nxt 9 [Il f_.Crop,Il f_.Value,Il f_.Near,Il f_.First.Lo,Il f_.First.Hi,Il f_.Second.Lo,Il f_.Second.Hi,Il f_.Umpire.Lo,Il f_.Umpire.Hi]->Ow (Fm.of m) d n o 3 s l->zvm c f_ ea q l B=some rz->tb [.c s,.c (Il B)] o:=by
  intro q
  induction q with
  | zero=>intro s B l o n D w y b hp; cases hp
  | succ q P=>
   intro s B l o n D w y b hp;refine Ba _ _ _ ?_;rw[zvm] at hp;refine⟨t.isSl,?_⟩
   try rw[t.slLen]
   refine ifd hp (fun Ca hp=>?_) fun Ca hp=>?_; rotate_left
   ·obtain⟨Da,Ea,Bb,Fa⟩:=b.freeze D;obtain rfl:=oi hp;exact hq _ Da s Ea.grw Fa
   intro Eb Ga;obtain⟨fa,F,G,na⟩:=D.growK Ga n 4;have ga:=w.k G;have ha:=y.k G;have b:=b.k G;have Ha:=na 0 (by decide);refine⟨_,_,_,_,ga.bk.ra,_,_,_,_,_,_,_,_,_,ha.bk.ra,?_⟩;obtain⟨Ia,I,hp⟩:=zqd hp;obtain⟨ub,oa,S,I⟩:=zp7 I;obtain⟨_,ia⟩:=zrM t I;refine⟨ub,oa,(by first|exact S|(rw[t.slLen];exact S)),_,_,_,(ia _ F.sub).1,?_⟩;obtain⟨e,Ja,hp⟩:=zqd hp;refine zzh (c:=c) (f_:=f_) (x:=Ia) F.pre (ha100.sub u.fs) (ha103.sub u.fs) Ja fun Fb Ka=>?_;obtain⟨La,z⟩:=F.call Ka fa;have Ma:=ga.k z;have Na:=ha.k z;have Oa:=Ha.k z;have b:=b.k z;refine⟨_,_,_,rfl,?_⟩;intro Gb Pa;obtain⟨ja,J,Qa⟩:=Oa.set La Pa;have ka:=Ma.k J;have la:=Na.k J;have b:=b.k J;refine⟨(ia _ ja.sub).1,(la.bk.ra),(by rw[show zaL cmC _=true from zoN (zqh ha100.noFn (zqh rfl (zqh rfl (zqh ha103.noFn zqi))))]; exact(ka.bk.ra)),?_⟩;obtain⟨Ra,Sa,Ta,N,h⟩:=Qa.sto ja [Il e.Pay,.bool e.Called,Il e.Lost];have i:=ka.k N;have j:=la.k N;have b:=b.k N;refine⟨Ra,Sa,?_⟩;intro vb Ua
   have hgo:∀(A:Nat) (T:Bool) (Y:Int) (p:M) (g:Nat->Nat),St (Fm.of m) f d p->Lb (Fm.of m) d g p 1 m.nxt 4 [ca100,Il c.Day,Il c.Fee,ca103]->Lb (Fm.of m) d g p 2 m0.nxt 9 [Il f_.Crop,Il f_.Value,Il f_.Near,Il f_.First.Lo,Il f_.First.Hi,Il f_.Second.Lo,Il f_.Second.Hi,Il f_.Umpire.Lo,Il f_.Umpire.Hi]->Lb (Fm.of m) d g p 4 (o.nxt+0) 3 [Il e.Pay,.bool e.Called,Il e.Lost]->Ow (Fm.of m) d g p 3 s l->zvl l B e (zvm c f_ ea q) A T Y=some rz->vb [.c (.bool T),.c (Il Y)] p:=by
    intro A
    induction A with
    | zero=>intro T Y p g r i j h b hp; cases hp
    | succ A Z=>
     intro T Y p g r i j h b hp;refine Ua _ _ _ ?_;rw[zvl] at hp;refine⟨b.isSl,?_⟩
     try rw[b.slLen]
     refine ifd hp (fun Va hp=>?_) fun Va hp=>?_; rotate_left
     ·refine zqT hp (fun Wa hp=>?_) fun Wa hp=>?_; rotate_left
      ·refine gdi hp fun Xa hp=>?_;exact P _ _ _ _ g r i j b hp
      refine⟨_,_,_,h.bk.ra,?_⟩;obtain⟨Ya,hp⟩:=zqe hp;intro Hb Za;obtain⟨ab,bb,cb,db,eb,ma,fb⟩:=b.app' zw8 r (a:=e) (show Rp.rep (α:=OcR) d _ e from rfl) Ya Za;have gb:=i.k ma;have hb:=j.k ma;refine⟨ab,bb,db,?_⟩;refine gdi hp fun ib hp=>?_;exact P _ _ _ _ cb eb gb hb fb hp
     refine zqS hp (fun jb hp=>?_) fun jb hp=>?_
     ·refine gdi hp fun kb hp=>?_;exact Z _ _ _ g r i j h b hp
     obtain⟨Cb,O,hp⟩:=zqd hp;obtain⟨wb,pa,aa,O⟩:=zp7 O;refine⟨wb,pa,(by first|exact aa|(rw[b.slLen];exact aa)),_,_,_,(zBL b O).1,_,_,_,h.bk.ra,?_⟩;refine gdi hp fun mb hp=>?_;refine gdi hp fun ob hp=>?_;refine gdi hp fun pb hp=>?_;refine gdi hp fun qb hp=>?_;refine gdi hp fun rb hp=>?_;exact Z _ _ _ g r i j h b hp
   exact hgo _ _ _ _ fa Ta i j h b hp
 exact hgo _ _ _ _ _ ba Aa w y (Ow.nil _ _ _ _ _) hp
theorem zBP{c:Cse}{ca100 ca103:C}{m f:M}{Q:V->M->Prop}{rz:List Res}(hS:Pre f m)(ha100:Sl f ca100 c.Tariffs)(ha103:Sl f ca103 c.Fields)(hp:zvs c=some rz)(hq:∀m' f' c0,Grw m f m' f'->Sl f' c0 rz->Q (.c c0) m'):Wc prog tbl 75 [.agg 4 [ca100,Il c.Day,Il c.Fee,ca103]] m Q:=by
 have S0:=hS.st;obtain⟨τ0,_⟩:=zrD;refine w75 ?_;unfold zvs at hp;intro m0 jb;obtain⟨kb,mb,Fd,ob⟩:=S0.blk jb τ0 1;intro m1 pb;obtain⟨qb,rb,sb,tb⟩:=mb.blk pb kb 2;have ub:=ob.k sb;intro m2 vb;obtain⟨wb,xb,Ja,yb⟩:=rb.blk vb qb 3;have zb:=ub.k Ja;have Ab:=tb.k Ja;obtain⟨Hd,Bb,s,Wa⟩:=yb.freeze xb;have Cb:=zb.k s;have Db:=Ab.k s;obtain⟨w,Eb,t,Xa⟩:=Db.freeze Bb;have g:=Cb.k t;have Fb:Sl w (C.sl m0.nxt 0 0 0 (Option.some 0)) ([]:List OcR):=Bk.sl (α:=OcR) (l:=([]:List OcR)) Xa (show Cat (α:=OcR) w [] ([]:List OcR) from rfl) rfl rfl _;have Gb:Sl w (C.sl m1.nxt 0 1 0 (Option.some 1)) ([([]:List OcR)]:List (List OcR)):=Bk.sl (α:=List OcR) (l:=([([]:List OcR)]:List (List OcR))) (Wa.sub t.fs) (show Cat (α:=List OcR) w [(C.sl m0.nxt 0 0 0 (Option.some 0))] ([([]:List OcR)]:List (List OcR)) from ⟨[(C.sl m0.nxt 0 0 0 (Option.some 0))],_,rfl,⟨_,rfl,Fb⟩,rfl⟩) rfl rfl _;intro R3 vd
 have hgo:∀(x:Nat) (c4:C) (x5:Int) (o:List (List OcR)) (m6:M) (p:M) (y:Nat->Nat),St (Fm.of m) f p m6->Sub w p->Lb (Fm.of m) p y m6 1 m.nxt 4 [ca100,Il c.Day,Il c.Fee,ca103]->Sl p c4 o->zvr c x o x5=some rz->R3 [.c c4,.c (Il x5)] m6:=by
  intro x
  induction x with
  | zero=>intro c4 x5 o m6 p y F i g j hp; cases hp
  | succ x Hb=>
   intro c4 x5 o m6 p y F i g j hp;refine vd _ _ _ ?_;rw[zvr] at hp;refine⟨trivial,_,g.bk.rc rfl,ha103.isSl,?_⟩
   try rw[ha103.slLen]
   refine ifd hp (fun Ib hp=>?_) fun Ib hp=>?_; rotate_left
   ·intro wd Jb
    have hgo:∀(Y:Nat) (fa:C) (Aa:Int) (Z:List Res) (S:M) (z:M) (G:Nat->Nat),St (Fm.of m) f z S->Sub p z->Lb (Fm.of m) z G S 1 m.nxt 4 [ca100,Il c.Day,Il c.Fee,ca103]->Ow (Fm.of m) z G S 7 fa Z->zvq c o Y Z Aa=some rz->wd [.c fa,.c (Il Aa)] S:=by
     intro Y
     induction Y with
     | zero=>intro fa Aa Z S z G I r g J hp; cases hp
     | succ Y Za=>
      intro fa Aa Z S z G I r g J hp;refine Jb _ _ _ ?_;rw[zvq] at hp;refine⟨j.isSl,?_⟩
      try rw[j.slLen]
      refine ifd hp (fun Kb hp=>?_) fun Kb hp=>?_; rotate_left
      ·obtain⟨Mb,Nb,Jd,Ob⟩:=J.freeze I;obtain rfl:=oi hp;exact hq _ Mb fa Nb.grw Ob
      refine⟨_,_,_,_,g.bk.ra,?_⟩;obtain⟨Pb,ha,hp⟩:=zqd hp;obtain⟨xd,ab,Ba,ha⟩:=zp7 ha;obtain⟨Ld,Qb,Rb⟩:=j.rdS ha;refine⟨xd,ab,(by first|exact Ba|(rw[j.slLen];exact Ba)),_,(Qb _ (Sub.trans r I.sub)),?_⟩;obtain⟨La,Sb,hp⟩:=zqd hp;refine zzi (c:=c) (l:=Pb) I.pre (ha100.sub (Sub.trans (Sub.trans (Sub.trans s.fs t.fs) i) r)) (ha103.sub (Sub.trans (Sub.trans (Sub.trans s.fs t.fs) i) r)) (Rb.sub r) Sb fun Sd Ma Md Tb Ub=>?_;obtain⟨Vb,ia⟩:=I.callG Tb G;have Wb:=g.k ia;have J:=J.k ia;refine⟨_,_,_,_,rfl,?_⟩;obtain⟨Xb,hp⟩:=zqe hp;intro Td Yb;obtain⟨Zb,ac,bc,cc,dc,ec,fc⟩:=J.app' zBM Vb (a:=La) (show Rp.rep (α:=Res) Ma _ La from ⟨_,rfl,Ub⟩) Xb Yb;have gc:=Wb.k ec;refine⟨Zb,ac,cc,?_⟩;refine gdi hp fun hc hp=>?_;exact Za _ _ _ _ Ma bc dc (Sub.trans r ia.fs) gc fc hp
    exact hgo _ _ _ _ _ p y F (Sub.refl _) g (Ow.nil _ _ _ _ _) hp
   refine⟨_,_,_,_,g.bk.ra,trivial,_,g.bk.rc rfl,?_⟩;obtain⟨ic,ja,hp⟩:=zqd hp;obtain⟨yd,bb,Ca,ja⟩:=zp7 ja;obtain⟨_,jc⟩:=zrK ha103 ja;refine⟨yd,bb,(by first|exact Ca|(rw[ha103.slLen];exact Ca)),_,_,_,_,_,_,_,_,_,(jc _ (Sub.trans (Sub.trans (Sub.trans s.fs t.fs) i) F.sub)).1,?_⟩;obtain⟨ka,kc,hp⟩:=zqd hp;refine zBO (c:=c) (f_:=ic) F.pre (ha100.sub (Sub.trans (Sub.trans s.fs t.fs) i)) (ha103.sub (Sub.trans (Sub.trans s.fs t.fs) i)) kc fun Ud Na Nd lc aa=>?_;obtain⟨nc,A⟩:=F.callG lc y;have n:=g.k A;refine⟨_,rfl,?_⟩;intro zd oc
   have hgo:∀(N:Nat) (Da:C) (ga:Int) (ba:List (List OcR)) (T:M) (q:M) (B:Nat->Nat),St (Fm.of m) f q T->Sub Na q->Lb (Fm.of m) q B T 1 m.nxt 4 [ca100,Il c.Day,Il c.Fee,ca103]->Ow (Fm.of m) q B T 4 Da ba->zvp o x5 ka (zvr c x) N ba ga=some rz->zd [.c Da,.c (Il ga)] T:=by
    intro N
    induction N with
    | zero=>intro Da ga ba T q B la d n ma hp; cases hp
    | succ N cb=>
     intro Da ga ba T q B la d n ma hp;refine oc _ _ _ ?_;rw[zvp] at hp;refine⟨j.isSl,?_⟩
     try rw[j.slLen]
     refine ifd hp (fun pc hp=>?_) fun pc hp=>?_; rotate_left
     ·refine gdi hp fun qc hp=>?_;obtain⟨sc,tc,Oa,uc⟩:=ma.freeze la;have vc:=n.k Oa;exact Hb _ _ _ _ sc B tc (Sub.trans (Sub.trans (Sub.trans i A.fs) d) Oa.fs) vc uc hp
     intro Ad wc
     have hgo:∀(ca:Nat) (Ea:C) (Fa:Int) (da:List (List OcR)) (O:M) (u:M) (D:Nat->Nat),St (Fm.of m) f u O->Sub q u->Lb (Fm.of m) u D O 1 m.nxt 4 [ca100,Il c.Day,Il c.Fee,ca103]->Ow (Fm.of m) u D O 4 Ea da->zvo o ka ga (zvp o x5 ka (zvr c x) N) ca da Fa=some rz->Ad [.c Ea,.c (Il Fa)] O:=by
      intro ca
      induction ca with
      | zero=>intro Ea Fa da O u D na e n b hp; cases hp
      | succ ca db=>
       intro Ea Fa da O u D na e n b hp;refine wc _ _ _ ?_;rw[zvo] at hp;refine⟨aa.isSl,?_⟩
       try rw[aa.slLen]
       refine ifd hp (fun xc hp=>?_) fun xc hp=>?_; rotate_left
       ·refine gdi hp fun yc hp=>?_;exact cb _ _ _ _ u D na (Sub.trans d e) n b hp
       intro Vd zc;obtain⟨Ac,oa,Pa,eb⟩:=na.growK zc D 5;have Bc:=n.k Pa;have b:=b.k Pa;have Cc:=eb 0 (by decide);intro Wd Dc;obtain⟨Od,pa,qa,Ec⟩:=oa.blk Dc Ac 6;have Fc:=Bc.k qa;have Gc:=Cc.k qa;have b:=b.k qa;obtain⟨Qa,sa,hp⟩:=zqd hp;obtain⟨Bd,fb,Ga,sa⟩:=zp7 sa;obtain⟨Pd,ta,ua⟩:=j.rdS sa;refine⟨Bd,fb,(by first|exact Ga|(rw[j.slLen];exact Ga)),_,(ta _ (Sub.trans (Sub.trans (Sub.trans A.fs d) e) pa.sub)),(by rw[show cmC _=true from zoM (ua.noFn)]; exact(ta _ (Sub.trans (Sub.trans (Sub.trans A.fs d) e) oa.sub))),?_⟩;have Hc:=Lb.ow0 (α:=OcR) Ec;obtain⟨Ic,hp⟩:=zqe hp;obtain⟨Jc,Kc,Qd,Lc,Ra,va,P⟩:=Hc.appL zw8 pa (ua.sub (Sub.trans (Sub.trans A.fs d) e)) Ic;have Nc:=Fc.k va;have Pc:=Gc.k va;have b:=b.k va;refine⟨Jc,Kc,Lc,?_⟩;obtain⟨h,wa,hp⟩:=zqd hp;obtain⟨Cd,gb,Ha,wa⟩:=zp7 wa;obtain⟨_,xa⟩:=zrO aa wa;refine⟨Cd,gb,(by first|exact Ha|(rw[aa.slLen];exact Ha)),_,_,_,(xa _ (Sub.trans (Sub.trans d e) Ra.sub)).1,(xa _ (Sub.trans (Sub.trans d e) pa.sub)).1,(xa _ (Sub.trans (Sub.trans d e) oa.sub)).1,?_⟩;intro Xd Qc;obtain⟨Sa,ya,Rc⟩:=Pc.set Ra Qc;have Tc:=Nc.k ya;have b:=b.k ya;have P:=P.k ya;refine⟨(by rw[show cmC _=true from zoM (ua.noFn)]; exact(ta _ (Sub.trans (Sub.trans (Sub.trans A.fs d) e) Sa.sub))),?_⟩;obtain⟨Ta,Uc,ea,hb⟩:=Rc.freeze Sa;have Vc:=Tc.k ea;have b:=b.k ea;have P:=P.k ea;have Xc:Sl Ta (C.sl (O.nxt+0) 0 1 0 (Option.some 1)) ([h]:List OcR):=Bk.sl (α:=OcR) (l:=([h]:List OcR)) hb (show Cat (α:=OcR) Ta [Il h.Pay,.bool h.Called,Il h.Lost] ([h]:List OcR) from ⟨[Il h.Pay,.bool h.Called,Il h.Lost],_,rfl,rfl,rfl⟩) rfl rfl _
       obtain⟨Yc,hp⟩:=zqe hp;obtain⟨Zc,ad,Rd,bd,cd,Ua,dd⟩:=P.appL zw8 Uc Xc Yc;have ed:=Vc.k Ua;have b:=b.k Ua;refine⟨Zc,ad,bd,?_⟩;obtain⟨Va,fd,za,hd⟩:=dd.freeze cd;have id:=ed.k za;have b:=b.k za;obtain⟨jd,hp⟩:=zqe hp;intro Yd kd;obtain⟨ld,md,nd,od,pd,qd,sd⟩:=b.app' zBN fd (a:=(([]++Qa)++([h]:List OcR))) (show Rp.rep (α:=List OcR) Va _ (([]++Qa)++([h]:List OcR)) from ⟨_,rfl,hd⟩) jd kd;have td:=id.k qd;refine⟨ld,md,od,?_⟩;refine gdi hp fun ud hp=>?_;exact db _ _ _ _ Va nd pd (Sub.trans (Sub.trans e ea.fs) za.fs) td sd hp
     exact hgo _ _ _ _ _ q B la (Sub.refl _) n ma hp
   exact hgo _ _ _ _ _ Na y nc (Sub.refl _) n (Ow.nil _ _ _ _ _) hp
 exact hgo _ _ _ _ _ w wb Eb (Sub.refl _) g Gb hp
theorem zBQ{c:Cse}{ca100 ca103:C}{m f:M}{Q:V->M->Prop}{rz:Rg × Rg × Rg × Rg}(hS:Pre f m)(ha100:Sl f ca100 c.Tariffs)(ha103:Sl f ca103 c.Fields)(hp:zvu c=some rz)(hq:∀m',Ext m m'->Q (.tup [.agg 2 [Il rz.1.Lo,Il rz.1.Hi],.agg 2 [Il rz.2.1.Lo,Il rz.2.1.Hi],.agg 2 [Il rz.2.2.1.Lo,Il rz.2.2.1.Hi],.agg 2 [Il rz.2.2.2.Lo,Il rz.2.2.2.Hi]]) m'):Wc prog tbl 37 [.agg 4 [ca100,Il c.Day,Il c.Fee,ca103]] m Q:=by
 have S0:=hS.st;obtain⟨τ0,_⟩:=zrD;refine w37 ?_;unfold zvu at hp;intro m0 uf;obtain⟨vf,wf,Lj,xf⟩:=S0.blk uf τ0 1;intro m1 yf;obtain⟨zf,Af,Bf,Cf⟩:=wf.blk yf vf 2;have Df:=xf.k Bf;intro m2 Ef;obtain⟨Ff,Gf,zb,Hf⟩:=Af.blk Ef zf 3;have If:=Df.k zb;have Jf:=Cf.k zb;intro m3 Kf;obtain⟨Lf,Mf,ab,Nf⟩:=Gf.blk Kf Ff 4;have Of:=If.k ab;have Pf:=Jf.k ab;have Qf:=Hf.k ab;intro m4 Rf;obtain⟨Sf,Uf,La,Vf⟩:=Mf.blk Rf Lf 5;have Wf:=Of.k La;have Xf:=Pf.k La;have Yf:=Qf.k La;have Zf:=Nf.k La;intro m5 ag;obtain⟨bg,cg,Ba,dg⟩:=Uf.blk ag Sf 6;have eg:=Wf.k Ba;have fg:=Xf.k Ba;have gg:=Yf.k Ba;have hg:=Zf.k Ba;have ig:=Vf.k Ba;obtain⟨Ca,jg,kg,Da,lg⟩:=dg.sto cg [(Il (1099511627776:Int)),(Il (-1099511627776:Int))];have mg:=eg.k Da;have ng:=fg.k Da;have og:=gg.k Da;have pg:=hg.k Da;have qg:=ig.k Da;refine⟨Ca,jg,?_⟩;intro m7 rg;obtain⟨sg,tg,Z,sa⟩:=kg.growK rg bg 7;have ug:=mg.k Z;have vg:=ng.k Z;have wg:=og.k Z;have xg:=pg.k Z;have zg:=qg.k Z;have aa:=lg.k Z;have Ag:=sa 0 (by decide);have Bg:=sa 1 (by decide);have Cg:=sa 2 (by decide);have Dg:=sa 3 (by decide);refine⟨_,_,aa.bk.ra,_,_,aa.bk.ra,_,_,aa.bk.ra,_,_,aa.bk.ra,_,_,aa.bk.ra,?_⟩;intro Uj Eg;obtain⟨Ab,Fg,w,Gg⟩:=tg.blk Eg sg 11;have Hg:=ug.k w;have Ig:=vg.k w;have Jg:=wg.k w;have Kg:=xg.k w;have Lg:=zg.k w;have ba:=aa.k w;have Mg:=Ag.k w;have Ng:=Bg.k w;have Og:=Cg.k w;have Pg:=Dg.k w;refine⟨(ba.bk.ra),(ba.bk.ra),(ba.bk.ra),(ba.bk.ra),(ba.bk.ra),?_⟩;intro Vj Qg;obtain⟨Sg,x,Tg⟩:=Mg.set Fg Qg;have Ug:=Hg.k x;have Vg:=Ig.k x;have Wg:=Jg.k x;have Xg:=Kg.k x;have Zg:=Lg.k x;have ca:=ba.k x;have ah:=Gg.k x;have bh:=Ng.k x;have ch:=Og.k x;have dh:=Pg.k x
 refine⟨(ca.bk.ra),(ca.bk.ra),(ca.bk.ra),(ca.bk.ra),(ca.bk.ra),?_⟩;intro Wj eh;obtain⟨fh,y,gh⟩:=bh.set Sg eh;have hh:=Ug.k y;have ih:=Vg.k y;have jh:=Wg.k y;have kh:=Xg.k y;have lh:=Zg.k y;have da:=ca.k y;have mh:=ah.k y;have nh:=Tg.k y;have oh:=ch.k y;have ph:=dh.k y;refine⟨(da.bk.ra),(da.bk.ra),(da.bk.ra),(da.bk.ra),(da.bk.ra),?_⟩;intro Xj qh;obtain⟨rh,z,th⟩:=oh.set fh qh;have uh:=hh.k z;have vh:=ih.k z;have wh:=jh.k z;have xh:=kh.k z;have yh:=lh.k z;have ea:=da.k z;have zh:=mh.k z;have Ah:=nh.k z;have Bh:=gh.k z;have Ch:=ph.k z;refine⟨(ea.bk.ra),(ea.bk.ra),(ea.bk.ra),(ea.bk.ra),(ea.bk.ra),?_⟩;intro Yj Dh;obtain⟨Eh,A,Fh⟩:=Ch.set rh Dh;have Gh:=uh.k A;have Hh:=vh.k A;have Ih:=wh.k A;have Jh:=xh.k A;have Kh:=yh.k A;have fa:=ea.k A;have Lh:=zh.k A;have Mh:=Ah.k A;have Nh:=Bh.k A;have Oh:=th.k A;refine⟨(fa.bk.ra),(fa.bk.ra),(fa.bk.ra),(fa.bk.ra),(fa.bk.ra),?_⟩;obtain⟨Ph,Qh,Rh,B,Sh⟩:=Lh.sto Eh [(Il (1099511627776:Int)),(Il (-1099511627776:Int))];have Th:=Gh.k B;have Uh:=Hh.k B;have Vh:=Ih.k B;have Wh:=Jh.k B;have Xh:=Kh.k B;have Ea:=fa.k B;have Yh:=Mh.k B;have Zh:=Nh.k B;have ai:=Oh.k B;have bi:=Fh.k B;refine⟨Ph,Qh,?_⟩;refine⟨(Ea.bk.ra),(Ea.bk.ra),(Ea.bk.ra),(Ea.bk.ra),?_⟩;obtain⟨ci,ei,fi,D,gi⟩:=Yh.sto Rh [(Il (1099511627776:Int)),(Il (-1099511627776:Int))];have hi:=Th.k D;have ii:=Uh.k D;have ji:=Vh.k D;have ki:=Wh.k D;have li:=Xh.k D;have Ma:=Ea.k D;have ni:=Sh.k D;have pi:=Zh.k D;have qi:=ai.k D;have ri:=bi.k D;refine⟨ci,ei,?_⟩;refine⟨(Ma.bk.ra),(Ma.bk.ra),(Ma.bk.ra),?_⟩;obtain⟨si,ti,ui,F,vi⟩:=pi.sto fi [(Il (1099511627776:Int)),(Il (-1099511627776:Int))]
 have wi:=hi.k F;have xi:=ii.k F;have yi:=ji.k F;have zi:=ki.k F;have Ai:=li.k F;have bb:=Ma.k F;have Bi:=ni.k F;have Ci:=gi.k F;have Di:=qi.k F;have Ei:=ri.k F;refine⟨si,ti,?_⟩;refine⟨(bb.bk.ra),(bb.bk.ra),?_⟩;obtain⟨Fi,Gi,Ii,G,Ji⟩:=Di.sto ui [(Il (1099511627776:Int)),(Il (-1099511627776:Int))];have Ki:=wi.k G;have Ni:=xi.k G;have Oi:=yi.k G;have Pi:=zi.k G;have Qi:=Ai.k G;have Bb:=bb.k G;have Ri:=Bi.k G;have Si:=Ci.k G;have Ti:=vi.k G;have Ui:=Ei.k G;refine⟨Fi,Gi,?_⟩;refine⟨(Bb.bk.ra),?_⟩;obtain⟨Vi,Wi,Cb,I,Xi⟩:=Ui.sto Ii [(Il (1099511627776:Int)),(Il (-1099511627776:Int))];have Db:=Ki.k I;have Yi:=Ni.k I;have Zi:=Oi.k I;have aj:=Pi.k I;have bj:=Qi.k I;have cj:=Bb.k I;have dj:=Ri.k I;have ej:=Si.k I;have fj:=Ti.k I;have gj:=Ji.k I;refine⟨Vi,Wi,?_⟩;refine⟨_,_,_,_,Db.bk.ra,?_⟩;obtain⟨hj,ij,hp⟩:=zqd hp;refine zBP (c:=c) Cb.pre ha100 ha103 ij fun Zj s Rj jj a=>?_;obtain⟨kj,t⟩:=Cb.callG jj Ab;have Na:=Db.k t;have Fa:=Yi.k t;have Ga:=Zi.k t;have Ha:=aj.k t;have Ia:=bj.k t;have Oa:=cj.k t;have ga:=dj.k t;have P:=ej.k t;have S:=fj.k t;have ha:=gj.k t;have ia:=Xi.k t;refine⟨_,rfl,?_⟩;intro oj lj
 have hgo:∀(Pa:Nat) (cb:Int) (ja:Int) (ka:Int) (la:Int) (ma:Int) (na:Int) (oa:Int) (pa:Int) (Ja:Int) (Ka:Int) (qa:Int) (u:M) (b:Nat->Nat),St (Fm.of m) f s u->Lb (Fm.of m) s b u 1 m.nxt 4 [ca100,Il c.Day,Il c.Fee,ca103]->Lb (Fm.of m) s b u 2 m0.nxt 2 [Il 0,Il 0]->Lb (Fm.of m) s b u 3 m1.nxt 2 [Il 0,Il 0]->Lb (Fm.of m) s b u 4 m2.nxt 2 [Il 0,Il 0]->Lb (Fm.of m) s b u 5 m3.nxt 2 [Il 0,Il 0]->Lb (Fm.of m) s b u 6 m4.nxt 2 [(Il (1099511627776:Int)),(Il (-1099511627776:Int))]->Lb (Fm.of m) s b u 11 m7.nxt 2 [Il ja,Il ka]->Lb (Fm.of m) s b u 7 (Ca.nxt+0) 2 [Il la,Il ma]->Lb (Fm.of m) s b u 8 (Ca.nxt+1) 2 [Il na,Il oa]->Lb (Fm.of m) s b u 9 (Ca.nxt+2) 2 [Il pa,Il Ja]->Lb (Fm.of m) s b u 10 (Ca.nxt+3) 2 [Il Ka,Il qa]->zvt hj Pa ja ka la ma na oa pa Ja Ka qa cb=some rz->oj [.c (Il cb)] u:=by
  intro Pa
  induction Pa with
  | zero=>intro cb ja ka la ma na oa pa Ja Ka qa u b T Na Fa Ga Ha Ia Oa ga P S ha ia hp; cases hp
  | succ Pa Kb=>
   intro cb ja ka la ma na oa pa Ja Ka qa u b T Na Fa Ga Ha Ia Oa ga P S ha ia hp;refine lj _ _ ?_;rw[zvt] at hp;refine⟨a.isSl,?_⟩
   try rw[a.slLen]
   refine ifd hp (fun mj hp=>?_) fun mj hp=>?_; rotate_left
   ·refine⟨_,_,ga.bk.ra,_,_,P.bk.ra,_,_,S.bk.ra,trivial,_,ha.bk.rc rfl,trivial,_,ia.bk.rc rfl,?_⟩;obtain⟨Mb,Nb,Ob,J,Pb⟩:=Fa.sto T [Il ja,Il ka];have Qb:=Ga.k J;have Rb:=Ha.k J;have Sb:=Ia.k J;have Tb:=P.k J;have db:=S.k J;have eb:=ha.k J;have fb:=ia.k J;refine⟨Mb,Nb,?_⟩;refine⟨(fb.bk.rc rfl),(eb.bk.rc rfl),(db.bk.ra),(Tb.bk.ra),?_⟩;obtain⟨Ub,Vb,Wb,N,Xb⟩:=Qb.sto Ob [Il la,Il ma];have Yb:=Pb.k N;have Zb:=Rb.k N;have ac:=Sb.k N;have bc:=db.k N;have gb:=eb.k N;have hb:=fb.k N;refine⟨Ub,Vb,?_⟩;refine⟨(hb.bk.rc rfl),(gb.bk.rc rfl),(bc.bk.ra),?_⟩;obtain⟨cc,dc,ec,Y,fc⟩:=Zb.sto Wb [Il na,Il oa];have gc:=Yb.k Y;have hc:=Xb.k Y;have ic:=ac.k Y;have jc:=gb.k Y;have kc:=hb.k Y;refine⟨cc,dc,?_⟩;refine⟨(kc.bk.rc rfl),(jc.bk.rc rfl),?_⟩;obtain⟨lc,nc,oc,Qa,pc⟩:=ic.sto ec [Il pa,Il qa];have qc:=gc.k Qa;have sc:=hc.k Qa;have tc:=fc.k Qa;refine⟨lc,nc,?_⟩;refine⟨_,_,qc.bk.ra,_,_,sc.bk.ra,_,_,tc.bk.ra,_,_,pc.bk.ra,?_⟩;obtain rfl:=oi hp;exact hq _ oc.ext'
   refine⟨_,_,ga.bk.ra,?_⟩;obtain⟨nj,Ra,hp⟩:=zqd hp;obtain⟨pj,uc,ib,Ra⟩:=zp7 Ra;obtain⟨Sj,vc,Tj⟩:=zrN a Ra;refine⟨pj,uc,(by first|exact ib|(rw[a.slLen];exact ib)),(a.isPt Ra _),_,((vc _ T.sub).2.1 1 _ rfl),?_⟩;obtain⟨jb,wc,hp⟩:=zqd hp;refine zzk (r:=({ Lo:=ja,Hi:=ka }:Rg)) (n:=nj.Award) T.pre  wc fun ak xc=>?_;obtain⟨ta,d⟩:=T.call xc b;have yc:=Na.k d;have zc:=Fa.k d;have Ac:=Ga.k d;have Bc:=Ha.k d;have Cc:=Ia.k d;have Dc:=Oa.k d;have Ec:=ga.k d;have kb:=P.k d;have mb:=S.k d;have Fc:=ha.k d;have Gc:=ia.k d;refine⟨_,_,rfl,_,_,kb.bk.ra,(P.bk.ra),?_⟩;obtain⟨Hc,ua,hp⟩:=zqd hp;obtain⟨qj,Eb,Ua,ua⟩:=zp7 ua;obtain⟨wj,ob,xj⟩:=zrN a ua;refine⟨qj,Eb,(by first|exact Ua|(rw[a.slLen];exact Ua)),(a.isPt ua _),_,((ob _ ta.sub).2.1 2 _ rfl),((ob _ T.sub).2.1 2 _ rfl),?_⟩;obtain⟨pb,Ic,hp⟩:=zqd hp;refine zzk (r:=({ Lo:=la,Hi:=ma }:Rg)) (n:=Hc.Farmer) ta.pre  Ic fun ck Jc=>?_;obtain⟨Sa,e⟩:=ta.call Jc b;have Kc:=yc.k e;have Lc:=zc.k e;have Nc:=Ac.k e;have Pc:=Bc.k e;have Qc:=Cc.k e;have Rc:=Dc.k e;have Tc:=Ec.k e;have Uc:=kb.k e;have qb:=mb.k e;have Vc:=Fc.k e;have Xc:=Gc.k e;refine⟨_,_,rfl,_,_,qb.bk.ra,(mb.bk.ra),(S.bk.ra),?_⟩;obtain⟨Yc,va,hp⟩:=zqd hp;obtain⟨rj,Fb,Va,va⟩:=zp7 va;obtain⟨yj,Ta,zj⟩:=zrN a va;refine⟨rj,Fb,(by first|exact Va|(rw[a.slLen];exact Va)),(a.isPt va _),_,((Ta _ Sa.sub).2.1 3 _ rfl),((Ta _ ta.sub).2.1 3 _ rfl),((Ta _ T.sub).2.1 3 _ rfl),?_⟩;obtain⟨rb,Zc,hp⟩:=zqd hp;refine zzk (r:=({ Lo:=na,Hi:=oa }:Rg)) (n:=Yc.Society) Sa.pre  Zc fun dk ad=>?_
   obtain⟨bd,g⟩:=Sa.call ad b;have cd:=Kc.k g;have dd:=Lc.k g;have ed:=Nc.k g;have fd:=Pc.k g;have hd:=Qc.k g;have id:=Rc.k g;have jd:=Tc.k g;have kd:=Uc.k g;have ld:=qb.k g;have md:=Vc.k g;have nd:=Xc.k g;refine⟨_,_,rfl,?_⟩;obtain⟨od,pd,qd,j,sd⟩:=jd.sto bd [Il jb.Lo,Il jb.Hi];have td:=cd.k j;have ud:=dd.k j;have vd:=ed.k j;have wd:=fd.k j;have xd:=hd.k j;have yd:=id.k j;have zd:=kd.k j;have Ad:=ld.k j;have Bd:=md.k j;have Cd:=nd.k j;refine⟨od,pd,?_⟩;obtain⟨Dd,Ed,Fd,l,Gd⟩:=zd.sto qd [Il pb.Lo,Il pb.Hi];have Hd:=td.k l;have Id:=ud.k l;have Jd:=vd.k l;have Ld:=wd.k l;have Md:=xd.k l;have Nd:=yd.k l;have Od:=sd.k l;have Pd:=Ad.k l;have Qd:=Bd.k l;have Rd:=Cd.k l;refine⟨Dd,Ed,?_⟩;obtain⟨Sd,Td,O,o,Ud⟩:=Pd.sto Fd [Il rb.Lo,Il rb.Hi];have Vd:=Hd.k o;have Wd:=Id.k o;have Xd:=Jd.k o;have Yd:=Ld.k o;have Zd:=Md.k o;have ae:=Nd.k o;have be:=Od.k o;have ce:=Gd.k o;have sb:=Qd.k o;have tb:=Rd.k o;refine⟨Sd,Td,?_⟩;refine⟨_,_,sb.bk.ra,?_⟩;obtain⟨de,wa,hp⟩:=zqd hp;obtain⟨sj,Gb,Wa,wa⟩:=zp7 wa;obtain⟨Aj,ee,Bj⟩:=zrN a wa;refine⟨sj,Gb,(by first|exact Wa|(rw[a.slLen];exact Wa)),(a.isPt wa _),_,((ee _ O.sub).2.1 1 _ rfl),?_⟩;obtain⟨fe,xa,hp⟩:=zqd hp;obtain⟨tj,Hb,Xa,xa⟩:=zp7 xa;obtain⟨Cj,ge,Dj⟩:=zrN a xa;refine⟨tj,Hb,(by first|exact Xa|(rw[a.slLen];exact Xa)),(a.isPt xa _),_,((ge _ O.sub).2.1 2 _ rfl),?_⟩;refine gdi hp fun he hp=>?_;obtain⟨ub,ie,hp⟩:=zqd hp;refine zzk (r:=({ Lo:=pa,Hi:=Ja }:Rg)) (n:=(de.Award - fe.Farmer)) O.pre  ie fun ek je=>?_;obtain⟨ya,h⟩:=O.call je b
   have ke:=Vd.k h;have me:=Wd.k h;have oe:=Xd.k h;have pe:=Yd.k h;have qe:=Zd.k h;have re:=ae.k h;have se:=be.k h;have te:=ce.k h;have ue:=Ud.k h;have ve:=sb.k h;have vb:=tb.k h;refine⟨_,_,rfl,_,_,vb.bk.ra,(tb.bk.ra),?_⟩;obtain⟨we,za,hp⟩:=zqd hp;obtain⟨uj,Ib,Ya,za⟩:=zp7 za;obtain⟨Ej,wb,Fj⟩:=zrN a za;refine⟨uj,Ib,(by first|exact Ya|(rw[a.slLen];exact Ya)),(a.isPt za _),_,((wb _ ya.sub).2.1 1 _ rfl),((wb _ O.sub).2.1 1 _ rfl),?_⟩;obtain⟨xe,Aa,hp⟩:=zqd hp;obtain⟨vj,Jb,Za,Aa⟩:=zp7 Aa;obtain⟨Gj,xb,Hj⟩:=zrN a Aa;refine⟨vj,Jb,(by first|exact Za|(rw[a.slLen];exact Za)),(a.isPt Aa _),_,((xb _ ya.sub).2.1 3 _ rfl),((xb _ O.sub).2.1 3 _ rfl),?_⟩;refine gdi hp fun ye hp=>?_;obtain⟨yb,ze,hp⟩:=zqd hp;refine zzk (r:=({ Lo:=Ka,Hi:=qa }:Rg)) (n:=(we.Award+xe.Society)) ya.pre  ze fun fk Ae=>?_;obtain⟨Be,i⟩:=ya.call Ae b;have Ce:=ke.k i;have De:=me.k i;have Ee:=oe.k i;have Fe:=pe.k i;have Ge:=qe.k i;have He:=re.k i;have Ie:=se.k i;have Je:=te.k i;have Ke:=ue.k i;have Me:=ve.k i;have Ne:=vb.k i;refine⟨_,_,rfl,?_⟩;obtain⟨Oe,Pe,Qe,p,Re⟩:=Me.sto Be [Il ub.Lo,Il ub.Hi];have Se:=Ce.k p;have Te:=De.k p;have Ue:=Ee.k p;have Ve:=Fe.k p;have We:=Ge.k p;have Xe:=He.k p;have Ye:=Ie.k p;have Ze:=Je.k p;have af:=Ke.k p;have bf:=Ne.k p;refine⟨Oe,Pe,?_⟩;obtain⟨cf,df,ef,q,gf⟩:=bf.sto Qe [Il yb.Lo,Il yb.Hi];have hf:=Se.k q;have jf:=Te.k q;have kf:=Ue.k q;have lf:=Ve.k q;have mf:=We.k q;have nf:=Xe.k q;have pf:=Ye.k q;have qf:=Ze.k q;have rf:=af.k q;have sf:=Re.k q;refine⟨cf,df,?_⟩
   refine gdi hp fun tf hp=>?_;exact Kb _ _ _ _ _ _ _ _ _ _ _ _ b ef hf jf kf lf mf nf pf qf rf sf gf hp
 exact hgo _ _ _ _ _ _ _ _ _ _ _ _ _ Ab kj Na Fa Ga Ha Ia Oa ga P S ha ia hp
theorem zBR{c:Cse}{ca100 ca103:C}{m f:M}{Q:V->M->Prop}{rz:Bool}(hS:Pre f m)(ha100:Sl f ca100 c.Tariffs)(ha103:Sl f ca103 c.Fields)(hp:zvv c=some rz)(hq:∀m',Ext m m'->Q (.c (.bool rz)) m'):Wc prog tbl 5 [.agg 4 [ca100,Il c.Day,Il c.Fee,ca103]] m Q:=by
 have S0:=hS.st;obtain⟨τ0,_⟩:=zrD;refine w5 ?_;unfold zvv at hp;intro m0 Ra;obtain⟨B,ma,lh,na⟩:=S0.blk Ra τ0 1;refine⟨_,_,_,_,na.bk.ra,?_⟩;obtain⟨mh,Sa,hp⟩:=zqd hp;refine zzp (c:=c) ma.pre ha100 ha103 Sa fun m6 Ta=>?_;obtain⟨I,Ua⟩:=ma.call Ta B;have oa:=na.k Ua;refine⟨_,rfl,?_⟩;refine zqT hp (fun Va hp=>?_) fun Va hp=>?_
 ·obtain⟨nh,Wa,hp⟩:=zqd hp;refine zBK I.pre  Wa fun m9 Xa=>?_;obtain⟨Ya,oh⟩:=I.call Xa B;refine⟨_,rfl,?_⟩;obtain rfl:=oi hp;exact hq _ Ya.ext'
 refine⟨_,_,_,_,oa.bk.ra,?_⟩;obtain⟨Za,ab,hp⟩:=zqd hp;refine zzo (c:=c) I.pre ha100 ha103 ab fun hi ph qh rh bb cb db=>?_;obtain⟨pa,d⟩:=I.callG bb B;have eb:=oa.k d;refine⟨_,_,_,_,rfl,?_⟩;obtain⟨qa,fb,hp⟩:=zqd hp;refine zBH (c:=Za) pa.pre cb db fb fun ii gb=>?_;obtain⟨hb,ib⟩:=pa.call gb B;have jb:=eb.k ib;refine⟨_,_,_,rfl,?_⟩;intro ji kb;obtain⟨aa,mb,ob,pb⟩:=hb.blk kb B 2;have qb:=jb.k ob;obtain⟨rb,sb,sa,tb,ub⟩:=pb.sto mb [Il qa.1.Lo,Il qa.1.Hi];have ta:=qb.k tb;refine⟨rb,sb,?_⟩;refine⟨_,_,_,_,ta.bk.ra,?_⟩;obtain⟨vb,wb,hp⟩:=zqd hp;refine zzo (c:=c) sa.pre (ha100.sub d.fs) (ha103.sub d.fs) wb fun ki th uh vh xb yb zb=>?_;obtain⟨ua,e⟩:=sa.callG xb aa;have Ab:=ta.k e;have Bb:=ub.k e;refine⟨_,_,_,_,rfl,?_⟩;obtain⟨J,Cb,hp⟩:=zqd hp;refine zBI (c:=vb) ua.pre yb zb Cb fun li Db=>?_;obtain⟨Eb,va⟩:=ua.call Db aa;have Fb:=Ab.k va;have Gb:=Bb.k va;refine⟨_,_,_,_,_,rfl,?_⟩;intro ni Hb;obtain⟨Ib,Jb,wa,Kb⟩:=Eb.blk Hb aa 3;have Mb:=Fb.k wa;have Nb:=Gb.k wa;intro pi Ob;obtain⟨ba,Pb,ca,Qb⟩:=Jb.blk Ob Ib 4;have Rb:=Mb.k ca;have Sb:=Nb.k ca;have Tb:=Kb.k ca;obtain⟨Ub,Vb,Wb,da,Xb⟩:=Tb.sto Pb [Il J.1.Lo,Il J.1.Hi];have Yb:=Rb.k da;have Zb:=Sb.k da;have ac:=Qb.k da;refine⟨Ub,Vb,?_⟩;obtain⟨bc,cc,xa,ea,dc⟩:=ac.sto Wb [Il J.2.1.Lo,Il J.2.1.Hi];have ya:=Yb.k ea;have ec:=Zb.k ea;have fc:=Xb.k ea;refine⟨bc,cc,?_⟩;refine⟨_,_,_,_,ya.bk.ra,?_⟩;obtain⟨gc,hc,hp⟩:=zqd hp;refine zzo (c:=c) xa.pre (ha100.sub (Sub.trans d.fs e.fs)) (ha103.sub (Sub.trans d.fs e.fs)) hc fun qi wh xh yh ic jc kc=>?_
 obtain⟨za,g⟩:=xa.callG ic ba;have lc:=ya.k g;have nc:=ec.k g;have oc:=fc.k g;have pc:=dc.k g;refine⟨_,_,_,_,rfl,?_⟩;obtain⟨Aa,qc,hp⟩:=zqd hp;refine zBJ (c:=gc) za.pre jc kc qc fun ri sc=>?_;obtain⟨tc,N⟩:=za.call sc ba;have uc:=lc.k N;have vc:=nc.k N;have wc:=oc.k N;have xc:=pc.k N;refine⟨_,_,_,rfl,?_⟩;intro si yc;obtain⟨x,zc,O,Ac⟩:=tc.blk yc ba 5;have Bc:=uc.k O;have Cc:=vc.k O;have Dc:=wc.k O;have Ec:=xc.k O;obtain⟨Fc,Gc,Ba,P,Hc⟩:=Ac.sto zc [Il Aa.1.Lo,Il Aa.1.Hi];have Ca:=Bc.k P;have Ic:=Cc.k P;have Jc:=Dc.k P;have Kc:=Ec.k P;refine⟨Fc,Gc,?_⟩;refine⟨_,_,_,_,Ca.bk.ra,?_⟩;obtain⟨Lc,Nc,hp⟩:=zqd hp;refine zzo (c:=c) Ba.pre (ha100.sub (Sub.trans (Sub.trans d.fs e.fs) g.fs)) (ha103.sub (Sub.trans (Sub.trans d.fs e.fs) g.fs)) Nc fun ti zh Ah Bh Pc Qc Rc=>?_;obtain⟨Da,i⟩:=Ba.callG Pc x;have Tc:=Ca.k i;have Uc:=Ic.k i;have Vc:=Jc.k i;have Xc:=Kc.k i;have Yc:=Hc.k i;refine⟨_,_,_,_,rfl,?_⟩;obtain⟨Zc,ad,hp⟩:=zqd hp;refine zza (c:=Lc) Da.pre Qc Rc ad fun ui Ch Dh bd fa=>?_;obtain⟨Ea,j⟩:=Da.callG bd x;have Fa:=Tc.k j;have cd:=Uc.k j;have dd:=Vc.k j;have ed:=Xc.k j;have fd:=Yc.k j;refine⟨_,_,rfl,_,_,_,_,Fa.bk.ra,?_⟩;obtain⟨Eh,hd,hp⟩:=zqd hp;refine zzq (c:=c) Ea.pre (ha100.sub (Sub.trans (Sub.trans (Sub.trans (Sub.trans d.fs e.fs) g.fs) i.fs) j.fs)) (ha103.sub (Sub.trans (Sub.trans (Sub.trans (Sub.trans d.fs e.fs) g.fs) i.fs) j.fs)) hd fun vi id=>?_;obtain⟨ga,D⟩:=Ea.call id x;have Ga:=Fa.k D;have Ha:=cd.k D;have Ia:=dd.k D;have Ja:=ed.k D;have Ka:=fd.k D;refine⟨_,rfl,?_⟩
 refine zqR hp (fun jd hp=>?_) fun jd hp=>?_
 ·intro wi kd;obtain⟨ld,md,S,nd⟩:=ga.blk kd x 6;have od:=Ha.k S;have pd:=Ia.k S;have qd:=Ja.k S;have sd:=Ka.k S;obtain⟨td,ud,l,T,Y⟩:=nd.sto md [Il 0,Il 0];have vd:=od.k T;have wd:=pd.k T;have xd:=qd.k T;have yd:=sd.k T;refine⟨td,ud,?_⟩;refine ifd hp (fun zd hp=>?_) fun zd hp=>?_; rotate_left
  ·obtain rfl:=oi hp;exact hq _ l.ext'
  refine ifd hp (fun Ad hp=>?_) fun Ad hp=>?_; rotate_left
  ·obtain rfl:=oi hp;exact hq _ l.ext'
  refine ifd hp (fun Bd hp=>?_) fun Bd hp=>?_; rotate_left
  ·obtain rfl:=oi hp;exact hq _ l.ext'
  refine ifd hp (fun Cd hp=>?_) fun Cd hp=>?_; rotate_left
  ·obtain rfl:=oi hp;exact hq _ l.ext'
  refine⟨_,_,vd.bk.ra,_,_,Y.bk.ra,?_⟩;refine gdi hp fun Dd hp=>?_;refine gdi hp fun Ed hp=>?_;refine gdi hp fun Fd hp=>?_;refine gdi hp fun Gd hp=>?_;refine zqS hp (fun Hd hp=>?_) fun Hd hp=>?_; rotate_left
  ·obtain rfl:=oi hp;exact hq _ l.ext'
  refine⟨_,_,wd.bk.ra,_,_,Y.bk.ra,?_⟩;refine gdi hp fun Id hp=>?_;refine gdi hp fun Jd hp=>?_;refine gdi hp fun Ld hp=>?_;refine gdi hp fun Md hp=>?_;refine zqS hp (fun Nd hp=>?_) fun Nd hp=>?_; rotate_left
  ·obtain rfl:=oi hp;exact hq _ l.ext'
  refine⟨_,_,xd.bk.ra,_,_,Y.bk.ra,?_⟩;refine gdi hp fun Od hp=>?_;refine gdi hp fun Pd hp=>?_;refine gdi hp fun Qd hp=>?_;refine gdi hp fun Rd hp=>?_;refine zqS hp (fun Sd hp=>?_) fun Sd hp=>?_; rotate_left
  ·obtain rfl:=oi hp;exact hq _ l.ext'
  refine⟨_,_,yd.bk.ra,_,_,Y.bk.ra,?_⟩;refine gdi hp fun Td hp=>?_;refine gdi hp fun Ud hp=>?_;refine gdi hp fun Vd hp=>?_;refine gdi hp fun Wd hp=>?_;refine zqS hp (fun Xd hp=>?_) fun Xd hp=>?_; rotate_left
  ·obtain rfl:=oi hp;exact hq _ l.ext'
  refine⟨fa.isSl,?_⟩
  try rw[fa.slLen]
  refine ifd hp (fun Yd hp=>?_) fun Yd hp=>?_; rotate_left
  ·obtain rfl:=oi hp;exact hq _ l.ext'
  obtain⟨Fh,Zd,hp⟩:=zqd hp;refine zBK l.pre  Zd fun Th ae=>?_;obtain⟨be,Gh⟩:=l.call ae ld;refine⟨_,rfl,?_⟩;obtain rfl:=oi hp;exact hq _ be.ext'
 refine⟨_,_,_,_,Ga.bk.ra,?_⟩;obtain⟨h,ce,hp⟩:=zqd hp;refine zBQ (c:=c) ga.pre (ha100.sub (Sub.trans (Sub.trans (Sub.trans (Sub.trans d.fs e.fs) g.fs) i.fs) j.fs)) (ha103.sub (Sub.trans (Sub.trans (Sub.trans (Sub.trans d.fs e.fs) g.fs) i.fs) j.fs)) ce fun Uh de=>?_;obtain⟨ee,F⟩:=ga.call de x;have fe:=Ga.k F;have ge:=Ha.k F;have he:=Ia.k F;have ie:=Ja.k F;have je:=Ka.k F;refine⟨_,_,_,_,_,_,_,_,rfl,?_⟩;intro Vh ke;obtain⟨me,oe,G,pe⟩:=ee.blk ke x 7;have qe:=fe.k G;have re:=ge.k G;have se:=he.k G;have te:=ie.k G;have ue:=je.k G;intro Wh ve;obtain⟨we,xe,y,ye⟩:=oe.blk ve me 8;have ze:=qe.k y;have Ae:=re.k y;have Be:=se.k y;have Ce:=te.k y;have De:=ue.k y;have Ee:=pe.k y;intro Xh Fe;obtain⟨Ge,He,u,Ie⟩:=xe.blk Fe we 9;have Je:=ze.k u;have Ke:=Ae.k u;have Me:=Be.k u;have Ne:=Ce.k u;have Oe:=De.k u;have Pe:=Ee.k u;have Qe:=ye.k u;intro Yh Re;obtain⟨w,Se,n,Te⟩:=He.blk Re Ge 10;have Ue:=Je.k n;have Ve:=Ke.k n;have We:=Me.k n;have Xe:=Ne.k n;have Ye:=Oe.k n;have Ze:=Pe.k n;have af:=Qe.k n;have bf:=Ie.k n;obtain⟨cf,df,ef,o,gf⟩:=Ze.sto Se [Il h.1.Lo,Il h.1.Hi];have hf:=Ue.k o;have jf:=Ve.k o;have kf:=We.k o;have lf:=Xe.k o;have mf:=Ye.k o;have nf:=af.k o;have pf:=bf.k o;have qf:=Te.k o;refine⟨cf,df,?_⟩;obtain⟨rf,sf,tf,p,uf⟩:=nf.sto ef [Il h.2.1.Lo,Il h.2.1.Hi];have vf:=hf.k p;have wf:=jf.k p;have xf:=kf.k p;have yf:=lf.k p;have zf:=mf.k p;have Af:=gf.k p;have Bf:=pf.k p;have Cf:=qf.k p;refine⟨rf,sf,?_⟩;obtain⟨Df,Ef,Ff,q,Gf⟩:=Bf.sto tf [Il h.2.2.1.Lo,Il h.2.2.1.Hi];have Hf:=vf.k q;have If:=wf.k q;have Jf:=xf.k q;have Kf:=yf.k q;have Lf:=zf.k q;have Mf:=Af.k q;have Nf:=uf.k q;have Of:=Cf.k q
 refine⟨Df,Ef,?_⟩;obtain⟨Pf,Qf,z,s,Rf⟩:=Of.sto Ff [Il h.2.2.2.Lo,Il h.2.2.2.Hi];have Sf:=Hf.k s;have La:=If.k s;have Uf:=Jf.k s;have Vf:=Kf.k s;have Wf:=Lf.k s;have Xf:=Mf.k s;have Yf:=Nf.k s;have Zf:=Gf.k s;refine⟨Pf,Qf,?_⟩;refine ifd hp (fun ag hp=>?_) fun ag hp=>?_; rotate_left
 ·obtain rfl:=oi hp;exact hq _ z.ext'
 refine ifd hp (fun bg hp=>?_) fun bg hp=>?_; rotate_left
 ·obtain rfl:=oi hp;exact hq _ z.ext'
 refine ifd hp (fun cg hp=>?_) fun cg hp=>?_; rotate_left
 ·obtain rfl:=oi hp;exact hq _ z.ext'
 refine ifd hp (fun dg hp=>?_) fun dg hp=>?_; rotate_left
 ·obtain rfl:=oi hp;exact hq _ z.ext'
 refine⟨_,_,La.bk.ra,_,_,Xf.bk.ra,?_⟩;obtain⟨Hh,eg,hp⟩:=zqd hp;refine zzn (r:=h.1) z.pre  eg fun Zh fg=>?_;obtain⟨ha,t⟩:=z.call fg w;have gg:=Sf.k t;have hg:=La.k t;have Ma:=Uf.k t;have ig:=Vf.k t;have jg:=Wf.k t;have kg:=Yf.k t;have lg:=Zf.k t;have mg:=Rf.k t;refine⟨_,_,rfl,(hg.bk.ra),?_⟩;refine gdi hp fun ng hp=>?_;refine gdi hp fun og hp=>?_;refine gdi hp fun pg hp=>?_;refine gdi hp fun qg hp=>?_;refine zqS hp (fun rg hp=>?_) fun rg hp=>?_; rotate_left
 ·obtain rfl:=oi hp;exact hq _ ha.ext'
 refine⟨_,_,Ma.bk.ra,_,_,kg.bk.ra,?_⟩;obtain⟨Ih,sg,hp⟩:=zqd hp;refine zzn (r:=h.2.1) ha.pre  sg fun ai tg=>?_;obtain⟨ia,A⟩:=ha.call tg w;have ug:=gg.k A;have vg:=Ma.k A;have Na:=ig.k A;have wg:=jg.k A;have xg:=lg.k A;have zg:=mg.k A;refine⟨_,_,rfl,(vg.bk.ra),?_⟩;refine gdi hp fun Ag hp=>?_;refine gdi hp fun Bg hp=>?_;refine gdi hp fun Cg hp=>?_;refine gdi hp fun Dg hp=>?_;refine zqS hp (fun Eg hp=>?_) fun Eg hp=>?_; rotate_left
 ·obtain rfl:=oi hp;exact hq _ ia.ext'
 refine⟨_,_,Na.bk.ra,_,_,xg.bk.ra,?_⟩;obtain⟨Jh,Fg,hp⟩:=zqd hp;refine zzn (r:=h.2.2.1) ia.pre  Fg fun bi Gg=>?_;obtain⟨ja,Z⟩:=ia.call Gg w;have Hg:=ug.k Z;have Ig:=Na.k Z;have Oa:=wg.k Z;have Jg:=zg.k Z;refine⟨_,_,rfl,(Ig.bk.ra),?_⟩;refine gdi hp fun Kg hp=>?_;refine gdi hp fun Lg hp=>?_;refine gdi hp fun Mg hp=>?_;refine gdi hp fun Ng hp=>?_;refine zqS hp (fun Og hp=>?_) fun Og hp=>?_; rotate_left
 ·obtain rfl:=oi hp;exact hq _ ja.ext'
 refine⟨_,_,Oa.bk.ra,_,_,Jg.bk.ra,?_⟩;obtain⟨Kh,Pg,hp⟩:=zqd hp;refine zzn (r:=h.2.2.2) ja.pre  Pg fun ci Qg=>?_;obtain⟨ka,Pa⟩:=ja.call Qg w;have Sg:=Hg.k Pa;have Tg:=Oa.k Pa;refine⟨_,_,rfl,(Tg.bk.ra),?_⟩;refine gdi hp fun Ug hp=>?_;refine gdi hp fun Vg hp=>?_;refine gdi hp fun Wg hp=>?_;refine gdi hp fun Xg hp=>?_;refine zqS hp (fun Zg hp=>?_) fun Zg hp=>?_; rotate_left
 ·obtain rfl:=oi hp;exact hq _ ka.ext'
 refine⟨_,_,_,_,Sg.bk.ra,?_⟩;obtain⟨ah,bh,hp⟩:=zqd hp;refine zzm (c:=c) ka.pre (ha100.sub (Sub.trans (Sub.trans (Sub.trans (Sub.trans d.fs e.fs) g.fs) i.fs) j.fs)) (ha103.sub (Sub.trans (Sub.trans (Sub.trans (Sub.trans d.fs e.fs) g.fs) i.fs) j.fs)) bh fun ei Lh Mh ch dh=>?_;obtain⟨Qa,eh⟩:=ka.callG ch w;refine⟨_,rfl,?_⟩;obtain⟨Nh,fh,hp⟩:=zqd hp;refine zxk (a:=Zc.1) (b:=ah) Qa.pre (fa.sub eh.fs) dh fh fun fi gh=>?_;obtain⟨la,Oh⟩:=Qa.call gh w;refine⟨_,rfl,?_⟩;refine zqS hp (fun hh hp=>?_) fun hh hp=>?_; rotate_left
 ·obtain rfl:=oi hp;exact hq _ la.ext'
 obtain⟨Ph,ih,hp⟩:=zqd hp;refine zBK la.pre  ih fun gi jh=>?_;obtain⟨kh,Qh⟩:=la.call jh w;refine⟨_,rfl,?_⟩;obtain rfl:=oi hp;exact hq _ kh.ext'
def seg(lo:Int):Nat->List Int
 | 0=>[]
 | n+1=>lo::seg (lo+1) n
theorem zBS{x:Int}:∀{n:Nat} {lo:Int},x∈seg lo n↔lo<=x/\x < lo+n
 | 0,lo=>by simp[seg]
 | n+1,lo=>by
  unfold seg;rw[List.mem_cons,zBS]; omega
theorem zBT:∀{n:Nat} {lo:Int},(seg lo n).length=n
 | 0,_=>rfl
 | n+1,lo=>by unfold seg; rw[List.length_cons,zBT]
def zBU(c:Clm):List Tr:=(seg c.Day.Lo (c.Day.Hi - c.Day.Lo+1).toNat).flatMap fun d=>(seg c.Count.Lo (c.Count.Hi - c.Count.Lo+1).toNat).map fun n=>⟨d,n⟩
theorem zBV{c:Clm}(h1:c.Day.Lo<=c.Day.Hi)(h2:c.Count.Lo<=c.Count.Hi){t:Tr}:t∈zBU c↔zBm c t:=by
 unfold zBU zBm;rw[List.mem_flatMap]
 constructor
 ·rintro⟨d,hd,ht⟩
  obtain⟨n,hn,rfl⟩:=List.mem_map.1 ht;have hd:=zBS.1 hd;have hn:=zBS.1 hn
  dsimp only
  omega
 ·intro⟨h3,h4⟩;exact⟨t.Day,zBS.2 (by omega),List.mem_map.2 ⟨t.Count,zBS.2 (by omega),rfl⟩⟩
theorem zBW{c:Clm}{x:Int}(hx:-1000<=x/\x<=1000)(hh:-1000<=c.Count.Lo/\c.Count.Hi<=1000){K:Int->Option (List Tr)}{r:List Tr}(hK:K (x+1)=some r):∀(d n:Nat) (k:Int),c.Count.Lo<=k->n < d->k+n=c.Count.Hi+1->zto c x K d k=some ((seg k n).map (fun n=>⟨x,n⟩)++r)
 | 0,n,k,_,h,_=>by omega
 | d+1,0,k,_,_,hk=>by
  rw[zto,if_neg (by omega),zqf (fI (by omega)),hK]; rfl
 | d+1,n+1,k,h0,h,hk=>by
  rw[zto,if_pos (by omega),zqf (fI (by omega)),zBW hx hh hK d n (k+1) (by omega) (by omega) (by omega),obs]; rfl
theorem zBX{c:Clm}(hd:-1000<=c.Day.Lo/\c.Day.Hi<=1000)(hh:-1000<=c.Count.Lo/\c.Count.Hi<=1000)(h2:c.Count.Lo<=c.Count.Hi):∀(d n:Nat) (x:Int),c.Day.Lo<=x->n < d->x+n=c.Day.Hi+1->ztp c d x=some ((seg x n).flatMap fun d=>(seg c.Count.Lo (c.Count.Hi - c.Count.Lo+1).toNat).map fun n=>⟨d,n⟩)
 | 0,n,x,_,h,_=>by omega
 | d+1,0,x,_,_,hx=>by rw[ztp,if_neg (by omega)]; rfl
 | d+1,n+1,x,h0,h,hx=>by
  rw[ztp,if_pos (by omega),zBW (by omega) hh (zBX hd hh h2 d n (x+1) (by omega) (by omega) (by omega)) _ (c.Count.Hi - c.Count.Lo+1).toNat c.Count.Lo (Int.le_refl _) (by omega) (by omega)]; rfl
theorem zBY{l:List Tf}{c:Clm}(h:zBj l c):ztr c=some (zBU c):=by
 have h1:=h.day;have h2:=h.cnt;unfold ztr ztq;rw[zBX (by omega) (by omega) (by omega) _ (c.Day.Hi - c.Day.Lo+1).toNat c.Day.Lo (Int.le_refl _) (by omega) (by omega)]; rfl
theorem zBZ{l:List Tf}{c:Clm}(h:zBj l c):0 < (zBU c).length/\(zBU c).length<=1111:=by
 have h1:=h.day;have h2:=h.cnt
 have:(zBU c).length=(c.Day.Hi - c.Day.Lo+1).toNat * (c.Count.Hi - c.Count.Lo+1).toNat:=by
  unfold zBU;rw[List.length_flatMap]
  simp only[List.length_map,zBT]
  generalize (c.Day.Hi - c.Day.Lo+1).toNat=n;generalize (c.Count.Hi - c.Count.Lo+1).toNat=k;generalize c.Day.Lo=x
  induction n generalizing x with
  | zero=>simp[seg]
  | succ n ih=>unfold seg; rw[List.map_cons,List.sum_cons,ih,Nat.succ_mul]; omega
 rw[this]
 have a1:1<=(c.Day.Hi - c.Day.Lo+1).toNat:=by omega
 have a2:(c.Day.Hi - c.Day.Lo+1).toNat<=11:=by omega
 have a3:1<=(c.Count.Hi - c.Count.Lo+1).toNat:=by omega
 have a4:(c.Count.Hi - c.Count.Lo+1).toNat<=101:=by omega
 exact⟨Nat.mul_pos a1 a3,Nat.mul_le_mul a2 a4⟩
def zB0(l:List Tf)(c:Clm):Rg:=⟨zrh ((zBU c).map (zBo l c)),zri ((zBU c).map (zBo l c))⟩
theorem zB1{l:List Tf}(hf:zzY l=0){c:Clm}(hc:zBj l c){t:Tr}(ht:zBm c t):0<=zBo l c t/\zBo l c t<=100000:=by
 have hp:=zBs hf (zBr hc ht);have hv:=zBt hc.val hp;unfold zBo
 dsimp only at hv
 omega
theorem zB2{l:List Tf}(hf:zzY l=0){c:Clm}(hc:zBj l c){w:Wk}(hw:w.tariffs=l):∀(ts:List Tr) (acc:List Int) (M:Option (Ht->Option Int)),(∀t∈ts,zBm c t)->zBc l M->ts.length+acc.length<=1111->acc++ts.map (zBo l c) ≠ [] ->
  ∃M',zts w c ts acc M=some (⟨zrh (acc++ts.map (zBo l c)),zri (acc++ts.map (zBo l c))⟩,M')/\zBc l M'
 | [],acc,M,_,hM,hl,hne=>by
  rw[List.map_nil,List.append_nil] at hne ⊢;have hs:zre acc:=Nat.le_trans (Nat.le_trans (Nat.le_add_left _ _) hl) (by omega);refine⟨M,?_,hM⟩;rw[zts,zBx hne (by have:=hs.lt; omega),obs,zBy hne (by have:=hs.lt; omega),obs]
 | t::ts,acc,M,hts,hM,hl,hne=>by
  obtain⟨M1,h1,h2⟩:=zBu hf hM hc (hts t (List.mem_cons_self ..));rw[List.length_cons] at hl;obtain⟨M',h3,h4⟩:=zB2 hf hc hw ts (acc++[zBo l c t]) M1 (fun u hu=>hts u (List.mem_cons_of_mem _ hu)) h2 (by rw[List.length_append]; simp; omega) (by simp);refine⟨M',?_,h4⟩;rw[zts,hw,h1,obs]
  dsimp only
  rw[zqf (by omega),h3,List.append_assoc]; rfl
theorem zB3{l:List Tf}(hf:zzY l=0){c:Clm}(hc:zBj l c){M:Option (Ht->Option Int)}(hM:zBc l M):∃M',ztt ⟨l,M⟩ c=some (zB0 l c,M')/\zBc l M':=by
 have h1:=hc.day;have h2:=hc.cnt;have hlen:=zBZ hc;unfold ztt;rw[zBY hc,obs]
 exact zB2 hf hc rfl (zBU c) [] M (fun t ht=>(zBV (by omega) (by omega)).1 ht) hM (by simp; omega) (by
  intro e;rw[List.nil_append] at e;rw[List.map_eq_nil_iff.1 e] at hlen
  exact absurd hlen.1 (by simp))
theorem zB4{l:List Tf}(hf:zzY l=0){c:Clm}(hc:zBj l c):ztu l c=some (zB0 l c,0):=by
 obtain⟨M',h1,_⟩:=zB3 hf hc zBg;unfold ztu;rw[zBp hf (by simp) (zBv.2 hc),obs,if_pos rfl,h1,obs]
theorem zB5{l:List Tf}(hf:zzY l=0){c:Clm}(hc:¬ zBj l c):ztu l c=some (⟨0,0⟩,2):=by
 unfold ztu;rw[zBq hf (by simp) (by rw[zBv]; exact hc),obs,if_neg (by decide)]
structure zB6 (r:Rg):Prop where
 lo:0<=r.Lo
 le:r.Lo<=r.Hi
 hi:r.Hi<=100
 wd:r.Hi - r.Lo<=4
theorem zB7{r:Rg}:zB6 r↔0<=r.Lo/\r.Lo<=r.Hi/\r.Hi<=100/\r.Hi - r.Lo<=4:=⟨fun h=>⟨h.1,h.2,h.3,h.4⟩,fun⟨a,b,c,d⟩=>⟨a,b,c,d⟩⟩
structure zB8 (l:List Tf) (f:Fld):Prop where
 crop:0<=f.Crop/\f.Crop < zzV l
 val:0<=f.Value/\f.Value<=100000
 near:0<=f.Near/\f.Near<=100
 fst:zB6 f.First
 snd:zB6 f.Second
 ump:zB6 f.Umpire
structure zB9 (c:Cse):Prop where
 tar:zzY c.Tariffs=0
 len:c.Fields.length<=3
 day:0<=c.Day/\c.Day<=120
 fee:0<=c.Fee/\c.Fee<=10000
 fld:∀f∈c.Fields,zB8 c.Tariffs f
open Classical in
def zCa(c:Cse):Int:=if zzY c.Tariffs=0 then (if 3 < c.Fields.length then 3 else if zB9 c then 0 else 1) else zzY c.Tariffs
theorem zCb{c:Cse}:zCa c=0↔zB9 c:=by
 unfold zCa
 constructor
 ·intro h
  split at h
  ·split at h
   ·cases h
   ·split at h
    ·assumption
    ·cases h
  ·rename_i h1; exact absurd h h1
 ·intro h;rw[if_pos h.tar,if_neg (by have:=h.len; omega),if_pos h]
theorem zCc{r:Rg}{n:Int}:Ev (ztw r n) (r.Lo<=n/\n<=r.Hi):=Ev.ite fun _=>Ev.dec Iff.rfl
theorem zCd{n:Int}:Ev (ztx n) (0<=n/\n<=100):=zCc.ret
theorem zCe{r:Rg}:Ev (zty r) (zB6 r):=
 (Ev.and zCd fun h1=>Ev.and zCd fun h2=>Ev.ite fun _=>Ev.gd (fI (by omega)) (Ev.dec Iff.rfl)).imp ((show _↔_ from by omega).trans zB7.symm)
theorem gR{l:List Rg}{p:Rg->Option Bool}:∀{d:Nat} {x:Int},ztA l p d x=gIdx l p d x
 | 0,_=>rfl
 | d+1,x=>by unfold ztA gIdx; simp only[gR]
theorem gF{l:List Fld}{p:Fld->Option Bool}:∀{d:Nat} {x:Int},ztF l p d x=gIdx l p d x
 | 0,_=>rfl
 | d+1,x=>by unfold ztF gIdx; simp only[gF]
theorem zCf{l:List Rg}{p:Rg->Option Bool}{q:Rg->Prop}(hp:∀a∈l,Ev (p a) (q a))(hl:zre l):Ev (ztD l p) (∀a∈l,q a):=Ev.each hp hl.lt gR
theorem zCg{l:List Fld}{p:Fld->Option Bool}{q:Fld->Prop}(hp:∀a∈l,Ev (p a) (q a))(hl:zre l):Ev (ztI l p) (∀a∈l,q a):=Ev.each hp hl.lt gF
def zCh(c:Cse)(f:Fld)(n:Int):Clm:={ Crop:=f.Crop,Value:=f.Value,Day:={ Lo:=c.Day,Hi:=c.Day },Count:={ Lo:=n,Hi:=n } }
theorem zCi{c:Cse}{f:Fld}{n:Int}(hd:0<=c.Day/\c.Day<=120)(hn:0<=n/\n<=100):zBj c.Tariffs (zCh c f n)↔(0<=f.Crop/\f.Crop < zzV c.Tariffs)/\(0<=f.Value/\f.Value<=100000):=
 ⟨fun h=>⟨h.crop,h.val⟩,fun h=>⟨h.1,h.2,by show 0<=c.Day/\c.Day<=c.Day/\c.Day<=120/\c.Day - c.Day<=10; omega,by show 0<=n/\n<=n/\n<=100; omega⟩⟩
theorem zCj{c:Cse}(ht:zzY c.Tariffs=0)(hd:0<=c.Day/\c.Day<=120){f:Fld}:Ev (zt0 c f) ((0<=f.Crop/\f.Crop < zzV c.Tariffs)/\(0<=f.Value/\f.Value<=100000)):=by
 refine Ev.bind rfl ?_
 by_cases h:zBj c.Tariffs (zCh c f 0)
 ·exact Ev.bind (zB4 ht h) (Ev.dec ⟨fun _=>(zCi hd (by omega)).1 h,fun _=>rfl⟩)
 ·exact Ev.bind (zB5 ht h) (Ev.dec ⟨fun h1=>(by cases h1),fun h2=>absurd ((zCi (n:=0) hd (by omega)).2 h2) h⟩)
theorem zCk{c:Cse}(ht:zzY c.Tariffs=0)(hd:0<=c.Day/\c.Day<=120){f:Fld}:Ev (zt1 c f) (zB8 c.Tariffs f):=
 (Ev.and (zCj ht hd) fun _=>Ev.and zCd fun _=>(zCf (fun _ _=>zCe) (show (3:Nat)<=_ by omega)).ret).imp
  ⟨fun⟨h1,h2,h3⟩=>⟨h1.1,h1.2,h2,h3 _ (by simp),h3 _ (by simp),h3 _ (by simp)⟩,fun h=>⟨⟨h.crop,h.val⟩,h.near,fun a ha=>by
   rcases List.mem_cons.1 ha with rfl | ha
   ·exact h.fst
   rcases List.mem_cons.1 ha with rfl | ha
   ·exact h.snd
   rcases List.mem_cons.1 ha with rfl | ha
   ·exact h.ump
   cases ha⟩⟩
theorem zCl{c:Cse}(ht:zzY c.Tariffs=0)(hl:c.Fields.length<=3):Ev (zt2 c) (zB9 c):=
 (Ev.and zCc fun h1=>Ev.and zCc fun _=>(zCg (fun _ _=>zCk ht h1) (Nat.le_trans hl (by omega))).ret).imp
  ⟨fun⟨h1,h2,h3⟩=>⟨ht,hl,h1,h2,h3⟩,fun h=>⟨h.day,h.fee,h.fld⟩⟩
theorem zCm{c:Cse}:zt6 c=some (zCa c):=by
 unfold zt6 zCa;rw[zAF,obs]
 by_cases h:zzY c.Tariffs=0
 ·rw[if_pos h,if_pos h]
  by_cases h3:3 < c.Fields.length
  ·rw[if_pos (by omega),if_pos h3]
  ·rw[if_neg (by omega),if_neg h3]
   exact Ev.pick (zCl h (by omega)) (fun hc=>by rw[if_pos rfl,if_pos hc]) fun hc=>by rw[zqg rfl,if_neg hc]
 ·rw[if_neg h,if_neg h]
theorem zCn{r:Rg}:Ev (zux r) (zB6 r):=
 (Ev.ite fun _=>Ev.ite fun _=>Ev.ite fun _=>Ev.gd (fI (by omega)) (Ev.dec Iff.rfl)).imp zB7.symm
theorem zCo{l:List Tf}(h:zzY l=0):l ≠ []:=fun e=>by
 have:=(zBe h).1;rw[e] at this;exact absurd this (by decide)
theorem zCp{β:Type}{o:Option Bool}{P Q:Prop}{k A B:Option β}(h:Ev o P)(hk:P->(Q->k=A)/\(¬ Q->k=B)):(P/\Q->(o.bind fun r=>if r=true then k else B)=A)/\(¬ (P/\Q)->(o.bind fun r=>if r=true then k else B)=B):=by
 obtain⟨b,h1,h2⟩:=h;rw[h1,obs]
 cases b with
 | true=>
  have hp:=h2.1 rfl;exact⟨fun hq=>(hk hp).1 hq.2,fun hn=>(hk hp).2 fun hq=>hn ⟨hp,hq⟩⟩
 | false=>exact⟨fun hq=>(by have:=h2.2 hq.1; cases this),fun _=>rfl⟩
theorem zCq{c:Cse}(ht:zzY c.Tariffs=0)(hl:c.Fields.length<=3):((∀f∈c.Fields,zB8 c.Tariffs f)->zuy c 1000000 0=some 0)/\(¬ (∀f∈c.Fields,zB8 c.Tariffs f)->zuy c 1000000 0=some 1):=by
 refine zrd (l:=c.Fields) (F:=fun d x=>zuy c d x) (bad:=some 1) (fin:=some 0) (fun d k f hk=>?_) (fun d=>by rw[zuy,if_neg (Int.lt_irrefl _)]) (by omega);have hkl:=(List.getElem?_eq_some_iff.1 hk).1;have hc:=zBe ht;rw[zuy,if_pos (by omega),zq3 hk,obs,zA0 (zCo ht),obs,zqf (fI (by omega))]
 have key:=zCp (zz5 (n:=f.Crop) (lo:=0) (hi:=(zzV c.Tariffs:Int) - 1)) fun _=>zCp (zz5 (n:=f.Value) (lo:=0) (hi:=100000)) fun _=>zCp (zz5 (n:=f.Near) (lo:=0) (hi:=100)) fun _=>zCp (zCn (r:=f.First)) fun _=>zCp (zCn (r:=f.Second)) fun _=>
  zCp (β:=Int) (Q:=True) (k:=gd (zl0 .i64 ((k:Int)+1)) (zuy c d ((k:Int)+1))) (A:=zuy c d ((k:Int)+1)) (B:=some 1) (zCn (r:=f.Umpire)) fun _=>⟨fun _=>zqf (fI (by omega)),fun h=>absurd trivial h⟩
 refine⟨fun h=>key.1 ⟨⟨h.crop.1,by have:=h.crop.2; omega⟩,h.val,h.near,h.fst,h.snd,h.ump,trivial⟩,fun h=>key.2 fun h'=>h ⟨⟨h'.1.1,by have:=h'.1.2; omega⟩,h'.2.1,h'.2.2.1,h'.2.2.2.1,h'.2.2.2.2.1,h'.2.2.2.2.2.1⟩⟩
theorem zCr{c:Cse}:zuz c=some (zCa c):=by
 unfold zuz zCa;rw[zAI,obs]
 by_cases h:zzY c.Tariffs=0
 ·rw[if_pos h,if_pos h]
  by_cases h3:3 < c.Fields.length
  ·rw[if_pos (by omega),if_pos h3]
  ·rw[if_neg (by omega),if_neg h3];have g:=zCq h (by omega);have key:=zCp (zz5 (n:=c.Day) (lo:=0) (hi:=120)) fun _=>zCp (zz5 (n:=c.Fee) (lo:=0) (hi:=10000)) fun _=>g
   by_cases hc:zB9 c
   ·rw[if_pos hc]; exact key.1 ⟨hc.day,hc.fee,hc.fld⟩
   ·rw[if_neg hc]; exact key.2 fun h'=>hc ⟨h,by omega,h'.1,h'.2.1,h'.2.2⟩
 ·rw[if_neg h,if_neg h]
theorem zCs{c:Cse}:zuX c=some (zCa c):=by unfold zuX; rw[zCr]; rfl
theorem zCt{c:Cse}:Ev (zuW c) (zAK c.Tariffs/\c.Fields.length<=6):=Ev.and zAO fun _=>Ev.dec (by omega)
theorem zCu{c:Cse}(hl:c.Fields.length<=6):∀(d k:Nat),k<=c.Fields.length->c.Fields.length - k < d->zuU c c.Tariffs d c.Day c.Fee (c.Fields.take k) (k:Int)=some c
 | 0,k,_,h=>by omega
 | d+1,k,hk,h=>by
  rw[zuU]
  by_cases hkl:k < c.Fields.length
  ·have hg:=List.getElem?_eq_getElem hkl;rw[if_pos (by omega),zq3 hg,obs]
   show gd ((c.Fields.take k).length < 1048576) _=_
   rw[zqf (by rw[List.length_take]; omega),zqf (fI (by omega)),show(k:Int)+1=((k+1:Nat):Int) by omega];have:=zCu hl d (k+1) hkl (by omega);rw[List.take_add_one,hg] at this;exact this
  ·rw[if_neg (by omega),List.take_of_length_le (by omega)]
theorem zCv{c:Cse}(ht:zAK c.Tariffs)(hl:c.Fields.length<=6):zuV c=some c:=by
 unfold zuV;rw[zAS ht,obs];exact zCu hl 1000000 0 (by omega) (by omega)
end
end Go.Proofs.YtnjbahoohfaplaaGreat

namespace Go.Proofs.YtnjbahoohfaplaaGreat
open _root_.Go.Proofs.Tryz
open Go.Abs
set_option maxRecDepth 100000
noncomputable section
structure zCw (f:Fld) (t:Thr):Prop where
 a:f.First.Lo<=t.First/\t.First<=f.First.Hi
 b:f.Second.Lo<=t.Second/\t.Second<=f.Second.Hi
 u:f.Umpire.Lo<=t.Umpire/\t.Umpire<=f.Umpire.Hi
structure zCx (t:Thr):Prop where
 a:0<=t.First/\t.First<=100
 b:0<=t.Second/\t.Second<=100
 u:0<=t.Umpire/\t.Umpire<=100
theorem zCw.rng{l:List Tf}{f:Fld}(h:zB8 l f){t:Thr}(ht:zCw f t):zCx t:=by
 have h1:=h.fst; have h2:=h.snd; have h3:=h.ump;have:=h1.lo; have:=h1.hi; have:=h2.lo; have:=h2.hi; have:=h3.lo; have:=h3.hi;have:=ht.a; have:=ht.b; have:=ht.u;exact⟨by omega,by omega,by omega⟩
def zCy(a b:Int):Int:=max a b - min a b
def zCz(f:Fld)(t:Thr):Prop:=f.Near < zCy t.First t.Second
instance (f:Fld) (t:Thr):Decidable (zCz f t):=by unfold zCz; infer_instance
def zCA(f:Fld)(t:Thr):Int:=if zCz f t then min (max t.Umpire (min t.First t.Second)) (max t.First t.Second) else (t.First+t.Second) / 2
def zCB(f:Fld)(t:Thr):Int:=if zCz f t then (if zCy t.Second (zCA f t) < zCy t.First (zCA f t) then 2 else if zCy t.First (zCA f t) < zCy t.Second (zCA f t) then 3 else 1) else 0
theorem zCC{a b:Int}(ha:0<=a/\a<=100)(hb:0<=b/\b<=100):ztK a b=some (zCy a b):=zqf (fI (by omega))
theorem zCD{f:Fld}{t:Thr}(h:zCx t):Ev (ztL f t) (zCz f t):=Ev.bind (zCC h.a h.b) (Ev.dec Iff.rfl)
theorem zCE{f:Fld}{t:Thr}:min t.First t.Second<=zCA f t/\zCA f t<=max t.First t.Second:=by
 unfold zCA
 split <;> omega
theorem zCF{f:Fld}{t:Thr}(h:zCx t):0<=zCA f t/\zCA f t<=100:=by
 have:=@zCE f t;have:=h.a; have:=h.b
 omega
theorem zCG{f:Fld}{t:Thr}(h:zCx t):ztM f t=some (zCA f t):=by
 have h1:=h.a; have h2:=h.b;unfold zCA
 exact Ev.pick (zCD h) (fun hc=>by rw[if_pos rfl,if_pos hc]) fun hc=>by
  rw[zqg rfl,if_neg hc,zqf (fI (by omega)),zqf (by omega),zqf (by omega),zqf (fI (by omega))]
theorem zCH{f:Fld}{t:Thr}(h:zCx t):ztN f t=some (zCB f t):=by
 have hs:=zCF (f:=f) h;unfold ztN;rw[zCG h,obs,zCC h.a hs,obs,zCC h.b hs,obs];unfold zCB
 refine Ev.pick (zCD h) (fun hc=>?_) fun hc=>by rw[zqg rfl,if_neg hc]
 rw[if_pos rfl,if_pos hc]
 split
 ·rfl
 ·split <;> rfl
theorem zCI{f:Fld}{t:Thr}:0<=zCB f t/\zCB f t < 4:=by
 unfold zCB
 repeat' split
 all_goals omega
def cnt(r:Rg):Nat:=(r.Hi - r.Lo+1).toNat
def zCJ(f:Fld):List Thr:=(segI f.First.Lo (cnt f.First)).flatMap fun a=>(segI f.Second.Lo (cnt f.Second)).flatMap fun b=>(segI f.Umpire.Lo (cnt f.Umpire)).map fun u=>⟨a,b,u⟩
theorem zCK{r:Rg}(h:zB6 r){x:Int}:x∈segI r.Lo (cnt r)↔r.Lo<=x/\x<=r.Hi:=by
 have:=h.le;rw[zrn]; unfold cnt; omega
theorem zCL{r:Rg}(h:zB6 r):0 < cnt r/\cnt r<=5:=by
 have:=h.le; have:=h.wd;unfold cnt; omega
theorem zCM{l:List Tf}{f:Fld}(h:zB8 l f){t:Thr}:t∈zCJ f↔zCw f t:=by
 unfold zCJ
 simp only[List.mem_flatMap,List.mem_map,zCK h.fst,zCK h.snd,zCK h.ump]
 constructor
 ·rintro⟨a,ha,b,hb,u,hu,rfl⟩; exact⟨ha,hb,hu⟩
 ·intro ht; exact⟨_,ht.a,_,ht.b,_,ht.u,rfl⟩
theorem zCN{l:List Tf}{f:Fld}(h:zB8 l f):0 < (zCJ f).length/\(zCJ f).length<=125:=by
  have h1:=zCL h.fst; have h2:=zCL h.snd; have h3:=zCL h.ump
  have e:(zCJ f).length=cnt f.First * (cnt f.Second * cnt f.Umpire):=by
    unfold zCJ
    simp[List.length_flatMap,zro,List.map_const',List.sum_replicate_nat]
  rw[e];refine⟨Nat.mul_pos h1.1 (Nat.mul_pos h2.1 h3.1),?_⟩
  calc cnt f.First * (cnt f.Second * cnt f.Umpire)<=5 * (5 * 5):=Nat.mul_le_mul h1.2 (Nat.mul_le_mul h2.2 h3.2)
    _=125:=rfl
theorem zCO{f:Fld}(h:zB6 f.Umpire){x y:Int}(hy:-1000<=y/\y<=1000){K:Int->Option (List Thr)}{r:List Thr}(hK:K (y+1)=some r):∀(d n:Nat) (k:Int),f.Umpire.Lo<=k->n < d->k+n=f.Umpire.Hi+1->ztO f x y K d k=some ((segI k n).map (fun u=>⟨x,y,u⟩)++r)
 | 0,n,k,_,h2,_=>by omega
 | d+1,0,k,_,_,h3=>by
  rw[ztO,if_neg (by omega),zqf (fI (by omega)),hK]; rfl
 | d+1,n+1,k,h1,h2,h3=>by
  have:=h.lo; have:=h.hi;rw[ztO,if_pos (by omega),zqf (fI (by omega)),zCO h hy hK d n (k+1) (by omega) (by omega) (by omega)]
  rfl
theorem zCP{f:Fld}(hu:zB6 f.Umpire)(h:zB6 f.Second){x:Int}(hx:-1000<=x/\x<=1000){K:Int->Option (List Thr)}{r:List Thr}(hK:K (x+1)=some r):∀(d n:Nat) (k:Int),f.Second.Lo<=k->n < d->k+n=f.Second.Hi+1->ztP f x K d k=some ((segI k n).flatMap (fun b=>(segI f.Umpire.Lo (cnt f.Umpire)).map fun u=>⟨x,b,u⟩)++r)
 | 0,n,k,_,h2,_=>by omega
 | d+1,0,k,_,_,h3=>by
  rw[ztP,if_neg (by omega),zqf (fI (by omega)),hK]; rfl
 | d+1,n+1,k,h1,h2,h3=>by
  have:=h.lo; have:=h.hi; have:=hu.le;have:=zCL hu;rw[ztP,if_pos (by omega),zCO hu (by omega) (zCP hu h hx hK d n (k+1) (by omega) (by omega) (by omega)) 1000000 (cnt f.Umpire) f.Umpire.Lo (by omega) (by omega) (by unfold cnt; omega)]
  simp only[segI,List.flatMap_cons,List.append_assoc]
theorem zCQ{f:Fld}(hu:zB6 f.Umpire)(hs:zB6 f.Second)(h:zB6 f.First):∀(d n:Nat) (k:Int),f.First.Lo<=k->n < d->k+n=f.First.Hi+1->ztQ f d k=some ((segI k n).flatMap fun a=>(segI f.Second.Lo (cnt f.Second)).flatMap fun b=>(segI f.Umpire.Lo (cnt f.Umpire)).map fun u=>⟨a,b,u⟩)
 | 0,n,k,_,h2,_=>by omega
 | d+1,0,k,_,_,h3=>by
  rw[ztQ,if_neg (by omega)]; rfl
 | d+1,n+1,k,h1,h2,h3=>by
  have:=h.lo; have:=h.hi; have:=hs.le;have:=zCL hs;rw[ztQ,if_pos (by omega),zCP hu hs (by omega) (zCQ hu hs h d n (k+1) (by omega) (by omega) (by omega)) 1000000 (cnt f.Second) f.Second.Lo (by omega) (by omega) (by unfold cnt; omega)]
  simp only[segI,List.flatMap_cons]
theorem zCR{l:List Tf}{f:Fld}(h:zB8 l f):ztS f=some (zCJ f):=by
 have:=zCL h.fst; have:=h.fst.le;unfold ztS ztR;rw[zCQ h.ump h.snd h.fst 1000000 (cnt f.First) f.First.Lo (by omega) (by omega) (by unfold cnt; omega)]; rfl
def zCS(c:Cse)(f:Fld)(n:Int):Int:=f.Value * zz3 c.Tariffs f.Crop c.Day n / 100
def zCT(c:Cse)(M:Option (Clm->Option Int)):Prop:=∃g,M=some g/\∀k v,g k=some v->v=zBo c.Tariffs k ⟨c.Day,k.Count.Lo⟩
theorem zCU{c:Cse}:zCT c (some fun _=>none):=⟨_,rfl,fun _ _ h=>by cases h⟩
theorem zCV{c:Cse}(hc:zB9 c){f:Fld}(hf:zB8 c.Tariffs f){n:Int}(hn:0<=n/\n<=100):0<=zCS c f n/\zCS c f n<=100000:=
 zB1 hc.tar ((zCi hc.day hn).2 ⟨hf.crop,hf.val⟩) (t:=⟨c.Day,n⟩) ⟨⟨Int.le_refl _,Int.le_refl _⟩,Int.le_refl _,Int.le_refl _⟩
theorem zCW{c:Cse}(hc:zB9 c){f:Fld}(hf:zB8 c.Tariffs f){n:Int}(hn:0<=n/\n<=100):MK.fit (zCh c f n):=by
 have h1:=hf.crop; have h2:=hf.val; have h3:=hc.day; have h4:=zBe hc.tar;exact⟨fI (n:=f.Crop) (by omega),fI (n:=f.Value) (by omega),fI (n:=c.Day) (by omega),fI (n:=c.Day) (by omega),fI (n:=n) (by omega),fI (n:=n) (by omega),trivial⟩
theorem zCX{c:Cse}(hc:zB9 c){M:Option (Clm->Option Int)}(hM:zCT c M){f:Fld}(hf:zB8 c.Tariffs f){n:Int}(hn:0<=n/\n<=100):∃M',zug ⟨c,M⟩ f n=some (zCS c f n,M')/\zCT c M':=by
 obtain⟨g,rfl,hg⟩:=hM;have hcl:=(zCi (f:=f) hc.day hn).2 ⟨hf.crop,hf.val⟩;have hfit:=zCW hc hf hn;unfold zug;rw[show ztZ (UWk.mk c (some g)).c f n=some (zCh c f n) from rfl,obs,zqf hfit]
 cases hk:g (zCh c f n) with
 | some v=>
  rw[zqK (show zqz (UWk.mk c (some g)).payments (zCh c f n)=some v from hk)];refine⟨_,?_,g,rfl,hg⟩;rw[hg _ _ hk]; rfl
 | none=>
  rw[zqJ (show zqz (UWk.mk c (some g)).payments (zCh c f n)=none from hk)];have hp:ztv (UWk.mk c (some g)).c.Tariffs (zCh c f n) ⟨(UWk.mk c (some g)).c.Day,n⟩=some (zCS c f n,0):=zBw hc.tar hcl (t:=⟨c.Day,n⟩) ⟨⟨Int.le_refl _,Int.le_refl _⟩,Int.le_refl _,Int.le_refl _⟩;rw[hp,obs,zqf hfit];refine⟨_,rfl,_,rfl,fun k v h=>?_⟩
  dsimp only at h
  split at h
  ·rename_i he; subst he; cases h; rfl
  ·exact hg k v h
def ocN(c:Cse)(f:Fld)(t:Thr):Oc:=⟨zCS c f (zCA f t),zCB f t⟩
theorem zCY{c:Cse}(hc:zB9 c){M:Option (Clm->Option Int)}(hM:zCT c M){f:Fld}(hf:zB8 c.Tariffs f){t:Thr}(ht:zCw f t):∃M',zuh ⟨c,M⟩ f t=some (ocN c f t,M')/\zCT c M':=by
 have hr:=ht.rng hf;obtain⟨M',h1,h2⟩:=zCX hc hM hf (zCF (f:=f) hr);refine⟨M',?_,h2⟩;unfold zuh;rw[zCG hr,obs,h1,obs,zCH hr]; rfl
structure zCZ (o:Oc):Prop where
 p:0<=o.pence/\o.pence<=100000
 l:0<=o.loser/\o.loser < 4
theorem zC0{c:Cse}(hc:zB9 c){f:Fld}(hf:zB8 c.Tariffs f){t:Thr}(ht:zCw f t):zCZ (ocN c f t):=⟨zCV hc hf (zCF (ht.rng hf)),zCI⟩
theorem zCZ.fit{o:Oc}(h:zCZ o):MK.fit o:=⟨fI (by have:=h.p; omega),fI (by have:=h.l; omega),trivial⟩
def zC1(v:Ver)(o:Oc):Ver:=⟨v.fee,v.pence+o.pence,⟨v.fields.f0+(if o.loser=0 then 1 else 0),v.fields.f1+(if o.loser=1 then 1 else 0),v.fields.f2+(if o.loser=2 then 1 else 0),v.fields.f3+(if o.loser=3 then 1 else 0)⟩⟩
structure zC2 (k:Int) (v:Ver):Prop where
 fee:0<=v.fee/\v.fee<=10000
 p:0<=v.pence/\v.pence<=100000 * k
 f0:0<=v.fields.f0/\v.fields.f0<=k
 f1:0<=v.fields.f1/\v.fields.f1<=k
 f2:0<=v.fields.f2/\v.fields.f2<=k
 f3:0<=v.fields.f3/\v.fields.f3<=k
theorem zC3{k:Int}{v:Ver}(h:zC2 k v){o:Oc}(ho:zCZ o):zC2 (k+1) (zC1 v o):=by
 have:=ho.p; have:=h.p; have:=h.f0; have:=h.f1; have:=h.f2; have:=h.f3;refine⟨h.fee,?_,?_,?_,?_,?_⟩
 ·show 0<=v.pence+o.pence/\v.pence+o.pence<=100000 * (k+1); omega
 all_goals (simp only[zC1]; split <;> omega)
theorem zC4{k:Int}(hk:k<=1000){v:Ver}(h:zC2 k v){o:Oc}(ho:zCZ o):zt9 v o=some (zC1 v o):=by
 have h1:=ho.p; have h2:=h.p; have h3:=h.f0; have h4:=h.f1; have h5:=h.f2; have h6:=h.f3; have h7:=ho.l;obtain⟨op,ol⟩:=o
 dsimp only at h1 h7
 have hcase:ol=0\/ol=1\/ol=2\/ol=3:=by omega
 unfold zt9;rw[zqf (fI (by dsimp only; omega))]
 rcases hcase with rfl | rfl | rfl | rfl
 ·rw[zq6 rfl,obs,zqf (fI (by omega)),zqf (by omega)]
  simp[sti,zC1]
 ·rw[show idx [v.fields.f0,v.fields.f1,v.fields.f2,v.fields.f3] (1:Int)=some v.fields.f1 from rfl,obs,zqf (fI (by omega)),zqf (by omega)]
  simp[sti,zC1]
 ·rw[show idx [v.fields.f0,v.fields.f1,v.fields.f2,v.fields.f3] (2:Int)=some v.fields.f2 from rfl,obs,zqf (fI (by omega)),zqf (by omega)]
  simp[sti,zC1]
 ·rw[show idx [v.fields.f0,v.fields.f1,v.fields.f2,v.fields.f3] (3:Int)=some v.fields.f3 from rfl,obs,zqf (fI (by omega)),zqf (by omega)]
  simp[sti,zC1]
def zC5(v:Ver):Prop:=0 < v.fields.f1+v.fields.f2+v.fields.f3
instance (v:Ver):Decidable (zC5 v):=by unfold zC5; infer_instance
def zC6(v:Ver):Int:=if zC5 v then (if v.fields.f2 < v.fields.f3 then 0 else if v.fields.f3 < v.fields.f2 then v.fee else v.fee - v.fee / 2) else 0
def zC7(v:Ver):Int:=if zC5 v then v.fee - zC6 v else 0
theorem zC8{k:Int}(hk:k<=1000){v:Ver}(h:zC2 k v):Ev (zua v) (zC5 v):=by
 have h4:=h.f1; have h5:=h.f2; have h6:=h.f3;unfold zua;rw[show idx [v.fields.f0,v.fields.f1,v.fields.f2,v.fields.f3] (1:Int)=some v.fields.f1 from rfl,obs,show idx [v.fields.f0,v.fields.f1,v.fields.f2,v.fields.f3] (2:Int)=some v.fields.f2 from rfl,obs,zqf (fI (by omega)),show idx [v.fields.f0,v.fields.f1,v.fields.f2,v.fields.f3] (3:Int)=some v.fields.f3 from rfl,obs,zqf (fI (by omega))];exact Ev.dec Iff.rfl
theorem zC9{k:Int}(hk:k<=1000){v:Ver}(h:zC2 k v):zuc v=some (zC6 v):=by
 have hf:=h.fee;unfold zuc zC6;rw[show idx [v.fields.f0,v.fields.f1,v.fields.f2,v.fields.f3] (2:Int)=some v.fields.f2 from rfl,obs,show idx [v.fields.f0,v.fields.f1,v.fields.f2,v.fields.f3] (3:Int)=some v.fields.f3 from rfl,obs]
 refine Ev.pick (zC8 hk h) (fun hc=>?_) fun hc=>by rw[zqg rfl,if_neg hc]
 rw[if_pos rfl,if_pos hc]
 split
 ·rfl
 ·split
  ·rfl
  ·rw[zqf (by omega),zqf (by omega),zqf (fI (by omega)),zqf (fI (by omega))]
theorem zDa{k:Int}{v:Ver}(h:zC2 k v):0<=zC6 v/\zC6 v<=v.fee:=by
 have:=h.fee;unfold zC6
 repeat' split
 all_goals omega
theorem zDb{k:Int}(hk:k<=1000){v:Ver}(h:zC2 k v):zud v=some (zC7 v):=by
 have hf:=h.fee; have hr:=zDa h;unfold zud zC7
 refine Ev.pick (zC8 hk h) (fun hc=>?_) fun hc=>by rw[zqg rfl,if_neg hc]
 rw[if_pos rfl,if_pos hc,zC9 hk h,obs,zqf (fI (by omega))]
theorem zDc{k:Int}{v:Ver}(h:zC2 k v):0<=zC7 v/\zC7 v<=v.fee:=by
 have:=h.fee; have:=zDa h;unfold zC7
 split <;> omega
theorem zDd{k:Int}(hk:k<=1000){v:Ver}(h:zC2 k v):zue v=some (v.pence - zC6 v):=by
 have hf:=h.fee; have hr:=zDa h; have:=h.p;unfold zue zub;rw[obs,zC9 hk h,obs,zqf (fI (by omega))]
theorem zDe{k:Int}(hk:k<=1000){v:Ver}(h:zC2 k v):zuf v=some (v.pence+zC7 v):=by
 have hf:=h.fee; have hr:=zDc h; have:=h.p;unfold zuf zub;rw[obs,zDb hk h,obs,zqf (fI (by omega))]
def zDf:List Fld->List Thr->Prop
 | [],[]=>True
 | f::fs,t::ts=>zCw f t/\zDf fs ts
 | _,_=>False
theorem zDf.len:∀{fs:List Fld} {ts:List Thr},zDf fs ts->fs.length=ts.length
 | [],[],_=>rfl
 | _f::_fs,_t::_ts,h=>congrArg (· + 1) (zDf.len h.2)
theorem zDg{f:Fld}{t:Thr}:Ev (ztJ f t) (zCw f t):=
 (Ev.and zCc fun _=>Ev.and zCc fun _=>zCc.ret).imp ⟨fun h=>⟨h.1,h.2.1,h.2.2⟩,fun h=>⟨h.a,h.b,h.u⟩⟩
theorem zDh{α:Type}{l:List α}{k:Nat}(h:k < l.length):∃a,l[k]? = some a/\l.drop k=a::l.drop (k+1):=
 ⟨l[k],List.getElem?_eq_getElem h,List.drop_eq_getElem_cons h⟩
theorem zDi{c:Cse}{t:List Thr}(hl:c.Fields.length<=3)(he:t.length=c.Fields.length):∀(d k:Nat),k<=c.Fields.length->c.Fields.length - k < d->Ev (zt4 c t d (k:Int)) (zDf (c.Fields.drop k) (t.drop k))
 | 0,k,_,h=>by omega
 | d+1,k,hk,h=>by
  rw[zt4]
  by_cases hkl:k < c.Fields.length
  ·obtain⟨f,h1,h2⟩:=zDh hkl;obtain⟨x,h3,h4⟩:=zDh (l:=t) (k:=k) (by omega);rw[if_pos (by omega),zq3 h1,obs,zq3 h3,obs,h2,h4]
   exact Ev.and zDg fun _=>Ev.gd (fI (by omega)) (by
    rw[show(k:Int)+1=((k+1:Nat):Int) by omega]
    exact zDi hl he d (k+1) hkl (by omega))
  ·rw[if_neg (by omega),List.drop_eq_nil_of_le (by omega),List.drop_eq_nil_of_le (by omega)];exact Ev.tt trivial
theorem zDj{c:Cse}(hl:c.Fields.length<=3){t:List Thr}:Ev (zt5 c t) (zDf c.Fields t):=by
 unfold zt5
 by_cases he:t.length=c.Fields.length
 ·rw[if_pos (by omega)];exact zDi hl he (c.Fields.length+1) 0 (by omega) (by omega)
 ·rw[if_neg (by omega)];exact Ev.ff fun h=>he h.len.symm
def zDk(c:Cse):List Fld->List Thr->Ver->Ver
 | f::fs,t::ts,v=>zDk c fs ts (zC1 v (ocN c f t))
 | _,_,v=>v
def zDl:List Fld->List Thr->List Int
 | f::fs,t::ts=>zCA f t::zDl fs ts
 | _,_=>[]
def zDm(c:Cse)(ts:List Thr):Ver:=zDk c c.Fields ts ⟨c.Fee,0,⟨0,0,0,0⟩⟩
def zDn(c:Cse)(ts:List Thr):Res:=⟨zDl c.Fields ts,(zDm c ts).pence,zC6 (zDm c ts),zC7 (zDm c ts)⟩
theorem zDo{c:Cse}(hc:zB9 c):zC2 0 ⟨c.Fee,0,⟨0,0,0,0⟩⟩:=⟨hc.fee,by dsimp only; omega,by dsimp only; omega,by dsimp only; omega,by dsimp only; omega,by dsimp only; omega⟩
theorem zDp{c:Cse}(hc:zB9 c){t:List Thr}(he:t.length=c.Fields.length):∀(d k:Nat) (M:Option (Clm->Option Int)) (l:List Int) (v:Ver),k<=c.Fields.length->c.Fields.length - k < d->l.length=k->zDf (c.Fields.drop k) (t.drop k)->zCT c M->zC2 (k:Int) v->∀M0,
  ∃M',zuk ⟨c,M0⟩ t d l 0 0 0 v.fee v.pence v.fields.f0 v.fields.f1 v.fields.f2 v.fields.f3 M (k:Int)=some (⟨l++zDl (c.Fields.drop k) (t.drop k),(zDk c (c.Fields.drop k) (t.drop k) v).pence,zC6 (zDk c (c.Fields.drop k) (t.drop k) v),zC7 (zDk c (c.Fields.drop k) (t.drop k) v)⟩,M')/\zCT c M'
 | 0,k,_,_,_,_,h,_,_,_,_,_=>by omega
 | d+1,k,M,l,v,hk,h,hll,ht,hM,hv,M0=>by
  have hlen:=hc.len;rw[zuk]
  dsimp only
  by_cases hkl:k < c.Fields.length
  ·obtain⟨f,h1,h2⟩:=zDh hkl;obtain⟨x,h3,h4⟩:=zDh (l:=t) (k:=k) (by omega);rw[h2,h4] at ht ⊢;have hf:=hc.fld f (List.mem_of_getElem? h1);obtain⟨M1,g1,g2⟩:=zCY hc hM hf ht.1;rw[if_pos (by omega),zq3 h1,obs,zq3 h3,obs,zCG (ht.1.rng hf),obs,zqf (by omega),obs,g1,obs]
   dsimp only
   have hvw:=zC4 (k:=(k:Int)) (by omega) hv (zC0 hc hf ht.1);rw[show(⟨v.fee,v.pence,⟨v.fields.f0,v.fields.f1,v.fields.f2,v.fields.f3⟩⟩:Ver)=v from rfl,hvw,obs,zqf (fI (by omega)),show(k:Int)+1=((k+1:Nat):Int) by omega];have hok:=zC3 hv (zC0 hc hf ht.1);obtain⟨M',q1,q2⟩:=zDp hc he d (k+1) M1 (l++[zCA f x]) (zC1 v (ocN c f x)) hkl (by omega) (by simp; omega) ht.2 g2 (by rw[show((k+1:Nat):Int)=(k:Int)+1 by omega]; exact hok) M0;refine⟨M',?_,q2⟩;rw[q1]
   simp[zDl,zDk]
  ·rw[if_neg (by omega),List.drop_eq_nil_of_le (by omega),List.drop_eq_nil_of_le (by omega)];refine⟨M,?_,hM⟩;rw[show(⟨v.fee,v.pence,⟨v.fields.f0,v.fields.f1,v.fields.f2,v.fields.f3⟩⟩:Ver)=v from rfl]
   simp only[zub,obs,zC9 (k:=(k:Int)) (by omega) hv,zDb (k:=(k:Int)) (by omega) hv,zDl,zDk,List.append_nil]
theorem zDq{c:Cse}(hc:zB9 c){M:Option (Clm->Option Int)}(hM:zCT c M){t:List Thr}(ht:zDf c.Fields t):∃M',zul ⟨c,M⟩ t=some (zDn c t,M')/\zCT c M':=by
 obtain⟨M',h1,h2⟩:=zDp hc ht.len.symm (c.Fields.length+1) 0 M [] ⟨c.Fee,0,⟨0,0,0,0⟩⟩ (by omega) (by omega) rfl ht hM (zDo hc) M;exact⟨M',h1,h2⟩
theorem zDr{c:Cse}(hc:zB9 c):zt7 c=some (⟨c,some fun _=>none⟩,0):=by unfold zt7; rw[zCm,obs,zCb.2 hc,if_pos rfl]
theorem zDs{c:Cse}(hc:zCa c ≠ 0):zt7 c=some (⟨⟨[],0,0,[]⟩,none⟩,zCa c):=by unfold zt7; rw[zCm,obs,if_neg hc]
theorem zDt{c:Cse}(hc:zB9 c){t:List Thr}(ht:zDf c.Fields t):zut c t=some (zDn c t,0):=by
 obtain⟨M',h1,h2⟩:=zDq hc zCU ht;unfold zut;rw[zDr hc,obs,if_pos rfl,(zDj hc.len).some_of ht,obs,if_pos rfl,h1]; rfl
end
end Go.Proofs.YtnjbahoohfaplaaGreat

