/- An evaluator of the code of a program, its soundness, what calls ask, memory, and what functions of the program do. Condition: none; a lemma text of this claim. -/
import Derived.Test.YteojndcmgpiklaaGreatUdI

namespace Go.Proofs.YteojndcmgpiklaaGreat
open _root_.Go.Proofs.Tryz
open Go.Abs
set_option maxRecDepth 100000
noncomputable section
theorem zyU(a100 a200 a201 a202 a203 a204 a205:Int)(b0 b1 b2:Nat){m:M}{Q:V→M→Prop}(h:(∀m0:M,(m0=M.new m (AO.cells 6 [Il a200,Il a201,Il a202,Il a203,Il a204,Il a205] false))→∃c1:C,(ldC m0 (.ptr b0 0)=some c1) ∧  isSl c1∧ifB (decide (a100=(((slLen c1):Nat):Int))) (∃c2:C,(ldC m0 (.ptr b1 0)=some c2) ∧  ∃x3 x4 x5 x6 x7 x8,ldA m0 (.ptr m.nxt 0) 6=some [Il x3,Il x4,Il x5,Il x6,Il x7,Il x8]∧zmq prog tbl [(.agg 6 [Il x3,Il x4,Il x5,Il x6,Il x7,Il x8])] c2 m0 (fun v9 m10=> ∃b11:Bool,v9=.c (.bool b11)∧Q (.c (.bool b11)) m10)) (∃c12:C,ldC m0 (.ptr b0 0)=some c12∧∃n13:Nat,a100=((n13:Nat):Int)∧(n13 < (slLen c12)) ∧  ∃c14:C,ldC m0 (zl2 c12 (n13 * 1))=some c14∧∃y15:AO,(zl8 m0 c14=some y15) ∧  ∀m16:M,(m16=M.new m0 y15)→∀R17:List V→M→Prop,(∀b18:Bool,∀m19:M,(∃l20:List ((U × U) × M),nxM m19 (.ptr m0.nxt 0)=some l20∧((l20=[]) →  Q (.c (.bool true)) m19)∧∀u21:U,∀u22:U,∀m23:M,InL u21 u22 m23 l20 →  ∃x24 x25,∃u26:U,enM m23 (.ptr m0.nxt 0)=some ((.agg 2 [Il x24,Il x25]),u26)∧∀m27:M,(m27=M.new m23 (AO.cells 2 [Il 0,Il 0] false))→∃m28:M,stC m27 (.ptr m23.nxt 0) 2 [Il x24,Il x25]=some m28∧∃c29:C,(ldC m28 (.ptr b2 0)=some c29) ∧  zl0 .i64 (a100+1)∧∃x30 x31 x32,∃x33 x34 x35,ldA m28 (.ptr m.nxt 0) 6=some [Il x30,Il x31,Il x32,Il x33,Il x34,Il x35]∧∃x36 x37,ldA m28 (.ptr m23.nxt 0) 2=some [Il x36,Il x37]∧Wc prog tbl 86 [(.agg 6 [Il x30,Il x31,Il x32,Il x33,Il x34,Il x35]),(.agg 2 [Il x36,Il x37])] m28 (fun v38 m39=> ∃x40 x41 x42 x43 x44 x45,(v38=.agg 6 [Il x40,Il x41,Il x42,Il x43,Il x44,Il x45]) ∧  (ifB (cmC c29) (ldC m39 (.ptr b2 0)=some c29) False)∧zmq prog tbl [(.c (Il (a100+1))),(.agg 6 [Il x40,Il x41,Il x42,Il x43,Il x44,Il x45])] c29 m39 (fun v46 m47=> ∃b48:Bool,v46=.c (.bool b48)∧ifB (!b48) (Q (.c (.bool false)) m47) (R17 [(.c (.bool b18))] m47)))) →  R17 [(.c (.bool b18))] m19)→R17 [(.c (.bool false))] m16))):Wc prog tbl 132 [.c (Il a100),.agg 6 [Il a200,Il a201,Il a202,Il a203,Il a204,Il a205],.c (.ptr b0 0),.c (.ptr b1 0),.c (.ptr b2 0)] m Q:= zpB (n:=5) rfl (by kernel_rfl) (by kernel_rfl) h
theorem zyV(y:C)(b0:Nat){m:M}{Q:V→M→Prop}(h:(∀m0:M,(m0=M.new m (AO.cells 1 [y] false))→∀m1:M,(m1=M.new m0 (AO.cells 1 [C.sl0] false)) →  isPt (.ptr b0 0)∧isPt (.ptr b0 0)∧∃c2:C,ldC m1 (.ptr b0 3)=some c2∧isSl c2 ∧  ∀R3:List V→M→Prop,(∀x4:Int,∀m5:M,(ifB (decide (x4 < (((slLen c2):Nat):Int))) (∃n6:Nat,x4=((n6:Nat):Int)∧n6 < (slLen c2)∧∃x7 x8 x9 x10,∃x11 x12 x13 x14 x15,(ldA m5 (zl2 c2 (n6 * 9)) 9=some [Il x7,Il x8,Il x9,Il x10,Il x11,Il x12,Il x13,Il x14,Il x15]) ∧  ∀m16:M,(m16=M.new m5 (AO.cells 9 [Il 0,Il 0,Il 0,Il 0,Il 0,Il 0,Il 0,Il 0,Il 0] false))→∃m17:M,(stC m16 (.ptr m5.nxt 0) 9 [Il x7,Il x8,Il x9,Il x10,Il x11,Il x12,Il x13,Il x14,Il x15]=some m17) ∧  ∃c18:C,ldC m17 (.ptr m0.nxt 0)=some c18∧∃c19:C,∃x20 x21,∃c22:C,∃c23:C,ldA m17 (.ptr b0 0) 5=some [c19,Il x20,Il x21,c22,c23]∧∃x24,∃x25 x26 x27 x28 x29 x30,∃x31 x32,(ldA m17 (.ptr m5.nxt 0) 9=some [Il x24,Il x25,Il x26,Il x27,Il x28,Il x29,Il x30,Il x31,Il x32]) ∧  Wc prog tbl 131 [(.agg 5 [c19,Il x20,Il x21,c22,c23]),(.agg 9 [Il x24,Il x25,Il x26,Il x27,Il x28,Il x29,Il x30,Il x31,Il x32])] m17 (fun v33 m34=>∃c35:C,v33=.c c35∧(ifB (cmC c18) (ldC m34 (.ptr m0.nxt 0)=some c18) False) ∧  ∀m36:M,(m36=M.new m34 (AO.cells 1 [c35] false))→(ifB (cmC c18) (ldC m36 (.ptr m0.nxt 0)=some c18) False) ∧  ∃c37:C,∃m38:M,(ApR prog 196 m36 c18 (.sl m34.nxt 0 1 0 (some 1)) c37 m38) ∧  ∃m39:M,stC m38 (.ptr m0.nxt 0) 1 [c37]=some m39∧zl0 .i64 (x4+1) ∧  R3 [(.c (Il (x4+1)))] m39)) (∀m40:M,(m40=M.new m5 (AO.cells 1 [C.nilFn] false))→∃m41:M,stC m40 (.ptr m5.nxt 0) 1 [(C.fn (Fn.func 132) [] [(W.c (C0.ptr m0.nxt 0)),(W.c (C0.ptr m.nxt 0)),(W.c (C0.ptr m5.nxt 0))])]=some m41∧∃c42:C,ldC m41 (.ptr m5.nxt 0)=some c42∧isPt (.ptr b0 0)∧isPt (.ptr b0 0) ∧  ∃x43,ldC m41 (.ptr b0 2)=some (Il x43)∧zmq prog tbl [(.c (Il 0)),(.agg 6 [Il x43,Il 0,Il 0,Il 0,Il 0,Il 0])] c42 m41 (fun v44 m45=> ∃b46:Bool,v44=.c (.bool b46)∧Q (.tup []) m45))) →  R3 [(.c (Il x4))] m5)→R3 [(.c (Il 0))] m1)):Wc prog tbl 130 [.c y,.c (.ptr b0 0)] m Q:= zpB (n:=2) rfl (by kernel_rfl) (by kernel_rfl) h
def zyW(v:Ver):List C:=[.int .i64 v.fee,.int .i64 v.pence,.int .i64 v.fields.f0,.int .i64 v.fields.f1,.int .i64 v.fields.f2,.int .i64 v.fields.f3]
theorem zyX(a b:KOc)(h:zqz Oc a=zqz Oc b):a=b:=by
 obtain⟨⟨a1,a2⟩,ha⟩:=a;obtain⟨⟨b1,b2⟩,hb⟩:=b;have h:U.agg 2 [C.int .i64 a1,C.int .i64 a2]=U.agg 2 [C.int .i64 b1,C.int .i64 b2]:=h
 simp only[U.agg.injEq,List.cons.injEq,C.int.injEq,true_and,and_true] at h
 obtain⟨rfl,rfl⟩:=h
 rfl
structure ChG (m:M) (ba bY bc l:Nat) (ca:C) (rs:List Nat) (fs:List (Oc→Option Bool)):Prop where
 a:Bk m ba 1 [ca]
 y:Bk m bY 1 [.fn (.yield l) [] []]
 c:Bk m bc 1 [.fn (.func 132) [] [.c (.ptr ba 0),.c (.ptr bY 0),.c (.ptr bc 0)]]
 s:Ls m 1 ca (rs.map C.map) rs.length
 len:fs.length=rs.length
 mp:∀(i r:Nat) (g:Oc→Option Bool),rs[i]? = some r→fs[i]? = some g→Mp (zqz Oc) m r (fOc g)
def ChD(ba bY bc:Nat)(ca:C)(rs:List Nat)(b:Nat):Prop:=b=ba∨b=bY∨b=bc∨(∃o n s d,ca=.sl b o n s d)∨b∈rs
theorem ChG.to{m m':M}{ba bY bc l:Nat}{ca:C}{rs:List Nat}{fs:List (Oc→Option Bool)}(h:ChG m ba bY bc l ca rs fs)(hn:m.nxt≤m'.nxt)(hv:m'.vw=m.vw)(hg:∀b,b < m.nxt→ChD ba bY bc ca rs b→m'.g b=m.g b):ChG m' ba bY bc l ca rs fs:=
  ⟨⟨(hg _ h.a.lt (.inl rfl)).trans h.a.g,Nat.lt_of_lt_of_le h.a.lt hn⟩,⟨(hg _ h.y.lt (.inr (.inl rfl))).trans h.y.g,Nat.lt_of_lt_of_le h.y.lt hn⟩,⟨(hg _ h.c.lt (.inr (.inr (.inl rfl)))).trans h.c.g,Nat.lt_of_lt_of_le h.c.lt hn⟩,
    h.s.to hn (fun b hb ⟨_o,_s,_d,he⟩=>hg b hb (.inr (.inr (.inr (.inl ⟨_,_,_,_,he⟩))))) hv,h.len,fun i r g hr hgg=>(h.mp i r g hr hgg).to hn (hg r (h.mp i r g hr hgg).lt (.inr (.inr (.inr (.inr (List.mem_of_getElem? hr))))))⟩
theorem ChG.ext{m m':M}{ba bY bc l:Nat}{ca:C}{rs:List Nat}{fs:List (Oc→Option Bool)}(h:ChG m ba bY bc l ca rs fs)(e:Ext m m'):ChG m' ba bY bc l ca rs fs:=h.to e.nxt e.vw fun b hb _=>e.g b hb
structure zyY (n0 l N:Nat) (A:Ver→Prop) (I:List Ver→(Nat→Prop)→M→Prop):Prop where
 st:∀d S m m',I d S m→m.nxt≤m'.nxt→m'.vw=m.vw→(∀b,S b→m'.g b=m.g b)→(∀b,b < n0→m'.g b=m.g b)→I d S m'
 lt:∀d S m,I d S m→∀b,S b→b < m.nxt
 yield:∀d v S m,I d S m→d.length < N→A v→∀Q:V→M→Prop,(∀S' m',Own S m S'→Chg S m m'→I (d++[v]) S' m'→Q (.c (.bool true)) m')→Wy prog tbl l [.agg 6 (zyW v)] m Q
theorem zyZ{S S':Nat→Prop}{a b c:M}(h1:Chg S a b)(ho:Own S a S')(h2:Chg S' b c):Chg S a c:=
 ⟨Nat.le_trans h1.nxt h2.nxt,fun x hx hS=>by
  rw[h2.g x (Nat.lt_of_lt_of_le hx h1.nxt) fun h=>(ho x h).elim hS fun h=>by omega]
  exact h1.g x hx hS,h2.vw.trans h1.vw⟩
theorem zy0{S S' S'':Nat→Prop}{a b:M}(h1:Own S a S')(hn:a.nxt≤b.nxt)(h2:Own S' b S''):Own S a S'':=fun x hx=>(h2 x hx).elim (h1 x) fun h=>.inr (by omega)
theorem zy1{S:Nat→Prop}{a b:M}(h:Ext a b):Chg S a b:=⟨h.nxt,fun x hx _=>h.g x hx,h.vw⟩
theorem zy2{f m m':M}{S:Nat→Prop}(h:Pre f m)(hc:Chg S m m')(hS:∀b,S b→f.g b=none∧f.vw b=none):Pre f m':=⟨zqb h.sub hc.nxt hc.vw hS hc.g,h.fz,h.fv⟩
theorem zy3{n0 l N:Nat}{A:Ver→Prop}{f:M}{I:List Ver→(Nat→Prop)→M→Prop}(hc:zyY n0 l N A I){ba bY bc:Nat}{ca:C}{rs:List Nat}{fs:List (Oc→Option Bool)}(hrs:rs.length≤1000) :
  ∀(j k:Nat) (v:Ver) (vs d:List Ver) (S:Nat→Prop) (m:M),k+j=rs.length→n0≤m.nxt→Pre f m→ChG m ba bY bc l ca rs fs→I d S m→(∀b,S b→f.g b=none∧f.vw b=none)→(∀b,S b→¬ ChD ba bY bc ca rs b)→zuQ ((fs.drop k).map zuO) v=some vs→d.length+vs.length≤N→(∀u∈vs,A u) →
  ∀Q:V→M→Prop,(∀vs' S' m',vs'.Perm vs→Own S m S'→Chg S m m'→I (d++vs') S' m'→Q (.c (.bool true)) m') →
  Wc prog tbl 132 [.c (.int .i64 (k:Int)),.agg 6 (zyW v),.c (.ptr ba 0),.c (.ptr bY 0),.c (.ptr bc 0)] m Q:=by
 intro j
 induction j with
 | zero=>
  intro k v vs d S m hk hn0 hP G hI hSf hD hv hN hA Q hQ
  have hk:k=rs.length:=by omega
  refine zyU (k:Int) v.fee v.pence v.fields.f0 v.fields.f1 v.fields.f2 v.fields.f3 ba bY bc fun m0 e0=>?_;obtain⟨b0,x0⟩:=Bk.new e0;have g0:=G.ext x0;refine⟨_,g0.a.rc rfl,g0.s.isSl,?_⟩;rw[g0.s.slLen];refine zpG.2 ⟨fun _=>?_,fun hne=>absurd (by rw[hk]) hne⟩;refine⟨_,g0.y.rc rfl,_,_,_,_,_,_,b0.ra,?_⟩
  have hvs:vs=[v]:=by
   rw[List.drop_eq_nil_of_le (by rw[G.len]; omega)] at hv;exact(oi hv).symm
  subst hvs;have hlt:=hc.lt _ _ _ hI;have hI0:I d S m0:=hc.st _ _ _ _ hI x0.nxt x0.vw (fun b hb=>x0.g b (hlt b hb)) fun b hb=>x0.g b (by omega)
  show Wy prog tbl l [.agg 6 (zyW v)] m0 _
  refine hc.yield d v S m0 hI0 (by simp at hN; omega) (hA v (List.mem_cons_self ..)) _ fun S' m' ho hch hI'=>⟨true,rfl,hQ [v] S' m' (.refl _) (fun b hb=>(ho b hb).imp id fun h=>by have:=x0.nxt; omega) (zyZ (zy1 x0) (fun b hb=>.inl hb) hch) hI'⟩
 | succ j ih=>
  intro k v vs d S m hk hn0 hP G hI hSf hD hv hN hA Q hQ
  have hkr:k < rs.length:=by omega
  refine zyU (k:Int) v.fee v.pence v.fields.f0 v.fields.f1 v.fields.f2 v.fields.f3 ba bY bc fun m0 e0=>?_;obtain⟨b0,x0⟩:=Bk.new e0;have g0:=G.ext x0
  have q0:m0.nxt=m.nxt+1:=by rw[e0]; rfl
  refine⟨_,g0.a.rc rfl,g0.s.isSl,?_⟩;rw[g0.s.slLen];refine zpG.2 ⟨fun he=>by omega,fun _=>?_⟩;refine⟨_,g0.a.rc rfl,k,rfl,by rw[g0.s.slLen]; exact hkr,?_⟩;obtain⟨r,hr⟩:∃r,rs[k]? = some r:=⟨_,List.getElem?_eq_getElem hkr⟩;obtain⟨g,hg⟩:∃g,fs[k]? = some g:=⟨_,List.getElem?_eq_getElem (by rw[G.len]; exact hkr)⟩;refine⟨_,g0.s.rd (i:=k * 1) (c:=.map r) (by rw[Nat.mul_one,List.getElem?_map,hr]; rfl),?_⟩;obtain⟨ks,o,hks,hro,hit⟩:=Mp.range zyX (g0.mp k r g hr hg);refine⟨o,hro,fun m16 e16 R hR=>?_⟩;have it16:=hit m16 e16
  have x16:Ext m0 m16:=by rw[e16]; exact Ext.new _ _
  have q16:m16.nxt=m.nxt+2:=by rw[e16]; show m0.nxt+1=_; omega
  have hlt:=hc.lt _ _ _ hI
  have hdrop:fs.drop k=g::fs.drop (k+1):=by
   rw[List.drop_eq_getElem_cons (by rw[G.len]; exact hkr)]
   congr 1
   rw[List.getElem?_eq_getElem (by rw[G.len]; exact hkr)] at hg;exact oi hg
  rw[hdrop,List.map_cons] at hv;have hv:zuP (zuQ ((fs.drop (k+1)).map zuO)) v (zuO g)=some vs:=hv;have hperm:(ks.map (·.1)).Perm (zuO g):=(zqZ.perm hks (zuN hks)).map _;obtain⟨vr0,hvr0,hpr0⟩:=zuW hperm.symm hv
  -- a round of the loop, with these keys left
  have main:∀(n:Nat) (rem:List KOc) (w vr:List Ver) (S1:Nat→Prop) (m1:M),rem.length=n→ItR (zqz Oc) m1 m0.nxt r (fOc g) rem→Bk m1 m.nxt 6 (zyW v)→ChG m1 ba bY bc l ca rs fs→I (d++w) S1 m1→Own S m S1→¬ S1 m.nxt→¬ S1 m0.nxt→Chg S m m1→m.nxt+2≤m1.nxt →
    zuP (zuQ ((fs.drop (k+1)).map zuO)) v (rem.map (·.1))=some vr→(w++vr).Perm vs→R [V.c (C.bool false)] m1:=by
   intro n
   induction n with
   | zero=>
    intro rem w vr S1 m1 hrem hit1 hb1 hG1 hI1 hO1 hS1 hS2 hC1 hn1 hvr hpw;have hrem:rem=[]:=List.eq_nil_of_length_eq_zero hrem;subst hrem;have hvr':vr=[]:=(oi hvr).symm;subst hvr';obtain⟨lx,q1,q2,q3⟩:=hit1.next;have hlx:=q2.2 rfl;subst hlx;refine hR false m1 ⟨[],q1,fun _=>?_,fun k' y' m' hl=>by cases hl⟩;rw[List.append_nil] at hpw;exact hQ w S1 m1 hpw hO1 hC1 hI1
   | succ n ihn=>
    intro rem w vr S1 m1 hrem hit1 hb1 hG1 hI1 hO1 hS1 hS2 hC1 hn1 hvr hpw;obtain⟨lx,q1,q2,q3⟩:=hit1.next;refine hR false m1 ⟨lx,q1,fun he=>?_,fun k' y' m2 hl=>?_⟩
    ·have:=q2.1 he
     rw[this] at hrem; cases hrem
    obtain⟨l1,a,l2,o2,rfl,rfl,hfa,e2,hen,hit2⟩:=q3 _ _ _ hl
    have n2:m2.nxt=m1.nxt:=by rw[e2]; rfl
    have v2:m2.vw=m1.vw:=by rw[e2]; rfl
    have g2:∀b,b ≠ m0.nxt→m2.g b=m1.g b:=fun b hb=>by rw[e2,M.g_set,if_neg hb]
    have hlt1:=hc.lt _ _ _ hI1
    have dlt:∀b,ChD ba bY bc ca rs b→b < m.nxt:=fun b hb=>by
     rcases hb with rfl | rfl | rfl | ⟨o',n',s',d',he⟩ | hb
     ·exact G.a.lt
     ·exact G.y.lt
     ·exact G.c.lt
     ·rcases G.s.val with ⟨h1,_⟩ | ⟨b',o1,t1,c1,h1,h2,_⟩
      ·rw[h1] at he; cases he
      ·rw[h1] at he; cases he; exact h2
     ·obtain⟨i,hi⟩:=List.getElem?_of_mem hb;have hilt:i < rs.length:=(List.getElem?_eq_some_iff.1 hi).1;exact(G.mp i b _ hi (List.getElem?_eq_getElem (by rw[G.len]; exact hilt))).lt
    have G2:ChG m2 ba bY bc l ca rs fs:=hG1.to (by omega) v2 fun b hb hDb=>g2 b (by have:=dlt b hDb; omega);have B2:Bk m2 m.nxt 6 (zyW v):=⟨(g2 _ (by omega)).trans hb1.g,by have:=hb1.lt; omega⟩;have I2:I (d++w) S1 m2:=hc.st _ _ _ _ hI1 (by omega) v2 (fun b hb=>g2 b fun h=>hS2 (h ▸ hb)) fun b hb=>g2 b (by omega);have C2:Chg S m m2:=⟨by have:=hC1.nxt; omega,fun b hb hs=>(g2 b (by omega)).trans (hC1.g b hb hs),v2.trans hC1.vw⟩;refine⟨a.1.pence,a.1.loser,y',hen,fun m3 e3=>?_⟩;obtain⟨b3,x3⟩:=Bk.new e3;refine⟨m3.set m2.nxt (.cells 2 [.int .i64 a.1.pence,.int .i64 a.1.loser] false),b3.st _,?_⟩;have k4:=b3.set [.int .i64 a.1.pence,.int .i64 a.1.loser];have x4:Ext m2 (m3.set m2.nxt (.cells 2 [.int .i64 a.1.pence,.int .i64 a.1.loser] false)):=x3.setR (Nat.le_refl _) _
    have q4:(m3.set m2.nxt (.cells 2 [.int .i64 a.1.pence,.int .i64 a.1.loser] false)).nxt=m2.nxt+1:=by show m3.nxt=_; rw[e3]; rfl
    generalize m3.set m2.nxt (.cells 2 [.int .i64 a.1.pence,.int .i64 a.1.loser] false)=m4 at k4 x4 q4 ⊢;have G4:=G2.ext x4;obtain⟨v',c,vr',p1,p2,p3,p4⟩:=zuV (v:=v) (a:=a.1) (l1:=l1.map (·.1)) (l2:=l2.map (·.1)) (by rw[← hvr,List.map_append,List.map_cons]);have C4:Chg S m m4:=zyZ C2 (fun b hb=>.inl hb) (zy1 x4);refine⟨_,G4.c.rc rfl,by show zl0 .i64 ((k:Int)+1); unfold zl0; exact⟨by omega,by omega⟩,_,_,_,_,_,_,(B2.ext x4).ra,_,_,k4.ra,?_⟩;refine zyo (v:=v) (o:=a.1) (zy2 hP C4 hSf) p1 fun m5 x5=>⟨_,_,_,_,_,_,rfl,?_⟩;have G5:=G4.ext x5;refine⟨?_,?_⟩
    ·show ifB true _ _
     exact G5.c.rc rfl
    have x45:=x4.trans x5;have I5:I (d++w) S1 m5:=hc.st _ _ _ _ I2 x45.nxt x45.vw (fun b hb=>x45.g b (by rw[n2]; exact hlt1 b hb)) fun b hb=>x45.g b (by have:=x45.nxt; omega);have C5:Chg S m m5:=zyZ C4 (fun b hb=>.inl hb) (zy1 x5)
    have n5:m2.nxt < m5.nxt:=by have:=x5.nxt; omega
    show Wc prog tbl 132 [.c (.int .i64 ((k:Int)+1)),.agg 6 (zyW v'),.c (.ptr ba 0),.c (.ptr bY 0),.c (.ptr bc 0)] m5 _
    rw[show(k:Int)+1=((k+1:Nat):Int) by omega];have hsub:(w++(c++vr')).Perm vs:=((List.Perm.append_left w p4).trans hpw);refine ih (k+1) v' c (d++w) S1 m5 (by omega) (by omega) (zy2 hP C5 hSf) G5 I5 (fun b hb=>(hO1 b hb).elim (hSf b) fun h=>⟨hP.fz b (Nat.le_trans hP.sub.nxt h),hP.fv b (Nat.le_trans hP.sub.nxt h)⟩) (fun b hb hDb=>?_) p2 ?_ (fun u hu=>hA u (hsub.subset (List.mem_append_right _ (List.mem_append_left _ hu)))) _ fun vs' S' m6 hpv hO6 hC6 hI6=>⟨true,rfl,?_⟩
    ·rcases hO1 b hb with h | h
     ·exact hD b h hDb
     ·have:=dlt b hDb; omega
    ·have:=hsub.length_eq
     simp only[List.length_append] at this ⊢
     omega
    ·-- the next round
     show ifB false _ _
     have hC16:Chg S1 m5 m6:=hC6;have keep:∀b,b < m5.nxt→¬ S1 b→m6.g b=m5.g b:=hC6.g;have hit5:ItR (zqz Oc) m5 m0.nxt r (fOc g) (l1++l2):=hit2.to (x45.g _ (by omega)) (x45.g _ (by have:=dlt r (.inr (.inr (.inr (.inr (List.mem_of_getElem? hr))))); omega));have hrD:ChD ba bY bc ca rs r:=.inr (.inr (.inr (.inr (List.mem_of_getElem? hr))))
     have hS1D:∀b,ChD ba bY bc ca rs b→¬ S1 b:=fun b hDb hb=>by
      rcases hO1 b hb with h | h
      ·exact hD b h hDb
      ·have:=dlt b hDb; omega
     refine ihn (l1++l2) (w++vs') vr' S' m6 ?_ (hit5.to (keep _ (by omega) hS2) (keep r (by have:=dlt r hrD; omega) (hS1D r hrD))) ?_ ?_ ?_ ?_ ?_ ?_ ?_ ?_ ?_ ?_
     ·simp only[List.length_append,List.length_cons] at hrem ⊢; omega
     ·exact⟨(keep _ (by omega) hS1).trans ((x45.g _ (by omega)).trans B2.g),by have:=hC6.nxt; omega⟩
     ·exact G5.to hC6.nxt hC6.vw fun b hb hDb=>keep b hb (hS1D b hDb)
     ·rw[← List.append_assoc]; exact hI6
     ·exact zy0 hO1 (by have:=C5.nxt; omega) hO6
     ·intro hb
      rcases hO6 _ hb with h | h
      ·exact hS1 h
      ·omega
     ·intro hb
      rcases hO6 _ hb with h | h
      ·exact hS2 h
      ·omega
     ·exact zyZ C5 hO1 hC6
     ·have:=hC6.nxt; omega
     ·rw[List.map_append]; exact p3
     ·refine List.Perm.trans ?_ hsub;rw[List.append_assoc];exact(hpv.append_right vr').append_left w
  have x016:=x0.trans x16;refine main ks.length ks [] vr0 S m16 rfl it16 ((b0.ext x16)) (g0.ext x16) ?_ (fun b hb=>.inl hb) (fun hb=>by have:=hlt _ hb; omega) (fun hb=>by have:=hlt _ hb; omega) (zy1 x016) (by omega) hvr0 hpr0;rw[List.append_nil];exact hc.st _ _ _ _ hI x016.nxt x016.vw (fun b hb=>x016.g b (hlt b hb)) fun b hb=>x016.g b (by omega)
structure zy4 where
 b:Nat
instance:Rp zy4:=⟨1,by omega,fun _ cs a=>cs=[.map a.b],fun h=>by rw[h]; rfl,fun h _=>h⟩
theorem zy5{f:M}:∀{l:List zy4} {vs:List C},Cat f vs l→vs=(l.map (·.b)).map C.map
 | [],vs,h=>h
 | a::l,vs,h=>by
  obtain⟨cs,ws,h1,h2,h3⟩:=h;have h2:cs=[.map a.b]:=h2;rw[h1,h2,zy5 h3]; rfl
theorem zy6:TA prog 196 1:=⟨197,by kernel_rfl,by kernel_rfl,by kernel_rfl⟩
theorem zy7{K V' K2 V2:Type}[MK K][MV V'][MK K2][MV V2]{F:Fm}{f0 f m m' f':M}(s:St F f0 f m){τ:Nat→Nat}{t:Nat}{c:C}{M M':Option (K→Option V')}(h:Mo F f τ m t c M)(g:zro c m f m' f')(h':Mi m' c M'){c2:C}{M2:Option (K2→Option V2)}(hn:Mn m f' m' c2 M2)(t2:Nat) :
  ∃τ',St F f0 f' m'∧Kp τ f m τ' f' m' [t]∧Mo F f' τ' m' t c M'∧Mo F f' τ' m' t2 c2 M2:=by
 obtain⟨s1,k1,h1⟩:=s.callGM h g h';refine⟨fun b=>if m.nxt≤b then t2 else τ b,s1,⟨k1.nxt,fun b hb=>if_neg (by omega),k1.g,k1.fg,k1.fs,k1.vw⟩,⟨h1.mi,fun b hb=>?_⟩,hn.mi,fun b hb=>?_⟩
 ·obtain⟨q1,q2,q3,q4⟩:=h1.own b hb;have:=(h.own b hb).2.2.2;exact⟨q1,q2,(if_neg (by omega)).trans q3,q4⟩
 ·obtain⟨q1,q2,q3⟩:=hn.own b hb;exact⟨.inl (Nat.le_trans s.ext.nxt q2),q1,if_pos q2,q3⟩
theorem zy8{w:UWk}{ca100 ca103 ca104:C}{b0 n0 l N:Nat}{A:Ver→Prop}{I:List Ver→(Nat→Prop)→M→Prop}(hc:zyY n0 l N A I){S:Nat→Prop}{m f:M}{Q:V→M→Prop}{rz:List (Oc→Option Bool) × Option (Clm→Option Int)}{vs:List Ver}
    (hS:Pre f m) (hw:Bk f b0 5 [ca100,Il w.c.Day,Il w.c.Fee,ca103,ca104]) (ha100:Sl f ca100 w.c.Tariffs) (ha103:Sl f ca103 w.c.Fields) (ha104:Mc f m ca104 w.payments)
    (hp:zuS w w.c.Fields w.payments=some rz) (_hlen:w.c.Fields.length≤1000) (hv:zuQ (rz.1.map zuO) (zuT w.c.Fee)=some vs) (hN:vs.length≤N) (hA:∀u∈vs,A u)
    (hn0:n0≤m.nxt) (hI:∀m',zqC ca104 m m'→Mi m' ca104 rz.2→I [] S m') (hSl:∀b,S b→b < m.nxt) (hSf:∀b,S b→f.g b=none∧f.vw b=none) (hSc:∀b,S b→ca104 ≠ .map b)
    (hq:∀vs' S' m1 m',vs'.Perm vs→zqC ca104 m m1→Own S m1 S'→Chg S m1 m'→I vs' S' m'→Q (.tup []) m') :
    Wc prog tbl 130 [.c (.fn (.yield l) [] []),.c (.ptr b0 0)] m Q:=by
 have S0:=hS.stM ha104;obtain⟨τ0,M0⟩:∃τ,Mo (Fm.mp m ca104) f τ m 1 ca104 w.payments:=⟨_,ha104.mo 1⟩;refine zyV _ _ ?_;intro D e0;obtain⟨τ1,S1,k1,Ly⟩:=S0.blk e0 τ0 2;have M1:=M0.k k1;intro m1 e1;obtain⟨τ2,S2,k2,La⟩:=S1.blk e1 τ1 3;have Ly:=Ly.k k2;have M2:=M1.k k2;refine⟨trivial,trivial,_,(hw.sub S2.sub).rc rfl,ha103.isSl,?_⟩;intro R3 O
 have hgo:∀(q:List Fld) (i:Nat) (ca:C) (rs:List zy4) (gs:List (Oc→Option Bool)) (p:Option (Clm→Option Int)) (s:List (Oc→Option Bool) × Option (Clm→Option Int)) (d x:M) (τ:Nat→Nat),i+q.length=w.c.Fields.length→w.c.Fields.drop i=q→rs.length=i→gs.length=i→St (Fm.mp m ca104) f x d→Lb (Fm.mp m ca104) x τ d 2 m.nxt 1 [.fn (.yield l) [] []]→Lb (Fm.mp m ca104) x τ d 3 D.nxt 1 [ca]→Ow (Fm.mp m ca104) x τ d 4 ca rs→Mo (Fm.mp m ca104) x τ d 1 ca104 p→(∀(j:Nat) (r:zy4) (g:Oc→Option Bool),rs[j]? = some r→gs[j]? = some g→Mo (Fm.mp m ca104) x τ d 5 (.map r.b) (some g)) →
   zuS w q p=some s→rz=(gs++s.1,s.2)→R3 [.c (Il (i:Int))] d:=by
  intro q
  induction q with
  | nil=>
   intro i ca rs gs p s d x τ hi hd hrs hgs S5 Ly La Oa Mp Mm hp hrz;refine O _ _ ?_;rw[ha103.slLen];refine zpG.2 ⟨fun h=>by simp at hi; omega,fun _=>?_⟩;intro ab ka;obtain⟨τ6,S6,n,Lc⟩:=S5.blk ka τ 6;have Ly:=Ly.k n;have La:=La.k n;have Mp:=Mp.k n;have Oa:=Oa.k n;have Mm:=fun j r g hr hg=>(Mm j r g hr hg).k n (by decide);obtain⟨o,la,e,t,Lc⟩:=Lc.sto S6 [(C.fn (Fn.func 132) [] [(W.c (C0.ptr (D).nxt 0)),(W.c (C0.ptr (m).nxt 0)),(W.c (C0.ptr (d).nxt 0))])];have Ly:=Ly.k t;have La:=La.k t;have Mp:=Mp.k t;have Oa:=Oa.k t;have Mm:=fun j r g hr hg=>(Mm j r g hr hg).k t (by decide);refine⟨o,la,_,Lc.bk.rc rfl,trivial,trivial,_,(hw.sub (e.fs.trans e.sub)).rc rfl,?_⟩;obtain rfl:=oi hp
   have ba:rz.1=gs:=by rw[hrz]; exact List.append_nil _
   have da:rz.2=p:=by rw[hrz]
   have hext:=e.extB;have hpre:Pre f o:=⟨e.fs.trans e.sub,hS.fz,hS.fv⟩;obtain⟨ws,o1,o2⟩:=Oa.own;have o2:=zy5 o2
   have hi':i=w.c.Fields.length:=by simpa using hi
   show Wc prog tbl 132 [.c (Il ((0:Nat):Int)),.agg 6 (zyW (zuT w.c.Fee)),.c (.ptr D.nxt 0),.c (.ptr m.nxt 0),.c (.ptr d.nxt 0)] o _
   have hg:ChG o D.nxt m.nxt d.nxt l ca (rs.map (·.b)) gs:=by
    refine⟨La.bk,Ly.bk,Lc.bk,?_,by rw[List.length_map]; omega,fun j r g hr hg=>?_⟩
    ·have:=o1.ls;rw[o2] at this;rw[List.length_map];exact this
    ·rw[List.getElem?_map] at hr
     obtain⟨r',hr',rfl⟩:∃r',rs[j]? = some r'∧r'.b=r:=by
      cases h:rs[j]? with
      | none=>rw[h] at hr; cases hr
      | some r'=>rw[h] at hr; exact⟨r',rfl,oi hr⟩
     obtain⟨b,ma,na⟩:=(Mm j r' g hr' hg).mi
     cases ma
     exact na
   have hSD:∀b,S b→¬ ChD D.nxt m.nxt d.nxt ca (rs.map (·.b)) b:=by
    intro b hb hD;have hlt:=hSl b hb;have n1:=S1.ext.nxt;have n5:=S5.ext.nxt
    have hF:∀b',b'=b→¬ ((Fm.mp m ca104).m.nxt≤b'∨(Fm.mp m ca104).B b'):=by
     intro b' hbb h;subst hbb;exact h.elim (fun h=>absurd hlt (Nat.not_lt_of_le h)) (hSc b' hb)
    rcases hD with h | h | h | ⟨o',n',s',d',he⟩ | h
    ·exact hF D.nxt h.symm La.new
    ·exact hF m.nxt h.symm Ly.new
    ·exact hF d.nxt h.symm Lc.new
    ·exact hF b rfl (Oa.nw _ _ _ _ _ he).1
    ·obtain⟨r',hr',rfl⟩:=List.mem_map.1 h;obtain⟨j,hj⟩:=List.getElem?_of_mem hr';have hjl:j < rs.length:=(List.getElem?_eq_some_iff.1 hj).1;exact hF _ rfl ((Mm j r' _ hj (List.getElem?_eq_getElem (by omega))).own _ rfl).1
   refine zy3 hc (by rw[List.length_map]; omega) rs.length 0 (zuT w.c.Fee) vs [] S o (by rw[List.length_map]; omega) (Nat.le_trans hn0 hext.nxt) hpre hg (hI o hext (by rw[da]; exact Mp.mi)) hSf hSD (by rw[List.drop_zero,← ba]; exact hv) (by simpa using hN) hA _ fun vs' S' m' hpv ho hch hI'=>⟨true,rfl,?_⟩;exact hq vs' S' o m' hpv hext ho hch hI'
  | cons fl q ih=>
   intro i ca rs gs p s d x τ hi hd hrs hgs S5 Ly La Oa Mp Mm hp hrz
   have hil:i < w.c.Fields.length:=by simp at hi; omega
   have hfl:w.c.Fields[i]? = some fl:=by
    have h0:(w.c.Fields.drop i)[0]? = some fl:=by rw[hd]; rfl
    rwa [List.getElem?_drop,Nat.add_zero] at h0
   refine O _ _ ?_;rw[ha103.slLen];refine zpG.2 ⟨fun _=>?_,fun h=>absurd (Int.ofNat_lt.2 hil) h⟩;obtain⟨_,r1⟩:=zrL ha103 hfl;refine⟨i,rfl,hil,_,_,_,_,_,_,_,_,_,(r1 _ (S5.fs.trans S5.sub)).1,?_⟩;intro bb oa;obtain⟨τ6,S6,n,Lf⟩:=S5.blk oa τ 6;have Ly:=Ly.k n;have La:=La.k n;have Mp:=Mp.k n;have Oa:=Oa.k n;have Mm:=fun j r g hr hg=>(Mm j r g hr hg).k n (by decide);obtain⟨pa,qa,e,t,Lf⟩:=Lf.sto S6 [Il fl.Crop,Il fl.Value,Il fl.Near,Il fl.First.Lo,Il fl.First.Hi,Il fl.Second.Lo,Il fl.Second.Hi,Il fl.Umpire.Lo,Il fl.Umpire.Hi];have Ly:=Ly.k t;have La:=La.k t;have Mp:=Mp.k t;have Oa:=Oa.k t;have Mm:=fun j r g hr hg=>(Mm j r g hr hg).k t (by decide);refine⟨pa,qa,_,La.bk.rc rfl,_,_,_,_,_,(hw.sub (e.fs.trans e.sub)).ra,_,_,_,_,_,_,_,_,_,Lf.bk.ra,?_⟩;obtain⟨r,sa,ta⟩:=zqd (show(zuf ({ c:=w.c,payments:=p }:UWk) fl).bind _=some s from hp);obtain⟨g,P,ua⟩:=zqd ta;obtain⟨s',va,wa⟩:=zqd ua
   cases wa
   refine zyx (w:=({ c:=w.c,payments:=p }:UWk)) (f_:=fl) e.pre (ha100.sub e.fs) (ha103.sub e.fs) (Mp.mc e) sa fun cb T xa ya za fa=>?_;obtain⟨τ8,S8,J,Mp,Mr⟩:=zy7 e Mp ya fa za 5;have Ly:=Ly.k J;have La:=La.k J;have Oa:=Oa.k J;have Mm:=fun j r g hr hg=>(Mm j r g hr hg).k J (by decide)
   obtain⟨z,ga,_⟩:∃b,xa=.map b∧True:=by
    have:=Mr.mi;rw[P] at this;obtain⟨b,hb,_⟩:=this;exact⟨b,hb,trivial⟩
   subst ga;refine⟨_,rfl,?_,?_⟩
   ·rw[zoM Oa.noFn]; exact La.bk.rc rfl
   intro db Y;have Aa:=La;have Ba:=Oa;obtain⟨F,Ca,τ9,Da,S9,G,Oa'⟩:=Oa.app' zy6 S8 (a:=(⟨z⟩:zy4)) (show Rp.rep (α:=zy4) T [.map z] ⟨z⟩ from rfl) (by omega) Y;have Ly:=Ly.k G;have La:=La.k G;have Mp:=Mp.k G;have Mr:=Mr.k G;have Mm:=fun j r g hr hg=>(Mm j r g hr hg).k G (by decide);refine⟨?_,F,Ca,Da,?_⟩
   ·rw[zoM Ba.noFn]; exact(Aa.bk.ext (Bk.new Y).2).rc rfl
   obtain⟨Z,Ea,Fa,y,La⟩:=La.sto S9 [F];have Ly:=Ly.k y;have Mp:=Mp.k y;have Oa':=Oa'.k y;have Mr:=Mr.k y;have Mm:=fun j r g hr hg=>(Mm j r g hr hg).k y (by decide);refine⟨Z,Ea,by unfold zl0; exact⟨by omega,by omega⟩,?_⟩
   have hx:rz=((gs++[g])++s'.1,s'.2):=by rw[hrz,List.append_assoc]; rfl
   rw[show(i:Int)+1=((i+1:Nat):Int) by omega];refine ih (i+1) F (rs++[⟨z⟩]) (gs++[g]) r.2 s' Z T τ9 (by simp at hi; omega) ?_ (by simp; omega) (by simp; omega) Fa Ly La Oa' Mp ?_ va hx
   ·rw[← List.drop_drop,hd]; rfl
   ·intro j rr gg hrr hgg;rw[List.getElem?_append] at hrr hgg
    by_cases hj:j < i
    ·rw[if_pos (by omega)] at hrr hgg;exact Mm j rr gg hrr hgg
    ·rw[if_neg (by omega)] at hrr hgg
     have Ga:j - rs.length=0:=by
      rcases Nat.eq_zero_or_pos (j - rs.length) with h | h
      ·exact h
      ·rw[List.getElem?_eq_none (by simp; omega)] at hrr; cases hrr
     rw[Ga] at hrr;rw[show j - gs.length=0 by omega] at hgg
     cases hrr; cases hgg
     rw[P] at Mr;exact Mr
 exact hgo w.c.Fields 0 .sl0 [] [] w.payments rz m1 f τ2 (by omega) rfl rfl rfl S2 Ly La (Ow.nil ..) M2 (fun j r g hr _=>by cases hr) hp rfl
def lastN:List Int→Int→Nat
 | _x::y::l,n=>if y≤n then lastN (y::l) n+1 else 0
 | _,_=>0
theorem zy9:∀(l:List Int) (n:Int),l ≠ []→lastN l n < l.length
 | [],_,h=>absurd rfl h
 | [_],_,_=>by simp[lastN]
 | x::y::l,n,_=>by
  unfold lastN
  split
  ·have:=zy9 (y::l) n (by simp)
   simp only[List.length_cons] at this ⊢; omega
  ·simp
theorem zza:∀(l:List Int) (n:Int),(∀x,l.head? = some x→x≤n)→∀x,l[lastN l n]? = some x→x≤n
 | [],_,_,x,h=>by simp at h
 | [a],n,h0,x,h=>by
  simp[lastN] at h; subst h; exact h0 a rfl
 | a::y::l,n,h0,x,h=>by
  unfold lastN at h
  split at h
  ·rename_i hy
   rw[List.getElem?_cons_succ] at h;exact zza (y::l) n (fun z hz=>by simp at hz; omega) x h
  ·simp at h; subst h; exact h0 _ rfl
theorem zzb:∀(l:List Int) (n:Int),l.Pairwise (· < ·)→∀j,lastN l n < j→∀x,l[j]? = some x→n < x
 | [],_,_,j,_,x,h=>by simp at h
 | [a],n,_,j,hj,x,h=>by
  have:j < [a].length:=(List.getElem?_eq_some_iff.1 h).1
  simp at this; omega
 | a::y::l,n,hp,j,hj,x,h=>by
  have hp':=(List.pairwise_cons.1 hp).2;unfold lastN at hj
  cases j with
  | zero=>omega
  | succ j=>
   rw[List.getElem?_cons_succ] at h
   split at hj
   ·exact zzb (y::l) n hp' j (by omega) x h
   ·rename_i hy
    have hx:x∈y::l:=List.mem_of_getElem? h
    rcases List.mem_cons.1 hx with hx | hx
    ·omega
    ·have:=(List.pairwise_cons.1 hp').1 x hx; omega
theorem zzc{l:List Int}(hp:l.Pairwise (· < ·)){i j:Nat}{x y:Int}(hx:l[i]? = some x)(hy:l[j]? = some y)(hij:i < j):x < y:=by
 obtain⟨h1,h2⟩:=List.getElem?_eq_some_iff.1 hx;obtain⟨h3,h4⟩:=List.getElem?_eq_some_iff.1 hy;rw[← h2,← h4];exact List.pairwise_iff_getElem.1 hp i j h1 h3 hij
theorem zzd{l:List Int}{n:Int}(hp:l.Pairwise (· < ·)){k:Nat}(hk:k < l.length)(h1:∀x,l[k]? = some x→x≤n)(h2:∀x,l[k+1]? = some x→n < x)(h0:∀x,l.head? = some x→x≤n):lastN l n=k:=by
 have hne:l ≠ []:=fun h=>by subst h; simp at hk
 have hl:=zy9 l n hne;obtain⟨a,ha⟩:∃a,l[lastN l n]? = some a:=⟨_,List.getElem?_eq_getElem hl⟩;obtain⟨b,hb⟩:∃b,l[k]? = some b:=⟨_,List.getElem?_eq_getElem hk⟩;have h3:=zza l n h0 a ha;have h4:=h1 b hb
 rcases Nat.lt_trichotomy (lastN l n) k with h | h | h
 ·have:=zzb l n hp k h b hb; omega
 ·exact h
 ·have hk1:k+1 < l.length:=by omega
  have h5:=h2 _ (List.getElem?_eq_getElem hk1)
  rcases Nat.lt_or_ge (k+1) (lastN l n) with h6 | h6
  ·have:=zzc hp (List.getElem?_eq_getElem hk1) ha h6; omega
  ·have h7:lastN l n=k+1:=by omega
   rw[h7,List.getElem?_eq_getElem hk1] at ha
   cases ha; omega
def nth(l:List Int)(i:Nat):Int:=l.getD i 0
theorem zze{l:List Int}{i:Nat}{x:Int}(h:l[i]? = some x):nth l i=x:=by
 unfold nth; rw[List.getD_eq_getElem?_getD,h]; rfl
theorem zzf{l:List Int}{i:Nat}(h:i < l.length):l[i]? = some (nth l i):=by
 rw[List.getElem?_eq_getElem h,zze (List.getElem?_eq_getElem h)]
def zzg(a b x y n:Int):Int:=(x * (b - n)+y * (n - a)) / (b - a)
def zzh(counts rates:List Int)(n:Int):Int:=
 let i:=lastN counts n
 if nth counts i=n then nth rates i else zzg (nth counts i) (nth counts (i+1)) (nth rates i) (nth rates (i+1)) n
theorem zzi{a b x y n z:Int}(h1:a≤n)(h2:n≤b)(hab:a < b)(_hx:0≤x)(_hy:0≤y)(hxz:x≤z)(hyz:y≤z):zzg a b x y n≤z:=by
  unfold zzg;have e1:x * (b - n)≤z * (b - n):=Int.mul_le_mul_of_nonneg_right hxz (by omega);have e2:y * (n - a)≤z * (n - a):=Int.mul_le_mul_of_nonneg_right hyz (by omega)
  have e3:z * (b - n)+z * (n - a)=z * (b - a):=by rw[← Int.mul_add]; congr 1; omega
  have:x * (b - n)+y * (n - a)≤z * (b - a):=by omega
  calc (x * (b - n)+y * (n - a)) / (b - a)≤(z * (b - a)) / (b - a):=Int.ediv_le_ediv (by omega) this
    _=z:=Int.mul_ediv_cancel _ (by omega)
theorem zzj{a b x y n z:Int}(h1:a≤n)(h2:n≤b)(hab:a < b)(_hz:0≤z)(hxz:z≤x)(hyz:z≤y):z≤zzg a b x y n:=by
  unfold zzg;have e1:z * (b - n)≤x * (b - n):=Int.mul_le_mul_of_nonneg_right hxz (by omega);have e2:z * (n - a)≤y * (n - a):=Int.mul_le_mul_of_nonneg_right hyz (by omega)
  have e3:z * (b - n)+z * (n - a)=z * (b - a):=by rw[← Int.mul_add]; congr 1; omega
  have:z * (b - a)≤x * (b - n)+y * (n - a):=by omega
  calc z=(z * (b - a)) / (b - a):=(Int.mul_ediv_cancel _ (by omega)).symm
    _≤_:=Int.ediv_le_ediv (by omega) this
structure Cnt (counts:List Int):Prop where
 pw:counts.Pairwise (· < ·)
 hd:counts.head? = some 0
 lst:counts.getLast? = some 100
structure Rts (counts rates:List Int):Prop extends Cnt counts where
 len:rates.length=counts.length
 rng:∀r∈rates,0≤r∧r≤100
variable {cs rs:List Int}
theorem Cnt.ne(h:Cnt cs):cs ≠ []:=fun e=>by have:=h.hd; rw[e] at this; cases this
theorem Cnt.h0(h:Cnt cs){n:Int}(hn:0≤n):∀x,cs.head? = some x→x≤n:=fun x hx=>by
 have:=h.hd; rw[this] at hx; cases hx; exact hn
theorem Cnt.lt(h:Cnt cs)(n:Int):lastN cs n < cs.length:=zy9 cs n h.ne
theorem Cnt.btw(h:Cnt cs){n:Int}(hn:0≤n)(h100:n≤100):nth cs (lastN cs n)≤n∧(nth cs (lastN cs n) ≠ n→lastN cs n+1 < cs.length∧n < nth cs (lastN cs n+1)):=by
 have hl:=h.lt n;have h1:=zza cs n (h.h0 hn) _ (zzf hl);refine⟨h1,fun hne=>?_⟩
 have hlast:cs[cs.length - 1]? = some 100:=by rw[← h.lst,List.getLast?_eq_getElem?]
 have hlt:lastN cs n+1 < cs.length:=by
  rcases Nat.lt_or_ge (lastN cs n+1) cs.length with hh | hh
  ·exact hh
  ·have:lastN cs n=cs.length - 1:=by omega
   rw[this] at hne h1;have:=zze hlast
   omega
 exact⟨hlt,zzb cs n h.pw _ (Nat.lt_succ_self _) _ (zzf hlt)⟩
theorem Rts.at(h:Rts cs rs){i:Nat}(hi:i < cs.length):0≤nth rs i∧nth rs i≤100:=by
 have:i < rs.length:=by rw[h.len]; exact hi
 exact h.rng _ (List.mem_of_getElem? (zzf this))
theorem Rts.loss_rng(h:Rts cs rs){n:Int}(hn:0≤n)(h100:n≤100):0≤zzh cs rs n∧zzh cs rs n≤100:=by
 obtain⟨h1,h2⟩:=h.btw hn h100;have hi:=h.at (h.lt n);unfold zzh; dsimp only
 split
 ·exact hi
 ·rename_i hne
  obtain⟨h3,h4⟩:=h2 hne;have hi2:=h.at h3;exact⟨zzj h1 (by omega) (by omega) (Int.le_refl _) hi.1 hi2.1,zzi h1 (by omega) (by omega) hi.1 hi2.1 hi.2 hi2.2⟩
theorem Cnt.last_at(h:Cnt cs){i:Nat}(hi:i < cs.length):lastN cs (nth cs i)=i:=by
 refine zzd h.pw hi (fun x hx=>?_) (fun x hx=>?_) fun x hx=>?_
 ·rw[zze hx]; exact Int.le_refl _
 ·exact zzc h.pw (zzf hi) hx (Nat.lt_succ_self _)
 ·have h0:cs[0]? = some x:=by rw[← hx]; cases cs <;> rfl
  rcases Nat.eq_zero_or_pos i with h5 | h5
  ·subst h5; rw[zze h0]; exact Int.le_refl _
  ·exact Int.le_of_lt (zzc h.pw h0 (zzf hi) h5)
end
end Go.Proofs.YteojndcmgpiklaaGreat

namespace Go.Proofs.YteojndcmgpiklaaGreat
open _root_.Go.Proofs.Tryz
open Go.Abs
set_option maxRecDepth 100000
noncomputable section
structure VT (t:Tf):Prop where
 frm:0≤t.From∧t.From≤120
 lst:0≤t.Least∧t.Least≤100
 wks:t.Weeks.Pairwise (· < ·)∧t.Weeks.head? = some 0∧∀x∈t.Weeks,0≤x∧x≤120
 cts:t.Counts.Pairwise (· < ·)∧t.Counts.head? = some 0∧∀x∈t.Counts,0≤x∧x≤100
 c100:t.Counts.getLast? = some 100
 rne:t.Rates ≠ []
 rts:∀c∈t.Rates,c.length=t.Weeks.length∧∀w∈c,w.length=t.Counts.length∧∀r∈w,0≤r∧r≤100
def zzk(l:List Tf):Nat:=match l with | []=>0 | t::_=>t.Rates.length
structure VL (l:List Tf):Prop where
 ne:l ≠ []
 vt:∀t∈l,VT t
 pw:(l.map (·.From)).Pairwise (· < ·)
 hd:(l.map (·.From)).head? = some 0
 crp:∀t∈l,t.Rates.length=zzk l
def zzl(t:Tf):Prop:=4 < t.Weeks.length∨5 < t.Counts.length∨3 < t.Rates.length
def zzm(l:List Tf):Prop:=3 < l.length∨∃t∈l,zzl t
open Classical in
def zzn(l:List Tf):Int:=if zzm l then 3 else if VL l then 0 else 1
theorem zzo{l:List Tf}:zzn l=0↔¬ zzm l∧VL l:=by
 unfold zzn
 split
 ·rename_i h; exact⟨fun h=>by omega,fun h'=>absurd h h'.1⟩
 ·rename_i h
  split
  ·rename_i h2; exact⟨fun _=>⟨h,h2⟩,fun _=>rfl⟩
  ·rename_i h2; exact⟨fun h=>by omega,fun h'=>absurd h'.2 h2⟩
def zzp(t:Tf)(crop day:Int):List Int:=(t.Rates.getD crop.toNat []).getD (lastN t.Weeks day) []
def zzq(t:Tf)(loss:Int):Int:=if loss < t.Least then 0 else if t.Whole=true then loss else loss - t.Least
def zzr(t:Tf)(crop day count:Int):Int:=zzq t (zzh t.Counts (zzp t crop day) count)
instance:Inhabited Tf:=⟨⟨0,false,0,[],[],[]⟩⟩
def ofN(l:List Tf)(day:Int):Tf:=l.getD (lastN (l.map (·.From)) day) default
def zzs(l:List Tf)(crop day count:Int):Int:=zzr (ofN l day) crop day count
theorem VT.wlt{t:Tf}(h:VT t)(d:Int):lastN t.Weeks d < t.Weeks.length:=zy9 _ _ fun e=>by have:=h.wks.2.1; rw[e] at this; cases this
theorem VT.cnt{t:Tf}(h:VT t):Cnt t.Counts:=⟨h.cts.1,h.cts.2.1,h.c100⟩
theorem VT.rates{t:Tf}(h:VT t){crop:Int}(h0:0≤crop)(h1:crop < t.Rates.length)(day:Int) :
  ∃wks,t.Rates[crop.toNat]? = some wks∧wks[lastN t.Weeks day]? = some (zzp t crop day)∧Rts t.Counts (zzp t crop day):=by
 have hc:crop.toNat < t.Rates.length:=by omega
 have e1:=List.getElem?_eq_getElem hc;obtain⟨q1,q2⟩:=h.rts _ (List.getElem_mem hc)
 have hw:lastN t.Weeks day < t.Rates[crop.toNat].length:=by rw[q1]; exact h.wlt day
 have e2:=List.getElem?_eq_getElem hw
 have e3:zzp t crop day=t.Rates[crop.toNat][lastN t.Weeks day]:=by
  have e4:t.Rates.getD crop.toNat []=t.Rates[crop.toNat]:=by rw[List.getD_eq_getElem?_getD,e1]; rfl
  unfold zzp;rw[e4,List.getD_eq_getElem?_getD,e2,Option.getD_some]
 obtain⟨q3,q4⟩:=q2 _ (List.getElem_mem hw);refine⟨_,e1,by rw[e2,e3],⟨h.cnt,by rw[e3]; exact q3,by rw[e3]; exact q4⟩⟩
theorem VL.of{l:List Tf}(h:VL l)(day:Int):l[lastN (l.map (·.From)) day]? = some (ofN l day)∧ofN l day∈l:=by
 have hl:=zy9 (l.map (·.From)) day fun e=>h.ne (List.map_eq_nil_iff.1 e);rw[List.length_map] at hl
 have e:l[lastN (l.map (·.From)) day]? = some (ofN l day):=by
  unfold ofN;rw[List.getD_eq_getElem?_getD,List.getElem?_eq_getElem hl,Option.getD_some]
 exact⟨e,List.mem_of_getElem? e⟩
theorem zzt{t:Tf}(h:VT t){x:Int}(h0:0≤x)(h1:x≤100):0≤zzq t x∧zzq t x≤100:=by
 have:=h.lst;unfold zzq
 split
 ·omega
 ·split <;> omega
theorem VL.vof{l:List Tf}(h:VL l)(day:Int):VT (ofN l day):=h.vt _ (h.of day).2
theorem VL.cof{l:List Tf}(h:VL l)(day:Int):(ofN l day).Rates.length=zzk l:=h.crp _ (h.of day).2
theorem VL.rts{l:List Tf}(h:VL l){crop:Int}(h0:0≤crop)(h1:crop < zzk l)(day:Int):Rts (ofN l day).Counts (zzp (ofN l day) crop day):=by
 obtain⟨_,_,_,q⟩:=(h.vof day).rates h0 (by rw[h.cof]; exact h1) day;exact q
theorem VL.part_rng{l:List Tf}(h:VL l){crop n:Int}(h0:0≤crop)(h1:crop < zzk l)(hn:0≤n)(hn1:n≤100)(day:Int):0≤zzs l crop day n∧zzs l crop day n≤100:=by
 obtain⟨q1,q2⟩:=(h.rts h0 h1 day).loss_rng hn hn1;exact zzt (h.vof day) q1 q2
end
end Go.Proofs.YteojndcmgpiklaaGreat

namespace Go.Proofs.YteojndcmgpiklaaGreat
open _root_.Go.Proofs.Tryz
open Go.Abs
set_option maxRecDepth 100000
noncomputable section
theorem zzu{n lo hi:Int}:Ev (zrO n lo hi) (lo≤n∧n≤hi):=Ev.ite fun _=>Ev.dec Iff.rfl
theorem zzv{r:Rg}{n:Int}:Ev (zsd r n) (r.Lo≤n∧n≤r.Hi):=Ev.ite fun _=>Ev.dec Iff.rfl
theorem zzw{n:Int}:Ev (zsf n) (0≤n∧n≤120):=zzv.ret
theorem zzx{n:Int}:Ev (zsg n) (0≤n∧n≤100):=zzv.ret
theorem zzy{n:Int}:Ev (zsh n) (0≤n∧n≤100):=zzv.ret
theorem zzz{n s:Int}(hs:0≤s∧s≤4611686018427387904):Ev (zse n s) (0≤n∧n < s):=Ev.gd (fI (by omega)) (zzv.ret.imp (by show 0≤n∧n≤s - 1↔_; omega))
theorem zzA{l:List Int}{k:Nat}(h:k < l.length):idx l (k:Int)=some (nth l k):=zq2 (zzf h)
theorem zzB{l:List Int}{k:Nat}(h0:0 < k)(h:k - 1 < l.length):idx l ((k:Int) - 1)=some (nth l (k - 1)):=zq4 h0 (zzf h)
theorem zzC:∀{l:List Int},(∀j,0 < j→j < l.length→nth l (j - 1) < nth l j)→l.Pairwise (· < ·)
 | [],_=>.nil
 | [a],_=>List.pairwise_singleton _ _
 | a::b::l,h=>by
  have h1:(b::l).Pairwise (· < ·):=zzC fun j h0 hj=>by
   have:=h (j+1) (by omega) (by simp at hj ⊢; omega);obtain⟨i,rfl⟩:∃i,j=i+1:=⟨j - 1,by omega⟩;exact this
  have h2:a < b:=h 1 (by omega) (by simp);refine List.pairwise_cons.2 ⟨fun x hx=>?_,h1⟩
  rcases List.mem_cons.1 hx with rfl | hx
  ·exact h2
  ·exact Int.lt_trans h2 ((List.pairwise_cons.1 h1).1 x hx)
theorem zzD{l:List Int}:(∀j,0 < j→j < l.length→nth l (j - 1) < nth l j)↔l.Pairwise (· < ·):=
 ⟨zzC,fun h j h0 hj=>zzc h (zzf (by omega)) (zzf hj) (by omega)⟩
theorem zzE{l:List Int}(hl:zrd l):Ev (zsj l) (l.Pairwise (· < ·)∧l.head? = some 0):=by
 have hl:=hl.lt
 have key:Ev (zsi l (l.length+1) 0) ((∀j,j < l.length→(0 < j→nth l (j - 1) < nth l j))∧l.head? = some 0):=by
  refine Ev.loop (F:=zsi l) (fin:=if (0:Int) < (l.length:Int) then ((idx l (0:Int)).bind fun x=>some (decide (x=(0:Int)))) else some false) (fun d k hk=>?_) (fun d=>?_) (by omega) fun _=>?_
  ·rw[zsi,if_pos (by omega),zzA hk,obs]
   by_cases h0:0 < k
   ·rw[if_pos (show(0:Int) < k by omega),zqf (fI (by omega)),zzB h0 (by omega),obs,zqf (fI (by omega))];refine⟨fun h=>?_,fun h=>?_⟩
    ·rw[if_neg (by have:=h h0; omega)]
    ·rw[if_pos (by
      rcases Int.lt_or_le (nth l (k - 1)) (nth l k) with h1 | h1
      ·exact absurd (fun _=>h1) h
      ·exact h1)]
   ·rw[if_neg (show ¬ (0:Int) < k by omega),zqf (fI (by omega))];exact⟨fun _=>rfl,fun h=>absurd (fun h'=>absurd h' h0) h⟩
  ·rw[zsi,if_neg (Int.lt_irrefl _)]
  ·cases l with
   | nil=>exact Ev.ff (by simp)
   | cons a l=>rw[if_pos (by simp)]; exact Ev.bind (zq5 rfl) (Ev.dec (by simp))
 exact key.imp (and_congr ⟨fun h=>zzC fun j h0 hj=>h j hj h0,fun h j hj h0=>zzD.2 h j h0 hj⟩ Iff.rfl)
theorem zzF{l:List Int}{most:Int}(hl:zrd l):Ev (zrP l most) ((l.Pairwise (· < ·)∧l.head? = some 0)∧∀x∈l,0≤x∧x≤most):=by
 have hl:=hl.lt
 have key:Ev (prRises_L0 l most (l.length+1) 0) ((∀j,j < l.length→((0≤nth l j∧nth l j≤most)∧(0 < j→nth l (j - 1) < nth l j)))∧l.head? = some 0):=by
  refine Ev.loop (F:=prRises_L0 l most) (fin:=if (0:Int) < (l.length:Int) then ((idx l (0:Int)).bind fun x=>some (decide (x=(0:Int)))) else some false) (fun d k hk=>?_) (fun d=>?_) (by omega) fun _=>?_
  ·rw[prRises_L0,if_pos (by omega),zzA hk,obs];obtain⟨b,h1,h2⟩:=zzu (n:=nth l k) (lo:=0) (hi:=most);rw[h1,obs]
   cases b with
   | false=>
    rw[if_neg (by simp)];exact⟨fun h=>(by have:=h2.2 h.1; cases this),fun _=>rfl⟩
   | true=>
    have h3:=h2.1 rfl;rw[if_pos rfl]
    by_cases h0:0 < k
    ·rw[if_pos (show(0:Int) < k by omega),obs,zqf (fI (by omega)),zzB h0 (by omega),obs,zqf (fI (by omega))];refine⟨fun h=>?_,fun h=>?_⟩
     ·rw[if_neg (by have:=h.2 h0; omega)]
     ·rw[if_pos (by
       rcases Int.lt_or_le (nth l (k - 1)) (nth l k) with h1 | h1
       ·exact absurd ⟨h3,fun _=>h1⟩ h
       ·exact h1)]
    ·rw[if_neg (show ¬ (0:Int) < k by omega),zqf (fI (by omega))];exact⟨fun _=>rfl,fun h=>absurd ⟨h3,fun h'=>absurd h' h0⟩ h⟩
  ·rw[prRises_L0,if_neg (Int.lt_irrefl _)]
  ·cases l with
   | nil=>exact Ev.ff (by simp)
   | cons a l=>rw[if_pos (by simp)]; exact Ev.bind (zq5 rfl) (Ev.dec (by simp))
 refine key.imp ⟨fun⟨h1,h2⟩=>⟨⟨zzC fun j h0 hj=>(h1 j hj).2 h0,h2⟩,fun x hx=>?_⟩,fun⟨⟨h1,h2⟩,h3⟩=>⟨fun j hj=>⟨h3 _ (List.mem_of_getElem? (zzf hj)),fun h0=>zzD.2 h1 j h0 hj⟩,h2⟩⟩;obtain⟨i,hi⟩:=List.mem_iff_getElem?.1 hx;rw[← zze hi];exact(h1 i (List.getElem?_eq_some_iff.1 hi).1).1
theorem gTf{l:List Tf}{p:Tf→Option Bool}:∀{d:Nat} {x:Int},zsF l p d x=gIdx l p d x
 | 0,_=>rfl
 | d+1,x=>by unfold zsF gIdx; simp only[gTf (d:=d)]
theorem zzG{l:List Tf}{p:Tf→Option Bool}:∀{d:Nat} {x:Int},zsJ l p d x=gIdx l p d x
 | 0,_=>rfl
 | d+1,x=>by unfold zsJ gIdx; simp only[zzG (d:=d)]
theorem gCl{l:List Clm}{p:Clm→Option Bool}:∀{d:Nat} {x:Int},zsN l p d x=gIdx l p d x
 | 0,_=>rfl
 | d+1,x=>by unfold zsN gIdx; simp only[gCl (d:=d)]
theorem gI{l:List Int}{p:Int→Option Bool}:∀{d:Nat} {x:Int},zsS l p d x=gIdx l p d x
 | 0,_=>rfl
 | d+1,x=>by unfold zsS gIdx; simp only[gI (d:=d)]
theorem gL{l:List (List Int)}{p:List Int→Option Bool}:∀{d:Nat} {x:Int},zsX l p d x=gIdx l p d x
 | 0,_=>rfl
 | d+1,x=>by unfold zsX gIdx; simp only[gL (d:=d)]
theorem gLL{l:List (List (List Int))}{p:List (List Int)→Option Bool}:∀{d:Nat} {x:Int},zs2 l p d x=gIdx l p d x
 | 0,_=>rfl
 | d+1,x=>by unfold zs2 gIdx; simp only[gLL (d:=d)]
theorem zzH{l:List Tf}{p:Tf→Option Bool}{q:Tf→Prop}(hp:∀a∈l,Ev (p a) (q a))(hl:zrd l):Ev (zsI l p) (∀a∈l,q a):=Ev.each hp hl.lt gTf
theorem zzI{l:List Clm}{p:Clm→Option Bool}{q:Clm→Prop}(hp:∀a∈l,Ev (p a) (q a))(hl:zrd l):Ev (zsQ l p) (∀a∈l,q a):=Ev.each hp hl.lt gCl
theorem zzJ{l:List Int}{p:Int→Option Bool}{q:Int→Prop}(hp:∀a∈l,Ev (p a) (q a))(hl:zrd l):Ev (zsV l p) (∀a∈l,q a):=Ev.each hp hl.lt gI
theorem zzK{l:List (List Int)}{p:List Int→Option Bool}{q:List Int→Prop}(hp:∀a∈l,Ev (p a) (q a))(hl:zrd l):Ev (zs0 l p) (∀a∈l,q a):=Ev.each hp hl.lt gL
theorem zzL{l:List (List (List Int))}{p:List (List Int)→Option Bool}{q:List (List Int)→Prop}(hp:∀a∈l,Ev (p a) (q a))(hl:zrd l):Ev (zs5 l p) (∀a∈l,q a):=Ev.each hp hl.lt gLL
theorem zzM{l:List Tf}{p:Tf→Option Bool}{q:Tf→Prop}(hp:∀a∈l,Ev (p a) (q a))(hl:zrd l):Ev (zsL l p) (∃a∈l,q a):=Ev.contains hp hl.lt zzG
theorem last_at{l:List Int}(h:l ≠ []):∃x,idx l ((l.length:Int) - 1)=some x∧l.getLast? = some x:=by
 have hl:0 < l.length:=List.length_pos_iff.2 h;refine⟨l[l.length - 1],zq3 (by omega) (by omega),?_⟩;rw[List.getLast?_eq_getElem?,List.getElem?_eq_getElem]
theorem few{t:Tf}(h:¬ zzl t):t.Weeks.length≤4∧t.Counts.length≤5∧t.Rates.length≤3:=by unfold zzl at h; omega
theorem zzN{l:List Int}{x:Int}(h:l.head? = some x):l ≠ []:=fun e=>by rw[e] at h; cases h
theorem zzO{t:Tf}(h:¬ zzl t){w:List Int}:Ev (zs7 t w) (w.length=t.Counts.length∧∀r∈w,0≤r∧r≤100):=by
 have hf:=few h;exact(Ev.ite fun hl=>(zzJ (q:=fun r=>0≤r∧r≤100) (fun _ _=>zzy) (zre (n:=5) (by omega) (by omega))).ret).imp (and_congr Int.ofNat_inj Iff.rfl)
theorem zzP{t:Tf}(h:¬ zzl t){c:List (List Int)}:Ev (zs8 t c) (c.length=t.Weeks.length∧∀w∈c,w.length=t.Counts.length∧∀r∈w,0≤r∧r≤100):=by
 have hf:=few h;exact(Ev.ite fun hl=>(zzK (fun _ _=>zzO h) (zre (n:=4) (by omega) (by omega))).ret).imp (and_congr Int.ofNat_inj Iff.rfl)
theorem zzQ{t:Tf}:VT t↔((0≤t.From∧t.From≤120)∧(0≤t.Least∧t.Least≤100)∧(t.Weeks.Pairwise (· < ·)∧t.Weeks.head? = some 0)∧(∀x∈t.Weeks,0≤x∧x≤120)∧(t.Counts.Pairwise (· < ·)∧t.Counts.head? = some 0)∧t.Counts.getLast? = some 100∧t.Rates ≠ []∧∀c∈t.Rates,c.length=t.Weeks.length∧∀w∈c,w.length=t.Counts.length∧∀r∈w,0≤r∧r≤100):=by
 constructor
 ·intro h; exact⟨h.frm,h.lst,⟨h.wks.1,h.wks.2.1⟩,h.wks.2.2,⟨h.cts.1,h.cts.2.1⟩,h.c100,h.rne,h.rts⟩
 ·rintro⟨h1,h2,h3,h4,h5,h6,h7,h8⟩
  refine⟨h1,h2,⟨h3.1,h3.2,h4⟩,⟨h5.1,h5.2,fun x hx=>?_⟩,h6,h7,h8⟩;obtain⟨i,hi⟩:=List.mem_iff_getElem?.1 hx;have hil:=(List.getElem?_eq_some_iff.1 hi).1
  have h0:t.Counts[0]? = some 0:=by rw[← h5.2]; cases t.Counts <;> rfl
  have hl:t.Counts[t.Counts.length - 1]? = some 100:=by rw[← h6,List.getLast?_eq_getElem?]
  constructor
  ·rcases Nat.eq_zero_or_pos i with h9 | h9
   ·subst h9; rw[h0] at hi; cases hi; exact Int.le_refl _
   ·exact Int.le_of_lt (zzc h5.1 h0 hi h9)
  ·rcases Nat.lt_or_ge i (t.Counts.length - 1) with h9 | h9
   ·exact Int.le_of_lt (zzc h5.1 hi hl h9)
   ·rw[show i=t.Counts.length - 1 by omega,hl] at hi; cases hi; exact Int.le_refl _
theorem zzR{t:Tf}(h:¬ zzl t):Ev (zs9 t) (VT t):=by
 have hf:=few h;have hw:zrd t.Weeks:=zre (n:=4) (by omega) (by omega);have hc:zrd t.Counts:=zre (n:=5) (by omega) (by omega);have hr:zrd t.Rates:=zre (n:=3) (by omega) (by omega);refine Ev.imp (Ev.and zzw fun _=>Ev.and zzy fun _=>Ev.and (zzE hw) fun _=>Ev.and (zzJ (q:=fun r=>0≤r∧r≤120) (fun _ _=>zzw) hw) fun _=>Ev.and (K:=t.Counts.getLast? = some 100∧t.Rates ≠ []∧∀c∈t.Rates,c.length=t.Weeks.length∧∀w∈c,w.length=t.Counts.length∧∀r∈w,0≤r∧r≤100) (zzE hc) fun hr2=>?_) zzQ.symm;obtain⟨x,hx,hx2⟩:=last_at (zzN hr2.2);refine Ev.gd (fI (by omega)) (Ev.bind hx (Ev.imp (Ev.ite fun _=>Ev.ite fun _=>(zzL (fun _ _=>zzP h) hr).ret) ?_));rw[hx2];refine and_congr ⟨fun h=>by rw[h],fun h=>oi h⟩ (and_congr ?_ Iff.rfl);rw[← List.length_pos_iff]; omega
theorem zzS{t:Tf}{c w:Nat}{wks:List (List Int)}{rs:List Int}(hc:t.Rates[c]? = some wks)(hw:wks[w]? = some rs)(hl:rs.length=t.Counts.length)(h5:t.Counts.length≤5)(hw4:w≤4){K:Bool→Int→Option Bool}{b:Bool} :
  ((∀r∈rs,0≤r∧r≤100)→zrQ t (c:Int) (w:Int) K 1000000 b 0=K b ((w:Int)+1))∧(¬ (∀r∈rs,0≤r∧r≤100)→zrQ t (c:Int) (w:Int) K 1000000 b 0=some false):=by
 have key:=zq7 (n:=rs.length) (F:=fun d x=>zrQ t (c:Int) (w:Int) K d b x) (ok:=fun j=>0≤nth rs j∧nth rs j≤100) (bad:=some false) (fin:=K b ((w:Int)+1)) (fun d k hk=>by
  rw[zrQ,if_pos (by omega),zq2 hc,obs,zq2 hw,obs,zzA hk,obs];obtain⟨b',h1,h2⟩:=zzu (n:=nth rs k) (lo:=0) (hi:=100);rw[h1,obs]
  cases b' with
  | true=>rw[if_pos rfl,zqf (fI (by omega))]; exact⟨fun _=>rfl,fun h=>absurd (h2.1 rfl) h⟩
  | false=>rw[if_neg (by simp)]; exact⟨fun h=>(by have:=h2.2 h; cases this),fun _=>rfl⟩) (fun d=>by rw[zrQ,if_neg (by omega),zqf (fI (by omega))]) (d:=1000000) (by omega)
 have hiff:(∀j,j < rs.length→0≤nth rs j∧nth rs j≤100)↔∀r∈rs,0≤r∧r≤100:=⟨fun h r hr=>by
  obtain⟨i,hi⟩:=List.mem_iff_getElem?.1 hr
  rw[← zze hi]; exact h i (List.getElem?_eq_some_iff.1 hi).1,fun h j hj=>h _ (List.mem_of_getElem? (zzf hj))⟩
 rw[hiff] at key;exact key
def zzT(t:Tf)(rs:List Int):Prop:=rs.length=t.Counts.length∧∀r∈rs,0≤r∧r≤100
theorem zrb{α:Type}{l:List α}{P:α→Prop}:(∀j,j < l.length→∀a,l[j]? = some a→P a)↔∀a∈l,P a:=
 ⟨fun h a ha=>by
  obtain⟨i,hi⟩:=List.mem_iff_getElem?.1 ha
  exact h i (List.getElem?_eq_some_iff.1 hi).1 a hi,fun h j _ a ha=>h a (List.mem_of_getElem? ha)⟩
theorem zzU{t:Tf}(h:¬ zzl t){c:Nat}{wks:List (List Int)}(hc:t.Rates[c]? = some wks)(hl:wks.length=t.Weeks.length){K:Bool→Int→Option Bool}{b:Bool} :
  ((∀w∈wks,zzT t w)→zrR t (c:Int) K 1000000 b 0=K b ((c:Int)+1))∧(¬ (∀w∈wks,zzT t w)→zrR t (c:Int) K 1000000 b 0=some false):=by
 have hf:=few h;have hcl:c < t.Rates.length:=(List.getElem?_eq_some_iff.1 hc).1
 have key:=zq7 (n:=wks.length) (F:=fun d x=>zrR t (c:Int) K d b x) (ok:=fun j=>∀rs,wks[j]? = some rs→zzT t rs) (bad:=some false) (fin:=K b ((c:Int)+1)) (fun d k hk=>by
  have hw:=List.getElem?_eq_getElem hk;rw[zrR,if_pos (by omega),zq2 hc,obs,zq2 hw,obs]
  by_cases hlen:wks[k].length=t.Counts.length
  ·rw[if_pos (by omega)];obtain⟨q1,q2⟩:=zzS (t:=t) (b:=b) (K:=zrR t (c:Int) K d) hc hw hlen hf.2.1 (by omega);exact⟨fun hok=>q1 (hok _ hw).2,fun hok=>q2 fun h'=>hok fun rs hrs=>by rw[hw] at hrs; cases hrs; exact⟨hlen,h'⟩⟩
  ·rw[if_neg (by omega)]
   exact⟨fun hok=>absurd (hok _ hw).1 hlen,fun _=>rfl⟩) (fun d=>by rw[zrR,if_neg (by omega),zqf (fI (by omega))]) (d:=1000000) (by omega)
 rw[zrb (P:=zzT t)] at key;exact key
theorem zzV{t:Tf}(h:¬ zzl t):Ev (zrS t 1000000 false 0) (∀c∈t.Rates,c.length=t.Weeks.length∧∀w∈c,zzT t w):=by
 have hf:=few h
 have key:=Ev.loop (n:=t.Rates.length) (F:=fun d x=>zrS t d false x) (ok:=fun j=>∀c,t.Rates[j]? = some c→c.length=t.Weeks.length∧∀w∈c,zzT t w) (fin:=some true) (P:=True) (fun d k hk=>by
  have hc:=List.getElem?_eq_getElem hk;rw[zrS,if_pos (by omega),zq2 hc,obs]
  by_cases hlen:t.Rates[k].length=t.Weeks.length
  ·rw[if_pos (by omega)];obtain⟨q1,q2⟩:=zzU h (b:=false) (K:=zrS t d) hc hlen;exact⟨fun hok=>q1 (hok _ hc).2,fun hok=>q2 fun h'=>hok fun rs hrs=>by rw[hc] at hrs; cases hrs; exact⟨hlen,h'⟩⟩
  ·rw[if_neg (by omega)]
   exact⟨fun hok=>absurd (hok _ hc).1 hlen,fun _=>rfl⟩) (fun d=>by rw[zrS,if_neg (Int.lt_irrefl _)]) (d:=1000000) (by omega) fun _=>Ev.tt trivial
 refine key.imp ⟨fun h=>zrb.1 h.1,fun h=>⟨zrb.2 h,trivial⟩⟩
theorem zzW{t:Tf}(h:¬ zzl t):Ev (zrT t) (VT t):=by
 have hf:=few h;have hw:zrd t.Weeks:=zre (n:=4) (by omega) (by omega);have hc:zrd t.Counts:=zre (n:=5) (by omega) (by omega);refine Ev.imp (Ev.and zzu fun _=>Ev.and zzu fun _=>Ev.and (zzF hw) fun _=>Ev.and (K:=t.Counts.getLast? = some 100∧t.Rates ≠ []∧∀c∈t.Rates,c.length=t.Weeks.length∧∀w∈c,zzT t w) (zzF hc) fun hr2=>?_) ?_
 ·obtain⟨x,hx,hx2⟩:=last_at (zzN hr2.1.2);refine Ev.gd (fI (by omega)) (Ev.bind hx (Ev.imp (Ev.ite fun _=>Ev.itn fun _=>zzV h) ?_));rw[hx2];refine and_congr ⟨fun h=>by rw[h],fun h=>oi h⟩ (and_congr ?_ Iff.rfl);rw[← List.length_pos_iff]; omega
 ·refine⟨fun⟨h1,h2,h3,h4,h5,h6,h7⟩=>⟨h1,h2,⟨h3.1.1,h3.1.2,h3.2⟩,⟨h4.1.1,h4.1.2,h4.2⟩,h5,h6,h7⟩,fun h=>⟨h.frm,h.lst,⟨⟨h.wks.1,h.wks.2.1⟩,h.wks.2.2⟩,⟨⟨h.cts.1,h.cts.2.1⟩,h.cts.2.2⟩,h.c100,h.rne,h.rts⟩⟩
theorem zzX{t:Tf}:Ev (zso t) (zzl t):=by
 unfold zso zzl
 by_cases h1:(4:Int) < (t.Weeks.length:Int)
 ·rw[if_pos h1]; exact Ev.tt (.inl (by omega))
 ·rw[if_neg h1]
  by_cases h2:(5:Int) < (t.Counts.length:Int)
  ·rw[if_pos h2]; exact Ev.tt (.inr (.inl (by omega)))
  ·rw[if_neg h2]; exact Ev.dec (by omega)
theorem zzY{l:List Tf}:Ev (zta l) (zzm l):=by
 unfold zta zzm
 by_cases h1:(3:Int) < (l.length:Int)
 ·rw[if_pos h1]; exact Ev.tt (.inl (by omega))
 ·rw[if_neg h1];exact(zzM (fun _ _=>zzX) (zre (n:=3) (by omega) (by omega))).ret.imp ⟨fun h=>.inr h,fun h=>h.elim (fun h=>by omega) id⟩
theorem zzZ{l:List Tf}(hl:zrd l):zsl l=some (l.map (·.From)):=by
 unfold zrd at hl
 exact zq9 (l:=l) (F:=zsk l) (fun t:Tf=>t.From) some (fun d k acc a ha hac=>by
  have hk:=(List.getElem?_eq_some_iff.1 ha).1
  rw[zsk,if_pos (by omega),zq2 ha,obs,zqf (show acc.length < 1048576 by omega),zqf (fI (by omega))]) (fun d acc=>by rw[zsk,if_neg (Int.lt_irrefl _)]) (by omega)
theorem zz0{l:List Tf}(h:l ≠ []):∃t,l[0]? = some t∧zzk l=t.Rates.length:=by
 cases l with
 | nil=>exact absurd rfl h
 | cons t l=>exact⟨t,rfl,rfl⟩
theorem zz1{l:List Tf}(h:l ≠ []){t:Tf}:Ev (zsm l t) (t.Rates.length=zzk l):=by
 obtain⟨u,h1,h2⟩:=zz0 h;exact Ev.bind (zq5 h1) (Ev.dec (by rw[h2]; exact Int.ofNat_inj))
theorem zz2{l:List Tf}(h:¬ zzm l):l.length≤3∧∀t∈l,¬ zzl t:=by
 unfold zzm at h
 exact⟨by rcases Nat.lt_or_ge 3 l.length with h1 | h1; exact absurd (.inl h1) h; exact h1,fun t ht h1=>h (.inr ⟨t,ht,h1⟩)⟩
theorem zz3{l:List Tf}(h:¬ zzm l):Ev (ztb l) (VL l):=by
 obtain⟨h3,ht⟩:=zz2 h;have hs:zrd l:=zre h3 (by omega)
 have key:Ev (ztb l) ((∀t∈l,VT t)∧((l.map (·.From)).Pairwise (· < ·)∧(l.map (·.From)).head? = some 0)∧∀t∈l,t.Rates.length=zzk l):=by
  refine Ev.and (zzH (fun t h'=>zzR (ht t h')) hs) fun _=>Ev.bind (zzZ hs) (Ev.and (zzE (by unfold zrd; rw[List.length_map]; exact hs)) fun hr=>(zzH (fun t _=>zz1 (fun e=>by rw[e] at hr; cases hr.2)) hs).ret)
 exact key.imp ⟨fun⟨h1,h2,h4⟩=>⟨fun e=>(by rw[e] at h2; cases h2.2),h1,h2.1,h2.2,h4⟩,fun h=>⟨h.vt,⟨h.pw,h.hd⟩,h.crp⟩⟩
theorem zz4{l:List Tf}:ztd l=some (zzn l):=by
 unfold ztd;refine zzY.pick (fun h=>?_) fun h=>?_
 ·rw[if_pos rfl]; unfold zzn; rw[if_pos h]
 ·rw[if_neg (by simp)];refine(zz3 h).pick (fun hv=>?_) fun hv=>?_
  ·rw[if_pos rfl]; unfold zzn; rw[if_neg h,if_pos hv]
  ·rw[if_neg (by simp)]; unfold zzn; rw[if_neg h,if_neg hv]
def zla(l:List Tf)(j:Nat)(t:Tf):Prop:=VT t∧t.Rates.length=zzk l∧(j=0→t.From=0)∧(0 < j→∀u,l[j - 1]? = some u→u.From < t.From)
theorem zz5{l:List Tf}(h:¬ zzm l)(hne:l ≠ []):((∀j,j < l.length→∀t,l[j]? = some t→zla l j t)→zrU l (l.length+1) 0=some 0)∧(¬ (∀j,j < l.length→∀t,l[j]? = some t→zla l j t)→zrU l (l.length+1) 0=some 1):=by
 obtain⟨h3,ht⟩:=zz2 h;obtain⟨u0,hu0,hcr⟩:=zz0 hne;refine zq7 (F:=zrU l) (fun d k hk=>?_) (fun d=>by rw[zrU,if_neg (Int.lt_irrefl _),if_neg (by have:=List.length_pos_iff.2 hne; omega)]) (Nat.lt_succ_self _);have hg:=List.getElem?_eq_getElem hk;generalize l[k]=t at hg;have hT:=zzW (ht t (List.mem_of_getElem? hg));have hgo:∀{P:Prop},(∀t',l[k]? = some t'→P)→P:=fun f=>f _ hg;rw[zrU,if_pos (by omega),zq2 hg,obs];have zAa:∀{P:Tf→Prop},(∀t',l[k]? = some t'→P t')↔P t:=⟨fun f=>f _ hg,fun f t' ht'=>by rw[hg] at ht'; cases ht'; exact f⟩;rw[zAa];have done:∀{o:Option Int},(VT t→t.Rates.length=zzk l→(k=0→t.From=0)→(0 < k→∀u,l[k - 1]? = some u→u.From < t.From)→o=zrU l d ((k:Int)+1))→(¬ zla l k t→o=some 1)→(zla l k t→o=zrU l d ((k:Int)+1))∧(¬ zla l k t→o=some 1):=fun a b=>⟨fun h=>a h.1 h.2.1 h.2.2.1 h.2.2.2,b⟩;obtain⟨b,hb,hb2⟩:=hT;rw[hb,obs]
 cases b with
 | false=>rw[if_neg (by simp)]; exact⟨fun h=>(by have:=hb2.2 h.1; cases this),fun _=>rfl⟩
 | true=>
  have hv:=hb2.1 rfl;rw[if_pos rfl,obs,zq5 hu0,obs]
  by_cases hr:t.Rates.length=u0.Rates.length
  ·rw[if_pos (by omega)]
   have hr':t.Rates.length=zzk l:=by omega
   by_cases h0:k=0
   ·rw[if_pos (by omega),obs]
    by_cases hf:t.From=0
    ·rw[if_pos hf,if_neg (by omega),zqf (fI (by omega))];exact⟨fun _=>rfl,fun hn=>absurd ⟨hv,hr',fun _=>hf,fun h'=>by omega⟩ hn⟩
    ·rw[if_neg hf];exact⟨fun h'=>absurd (h'.2.2.1 h0) hf,fun _=>rfl⟩
   ·rw[if_neg (by omega),if_pos (by omega),obs,zqf (fI (by omega))]
    have hp:k - 1 < l.length:=by omega
    have hgp:=List.getElem?_eq_getElem hp;generalize l[k - 1]=u at hgp;rw[zq4 (by omega) hgp,obs]
    by_cases hle:t.From≤u.From
    ·rw[if_pos hle];exact⟨fun h'=>by have:=h'.2.2.2 (by omega) u hgp; omega,fun _=>rfl⟩
    ·rw[if_neg hle,zqf (fI (by omega))];exact⟨fun _=>rfl,fun hn=>absurd ⟨hv,hr',fun h'=>absurd h' h0,fun _ u' hu'=>by rw[hgp] at hu'; cases hu'; omega⟩ hn⟩
  ·rw[if_neg (by omega)];exact⟨fun h'=>by have:=h'.2.1; omega,fun _=>rfl⟩
theorem zz6{l:List Tf}(hne:l ≠ []):(∀j,j < l.length→∀t,l[j]? = some t→zla l j t)↔VL l:=by
 have hm:∀j t,l[j]? = some t→nth (l.map (·.From)) j=t.From:=fun j t h=>zze (by rw[List.getElem?_map,h]; rfl)
 constructor
 ·intro h;refine⟨hne,fun t ht=>?_,zzC fun j h0 hj=>?_,?_,fun t ht=>?_⟩
  ·obtain⟨i,hi⟩:=List.mem_iff_getElem?.1 ht;exact(h i (List.getElem?_eq_some_iff.1 hi).1 t hi).1
  ·rw[List.length_map] at hj;have h1:=List.getElem?_eq_getElem hj;have h2:=List.getElem?_eq_getElem (show j - 1 < l.length by omega);rw[hm _ _ h1,hm _ _ h2];exact(h j hj _ h1).2.2.2 h0 _ h2
  ·obtain⟨t,h1,_⟩:=zz0 hne;have:=(h 0 (List.getElem?_eq_some_iff.1 h1).1 t h1).2.2.1 rfl
   cases l with
   | nil=>cases h1
   | cons a l=>cases h1; simp[this]
  ·obtain⟨i,hi⟩:=List.mem_iff_getElem?.1 ht;exact(h i (List.getElem?_eq_some_iff.1 hi).1 t hi).2.1
 ·intro h j hj t ht;refine⟨h.vt t (List.mem_of_getElem? ht),h.crp t (List.mem_of_getElem? ht),fun h0=>?_,fun h0 u hu=>?_⟩
  ·subst h0;have:=h.hd
   cases l with
   | nil=>cases ht
   | cons a l=>cases ht; simpa using this
  ·have:=zzD.2 h.pw j h0 (by rw[List.length_map]; exact hj)
   rwa [hm _ _ ht,hm _ _ hu] at this
theorem zz7{l:List Tf}:zrW l=some (zzn l):=by
 unfold zrW
 by_cases h1:(3:Int) < (l.length:Int)
 ·rw[if_pos h1]; unfold zzn; rw[if_pos (.inl (by omega))]
 ·rw[if_neg h1]
  have key:=zq7 (n:=l.length) (F:=fun d x=>zrV l d 0 x) (ok:=fun j=>∀t,l[j]? = some t→¬ zzl t) (bad:=some 3) (fin:=zrU l (l.length+1) 0) (fun d k hk=>by
   have hg:=List.getElem?_eq_getElem hk;generalize l[k]=t at hg;have zAa:(∀t',l[k]? = some t'→¬ zzl t')↔¬ zzl t:=⟨fun f=>f _ hg,fun f t' ht'=>by rw[hg] at ht'; cases ht'; exact f⟩;rw[zAa,zrV,if_pos (by omega),zq2 hg,obs];unfold zzl
   by_cases h4:(4:Int) < (t.Weeks.length:Int)
   ·rw[if_pos h4]; exact⟨fun h=>by omega,fun _=>rfl⟩
   ·rw[if_neg h4,obs]
    by_cases h5:(5:Int) < (t.Counts.length:Int)
    ·rw[if_pos h5]; exact⟨fun h=>by omega,fun _=>rfl⟩
    ·rw[if_neg h5,obs]
     by_cases h6:(3:Int) < (t.Rates.length:Int)
     ·rw[if_pos h6]; exact⟨fun h=>by omega,fun _=>rfl⟩
     ·rw[if_neg h6,zqf (fI (by omega))]; exact⟨fun _=>rfl,fun h=>by omega⟩) (fun d=>by rw[zrV,if_neg (Int.lt_irrefl _)]) (d:=l.length+1) (by omega)
  rw[zrb (P:=fun t=>¬ zzl t)] at key
  by_cases hm:zzm l
  ·unfold zzn;rw[if_pos hm];refine key.2 fun hh=>?_
   rcases hm with hm | ⟨t,ht,hm⟩
   ·omega
   ·exact hh t ht hm
  ·refine(key.1 (zz2 hm).2).trans ?_;unfold zzn;rw[if_neg hm]
   by_cases hne:l=[]
   ·subst hne;rw[if_neg fun h=>h.ne rfl]
    rfl
   ·obtain⟨q1,q2⟩:=zz5 hm hne;rw[zz6 hne] at q1 q2
    by_cases hv:VL l
    ·rw[if_pos hv,q1 hv]
    ·rw[if_neg hv,q2 hv]
structure zz8 (t:Tf):Prop where
 w:t.Weeks.length≤7
 c:t.Counts.length≤7
 r:t.Rates.length≤5
 rr:∀c∈t.Rates,c.length≤7∧∀w∈c,w.length≤7
def zz9(l:List Tf):Prop:=l.length≤5∧∀t∈l,zz8 t
theorem zAa{α:Type}{l:List α}{k:Nat}{a:α}(h:l[k]? = some a){P:α→Prop}:(∀x,l[k]? = some x→P x)↔P a:=⟨fun f=>f _ h,fun f x hx=>by rw[h] at hx; cases hx; exact f⟩
theorem zAb{l:List Tf}{i c:Nat}{t:Tf}{wks:List (List Int)}(hi:l[i]? = some t)(hc:t.Rates[c]? = some wks)(h7:wks.length≤7)(h5:c < 5){K:Bool→Int→Option Bool}{b:Bool} :
  ((∀w∈wks,w.length≤7)→zr5 l (i:Int) (c:Int) K 1000000 b 0=K b ((c:Int)+1))∧(¬ (∀w∈wks,w.length≤7)→zr5 l (i:Int) (c:Int) K 1000000 b 0=some false):=by
 have key:=zq7 (n:=wks.length) (F:=fun d x=>zr5 l (i:Int) (c:Int) K d b x) (ok:=fun j=>∀w,wks[j]? = some w→w.length≤7) (bad:=some false) (fin:=K b ((c:Int)+1)) (fun d k hk=>by
  have hg:=List.getElem?_eq_getElem hk;generalize wks[k]=w at hg;rw[zAa hg (P:=fun w=>w.length≤7),zr5,zq2 hi,obs,zq2 hc,obs,if_pos (by omega),obs,zq2 hc,obs,zq2 hg,obs]
  by_cases h:(7:Int) < (w.length:Int)
  ·rw[if_pos h]; exact⟨fun h=>by omega,fun _=>rfl⟩
  ·rw[if_neg h,zqf (fI (by omega))]; exact⟨fun _=>rfl,fun h=>by omega⟩) (fun d=>by rw[zr5,zq2 hi,obs,zq2 hc,obs,if_neg (Int.lt_irrefl _),zqf (fI (by omega))]) (d:=1000000) (by omega)
 rw[zrb (l:=wks) (P:=fun w:List Int=>w.length≤7)] at key;exact key
theorem zAc{l:List Tf}{i:Nat}{t:Tf}(hi:l[i]? = some t)(h5:t.Rates.length≤5)(hi5:i < 5){K:Bool→Int→Option Bool}{b:Bool} :
  ((∀c∈t.Rates,c.length≤7∧∀w∈c,w.length≤7)→zr6 l (i:Int) K 1000000 b 0=K b ((i:Int)+1))∧(¬ (∀c∈t.Rates,c.length≤7∧∀w∈c,w.length≤7)→zr6 l (i:Int) K 1000000 b 0=some false):=by
 have key:=zq7 (n:=t.Rates.length) (F:=fun d x=>zr6 l (i:Int) K d b x) (ok:=fun j=>∀c,t.Rates[j]? = some c→c.length≤7∧∀w∈c,w.length≤7) (bad:=some false) (fin:=K b ((i:Int)+1)) (fun d k hk=>by
  have hg:=List.getElem?_eq_getElem hk;generalize t.Rates[k]=c at hg;rw[zAa hg (P:=fun c=>c.length≤7∧∀w∈c,w.length≤7),zr6,zq2 hi,obs,if_pos (by omega),obs,zq2 hg,obs]
  by_cases h:(7:Int) < (c.length:Int)
  ·rw[if_pos h]; exact⟨fun h=>by omega,fun _=>rfl⟩
  ·rw[if_neg h];obtain⟨q1,q2⟩:=zAb (K:=zr6 l (i:Int) K d) (b:=b) hi hg (by omega) (by omega)
   exact⟨fun h'=>q1 h'.2,fun h'=>q2 fun h2=>h' ⟨by omega,h2⟩⟩) (fun d=>by rw[zr6,zq2 hi,obs,if_neg (Int.lt_irrefl _),zqf (fI (by omega))]) (d:=1000000) (by omega)
 rw[zrb (l:=t.Rates) (P:=fun c:List (List Int)=>c.length≤7∧∀w∈c,w.length≤7)] at key;exact key
theorem zAd{l:List Tf}:Ev (zr8 l) (zz9 l):=by
 unfold zr8 zz9;refine(Ev.itn (p:=(5:Int) < (l.length:Int)) (K:=∀t∈l,zz8 t) fun h5=>?_).imp (and_congr (by omega) Iff.rfl)
 have key:=Ev.loop (n:=l.length) (F:=fun d x=>zr7 l d false x) (ok:=fun j=>∀t,l[j]? = some t→zz8 t) (fin:=some true) (P:=True) (fun d k hk=>by
  have hg:=List.getElem?_eq_getElem hk;generalize l[k]=t at hg;rw[zAa hg (P:=zz8),zr7,if_pos (by omega),zq2 hg,obs]
  by_cases h1:(7:Int) < (t.Weeks.length:Int)
  ·rw[if_pos h1]; exact⟨fun h=>by have:=h.w; omega,fun _=>rfl⟩
  ·rw[if_neg h1,obs]
   by_cases h2:(7:Int) < (t.Counts.length:Int)
   ·rw[if_pos h2]; exact⟨fun h=>by have:=h.c; omega,fun _=>rfl⟩
   ·rw[if_neg h2,obs]
    by_cases h3:(5:Int) < (t.Rates.length:Int)
    ·rw[if_pos h3]; exact⟨fun h=>by have:=h.r; omega,fun _=>rfl⟩
    ·rw[if_neg h3];obtain⟨q1,q2⟩:=zAc (K:=zr7 l d) (b:=false) hg (by omega) (by omega)
     exact⟨fun h=>q1 h.rr,fun h=>q2 fun h'=>h ⟨by omega,by omega,by omega,h'⟩⟩) (fun d=>by rw[zr7,if_neg (Int.lt_irrefl _)]) (d:=l.length+1) (by omega) fun _=>Ev.tt trivial
 exact key.imp ⟨fun h=>zrb.1 h.1,fun h=>⟨zrb.2 h,trivial⟩⟩
theorem zAe{l:List Int}(h:l.length≤1048576):zr4 l=some l:=by unfold zr4; rw[zqf (by simp; omega)]; simp
theorem zAf{l:List Tf}{i c:Nat}{t:Tf}{wks:List (List Int)}(hi:l[i]? = some t)(hc:t.Rates[c]? = some wks)(h7:wks.length≤7)(hw:∀w∈wks,w.length≤7)(h5:c < 5){a1:Int}{a2:Bool}{a3:Int}{a4:List (List (List Int))}(h4:a4.length < 5){K:Int→Bool→Int→List (List (List Int))→Int→Option (List Tf)} :
  zr9 l (i:Int) a1 a2 a3 a4 (c:Int) K 1000000 [] 0=K a1 a2 a3 (a4++[wks]) ((c:Int)+1):=by
 have key:=zq9 (l:=wks) (fun w=>w) (F:=fun d acc x=>zr9 l (i:Int) a1 a2 a3 a4 (c:Int) K d acc x) (fun acc=>K a1 a2 a3 (a4++[acc]) ((c:Int)+1)) (fun d k acc a ha hac=>by
  have hk:=(List.getElem?_eq_some_iff.1 ha).1;have hs:=hw a (List.mem_of_getElem? ha)
  rw[zr9,zq2 hi,obs,zq2 hc,obs,if_pos (by omega),obs,zq2 hc,obs,zq2 ha,obs,zAe (by omega),obs,zqf (show acc.length < 1048576 by omega),zqf (fI (by omega))]) (fun d acc=>by
  rw[zr9,zq2 hi,obs,zq2 hc,obs,if_neg (Int.lt_irrefl _),zqf (show a4.length < 1048576 by omega),zqf (fI (by omega))]) (d:=1000000) (by omega)
 rw[List.map_id'] at key;exact key
theorem zAg{l out:List Tf}{i:Nat}{t:Tf}(hi:l[i]? = some t)(ht:zz8 t)(hi5:i < 5)(ho:out.length < 5){r1 r2:List Int}{a1:Int}{a2:Bool}{a3:Int}{K:List Tf→Int→Option (List Tf)} :
  zsa l out (i:Int) r1 r2 K 1000000 a1 a2 a3 [] 0=K (out++[⟨a1,a2,a3,r1,r2,t.Rates⟩]) ((i:Int)+1):=by
 have hr:=ht.r
 have key:=zq9 (l:=t.Rates) (fun w=>w) (F:=fun d acc x=>zsa l out (i:Int) r1 r2 K d a1 a2 a3 acc x) (fun acc=>K (out++[⟨a1,a2,a3,r1,r2,acc⟩]) ((i:Int)+1)) (fun d k acc a ha hac=>by
  have hk:=(List.getElem?_eq_some_iff.1 ha).1;obtain⟨q1,q2⟩:=ht.rr a (List.mem_of_getElem? ha)
  rw[zsa,zq2 hi,obs,if_pos (by omega),zAf hi ha q1 q2 (by omega) (by omega)]) (fun d acc=>by
  rw[zsa,zq2 hi,obs,if_neg (Int.lt_irrefl _),zqf (show out.length < 1048576 by omega),zqf (fI (by omega))]) (d:=1000000) (by omega)
 rw[List.map_id'] at key;exact key
theorem zAh{l:List Tf}(h:zz9 l):zsc l=some l:=by
 obtain⟨h5,ht⟩:=h
 have key:=zq9 (l:=l) (fun w=>w) (F:=zsb l) some (fun d k acc a ha hac=>by
  have hk:=(List.getElem?_eq_some_iff.1 ha).1;have hT:=ht a (List.mem_of_getElem? ha);have h1:=hT.w;have h2:=hT.c;rw[zsb,if_pos (by omega),zq2 ha]
  simp only[obs]
  rw[zAe (by omega),obs,zAe (by omega),obs,zAg ha hT (by omega) (by omega)]) (fun d acc=>by rw[zsb,if_neg (Int.lt_irrefl _)]) (d:=l.length+1) (by omega)
 rw[List.map_id'] at key;exact key
theorem zAi{x y:Int}(hx:0≤x∧x≤100)(hy:0≤y∧y≤100):0≤x * y∧x * y≤10000:=by
 refine⟨Int.mul_nonneg hx.1 hy.1,?_⟩;have h1:x * y≤100 * y:=Int.mul_le_mul_of_nonneg_right hx.2 hy.1
 omega
theorem zAj{a b x y n:Int}(h1:0≤a∧a≤n)(h2:n≤b∧b≤100)(hab:a < b)(hx:0≤x∧x≤100)(hy:0≤y∧y≤100):0≤zzg a b x y n∧zzg a b x y n≤100:=
 ⟨zzj h1.2 h2.1 hab (Int.le_refl _) hx.1 hy.1,zzi h1.2 h2.1 hab hx.1 hy.1 hx.2 hy.2⟩
theorem Cnt.rng{t:Tf}(h:VT t){i:Nat}(hi:i < t.Counts.length):0≤nth t.Counts i∧nth t.Counts i≤100:=h.cts.2.2 _ (List.mem_of_getElem? (zzf hi))
theorem zAk{l:List Tf}(h:l ≠ []):zr0 l=some (zzk l:Int):=by
 obtain⟨t,h1,h2⟩:=zz0 h;unfold zr0; rw[zq5 h1,obs,h2]
theorem zAl{x:Int}:zsq x=some false:=by unfold zsq; simp
theorem zAm{x:Int}:zsr x=some false:=by unfold zsr; simp
theorem zAn{x y:Int}:Ev (zss x y) (x < y):=by
 unfold zss;rw[zAl,obs,if_neg (by simp)];exact Ev.dec Iff.rfl
theorem fU{n:Int}(h:0≤n∧n < 18446744073709551616):zl0 .u64 n:=h
theorem zAo{l:List Int}(hp:l.Pairwise (· < ·)){i j:Nat}(hij:i≤j)(hj:j < l.length):nth l i≤nth l j:=by
 rcases Nat.lt_or_ge i j with h | h
 ·exact Int.le_of_lt (zzc hp (zzf (by omega)) (zzf hj) h)
 ·rw[show i=j by omega]; exact Int.le_refl _
theorem zAp{l:List Int}{x:Int}(hp:l.Pairwise (· < ·))(hl:l.length≤1048576):∀d (i j:Nat),i≤j→j≤l.length→j - i < d→(∀m,m < i→nth l m < x)→(∀m,j≤m→m < l.length→x≤nth l m) →
  ∃(k:Nat) (f:Bool),zst l x d (i:Int) (j:Int)=some ((k:Int),f)∧k≤l.length∧(∀m,m < k→nth l m < x)∧(∀m,k≤m→m < l.length→x≤nth l m)∧(f=true↔k < l.length∧nth l k=x)
 | 0,i,j,_,_,h,_,_=>by omega
 | d+1,i,j,hij,hj,h,hlo,hhi=>by
  rw[zst]
  by_cases hlt:i < j
  ·have e1:zl5 .u64 ((i:Int)+(j:Int))=((i+j:Nat):Int):=by rw[wz (fU (by omega))]; omega
   have e2:((i+j:Nat):Int) / 2=(((i+j) / 2:Nat):Int):=by omega
   have hm:(i+j) / 2 < l.length:=by omega
   have e3:zl5 .i64 (((i+j) / 2:Nat):Int)=(((i+j) / 2:Nat):Int):=wz (fI (by omega));rw[if_pos (by omega),zqf (fI (by omega)),e1,zqf (by omega),zqf (by omega),zqf (by omega),e2,zqf (fU (by omega)),e3,zzA hm,obs]
   generalize hmid:(i+j) / 2=md at *
   obtain⟨b,h1,h2⟩:=zAn (x:=nth l md) (y:=x);rw[h1,obs]
   cases b with
   | true=>
    rw[if_pos rfl,zqf (fI (by omega)),show(md:Int)+1=((md+1:Nat):Int) by omega];have h3:=h2.1 rfl;exact zAp hp hl d (md+1) j (by omega) hj (by omega) (fun m hm'=>by have:=zAo hp (show m≤md by omega) hm; omega) hhi
   | false=>
    rw[if_neg (by simp)]
    have h3:x≤nth l md:=by
     rcases Int.lt_or_le (nth l md) x with h4 | h4
     ·have:=h2.2 h4; cases this
     ·exact h4
    exact zAp hp hl d i md (by omega) (by omega) (by omega) hlo (fun m hm' hml=>by have:=zAo hp hm' hml; omega)
  ·have hij':i=j:=by omega
   subst hij';rw[if_neg (Int.lt_irrefl _)]
   by_cases hil:i < l.length
   ·rw[if_pos (by omega),zzA hil,obs]
    by_cases he:nth l i=x
    ·rw[if_pos he]; exact⟨i,true,rfl,hj,hlo,hhi,⟨fun _=>⟨hil,he⟩,fun _=>rfl⟩⟩
    ·rw[if_neg he,obs,zAm,obs,if_neg (by simp)];exact⟨i,false,rfl,hj,hlo,hhi,⟨fun h=>(by cases h),fun h=>absurd h.2 he⟩⟩
   ·rw[if_neg (by omega)];exact⟨i,false,rfl,hj,hlo,hhi,⟨fun h=>(by cases h),fun h=>absurd h.1 hil⟩⟩
theorem zAq{l:List Int}{x:Int}(hp:l.Pairwise (· < ·))(hl:l.length≤1048576) :
  ∃(k:Nat) (f:Bool),zsu l x=some ((k:Int),f)∧k≤l.length∧(∀m,m < k→nth l m < x)∧(∀m,k≤m→m < l.length→x≤nth l m)∧(f=true↔k < l.length∧nth l k=x):=
 zAp hp hl (l.length+1) 0 l.length (Nat.zero_le _) (Nat.le_refl _) (by omega) (fun m h=>by omega) (fun m h1 h2=>by omega)
theorem zAr{l:List Int}{z:Int}(h:l.head? = some z):nth l 0=z∧0 < l.length:=by
 cases l with
 | nil=>cases h
 | cons a l=>cases h; exact⟨rfl,Nat.succ_pos _⟩
theorem zAs{l:List Int}{n:Int}(hp:l.Pairwise (· < ·))(hh:l.head? = some 0)(hl:l.length≤1000)(hn:0≤n∧n≤1000):zsv l n=some (lastN l n:Int):=by
 obtain⟨k,f,h1,h2,h3,h4,_⟩:=zAq (x:=n+1) hp (by omega);obtain⟨e0,l0⟩:=zAr hh
 have hk:0 < k:=by
  rcases Nat.eq_zero_or_pos k with h | h
  ·have:=h4 0 (by omega) l0; omega
  ·exact h
 have hu:lastN l n=k - 1:=zzd hp (by omega) (fun x hx=>by rw[← zze hx]; have:=h3 (k - 1) (by omega); omega) (fun x hx=>by
  have hlt:=(List.getElem?_eq_some_iff.1 hx).1
  rw[← zze hx]; have:=h4 (k - 1+1) (by omega) hlt; omega) (fun x hx=>by rw[hh] at hx; cases hx; exact hn.1)
 unfold zsv;rw[zqf (fI (by omega)),h1,obs,zqf (fI (by show _≤(k:Int) - 1∧_; omega)),hu]
 congr 1
 show(k:Int) - 1=_
 omega
theorem zAt{l:List Tf}(h:VL l)(hl:l.length≤3){d:Int}(hd:0≤d∧d≤120):zsw l d=some (ofN l d):=by
 obtain⟨h1,_⟩:=h.of d;unfold zsw;rw[zzZ (zre hl (by omega)),obs,zAs h.pw h.hd (by rw[List.length_map]; omega) (by omega),obs,zq2 h1,obs]
theorem zAu{t:Tf}(h:VT t)(hf:¬ zzl t){hh:Ht}(h0:0≤hh.crop)(h1:hh.crop < t.Rates.length)(hn:0≤hh.Count)(h100:hh.Count≤100)(hd:0≤hh.Day∧hh.Day≤120):zsz t hh=some (zzh t.Counts (zzp t hh.crop hh.Day) hh.Count):=by
 obtain⟨day,n,crop⟩:=hh
 dsimp only at h0 h1 hn h100 hd
 have hfew:=few hf;obtain⟨wks,q1,q2,q3⟩:=h.rates h0 h1 day;have hc:=h.cnt;obtain⟨b1,b2⟩:=q3.btw hn h100;obtain⟨k,f,k1,k2,k3,k4,k5⟩:=zAq (x:=n) h.cts.1 (show t.Counts.length≤1048576 by omega);obtain⟨e0,l0⟩:=zAr h.cts.2.1;unfold zsz
 dsimp only
 rw[show idx t.Rates crop=idx t.Rates ((crop.toNat:Nat):Int) by rw[Int.toNat_of_nonneg h0],zq2 q1,obs,zAs h.wks.1 h.wks.2.1 (by omega) (by omega),obs,zq2 q2,obs,k1,obs]
 dsimp only
 by_cases hfl:f=true
 ·obtain⟨c1,c2⟩:=k5.1 hfl
  have hu:lastN t.Counts n=k:=by rw[← c2]; exact hc.last_at c1
  rw[if_pos hfl,zzA (by rw[q3.len]; exact c1),obs];unfold zzh
  dsimp only
  rw[hu,if_pos c2]
 ·have hne:∀m,m < t.Counts.length→nth t.Counts m ≠ n:=fun m hm he=>by
   rcases Nat.lt_or_ge m k with h6 | h6
   ·have:=k3 m h6; omega
   ·rcases Nat.lt_or_ge k m with h7 | h7
    ·have h8:=k4 k (Nat.le_refl _) (by omega);have:=zzc h.cts.1 (zzf (show k < t.Counts.length by omega)) (zzf hm) h7
     omega
    ·have:m=k:=by omega
     subst this;exact hfl (k5.2 ⟨hm,he⟩)
  obtain⟨b3,b4⟩:=b2 (hne _ (hc.lt n))
  have hu:lastN t.Counts n+1=k:=by
   rcases Nat.lt_trichotomy (lastN t.Counts n+1) k with h6 | h6 | h6
   ·have:=k3 _ h6; omega
   ·exact h6
   ·have:=k4 (lastN t.Counts n) (by omega) (hc.lt n);have:=hne _ (hc.lt n)
    omega
  subst hu;have hl:=hc.lt n
  have hlr:lastN t.Counts n < (zzp t crop day).length:=by rw[q3.len]; exact hl
  have hlr2:lastN t.Counts n+1 < (zzp t crop day).length:=by rw[q3.len]; exact b3
  have hi:=q3.at hl;have hi2:=q3.at b3;have c1:=Cnt.rng h hl;have c2:=Cnt.rng h b3
  have hcast:((lastN t.Counts n+1:Nat):Int) - 1=((lastN t.Counts n:Nat):Int):=by omega
  rw[if_neg hfl,zqf (fI (by omega)),hcast,zzA hl,obs,zzA b3,obs,zqf (fI (by omega)),zzA hlr,obs,zzA hlr2];have hline:=zAj ⟨c1.1,b1⟩ ⟨Int.le_of_lt b4,c2.2⟩ (by omega) hi hi2;unfold zzh
  dsimp only
  rw[if_neg (hne _ hl)];unfold zzg at hline ⊢
  generalize nth t.Counts (lastN t.Counts n)=a at *
  generalize nth t.Counts (lastN t.Counts n+1)=b at *
  generalize nth (zzp t crop day) (lastN t.Counts n)=x at *
  generalize nth (zzp t crop day) (lastN t.Counts n+1)=y at *
  have p1:=zAi hi (show 0≤b - n∧b - n≤100 by omega);have p2:=zAi hi2 (show 0≤n - a∧n - a≤100 by omega);rw[zqf (fI (by omega)),zqf (by omega),zqf (by omega),zqf (fI (by omega)),obs,zqf (fI (by omega)),zqf (by omega),zqf (by omega),zqf (fI (by omega)),zqf (fI (by omega)),zqf (fI (by omega)),zqf (by omega),zqf (by omega),zqf (fI (by omega))]
theorem zAv{t:Tf}(h:VT t)(hf:¬ zzl t){hh:Ht}(h0:0≤hh.crop)(h1:hh.crop < t.Rates.length)(hn:0≤hh.Count)(h100:hh.Count≤100)(hd:0≤hh.Day∧hh.Day≤120):ztf t hh=some (zzr t hh.crop hh.Day hh.Count):=by
 obtain⟨_,_,_,q3⟩:=h.rates h0 h1 hh.Day;have hr:=q3.loss_rng hn h100;have hls:=h.lst;unfold ztf zzr zzq;rw[zAu h hf h0 h1 hn h100 hd,obs]
 generalize zzh t.Counts (zzp t hh.crop hh.Day) hh.Count=x at *
 by_cases h4:x < t.Least
 ·rw[if_pos h4,if_pos h4]
 ·rw[if_neg h4,if_neg h4];unfold zte
  by_cases h5:t.Whole=true
  ·rw[if_pos h5,if_pos h5,obs]; rfl
  ·rw[if_neg h5,if_neg h5,obs]
   show Option.bind (zsy t x) _=_
   unfold zsy;rw[zqf (fI (by omega)),obs]
def zAw(l:List Tf)(M:Option (Ht→Option Int)):Prop:=∃f,M=some f∧∀h v,f h=some v→v=zzs l h.crop h.Day h.Count
structure zAx (l:List Tf) (h:Ht):Prop where
 c:0≤h.crop∧h.crop < zzk l
 n:0≤h.Count∧h.Count≤100
 d:0≤h.Day∧h.Day≤120
theorem zAy{l:List Tf}(hf:zzn l=0):0 < zzk l∧zzk l≤3:=by
 obtain⟨hm,hv⟩:=zzo.1 hf;obtain⟨h3,ht⟩:=zz2 hm;obtain⟨t,h1,h2⟩:=zz0 hv.ne;have hmem:=List.mem_of_getElem? h1;have:=few (ht t hmem);have:=List.length_pos_iff.2 (hv.vt t hmem).rne
 omega
theorem zAz{l:List Tf}(hf:zzn l=0){M:Option (Ht→Option Int)}(hM:zAw l M){h:Ht}(hh:zAx l h):∃M',zti ⟨l,M⟩ h=some (zzs l h.crop h.Day h.Count,M')∧zAw l M':=by
 obtain⟨hm,hv⟩:=zzo.1 hf;obtain⟨h3,ht⟩:=zz2 hm;have hcr:=zAy hf;obtain⟨f,rfl,hf2⟩:=hM;have hc:=hh.c;have hn:=hh.n;have hd:=hh.d;unfold zti;rw[zqf (show MK.fit h from ⟨fI (by omega),fI (by omega),fI (by omega),trivial⟩)]
 cases hg:zqA (some f) h with
 | some v=>
  rw[zqL rfl];have:v=_:=hf2 h v hg;subst this;exact⟨_,rfl,f,rfl,hf2⟩
 | none=>
  rw[zqK rfl,zAt hv h3 hd,obs,zAv (hv.vof _) (ht _ (hv.of _).2) hc.1 (by rw[hv.cof]; exact hc.2) hn.1 hn.2 hd,obs,zqf (show MK.fit h from ⟨fI (by omega),fI (by omega),fI (by omega),trivial⟩)];refine⟨_,rfl,_,rfl,fun k v hk=>?_⟩
  by_cases hkh:k=h
  ·subst hkh;rw[if_pos rfl] at hk;exact(oi hk).symm
  ·rw[if_neg hkh] at hk; exact hf2 k v hk
theorem zAA{l:List Tf}:zAw l (some fun _=>none):=⟨_,rfl,fun _ _ h=>by cases h⟩
theorem zAB{l:List Tf}(hf:zzn l=0):ztg l=some (⟨l,some fun _=>none⟩,0):=by unfold ztg; rw[zz4,obs,if_pos hf]
theorem zAC{l:List Tf}(hf:zzn l=0){n:Int}:Ev (zsn l n) (0≤n∧n < zzk l):=by
 obtain⟨hm,hv⟩:=zzo.1 hf;obtain⟨t,h1,h2⟩:=zz0 hv.ne;have:=zAy hf;refine Ev.bind (zq5 h1) ?_;rw[← h2];exact(zzz (by omega)).ret
structure zAD (l:List Tf) (c:Clm):Prop where
 crop:0≤c.Crop∧c.Crop < zzk l
 val:0≤c.Value∧c.Value≤100000
 day:0≤c.Day.Lo∧c.Day.Lo≤c.Day.Hi∧c.Day.Hi≤120∧c.Day.Hi - c.Day.Lo≤10
 cnt:0≤c.Count.Lo∧c.Count.Lo≤c.Count.Hi∧c.Count.Hi≤100
theorem zAE{r:Rg}{p:Int→Option Bool}{q:Int→Prop}(hp:∀n,Ev (p n) (q n)):Ev (zs6 r p) (r.Lo≤r.Hi∧q r.Lo∧q r.Hi):=Ev.ite fun _=>Ev.and (hp _) fun _=>(hp _).ret
theorem zAF{l:List Tf}(hf:zzn l=0){c:Clm}:Ev (ztc l c) (zAD l c):=by
 refine Ev.imp (Ev.and (zAC hf) fun _=>Ev.and zzv fun _=>Ev.and (K:=c.Day.Hi - c.Day.Lo≤10∧(c.Count.Lo≤c.Count.Hi∧(0≤c.Count.Lo∧c.Count.Lo≤100)∧(0≤c.Count.Hi∧c.Count.Hi≤100))) (zAE (fun _=>zzw)) fun hd=>Ev.gd (fI (by omega)) (Ev.ite fun _=>(zAE (fun _=>zzx)).ret)) ?_
 dsimp only
 exact⟨fun⟨h1,h2,h3,h4⟩=>⟨h1,h2,by omega,by omega⟩,fun h=>by
  have h3:=h.day;have h4:=h.cnt
  exact⟨h.crop,h.val,by omega,by omega⟩⟩
open Classical in
def zAG(c:Clm)(t:Tr):Prop:=(c.Day.Lo≤t.Day∧t.Day≤c.Day.Hi)∧(c.Count.Lo≤t.Count∧t.Count≤c.Count.Hi)
theorem zAH{c:Clm}{t:Tr}:Ev (zsp c t) (zAG c t):=Ev.and zzv fun _=>zzv.ret
def zAI(l:List Tf)(c:Clm)(t:Tr):Int:=c.Value * zzs l c.Crop t.Day t.Count / 100
theorem zAJ{l:List Tf}{cs:List Clm}(hf:zzn l=0)(h5:cs.length≤5)(hc:∀c∈cs,zAD l c):zth l cs=some (⟨l,some fun _=>none⟩,0):=by
 unfold zth;rw[zAB hf,obs,if_pos rfl,if_neg (by omega),(zzI (fun c _=>zAF hf) (zre h5 (by omega))).some_of hc,obs,if_pos rfl]
theorem zAK{l:List Tf}{cs:List Clm}(hf:zzn l=0)(h5:cs.length≤5)(hc:¬ ∀c∈cs,zAD l c):zth l cs=some (⟨[],none⟩,2):=by
 unfold zth;rw[zAB hf,obs,if_pos rfl,if_neg (by omega),(zzI (fun c _=>zAF hf) (zre h5 (by omega))).some_not hc,obs,if_neg (by simp)]
theorem zAL{l:List Tf}{c:Clm}(hc:zAD l c){t:Tr}(ht:zAG c t):zAx l ⟨t.Day,t.Count,c.Crop⟩:=by
 have h1:=hc.day;have h2:=hc.cnt;obtain⟨h3,h4⟩:=ht;exact⟨hc.crop,by show 0≤t.Count∧t.Count≤100; omega,by show 0≤t.Day∧t.Day≤120; omega⟩
theorem zAM{l:List Tf}(hf:zzn l=0){h:Ht}(hh:zAx l h):0≤zzs l h.crop h.Day h.Count∧zzs l h.crop h.Day h.Count≤100:=
 (zzo.1 hf).2.part_rng hh.c.1 hh.c.2 hh.n.1 hh.n.2 _
theorem zAN{v p:Int}(hv:0≤v∧v≤100000)(hp:0≤p∧p≤100):0≤v * p∧v * p≤10000000:=by
 refine⟨Int.mul_nonneg hv.1 hp.1,?_⟩;have h1:v * p≤100000 * p:=Int.mul_le_mul_of_nonneg_right hv.2 hp.1
 omega
theorem zAO{l:List Tf}(hf:zzn l=0){M:Option (Ht→Option Int)}(hM:zAw l M){c:Clm}(hc:zAD l c){t:Tr}(ht:zAG c t):∃M',ztj ⟨l,M⟩ c t=some (zAI l c t,M')∧zAw l M':=by
 have hh:=zAL hc ht;obtain⟨M',h1,h2⟩:=zAz hf hM hh;have hp:=zAM hf hh;have hv:=zAN hc.val hp;have hval:=hc.val;refine⟨M',?_,h2⟩;unfold ztj;rw[h1,obs]
 dsimp only at hp hv ⊢
 rw[zqf (by omega),zqf (by omega),zqf (fI (by omega)),zqf (by omega),zqf (by omega),zqf (fI (by omega))]
 rfl
theorem zAP{α:Type}{a:α}{P:α→Prop}:(∀x∈[a],P x)↔P a:=by simp
theorem zAQ{l:List Tf}(hf:zzn l=0){c:Clm}(hc:zAD l c){t:Tr}(ht:zAG c t):ztr l c t=some (zAI l c t,0):=by
 obtain⟨M',h1,_⟩:=zAO hf zAA hc ht;unfold ztr; rw[zAJ hf (by simp) (zAP.2 hc),obs,if_pos rfl,zAH.some_of ht,obs,if_pos rfl,h1,obs]
end
end Go.Proofs.YteojndcmgpiklaaGreat

namespace Go.Proofs.YteojndcmgpiklaaGreat
open _root_.Go.Proofs.Tryz
open Go.Abs
set_option maxRecDepth 100000
noncomputable section
theorem zAR{l:List Int}(h:l ≠ [])(hl:l.length < 9223372036854775807):zsB l=some (zrg l):=by
 cases l with
 | nil=>exact absurd rfl h
 | cons x l=>
  unfold zsB;rw[if_neg (by simp; omega),zq5 rfl,obs]
  have key:=zrf (l:=x::l) (fun s a=>min s a) (fun d s k=>zsA (x::l) d s k) some (fun d k s a ha=>by
   have hk:=(List.getElem?_eq_some_iff.1 ha).1;rw[zsA,if_pos (by omega),zq2 ha,obs]
   by_cases hc:a < s
   ·rw[if_pos hc,zqf (fI (by omega)),Int.min_eq_right (by omega)]
   ·rw[if_neg hc,zqf (fI (by omega)),Int.min_eq_left (by omega)]) (fun d s=>by rw[zsA,if_neg (Int.lt_irrefl _)]) ((x::l).length+1) 0 x (Nat.zero_le _) (by omega)
  refine key.trans ?_;rw[List.drop_zero]
  show some (l.foldl min (min x x))=_
  rw[Int.min_self]; rfl
theorem zAS{l:List Int}(h:l ≠ [])(hl:l.length < 9223372036854775807):zsD l=some (zrh l):=by
 cases l with
 | nil=>exact absurd rfl h
 | cons x l=>
  unfold zsD;rw[if_neg (by simp; omega),zq5 rfl,obs]
  have key:=zrf (l:=x::l) (fun s a=>max s a) (fun d s k=>zsC (x::l) d s k) some (fun d k s a ha=>by
   have hk:=(List.getElem?_eq_some_iff.1 ha).1
   rw[zsC,if_pos (by omega),zq2 ha,obs,zqf (fI (by omega))]) (fun d s=>by rw[zsC,if_neg (Int.lt_irrefl _)]) ((((x::l).length:Int) - 1).toNat+1) 1 x (by simp) (by simp only[List.length_cons]; omega)
  exact key
theorem w68{a100:C}{a101:Int}{a102:Int}{a103:C}{a104:C}{a200:C}{m:M}{Q:V→M→Prop}(h:(∀m0:M,(m0=M.new m (AO.cells 5 [a100,Il a101,Il a102,a103,a104] false)) →  ∀m1:M,(m1=M.new m0 (AO.cells 1 [a200] false))→∀m2:M,(m2=M.new m1 (AO.cells 2 [Il 0,Il 0] false))→∀m3:M,(m3=M.new m2 (AO.cells 1 [C.sl0] false)) →  ∃c4:C,∃x5 x6,∃c7:C,∃c8:C,ldA m3 (.ptr m.nxt 0) 5=some [c4,Il x5,Il x6,c7,c8]∧Wc prog tbl 100 [(.agg 5 [c4,Il x5,Il x6,c7,c8])] m3 (fun v9 m10=>∃c11:C,(v9=.c c11) ∧  zoA prog tbl c11 m10 (fun l12 m13 R14 R15=>∃x16 x17 x18,∃x19 x20 x21,l12=[(.agg 6 [Il x16,Il x17,Il x18,Il x19,Il x20,Il x21])]∧∀m22:M,(m22=M.new m13 (AO.cells 6 [Il 0,Il 0,Il 0,Il 0,Il 0,Il 0] false))→∃m23:M,(stC m22 (.ptr m13.nxt 0) 6 [Il x16,Il x17,Il x18,Il x19,Il x20,Il x21]=some m23) ∧  R14 m23 (fun m24=>∃c25:C,(ldC m24 (.ptr m2.nxt 0)=some c25) ∧  isPt (.ptr m0.nxt 0)∧∃c26:C,(ldC m24 (.ptr m0.nxt 0)=some c26) ∧  ∃x27 x28 x29 x30 x31 x32,(ldA m24 (.ptr m13.nxt 0) 6=some [Il x27,Il x28,Il x29,Il x30,Il x31,Il x32]) ∧  zmq prog tbl [(.agg 6 [Il x27,Il x28,Il x29,Il x30,Il x31,Il x32])] c26 m24 (fun v33 m34=> ∃x35,v33=.c (Il x35)∧(ifB (cmC c25) (ldC m34 (.ptr m2.nxt 0)=some c25) False) ∧  ∀m36:M,(m36=M.new m34 (AO.cells 1 [Il x35] false)) →  (ifB (cmC c25) (ldC m36 (.ptr m2.nxt 0)=some c25) False)∧∃c37:C,∃m38:M,(ApR prog 29 m36 c25 (.sl m34.nxt 0 1 0 (some 1)) c37 m38) ∧  ∃m39:M,stC m38 (.ptr m2.nxt 0) 1 [c37]=some m39∧R15 Ex.nrm m39))) (zoq.mk (fun m40=> ∃c41:C,ldC m40 (.ptr m2.nxt 0)=some c41∧Wc prog tbl 101 [.c c41] m40 (fun v42 m43=> ∃x44,v42=.c (Il x44)∧∃c45:C,(ldC m43 (.ptr m2.nxt 0)=some c45) ∧  (ifB (cmC c45) (ldC m40 (.ptr m2.nxt 0)=some c45) False)∧Wc prog tbl 102 [.c c45] m43 (fun v46 m47=> ∃x48,v46=.c (Il x48)∧∃m49:M,stC m47 (.ptr m1.nxt 0) 2 [Il x44,Il x48]=some m49∧∃x50 x51,(ldA m49 (.ptr m1.nxt 0) 2=some [Il x50,Il x51]) ∧  Q (.agg 2 [Il x50,Il x51]) m49))) [] (fun m52=> ∃x53 x54,ldA m52 (.ptr m1.nxt 0) 2=some [Il x53,Il x54]∧Q (.agg 2 [Il x53,Il x54]) m52))))):Wc prog tbl 68 [(.agg 5 [a100,Il a101,Il a102,a103,a104]),(.agg 1 [a200])] m Q:= zpB (n:=2) rfl (by kernel_rfl) (by kernel_rfl) h
theorem zAT{l l':List Int}(h:l.Perm l')(hn:l ≠ []):zrg l=zrg l':=by
 have hn':l' ≠ []:=fun he=>hn (by rw[he] at h; exact List.Perm.eq_nil h);have a:=zrk hn;have b:=zrk hn';exact Int.le_antisymm (a.2 _ (h.symm.subset b.1)) (b.2 _ (h.subset a.1))
theorem zAU{l l':List Int}(h:l.Perm l')(hn:l ≠ []):zrh l=zrh l':=by
 have hn':l' ≠ []:=fun he=>hn (by rw[he] at h; exact List.Perm.eq_nil h);have a:=zrl hn;have b:=zrl hn';exact Int.le_antisymm (b.2 _ (h.subset a.1)) (a.2 _ (h.symm.subset b.1))
def zAV(f:M)(x:C)(g:Ver→Option (Int)):Prop:=∀(f' m:M) (a0:Ver) (r:Int) (Q:V→M→Prop),Sub f f'→Pre f' m→g a0=some r→(∀m',Ext m m'→Q (.c (.int .i64 r)) m')→zmq prog tbl [.agg 6 [(.int .i64 a0.fee),(.int .i64 a0.pence),(.int .i64 a0.fields.f0),(.int .i64 a0.fields.f1),(.int .i64 a0.fields.f2),(.int .i64 a0.fields.f3)]] x m Q
theorem zAV.sub{f m:M}{x:C}{g:Ver→Option (Int)}(h:zAV f x g)(s:Sub f m):zAV m x g:=fun f' m' a0 r Q hs=>h f' m' a0 r Q (s.trans hs)
def zAW(xs:List Int):List C:=xs.map (C.int .i64)
theorem zAX:∃el,tk prog 29=.sl el∧zct prog el=true∧prog.cellsOf el=1∧prog.bytesOf el=8:=⟨3,by kernel_rfl,by kernel_rfl,by kernel_rfl,by kernel_rfl⟩
structure BdI (f1:M) (L A qb:Nat) (a200 cp:C) (Mz:Option (Clm→Option Int)) (rec_:AO) (ask:Ver→Option Int) (d:List Ver) (S:Nat→Prop) (m:M):Prop where
 ex:∃ca xs,zuR ask d=some xs∧Bk m A 1 [ca]∧zpX m 1 ca (zAW xs) d.length∧(∀b,S b↔b=L∨b=A∨∃o n s c,ca=.sl b o n s c)∧¬ (∃o n s c,ca=.sl A o n s c)∧¬ (∃o n s c,ca=.sl L o n s c)∧(∀b,(∃o n s c,ca=.sl b o n s c)→L < b)
 rc:m.g L=some rec_
 lt:L < m.nxt
 q:Bk m qb 1 [a200]
 sub:Sub f1 m
 mi:Mi m cp Mz
theorem zAY{m:M}{k n:Nat}{x:C}{vs:List C}(h:zpX m k x vs n){b:Nat}(hb:∃o n s c,x=.sl b o n s c):b < m.nxt:=by
 obtain⟨o,n',s,c,he⟩:=hb;exact h.lt he
theorem zAZ{n0 L A qb N:Nat}{f1:M}{a200 cp:C}{Mz:Option (Clm→Option Int)}{mk:LoopState→Option Code→AO}{ask:Ver→Option Int}{round:zow}(hy:Go.Abs.zoz prog tbl mk L round)(hn0:n0=L+1)(hAL:A < L)(hqA:qb ≠ A)(hq:qb < n0)(hqL:qb ≠ L)(hf1:f1.nxt≤L)(hfz:∀b,f1.nxt≤b→f1.g b=none)(hfv:∀b,f1.nxt≤b→f1.vw b=none)(hfA:f1.g A=none∧f1.vw A=none)(hcp:∀b,cp=.map b→b < n0∧b ≠ A∧b ≠ L)(hF:zAV f1 a200 ask)(hN:N * 8≤140737488355328)
  (hround:∀ v m1 (R14:M→(M→Prop)→Prop) (R15:Ex→M→Prop),
   (∀ m22:M,m22=M.new m1 (AO.cells 6 [(C.int IntKind.i64 (0:Int)),(C.int IntKind.i64 (0:Int)),(C.int IntKind.i64 (0:Int)),(C.int IntKind.i64 (0:Int)),(C.int IntKind.i64 (0:Int)),(C.int IntKind.i64 (0:Int))] false)→(∃ m23:M,
    ((stC m22 (C.ptr (m1).nxt 0) 6 (zyW v))=(Option.some m23)) ∧
    (R14 m23 (fun m24=>(∃ c25:C,(((ldC m24 (C.ptr A 0))=(Option.some c25))∧(isPt (C.ptr qb 0)∧(∃ c26:C,(((ldC m24 (C.ptr qb 0))=(Option.some c26)) ∧
     (∃x27:Int,(∃x28:Int,(∃x29:Int,(∃x30:Int,(∃x31:Int,(∃x32:Int,(((ldA m24 (C.ptr (m1).nxt 0) 6)=(Option.some [(C.int IntKind.i64 x27),(C.int IntKind.i64 x28),(C.int IntKind.i64 x29),(C.int IntKind.i64 x30),(C.int IntKind.i64 x31),(C.int IntKind.i64 x32)])) ∧
     (zmq prog tbl [(V.agg 6 [(C.int IntKind.i64 x27),(C.int IntKind.i64 x28),(C.int IntKind.i64 x29),(C.int IntKind.i64 x30),(C.int IntKind.i64 x31),(C.int IntKind.i64 x32)])] c26 m24 (fun v33 m34=>
      (∃x35:Int,((v33=(V.c (C.int IntKind.i64 x35)))∧((ifB (cmC c25) ((ldC m34 (C.ptr A 0))=(Option.some c25)) False) ∧
      (∀m36:M,((m36=(M.new m34 (AO.cells 1 [(C.int IntKind.i64 x35)] false)))→((ifB (cmC c25) ((ldC m36 (C.ptr A 0))=(Option.some c25)) False)∧(∃c37:C,
      (∃m38:M,((ApR prog 29 m36 c25 (C.sl (m34).nxt 0 1 0 (Option.some 1)) c37 m38)∧(∃m39:M,(((stC m38 (C.ptr A 0) 1 [c37])=(Option.some m39))∧(R15 Ex.nrm m39)))))))))))))))))))))))))))))) →
   round [.agg 6 (zyW v)] m1 R14 R15) :
  zyY n0 L N (fun v=>ask v ≠ none) (BdI f1 L A qb a200 cp Mz (mk .ready none) ask):=by
 refine⟨fun d S m m' h hn hv hs h0=>?_,fun d S m h b hb=>?_,fun d v S m h hd hA Q hQ=>?_⟩
 ·obtain⟨⟨ca,xs,q1,q2,q3,q4,q5,q6,q7⟩,h2,h3,h4,h5,h6⟩:=h;refine⟨⟨ca,xs,q1,⟨(hs A ((q4 A).2 (.inr (.inl rfl)))).trans q2.g,Nat.lt_of_lt_of_le q2.lt hn⟩,q3.to hn (fun b _ ⟨s,c,he⟩=>hs b ((q4 b).2 (.inr (.inr ⟨_,_,_,_,he⟩)))),q4,q5,q6,q7⟩,(hs L ((q4 L).2 (.inl rfl))).trans h2,by omega,⟨(h0 qb hq).trans h4.g,Nat.lt_of_lt_of_le h4.lt hn⟩,⟨Nat.le_trans h5.nxt hn,hv.trans h5.vw,fun b hb hd=>(h0 b (by omega)).trans (h5.g b hb hd)⟩,h6.to hn fun b hb=>h0 b (hcp b hb).1⟩
 ·obtain⟨⟨ca,xs,q1,q2,q3,q4,q5,q6,q7⟩,h2,h3,h4,h5,h6⟩:=h
  rcases (q4 b).1 hb with rfl | rfl | hb
  ·exact h3
  ·exact q2.lt
  ·exact zAY q3 hb
 ·obtain⟨⟨ca,xs,q1,q2,q3,q4,q5,q6,q7⟩,h2,h3,h4,h5,h6⟩:=h
  obtain⟨x,hx⟩:∃x,ask v=some x:=by
   cases hv:ask v with
   | none=>exact absurd hv hA
   | some x=>exact⟨x,rfl⟩
  refine hy _ m Q h2 (hround v m _ _ fun m22 e22=>?_);obtain⟨b22,x22⟩:=Bk.new e22
  have n22:m22.nxt=m.nxt+1:=by rw[e22]; rfl
  refine⟨_,b22.st (zyW v),?_⟩;have k23:=b22.set (zyW v);have x23:Ext m (m22.set m.nxt (.cells 6 (zyW v) false)):=x22.setR (Nat.le_refl _) _;have n23:(m22.set m.nxt (.cells 6 (zyW v) false)).nxt=m.nxt+1:=n22;generalize m22.set m.nxt (.cells 6 (zyW v) false)=m23 at k23 x23 n23 ⊢;refine⟨(x23.g L h3).trans h2,?_⟩
  have g24:∀b,b < m.nxt→b ≠ L→(m23.set L (mk .busy none)).g b=m.g b:=fun b hb hne=>by rw[M.g_set,if_neg hne]; exact x23.g b hb
  have k24:Bk (m23.set L (mk .busy none)) m.nxt 6 (zyW v):=k23.setNe (by omega) _
  have l24:(m23.set L (mk .busy none)).g L=some (mk .busy none):=by rw[M.g_set,if_pos rfl]
  have n24:(m23.set L (mk .busy none)).nxt=m.nxt+1:=n23;have v24:(m23.set L (mk .busy none)).vw=m.vw:=x23.vw;generalize m23.set L (mk .busy none)=m24 at g24 k24 l24 n24 v24 ⊢;have A24:Bk m24 A 1 [ca]:=⟨(g24 A q2.lt (by omega)).trans q2.g,by have:=q2.lt; omega⟩;have Q24:Bk m24 qb 1 [a200]:=⟨(g24 qb h4.lt hqL).trans h4.g,by have:=h4.lt; omega⟩;have sub24:Sub f1 m24:=⟨by have:=h5.nxt; omega,v24.trans h5.vw,fun b hb hd=>(g24 b (by have:=h5.nxt; omega) (by omega)).trans (h5.g b hb hd)⟩;have o24:zpX m24 1 ca (zAW xs) d.length:=q3.to (by omega) fun b hb ⟨s,c,he⟩=>g24 b hb (by have:=q7 b ⟨_,_,_,_,he⟩; omega);refine⟨_,A24.rc rfl,trivial,_,Q24.rc rfl,_,_,_,_,_,_,k24.ra,?_⟩;refine hF f1 m24 v x _ (.refl f1) ⟨sub24,hfz,hfv⟩ hx fun m34 e34=>⟨_,rfl,?_,fun m36 e36=>?_⟩
  ·rw[zoM o24.ls.noFn]; exact(A24.ext e34).rc rfl
  obtain⟨b36,x36⟩:=Bk.new e36;have e46:=e34.trans x36
  have n36:m36.nxt=m34.nxt+1:=by rw[e36]; rfl
  refine⟨by rw[zoM o24.ls.noFn]; exact(A24.ext e46).rc rfl,?_⟩;obtain⟨el,t1,t2,t3,t4⟩:=zAX;obtain⟨m38,p1,p2,p3,p4,p5⟩:=zpY (P:=prog) t1 t2 t3 (o24.ext e46) (Ls.one b36.g rfl b36.lt 0 (some 1)) (by omega) (by omega) (by rw[t4]; omega)
  have A38:Bk m38 A 1 [ca]:=⟨(p5 A (by have:=q2.lt; have:=e46.nxt; omega) fun he=>by
   obtain⟨o,n,s,hc⟩:=zqc he
   exact q5 ⟨_,_,_,_,hc⟩).trans (A24.ext e46).g,by have:=(A24.ext e46).lt; omega⟩
  refine⟨_,m38,p1,_,A38.st _,?_⟩
  have g38:∀b,b < m.nxt→b ≠ L→slB ca ≠ some b→m38.g b=m.g b:=fun b hb hne hsl=>by
   rw[p5 b (by have:=e46.nxt; omega) hsl,e46.g b (by omega)]; exact g24 b hb hne
  have l38:m38.g L=some (mk .busy none):=by
   rw[p5 L (by have:=e46.nxt; omega) (fun he=>by
    obtain⟨o,n,s,hc⟩:=zqc he
    exact q6 ⟨_,_,_,_,hc⟩),e46.g L (by omega)]
   exact l24
  have n38:m.nxt≤m36.nxt:=by have:=e46.nxt; omega
  refine⟨⟨_,_,by rw[M.g_set,if_neg (by omega)]; exact l38⟩,?_⟩
  have hslS:∀b,slB ca=some b→S b:=fun b hb=>by
   obtain⟨o,n,s,hc⟩:=zqc hb;exact(q4 b).2 (.inr (.inr ⟨_,_,_,_,hc⟩))
  have g40:∀b,b ≠ L→b ≠ A→((m38.set A (.cells 1 [.sl m36.nxt 0 (d.length+1) 1 none] false)).set L (mk .ready none)).g b=m38.g b:=fun b h1 h2=>by rw[M.g_set,if_neg h1,M.g_set,if_neg h2]
  have a40:((m38.set A (.cells 1 [.sl m36.nxt 0 (d.length+1) 1 none] false)).set L (mk .ready none)).g A=some (.cells 1 [.sl m36.nxt 0 (d.length+1) 1 none] false):=by rw[M.g_set,if_neg (by omega),M.g_set,if_pos rfl]
  have l40:((m38.set A (.cells 1 [.sl m36.nxt 0 (d.length+1) 1 none] false)).set L (mk .ready none)).g L=some (mk .ready none):=by rw[M.g_set,if_pos rfl]
  have n40:((m38.set A (.cells 1 [.sl m36.nxt 0 (d.length+1) 1 none] false)).set L (mk .ready none)).nxt=m36.nxt+1:=p3;have v40:((m38.set A (.cells 1 [.sl m36.nxt 0 (d.length+1) 1 none] false)).set L (mk .ready none)).vw=m.vw:=p4.trans (e46.vw.trans v24);generalize (m38.set A (.cells 1 [.sl m36.nxt 0 (d.length+1) 1 none] false)).set L (mk .ready none)=m40 at g40 a40 l40 n40 v40 ⊢
  have gg:∀b,b < m.nxt→¬ S b→m40.g b=m.g b:=fun b hb hS=>by
   rw[g40 b (fun h=>hS ((q4 b).2 (.inl h))) (fun h=>hS ((q4 b).2 (.inr (.inl h))))];exact g38 b hb (fun h=>hS ((q4 b).2 (.inl h))) fun h=>hS (hslS b h)
  have hold:∀b,b < n0→b ≠ A→b ≠ L→m40.g b=m.g b:=fun b hb h1 h2=>gg b (by omega) fun hS=>by
   rcases (q4 b).1 hS with h | h | h
   ·exact h2 h
   ·exact h1 h
   ·have:=q7 b h; omega
  refine hQ (fun b=>b=L∨b=A∨b=m36.nxt) m40 (fun b hb=>?_) ⟨by omega,gg,v40⟩ ⟨⟨.sl m36.nxt 0 (d.length+1) 1 none,xs++[x],?_,⟨a40,by have:=q2.lt; omega⟩,?_,fun b=>?_,?_,?_,fun b hb=>?_⟩,l40,by omega,⟨(hold qb hq hqA hqL).trans h4.g,by have:=h4.lt; omega⟩,⟨by have:=h5.nxt; omega,v40.trans h5.vw,fun b hb hd=>(hold b (by omega) (fun h=>by subst h; exact hd.elim (fun h=>h hfA.1) fun h=>h hfA.2) (by omega)).trans (h5.g b hb hd)⟩,h6.to (by omega) fun b hb=>hold b (hcp b hb).1 (hcp b hb).2.1 (hcp b hb).2.2⟩
  ·rcases hb with h | h | h
   ·exact .inl ((q4 b).2 (.inl h))
   ·exact .inl ((q4 b).2 (.inr (.inl h)))
   ·exact .inr (by omega)
  ·exact zuY hx q1
  ·have:zpX m38 1 (.sl m36.nxt 0 (d.length+1) 1 none) (zAW (xs++[x])) (d.length+1):=by
    unfold zAW at p2 ⊢;rw[List.map_append]; exact p2
   rw[List.length_append]
   exact this.to (by omega) fun b hb ⟨s,c,he⟩=>by
    cases he
    exact g40 _ (by omega) (by have:=q2.lt; omega)
  ·constructor
   ·rintro (h | h | h)
    ·exact .inl h
    ·exact .inr (.inl h)
    ·exact .inr (.inr ⟨_,_,_,_,by rw[h]⟩)
   ·rintro (h | h | ⟨o,n,s,c,h⟩)
    ·exact .inl h
    ·exact .inr (.inl h)
    ·cases h; exact .inr (.inr rfl)
  ·rintro⟨o,n,s,c,h⟩
   cases h
   have:=q2.lt
   omega
  ·rintro⟨o,n,s,c,h⟩
   cases h
   omega
  ·obtain⟨o,n,s,c,h⟩:=hb
   cases h
   omega
open Classical in
def tgB(A R:Nat)(cp:C):Nat→Nat:=fun b=>if b=A then 2 else if b=R then 3 else if cp=.map b then 1 else 4
theorem zA0{w:UWk}{q:Qn}{ca100 ca103 ca104 a200:C}{m f:M}{Q:V→M→Prop}{rz:Rg × Option (Clm→Option Int)}(hS:Pre f m)(ha100:Sl f ca100 w.c.Tariffs)(ha103:Sl f ca103 w.c.Fields)(ha104:Mc f m ca104 w.payments)(hF:zAV f a200 q.ask)(hp:zuU w q=some rz)
    (hq:∀m',zqC ca104 m m'→Mi m' ca104 rz.2→Q (.agg 2 [Il rz.1.Lo,Il rz.1.Hi]) m'):Wc prog tbl 68 [.agg 5 [ca100,Il w.c.Day,Il w.c.Fee,ca103,ca104],.agg 1 [a200]] m Q:=by
 obtain⟨r,hr,z⟩:=zqd (show(zuS w w.c.Fields w.payments).bind _=some rz from hp);obtain⟨hlen,D⟩:=zqe z;obtain⟨vs,hvs,t⟩:=zqd D;obtain⟨⟨hN,hne⟩,h4⟩:=zqe t;obtain⟨xs,hxs,h5⟩:=zqd h4;obtain rfl:=oi h5
 clear z D t h4 h5 hp
 have S0:=hS.stM ha104;obtain⟨τ0,M0⟩:∃τ,Mo (Fm.mp m ca104) f τ m 1 ca104 w.payments:=⟨_,ha104.mo 1⟩;refine w68 ?_;intro m0 e0;obtain⟨τ1,S1,k1,Lw⟩:=S0.blk e0 τ0 2;have M1:=M0.k k1;intro j e1;obtain⟨τ2,S2,k2,Lq⟩:=S1.blk e1 τ1 3;have Lw:=Lw.k k2;have M2:=M1.k k2;intro i e2;obtain⟨τ3,S3,k3,Lr⟩:=S2.blk e2 τ2 4;have Lw:=Lw.k k3;have Lq:=Lq.k k3;have M3:=M2.k k3;intro m3 e3;obtain⟨τ4,S4,F,La⟩:=S3.blk e3 τ3 5;have Lw:=Lw.k F;have Lq:=Lq.k F;have Lr:=Lr.k F;have M4:=M3.k F;refine⟨_,_,_,_,_,Lw.bk.ra,?_⟩;refine zv7 fun a Y=>⟨_,rfl,?_⟩;obtain⟨τ5,S5,G,Lx⟩:=S4.blk Y τ4 6;have Lq:=Lq.k G;have Lr:=Lr.k G;have La:=La.k G;have M5:=M4.k G;obtain⟨f1,e,I,Wf⟩:=Lx.freeze S5;have Lq:=Lq.k I;have Lr:=Lr.k I;have La:=La.k I;have M6:=M5.k I;intro mk hy;have eL:a.new (mk .ready none)=a.new (mk .ready none):=rfl;obtain⟨x,J⟩:=e.new eL τ5 7;have Lq:=Lq.k J;have Lr:=Lr.k J;have La:=La.k J;have O:=M6.k J
 have rL:(a.new (mk .ready none)).g a.nxt=some (mk .ready none):=by rw[M.g_new,if_pos rfl]
 have nL:(a.new (mk .ready none)).nxt=a.nxt+1:=rfl
 have q0:m0.nxt=m.nxt+1:=by rw[e0]; rfl
 have q1:j.nxt=m.nxt+2:=by rw[e1]; show m0.nxt+1=_; omega
 have q2:i.nxt=m.nxt+3:=by rw[e2]; show j.nxt+1=_; omega
 have q3:m3.nxt=m.nxt+4:=by rw[e3]; show i.nxt+1=_; omega
 have bb:a.nxt=m.nxt+5:=by rw[Y]; show m3.nxt+1=_; omega
 generalize hmL:a.new (mk .ready none)=mL at *
 have hcp:∀b,ca104=.map b→b < m.nxt:=fun b hb=>(ha104.own b hb).2.2;have hfA:f1.g i.nxt=none∧f1.vw i.nxt=none:=⟨La.nf,x.v0 _ La.new⟩;have hcli:=zAZ (n0:=a.nxt+1) (L:=a.nxt) (A:=i.nxt) (qb:=m0.nxt) (N:=vs.length) (f1:=f1) (a200:=a200) (cp:=ca104) (Mz:=r.2) (mk:=mk) (ask:=q.ask) hy rfl (by omega) (by omega) (by omega) (by omega) e.sub.nxt e.fz e.fv hfA (fun b hb=>by have:=hcp b hb; omega) (hF.sub e.fs) (by omega) (fun v j cb db h=>⟨_,_,_,_,_,_,rfl,h⟩)
 show Wc prog tbl 130 [.c (.fn (.yield a.nxt) [] []),.c (.ptr m3.nxt 0)] mL _
 refine zy8 (w:=w) (S:=fun b=>b=a.nxt∨b=i.nxt) (rz:=r) (vs:=vs) hcli x.pre Wf (ha100.sub e.fs) (ha103.sub e.fs) (O.mc x) hr hlen hvs (Nat.le_refl _) (fun u hu=>zuZ hxs u hu) (by omega) (fun m' e' mi'=>?_) (fun b hb=>by omega) (fun b hb=>?_) (fun b hb hc=>by have:=hcp b hc; omega) fun vs' S' m8 p hpv P ho hch hI=>?_
 ·-- before any verdict
  have hg:∀b,b < mL.nxt→m.nxt≤b→m'.g b=mL.g b:=fun b hb hm=>e'.g b hb fun hc=>by have:=hcp b hc; omega
  refine⟨⟨.sl0,[],rfl,⟨(hg _ (by omega) (by omega)).trans La.bk.g,by have:=e'.nxt; omega⟩,zpX.nil' _ _,fun b=>⟨fun h=>h.elim .inl fun h=>.inr (.inl h),fun h=>?_⟩,?_,?_,?_⟩,(hg _ (by omega) (by omega)).trans rL,by have:=e'.nxt; omega,⟨(hg _ (by omega) (by omega)).trans Lq.bk.g,by have:=e'.nxt; omega⟩,?_,mi'⟩
  ·rcases h with h | h | ⟨_,_,_,_,h⟩
   ·exact .inl h
   ·exact .inr h
   ·cases h
  ·rintro⟨_,_,_,_,h⟩; cases h
  ·rintro⟨_,_,_,_,h⟩; cases h
  ·rintro b ⟨_,_,_,_,h⟩; cases h
  ·exact zqb x.sub e'.nxt e'.vw (X:=fun b=>ca104=.map b) (fun b hb=>⟨(O.own b hb).2.1,x.v0 b (O.own b hb).1⟩) e'.g
 ·rcases hb with rfl | rfl
  ·exact⟨e.fz _ e.sub.nxt,e.fv _ e.sub.nxt⟩
  ·exact hfA
 ·-- behind the loop
  obtain⟨⟨ca,ys,T,u2,u3,u4,u5,u6,u7⟩,i2,i3,i4,i5,i6⟩:=hI;refine⟨_,_,i2,(fun h=>by cases h),?_⟩
  show zoq.nrm _ (p.del a.nxt)
  have hd:∀b,b ≠ a.nxt→(p.del a.nxt).g b=p.g b:=fun b hb=>by rw[M.g_del,if_neg hb]
  have nd:(p.del a.nxt).nxt=p.nxt:=rfl;have vd:(p.del a.nxt).vw=p.vw:=rfl;generalize p.del a.nxt=l at hd nd vd ⊢;have hnx:mL.nxt≤p.nxt:=Nat.le_trans P.nxt hch.nxt;have hvw:p.vw=mL.vw:=hch.vw.trans P.vw
  have Z:∀b,b < mL.nxt→b ≠ a.nxt→b ≠ i.nxt→ca104 ≠ .map b→l.g b=mL.g b:=fun b hb z D t=>by
   rw[hd b z,hch.g b (Nat.lt_of_lt_of_le hb P.nxt) fun h=>h.elim z D];exact P.g b hb t
  have hextm:∀b,b < m.nxt→ca104 ≠ .map b→l.g b=m.g b:=fun b hb t=>(Z b (by omega) (by omega) (by omega) t).trans (x.ext.g b hb t);have S8:St (Fm.mp m ca104) f f1 l:=⟨⟨by show m.nxt≤_; omega,hextm,(vd.trans hvw).trans x.ext.vw⟩,⟨by have:=i5.nxt; omega,vd.trans i5.vw,fun b hb hdd=>(hd b (by have:=e.sub.nxt; omega)).trans (i5.g b hb hdd)⟩,e.fz,e.fv,e.v0,e.fs,e.old⟩
  have hAr:i.nxt ≠ j.nxt:=by omega
  have tA:tgB i.nxt j.nxt ca104 i.nxt=2:=by unfold tgB; rw[if_pos rfl]
  have tR:tgB i.nxt j.nxt ca104 j.nxt=3:=by unfold tgB; rw[if_neg (by omega),if_pos rfl]
  have LA:Lb (Fm.mp m ca104) f1 (tgB i.nxt j.nxt ca104) l 2 i.nxt 1 [ca]:=⟨⟨(hd _ (by omega)).trans u2.g,by have:=u2.lt; omega⟩,La.new,La.nf,tA⟩;have LR:Lb (Fm.mp m ca104) f1 (tgB i.nxt j.nxt ca104) l 3 j.nxt 2 [Il 0,Il 0]:=⟨⟨(Z _ (by omega) (by omega) (by omega) (fun hc=>by have:=hcp _ hc; omega)).trans Lr.bk.g,by omega⟩,Lr.new,Lr.nf,tR⟩;have MM:Mo (Fm.mp m ca104) f1 (tgB i.nxt j.nxt ca104) l 1 ca104 r.2:=⟨i6.to (by omega) fun b hb=>hd b (by have:=hcp b hb; omega),fun b hb=>⟨.inr hb,(O.own b hb).2.1,by have:=hcp b hb; unfold tgB; rw[if_neg (by omega),if_neg (by omega),if_pos hb],by have:=hcp b hb; omega⟩⟩
  have OO:Ow (α:=Int) (Fm.mp m ca104) f1 (tgB i.nxt j.nxt ca104) l 4 ca ys:=by
   refine⟨⟨zAW ys,?_,?_⟩,fun b o n s d he=>?_⟩
   ·rw[zu0 T];exact u3.to (by omega) fun b hb ⟨s,c,he⟩=>hd b fun h=>u6 ⟨_,_,_,_,h ▸ he⟩
   ·clear T u3
    induction ys with
    | nil=>exact rfl
    | cons y ys ih=>exact⟨[Il y],zAW ys,rfl,rfl,ih⟩
   ·have hb:=u7 b ⟨_,_,_,_,he⟩;refine⟨.inl (by show m.nxt≤b; omega),e.fz b (by have:=e.sub.nxt; omega),?_⟩;unfold tgB;rw[if_neg (by omega),if_neg (by omega),if_neg (fun hc=>by have:=hcp b hc; omega)]
  have hyl:ys.length=vs.length:=by rw[zu0 T,hpv.length_eq]
  have hyp:ys.Perm xs:=by
   obtain⟨zs,z1,z2⟩:=zuX hpv.symm hxs;rw[T] at z1
   cases z1
   exact z2
  have hyn:ys ≠ []:=fun h=>hne (List.eq_nil_of_length_eq_zero (by rw[← hyl,h]; rfl));refine⟨_,LA.bk.rc rfl,?_⟩;obtain⟨f2,S9,k9,Sa⟩:=OO.freeze S8;have LA:=LA.k k9;have LR:=LR.k k9;have MM:=MM.k k9;refine zxd S9.pre Sa (zAR hyn (by omega)) fun eb ta=>⟨_,rfl,?_⟩;obtain⟨aa,B⟩:=S9.call ta (tgB i.nxt j.nxt ca104);have ua:=LA.k B;have LR:=LR.k B;have MM:=MM.k B;refine⟨_,ua.bk.rc rfl,?_,?_⟩
  ·rw[zoM Sa.noFn]; exact LA.bk.rc rfl
  refine zxe aa.pre Sa (zAS hyn (by omega)) fun fb va=>⟨_,rfl,?_⟩;obtain⟨wa,ba⟩:=aa.call va (tgB i.nxt j.nxt ca104);have LR:=LR.k ba;have MM:=MM.k ba;obtain⟨xa,ya,za,Aa,LR⟩:=LR.sto wa [(Il (zrg ys)),(Il (zrh ys))];have MM:=MM.k Aa;refine⟨xa,ya,_,_,LR.bk.ra,?_⟩;rw[zAT hyp hyn,zAU hyp hyn];exact hq _ za.extB MM.mi
end
end Go.Proofs.YteojndcmgpiklaaGreat

namespace Go.Proofs.YteojndcmgpiklaaGreat
open _root_.Go.Proofs.Tryz
open Go.Abs
set_option maxRecDepth 100000
noncomputable section
theorem zA1{c:Cse}{ca100 ca103:C}{m f:M}{Q:V→M→Prop}{rz:Rg × Int}(hS:Pre f m)(ha100:Sl f ca100 c.Tariffs)(ha103:Sl f ca103 c.Fields)(hp:zu1 c=some rz)(hq:∀m',Ext m m'→Q (.tup [.agg 2 [Il rz.1.Lo,Il rz.1.Hi],.c (Il rz.2)]) m'):Wc prog tbl 33 [.agg 4 [ca100,Il c.Day,Il c.Fee,ca103]] m Q:=by
 have S0:=hS.st;obtain⟨τ0,_⟩:=zrC;refine w33 ?_;unfold zu1 at hp;intro m0 p;obtain⟨s,t,Aa,u⟩:=S0.blk p τ0 1;intro m1 x;obtain⟨y,e,z,A⟩:=t.blk x s 2;have B:=u.k z;refine⟨_,_,_,_,B.bk.ra,?_⟩;obtain⟨d,D,hp⟩:=zqd hp;refine zym (c:=c) e.pre ha100 ha103 D fun m7 F zvg G I J N O P=>?_;obtain⟨S,T,Y,Z⟩:=e.callN J P y 3;have aa:=A.k Y;refine⟨_,_,_,_,_,_,rfl,?_⟩;intro Fa ba;obtain⟨Ba,ca,g,da⟩:=T.blk ba S 4;have ea:=aa.k g;have fa:=Z.k g;obtain⟨ga,ha,a,h,ia⟩:=da.sto ca [zvg,Il d.1.c.Day,Il d.1.c.Fee,G,I];have i:=ea.k h;have j:=fa.k h;refine⟨ga,ha,?_⟩;refine zqS hp (fun ja hp=>?_) fun ja hp=>?_
 ·obtain⟨ka,la,ma,Ca,na⟩:=i.sto a [Il 0,Il 0];refine⟨ka,la,?_⟩;refine⟨_,_,na.bk.ra,?_⟩;obtain rfl:=oi hp;exact hq _ ma.ext'
 refine⟨_,_,_,_,_,ia.bk.ra,?_⟩
 have n:zAV F ((C.fn (Fn.func 69) [] [])) (fun b=>zt7 b):=by
  intro f' m' b r Q hs hpre  hg hq;exact zyq hpre  hg hq
 obtain⟨l,oa,hp⟩:=zqd hp;refine zA0 (w:=d.1) (q:=({ ask:=(fun b=>zt7 b) }:Qn)) a.pre N O (j.mc a) n oa fun Ga pa o=>?_;obtain⟨qa,sa,Da⟩:=a.callM j pa o;have ta:=i.k sa;refine⟨_,_,rfl,?_⟩;obtain⟨ua,va,wa,Ea,xa⟩:=ta.sto qa [Il l.1.Lo,Il l.1.Hi];refine⟨ua,va,?_⟩;refine⟨_,_,xa.bk.ra,?_⟩;obtain rfl:=oi hp;exact hq _ wa.ext'
theorem zA2{c:Cse}{ca100 ca103:C}{m f:M}{Q:V→M→Prop}{rz:Rg × Rg × Int}(hS:Pre f m)(ha100:Sl f ca100 c.Tariffs)(ha103:Sl f ca103 c.Fields)(hp:zu2 c=some rz)(hq:∀m',Ext m m'→Q (.tup [.agg 2 [Il rz.1.Lo,Il rz.1.Hi],.agg 2 [Il rz.2.1.Lo,Il rz.2.1.Hi],.c (Il rz.2.2)]) m'):Wc prog tbl 34 [.agg 4 [ca100,Il c.Day,Il c.Fee,ca103]] m Q:=by
 have S0:=hS.st;obtain⟨τ0,_⟩:=zrC;refine w34 ?_;unfold zu2 at hp;intro m0 O;obtain⟨P,S,qb,T⟩:=S0.blk O τ0 1;intro m1 Y;obtain⟨Z,aa,ba,ca⟩:=S.blk Y P 2;have da:=T.k ba;intro m2 ea;obtain⟨fa,t,u,ga⟩:=aa.blk ea Z 3;have ha:=da.k u;have ia:=ca.k u;refine⟨_,_,_,_,ha.bk.ra,?_⟩;obtain⟨a,ja,hp⟩:=zqd hp;refine zym (c:=c) t.pre ha100 ha103 ja fun m8 x ka la ma na g h oa=>?_;obtain⟨pa,qa,y,sa⟩:=t.callN na oa fa 4;have ta:=ia.k y;have ua:=ga.k y;refine⟨_,_,_,_,_,_,rfl,?_⟩;intro tb va;obtain⟨rb,wa,i,xa⟩:=qa.blk va pa 5;have ya:=ta.k i;have za:=ua.k i;have Aa:=sa.k i;obtain⟨Ba,Ca,b,j,l⟩:=xa.sto wa [ka,Il a.1.c.Day,Il a.1.c.Fee,la,ma];have z:=ya.k j;have A:=za.k j;have B:=Aa.k j;refine⟨Ba,Ca,?_⟩;refine zqS hp (fun Da hp=>?_) fun Da hp=>?_
 ·obtain⟨Ea,Fa,Ga,Ha,Ia⟩:=z.sto b [Il 0,Il 0];have Ja:=A.k Ha;refine⟨Ea,Fa,?_⟩;obtain⟨Ka,La,Ma,Na,Oa⟩:=Ja.sto Ga [Il 0,Il 0];have Pa:=Ia.k Na;refine⟨Ka,La,?_⟩;refine⟨_,_,Pa.bk.ra,_,_,Oa.bk.ra,?_⟩;obtain rfl:=oi hp;exact hq _ Ma.ext'
 refine⟨_,_,_,_,_,l.bk.ra,?_⟩
 have G:zAV x ((C.fn (Fn.func 70) [] [])) (fun d=>zt8 d):=by
  intro f' m' d r Q hs hpre  hg hq;exact zyr hpre  hg hq
 obtain⟨n,Qa,hp⟩:=zqd hp;refine zA0 (w:=a.1) (q:=({ ask:=(fun d=>zt8 d) }:Qn)) b.pre g h (B.mc b) G Qa fun ub Ra I=>?_;obtain⟨o,p,s⟩:=b.callM B Ra I;have Sa:=z.k p;have Ta:=A.k p;have Ua:=l.k p;refine⟨_,_,rfl,_,_,_,_,_,Ua.bk.ra,(by rw[show zaL cmC _=true from zoN (zqi g.noFn (zqi rfl (zqi rfl (zqi h.noFn (zqi s.mi.noFn zqj)))))]; exact(l.bk.ra)),?_⟩
 have J:zAV x ((C.fn (Fn.func 71) [] [])) (fun e=>zt9 e):=by
  intro f' m' e r Q hs hpre  hg hq;exact zys hpre  hg hq
 obtain⟨D,Va,hp⟩:=zqd hp;refine zA0 (w:=({ c:=a.1.c,payments:=n.2 }:UWk)) (q:=({ ask:=(fun e=>zt9 e) }:Qn)) o.pre g h (s.mc o) J Va fun vb Wa N=>?_;obtain⟨Xa,F,sb⟩:=o.callM s Wa N;have Ya:=Sa.k F;have Za:=Ta.k F;refine⟨_,_,rfl,?_⟩;obtain⟨ab,bb,cb,db,eb⟩:=Ya.sto Xa [Il n.1.Lo,Il n.1.Hi];have fb:=Za.k db;refine⟨ab,bb,?_⟩;obtain⟨gb,hb,ib,jb,kb⟩:=fb.sto cb [Il D.1.Lo,Il D.1.Hi];have mb:=eb.k jb;refine⟨gb,hb,?_⟩;refine⟨_,_,mb.bk.ra,_,_,kb.bk.ra,?_⟩;obtain rfl:=oi hp;exact hq _ ib.ext'
theorem zA3{c:Cse}{ca100 ca103:C}{m f:M}{Q:V→M→Prop}{rz:Rg × Int}(hS:Pre f m)(ha100:Sl f ca100 c.Tariffs)(ha103:Sl f ca103 c.Fields)(hp:zu3 c=some rz)(hq:∀m',Ext m m'→Q (.tup [.agg 2 [Il rz.1.Lo,Il rz.1.Hi],.c (Il rz.2)]) m'):Wc prog tbl 35 [.agg 4 [ca100,Il c.Day,Il c.Fee,ca103]] m Q:=by
 have S0:=hS.st;obtain⟨τ0,_⟩:=zrC;refine w35 ?_;unfold zu3 at hp;intro m0 F;obtain⟨G,I,Ma,J⟩:=S0.blk F τ0 1;intro m1 N;obtain⟨O,n,P,S⟩:=I.blk N G 2;have T:=J.k P;refine⟨_,_,_,_,T.bk.ra,?_⟩;obtain⟨a,Y,hp⟩:=zqd hp;refine zym (c:=c) n.pre ha100 ha103 Y fun m7 o Z aa ba ca g h da=>?_;obtain⟨ea,fa,ga,ha⟩:=n.callN ca da O 3;have ia:=S.k ga;refine⟨_,_,_,_,_,_,rfl,?_⟩;intro Ra ja;obtain⟨Na,ka,p,la⟩:=fa.blk ja ea 4;have ma:=ia.k p;have na:=ha.k p;obtain⟨oa,pa,b,s,i⟩:=la.sto ka [Z,Il a.1.c.Day,Il a.1.c.Fee,aa,ba];have t:=ma.k s;have u:=na.k s;refine⟨oa,pa,?_⟩;refine zqS hp (fun qa hp=>?_) fun qa hp=>?_
 ·obtain⟨sa,ta,ua,Oa,va⟩:=t.sto b [Il 0,Il 0];refine⟨sa,ta,?_⟩;refine⟨_,_,va.bk.ra,?_⟩;obtain rfl:=oi hp;exact hq _ ua.ext'
 refine⟨_,_,_,_,_,i.bk.ra,?_⟩
 have z:zAV o ((C.fn (Fn.func 72) [] [])) (fun d=>zua d):=by
  intro f' m' d r Q hs hpre  hg hq;exact zyt hpre  hg hq
 obtain⟨x,wa,hp⟩:=zqd hp;refine zA0 (w:=a.1) (q:=({ ask:=(fun d=>zua d) }:Qn)) b.pre g h (u.mc b) z wa fun Sa xa A=>?_;obtain⟨j,y,l⟩:=b.callM u xa A;have ya:=t.k y;have za:=i.k y;refine⟨_,_,rfl,_,_,_,_,_,za.bk.ra,(by rw[show zaL cmC _=true from zoN (zqi g.noFn (zqi rfl (zqi rfl (zqi h.noFn (zqi l.mi.noFn zqj)))))]; exact(i.bk.ra)),?_⟩
 have B:zAV o ((C.fn (Fn.func 73) [] [])) (fun e=>zub e):=by
  intro f' m' e r Q hs hpre  hg hq;exact zyu hpre  hg hq
 obtain⟨Aa,Ba,hp⟩:=zqd hp;refine zA0 (w:=({ c:=a.1.c,payments:=x.2 }:UWk)) (q:=({ ask:=(fun e=>zub e) }:Qn)) j.pre g h (l.mc j) B Ba fun Ta Ca D=>?_;obtain⟨Da,Ea,Pa⟩:=j.callM l Ca D;have Fa:=ya.k Ea;refine⟨_,_,rfl,?_⟩;obtain⟨Ga,Ha,Ia,Qa,Ja⟩:=Fa.sto Da [Il x.1.Lo,Il Aa.1.Hi];refine⟨Ga,Ha,?_⟩;refine⟨_,_,Ja.bk.ra,?_⟩;obtain rfl:=oi hp;exact hq _ Ia.ext'
theorem zA4{m f:M}{Q:V→M→Prop}{rz:Bool}(hS:Pre f m)(hp:zu4=some rz)(hq:∀m',Ext m m'→Q (.c (.bool rz)) m'):Wc prog tbl 17 [] m Q:=by
 have S0:=hS.st;obtain⟨τ0,_⟩:=zrC;refine w17 ?_;unfold zu4 at hp;obtain⟨Qa,Ra,hp⟩:=zqd hp;refine zyP S0.pre  Ra fun m1 Nf Of Pf Sa Ta Ua=>?_;obtain⟨ca,Qf⟩:=S0.callG Sa τ0;refine⟨_,_,_,_,rfl,?_⟩;obtain⟨Va,Wa,hp⟩:=zqd hp;refine zyQ (first:=(40:Int)) (u:=(35:Int)) (second:=(17:Int)) ca.pre  Wa fun m7 Rf Sf Xa Ya=>?_;obtain⟨da,ea⟩:=ca.callG Xa τ0;refine⟨_,rfl,?_⟩;obtain⟨r,Za,hp⟩:=zqd hp;refine zyC (c:=Qa) (t:=Va) da.pre (Ta.sub ea.fs) (Ua.sub ea.fs) Ya Za fun Jg Uf ab bb fa=>?_;obtain⟨cb,Vf⟩:=da.callG bb τ0;refine⟨_,_,_,_,_,rfl,?_⟩;intro Kg db;obtain⟨d,eb,Wf,fb⟩:=cb.blk db τ0 1;obtain⟨gb,hb,ga,Xf,ib⟩:=fb.sto eb [ab,Il r.1.Award,Il r.1.Farmer,Il r.1.Society];refine⟨gb,hb,?_⟩;obtain⟨jb,kb,hp⟩:=zqd hp;refine zyP ga.pre  kb fun Lg Yf Zf ag mb ob pb=>?_;obtain⟨ha,ia⟩:=ga.callG mb d;have qb:=ib.k ia;refine⟨_,_,_,_,rfl,?_⟩;obtain⟨rb,sb,hp⟩:=zqd hp;refine zyD (c:=jb) (field:=(0:Int)) ha.pre ob pb sb fun Mg bg cg tb ub=>?_;obtain⟨ja,ka⟩:=ha.callG tb d;have vb:=qb.k ka;refine⟨_,_,rfl,?_⟩;obtain⟨wb,xb,hp⟩:=zqd hp;refine zyP ja.pre  xb fun Ng dg eg fg yb zb Ab=>?_;obtain⟨la,I⟩:=ja.callG yb d;have Bb:=vb.k I;refine⟨_,_,_,_,rfl,?_⟩;obtain⟨gg,Cb,hp⟩:=zqd hp;refine zyE (c:=wb) (field:=(1:Int)) la.pre zb Ab Cb fun Og Db=>?_;obtain⟨ma,Eb⟩:=la.call Db d;have Fb:=Bb.k Eb;refine⟨_,_,rfl,?_⟩;obtain⟨Gb,Hb,hp⟩:=zqd hp;refine zyP ma.pre  Hb fun Pg hg ig jg Ib Jb Kb=>?_;obtain⟨na,J⟩:=ma.callG Ib d;have Mb:=Fb.k J;refine⟨_,_,_,_,rfl,?_⟩;obtain⟨oa,Nb,hp⟩:=zqd hp
 refine zA1 (c:=Gb) na.pre Jb Kb Nb fun Qg Ob=>?_;obtain⟨Pb,Qb⟩:=na.call Ob d;have Rb:=Mb.k Qb;refine⟨_,_,_,rfl,?_⟩;intro Sg Sb;obtain⟨N,Tb,Ub,Vb⟩:=Pb.blk Sb d 2;have Wb:=Rb.k Ub;obtain⟨Xb,Yb,pa,Zb,ac⟩:=Vb.sto Tb [Il oa.1.Lo,Il oa.1.Hi];have bc:=Wb.k Zb;refine⟨Xb,Yb,?_⟩;obtain⟨cc,dc,hp⟩:=zqd hp;refine zyP pa.pre  dc fun Tg kg lg mg ec fc gc=>?_;obtain⟨qa,s⟩:=pa.callG ec N;have hc:=bc.k s;have ic:=ac.k s;refine⟨_,_,_,_,rfl,?_⟩;obtain⟨w,jc,hp⟩:=zqd hp;refine zA2 (c:=cc) qa.pre fc gc jc fun Ug kc=>?_;obtain⟨lc,sa⟩:=qa.call kc N;have nc:=hc.k sa;have pc:=ic.k sa;refine⟨_,_,_,_,_,rfl,?_⟩;intro Vg qc;obtain⟨sc,tc,ta,uc⟩:=lc.blk qc N 3;have vc:=nc.k ta;have wc:=pc.k ta;intro Wg xc;obtain⟨O,yc,P,zc⟩:=tc.blk xc sc 4;have Ac:=vc.k P;have Bc:=wc.k P;have Cc:=uc.k P;obtain⟨Dc,Ec,Fc,S,Gc⟩:=Cc.sto yc [Il w.1.Lo,Il w.1.Hi];have Hc:=Ac.k S;have Ic:=Bc.k S;have Jc:=zc.k S;refine⟨Dc,Ec,?_⟩;obtain⟨Kc,Lc,ua,T,Nc⟩:=Jc.sto Fc [Il w.2.1.Lo,Il w.2.1.Hi];have Pc:=Hc.k T;have Qc:=Ic.k T;have Rc:=Gc.k T;refine⟨Kc,Lc,?_⟩;obtain⟨Tc,Uc,hp⟩:=zqd hp;refine zyP ua.pre  Uc fun Xg ng og pg Vc Xc Yc=>?_;obtain⟨va,i⟩:=ua.callG Vc O;have Zc:=Pc.k i;have ad:=Qc.k i;have bd:=Rc.k i;have cd:=Nc.k i;refine⟨_,_,_,_,rfl,?_⟩;obtain⟨wa,dd,hp⟩:=zqd hp;refine zA3 (c:=Tc) va.pre Xc Yc dd fun Zg ed=>?_;obtain⟨fd,x⟩:=va.call ed O;have hd:=Zc.k x;have id:=ad.k x;have jd:=bd.k x;have kd:=cd.k x;refine⟨_,_,_,rfl,?_⟩;intro ah ld;obtain⟨Y,md,y,nd⟩:=fd.blk ld O 5;have od:=hd.k y;have pd:=id.k y;have qd:=jd.k y;have sd:=kd.k y
 obtain⟨td,ud,xa,z,vd⟩:=nd.sto md [Il wa.1.Lo,Il wa.1.Hi];have wd:=od.k z;have xd:=pd.k z;have yd:=qd.k z;have zd:=sd.k z;refine⟨td,ud,?_⟩;obtain⟨Ad,Bd,hp⟩:=zqd hp;refine zyP xa.pre  Bd fun bh qg rg sg Cd Dd Ed=>?_;obtain⟨ya,e⟩:=xa.callG Cd Y;have Fd:=wd.k e;have Gd:=xd.k e;have Hd:=yd.k e;have Id:=zd.k e;have Jd:=vd.k e;refine⟨_,_,_,_,rfl,?_⟩;obtain⟨Ld,Md,hp⟩:=zqd hp;refine zyF (c:=Ad) ya.pre Dd Ed Md fun Lf tg ug Nd Od=>?_;obtain⟨za,g⟩:=ya.callG Nd Y;have Aa:=Fd.k g;have Pd:=Gd.k g;have Qd:=Hd.k g;have Rd:=Id.k g;have Sd:=Jd.k g;refine⟨_,_,rfl,?_⟩;refine ifd hp (fun Td hp=>?_) fun Td hp=>?_; rotate_left
 ·obtain rfl:=oi hp;exact hq _ za.ext'
 refine⟨_,_,_,_,Aa.bk.ra,?_⟩;intro ch Ud;obtain⟨Ba,Vd,o,Xd⟩:=za.blk Ud Y 6;have Yd:=Aa.k o;have Zd:=Pd.k o;have ae:=Qd.k o;have be:=Rd.k o;have ce:=Sd.k o;refine⟨(by rw[show zaL cmC _=true from zoN (zqi fa.noFn (zqi rfl (zqi rfl (zqi rfl zqj))))]; exact(Yd.bk.ra)),?_⟩;obtain⟨Ca,Da,h,Na⟩:=Xd.freeze Vd;have de:=Zd.k h;have ee:=ae.k h;have fe:=be.k h;have ge:=ce.k h;have he:Sl Ca (C.sl Lf.nxt 0 2 0 (Option.some 2)) ([(35:Int),(18:Int)]:List Int):=Bk.sl (α:=Int) (l:=([(35:Int),(18:Int)]:List Int)) Na (show Cat (α:=Int) Ca [(Il (35:Int)),(Il (18:Int))] ([(35:Int),(18:Int)]:List Int) from ⟨[(Il (35:Int))],_,rfl,rfl,⟨[(Il (18:Int))],_,rfl,rfl,rfl⟩⟩) rfl rfl _;obtain⟨vg,ie,hp⟩:=zqd hp;refine zyN (a:=r.1) (b:=({ Counts:=([(35:Int),(18:Int)]:List Int),Award:=(386:Int),Farmer:=(16:Int),Society:=(15:Int) }:Res)) Da.pre (fa.sub (Sub.trans (Sub.trans (Sub.trans (Sub.trans (Sub.trans (Sub.trans (Sub.trans (Sub.trans ia.fs ka.fs) I.fs) J.fs) s.fs) i.fs) e.fs) g.fs) h.fs)) he ie fun Mf je=>?_;obtain⟨Z,A⟩:=Da.call je Ba;have ke:=de.k A;have me:=ee.k A;have oe:=fe.k A;have pe:=ge.k A;refine⟨_,rfl,?_⟩;refine zqT hp (fun qe hp=>?_) fun qe hp=>?_; rotate_left
 ·obtain rfl:=oi hp;exact hq _ Z.ext'
 refine ifd hp (fun re hp=>?_) fun re hp=>?_; rotate_left
 ·obtain rfl:=oi hp;exact hq _ Z.ext'
 intro dh se;obtain⟨p,te,B,ue⟩:=Z.blk se Ba 7;have ve:=ke.k B;have we:=me.k B;have xe:=oe.k B;have ye:=pe.k B;obtain⟨Ea,Fa,j,Oa⟩:=ue.freeze te;have ze:=ve.k j;have Ae:=we.k j;have Be:=xe.k j;have Ce:=ye.k j;have De:Sl Ea (C.sl Mf.nxt 0 4 0 (Option.some 4)) ([(33:Int),(34:Int),(35:Int),(36:Int)]:List Int):=Bk.sl (α:=Int) (l:=([(33:Int),(34:Int),(35:Int),(36:Int)]:List Int)) Oa (show Cat (α:=Int) Ea [(Il (33:Int)),(Il (34:Int)),(Il (35:Int)),(Il (36:Int))] ([(33:Int),(34:Int),(35:Int),(36:Int)]:List Int) from ⟨[(Il (33:Int))],_,rfl,rfl,⟨[(Il (34:Int))],_,rfl,rfl,⟨[(Il (35:Int))],_,rfl,rfl,⟨[(Il (36:Int))],_,rfl,rfl,rfl⟩⟩⟩⟩) rfl rfl _;obtain⟨wg,Ee,hp⟩:=zqd hp;refine zwP (a:=rb.1) (b:=([(33:Int),(34:Int),(35:Int),(36:Int)]:List Int)) Fa.pre (ub.sub (Sub.trans (Sub.trans (Sub.trans (Sub.trans (Sub.trans (Sub.trans (Sub.trans I.fs J.fs) s.fs) i.fs) e.fs) g.fs) h.fs) j.fs)) De Ee fun xg Fe=>?_;obtain⟨n,D⟩:=Fa.call Fe p;have Ga:=ze.k D;have Ge:=Ae.k D;have He:=Be.k D;have Ie:=Ce.k D;refine⟨_,rfl,?_⟩;refine zqT hp (fun Je hp=>?_) fun Je hp=>?_; rotate_left
 ·obtain rfl:=oi hp;exact hq _ n.ext'
 refine ifd hp (fun Ke hp=>?_) fun Ke hp=>?_; rotate_left
 ·obtain rfl:=oi hp;exact hq _ n.ext'
 refine ifd hp (fun Me hp=>?_) fun Me hp=>?_; rotate_left
 ·obtain rfl:=oi hp;exact hq _ n.ext'
 refine ifd hp (fun Ne hp=>?_) fun Ne hp=>?_; rotate_left
 ·obtain rfl:=oi hp;exact hq _ n.ext'
 refine⟨_,_,Ga.bk.ra,?_⟩;obtain⟨zg,Oe,hp⟩:=zqd hp;refine zyO (low:=(366:Int)) (high:=(398:Int)) n.pre  Oe fun Ag Pe=>?_;obtain⟨F,G⟩:=n.call Pe p;have Qe:=Ga.k G;have Ha:=Ge.k G;have Re:=He.k G;have Se:=Ie.k G;refine⟨_,_,rfl,(Qe.bk.ra),?_⟩;refine gdi hp fun Te hp=>?_;refine gdi hp fun Ue hp=>?_;refine gdi hp fun Ve hp=>?_;refine gdi hp fun We hp=>?_;refine zqT hp (fun Xe hp=>?_) fun Xe hp=>?_; rotate_left
 ·obtain rfl:=oi hp;exact hq _ F.ext'
 refine ifd hp (fun Ye hp=>?_) fun Ye hp=>?_; rotate_left
 ·obtain rfl:=oi hp;exact hq _ F.ext'
 refine⟨_,_,Ha.bk.ra,?_⟩;obtain⟨Bg,Ze,hp⟩:=zqd hp;refine zyO (low:=(0:Int)) (high:=(31:Int)) F.pre  Ze fun Cg af=>?_;obtain⟨q,aa⟩:=F.call af p;have Ia:=Ha.k aa;have bf:=Re.k aa;have Ja:=Se.k aa;refine⟨_,_,rfl,(Ia.bk.ra),?_⟩;refine gdi hp fun cf hp=>?_;refine gdi hp fun df hp=>?_;refine gdi hp fun ef hp=>?_;refine gdi hp fun gf hp=>?_;refine zqT hp (fun hf hp=>?_) fun hf hp=>?_; rotate_left
 ·obtain rfl:=oi hp;exact hq _ q.ext'
 refine⟨_,_,bf.bk.ra,_,_,Ia.bk.ra,?_⟩;refine gdi hp fun jf hp=>?_;refine gdi hp fun kf hp=>?_;refine gdi hp fun lf hp=>?_;refine gdi hp fun mf hp=>?_;refine zqT hp (fun nf hp=>?_) fun nf hp=>?_; rotate_left
 ·obtain rfl:=oi hp;exact hq _ q.ext'
 refine ifd hp (fun pf hp=>?_) fun pf hp=>?_; rotate_left
 ·obtain rfl:=oi hp;exact hq _ q.ext'
 refine⟨_,_,Ja.bk.ra,?_⟩;obtain⟨Dg,qf,hp⟩:=zqd hp;refine zyO (low:=(335:Int)) (high:=(429:Int)) q.pre  qf fun rf sf=>?_;obtain⟨ba,tf⟩:=q.call sf p;have uf:=Ja.k tf;refine⟨_,_,rfl,(uf.bk.ra),?_⟩;refine gdi hp fun vf hp=>?_;refine gdi hp fun wf hp=>?_;refine gdi hp fun xf hp=>?_;refine gdi hp fun yf hp=>?_;refine zqT hp (fun zf hp=>?_) fun zf hp=>?_; rotate_left
 ·obtain rfl:=oi hp;exact hq _ ba.ext'
 refine ifd hp (fun Af hp=>?_) fun Af hp=>?_; rotate_left
 ·obtain rfl:=oi hp;exact hq _ ba.ext'
 intro Eg Bf;obtain⟨Cf,Df,Fg,Ef⟩:=ba.blk Bf p 8;obtain⟨Ka,La,Ff,Pa⟩:=Ef.freeze Df;have Gf:Sl Ka (C.sl rf.nxt 0 1 0 (Option.some 1)) ([(0:Int)]:List Int):=Bk.sl (α:=Int) (l:=([(0:Int)]:List Int)) Pa (show Cat (α:=Int) Ka [Il 0] ([(0:Int)]:List Int) from ⟨[Il 0],_,rfl,rfl,rfl⟩) rfl rfl _;obtain⟨Gg,Hf,hp⟩:=zqd hp;refine zwP (a:=Ld.1) (b:=([(0:Int)]:List Int)) La.pre (Od.sub (Sub.trans (Sub.trans h.fs j.fs) Ff.fs)) Gf Hf fun Hg If=>?_;obtain⟨Jf,Ig⟩:=La.call If Cf;refine⟨_,rfl,?_⟩;obtain rfl:=oi hp;exact hq _ Jf.ext'
theorem zA5{c:Cse}{ca100 ca103:C}{m f:M}{Q:V→M→Prop}{rz:zu5}(hS:Pre f m)(ha100:Sl f ca100 c.Tariffs)(ha103:Sl f ca103 c.Fields)(hp:zu6 c=some rz)(hq:∀m' f' c0 c3,Grw m f m' f'→Sl f' c0 rz.Tariffs→On m f' m' c3 rz.Fields→Q (.agg 4 [c0,Il rz.Day,Il rz.Fee,c3]) m'):Wc prog tbl 52 [.agg 4 [ca100,Il c.Day,Il c.Fee,ca103]] m Q:=by
 have S0:=hS.st;obtain⟨τ0,_⟩:=zrC;refine w52 ?_;unfold zu6 at hp;intro m0 n;obtain⟨o,p,ua,q⟩:=S0.blk n τ0 1;intro m1 r;obtain⟨s,t,u,w⟩:=p.blk r o 2;have g:=q.k u;refine⟨_,_,_,_,g.bk.ra,?_⟩;intro m6 x;obtain⟨y,z,h,A⟩:=t.blk x s 3;have B:=g.k h;have D:=w.k h;obtain⟨F,G,I,i,J⟩:=A.sto z [ca100,Il c.Day,Il c.Fee,ca103];have N:=B.k i;have O:=D.k i;refine⟨F,G,?_⟩;intro m8 P;obtain⟨va,S,d,T⟩:=I.blk P y 4;have Y:=N.k d;have Z:=O.k d;have aa:=J.k d;refine⟨trivial,_,Y.bk.rc rfl,?_⟩;have ba:=Lb.ow0 (α:=Fld) T;obtain⟨ca,hp⟩:=zqe hp;obtain⟨a,da,wa,ea,fa,j,b⟩:=ba.appL zwB S ha103 ca;have ga:=Z.k j;have ha:=aa.k j;refine⟨a,da,ea,?_⟩;refine⟨trivial,?_⟩;obtain⟨ia,ja,ka,l,e⟩:=ha.sto1 fa 3 a (by simp) rfl
 replace e:Lb _ _ _ _ _ _ _ [ca100,Il c.Day,Il c.Fee,a]:=e
 have la:=ga.k l;have b:=b.k l;refine⟨ia,ja,?_⟩;refine⟨_,_,_,_,e.bk.ra,?_⟩;obtain⟨ma,na,oa,pa,qa⟩:=la.sto ka [ca100,Il c.Day,Il c.Fee,a];have b:=b.k pa;refine⟨ma,na,?_⟩;refine⟨_,_,_,_,qa.bk.ra,?_⟩;obtain rfl:=oi hp;exact hq _ f ca100 a oa.grw ha100 b.on
set_option maxHeartbeats 4000000 in
theorem zA6{c:Cse}{words:List W8}{ca100 ca103 ca200:C}{m f:M}{Q:V→M→Prop}{rz:Bool}(hS:Pre f m)(ha100:Sl f ca100 c.Tariffs)(ha103:Sl f ca103 c.Fields)(ha200:Sl f ca200 words)(hp:zu8 c words=some rz)(hq:∀m',Ext m m'→Q (.c (.bool rz)) m'):Wc prog tbl 11 [.agg 4 [ca100,Il c.Day,Il c.Fee,ca103],.c ca200] m Q:=by
 have S0:=hS.st;obtain⟨τ0,_⟩:=zrC;refine w11 ?_;unfold zu8 at hp;intro m0 gc;obtain⟨Pa,pb,Ph,qb⟩:=S0.blk gc τ0 1;refine⟨_,_,_,_,qb.bk.ra,?_⟩;obtain⟨Qh,hc,hp⟩:=zqd hp;refine zyR (c:=c) pb.pre ha100 ha103 hc fun m6 ic=>?_;obtain⟨ua,jc⟩:=pb.call ic Pa;have rb:=qb.k jc;refine⟨_,rfl,?_⟩;refine zqU hp (fun kc hp=>?_) fun kc hp=>?_
 ·obtain⟨Rh,lc,hp⟩:=zqd hp;refine zA4 ua.pre  lc fun m9 nc=>?_;obtain⟨pc,Sh⟩:=ua.call nc Pa;refine⟨_,rfl,?_⟩;obtain rfl:=oi hp;exact hq _ pc.ext'
 refine⟨_,_,_,_,rb.bk.ra,?_⟩;obtain⟨ga,qc,hp⟩:=zqd hp;refine zA5 (c:=c) ua.pre ha100 ha103 qc fun Ch Th sb sc tc Qa uc=>?_;obtain⟨vc,wc,r,Z⟩:=ua.callO tc uc Pa 2;have xc:=rb.k r;refine⟨_,_,_,_,rfl,?_⟩;intro Zi yc;obtain⟨tb,zc,ub,Ac⟩:=wc.blk yc vc 3;have Bc:=xc.k ub;have Z:=Z.k ub;obtain⟨Cc,Dc,vb,wb,Ec⟩:=Ac.sto zc [sb,Il ga.Day,Il ga.Fee,sc];have xb:=Bc.k wb;have Z:=Z.k wb;refine⟨Cc,Dc,?_⟩;refine⟨_,_,_,_,xb.bk.ra,?_⟩;obtain⟨yb,Fc,hp⟩:=zqd hp;refine zyT (c:=c) (words:=words) vb.pre (ha100.sub r.fs) (ha103.sub r.fs) (ha200.sub r.fs) Fc fun aj zb Uh Gc s=>?_;obtain⟨Hc,l⟩:=vb.callG Gc tb;have O:=xb.k l;have aa:=Ec.k l;have Z:=Z.k l;refine⟨_,rfl,?_⟩;intro Dh Ic
 have hgo:∀(va:Nat) (bb:C) (Y:Int) (wa:C) (ba:Int) (ca:Int) (A:List Fld) (ka:List Thr) (ja:M) (F:M) (G:Nat→Nat),St (Fm.of m) f F ja→Sub zb F→Lb (Fm.of m) F G ja 1 m.nxt 4 [ca100,Il c.Day,Il c.Fee,ca103]→Lb (Fm.of m) F G ja 3 Ch.nxt 4 [sb,Il ba,Il ca,wa]→Ow (Fm.of m) F G ja 2 wa A→Ow (Fm.of m) F G ja 4 bb ka→zu7 c ga yb va ba ca A ka Y=some rz→Dh [.c bb,.c (Il Y)] ja:=by
  intro va
  induction va with
  | zero=>intro bb Y wa ba ca A ka ja F G ha g O aa j i hp; cases hp
  | succ va ac=>
   intro bb Y wa ba ca A ka ja F G ha g O aa j i hp;refine Ic _ _ _ ?_;rw[zu7] at hp;refine⟨s.isSl,?_⟩
   try rw[s.slLen]
   refine ifd hp (fun Jc hp=>?_) fun Jc hp=>?_
   ·refine⟨trivial,_,aa.bk.rc rfl,trivial,_,aa.bk.rc rfl,trivial,_,O.bk.rc rfl,?_⟩;obtain⟨P,xa,hp⟩:=zqd hp;obtain⟨Eh,bc,cb,xa⟩:=zp7 xa;obtain⟨_,Kc⟩:=zrL ha103 xa;refine⟨Eh,bc,(by first|exact cb|(rw[ha103.slLen];exact cb)),(ha103.isPt xa _),_,_,((Kc _ (Sub.trans (Sub.trans (Sub.trans r.fs l.fs) g) ha.sub)).2.2 5 2 (by omega) (by decide)),trivial,_,O.bk.rc rfl,?_⟩;obtain⟨ia,ya,hp⟩:=zqd hp;obtain⟨Fh,cc,db,ya⟩:=zp7 ya;obtain⟨_,Lc⟩:=zrL ha103 ya;refine⟨Fh,cc,(by first|exact db|(rw[ha103.slLen];exact db)),(ha103.isPt ya _),_,_,((Lc _ (Sub.trans (Sub.trans (Sub.trans r.fs l.fs) g) ha.sub)).2.2 3 2 (by omega) (by decide)),?_⟩;obtain⟨d,la,hp⟩:=zqd hp;obtain⟨eb,za,fb,la⟩:=zp7 la;refine⟨eb,za,(by first|exact fb|(rw[j.slLen];exact fb)),(j.isPt la _),?_⟩;obtain⟨Nc,Pc,Qc,Ra,ma⟩:=j.setP ha (a':=({ Crop:=d.Crop,Value:=d.Value,Near:=d.Near,First:=P.Second,Second:=d.Second,Umpire:=d.Umpire }:Fld)) la [Il d.Crop,Il d.Value,Il d.Near,Il d.First.Lo,Il d.First.Hi,Il d.Second.Lo,Il d.Second.Hi,Il d.Umpire.Lo,Il d.Umpire.Hi] (fun _ h=>h) 3 [Il P.Second.Lo,Il P.Second.Hi] (Nat.le_of_ble_eq_true rfl) rfl
    have gb:Int.toNat Y=eb:=by rw[za]; rfl
    rw[← gb] at ma;have Jh:=za;have Rc:(A.set (Int.toNat Y) ({ Crop:=d.Crop,Value:=d.Value,Near:=d.Near,First:=P.Second,Second:=d.Second,Umpire:=d.Umpire }:Fld))[eb]? = some ({ Crop:=d.Crop,Value:=d.Value,Near:=d.Near,First:=P.Second,Second:=d.Second,Umpire:=d.Umpire }:Fld):=(congrArg (fun z=>(A.set z ({ Crop:=d.Crop,Value:=d.Value,Near:=d.Near,First:=P.Second,Second:=d.Second,Umpire:=d.Umpire }:Fld))[eb]?) gb).trans (List.getElem?_set_self (List.getElem?_eq_some_iff.1 la).1);have Kh:=(List.getElem?_eq_some_iff.1 Rc).1;have Tc:=O.k Ra;have Ab:=aa.k Ra;have i:=i.k Ra;refine⟨Nc,Pc,?_⟩;refine⟨(by rw[show cmC _=true from zoM (ma.noFn)]; exact(Ab.bk.rc rfl)),?_⟩;obtain⟨e,na,hp⟩:=zqd hp;obtain⟨hb,Aa,ib,na⟩:=zp7 na;refine⟨hb,Aa,(by first|exact ib|(rw[ma.slLen];exact ib)),(ma.isPt na _),?_⟩;obtain⟨Uc,Vc,Ba,Sa,Ca⟩:=ma.setP Qc (a':=({ Crop:=e.Crop,Value:=e.Value,Near:=e.Near,First:=e.First,Second:=ia.First,Umpire:=e.Umpire }:Fld)) na [Il e.Crop,Il e.Value,Il e.Near,Il e.First.Lo,Il e.First.Hi,Il e.Second.Lo,Il e.Second.Hi,Il e.Umpire.Lo,Il e.Umpire.Hi] (fun _ h=>h) 5 [Il ia.First.Lo,Il ia.First.Hi] (Nat.le_of_ble_eq_true rfl) rfl
    have jb:Int.toNat Y=hb:=by rw[Aa]; rfl
    rw[← jb] at Ca;have Lh:=Aa;have Xc:((A.set (Int.toNat Y) ({ Crop:=d.Crop,Value:=d.Value,Near:=d.Near,First:=P.Second,Second:=d.Second,Umpire:=d.Umpire }:Fld)).set (Int.toNat Y) ({ Crop:=e.Crop,Value:=e.Value,Near:=e.Near,First:=e.First,Second:=ia.First,Umpire:=e.Umpire }:Fld))[hb]? = some ({ Crop:=e.Crop,Value:=e.Value,Near:=e.Near,First:=e.First,Second:=ia.First,Umpire:=e.Umpire }:Fld):=(congrArg (fun z=>((A.set (Int.toNat Y) ({ Crop:=d.Crop,Value:=d.Value,Near:=d.Near,First:=P.Second,Second:=d.Second,Umpire:=d.Umpire }:Fld)).set z ({ Crop:=e.Crop,Value:=e.Value,Near:=e.Near,First:=e.First,Second:=ia.First,Umpire:=e.Umpire }:Fld))[hb]?) jb).trans (List.getElem?_set_self (List.getElem?_eq_some_iff.1 na).1);have Mh:=(List.getElem?_eq_some_iff.1 Xc).1;have Yc:=Tc.k Sa;have Zc:=Ab.k Sa;have i:=i.k Sa;refine⟨Uc,Vc,?_⟩;obtain⟨Bb,Da,hp⟩:=zqd hp;obtain⟨Gh,dc,kb,Da⟩:=zp7 Da;obtain⟨_,ad⟩:=zrN s Da;refine⟨Gh,dc,(by first|exact kb|(rw[s.slLen];exact kb)),(s.isPt Da _),_,((ad _ (Sub.trans g Ba.sub)).2.1 1 _ rfl),?_⟩;obtain⟨Cb,Ea,hp⟩:=zqd hp;obtain⟨Hh,ec,mb,Ea⟩:=zp7 Ea;obtain⟨_,bd⟩:=zrN s Ea;refine⟨Hh,ec,(by first|exact mb|(rw[s.slLen];exact mb)),(s.isPt Ea _),_,((bd _ (Sub.trans g Ba.sub)).2.1 0 _ rfl),?_⟩;obtain⟨Db,Fa,hp⟩:=zqd hp;obtain⟨Ih,fc,ob,Fa⟩:=zp7 Fa;obtain⟨_,cd⟩:=zrN s Fa;refine⟨Ih,fc,(by first|exact ob|(rw[s.slLen];exact ob)),(s.isPt Fa _),_,((cd _ (Sub.trans g Ba.sub)).2.1 2 _ rfl),?_⟩;obtain⟨dd,hp⟩:=zqe hp;intro bj ed;obtain⟨fd,hd,id,jd,kd,Ta,ld⟩:=i.app' zwC Ba (a:=({ First:=Bb.Second,Second:=Cb.First,Umpire:=Db.Umpire }:Thr)) (show Rp.rep (α:=Thr) F _ ({ First:=Bb.Second,Second:=Cb.First,Umpire:=Db.Umpire }:Thr) from rfl) dd ed
    have md:=Yc.k Ta;have nd:=Zc.k Ta;have Ca:=Ca.k Ta;refine⟨fd,hd,jd,?_⟩;refine gdi hp fun od hp=>?_;exact ac _ _ _ _ _ _ _ _ F id kd g md nd Ca ld hp
   refine⟨_,_,_,_,O.bk.ra,?_⟩;obtain⟨pd,qd,hp⟩:=zqd hp;refine zyJ (c:=c) ha.pre (ha100.sub (Sub.trans (Sub.trans r.fs l.fs) g)) (ha103.sub (Sub.trans (Sub.trans r.fs l.fs) g)) qd fun cj Vh Wh Xh sd td ud=>?_;obtain⟨Eb,u⟩:=ha.callG sd G;have vd:=O.k u;have wd:=aa.k u;have j:=j.k u;have i:=i.k u;refine⟨_,_,_,_,rfl,?_⟩;obtain⟨xd,yd,hp⟩:=zqd hp;refine zyK (t:=yb) Eb.pre (s.sub (Sub.trans g u.fs)) yd fun dj Yh Zh zd Ad=>?_;obtain⟨Fb,p⟩:=Eb.callG zd G;have Bd:=vd.k p;have Cd:=wd.k p;have j:=j.k p;have i:=i.k p;refine⟨_,rfl,?_⟩;obtain⟨Ga,Dd,hp⟩:=zqd hp;refine zyC (c:=pd) (t:=xd) Fb.pre (td.sub p.fs) (ud.sub p.fs) Ad Dd fun ej ai Ed Fd Gd=>?_;obtain⟨Hd,B⟩:=Fb.callG Fd G;have Id:=Bd.k B;have Jd:=Cd.k B;have j:=j.k B;have i:=i.k B;refine⟨_,_,_,_,_,rfl,?_⟩;intro fj Ld;obtain⟨Ha,Md,Ia,Nd⟩:=Hd.blk Ld G 5;have Od:=Id.k Ia;have Pd:=Jd.k Ia;have j:=j.k Ia;have i:=i.k Ia;obtain⟨Qd,Rd,Sd,Ja,Td⟩:=Nd.sto Md [Ed,Il Ga.1.Award,Il Ga.1.Farmer,Il Ga.1.Society];have Ud:=Od.k Ja;have Gb:=Pd.k Ja;have j:=j.k Ja;have i:=i.k Ja;refine⟨Qd,Rd,?_⟩;refine⟨_,_,_,_,Gb.bk.ra,?_⟩;obtain⟨bi,Hb,w,Ua⟩:=j.freeze Sd;have Vd:=Ud.k w;have Xd:=Gb.k w;have Yd:=Td.k w;have i:=i.k w;obtain⟨Zd,ae,hp⟩:=zqd hp;refine zyJ (c:=({ Tariffs:=ga.Tariffs,Day:=ba,Fee:=ca,Fields:=A }:Cse)) Hb.pre (Qa.sub (Sub.trans (Sub.trans (Sub.trans (Sub.trans (Sub.trans l.fs g) u.fs) p.fs) B.fs) w.fs)) Ua ae fun gj ci ei fi be ce de=>?_;obtain⟨ee,q⟩:=Hb.callG be Ha;have fe:=Vd.k q;have ge:=Xd.k q;have he:=Yd.k q;have i:=i.k q
   refine⟨_,_,_,_,rfl,?_⟩;obtain⟨gi,Ib,n,ie⟩:=i.freeze ee;have je:=fe.k n;have ke:=ge.k n;have me:=he.k n;obtain⟨oe,pe,hp⟩:=zqd hp;refine zyK (t:=ka) Ib.pre ie pe fun hj hi ii qe re=>?_;obtain⟨Jb,o⟩:=Ib.callG qe Ha;have se:=je.k o;have te:=ke.k o;have ue:=me.k o;refine⟨_,rfl,?_⟩;obtain⟨Ka,ve,hp⟩:=zqd hp;refine zyC (c:=Zd) (t:=oe) Jb.pre (ce.sub (Sub.trans n.fs o.fs)) (de.sub (Sub.trans n.fs o.fs)) re ve fun ij ji we xe ye=>?_;obtain⟨ze,x⟩:=Jb.callG xe Ha;have Ae:=se.k x;have Be:=te.k x;have Ce:=ue.k x;refine⟨_,_,_,_,_,rfl,?_⟩;intro jj De;obtain⟨Va,Ee,Wa,Fe⟩:=ze.blk De Ha 6;have Ge:=Ae.k Wa;have He:=Be.k Wa;have Ie:=Ce.k Wa;obtain⟨Je,Ke,Kb,Xa,Me⟩:=Fe.sto Ee [we,Il Ka.1.Award,Il Ka.1.Farmer,Il Ka.1.Society];have Mb:=Ge.k Xa;have Ne:=He.k Xa;have Oe:=Ie.k Xa;refine⟨Je,Ke,?_⟩;refine⟨_,_,_,_,Mb.bk.ra,?_⟩;obtain⟨Pe,Qe,hp⟩:=zqd hp;refine zyJ (c:=c) Kb.pre (ha100.sub (Sub.trans (Sub.trans (Sub.trans (Sub.trans (Sub.trans (Sub.trans (Sub.trans (Sub.trans (Sub.trans (Sub.trans r.fs l.fs) g) u.fs) p.fs) B.fs) w.fs) q.fs) n.fs) o.fs) x.fs)) (ha103.sub (Sub.trans (Sub.trans (Sub.trans (Sub.trans (Sub.trans (Sub.trans (Sub.trans (Sub.trans (Sub.trans (Sub.trans r.fs l.fs) g) u.fs) p.fs) B.fs) w.fs) q.fs) n.fs) o.fs) x.fs)) Qe fun ki li ni pi Re Se Te=>?_;obtain⟨Nb,y⟩:=Kb.callG Re Va;have Ue:=Mb.k y;have Ve:=Ne.k y;have We:=Oe.k y;have Xe:=Me.k y;refine⟨_,_,_,_,rfl,?_⟩;obtain⟨Ob,Ye,hp⟩:=zqd hp;refine zA1 (c:=Pe) Nb.pre Se Te Ye fun qi Ze=>?_;obtain⟨af,La⟩:=Nb.call Ze Va
   have bf:=Ue.k La;have cf:=Ve.k La;have df:=We.k La;have ef:=Xe.k La;refine⟨_,_,_,rfl,?_⟩;intro ri gf;obtain⟨Ya,hf,Ma,jf⟩:=af.blk gf Va 7;have kf:=bf.k Ma;have lf:=cf.k Ma;have mf:=df.k Ma;have nf:=ef.k Ma;obtain⟨pf,qf,Pb,Na,rf⟩:=jf.sto hf [Il Ob.1.Lo,Il Ob.1.Hi];have sf:=kf.k Na;have Qb:=lf.k Na;have tf:=mf.k Na;have uf:=nf.k Na;refine⟨pf,qf,?_⟩;refine⟨_,_,_,_,Qb.bk.ra,?_⟩;obtain⟨vf,wf,hp⟩:=zqd hp;refine zyJ (c:=({ Tariffs:=ga.Tariffs,Day:=ba,Fee:=ca,Fields:=A }:Cse)) Pb.pre (Qa.sub (Sub.trans (Sub.trans (Sub.trans (Sub.trans (Sub.trans (Sub.trans (Sub.trans (Sub.trans (Sub.trans (Sub.trans l.fs g) u.fs) p.fs) B.fs) w.fs) q.fs) n.fs) o.fs) x.fs) y.fs)) (Ua.sub (Sub.trans (Sub.trans (Sub.trans (Sub.trans q.fs n.fs) o.fs) x.fs) y.fs)) wf fun si ti ui vi xf yf zf=>?_;obtain⟨Rb,D⟩:=Pb.callG xf Ya;have Af:=sf.k D;have Bf:=Qb.k D;have Cf:=tf.k D;have Df:=uf.k D;have Ef:=rf.k D;refine⟨_,_,_,_,rfl,?_⟩;obtain⟨Sb,Ff,hp⟩:=zqd hp;refine zA1 (c:=vf) Rb.pre yf zf Ff fun wi Gf=>?_;obtain⟨Hf,oa⟩:=Rb.call Gf Ya;have If:=Af.k oa;have Jf:=Bf.k oa;have Kf:=Cf.k oa;have Lf:=Df.k oa;have Mf:=Ef.k oa;refine⟨_,_,_,rfl,?_⟩;intro xi Nf;obtain⟨S,Of,pa,Pf⟩:=Hf.blk Nf Ya 8;have Qf:=If.k pa;have Rf:=Jf.k pa;have Sf:=Kf.k pa;have Uf:=Lf.k pa;have Vf:=Mf.k pa;obtain⟨Wf,Xf,Tb,qa,Yf⟩:=Pf.sto Of [Il Sb.1.Lo,Il Sb.1.Hi];have Zf:=Qf.k qa;have ag:=Rf.k qa;have bg:=Sf.k qa;have cg:=Uf.k qa;have dg:=Vf.k qa;refine⟨Wf,Xf,?_⟩;refine⟨_,_,_,_,Zf.bk.ra,?_⟩;obtain⟨eg,fg,hp⟩:=zqd hp;refine zyJ (c:=c) Tb.pre (ha100.sub (Sub.trans (Sub.trans (Sub.trans (Sub.trans (Sub.trans (Sub.trans (Sub.trans (Sub.trans (Sub.trans (Sub.trans (Sub.trans (Sub.trans r.fs l.fs) g) u.fs) p.fs) B.fs) w.fs) q.fs) n.fs) o.fs) x.fs) y.fs) D.fs)) (ha103.sub (Sub.trans (Sub.trans (Sub.trans (Sub.trans (Sub.trans (Sub.trans (Sub.trans (Sub.trans (Sub.trans (Sub.trans (Sub.trans (Sub.trans r.fs l.fs) g) u.fs) p.fs) B.fs) w.fs) q.fs) n.fs) o.fs) x.fs) y.fs) D.fs)) fg fun yi zi Ai Bi gg hg ig=>?_
   obtain⟨Ub,J⟩:=Tb.callG gg S;have jg:=ag.k J;have kg:=bg.k J;have lg:=cg.k J;have mg:=dg.k J;have ng:=Yf.k J;refine⟨_,_,_,_,rfl,?_⟩;obtain⟨og,pg,hp⟩:=zqd hp;refine zyF (c:=eg) Ub.pre hg ig pg fun Ci Di Ei qg rg=>?_;obtain⟨Vb,N⟩:=Ub.callG qg S;have sg:=jg.k N;have tg:=kg.k N;have ug:=lg.k N;have vg:=mg.k N;have wg:=ng.k N;refine⟨_,_,rfl,_,_,_,_,sg.bk.ra,?_⟩;obtain⟨xg,zg,hp⟩:=zqd hp;refine zyJ (c:=({ Tariffs:=ga.Tariffs,Day:=ba,Fee:=ca,Fields:=A }:Cse)) Vb.pre (Qa.sub (Sub.trans (Sub.trans (Sub.trans (Sub.trans (Sub.trans (Sub.trans (Sub.trans (Sub.trans (Sub.trans (Sub.trans (Sub.trans (Sub.trans (Sub.trans l.fs g) u.fs) p.fs) B.fs) w.fs) q.fs) n.fs) o.fs) x.fs) y.fs) D.fs) J.fs) N.fs)) (Ua.sub (Sub.trans (Sub.trans (Sub.trans (Sub.trans (Sub.trans (Sub.trans (Sub.trans q.fs n.fs) o.fs) x.fs) y.fs) D.fs) J.fs) N.fs)) zg fun Fi Gi Ii Ji Ag Bg Cg=>?_;obtain⟨Wb,da⟩:=Vb.callG Ag S;have Dg:=tg.k da;have Eg:=ug.k da;have Fg:=vg.k da;have Gg:=wg.k da;refine⟨_,_,_,_,rfl,?_⟩;obtain⟨Hg,Ig,hp⟩:=zqd hp;refine zyF (c:=xg) Wb.pre Bg Cg Ig fun Ki Ni Oi Jg Kg=>?_;obtain⟨T,ea⟩:=Wb.callG Jg S;have Za:=Dg.k ea;have ab:=Eg.k ea;have Lg:=Fg.k ea;have Mg:=Gg.k ea;refine⟨_,_,rfl,trivial,_,Za.bk.rc rfl,trivial,_,ab.bk.rc rfl,?_⟩;refine gdi hp fun Ng hp=>?_;refine ifd hp (fun Og hp=>?_) fun Og hp=>?_; rotate_left
   ·obtain rfl:=oi hp;exact hq _ T.ext'
   refine ifd hp (fun Pg hp=>?_) fun Pg hp=>?_; rotate_left
   ·obtain rfl:=oi hp;exact hq _ T.ext'
   refine ifd hp (fun Qg hp=>?_) fun Qg hp=>?_; rotate_left
   ·obtain rfl:=oi hp;exact hq _ T.ext'
   refine ifd hp (fun Sg hp=>?_) fun Sg hp=>?_; rotate_left
   ·obtain rfl:=oi hp;exact hq _ T.ext'
   refine ifd hp (fun Tg hp=>?_) fun Tg hp=>?_; rotate_left
   ·obtain rfl:=oi hp;exact hq _ T.ext'
   refine ifd hp (fun Ug hp=>?_) fun Ug hp=>?_; rotate_left
   ·obtain rfl:=oi hp;exact hq _ T.ext'
   refine⟨trivial,_,Za.bk.rc rfl,trivial,_,ab.bk.rc rfl,?_⟩;obtain⟨Pi,Vg,hp⟩:=zqd hp;refine zwP (a:=Ga.1.Counts) (b:=Ka.1.Counts) T.pre (Gd.sub (Sub.trans (Sub.trans (Sub.trans (Sub.trans (Sub.trans (Sub.trans (Sub.trans (Sub.trans (Sub.trans (Sub.trans w.fs q.fs) n.fs) o.fs) x.fs) y.fs) D.fs) J.fs) N.fs) da.fs) ea.fs)) (ye.sub (Sub.trans (Sub.trans (Sub.trans (Sub.trans (Sub.trans y.fs D.fs) J.fs) N.fs) da.fs) ea.fs)) Vg fun Qi Wg=>?_;obtain⟨sa,Oa⟩:=T.call Wg S;have Xb:=Za.k Oa;have Yb:=ab.k Oa;have Xg:=Lg.k Oa;have Zg:=Mg.k Oa;refine⟨_,rfl,?_⟩;refine zqT hp (fun ah hp=>?_) fun ah hp=>?_; rotate_left
   ·obtain rfl:=oi hp;exact hq _ sa.ext'
   refine⟨trivial,_,Xb.bk.rc rfl,trivial,_,Yb.bk.rc rfl,?_⟩;refine ifd hp (fun bh hp=>?_) fun bh hp=>?_; rotate_left
   ·obtain rfl:=oi hp;exact hq _ sa.ext'
   refine⟨_,_,Xg.bk.ra,_,_,Zg.bk.ra,?_⟩;refine gdi hp fun ch hp=>?_;refine gdi hp fun dh hp=>?_;refine gdi hp fun eh hp=>?_;refine gdi hp fun fh hp=>?_;refine zqT hp (fun gh hp=>?_) fun gh hp=>?_; rotate_left
   ·obtain rfl:=oi hp;exact hq _ sa.ext'
   obtain⟨Ri,hh,hp⟩:=zqd hp;refine zwP (a:=og.1) (b:=Hg.1) sa.pre (rg.sub (Sub.trans da.fs ea.fs)) Kg hh fun Si ih=>?_;obtain⟨I,Zb⟩:=sa.call ih S;have fa:=Xb.k Zb;have ta:=Yb.k Zb;refine⟨_,rfl,?_⟩;refine zqT hp (fun jh hp=>?_) fun jh hp=>?_; rotate_left
   ·obtain rfl:=oi hp;exact hq _ I.ext'
   refine ifd hp (fun kh hp=>?_) fun kh hp=>?_
   ·refine⟨trivial,_,fa.bk.rc rfl,trivial,_,fa.bk.rc rfl,?_⟩;obtain⟨lh,hp⟩:=zqe hp;refine⟨lh,trivial,_,ta.bk.rc rfl,trivial,_,ta.bk.rc rfl,?_⟩;refine gdi hp fun mh hp=>?_;refine ifd hp (fun nh hp=>?_) fun nh hp=>?_; rotate_left
    ·obtain rfl:=oi hp;exact hq _ I.ext'
    obtain⟨Ti,oh,hp⟩:=zqd hp;refine zA4 I.pre  oh fun Ui ph=>?_;obtain⟨qh,Vi⟩:=I.call ph S;refine⟨_,rfl,?_⟩;obtain rfl:=oi hp;exact hq _ qh.ext'
   refine ifd hp (fun rh hp=>?_) fun rh hp=>?_; rotate_left
   ·obtain rfl:=oi hp;exact hq _ I.ext'
   refine⟨trivial,_,fa.bk.rc rfl,trivial,_,ta.bk.rc rfl,?_⟩;refine ifd hp (fun th hp=>?_) fun th hp=>?_; rotate_left
   ·obtain rfl:=oi hp;exact hq _ I.ext'
   refine⟨trivial,_,fa.bk.rc rfl,trivial,_,fa.bk.rc rfl,?_⟩;refine gdi hp fun uh hp=>?_;refine ifd hp (fun vh hp=>?_) fun vh hp=>?_; rotate_left
   ·obtain rfl:=oi hp;exact hq _ I.ext'
   refine⟨trivial,_,fa.bk.rc rfl,trivial,_,fa.bk.rc rfl,?_⟩;obtain⟨wh,hp⟩:=zqe hp;refine⟨wh,trivial,_,ta.bk.rc rfl,trivial,_,ta.bk.rc rfl,?_⟩;refine gdi hp fun xh hp=>?_;refine ifd hp (fun yh hp=>?_) fun yh hp=>?_; rotate_left
   ·obtain rfl:=oi hp;exact hq _ I.ext'
   obtain⟨Wi,zh,hp⟩:=zqd hp;refine zA4 I.pre  zh fun Xi Ah=>?_;obtain⟨Bh,Yi⟩:=I.call Ah S;refine⟨_,rfl,?_⟩;obtain rfl:=oi hp;exact hq _ Bh.ext'
 exact hgo _ _ _ _ _ _ _ _ _ zb tb Hc (Sub.refl _) O aa Z (Ow.nil _ _ _ _ _) hp
end
end Go.Proofs.YteojndcmgpiklaaGreat

namespace Go.Proofs.YteojndcmgpiklaaGreat
open _root_.Go.Proofs.Tryz
open Go.Abs
set_option maxRecDepth 100000
noncomputable section
def seg(lo:Int):Nat→List Int
 | 0=>[]
 | n+1=>lo::seg (lo+1) n
theorem zA7{x:Int}:∀{n:Nat} {lo:Int},x∈seg lo n↔lo≤x∧x < lo+n
 | 0,lo=>by simp[seg]
 | n+1,lo=>by
  unfold seg;rw[List.mem_cons,zA7]; omega
theorem zA8:∀{n:Nat} {lo:Int},(seg lo n).length=n
 | 0,_=>rfl
 | n+1,lo=>by unfold seg; rw[List.length_cons,zA8]
def zA9(c:Clm):List Tr:=(seg c.Day.Lo (c.Day.Hi - c.Day.Lo+1).toNat).flatMap fun d=>(seg c.Count.Lo (c.Count.Hi - c.Count.Lo+1).toNat).map fun n=>⟨d,n⟩
theorem zBa{c:Clm}(h1:c.Day.Lo≤c.Day.Hi)(h2:c.Count.Lo≤c.Count.Hi){t:Tr}:t∈zA9 c↔zAG c t:=by
 unfold zA9 zAG;rw[List.mem_flatMap]
 constructor
 ·rintro⟨d,hd,ht⟩
  obtain⟨n,hn,rfl⟩:=List.mem_map.1 ht;have hd:=zA7.1 hd;have hn:=zA7.1 hn
  dsimp only
  omega
 ·intro⟨h3,h4⟩;exact⟨t.Day,zA7.2 (by omega),List.mem_map.2 ⟨t.Count,zA7.2 (by omega),rfl⟩⟩
theorem zBb{c:Clm}{x:Int}(hx:-1000≤x∧x≤1000)(hh:-1000≤c.Count.Lo∧c.Count.Hi≤1000){K:Int→Option (List Tr)}{r:List Tr}(hK:K (x+1)=some r):∀(d n:Nat) (k:Int),c.Count.Lo≤k→n < d→k+n=c.Count.Hi+1→ztk c x K d k=some ((seg k n).map (fun n=>⟨x,n⟩)++r)
 | 0,n,k,_,h,_=>by omega
 | d+1,0,k,_,_,hk=>by
  rw[ztk,if_neg (by omega),zqf (fI (by omega)),hK]; rfl
 | d+1,n+1,k,h0,h,hk=>by
  rw[ztk,if_pos (by omega),zqf (fI (by omega)),zBb hx hh hK d n (k+1) (by omega) (by omega) (by omega),obs]; rfl
theorem zBc{c:Clm}(hd:-1000≤c.Day.Lo∧c.Day.Hi≤1000)(hh:-1000≤c.Count.Lo∧c.Count.Hi≤1000)(h2:c.Count.Lo≤c.Count.Hi):∀(d n:Nat) (x:Int),c.Day.Lo≤x→n < d→x+n=c.Day.Hi+1→ztl c d x=some ((seg x n).flatMap fun d=>(seg c.Count.Lo (c.Count.Hi - c.Count.Lo+1).toNat).map fun n=>⟨d,n⟩)
 | 0,n,x,_,h,_=>by omega
 | d+1,0,x,_,_,hx=>by rw[ztl,if_neg (by omega)]; rfl
 | d+1,n+1,x,h0,h,hx=>by
  rw[ztl,if_pos (by omega),zBb (by omega) hh (zBc hd hh h2 d n (x+1) (by omega) (by omega) (by omega)) _ (c.Count.Hi - c.Count.Lo+1).toNat c.Count.Lo (Int.le_refl _) (by omega) (by omega)]; rfl
theorem zBd{l:List Tf}{c:Clm}(h:zAD l c):ztn c=some (zA9 c):=by
 have h1:=h.day;have h2:=h.cnt;unfold ztn ztm;rw[zBc (by omega) (by omega) (by omega) _ (c.Day.Hi - c.Day.Lo+1).toNat c.Day.Lo (Int.le_refl _) (by omega) (by omega)]; rfl
theorem zBe{l:List Tf}{c:Clm}(h:zAD l c):0 < (zA9 c).length∧(zA9 c).length≤1111:=by
 have h1:=h.day;have h2:=h.cnt
 have:(zA9 c).length=(c.Day.Hi - c.Day.Lo+1).toNat * (c.Count.Hi - c.Count.Lo+1).toNat:=by
  unfold zA9;rw[List.length_flatMap]
  simp only[List.length_map,zA8]
  generalize (c.Day.Hi - c.Day.Lo+1).toNat=n;generalize (c.Count.Hi - c.Count.Lo+1).toNat=k;generalize c.Day.Lo=x
  induction n generalizing x with
  | zero=>simp[seg]
  | succ n ih=>unfold seg; rw[List.map_cons,List.sum_cons,ih,Nat.succ_mul]; omega
 rw[this]
 have a1:1≤(c.Day.Hi - c.Day.Lo+1).toNat:=by omega
 have a2:(c.Day.Hi - c.Day.Lo+1).toNat≤11:=by omega
 have a3:1≤(c.Count.Hi - c.Count.Lo+1).toNat:=by omega
 have a4:(c.Count.Hi - c.Count.Lo+1).toNat≤101:=by omega
 exact⟨Nat.mul_pos a1 a3,Nat.mul_le_mul a2 a4⟩
def zBf(l:List Tf)(c:Clm):Rg:=⟨zrg ((zA9 c).map (zAI l c)),zrh ((zA9 c).map (zAI l c))⟩
theorem zBg{l:List Tf}(hf:zzn l=0){c:Clm}(hc:zAD l c){t:Tr}(ht:zAG c t):0≤zAI l c t∧zAI l c t≤100000:=by
 have hp:=zAM hf (zAL hc ht);have hv:=zAN hc.val hp;unfold zAI
 dsimp only at hv
 omega
theorem zBh{l:List Tf}(hf:zzn l=0){c:Clm}(hc:zAD l c){w:Wk}(hw:w.tariffs=l):∀(ts:List Tr) (acc:List Int) (M:Option (Ht→Option Int)),(∀t∈ts,zAG c t)→zAw l M→ts.length+acc.length≤1111→acc++ts.map (zAI l c) ≠ [] →
  ∃M',zto w c ts acc M=some (⟨zrg (acc++ts.map (zAI l c)),zrh (acc++ts.map (zAI l c))⟩,M')∧zAw l M'
 | [],acc,M,_,hM,hl,hne=>by
  rw[List.map_nil,List.append_nil] at hne ⊢;have hs:zrd acc:=Nat.le_trans (Nat.le_trans (Nat.le_add_left _ _) hl) (by omega);refine⟨M,?_,hM⟩;rw[zto,zAR hne (by have:=hs.lt; omega),obs,zAS hne (by have:=hs.lt; omega),obs]
 | t::ts,acc,M,hts,hM,hl,hne=>by
  obtain⟨M1,h1,h2⟩:=zAO hf hM hc (hts t (List.mem_cons_self ..));rw[List.length_cons] at hl;obtain⟨M',h3,h4⟩:=zBh hf hc hw ts (acc++[zAI l c t]) M1 (fun u hu=>hts u (List.mem_cons_of_mem _ hu)) h2 (by rw[List.length_append]; simp; omega) (by simp);refine⟨M',?_,h4⟩;rw[zto,hw,h1,obs]
  dsimp only
  rw[zqf (by omega),h3,List.append_assoc]; rfl
theorem zBi{l:List Tf}(hf:zzn l=0){c:Clm}(hc:zAD l c){M:Option (Ht→Option Int)}(hM:zAw l M):∃M',ztp ⟨l,M⟩ c=some (zBf l c,M')∧zAw l M':=by
 have h1:=hc.day;have h2:=hc.cnt;have hlen:=zBe hc;unfold ztp;rw[zBd hc,obs]
 exact zBh hf hc rfl (zA9 c) [] M (fun t ht=>(zBa (by omega) (by omega)).1 ht) hM (by simp; omega) (by
  intro e;rw[List.nil_append] at e;rw[List.map_eq_nil_iff.1 e] at hlen
  exact absurd hlen.1 (by simp))
theorem zBj{l:List Tf}(hf:zzn l=0){c:Clm}(hc:zAD l c):ztq l c=some (zBf l c,0):=by
 obtain⟨M',h1,_⟩:=zBi hf hc zAA;unfold ztq;rw[zAJ hf (by simp) (zAP.2 hc),obs,if_pos rfl,h1,obs]
theorem zBk{l:List Tf}(hf:zzn l=0){c:Clm}(hc:¬ zAD l c):ztq l c=some (⟨0,0⟩,2):=by
 unfold ztq;rw[zAK hf (by simp) (by rw[zAP]; exact hc),obs,if_neg (by decide)]
structure zBl (r:Rg):Prop where
 lo:0≤r.Lo
 le:r.Lo≤r.Hi
 hi:r.Hi≤100
 wd:r.Hi - r.Lo≤4
theorem zBm{r:Rg}:zBl r↔0≤r.Lo∧r.Lo≤r.Hi∧r.Hi≤100∧r.Hi - r.Lo≤4:=⟨fun h=>⟨h.1,h.2,h.3,h.4⟩,fun⟨a,b,c,d⟩=>⟨a,b,c,d⟩⟩
structure zBn (l:List Tf) (f:Fld):Prop where
 crop:0≤f.Crop∧f.Crop < zzk l
 val:0≤f.Value∧f.Value≤100000
 near:0≤f.Near∧f.Near≤100
 fst:zBl f.First
 snd:zBl f.Second
 ump:zBl f.Umpire
structure zBo (c:Cse):Prop where
 tar:zzn c.Tariffs=0
 len:c.Fields.length≤3
 day:0≤c.Day∧c.Day≤120
 fee:0≤c.Fee∧c.Fee≤10000
 fld:∀f∈c.Fields,zBn c.Tariffs f
open Classical in
def zBp(c:Cse):Int:=if zzn c.Tariffs=0 then (if 3 < c.Fields.length then 3 else if zBo c then 0 else 1) else zzn c.Tariffs
theorem zBq{c:Cse}:zBp c=0↔zBo c:=by
 unfold zBp
 constructor
 ·intro h
  split at h
  ·split at h
   ·cases h
   ·split at h
    ·assumption
    ·cases h
  ·rename_i h1; exact absurd h h1
 ·intro h;rw[if_pos h.tar,if_neg (by have:=h.len; omega),if_pos h]
theorem zBr{r:Rg}{n:Int}:Ev (zts r n) (r.Lo≤n∧n≤r.Hi):=Ev.ite fun _=>Ev.dec Iff.rfl
theorem zBs{n:Int}:Ev (ztt n) (0≤n∧n≤100):=zBr.ret
theorem zBt{r:Rg}:Ev (ztu r) (zBl r):=
 (Ev.and zBs fun h1=>Ev.and zBs fun h2=>Ev.ite fun _=>Ev.gd (fI (by omega)) (Ev.dec Iff.rfl)).imp ((show _↔_ from by omega).trans zBm.symm)
theorem gR{l:List Rg}{p:Rg→Option Bool}:∀{d:Nat} {x:Int},ztw l p d x=gIdx l p d x
 | 0,_=>rfl
 | d+1,x=>by unfold ztw gIdx; simp only[gR]
theorem gF{l:List Fld}{p:Fld→Option Bool}:∀{d:Nat} {x:Int},ztB l p d x=gIdx l p d x
 | 0,_=>rfl
 | d+1,x=>by unfold ztB gIdx; simp only[gF]
theorem zBu{l:List Rg}{p:Rg→Option Bool}{q:Rg→Prop}(hp:∀a∈l,Ev (p a) (q a))(hl:zrd l):Ev (ztz l p) (∀a∈l,q a):=Ev.each hp hl.lt gR
theorem zBv{l:List Fld}{p:Fld→Option Bool}{q:Fld→Prop}(hp:∀a∈l,Ev (p a) (q a))(hl:zrd l):Ev (ztE l p) (∀a∈l,q a):=Ev.each hp hl.lt gF
def zBw(c:Cse)(f:Fld)(n:Int):Clm:={ Crop:=f.Crop,Value:=f.Value,Day:={ Lo:=c.Day,Hi:=c.Day },Count:={ Lo:=n,Hi:=n } }
theorem zBx{c:Cse}{f:Fld}{n:Int}(hd:0≤c.Day∧c.Day≤120)(hn:0≤n∧n≤100):zAD c.Tariffs (zBw c f n)↔(0≤f.Crop∧f.Crop < zzk c.Tariffs)∧(0≤f.Value∧f.Value≤100000):=
 ⟨fun h=>⟨h.crop,h.val⟩,fun h=>⟨h.1,h.2,by show 0≤c.Day∧c.Day≤c.Day∧c.Day≤120∧c.Day - c.Day≤10; omega,by show 0≤n∧n≤n∧n≤100; omega⟩⟩
theorem zBy{c:Cse}(ht:zzn c.Tariffs=0)(hd:0≤c.Day∧c.Day≤120){f:Fld}:Ev (ztW c f) ((0≤f.Crop∧f.Crop < zzk c.Tariffs)∧(0≤f.Value∧f.Value≤100000)):=by
 refine Ev.bind rfl ?_
 by_cases h:zAD c.Tariffs (zBw c f 0)
 ·exact Ev.bind (zBj ht h) (Ev.dec ⟨fun _=>(zBx hd (by omega)).1 h,fun _=>rfl⟩)
 ·exact Ev.bind (zBk ht h) (Ev.dec ⟨fun h1=>(by cases h1),fun h2=>absurd ((zBx (n:=0) hd (by omega)).2 h2) h⟩)
theorem zBz{c:Cse}(ht:zzn c.Tariffs=0)(hd:0≤c.Day∧c.Day≤120){f:Fld}:Ev (ztX c f) (zBn c.Tariffs f):=
 (Ev.and (zBy ht hd) fun _=>Ev.and zBs fun _=>(zBu (fun _ _=>zBt) (show (3:Nat)≤_ by omega)).ret).imp
  ⟨fun⟨h1,h2,h3⟩=>⟨h1.1,h1.2,h2,h3 _ (by simp),h3 _ (by simp),h3 _ (by simp)⟩,fun h=>⟨⟨h.crop,h.val⟩,h.near,fun a ha=>by
   rcases List.mem_cons.1 ha with rfl | ha
   ·exact h.fst
   rcases List.mem_cons.1 ha with rfl | ha
   ·exact h.snd
   rcases List.mem_cons.1 ha with rfl | ha
   ·exact h.ump
   cases ha⟩⟩
theorem zBA{c:Cse}(ht:zzn c.Tariffs=0)(hl:c.Fields.length≤3):Ev (ztY c) (zBo c):=
 (Ev.and zBr fun h1=>Ev.and zBr fun _=>(zBv (fun _ _=>zBz ht h1) (Nat.le_trans hl (by omega))).ret).imp
  ⟨fun⟨h1,h2,h3⟩=>⟨ht,hl,h1,h2,h3⟩,fun h=>⟨h.day,h.fee,h.fld⟩⟩
theorem zBB{c:Cse}:zt2 c=some (zBp c):=by
 unfold zt2 zBp;rw[zz4,obs]
 by_cases h:zzn c.Tariffs=0
 ·rw[if_pos h,if_pos h]
  by_cases h3:3 < c.Fields.length
  ·rw[if_pos (by omega),if_pos h3]
  ·rw[if_neg (by omega),if_neg h3]
   exact Ev.pick (zBA h (by omega)) (fun hc=>by rw[if_pos rfl,if_pos hc]) fun hc=>by rw[zqg rfl,if_neg hc]
 ·rw[if_neg h,if_neg h]
theorem zBC{r:Rg}:Ev (zut r) (zBl r):=
 (Ev.ite fun _=>Ev.ite fun _=>Ev.ite fun _=>Ev.gd (fI (by omega)) (Ev.dec Iff.rfl)).imp zBm.symm
theorem zBD{l:List Tf}(h:zzn l=0):l ≠ []:=fun e=>by
 have:=(zAy h).1;rw[e] at this;exact absurd this (by decide)
theorem zBE{β:Type}{o:Option Bool}{P Q:Prop}{k A B:Option β}(h:Ev o P)(hk:P→(Q→k=A)∧(¬ Q→k=B)):(P∧Q→(o.bind fun r=>if r=true then k else B)=A)∧(¬ (P∧Q)→(o.bind fun r=>if r=true then k else B)=B):=by
 obtain⟨b,h1,h2⟩:=h;rw[h1,obs]
 cases b with
 | true=>
  have hp:=h2.1 rfl;exact⟨fun hq=>(hk hp).1 hq.2,fun hn=>(hk hp).2 fun hq=>hn ⟨hp,hq⟩⟩
 | false=>exact⟨fun hq=>(by have:=h2.2 hq.1; cases this),fun _=>rfl⟩
theorem zBF{c:Cse}(ht:zzn c.Tariffs=0)(hl:c.Fields.length≤3):((∀f∈c.Fields,zBn c.Tariffs f)→zuu c 1000000 0=some 0)∧(¬ (∀f∈c.Fields,zBn c.Tariffs f)→zuu c 1000000 0=some 1):=by
 refine zrc (l:=c.Fields) (F:=fun d x=>zuu c d x) (bad:=some 1) (fin:=some 0) (fun d k f hk=>?_) (fun d=>by rw[zuu,if_neg (Int.lt_irrefl _)]) (by omega);have hkl:=(List.getElem?_eq_some_iff.1 hk).1;have hc:=zAy ht;rw[zuu,if_pos (by omega),zq2 hk,obs,zAk (zBD ht),obs,zqf (fI (by omega))]
 have key:=zBE (zzu (n:=f.Crop) (lo:=0) (hi:=(zzk c.Tariffs:Int) - 1)) fun _=>zBE (zzu (n:=f.Value) (lo:=0) (hi:=100000)) fun _=>zBE (zzu (n:=f.Near) (lo:=0) (hi:=100)) fun _=>zBE (zBC (r:=f.First)) fun _=>zBE (zBC (r:=f.Second)) fun _=>
  zBE (β:=Int) (Q:=True) (k:=gd (zl0 .i64 ((k:Int)+1)) (zuu c d ((k:Int)+1))) (A:=zuu c d ((k:Int)+1)) (B:=some 1) (zBC (r:=f.Umpire)) fun _=>⟨fun _=>zqf (fI (by omega)),fun h=>absurd trivial h⟩
 refine⟨fun h=>key.1 ⟨⟨h.crop.1,by have:=h.crop.2; omega⟩,h.val,h.near,h.fst,h.snd,h.ump,trivial⟩,fun h=>key.2 fun h'=>h ⟨⟨h'.1.1,by have:=h'.1.2; omega⟩,h'.2.1,h'.2.2.1,h'.2.2.2.1,h'.2.2.2.2.1,h'.2.2.2.2.2.1⟩⟩
theorem zBG{c:Cse}:zuv c=some (zBp c):=by
 unfold zuv zBp;rw[zz7,obs]
 by_cases h:zzn c.Tariffs=0
 ·rw[if_pos h,if_pos h]
  by_cases h3:3 < c.Fields.length
  ·rw[if_pos (by omega),if_pos h3]
  ·rw[if_neg (by omega),if_neg h3];have g:=zBF h (by omega);have key:=zBE (zzu (n:=c.Day) (lo:=0) (hi:=120)) fun _=>zBE (zzu (n:=c.Fee) (lo:=0) (hi:=10000)) fun _=>g
   by_cases hc:zBo c
   ·rw[if_pos hc]; exact key.1 ⟨hc.day,hc.fee,hc.fld⟩
   ·rw[if_neg hc]; exact key.2 fun h'=>hc ⟨h,by omega,h'.1,h'.2.1,h'.2.2⟩
 ·rw[if_neg h,if_neg h]
theorem zBH{c:Cse}:zuD c=some (zBp c):=by unfold zuD; rw[zBG]; rfl
theorem zBI{c:Cse}:Ev (zuC c) (zz9 c.Tariffs∧c.Fields.length≤6):=Ev.and zAd fun _=>Ev.dec (by omega)
theorem zBJ{c:Cse}:Ev (zuI c) ((zz9 c.Tariffs∧c.Fields.length≤6)∧zBo c):=Ev.and zBI fun _=>Ev.bind zBH (Ev.dec zBq)
theorem zBK{c:Cse}(hl:c.Fields.length≤6):∀(d k:Nat),k≤c.Fields.length→c.Fields.length - k < d→zuy c c.Tariffs d c.Day c.Fee (c.Fields.take k) (k:Int)=some c
 | 0,k,_,h=>by omega
 | d+1,k,hk,h=>by
  rw[zuy]
  by_cases hkl:k < c.Fields.length
  ·have hg:=List.getElem?_eq_getElem hkl;rw[if_pos (by omega),zq2 hg,obs]
   show gd ((c.Fields.take k).length < 1048576) _=_
   rw[zqf (by rw[List.length_take]; omega),zqf (fI (by omega)),show(k:Int)+1=((k+1:Nat):Int) by omega];have:=zBK hl d (k+1) hkl (by omega);rw[List.take_add_one,hg] at this;exact this
  ·rw[if_neg (by omega),List.take_of_length_le (by omega)]
theorem zBL{c:Cse}(ht:zz9 c.Tariffs)(hl:c.Fields.length≤6):zuz c=some c:=by
 unfold zuz;rw[zAh ht,obs];exact zBK hl 1000000 0 (by omega) (by omega)
theorem zBM{t:List Thr}(hl:t.length≤1000000):∀(d k:Nat),k≤t.length→t.length - k < d→zuA t d (t.take k) (k:Int)=some t
 | 0,k,_,h=>by omega
 | d+1,k,hk,h=>by
  rw[zuA]
  by_cases hkl:k < t.length
  ·have hg:=List.getElem?_eq_getElem hkl;rw[if_pos (by omega),zq2 hg,obs,obs,obs,zqf (by rw[List.length_take]; omega),zqf (fI (by omega)),show(k:Int)+1=((k+1:Nat):Int) by omega];have:=zBM hl d (k+1) hkl (by omega);rw[List.take_add_one,hg] at this;exact this
  ·rw[if_neg (by omega),List.take_of_length_le (by omega)]
theorem zBN{t:List Thr}(hl:t.length≤1000000):zuB t=some t:=zBM hl (t.length+1) 0 (by omega) (by omega)
end
end Go.Proofs.YteojndcmgpiklaaGreat

namespace Go.Proofs.YteojndcmgpiklaaGreat
open _root_.Go.Proofs.Tryz
open Go.Abs
set_option maxRecDepth 100000
noncomputable section
structure zBO (f:Fld) (t:Thr):Prop where
 a:f.First.Lo≤t.First∧t.First≤f.First.Hi
 b:f.Second.Lo≤t.Second∧t.Second≤f.Second.Hi
 u:f.Umpire.Lo≤t.Umpire∧t.Umpire≤f.Umpire.Hi
structure zBP (t:Thr):Prop where
 a:0≤t.First∧t.First≤100
 b:0≤t.Second∧t.Second≤100
 u:0≤t.Umpire∧t.Umpire≤100
theorem zBO.rng{l:List Tf}{f:Fld}(h:zBn l f){t:Thr}(ht:zBO f t):zBP t:=by
 have h1:=h.fst; have h2:=h.snd; have h3:=h.ump;have:=h1.lo; have:=h1.hi; have:=h2.lo; have:=h2.hi; have:=h3.lo; have:=h3.hi;have:=ht.a; have:=ht.b; have:=ht.u;exact⟨by omega,by omega,by omega⟩
def zBQ(a b:Int):Int:=max a b - min a b
def zBR(f:Fld)(t:Thr):Prop:=f.Near < zBQ t.First t.Second
instance (f:Fld) (t:Thr):Decidable (zBR f t):=by unfold zBR; infer_instance
def zBS(f:Fld)(t:Thr):Int:=if zBR f t then min (max t.Umpire (min t.First t.Second)) (max t.First t.Second) else (t.First+t.Second) / 2
def zBT(f:Fld)(t:Thr):Int:=if zBR f t then (if zBQ t.Second (zBS f t) < zBQ t.First (zBS f t) then 2 else if zBQ t.First (zBS f t) < zBQ t.Second (zBS f t) then 3 else 1) else 0
theorem zBU{a b:Int}(ha:0≤a∧a≤100)(hb:0≤b∧b≤100):ztG a b=some (zBQ a b):=zqf (fI (by omega))
theorem zBV{f:Fld}{t:Thr}(h:zBP t):Ev (ztH f t) (zBR f t):=Ev.bind (zBU h.a h.b) (Ev.dec Iff.rfl)
theorem zBW{f:Fld}{t:Thr}:min t.First t.Second≤zBS f t∧zBS f t≤max t.First t.Second:=by
 unfold zBS
 split <;> omega
theorem zBX{f:Fld}{t:Thr}(h:zBP t):0≤zBS f t∧zBS f t≤100:=by
 have:=@zBW f t;have:=h.a; have:=h.b
 omega
theorem zBY{f:Fld}{t:Thr}(h:zBP t):ztI f t=some (zBS f t):=by
 have h1:=h.a; have h2:=h.b;unfold zBS
 exact Ev.pick (zBV h) (fun hc=>by rw[if_pos rfl,if_pos hc]) fun hc=>by
  rw[zqg rfl,if_neg hc,zqf (fI (by omega)),zqf (by omega),zqf (by omega),zqf (fI (by omega))]
theorem zBZ{f:Fld}{t:Thr}(h:zBP t):ztJ f t=some (zBT f t):=by
 have hs:=zBX (f:=f) h;unfold ztJ;rw[zBY h,obs,zBU h.a hs,obs,zBU h.b hs,obs];unfold zBT
 refine Ev.pick (zBV h) (fun hc=>?_) fun hc=>by rw[zqg rfl,if_neg hc]
 rw[if_pos rfl,if_pos hc]
 split
 ·rfl
 ·split <;> rfl
theorem zB0{f:Fld}{t:Thr}:0≤zBT f t∧zBT f t < 4:=by
 unfold zBT
 repeat' split
 all_goals omega
def cnt(r:Rg):Nat:=(r.Hi - r.Lo+1).toNat
def zB1(f:Fld):List Thr:=(segI f.First.Lo (cnt f.First)).flatMap fun a=>(segI f.Second.Lo (cnt f.Second)).flatMap fun b=>(segI f.Umpire.Lo (cnt f.Umpire)).map fun u=>⟨a,b,u⟩
theorem zB2{r:Rg}(h:zBl r){x:Int}:x∈segI r.Lo (cnt r)↔r.Lo≤x∧x≤r.Hi:=by
 have:=h.le;rw[zrm]; unfold cnt; omega
theorem zB3{r:Rg}(h:zBl r):0 < cnt r∧cnt r≤5:=by
 have:=h.le; have:=h.wd;unfold cnt; omega
theorem zB4{l:List Tf}{f:Fld}(h:zBn l f){t:Thr}:t∈zB1 f↔zBO f t:=by
 unfold zB1
 simp only[List.mem_flatMap,List.mem_map,zB2 h.fst,zB2 h.snd,zB2 h.ump]
 constructor
 ·rintro⟨a,ha,b,hb,u,hu,rfl⟩; exact⟨ha,hb,hu⟩
 ·intro ht; exact⟨_,ht.a,_,ht.b,_,ht.u,rfl⟩
theorem zB5{l:List Tf}{f:Fld}(h:zBn l f):0 < (zB1 f).length∧(zB1 f).length≤125:=by
  have h1:=zB3 h.fst; have h2:=zB3 h.snd; have h3:=zB3 h.ump
  have e:(zB1 f).length=cnt f.First * (cnt f.Second * cnt f.Umpire):=by
    unfold zB1
    simp[List.length_flatMap,zrn,List.map_const',List.sum_replicate_nat]
  rw[e];refine⟨Nat.mul_pos h1.1 (Nat.mul_pos h2.1 h3.1),?_⟩
  calc cnt f.First * (cnt f.Second * cnt f.Umpire)≤5 * (5 * 5):=Nat.mul_le_mul h1.2 (Nat.mul_le_mul h2.2 h3.2)
    _=125:=rfl
theorem zB6{f:Fld}(h:zBl f.Umpire){x y:Int}(hy:-1000≤y∧y≤1000){K:Int→Option (List Thr)}{r:List Thr}(hK:K (y+1)=some r):∀(d n:Nat) (k:Int),f.Umpire.Lo≤k→n < d→k+n=f.Umpire.Hi+1→ztK f x y K d k=some ((segI k n).map (fun u=>⟨x,y,u⟩)++r)
 | 0,n,k,_,h2,_=>by omega
 | d+1,0,k,_,_,h3=>by
  rw[ztK,if_neg (by omega),zqf (fI (by omega)),hK]; rfl
 | d+1,n+1,k,h1,h2,h3=>by
  have:=h.lo; have:=h.hi;rw[ztK,if_pos (by omega),zqf (fI (by omega)),zB6 h hy hK d n (k+1) (by omega) (by omega) (by omega)]
  rfl
theorem zB7{f:Fld}(hu:zBl f.Umpire)(h:zBl f.Second){x:Int}(hx:-1000≤x∧x≤1000){K:Int→Option (List Thr)}{r:List Thr}(hK:K (x+1)=some r):∀(d n:Nat) (k:Int),f.Second.Lo≤k→n < d→k+n=f.Second.Hi+1→ztL f x K d k=some ((segI k n).flatMap (fun b=>(segI f.Umpire.Lo (cnt f.Umpire)).map fun u=>⟨x,b,u⟩)++r)
 | 0,n,k,_,h2,_=>by omega
 | d+1,0,k,_,_,h3=>by
  rw[ztL,if_neg (by omega),zqf (fI (by omega)),hK]; rfl
 | d+1,n+1,k,h1,h2,h3=>by
  have:=h.lo; have:=h.hi; have:=hu.le;have:=zB3 hu;rw[ztL,if_pos (by omega),zB6 hu (by omega) (zB7 hu h hx hK d n (k+1) (by omega) (by omega) (by omega)) 1000000 (cnt f.Umpire) f.Umpire.Lo (by omega) (by omega) (by unfold cnt; omega)]
  simp only[segI,List.flatMap_cons,List.append_assoc]
theorem zB8{f:Fld}(hu:zBl f.Umpire)(hs:zBl f.Second)(h:zBl f.First):∀(d n:Nat) (k:Int),f.First.Lo≤k→n < d→k+n=f.First.Hi+1→ztM f d k=some ((segI k n).flatMap fun a=>(segI f.Second.Lo (cnt f.Second)).flatMap fun b=>(segI f.Umpire.Lo (cnt f.Umpire)).map fun u=>⟨a,b,u⟩)
 | 0,n,k,_,h2,_=>by omega
 | d+1,0,k,_,_,h3=>by
  rw[ztM,if_neg (by omega)]; rfl
 | d+1,n+1,k,h1,h2,h3=>by
  have:=h.lo; have:=h.hi; have:=hs.le;have:=zB3 hs;rw[ztM,if_pos (by omega),zB7 hu hs (by omega) (zB8 hu hs h d n (k+1) (by omega) (by omega) (by omega)) 1000000 (cnt f.Second) f.Second.Lo (by omega) (by omega) (by unfold cnt; omega)]
  simp only[segI,List.flatMap_cons]
theorem zB9{l:List Tf}{f:Fld}(h:zBn l f):ztO f=some (zB1 f):=by
 have:=zB3 h.fst; have:=h.fst.le;unfold ztO ztN;rw[zB8 h.ump h.snd h.fst 1000000 (cnt f.First) f.First.Lo (by omega) (by omega) (by unfold cnt; omega)]; rfl
def zCa(c:Cse)(f:Fld)(n:Int):Int:=f.Value * zzs c.Tariffs f.Crop c.Day n / 100
def zCb(c:Cse)(M:Option (Clm→Option Int)):Prop:=∃g,M=some g∧∀k v,g k=some v→v=zAI c.Tariffs k ⟨c.Day,k.Count.Lo⟩
theorem zCc{c:Cse}:zCb c (some fun _=>none):=⟨_,rfl,fun _ _ h=>by cases h⟩
theorem zCd{c:Cse}(hc:zBo c){f:Fld}(hf:zBn c.Tariffs f){n:Int}(hn:0≤n∧n≤100):0≤zCa c f n∧zCa c f n≤100000:=
 zBg hc.tar ((zBx hc.day hn).2 ⟨hf.crop,hf.val⟩) (t:=⟨c.Day,n⟩) ⟨⟨Int.le_refl _,Int.le_refl _⟩,Int.le_refl _,Int.le_refl _⟩
theorem zCe{c:Cse}(hc:zBo c){f:Fld}(hf:zBn c.Tariffs f){n:Int}(hn:0≤n∧n≤100):MK.fit (zBw c f n):=by
 have h1:=hf.crop; have h2:=hf.val; have h3:=hc.day; have h4:=zAy hc.tar;exact⟨fI (n:=f.Crop) (by omega),fI (n:=f.Value) (by omega),fI (n:=c.Day) (by omega),fI (n:=c.Day) (by omega),fI (n:=n) (by omega),fI (n:=n) (by omega),trivial⟩
theorem zCf{c:Cse}(hc:zBo c){M:Option (Clm→Option Int)}(hM:zCb c M){f:Fld}(hf:zBn c.Tariffs f){n:Int}(hn:0≤n∧n≤100):∃M',zuc ⟨c,M⟩ f n=some (zCa c f n,M')∧zCb c M':=by
 obtain⟨g,rfl,hg⟩:=hM;have hcl:=(zBx (f:=f) hc.day hn).2 ⟨hf.crop,hf.val⟩;have hfit:=zCe hc hf hn;unfold zuc;rw[show ztV (UWk.mk c (some g)).c f n=some (zBw c f n) from rfl,obs,zqf hfit]
 cases hk:g (zBw c f n) with
 | some v=>
  rw[zqL (show zqA (UWk.mk c (some g)).payments (zBw c f n)=some v from hk)];refine⟨_,?_,g,rfl,hg⟩;rw[hg _ _ hk]; rfl
 | none=>
  rw[zqK (show zqA (UWk.mk c (some g)).payments (zBw c f n)=none from hk)];have hp:ztr (UWk.mk c (some g)).c.Tariffs (zBw c f n) ⟨(UWk.mk c (some g)).c.Day,n⟩=some (zCa c f n,0):=zAQ hc.tar hcl (t:=⟨c.Day,n⟩) ⟨⟨Int.le_refl _,Int.le_refl _⟩,Int.le_refl _,Int.le_refl _⟩;rw[hp,obs,zqf hfit];refine⟨_,rfl,_,rfl,fun k v h=>?_⟩
  dsimp only at h
  split at h
  ·rename_i he; subst he; cases h; rfl
  ·exact hg k v h
def ocN(c:Cse)(f:Fld)(t:Thr):Oc:=⟨zCa c f (zBS f t),zBT f t⟩
theorem zCg{c:Cse}(hc:zBo c){M:Option (Clm→Option Int)}(hM:zCb c M){f:Fld}(hf:zBn c.Tariffs f){t:Thr}(ht:zBO f t):∃M',zud ⟨c,M⟩ f t=some (ocN c f t,M')∧zCb c M':=by
 have hr:=ht.rng hf;obtain⟨M',h1,h2⟩:=zCf hc hM hf (zBX (f:=f) hr);refine⟨M',?_,h2⟩;unfold zud;rw[zBY hr,obs,h1,obs,zBZ hr]; rfl
structure zCh (o:Oc):Prop where
 p:0≤o.pence∧o.pence≤100000
 l:0≤o.loser∧o.loser < 4
theorem zCi{c:Cse}(hc:zBo c){f:Fld}(hf:zBn c.Tariffs f){t:Thr}(ht:zBO f t):zCh (ocN c f t):=⟨zCd hc hf (zBX (ht.rng hf)),zB0⟩
theorem zCh.fit{o:Oc}(h:zCh o):MK.fit o:=⟨fI (by have:=h.p; omega),fI (by have:=h.l; omega),trivial⟩
def zCj(v:Ver)(o:Oc):Ver:=⟨v.fee,v.pence+o.pence,⟨v.fields.f0+(if o.loser=0 then 1 else 0),v.fields.f1+(if o.loser=1 then 1 else 0),v.fields.f2+(if o.loser=2 then 1 else 0),v.fields.f3+(if o.loser=3 then 1 else 0)⟩⟩
structure zCk (k:Int) (v:Ver):Prop where
 fee:0≤v.fee∧v.fee≤10000
 p:0≤v.pence∧v.pence≤100000 * k
 f0:0≤v.fields.f0∧v.fields.f0≤k
 f1:0≤v.fields.f1∧v.fields.f1≤k
 f2:0≤v.fields.f2∧v.fields.f2≤k
 f3:0≤v.fields.f3∧v.fields.f3≤k
theorem zCl{k:Int}{v:Ver}(h:zCk k v){o:Oc}(ho:zCh o):zCk (k+1) (zCj v o):=by
 have:=ho.p; have:=h.p; have:=h.f0; have:=h.f1; have:=h.f2; have:=h.f3;refine⟨h.fee,?_,?_,?_,?_,?_⟩
 ·show 0≤v.pence+o.pence∧v.pence+o.pence≤100000 * (k+1); omega
 all_goals (simp only[zCj]; split <;> omega)
theorem zCm{k:Int}(hk:k≤1000){v:Ver}(h:zCk k v){o:Oc}(ho:zCh o):zt5 v o=some (zCj v o):=by
 have h1:=ho.p; have h2:=h.p; have h3:=h.f0; have h4:=h.f1; have h5:=h.f2; have h6:=h.f3; have h7:=ho.l;obtain⟨op,ol⟩:=o
 dsimp only at h1 h7
 have hcase:ol=0∨ol=1∨ol=2∨ol=3:=by omega
 unfold zt5;rw[zqf (fI (by dsimp only; omega))]
 rcases hcase with rfl | rfl | rfl | rfl
 ·rw[zq5 rfl,obs,zqf (fI (by omega)),zqf (by omega)]
  simp[sti,zCj]
 ·rw[show idx [v.fields.f0,v.fields.f1,v.fields.f2,v.fields.f3] (1:Int)=some v.fields.f1 from rfl,obs,zqf (fI (by omega)),zqf (by omega)]
  simp[sti,zCj]
 ·rw[show idx [v.fields.f0,v.fields.f1,v.fields.f2,v.fields.f3] (2:Int)=some v.fields.f2 from rfl,obs,zqf (fI (by omega)),zqf (by omega)]
  simp[sti,zCj]
 ·rw[show idx [v.fields.f0,v.fields.f1,v.fields.f2,v.fields.f3] (3:Int)=some v.fields.f3 from rfl,obs,zqf (fI (by omega)),zqf (by omega)]
  simp[sti,zCj]
def zCn(v:Ver):Prop:=0 < v.fields.f1+v.fields.f2+v.fields.f3
instance (v:Ver):Decidable (zCn v):=by unfold zCn; infer_instance
def zCo(v:Ver):Int:=if zCn v then (if v.fields.f2 < v.fields.f3 then 0 else if v.fields.f3 < v.fields.f2 then v.fee else v.fee - v.fee / 2) else 0
def zCp(v:Ver):Int:=if zCn v then v.fee - zCo v else 0
theorem zCq{k:Int}(hk:k≤1000){v:Ver}(h:zCk k v):Ev (zt6 v) (zCn v):=by
 have h4:=h.f1; have h5:=h.f2; have h6:=h.f3;unfold zt6;rw[show idx [v.fields.f0,v.fields.f1,v.fields.f2,v.fields.f3] (1:Int)=some v.fields.f1 from rfl,obs,show idx [v.fields.f0,v.fields.f1,v.fields.f2,v.fields.f3] (2:Int)=some v.fields.f2 from rfl,obs,zqf (fI (by omega)),show idx [v.fields.f0,v.fields.f1,v.fields.f2,v.fields.f3] (3:Int)=some v.fields.f3 from rfl,obs,zqf (fI (by omega))];exact Ev.dec Iff.rfl
theorem zCr{k:Int}(hk:k≤1000){v:Ver}(h:zCk k v):zt8 v=some (zCo v):=by
 have hf:=h.fee;unfold zt8 zCo;rw[show idx [v.fields.f0,v.fields.f1,v.fields.f2,v.fields.f3] (2:Int)=some v.fields.f2 from rfl,obs,show idx [v.fields.f0,v.fields.f1,v.fields.f2,v.fields.f3] (3:Int)=some v.fields.f3 from rfl,obs]
 refine Ev.pick (zCq hk h) (fun hc=>?_) fun hc=>by rw[zqg rfl,if_neg hc]
 rw[if_pos rfl,if_pos hc]
 split
 ·rfl
 ·split
  ·rfl
  ·rw[zqf (by omega),zqf (by omega),zqf (fI (by omega)),zqf (fI (by omega))]
theorem zCs{k:Int}{v:Ver}(h:zCk k v):0≤zCo v∧zCo v≤v.fee:=by
 have:=h.fee;unfold zCo
 repeat' split
 all_goals omega
theorem zCt{k:Int}(hk:k≤1000){v:Ver}(h:zCk k v):zt9 v=some (zCp v):=by
 have hf:=h.fee; have hr:=zCs h;unfold zt9 zCp
 refine Ev.pick (zCq hk h) (fun hc=>?_) fun hc=>by rw[zqg rfl,if_neg hc]
 rw[if_pos rfl,if_pos hc,zCr hk h,obs,zqf (fI (by omega))]
theorem zCu{k:Int}{v:Ver}(h:zCk k v):0≤zCp v∧zCp v≤v.fee:=by
 have:=h.fee; have:=zCs h;unfold zCp
 split <;> omega
theorem zCv{k:Int}(hk:k≤1000){v:Ver}(h:zCk k v):zua v=some (v.pence - zCo v):=by
 have hf:=h.fee; have hr:=zCs h; have:=h.p;unfold zua zt7;rw[obs,zCr hk h,obs,zqf (fI (by omega))]
theorem zCw{k:Int}(hk:k≤1000){v:Ver}(h:zCk k v):zub v=some (v.pence+zCp v):=by
 have hf:=h.fee; have hr:=zCu h; have:=h.p;unfold zub zt7;rw[obs,zCt hk h,obs,zqf (fI (by omega))]
def zCx:List Fld→List Thr→Prop
 | [],[]=>True
 | f::fs,t::ts=>zBO f t∧zCx fs ts
 | _,_=>False
theorem zCx.len:∀{fs:List Fld} {ts:List Thr},zCx fs ts→fs.length=ts.length
 | [],[],_=>rfl
 | _f::_fs,_t::_ts,h=>congrArg (· + 1) (zCx.len h.2)
theorem zCy{f:Fld}{t:Thr}:Ev (ztF f t) (zBO f t):=
 (Ev.and zBr fun _=>Ev.and zBr fun _=>zBr.ret).imp ⟨fun h=>⟨h.1,h.2.1,h.2.2⟩,fun h=>⟨h.a,h.b,h.u⟩⟩
theorem zCz{α:Type}{l:List α}{k:Nat}(h:k < l.length):∃a,l[k]? = some a∧l.drop k=a::l.drop (k+1):=
 ⟨l[k],List.getElem?_eq_getElem h,List.drop_eq_getElem_cons h⟩
theorem zCA{c:Cse}{t:List Thr}(hl:c.Fields.length≤3)(he:t.length=c.Fields.length):∀(d k:Nat),k≤c.Fields.length→c.Fields.length - k < d→Ev (zt0 c t d (k:Int)) (zCx (c.Fields.drop k) (t.drop k))
 | 0,k,_,h=>by omega
 | d+1,k,hk,h=>by
  rw[zt0]
  by_cases hkl:k < c.Fields.length
  ·obtain⟨f,h1,h2⟩:=zCz hkl;obtain⟨x,h3,h4⟩:=zCz (l:=t) (k:=k) (by omega);rw[if_pos (by omega),zq2 h1,obs,zq2 h3,obs,h2,h4]
   exact Ev.and zCy fun _=>Ev.gd (fI (by omega)) (by
    rw[show(k:Int)+1=((k+1:Nat):Int) by omega]
    exact zCA hl he d (k+1) hkl (by omega))
  ·rw[if_neg (by omega),List.drop_eq_nil_of_le (by omega),List.drop_eq_nil_of_le (by omega)];exact Ev.tt trivial
theorem zCB{c:Cse}(hl:c.Fields.length≤3){t:List Thr}:Ev (zt1 c t) (zCx c.Fields t):=by
 unfold zt1
 by_cases he:t.length=c.Fields.length
 ·rw[if_pos (by omega)];exact zCA hl he (c.Fields.length+1) 0 (by omega) (by omega)
 ·rw[if_neg (by omega)];exact Ev.ff fun h=>he h.len.symm
def verF(c:Cse):List Fld→List Thr→Ver→Ver
 | f::fs,t::ts,v=>verF c fs ts (zCj v (ocN c f t))
 | _,_,v=>v
def setsN:List Fld→List Thr→List Int
 | f::fs,t::ts=>zBS f t::setsN fs ts
 | _,_=>[]
def zCC(c:Cse)(ts:List Thr):Ver:=verF c c.Fields ts ⟨c.Fee,0,⟨0,0,0,0⟩⟩
def zCD(c:Cse)(ts:List Thr):Res:=⟨setsN c.Fields ts,(zCC c ts).pence,zCo (zCC c ts),zCp (zCC c ts)⟩
theorem zCE{c:Cse}(hc:zBo c):zCk 0 ⟨c.Fee,0,⟨0,0,0,0⟩⟩:=⟨hc.fee,by dsimp only; omega,by dsimp only; omega,by dsimp only; omega,by dsimp only; omega,by dsimp only; omega⟩
theorem zCF{c:Cse}(hc:zBo c){t:List Thr}(he:t.length=c.Fields.length):∀(d k:Nat) (M:Option (Clm→Option Int)) (l:List Int) (v:Ver),k≤c.Fields.length→c.Fields.length - k < d→l.length=k→zCx (c.Fields.drop k) (t.drop k)→zCb c M→zCk (k:Int) v→∀M0,
  ∃M',zug ⟨c,M0⟩ t d l 0 0 0 v.fee v.pence v.fields.f0 v.fields.f1 v.fields.f2 v.fields.f3 M (k:Int)=some (⟨l++setsN (c.Fields.drop k) (t.drop k),(verF c (c.Fields.drop k) (t.drop k) v).pence,zCo (verF c (c.Fields.drop k) (t.drop k) v),zCp (verF c (c.Fields.drop k) (t.drop k) v)⟩,M')∧zCb c M'
 | 0,k,_,_,_,_,h,_,_,_,_,_=>by omega
 | d+1,k,M,l,v,hk,h,hll,ht,hM,hv,M0=>by
  have hlen:=hc.len;rw[zug]
  dsimp only
  by_cases hkl:k < c.Fields.length
  ·obtain⟨f,h1,h2⟩:=zCz hkl;obtain⟨x,h3,h4⟩:=zCz (l:=t) (k:=k) (by omega);rw[h2,h4] at ht ⊢;have hf:=hc.fld f (List.mem_of_getElem? h1);obtain⟨M1,g1,g2⟩:=zCg hc hM hf ht.1;rw[if_pos (by omega),zq2 h1,obs,zq2 h3,obs,zBY (ht.1.rng hf),obs,zqf (by omega),obs,g1,obs]
   dsimp only
   have hvw:=zCm (k:=(k:Int)) (by omega) hv (zCi hc hf ht.1);rw[show(⟨v.fee,v.pence,⟨v.fields.f0,v.fields.f1,v.fields.f2,v.fields.f3⟩⟩:Ver)=v from rfl,hvw,obs,zqf (fI (by omega)),show(k:Int)+1=((k+1:Nat):Int) by omega];have hok:=zCl hv (zCi hc hf ht.1);obtain⟨M',q1,q2⟩:=zCF hc he d (k+1) M1 (l++[zBS f x]) (zCj v (ocN c f x)) hkl (by omega) (by simp; omega) ht.2 g2 (by rw[show((k+1:Nat):Int)=(k:Int)+1 by omega]; exact hok) M0;refine⟨M',?_,q2⟩;rw[q1]
   simp[setsN,verF]
  ·rw[if_neg (by omega),List.drop_eq_nil_of_le (by omega),List.drop_eq_nil_of_le (by omega)];refine⟨M,?_,hM⟩;rw[show(⟨v.fee,v.pence,⟨v.fields.f0,v.fields.f1,v.fields.f2,v.fields.f3⟩⟩:Ver)=v from rfl]
   simp only[zt7,obs,zCr (k:=(k:Int)) (by omega) hv,zCt (k:=(k:Int)) (by omega) hv,setsN,verF,List.append_nil]
theorem zCG{c:Cse}(hc:zBo c){M:Option (Clm→Option Int)}(hM:zCb c M){t:List Thr}(ht:zCx c.Fields t):∃M',zuh ⟨c,M⟩ t=some (zCD c t,M')∧zCb c M':=by
 obtain⟨M',h1,h2⟩:=zCF hc ht.len.symm (c.Fields.length+1) 0 M [] ⟨c.Fee,0,⟨0,0,0,0⟩⟩ (by omega) (by omega) rfl ht hM (zCE hc) M;exact⟨M',h1,h2⟩
theorem zCH{c:Cse}(hc:zBo c):zt3 c=some (⟨c,some fun _=>none⟩,0):=by unfold zt3; rw[zBB,obs,zBq.2 hc,if_pos rfl]
theorem zCI{c:Cse}(hc:zBo c){t:List Thr}(ht:zCx c.Fields t):zup c t=some (zCD c t,0):=by
 obtain⟨M',h1,h2⟩:=zCG hc zCc ht;unfold zup;rw[zCH hc,obs,if_pos rfl,(zCB hc.len).some_of ht,obs,if_pos rfl,h1]; rfl
open Classical in
theorem zCJ{c:Cse}(hc:zBo c){f:Fld}(hf:zBn c.Tariffs f){M0:Option (Clm→Option Int)}:∀(l:List Thr) (M:Option (Clm→Option Int)) (g:Oc→Option Bool),zCb c M→(∀t∈l,zBO f t) →
  ∃g' M',zue ⟨c,M0⟩ f l M (some g)=some (some g',M')∧zCb c M'∧∀o,g' o ≠ none↔g o ≠ none∨∃t∈l,ocN c f t=o
 | [],M,g,hM,_=>⟨g,M,rfl,hM,fun o=>⟨.inl,fun h=>h.elim id fun⟨t,ht,_⟩=>by cases ht⟩⟩
 | t::l,M,g,hM,hl=>by
  have ht:=hl t (List.mem_cons_self ..);obtain⟨M1,h1,h2⟩:=zCg hc hM hf ht;obtain⟨g',M',q1,q2,q3⟩:=zCJ hc hf (M0:=M0) l M1 (fun j=>if j=ocN c f t then some true else g j) h2 fun u hu=>hl u (List.mem_cons_of_mem _ hu);refine⟨g',M',?_,q2,fun o=>?_⟩
  ·rw[zue]
   dsimp only
   rw[h1,obs,zqf (zCi hc hf ht).fit]
   show(some _:Option (Option (Oc→Option Bool))).bind _=_
   rw[obs];exact q1
  ·rw[q3]
   constructor
   ·rintro (h | ⟨u,hu,rfl⟩)
    ·split at h
     ·rename_i he; exact .inr ⟨t,List.mem_cons_self ..,he.symm⟩
     ·exact .inl h
    ·exact .inr ⟨u,List.mem_cons_of_mem _ hu,rfl⟩
   ·rintro (h | ⟨u,hu,rfl⟩)
    ·left
     split
     ·simp
     ·exact h
    ·rcases List.mem_cons.1 hu with rfl | hu
     ·left; rw[if_pos rfl]; simp
     ·exact .inr ⟨u,hu,rfl⟩
theorem zCK{c:Cse}(hc:zBo c){M:Option (Clm→Option Int)}(hM:zCb c M){f:Fld}(hf:zBn c.Tariffs f):∃g M',zuf ⟨c,M⟩ f=some (some g,M')∧zCb c M'∧∀o,g o ≠ none↔∃t,zBO f t∧ocN c f t=o:=by
 obtain⟨g,M',h1,h2,h3⟩:=zCJ hc hf (M0:=M) (zB1 f) M (fun _=>none) hM fun t ht=>(zB4 hf).1 ht;refine⟨g,M',?_,h2,fun o=>?_⟩
 ·unfold zuf;rw[zB9 hf,obs];exact h1
 ·rw[h3]
  constructor
  ·rintro (h | ⟨t,ht,he⟩)
   ·exact absurd rfl h
   ·exact⟨t,(zB4 hf).1 ht,he⟩
  ·rintro⟨t,ht,he⟩
   exact .inr ⟨t,(zB4 hf).2 ht,he⟩
theorem zCL{c:Cse}(hc:zBo c){f:Fld}(hf:zBn c.Tariffs f):∃L:List KOc,(∀a:KOc,a∈L↔∃t,zBO f t∧ocN c f t=a.1)∧L.length≤125:=by
 have hfit:∀t,zBO f t→MK.fit (ocN c f t):=fun t ht=>(zCi hc hf ht).fit
 have key:∀l:List Thr,(∀t∈l,zBO f t)→∃L:List KOc,(∀a:KOc,a∈L↔∃t∈l,ocN c f t=a.1)∧L.length=l.length:=by
  intro l
  induction l with
  | nil=>exact fun _=>⟨[],fun a=>⟨fun h=>(by cases h),fun⟨_,h,_⟩=>(by cases h)⟩,rfl⟩
  | cons t l ih=>
   intro hl;obtain⟨L,h1,h2⟩:=ih fun u hu=>hl u (List.mem_cons_of_mem _ hu);refine⟨⟨ocN c f t,hfit t (hl t (List.mem_cons_self ..))⟩ :: L,fun a=>?_,by simp[h2]⟩;rw[List.mem_cons,h1]
   constructor
   ·rintro (rfl | ⟨u,hu,he⟩)
    ·exact⟨t,List.mem_cons_self ..,rfl⟩
    ·exact⟨u,List.mem_cons_of_mem _ hu,he⟩
   ·rintro⟨u,hu,he⟩
    rcases List.mem_cons.1 hu with rfl | hu
    ·exact .inl (Subtype.ext he.symm)
    ·exact .inr ⟨u,hu,he⟩
 obtain⟨L,h1,h2⟩:=key (zB1 f) fun t ht=>(zB4 hf).1 ht;refine⟨L,fun a=>(h1 a).trans ⟨fun⟨t,ht,he⟩=>⟨t,(zB4 hf).1 ht,he⟩,fun⟨t,ht,he⟩=>⟨t,(zB4 hf).2 ht,he⟩⟩,by rw[h2]; exact(zB5 hf).2⟩
open Classical in
theorem zCM{α:Type}:∀l:List α,∃l':List α,l'.Nodup∧(∀a,a∈l'↔a∈l)∧l'.length≤l.length
 | []=>⟨[],List.nodup_nil,fun _=>Iff.rfl,Nat.le_refl _⟩
 | a::l=>by
  obtain⟨l',h1,h2,h3⟩:=zCM l
  by_cases ha:a∈l'
  ·refine⟨l',h1,fun b=>?_,by simp; omega⟩;rw[List.mem_cons,h2];exact⟨.inr,fun h=>h.elim (fun h=>h ▸ (h2 a).1 ha) id⟩
  ·refine⟨a::l',List.nodup_cons.2 ⟨ha,h1⟩,fun b=>?_,by simp; omega⟩;rw[List.mem_cons,List.mem_cons,h2]
theorem zCN{c:Cse}(hc:zBo c){f:Fld}(hf:zBn c.Tariffs f){g:Oc→Option Bool}(hg:∀o,g o ≠ none↔∃t,zBO f t∧ocN c f t=o) :
  (∀o,o∈zuO g↔∃t,zBO f t∧ocN c f t=o)∧(zuO g).length≤125:=by
 obtain⟨L0,l1,l2⟩:=zCL hc hf;obtain⟨L,n1,n2,n3⟩:=zCM L0
 have hL:∀a:KOc,a∈L↔fOc g a ≠ none:=fun a=>by
  have e1:fOc g a ≠ none↔g a.1 ≠ none:=by
   show(g a.1).map MV.enc ≠ none↔_
   cases g a.1 <;> simp
  rw[e1,hg,n2,l1]
 have hex:zqZ (zqz Oc) (fOc g) L:=⟨n1,hL⟩;have hk:=zuN hex;have hp:=zqZ.perm hk hex
 constructor
 ·intro o;unfold zuO;rw[List.mem_map]
  constructor
  ·rintro⟨a,ha,rfl⟩
   exact(l1 a).1 ((n2 a).1 (hp.subset ha))
  ·rintro⟨t,ht,he⟩
   subst he;exact⟨⟨ocN c f t,(zCi hc hf ht).fit⟩,hp.symm.subset ((n2 _).2 ((l1 _).2 ⟨t,ht,rfl⟩)),rfl⟩
 ·unfold zuO;rw[List.length_map,hp.length_eq]
  omega
inductive zCO (c:Cse):List Fld→List (Oc→Option Bool)→Prop where
 | nil:zCO c [] []
 | cons {f:Fld} {fs:List Fld} {g:Oc→Option Bool} {gs:List (Oc→Option Bool)}:(∀o,o∈zuO g↔∃t,zBO f t∧ocN c f t=o)→(zuO g).length≤125→zCO c fs gs→zCO c (f::fs) (g::gs)
theorem zCP{c:Cse}(hc:zBo c){M0:Option (Clm→Option Int)}:∀(fs:List Fld) (M:Option (Clm→Option Int)),zCb c M→(∀f∈fs,zBn c.Tariffs f)→∃gs M',zuS ⟨c,M0⟩ fs M=some (gs,M')∧zCb c M'∧zCO c fs gs
 | [],M,hM,_=>⟨[],M,rfl,hM,.nil⟩
 | f::fs,M,hM,hf=>by
  obtain⟨g,M1,h1,h2,h3⟩:=zCK hc hM (hf f (List.mem_cons_self ..));obtain⟨gs,M',q1,q2,q3⟩:=zCP hc (M0:=M0) fs M1 h2 fun x hx=>hf x (List.mem_cons_of_mem _ hx);have hk:=zCN hc (hf f (List.mem_cons_self ..)) h3;refine⟨g::gs,M',?_,q2,.cons hk.1 hk.2 q3⟩;rw[zuS]
  dsimp only
  rw[h1,obs,obs,q1]; rfl
theorem zCQ{c:Cse}(hc:zBo c){fs:List Fld}{G:Ver→Option (List Ver)}{v:Ver}{k:Int}(hk:k≤100)(hv:zCk k v){f:Fld}(hf:zBn c.Tariffs f){N:Nat}
  (hG:∀v',zCk (k+1) v'→∃vs,G v'=some vs∧(∀u,u∈vs↔∃ts,zCx fs ts∧verF c fs ts v'=u)∧vs.length≤N) :
  ∀L:List Oc,(∀o∈L,∃t,zBO f t∧ocN c f t=o)→∃vs,zuP G v L=some vs∧(∀u,u∈vs↔∃o∈L,∃ts,zCx fs ts∧verF c fs ts (zCj v o)=u)∧vs.length≤L.length * N
 | [],_=>⟨[],rfl,fun u=>⟨fun h=>(by cases h),fun⟨o,ho,_⟩=>(by cases ho)⟩,by simp⟩
 | o::L,hL=>by
  obtain⟨t,ht,he⟩:=hL o (List.mem_cons_self ..);have ho:zCh o:=he ▸ zCi hc hf ht;obtain⟨a,a1,a2,a3⟩:=hG _ (zCl hv ho);obtain⟨b,b1,b2,b3⟩:=zCQ hc hk hv hf hG L fun x hx=>hL x (List.mem_cons_of_mem _ hx);refine⟨a++b,?_,fun u=>?_,?_⟩
  ·rw[zuP,zCm (by omega) hv ho,obs,a1,obs,b1]; rfl
  ·rw[List.mem_append,a2,b2]
   constructor
   ·rintro (⟨ts,h1,h2⟩ | ⟨x,hx,h⟩)
    ·exact⟨o,List.mem_cons_self ..,ts,h1,h2⟩
    ·exact⟨x,List.mem_cons_of_mem _ hx,h⟩
   ·rintro⟨x,hx,h⟩
    rcases List.mem_cons.1 hx with rfl | hx
    ·exact .inl h
    ·exact .inr ⟨x,hx,h⟩
  ·rw[List.length_append,List.length_cons,Nat.add_mul]; omega
theorem zCR{c:Cse}(hc:zBo c):∀{fs:List Fld} {gs:List (Oc→Option Bool)},zCO c fs gs→(∀f∈fs,zBn c.Tariffs f)→∀{k:Int} {v:Ver},k+fs.length≤100→zCk k v →
  ∃vs,zuQ (gs.map zuO) v=some vs∧(∀u,u∈vs↔∃ts,zCx fs ts∧verF c fs ts v=u)∧vs.length≤125 ^ fs.length
 | _,_,.nil,_,k,v,_,hv=>⟨[v],rfl,fun u=>⟨fun h=>⟨[],trivial,(List.mem_singleton.1 h).symm⟩,fun ⟨ts,h1,h2⟩=>by
   cases ts with
   | nil=>exact List.mem_singleton.2 h2.symm
   | cons t ts=>exact h1.elim⟩,by simp⟩
 | _,_,.cons (f:=f) (fs:=fs) (g:=g) (gs:=gs) h1 h2 h3,hf,k,v,hk,hv=>by
  simp only[List.length_cons] at hk
  have hG:∀v',zCk (k+1) v'→_:=fun v' hv'=>zCR hc h3 (fun x hx=>hf x (List.mem_cons_of_mem _ hx)) (k:=k+1) (v:=v') (by omega) hv';obtain⟨vs,q1,q2,q3⟩:=zCQ hc (by omega) hv (hf f (List.mem_cons_self ..)) hG (zuO g) fun o ho=>(h1 o).1 ho;refine⟨vs,q1,fun u=>?_,?_⟩
  ·rw[q2]
   constructor
   ·rintro⟨o,ho,ts,h4,h5⟩
    obtain⟨t,ht,rfl⟩:=(h1 o).1 ho;exact⟨t::ts,⟨ht,h4⟩,h5⟩
   ·rintro⟨ts,h4,h5⟩
    cases ts with
    | nil=>exact h4.elim
    | cons t ts=>exact⟨ocN c f t,(h1 _).2 ⟨t,h4.1,rfl⟩,ts,h4.2,h5⟩
  ·rw[List.length_cons,Nat.pow_succ,Nat.mul_comm];exact Nat.le_trans q3 (Nat.mul_le_mul_right _ h2)
theorem zCS{l:List Tf}:∀{fs:List Fld},(∀f∈fs,zBn l f)→∃ts,zCx fs ts
 | [],_=>⟨[],trivial⟩
 | f::fs,h=>by
  obtain⟨ts,hts⟩:=zCS (fs:=fs) fun x hx=>h x (List.mem_cons_of_mem _ hx);have hf:=h f (List.mem_cons_self ..);exact⟨⟨f.First.Lo,f.Second.Lo,f.Umpire.Lo⟩ :: ts,⟨⟨Int.le_refl _,hf.fst.le⟩,⟨Int.le_refl _,hf.snd.le⟩,⟨Int.le_refl _,hf.ump.le⟩⟩,hts⟩
theorem zCT{c:Cse}(hc:zBo c):∀{fs:List Fld} {ts:List Thr},(∀f∈fs,zBn c.Tariffs f)→zCx fs ts→∀{k:Int} {v:Ver},zCk k v→zCk (k+fs.length) (verF c fs ts v)
 | [],[],_,_,k,v,hv=>by simpa [verF] using hv
 | f::fs,t::ts,hf,ht,k,v,hv=>by
  have:=zCT hc (fun x hx=>hf x (List.mem_cons_of_mem _ hx)) ht.2 (zCl hv (zCi hc (hf f (List.mem_cons_self ..)) ht.1));rw[List.length_cons,show k+((fs.length+1:Nat):Int)=k+1+fs.length by omega];exact this
 | [],_::_,_,ht,_,_,_=>ht.elim
 | _::_,[],_,ht,_,_,_=>ht.elim
theorem zCU{c:Cse}(hc:zBo c){ts:List Thr}(ht:zCx c.Fields ts):zCk 3 (zCC c ts):=by
 have h:=zCT hc hc.fld ht (zCE hc);have:=hc.len;exact⟨h.fee,by have:=h.p; unfold zCC; omega,by have:=h.f0; unfold zCC; omega,by have:=h.f1; unfold zCC; omega,by have:=h.f2; unfold zCC; omega,by have:=h.f3; unfold zCC; omega⟩
structure zCV (c:Cse) (q:Ver→Int) (r:Rg):Prop where
 all:∀ts,zCx c.Fields ts→r.Lo≤q (zCC c ts)∧q (zCC c ts)≤r.Hi
 lo:∃ts,zCx c.Fields ts∧q (zCC c ts)=r.Lo
 hi:∃ts,zCx c.Fields ts∧q (zCC c ts)=r.Hi
theorem zCW{q:Ver→Option Int}{qN:Ver→Int}:∀{vs:List Ver},(∀v∈vs,q v=some (qN v))→zuR q vs=some (vs.map qN)
 | [],_=>rfl
 | v::vs,h=>by
  rw[zuR,h v (List.mem_cons_self ..),obs,zCW fun u hu=>h u (List.mem_cons_of_mem _ hu)]; rfl
theorem zCX{c:Cse}(hc:zBo c){M:Option (Clm→Option Int)}(hM:zCb c M){q:Ver→Option Int}{qN:Ver→Int}(hq:∀v,zCk 3 v→q v=some (qN v)):∃r M',zuU ⟨c,M⟩ ⟨q⟩=some (r,M')∧zCb c M'∧zCV c qN r:=by
 have hl:=hc.len;obtain⟨gs,M',h1,h2,h3⟩:=zCP hc (M0:=M) c.Fields M hM hc.fld;obtain⟨vs,q1,q2,q3⟩:=zCR hc h3 hc.fld (k:=0) (v:=zuT c.Fee) (by omega) (zCE hc);have hm:∀u,u∈vs↔∃ts,zCx c.Fields ts∧zCC c ts=u:=q2
 have hne:vs ≠ []:=by
  obtain⟨ts,hts⟩:=zCS hc.fld;exact List.ne_nil_of_mem ((hm _).2 ⟨ts,hts,rfl⟩)
 have hlen:vs.length≤125 ^ 3:=Nat.le_trans q3 (Nat.pow_le_pow_right (by omega) hl);have hlen:vs.length≤1953125:=hlen
 have hx:zuR q vs=some (vs.map qN):=zCW fun v hv=>by
  obtain⟨ts,hts,rfl⟩:=(hm v).1 hv;exact hq _ (zCU hc hts)
 have hn2:vs.map qN ≠ []:=fun h=>hne (List.map_eq_nil_iff.1 h);refine⟨⟨zrg (vs.map qN),zrh (vs.map qN)⟩,M',?_,h2,?_,?_,?_⟩
 ·unfold zuU
  dsimp only
  rw[h1,obs,zqf (by omega)]
  dsimp only
  rw[q1,obs,zqf ⟨by omega,hne⟩,hx]; rfl
 ·intro ts hts;have hmem:qN (zCC c ts)∈vs.map qN:=List.mem_map.2 ⟨_,(hm _).2 ⟨ts,hts,rfl⟩,rfl⟩;exact⟨(zrk hn2).2 _ hmem,(zrl hn2).2 _ hmem⟩
 ·obtain⟨v,hv,he⟩:=List.mem_map.1 (zrk hn2).1;obtain⟨ts,hts,rfl⟩:=(hm v).1 hv;exact⟨ts,hts,he⟩
 ·obtain⟨v,hv,he⟩:=List.mem_map.1 (zrl hn2).1;obtain⟨ts,hts,rfl⟩:=(hm v).1 hv;exact⟨ts,hts,he⟩
end
end Go.Proofs.YteojndcmgpiklaaGreat

namespace Go.Proofs.YteojndcmgpiklaaGreat
open _root_.Go.Proofs.Tryz
open Go.Abs
set_option maxRecDepth 100000
noncomputable section
theorem zCY{c:Cse}(hc:zBo c):∃r,zu1 c=some (r,0)∧zCV c (·.pence) r:=by
 obtain⟨r,M,h1,h2,h3⟩:=zCX hc zCc (q:=fun v=>zt7 v) (qN:=(·.pence)) fun v _=>rfl;refine⟨r,?_,h3⟩;unfold zu1;rw[zCH hc,obs,if_pos rfl,h1]; rfl
theorem zCZ{c:Cse}(hc:zBo c):∃r s,zu2 c=some (r,s,0)∧zCV c zCo r∧zCV c zCp s:=by
 obtain⟨r,M,h1,h2,h3⟩:=zCX hc zCc (q:=fun v=>zt8 v) (qN:=zCo) fun v hv=>zCr (by omega) hv;obtain⟨s,M',g1,g2,g3⟩:=zCX hc h2 (q:=fun v=>zt9 v) (qN:=zCp) fun v hv=>zCt (by omega) hv;refine⟨r,s,?_,h3,g3⟩;unfold zu2;rw[zCH hc,obs,if_pos rfl,h1,obs]
 show(zuU ⟨c,M⟩ _).bind _=_
 rw[g1]; rfl
def zC0(v:Ver):Int:=v.pence - zCo v
def zC1(v:Ver):Int:=v.pence+zCp v
theorem zC2{c:Cse}(hc:zBo c):∃r s:Rg,zu3 c=some (⟨r.Lo,s.Hi⟩,0)∧zCV c zC0 r∧zCV c zC1 s:=by
 obtain⟨r,M,h1,h2,h3⟩:=zCX hc zCc (q:=fun v=>zua v) (qN:=zC0) fun v hv=>zCv (by omega) hv;obtain⟨s,M',g1,g2,g3⟩:=zCX hc h2 (q:=fun v=>zub v) (qN:=zC1) fun v hv=>zCw (by omega) hv;refine⟨r,s,?_,h3,g3⟩;unfold zu3;rw[zCH hc,obs,if_pos rfl,h1,obs]
 show(zuU ⟨c,M⟩ _).bind _=_
 rw[g1]; rfl
def FL(S:Nat→Bool):List Bool:=(List.range 101).map S
theorem zC3{S:Nat→Bool}:(FL S).length=101:=by simp[FL]
theorem zC4{S:Nat→Bool}{k:Nat}(h:k < 101):(FL S)[k]? = some (S k):=by simp[FL,h]
theorem zC5{S:Nat→Bool}{l:List Bool}(hl:l.length=101)(h:∀k,k < 101→l[k]? = some (S k)):l=FL S:=by
 apply List.ext_getElem?
 intro k
 by_cases hk:k < 101
 ·rw[h k hk,zC4 hk]
 ·rw[List.getElem?_eq_none (by omega),List.getElem?_eq_none (by rw[zC3]; omega)]
theorem zC6{S:Nat→Bool}{i:Nat}{b:Bool}(_hi:i < 101):(FL S).set i b=FL (fun j=>if j=i then b else S j):=by
 refine zC5 (by rw[List.length_set,zC3]) fun k hk=>?_;rw[List.getElem?_set]
 by_cases he:i=k
 ·subst he; rw[if_pos rfl,if_pos (by rw[zC3]; omega),if_pos rfl]
 ·rw[if_neg he,zC4 hk,if_neg (by omega)]
def zmI(S:Nat→Bool):List Int:=((List.range 101).filter S).map fun k:Nat=>(k:Int)
theorem zC7{S:Nat→Bool}{k:Nat}:(((List.range 101).take k).filter S).length≤101:=by
 refine Nat.le_trans (List.length_filter_le ..) ?_;rw[List.length_take]; simp; omega
theorem zC8{S:Nat→Bool}{k:Nat}(h:k < 101):((List.range 101).take (k+1)).filter S=((List.range 101).take k).filter S++(if S k=true then [k] else []):=by
 rw[List.take_add_one,List.filter_append]
 simp[h]
 split <;> simp_all
theorem zC9{S:Nat→Bool}:∀(d k:Nat),k≤101→101 - k < d→ztP (FL S) d ((((List.range 101).take k).filter S).map fun k:Nat=>(k:Int)) (k:Int)=some (zmI S)
 | 0,k,_,h=>by omega
 | d+1,k,hk,h=>by
  rw[ztP]
  by_cases hkl:k < 101
  ·rw[if_pos (by omega),zqf (by omega),zq2 (zC4 hkl),obs];have:=zC9 (S:=S) d (k+1) hkl (by omega);rw[zC8 hkl] at this
   split
   ·rename_i hs
    rw[zqf (by rw[List.length_map]; exact Nat.lt_of_le_of_lt zC7 (by omega)),zqf (fI (by omega)),show(k:Int)+1=((k+1:Nat):Int) by omega];rw[if_pos hs,List.map_append] at this;exact this
   ·rename_i hs
    rw[zqf (fI (by omega)),show(k:Int)+1=((k+1:Nat):Int) by omega];rw[if_neg hs,List.append_nil] at this;exact this
  ·rw[if_neg (by omega)]
   have:k=101:=by omega
   subst this;rw[List.take_of_length_le (by simp)]; rfl
theorem zDa{S:Nat→Bool}:ztQ (FL S)=some (zmI S):=by
 exact zC9 (S:=S) 102 0 (by omega) (by omega)
theorem zDb{S:Nat→Bool}{n:Int}:n∈zmI S↔∃k:Nat,n=k∧k < 101∧S k=true:=by
 unfold zmI
 simp only[List.mem_map,List.mem_filter,List.mem_range]
 exact⟨fun⟨k,h,he⟩=>⟨k,he.symm,h⟩,fun⟨k,he,h⟩=>⟨k,h,he.symm⟩⟩
def zDc(l:List Thr)(f:Fld)(k:Nat):Bool:=l.any fun t=>decide (zBS f t=(k:Int))
theorem zDd{f:Fld}:∀(l:List Thr) (S:Nat→Bool),(∀t∈l,zBP t)→ztR f l (FL S)=some (FL fun k=>zDc l f k || S k)
 | [],S,_=>rfl
 | t::l,S,h=>by
  have ht:=h t (List.mem_cons_self ..);have hr:=zBX (f:=f) ht;rw[ztR,zBY ht,obs,zqf (by omega),zqf zC3,zC6 (by omega),zDd l _ fun u hu=>h u (List.mem_cons_of_mem _ hu)]
  congr 2
  funext k
  unfold zDc;rw[List.any_cons]
  by_cases he:k=(zBS f t).toNat
  ·rw[if_pos he,show decide (zBS f t=(k:Int))=true from decide_eq_true (by omega)]; simp
  ·rw[if_neg he,show decide (zBS f t=(k:Int))=false from decide_eq_false (by omega)]; simp
theorem FL0:List.replicate 101 false=FL (fun _=>false):=by decide
def zDe(f:Fld)(k:Nat):Bool:=zDc (zB1 f) f k
def zDf(f:Fld):List Int:=zmI (zDe f)
theorem zDg{l:List Tf}{f:Fld}(hf:zBn l f):∀t∈zB1 f,zBP t:=fun _t ht=>((zB4 hf).1 ht).rng hf
theorem zDh{l:List Tf}{f:Fld}(hf:zBn l f):ztS f=some (FL (zDe f)):=by
 unfold ztS;rw[zB9 hf,obs,FL0,zDd _ _ (zDg hf)]
 simp only[Bool.or_false]; rfl
theorem zDi{l:List Tf}{f:Fld}(hf:zBn l f){n:Int}:n∈zDf f↔∃t,zBO f t∧zBS f t=n:=by
 unfold zDf;rw[zDb];unfold zDe zDc
 constructor
 ·rintro⟨k,rfl,_,h⟩
  obtain⟨t,ht,he⟩:=List.any_eq_true.1 h;exact⟨t,(zB4 hf).1 ht,of_decide_eq_true he⟩
 ·rintro⟨t,ht,rfl⟩
  have hr:=zBX (f:=f) (ht.rng hf);exact⟨(zBS f t).toNat,by omega,by omega,List.any_eq_true.2 ⟨t,(zB4 hf).2 ht,decide_eq_true (by omega)⟩⟩
theorem zDj{c:Cse}(hl:c.Fields.length≤6){n:Int}:Ev (ztZ c n) (0≤n∧n < c.Fields.length):=Ev.gd (fI (by omega)) (zBr.ret.imp (by dsimp only; omega))
theorem zDk{c:Cse}(hc:zBo c){k:Nat}{f:Fld}(hk:c.Fields[k]? = some f):zt4 c (k:Int)=some (f,0):=by
 have hkl:=(List.getElem?_eq_some_iff.1 hk).1;have:=hc.len;unfold zt4;rw[zBB,obs,if_pos (zBq.2 hc),(zDj (by omega)).some_of (by omega),obs,if_pos rfl,zq2 hk]; rfl
theorem zDl{c:Cse}(hc:zBo c){k:Nat}{f:Fld}(hk:c.Fields[k]? = some f):zuq c (k:Int)=some (zDf f,0):=by
 unfold zuq;rw[zDk hc hk,obs,if_pos rfl,zDh (hc.fld f (List.mem_of_getElem? hk)),obs,zDa]; rfl
def zDm(f:Fld):Int:=if (zB1 f).all (fun t=>decide (zBR f t))=true then 1 else if (zB1 f).any (fun t=>decide (zBR f t))=true then 3 else 2
theorem zDn{f:Fld}:∀(l:List Thr) (a b:Bool),(∀t∈l,zBP t)→ztT f l a b=some (if (b || !(l.all fun t=>decide (zBR f t)))=true then (if (a || l.any fun t=>decide (zBR f t))=true then 3 else 2) else 1)
 | [],a,b,_=>by cases a <;> cases b <;> rfl
 | t::l,a,b,h=>by
  have ih:=fun a b=>zDn (f:=f) l a b fun u hu=>h u (List.mem_cons_of_mem _ hu);rw[ztT,(zBV (h t (List.mem_cons_self ..))).eqd,obs]
  cases a <;> cases b <;> simp only[ih,List.all_cons,List.any_cons] <;> by_cases hc:zBR f t <;> simp[hc]
theorem zDo{l:List Tf}{f:Fld}(hf:zBn l f):ztU f=some (zDm f):=by
 unfold ztU zDm;rw[zB9 hf,obs,zDn _ _ _ (zDg hf)]
 simp only[Bool.false_or]
 cases (zB1 f).all fun t=>decide (zBR f t) <;> simp
theorem zDp{c:Cse}(hc:zBo c){k:Nat}{f:Fld}(hk:c.Fields[k]? = some f):zur c (k:Int)=some (zDm f,0):=by
 unfold zur;rw[zDk hc hk,obs,if_pos rfl,zDo (hc.fld f (List.mem_of_getElem? hk))]; rfl
def zDq(f:Fld)(t:Thr):Fld:=⟨f.Crop,f.Value,f.Near,⟨t.First,t.First⟩,⟨t.Second,t.Second⟩,f.Umpire⟩
theorem zDr{l:List Tf}{f:Fld}(hf:zBn l f){t:Thr}(ht:zBO f t):zBn l (zDq f t):=by
 have hr:=ht.rng hf;have h1:=hr.a; have h2:=hr.b;exact⟨hf.crop,hf.val,hf.near,⟨h1.1,Int.le_refl _,h1.2,by show t.First - t.First≤4; omega⟩,⟨h2.1,Int.le_refl _,h2.2,by show t.Second - t.Second≤4; omega⟩,hf.ump⟩
theorem zDs{c:Cse}(hc:zBo c){f:Fld}(hf:zBn c.Tariffs f){p:Int}{l:List Int}(hl:∀n∈l,0≤n∧n≤100)(hlen:l.length≤1000){M0:Option (Clm→Option Int)}:∀(d k:Nat) (S:Nat→Bool) (M:Option (Clm→Option Int)),k≤l.length→l.length - k < d→zCb c M →
  ∃M',zui ⟨c,M0⟩ f p l d (FL S) M (k:Int)=some (FL (fun j=>if (j:Int)∈l.drop k then decide (zCa c f j=p) else S j),M')∧zCb c M'
 | 0,k,_,_,_,h,_=>by omega
 | d+1,k,S,M,hk,h,hM=>by
  rw[zui]
  by_cases hkl:k < l.length
  ·obtain⟨n,h1,h2⟩:=zCz hkl;have hn:=hl n (List.mem_of_getElem? h1);obtain⟨M1,g1,g2⟩:=zCf hc hM hf hn;rw[if_pos (by omega),zq2 h1,obs]
   dsimp only
   rw[g1,obs,zqf (by omega),zqf zC3,zqf (fI (by omega)),zC6 (by omega),show(k:Int)+1=((k+1:Nat):Int) by omega];obtain⟨M',q1,q2⟩:=zDs hc hf hl hlen (M0:=M0) d (k+1) _ M1 hkl (by omega) g2;refine⟨M',?_,q2⟩;rw[q1]
   congr 3
   funext j
   rw[h2]
   by_cases hj:(j:Int)∈l.drop (k+1)
   ·rw[if_pos hj,if_pos (List.mem_cons_of_mem _ hj)]
   ·rw[if_neg hj]
    by_cases he:j=n.toNat
    ·rw[if_pos he,if_pos (by rw[show(j:Int)=n by omega]; exact List.mem_cons_self ..),show(j:Int)=n by omega]
    ·rw[if_neg he,if_neg fun hm=>(List.mem_cons.1 hm).elim (fun h=>he (by omega)) hj]
  ·rw[if_neg (by omega),List.drop_eq_nil_of_le (by omega)];exact⟨M,by simp,hM⟩
def zDt(c:Cse)(f:Fld)(t:Thr):Prop:=∃n∈zDf (zDq f t),zCa c f n ≠ zCa c f (zBS f t)
instance (c:Cse) (f:Fld) (t:Thr):Decidable (zDt c f t):=by unfold zDt; infer_instance
theorem zDu{S:Nat→Bool}:(zmI S).length≤101:=by
 unfold zmI;rw[List.length_map];refine Nat.le_trans (List.length_filter_le ..) ?_
 simp
theorem zDv{S T:Nat→Bool}:FL S=FL T↔∀k,k < 101→S k=T k:=by
 constructor
 ·intro h k hk;have h1:=zC4 (S:=S) hk;rw[h,zC4 hk] at h1;exact(oi h1).symm
 ·intro h
  exact zC5 zC3 fun k hk=>by rw[zC4 hk,h k hk]
theorem zDw{c:Cse}(hc:zBo c){M:Option (Clm→Option Int)}(hM:zCb c M){f:Fld}(hf:zBn c.Tariffs f){t:Thr}(ht:zBO f t):∃M',zuk ⟨c,M⟩ f t=some (decide (zDt c f t),M')∧zCb c M':=by
 have hr:=ht.rng hf;obtain⟨M1,g1,g2⟩:=zCf hc hM hf (zBX (f:=f) hr);have ho:=zDr hf ht
 have hl:∀n∈zmI (zDe (zDq f t)),0≤n∧n≤100:=fun n hn=>by
  obtain⟨k,rfl,hk,_⟩:=zDb.1 hn
  omega
 have hlen:=zDu (S:=zDe (zDq f t));obtain⟨M',q1,q2⟩:=zDs hc ho (p:=zCa c f (zBS f t)) hl (by omega) (M0:=M1) ((zmI (zDe (zDq f t))).length+1) 0 (zDe (zDq f t)) M1 (by omega) (by omega) g2;refine⟨M',?_,q2⟩;unfold zuk;rw[zBY hr,obs,g1,obs]
 show(ztS (zDq f t)).bind _=_
 rw[zDh ho,obs]
 have e:zuj ⟨c,M1⟩ (zDq f t) (FL (zDe (zDq f t))) (zCa c f (zBS f t))=some (FL (fun j=>if (j:Int)∈(zmI (zDe (zDq f t))).drop 0 then decide (zCa c (zDq f t) j=zCa c f (zBS f t)) else zDe (zDq f t) j),M'):=by
  unfold zuj;rw[zDa,obs];exact q1
 show(zuj ⟨c,M1⟩ (zDq f t) (FL (zDe (zDq f t))) (zCa c f (zBS f t))).bind _=_
 rw[e,obs,zqf ⟨zC3,zC3⟩]
 congr 2
 have key:(FL (fun j=>if (j:Int)∈(zmI (zDe (zDq f t))).drop 0 then decide (zCa c (zDq f t) j=zCa c f (zBS f t)) else zDe (zDq f t) j)=FL (zDe (zDq f t)))↔¬ zDt c f t:=by
  rw[zDv];unfold zDt zDf;rw[List.drop_zero]
  constructor
  ·rintro h ⟨n,hn,hne⟩
   obtain⟨k,rfl,hk,hs⟩:=zDb.1 hn;have:=h k hk;rw[if_pos hn,hs] at this;exact hne (of_decide_eq_true this)
  ·intro h k hk
   by_cases hm:(k:Int)∈zmI (zDe (zDq f t))
   ·rw[if_pos hm];obtain⟨k',he,_,hs⟩:=zDb.1 hm;rw[show k=k' by omega,hs,← show k=k' by omega];exact decide_eq_true (Classical.byContradiction fun hn=>h ⟨_,hm,hn⟩)
   ·rw[if_neg hm]
 by_cases hm:zDt c f t
 ·rw[decide_eq_true hm,decide_eq_false fun h=>(key.1 h) hm]; rfl
 ·rw[decide_eq_false hm,decide_eq_true (key.2 hm)]; rfl
def zDx(c:Cse)(f:Fld):Bool:=(zB1 f).any fun t=>decide (zDt c f t)
def zDy(c:Cse):List Fld→Nat→List Int
 | [],_=>[]
 | f::fs,k=>if zDx c f=true then (k:Int)::zDy c fs (k+1) else zDy c fs (k+1)
theorem zDz{c:Cse}(hc:zBo c){f:Fld}(hf:zBn c.Tariffs f){k:Nat}(hk:k≤1000){M0:Option (Clm→Option Int)}{K:List Int→Option (Clm→Option Int)→Int→Option (List Int × Option (Clm→Option Int))}{a:List Int}(ha:a.length≤1000){F:List Int→List Int}
  (hK:∀(a':List Int) M,a'.length≤a.length+1→zCb c M→∃M',K a' M ((k:Int)+1)=some (F a',M')∧zCb c M'):∀(l:List Thr) M,zCb c M→(∀t∈l,zBO f t)→∃M',zum ⟨c,M0⟩ (k:Int) f K l a M=some (F (if (l.any fun t=>decide (zDt c f t))=true then a++[(k:Int)] else a),M')∧zCb c M'
 | [],M,hM,_=>by
  obtain⟨M',h1,h2⟩:=hK a M (by omega) hM;refine⟨M',?_,h2⟩;rw[zum,zqf (fI (by omega)),h1]; rfl
 | t::l,M,hM,hl=>by
  obtain⟨M1,h1,h2⟩:=zDw hc hM hf (hl t (List.mem_cons_self ..));rw[zum]
  dsimp only
  rw[h1,obs]
  by_cases hm:zDt c f t
  ·rw[if_pos (decide_eq_true hm),zqf (by omega)];unfold zul;obtain⟨M',q1,q2⟩:=hK (a++[(k:Int)]) M1 (by simp) h2;refine⟨M',?_,q2⟩;rw[zqf (fI (by omega)),q1,List.any_cons,decide_eq_true hm,Bool.true_or,if_pos rfl]
  ·obtain⟨M',q1,q2⟩:=zDz hc hf hk (M0:=M0) ha hK l M1 h2 fun u hu=>hl u (List.mem_cons_of_mem _ hu);refine⟨M',?_,q2⟩;rw[zqg (decide_eq_false hm),q1,List.any_cons,decide_eq_false hm,Bool.false_or]
theorem zDA{c:Cse}(hc:zBo c){M0:Option (Clm→Option Int)}:∀(d k:Nat) (a:List Int) M,k≤c.Fields.length→c.Fields.length - k < d→a.length≤k→zCb c M→∃M',zun ⟨c,M0⟩ d a M (k:Int)=some (a++zDy c (c.Fields.drop k) k,M')∧zCb c M'
 | 0,k,_,_,_,h,_,_=>by omega
 | d+1,k,a,M,hk,h,ha,hM=>by
  have hlen:=hc.len;rw[zun]
  dsimp only
  by_cases hkl:k < c.Fields.length
  ·obtain⟨f,h1,h2⟩:=zCz hkl;have hf:=hc.fld f (List.mem_of_getElem? h1);rw[if_pos (by omega),zq2 h1,obs,zB9 hf,obs,h2]
   have hK:∀(a':List Int) M,a'.length≤a.length+1→zCb c M→∃M',zun ⟨c,M0⟩ d a' M ((k:Int)+1)=some (a'++zDy c (c.Fields.drop (k+1)) (k+1),M')∧zCb c M':=fun a' M' ha' hM'=>by
    rw[show(k:Int)+1=((k+1:Nat):Int) by omega];exact zDA hc d (k+1) a' M' hkl (by omega) (by omega) hM'
   obtain⟨M',q1,q2⟩:=zDz hc hf (k:=k) (by omega) (M0:=M0) (a:=a) (by omega) (F:=fun a'=>a'++zDy c (c.Fields.drop (k+1)) (k+1)) hK (zB1 f) M hM fun t ht=>(zB4 hf).1 ht;refine⟨M',?_,q2⟩;rw[q1,zDy];unfold zDx
   split <;> simp
  ·rw[if_neg (by omega),List.drop_eq_nil_of_le (by omega)];exact⟨M,by simp[zDy],hM⟩
theorem zDB{c:Cse}(hc:zBo c):zus c=some (zDy c c.Fields 0,0):=by
 obtain⟨M',h1,h2⟩:=zDA hc (M0:=some fun _=>none) (c.Fields.length+1) 0 [] (some fun _=>none) (by omega) (by omega) (by simp) zCc;unfold zus;rw[zCH hc,obs,if_pos rfl];unfold zuo
 show(zun ⟨c,some fun _=>none⟩ (c.Fields.length+1) [] (some fun _=>none) ((0:Nat):Int)).bind _=_
 rw[h1]; rfl
end
end Go.Proofs.YteojndcmgpiklaaGreat

