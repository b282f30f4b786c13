/- An evaluator of the code of a program, its soundness, what calls ask, memory, and what functions of the program do. Condition: none; a lemma text of this claim. -/
import Derived.Test.YteojndcmgpiklaaGreatUdI

namespace Go.Proofs.YteojndcmgpiklaaGreat
open _root_.Go.Proofs.Tryz
open Go.Abs
set_option maxRecDepth 100000
noncomputable section
theorem zyJ(a100 a200 a201 a202 a203 a204 a205:Int)(b0 b1 b2:Nat){m:M}{Q:V→M→Prop}(h:(∀m0:M,(m0=M.new m (AO.cells 6 [Il a200,Il a201,Il a202,Il a203,Il a204,Il a205] false))→∃c1:C,(ldC m0 (.ptr b0 0)=some c1) ∧  isSl c1∧ifB (decide (a100=(((slLen c1):Nat):Int))) (∃c2:C,(ldC m0 (.ptr b1 0)=some c2) ∧  ∃x3 x4 x5 x6 x7 x8,ldA m0 (.ptr m.nxt 0) 6=some [Il x3,Il x4,Il x5,Il x6,Il x7,Il x8]∧zmp prog tbl [(.agg 6 [Il x3,Il x4,Il x5,Il x6,Il x7,Il x8])] c2 m0 (fun v9 m10=> ∃b11:Bool,v9=.c (.bool b11)∧Q (.c (.bool b11)) m10)) (∃c12:C,ldC m0 (.ptr b0 0)=some c12∧∃n13:Nat,a100=((n13:Nat):Int)∧(n13 < (slLen c12)) ∧  ∃c14:C,ldC m0 (zl2 c12 (n13 * 1))=some c14∧∃y15:AO,(zl7 m0 c14=some y15) ∧  ∀m16:M,(m16=M.new m0 y15)→∀R17:List V→M→Prop,(∀b18:Bool,∀m19:M,(∃l20:List ((U × U) × M),nxM m19 (.ptr m0.nxt 0)=some l20∧((l20=[]) →  Q (.c (.bool true)) m19)∧∀u21:U,∀u22:U,∀m23:M,InL u21 u22 m23 l20 →  ∃x24 x25,∃u26:U,enM m23 (.ptr m0.nxt 0)=some ((.agg 2 [Il x24,Il x25]),u26)∧∀m27:M,(m27=M.new m23 (AO.cells 2 [Il 0,Il 0] false))→∃m28:M,stC m27 (.ptr m23.nxt 0) 2 [Il x24,Il x25]=some m28∧∃c29:C,(ldC m28 (.ptr b2 0)=some c29) ∧  zl0 .i64 (a100+1)∧∃x30 x31 x32,∃x33 x34 x35,ldA m28 (.ptr m.nxt 0) 6=some [Il x30,Il x31,Il x32,Il x33,Il x34,Il x35]∧∃x36 x37,ldA m28 (.ptr m23.nxt 0) 2=some [Il x36,Il x37]∧Wc prog tbl 86 [(.agg 6 [Il x30,Il x31,Il x32,Il x33,Il x34,Il x35]),(.agg 2 [Il x36,Il x37])] m28 (fun v38 m39=> ∃x40 x41 x42 x43 x44 x45,(v38=.agg 6 [Il x40,Il x41,Il x42,Il x43,Il x44,Il x45]) ∧  (ifB (cmC c29) (ldC m39 (.ptr b2 0)=some c29) False)∧zmp prog tbl [(.c (Il (a100+1))),(.agg 6 [Il x40,Il x41,Il x42,Il x43,Il x44,Il x45])] c29 m39 (fun v46 m47=> ∃b48:Bool,v46=.c (.bool b48)∧ifB (!b48) (Q (.c (.bool false)) m47) (R17 [(.c (.bool b18))] m47)))) →  R17 [(.c (.bool b18))] m19)→R17 [(.c (.bool false))] m16))):Wc prog tbl 132 [.c (Il a100),.agg 6 [Il a200,Il a201,Il a202,Il a203,Il a204,Il a205],.c (.ptr b0 0),.c (.ptr b1 0),.c (.ptr b2 0)] m Q:= zpA (n:=5) rfl (by kernel_rfl) (by kernel_rfl) h
theorem zyK(y:C)(b0:Nat){m:M}{Q:V→M→Prop}(h:(∀m0:M,(m0=M.new m (AO.cells 1 [y] false))→∀m1:M,(m1=M.new m0 (AO.cells 1 [C.sl0] false)) →  isPt (.ptr b0 0)∧isPt (.ptr b0 0)∧∃c2:C,ldC m1 (.ptr b0 3)=some c2∧isSl c2 ∧  ∀R3:List V→M→Prop,(∀x4:Int,∀m5:M,(ifB (decide (x4 < (((slLen c2):Nat):Int))) (∃n6:Nat,x4=((n6:Nat):Int)∧n6 < (slLen c2)∧∃x7 x8 x9 x10,∃x11 x12 x13 x14 x15,(ldA m5 (zl2 c2 (n6 * 9)) 9=some [Il x7,Il x8,Il x9,Il x10,Il x11,Il x12,Il x13,Il x14,Il x15]) ∧  ∀m16:M,(m16=M.new m5 (AO.cells 9 [Il 0,Il 0,Il 0,Il 0,Il 0,Il 0,Il 0,Il 0,Il 0] false))→∃m17:M,(stC m16 (.ptr m5.nxt 0) 9 [Il x7,Il x8,Il x9,Il x10,Il x11,Il x12,Il x13,Il x14,Il x15]=some m17) ∧  ∃c18:C,ldC m17 (.ptr m0.nxt 0)=some c18∧∃c19:C,∃x20 x21,∃c22:C,∃c23:C,ldA m17 (.ptr b0 0) 5=some [c19,Il x20,Il x21,c22,c23]∧∃x24,∃x25 x26 x27 x28 x29 x30,∃x31 x32,(ldA m17 (.ptr m5.nxt 0) 9=some [Il x24,Il x25,Il x26,Il x27,Il x28,Il x29,Il x30,Il x31,Il x32]) ∧  Wc prog tbl 131 [(.agg 5 [c19,Il x20,Il x21,c22,c23]),(.agg 9 [Il x24,Il x25,Il x26,Il x27,Il x28,Il x29,Il x30,Il x31,Il x32])] m17 (fun v33 m34=>∃c35:C,v33=.c c35∧(ifB (cmC c18) (ldC m34 (.ptr m0.nxt 0)=some c18) False) ∧  ∀m36:M,(m36=M.new m34 (AO.cells 1 [c35] false))→(ifB (cmC c18) (ldC m36 (.ptr m0.nxt 0)=some c18) False) ∧  ∃c37:C,∃m38:M,(ApR prog 196 m36 c18 (.sl m34.nxt 0 1 0 (some 1)) c37 m38) ∧  ∃m39:M,stC m38 (.ptr m0.nxt 0) 1 [c37]=some m39∧zl0 .i64 (x4+1) ∧  R3 [(.c (Il (x4+1)))] m39)) (∀m40:M,(m40=M.new m5 (AO.cells 1 [C.nilFn] false))→∃m41:M,stC m40 (.ptr m5.nxt 0) 1 [(C.fn (Fn.func 132) [] [(W.c (C0.ptr m0.nxt 0)),(W.c (C0.ptr m.nxt 0)),(W.c (C0.ptr m5.nxt 0))])]=some m41∧∃c42:C,ldC m41 (.ptr m5.nxt 0)=some c42∧isPt (.ptr b0 0)∧isPt (.ptr b0 0) ∧  ∃x43,ldC m41 (.ptr b0 2)=some (Il x43)∧zmp prog tbl [(.c (Il 0)),(.agg 6 [Il x43,Il 0,Il 0,Il 0,Il 0,Il 0])] c42 m41 (fun v44 m45=> ∃b46:Bool,v44=.c (.bool b46)∧Q (.tup []) m45))) →  R3 [(.c (Il x4))] m5)→R3 [(.c (Il 0))] m1)):Wc prog tbl 130 [.c y,.c (.ptr b0 0)] m Q:= zpA (n:=2) rfl (by kernel_rfl) (by kernel_rfl) h
def zyL(v:Ver):List C:=[.int .i64 v.fee,.int .i64 v.pence,.int .i64 v.fields.f0,.int .i64 v.fields.f1,.int .i64 v.fields.f2,.int .i64 v.fields.f3]
theorem zyM(a b:KOc)(h:zqy Oc a=zqy Oc b):a=b:=by
 obtain⟨⟨a1,a2⟩,ha⟩:=a;obtain⟨⟨b1,b2⟩,hb⟩:=b;have h:U.agg 2 [C.int .i64 a1,C.int .i64 a2]=U.agg 2 [C.int .i64 b1,C.int .i64 b2]:=h
 simp only[U.agg.injEq,List.cons.injEq,C.int.injEq,true_and,and_true] at h
 obtain⟨rfl,rfl⟩:=h
 rfl
structure ChG (m:M) (ba bY bc l:Nat) (ca:C) (rs:List Nat) (fs:List (Oc→Option Bool)):Prop where
 a:Bk m ba 1 [ca]
 y:Bk m bY 1 [.fn (.yield l) [] []]
 c:Bk m bc 1 [.fn (.func 132) [] [.c (.ptr ba 0),.c (.ptr bY 0),.c (.ptr bc 0)]]
 s:Ls m 1 ca (rs.map C.map) rs.length
 len:fs.length=rs.length
 mp:∀(i r:Nat) (g:Oc→Option Bool),rs[i]? = some r→fs[i]? = some g→Mp (zqy Oc) m r (fOc g)
def ChD(ba bY bc:Nat)(ca:C)(rs:List Nat)(b:Nat):Prop:=b=ba∨b=bY∨b=bc∨(∃o n s d,ca=.sl b o n s d)∨b∈rs
theorem ChG.to{m m':M}{ba bY bc l:Nat}{ca:C}{rs:List Nat}{fs:List (Oc→Option Bool)}(h:ChG m ba bY bc l ca rs fs)(hn:m.nxt≤m'.nxt)(hv:m'.vw=m.vw)(hg:∀b,b < m.nxt→ChD ba bY bc ca rs b→m'.g b=m.g b):ChG m' ba bY bc l ca rs fs:=
  ⟨⟨(hg _ h.a.lt (.inl rfl)).trans h.a.g,Nat.lt_of_lt_of_le h.a.lt hn⟩,⟨(hg _ h.y.lt (.inr (.inl rfl))).trans h.y.g,Nat.lt_of_lt_of_le h.y.lt hn⟩,⟨(hg _ h.c.lt (.inr (.inr (.inl rfl)))).trans h.c.g,Nat.lt_of_lt_of_le h.c.lt hn⟩,
    h.s.to hn (fun b hb ⟨_o,_s,_d,he⟩=>hg b hb (.inr (.inr (.inr (.inl ⟨_,_,_,_,he⟩))))) hv,h.len,fun i r g hr hgg=>(h.mp i r g hr hgg).to hn (hg r (h.mp i r g hr hgg).lt (.inr (.inr (.inr (.inr (List.mem_of_getElem? hr))))))⟩
theorem ChG.ext{m m':M}{ba bY bc l:Nat}{ca:C}{rs:List Nat}{fs:List (Oc→Option Bool)}(h:ChG m ba bY bc l ca rs fs)(e:Ext m m'):ChG m' ba bY bc l ca rs fs:=h.to e.nxt e.vw fun b hb _=>e.g b hb
structure zyN (n0 l N:Nat) (A:Ver→Prop) (I:List Ver→(Nat→Prop)→M→Prop):Prop where
 st:∀d S m m',I d S m→m.nxt≤m'.nxt→m'.vw=m.vw→(∀b,S b→m'.g b=m.g b)→(∀b,b < n0→m'.g b=m.g b)→I d S m'
 lt:∀d S m,I d S m→∀b,S b→b < m.nxt
 yield:∀d v S m,I d S m→d.length < N→A v→∀Q:V→M→Prop,(∀S' m',Own S m S'→Chg S m m'→I (d++[v]) S' m'→Q (.c (.bool true)) m')→Wy prog tbl l [.agg 6 (zyL v)] m Q
theorem zyO{S S':Nat→Prop}{a b c:M}(h1:Chg S a b)(ho:Own S a S')(h2:Chg S' b c):Chg S a c:=
 ⟨Nat.le_trans h1.nxt h2.nxt,fun x hx hS=>by
  rw[h2.g x (Nat.lt_of_lt_of_le hx h1.nxt) fun h=>(ho x h).elim hS fun h=>by omega]
  exact h1.g x hx hS,h2.vw.trans h1.vw⟩
theorem zyP{S S' S'':Nat→Prop}{a b:M}(h1:Own S a S')(hn:a.nxt≤b.nxt)(h2:Own S' b S''):Own S a S'':=fun x hx=>(h2 x hx).elim (h1 x) fun h=>.inr (by omega)
theorem zyQ{S:Nat→Prop}{a b:M}(h:Ext a b):Chg S a b:=⟨h.nxt,fun x hx _=>h.g x hx,h.vw⟩
theorem zyR{f m m':M}{S:Nat→Prop}(h:Pre f m)(hc:Chg S m m')(hS:∀b,S b→f.g b=none∧f.vw b=none):Pre f m':=⟨zqa h.sub hc.nxt hc.vw hS hc.g,h.fz,h.fv⟩
theorem zyS{n0 l N:Nat}{A:Ver→Prop}{f:M}{I:List Ver→(Nat→Prop)→M→Prop}(hc:zyN n0 l N A I){ba bY bc:Nat}{ca:C}{rs:List Nat}{fs:List (Oc→Option Bool)}(hrs:rs.length≤1000) :
  ∀(j k:Nat) (v:Ver) (vs d:List Ver) (S:Nat→Prop) (m:M),k+j=rs.length→n0≤m.nxt→Pre f m→ChG m ba bY bc l ca rs fs→I d S m→(∀b,S b→f.g b=none∧f.vw b=none)→(∀b,S b→¬ ChD ba bY bc ca rs b)→zuJ ((fs.drop k).map zuH) v=some vs→d.length+vs.length≤N→(∀u∈vs,A u) →
  ∀Q:V→M→Prop,(∀vs' S' m',vs'.Perm vs→Own S m S'→Chg S m m'→I (d++vs') S' m'→Q (.c (.bool true)) m') →
  Wc prog tbl 132 [.c (.int .i64 (k:Int)),.agg 6 (zyL v),.c (.ptr ba 0),.c (.ptr bY 0),.c (.ptr bc 0)] m Q:=by
 intro j
 induction j with
 | zero=>
  intro k v vs d S m hk hn0 hP G hI hSf hD hv hN hA Q hQ
  have hk:k=rs.length:=by omega
  refine zyJ (k:Int) v.fee v.pence v.fields.f0 v.fields.f1 v.fields.f2 v.fields.f3 ba bY bc fun m0 e0=>?_;obtain⟨b0,x0⟩:=Bk.new e0;have g0:=G.ext x0;refine⟨_,g0.a.rc rfl,g0.s.isSl,?_⟩;rw[g0.s.slLen];refine zpF.2 ⟨fun _=>?_,fun hne=>absurd (by rw[hk]) hne⟩;refine⟨_,g0.y.rc rfl,_,_,_,_,_,_,b0.ra,?_⟩
  have hvs:vs=[v]:=by
   rw[List.drop_eq_nil_of_le (by rw[G.len]; omega)] at hv;exact(oi hv).symm
  subst hvs;have hlt:=hc.lt _ _ _ hI;have hI0:I d S m0:=hc.st _ _ _ _ hI x0.nxt x0.vw (fun b hb=>x0.g b (hlt b hb)) fun b hb=>x0.g b (by omega)
  show Wy prog tbl l [.agg 6 (zyL v)] m0 _
  refine hc.yield d v S m0 hI0 (by simp at hN; omega) (hA v (List.mem_cons_self ..)) _ fun S' m' ho hch hI'=>⟨true,rfl,hQ [v] S' m' (.refl _) (fun b hb=>(ho b hb).imp id fun h=>by have:=x0.nxt; omega) (zyO (zyQ x0) (fun b hb=>.inl hb) hch) hI'⟩
 | succ j ih=>
  intro k v vs d S m hk hn0 hP G hI hSf hD hv hN hA Q hQ
  have hkr:k < rs.length:=by omega
  refine zyJ (k:Int) v.fee v.pence v.fields.f0 v.fields.f1 v.fields.f2 v.fields.f3 ba bY bc fun m0 e0=>?_;obtain⟨b0,x0⟩:=Bk.new e0;have g0:=G.ext x0
  have q0:m0.nxt=m.nxt+1:=by rw[e0]; rfl
  refine⟨_,g0.a.rc rfl,g0.s.isSl,?_⟩;rw[g0.s.slLen];refine zpF.2 ⟨fun he=>by omega,fun _=>?_⟩;refine⟨_,g0.a.rc rfl,k,rfl,by rw[g0.s.slLen]; exact hkr,?_⟩;obtain⟨r,hr⟩:∃r,rs[k]? = some r:=⟨_,List.getElem?_eq_getElem hkr⟩;obtain⟨g,hg⟩:∃g,fs[k]? = some g:=⟨_,List.getElem?_eq_getElem (by rw[G.len]; exact hkr)⟩;refine⟨_,g0.s.rd (i:=k * 1) (c:=.map r) (by rw[Nat.mul_one,List.getElem?_map,hr]; rfl),?_⟩;obtain⟨ks,o,hks,hro,hit⟩:=Mp.range zyM (g0.mp k r g hr hg);refine⟨o,hro,fun m16 e16 R hR=>?_⟩;have it16:=hit m16 e16
  have x16:Ext m0 m16:=by rw[e16]; exact Ext.new _ _
  have q16:m16.nxt=m.nxt+2:=by rw[e16]; show m0.nxt+1=_; omega
  have hlt:=hc.lt _ _ _ hI
  have hdrop:fs.drop k=g::fs.drop (k+1):=by
   rw[List.drop_eq_getElem_cons (by rw[G.len]; exact hkr)]
   congr 1
   rw[List.getElem?_eq_getElem (by rw[G.len]; exact hkr)] at hg;exact oi hg
  rw[hdrop,List.map_cons] at hv;have hv:zuI (zuJ ((fs.drop (k+1)).map zuH)) v (zuH g)=some vs:=hv;have hperm:(ks.map (·.1)).Perm (zuH g):=(zqY.perm hks (zuG hks)).map _;obtain⟨vr0,hvr0,hpr0⟩:=zuP hperm.symm hv
  -- a round of the loop, with these keys left
  have main:∀(n:Nat) (rem:List KOc) (w vr:List Ver) (S1:Nat→Prop) (m1:M),rem.length=n→ItR (zqy Oc) m1 m0.nxt r (fOc g) rem→Bk m1 m.nxt 6 (zyL v)→ChG m1 ba bY bc l ca rs fs→I (d++w) S1 m1→Own S m S1→¬ S1 m.nxt→¬ S1 m0.nxt→Chg S m m1→m.nxt+2≤m1.nxt →
    zuI (zuJ ((fs.drop (k+1)).map zuH)) v (rem.map (·.1))=some vr→(w++vr).Perm vs→R [V.c (C.bool false)] m1:=by
   intro n
   induction n with
   | zero=>
    intro rem w vr S1 m1 hrem hit1 hb1 hG1 hI1 hO1 hS1 hS2 hC1 hn1 hvr hpw;have hrem:rem=[]:=List.eq_nil_of_length_eq_zero hrem;subst hrem;have hvr':vr=[]:=(oi hvr).symm;subst hvr';obtain⟨lx,q1,q2,q3⟩:=hit1.next;have hlx:=q2.2 rfl;subst hlx;refine hR false m1 ⟨[],q1,fun _=>?_,fun k' y' m' hl=>by cases hl⟩;rw[List.append_nil] at hpw;exact hQ w S1 m1 hpw hO1 hC1 hI1
   | succ n ihn=>
    intro rem w vr S1 m1 hrem hit1 hb1 hG1 hI1 hO1 hS1 hS2 hC1 hn1 hvr hpw;obtain⟨lx,q1,q2,q3⟩:=hit1.next;refine hR false m1 ⟨lx,q1,fun he=>?_,fun k' y' m2 hl=>?_⟩
    ·have:=q2.1 he
     rw[this] at hrem; cases hrem
    obtain⟨l1,a,l2,o2,rfl,rfl,hfa,e2,hen,hit2⟩:=q3 _ _ _ hl
    have n2:m2.nxt=m1.nxt:=by rw[e2]; rfl
    have v2:m2.vw=m1.vw:=by rw[e2]; rfl
    have g2:∀b,b ≠ m0.nxt→m2.g b=m1.g b:=fun b hb=>by rw[e2,M.g_set,if_neg hb]
    have hlt1:=hc.lt _ _ _ hI1
    have dlt:∀b,ChD ba bY bc ca rs b→b < m.nxt:=fun b hb=>by
     rcases hb with rfl | rfl | rfl | ⟨o',n',s',d',he⟩ | hb
     ·exact G.a.lt
     ·exact G.y.lt
     ·exact G.c.lt
     ·rcases G.s.val with ⟨h1,_⟩ | ⟨b',o1,t1,c1,h1,h2,_⟩
      ·rw[h1] at he; cases he
      ·rw[h1] at he; cases he; exact h2
     ·obtain⟨i,hi⟩:=List.getElem?_of_mem hb;have hilt:i < rs.length:=(List.getElem?_eq_some_iff.1 hi).1;exact(G.mp i b _ hi (List.getElem?_eq_getElem (by rw[G.len]; exact hilt))).lt
    have G2:ChG m2 ba bY bc l ca rs fs:=hG1.to (by omega) v2 fun b hb hDb=>g2 b (by have:=dlt b hDb; omega);have B2:Bk m2 m.nxt 6 (zyL v):=⟨(g2 _ (by omega)).trans hb1.g,by have:=hb1.lt; omega⟩;have I2:I (d++w) S1 m2:=hc.st _ _ _ _ hI1 (by omega) v2 (fun b hb=>g2 b fun h=>hS2 (h ▸ hb)) fun b hb=>g2 b (by omega);have C2:Chg S m m2:=⟨by have:=hC1.nxt; omega,fun b hb hs=>(g2 b (by omega)).trans (hC1.g b hb hs),v2.trans hC1.vw⟩;refine⟨a.1.pence,a.1.loser,y',hen,fun m3 e3=>?_⟩;obtain⟨b3,x3⟩:=Bk.new e3;refine⟨m3.set m2.nxt (.cells 2 [.int .i64 a.1.pence,.int .i64 a.1.loser] false),b3.st _,?_⟩;have k4:=b3.set [.int .i64 a.1.pence,.int .i64 a.1.loser];have x4:Ext m2 (m3.set m2.nxt (.cells 2 [.int .i64 a.1.pence,.int .i64 a.1.loser] false)):=x3.setR (Nat.le_refl _) _
    have q4:(m3.set m2.nxt (.cells 2 [.int .i64 a.1.pence,.int .i64 a.1.loser] false)).nxt=m2.nxt+1:=by show m3.nxt=_; rw[e3]; rfl
    generalize m3.set m2.nxt (.cells 2 [.int .i64 a.1.pence,.int .i64 a.1.loser] false)=m4 at k4 x4 q4 ⊢;have G4:=G2.ext x4;obtain⟨v',c,vr',p1,p2,p3,p4⟩:=zuO (v:=v) (a:=a.1) (l1:=l1.map (·.1)) (l2:=l2.map (·.1)) (by rw[← hvr,List.map_append,List.map_cons]);have C4:Chg S m m4:=zyO C2 (fun b hb=>.inl hb) (zyQ x4);refine⟨_,G4.c.rc rfl,by show zl0 .i64 ((k:Int)+1); unfold zl0; exact⟨by omega,by omega⟩,_,_,_,_,_,_,(B2.ext x4).ra,_,_,k4.ra,?_⟩;refine zyf (v:=v) (o:=a.1) (zyR hP C4 hSf) p1 fun m5 x5=>⟨_,_,_,_,_,_,rfl,?_⟩;have G5:=G4.ext x5;refine⟨?_,?_⟩
    ·show ifB true _ _
     exact G5.c.rc rfl
    have x45:=x4.trans x5;have I5:I (d++w) S1 m5:=hc.st _ _ _ _ I2 x45.nxt x45.vw (fun b hb=>x45.g b (by rw[n2]; exact hlt1 b hb)) fun b hb=>x45.g b (by have:=x45.nxt; omega);have C5:Chg S m m5:=zyO C4 (fun b hb=>.inl hb) (zyQ x5)
    have n5:m2.nxt < m5.nxt:=by have:=x5.nxt; omega
    show Wc prog tbl 132 [.c (.int .i64 ((k:Int)+1)),.agg 6 (zyL v'),.c (.ptr ba 0),.c (.ptr bY 0),.c (.ptr bc 0)] m5 _
    rw[show(k:Int)+1=((k+1:Nat):Int) by omega];have hsub:(w++(c++vr')).Perm vs:=((List.Perm.append_left w p4).trans hpw);refine ih (k+1) v' c (d++w) S1 m5 (by omega) (by omega) (zyR hP C5 hSf) G5 I5 (fun b hb=>(hO1 b hb).elim (hSf b) fun h=>⟨hP.fz b (Nat.le_trans hP.sub.nxt h),hP.fv b (Nat.le_trans hP.sub.nxt h)⟩) (fun b hb hDb=>?_) p2 ?_ (fun u hu=>hA u (hsub.subset (List.mem_append_right _ (List.mem_append_left _ hu)))) _ fun vs' S' m6 hpv hO6 hC6 hI6=>⟨true,rfl,?_⟩
    ·rcases hO1 b hb with h | h
     ·exact hD b h hDb
     ·have:=dlt b hDb; omega
    ·have:=hsub.length_eq
     simp only[List.length_append] at this ⊢
     omega
    ·-- the next round
     show ifB false _ _
     have hC16:Chg S1 m5 m6:=hC6;have keep:∀b,b < m5.nxt→¬ S1 b→m6.g b=m5.g b:=hC6.g;have hit5:ItR (zqy Oc) m5 m0.nxt r (fOc g) (l1++l2):=hit2.to (x45.g _ (by omega)) (x45.g _ (by have:=dlt r (.inr (.inr (.inr (.inr (List.mem_of_getElem? hr))))); omega));have hrD:ChD ba bY bc ca rs r:=.inr (.inr (.inr (.inr (List.mem_of_getElem? hr))))
     have hS1D:∀b,ChD ba bY bc ca rs b→¬ S1 b:=fun b hDb hb=>by
      rcases hO1 b hb with h | h
      ·exact hD b h hDb
      ·have:=dlt b hDb; omega
     refine ihn (l1++l2) (w++vs') vr' S' m6 ?_ (hit5.to (keep _ (by omega) hS2) (keep r (by have:=dlt r hrD; omega) (hS1D r hrD))) ?_ ?_ ?_ ?_ ?_ ?_ ?_ ?_ ?_ ?_
     ·simp only[List.length_append,List.length_cons] at hrem ⊢; omega
     ·exact⟨(keep _ (by omega) hS1).trans ((x45.g _ (by omega)).trans B2.g),by have:=hC6.nxt; omega⟩
     ·exact G5.to hC6.nxt hC6.vw fun b hb hDb=>keep b hb (hS1D b hDb)
     ·rw[← List.append_assoc]; exact hI6
     ·exact zyP hO1 (by have:=C5.nxt; omega) hO6
     ·intro hb
      rcases hO6 _ hb with h | h
      ·exact hS1 h
      ·omega
     ·intro hb
      rcases hO6 _ hb with h | h
      ·exact hS2 h
      ·omega
     ·exact zyO C5 hO1 hC6
     ·have:=hC6.nxt; omega
     ·rw[List.map_append]; exact p3
     ·refine List.Perm.trans ?_ hsub;rw[List.append_assoc];exact(hpv.append_right vr').append_left w
  have x016:=x0.trans x16;refine main ks.length ks [] vr0 S m16 rfl it16 ((b0.ext x16)) (g0.ext x16) ?_ (fun b hb=>.inl hb) (fun hb=>by have:=hlt _ hb; omega) (fun hb=>by have:=hlt _ hb; omega) (zyQ x016) (by omega) hvr0 hpr0;rw[List.append_nil];exact hc.st _ _ _ _ hI x016.nxt x016.vw (fun b hb=>x016.g b (hlt b hb)) fun b hb=>x016.g b (by omega)
structure zyT where
 b:Nat
instance:Rp zyT:=⟨1,by omega,fun _ cs a=>cs=[.map a.b],fun h=>by rw[h]; rfl,fun h _=>h⟩
theorem zyU{f:M}:∀{l:List zyT} {vs:List C},Cat f vs l→vs=(l.map (·.b)).map C.map
 | [],vs,h=>h
 | a::l,vs,h=>by
  obtain⟨cs,ws,h1,h2,h3⟩:=h;have h2:cs=[.map a.b]:=h2;rw[h1,h2,zyU h3]; rfl
theorem zyV:TA prog 196 1:=⟨197,by kernel_rfl,by kernel_rfl,by kernel_rfl⟩
theorem zyW{K V' K2 V2:Type}[MK K][MV V'][MK K2][MV V2]{F:Fm}{f0 f m m' f':M}(s:St F f0 f m){τ:Nat→Nat}{t:Nat}{c:C}{M M':Option (K→Option V')}(h:Mo F f τ m t c M)(g:zrn c m f m' f')(h':Mi m' c M'){c2:C}{M2:Option (K2→Option V2)}(hn:Mn m f' m' c2 M2)(t2:Nat) :
  ∃τ',St F f0 f' m'∧Kp τ f m τ' f' m' [t]∧Mo F f' τ' m' t c M'∧Mo F f' τ' m' t2 c2 M2:=by
 obtain⟨s1,k1,h1⟩:=s.callGM h g h';refine⟨fun b=>if m.nxt≤b then t2 else τ b,s1,⟨k1.nxt,fun b hb=>if_neg (by omega),k1.g,k1.fg,k1.fs,k1.vw⟩,⟨h1.mi,fun b hb=>?_⟩,hn.mi,fun b hb=>?_⟩
 ·obtain⟨q1,q2,q3,q4⟩:=h1.own b hb;have:=(h.own b hb).2.2.2;exact⟨q1,q2,(if_neg (by omega)).trans q3,q4⟩
 ·obtain⟨q1,q2,q3⟩:=hn.own b hb;exact⟨.inl (Nat.le_trans s.ext.nxt q2),q1,if_pos q2,q3⟩
theorem zyX{w:UWk}{ca100 ca103 ca104:C}{b0 n0 l N:Nat}{A:Ver→Prop}{I:List Ver→(Nat→Prop)→M→Prop}(hc:zyN n0 l N A I){S:Nat→Prop}{m f:M}{Q:V→M→Prop}{rz:List (Oc→Option Bool) × Option (Clm→Option Int)}{vs:List Ver}
    (hS:Pre f m) (hw:Bk f b0 5 [ca100,Il w.c.Day,Il w.c.Fee,ca103,ca104]) (ha100:Sl f ca100 w.c.Tariffs) (ha103:Sl f ca103 w.c.Fields) (ha104:Mc f m ca104 w.payments)
    (hp:zuL w w.c.Fields w.payments=some rz) (_hlen:w.c.Fields.length≤1000) (hv:zuJ (rz.1.map zuH) (zuM w.c.Fee)=some vs) (hN:vs.length≤N) (hA:∀u∈vs,A u)
    (hn0:n0≤m.nxt) (hI:∀m',zqB ca104 m m'→Mi m' ca104 rz.2→I [] S m') (hSl:∀b,S b→b < m.nxt) (hSf:∀b,S b→f.g b=none∧f.vw b=none) (hSc:∀b,S b→ca104 ≠ .map b)
    (hq:∀vs' S' m1 m',vs'.Perm vs→zqB ca104 m m1→Own S m1 S'→Chg S m1 m'→I vs' S' m'→Q (.tup []) m') :
    Wc prog tbl 130 [.c (.fn (.yield l) [] []),.c (.ptr b0 0)] m Q:=by
 have S0:=hS.stM ha104;obtain⟨τ0,M0⟩:∃τ,Mo (Fm.mp m ca104) f τ m 1 ca104 w.payments:=⟨_,ha104.mo 1⟩;refine zyK _ _ ?_;intro D e0;obtain⟨τ1,S1,k1,Ly⟩:=S0.blk e0 τ0 2;have M1:=M0.k k1;intro m1 e1;obtain⟨τ2,S2,k2,La⟩:=S1.blk e1 τ1 3;have Ly:=Ly.k k2;have M2:=M1.k k2;refine⟨trivial,trivial,_,(hw.sub S2.sub).rc rfl,ha103.isSl,?_⟩;intro R3 O
 have hgo:∀(q:List Fld) (i:Nat) (ca:C) (rs:List zyT) (gs:List (Oc→Option Bool)) (p:Option (Clm→Option Int)) (s:List (Oc→Option Bool) × Option (Clm→Option Int)) (d x:M) (τ:Nat→Nat),i+q.length=w.c.Fields.length→w.c.Fields.drop i=q→rs.length=i→gs.length=i→St (Fm.mp m ca104) f x d→Lb (Fm.mp m ca104) x τ d 2 m.nxt 1 [.fn (.yield l) [] []]→Lb (Fm.mp m ca104) x τ d 3 D.nxt 1 [ca]→Ow (Fm.mp m ca104) x τ d 4 ca rs→Mo (Fm.mp m ca104) x τ d 1 ca104 p→(∀(j:Nat) (r:zyT) (g:Oc→Option Bool),rs[j]? = some r→gs[j]? = some g→Mo (Fm.mp m ca104) x τ d 5 (.map r.b) (some g)) →
   zuL w q p=some s→rz=(gs++s.1,s.2)→R3 [.c (Il (i:Int))] d:=by
  intro q
  induction q with
  | nil=>
   intro i ca rs gs p s d x τ hi hd hrs hgs S5 Ly La Oa Mp Mm hp hrz;refine O _ _ ?_;rw[ha103.slLen];refine zpF.2 ⟨fun h=>by simp at hi; omega,fun _=>?_⟩;intro ab ka;obtain⟨τ6,S6,n,Lc⟩:=S5.blk ka τ 6;have Ly:=Ly.k n;have La:=La.k n;have Mp:=Mp.k n;have Oa:=Oa.k n;have Mm:=fun j r g hr hg=>(Mm j r g hr hg).k n (by decide);obtain⟨o,la,e,t,Lc⟩:=Lc.sto S6 [(C.fn (Fn.func 132) [] [(W.c (C0.ptr (D).nxt 0)),(W.c (C0.ptr (m).nxt 0)),(W.c (C0.ptr (d).nxt 0))])];have Ly:=Ly.k t;have La:=La.k t;have Mp:=Mp.k t;have Oa:=Oa.k t;have Mm:=fun j r g hr hg=>(Mm j r g hr hg).k t (by decide);refine⟨o,la,_,Lc.bk.rc rfl,trivial,trivial,_,(hw.sub (e.fs.trans e.sub)).rc rfl,?_⟩;obtain rfl:=oi hp
   have ba:rz.1=gs:=by rw[hrz]; exact List.append_nil _
   have da:rz.2=p:=by rw[hrz]
   have hext:=e.extB;have hpre:Pre f o:=⟨e.fs.trans e.sub,hS.fz,hS.fv⟩;obtain⟨ws,o1,o2⟩:=Oa.own;have o2:=zyU o2
   have hi':i=w.c.Fields.length:=by simpa using hi
   show Wc prog tbl 132 [.c (Il ((0:Nat):Int)),.agg 6 (zyL (zuM w.c.Fee)),.c (.ptr D.nxt 0),.c (.ptr m.nxt 0),.c (.ptr d.nxt 0)] o _
   have hg:ChG o D.nxt m.nxt d.nxt l ca (rs.map (·.b)) gs:=by
    refine⟨La.bk,Ly.bk,Lc.bk,?_,by rw[List.length_map]; omega,fun j r g hr hg=>?_⟩
    ·have:=o1.ls;rw[o2] at this;rw[List.length_map];exact this
    ·rw[List.getElem?_map] at hr
     obtain⟨r',hr',rfl⟩:∃r',rs[j]? = some r'∧r'.b=r:=by
      cases h:rs[j]? with
      | none=>rw[h] at hr; cases hr
      | some r'=>rw[h] at hr; exact⟨r',rfl,oi hr⟩
     obtain⟨b,ma,na⟩:=(Mm j r' g hr' hg).mi
     cases ma
     exact na
   have hSD:∀b,S b→¬ ChD D.nxt m.nxt d.nxt ca (rs.map (·.b)) b:=by
    intro b hb hD;have hlt:=hSl b hb;have n1:=S1.ext.nxt;have n5:=S5.ext.nxt
    have hF:∀b',b'=b→¬ ((Fm.mp m ca104).m.nxt≤b'∨(Fm.mp m ca104).B b'):=by
     intro b' hbb h;subst hbb;exact h.elim (fun h=>absurd hlt (Nat.not_lt_of_le h)) (hSc b' hb)
    rcases hD with h | h | h | ⟨o',n',s',d',he⟩ | h
    ·exact hF D.nxt h.symm La.new
    ·exact hF m.nxt h.symm Ly.new
    ·exact hF d.nxt h.symm Lc.new
    ·exact hF b rfl (Oa.nw _ _ _ _ _ he).1
    ·obtain⟨r',hr',rfl⟩:=List.mem_map.1 h;obtain⟨j,hj⟩:=List.getElem?_of_mem hr';have hjl:j < rs.length:=(List.getElem?_eq_some_iff.1 hj).1;exact hF _ rfl ((Mm j r' _ hj (List.getElem?_eq_getElem (by omega))).own _ rfl).1
   refine zyS hc (by rw[List.length_map]; omega) rs.length 0 (zuM w.c.Fee) vs [] S o (by rw[List.length_map]; omega) (Nat.le_trans hn0 hext.nxt) hpre hg (hI o hext (by rw[da]; exact Mp.mi)) hSf hSD (by rw[List.drop_zero,← ba]; exact hv) (by simpa using hN) hA _ fun vs' S' m' hpv ho hch hI'=>⟨true,rfl,?_⟩;exact hq vs' S' o m' hpv hext ho hch hI'
  | cons fl q ih=>
   intro i ca rs gs p s d x τ hi hd hrs hgs S5 Ly La Oa Mp Mm hp hrz
   have hil:i < w.c.Fields.length:=by simp at hi; omega
   have hfl:w.c.Fields[i]? = some fl:=by
    have h0:(w.c.Fields.drop i)[0]? = some fl:=by rw[hd]; rfl
    rwa [List.getElem?_drop,Nat.add_zero] at h0
   refine O _ _ ?_;rw[ha103.slLen];refine zpF.2 ⟨fun _=>?_,fun h=>absurd (Int.ofNat_lt.2 hil) h⟩;obtain⟨_,r1⟩:=zrI ha103 hfl;refine⟨i,rfl,hil,_,_,_,_,_,_,_,_,_,(r1 _ (S5.fs.trans S5.sub)).1,?_⟩;intro bb oa;obtain⟨τ6,S6,n,Lf⟩:=S5.blk oa τ 6;have Ly:=Ly.k n;have La:=La.k n;have Mp:=Mp.k n;have Oa:=Oa.k n;have Mm:=fun j r g hr hg=>(Mm j r g hr hg).k n (by decide);obtain⟨pa,qa,e,t,Lf⟩:=Lf.sto S6 [Il fl.Crop,Il fl.Value,Il fl.Near,Il fl.First.Lo,Il fl.First.Hi,Il fl.Second.Lo,Il fl.Second.Hi,Il fl.Umpire.Lo,Il fl.Umpire.Hi];have Ly:=Ly.k t;have La:=La.k t;have Mp:=Mp.k t;have Oa:=Oa.k t;have Mm:=fun j r g hr hg=>(Mm j r g hr hg).k t (by decide);refine⟨pa,qa,_,La.bk.rc rfl,_,_,_,_,_,(hw.sub (e.fs.trans e.sub)).ra,_,_,_,_,_,_,_,_,_,Lf.bk.ra,?_⟩;obtain⟨r,sa,ta⟩:=zqc (show(zuc ({ c:=w.c,payments:=p }:UWk) fl).bind _=some s from hp);obtain⟨g,P,ua⟩:=zqc ta;obtain⟨s',va,wa⟩:=zqc ua
   cases wa
   refine zyo (w:=({ c:=w.c,payments:=p }:UWk)) (f_:=fl) e.pre (ha100.sub e.fs) (ha103.sub e.fs) (Mp.mc e) sa fun cb T xa ya za fa=>?_;obtain⟨τ8,S8,J,Mp,Mr⟩:=zyW e Mp ya fa za 5;have Ly:=Ly.k J;have La:=La.k J;have Oa:=Oa.k J;have Mm:=fun j r g hr hg=>(Mm j r g hr hg).k J (by decide)
   obtain⟨z,ga,_⟩:∃b,xa=.map b∧True:=by
    have:=Mr.mi;rw[P] at this;obtain⟨b,hb,_⟩:=this;exact⟨b,hb,trivial⟩
   subst ga;refine⟨_,rfl,?_,?_⟩
   ·rw[zoL Oa.noFn]; exact La.bk.rc rfl
   intro db Y;have Aa:=La;have Ba:=Oa;obtain⟨F,Ca,τ9,Da,S9,G,Oa'⟩:=Oa.app' zyV S8 (a:=(⟨z⟩:zyT)) (show Rp.rep (α:=zyT) T [.map z] ⟨z⟩ from rfl) (by omega) Y;have Ly:=Ly.k G;have La:=La.k G;have Mp:=Mp.k G;have Mr:=Mr.k G;have Mm:=fun j r g hr hg=>(Mm j r g hr hg).k G (by decide);refine⟨?_,F,Ca,Da,?_⟩
   ·rw[zoL Ba.noFn]; exact(Aa.bk.ext (Bk.new Y).2).rc rfl
   obtain⟨Z,Ea,Fa,y,La⟩:=La.sto S9 [F];have Ly:=Ly.k y;have Mp:=Mp.k y;have Oa':=Oa'.k y;have Mr:=Mr.k y;have Mm:=fun j r g hr hg=>(Mm j r g hr hg).k y (by decide);refine⟨Z,Ea,by unfold zl0; exact⟨by omega,by omega⟩,?_⟩
   have hx:rz=((gs++[g])++s'.1,s'.2):=by rw[hrz,List.append_assoc]; rfl
   rw[show(i:Int)+1=((i+1:Nat):Int) by omega];refine ih (i+1) F (rs++[⟨z⟩]) (gs++[g]) r.2 s' Z T τ9 (by simp at hi; omega) ?_ (by simp; omega) (by simp; omega) Fa Ly La Oa' Mp ?_ va hx
   ·rw[← List.drop_drop,hd]; rfl
   ·intro j rr gg hrr hgg;rw[List.getElem?_append] at hrr hgg
    by_cases hj:j < i
    ·rw[if_pos (by omega)] at hrr hgg;exact Mm j rr gg hrr hgg
    ·rw[if_neg (by omega)] at hrr hgg
     have Ga:j - rs.length=0:=by
      rcases Nat.eq_zero_or_pos (j - rs.length) with h | h
      ·exact h
      ·rw[List.getElem?_eq_none (by simp; omega)] at hrr; cases hrr
     rw[Ga] at hrr;rw[show j - gs.length=0 by omega] at hgg
     cases hrr; cases hgg
     rw[P] at Mr;exact Mr
 exact hgo w.c.Fields 0 .sl0 [] [] w.payments rz m1 f τ2 (by omega) rfl rfl rfl S2 Ly La (Ow.nil ..) M2 (fun j r g hr _=>by cases hr) hp rfl
def lastN:List Int→Int→Nat
 | _x::y::l,n=>if y≤n then lastN (y::l) n+1 else 0
 | _,_=>0
theorem zyY:∀(l:List Int) (n:Int),l ≠ []→lastN l n < l.length
 | [],_,h=>absurd rfl h
 | [_],_,_=>by simp[lastN]
 | x::y::l,n,_=>by
  unfold lastN
  split
  ·have:=zyY (y::l) n (by simp)
   simp only[List.length_cons] at this ⊢; omega
  ·simp
theorem zyZ:∀(l:List Int) (n:Int),(∀x,l.head? = some x→x≤n)→∀x,l[lastN l n]? = some x→x≤n
 | [],_,_,x,h=>by simp at h
 | [a],n,h0,x,h=>by
  simp[lastN] at h; subst h; exact h0 a rfl
 | a::y::l,n,h0,x,h=>by
  unfold lastN at h
  split at h
  ·rename_i hy
   rw[List.getElem?_cons_succ] at h;exact zyZ (y::l) n (fun z hz=>by simp at hz; omega) x h
  ·simp at h; subst h; exact h0 _ rfl
theorem zy0:∀(l:List Int) (n:Int),l.Pairwise (· < ·)→∀j,lastN l n < j→∀x,l[j]? = some x→n < x
 | [],_,_,j,_,x,h=>by simp at h
 | [a],n,_,j,hj,x,h=>by
  have:j < [a].length:=(List.getElem?_eq_some_iff.1 h).1
  simp at this; omega
 | a::y::l,n,hp,j,hj,x,h=>by
  have hp':=(List.pairwise_cons.1 hp).2;unfold lastN at hj
  cases j with
  | zero=>omega
  | succ j=>
   rw[List.getElem?_cons_succ] at h
   split at hj
   ·exact zy0 (y::l) n hp' j (by omega) x h
   ·rename_i hy
    have hx:x∈y::l:=List.mem_of_getElem? h
    rcases List.mem_cons.1 hx with hx | hx
    ·omega
    ·have:=(List.pairwise_cons.1 hp').1 x hx; omega
theorem zy1{l:List Int}(hp:l.Pairwise (· < ·)){i j:Nat}{x y:Int}(hx:l[i]? = some x)(hy:l[j]? = some y)(hij:i < j):x < y:=by
 obtain⟨h1,h2⟩:=List.getElem?_eq_some_iff.1 hx;obtain⟨h3,h4⟩:=List.getElem?_eq_some_iff.1 hy;rw[← h2,← h4];exact List.pairwise_iff_getElem.1 hp i j h1 h3 hij
theorem zy2{l:List Int}{n:Int}(hp:l.Pairwise (· < ·)){k:Nat}(hk:k < l.length)(h1:∀x,l[k]? = some x→x≤n)(h2:∀x,l[k+1]? = some x→n < x)(h0:∀x,l.head? = some x→x≤n):lastN l n=k:=by
 have hne:l ≠ []:=fun h=>by subst h; simp at hk
 have hl:=zyY l n hne;obtain⟨a,ha⟩:∃a,l[lastN l n]? = some a:=⟨_,List.getElem?_eq_getElem hl⟩;obtain⟨b,hb⟩:∃b,l[k]? = some b:=⟨_,List.getElem?_eq_getElem hk⟩;have h3:=zyZ l n h0 a ha;have h4:=h1 b hb
 rcases Nat.lt_trichotomy (lastN l n) k with h | h | h
 ·have:=zy0 l n hp k h b hb; omega
 ·exact h
 ·have hk1:k+1 < l.length:=by omega
  have h5:=h2 _ (List.getElem?_eq_getElem hk1)
  rcases Nat.lt_or_ge (k+1) (lastN l n) with h6 | h6
  ·have:=zy1 hp (List.getElem?_eq_getElem hk1) ha h6; omega
  ·have h7:lastN l n=k+1:=by omega
   rw[h7,List.getElem?_eq_getElem hk1] at ha
   cases ha; omega
def nth(l:List Int)(i:Nat):Int:=l.getD i 0
theorem zy3{l:List Int}{i:Nat}{x:Int}(h:l[i]? = some x):nth l i=x:=by
 unfold nth; rw[List.getD_eq_getElem?_getD,h]; rfl
theorem zy4{l:List Int}{i:Nat}(h:i < l.length):l[i]? = some (nth l i):=by
 rw[List.getElem?_eq_getElem h,zy3 (List.getElem?_eq_getElem h)]
def zy5(a b x y n:Int):Int:=(x * (b - n)+y * (n - a)) / (b - a)
def zy6(counts rates:List Int)(n:Int):Int:=
 let i:=lastN counts n
 if nth counts i=n then nth rates i else zy5 (nth counts i) (nth counts (i+1)) (nth rates i) (nth rates (i+1)) n
theorem zy7{a b x y n z:Int}(h1:a≤n)(h2:n≤b)(hab:a < b)(_hx:0≤x)(_hy:0≤y)(hxz:x≤z)(hyz:y≤z):zy5 a b x y n≤z:=by
  unfold zy5;have e1:x * (b - n)≤z * (b - n):=Int.mul_le_mul_of_nonneg_right hxz (by omega);have e2:y * (n - a)≤z * (n - a):=Int.mul_le_mul_of_nonneg_right hyz (by omega)
  have e3:z * (b - n)+z * (n - a)=z * (b - a):=by rw[← Int.mul_add]; congr 1; omega
  have:x * (b - n)+y * (n - a)≤z * (b - a):=by omega
  calc (x * (b - n)+y * (n - a)) / (b - a)≤(z * (b - a)) / (b - a):=Int.ediv_le_ediv (by omega) this
    _=z:=Int.mul_ediv_cancel _ (by omega)
theorem zy8{a b x y n z:Int}(h1:a≤n)(h2:n≤b)(hab:a < b)(_hz:0≤z)(hxz:z≤x)(hyz:z≤y):z≤zy5 a b x y n:=by
  unfold zy5;have e1:z * (b - n)≤x * (b - n):=Int.mul_le_mul_of_nonneg_right hxz (by omega);have e2:z * (n - a)≤y * (n - a):=Int.mul_le_mul_of_nonneg_right hyz (by omega)
  have e3:z * (b - n)+z * (n - a)=z * (b - a):=by rw[← Int.mul_add]; congr 1; omega
  have:z * (b - a)≤x * (b - n)+y * (n - a):=by omega
  calc z=(z * (b - a)) / (b - a):=(Int.mul_ediv_cancel _ (by omega)).symm
    _≤_:=Int.ediv_le_ediv (by omega) this
structure Cnt (counts:List Int):Prop where
 pw:counts.Pairwise (· < ·)
 hd:counts.head? = some 0
 lst:counts.getLast? = some 100
structure Rts (counts rates:List Int):Prop extends Cnt counts where
 len:rates.length=counts.length
 rng:∀r∈rates,0≤r∧r≤100
variable {cs rs:List Int}
theorem Cnt.ne(h:Cnt cs):cs ≠ []:=fun e=>by have:=h.hd; rw[e] at this; cases this
theorem Cnt.h0(h:Cnt cs){n:Int}(hn:0≤n):∀x,cs.head? = some x→x≤n:=fun x hx=>by
 have:=h.hd; rw[this] at hx; cases hx; exact hn
theorem Cnt.lt(h:Cnt cs)(n:Int):lastN cs n < cs.length:=zyY cs n h.ne
theorem Cnt.btw(h:Cnt cs){n:Int}(hn:0≤n)(h100:n≤100):nth cs (lastN cs n)≤n∧(nth cs (lastN cs n) ≠ n→lastN cs n+1 < cs.length∧n < nth cs (lastN cs n+1)):=by
 have hl:=h.lt n;have h1:=zyZ cs n (h.h0 hn) _ (zy4 hl);refine⟨h1,fun hne=>?_⟩
 have hlast:cs[cs.length - 1]? = some 100:=by rw[← h.lst,List.getLast?_eq_getElem?]
 have hlt:lastN cs n+1 < cs.length:=by
  rcases Nat.lt_or_ge (lastN cs n+1) cs.length with hh | hh
  ·exact hh
  ·have:lastN cs n=cs.length - 1:=by omega
   rw[this] at hne h1;have:=zy3 hlast
   omega
 exact⟨hlt,zy0 cs n h.pw _ (Nat.lt_succ_self _) _ (zy4 hlt)⟩
theorem Rts.at(h:Rts cs rs){i:Nat}(hi:i < cs.length):0≤nth rs i∧nth rs i≤100:=by
 have:i < rs.length:=by rw[h.len]; exact hi
 exact h.rng _ (List.mem_of_getElem? (zy4 this))
theorem Rts.loss_rng(h:Rts cs rs){n:Int}(hn:0≤n)(h100:n≤100):0≤zy6 cs rs n∧zy6 cs rs n≤100:=by
 obtain⟨h1,h2⟩:=h.btw hn h100;have hi:=h.at (h.lt n);unfold zy6; dsimp only
 split
 ·exact hi
 ·rename_i hne
  obtain⟨h3,h4⟩:=h2 hne;have hi2:=h.at h3;exact⟨zy8 h1 (by omega) (by omega) (Int.le_refl _) hi.1 hi2.1,zy7 h1 (by omega) (by omega) hi.1 hi2.1 hi.2 hi2.2⟩
theorem Cnt.last_at(h:Cnt cs){i:Nat}(hi:i < cs.length):lastN cs (nth cs i)=i:=by
 refine zy2 h.pw hi (fun x hx=>?_) (fun x hx=>?_) fun x hx=>?_
 ·rw[zy3 hx]; exact Int.le_refl _
 ·exact zy1 h.pw (zy4 hi) hx (Nat.lt_succ_self _)
 ·have h0:cs[0]? = some x:=by rw[← hx]; cases cs <;> rfl
  rcases Nat.eq_zero_or_pos i with h5 | h5
  ·subst h5; rw[zy3 h0]; exact Int.le_refl _
  ·exact Int.le_of_lt (zy1 h.pw h0 (zy4 hi) h5)
end
end Go.Proofs.YteojndcmgpiklaaGreat

namespace Go.Proofs.YteojndcmgpiklaaGreat
open _root_.Go.Proofs.Tryz
open Go.Abs
set_option maxRecDepth 100000
noncomputable section
structure VT (t:Tf):Prop where
 frm:0≤t.From∧t.From≤120
 lst:0≤t.Least∧t.Least≤100
 wks:t.Weeks.Pairwise (· < ·)∧t.Weeks.head? = some 0∧∀x∈t.Weeks,0≤x∧x≤120
 cts:t.Counts.Pairwise (· < ·)∧t.Counts.head? = some 0∧∀x∈t.Counts,0≤x∧x≤100
 c100:t.Counts.getLast? = some 100
 rne:t.Rates ≠ []
 rts:∀c∈t.Rates,c.length=t.Weeks.length∧∀w∈c,w.length=t.Counts.length∧∀r∈w,0≤r∧r≤100
def zy9(l:List Tf):Nat:=match l with | []=>0 | t::_=>t.Rates.length
structure VL (l:List Tf):Prop where
 ne:l ≠ []
 vt:∀t∈l,VT t
 pw:(l.map (·.From)).Pairwise (· < ·)
 hd:(l.map (·.From)).head? = some 0
 crp:∀t∈l,t.Rates.length=zy9 l
def zza(t:Tf):Prop:=4 < t.Weeks.length∨5 < t.Counts.length∨3 < t.Rates.length
def zzb(l:List Tf):Prop:=3 < l.length∨∃t∈l,zza t
open Classical in
def zzc(l:List Tf):Int:=if zzb l then 3 else if VL l then 0 else 1
theorem zzd{l:List Tf}:zzc l=0↔¬ zzb l∧VL l:=by
 unfold zzc
 split
 ·rename_i h; exact⟨fun h=>by omega,fun h'=>absurd h h'.1⟩
 ·rename_i h
  split
  ·rename_i h2; exact⟨fun _=>⟨h,h2⟩,fun _=>rfl⟩
  ·rename_i h2; exact⟨fun h=>by omega,fun h'=>absurd h'.2 h2⟩
def zze(t:Tf)(crop day:Int):List Int:=(t.Rates.getD crop.toNat []).getD (lastN t.Weeks day) []
def zzf(t:Tf)(loss:Int):Int:=if loss < t.Least then 0 else if t.Whole=true then loss else loss - t.Least
def zzg(t:Tf)(crop day count:Int):Int:=zzf t (zy6 t.Counts (zze t crop day) count)
instance:Inhabited Tf:=⟨⟨0,false,0,[],[],[]⟩⟩
def ofN(l:List Tf)(day:Int):Tf:=l.getD (lastN (l.map (·.From)) day) default
def zzh(l:List Tf)(crop day count:Int):Int:=zzg (ofN l day) crop day count
theorem VT.wlt{t:Tf}(h:VT t)(d:Int):lastN t.Weeks d < t.Weeks.length:=zyY _ _ fun e=>by have:=h.wks.2.1; rw[e] at this; cases this
theorem VT.cnt{t:Tf}(h:VT t):Cnt t.Counts:=⟨h.cts.1,h.cts.2.1,h.c100⟩
theorem VT.rates{t:Tf}(h:VT t){crop:Int}(h0:0≤crop)(h1:crop < t.Rates.length)(day:Int) :
  ∃wks,t.Rates[crop.toNat]? = some wks∧wks[lastN t.Weeks day]? = some (zze t crop day)∧Rts t.Counts (zze t crop day):=by
 have hc:crop.toNat < t.Rates.length:=by omega
 have e1:=List.getElem?_eq_getElem hc;obtain⟨q1,q2⟩:=h.rts _ (List.getElem_mem hc)
 have hw:lastN t.Weeks day < t.Rates[crop.toNat].length:=by rw[q1]; exact h.wlt day
 have e2:=List.getElem?_eq_getElem hw
 have e3:zze t crop day=t.Rates[crop.toNat][lastN t.Weeks day]:=by
  have e4:t.Rates.getD crop.toNat []=t.Rates[crop.toNat]:=by rw[List.getD_eq_getElem?_getD,e1]; rfl
  unfold zze;rw[e4,List.getD_eq_getElem?_getD,e2,Option.getD_some]
 obtain⟨q3,q4⟩:=q2 _ (List.getElem_mem hw);refine⟨_,e1,by rw[e2,e3],⟨h.cnt,by rw[e3]; exact q3,by rw[e3]; exact q4⟩⟩
theorem VL.of{l:List Tf}(h:VL l)(day:Int):l[lastN (l.map (·.From)) day]? = some (ofN l day)∧ofN l day∈l:=by
 have hl:=zyY (l.map (·.From)) day fun e=>h.ne (List.map_eq_nil_iff.1 e);rw[List.length_map] at hl
 have e:l[lastN (l.map (·.From)) day]? = some (ofN l day):=by
  unfold ofN;rw[List.getD_eq_getElem?_getD,List.getElem?_eq_getElem hl,Option.getD_some]
 exact⟨e,List.mem_of_getElem? e⟩
theorem zzi{t:Tf}(h:VT t){x:Int}(h0:0≤x)(h1:x≤100):0≤zzf t x∧zzf t x≤100:=by
 have:=h.lst;unfold zzf
 split
 ·omega
 ·split <;> omega
theorem VL.vof{l:List Tf}(h:VL l)(day:Int):VT (ofN l day):=h.vt _ (h.of day).2
theorem VL.cof{l:List Tf}(h:VL l)(day:Int):(ofN l day).Rates.length=zy9 l:=h.crp _ (h.of day).2
theorem VL.rts{l:List Tf}(h:VL l){crop:Int}(h0:0≤crop)(h1:crop < zy9 l)(day:Int):Rts (ofN l day).Counts (zze (ofN l day) crop day):=by
 obtain⟨_,_,_,q⟩:=(h.vof day).rates h0 (by rw[h.cof]; exact h1) day;exact q
theorem VL.part_rng{l:List Tf}(h:VL l){crop n:Int}(h0:0≤crop)(h1:crop < zy9 l)(hn:0≤n)(hn1:n≤100)(day:Int):0≤zzh l crop day n∧zzh l crop day n≤100:=by
 obtain⟨q1,q2⟩:=(h.rts h0 h1 day).loss_rng hn hn1;exact zzi (h.vof day) q1 q2
end
end Go.Proofs.YteojndcmgpiklaaGreat

namespace Go.Proofs.YteojndcmgpiklaaGreat
open _root_.Go.Proofs.Tryz
open Go.Abs
set_option maxRecDepth 100000
noncomputable section
theorem zzj{n lo hi:Int}:Ev (zrL n lo hi) (lo≤n∧n≤hi):=Ev.ite fun _=>Ev.dec Iff.rfl
theorem zzk{r:Rg}{n:Int}:Ev (zsa r n) (r.Lo≤n∧n≤r.Hi):=Ev.ite fun _=>Ev.dec Iff.rfl
theorem zzl{n:Int}:Ev (zsc n) (0≤n∧n≤120):=zzk.ret
theorem zzm{n:Int}:Ev (zsd n) (0≤n∧n≤100):=zzk.ret
theorem zzn{n:Int}:Ev (zse n) (0≤n∧n≤100):=zzk.ret
theorem zzo{n s:Int}(hs:0≤s∧s≤4611686018427387904):Ev (zsb n s) (0≤n∧n < s):=Ev.gd (fI (by omega)) (zzk.ret.imp (by show 0≤n∧n≤s - 1↔_; omega))
theorem zzp{l:List Int}{k:Nat}(h:k < l.length):idx l (k:Int)=some (nth l k):=zq1 (zy4 h)
theorem zzq{l:List Int}{k:Nat}(h0:0 < k)(h:k - 1 < l.length):idx l ((k:Int) - 1)=some (nth l (k - 1)):=zq3 h0 (zy4 h)
theorem zzr:∀{l:List Int},(∀j,0 < j→j < l.length→nth l (j - 1) < nth l j)→l.Pairwise (· < ·)
 | [],_=>.nil
 | [a],_=>List.pairwise_singleton _ _
 | a::b::l,h=>by
  have h1:(b::l).Pairwise (· < ·):=zzr fun j h0 hj=>by
   have:=h (j+1) (by omega) (by simp at hj ⊢; omega);obtain⟨i,rfl⟩:∃i,j=i+1:=⟨j - 1,by omega⟩;exact this
  have h2:a < b:=h 1 (by omega) (by simp);refine List.pairwise_cons.2 ⟨fun x hx=>?_,h1⟩
  rcases List.mem_cons.1 hx with rfl | hx
  ·exact h2
  ·exact Int.lt_trans h2 ((List.pairwise_cons.1 h1).1 x hx)
theorem zzs{l:List Int}:(∀j,0 < j→j < l.length→nth l (j - 1) < nth l j)↔l.Pairwise (· < ·):=
 ⟨zzr,fun h j h0 hj=>zy1 h (zy4 (by omega)) (zy4 hj) (by omega)⟩
theorem zzt{l:List Int}(hl:zrc l):Ev (zsg l) (l.Pairwise (· < ·)∧l.head? = some 0):=by
 have hl:=hl.lt
 have key:Ev (zsf l (l.length+1) 0) ((∀j,j < l.length→(0 < j→nth l (j - 1) < nth l j))∧l.head? = some 0):=by
  refine Ev.loop (F:=zsf l) (fin:=if (0:Int) < (l.length:Int) then ((idx l (0:Int)).bind fun x=>some (decide (x=(0:Int)))) else some false) (fun d k hk=>?_) (fun d=>?_) (by omega) fun _=>?_
  ·rw[zsf,if_pos (by omega),zzp hk,obs]
   by_cases h0:0 < k
   ·rw[if_pos (show(0:Int) < k by omega),zqe (fI (by omega)),zzq h0 (by omega),obs,zqe (fI (by omega))];refine⟨fun h=>?_,fun h=>?_⟩
    ·rw[if_neg (by have:=h h0; omega)]
    ·rw[if_pos (by
      rcases Int.lt_or_le (nth l (k - 1)) (nth l k) with h1 | h1
      ·exact absurd (fun _=>h1) h
      ·exact h1)]
   ·rw[if_neg (show ¬ (0:Int) < k by omega),zqe (fI (by omega))];exact⟨fun _=>rfl,fun h=>absurd (fun h'=>absurd h' h0) h⟩
  ·rw[zsf,if_neg (Int.lt_irrefl _)]
  ·cases l with
   | nil=>exact Ev.ff (by simp)
   | cons a l=>rw[if_pos (by simp)]; exact Ev.bind (zq4 rfl) (Ev.dec (by simp))
 exact key.imp (and_congr ⟨fun h=>zzr fun j h0 hj=>h j hj h0,fun h j hj h0=>zzs.2 h j h0 hj⟩ Iff.rfl)
theorem zzu{l:List Int}{most:Int}(hl:zrc l):Ev (zrM l most) ((l.Pairwise (· < ·)∧l.head? = some 0)∧∀x∈l,0≤x∧x≤most):=by
 have hl:=hl.lt
 have key:Ev (prRises_L0 l most (l.length+1) 0) ((∀j,j < l.length→((0≤nth l j∧nth l j≤most)∧(0 < j→nth l (j - 1) < nth l j)))∧l.head? = some 0):=by
  refine Ev.loop (F:=prRises_L0 l most) (fin:=if (0:Int) < (l.length:Int) then ((idx l (0:Int)).bind fun x=>some (decide (x=(0:Int)))) else some false) (fun d k hk=>?_) (fun d=>?_) (by omega) fun _=>?_
  ·rw[prRises_L0,if_pos (by omega),zzp hk,obs];obtain⟨b,h1,h2⟩:=zzj (n:=nth l k) (lo:=0) (hi:=most);rw[h1,obs]
   cases b with
   | false=>
    rw[if_neg (by simp)];exact⟨fun h=>(by have:=h2.2 h.1; cases this),fun _=>rfl⟩
   | true=>
    have h3:=h2.1 rfl;rw[if_pos rfl]
    by_cases h0:0 < k
    ·rw[if_pos (show(0:Int) < k by omega),obs,zqe (fI (by omega)),zzq h0 (by omega),obs,zqe (fI (by omega))];refine⟨fun h=>?_,fun h=>?_⟩
     ·rw[if_neg (by have:=h.2 h0; omega)]
     ·rw[if_pos (by
       rcases Int.lt_or_le (nth l (k - 1)) (nth l k) with h1 | h1
       ·exact absurd ⟨h3,fun _=>h1⟩ h
       ·exact h1)]
    ·rw[if_neg (show ¬ (0:Int) < k by omega),zqe (fI (by omega))];exact⟨fun _=>rfl,fun h=>absurd ⟨h3,fun h'=>absurd h' h0⟩ h⟩
  ·rw[prRises_L0,if_neg (Int.lt_irrefl _)]
  ·cases l with
   | nil=>exact Ev.ff (by simp)
   | cons a l=>rw[if_pos (by simp)]; exact Ev.bind (zq4 rfl) (Ev.dec (by simp))
 refine key.imp ⟨fun⟨h1,h2⟩=>⟨⟨zzr fun j h0 hj=>(h1 j hj).2 h0,h2⟩,fun x hx=>?_⟩,fun⟨⟨h1,h2⟩,h3⟩=>⟨fun j hj=>⟨h3 _ (List.mem_of_getElem? (zy4 hj)),fun h0=>zzs.2 h1 j h0 hj⟩,h2⟩⟩;obtain⟨i,hi⟩:=List.mem_iff_getElem?.1 hx;rw[← zy3 hi];exact(h1 i (List.getElem?_eq_some_iff.1 hi).1).1
theorem gTf{l:List Tf}{p:Tf→Option Bool}:∀{d:Nat} {x:Int},zsC l p d x=gIdx l p d x
 | 0,_=>rfl
 | d+1,x=>by unfold zsC gIdx; simp only[gTf (d:=d)]
theorem zzv{l:List Tf}{p:Tf→Option Bool}:∀{d:Nat} {x:Int},zsG l p d x=gIdx l p d x
 | 0,_=>rfl
 | d+1,x=>by unfold zsG gIdx; simp only[zzv (d:=d)]
theorem gCl{l:List Clm}{p:Clm→Option Bool}:∀{d:Nat} {x:Int},zsK l p d x=gIdx l p d x
 | 0,_=>rfl
 | d+1,x=>by unfold zsK gIdx; simp only[gCl (d:=d)]
theorem gI{l:List Int}{p:Int→Option Bool}:∀{d:Nat} {x:Int},zsP l p d x=gIdx l p d x
 | 0,_=>rfl
 | d+1,x=>by unfold zsP gIdx; simp only[gI (d:=d)]
theorem gL{l:List (List Int)}{p:List Int→Option Bool}:∀{d:Nat} {x:Int},zsU l p d x=gIdx l p d x
 | 0,_=>rfl
 | d+1,x=>by unfold zsU gIdx; simp only[gL (d:=d)]
theorem gLL{l:List (List (List Int))}{p:List (List Int)→Option Bool}:∀{d:Nat} {x:Int},zsZ l p d x=gIdx l p d x
 | 0,_=>rfl
 | d+1,x=>by unfold zsZ gIdx; simp only[gLL (d:=d)]
theorem zzw{l:List Tf}{p:Tf→Option Bool}{q:Tf→Prop}(hp:∀a∈l,Ev (p a) (q a))(hl:zrc l):Ev (zsF l p) (∀a∈l,q a):=Ev.each hp hl.lt gTf
theorem zzx{l:List Clm}{p:Clm→Option Bool}{q:Clm→Prop}(hp:∀a∈l,Ev (p a) (q a))(hl:zrc l):Ev (zsN l p) (∀a∈l,q a):=Ev.each hp hl.lt gCl
theorem zzy{l:List Int}{p:Int→Option Bool}{q:Int→Prop}(hp:∀a∈l,Ev (p a) (q a))(hl:zrc l):Ev (zsS l p) (∀a∈l,q a):=Ev.each hp hl.lt gI
theorem zzz{l:List (List Int)}{p:List Int→Option Bool}{q:List Int→Prop}(hp:∀a∈l,Ev (p a) (q a))(hl:zrc l):Ev (zsX l p) (∀a∈l,q a):=Ev.each hp hl.lt gL
theorem zzA{l:List (List (List Int))}{p:List (List Int)→Option Bool}{q:List (List Int)→Prop}(hp:∀a∈l,Ev (p a) (q a))(hl:zrc l):Ev (zs2 l p) (∀a∈l,q a):=Ev.each hp hl.lt gLL
theorem zzB{l:List Tf}{p:Tf→Option Bool}{q:Tf→Prop}(hp:∀a∈l,Ev (p a) (q a))(hl:zrc l):Ev (zsI l p) (∃a∈l,q a):=Ev.contains hp hl.lt zzv
theorem last_at{l:List Int}(h:l ≠ []):∃x,idx l ((l.length:Int) - 1)=some x∧l.getLast? = some x:=by
 have hl:0 < l.length:=List.length_pos_iff.2 h;refine⟨l[l.length - 1],zq2 (by omega) (by omega),?_⟩;rw[List.getLast?_eq_getElem?,List.getElem?_eq_getElem]
theorem few{t:Tf}(h:¬ zza t):t.Weeks.length≤4∧t.Counts.length≤5∧t.Rates.length≤3:=by unfold zza at h; omega
theorem zzC{l:List Int}{x:Int}(h:l.head? = some x):l ≠ []:=fun e=>by rw[e] at h; cases h
theorem zzD{t:Tf}(h:¬ zza t){w:List Int}:Ev (zs4 t w) (w.length=t.Counts.length∧∀r∈w,0≤r∧r≤100):=by
 have hf:=few h;exact(Ev.ite fun hl=>(zzy (q:=fun r=>0≤r∧r≤100) (fun _ _=>zzn) (zrd (n:=5) (by omega) (by omega))).ret).imp (and_congr Int.ofNat_inj Iff.rfl)
theorem zzE{t:Tf}(h:¬ zza t){c:List (List Int)}:Ev (zs5 t c) (c.length=t.Weeks.length∧∀w∈c,w.length=t.Counts.length∧∀r∈w,0≤r∧r≤100):=by
 have hf:=few h;exact(Ev.ite fun hl=>(zzz (fun _ _=>zzD h) (zrd (n:=4) (by omega) (by omega))).ret).imp (and_congr Int.ofNat_inj Iff.rfl)
theorem zzF{t:Tf}:VT t↔((0≤t.From∧t.From≤120)∧(0≤t.Least∧t.Least≤100)∧(t.Weeks.Pairwise (· < ·)∧t.Weeks.head? = some 0)∧(∀x∈t.Weeks,0≤x∧x≤120)∧(t.Counts.Pairwise (· < ·)∧t.Counts.head? = some 0)∧t.Counts.getLast? = some 100∧t.Rates ≠ []∧∀c∈t.Rates,c.length=t.Weeks.length∧∀w∈c,w.length=t.Counts.length∧∀r∈w,0≤r∧r≤100):=by
 constructor
 ·intro h; exact⟨h.frm,h.lst,⟨h.wks.1,h.wks.2.1⟩,h.wks.2.2,⟨h.cts.1,h.cts.2.1⟩,h.c100,h.rne,h.rts⟩
 ·rintro⟨h1,h2,h3,h4,h5,h6,h7,h8⟩
  refine⟨h1,h2,⟨h3.1,h3.2,h4⟩,⟨h5.1,h5.2,fun x hx=>?_⟩,h6,h7,h8⟩;obtain⟨i,hi⟩:=List.mem_iff_getElem?.1 hx;have hil:=(List.getElem?_eq_some_iff.1 hi).1
  have h0:t.Counts[0]? = some 0:=by rw[← h5.2]; cases t.Counts <;> rfl
  have hl:t.Counts[t.Counts.length - 1]? = some 100:=by rw[← h6,List.getLast?_eq_getElem?]
  constructor
  ·rcases Nat.eq_zero_or_pos i with h9 | h9
   ·subst h9; rw[h0] at hi; cases hi; exact Int.le_refl _
   ·exact Int.le_of_lt (zy1 h5.1 h0 hi h9)
  ·rcases Nat.lt_or_ge i (t.Counts.length - 1) with h9 | h9
   ·exact Int.le_of_lt (zy1 h5.1 hi hl h9)
   ·rw[show i=t.Counts.length - 1 by omega,hl] at hi; cases hi; exact Int.le_refl _
theorem zzG{t:Tf}(h:¬ zza t):Ev (zs6 t) (VT t):=by
 have hf:=few h;have hw:zrc t.Weeks:=zrd (n:=4) (by omega) (by omega);have hc:zrc t.Counts:=zrd (n:=5) (by omega) (by omega);have hr:zrc t.Rates:=zrd (n:=3) (by omega) (by omega);refine Ev.imp (Ev.and zzl fun _=>Ev.and zzn fun _=>Ev.and (zzt hw) fun _=>Ev.and (zzy (q:=fun r=>0≤r∧r≤120) (fun _ _=>zzl) hw) fun _=>Ev.and (K:=t.Counts.getLast? = some 100∧t.Rates ≠ []∧∀c∈t.Rates,c.length=t.Weeks.length∧∀w∈c,w.length=t.Counts.length∧∀r∈w,0≤r∧r≤100) (zzt hc) fun hr2=>?_) zzF.symm;obtain⟨x,hx,hx2⟩:=last_at (zzC hr2.2);refine Ev.gd (fI (by omega)) (Ev.bind hx (Ev.imp (Ev.ite fun _=>Ev.ite fun _=>(zzA (fun _ _=>zzE h) hr).ret) ?_));rw[hx2];refine and_congr ⟨fun h=>by rw[h],fun h=>oi h⟩ (and_congr ?_ Iff.rfl);rw[← List.length_pos_iff]; omega
theorem zzH{t:Tf}{c w:Nat}{wks:List (List Int)}{rs:List Int}(hc:t.Rates[c]? = some wks)(hw:wks[w]? = some rs)(hl:rs.length=t.Counts.length)(h5:t.Counts.length≤5)(hw4:w≤4){K:Bool→Int→Option Bool}{b:Bool} :
  ((∀r∈rs,0≤r∧r≤100)→zrN t (c:Int) (w:Int) K 1000000 b 0=K b ((w:Int)+1))∧(¬ (∀r∈rs,0≤r∧r≤100)→zrN t (c:Int) (w:Int) K 1000000 b 0=some false):=by
 have key:=zq6 (n:=rs.length) (F:=fun d x=>zrN t (c:Int) (w:Int) K d b x) (ok:=fun j=>0≤nth rs j∧nth rs j≤100) (bad:=some false) (fin:=K b ((w:Int)+1)) (fun d k hk=>by
  rw[zrN,if_pos (by omega),zq1 hc,obs,zq1 hw,obs,zzp hk,obs];obtain⟨b',h1,h2⟩:=zzj (n:=nth rs k) (lo:=0) (hi:=100);rw[h1,obs]
  cases b' with
  | true=>rw[if_pos rfl,zqe (fI (by omega))]; exact⟨fun _=>rfl,fun h=>absurd (h2.1 rfl) h⟩
  | false=>rw[if_neg (by simp)]; exact⟨fun h=>(by have:=h2.2 h; cases this),fun _=>rfl⟩) (fun d=>by rw[zrN,if_neg (by omega),zqe (fI (by omega))]) (d:=1000000) (by omega)
 have hiff:(∀j,j < rs.length→0≤nth rs j∧nth rs j≤100)↔∀r∈rs,0≤r∧r≤100:=⟨fun h r hr=>by
  obtain⟨i,hi⟩:=List.mem_iff_getElem?.1 hr
  rw[← zy3 hi]; exact h i (List.getElem?_eq_some_iff.1 hi).1,fun h j hj=>h _ (List.mem_of_getElem? (zy4 hj))⟩
 rw[hiff] at key;exact key
def zzI(t:Tf)(rs:List Int):Prop:=rs.length=t.Counts.length∧∀r∈rs,0≤r∧r≤100
theorem zra{α:Type}{l:List α}{P:α→Prop}:(∀j,j < l.length→∀a,l[j]? = some a→P a)↔∀a∈l,P a:=
 ⟨fun h a ha=>by
  obtain⟨i,hi⟩:=List.mem_iff_getElem?.1 ha
  exact h i (List.getElem?_eq_some_iff.1 hi).1 a hi,fun h j _ a ha=>h a (List.mem_of_getElem? ha)⟩
theorem zzJ{t:Tf}(h:¬ zza t){c:Nat}{wks:List (List Int)}(hc:t.Rates[c]? = some wks)(hl:wks.length=t.Weeks.length){K:Bool→Int→Option Bool}{b:Bool} :
  ((∀w∈wks,zzI t w)→zrO t (c:Int) K 1000000 b 0=K b ((c:Int)+1))∧(¬ (∀w∈wks,zzI t w)→zrO t (c:Int) K 1000000 b 0=some false):=by
 have hf:=few h;have hcl:c < t.Rates.length:=(List.getElem?_eq_some_iff.1 hc).1
 have key:=zq6 (n:=wks.length) (F:=fun d x=>zrO t (c:Int) K d b x) (ok:=fun j=>∀rs,wks[j]? = some rs→zzI t rs) (bad:=some false) (fin:=K b ((c:Int)+1)) (fun d k hk=>by
  have hw:=List.getElem?_eq_getElem hk;rw[zrO,if_pos (by omega),zq1 hc,obs,zq1 hw,obs]
  by_cases hlen:wks[k].length=t.Counts.length
  ·rw[if_pos (by omega)];obtain⟨q1,q2⟩:=zzH (t:=t) (b:=b) (K:=zrO t (c:Int) K d) hc hw hlen hf.2.1 (by omega);exact⟨fun hok=>q1 (hok _ hw).2,fun hok=>q2 fun h'=>hok fun rs hrs=>by rw[hw] at hrs; cases hrs; exact⟨hlen,h'⟩⟩
  ·rw[if_neg (by omega)]
   exact⟨fun hok=>absurd (hok _ hw).1 hlen,fun _=>rfl⟩) (fun d=>by rw[zrO,if_neg (by omega),zqe (fI (by omega))]) (d:=1000000) (by omega)
 rw[zra (P:=zzI t)] at key;exact key
theorem zzK{t:Tf}(h:¬ zza t):Ev (zrP t 1000000 false 0) (∀c∈t.Rates,c.length=t.Weeks.length∧∀w∈c,zzI t w):=by
 have hf:=few h
 have key:=Ev.loop (n:=t.Rates.length) (F:=fun d x=>zrP t d false x) (ok:=fun j=>∀c,t.Rates[j]? = some c→c.length=t.Weeks.length∧∀w∈c,zzI t w) (fin:=some true) (P:=True) (fun d k hk=>by
  have hc:=List.getElem?_eq_getElem hk;rw[zrP,if_pos (by omega),zq1 hc,obs]
  by_cases hlen:t.Rates[k].length=t.Weeks.length
  ·rw[if_pos (by omega)];obtain⟨q1,q2⟩:=zzJ h (b:=false) (K:=zrP t d) hc hlen;exact⟨fun hok=>q1 (hok _ hc).2,fun hok=>q2 fun h'=>hok fun rs hrs=>by rw[hc] at hrs; cases hrs; exact⟨hlen,h'⟩⟩
  ·rw[if_neg (by omega)]
   exact⟨fun hok=>absurd (hok _ hc).1 hlen,fun _=>rfl⟩) (fun d=>by rw[zrP,if_neg (Int.lt_irrefl _)]) (d:=1000000) (by omega) fun _=>Ev.tt trivial
 refine key.imp ⟨fun h=>zra.1 h.1,fun h=>⟨zra.2 h,trivial⟩⟩
theorem zzL{t:Tf}(h:¬ zza t):Ev (zrQ t) (VT t):=by
 have hf:=few h;have hw:zrc t.Weeks:=zrd (n:=4) (by omega) (by omega);have hc:zrc t.Counts:=zrd (n:=5) (by omega) (by omega);refine Ev.imp (Ev.and zzj fun _=>Ev.and zzj fun _=>Ev.and (zzu hw) fun _=>Ev.and (K:=t.Counts.getLast? = some 100∧t.Rates ≠ []∧∀c∈t.Rates,c.length=t.Weeks.length∧∀w∈c,zzI t w) (zzu hc) fun hr2=>?_) ?_
 ·obtain⟨x,hx,hx2⟩:=last_at (zzC hr2.1.2);refine Ev.gd (fI (by omega)) (Ev.bind hx (Ev.imp (Ev.ite fun _=>Ev.itn fun _=>zzK h) ?_));rw[hx2];refine and_congr ⟨fun h=>by rw[h],fun h=>oi h⟩ (and_congr ?_ Iff.rfl);rw[← List.length_pos_iff]; omega
 ·refine⟨fun⟨h1,h2,h3,h4,h5,h6,h7⟩=>⟨h1,h2,⟨h3.1.1,h3.1.2,h3.2⟩,⟨h4.1.1,h4.1.2,h4.2⟩,h5,h6,h7⟩,fun h=>⟨h.frm,h.lst,⟨⟨h.wks.1,h.wks.2.1⟩,h.wks.2.2⟩,⟨⟨h.cts.1,h.cts.2.1⟩,h.cts.2.2⟩,h.c100,h.rne,h.rts⟩⟩
theorem zzM{t:Tf}:Ev (zsl t) (zza t):=by
 unfold zsl zza
 by_cases h1:(4:Int) < (t.Weeks.length:Int)
 ·rw[if_pos h1]; exact Ev.tt (.inl (by omega))
 ·rw[if_neg h1]
  by_cases h2:(5:Int) < (t.Counts.length:Int)
  ·rw[if_pos h2]; exact Ev.tt (.inr (.inl (by omega)))
  ·rw[if_neg h2]; exact Ev.dec (by omega)
theorem zzN{l:List Tf}:Ev (zs7 l) (zzb l):=by
 unfold zs7 zzb
 by_cases h1:(3:Int) < (l.length:Int)
 ·rw[if_pos h1]; exact Ev.tt (.inl (by omega))
 ·rw[if_neg h1];exact(zzB (fun _ _=>zzM) (zrd (n:=3) (by omega) (by omega))).ret.imp ⟨fun h=>.inr h,fun h=>h.elim (fun h=>by omega) id⟩
theorem zzO{l:List Tf}(hl:zrc l):zsi l=some (l.map (·.From)):=by
 unfold zrc at hl
 exact zq8 (l:=l) (F:=zsh l) (fun t:Tf=>t.From) some (fun d k acc a ha hac=>by
  have hk:=(List.getElem?_eq_some_iff.1 ha).1
  rw[zsh,if_pos (by omega),zq1 ha,obs,zqe (show acc.length < 1048576 by omega),zqe (fI (by omega))]) (fun d acc=>by rw[zsh,if_neg (Int.lt_irrefl _)]) (by omega)
theorem zzP{l:List Tf}(h:l ≠ []):∃t,l[0]? = some t∧zy9 l=t.Rates.length:=by
 cases l with
 | nil=>exact absurd rfl h
 | cons t l=>exact⟨t,rfl,rfl⟩
theorem zzQ{l:List Tf}(h:l ≠ []){t:Tf}:Ev (zsj l t) (t.Rates.length=zy9 l):=by
 obtain⟨u,h1,h2⟩:=zzP h;exact Ev.bind (zq4 h1) (Ev.dec (by rw[h2]; exact Int.ofNat_inj))
theorem zzR{l:List Tf}(h:¬ zzb l):l.length≤3∧∀t∈l,¬ zza t:=by
 unfold zzb at h
 exact⟨by rcases Nat.lt_or_ge 3 l.length with h1 | h1; exact absurd (.inl h1) h; exact h1,fun t ht h1=>h (.inr ⟨t,ht,h1⟩)⟩
theorem zzS{l:List Tf}(h:¬ zzb l):Ev (zs8 l) (VL l):=by
 obtain⟨h3,ht⟩:=zzR h;have hs:zrc l:=zrd h3 (by omega)
 have key:Ev (zs8 l) ((∀t∈l,VT t)∧((l.map (·.From)).Pairwise (· < ·)∧(l.map (·.From)).head? = some 0)∧∀t∈l,t.Rates.length=zy9 l):=by
  refine Ev.and (zzw (fun t h'=>zzG (ht t h')) hs) fun _=>Ev.bind (zzO hs) (Ev.and (zzt (by unfold zrc; rw[List.length_map]; exact hs)) fun hr=>(zzw (fun t _=>zzQ (fun e=>by rw[e] at hr; cases hr.2)) hs).ret)
 exact key.imp ⟨fun⟨h1,h2,h4⟩=>⟨fun e=>(by rw[e] at h2; cases h2.2),h1,h2.1,h2.2,h4⟩,fun h=>⟨h.vt,⟨h.pw,h.hd⟩,h.crp⟩⟩
theorem zzT{l:List Tf}:zta l=some (zzc l):=by
 unfold zta;refine zzN.pick (fun h=>?_) fun h=>?_
 ·rw[if_pos rfl]; unfold zzc; rw[if_pos h]
 ·rw[if_neg (by simp)];refine(zzS h).pick (fun hv=>?_) fun hv=>?_
  ·rw[if_pos rfl]; unfold zzc; rw[if_neg h,if_pos hv]
  ·rw[if_neg (by simp)]; unfold zzc; rw[if_neg h,if_neg hv]
def zla(l:List Tf)(j:Nat)(t:Tf):Prop:=VT t∧t.Rates.length=zy9 l∧(j=0→t.From=0)∧(0 < j→∀u,l[j - 1]? = some u→u.From < t.From)
theorem zzU{l:List Tf}(h:¬ zzb l)(hne:l ≠ []):((∀j,j < l.length→∀t,l[j]? = some t→zla l j t)→zrR l (l.length+1) 0=some 0)∧(¬ (∀j,j < l.length→∀t,l[j]? = some t→zla l j t)→zrR l (l.length+1) 0=some 1):=by
 obtain⟨h3,ht⟩:=zzR h;obtain⟨u0,hu0,hcr⟩:=zzP hne;refine zq6 (F:=zrR l) (fun d k hk=>?_) (fun d=>by rw[zrR,if_neg (Int.lt_irrefl _),if_neg (by have:=List.length_pos_iff.2 hne; omega)]) (Nat.lt_succ_self _);have hg:=List.getElem?_eq_getElem hk;generalize l[k]=t at hg;have hT:=zzL (ht t (List.mem_of_getElem? hg));have hgo:∀{P:Prop},(∀t',l[k]? = some t'→P)→P:=fun f=>f _ hg;rw[zrR,if_pos (by omega),zq1 hg,obs];have zzZ:∀{P:Tf→Prop},(∀t',l[k]? = some t'→P t')↔P t:=⟨fun f=>f _ hg,fun f t' ht'=>by rw[hg] at ht'; cases ht'; exact f⟩;rw[zzZ];have done:∀{o:Option Int},(VT t→t.Rates.length=zy9 l→(k=0→t.From=0)→(0 < k→∀u,l[k - 1]? = some u→u.From < t.From)→o=zrR l d ((k:Int)+1))→(¬ zla l k t→o=some 1)→(zla l k t→o=zrR l d ((k:Int)+1))∧(¬ zla l k t→o=some 1):=fun a b=>⟨fun h=>a h.1 h.2.1 h.2.2.1 h.2.2.2,b⟩;obtain⟨b,hb,hb2⟩:=hT;rw[hb,obs]
 cases b with
 | false=>rw[if_neg (by simp)]; exact⟨fun h=>(by have:=hb2.2 h.1; cases this),fun _=>rfl⟩
 | true=>
  have hv:=hb2.1 rfl;rw[if_pos rfl,obs,zq4 hu0,obs]
  by_cases hr:t.Rates.length=u0.Rates.length
  ·rw[if_pos (by omega)]
   have hr':t.Rates.length=zy9 l:=by omega
   by_cases h0:k=0
   ·rw[if_pos (by omega),obs]
    by_cases hf:t.From=0
    ·rw[if_pos hf,if_neg (by omega),zqe (fI (by omega))];exact⟨fun _=>rfl,fun hn=>absurd ⟨hv,hr',fun _=>hf,fun h'=>by omega⟩ hn⟩
    ·rw[if_neg hf];exact⟨fun h'=>absurd (h'.2.2.1 h0) hf,fun _=>rfl⟩
   ·rw[if_neg (by omega),if_pos (by omega),obs,zqe (fI (by omega))]
    have hp:k - 1 < l.length:=by omega
    have hgp:=List.getElem?_eq_getElem hp;generalize l[k - 1]=u at hgp;rw[zq3 (by omega) hgp,obs]
    by_cases hle:t.From≤u.From
    ·rw[if_pos hle];exact⟨fun h'=>by have:=h'.2.2.2 (by omega) u hgp; omega,fun _=>rfl⟩
    ·rw[if_neg hle,zqe (fI (by omega))];exact⟨fun _=>rfl,fun hn=>absurd ⟨hv,hr',fun h'=>absurd h' h0,fun _ u' hu'=>by rw[hgp] at hu'; cases hu'; omega⟩ hn⟩
  ·rw[if_neg (by omega)];exact⟨fun h'=>by have:=h'.2.1; omega,fun _=>rfl⟩
theorem zzV{l:List Tf}(hne:l ≠ []):(∀j,j < l.length→∀t,l[j]? = some t→zla l j t)↔VL l:=by
 have hm:∀j t,l[j]? = some t→nth (l.map (·.From)) j=t.From:=fun j t h=>zy3 (by rw[List.getElem?_map,h]; rfl)
 constructor
 ·intro h;refine⟨hne,fun t ht=>?_,zzr fun j h0 hj=>?_,?_,fun t ht=>?_⟩
  ·obtain⟨i,hi⟩:=List.mem_iff_getElem?.1 ht;exact(h i (List.getElem?_eq_some_iff.1 hi).1 t hi).1
  ·rw[List.length_map] at hj;have h1:=List.getElem?_eq_getElem hj;have h2:=List.getElem?_eq_getElem (show j - 1 < l.length by omega);rw[hm _ _ h1,hm _ _ h2];exact(h j hj _ h1).2.2.2 h0 _ h2
  ·obtain⟨t,h1,_⟩:=zzP hne;have:=(h 0 (List.getElem?_eq_some_iff.1 h1).1 t h1).2.2.1 rfl
   cases l with
   | nil=>cases h1
   | cons a l=>cases h1; simp[this]
  ·obtain⟨i,hi⟩:=List.mem_iff_getElem?.1 ht;exact(h i (List.getElem?_eq_some_iff.1 hi).1 t hi).2.1
 ·intro h j hj t ht;refine⟨h.vt t (List.mem_of_getElem? ht),h.crp t (List.mem_of_getElem? ht),fun h0=>?_,fun h0 u hu=>?_⟩
  ·subst h0;have:=h.hd
   cases l with
   | nil=>cases ht
   | cons a l=>cases ht; simpa using this
  ·have:=zzs.2 h.pw j h0 (by rw[List.length_map]; exact hj)
   rwa [hm _ _ ht,hm _ _ hu] at this
theorem zzW{l:List Tf}:zrT l=some (zzc l):=by
 unfold zrT
 by_cases h1:(3:Int) < (l.length:Int)
 ·rw[if_pos h1]; unfold zzc; rw[if_pos (.inl (by omega))]
 ·rw[if_neg h1]
  have key:=zq6 (n:=l.length) (F:=fun d x=>zrS l d 0 x) (ok:=fun j=>∀t,l[j]? = some t→¬ zza t) (bad:=some 3) (fin:=zrR l (l.length+1) 0) (fun d k hk=>by
   have hg:=List.getElem?_eq_getElem hk;generalize l[k]=t at hg;have zzZ:(∀t',l[k]? = some t'→¬ zza t')↔¬ zza t:=⟨fun f=>f _ hg,fun f t' ht'=>by rw[hg] at ht'; cases ht'; exact f⟩;rw[zzZ,zrS,if_pos (by omega),zq1 hg,obs];unfold zza
   by_cases h4:(4:Int) < (t.Weeks.length:Int)
   ·rw[if_pos h4]; exact⟨fun h=>by omega,fun _=>rfl⟩
   ·rw[if_neg h4,obs]
    by_cases h5:(5:Int) < (t.Counts.length:Int)
    ·rw[if_pos h5]; exact⟨fun h=>by omega,fun _=>rfl⟩
    ·rw[if_neg h5,obs]
     by_cases h6:(3:Int) < (t.Rates.length:Int)
     ·rw[if_pos h6]; exact⟨fun h=>by omega,fun _=>rfl⟩
     ·rw[if_neg h6,zqe (fI (by omega))]; exact⟨fun _=>rfl,fun h=>by omega⟩) (fun d=>by rw[zrS,if_neg (Int.lt_irrefl _)]) (d:=l.length+1) (by omega)
  rw[zra (P:=fun t=>¬ zza t)] at key
  by_cases hm:zzb l
  ·unfold zzc;rw[if_pos hm];refine key.2 fun hh=>?_
   rcases hm with hm | ⟨t,ht,hm⟩
   ·omega
   ·exact hh t ht hm
  ·refine(key.1 (zzR hm).2).trans ?_;unfold zzc;rw[if_neg hm]
   by_cases hne:l=[]
   ·subst hne;rw[if_neg fun h=>h.ne rfl]
    rfl
   ·obtain⟨q1,q2⟩:=zzU hm hne;rw[zzV hne] at q1 q2
    by_cases hv:VL l
    ·rw[if_pos hv,q1 hv]
    ·rw[if_neg hv,q2 hv]
structure zzX (t:Tf):Prop where
 w:t.Weeks.length≤7
 c:t.Counts.length≤7
 r:t.Rates.length≤5
 rr:∀c∈t.Rates,c.length≤7∧∀w∈c,w.length≤7
def zzY(l:List Tf):Prop:=l.length≤5∧∀t∈l,zzX t
theorem zzZ{α:Type}{l:List α}{k:Nat}{a:α}(h:l[k]? = some a){P:α→Prop}:(∀x,l[k]? = some x→P x)↔P a:=⟨fun f=>f _ h,fun f x hx=>by rw[h] at hx; cases hx; exact f⟩
theorem zz0{l:List Tf}{i c:Nat}{t:Tf}{wks:List (List Int)}(hi:l[i]? = some t)(hc:t.Rates[c]? = some wks)(h7:wks.length≤7)(h5:c < 5){K:Bool→Int→Option Bool}{b:Bool} :
  ((∀w∈wks,w.length≤7)→zr2 l (i:Int) (c:Int) K 1000000 b 0=K b ((c:Int)+1))∧(¬ (∀w∈wks,w.length≤7)→zr2 l (i:Int) (c:Int) K 1000000 b 0=some false):=by
 have key:=zq6 (n:=wks.length) (F:=fun d x=>zr2 l (i:Int) (c:Int) K d b x) (ok:=fun j=>∀w,wks[j]? = some w→w.length≤7) (bad:=some false) (fin:=K b ((c:Int)+1)) (fun d k hk=>by
  have hg:=List.getElem?_eq_getElem hk;generalize wks[k]=w at hg;rw[zzZ hg (P:=fun w=>w.length≤7),zr2,zq1 hi,obs,zq1 hc,obs,if_pos (by omega),obs,zq1 hc,obs,zq1 hg,obs]
  by_cases h:(7:Int) < (w.length:Int)
  ·rw[if_pos h]; exact⟨fun h=>by omega,fun _=>rfl⟩
  ·rw[if_neg h,zqe (fI (by omega))]; exact⟨fun _=>rfl,fun h=>by omega⟩) (fun d=>by rw[zr2,zq1 hi,obs,zq1 hc,obs,if_neg (Int.lt_irrefl _),zqe (fI (by omega))]) (d:=1000000) (by omega)
 rw[zra (l:=wks) (P:=fun w:List Int=>w.length≤7)] at key;exact key
theorem zz1{l:List Tf}{i:Nat}{t:Tf}(hi:l[i]? = some t)(h5:t.Rates.length≤5)(hi5:i < 5){K:Bool→Int→Option Bool}{b:Bool} :
  ((∀c∈t.Rates,c.length≤7∧∀w∈c,w.length≤7)→zr3 l (i:Int) K 1000000 b 0=K b ((i:Int)+1))∧(¬ (∀c∈t.Rates,c.length≤7∧∀w∈c,w.length≤7)→zr3 l (i:Int) K 1000000 b 0=some false):=by
 have key:=zq6 (n:=t.Rates.length) (F:=fun d x=>zr3 l (i:Int) K d b x) (ok:=fun j=>∀c,t.Rates[j]? = some c→c.length≤7∧∀w∈c,w.length≤7) (bad:=some false) (fin:=K b ((i:Int)+1)) (fun d k hk=>by
  have hg:=List.getElem?_eq_getElem hk;generalize t.Rates[k]=c at hg;rw[zzZ hg (P:=fun c=>c.length≤7∧∀w∈c,w.length≤7),zr3,zq1 hi,obs,if_pos (by omega),obs,zq1 hg,obs]
  by_cases h:(7:Int) < (c.length:Int)
  ·rw[if_pos h]; exact⟨fun h=>by omega,fun _=>rfl⟩
  ·rw[if_neg h];obtain⟨q1,q2⟩:=zz0 (K:=zr3 l (i:Int) K d) (b:=b) hi hg (by omega) (by omega)
   exact⟨fun h'=>q1 h'.2,fun h'=>q2 fun h2=>h' ⟨by omega,h2⟩⟩) (fun d=>by rw[zr3,zq1 hi,obs,if_neg (Int.lt_irrefl _),zqe (fI (by omega))]) (d:=1000000) (by omega)
 rw[zra (l:=t.Rates) (P:=fun c:List (List Int)=>c.length≤7∧∀w∈c,w.length≤7)] at key;exact key
theorem zz2{l:List Tf}:Ev (zr5 l) (zzY l):=by
 unfold zr5 zzY;refine(Ev.itn (p:=(5:Int) < (l.length:Int)) (K:=∀t∈l,zzX t) fun h5=>?_).imp (and_congr (by omega) Iff.rfl)
 have key:=Ev.loop (n:=l.length) (F:=fun d x=>zr4 l d false x) (ok:=fun j=>∀t,l[j]? = some t→zzX t) (fin:=some true) (P:=True) (fun d k hk=>by
  have hg:=List.getElem?_eq_getElem hk;generalize l[k]=t at hg;rw[zzZ hg (P:=zzX),zr4,if_pos (by omega),zq1 hg,obs]
  by_cases h1:(7:Int) < (t.Weeks.length:Int)
  ·rw[if_pos h1]; exact⟨fun h=>by have:=h.w; omega,fun _=>rfl⟩
  ·rw[if_neg h1,obs]
   by_cases h2:(7:Int) < (t.Counts.length:Int)
   ·rw[if_pos h2]; exact⟨fun h=>by have:=h.c; omega,fun _=>rfl⟩
   ·rw[if_neg h2,obs]
    by_cases h3:(5:Int) < (t.Rates.length:Int)
    ·rw[if_pos h3]; exact⟨fun h=>by have:=h.r; omega,fun _=>rfl⟩
    ·rw[if_neg h3];obtain⟨q1,q2⟩:=zz1 (K:=zr4 l d) (b:=false) hg (by omega) (by omega)
     exact⟨fun h=>q1 h.rr,fun h=>q2 fun h'=>h ⟨by omega,by omega,by omega,h'⟩⟩) (fun d=>by rw[zr4,if_neg (Int.lt_irrefl _)]) (d:=l.length+1) (by omega) fun _=>Ev.tt trivial
 exact key.imp ⟨fun h=>zra.1 h.1,fun h=>⟨zra.2 h,trivial⟩⟩
theorem zz3{l:List Int}(h:l.length≤1048576):zr1 l=some l:=by unfold zr1; rw[zqe (by simp; omega)]; simp
theorem zz4{l:List Tf}{i c:Nat}{t:Tf}{wks:List (List Int)}(hi:l[i]? = some t)(hc:t.Rates[c]? = some wks)(h7:wks.length≤7)(hw:∀w∈wks,w.length≤7)(h5:c < 5){a1:Int}{a2:Bool}{a3:Int}{a4:List (List (List Int))}(h4:a4.length < 5){K:Int→Bool→Int→List (List (List Int))→Int→Option (List Tf)} :
  zr6 l (i:Int) a1 a2 a3 a4 (c:Int) K 1000000 [] 0=K a1 a2 a3 (a4++[wks]) ((c:Int)+1):=by
 have key:=zq8 (l:=wks) (fun w=>w) (F:=fun d acc x=>zr6 l (i:Int) a1 a2 a3 a4 (c:Int) K d acc x) (fun acc=>K a1 a2 a3 (a4++[acc]) ((c:Int)+1)) (fun d k acc a ha hac=>by
  have hk:=(List.getElem?_eq_some_iff.1 ha).1;have hs:=hw a (List.mem_of_getElem? ha)
  rw[zr6,zq1 hi,obs,zq1 hc,obs,if_pos (by omega),obs,zq1 hc,obs,zq1 ha,obs,zz3 (by omega),obs,zqe (show acc.length < 1048576 by omega),zqe (fI (by omega))]) (fun d acc=>by
  rw[zr6,zq1 hi,obs,zq1 hc,obs,if_neg (Int.lt_irrefl _),zqe (show a4.length < 1048576 by omega),zqe (fI (by omega))]) (d:=1000000) (by omega)
 rw[List.map_id'] at key;exact key
theorem zz5{l out:List Tf}{i:Nat}{t:Tf}(hi:l[i]? = some t)(ht:zzX t)(hi5:i < 5)(ho:out.length < 5){r1 r2:List Int}{a1:Int}{a2:Bool}{a3:Int}{K:List Tf→Int→Option (List Tf)} :
  zr7 l out (i:Int) r1 r2 K 1000000 a1 a2 a3 [] 0=K (out++[⟨a1,a2,a3,r1,r2,t.Rates⟩]) ((i:Int)+1):=by
 have hr:=ht.r
 have key:=zq8 (l:=t.Rates) (fun w=>w) (F:=fun d acc x=>zr7 l out (i:Int) r1 r2 K d a1 a2 a3 acc x) (fun acc=>K (out++[⟨a1,a2,a3,r1,r2,acc⟩]) ((i:Int)+1)) (fun d k acc a ha hac=>by
  have hk:=(List.getElem?_eq_some_iff.1 ha).1;obtain⟨q1,q2⟩:=ht.rr a (List.mem_of_getElem? ha)
  rw[zr7,zq1 hi,obs,if_pos (by omega),zz4 hi ha q1 q2 (by omega) (by omega)]) (fun d acc=>by
  rw[zr7,zq1 hi,obs,if_neg (Int.lt_irrefl _),zqe (show out.length < 1048576 by omega),zqe (fI (by omega))]) (d:=1000000) (by omega)
 rw[List.map_id'] at key;exact key
theorem zz6{l:List Tf}(h:zzY l):zr9 l=some l:=by
 obtain⟨h5,ht⟩:=h
 have key:=zq8 (l:=l) (fun w=>w) (F:=zr8 l) some (fun d k acc a ha hac=>by
  have hk:=(List.getElem?_eq_some_iff.1 ha).1;have hT:=ht a (List.mem_of_getElem? ha);have h1:=hT.w;have h2:=hT.c;rw[zr8,if_pos (by omega),zq1 ha]
  simp only[obs]
  rw[zz3 (by omega),obs,zz3 (by omega),obs,zz5 ha hT (by omega) (by omega)]) (fun d acc=>by rw[zr8,if_neg (Int.lt_irrefl _)]) (d:=l.length+1) (by omega)
 rw[List.map_id'] at key;exact key
theorem zz7{x y:Int}(hx:0≤x∧x≤100)(hy:0≤y∧y≤100):0≤x * y∧x * y≤10000:=by
 refine⟨Int.mul_nonneg hx.1 hy.1,?_⟩;have h1:x * y≤100 * y:=Int.mul_le_mul_of_nonneg_right hx.2 hy.1
 omega
theorem zz8{a b x y n:Int}(h1:0≤a∧a≤n)(h2:n≤b∧b≤100)(hab:a < b)(hx:0≤x∧x≤100)(hy:0≤y∧y≤100):0≤zy5 a b x y n∧zy5 a b x y n≤100:=
 ⟨zy8 h1.2 h2.1 hab (Int.le_refl _) hx.1 hy.1,zy7 h1.2 h2.1 hab hx.1 hy.1 hx.2 hy.2⟩
theorem Cnt.rng{t:Tf}(h:VT t){i:Nat}(hi:i < t.Counts.length):0≤nth t.Counts i∧nth t.Counts i≤100:=h.cts.2.2 _ (List.mem_of_getElem? (zy4 hi))
theorem zz9{l:List Tf}(h:l ≠ []):zrX l=some (zy9 l:Int):=by
 obtain⟨t,h1,h2⟩:=zzP h;unfold zrX; rw[zq4 h1,obs,h2]
theorem zAa{x:Int}:zsn x=some false:=by unfold zsn; simp
theorem zAb{x:Int}:zso x=some false:=by unfold zso; simp
theorem zAc{x y:Int}:Ev (zsp x y) (x < y):=by
 unfold zsp;rw[zAa,obs,if_neg (by simp)];exact Ev.dec Iff.rfl
theorem fU{n:Int}(h:0≤n∧n < 18446744073709551616):zl0 .u64 n:=h
theorem zAd{l:List Int}(hp:l.Pairwise (· < ·)){i j:Nat}(hij:i≤j)(hj:j < l.length):nth l i≤nth l j:=by
 rcases Nat.lt_or_ge i j with h | h
 ·exact Int.le_of_lt (zy1 hp (zy4 (by omega)) (zy4 hj) h)
 ·rw[show i=j by omega]; exact Int.le_refl _
theorem zAe{l:List Int}{x:Int}(hp:l.Pairwise (· < ·))(hl:l.length≤1048576):∀d (i j:Nat),i≤j→j≤l.length→j - i < d→(∀m,m < i→nth l m < x)→(∀m,j≤m→m < l.length→x≤nth l m) →
  ∃(k:Nat) (f:Bool),zsq l x d (i:Int) (j:Int)=some ((k:Int),f)∧k≤l.length∧(∀m,m < k→nth l m < x)∧(∀m,k≤m→m < l.length→x≤nth l m)∧(f=true↔k < l.length∧nth l k=x)
 | 0,i,j,_,_,h,_,_=>by omega
 | d+1,i,j,hij,hj,h,hlo,hhi=>by
  rw[zsq]
  by_cases hlt:i < j
  ·have e1:zl4 .u64 ((i:Int)+(j:Int))=((i+j:Nat):Int):=by rw[wz (fU (by omega))]; omega
   have e2:((i+j:Nat):Int) / 2=(((i+j) / 2:Nat):Int):=by omega
   have hm:(i+j) / 2 < l.length:=by omega
   have e3:zl4 .i64 (((i+j) / 2:Nat):Int)=(((i+j) / 2:Nat):Int):=wz (fI (by omega));rw[if_pos (by omega),zqe (fI (by omega)),e1,zqe (by omega),zqe (by omega),zqe (by omega),e2,zqe (fU (by omega)),e3,zzp hm,obs]
   generalize hmid:(i+j) / 2=md at *
   obtain⟨b,h1,h2⟩:=zAc (x:=nth l md) (y:=x);rw[h1,obs]
   cases b with
   | true=>
    rw[if_pos rfl,zqe (fI (by omega)),show(md:Int)+1=((md+1:Nat):Int) by omega];have h3:=h2.1 rfl;exact zAe hp hl d (md+1) j (by omega) hj (by omega) (fun m hm'=>by have:=zAd hp (show m≤md by omega) hm; omega) hhi
   | false=>
    rw[if_neg (by simp)]
    have h3:x≤nth l md:=by
     rcases Int.lt_or_le (nth l md) x with h4 | h4
     ·have:=h2.2 h4; cases this
     ·exact h4
    exact zAe hp hl d i md (by omega) (by omega) (by omega) hlo (fun m hm' hml=>by have:=zAd hp hm' hml; omega)
  ·have hij':i=j:=by omega
   subst hij';rw[if_neg (Int.lt_irrefl _)]
   by_cases hil:i < l.length
   ·rw[if_pos (by omega),zzp hil,obs]
    by_cases he:nth l i=x
    ·rw[if_pos he]; exact⟨i,true,rfl,hj,hlo,hhi,⟨fun _=>⟨hil,he⟩,fun _=>rfl⟩⟩
    ·rw[if_neg he,obs,zAb,obs,if_neg (by simp)];exact⟨i,false,rfl,hj,hlo,hhi,⟨fun h=>(by cases h),fun h=>absurd h.2 he⟩⟩
   ·rw[if_neg (by omega)];exact⟨i,false,rfl,hj,hlo,hhi,⟨fun h=>(by cases h),fun h=>absurd h.1 hil⟩⟩
theorem zAf{l:List Int}{x:Int}(hp:l.Pairwise (· < ·))(hl:l.length≤1048576) :
  ∃(k:Nat) (f:Bool),zsr l x=some ((k:Int),f)∧k≤l.length∧(∀m,m < k→nth l m < x)∧(∀m,k≤m→m < l.length→x≤nth l m)∧(f=true↔k < l.length∧nth l k=x):=
 zAe hp hl (l.length+1) 0 l.length (Nat.zero_le _) (Nat.le_refl _) (by omega) (fun m h=>by omega) (fun m h1 h2=>by omega)
theorem zAg{l:List Int}{z:Int}(h:l.head? = some z):nth l 0=z∧0 < l.length:=by
 cases l with
 | nil=>cases h
 | cons a l=>cases h; exact⟨rfl,Nat.succ_pos _⟩
theorem zAh{l:List Int}{n:Int}(hp:l.Pairwise (· < ·))(hh:l.head? = some 0)(hl:l.length≤1000)(hn:0≤n∧n≤1000):zss l n=some (lastN l n:Int):=by
 obtain⟨k,f,h1,h2,h3,h4,_⟩:=zAf (x:=n+1) hp (by omega);obtain⟨e0,l0⟩:=zAg hh
 have hk:0 < k:=by
  rcases Nat.eq_zero_or_pos k with h | h
  ·have:=h4 0 (by omega) l0; omega
  ·exact h
 have hu:lastN l n=k - 1:=zy2 hp (by omega) (fun x hx=>by rw[← zy3 hx]; have:=h3 (k - 1) (by omega); omega) (fun x hx=>by
  have hlt:=(List.getElem?_eq_some_iff.1 hx).1
  rw[← zy3 hx]; have:=h4 (k - 1+1) (by omega) hlt; omega) (fun x hx=>by rw[hh] at hx; cases hx; exact hn.1)
 unfold zss;rw[zqe (fI (by omega)),h1,obs,zqe (fI (by show _≤(k:Int) - 1∧_; omega)),hu]
 congr 1
 show(k:Int) - 1=_
 omega
theorem zAi{l:List Tf}(h:VL l)(hl:l.length≤3){d:Int}(hd:0≤d∧d≤120):zst l d=some (ofN l d):=by
 obtain⟨h1,_⟩:=h.of d;unfold zst;rw[zzO (zrd hl (by omega)),obs,zAh h.pw h.hd (by rw[List.length_map]; omega) (by omega),obs,zq1 h1,obs]
theorem zAj{t:Tf}(h:VT t)(hf:¬ zza t){hh:Ht}(h0:0≤hh.crop)(h1:hh.crop < t.Rates.length)(hn:0≤hh.Count)(h100:hh.Count≤100)(hd:0≤hh.Day∧hh.Day≤120):zsw t hh=some (zy6 t.Counts (zze t hh.crop hh.Day) hh.Count):=by
 obtain⟨day,n,crop⟩:=hh
 dsimp only at h0 h1 hn h100 hd
 have hfew:=few hf;obtain⟨wks,q1,q2,q3⟩:=h.rates h0 h1 day;have hc:=h.cnt;obtain⟨b1,b2⟩:=q3.btw hn h100;obtain⟨k,f,k1,k2,k3,k4,k5⟩:=zAf (x:=n) h.cts.1 (show t.Counts.length≤1048576 by omega);obtain⟨e0,l0⟩:=zAg h.cts.2.1;unfold zsw
 dsimp only
 rw[show idx t.Rates crop=idx t.Rates ((crop.toNat:Nat):Int) by rw[Int.toNat_of_nonneg h0],zq1 q1,obs,zAh h.wks.1 h.wks.2.1 (by omega) (by omega),obs,zq1 q2,obs,k1,obs]
 dsimp only
 by_cases hfl:f=true
 ·obtain⟨c1,c2⟩:=k5.1 hfl
  have hu:lastN t.Counts n=k:=by rw[← c2]; exact hc.last_at c1
  rw[if_pos hfl,zzp (by rw[q3.len]; exact c1),obs];unfold zy6
  dsimp only
  rw[hu,if_pos c2]
 ·have hne:∀m,m < t.Counts.length→nth t.Counts m ≠ n:=fun m hm he=>by
   rcases Nat.lt_or_ge m k with h6 | h6
   ·have:=k3 m h6; omega
   ·rcases Nat.lt_or_ge k m with h7 | h7
    ·have h8:=k4 k (Nat.le_refl _) (by omega);have:=zy1 h.cts.1 (zy4 (show k < t.Counts.length by omega)) (zy4 hm) h7
     omega
    ·have:m=k:=by omega
     subst this;exact hfl (k5.2 ⟨hm,he⟩)
  obtain⟨b3,b4⟩:=b2 (hne _ (hc.lt n))
  have hu:lastN t.Counts n+1=k:=by
   rcases Nat.lt_trichotomy (lastN t.Counts n+1) k with h6 | h6 | h6
   ·have:=k3 _ h6; omega
   ·exact h6
   ·have:=k4 (lastN t.Counts n) (by omega) (hc.lt n);have:=hne _ (hc.lt n)
    omega
  subst hu;have hl:=hc.lt n
  have hlr:lastN t.Counts n < (zze t crop day).length:=by rw[q3.len]; exact hl
  have hlr2:lastN t.Counts n+1 < (zze t crop day).length:=by rw[q3.len]; exact b3
  have hi:=q3.at hl;have hi2:=q3.at b3;have c1:=Cnt.rng h hl;have c2:=Cnt.rng h b3
  have hcast:((lastN t.Counts n+1:Nat):Int) - 1=((lastN t.Counts n:Nat):Int):=by omega
  rw[if_neg hfl,zqe (fI (by omega)),hcast,zzp hl,obs,zzp b3,obs,zqe (fI (by omega)),zzp hlr,obs,zzp hlr2];have hline:=zz8 ⟨c1.1,b1⟩ ⟨Int.le_of_lt b4,c2.2⟩ (by omega) hi hi2;unfold zy6
  dsimp only
  rw[if_neg (hne _ hl)];unfold zy5 at hline ⊢
  generalize nth t.Counts (lastN t.Counts n)=a at *
  generalize nth t.Counts (lastN t.Counts n+1)=b at *
  generalize nth (zze t crop day) (lastN t.Counts n)=x at *
  generalize nth (zze t crop day) (lastN t.Counts n+1)=y at *
  have p1:=zz7 hi (show 0≤b - n∧b - n≤100 by omega);have p2:=zz7 hi2 (show 0≤n - a∧n - a≤100 by omega);rw[zqe (fI (by omega)),zqe (by omega),zqe (by omega),zqe (fI (by omega)),obs,zqe (fI (by omega)),zqe (by omega),zqe (by omega),zqe (fI (by omega)),zqe (fI (by omega)),zqe (fI (by omega)),zqe (by omega),zqe (by omega),zqe (fI (by omega))]
theorem zAk{t:Tf}(h:VT t)(hf:¬ zza t){hh:Ht}(h0:0≤hh.crop)(h1:hh.crop < t.Rates.length)(hn:0≤hh.Count)(h100:hh.Count≤100)(hd:0≤hh.Day∧hh.Day≤120):ztc t hh=some (zzg t hh.crop hh.Day hh.Count):=by
 obtain⟨_,_,_,q3⟩:=h.rates h0 h1 hh.Day;have hr:=q3.loss_rng hn h100;have hls:=h.lst;unfold ztc zzg zzf;rw[zAj h hf h0 h1 hn h100 hd,obs]
 generalize zy6 t.Counts (zze t hh.crop hh.Day) hh.Count=x at *
 by_cases h4:x < t.Least
 ·rw[if_pos h4,if_pos h4]
 ·rw[if_neg h4,if_neg h4];unfold ztb
  by_cases h5:t.Whole=true
  ·rw[if_pos h5,if_pos h5,obs]; rfl
  ·rw[if_neg h5,if_neg h5,obs]
   show Option.bind (zsv t x) _=_
   unfold zsv;rw[zqe (fI (by omega)),obs]
def zAl(l:List Tf)(M:Option (Ht→Option Int)):Prop:=∃f,M=some f∧∀h v,f h=some v→v=zzh l h.crop h.Day h.Count
structure zAm (l:List Tf) (h:Ht):Prop where
 c:0≤h.crop∧h.crop < zy9 l
 n:0≤h.Count∧h.Count≤100
 d:0≤h.Day∧h.Day≤120
theorem zAn{l:List Tf}(hf:zzc l=0):0 < zy9 l∧zy9 l≤3:=by
 obtain⟨hm,hv⟩:=zzd.1 hf;obtain⟨h3,ht⟩:=zzR hm;obtain⟨t,h1,h2⟩:=zzP hv.ne;have hmem:=List.mem_of_getElem? h1;have:=few (ht t hmem);have:=List.length_pos_iff.2 (hv.vt t hmem).rne
 omega
theorem zAo{l:List Tf}(hf:zzc l=0){M:Option (Ht→Option Int)}(hM:zAl l M){h:Ht}(hh:zAm l h):∃M',ztf ⟨l,M⟩ h=some (zzh l h.crop h.Day h.Count,M')∧zAl l M':=by
 obtain⟨hm,hv⟩:=zzd.1 hf;obtain⟨h3,ht⟩:=zzR hm;have hcr:=zAn hf;obtain⟨f,rfl,hf2⟩:=hM;have hc:=hh.c;have hn:=hh.n;have hd:=hh.d;unfold ztf;rw[zqe (show MK.fit h from ⟨fI (by omega),fI (by omega),fI (by omega),trivial⟩)]
 cases hg:zqz (some f) h with
 | some v=>
  rw[zqK rfl];have:v=_:=hf2 h v hg;subst this;exact⟨_,rfl,f,rfl,hf2⟩
 | none=>
  rw[zqJ rfl,zAi hv h3 hd,obs,zAk (hv.vof _) (ht _ (hv.of _).2) hc.1 (by rw[hv.cof]; exact hc.2) hn.1 hn.2 hd,obs,zqe (show MK.fit h from ⟨fI (by omega),fI (by omega),fI (by omega),trivial⟩)];refine⟨_,rfl,_,rfl,fun k v hk=>?_⟩
  by_cases hkh:k=h
  ·subst hkh;rw[if_pos rfl] at hk;exact(oi hk).symm
  ·rw[if_neg hkh] at hk; exact hf2 k v hk
theorem zAp{l:List Tf}:zAl l (some fun _=>none):=⟨_,rfl,fun _ _ h=>by cases h⟩
theorem zAq{l:List Tf}(hf:zzc l=0):ztd l=some (⟨l,some fun _=>none⟩,0):=by unfold ztd; rw[zzT,obs,if_pos hf]
theorem zAr{l:List Tf}(hf:zzc l=0){n:Int}:Ev (zsk l n) (0≤n∧n < zy9 l):=by
 obtain⟨hm,hv⟩:=zzd.1 hf;obtain⟨t,h1,h2⟩:=zzP hv.ne;have:=zAn hf;refine Ev.bind (zq4 h1) ?_;rw[← h2];exact(zzo (by omega)).ret
structure zAs (l:List Tf) (c:Clm):Prop where
 crop:0≤c.Crop∧c.Crop < zy9 l
 val:0≤c.Value∧c.Value≤100000
 day:0≤c.Day.Lo∧c.Day.Lo≤c.Day.Hi∧c.Day.Hi≤120∧c.Day.Hi - c.Day.Lo≤10
 cnt:0≤c.Count.Lo∧c.Count.Lo≤c.Count.Hi∧c.Count.Hi≤100
theorem zAt{r:Rg}{p:Int→Option Bool}{q:Int→Prop}(hp:∀n,Ev (p n) (q n)):Ev (zs3 r p) (r.Lo≤r.Hi∧q r.Lo∧q r.Hi):=Ev.ite fun _=>Ev.and (hp _) fun _=>(hp _).ret
theorem zAu{l:List Tf}(hf:zzc l=0){c:Clm}:Ev (zs9 l c) (zAs l c):=by
 refine Ev.imp (Ev.and (zAr hf) fun _=>Ev.and zzk fun _=>Ev.and (K:=c.Day.Hi - c.Day.Lo≤10∧(c.Count.Lo≤c.Count.Hi∧(0≤c.Count.Lo∧c.Count.Lo≤100)∧(0≤c.Count.Hi∧c.Count.Hi≤100))) (zAt (fun _=>zzl)) fun hd=>Ev.gd (fI (by omega)) (Ev.ite fun _=>(zAt (fun _=>zzm)).ret)) ?_
 dsimp only
 exact⟨fun⟨h1,h2,h3,h4⟩=>⟨h1,h2,by omega,by omega⟩,fun h=>by
  have h3:=h.day;have h4:=h.cnt
  exact⟨h.crop,h.val,by omega,by omega⟩⟩
open Classical in
def zAv(c:Clm)(t:Tr):Prop:=(c.Day.Lo≤t.Day∧t.Day≤c.Day.Hi)∧(c.Count.Lo≤t.Count∧t.Count≤c.Count.Hi)
theorem zAw{c:Clm}{t:Tr}:Ev (zsm c t) (zAv c t):=Ev.and zzk fun _=>zzk.ret
def zAx(l:List Tf)(c:Clm)(t:Tr):Int:=c.Value * zzh l c.Crop t.Day t.Count / 100
theorem zAy{l:List Tf}{cs:List Clm}(hf:zzc l=0)(h5:cs.length≤5)(hc:∀c∈cs,zAs l c):zte l cs=some (⟨l,some fun _=>none⟩,0):=by
 unfold zte;rw[zAq hf,obs,if_pos rfl,if_neg (by omega),(zzx (fun c _=>zAu hf) (zrd h5 (by omega))).some_of hc,obs,if_pos rfl]
theorem zAz{l:List Tf}{cs:List Clm}(hf:zzc l=0)(h5:cs.length≤5)(hc:¬ ∀c∈cs,zAs l c):zte l cs=some (⟨[],none⟩,2):=by
 unfold zte;rw[zAq hf,obs,if_pos rfl,if_neg (by omega),(zzx (fun c _=>zAu hf) (zrd h5 (by omega))).some_not hc,obs,if_neg (by simp)]
theorem zAA{l:List Tf}{c:Clm}(hc:zAs l c){t:Tr}(ht:zAv c t):zAm l ⟨t.Day,t.Count,c.Crop⟩:=by
 have h1:=hc.day;have h2:=hc.cnt;obtain⟨h3,h4⟩:=ht;exact⟨hc.crop,by show 0≤t.Count∧t.Count≤100; omega,by show 0≤t.Day∧t.Day≤120; omega⟩
theorem zAB{l:List Tf}(hf:zzc l=0){h:Ht}(hh:zAm l h):0≤zzh l h.crop h.Day h.Count∧zzh l h.crop h.Day h.Count≤100:=
 (zzd.1 hf).2.part_rng hh.c.1 hh.c.2 hh.n.1 hh.n.2 _
theorem zAC{v p:Int}(hv:0≤v∧v≤100000)(hp:0≤p∧p≤100):0≤v * p∧v * p≤10000000:=by
 refine⟨Int.mul_nonneg hv.1 hp.1,?_⟩;have h1:v * p≤100000 * p:=Int.mul_le_mul_of_nonneg_right hv.2 hp.1
 omega
theorem zAD{l:List Tf}(hf:zzc l=0){M:Option (Ht→Option Int)}(hM:zAl l M){c:Clm}(hc:zAs l c){t:Tr}(ht:zAv c t):∃M',ztg ⟨l,M⟩ c t=some (zAx l c t,M')∧zAl l M':=by
 have hh:=zAA hc ht;obtain⟨M',h1,h2⟩:=zAo hf hM hh;have hp:=zAB hf hh;have hv:=zAC hc.val hp;have hval:=hc.val;refine⟨M',?_,h2⟩;unfold ztg;rw[h1,obs]
 dsimp only at hp hv ⊢
 rw[zqe (by omega),zqe (by omega),zqe (fI (by omega)),zqe (by omega),zqe (by omega),zqe (fI (by omega))]
 rfl
theorem zAE{α:Type}{a:α}{P:α→Prop}:(∀x∈[a],P x)↔P a:=by simp
theorem zAF{l:List Tf}(hf:zzc l=0){c:Clm}(hc:zAs l c){t:Tr}(ht:zAv c t):zto l c t=some (zAx l c t,0):=by
 obtain⟨M',h1,_⟩:=zAD hf zAp hc ht;unfold zto; rw[zAy hf (by simp) (zAE.2 hc),obs,if_pos rfl,zAw.some_of ht,obs,if_pos rfl,h1,obs]
end
end Go.Proofs.YteojndcmgpiklaaGreat

namespace Go.Proofs.YteojndcmgpiklaaGreat
open _root_.Go.Proofs.Tryz
open Go.Abs
set_option maxRecDepth 100000
noncomputable section
theorem zAG{l:List Int}(h:l ≠ [])(hl:l.length < 9223372036854775807):zsy l=some (zrf l):=by
 cases l with
 | nil=>exact absurd rfl h
 | cons x l=>
  unfold zsy;rw[if_neg (by simp; omega),zq4 rfl,obs]
  have key:=zre (l:=x::l) (fun s a=>min s a) (fun d s k=>zsx (x::l) d s k) some (fun d k s a ha=>by
   have hk:=(List.getElem?_eq_some_iff.1 ha).1;rw[zsx,if_pos (by omega),zq1 ha,obs]
   by_cases hc:a < s
   ·rw[if_pos hc,zqe (fI (by omega)),Int.min_eq_right (by omega)]
   ·rw[if_neg hc,zqe (fI (by omega)),Int.min_eq_left (by omega)]) (fun d s=>by rw[zsx,if_neg (Int.lt_irrefl _)]) ((x::l).length+1) 0 x (Nat.zero_le _) (by omega)
  refine key.trans ?_;rw[List.drop_zero]
  show some (l.foldl min (min x x))=_
  rw[Int.min_self]; rfl
theorem zAH{l:List Int}(h:l ≠ [])(hl:l.length < 9223372036854775807):zsA l=some (zrg l):=by
 cases l with
 | nil=>exact absurd rfl h
 | cons x l=>
  unfold zsA;rw[if_neg (by simp; omega),zq4 rfl,obs]
  have key:=zre (l:=x::l) (fun s a=>max s a) (fun d s k=>zsz (x::l) d s k) some (fun d k s a ha=>by
   have hk:=(List.getElem?_eq_some_iff.1 ha).1
   rw[zsz,if_pos (by omega),zq1 ha,obs,zqe (fI (by omega))]) (fun d s=>by rw[zsz,if_neg (Int.lt_irrefl _)]) ((((x::l).length:Int) - 1).toNat+1) 1 x (by simp) (by simp only[List.length_cons]; omega)
  exact key
theorem w68{a100:C}{a101:Int}{a102:Int}{a103:C}{a104:C}{a200:C}{m:M}{Q:V→M→Prop}(h:(∀m0:M,(m0=M.new m (AO.cells 5 [a100,Il a101,Il a102,a103,a104] false)) →  ∀m1:M,(m1=M.new m0 (AO.cells 1 [a200] false))→∀m2:M,(m2=M.new m1 (AO.cells 2 [Il 0,Il 0] false))→∀m3:M,(m3=M.new m2 (AO.cells 1 [C.sl0] false)) →  ∃c4:C,∃x5 x6,∃c7:C,∃c8:C,ldA m3 (.ptr m.nxt 0) 5=some [c4,Il x5,Il x6,c7,c8]∧Wc prog tbl 100 [(.agg 5 [c4,Il x5,Il x6,c7,c8])] m3 (fun v9 m10=>∃c11:C,(v9=.c c11) ∧  zoz prog tbl c11 m10 (fun l12 m13 R14 R15=>∃x16 x17 x18,∃x19 x20 x21,l12=[(.agg 6 [Il x16,Il x17,Il x18,Il x19,Il x20,Il x21])]∧∀m22:M,(m22=M.new m13 (AO.cells 6 [Il 0,Il 0,Il 0,Il 0,Il 0,Il 0] false))→∃m23:M,(stC m22 (.ptr m13.nxt 0) 6 [Il x16,Il x17,Il x18,Il x19,Il x20,Il x21]=some m23) ∧  R14 m23 (fun m24=>∃c25:C,(ldC m24 (.ptr m2.nxt 0)=some c25) ∧  isPt (.ptr m0.nxt 0)∧∃c26:C,(ldC m24 (.ptr m0.nxt 0)=some c26) ∧  ∃x27 x28 x29 x30 x31 x32,(ldA m24 (.ptr m13.nxt 0) 6=some [Il x27,Il x28,Il x29,Il x30,Il x31,Il x32]) ∧  zmp prog tbl [(.agg 6 [Il x27,Il x28,Il x29,Il x30,Il x31,Il x32])] c26 m24 (fun v33 m34=> ∃x35,v33=.c (Il x35)∧(ifB (cmC c25) (ldC m34 (.ptr m2.nxt 0)=some c25) False) ∧  ∀m36:M,(m36=M.new m34 (AO.cells 1 [Il x35] false)) →  (ifB (cmC c25) (ldC m36 (.ptr m2.nxt 0)=some c25) False)∧∃c37:C,∃m38:M,(ApR prog 29 m36 c25 (.sl m34.nxt 0 1 0 (some 1)) c37 m38) ∧  ∃m39:M,stC m38 (.ptr m2.nxt 0) 1 [c37]=some m39∧R15 Ex.nrm m39))) (zop.mk (fun m40=> ∃c41:C,ldC m40 (.ptr m2.nxt 0)=some c41∧Wc prog tbl 101 [.c c41] m40 (fun v42 m43=> ∃x44,v42=.c (Il x44)∧∃c45:C,(ldC m43 (.ptr m2.nxt 0)=some c45) ∧  (ifB (cmC c45) (ldC m40 (.ptr m2.nxt 0)=some c45) False)∧Wc prog tbl 102 [.c c45] m43 (fun v46 m47=> ∃x48,v46=.c (Il x48)∧∃m49:M,stC m47 (.ptr m1.nxt 0) 2 [Il x44,Il x48]=some m49∧∃x50 x51,(ldA m49 (.ptr m1.nxt 0) 2=some [Il x50,Il x51]) ∧  Q (.agg 2 [Il x50,Il x51]) m49))) [] (fun m52=> ∃x53 x54,ldA m52 (.ptr m1.nxt 0) 2=some [Il x53,Il x54]∧Q (.agg 2 [Il x53,Il x54]) m52))))):Wc prog tbl 68 [(.agg 5 [a100,Il a101,Il a102,a103,a104]),(.agg 1 [a200])] m Q:= zpA (n:=2) rfl (by kernel_rfl) (by kernel_rfl) h
theorem zAI{l l':List Int}(h:l.Perm l')(hn:l ≠ []):zrf l=zrf l':=by
 have hn':l' ≠ []:=fun he=>hn (by rw[he] at h; exact List.Perm.eq_nil h);have a:=zrj hn;have b:=zrj hn';exact Int.le_antisymm (a.2 _ (h.symm.subset b.1)) (b.2 _ (h.subset a.1))
theorem zAJ{l l':List Int}(h:l.Perm l')(hn:l ≠ []):zrg l=zrg l':=by
 have hn':l' ≠ []:=fun he=>hn (by rw[he] at h; exact List.Perm.eq_nil h);have a:=zrk hn;have b:=zrk hn';exact Int.le_antisymm (b.2 _ (h.subset a.1)) (a.2 _ (h.symm.subset b.1))
def zAK(f:M)(x:C)(g:Ver→Option (Int)):Prop:=∀(f' m:M) (a0:Ver) (r:Int) (Q:V→M→Prop),Sub f f'→Pre f' m→g a0=some r→(∀m',Ext m m'→Q (.c (.int .i64 r)) m')→zmp prog tbl [.agg 6 [(.int .i64 a0.fee),(.int .i64 a0.pence),(.int .i64 a0.fields.f0),(.int .i64 a0.fields.f1),(.int .i64 a0.fields.f2),(.int .i64 a0.fields.f3)]] x m Q
theorem zAK.sub{f m:M}{x:C}{g:Ver→Option (Int)}(h:zAK f x g)(s:Sub f m):zAK m x g:=fun f' m' a0 r Q hs=>h f' m' a0 r Q (s.trans hs)
def zAL(xs:List Int):List C:=xs.map (C.int .i64)
theorem zAM:∃el,tk prog 29=.sl el∧zct prog el=true∧prog.cellsOf el=1∧prog.bytesOf el=8:=⟨3,by kernel_rfl,by kernel_rfl,by kernel_rfl,by kernel_rfl⟩
structure BdI (f1:M) (L A qb:Nat) (a200 cp:C) (Mz:Option (Clm→Option Int)) (rec_:AO) (ask:Ver→Option Int) (d:List Ver) (S:Nat→Prop) (m:M):Prop where
 ex:∃ca xs,zuK ask d=some xs∧Bk m A 1 [ca]∧zpW m 1 ca (zAL xs) d.length∧(∀b,S b↔b=L∨b=A∨∃o n s c,ca=.sl b o n s c)∧¬ (∃o n s c,ca=.sl A o n s c)∧¬ (∃o n s c,ca=.sl L o n s c)∧(∀b,(∃o n s c,ca=.sl b o n s c)→L < b)
 rc:m.g L=some rec_
 lt:L < m.nxt
 q:Bk m qb 1 [a200]
 sub:Sub f1 m
 mi:Mi m cp Mz
theorem zAN{m:M}{k n:Nat}{x:C}{vs:List C}(h:zpW m k x vs n){b:Nat}(hb:∃o n s c,x=.sl b o n s c):b < m.nxt:=by
 obtain⟨o,n',s,c,he⟩:=hb;exact h.lt he
theorem zAO{n0 L A qb N:Nat}{f1:M}{a200 cp:C}{Mz:Option (Clm→Option Int)}{mk:LoopState→Option Code→AO}{ask:Ver→Option Int}{round:zov}(hy:Go.Abs.zoy prog tbl mk L round)(hn0:n0=L+1)(hAL:A < L)(hqA:qb ≠ A)(hq:qb < n0)(hqL:qb ≠ L)(hf1:f1.nxt≤L)(hfz:∀b,f1.nxt≤b→f1.g b=none)(hfv:∀b,f1.nxt≤b→f1.vw b=none)(hfA:f1.g A=none∧f1.vw A=none)(hcp:∀b,cp=.map b→b < n0∧b ≠ A∧b ≠ L)(hF:zAK f1 a200 ask)(hN:N * 8≤140737488355328)
  (hround:∀ v m1 (R14:M→(M→Prop)→Prop) (R15:Ex→M→Prop),
   (∀ m22:M,m22=M.new m1 (AO.cells 6 [(C.int IntKind.i64 (0:Int)),(C.int IntKind.i64 (0:Int)),(C.int IntKind.i64 (0:Int)),(C.int IntKind.i64 (0:Int)),(C.int IntKind.i64 (0:Int)),(C.int IntKind.i64 (0:Int))] false)→(∃ m23:M,
    ((stC m22 (C.ptr (m1).nxt 0) 6 (zyL v))=(Option.some m23)) ∧
    (R14 m23 (fun m24=>(∃ c25:C,(((ldC m24 (C.ptr A 0))=(Option.some c25))∧(isPt (C.ptr qb 0)∧(∃ c26:C,(((ldC m24 (C.ptr qb 0))=(Option.some c26)) ∧
     (∃x27:Int,(∃x28:Int,(∃x29:Int,(∃x30:Int,(∃x31:Int,(∃x32:Int,(((ldA m24 (C.ptr (m1).nxt 0) 6)=(Option.some [(C.int IntKind.i64 x27),(C.int IntKind.i64 x28),(C.int IntKind.i64 x29),(C.int IntKind.i64 x30),(C.int IntKind.i64 x31),(C.int IntKind.i64 x32)])) ∧
     (zmp prog tbl [(V.agg 6 [(C.int IntKind.i64 x27),(C.int IntKind.i64 x28),(C.int IntKind.i64 x29),(C.int IntKind.i64 x30),(C.int IntKind.i64 x31),(C.int IntKind.i64 x32)])] c26 m24 (fun v33 m34=>
      (∃x35:Int,((v33=(V.c (C.int IntKind.i64 x35)))∧((ifB (cmC c25) ((ldC m34 (C.ptr A 0))=(Option.some c25)) False) ∧
      (∀m36:M,((m36=(M.new m34 (AO.cells 1 [(C.int IntKind.i64 x35)] false)))→((ifB (cmC c25) ((ldC m36 (C.ptr A 0))=(Option.some c25)) False)∧(∃c37:C,
      (∃m38:M,((ApR prog 29 m36 c25 (C.sl (m34).nxt 0 1 0 (Option.some 1)) c37 m38)∧(∃m39:M,(((stC m38 (C.ptr A 0) 1 [c37])=(Option.some m39))∧(R15 Ex.nrm m39)))))))))))))))))))))))))))))) →
   round [.agg 6 (zyL v)] m1 R14 R15) :
  zyN n0 L N (fun v=>ask v ≠ none) (BdI f1 L A qb a200 cp Mz (mk .ready none) ask):=by
 refine⟨fun d S m m' h hn hv hs h0=>?_,fun d S m h b hb=>?_,fun d v S m h hd hA Q hQ=>?_⟩
 ·obtain⟨⟨ca,xs,q1,q2,q3,q4,q5,q6,q7⟩,h2,h3,h4,h5,h6⟩:=h;refine⟨⟨ca,xs,q1,⟨(hs A ((q4 A).2 (.inr (.inl rfl)))).trans q2.g,Nat.lt_of_lt_of_le q2.lt hn⟩,q3.to hn (fun b _ ⟨s,c,he⟩=>hs b ((q4 b).2 (.inr (.inr ⟨_,_,_,_,he⟩)))),q4,q5,q6,q7⟩,(hs L ((q4 L).2 (.inl rfl))).trans h2,by omega,⟨(h0 qb hq).trans h4.g,Nat.lt_of_lt_of_le h4.lt hn⟩,⟨Nat.le_trans h5.nxt hn,hv.trans h5.vw,fun b hb hd=>(h0 b (by omega)).trans (h5.g b hb hd)⟩,h6.to hn fun b hb=>h0 b (hcp b hb).1⟩
 ·obtain⟨⟨ca,xs,q1,q2,q3,q4,q5,q6,q7⟩,h2,h3,h4,h5,h6⟩:=h
  rcases (q4 b).1 hb with rfl | rfl | hb
  ·exact h3
  ·exact q2.lt
  ·exact zAN q3 hb
 ·obtain⟨⟨ca,xs,q1,q2,q3,q4,q5,q6,q7⟩,h2,h3,h4,h5,h6⟩:=h
  obtain⟨x,hx⟩:∃x,ask v=some x:=by
   cases hv:ask v with
   | none=>exact absurd hv hA
   | some x=>exact⟨x,rfl⟩
  refine hy _ m Q h2 (hround v m _ _ fun m22 e22=>?_);obtain⟨b22,x22⟩:=Bk.new e22
  have n22:m22.nxt=m.nxt+1:=by rw[e22]; rfl
  refine⟨_,b22.st (zyL v),?_⟩;have k23:=b22.set (zyL v);have x23:Ext m (m22.set m.nxt (.cells 6 (zyL v) false)):=x22.setR (Nat.le_refl _) _;have n23:(m22.set m.nxt (.cells 6 (zyL v) false)).nxt=m.nxt+1:=n22;generalize m22.set m.nxt (.cells 6 (zyL v) false)=m23 at k23 x23 n23 ⊢;refine⟨(x23.g L h3).trans h2,?_⟩
  have g24:∀b,b < m.nxt→b ≠ L→(m23.set L (mk .busy none)).g b=m.g b:=fun b hb hne=>by rw[M.g_set,if_neg hne]; exact x23.g b hb
  have k24:Bk (m23.set L (mk .busy none)) m.nxt 6 (zyL v):=k23.setNe (by omega) _
  have l24:(m23.set L (mk .busy none)).g L=some (mk .busy none):=by rw[M.g_set,if_pos rfl]
  have n24:(m23.set L (mk .busy none)).nxt=m.nxt+1:=n23;have v24:(m23.set L (mk .busy none)).vw=m.vw:=x23.vw;generalize m23.set L (mk .busy none)=m24 at g24 k24 l24 n24 v24 ⊢;have A24:Bk m24 A 1 [ca]:=⟨(g24 A q2.lt (by omega)).trans q2.g,by have:=q2.lt; omega⟩;have Q24:Bk m24 qb 1 [a200]:=⟨(g24 qb h4.lt hqL).trans h4.g,by have:=h4.lt; omega⟩;have sub24:Sub f1 m24:=⟨by have:=h5.nxt; omega,v24.trans h5.vw,fun b hb hd=>(g24 b (by have:=h5.nxt; omega) (by omega)).trans (h5.g b hb hd)⟩;have o24:zpW m24 1 ca (zAL xs) d.length:=q3.to (by omega) fun b hb ⟨s,c,he⟩=>g24 b hb (by have:=q7 b ⟨_,_,_,_,he⟩; omega);refine⟨_,A24.rc rfl,trivial,_,Q24.rc rfl,_,_,_,_,_,_,k24.ra,?_⟩;refine hF f1 m24 v x _ (.refl f1) ⟨sub24,hfz,hfv⟩ hx fun m34 e34=>⟨_,rfl,?_,fun m36 e36=>?_⟩
  ·rw[zoL o24.ls.noFn]; exact(A24.ext e34).rc rfl
  obtain⟨b36,x36⟩:=Bk.new e36;have e46:=e34.trans x36
  have n36:m36.nxt=m34.nxt+1:=by rw[e36]; rfl
  refine⟨by rw[zoL o24.ls.noFn]; exact(A24.ext e46).rc rfl,?_⟩;obtain⟨el,t1,t2,t3,t4⟩:=zAM;obtain⟨m38,p1,p2,p3,p4,p5⟩:=zpX (P:=prog) t1 t2 t3 (o24.ext e46) (Ls.one b36.g rfl b36.lt 0 (some 1)) (by omega) (by omega) (by rw[t4]; omega)
  have A38:Bk m38 A 1 [ca]:=⟨(p5 A (by have:=q2.lt; have:=e46.nxt; omega) fun he=>by
   obtain⟨o,n,s,hc⟩:=zqb he
   exact q5 ⟨_,_,_,_,hc⟩).trans (A24.ext e46).g,by have:=(A24.ext e46).lt; omega⟩
  refine⟨_,m38,p1,_,A38.st _,?_⟩
  have g38:∀b,b < m.nxt→b ≠ L→slB ca ≠ some b→m38.g b=m.g b:=fun b hb hne hsl=>by
   rw[p5 b (by have:=e46.nxt; omega) hsl,e46.g b (by omega)]; exact g24 b hb hne
  have l38:m38.g L=some (mk .busy none):=by
   rw[p5 L (by have:=e46.nxt; omega) (fun he=>by
    obtain⟨o,n,s,hc⟩:=zqb he
    exact q6 ⟨_,_,_,_,hc⟩),e46.g L (by omega)]
   exact l24
  have n38:m.nxt≤m36.nxt:=by have:=e46.nxt; omega
  refine⟨⟨_,_,by rw[M.g_set,if_neg (by omega)]; exact l38⟩,?_⟩
  have hslS:∀b,slB ca=some b→S b:=fun b hb=>by
   obtain⟨o,n,s,hc⟩:=zqb hb;exact(q4 b).2 (.inr (.inr ⟨_,_,_,_,hc⟩))
  have g40:∀b,b ≠ L→b ≠ A→((m38.set A (.cells 1 [.sl m36.nxt 0 (d.length+1) 1 none] false)).set L (mk .ready none)).g b=m38.g b:=fun b h1 h2=>by rw[M.g_set,if_neg h1,M.g_set,if_neg h2]
  have a40:((m38.set A (.cells 1 [.sl m36.nxt 0 (d.length+1) 1 none] false)).set L (mk .ready none)).g A=some (.cells 1 [.sl m36.nxt 0 (d.length+1) 1 none] false):=by rw[M.g_set,if_neg (by omega),M.g_set,if_pos rfl]
  have l40:((m38.set A (.cells 1 [.sl m36.nxt 0 (d.length+1) 1 none] false)).set L (mk .ready none)).g L=some (mk .ready none):=by rw[M.g_set,if_pos rfl]
  have n40:((m38.set A (.cells 1 [.sl m36.nxt 0 (d.length+1) 1 none] false)).set L (mk .ready none)).nxt=m36.nxt+1:=p3;have v40:((m38.set A (.cells 1 [.sl m36.nxt 0 (d.length+1) 1 none] false)).set L (mk .ready none)).vw=m.vw:=p4.trans (e46.vw.trans v24);generalize (m38.set A (.cells 1 [.sl m36.nxt 0 (d.length+1) 1 none] false)).set L (mk .ready none)=m40 at g40 a40 l40 n40 v40 ⊢
  have gg:∀b,b < m.nxt→¬ S b→m40.g b=m.g b:=fun b hb hS=>by
   rw[g40 b (fun h=>hS ((q4 b).2 (.inl h))) (fun h=>hS ((q4 b).2 (.inr (.inl h))))];exact g38 b hb (fun h=>hS ((q4 b).2 (.inl h))) fun h=>hS (hslS b h)
  have hold:∀b,b < n0→b ≠ A→b ≠ L→m40.g b=m.g b:=fun b hb h1 h2=>gg b (by omega) fun hS=>by
   rcases (q4 b).1 hS with h | h | h
   ·exact h2 h
   ·exact h1 h
   ·have:=q7 b h; omega
  refine hQ (fun b=>b=L∨b=A∨b=m36.nxt) m40 (fun b hb=>?_) ⟨by omega,gg,v40⟩ ⟨⟨.sl m36.nxt 0 (d.length+1) 1 none,xs++[x],?_,⟨a40,by have:=q2.lt; omega⟩,?_,fun b=>?_,?_,?_,fun b hb=>?_⟩,l40,by omega,⟨(hold qb hq hqA hqL).trans h4.g,by have:=h4.lt; omega⟩,⟨by have:=h5.nxt; omega,v40.trans h5.vw,fun b hb hd=>(hold b (by omega) (fun h=>by subst h; exact hd.elim (fun h=>h hfA.1) fun h=>h hfA.2) (by omega)).trans (h5.g b hb hd)⟩,h6.to (by omega) fun b hb=>hold b (hcp b hb).1 (hcp b hb).2.1 (hcp b hb).2.2⟩
  ·rcases hb with h | h | h
   ·exact .inl ((q4 b).2 (.inl h))
   ·exact .inl ((q4 b).2 (.inr (.inl h)))
   ·exact .inr (by omega)
  ·exact zuR hx q1
  ·have:zpW m38 1 (.sl m36.nxt 0 (d.length+1) 1 none) (zAL (xs++[x])) (d.length+1):=by
    unfold zAL at p2 ⊢;rw[List.map_append]; exact p2
   rw[List.length_append]
   exact this.to (by omega) fun b hb ⟨s,c,he⟩=>by
    cases he
    exact g40 _ (by omega) (by have:=q2.lt; omega)
  ·constructor
   ·rintro (h | h | h)
    ·exact .inl h
    ·exact .inr (.inl h)
    ·exact .inr (.inr ⟨_,_,_,_,by rw[h]⟩)
   ·rintro (h | h | ⟨o,n,s,c,h⟩)
    ·exact .inl h
    ·exact .inr (.inl h)
    ·cases h; exact .inr (.inr rfl)
  ·rintro⟨o,n,s,c,h⟩
   cases h
   have:=q2.lt
   omega
  ·rintro⟨o,n,s,c,h⟩
   cases h
   omega
  ·obtain⟨o,n,s,c,h⟩:=hb
   cases h
   omega
open Classical in
def tgB(A R:Nat)(cp:C):Nat→Nat:=fun b=>if b=A then 2 else if b=R then 3 else if cp=.map b then 1 else 4
theorem zAP{w:UWk}{q:Qn}{ca100 ca103 ca104 a200:C}{m f:M}{Q:V→M→Prop}{rz:Rg × Option (Clm→Option Int)}(hS:Pre f m)(ha100:Sl f ca100 w.c.Tariffs)(ha103:Sl f ca103 w.c.Fields)(ha104:Mc f m ca104 w.payments)(hF:zAK f a200 q.ask)(hp:zuN w q=some rz)
    (hq:∀m',zqB ca104 m m'→Mi m' ca104 rz.2→Q (.agg 2 [Il rz.1.Lo,Il rz.1.Hi]) m'):Wc prog tbl 68 [.agg 5 [ca100,Il w.c.Day,Il w.c.Fee,ca103,ca104],.agg 1 [a200]] m Q:=by
 obtain⟨r,hr,z⟩:=zqc (show(zuL w w.c.Fields w.payments).bind _=some rz from hp);obtain⟨hlen,D⟩:=zqd z;obtain⟨vs,hvs,t⟩:=zqc D;obtain⟨⟨hN,hne⟩,h4⟩:=zqd t;obtain⟨xs,hxs,h5⟩:=zqc h4;obtain rfl:=oi h5
 clear z D t h4 h5 hp
 have S0:=hS.stM ha104;obtain⟨τ0,M0⟩:∃τ,Mo (Fm.mp m ca104) f τ m 1 ca104 w.payments:=⟨_,ha104.mo 1⟩;refine w68 ?_;intro m0 e0;obtain⟨τ1,S1,k1,Lw⟩:=S0.blk e0 τ0 2;have M1:=M0.k k1;intro j e1;obtain⟨τ2,S2,k2,Lq⟩:=S1.blk e1 τ1 3;have Lw:=Lw.k k2;have M2:=M1.k k2;intro i e2;obtain⟨τ3,S3,k3,Lr⟩:=S2.blk e2 τ2 4;have Lw:=Lw.k k3;have Lq:=Lq.k k3;have M3:=M2.k k3;intro m3 e3;obtain⟨τ4,S4,F,La⟩:=S3.blk e3 τ3 5;have Lw:=Lw.k F;have Lq:=Lq.k F;have Lr:=Lr.k F;have M4:=M3.k F;refine⟨_,_,_,_,_,Lw.bk.ra,?_⟩;refine zv0 fun a Y=>⟨_,rfl,?_⟩;obtain⟨τ5,S5,G,Lx⟩:=S4.blk Y τ4 6;have Lq:=Lq.k G;have Lr:=Lr.k G;have La:=La.k G;have M5:=M4.k G;obtain⟨f1,e,I,Wf⟩:=Lx.freeze S5;have Lq:=Lq.k I;have Lr:=Lr.k I;have La:=La.k I;have M6:=M5.k I;intro mk hy;have eL:a.new (mk .ready none)=a.new (mk .ready none):=rfl;obtain⟨x,J⟩:=e.new eL τ5 7;have Lq:=Lq.k J;have Lr:=Lr.k J;have La:=La.k J;have O:=M6.k J
 have rL:(a.new (mk .ready none)).g a.nxt=some (mk .ready none):=by rw[M.g_new,if_pos rfl]
 have nL:(a.new (mk .ready none)).nxt=a.nxt+1:=rfl
 have q0:m0.nxt=m.nxt+1:=by rw[e0]; rfl
 have q1:j.nxt=m.nxt+2:=by rw[e1]; show m0.nxt+1=_; omega
 have q2:i.nxt=m.nxt+3:=by rw[e2]; show j.nxt+1=_; omega
 have q3:m3.nxt=m.nxt+4:=by rw[e3]; show i.nxt+1=_; omega
 have bb:a.nxt=m.nxt+5:=by rw[Y]; show m3.nxt+1=_; omega
 generalize hmL:a.new (mk .ready none)=mL at *
 have hcp:∀b,ca104=.map b→b < m.nxt:=fun b hb=>(ha104.own b hb).2.2;have hfA:f1.g i.nxt=none∧f1.vw i.nxt=none:=⟨La.nf,x.v0 _ La.new⟩;have hcli:=zAO (n0:=a.nxt+1) (L:=a.nxt) (A:=i.nxt) (qb:=m0.nxt) (N:=vs.length) (f1:=f1) (a200:=a200) (cp:=ca104) (Mz:=r.2) (mk:=mk) (ask:=q.ask) hy rfl (by omega) (by omega) (by omega) (by omega) e.sub.nxt e.fz e.fv hfA (fun b hb=>by have:=hcp b hb; omega) (hF.sub e.fs) (by omega) (fun v j cb db h=>⟨_,_,_,_,_,_,rfl,h⟩)
 show Wc prog tbl 130 [.c (.fn (.yield a.nxt) [] []),.c (.ptr m3.nxt 0)] mL _
 refine zyX (w:=w) (S:=fun b=>b=a.nxt∨b=i.nxt) (rz:=r) (vs:=vs) hcli x.pre Wf (ha100.sub e.fs) (ha103.sub e.fs) (O.mc x) hr hlen hvs (Nat.le_refl _) (fun u hu=>zuS hxs u hu) (by omega) (fun m' e' mi'=>?_) (fun b hb=>by omega) (fun b hb=>?_) (fun b hb hc=>by have:=hcp b hc; omega) fun vs' S' m8 p hpv P ho hch hI=>?_
 ·-- before any verdict
  have hg:∀b,b < mL.nxt→m.nxt≤b→m'.g b=mL.g b:=fun b hb hm=>e'.g b hb fun hc=>by have:=hcp b hc; omega
  refine⟨⟨.sl0,[],rfl,⟨(hg _ (by omega) (by omega)).trans La.bk.g,by have:=e'.nxt; omega⟩,zpW.nil' _ _,fun b=>⟨fun h=>h.elim .inl fun h=>.inr (.inl h),fun h=>?_⟩,?_,?_,?_⟩,(hg _ (by omega) (by omega)).trans rL,by have:=e'.nxt; omega,⟨(hg _ (by omega) (by omega)).trans Lq.bk.g,by have:=e'.nxt; omega⟩,?_,mi'⟩
  ·rcases h with h | h | ⟨_,_,_,_,h⟩
   ·exact .inl h
   ·exact .inr h
   ·cases h
  ·rintro⟨_,_,_,_,h⟩; cases h
  ·rintro⟨_,_,_,_,h⟩; cases h
  ·rintro b ⟨_,_,_,_,h⟩; cases h
  ·exact zqa x.sub e'.nxt e'.vw (X:=fun b=>ca104=.map b) (fun b hb=>⟨(O.own b hb).2.1,x.v0 b (O.own b hb).1⟩) e'.g
 ·rcases hb with rfl | rfl
  ·exact⟨e.fz _ e.sub.nxt,e.fv _ e.sub.nxt⟩
  ·exact hfA
 ·-- behind the loop
  obtain⟨⟨ca,ys,T,u2,u3,u4,u5,u6,u7⟩,i2,i3,i4,i5,i6⟩:=hI;refine⟨_,_,i2,(fun h=>by cases h),?_⟩
  show zop.nrm _ (p.del a.nxt)
  have hd:∀b,b ≠ a.nxt→(p.del a.nxt).g b=p.g b:=fun b hb=>by rw[M.g_del,if_neg hb]
  have nd:(p.del a.nxt).nxt=p.nxt:=rfl;have vd:(p.del a.nxt).vw=p.vw:=rfl;generalize p.del a.nxt=l at hd nd vd ⊢;have hnx:mL.nxt≤p.nxt:=Nat.le_trans P.nxt hch.nxt;have hvw:p.vw=mL.vw:=hch.vw.trans P.vw
  have Z:∀b,b < mL.nxt→b ≠ a.nxt→b ≠ i.nxt→ca104 ≠ .map b→l.g b=mL.g b:=fun b hb z D t=>by
   rw[hd b z,hch.g b (Nat.lt_of_lt_of_le hb P.nxt) fun h=>h.elim z D];exact P.g b hb t
  have hextm:∀b,b < m.nxt→ca104 ≠ .map b→l.g b=m.g b:=fun b hb t=>(Z b (by omega) (by omega) (by omega) t).trans (x.ext.g b hb t);have S8:St (Fm.mp m ca104) f f1 l:=⟨⟨by show m.nxt≤_; omega,hextm,(vd.trans hvw).trans x.ext.vw⟩,⟨by have:=i5.nxt; omega,vd.trans i5.vw,fun b hb hdd=>(hd b (by have:=e.sub.nxt; omega)).trans (i5.g b hb hdd)⟩,e.fz,e.fv,e.v0,e.fs,e.old⟩
  have hAr:i.nxt ≠ j.nxt:=by omega
  have tA:tgB i.nxt j.nxt ca104 i.nxt=2:=by unfold tgB; rw[if_pos rfl]
  have tR:tgB i.nxt j.nxt ca104 j.nxt=3:=by unfold tgB; rw[if_neg (by omega),if_pos rfl]
  have LA:Lb (Fm.mp m ca104) f1 (tgB i.nxt j.nxt ca104) l 2 i.nxt 1 [ca]:=⟨⟨(hd _ (by omega)).trans u2.g,by have:=u2.lt; omega⟩,La.new,La.nf,tA⟩;have LR:Lb (Fm.mp m ca104) f1 (tgB i.nxt j.nxt ca104) l 3 j.nxt 2 [Il 0,Il 0]:=⟨⟨(Z _ (by omega) (by omega) (by omega) (fun hc=>by have:=hcp _ hc; omega)).trans Lr.bk.g,by omega⟩,Lr.new,Lr.nf,tR⟩;have MM:Mo (Fm.mp m ca104) f1 (tgB i.nxt j.nxt ca104) l 1 ca104 r.2:=⟨i6.to (by omega) fun b hb=>hd b (by have:=hcp b hb; omega),fun b hb=>⟨.inr hb,(O.own b hb).2.1,by have:=hcp b hb; unfold tgB; rw[if_neg (by omega),if_neg (by omega),if_pos hb],by have:=hcp b hb; omega⟩⟩
  have OO:Ow (α:=Int) (Fm.mp m ca104) f1 (tgB i.nxt j.nxt ca104) l 4 ca ys:=by
   refine⟨⟨zAL ys,?_,?_⟩,fun b o n s d he=>?_⟩
   ·rw[zuT T];exact u3.to (by omega) fun b hb ⟨s,c,he⟩=>hd b fun h=>u6 ⟨_,_,_,_,h ▸ he⟩
   ·clear T u3
    induction ys with
    | nil=>exact rfl
    | cons y ys ih=>exact⟨[Il y],zAL ys,rfl,rfl,ih⟩
   ·have hb:=u7 b ⟨_,_,_,_,he⟩;refine⟨.inl (by show m.nxt≤b; omega),e.fz b (by have:=e.sub.nxt; omega),?_⟩;unfold tgB;rw[if_neg (by omega),if_neg (by omega),if_neg (fun hc=>by have:=hcp b hc; omega)]
  have hyl:ys.length=vs.length:=by rw[zuT T,hpv.length_eq]
  have hyp:ys.Perm xs:=by
   obtain⟨zs,z1,z2⟩:=zuQ hpv.symm hxs;rw[T] at z1
   cases z1
   exact z2
  have hyn:ys ≠ []:=fun h=>hne (List.eq_nil_of_length_eq_zero (by rw[← hyl,h]; rfl));refine⟨_,LA.bk.rc rfl,?_⟩;obtain⟨f2,S9,k9,Sa⟩:=OO.freeze S8;have LA:=LA.k k9;have LR:=LR.k k9;have MM:=MM.k k9;refine zw4 S9.pre Sa (zAG hyn (by omega)) fun eb ta=>⟨_,rfl,?_⟩;obtain⟨aa,B⟩:=S9.call ta (tgB i.nxt j.nxt ca104);have ua:=LA.k B;have LR:=LR.k B;have MM:=MM.k B;refine⟨_,ua.bk.rc rfl,?_,?_⟩
  ·rw[zoL Sa.noFn]; exact LA.bk.rc rfl
  refine zw5 aa.pre Sa (zAH hyn (by omega)) fun fb va=>⟨_,rfl,?_⟩;obtain⟨wa,ba⟩:=aa.call va (tgB i.nxt j.nxt ca104);have LR:=LR.k ba;have MM:=MM.k ba;obtain⟨xa,ya,za,Aa,LR⟩:=LR.sto wa [(Il (zrf ys)),(Il (zrg ys))];have MM:=MM.k Aa;refine⟨xa,ya,_,_,LR.bk.ra,?_⟩;rw[zAI hyp hyn,zAJ hyp hyn];exact hq _ za.extB MM.mi
end
end Go.Proofs.YteojndcmgpiklaaGreat

namespace Go.Proofs.YteojndcmgpiklaaGreat
open _root_.Go.Proofs.Tryz
open Go.Abs
set_option maxRecDepth 100000
noncomputable section
theorem zAQ{c:Cse}{ca100 ca103:C}{m f:M}{Q:V→M→Prop}{rz:Rg × Int}(hS:Pre f m)(ha100:Sl f ca100 c.Tariffs)(ha103:Sl f ca103 c.Fields)(hp:zuU c=some rz)(hq:∀m',Ext m m'→Q (.tup [.agg 2 [Il rz.1.Lo,Il rz.1.Hi],.c (Il rz.2)]) m'):Wc prog tbl 33 [.agg 4 [ca100,Il c.Day,Il c.Fee,ca103]] m Q:=by
 have S0:=hS.st;obtain⟨τ0,_⟩:=zrB;refine w33 ?_;unfold zuU at hp;intro m0 p;obtain⟨s,t,Aa,u⟩:=S0.blk p τ0 1;intro m1 x;obtain⟨y,e,z,A⟩:=t.blk x s 2;have B:=u.k z;refine⟨_,_,_,_,B.bk.ra,?_⟩;obtain⟨d,D,hp⟩:=zqc hp;refine zyd (c:=c) e.pre ha100 ha103 D fun m7 F zu9 G I J N O P=>?_;obtain⟨S,T,Y,Z⟩:=e.callN J P y 3;have aa:=A.k Y;refine⟨_,_,_,_,_,_,rfl,?_⟩;intro Fa ba;obtain⟨Ba,ca,g,da⟩:=T.blk ba S 4;have ea:=aa.k g;have fa:=Z.k g;obtain⟨ga,ha,a,h,ia⟩:=da.sto ca [zu9,Il d.1.c.Day,Il d.1.c.Fee,G,I];have i:=ea.k h;have j:=fa.k h;refine⟨ga,ha,?_⟩;refine zqR hp (fun ja hp=>?_) fun ja hp=>?_
 ·obtain⟨ka,la,ma,Ca,na⟩:=i.sto a [Il 0,Il 0];refine⟨ka,la,?_⟩;refine⟨_,_,na.bk.ra,?_⟩;obtain rfl:=oi hp;exact hq _ ma.ext'
 refine⟨_,_,_,_,_,ia.bk.ra,?_⟩
 have n:zAK F ((C.fn (Fn.func 69) [] [])) (fun b=>zt4 b):=by
  intro f' m' b r Q hs hpre  hg hq;exact zyh hpre  hg hq
 obtain⟨l,oa,hp⟩:=zqc hp;refine zAP (w:=d.1) (q:=({ ask:=(fun b=>zt4 b) }:Qn)) a.pre N O (j.mc a) n oa fun Ga pa o=>?_;obtain⟨qa,sa,Da⟩:=a.callM j pa o;have ta:=i.k sa;refine⟨_,_,rfl,?_⟩;obtain⟨ua,va,wa,Ea,xa⟩:=ta.sto qa [Il l.1.Lo,Il l.1.Hi];refine⟨ua,va,?_⟩;refine⟨_,_,xa.bk.ra,?_⟩;obtain rfl:=oi hp;exact hq _ wa.ext'
theorem zAR{c:Cse}{ca100 ca103:C}{m f:M}{Q:V→M→Prop}{rz:Rg × Rg × Int}(hS:Pre f m)(ha100:Sl f ca100 c.Tariffs)(ha103:Sl f ca103 c.Fields)(hp:zuV c=some rz)(hq:∀m',Ext m m'→Q (.tup [.agg 2 [Il rz.1.Lo,Il rz.1.Hi],.agg 2 [Il rz.2.1.Lo,Il rz.2.1.Hi],.c (Il rz.2.2)]) m'):Wc prog tbl 34 [.agg 4 [ca100,Il c.Day,Il c.Fee,ca103]] m Q:=by
 have S0:=hS.st;obtain⟨τ0,_⟩:=zrB;refine w34 ?_;unfold zuV at hp;intro m0 O;obtain⟨P,S,qb,T⟩:=S0.blk O τ0 1;intro m1 Y;obtain⟨Z,aa,ba,ca⟩:=S.blk Y P 2;have da:=T.k ba;intro m2 ea;obtain⟨fa,t,u,ga⟩:=aa.blk ea Z 3;have ha:=da.k u;have ia:=ca.k u;refine⟨_,_,_,_,ha.bk.ra,?_⟩;obtain⟨a,ja,hp⟩:=zqc hp;refine zyd (c:=c) t.pre ha100 ha103 ja fun m8 x ka la ma na g h oa=>?_;obtain⟨pa,qa,y,sa⟩:=t.callN na oa fa 4;have ta:=ia.k y;have ua:=ga.k y;refine⟨_,_,_,_,_,_,rfl,?_⟩;intro tb va;obtain⟨rb,wa,i,xa⟩:=qa.blk va pa 5;have ya:=ta.k i;have za:=ua.k i;have Aa:=sa.k i;obtain⟨Ba,Ca,b,j,l⟩:=xa.sto wa [ka,Il a.1.c.Day,Il a.1.c.Fee,la,ma];have z:=ya.k j;have A:=za.k j;have B:=Aa.k j;refine⟨Ba,Ca,?_⟩;refine zqR hp (fun Da hp=>?_) fun Da hp=>?_
 ·obtain⟨Ea,Fa,Ga,Ha,Ia⟩:=z.sto b [Il 0,Il 0];have Ja:=A.k Ha;refine⟨Ea,Fa,?_⟩;obtain⟨Ka,La,Ma,Na,Oa⟩:=Ja.sto Ga [Il 0,Il 0];have Pa:=Ia.k Na;refine⟨Ka,La,?_⟩;refine⟨_,_,Pa.bk.ra,_,_,Oa.bk.ra,?_⟩;obtain rfl:=oi hp;exact hq _ Ma.ext'
 refine⟨_,_,_,_,_,l.bk.ra,?_⟩
 have G:zAK x ((C.fn (Fn.func 70) [] [])) (fun d=>zt5 d):=by
  intro f' m' d r Q hs hpre  hg hq;exact zyi hpre  hg hq
 obtain⟨n,Qa,hp⟩:=zqc hp;refine zAP (w:=a.1) (q:=({ ask:=(fun d=>zt5 d) }:Qn)) b.pre g h (B.mc b) G Qa fun ub Ra I=>?_;obtain⟨o,p,s⟩:=b.callM B Ra I;have Sa:=z.k p;have Ta:=A.k p;have Ua:=l.k p;refine⟨_,_,rfl,_,_,_,_,_,Ua.bk.ra,(by rw[show zaL cmC _=true from zoM (zqh g.noFn (zqh rfl (zqh rfl (zqh h.noFn (zqh s.mi.noFn zqi)))))]; exact(l.bk.ra)),?_⟩
 have J:zAK x ((C.fn (Fn.func 71) [] [])) (fun e=>zt6 e):=by
  intro f' m' e r Q hs hpre  hg hq;exact zyj hpre  hg hq
 obtain⟨D,Va,hp⟩:=zqc hp;refine zAP (w:=({ c:=a.1.c,payments:=n.2 }:UWk)) (q:=({ ask:=(fun e=>zt6 e) }:Qn)) o.pre g h (s.mc o) J Va fun vb Wa N=>?_;obtain⟨Xa,F,sb⟩:=o.callM s Wa N;have Ya:=Sa.k F;have Za:=Ta.k F;refine⟨_,_,rfl,?_⟩;obtain⟨ab,bb,cb,db,eb⟩:=Ya.sto Xa [Il n.1.Lo,Il n.1.Hi];have fb:=Za.k db;refine⟨ab,bb,?_⟩;obtain⟨gb,hb,ib,jb,kb⟩:=fb.sto cb [Il D.1.Lo,Il D.1.Hi];have mb:=eb.k jb;refine⟨gb,hb,?_⟩;refine⟨_,_,mb.bk.ra,_,_,kb.bk.ra,?_⟩;obtain rfl:=oi hp;exact hq _ ib.ext'
theorem zAS{c:Cse}{ca100 ca103:C}{m f:M}{Q:V→M→Prop}{rz:Rg × Int}(hS:Pre f m)(ha100:Sl f ca100 c.Tariffs)(ha103:Sl f ca103 c.Fields)(hp:zuW c=some rz)(hq:∀m',Ext m m'→Q (.tup [.agg 2 [Il rz.1.Lo,Il rz.1.Hi],.c (Il rz.2)]) m'):Wc prog tbl 35 [.agg 4 [ca100,Il c.Day,Il c.Fee,ca103]] m Q:=by
 have S0:=hS.st;obtain⟨τ0,_⟩:=zrB;refine w35 ?_;unfold zuW at hp;intro m0 F;obtain⟨G,I,Ma,J⟩:=S0.blk F τ0 1;intro m1 N;obtain⟨O,n,P,S⟩:=I.blk N G 2;have T:=J.k P;refine⟨_,_,_,_,T.bk.ra,?_⟩;obtain⟨a,Y,hp⟩:=zqc hp;refine zyd (c:=c) n.pre ha100 ha103 Y fun m7 o Z aa ba ca g h da=>?_;obtain⟨ea,fa,ga,ha⟩:=n.callN ca da O 3;have ia:=S.k ga;refine⟨_,_,_,_,_,_,rfl,?_⟩;intro Ra ja;obtain⟨Na,ka,p,la⟩:=fa.blk ja ea 4;have ma:=ia.k p;have na:=ha.k p;obtain⟨oa,pa,b,s,i⟩:=la.sto ka [Z,Il a.1.c.Day,Il a.1.c.Fee,aa,ba];have t:=ma.k s;have u:=na.k s;refine⟨oa,pa,?_⟩;refine zqR hp (fun qa hp=>?_) fun qa hp=>?_
 ·obtain⟨sa,ta,ua,Oa,va⟩:=t.sto b [Il 0,Il 0];refine⟨sa,ta,?_⟩;refine⟨_,_,va.bk.ra,?_⟩;obtain rfl:=oi hp;exact hq _ ua.ext'
 refine⟨_,_,_,_,_,i.bk.ra,?_⟩
 have z:zAK o ((C.fn (Fn.func 72) [] [])) (fun d=>zt7 d):=by
  intro f' m' d r Q hs hpre  hg hq;exact zyk hpre  hg hq
 obtain⟨x,wa,hp⟩:=zqc hp;refine zAP (w:=a.1) (q:=({ ask:=(fun d=>zt7 d) }:Qn)) b.pre g h (u.mc b) z wa fun Sa xa A=>?_;obtain⟨j,y,l⟩:=b.callM u xa A;have ya:=t.k y;have za:=i.k y;refine⟨_,_,rfl,_,_,_,_,_,za.bk.ra,(by rw[show zaL cmC _=true from zoM (zqh g.noFn (zqh rfl (zqh rfl (zqh h.noFn (zqh l.mi.noFn zqi)))))]; exact(i.bk.ra)),?_⟩
 have B:zAK o ((C.fn (Fn.func 73) [] [])) (fun e=>zt8 e):=by
  intro f' m' e r Q hs hpre  hg hq;exact zyl hpre  hg hq
 obtain⟨Aa,Ba,hp⟩:=zqc hp;refine zAP (w:=({ c:=a.1.c,payments:=x.2 }:UWk)) (q:=({ ask:=(fun e=>zt8 e) }:Qn)) j.pre g h (l.mc j) B Ba fun Ta Ca D=>?_;obtain⟨Da,Ea,Pa⟩:=j.callM l Ca D;have Fa:=ya.k Ea;refine⟨_,_,rfl,?_⟩;obtain⟨Ga,Ha,Ia,Qa,Ja⟩:=Fa.sto Da [Il x.1.Lo,Il Aa.1.Hi];refine⟨Ga,Ha,?_⟩;refine⟨_,_,Ja.bk.ra,?_⟩;obtain rfl:=oi hp;exact hq _ Ia.ext'
theorem zAT{m f:M}{Q:V→M→Prop}{rz:Bool}(hS:Pre f m)(hp:zuX=some rz)(hq:∀m',Ext m m'→Q (.c (.bool rz)) m'):Wc prog tbl 17 [] m Q:=by
 have S0:=hS.st;obtain⟨τ0,_⟩:=zrB;refine w17 ?_;unfold zuX at hp;obtain⟨Qa,Ra,hp⟩:=zqc hp;refine zyF S0.pre  Ra fun m1 Nf Of Pf Sa Ta Ua=>?_;obtain⟨ca,Qf⟩:=S0.callG Sa τ0;refine⟨_,_,_,_,rfl,?_⟩;obtain⟨Va,Wa,hp⟩:=zqc hp;refine zyG (first:=(40:Int)) (u:=(35:Int)) (second:=(17:Int)) ca.pre  Wa fun m7 Rf Sf Xa Ya=>?_;obtain⟨da,ea⟩:=ca.callG Xa τ0;refine⟨_,rfl,?_⟩;obtain⟨r,Za,hp⟩:=zqc hp;refine zyt (c:=Qa) (t:=Va) da.pre (Ta.sub ea.fs) (Ua.sub ea.fs) Ya Za fun Jg Uf ab bb fa=>?_;obtain⟨cb,Vf⟩:=da.callG bb τ0;refine⟨_,_,_,_,_,rfl,?_⟩;intro Kg db;obtain⟨d,eb,Wf,fb⟩:=cb.blk db τ0 1;obtain⟨gb,hb,ga,Xf,ib⟩:=fb.sto eb [ab,Il r.1.Award,Il r.1.Farmer,Il r.1.Society];refine⟨gb,hb,?_⟩;obtain⟨jb,kb,hp⟩:=zqc hp;refine zyF ga.pre  kb fun Lg Yf Zf ag mb ob pb=>?_;obtain⟨ha,ia⟩:=ga.callG mb d;have qb:=ib.k ia;refine⟨_,_,_,_,rfl,?_⟩;obtain⟨rb,sb,hp⟩:=zqc hp;refine zyu (c:=jb) (field:=(0:Int)) ha.pre ob pb sb fun Mg bg cg tb ub=>?_;obtain⟨ja,ka⟩:=ha.callG tb d;have vb:=qb.k ka;refine⟨_,_,rfl,?_⟩;obtain⟨wb,xb,hp⟩:=zqc hp;refine zyF ja.pre  xb fun Ng dg eg fg yb zb Ab=>?_;obtain⟨la,I⟩:=ja.callG yb d;have Bb:=vb.k I;refine⟨_,_,_,_,rfl,?_⟩;obtain⟨gg,Cb,hp⟩:=zqc hp;refine zyv (c:=wb) (field:=(1:Int)) la.pre zb Ab Cb fun Og Db=>?_;obtain⟨ma,Eb⟩:=la.call Db d;have Fb:=Bb.k Eb;refine⟨_,_,rfl,?_⟩;obtain⟨Gb,Hb,hp⟩:=zqc hp;refine zyF ma.pre  Hb fun Pg hg ig jg Ib Jb Kb=>?_;obtain⟨na,J⟩:=ma.callG Ib d;have Mb:=Fb.k J;refine⟨_,_,_,_,rfl,?_⟩;obtain⟨oa,Nb,hp⟩:=zqc hp
 refine zAQ (c:=Gb) na.pre Jb Kb Nb fun Qg Ob=>?_;obtain⟨Pb,Qb⟩:=na.call Ob d;have Rb:=Mb.k Qb;refine⟨_,_,_,rfl,?_⟩;intro Sg Sb;obtain⟨N,Tb,Ub,Vb⟩:=Pb.blk Sb d 2;have Wb:=Rb.k Ub;obtain⟨Xb,Yb,pa,Zb,ac⟩:=Vb.sto Tb [Il oa.1.Lo,Il oa.1.Hi];have bc:=Wb.k Zb;refine⟨Xb,Yb,?_⟩;obtain⟨cc,dc,hp⟩:=zqc hp;refine zyF pa.pre  dc fun Tg kg lg mg ec fc gc=>?_;obtain⟨qa,s⟩:=pa.callG ec N;have hc:=bc.k s;have ic:=ac.k s;refine⟨_,_,_,_,rfl,?_⟩;obtain⟨w,jc,hp⟩:=zqc hp;refine zAR (c:=cc) qa.pre fc gc jc fun Ug kc=>?_;obtain⟨lc,sa⟩:=qa.call kc N;have nc:=hc.k sa;have pc:=ic.k sa;refine⟨_,_,_,_,_,rfl,?_⟩;intro Vg qc;obtain⟨sc,tc,ta,uc⟩:=lc.blk qc N 3;have vc:=nc.k ta;have wc:=pc.k ta;intro Wg xc;obtain⟨O,yc,P,zc⟩:=tc.blk xc sc 4;have Ac:=vc.k P;have Bc:=wc.k P;have Cc:=uc.k P;obtain⟨Dc,Ec,Fc,S,Gc⟩:=Cc.sto yc [Il w.1.Lo,Il w.1.Hi];have Hc:=Ac.k S;have Ic:=Bc.k S;have Jc:=zc.k S;refine⟨Dc,Ec,?_⟩;obtain⟨Kc,Lc,ua,T,Nc⟩:=Jc.sto Fc [Il w.2.1.Lo,Il w.2.1.Hi];have Pc:=Hc.k T;have Qc:=Ic.k T;have Rc:=Gc.k T;refine⟨Kc,Lc,?_⟩;obtain⟨Tc,Uc,hp⟩:=zqc hp;refine zyF ua.pre  Uc fun Xg ng og pg Vc Xc Yc=>?_;obtain⟨va,i⟩:=ua.callG Vc O;have Zc:=Pc.k i;have ad:=Qc.k i;have bd:=Rc.k i;have cd:=Nc.k i;refine⟨_,_,_,_,rfl,?_⟩;obtain⟨wa,dd,hp⟩:=zqc hp;refine zAS (c:=Tc) va.pre Xc Yc dd fun Zg ed=>?_;obtain⟨fd,x⟩:=va.call ed O;have hd:=Zc.k x;have id:=ad.k x;have jd:=bd.k x;have kd:=cd.k x;refine⟨_,_,_,rfl,?_⟩;intro ah ld;obtain⟨Y,md,y,nd⟩:=fd.blk ld O 5;have od:=hd.k y;have pd:=id.k y;have qd:=jd.k y;have sd:=kd.k y
 obtain⟨td,ud,xa,z,vd⟩:=nd.sto md [Il wa.1.Lo,Il wa.1.Hi];have wd:=od.k z;have xd:=pd.k z;have yd:=qd.k z;have zd:=sd.k z;refine⟨td,ud,?_⟩;obtain⟨Ad,Bd,hp⟩:=zqc hp;refine zyF xa.pre  Bd fun bh qg rg sg Cd Dd Ed=>?_;obtain⟨ya,e⟩:=xa.callG Cd Y;have Fd:=wd.k e;have Gd:=xd.k e;have Hd:=yd.k e;have Id:=zd.k e;have Jd:=vd.k e;refine⟨_,_,_,_,rfl,?_⟩;obtain⟨Ld,Md,hp⟩:=zqc hp;refine zyw (c:=Ad) ya.pre Dd Ed Md fun Lf tg ug Nd Od=>?_;obtain⟨za,g⟩:=ya.callG Nd Y;have Aa:=Fd.k g;have Pd:=Gd.k g;have Qd:=Hd.k g;have Rd:=Id.k g;have Sd:=Jd.k g;refine⟨_,_,rfl,?_⟩;refine ifd hp (fun Td hp=>?_) fun Td hp=>?_; rotate_left
 ·obtain rfl:=oi hp;exact hq _ za.ext'
 refine⟨_,_,_,_,Aa.bk.ra,?_⟩;intro ch Ud;obtain⟨Ba,Vd,o,Xd⟩:=za.blk Ud Y 6;have Yd:=Aa.k o;have Zd:=Pd.k o;have ae:=Qd.k o;have be:=Rd.k o;have ce:=Sd.k o;refine⟨(by rw[show zaL cmC _=true from zoM (zqh fa.noFn (zqh rfl (zqh rfl (zqh rfl zqi))))]; exact(Yd.bk.ra)),?_⟩;obtain⟨Ca,Da,h,Na⟩:=Xd.freeze Vd;have de:=Zd.k h;have ee:=ae.k h;have fe:=be.k h;have ge:=ce.k h;have he:Sl Ca (C.sl Lf.nxt 0 2 0 (Option.some 2)) ([(35:Int),(18:Int)]:List Int):=Bk.sl (α:=Int) (l:=([(35:Int),(18:Int)]:List Int)) Na (show Cat (α:=Int) Ca [(Il (35:Int)),(Il (18:Int))] ([(35:Int),(18:Int)]:List Int) from ⟨[(Il (35:Int))],_,rfl,rfl,⟨[(Il (18:Int))],_,rfl,rfl,rfl⟩⟩) rfl rfl _;obtain⟨vg,ie,hp⟩:=zqc hp;refine zyD (a:=r.1) (b:=({ Counts:=([(35:Int),(18:Int)]:List Int),Award:=(386:Int),Farmer:=(16:Int),Society:=(15:Int) }:Res)) Da.pre (fa.sub (Sub.trans (Sub.trans (Sub.trans (Sub.trans (Sub.trans (Sub.trans (Sub.trans (Sub.trans ia.fs ka.fs) I.fs) J.fs) s.fs) i.fs) e.fs) g.fs) h.fs)) he ie fun Mf je=>?_;obtain⟨Z,A⟩:=Da.call je Ba;have ke:=de.k A;have me:=ee.k A;have oe:=fe.k A;have pe:=ge.k A;refine⟨_,rfl,?_⟩;refine zqS hp (fun qe hp=>?_) fun qe hp=>?_; rotate_left
 ·obtain rfl:=oi hp;exact hq _ Z.ext'
 refine ifd hp (fun re hp=>?_) fun re hp=>?_; rotate_left
 ·obtain rfl:=oi hp;exact hq _ Z.ext'
 intro dh se;obtain⟨p,te,B,ue⟩:=Z.blk se Ba 7;have ve:=ke.k B;have we:=me.k B;have xe:=oe.k B;have ye:=pe.k B;obtain⟨Ea,Fa,j,Oa⟩:=ue.freeze te;have ze:=ve.k j;have Ae:=we.k j;have Be:=xe.k j;have Ce:=ye.k j;have De:Sl Ea (C.sl Mf.nxt 0 4 0 (Option.some 4)) ([(33:Int),(34:Int),(35:Int),(36:Int)]:List Int):=Bk.sl (α:=Int) (l:=([(33:Int),(34:Int),(35:Int),(36:Int)]:List Int)) Oa (show Cat (α:=Int) Ea [(Il (33:Int)),(Il (34:Int)),(Il (35:Int)),(Il (36:Int))] ([(33:Int),(34:Int),(35:Int),(36:Int)]:List Int) from ⟨[(Il (33:Int))],_,rfl,rfl,⟨[(Il (34:Int))],_,rfl,rfl,⟨[(Il (35:Int))],_,rfl,rfl,⟨[(Il (36:Int))],_,rfl,rfl,rfl⟩⟩⟩⟩) rfl rfl _;obtain⟨wg,Ee,hp⟩:=zqc hp;refine zwG (a:=rb.1) (b:=([(33:Int),(34:Int),(35:Int),(36:Int)]:List Int)) Fa.pre (ub.sub (Sub.trans (Sub.trans (Sub.trans (Sub.trans (Sub.trans (Sub.trans (Sub.trans I.fs J.fs) s.fs) i.fs) e.fs) g.fs) h.fs) j.fs)) De Ee fun xg Fe=>?_;obtain⟨n,D⟩:=Fa.call Fe p;have Ga:=ze.k D;have Ge:=Ae.k D;have He:=Be.k D;have Ie:=Ce.k D;refine⟨_,rfl,?_⟩;refine zqS hp (fun Je hp=>?_) fun Je hp=>?_; rotate_left
 ·obtain rfl:=oi hp;exact hq _ n.ext'
 refine ifd hp (fun Ke hp=>?_) fun Ke hp=>?_; rotate_left
 ·obtain rfl:=oi hp;exact hq _ n.ext'
 refine ifd hp (fun Me hp=>?_) fun Me hp=>?_; rotate_left
 ·obtain rfl:=oi hp;exact hq _ n.ext'
 refine ifd hp (fun Ne hp=>?_) fun Ne hp=>?_; rotate_left
 ·obtain rfl:=oi hp;exact hq _ n.ext'
 refine⟨_,_,Ga.bk.ra,?_⟩;obtain⟨zg,Oe,hp⟩:=zqc hp;refine zyE (low:=(366:Int)) (high:=(398:Int)) n.pre  Oe fun Ag Pe=>?_;obtain⟨F,G⟩:=n.call Pe p;have Qe:=Ga.k G;have Ha:=Ge.k G;have Re:=He.k G;have Se:=Ie.k G;refine⟨_,_,rfl,(Qe.bk.ra),?_⟩;refine gdi hp fun Te hp=>?_;refine gdi hp fun Ue hp=>?_;refine gdi hp fun Ve hp=>?_;refine gdi hp fun We hp=>?_;refine zqS hp (fun Xe hp=>?_) fun Xe hp=>?_; rotate_left
 ·obtain rfl:=oi hp;exact hq _ F.ext'
 refine ifd hp (fun Ye hp=>?_) fun Ye hp=>?_; rotate_left
 ·obtain rfl:=oi hp;exact hq _ F.ext'
 refine⟨_,_,Ha.bk.ra,?_⟩;obtain⟨Bg,Ze,hp⟩:=zqc hp;refine zyE (low:=(0:Int)) (high:=(31:Int)) F.pre  Ze fun Cg af=>?_;obtain⟨q,aa⟩:=F.call af p;have Ia:=Ha.k aa;have bf:=Re.k aa;have Ja:=Se.k aa;refine⟨_,_,rfl,(Ia.bk.ra),?_⟩;refine gdi hp fun cf hp=>?_;refine gdi hp fun df hp=>?_;refine gdi hp fun ef hp=>?_;refine gdi hp fun gf hp=>?_;refine zqS hp (fun hf hp=>?_) fun hf hp=>?_; rotate_left
 ·obtain rfl:=oi hp;exact hq _ q.ext'
 refine⟨_,_,bf.bk.ra,_,_,Ia.bk.ra,?_⟩;refine gdi hp fun jf hp=>?_;refine gdi hp fun kf hp=>?_;refine gdi hp fun lf hp=>?_;refine gdi hp fun mf hp=>?_;refine zqS hp (fun nf hp=>?_) fun nf hp=>?_; rotate_left
 ·obtain rfl:=oi hp;exact hq _ q.ext'
 refine ifd hp (fun pf hp=>?_) fun pf hp=>?_; rotate_left
 ·obtain rfl:=oi hp;exact hq _ q.ext'
 refine⟨_,_,Ja.bk.ra,?_⟩;obtain⟨Dg,qf,hp⟩:=zqc hp;refine zyE (low:=(335:Int)) (high:=(429:Int)) q.pre  qf fun rf sf=>?_;obtain⟨ba,tf⟩:=q.call sf p;have uf:=Ja.k tf;refine⟨_,_,rfl,(uf.bk.ra),?_⟩;refine gdi hp fun vf hp=>?_;refine gdi hp fun wf hp=>?_;refine gdi hp fun xf hp=>?_;refine gdi hp fun yf hp=>?_;refine zqS hp (fun zf hp=>?_) fun zf hp=>?_; rotate_left
 ·obtain rfl:=oi hp;exact hq _ ba.ext'
 refine ifd hp (fun Af hp=>?_) fun Af hp=>?_; rotate_left
 ·obtain rfl:=oi hp;exact hq _ ba.ext'
 intro Eg Bf;obtain⟨Cf,Df,Fg,Ef⟩:=ba.blk Bf p 8;obtain⟨Ka,La,Ff,Pa⟩:=Ef.freeze Df;have Gf:Sl Ka (C.sl rf.nxt 0 1 0 (Option.some 1)) ([(0:Int)]:List Int):=Bk.sl (α:=Int) (l:=([(0:Int)]:List Int)) Pa (show Cat (α:=Int) Ka [Il 0] ([(0:Int)]:List Int) from ⟨[Il 0],_,rfl,rfl,rfl⟩) rfl rfl _;obtain⟨Gg,Hf,hp⟩:=zqc hp;refine zwG (a:=Ld.1) (b:=([(0:Int)]:List Int)) La.pre (Od.sub (Sub.trans (Sub.trans h.fs j.fs) Ff.fs)) Gf Hf fun Hg If=>?_;obtain⟨Jf,Ig⟩:=La.call If Cf;refine⟨_,rfl,?_⟩;obtain rfl:=oi hp;exact hq _ Jf.ext'
theorem zAU{F:Fm}{f m:M}{τ:Nat→Nat}{t:Nat}{x:C}{l:List Fld}(h:Ow F f τ m t x l){n:Nat}{a:Fld}(hi:l[n]? = some a):ldA m (zl2 x (n * 9)) 9=some [.int .i64 a.Crop,.int .i64 a.Value,.int .i64 a.Near,.int .i64 a.First.Lo,.int .i64 a.First.Hi,.int .i64 a.Second.Lo,.int .i64 a.Second.Hi,.int .i64 a.Umpire.Lo,.int .i64 a.Umpire.Hi]∧(∀j c,([.int .i64 a.Crop,.int .i64 a.Value,.int .i64 a.Near,.int .i64 a.First.Lo,.int .i64 a.First.Hi,.int .i64 a.Second.Lo,.int .i64 a.Second.Hi,.int .i64 a.Umpire.Lo,.int .i64 a.Umpire.Hi]:List C)[j]? = some c→ldC m (zl1 (zl2 x (n * 9)) j)=some c)∧∀j i,0 < i→j+i≤9→ldA m (zl1 (zl2 x (n * 9)) j) i=some ((([.int .i64 a.Crop,.int .i64 a.Value,.int .i64 a.Near,.int .i64 a.First.Lo,.int .i64 a.First.Hi,.int .i64 a.Second.Lo,.int .i64 a.Second.Hi,.int .i64 a.Umpire.Lo,.int .i64 a.Umpire.Hi]:List C).drop j).take i):=by
 obtain⟨cs,q1,q2⟩:=h.rdP hi;have q2:cs=_:=q2;subst q2;exact q1
theorem zAV{c:Cse}{ca100 ca103:C}{m f:M}{Q:V→M→Prop}{rz:zuY}(hS:Pre f m)(ha100:Sl f ca100 c.Tariffs)(ha103:Sl f ca103 c.Fields)(hp:zuZ c=some rz)(hq:∀m' f' c0 c3,Grw m f m' f'→Sl f' c0 rz.Tariffs→On m f' m' c3 rz.Fields→Q (.agg 4 [c0,Il rz.Day,Il rz.Fee,c3]) m'):Wc prog tbl 52 [.agg 4 [ca100,Il c.Day,Il c.Fee,ca103]] m Q:=by
 have S0:=hS.st;obtain⟨τ0,_⟩:=zrB;refine w52 ?_;unfold zuZ at hp;intro m0 n;obtain⟨o,p,ua,q⟩:=S0.blk n τ0 1;intro m1 r;obtain⟨s,t,u,w⟩:=p.blk r o 2;have g:=q.k u;refine⟨_,_,_,_,g.bk.ra,?_⟩;intro m6 x;obtain⟨y,z,h,A⟩:=t.blk x s 3;have B:=g.k h;have D:=w.k h;obtain⟨F,G,I,i,J⟩:=A.sto z [ca100,Il c.Day,Il c.Fee,ca103];have N:=B.k i;have O:=D.k i;refine⟨F,G,?_⟩;intro m8 P;obtain⟨va,S,d,T⟩:=I.blk P y 4;have Y:=N.k d;have Z:=O.k d;have aa:=J.k d;refine⟨trivial,_,Y.bk.rc rfl,?_⟩;have ba:=Lb.ow0 (α:=Fld) T;obtain⟨ca,hp⟩:=zqd hp;obtain⟨a,da,wa,ea,fa,j,b⟩:=ba.appL zwu S ha103 ca;have ga:=Z.k j;have ha:=aa.k j;refine⟨a,da,ea,?_⟩;refine⟨trivial,?_⟩;obtain⟨ia,ja,ka,l,e⟩:=ha.sto1 fa 3 a (by simp) rfl
 replace e:Lb _ _ _ _ _ _ _ [ca100,Il c.Day,Il c.Fee,a]:=e
 have la:=ga.k l;have b:=b.k l;refine⟨ia,ja,?_⟩;refine⟨_,_,_,_,e.bk.ra,?_⟩;obtain⟨ma,na,oa,pa,qa⟩:=la.sto ka [ca100,Il c.Day,Il c.Fee,a];have b:=b.k pa;refine⟨ma,na,?_⟩;refine⟨_,_,_,_,qa.bk.ra,?_⟩;obtain rfl:=oi hp;exact hq _ f ca100 a oa.grw ha100 b.on
set_option maxHeartbeats 4000000 in
theorem zAW{c:Cse}{which:Int}{by_:Int}{ca100 ca103:C}{m f:M}{Q:V→M→Prop}{rz:Bool}(hS:Pre f m)(ha100:Sl f ca100 c.Tariffs)(ha103:Sl f ca103 c.Fields)(hp:zu1 c which by_=some rz)(hq:∀m',Ext m m'→Q (.c (.bool rz)) m'):Wc prog tbl 14 [.agg 4 [ca100,Il c.Day,Il c.Fee,ca103],.c (.int .u8 which),.c (.int .u8 by_)] m Q:=by
 have S0:=hS.st;obtain⟨τ0,_⟩:=zrB;refine w14 ?_;unfold zu1 at hp;intro m0 ic;obtain⟨Fa,mb,hl,ob⟩:=S0.blk ic τ0 1;refine⟨_,_,_,_,ob.bk.ra,?_⟩;obtain⟨il,jc,hp⟩:=zqc hp;refine zyH (c:=c) mb.pre ha100 ha103 jc fun m6 kc=>?_;obtain⟨ga,lc⟩:=mb.call kc Fa;have Ga:=ob.k lc;refine⟨_,rfl,?_⟩;refine zqT hp (fun nc hp=>?_) fun nc hp=>?_
 ·obtain⟨jl,pc,hp⟩:=zqc hp;refine zAT ga.pre  pc fun m9 qc=>?_;obtain⟨sc,kl⟩:=ga.call qc Fa;refine⟨_,rfl,?_⟩;obtain rfl:=oi hp;exact hq _ sc.ext'
 refine⟨trivial,_,Ga.bk.rc rfl,ha103.isSl,?_⟩
 try rw[ha103.slLen]
 refine ifd hp (fun tc hp=>?_) fun tc hp=>?_
 ·obtain⟨ll,uc,hp⟩:=zqc hp;refine zAT ga.pre  uc fun om vc=>?_;obtain⟨wc,ml⟩:=ga.call vc Fa;refine⟨_,rfl,?_⟩;obtain rfl:=oi hp;exact hq _ wc.ext'
 refine⟨trivial,_,Ga.bk.rc rfl,ha103.isSl,?_⟩;refine gdi hp fun xc hp=>?_;obtain⟨pb,hp⟩:=zqd hp;refine⟨(by first|exact pb|(rw[ha103.slLen];exact pb)),?_⟩;obtain⟨qb,hp⟩:=zqd hp;refine⟨(by first|exact qb|(rw[ha103.slLen];exact qb)),_,_,_,_,Ga.bk.ra,?_⟩;obtain⟨b,yc,hp⟩:=zqc hp;refine zAV (c:=c) ga.pre ha100 ha103 yc fun Zk nl rb sb zc ta Ac=>?_;obtain⟨Bc,Cc,N,d⟩:=ga.callO zc Ac Fa 2;have Dc:=Ga.k N;refine⟨_,_,_,_,rfl,?_⟩;intro pm Ec;obtain⟨ua,Fc,tb,Gc⟩:=Cc.blk Ec Bc 3;have Hc:=Dc.k tb;have d:=d.k tb;obtain⟨Ic,Jc,Kc,ub,vb⟩:=Gc.sto Fc [rb,Il b.Day,Il b.Fee,sb];have Lc:=Hc.k ub;have d:=d.k ub;refine⟨Ic,Jc,?_⟩;refine⟨trivial,_,vb.bk.rc rfl,?_⟩;obtain⟨a,e,hp⟩:=zqc hp;obtain⟨sa,va,Ya,e⟩:=zp6 e;refine⟨sa,(by first|exact va|(rw[ha103.slLen];exact va)),(by first|exact Ya|(rw[d.slLen];exact Ya)),(d.okNil e _),(d.isPt e _),(d.isPt' e _ _),_,(by rw[d.add2 e]; exact(zAU d e).2.1 3 _ rfl),?_⟩;refine gdi hp fun Nc hp=>?_;refine gdi hp fun Pc hp=>?_;refine gdi hp fun Qc hp=>?_;obtain⟨Rc,hp⟩:=zqd hp;refine⟨Rc,(d.okNil e _),(d.isPt e _),(d.isPt' e _ _),_,(by rw[d.add2 e]; exact(zAU d e).2.1 4 _ rfl),?_⟩;refine gdi hp fun Tc hp=>?_;refine gdi hp fun Uc hp=>?_;refine gdi hp fun Vc hp=>?_;refine gdi hp fun Xc hp=>?_;refine gdi hp fun Yc hp=>?_;refine gdi hp fun Zc hp=>?_;obtain⟨ad,hp⟩:=zqd hp;refine⟨ad,(d.okNil e _),(d.isPt e _),?_⟩;obtain⟨bd,cd,dd,wb,r⟩:=d.setP Kc (a':=({ Crop:=a.Crop,Value:=a.Value,Near:=a.Near,First:=({ Lo:=(max (0:Int) (a.First.Lo - ((zl4 .i64 by_) % (3:Int)))),Hi:=(min (100:Int) (a.First.Hi+(((zl4 .i64 by_) / (3:Int)) % (3:Int)))) }:Rg),Second:=a.Second,Umpire:=a.Umpire }:Fld)) e [Il a.Crop,Il a.Value,Il a.Near,Il a.First.Lo,Il a.First.Hi,Il a.Second.Lo,Il a.Second.Hi,Il a.Umpire.Lo,Il a.Umpire.Hi] (fun _ h=>h) 3 [(Il (max (0:Int) (a.First.Lo - ((zl4 .i64 by_) % (3:Int))))),(Il (min (100:Int) (a.First.Hi+(((zl4 .i64 by_) / (3:Int)) % (3:Int)))))] (Nat.le_of_ble_eq_true rfl) rfl
 have Za:Int.toNat ((zl4 .i64 which) % (c.Fields.length:Int))=sa:=by rw[va]; rfl
 rw[← Za] at r;have ab:=va;have i:(b.Fields.set (Int.toNat ((zl4 .i64 which) % (c.Fields.length:Int))) ({ Crop:=a.Crop,Value:=a.Value,Near:=a.Near,First:=({ Lo:=(max (0:Int) (a.First.Lo - ((zl4 .i64 by_) % (3:Int)))),Hi:=(min (100:Int) (a.First.Hi+(((zl4 .i64 by_) / (3:Int)) % (3:Int)))) }:Rg),Second:=a.Second,Umpire:=a.Umpire }:Fld))[sa]? = some ({ Crop:=a.Crop,Value:=a.Value,Near:=a.Near,First:=({ Lo:=(max (0:Int) (a.First.Lo - ((zl4 .i64 by_) % (3:Int)))),Hi:=(min (100:Int) (a.First.Hi+(((zl4 .i64 by_) / (3:Int)) % (3:Int)))) }:Rg),Second:=a.Second,Umpire:=a.Umpire }:Fld):=(congrArg (fun z=>(b.Fields.set z ({ Crop:=a.Crop,Value:=a.Value,Near:=a.Near,First:=({ Lo:=(max (0:Int) (a.First.Lo - ((zl4 .i64 by_) % (3:Int)))),Hi:=(min (100:Int) (a.First.Hi+(((zl4 .i64 by_) / (3:Int)) % (3:Int)))) }:Rg),Second:=a.Second,Umpire:=a.Umpire }:Fld))[sa]?) Za).trans (List.getElem?_set_self (List.getElem?_eq_some_iff.1 e).1);have al:=(List.getElem?_eq_some_iff.1 i).1;have ed:=Lc.k wb;have fd:=vb.k wb;refine⟨bd,cd,?_⟩;refine⟨(r.okNil i _),(r.isPt i _),(r.isPt' i _ _),_,(by rw[r.add2 i]; exact(zAU r i).2.1 5 _ rfl),?_⟩;refine gdi hp fun hd hp=>?_;refine gdi hp fun id hp=>?_;refine gdi hp fun jd hp=>?_;refine gdi hp fun kd hp=>?_;refine gdi hp fun ld hp=>?_;refine gdi hp fun md hp=>?_;obtain⟨nd,hp⟩:=zqd hp;refine⟨nd,(r.okNil i _),(r.isPt i _),(r.isPt' i _ _),_,(by rw[r.add2 i]; exact(zAU r i).2.1 6 _ rfl),?_⟩;refine gdi hp fun od hp=>?_;refine gdi hp fun pd hp=>?_;refine gdi hp fun qd hp=>?_
 refine gdi hp fun sd hp=>?_;refine gdi hp fun td hp=>?_;refine gdi hp fun ud hp=>?_;obtain⟨vd,hp⟩:=zqd hp;refine⟨vd,(r.okNil i _),(r.isPt i _),?_⟩;obtain⟨wd,xd,yd,xb,s⟩:=r.setP dd (a':=({ Crop:=a.Crop,Value:=a.Value,Near:=a.Near,First:=({ Lo:=(max (0:Int) (a.First.Lo - ((zl4 .i64 by_) % (3:Int)))),Hi:=(min (100:Int) (a.First.Hi+(((zl4 .i64 by_) / (3:Int)) % (3:Int)))) }:Rg),Second:=({ Lo:=(max (0:Int) (a.Second.Lo - (((zl4 .i64 by_) / (9:Int)) % (3:Int)))),Hi:=(min (100:Int) (a.Second.Hi+(((zl4 .i64 by_) / (27:Int)) % (3:Int)))) }:Rg),Umpire:=a.Umpire }:Fld)) i [Il a.Crop,Il a.Value,Il a.Near,(Il (max (0:Int) (a.First.Lo - ((zl4 .i64 by_) % (3:Int))))),(Il (min (100:Int) (a.First.Hi+(((zl4 .i64 by_) / (3:Int)) % (3:Int))))),Il a.Second.Lo,Il a.Second.Hi,Il a.Umpire.Lo,Il a.Umpire.Hi] (fun _ h=>h) 5 [(Il (max (0:Int) (a.Second.Lo - (((zl4 .i64 by_) / (9:Int)) % (3:Int))))),(Il (min (100:Int) (a.Second.Hi+(((zl4 .i64 by_) / (27:Int)) % (3:Int)))))] (Nat.le_of_ble_eq_true rfl) rfl
 have bb:Int.toNat ((zl4 .i64 which) % (c.Fields.length:Int))=sa:=by rw[ab]; rfl
 rw[← bb] at s;have cb:=ab;have j:((b.Fields.set (Int.toNat ((zl4 .i64 which) % (c.Fields.length:Int))) ({ Crop:=a.Crop,Value:=a.Value,Near:=a.Near,First:=({ Lo:=(max (0:Int) (a.First.Lo - ((zl4 .i64 by_) % (3:Int)))),Hi:=(min (100:Int) (a.First.Hi+(((zl4 .i64 by_) / (3:Int)) % (3:Int)))) }:Rg),Second:=a.Second,Umpire:=a.Umpire }:Fld)).set (Int.toNat ((zl4 .i64 which) % (c.Fields.length:Int))) ({ Crop:=a.Crop,Value:=a.Value,Near:=a.Near,First:=({ Lo:=(max (0:Int) (a.First.Lo - ((zl4 .i64 by_) % (3:Int)))),Hi:=(min (100:Int) (a.First.Hi+(((zl4 .i64 by_) / (3:Int)) % (3:Int)))) }:Rg),Second:=({ Lo:=(max (0:Int) (a.Second.Lo - (((zl4 .i64 by_) / (9:Int)) % (3:Int)))),Hi:=(min (100:Int) (a.Second.Hi+(((zl4 .i64 by_) / (27:Int)) % (3:Int)))) }:Rg),Umpire:=a.Umpire }:Fld))[sa]? = some ({ Crop:=a.Crop,Value:=a.Value,Near:=a.Near,First:=({ Lo:=(max (0:Int) (a.First.Lo - ((zl4 .i64 by_) % (3:Int)))),Hi:=(min (100:Int) (a.First.Hi+(((zl4 .i64 by_) / (3:Int)) % (3:Int)))) }:Rg),Second:=({ Lo:=(max (0:Int) (a.Second.Lo - (((zl4 .i64 by_) / (9:Int)) % (3:Int)))),Hi:=(min (100:Int) (a.Second.Hi+(((zl4 .i64 by_) / (27:Int)) % (3:Int)))) }:Rg),Umpire:=a.Umpire }:Fld):=(congrArg (fun z=>((b.Fields.set (Int.toNat ((zl4 .i64 which) % (c.Fields.length:Int))) ({ Crop:=a.Crop,Value:=a.Value,Near:=a.Near,First:=({ Lo:=(max (0:Int) (a.First.Lo - ((zl4 .i64 by_) % (3:Int)))),Hi:=(min (100:Int) (a.First.Hi+(((zl4 .i64 by_) / (3:Int)) % (3:Int)))) }:Rg),Second:=a.Second,Umpire:=a.Umpire }:Fld)).set z ({ Crop:=a.Crop,Value:=a.Value,Near:=a.Near,First:=({ Lo:=(max (0:Int) (a.First.Lo - ((zl4 .i64 by_) % (3:Int)))),Hi:=(min (100:Int) (a.First.Hi+(((zl4 .i64 by_) / (3:Int)) % (3:Int)))) }:Rg),Second:=({ Lo:=(max (0:Int) (a.Second.Lo - (((zl4 .i64 by_) / (9:Int)) % (3:Int)))),Hi:=(min (100:Int) (a.Second.Hi+(((zl4 .i64 by_) / (27:Int)) % (3:Int)))) }:Rg),Umpire:=a.Umpire }:Fld))[sa]?) bb).trans (List.getElem?_set_self (List.getElem?_eq_some_iff.1 i).1)
 have bl:=(List.getElem?_eq_some_iff.1 j).1;have zd:=ed.k xb;have Ad:=fd.k xb;refine⟨wd,xd,?_⟩;refine⟨(s.okNil j _),(s.isPt j _),(s.isPt' j _ _),_,(by rw[s.add2 j]; exact(zAU s j).2.1 7 _ rfl),?_⟩;refine gdi hp fun Bd hp=>?_;refine gdi hp fun Cd hp=>?_;refine gdi hp fun Dd hp=>?_;obtain⟨Ed,hp⟩:=zqd hp;refine⟨Ed,(s.okNil j _),(s.isPt j _),(s.isPt' j _ _),_,(by rw[s.add2 j]; exact(zAU s j).2.1 8 _ rfl),?_⟩;refine gdi hp fun Fd hp=>?_;refine gdi hp fun Gd hp=>?_;refine gdi hp fun Hd hp=>?_;refine gdi hp fun Id hp=>?_;refine gdi hp fun Jd hp=>?_;refine gdi hp fun Ld hp=>?_;obtain⟨Md,hp⟩:=zqd hp;refine⟨Md,(s.okNil j _),(s.isPt j _),?_⟩;obtain⟨Nd,Od,Pd,yb,zb⟩:=s.setP yd (a':=({ Crop:=a.Crop,Value:=a.Value,Near:=a.Near,First:=({ Lo:=(max (0:Int) (a.First.Lo - ((zl4 .i64 by_) % (3:Int)))),Hi:=(min (100:Int) (a.First.Hi+(((zl4 .i64 by_) / (3:Int)) % (3:Int)))) }:Rg),Second:=({ Lo:=(max (0:Int) (a.Second.Lo - (((zl4 .i64 by_) / (9:Int)) % (3:Int)))),Hi:=(min (100:Int) (a.Second.Hi+(((zl4 .i64 by_) / (27:Int)) % (3:Int)))) }:Rg),Umpire:=({ Lo:=(max (0:Int) (a.Umpire.Lo - ((zl4 .i64 by_) / (81:Int)))),Hi:=(min (100:Int) (a.Umpire.Hi+(((zl4 .i64 by_) % (5:Int)) / (3:Int)))) }:Rg) }:Fld)) j [Il a.Crop,Il a.Value,Il a.Near,(Il (max (0:Int) (a.First.Lo - ((zl4 .i64 by_) % (3:Int))))),(Il (min (100:Int) (a.First.Hi+(((zl4 .i64 by_) / (3:Int)) % (3:Int))))),(Il (max (0:Int) (a.Second.Lo - (((zl4 .i64 by_) / (9:Int)) % (3:Int))))),(Il (min (100:Int) (a.Second.Hi+(((zl4 .i64 by_) / (27:Int)) % (3:Int))))),Il a.Umpire.Lo,Il a.Umpire.Hi] (fun _ h=>h) 7 [(Il (max (0:Int) (a.Umpire.Lo - ((zl4 .i64 by_) / (81:Int))))),(Il (min (100:Int) (a.Umpire.Hi+(((zl4 .i64 by_) % (5:Int)) / (3:Int)))))] (Nat.le_of_ble_eq_true rfl) rfl
 have db:Int.toNat ((zl4 .i64 which) % (c.Fields.length:Int))=sa:=by rw[cb]; rfl
 rw[← db] at zb;have cl:=cb;have Qd:(((b.Fields.set (Int.toNat ((zl4 .i64 which) % (c.Fields.length:Int))) ({ Crop:=a.Crop,Value:=a.Value,Near:=a.Near,First:=({ Lo:=(max (0:Int) (a.First.Lo - ((zl4 .i64 by_) % (3:Int)))),Hi:=(min (100:Int) (a.First.Hi+(((zl4 .i64 by_) / (3:Int)) % (3:Int)))) }:Rg),Second:=a.Second,Umpire:=a.Umpire }:Fld)).set (Int.toNat ((zl4 .i64 which) % (c.Fields.length:Int))) ({ Crop:=a.Crop,Value:=a.Value,Near:=a.Near,First:=({ Lo:=(max (0:Int) (a.First.Lo - ((zl4 .i64 by_) % (3:Int)))),Hi:=(min (100:Int) (a.First.Hi+(((zl4 .i64 by_) / (3:Int)) % (3:Int)))) }:Rg),Second:=({ Lo:=(max (0:Int) (a.Second.Lo - (((zl4 .i64 by_) / (9:Int)) % (3:Int)))),Hi:=(min (100:Int) (a.Second.Hi+(((zl4 .i64 by_) / (27:Int)) % (3:Int)))) }:Rg),Umpire:=a.Umpire }:Fld)).set (Int.toNat ((zl4 .i64 which) % (c.Fields.length:Int))) ({ Crop:=a.Crop,Value:=a.Value,Near:=a.Near,First:=({ Lo:=(max (0:Int) (a.First.Lo - ((zl4 .i64 by_) % (3:Int)))),Hi:=(min (100:Int) (a.First.Hi+(((zl4 .i64 by_) / (3:Int)) % (3:Int)))) }:Rg),Second:=({ Lo:=(max (0:Int) (a.Second.Lo - (((zl4 .i64 by_) / (9:Int)) % (3:Int)))),Hi:=(min (100:Int) (a.Second.Hi+(((zl4 .i64 by_) / (27:Int)) % (3:Int)))) }:Rg),Umpire:=({ Lo:=(max (0:Int) (a.Umpire.Lo - ((zl4 .i64 by_) / (81:Int)))),Hi:=(min (100:Int) (a.Umpire.Hi+(((zl4 .i64 by_) % (5:Int)) / (3:Int)))) }:Rg) }:Fld))[sa]? = some ({ Crop:=a.Crop,Value:=a.Value,Near:=a.Near,First:=({ Lo:=(max (0:Int) (a.First.Lo - ((zl4 .i64 by_) % (3:Int)))),Hi:=(min (100:Int) (a.First.Hi+(((zl4 .i64 by_) / (3:Int)) % (3:Int)))) }:Rg),Second:=({ Lo:=(max (0:Int) (a.Second.Lo - (((zl4 .i64 by_) / (9:Int)) % (3:Int)))),Hi:=(min (100:Int) (a.Second.Hi+(((zl4 .i64 by_) / (27:Int)) % (3:Int)))) }:Rg),Umpire:=({ Lo:=(max (0:Int) (a.Umpire.Lo - ((zl4 .i64 by_) / (81:Int)))),Hi:=(min (100:Int) (a.Umpire.Hi+(((zl4 .i64 by_) % (5:Int)) / (3:Int)))) }:Rg) }:Fld):=(congrArg (fun z=>(((b.Fields.set (Int.toNat ((zl4 .i64 which) % (c.Fields.length:Int))) ({ Crop:=a.Crop,Value:=a.Value,Near:=a.Near,First:=({ Lo:=(max (0:Int) (a.First.Lo - ((zl4 .i64 by_) % (3:Int)))),Hi:=(min (100:Int) (a.First.Hi+(((zl4 .i64 by_) / (3:Int)) % (3:Int)))) }:Rg),Second:=a.Second,Umpire:=a.Umpire }:Fld)).set (Int.toNat ((zl4 .i64 which) % (c.Fields.length:Int))) ({ Crop:=a.Crop,Value:=a.Value,Near:=a.Near,First:=({ Lo:=(max (0:Int) (a.First.Lo - ((zl4 .i64 by_) % (3:Int)))),Hi:=(min (100:Int) (a.First.Hi+(((zl4 .i64 by_) / (3:Int)) % (3:Int)))) }:Rg),Second:=({ Lo:=(max (0:Int) (a.Second.Lo - (((zl4 .i64 by_) / (9:Int)) % (3:Int)))),Hi:=(min (100:Int) (a.Second.Hi+(((zl4 .i64 by_) / (27:Int)) % (3:Int)))) }:Rg),Umpire:=a.Umpire }:Fld)).set z ({ Crop:=a.Crop,Value:=a.Value,Near:=a.Near,First:=({ Lo:=(max (0:Int) (a.First.Lo - ((zl4 .i64 by_) % (3:Int)))),Hi:=(min (100:Int) (a.First.Hi+(((zl4 .i64 by_) / (3:Int)) % (3:Int)))) }:Rg),Second:=({ Lo:=(max (0:Int) (a.Second.Lo - (((zl4 .i64 by_) / (9:Int)) % (3:Int)))),Hi:=(min (100:Int) (a.Second.Hi+(((zl4 .i64 by_) / (27:Int)) % (3:Int)))) }:Rg),Umpire:=({ Lo:=(max (0:Int) (a.Umpire.Lo - ((zl4 .i64 by_) / (81:Int)))),Hi:=(min (100:Int) (a.Umpire.Hi+(((zl4 .i64 by_) % (5:Int)) / (3:Int)))) }:Rg) }:Fld))[sa]?) db).trans (List.getElem?_set_self (List.getElem?_eq_some_iff.1 j).1)
 have dl:=(List.getElem?_eq_some_iff.1 Qd).1;have Rd:=zd.k yb;have Ab:=Ad.k yb;refine⟨Nd,Od,?_⟩;refine⟨_,_,_,_,Ab.bk.ra,?_⟩;obtain⟨ol,Bb,o,wa⟩:=zb.freeze Pd;have Sd:=Rd.k o;have Td:=Ab.k o;obtain⟨pl,Ud,hp⟩:=zqc hp;have eb:=@zyC ({ Tariffs:=b.Tariffs,Day:=b.Day,Fee:=b.Fee,Fields:=(((b.Fields.set (Int.toNat ((zl4 .i64 which) % (c.Fields.length:Int))) ({ Crop:=a.Crop,Value:=a.Value,Near:=a.Near,First:=({ Lo:=(max (0:Int) (a.First.Lo - ((zl4 .i64 by_) % (3:Int)))),Hi:=(min (100:Int) (a.First.Hi+(((zl4 .i64 by_) / (3:Int)) % (3:Int)))) }:Rg),Second:=a.Second,Umpire:=a.Umpire }:Fld)).set (Int.toNat ((zl4 .i64 which) % (c.Fields.length:Int))) ({ Crop:=a.Crop,Value:=a.Value,Near:=a.Near,First:=({ Lo:=(max (0:Int) (a.First.Lo - ((zl4 .i64 by_) % (3:Int)))),Hi:=(min (100:Int) (a.First.Hi+(((zl4 .i64 by_) / (3:Int)) % (3:Int)))) }:Rg),Second:=({ Lo:=(max (0:Int) (a.Second.Lo - (((zl4 .i64 by_) / (9:Int)) % (3:Int)))),Hi:=(min (100:Int) (a.Second.Hi+(((zl4 .i64 by_) / (27:Int)) % (3:Int)))) }:Rg),Umpire:=a.Umpire }:Fld)).set (Int.toNat ((zl4 .i64 which) % (c.Fields.length:Int))) ({ Crop:=a.Crop,Value:=a.Value,Near:=a.Near,First:=({ Lo:=(max (0:Int) (a.First.Lo - ((zl4 .i64 by_) % (3:Int)))),Hi:=(min (100:Int) (a.First.Hi+(((zl4 .i64 by_) / (3:Int)) % (3:Int)))) }:Rg),Second:=({ Lo:=(max (0:Int) (a.Second.Lo - (((zl4 .i64 by_) / (9:Int)) % (3:Int)))),Hi:=(min (100:Int) (a.Second.Hi+(((zl4 .i64 by_) / (27:Int)) % (3:Int)))) }:Rg),Umpire:=({ Lo:=(max (0:Int) (a.Umpire.Lo - ((zl4 .i64 by_) / (81:Int)))),Hi:=(min (100:Int) (a.Umpire.Hi+(((zl4 .i64 by_) % (5:Int)) / (3:Int)))) }:Rg) }:Fld)) }:Cse)
 dsimp only at eb
 refine eb Bb.pre (ta.sub o.fs) wa Ud fun qm Vd=>?_;obtain⟨Ha,Cb⟩:=Bb.call Vd ua;have Db:=Sd.k Cb;have Xd:=Td.k Cb;refine⟨_,rfl,?_⟩;refine zqR hp (fun Yd hp=>?_) fun Yd hp=>?_
 ·obtain⟨ql,Zd,hp⟩:=zqc hp;refine zAT Ha.pre  Zd fun rm ae=>?_;obtain⟨be,rl⟩:=Ha.call ae ua;refine⟨_,rfl,?_⟩;obtain rfl:=oi hp;exact hq _ be.ext'
 refine⟨_,_,_,_,Db.bk.ra,?_⟩;obtain⟨ce,de,hp⟩:=zqc hp;refine zyA (c:=c) Ha.pre (ha100.sub (Sub.trans N.fs o.fs)) (ha103.sub (Sub.trans N.fs o.fs)) de fun sm tl ul vl ee fe ge=>?_;obtain⟨Eb,g⟩:=Ha.callG ee ua;have he:=Db.k g;have ie:=Xd.k g;refine⟨_,_,_,_,rfl,?_⟩;obtain⟨xa,je,hp⟩:=zqc hp;refine zAQ (c:=ce) Eb.pre fe ge je fun el ke=>?_;obtain⟨me,Fb⟩:=Eb.call ke ua;have oe:=he.k Fb;have pe:=ie.k Fb;refine⟨_,_,_,rfl,?_⟩;intro tm qe;obtain⟨Oa,re,Gb,se⟩:=me.blk qe ua 4;have te:=oe.k Gb;have ue:=pe.k Gb;obtain⟨ve,we,Hb,Ib,xe⟩:=se.sto re [Il xa.1.Lo,Il xa.1.Hi];have ye:=te.k Ib;have Jb:=ue.k Ib;refine⟨ve,we,?_⟩;refine⟨_,_,_,_,Jb.bk.ra,?_⟩;obtain⟨ze,Ae,hp⟩:=zqc hp;have fb:=@zyA ({ Tariffs:=b.Tariffs,Day:=b.Day,Fee:=b.Fee,Fields:=(((b.Fields.set (Int.toNat ((zl4 .i64 which) % (c.Fields.length:Int))) ({ Crop:=a.Crop,Value:=a.Value,Near:=a.Near,First:=({ Lo:=(max (0:Int) (a.First.Lo - ((zl4 .i64 by_) % (3:Int)))),Hi:=(min (100:Int) (a.First.Hi+(((zl4 .i64 by_) / (3:Int)) % (3:Int)))) }:Rg),Second:=a.Second,Umpire:=a.Umpire }:Fld)).set (Int.toNat ((zl4 .i64 which) % (c.Fields.length:Int))) ({ Crop:=a.Crop,Value:=a.Value,Near:=a.Near,First:=({ Lo:=(max (0:Int) (a.First.Lo - ((zl4 .i64 by_) % (3:Int)))),Hi:=(min (100:Int) (a.First.Hi+(((zl4 .i64 by_) / (3:Int)) % (3:Int)))) }:Rg),Second:=({ Lo:=(max (0:Int) (a.Second.Lo - (((zl4 .i64 by_) / (9:Int)) % (3:Int)))),Hi:=(min (100:Int) (a.Second.Hi+(((zl4 .i64 by_) / (27:Int)) % (3:Int)))) }:Rg),Umpire:=a.Umpire }:Fld)).set (Int.toNat ((zl4 .i64 which) % (c.Fields.length:Int))) ({ Crop:=a.Crop,Value:=a.Value,Near:=a.Near,First:=({ Lo:=(max (0:Int) (a.First.Lo - ((zl4 .i64 by_) % (3:Int)))),Hi:=(min (100:Int) (a.First.Hi+(((zl4 .i64 by_) / (3:Int)) % (3:Int)))) }:Rg),Second:=({ Lo:=(max (0:Int) (a.Second.Lo - (((zl4 .i64 by_) / (9:Int)) % (3:Int)))),Hi:=(min (100:Int) (a.Second.Hi+(((zl4 .i64 by_) / (27:Int)) % (3:Int)))) }:Rg),Umpire:=({ Lo:=(max (0:Int) (a.Umpire.Lo - ((zl4 .i64 by_) / (81:Int)))),Hi:=(min (100:Int) (a.Umpire.Hi+(((zl4 .i64 by_) % (5:Int)) / (3:Int)))) }:Rg) }:Fld)) }:Cse)
 dsimp only at fb
 refine fb Hb.pre (ta.sub (Sub.trans o.fs g.fs)) (wa.sub g.fs) Ae fun um wl xl yl Be Ce De=>?_;obtain⟨Kb,p⟩:=Hb.callG Be Oa;have Ee:=ye.k p;have Fe:=Jb.k p;have Ge:=xe.k p;refine⟨_,_,_,_,rfl,?_⟩;obtain⟨ya,He,hp⟩:=zqc hp;refine zAQ (c:=ze) Kb.pre Ce De He fun fl Ie=>?_;obtain⟨Je,Pa⟩:=Kb.call Ie Oa;have Ke:=Ee.k Pa;have Me:=Fe.k Pa;have Ne:=Ge.k Pa;refine⟨_,_,_,rfl,?_⟩;intro vm Oe;obtain⟨Qa,Pe,Ra,Qe⟩:=Je.blk Oe Oa 5;have Re:=Ke.k Ra;have Se:=Me.k Ra;have Te:=Ne.k Ra;obtain⟨Ue,Ve,Mb,Sa,We⟩:=Qe.sto Pe [Il ya.1.Lo,Il ya.1.Hi];have Nb:=Re.k Sa;have Xe:=Se.k Sa;have Ye:=Te.k Sa;refine⟨Ue,Ve,?_⟩;refine⟨_,_,_,_,Nb.bk.ra,?_⟩;obtain⟨Ze,af,hp⟩:=zqc hp;refine zyA (c:=c) Mb.pre (ha100.sub (Sub.trans (Sub.trans (Sub.trans N.fs o.fs) g.fs) p.fs)) (ha103.sub (Sub.trans (Sub.trans (Sub.trans N.fs o.fs) g.fs) p.fs)) af fun wm zl Al Bl bf cf df=>?_;obtain⟨Ob,t⟩:=Mb.callG bf Qa;have ef:=Nb.k t;have gf:=Xe.k t;have hf:=Ye.k t;have jf:=We.k t;refine⟨_,_,_,_,rfl,?_⟩;obtain⟨O,kf,hp⟩:=zqc hp;refine zAR (c:=Ze) Ob.pre cf df kf fun gl lf=>?_;obtain⟨mf,Ia⟩:=Ob.call lf Qa;have nf:=ef.k Ia;have pf:=gf.k Ia;have qf:=hf.k Ia;have rf:=jf.k Ia;refine⟨_,_,_,_,_,rfl,?_⟩;intro Qk sf;obtain⟨tf,uf,Ja,vf⟩:=mf.blk sf Qa 6;have wf:=nf.k Ja;have xf:=pf.k Ja;have yf:=qf.k Ja;have zf:=rf.k Ja;intro bm Af;obtain⟨Ta,Bf,za,Cf⟩:=uf.blk Af tf 7;have Df:=wf.k za;have Ef:=xf.k za;have Ff:=yf.k za;have Gf:=zf.k za;have Hf:=vf.k za;obtain⟨If,Jf,Kf,Aa,Lf⟩:=Hf.sto Bf [Il O.1.Lo,Il O.1.Hi];have Mf:=Df.k Aa;have Nf:=Ef.k Aa;have Of:=Ff.k Aa;have Pf:=Gf.k Aa;have Qf:=Cf.k Aa
 refine⟨If,Jf,?_⟩;obtain⟨Rf,Sf,Pb,Ba,Uf⟩:=Qf.sto Kf [Il O.2.1.Lo,Il O.2.1.Hi];have Vf:=Mf.k Ba;have Qb:=Nf.k Ba;have Wf:=Of.k Ba;have Xf:=Pf.k Ba;have Yf:=Lf.k Ba;refine⟨Rf,Sf,?_⟩;refine⟨_,_,_,_,Qb.bk.ra,?_⟩;obtain⟨Zf,ag,hp⟩:=zqc hp;have gb:=@zyA ({ Tariffs:=b.Tariffs,Day:=b.Day,Fee:=b.Fee,Fields:=(((b.Fields.set (Int.toNat ((zl4 .i64 which) % (c.Fields.length:Int))) ({ Crop:=a.Crop,Value:=a.Value,Near:=a.Near,First:=({ Lo:=(max (0:Int) (a.First.Lo - ((zl4 .i64 by_) % (3:Int)))),Hi:=(min (100:Int) (a.First.Hi+(((zl4 .i64 by_) / (3:Int)) % (3:Int)))) }:Rg),Second:=a.Second,Umpire:=a.Umpire }:Fld)).set (Int.toNat ((zl4 .i64 which) % (c.Fields.length:Int))) ({ Crop:=a.Crop,Value:=a.Value,Near:=a.Near,First:=({ Lo:=(max (0:Int) (a.First.Lo - ((zl4 .i64 by_) % (3:Int)))),Hi:=(min (100:Int) (a.First.Hi+(((zl4 .i64 by_) / (3:Int)) % (3:Int)))) }:Rg),Second:=({ Lo:=(max (0:Int) (a.Second.Lo - (((zl4 .i64 by_) / (9:Int)) % (3:Int)))),Hi:=(min (100:Int) (a.Second.Hi+(((zl4 .i64 by_) / (27:Int)) % (3:Int)))) }:Rg),Umpire:=a.Umpire }:Fld)).set (Int.toNat ((zl4 .i64 which) % (c.Fields.length:Int))) ({ Crop:=a.Crop,Value:=a.Value,Near:=a.Near,First:=({ Lo:=(max (0:Int) (a.First.Lo - ((zl4 .i64 by_) % (3:Int)))),Hi:=(min (100:Int) (a.First.Hi+(((zl4 .i64 by_) / (3:Int)) % (3:Int)))) }:Rg),Second:=({ Lo:=(max (0:Int) (a.Second.Lo - (((zl4 .i64 by_) / (9:Int)) % (3:Int)))),Hi:=(min (100:Int) (a.Second.Hi+(((zl4 .i64 by_) / (27:Int)) % (3:Int)))) }:Rg),Umpire:=({ Lo:=(max (0:Int) (a.Umpire.Lo - ((zl4 .i64 by_) / (81:Int)))),Hi:=(min (100:Int) (a.Umpire.Hi+(((zl4 .i64 by_) % (5:Int)) / (3:Int)))) }:Rg) }:Fld)) }:Cse)
 dsimp only at gb
 refine gb Pb.pre (ta.sub (Sub.trans (Sub.trans (Sub.trans o.fs g.fs) p.fs) t.fs)) (wa.sub (Sub.trans (Sub.trans g.fs p.fs) t.fs)) ag fun cm Cl Dl El bg cg dg=>?_;obtain⟨Rb,u⟩:=Pb.callG bg Ta;have eg:=Vf.k u;have fg:=Qb.k u;have gg:=Wf.k u;have hg:=Xf.k u;have ig:=Yf.k u;have jg:=Uf.k u;refine⟨_,_,_,_,rfl,?_⟩;obtain⟨P,kg,hp⟩:=zqc hp;refine zAR (c:=Zf) Rb.pre cg dg kg fun Sk lg=>?_;obtain⟨mg,ha⟩:=Rb.call lg Ta;have ng:=eg.k ha;have og:=fg.k ha;have pg:=gg.k ha;have qg:=hg.k ha;have rg:=ig.k ha;have sg:=jg.k ha;refine⟨_,_,_,_,_,rfl,?_⟩;intro Tk tg;obtain⟨ug,vg,ia,wg⟩:=mg.blk tg Ta 8;have xg:=ng.k ia;have zg:=og.k ia;have Ag:=pg.k ia;have Bg:=qg.k ia;have Cg:=rg.k ia;have Dg:=sg.k ia;intro dm Eg;obtain⟨Ua,Fg,da,Gg⟩:=vg.blk Eg ug 9;have Hg:=xg.k da;have Ig:=zg.k da;have Jg:=Ag.k da;have Kg:=Bg.k da;have Lg:=Cg.k da;have Mg:=Dg.k da;have Ng:=wg.k da;obtain⟨Og,Pg,Qg,ea,Sg⟩:=Ng.sto Fg [Il P.1.Lo,Il P.1.Hi];have Tg:=Hg.k ea;have Ug:=Ig.k ea;have Vg:=Jg.k ea;have Wg:=Kg.k ea;have Xg:=Lg.k ea;have Zg:=Mg.k ea;have ah:=Gg.k ea;refine⟨Og,Pg,?_⟩;obtain⟨bh,ch,Sb,fa,dh⟩:=ah.sto Qg [Il P.2.1.Lo,Il P.2.1.Hi];have Tb:=Tg.k fa;have eh:=Ug.k fa;have fh:=Vg.k fa;have gh:=Wg.k fa;have hh:=Xg.k fa;have ih:=Zg.k fa;have jh:=Sg.k fa;refine⟨bh,ch,?_⟩;refine⟨_,_,_,_,Tb.bk.ra,?_⟩;obtain⟨kh,lh,hp⟩:=zqc hp;refine zyA (c:=c) Sb.pre (ha100.sub (Sub.trans (Sub.trans (Sub.trans (Sub.trans (Sub.trans N.fs o.fs) g.fs) p.fs) t.fs) u.fs)) (ha103.sub (Sub.trans (Sub.trans (Sub.trans (Sub.trans (Sub.trans N.fs o.fs) g.fs) p.fs) t.fs) u.fs)) lh fun em Fl Gl Hl mh nh oh=>?_
 obtain⟨Ub,w⟩:=Sb.callG mh Ua;have ph:=Tb.k w;have qh:=eh.k w;have rh:=fh.k w;have th:=gh.k w;have uh:=hh.k w;have vh:=ih.k w;have wh:=jh.k w;have xh:=dh.k w;refine⟨_,_,_,_,rfl,?_⟩;obtain⟨Ca,yh,hp⟩:=zqc hp;refine zAS (c:=kh) Ub.pre nh oh yh fun Uk zh=>?_;obtain⟨Ah,aa⟩:=Ub.call zh Ua;have Bh:=ph.k aa;have Ch:=qh.k aa;have Dh:=rh.k aa;have Eh:=th.k aa;have Fh:=uh.k aa;have Gh:=vh.k aa;have Hh:=wh.k aa;have Ih:=xh.k aa;refine⟨_,_,_,rfl,?_⟩;intro fm Jh;obtain⟨Va,Kh,ba,Lh⟩:=Ah.blk Jh Ua 10;have Mh:=Bh.k ba;have Nh:=Ch.k ba;have Oh:=Dh.k ba;have Ph:=Eh.k ba;have Qh:=Fh.k ba;have Rh:=Gh.k ba;have Sh:=Hh.k ba;have Th:=Ih.k ba;obtain⟨Uh,Vh,Vb,ca,Wh⟩:=Lh.sto Kh [Il Ca.1.Lo,Il Ca.1.Hi];have Xh:=Mh.k ca;have Wb:=Nh.k ca;have Yh:=Oh.k ca;have Zh:=Ph.k ca;have ai:=Qh.k ca;have bi:=Rh.k ca;have ci:=Sh.k ca;have ei:=Th.k ca;refine⟨Uh,Vh,?_⟩;refine⟨_,_,_,_,Wb.bk.ra,?_⟩;obtain⟨fi,gi,hp⟩:=zqc hp;have hb:=@zyA ({ Tariffs:=b.Tariffs,Day:=b.Day,Fee:=b.Fee,Fields:=(((b.Fields.set (Int.toNat ((zl4 .i64 which) % (c.Fields.length:Int))) ({ Crop:=a.Crop,Value:=a.Value,Near:=a.Near,First:=({ Lo:=(max (0:Int) (a.First.Lo - ((zl4 .i64 by_) % (3:Int)))),Hi:=(min (100:Int) (a.First.Hi+(((zl4 .i64 by_) / (3:Int)) % (3:Int)))) }:Rg),Second:=a.Second,Umpire:=a.Umpire }:Fld)).set (Int.toNat ((zl4 .i64 which) % (c.Fields.length:Int))) ({ Crop:=a.Crop,Value:=a.Value,Near:=a.Near,First:=({ Lo:=(max (0:Int) (a.First.Lo - ((zl4 .i64 by_) % (3:Int)))),Hi:=(min (100:Int) (a.First.Hi+(((zl4 .i64 by_) / (3:Int)) % (3:Int)))) }:Rg),Second:=({ Lo:=(max (0:Int) (a.Second.Lo - (((zl4 .i64 by_) / (9:Int)) % (3:Int)))),Hi:=(min (100:Int) (a.Second.Hi+(((zl4 .i64 by_) / (27:Int)) % (3:Int)))) }:Rg),Umpire:=a.Umpire }:Fld)).set (Int.toNat ((zl4 .i64 which) % (c.Fields.length:Int))) ({ Crop:=a.Crop,Value:=a.Value,Near:=a.Near,First:=({ Lo:=(max (0:Int) (a.First.Lo - ((zl4 .i64 by_) % (3:Int)))),Hi:=(min (100:Int) (a.First.Hi+(((zl4 .i64 by_) / (3:Int)) % (3:Int)))) }:Rg),Second:=({ Lo:=(max (0:Int) (a.Second.Lo - (((zl4 .i64 by_) / (9:Int)) % (3:Int)))),Hi:=(min (100:Int) (a.Second.Hi+(((zl4 .i64 by_) / (27:Int)) % (3:Int)))) }:Rg),Umpire:=({ Lo:=(max (0:Int) (a.Umpire.Lo - ((zl4 .i64 by_) / (81:Int)))),Hi:=(min (100:Int) (a.Umpire.Hi+(((zl4 .i64 by_) % (5:Int)) / (3:Int)))) }:Rg) }:Fld)) }:Cse)
 dsimp only at hb
 refine hb Vb.pre (ta.sub (Sub.trans (Sub.trans (Sub.trans (Sub.trans (Sub.trans o.fs g.fs) p.fs) t.fs) u.fs) w.fs)) (wa.sub (Sub.trans (Sub.trans (Sub.trans (Sub.trans g.fs p.fs) t.fs) u.fs) w.fs)) gi fun gm Jl Kl Ll hi ii ji=>?_;obtain⟨Xb,y⟩:=Vb.callG hi Va;have ki:=Xh.k y;have li:=Wb.k y;have ni:=Yh.k y;have pi:=Zh.k y;have qi:=ai.k y;have ri:=bi.k y;have si:=ci.k y;have ti:=ei.k y;have ui:=Wh.k y;refine⟨_,_,_,_,rfl,?_⟩;obtain⟨Da,vi,hp⟩:=zqc hp;refine zAS (c:=fi) Xb.pre ii ji vi fun Vk wi=>?_;obtain⟨xi,S⟩:=Xb.call wi Va;have yi:=ki.k S;have zi:=li.k S;have Ai:=ni.k S;have Bi:=pi.k S;have Ci:=qi.k S;have Di:=ri.k S;have Ei:=si.k S;have Fi:=ti.k S;have Gi:=ui.k S;refine⟨_,_,_,rfl,?_⟩;intro hm Ii;obtain⟨Ea,Ji,T,Ki⟩:=xi.blk Ii Va 11;have Ni:=yi.k T;have Oi:=zi.k T;have Pi:=Ai.k T;have Qi:=Bi.k T;have Ri:=Ci.k T;have Si:=Di.k T;have Ti:=Ei.k T;have Ui:=Fi.k T;have Vi:=Gi.k T;obtain⟨Wi,Xi,Yb,Y,Yi⟩:=Ki.sto Ji [Il Da.1.Lo,Il Da.1.Hi];have Zb:=Ni.k Y;have Zi:=Oi.k Y;have aj:=Pi.k Y;have bj:=Qi.k Y;have cj:=Ri.k Y;have dj:=Si.k Y;have ej:=Ti.k Y;have fj:=Ui.k Y;have gj:=Vi.k Y;refine⟨Wi,Xi,?_⟩;refine⟨_,_,_,_,Zb.bk.ra,?_⟩;obtain⟨hj,ij,hp⟩:=zqc hp;refine zyA (c:=c) Yb.pre (ha100.sub (Sub.trans (Sub.trans (Sub.trans (Sub.trans (Sub.trans (Sub.trans (Sub.trans N.fs o.fs) g.fs) p.fs) t.fs) u.fs) w.fs) y.fs)) (ha103.sub (Sub.trans (Sub.trans (Sub.trans (Sub.trans (Sub.trans (Sub.trans (Sub.trans N.fs o.fs) g.fs) p.fs) t.fs) u.fs) w.fs) y.fs)) ij fun im Ml Nl Ol jj kj lj=>?_
 obtain⟨ac,A⟩:=Yb.callG jj Ea;have mj:=Zb.k A;have nj:=Zi.k A;have oj:=aj.k A;have pj:=bj.k A;have qj:=cj.k A;have rj:=dj.k A;have sj:=ej.k A;have tj:=fj.k A;have uj:=gj.k A;have vj:=Yi.k A;refine⟨_,_,_,_,rfl,?_⟩
 try rw[ha103.slLen]
 obtain⟨wj,xj,hp⟩:=zqc hp;refine zyu (c:=hj) (field:=((zl4 .i64 which) % (c.Fields.length:Int))) ac.pre kj lj xj fun jm Pl Ql yj Ka=>?_;obtain⟨bc,B⟩:=ac.callG yj Ea;have zj:=mj.k B;have cc:=nj.k B;have Aj:=oj.k B;have Bj:=pj.k B;have Cj:=qj.k B;have Dj:=rj.k B;have Ej:=sj.k B;have Fj:=tj.k B;have Gj:=uj.k B;have Hj:=vj.k B;refine⟨_,_,rfl,_,_,_,_,cc.bk.ra,?_⟩;obtain⟨Ij,Jj,hp⟩:=zqc hp;have ib:=@zyA ({ Tariffs:=b.Tariffs,Day:=b.Day,Fee:=b.Fee,Fields:=(((b.Fields.set (Int.toNat ((zl4 .i64 which) % (c.Fields.length:Int))) ({ Crop:=a.Crop,Value:=a.Value,Near:=a.Near,First:=({ Lo:=(max (0:Int) (a.First.Lo - ((zl4 .i64 by_) % (3:Int)))),Hi:=(min (100:Int) (a.First.Hi+(((zl4 .i64 by_) / (3:Int)) % (3:Int)))) }:Rg),Second:=a.Second,Umpire:=a.Umpire }:Fld)).set (Int.toNat ((zl4 .i64 which) % (c.Fields.length:Int))) ({ Crop:=a.Crop,Value:=a.Value,Near:=a.Near,First:=({ Lo:=(max (0:Int) (a.First.Lo - ((zl4 .i64 by_) % (3:Int)))),Hi:=(min (100:Int) (a.First.Hi+(((zl4 .i64 by_) / (3:Int)) % (3:Int)))) }:Rg),Second:=({ Lo:=(max (0:Int) (a.Second.Lo - (((zl4 .i64 by_) / (9:Int)) % (3:Int)))),Hi:=(min (100:Int) (a.Second.Hi+(((zl4 .i64 by_) / (27:Int)) % (3:Int)))) }:Rg),Umpire:=a.Umpire }:Fld)).set (Int.toNat ((zl4 .i64 which) % (c.Fields.length:Int))) ({ Crop:=a.Crop,Value:=a.Value,Near:=a.Near,First:=({ Lo:=(max (0:Int) (a.First.Lo - ((zl4 .i64 by_) % (3:Int)))),Hi:=(min (100:Int) (a.First.Hi+(((zl4 .i64 by_) / (3:Int)) % (3:Int)))) }:Rg),Second:=({ Lo:=(max (0:Int) (a.Second.Lo - (((zl4 .i64 by_) / (9:Int)) % (3:Int)))),Hi:=(min (100:Int) (a.Second.Hi+(((zl4 .i64 by_) / (27:Int)) % (3:Int)))) }:Rg),Umpire:=({ Lo:=(max (0:Int) (a.Umpire.Lo - ((zl4 .i64 by_) / (81:Int)))),Hi:=(min (100:Int) (a.Umpire.Hi+(((zl4 .i64 by_) % (5:Int)) / (3:Int)))) }:Rg) }:Fld)) }:Cse)
 dsimp only at ib
 refine ib bc.pre (ta.sub (Sub.trans (Sub.trans (Sub.trans (Sub.trans (Sub.trans (Sub.trans (Sub.trans (Sub.trans o.fs g.fs) p.fs) t.fs) u.fs) w.fs) y.fs) A.fs) B.fs)) (wa.sub (Sub.trans (Sub.trans (Sub.trans (Sub.trans (Sub.trans (Sub.trans (Sub.trans g.fs p.fs) t.fs) u.fs) w.fs) y.fs) A.fs) B.fs)) Jj fun km Rl Tl Ul Kj Lj Mj=>?_;obtain⟨dc,D⟩:=bc.callG Kj Ea;have Nj:=zj.k D;have Oj:=cc.k D;have Pj:=Aj.k D;have Qj:=Bj.k D;have Rj:=Cj.k D;have Sj:=Dj.k D;have Tj:=Ej.k D;have Uj:=Fj.k D;have Vj:=Gj.k D;have Wj:=Hj.k D;refine⟨_,_,_,_,rfl,?_⟩
 try rw[ha103.slLen]
 obtain⟨ec,Xj,hp⟩:=zqc hp;refine zyu (c:=Ij) (field:=((zl4 .i64 which) % (c.Fields.length:Int))) dc.pre Lj Mj Xj fun lm F Vl Yj Zj=>?_;obtain⟨Z,G⟩:=dc.callG Yj Ea;have La:=Nj.k G;have Ma:=Oj.k G;have ja:=Pj.k G;have ka:=Qj.k G;have la:=Rj.k G;have ma:=Sj.k G;have na:=Tj.k G;have oa:=Uj.k G;have pa:=Vj.k G;have qa:=Wj.k G;refine⟨_,_,rfl,?_⟩;refine zqR hp (fun ak hp=>?_) fun ak hp=>?_
 ·obtain rfl:=oi hp;exact hq _ Z.ext'
 refine zqR hp (fun ck hp=>?_) fun ck hp=>?_
 ·obtain rfl:=oi hp;exact hq _ Z.ext'
 refine zqR hp (fun dk hp=>?_) fun dk hp=>?_
 ·obtain rfl:=oi hp;exact hq _ Z.ext'
 refine zqR hp (fun ek hp=>?_) fun ek hp=>?_
 ·obtain rfl:=oi hp;exact hq _ Z.ext'
 refine zqR hp (fun fk hp=>?_) fun fk hp=>?_
 ·obtain rfl:=oi hp;exact hq _ Z.ext'
 refine zqR hp (fun gk hp=>?_) fun gk hp=>?_
 ·obtain rfl:=oi hp;exact hq _ Z.ext'
 refine zqR hp (fun hk hp=>?_) fun hk hp=>?_
 ·obtain rfl:=oi hp;exact hq _ Z.ext'
 refine zqR hp (fun ik hp=>?_) fun ik hp=>?_
 ·obtain rfl:=oi hp;exact hq _ Z.ext'
 intro Xk jk
 have hgo:∀(Na:Nat) (kb:Bool) (Wa:Int) (I:M) (q:Nat→Nat),St (Fm.of m) f F I→Lb (Fm.of m) F q I 1 m.nxt 4 [ca100,Il c.Day,Il c.Fee,ca103]→Lb (Fm.of m) F q I 3 Zk.nxt 4 [rb,Il b.Day,Il b.Fee,sb]→Lb (Fm.of m) F q I 4 el.nxt 2 [Il xa.1.Lo,Il xa.1.Hi]→Lb (Fm.of m) F q I 5 fl.nxt 2 [Il ya.1.Lo,Il ya.1.Hi]→Lb (Fm.of m) F q I 6 gl.nxt 2 [Il O.1.Lo,Il O.1.Hi]→Lb (Fm.of m) F q I 7 Qk.nxt 2 [Il O.2.1.Lo,Il O.2.1.Hi]→Lb (Fm.of m) F q I 8 Sk.nxt 2 [Il P.1.Lo,Il P.1.Hi]→Lb (Fm.of m) F q I 9 Tk.nxt 2 [Il P.2.1.Lo,Il P.2.1.Hi]→Lb (Fm.of m) F q I 10 Uk.nxt 2 [Il Ca.1.Lo,Il Ca.1.Hi]→Lb (Fm.of m) F q I 11 Vk.nxt 2 [Il Da.1.Lo,Il Da.1.Hi]→zu0 xa ya O P Ca Da wj ec Na Wa=some rz→Xk [.c (.bool kb),.c (Il Wa)] I:=by
  intro Na
  induction Na with
  | zero=>intro kb Wa I q x La Ma ja ka la ma na oa pa qa hp; cases hp
  | succ Na gc=>
   intro kb Wa I q x La Ma ja ka la ma na oa pa qa hp;refine jk _ _ _ ?_;rw[zu0] at hp;refine⟨Ka.isSl,?_⟩
   try rw[Ka.slLen]
   refine ifd hp (fun kk hp=>?_) fun kk hp=>?_
   ·obtain⟨mk,Xa,hp⟩:=zqc hp;obtain⟨Yk,hc,jb,Xa⟩:=zp6 Xa;refine⟨Yk,hc,(by first|exact jb|(rw[Ka.slLen];exact jb)),_,(Ka.rdI Xa (Sub.trans (Sub.trans D.fs G.fs) x.sub)),?_⟩;obtain⟨Wl,nk,hp⟩:=zqc hp;refine zyI (l:=ec.1) (n:=mk) x.pre Zj nk fun mm ok=>?_;obtain⟨fc,J⟩:=x.call ok q;have pk:=La.k J;have qk:=Ma.k J;have sk:=ja.k J;have uk:=ka.k J;have vk:=la.k J;have wk:=ma.k J;have xk:=na.k J;have yk:=oa.k J;have zk:=pa.k J;have Ak:=qa.k J;refine⟨_,rfl,?_⟩;refine zqT hp (fun Ck hp=>?_) fun Ck hp=>?_
    ·obtain rfl:=oi hp;exact hq _ fc.ext'
    refine gdi hp fun Dk hp=>?_;exact gc _ _ _ q fc pk qk sk uk vk wk xk yk zk Ak hp
   refine⟨trivial,_,ka.bk.rc rfl,trivial,_,ja.bk.rc rfl,?_⟩;refine ifd hp (fun Ek hp=>?_) fun Ek hp=>?_; rotate_left
   ·obtain rfl:=oi hp;exact hq _ x.ext'
   refine⟨trivial,_,ja.bk.rc rfl,trivial,_,ka.bk.rc rfl,?_⟩;refine ifd hp (fun Fk hp=>?_) fun Fk hp=>?_; rotate_left
   ·obtain rfl:=oi hp;exact hq _ x.ext'
   refine⟨trivial,_,na.bk.rc rfl,trivial,_,la.bk.rc rfl,?_⟩;refine ifd hp (fun Gk hp=>?_) fun Gk hp=>?_; rotate_left
   ·obtain rfl:=oi hp;exact hq _ x.ext'
   refine⟨trivial,_,la.bk.rc rfl,trivial,_,na.bk.rc rfl,?_⟩;refine ifd hp (fun Hk hp=>?_) fun Hk hp=>?_; rotate_left
   ·obtain rfl:=oi hp;exact hq _ x.ext'
   refine⟨trivial,_,oa.bk.rc rfl,trivial,_,ma.bk.rc rfl,?_⟩;refine ifd hp (fun Ik hp=>?_) fun Ik hp=>?_; rotate_left
   ·obtain rfl:=oi hp;exact hq _ x.ext'
   refine⟨trivial,_,ma.bk.rc rfl,trivial,_,oa.bk.rc rfl,?_⟩;refine ifd hp (fun Jk hp=>?_) fun Jk hp=>?_; rotate_left
   ·obtain rfl:=oi hp;exact hq _ x.ext'
   refine⟨trivial,_,qa.bk.rc rfl,trivial,_,pa.bk.rc rfl,?_⟩;refine ifd hp (fun Kk hp=>?_) fun Kk hp=>?_; rotate_left
   ·obtain rfl:=oi hp;exact hq _ x.ext'
   refine⟨trivial,_,pa.bk.rc rfl,trivial,_,qa.bk.rc rfl,?_⟩;refine ifd hp (fun Lk hp=>?_) fun Lk hp=>?_; rotate_left
   ·obtain rfl:=oi hp;exact hq _ x.ext'
   obtain⟨Xl,Mk,hp⟩:=zqc hp;refine zAT x.pre  Mk fun nm Nk=>?_;obtain⟨Ok,Yl⟩:=x.call Nk q;refine⟨_,rfl,?_⟩;obtain rfl:=oi hp;exact hq _ Ok.ext'
 exact hgo _ _ _ _ Ea Z La Ma ja ka la ma na oa pa qa hp
end
end Go.Proofs.YteojndcmgpiklaaGreat

namespace Go.Proofs.YteojndcmgpiklaaGreat
open _root_.Go.Proofs.Tryz
open Go.Abs
set_option maxRecDepth 100000
noncomputable section
def seg(lo:Int):Nat→List Int
 | 0=>[]
 | n+1=>lo::seg (lo+1) n
theorem zAX{x:Int}:∀{n:Nat} {lo:Int},x∈seg lo n↔lo≤x∧x < lo+n
 | 0,lo=>by simp[seg]
 | n+1,lo=>by
  unfold seg;rw[List.mem_cons,zAX]; omega
theorem zAY:∀{n:Nat} {lo:Int},(seg lo n).length=n
 | 0,_=>rfl
 | n+1,lo=>by unfold seg; rw[List.length_cons,zAY]
def zAZ(c:Clm):List Tr:=(seg c.Day.Lo (c.Day.Hi - c.Day.Lo+1).toNat).flatMap fun d=>(seg c.Count.Lo (c.Count.Hi - c.Count.Lo+1).toNat).map fun n=>⟨d,n⟩
theorem zA0{c:Clm}(h1:c.Day.Lo≤c.Day.Hi)(h2:c.Count.Lo≤c.Count.Hi){t:Tr}:t∈zAZ c↔zAv c t:=by
 unfold zAZ zAv;rw[List.mem_flatMap]
 constructor
 ·rintro⟨d,hd,ht⟩
  obtain⟨n,hn,rfl⟩:=List.mem_map.1 ht;have hd:=zAX.1 hd;have hn:=zAX.1 hn
  dsimp only
  omega
 ·intro⟨h3,h4⟩;exact⟨t.Day,zAX.2 (by omega),List.mem_map.2 ⟨t.Count,zAX.2 (by omega),rfl⟩⟩
theorem zA1{c:Clm}{x:Int}(hx:-1000≤x∧x≤1000)(hh:-1000≤c.Count.Lo∧c.Count.Hi≤1000){K:Int→Option (List Tr)}{r:List Tr}(hK:K (x+1)=some r):∀(d n:Nat) (k:Int),c.Count.Lo≤k→n < d→k+n=c.Count.Hi+1→zth c x K d k=some ((seg k n).map (fun n=>⟨x,n⟩)++r)
 | 0,n,k,_,h,_=>by omega
 | d+1,0,k,_,_,hk=>by
  rw[zth,if_neg (by omega),zqe (fI (by omega)),hK]; rfl
 | d+1,n+1,k,h0,h,hk=>by
  rw[zth,if_pos (by omega),zqe (fI (by omega)),zA1 hx hh hK d n (k+1) (by omega) (by omega) (by omega),obs]; rfl
theorem zA2{c:Clm}(hd:-1000≤c.Day.Lo∧c.Day.Hi≤1000)(hh:-1000≤c.Count.Lo∧c.Count.Hi≤1000)(h2:c.Count.Lo≤c.Count.Hi):∀(d n:Nat) (x:Int),c.Day.Lo≤x→n < d→x+n=c.Day.Hi+1→zti c d x=some ((seg x n).flatMap fun d=>(seg c.Count.Lo (c.Count.Hi - c.Count.Lo+1).toNat).map fun n=>⟨d,n⟩)
 | 0,n,x,_,h,_=>by omega
 | d+1,0,x,_,_,hx=>by rw[zti,if_neg (by omega)]; rfl
 | d+1,n+1,x,h0,h,hx=>by
  rw[zti,if_pos (by omega),zA1 (by omega) hh (zA2 hd hh h2 d n (x+1) (by omega) (by omega) (by omega)) _ (c.Count.Hi - c.Count.Lo+1).toNat c.Count.Lo (Int.le_refl _) (by omega) (by omega)]; rfl
theorem zA3{l:List Tf}{c:Clm}(h:zAs l c):ztk c=some (zAZ c):=by
 have h1:=h.day;have h2:=h.cnt;unfold ztk ztj;rw[zA2 (by omega) (by omega) (by omega) _ (c.Day.Hi - c.Day.Lo+1).toNat c.Day.Lo (Int.le_refl _) (by omega) (by omega)]; rfl
theorem zA4{l:List Tf}{c:Clm}(h:zAs l c):0 < (zAZ c).length∧(zAZ c).length≤1111:=by
 have h1:=h.day;have h2:=h.cnt
 have:(zAZ c).length=(c.Day.Hi - c.Day.Lo+1).toNat * (c.Count.Hi - c.Count.Lo+1).toNat:=by
  unfold zAZ;rw[List.length_flatMap]
  simp only[List.length_map,zAY]
  generalize (c.Day.Hi - c.Day.Lo+1).toNat=n;generalize (c.Count.Hi - c.Count.Lo+1).toNat=k;generalize c.Day.Lo=x
  induction n generalizing x with
  | zero=>simp[seg]
  | succ n ih=>unfold seg; rw[List.map_cons,List.sum_cons,ih,Nat.succ_mul]; omega
 rw[this]
 have a1:1≤(c.Day.Hi - c.Day.Lo+1).toNat:=by omega
 have a2:(c.Day.Hi - c.Day.Lo+1).toNat≤11:=by omega
 have a3:1≤(c.Count.Hi - c.Count.Lo+1).toNat:=by omega
 have a4:(c.Count.Hi - c.Count.Lo+1).toNat≤101:=by omega
 exact⟨Nat.mul_pos a1 a3,Nat.mul_le_mul a2 a4⟩
def zA5(l:List Tf)(c:Clm):Rg:=⟨zrf ((zAZ c).map (zAx l c)),zrg ((zAZ c).map (zAx l c))⟩
theorem zA6{l:List Tf}(hf:zzc l=0){c:Clm}(hc:zAs l c){t:Tr}(ht:zAv c t):0≤zAx l c t∧zAx l c t≤100000:=by
 have hp:=zAB hf (zAA hc ht);have hv:=zAC hc.val hp;unfold zAx
 dsimp only at hv
 omega
theorem zA7{l:List Tf}(hf:zzc l=0){c:Clm}(hc:zAs l c){w:Wk}(hw:w.tariffs=l):∀(ts:List Tr) (acc:List Int) (M:Option (Ht→Option Int)),(∀t∈ts,zAv c t)→zAl l M→ts.length+acc.length≤1111→acc++ts.map (zAx l c) ≠ [] →
  ∃M',ztl w c ts acc M=some (⟨zrf (acc++ts.map (zAx l c)),zrg (acc++ts.map (zAx l c))⟩,M')∧zAl l M'
 | [],acc,M,_,hM,hl,hne=>by
  rw[List.map_nil,List.append_nil] at hne ⊢;have hs:zrc acc:=Nat.le_trans (Nat.le_trans (Nat.le_add_left _ _) hl) (by omega);refine⟨M,?_,hM⟩;rw[ztl,zAG hne (by have:=hs.lt; omega),obs,zAH hne (by have:=hs.lt; omega),obs]
 | t::ts,acc,M,hts,hM,hl,hne=>by
  obtain⟨M1,h1,h2⟩:=zAD hf hM hc (hts t (List.mem_cons_self ..));rw[List.length_cons] at hl;obtain⟨M',h3,h4⟩:=zA7 hf hc hw ts (acc++[zAx l c t]) M1 (fun u hu=>hts u (List.mem_cons_of_mem _ hu)) h2 (by rw[List.length_append]; simp; omega) (by simp);refine⟨M',?_,h4⟩;rw[ztl,hw,h1,obs]
  dsimp only
  rw[zqe (by omega),h3,List.append_assoc]; rfl
theorem zA8{l:List Tf}(hf:zzc l=0){c:Clm}(hc:zAs l c){M:Option (Ht→Option Int)}(hM:zAl l M):∃M',ztm ⟨l,M⟩ c=some (zA5 l c,M')∧zAl l M':=by
 have h1:=hc.day;have h2:=hc.cnt;have hlen:=zA4 hc;unfold ztm;rw[zA3 hc,obs]
 exact zA7 hf hc rfl (zAZ c) [] M (fun t ht=>(zA0 (by omega) (by omega)).1 ht) hM (by simp; omega) (by
  intro e;rw[List.nil_append] at e;rw[List.map_eq_nil_iff.1 e] at hlen
  exact absurd hlen.1 (by simp))
theorem zA9{l:List Tf}(hf:zzc l=0){c:Clm}(hc:zAs l c):ztn l c=some (zA5 l c,0):=by
 obtain⟨M',h1,_⟩:=zA8 hf hc zAp;unfold ztn;rw[zAy hf (by simp) (zAE.2 hc),obs,if_pos rfl,h1,obs]
theorem zBa{l:List Tf}(hf:zzc l=0){c:Clm}(hc:¬ zAs l c):ztn l c=some (⟨0,0⟩,2):=by
 unfold ztn;rw[zAz hf (by simp) (by rw[zAE]; exact hc),obs,if_neg (by decide)]
structure zBb (r:Rg):Prop where
 lo:0≤r.Lo
 le:r.Lo≤r.Hi
 hi:r.Hi≤100
 wd:r.Hi - r.Lo≤4
theorem zBc{r:Rg}:zBb r↔0≤r.Lo∧r.Lo≤r.Hi∧r.Hi≤100∧r.Hi - r.Lo≤4:=⟨fun h=>⟨h.1,h.2,h.3,h.4⟩,fun⟨a,b,c,d⟩=>⟨a,b,c,d⟩⟩
structure zBd (l:List Tf) (f:Fld):Prop where
 crop:0≤f.Crop∧f.Crop < zy9 l
 val:0≤f.Value∧f.Value≤100000
 near:0≤f.Near∧f.Near≤100
 fst:zBb f.First
 snd:zBb f.Second
 ump:zBb f.Umpire
structure zBe (c:Cse):Prop where
 tar:zzc c.Tariffs=0
 len:c.Fields.length≤3
 day:0≤c.Day∧c.Day≤120
 fee:0≤c.Fee∧c.Fee≤10000
 fld:∀f∈c.Fields,zBd c.Tariffs f
open Classical in
def zBf(c:Cse):Int:=if zzc c.Tariffs=0 then (if 3 < c.Fields.length then 3 else if zBe c then 0 else 1) else zzc c.Tariffs
theorem zBg{c:Cse}:zBf c=0↔zBe c:=by
 unfold zBf
 constructor
 ·intro h
  split at h
  ·split at h
   ·cases h
   ·split at h
    ·assumption
    ·cases h
  ·rename_i h1; exact absurd h h1
 ·intro h;rw[if_pos h.tar,if_neg (by have:=h.len; omega),if_pos h]
theorem zBh{r:Rg}{n:Int}:Ev (ztp r n) (r.Lo≤n∧n≤r.Hi):=Ev.ite fun _=>Ev.dec Iff.rfl
theorem zBi{n:Int}:Ev (ztq n) (0≤n∧n≤100):=zBh.ret
theorem zBj{r:Rg}:Ev (ztr r) (zBb r):=
 (Ev.and zBi fun h1=>Ev.and zBi fun h2=>Ev.ite fun _=>Ev.gd (fI (by omega)) (Ev.dec Iff.rfl)).imp ((show _↔_ from by omega).trans zBc.symm)
theorem gR{l:List Rg}{p:Rg→Option Bool}:∀{d:Nat} {x:Int},ztt l p d x=gIdx l p d x
 | 0,_=>rfl
 | d+1,x=>by unfold ztt gIdx; simp only[gR]
theorem gF{l:List Fld}{p:Fld→Option Bool}:∀{d:Nat} {x:Int},zty l p d x=gIdx l p d x
 | 0,_=>rfl
 | d+1,x=>by unfold zty gIdx; simp only[gF]
theorem zBk{l:List Rg}{p:Rg→Option Bool}{q:Rg→Prop}(hp:∀a∈l,Ev (p a) (q a))(hl:zrc l):Ev (ztw l p) (∀a∈l,q a):=Ev.each hp hl.lt gR
theorem zBl{l:List Fld}{p:Fld→Option Bool}{q:Fld→Prop}(hp:∀a∈l,Ev (p a) (q a))(hl:zrc l):Ev (ztB l p) (∀a∈l,q a):=Ev.each hp hl.lt gF
def zBm(c:Cse)(f:Fld)(n:Int):Clm:={ Crop:=f.Crop,Value:=f.Value,Day:={ Lo:=c.Day,Hi:=c.Day },Count:={ Lo:=n,Hi:=n } }
theorem zBn{c:Cse}{f:Fld}{n:Int}(hd:0≤c.Day∧c.Day≤120)(hn:0≤n∧n≤100):zAs c.Tariffs (zBm c f n)↔(0≤f.Crop∧f.Crop < zy9 c.Tariffs)∧(0≤f.Value∧f.Value≤100000):=
 ⟨fun h=>⟨h.crop,h.val⟩,fun h=>⟨h.1,h.2,by show 0≤c.Day∧c.Day≤c.Day∧c.Day≤120∧c.Day - c.Day≤10; omega,by show 0≤n∧n≤n∧n≤100; omega⟩⟩
theorem zBo{c:Cse}(ht:zzc c.Tariffs=0)(hd:0≤c.Day∧c.Day≤120){f:Fld}:Ev (ztT c f) ((0≤f.Crop∧f.Crop < zy9 c.Tariffs)∧(0≤f.Value∧f.Value≤100000)):=by
 refine Ev.bind rfl ?_
 by_cases h:zAs c.Tariffs (zBm c f 0)
 ·exact Ev.bind (zA9 ht h) (Ev.dec ⟨fun _=>(zBn hd (by omega)).1 h,fun _=>rfl⟩)
 ·exact Ev.bind (zBa ht h) (Ev.dec ⟨fun h1=>(by cases h1),fun h2=>absurd ((zBn (n:=0) hd (by omega)).2 h2) h⟩)
theorem zBp{c:Cse}(ht:zzc c.Tariffs=0)(hd:0≤c.Day∧c.Day≤120){f:Fld}:Ev (ztU c f) (zBd c.Tariffs f):=
 (Ev.and (zBo ht hd) fun _=>Ev.and zBi fun _=>(zBk (fun _ _=>zBj) (show (3:Nat)≤_ by omega)).ret).imp
  ⟨fun⟨h1,h2,h3⟩=>⟨h1.1,h1.2,h2,h3 _ (by simp),h3 _ (by simp),h3 _ (by simp)⟩,fun h=>⟨⟨h.crop,h.val⟩,h.near,fun a ha=>by
   rcases List.mem_cons.1 ha with rfl | ha
   ·exact h.fst
   rcases List.mem_cons.1 ha with rfl | ha
   ·exact h.snd
   rcases List.mem_cons.1 ha with rfl | ha
   ·exact h.ump
   cases ha⟩⟩
theorem zBq{c:Cse}(ht:zzc c.Tariffs=0)(hl:c.Fields.length≤3):Ev (ztV c) (zBe c):=
 (Ev.and zBh fun h1=>Ev.and zBh fun _=>(zBl (fun _ _=>zBp ht h1) (Nat.le_trans hl (by omega))).ret).imp
  ⟨fun⟨h1,h2,h3⟩=>⟨ht,hl,h1,h2,h3⟩,fun h=>⟨h.day,h.fee,h.fld⟩⟩
theorem zBr{c:Cse}:ztZ c=some (zBf c):=by
 unfold ztZ zBf;rw[zzT,obs]
 by_cases h:zzc c.Tariffs=0
 ·rw[if_pos h,if_pos h]
  by_cases h3:3 < c.Fields.length
  ·rw[if_pos (by omega),if_pos h3]
  ·rw[if_neg (by omega),if_neg h3]
   exact Ev.pick (zBq h (by omega)) (fun hc=>by rw[if_pos rfl,if_pos hc]) fun hc=>by rw[zqf rfl,if_neg hc]
 ·rw[if_neg h,if_neg h]
theorem zBs{r:Rg}:Ev (zuq r) (zBb r):=
 (Ev.ite fun _=>Ev.ite fun _=>Ev.ite fun _=>Ev.gd (fI (by omega)) (Ev.dec Iff.rfl)).imp zBc.symm
theorem zBt{l:List Tf}(h:zzc l=0):l ≠ []:=fun e=>by
 have:=(zAn h).1;rw[e] at this;exact absurd this (by decide)
theorem zBu{β:Type}{o:Option Bool}{P Q:Prop}{k A B:Option β}(h:Ev o P)(hk:P→(Q→k=A)∧(¬ Q→k=B)):(P∧Q→(o.bind fun r=>if r=true then k else B)=A)∧(¬ (P∧Q)→(o.bind fun r=>if r=true then k else B)=B):=by
 obtain⟨b,h1,h2⟩:=h;rw[h1,obs]
 cases b with
 | true=>
  have hp:=h2.1 rfl;exact⟨fun hq=>(hk hp).1 hq.2,fun hn=>(hk hp).2 fun hq=>hn ⟨hp,hq⟩⟩
 | false=>exact⟨fun hq=>(by have:=h2.2 hq.1; cases this),fun _=>rfl⟩
theorem zBv{c:Cse}(ht:zzc c.Tariffs=0)(hl:c.Fields.length≤3):((∀f∈c.Fields,zBd c.Tariffs f)→zur c 1000000 0=some 0)∧(¬ (∀f∈c.Fields,zBd c.Tariffs f)→zur c 1000000 0=some 1):=by
 refine zrb (l:=c.Fields) (F:=fun d x=>zur c d x) (bad:=some 1) (fin:=some 0) (fun d k f hk=>?_) (fun d=>by rw[zur,if_neg (Int.lt_irrefl _)]) (by omega);have hkl:=(List.getElem?_eq_some_iff.1 hk).1;have hc:=zAn ht;rw[zur,if_pos (by omega),zq1 hk,obs,zz9 (zBt ht),obs,zqe (fI (by omega))]
 have key:=zBu (zzj (n:=f.Crop) (lo:=0) (hi:=(zy9 c.Tariffs:Int) - 1)) fun _=>zBu (zzj (n:=f.Value) (lo:=0) (hi:=100000)) fun _=>zBu (zzj (n:=f.Near) (lo:=0) (hi:=100)) fun _=>zBu (zBs (r:=f.First)) fun _=>zBu (zBs (r:=f.Second)) fun _=>
  zBu (β:=Int) (Q:=True) (k:=gd (zl0 .i64 ((k:Int)+1)) (zur c d ((k:Int)+1))) (A:=zur c d ((k:Int)+1)) (B:=some 1) (zBs (r:=f.Umpire)) fun _=>⟨fun _=>zqe (fI (by omega)),fun h=>absurd trivial h⟩
 refine⟨fun h=>key.1 ⟨⟨h.crop.1,by have:=h.crop.2; omega⟩,h.val,h.near,h.fst,h.snd,h.ump,trivial⟩,fun h=>key.2 fun h'=>h ⟨⟨h'.1.1,by have:=h'.1.2; omega⟩,h'.2.1,h'.2.2.1,h'.2.2.2.1,h'.2.2.2.2.1,h'.2.2.2.2.2.1⟩⟩
theorem zBw{c:Cse}:zus c=some (zBf c):=by
 unfold zus zBf;rw[zzW,obs]
 by_cases h:zzc c.Tariffs=0
 ·rw[if_pos h,if_pos h]
  by_cases h3:3 < c.Fields.length
  ·rw[if_pos (by omega),if_pos h3]
  ·rw[if_neg (by omega),if_neg h3];have g:=zBv h (by omega);have key:=zBu (zzj (n:=c.Day) (lo:=0) (hi:=120)) fun _=>zBu (zzj (n:=c.Fee) (lo:=0) (hi:=10000)) fun _=>g
   by_cases hc:zBe c
   ·rw[if_pos hc]; exact key.1 ⟨hc.day,hc.fee,hc.fld⟩
   ·rw[if_neg hc]; exact key.2 fun h'=>hc ⟨h,by omega,h'.1,h'.2.1,h'.2.2⟩
 ·rw[if_neg h,if_neg h]
theorem zBx{c:Cse}:zux c=some (zBf c):=by unfold zux; rw[zBw]; rfl
theorem zBy{c:Cse}:Ev (zuw c) (zzY c.Tariffs∧c.Fields.length≤6):=Ev.and zz2 fun _=>Ev.dec (by omega)
theorem zBz{c:Cse}:Ev (zuC c) ((zzY c.Tariffs∧c.Fields.length≤6)∧zBe c):=Ev.and zBy fun _=>Ev.bind zBx (Ev.dec zBg)
theorem zBA{c:Cse}(hl:c.Fields.length≤6):∀(d k:Nat),k≤c.Fields.length→c.Fields.length - k < d→zuu c c.Tariffs d c.Day c.Fee (c.Fields.take k) (k:Int)=some c
 | 0,k,_,h=>by omega
 | d+1,k,hk,h=>by
  rw[zuu]
  by_cases hkl:k < c.Fields.length
  ·have hg:=List.getElem?_eq_getElem hkl;rw[if_pos (by omega),zq1 hg,obs]
   show gd ((c.Fields.take k).length < 1048576) _=_
   rw[zqe (by rw[List.length_take]; omega),zqe (fI (by omega)),show(k:Int)+1=((k+1:Nat):Int) by omega];have:=zBA hl d (k+1) hkl (by omega);rw[List.take_add_one,hg] at this;exact this
  ·rw[if_neg (by omega),List.take_of_length_le (by omega)]
theorem zBB{c:Cse}(ht:zzY c.Tariffs)(hl:c.Fields.length≤6):zuv c=some c:=by
 unfold zuv;rw[zz6 ht,obs];exact zBA hl 1000000 0 (by omega) (by omega)
end
end Go.Proofs.YteojndcmgpiklaaGreat

namespace Go.Proofs.YteojndcmgpiklaaGreat
open _root_.Go.Proofs.Tryz
open Go.Abs
set_option maxRecDepth 100000
noncomputable section
structure zBC (f:Fld) (t:Thr):Prop where
 a:f.First.Lo≤t.First∧t.First≤f.First.Hi
 b:f.Second.Lo≤t.Second∧t.Second≤f.Second.Hi
 u:f.Umpire.Lo≤t.Umpire∧t.Umpire≤f.Umpire.Hi
structure zBD (t:Thr):Prop where
 a:0≤t.First∧t.First≤100
 b:0≤t.Second∧t.Second≤100
 u:0≤t.Umpire∧t.Umpire≤100
theorem zBC.rng{l:List Tf}{f:Fld}(h:zBd l f){t:Thr}(ht:zBC f t):zBD t:=by
 have h1:=h.fst; have h2:=h.snd; have h3:=h.ump;have:=h1.lo; have:=h1.hi; have:=h2.lo; have:=h2.hi; have:=h3.lo; have:=h3.hi;have:=ht.a; have:=ht.b; have:=ht.u;exact⟨by omega,by omega,by omega⟩
def zBE(a b:Int):Int:=max a b - min a b
def zBF(f:Fld)(t:Thr):Prop:=f.Near < zBE t.First t.Second
instance (f:Fld) (t:Thr):Decidable (zBF f t):=by unfold zBF; infer_instance
def zBG(f:Fld)(t:Thr):Int:=if zBF f t then min (max t.Umpire (min t.First t.Second)) (max t.First t.Second) else (t.First+t.Second) / 2
def zBH(f:Fld)(t:Thr):Int:=if zBF f t then (if zBE t.Second (zBG f t) < zBE t.First (zBG f t) then 2 else if zBE t.First (zBG f t) < zBE t.Second (zBG f t) then 3 else 1) else 0
theorem zBI{a b:Int}(ha:0≤a∧a≤100)(hb:0≤b∧b≤100):ztD a b=some (zBE a b):=zqe (fI (by omega))
theorem zBJ{f:Fld}{t:Thr}(h:zBD t):Ev (ztE f t) (zBF f t):=Ev.bind (zBI h.a h.b) (Ev.dec Iff.rfl)
theorem zBK{f:Fld}{t:Thr}:min t.First t.Second≤zBG f t∧zBG f t≤max t.First t.Second:=by
 unfold zBG
 split <;> omega
theorem zBL{f:Fld}{t:Thr}(h:zBD t):0≤zBG f t∧zBG f t≤100:=by
 have:=@zBK f t;have:=h.a; have:=h.b
 omega
theorem zBM{f:Fld}{t:Thr}(h:zBD t):ztF f t=some (zBG f t):=by
 have h1:=h.a; have h2:=h.b;unfold zBG
 exact Ev.pick (zBJ h) (fun hc=>by rw[if_pos rfl,if_pos hc]) fun hc=>by
  rw[zqf rfl,if_neg hc,zqe (fI (by omega)),zqe (by omega),zqe (by omega),zqe (fI (by omega))]
theorem zBN{f:Fld}{t:Thr}(h:zBD t):ztG f t=some (zBH f t):=by
 have hs:=zBL (f:=f) h;unfold ztG;rw[zBM h,obs,zBI h.a hs,obs,zBI h.b hs,obs];unfold zBH
 refine Ev.pick (zBJ h) (fun hc=>?_) fun hc=>by rw[zqf rfl,if_neg hc]
 rw[if_pos rfl,if_pos hc]
 split
 ·rfl
 ·split <;> rfl
theorem zBO{f:Fld}{t:Thr}:0≤zBH f t∧zBH f t < 4:=by
 unfold zBH
 repeat' split
 all_goals omega
def cnt(r:Rg):Nat:=(r.Hi - r.Lo+1).toNat
def zBP(f:Fld):List Thr:=(segI f.First.Lo (cnt f.First)).flatMap fun a=>(segI f.Second.Lo (cnt f.Second)).flatMap fun b=>(segI f.Umpire.Lo (cnt f.Umpire)).map fun u=>⟨a,b,u⟩
theorem zBQ{r:Rg}(h:zBb r){x:Int}:x∈segI r.Lo (cnt r)↔r.Lo≤x∧x≤r.Hi:=by
 have:=h.le;rw[zrl]; unfold cnt; omega
theorem zBR{r:Rg}(h:zBb r):0 < cnt r∧cnt r≤5:=by
 have:=h.le; have:=h.wd;unfold cnt; omega
theorem zBS{l:List Tf}{f:Fld}(h:zBd l f){t:Thr}:t∈zBP f↔zBC f t:=by
 unfold zBP
 simp only[List.mem_flatMap,List.mem_map,zBQ h.fst,zBQ h.snd,zBQ h.ump]
 constructor
 ·rintro⟨a,ha,b,hb,u,hu,rfl⟩; exact⟨ha,hb,hu⟩
 ·intro ht; exact⟨_,ht.a,_,ht.b,_,ht.u,rfl⟩
theorem zBT{l:List Tf}{f:Fld}(h:zBd l f):0 < (zBP f).length∧(zBP f).length≤125:=by
  have h1:=zBR h.fst; have h2:=zBR h.snd; have h3:=zBR h.ump
  have e:(zBP f).length=cnt f.First * (cnt f.Second * cnt f.Umpire):=by
    unfold zBP
    simp[List.length_flatMap,zrm,List.map_const',List.sum_replicate_nat]
  rw[e];refine⟨Nat.mul_pos h1.1 (Nat.mul_pos h2.1 h3.1),?_⟩
  calc cnt f.First * (cnt f.Second * cnt f.Umpire)≤5 * (5 * 5):=Nat.mul_le_mul h1.2 (Nat.mul_le_mul h2.2 h3.2)
    _=125:=rfl
theorem zBU{f:Fld}(h:zBb f.Umpire){x y:Int}(hy:-1000≤y∧y≤1000){K:Int→Option (List Thr)}{r:List Thr}(hK:K (y+1)=some r):∀(d n:Nat) (k:Int),f.Umpire.Lo≤k→n < d→k+n=f.Umpire.Hi+1→ztH f x y K d k=some ((segI k n).map (fun u=>⟨x,y,u⟩)++r)
 | 0,n,k,_,h2,_=>by omega
 | d+1,0,k,_,_,h3=>by
  rw[ztH,if_neg (by omega),zqe (fI (by omega)),hK]; rfl
 | d+1,n+1,k,h1,h2,h3=>by
  have:=h.lo; have:=h.hi;rw[ztH,if_pos (by omega),zqe (fI (by omega)),zBU h hy hK d n (k+1) (by omega) (by omega) (by omega)]
  rfl
theorem zBV{f:Fld}(hu:zBb f.Umpire)(h:zBb f.Second){x:Int}(hx:-1000≤x∧x≤1000){K:Int→Option (List Thr)}{r:List Thr}(hK:K (x+1)=some r):∀(d n:Nat) (k:Int),f.Second.Lo≤k→n < d→k+n=f.Second.Hi+1→ztI f x K d k=some ((segI k n).flatMap (fun b=>(segI f.Umpire.Lo (cnt f.Umpire)).map fun u=>⟨x,b,u⟩)++r)
 | 0,n,k,_,h2,_=>by omega
 | d+1,0,k,_,_,h3=>by
  rw[ztI,if_neg (by omega),zqe (fI (by omega)),hK]; rfl
 | d+1,n+1,k,h1,h2,h3=>by
  have:=h.lo; have:=h.hi; have:=hu.le;have:=zBR hu;rw[ztI,if_pos (by omega),zBU hu (by omega) (zBV hu h hx hK d n (k+1) (by omega) (by omega) (by omega)) 1000000 (cnt f.Umpire) f.Umpire.Lo (by omega) (by omega) (by unfold cnt; omega)]
  simp only[segI,List.flatMap_cons,List.append_assoc]
theorem zBW{f:Fld}(hu:zBb f.Umpire)(hs:zBb f.Second)(h:zBb f.First):∀(d n:Nat) (k:Int),f.First.Lo≤k→n < d→k+n=f.First.Hi+1→ztJ f d k=some ((segI k n).flatMap fun a=>(segI f.Second.Lo (cnt f.Second)).flatMap fun b=>(segI f.Umpire.Lo (cnt f.Umpire)).map fun u=>⟨a,b,u⟩)
 | 0,n,k,_,h2,_=>by omega
 | d+1,0,k,_,_,h3=>by
  rw[ztJ,if_neg (by omega)]; rfl
 | d+1,n+1,k,h1,h2,h3=>by
  have:=h.lo; have:=h.hi; have:=hs.le;have:=zBR hs;rw[ztJ,if_pos (by omega),zBV hu hs (by omega) (zBW hu hs h d n (k+1) (by omega) (by omega) (by omega)) 1000000 (cnt f.Second) f.Second.Lo (by omega) (by omega) (by unfold cnt; omega)]
  simp only[segI,List.flatMap_cons]
theorem zBX{l:List Tf}{f:Fld}(h:zBd l f):ztL f=some (zBP f):=by
 have:=zBR h.fst; have:=h.fst.le;unfold ztL ztK;rw[zBW h.ump h.snd h.fst 1000000 (cnt f.First) f.First.Lo (by omega) (by omega) (by unfold cnt; omega)]; rfl
def zBY(c:Cse)(f:Fld)(n:Int):Int:=f.Value * zzh c.Tariffs f.Crop c.Day n / 100
def zBZ(c:Cse)(M:Option (Clm→Option Int)):Prop:=∃g,M=some g∧∀k v,g k=some v→v=zAx c.Tariffs k ⟨c.Day,k.Count.Lo⟩
theorem zB0{c:Cse}:zBZ c (some fun _=>none):=⟨_,rfl,fun _ _ h=>by cases h⟩
theorem zB1{c:Cse}(hc:zBe c){f:Fld}(hf:zBd c.Tariffs f){n:Int}(hn:0≤n∧n≤100):0≤zBY c f n∧zBY c f n≤100000:=
 zA6 hc.tar ((zBn hc.day hn).2 ⟨hf.crop,hf.val⟩) (t:=⟨c.Day,n⟩) ⟨⟨Int.le_refl _,Int.le_refl _⟩,Int.le_refl _,Int.le_refl _⟩
theorem zB2{c:Cse}(hc:zBe c){f:Fld}(hf:zBd c.Tariffs f){n:Int}(hn:0≤n∧n≤100):MK.fit (zBm c f n):=by
 have h1:=hf.crop; have h2:=hf.val; have h3:=hc.day; have h4:=zAn hc.tar;exact⟨fI (n:=f.Crop) (by omega),fI (n:=f.Value) (by omega),fI (n:=c.Day) (by omega),fI (n:=c.Day) (by omega),fI (n:=n) (by omega),fI (n:=n) (by omega),trivial⟩
theorem zB3{c:Cse}(hc:zBe c){M:Option (Clm→Option Int)}(hM:zBZ c M){f:Fld}(hf:zBd c.Tariffs f){n:Int}(hn:0≤n∧n≤100):∃M',zt9 ⟨c,M⟩ f n=some (zBY c f n,M')∧zBZ c M':=by
 obtain⟨g,rfl,hg⟩:=hM;have hcl:=(zBn (f:=f) hc.day hn).2 ⟨hf.crop,hf.val⟩;have hfit:=zB2 hc hf hn;unfold zt9;rw[show ztS (UWk.mk c (some g)).c f n=some (zBm c f n) from rfl,obs,zqe hfit]
 cases hk:g (zBm c f n) with
 | some v=>
  rw[zqK (show zqz (UWk.mk c (some g)).payments (zBm c f n)=some v from hk)];refine⟨_,?_,g,rfl,hg⟩;rw[hg _ _ hk]; rfl
 | none=>
  rw[zqJ (show zqz (UWk.mk c (some g)).payments (zBm c f n)=none from hk)];have hp:zto (UWk.mk c (some g)).c.Tariffs (zBm c f n) ⟨(UWk.mk c (some g)).c.Day,n⟩=some (zBY c f n,0):=zAF hc.tar hcl (t:=⟨c.Day,n⟩) ⟨⟨Int.le_refl _,Int.le_refl _⟩,Int.le_refl _,Int.le_refl _⟩;rw[hp,obs,zqe hfit];refine⟨_,rfl,_,rfl,fun k v h=>?_⟩
  dsimp only at h
  split at h
  ·rename_i he; subst he; cases h; rfl
  ·exact hg k v h
def ocN(c:Cse)(f:Fld)(t:Thr):Oc:=⟨zBY c f (zBG f t),zBH f t⟩
theorem zB4{c:Cse}(hc:zBe c){M:Option (Clm→Option Int)}(hM:zBZ c M){f:Fld}(hf:zBd c.Tariffs f){t:Thr}(ht:zBC f t):∃M',zua ⟨c,M⟩ f t=some (ocN c f t,M')∧zBZ c M':=by
 have hr:=ht.rng hf;obtain⟨M',h1,h2⟩:=zB3 hc hM hf (zBL (f:=f) hr);refine⟨M',?_,h2⟩;unfold zua;rw[zBM hr,obs,h1,obs,zBN hr]; rfl
structure zB5 (o:Oc):Prop where
 p:0≤o.pence∧o.pence≤100000
 l:0≤o.loser∧o.loser < 4
theorem zB6{c:Cse}(hc:zBe c){f:Fld}(hf:zBd c.Tariffs f){t:Thr}(ht:zBC f t):zB5 (ocN c f t):=⟨zB1 hc hf (zBL (ht.rng hf)),zBO⟩
theorem zB5.fit{o:Oc}(h:zB5 o):MK.fit o:=⟨fI (by have:=h.p; omega),fI (by have:=h.l; omega),trivial⟩
def zB7(v:Ver)(o:Oc):Ver:=⟨v.fee,v.pence+o.pence,⟨v.fields.f0+(if o.loser=0 then 1 else 0),v.fields.f1+(if o.loser=1 then 1 else 0),v.fields.f2+(if o.loser=2 then 1 else 0),v.fields.f3+(if o.loser=3 then 1 else 0)⟩⟩
structure zB8 (k:Int) (v:Ver):Prop where
 fee:0≤v.fee∧v.fee≤10000
 p:0≤v.pence∧v.pence≤100000 * k
 f0:0≤v.fields.f0∧v.fields.f0≤k
 f1:0≤v.fields.f1∧v.fields.f1≤k
 f2:0≤v.fields.f2∧v.fields.f2≤k
 f3:0≤v.fields.f3∧v.fields.f3≤k
theorem zB9{k:Int}{v:Ver}(h:zB8 k v){o:Oc}(ho:zB5 o):zB8 (k+1) (zB7 v o):=by
 have:=ho.p; have:=h.p; have:=h.f0; have:=h.f1; have:=h.f2; have:=h.f3;refine⟨h.fee,?_,?_,?_,?_,?_⟩
 ·show 0≤v.pence+o.pence∧v.pence+o.pence≤100000 * (k+1); omega
 all_goals (simp only[zB7]; split <;> omega)
theorem zCa{k:Int}(hk:k≤1000){v:Ver}(h:zB8 k v){o:Oc}(ho:zB5 o):zt2 v o=some (zB7 v o):=by
 have h1:=ho.p; have h2:=h.p; have h3:=h.f0; have h4:=h.f1; have h5:=h.f2; have h6:=h.f3; have h7:=ho.l;obtain⟨op,ol⟩:=o
 dsimp only at h1 h7
 have hcase:ol=0∨ol=1∨ol=2∨ol=3:=by omega
 unfold zt2;rw[zqe (fI (by dsimp only; omega))]
 rcases hcase with rfl | rfl | rfl | rfl
 ·rw[zq4 rfl,obs,zqe (fI (by omega)),zqe (by omega)]
  simp[sti,zB7]
 ·rw[show idx [v.fields.f0,v.fields.f1,v.fields.f2,v.fields.f3] (1:Int)=some v.fields.f1 from rfl,obs,zqe (fI (by omega)),zqe (by omega)]
  simp[sti,zB7]
 ·rw[show idx [v.fields.f0,v.fields.f1,v.fields.f2,v.fields.f3] (2:Int)=some v.fields.f2 from rfl,obs,zqe (fI (by omega)),zqe (by omega)]
  simp[sti,zB7]
 ·rw[show idx [v.fields.f0,v.fields.f1,v.fields.f2,v.fields.f3] (3:Int)=some v.fields.f3 from rfl,obs,zqe (fI (by omega)),zqe (by omega)]
  simp[sti,zB7]
def zCb(v:Ver):Prop:=0 < v.fields.f1+v.fields.f2+v.fields.f3
instance (v:Ver):Decidable (zCb v):=by unfold zCb; infer_instance
def zCc(v:Ver):Int:=if zCb v then (if v.fields.f2 < v.fields.f3 then 0 else if v.fields.f3 < v.fields.f2 then v.fee else v.fee - v.fee / 2) else 0
def zCd(v:Ver):Int:=if zCb v then v.fee - zCc v else 0
theorem zCe{k:Int}(hk:k≤1000){v:Ver}(h:zB8 k v):Ev (zt3 v) (zCb v):=by
 have h4:=h.f1; have h5:=h.f2; have h6:=h.f3;unfold zt3;rw[show idx [v.fields.f0,v.fields.f1,v.fields.f2,v.fields.f3] (1:Int)=some v.fields.f1 from rfl,obs,show idx [v.fields.f0,v.fields.f1,v.fields.f2,v.fields.f3] (2:Int)=some v.fields.f2 from rfl,obs,zqe (fI (by omega)),show idx [v.fields.f0,v.fields.f1,v.fields.f2,v.fields.f3] (3:Int)=some v.fields.f3 from rfl,obs,zqe (fI (by omega))];exact Ev.dec Iff.rfl
theorem zCf{k:Int}(hk:k≤1000){v:Ver}(h:zB8 k v):zt5 v=some (zCc v):=by
 have hf:=h.fee;unfold zt5 zCc;rw[show idx [v.fields.f0,v.fields.f1,v.fields.f2,v.fields.f3] (2:Int)=some v.fields.f2 from rfl,obs,show idx [v.fields.f0,v.fields.f1,v.fields.f2,v.fields.f3] (3:Int)=some v.fields.f3 from rfl,obs]
 refine Ev.pick (zCe hk h) (fun hc=>?_) fun hc=>by rw[zqf rfl,if_neg hc]
 rw[if_pos rfl,if_pos hc]
 split
 ·rfl
 ·split
  ·rfl
  ·rw[zqe (by omega),zqe (by omega),zqe (fI (by omega)),zqe (fI (by omega))]
theorem zCg{k:Int}{v:Ver}(h:zB8 k v):0≤zCc v∧zCc v≤v.fee:=by
 have:=h.fee;unfold zCc
 repeat' split
 all_goals omega
theorem zCh{k:Int}(hk:k≤1000){v:Ver}(h:zB8 k v):zt6 v=some (zCd v):=by
 have hf:=h.fee; have hr:=zCg h;unfold zt6 zCd
 refine Ev.pick (zCe hk h) (fun hc=>?_) fun hc=>by rw[zqf rfl,if_neg hc]
 rw[if_pos rfl,if_pos hc,zCf hk h,obs,zqe (fI (by omega))]
theorem zCi{k:Int}{v:Ver}(h:zB8 k v):0≤zCd v∧zCd v≤v.fee:=by
 have:=h.fee; have:=zCg h;unfold zCd
 split <;> omega
theorem zCj{k:Int}(hk:k≤1000){v:Ver}(h:zB8 k v):zt7 v=some (v.pence - zCc v):=by
 have hf:=h.fee; have hr:=zCg h; have:=h.p;unfold zt7 zt4;rw[obs,zCf hk h,obs,zqe (fI (by omega))]
theorem zCk{k:Int}(hk:k≤1000){v:Ver}(h:zB8 k v):zt8 v=some (v.pence+zCd v):=by
 have hf:=h.fee; have hr:=zCi h; have:=h.p;unfold zt8 zt4;rw[obs,zCh hk h,obs,zqe (fI (by omega))]
def zCl:List Fld→List Thr→Prop
 | [],[]=>True
 | f::fs,t::ts=>zBC f t∧zCl fs ts
 | _,_=>False
theorem zCl.len:∀{fs:List Fld} {ts:List Thr},zCl fs ts→fs.length=ts.length
 | [],[],_=>rfl
 | _f::_fs,_t::_ts,h=>congrArg (· + 1) (zCl.len h.2)
theorem zCm{f:Fld}{t:Thr}:Ev (ztC f t) (zBC f t):=
 (Ev.and zBh fun _=>Ev.and zBh fun _=>zBh.ret).imp ⟨fun h=>⟨h.1,h.2.1,h.2.2⟩,fun h=>⟨h.a,h.b,h.u⟩⟩
theorem zCn{α:Type}{l:List α}{k:Nat}(h:k < l.length):∃a,l[k]? = some a∧l.drop k=a::l.drop (k+1):=
 ⟨l[k],List.getElem?_eq_getElem h,List.drop_eq_getElem_cons h⟩
theorem zCo{c:Cse}{t:List Thr}(hl:c.Fields.length≤3)(he:t.length=c.Fields.length):∀(d k:Nat),k≤c.Fields.length→c.Fields.length - k < d→Ev (ztX c t d (k:Int)) (zCl (c.Fields.drop k) (t.drop k))
 | 0,k,_,h=>by omega
 | d+1,k,hk,h=>by
  rw[ztX]
  by_cases hkl:k < c.Fields.length
  ·obtain⟨f,h1,h2⟩:=zCn hkl;obtain⟨x,h3,h4⟩:=zCn (l:=t) (k:=k) (by omega);rw[if_pos (by omega),zq1 h1,obs,zq1 h3,obs,h2,h4]
   exact Ev.and zCm fun _=>Ev.gd (fI (by omega)) (by
    rw[show(k:Int)+1=((k+1:Nat):Int) by omega]
    exact zCo hl he d (k+1) hkl (by omega))
  ·rw[if_neg (by omega),List.drop_eq_nil_of_le (by omega),List.drop_eq_nil_of_le (by omega)];exact Ev.tt trivial
theorem zCp{c:Cse}(hl:c.Fields.length≤3){t:List Thr}:Ev (ztY c t) (zCl c.Fields t):=by
 unfold ztY
 by_cases he:t.length=c.Fields.length
 ·rw[if_pos (by omega)];exact zCo hl he (c.Fields.length+1) 0 (by omega) (by omega)
 ·rw[if_neg (by omega)];exact Ev.ff fun h=>he h.len.symm
def verF(c:Cse):List Fld→List Thr→Ver→Ver
 | f::fs,t::ts,v=>verF c fs ts (zB7 v (ocN c f t))
 | _,_,v=>v
def zCq:List Fld→List Thr→List Int
 | f::fs,t::ts=>zBG f t::zCq fs ts
 | _,_=>[]
def zCr(c:Cse)(ts:List Thr):Ver:=verF c c.Fields ts ⟨c.Fee,0,⟨0,0,0,0⟩⟩
def zCs(c:Cse)(ts:List Thr):Res:=⟨zCq c.Fields ts,(zCr c ts).pence,zCc (zCr c ts),zCd (zCr c ts)⟩
theorem zCt{c:Cse}(hc:zBe c):zB8 0 ⟨c.Fee,0,⟨0,0,0,0⟩⟩:=⟨hc.fee,by dsimp only; omega,by dsimp only; omega,by dsimp only; omega,by dsimp only; omega,by dsimp only; omega⟩
theorem zCu{c:Cse}(hc:zBe c){t:List Thr}(he:t.length=c.Fields.length):∀(d k:Nat) (M:Option (Clm→Option Int)) (l:List Int) (v:Ver),k≤c.Fields.length→c.Fields.length - k < d→l.length=k→zCl (c.Fields.drop k) (t.drop k)→zBZ c M→zB8 (k:Int) v→∀M0,
  ∃M',zud ⟨c,M0⟩ t d l 0 0 0 v.fee v.pence v.fields.f0 v.fields.f1 v.fields.f2 v.fields.f3 M (k:Int)=some (⟨l++zCq (c.Fields.drop k) (t.drop k),(verF c (c.Fields.drop k) (t.drop k) v).pence,zCc (verF c (c.Fields.drop k) (t.drop k) v),zCd (verF c (c.Fields.drop k) (t.drop k) v)⟩,M')∧zBZ c M'
 | 0,k,_,_,_,_,h,_,_,_,_,_=>by omega
 | d+1,k,M,l,v,hk,h,hll,ht,hM,hv,M0=>by
  have hlen:=hc.len;rw[zud]
  dsimp only
  by_cases hkl:k < c.Fields.length
  ·obtain⟨f,h1,h2⟩:=zCn hkl;obtain⟨x,h3,h4⟩:=zCn (l:=t) (k:=k) (by omega);rw[h2,h4] at ht ⊢;have hf:=hc.fld f (List.mem_of_getElem? h1);obtain⟨M1,g1,g2⟩:=zB4 hc hM hf ht.1;rw[if_pos (by omega),zq1 h1,obs,zq1 h3,obs,zBM (ht.1.rng hf),obs,zqe (by omega),obs,g1,obs]
   dsimp only
   have hvw:=zCa (k:=(k:Int)) (by omega) hv (zB6 hc hf ht.1);rw[show(⟨v.fee,v.pence,⟨v.fields.f0,v.fields.f1,v.fields.f2,v.fields.f3⟩⟩:Ver)=v from rfl,hvw,obs,zqe (fI (by omega)),show(k:Int)+1=((k+1:Nat):Int) by omega];have hok:=zB9 hv (zB6 hc hf ht.1);obtain⟨M',q1,q2⟩:=zCu hc he d (k+1) M1 (l++[zBG f x]) (zB7 v (ocN c f x)) hkl (by omega) (by simp; omega) ht.2 g2 (by rw[show((k+1:Nat):Int)=(k:Int)+1 by omega]; exact hok) M0;refine⟨M',?_,q2⟩;rw[q1]
   simp[zCq,verF]
  ·rw[if_neg (by omega),List.drop_eq_nil_of_le (by omega),List.drop_eq_nil_of_le (by omega)];refine⟨M,?_,hM⟩;rw[show(⟨v.fee,v.pence,⟨v.fields.f0,v.fields.f1,v.fields.f2,v.fields.f3⟩⟩:Ver)=v from rfl]
   simp only[zt4,obs,zCf (k:=(k:Int)) (by omega) hv,zCh (k:=(k:Int)) (by omega) hv,zCq,verF,List.append_nil]
theorem zCv{c:Cse}(hc:zBe c){M:Option (Clm→Option Int)}(hM:zBZ c M){t:List Thr}(ht:zCl c.Fields t):∃M',zue ⟨c,M⟩ t=some (zCs c t,M')∧zBZ c M':=by
 obtain⟨M',h1,h2⟩:=zCu hc ht.len.symm (c.Fields.length+1) 0 M [] ⟨c.Fee,0,⟨0,0,0,0⟩⟩ (by omega) (by omega) rfl ht hM (zCt hc) M;exact⟨M',h1,h2⟩
theorem zCw{c:Cse}(hc:zBe c):zt0 c=some (⟨c,some fun _=>none⟩,0):=by unfold zt0; rw[zBr,obs,zBg.2 hc,if_pos rfl]
theorem zCx{c:Cse}(hc:zBe c){t:List Thr}(ht:zCl c.Fields t):zum c t=some (zCs c t,0):=by
 obtain⟨M',h1,h2⟩:=zCv hc zB0 ht;unfold zum;rw[zCw hc,obs,if_pos rfl,(zCp hc.len).some_of ht,obs,if_pos rfl,h1]; rfl
open Classical in
theorem zCy{c:Cse}(hc:zBe c){f:Fld}(hf:zBd c.Tariffs f){M0:Option (Clm→Option Int)}:∀(l:List Thr) (M:Option (Clm→Option Int)) (g:Oc→Option Bool),zBZ c M→(∀t∈l,zBC f t) →
  ∃g' M',zub ⟨c,M0⟩ f l M (some g)=some (some g',M')∧zBZ c M'∧∀o,g' o ≠ none↔g o ≠ none∨∃t∈l,ocN c f t=o
 | [],M,g,hM,_=>⟨g,M,rfl,hM,fun o=>⟨.inl,fun h=>h.elim id fun⟨t,ht,_⟩=>by cases ht⟩⟩
 | t::l,M,g,hM,hl=>by
  have ht:=hl t (List.mem_cons_self ..);obtain⟨M1,h1,h2⟩:=zB4 hc hM hf ht;obtain⟨g',M',q1,q2,q3⟩:=zCy hc hf (M0:=M0) l M1 (fun j=>if j=ocN c f t then some true else g j) h2 fun u hu=>hl u (List.mem_cons_of_mem _ hu);refine⟨g',M',?_,q2,fun o=>?_⟩
  ·rw[zub]
   dsimp only
   rw[h1,obs,zqe (zB6 hc hf ht).fit]
   show(some _:Option (Option (Oc→Option Bool))).bind _=_
   rw[obs];exact q1
  ·rw[q3]
   constructor
   ·rintro (h | ⟨u,hu,rfl⟩)
    ·split at h
     ·rename_i he; exact .inr ⟨t,List.mem_cons_self ..,he.symm⟩
     ·exact .inl h
    ·exact .inr ⟨u,List.mem_cons_of_mem _ hu,rfl⟩
   ·rintro (h | ⟨u,hu,rfl⟩)
    ·left
     split
     ·simp
     ·exact h
    ·rcases List.mem_cons.1 hu with rfl | hu
     ·left; rw[if_pos rfl]; simp
     ·exact .inr ⟨u,hu,rfl⟩
theorem zCz{c:Cse}(hc:zBe c){M:Option (Clm→Option Int)}(hM:zBZ c M){f:Fld}(hf:zBd c.Tariffs f):∃g M',zuc ⟨c,M⟩ f=some (some g,M')∧zBZ c M'∧∀o,g o ≠ none↔∃t,zBC f t∧ocN c f t=o:=by
 obtain⟨g,M',h1,h2,h3⟩:=zCy hc hf (M0:=M) (zBP f) M (fun _=>none) hM fun t ht=>(zBS hf).1 ht;refine⟨g,M',?_,h2,fun o=>?_⟩
 ·unfold zuc;rw[zBX hf,obs];exact h1
 ·rw[h3]
  constructor
  ·rintro (h | ⟨t,ht,he⟩)
   ·exact absurd rfl h
   ·exact⟨t,(zBS hf).1 ht,he⟩
  ·rintro⟨t,ht,he⟩
   exact .inr ⟨t,(zBS hf).2 ht,he⟩
theorem zCA{c:Cse}(hc:zBe c){f:Fld}(hf:zBd c.Tariffs f):∃L:List KOc,(∀a:KOc,a∈L↔∃t,zBC f t∧ocN c f t=a.1)∧L.length≤125:=by
 have hfit:∀t,zBC f t→MK.fit (ocN c f t):=fun t ht=>(zB6 hc hf ht).fit
 have key:∀l:List Thr,(∀t∈l,zBC f t)→∃L:List KOc,(∀a:KOc,a∈L↔∃t∈l,ocN c f t=a.1)∧L.length=l.length:=by
  intro l
  induction l with
  | nil=>exact fun _=>⟨[],fun a=>⟨fun h=>(by cases h),fun⟨_,h,_⟩=>(by cases h)⟩,rfl⟩
  | cons t l ih=>
   intro hl;obtain⟨L,h1,h2⟩:=ih fun u hu=>hl u (List.mem_cons_of_mem _ hu);refine⟨⟨ocN c f t,hfit t (hl t (List.mem_cons_self ..))⟩ :: L,fun a=>?_,by simp[h2]⟩;rw[List.mem_cons,h1]
   constructor
   ·rintro (rfl | ⟨u,hu,he⟩)
    ·exact⟨t,List.mem_cons_self ..,rfl⟩
    ·exact⟨u,List.mem_cons_of_mem _ hu,he⟩
   ·rintro⟨u,hu,he⟩
    rcases List.mem_cons.1 hu with rfl | hu
    ·exact .inl (Subtype.ext he.symm)
    ·exact .inr ⟨u,hu,he⟩
 obtain⟨L,h1,h2⟩:=key (zBP f) fun t ht=>(zBS hf).1 ht;refine⟨L,fun a=>(h1 a).trans ⟨fun⟨t,ht,he⟩=>⟨t,(zBS hf).1 ht,he⟩,fun⟨t,ht,he⟩=>⟨t,(zBS hf).2 ht,he⟩⟩,by rw[h2]; exact(zBT hf).2⟩
open Classical in
theorem zCB{α:Type}:∀l:List α,∃l':List α,l'.Nodup∧(∀a,a∈l'↔a∈l)∧l'.length≤l.length
 | []=>⟨[],List.nodup_nil,fun _=>Iff.rfl,Nat.le_refl _⟩
 | a::l=>by
  obtain⟨l',h1,h2,h3⟩:=zCB l
  by_cases ha:a∈l'
  ·refine⟨l',h1,fun b=>?_,by simp; omega⟩;rw[List.mem_cons,h2];exact⟨.inr,fun h=>h.elim (fun h=>h ▸ (h2 a).1 ha) id⟩
  ·refine⟨a::l',List.nodup_cons.2 ⟨ha,h1⟩,fun b=>?_,by simp; omega⟩;rw[List.mem_cons,List.mem_cons,h2]
theorem zCC{c:Cse}(hc:zBe c){f:Fld}(hf:zBd c.Tariffs f){g:Oc→Option Bool}(hg:∀o,g o ≠ none↔∃t,zBC f t∧ocN c f t=o) :
  (∀o,o∈zuH g↔∃t,zBC f t∧ocN c f t=o)∧(zuH g).length≤125:=by
 obtain⟨L0,l1,l2⟩:=zCA hc hf;obtain⟨L,n1,n2,n3⟩:=zCB L0
 have hL:∀a:KOc,a∈L↔fOc g a ≠ none:=fun a=>by
  have e1:fOc g a ≠ none↔g a.1 ≠ none:=by
   show(g a.1).map MV.enc ≠ none↔_
   cases g a.1 <;> simp
  rw[e1,hg,n2,l1]
 have hex:zqY (zqy Oc) (fOc g) L:=⟨n1,hL⟩;have hk:=zuG hex;have hp:=zqY.perm hk hex
 constructor
 ·intro o;unfold zuH;rw[List.mem_map]
  constructor
  ·rintro⟨a,ha,rfl⟩
   exact(l1 a).1 ((n2 a).1 (hp.subset ha))
  ·rintro⟨t,ht,he⟩
   subst he;exact⟨⟨ocN c f t,(zB6 hc hf ht).fit⟩,hp.symm.subset ((n2 _).2 ((l1 _).2 ⟨t,ht,rfl⟩)),rfl⟩
 ·unfold zuH;rw[List.length_map,hp.length_eq]
  omega
inductive zCD (c:Cse):List Fld→List (Oc→Option Bool)→Prop where
 | nil:zCD c [] []
 | cons {f:Fld} {fs:List Fld} {g:Oc→Option Bool} {gs:List (Oc→Option Bool)}:(∀o,o∈zuH g↔∃t,zBC f t∧ocN c f t=o)→(zuH g).length≤125→zCD c fs gs→zCD c (f::fs) (g::gs)
theorem zCE{c:Cse}(hc:zBe c){M0:Option (Clm→Option Int)}:∀(fs:List Fld) (M:Option (Clm→Option Int)),zBZ c M→(∀f∈fs,zBd c.Tariffs f)→∃gs M',zuL ⟨c,M0⟩ fs M=some (gs,M')∧zBZ c M'∧zCD c fs gs
 | [],M,hM,_=>⟨[],M,rfl,hM,.nil⟩
 | f::fs,M,hM,hf=>by
  obtain⟨g,M1,h1,h2,h3⟩:=zCz hc hM (hf f (List.mem_cons_self ..));obtain⟨gs,M',q1,q2,q3⟩:=zCE hc (M0:=M0) fs M1 h2 fun x hx=>hf x (List.mem_cons_of_mem _ hx);have hk:=zCC hc (hf f (List.mem_cons_self ..)) h3;refine⟨g::gs,M',?_,q2,.cons hk.1 hk.2 q3⟩;rw[zuL]
  dsimp only
  rw[h1,obs,obs,q1]; rfl
theorem zCF{c:Cse}(hc:zBe c){fs:List Fld}{G:Ver→Option (List Ver)}{v:Ver}{k:Int}(hk:k≤100)(hv:zB8 k v){f:Fld}(hf:zBd c.Tariffs f){N:Nat}
  (hG:∀v',zB8 (k+1) v'→∃vs,G v'=some vs∧(∀u,u∈vs↔∃ts,zCl fs ts∧verF c fs ts v'=u)∧vs.length≤N) :
  ∀L:List Oc,(∀o∈L,∃t,zBC f t∧ocN c f t=o)→∃vs,zuI G v L=some vs∧(∀u,u∈vs↔∃o∈L,∃ts,zCl fs ts∧verF c fs ts (zB7 v o)=u)∧vs.length≤L.length * N
 | [],_=>⟨[],rfl,fun u=>⟨fun h=>(by cases h),fun⟨o,ho,_⟩=>(by cases ho)⟩,by simp⟩
 | o::L,hL=>by
  obtain⟨t,ht,he⟩:=hL o (List.mem_cons_self ..);have ho:zB5 o:=he ▸ zB6 hc hf ht;obtain⟨a,a1,a2,a3⟩:=hG _ (zB9 hv ho);obtain⟨b,b1,b2,b3⟩:=zCF hc hk hv hf hG L fun x hx=>hL x (List.mem_cons_of_mem _ hx);refine⟨a++b,?_,fun u=>?_,?_⟩
  ·rw[zuI,zCa (by omega) hv ho,obs,a1,obs,b1]; rfl
  ·rw[List.mem_append,a2,b2]
   constructor
   ·rintro (⟨ts,h1,h2⟩ | ⟨x,hx,h⟩)
    ·exact⟨o,List.mem_cons_self ..,ts,h1,h2⟩
    ·exact⟨x,List.mem_cons_of_mem _ hx,h⟩
   ·rintro⟨x,hx,h⟩
    rcases List.mem_cons.1 hx with rfl | hx
    ·exact .inl h
    ·exact .inr ⟨x,hx,h⟩
  ·rw[List.length_append,List.length_cons,Nat.add_mul]; omega
theorem zCG{c:Cse}(hc:zBe c):∀{fs:List Fld} {gs:List (Oc→Option Bool)},zCD c fs gs→(∀f∈fs,zBd c.Tariffs f)→∀{k:Int} {v:Ver},k+fs.length≤100→zB8 k v →
  ∃vs,zuJ (gs.map zuH) v=some vs∧(∀u,u∈vs↔∃ts,zCl fs ts∧verF c fs ts v=u)∧vs.length≤125 ^ fs.length
 | _,_,.nil,_,k,v,_,hv=>⟨[v],rfl,fun u=>⟨fun h=>⟨[],trivial,(List.mem_singleton.1 h).symm⟩,fun ⟨ts,h1,h2⟩=>by
   cases ts with
   | nil=>exact List.mem_singleton.2 h2.symm
   | cons t ts=>exact h1.elim⟩,by simp⟩
 | _,_,.cons (f:=f) (fs:=fs) (g:=g) (gs:=gs) h1 h2 h3,hf,k,v,hk,hv=>by
  simp only[List.length_cons] at hk
  have hG:∀v',zB8 (k+1) v'→_:=fun v' hv'=>zCG hc h3 (fun x hx=>hf x (List.mem_cons_of_mem _ hx)) (k:=k+1) (v:=v') (by omega) hv';obtain⟨vs,q1,q2,q3⟩:=zCF hc (by omega) hv (hf f (List.mem_cons_self ..)) hG (zuH g) fun o ho=>(h1 o).1 ho;refine⟨vs,q1,fun u=>?_,?_⟩
  ·rw[q2]
   constructor
   ·rintro⟨o,ho,ts,h4,h5⟩
    obtain⟨t,ht,rfl⟩:=(h1 o).1 ho;exact⟨t::ts,⟨ht,h4⟩,h5⟩
   ·rintro⟨ts,h4,h5⟩
    cases ts with
    | nil=>exact h4.elim
    | cons t ts=>exact⟨ocN c f t,(h1 _).2 ⟨t,h4.1,rfl⟩,ts,h4.2,h5⟩
  ·rw[List.length_cons,Nat.pow_succ,Nat.mul_comm];exact Nat.le_trans q3 (Nat.mul_le_mul_right _ h2)
theorem zCH{l:List Tf}:∀{fs:List Fld},(∀f∈fs,zBd l f)→∃ts,zCl fs ts
 | [],_=>⟨[],trivial⟩
 | f::fs,h=>by
  obtain⟨ts,hts⟩:=zCH (fs:=fs) fun x hx=>h x (List.mem_cons_of_mem _ hx);have hf:=h f (List.mem_cons_self ..);exact⟨⟨f.First.Lo,f.Second.Lo,f.Umpire.Lo⟩ :: ts,⟨⟨Int.le_refl _,hf.fst.le⟩,⟨Int.le_refl _,hf.snd.le⟩,⟨Int.le_refl _,hf.ump.le⟩⟩,hts⟩
theorem zCI{c:Cse}(hc:zBe c):∀{fs:List Fld} {ts:List Thr},(∀f∈fs,zBd c.Tariffs f)→zCl fs ts→∀{k:Int} {v:Ver},zB8 k v→zB8 (k+fs.length) (verF c fs ts v)
 | [],[],_,_,k,v,hv=>by simpa [verF] using hv
 | f::fs,t::ts,hf,ht,k,v,hv=>by
  have:=zCI hc (fun x hx=>hf x (List.mem_cons_of_mem _ hx)) ht.2 (zB9 hv (zB6 hc (hf f (List.mem_cons_self ..)) ht.1));rw[List.length_cons,show k+((fs.length+1:Nat):Int)=k+1+fs.length by omega];exact this
 | [],_::_,_,ht,_,_,_=>ht.elim
 | _::_,[],_,ht,_,_,_=>ht.elim
theorem zCJ{c:Cse}(hc:zBe c){ts:List Thr}(ht:zCl c.Fields ts):zB8 3 (zCr c ts):=by
 have h:=zCI hc hc.fld ht (zCt hc);have:=hc.len;exact⟨h.fee,by have:=h.p; unfold zCr; omega,by have:=h.f0; unfold zCr; omega,by have:=h.f1; unfold zCr; omega,by have:=h.f2; unfold zCr; omega,by have:=h.f3; unfold zCr; omega⟩
structure zCK (c:Cse) (q:Ver→Int) (r:Rg):Prop where
 all:∀ts,zCl c.Fields ts→r.Lo≤q (zCr c ts)∧q (zCr c ts)≤r.Hi
 lo:∃ts,zCl c.Fields ts∧q (zCr c ts)=r.Lo
 hi:∃ts,zCl c.Fields ts∧q (zCr c ts)=r.Hi
theorem zCL{q:Ver→Option Int}{qN:Ver→Int}:∀{vs:List Ver},(∀v∈vs,q v=some (qN v))→zuK q vs=some (vs.map qN)
 | [],_=>rfl
 | v::vs,h=>by
  rw[zuK,h v (List.mem_cons_self ..),obs,zCL fun u hu=>h u (List.mem_cons_of_mem _ hu)]; rfl
theorem zCM{c:Cse}(hc:zBe c){M:Option (Clm→Option Int)}(hM:zBZ c M){q:Ver→Option Int}{qN:Ver→Int}(hq:∀v,zB8 3 v→q v=some (qN v)):∃r M',zuN ⟨c,M⟩ ⟨q⟩=some (r,M')∧zBZ c M'∧zCK c qN r:=by
 have hl:=hc.len;obtain⟨gs,M',h1,h2,h3⟩:=zCE hc (M0:=M) c.Fields M hM hc.fld;obtain⟨vs,q1,q2,q3⟩:=zCG hc h3 hc.fld (k:=0) (v:=zuM c.Fee) (by omega) (zCt hc);have hm:∀u,u∈vs↔∃ts,zCl c.Fields ts∧zCr c ts=u:=q2
 have hne:vs ≠ []:=by
  obtain⟨ts,hts⟩:=zCH hc.fld;exact List.ne_nil_of_mem ((hm _).2 ⟨ts,hts,rfl⟩)
 have hlen:vs.length≤125 ^ 3:=Nat.le_trans q3 (Nat.pow_le_pow_right (by omega) hl);have hlen:vs.length≤1953125:=hlen
 have hx:zuK q vs=some (vs.map qN):=zCL fun v hv=>by
  obtain⟨ts,hts,rfl⟩:=(hm v).1 hv;exact hq _ (zCJ hc hts)
 have hn2:vs.map qN ≠ []:=fun h=>hne (List.map_eq_nil_iff.1 h);refine⟨⟨zrf (vs.map qN),zrg (vs.map qN)⟩,M',?_,h2,?_,?_,?_⟩
 ·unfold zuN
  dsimp only
  rw[h1,obs,zqe (by omega)]
  dsimp only
  rw[q1,obs,zqe ⟨by omega,hne⟩,hx]; rfl
 ·intro ts hts;have hmem:qN (zCr c ts)∈vs.map qN:=List.mem_map.2 ⟨_,(hm _).2 ⟨ts,hts,rfl⟩,rfl⟩;exact⟨(zrj hn2).2 _ hmem,(zrk hn2).2 _ hmem⟩
 ·obtain⟨v,hv,he⟩:=List.mem_map.1 (zrj hn2).1;obtain⟨ts,hts,rfl⟩:=(hm v).1 hv;exact⟨ts,hts,he⟩
 ·obtain⟨v,hv,he⟩:=List.mem_map.1 (zrk hn2).1;obtain⟨ts,hts,rfl⟩:=(hm v).1 hv;exact⟨ts,hts,he⟩
end
end Go.Proofs.YteojndcmgpiklaaGreat

