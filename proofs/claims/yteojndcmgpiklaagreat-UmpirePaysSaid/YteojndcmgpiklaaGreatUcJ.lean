/- An evaluator of the code of a program, its soundness, what calls ask, memory, and what functions of the program do. Condition: none; a lemma text of this claim. -/
import Derived.Test.YteojndcmgpiklaaGreatUcI

namespace Go.Proofs.YteojndcmgpiklaaGreat
open _root_.Go.Proofs.Tryz
open Go.Abs
set_option maxRecDepth 100000
noncomputable section
theorem w132(a100 a200 a201 a202 a203 a204 a205:Int)(b0 b1 b2:Nat){m:M}{Q:V→M→Prop}(h :
 (∀m0:M,(m0=(M.new m (AO.cells 6 [(Il a200),(Il a201),(Il a202),
 (Il a203),(Il a204),(Il a205)] false)))→∃c1:C,((ldC m0 (.ptr b0 0))=(some c1)) ∧ 
 isSl c1∧ifB (decide (a100=(((slLen c1):Nat):Int))) (∃c2:C,((ldC m0 (.ptr b1 0))=(some c2)) ∧ 
 ∃x3 x4 x5 x6 x7 x8,((ldA m0 (.ptr m.nxt 0) 6)=(some [(Il x3),
 (Il x4),(Il x5),(Il x6),(Il x7),
 (Il x8)]))∧callP prog tbl [(.agg 6 [(Il x3),(Il x4),
 (Il x5),(Il x6),(Il x7),(Il x8)])] c2 m0 (fun v9 m10 => 
 ∃b11:Bool,(v9=(.c (.bool b11)))∧Q (.c (.bool b11)) m10)) (∃c12:C,
 ((ldC m0 (.ptr b0 0))=(some c12))∧∃n13:Nat,(a100=((n13:Nat):Int))∧(n13 < (slLen c12)) ∧ 
 ∃c14:C,((ldC m0 (slAt c12 (n13 * 1)))=(some c14))∧∃y15:AO,((rngM m0 c14)=(some y15)) ∧ 
 ∀m16:M,(m16=(M.new m0 y15))→∀R17:List V→M→Prop,(∀b18:Bool,∀m19:M,
 (∃l20:List ((U × U) × M),((nxM m19 (.ptr m0.nxt 0))=(some l20))∧((l20=[]) → 
 Q (.c (.bool true)) m19)∧∀u21:U,∀u22:U,∀m23:M,InL u21 u22 m23 l20 → 
 ∃x24 x25,∃u26:U,((enM m23 (.ptr m0.nxt 0))=(some ((.agg 2 [(Il x24),
 (Il x25)]),u26)))∧∀m27:M,(m27=(M.new m23 (AO.cells 2 [(Il 0),
 (Il 0)] false)))→∃m28:M,((stC m27 (.ptr m23.nxt 0) 2 [(Il x24),
 (Il x25)])=(some m28))∧∃c29:C,((ldC m28 (.ptr b2 0))=(some c29)) ∧ 
 fitsP .i64 (a100+1)∧∃x30 x31 x32,
 ∃x33 x34 x35,((ldA m28 (.ptr m.nxt 0) 6)=(some [(Il x30),
 (Il x31),(Il x32),(Il x33),(Il x34),
 (Il x35)]))∧∃x36 x37,((ldA m28 (.ptr m23.nxt 0) 2)=(some [(Il x36),
 (Il x37)]))∧Wc prog tbl 86 [(.agg 6 [(Il x30),
 (Il x31),(Il x32),(Il x33),(Il x34),
 (Il x35)]),(.agg 2 [(Il x36),(Il x37)])] m28 (fun v38 m39 => 
 ∃x40 x41 x42 x43 x44 x45,
 (v38=(.agg 6 [(Il x40),(Il x41),(Il x42),
 (Il x43),(Il x44),(Il x45)])) ∧ 
 (ifB (cmC c29) ((ldC m39 (.ptr b2 0))=(some c29)) False)∧callP prog tbl [(.c (Il (a100+1))),
 (.agg 6 [(Il x40),(Il x41),(Il x42),
 (Il x43),(Il x44),(Il x45)])] c29 m39 (fun v46 m47 => 
 ∃b48:Bool,(v46=(.c (.bool b48)))∧ifB (!b48) (Q (.c (.bool false)) m47) (R17 [(.c (.bool b18))] m47)))) → 
 R17 [(.c (.bool b18))] m19)→R17 [(.c (.bool false))] m16))):Wc prog tbl 132 [.c (Il a100),.agg 6 [Il a200,Il a201,Il a202,Il a203,Il a204,Il a205],.c (.ptr b0 0),.c (.ptr b1 0),.c (.ptr b2 0)] m Q:=
 wc_eq (n:=5) rfl (by kernel_rfl) (by kernel_rfl) h
theorem w130(y:C)(b0:Nat){m:M}{Q:V→M→Prop}(h :
 (∀m0:M,(m0=(M.new m (AO.cells 1 [y] false)))→∀m1:M,(m1=(M.new m0 (AO.cells 1 [C.sl0] false))) → 
 isPt (.ptr b0 0)∧isPt (.ptr b0 0)∧∃c2:C,((ldC m1 (.ptr b0 3))=(some c2))∧isSl c2 ∧ 
 ∀R3:List V→M→Prop,(∀x4:Int,∀m5:M,(ifB (decide (x4 < (((slLen c2):Nat):Int))) (∃n6:Nat,
 (x4=((n6:Nat):Int))∧(n6 < (slLen c2))∧∃x7 x8 x9 x10,
 ∃x11 x12 x13 x14 x15,((ldA m5 (slAt c2 (n6 * 9)) 9)=(some [(Il x7),
 (Il x8),(Il x9),(Il x10),(Il x11),
 (Il x12),(Il x13),(Il x14),(Il x15)])) ∧ 
 ∀m16:M,(m16=(M.new m5 (AO.cells 9 [(Il 0),(Il 0),
 (Il 0),(Il 0),(Il 0),
 (Il 0),(Il 0),(Il 0),
 (Il 0)] false)))→∃m17:M,((stC m16 (.ptr m5.nxt 0) 9 [(Il x7),
 (Il x8),(Il x9),(Il x10),(Il x11),
 (Il x12),(Il x13),(Il x14),(Il x15)])=(some m17)) ∧ 
 ∃c18:C,((ldC m17 (.ptr m0.nxt 0))=(some c18))∧∃c19:C,
 ∃x20 x21,∃c22:C,∃c23:C,((ldA m17 (.ptr b0 0) 5)=(some [c19,
 (Il x20),(Il x21),c22,c23]))∧∃x24,
 ∃x25 x26 x27 x28 x29 x30,
 ∃x31 x32,((ldA m17 (.ptr m5.nxt 0) 9)=(some [(Il x24),
 (Il x25),(Il x26),(Il x27),(Il x28),
 (Il x29),(Il x30),(Il x31),(Il x32)])) ∧ 
 Wc prog tbl 131 [(.agg 5 [c19,(Il x20),(Il x21),
 c22,c23]),(.agg 9 [(Il x24),(Il x25),(Il x26),
 (Il x27),(Il x28),(Il x29),(Il x30),
 (Il x31),(Il x32)])] m17 (fun v33 m34=>∃c35:C,
 (v33=(.c c35))∧(ifB (cmC c18) ((ldC m34 (.ptr m0.nxt 0))=(some c18)) False) ∧ 
 ∀m36:M,(m36=(M.new m34 (AO.cells 1 [c35] false)))→(ifB (cmC c18) ((ldC m36 (.ptr m0.nxt 0))=(some c18)) False) ∧ 
 ∃c37:C,∃m38:M,(ApR prog 196 m36 c18 (.sl m34.nxt 0 1 0 (some 1)) c37 m38) ∧ 
 ∃m39:M,((stC m38 (.ptr m0.nxt 0) 1 [c37])=(some m39))∧fitsP .i64 (x4+1) ∧ 
 R3 [(.c (Il (x4+1)))] m39)) (∀m40:M,
 (m40=(M.new m5 (AO.cells 1 [C.nilFn] false)))→∃m41:M,((stC m40 (.ptr m5.nxt 0) 1 [(C.fn (Fn.func 132) [] [(W.c (C0.ptr m0.nxt 0)),
 (W.c (C0.ptr m.nxt 0)),(W.c (C0.ptr m5.nxt 0))])])=(some m41))∧∃c42:C,
 ((ldC m41 (.ptr m5.nxt 0))=(some c42))∧isPt (.ptr b0 0)∧isPt (.ptr b0 0) ∧ 
 ∃x43,((ldC m41 (.ptr b0 2))=(some (Il x43)))∧callP prog tbl [(.c (Il 0)),
 (.agg 6 [(Il x43),(Il 0),(Il 0),
 (Il 0),(Il 0),(Il 0)])] c42 m41 (fun v44 m45 => 
 ∃b46:Bool,(v44=(.c (.bool b46)))∧Q (.tup []) m45))) → 
 R3 [(.c (Il x4))] m5)→R3 [(.c (Il 0))] m1)):Wc prog tbl 130 [.c y,.c (.ptr b0 0)] m Q:=
 wc_eq (n:=2) rfl (by kernel_rfl) (by kernel_rfl) h
def verC(v:Ver):List C:=[.int .i64 v.fee,.int .i64 v.pence,.int .i64 v.fields.f0,.int .i64 v.fields.f1,.int .i64 v.fields.f2,.int .i64 v.fields.f3]
theorem encKOc_inj(a b:KOc)(h:encK Oc a=encK Oc b):a=b:=by
 obtain⟨⟨a1,a2⟩,ha⟩:=a;obtain⟨⟨b1,b2⟩,hb⟩:=b;have h:U.agg 2 [C.int .i64 a1,C.int .i64 a2]=U.agg 2 [C.int .i64 b1,C.int .i64 b2]:=h
 simp only[U.agg.injEq,List.cons.injEq,C.int.injEq,true_and,and_true] at h
 obtain⟨rfl,rfl⟩:=h
 rfl
structure ChG (m:M) (ba bY bc l:Nat) (ca:C) (rs:List Nat) (fs:List (Oc→Option Bool)):Prop where
 a:Bk m ba 1 [ca]
 y:Bk m bY 1 [.fn (.yield l) [] []]
 c:Bk m bc 1 [.fn (.func 132) [] [.c (.ptr ba 0),.c (.ptr bY 0),.c (.ptr bc 0)]]
 s:Ls m 1 ca (rs.map C.map) rs.length
 len:fs.length=rs.length
 mp:∀(i r:Nat) (g:Oc→Option Bool),rs[i]? = some r→fs[i]? = some g→Mp (encK Oc) m r (fOc g)
def ChD(ba bY bc:Nat)(ca:C)(rs:List Nat)(b:Nat):Prop:=b=ba∨b=bY∨b=bc∨(∃o n s d,ca=.sl b o n s d)∨b∈rs
theorem ChG.to{m m':M}{ba bY bc l:Nat}{ca:C}{rs:List Nat}{fs:List (Oc→Option Bool)}(h:ChG m ba bY bc l ca rs fs)(hn:m.nxt≤m'.nxt)(hv:m'.vw=m.vw)(hg:∀b,b < m.nxt→ChD ba bY bc ca rs b→m'.g b=m.g b):ChG m' ba bY bc l ca rs fs:=
  ⟨⟨(hg _ h.a.lt (.inl rfl)).trans h.a.g,Nat.lt_of_lt_of_le h.a.lt hn⟩,⟨(hg _ h.y.lt (.inr (.inl rfl))).trans h.y.g,Nat.lt_of_lt_of_le h.y.lt hn⟩,⟨(hg _ h.c.lt (.inr (.inr (.inl rfl)))).trans h.c.g,Nat.lt_of_lt_of_le h.c.lt hn⟩,
    h.s.to hn (fun b hb ⟨_o,_s,_d,he⟩=>hg b hb (.inr (.inr (.inr (.inl ⟨_,_,_,_,he⟩))))) hv,h.len,fun i r g hr hgg=>(h.mp i r g hr hgg).to hn (hg r (h.mp i r g hr hgg).lt (.inr (.inr (.inr (.inr (List.mem_of_getElem? hr))))))⟩
theorem ChG.ext{m m':M}{ba bY bc l:Nat}{ca:C}{rs:List Nat}{fs:List (Oc→Option Bool)}(h:ChG m ba bY bc l ca rs fs)(e:Ext m m'):ChG m' ba bY bc l ca rs fs:=h.to e.nxt e.vw fun b hb _=>e.g b hb
structure CliN (n0 l N:Nat) (A:Ver→Prop) (I:List Ver→(Nat→Prop)→M→Prop):Prop where
 st:∀d S m m',I d S m→m.nxt≤m'.nxt→m'.vw=m.vw→(∀b,S b→m'.g b=m.g b)→(∀b,b < n0→m'.g b=m.g b)→I d S m'
 lt:∀d S m,I d S m→∀b,S b→b < m.nxt
 yield:∀d v S m,I d S m→d.length < N→A v→∀Q:V→M→Prop,(∀S' m',Own S m S'→Chg S m m'→I (d++[v]) S' m'→Q (.c (.bool true)) m')→Wy prog tbl l [.agg 6 (verC v)] m Q
theorem chgT{S S':Nat→Prop}{a b c:M}(h1:Chg S a b)(ho:Own S a S')(h2:Chg S' b c):Chg S a c:=
 ⟨Nat.le_trans h1.nxt h2.nxt,fun x hx hS=>by
  rw[h2.g x (Nat.lt_of_lt_of_le hx h1.nxt) fun h=>(ho x h).elim hS fun h=>by omega]
  exact h1.g x hx hS,h2.vw.trans h1.vw⟩
theorem ownT{S S' S'':Nat→Prop}{a b:M}(h1:Own S a S')(hn:a.nxt≤b.nxt)(h2:Own S' b S''):Own S a S'':=fun x hx=>(h2 x hx).elim (h1 x) fun h=>.inr (by omega)
theorem chgE{S:Nat→Prop}{a b:M}(h:Ext a b):Chg S a b:=⟨h.nxt,fun x hx _=>h.g x hx,h.vw⟩
theorem pre_chg{f m m':M}{S:Nat→Prop}(h:Pre f m)(hc:Chg S m m')(hS:∀b,S b→f.g b=none∧f.vw b=none):Pre f m':=⟨not_frozen h.sub hc.nxt hc.vw hS hc.g,h.fz,h.fv⟩
theorem choose_ok{n0 l N:Nat}{A:Ver→Prop}{f:M}{I:List Ver→(Nat→Prop)→M→Prop}(hc:CliN n0 l N A I){ba bY bc:Nat}{ca:C}{rs:List Nat}{fs:List (Oc→Option Bool)}(hrs:rs.length≤1000) :
  ∀(j k:Nat) (v:Ver) (vs d:List Ver) (S:Nat→Prop) (m:M),k+j=rs.length→n0≤m.nxt→Pre f m→ChG m ba bY bc l ca rs fs→I d S m→(∀b,S b→f.g b=none∧f.vw b=none)→(∀b,S b→¬ ChD ba bY bc ca rs b)→pverL ((fs.drop k).map keysF) v=some vs→d.length+vs.length≤N→(∀u∈vs,A u) →
  ∀Q:V→M→Prop,(∀vs' S' m',vs'.Perm vs→Own S m S'→Chg S m m'→I (d++vs') S' m'→Q (.c (.bool true)) m') →
  Wc prog tbl 132 [.c (.int .i64 (k:Int)),.agg 6 (verC v),.c (.ptr ba 0),.c (.ptr bY 0),.c (.ptr bc 0)] m Q:=by
 intro j
 induction j with
 | zero=>
  intro k v vs d S m hk hn0 hP G hI hSf hD hv hN hA Q hQ
  have hk:k=rs.length:=by omega
  refine w132 (k:Int) v.fee v.pence v.fields.f0 v.fields.f1 v.fields.f2 v.fields.f3 ba bY bc fun m0 e0=>?_;obtain⟨b0,x0⟩:=Bk.new e0;have g0:=G.ext x0;refine⟨_,g0.a.rc rfl,g0.s.isSl,?_⟩;rw[g0.s.slLen];refine ifB_dec.2 ⟨fun _=>?_,fun hne=>absurd (by rw[hk]) hne⟩;refine⟨_,g0.y.rc rfl,_,_,_,_,_,_,b0.ra,?_⟩
  have hvs:vs=[v]:=by
   rw[List.drop_eq_nil_of_le (by rw[G.len]; omega)] at hv;exact(oi hv).symm
  subst hvs;have hlt:=hc.lt _ _ _ hI;have hI0:I d S m0:=hc.st _ _ _ _ hI x0.nxt x0.vw (fun b hb=>x0.g b (hlt b hb)) fun b hb=>x0.g b (by omega)
  show Wy prog tbl l [.agg 6 (verC v)] m0 _
  refine hc.yield d v S m0 hI0 (by simp at hN; omega) (hA v (List.mem_cons_self ..)) _ fun S' m' ho hch hI'=>⟨true,rfl,hQ [v] S' m' (.refl _) (fun b hb=>(ho b hb).imp id fun h=>by have:=x0.nxt; omega) (chgT (chgE x0) (fun b hb=>.inl hb) hch) hI'⟩
 | succ j ih=>
  intro k v vs d S m hk hn0 hP G hI hSf hD hv hN hA Q hQ
  have hkr:k < rs.length:=by omega
  refine w132 (k:Int) v.fee v.pence v.fields.f0 v.fields.f1 v.fields.f2 v.fields.f3 ba bY bc fun m0 e0=>?_;obtain⟨b0,x0⟩:=Bk.new e0;have g0:=G.ext x0
  have q0:m0.nxt=m.nxt+1:=by rw[e0]; rfl
  refine⟨_,g0.a.rc rfl,g0.s.isSl,?_⟩;rw[g0.s.slLen];refine ifB_dec.2 ⟨fun he=>by omega,fun _=>?_⟩;refine⟨_,g0.a.rc rfl,k,rfl,by rw[g0.s.slLen]; exact hkr,?_⟩;obtain⟨r,hr⟩:∃r,rs[k]? = some r:=⟨_,List.getElem?_eq_getElem hkr⟩;obtain⟨g,hg⟩:∃g,fs[k]? = some g:=⟨_,List.getElem?_eq_getElem (by rw[G.len]; exact hkr)⟩;refine⟨_,g0.s.rd (i:=k * 1) (c:=.map r) (by rw[Nat.mul_one,List.getElem?_map,hr]; rfl),?_⟩;obtain⟨ks,o,hks,hro,hit⟩:=Mp.range encKOc_inj (g0.mp k r g hr hg);refine⟨o,hro,fun m16 e16 R hR=>?_⟩;have it16:=hit m16 e16
  have x16:Ext m0 m16:=by rw[e16]; exact Ext.new _ _
  have q16:m16.nxt=m.nxt+2:=by rw[e16]; show m0.nxt+1=_; omega
  have hlt:=hc.lt _ _ _ hI
  have hdrop:fs.drop k=g::fs.drop (k+1):=by
   rw[List.drop_eq_getElem_cons (by rw[G.len]; exact hkr)]
   congr 1
   rw[List.getElem?_eq_getElem (by rw[G.len]; exact hkr)] at hg;exact oi hg
  rw[hdrop,List.map_cons] at hv;have hv:pverC (pverL ((fs.drop (k+1)).map keysF)) v (keysF g)=some vs:=hv;have hperm:(ks.map (·.1)).Perm (keysF g):=(KeysL.perm hks (keysK_spec hks)).map _;obtain⟨vr0,hvr0,hpr0⟩:=pverC_perm hperm.symm hv
  -- a round of the loop, with these keys left
  have main:∀(n:Nat) (rem:List KOc) (w vr:List Ver) (S1:Nat→Prop) (m1:M),rem.length=n→ItR (encK Oc) m1 m0.nxt r (fOc g) rem→Bk m1 m.nxt 6 (verC v)→ChG m1 ba bY bc l ca rs fs→I (d++w) S1 m1→Own S m S1→¬ S1 m.nxt→¬ S1 m0.nxt→Chg S m m1→m.nxt+2≤m1.nxt →
    pverC (pverL ((fs.drop (k+1)).map keysF)) v (rem.map (·.1))=some vr→(w++vr).Perm vs→R [V.c (C.bool false)] m1:=by
   intro n
   induction n with
   | zero=>
    intro rem w vr S1 m1 hrem hit1 hb1 hG1 hI1 hO1 hS1 hS2 hC1 hn1 hvr hpw;have hrem:rem=[]:=List.eq_nil_of_length_eq_zero hrem;subst hrem;have hvr':vr=[]:=(oi hvr).symm;subst hvr';obtain⟨lx,q1,q2,q3⟩:=hit1.next;have hlx:=q2.2 rfl;subst hlx;refine hR false m1 ⟨[],q1,fun _=>?_,fun k' y' m' hl=>by cases hl⟩;rw[List.append_nil] at hpw;exact hQ w S1 m1 hpw hO1 hC1 hI1
   | succ n ihn=>
    intro rem w vr S1 m1 hrem hit1 hb1 hG1 hI1 hO1 hS1 hS2 hC1 hn1 hvr hpw;obtain⟨lx,q1,q2,q3⟩:=hit1.next;refine hR false m1 ⟨lx,q1,fun he=>?_,fun k' y' m2 hl=>?_⟩
    ·have:=q2.1 he
     rw[this] at hrem; cases hrem
    obtain⟨l1,a,l2,o2,rfl,rfl,hfa,e2,hen,hit2⟩:=q3 _ _ _ hl
    have n2:m2.nxt=m1.nxt:=by rw[e2]; rfl
    have v2:m2.vw=m1.vw:=by rw[e2]; rfl
    have g2:∀b,b ≠ m0.nxt→m2.g b=m1.g b:=fun b hb=>by rw[e2,M.g_set,if_neg hb]
    have hlt1:=hc.lt _ _ _ hI1
    have dlt:∀b,ChD ba bY bc ca rs b→b < m.nxt:=fun b hb=>by
     rcases hb with rfl | rfl | rfl | ⟨o',n',s',d',he⟩ | hb
     ·exact G.a.lt
     ·exact G.y.lt
     ·exact G.c.lt
     ·rcases G.s.val with ⟨h1,_⟩ | ⟨b',o1,t1,c1,h1,h2,_⟩
      ·rw[h1] at he; cases he
      ·rw[h1] at he; cases he; exact h2
     ·obtain⟨i,hi⟩:=List.getElem?_of_mem hb;have hilt:i < rs.length:=(List.getElem?_eq_some_iff.1 hi).1;exact(G.mp i b _ hi (List.getElem?_eq_getElem (by rw[G.len]; exact hilt))).lt
    have G2:ChG m2 ba bY bc l ca rs fs:=hG1.to (by omega) v2 fun b hb hDb=>g2 b (by have:=dlt b hDb; omega);have B2:Bk m2 m.nxt 6 (verC v):=⟨(g2 _ (by omega)).trans hb1.g,by have:=hb1.lt; omega⟩;have I2:I (d++w) S1 m2:=hc.st _ _ _ _ hI1 (by omega) v2 (fun b hb=>g2 b fun h=>hS2 (h ▸ hb)) fun b hb=>g2 b (by omega);have C2:Chg S m m2:=⟨by have:=hC1.nxt; omega,fun b hb hs=>(g2 b (by omega)).trans (hC1.g b hb hs),v2.trans hC1.vw⟩;refine⟨a.1.pence,a.1.loser,y',hen,fun m3 e3=>?_⟩;obtain⟨b3,x3⟩:=Bk.new e3;refine⟨m3.set m2.nxt (.cells 2 [.int .i64 a.1.pence,.int .i64 a.1.loser] false),b3.st _,?_⟩;have k4:=b3.set [.int .i64 a.1.pence,.int .i64 a.1.loser];have x4:Ext m2 (m3.set m2.nxt (.cells 2 [.int .i64 a.1.pence,.int .i64 a.1.loser] false)):=x3.setR (Nat.le_refl _) _
    have q4:(m3.set m2.nxt (.cells 2 [.int .i64 a.1.pence,.int .i64 a.1.loser] false)).nxt=m2.nxt+1:=by show m3.nxt=_; rw[e3]; rfl
    generalize m3.set m2.nxt (.cells 2 [.int .i64 a.1.pence,.int .i64 a.1.loser] false)=m4 at k4 x4 q4 ⊢;have G4:=G2.ext x4;obtain⟨v',c,vr',p1,p2,p3,p4⟩:=pverC_split (v:=v) (a:=a.1) (l1:=l1.map (·.1)) (l2:=l2.map (·.1)) (by rw[← hvr,List.map_append,List.map_cons]);have C4:Chg S m m4:=chgT C2 (fun b hb=>.inl hb) (chgE x4);refine⟨_,G4.c.rc rfl,by show fitsP .i64 ((k:Int)+1); unfold fitsP; exact⟨by omega,by omega⟩,_,_,_,_,_,_,(B2.ext x4).ra,_,_,k4.ra,?_⟩;refine s_vWith (v:=v) (o:=a.1) (pre_chg hP C4 hSf) p1 fun m5 x5=>⟨_,_,_,_,_,_,rfl,?_⟩;have G5:=G4.ext x5;refine⟨?_,?_⟩
    ·show ifB true _ _
     exact G5.c.rc rfl
    have x45:=x4.trans x5;have I5:I (d++w) S1 m5:=hc.st _ _ _ _ I2 x45.nxt x45.vw (fun b hb=>x45.g b (by rw[n2]; exact hlt1 b hb)) fun b hb=>x45.g b (by have:=x45.nxt; omega);have C5:Chg S m m5:=chgT C4 (fun b hb=>.inl hb) (chgE x5)
    have n5:m2.nxt < m5.nxt:=by have:=x5.nxt; omega
    show Wc prog tbl 132 [.c (.int .i64 ((k:Int)+1)),.agg 6 (verC v'),.c (.ptr ba 0),.c (.ptr bY 0),.c (.ptr bc 0)] m5 _
    rw[show(k:Int)+1=((k+1:Nat):Int) by omega];have hsub:(w++(c++vr')).Perm vs:=((List.Perm.append_left w p4).trans hpw);refine ih (k+1) v' c (d++w) S1 m5 (by omega) (by omega) (pre_chg hP C5 hSf) G5 I5 (fun b hb=>(hO1 b hb).elim (hSf b) fun h=>⟨hP.fz b (Nat.le_trans hP.sub.nxt h),hP.fv b (Nat.le_trans hP.sub.nxt h)⟩) (fun b hb hDb=>?_) p2 ?_ (fun u hu=>hA u (hsub.subset (List.mem_append_right _ (List.mem_append_left _ hu)))) _ fun vs' S' m6 hpv hO6 hC6 hI6=>⟨true,rfl,?_⟩
    ·rcases hO1 b hb with h | h
     ·exact hD b h hDb
     ·have:=dlt b hDb; omega
    ·have:=hsub.length_eq
     simp only[List.length_append] at this ⊢
     omega
    ·-- the next round
     show ifB false _ _
     have hC16:Chg S1 m5 m6:=hC6;have keep:∀b,b < m5.nxt→¬ S1 b→m6.g b=m5.g b:=hC6.g;have hit5:ItR (encK Oc) m5 m0.nxt r (fOc g) (l1++l2):=hit2.to (x45.g _ (by omega)) (x45.g _ (by have:=dlt r (.inr (.inr (.inr (.inr (List.mem_of_getElem? hr))))); omega));have hrD:ChD ba bY bc ca rs r:=.inr (.inr (.inr (.inr (List.mem_of_getElem? hr))))
     have hS1D:∀b,ChD ba bY bc ca rs b→¬ S1 b:=fun b hDb hb=>by
      rcases hO1 b hb with h | h
      ·exact hD b h hDb
      ·have:=dlt b hDb; omega
     refine ihn (l1++l2) (w++vs') vr' S' m6 ?_ (hit5.to (keep _ (by omega) hS2) (keep r (by have:=dlt r hrD; omega) (hS1D r hrD))) ?_ ?_ ?_ ?_ ?_ ?_ ?_ ?_ ?_ ?_
     ·simp only[List.length_append,List.length_cons] at hrem ⊢; omega
     ·exact⟨(keep _ (by omega) hS1).trans ((x45.g _ (by omega)).trans B2.g),by have:=hC6.nxt; omega⟩
     ·exact G5.to hC6.nxt hC6.vw fun b hb hDb=>keep b hb (hS1D b hDb)
     ·rw[← List.append_assoc]; exact hI6
     ·exact ownT hO1 (by have:=C5.nxt; omega) hO6
     ·intro hb
      rcases hO6 _ hb with h | h
      ·exact hS1 h
      ·omega
     ·intro hb
      rcases hO6 _ hb with h | h
      ·exact hS2 h
      ·omega
     ·exact chgT C5 hO1 hC6
     ·have:=hC6.nxt; omega
     ·rw[List.map_append]; exact p3
     ·refine List.Perm.trans ?_ hsub;rw[List.append_assoc];exact(hpv.append_right vr').append_left w
  have x016:=x0.trans x16;refine main ks.length ks [] vr0 S m16 rfl it16 ((b0.ext x16)) (g0.ext x16) ?_ (fun b hb=>.inl hb) (fun hb=>by have:=hlt _ hb; omega) (fun hb=>by have:=hlt _ hb; omega) (chgE x016) (by omega) hvr0 hpr0;rw[List.append_nil];exact hc.st _ _ _ _ hI x016.nxt x016.vw (fun b hb=>x016.g b (hlt b hb)) fun b hb=>x016.g b (by omega)
structure MapC where
 b:Nat
instance:Rp MapC:=⟨1,by omega,fun _ cs a=>cs=[.map a.b],fun h=>by rw[h]; rfl,fun h _=>h⟩
theorem cat_MapC{f:M}:∀{l:List MapC} {vs:List C},Cat f vs l→vs=(l.map (·.b)).map C.map
 | [],vs,h=>h
 | a::l,vs,h=>by
  obtain⟨cs,ws,h1,h2,h3⟩:=h;have h2:cs=[.map a.b]:=h2;rw[h1,h2,cat_MapC h3]; rfl
theorem ta196:TA prog 196 1:=⟨197,by kernel_rfl,by kernel_rfl,by kernel_rfl⟩
theorem callGMN{K V' K2 V2:Type}[MK K][MV V'][MK K2][MV V2]{F:Fm}{f0 f m m' f':M}(s:St F f0 f m){τ:Nat→Nat}{t:Nat}{c:C}{M M':Option (K→Option V')}(h:Mo F f τ m t c M)(g:GrwM c m f m' f')(h':Mi m' c M'){c2:C}{M2:Option (K2→Option V2)}(hn:Mn m f' m' c2 M2)(t2:Nat) :
  ∃τ',St F f0 f' m'∧Kp τ f m τ' f' m' [t]∧Mo F f' τ' m' t c M'∧Mo F f' τ' m' t2 c2 M2:=by
 obtain⟨s1,k1,h1⟩:=s.callGM h g h';refine⟨fun b=>if m.nxt≤b then t2 else τ b,s1,⟨k1.nxt,fun b hb=>if_neg (by omega),k1.g,k1.fg,k1.fs,k1.vw⟩,⟨h1.mi,fun b hb=>?_⟩,hn.mi,fun b hb=>?_⟩
 ·obtain⟨q1,q2,q3,q4⟩:=h1.own b hb;have:=(h.own b hb).2.2.2;exact⟨q1,q2,(if_neg (by omega)).trans q3,q4⟩
 ·obtain⟨q1,q2,q3⟩:=hn.own b hb;exact⟨.inl (Nat.le_trans s.ext.nxt q2),q1,if_pos q2,q3⟩
theorem s_verdictsI{w:UWk}{ca100 ca103 ca104:C}{b0 n0 l N:Nat}{A:Ver→Prop}{I:List Ver→(Nat→Prop)→M→Prop}(hc:CliN n0 l N A I){S:Nat→Prop}{m f:M}{Q:V→M→Prop}{rz:List (Oc→Option Bool) × Option (Clm→Option Int)}{vs:List Ver}
    (hS:Pre f m) (hw:Bk f b0 5 [ca100,Il w.c.Day,Il w.c.Fee,ca103,ca104]) (ha100:Sl f ca100 w.c.Tariffs) (ha103:Sl f ca103 w.c.Fields) (ha104:Mc f m ca104 w.payments)
    (hp:pallO w w.c.Fields w.payments=some rz) (_hlen:w.c.Fields.length≤1000) (hv:pverL (rz.1.map keysF) (ver0 w.c.Fee)=some vs) (hN:vs.length≤N) (hA:∀u∈vs,A u)
    (hn0:n0≤m.nxt) (hI:∀m',ExtB ca104 m m'→Mi m' ca104 rz.2→I [] S m') (hSl:∀b,S b→b < m.nxt) (hSf:∀b,S b→f.g b=none∧f.vw b=none) (hSc:∀b,S b→ca104 ≠ .map b)
    (hq:∀vs' S' m1 m',vs'.Perm vs→ExtB ca104 m m1→Own S m1 S'→Chg S m1 m'→I vs' S' m'→Q (.tup []) m') :
    Wc prog tbl 130 [.c (.fn (.yield l) [] []),.c (.ptr b0 0)] m Q:=by
 have S0:=hS.stM ha104;obtain⟨τ0,M0⟩:∃τ,Mo (Fm.mp m ca104) f τ m 1 ca104 w.payments:=⟨_,ha104.mo 1⟩;refine w130 _ _ ?_;intro D e0;obtain⟨τ1,S1,k1,Ly⟩:=S0.blk e0 τ0 2;have M1:=M0.k k1;intro m1 e1;obtain⟨τ2,S2,k2,La⟩:=S1.blk e1 τ1 3;have Ly:=Ly.k k2;have M2:=M1.k k2;refine⟨trivial,trivial,_,(hw.sub S2.sub).rc rfl,ha103.isSl,?_⟩;intro R3 O
 have hgo:∀(q:List Fld) (i:Nat) (ca:C) (rs:List MapC) (gs:List (Oc→Option Bool)) (p:Option (Clm→Option Int)) (s:List (Oc→Option Bool) × Option (Clm→Option Int)) (d x:M) (τ:Nat→Nat),i+q.length=w.c.Fields.length→w.c.Fields.drop i=q→rs.length=i→gs.length=i→St (Fm.mp m ca104) f x d→Lb (Fm.mp m ca104) x τ d 2 m.nxt 1 [.fn (.yield l) [] []]→Lb (Fm.mp m ca104) x τ d 3 D.nxt 1 [ca]→Ow (Fm.mp m ca104) x τ d 4 ca rs→Mo (Fm.mp m ca104) x τ d 1 ca104 p→(∀(j:Nat) (r:MapC) (g:Oc→Option Bool),rs[j]? = some r→gs[j]? = some g→Mo (Fm.mp m ca104) x τ d 5 (.map r.b) (some g)) →
   pallO w q p=some s→rz=(gs++s.1,s.2)→R3 [.c (Il (i:Int))] d:=by
  intro q
  induction q with
  | nil=>
   intro i ca rs gs p s d x τ hi hd hrs hgs S5 Ly La Oa Mp Mm hp hrz;refine O _ _ ?_;rw[ha103.slLen];refine ifB_dec.2 ⟨fun h=>by simp at hi; omega,fun _=>?_⟩;intro ab ka;obtain⟨τ6,S6,n,Lc⟩:=S5.blk ka τ 6;have Ly:=Ly.k n;have La:=La.k n;have Mp:=Mp.k n;have Oa:=Oa.k n;have Mm:=fun j r g hr hg=>(Mm j r g hr hg).k n (by decide);obtain⟨o,la,e,t,Lc⟩:=Lc.sto S6 [(C.fn (Fn.func 132) [] [(W.c (C0.ptr (D).nxt 0)),(W.c (C0.ptr (m).nxt 0)),(W.c (C0.ptr (d).nxt 0))])];have Ly:=Ly.k t;have La:=La.k t;have Mp:=Mp.k t;have Oa:=Oa.k t;have Mm:=fun j r g hr hg=>(Mm j r g hr hg).k t (by decide);refine⟨o,la,_,Lc.bk.rc rfl,trivial,trivial,_,(hw.sub (e.fs.trans e.sub)).rc rfl,?_⟩;obtain rfl:=oi hp
   have ba:rz.1=gs:=by rw[hrz]; exact List.append_nil _
   have da:rz.2=p:=by rw[hrz]
   have hext:=e.extB;have hpre:Pre f o:=⟨e.fs.trans e.sub,hS.fz,hS.fv⟩;obtain⟨ws,o1,o2⟩:=Oa.own;have o2:=cat_MapC o2
   have hi':i=w.c.Fields.length:=by simpa using hi
   show Wc prog tbl 132 [.c (Il ((0:Nat):Int)),.agg 6 (verC (ver0 w.c.Fee)),.c (.ptr D.nxt 0),.c (.ptr m.nxt 0),.c (.ptr d.nxt 0)] o _
   have hg:ChG o D.nxt m.nxt d.nxt l ca (rs.map (·.b)) gs:=by
    refine⟨La.bk,Ly.bk,Lc.bk,?_,by rw[List.length_map]; omega,fun j r g hr hg=>?_⟩
    ·have:=o1.ls;rw[o2] at this;rw[List.length_map];exact this
    ·rw[List.getElem?_map] at hr
     obtain⟨r',hr',rfl⟩:∃r',rs[j]? = some r'∧r'.b=r:=by
      cases h:rs[j]? with
      | none=>rw[h] at hr; cases hr
      | some r'=>rw[h] at hr; exact⟨r',rfl,oi hr⟩
     obtain⟨b,ma,na⟩:=(Mm j r' g hr' hg).mi
     cases ma
     exact na
   have hSD:∀b,S b→¬ ChD D.nxt m.nxt d.nxt ca (rs.map (·.b)) b:=by
    intro b hb hD;have hlt:=hSl b hb;have n1:=S1.ext.nxt;have n5:=S5.ext.nxt
    have hF:∀b',b'=b→¬ ((Fm.mp m ca104).m.nxt≤b'∨(Fm.mp m ca104).B b'):=by
     intro b' hbb h;subst hbb;exact h.elim (fun h=>absurd hlt (Nat.not_lt_of_le h)) (hSc b' hb)
    rcases hD with h | h | h | ⟨o',n',s',d',he⟩ | h
    ·exact hF D.nxt h.symm La.new
    ·exact hF m.nxt h.symm Ly.new
    ·exact hF d.nxt h.symm Lc.new
    ·exact hF b rfl (Oa.nw _ _ _ _ _ he).1
    ·obtain⟨r',hr',rfl⟩:=List.mem_map.1 h;obtain⟨j,hj⟩:=List.getElem?_of_mem hr';have hjl:j < rs.length:=(List.getElem?_eq_some_iff.1 hj).1;exact hF _ rfl ((Mm j r' _ hj (List.getElem?_eq_getElem (by omega))).own _ rfl).1
   refine choose_ok hc (by rw[List.length_map]; omega) rs.length 0 (ver0 w.c.Fee) vs [] S o (by rw[List.length_map]; omega) (Nat.le_trans hn0 hext.nxt) hpre hg (hI o hext (by rw[da]; exact Mp.mi)) hSf hSD (by rw[List.drop_zero,← ba]; exact hv) (by simpa using hN) hA _ fun vs' S' m' hpv ho hch hI'=>⟨true,rfl,?_⟩;exact hq vs' S' o m' hpv hext ho hch hI'
  | cons fl q ih=>
   intro i ca rs gs p s d x τ hi hd hrs hgs S5 Ly La Oa Mp Mm hp hrz
   have hil:i < w.c.Fields.length:=by simp at hi; omega
   have hfl:w.c.Fields[i]? = some fl:=by
    have h0:(w.c.Fields.drop i)[0]? = some fl:=by rw[hd]; rfl
    rwa [List.getElem?_drop,Nat.add_zero] at h0
   refine O _ _ ?_;rw[ha103.slLen];refine ifB_dec.2 ⟨fun _=>?_,fun h=>absurd (Int.ofNat_lt.2 hil) h⟩;obtain⟨_,r1⟩:=rd_Fld ha103 hfl;refine⟨i,rfl,hil,_,_,_,_,_,_,_,_,_,(r1 _ (S5.fs.trans S5.sub)).1,?_⟩;intro bb oa;obtain⟨τ6,S6,n,Lf⟩:=S5.blk oa τ 6;have Ly:=Ly.k n;have La:=La.k n;have Mp:=Mp.k n;have Oa:=Oa.k n;have Mm:=fun j r g hr hg=>(Mm j r g hr hg).k n (by decide);obtain⟨pa,qa,e,t,Lf⟩:=Lf.sto S6 [(Il fl.Crop),(Il fl.Value),(Il fl.Near),(Il fl.First.Lo),(Il fl.First.Hi),(Il fl.Second.Lo),(Il fl.Second.Hi),(Il fl.Umpire.Lo),(Il fl.Umpire.Hi)];have Ly:=Ly.k t;have La:=La.k t;have Mp:=Mp.k t;have Oa:=Oa.k t;have Mm:=fun j r g hr hg=>(Mm j r g hr hg).k t (by decide);refine⟨pa,qa,_,La.bk.rc rfl,_,_,_,_,_,(hw.sub (e.fs.trans e.sub)).ra,_,_,_,_,_,_,_,_,_,Lf.bk.ra,?_⟩;obtain⟨r,sa,ta⟩:=bsome (show(poutcomes ({ c:=w.c,payments:=p }:UWk) fl).bind _=some s from hp);obtain⟨g,P,ua⟩:=bsome ta;obtain⟨s',va,wa⟩:=bsome ua
   cases wa
   refine s_outcomes (w:=({ c:=w.c,payments:=p }:UWk)) (f_:=fl) e.pre (ha100.sub e.fs) (ha103.sub e.fs) (Mp.mc e) sa fun cb T xa ya za fa=>?_;obtain⟨τ8,S8,J,Mp,Mr⟩:=callGMN e Mp ya fa za 5;have Ly:=Ly.k J;have La:=La.k J;have Oa:=Oa.k J;have Mm:=fun j r g hr hg=>(Mm j r g hr hg).k J (by decide)
   obtain⟨z,ga,_⟩:∃b,xa=.map b∧True:=by
    have:=Mr.mi;rw[P] at this;obtain⟨b,hb,_⟩:=this;exact⟨b,hb,trivial⟩
   subst ga;refine⟨_,rfl,?_,?_⟩
   ·rw[cmC_of Oa.noFn]; exact La.bk.rc rfl
   intro db Y;have Aa:=La;have Ba:=Oa;obtain⟨F,Ca,τ9,Da,S9,G,Oa'⟩:=Oa.app' ta196 S8 (a:=(⟨z⟩:MapC)) (show Rp.rep (α:=MapC) T [.map z] ⟨z⟩ from rfl) (by omega) Y;have Ly:=Ly.k G;have La:=La.k G;have Mp:=Mp.k G;have Mr:=Mr.k G;have Mm:=fun j r g hr hg=>(Mm j r g hr hg).k G (by decide);refine⟨?_,F,Ca,Da,?_⟩
   ·rw[cmC_of Ba.noFn]; exact(Aa.bk.ext (Bk.new Y).2).rc rfl
   obtain⟨Z,Ea,Fa,y,La⟩:=La.sto S9 [F];have Ly:=Ly.k y;have Mp:=Mp.k y;have Oa':=Oa'.k y;have Mr:=Mr.k y;have Mm:=fun j r g hr hg=>(Mm j r g hr hg).k y (by decide);refine⟨Z,Ea,by unfold fitsP; exact⟨by omega,by omega⟩,?_⟩
   have hx:rz=((gs++[g])++s'.1,s'.2):=by rw[hrz,List.append_assoc]; rfl
   rw[show(i:Int)+1=((i+1:Nat):Int) by omega];refine ih (i+1) F (rs++[⟨z⟩]) (gs++[g]) r.2 s' Z T τ9 (by simp at hi; omega) ?_ (by simp; omega) (by simp; omega) Fa Ly La Oa' Mp ?_ va hx
   ·rw[← List.drop_drop,hd]; rfl
   ·intro j rr gg hrr hgg;rw[List.getElem?_append] at hrr hgg
    by_cases hj:j < i
    ·rw[if_pos (by omega)] at hrr hgg;exact Mm j rr gg hrr hgg
    ·rw[if_neg (by omega)] at hrr hgg
     have Ga:j - rs.length=0:=by
      rcases Nat.eq_zero_or_pos (j - rs.length) with h | h
      ·exact h
      ·rw[List.getElem?_eq_none (by simp; omega)] at hrr; cases hrr
     rw[Ga] at hrr;rw[show j - gs.length=0 by omega] at hgg
     cases hrr; cases hgg
     rw[P] at Mr;exact Mr
 exact hgo w.c.Fields 0 .sl0 [] [] w.payments rz m1 f τ2 (by omega) rfl rfl rfl S2 Ly La (Ow.nil ..) M2 (fun j r g hr _=>by cases hr) hp rfl
def lastN:List Int→Int→Nat
 | _x::y::l,n=>if y≤n then lastN (y::l) n+1 else 0
 | _,_=>0
theorem lastN_lt:∀(l:List Int) (n:Int),l ≠ []→lastN l n < l.length
 | [],_,h=>absurd rfl h
 | [_],_,_=>by simp[lastN]
 | x::y::l,n,_=>by
  unfold lastN
  split
  ·have:=lastN_lt (y::l) n (by simp)
   simp only[List.length_cons] at this ⊢; omega
  ·simp
theorem lastN_le:∀(l:List Int) (n:Int),(∀x,l.head? = some x→x≤n)→∀x,l[lastN l n]? = some x→x≤n
 | [],_,_,x,h=>by simp at h
 | [a],n,h0,x,h=>by
  simp[lastN] at h; subst h; exact h0 a rfl
 | a::y::l,n,h0,x,h=>by
  unfold lastN at h
  split at h
  ·rename_i hy
   rw[List.getElem?_cons_succ] at h;exact lastN_le (y::l) n (fun z hz=>by simp at hz; omega) x h
  ·simp at h; subst h; exact h0 _ rfl
theorem lastN_gt:∀(l:List Int) (n:Int),l.Pairwise (· < ·)→∀j,lastN l n < j→∀x,l[j]? = some x→n < x
 | [],_,_,j,_,x,h=>by simp at h
 | [a],n,_,j,hj,x,h=>by
  have:j < [a].length:=(List.getElem?_eq_some_iff.1 h).1
  simp at this; omega
 | a::y::l,n,hp,j,hj,x,h=>by
  have hp':=(List.pairwise_cons.1 hp).2;unfold lastN at hj
  cases j with
  | zero=>omega
  | succ j=>
   rw[List.getElem?_cons_succ] at h
   split at hj
   ·exact lastN_gt (y::l) n hp' j (by omega) x h
   ·rename_i hy
    have hx:x∈y::l:=List.mem_of_getElem? h
    rcases List.mem_cons.1 hx with hx | hx
    ·omega
    ·have:=(List.pairwise_cons.1 hp').1 x hx; omega
theorem pw_lt{l:List Int}(hp:l.Pairwise (· < ·)){i j:Nat}{x y:Int}(hx:l[i]? = some x)(hy:l[j]? = some y)(hij:i < j):x < y:=by
 obtain⟨h1,h2⟩:=List.getElem?_eq_some_iff.1 hx;obtain⟨h3,h4⟩:=List.getElem?_eq_some_iff.1 hy;rw[← h2,← h4];exact List.pairwise_iff_getElem.1 hp i j h1 h3 hij
theorem lastN_uniq{l:List Int}{n:Int}(hp:l.Pairwise (· < ·)){k:Nat}(hk:k < l.length)(h1:∀x,l[k]? = some x→x≤n)(h2:∀x,l[k+1]? = some x→n < x)(h0:∀x,l.head? = some x→x≤n):lastN l n=k:=by
 have hne:l ≠ []:=fun h=>by subst h; simp at hk
 have hl:=lastN_lt l n hne;obtain⟨a,ha⟩:∃a,l[lastN l n]? = some a:=⟨_,List.getElem?_eq_getElem hl⟩;obtain⟨b,hb⟩:∃b,l[k]? = some b:=⟨_,List.getElem?_eq_getElem hk⟩;have h3:=lastN_le l n h0 a ha;have h4:=h1 b hb
 rcases Nat.lt_trichotomy (lastN l n) k with h | h | h
 ·have:=lastN_gt l n hp k h b hb; omega
 ·exact h
 ·have hk1:k+1 < l.length:=by omega
  have h5:=h2 _ (List.getElem?_eq_getElem hk1)
  rcases Nat.lt_or_ge (k+1) (lastN l n) with h6 | h6
  ·have:=pw_lt hp (List.getElem?_eq_getElem hk1) ha h6; omega
  ·have h7:lastN l n=k+1:=by omega
   rw[h7,List.getElem?_eq_getElem hk1] at ha
   cases ha; omega
def nth(l:List Int)(i:Nat):Int:=l.getD i 0
theorem nth_of{l:List Int}{i:Nat}{x:Int}(h:l[i]? = some x):nth l i=x:=by
 unfold nth; rw[List.getD_eq_getElem?_getD,h]; rfl
theorem nth_some{l:List Int}{i:Nat}(h:i < l.length):l[i]? = some (nth l i):=by
 rw[List.getElem?_eq_getElem h,nth_of (List.getElem?_eq_getElem h)]
def lineN(a b x y n:Int):Int:=(x * (b - n)+y * (n - a)) / (b - a)
def lossN(counts rates:List Int)(n:Int):Int:=
 let i:=lastN counts n
 if nth counts i=n then nth rates i else lineN (nth counts i) (nth counts (i+1)) (nth rates i) (nth rates (i+1)) n
theorem line_le{a b x y n z:Int}(h1:a≤n)(h2:n≤b)(hab:a < b)(_hx:0≤x)(_hy:0≤y)(hxz:x≤z)(hyz:y≤z):lineN a b x y n≤z:=by
  unfold lineN;have e1:x * (b - n)≤z * (b - n):=Int.mul_le_mul_of_nonneg_right hxz (by omega);have e2:y * (n - a)≤z * (n - a):=Int.mul_le_mul_of_nonneg_right hyz (by omega)
  have e3:z * (b - n)+z * (n - a)=z * (b - a):=by rw[← Int.mul_add]; congr 1; omega
  have:x * (b - n)+y * (n - a)≤z * (b - a):=by omega
  calc (x * (b - n)+y * (n - a)) / (b - a)≤(z * (b - a)) / (b - a):=Int.ediv_le_ediv (by omega) this
    _=z:=Int.mul_ediv_cancel _ (by omega)
theorem line_ge{a b x y n z:Int}(h1:a≤n)(h2:n≤b)(hab:a < b)(_hz:0≤z)(hxz:z≤x)(hyz:z≤y):z≤lineN a b x y n:=by
  unfold lineN;have e1:z * (b - n)≤x * (b - n):=Int.mul_le_mul_of_nonneg_right hxz (by omega);have e2:z * (n - a)≤y * (n - a):=Int.mul_le_mul_of_nonneg_right hyz (by omega)
  have e3:z * (b - n)+z * (n - a)=z * (b - a):=by rw[← Int.mul_add]; congr 1; omega
  have:z * (b - a)≤x * (b - n)+y * (n - a):=by omega
  calc z=(z * (b - a)) / (b - a):=(Int.mul_ediv_cancel _ (by omega)).symm
    _≤_:=Int.ediv_le_ediv (by omega) this
structure Cnt (counts:List Int):Prop where
 pw:counts.Pairwise (· < ·)
 hd:counts.head? = some 0
 lst:counts.getLast? = some 100
structure Rts (counts rates:List Int):Prop extends Cnt counts where
 len:rates.length=counts.length
 rng:∀r∈rates,0≤r∧r≤100
variable {cs rs:List Int}
theorem Cnt.ne(h:Cnt cs):cs ≠ []:=fun e=>by have:=h.hd; rw[e] at this; cases this
theorem Cnt.h0(h:Cnt cs){n:Int}(hn:0≤n):∀x,cs.head? = some x→x≤n:=fun x hx=>by
 have:=h.hd; rw[this] at hx; cases hx; exact hn
theorem Cnt.lt(h:Cnt cs)(n:Int):lastN cs n < cs.length:=lastN_lt cs n h.ne
theorem Cnt.btw(h:Cnt cs){n:Int}(hn:0≤n)(h100:n≤100):nth cs (lastN cs n)≤n∧(nth cs (lastN cs n) ≠ n→lastN cs n+1 < cs.length∧n < nth cs (lastN cs n+1)):=by
 have hl:=h.lt n;have h1:=lastN_le cs n (h.h0 hn) _ (nth_some hl);refine⟨h1,fun hne=>?_⟩
 have hlast:cs[cs.length - 1]? = some 100:=by rw[← h.lst,List.getLast?_eq_getElem?]
 have hlt:lastN cs n+1 < cs.length:=by
  rcases Nat.lt_or_ge (lastN cs n+1) cs.length with hh | hh
  ·exact hh
  ·have:lastN cs n=cs.length - 1:=by omega
   rw[this] at hne h1;have:=nth_of hlast
   omega
 exact⟨hlt,lastN_gt cs n h.pw _ (Nat.lt_succ_self _) _ (nth_some hlt)⟩
theorem Rts.at(h:Rts cs rs){i:Nat}(hi:i < cs.length):0≤nth rs i∧nth rs i≤100:=by
 have:i < rs.length:=by rw[h.len]; exact hi
 exact h.rng _ (List.mem_of_getElem? (nth_some this))
theorem Rts.loss_rng(h:Rts cs rs){n:Int}(hn:0≤n)(h100:n≤100):0≤lossN cs rs n∧lossN cs rs n≤100:=by
 obtain⟨h1,h2⟩:=h.btw hn h100;have hi:=h.at (h.lt n);unfold lossN; dsimp only
 split
 ·exact hi
 ·rename_i hne
  obtain⟨h3,h4⟩:=h2 hne;have hi2:=h.at h3;exact⟨line_ge h1 (by omega) (by omega) (Int.le_refl _) hi.1 hi2.1,line_le h1 (by omega) (by omega) hi.1 hi2.1 hi.2 hi2.2⟩
theorem Cnt.last_at(h:Cnt cs){i:Nat}(hi:i < cs.length):lastN cs (nth cs i)=i:=by
 refine lastN_uniq h.pw hi (fun x hx=>?_) (fun x hx=>?_) fun x hx=>?_
 ·rw[nth_of hx]; exact Int.le_refl _
 ·exact pw_lt h.pw (nth_some hi) hx (Nat.lt_succ_self _)
 ·have h0:cs[0]? = some x:=by rw[← hx]; cases cs <;> rfl
  rcases Nat.eq_zero_or_pos i with h5 | h5
  ·subst h5; rw[nth_of h0]; exact Int.le_refl _
  ·exact Int.le_of_lt (pw_lt h.pw h0 (nth_some hi) h5)
end
end Go.Proofs.YteojndcmgpiklaaGreat

namespace Go.Proofs.YteojndcmgpiklaaGreat
open _root_.Go.Proofs.Tryz
open Go.Abs
set_option maxRecDepth 100000
noncomputable section
structure VT (t:Tf):Prop where
 frm:0≤t.From∧t.From≤120
 lst:0≤t.Least∧t.Least≤100
 wks:t.Weeks.Pairwise (· < ·)∧t.Weeks.head? = some 0∧∀x∈t.Weeks,0≤x∧x≤120
 cts:t.Counts.Pairwise (· < ·)∧t.Counts.head? = some 0∧∀x∈t.Counts,0≤x∧x≤100
 c100:t.Counts.getLast? = some 100
 rne:t.Rates ≠ []
 rts:∀c∈t.Rates,c.length=t.Weeks.length∧∀w∈c,w.length=t.Counts.length∧∀r∈w,0≤r∧r≤100
def cropsN(l:List Tf):Nat:=match l with | []=>0 | t::_=>t.Rates.length
structure VL (l:List Tf):Prop where
 ne:l ≠ []
 vt:∀t∈l,VT t
 pw:(l.map (·.From)).Pairwise (· < ·)
 hd:(l.map (·.From)).head? = some 0
 crp:∀t∈l,t.Rates.length=cropsN l
def tooManyN(t:Tf):Prop:=4 < t.Weeks.length∨5 < t.Counts.length∨3 < t.Rates.length
def ManyN(l:List Tf):Prop:=3 < l.length∨∃t∈l,tooManyN t
open Classical in
def faultN(l:List Tf):Int:=if ManyN l then 3 else if VL l then 0 else 1
theorem faultN_zero{l:List Tf}:faultN l=0↔¬ ManyN l∧VL l:=by
 unfold faultN
 split
 ·rename_i h; exact⟨fun h=>by omega,fun h'=>absurd h h'.1⟩
 ·rename_i h
  split
  ·rename_i h2; exact⟨fun _=>⟨h,h2⟩,fun _=>rfl⟩
  ·rename_i h2; exact⟨fun h=>by omega,fun h'=>absurd h'.2 h2⟩
def ratesN(t:Tf)(crop day:Int):List Int:=(t.Rates.getD crop.toNat []).getD (lastN t.Weeks day) []
def payTN(t:Tf)(loss:Int):Int:=if loss < t.Least then 0 else if t.Whole=true then loss else loss - t.Least
def partT(t:Tf)(crop day count:Int):Int:=payTN t (lossN t.Counts (ratesN t crop day) count)
instance:Inhabited Tf:=⟨⟨0,false,0,[],[],[]⟩⟩
def ofN(l:List Tf)(day:Int):Tf:=l.getD (lastN (l.map (·.From)) day) default
def partN(l:List Tf)(crop day count:Int):Int:=partT (ofN l day) crop day count
theorem VT.wlt{t:Tf}(h:VT t)(d:Int):lastN t.Weeks d < t.Weeks.length:=lastN_lt _ _ fun e=>by have:=h.wks.2.1; rw[e] at this; cases this
theorem VT.cnt{t:Tf}(h:VT t):Cnt t.Counts:=⟨h.cts.1,h.cts.2.1,h.c100⟩
theorem VT.rates{t:Tf}(h:VT t){crop:Int}(h0:0≤crop)(h1:crop < t.Rates.length)(day:Int) :
  ∃wks,t.Rates[crop.toNat]? = some wks∧wks[lastN t.Weeks day]? = some (ratesN t crop day)∧Rts t.Counts (ratesN t crop day):=by
 have hc:crop.toNat < t.Rates.length:=by omega
 have e1:=List.getElem?_eq_getElem hc;obtain⟨q1,q2⟩:=h.rts _ (List.getElem_mem hc)
 have hw:lastN t.Weeks day < t.Rates[crop.toNat].length:=by rw[q1]; exact h.wlt day
 have e2:=List.getElem?_eq_getElem hw
 have e3:ratesN t crop day=t.Rates[crop.toNat][lastN t.Weeks day]:=by
  have e4:t.Rates.getD crop.toNat []=t.Rates[crop.toNat]:=by rw[List.getD_eq_getElem?_getD,e1]; rfl
  unfold ratesN;rw[e4,List.getD_eq_getElem?_getD,e2,Option.getD_some]
 obtain⟨q3,q4⟩:=q2 _ (List.getElem_mem hw);refine⟨_,e1,by rw[e2,e3],⟨h.cnt,by rw[e3]; exact q3,by rw[e3]; exact q4⟩⟩
theorem VL.of{l:List Tf}(h:VL l)(day:Int):l[lastN (l.map (·.From)) day]? = some (ofN l day)∧ofN l day∈l:=by
 have hl:=lastN_lt (l.map (·.From)) day fun e=>h.ne (List.map_eq_nil_iff.1 e);rw[List.length_map] at hl
 have e:l[lastN (l.map (·.From)) day]? = some (ofN l day):=by
  unfold ofN;rw[List.getD_eq_getElem?_getD,List.getElem?_eq_getElem hl,Option.getD_some]
 exact⟨e,List.mem_of_getElem? e⟩
theorem payT_rng{t:Tf}(h:VT t){x:Int}(h0:0≤x)(h1:x≤100):0≤payTN t x∧payTN t x≤100:=by
 have:=h.lst;unfold payTN
 split
 ·omega
 ·split <;> omega
theorem VL.vof{l:List Tf}(h:VL l)(day:Int):VT (ofN l day):=h.vt _ (h.of day).2
theorem VL.cof{l:List Tf}(h:VL l)(day:Int):(ofN l day).Rates.length=cropsN l:=h.crp _ (h.of day).2
theorem VL.rts{l:List Tf}(h:VL l){crop:Int}(h0:0≤crop)(h1:crop < cropsN l)(day:Int):Rts (ofN l day).Counts (ratesN (ofN l day) crop day):=by
 obtain⟨_,_,_,q⟩:=(h.vof day).rates h0 (by rw[h.cof]; exact h1) day;exact q
theorem VL.part_rng{l:List Tf}(h:VL l){crop n:Int}(h0:0≤crop)(h1:crop < cropsN l)(hn:0≤n)(hn1:n≤100)(day:Int):0≤partN l crop day n∧partN l crop day n≤100:=by
 obtain⟨q1,q2⟩:=(h.rts h0 h1 day).loss_rng hn hn1;exact payT_rng (h.vof day) q1 q2
end
end Go.Proofs.YteojndcmgpiklaaGreat

namespace Go.Proofs.YteojndcmgpiklaaGreat
open _root_.Go.Proofs.Tryz
open Go.Abs
set_option maxRecDepth 100000
noncomputable section
theorem In_ev{n lo hi:Int}:Ev (prIn n lo hi) (lo≤n∧n≤hi):=Ev.ite fun _=>Ev.dec Iff.rfl
theorem has_ev{r:Rg}{n:Int}:Ev (phas r n) (r.Lo≤n∧n≤r.Hi):=Ev.ite fun _=>Ev.dec Iff.rfl
theorem isDay_ev{n:Int}:Ev (pisDay n) (0≤n∧n≤120):=has_ev.ret
theorem isCount_ev{n:Int}:Ev (pisCount n) (0≤n∧n≤100):=has_ev.ret
theorem isHundredths_ev{n:Int}:Ev (pisHundredths n) (0≤n∧n≤100):=has_ev.ret
theorem isIndex_ev{n s:Int}(hs:0≤s∧s≤4611686018427387904):Ev (pisIndex n s) (0≤n∧n < s):=Ev.gd (fI (by omega)) (has_ev.ret.imp (by show 0≤n∧n≤s - 1↔_; omega))
theorem nth_at{l:List Int}{k:Nat}(h:k < l.length):idx l (k:Int)=some (nth l k):=idx_at (nth_some h)
theorem nth_pred{l:List Int}{k:Nat}(h0:0 < k)(h:k - 1 < l.length):idx l ((k:Int) - 1)=some (nth l (k - 1)):=idx_pred h0 (nth_some h)
theorem pw_steps:∀{l:List Int},(∀j,0 < j→j < l.length→nth l (j - 1) < nth l j)→l.Pairwise (· < ·)
 | [],_=>.nil
 | [a],_=>List.pairwise_singleton _ _
 | a::b::l,h=>by
  have h1:(b::l).Pairwise (· < ·):=pw_steps fun j h0 hj=>by
   have:=h (j+1) (by omega) (by simp at hj ⊢; omega);obtain⟨i,rfl⟩:∃i,j=i+1:=⟨j - 1,by omega⟩;exact this
  have h2:a < b:=h 1 (by omega) (by simp);refine List.pairwise_cons.2 ⟨fun x hx=>?_,h1⟩
  rcases List.mem_cons.1 hx with rfl | hx
  ·exact h2
  ·exact Int.lt_trans h2 ((List.pairwise_cons.1 h1).1 x hx)
theorem pw_steps_iff{l:List Int}:(∀j,0 < j→j < l.length→nth l (j - 1) < nth l j)↔l.Pairwise (· < ·):=
 ⟨pw_steps,fun h j h0 hj=>pw_lt h (nth_some (by omega)) (nth_some hj) (by omega)⟩
theorem rises_ev{l:List Int}(hl:shrt l):Ev (prises l) (l.Pairwise (· < ·)∧l.head? = some 0):=by
 have hl:=hl.lt
 have key:Ev (prises_L0 l (l.length+1) 0) ((∀j,j < l.length→(0 < j→nth l (j - 1) < nth l j))∧l.head? = some 0):=by
  refine Ev.loop (F:=prises_L0 l) (fin:=if (0:Int) < (l.length:Int) then ((idx l (0:Int)).bind fun x=>some (decide (x=(0:Int)))) else some false) (fun d k hk=>?_) (fun d=>?_) (by omega) fun _=>?_
  ·rw[prises_L0,if_pos (by omega),nth_at hk,obs]
   by_cases h0:0 < k
   ·rw[if_pos (show(0:Int) < k by omega),gd_pos (fI (by omega)),nth_pred h0 (by omega),obs,gd_pos (fI (by omega))];refine⟨fun h=>?_,fun h=>?_⟩
    ·rw[if_neg (by have:=h h0; omega)]
    ·rw[if_pos (by
      rcases Int.lt_or_le (nth l (k - 1)) (nth l k) with h1 | h1
      ·exact absurd (fun _=>h1) h
      ·exact h1)]
   ·rw[if_neg (show ¬ (0:Int) < k by omega),gd_pos (fI (by omega))];exact⟨fun _=>rfl,fun h=>absurd (fun h'=>absurd h' h0) h⟩
  ·rw[prises_L0,if_neg (Int.lt_irrefl _)]
  ·cases l with
   | nil=>exact Ev.ff (by simp)
   | cons a l=>rw[if_pos (by simp)]; exact Ev.bind (idx_zero rfl) (Ev.dec (by simp))
 exact key.imp (and_congr ⟨fun h=>pw_steps fun j h0 hj=>h j hj h0,fun h j hj h0=>pw_steps_iff.2 h j h0 hj⟩ Iff.rfl)
theorem rRises_ev{l:List Int}{most:Int}(hl:shrt l):Ev (prRises l most) ((l.Pairwise (· < ·)∧l.head? = some 0)∧∀x∈l,0≤x∧x≤most):=by
 have hl:=hl.lt
 have key:Ev (prRises_L0 l most (l.length+1) 0) ((∀j,j < l.length→((0≤nth l j∧nth l j≤most)∧(0 < j→nth l (j - 1) < nth l j)))∧l.head? = some 0):=by
  refine Ev.loop (F:=prRises_L0 l most) (fin:=if (0:Int) < (l.length:Int) then ((idx l (0:Int)).bind fun x=>some (decide (x=(0:Int)))) else some false) (fun d k hk=>?_) (fun d=>?_) (by omega) fun _=>?_
  ·rw[prRises_L0,if_pos (by omega),nth_at hk,obs];obtain⟨b,h1,h2⟩:=In_ev (n:=nth l k) (lo:=0) (hi:=most);rw[h1,obs]
   cases b with
   | false=>
    rw[if_neg (by simp)];exact⟨fun h=>(by have:=h2.2 h.1; cases this),fun _=>rfl⟩
   | true=>
    have h3:=h2.1 rfl;rw[if_pos rfl]
    by_cases h0:0 < k
    ·rw[if_pos (show(0:Int) < k by omega),obs,gd_pos (fI (by omega)),nth_pred h0 (by omega),obs,gd_pos (fI (by omega))];refine⟨fun h=>?_,fun h=>?_⟩
     ·rw[if_neg (by have:=h.2 h0; omega)]
     ·rw[if_pos (by
       rcases Int.lt_or_le (nth l (k - 1)) (nth l k) with h1 | h1
       ·exact absurd ⟨h3,fun _=>h1⟩ h
       ·exact h1)]
    ·rw[if_neg (show ¬ (0:Int) < k by omega),gd_pos (fI (by omega))];exact⟨fun _=>rfl,fun h=>absurd ⟨h3,fun h'=>absurd h' h0⟩ h⟩
  ·rw[prRises_L0,if_neg (Int.lt_irrefl _)]
  ·cases l with
   | nil=>exact Ev.ff (by simp)
   | cons a l=>rw[if_pos (by simp)]; exact Ev.bind (idx_zero rfl) (Ev.dec (by simp))
 refine key.imp ⟨fun⟨h1,h2⟩=>⟨⟨pw_steps fun j h0 hj=>(h1 j hj).2 h0,h2⟩,fun x hx=>?_⟩,fun⟨⟨h1,h2⟩,h3⟩=>⟨fun j hj=>⟨h3 _ (List.mem_of_getElem? (nth_some hj)),fun h0=>pw_steps_iff.2 h1 j h0 hj⟩,h2⟩⟩;obtain⟨i,hi⟩:=List.mem_iff_getElem?.1 hx;rw[← nth_of hi];exact(h1 i (List.getElem?_eq_some_iff.1 hi).1).1
theorem gTf{l:List Tf}{p:Tf→Option Bool}:∀{d:Nat} {x:Int},pindexTf_L0 l p d x=gIdx l p d x
 | 0,_=>rfl
 | d+1,x=>by unfold pindexTf_L0 gIdx; simp only[gTf (d:=d)]
theorem gTfs{l:List Tf}{p:Tf→Option Bool}:∀{d:Nat} {x:Int},pindexTfs_L0 l p d x=gIdx l p d x
 | 0,_=>rfl
 | d+1,x=>by unfold pindexTfs_L0 gIdx; simp only[gTfs (d:=d)]
theorem gCl{l:List Clm}{p:Clm→Option Bool}:∀{d:Nat} {x:Int},pindexCl_L0 l p d x=gIdx l p d x
 | 0,_=>rfl
 | d+1,x=>by unfold pindexCl_L0 gIdx; simp only[gCl (d:=d)]
theorem gI{l:List Int}{p:Int→Option Bool}:∀{d:Nat} {x:Int},pindexI_L0 l p d x=gIdx l p d x
 | 0,_=>rfl
 | d+1,x=>by unfold pindexI_L0 gIdx; simp only[gI (d:=d)]
theorem gL{l:List (List Int)}{p:List Int→Option Bool}:∀{d:Nat} {x:Int},pindexL_L0 l p d x=gIdx l p d x
 | 0,_=>rfl
 | d+1,x=>by unfold pindexL_L0 gIdx; simp only[gL (d:=d)]
theorem gLL{l:List (List (List Int))}{p:List (List Int)→Option Bool}:∀{d:Nat} {x:Int},pindexLL_L0 l p d x=gIdx l p d x
 | 0,_=>rfl
 | d+1,x=>by unfold pindexLL_L0 gIdx; simp only[gLL (d:=d)]
theorem eachTf_ev{l:List Tf}{p:Tf→Option Bool}{q:Tf→Prop}(hp:∀a∈l,Ev (p a) (q a))(hl:shrt l):Ev (peachTf l p) (∀a∈l,q a):=Ev.each hp hl.lt gTf
theorem eachCl_ev{l:List Clm}{p:Clm→Option Bool}{q:Clm→Prop}(hp:∀a∈l,Ev (p a) (q a))(hl:shrt l):Ev (peachCl l p) (∀a∈l,q a):=Ev.each hp hl.lt gCl
theorem eachI_ev{l:List Int}{p:Int→Option Bool}{q:Int→Prop}(hp:∀a∈l,Ev (p a) (q a))(hl:shrt l):Ev (peachI l p) (∀a∈l,q a):=Ev.each hp hl.lt gI
theorem eachL_ev{l:List (List Int)}{p:List Int→Option Bool}{q:List Int→Prop}(hp:∀a∈l,Ev (p a) (q a))(hl:shrt l):Ev (peachL l p) (∀a∈l,q a):=Ev.each hp hl.lt gL
theorem eachLL_ev{l:List (List (List Int))}{p:List (List Int)→Option Bool}{q:List (List Int)→Prop}(hp:∀a∈l,Ev (p a) (q a))(hl:shrt l):Ev (peachLL l p) (∀a∈l,q a):=Ev.each hp hl.lt gLL
theorem containsTfs_ev{l:List Tf}{p:Tf→Option Bool}{q:Tf→Prop}(hp:∀a∈l,Ev (p a) (q a))(hl:shrt l):Ev (pcontainsTfs l p) (∃a∈l,q a):=Ev.contains hp hl.lt gTfs
theorem last_at{l:List Int}(h:l ≠ []):∃x,idx l ((l.length:Int) - 1)=some x∧l.getLast? = some x:=by
 have hl:0 < l.length:=List.length_pos_iff.2 h;refine⟨l[l.length - 1],idx_get (by omega) (by omega),?_⟩;rw[List.getLast?_eq_getElem?,List.getElem?_eq_getElem]
theorem few{t:Tf}(h:¬ tooManyN t):t.Weeks.length≤4∧t.Counts.length≤5∧t.Rates.length≤3:=by unfold tooManyN at h; omega
theorem ne_of_head{l:List Int}{x:Int}(h:l.head? = some x):l ≠ []:=fun e=>by rw[e] at h; cases h
theorem validWeek_ev{t:Tf}(h:¬ tooManyN t){w:List Int}:Ev (pvalidWeek t w) (w.length=t.Counts.length∧∀r∈w,0≤r∧r≤100):=by
 have hf:=few h;exact(Ev.ite fun hl=>(eachI_ev (q:=fun r=>0≤r∧r≤100) (fun _ _=>isHundredths_ev) (fewS (n:=5) (by omega) (by omega))).ret).imp (and_congr Int.ofNat_inj Iff.rfl)
theorem validCrop_ev{t:Tf}(h:¬ tooManyN t){c:List (List Int)}:Ev (pvalidCrop t c) (c.length=t.Weeks.length∧∀w∈c,w.length=t.Counts.length∧∀r∈w,0≤r∧r≤100):=by
 have hf:=few h;exact(Ev.ite fun hl=>(eachL_ev (fun _ _=>validWeek_ev h) (fewS (n:=4) (by omega) (by omega))).ret).imp (and_congr Int.ofNat_inj Iff.rfl)
theorem VT_iff{t:Tf}:VT t↔((0≤t.From∧t.From≤120)∧(0≤t.Least∧t.Least≤100)∧(t.Weeks.Pairwise (· < ·)∧t.Weeks.head? = some 0)∧(∀x∈t.Weeks,0≤x∧x≤120)∧(t.Counts.Pairwise (· < ·)∧t.Counts.head? = some 0)∧t.Counts.getLast? = some 100∧t.Rates ≠ []∧∀c∈t.Rates,c.length=t.Weeks.length∧∀w∈c,w.length=t.Counts.length∧∀r∈w,0≤r∧r≤100):=by
 constructor
 ·intro h; exact⟨h.frm,h.lst,⟨h.wks.1,h.wks.2.1⟩,h.wks.2.2,⟨h.cts.1,h.cts.2.1⟩,h.c100,h.rne,h.rts⟩
 ·rintro⟨h1,h2,h3,h4,h5,h6,h7,h8⟩
  refine⟨h1,h2,⟨h3.1,h3.2,h4⟩,⟨h5.1,h5.2,fun x hx=>?_⟩,h6,h7,h8⟩;obtain⟨i,hi⟩:=List.mem_iff_getElem?.1 hx;have hil:=(List.getElem?_eq_some_iff.1 hi).1
  have h0:t.Counts[0]? = some 0:=by rw[← h5.2]; cases t.Counts <;> rfl
  have hl:t.Counts[t.Counts.length - 1]? = some 100:=by rw[← h6,List.getLast?_eq_getElem?]
  constructor
  ·rcases Nat.eq_zero_or_pos i with h9 | h9
   ·subst h9; rw[h0] at hi; cases hi; exact Int.le_refl _
   ·exact Int.le_of_lt (pw_lt h5.1 h0 hi h9)
  ·rcases Nat.lt_or_ge i (t.Counts.length - 1) with h9 | h9
   ·exact Int.le_of_lt (pw_lt h5.1 hi hl h9)
   ·rw[show i=t.Counts.length - 1 by omega,hl] at hi; cases hi; exact Int.le_refl _
theorem tfValid_ev{t:Tf}(h:¬ tooManyN t):Ev (ptfValid t) (VT t):=by
 have hf:=few h;have hw:shrt t.Weeks:=fewS (n:=4) (by omega) (by omega);have hc:shrt t.Counts:=fewS (n:=5) (by omega) (by omega);have hr:shrt t.Rates:=fewS (n:=3) (by omega) (by omega);refine Ev.imp (Ev.and isDay_ev fun _=>Ev.and isHundredths_ev fun _=>Ev.and (rises_ev hw) fun _=>Ev.and (eachI_ev (q:=fun r=>0≤r∧r≤120) (fun _ _=>isDay_ev) hw) fun _=>Ev.and (K:=t.Counts.getLast? = some 100∧t.Rates ≠ []∧∀c∈t.Rates,c.length=t.Weeks.length∧∀w∈c,w.length=t.Counts.length∧∀r∈w,0≤r∧r≤100) (rises_ev hc) fun hr2=>?_) VT_iff.symm;obtain⟨x,hx,hx2⟩:=last_at (ne_of_head hr2.2);refine Ev.gd (fI (by omega)) (Ev.bind hx (Ev.imp (Ev.ite fun _=>Ev.ite fun _=>(eachLL_ev (fun _ _=>validCrop_ev h) hr).ret) ?_));rw[hx2];refine and_congr ⟨fun h=>by rw[h],fun h=>oi h⟩ (and_congr ?_ Iff.rfl);rw[← List.length_pos_iff]; omega
theorem rT_L2{t:Tf}{c w:Nat}{wks:List (List Int)}{rs:List Int}(hc:t.Rates[c]? = some wks)(hw:wks[w]? = some rs)(hl:rs.length=t.Counts.length)(h5:t.Counts.length≤5)(hw4:w≤4){K:Bool→Int→Option Bool}{b:Bool} :
  ((∀r∈rs,0≤r∧r≤100)→prIsTariff_L2 t (c:Int) (w:Int) K 1000000 b 0=K b ((w:Int)+1))∧(¬ (∀r∈rs,0≤r∧r≤100)→prIsTariff_L2 t (c:Int) (w:Int) K 1000000 b 0=some false):=by
 have key:=loopAll_tt (n:=rs.length) (F:=fun d x=>prIsTariff_L2 t (c:Int) (w:Int) K d b x) (ok:=fun j=>0≤nth rs j∧nth rs j≤100) (bad:=some false) (fin:=K b ((w:Int)+1)) (fun d k hk=>by
  rw[prIsTariff_L2,if_pos (by omega),idx_at hc,obs,idx_at hw,obs,nth_at hk,obs];obtain⟨b',h1,h2⟩:=In_ev (n:=nth rs k) (lo:=0) (hi:=100);rw[h1,obs]
  cases b' with
  | true=>rw[if_pos rfl,gd_pos (fI (by omega))]; exact⟨fun _=>rfl,fun h=>absurd (h2.1 rfl) h⟩
  | false=>rw[if_neg (by simp)]; exact⟨fun h=>(by have:=h2.2 h; cases this),fun _=>rfl⟩) (fun d=>by rw[prIsTariff_L2,if_neg (by omega),gd_pos (fI (by omega))]) (d:=1000000) (by omega)
 have hiff:(∀j,j < rs.length→0≤nth rs j∧nth rs j≤100)↔∀r∈rs,0≤r∧r≤100:=⟨fun h r hr=>by
  obtain⟨i,hi⟩:=List.mem_iff_getElem?.1 hr
  rw[← nth_of hi]; exact h i (List.getElem?_eq_some_iff.1 hi).1,fun h j hj=>h _ (List.mem_of_getElem? (nth_some hj))⟩
 rw[hiff] at key;exact key
def wkOk(t:Tf)(rs:List Int):Prop:=rs.length=t.Counts.length∧∀r∈rs,0≤r∧r≤100
theorem mem_iff_nat{α:Type}{l:List α}{P:α→Prop}:(∀j,j < l.length→∀a,l[j]? = some a→P a)↔∀a∈l,P a:=
 ⟨fun h a ha=>by
  obtain⟨i,hi⟩:=List.mem_iff_getElem?.1 ha
  exact h i (List.getElem?_eq_some_iff.1 hi).1 a hi,fun h j _ a ha=>h a (List.mem_of_getElem? ha)⟩
theorem rT_L1{t:Tf}(h:¬ tooManyN t){c:Nat}{wks:List (List Int)}(hc:t.Rates[c]? = some wks)(hl:wks.length=t.Weeks.length){K:Bool→Int→Option Bool}{b:Bool} :
  ((∀w∈wks,wkOk t w)→prIsTariff_L1 t (c:Int) K 1000000 b 0=K b ((c:Int)+1))∧(¬ (∀w∈wks,wkOk t w)→prIsTariff_L1 t (c:Int) K 1000000 b 0=some false):=by
 have hf:=few h;have hcl:c < t.Rates.length:=(List.getElem?_eq_some_iff.1 hc).1
 have key:=loopAll_tt (n:=wks.length) (F:=fun d x=>prIsTariff_L1 t (c:Int) K d b x) (ok:=fun j=>∀rs,wks[j]? = some rs→wkOk t rs) (bad:=some false) (fin:=K b ((c:Int)+1)) (fun d k hk=>by
  have hw:=List.getElem?_eq_getElem hk;rw[prIsTariff_L1,if_pos (by omega),idx_at hc,obs,idx_at hw,obs]
  by_cases hlen:wks[k].length=t.Counts.length
  ·rw[if_pos (by omega)];obtain⟨q1,q2⟩:=rT_L2 (t:=t) (b:=b) (K:=prIsTariff_L1 t (c:Int) K d) hc hw hlen hf.2.1 (by omega);exact⟨fun hok=>q1 (hok _ hw).2,fun hok=>q2 fun h'=>hok fun rs hrs=>by rw[hw] at hrs; cases hrs; exact⟨hlen,h'⟩⟩
  ·rw[if_neg (by omega)]
   exact⟨fun hok=>absurd (hok _ hw).1 hlen,fun _=>rfl⟩) (fun d=>by rw[prIsTariff_L1,if_neg (by omega),gd_pos (fI (by omega))]) (d:=1000000) (by omega)
 rw[mem_iff_nat (P:=wkOk t)] at key;exact key
theorem rT_L0{t:Tf}(h:¬ tooManyN t):Ev (prIsTariff_L0 t 1000000 false 0) (∀c∈t.Rates,c.length=t.Weeks.length∧∀w∈c,wkOk t w):=by
 have hf:=few h
 have key:=Ev.loop (n:=t.Rates.length) (F:=fun d x=>prIsTariff_L0 t d false x) (ok:=fun j=>∀c,t.Rates[j]? = some c→c.length=t.Weeks.length∧∀w∈c,wkOk t w) (fin:=some true) (P:=True) (fun d k hk=>by
  have hc:=List.getElem?_eq_getElem hk;rw[prIsTariff_L0,if_pos (by omega),idx_at hc,obs]
  by_cases hlen:t.Rates[k].length=t.Weeks.length
  ·rw[if_pos (by omega)];obtain⟨q1,q2⟩:=rT_L1 h (b:=false) (K:=prIsTariff_L0 t d) hc hlen;exact⟨fun hok=>q1 (hok _ hc).2,fun hok=>q2 fun h'=>hok fun rs hrs=>by rw[hc] at hrs; cases hrs; exact⟨hlen,h'⟩⟩
  ·rw[if_neg (by omega)]
   exact⟨fun hok=>absurd (hok _ hc).1 hlen,fun _=>rfl⟩) (fun d=>by rw[prIsTariff_L0,if_neg (Int.lt_irrefl _)]) (d:=1000000) (by omega) fun _=>Ev.tt trivial
 refine key.imp ⟨fun h=>mem_iff_nat.1 h.1,fun h=>⟨mem_iff_nat.2 h,trivial⟩⟩
theorem rIsTariff_ev{t:Tf}(h:¬ tooManyN t):Ev (prIsTariff t) (VT t):=by
 have hf:=few h;have hw:shrt t.Weeks:=fewS (n:=4) (by omega) (by omega);have hc:shrt t.Counts:=fewS (n:=5) (by omega) (by omega);refine Ev.imp (Ev.and In_ev fun _=>Ev.and In_ev fun _=>Ev.and (rRises_ev hw) fun _=>Ev.and (K:=t.Counts.getLast? = some 100∧t.Rates ≠ []∧∀c∈t.Rates,c.length=t.Weeks.length∧∀w∈c,wkOk t w) (rRises_ev hc) fun hr2=>?_) ?_
 ·obtain⟨x,hx,hx2⟩:=last_at (ne_of_head hr2.1.2);refine Ev.gd (fI (by omega)) (Ev.bind hx (Ev.imp (Ev.ite fun _=>Ev.itn fun _=>rT_L0 h) ?_));rw[hx2];refine and_congr ⟨fun h=>by rw[h],fun h=>oi h⟩ (and_congr ?_ Iff.rfl);rw[← List.length_pos_iff]; omega
 ·refine⟨fun⟨h1,h2,h3,h4,h5,h6,h7⟩=>⟨h1,h2,⟨h3.1.1,h3.1.2,h3.2⟩,⟨h4.1.1,h4.1.2,h4.2⟩,h5,h6,h7⟩,fun h=>⟨h.frm,h.lst,⟨⟨h.wks.1,h.wks.2.1⟩,h.wks.2.2⟩,⟨⟨h.cts.1,h.cts.2.1⟩,h.cts.2.2⟩,h.c100,h.rne,h.rts⟩⟩
theorem tfTooMany_ev{t:Tf}:Ev (ptfTooMany t) (tooManyN t):=by
 unfold ptfTooMany tooManyN
 by_cases h1:(4:Int) < (t.Weeks.length:Int)
 ·rw[if_pos h1]; exact Ev.tt (.inl (by omega))
 ·rw[if_neg h1]
  by_cases h2:(5:Int) < (t.Counts.length:Int)
  ·rw[if_pos h2]; exact Ev.tt (.inr (.inl (by omega)))
  ·rw[if_neg h2]; exact Ev.dec (by omega)
theorem tooMany_ev{l:List Tf}:Ev (ptooMany l) (ManyN l):=by
 unfold ptooMany ManyN
 by_cases h1:(3:Int) < (l.length:Int)
 ·rw[if_pos h1]; exact Ev.tt (.inl (by omega))
 ·rw[if_neg h1];exact(containsTfs_ev (fun _ _=>tfTooMany_ev) (fewS (n:=3) (by omega) (by omega))).ret.imp ⟨fun h=>.inr h,fun h=>h.elim (fun h=>by omega) id⟩
theorem froms_eq{l:List Tf}(hl:shrt l):pfroms l=some (l.map (·.From)):=by
 unfold shrt at hl
 exact loopApp0 (l:=l) (F:=pfroms_L0 l) (fun t:Tf=>t.From) some (fun d k acc a ha hac=>by
  have hk:=(List.getElem?_eq_some_iff.1 ha).1
  rw[pfroms_L0,if_pos (by omega),idx_at ha,obs,gd_pos (show acc.length < 1048576 by omega),gd_pos (fI (by omega))]) (fun d acc=>by rw[pfroms_L0,if_neg (Int.lt_irrefl _)]) (by omega)
theorem head_zero{l:List Tf}(h:l ≠ []):∃t,l[0]? = some t∧cropsN l=t.Rates.length:=by
 cases l with
 | nil=>exact absurd rfl h
 | cons t l=>exact⟨t,rfl,rfl⟩
theorem sameCrops_ev{l:List Tf}(h:l ≠ []){t:Tf}:Ev (psameCrops l t) (t.Rates.length=cropsN l):=by
 obtain⟨u,h1,h2⟩:=head_zero h;exact Ev.bind (idx_zero h1) (Ev.dec (by rw[h2]; exact Int.ofNat_inj))
theorem not_many{l:List Tf}(h:¬ ManyN l):l.length≤3∧∀t∈l,¬ tooManyN t:=by
 unfold ManyN at h
 exact⟨by rcases Nat.lt_or_ge 3 l.length with h1 | h1; exact absurd (.inl h1) h; exact h1,fun t ht h1=>h (.inr ⟨t,ht,h1⟩)⟩
theorem tfsValid_ev{l:List Tf}(h:¬ ManyN l):Ev (ptfsValid l) (VL l):=by
 obtain⟨h3,ht⟩:=not_many h;have hs:shrt l:=fewS h3 (by omega)
 have key:Ev (ptfsValid l) ((∀t∈l,VT t)∧((l.map (·.From)).Pairwise (· < ·)∧(l.map (·.From)).head? = some 0)∧∀t∈l,t.Rates.length=cropsN l):=by
  refine Ev.and (eachTf_ev (fun t h'=>tfValid_ev (ht t h')) hs) fun _=>Ev.bind (froms_eq hs) (Ev.and (rises_ev (by unfold shrt; rw[List.length_map]; exact hs)) fun hr=>(eachTf_ev (fun t _=>sameCrops_ev (fun e=>by rw[e] at hr; cases hr.2)) hs).ret)
 exact key.imp ⟨fun⟨h1,h2,h4⟩=>⟨fun e=>(by rw[e] at h2; cases h2.2),h1,h2.1,h2.2,h4⟩,fun h=>⟨h.vt,⟨h.pw,h.hd⟩,h.crp⟩⟩
theorem check_eq{l:List Tf}:pcheck l=some (faultN l):=by
 unfold pcheck;refine tooMany_ev.pick (fun h=>?_) fun h=>?_
 ·rw[if_pos rfl]; unfold faultN; rw[if_pos h]
 ·rw[if_neg (by simp)];refine(tfsValid_ev h).pick (fun hv=>?_) fun hv=>?_
  ·rw[if_pos rfl]; unfold faultN; rw[if_neg h,if_pos hv]
  ·rw[if_neg (by simp)]; unfold faultN; rw[if_neg h,if_neg hv]
def okAt(l:List Tf)(j:Nat)(t:Tf):Prop:=VT t∧t.Rates.length=cropsN l∧(j=0→t.From=0)∧(0 < j→∀u,l[j - 1]? = some u→u.From < t.From)
theorem fault_L1{l:List Tf}(h:¬ ManyN l)(hne:l ≠ []):((∀j,j < l.length→∀t,l[j]? = some t→okAt l j t)→prFault_L1 l (l.length+1) 0=some 0)∧(¬ (∀j,j < l.length→∀t,l[j]? = some t→okAt l j t)→prFault_L1 l (l.length+1) 0=some 1):=by
 obtain⟨h3,ht⟩:=not_many h;obtain⟨u0,hu0,hcr⟩:=head_zero hne;refine loopAll_tt (F:=prFault_L1 l) (fun d k hk=>?_) (fun d=>by rw[prFault_L1,if_neg (Int.lt_irrefl _),if_neg (by have:=List.length_pos_iff.2 hne; omega)]) (Nat.lt_succ_self _);have hg:=List.getElem?_eq_getElem hk;generalize l[k]=t at hg;have hT:=rIsTariff_ev (ht t (List.mem_of_getElem? hg));have hgo:∀{P:Prop},(∀t',l[k]? = some t'→P)→P:=fun f=>f _ hg;rw[prFault_L1,if_pos (by omega),idx_at hg,obs];have hone:∀{P:Tf→Prop},(∀t',l[k]? = some t'→P t')↔P t:=⟨fun f=>f _ hg,fun f t' ht'=>by rw[hg] at ht'; cases ht'; exact f⟩;rw[hone];have done:∀{o:Option Int},(VT t→t.Rates.length=cropsN l→(k=0→t.From=0)→(0 < k→∀u,l[k - 1]? = some u→u.From < t.From)→o=prFault_L1 l d ((k:Int)+1))→(¬ okAt l k t→o=some 1)→(okAt l k t→o=prFault_L1 l d ((k:Int)+1))∧(¬ okAt l k t→o=some 1):=fun a b=>⟨fun h=>a h.1 h.2.1 h.2.2.1 h.2.2.2,b⟩;obtain⟨b,hb,hb2⟩:=hT;rw[hb,obs]
 cases b with
 | false=>rw[if_neg (by simp)]; exact⟨fun h=>(by have:=hb2.2 h.1; cases this),fun _=>rfl⟩
 | true=>
  have hv:=hb2.1 rfl;rw[if_pos rfl,obs,idx_zero hu0,obs]
  by_cases hr:t.Rates.length=u0.Rates.length
  ·rw[if_pos (by omega)]
   have hr':t.Rates.length=cropsN l:=by omega
   by_cases h0:k=0
   ·rw[if_pos (by omega),obs]
    by_cases hf:t.From=0
    ·rw[if_pos hf,if_neg (by omega),gd_pos (fI (by omega))];exact⟨fun _=>rfl,fun hn=>absurd ⟨hv,hr',fun _=>hf,fun h'=>by omega⟩ hn⟩
    ·rw[if_neg hf];exact⟨fun h'=>absurd (h'.2.2.1 h0) hf,fun _=>rfl⟩
   ·rw[if_neg (by omega),if_pos (by omega),obs,gd_pos (fI (by omega))]
    have hp:k - 1 < l.length:=by omega
    have hgp:=List.getElem?_eq_getElem hp;generalize l[k - 1]=u at hgp;rw[idx_pred (by omega) hgp,obs]
    by_cases hle:t.From≤u.From
    ·rw[if_pos hle];exact⟨fun h'=>by have:=h'.2.2.2 (by omega) u hgp; omega,fun _=>rfl⟩
    ·rw[if_neg hle,gd_pos (fI (by omega))];exact⟨fun _=>rfl,fun hn=>absurd ⟨hv,hr',fun h'=>absurd h' h0,fun _ u' hu'=>by rw[hgp] at hu'; cases hu'; omega⟩ hn⟩
  ·rw[if_neg (by omega)];exact⟨fun h'=>by have:=h'.2.1; omega,fun _=>rfl⟩
theorem okAt_iff{l:List Tf}(hne:l ≠ []):(∀j,j < l.length→∀t,l[j]? = some t→okAt l j t)↔VL l:=by
 have hm:∀j t,l[j]? = some t→nth (l.map (·.From)) j=t.From:=fun j t h=>nth_of (by rw[List.getElem?_map,h]; rfl)
 constructor
 ·intro h;refine⟨hne,fun t ht=>?_,pw_steps fun j h0 hj=>?_,?_,fun t ht=>?_⟩
  ·obtain⟨i,hi⟩:=List.mem_iff_getElem?.1 ht;exact(h i (List.getElem?_eq_some_iff.1 hi).1 t hi).1
  ·rw[List.length_map] at hj;have h1:=List.getElem?_eq_getElem hj;have h2:=List.getElem?_eq_getElem (show j - 1 < l.length by omega);rw[hm _ _ h1,hm _ _ h2];exact(h j hj _ h1).2.2.2 h0 _ h2
  ·obtain⟨t,h1,_⟩:=head_zero hne;have:=(h 0 (List.getElem?_eq_some_iff.1 h1).1 t h1).2.2.1 rfl
   cases l with
   | nil=>cases h1
   | cons a l=>cases h1; simp[this]
  ·obtain⟨i,hi⟩:=List.mem_iff_getElem?.1 ht;exact(h i (List.getElem?_eq_some_iff.1 hi).1 t hi).2.1
 ·intro h j hj t ht;refine⟨h.vt t (List.mem_of_getElem? ht),h.crp t (List.mem_of_getElem? ht),fun h0=>?_,fun h0 u hu=>?_⟩
  ·subst h0;have:=h.hd
   cases l with
   | nil=>cases ht
   | cons a l=>cases ht; simpa using this
  ·have:=pw_steps_iff.2 h.pw j h0 (by rw[List.length_map]; exact hj)
   rwa [hm _ _ ht,hm _ _ hu] at this
theorem rFault_eq{l:List Tf}:prFault l=some (faultN l):=by
 unfold prFault
 by_cases h1:(3:Int) < (l.length:Int)
 ·rw[if_pos h1]; unfold faultN; rw[if_pos (.inl (by omega))]
 ·rw[if_neg h1]
  have key:=loopAll_tt (n:=l.length) (F:=fun d x=>prFault_L0 l d 0 x) (ok:=fun j=>∀t,l[j]? = some t→¬ tooManyN t) (bad:=some 3) (fin:=prFault_L1 l (l.length+1) 0) (fun d k hk=>by
   have hg:=List.getElem?_eq_getElem hk;generalize l[k]=t at hg;have hone:(∀t',l[k]? = some t'→¬ tooManyN t')↔¬ tooManyN t:=⟨fun f=>f _ hg,fun f t' ht'=>by rw[hg] at ht'; cases ht'; exact f⟩;rw[hone,prFault_L0,if_pos (by omega),idx_at hg,obs];unfold tooManyN
   by_cases h4:(4:Int) < (t.Weeks.length:Int)
   ·rw[if_pos h4]; exact⟨fun h=>by omega,fun _=>rfl⟩
   ·rw[if_neg h4,obs]
    by_cases h5:(5:Int) < (t.Counts.length:Int)
    ·rw[if_pos h5]; exact⟨fun h=>by omega,fun _=>rfl⟩
    ·rw[if_neg h5,obs]
     by_cases h6:(3:Int) < (t.Rates.length:Int)
     ·rw[if_pos h6]; exact⟨fun h=>by omega,fun _=>rfl⟩
     ·rw[if_neg h6,gd_pos (fI (by omega))]; exact⟨fun _=>rfl,fun h=>by omega⟩) (fun d=>by rw[prFault_L0,if_neg (Int.lt_irrefl _)]) (d:=l.length+1) (by omega)
  rw[mem_iff_nat (P:=fun t=>¬ tooManyN t)] at key
  by_cases hm:ManyN l
  ·unfold faultN;rw[if_pos hm];refine key.2 fun hh=>?_
   rcases hm with hm | ⟨t,ht,hm⟩
   ·omega
   ·exact hh t ht hm
  ·refine(key.1 (not_many hm).2).trans ?_;unfold faultN;rw[if_neg hm]
   by_cases hne:l=[]
   ·subst hne;rw[if_neg fun h=>h.ne rfl]
    rfl
   ·obtain⟨q1,q2⟩:=fault_L1 hm hne;rw[okAt_iff hne] at q1 q2
    by_cases hv:VL l
    ·rw[if_pos hv,q1 hv]
    ·rw[if_neg hv,q2 hv]
structure ThinT (t:Tf):Prop where
 w:t.Weeks.length≤7
 c:t.Counts.length≤7
 r:t.Rates.length≤5
 rr:∀c∈t.Rates,c.length≤7∧∀w∈c,w.length≤7
def ThinN(l:List Tf):Prop:=l.length≤5∧∀t∈l,ThinT t
theorem hone{α:Type}{l:List α}{k:Nat}{a:α}(h:l[k]? = some a){P:α→Prop}:(∀x,l[k]? = some x→P x)↔P a:=⟨fun f=>f _ h,fun f x hx=>by rw[h] at hx; cases hx; exact f⟩
theorem thin_L2{l:List Tf}{i c:Nat}{t:Tf}{wks:List (List Int)}(hi:l[i]? = some t)(hc:t.Rates[c]? = some wks)(h7:wks.length≤7)(h5:c < 5){K:Bool→Int→Option Bool}{b:Bool} :
  ((∀w∈wks,w.length≤7)→plThin_L2 l (i:Int) (c:Int) K 1000000 b 0=K b ((c:Int)+1))∧(¬ (∀w∈wks,w.length≤7)→plThin_L2 l (i:Int) (c:Int) K 1000000 b 0=some false):=by
 have key:=loopAll_tt (n:=wks.length) (F:=fun d x=>plThin_L2 l (i:Int) (c:Int) K d b x) (ok:=fun j=>∀w,wks[j]? = some w→w.length≤7) (bad:=some false) (fin:=K b ((c:Int)+1)) (fun d k hk=>by
  have hg:=List.getElem?_eq_getElem hk;generalize wks[k]=w at hg;rw[hone hg (P:=fun w=>w.length≤7),plThin_L2,idx_at hi,obs,idx_at hc,obs,if_pos (by omega),obs,idx_at hc,obs,idx_at hg,obs]
  by_cases h:(7:Int) < (w.length:Int)
  ·rw[if_pos h]; exact⟨fun h=>by omega,fun _=>rfl⟩
  ·rw[if_neg h,gd_pos (fI (by omega))]; exact⟨fun _=>rfl,fun h=>by omega⟩) (fun d=>by rw[plThin_L2,idx_at hi,obs,idx_at hc,obs,if_neg (Int.lt_irrefl _),gd_pos (fI (by omega))]) (d:=1000000) (by omega)
 rw[mem_iff_nat (l:=wks) (P:=fun w:List Int=>w.length≤7)] at key;exact key
theorem thin_L1{l:List Tf}{i:Nat}{t:Tf}(hi:l[i]? = some t)(h5:t.Rates.length≤5)(hi5:i < 5){K:Bool→Int→Option Bool}{b:Bool} :
  ((∀c∈t.Rates,c.length≤7∧∀w∈c,w.length≤7)→plThin_L1 l (i:Int) K 1000000 b 0=K b ((i:Int)+1))∧(¬ (∀c∈t.Rates,c.length≤7∧∀w∈c,w.length≤7)→plThin_L1 l (i:Int) K 1000000 b 0=some false):=by
 have key:=loopAll_tt (n:=t.Rates.length) (F:=fun d x=>plThin_L1 l (i:Int) K d b x) (ok:=fun j=>∀c,t.Rates[j]? = some c→c.length≤7∧∀w∈c,w.length≤7) (bad:=some false) (fin:=K b ((i:Int)+1)) (fun d k hk=>by
  have hg:=List.getElem?_eq_getElem hk;generalize t.Rates[k]=c at hg;rw[hone hg (P:=fun c=>c.length≤7∧∀w∈c,w.length≤7),plThin_L1,idx_at hi,obs,if_pos (by omega),obs,idx_at hg,obs]
  by_cases h:(7:Int) < (c.length:Int)
  ·rw[if_pos h]; exact⟨fun h=>by omega,fun _=>rfl⟩
  ·rw[if_neg h];obtain⟨q1,q2⟩:=thin_L2 (K:=plThin_L1 l (i:Int) K d) (b:=b) hi hg (by omega) (by omega)
   exact⟨fun h'=>q1 h'.2,fun h'=>q2 fun h2=>h' ⟨by omega,h2⟩⟩) (fun d=>by rw[plThin_L1,idx_at hi,obs,if_neg (Int.lt_irrefl _),gd_pos (fI (by omega))]) (d:=1000000) (by omega)
 rw[mem_iff_nat (l:=t.Rates) (P:=fun c:List (List Int)=>c.length≤7∧∀w∈c,w.length≤7)] at key;exact key
theorem thin_ev{l:List Tf}:Ev (plThin l) (ThinN l):=by
 unfold plThin ThinN;refine(Ev.itn (p:=(5:Int) < (l.length:Int)) (K:=∀t∈l,ThinT t) fun h5=>?_).imp (and_congr (by omega) Iff.rfl)
 have key:=Ev.loop (n:=l.length) (F:=fun d x=>plThin_L0 l d false x) (ok:=fun j=>∀t,l[j]? = some t→ThinT t) (fin:=some true) (P:=True) (fun d k hk=>by
  have hg:=List.getElem?_eq_getElem hk;generalize l[k]=t at hg;rw[hone hg (P:=ThinT),plThin_L0,if_pos (by omega),idx_at hg,obs]
  by_cases h1:(7:Int) < (t.Weeks.length:Int)
  ·rw[if_pos h1]; exact⟨fun h=>by have:=h.w; omega,fun _=>rfl⟩
  ·rw[if_neg h1,obs]
   by_cases h2:(7:Int) < (t.Counts.length:Int)
   ·rw[if_pos h2]; exact⟨fun h=>by have:=h.c; omega,fun _=>rfl⟩
   ·rw[if_neg h2,obs]
    by_cases h3:(5:Int) < (t.Rates.length:Int)
    ·rw[if_pos h3]; exact⟨fun h=>by have:=h.r; omega,fun _=>rfl⟩
    ·rw[if_neg h3];obtain⟨q1,q2⟩:=thin_L1 (K:=plThin_L0 l d) (b:=false) hg (by omega) (by omega)
     exact⟨fun h=>q1 h.rr,fun h=>q2 fun h'=>h ⟨by omega,by omega,by omega,h'⟩⟩) (fun d=>by rw[plThin_L0,if_neg (Int.lt_irrefl _)]) (d:=l.length+1) (by omega) fun _=>Ev.tt trivial
 exact key.imp ⟨fun h=>mem_iff_nat.1 h.1,fun h=>⟨mem_iff_nat.2 h,trivial⟩⟩
theorem list_eq{l:List Int}(h:l.length≤1048576):plList l=some l:=by unfold plList; rw[gd_pos (by simp; omega)]; simp
theorem tar_L2{l:List Tf}{i c:Nat}{t:Tf}{wks:List (List Int)}(hi:l[i]? = some t)(hc:t.Rates[c]? = some wks)(h7:wks.length≤7)(hw:∀w∈wks,w.length≤7)(h5:c < 5){a1:Int}{a2:Bool}{a3:Int}{a4:List (List (List Int))}(h4:a4.length < 5){K:Int→Bool→Int→List (List (List Int))→Int→Option (List Tf)} :
  plTariffs_L2 l (i:Int) a1 a2 a3 a4 (c:Int) K 1000000 [] 0=K a1 a2 a3 (a4++[wks]) ((c:Int)+1):=by
 have key:=loopApp0 (l:=wks) (fun w=>w) (F:=fun d acc x=>plTariffs_L2 l (i:Int) a1 a2 a3 a4 (c:Int) K d acc x) (fun acc=>K a1 a2 a3 (a4++[acc]) ((c:Int)+1)) (fun d k acc a ha hac=>by
  have hk:=(List.getElem?_eq_some_iff.1 ha).1;have hs:=hw a (List.mem_of_getElem? ha)
  rw[plTariffs_L2,idx_at hi,obs,idx_at hc,obs,if_pos (by omega),obs,idx_at hc,obs,idx_at ha,obs,list_eq (by omega),obs,gd_pos (show acc.length < 1048576 by omega),gd_pos (fI (by omega))]) (fun d acc=>by
  rw[plTariffs_L2,idx_at hi,obs,idx_at hc,obs,if_neg (Int.lt_irrefl _),gd_pos (show a4.length < 1048576 by omega),gd_pos (fI (by omega))]) (d:=1000000) (by omega)
 rw[List.map_id'] at key;exact key
theorem tar_L1{l out:List Tf}{i:Nat}{t:Tf}(hi:l[i]? = some t)(ht:ThinT t)(hi5:i < 5)(ho:out.length < 5){r1 r2:List Int}{a1:Int}{a2:Bool}{a3:Int}{K:List Tf→Int→Option (List Tf)} :
  plTariffs_L1 l out (i:Int) r1 r2 K 1000000 a1 a2 a3 [] 0=K (out++[⟨a1,a2,a3,r1,r2,t.Rates⟩]) ((i:Int)+1):=by
 have hr:=ht.r
 have key:=loopApp0 (l:=t.Rates) (fun w=>w) (F:=fun d acc x=>plTariffs_L1 l out (i:Int) r1 r2 K d a1 a2 a3 acc x) (fun acc=>K (out++[⟨a1,a2,a3,r1,r2,acc⟩]) ((i:Int)+1)) (fun d k acc a ha hac=>by
  have hk:=(List.getElem?_eq_some_iff.1 ha).1;obtain⟨q1,q2⟩:=ht.rr a (List.mem_of_getElem? ha)
  rw[plTariffs_L1,idx_at hi,obs,if_pos (by omega),tar_L2 hi ha q1 q2 (by omega) (by omega)]) (fun d acc=>by
  rw[plTariffs_L1,idx_at hi,obs,if_neg (Int.lt_irrefl _),gd_pos (show out.length < 1048576 by omega),gd_pos (fI (by omega))]) (d:=1000000) (by omega)
 rw[List.map_id'] at key;exact key
theorem lTariffs_eq{l:List Tf}(h:ThinN l):plTariffs l=some l:=by
 obtain⟨h5,ht⟩:=h
 have key:=loopApp0 (l:=l) (fun w=>w) (F:=plTariffs_L0 l) some (fun d k acc a ha hac=>by
  have hk:=(List.getElem?_eq_some_iff.1 ha).1;have hT:=ht a (List.mem_of_getElem? ha);have h1:=hT.w;have h2:=hT.c;rw[plTariffs_L0,if_pos (by omega),idx_at ha]
  simp only[obs]
  rw[list_eq (by omega),obs,list_eq (by omega),obs,tar_L1 ha hT (by omega) (by omega)]) (fun d acc=>by rw[plTariffs_L0,if_neg (Int.lt_irrefl _)]) (d:=l.length+1) (by omega)
 rw[List.map_id'] at key;exact key
theorem prod_le{x y:Int}(hx:0≤x∧x≤100)(hy:0≤y∧y≤100):0≤x * y∧x * y≤10000:=by
 refine⟨Int.mul_nonneg hx.1 hy.1,?_⟩;have h1:x * y≤100 * y:=Int.mul_le_mul_of_nonneg_right hx.2 hy.1
 omega
theorem line_rng{a b x y n:Int}(h1:0≤a∧a≤n)(h2:n≤b∧b≤100)(hab:a < b)(hx:0≤x∧x≤100)(hy:0≤y∧y≤100):0≤lineN a b x y n∧lineN a b x y n≤100:=
 ⟨line_ge h1.2 h2.1 hab (Int.le_refl _) hx.1 hy.1,line_le h1.2 h2.1 hab hx.1 hy.1 hx.2 hy.2⟩
theorem Cnt.rng{t:Tf}(h:VT t){i:Nat}(hi:i < t.Counts.length):0≤nth t.Counts i∧nth t.Counts i≤100:=h.cts.2.2 _ (List.mem_of_getElem? (nth_some hi))
theorem rCrops_eq{l:List Tf}(h:l ≠ []):prCrops l=some (cropsN l:Int):=by
 obtain⟨t,h1,h2⟩:=head_zero h;unfold prCrops; rw[idx_zero h1,obs,h2]
theorem isNaN_eq{x:Int}:pisNaN x=some false:=by unfold pisNaN; simp
theorem sNaN_eq{x:Int}:psNaN x=some false:=by unfold psNaN; simp
theorem less_ev{x y:Int}:Ev (pless x y) (x < y):=by
 unfold pless;rw[isNaN_eq,obs,if_neg (by simp)];exact Ev.dec Iff.rfl
theorem fU{n:Int}(h:0≤n∧n < 18446744073709551616):fitsP .u64 n:=h
theorem nth_le{l:List Int}(hp:l.Pairwise (· < ·)){i j:Nat}(hij:i≤j)(hj:j < l.length):nth l i≤nth l j:=by
 rcases Nat.lt_or_ge i j with h | h
 ·exact Int.le_of_lt (pw_lt hp (nth_some (by omega)) (nth_some hj) h)
 ·rw[show i=j by omega]; exact Int.le_refl _
theorem bsearch_go{l:List Int}{x:Int}(hp:l.Pairwise (· < ·))(hl:l.length≤1048576):∀d (i j:Nat),i≤j→j≤l.length→j - i < d→(∀m,m < i→nth l m < x)→(∀m,j≤m→m < l.length→x≤nth l m) →
  ∃(k:Nat) (f:Bool),pbsearch_L0 l x d (i:Int) (j:Int)=some ((k:Int),f)∧k≤l.length∧(∀m,m < k→nth l m < x)∧(∀m,k≤m→m < l.length→x≤nth l m)∧(f=true↔k < l.length∧nth l k=x)
 | 0,i,j,_,_,h,_,_=>by omega
 | d+1,i,j,hij,hj,h,hlo,hhi=>by
  rw[pbsearch_L0]
  by_cases hlt:i < j
  ·have e1:wrapZ .u64 ((i:Int)+(j:Int))=((i+j:Nat):Int):=by rw[wz (fU (by omega))]; omega
   have e2:((i+j:Nat):Int) / 2=(((i+j) / 2:Nat):Int):=by omega
   have hm:(i+j) / 2 < l.length:=by omega
   have e3:wrapZ .i64 (((i+j) / 2:Nat):Int)=(((i+j) / 2:Nat):Int):=wz (fI (by omega));rw[if_pos (by omega),gd_pos (fI (by omega)),e1,gd_pos (by omega),gd_pos (by omega),gd_pos (by omega),e2,gd_pos (fU (by omega)),e3,nth_at hm,obs]
   generalize hmid:(i+j) / 2=md at *
   obtain⟨b,h1,h2⟩:=less_ev (x:=nth l md) (y:=x);rw[h1,obs]
   cases b with
   | true=>
    rw[if_pos rfl,gd_pos (fI (by omega)),show(md:Int)+1=((md+1:Nat):Int) by omega];have h3:=h2.1 rfl;exact bsearch_go hp hl d (md+1) j (by omega) hj (by omega) (fun m hm'=>by have:=nth_le hp (show m≤md by omega) hm; omega) hhi
   | false=>
    rw[if_neg (by simp)]
    have h3:x≤nth l md:=by
     rcases Int.lt_or_le (nth l md) x with h4 | h4
     ·have:=h2.2 h4; cases this
     ·exact h4
    exact bsearch_go hp hl d i md (by omega) (by omega) (by omega) hlo (fun m hm' hml=>by have:=nth_le hp hm' hml; omega)
  ·have hij':i=j:=by omega
   subst hij';rw[if_neg (Int.lt_irrefl _)]
   by_cases hil:i < l.length
   ·rw[if_pos (by omega),nth_at hil,obs]
    by_cases he:nth l i=x
    ·rw[if_pos he]; exact⟨i,true,rfl,hj,hlo,hhi,⟨fun _=>⟨hil,he⟩,fun _=>rfl⟩⟩
    ·rw[if_neg he,obs,sNaN_eq,obs,if_neg (by simp)];exact⟨i,false,rfl,hj,hlo,hhi,⟨fun h=>(by cases h),fun h=>absurd h.2 he⟩⟩
   ·rw[if_neg (by omega)];exact⟨i,false,rfl,hj,hlo,hhi,⟨fun h=>(by cases h),fun h=>absurd h.1 hil⟩⟩
theorem bsearch_eq{l:List Int}{x:Int}(hp:l.Pairwise (· < ·))(hl:l.length≤1048576) :
  ∃(k:Nat) (f:Bool),pbsearch l x=some ((k:Int),f)∧k≤l.length∧(∀m,m < k→nth l m < x)∧(∀m,k≤m→m < l.length→x≤nth l m)∧(f=true↔k < l.length∧nth l k=x):=
 bsearch_go hp hl (l.length+1) 0 l.length (Nat.zero_le _) (Nat.le_refl _) (by omega) (fun m h=>by omega) (fun m h1 h2=>by omega)
theorem head_nth{l:List Int}{z:Int}(h:l.head? = some z):nth l 0=z∧0 < l.length:=by
 cases l with
 | nil=>cases h
 | cons a l=>cases h; exact⟨rfl,Nat.succ_pos _⟩
theorem last_eq{l:List Int}{n:Int}(hp:l.Pairwise (· < ·))(hh:l.head? = some 0)(hl:l.length≤1000)(hn:0≤n∧n≤1000):plast l n=some (lastN l n:Int):=by
 obtain⟨k,f,h1,h2,h3,h4,_⟩:=bsearch_eq (x:=n+1) hp (by omega);obtain⟨e0,l0⟩:=head_nth hh
 have hk:0 < k:=by
  rcases Nat.eq_zero_or_pos k with h | h
  ·have:=h4 0 (by omega) l0; omega
  ·exact h
 have hu:lastN l n=k - 1:=lastN_uniq hp (by omega) (fun x hx=>by rw[← nth_of hx]; have:=h3 (k - 1) (by omega); omega) (fun x hx=>by
  have hlt:=(List.getElem?_eq_some_iff.1 hx).1
  rw[← nth_of hx]; have:=h4 (k - 1+1) (by omega) hlt; omega) (fun x hx=>by rw[hh] at hx; cases hx; exact hn.1)
 unfold plast;rw[gd_pos (fI (by omega)),h1,obs,gd_pos (fI (by show _≤(k:Int) - 1∧_; omega)),hu]
 congr 1
 show(k:Int) - 1=_
 omega
theorem tfOf_eq{l:List Tf}(h:VL l)(hl:l.length≤3){d:Int}(hd:0≤d∧d≤120):ptfOf l d=some (ofN l d):=by
 obtain⟨h1,_⟩:=h.of d;unfold ptfOf;rw[froms_eq (fewS hl (by omega)),obs,last_eq h.pw h.hd (by rw[List.length_map]; omega) (by omega),obs,idx_at h1,obs]
theorem loss_eq{t:Tf}(h:VT t)(hf:¬ tooManyN t){hh:Ht}(h0:0≤hh.crop)(h1:hh.crop < t.Rates.length)(hn:0≤hh.Count)(h100:hh.Count≤100)(hd:0≤hh.Day∧hh.Day≤120):ploss t hh=some (lossN t.Counts (ratesN t hh.crop hh.Day) hh.Count):=by
 obtain⟨day,n,crop⟩:=hh
 dsimp only at h0 h1 hn h100 hd
 have hfew:=few hf;obtain⟨wks,q1,q2,q3⟩:=h.rates h0 h1 day;have hc:=h.cnt;obtain⟨b1,b2⟩:=q3.btw hn h100;obtain⟨k,f,k1,k2,k3,k4,k5⟩:=bsearch_eq (x:=n) h.cts.1 (show t.Counts.length≤1048576 by omega);obtain⟨e0,l0⟩:=head_nth h.cts.2.1;unfold ploss
 dsimp only
 rw[show idx t.Rates crop=idx t.Rates ((crop.toNat:Nat):Int) by rw[Int.toNat_of_nonneg h0],idx_at q1,obs,last_eq h.wks.1 h.wks.2.1 (by omega) (by omega),obs,idx_at q2,obs,k1,obs]
 dsimp only
 by_cases hfl:f=true
 ·obtain⟨c1,c2⟩:=k5.1 hfl
  have hu:lastN t.Counts n=k:=by rw[← c2]; exact hc.last_at c1
  rw[if_pos hfl,nth_at (by rw[q3.len]; exact c1),obs];unfold lossN
  dsimp only
  rw[hu,if_pos c2]
 ·have hne:∀m,m < t.Counts.length→nth t.Counts m ≠ n:=fun m hm he=>by
   rcases Nat.lt_or_ge m k with h6 | h6
   ·have:=k3 m h6; omega
   ·rcases Nat.lt_or_ge k m with h7 | h7
    ·have h8:=k4 k (Nat.le_refl _) (by omega);have:=pw_lt h.cts.1 (nth_some (show k < t.Counts.length by omega)) (nth_some hm) h7
     omega
    ·have:m=k:=by omega
     subst this;exact hfl (k5.2 ⟨hm,he⟩)
  obtain⟨b3,b4⟩:=b2 (hne _ (hc.lt n))
  have hu:lastN t.Counts n+1=k:=by
   rcases Nat.lt_trichotomy (lastN t.Counts n+1) k with h6 | h6 | h6
   ·have:=k3 _ h6; omega
   ·exact h6
   ·have:=k4 (lastN t.Counts n) (by omega) (hc.lt n);have:=hne _ (hc.lt n)
    omega
  subst hu;have hl:=hc.lt n
  have hlr:lastN t.Counts n < (ratesN t crop day).length:=by rw[q3.len]; exact hl
  have hlr2:lastN t.Counts n+1 < (ratesN t crop day).length:=by rw[q3.len]; exact b3
  have hi:=q3.at hl;have hi2:=q3.at b3;have c1:=Cnt.rng h hl;have c2:=Cnt.rng h b3
  have hcast:((lastN t.Counts n+1:Nat):Int) - 1=((lastN t.Counts n:Nat):Int):=by omega
  rw[if_neg hfl,gd_pos (fI (by omega)),hcast,nth_at hl,obs,nth_at b3,obs,gd_pos (fI (by omega)),nth_at hlr,obs,nth_at hlr2];have hline:=line_rng ⟨c1.1,b1⟩ ⟨Int.le_of_lt b4,c2.2⟩ (by omega) hi hi2;unfold lossN
  dsimp only
  rw[if_neg (hne _ hl)];unfold lineN at hline ⊢
  generalize nth t.Counts (lastN t.Counts n)=a at *
  generalize nth t.Counts (lastN t.Counts n+1)=b at *
  generalize nth (ratesN t crop day) (lastN t.Counts n)=x at *
  generalize nth (ratesN t crop day) (lastN t.Counts n+1)=y at *
  have p1:=prod_le hi (show 0≤b - n∧b - n≤100 by omega);have p2:=prod_le hi2 (show 0≤n - a∧n - a≤100 by omega);rw[gd_pos (fI (by omega)),gd_pos (by omega),gd_pos (by omega),gd_pos (fI (by omega)),obs,gd_pos (fI (by omega)),gd_pos (by omega),gd_pos (by omega),gd_pos (fI (by omega)),gd_pos (fI (by omega)),gd_pos (fI (by omega)),gd_pos (by omega),gd_pos (by omega),gd_pos (fI (by omega))]
theorem tfPart_eq{t:Tf}(h:VT t)(hf:¬ tooManyN t){hh:Ht}(h0:0≤hh.crop)(h1:hh.crop < t.Rates.length)(hn:0≤hh.Count)(h100:hh.Count≤100)(hd:0≤hh.Day∧hh.Day≤120):ptfPart t hh=some (partT t hh.crop hh.Day hh.Count):=by
 obtain⟨_,_,_,q3⟩:=h.rates h0 h1 hh.Day;have hr:=q3.loss_rng hn h100;have hls:=h.lst;unfold ptfPart partT payTN;rw[loss_eq h hf h0 h1 hn h100 hd,obs]
 generalize lossN t.Counts (ratesN t hh.crop hh.Day) hh.Count=x at *
 by_cases h4:x < t.Least
 ·rw[if_pos h4,if_pos h4]
 ·rw[if_neg h4,if_neg h4];unfold pmanner
  by_cases h5:t.Whole=true
  ·rw[if_pos h5,if_pos h5,obs]; rfl
  ·rw[if_neg h5,if_neg h5,obs]
   show Option.bind (paboveLeast t x) _=_
   unfold paboveLeast;rw[gd_pos (fI (by omega)),obs]
def MemoOk(l:List Tf)(M:Option (Ht→Option Int)):Prop:=∃f,M=some f∧∀h v,f h=some v→v=partN l h.crop h.Day h.Count
structure HtOk (l:List Tf) (h:Ht):Prop where
 c:0≤h.crop∧h.crop < cropsN l
 n:0≤h.Count∧h.Count≤100
 d:0≤h.Day∧h.Day≤120
theorem crops_rng{l:List Tf}(hf:faultN l=0):0 < cropsN l∧cropsN l≤3:=by
 obtain⟨hm,hv⟩:=faultN_zero.1 hf;obtain⟨h3,ht⟩:=not_many hm;obtain⟨t,h1,h2⟩:=head_zero hv.ne;have hmem:=List.mem_of_getElem? h1;have:=few (ht t hmem);have:=List.length_pos_iff.2 (hv.vt t hmem).rne
 omega
theorem part_eq{l:List Tf}(hf:faultN l=0){M:Option (Ht→Option Int)}(hM:MemoOk l M){h:Ht}(hh:HtOk l h):∃M',ppart ⟨l,M⟩ h=some (partN l h.crop h.Day h.Count,M')∧MemoOk l M':=by
 obtain⟨hm,hv⟩:=faultN_zero.1 hf;obtain⟨h3,ht⟩:=not_many hm;have hcr:=crops_rng hf;obtain⟨f,rfl,hf2⟩:=hM;have hc:=hh.c;have hn:=hh.n;have hd:=hh.d;unfold ppart;rw[gd_pos (show MK.fit h from ⟨fI (by omega),fI (by omega),fI (by omega),trivial⟩)]
 cases hg:mget (some f) h with
 | some v=>
  rw[mcase_some rfl];have:v=_:=hf2 h v hg;subst this;exact⟨_,rfl,f,rfl,hf2⟩
 | none=>
  rw[mcase_none rfl,tfOf_eq hv h3 hd,obs,tfPart_eq (hv.vof _) (ht _ (hv.of _).2) hc.1 (by rw[hv.cof]; exact hc.2) hn.1 hn.2 hd,obs,gd_pos (show MK.fit h from ⟨fI (by omega),fI (by omega),fI (by omega),trivial⟩)];refine⟨_,rfl,_,rfl,fun k v hk=>?_⟩
  by_cases hkh:k=h
  ·subst hkh;rw[if_pos rfl] at hk;exact(oi hk).symm
  ·rw[if_neg hkh] at hk; exact hf2 k v hk
theorem memo0{l:List Tf}:MemoOk l (some fun _=>none):=⟨_,rfl,fun _ _ h=>by cases h⟩
theorem open_ok{l:List Tf}(hf:faultN l=0):popen l=some (⟨l,some fun _=>none⟩,0):=by unfold popen; rw[check_eq,obs,if_pos hf]
theorem hasCrop_ev{l:List Tf}(hf:faultN l=0){n:Int}:Ev (phasCrop l n) (0≤n∧n < cropsN l):=by
 obtain⟨hm,hv⟩:=faultN_zero.1 hf;obtain⟨t,h1,h2⟩:=head_zero hv.ne;have:=crops_rng hf;refine Ev.bind (idx_zero h1) ?_;rw[← h2];exact(isIndex_ev (by omega)).ret
structure ClaimN (l:List Tf) (c:Clm):Prop where
 crop:0≤c.Crop∧c.Crop < cropsN l
 val:0≤c.Value∧c.Value≤100000
 day:0≤c.Day.Lo∧c.Day.Lo≤c.Day.Hi∧c.Day.Hi≤120∧c.Day.Hi - c.Day.Lo≤10
 cnt:0≤c.Count.Lo∧c.Count.Lo≤c.Count.Hi∧c.Count.Hi≤100
theorem within_ev{r:Rg}{p:Int→Option Bool}{q:Int→Prop}(hp:∀n,Ev (p n) (q n)):Ev (pwithin r p) (r.Lo≤r.Hi∧q r.Lo∧q r.Hi):=Ev.ite fun _=>Ev.and (hp _) fun _=>(hp _).ret
theorem validClaim_ev{l:List Tf}(hf:faultN l=0){c:Clm}:Ev (pvalidClaim l c) (ClaimN l c):=by
 refine Ev.imp (Ev.and (hasCrop_ev hf) fun _=>Ev.and has_ev fun _=>Ev.and (K:=c.Day.Hi - c.Day.Lo≤10∧(c.Count.Lo≤c.Count.Hi∧(0≤c.Count.Lo∧c.Count.Lo≤100)∧(0≤c.Count.Hi∧c.Count.Hi≤100))) (within_ev (fun _=>isDay_ev)) fun hd=>Ev.gd (fI (by omega)) (Ev.ite fun _=>(within_ev (fun _=>isCount_ev)).ret)) ?_
 dsimp only
 exact⟨fun⟨h1,h2,h3,h4⟩=>⟨h1,h2,by omega,by omega⟩,fun h=>by
  have h3:=h.day;have h4:=h.cnt
  exact⟨h.crop,h.val,by omega,by omega⟩⟩
open Classical in
def TruthN(c:Clm)(t:Tr):Prop:=(c.Day.Lo≤t.Day∧t.Day≤c.Day.Hi)∧(c.Count.Lo≤t.Count∧t.Count≤c.Count.Hi)
theorem clHas_ev{c:Clm}{t:Tr}:Ev (pclHas c t) (TruthN c t):=Ev.and has_ev fun _=>has_ev.ret
def payN(l:List Tf)(c:Clm)(t:Tr):Int:=c.Value * partN l c.Crop t.Day t.Count / 100
theorem openFor_eq{l:List Tf}{cs:List Clm}(hf:faultN l=0)(h5:cs.length≤5)(hc:∀c∈cs,ClaimN l c):popenFor l cs=some (⟨l,some fun _=>none⟩,0):=by
 unfold popenFor;rw[open_ok hf,obs,if_pos rfl,if_neg (by omega),(eachCl_ev (fun c _=>validClaim_ev hf) (fewS h5 (by omega))).some_of hc,obs,if_pos rfl]
theorem openFor_no{l:List Tf}{cs:List Clm}(hf:faultN l=0)(h5:cs.length≤5)(hc:¬ ∀c∈cs,ClaimN l c):popenFor l cs=some (⟨[],none⟩,2):=by
 unfold popenFor;rw[open_ok hf,obs,if_pos rfl,if_neg (by omega),(eachCl_ev (fun c _=>validClaim_ev hf) (fewS h5 (by omega))).some_not hc,obs,if_neg (by simp)]
theorem htOk{l:List Tf}{c:Clm}(hc:ClaimN l c){t:Tr}(ht:TruthN c t):HtOk l ⟨t.Day,t.Count,c.Crop⟩:=by
 have h1:=hc.day;have h2:=hc.cnt;obtain⟨h3,h4⟩:=ht;exact⟨hc.crop,by show 0≤t.Count∧t.Count≤100; omega,by show 0≤t.Day∧t.Day≤120; omega⟩
theorem part_htOk{l:List Tf}(hf:faultN l=0){h:Ht}(hh:HtOk l h):0≤partN l h.crop h.Day h.Count∧partN l h.crop h.Day h.Count≤100:=
 (faultN_zero.1 hf).2.part_rng hh.c.1 hh.c.2 hh.n.1 hh.n.2 _
theorem val_le{v p:Int}(hv:0≤v∧v≤100000)(hp:0≤p∧p≤100):0≤v * p∧v * p≤10000000:=by
 refine⟨Int.mul_nonneg hv.1 hp.1,?_⟩;have h1:v * p≤100000 * p:=Int.mul_le_mul_of_nonneg_right hv.2 hp.1
 omega
theorem payment_eq{l:List Tf}(hf:faultN l=0){M:Option (Ht→Option Int)}(hM:MemoOk l M){c:Clm}(hc:ClaimN l c){t:Tr}(ht:TruthN c t):∃M',ppayment ⟨l,M⟩ c t=some (payN l c t,M')∧MemoOk l M':=by
 have hh:=htOk hc ht;obtain⟨M',h1,h2⟩:=part_eq hf hM hh;have hp:=part_htOk hf hh;have hv:=val_le hc.val hp;have hval:=hc.val;refine⟨M',?_,h2⟩;unfold ppayment;rw[h1,obs]
 dsimp only at hp hv ⊢
 rw[gd_pos (by omega),gd_pos (by omega),gd_pos (fI (by omega)),gd_pos (by omega),gd_pos (by omega),gd_pos (fI (by omega))]
 rfl
theorem mem1{α:Type}{a:α}{P:α→Prop}:(∀x∈[a],P x)↔P a:=by simp
theorem Pay_ok{l:List Tf}(hf:faultN l=0){c:Clm}(hc:ClaimN l c){t:Tr}(ht:TruthN c t):pPay l c t=some (payN l c t,0):=by
 obtain⟨M',h1,_⟩:=payment_eq hf memo0 hc ht;unfold pPay; rw[openFor_eq hf (by simp) (mem1.2 hc),obs,if_pos rfl,clHas_ev.some_of ht,obs,if_pos rfl,h1,obs]
end
end Go.Proofs.YteojndcmgpiklaaGreat

namespace Go.Proofs.YteojndcmgpiklaaGreat
open _root_.Go.Proofs.Tryz
open Go.Abs
set_option maxRecDepth 100000
noncomputable section
theorem minimumU{l:List Int}(h:l ≠ [])(hl:l.length < 9223372036854775807):pminimum l=some (minL l):=by
 cases l with
 | nil=>exact absurd rfl h
 | cons x l=>
  unfold pminimum;rw[if_neg (by simp; omega),idx_zero rfl,obs]
  have key:=loopFold (l:=x::l) (fun s a=>min s a) (fun d s k=>pminimum_L0 (x::l) d s k) some (fun d k s a ha=>by
   have hk:=(List.getElem?_eq_some_iff.1 ha).1;rw[pminimum_L0,if_pos (by omega),idx_at ha,obs]
   by_cases hc:a < s
   ·rw[if_pos hc,gd_pos (fI (by omega)),Int.min_eq_right (by omega)]
   ·rw[if_neg hc,gd_pos (fI (by omega)),Int.min_eq_left (by omega)]) (fun d s=>by rw[pminimum_L0,if_neg (Int.lt_irrefl _)]) ((x::l).length+1) 0 x (Nat.zero_le _) (by omega)
  refine key.trans ?_;rw[List.drop_zero]
  show some (l.foldl min (min x x))=_
  rw[Int.min_self]; rfl
theorem maxU{l:List Int}(h:l ≠ [])(hl:l.length < 9223372036854775807):psMax l=some (maxL l):=by
 cases l with
 | nil=>exact absurd rfl h
 | cons x l=>
  unfold psMax;rw[if_neg (by simp; omega),idx_zero rfl,obs]
  have key:=loopFold (l:=x::l) (fun s a=>max s a) (fun d s k=>psMax_L0 (x::l) d s k) some (fun d k s a ha=>by
   have hk:=(List.getElem?_eq_some_iff.1 ha).1
   rw[psMax_L0,if_pos (by omega),idx_at ha,obs,gd_pos (fI (by omega))]) (fun d s=>by rw[psMax_L0,if_neg (Int.lt_irrefl _)]) ((((x::l).length:Int) - 1).toNat+1) 1 x (by simp) (by simp only[List.length_cons]; omega)
  exact key
theorem w68{a100:C}{a101:Int}{a102:Int}{a103:C}{a104:C}{a200:C}{m:M}{Q:V→M→Prop}(h :
 (∀m0:M,(m0=(M.new m (AO.cells 5 [a100,(Il a101),(Il a102),a103,a104] false))) → 
 ∀m1:M,(m1=(M.new m0 (AO.cells 1 [a200] false)))→∀m2:M,(m2=(M.new m1 (AO.cells 2 [(Il 0),
 (Il 0)] false)))→∀m3:M,(m3=(M.new m2 (AO.cells 1 [C.sl0] false))) → 
 ∃c4:C,∃x5 x6,∃c7:C,∃c8:C,((ldA m3 (.ptr m.nxt 0) 5)=(some [c4,
 (Il x5),(Il x6),c7,c8]))∧Wc prog tbl 100 [(.agg 5 [c4,
 (Il x5),(Il x6),c7,c8])] m3 (fun v9 m10=>∃c11:C,(v9=(.c c11)) ∧ 
 rangeP prog tbl c11 m10 (fun l12 m13 R14 R15=>∃x16 x17 x18,
 ∃x19 x20 x21,(l12=[(.agg 6 [(Il x16),
 (Il x17),(Il x18),(Il x19),(Il x20),
 (Il x21)])])∧∀m22:M,(m22=(M.new m13 (AO.cells 6 [(Il 0),
 (Il 0),(Il 0),(Il 0),
 (Il 0),(Il 0)] false)))→∃m23:M,
 ((stC m22 (.ptr m13.nxt 0) 6 [(Il x16),(Il x17),
 (Il x18),(Il x19),(Il x20),(Il x21)])=(some m23)) ∧ 
 R14 m23 (fun m24=>∃c25:C,((ldC m24 (.ptr m2.nxt 0))=(some c25)) ∧ 
 isPt (.ptr m0.nxt 0)∧∃c26:C,((ldC m24 (.ptr m0.nxt 0))=(some c26)) ∧ 
 ∃x27 x28 x29 x30 x31 x32,
 ((ldA m24 (.ptr m13.nxt 0) 6)=(some [(Il x27),(Il x28),
 (Il x29),(Il x30),(Il x31),(Il x32)])) ∧ 
 callP prog tbl [(.agg 6 [(Il x27),(Il x28),
 (Il x29),(Il x30),(Il x31),(Il x32)])] c26 m24 (fun v33 m34 => 
 ∃x35,(v33=(.c (Il x35)))∧(ifB (cmC c25) ((ldC m34 (.ptr m2.nxt 0))=(some c25)) False) ∧ 
 ∀m36:M,(m36=(M.new m34 (AO.cells 1 [(Il x35)] false))) → 
 (ifB (cmC c25) ((ldC m36 (.ptr m2.nxt 0))=(some c25)) False)∧∃c37:C,
 ∃m38:M,(ApR prog 29 m36 c25 (.sl m34.nxt 0 1 0 (some 1)) c37 m38) ∧ 
 ∃m39:M,((stC m38 (.ptr m2.nxt 0) 1 [c37])=(some m39))∧R15 Ex.nrm m39))) (After.mk (fun m40 => 
 ∃c41:C,((ldC m40 (.ptr m2.nxt 0))=(some c41))∧Wc prog tbl 101 [(.c c41)] m40 (fun v42 m43 => 
 ∃x44,(v42=(.c (Il x44)))∧∃c45:C,((ldC m43 (.ptr m2.nxt 0))=(some c45)) ∧ 
 (ifB (cmC c45) ((ldC m40 (.ptr m2.nxt 0))=(some c45)) False)∧Wc prog tbl 102 [(.c c45)] m43 (fun v46 m47 => 
 ∃x48,(v46=(.c (Il x48)))∧∃m49:M,((stC m47 (.ptr m1.nxt 0) 2 [(Il x44),
 (Il x48)])=(some m49))∧∃x50 x51,
 ((ldA m49 (.ptr m1.nxt 0) 2)=(some [(Il x50),(Il x51)])) ∧ 
 Q (.agg 2 [(Il x50),(Il x51)]) m49))) [] (fun m52 => 
 ∃x53 x54,((ldA m52 (.ptr m1.nxt 0) 2)=(some [(Il x53),
 (Il x54)]))∧Q (.agg 2 [(Il x53),(Il x54)]) m52))))):Wc prog tbl 68 [(.agg 5 [a100,(Il a101),(Il a102),a103,a104]),(.agg 1 [a200])] m Q:=
 wc_eq (n:=2) rfl (by kernel_rfl) (by kernel_rfl) h
theorem minL_perm{l l':List Int}(h:l.Perm l')(hn:l ≠ []):minL l=minL l':=by
 have hn':l' ≠ []:=fun he=>hn (by rw[he] at h; exact List.Perm.eq_nil h);have a:=minL_mem hn;have b:=minL_mem hn';exact Int.le_antisymm (a.2 _ (h.symm.subset b.1)) (b.2 _ (h.subset a.1))
theorem maxL_perm{l l':List Int}(h:l.Perm l')(hn:l ≠ []):maxL l=maxL l':=by
 have hn':l' ≠ []:=fun he=>hn (by rw[he] at h; exact List.Perm.eq_nil h);have a:=maxL_mem hn;have b:=maxL_mem hn';exact Int.le_antisymm (b.2 _ (h.subset a.1)) (a.2 _ (h.symm.subset b.1))
def Fv_Ver_Int(f:M)(x:C)(g:Ver→Option (Int)):Prop:=∀(f' m:M) (a0:Ver) (r:Int) (Q:V→M→Prop),Sub f f'→Pre f' m→g a0=some r→(∀m',Ext m m'→Q (.c (.int .i64 r)) m')→callP prog tbl [.agg 6 [(.int .i64 a0.fee),(.int .i64 a0.pence),(.int .i64 a0.fields.f0),(.int .i64 a0.fields.f1),(.int .i64 a0.fields.f2),(.int .i64 a0.fields.f3)]] x m Q
theorem Fv_Ver_Int.sub{f m:M}{x:C}{g:Ver→Option (Int)}(h:Fv_Ver_Int f x g)(s:Sub f m):Fv_Ver_Int m x g:=fun f' m' a0 r Q hs=>h f' m' a0 r Q (s.trans hs)
def ansC(xs:List Int):List C:=xs.map (C.int .i64)
theorem ta29B:∃el,tk prog 29=.sl el∧growOk prog el=true∧prog.cellsOf el=1∧prog.bytesOf el=8:=⟨3,by kernel_rfl,by kernel_rfl,by kernel_rfl,by kernel_rfl⟩
structure BdI (f1:M) (L A qb:Nat) (a200 cp:C) (Mz:Option (Clm→Option Int)) (rec_:AO) (ask:Ver→Option Int) (d:List Ver) (S:Nat→Prop) (m:M):Prop where
 ex:∃ca xs,pask ask d=some xs∧Bk m A 1 [ca]∧Own1 m 1 ca (ansC xs) d.length∧(∀b,S b↔b=L∨b=A∨∃o n s c,ca=.sl b o n s c)∧¬ (∃o n s c,ca=.sl A o n s c)∧¬ (∃o n s c,ca=.sl L o n s c)∧(∀b,(∃o n s c,ca=.sl b o n s c)→L < b)
 rc:m.g L=some rec_
 lt:L < m.nxt
 q:Bk m qb 1 [a200]
 sub:Sub f1 m
 mi:Mi m cp Mz
theorem own1_lt{m:M}{k n:Nat}{x:C}{vs:List C}(h:Own1 m k x vs n){b:Nat}(hb:∃o n s c,x=.sl b o n s c):b < m.nxt:=by
 obtain⟨o,n',s,c,he⟩:=hb;exact h.lt he
theorem bd_cli{n0 L A qb N:Nat}{f1:M}{a200 cp:C}{Mz:Option (Clm→Option Int)}{mk:LoopState→Option Code→AO}{ask:Ver→Option Int}{round:Round}(hy:Go.Abs.Yields prog tbl mk L round)(hn0:n0=L+1)(hAL:A < L)(hqA:qb ≠ A)(hq:qb < n0)(hqL:qb ≠ L)(hf1:f1.nxt≤L)(hfz:∀b,f1.nxt≤b→f1.g b=none)(hfv:∀b,f1.nxt≤b→f1.vw b=none)(hfA:f1.g A=none∧f1.vw A=none)(hcp:∀b,cp=.map b→b < n0∧b ≠ A∧b ≠ L)(hF:Fv_Ver_Int f1 a200 ask)(hN:N * 8≤140737488355328)
  (hround:∀ v m1 (R14:M→(M→Prop)→Prop) (R15:Ex→M→Prop),
   (∀ m22:M,m22=M.new m1 (AO.cells 6 [(C.int IntKind.i64 (0:Int)),(C.int IntKind.i64 (0:Int)),(C.int IntKind.i64 (0:Int)),(C.int IntKind.i64 (0:Int)),(C.int IntKind.i64 (0:Int)),(C.int IntKind.i64 (0:Int))] false)→(∃ m23:M,
    ((stC m22 (C.ptr (m1).nxt 0) 6 (verC v))=(Option.some m23)) ∧
    (R14 m23 (fun m24=>(∃ c25:C,(((ldC m24 (C.ptr A 0))=(Option.some c25))∧(isPt (C.ptr qb 0)∧(∃ c26:C,(((ldC m24 (C.ptr qb 0))=(Option.some c26)) ∧
     (∃x27:Int,(∃x28:Int,(∃x29:Int,(∃x30:Int,(∃x31:Int,(∃x32:Int,(((ldA m24 (C.ptr (m1).nxt 0) 6)=(Option.some [(C.int IntKind.i64 x27),(C.int IntKind.i64 x28),(C.int IntKind.i64 x29),(C.int IntKind.i64 x30),(C.int IntKind.i64 x31),(C.int IntKind.i64 x32)])) ∧
     (callP prog tbl [(V.agg 6 [(C.int IntKind.i64 x27),(C.int IntKind.i64 x28),(C.int IntKind.i64 x29),(C.int IntKind.i64 x30),(C.int IntKind.i64 x31),(C.int IntKind.i64 x32)])] c26 m24 (fun v33 m34=>
      (∃x35:Int,((v33=(V.c (C.int IntKind.i64 x35)))∧((ifB (cmC c25) ((ldC m34 (C.ptr A 0))=(Option.some c25)) False) ∧
      (∀m36:M,((m36=(M.new m34 (AO.cells 1 [(C.int IntKind.i64 x35)] false)))→((ifB (cmC c25) ((ldC m36 (C.ptr A 0))=(Option.some c25)) False)∧(∃c37:C,
      (∃m38:M,((ApR prog 29 m36 c25 (C.sl (m34).nxt 0 1 0 (Option.some 1)) c37 m38)∧(∃m39:M,(((stC m38 (C.ptr A 0) 1 [c37])=(Option.some m39))∧(R15 Ex.nrm m39)))))))))))))))))))))))))))))) →
   round [.agg 6 (verC v)] m1 R14 R15) :
  CliN n0 L N (fun v=>ask v ≠ none) (BdI f1 L A qb a200 cp Mz (mk .ready none) ask):=by
 refine⟨fun d S m m' h hn hv hs h0=>?_,fun d S m h b hb=>?_,fun d v S m h hd hA Q hQ=>?_⟩
 ·obtain⟨⟨ca,xs,q1,q2,q3,q4,q5,q6,q7⟩,h2,h3,h4,h5,h6⟩:=h;refine⟨⟨ca,xs,q1,⟨(hs A ((q4 A).2 (.inr (.inl rfl)))).trans q2.g,Nat.lt_of_lt_of_le q2.lt hn⟩,q3.to hn (fun b _ ⟨s,c,he⟩=>hs b ((q4 b).2 (.inr (.inr ⟨_,_,_,_,he⟩)))),q4,q5,q6,q7⟩,(hs L ((q4 L).2 (.inl rfl))).trans h2,by omega,⟨(h0 qb hq).trans h4.g,Nat.lt_of_lt_of_le h4.lt hn⟩,⟨Nat.le_trans h5.nxt hn,hv.trans h5.vw,fun b hb hd=>(h0 b (by omega)).trans (h5.g b hb hd)⟩,h6.to hn fun b hb=>h0 b (hcp b hb).1⟩
 ·obtain⟨⟨ca,xs,q1,q2,q3,q4,q5,q6,q7⟩,h2,h3,h4,h5,h6⟩:=h
  rcases (q4 b).1 hb with rfl | rfl | hb
  ·exact h3
  ·exact q2.lt
  ·exact own1_lt q3 hb
 ·obtain⟨⟨ca,xs,q1,q2,q3,q4,q5,q6,q7⟩,h2,h3,h4,h5,h6⟩:=h
  obtain⟨x,hx⟩:∃x,ask v=some x:=by
   cases hv:ask v with
   | none=>exact absurd hv hA
   | some x=>exact⟨x,rfl⟩
  refine hy _ m Q h2 (hround v m _ _ fun m22 e22=>?_);obtain⟨b22,x22⟩:=Bk.new e22
  have n22:m22.nxt=m.nxt+1:=by rw[e22]; rfl
  refine⟨_,b22.st (verC v),?_⟩;have k23:=b22.set (verC v);have x23:Ext m (m22.set m.nxt (.cells 6 (verC v) false)):=x22.setR (Nat.le_refl _) _;have n23:(m22.set m.nxt (.cells 6 (verC v) false)).nxt=m.nxt+1:=n22;generalize m22.set m.nxt (.cells 6 (verC v) false)=m23 at k23 x23 n23 ⊢;refine⟨(x23.g L h3).trans h2,?_⟩
  have g24:∀b,b < m.nxt→b ≠ L→(m23.set L (mk .busy none)).g b=m.g b:=fun b hb hne=>by rw[M.g_set,if_neg hne]; exact x23.g b hb
  have k24:Bk (m23.set L (mk .busy none)) m.nxt 6 (verC v):=k23.setNe (by omega) _
  have l24:(m23.set L (mk .busy none)).g L=some (mk .busy none):=by rw[M.g_set,if_pos rfl]
  have n24:(m23.set L (mk .busy none)).nxt=m.nxt+1:=n23;have v24:(m23.set L (mk .busy none)).vw=m.vw:=x23.vw;generalize m23.set L (mk .busy none)=m24 at g24 k24 l24 n24 v24 ⊢;have A24:Bk m24 A 1 [ca]:=⟨(g24 A q2.lt (by omega)).trans q2.g,by have:=q2.lt; omega⟩;have Q24:Bk m24 qb 1 [a200]:=⟨(g24 qb h4.lt hqL).trans h4.g,by have:=h4.lt; omega⟩;have sub24:Sub f1 m24:=⟨by have:=h5.nxt; omega,v24.trans h5.vw,fun b hb hd=>(g24 b (by have:=h5.nxt; omega) (by omega)).trans (h5.g b hb hd)⟩;have o24:Own1 m24 1 ca (ansC xs) d.length:=q3.to (by omega) fun b hb ⟨s,c,he⟩=>g24 b hb (by have:=q7 b ⟨_,_,_,_,he⟩; omega);refine⟨_,A24.rc rfl,trivial,_,Q24.rc rfl,_,_,_,_,_,_,k24.ra,?_⟩;refine hF f1 m24 v x _ (.refl f1) ⟨sub24,hfz,hfv⟩ hx fun m34 e34=>⟨_,rfl,?_,fun m36 e36=>?_⟩
  ·rw[cmC_of o24.ls.noFn]; exact(A24.ext e34).rc rfl
  obtain⟨b36,x36⟩:=Bk.new e36;have e46:=e34.trans x36
  have n36:m36.nxt=m34.nxt+1:=by rw[e36]; rfl
  refine⟨by rw[cmC_of o24.ls.noFn]; exact(A24.ext e46).rc rfl,?_⟩;obtain⟨el,t1,t2,t3,t4⟩:=ta29B;obtain⟨m38,p1,p2,p3,p4,p5⟩:=ap_big (P:=prog) t1 t2 t3 (o24.ext e46) (Ls.one b36.g rfl b36.lt 0 (some 1)) (by omega) (by omega) (by rw[t4]; omega)
  have A38:Bk m38 A 1 [ca]:=⟨(p5 A (by have:=q2.lt; have:=e46.nxt; omega) fun he=>by
   obtain⟨o,n,s,hc⟩:=slB_sl he
   exact q5 ⟨_,_,_,_,hc⟩).trans (A24.ext e46).g,by have:=(A24.ext e46).lt; omega⟩
  refine⟨_,m38,p1,_,A38.st _,?_⟩
  have g38:∀b,b < m.nxt→b ≠ L→slB ca ≠ some b→m38.g b=m.g b:=fun b hb hne hsl=>by
   rw[p5 b (by have:=e46.nxt; omega) hsl,e46.g b (by omega)]; exact g24 b hb hne
  have l38:m38.g L=some (mk .busy none):=by
   rw[p5 L (by have:=e46.nxt; omega) (fun he=>by
    obtain⟨o,n,s,hc⟩:=slB_sl he
    exact q6 ⟨_,_,_,_,hc⟩),e46.g L (by omega)]
   exact l24
  have n38:m.nxt≤m36.nxt:=by have:=e46.nxt; omega
  refine⟨⟨_,_,by rw[M.g_set,if_neg (by omega)]; exact l38⟩,?_⟩
  have hslS:∀b,slB ca=some b→S b:=fun b hb=>by
   obtain⟨o,n,s,hc⟩:=slB_sl hb;exact(q4 b).2 (.inr (.inr ⟨_,_,_,_,hc⟩))
  have g40:∀b,b ≠ L→b ≠ A→((m38.set A (.cells 1 [.sl m36.nxt 0 (d.length+1) 1 none] false)).set L (mk .ready none)).g b=m38.g b:=fun b h1 h2=>by rw[M.g_set,if_neg h1,M.g_set,if_neg h2]
  have a40:((m38.set A (.cells 1 [.sl m36.nxt 0 (d.length+1) 1 none] false)).set L (mk .ready none)).g A=some (.cells 1 [.sl m36.nxt 0 (d.length+1) 1 none] false):=by rw[M.g_set,if_neg (by omega),M.g_set,if_pos rfl]
  have l40:((m38.set A (.cells 1 [.sl m36.nxt 0 (d.length+1) 1 none] false)).set L (mk .ready none)).g L=some (mk .ready none):=by rw[M.g_set,if_pos rfl]
  have n40:((m38.set A (.cells 1 [.sl m36.nxt 0 (d.length+1) 1 none] false)).set L (mk .ready none)).nxt=m36.nxt+1:=p3;have v40:((m38.set A (.cells 1 [.sl m36.nxt 0 (d.length+1) 1 none] false)).set L (mk .ready none)).vw=m.vw:=p4.trans (e46.vw.trans v24);generalize (m38.set A (.cells 1 [.sl m36.nxt 0 (d.length+1) 1 none] false)).set L (mk .ready none)=m40 at g40 a40 l40 n40 v40 ⊢
  have gg:∀b,b < m.nxt→¬ S b→m40.g b=m.g b:=fun b hb hS=>by
   rw[g40 b (fun h=>hS ((q4 b).2 (.inl h))) (fun h=>hS ((q4 b).2 (.inr (.inl h))))];exact g38 b hb (fun h=>hS ((q4 b).2 (.inl h))) fun h=>hS (hslS b h)
  have hold:∀b,b < n0→b ≠ A→b ≠ L→m40.g b=m.g b:=fun b hb h1 h2=>gg b (by omega) fun hS=>by
   rcases (q4 b).1 hS with h | h | h
   ·exact h2 h
   ·exact h1 h
   ·have:=q7 b h; omega
  refine hQ (fun b=>b=L∨b=A∨b=m36.nxt) m40 (fun b hb=>?_) ⟨by omega,gg,v40⟩ ⟨⟨.sl m36.nxt 0 (d.length+1) 1 none,xs++[x],?_,⟨a40,by have:=q2.lt; omega⟩,?_,fun b=>?_,?_,?_,fun b hb=>?_⟩,l40,by omega,⟨(hold qb hq hqA hqL).trans h4.g,by have:=h4.lt; omega⟩,⟨by have:=h5.nxt; omega,v40.trans h5.vw,fun b hb hd=>(hold b (by omega) (fun h=>by subst h; exact hd.elim (fun h=>h hfA.1) fun h=>h hfA.2) (by omega)).trans (h5.g b hb hd)⟩,h6.to (by omega) fun b hb=>hold b (hcp b hb).1 (hcp b hb).2.1 (hcp b hb).2.2⟩
  ·rcases hb with h | h | h
   ·exact .inl ((q4 b).2 (.inl h))
   ·exact .inl ((q4 b).2 (.inr (.inl h)))
   ·exact .inr (by omega)
  ·exact pask_snoc hx q1
  ·have:Own1 m38 1 (.sl m36.nxt 0 (d.length+1) 1 none) (ansC (xs++[x])) (d.length+1):=by
    unfold ansC at p2 ⊢;rw[List.map_append]; exact p2
   rw[List.length_append]
   exact this.to (by omega) fun b hb ⟨s,c,he⟩=>by
    cases he
    exact g40 _ (by omega) (by have:=q2.lt; omega)
  ·constructor
   ·rintro (h | h | h)
    ·exact .inl h
    ·exact .inr (.inl h)
    ·exact .inr (.inr ⟨_,_,_,_,by rw[h]⟩)
   ·rintro (h | h | ⟨o,n,s,c,h⟩)
    ·exact .inl h
    ·exact .inr (.inl h)
    ·cases h; exact .inr (.inr rfl)
  ·rintro⟨o,n,s,c,h⟩
   cases h
   have:=q2.lt
   omega
  ·rintro⟨o,n,s,c,h⟩
   cases h
   omega
  ·obtain⟨o,n,s,c,h⟩:=hb
   cases h
   omega
open Classical in
def tgB(A R:Nat)(cp:C):Nat→Nat:=fun b=>if b=A then 2 else if b=R then 3 else if cp=.map b then 1 else 4
theorem s_boundsU{w:UWk}{q:Qn}{ca100 ca103 ca104 a200:C}{m f:M}{Q:V→M→Prop}{rz:Rg × Option (Clm→Option Int)}(hS:Pre f m)(ha100:Sl f ca100 w.c.Tariffs)(ha103:Sl f ca103 w.c.Fields)(ha104:Mc f m ca104 w.payments)(hF:Fv_Ver_Int f a200 q.ask)(hp:pboundsU w q=some rz)
    (hq:∀m',ExtB ca104 m m'→Mi m' ca104 rz.2→Q (.agg 2 [(Il rz.1.Lo),(Il rz.1.Hi)]) m'):Wc prog tbl 68 [.agg 5 [ca100,(Il w.c.Day),(Il w.c.Fee),ca103,ca104],.agg 1 [a200]] m Q:=by
 obtain⟨r,hr,z⟩:=bsome (show(pallO w w.c.Fields w.payments).bind _=some rz from hp);obtain⟨hlen,D⟩:=gd_some z;obtain⟨vs,hvs,t⟩:=bsome D;obtain⟨⟨hN,hne⟩,h4⟩:=gd_some t;obtain⟨xs,hxs,h5⟩:=bsome h4;obtain rfl:=oi h5
 clear z D t h4 h5 hp
 have S0:=hS.stM ha104;obtain⟨τ0,M0⟩:∃τ,Mo (Fm.mp m ca104) f τ m 1 ca104 w.payments:=⟨_,ha104.mo 1⟩;refine w68 ?_;intro m0 e0;obtain⟨τ1,S1,k1,Lw⟩:=S0.blk e0 τ0 2;have M1:=M0.k k1;intro j e1;obtain⟨τ2,S2,k2,Lq⟩:=S1.blk e1 τ1 3;have Lw:=Lw.k k2;have M2:=M1.k k2;intro i e2;obtain⟨τ3,S3,k3,Lr⟩:=S2.blk e2 τ2 4;have Lw:=Lw.k k3;have Lq:=Lq.k k3;have M3:=M2.k k3;intro m3 e3;obtain⟨τ4,S4,F,La⟩:=S3.blk e3 τ3 5;have Lw:=Lw.k F;have Lq:=Lq.k F;have Lr:=Lr.k F;have M4:=M3.k F;refine⟨_,_,_,_,_,Lw.bk.ra,?_⟩;refine w100 fun a Y=>⟨_,rfl,?_⟩;obtain⟨τ5,S5,G,Lx⟩:=S4.blk Y τ4 6;have Lq:=Lq.k G;have Lr:=Lr.k G;have La:=La.k G;have M5:=M4.k G;obtain⟨f1,e,I,Wf⟩:=Lx.freeze S5;have Lq:=Lq.k I;have Lr:=Lr.k I;have La:=La.k I;have M6:=M5.k I;intro mk hy;have eL:a.new (mk .ready none)=a.new (mk .ready none):=rfl;obtain⟨x,J⟩:=e.new eL τ5 7;have Lq:=Lq.k J;have Lr:=Lr.k J;have La:=La.k J;have O:=M6.k J
 have rL:(a.new (mk .ready none)).g a.nxt=some (mk .ready none):=by rw[M.g_new,if_pos rfl]
 have nL:(a.new (mk .ready none)).nxt=a.nxt+1:=rfl
 have q0:m0.nxt=m.nxt+1:=by rw[e0]; rfl
 have q1:j.nxt=m.nxt+2:=by rw[e1]; show m0.nxt+1=_; omega
 have q2:i.nxt=m.nxt+3:=by rw[e2]; show j.nxt+1=_; omega
 have q3:m3.nxt=m.nxt+4:=by rw[e3]; show i.nxt+1=_; omega
 have bb:a.nxt=m.nxt+5:=by rw[Y]; show m3.nxt+1=_; omega
 generalize hmL:a.new (mk .ready none)=mL at *
 have hcp:∀b,ca104=.map b→b < m.nxt:=fun b hb=>(ha104.own b hb).2.2;have hfA:f1.g i.nxt=none∧f1.vw i.nxt=none:=⟨La.nf,x.v0 _ La.new⟩;have hcli:=bd_cli (n0:=a.nxt+1) (L:=a.nxt) (A:=i.nxt) (qb:=m0.nxt) (N:=vs.length) (f1:=f1) (a200:=a200) (cp:=ca104) (Mz:=r.2) (mk:=mk) (ask:=q.ask) hy rfl (by omega) (by omega) (by omega) (by omega) e.sub.nxt e.fz e.fv hfA (fun b hb=>by have:=hcp b hb; omega) (hF.sub e.fs) (by omega) (fun v j cb db h=>⟨_,_,_,_,_,_,rfl,h⟩)
 show Wc prog tbl 130 [.c (.fn (.yield a.nxt) [] []),.c (.ptr m3.nxt 0)] mL _
 refine s_verdictsI (w:=w) (S:=fun b=>b=a.nxt∨b=i.nxt) (rz:=r) (vs:=vs) hcli x.pre Wf (ha100.sub e.fs) (ha103.sub e.fs) (O.mc x) hr hlen hvs (Nat.le_refl _) (fun u hu=>pask_mem hxs u hu) (by omega) (fun m' e' mi'=>?_) (fun b hb=>by omega) (fun b hb=>?_) (fun b hb hc=>by have:=hcp b hc; omega) fun vs' S' m8 p hpv P ho hch hI=>?_
 ·-- before any verdict
  have hg:∀b,b < mL.nxt→m.nxt≤b→m'.g b=mL.g b:=fun b hb hm=>e'.g b hb fun hc=>by have:=hcp b hc; omega
  refine⟨⟨.sl0,[],rfl,⟨(hg _ (by omega) (by omega)).trans La.bk.g,by have:=e'.nxt; omega⟩,Own1.nil' _ _,fun b=>⟨fun h=>h.elim .inl fun h=>.inr (.inl h),fun h=>?_⟩,?_,?_,?_⟩,(hg _ (by omega) (by omega)).trans rL,by have:=e'.nxt; omega,⟨(hg _ (by omega) (by omega)).trans Lq.bk.g,by have:=e'.nxt; omega⟩,?_,mi'⟩
  ·rcases h with h | h | ⟨_,_,_,_,h⟩
   ·exact .inl h
   ·exact .inr h
   ·cases h
  ·rintro⟨_,_,_,_,h⟩; cases h
  ·rintro⟨_,_,_,_,h⟩; cases h
  ·rintro b ⟨_,_,_,_,h⟩; cases h
  ·exact not_frozen x.sub e'.nxt e'.vw (X:=fun b=>ca104=.map b) (fun b hb=>⟨(O.own b hb).2.1,x.v0 b (O.own b hb).1⟩) e'.g
 ·rcases hb with rfl | rfl
  ·exact⟨e.fz _ e.sub.nxt,e.fv _ e.sub.nxt⟩
  ·exact hfA
 ·-- behind the loop
  obtain⟨⟨ca,ys,T,u2,u3,u4,u5,u6,u7⟩,i2,i3,i4,i5,i6⟩:=hI;refine⟨_,_,i2,(fun h=>by cases h),?_⟩
  show After.nrm _ (p.del a.nxt)
  have hd:∀b,b ≠ a.nxt→(p.del a.nxt).g b=p.g b:=fun b hb=>by rw[M.g_del,if_neg hb]
  have nd:(p.del a.nxt).nxt=p.nxt:=rfl;have vd:(p.del a.nxt).vw=p.vw:=rfl;generalize p.del a.nxt=l at hd nd vd ⊢;have hnx:mL.nxt≤p.nxt:=Nat.le_trans P.nxt hch.nxt;have hvw:p.vw=mL.vw:=hch.vw.trans P.vw
  have Z:∀b,b < mL.nxt→b ≠ a.nxt→b ≠ i.nxt→ca104 ≠ .map b→l.g b=mL.g b:=fun b hb z D t=>by
   rw[hd b z,hch.g b (Nat.lt_of_lt_of_le hb P.nxt) fun h=>h.elim z D];exact P.g b hb t
  have hextm:∀b,b < m.nxt→ca104 ≠ .map b→l.g b=m.g b:=fun b hb t=>(Z b (by omega) (by omega) (by omega) t).trans (x.ext.g b hb t);have S8:St (Fm.mp m ca104) f f1 l:=⟨⟨by show m.nxt≤_; omega,hextm,(vd.trans hvw).trans x.ext.vw⟩,⟨by have:=i5.nxt; omega,vd.trans i5.vw,fun b hb hdd=>(hd b (by have:=e.sub.nxt; omega)).trans (i5.g b hb hdd)⟩,e.fz,e.fv,e.v0,e.fs,e.old⟩
  have hAr:i.nxt ≠ j.nxt:=by omega
  have tA:tgB i.nxt j.nxt ca104 i.nxt=2:=by unfold tgB; rw[if_pos rfl]
  have tR:tgB i.nxt j.nxt ca104 j.nxt=3:=by unfold tgB; rw[if_neg (by omega),if_pos rfl]
  have LA:Lb (Fm.mp m ca104) f1 (tgB i.nxt j.nxt ca104) l 2 i.nxt 1 [ca]:=⟨⟨(hd _ (by omega)).trans u2.g,by have:=u2.lt; omega⟩,La.new,La.nf,tA⟩;have LR:Lb (Fm.mp m ca104) f1 (tgB i.nxt j.nxt ca104) l 3 j.nxt 2 [Il 0,Il 0]:=⟨⟨(Z _ (by omega) (by omega) (by omega) (fun hc=>by have:=hcp _ hc; omega)).trans Lr.bk.g,by omega⟩,Lr.new,Lr.nf,tR⟩;have MM:Mo (Fm.mp m ca104) f1 (tgB i.nxt j.nxt ca104) l 1 ca104 r.2:=⟨i6.to (by omega) fun b hb=>hd b (by have:=hcp b hb; omega),fun b hb=>⟨.inr hb,(O.own b hb).2.1,by have:=hcp b hb; unfold tgB; rw[if_neg (by omega),if_neg (by omega),if_pos hb],by have:=hcp b hb; omega⟩⟩
  have OO:Ow (α:=Int) (Fm.mp m ca104) f1 (tgB i.nxt j.nxt ca104) l 4 ca ys:=by
   refine⟨⟨ansC ys,?_,?_⟩,fun b o n s d he=>?_⟩
   ·rw[pask_len T];exact u3.to (by omega) fun b hb ⟨s,c,he⟩=>hd b fun h=>u6 ⟨_,_,_,_,h ▸ he⟩
   ·clear T u3
    induction ys with
    | nil=>exact rfl
    | cons y ys ih=>exact⟨[Il y],ansC ys,rfl,rfl,ih⟩
   ·have hb:=u7 b ⟨_,_,_,_,he⟩;refine⟨.inl (by show m.nxt≤b; omega),e.fz b (by have:=e.sub.nxt; omega),?_⟩;unfold tgB;rw[if_neg (by omega),if_neg (by omega),if_neg (fun hc=>by have:=hcp b hc; omega)]
  have hyl:ys.length=vs.length:=by rw[pask_len T,hpv.length_eq]
  have hyp:ys.Perm xs:=by
   obtain⟨zs,z1,z2⟩:=pask_perm hpv.symm hxs;rw[T] at z1
   cases z1
   exact z2
  have hyn:ys ≠ []:=fun h=>hne (List.eq_nil_of_length_eq_zero (by rw[← hyl,h]; rfl));refine⟨_,LA.bk.rc rfl,?_⟩;obtain⟨f2,S9,k9,Sa⟩:=OO.freeze S8;have LA:=LA.k k9;have LR:=LR.k k9;have MM:=MM.k k9;refine s_minimum S9.pre Sa (minimumU hyn (by omega)) fun eb ta=>⟨_,rfl,?_⟩;obtain⟨aa,B⟩:=S9.call ta (tgB i.nxt j.nxt ca104);have ua:=LA.k B;have LR:=LR.k B;have MM:=MM.k B;refine⟨_,ua.bk.rc rfl,?_,?_⟩
  ·rw[cmC_of Sa.noFn]; exact LA.bk.rc rfl
  refine s_sMax aa.pre Sa (maxU hyn (by omega)) fun fb va=>⟨_,rfl,?_⟩;obtain⟨wa,ba⟩:=aa.call va (tgB i.nxt j.nxt ca104);have LR:=LR.k ba;have MM:=MM.k ba;obtain⟨xa,ya,za,Aa,LR⟩:=LR.sto wa [(Il (minL ys)),(Il (maxL ys))];have MM:=MM.k Aa;refine⟨xa,ya,_,_,LR.bk.ra,?_⟩;rw[minL_perm hyp hyn,maxL_perm hyp hyn];exact hq _ za.extB MM.mi
end
end Go.Proofs.YteojndcmgpiklaaGreat

namespace Go.Proofs.YteojndcmgpiklaaGreat
open _root_.Go.Proofs.Tryz
open Go.Abs
set_option maxRecDepth 100000
noncomputable section
theorem s_Award{c:Cse}{ca100 ca103:C}{m f:M}{Q:V→M→Prop}{rz:Rg × Int}(hS:Pre f m)(ha100:Sl f ca100 c.Tariffs)(ha103:Sl f ca103 c.Fields)(hp:pAward c=some rz)(hq:∀m',Ext m m'→Q (.tup [.agg 2 [(Il rz.1.Lo),(Il rz.1.Hi)],.c (Il rz.2)]) m'):Wc prog tbl 33 [.agg 4 [ca100,(Il c.Day),(Il c.Fee),ca103]] m Q:=by
 have S0:=hS.st;obtain⟨τ0,_⟩:=tau0;refine w33 ?_;unfold pAward at hp;intro m0 p;obtain⟨s,t,Aa,u⟩:=S0.blk p τ0 1;intro m1 x;obtain⟨y,e,z,A⟩:=t.blk x s 2;have B:=u.k z;refine⟨_,_,_,_,B.bk.ra,?_⟩;obtain⟨d,D,hp⟩:=bsome hp;refine s_uOpen (c:=c) e.pre ha100 ha103 D fun m7 F c122 G I J N O P=>?_;obtain⟨S,T,Y,Z⟩:=e.callN J P y 3;have aa:=A.k Y;refine⟨_,_,_,_,_,_,rfl,?_⟩;intro Fa ba;obtain⟨Ba,ca,g,da⟩:=T.blk ba S 4;have ea:=aa.k g;have fa:=Z.k g;obtain⟨ga,ha,a,h,ia⟩:=da.sto ca [c122,(Il d.1.c.Day),(Il d.1.c.Fee),G,I];have i:=ea.k h;have j:=fa.k h;refine⟨ga,ha,?_⟩;refine ifnd hp (fun ja hp=>?_) fun ja hp=>?_
 ·obtain⟨ka,la,ma,Ca,na⟩:=i.sto a [(Il 0),(Il 0)];refine⟨ka,la,?_⟩;refine⟨_,_,na.bk.ra,?_⟩;obtain rfl:=oi hp;exact hq _ ma.ext'
 refine⟨_,_,_,_,_,ia.bk.ra,?_⟩
 have n:Fv_Ver_Int F ((C.fn (Fn.func 69) [] [])) (fun b=>pvAward b):=by
  intro f' m' b r Q hs hpre  hg hq;exact s_vAward hpre  hg hq
 obtain⟨l,oa,hp⟩:=bsome hp;refine s_boundsU (w:=d.1) (q:=({ ask:=(fun b=>pvAward b) }:Qn)) a.pre N O (j.mc a) n oa fun Ga pa o=>?_;obtain⟨qa,sa,Da⟩:=a.callM j pa o;have ta:=i.k sa;refine⟨_,_,rfl,?_⟩;obtain⟨ua,va,wa,Ea,xa⟩:=ta.sto qa [(Il l.1.Lo),(Il l.1.Hi)];refine⟨ua,va,?_⟩;refine⟨_,_,xa.bk.ra,?_⟩;obtain rfl:=oi hp;exact hq _ wa.ext'
theorem s_Fees{c:Cse}{ca100 ca103:C}{m f:M}{Q:V→M→Prop}{rz:Rg × Rg × Int}(hS:Pre f m)(ha100:Sl f ca100 c.Tariffs)(ha103:Sl f ca103 c.Fields)(hp:pFees c=some rz)(hq:∀m',Ext m m'→Q (.tup [.agg 2 [(Il rz.1.Lo),(Il rz.1.Hi)],.agg 2 [(Il rz.2.1.Lo),(Il rz.2.1.Hi)],.c (Il rz.2.2)]) m'):Wc prog tbl 34 [.agg 4 [ca100,(Il c.Day),(Il c.Fee),ca103]] m Q:=by
 have S0:=hS.st;obtain⟨τ0,_⟩:=tau0;refine w34 ?_;unfold pFees at hp;intro m0 O;obtain⟨P,S,qb,T⟩:=S0.blk O τ0 1;intro m1 Y;obtain⟨Z,aa,ba,ca⟩:=S.blk Y P 2;have da:=T.k ba;intro m2 ea;obtain⟨fa,t,u,ga⟩:=aa.blk ea Z 3;have ha:=da.k u;have ia:=ca.k u;refine⟨_,_,_,_,ha.bk.ra,?_⟩;obtain⟨a,ja,hp⟩:=bsome hp;refine s_uOpen (c:=c) t.pre ha100 ha103 ja fun m8 x ka la ma na g h oa=>?_;obtain⟨pa,qa,y,sa⟩:=t.callN na oa fa 4;have ta:=ia.k y;have ua:=ga.k y;refine⟨_,_,_,_,_,_,rfl,?_⟩;intro tb va;obtain⟨rb,wa,i,xa⟩:=qa.blk va pa 5;have ya:=ta.k i;have za:=ua.k i;have Aa:=sa.k i;obtain⟨Ba,Ca,b,j,l⟩:=xa.sto wa [ka,(Il a.1.c.Day),(Il a.1.c.Fee),la,ma];have z:=ya.k j;have A:=za.k j;have B:=Aa.k j;refine⟨Ba,Ca,?_⟩;refine ifnd hp (fun Da hp=>?_) fun Da hp=>?_
 ·obtain⟨Ea,Fa,Ga,Ha,Ia⟩:=z.sto b [(Il 0),(Il 0)];have Ja:=A.k Ha;refine⟨Ea,Fa,?_⟩;obtain⟨Ka,La,Ma,Na,Oa⟩:=Ja.sto Ga [(Il 0),(Il 0)];have Pa:=Ia.k Na;refine⟨Ka,La,?_⟩;refine⟨_,_,Pa.bk.ra,_,_,Oa.bk.ra,?_⟩;obtain rfl:=oi hp;exact hq _ Ma.ext'
 refine⟨_,_,_,_,_,l.bk.ra,?_⟩
 have G:Fv_Ver_Int x ((C.fn (Fn.func 70) [] [])) (fun d=>pvFarmer d):=by
  intro f' m' d r Q hs hpre  hg hq;exact s_vFarmer hpre  hg hq
 obtain⟨n,Qa,hp⟩:=bsome hp;refine s_boundsU (w:=a.1) (q:=({ ask:=(fun d=>pvFarmer d) }:Qn)) b.pre g h (B.mc b) G Qa fun ub Ra I=>?_;obtain⟨o,p,s⟩:=b.callM B Ra I;have Sa:=z.k p;have Ta:=A.k p;have Ua:=l.k p;refine⟨_,_,rfl,_,_,_,_,_,Ua.bk.ra,(by rw[show allS cmC _=true from cmL_of (nf_cons g.noFn (nf_cons rfl (nf_cons rfl (nf_cons h.noFn (nf_cons s.mi.noFn nf_nil)))))]; exact(l.bk.ra)),?_⟩
 have J:Fv_Ver_Int x ((C.fn (Fn.func 71) [] [])) (fun e=>pvSociety e):=by
  intro f' m' e r Q hs hpre  hg hq;exact s_vSociety hpre  hg hq
 obtain⟨D,Va,hp⟩:=bsome hp;refine s_boundsU (w:=({ c:=a.1.c,payments:=n.2 }:UWk)) (q:=({ ask:=(fun e=>pvSociety e) }:Qn)) o.pre g h (s.mc o) J Va fun vb Wa N=>?_;obtain⟨Xa,F,sb⟩:=o.callM s Wa N;have Ya:=Sa.k F;have Za:=Ta.k F;refine⟨_,_,rfl,?_⟩;obtain⟨ab,bb,cb,db,eb⟩:=Ya.sto Xa [(Il n.1.Lo),(Il n.1.Hi)];have fb:=Za.k db;refine⟨ab,bb,?_⟩;obtain⟨gb,hb,ib,jb,kb⟩:=fb.sto cb [(Il D.1.Lo),(Il D.1.Hi)];have mb:=eb.k jb;refine⟨gb,hb,?_⟩;refine⟨_,_,mb.bk.ra,_,_,kb.bk.ra,?_⟩;obtain rfl:=oi hp;exact hq _ ib.ext'
theorem s_Offers{c:Cse}{ca100 ca103:C}{m f:M}{Q:V→M→Prop}{rz:Rg × Int}(hS:Pre f m)(ha100:Sl f ca100 c.Tariffs)(ha103:Sl f ca103 c.Fields)(hp:pOffers c=some rz)(hq:∀m',Ext m m'→Q (.tup [.agg 2 [(Il rz.1.Lo),(Il rz.1.Hi)],.c (Il rz.2)]) m'):Wc prog tbl 35 [.agg 4 [ca100,(Il c.Day),(Il c.Fee),ca103]] m Q:=by
 have S0:=hS.st;obtain⟨τ0,_⟩:=tau0;refine w35 ?_;unfold pOffers at hp;intro m0 F;obtain⟨G,I,Ma,J⟩:=S0.blk F τ0 1;intro m1 N;obtain⟨O,n,P,S⟩:=I.blk N G 2;have T:=J.k P;refine⟨_,_,_,_,T.bk.ra,?_⟩;obtain⟨a,Y,hp⟩:=bsome hp;refine s_uOpen (c:=c) n.pre ha100 ha103 Y fun m7 o Z aa ba ca g h da=>?_;obtain⟨ea,fa,ga,ha⟩:=n.callN ca da O 3;have ia:=S.k ga;refine⟨_,_,_,_,_,_,rfl,?_⟩;intro Ra ja;obtain⟨Na,ka,p,la⟩:=fa.blk ja ea 4;have ma:=ia.k p;have na:=ha.k p;obtain⟨oa,pa,b,s,i⟩:=la.sto ka [Z,(Il a.1.c.Day),(Il a.1.c.Fee),aa,ba];have t:=ma.k s;have u:=na.k s;refine⟨oa,pa,?_⟩;refine ifnd hp (fun qa hp=>?_) fun qa hp=>?_
 ·obtain⟨sa,ta,ua,Oa,va⟩:=t.sto b [(Il 0),(Il 0)];refine⟨sa,ta,?_⟩;refine⟨_,_,va.bk.ra,?_⟩;obtain rfl:=oi hp;exact hq _ ua.ext'
 refine⟨_,_,_,_,_,i.bk.ra,?_⟩
 have z:Fv_Ver_Int o ((C.fn (Fn.func 72) [] [])) (fun d=>pvNet d):=by
  intro f' m' d r Q hs hpre  hg hq;exact s_vNet hpre  hg hq
 obtain⟨x,wa,hp⟩:=bsome hp;refine s_boundsU (w:=a.1) (q:=({ ask:=(fun d=>pvNet d) }:Qn)) b.pre g h (u.mc b) z wa fun Sa xa A=>?_;obtain⟨j,y,l⟩:=b.callM u xa A;have ya:=t.k y;have za:=i.k y;refine⟨_,_,rfl,_,_,_,_,_,za.bk.ra,(by rw[show allS cmC _=true from cmL_of (nf_cons g.noFn (nf_cons rfl (nf_cons rfl (nf_cons h.noFn (nf_cons l.mi.noFn nf_nil)))))]; exact(i.bk.ra)),?_⟩
 have B:Fv_Ver_Int o ((C.fn (Fn.func 73) [] [])) (fun e=>pvCost e):=by
  intro f' m' e r Q hs hpre  hg hq;exact s_vCost hpre  hg hq
 obtain⟨Aa,Ba,hp⟩:=bsome hp;refine s_boundsU (w:=({ c:=a.1.c,payments:=x.2 }:UWk)) (q:=({ ask:=(fun e=>pvCost e) }:Qn)) j.pre g h (l.mc j) B Ba fun Ta Ca D=>?_;obtain⟨Da,Ea,Pa⟩:=j.callM l Ca D;have Fa:=ya.k Ea;refine⟨_,_,rfl,?_⟩;obtain⟨Ga,Ha,Ia,Qa,Ja⟩:=Fa.sto Da [(Il x.1.Lo),(Il Aa.1.Hi)];refine⟨Ga,Ha,?_⟩;refine⟨_,_,Ja.bk.ra,?_⟩;obtain rfl:=oi hp;exact hq _ Ia.ext'
theorem s_uAwake{m f:M}{Q:V→M→Prop}{rz:Bool}(hS:Pre f m)(hp:puAwake=some rz)(hq:∀m',Ext m m'→Q (.c (.bool rz)) m'):Wc prog tbl 17 [] m Q:=by
 have S0:=hS.st;obtain⟨τ0,_⟩:=tau0;refine w17 ?_;unfold puAwake at hp;obtain⟨Qa,Ra,hp⟩:=bsome hp;refine s_two S0.pre  Ra fun m1 Lf Mf Nf Sa Ta Ua=>?_;obtain⟨ca,Of⟩:=S0.callG Sa τ0;refine⟨_,_,_,_,rfl,?_⟩;obtain⟨Va,Wa,hp⟩:=bsome hp;refine s_truth3 (first:=(40:Int)) (u:=(35:Int)) (second:=(17:Int)) ca.pre  Wa fun m7 Pf Qf Xa Ya=>?_;obtain⟨da,ea⟩:=ca.callG Xa τ0;refine⟨_,rfl,?_⟩;obtain⟨r,Za,hp⟩:=bsome hp;refine s_Play (c:=Qa) (t:=Va) da.pre (Ta.sub ea.fs) (Ua.sub ea.fs) Ya Za fun Hg Rf ab bb fa=>?_;obtain⟨cb,Sf⟩:=da.callG bb τ0;refine⟨_,_,_,_,_,rfl,?_⟩;intro Ig db;obtain⟨d,eb,Uf,fb⟩:=cb.blk db τ0 1;obtain⟨gb,hb,ga,Vf,ib⟩:=fb.sto eb [ab,(Il r.1.Award),(Il r.1.Farmer),(Il r.1.Society)];refine⟨gb,hb,?_⟩;obtain⟨jb,kb,hp⟩:=bsome hp;refine s_two ga.pre  kb fun Jg Wf Xf Yf mb ob pb=>?_;obtain⟨ha,ia⟩:=ga.callG mb d;have qb:=ib.k ia;refine⟨_,_,_,_,rfl,?_⟩;obtain⟨rb,sb,hp⟩:=bsome hp;refine s_Counts (c:=jb) (field:=(0:Int)) ha.pre ob pb sb fun Kg Zf ag tb ub=>?_;obtain⟨ja,ka⟩:=ha.callG tb d;have vb:=qb.k ka;refine⟨_,_,rfl,?_⟩;obtain⟨wb,xb,hp⟩:=bsome hp;refine s_two ja.pre  xb fun Lg bg cg dg yb zb Ab=>?_;obtain⟨la,I⟩:=ja.callG yb d;have Bb:=vb.k I;refine⟨_,_,_,_,rfl,?_⟩;obtain⟨eg,Cb,hp⟩:=bsome hp;refine s_Called (c:=wb) (field:=(1:Int)) la.pre zb Ab Cb fun Mg Db=>?_;obtain⟨ma,Eb⟩:=la.call Db d;have Fb:=Bb.k Eb;refine⟨_,_,rfl,?_⟩;obtain⟨Gb,Hb,hp⟩:=bsome hp;refine s_two ma.pre  Hb fun Ng fg gg hg Ib Jb Kb=>?_;obtain⟨na,J⟩:=ma.callG Ib d;have Mb:=Fb.k J;refine⟨_,_,_,_,rfl,?_⟩;obtain⟨oa,Nb,hp⟩:=bsome hp
 refine s_Award (c:=Gb) na.pre Jb Kb Nb fun Og Ob=>?_;obtain⟨Pb,Qb⟩:=na.call Ob d;have Rb:=Mb.k Qb;refine⟨_,_,_,rfl,?_⟩;intro Pg Sb;obtain⟨N,Tb,Ub,Vb⟩:=Pb.blk Sb d 2;have Wb:=Rb.k Ub;obtain⟨Xb,Yb,pa,Zb,ac⟩:=Vb.sto Tb [(Il oa.1.Lo),(Il oa.1.Hi)];have bc:=Wb.k Zb;refine⟨Xb,Yb,?_⟩;obtain⟨cc,dc,hp⟩:=bsome hp;refine s_two pa.pre  dc fun Qg ig jg kg ec fc gc=>?_;obtain⟨qa,s⟩:=pa.callG ec N;have hc:=bc.k s;have ic:=ac.k s;refine⟨_,_,_,_,rfl,?_⟩;obtain⟨w,jc,hp⟩:=bsome hp;refine s_Fees (c:=cc) qa.pre fc gc jc fun Sg kc=>?_;obtain⟨lc,sa⟩:=qa.call kc N;have nc:=hc.k sa;have oc:=ic.k sa;refine⟨_,_,_,_,_,rfl,?_⟩;intro Tg pc;obtain⟨qc,sc,ta,tc⟩:=lc.blk pc N 3;have uc:=nc.k ta;have vc:=oc.k ta;intro Ug wc;obtain⟨O,xc,P,yc⟩:=sc.blk wc qc 4;have zc:=uc.k P;have Ac:=vc.k P;have Bc:=tc.k P;obtain⟨Cc,Dc,Ec,S,Fc⟩:=Bc.sto xc [(Il w.1.Lo),(Il w.1.Hi)];have Gc:=zc.k S;have Hc:=Ac.k S;have Ic:=yc.k S;refine⟨Cc,Dc,?_⟩;obtain⟨Jc,Kc,ua,T,Lc⟩:=Ic.sto Ec [(Il w.2.1.Lo),(Il w.2.1.Hi)];have Nc:=Gc.k T;have Pc:=Hc.k T;have Qc:=Fc.k T;refine⟨Jc,Kc,?_⟩;obtain⟨Rc,Tc,hp⟩:=bsome hp;refine s_two ua.pre  Tc fun Vg lg mg ng Uc Vc Xc=>?_;obtain⟨va,i⟩:=ua.callG Uc O;have Yc:=Nc.k i;have Zc:=Pc.k i;have ad:=Qc.k i;have bd:=Lc.k i;refine⟨_,_,_,_,rfl,?_⟩;obtain⟨wa,cd,hp⟩:=bsome hp;refine s_Offers (c:=Rc) va.pre Vc Xc cd fun Wg dd=>?_;obtain⟨ed,x⟩:=va.call dd O;have fd:=Yc.k x;have hd:=Zc.k x;have id:=ad.k x;have jd:=bd.k x;refine⟨_,_,_,rfl,?_⟩;intro Xg kd;obtain⟨Y,ld,y,md⟩:=ed.blk kd O 5;have nd:=fd.k y;have od:=hd.k y;have pd:=id.k y;have qd:=jd.k y
 obtain⟨sd,td,xa,z,ud⟩:=md.sto ld [(Il wa.1.Lo),(Il wa.1.Hi)];have vd:=nd.k z;have wd:=od.k z;have xd:=pd.k z;have yd:=qd.k z;refine⟨sd,td,?_⟩;obtain⟨zd,Ad,hp⟩:=bsome hp;refine s_two xa.pre  Ad fun Zg og pg qg Bd Cd Dd=>?_;obtain⟨ya,e⟩:=xa.callG Bd Y;have Ed:=vd.k e;have Fd:=wd.k e;have Gd:=xd.k e;have Hd:=yd.k e;have Id:=ud.k e;refine⟨_,_,_,_,rfl,?_⟩;obtain⟨Jd,Ld,hp⟩:=bsome hp;refine s_Matters (c:=zd) ya.pre Cd Dd Ld fun Jf rg sg Md Nd=>?_;obtain⟨za,g⟩:=ya.callG Md Y;have Aa:=Ed.k g;have Od:=Fd.k g;have Pd:=Gd.k g;have Qd:=Hd.k g;have Rd:=Id.k g;refine⟨_,_,rfl,?_⟩;refine ifd hp (fun Sd hp=>?_) fun Sd hp=>?_; rotate_left
 ·obtain rfl:=oi hp;exact hq _ za.ext'
 refine⟨_,_,_,_,Aa.bk.ra,?_⟩;intro ah Td;obtain⟨Ba,Ud,o,Vd⟩:=za.blk Td Y 6;have Wd:=Aa.k o;have Xd:=Od.k o;have Yd:=Pd.k o;have Zd:=Qd.k o;have ae:=Rd.k o;refine⟨(by rw[show allS cmC _=true from cmL_of (nf_cons fa.noFn (nf_cons rfl (nf_cons rfl (nf_cons rfl nf_nil))))]; exact(Wd.bk.ra)),?_⟩;obtain⟨Ca,Da,h,Na⟩:=Vd.freeze Ud;have be:=Xd.k h;have ce:=Yd.k h;have de:=Zd.k h;have ee:=ae.k h;have fe:Sl Ca (C.sl Jf.nxt 0 2 0 (Option.some 2)) ([(35:Int),(18:Int)]:List Int):=Bk.sl (α:=Int) (l:=([(35:Int),(18:Int)]:List Int)) Na (show Cat (α:=Int) Ca [(Il (35:Int)),(Il (18:Int))] ([(35:Int),(18:Int)]:List Int) from ⟨[(Il (35:Int))],_,rfl,rfl,⟨[(Il (18:Int))],_,rfl,rfl,rfl⟩⟩) rfl rfl _;obtain⟨tg,ge,hp⟩:=bsome hp;refine s_lSame (a:=r.1) (b:=({ Counts:=([(35:Int),(18:Int)]:List Int),Award:=(386:Int),Farmer:=(16:Int),Society:=(15:Int) }:Res)) Da.pre (fa.sub (Sub.trans (Sub.trans (Sub.trans (Sub.trans (Sub.trans (Sub.trans (Sub.trans (Sub.trans ia.fs ka.fs) I.fs) J.fs) s.fs) i.fs) e.fs) g.fs) h.fs)) fe ge fun Kf he=>?_;obtain⟨Z,A⟩:=Da.call he Ba;have ie:=be.k A;have je:=ce.k A;have ke:=de.k A;have me:=ee.k A;refine⟨_,rfl,?_⟩;refine ifbb hp (fun oe hp=>?_) fun oe hp=>?_; rotate_left
 ·obtain rfl:=oi hp;exact hq _ Z.ext'
 refine ifd hp (fun pe hp=>?_) fun pe hp=>?_; rotate_left
 ·obtain rfl:=oi hp;exact hq _ Z.ext'
 intro bh qe;obtain⟨p,re,B,se⟩:=Z.blk qe Ba 7;have te:=ie.k B;have ue:=je.k B;have ve:=ke.k B;have we:=me.k B;obtain⟨Ea,Fa,j,Oa⟩:=se.freeze re;have xe:=te.k j;have ye:=ue.k j;have ze:=ve.k j;have Ae:=we.k j;have Be:Sl Ea (C.sl Kf.nxt 0 4 0 (Option.some 4)) ([(33:Int),(34:Int),(35:Int),(36:Int)]:List Int):=Bk.sl (α:=Int) (l:=([(33:Int),(34:Int),(35:Int),(36:Int)]:List Int)) Oa (show Cat (α:=Int) Ea [(Il (33:Int)),(Il (34:Int)),(Il (35:Int)),(Il (36:Int))] ([(33:Int),(34:Int),(35:Int),(36:Int)]:List Int) from ⟨[(Il (33:Int))],_,rfl,rfl,⟨[(Il (34:Int))],_,rfl,rfl,⟨[(Il (35:Int))],_,rfl,rfl,⟨[(Il (36:Int))],_,rfl,rfl,rfl⟩⟩⟩⟩) rfl rfl _;obtain⟨ug,Ce,hp⟩:=bsome hp;refine s_rSame (a:=rb.1) (b:=([(33:Int),(34:Int),(35:Int),(36:Int)]:List Int)) Fa.pre (ub.sub (Sub.trans (Sub.trans (Sub.trans (Sub.trans (Sub.trans (Sub.trans (Sub.trans I.fs J.fs) s.fs) i.fs) e.fs) g.fs) h.fs) j.fs)) Be Ce fun vg De=>?_;obtain⟨n,D⟩:=Fa.call De p;have Ga:=xe.k D;have Ee:=ye.k D;have Fe:=ze.k D;have Ge:=Ae.k D;refine⟨_,rfl,?_⟩;refine ifbb hp (fun He hp=>?_) fun He hp=>?_; rotate_left
 ·obtain rfl:=oi hp;exact hq _ n.ext'
 refine ifd hp (fun Ie hp=>?_) fun Ie hp=>?_; rotate_left
 ·obtain rfl:=oi hp;exact hq _ n.ext'
 refine ifd hp (fun Je hp=>?_) fun Je hp=>?_; rotate_left
 ·obtain rfl:=oi hp;exact hq _ n.ext'
 refine ifd hp (fun Ke hp=>?_) fun Ke hp=>?_; rotate_left
 ·obtain rfl:=oi hp;exact hq _ n.ext'
 refine⟨_,_,Ga.bk.ra,?_⟩;obtain⟨wg,Me,hp⟩:=bsome hp;refine s_lBetween (low:=(366:Int)) (high:=(398:Int)) n.pre  Me fun xg Ne=>?_;obtain⟨F,G⟩:=n.call Ne p;have Oe:=Ga.k G;have Ha:=Ee.k G;have Pe:=Fe.k G;have Qe:=Ge.k G;refine⟨_,_,rfl,(Oe.bk.ra),?_⟩;refine gdi hp fun Re hp=>?_;refine gdi hp fun Se hp=>?_;refine gdi hp fun Te hp=>?_;refine gdi hp fun Ue hp=>?_;refine ifbb hp (fun Ve hp=>?_) fun Ve hp=>?_; rotate_left
 ·obtain rfl:=oi hp;exact hq _ F.ext'
 refine ifd hp (fun We hp=>?_) fun We hp=>?_; rotate_left
 ·obtain rfl:=oi hp;exact hq _ F.ext'
 refine⟨_,_,Ha.bk.ra,?_⟩;obtain⟨zg,Xe,hp⟩:=bsome hp;refine s_lBetween (low:=(0:Int)) (high:=(31:Int)) F.pre  Xe fun Ag Ye=>?_;obtain⟨q,aa⟩:=F.call Ye p;have Ia:=Ha.k aa;have Ze:=Pe.k aa;have Ja:=Qe.k aa;refine⟨_,_,rfl,(Ia.bk.ra),?_⟩;refine gdi hp fun af hp=>?_;refine gdi hp fun bf hp=>?_;refine gdi hp fun cf hp=>?_;refine gdi hp fun df hp=>?_;refine ifbb hp (fun ef hp=>?_) fun ef hp=>?_; rotate_left
 ·obtain rfl:=oi hp;exact hq _ q.ext'
 refine⟨_,_,Ze.bk.ra,_,_,Ia.bk.ra,?_⟩;refine gdi hp fun gf hp=>?_;refine gdi hp fun hf hp=>?_;refine gdi hp fun jf hp=>?_;refine gdi hp fun kf hp=>?_;refine ifbb hp (fun lf hp=>?_) fun lf hp=>?_; rotate_left
 ·obtain rfl:=oi hp;exact hq _ q.ext'
 refine ifd hp (fun mf hp=>?_) fun mf hp=>?_; rotate_left
 ·obtain rfl:=oi hp;exact hq _ q.ext'
 refine⟨_,_,Ja.bk.ra,?_⟩;obtain⟨Bg,nf,hp⟩:=bsome hp;refine s_lBetween (low:=(335:Int)) (high:=(429:Int)) q.pre  nf fun pf qf=>?_;obtain⟨ba,rf⟩:=q.call qf p;have sf:=Ja.k rf;refine⟨_,_,rfl,(sf.bk.ra),?_⟩;refine gdi hp fun tf hp=>?_;refine gdi hp fun uf hp=>?_;refine gdi hp fun vf hp=>?_;refine gdi hp fun wf hp=>?_;refine ifbb hp (fun xf hp=>?_) fun xf hp=>?_; rotate_left
 ·obtain rfl:=oi hp;exact hq _ ba.ext'
 refine ifd hp (fun yf hp=>?_) fun yf hp=>?_; rotate_left
 ·obtain rfl:=oi hp;exact hq _ ba.ext'
 intro Cg zf;obtain⟨Af,Bf,Dg,Cf⟩:=ba.blk zf p 8;obtain⟨Ka,La,Df,Pa⟩:=Cf.freeze Bf;have Ef:Sl Ka (C.sl pf.nxt 0 1 0 (Option.some 1)) ([(0:Int)]:List Int):=Bk.sl (α:=Int) (l:=([(0:Int)]:List Int)) Pa (show Cat (α:=Int) Ka [(Il 0)] ([(0:Int)]:List Int) from ⟨[(Il 0)],_,rfl,rfl,rfl⟩) rfl rfl _;obtain⟨Eg,Ff,hp⟩:=bsome hp;refine s_rSame (a:=Jd.1) (b:=([(0:Int)]:List Int)) La.pre (Nd.sub (Sub.trans (Sub.trans h.fs j.fs) Df.fs)) Ef Ff fun Fg Gf=>?_;obtain⟨Hf,Gg⟩:=La.call Gf Af;refine⟨_,rfl,?_⟩;obtain rfl:=oi hp;exact hq _ Hf.ext'
theorem s_UmpirePays{c:Cse}{words:List W8}{ca100 ca103 ca200:C}{m f:M}{Q:V→M→Prop}{rz:Bool}(hS:Pre f m)(ha100:Sl f ca100 c.Tariffs)(ha103:Sl f ca103 c.Fields)(ha200:Sl f ca200 words)(hp:pUmpirePays c words=some rz)(hq:∀m',Ext m m'→Q (.c (.bool rz)) m'):Wc prog tbl 9 [.agg 4 [ca100,(Il c.Day),(Il c.Fee),ca103],.c ca200] m Q:=by
 have S0:=hS.st;obtain⟨τ0,_⟩:=tau0;refine w9 ?_;unfold pUmpirePays at hp;intro m0 Aa;obtain⟨B,aa,Wb,ba⟩:=S0.blk Aa τ0 1;refine⟨_,_,_,_,ba.bk.ra,?_⟩;obtain⟨Xb,Ba,hp⟩:=bsome hp;refine s_uReady (c:=c) aa.pre ha100 ha103 Ba fun m6 Ca=>?_;obtain⟨D,Da⟩:=aa.call Ca B;have Ea:=ba.k Da;refine⟨_,rfl,?_⟩;refine ifnb hp (fun Fa hp=>?_) fun Fa hp=>?_
 ·obtain⟨Yb,Ga,hp⟩:=bsome hp;refine s_uAwake D.pre  Ga fun m9 Ha=>?_;obtain⟨Ia,Zb⟩:=D.call Ha B;refine⟨_,rfl,?_⟩;obtain rfl:=oi hp;exact hq _ Ia.ext'
 intro pc Ja;obtain⟨r,ca,Ka,wa⟩:=D.growK Ja B 2;have F:=Ea.k Ka;have La:=wa 0 (by decide);refine⟨_,_,_,_,F.bk.ra,?_⟩;obtain⟨Ma,Na,hp⟩:=bsome hp;refine s_lCase (c:=c) ca.pre ha100 ha103 Na fun qc ac bc cc Oa Pa Qa=>?_;obtain⟨da,d⟩:=ca.callG Oa r;have ea:=F.k d;have Ra:=La.k d;refine⟨_,_,_,_,rfl,_,_,_,_,ea.bk.ra,(by rw[show allS cmC _=true from cmL_of (nf_cons ha100.noFn (nf_cons rfl (nf_cons rfl (nf_cons ha103.noFn nf_nil))))]; exact(F.bk.ra)),?_⟩;obtain⟨Sa,Ta,hp⟩:=bsome hp;refine s_picked (c:=c) (words:=words) da.pre (ha100.sub d.fs) (ha103.sub d.fs) (ha200.sub d.fs) Ta fun sc dc ec Ua Va=>?_;obtain⟨fa,g⟩:=da.callG Ua r;have Wa:=ea.k g;have Xa:=Ra.k g;refine⟨_,rfl,?_⟩;obtain⟨Ya,Za,hp⟩:=bsome hp;refine s_lTruth (t:=Sa) fa.pre Va Za fun tc fc gc ab bb=>?_;obtain⟨ga,h⟩:=fa.callG ab r;have cb:=Wa.k h;have db:=Xa.k h;refine⟨_,rfl,?_⟩;obtain⟨i,eb,hp⟩:=bsome hp;refine s_Play (c:=Ma) (t:=Ya) ga.pre (Pa.sub (Sub.trans g.fs h.fs)) (Qa.sub (Sub.trans g.fs h.fs)) bb eb fun uc ha ia fb e=>?_;obtain⟨gb,s⟩:=ga.callG fb r;have hb:=cb.k s;have ib:=db.k s;refine⟨_,_,_,_,_,rfl,?_⟩;intro vc jb;obtain⟨kb,mb,ob⟩:=ib.set gb jb;have G:=hb.k mb;refine⟨(by rw[show allS cmC _=true from cmL_of (nf_cons ha100.noFn (nf_cons rfl (nf_cons rfl (nf_cons ha103.noFn nf_nil))))]; exact(G.bk.ra)),(by rw[show allS cmC _=true from cmL_of (nf_cons ha100.noFn (nf_cons rfl (nf_cons rfl (nf_cons ha103.noFn nf_nil))))]; exact(G.bk.ra)),?_⟩;obtain⟨pb,qb,I,rb,j⟩:=ob.sto kb [ia,(Il i.1.Award),(Il i.1.Farmer),(Il i.1.Society)]
 have n:=G.k rb;refine⟨pb,qb,?_⟩;refine ifnd hp (fun sb hp=>?_) fun sb hp=>?_
 ·obtain rfl:=oi hp;exact hq _ I.ext'
 refine⟨trivial,_,j.bk.rc rfl,e.isSl,trivial,_,n.bk.rc rfl,ha103.isSl,?_⟩
 try rw[e.slLen]
 try rw[ha103.slLen]
 refine ifnd hp (fun tb hp=>?_) fun tb hp=>?_
 ·obtain rfl:=oi hp;exact hq _ I.ext'
 intro Tb Sb
 have hgo:∀(x:Nat) (xa:Bool) (ja:Int) (ka:Int) (A:M) (p:M) (q:Nat→Nat),St (Fm.of m) f p A→Sub ha p→Lb (Fm.of m) p q A 1 m.nxt 4 [ca100,(Il c.Day),(Il c.Fee),ca103]→Lb (Fm.of m) p q A 2 (m6.nxt+0) 4 [ia,(Il i.1.Award),(Il i.1.Farmer),(Il i.1.Society)]→pUmpirePays_L0 c i x ja ka=some rz→Tb [.c (.bool xa),.c (Il ja),.c (Il ka)] A:=by
  intro x
  induction x with
  | zero=>intro xa ja ka A p q o b n j hp; cases hp
  | succ x ub=>
   intro xa ja ka A p q o b n j hp;refine Sb _ _ _ _ ?_;rw[pUmpirePays_L0] at hp;refine⟨trivial,_,n.bk.rc rfl,ha103.isSl,?_⟩
   try rw[ha103.slLen]
   refine ifd hp (fun vb hp=>?_) fun vb hp=>?_; rotate_left
   ·refine⟨trivial,_,j.bk.rc rfl,?_⟩;refine ifd hp (fun wb hp=>?_) fun wb hp=>?_; rotate_left
    ·obtain rfl:=oi hp;exact hq _ o.ext'
    obtain⟨hc,xb,hp⟩:=bsome hp;refine s_uAwake o.pre  xb fun wc yb=>?_;obtain⟨zb,ic⟩:=o.call yb q;refine⟨_,rfl,?_⟩;obtain rfl:=oi hp;exact hq _ zb.ext'
   refine⟨trivial,_,n.bk.rc rfl,?_⟩;obtain⟨a,J,hp⟩:=bsome hp;obtain⟨Ub,ya,Y,J⟩:=idx_some J;obtain⟨_,la⟩:=rd_Fld ha103 J;refine⟨Ub,ya,(by first|exact Y|(rw[ha103.slLen];exact Y)),_,_,_,_,_,_,_,_,_,(la _ (Sub.trans (Sub.trans (Sub.trans (Sub.trans (Sub.trans d.fs g.fs) h.fs) s.fs) b) o.sub)).1,trivial,_,j.bk.rc rfl,?_⟩;obtain⟨N,u,hp⟩:=bsome hp;obtain⟨Vb,za,Z,u⟩:=idx_some u;refine⟨Vb,za,(by first|exact Z|(rw[e.slLen];exact Z)),_,(e.rdI u (Sub.trans b o.sub)),?_⟩;intro xc Ab;obtain⟨O,P,ma,Bb⟩:=o.blk Ab q 3;have na:=n.k ma;have oa:=j.k ma;refine⟨(e.rdI u (Sub.trans b P.sub)),(by rw[show cmC _=true from cmC_of (e.noFn)]; exact(oa.bk.rc rfl)),(la _ (Sub.trans (Sub.trans (Sub.trans (Sub.trans (Sub.trans d.fs g.fs) h.fs) s.fs) b) P.sub)).1,(by rw[show cmC _=true from cmC_of (ha103.noFn)]; exact(na.bk.rc rfl)),?_⟩;obtain⟨Cb,Db,S,pa,T⟩:=Bb.sto P [(Il a.Crop),(Il a.Value),(Il a.Near),(Il a.First.Lo),(Il a.First.Hi),(Il a.Second.Lo),(Il a.Second.Hi),(Il a.Umpire.Lo),(Il a.Umpire.Hi)];have w:=na.k pa;have qa:=oa.k pa;refine⟨Cb,Db,?_⟩;refine⟨(e.rdI u (Sub.trans b S.sub)),(by rw[show cmC _=true from cmC_of (e.noFn)]; exact(qa.bk.rc rfl)),trivial,_,w.bk.rc rfl,?_⟩;obtain⟨Eb,Fb,hp⟩:=bsome hp;refine s_lTariffs (l:=c.Tariffs) S.pre (ha100.sub (Sub.trans (Sub.trans (Sub.trans (Sub.trans d.fs g.fs) h.fs) s.fs) b)) Fb fun yc Gb jc Hb Ib=>?_;obtain⟨sa,y⟩:=S.callG Hb O;have z:=w.k y;have Jb:=qa.k y;have ta:=T.k y;refine⟨_,rfl,trivial,_,ta.bk.rc rfl,(T.bk.rc rfl),trivial,_,ta.bk.rc rfl,(T.bk.rc rfl),trivial,_,z.bk.rc rfl,(w.bk.rc rfl),trivial,_,z.bk.rc rfl,(w.bk.rc rfl),trivial,_,z.bk.rc rfl,(w.bk.rc rfl),?_⟩
   obtain⟨kc,Kb,hp⟩:=bsome hp;refine s_Pay (l:=Eb) (c:=({ Crop:=a.Crop,Value:=a.Value,Day:=({ Lo:=c.Day,Hi:=c.Day }:Rg),Count:=({ Lo:=N,Hi:=N }:Rg) }:Clm)) (t:=({ Day:=c.Day,Count:=N }:Tr)) sa.pre Ib Kb fun zc Mb=>?_;obtain⟨ua,va⟩:=sa.call Mb O;have Nb:=z.k va;have Ob:=Jb.k va;refine⟨_,_,rfl,?_⟩;refine ifnd hp (fun Pb hp=>?_) fun Pb hp=>?_
   ·obtain rfl:=oi hp;exact hq _ ua.ext'
   refine gdi hp fun Qb hp=>?_;refine gdi hp fun Rb hp=>?_;exact ub _ _ _ _ Gb O ua (Sub.trans b y.fs) Nb Ob hp
 exact hgo _ _ _ _ _ ha r I (Sub.refl _) n j hp
def seg(lo:Int):Nat→List Int
 | 0=>[]
 | n+1=>lo::seg (lo+1) n
theorem mem_seg{x:Int}:∀{n:Nat} {lo:Int},x∈seg lo n↔lo≤x∧x < lo+n
 | 0,lo=>by simp[seg]
 | n+1,lo=>by
  unfold seg;rw[List.mem_cons,mem_seg]; omega
theorem seg_len:∀{n:Nat} {lo:Int},(seg lo n).length=n
 | 0,_=>rfl
 | n+1,lo=>by unfold seg; rw[List.length_cons,seg_len]
def truthsL(c:Clm):List Tr:=(seg c.Day.Lo (c.Day.Hi - c.Day.Lo+1).toNat).flatMap fun d=>(seg c.Count.Lo (c.Count.Hi - c.Count.Lo+1).toNat).map fun n=>⟨d,n⟩
theorem mem_truths{c:Clm}(h1:c.Day.Lo≤c.Day.Hi)(h2:c.Count.Lo≤c.Count.Hi){t:Tr}:t∈truthsL c↔TruthN c t:=by
 unfold truthsL TruthN;rw[List.mem_flatMap]
 constructor
 ·rintro⟨d,hd,ht⟩
  obtain⟨n,hn,rfl⟩:=List.mem_map.1 ht;have hd:=mem_seg.1 hd;have hn:=mem_seg.1 hn
  dsimp only
  omega
 ·intro⟨h3,h4⟩;exact⟨t.Day,mem_seg.2 (by omega),List.mem_map.2 ⟨t.Count,mem_seg.2 (by omega),rfl⟩⟩
theorem truths_L1{c:Clm}{x:Int}(hx:-1000≤x∧x≤1000)(hh:-1000≤c.Count.Lo∧c.Count.Hi≤1000){K:Int→Option (List Tr)}{r:List Tr}(hK:K (x+1)=some r):∀(d n:Nat) (k:Int),c.Count.Lo≤k→n < d→k+n=c.Count.Hi+1→ptruthsI_L1 c x K d k=some ((seg k n).map (fun n=>⟨x,n⟩)++r)
 | 0,n,k,_,h,_=>by omega
 | d+1,0,k,_,_,hk=>by
  rw[ptruthsI_L1,if_neg (by omega),gd_pos (fI (by omega)),hK]; rfl
 | d+1,n+1,k,h0,h,hk=>by
  rw[ptruthsI_L1,if_pos (by omega),gd_pos (fI (by omega)),truths_L1 hx hh hK d n (k+1) (by omega) (by omega) (by omega),obs]; rfl
theorem truths_L0{c:Clm}(hd:-1000≤c.Day.Lo∧c.Day.Hi≤1000)(hh:-1000≤c.Count.Lo∧c.Count.Hi≤1000)(h2:c.Count.Lo≤c.Count.Hi):∀(d n:Nat) (x:Int),c.Day.Lo≤x→n < d→x+n=c.Day.Hi+1→ptruthsI_L0 c d x=some ((seg x n).flatMap fun d=>(seg c.Count.Lo (c.Count.Hi - c.Count.Lo+1).toNat).map fun n=>⟨d,n⟩)
 | 0,n,x,_,h,_=>by omega
 | d+1,0,x,_,_,hx=>by rw[ptruthsI_L0,if_neg (by omega)]; rfl
 | d+1,n+1,x,h0,h,hx=>by
  rw[ptruthsI_L0,if_pos (by omega),truths_L1 (by omega) hh (truths_L0 hd hh h2 d n (x+1) (by omega) (by omega) (by omega)) _ (c.Count.Hi - c.Count.Lo+1).toNat c.Count.Lo (Int.le_refl _) (by omega) (by omega)]; rfl
theorem truths_eq{l:List Tf}{c:Clm}(h:ClaimN l c):ptruths c=some (truthsL c):=by
 have h1:=h.day;have h2:=h.cnt;unfold ptruths ptruthsI;rw[truths_L0 (by omega) (by omega) (by omega) _ (c.Day.Hi - c.Day.Lo+1).toNat c.Day.Lo (Int.le_refl _) (by omega) (by omega)]; rfl
theorem truths_len{l:List Tf}{c:Clm}(h:ClaimN l c):0 < (truthsL c).length∧(truthsL c).length≤1111:=by
 have h1:=h.day;have h2:=h.cnt
 have:(truthsL c).length=(c.Day.Hi - c.Day.Lo+1).toNat * (c.Count.Hi - c.Count.Lo+1).toNat:=by
  unfold truthsL;rw[List.length_flatMap]
  simp only[List.length_map,seg_len]
  generalize (c.Day.Hi - c.Day.Lo+1).toNat=n;generalize (c.Count.Hi - c.Count.Lo+1).toNat=k;generalize c.Day.Lo=x
  induction n generalizing x with
  | zero=>simp[seg]
  | succ n ih=>unfold seg; rw[List.map_cons,List.sum_cons,ih,Nat.succ_mul]; omega
 rw[this]
 have a1:1≤(c.Day.Hi - c.Day.Lo+1).toNat:=by omega
 have a2:(c.Day.Hi - c.Day.Lo+1).toNat≤11:=by omega
 have a3:1≤(c.Count.Hi - c.Count.Lo+1).toNat:=by omega
 have a4:(c.Count.Hi - c.Count.Lo+1).toNat≤101:=by omega
 exact⟨Nat.mul_pos a1 a3,Nat.mul_le_mul a2 a4⟩
def bndN(l:List Tf)(c:Clm):Rg:=⟨minL ((truthsL c).map (payN l c)),maxL ((truthsL c).map (payN l c))⟩
theorem pay_rng{l:List Tf}(hf:faultN l=0){c:Clm}(hc:ClaimN l c){t:Tr}(ht:TruthN c t):0≤payN l c t∧payN l c t≤100000:=by
 have hp:=part_htOk hf (htOk hc ht);have hv:=val_le hc.val hp;unfold payN
 dsimp only at hv
 omega
theorem bounds_L0{l:List Tf}(hf:faultN l=0){c:Clm}(hc:ClaimN l c){w:Wk}(hw:w.tariffs=l):∀(ts:List Tr) (acc:List Int) (M:Option (Ht→Option Int)),(∀t∈ts,TruthN c t)→MemoOk l M→ts.length+acc.length≤1111→acc++ts.map (payN l c) ≠ [] →
  ∃M',pbounds_L0 w c ts acc M=some (⟨minL (acc++ts.map (payN l c)),maxL (acc++ts.map (payN l c))⟩,M')∧MemoOk l M'
 | [],acc,M,_,hM,hl,hne=>by
  rw[List.map_nil,List.append_nil] at hne ⊢;have hs:shrt acc:=Nat.le_trans (Nat.le_trans (Nat.le_add_left _ _) hl) (by omega);refine⟨M,?_,hM⟩;rw[pbounds_L0,minimumU hne (by have:=hs.lt; omega),obs,maxU hne (by have:=hs.lt; omega),obs]
 | t::ts,acc,M,hts,hM,hl,hne=>by
  obtain⟨M1,h1,h2⟩:=payment_eq hf hM hc (hts t (List.mem_cons_self ..));rw[List.length_cons] at hl;obtain⟨M',h3,h4⟩:=bounds_L0 hf hc hw ts (acc++[payN l c t]) M1 (fun u hu=>hts u (List.mem_cons_of_mem _ hu)) h2 (by rw[List.length_append]; simp; omega) (by simp);refine⟨M',?_,h4⟩;rw[pbounds_L0,hw,h1,obs]
  dsimp only
  rw[gd_pos (by omega),h3,List.append_assoc]; rfl
theorem bounds_eq{l:List Tf}(hf:faultN l=0){c:Clm}(hc:ClaimN l c){M:Option (Ht→Option Int)}(hM:MemoOk l M):∃M',pbounds ⟨l,M⟩ c=some (bndN l c,M')∧MemoOk l M':=by
 have h1:=hc.day;have h2:=hc.cnt;have hlen:=truths_len hc;unfold pbounds;rw[truths_eq hc,obs]
 exact bounds_L0 hf hc rfl (truthsL c) [] M (fun t ht=>(mem_truths (by omega) (by omega)).1 ht) hM (by simp; omega) (by
  intro e;rw[List.nil_append] at e;rw[List.map_eq_nil_iff.1 e] at hlen
  exact absurd hlen.1 (by simp))
theorem Bounds_ok{l:List Tf}(hf:faultN l=0){c:Clm}(hc:ClaimN l c):pBounds l c=some (bndN l c,0):=by
 obtain⟨M',h1,_⟩:=bounds_eq hf hc memo0;unfold pBounds;rw[openFor_eq hf (by simp) (mem1.2 hc),obs,if_pos rfl,h1,obs]
theorem Bounds_no{l:List Tf}(hf:faultN l=0){c:Clm}(hc:¬ ClaimN l c):pBounds l c=some (⟨0,0⟩,2):=by
 unfold pBounds;rw[openFor_no hf (by simp) (by rw[mem1]; exact hc),obs,if_neg (by decide)]
structure CntsOk (r:Rg):Prop where
 lo:0≤r.Lo
 le:r.Lo≤r.Hi
 hi:r.Hi≤100
 wd:r.Hi - r.Lo≤4
theorem CntsOk_iff{r:Rg}:CntsOk r↔0≤r.Lo∧r.Lo≤r.Hi∧r.Hi≤100∧r.Hi - r.Lo≤4:=⟨fun h=>⟨h.1,h.2,h.3,h.4⟩,fun⟨a,b,c,d⟩=>⟨a,b,c,d⟩⟩
structure FldOk (l:List Tf) (f:Fld):Prop where
 crop:0≤f.Crop∧f.Crop < cropsN l
 val:0≤f.Value∧f.Value≤100000
 near:0≤f.Near∧f.Near≤100
 fst:CntsOk f.First
 snd:CntsOk f.Second
 ump:CntsOk f.Umpire
structure CseOk (c:Cse):Prop where
 tar:faultN c.Tariffs=0
 len:c.Fields.length≤3
 day:0≤c.Day∧c.Day≤120
 fee:0≤c.Fee∧c.Fee≤10000
 fld:∀f∈c.Fields,FldOk c.Tariffs f
open Classical in
def ufaultN(c:Cse):Int:=if faultN c.Tariffs=0 then (if 3 < c.Fields.length then 3 else if CseOk c then 0 else 1) else faultN c.Tariffs
theorem ufaultN_zero{c:Cse}:ufaultN c=0↔CseOk c:=by
 unfold ufaultN
 constructor
 ·intro h
  split at h
  ·split at h
   ·cases h
   ·split at h
    ·assumption
    ·cases h
  ·rename_i h1; exact absurd h h1
 ·intro h;rw[if_pos h.tar,if_neg (by have:=h.len; omega),if_pos h]
theorem uHas_ev{r:Rg}{n:Int}:Ev (puHas r n) (r.Lo≤n∧n≤r.Hi):=Ev.ite fun _=>Ev.dec Iff.rfl
theorem uIsCount_ev{n:Int}:Ev (puIsCount n) (0≤n∧n≤100):=uHas_ev.ret
theorem validCounts_ev{r:Rg}:Ev (pvalidCounts r) (CntsOk r):=
 (Ev.and uIsCount_ev fun h1=>Ev.and uIsCount_ev fun h2=>Ev.ite fun _=>Ev.gd (fI (by omega)) (Ev.dec Iff.rfl)).imp ((show _↔_ from by omega).trans CntsOk_iff.symm)
theorem gR{l:List Rg}{p:Rg→Option Bool}:∀{d:Nat} {x:Int},pindexR_L0 l p d x=gIdx l p d x
 | 0,_=>rfl
 | d+1,x=>by unfold pindexR_L0 gIdx; simp only[gR]
theorem gF{l:List Fld}{p:Fld→Option Bool}:∀{d:Nat} {x:Int},pindexF_L0 l p d x=gIdx l p d x
 | 0,_=>rfl
 | d+1,x=>by unfold pindexF_L0 gIdx; simp only[gF]
theorem eachR_ev{l:List Rg}{p:Rg→Option Bool}{q:Rg→Prop}(hp:∀a∈l,Ev (p a) (q a))(hl:shrt l):Ev (peachR l p) (∀a∈l,q a):=Ev.each hp hl.lt gR
theorem eachF_ev{l:List Fld}{p:Fld→Option Bool}{q:Fld→Prop}(hp:∀a∈l,Ev (p a) (q a))(hl:shrt l):Ev (peachF l p) (∀a∈l,q a):=Ev.each hp hl.lt gF
def claimU(c:Cse)(f:Fld)(n:Int):Clm:={ Crop:=f.Crop,Value:=f.Value,Day:={ Lo:=c.Day,Hi:=c.Day },Count:={ Lo:=n,Hi:=n } }
theorem claimU_iff{c:Cse}{f:Fld}{n:Int}(hd:0≤c.Day∧c.Day≤120)(hn:0≤n∧n≤100):ClaimN c.Tariffs (claimU c f n)↔(0≤f.Crop∧f.Crop < cropsN c.Tariffs)∧(0≤f.Value∧f.Value≤100000):=
 ⟨fun h=>⟨h.crop,h.val⟩,fun h=>⟨h.1,h.2,by show 0≤c.Day∧c.Day≤c.Day∧c.Day≤120∧c.Day - c.Day≤10; omega,by show 0≤n∧n≤n∧n≤100; omega⟩⟩
theorem canClaim_ev{c:Cse}(ht:faultN c.Tariffs=0)(hd:0≤c.Day∧c.Day≤120){f:Fld}:Ev (pcanClaim c f) ((0≤f.Crop∧f.Crop < cropsN c.Tariffs)∧(0≤f.Value∧f.Value≤100000)):=by
 refine Ev.bind rfl ?_
 by_cases h:ClaimN c.Tariffs (claimU c f 0)
 ·exact Ev.bind (Bounds_ok ht h) (Ev.dec ⟨fun _=>(claimU_iff hd (by omega)).1 h,fun _=>rfl⟩)
 ·exact Ev.bind (Bounds_no ht h) (Ev.dec ⟨fun h1=>(by cases h1),fun h2=>absurd ((claimU_iff (n:=0) hd (by omega)).2 h2) h⟩)
theorem validField_ev{c:Cse}(ht:faultN c.Tariffs=0)(hd:0≤c.Day∧c.Day≤120){f:Fld}:Ev (pvalidField c f) (FldOk c.Tariffs f):=
 (Ev.and (canClaim_ev ht hd) fun _=>Ev.and uIsCount_ev fun _=>(eachR_ev (fun _ _=>validCounts_ev) (show (3:Nat)≤_ by omega)).ret).imp
  ⟨fun⟨h1,h2,h3⟩=>⟨h1.1,h1.2,h2,h3 _ (by simp),h3 _ (by simp),h3 _ (by simp)⟩,fun h=>⟨⟨h.crop,h.val⟩,h.near,fun a ha=>by
   rcases List.mem_cons.1 ha with rfl | ha
   ·exact h.fst
   rcases List.mem_cons.1 ha with rfl | ha
   ·exact h.snd
   rcases List.mem_cons.1 ha with rfl | ha
   ·exact h.ump
   cases ha⟩⟩
theorem cValid_ev{c:Cse}(ht:faultN c.Tariffs=0)(hl:c.Fields.length≤3):Ev (pcValid c) (CseOk c):=
 (Ev.and uHas_ev fun h1=>Ev.and uHas_ev fun _=>(eachF_ev (fun _ _=>validField_ev ht h1) (Nat.le_trans hl (by omega))).ret).imp
  ⟨fun⟨h1,h2,h3⟩=>⟨ht,hl,h1,h2,h3⟩,fun h=>⟨h.day,h.fee,h.fld⟩⟩
theorem checkCase_eq{c:Cse}:pcheckCase c=some (ufaultN c):=by
 unfold pcheckCase ufaultN;rw[check_eq,obs]
 by_cases h:faultN c.Tariffs=0
 ·rw[if_pos h,if_pos h]
  by_cases h3:3 < c.Fields.length
  ·rw[if_pos (by omega),if_pos h3]
  ·rw[if_neg (by omega),if_neg h3]
   exact Ev.pick (cValid_ev h (by omega)) (fun hc=>by rw[if_pos rfl,if_pos hc]) fun hc=>by rw[bif_neg rfl,if_neg hc]
 ·rw[if_neg h,if_neg h]
theorem rIsCounts_ev{r:Rg}:Ev (prIsCounts r) (CntsOk r):=
 (Ev.ite fun _=>Ev.ite fun _=>Ev.ite fun _=>Ev.gd (fI (by omega)) (Ev.dec Iff.rfl)).imp CntsOk_iff.symm
theorem ne_of_fault{l:List Tf}(h:faultN l=0):l ≠ []:=fun e=>by
 have:=(crops_rng h).1;rw[e] at this;exact absurd this (by decide)
theorem stepAnd{β:Type}{o:Option Bool}{P Q:Prop}{k A B:Option β}(h:Ev o P)(hk:P→(Q→k=A)∧(¬ Q→k=B)):(P∧Q→(o.bind fun r=>if r=true then k else B)=A)∧(¬ (P∧Q)→(o.bind fun r=>if r=true then k else B)=B):=by
 obtain⟨b,h1,h2⟩:=h;rw[h1,obs]
 cases b with
 | true=>
  have hp:=h2.1 rfl;exact⟨fun hq=>(hk hp).1 hq.2,fun hn=>(hk hp).2 fun hq=>hn ⟨hp,hq⟩⟩
 | false=>exact⟨fun hq=>(by have:=h2.2 hq.1; cases this),fun _=>rfl⟩
theorem rFault_go{c:Cse}(ht:faultN c.Tariffs=0)(hl:c.Fields.length≤3):((∀f∈c.Fields,FldOk c.Tariffs f)→puRFault_L0 c 1000000 0=some 0)∧(¬ (∀f∈c.Fields,FldOk c.Tariffs f)→puRFault_L0 c 1000000 0=some 1):=by
 refine loop_each (l:=c.Fields) (F:=fun d x=>puRFault_L0 c d x) (bad:=some 1) (fin:=some 0) (fun d k f hk=>?_) (fun d=>by rw[puRFault_L0,if_neg (Int.lt_irrefl _)]) (by omega);have hkl:=(List.getElem?_eq_some_iff.1 hk).1;have hc:=crops_rng ht;rw[puRFault_L0,if_pos (by omega),idx_at hk,obs,rCrops_eq (ne_of_fault ht),obs,gd_pos (fI (by omega))]
 have key:=stepAnd (In_ev (n:=f.Crop) (lo:=0) (hi:=(cropsN c.Tariffs:Int) - 1)) fun _=>stepAnd (In_ev (n:=f.Value) (lo:=0) (hi:=100000)) fun _=>stepAnd (In_ev (n:=f.Near) (lo:=0) (hi:=100)) fun _=>stepAnd (rIsCounts_ev (r:=f.First)) fun _=>stepAnd (rIsCounts_ev (r:=f.Second)) fun _=>
  stepAnd (β:=Int) (Q:=True) (k:=gd (fitsP .i64 ((k:Int)+1)) (puRFault_L0 c d ((k:Int)+1))) (A:=puRFault_L0 c d ((k:Int)+1)) (B:=some 1) (rIsCounts_ev (r:=f.Umpire)) fun _=>⟨fun _=>gd_pos (fI (by omega)),fun h=>absurd trivial h⟩
 refine⟨fun h=>key.1 ⟨⟨h.crop.1,by have:=h.crop.2; omega⟩,h.val,h.near,h.fst,h.snd,h.ump,trivial⟩,fun h=>key.2 fun h'=>h ⟨⟨h'.1.1,by have:=h'.1.2; omega⟩,h'.2.1,h'.2.2.1,h'.2.2.2.1,h'.2.2.2.2.1,h'.2.2.2.2.2.1⟩⟩
theorem rFaultU_eq{c:Cse}:puRFault c=some (ufaultN c):=by
 unfold puRFault ufaultN;rw[rFault_eq,obs]
 by_cases h:faultN c.Tariffs=0
 ·rw[if_pos h,if_pos h]
  by_cases h3:3 < c.Fields.length
  ·rw[if_pos (by omega),if_pos h3]
  ·rw[if_neg (by omega),if_neg h3];have g:=rFault_go h (by omega);have key:=stepAnd (In_ev (n:=c.Day) (lo:=0) (hi:=120)) fun _=>stepAnd (In_ev (n:=c.Fee) (lo:=0) (hi:=10000)) fun _=>g
   by_cases hc:CseOk c
   ·rw[if_pos hc]; exact key.1 ⟨hc.day,hc.fee,hc.fld⟩
   ·rw[if_neg hc]; exact key.2 fun h'=>hc ⟨h,by omega,h'.1,h'.2.1,h'.2.2⟩
 ·rw[if_neg h,if_neg h]
theorem uFault_eq{c:Cse}:puFault c=some (ufaultN c):=by unfold puFault; rw[rFaultU_eq]; rfl
theorem uThin_ev{c:Cse}:Ev (puThin c) (ThinN c.Tariffs∧c.Fields.length≤6):=Ev.and thin_ev fun _=>Ev.dec (by omega)
theorem uReady_ev{c:Cse}:Ev (puReady c) ((ThinN c.Tariffs∧c.Fields.length≤6)∧CseOk c):=Ev.and uThin_ev fun _=>Ev.bind uFault_eq (Ev.dec ufaultN_zero)
theorem lCase_go{c:Cse}(hl:c.Fields.length≤6):∀(d k:Nat),k≤c.Fields.length→c.Fields.length - k < d→plCase_L0 c c.Tariffs d c.Day c.Fee (c.Fields.take k) (k:Int)=some c
 | 0,k,_,h=>by omega
 | d+1,k,hk,h=>by
  rw[plCase_L0]
  by_cases hkl:k < c.Fields.length
  ·have hg:=List.getElem?_eq_getElem hkl;rw[if_pos (by omega),idx_at hg,obs]
   show gd ((c.Fields.take k).length < 1048576) _=_
   rw[gd_pos (by rw[List.length_take]; omega),gd_pos (fI (by omega)),show(k:Int)+1=((k+1:Nat):Int) by omega];have:=lCase_go hl d (k+1) hkl (by omega);rw[List.take_add_one,hg] at this;exact this
  ·rw[if_neg (by omega),List.take_of_length_le (by omega)]
theorem lCase_eq{c:Cse}(ht:ThinN c.Tariffs)(hl:c.Fields.length≤6):plCase c=some c:=by
 unfold plCase;rw[lTariffs_eq ht,obs];exact lCase_go hl 1000000 0 (by omega) (by omega)
theorem lTruthU_go{t:List Thr}(hl:t.length≤1000000):∀(d k:Nat),k≤t.length→t.length - k < d→plTruth_L0 t d (t.take k) (k:Int)=some t
 | 0,k,_,h=>by omega
 | d+1,k,hk,h=>by
  rw[plTruth_L0]
  by_cases hkl:k < t.length
  ·have hg:=List.getElem?_eq_getElem hkl;rw[if_pos (by omega),idx_at hg,obs,obs,obs,gd_pos (by rw[List.length_take]; omega),gd_pos (fI (by omega)),show(k:Int)+1=((k+1:Nat):Int) by omega];have:=lTruthU_go hl d (k+1) hkl (by omega);rw[List.take_add_one,hg] at this;exact this
  ·rw[if_neg (by omega),List.take_of_length_le (by omega)]
theorem lTruthU_eq{t:List Thr}(hl:t.length≤1000000):plTruth t=some t:=lTruthU_go hl (t.length+1) 0 (by omega) (by omega)
end
end Go.Proofs.YteojndcmgpiklaaGreat

namespace Go.Proofs.YteojndcmgpiklaaGreat
open _root_.Go.Proofs.Tryz
open Go.Abs
set_option maxRecDepth 100000
noncomputable section
structure ThrOk (f:Fld) (t:Thr):Prop where
 a:f.First.Lo≤t.First∧t.First≤f.First.Hi
 b:f.Second.Lo≤t.Second∧t.Second≤f.Second.Hi
 u:f.Umpire.Lo≤t.Umpire∧t.Umpire≤f.Umpire.Hi
structure Rng3 (t:Thr):Prop where
 a:0≤t.First∧t.First≤100
 b:0≤t.Second∧t.Second≤100
 u:0≤t.Umpire∧t.Umpire≤100
theorem ThrOk.rng{l:List Tf}{f:Fld}(h:FldOk l f){t:Thr}(ht:ThrOk f t):Rng3 t:=by
 have h1:=h.fst; have h2:=h.snd; have h3:=h.ump;have:=h1.lo; have:=h1.hi; have:=h2.lo; have:=h2.hi; have:=h3.lo; have:=h3.hi;have:=ht.a; have:=ht.b; have:=ht.u;exact⟨by omega,by omega,by omega⟩
def farN(a b:Int):Int:=max a b - min a b
def calN(f:Fld)(t:Thr):Prop:=f.Near < farN t.First t.Second
instance (f:Fld) (t:Thr):Decidable (calN f t):=by unfold calN; infer_instance
def setN(f:Fld)(t:Thr):Int:=if calN f t then min (max t.Umpire (min t.First t.Second)) (max t.First t.Second) else (t.First+t.Second) / 2
def losN(f:Fld)(t:Thr):Int:=if calN f t then (if farN t.Second (setN f t) < farN t.First (setN f t) then 2 else if farN t.First (setN f t) < farN t.Second (setN f t) then 3 else 1) else 0
theorem distance_eq{a b:Int}(ha:0≤a∧a≤100)(hb:0≤b∧b≤100):pdistance a b=some (farN a b):=gd_pos (fI (by omega))
theorem called_ev{f:Fld}{t:Thr}(h:Rng3 t):Ev (pcalled f t) (calN f t):=Ev.bind (distance_eq h.a h.b) (Ev.dec Iff.rfl)
theorem setN_btw{f:Fld}{t:Thr}:min t.First t.Second≤setN f t∧setN f t≤max t.First t.Second:=by
 unfold setN
 split <;> omega
theorem setN_rng{f:Fld}{t:Thr}(h:Rng3 t):0≤setN f t∧setN f t≤100:=by
 have:=@setN_btw f t;have:=h.a; have:=h.b
 omega
theorem settled_eq{f:Fld}{t:Thr}(h:Rng3 t):psettled f t=some (setN f t):=by
 have h1:=h.a; have h2:=h.b;unfold setN
 exact Ev.pick (called_ev h) (fun hc=>by rw[if_pos rfl,if_pos hc]) fun hc=>by
  rw[bif_neg rfl,if_neg hc,gd_pos (fI (by omega)),gd_pos (by omega),gd_pos (by omega),gd_pos (fI (by omega))]
theorem loser_eq{f:Fld}{t:Thr}(h:Rng3 t):ploser f t=some (losN f t):=by
 have hs:=setN_rng (f:=f) h;unfold ploser;rw[settled_eq h,obs,distance_eq h.a hs,obs,distance_eq h.b hs,obs];unfold losN
 refine Ev.pick (called_ev h) (fun hc=>?_) fun hc=>by rw[bif_neg rfl,if_neg hc]
 rw[if_pos rfl,if_pos hc]
 split
 ·rfl
 ·split <;> rfl
theorem losN_rng{f:Fld}{t:Thr}:0≤losN f t∧losN f t < 4:=by
 unfold losN
 repeat' split
 all_goals omega
def cnt(r:Rg):Nat:=(r.Hi - r.Lo+1).toNat
def threesN(f:Fld):List Thr:=(segI f.First.Lo (cnt f.First)).flatMap fun a=>(segI f.Second.Lo (cnt f.Second)).flatMap fun b=>(segI f.Umpire.Lo (cnt f.Umpire)).map fun u=>⟨a,b,u⟩
theorem mem_seg_rng{r:Rg}(h:CntsOk r){x:Int}:x∈segI r.Lo (cnt r)↔r.Lo≤x∧x≤r.Hi:=by
 have:=h.le;rw[mem_segI]; unfold cnt; omega
theorem cnt_le{r:Rg}(h:CntsOk r):0 < cnt r∧cnt r≤5:=by
 have:=h.le; have:=h.wd;unfold cnt; omega
theorem mem_threesN{l:List Tf}{f:Fld}(h:FldOk l f){t:Thr}:t∈threesN f↔ThrOk f t:=by
 unfold threesN
 simp only[List.mem_flatMap,List.mem_map,mem_seg_rng h.fst,mem_seg_rng h.snd,mem_seg_rng h.ump]
 constructor
 ·rintro⟨a,ha,b,hb,u,hu,rfl⟩; exact⟨ha,hb,hu⟩
 ·intro ht; exact⟨_,ht.a,_,ht.b,_,ht.u,rfl⟩
theorem threesN_len{l:List Tf}{f:Fld}(h:FldOk l f):0 < (threesN f).length∧(threesN f).length≤125:=by
  have h1:=cnt_le h.fst; have h2:=cnt_le h.snd; have h3:=cnt_le h.ump
  have e:(threesN f).length=cnt f.First * (cnt f.Second * cnt f.Umpire):=by
    unfold threesN
    simp[List.length_flatMap,segI_len,List.map_const',List.sum_replicate_nat]
  rw[e];refine⟨Nat.mul_pos h1.1 (Nat.mul_pos h2.1 h3.1),?_⟩
  calc cnt f.First * (cnt f.Second * cnt f.Umpire)≤5 * (5 * 5):=Nat.mul_le_mul h1.2 (Nat.mul_le_mul h2.2 h3.2)
    _=125:=rfl
theorem threes_L2{f:Fld}(h:CntsOk f.Umpire){x y:Int}(hy:-1000≤y∧y≤1000){K:Int→Option (List Thr)}{r:List Thr}(hK:K (y+1)=some r):∀(d n:Nat) (k:Int),f.Umpire.Lo≤k→n < d→k+n=f.Umpire.Hi+1→pthreesI_L2 f x y K d k=some ((segI k n).map (fun u=>⟨x,y,u⟩)++r)
 | 0,n,k,_,h2,_=>by omega
 | d+1,0,k,_,_,h3=>by
  rw[pthreesI_L2,if_neg (by omega),gd_pos (fI (by omega)),hK]; rfl
 | d+1,n+1,k,h1,h2,h3=>by
  have:=h.lo; have:=h.hi;rw[pthreesI_L2,if_pos (by omega),gd_pos (fI (by omega)),threes_L2 h hy hK d n (k+1) (by omega) (by omega) (by omega)]
  rfl
theorem threes_L1{f:Fld}(hu:CntsOk f.Umpire)(h:CntsOk f.Second){x:Int}(hx:-1000≤x∧x≤1000){K:Int→Option (List Thr)}{r:List Thr}(hK:K (x+1)=some r):∀(d n:Nat) (k:Int),f.Second.Lo≤k→n < d→k+n=f.Second.Hi+1→pthreesI_L1 f x K d k=some ((segI k n).flatMap (fun b=>(segI f.Umpire.Lo (cnt f.Umpire)).map fun u=>⟨x,b,u⟩)++r)
 | 0,n,k,_,h2,_=>by omega
 | d+1,0,k,_,_,h3=>by
  rw[pthreesI_L1,if_neg (by omega),gd_pos (fI (by omega)),hK]; rfl
 | d+1,n+1,k,h1,h2,h3=>by
  have:=h.lo; have:=h.hi; have:=hu.le;have:=cnt_le hu;rw[pthreesI_L1,if_pos (by omega),threes_L2 hu (by omega) (threes_L1 hu h hx hK d n (k+1) (by omega) (by omega) (by omega)) 1000000 (cnt f.Umpire) f.Umpire.Lo (by omega) (by omega) (by unfold cnt; omega)]
  simp only[segI,List.flatMap_cons,List.append_assoc]
theorem threes_L0{f:Fld}(hu:CntsOk f.Umpire)(hs:CntsOk f.Second)(h:CntsOk f.First):∀(d n:Nat) (k:Int),f.First.Lo≤k→n < d→k+n=f.First.Hi+1→pthreesI_L0 f d k=some ((segI k n).flatMap fun a=>(segI f.Second.Lo (cnt f.Second)).flatMap fun b=>(segI f.Umpire.Lo (cnt f.Umpire)).map fun u=>⟨a,b,u⟩)
 | 0,n,k,_,h2,_=>by omega
 | d+1,0,k,_,_,h3=>by
  rw[pthreesI_L0,if_neg (by omega)]; rfl
 | d+1,n+1,k,h1,h2,h3=>by
  have:=h.lo; have:=h.hi; have:=hs.le;have:=cnt_le hs;rw[pthreesI_L0,if_pos (by omega),threes_L1 hu hs (by omega) (threes_L0 hu hs h d n (k+1) (by omega) (by omega) (by omega)) 1000000 (cnt f.Second) f.Second.Lo (by omega) (by omega) (by unfold cnt; omega)]
  simp only[segI,List.flatMap_cons]
theorem threes_eq{l:List Tf}{f:Fld}(h:FldOk l f):pthrees f=some (threesN f):=by
 have:=cnt_le h.fst; have:=h.fst.le;unfold pthrees pthreesI;rw[threes_L0 h.ump h.snd h.fst 1000000 (cnt f.First) f.First.Lo (by omega) (by omega) (by unfold cnt; omega)]; rfl
def paidN(c:Cse)(f:Fld)(n:Int):Int:=f.Value * partN c.Tariffs f.Crop c.Day n / 100
def PayOk(c:Cse)(M:Option (Clm→Option Int)):Prop:=∃g,M=some g∧∀k v,g k=some v→v=payN c.Tariffs k ⟨c.Day,k.Count.Lo⟩
theorem payOk0{c:Cse}:PayOk c (some fun _=>none):=⟨_,rfl,fun _ _ h=>by cases h⟩
theorem paidN_rng{c:Cse}(hc:CseOk c){f:Fld}(hf:FldOk c.Tariffs f){n:Int}(hn:0≤n∧n≤100):0≤paidN c f n∧paidN c f n≤100000:=
 pay_rng hc.tar ((claimU_iff hc.day hn).2 ⟨hf.crop,hf.val⟩) (t:=⟨c.Day,n⟩) ⟨⟨Int.le_refl _,Int.le_refl _⟩,Int.le_refl _,Int.le_refl _⟩
theorem claimU_fit{c:Cse}(hc:CseOk c){f:Fld}(hf:FldOk c.Tariffs f){n:Int}(hn:0≤n∧n≤100):MK.fit (claimU c f n):=by
 have h1:=hf.crop; have h2:=hf.val; have h3:=hc.day; have h4:=crops_rng hc.tar;exact⟨fI (n:=f.Crop) (by omega),fI (n:=f.Value) (by omega),fI (n:=c.Day) (by omega),fI (n:=c.Day) (by omega),fI (n:=n) (by omega),fI (n:=n) (by omega),trivial⟩
theorem uPayment_eq{c:Cse}(hc:CseOk c){M:Option (Clm→Option Int)}(hM:PayOk c M){f:Fld}(hf:FldOk c.Tariffs f){n:Int}(hn:0≤n∧n≤100):∃M',puPayment ⟨c,M⟩ f n=some (paidN c f n,M')∧PayOk c M':=by
 obtain⟨g,rfl,hg⟩:=hM;have hcl:=(claimU_iff (f:=f) hc.day hn).2 ⟨hf.crop,hf.val⟩;have hfit:=claimU_fit hc hf hn;unfold puPayment;rw[show pclaim (UWk.mk c (some g)).c f n=some (claimU c f n) from rfl,obs,gd_pos hfit]
 cases hk:g (claimU c f n) with
 | some v=>
  rw[mcase_some (show mget (UWk.mk c (some g)).payments (claimU c f n)=some v from hk)];refine⟨_,?_,g,rfl,hg⟩;rw[hg _ _ hk]; rfl
 | none=>
  rw[mcase_none (show mget (UWk.mk c (some g)).payments (claimU c f n)=none from hk)];have hp:pPay (UWk.mk c (some g)).c.Tariffs (claimU c f n) ⟨(UWk.mk c (some g)).c.Day,n⟩=some (paidN c f n,0):=Pay_ok hc.tar hcl (t:=⟨c.Day,n⟩) ⟨⟨Int.le_refl _,Int.le_refl _⟩,Int.le_refl _,Int.le_refl _⟩;rw[hp,obs,gd_pos hfit];refine⟨_,rfl,_,rfl,fun k v h=>?_⟩
  dsimp only at h
  split at h
  ·rename_i he; subst he; cases h; rfl
  ·exact hg k v h
def ocN(c:Cse)(f:Fld)(t:Thr):Oc:=⟨paidN c f (setN f t),losN f t⟩
theorem outcome_eq{c:Cse}(hc:CseOk c){M:Option (Clm→Option Int)}(hM:PayOk c M){f:Fld}(hf:FldOk c.Tariffs f){t:Thr}(ht:ThrOk f t):∃M',poutcome ⟨c,M⟩ f t=some (ocN c f t,M')∧PayOk c M':=by
 have hr:=ht.rng hf;obtain⟨M',h1,h2⟩:=uPayment_eq hc hM hf (setN_rng (f:=f) hr);refine⟨M',?_,h2⟩;unfold poutcome;rw[settled_eq hr,obs,h1,obs,loser_eq hr]; rfl
structure OcOk (o:Oc):Prop where
 p:0≤o.pence∧o.pence≤100000
 l:0≤o.loser∧o.loser < 4
theorem ocN_ok{c:Cse}(hc:CseOk c){f:Fld}(hf:FldOk c.Tariffs f){t:Thr}(ht:ThrOk f t):OcOk (ocN c f t):=⟨paidN_rng hc hf (setN_rng (ht.rng hf)),losN_rng⟩
theorem OcOk.fit{o:Oc}(h:OcOk o):MK.fit o:=⟨fI (by have:=h.p; omega),fI (by have:=h.l; omega),trivial⟩
def verAdd(v:Ver)(o:Oc):Ver:=⟨v.fee,v.pence+o.pence,⟨v.fields.f0+(if o.loser=0 then 1 else 0),v.fields.f1+(if o.loser=1 then 1 else 0),v.fields.f2+(if o.loser=2 then 1 else 0),v.fields.f3+(if o.loser=3 then 1 else 0)⟩⟩
structure VerOk (k:Int) (v:Ver):Prop where
 fee:0≤v.fee∧v.fee≤10000
 p:0≤v.pence∧v.pence≤100000 * k
 f0:0≤v.fields.f0∧v.fields.f0≤k
 f1:0≤v.fields.f1∧v.fields.f1≤k
 f2:0≤v.fields.f2∧v.fields.f2≤k
 f3:0≤v.fields.f3∧v.fields.f3≤k
theorem verAdd_ok{k:Int}{v:Ver}(h:VerOk k v){o:Oc}(ho:OcOk o):VerOk (k+1) (verAdd v o):=by
 have:=ho.p; have:=h.p; have:=h.f0; have:=h.f1; have:=h.f2; have:=h.f3;refine⟨h.fee,?_,?_,?_,?_,?_⟩
 ·show 0≤v.pence+o.pence∧v.pence+o.pence≤100000 * (k+1); omega
 all_goals (simp only[verAdd]; split <;> omega)
theorem vWith_eq{k:Int}(hk:k≤1000){v:Ver}(h:VerOk k v){o:Oc}(ho:OcOk o):pvWith v o=some (verAdd v o):=by
 have h1:=ho.p; have h2:=h.p; have h3:=h.f0; have h4:=h.f1; have h5:=h.f2; have h6:=h.f3; have h7:=ho.l;obtain⟨op,ol⟩:=o
 dsimp only at h1 h7
 have hcase:ol=0∨ol=1∨ol=2∨ol=3:=by omega
 unfold pvWith;rw[gd_pos (fI (by dsimp only; omega))]
 rcases hcase with rfl | rfl | rfl | rfl
 ·rw[idx_zero rfl,obs,gd_pos (fI (by omega)),gd_pos (by omega)]
  simp[sti,verAdd]
 ·rw[show idx [v.fields.f0,v.fields.f1,v.fields.f2,v.fields.f3] (1:Int)=some v.fields.f1 from rfl,obs,gd_pos (fI (by omega)),gd_pos (by omega)]
  simp[sti,verAdd]
 ·rw[show idx [v.fields.f0,v.fields.f1,v.fields.f2,v.fields.f3] (2:Int)=some v.fields.f2 from rfl,obs,gd_pos (fI (by omega)),gd_pos (by omega)]
  simp[sti,verAdd]
 ·rw[show idx [v.fields.f0,v.fields.f1,v.fields.f2,v.fields.f3] (3:Int)=some v.fields.f3 from rfl,obs,gd_pos (fI (by omega)),gd_pos (by omega)]
  simp[sti,verAdd]
def vcalN(v:Ver):Prop:=0 < v.fields.f1+v.fields.f2+v.fields.f3
instance (v:Ver):Decidable (vcalN v):=by unfold vcalN; infer_instance
def farmN(v:Ver):Int:=if vcalN v then (if v.fields.f2 < v.fields.f3 then 0 else if v.fields.f3 < v.fields.f2 then v.fee else v.fee - v.fee / 2) else 0
def socN(v:Ver):Int:=if vcalN v then v.fee - farmN v else 0
theorem vCalled_ev{k:Int}(hk:k≤1000){v:Ver}(h:VerOk k v):Ev (pvCalled v) (vcalN v):=by
 have h4:=h.f1; have h5:=h.f2; have h6:=h.f3;unfold pvCalled;rw[show idx [v.fields.f0,v.fields.f1,v.fields.f2,v.fields.f3] (1:Int)=some v.fields.f1 from rfl,obs,show idx [v.fields.f0,v.fields.f1,v.fields.f2,v.fields.f3] (2:Int)=some v.fields.f2 from rfl,obs,gd_pos (fI (by omega)),show idx [v.fields.f0,v.fields.f1,v.fields.f2,v.fields.f3] (3:Int)=some v.fields.f3 from rfl,obs,gd_pos (fI (by omega))];exact Ev.dec Iff.rfl
theorem vFarmer_eq{k:Int}(hk:k≤1000){v:Ver}(h:VerOk k v):pvFarmer v=some (farmN v):=by
 have hf:=h.fee;unfold pvFarmer farmN;rw[show idx [v.fields.f0,v.fields.f1,v.fields.f2,v.fields.f3] (2:Int)=some v.fields.f2 from rfl,obs,show idx [v.fields.f0,v.fields.f1,v.fields.f2,v.fields.f3] (3:Int)=some v.fields.f3 from rfl,obs]
 refine Ev.pick (vCalled_ev hk h) (fun hc=>?_) fun hc=>by rw[bif_neg rfl,if_neg hc]
 rw[if_pos rfl,if_pos hc]
 split
 ·rfl
 ·split
  ·rfl
  ·rw[gd_pos (by omega),gd_pos (by omega),gd_pos (fI (by omega)),gd_pos (fI (by omega))]
theorem farmN_rng{k:Int}{v:Ver}(h:VerOk k v):0≤farmN v∧farmN v≤v.fee:=by
 have:=h.fee;unfold farmN
 repeat' split
 all_goals omega
theorem vSociety_eq{k:Int}(hk:k≤1000){v:Ver}(h:VerOk k v):pvSociety v=some (socN v):=by
 have hf:=h.fee; have hr:=farmN_rng h;unfold pvSociety socN
 refine Ev.pick (vCalled_ev hk h) (fun hc=>?_) fun hc=>by rw[bif_neg rfl,if_neg hc]
 rw[if_pos rfl,if_pos hc,vFarmer_eq hk h,obs,gd_pos (fI (by omega))]
theorem socN_rng{k:Int}{v:Ver}(h:VerOk k v):0≤socN v∧socN v≤v.fee:=by
 have:=h.fee; have:=farmN_rng h;unfold socN
 split <;> omega
theorem vNet_eq{k:Int}(hk:k≤1000){v:Ver}(h:VerOk k v):pvNet v=some (v.pence - farmN v):=by
 have hf:=h.fee; have hr:=farmN_rng h; have:=h.p;unfold pvNet pvAward;rw[obs,vFarmer_eq hk h,obs,gd_pos (fI (by omega))]
theorem vCost_eq{k:Int}(hk:k≤1000){v:Ver}(h:VerOk k v):pvCost v=some (v.pence+socN v):=by
 have hf:=h.fee; have hr:=socN_rng h; have:=h.p;unfold pvCost pvAward;rw[obs,vSociety_eq hk h,obs,gd_pos (fI (by omega))]
def ThrsOk:List Fld→List Thr→Prop
 | [],[]=>True
 | f::fs,t::ts=>ThrOk f t∧ThrsOk fs ts
 | _,_=>False
theorem ThrsOk.len:∀{fs:List Fld} {ts:List Thr},ThrsOk fs ts→fs.length=ts.length
 | [],[],_=>rfl
 | _f::_fs,_t::_ts,h=>congrArg (· + 1) (ThrsOk.len h.2)
theorem fHas_ev{f:Fld}{t:Thr}:Ev (pfHas f t) (ThrOk f t):=
 (Ev.and uHas_ev fun _=>Ev.and uHas_ev fun _=>uHas_ev.ret).imp ⟨fun h=>⟨h.1,h.2.1,h.2.2⟩,fun h=>⟨h.a,h.b,h.u⟩⟩
theorem drop_at{α:Type}{l:List α}{k:Nat}(h:k < l.length):∃a,l[k]? = some a∧l.drop k=a::l.drop (k+1):=
 ⟨l[k],List.getElem?_eq_getElem h,List.drop_eq_getElem_cons h⟩
theorem hasTruth_go{c:Cse}{t:List Thr}(hl:c.Fields.length≤3)(he:t.length=c.Fields.length):∀(d k:Nat),k≤c.Fields.length→c.Fields.length - k < d→Ev (phasTruth_L0 c t d (k:Int)) (ThrsOk (c.Fields.drop k) (t.drop k))
 | 0,k,_,h=>by omega
 | d+1,k,hk,h=>by
  rw[phasTruth_L0]
  by_cases hkl:k < c.Fields.length
  ·obtain⟨f,h1,h2⟩:=drop_at hkl;obtain⟨x,h3,h4⟩:=drop_at (l:=t) (k:=k) (by omega);rw[if_pos (by omega),idx_at h1,obs,idx_at h3,obs,h2,h4]
   exact Ev.and fHas_ev fun _=>Ev.gd (fI (by omega)) (by
    rw[show(k:Int)+1=((k+1:Nat):Int) by omega]
    exact hasTruth_go hl he d (k+1) hkl (by omega))
  ·rw[if_neg (by omega),List.drop_eq_nil_of_le (by omega),List.drop_eq_nil_of_le (by omega)];exact Ev.tt trivial
theorem hasTruth_ev{c:Cse}(hl:c.Fields.length≤3){t:List Thr}:Ev (phasTruth c t) (ThrsOk c.Fields t):=by
 unfold phasTruth
 by_cases he:t.length=c.Fields.length
 ·rw[if_pos (by omega)];exact hasTruth_go hl he (c.Fields.length+1) 0 (by omega) (by omega)
 ·rw[if_neg (by omega)];exact Ev.ff fun h=>he h.len.symm
def verF(c:Cse):List Fld→List Thr→Ver→Ver
 | f::fs,t::ts,v=>verF c fs ts (verAdd v (ocN c f t))
 | _,_,v=>v
def setsN:List Fld→List Thr→List Int
 | f::fs,t::ts=>setN f t::setsN fs ts
 | _,_=>[]
def verN(c:Cse)(ts:List Thr):Ver:=verF c c.Fields ts ⟨c.Fee,0,⟨0,0,0,0⟩⟩
def resN(c:Cse)(ts:List Thr):Res:=⟨setsN c.Fields ts,(verN c ts).pence,farmN (verN c ts),socN (verN c ts)⟩
theorem ver0_ok{c:Cse}(hc:CseOk c):VerOk 0 ⟨c.Fee,0,⟨0,0,0,0⟩⟩:=⟨hc.fee,by dsimp only; omega,by dsimp only; omega,by dsimp only; omega,by dsimp only; omega,by dsimp only; omega⟩
theorem play_go{c:Cse}(hc:CseOk c){t:List Thr}(he:t.length=c.Fields.length):∀(d k:Nat) (M:Option (Clm→Option Int)) (l:List Int) (v:Ver),k≤c.Fields.length→c.Fields.length - k < d→l.length=k→ThrsOk (c.Fields.drop k) (t.drop k)→PayOk c M→VerOk (k:Int) v→∀M0,
  ∃M',pplay_L0 ⟨c,M0⟩ t d l 0 0 0 v.fee v.pence v.fields.f0 v.fields.f1 v.fields.f2 v.fields.f3 M (k:Int)=some (⟨l++setsN (c.Fields.drop k) (t.drop k),(verF c (c.Fields.drop k) (t.drop k) v).pence,farmN (verF c (c.Fields.drop k) (t.drop k) v),socN (verF c (c.Fields.drop k) (t.drop k) v)⟩,M')∧PayOk c M'
 | 0,k,_,_,_,_,h,_,_,_,_,_=>by omega
 | d+1,k,M,l,v,hk,h,hll,ht,hM,hv,M0=>by
  have hlen:=hc.len;rw[pplay_L0]
  dsimp only
  by_cases hkl:k < c.Fields.length
  ·obtain⟨f,h1,h2⟩:=drop_at hkl;obtain⟨x,h3,h4⟩:=drop_at (l:=t) (k:=k) (by omega);rw[h2,h4] at ht ⊢;have hf:=hc.fld f (List.mem_of_getElem? h1);obtain⟨M1,g1,g2⟩:=outcome_eq hc hM hf ht.1;rw[if_pos (by omega),idx_at h1,obs,idx_at h3,obs,settled_eq (ht.1.rng hf),obs,gd_pos (by omega),obs,g1,obs]
   dsimp only
   have hvw:=vWith_eq (k:=(k:Int)) (by omega) hv (ocN_ok hc hf ht.1);rw[show(⟨v.fee,v.pence,⟨v.fields.f0,v.fields.f1,v.fields.f2,v.fields.f3⟩⟩:Ver)=v from rfl,hvw,obs,gd_pos (fI (by omega)),show(k:Int)+1=((k+1:Nat):Int) by omega];have hok:=verAdd_ok hv (ocN_ok hc hf ht.1);obtain⟨M',q1,q2⟩:=play_go hc he d (k+1) M1 (l++[setN f x]) (verAdd v (ocN c f x)) hkl (by omega) (by simp; omega) ht.2 g2 (by rw[show((k+1:Nat):Int)=(k:Int)+1 by omega]; exact hok) M0;refine⟨M',?_,q2⟩;rw[q1]
   simp[setsN,verF]
  ·rw[if_neg (by omega),List.drop_eq_nil_of_le (by omega),List.drop_eq_nil_of_le (by omega)];refine⟨M,?_,hM⟩;rw[show(⟨v.fee,v.pence,⟨v.fields.f0,v.fields.f1,v.fields.f2,v.fields.f3⟩⟩:Ver)=v from rfl]
   simp only[pvAward,obs,vFarmer_eq (k:=(k:Int)) (by omega) hv,vSociety_eq (k:=(k:Int)) (by omega) hv,setsN,verF,List.append_nil]
theorem play_eq{c:Cse}(hc:CseOk c){M:Option (Clm→Option Int)}(hM:PayOk c M){t:List Thr}(ht:ThrsOk c.Fields t):∃M',pplay ⟨c,M⟩ t=some (resN c t,M')∧PayOk c M':=by
 obtain⟨M',h1,h2⟩:=play_go hc ht.len.symm (c.Fields.length+1) 0 M [] ⟨c.Fee,0,⟨0,0,0,0⟩⟩ (by omega) (by omega) rfl ht hM (ver0_ok hc) M;exact⟨M',h1,h2⟩
theorem uOpen_ok{c:Cse}(hc:CseOk c):puOpen c=some (⟨c,some fun _=>none⟩,0):=by unfold puOpen; rw[checkCase_eq,obs,ufaultN_zero.2 hc,if_pos rfl]
theorem Play_ok{c:Cse}(hc:CseOk c){t:List Thr}(ht:ThrsOk c.Fields t):pPlay c t=some (resN c t,0):=by
 obtain⟨M',h1,h2⟩:=play_eq hc payOk0 ht;unfold pPlay;rw[uOpen_ok hc,obs,if_pos rfl,(hasTruth_ev hc.len).some_of ht,obs,if_pos rfl,h1]; rfl
open Classical in
theorem outcomes_go{c:Cse}(hc:CseOk c){f:Fld}(hf:FldOk c.Tariffs f){M0:Option (Clm→Option Int)}:∀(l:List Thr) (M:Option (Clm→Option Int)) (g:Oc→Option Bool),PayOk c M→(∀t∈l,ThrOk f t) →
  ∃g' M',poutcomes_L0 ⟨c,M0⟩ f l M (some g)=some (some g',M')∧PayOk c M'∧∀o,g' o ≠ none↔g o ≠ none∨∃t∈l,ocN c f t=o
 | [],M,g,hM,_=>⟨g,M,rfl,hM,fun o=>⟨.inl,fun h=>h.elim id fun⟨t,ht,_⟩=>by cases ht⟩⟩
 | t::l,M,g,hM,hl=>by
  have ht:=hl t (List.mem_cons_self ..);obtain⟨M1,h1,h2⟩:=outcome_eq hc hM hf ht;obtain⟨g',M',q1,q2,q3⟩:=outcomes_go hc hf (M0:=M0) l M1 (fun j=>if j=ocN c f t then some true else g j) h2 fun u hu=>hl u (List.mem_cons_of_mem _ hu);refine⟨g',M',?_,q2,fun o=>?_⟩
  ·rw[poutcomes_L0]
   dsimp only
   rw[h1,obs,gd_pos (ocN_ok hc hf ht).fit]
   show(some _:Option (Option (Oc→Option Bool))).bind _=_
   rw[obs];exact q1
  ·rw[q3]
   constructor
   ·rintro (h | ⟨u,hu,rfl⟩)
    ·split at h
     ·rename_i he; exact .inr ⟨t,List.mem_cons_self ..,he.symm⟩
     ·exact .inl h
    ·exact .inr ⟨u,List.mem_cons_of_mem _ hu,rfl⟩
   ·rintro (h | ⟨u,hu,rfl⟩)
    ·left
     split
     ·simp
     ·exact h
    ·rcases List.mem_cons.1 hu with rfl | hu
     ·left; rw[if_pos rfl]; simp
     ·exact .inr ⟨u,hu,rfl⟩
theorem outcomes_eq{c:Cse}(hc:CseOk c){M:Option (Clm→Option Int)}(hM:PayOk c M){f:Fld}(hf:FldOk c.Tariffs f):∃g M',poutcomes ⟨c,M⟩ f=some (some g,M')∧PayOk c M'∧∀o,g o ≠ none↔∃t,ThrOk f t∧ocN c f t=o:=by
 obtain⟨g,M',h1,h2,h3⟩:=outcomes_go hc hf (M0:=M) (threesN f) M (fun _=>none) hM fun t ht=>(mem_threesN hf).1 ht;refine⟨g,M',?_,h2,fun o=>?_⟩
 ·unfold poutcomes;rw[threes_eq hf,obs];exact h1
 ·rw[h3]
  constructor
  ·rintro (h | ⟨t,ht,he⟩)
   ·exact absurd rfl h
   ·exact⟨t,(mem_threesN hf).1 ht,he⟩
  ·rintro⟨t,ht,he⟩
   exact .inr ⟨t,(mem_threesN hf).2 ht,he⟩
theorem keysList{c:Cse}(hc:CseOk c){f:Fld}(hf:FldOk c.Tariffs f):∃L:List KOc,(∀a:KOc,a∈L↔∃t,ThrOk f t∧ocN c f t=a.1)∧L.length≤125:=by
 have hfit:∀t,ThrOk f t→MK.fit (ocN c f t):=fun t ht=>(ocN_ok hc hf ht).fit
 have key:∀l:List Thr,(∀t∈l,ThrOk f t)→∃L:List KOc,(∀a:KOc,a∈L↔∃t∈l,ocN c f t=a.1)∧L.length=l.length:=by
  intro l
  induction l with
  | nil=>exact fun _=>⟨[],fun a=>⟨fun h=>(by cases h),fun⟨_,h,_⟩=>(by cases h)⟩,rfl⟩
  | cons t l ih=>
   intro hl;obtain⟨L,h1,h2⟩:=ih fun u hu=>hl u (List.mem_cons_of_mem _ hu);refine⟨⟨ocN c f t,hfit t (hl t (List.mem_cons_self ..))⟩ :: L,fun a=>?_,by simp[h2]⟩;rw[List.mem_cons,h1]
   constructor
   ·rintro (rfl | ⟨u,hu,he⟩)
    ·exact⟨t,List.mem_cons_self ..,rfl⟩
    ·exact⟨u,List.mem_cons_of_mem _ hu,he⟩
   ·rintro⟨u,hu,he⟩
    rcases List.mem_cons.1 hu with rfl | hu
    ·exact .inl (Subtype.ext he.symm)
    ·exact .inr ⟨u,hu,he⟩
 obtain⟨L,h1,h2⟩:=key (threesN f) fun t ht=>(mem_threesN hf).1 ht;refine⟨L,fun a=>(h1 a).trans ⟨fun⟨t,ht,he⟩=>⟨t,(mem_threesN hf).1 ht,he⟩,fun⟨t,ht,he⟩=>⟨t,(mem_threesN hf).2 ht,he⟩⟩,by rw[h2]; exact(threesN_len hf).2⟩
open Classical in
theorem dedup_ex{α:Type}:∀l:List α,∃l':List α,l'.Nodup∧(∀a,a∈l'↔a∈l)∧l'.length≤l.length
 | []=>⟨[],List.nodup_nil,fun _=>Iff.rfl,Nat.le_refl _⟩
 | a::l=>by
  obtain⟨l',h1,h2,h3⟩:=dedup_ex l
  by_cases ha:a∈l'
  ·refine⟨l',h1,fun b=>?_,by simp; omega⟩;rw[List.mem_cons,h2];exact⟨.inr,fun h=>h.elim (fun h=>h ▸ (h2 a).1 ha) id⟩
  ·refine⟨a::l',List.nodup_cons.2 ⟨ha,h1⟩,fun b=>?_,by simp; omega⟩;rw[List.mem_cons,List.mem_cons,h2]
theorem keys_of{c:Cse}(hc:CseOk c){f:Fld}(hf:FldOk c.Tariffs f){g:Oc→Option Bool}(hg:∀o,g o ≠ none↔∃t,ThrOk f t∧ocN c f t=o) :
  (∀o,o∈keysF g↔∃t,ThrOk f t∧ocN c f t=o)∧(keysF g).length≤125:=by
 obtain⟨L0,l1,l2⟩:=keysList hc hf;obtain⟨L,n1,n2,n3⟩:=dedup_ex L0
 have hL:∀a:KOc,a∈L↔fOc g a ≠ none:=fun a=>by
  have e1:fOc g a ≠ none↔g a.1 ≠ none:=by
   show(g a.1).map MV.enc ≠ none↔_
   cases g a.1 <;> simp
  rw[e1,hg,n2,l1]
 have hex:KeysL (encK Oc) (fOc g) L:=⟨n1,hL⟩;have hk:=keysK_spec hex;have hp:=KeysL.perm hk hex
 constructor
 ·intro o;unfold keysF;rw[List.mem_map]
  constructor
  ·rintro⟨a,ha,rfl⟩
   exact(l1 a).1 ((n2 a).1 (hp.subset ha))
  ·rintro⟨t,ht,he⟩
   subst he;exact⟨⟨ocN c f t,(ocN_ok hc hf ht).fit⟩,hp.symm.subset ((n2 _).2 ((l1 _).2 ⟨t,ht,rfl⟩)),rfl⟩
 ·unfold keysF;rw[List.length_map,hp.length_eq]
  omega
inductive AllG (c:Cse):List Fld→List (Oc→Option Bool)→Prop where
 | nil:AllG c [] []
 | cons {f:Fld} {fs:List Fld} {g:Oc→Option Bool} {gs:List (Oc→Option Bool)}:(∀o,o∈keysF g↔∃t,ThrOk f t∧ocN c f t=o)→(keysF g).length≤125→AllG c fs gs→AllG c (f::fs) (g::gs)
theorem allO_eq{c:Cse}(hc:CseOk c){M0:Option (Clm→Option Int)}:∀(fs:List Fld) (M:Option (Clm→Option Int)),PayOk c M→(∀f∈fs,FldOk c.Tariffs f)→∃gs M',pallO ⟨c,M0⟩ fs M=some (gs,M')∧PayOk c M'∧AllG c fs gs
 | [],M,hM,_=>⟨[],M,rfl,hM,.nil⟩
 | f::fs,M,hM,hf=>by
  obtain⟨g,M1,h1,h2,h3⟩:=outcomes_eq hc hM (hf f (List.mem_cons_self ..));obtain⟨gs,M',q1,q2,q3⟩:=allO_eq hc (M0:=M0) fs M1 h2 fun x hx=>hf x (List.mem_cons_of_mem _ hx);have hk:=keys_of hc (hf f (List.mem_cons_self ..)) h3;refine⟨g::gs,M',?_,q2,.cons hk.1 hk.2 q3⟩;rw[pallO]
  dsimp only
  rw[h1,obs,obs,q1]; rfl
theorem verC_eq{c:Cse}(hc:CseOk c){fs:List Fld}{G:Ver→Option (List Ver)}{v:Ver}{k:Int}(hk:k≤100)(hv:VerOk k v){f:Fld}(hf:FldOk c.Tariffs f){N:Nat}
  (hG:∀v',VerOk (k+1) v'→∃vs,G v'=some vs∧(∀u,u∈vs↔∃ts,ThrsOk fs ts∧verF c fs ts v'=u)∧vs.length≤N) :
  ∀L:List Oc,(∀o∈L,∃t,ThrOk f t∧ocN c f t=o)→∃vs,pverC G v L=some vs∧(∀u,u∈vs↔∃o∈L,∃ts,ThrsOk fs ts∧verF c fs ts (verAdd v o)=u)∧vs.length≤L.length * N
 | [],_=>⟨[],rfl,fun u=>⟨fun h=>(by cases h),fun⟨o,ho,_⟩=>(by cases ho)⟩,by simp⟩
 | o::L,hL=>by
  obtain⟨t,ht,he⟩:=hL o (List.mem_cons_self ..);have ho:OcOk o:=he ▸ ocN_ok hc hf ht;obtain⟨a,a1,a2,a3⟩:=hG _ (verAdd_ok hv ho);obtain⟨b,b1,b2,b3⟩:=verC_eq hc hk hv hf hG L fun x hx=>hL x (List.mem_cons_of_mem _ hx);refine⟨a++b,?_,fun u=>?_,?_⟩
  ·rw[pverC,vWith_eq (by omega) hv ho,obs,a1,obs,b1]; rfl
  ·rw[List.mem_append,a2,b2]
   constructor
   ·rintro (⟨ts,h1,h2⟩ | ⟨x,hx,h⟩)
    ·exact⟨o,List.mem_cons_self ..,ts,h1,h2⟩
    ·exact⟨x,List.mem_cons_of_mem _ hx,h⟩
   ·rintro⟨x,hx,h⟩
    rcases List.mem_cons.1 hx with rfl | hx
    ·exact .inl h
    ·exact .inr ⟨x,hx,h⟩
  ·rw[List.length_append,List.length_cons,Nat.add_mul]; omega
theorem verL_eq{c:Cse}(hc:CseOk c):∀{fs:List Fld} {gs:List (Oc→Option Bool)},AllG c fs gs→(∀f∈fs,FldOk c.Tariffs f)→∀{k:Int} {v:Ver},k+fs.length≤100→VerOk k v →
  ∃vs,pverL (gs.map keysF) v=some vs∧(∀u,u∈vs↔∃ts,ThrsOk fs ts∧verF c fs ts v=u)∧vs.length≤125 ^ fs.length
 | _,_,.nil,_,k,v,_,hv=>⟨[v],rfl,fun u=>⟨fun h=>⟨[],trivial,(List.mem_singleton.1 h).symm⟩,fun ⟨ts,h1,h2⟩=>by
   cases ts with
   | nil=>exact List.mem_singleton.2 h2.symm
   | cons t ts=>exact h1.elim⟩,by simp⟩
 | _,_,.cons (f:=f) (fs:=fs) (g:=g) (gs:=gs) h1 h2 h3,hf,k,v,hk,hv=>by
  simp only[List.length_cons] at hk
  have hG:∀v',VerOk (k+1) v'→_:=fun v' hv'=>verL_eq hc h3 (fun x hx=>hf x (List.mem_cons_of_mem _ hx)) (k:=k+1) (v:=v') (by omega) hv';obtain⟨vs,q1,q2,q3⟩:=verC_eq hc (by omega) hv (hf f (List.mem_cons_self ..)) hG (keysF g) fun o ho=>(h1 o).1 ho;refine⟨vs,q1,fun u=>?_,?_⟩
  ·rw[q2]
   constructor
   ·rintro⟨o,ho,ts,h4,h5⟩
    obtain⟨t,ht,rfl⟩:=(h1 o).1 ho;exact⟨t::ts,⟨ht,h4⟩,h5⟩
   ·rintro⟨ts,h4,h5⟩
    cases ts with
    | nil=>exact h4.elim
    | cons t ts=>exact⟨ocN c f t,(h1 _).2 ⟨t,h4.1,rfl⟩,ts,h4.2,h5⟩
  ·rw[List.length_cons,Nat.pow_succ,Nat.mul_comm];exact Nat.le_trans q3 (Nat.mul_le_mul_right _ h2)
theorem thrs_ex{l:List Tf}:∀{fs:List Fld},(∀f∈fs,FldOk l f)→∃ts,ThrsOk fs ts
 | [],_=>⟨[],trivial⟩
 | f::fs,h=>by
  obtain⟨ts,hts⟩:=thrs_ex (fs:=fs) fun x hx=>h x (List.mem_cons_of_mem _ hx);have hf:=h f (List.mem_cons_self ..);exact⟨⟨f.First.Lo,f.Second.Lo,f.Umpire.Lo⟩ :: ts,⟨⟨Int.le_refl _,hf.fst.le⟩,⟨Int.le_refl _,hf.snd.le⟩,⟨Int.le_refl _,hf.ump.le⟩⟩,hts⟩
theorem verF_ok{c:Cse}(hc:CseOk c):∀{fs:List Fld} {ts:List Thr},(∀f∈fs,FldOk c.Tariffs f)→ThrsOk fs ts→∀{k:Int} {v:Ver},VerOk k v→VerOk (k+fs.length) (verF c fs ts v)
 | [],[],_,_,k,v,hv=>by simpa [verF] using hv
 | f::fs,t::ts,hf,ht,k,v,hv=>by
  have:=verF_ok hc (fun x hx=>hf x (List.mem_cons_of_mem _ hx)) ht.2 (verAdd_ok hv (ocN_ok hc (hf f (List.mem_cons_self ..)) ht.1));rw[List.length_cons,show k+((fs.length+1:Nat):Int)=k+1+fs.length by omega];exact this
 | [],_::_,_,ht,_,_,_=>ht.elim
 | _::_,[],_,ht,_,_,_=>ht.elim
theorem verN_ok{c:Cse}(hc:CseOk c){ts:List Thr}(ht:ThrsOk c.Fields ts):VerOk 3 (verN c ts):=by
 have h:=verF_ok hc hc.fld ht (ver0_ok hc);have:=hc.len;exact⟨h.fee,by have:=h.p; unfold verN; omega,by have:=h.f0; unfold verN; omega,by have:=h.f1; unfold verN; omega,by have:=h.f2; unfold verN; omega,by have:=h.f3; unfold verN; omega⟩
structure Ends (c:Cse) (q:Ver→Int) (r:Rg):Prop where
 all:∀ts,ThrsOk c.Fields ts→r.Lo≤q (verN c ts)∧q (verN c ts)≤r.Hi
 lo:∃ts,ThrsOk c.Fields ts∧q (verN c ts)=r.Lo
 hi:∃ts,ThrsOk c.Fields ts∧q (verN c ts)=r.Hi
theorem pask_map{q:Ver→Option Int}{qN:Ver→Int}:∀{vs:List Ver},(∀v∈vs,q v=some (qN v))→pask q vs=some (vs.map qN)
 | [],_=>rfl
 | v::vs,h=>by
  rw[pask,h v (List.mem_cons_self ..),obs,pask_map fun u hu=>h u (List.mem_cons_of_mem _ hu)]; rfl
theorem bounds_ok{c:Cse}(hc:CseOk c){M:Option (Clm→Option Int)}(hM:PayOk c M){q:Ver→Option Int}{qN:Ver→Int}(hq:∀v,VerOk 3 v→q v=some (qN v)):∃r M',pboundsU ⟨c,M⟩ ⟨q⟩=some (r,M')∧PayOk c M'∧Ends c qN r:=by
 have hl:=hc.len;obtain⟨gs,M',h1,h2,h3⟩:=allO_eq hc (M0:=M) c.Fields M hM hc.fld;obtain⟨vs,q1,q2,q3⟩:=verL_eq hc h3 hc.fld (k:=0) (v:=ver0 c.Fee) (by omega) (ver0_ok hc);have hm:∀u,u∈vs↔∃ts,ThrsOk c.Fields ts∧verN c ts=u:=q2
 have hne:vs ≠ []:=by
  obtain⟨ts,hts⟩:=thrs_ex hc.fld;exact List.ne_nil_of_mem ((hm _).2 ⟨ts,hts,rfl⟩)
 have hlen:vs.length≤125 ^ 3:=Nat.le_trans q3 (Nat.pow_le_pow_right (by omega) hl);have hlen:vs.length≤1953125:=hlen
 have hx:pask q vs=some (vs.map qN):=pask_map fun v hv=>by
  obtain⟨ts,hts,rfl⟩:=(hm v).1 hv;exact hq _ (verN_ok hc hts)
 have hn2:vs.map qN ≠ []:=fun h=>hne (List.map_eq_nil_iff.1 h);refine⟨⟨minL (vs.map qN),maxL (vs.map qN)⟩,M',?_,h2,?_,?_,?_⟩
 ·unfold pboundsU
  dsimp only
  rw[h1,obs,gd_pos (by omega)]
  dsimp only
  rw[q1,obs,gd_pos ⟨by omega,hne⟩,hx]; rfl
 ·intro ts hts;have hmem:qN (verN c ts)∈vs.map qN:=List.mem_map.2 ⟨_,(hm _).2 ⟨ts,hts,rfl⟩,rfl⟩;exact⟨(minL_mem hn2).2 _ hmem,(maxL_mem hn2).2 _ hmem⟩
 ·obtain⟨v,hv,he⟩:=List.mem_map.1 (minL_mem hn2).1;obtain⟨ts,hts,rfl⟩:=(hm v).1 hv;exact⟨ts,hts,he⟩
 ·obtain⟨v,hv,he⟩:=List.mem_map.1 (maxL_mem hn2).1;obtain⟨ts,hts,rfl⟩:=(hm v).1 hv;exact⟨ts,hts,he⟩
end
end Go.Proofs.YteojndcmgpiklaaGreat

namespace Go.Proofs.YteojndcmgpiklaaGreat
open _root_.Go.Proofs.Tryz
open Go.Abs
set_option maxRecDepth 100000
noncomputable section
theorem Award_ok{c:Cse}(hc:CseOk c):∃r,pAward c=some (r,0)∧Ends c (·.pence) r:=by
 obtain⟨r,M,h1,h2,h3⟩:=bounds_ok hc payOk0 (q:=fun v=>pvAward v) (qN:=(·.pence)) fun v _=>rfl;refine⟨r,?_,h3⟩;unfold pAward;rw[uOpen_ok hc,obs,if_pos rfl,h1]; rfl
theorem Fees_ok{c:Cse}(hc:CseOk c):∃r s,pFees c=some (r,s,0)∧Ends c farmN r∧Ends c socN s:=by
 obtain⟨r,M,h1,h2,h3⟩:=bounds_ok hc payOk0 (q:=fun v=>pvFarmer v) (qN:=farmN) fun v hv=>vFarmer_eq (by omega) hv;obtain⟨s,M',g1,g2,g3⟩:=bounds_ok hc h2 (q:=fun v=>pvSociety v) (qN:=socN) fun v hv=>vSociety_eq (by omega) hv;refine⟨r,s,?_,h3,g3⟩;unfold pFees;rw[uOpen_ok hc,obs,if_pos rfl,h1,obs]
 show(pboundsU ⟨c,M⟩ _).bind _=_
 rw[g1]; rfl
def netN(v:Ver):Int:=v.pence - farmN v
def costN(v:Ver):Int:=v.pence+socN v
theorem Offers_ok{c:Cse}(hc:CseOk c):∃r s:Rg,pOffers c=some (⟨r.Lo,s.Hi⟩,0)∧Ends c netN r∧Ends c costN s:=by
 obtain⟨r,M,h1,h2,h3⟩:=bounds_ok hc payOk0 (q:=fun v=>pvNet v) (qN:=netN) fun v hv=>vNet_eq (by omega) hv;obtain⟨s,M',g1,g2,g3⟩:=bounds_ok hc h2 (q:=fun v=>pvCost v) (qN:=costN) fun v hv=>vCost_eq (by omega) hv;refine⟨r,s,?_,h3,g3⟩;unfold pOffers;rw[uOpen_ok hc,obs,if_pos rfl,h1,obs]
 show(pboundsU ⟨c,M⟩ _).bind _=_
 rw[g1]; rfl
def FL(S:Nat→Bool):List Bool:=(List.range 101).map S
theorem FL_len{S:Nat→Bool}:(FL S).length=101:=by simp[FL]
theorem FL_get{S:Nat→Bool}{k:Nat}(h:k < 101):(FL S)[k]? = some (S k):=by simp[FL,h]
theorem FL_ext{S:Nat→Bool}{l:List Bool}(hl:l.length=101)(h:∀k,k < 101→l[k]? = some (S k)):l=FL S:=by
 apply List.ext_getElem?
 intro k
 by_cases hk:k < 101
 ·rw[h k hk,FL_get hk]
 ·rw[List.getElem?_eq_none (by omega),List.getElem?_eq_none (by rw[FL_len]; omega)]
theorem FL_set{S:Nat→Bool}{i:Nat}{b:Bool}(_hi:i < 101):(FL S).set i b=FL (fun j=>if j=i then b else S j):=by
 refine FL_ext (by rw[List.length_set,FL_len]) fun k hk=>?_;rw[List.getElem?_set]
 by_cases he:i=k
 ·subst he; rw[if_pos rfl,if_pos (by rw[FL_len]; omega),if_pos rfl]
 ·rw[if_neg he,FL_get hk,if_neg (by omega)]
def listF(S:Nat→Bool):List Int:=((List.range 101).filter S).map fun k:Nat=>(k:Int)
theorem filter_le{S:Nat→Bool}{k:Nat}:(((List.range 101).take k).filter S).length≤101:=by
 refine Nat.le_trans (List.length_filter_le ..) ?_;rw[List.length_take]; simp; omega
theorem filt_step{S:Nat→Bool}{k:Nat}(h:k < 101):((List.range 101).take (k+1)).filter S=((List.range 101).take k).filter S++(if S k=true then [k] else []):=by
 rw[List.take_add_one,List.filter_append]
 simp[h]
 split <;> simp_all
theorem cList_go{S:Nat→Bool}:∀(d k:Nat),k≤101→101 - k < d→pcList_L0 (FL S) d ((((List.range 101).take k).filter S).map fun k:Nat=>(k:Int)) (k:Int)=some (listF S)
 | 0,k,_,h=>by omega
 | d+1,k,hk,h=>by
  rw[pcList_L0]
  by_cases hkl:k < 101
  ·rw[if_pos (by omega),gd_pos (by omega),idx_at (FL_get hkl),obs];have:=cList_go (S:=S) d (k+1) hkl (by omega);rw[filt_step hkl] at this
   split
   ·rename_i hs
    rw[gd_pos (by rw[List.length_map]; exact Nat.lt_of_le_of_lt filter_le (by omega)),gd_pos (fI (by omega)),show(k:Int)+1=((k+1:Nat):Int) by omega];rw[if_pos hs,List.map_append] at this;exact this
   ·rename_i hs
    rw[gd_pos (fI (by omega)),show(k:Int)+1=((k+1:Nat):Int) by omega];rw[if_neg hs,List.append_nil] at this;exact this
  ·rw[if_neg (by omega)]
   have:k=101:=by omega
   subst this;rw[List.take_of_length_le (by simp)]; rfl
theorem cList_eq{S:Nat→Bool}:pcList (FL S)=some (listF S):=by
 exact cList_go (S:=S) 102 0 (by omega) (by omega)
theorem mem_listF{S:Nat→Bool}{n:Int}:n∈listF S↔∃k:Nat,n=k∧k < 101∧S k=true:=by
 unfold listF
 simp only[List.mem_map,List.mem_filter,List.mem_range]
 exact⟨fun⟨k,h,he⟩=>⟨k,he.symm,h⟩,fun⟨k,he,h⟩=>⟨k,h,he.symm⟩⟩
def cntS(l:List Thr)(f:Fld)(k:Nat):Bool:=l.any fun t=>decide (setN f t=(k:Int))
theorem fCounts_go{f:Fld}:∀(l:List Thr) (S:Nat→Bool),(∀t∈l,Rng3 t)→pfCounts_L0 f l (FL S)=some (FL fun k=>cntS l f k || S k)
 | [],S,_=>rfl
 | t::l,S,h=>by
  have ht:=h t (List.mem_cons_self ..);have hr:=setN_rng (f:=f) ht;rw[pfCounts_L0,settled_eq ht,obs,gd_pos (by omega),gd_pos FL_len,FL_set (by omega),fCounts_go l _ fun u hu=>h u (List.mem_cons_of_mem _ hu)]
  congr 2
  funext k
  unfold cntS;rw[List.any_cons]
  by_cases he:k=(setN f t).toNat
  ·rw[if_pos he,show decide (setN f t=(k:Int))=true from decide_eq_true (by omega)]; simp
  ·rw[if_neg he,show decide (setN f t=(k:Int))=false from decide_eq_false (by omega)]; simp
theorem FL0:List.replicate 101 false=FL (fun _=>false):=by decide
def cntsS(f:Fld)(k:Nat):Bool:=cntS (threesN f) f k
def countsN(f:Fld):List Int:=listF (cntsS f)
theorem three_rng{l:List Tf}{f:Fld}(hf:FldOk l f):∀t∈threesN f,Rng3 t:=fun _t ht=>((mem_threesN hf).1 ht).rng hf
theorem fCounts_eq{l:List Tf}{f:Fld}(hf:FldOk l f):pfCounts f=some (FL (cntsS f)):=by
 unfold pfCounts;rw[threes_eq hf,obs,FL0,fCounts_go _ _ (three_rng hf)]
 simp only[Bool.or_false]; rfl
theorem hasField_ev{c:Cse}(hl:c.Fields.length≤6){n:Int}:Ev (phasField c n) (0≤n∧n < c.Fields.length):=Ev.gd (fI (by omega)) (uHas_ev.ret.imp (by dsimp only; omega))
theorem openField_ok{c:Cse}(hc:CseOk c){k:Nat}{f:Fld}(hk:c.Fields[k]? = some f):popenField c (k:Int)=some (f,0):=by
 have hkl:=(List.getElem?_eq_some_iff.1 hk).1;have:=hc.len;unfold popenField;rw[checkCase_eq,obs,if_pos (ufaultN_zero.2 hc),(hasField_ev (by omega)).some_of (by omega),obs,if_pos rfl,idx_at hk]; rfl
theorem Counts_ok{c:Cse}(hc:CseOk c){k:Nat}{f:Fld}(hk:c.Fields[k]? = some f):pCounts c (k:Int)=some (countsN f,0):=by
 unfold pCounts;rw[openField_ok hc hk,obs,if_pos rfl,fCounts_eq (hc.fld f (List.mem_of_getElem? hk)),obs,cList_eq]; rfl
def callsN(f:Fld):Int:=if (threesN f).all (fun t=>decide (calN f t))=true then 1 else if (threesN f).any (fun t=>decide (calN f t))=true then 3 else 2
theorem calls_go{f:Fld}:∀(l:List Thr) (a b:Bool),(∀t∈l,Rng3 t)→pcalls_L0 f l a b=some (if (b || !(l.all fun t=>decide (calN f t)))=true then (if (a || l.any fun t=>decide (calN f t))=true then 3 else 2) else 1)
 | [],a,b,_=>by cases a <;> cases b <;> rfl
 | t::l,a,b,h=>by
  have ih:=fun a b=>calls_go (f:=f) l a b fun u hu=>h u (List.mem_cons_of_mem _ hu);rw[pcalls_L0,(called_ev (h t (List.mem_cons_self ..))).eqd,obs]
  cases a <;> cases b <;> simp only[ih,List.all_cons,List.any_cons] <;> by_cases hc:calN f t <;> simp[hc]
theorem calls_eq{l:List Tf}{f:Fld}(hf:FldOk l f):pcalls f=some (callsN f):=by
 unfold pcalls callsN;rw[threes_eq hf,obs,calls_go _ _ _ (three_rng hf)]
 simp only[Bool.false_or]
 cases (threesN f).all fun t=>decide (calN f t) <;> simp
theorem Called_ok{c:Cse}(hc:CseOk c){k:Nat}{f:Fld}(hk:c.Fields[k]? = some f):pCalled c (k:Int)=some (callsN f,0):=by
 unfold pCalled;rw[openField_ok hc hk,obs,if_pos rfl,calls_eq (hc.fld f (List.mem_of_getElem? hk))]; rfl
def oneF(f:Fld)(t:Thr):Fld:=⟨f.Crop,f.Value,f.Near,⟨t.First,t.First⟩,⟨t.Second,t.Second⟩,f.Umpire⟩
theorem oneF_ok{l:List Tf}{f:Fld}(hf:FldOk l f){t:Thr}(ht:ThrOk f t):FldOk l (oneF f t):=by
 have hr:=ht.rng hf;have h1:=hr.a; have h2:=hr.b;exact⟨hf.crop,hf.val,hf.near,⟨h1.1,Int.le_refl _,h1.2,by show t.First - t.First≤4; omega⟩,⟨h2.1,Int.le_refl _,h2.2,by show t.Second - t.Second≤4; omega⟩,hf.ump⟩
theorem paying_go{c:Cse}(hc:CseOk c){f:Fld}(hf:FldOk c.Tariffs f){p:Int}{l:List Int}(hl:∀n∈l,0≤n∧n≤100)(hlen:l.length≤1000){M0:Option (Clm→Option Int)}:∀(d k:Nat) (S:Nat→Bool) (M:Option (Clm→Option Int)),k≤l.length→l.length - k < d→PayOk c M →
  ∃M',ppaying_L0 ⟨c,M0⟩ f p l d (FL S) M (k:Int)=some (FL (fun j=>if (j:Int)∈l.drop k then decide (paidN c f j=p) else S j),M')∧PayOk c M'
 | 0,k,_,_,_,h,_=>by omega
 | d+1,k,S,M,hk,h,hM=>by
  rw[ppaying_L0]
  by_cases hkl:k < l.length
  ·obtain⟨n,h1,h2⟩:=drop_at hkl;have hn:=hl n (List.mem_of_getElem? h1);obtain⟨M1,g1,g2⟩:=uPayment_eq hc hM hf hn;rw[if_pos (by omega),idx_at h1,obs]
   dsimp only
   rw[g1,obs,gd_pos (by omega),gd_pos FL_len,gd_pos (fI (by omega)),FL_set (by omega),show(k:Int)+1=((k+1:Nat):Int) by omega];obtain⟨M',q1,q2⟩:=paying_go hc hf hl hlen (M0:=M0) d (k+1) _ M1 hkl (by omega) g2;refine⟨M',?_,q2⟩;rw[q1]
   congr 3
   funext j
   rw[h2]
   by_cases hj:(j:Int)∈l.drop (k+1)
   ·rw[if_pos hj,if_pos (List.mem_cons_of_mem _ hj)]
   ·rw[if_neg hj]
    by_cases he:j=n.toNat
    ·rw[if_pos he,if_pos (by rw[show(j:Int)=n by omega]; exact List.mem_cons_self ..),show(j:Int)=n by omega]
    ·rw[if_neg he,if_neg fun hm=>(List.mem_cons.1 hm).elim (fun h=>he (by omega)) hj]
  ·rw[if_neg (by omega),List.drop_eq_nil_of_le (by omega)];exact⟨M,by simp,hM⟩
def matterN(c:Cse)(f:Fld)(t:Thr):Prop:=∃n∈countsN (oneF f t),paidN c f n ≠ paidN c f (setN f t)
instance (c:Cse) (f:Fld) (t:Thr):Decidable (matterN c f t):=by unfold matterN; infer_instance
theorem listF_len{S:Nat→Bool}:(listF S).length≤101:=by
 unfold listF;rw[List.length_map];refine Nat.le_trans (List.length_filter_le ..) ?_
 simp
theorem FL_inj{S T:Nat→Bool}:FL S=FL T↔∀k,k < 101→S k=T k:=by
 constructor
 ·intro h k hk;have h1:=FL_get (S:=S) hk;rw[h,FL_get hk] at h1;exact(oi h1).symm
 ·intro h
  exact FL_ext FL_len fun k hk=>by rw[FL_get hk,h k hk]
theorem matter_eq{c:Cse}(hc:CseOk c){M:Option (Clm→Option Int)}(hM:PayOk c M){f:Fld}(hf:FldOk c.Tariffs f){t:Thr}(ht:ThrOk f t):∃M',pmatter ⟨c,M⟩ f t=some (decide (matterN c f t),M')∧PayOk c M':=by
 have hr:=ht.rng hf;obtain⟨M1,g1,g2⟩:=uPayment_eq hc hM hf (setN_rng (f:=f) hr);have ho:=oneF_ok hf ht
 have hl:∀n∈listF (cntsS (oneF f t)),0≤n∧n≤100:=fun n hn=>by
  obtain⟨k,rfl,hk,_⟩:=mem_listF.1 hn
  omega
 have hlen:=listF_len (S:=cntsS (oneF f t));obtain⟨M',q1,q2⟩:=paying_go hc ho (p:=paidN c f (setN f t)) hl (by omega) (M0:=M1) ((listF (cntsS (oneF f t))).length+1) 0 (cntsS (oneF f t)) M1 (by omega) (by omega) g2;refine⟨M',?_,q2⟩;unfold pmatter;rw[settled_eq hr,obs,g1,obs]
 show(pfCounts (oneF f t)).bind _=_
 rw[fCounts_eq ho,obs]
 have e:ppaying ⟨c,M1⟩ (oneF f t) (FL (cntsS (oneF f t))) (paidN c f (setN f t))=some (FL (fun j=>if (j:Int)∈(listF (cntsS (oneF f t))).drop 0 then decide (paidN c (oneF f t) j=paidN c f (setN f t)) else cntsS (oneF f t) j),M'):=by
  unfold ppaying;rw[cList_eq,obs];exact q1
 show(ppaying ⟨c,M1⟩ (oneF f t) (FL (cntsS (oneF f t))) (paidN c f (setN f t))).bind _=_
 rw[e,obs,gd_pos ⟨FL_len,FL_len⟩]
 congr 2
 have key:(FL (fun j=>if (j:Int)∈(listF (cntsS (oneF f t))).drop 0 then decide (paidN c (oneF f t) j=paidN c f (setN f t)) else cntsS (oneF f t) j)=FL (cntsS (oneF f t)))↔¬ matterN c f t:=by
  rw[FL_inj];unfold matterN countsN;rw[List.drop_zero]
  constructor
  ·rintro h ⟨n,hn,hne⟩
   obtain⟨k,rfl,hk,hs⟩:=mem_listF.1 hn;have:=h k hk;rw[if_pos hn,hs] at this;exact hne (of_decide_eq_true this)
  ·intro h k hk
   by_cases hm:(k:Int)∈listF (cntsS (oneF f t))
   ·rw[if_pos hm];obtain⟨k',he,_,hs⟩:=mem_listF.1 hm;rw[show k=k' by omega,hs,← show k=k' by omega];exact decide_eq_true (Classical.byContradiction fun hn=>h ⟨_,hm,hn⟩)
   ·rw[if_neg hm]
 by_cases hm:matterN c f t
 ·rw[decide_eq_true hm,decide_eq_false fun h=>(key.1 h) hm]; rfl
 ·rw[decide_eq_false hm,decide_eq_true (key.2 hm)]; rfl
def fmatN(c:Cse)(f:Fld):Bool:=(threesN f).any fun t=>decide (matterN c f t)
def mattersN(c:Cse):List Fld→Nat→List Int
 | [],_=>[]
 | f::fs,k=>if fmatN c f=true then (k:Int)::mattersN c fs (k+1) else mattersN c fs (k+1)
theorem matters_L1{c:Cse}(hc:CseOk c){f:Fld}(hf:FldOk c.Tariffs f){k:Nat}(hk:k≤1000){M0:Option (Clm→Option Int)}{K:List Int→Option (Clm→Option Int)→Int→Option (List Int × Option (Clm→Option Int))}{a:List Int}(ha:a.length≤1000){F:List Int→List Int}
  (hK:∀(a':List Int) M,a'.length≤a.length+1→PayOk c M→∃M',K a' M ((k:Int)+1)=some (F a',M')∧PayOk c M'):∀(l:List Thr) M,PayOk c M→(∀t∈l,ThrOk f t)→∃M',pmatters_L1 ⟨c,M0⟩ (k:Int) f K l a M=some (F (if (l.any fun t=>decide (matterN c f t))=true then a++[(k:Int)] else a),M')∧PayOk c M'
 | [],M,hM,_=>by
  obtain⟨M',h1,h2⟩:=hK a M (by omega) hM;refine⟨M',?_,h2⟩;rw[pmatters_L1,gd_pos (fI (by omega)),h1]; rfl
 | t::l,M,hM,hl=>by
  obtain⟨M1,h1,h2⟩:=matter_eq hc hM hf (hl t (List.mem_cons_self ..));rw[pmatters_L1]
  dsimp only
  rw[h1,obs]
  by_cases hm:matterN c f t
  ·rw[if_pos (decide_eq_true hm),gd_pos (by omega)];unfold pmatters_L1_xexit1;obtain⟨M',q1,q2⟩:=hK (a++[(k:Int)]) M1 (by simp) h2;refine⟨M',?_,q2⟩;rw[gd_pos (fI (by omega)),q1,List.any_cons,decide_eq_true hm,Bool.true_or,if_pos rfl]
  ·obtain⟨M',q1,q2⟩:=matters_L1 hc hf hk (M0:=M0) ha hK l M1 h2 fun u hu=>hl u (List.mem_cons_of_mem _ hu);refine⟨M',?_,q2⟩;rw[bif_neg (decide_eq_false hm),q1,List.any_cons,decide_eq_false hm,Bool.false_or]
theorem matters_L0{c:Cse}(hc:CseOk c){M0:Option (Clm→Option Int)}:∀(d k:Nat) (a:List Int) M,k≤c.Fields.length→c.Fields.length - k < d→a.length≤k→PayOk c M→∃M',pmatters_L0 ⟨c,M0⟩ d a M (k:Int)=some (a++mattersN c (c.Fields.drop k) k,M')∧PayOk c M'
 | 0,k,_,_,_,h,_,_=>by omega
 | d+1,k,a,M,hk,h,ha,hM=>by
  have hlen:=hc.len;rw[pmatters_L0]
  dsimp only
  by_cases hkl:k < c.Fields.length
  ·obtain⟨f,h1,h2⟩:=drop_at hkl;have hf:=hc.fld f (List.mem_of_getElem? h1);rw[if_pos (by omega),idx_at h1,obs,threes_eq hf,obs,h2]
   have hK:∀(a':List Int) M,a'.length≤a.length+1→PayOk c M→∃M',pmatters_L0 ⟨c,M0⟩ d a' M ((k:Int)+1)=some (a'++mattersN c (c.Fields.drop (k+1)) (k+1),M')∧PayOk c M':=fun a' M' ha' hM'=>by
    rw[show(k:Int)+1=((k+1:Nat):Int) by omega];exact matters_L0 hc d (k+1) a' M' hkl (by omega) (by omega) hM'
   obtain⟨M',q1,q2⟩:=matters_L1 hc hf (k:=k) (by omega) (M0:=M0) (a:=a) (by omega) (F:=fun a'=>a'++mattersN c (c.Fields.drop (k+1)) (k+1)) hK (threesN f) M hM fun t ht=>(mem_threesN hf).1 ht;refine⟨M',?_,q2⟩;rw[q1,mattersN];unfold fmatN
   split <;> simp
  ·rw[if_neg (by omega),List.drop_eq_nil_of_le (by omega)];exact⟨M,by simp[mattersN],hM⟩
theorem Matters_ok{c:Cse}(hc:CseOk c):pMatters c=some (mattersN c c.Fields 0,0):=by
 obtain⟨M',h1,h2⟩:=matters_L0 hc (M0:=some fun _=>none) (c.Fields.length+1) 0 [] (some fun _=>none) (by omega) (by omega) (by simp) payOk0;unfold pMatters;rw[uOpen_ok hc,obs,if_pos rfl];unfold pmatters
 show(pmatters_L0 ⟨c,some fun _=>none⟩ (c.Fields.length+1) [] (some fun _=>none) ((0:Nat):Int)).bind _=_
 rw[h1]; rfl
def befU:List Int→List Int→Bool
 | x::a,y::b=>if x=y then befU a b else decide (x < y)
 | [],_::_=>true
 | _,[]=>false
theorem befU_both:∀{a b:List Int},a.length=b.length→befU a b=false→befU b a=false→a=b
 | [],[],_,_,_=>rfl
 | x::a,y::b,hl,h1,h2=>by
  simp only[befU] at h1 h2
  by_cases he:x=y
  ·subst he;rw[if_pos rfl] at h1 h2;rw[befU_both (Nat.succ.inj hl) h1 h2]
  ·rw[if_neg he] at h1;rw[if_neg fun h=>he h.symm] at h2;have:=of_decide_eq_false h1;have:=of_decide_eq_false h2
   omega
theorem befU_irr:∀{a:List Int},befU a a=false
 | []=>rfl
 | x::a=>by simp only[befU]; rw[if_pos trivial]; exact befU_irr
theorem rBeforeU_go{a b:List Int}(hl:a.length≤1000):∀(d k:Nat),k≤a.length→a.length - k < d→prBefore_L0 a b d (k:Int)=some (befU (a.drop k) (b.drop k))
 | 0,_,_,h=>by omega
 | d+1,k,hk,h=>by
  rw[prBefore_L0]
  by_cases hka:k < a.length
  ·rw[if_pos (by omega)];have da:=List.drop_eq_getElem_cons hka;have ga:=List.getElem?_eq_getElem hka
   by_cases hkb:k < b.length
   ·have db:=List.drop_eq_getElem_cons hkb;have gb:=List.getElem?_eq_getElem hkb;rw[if_pos (by omega),idx_at ga,obs,idx_at gb,obs,da,db];unfold befU
    by_cases he:a[k]=b[k]
    ·rw[if_pos he,if_pos he,gd_pos (fI (by omega)),show(k:Int)+1=((k+1:Nat):Int) by omega];exact rBeforeU_go hl d (k+1) (by omega) (by omega)
    ·rw[if_neg he,if_neg he,obs,obs]
   ·rw[if_neg (by omega),da,List.drop_eq_nil_of_le (show b.length≤k by omega),decide_eq_false (by omega)]; rfl
  ·rw[if_neg (by omega),List.drop_eq_nil_of_le (show a.length≤k by omega)]
   by_cases hkb:k < b.length
   ·rw[List.drop_eq_getElem_cons hkb,decide_eq_true (by omega)]; rfl
   ·rw[List.drop_eq_nil_of_le (show b.length≤k by omega),decide_eq_false (by omega)]; rfl
theorem rBeforeU{a b:List Int}(hl:a.length≤1000):prBefore a b=some (befU a b):=rBeforeU_go hl (a.length+1) 0 (Nat.zero_le _) (by omega)
theorem same_ev{a b:List Int}(ha:a.length≤1000):Ev (prSame a b) (a=b):=by
 unfold prSame
 by_cases hl:a.length=b.length
 ·rw[if_pos (by omega),rBeforeU ha,obs]
  cases h1:befU a b with
  | true=>
   rw[if_pos rfl]
   exact Ev.ff fun he=>by subst he; rw[befU_irr] at h1; cases h1
  | false=>
   rw[if_neg (by simp),rBeforeU (by omega),obs];refine Ev.mk' ?_
   cases h2:befU b a with
   | true=>exact⟨fun h=>(by cases h),fun he=>(by subst he; rw[befU_irr] at h2; cases h2)⟩
   | false=>exact⟨fun _=>befU_both hl h1 h2,fun _=>rfl⟩
 ·rw[if_neg (by omega)];exact Ev.ff fun he=>hl (by rw[he])
theorem lSame_ev{a b:Res}(ha:a.Counts.length≤1000):Ev (plSame a b) (a=b):=by
 refine(Ev.and (same_ev ha) fun _=>Ev.ite fun _=>Ev.ite fun _=>Ev.dec Iff.rfl).imp ?_;obtain⟨a1,a2,a3,a4⟩:=a;obtain⟨b1,b2,b3,b4⟩:=b
 simp
theorem setsN_len:∀{fs:List Fld} {ts:List Thr},ThrsOk fs ts→(setsN fs ts).length=fs.length
 | [],[],_=>rfl
 | _::_,_::_,h=>by simp[setsN,setsN_len h.2]
def tfU:Tf:=⟨0,true,0,[0],[0,100],[[[0,100]]]⟩
def fA:Fld:=⟨0,1000,4,⟨40,41⟩,⟨30,30⟩,⟨33,36⟩⟩
def fB:Fld:=⟨0,200,4,⟨20,20⟩,⟨17,18⟩,⟨0,4⟩⟩
def twoC:Cse:=⟨[tfU],10,31,[fA,fB]⟩
theorem two_eq:ptwo=some twoC:=rfl
theorem one_mem{α:Type}{a:α}{P:α→Prop}(h:P a):∀x∈[a],P x:=fun x hx=>by rw[List.mem_singleton.1 hx]; exact h
theorem tf_ok:faultN [tfU]=0:=by
 refine faultN_zero.2 ⟨?_,⟨by simp,one_mem ⟨by decide,by decide,⟨by simp[tfU],rfl,by simp[tfU]⟩,⟨by simp[tfU],rfl,by simp[tfU]⟩,rfl,by simp[tfU],one_mem ⟨rfl,one_mem ⟨rfl,by simp⟩⟩⟩,by simp,rfl,one_mem rfl⟩⟩
 rintro (h | ⟨t,ht,h⟩)
 ·simp at h
 ·rw[List.mem_singleton.1 ht] at h;unfold tooManyN at h
  simp[tfU] at h
theorem two_ok:CseOk twoC:=by
 refine⟨tf_ok,by decide,by decide,by decide,fun f hf=>?_⟩
 rcases List.mem_cons.1 hf with rfl | hf
 ·exact⟨by decide,by decide,by decide,⟨by decide,by decide,by decide,by decide⟩,⟨by decide,by decide,by decide,by decide⟩,⟨by decide,by decide,by decide,by decide⟩⟩
 ·rw[List.mem_singleton.1 hf];exact⟨by decide,by decide,by decide,⟨by decide,by decide,by decide,by decide⟩,⟨by decide,by decide,by decide,by decide⟩,⟨by decide,by decide,by decide,by decide⟩⟩
theorem two_all{P:List Thr→Prop}(h:∀a∈threesN fA,∀b∈threesN fB,P [a,b]):∀ts,ThrsOk twoC.Fields ts→P ts:=by
 intro ts ht
 match ts,ht with
 | [a,b],ht=>exact h a ((mem_threesN (two_ok.fld fA (by simp[twoC]))).2 ht.1) b ((mem_threesN (two_ok.fld fB (by simp[twoC]))).2 ht.2.1)
 | [],ht=>exact ht.elim
 | [_],ht=>exact ht.2.elim
 | _::_::_::_,ht=>exact ht.2.2.elim
theorem two_in{a b:Thr}(ha:a∈threesN fA)(hb:b∈threesN fB):ThrsOk twoC.Fields [a,b]:=⟨(mem_threesN (two_ok.fld fA (by simp[twoC]))).1 ha,(mem_threesN (two_ok.fld fB (by simp[twoC]))).1 hb,trivial⟩
theorem two_lo{q:Ver→Int}{r:Rg}(h:Ends twoC q r){lo:Int}(hb:∀a∈threesN fA,∀b∈threesN fB,lo≤q (verN twoC [a,b]))(hlo:∃a∈threesN fA,∃b∈threesN fB,q (verN twoC [a,b])=lo):r.Lo=lo:=by
 obtain⟨t1,h1,h2⟩:=h.lo;obtain⟨a,ha,b,hb',e1⟩:=hlo;have k1:=h.all _ (two_in ha hb');have k3:=two_all (P:=fun ts=>lo≤q (verN twoC ts)) hb t1 h1
 omega
theorem two_hi{q:Ver→Int}{r:Rg}(h:Ends twoC q r){hi:Int}(hb:∀a∈threesN fA,∀b∈threesN fB,q (verN twoC [a,b])≤hi)(hhi:∃a∈threesN fA,∃b∈threesN fB,q (verN twoC [a,b])=hi):r.Hi=hi:=by
 obtain⟨t1,h1,h2⟩:=h.hi;obtain⟨a,ha,b,hb',e1⟩:=hhi;have k1:=h.all _ (two_in ha hb');have k3:=two_all (P:=fun ts=>q (verN twoC ts)≤hi) hb t1 h1
 omega
theorem uAwake_eq:puAwake=some true:=by
 obtain⟨a,ha,ea⟩:=Award_ok two_ok;obtain⟨x,y,hx,ex,ey⟩:=Fees_ok two_ok;obtain⟨n,o,ho,en,eo⟩:=Offers_ok two_ok;have a1:a.Lo=366:=two_lo ea (by decide) (by decide);have a2:a.Hi=398:=two_hi ea (by decide) (by decide);have x1:x.Lo=0:=two_lo ex (by decide) (by decide);have x2:x.Hi=31:=two_hi ex (by decide) (by decide);have y1:y.Lo=0:=two_lo ey (by decide) (by decide);have y2:y.Hi=31:=two_hi ey (by decide) (by decide);have n1:n.Lo=335:=two_lo en (by decide) (by decide);have o2:o.Hi=429:=two_hi eo (by decide) (by decide)
 have hP:pPlay twoC [⟨40,30,35⟩,⟨20,17,0⟩]=some (⟨[35,18],386,16,15⟩,0):=by
  have i1:(⟨40,30,35⟩:Thr)∈threesN fA:=(mem_threesN (two_ok.fld fA (by simp[twoC]))).2 ⟨by decide,by decide,by decide⟩;have i2:(⟨20,17,0⟩:Thr)∈threesN fB:=(mem_threesN (two_ok.fld fB (by simp[twoC]))).2 ⟨by decide,by decide,by decide⟩;rw[Play_ok two_ok (two_in i1 i2)];refine congrArg (fun r=>some (r,(0:Int))) ?_
  have r1:(resN twoC [⟨40,30,35⟩,⟨20,17,0⟩]).Counts=[35,18]:=by decide
  have r2:(resN twoC [⟨40,30,35⟩,⟨20,17,0⟩]).Award=386:=by decide
  have r3:(resN twoC [⟨40,30,35⟩,⟨20,17,0⟩]).Farmer=16:=by decide
  have r4:(resN twoC [⟨40,30,35⟩,⟨20,17,0⟩]).Society=15:=by decide
  generalize resN twoC [⟨40,30,35⟩,⟨20,17,0⟩]=R at r1 r2 r3 r4;obtain⟨_,_,_,_⟩:=R
  dsimp only at r1 r2 r3 r4
  subst_vars; rfl
 have hC:pCounts twoC (0:Int)=some ([33,34,35,36],0):=by
  rw[show pCounts twoC (0:Int)=_ from Counts_ok two_ok (k:=0) (f:=fA) rfl];exact congrArg (fun r=>some (r,(0:Int))) (by decide)
 have hD:pCalled twoC (1:Int)=some (2,0):=by
  rw[show pCalled twoC (1:Int)=_ from Called_ok two_ok (k:=1) (f:=fB) rfl];exact congrArg (fun r=>some (r,(0:Int))) (by decide)
 have hM:pMatters twoC=some ([0],0):=by
  rw[Matters_ok two_ok];exact congrArg (fun r=>some (r,(0:Int))) (by decide)
 have fz:∀n:Int,0≤n∧n≤1000→fitsP .i64 n:=fun n h=>fI (by omega);unfold puAwake;rw[two_eq,obs,show ptruth3 40 35 17=some [⟨40,30,35⟩,⟨20,17,0⟩] from rfl,obs,hP,obs,obs,hC,obs,obs,hD,obs,obs,ha,obs,obs,hx,obs,obs,ho,obs,obs,hM,obs];rw[if_pos rfl,(lSame_ev (by decide)).some_of rfl,obs,if_pos rfl,if_pos rfl,(same_ev (by decide)).some_of rfl,obs,if_pos rfl,if_pos rfl,if_pos rfl,if_pos rfl]
 show Go.Abs.gd _ _=_
 dsimp only
 rw[a1,a2,x1,x2,y1,y2,n1,o2];rw[gd_pos (fz _ (by omega)),gd_pos (fz _ (by omega)),gd_pos (fz _ (by omega)),gd_pos (fz _ (by omega)),if_pos rfl,if_pos rfl]
 show Go.Abs.gd _ _=_
 dsimp only
 rw[gd_pos (fz _ (by omega)),gd_pos (fz _ (by omega)),gd_pos (fz _ (by omega)),gd_pos (fz _ (by omega)),if_pos rfl,gd_pos (fz _ (by omega)),gd_pos (fz _ (by omega)),gd_pos (fz _ (by omega)),gd_pos (fz _ (by omega)),if_pos (by decide),if_pos (by decide)]
 show Go.Abs.gd _ _=_
 dsimp only
 rw[gd_pos (fz _ (by omega)),gd_pos (fz _ (by omega)),gd_pos (fz _ (by omega)),gd_pos (fz _ (by omega)),if_pos (by decide),(same_ev (by decide)).some_of rfl]; rfl
def OkC(c:Cse):Prop:=ok_Cse c
theorem pick_ok{r:Rg}(h:CntsOk r){w:Int}(hw:0≤w∧w < 256):∃x,ppick r w=some x∧r.Lo≤x∧x≤r.Hi:=by
 have h1:=h.lo; have h2:=h.le; have h3:=h.hi; have h4:=h.wd;have h5:=Int.emod_nonneg w (show r.Hi - r.Lo+1 ≠ 0 by omega);have h6:=Int.emod_lt_of_pos w (show 0 < r.Hi - r.Lo+1 by omega);refine⟨r.Lo+w % (r.Hi - r.Lo+1),?_,by omega⟩;unfold ppick;rw[gd_pos (fI (by omega)),gd_pos (fI (by omega)),gd_pos hw.1,gd_pos (by omega),gd_pos (fI (by omega)),gd_pos (fI (by omega))]
def OkW(l:List W8):Prop:=l.length≤maxLen∧∀a∈l,ok_W8 a
theorem word_at{l:List W8}(h:OkW l)(h0:0 < l.length){k:Int}(_hk:0≤k):∃w,idx l (k % (l.length:Int))=some w∧0≤w.v∧w.v < 256:=by
 have h5:=Int.emod_nonneg k (show(l.length:Int) ≠ 0 by omega);have h6:=Int.emod_lt_of_pos k (show 0 < (l.length:Int) by omega)
 have hlt:(k % (l.length:Int)).toNat < l.length:=by omega
 refine⟨l[(k % (l.length:Int)).toNat],idx_get (by omega) hlt,?_⟩;exact fU8 (h.2 _ (List.getElem_mem hlt))
theorem picked_go{c:Cse}(hc:CseOk c){l:List W8}(h:OkW l)(hm:l.length < 9223372036854775808):∀(d k:Nat) (acc:List Thr),k≤c.Fields.length→c.Fields.length - k < d→acc.length=k→∃ts,ppicked_L0 c l d acc (k:Int)=some (acc++ts)∧ThrsOk (c.Fields.drop k) ts
 | 0,k,_,_,h,_=>by omega
 | d+1,k,acc,hk,hd,ha=>by
  have hlen:=hc.len;rw[ppicked_L0]
  by_cases hkl:k < c.Fields.length
  ·obtain⟨f,h1,h2⟩:=drop_at hkl;have hf:=hc.fld f (List.mem_of_getElem? h1);rw[if_pos (by omega),idx_at h1,obs,h2]
   have fin:∀a b u,(f.First.Lo≤a∧a≤f.First.Hi)→(f.Second.Lo≤b∧b≤f.Second.Hi)→(f.Umpire.Lo≤u∧u≤f.Umpire.Hi)→∃ts,gd (acc.length < 1048576) (gd (fitsP .i64 ((k:Int)+1)) (ppicked_L0 c l d (acc++[⟨a,b,u⟩]) ((k:Int)+1)))=some (acc++ts)∧ThrsOk (f::c.Fields.drop (k+1)) ts:=fun a b u ha' hb' hu'=>by
    obtain⟨ts,q1,q2⟩:=picked_go hc h hm d (k+1) (acc++[⟨a,b,u⟩]) hkl (by omega) (by simp; omega);refine⟨⟨a,b,u⟩ :: ts,?_,⟨ha',hb',hu'⟩,q2⟩;rw[gd_pos (by omega),gd_pos (fI (by omega)),show(k:Int)+1=((k+1:Nat):Int) by omega,q1]; simp
   by_cases h0:0 < l.length
   ·obtain⟨w1,e1,r1⟩:=word_at h h0 (k:=3 * (k:Int)) (by omega);obtain⟨w2,e2,r2⟩:=word_at h h0 (k:=3 * (k:Int)+1) (by omega);obtain⟨w3,e3,r3⟩:=word_at h h0 (k:=3 * (k:Int)+2) (by omega);have m1:=Int.emod_nonneg (3 * (k:Int)) (show(l.length:Int) ≠ 0 by omega);have m2:=Int.emod_nonneg (3 * (k:Int)+1) (show(l.length:Int) ≠ 0 by omega);have m3:=Int.emod_nonneg (3 * (k:Int)+2) (show(l.length:Int) ≠ 0 by omega);have n1:=Int.emod_lt_of_pos (3 * (k:Int)) (show 0 < (l.length:Int) by omega);have n2:=Int.emod_lt_of_pos (3 * (k:Int)+1) (show 0 < (l.length:Int) by omega);have n3:=Int.emod_lt_of_pos (3 * (k:Int)+2) (show 0 < (l.length:Int) by omega);rw[if_pos (by omega),gd_pos (by omega),gd_pos (by omega),gd_pos (fI (by omega)),gd_pos (by omega),gd_pos (by omega),gd_pos (fI (by omega)),e1,obs];rw[gd_pos (by omega),gd_pos (by omega),gd_pos (fI (by omega)),gd_pos (fI (by omega)),gd_pos (by omega),gd_pos (by omega),gd_pos (fI (by omega)),e2,obs];rw[gd_pos (by omega),gd_pos (by omega),gd_pos (fI (by omega)),gd_pos (fI (by omega)),gd_pos (by omega),gd_pos (by omega),gd_pos (fI (by omega)),e3,obs];rw[wz (fI (by omega)),wz (fI (by omega)),wz (fI (by omega))];obtain⟨a,p1,p2⟩:=pick_ok hf.fst r1;obtain⟨b,p3,p4⟩:=pick_ok hf.snd r2;obtain⟨u,p5,p6⟩:=pick_ok hf.ump r3;rw[p1,obs,p3,obs,p5,obs];exact fin a b u p2 p4 p6
   ·obtain⟨a,p1,p2⟩:=pick_ok hf.fst (w:=0) (by omega);obtain⟨b,p3,p4⟩:=pick_ok hf.snd (w:=0) (by omega);obtain⟨u,p5,p6⟩:=pick_ok hf.ump (w:=0) (by omega);rw[if_neg (by omega),p1,obs,p3,obs,p5,obs];exact fin a b u p2 p4 p6
  ·rw[if_neg (by omega),List.drop_eq_nil_of_le (by omega)];exact⟨[],by simp,trivial⟩
theorem picked_ok{c:Cse}(hc:CseOk c){l:List W8}(h:OkW l):∃ts,ppicked c l=some ts∧ThrsOk c.Fields ts:=by
 have hlen:=hc.len
 have hm:maxLen < 9223372036854775808:=by decide
 obtain⟨ts,h1,h2⟩:=picked_go hc h (by have:=h.1; omega) 1000000 0 [] (by omega) (by omega) rfl;exact⟨ts,h1,h2⟩
def paysN(c:Cse):List Fld→List Thr→Int
 | f::fs,t::ts=>paidN c f (setN f t)+paysN c fs ts
 | _,_=>0
theorem pence_pays{c:Cse}:∀{fs:List Fld} {ts:List Thr} {v:Ver},(verF c fs ts v).pence=v.pence+paysN c fs ts
 | [],_,v=>by simp[verF,paysN]
 | _::_,[],v=>by simp[verF,paysN]
 | f::fs,t::ts,v=>by
  rw[verF,pence_pays,paysN]
  show v.pence+paidN c f (setN f t)+_=_
  omega
theorem sets_at:∀{fs:List Fld} {ts:List Thr},ThrsOk fs ts→∀{k:Nat},k < fs.length→∃f t,fs[k]? = some f∧ts[k]? = some t∧(setsN fs ts)[k]? = some (setN f t)∧ThrOk f t
 | f::fs,t::ts,h,0,_=>⟨f,t,rfl,rfl,rfl,h.1⟩
 | f::fs,t::ts,h,k+1,hk=>by
  obtain⟨g,x,h1,h2,h3,h4⟩:=sets_at h.2 (k:=k) (by simpa using hk);exact⟨g,x,by simpa using h1,by simpa using h2,by simpa [setsN] using h3,h4⟩
 | [],[],_,k,hk=>by simp at hk
theorem pays_go{c:Cse}(hc:CseOk c)(hth:ThinN c.Tariffs){ts:List Thr}(ht:ThrsOk c.Fields ts):∀(d k:Nat) (s:Int),k≤c.Fields.length→c.Fields.length - k < d→(0≤s∧s≤100000 * k)→s+paysN c (c.Fields.drop k) (ts.drop k)=(resN c ts).Award→pUmpirePays_L0 c (resN c ts,0) d s (k:Int)=some true
 | 0,k,_,_,h,_,_=>by omega
 | d+1,k,s,hk,hd,hs,hsum=>by
  have hlen:=hc.len;rw[pUmpirePays_L0]
  by_cases hkl:k < c.Fields.length
  ·obtain⟨f,t,h1,h2,h3,h4⟩:=sets_at ht hkl;obtain⟨f',h5,h6⟩:=drop_at hkl;obtain⟨t',h7,h8⟩:=drop_at (l:=ts) (k:=k) (by have:=ht.len; omega)
   rw[h1] at h5; cases h5
   rw[h2] at h7; cases h7
   rw[h6,h8,paysN] at hsum;have hf:=hc.fld f (List.mem_of_getElem? h1);have hn:=setN_rng (f:=f) (h4.rng hf);have hpr:=paidN_rng hc hf hn;have hp:pPay c.Tariffs (claimU c f (setN f t)) ⟨c.Day,setN f t⟩=some (paidN c f (setN f t),0):=Pay_ok hc.tar ((claimU_iff hc.day hn).2 ⟨hf.crop,hf.val⟩) (t:=⟨c.Day,setN f t⟩) ⟨⟨Int.le_refl _,Int.le_refl _⟩,Int.le_refl _,Int.le_refl _⟩;rw[if_pos (by omega),idx_at h1,obs,show idx (resN c ts,(0:Int)).1.Counts (k:Int)=some (setN f t) from idx_at h3,obs,lTariffs_eq hth,obs]
   show(pPay c.Tariffs (claimU c f (setN f t)) ⟨c.Day,setN f t⟩).bind _=_
   rw[hp,obs,if_pos rfl,gd_pos (fI (by omega)),gd_pos (fI (by omega)),show(k:Int)+1=((k+1:Nat):Int) by omega];exact pays_go hc hth ht d (k+1) _ hkl (by omega) (by omega) (by omega)
  ·rw[if_neg (by omega),if_pos,uAwake_eq]
   ·rfl
   ·rw[List.drop_eq_nil_of_le (by omega)] at hsum
    simpa [paysN] using hsum
theorem thr_few{fs:List Fld}{ts:List Thr}(h:ThrsOk fs ts)(hl:fs.length≤3):ts.length≤1000000:=by have:=h.len; omega
theorem m_UmpirePays{c:Cse}{words:List W8}(_:OkC c)(hw:OkW words):pUmpirePays c words=some true:=by
 unfold pUmpirePays
 refine Ev.pick uReady_ev (fun hr=>?_) fun hr=>by rw[bif_neg rfl,uAwake_eq]; rfl
 obtain⟨⟨hth,hl⟩,hc⟩:=hr;obtain⟨ts,h1,h2⟩:=picked_ok hc hw;rw[if_pos rfl,lCase_eq hth hl,obs,h1,obs,lTruthU_eq (thr_few h2 hc.len),obs,Play_ok hc h2,obs,if_pos rfl,if_pos (by show((setsN c.Fields ts).length:Int)=_; rw[setsN_len h2])];refine pays_go hc hth h2 1000000 0 0 (by omega) (by have:=hc.len; omega) (by omega) ?_
 show 0+paysN c c.Fields ts=(verN c ts).pence
 unfold verN;rw[pence_pays]
end
end Go.Proofs.YteojndcmgpiklaaGreat

