/- An evaluator of the code of a program, its soundness, what calls ask, memory, and what functions of the program do. Condition: none; a lemma text of this claim. -/
import Derived.Test.YteojndcmgpiklaaGreatUdI

namespace Go.Proofs.YteojndcmgpiklaaGreat
open _root_.Go.Proofs.Tryz
open Go.Abs
set_option maxRecDepth 100000
noncomputable section
theorem zy5(a100 a200 a201 a202 a203 a204 a205:Int)(b0 b1 b2:Nat){m:M}{Q:V→M→Prop}(h :
 (∀m0:M,(m0=(M.new m (AO.cells 6 [(Il a200),(Il a201),(Il a202),
 (Il a203),(Il a204),(Il a205)] false)))→∃c1:C,((ldC m0 (.ptr b0 0))=(some c1)) ∧ 
 isSl c1∧ifB (decide (a100=(((slLen c1):Nat):Int))) (∃c2:C,((ldC m0 (.ptr b1 0))=(some c2)) ∧ 
 ∃x3 x4 x5 x6 x7 x8,((ldA m0 (.ptr m.nxt 0) 6)=(some [(Il x3),
 (Il x4),(Il x5),(Il x6),(Il x7),
 (Il x8)]))∧zmq prog tbl [(.agg 6 [(Il x3),(Il x4),
 (Il x5),(Il x6),(Il x7),(Il x8)])] c2 m0 (fun v9 m10 => 
 ∃b11:Bool,(v9=(.c (.bool b11)))∧Q (.c (.bool b11)) m10)) (∃c12:C,
 ((ldC m0 (.ptr b0 0))=(some c12))∧∃n13:Nat,(a100=((n13:Nat):Int))∧(n13 < (slLen c12)) ∧ 
 ∃c14:C,((ldC m0 (zl2 c12 (n13 * 1)))=(some c14))∧∃y15:AO,((zl8 m0 c14)=(some y15)) ∧ 
 ∀m16:M,(m16=(M.new m0 y15))→∀R17:List V→M→Prop,(∀b18:Bool,∀m19:M,
 (∃l20:List ((U × U) × M),((nxM m19 (.ptr m0.nxt 0))=(some l20))∧((l20=[]) → 
 Q (.c (.bool true)) m19)∧∀u21:U,∀u22:U,∀m23:M,InL u21 u22 m23 l20 → 
 ∃x24 x25,∃u26:U,((enM m23 (.ptr m0.nxt 0))=(some ((.agg 2 [(Il x24),
 (Il x25)]),u26)))∧∀m27:M,(m27=(M.new m23 (AO.cells 2 [(Il 0),
 (Il 0)] false)))→∃m28:M,((stC m27 (.ptr m23.nxt 0) 2 [(Il x24),
 (Il x25)])=(some m28))∧∃c29:C,((ldC m28 (.ptr b2 0))=(some c29)) ∧ 
 zl0 .i64 (a100+1)∧∃x30 x31 x32,
 ∃x33 x34 x35,((ldA m28 (.ptr m.nxt 0) 6)=(some [(Il x30),
 (Il x31),(Il x32),(Il x33),(Il x34),
 (Il x35)]))∧∃x36 x37,((ldA m28 (.ptr m23.nxt 0) 2)=(some [(Il x36),
 (Il x37)]))∧Wc prog tbl 86 [(.agg 6 [(Il x30),
 (Il x31),(Il x32),(Il x33),(Il x34),
 (Il x35)]),(.agg 2 [(Il x36),(Il x37)])] m28 (fun v38 m39 => 
 ∃x40 x41 x42 x43 x44 x45,
 (v38=(.agg 6 [(Il x40),(Il x41),(Il x42),
 (Il x43),(Il x44),(Il x45)])) ∧ 
 (ifB (cmC c29) ((ldC m39 (.ptr b2 0))=(some c29)) False)∧zmq prog tbl [(.c (Il (a100+1))),
 (.agg 6 [(Il x40),(Il x41),(Il x42),
 (Il x43),(Il x44),(Il x45)])] c29 m39 (fun v46 m47 => 
 ∃b48:Bool,(v46=(.c (.bool b48)))∧ifB (!b48) (Q (.c (.bool false)) m47) (R17 [(.c (.bool b18))] m47)))) → 
 R17 [(.c (.bool b18))] m19)→R17 [(.c (.bool false))] m16))):Wc prog tbl 132 [.c (Il a100),.agg 6 [Il a200,Il a201,Il a202,Il a203,Il a204,Il a205],.c (.ptr b0 0),.c (.ptr b1 0),.c (.ptr b2 0)] m Q:=
 zpB (n:=5) rfl (by kernel_rfl) (by kernel_rfl) h
theorem zy6(y:C)(b0:Nat){m:M}{Q:V→M→Prop}(h :
 (∀m0:M,(m0=(M.new m (AO.cells 1 [y] false)))→∀m1:M,(m1=(M.new m0 (AO.cells 1 [C.sl0] false))) → 
 isPt (.ptr b0 0)∧isPt (.ptr b0 0)∧∃c2:C,((ldC m1 (.ptr b0 3))=(some c2))∧isSl c2 ∧ 
 ∀R3:List V→M→Prop,(∀x4:Int,∀m5:M,(ifB (decide (x4 < (((slLen c2):Nat):Int))) (∃n6:Nat,
 (x4=((n6:Nat):Int))∧(n6 < (slLen c2))∧∃x7 x8 x9 x10,
 ∃x11 x12 x13 x14 x15,((ldA m5 (zl2 c2 (n6 * 9)) 9)=(some [(Il x7),
 (Il x8),(Il x9),(Il x10),(Il x11),
 (Il x12),(Il x13),(Il x14),(Il x15)])) ∧ 
 ∀m16:M,(m16=(M.new m5 (AO.cells 9 [(Il 0),(Il 0),
 (Il 0),(Il 0),(Il 0),
 (Il 0),(Il 0),(Il 0),
 (Il 0)] false)))→∃m17:M,((stC m16 (.ptr m5.nxt 0) 9 [(Il x7),
 (Il x8),(Il x9),(Il x10),(Il x11),
 (Il x12),(Il x13),(Il x14),(Il x15)])=(some m17)) ∧ 
 ∃c18:C,((ldC m17 (.ptr m0.nxt 0))=(some c18))∧∃c19:C,
 ∃x20 x21,∃c22:C,∃c23:C,((ldA m17 (.ptr b0 0) 5)=(some [c19,
 (Il x20),(Il x21),c22,c23]))∧∃x24,
 ∃x25 x26 x27 x28 x29 x30,
 ∃x31 x32,((ldA m17 (.ptr m5.nxt 0) 9)=(some [(Il x24),
 (Il x25),(Il x26),(Il x27),(Il x28),
 (Il x29),(Il x30),(Il x31),(Il x32)])) ∧ 
 Wc prog tbl 131 [(.agg 5 [c19,(Il x20),(Il x21),
 c22,c23]),(.agg 9 [(Il x24),(Il x25),(Il x26),
 (Il x27),(Il x28),(Il x29),(Il x30),
 (Il x31),(Il x32)])] m17 (fun v33 m34=>∃c35:C,
 (v33=(.c c35))∧(ifB (cmC c18) ((ldC m34 (.ptr m0.nxt 0))=(some c18)) False) ∧ 
 ∀m36:M,(m36=(M.new m34 (AO.cells 1 [c35] false)))→(ifB (cmC c18) ((ldC m36 (.ptr m0.nxt 0))=(some c18)) False) ∧ 
 ∃c37:C,∃m38:M,(ApR prog 196 m36 c18 (.sl m34.nxt 0 1 0 (some 1)) c37 m38) ∧ 
 ∃m39:M,((stC m38 (.ptr m0.nxt 0) 1 [c37])=(some m39))∧zl0 .i64 (x4+1) ∧ 
 R3 [(.c (Il (x4+1)))] m39)) (∀m40:M,
 (m40=(M.new m5 (AO.cells 1 [C.nilFn] false)))→∃m41:M,((stC m40 (.ptr m5.nxt 0) 1 [(C.fn (Fn.func 132) [] [(W.c (C0.ptr m0.nxt 0)),
 (W.c (C0.ptr m.nxt 0)),(W.c (C0.ptr m5.nxt 0))])])=(some m41))∧∃c42:C,
 ((ldC m41 (.ptr m5.nxt 0))=(some c42))∧isPt (.ptr b0 0)∧isPt (.ptr b0 0) ∧ 
 ∃x43,((ldC m41 (.ptr b0 2))=(some (Il x43)))∧zmq prog tbl [(.c (Il 0)),
 (.agg 6 [(Il x43),(Il 0),(Il 0),
 (Il 0),(Il 0),(Il 0)])] c42 m41 (fun v44 m45 => 
 ∃b46:Bool,(v44=(.c (.bool b46)))∧Q (.tup []) m45))) → 
 R3 [(.c (Il x4))] m5)→R3 [(.c (Il 0))] m1)):Wc prog tbl 130 [.c y,.c (.ptr b0 0)] m Q:=
 zpB (n:=2) rfl (by kernel_rfl) (by kernel_rfl) h
def zy7(v:Ver):List C:=[.int .i64 v.fee,.int .i64 v.pence,.int .i64 v.fields.f0,.int .i64 v.fields.f1,.int .i64 v.fields.f2,.int .i64 v.fields.f3]
theorem zy8(a b:KOc)(h:zqy Oc a=zqy Oc b):a=b:=by
 obtain⟨⟨a1,a2⟩,ha⟩:=a;obtain⟨⟨b1,b2⟩,hb⟩:=b;have h:U.agg 2 [C.int .i64 a1,C.int .i64 a2]=U.agg 2 [C.int .i64 b1,C.int .i64 b2]:=h
 simp only[U.agg.injEq,List.cons.injEq,C.int.injEq,true_and,and_true] at h
 obtain⟨rfl,rfl⟩:=h
 rfl
structure ChG (m:M) (ba bY bc l:Nat) (ca:C) (rs:List Nat) (fs:List (Oc→Option Bool)):Prop where
 a:Bk m ba 1 [ca]
 y:Bk m bY 1 [.fn (.yield l) [] []]
 c:Bk m bc 1 [.fn (.func 132) [] [.c (.ptr ba 0),.c (.ptr bY 0),.c (.ptr bc 0)]]
 s:Ls m 1 ca (rs.map C.map) rs.length
 len:fs.length=rs.length
 mp:∀(i r:Nat) (g:Oc→Option Bool),rs[i]? = some r→fs[i]? = some g→Mp (zqy Oc) m r (fOc g)
def ChD(ba bY bc:Nat)(ca:C)(rs:List Nat)(b:Nat):Prop:=b=ba∨b=bY∨b=bc∨(∃o n s d,ca=.sl b o n s d)∨b∈rs
theorem ChG.to{m m':M}{ba bY bc l:Nat}{ca:C}{rs:List Nat}{fs:List (Oc→Option Bool)}(h:ChG m ba bY bc l ca rs fs)(hn:m.nxt≤m'.nxt)(hv:m'.vw=m.vw)(hg:∀b,b < m.nxt→ChD ba bY bc ca rs b→m'.g b=m.g b):ChG m' ba bY bc l ca rs fs:=
  ⟨⟨(hg _ h.a.lt (.inl rfl)).trans h.a.g,Nat.lt_of_lt_of_le h.a.lt hn⟩,⟨(hg _ h.y.lt (.inr (.inl rfl))).trans h.y.g,Nat.lt_of_lt_of_le h.y.lt hn⟩,⟨(hg _ h.c.lt (.inr (.inr (.inl rfl)))).trans h.c.g,Nat.lt_of_lt_of_le h.c.lt hn⟩,
    h.s.to hn (fun b hb ⟨_o,_s,_d,he⟩=>hg b hb (.inr (.inr (.inr (.inl ⟨_,_,_,_,he⟩))))) hv,h.len,fun i r g hr hgg=>(h.mp i r g hr hgg).to hn (hg r (h.mp i r g hr hgg).lt (.inr (.inr (.inr (.inr (List.mem_of_getElem? hr))))))⟩
theorem ChG.ext{m m':M}{ba bY bc l:Nat}{ca:C}{rs:List Nat}{fs:List (Oc→Option Bool)}(h:ChG m ba bY bc l ca rs fs)(e:Ext m m'):ChG m' ba bY bc l ca rs fs:=h.to e.nxt e.vw fun b hb _=>e.g b hb
structure zy9 (n0 l N:Nat) (A:Ver→Prop) (I:List Ver→(Nat→Prop)→M→Prop):Prop where
 st:∀d S m m',I d S m→m.nxt≤m'.nxt→m'.vw=m.vw→(∀b,S b→m'.g b=m.g b)→(∀b,b < n0→m'.g b=m.g b)→I d S m'
 lt:∀d S m,I d S m→∀b,S b→b < m.nxt
 yield:∀d v S m,I d S m→d.length < N→A v→∀Q:V→M→Prop,(∀S' m',Own S m S'→Chg S m m'→I (d++[v]) S' m'→Q (.c (.bool true)) m')→Wy prog tbl l [.agg 6 (zy7 v)] m Q
theorem zza{S S':Nat→Prop}{a b c:M}(h1:Chg S a b)(ho:Own S a S')(h2:Chg S' b c):Chg S a c:=
 ⟨Nat.le_trans h1.nxt h2.nxt,fun x hx hS=>by
  rw[h2.g x (Nat.lt_of_lt_of_le hx h1.nxt) fun h=>(ho x h).elim hS fun h=>by omega]
  exact h1.g x hx hS,h2.vw.trans h1.vw⟩
theorem zzb{S S' S'':Nat→Prop}{a b:M}(h1:Own S a S')(hn:a.nxt≤b.nxt)(h2:Own S' b S''):Own S a S'':=fun x hx=>(h2 x hx).elim (h1 x) fun h=>.inr (by omega)
theorem zzc{S:Nat→Prop}{a b:M}(h:Ext a b):Chg S a b:=⟨h.nxt,fun x hx _=>h.g x hx,h.vw⟩
theorem zzd{f m m':M}{S:Nat→Prop}(h:Pre f m)(hc:Chg S m m')(hS:∀b,S b→f.g b=none∧f.vw b=none):Pre f m':=⟨zqb h.sub hc.nxt hc.vw hS hc.g,h.fz,h.fv⟩
theorem zze{n0 l N:Nat}{A:Ver→Prop}{f:M}{I:List Ver→(Nat→Prop)→M→Prop}(hc:zy9 n0 l N A I){ba bY bc:Nat}{ca:C}{rs:List Nat}{fs:List (Oc→Option Bool)}(hrs:rs.length≤1000) :
  ∀(j k:Nat) (v:Ver) (vs d:List Ver) (S:Nat→Prop) (m:M),k+j=rs.length→n0≤m.nxt→Pre f m→ChG m ba bY bc l ca rs fs→I d S m→(∀b,S b→f.g b=none∧f.vw b=none)→(∀b,S b→¬ ChD ba bY bc ca rs b)→zuZ ((fs.drop k).map zuX) v=some vs→d.length+vs.length≤N→(∀u∈vs,A u) →
  ∀Q:V→M→Prop,(∀vs' S' m',vs'.Perm vs→Own S m S'→Chg S m m'→I (d++vs') S' m'→Q (.c (.bool true)) m') →
  Wc prog tbl 132 [.c (.int .i64 (k:Int)),.agg 6 (zy7 v),.c (.ptr ba 0),.c (.ptr bY 0),.c (.ptr bc 0)] m Q:=by
 intro j
 induction j with
 | zero=>
  intro k v vs d S m hk hn0 hP G hI hSf hD hv hN hA Q hQ
  have hk:k=rs.length:=by omega
  refine zy5 (k:Int) v.fee v.pence v.fields.f0 v.fields.f1 v.fields.f2 v.fields.f3 ba bY bc fun m0 e0=>?_;obtain⟨b0,x0⟩:=Bk.new e0;have g0:=G.ext x0;refine⟨_,g0.a.rc rfl,g0.s.isSl,?_⟩;rw[g0.s.slLen];refine zpG.2 ⟨fun _=>?_,fun hne=>absurd (by rw[hk]) hne⟩;refine⟨_,g0.y.rc rfl,_,_,_,_,_,_,b0.ra,?_⟩
  have hvs:vs=[v]:=by
   rw[List.drop_eq_nil_of_le (by rw[G.len]; omega)] at hv;exact(oi hv).symm
  subst hvs;have hlt:=hc.lt _ _ _ hI;have hI0:I d S m0:=hc.st _ _ _ _ hI x0.nxt x0.vw (fun b hb=>x0.g b (hlt b hb)) fun b hb=>x0.g b (by omega)
  show Wy prog tbl l [.agg 6 (zy7 v)] m0 _
  refine hc.yield d v S m0 hI0 (by simp at hN; omega) (hA v (List.mem_cons_self ..)) _ fun S' m' ho hch hI'=>⟨true,rfl,hQ [v] S' m' (.refl _) (fun b hb=>(ho b hb).imp id fun h=>by have:=x0.nxt; omega) (zza (zzc x0) (fun b hb=>.inl hb) hch) hI'⟩
 | succ j ih=>
  intro k v vs d S m hk hn0 hP G hI hSf hD hv hN hA Q hQ
  have hkr:k < rs.length:=by omega
  refine zy5 (k:Int) v.fee v.pence v.fields.f0 v.fields.f1 v.fields.f2 v.fields.f3 ba bY bc fun m0 e0=>?_;obtain⟨b0,x0⟩:=Bk.new e0;have g0:=G.ext x0
  have q0:m0.nxt=m.nxt+1:=by rw[e0]; rfl
  refine⟨_,g0.a.rc rfl,g0.s.isSl,?_⟩;rw[g0.s.slLen];refine zpG.2 ⟨fun he=>by omega,fun _=>?_⟩;refine⟨_,g0.a.rc rfl,k,rfl,by rw[g0.s.slLen]; exact hkr,?_⟩;obtain⟨r,hr⟩:∃r,rs[k]? = some r:=⟨_,List.getElem?_eq_getElem hkr⟩;obtain⟨g,hg⟩:∃g,fs[k]? = some g:=⟨_,List.getElem?_eq_getElem (by rw[G.len]; exact hkr)⟩;refine⟨_,g0.s.rd (i:=k * 1) (c:=.map r) (by rw[Nat.mul_one,List.getElem?_map,hr]; rfl),?_⟩;obtain⟨ks,o,hks,hro,hit⟩:=Mp.range zy8 (g0.mp k r g hr hg);refine⟨o,hro,fun m16 e16 R hR=>?_⟩;have it16:=hit m16 e16
  have x16:Ext m0 m16:=by rw[e16]; exact Ext.new _ _
  have q16:m16.nxt=m.nxt+2:=by rw[e16]; show m0.nxt+1=_; omega
  have hlt:=hc.lt _ _ _ hI
  have hdrop:fs.drop k=g::fs.drop (k+1):=by
   rw[List.drop_eq_getElem_cons (by rw[G.len]; exact hkr)]
   congr 1
   rw[List.getElem?_eq_getElem (by rw[G.len]; exact hkr)] at hg;exact oi hg
  rw[hdrop,List.map_cons] at hv;have hv:zuY (zuZ ((fs.drop (k+1)).map zuX)) v (zuX g)=some vs:=hv;have hperm:(ks.map (·.1)).Perm (zuX g):=(zq2.perm hks (zuW hks)).map _;obtain⟨vr0,hvr0,hpr0⟩:=zu5 hperm.symm hv
  -- a round of the loop, with these keys left
  have main:∀(n:Nat) (rem:List KOc) (w vr:List Ver) (S1:Nat→Prop) (m1:M),rem.length=n→ItR (zqy Oc) m1 m0.nxt r (fOc g) rem→Bk m1 m.nxt 6 (zy7 v)→ChG m1 ba bY bc l ca rs fs→I (d++w) S1 m1→Own S m S1→¬ S1 m.nxt→¬ S1 m0.nxt→Chg S m m1→m.nxt+2≤m1.nxt →
    zuY (zuZ ((fs.drop (k+1)).map zuX)) v (rem.map (·.1))=some vr→(w++vr).Perm vs→R [V.c (C.bool false)] m1:=by
   intro n
   induction n with
   | zero=>
    intro rem w vr S1 m1 hrem hit1 hb1 hG1 hI1 hO1 hS1 hS2 hC1 hn1 hvr hpw;have hrem:rem=[]:=List.eq_nil_of_length_eq_zero hrem;subst hrem;have hvr':vr=[]:=(oi hvr).symm;subst hvr';obtain⟨lx,q1,q2,q3⟩:=hit1.next;have hlx:=q2.2 rfl;subst hlx;refine hR false m1 ⟨[],q1,fun _=>?_,fun k' y' m' hl=>by cases hl⟩;rw[List.append_nil] at hpw;exact hQ w S1 m1 hpw hO1 hC1 hI1
   | succ n ihn=>
    intro rem w vr S1 m1 hrem hit1 hb1 hG1 hI1 hO1 hS1 hS2 hC1 hn1 hvr hpw;obtain⟨lx,q1,q2,q3⟩:=hit1.next;refine hR false m1 ⟨lx,q1,fun he=>?_,fun k' y' m2 hl=>?_⟩
    ·have:=q2.1 he
     rw[this] at hrem; cases hrem
    obtain⟨l1,a,l2,o2,rfl,rfl,hfa,e2,hen,hit2⟩:=q3 _ _ _ hl
    have n2:m2.nxt=m1.nxt:=by rw[e2]; rfl
    have v2:m2.vw=m1.vw:=by rw[e2]; rfl
    have g2:∀b,b ≠ m0.nxt→m2.g b=m1.g b:=fun b hb=>by rw[e2,M.g_set,if_neg hb]
    have hlt1:=hc.lt _ _ _ hI1
    have dlt:∀b,ChD ba bY bc ca rs b→b < m.nxt:=fun b hb=>by
     rcases hb with rfl | rfl | rfl | ⟨o',n',s',d',he⟩ | hb
     ·exact G.a.lt
     ·exact G.y.lt
     ·exact G.c.lt
     ·rcases G.s.val with ⟨h1,_⟩ | ⟨b',o1,t1,c1,h1,h2,_⟩
      ·rw[h1] at he; cases he
      ·rw[h1] at he; cases he; exact h2
     ·obtain⟨i,hi⟩:=List.getElem?_of_mem hb;have hilt:i < rs.length:=(List.getElem?_eq_some_iff.1 hi).1;exact(G.mp i b _ hi (List.getElem?_eq_getElem (by rw[G.len]; exact hilt))).lt
    have G2:ChG m2 ba bY bc l ca rs fs:=hG1.to (by omega) v2 fun b hb hDb=>g2 b (by have:=dlt b hDb; omega);have B2:Bk m2 m.nxt 6 (zy7 v):=⟨(g2 _ (by omega)).trans hb1.g,by have:=hb1.lt; omega⟩;have I2:I (d++w) S1 m2:=hc.st _ _ _ _ hI1 (by omega) v2 (fun b hb=>g2 b fun h=>hS2 (h ▸ hb)) fun b hb=>g2 b (by omega);have C2:Chg S m m2:=⟨by have:=hC1.nxt; omega,fun b hb hs=>(g2 b (by omega)).trans (hC1.g b hb hs),v2.trans hC1.vw⟩;refine⟨a.1.pence,a.1.loser,y',hen,fun m3 e3=>?_⟩;obtain⟨b3,x3⟩:=Bk.new e3;refine⟨m3.set m2.nxt (.cells 2 [.int .i64 a.1.pence,.int .i64 a.1.loser] false),b3.st _,?_⟩;have k4:=b3.set [.int .i64 a.1.pence,.int .i64 a.1.loser];have x4:Ext m2 (m3.set m2.nxt (.cells 2 [.int .i64 a.1.pence,.int .i64 a.1.loser] false)):=x3.setR (Nat.le_refl _) _
    have q4:(m3.set m2.nxt (.cells 2 [.int .i64 a.1.pence,.int .i64 a.1.loser] false)).nxt=m2.nxt+1:=by show m3.nxt=_; rw[e3]; rfl
    generalize m3.set m2.nxt (.cells 2 [.int .i64 a.1.pence,.int .i64 a.1.loser] false)=m4 at k4 x4 q4 ⊢;have G4:=G2.ext x4;obtain⟨v',c,vr',p1,p2,p3,p4⟩:=zu4 (v:=v) (a:=a.1) (l1:=l1.map (·.1)) (l2:=l2.map (·.1)) (by rw[← hvr,List.map_append,List.map_cons]);have C4:Chg S m m4:=zza C2 (fun b hb=>.inl hb) (zzc x4);refine⟨_,G4.c.rc rfl,by show zl0 .i64 ((k:Int)+1); unfold zl0; exact⟨by omega,by omega⟩,_,_,_,_,_,_,(B2.ext x4).ra,_,_,k4.ra,?_⟩;refine zyu (v:=v) (o:=a.1) (zzd hP C4 hSf) p1 fun m5 x5=>⟨_,_,_,_,_,_,rfl,?_⟩;have G5:=G4.ext x5;refine⟨?_,?_⟩
    ·show ifB true _ _
     exact G5.c.rc rfl
    have x45:=x4.trans x5;have I5:I (d++w) S1 m5:=hc.st _ _ _ _ I2 x45.nxt x45.vw (fun b hb=>x45.g b (by rw[n2]; exact hlt1 b hb)) fun b hb=>x45.g b (by have:=x45.nxt; omega);have C5:Chg S m m5:=zza C4 (fun b hb=>.inl hb) (zzc x5)
    have n5:m2.nxt < m5.nxt:=by have:=x5.nxt; omega
    show Wc prog tbl 132 [.c (.int .i64 ((k:Int)+1)),.agg 6 (zy7 v'),.c (.ptr ba 0),.c (.ptr bY 0),.c (.ptr bc 0)] m5 _
    rw[show(k:Int)+1=((k+1:Nat):Int) by omega];have hsub:(w++(c++vr')).Perm vs:=((List.Perm.append_left w p4).trans hpw);refine ih (k+1) v' c (d++w) S1 m5 (by omega) (by omega) (zzd hP C5 hSf) G5 I5 (fun b hb=>(hO1 b hb).elim (hSf b) fun h=>⟨hP.fz b (Nat.le_trans hP.sub.nxt h),hP.fv b (Nat.le_trans hP.sub.nxt h)⟩) (fun b hb hDb=>?_) p2 ?_ (fun u hu=>hA u (hsub.subset (List.mem_append_right _ (List.mem_append_left _ hu)))) _ fun vs' S' m6 hpv hO6 hC6 hI6=>⟨true,rfl,?_⟩
    ·rcases hO1 b hb with h | h
     ·exact hD b h hDb
     ·have:=dlt b hDb; omega
    ·have:=hsub.length_eq
     simp only[List.length_append] at this ⊢
     omega
    ·-- the next round
     show ifB false _ _
     have hC16:Chg S1 m5 m6:=hC6;have keep:∀b,b < m5.nxt→¬ S1 b→m6.g b=m5.g b:=hC6.g;have hit5:ItR (zqy Oc) m5 m0.nxt r (fOc g) (l1++l2):=hit2.to (x45.g _ (by omega)) (x45.g _ (by have:=dlt r (.inr (.inr (.inr (.inr (List.mem_of_getElem? hr))))); omega));have hrD:ChD ba bY bc ca rs r:=.inr (.inr (.inr (.inr (List.mem_of_getElem? hr))))
     have hS1D:∀b,ChD ba bY bc ca rs b→¬ S1 b:=fun b hDb hb=>by
      rcases hO1 b hb with h | h
      ·exact hD b h hDb
      ·have:=dlt b hDb; omega
     refine ihn (l1++l2) (w++vs') vr' S' m6 ?_ (hit5.to (keep _ (by omega) hS2) (keep r (by have:=dlt r hrD; omega) (hS1D r hrD))) ?_ ?_ ?_ ?_ ?_ ?_ ?_ ?_ ?_ ?_
     ·simp only[List.length_append,List.length_cons] at hrem ⊢; omega
     ·exact⟨(keep _ (by omega) hS1).trans ((x45.g _ (by omega)).trans B2.g),by have:=hC6.nxt; omega⟩
     ·exact G5.to hC6.nxt hC6.vw fun b hb hDb=>keep b hb (hS1D b hDb)
     ·rw[← List.append_assoc]; exact hI6
     ·exact zzb hO1 (by have:=C5.nxt; omega) hO6
     ·intro hb
      rcases hO6 _ hb with h | h
      ·exact hS1 h
      ·omega
     ·intro hb
      rcases hO6 _ hb with h | h
      ·exact hS2 h
      ·omega
     ·exact zza C5 hO1 hC6
     ·have:=hC6.nxt; omega
     ·rw[List.map_append]; exact p3
     ·refine List.Perm.trans ?_ hsub;rw[List.append_assoc];exact(hpv.append_right vr').append_left w
  have x016:=x0.trans x16;refine main ks.length ks [] vr0 S m16 rfl it16 ((b0.ext x16)) (g0.ext x16) ?_ (fun b hb=>.inl hb) (fun hb=>by have:=hlt _ hb; omega) (fun hb=>by have:=hlt _ hb; omega) (zzc x016) (by omega) hvr0 hpr0;rw[List.append_nil];exact hc.st _ _ _ _ hI x016.nxt x016.vw (fun b hb=>x016.g b (hlt b hb)) fun b hb=>x016.g b (by omega)
structure zzf where
 b:Nat
instance:Rp zzf:=⟨1,by omega,fun _ cs a=>cs=[.map a.b],fun h=>by rw[h]; rfl,fun h _=>h⟩
theorem zzg{f:M}:∀{l:List zzf} {vs:List C},Cat f vs l→vs=(l.map (·.b)).map C.map
 | [],vs,h=>h
 | a::l,vs,h=>by
  obtain⟨cs,ws,h1,h2,h3⟩:=h;have h2:cs=[.map a.b]:=h2;rw[h1,h2,zzg h3]; rfl
theorem zzh:TA prog 196 1:=⟨197,by kernel_rfl,by kernel_rfl,by kernel_rfl⟩
theorem zzi{K V' K2 V2:Type}[MK K][MV V'][MK K2][MV V2]{F:Fm}{f0 f m m' f':M}(s:St F f0 f m){τ:Nat→Nat}{t:Nat}{c:C}{M M':Option (K→Option V')}(h:Mo F f τ m t c M)(g:zrr c m f m' f')(h':Mi m' c M'){c2:C}{M2:Option (K2→Option V2)}(hn:Mn m f' m' c2 M2)(t2:Nat) :
  ∃τ',St F f0 f' m'∧Kp τ f m τ' f' m' [t]∧Mo F f' τ' m' t c M'∧Mo F f' τ' m' t2 c2 M2:=by
 obtain⟨s1,k1,h1⟩:=s.callGM h g h';refine⟨fun b=>if m.nxt≤b then t2 else τ b,s1,⟨k1.nxt,fun b hb=>if_neg (by omega),k1.g,k1.fg,k1.fs,k1.vw⟩,⟨h1.mi,fun b hb=>?_⟩,hn.mi,fun b hb=>?_⟩
 ·obtain⟨q1,q2,q3,q4⟩:=h1.own b hb;have:=(h.own b hb).2.2.2;exact⟨q1,q2,(if_neg (by omega)).trans q3,q4⟩
 ·obtain⟨q1,q2,q3⟩:=hn.own b hb;exact⟨.inl (Nat.le_trans s.ext.nxt q2),q1,if_pos q2,q3⟩
theorem zzj{w:UWk}{ca100 ca103 ca104:C}{b0 n0 l N:Nat}{A:Ver→Prop}{I:List Ver→(Nat→Prop)→M→Prop}(hc:zy9 n0 l N A I){S:Nat→Prop}{m f:M}{Q:V→M→Prop}{rz:List (Oc→Option Bool) × Option (Clm→Option Int)}{vs:List Ver}
    (hS:Pre f m) (hw:Bk f b0 5 [ca100,Il w.c.Day,Il w.c.Fee,ca103,ca104]) (ha100:Sl f ca100 w.c.Tariffs) (ha103:Sl f ca103 w.c.Fields) (ha104:Mc f m ca104 w.payments)
    (hp:zu1 w w.c.Fields w.payments=some rz) (_hlen:w.c.Fields.length≤1000) (hv:zuZ (rz.1.map zuX) (zu2 w.c.Fee)=some vs) (hN:vs.length≤N) (hA:∀u∈vs,A u)
    (hn0:n0≤m.nxt) (hI:∀m',zqB ca104 m m'→Mi m' ca104 rz.2→I [] S m') (hSl:∀b,S b→b < m.nxt) (hSf:∀b,S b→f.g b=none∧f.vw b=none) (hSc:∀b,S b→ca104 ≠ .map b)
    (hq:∀vs' S' m1 m',vs'.Perm vs→zqB ca104 m m1→Own S m1 S'→Chg S m1 m'→I vs' S' m'→Q (.tup []) m') :
    Wc prog tbl 130 [.c (.fn (.yield l) [] []),.c (.ptr b0 0)] m Q:=by
 have S0:=hS.stM ha104;obtain⟨τ0,M0⟩:∃τ,Mo (Fm.mp m ca104) f τ m 1 ca104 w.payments:=⟨_,ha104.mo 1⟩;refine zy6 _ _ ?_;intro D e0;obtain⟨τ1,S1,k1,Ly⟩:=S0.blk e0 τ0 2;have M1:=M0.k k1;intro m1 e1;obtain⟨τ2,S2,k2,La⟩:=S1.blk e1 τ1 3;have Ly:=Ly.k k2;have M2:=M1.k k2;refine⟨trivial,trivial,_,(hw.sub S2.sub).rc rfl,ha103.isSl,?_⟩;intro R3 O
 have hgo:∀(q:List Fld) (i:Nat) (ca:C) (rs:List zzf) (gs:List (Oc→Option Bool)) (p:Option (Clm→Option Int)) (s:List (Oc→Option Bool) × Option (Clm→Option Int)) (d x:M) (τ:Nat→Nat),i+q.length=w.c.Fields.length→w.c.Fields.drop i=q→rs.length=i→gs.length=i→St (Fm.mp m ca104) f x d→Lb (Fm.mp m ca104) x τ d 2 m.nxt 1 [.fn (.yield l) [] []]→Lb (Fm.mp m ca104) x τ d 3 D.nxt 1 [ca]→Ow (Fm.mp m ca104) x τ d 4 ca rs→Mo (Fm.mp m ca104) x τ d 1 ca104 p→(∀(j:Nat) (r:zzf) (g:Oc→Option Bool),rs[j]? = some r→gs[j]? = some g→Mo (Fm.mp m ca104) x τ d 5 (.map r.b) (some g)) →
   zu1 w q p=some s→rz=(gs++s.1,s.2)→R3 [.c (Il (i:Int))] d:=by
  intro q
  induction q with
  | nil=>
   intro i ca rs gs p s d x τ hi hd hrs hgs S5 Ly La Oa Mp Mm hp hrz;refine O _ _ ?_;rw[ha103.slLen];refine zpG.2 ⟨fun h=>by simp at hi; omega,fun _=>?_⟩;intro ab ka;obtain⟨τ6,S6,n,Lc⟩:=S5.blk ka τ 6;have Ly:=Ly.k n;have La:=La.k n;have Mp:=Mp.k n;have Oa:=Oa.k n;have Mm:=fun j r g hr hg=>(Mm j r g hr hg).k n (by decide);obtain⟨o,la,e,t,Lc⟩:=Lc.sto S6 [(C.fn (Fn.func 132) [] [(W.c (C0.ptr (D).nxt 0)),(W.c (C0.ptr (m).nxt 0)),(W.c (C0.ptr (d).nxt 0))])];have Ly:=Ly.k t;have La:=La.k t;have Mp:=Mp.k t;have Oa:=Oa.k t;have Mm:=fun j r g hr hg=>(Mm j r g hr hg).k t (by decide);refine⟨o,la,_,Lc.bk.rc rfl,trivial,trivial,_,(hw.sub (e.fs.trans e.sub)).rc rfl,?_⟩;obtain rfl:=oi hp
   have ba:rz.1=gs:=by rw[hrz]; exact List.append_nil _
   have da:rz.2=p:=by rw[hrz]
   have hext:=e.extB;have hpre:Pre f o:=⟨e.fs.trans e.sub,hS.fz,hS.fv⟩;obtain⟨ws,o1,o2⟩:=Oa.own;have o2:=zzg o2
   have hi':i=w.c.Fields.length:=by simpa using hi
   show Wc prog tbl 132 [.c (Il ((0:Nat):Int)),.agg 6 (zy7 (zu2 w.c.Fee)),.c (.ptr D.nxt 0),.c (.ptr m.nxt 0),.c (.ptr d.nxt 0)] o _
   have hg:ChG o D.nxt m.nxt d.nxt l ca (rs.map (·.b)) gs:=by
    refine⟨La.bk,Ly.bk,Lc.bk,?_,by rw[List.length_map]; omega,fun j r g hr hg=>?_⟩
    ·have:=o1.ls;rw[o2] at this;rw[List.length_map];exact this
    ·rw[List.getElem?_map] at hr
     obtain⟨r',hr',rfl⟩:∃r',rs[j]? = some r'∧r'.b=r:=by
      cases h:rs[j]? with
      | none=>rw[h] at hr; cases hr
      | some r'=>rw[h] at hr; exact⟨r',rfl,oi hr⟩
     obtain⟨b,ma,na⟩:=(Mm j r' g hr' hg).mi
     cases ma
     exact na
   have hSD:∀b,S b→¬ ChD D.nxt m.nxt d.nxt ca (rs.map (·.b)) b:=by
    intro b hb hD;have hlt:=hSl b hb;have n1:=S1.ext.nxt;have n5:=S5.ext.nxt
    have hF:∀b',b'=b→¬ ((Fm.mp m ca104).m.nxt≤b'∨(Fm.mp m ca104).B b'):=by
     intro b' hbb h;subst hbb;exact h.elim (fun h=>absurd hlt (Nat.not_lt_of_le h)) (hSc b' hb)
    rcases hD with h | h | h | ⟨o',n',s',d',he⟩ | h
    ·exact hF D.nxt h.symm La.new
    ·exact hF m.nxt h.symm Ly.new
    ·exact hF d.nxt h.symm Lc.new
    ·exact hF b rfl (Oa.nw _ _ _ _ _ he).1
    ·obtain⟨r',hr',rfl⟩:=List.mem_map.1 h;obtain⟨j,hj⟩:=List.getElem?_of_mem hr';have hjl:j < rs.length:=(List.getElem?_eq_some_iff.1 hj).1;exact hF _ rfl ((Mm j r' _ hj (List.getElem?_eq_getElem (by omega))).own _ rfl).1
   refine zze hc (by rw[List.length_map]; omega) rs.length 0 (zu2 w.c.Fee) vs [] S o (by rw[List.length_map]; omega) (Nat.le_trans hn0 hext.nxt) hpre hg (hI o hext (by rw[da]; exact Mp.mi)) hSf hSD (by rw[List.drop_zero,← ba]; exact hv) (by simpa using hN) hA _ fun vs' S' m' hpv ho hch hI'=>⟨true,rfl,?_⟩;exact hq vs' S' o m' hpv hext ho hch hI'
  | cons fl q ih=>
   intro i ca rs gs p s d x τ hi hd hrs hgs S5 Ly La Oa Mp Mm hp hrz
   have hil:i < w.c.Fields.length:=by simp at hi; omega
   have hfl:w.c.Fields[i]? = some fl:=by
    have h0:(w.c.Fields.drop i)[0]? = some fl:=by rw[hd]; rfl
    rwa [List.getElem?_drop,Nat.add_zero] at h0
   refine O _ _ ?_;rw[ha103.slLen];refine zpG.2 ⟨fun _=>?_,fun h=>absurd (Int.ofNat_lt.2 hil) h⟩;obtain⟨_,r1⟩:=zrO ha103 hfl;refine⟨i,rfl,hil,_,_,_,_,_,_,_,_,_,(r1 _ (S5.fs.trans S5.sub)).1,?_⟩;intro bb oa;obtain⟨τ6,S6,n,Lf⟩:=S5.blk oa τ 6;have Ly:=Ly.k n;have La:=La.k n;have Mp:=Mp.k n;have Oa:=Oa.k n;have Mm:=fun j r g hr hg=>(Mm j r g hr hg).k n (by decide);obtain⟨pa,qa,e,t,Lf⟩:=Lf.sto S6 [(Il fl.Crop),(Il fl.Value),(Il fl.Near),(Il fl.First.Lo),(Il fl.First.Hi),(Il fl.Second.Lo),(Il fl.Second.Hi),(Il fl.Umpire.Lo),(Il fl.Umpire.Hi)];have Ly:=Ly.k t;have La:=La.k t;have Mp:=Mp.k t;have Oa:=Oa.k t;have Mm:=fun j r g hr hg=>(Mm j r g hr hg).k t (by decide);refine⟨pa,qa,_,La.bk.rc rfl,_,_,_,_,_,(hw.sub (e.fs.trans e.sub)).ra,_,_,_,_,_,_,_,_,_,Lf.bk.ra,?_⟩;obtain⟨r,sa,ta⟩:=zqd (show(zui ({ c:=w.c,payments:=p }:UWk) fl).bind _=some s from hp);obtain⟨g,P,ua⟩:=zqd ta;obtain⟨s',va,wa⟩:=zqd ua
   cases wa
   refine zyD (w:=({ c:=w.c,payments:=p }:UWk)) (f_:=fl) e.pre (ha100.sub e.fs) (ha103.sub e.fs) (Mp.mc e) sa fun cb T xa ya za fa=>?_;obtain⟨τ8,S8,J,Mp,Mr⟩:=zzi e Mp ya fa za 5;have Ly:=Ly.k J;have La:=La.k J;have Oa:=Oa.k J;have Mm:=fun j r g hr hg=>(Mm j r g hr hg).k J (by decide)
   obtain⟨z,ga,_⟩:∃b,xa=.map b∧True:=by
    have:=Mr.mi;rw[P] at this;obtain⟨b,hb,_⟩:=this;exact⟨b,hb,trivial⟩
   subst ga;refine⟨_,rfl,?_,?_⟩
   ·rw[zoM Oa.noFn]; exact La.bk.rc rfl
   intro db Y;have Aa:=La;have Ba:=Oa;obtain⟨F,Ca,τ9,Da,S9,G,Oa'⟩:=Oa.app' zzh S8 (a:=(⟨z⟩:zzf)) (show Rp.rep (α:=zzf) T [.map z] ⟨z⟩ from rfl) (by omega) Y;have Ly:=Ly.k G;have La:=La.k G;have Mp:=Mp.k G;have Mr:=Mr.k G;have Mm:=fun j r g hr hg=>(Mm j r g hr hg).k G (by decide);refine⟨?_,F,Ca,Da,?_⟩
   ·rw[zoM Ba.noFn]; exact(Aa.bk.ext (Bk.new Y).2).rc rfl
   obtain⟨Z,Ea,Fa,y,La⟩:=La.sto S9 [F];have Ly:=Ly.k y;have Mp:=Mp.k y;have Oa':=Oa'.k y;have Mr:=Mr.k y;have Mm:=fun j r g hr hg=>(Mm j r g hr hg).k y (by decide);refine⟨Z,Ea,by unfold zl0; exact⟨by omega,by omega⟩,?_⟩
   have hx:rz=((gs++[g])++s'.1,s'.2):=by rw[hrz,List.append_assoc]; rfl
   rw[show(i:Int)+1=((i+1:Nat):Int) by omega];refine ih (i+1) F (rs++[⟨z⟩]) (gs++[g]) r.2 s' Z T τ9 (by simp at hi; omega) ?_ (by simp; omega) (by simp; omega) Fa Ly La Oa' Mp ?_ va hx
   ·rw[← List.drop_drop,hd]; rfl
   ·intro j rr gg hrr hgg;rw[List.getElem?_append] at hrr hgg
    by_cases hj:j < i
    ·rw[if_pos (by omega)] at hrr hgg;exact Mm j rr gg hrr hgg
    ·rw[if_neg (by omega)] at hrr hgg
     have Ga:j - rs.length=0:=by
      rcases Nat.eq_zero_or_pos (j - rs.length) with h | h
      ·exact h
      ·rw[List.getElem?_eq_none (by simp; omega)] at hrr; cases hrr
     rw[Ga] at hrr;rw[show j - gs.length=0 by omega] at hgg
     cases hrr; cases hgg
     rw[P] at Mr;exact Mr
 exact hgo w.c.Fields 0 .sl0 [] [] w.payments rz m1 f τ2 (by omega) rfl rfl rfl S2 Ly La (Ow.nil ..) M2 (fun j r g hr _=>by cases hr) hp rfl
def lastN:List Int→Int→Nat
 | _x::y::l,n=>if y≤n then lastN (y::l) n+1 else 0
 | _,_=>0
theorem zzk:∀(l:List Int) (n:Int),l ≠ []→lastN l n < l.length
 | [],_,h=>absurd rfl h
 | [_],_,_=>by simp[lastN]
 | x::y::l,n,_=>by
  unfold lastN
  split
  ·have:=zzk (y::l) n (by simp)
   simp only[List.length_cons] at this ⊢; omega
  ·simp
theorem zzl:∀(l:List Int) (n:Int),(∀x,l.head? = some x→x≤n)→∀x,l[lastN l n]? = some x→x≤n
 | [],_,_,x,h=>by simp at h
 | [a],n,h0,x,h=>by
  simp[lastN] at h; subst h; exact h0 a rfl
 | a::y::l,n,h0,x,h=>by
  unfold lastN at h
  split at h
  ·rename_i hy
   rw[List.getElem?_cons_succ] at h;exact zzl (y::l) n (fun z hz=>by simp at hz; omega) x h
  ·simp at h; subst h; exact h0 _ rfl
theorem zzm:∀(l:List Int) (n:Int),l.Pairwise (· < ·)→∀j,lastN l n < j→∀x,l[j]? = some x→n < x
 | [],_,_,j,_,x,h=>by simp at h
 | [a],n,_,j,hj,x,h=>by
  have:j < [a].length:=(List.getElem?_eq_some_iff.1 h).1
  simp at this; omega
 | a::y::l,n,hp,j,hj,x,h=>by
  have hp':=(List.pairwise_cons.1 hp).2;unfold lastN at hj
  cases j with
  | zero=>omega
  | succ j=>
   rw[List.getElem?_cons_succ] at h
   split at hj
   ·exact zzm (y::l) n hp' j (by omega) x h
   ·rename_i hy
    have hx:x∈y::l:=List.mem_of_getElem? h
    rcases List.mem_cons.1 hx with hx | hx
    ·omega
    ·have:=(List.pairwise_cons.1 hp').1 x hx; omega
theorem zzn{l:List Int}(hp:l.Pairwise (· < ·)){i j:Nat}{x y:Int}(hx:l[i]? = some x)(hy:l[j]? = some y)(hij:i < j):x < y:=by
 obtain⟨h1,h2⟩:=List.getElem?_eq_some_iff.1 hx;obtain⟨h3,h4⟩:=List.getElem?_eq_some_iff.1 hy;rw[← h2,← h4];exact List.pairwise_iff_getElem.1 hp i j h1 h3 hij
theorem zzo{l:List Int}{n:Int}(hp:l.Pairwise (· < ·)){k:Nat}(hk:k < l.length)(h1:∀x,l[k]? = some x→x≤n)(h2:∀x,l[k+1]? = some x→n < x)(h0:∀x,l.head? = some x→x≤n):lastN l n=k:=by
 have hne:l ≠ []:=fun h=>by subst h; simp at hk
 have hl:=zzk l n hne;obtain⟨a,ha⟩:∃a,l[lastN l n]? = some a:=⟨_,List.getElem?_eq_getElem hl⟩;obtain⟨b,hb⟩:∃b,l[k]? = some b:=⟨_,List.getElem?_eq_getElem hk⟩;have h3:=zzl l n h0 a ha;have h4:=h1 b hb
 rcases Nat.lt_trichotomy (lastN l n) k with h | h | h
 ·have:=zzm l n hp k h b hb; omega
 ·exact h
 ·have hk1:k+1 < l.length:=by omega
  have h5:=h2 _ (List.getElem?_eq_getElem hk1)
  rcases Nat.lt_or_ge (k+1) (lastN l n) with h6 | h6
  ·have:=zzn hp (List.getElem?_eq_getElem hk1) ha h6; omega
  ·have h7:lastN l n=k+1:=by omega
   rw[h7,List.getElem?_eq_getElem hk1] at ha
   cases ha; omega
def nth(l:List Int)(i:Nat):Int:=l.getD i 0
theorem zzp{l:List Int}{i:Nat}{x:Int}(h:l[i]? = some x):nth l i=x:=by
 unfold nth; rw[List.getD_eq_getElem?_getD,h]; rfl
theorem zzq{l:List Int}{i:Nat}(h:i < l.length):l[i]? = some (nth l i):=by
 rw[List.getElem?_eq_getElem h,zzp (List.getElem?_eq_getElem h)]
def zzr(a b x y n:Int):Int:=(x * (b - n)+y * (n - a)) / (b - a)
def zzs(counts rates:List Int)(n:Int):Int:=
 let i:=lastN counts n
 if nth counts i=n then nth rates i else zzr (nth counts i) (nth counts (i+1)) (nth rates i) (nth rates (i+1)) n
theorem zzt{a b x y n z:Int}(h1:a≤n)(h2:n≤b)(hab:a < b)(_hx:0≤x)(_hy:0≤y)(hxz:x≤z)(hyz:y≤z):zzr a b x y n≤z:=by
  unfold zzr;have e1:x * (b - n)≤z * (b - n):=Int.mul_le_mul_of_nonneg_right hxz (by omega);have e2:y * (n - a)≤z * (n - a):=Int.mul_le_mul_of_nonneg_right hyz (by omega)
  have e3:z * (b - n)+z * (n - a)=z * (b - a):=by rw[← Int.mul_add]; congr 1; omega
  have:x * (b - n)+y * (n - a)≤z * (b - a):=by omega
  calc (x * (b - n)+y * (n - a)) / (b - a)≤(z * (b - a)) / (b - a):=Int.ediv_le_ediv (by omega) this
    _=z:=Int.mul_ediv_cancel _ (by omega)
theorem zzu{a b x y n z:Int}(h1:a≤n)(h2:n≤b)(hab:a < b)(_hz:0≤z)(hxz:z≤x)(hyz:z≤y):z≤zzr a b x y n:=by
  unfold zzr;have e1:z * (b - n)≤x * (b - n):=Int.mul_le_mul_of_nonneg_right hxz (by omega);have e2:z * (n - a)≤y * (n - a):=Int.mul_le_mul_of_nonneg_right hyz (by omega)
  have e3:z * (b - n)+z * (n - a)=z * (b - a):=by rw[← Int.mul_add]; congr 1; omega
  have:z * (b - a)≤x * (b - n)+y * (n - a):=by omega
  calc z=(z * (b - a)) / (b - a):=(Int.mul_ediv_cancel _ (by omega)).symm
    _≤_:=Int.ediv_le_ediv (by omega) this
structure Cnt (counts:List Int):Prop where
 pw:counts.Pairwise (· < ·)
 hd:counts.head? = some 0
 lst:counts.getLast? = some 100
structure Rts (counts rates:List Int):Prop extends Cnt counts where
 len:rates.length=counts.length
 rng:∀r∈rates,0≤r∧r≤100
variable {cs rs:List Int}
theorem Cnt.ne(h:Cnt cs):cs ≠ []:=fun e=>by have:=h.hd; rw[e] at this; cases this
theorem Cnt.h0(h:Cnt cs){n:Int}(hn:0≤n):∀x,cs.head? = some x→x≤n:=fun x hx=>by
 have:=h.hd; rw[this] at hx; cases hx; exact hn
theorem Cnt.lt(h:Cnt cs)(n:Int):lastN cs n < cs.length:=zzk cs n h.ne
theorem Cnt.btw(h:Cnt cs){n:Int}(hn:0≤n)(h100:n≤100):nth cs (lastN cs n)≤n∧(nth cs (lastN cs n) ≠ n→lastN cs n+1 < cs.length∧n < nth cs (lastN cs n+1)):=by
 have hl:=h.lt n;have h1:=zzl cs n (h.h0 hn) _ (zzq hl);refine⟨h1,fun hne=>?_⟩
 have hlast:cs[cs.length - 1]? = some 100:=by rw[← h.lst,List.getLast?_eq_getElem?]
 have hlt:lastN cs n+1 < cs.length:=by
  rcases Nat.lt_or_ge (lastN cs n+1) cs.length with hh | hh
  ·exact hh
  ·have:lastN cs n=cs.length - 1:=by omega
   rw[this] at hne h1;have:=zzp hlast
   omega
 exact⟨hlt,zzm cs n h.pw _ (Nat.lt_succ_self _) _ (zzq hlt)⟩
theorem Rts.at(h:Rts cs rs){i:Nat}(hi:i < cs.length):0≤nth rs i∧nth rs i≤100:=by
 have:i < rs.length:=by rw[h.len]; exact hi
 exact h.rng _ (List.mem_of_getElem? (zzq this))
theorem Rts.loss_rng(h:Rts cs rs){n:Int}(hn:0≤n)(h100:n≤100):0≤zzs cs rs n∧zzs cs rs n≤100:=by
 obtain⟨h1,h2⟩:=h.btw hn h100;have hi:=h.at (h.lt n);unfold zzs; dsimp only
 split
 ·exact hi
 ·rename_i hne
  obtain⟨h3,h4⟩:=h2 hne;have hi2:=h.at h3;exact⟨zzu h1 (by omega) (by omega) (Int.le_refl _) hi.1 hi2.1,zzt h1 (by omega) (by omega) hi.1 hi2.1 hi.2 hi2.2⟩
theorem Cnt.last_at(h:Cnt cs){i:Nat}(hi:i < cs.length):lastN cs (nth cs i)=i:=by
 refine zzo h.pw hi (fun x hx=>?_) (fun x hx=>?_) fun x hx=>?_
 ·rw[zzp hx]; exact Int.le_refl _
 ·exact zzn h.pw (zzq hi) hx (Nat.lt_succ_self _)
 ·have h0:cs[0]? = some x:=by rw[← hx]; cases cs <;> rfl
  rcases Nat.eq_zero_or_pos i with h5 | h5
  ·subst h5; rw[zzp h0]; exact Int.le_refl _
  ·exact Int.le_of_lt (zzn h.pw h0 (zzq hi) h5)
end
end Go.Proofs.YteojndcmgpiklaaGreat

namespace Go.Proofs.YteojndcmgpiklaaGreat
open _root_.Go.Proofs.Tryz
open Go.Abs
set_option maxRecDepth 100000
noncomputable section
structure VT (t:Tf):Prop where
 frm:0≤t.From∧t.From≤120
 lst:0≤t.Least∧t.Least≤100
 wks:t.Weeks.Pairwise (· < ·)∧t.Weeks.head? = some 0∧∀x∈t.Weeks,0≤x∧x≤120
 cts:t.Counts.Pairwise (· < ·)∧t.Counts.head? = some 0∧∀x∈t.Counts,0≤x∧x≤100
 c100:t.Counts.getLast? = some 100
 rne:t.Rates ≠ []
 rts:∀c∈t.Rates,c.length=t.Weeks.length∧∀w∈c,w.length=t.Counts.length∧∀r∈w,0≤r∧r≤100
def zzv(l:List Tf):Nat:=match l with | []=>0 | t::_=>t.Rates.length
structure VL (l:List Tf):Prop where
 ne:l ≠ []
 vt:∀t∈l,VT t
 pw:(l.map (·.From)).Pairwise (· < ·)
 hd:(l.map (·.From)).head? = some 0
 crp:∀t∈l,t.Rates.length=zzv l
def zzw(t:Tf):Prop:=4 < t.Weeks.length∨5 < t.Counts.length∨3 < t.Rates.length
def zzx(l:List Tf):Prop:=3 < l.length∨∃t∈l,zzw t
open Classical in
def zzy(l:List Tf):Int:=if zzx l then 3 else if VL l then 0 else 1
theorem zzz{l:List Tf}:zzy l=0↔¬ zzx l∧VL l:=by
 unfold zzy
 split
 ·rename_i h; exact⟨fun h=>by omega,fun h'=>absurd h h'.1⟩
 ·rename_i h
  split
  ·rename_i h2; exact⟨fun _=>⟨h,h2⟩,fun _=>rfl⟩
  ·rename_i h2; exact⟨fun h=>by omega,fun h'=>absurd h'.2 h2⟩
def zzA(t:Tf)(crop day:Int):List Int:=(t.Rates.getD crop.toNat []).getD (lastN t.Weeks day) []
def zzB(t:Tf)(loss:Int):Int:=if loss < t.Least then 0 else if t.Whole=true then loss else loss - t.Least
def zzC(t:Tf)(crop day count:Int):Int:=zzB t (zzs t.Counts (zzA t crop day) count)
instance:Inhabited Tf:=⟨⟨0,false,0,[],[],[]⟩⟩
def ofN(l:List Tf)(day:Int):Tf:=l.getD (lastN (l.map (·.From)) day) default
def zzD(l:List Tf)(crop day count:Int):Int:=zzC (ofN l day) crop day count
theorem VT.wlt{t:Tf}(h:VT t)(d:Int):lastN t.Weeks d < t.Weeks.length:=zzk _ _ fun e=>by have:=h.wks.2.1; rw[e] at this; cases this
theorem VT.cnt{t:Tf}(h:VT t):Cnt t.Counts:=⟨h.cts.1,h.cts.2.1,h.c100⟩
theorem VT.rates{t:Tf}(h:VT t){crop:Int}(h0:0≤crop)(h1:crop < t.Rates.length)(day:Int) :
  ∃wks,t.Rates[crop.toNat]? = some wks∧wks[lastN t.Weeks day]? = some (zzA t crop day)∧Rts t.Counts (zzA t crop day):=by
 have hc:crop.toNat < t.Rates.length:=by omega
 have e1:=List.getElem?_eq_getElem hc;obtain⟨q1,q2⟩:=h.rts _ (List.getElem_mem hc)
 have hw:lastN t.Weeks day < t.Rates[crop.toNat].length:=by rw[q1]; exact h.wlt day
 have e2:=List.getElem?_eq_getElem hw
 have e3:zzA t crop day=t.Rates[crop.toNat][lastN t.Weeks day]:=by
  have e4:t.Rates.getD crop.toNat []=t.Rates[crop.toNat]:=by rw[List.getD_eq_getElem?_getD,e1]; rfl
  unfold zzA;rw[e4,List.getD_eq_getElem?_getD,e2,Option.getD_some]
 obtain⟨q3,q4⟩:=q2 _ (List.getElem_mem hw);refine⟨_,e1,by rw[e2,e3],⟨h.cnt,by rw[e3]; exact q3,by rw[e3]; exact q4⟩⟩
theorem VL.of{l:List Tf}(h:VL l)(day:Int):l[lastN (l.map (·.From)) day]? = some (ofN l day)∧ofN l day∈l:=by
 have hl:=zzk (l.map (·.From)) day fun e=>h.ne (List.map_eq_nil_iff.1 e);rw[List.length_map] at hl
 have e:l[lastN (l.map (·.From)) day]? = some (ofN l day):=by
  unfold ofN;rw[List.getD_eq_getElem?_getD,List.getElem?_eq_getElem hl,Option.getD_some]
 exact⟨e,List.mem_of_getElem? e⟩
theorem zzE{t:Tf}(h:VT t){x:Int}(h0:0≤x)(h1:x≤100):0≤zzB t x∧zzB t x≤100:=by
 have:=h.lst;unfold zzB
 split
 ·omega
 ·split <;> omega
theorem VL.vof{l:List Tf}(h:VL l)(day:Int):VT (ofN l day):=h.vt _ (h.of day).2
theorem VL.cof{l:List Tf}(h:VL l)(day:Int):(ofN l day).Rates.length=zzv l:=h.crp _ (h.of day).2
theorem VL.rts{l:List Tf}(h:VL l){crop:Int}(h0:0≤crop)(h1:crop < zzv l)(day:Int):Rts (ofN l day).Counts (zzA (ofN l day) crop day):=by
 obtain⟨_,_,_,q⟩:=(h.vof day).rates h0 (by rw[h.cof]; exact h1) day;exact q
theorem VL.part_rng{l:List Tf}(h:VL l){crop n:Int}(h0:0≤crop)(h1:crop < zzv l)(hn:0≤n)(hn1:n≤100)(day:Int):0≤zzD l crop day n∧zzD l crop day n≤100:=by
 obtain⟨q1,q2⟩:=(h.rts h0 h1 day).loss_rng hn hn1;exact zzE (h.vof day) q1 q2
end
end Go.Proofs.YteojndcmgpiklaaGreat

namespace Go.Proofs.YteojndcmgpiklaaGreat
open _root_.Go.Proofs.Tryz
open Go.Abs
set_option maxRecDepth 100000
noncomputable section
theorem zzF{n lo hi:Int}:Ev (zrR n lo hi) (lo≤n∧n≤hi):=Ev.ite fun _=>Ev.dec Iff.rfl
theorem zzG{r:Rg}{n:Int}:Ev (zsg r n) (r.Lo≤n∧n≤r.Hi):=Ev.ite fun _=>Ev.dec Iff.rfl
theorem zzH{n:Int}:Ev (zsi n) (0≤n∧n≤120):=zzG.ret
theorem zzI{n:Int}:Ev (zsj n) (0≤n∧n≤100):=zzG.ret
theorem zzJ{n:Int}:Ev (zsk n) (0≤n∧n≤100):=zzG.ret
theorem zzK{n s:Int}(hs:0≤s∧s≤4611686018427387904):Ev (zsh n s) (0≤n∧n < s):=Ev.gd (fI (by omega)) (zzG.ret.imp (by show 0≤n∧n≤s - 1↔_; omega))
theorem zzL{l:List Int}{k:Nat}(h:k < l.length):idx l (k:Int)=some (nth l k):=zq5 (zzq h)
theorem zzM{l:List Int}{k:Nat}(h0:0 < k)(h:k - 1 < l.length):idx l ((k:Int) - 1)=some (nth l (k - 1)):=zq7 h0 (zzq h)
theorem zzN:∀{l:List Int},(∀j,0 < j→j < l.length→nth l (j - 1) < nth l j)→l.Pairwise (· < ·)
 | [],_=>.nil
 | [a],_=>List.pairwise_singleton _ _
 | a::b::l,h=>by
  have h1:(b::l).Pairwise (· < ·):=zzN fun j h0 hj=>by
   have:=h (j+1) (by omega) (by simp at hj ⊢; omega);obtain⟨i,rfl⟩:∃i,j=i+1:=⟨j - 1,by omega⟩;exact this
  have h2:a < b:=h 1 (by omega) (by simp);refine List.pairwise_cons.2 ⟨fun x hx=>?_,h1⟩
  rcases List.mem_cons.1 hx with rfl | hx
  ·exact h2
  ·exact Int.lt_trans h2 ((List.pairwise_cons.1 h1).1 x hx)
theorem zzO{l:List Int}:(∀j,0 < j→j < l.length→nth l (j - 1) < nth l j)↔l.Pairwise (· < ·):=
 ⟨zzN,fun h j h0 hj=>zzn h (zzq (by omega)) (zzq hj) (by omega)⟩
theorem zzP{l:List Int}(hl:zrg l):Ev (zsm l) (l.Pairwise (· < ·)∧l.head? = some 0):=by
 have hl:=hl.lt
 have key:Ev (zsl l (l.length+1) 0) ((∀j,j < l.length→(0 < j→nth l (j - 1) < nth l j))∧l.head? = some 0):=by
  refine Ev.loop (F:=zsl l) (fin:=if (0:Int) < (l.length:Int) then ((idx l (0:Int)).bind fun x=>some (decide (x=(0:Int)))) else some false) (fun d k hk=>?_) (fun d=>?_) (by omega) fun _=>?_
  ·rw[zsl,if_pos (by omega),zzL hk,obs]
   by_cases h0:0 < k
   ·rw[if_pos (show(0:Int) < k by omega),zqf (fI (by omega)),zzM h0 (by omega),obs,zqf (fI (by omega))];refine⟨fun h=>?_,fun h=>?_⟩
    ·rw[if_neg (by have:=h h0; omega)]
    ·rw[if_pos (by
      rcases Int.lt_or_le (nth l (k - 1)) (nth l k) with h1 | h1
      ·exact absurd (fun _=>h1) h
      ·exact h1)]
   ·rw[if_neg (show ¬ (0:Int) < k by omega),zqf (fI (by omega))];exact⟨fun _=>rfl,fun h=>absurd (fun h'=>absurd h' h0) h⟩
  ·rw[zsl,if_neg (Int.lt_irrefl _)]
  ·cases l with
   | nil=>exact Ev.ff (by simp)
   | cons a l=>rw[if_pos (by simp)]; exact Ev.bind (zq8 rfl) (Ev.dec (by simp))
 exact key.imp (and_congr ⟨fun h=>zzN fun j h0 hj=>h j hj h0,fun h j hj h0=>zzO.2 h j h0 hj⟩ Iff.rfl)
theorem zzQ{l:List Int}{most:Int}(hl:zrg l):Ev (zrS l most) ((l.Pairwise (· < ·)∧l.head? = some 0)∧∀x∈l,0≤x∧x≤most):=by
 have hl:=hl.lt
 have key:Ev (prRises_L0 l most (l.length+1) 0) ((∀j,j < l.length→((0≤nth l j∧nth l j≤most)∧(0 < j→nth l (j - 1) < nth l j)))∧l.head? = some 0):=by
  refine Ev.loop (F:=prRises_L0 l most) (fin:=if (0:Int) < (l.length:Int) then ((idx l (0:Int)).bind fun x=>some (decide (x=(0:Int)))) else some false) (fun d k hk=>?_) (fun d=>?_) (by omega) fun _=>?_
  ·rw[prRises_L0,if_pos (by omega),zzL hk,obs];obtain⟨b,h1,h2⟩:=zzF (n:=nth l k) (lo:=0) (hi:=most);rw[h1,obs]
   cases b with
   | false=>
    rw[if_neg (by simp)];exact⟨fun h=>(by have:=h2.2 h.1; cases this),fun _=>rfl⟩
   | true=>
    have h3:=h2.1 rfl;rw[if_pos rfl]
    by_cases h0:0 < k
    ·rw[if_pos (show(0:Int) < k by omega),obs,zqf (fI (by omega)),zzM h0 (by omega),obs,zqf (fI (by omega))];refine⟨fun h=>?_,fun h=>?_⟩
     ·rw[if_neg (by have:=h.2 h0; omega)]
     ·rw[if_pos (by
       rcases Int.lt_or_le (nth l (k - 1)) (nth l k) with h1 | h1
       ·exact absurd ⟨h3,fun _=>h1⟩ h
       ·exact h1)]
    ·rw[if_neg (show ¬ (0:Int) < k by omega),zqf (fI (by omega))];exact⟨fun _=>rfl,fun h=>absurd ⟨h3,fun h'=>absurd h' h0⟩ h⟩
  ·rw[prRises_L0,if_neg (Int.lt_irrefl _)]
  ·cases l with
   | nil=>exact Ev.ff (by simp)
   | cons a l=>rw[if_pos (by simp)]; exact Ev.bind (zq8 rfl) (Ev.dec (by simp))
 refine key.imp ⟨fun⟨h1,h2⟩=>⟨⟨zzN fun j h0 hj=>(h1 j hj).2 h0,h2⟩,fun x hx=>?_⟩,fun⟨⟨h1,h2⟩,h3⟩=>⟨fun j hj=>⟨h3 _ (List.mem_of_getElem? (zzq hj)),fun h0=>zzO.2 h1 j h0 hj⟩,h2⟩⟩;obtain⟨i,hi⟩:=List.mem_iff_getElem?.1 hx;rw[← zzp hi];exact(h1 i (List.getElem?_eq_some_iff.1 hi).1).1
theorem gTf{l:List Tf}{p:Tf→Option Bool}:∀{d:Nat} {x:Int},zsI l p d x=gIdx l p d x
 | 0,_=>rfl
 | d+1,x=>by unfold zsI gIdx; simp only[gTf (d:=d)]
theorem zzR{l:List Tf}{p:Tf→Option Bool}:∀{d:Nat} {x:Int},zsM l p d x=gIdx l p d x
 | 0,_=>rfl
 | d+1,x=>by unfold zsM gIdx; simp only[zzR (d:=d)]
theorem gCl{l:List Clm}{p:Clm→Option Bool}:∀{d:Nat} {x:Int},zsQ l p d x=gIdx l p d x
 | 0,_=>rfl
 | d+1,x=>by unfold zsQ gIdx; simp only[gCl (d:=d)]
theorem gI{l:List Int}{p:Int→Option Bool}:∀{d:Nat} {x:Int},zsV l p d x=gIdx l p d x
 | 0,_=>rfl
 | d+1,x=>by unfold zsV gIdx; simp only[gI (d:=d)]
theorem gL{l:List (List Int)}{p:List Int→Option Bool}:∀{d:Nat} {x:Int},zs0 l p d x=gIdx l p d x
 | 0,_=>rfl
 | d+1,x=>by unfold zs0 gIdx; simp only[gL (d:=d)]
theorem gLL{l:List (List (List Int))}{p:List (List Int)→Option Bool}:∀{d:Nat} {x:Int},zs5 l p d x=gIdx l p d x
 | 0,_=>rfl
 | d+1,x=>by unfold zs5 gIdx; simp only[gLL (d:=d)]
theorem zzS{l:List Tf}{p:Tf→Option Bool}{q:Tf→Prop}(hp:∀a∈l,Ev (p a) (q a))(hl:zrg l):Ev (zsL l p) (∀a∈l,q a):=Ev.each hp hl.lt gTf
theorem zzT{l:List Clm}{p:Clm→Option Bool}{q:Clm→Prop}(hp:∀a∈l,Ev (p a) (q a))(hl:zrg l):Ev (zsT l p) (∀a∈l,q a):=Ev.each hp hl.lt gCl
theorem zzU{l:List Int}{p:Int→Option Bool}{q:Int→Prop}(hp:∀a∈l,Ev (p a) (q a))(hl:zrg l):Ev (zsY l p) (∀a∈l,q a):=Ev.each hp hl.lt gI
theorem zzV{l:List (List Int)}{p:List Int→Option Bool}{q:List Int→Prop}(hp:∀a∈l,Ev (p a) (q a))(hl:zrg l):Ev (zs3 l p) (∀a∈l,q a):=Ev.each hp hl.lt gL
theorem zzW{l:List (List (List Int))}{p:List (List Int)→Option Bool}{q:List (List Int)→Prop}(hp:∀a∈l,Ev (p a) (q a))(hl:zrg l):Ev (zs8 l p) (∀a∈l,q a):=Ev.each hp hl.lt gLL
theorem zzX{l:List Tf}{p:Tf→Option Bool}{q:Tf→Prop}(hp:∀a∈l,Ev (p a) (q a))(hl:zrg l):Ev (zsO l p) (∃a∈l,q a):=Ev.contains hp hl.lt zzR
theorem last_at{l:List Int}(h:l ≠ []):∃x,idx l ((l.length:Int) - 1)=some x∧l.getLast? = some x:=by
 have hl:0 < l.length:=List.length_pos_iff.2 h;refine⟨l[l.length - 1],zq6 (by omega) (by omega),?_⟩;rw[List.getLast?_eq_getElem?,List.getElem?_eq_getElem]
theorem few{t:Tf}(h:¬ zzw t):t.Weeks.length≤4∧t.Counts.length≤5∧t.Rates.length≤3:=by unfold zzw at h; omega
theorem zzY{l:List Int}{x:Int}(h:l.head? = some x):l ≠ []:=fun e=>by rw[e] at h; cases h
theorem zzZ{t:Tf}(h:¬ zzw t){w:List Int}:Ev (zta t w) (w.length=t.Counts.length∧∀r∈w,0≤r∧r≤100):=by
 have hf:=few h;exact(Ev.ite fun hl=>(zzU (q:=fun r=>0≤r∧r≤100) (fun _ _=>zzJ) (zrh (n:=5) (by omega) (by omega))).ret).imp (and_congr Int.ofNat_inj Iff.rfl)
theorem zz0{t:Tf}(h:¬ zzw t){c:List (List Int)}:Ev (ztb t c) (c.length=t.Weeks.length∧∀w∈c,w.length=t.Counts.length∧∀r∈w,0≤r∧r≤100):=by
 have hf:=few h;exact(Ev.ite fun hl=>(zzV (fun _ _=>zzZ h) (zrh (n:=4) (by omega) (by omega))).ret).imp (and_congr Int.ofNat_inj Iff.rfl)
theorem zz1{t:Tf}:VT t↔((0≤t.From∧t.From≤120)∧(0≤t.Least∧t.Least≤100)∧(t.Weeks.Pairwise (· < ·)∧t.Weeks.head? = some 0)∧(∀x∈t.Weeks,0≤x∧x≤120)∧(t.Counts.Pairwise (· < ·)∧t.Counts.head? = some 0)∧t.Counts.getLast? = some 100∧t.Rates ≠ []∧∀c∈t.Rates,c.length=t.Weeks.length∧∀w∈c,w.length=t.Counts.length∧∀r∈w,0≤r∧r≤100):=by
 constructor
 ·intro h; exact⟨h.frm,h.lst,⟨h.wks.1,h.wks.2.1⟩,h.wks.2.2,⟨h.cts.1,h.cts.2.1⟩,h.c100,h.rne,h.rts⟩
 ·rintro⟨h1,h2,h3,h4,h5,h6,h7,h8⟩
  refine⟨h1,h2,⟨h3.1,h3.2,h4⟩,⟨h5.1,h5.2,fun x hx=>?_⟩,h6,h7,h8⟩;obtain⟨i,hi⟩:=List.mem_iff_getElem?.1 hx;have hil:=(List.getElem?_eq_some_iff.1 hi).1
  have h0:t.Counts[0]? = some 0:=by rw[← h5.2]; cases t.Counts <;> rfl
  have hl:t.Counts[t.Counts.length - 1]? = some 100:=by rw[← h6,List.getLast?_eq_getElem?]
  constructor
  ·rcases Nat.eq_zero_or_pos i with h9 | h9
   ·subst h9; rw[h0] at hi; cases hi; exact Int.le_refl _
   ·exact Int.le_of_lt (zzn h5.1 h0 hi h9)
  ·rcases Nat.lt_or_ge i (t.Counts.length - 1) with h9 | h9
   ·exact Int.le_of_lt (zzn h5.1 hi hl h9)
   ·rw[show i=t.Counts.length - 1 by omega,hl] at hi; cases hi; exact Int.le_refl _
theorem zz2{t:Tf}(h:¬ zzw t):Ev (ztc t) (VT t):=by
 have hf:=few h;have hw:zrg t.Weeks:=zrh (n:=4) (by omega) (by omega);have hc:zrg t.Counts:=zrh (n:=5) (by omega) (by omega);have hr:zrg t.Rates:=zrh (n:=3) (by omega) (by omega);refine Ev.imp (Ev.and zzH fun _=>Ev.and zzJ fun _=>Ev.and (zzP hw) fun _=>Ev.and (zzU (q:=fun r=>0≤r∧r≤120) (fun _ _=>zzH) hw) fun _=>Ev.and (K:=t.Counts.getLast? = some 100∧t.Rates ≠ []∧∀c∈t.Rates,c.length=t.Weeks.length∧∀w∈c,w.length=t.Counts.length∧∀r∈w,0≤r∧r≤100) (zzP hc) fun hr2=>?_) zz1.symm;obtain⟨x,hx,hx2⟩:=last_at (zzY hr2.2);refine Ev.gd (fI (by omega)) (Ev.bind hx (Ev.imp (Ev.ite fun _=>Ev.ite fun _=>(zzW (fun _ _=>zz0 h) hr).ret) ?_));rw[hx2];refine and_congr ⟨fun h=>by rw[h],fun h=>oi h⟩ (and_congr ?_ Iff.rfl);rw[← List.length_pos_iff]; omega
theorem zz3{t:Tf}{c w:Nat}{wks:List (List Int)}{rs:List Int}(hc:t.Rates[c]? = some wks)(hw:wks[w]? = some rs)(hl:rs.length=t.Counts.length)(h5:t.Counts.length≤5)(hw4:w≤4){K:Bool→Int→Option Bool}{b:Bool} :
  ((∀r∈rs,0≤r∧r≤100)→zrT t (c:Int) (w:Int) K 1000000 b 0=K b ((w:Int)+1))∧(¬ (∀r∈rs,0≤r∧r≤100)→zrT t (c:Int) (w:Int) K 1000000 b 0=some false):=by
 have key:=zra (n:=rs.length) (F:=fun d x=>zrT t (c:Int) (w:Int) K d b x) (ok:=fun j=>0≤nth rs j∧nth rs j≤100) (bad:=some false) (fin:=K b ((w:Int)+1)) (fun d k hk=>by
  rw[zrT,if_pos (by omega),zq5 hc,obs,zq5 hw,obs,zzL hk,obs];obtain⟨b',h1,h2⟩:=zzF (n:=nth rs k) (lo:=0) (hi:=100);rw[h1,obs]
  cases b' with
  | true=>rw[if_pos rfl,zqf (fI (by omega))]; exact⟨fun _=>rfl,fun h=>absurd (h2.1 rfl) h⟩
  | false=>rw[if_neg (by simp)]; exact⟨fun h=>(by have:=h2.2 h; cases this),fun _=>rfl⟩) (fun d=>by rw[zrT,if_neg (by omega),zqf (fI (by omega))]) (d:=1000000) (by omega)
 have hiff:(∀j,j < rs.length→0≤nth rs j∧nth rs j≤100)↔∀r∈rs,0≤r∧r≤100:=⟨fun h r hr=>by
  obtain⟨i,hi⟩:=List.mem_iff_getElem?.1 hr
  rw[← zzp hi]; exact h i (List.getElem?_eq_some_iff.1 hi).1,fun h j hj=>h _ (List.mem_of_getElem? (zzq hj))⟩
 rw[hiff] at key;exact key
def zz4(t:Tf)(rs:List Int):Prop:=rs.length=t.Counts.length∧∀r∈rs,0≤r∧r≤100
theorem zre{α:Type}{l:List α}{P:α→Prop}:(∀j,j < l.length→∀a,l[j]? = some a→P a)↔∀a∈l,P a:=
 ⟨fun h a ha=>by
  obtain⟨i,hi⟩:=List.mem_iff_getElem?.1 ha
  exact h i (List.getElem?_eq_some_iff.1 hi).1 a hi,fun h j _ a ha=>h a (List.mem_of_getElem? ha)⟩
theorem zz5{t:Tf}(h:¬ zzw t){c:Nat}{wks:List (List Int)}(hc:t.Rates[c]? = some wks)(hl:wks.length=t.Weeks.length){K:Bool→Int→Option Bool}{b:Bool} :
  ((∀w∈wks,zz4 t w)→zrU t (c:Int) K 1000000 b 0=K b ((c:Int)+1))∧(¬ (∀w∈wks,zz4 t w)→zrU t (c:Int) K 1000000 b 0=some false):=by
 have hf:=few h;have hcl:c < t.Rates.length:=(List.getElem?_eq_some_iff.1 hc).1
 have key:=zra (n:=wks.length) (F:=fun d x=>zrU t (c:Int) K d b x) (ok:=fun j=>∀rs,wks[j]? = some rs→zz4 t rs) (bad:=some false) (fin:=K b ((c:Int)+1)) (fun d k hk=>by
  have hw:=List.getElem?_eq_getElem hk;rw[zrU,if_pos (by omega),zq5 hc,obs,zq5 hw,obs]
  by_cases hlen:wks[k].length=t.Counts.length
  ·rw[if_pos (by omega)];obtain⟨q1,q2⟩:=zz3 (t:=t) (b:=b) (K:=zrU t (c:Int) K d) hc hw hlen hf.2.1 (by omega);exact⟨fun hok=>q1 (hok _ hw).2,fun hok=>q2 fun h'=>hok fun rs hrs=>by rw[hw] at hrs; cases hrs; exact⟨hlen,h'⟩⟩
  ·rw[if_neg (by omega)]
   exact⟨fun hok=>absurd (hok _ hw).1 hlen,fun _=>rfl⟩) (fun d=>by rw[zrU,if_neg (by omega),zqf (fI (by omega))]) (d:=1000000) (by omega)
 rw[zre (P:=zz4 t)] at key;exact key
theorem zz6{t:Tf}(h:¬ zzw t):Ev (zrV t 1000000 false 0) (∀c∈t.Rates,c.length=t.Weeks.length∧∀w∈c,zz4 t w):=by
 have hf:=few h
 have key:=Ev.loop (n:=t.Rates.length) (F:=fun d x=>zrV t d false x) (ok:=fun j=>∀c,t.Rates[j]? = some c→c.length=t.Weeks.length∧∀w∈c,zz4 t w) (fin:=some true) (P:=True) (fun d k hk=>by
  have hc:=List.getElem?_eq_getElem hk;rw[zrV,if_pos (by omega),zq5 hc,obs]
  by_cases hlen:t.Rates[k].length=t.Weeks.length
  ·rw[if_pos (by omega)];obtain⟨q1,q2⟩:=zz5 h (b:=false) (K:=zrV t d) hc hlen;exact⟨fun hok=>q1 (hok _ hc).2,fun hok=>q2 fun h'=>hok fun rs hrs=>by rw[hc] at hrs; cases hrs; exact⟨hlen,h'⟩⟩
  ·rw[if_neg (by omega)]
   exact⟨fun hok=>absurd (hok _ hc).1 hlen,fun _=>rfl⟩) (fun d=>by rw[zrV,if_neg (Int.lt_irrefl _)]) (d:=1000000) (by omega) fun _=>Ev.tt trivial
 refine key.imp ⟨fun h=>zre.1 h.1,fun h=>⟨zre.2 h,trivial⟩⟩
theorem zz7{t:Tf}(h:¬ zzw t):Ev (zrW t) (VT t):=by
 have hf:=few h;have hw:zrg t.Weeks:=zrh (n:=4) (by omega) (by omega);have hc:zrg t.Counts:=zrh (n:=5) (by omega) (by omega);refine Ev.imp (Ev.and zzF fun _=>Ev.and zzF fun _=>Ev.and (zzQ hw) fun _=>Ev.and (K:=t.Counts.getLast? = some 100∧t.Rates ≠ []∧∀c∈t.Rates,c.length=t.Weeks.length∧∀w∈c,zz4 t w) (zzQ hc) fun hr2=>?_) ?_
 ·obtain⟨x,hx,hx2⟩:=last_at (zzY hr2.1.2);refine Ev.gd (fI (by omega)) (Ev.bind hx (Ev.imp (Ev.ite fun _=>Ev.itn fun _=>zz6 h) ?_));rw[hx2];refine and_congr ⟨fun h=>by rw[h],fun h=>oi h⟩ (and_congr ?_ Iff.rfl);rw[← List.length_pos_iff]; omega
 ·refine⟨fun⟨h1,h2,h3,h4,h5,h6,h7⟩=>⟨h1,h2,⟨h3.1.1,h3.1.2,h3.2⟩,⟨h4.1.1,h4.1.2,h4.2⟩,h5,h6,h7⟩,fun h=>⟨h.frm,h.lst,⟨⟨h.wks.1,h.wks.2.1⟩,h.wks.2.2⟩,⟨⟨h.cts.1,h.cts.2.1⟩,h.cts.2.2⟩,h.c100,h.rne,h.rts⟩⟩
theorem zz8{t:Tf}:Ev (zsr t) (zzw t):=by
 unfold zsr zzw
 by_cases h1:(4:Int) < (t.Weeks.length:Int)
 ·rw[if_pos h1]; exact Ev.tt (.inl (by omega))
 ·rw[if_neg h1]
  by_cases h2:(5:Int) < (t.Counts.length:Int)
  ·rw[if_pos h2]; exact Ev.tt (.inr (.inl (by omega)))
  ·rw[if_neg h2]; exact Ev.dec (by omega)
theorem zz9{l:List Tf}:Ev (ztd l) (zzx l):=by
 unfold ztd zzx
 by_cases h1:(3:Int) < (l.length:Int)
 ·rw[if_pos h1]; exact Ev.tt (.inl (by omega))
 ·rw[if_neg h1];exact(zzX (fun _ _=>zz8) (zrh (n:=3) (by omega) (by omega))).ret.imp ⟨fun h=>.inr h,fun h=>h.elim (fun h=>by omega) id⟩
theorem zAa{l:List Tf}(hl:zrg l):zso l=some (l.map (·.From)):=by
 unfold zrg at hl
 exact zrc (l:=l) (F:=zsn l) (fun t:Tf=>t.From) some (fun d k acc a ha hac=>by
  have hk:=(List.getElem?_eq_some_iff.1 ha).1
  rw[zsn,if_pos (by omega),zq5 ha,obs,zqf (show acc.length < 1048576 by omega),zqf (fI (by omega))]) (fun d acc=>by rw[zsn,if_neg (Int.lt_irrefl _)]) (by omega)
theorem zAb{l:List Tf}(h:l ≠ []):∃t,l[0]? = some t∧zzv l=t.Rates.length:=by
 cases l with
 | nil=>exact absurd rfl h
 | cons t l=>exact⟨t,rfl,rfl⟩
theorem zAc{l:List Tf}(h:l ≠ []){t:Tf}:Ev (zsp l t) (t.Rates.length=zzv l):=by
 obtain⟨u,h1,h2⟩:=zAb h;exact Ev.bind (zq8 h1) (Ev.dec (by rw[h2]; exact Int.ofNat_inj))
theorem zAd{l:List Tf}(h:¬ zzx l):l.length≤3∧∀t∈l,¬ zzw t:=by
 unfold zzx at h
 exact⟨by rcases Nat.lt_or_ge 3 l.length with h1 | h1; exact absurd (.inl h1) h; exact h1,fun t ht h1=>h (.inr ⟨t,ht,h1⟩)⟩
theorem zAe{l:List Tf}(h:¬ zzx l):Ev (zte l) (VL l):=by
 obtain⟨h3,ht⟩:=zAd h;have hs:zrg l:=zrh h3 (by omega)
 have key:Ev (zte l) ((∀t∈l,VT t)∧((l.map (·.From)).Pairwise (· < ·)∧(l.map (·.From)).head? = some 0)∧∀t∈l,t.Rates.length=zzv l):=by
  refine Ev.and (zzS (fun t h'=>zz2 (ht t h')) hs) fun _=>Ev.bind (zAa hs) (Ev.and (zzP (by unfold zrg; rw[List.length_map]; exact hs)) fun hr=>(zzS (fun t _=>zAc (fun e=>by rw[e] at hr; cases hr.2)) hs).ret)
 exact key.imp ⟨fun⟨h1,h2,h4⟩=>⟨fun e=>(by rw[e] at h2; cases h2.2),h1,h2.1,h2.2,h4⟩,fun h=>⟨h.vt,⟨h.pw,h.hd⟩,h.crp⟩⟩
theorem zAf{l:List Tf}:ztg l=some (zzy l):=by
 unfold ztg;refine zz9.pick (fun h=>?_) fun h=>?_
 ·rw[if_pos rfl]; unfold zzy; rw[if_pos h]
 ·rw[if_neg (by simp)];refine(zAe h).pick (fun hv=>?_) fun hv=>?_
  ·rw[if_pos rfl]; unfold zzy; rw[if_neg h,if_pos hv]
  ·rw[if_neg (by simp)]; unfold zzy; rw[if_neg h,if_neg hv]
def zla(l:List Tf)(j:Nat)(t:Tf):Prop:=VT t∧t.Rates.length=zzv l∧(j=0→t.From=0)∧(0 < j→∀u,l[j - 1]? = some u→u.From < t.From)
theorem zAg{l:List Tf}(h:¬ zzx l)(hne:l ≠ []):((∀j,j < l.length→∀t,l[j]? = some t→zla l j t)→zrX l (l.length+1) 0=some 0)∧(¬ (∀j,j < l.length→∀t,l[j]? = some t→zla l j t)→zrX l (l.length+1) 0=some 1):=by
 obtain⟨h3,ht⟩:=zAd h;obtain⟨u0,hu0,hcr⟩:=zAb hne;refine zra (F:=zrX l) (fun d k hk=>?_) (fun d=>by rw[zrX,if_neg (Int.lt_irrefl _),if_neg (by have:=List.length_pos_iff.2 hne; omega)]) (Nat.lt_succ_self _);have hg:=List.getElem?_eq_getElem hk;generalize l[k]=t at hg;have hT:=zz7 (ht t (List.mem_of_getElem? hg));have hgo:∀{P:Prop},(∀t',l[k]? = some t'→P)→P:=fun f=>f _ hg;rw[zrX,if_pos (by omega),zq5 hg,obs];have zAl:∀{P:Tf→Prop},(∀t',l[k]? = some t'→P t')↔P t:=⟨fun f=>f _ hg,fun f t' ht'=>by rw[hg] at ht'; cases ht'; exact f⟩;rw[zAl];have done:∀{o:Option Int},(VT t→t.Rates.length=zzv l→(k=0→t.From=0)→(0 < k→∀u,l[k - 1]? = some u→u.From < t.From)→o=zrX l d ((k:Int)+1))→(¬ zla l k t→o=some 1)→(zla l k t→o=zrX l d ((k:Int)+1))∧(¬ zla l k t→o=some 1):=fun a b=>⟨fun h=>a h.1 h.2.1 h.2.2.1 h.2.2.2,b⟩;obtain⟨b,hb,hb2⟩:=hT;rw[hb,obs]
 cases b with
 | false=>rw[if_neg (by simp)]; exact⟨fun h=>(by have:=hb2.2 h.1; cases this),fun _=>rfl⟩
 | true=>
  have hv:=hb2.1 rfl;rw[if_pos rfl,obs,zq8 hu0,obs]
  by_cases hr:t.Rates.length=u0.Rates.length
  ·rw[if_pos (by omega)]
   have hr':t.Rates.length=zzv l:=by omega
   by_cases h0:k=0
   ·rw[if_pos (by omega),obs]
    by_cases hf:t.From=0
    ·rw[if_pos hf,if_neg (by omega),zqf (fI (by omega))];exact⟨fun _=>rfl,fun hn=>absurd ⟨hv,hr',fun _=>hf,fun h'=>by omega⟩ hn⟩
    ·rw[if_neg hf];exact⟨fun h'=>absurd (h'.2.2.1 h0) hf,fun _=>rfl⟩
   ·rw[if_neg (by omega),if_pos (by omega),obs,zqf (fI (by omega))]
    have hp:k - 1 < l.length:=by omega
    have hgp:=List.getElem?_eq_getElem hp;generalize l[k - 1]=u at hgp;rw[zq7 (by omega) hgp,obs]
    by_cases hle:t.From≤u.From
    ·rw[if_pos hle];exact⟨fun h'=>by have:=h'.2.2.2 (by omega) u hgp; omega,fun _=>rfl⟩
    ·rw[if_neg hle,zqf (fI (by omega))];exact⟨fun _=>rfl,fun hn=>absurd ⟨hv,hr',fun h'=>absurd h' h0,fun _ u' hu'=>by rw[hgp] at hu'; cases hu'; omega⟩ hn⟩
  ·rw[if_neg (by omega)];exact⟨fun h'=>by have:=h'.2.1; omega,fun _=>rfl⟩
theorem zAh{l:List Tf}(hne:l ≠ []):(∀j,j < l.length→∀t,l[j]? = some t→zla l j t)↔VL l:=by
 have hm:∀j t,l[j]? = some t→nth (l.map (·.From)) j=t.From:=fun j t h=>zzp (by rw[List.getElem?_map,h]; rfl)
 constructor
 ·intro h;refine⟨hne,fun t ht=>?_,zzN fun j h0 hj=>?_,?_,fun t ht=>?_⟩
  ·obtain⟨i,hi⟩:=List.mem_iff_getElem?.1 ht;exact(h i (List.getElem?_eq_some_iff.1 hi).1 t hi).1
  ·rw[List.length_map] at hj;have h1:=List.getElem?_eq_getElem hj;have h2:=List.getElem?_eq_getElem (show j - 1 < l.length by omega);rw[hm _ _ h1,hm _ _ h2];exact(h j hj _ h1).2.2.2 h0 _ h2
  ·obtain⟨t,h1,_⟩:=zAb hne;have:=(h 0 (List.getElem?_eq_some_iff.1 h1).1 t h1).2.2.1 rfl
   cases l with
   | nil=>cases h1
   | cons a l=>cases h1; simp[this]
  ·obtain⟨i,hi⟩:=List.mem_iff_getElem?.1 ht;exact(h i (List.getElem?_eq_some_iff.1 hi).1 t hi).2.1
 ·intro h j hj t ht;refine⟨h.vt t (List.mem_of_getElem? ht),h.crp t (List.mem_of_getElem? ht),fun h0=>?_,fun h0 u hu=>?_⟩
  ·subst h0;have:=h.hd
   cases l with
   | nil=>cases ht
   | cons a l=>cases ht; simpa using this
  ·have:=zzO.2 h.pw j h0 (by rw[List.length_map]; exact hj)
   rwa [hm _ _ ht,hm _ _ hu] at this
theorem zAi{l:List Tf}:zrZ l=some (zzy l):=by
 unfold zrZ
 by_cases h1:(3:Int) < (l.length:Int)
 ·rw[if_pos h1]; unfold zzy; rw[if_pos (.inl (by omega))]
 ·rw[if_neg h1]
  have key:=zra (n:=l.length) (F:=fun d x=>zrY l d 0 x) (ok:=fun j=>∀t,l[j]? = some t→¬ zzw t) (bad:=some 3) (fin:=zrX l (l.length+1) 0) (fun d k hk=>by
   have hg:=List.getElem?_eq_getElem hk;generalize l[k]=t at hg;have zAl:(∀t',l[k]? = some t'→¬ zzw t')↔¬ zzw t:=⟨fun f=>f _ hg,fun f t' ht'=>by rw[hg] at ht'; cases ht'; exact f⟩;rw[zAl,zrY,if_pos (by omega),zq5 hg,obs];unfold zzw
   by_cases h4:(4:Int) < (t.Weeks.length:Int)
   ·rw[if_pos h4]; exact⟨fun h=>by omega,fun _=>rfl⟩
   ·rw[if_neg h4,obs]
    by_cases h5:(5:Int) < (t.Counts.length:Int)
    ·rw[if_pos h5]; exact⟨fun h=>by omega,fun _=>rfl⟩
    ·rw[if_neg h5,obs]
     by_cases h6:(3:Int) < (t.Rates.length:Int)
     ·rw[if_pos h6]; exact⟨fun h=>by omega,fun _=>rfl⟩
     ·rw[if_neg h6,zqf (fI (by omega))]; exact⟨fun _=>rfl,fun h=>by omega⟩) (fun d=>by rw[zrY,if_neg (Int.lt_irrefl _)]) (d:=l.length+1) (by omega)
  rw[zre (P:=fun t=>¬ zzw t)] at key
  by_cases hm:zzx l
  ·unfold zzy;rw[if_pos hm];refine key.2 fun hh=>?_
   rcases hm with hm | ⟨t,ht,hm⟩
   ·omega
   ·exact hh t ht hm
  ·refine(key.1 (zAd hm).2).trans ?_;unfold zzy;rw[if_neg hm]
   by_cases hne:l=[]
   ·subst hne;rw[if_neg fun h=>h.ne rfl]
    rfl
   ·obtain⟨q1,q2⟩:=zAg hm hne;rw[zAh hne] at q1 q2
    by_cases hv:VL l
    ·rw[if_pos hv,q1 hv]
    ·rw[if_neg hv,q2 hv]
structure zAj (t:Tf):Prop where
 w:t.Weeks.length≤7
 c:t.Counts.length≤7
 r:t.Rates.length≤5
 rr:∀c∈t.Rates,c.length≤7∧∀w∈c,w.length≤7
def zAk(l:List Tf):Prop:=l.length≤5∧∀t∈l,zAj t
theorem zAl{α:Type}{l:List α}{k:Nat}{a:α}(h:l[k]? = some a){P:α→Prop}:(∀x,l[k]? = some x→P x)↔P a:=⟨fun f=>f _ h,fun f x hx=>by rw[h] at hx; cases hx; exact f⟩
theorem zAm{l:List Tf}{i c:Nat}{t:Tf}{wks:List (List Int)}(hi:l[i]? = some t)(hc:t.Rates[c]? = some wks)(h7:wks.length≤7)(h5:c < 5){K:Bool→Int→Option Bool}{b:Bool} :
  ((∀w∈wks,w.length≤7)→zr8 l (i:Int) (c:Int) K 1000000 b 0=K b ((c:Int)+1))∧(¬ (∀w∈wks,w.length≤7)→zr8 l (i:Int) (c:Int) K 1000000 b 0=some false):=by
 have key:=zra (n:=wks.length) (F:=fun d x=>zr8 l (i:Int) (c:Int) K d b x) (ok:=fun j=>∀w,wks[j]? = some w→w.length≤7) (bad:=some false) (fin:=K b ((c:Int)+1)) (fun d k hk=>by
  have hg:=List.getElem?_eq_getElem hk;generalize wks[k]=w at hg;rw[zAl hg (P:=fun w=>w.length≤7),zr8,zq5 hi,obs,zq5 hc,obs,if_pos (by omega),obs,zq5 hc,obs,zq5 hg,obs]
  by_cases h:(7:Int) < (w.length:Int)
  ·rw[if_pos h]; exact⟨fun h=>by omega,fun _=>rfl⟩
  ·rw[if_neg h,zqf (fI (by omega))]; exact⟨fun _=>rfl,fun h=>by omega⟩) (fun d=>by rw[zr8,zq5 hi,obs,zq5 hc,obs,if_neg (Int.lt_irrefl _),zqf (fI (by omega))]) (d:=1000000) (by omega)
 rw[zre (l:=wks) (P:=fun w:List Int=>w.length≤7)] at key;exact key
theorem zAn{l:List Tf}{i:Nat}{t:Tf}(hi:l[i]? = some t)(h5:t.Rates.length≤5)(hi5:i < 5){K:Bool→Int→Option Bool}{b:Bool} :
  ((∀c∈t.Rates,c.length≤7∧∀w∈c,w.length≤7)→zr9 l (i:Int) K 1000000 b 0=K b ((i:Int)+1))∧(¬ (∀c∈t.Rates,c.length≤7∧∀w∈c,w.length≤7)→zr9 l (i:Int) K 1000000 b 0=some false):=by
 have key:=zra (n:=t.Rates.length) (F:=fun d x=>zr9 l (i:Int) K d b x) (ok:=fun j=>∀c,t.Rates[j]? = some c→c.length≤7∧∀w∈c,w.length≤7) (bad:=some false) (fin:=K b ((i:Int)+1)) (fun d k hk=>by
  have hg:=List.getElem?_eq_getElem hk;generalize t.Rates[k]=c at hg;rw[zAl hg (P:=fun c=>c.length≤7∧∀w∈c,w.length≤7),zr9,zq5 hi,obs,if_pos (by omega),obs,zq5 hg,obs]
  by_cases h:(7:Int) < (c.length:Int)
  ·rw[if_pos h]; exact⟨fun h=>by omega,fun _=>rfl⟩
  ·rw[if_neg h];obtain⟨q1,q2⟩:=zAm (K:=zr9 l (i:Int) K d) (b:=b) hi hg (by omega) (by omega)
   exact⟨fun h'=>q1 h'.2,fun h'=>q2 fun h2=>h' ⟨by omega,h2⟩⟩) (fun d=>by rw[zr9,zq5 hi,obs,if_neg (Int.lt_irrefl _),zqf (fI (by omega))]) (d:=1000000) (by omega)
 rw[zre (l:=t.Rates) (P:=fun c:List (List Int)=>c.length≤7∧∀w∈c,w.length≤7)] at key;exact key
theorem zAo{l:List Tf}:Ev (zsb l) (zAk l):=by
 unfold zsb zAk;refine(Ev.itn (p:=(5:Int) < (l.length:Int)) (K:=∀t∈l,zAj t) fun h5=>?_).imp (and_congr (by omega) Iff.rfl)
 have key:=Ev.loop (n:=l.length) (F:=fun d x=>zsa l d false x) (ok:=fun j=>∀t,l[j]? = some t→zAj t) (fin:=some true) (P:=True) (fun d k hk=>by
  have hg:=List.getElem?_eq_getElem hk;generalize l[k]=t at hg;rw[zAl hg (P:=zAj),zsa,if_pos (by omega),zq5 hg,obs]
  by_cases h1:(7:Int) < (t.Weeks.length:Int)
  ·rw[if_pos h1]; exact⟨fun h=>by have:=h.w; omega,fun _=>rfl⟩
  ·rw[if_neg h1,obs]
   by_cases h2:(7:Int) < (t.Counts.length:Int)
   ·rw[if_pos h2]; exact⟨fun h=>by have:=h.c; omega,fun _=>rfl⟩
   ·rw[if_neg h2,obs]
    by_cases h3:(5:Int) < (t.Rates.length:Int)
    ·rw[if_pos h3]; exact⟨fun h=>by have:=h.r; omega,fun _=>rfl⟩
    ·rw[if_neg h3];obtain⟨q1,q2⟩:=zAn (K:=zsa l d) (b:=false) hg (by omega) (by omega)
     exact⟨fun h=>q1 h.rr,fun h=>q2 fun h'=>h ⟨by omega,by omega,by omega,h'⟩⟩) (fun d=>by rw[zsa,if_neg (Int.lt_irrefl _)]) (d:=l.length+1) (by omega) fun _=>Ev.tt trivial
 exact key.imp ⟨fun h=>zre.1 h.1,fun h=>⟨zre.2 h,trivial⟩⟩
theorem zAp{l:List Int}(h:l.length≤1048576):zr7 l=some l:=by unfold zr7; rw[zqf (by simp; omega)]; simp
theorem zAq{l:List Tf}{i c:Nat}{t:Tf}{wks:List (List Int)}(hi:l[i]? = some t)(hc:t.Rates[c]? = some wks)(h7:wks.length≤7)(hw:∀w∈wks,w.length≤7)(h5:c < 5){a1:Int}{a2:Bool}{a3:Int}{a4:List (List (List Int))}(h4:a4.length < 5){K:Int→Bool→Int→List (List (List Int))→Int→Option (List Tf)} :
  zsc l (i:Int) a1 a2 a3 a4 (c:Int) K 1000000 [] 0=K a1 a2 a3 (a4++[wks]) ((c:Int)+1):=by
 have key:=zrc (l:=wks) (fun w=>w) (F:=fun d acc x=>zsc l (i:Int) a1 a2 a3 a4 (c:Int) K d acc x) (fun acc=>K a1 a2 a3 (a4++[acc]) ((c:Int)+1)) (fun d k acc a ha hac=>by
  have hk:=(List.getElem?_eq_some_iff.1 ha).1;have hs:=hw a (List.mem_of_getElem? ha)
  rw[zsc,zq5 hi,obs,zq5 hc,obs,if_pos (by omega),obs,zq5 hc,obs,zq5 ha,obs,zAp (by omega),obs,zqf (show acc.length < 1048576 by omega),zqf (fI (by omega))]) (fun d acc=>by
  rw[zsc,zq5 hi,obs,zq5 hc,obs,if_neg (Int.lt_irrefl _),zqf (show a4.length < 1048576 by omega),zqf (fI (by omega))]) (d:=1000000) (by omega)
 rw[List.map_id'] at key;exact key
theorem zAr{l out:List Tf}{i:Nat}{t:Tf}(hi:l[i]? = some t)(ht:zAj t)(hi5:i < 5)(ho:out.length < 5){r1 r2:List Int}{a1:Int}{a2:Bool}{a3:Int}{K:List Tf→Int→Option (List Tf)} :
  zsd l out (i:Int) r1 r2 K 1000000 a1 a2 a3 [] 0=K (out++[⟨a1,a2,a3,r1,r2,t.Rates⟩]) ((i:Int)+1):=by
 have hr:=ht.r
 have key:=zrc (l:=t.Rates) (fun w=>w) (F:=fun d acc x=>zsd l out (i:Int) r1 r2 K d a1 a2 a3 acc x) (fun acc=>K (out++[⟨a1,a2,a3,r1,r2,acc⟩]) ((i:Int)+1)) (fun d k acc a ha hac=>by
  have hk:=(List.getElem?_eq_some_iff.1 ha).1;obtain⟨q1,q2⟩:=ht.rr a (List.mem_of_getElem? ha)
  rw[zsd,zq5 hi,obs,if_pos (by omega),zAq hi ha q1 q2 (by omega) (by omega)]) (fun d acc=>by
  rw[zsd,zq5 hi,obs,if_neg (Int.lt_irrefl _),zqf (show out.length < 1048576 by omega),zqf (fI (by omega))]) (d:=1000000) (by omega)
 rw[List.map_id'] at key;exact key
theorem zAs{l:List Tf}(h:zAk l):zsf l=some l:=by
 obtain⟨h5,ht⟩:=h
 have key:=zrc (l:=l) (fun w=>w) (F:=zse l) some (fun d k acc a ha hac=>by
  have hk:=(List.getElem?_eq_some_iff.1 ha).1;have hT:=ht a (List.mem_of_getElem? ha);have h1:=hT.w;have h2:=hT.c;rw[zse,if_pos (by omega),zq5 ha]
  simp only[obs]
  rw[zAp (by omega),obs,zAp (by omega),obs,zAr ha hT (by omega) (by omega)]) (fun d acc=>by rw[zse,if_neg (Int.lt_irrefl _)]) (d:=l.length+1) (by omega)
 rw[List.map_id'] at key;exact key
theorem zAt{x y:Int}(hx:0≤x∧x≤100)(hy:0≤y∧y≤100):0≤x * y∧x * y≤10000:=by
 refine⟨Int.mul_nonneg hx.1 hy.1,?_⟩;have h1:x * y≤100 * y:=Int.mul_le_mul_of_nonneg_right hx.2 hy.1
 omega
theorem zAu{a b x y n:Int}(h1:0≤a∧a≤n)(h2:n≤b∧b≤100)(hab:a < b)(hx:0≤x∧x≤100)(hy:0≤y∧y≤100):0≤zzr a b x y n∧zzr a b x y n≤100:=
 ⟨zzu h1.2 h2.1 hab (Int.le_refl _) hx.1 hy.1,zzt h1.2 h2.1 hab hx.1 hy.1 hx.2 hy.2⟩
theorem Cnt.rng{t:Tf}(h:VT t){i:Nat}(hi:i < t.Counts.length):0≤nth t.Counts i∧nth t.Counts i≤100:=h.cts.2.2 _ (List.mem_of_getElem? (zzq hi))
theorem zAv{l:List Tf}(h:l ≠ []):zr3 l=some (zzv l:Int):=by
 obtain⟨t,h1,h2⟩:=zAb h;unfold zr3; rw[zq8 h1,obs,h2]
theorem zAw{x:Int}:zst x=some false:=by unfold zst; simp
theorem zAx{x:Int}:zsu x=some false:=by unfold zsu; simp
theorem zAy{x y:Int}:Ev (zsv x y) (x < y):=by
 unfold zsv;rw[zAw,obs,if_neg (by simp)];exact Ev.dec Iff.rfl
theorem fU{n:Int}(h:0≤n∧n < 18446744073709551616):zl0 .u64 n:=h
theorem zAz{l:List Int}(hp:l.Pairwise (· < ·)){i j:Nat}(hij:i≤j)(hj:j < l.length):nth l i≤nth l j:=by
 rcases Nat.lt_or_ge i j with h | h
 ·exact Int.le_of_lt (zzn hp (zzq (by omega)) (zzq hj) h)
 ·rw[show i=j by omega]; exact Int.le_refl _
theorem zAA{l:List Int}{x:Int}(hp:l.Pairwise (· < ·))(hl:l.length≤1048576):∀d (i j:Nat),i≤j→j≤l.length→j - i < d→(∀m,m < i→nth l m < x)→(∀m,j≤m→m < l.length→x≤nth l m) →
  ∃(k:Nat) (f:Bool),zsw l x d (i:Int) (j:Int)=some ((k:Int),f)∧k≤l.length∧(∀m,m < k→nth l m < x)∧(∀m,k≤m→m < l.length→x≤nth l m)∧(f=true↔k < l.length∧nth l k=x)
 | 0,i,j,_,_,h,_,_=>by omega
 | d+1,i,j,hij,hj,h,hlo,hhi=>by
  rw[zsw]
  by_cases hlt:i < j
  ·have e1:zl5 .u64 ((i:Int)+(j:Int))=((i+j:Nat):Int):=by rw[wz (fU (by omega))]; omega
   have e2:((i+j:Nat):Int) / 2=(((i+j) / 2:Nat):Int):=by omega
   have hm:(i+j) / 2 < l.length:=by omega
   have e3:zl5 .i64 (((i+j) / 2:Nat):Int)=(((i+j) / 2:Nat):Int):=wz (fI (by omega));rw[if_pos (by omega),zqf (fI (by omega)),e1,zqf (by omega),zqf (by omega),zqf (by omega),e2,zqf (fU (by omega)),e3,zzL hm,obs]
   generalize hmid:(i+j) / 2=md at *
   obtain⟨b,h1,h2⟩:=zAy (x:=nth l md) (y:=x);rw[h1,obs]
   cases b with
   | true=>
    rw[if_pos rfl,zqf (fI (by omega)),show(md:Int)+1=((md+1:Nat):Int) by omega];have h3:=h2.1 rfl;exact zAA hp hl d (md+1) j (by omega) hj (by omega) (fun m hm'=>by have:=zAz hp (show m≤md by omega) hm; omega) hhi
   | false=>
    rw[if_neg (by simp)]
    have h3:x≤nth l md:=by
     rcases Int.lt_or_le (nth l md) x with h4 | h4
     ·have:=h2.2 h4; cases this
     ·exact h4
    exact zAA hp hl d i md (by omega) (by omega) (by omega) hlo (fun m hm' hml=>by have:=zAz hp hm' hml; omega)
  ·have hij':i=j:=by omega
   subst hij';rw[if_neg (Int.lt_irrefl _)]
   by_cases hil:i < l.length
   ·rw[if_pos (by omega),zzL hil,obs]
    by_cases he:nth l i=x
    ·rw[if_pos he]; exact⟨i,true,rfl,hj,hlo,hhi,⟨fun _=>⟨hil,he⟩,fun _=>rfl⟩⟩
    ·rw[if_neg he,obs,zAx,obs,if_neg (by simp)];exact⟨i,false,rfl,hj,hlo,hhi,⟨fun h=>(by cases h),fun h=>absurd h.2 he⟩⟩
   ·rw[if_neg (by omega)];exact⟨i,false,rfl,hj,hlo,hhi,⟨fun h=>(by cases h),fun h=>absurd h.1 hil⟩⟩
theorem zAB{l:List Int}{x:Int}(hp:l.Pairwise (· < ·))(hl:l.length≤1048576) :
  ∃(k:Nat) (f:Bool),zsx l x=some ((k:Int),f)∧k≤l.length∧(∀m,m < k→nth l m < x)∧(∀m,k≤m→m < l.length→x≤nth l m)∧(f=true↔k < l.length∧nth l k=x):=
 zAA hp hl (l.length+1) 0 l.length (Nat.zero_le _) (Nat.le_refl _) (by omega) (fun m h=>by omega) (fun m h1 h2=>by omega)
theorem zAC{l:List Int}{z:Int}(h:l.head? = some z):nth l 0=z∧0 < l.length:=by
 cases l with
 | nil=>cases h
 | cons a l=>cases h; exact⟨rfl,Nat.succ_pos _⟩
theorem zAD{l:List Int}{n:Int}(hp:l.Pairwise (· < ·))(hh:l.head? = some 0)(hl:l.length≤1000)(hn:0≤n∧n≤1000):zsy l n=some (lastN l n:Int):=by
 obtain⟨k,f,h1,h2,h3,h4,_⟩:=zAB (x:=n+1) hp (by omega);obtain⟨e0,l0⟩:=zAC hh
 have hk:0 < k:=by
  rcases Nat.eq_zero_or_pos k with h | h
  ·have:=h4 0 (by omega) l0; omega
  ·exact h
 have hu:lastN l n=k - 1:=zzo hp (by omega) (fun x hx=>by rw[← zzp hx]; have:=h3 (k - 1) (by omega); omega) (fun x hx=>by
  have hlt:=(List.getElem?_eq_some_iff.1 hx).1
  rw[← zzp hx]; have:=h4 (k - 1+1) (by omega) hlt; omega) (fun x hx=>by rw[hh] at hx; cases hx; exact hn.1)
 unfold zsy;rw[zqf (fI (by omega)),h1,obs,zqf (fI (by show _≤(k:Int) - 1∧_; omega)),hu]
 congr 1
 show(k:Int) - 1=_
 omega
theorem zAE{l:List Tf}(h:VL l)(hl:l.length≤3){d:Int}(hd:0≤d∧d≤120):zsz l d=some (ofN l d):=by
 obtain⟨h1,_⟩:=h.of d;unfold zsz;rw[zAa (zrh hl (by omega)),obs,zAD h.pw h.hd (by rw[List.length_map]; omega) (by omega),obs,zq5 h1,obs]
theorem zAF{t:Tf}(h:VT t)(hf:¬ zzw t){hh:Ht}(h0:0≤hh.crop)(h1:hh.crop < t.Rates.length)(hn:0≤hh.Count)(h100:hh.Count≤100)(hd:0≤hh.Day∧hh.Day≤120):zsC t hh=some (zzs t.Counts (zzA t hh.crop hh.Day) hh.Count):=by
 obtain⟨day,n,crop⟩:=hh
 dsimp only at h0 h1 hn h100 hd
 have hfew:=few hf;obtain⟨wks,q1,q2,q3⟩:=h.rates h0 h1 day;have hc:=h.cnt;obtain⟨b1,b2⟩:=q3.btw hn h100;obtain⟨k,f,k1,k2,k3,k4,k5⟩:=zAB (x:=n) h.cts.1 (show t.Counts.length≤1048576 by omega);obtain⟨e0,l0⟩:=zAC h.cts.2.1;unfold zsC
 dsimp only
 rw[show idx t.Rates crop=idx t.Rates ((crop.toNat:Nat):Int) by rw[Int.toNat_of_nonneg h0],zq5 q1,obs,zAD h.wks.1 h.wks.2.1 (by omega) (by omega),obs,zq5 q2,obs,k1,obs]
 dsimp only
 by_cases hfl:f=true
 ·obtain⟨c1,c2⟩:=k5.1 hfl
  have hu:lastN t.Counts n=k:=by rw[← c2]; exact hc.last_at c1
  rw[if_pos hfl,zzL (by rw[q3.len]; exact c1),obs];unfold zzs
  dsimp only
  rw[hu,if_pos c2]
 ·have hne:∀m,m < t.Counts.length→nth t.Counts m ≠ n:=fun m hm he=>by
   rcases Nat.lt_or_ge m k with h6 | h6
   ·have:=k3 m h6; omega
   ·rcases Nat.lt_or_ge k m with h7 | h7
    ·have h8:=k4 k (Nat.le_refl _) (by omega);have:=zzn h.cts.1 (zzq (show k < t.Counts.length by omega)) (zzq hm) h7
     omega
    ·have:m=k:=by omega
     subst this;exact hfl (k5.2 ⟨hm,he⟩)
  obtain⟨b3,b4⟩:=b2 (hne _ (hc.lt n))
  have hu:lastN t.Counts n+1=k:=by
   rcases Nat.lt_trichotomy (lastN t.Counts n+1) k with h6 | h6 | h6
   ·have:=k3 _ h6; omega
   ·exact h6
   ·have:=k4 (lastN t.Counts n) (by omega) (hc.lt n);have:=hne _ (hc.lt n)
    omega
  subst hu;have hl:=hc.lt n
  have hlr:lastN t.Counts n < (zzA t crop day).length:=by rw[q3.len]; exact hl
  have hlr2:lastN t.Counts n+1 < (zzA t crop day).length:=by rw[q3.len]; exact b3
  have hi:=q3.at hl;have hi2:=q3.at b3;have c1:=Cnt.rng h hl;have c2:=Cnt.rng h b3
  have hcast:((lastN t.Counts n+1:Nat):Int) - 1=((lastN t.Counts n:Nat):Int):=by omega
  rw[if_neg hfl,zqf (fI (by omega)),hcast,zzL hl,obs,zzL b3,obs,zqf (fI (by omega)),zzL hlr,obs,zzL hlr2];have hline:=zAu ⟨c1.1,b1⟩ ⟨Int.le_of_lt b4,c2.2⟩ (by omega) hi hi2;unfold zzs
  dsimp only
  rw[if_neg (hne _ hl)];unfold zzr at hline ⊢
  generalize nth t.Counts (lastN t.Counts n)=a at *
  generalize nth t.Counts (lastN t.Counts n+1)=b at *
  generalize nth (zzA t crop day) (lastN t.Counts n)=x at *
  generalize nth (zzA t crop day) (lastN t.Counts n+1)=y at *
  have p1:=zAt hi (show 0≤b - n∧b - n≤100 by omega);have p2:=zAt hi2 (show 0≤n - a∧n - a≤100 by omega);rw[zqf (fI (by omega)),zqf (by omega),zqf (by omega),zqf (fI (by omega)),obs,zqf (fI (by omega)),zqf (by omega),zqf (by omega),zqf (fI (by omega)),zqf (fI (by omega)),zqf (fI (by omega)),zqf (by omega),zqf (by omega),zqf (fI (by omega))]
theorem zAG{t:Tf}(h:VT t)(hf:¬ zzw t){hh:Ht}(h0:0≤hh.crop)(h1:hh.crop < t.Rates.length)(hn:0≤hh.Count)(h100:hh.Count≤100)(hd:0≤hh.Day∧hh.Day≤120):zti t hh=some (zzC t hh.crop hh.Day hh.Count):=by
 obtain⟨_,_,_,q3⟩:=h.rates h0 h1 hh.Day;have hr:=q3.loss_rng hn h100;have hls:=h.lst;unfold zti zzC zzB;rw[zAF h hf h0 h1 hn h100 hd,obs]
 generalize zzs t.Counts (zzA t hh.crop hh.Day) hh.Count=x at *
 by_cases h4:x < t.Least
 ·rw[if_pos h4,if_pos h4]
 ·rw[if_neg h4,if_neg h4];unfold zth
  by_cases h5:t.Whole=true
  ·rw[if_pos h5,if_pos h5,obs]; rfl
  ·rw[if_neg h5,if_neg h5,obs]
   show Option.bind (zsB t x) _=_
   unfold zsB;rw[zqf (fI (by omega)),obs]
def zAH(l:List Tf)(M:Option (Ht→Option Int)):Prop:=∃f,M=some f∧∀h v,f h=some v→v=zzD l h.crop h.Day h.Count
structure zAI (l:List Tf) (h:Ht):Prop where
 c:0≤h.crop∧h.crop < zzv l
 n:0≤h.Count∧h.Count≤100
 d:0≤h.Day∧h.Day≤120
theorem zAJ{l:List Tf}(hf:zzy l=0):0 < zzv l∧zzv l≤3:=by
 obtain⟨hm,hv⟩:=zzz.1 hf;obtain⟨h3,ht⟩:=zAd hm;obtain⟨t,h1,h2⟩:=zAb hv.ne;have hmem:=List.mem_of_getElem? h1;have:=few (ht t hmem);have:=List.length_pos_iff.2 (hv.vt t hmem).rne
 omega
theorem zAK{l:List Tf}(hf:zzy l=0){M:Option (Ht→Option Int)}(hM:zAH l M){h:Ht}(hh:zAI l h):∃M',ztl ⟨l,M⟩ h=some (zzD l h.crop h.Day h.Count,M')∧zAH l M':=by
 obtain⟨hm,hv⟩:=zzz.1 hf;obtain⟨h3,ht⟩:=zAd hm;have hcr:=zAJ hf;obtain⟨f,rfl,hf2⟩:=hM;have hc:=hh.c;have hn:=hh.n;have hd:=hh.d;unfold ztl;rw[zqf (show MK.fit h from ⟨fI (by omega),fI (by omega),fI (by omega),trivial⟩)]
 cases hg:zqz (some f) h with
 | some v=>
  rw[zqK rfl];have:v=_:=hf2 h v hg;subst this;exact⟨_,rfl,f,rfl,hf2⟩
 | none=>
  rw[zqJ rfl,zAE hv h3 hd,obs,zAG (hv.vof _) (ht _ (hv.of _).2) hc.1 (by rw[hv.cof]; exact hc.2) hn.1 hn.2 hd,obs,zqf (show MK.fit h from ⟨fI (by omega),fI (by omega),fI (by omega),trivial⟩)];refine⟨_,rfl,_,rfl,fun k v hk=>?_⟩
  by_cases hkh:k=h
  ·subst hkh;rw[if_pos rfl] at hk;exact(oi hk).symm
  ·rw[if_neg hkh] at hk; exact hf2 k v hk
theorem zAL{l:List Tf}:zAH l (some fun _=>none):=⟨_,rfl,fun _ _ h=>by cases h⟩
theorem zAM{l:List Tf}(hf:zzy l=0):ztj l=some (⟨l,some fun _=>none⟩,0):=by unfold ztj; rw[zAf,obs,if_pos hf]
theorem zAN{l:List Tf}(hf:zzy l=0){n:Int}:Ev (zsq l n) (0≤n∧n < zzv l):=by
 obtain⟨hm,hv⟩:=zzz.1 hf;obtain⟨t,h1,h2⟩:=zAb hv.ne;have:=zAJ hf;refine Ev.bind (zq8 h1) ?_;rw[← h2];exact(zzK (by omega)).ret
structure zAO (l:List Tf) (c:Clm):Prop where
 crop:0≤c.Crop∧c.Crop < zzv l
 val:0≤c.Value∧c.Value≤100000
 day:0≤c.Day.Lo∧c.Day.Lo≤c.Day.Hi∧c.Day.Hi≤120∧c.Day.Hi - c.Day.Lo≤10
 cnt:0≤c.Count.Lo∧c.Count.Lo≤c.Count.Hi∧c.Count.Hi≤100
theorem zAP{r:Rg}{p:Int→Option Bool}{q:Int→Prop}(hp:∀n,Ev (p n) (q n)):Ev (zs9 r p) (r.Lo≤r.Hi∧q r.Lo∧q r.Hi):=Ev.ite fun _=>Ev.and (hp _) fun _=>(hp _).ret
theorem zAQ{l:List Tf}(hf:zzy l=0){c:Clm}:Ev (ztf l c) (zAO l c):=by
 refine Ev.imp (Ev.and (zAN hf) fun _=>Ev.and zzG fun _=>Ev.and (K:=c.Day.Hi - c.Day.Lo≤10∧(c.Count.Lo≤c.Count.Hi∧(0≤c.Count.Lo∧c.Count.Lo≤100)∧(0≤c.Count.Hi∧c.Count.Hi≤100))) (zAP (fun _=>zzH)) fun hd=>Ev.gd (fI (by omega)) (Ev.ite fun _=>(zAP (fun _=>zzI)).ret)) ?_
 dsimp only
 exact⟨fun⟨h1,h2,h3,h4⟩=>⟨h1,h2,by omega,by omega⟩,fun h=>by
  have h3:=h.day;have h4:=h.cnt
  exact⟨h.crop,h.val,by omega,by omega⟩⟩
open Classical in
def zAR(c:Clm)(t:Tr):Prop:=(c.Day.Lo≤t.Day∧t.Day≤c.Day.Hi)∧(c.Count.Lo≤t.Count∧t.Count≤c.Count.Hi)
theorem zAS{c:Clm}{t:Tr}:Ev (zss c t) (zAR c t):=Ev.and zzG fun _=>zzG.ret
def zAT(l:List Tf)(c:Clm)(t:Tr):Int:=c.Value * zzD l c.Crop t.Day t.Count / 100
theorem zAU{l:List Tf}{cs:List Clm}(hf:zzy l=0)(h5:cs.length≤5)(hc:∀c∈cs,zAO l c):ztk l cs=some (⟨l,some fun _=>none⟩,0):=by
 unfold ztk;rw[zAM hf,obs,if_pos rfl,if_neg (by omega),(zzT (fun c _=>zAQ hf) (zrh h5 (by omega))).some_of hc,obs,if_pos rfl]
theorem zAV{l:List Tf}{cs:List Clm}(hf:zzy l=0)(h5:cs.length≤5)(hc:¬ ∀c∈cs,zAO l c):ztk l cs=some (⟨[],none⟩,2):=by
 unfold ztk;rw[zAM hf,obs,if_pos rfl,if_neg (by omega),(zzT (fun c _=>zAQ hf) (zrh h5 (by omega))).some_not hc,obs,if_neg (by simp)]
theorem zAW{l:List Tf}{c:Clm}(hc:zAO l c){t:Tr}(ht:zAR c t):zAI l ⟨t.Day,t.Count,c.Crop⟩:=by
 have h1:=hc.day;have h2:=hc.cnt;obtain⟨h3,h4⟩:=ht;exact⟨hc.crop,by show 0≤t.Count∧t.Count≤100; omega,by show 0≤t.Day∧t.Day≤120; omega⟩
theorem zAX{l:List Tf}(hf:zzy l=0){h:Ht}(hh:zAI l h):0≤zzD l h.crop h.Day h.Count∧zzD l h.crop h.Day h.Count≤100:=
 (zzz.1 hf).2.part_rng hh.c.1 hh.c.2 hh.n.1 hh.n.2 _
theorem zAY{v p:Int}(hv:0≤v∧v≤100000)(hp:0≤p∧p≤100):0≤v * p∧v * p≤10000000:=by
 refine⟨Int.mul_nonneg hv.1 hp.1,?_⟩;have h1:v * p≤100000 * p:=Int.mul_le_mul_of_nonneg_right hv.2 hp.1
 omega
theorem zAZ{l:List Tf}(hf:zzy l=0){M:Option (Ht→Option Int)}(hM:zAH l M){c:Clm}(hc:zAO l c){t:Tr}(ht:zAR c t):∃M',ztm ⟨l,M⟩ c t=some (zAT l c t,M')∧zAH l M':=by
 have hh:=zAW hc ht;obtain⟨M',h1,h2⟩:=zAK hf hM hh;have hp:=zAX hf hh;have hv:=zAY hc.val hp;have hval:=hc.val;refine⟨M',?_,h2⟩;unfold ztm;rw[h1,obs]
 dsimp only at hp hv ⊢
 rw[zqf (by omega),zqf (by omega),zqf (fI (by omega)),zqf (by omega),zqf (by omega),zqf (fI (by omega))]
 rfl
theorem zA0{α:Type}{a:α}{P:α→Prop}:(∀x∈[a],P x)↔P a:=by simp
theorem zA1{l:List Tf}(hf:zzy l=0){c:Clm}(hc:zAO l c){t:Tr}(ht:zAR c t):ztu l c t=some (zAT l c t,0):=by
 obtain⟨M',h1,_⟩:=zAZ hf zAL hc ht;unfold ztu; rw[zAU hf (by simp) (zA0.2 hc),obs,if_pos rfl,zAS.some_of ht,obs,if_pos rfl,h1,obs]
end
end Go.Proofs.YteojndcmgpiklaaGreat

namespace Go.Proofs.YteojndcmgpiklaaGreat
open _root_.Go.Proofs.Tryz
open Go.Abs
set_option maxRecDepth 100000
noncomputable section
theorem zA2{l:List Int}(h:l ≠ [])(hl:l.length < 9223372036854775807):zsE l=some (zrj l):=by
 cases l with
 | nil=>exact absurd rfl h
 | cons x l=>
  unfold zsE;rw[if_neg (by simp; omega),zq8 rfl,obs]
  have key:=zri (l:=x::l) (fun s a=>min s a) (fun d s k=>zsD (x::l) d s k) some (fun d k s a ha=>by
   have hk:=(List.getElem?_eq_some_iff.1 ha).1;rw[zsD,if_pos (by omega),zq5 ha,obs]
   by_cases hc:a < s
   ·rw[if_pos hc,zqf (fI (by omega)),Int.min_eq_right (by omega)]
   ·rw[if_neg hc,zqf (fI (by omega)),Int.min_eq_left (by omega)]) (fun d s=>by rw[zsD,if_neg (Int.lt_irrefl _)]) ((x::l).length+1) 0 x (Nat.zero_le _) (by omega)
  refine key.trans ?_;rw[List.drop_zero]
  show some (l.foldl min (min x x))=_
  rw[Int.min_self]; rfl
theorem zA3{l:List Int}(h:l ≠ [])(hl:l.length < 9223372036854775807):zsG l=some (zrk l):=by
 cases l with
 | nil=>exact absurd rfl h
 | cons x l=>
  unfold zsG;rw[if_neg (by simp; omega),zq8 rfl,obs]
  have key:=zri (l:=x::l) (fun s a=>max s a) (fun d s k=>zsF (x::l) d s k) some (fun d k s a ha=>by
   have hk:=(List.getElem?_eq_some_iff.1 ha).1
   rw[zsF,if_pos (by omega),zq5 ha,obs,zqf (fI (by omega))]) (fun d s=>by rw[zsF,if_neg (Int.lt_irrefl _)]) ((((x::l).length:Int) - 1).toNat+1) 1 x (by simp) (by simp only[List.length_cons]; omega)
  exact key
theorem w68{a100:C}{a101:Int}{a102:Int}{a103:C}{a104:C}{a200:C}{m:M}{Q:V→M→Prop}(h :
 (∀m0:M,(m0=(M.new m (AO.cells 5 [a100,(Il a101),(Il a102),a103,a104] false))) → 
 ∀m1:M,(m1=(M.new m0 (AO.cells 1 [a200] false)))→∀m2:M,(m2=(M.new m1 (AO.cells 2 [(Il 0),
 (Il 0)] false)))→∀m3:M,(m3=(M.new m2 (AO.cells 1 [C.sl0] false))) → 
 ∃c4:C,∃x5 x6,∃c7:C,∃c8:C,((ldA m3 (.ptr m.nxt 0) 5)=(some [c4,
 (Il x5),(Il x6),c7,c8]))∧Wc prog tbl 100 [(.agg 5 [c4,
 (Il x5),(Il x6),c7,c8])] m3 (fun v9 m10=>∃c11:C,(v9=(.c c11)) ∧ 
 zoA prog tbl c11 m10 (fun l12 m13 R14 R15=>∃x16 x17 x18,
 ∃x19 x20 x21,(l12=[(.agg 6 [(Il x16),
 (Il x17),(Il x18),(Il x19),(Il x20),
 (Il x21)])])∧∀m22:M,(m22=(M.new m13 (AO.cells 6 [(Il 0),
 (Il 0),(Il 0),(Il 0),
 (Il 0),(Il 0)] false)))→∃m23:M,
 ((stC m22 (.ptr m13.nxt 0) 6 [(Il x16),(Il x17),
 (Il x18),(Il x19),(Il x20),(Il x21)])=(some m23)) ∧ 
 R14 m23 (fun m24=>∃c25:C,((ldC m24 (.ptr m2.nxt 0))=(some c25)) ∧ 
 isPt (.ptr m0.nxt 0)∧∃c26:C,((ldC m24 (.ptr m0.nxt 0))=(some c26)) ∧ 
 ∃x27 x28 x29 x30 x31 x32,
 ((ldA m24 (.ptr m13.nxt 0) 6)=(some [(Il x27),(Il x28),
 (Il x29),(Il x30),(Il x31),(Il x32)])) ∧ 
 zmq prog tbl [(.agg 6 [(Il x27),(Il x28),
 (Il x29),(Il x30),(Il x31),(Il x32)])] c26 m24 (fun v33 m34 => 
 ∃x35,(v33=(.c (Il x35)))∧(ifB (cmC c25) ((ldC m34 (.ptr m2.nxt 0))=(some c25)) False) ∧ 
 ∀m36:M,(m36=(M.new m34 (AO.cells 1 [(Il x35)] false))) → 
 (ifB (cmC c25) ((ldC m36 (.ptr m2.nxt 0))=(some c25)) False)∧∃c37:C,
 ∃m38:M,(ApR prog 29 m36 c25 (.sl m34.nxt 0 1 0 (some 1)) c37 m38) ∧ 
 ∃m39:M,((stC m38 (.ptr m2.nxt 0) 1 [c37])=(some m39))∧R15 Ex.nrm m39))) (zoq.mk (fun m40 => 
 ∃c41:C,((ldC m40 (.ptr m2.nxt 0))=(some c41))∧Wc prog tbl 101 [(.c c41)] m40 (fun v42 m43 => 
 ∃x44,(v42=(.c (Il x44)))∧∃c45:C,((ldC m43 (.ptr m2.nxt 0))=(some c45)) ∧ 
 (ifB (cmC c45) ((ldC m40 (.ptr m2.nxt 0))=(some c45)) False)∧Wc prog tbl 102 [(.c c45)] m43 (fun v46 m47 => 
 ∃x48,(v46=(.c (Il x48)))∧∃m49:M,((stC m47 (.ptr m1.nxt 0) 2 [(Il x44),
 (Il x48)])=(some m49))∧∃x50 x51,
 ((ldA m49 (.ptr m1.nxt 0) 2)=(some [(Il x50),(Il x51)])) ∧ 
 Q (.agg 2 [(Il x50),(Il x51)]) m49))) [] (fun m52 => 
 ∃x53 x54,((ldA m52 (.ptr m1.nxt 0) 2)=(some [(Il x53),
 (Il x54)]))∧Q (.agg 2 [(Il x53),(Il x54)]) m52))))):Wc prog tbl 68 [(.agg 5 [a100,(Il a101),(Il a102),a103,a104]),(.agg 1 [a200])] m Q:=
 zpB (n:=2) rfl (by kernel_rfl) (by kernel_rfl) h
theorem zA4{l l':List Int}(h:l.Perm l')(hn:l ≠ []):zrj l=zrj l':=by
 have hn':l' ≠ []:=fun he=>hn (by rw[he] at h; exact List.Perm.eq_nil h);have a:=zrn hn;have b:=zrn hn';exact Int.le_antisymm (a.2 _ (h.symm.subset b.1)) (b.2 _ (h.subset a.1))
theorem zA5{l l':List Int}(h:l.Perm l')(hn:l ≠ []):zrk l=zrk l':=by
 have hn':l' ≠ []:=fun he=>hn (by rw[he] at h; exact List.Perm.eq_nil h);have a:=zro hn;have b:=zro hn';exact Int.le_antisymm (b.2 _ (h.subset a.1)) (a.2 _ (h.symm.subset b.1))
def zA6(f:M)(x:C)(g:Ver→Option (Int)):Prop:=∀(f' m:M) (a0:Ver) (r:Int) (Q:V→M→Prop),Sub f f'→Pre f' m→g a0=some r→(∀m',Ext m m'→Q (.c (.int .i64 r)) m')→zmq prog tbl [.agg 6 [(.int .i64 a0.fee),(.int .i64 a0.pence),(.int .i64 a0.fields.f0),(.int .i64 a0.fields.f1),(.int .i64 a0.fields.f2),(.int .i64 a0.fields.f3)]] x m Q
theorem zA6.sub{f m:M}{x:C}{g:Ver→Option (Int)}(h:zA6 f x g)(s:Sub f m):zA6 m x g:=fun f' m' a0 r Q hs=>h f' m' a0 r Q (s.trans hs)
def zA7(xs:List Int):List C:=xs.map (C.int .i64)
theorem zA8:∃el,tk prog 29=.sl el∧zct prog el=true∧prog.cellsOf el=1∧prog.bytesOf el=8:=⟨3,by kernel_rfl,by kernel_rfl,by kernel_rfl,by kernel_rfl⟩
structure BdI (f1:M) (L A qb:Nat) (a200 cp:C) (Mz:Option (Clm→Option Int)) (rec_:AO) (ask:Ver→Option Int) (d:List Ver) (S:Nat→Prop) (m:M):Prop where
 ex:∃ca xs,zu0 ask d=some xs∧Bk m A 1 [ca]∧zpX m 1 ca (zA7 xs) d.length∧(∀b,S b↔b=L∨b=A∨∃o n s c,ca=.sl b o n s c)∧¬ (∃o n s c,ca=.sl A o n s c)∧¬ (∃o n s c,ca=.sl L o n s c)∧(∀b,(∃o n s c,ca=.sl b o n s c)→L < b)
 rc:m.g L=some rec_
 lt:L < m.nxt
 q:Bk m qb 1 [a200]
 sub:Sub f1 m
 mi:Mi m cp Mz
theorem zA9{m:M}{k n:Nat}{x:C}{vs:List C}(h:zpX m k x vs n){b:Nat}(hb:∃o n s c,x=.sl b o n s c):b < m.nxt:=by
 obtain⟨o,n',s,c,he⟩:=hb;exact h.lt he
theorem zBa{n0 L A qb N:Nat}{f1:M}{a200 cp:C}{Mz:Option (Clm→Option Int)}{mk:LoopState→Option Code→AO}{ask:Ver→Option Int}{round:zow}(hy:Go.Abs.zoz prog tbl mk L round)(hn0:n0=L+1)(hAL:A < L)(hqA:qb ≠ A)(hq:qb < n0)(hqL:qb ≠ L)(hf1:f1.nxt≤L)(hfz:∀b,f1.nxt≤b→f1.g b=none)(hfv:∀b,f1.nxt≤b→f1.vw b=none)(hfA:f1.g A=none∧f1.vw A=none)(hcp:∀b,cp=.map b→b < n0∧b ≠ A∧b ≠ L)(hF:zA6 f1 a200 ask)(hN:N * 8≤140737488355328)
  (hround:∀ v m1 (R14:M→(M→Prop)→Prop) (R15:Ex→M→Prop),
   (∀ m22:M,m22=M.new m1 (AO.cells 6 [(C.int IntKind.i64 (0:Int)),(C.int IntKind.i64 (0:Int)),(C.int IntKind.i64 (0:Int)),(C.int IntKind.i64 (0:Int)),(C.int IntKind.i64 (0:Int)),(C.int IntKind.i64 (0:Int))] false)→(∃ m23:M,
    ((stC m22 (C.ptr (m1).nxt 0) 6 (zy7 v))=(Option.some m23)) ∧
    (R14 m23 (fun m24=>(∃ c25:C,(((ldC m24 (C.ptr A 0))=(Option.some c25))∧(isPt (C.ptr qb 0)∧(∃ c26:C,(((ldC m24 (C.ptr qb 0))=(Option.some c26)) ∧
     (∃x27:Int,(∃x28:Int,(∃x29:Int,(∃x30:Int,(∃x31:Int,(∃x32:Int,(((ldA m24 (C.ptr (m1).nxt 0) 6)=(Option.some [(C.int IntKind.i64 x27),(C.int IntKind.i64 x28),(C.int IntKind.i64 x29),(C.int IntKind.i64 x30),(C.int IntKind.i64 x31),(C.int IntKind.i64 x32)])) ∧
     (zmq prog tbl [(V.agg 6 [(C.int IntKind.i64 x27),(C.int IntKind.i64 x28),(C.int IntKind.i64 x29),(C.int IntKind.i64 x30),(C.int IntKind.i64 x31),(C.int IntKind.i64 x32)])] c26 m24 (fun v33 m34=>
      (∃x35:Int,((v33=(V.c (C.int IntKind.i64 x35)))∧((ifB (cmC c25) ((ldC m34 (C.ptr A 0))=(Option.some c25)) False) ∧
      (∀m36:M,((m36=(M.new m34 (AO.cells 1 [(C.int IntKind.i64 x35)] false)))→((ifB (cmC c25) ((ldC m36 (C.ptr A 0))=(Option.some c25)) False)∧(∃c37:C,
      (∃m38:M,((ApR prog 29 m36 c25 (C.sl (m34).nxt 0 1 0 (Option.some 1)) c37 m38)∧(∃m39:M,(((stC m38 (C.ptr A 0) 1 [c37])=(Option.some m39))∧(R15 Ex.nrm m39)))))))))))))))))))))))))))))) →
   round [.agg 6 (zy7 v)] m1 R14 R15) :
  zy9 n0 L N (fun v=>ask v ≠ none) (BdI f1 L A qb a200 cp Mz (mk .ready none) ask):=by
 refine⟨fun d S m m' h hn hv hs h0=>?_,fun d S m h b hb=>?_,fun d v S m h hd hA Q hQ=>?_⟩
 ·obtain⟨⟨ca,xs,q1,q2,q3,q4,q5,q6,q7⟩,h2,h3,h4,h5,h6⟩:=h;refine⟨⟨ca,xs,q1,⟨(hs A ((q4 A).2 (.inr (.inl rfl)))).trans q2.g,Nat.lt_of_lt_of_le q2.lt hn⟩,q3.to hn (fun b _ ⟨s,c,he⟩=>hs b ((q4 b).2 (.inr (.inr ⟨_,_,_,_,he⟩)))),q4,q5,q6,q7⟩,(hs L ((q4 L).2 (.inl rfl))).trans h2,by omega,⟨(h0 qb hq).trans h4.g,Nat.lt_of_lt_of_le h4.lt hn⟩,⟨Nat.le_trans h5.nxt hn,hv.trans h5.vw,fun b hb hd=>(h0 b (by omega)).trans (h5.g b hb hd)⟩,h6.to hn fun b hb=>h0 b (hcp b hb).1⟩
 ·obtain⟨⟨ca,xs,q1,q2,q3,q4,q5,q6,q7⟩,h2,h3,h4,h5,h6⟩:=h
  rcases (q4 b).1 hb with rfl | rfl | hb
  ·exact h3
  ·exact q2.lt
  ·exact zA9 q3 hb
 ·obtain⟨⟨ca,xs,q1,q2,q3,q4,q5,q6,q7⟩,h2,h3,h4,h5,h6⟩:=h
  obtain⟨x,hx⟩:∃x,ask v=some x:=by
   cases hv:ask v with
   | none=>exact absurd hv hA
   | some x=>exact⟨x,rfl⟩
  refine hy _ m Q h2 (hround v m _ _ fun m22 e22=>?_);obtain⟨b22,x22⟩:=Bk.new e22
  have n22:m22.nxt=m.nxt+1:=by rw[e22]; rfl
  refine⟨_,b22.st (zy7 v),?_⟩;have k23:=b22.set (zy7 v);have x23:Ext m (m22.set m.nxt (.cells 6 (zy7 v) false)):=x22.setR (Nat.le_refl _) _;have n23:(m22.set m.nxt (.cells 6 (zy7 v) false)).nxt=m.nxt+1:=n22;generalize m22.set m.nxt (.cells 6 (zy7 v) false)=m23 at k23 x23 n23 ⊢;refine⟨(x23.g L h3).trans h2,?_⟩
  have g24:∀b,b < m.nxt→b ≠ L→(m23.set L (mk .busy none)).g b=m.g b:=fun b hb hne=>by rw[M.g_set,if_neg hne]; exact x23.g b hb
  have k24:Bk (m23.set L (mk .busy none)) m.nxt 6 (zy7 v):=k23.setNe (by omega) _
  have l24:(m23.set L (mk .busy none)).g L=some (mk .busy none):=by rw[M.g_set,if_pos rfl]
  have n24:(m23.set L (mk .busy none)).nxt=m.nxt+1:=n23;have v24:(m23.set L (mk .busy none)).vw=m.vw:=x23.vw;generalize m23.set L (mk .busy none)=m24 at g24 k24 l24 n24 v24 ⊢;have A24:Bk m24 A 1 [ca]:=⟨(g24 A q2.lt (by omega)).trans q2.g,by have:=q2.lt; omega⟩;have Q24:Bk m24 qb 1 [a200]:=⟨(g24 qb h4.lt hqL).trans h4.g,by have:=h4.lt; omega⟩;have sub24:Sub f1 m24:=⟨by have:=h5.nxt; omega,v24.trans h5.vw,fun b hb hd=>(g24 b (by have:=h5.nxt; omega) (by omega)).trans (h5.g b hb hd)⟩;have o24:zpX m24 1 ca (zA7 xs) d.length:=q3.to (by omega) fun b hb ⟨s,c,he⟩=>g24 b hb (by have:=q7 b ⟨_,_,_,_,he⟩; omega);refine⟨_,A24.rc rfl,trivial,_,Q24.rc rfl,_,_,_,_,_,_,k24.ra,?_⟩;refine hF f1 m24 v x _ (.refl f1) ⟨sub24,hfz,hfv⟩ hx fun m34 e34=>⟨_,rfl,?_,fun m36 e36=>?_⟩
  ·rw[zoM o24.ls.noFn]; exact(A24.ext e34).rc rfl
  obtain⟨b36,x36⟩:=Bk.new e36;have e46:=e34.trans x36
  have n36:m36.nxt=m34.nxt+1:=by rw[e36]; rfl
  refine⟨by rw[zoM o24.ls.noFn]; exact(A24.ext e46).rc rfl,?_⟩;obtain⟨el,t1,t2,t3,t4⟩:=zA8;obtain⟨m38,p1,p2,p3,p4,p5⟩:=zpY (P:=prog) t1 t2 t3 (o24.ext e46) (Ls.one b36.g rfl b36.lt 0 (some 1)) (by omega) (by omega) (by rw[t4]; omega)
  have A38:Bk m38 A 1 [ca]:=⟨(p5 A (by have:=q2.lt; have:=e46.nxt; omega) fun he=>by
   obtain⟨o,n,s,hc⟩:=zqc he
   exact q5 ⟨_,_,_,_,hc⟩).trans (A24.ext e46).g,by have:=(A24.ext e46).lt; omega⟩
  refine⟨_,m38,p1,_,A38.st _,?_⟩
  have g38:∀b,b < m.nxt→b ≠ L→slB ca ≠ some b→m38.g b=m.g b:=fun b hb hne hsl=>by
   rw[p5 b (by have:=e46.nxt; omega) hsl,e46.g b (by omega)]; exact g24 b hb hne
  have l38:m38.g L=some (mk .busy none):=by
   rw[p5 L (by have:=e46.nxt; omega) (fun he=>by
    obtain⟨o,n,s,hc⟩:=zqc he
    exact q6 ⟨_,_,_,_,hc⟩),e46.g L (by omega)]
   exact l24
  have n38:m.nxt≤m36.nxt:=by have:=e46.nxt; omega
  refine⟨⟨_,_,by rw[M.g_set,if_neg (by omega)]; exact l38⟩,?_⟩
  have hslS:∀b,slB ca=some b→S b:=fun b hb=>by
   obtain⟨o,n,s,hc⟩:=zqc hb;exact(q4 b).2 (.inr (.inr ⟨_,_,_,_,hc⟩))
  have g40:∀b,b ≠ L→b ≠ A→((m38.set A (.cells 1 [.sl m36.nxt 0 (d.length+1) 1 none] false)).set L (mk .ready none)).g b=m38.g b:=fun b h1 h2=>by rw[M.g_set,if_neg h1,M.g_set,if_neg h2]
  have a40:((m38.set A (.cells 1 [.sl m36.nxt 0 (d.length+1) 1 none] false)).set L (mk .ready none)).g A=some (.cells 1 [.sl m36.nxt 0 (d.length+1) 1 none] false):=by rw[M.g_set,if_neg (by omega),M.g_set,if_pos rfl]
  have l40:((m38.set A (.cells 1 [.sl m36.nxt 0 (d.length+1) 1 none] false)).set L (mk .ready none)).g L=some (mk .ready none):=by rw[M.g_set,if_pos rfl]
  have n40:((m38.set A (.cells 1 [.sl m36.nxt 0 (d.length+1) 1 none] false)).set L (mk .ready none)).nxt=m36.nxt+1:=p3;have v40:((m38.set A (.cells 1 [.sl m36.nxt 0 (d.length+1) 1 none] false)).set L (mk .ready none)).vw=m.vw:=p4.trans (e46.vw.trans v24);generalize (m38.set A (.cells 1 [.sl m36.nxt 0 (d.length+1) 1 none] false)).set L (mk .ready none)=m40 at g40 a40 l40 n40 v40 ⊢
  have gg:∀b,b < m.nxt→¬ S b→m40.g b=m.g b:=fun b hb hS=>by
   rw[g40 b (fun h=>hS ((q4 b).2 (.inl h))) (fun h=>hS ((q4 b).2 (.inr (.inl h))))];exact g38 b hb (fun h=>hS ((q4 b).2 (.inl h))) fun h=>hS (hslS b h)
  have hold:∀b,b < n0→b ≠ A→b ≠ L→m40.g b=m.g b:=fun b hb h1 h2=>gg b (by omega) fun hS=>by
   rcases (q4 b).1 hS with h | h | h
   ·exact h2 h
   ·exact h1 h
   ·have:=q7 b h; omega
  refine hQ (fun b=>b=L∨b=A∨b=m36.nxt) m40 (fun b hb=>?_) ⟨by omega,gg,v40⟩ ⟨⟨.sl m36.nxt 0 (d.length+1) 1 none,xs++[x],?_,⟨a40,by have:=q2.lt; omega⟩,?_,fun b=>?_,?_,?_,fun b hb=>?_⟩,l40,by omega,⟨(hold qb hq hqA hqL).trans h4.g,by have:=h4.lt; omega⟩,⟨by have:=h5.nxt; omega,v40.trans h5.vw,fun b hb hd=>(hold b (by omega) (fun h=>by subst h; exact hd.elim (fun h=>h hfA.1) fun h=>h hfA.2) (by omega)).trans (h5.g b hb hd)⟩,h6.to (by omega) fun b hb=>hold b (hcp b hb).1 (hcp b hb).2.1 (hcp b hb).2.2⟩
  ·rcases hb with h | h | h
   ·exact .inl ((q4 b).2 (.inl h))
   ·exact .inl ((q4 b).2 (.inr (.inl h)))
   ·exact .inr (by omega)
  ·exact zu7 hx q1
  ·have:zpX m38 1 (.sl m36.nxt 0 (d.length+1) 1 none) (zA7 (xs++[x])) (d.length+1):=by
    unfold zA7 at p2 ⊢;rw[List.map_append]; exact p2
   rw[List.length_append]
   exact this.to (by omega) fun b hb ⟨s,c,he⟩=>by
    cases he
    exact g40 _ (by omega) (by have:=q2.lt; omega)
  ·constructor
   ·rintro (h | h | h)
    ·exact .inl h
    ·exact .inr (.inl h)
    ·exact .inr (.inr ⟨_,_,_,_,by rw[h]⟩)
   ·rintro (h | h | ⟨o,n,s,c,h⟩)
    ·exact .inl h
    ·exact .inr (.inl h)
    ·cases h; exact .inr (.inr rfl)
  ·rintro⟨o,n,s,c,h⟩
   cases h
   have:=q2.lt
   omega
  ·rintro⟨o,n,s,c,h⟩
   cases h
   omega
  ·obtain⟨o,n,s,c,h⟩:=hb
   cases h
   omega
open Classical in
def tgB(A R:Nat)(cp:C):Nat→Nat:=fun b=>if b=A then 2 else if b=R then 3 else if cp=.map b then 1 else 4
theorem zBb{w:UWk}{q:Qn}{ca100 ca103 ca104 a200:C}{m f:M}{Q:V→M→Prop}{rz:Rg × Option (Clm→Option Int)}(hS:Pre f m)(ha100:Sl f ca100 w.c.Tariffs)(ha103:Sl f ca103 w.c.Fields)(ha104:Mc f m ca104 w.payments)(hF:zA6 f a200 q.ask)(hp:zu3 w q=some rz)
    (hq:∀m',zqB ca104 m m'→Mi m' ca104 rz.2→Q (.agg 2 [(Il rz.1.Lo),(Il rz.1.Hi)]) m'):Wc prog tbl 68 [.agg 5 [ca100,(Il w.c.Day),(Il w.c.Fee),ca103,ca104],.agg 1 [a200]] m Q:=by
 obtain⟨r,hr,z⟩:=zqd (show(zu1 w w.c.Fields w.payments).bind _=some rz from hp);obtain⟨hlen,D⟩:=zqe z;obtain⟨vs,hvs,t⟩:=zqd D;obtain⟨⟨hN,hne⟩,h4⟩:=zqe t;obtain⟨xs,hxs,h5⟩:=zqd h4;obtain rfl:=oi h5
 clear z D t h4 h5 hp
 have S0:=hS.stM ha104;obtain⟨τ0,M0⟩:∃τ,Mo (Fm.mp m ca104) f τ m 1 ca104 w.payments:=⟨_,ha104.mo 1⟩;refine w68 ?_;intro m0 e0;obtain⟨τ1,S1,k1,Lw⟩:=S0.blk e0 τ0 2;have M1:=M0.k k1;intro j e1;obtain⟨τ2,S2,k2,Lq⟩:=S1.blk e1 τ1 3;have Lw:=Lw.k k2;have M2:=M1.k k2;intro i e2;obtain⟨τ3,S3,k3,Lr⟩:=S2.blk e2 τ2 4;have Lw:=Lw.k k3;have Lq:=Lq.k k3;have M3:=M2.k k3;intro m3 e3;obtain⟨τ4,S4,F,La⟩:=S3.blk e3 τ3 5;have Lw:=Lw.k F;have Lq:=Lq.k F;have Lr:=Lr.k F;have M4:=M3.k F;refine⟨_,_,_,_,_,Lw.bk.ra,?_⟩;refine zwe fun a Y=>⟨_,rfl,?_⟩;obtain⟨τ5,S5,G,Lx⟩:=S4.blk Y τ4 6;have Lq:=Lq.k G;have Lr:=Lr.k G;have La:=La.k G;have M5:=M4.k G;obtain⟨f1,e,I,Wf⟩:=Lx.freeze S5;have Lq:=Lq.k I;have Lr:=Lr.k I;have La:=La.k I;have M6:=M5.k I;intro mk hy;have eL:a.new (mk .ready none)=a.new (mk .ready none):=rfl;obtain⟨x,J⟩:=e.new eL τ5 7;have Lq:=Lq.k J;have Lr:=Lr.k J;have La:=La.k J;have O:=M6.k J
 have rL:(a.new (mk .ready none)).g a.nxt=some (mk .ready none):=by rw[M.g_new,if_pos rfl]
 have nL:(a.new (mk .ready none)).nxt=a.nxt+1:=rfl
 have q0:m0.nxt=m.nxt+1:=by rw[e0]; rfl
 have q1:j.nxt=m.nxt+2:=by rw[e1]; show m0.nxt+1=_; omega
 have q2:i.nxt=m.nxt+3:=by rw[e2]; show j.nxt+1=_; omega
 have q3:m3.nxt=m.nxt+4:=by rw[e3]; show i.nxt+1=_; omega
 have bb:a.nxt=m.nxt+5:=by rw[Y]; show m3.nxt+1=_; omega
 generalize hmL:a.new (mk .ready none)=mL at *
 have hcp:∀b,ca104=.map b→b < m.nxt:=fun b hb=>(ha104.own b hb).2.2;have hfA:f1.g i.nxt=none∧f1.vw i.nxt=none:=⟨La.nf,x.v0 _ La.new⟩;have hcli:=zBa (n0:=a.nxt+1) (L:=a.nxt) (A:=i.nxt) (qb:=m0.nxt) (N:=vs.length) (f1:=f1) (a200:=a200) (cp:=ca104) (Mz:=r.2) (mk:=mk) (ask:=q.ask) hy rfl (by omega) (by omega) (by omega) (by omega) e.sub.nxt e.fz e.fv hfA (fun b hb=>by have:=hcp b hb; omega) (hF.sub e.fs) (by omega) (fun v j cb db h=>⟨_,_,_,_,_,_,rfl,h⟩)
 show Wc prog tbl 130 [.c (.fn (.yield a.nxt) [] []),.c (.ptr m3.nxt 0)] mL _
 refine zzj (w:=w) (S:=fun b=>b=a.nxt∨b=i.nxt) (rz:=r) (vs:=vs) hcli x.pre Wf (ha100.sub e.fs) (ha103.sub e.fs) (O.mc x) hr hlen hvs (Nat.le_refl _) (fun u hu=>zu8 hxs u hu) (by omega) (fun m' e' mi'=>?_) (fun b hb=>by omega) (fun b hb=>?_) (fun b hb hc=>by have:=hcp b hc; omega) fun vs' S' m8 p hpv P ho hch hI=>?_
 ·-- before any verdict
  have hg:∀b,b < mL.nxt→m.nxt≤b→m'.g b=mL.g b:=fun b hb hm=>e'.g b hb fun hc=>by have:=hcp b hc; omega
  refine⟨⟨.sl0,[],rfl,⟨(hg _ (by omega) (by omega)).trans La.bk.g,by have:=e'.nxt; omega⟩,zpX.nil' _ _,fun b=>⟨fun h=>h.elim .inl fun h=>.inr (.inl h),fun h=>?_⟩,?_,?_,?_⟩,(hg _ (by omega) (by omega)).trans rL,by have:=e'.nxt; omega,⟨(hg _ (by omega) (by omega)).trans Lq.bk.g,by have:=e'.nxt; omega⟩,?_,mi'⟩
  ·rcases h with h | h | ⟨_,_,_,_,h⟩
   ·exact .inl h
   ·exact .inr h
   ·cases h
  ·rintro⟨_,_,_,_,h⟩; cases h
  ·rintro⟨_,_,_,_,h⟩; cases h
  ·rintro b ⟨_,_,_,_,h⟩; cases h
  ·exact zqb x.sub e'.nxt e'.vw (X:=fun b=>ca104=.map b) (fun b hb=>⟨(O.own b hb).2.1,x.v0 b (O.own b hb).1⟩) e'.g
 ·rcases hb with rfl | rfl
  ·exact⟨e.fz _ e.sub.nxt,e.fv _ e.sub.nxt⟩
  ·exact hfA
 ·-- behind the loop
  obtain⟨⟨ca,ys,T,u2,u3,u4,u5,u6,u7⟩,i2,i3,i4,i5,i6⟩:=hI;refine⟨_,_,i2,(fun h=>by cases h),?_⟩
  show zoq.nrm _ (p.del a.nxt)
  have hd:∀b,b ≠ a.nxt→(p.del a.nxt).g b=p.g b:=fun b hb=>by rw[M.g_del,if_neg hb]
  have nd:(p.del a.nxt).nxt=p.nxt:=rfl;have vd:(p.del a.nxt).vw=p.vw:=rfl;generalize p.del a.nxt=l at hd nd vd ⊢;have hnx:mL.nxt≤p.nxt:=Nat.le_trans P.nxt hch.nxt;have hvw:p.vw=mL.vw:=hch.vw.trans P.vw
  have Z:∀b,b < mL.nxt→b ≠ a.nxt→b ≠ i.nxt→ca104 ≠ .map b→l.g b=mL.g b:=fun b hb z D t=>by
   rw[hd b z,hch.g b (Nat.lt_of_lt_of_le hb P.nxt) fun h=>h.elim z D];exact P.g b hb t
  have hextm:∀b,b < m.nxt→ca104 ≠ .map b→l.g b=m.g b:=fun b hb t=>(Z b (by omega) (by omega) (by omega) t).trans (x.ext.g b hb t);have S8:St (Fm.mp m ca104) f f1 l:=⟨⟨by show m.nxt≤_; omega,hextm,(vd.trans hvw).trans x.ext.vw⟩,⟨by have:=i5.nxt; omega,vd.trans i5.vw,fun b hb hdd=>(hd b (by have:=e.sub.nxt; omega)).trans (i5.g b hb hdd)⟩,e.fz,e.fv,e.v0,e.fs,e.old⟩
  have hAr:i.nxt ≠ j.nxt:=by omega
  have tA:tgB i.nxt j.nxt ca104 i.nxt=2:=by unfold tgB; rw[if_pos rfl]
  have tR:tgB i.nxt j.nxt ca104 j.nxt=3:=by unfold tgB; rw[if_neg (by omega),if_pos rfl]
  have LA:Lb (Fm.mp m ca104) f1 (tgB i.nxt j.nxt ca104) l 2 i.nxt 1 [ca]:=⟨⟨(hd _ (by omega)).trans u2.g,by have:=u2.lt; omega⟩,La.new,La.nf,tA⟩;have LR:Lb (Fm.mp m ca104) f1 (tgB i.nxt j.nxt ca104) l 3 j.nxt 2 [Il 0,Il 0]:=⟨⟨(Z _ (by omega) (by omega) (by omega) (fun hc=>by have:=hcp _ hc; omega)).trans Lr.bk.g,by omega⟩,Lr.new,Lr.nf,tR⟩;have MM:Mo (Fm.mp m ca104) f1 (tgB i.nxt j.nxt ca104) l 1 ca104 r.2:=⟨i6.to (by omega) fun b hb=>hd b (by have:=hcp b hb; omega),fun b hb=>⟨.inr hb,(O.own b hb).2.1,by have:=hcp b hb; unfold tgB; rw[if_neg (by omega),if_neg (by omega),if_pos hb],by have:=hcp b hb; omega⟩⟩
  have OO:Ow (α:=Int) (Fm.mp m ca104) f1 (tgB i.nxt j.nxt ca104) l 4 ca ys:=by
   refine⟨⟨zA7 ys,?_,?_⟩,fun b o n s d he=>?_⟩
   ·rw[zu9 T];exact u3.to (by omega) fun b hb ⟨s,c,he⟩=>hd b fun h=>u6 ⟨_,_,_,_,h ▸ he⟩
   ·clear T u3
    induction ys with
    | nil=>exact rfl
    | cons y ys ih=>exact⟨[Il y],zA7 ys,rfl,rfl,ih⟩
   ·have hb:=u7 b ⟨_,_,_,_,he⟩;refine⟨.inl (by show m.nxt≤b; omega),e.fz b (by have:=e.sub.nxt; omega),?_⟩;unfold tgB;rw[if_neg (by omega),if_neg (by omega),if_neg (fun hc=>by have:=hcp b hc; omega)]
  have hyl:ys.length=vs.length:=by rw[zu9 T,hpv.length_eq]
  have hyp:ys.Perm xs:=by
   obtain⟨zs,z1,z2⟩:=zu6 hpv.symm hxs;rw[T] at z1
   cases z1
   exact z2
  have hyn:ys ≠ []:=fun h=>hne (List.eq_nil_of_length_eq_zero (by rw[← hyl,h]; rfl));refine⟨_,LA.bk.rc rfl,?_⟩;obtain⟨f2,S9,k9,Sa⟩:=OO.freeze S8;have LA:=LA.k k9;have LR:=LR.k k9;have MM:=MM.k k9;refine zxj S9.pre Sa (zA2 hyn (by omega)) fun eb ta=>⟨_,rfl,?_⟩;obtain⟨aa,B⟩:=S9.call ta (tgB i.nxt j.nxt ca104);have ua:=LA.k B;have LR:=LR.k B;have MM:=MM.k B;refine⟨_,ua.bk.rc rfl,?_,?_⟩
  ·rw[zoM Sa.noFn]; exact LA.bk.rc rfl
  refine zxk aa.pre Sa (zA3 hyn (by omega)) fun fb va=>⟨_,rfl,?_⟩;obtain⟨wa,ba⟩:=aa.call va (tgB i.nxt j.nxt ca104);have LR:=LR.k ba;have MM:=MM.k ba;obtain⟨xa,ya,za,Aa,LR⟩:=LR.sto wa [(Il (zrj ys)),(Il (zrk ys))];have MM:=MM.k Aa;refine⟨xa,ya,_,_,LR.bk.ra,?_⟩;rw[zA4 hyp hyn,zA5 hyp hyn];exact hq _ za.extB MM.mi
end
end Go.Proofs.YteojndcmgpiklaaGreat

namespace Go.Proofs.YteojndcmgpiklaaGreat
open _root_.Go.Proofs.Tryz
open Go.Abs
set_option maxRecDepth 100000
noncomputable section
theorem w7{a100:C}{a101:Int}{a102:Int}{a103:C}{a200:C}{m:M}{Q:V→M→Prop}(h :
 (∀m0:M,(m0=(M.new m (AO.cells 4 [a100,(Il a101),(Il a102),a103] false))) → 
 ∃c1:C,∃x2 x3,∃c4:C,((ldA m0 (.ptr m.nxt 0) 4)=(some [c1,(Il x2),
 (Il x3),c4]))∧Wc prog tbl 43 [(.agg 4 [c1,(Il x2),(Il x3),
 c4])] m0 (fun v5 m6=>∃b7:Bool,(v5=(.c (.bool b7)))∧ifB (!b7) (Wc prog tbl 17 [] m6 (fun v8 m9 => 
 ∃b10:Bool,(v8=(.c (.bool b10)))∧Q (.c (.bool b10)) m9)) (∃c11:C,∃x12,
 ∃x13,∃c14:C,((ldA m6 (.ptr m.nxt 0) 4)=(some [c11,(Il x12),
 (Il x13),c14]))∧Wc prog tbl 44 [(.agg 4 [c11,(Il x12),
 (Il x13),c14]),(.c a200)] m6 (fun v15 m16=>∃c17:C,(v15=(.c c17)) ∧ 
 ∃c18:C,∃x19 x20,∃c21:C,((ldA m16 (.ptr m.nxt 0) 4)=(some [c18,
 (Il x19),(Il x20),c21]))∧Wc prog tbl 19 [(.agg 4 [c18,
 (Il x19),(Il x20),c21])] m16 (fun v22 m23 => 
 ∃c24:C,∃x25 x26,∃c27:C,(v22=(.agg 4 [c24,(Il x25),
 (Il x26),c27]))∧Wc prog tbl 20 [(.c c17)] m23 (fun v28 m29 => 
 ∃c30:C,(v28=(.c c30))∧Wc prog tbl 18 [(.agg 4 [c24,(Il x25),
 (Il x26),c27]),(.c c30)] m29 (fun v31 m32=>∃c33:C,∃x34,
 ∃x35 x36 x37,(v31=(.tup [(.agg 4 [c33,(Il x34),
 (Il x35),(Il x36)]),(.c (Il x37))])) ∧ 
 ∀m38:M,(m38=(M.new m32 (AO.cells 4 [C.sl0,(Il 0),
 (Il 0),(Il 0)] false)))→∃m39:M,
 ((stC m38 (.ptr m32.nxt 0) 4 [c33,(Il x34),(Il x35),
 (Il x36)])=(some m39))∧∃c40:C,∃x41 x42,
 ∃c43:C,((ldA m39 (.ptr m.nxt 0) 4)=(some [c40,(Il x41),
 (Il x42),c43]))∧Wc prog tbl 19 [(.agg 4 [c40,(Il x41),
 (Il x42),c43])] m39 (fun v44 m45=>∃c46:C,∃x47,
 ∃x48,∃c49:C,(v44=(.agg 4 [c46,(Il x47),(Il x48),
 c49]))∧Wc prog tbl 33 [(.agg 4 [c46,(Il x47),(Il x48),
 c49])] m45 (fun v50 m51=>∃x52 x53 x54,(v50=(.tup [(.agg 2 [(Il x52),
 (Il x53)]),(.c (Il x54))]))∧∀m55:M,(m55=(M.new m51 (AO.cells 2 [(Il 0),
 (Il 0)] false)))→∃m56:M,((stC m55 (.ptr m51.nxt 0) 2 [(Il x52),
 (Il x53)])=(some m56))∧∃c57:C,∃x58 x59,
 ∃c60:C,((ldA m56 (.ptr m.nxt 0) 4)=(some [c57,(Il x58),
 (Il x59),c60]))∧Wc prog tbl 19 [(.agg 4 [c57,(Il x58),
 (Il x59),c60])] m56 (fun v61 m62=>∃c63:C,∃x64,
 ∃x65,∃c66:C,(v61=(.agg 4 [c63,(Il x64),(Il x65),
 c66]))∧Wc prog tbl 34 [(.agg 4 [c63,(Il x64),(Il x65),
 c66])] m62 (fun v67 m68=>∃x69 x70 x71 x72,
 ∃x73,(v67=(.tup [(.agg 2 [(Il x69),(Il x70)]),
 (.agg 2 [(Il x71),(Il x72)]),(.c (Il x73))])) ∧ 
 ∀m74:M,(m74=(M.new m68 (AO.cells 2 [(Il 0),(Il 0)] false))) → 
 ∀m75:M,(m75=(M.new m74 (AO.cells 2 [(Il 0),(Il 0)] false))) → 
 ∃m76:M,((stC m75 (.ptr m68.nxt 0) 2 [(Il x69),(Il x70)])=(some m76)) ∧ 
 ∃m77:M,((stC m76 (.ptr m74.nxt 0) 2 [(Il x71),(Il x72)])=(some m77)) ∧ 
 ∃c78:C,∃x79 x80,∃c81:C,((ldA m77 (.ptr m.nxt 0) 4)=(some [c78,
 (Il x79),(Il x80),c81]))∧Wc prog tbl 19 [(.agg 4 [c78,
 (Il x79),(Il x80),c81])] m77 (fun v82 m83 => 
 ∃c84:C,∃x85 x86,∃c87:C,(v82=(.agg 4 [c84,(Il x85),
 (Il x86),c87]))∧Wc prog tbl 35 [(.agg 4 [c84,(Il x85),
 (Il x86),c87])] m83 (fun v88 m89=>∃x90 x91,
 ∃x92,(v88=(.tup [(.agg 2 [(Il x90),(Il x91)]),
 (.c (Il x92))]))∧∀m93:M,(m93=(M.new m89 (AO.cells 2 [(Il 0),
 (Il 0)] false)))→∃m94:M,((stC m93 (.ptr m89.nxt 0) 2 [(Il x90),
 (Il x91)])=(some m94))∧ifB (!decide (x37=0)) (Q (.c (.bool false)) m94) (ifB (!decide (x54=0)) (Q (.c (.bool false)) m94) (ifB (!decide (x73=0)) (Q (.c (.bool false)) m94) (ifB (!decide (x92=0)) (Q (.c (.bool false)) m94) (isPt (.ptr m32.nxt 0) ∧ 
 ∃c95:C,((ldC m94 (.ptr m32.nxt 0))=(some c95))∧isSl c95 ∧ 
 isPt (.ptr m.nxt 0)∧∃c96:C,((ldC m94 (.ptr m.nxt 3))=(some c96)) ∧ 
 isSl c96∧ifB (!decide ((((slLen c95):Nat):Int)=(((slLen c96):Nat):Int))) (Q (.c (.bool false)) m94) (isPt (.ptr m32.nxt 0) ∧ 
 ∃x97,((ldC m94 (.ptr m32.nxt 1))=(some (Il x97))) ∧ 
 ∃x98 x99,((ldA m94 (.ptr m51.nxt 0) 2)=(some [(Il x98),
 (Il x99)]))∧Wc prog tbl 45 [(.c (Il x97)),
 (.agg 2 [(Il x98),(Il x99)])] m94 (fun v100 m101 => 
 ∃b102:Bool,(v100=(.c (.bool b102)))∧ifB (!b102) (Q (.c (.bool false)) m101) (isPt (.ptr m32.nxt 0) ∧ 
 ∃x103,((ldC m101 (.ptr m32.nxt 2))=(some (Il x103))) ∧ 
 ∃x104 x105,((ldA m101 (.ptr m68.nxt 0) 2)=(some [(Il x104),
 (Il x105)]))∧Wc prog tbl 45 [(.c (Il x103)),
 (.agg 2 [(Il x104),(Il x105)])] m101 (fun v106 m107 => 
 ∃b108:Bool,(v106=(.c (.bool b108)))∧ifB (!b108) (Q (.c (.bool false)) m107) (isPt (.ptr m32.nxt 0) ∧ 
 ∃x109,((ldC m107 (.ptr m32.nxt 3))=(some (Il x109))) ∧ 
 ∃x110 x111,((ldA m107 (.ptr m74.nxt 0) 2)=(some [(Il x110),
 (Il x111)]))∧Wc prog tbl 45 [(.c (Il x109)),
 (.agg 2 [(Il x110),(Il x111)])] m107 (fun v112 m113 => 
 ∃b114:Bool,(v112=(.c (.bool b114)))∧ifB (!b114) (Q (.c (.bool false)) m113) (isPt (.ptr m32.nxt 0) ∧ 
 ∃x115,((ldC m113 (.ptr m32.nxt 1))=(some (Il x115))) ∧ 
 isPt (.ptr m32.nxt 0)∧∃x116,((ldC m113 (.ptr m32.nxt 2))=(some (Il x116))) ∧ 
 zl0 .i64 (x115 - x116)∧isPt (.ptr m89.nxt 0)∧∃x117,
 ((ldC m113 (.ptr m89.nxt 0))=(some (Il x117))) ∧ 
 ifB (decide ((x115 - x116) < x117)) (Q (.c (.bool false)) m113) (isPt (.ptr m32.nxt 0) ∧ 
 ∃x118,((ldC m113 (.ptr m32.nxt 1))=(some (Il x118))) ∧ 
 isPt (.ptr m32.nxt 0)∧∃x119,((ldC m113 (.ptr m32.nxt 3))=(some (Il x119))) ∧ 
 zl0 .i64 (x118+x119)∧isPt (.ptr m89.nxt 0)∧∃x120,
 ((ldC m113 (.ptr m89.nxt 1))=(some (Il x120))) ∧ 
 ifB (decide (x120 < (x118+x119))) (Q (.c (.bool false)) m113) (∃c121:C,
 ∃x122 x123,∃c124:C,((ldA m113 (.ptr m.nxt 0) 4)=(some [c121,
 (Il x122),(Il x123),c124]))∧Wc prog tbl 19 [(.agg 4 [c121,
 (Il x122),(Il x123),c124])] m113 (fun v125 m126 => 
 ∃c127:C,∃x128 x129,∃c130:C,(v125=(.agg 4 [c127,
 (Il x128),(Il x129),c130]))∧Wc prog tbl 20 [(.c c17)] m126 (fun v131 m132 => 
 ∃c133:C,(v131=(.c c133))∧isPt (.ptr m32.nxt 0)∧∃x134,
 ((ldC m132 (.ptr m32.nxt 1))=(some (Il x134))) ∧ 
 ((ldC m126 (.ptr m32.nxt 1))=(some (Il x134))) ∧ 
 ((ldC m113 (.ptr m32.nxt 1))=(some (Il x134))) ∧ 
 Wc prog tbl 21 [(.agg 4 [c127,(Il x128),(Il x129),
 c130]),(.c c133),(.c (Il x134))] m132 (fun v135 m136=>∃b137:Bool,
 (v135=(.c (.bool b137)))∧ifB (!b137) (Q (.c (.bool false)) m136) (∀R138:List V → 
 M→Prop,(∀b139:Bool,∀b140:Bool,∀x141:Int,∀m142:M,(isSl c17 ∧ 
 ifB (decide (x141 < (((slLen c17):Nat):Int))) (∃c143:C,∃x144,
 ∃x145,∃zvg:C,((ldA m142 (.ptr m.nxt 0) 4)=(some [c143,
 (Il x144),(Il x145),zvg]))∧Wc prog tbl 19 [(.agg 4 [c143,
 (Il x144),(Il x145),zvg])] m142 (fun v147 m148 => 
 ∃c149:C,∃x150 x151,∃c152:C,(v147=(.agg 4 [c149,
 (Il x150),(Il x151),c152]))∧Wc prog tbl 27 [(.agg 4 [c149,
 (Il x150),(Il x151),c152]),(.c (Il x141))] m148 (fun v153 m154 => 
 ∃c155:C,∃x156,(v153=(.tup [(.c c155),(.c (Il x156))])) ∧ 
 ∃c157:C,∃x158 x159,∃c160:C,((ldA m154 (.ptr m.nxt 0) 4)=(some [c157,
 (Il x158),(Il x159),c160]))∧Wc prog tbl 19 [(.agg 4 [c157,
 (Il x158),(Il x159),c160])] m154 (fun v161 m162 => 
 ∃c163:C,∃x164 x165,∃zvk:C,(v161=(.agg 4 [c163,
 (Il x164),(Il x165),zvk]))∧Wc prog tbl 28 [(.agg 4 [c163,
 (Il x164),(Il x165),zvk]),(.c (Il x141))] m162 (fun v167 m168 => 
 ∃x169 x170,(v167=(.tup [(.c (Il x169)),
 (.c (Il x170))]))∧isPt (.ptr m.nxt 0)∧∃c171:C,((ldC m168 (.ptr m.nxt 3))=(some c171)) ∧ 
 ∃n172:Nat,(x141=((n172:Nat):Int))∧(n172 < (slLen c171))∧∃x173,
 ∃x174 x175 x176 x177 x178 x179,
 ∃x180 x181,((ldA m168 (zl2 c171 (n172 * 9)) 9)=(some [(Il x173),
 (Il x174),(Il x175),(Il x176),
 (Il x177),(Il x178),(Il x179),
 (Il x180),(Il x181)]))∧∃n182:Nat,(x141=((n182:Nat):Int)) ∧ 
 (n182 < (slLen c17))∧∃x183 x184 x185,((ldA m168 (zl2 c17 (n182 * 3)) 3)=(some [(Il x183),
 (Il x184),(Il x185)]))∧Wc prog tbl 46 [(.agg 9 [(Il x173),
 (Il x174),(Il x175),(Il x176),
 (Il x177),(Il x178),(Il x179),
 (Il x180),(Il x181)]),(.agg 3 [(Il x183),
 (Il x184),(Il x185)])] m168 (fun v186 m187 => 
 ∃b188:Bool,(v186=(.c (.bool b188)))∧ifB b139 (ifB (!decide (x156=0)) (Q (.c (.bool false)) m187) (ifB (!decide (x170=0)) (Q (.c (.bool false)) m187) (isPt (.ptr m32.nxt 0) ∧ 
 ∃c189:C,((ldC m187 (.ptr m32.nxt 0))=(some c189))∧∃n190:Nat,
 (x141=((n190:Nat):Int))∧(n190 < (slLen c189))∧∃x191,((ldC m187 (zl2 c189 (n190 * 1)))=(some (Il x191))) ∧ 
 Wc prog tbl 47 [(.c c155),(.c (Il x191))] m187 (fun v192 m193 => 
 ∃b194:Bool,(v192=(.c (.bool b194)))∧ifB (!b194) (Q (.c (.bool false)) m193) (ifB b188 (ifB (decide (x169=2)) (Q (.c (.bool false)) m193) (ifB (!b188) (ifB (decide (x169=1)) (Q (.c (.bool false)) m193) (Wc prog tbl 48 [(.c (Il x169)),
 (.c (Il (1:Int))),(.c (Il (3:Int)))] m193 (fun v195 m196 => 
 ∃b197:Bool,(v195=(.c (.bool b197)))∧ifB (!b197) (Q (.c (.bool false)) m196) (isPt (.ptr m32.nxt 0) ∧ 
 ∃c198:C,((ldC m196 (.ptr m32.nxt 0))=(some c198))∧∃n199:Nat,
 (x141=((n199:Nat):Int))∧(n199 < (slLen c198))∧∃x200,((ldC m196 (zl2 c198 (n199 * 1)))=(some (Il x200))) ∧ 
 ∃n201:Nat,(x141=((n201:Nat):Int))∧(n201 < (slLen c17))∧isPt (zl2 c17 (n201 * 3)) ∧ 
 ∃x202,((ldC m196 (zl1 (zl2 c17 (n201 * 3)) 0))=(some (Il x202))) ∧ 
 ∃n203:Nat,(x141=((n203:Nat):Int))∧(n203 < (slLen c17))∧isPt (zl2 c17 (n203 * 3)) ∧ 
 ∃x204,((ldC m196 (zl1 (zl2 c17 (n203 * 3)) 1))=(some (Il x204))) ∧ 
 ifB (decide (x200 < (Min.min x202 x204))) (Q (.c (.bool false)) m196) (isPt (.ptr m32.nxt 0) ∧ 
 ∃c205:C,((ldC m196 (.ptr m32.nxt 0))=(some c205))∧∃n206:Nat,
 (x141=((n206:Nat):Int))∧(n206 < (slLen c205))∧∃x207,((ldC m196 (zl2 c205 (n206 * 1)))=(some (Il x207))) ∧ 
 ∃n208:Nat,(x141=((n208:Nat):Int))∧(n208 < (slLen c17))∧isPt (zl2 c17 (n208 * 3)) ∧ 
 ∃x209,((ldC m196 (zl1 (zl2 c17 (n208 * 3)) 0))=(some (Il x209))) ∧ 
 ∃n210:Nat,(x141=((n210:Nat):Int))∧(n210 < (slLen c17))∧isPt (zl2 c17 (n210 * 3)) ∧ 
 ∃x211,((ldC m196 (zl1 (zl2 c17 (n210 * 3)) 1))=(some (Il x211))) ∧ 
 ifB (decide ((Max.max x209 x211) < x207)) (Q (.c (.bool false)) m196) (zl0 .i64 (x141+1) ∧ 
 R138 [(.c (.bool true)),(.c (.bool b140)),(.c (Il (x141+1)))] m196)))))) (Wc prog tbl 48 [(.c (Il x169)),
 (.c (Il (1:Int))),(.c (Il (3:Int)))] m193 (fun v212 m213 => 
 ∃b214:Bool,(v212=(.c (.bool b214)))∧ifB (!b214) (Q (.c (.bool false)) m213) (isPt (.ptr m32.nxt 0) ∧ 
 ∃c215:C,((ldC m213 (.ptr m32.nxt 0))=(some c215))∧∃n216:Nat,
 (x141=((n216:Nat):Int))∧(n216 < (slLen c215))∧∃x217,((ldC m213 (zl2 c215 (n216 * 1)))=(some (Il x217))) ∧ 
 ∃n218:Nat,(x141=((n218:Nat):Int))∧(n218 < (slLen c17))∧isPt (zl2 c17 (n218 * 3)) ∧ 
 ∃x219,((ldC m213 (zl1 (zl2 c17 (n218 * 3)) 0))=(some (Il x219))) ∧ 
 ∃n220:Nat,(x141=((n220:Nat):Int))∧(n220 < (slLen c17))∧isPt (zl2 c17 (n220 * 3)) ∧ 
 ∃x221,((ldC m213 (zl1 (zl2 c17 (n220 * 3)) 1))=(some (Il x221))) ∧ 
 ifB (decide (x217 < (Min.min x219 x221))) (Q (.c (.bool false)) m213) (isPt (.ptr m32.nxt 0) ∧ 
 ∃c222:C,((ldC m213 (.ptr m32.nxt 0))=(some c222))∧∃n223:Nat,
 (x141=((n223:Nat):Int))∧(n223 < (slLen c222))∧∃x224,((ldC m213 (zl2 c222 (n223 * 1)))=(some (Il x224))) ∧ 
 ∃n225:Nat,(x141=((n225:Nat):Int))∧(n225 < (slLen c17))∧isPt (zl2 c17 (n225 * 3)) ∧ 
 ∃x226,((ldC m213 (zl1 (zl2 c17 (n225 * 3)) 0))=(some (Il x226))) ∧ 
 ∃n227:Nat,(x141=((n227:Nat):Int))∧(n227 < (slLen c17))∧isPt (zl2 c17 (n227 * 3)) ∧ 
 ∃x228,((ldC m213 (zl1 (zl2 c17 (n227 * 3)) 1))=(some (Il x228))) ∧ 
 ifB (decide ((Max.max x226 x228) < x224)) (Q (.c (.bool false)) m213) (zl0 .i64 (x141+1) ∧ 
 R138 [(.c (.bool true)),(.c (.bool b140)),(.c (Il (x141+1)))] m213))))))) (ifB (!b188) (ifB (decide (x169=1)) (Q (.c (.bool false)) m193) (Wc prog tbl 48 [(.c (Il x169)),
 (.c (Il (1:Int))),(.c (Il (3:Int)))] m193 (fun v229 m230 => 
 ∃b231:Bool,(v229=(.c (.bool b231)))∧ifB (!b231) (Q (.c (.bool false)) m230) (isPt (.ptr m32.nxt 0) ∧ 
 ∃c232:C,((ldC m230 (.ptr m32.nxt 0))=(some c232))∧∃n233:Nat,
 (x141=((n233:Nat):Int))∧(n233 < (slLen c232))∧∃x234,((ldC m230 (zl2 c232 (n233 * 1)))=(some (Il x234))) ∧ 
 ∃n235:Nat,(x141=((n235:Nat):Int))∧(n235 < (slLen c17))∧isPt (zl2 c17 (n235 * 3)) ∧ 
 ∃x236,((ldC m230 (zl1 (zl2 c17 (n235 * 3)) 0))=(some (Il x236))) ∧ 
 ∃n237:Nat,(x141=((n237:Nat):Int))∧(n237 < (slLen c17))∧isPt (zl2 c17 (n237 * 3)) ∧ 
 ∃x238,((ldC m230 (zl1 (zl2 c17 (n237 * 3)) 1))=(some (Il x238))) ∧ 
 ifB (decide (x234 < (Min.min x236 x238))) (Q (.c (.bool false)) m230) (isPt (.ptr m32.nxt 0) ∧ 
 ∃c239:C,((ldC m230 (.ptr m32.nxt 0))=(some c239))∧∃n240:Nat,
 (x141=((n240:Nat):Int))∧(n240 < (slLen c239))∧∃x241,((ldC m230 (zl2 c239 (n240 * 1)))=(some (Il x241))) ∧ 
 ∃n242:Nat,(x141=((n242:Nat):Int))∧(n242 < (slLen c17))∧isPt (zl2 c17 (n242 * 3)) ∧ 
 ∃x243,((ldC m230 (zl1 (zl2 c17 (n242 * 3)) 0))=(some (Il x243))) ∧ 
 ∃n244:Nat,(x141=((n244:Nat):Int))∧(n244 < (slLen c17))∧isPt (zl2 c17 (n244 * 3)) ∧ 
 ∃x245,((ldC m230 (zl1 (zl2 c17 (n244 * 3)) 1))=(some (Il x245))) ∧ 
 ifB (decide ((Max.max x243 x245) < x241)) (Q (.c (.bool false)) m230) (zl0 .i64 (x141+1) ∧ 
 R138 [(.c (.bool true)),(.c (.bool b140)),(.c (Il (x141+1)))] m230)))))) (Wc prog tbl 48 [(.c (Il x169)),
 (.c (Il (1:Int))),(.c (Il (3:Int)))] m193 (fun v246 m247 => 
 ∃b248:Bool,(v246=(.c (.bool b248)))∧ifB (!b248) (Q (.c (.bool false)) m247) (isPt (.ptr m32.nxt 0) ∧ 
 ∃c249:C,((ldC m247 (.ptr m32.nxt 0))=(some c249))∧∃n250:Nat,
 (x141=((n250:Nat):Int))∧(n250 < (slLen c249))∧∃x251,((ldC m247 (zl2 c249 (n250 * 1)))=(some (Il x251))) ∧ 
 ∃n252:Nat,(x141=((n252:Nat):Int))∧(n252 < (slLen c17))∧isPt (zl2 c17 (n252 * 3)) ∧ 
 ∃x253,((ldC m247 (zl1 (zl2 c17 (n252 * 3)) 0))=(some (Il x253))) ∧ 
 ∃n254:Nat,(x141=((n254:Nat):Int))∧(n254 < (slLen c17))∧isPt (zl2 c17 (n254 * 3)) ∧ 
 ∃x255,((ldC m247 (zl1 (zl2 c17 (n254 * 3)) 1))=(some (Il x255))) ∧ 
 ifB (decide (x251 < (Min.min x253 x255))) (Q (.c (.bool false)) m247) (isPt (.ptr m32.nxt 0) ∧ 
 ∃c256:C,((ldC m247 (.ptr m32.nxt 0))=(some c256))∧∃n257:Nat,
 (x141=((n257:Nat):Int))∧(n257 < (slLen c256))∧∃x258,((ldC m247 (zl2 c256 (n257 * 1)))=(some (Il x258))) ∧ 
 ∃n259:Nat,(x141=((n259:Nat):Int))∧(n259 < (slLen c17))∧isPt (zl2 c17 (n259 * 3)) ∧ 
 ∃x260,((ldC m247 (zl1 (zl2 c17 (n259 * 3)) 0))=(some (Il x260))) ∧ 
 ∃n261:Nat,(x141=((n261:Nat):Int))∧(n261 < (slLen c17))∧isPt (zl2 c17 (n261 * 3)) ∧ 
 ∃x262,((ldC m247 (zl1 (zl2 c17 (n261 * 3)) 1))=(some (Il x262))) ∧ 
 ifB (decide ((Max.max x260 x262) < x258)) (Q (.c (.bool false)) m247) (zl0 .i64 (x141+1) ∧ 
 R138 [(.c (.bool true)),(.c (.bool b140)),(.c (Il (x141+1)))] m247))))))))))) (ifB (!decide (x156=0)) (Q (.c (.bool false)) m187) (ifB (!decide (x170=0)) (Q (.c (.bool false)) m187) (isPt (.ptr m32.nxt 0) ∧ 
 ∃c263:C,((ldC m187 (.ptr m32.nxt 0))=(some c263))∧∃n264:Nat,
 (x141=((n264:Nat):Int))∧(n264 < (slLen c263))∧∃x265,((ldC m187 (zl2 c263 (n264 * 1)))=(some (Il x265))) ∧ 
 Wc prog tbl 47 [(.c c155),(.c (Il x265))] m187 (fun v266 m267 => 
 ∃b268:Bool,(v266=(.c (.bool b268)))∧ifB (!b268) (Q (.c (.bool false)) m267) (ifB b188 (ifB (decide (x169=2)) (Q (.c (.bool false)) m267) (ifB (!b188) (ifB (decide (x169=1)) (Q (.c (.bool false)) m267) (Wc prog tbl 48 [(.c (Il x169)),
 (.c (Il (1:Int))),(.c (Il (3:Int)))] m267 (fun v269 m270 => 
 ∃b271:Bool,(v269=(.c (.bool b271)))∧ifB (!b271) (Q (.c (.bool false)) m270) (isPt (.ptr m32.nxt 0) ∧ 
 ∃c272:C,((ldC m270 (.ptr m32.nxt 0))=(some c272))∧∃n273:Nat,
 (x141=((n273:Nat):Int))∧(n273 < (slLen c272))∧∃x274,((ldC m270 (zl2 c272 (n273 * 1)))=(some (Il x274))) ∧ 
 ∃n275:Nat,(x141=((n275:Nat):Int))∧(n275 < (slLen c17))∧isPt (zl2 c17 (n275 * 3)) ∧ 
 ∃x276,((ldC m270 (zl1 (zl2 c17 (n275 * 3)) 0))=(some (Il x276))) ∧ 
 ∃n277:Nat,(x141=((n277:Nat):Int))∧(n277 < (slLen c17))∧isPt (zl2 c17 (n277 * 3)) ∧ 
 ∃x278,((ldC m270 (zl1 (zl2 c17 (n277 * 3)) 1))=(some (Il x278))) ∧ 
 ifB (decide (x274 < (Min.min x276 x278))) (Q (.c (.bool false)) m270) (isPt (.ptr m32.nxt 0) ∧ 
 ∃c279:C,((ldC m270 (.ptr m32.nxt 0))=(some c279))∧∃n280:Nat,
 (x141=((n280:Nat):Int))∧(n280 < (slLen c279))∧∃x281,((ldC m270 (zl2 c279 (n280 * 1)))=(some (Il x281))) ∧ 
 ∃n282:Nat,(x141=((n282:Nat):Int))∧(n282 < (slLen c17))∧isPt (zl2 c17 (n282 * 3)) ∧ 
 ∃x283,((ldC m270 (zl1 (zl2 c17 (n282 * 3)) 0))=(some (Il x283))) ∧ 
 ∃n284:Nat,(x141=((n284:Nat):Int))∧(n284 < (slLen c17))∧isPt (zl2 c17 (n284 * 3)) ∧ 
 ∃x285,((ldC m270 (zl1 (zl2 c17 (n284 * 3)) 1))=(some (Il x285))) ∧ 
 ifB (decide ((Max.max x283 x285) < x281)) (Q (.c (.bool false)) m270) (zl0 .i64 (x141+1) ∧ 
 R138 [(.c (.bool b188)),(.c (.bool b140)),(.c (Il (x141+1)))] m270)))))) (Wc prog tbl 48 [(.c (Il x169)),
 (.c (Il (1:Int))),(.c (Il (3:Int)))] m267 (fun v286 m287 => 
 ∃b288:Bool,(v286=(.c (.bool b288)))∧ifB (!b288) (Q (.c (.bool false)) m287) (isPt (.ptr m32.nxt 0) ∧ 
 ∃c289:C,((ldC m287 (.ptr m32.nxt 0))=(some c289))∧∃n290:Nat,
 (x141=((n290:Nat):Int))∧(n290 < (slLen c289))∧∃x291,((ldC m287 (zl2 c289 (n290 * 1)))=(some (Il x291))) ∧ 
 ∃n292:Nat,(x141=((n292:Nat):Int))∧(n292 < (slLen c17))∧isPt (zl2 c17 (n292 * 3)) ∧ 
 ∃x293,((ldC m287 (zl1 (zl2 c17 (n292 * 3)) 0))=(some (Il x293))) ∧ 
 ∃n294:Nat,(x141=((n294:Nat):Int))∧(n294 < (slLen c17))∧isPt (zl2 c17 (n294 * 3)) ∧ 
 ∃x295,((ldC m287 (zl1 (zl2 c17 (n294 * 3)) 1))=(some (Il x295))) ∧ 
 ifB (decide (x291 < (Min.min x293 x295))) (Q (.c (.bool false)) m287) (isPt (.ptr m32.nxt 0) ∧ 
 ∃c296:C,((ldC m287 (.ptr m32.nxt 0))=(some c296))∧∃n297:Nat,
 (x141=((n297:Nat):Int))∧(n297 < (slLen c296))∧∃x298,((ldC m287 (zl2 c296 (n297 * 1)))=(some (Il x298))) ∧ 
 ∃n299:Nat,(x141=((n299:Nat):Int))∧(n299 < (slLen c17))∧isPt (zl2 c17 (n299 * 3)) ∧ 
 ∃x300,((ldC m287 (zl1 (zl2 c17 (n299 * 3)) 0))=(some (Il x300))) ∧ 
 ∃n301:Nat,(x141=((n301:Nat):Int))∧(n301 < (slLen c17))∧isPt (zl2 c17 (n301 * 3)) ∧ 
 ∃x302,((ldC m287 (zl1 (zl2 c17 (n301 * 3)) 1))=(some (Il x302))) ∧ 
 ifB (decide ((Max.max x300 x302) < x298)) (Q (.c (.bool false)) m287) (zl0 .i64 (x141+1) ∧ 
 R138 [(.c (.bool b188)),(.c (.bool b140)),(.c (Il (x141+1)))] m287))))))) (ifB (!b188) (ifB (decide (x169=1)) (Q (.c (.bool false)) m267) (Wc prog tbl 48 [(.c (Il x169)),
 (.c (Il (1:Int))),(.c (Il (3:Int)))] m267 (fun v303 m304 => 
 ∃b305:Bool,(v303=(.c (.bool b305)))∧ifB (!b305) (Q (.c (.bool false)) m304) (isPt (.ptr m32.nxt 0) ∧ 
 ∃c306:C,((ldC m304 (.ptr m32.nxt 0))=(some c306))∧∃n307:Nat,
 (x141=((n307:Nat):Int))∧(n307 < (slLen c306))∧∃x308,((ldC m304 (zl2 c306 (n307 * 1)))=(some (Il x308))) ∧ 
 ∃n309:Nat,(x141=((n309:Nat):Int))∧(n309 < (slLen c17))∧isPt (zl2 c17 (n309 * 3)) ∧ 
 ∃x310,((ldC m304 (zl1 (zl2 c17 (n309 * 3)) 0))=(some (Il x310))) ∧ 
 ∃n311:Nat,(x141=((n311:Nat):Int))∧(n311 < (slLen c17))∧isPt (zl2 c17 (n311 * 3)) ∧ 
 ∃x312,((ldC m304 (zl1 (zl2 c17 (n311 * 3)) 1))=(some (Il x312))) ∧ 
 ifB (decide (x308 < (Min.min x310 x312))) (Q (.c (.bool false)) m304) (isPt (.ptr m32.nxt 0) ∧ 
 ∃c313:C,((ldC m304 (.ptr m32.nxt 0))=(some c313))∧∃n314:Nat,
 (x141=((n314:Nat):Int))∧(n314 < (slLen c313))∧∃x315,((ldC m304 (zl2 c313 (n314 * 1)))=(some (Il x315))) ∧ 
 ∃n316:Nat,(x141=((n316:Nat):Int))∧(n316 < (slLen c17))∧isPt (zl2 c17 (n316 * 3)) ∧ 
 ∃x317,((ldC m304 (zl1 (zl2 c17 (n316 * 3)) 0))=(some (Il x317))) ∧ 
 ∃n318:Nat,(x141=((n318:Nat):Int))∧(n318 < (slLen c17))∧isPt (zl2 c17 (n318 * 3)) ∧ 
 ∃x319,((ldC m304 (zl1 (zl2 c17 (n318 * 3)) 1))=(some (Il x319))) ∧ 
 ifB (decide ((Max.max x317 x319) < x315)) (Q (.c (.bool false)) m304) (zl0 .i64 (x141+1) ∧ 
 R138 [(.c (.bool b188)),(.c (.bool b140)),(.c (Il (x141+1)))] m304)))))) (Wc prog tbl 48 [(.c (Il x169)),
 (.c (Il (1:Int))),(.c (Il (3:Int)))] m267 (fun v320 m321 => 
 ∃b322:Bool,(v320=(.c (.bool b322)))∧ifB (!b322) (Q (.c (.bool false)) m321) (isPt (.ptr m32.nxt 0) ∧ 
 ∃c323:C,((ldC m321 (.ptr m32.nxt 0))=(some c323))∧∃n324:Nat,
 (x141=((n324:Nat):Int))∧(n324 < (slLen c323))∧∃x325,((ldC m321 (zl2 c323 (n324 * 1)))=(some (Il x325))) ∧ 
 ∃n326:Nat,(x141=((n326:Nat):Int))∧(n326 < (slLen c17))∧isPt (zl2 c17 (n326 * 3)) ∧ 
 ∃x327,((ldC m321 (zl1 (zl2 c17 (n326 * 3)) 0))=(some (Il x327))) ∧ 
 ∃n328:Nat,(x141=((n328:Nat):Int))∧(n328 < (slLen c17))∧isPt (zl2 c17 (n328 * 3)) ∧ 
 ∃x329,((ldC m321 (zl1 (zl2 c17 (n328 * 3)) 1))=(some (Il x329))) ∧ 
 ifB (decide (x325 < (Min.min x327 x329))) (Q (.c (.bool false)) m321) (isPt (.ptr m32.nxt 0) ∧ 
 ∃c330:C,((ldC m321 (.ptr m32.nxt 0))=(some c330))∧∃n331:Nat,
 (x141=((n331:Nat):Int))∧(n331 < (slLen c330))∧∃x332,((ldC m321 (zl2 c330 (n331 * 1)))=(some (Il x332))) ∧ 
 ∃n333:Nat,(x141=((n333:Nat):Int))∧(n333 < (slLen c17))∧isPt (zl2 c17 (n333 * 3)) ∧ 
 ∃x334,((ldC m321 (zl1 (zl2 c17 (n333 * 3)) 0))=(some (Il x334))) ∧ 
 ∃n335:Nat,(x141=((n335:Nat):Int))∧(n335 < (slLen c17))∧isPt (zl2 c17 (n335 * 3)) ∧ 
 ∃x336,((ldC m321 (zl1 (zl2 c17 (n335 * 3)) 1))=(some (Il x336))) ∧ 
 ifB (decide ((Max.max x334 x336) < x332)) (Q (.c (.bool false)) m321) (zl0 .i64 (x141+1) ∧ 
 R138 [(.c (.bool b188)),(.c (.bool b140)),(.c (Il (x141+1)))] m321))))))))))))))))) (isPt (.ptr m32.nxt 0) ∧ 
 ∃x337,((ldC m142 (.ptr m32.nxt 2))=(some (Il x337))) ∧ 
 isPt (.ptr m32.nxt 0)∧∃x338,((ldC m142 (.ptr m32.nxt 3))=(some (Il x338))) ∧ 
 zl0 .i64 (x337+x338)∧isPt (.ptr m.nxt 0)∧∃x339,((ldC m142 (.ptr m.nxt 2))=(some (Il x339))) ∧ 
 ifB (decide ((x337+x338)=x339)) (isPt (.ptr m32.nxt 0)∧∃x340,
 ((ldC m142 (.ptr m32.nxt 2))=(some (Il x340))) ∧ 
 ifB (decide ((0:Int)≤x340)) (isPt (.ptr m32.nxt 0)∧∃x341,((ldC m142 (.ptr m32.nxt 3))=(some (Il x341))) ∧ 
 ifB (decide ((0:Int)≤x341)) (ifB b139 (Wc prog tbl 17 [] m142 (fun v342 m343 => 
 ∃b344:Bool,(v342=(.c (.bool b344)))∧Q (.c (.bool b344)) m343)) (isPt (.ptr m32.nxt 0) ∧ 
 ∃x345,((ldC m142 (.ptr m32.nxt 2))=(some (Il x345))) ∧ 
 isPt (.ptr m32.nxt 0)∧∃x346,((ldC m142 (.ptr m32.nxt 3))=(some (Il x346))) ∧ 
 zl0 .i64 (x345+x346)∧ifB (decide ((x345+x346)=(0:Int))) (Wc prog tbl 17 [] m142 (fun v347 m348 => 
 ∃b349:Bool,(v347=(.c (.bool b349)))∧Q (.c (.bool b349)) m348)) (Q (.c (.bool false)) m142))) (Q (.c (.bool false)) m142)) (Q (.c (.bool false)) m142)) (ifB (!b139) (isPt (.ptr m32.nxt 0) ∧ 
 ∃x350,((ldC m142 (.ptr m32.nxt 2))=(some (Il x350))) ∧ 
 isPt (.ptr m32.nxt 0)∧∃x351,((ldC m142 (.ptr m32.nxt 3))=(some (Il x351))) ∧ 
 zl0 .i64 (x350+x351)∧ifB (decide ((x350+x351)=(0:Int))) (isPt (.ptr m32.nxt 0) ∧ 
 ∃x352,((ldC m142 (.ptr m32.nxt 2))=(some (Il x352))) ∧ 
 ifB (decide ((0:Int)≤x352)) (isPt (.ptr m32.nxt 0)∧∃x353,((ldC m142 (.ptr m32.nxt 3))=(some (Il x353))) ∧ 
 ifB (decide ((0:Int)≤x353)) (ifB b139 (Wc prog tbl 17 [] m142 (fun v354 m355 => 
 ∃b356:Bool,(v354=(.c (.bool b356)))∧Q (.c (.bool b356)) m355)) (isPt (.ptr m32.nxt 0) ∧ 
 ∃x357,((ldC m142 (.ptr m32.nxt 2))=(some (Il x357))) ∧ 
 isPt (.ptr m32.nxt 0)∧∃x358,((ldC m142 (.ptr m32.nxt 3))=(some (Il x358))) ∧ 
 zl0 .i64 (x357+x358)∧ifB (decide ((x357+x358)=(0:Int))) (Wc prog tbl 17 [] m142 (fun v359 m360 => 
 ∃b361:Bool,(v359=(.c (.bool b361)))∧Q (.c (.bool b361)) m360)) (Q (.c (.bool false)) m142))) (Q (.c (.bool false)) m142)) (Q (.c (.bool false)) m142)) (Q (.c (.bool false)) m142)) (Q (.c (.bool false)) m142)))) → 
 R138 [(.c (.bool b139)),(.c (.bool b140)),(.c (Il x141))] m142) → 
 R138 [(.c (.bool false)),(.c (.bool false)),(.c (Il 0))] m136))))))))))))))))))))))))))))))):Wc prog tbl 7 [(.agg 4 [a100,(Il a101),(Il a102),a103]),(.c a200)] m Q:=
 zpB (n:=2) rfl (by kernel_rfl) (by kernel_rfl) h
theorem zBc{c:Cse}{ca100 ca103:C}{m f:M}{Q:V→M→Prop}{rz:Rg × Int}(hS:Pre f m)(ha100:Sl f ca100 c.Tariffs)(ha103:Sl f ca103 c.Fields)(hp:zva c=some rz)(hq:∀m',Ext m m'→Q (.tup [.agg 2 [(Il rz.1.Lo),(Il rz.1.Hi)],.c (Il rz.2)]) m'):Wc prog tbl 33 [.agg 4 [ca100,(Il c.Day),(Il c.Fee),ca103]] m Q:=by
 have S0:=hS.st;obtain⟨τ0,_⟩:=zrF;refine w33 ?_;unfold zva at hp;intro m0 p;obtain⟨s,t,Aa,u⟩:=S0.blk p τ0 1;intro m1 x;obtain⟨y,e,z,A⟩:=t.blk x s 2;have B:=u.k z;refine⟨_,_,_,_,B.bk.ra,?_⟩;obtain⟨d,D,hp⟩:=zqd hp;refine zys (c:=c) e.pre ha100 ha103 D fun m7 F zvn G I J N O P=>?_;obtain⟨S,T,Y,Z⟩:=e.callN J P y 3;have aa:=A.k Y;refine⟨_,_,_,_,_,_,rfl,?_⟩;intro Fa ba;obtain⟨Ba,ca,g,da⟩:=T.blk ba S 4;have ea:=aa.k g;have fa:=Z.k g;obtain⟨ga,ha,a,h,ia⟩:=da.sto ca [zvn,(Il d.1.c.Day),(Il d.1.c.Fee),G,I];have i:=ea.k h;have j:=fa.k h;refine⟨ga,ha,?_⟩;refine zqR hp (fun ja hp=>?_) fun ja hp=>?_
 ·obtain⟨ka,la,ma,Ca,na⟩:=i.sto a [(Il 0),(Il 0)];refine⟨ka,la,?_⟩;refine⟨_,_,na.bk.ra,?_⟩;obtain rfl:=oi hp;exact hq _ ma.ext'
 refine⟨_,_,_,_,_,ia.bk.ra,?_⟩
 have n:zA6 F ((C.fn (Fn.func 69) [] [])) (fun b=>zua b):=by
  intro f' m' b r Q hs hpre  hg hq;exact zyw hpre  hg hq
 obtain⟨l,oa,hp⟩:=zqd hp;refine zBb (w:=d.1) (q:=({ ask:=(fun b=>zua b) }:Qn)) a.pre N O (j.mc a) n oa fun Ga pa o=>?_;obtain⟨qa,sa,Da⟩:=a.callM j pa o;have ta:=i.k sa;refine⟨_,_,rfl,?_⟩;obtain⟨ua,va,wa,Ea,xa⟩:=ta.sto qa [(Il l.1.Lo),(Il l.1.Hi)];refine⟨ua,va,?_⟩;refine⟨_,_,xa.bk.ra,?_⟩;obtain rfl:=oi hp;exact hq _ wa.ext'
theorem zBd{c:Cse}{ca100 ca103:C}{m f:M}{Q:V→M→Prop}{rz:Rg × Rg × Int}(hS:Pre f m)(ha100:Sl f ca100 c.Tariffs)(ha103:Sl f ca103 c.Fields)(hp:zvb c=some rz)(hq:∀m',Ext m m'→Q (.tup [.agg 2 [(Il rz.1.Lo),(Il rz.1.Hi)],.agg 2 [(Il rz.2.1.Lo),(Il rz.2.1.Hi)],.c (Il rz.2.2)]) m'):Wc prog tbl 34 [.agg 4 [ca100,(Il c.Day),(Il c.Fee),ca103]] m Q:=by
 have S0:=hS.st;obtain⟨τ0,_⟩:=zrF;refine w34 ?_;unfold zvb at hp;intro m0 O;obtain⟨P,S,qb,T⟩:=S0.blk O τ0 1;intro m1 Y;obtain⟨Z,aa,ba,ca⟩:=S.blk Y P 2;have da:=T.k ba;intro m2 ea;obtain⟨fa,t,u,ga⟩:=aa.blk ea Z 3;have ha:=da.k u;have ia:=ca.k u;refine⟨_,_,_,_,ha.bk.ra,?_⟩;obtain⟨a,ja,hp⟩:=zqd hp;refine zys (c:=c) t.pre ha100 ha103 ja fun m8 x ka la ma na g h oa=>?_;obtain⟨pa,qa,y,sa⟩:=t.callN na oa fa 4;have ta:=ia.k y;have ua:=ga.k y;refine⟨_,_,_,_,_,_,rfl,?_⟩;intro tb va;obtain⟨rb,wa,i,xa⟩:=qa.blk va pa 5;have ya:=ta.k i;have za:=ua.k i;have Aa:=sa.k i;obtain⟨Ba,Ca,b,j,l⟩:=xa.sto wa [ka,(Il a.1.c.Day),(Il a.1.c.Fee),la,ma];have z:=ya.k j;have A:=za.k j;have B:=Aa.k j;refine⟨Ba,Ca,?_⟩;refine zqR hp (fun Da hp=>?_) fun Da hp=>?_
 ·obtain⟨Ea,Fa,Ga,Ha,Ia⟩:=z.sto b [(Il 0),(Il 0)];have Ja:=A.k Ha;refine⟨Ea,Fa,?_⟩;obtain⟨Ka,La,Ma,Na,Oa⟩:=Ja.sto Ga [(Il 0),(Il 0)];have Pa:=Ia.k Na;refine⟨Ka,La,?_⟩;refine⟨_,_,Pa.bk.ra,_,_,Oa.bk.ra,?_⟩;obtain rfl:=oi hp;exact hq _ Ma.ext'
 refine⟨_,_,_,_,_,l.bk.ra,?_⟩
 have G:zA6 x ((C.fn (Fn.func 70) [] [])) (fun d=>zub d):=by
  intro f' m' d r Q hs hpre  hg hq;exact zyx hpre  hg hq
 obtain⟨n,Qa,hp⟩:=zqd hp;refine zBb (w:=a.1) (q:=({ ask:=(fun d=>zub d) }:Qn)) b.pre g h (B.mc b) G Qa fun ub Ra I=>?_;obtain⟨o,p,s⟩:=b.callM B Ra I;have Sa:=z.k p;have Ta:=A.k p;have Ua:=l.k p;refine⟨_,_,rfl,_,_,_,_,_,Ua.bk.ra,(by rw[show zaL cmC _=true from zoN (zqh g.noFn (zqh rfl (zqh rfl (zqh h.noFn (zqh s.mi.noFn zqi)))))]; exact(l.bk.ra)),?_⟩
 have J:zA6 x ((C.fn (Fn.func 71) [] [])) (fun e=>zuc e):=by
  intro f' m' e r Q hs hpre  hg hq;exact zyy hpre  hg hq
 obtain⟨D,Va,hp⟩:=zqd hp;refine zBb (w:=({ c:=a.1.c,payments:=n.2 }:UWk)) (q:=({ ask:=(fun e=>zuc e) }:Qn)) o.pre g h (s.mc o) J Va fun vb Wa N=>?_;obtain⟨Xa,F,sb⟩:=o.callM s Wa N;have Ya:=Sa.k F;have Za:=Ta.k F;refine⟨_,_,rfl,?_⟩;obtain⟨ab,bb,cb,db,eb⟩:=Ya.sto Xa [(Il n.1.Lo),(Il n.1.Hi)];have fb:=Za.k db;refine⟨ab,bb,?_⟩;obtain⟨gb,hb,ib,jb,kb⟩:=fb.sto cb [(Il D.1.Lo),(Il D.1.Hi)];have mb:=eb.k jb;refine⟨gb,hb,?_⟩;refine⟨_,_,mb.bk.ra,_,_,kb.bk.ra,?_⟩;obtain rfl:=oi hp;exact hq _ ib.ext'
theorem zBe{c:Cse}{ca100 ca103:C}{m f:M}{Q:V→M→Prop}{rz:Rg × Int}(hS:Pre f m)(ha100:Sl f ca100 c.Tariffs)(ha103:Sl f ca103 c.Fields)(hp:zvc c=some rz)(hq:∀m',Ext m m'→Q (.tup [.agg 2 [(Il rz.1.Lo),(Il rz.1.Hi)],.c (Il rz.2)]) m'):Wc prog tbl 35 [.agg 4 [ca100,(Il c.Day),(Il c.Fee),ca103]] m Q:=by
 have S0:=hS.st;obtain⟨τ0,_⟩:=zrF;refine w35 ?_;unfold zvc at hp;intro m0 F;obtain⟨G,I,Ma,J⟩:=S0.blk F τ0 1;intro m1 N;obtain⟨O,n,P,S⟩:=I.blk N G 2;have T:=J.k P;refine⟨_,_,_,_,T.bk.ra,?_⟩;obtain⟨a,Y,hp⟩:=zqd hp;refine zys (c:=c) n.pre ha100 ha103 Y fun m7 o Z aa ba ca g h da=>?_;obtain⟨ea,fa,ga,ha⟩:=n.callN ca da O 3;have ia:=S.k ga;refine⟨_,_,_,_,_,_,rfl,?_⟩;intro Ra ja;obtain⟨Na,ka,p,la⟩:=fa.blk ja ea 4;have ma:=ia.k p;have na:=ha.k p;obtain⟨oa,pa,b,s,i⟩:=la.sto ka [Z,(Il a.1.c.Day),(Il a.1.c.Fee),aa,ba];have t:=ma.k s;have u:=na.k s;refine⟨oa,pa,?_⟩;refine zqR hp (fun qa hp=>?_) fun qa hp=>?_
 ·obtain⟨sa,ta,ua,Oa,va⟩:=t.sto b [(Il 0),(Il 0)];refine⟨sa,ta,?_⟩;refine⟨_,_,va.bk.ra,?_⟩;obtain rfl:=oi hp;exact hq _ ua.ext'
 refine⟨_,_,_,_,_,i.bk.ra,?_⟩
 have z:zA6 o ((C.fn (Fn.func 72) [] [])) (fun d=>zud d):=by
  intro f' m' d r Q hs hpre  hg hq;exact zyz hpre  hg hq
 obtain⟨x,wa,hp⟩:=zqd hp;refine zBb (w:=a.1) (q:=({ ask:=(fun d=>zud d) }:Qn)) b.pre g h (u.mc b) z wa fun Sa xa A=>?_;obtain⟨j,y,l⟩:=b.callM u xa A;have ya:=t.k y;have za:=i.k y;refine⟨_,_,rfl,_,_,_,_,_,za.bk.ra,(by rw[show zaL cmC _=true from zoN (zqh g.noFn (zqh rfl (zqh rfl (zqh h.noFn (zqh l.mi.noFn zqi)))))]; exact(i.bk.ra)),?_⟩
 have B:zA6 o ((C.fn (Fn.func 73) [] [])) (fun e=>zue e):=by
  intro f' m' e r Q hs hpre  hg hq;exact zyA hpre  hg hq
 obtain⟨Aa,Ba,hp⟩:=zqd hp;refine zBb (w:=({ c:=a.1.c,payments:=x.2 }:UWk)) (q:=({ ask:=(fun e=>zue e) }:Qn)) j.pre g h (l.mc j) B Ba fun Ta Ca D=>?_;obtain⟨Da,Ea,Pa⟩:=j.callM l Ca D;have Fa:=ya.k Ea;refine⟨_,_,rfl,?_⟩;obtain⟨Ga,Ha,Ia,Qa,Ja⟩:=Fa.sto Da [(Il x.1.Lo),(Il Aa.1.Hi)];refine⟨Ga,Ha,?_⟩;refine⟨_,_,Ja.bk.ra,?_⟩;obtain rfl:=oi hp;exact hq _ Ia.ext'
theorem zBf{m f:M}{Q:V→M→Prop}{rz:Bool}(hS:Pre f m)(hp:zvd=some rz)(hq:∀m',Ext m m'→Q (.c (.bool rz)) m'):Wc prog tbl 17 [] m Q:=by
 have S0:=hS.st;obtain⟨τ0,_⟩:=zrF;refine w17 ?_;unfold zvd at hp;obtain⟨Qa,Ra,hp⟩:=zqd hp;refine zyY S0.pre  Ra fun m1 Lf Mf Nf Sa Ta Ua=>?_;obtain⟨ca,Of⟩:=S0.callG Sa τ0;refine⟨_,_,_,_,rfl,?_⟩;obtain⟨Va,Wa,hp⟩:=zqd hp;refine zyZ (first:=(40:Int)) (u:=(35:Int)) (second:=(17:Int)) ca.pre  Wa fun m7 Pf Qf Xa Ya=>?_;obtain⟨da,ea⟩:=ca.callG Xa τ0;refine⟨_,rfl,?_⟩;obtain⟨r,Za,hp⟩:=zqd hp;refine zyI (c:=Qa) (t:=Va) da.pre (Ta.sub ea.fs) (Ua.sub ea.fs) Ya Za fun Hg Rf ab bb fa=>?_;obtain⟨cb,Sf⟩:=da.callG bb τ0;refine⟨_,_,_,_,_,rfl,?_⟩;intro Ig db;obtain⟨d,eb,Uf,fb⟩:=cb.blk db τ0 1;obtain⟨gb,hb,ga,Vf,ib⟩:=fb.sto eb [ab,(Il r.1.Award),(Il r.1.Farmer),(Il r.1.Society)];refine⟨gb,hb,?_⟩;obtain⟨jb,kb,hp⟩:=zqd hp;refine zyY ga.pre  kb fun Jg Wf Xf Yf mb ob pb=>?_;obtain⟨ha,ia⟩:=ga.callG mb d;have qb:=ib.k ia;refine⟨_,_,_,_,rfl,?_⟩;obtain⟨rb,sb,hp⟩:=zqd hp;refine zyJ (c:=jb) (field:=(0:Int)) ha.pre ob pb sb fun Kg Zf ag tb ub=>?_;obtain⟨ja,ka⟩:=ha.callG tb d;have vb:=qb.k ka;refine⟨_,_,rfl,?_⟩;obtain⟨wb,xb,hp⟩:=zqd hp;refine zyY ja.pre  xb fun Lg bg cg dg yb zb Ab=>?_;obtain⟨la,I⟩:=ja.callG yb d;have Bb:=vb.k I;refine⟨_,_,_,_,rfl,?_⟩;obtain⟨eg,Cb,hp⟩:=zqd hp;refine zyK (c:=wb) (field:=(1:Int)) la.pre zb Ab Cb fun Mg Db=>?_;obtain⟨ma,Eb⟩:=la.call Db d;have Fb:=Bb.k Eb;refine⟨_,_,rfl,?_⟩;obtain⟨Gb,Hb,hp⟩:=zqd hp;refine zyY ma.pre  Hb fun Ng fg gg hg Ib Jb Kb=>?_;obtain⟨na,J⟩:=ma.callG Ib d;have Mb:=Fb.k J;refine⟨_,_,_,_,rfl,?_⟩;obtain⟨oa,Nb,hp⟩:=zqd hp
 refine zBc (c:=Gb) na.pre Jb Kb Nb fun Og Ob=>?_;obtain⟨Pb,Qb⟩:=na.call Ob d;have Rb:=Mb.k Qb;refine⟨_,_,_,rfl,?_⟩;intro Pg Sb;obtain⟨N,Tb,Ub,Vb⟩:=Pb.blk Sb d 2;have Wb:=Rb.k Ub;obtain⟨Xb,Yb,pa,Zb,ac⟩:=Vb.sto Tb [(Il oa.1.Lo),(Il oa.1.Hi)];have bc:=Wb.k Zb;refine⟨Xb,Yb,?_⟩;obtain⟨cc,dc,hp⟩:=zqd hp;refine zyY pa.pre  dc fun Qg ig jg kg ec fc gc=>?_;obtain⟨qa,s⟩:=pa.callG ec N;have hc:=bc.k s;have ic:=ac.k s;refine⟨_,_,_,_,rfl,?_⟩;obtain⟨w,jc,hp⟩:=zqd hp;refine zBd (c:=cc) qa.pre fc gc jc fun Sg kc=>?_;obtain⟨lc,sa⟩:=qa.call kc N;have nc:=hc.k sa;have oc:=ic.k sa;refine⟨_,_,_,_,_,rfl,?_⟩;intro Tg pc;obtain⟨qc,sc,ta,tc⟩:=lc.blk pc N 3;have uc:=nc.k ta;have vc:=oc.k ta;intro Ug wc;obtain⟨O,xc,P,yc⟩:=sc.blk wc qc 4;have zc:=uc.k P;have Ac:=vc.k P;have Bc:=tc.k P;obtain⟨Cc,Dc,Ec,S,Fc⟩:=Bc.sto xc [(Il w.1.Lo),(Il w.1.Hi)];have Gc:=zc.k S;have Hc:=Ac.k S;have Ic:=yc.k S;refine⟨Cc,Dc,?_⟩;obtain⟨Jc,Kc,ua,T,Lc⟩:=Ic.sto Ec [(Il w.2.1.Lo),(Il w.2.1.Hi)];have Nc:=Gc.k T;have Pc:=Hc.k T;have Qc:=Fc.k T;refine⟨Jc,Kc,?_⟩;obtain⟨Rc,Tc,hp⟩:=zqd hp;refine zyY ua.pre  Tc fun Vg lg mg ng Uc Vc Xc=>?_;obtain⟨va,i⟩:=ua.callG Uc O;have Yc:=Nc.k i;have Zc:=Pc.k i;have ad:=Qc.k i;have bd:=Lc.k i;refine⟨_,_,_,_,rfl,?_⟩;obtain⟨wa,cd,hp⟩:=zqd hp;refine zBe (c:=Rc) va.pre Vc Xc cd fun Wg dd=>?_;obtain⟨ed,x⟩:=va.call dd O;have fd:=Yc.k x;have hd:=Zc.k x;have id:=ad.k x;have jd:=bd.k x;refine⟨_,_,_,rfl,?_⟩;intro Xg kd;obtain⟨Y,ld,y,md⟩:=ed.blk kd O 5;have nd:=fd.k y;have od:=hd.k y;have pd:=id.k y;have qd:=jd.k y
 obtain⟨sd,td,xa,z,ud⟩:=md.sto ld [(Il wa.1.Lo),(Il wa.1.Hi)];have vd:=nd.k z;have wd:=od.k z;have xd:=pd.k z;have yd:=qd.k z;refine⟨sd,td,?_⟩;obtain⟨zd,Ad,hp⟩:=zqd hp;refine zyY xa.pre  Ad fun Zg og pg qg Bd Cd Dd=>?_;obtain⟨ya,e⟩:=xa.callG Bd Y;have Ed:=vd.k e;have Fd:=wd.k e;have Gd:=xd.k e;have Hd:=yd.k e;have Id:=ud.k e;refine⟨_,_,_,_,rfl,?_⟩;obtain⟨Jd,Ld,hp⟩:=zqd hp;refine zyL (c:=zd) ya.pre Cd Dd Ld fun Jf rg sg Md Nd=>?_;obtain⟨za,g⟩:=ya.callG Md Y;have Aa:=Ed.k g;have Od:=Fd.k g;have Pd:=Gd.k g;have Qd:=Hd.k g;have Rd:=Id.k g;refine⟨_,_,rfl,?_⟩;refine ifd hp (fun Sd hp=>?_) fun Sd hp=>?_; rotate_left
 ·obtain rfl:=oi hp;exact hq _ za.ext'
 refine⟨_,_,_,_,Aa.bk.ra,?_⟩;intro ah Td;obtain⟨Ba,Ud,o,Vd⟩:=za.blk Td Y 6;have Wd:=Aa.k o;have Xd:=Od.k o;have Yd:=Pd.k o;have Zd:=Qd.k o;have ae:=Rd.k o;refine⟨(by rw[show zaL cmC _=true from zoN (zqh fa.noFn (zqh rfl (zqh rfl (zqh rfl zqi))))]; exact(Wd.bk.ra)),?_⟩;obtain⟨Ca,Da,h,Na⟩:=Vd.freeze Ud;have be:=Xd.k h;have ce:=Yd.k h;have de:=Zd.k h;have ee:=ae.k h;have fe:Sl Ca (C.sl Jf.nxt 0 2 0 (Option.some 2)) ([(35:Int),(18:Int)]:List Int):=Bk.sl (α:=Int) (l:=([(35:Int),(18:Int)]:List Int)) Na (show Cat (α:=Int) Ca [(Il (35:Int)),(Il (18:Int))] ([(35:Int),(18:Int)]:List Int) from ⟨[(Il (35:Int))],_,rfl,rfl,⟨[(Il (18:Int))],_,rfl,rfl,rfl⟩⟩) rfl rfl _;obtain⟨tg,ge,hp⟩:=zqd hp;refine zyW (a:=r.1) (b:=({ Counts:=([(35:Int),(18:Int)]:List Int),Award:=(386:Int),Farmer:=(16:Int),Society:=(15:Int) }:Res)) Da.pre (fa.sub (Sub.trans (Sub.trans (Sub.trans (Sub.trans (Sub.trans (Sub.trans (Sub.trans (Sub.trans ia.fs ka.fs) I.fs) J.fs) s.fs) i.fs) e.fs) g.fs) h.fs)) fe ge fun Kf he=>?_;obtain⟨Z,A⟩:=Da.call he Ba;have ie:=be.k A;have je:=ce.k A;have ke:=de.k A;have me:=ee.k A;refine⟨_,rfl,?_⟩;refine zqS hp (fun oe hp=>?_) fun oe hp=>?_; rotate_left
 ·obtain rfl:=oi hp;exact hq _ Z.ext'
 refine ifd hp (fun pe hp=>?_) fun pe hp=>?_; rotate_left
 ·obtain rfl:=oi hp;exact hq _ Z.ext'
 intro bh qe;obtain⟨p,re,B,se⟩:=Z.blk qe Ba 7;have te:=ie.k B;have ue:=je.k B;have ve:=ke.k B;have we:=me.k B;obtain⟨Ea,Fa,j,Oa⟩:=se.freeze re;have xe:=te.k j;have ye:=ue.k j;have ze:=ve.k j;have Ae:=we.k j;have Be:Sl Ea (C.sl Kf.nxt 0 4 0 (Option.some 4)) ([(33:Int),(34:Int),(35:Int),(36:Int)]:List Int):=Bk.sl (α:=Int) (l:=([(33:Int),(34:Int),(35:Int),(36:Int)]:List Int)) Oa (show Cat (α:=Int) Ea [(Il (33:Int)),(Il (34:Int)),(Il (35:Int)),(Il (36:Int))] ([(33:Int),(34:Int),(35:Int),(36:Int)]:List Int) from ⟨[(Il (33:Int))],_,rfl,rfl,⟨[(Il (34:Int))],_,rfl,rfl,⟨[(Il (35:Int))],_,rfl,rfl,⟨[(Il (36:Int))],_,rfl,rfl,rfl⟩⟩⟩⟩) rfl rfl _;obtain⟨ug,Ce,hp⟩:=zqd hp;refine zwV (a:=rb.1) (b:=([(33:Int),(34:Int),(35:Int),(36:Int)]:List Int)) Fa.pre (ub.sub (Sub.trans (Sub.trans (Sub.trans (Sub.trans (Sub.trans (Sub.trans (Sub.trans I.fs J.fs) s.fs) i.fs) e.fs) g.fs) h.fs) j.fs)) Be Ce fun vg De=>?_;obtain⟨n,D⟩:=Fa.call De p;have Ga:=xe.k D;have Ee:=ye.k D;have Fe:=ze.k D;have Ge:=Ae.k D;refine⟨_,rfl,?_⟩;refine zqS hp (fun He hp=>?_) fun He hp=>?_; rotate_left
 ·obtain rfl:=oi hp;exact hq _ n.ext'
 refine ifd hp (fun Ie hp=>?_) fun Ie hp=>?_; rotate_left
 ·obtain rfl:=oi hp;exact hq _ n.ext'
 refine ifd hp (fun Je hp=>?_) fun Je hp=>?_; rotate_left
 ·obtain rfl:=oi hp;exact hq _ n.ext'
 refine ifd hp (fun Ke hp=>?_) fun Ke hp=>?_; rotate_left
 ·obtain rfl:=oi hp;exact hq _ n.ext'
 refine⟨_,_,Ga.bk.ra,?_⟩;obtain⟨wg,Me,hp⟩:=zqd hp;refine zyX (low:=(366:Int)) (high:=(398:Int)) n.pre  Me fun xg Ne=>?_;obtain⟨F,G⟩:=n.call Ne p;have Oe:=Ga.k G;have Ha:=Ee.k G;have Pe:=Fe.k G;have Qe:=Ge.k G;refine⟨_,_,rfl,(Oe.bk.ra),?_⟩;refine gdi hp fun Re hp=>?_;refine gdi hp fun Se hp=>?_;refine gdi hp fun Te hp=>?_;refine gdi hp fun Ue hp=>?_;refine zqS hp (fun Ve hp=>?_) fun Ve hp=>?_; rotate_left
 ·obtain rfl:=oi hp;exact hq _ F.ext'
 refine ifd hp (fun We hp=>?_) fun We hp=>?_; rotate_left
 ·obtain rfl:=oi hp;exact hq _ F.ext'
 refine⟨_,_,Ha.bk.ra,?_⟩;obtain⟨zg,Xe,hp⟩:=zqd hp;refine zyX (low:=(0:Int)) (high:=(31:Int)) F.pre  Xe fun Ag Ye=>?_;obtain⟨q,aa⟩:=F.call Ye p;have Ia:=Ha.k aa;have Ze:=Pe.k aa;have Ja:=Qe.k aa;refine⟨_,_,rfl,(Ia.bk.ra),?_⟩;refine gdi hp fun af hp=>?_;refine gdi hp fun bf hp=>?_;refine gdi hp fun cf hp=>?_;refine gdi hp fun df hp=>?_;refine zqS hp (fun ef hp=>?_) fun ef hp=>?_; rotate_left
 ·obtain rfl:=oi hp;exact hq _ q.ext'
 refine⟨_,_,Ze.bk.ra,_,_,Ia.bk.ra,?_⟩;refine gdi hp fun gf hp=>?_;refine gdi hp fun hf hp=>?_;refine gdi hp fun jf hp=>?_;refine gdi hp fun kf hp=>?_;refine zqS hp (fun lf hp=>?_) fun lf hp=>?_; rotate_left
 ·obtain rfl:=oi hp;exact hq _ q.ext'
 refine ifd hp (fun mf hp=>?_) fun mf hp=>?_; rotate_left
 ·obtain rfl:=oi hp;exact hq _ q.ext'
 refine⟨_,_,Ja.bk.ra,?_⟩;obtain⟨Bg,nf,hp⟩:=zqd hp;refine zyX (low:=(335:Int)) (high:=(429:Int)) q.pre  nf fun pf qf=>?_;obtain⟨ba,rf⟩:=q.call qf p;have sf:=Ja.k rf;refine⟨_,_,rfl,(sf.bk.ra),?_⟩;refine gdi hp fun tf hp=>?_;refine gdi hp fun uf hp=>?_;refine gdi hp fun vf hp=>?_;refine gdi hp fun wf hp=>?_;refine zqS hp (fun xf hp=>?_) fun xf hp=>?_; rotate_left
 ·obtain rfl:=oi hp;exact hq _ ba.ext'
 refine ifd hp (fun yf hp=>?_) fun yf hp=>?_; rotate_left
 ·obtain rfl:=oi hp;exact hq _ ba.ext'
 intro Cg zf;obtain⟨Af,Bf,Dg,Cf⟩:=ba.blk zf p 8;obtain⟨Ka,La,Df,Pa⟩:=Cf.freeze Bf;have Ef:Sl Ka (C.sl pf.nxt 0 1 0 (Option.some 1)) ([(0:Int)]:List Int):=Bk.sl (α:=Int) (l:=([(0:Int)]:List Int)) Pa (show Cat (α:=Int) Ka [(Il 0)] ([(0:Int)]:List Int) from ⟨[(Il 0)],_,rfl,rfl,rfl⟩) rfl rfl _;obtain⟨Eg,Ff,hp⟩:=zqd hp;refine zwV (a:=Jd.1) (b:=([(0:Int)]:List Int)) La.pre (Nd.sub (Sub.trans (Sub.trans h.fs j.fs) Df.fs)) Ef Ff fun Fg Gf=>?_;obtain⟨Hf,Gg⟩:=La.call Gf Af;refine⟨_,rfl,?_⟩;obtain rfl:=oi hp;exact hq _ Hf.ext'
set_option maxHeartbeats 4000000 in
theorem zBg{c:Cse}{words:List W8}{ca100 ca103 ca200:C}{m f:M}{Q:V→M→Prop}{rz:Bool}(hS:Pre f m)(ha100:Sl f ca100 c.Tariffs)(ha103:Sl f ca103 c.Fields)(ha200:Sl f ca200 words)(hp:zvf c words=some rz)(hq:∀m',Ext m m'→Q (.c (.bool rz)) m'):Wc prog tbl 7 [.agg 4 [ca100,(Il c.Day),(Il c.Fee),ca103],.c ca200] m Q:=by
 have S0:=hS.st;obtain⟨τ0,_⟩:=zrF;refine w7 ?_;unfold zvf at hp;intro m0 de;obtain⟨T,lc,tl,nc⟩:=S0.blk de τ0 1;refine⟨_,_,_,_,nc.bk.ra,?_⟩;obtain⟨ul,ee,hp⟩:=zqd hp;refine zy0 (c:=c) lc.pre ha100 ha103 ee fun m6 fe=>?_;obtain⟨ya,ge⟩:=lc.call fe T;have oc:=nc.k ge;refine⟨_,rfl,?_⟩;refine zqT hp (fun he hp=>?_) fun he hp=>?_
 ·obtain⟨vl,ie,hp⟩:=zqd hp;refine zBf ya.pre  ie fun m9 je=>?_;obtain⟨ke,wl⟩:=ya.call je T;refine⟨_,rfl,?_⟩;obtain rfl:=oi hp;exact hq _ ke.ext'
 refine⟨_,_,_,_,oc.bk.ra,?_⟩;obtain⟨cb,me,hp⟩:=zqd hp;refine zy2 (c:=c) (words:=words) ya.pre ha100 ha103 ha200 me fun qn xl yl oe a=>?_;obtain⟨pc,z⟩:=ya.callG oe T;have qc:=oc.k z;refine⟨_,rfl,_,_,_,_,qc.bk.ra,?_⟩;obtain⟨pe,qe,hp⟩:=zqd hp;refine zyS (c:=c) pc.pre (ha100.sub z.fs) (ha103.sub z.fs) qe fun rn zl Al Bl re se te=>?_;obtain⟨sc,s⟩:=pc.callG re T;have ue:=qc.k s;refine⟨_,_,_,_,rfl,?_⟩;obtain⟨ve,we,hp⟩:=zqd hp;refine zyT (t:=cb) sc.pre (a.sub s.fs) we fun sn Cl Dl xe ye=>?_;obtain⟨tc,q⟩:=sc.callG xe T;have ze:=ue.k q;refine⟨_,rfl,?_⟩;obtain⟨D,Ae,hp⟩:=zqd hp;refine zyI (c:=pe) (t:=ve) tc.pre (se.sub q.fs) (te.sub q.fs) ye Ae fun nl El uc Be y=>?_;obtain⟨Ce,u⟩:=tc.callG Be T;have De:=ze.k u;refine⟨_,_,_,_,_,rfl,?_⟩;intro tn Ee;obtain⟨db,Fe,Ge,He⟩:=Ce.blk Ee T 2;have Ie:=De.k Ge;obtain⟨Je,Ke,vc,Me,Ne⟩:=He.sto Fe [uc,(Il D.1.Award),(Il D.1.Farmer),(Il D.1.Society)];have wc:=Ie.k Me;refine⟨Je,Ke,?_⟩;refine⟨_,_,_,_,wc.bk.ra,?_⟩;obtain⟨Oe,Pe,hp⟩:=zqd hp;refine zyS (c:=c) vc.pre (ha100.sub (Sub.trans (Sub.trans (Sub.trans z.fs s.fs) q.fs) u.fs)) (ha103.sub (Sub.trans (Sub.trans (Sub.trans z.fs s.fs) q.fs) u.fs)) Pe fun un Fl Gl Hl Qe Re Se=>?_;obtain⟨xc,d⟩:=vc.callG Qe db;have Te:=wc.k d;have Ue:=Ne.k d;refine⟨_,_,_,_,rfl,?_⟩;obtain⟨qa,Ve,hp⟩:=zqd hp;refine zBc (c:=Oe) xc.pre Re Se Ve fun ol We=>?_;obtain⟨Xe,yc⟩:=xc.call We db;have Ye:=Te.k yc;have Ze:=Ue.k yc;refine⟨_,_,_,rfl,?_⟩;intro vn af;obtain⟨eb,bf,zc,cf⟩:=Xe.blk af db 3;have df:=Ye.k zc;have ef:=Ze.k zc
 obtain⟨gf,hf,Ac,Bc,jf⟩:=cf.sto bf [(Il qa.1.Lo),(Il qa.1.Hi)];have Cc:=df.k Bc;have kf:=ef.k Bc;refine⟨gf,hf,?_⟩;refine⟨_,_,_,_,Cc.bk.ra,?_⟩;obtain⟨lf,mf,hp⟩:=zqd hp;refine zyS (c:=c) Ac.pre (ha100.sub (Sub.trans (Sub.trans (Sub.trans (Sub.trans z.fs s.fs) q.fs) u.fs) d.fs)) (ha103.sub (Sub.trans (Sub.trans (Sub.trans (Sub.trans z.fs s.fs) q.fs) u.fs) d.fs)) mf fun wn Jl Kl Ll nf pf qf=>?_;obtain⟨Dc,e⟩:=Ac.callG nf eb;have rf:=Cc.k e;have sf:=kf.k e;have tf:=jf.k e;refine⟨_,_,_,_,rfl,?_⟩;obtain⟨F,uf,hp⟩:=zqd hp;refine zBd (c:=lf) Dc.pre pf qf uf fun pl vf=>?_;obtain⟨wf,fb⟩:=Dc.call vf eb;have xf:=rf.k fb;have yf:=sf.k fb;have zf:=tf.k fb;refine⟨_,_,_,_,_,rfl,?_⟩;intro ql Af;obtain⟨Bf,Cf,gb,Df⟩:=wf.blk Af eb 4;have Ef:=xf.k gb;have Ff:=yf.k gb;have Gf:=zf.k gb;intro xn Hf;obtain⟨hb,If,za,Jf⟩:=Cf.blk Hf Bf 5;have Kf:=Ef.k za;have Lf:=Ff.k za;have Mf:=Gf.k za;have Nf:=Df.k za;obtain⟨Of,Pf,Qf,Aa,Rf⟩:=Nf.sto If [(Il F.1.Lo),(Il F.1.Hi)];have Sf:=Kf.k Aa;have Uf:=Lf.k Aa;have Vf:=Mf.k Aa;have Wf:=Jf.k Aa;refine⟨Of,Pf,?_⟩;obtain⟨Xf,Yf,Ec,Ba,Zf⟩:=Wf.sto Qf [(Il F.2.1.Lo),(Il F.2.1.Hi)];have Fc:=Sf.k Ba;have ag:=Uf.k Ba;have bg:=Vf.k Ba;have cg:=Rf.k Ba;refine⟨Xf,Yf,?_⟩;refine⟨_,_,_,_,Fc.bk.ra,?_⟩;obtain⟨dg,eg,hp⟩:=zqd hp;refine zyS (c:=c) Ec.pre (ha100.sub (Sub.trans (Sub.trans (Sub.trans (Sub.trans (Sub.trans z.fs s.fs) q.fs) u.fs) d.fs) e.fs)) (ha103.sub (Sub.trans (Sub.trans (Sub.trans (Sub.trans (Sub.trans z.fs s.fs) q.fs) u.fs) d.fs) e.fs)) eg fun yn Ml Nl Ol fg gg hg=>?_
 obtain⟨Gc,g⟩:=Ec.callG fg hb;have ig:=Fc.k g;have jg:=ag.k g;have kg:=bg.k g;have lg:=cg.k g;have mg:=Zf.k g;refine⟨_,_,_,_,rfl,?_⟩;obtain⟨Ca,ng,hp⟩:=zqd hp;refine zBe (c:=dg) Gc.pre gg hg ng fun rl og=>?_;obtain⟨pg,sa⟩:=Gc.call og hb;have qg:=ig.k sa;have rg:=jg.k sa;have sg:=kg.k sa;have tg:=lg.k sa;have ug:=mg.k sa;refine⟨_,_,_,rfl,?_⟩;intro zn vg;obtain⟨Y,wg,ta,xg⟩:=pg.blk vg hb 6;have zg:=qg.k ta;have Ag:=rg.k ta;have Bg:=sg.k ta;have Cg:=tg.k ta;have Dg:=ug.k ta;obtain⟨Eg,Fg,Z,ua,Gg⟩:=xg.sto wg [(Il Ca.1.Lo),(Il Ca.1.Hi)];have Hc:=zg.k ua;have ib:=Ag.k ua;have Ic:=Bg.k ua;have Hg:=Cg.k ua;have Ig:=Dg.k ua;refine⟨Eg,Fg,?_⟩;refine zqR hp (fun Jg hp=>?_) fun Jg hp=>?_
 ·obtain rfl:=oi hp;exact hq _ Z.ext'
 refine zqR hp (fun Kg hp=>?_) fun Kg hp=>?_
 ·obtain rfl:=oi hp;exact hq _ Z.ext'
 refine zqR hp (fun Lg hp=>?_) fun Lg hp=>?_
 ·obtain rfl:=oi hp;exact hq _ Z.ext'
 refine zqR hp (fun Mg hp=>?_) fun Mg hp=>?_
 ·obtain rfl:=oi hp;exact hq _ Z.ext'
 refine⟨trivial,_,ib.bk.rc rfl,y.isSl,trivial,_,Hc.bk.rc rfl,ha103.isSl,?_⟩
 try rw[y.slLen]
 try rw[ha103.slLen]
 refine zqR hp (fun Ng hp=>?_) fun Ng hp=>?_
 ·obtain rfl:=oi hp;exact hq _ Z.ext'
 refine⟨trivial,_,ib.bk.rc rfl,_,_,Ic.bk.ra,?_⟩;obtain⟨Pl,Og,hp⟩:=zqd hp;refine zy3 (n:=D.1.Award) (r:=qa.1) Z.pre  Og fun Tm Pg=>?_;obtain⟨jb,ca⟩:=Z.call Pg Y;have Qg:=Hc.k ca;have Jc:=ib.k ca;have Sg:=Ic.k ca;have Kc:=Hg.k ca;have Tg:=Ig.k ca;have Ug:=Gg.k ca;refine⟨_,rfl,?_⟩;refine zqT hp (fun Vg hp=>?_) fun Vg hp=>?_
 ·obtain rfl:=oi hp;exact hq _ jb.ext'
 refine⟨trivial,_,Jc.bk.rc rfl,_,_,Kc.bk.ra,?_⟩;obtain⟨Ql,Wg,hp⟩:=zqd hp;refine zy3 (n:=D.1.Farmer) (r:=F.1) jb.pre  Wg fun Um Xg=>?_;obtain⟨kb,da⟩:=jb.call Xg Y;have Zg:=Qg.k da;have Lc:=Jc.k da;have ah:=Sg.k da;have bh:=Kc.k da;have Nc:=Tg.k da;have ch:=Ug.k da;refine⟨_,rfl,?_⟩;refine zqT hp (fun dh hp=>?_) fun dh hp=>?_
 ·obtain rfl:=oi hp;exact hq _ kb.ext'
 refine⟨trivial,_,Lc.bk.rc rfl,_,_,Nc.bk.ra,?_⟩;obtain⟨Rl,eh,hp⟩:=zqd hp;refine zy3 (n:=D.1.Society) (r:=F.2.1) kb.pre  eh fun Vm fh=>?_;obtain⟨va,ea⟩:=kb.call fh Y;have Pc:=Zg.k ea;have fa:=Lc.k ea;have gh:=ah.k ea;have hh:=bh.k ea;have ih:=Nc.k ea;have mb:=ch.k ea;refine⟨_,rfl,?_⟩;refine zqT hp (fun jh hp=>?_) fun jh hp=>?_
 ·obtain rfl:=oi hp;exact hq _ va.ext'
 refine⟨trivial,_,fa.bk.rc rfl,trivial,_,fa.bk.rc rfl,?_⟩;obtain⟨kh,hp⟩:=zqe hp;refine⟨kh,trivial,_,mb.bk.rc rfl,?_⟩;refine ifd hp (fun lh hp=>?_) fun lh hp=>?_
 ·obtain rfl:=oi hp;exact hq _ va.ext'
 refine⟨trivial,_,fa.bk.rc rfl,trivial,_,fa.bk.rc rfl,?_⟩;obtain⟨mh,hp⟩:=zqe hp;refine⟨mh,trivial,_,mb.bk.rc rfl,?_⟩;refine ifd hp (fun nh hp=>?_) fun nh hp=>?_
 ·obtain rfl:=oi hp;exact hq _ va.ext'
 refine⟨_,_,_,_,Pc.bk.ra,?_⟩;obtain⟨oh,ph,hp⟩:=zqd hp;refine zyS (c:=c) va.pre (ha100.sub (Sub.trans (Sub.trans (Sub.trans (Sub.trans (Sub.trans (Sub.trans z.fs s.fs) q.fs) u.fs) d.fs) e.fs) g.fs)) (ha103.sub (Sub.trans (Sub.trans (Sub.trans (Sub.trans (Sub.trans (Sub.trans z.fs s.fs) q.fs) u.fs) d.fs) e.fs) g.fs)) ph fun Wm Tl Ul Vl qh rh th=>?_;obtain⟨Qc,p⟩:=va.callG qh Y;have uh:=Pc.k p;have Rc:=fa.k p;have vh:=gh.k p;have wh:=hh.k p;have xh:=ih.k p;have yh:=mb.k p;refine⟨_,_,_,_,rfl,?_⟩;obtain⟨zh,Ah,hp⟩:=zqd hp;refine zyT (t:=cb) Qc.pre (a.sub (Sub.trans (Sub.trans (Sub.trans (Sub.trans (Sub.trans (Sub.trans s.fs q.fs) u.fs) d.fs) e.fs) g.fs) p.fs)) Ah fun Xm Tc Wl Bh Ch=>?_;obtain⟨Uc,h⟩:=Qc.callG Bh Y;have Dh:=uh.k h;have Vc:=Rc.k h;have Eh:=vh.k h;have Fh:=wh.k h;have Gh:=xh.k h;have Hh:=yh.k h;refine⟨_,rfl,trivial,_,Vc.bk.rc rfl,(Rc.bk.rc rfl),(fa.bk.rc rfl),?_⟩;obtain⟨Xl,Ih,hp⟩:=zqd hp;refine zyM (c:=oh) (t:=zh) (pence:=D.1.Award) Uc.pre (rh.sub h.fs) (th.sub h.fs) Ch Ih fun Ym Jh=>?_;obtain⟨Xc,ga⟩:=Uc.call Jh Y;have ha:=Dh.k ga;have A:=Vc.k ga;have Da:=Eh.k ga;have Ea:=Fh.k ga;have Fa:=Gh.k ga;have Ga:=Hh.k ga;refine⟨_,rfl,?_⟩;refine zqT hp (fun Kh hp=>?_) fun Kh hp=>?_
 ·obtain rfl:=oi hp;exact hq _ Xc.ext'
 intro Hk Lh
 have hgo:∀(Ha:Nat) (ob:Bool) (kc:Bool) (xa:Int) (S:M) (G:M) (w:Nat→Nat),St (Fm.of m) f G S→Sub Tc G→Lb (Fm.of m) G w S 1 m.nxt 4 [ca100,(Il c.Day),(Il c.Fee),ca103]→Lb (Fm.of m) G w S 2 nl.nxt 4 [uc,(Il D.1.Award),(Il D.1.Farmer),(Il D.1.Society)]→Lb (Fm.of m) G w S 3 ol.nxt 2 [(Il qa.1.Lo),(Il qa.1.Hi)]→Lb (Fm.of m) G w S 4 pl.nxt 2 [(Il F.1.Lo),(Il F.1.Hi)]→Lb (Fm.of m) G w S 5 ql.nxt 2 [(Il F.2.1.Lo),(Il F.2.1.Hi)]→Lb (Fm.of m) G w S 6 rl.nxt 2 [(Il Ca.1.Lo),(Il Ca.1.Hi)]→zve c cb D Ha ob xa=some rz→Hk [.c (.bool ob),.c (.bool kc),.c (Il xa)] S:=by
  intro Ha
  induction Ha with
  | zero=>intro ob kc xa S G w B b ha A Da Ea Fa Ga hp; cases hp
  | succ Ha wa=>
   intro ob kc xa S G w B b ha A Da Ea Fa Ga hp;refine Lh _ _ _ _ ?_;rw[zve] at hp;refine⟨a.isSl,?_⟩
   try rw[a.slLen]
   refine ifd hp (fun Mh hp=>?_) fun Mh hp=>?_; rotate_left
   ·refine⟨trivial,_,A.bk.rc rfl,trivial,_,A.bk.rc rfl,?_⟩;obtain⟨Nh,hp⟩:=zqe hp;refine⟨Nh,trivial,_,ha.bk.rc rfl,?_⟩;refine ifd hp (fun Oh hp=>?_) fun Oh hp=>?_; rotate_left
    ·refine zqT hp (fun Yc hp=>?_) fun Yc hp=>?_; rotate_left
     ·obtain rfl:=oi hp;exact hq _ B.ext'
     refine⟨trivial,_,A.bk.rc rfl,trivial,_,A.bk.rc rfl,?_⟩;refine gdi hp fun Ph hp=>?_;refine ifd hp (fun Zc hp=>?_) fun Zc hp=>?_; rotate_left
     ·obtain rfl:=oi hp;exact hq _ B.ext'
     refine⟨trivial,_,A.bk.rc rfl,?_⟩;refine ifd hp (fun Qh hp=>?_) fun Qh hp=>?_; rotate_left
     ·obtain rfl:=oi hp;exact hq _ B.ext'
     refine⟨trivial,_,A.bk.rc rfl,?_⟩;refine ifd hp (fun Rh hp=>?_) fun Rh hp=>?_; rotate_left
     ·obtain rfl:=oi hp;exact hq _ B.ext'
     refine zqV Yc ?_;refine⟨trivial,_,A.bk.rc rfl,trivial,_,A.bk.rc rfl,?_⟩;refine gdi hp fun Sh hp=>?_;refine zqU Zc ?_;obtain⟨Yl,Th,hp⟩:=zqd hp;refine zBf B.pre  Th fun Zm Uh=>?_;obtain⟨Vh,Zl⟩:=B.call Uh w;refine⟨_,rfl,?_⟩;obtain rfl:=oi hp;exact hq _ Vh.ext'
    refine⟨trivial,_,A.bk.rc rfl,?_⟩;refine ifd hp (fun Wh hp=>?_) fun Wh hp=>?_; rotate_left
    ·obtain rfl:=oi hp;exact hq _ B.ext'
    refine⟨trivial,_,A.bk.rc rfl,?_⟩;refine ifd hp (fun Xh hp=>?_) fun Xh hp=>?_; rotate_left
    ·obtain rfl:=oi hp;exact hq _ B.ext'
    refine zqS hp (fun Yh hp=>?_) fun Yh hp=>?_
    ·obtain⟨am,Zh,hp⟩:=zqd hp;refine zBf B.pre  Zh fun an ai=>?_;obtain⟨bi,bm⟩:=B.call ai w;refine⟨_,rfl,?_⟩;obtain rfl:=oi hp;exact hq _ bi.ext'
    refine⟨trivial,_,A.bk.rc rfl,trivial,_,A.bk.rc rfl,?_⟩;refine gdi hp fun ci hp=>?_;refine ifd hp (fun ei hp=>?_) fun ei hp=>?_; rotate_left
    ·obtain rfl:=oi hp;exact hq _ B.ext'
    obtain⟨cm,fi,hp⟩:=zqd hp;refine zBf B.pre  fi fun bn gi=>?_;obtain⟨hi,dm⟩:=B.call gi w;refine⟨_,rfl,?_⟩;obtain rfl:=oi hp;exact hq _ hi.ext'
   refine⟨_,_,_,_,ha.bk.ra,?_⟩;obtain⟨ii,ji,hp⟩:=zqd hp;refine zyS (c:=c) B.pre (ha100.sub (Sub.trans (Sub.trans (Sub.trans (Sub.trans (Sub.trans (Sub.trans (Sub.trans (Sub.trans (Sub.trans z.fs s.fs) q.fs) u.fs) d.fs) e.fs) g.fs) p.fs) h.fs) b)) (ha103.sub (Sub.trans (Sub.trans (Sub.trans (Sub.trans (Sub.trans (Sub.trans (Sub.trans (Sub.trans (Sub.trans z.fs s.fs) q.fs) u.fs) d.fs) e.fs) g.fs) p.fs) h.fs) b)) ji fun cn em fm gm ki li ni=>?_;obtain⟨ad,i⟩:=B.callG ki w;have pi:=ha.k i;have qi:=A.k i;have ri:=Da.k i;have si:=Ea.k i;have ti:=Fa.k i;have ui:=Ga.k i;refine⟨_,_,_,_,rfl,?_⟩;obtain⟨bd,vi,hp⟩:=zqd hp;refine zyJ (c:=ii) (field:=xa) ad.pre li ni vi fun dn hm im wi cd=>?_;obtain⟨dd,j⟩:=ad.callG wi w;have ed:=pi.k j;have xi:=qi.k j;have yi:=ri.k j;have zi:=si.k j;have Ai:=ti.k j;have Bi:=ui.k j;refine⟨_,_,rfl,_,_,_,_,ed.bk.ra,?_⟩;obtain⟨Ci,Di,hp⟩:=zqd hp;refine zyS (c:=c) dd.pre (ha100.sub (Sub.trans (Sub.trans (Sub.trans (Sub.trans (Sub.trans (Sub.trans (Sub.trans (Sub.trans (Sub.trans (Sub.trans (Sub.trans z.fs s.fs) q.fs) u.fs) d.fs) e.fs) g.fs) p.fs) h.fs) b) i.fs) j.fs)) (ha103.sub (Sub.trans (Sub.trans (Sub.trans (Sub.trans (Sub.trans (Sub.trans (Sub.trans (Sub.trans (Sub.trans (Sub.trans (Sub.trans z.fs s.fs) q.fs) u.fs) d.fs) e.fs) g.fs) p.fs) h.fs) b) i.fs) j.fs)) Di fun en Ia jm km Ei Fi Gi=>?_;obtain⟨fd,o⟩:=dd.callG Ei w;have Ii:=ed.k o;have Ji:=xi.k o;have Ki:=yi.k o;have Ni:=zi.k o;have Oi:=Ai.k o;have Pi:=Bi.k o;refine⟨_,_,_,_,rfl,?_⟩;obtain⟨Ja,Qi,hp⟩:=zqd hp
   refine zyK (c:=Ci) (field:=xa) fd.pre Fi Gi Qi fun fn Ri=>?_;obtain⟨Ka,ia⟩:=fd.call Ri w;have hd:=Ii.k ia;have Si:=Ji.k ia;have Ti:=Ki.k ia;have Ui:=Ni.k ia;have Vi:=Oi.k ia;have Wi:=Pi.k ia;refine⟨_,_,rfl,trivial,_,hd.bk.rc rfl,?_⟩;obtain⟨Xi,pb,hp⟩:=zqd hp;obtain⟨Ik,Ad,Hb,pb⟩:=zp7 pb;obtain⟨_,Yi⟩:=zrO ha103 pb;refine⟨Ik,Ad,(by first|exact Hb|(rw[ha103.slLen];exact Hb)),_,_,_,_,_,_,_,_,_,(Yi _ (Sub.trans (Sub.trans (Sub.trans (Sub.trans (Sub.trans (Sub.trans (Sub.trans (Sub.trans (Sub.trans (Sub.trans (Sub.trans (Sub.trans (Sub.trans z.fs s.fs) q.fs) u.fs) d.fs) e.fs) g.fs) p.fs) h.fs) b) i.fs) j.fs) o.fs) Ka.sub)).1,?_⟩;obtain⟨Zi,qb,hp⟩:=zqd hp;obtain⟨Jk,Bd,Ib,qb⟩:=zp7 qb;obtain⟨_,aj⟩:=zrQ a qb;refine⟨Jk,Bd,(by first|exact Ib|(rw[a.slLen];exact Ib)),_,_,_,(aj _ (Sub.trans (Sub.trans (Sub.trans (Sub.trans (Sub.trans (Sub.trans (Sub.trans (Sub.trans (Sub.trans (Sub.trans (Sub.trans (Sub.trans s.fs q.fs) u.fs) d.fs) e.fs) g.fs) p.fs) h.fs) b) i.fs) j.fs) o.fs) Ka.sub)).1,?_⟩;obtain⟨lm,bj,hp⟩:=zqd hp;refine zyQ (f_:=Xi) (x:=Zi) Ka.pre  bj fun gn cj=>?_;obtain⟨I,ja⟩:=Ka.call cj w;have id:=hd.k ja;have La:=Si.k ja;have jd:=Ti.k ja;have kd:=Ui.k ja;have ld:=Vi.k ja;have md:=Wi.k ja;refine⟨_,rfl,?_⟩;refine zqS hp (fun dj hp=>?_) fun dj hp=>?_
   ·refine zqR hp (fun ej hp=>?_) fun ej hp=>?_
    ·obtain rfl:=oi hp;exact hq _ I.ext'
    refine zqR hp (fun fj hp=>?_) fun fj hp=>?_
    ·obtain rfl:=oi hp;exact hq _ I.ext'
    refine⟨trivial,_,La.bk.rc rfl,?_⟩;obtain⟨gj,rb,hp⟩:=zqd hp;obtain⟨Kk,Cd,Jb,rb⟩:=zp7 rb;refine⟨Kk,Cd,(by first|exact Jb|(rw[y.slLen];exact Jb)),_,(y.rdI rb (Sub.trans (Sub.trans (Sub.trans (Sub.trans (Sub.trans (Sub.trans (Sub.trans (Sub.trans (Sub.trans d.fs e.fs) g.fs) p.fs) h.fs) b) i.fs) j.fs) o.fs) I.sub)),?_⟩;obtain⟨mm,hj,hp⟩:=zqd hp;refine zy4 (l:=bd.1) (n:=gj) I.pre (cd.sub o.fs) hj fun hn ij=>?_;obtain⟨aa,ka⟩:=I.call ij w;have nd:=id.k ka;have od:=La.k ka;have pd:=jd.k ka;have qd:=kd.k ka;have sd:=ld.k ka;have td:=md.k ka;refine⟨_,rfl,?_⟩;refine zqT hp (fun jj hp=>?_) fun jj hp=>?_
    ·obtain rfl:=oi hp;exact hq _ aa.ext'
    refine zqS hp (fun sb hp=>?_) fun sb hp=>?_
    ·refine ifd hp (fun kj hp=>?_) fun kj hp=>?_
     ·obtain rfl:=oi hp;exact hq _ aa.ext'
     refine zqW sb ?_;obtain⟨nm,lj,hp⟩:=zqd hp;refine zwP (n:=Ja.1) (low:=(1:Int)) (high:=(3:Int)) aa.pre  lj fun jn mj=>?_;obtain⟨J,la⟩:=aa.call mj w;have nj:=nd.k la;have tb:=od.k la;have oj:=pd.k la;have pj:=qd.k la;have qj:=sd.k la;have rj:=td.k la;refine⟨_,rfl,?_⟩;refine zqT hp (fun sj hp=>?_) fun sj hp=>?_
     ·obtain rfl:=oi hp;exact hq _ J.ext'
     refine⟨trivial,_,tb.bk.rc rfl,?_⟩;obtain⟨om,ub,hp⟩:=zqd hp;obtain⟨Lk,Dd,Kb,ub⟩:=zp7 ub;refine⟨Lk,Dd,(by first|exact Kb|(rw[y.slLen];exact Kb)),_,(y.rdI ub (Sub.trans (Sub.trans (Sub.trans (Sub.trans (Sub.trans (Sub.trans (Sub.trans (Sub.trans (Sub.trans d.fs e.fs) g.fs) p.fs) h.fs) b) i.fs) j.fs) o.fs) J.sub)),?_⟩;obtain⟨pm,Ma,hp⟩:=zqd hp;obtain⟨Mk,Ed,Mb,Ma⟩:=zp7 Ma;obtain⟨_,tj⟩:=zrQ a Ma;refine⟨Mk,Ed,(by first|exact Mb|(rw[a.slLen];exact Mb)),(a.isPt Ma _),_,((tj _ (Sub.trans (Sub.trans (Sub.trans (Sub.trans (Sub.trans (Sub.trans (Sub.trans (Sub.trans (Sub.trans (Sub.trans (Sub.trans (Sub.trans s.fs q.fs) u.fs) d.fs) e.fs) g.fs) p.fs) h.fs) b) i.fs) j.fs) o.fs) J.sub)).2.1 0 _ rfl),?_⟩;obtain⟨qm,Na,hp⟩:=zqd hp;obtain⟨Nk,Fd,Nb,Na⟩:=zp7 Na;obtain⟨_,uj⟩:=zrQ a Na;refine⟨Nk,Fd,(by first|exact Nb|(rw[a.slLen];exact Nb)),(a.isPt Na _),_,((uj _ (Sub.trans (Sub.trans (Sub.trans (Sub.trans (Sub.trans (Sub.trans (Sub.trans (Sub.trans (Sub.trans (Sub.trans (Sub.trans (Sub.trans s.fs q.fs) u.fs) d.fs) e.fs) g.fs) p.fs) h.fs) b) i.fs) j.fs) o.fs) J.sub)).2.1 1 _ rfl),?_⟩;refine ifd hp (fun vj hp=>?_) fun vj hp=>?_
     ·obtain rfl:=oi hp;exact hq _ J.ext'
     refine⟨trivial,_,tb.bk.rc rfl,?_⟩;obtain⟨rm,vb,hp⟩:=zqd hp;obtain⟨Ok,Gd,Ob,vb⟩:=zp7 vb;refine⟨Ok,Gd,(by first|exact Ob|(rw[y.slLen];exact Ob)),_,(y.rdI vb (Sub.trans (Sub.trans (Sub.trans (Sub.trans (Sub.trans (Sub.trans (Sub.trans (Sub.trans (Sub.trans d.fs e.fs) g.fs) p.fs) h.fs) b) i.fs) j.fs) o.fs) J.sub)),?_⟩;obtain⟨sm,Oa,hp⟩:=zqd hp;obtain⟨Qk,Hd,Pb,Oa⟩:=zp7 Oa;obtain⟨_,wj⟩:=zrQ a Oa;refine⟨Qk,Hd,(by first|exact Pb|(rw[a.slLen];exact Pb)),(a.isPt Oa _),_,((wj _ (Sub.trans (Sub.trans (Sub.trans (Sub.trans (Sub.trans (Sub.trans (Sub.trans (Sub.trans (Sub.trans (Sub.trans (Sub.trans (Sub.trans s.fs q.fs) u.fs) d.fs) e.fs) g.fs) p.fs) h.fs) b) i.fs) j.fs) o.fs) J.sub)).2.1 0 _ rfl),?_⟩;obtain⟨tm,Pa,hp⟩:=zqd hp;obtain⟨Sk,Id,Qb,Pa⟩:=zp7 Pa;obtain⟨_,xj⟩:=zrQ a Pa;refine⟨Sk,Id,(by first|exact Qb|(rw[a.slLen];exact Qb)),(a.isPt Pa _),_,((xj _ (Sub.trans (Sub.trans (Sub.trans (Sub.trans (Sub.trans (Sub.trans (Sub.trans (Sub.trans (Sub.trans (Sub.trans (Sub.trans (Sub.trans s.fs q.fs) u.fs) d.fs) e.fs) g.fs) p.fs) h.fs) b) i.fs) j.fs) o.fs) J.sub)).2.1 1 _ rfl),?_⟩;refine ifd hp (fun yj hp=>?_) fun yj hp=>?_
     ·obtain rfl:=oi hp;exact hq _ J.ext'
     refine gdi hp fun zj hp=>?_;exact wa _ _ _ _ Ia w J (Sub.trans (Sub.trans (Sub.trans b i.fs) j.fs) o.fs) nj tb oj pj qj rj hp
    refine zqX sb ?_;refine ifd hp (fun Aj hp=>?_) fun Aj hp=>?_
    ·obtain rfl:=oi hp;exact hq _ aa.ext'
    obtain⟨um,Bj,hp⟩:=zqd hp;refine zwP (n:=Ja.1) (low:=(1:Int)) (high:=(3:Int)) aa.pre  Bj fun kn Cj=>?_;obtain⟨N,ma⟩:=aa.call Cj w;have Dj:=nd.k ma;have wb:=od.k ma;have Ej:=pd.k ma;have Fj:=qd.k ma;have Gj:=sd.k ma;have Hj:=td.k ma;refine⟨_,rfl,?_⟩;refine zqT hp (fun Ij hp=>?_) fun Ij hp=>?_
    ·obtain rfl:=oi hp;exact hq _ N.ext'
    refine⟨trivial,_,wb.bk.rc rfl,?_⟩;obtain⟨vm,xb,hp⟩:=zqd hp;obtain⟨Tk,Jd,Rb,xb⟩:=zp7 xb;refine⟨Tk,Jd,(by first|exact Rb|(rw[y.slLen];exact Rb)),_,(y.rdI xb (Sub.trans (Sub.trans (Sub.trans (Sub.trans (Sub.trans (Sub.trans (Sub.trans (Sub.trans (Sub.trans d.fs e.fs) g.fs) p.fs) h.fs) b) i.fs) j.fs) o.fs) N.sub)),?_⟩;obtain⟨wm,Qa,hp⟩:=zqd hp;obtain⟨Uk,Ld,Sb,Qa⟩:=zp7 Qa;obtain⟨_,Jj⟩:=zrQ a Qa;refine⟨Uk,Ld,(by first|exact Sb|(rw[a.slLen];exact Sb)),(a.isPt Qa _),_,((Jj _ (Sub.trans (Sub.trans (Sub.trans (Sub.trans (Sub.trans (Sub.trans (Sub.trans (Sub.trans (Sub.trans (Sub.trans (Sub.trans (Sub.trans s.fs q.fs) u.fs) d.fs) e.fs) g.fs) p.fs) h.fs) b) i.fs) j.fs) o.fs) N.sub)).2.1 0 _ rfl),?_⟩;obtain⟨xm,Ra,hp⟩:=zqd hp;obtain⟨Vk,Md,Tb,Ra⟩:=zp7 Ra;obtain⟨_,Kj⟩:=zrQ a Ra;refine⟨Vk,Md,(by first|exact Tb|(rw[a.slLen];exact Tb)),(a.isPt Ra _),_,((Kj _ (Sub.trans (Sub.trans (Sub.trans (Sub.trans (Sub.trans (Sub.trans (Sub.trans (Sub.trans (Sub.trans (Sub.trans (Sub.trans (Sub.trans s.fs q.fs) u.fs) d.fs) e.fs) g.fs) p.fs) h.fs) b) i.fs) j.fs) o.fs) N.sub)).2.1 1 _ rfl),?_⟩;refine ifd hp (fun Lj hp=>?_) fun Lj hp=>?_
    ·obtain rfl:=oi hp;exact hq _ N.ext'
    refine⟨trivial,_,wb.bk.rc rfl,?_⟩;obtain⟨ym,yb,hp⟩:=zqd hp;obtain⟨Xk,Nd,Ub,yb⟩:=zp7 yb;refine⟨Xk,Nd,(by first|exact Ub|(rw[y.slLen];exact Ub)),_,(y.rdI yb (Sub.trans (Sub.trans (Sub.trans (Sub.trans (Sub.trans (Sub.trans (Sub.trans (Sub.trans (Sub.trans d.fs e.fs) g.fs) p.fs) h.fs) b) i.fs) j.fs) o.fs) N.sub)),?_⟩;obtain⟨zm,Sa,hp⟩:=zqd hp;obtain⟨Yk,Od,Vb,Sa⟩:=zp7 Sa;obtain⟨_,Mj⟩:=zrQ a Sa;refine⟨Yk,Od,(by first|exact Vb|(rw[a.slLen];exact Vb)),(a.isPt Sa _),_,((Mj _ (Sub.trans (Sub.trans (Sub.trans (Sub.trans (Sub.trans (Sub.trans (Sub.trans (Sub.trans (Sub.trans (Sub.trans (Sub.trans (Sub.trans s.fs q.fs) u.fs) d.fs) e.fs) g.fs) p.fs) h.fs) b) i.fs) j.fs) o.fs) N.sub)).2.1 0 _ rfl),?_⟩;obtain⟨Am,Ta,hp⟩:=zqd hp;obtain⟨Zk,Pd,Wb,Ta⟩:=zp7 Ta;obtain⟨_,Nj⟩:=zrQ a Ta;refine⟨Zk,Pd,(by first|exact Wb|(rw[a.slLen];exact Wb)),(a.isPt Ta _),_,((Nj _ (Sub.trans (Sub.trans (Sub.trans (Sub.trans (Sub.trans (Sub.trans (Sub.trans (Sub.trans (Sub.trans (Sub.trans (Sub.trans (Sub.trans s.fs q.fs) u.fs) d.fs) e.fs) g.fs) p.fs) h.fs) b) i.fs) j.fs) o.fs) N.sub)).2.1 1 _ rfl),?_⟩;refine ifd hp (fun Oj hp=>?_) fun Oj hp=>?_
    ·obtain rfl:=oi hp;exact hq _ N.ext'
    refine gdi hp fun Pj hp=>?_;exact wa _ _ _ _ Ia w N (Sub.trans (Sub.trans (Sub.trans b i.fs) j.fs) o.fs) Dj wb Ej Fj Gj Hj hp
   refine zqR hp (fun Qj hp=>?_) fun Qj hp=>?_
   ·obtain rfl:=oi hp;exact hq _ I.ext'
   refine zqR hp (fun Rj hp=>?_) fun Rj hp=>?_
   ·obtain rfl:=oi hp;exact hq _ I.ext'
   refine⟨trivial,_,La.bk.rc rfl,?_⟩;obtain⟨Sj,zb,hp⟩:=zqd hp;obtain⟨al,Qd,Xb,zb⟩:=zp7 zb;refine⟨al,Qd,(by first|exact Xb|(rw[y.slLen];exact Xb)),_,(y.rdI zb (Sub.trans (Sub.trans (Sub.trans (Sub.trans (Sub.trans (Sub.trans (Sub.trans (Sub.trans (Sub.trans d.fs e.fs) g.fs) p.fs) h.fs) b) i.fs) j.fs) o.fs) I.sub)),?_⟩;obtain⟨Bm,Tj,hp⟩:=zqd hp;refine zy4 (l:=bd.1) (n:=Sj) I.pre (cd.sub o.fs) Tj fun ln Uj=>?_;obtain⟨ba,na⟩:=I.call Uj w;have ud:=id.k na;have vd:=La.k na;have wd:=jd.k na;have xd:=kd.k na;have yd:=ld.k na;have zd:=md.k na;refine⟨_,rfl,?_⟩;refine zqT hp (fun Vj hp=>?_) fun Vj hp=>?_
   ·obtain rfl:=oi hp;exact hq _ ba.ext'
   refine zqS hp (fun Ab hp=>?_) fun Ab hp=>?_
   ·refine ifd hp (fun Wj hp=>?_) fun Wj hp=>?_
    ·obtain rfl:=oi hp;exact hq _ ba.ext'
    refine zqW Ab ?_;obtain⟨Cm,Xj,hp⟩:=zqd hp;refine zwP (n:=Ja.1) (low:=(1:Int)) (high:=(3:Int)) ba.pre  Xj fun nn Yj=>?_;obtain⟨O,oa⟩:=ba.call Yj w;have Zj:=ud.k oa;have Bb:=vd.k oa;have ak:=wd.k oa;have ck:=xd.k oa;have dk:=yd.k oa;have ek:=zd.k oa;refine⟨_,rfl,?_⟩;refine zqT hp (fun fk hp=>?_) fun fk hp=>?_
    ·obtain rfl:=oi hp;exact hq _ O.ext'
    refine⟨trivial,_,Bb.bk.rc rfl,?_⟩;obtain⟨Dm,Cb,hp⟩:=zqd hp;obtain⟨bl,Rd,Yb,Cb⟩:=zp7 Cb;refine⟨bl,Rd,(by first|exact Yb|(rw[y.slLen];exact Yb)),_,(y.rdI Cb (Sub.trans (Sub.trans (Sub.trans (Sub.trans (Sub.trans (Sub.trans (Sub.trans (Sub.trans (Sub.trans d.fs e.fs) g.fs) p.fs) h.fs) b) i.fs) j.fs) o.fs) O.sub)),?_⟩;obtain⟨Em,Ua,hp⟩:=zqd hp;obtain⟨cl,Sd,Zb,Ua⟩:=zp7 Ua;obtain⟨_,gk⟩:=zrQ a Ua;refine⟨cl,Sd,(by first|exact Zb|(rw[a.slLen];exact Zb)),(a.isPt Ua _),_,((gk _ (Sub.trans (Sub.trans (Sub.trans (Sub.trans (Sub.trans (Sub.trans (Sub.trans (Sub.trans (Sub.trans (Sub.trans (Sub.trans (Sub.trans s.fs q.fs) u.fs) d.fs) e.fs) g.fs) p.fs) h.fs) b) i.fs) j.fs) o.fs) O.sub)).2.1 0 _ rfl),?_⟩;obtain⟨Gm,Va,hp⟩:=zqd hp;obtain⟨dl,Td,ac,Va⟩:=zp7 Va;obtain⟨_,hk⟩:=zrQ a Va;refine⟨dl,Td,(by first|exact ac|(rw[a.slLen];exact ac)),(a.isPt Va _),_,((hk _ (Sub.trans (Sub.trans (Sub.trans (Sub.trans (Sub.trans (Sub.trans (Sub.trans (Sub.trans (Sub.trans (Sub.trans (Sub.trans (Sub.trans s.fs q.fs) u.fs) d.fs) e.fs) g.fs) p.fs) h.fs) b) i.fs) j.fs) o.fs) O.sub)).2.1 1 _ rfl),?_⟩;refine ifd hp (fun ik hp=>?_) fun ik hp=>?_
    ·obtain rfl:=oi hp;exact hq _ O.ext'
    refine⟨trivial,_,Bb.bk.rc rfl,?_⟩;obtain⟨Hm,Db,hp⟩:=zqd hp;obtain⟨el,Ud,bc,Db⟩:=zp7 Db;refine⟨el,Ud,(by first|exact bc|(rw[y.slLen];exact bc)),_,(y.rdI Db (Sub.trans (Sub.trans (Sub.trans (Sub.trans (Sub.trans (Sub.trans (Sub.trans (Sub.trans (Sub.trans d.fs e.fs) g.fs) p.fs) h.fs) b) i.fs) j.fs) o.fs) O.sub)),?_⟩;obtain⟨Im,Wa,hp⟩:=zqd hp;obtain⟨fl,Vd,cc,Wa⟩:=zp7 Wa;obtain⟨_,jk⟩:=zrQ a Wa;refine⟨fl,Vd,(by first|exact cc|(rw[a.slLen];exact cc)),(a.isPt Wa _),_,((jk _ (Sub.trans (Sub.trans (Sub.trans (Sub.trans (Sub.trans (Sub.trans (Sub.trans (Sub.trans (Sub.trans (Sub.trans (Sub.trans (Sub.trans s.fs q.fs) u.fs) d.fs) e.fs) g.fs) p.fs) h.fs) b) i.fs) j.fs) o.fs) O.sub)).2.1 0 _ rfl),?_⟩;obtain⟨Jm,Xa,hp⟩:=zqd hp;obtain⟨gl,Wd,dc,Xa⟩:=zp7 Xa;obtain⟨_,kk⟩:=zrQ a Xa;refine⟨gl,Wd,(by first|exact dc|(rw[a.slLen];exact dc)),(a.isPt Xa _),_,((kk _ (Sub.trans (Sub.trans (Sub.trans (Sub.trans (Sub.trans (Sub.trans (Sub.trans (Sub.trans (Sub.trans (Sub.trans (Sub.trans (Sub.trans s.fs q.fs) u.fs) d.fs) e.fs) g.fs) p.fs) h.fs) b) i.fs) j.fs) o.fs) O.sub)).2.1 1 _ rfl),?_⟩;refine ifd hp (fun mk hp=>?_) fun mk hp=>?_
    ·obtain rfl:=oi hp;exact hq _ O.ext'
    refine gdi hp fun nk hp=>?_;exact wa _ _ _ _ Ia w O (Sub.trans (Sub.trans (Sub.trans b i.fs) j.fs) o.fs) Zj Bb ak ck dk ek hp
   refine zqX Ab ?_;refine ifd hp (fun ok hp=>?_) fun ok hp=>?_
   ·obtain rfl:=oi hp;exact hq _ ba.ext'
   obtain⟨Km,pk,hp⟩:=zqd hp;refine zwP (n:=Ja.1) (low:=(1:Int)) (high:=(3:Int)) ba.pre  pk fun pn qk=>?_;obtain⟨P,pa⟩:=ba.call qk w;have sk:=ud.k pa;have Eb:=vd.k pa;have uk:=wd.k pa;have vk:=xd.k pa;have wk:=yd.k pa;have xk:=zd.k pa;refine⟨_,rfl,?_⟩;refine zqT hp (fun yk hp=>?_) fun yk hp=>?_
   ·obtain rfl:=oi hp;exact hq _ P.ext'
   refine⟨trivial,_,Eb.bk.rc rfl,?_⟩;obtain⟨Lm,Fb,hp⟩:=zqd hp;obtain⟨hl,Xd,ec,Fb⟩:=zp7 Fb;refine⟨hl,Xd,(by first|exact ec|(rw[y.slLen];exact ec)),_,(y.rdI Fb (Sub.trans (Sub.trans (Sub.trans (Sub.trans (Sub.trans (Sub.trans (Sub.trans (Sub.trans (Sub.trans d.fs e.fs) g.fs) p.fs) h.fs) b) i.fs) j.fs) o.fs) P.sub)),?_⟩;obtain⟨Mm,Ya,hp⟩:=zqd hp;obtain⟨il,Yd,fc,Ya⟩:=zp7 Ya;obtain⟨_,zk⟩:=zrQ a Ya;refine⟨il,Yd,(by first|exact fc|(rw[a.slLen];exact fc)),(a.isPt Ya _),_,((zk _ (Sub.trans (Sub.trans (Sub.trans (Sub.trans (Sub.trans (Sub.trans (Sub.trans (Sub.trans (Sub.trans (Sub.trans (Sub.trans (Sub.trans s.fs q.fs) u.fs) d.fs) e.fs) g.fs) p.fs) h.fs) b) i.fs) j.fs) o.fs) P.sub)).2.1 0 _ rfl),?_⟩;obtain⟨Nm,Za,hp⟩:=zqd hp;obtain⟨jl,Zd,gc,Za⟩:=zp7 Za;obtain⟨_,Ak⟩:=zrQ a Za;refine⟨jl,Zd,(by first|exact gc|(rw[a.slLen];exact gc)),(a.isPt Za _),_,((Ak _ (Sub.trans (Sub.trans (Sub.trans (Sub.trans (Sub.trans (Sub.trans (Sub.trans (Sub.trans (Sub.trans (Sub.trans (Sub.trans (Sub.trans s.fs q.fs) u.fs) d.fs) e.fs) g.fs) p.fs) h.fs) b) i.fs) j.fs) o.fs) P.sub)).2.1 1 _ rfl),?_⟩;refine ifd hp (fun Ck hp=>?_) fun Ck hp=>?_
   ·obtain rfl:=oi hp;exact hq _ P.ext'
   refine⟨trivial,_,Eb.bk.rc rfl,?_⟩;obtain⟨Om,Gb,hp⟩:=zqd hp;obtain⟨kl,ae,hc,Gb⟩:=zp7 Gb;refine⟨kl,ae,(by first|exact hc|(rw[y.slLen];exact hc)),_,(y.rdI Gb (Sub.trans (Sub.trans (Sub.trans (Sub.trans (Sub.trans (Sub.trans (Sub.trans (Sub.trans (Sub.trans d.fs e.fs) g.fs) p.fs) h.fs) b) i.fs) j.fs) o.fs) P.sub)),?_⟩;obtain⟨Pm,ab,hp⟩:=zqd hp;obtain⟨ll,be,ic,ab⟩:=zp7 ab;obtain⟨_,Dk⟩:=zrQ a ab;refine⟨ll,be,(by first|exact ic|(rw[a.slLen];exact ic)),(a.isPt ab _),_,((Dk _ (Sub.trans (Sub.trans (Sub.trans (Sub.trans (Sub.trans (Sub.trans (Sub.trans (Sub.trans (Sub.trans (Sub.trans (Sub.trans (Sub.trans s.fs q.fs) u.fs) d.fs) e.fs) g.fs) p.fs) h.fs) b) i.fs) j.fs) o.fs) P.sub)).2.1 0 _ rfl),?_⟩;obtain⟨Qm,bb,hp⟩:=zqd hp;obtain⟨ml,ce,jc,bb⟩:=zp7 bb;obtain⟨_,Ek⟩:=zrQ a bb;refine⟨ml,ce,(by first|exact jc|(rw[a.slLen];exact jc)),(a.isPt bb _),_,((Ek _ (Sub.trans (Sub.trans (Sub.trans (Sub.trans (Sub.trans (Sub.trans (Sub.trans (Sub.trans (Sub.trans (Sub.trans (Sub.trans (Sub.trans s.fs q.fs) u.fs) d.fs) e.fs) g.fs) p.fs) h.fs) b) i.fs) j.fs) o.fs) P.sub)).2.1 1 _ rfl),?_⟩;refine ifd hp (fun Fk hp=>?_) fun Fk hp=>?_
   ·obtain rfl:=oi hp;exact hq _ P.ext'
   refine gdi hp fun Gk hp=>?_;exact wa _ _ _ _ Ia w P (Sub.trans (Sub.trans (Sub.trans b i.fs) j.fs) o.fs) sk Eb uk vk wk xk hp
 exact hgo _ _ _ _ _ Tc Y Xc (Sub.refl _) ha A Da Ea Fa Ga hp
end
end Go.Proofs.YteojndcmgpiklaaGreat

namespace Go.Proofs.YteojndcmgpiklaaGreat
open _root_.Go.Proofs.Tryz
open Go.Abs
set_option maxRecDepth 100000
noncomputable section
def seg(lo:Int):Nat→List Int
 | 0=>[]
 | n+1=>lo::seg (lo+1) n
theorem zBh{x:Int}:∀{n:Nat} {lo:Int},x∈seg lo n↔lo≤x∧x < lo+n
 | 0,lo=>by simp[seg]
 | n+1,lo=>by
  unfold seg;rw[List.mem_cons,zBh]; omega
theorem zBi:∀{n:Nat} {lo:Int},(seg lo n).length=n
 | 0,_=>rfl
 | n+1,lo=>by unfold seg; rw[List.length_cons,zBi]
def zBj(c:Clm):List Tr:=(seg c.Day.Lo (c.Day.Hi - c.Day.Lo+1).toNat).flatMap fun d=>(seg c.Count.Lo (c.Count.Hi - c.Count.Lo+1).toNat).map fun n=>⟨d,n⟩
theorem zBk{c:Clm}(h1:c.Day.Lo≤c.Day.Hi)(h2:c.Count.Lo≤c.Count.Hi){t:Tr}:t∈zBj c↔zAR c t:=by
 unfold zBj zAR;rw[List.mem_flatMap]
 constructor
 ·rintro⟨d,hd,ht⟩
  obtain⟨n,hn,rfl⟩:=List.mem_map.1 ht;have hd:=zBh.1 hd;have hn:=zBh.1 hn
  dsimp only
  omega
 ·intro⟨h3,h4⟩;exact⟨t.Day,zBh.2 (by omega),List.mem_map.2 ⟨t.Count,zBh.2 (by omega),rfl⟩⟩
theorem zBl{c:Clm}{x:Int}(hx:-1000≤x∧x≤1000)(hh:-1000≤c.Count.Lo∧c.Count.Hi≤1000){K:Int→Option (List Tr)}{r:List Tr}(hK:K (x+1)=some r):∀(d n:Nat) (k:Int),c.Count.Lo≤k→n < d→k+n=c.Count.Hi+1→ztn c x K d k=some ((seg k n).map (fun n=>⟨x,n⟩)++r)
 | 0,n,k,_,h,_=>by omega
 | d+1,0,k,_,_,hk=>by
  rw[ztn,if_neg (by omega),zqf (fI (by omega)),hK]; rfl
 | d+1,n+1,k,h0,h,hk=>by
  rw[ztn,if_pos (by omega),zqf (fI (by omega)),zBl hx hh hK d n (k+1) (by omega) (by omega) (by omega),obs]; rfl
theorem zBm{c:Clm}(hd:-1000≤c.Day.Lo∧c.Day.Hi≤1000)(hh:-1000≤c.Count.Lo∧c.Count.Hi≤1000)(h2:c.Count.Lo≤c.Count.Hi):∀(d n:Nat) (x:Int),c.Day.Lo≤x→n < d→x+n=c.Day.Hi+1→zto c d x=some ((seg x n).flatMap fun d=>(seg c.Count.Lo (c.Count.Hi - c.Count.Lo+1).toNat).map fun n=>⟨d,n⟩)
 | 0,n,x,_,h,_=>by omega
 | d+1,0,x,_,_,hx=>by rw[zto,if_neg (by omega)]; rfl
 | d+1,n+1,x,h0,h,hx=>by
  rw[zto,if_pos (by omega),zBl (by omega) hh (zBm hd hh h2 d n (x+1) (by omega) (by omega) (by omega)) _ (c.Count.Hi - c.Count.Lo+1).toNat c.Count.Lo (Int.le_refl _) (by omega) (by omega)]; rfl
theorem zBn{l:List Tf}{c:Clm}(h:zAO l c):ztq c=some (zBj c):=by
 have h1:=h.day;have h2:=h.cnt;unfold ztq ztp;rw[zBm (by omega) (by omega) (by omega) _ (c.Day.Hi - c.Day.Lo+1).toNat c.Day.Lo (Int.le_refl _) (by omega) (by omega)]; rfl
theorem zBo{l:List Tf}{c:Clm}(h:zAO l c):0 < (zBj c).length∧(zBj c).length≤1111:=by
 have h1:=h.day;have h2:=h.cnt
 have:(zBj c).length=(c.Day.Hi - c.Day.Lo+1).toNat * (c.Count.Hi - c.Count.Lo+1).toNat:=by
  unfold zBj;rw[List.length_flatMap]
  simp only[List.length_map,zBi]
  generalize (c.Day.Hi - c.Day.Lo+1).toNat=n;generalize (c.Count.Hi - c.Count.Lo+1).toNat=k;generalize c.Day.Lo=x
  induction n generalizing x with
  | zero=>simp[seg]
  | succ n ih=>unfold seg; rw[List.map_cons,List.sum_cons,ih,Nat.succ_mul]; omega
 rw[this]
 have a1:1≤(c.Day.Hi - c.Day.Lo+1).toNat:=by omega
 have a2:(c.Day.Hi - c.Day.Lo+1).toNat≤11:=by omega
 have a3:1≤(c.Count.Hi - c.Count.Lo+1).toNat:=by omega
 have a4:(c.Count.Hi - c.Count.Lo+1).toNat≤101:=by omega
 exact⟨Nat.mul_pos a1 a3,Nat.mul_le_mul a2 a4⟩
def zBp(l:List Tf)(c:Clm):Rg:=⟨zrj ((zBj c).map (zAT l c)),zrk ((zBj c).map (zAT l c))⟩
theorem zBq{l:List Tf}(hf:zzy l=0){c:Clm}(hc:zAO l c){t:Tr}(ht:zAR c t):0≤zAT l c t∧zAT l c t≤100000:=by
 have hp:=zAX hf (zAW hc ht);have hv:=zAY hc.val hp;unfold zAT
 dsimp only at hv
 omega
theorem zBr{l:List Tf}(hf:zzy l=0){c:Clm}(hc:zAO l c){w:Wk}(hw:w.tariffs=l):∀(ts:List Tr) (acc:List Int) (M:Option (Ht→Option Int)),(∀t∈ts,zAR c t)→zAH l M→ts.length+acc.length≤1111→acc++ts.map (zAT l c) ≠ [] →
  ∃M',ztr w c ts acc M=some (⟨zrj (acc++ts.map (zAT l c)),zrk (acc++ts.map (zAT l c))⟩,M')∧zAH l M'
 | [],acc,M,_,hM,hl,hne=>by
  rw[List.map_nil,List.append_nil] at hne ⊢;have hs:zrg acc:=Nat.le_trans (Nat.le_trans (Nat.le_add_left _ _) hl) (by omega);refine⟨M,?_,hM⟩;rw[ztr,zA2 hne (by have:=hs.lt; omega),obs,zA3 hne (by have:=hs.lt; omega),obs]
 | t::ts,acc,M,hts,hM,hl,hne=>by
  obtain⟨M1,h1,h2⟩:=zAZ hf hM hc (hts t (List.mem_cons_self ..));rw[List.length_cons] at hl;obtain⟨M',h3,h4⟩:=zBr hf hc hw ts (acc++[zAT l c t]) M1 (fun u hu=>hts u (List.mem_cons_of_mem _ hu)) h2 (by rw[List.length_append]; simp; omega) (by simp);refine⟨M',?_,h4⟩;rw[ztr,hw,h1,obs]
  dsimp only
  rw[zqf (by omega),h3,List.append_assoc]; rfl
theorem zBs{l:List Tf}(hf:zzy l=0){c:Clm}(hc:zAO l c){M:Option (Ht→Option Int)}(hM:zAH l M):∃M',zts ⟨l,M⟩ c=some (zBp l c,M')∧zAH l M':=by
 have h1:=hc.day;have h2:=hc.cnt;have hlen:=zBo hc;unfold zts;rw[zBn hc,obs]
 exact zBr hf hc rfl (zBj c) [] M (fun t ht=>(zBk (by omega) (by omega)).1 ht) hM (by simp; omega) (by
  intro e;rw[List.nil_append] at e;rw[List.map_eq_nil_iff.1 e] at hlen
  exact absurd hlen.1 (by simp))
theorem zBt{l:List Tf}(hf:zzy l=0){c:Clm}(hc:zAO l c):ztt l c=some (zBp l c,0):=by
 obtain⟨M',h1,_⟩:=zBs hf hc zAL;unfold ztt;rw[zAU hf (by simp) (zA0.2 hc),obs,if_pos rfl,h1,obs]
theorem zBu{l:List Tf}(hf:zzy l=0){c:Clm}(hc:¬ zAO l c):ztt l c=some (⟨0,0⟩,2):=by
 unfold ztt;rw[zAV hf (by simp) (by rw[zA0]; exact hc),obs,if_neg (by decide)]
structure zBv (r:Rg):Prop where
 lo:0≤r.Lo
 le:r.Lo≤r.Hi
 hi:r.Hi≤100
 wd:r.Hi - r.Lo≤4
theorem zBw{r:Rg}:zBv r↔0≤r.Lo∧r.Lo≤r.Hi∧r.Hi≤100∧r.Hi - r.Lo≤4:=⟨fun h=>⟨h.1,h.2,h.3,h.4⟩,fun⟨a,b,c,d⟩=>⟨a,b,c,d⟩⟩
structure zBx (l:List Tf) (f:Fld):Prop where
 crop:0≤f.Crop∧f.Crop < zzv l
 val:0≤f.Value∧f.Value≤100000
 near:0≤f.Near∧f.Near≤100
 fst:zBv f.First
 snd:zBv f.Second
 ump:zBv f.Umpire
structure zBy (c:Cse):Prop where
 tar:zzy c.Tariffs=0
 len:c.Fields.length≤3
 day:0≤c.Day∧c.Day≤120
 fee:0≤c.Fee∧c.Fee≤10000
 fld:∀f∈c.Fields,zBx c.Tariffs f
open Classical in
def zBz(c:Cse):Int:=if zzy c.Tariffs=0 then (if 3 < c.Fields.length then 3 else if zBy c then 0 else 1) else zzy c.Tariffs
theorem zBA{c:Cse}:zBz c=0↔zBy c:=by
 unfold zBz
 constructor
 ·intro h
  split at h
  ·split at h
   ·cases h
   ·split at h
    ·assumption
    ·cases h
  ·rename_i h1; exact absurd h h1
 ·intro h;rw[if_pos h.tar,if_neg (by have:=h.len; omega),if_pos h]
theorem zBB{r:Rg}{n:Int}:Ev (ztv r n) (r.Lo≤n∧n≤r.Hi):=Ev.ite fun _=>Ev.dec Iff.rfl
theorem zBC{n:Int}:Ev (ztw n) (0≤n∧n≤100):=zBB.ret
theorem zBD{r:Rg}:Ev (ztx r) (zBv r):=
 (Ev.and zBC fun h1=>Ev.and zBC fun h2=>Ev.ite fun _=>Ev.gd (fI (by omega)) (Ev.dec Iff.rfl)).imp ((show _↔_ from by omega).trans zBw.symm)
theorem gR{l:List Rg}{p:Rg→Option Bool}:∀{d:Nat} {x:Int},ztz l p d x=gIdx l p d x
 | 0,_=>rfl
 | d+1,x=>by unfold ztz gIdx; simp only[gR]
theorem gF{l:List Fld}{p:Fld→Option Bool}:∀{d:Nat} {x:Int},ztE l p d x=gIdx l p d x
 | 0,_=>rfl
 | d+1,x=>by unfold ztE gIdx; simp only[gF]
theorem zBE{l:List Rg}{p:Rg→Option Bool}{q:Rg→Prop}(hp:∀a∈l,Ev (p a) (q a))(hl:zrg l):Ev (ztC l p) (∀a∈l,q a):=Ev.each hp hl.lt gR
theorem zBF{l:List Fld}{p:Fld→Option Bool}{q:Fld→Prop}(hp:∀a∈l,Ev (p a) (q a))(hl:zrg l):Ev (ztH l p) (∀a∈l,q a):=Ev.each hp hl.lt gF
def zBG(c:Cse)(f:Fld)(n:Int):Clm:={ Crop:=f.Crop,Value:=f.Value,Day:={ Lo:=c.Day,Hi:=c.Day },Count:={ Lo:=n,Hi:=n } }
theorem zBH{c:Cse}{f:Fld}{n:Int}(hd:0≤c.Day∧c.Day≤120)(hn:0≤n∧n≤100):zAO c.Tariffs (zBG c f n)↔(0≤f.Crop∧f.Crop < zzv c.Tariffs)∧(0≤f.Value∧f.Value≤100000):=
 ⟨fun h=>⟨h.crop,h.val⟩,fun h=>⟨h.1,h.2,by show 0≤c.Day∧c.Day≤c.Day∧c.Day≤120∧c.Day - c.Day≤10; omega,by show 0≤n∧n≤n∧n≤100; omega⟩⟩
theorem zBI{c:Cse}(ht:zzy c.Tariffs=0)(hd:0≤c.Day∧c.Day≤120){f:Fld}:Ev (ztZ c f) ((0≤f.Crop∧f.Crop < zzv c.Tariffs)∧(0≤f.Value∧f.Value≤100000)):=by
 refine Ev.bind rfl ?_
 by_cases h:zAO c.Tariffs (zBG c f 0)
 ·exact Ev.bind (zBt ht h) (Ev.dec ⟨fun _=>(zBH hd (by omega)).1 h,fun _=>rfl⟩)
 ·exact Ev.bind (zBu ht h) (Ev.dec ⟨fun h1=>(by cases h1),fun h2=>absurd ((zBH (n:=0) hd (by omega)).2 h2) h⟩)
theorem zBJ{c:Cse}(ht:zzy c.Tariffs=0)(hd:0≤c.Day∧c.Day≤120){f:Fld}:Ev (zt0 c f) (zBx c.Tariffs f):=
 (Ev.and (zBI ht hd) fun _=>Ev.and zBC fun _=>(zBE (fun _ _=>zBD) (show (3:Nat)≤_ by omega)).ret).imp
  ⟨fun⟨h1,h2,h3⟩=>⟨h1.1,h1.2,h2,h3 _ (by simp),h3 _ (by simp),h3 _ (by simp)⟩,fun h=>⟨⟨h.crop,h.val⟩,h.near,fun a ha=>by
   rcases List.mem_cons.1 ha with rfl | ha
   ·exact h.fst
   rcases List.mem_cons.1 ha with rfl | ha
   ·exact h.snd
   rcases List.mem_cons.1 ha with rfl | ha
   ·exact h.ump
   cases ha⟩⟩
theorem zBK{c:Cse}(ht:zzy c.Tariffs=0)(hl:c.Fields.length≤3):Ev (zt1 c) (zBy c):=
 (Ev.and zBB fun h1=>Ev.and zBB fun _=>(zBF (fun _ _=>zBJ ht h1) (Nat.le_trans hl (by omega))).ret).imp
  ⟨fun⟨h1,h2,h3⟩=>⟨ht,hl,h1,h2,h3⟩,fun h=>⟨h.day,h.fee,h.fld⟩⟩
theorem zBL{c:Cse}:zt5 c=some (zBz c):=by
 unfold zt5 zBz;rw[zAf,obs]
 by_cases h:zzy c.Tariffs=0
 ·rw[if_pos h,if_pos h]
  by_cases h3:3 < c.Fields.length
  ·rw[if_pos (by omega),if_pos h3]
  ·rw[if_neg (by omega),if_neg h3]
   exact Ev.pick (zBK h (by omega)) (fun hc=>by rw[if_pos rfl,if_pos hc]) fun hc=>by rw[zqg rfl,if_neg hc]
 ·rw[if_neg h,if_neg h]
theorem zBM{r:Rg}:Ev (zux r) (zBv r):=
 (Ev.ite fun _=>Ev.ite fun _=>Ev.ite fun _=>Ev.gd (fI (by omega)) (Ev.dec Iff.rfl)).imp zBw.symm
theorem zBN{l:List Tf}(h:zzy l=0):l ≠ []:=fun e=>by
 have:=(zAJ h).1;rw[e] at this;exact absurd this (by decide)
theorem zBO{β:Type}{o:Option Bool}{P Q:Prop}{k A B:Option β}(h:Ev o P)(hk:P→(Q→k=A)∧(¬ Q→k=B)):(P∧Q→(o.bind fun r=>if r=true then k else B)=A)∧(¬ (P∧Q)→(o.bind fun r=>if r=true then k else B)=B):=by
 obtain⟨b,h1,h2⟩:=h;rw[h1,obs]
 cases b with
 | true=>
  have hp:=h2.1 rfl;exact⟨fun hq=>(hk hp).1 hq.2,fun hn=>(hk hp).2 fun hq=>hn ⟨hp,hq⟩⟩
 | false=>exact⟨fun hq=>(by have:=h2.2 hq.1; cases this),fun _=>rfl⟩
theorem zBP{c:Cse}(ht:zzy c.Tariffs=0)(hl:c.Fields.length≤3):((∀f∈c.Fields,zBx c.Tariffs f)→zuy c 1000000 0=some 0)∧(¬ (∀f∈c.Fields,zBx c.Tariffs f)→zuy c 1000000 0=some 1):=by
 refine zrf (l:=c.Fields) (F:=fun d x=>zuy c d x) (bad:=some 1) (fin:=some 0) (fun d k f hk=>?_) (fun d=>by rw[zuy,if_neg (Int.lt_irrefl _)]) (by omega);have hkl:=(List.getElem?_eq_some_iff.1 hk).1;have hc:=zAJ ht;rw[zuy,if_pos (by omega),zq5 hk,obs,zAv (zBN ht),obs,zqf (fI (by omega))]
 have key:=zBO (zzF (n:=f.Crop) (lo:=0) (hi:=(zzv c.Tariffs:Int) - 1)) fun _=>zBO (zzF (n:=f.Value) (lo:=0) (hi:=100000)) fun _=>zBO (zzF (n:=f.Near) (lo:=0) (hi:=100)) fun _=>zBO (zBM (r:=f.First)) fun _=>zBO (zBM (r:=f.Second)) fun _=>
  zBO (β:=Int) (Q:=True) (k:=gd (zl0 .i64 ((k:Int)+1)) (zuy c d ((k:Int)+1))) (A:=zuy c d ((k:Int)+1)) (B:=some 1) (zBM (r:=f.Umpire)) fun _=>⟨fun _=>zqf (fI (by omega)),fun h=>absurd trivial h⟩
 refine⟨fun h=>key.1 ⟨⟨h.crop.1,by have:=h.crop.2; omega⟩,h.val,h.near,h.fst,h.snd,h.ump,trivial⟩,fun h=>key.2 fun h'=>h ⟨⟨h'.1.1,by have:=h'.1.2; omega⟩,h'.2.1,h'.2.2.1,h'.2.2.2.1,h'.2.2.2.2.1,h'.2.2.2.2.2.1⟩⟩
theorem zBQ{c:Cse}:zuz c=some (zBz c):=by
 unfold zuz zBz;rw[zAi,obs]
 by_cases h:zzy c.Tariffs=0
 ·rw[if_pos h,if_pos h]
  by_cases h3:3 < c.Fields.length
  ·rw[if_pos (by omega),if_pos h3]
  ·rw[if_neg (by omega),if_neg h3];have g:=zBP h (by omega);have key:=zBO (zzF (n:=c.Day) (lo:=0) (hi:=120)) fun _=>zBO (zzF (n:=c.Fee) (lo:=0) (hi:=10000)) fun _=>g
   by_cases hc:zBy c
   ·rw[if_pos hc]; exact key.1 ⟨hc.day,hc.fee,hc.fld⟩
   ·rw[if_neg hc]; exact key.2 fun h'=>hc ⟨h,by omega,h'.1,h'.2.1,h'.2.2⟩
 ·rw[if_neg h,if_neg h]
theorem zBR{c:Cse}:zuJ c=some (zBz c):=by unfold zuJ; rw[zBQ]; rfl
theorem zBS{c:Cse}:Ev (zuI c) (zAk c.Tariffs∧c.Fields.length≤6):=Ev.and zAo fun _=>Ev.dec (by omega)
theorem zBT{c:Cse}:Ev (zuO c) ((zAk c.Tariffs∧c.Fields.length≤6)∧zBy c):=Ev.and zBS fun _=>Ev.bind zBR (Ev.dec zBA)
theorem zBU{c:Cse}(hl:c.Fields.length≤6):∀(d k:Nat),k≤c.Fields.length→c.Fields.length - k < d→zuE c c.Tariffs d c.Day c.Fee (c.Fields.take k) (k:Int)=some c
 | 0,k,_,h=>by omega
 | d+1,k,hk,h=>by
  rw[zuE]
  by_cases hkl:k < c.Fields.length
  ·have hg:=List.getElem?_eq_getElem hkl;rw[if_pos (by omega),zq5 hg,obs]
   show gd ((c.Fields.take k).length < 1048576) _=_
   rw[zqf (by rw[List.length_take]; omega),zqf (fI (by omega)),show(k:Int)+1=((k+1:Nat):Int) by omega];have:=zBU hl d (k+1) hkl (by omega);rw[List.take_add_one,hg] at this;exact this
  ·rw[if_neg (by omega),List.take_of_length_le (by omega)]
theorem zBV{c:Cse}(ht:zAk c.Tariffs)(hl:c.Fields.length≤6):zuF c=some c:=by
 unfold zuF;rw[zAs ht,obs];exact zBU hl 1000000 0 (by omega) (by omega)
theorem zBW{t:List Thr}(hl:t.length≤1000000):∀(d k:Nat),k≤t.length→t.length - k < d→zuG t d (t.take k) (k:Int)=some t
 | 0,k,_,h=>by omega
 | d+1,k,hk,h=>by
  rw[zuG]
  by_cases hkl:k < t.length
  ·have hg:=List.getElem?_eq_getElem hkl;rw[if_pos (by omega),zq5 hg,obs,obs,obs,zqf (by rw[List.length_take]; omega),zqf (fI (by omega)),show(k:Int)+1=((k+1:Nat):Int) by omega];have:=zBW hl d (k+1) hkl (by omega);rw[List.take_add_one,hg] at this;exact this
  ·rw[if_neg (by omega),List.take_of_length_le (by omega)]
theorem zBX{t:List Thr}(hl:t.length≤1000000):zuH t=some t:=zBW hl (t.length+1) 0 (by omega) (by omega)
end
end Go.Proofs.YteojndcmgpiklaaGreat

namespace Go.Proofs.YteojndcmgpiklaaGreat
open _root_.Go.Proofs.Tryz
open Go.Abs
set_option maxRecDepth 100000
noncomputable section
structure zBY (f:Fld) (t:Thr):Prop where
 a:f.First.Lo≤t.First∧t.First≤f.First.Hi
 b:f.Second.Lo≤t.Second∧t.Second≤f.Second.Hi
 u:f.Umpire.Lo≤t.Umpire∧t.Umpire≤f.Umpire.Hi
structure zBZ (t:Thr):Prop where
 a:0≤t.First∧t.First≤100
 b:0≤t.Second∧t.Second≤100
 u:0≤t.Umpire∧t.Umpire≤100
theorem zBY.rng{l:List Tf}{f:Fld}(h:zBx l f){t:Thr}(ht:zBY f t):zBZ t:=by
 have h1:=h.fst; have h2:=h.snd; have h3:=h.ump;have:=h1.lo; have:=h1.hi; have:=h2.lo; have:=h2.hi; have:=h3.lo; have:=h3.hi;have:=ht.a; have:=ht.b; have:=ht.u;exact⟨by omega,by omega,by omega⟩
def zB0(a b:Int):Int:=max a b - min a b
def zB1(f:Fld)(t:Thr):Prop:=f.Near < zB0 t.First t.Second
instance (f:Fld) (t:Thr):Decidable (zB1 f t):=by unfold zB1; infer_instance
def zB2(f:Fld)(t:Thr):Int:=if zB1 f t then min (max t.Umpire (min t.First t.Second)) (max t.First t.Second) else (t.First+t.Second) / 2
def zB3(f:Fld)(t:Thr):Int:=if zB1 f t then (if zB0 t.Second (zB2 f t) < zB0 t.First (zB2 f t) then 2 else if zB0 t.First (zB2 f t) < zB0 t.Second (zB2 f t) then 3 else 1) else 0
theorem zB4{a b:Int}(ha:0≤a∧a≤100)(hb:0≤b∧b≤100):ztJ a b=some (zB0 a b):=zqf (fI (by omega))
theorem zB5{f:Fld}{t:Thr}(h:zBZ t):Ev (ztK f t) (zB1 f t):=Ev.bind (zB4 h.a h.b) (Ev.dec Iff.rfl)
theorem zB6{f:Fld}{t:Thr}:min t.First t.Second≤zB2 f t∧zB2 f t≤max t.First t.Second:=by
 unfold zB2
 split <;> omega
theorem zB7{f:Fld}{t:Thr}(h:zBZ t):0≤zB2 f t∧zB2 f t≤100:=by
 have:=@zB6 f t;have:=h.a; have:=h.b
 omega
theorem zB8{f:Fld}{t:Thr}(h:zBZ t):ztL f t=some (zB2 f t):=by
 have h1:=h.a; have h2:=h.b;unfold zB2
 exact Ev.pick (zB5 h) (fun hc=>by rw[if_pos rfl,if_pos hc]) fun hc=>by
  rw[zqg rfl,if_neg hc,zqf (fI (by omega)),zqf (by omega),zqf (by omega),zqf (fI (by omega))]
theorem zB9{f:Fld}{t:Thr}(h:zBZ t):ztM f t=some (zB3 f t):=by
 have hs:=zB7 (f:=f) h;unfold ztM;rw[zB8 h,obs,zB4 h.a hs,obs,zB4 h.b hs,obs];unfold zB3
 refine Ev.pick (zB5 h) (fun hc=>?_) fun hc=>by rw[zqg rfl,if_neg hc]
 rw[if_pos rfl,if_pos hc]
 split
 ·rfl
 ·split <;> rfl
theorem zCa{f:Fld}{t:Thr}:0≤zB3 f t∧zB3 f t < 4:=by
 unfold zB3
 repeat' split
 all_goals omega
def cnt(r:Rg):Nat:=(r.Hi - r.Lo+1).toNat
def zCb(f:Fld):List Thr:=(segI f.First.Lo (cnt f.First)).flatMap fun a=>(segI f.Second.Lo (cnt f.Second)).flatMap fun b=>(segI f.Umpire.Lo (cnt f.Umpire)).map fun u=>⟨a,b,u⟩
theorem zCc{r:Rg}(h:zBv r){x:Int}:x∈segI r.Lo (cnt r)↔r.Lo≤x∧x≤r.Hi:=by
 have:=h.le;rw[zrp]; unfold cnt; omega
theorem zCd{r:Rg}(h:zBv r):0 < cnt r∧cnt r≤5:=by
 have:=h.le; have:=h.wd;unfold cnt; omega
theorem zCe{l:List Tf}{f:Fld}(h:zBx l f){t:Thr}:t∈zCb f↔zBY f t:=by
 unfold zCb
 simp only[List.mem_flatMap,List.mem_map,zCc h.fst,zCc h.snd,zCc h.ump]
 constructor
 ·rintro⟨a,ha,b,hb,u,hu,rfl⟩; exact⟨ha,hb,hu⟩
 ·intro ht; exact⟨_,ht.a,_,ht.b,_,ht.u,rfl⟩
theorem zCf{l:List Tf}{f:Fld}(h:zBx l f):0 < (zCb f).length∧(zCb f).length≤125:=by
  have h1:=zCd h.fst; have h2:=zCd h.snd; have h3:=zCd h.ump
  have e:(zCb f).length=cnt f.First * (cnt f.Second * cnt f.Umpire):=by
    unfold zCb
    simp[List.length_flatMap,zrq,List.map_const',List.sum_replicate_nat]
  rw[e];refine⟨Nat.mul_pos h1.1 (Nat.mul_pos h2.1 h3.1),?_⟩
  calc cnt f.First * (cnt f.Second * cnt f.Umpire)≤5 * (5 * 5):=Nat.mul_le_mul h1.2 (Nat.mul_le_mul h2.2 h3.2)
    _=125:=rfl
theorem zCg{f:Fld}(h:zBv f.Umpire){x y:Int}(hy:-1000≤y∧y≤1000){K:Int→Option (List Thr)}{r:List Thr}(hK:K (y+1)=some r):∀(d n:Nat) (k:Int),f.Umpire.Lo≤k→n < d→k+n=f.Umpire.Hi+1→ztN f x y K d k=some ((segI k n).map (fun u=>⟨x,y,u⟩)++r)
 | 0,n,k,_,h2,_=>by omega
 | d+1,0,k,_,_,h3=>by
  rw[ztN,if_neg (by omega),zqf (fI (by omega)),hK]; rfl
 | d+1,n+1,k,h1,h2,h3=>by
  have:=h.lo; have:=h.hi;rw[ztN,if_pos (by omega),zqf (fI (by omega)),zCg h hy hK d n (k+1) (by omega) (by omega) (by omega)]
  rfl
theorem zCh{f:Fld}(hu:zBv f.Umpire)(h:zBv f.Second){x:Int}(hx:-1000≤x∧x≤1000){K:Int→Option (List Thr)}{r:List Thr}(hK:K (x+1)=some r):∀(d n:Nat) (k:Int),f.Second.Lo≤k→n < d→k+n=f.Second.Hi+1→ztO f x K d k=some ((segI k n).flatMap (fun b=>(segI f.Umpire.Lo (cnt f.Umpire)).map fun u=>⟨x,b,u⟩)++r)
 | 0,n,k,_,h2,_=>by omega
 | d+1,0,k,_,_,h3=>by
  rw[ztO,if_neg (by omega),zqf (fI (by omega)),hK]; rfl
 | d+1,n+1,k,h1,h2,h3=>by
  have:=h.lo; have:=h.hi; have:=hu.le;have:=zCd hu;rw[ztO,if_pos (by omega),zCg hu (by omega) (zCh hu h hx hK d n (k+1) (by omega) (by omega) (by omega)) 1000000 (cnt f.Umpire) f.Umpire.Lo (by omega) (by omega) (by unfold cnt; omega)]
  simp only[segI,List.flatMap_cons,List.append_assoc]
theorem zCi{f:Fld}(hu:zBv f.Umpire)(hs:zBv f.Second)(h:zBv f.First):∀(d n:Nat) (k:Int),f.First.Lo≤k→n < d→k+n=f.First.Hi+1→ztP f d k=some ((segI k n).flatMap fun a=>(segI f.Second.Lo (cnt f.Second)).flatMap fun b=>(segI f.Umpire.Lo (cnt f.Umpire)).map fun u=>⟨a,b,u⟩)
 | 0,n,k,_,h2,_=>by omega
 | d+1,0,k,_,_,h3=>by
  rw[ztP,if_neg (by omega)]; rfl
 | d+1,n+1,k,h1,h2,h3=>by
  have:=h.lo; have:=h.hi; have:=hs.le;have:=zCd hs;rw[ztP,if_pos (by omega),zCh hu hs (by omega) (zCi hu hs h d n (k+1) (by omega) (by omega) (by omega)) 1000000 (cnt f.Second) f.Second.Lo (by omega) (by omega) (by unfold cnt; omega)]
  simp only[segI,List.flatMap_cons]
theorem zCj{l:List Tf}{f:Fld}(h:zBx l f):ztR f=some (zCb f):=by
 have:=zCd h.fst; have:=h.fst.le;unfold ztR ztQ;rw[zCi h.ump h.snd h.fst 1000000 (cnt f.First) f.First.Lo (by omega) (by omega) (by unfold cnt; omega)]; rfl
def zCk(c:Cse)(f:Fld)(n:Int):Int:=f.Value * zzD c.Tariffs f.Crop c.Day n / 100
def zCl(c:Cse)(M:Option (Clm→Option Int)):Prop:=∃g,M=some g∧∀k v,g k=some v→v=zAT c.Tariffs k ⟨c.Day,k.Count.Lo⟩
theorem zCm{c:Cse}:zCl c (some fun _=>none):=⟨_,rfl,fun _ _ h=>by cases h⟩
theorem zCn{c:Cse}(hc:zBy c){f:Fld}(hf:zBx c.Tariffs f){n:Int}(hn:0≤n∧n≤100):0≤zCk c f n∧zCk c f n≤100000:=
 zBq hc.tar ((zBH hc.day hn).2 ⟨hf.crop,hf.val⟩) (t:=⟨c.Day,n⟩) ⟨⟨Int.le_refl _,Int.le_refl _⟩,Int.le_refl _,Int.le_refl _⟩
theorem zCo{c:Cse}(hc:zBy c){f:Fld}(hf:zBx c.Tariffs f){n:Int}(hn:0≤n∧n≤100):MK.fit (zBG c f n):=by
 have h1:=hf.crop; have h2:=hf.val; have h3:=hc.day; have h4:=zAJ hc.tar;exact⟨fI (n:=f.Crop) (by omega),fI (n:=f.Value) (by omega),fI (n:=c.Day) (by omega),fI (n:=c.Day) (by omega),fI (n:=n) (by omega),fI (n:=n) (by omega),trivial⟩
theorem zCp{c:Cse}(hc:zBy c){M:Option (Clm→Option Int)}(hM:zCl c M){f:Fld}(hf:zBx c.Tariffs f){n:Int}(hn:0≤n∧n≤100):∃M',zuf ⟨c,M⟩ f n=some (zCk c f n,M')∧zCl c M':=by
 obtain⟨g,rfl,hg⟩:=hM;have hcl:=(zBH (f:=f) hc.day hn).2 ⟨hf.crop,hf.val⟩;have hfit:=zCo hc hf hn;unfold zuf;rw[show ztY (UWk.mk c (some g)).c f n=some (zBG c f n) from rfl,obs,zqf hfit]
 cases hk:g (zBG c f n) with
 | some v=>
  rw[zqK (show zqz (UWk.mk c (some g)).payments (zBG c f n)=some v from hk)];refine⟨_,?_,g,rfl,hg⟩;rw[hg _ _ hk]; rfl
 | none=>
  rw[zqJ (show zqz (UWk.mk c (some g)).payments (zBG c f n)=none from hk)];have hp:ztu (UWk.mk c (some g)).c.Tariffs (zBG c f n) ⟨(UWk.mk c (some g)).c.Day,n⟩=some (zCk c f n,0):=zA1 hc.tar hcl (t:=⟨c.Day,n⟩) ⟨⟨Int.le_refl _,Int.le_refl _⟩,Int.le_refl _,Int.le_refl _⟩;rw[hp,obs,zqf hfit];refine⟨_,rfl,_,rfl,fun k v h=>?_⟩
  dsimp only at h
  split at h
  ·rename_i he; subst he; cases h; rfl
  ·exact hg k v h
def ocN(c:Cse)(f:Fld)(t:Thr):Oc:=⟨zCk c f (zB2 f t),zB3 f t⟩
theorem zCq{c:Cse}(hc:zBy c){M:Option (Clm→Option Int)}(hM:zCl c M){f:Fld}(hf:zBx c.Tariffs f){t:Thr}(ht:zBY f t):∃M',zug ⟨c,M⟩ f t=some (ocN c f t,M')∧zCl c M':=by
 have hr:=ht.rng hf;obtain⟨M',h1,h2⟩:=zCp hc hM hf (zB7 (f:=f) hr);refine⟨M',?_,h2⟩;unfold zug;rw[zB8 hr,obs,h1,obs,zB9 hr]; rfl
structure zCr (o:Oc):Prop where
 p:0≤o.pence∧o.pence≤100000
 l:0≤o.loser∧o.loser < 4
theorem zCs{c:Cse}(hc:zBy c){f:Fld}(hf:zBx c.Tariffs f){t:Thr}(ht:zBY f t):zCr (ocN c f t):=⟨zCn hc hf (zB7 (ht.rng hf)),zCa⟩
theorem zCr.fit{o:Oc}(h:zCr o):MK.fit o:=⟨fI (by have:=h.p; omega),fI (by have:=h.l; omega),trivial⟩
def zCt(v:Ver)(o:Oc):Ver:=⟨v.fee,v.pence+o.pence,⟨v.fields.f0+(if o.loser=0 then 1 else 0),v.fields.f1+(if o.loser=1 then 1 else 0),v.fields.f2+(if o.loser=2 then 1 else 0),v.fields.f3+(if o.loser=3 then 1 else 0)⟩⟩
structure zCu (k:Int) (v:Ver):Prop where
 fee:0≤v.fee∧v.fee≤10000
 p:0≤v.pence∧v.pence≤100000 * k
 f0:0≤v.fields.f0∧v.fields.f0≤k
 f1:0≤v.fields.f1∧v.fields.f1≤k
 f2:0≤v.fields.f2∧v.fields.f2≤k
 f3:0≤v.fields.f3∧v.fields.f3≤k
theorem zCv{k:Int}{v:Ver}(h:zCu k v){o:Oc}(ho:zCr o):zCu (k+1) (zCt v o):=by
 have:=ho.p; have:=h.p; have:=h.f0; have:=h.f1; have:=h.f2; have:=h.f3;refine⟨h.fee,?_,?_,?_,?_,?_⟩
 ·show 0≤v.pence+o.pence∧v.pence+o.pence≤100000 * (k+1); omega
 all_goals (simp only[zCt]; split <;> omega)
theorem zCw{k:Int}(hk:k≤1000){v:Ver}(h:zCu k v){o:Oc}(ho:zCr o):zt8 v o=some (zCt v o):=by
 have h1:=ho.p; have h2:=h.p; have h3:=h.f0; have h4:=h.f1; have h5:=h.f2; have h6:=h.f3; have h7:=ho.l;obtain⟨op,ol⟩:=o
 dsimp only at h1 h7
 have hcase:ol=0∨ol=1∨ol=2∨ol=3:=by omega
 unfold zt8;rw[zqf (fI (by dsimp only; omega))]
 rcases hcase with rfl | rfl | rfl | rfl
 ·rw[zq8 rfl,obs,zqf (fI (by omega)),zqf (by omega)]
  simp[sti,zCt]
 ·rw[show idx [v.fields.f0,v.fields.f1,v.fields.f2,v.fields.f3] (1:Int)=some v.fields.f1 from rfl,obs,zqf (fI (by omega)),zqf (by omega)]
  simp[sti,zCt]
 ·rw[show idx [v.fields.f0,v.fields.f1,v.fields.f2,v.fields.f3] (2:Int)=some v.fields.f2 from rfl,obs,zqf (fI (by omega)),zqf (by omega)]
  simp[sti,zCt]
 ·rw[show idx [v.fields.f0,v.fields.f1,v.fields.f2,v.fields.f3] (3:Int)=some v.fields.f3 from rfl,obs,zqf (fI (by omega)),zqf (by omega)]
  simp[sti,zCt]
def zCx(v:Ver):Prop:=0 < v.fields.f1+v.fields.f2+v.fields.f3
instance (v:Ver):Decidable (zCx v):=by unfold zCx; infer_instance
def zCy(v:Ver):Int:=if zCx v then (if v.fields.f2 < v.fields.f3 then 0 else if v.fields.f3 < v.fields.f2 then v.fee else v.fee - v.fee / 2) else 0
def zCz(v:Ver):Int:=if zCx v then v.fee - zCy v else 0
theorem zCA{k:Int}(hk:k≤1000){v:Ver}(h:zCu k v):Ev (zt9 v) (zCx v):=by
 have h4:=h.f1; have h5:=h.f2; have h6:=h.f3;unfold zt9;rw[show idx [v.fields.f0,v.fields.f1,v.fields.f2,v.fields.f3] (1:Int)=some v.fields.f1 from rfl,obs,show idx [v.fields.f0,v.fields.f1,v.fields.f2,v.fields.f3] (2:Int)=some v.fields.f2 from rfl,obs,zqf (fI (by omega)),show idx [v.fields.f0,v.fields.f1,v.fields.f2,v.fields.f3] (3:Int)=some v.fields.f3 from rfl,obs,zqf (fI (by omega))];exact Ev.dec Iff.rfl
theorem zCB{k:Int}(hk:k≤1000){v:Ver}(h:zCu k v):zub v=some (zCy v):=by
 have hf:=h.fee;unfold zub zCy;rw[show idx [v.fields.f0,v.fields.f1,v.fields.f2,v.fields.f3] (2:Int)=some v.fields.f2 from rfl,obs,show idx [v.fields.f0,v.fields.f1,v.fields.f2,v.fields.f3] (3:Int)=some v.fields.f3 from rfl,obs]
 refine Ev.pick (zCA hk h) (fun hc=>?_) fun hc=>by rw[zqg rfl,if_neg hc]
 rw[if_pos rfl,if_pos hc]
 split
 ·rfl
 ·split
  ·rfl
  ·rw[zqf (by omega),zqf (by omega),zqf (fI (by omega)),zqf (fI (by omega))]
theorem zCC{k:Int}{v:Ver}(h:zCu k v):0≤zCy v∧zCy v≤v.fee:=by
 have:=h.fee;unfold zCy
 repeat' split
 all_goals omega
theorem zCD{k:Int}(hk:k≤1000){v:Ver}(h:zCu k v):zuc v=some (zCz v):=by
 have hf:=h.fee; have hr:=zCC h;unfold zuc zCz
 refine Ev.pick (zCA hk h) (fun hc=>?_) fun hc=>by rw[zqg rfl,if_neg hc]
 rw[if_pos rfl,if_pos hc,zCB hk h,obs,zqf (fI (by omega))]
theorem zCE{k:Int}{v:Ver}(h:zCu k v):0≤zCz v∧zCz v≤v.fee:=by
 have:=h.fee; have:=zCC h;unfold zCz
 split <;> omega
theorem zCF{k:Int}(hk:k≤1000){v:Ver}(h:zCu k v):zud v=some (v.pence - zCy v):=by
 have hf:=h.fee; have hr:=zCC h; have:=h.p;unfold zud zua;rw[obs,zCB hk h,obs,zqf (fI (by omega))]
theorem zCG{k:Int}(hk:k≤1000){v:Ver}(h:zCu k v):zue v=some (v.pence+zCz v):=by
 have hf:=h.fee; have hr:=zCE h; have:=h.p;unfold zue zua;rw[obs,zCD hk h,obs,zqf (fI (by omega))]
end
end Go.Proofs.YteojndcmgpiklaaGreat

