/- An evaluator of code, its soundness, and what functions of the program do. Condition: none; a lemma text. -/
import Derived.Test.YtpjnfiegpjlfgaaGreatVfH

namespace Go.Proofs.YtpjnfiegpjlfgaaGreat
open _root_.Go.Proofs.Tryz
open Go.Abs
set_option maxRecDepth 100000
noncomputable section
theorem zxE{n:Int}(h1:-1000000<=n)(h2:n<=1000000):zl2 .i64 n:=by simp only[zl2]; omega
theorem zxF{r:Rg}(h:okR r):zs4 r=some (szR r):=by
 unfold okR at h;unfold zs4 gd;rw[yab (zxE (by omega) (by omega)),yab (zxE (by omega) (by omega))]; rfl
def hdP(bl N:Nat):C:=.sl bl 0 N 0 (some N)
def flP(br k bd cv:Nat):C:=.fn (.func 190) [] [.c (.ptr br 0),.c (.ptr k 0),.c (.ptr bd 0),.c (.ptr cv 0)]
theorem zxG{P:List Int}{p:Nat}(hp:p < P.length)(n:Int):(P.set p n).take (p+1)=P.take p++[n]:=by
 rw[ybx,yaU hp,ybH (yac _)]; rfl
theorem zxH(L:List Int)(i:Nat)(v:Int):(zp4 L).set i (.int .i64 v)=zp4 (L.set i v):=by unfold zp4; rw[List.map_set]
theorem zxI(n:Nat):zaJ [C.int .i64 0] n=zp4 (List.replicate n 0):=by rw[zey]; simp[zp4]
theorem zxJ{m:M}{b n:Nat}{vs:List C}(h:Bk m b n vs){k:Nat}(c:C)(hk:k < vs.length)(hn:vs.length=n):stC m (.ptr b (0+k * 1)) 1 [c]=some (m.set b (.cells n (vs.set k c) false)):=by
 rw[show 0+k * 1=k by omega]
 by_cases h1:n=1
 ·subst h1
  have i:k=0:=by omega
  subst i
  have:vs.set 0 c=[c]:=by
   match vs,hn with
   | [a],_=>rfl
  rw[this];exact zpW h.g [c]
 ·exact zpX h.g c hk hn h1
structure CkF (f:M) (l br k bd cv bl N:Nat) (cR:C) (S:Nat->Prop) (m:M) (P:List Int):Prop where
 sb:Sub f m
 rr:Bk m br 1 [cR]
 kk:Bk m k 1 [.fn (.yield l) [] []]
 dd:Bk m bd 1 [hdP bl N]
 cc:Bk m cv 1 [flP br k bd cv]
 ll:Bk m bl N (zp4 P)
 ss:∀b',S b'->b' ≠ br/\b' ≠ k/\b' ≠ bd/\b' ≠ cv/\b' ≠ bl/\f.g b'=none/\f.vw b'=none
 ne:br ≠ bl/\k ≠ bl/\bd ≠ bl/\cv ≠ bl
variable {f:M} {l br k bd cv bl N:Nat} {cR:C}
theorem CkF.chg{S S':Nat->Prop}{m m':M}{P:List Int}(hz:∀b,f.nxt<=b->f.g b=none)(hv:∀b,f.nxt<=b->f.vw b=none)(h:CkF f l br k bd cv bl N cR S m P)(hc:Chg S m m')(ho:Own S m S'):CkF f l br k bd cv bl N cR S' m' P:=by
 have tr:∀{b' j:Nat} {vs:List C},Bk m b' j vs->¬ S b'->Bk m' b' j vs:=fun hb hS=>⟨(hc.g _ hb.lt hS).trans hb.g,yaf hb.lt hc.nxt⟩;refine⟨⟨yad h.sb.nxt hc.nxt,hc.vw.trans h.sb.vw,fun b' hb hd=>?_⟩,tr h.rr fun hs=>(h.ss _ hs).1 rfl,tr h.kk fun hs=>(h.ss _ hs).2.1 rfl,tr h.dd fun hs=>(h.ss _ hs).2.2.1 rfl,tr h.cc fun hs=>(h.ss _ hs).2.2.2.1 rfl,tr h.ll fun hs=>(h.ss _ hs).2.2.2.2.1 rfl,fun b' hb=>?_,h.ne⟩
 ·rw[hc.g b' (yaf hb h.sb.nxt) fun hs=>hd.elim (fun h1=>h1 (h.ss b' hs).2.2.2.2.2.1) fun h1=>h1 (h.ss b' hs).2.2.2.2.2.2];exact h.sb.g b' hb hd
 ·rcases ho b' hb with hs | hs
  ·exact h.ss b' hs
  ·have:=h.rr.lt; have:=h.kk.lt; have:=h.dd.lt; have:=h.cc.lt; have:=h.ll.lt; have:=h.sb.nxt;exact⟨by omega,by omega,by omega,by omega,by omega,hz b' (by omega),hv b' (by omega)⟩
theorem CkF.ext{S:Nat->Prop}{m m':M}{P:List Int}(hz:∀b,f.nxt<=b->f.g b=none)(hv:∀b,f.nxt<=b->f.vw b=none)(h:CkF f l br k bd cv bl N cR S m P)(x:Ext m m'):CkF f l br k bd cv bl N cR S m' P:=
 h.chg hz hv ⟨x.nxt,fun b' hb _=>x.g b' hb,x.vw⟩ fun b' hb=>.inl hb
theorem CkF.set{S:Nat->Prop}{m:M}{P:List Int}(h:CkF f l br k bd cv bl N cR S m P)(hb:f.g bl=none/\f.vw bl=none)(P':List Int):CkF f l br k bd cv bl N cR S (m.set bl (.cells N (zp4 P') false)) P':=
 ⟨⟨h.sb.nxt,h.sb.vw,fun b' a hd=>by
  rw[M.g_set,yaa fun he=>by subst he; exact hd.elim (fun q=>q hb.1) fun q=>q hb.2]
  exact h.sb.g b' a hd⟩,h.rr.setNe h.ne.1 _,h.kk.setNe h.ne.2.1 _,h.dd.setNe h.ne.2.2.1 _,h.cc.setNe h.ne.2.2.2 _,h.ll.set _,h.ss,h.ne⟩
theorem slP{m:M}{P:List Int}(h:Bk m bl N (zp4 P))(hP:P.length=N):SlX m (fun b'=>b'=bl) (hdP bl N) P:=by
 refine⟨⟨zp4 P,⟨by rw[zp5]; exact ybB _,.inr ⟨bl,0,0,some N,by rw[hP]; rfl,h.lt,fun _=>.inl ⟨N,zp4 P,false,h.g,by rw[zp5]; exact hP,by rw[zp5]; omega,by rw[yau,yaw (yac _)]⟩⟩⟩,zre m _,.inr (.inl ⟨bl,0,0,N,by rw[hP]; rfl,by omega⟩)⟩,fun b o' n s d he=>by cases he; rfl⟩
theorem zxK{ranges:List Rg}{n0 n1:Nat}{all:List (List Int)}{I:Nat->(Nat->Prop)->M->Prop}{E:(Nat->Prop)->M->Prop}(hz:∀b,f.nxt<=b->f.g b=none)(hv:∀b,f.nxt<=b->f.vw b=none)(hR:Sl f cR ranges)(hN:ranges.length=N)(aO:N<=100)(aB:∀r∈ranges,okR r)(aC:f.g bl=none/\f.vw bl=none)
  (aP:n0<=bl) (aD:n1<=bl) (J:zqZ prog tbl n0 l (VsW all n1) I E) :
  ∀(rs:List Rg) (p:Nat),ranges.drop p=rs->p<=N->∀(i:Nat) (S:Nat->Prop) (m:M) (P:List Int) (Q:V->M->Prop),CkF f l br k bd cv bl N cR S m P->P.length=N ->
   (∀j L,(chW rs (P.take p))[j]? = some L->all[i+j]? = some L)->I i S m ->
   (∀S' m' P',Own S m S'->Chg (fun b'=>S b'\/b'=bl) m m'->CkF f l br k bd cv bl N cR S' m' P'->P'.length=N->P'.take p=P.take p->I (i+(chW rs (P.take p)).length) S' m'->Q (.c (.bool true)) m') ->
   (∀S' m',Own S m S'->Chg (fun b'=>S b'\/b'=bl) m m'->E S' m'->Q (.c (.bool false)) m') ->
   Wc prog tbl 190 [.c (.int .i64 (p:Int)),.c (.ptr br 0),.c (.ptr k 0),.c (.ptr bd 0),.c (.ptr cv 0)] m Q:=by
 intro rs
 have ctr:∀{S S1:Nat->Prop} {m m1 m2:M},Chg (fun b=>S b\/b=bl) m m1->Chg (fun b=>S1 b\/b=bl) m1 m2->Own S m S1->Chg (fun b=>S b\/b=bl) m m2:=fun {S S1 m m1 m2} h1 h2 ho=>
  ⟨yad h1.nxt h2.nxt,fun b hb hS=>by
   rw[h2.g b (yaf hb h1.nxt) fun h=>h.elim (fun h3=>(ho b h3).elim (fun h4=>hS (.inl h4)) fun h4=>by omega) fun h3=>hS (.inr h3)]
   exact h1.g b hb hS,h2.vw.trans h1.vw⟩
 have otr:∀{S S1 S2:Nat->Prop} {m m1:M},Own S m S1->Own S1 m1 S2->m.nxt<=m1.nxt->Own S m S2:=fun h1 h2 hn b' hb=>(h2 b' hb).elim (h1 b') fun h=>.inr (by omega);have cor:∀{S:Nat->Prop} {m m':M},Chg S m m'->Chg (fun b=>S b\/b=bl) m m':=fun h=>⟨h.nxt,fun b hb hS=>h.g b hb fun h2=>hS (.inl h2),h.vw⟩
 induction rs with
 | nil=>
  intro p hp aE i S m P Q q hP O hI hT ac
  have aF:p=N:=by have:=congrArg List.length hp; rw[yaM,List.length_nil] at this; omega
  subst aF;refine zxD (p:Int) br k bd cv ⟨_,q.rr.rc rfl,hR.isSl,?_⟩;rw[hR.slLen,zpH];refine⟨fun _=>?_,fun h1=>absurd (by omega) h1⟩;have ad:=O 0 (P.take p) rfl;rw[ybQ] at ad;have aG:P.take p=P:=yaw (by omega);rw[aG] at ad;have s0:=slP q.ll hP;refine⟨_,q.kk.rc rfl,_,q.dd.rc rfl,?_⟩
  show Wy prog tbl l [.c (hdP bl p)] m _
  refine J.yield i _ S m ⟨P,fun b'=>b'=bl,ad,⟨_,rfl,s0⟩,fun b' a=>by subst a; exact⟨aD,fun hs=>(q.ss _ hs).2.2.2.2.1 rfl,q.ll.lt⟩⟩ hI _ (fun S' m' ho w ae=>⟨_,rfl,?_⟩) fun S' m' ho w hE=>⟨_,rfl,ac S' m' ho (cor w) hE⟩;exact hT S' m' P ho (cor w) (q.chg hz hv w ho) hP rfl ae
 | cons r rs ih=>
  intro p hp aE i S m P Q q hP O hI hT ac
  have T:p < ranges.length:=by
   have:=congrArg List.length hp;rw[yaM,yaE] at this; omega
  have aN:p < N:=by omega
  have hd:=yat T;rw[hp] at hd
  have hr:ranges[p]? = some r:=by rw[yak T,(List.cons.inj hd).1]
  have ak:ranges.drop (p+1)=rs:=(List.cons.inj hd).2.symm;have ao:=aB r (ybE hr);have aw:=ao;unfold okR at aw;obtain⟨_,ap⟩:=zr7 hR hr;have aH:=(J.li i).lt _ _ hI;refine zxD (p:Int) br k bd cv ⟨_,q.rr.rc rfl,hR.isSl,?_⟩;rw[hR.slLen,zpH];refine⟨fun h1=>by omega,fun _=>⟨_,q.rr.rc rfl,p,rfl,by rw[hR.slLen]; exact T,_,_,(ap m q.sb).1,?_⟩⟩;refine zxk (r:=r) ⟨q.sb,hz,hv⟩ (zxF ao) fun Y s=>⟨_,rfl,fun R22 Z=>?_⟩;have am:=q.ext hz hv s;have ax:I i S Y:=(J.li i).st _ _ _ hI s.nxt s.vw (fun b' hb=>s.g b' (aH b' hb)) fun b' hb=>s.g b' (by have:=q.ll.lt; omega)
  let g:Nat->List (List Int):=fun n=>chW rs (P.take p++[r.Lo+(n:Int)])
  have aI:chW (r::rs) (P.take p)=zru g (szR r).toNat 0:=rfl;rw[aI] at O hT
  have aJ:∀(d n:Nat) (b7:Bool) (m9:M) (S1:Nat->Prop) (P1:List Int) (i1:Nat),n+d=(szR r).toNat->Own S Y S1->Chg (fun b'=>S b'\/b'=bl) Y m9->CkF f l br k bd cv bl N cR S1 m9 P1->P1.length=N->P1.take p=P.take p->I i1 S1 m9 ->
    i1+(zru g d n).length=i+(zru g (szR r).toNat 0).length->(∀j L,(zru g d n)[j]? = some L->all[i1+j]? = some L)->R22 [.c (.bool b7),.c (.int .i64 (n:Int))] m9:=by
   intro d
   induction d with
   | zero=>
    intro n b7 m9 S1 P1 i1 aK ho w u aa ab af A D;refine Z _ _ _ ?_;rw[zpH];refine⟨fun h1=>by omega,fun _=>hT S1 m9 P1 (fun b' a=>(ho b' a).imp id fun h=>yad s.nxt h) (ctr (S1:=S) (cor ⟨s.nxt,fun b' a _=>s.g b' a,s.vw⟩) w fun b' a=>.inl a) u aa ab ?_⟩;have h9:i1+0=_:=A;rw[<- h9,ybQ]; exact af
   | succ d ihe=>
    intro n b7 m9 S1 P1 i1 aK ho w u aa ab af A D;have aQ:szR r=r.Hi - r.Lo+1:=rfl;refine Z _ _ _ ?_;rw[zpH];refine⟨fun _=>?_,fun h1=>absurd (by omega) h1⟩
    have aq:p < P1.length:=by omega
    refine⟨_,u.dd.rc rfl,_,u.rr.rc rfl,p,rfl,by rw[hR.slLen]; exact T,hR.isPt hr _,_,(ap m9 u.sb).2.1 0 _ rfl,zxE (by omega) (by omega),p,rfl,(by show p < N; omega),_,zxJ u.ll _ (by rw[zp5]; exact aq) (by rw[zp5]; exact aa),?_⟩;rw[zxH];have F:=u.set aC (P1.set p (r.Lo+(n:Int)));have ag:Chg (fun b'=>S1 b'\/b'=bl) m9 (m9.set bl (.cells N (zp4 (P1.set p (r.Lo+(n:Int)))) false)):=⟨yac _,fun b' _ hS=>by rw[M.g_set,yaa fun h1=>hS (.inr h1)],rfl⟩;have ar:I i1 S1 (m9.set bl (.cells N (zp4 (P1.set p (r.Lo+(n:Int)))) false)):=(J.li i1).st _ _ _ af (yac _) rfl (fun b' hb=>by rw[M.g_set,yaa (u.ss b' hb).2.2.2.2.1]) (fun b' hb=>by rw[M.g_set,yaa (by omega)]);have y:=ctr w ag ho;generalize m9.set bl (.cells N (zp4 (P1.set p (r.Lo+(n:Int)))) false)=au at F ag ar y
    have av:(P1.set p (r.Lo+(n:Int))).length=N:=by rw[yaC]; exact aa
    have ah:(P1.set p (r.Lo+(n:Int))).take (p+1)=P.take p++[r.Lo+(n:Int)]:=by rw[zxG aq,ab]
    have ai:(P1.set p (r.Lo+(n:Int))).take p=P.take p:=by rw[ybH (yac _),ab]
    generalize P1.set p (r.Lo+(n:Int))=P2 at F ah ai av;have aL:zru g (d+1) n=g n++zru g d (n+1):=rfl
    have hg:g n=chW rs (P2.take (p+1)):=by rw[ah]
    rw[aL,hg] at A D;rw[yai] at A;refine⟨_,F.cc.rc rfl,zxE (by omega) (by omega),?_⟩
    show Wc prog tbl 190 [.c (.int .i64 ((p+1:Nat):Int)),.c (.ptr br 0),.c (.ptr k 0),.c (.ptr bd 0),.c (.ptr cv 0)] au _
    refine ih (p+1) ak (by omega) i1 S1 au P2 _ F av (fun j H hj=>D j H (by rw[yb0 (yah.1 hj).1]; exact hj)) ar (fun S' m' P' aj G ay aM az ae=>⟨_,rfl,?_⟩) fun S' m' aj G hE=>⟨_,rfl,?_⟩
    ·have aA:P'.take p=P.take p:=by
      have h1:=congrArg (List.take p) az;rw[yaH,yaH,yaS (by omega)] at h1;rw[h1,ai]
     refine zqU ⟨zxE (by omega) (by omega),ihe (n+1) b7 m' S' P' _ (by omega) (otr ho aj y.nxt) (ctr y G ho) ay aM aA ae (by omega) fun j H hj=>?_⟩;rw[ybN];exact D _ H (by rw[ybv (by omega),yca]; exact hj)
    ·refine zqV ?_;exact ac S' m' (fun b' a=>(otr ho aj y.nxt b' a).imp id fun h=>yad s.nxt h) (ctr (S1:=S) (cor ⟨s.nxt,fun b' a _=>s.g b' a,s.vw⟩) (ctr y G ho) fun b' a=>.inl a) hE
  exact aJ (szR r).toNat 0 false Y S P i (by omega) (fun b' a=>.inl a) ⟨yac _,fun _ _ _=>rfl,rfl⟩ am hP rfl ax rfl O
end
end Go.Proofs.YtpjnfiegpjlfgaaGreat

namespace Go.Proofs.YtpjnfiegpjlfgaaGreat
open _root_.Go.Proofs.Tryz
open Go.Abs
set_option maxRecDepth 100000
noncomputable section
theorem zxL{rs:List Rg}{cR:C}{f:M}{b:Nat}(ab:Sl f cR rs)(hb:Bk f b 1 [cR])(ag:rs.length<=100)(ah:∀r∈rs,okR r)
    (n0 l:Nat) (I:Nat->(Nat->Prop)->M->Prop) (E:(Nat->Prop)->M->Prop) (S:Nat->Prop) (m:M) (hc:zqZ prog tbl n0 l (VsW (chW rs []) m.nxt) I E) (_hn:n0<=m.nxt) (hI:I 0 S m) (hS:Pre f m) (ad:∀b,S b->f.g b=none/\f.vw b=none) (Q:V->M->Prop)
    (hQ:∀v S' m',Own S m S'->Chg S m m'->I (chW rs []).length S' m'\/E S' m'->Q v m'):Wc prog tbl 189 [.c (.fn (.yield l) [] []),.c (.ptr b 0)] m Q:=by
 have ae:=(hc.li 0).lt _ _ hI;refine zxC _ b fun a w=>?_;obtain⟨O,p⟩:=Bk.new w
 have q0:a.nxt=m.nxt+1:=by rw[w]; rfl
 have y:Sub f a:=⟨yad hS.sub.nxt p.nxt,p.vw.trans hS.sub.vw,fun b' aa hd=>(p.g b' (yaf aa hS.sub.nxt)).trans (hS.sub.g b' aa hd)⟩;refine⟨_,(hb.sub y).rc rfl,ab.isSl,rs.length,rs.length,by rw[ab.slLen],by rw[ab.slLen],yac _,by omega,fun d s n e5=>?_⟩;rw[zxI,ybB] at s;obtain⟨P,T⟩:=Bk.new s;obtain⟨z,A⟩:=Bk.new e5
 have q4:d.nxt=m.nxt+2:=by rw[s]; show a.nxt+1=_; omega
 have Y:n.nxt=m.nxt+3:=by rw[e5]; show d.nxt+1=_; omega
 refine⟨n.set d.nxt (.cells 1 [hdP a.nxt rs.length] false),z.st _,fun o t=>?_⟩;have B:=z.set [hdP a.nxt rs.length];have D:=(P.ext A).setNe (c:=d.nxt) (by omega) (.cells 1 [hdP a.nxt rs.length] false);have F:Ext a (n.set d.nxt (.cells 1 [hdP a.nxt rs.length] false)):=(T.trans A).setR (by omega) _;have Z:(n.set d.nxt (.cells 1 [hdP a.nxt rs.length] false)).nxt=m.nxt+3:=Y;generalize n.set d.nxt (.cells 1 [hdP a.nxt rs.length] false)=e at B D F Z t ⊢;obtain⟨G,x7⟩:=Bk.new t
 have q7:o.nxt=m.nxt+4:=by rw[t]; show e.nxt+1=_; omega
 refine⟨o.set e.nxt (.cells 1 [flP b m.nxt d.nxt e.nxt] false),G.st _,?_⟩;have u:=G.set [flP b m.nxt d.nxt e.nxt];have q:Ext e (o.set e.nxt (.cells 1 [flP b m.nxt d.nxt e.nxt] false)):=x7.setR (yac _) _;have q8:(o.set e.nxt (.cells 1 [flP b m.nxt d.nxt e.nxt] false)).nxt=m.nxt+4:=q7;generalize o.set e.nxt (.cells 1 [flP b m.nxt d.nxt e.nxt] false)=i at u q q8 ⊢;refine⟨_,u.rc rfl,?_⟩
 show Wc prog tbl 190 [.c (Il ((0:Nat):Int)),.c (.ptr b 0),.c (.ptr m.nxt 0),.c (.ptr d.nxt 0),.c (.ptr e.nxt 0)] i _
 have J:=F.trans q;have ym:=p.trans J;have subx:Sub f i:=⟨yad hS.sub.nxt ym.nxt,ym.vw.trans hS.sub.vw,fun b' aa hd=>(ym.g b' (yaf aa hS.sub.nxt)).trans (hS.sub.g b' aa hd)⟩;have ao:=hS.sub.nxt;have ap:=hb.lt
 have ai:f.g b ≠ none:=by rw[hb.g]; exact yaI _
 have aj:CkF f l b m.nxt d.nxt e.nxt a.nxt rs.length cR S i (List.replicate rs.length 0):=
  ⟨subx,hb.sub subx,O.ext J,B.ext q,u,D.ext q,fun b' aa=>by
   have h1:=ae b' aa
   exact⟨fun he=>ai (he ▸ (ad b' aa).1),by omega,by omega,by omega,by omega,ad b' aa⟩,by omega,by omega,by omega,by omega⟩
 have N:I 0 S i:=(hc.li 0).st _ _ _ hI ym.nxt ym.vw (fun b' aa=>ym.g b' (ae b' aa)) fun b' aa=>ym.g b' (by omega)
 have fin:∀{m':M},Chg (fun b'=>S b'\/b'=a.nxt) i m'->Chg S m m':=fun {m'} h=>⟨yad ym.nxt h.nxt,fun b' aa hs=>by
  rw[h.g b' (by have:=ym.nxt; omega) fun hY=>hY.elim hs fun h9=>by omega]
  exact ym.g b' aa,h.vw.trans ym.vw⟩
 have ak:f.g a.nxt=none/\f.vw a.nxt=none:=⟨hS.fz _ (by omega),hS.fv _ (by omega)⟩;refine zxK hS.fz hS.fv ab rfl ag ah ak (n0:=n0) (n1:=m.nxt) (by omega) (by omega) hc rs 0 yau (yam _) 0 S i (List.replicate rs.length 0) _ aj (by rw[ybs]) (fun j L hj=>?_) N (fun S' m' P' ho ac am aq ar af=>⟨_,rfl,?_⟩) fun S' m' ho ac hE=>⟨_,rfl,?_⟩
 ·rw[yay]; exact hj
 ·rw[yay] at af;exact hQ _ S' m' (fun b' aa=>(ho b' aa).imp id fun h=>yad ym.nxt h) (fin ac) (.inl af)
 ·exact hQ _ S' m' (fun b' aa=>(ho b' aa).imp id fun h=>yad ym.nxt h) (fin ac) (.inr hE)
theorem zxM{l:List Rg}{u:C}{m f:M}{Q:V->M->Prop}{rz:List (List Int)}(hS:Pre f m)(w:Sl f u l)(hp:ztq l=some rz)(hq:∀m' f' c0,Grw m f m' f'->ItW prog tbl f' c0 rz->Q (.c c0) m'):Wc prog tbl 171 [.c u] m Q:=by
 have e:=hS.st;obtain⟨g,_⟩:=zr5;refine zwD ?_;unfold ztq at hp;intro r h;obtain⟨s,i,t,j⟩:=e.blk h g 1;obtain⟨d,a,n,hb⟩:=j.freeze i;obtain⟨⟨o,p⟩,hp⟩:=zqi hp;obtain rfl:=oi hp
 have hI:ItW prog tbl d (C.fn (Fn.func 189) [] [(W.c (C0.ptr m.nxt 0))]) (chW l []):=
  zrd a.fz a.fv fun q ly I E S m' hc hn hI hP y Q hQ=>zxL (w.sub n.fs) hb o p q ly I E S m' hc hn hI hP y Q hQ
 exact hq _ d _ a.grw hI
theorem zxN:TC prog 257 5:=⟨189,by kernel_rfl,by kernel_rfl,by kernel_rfl⟩
theorem zxO:TA prog 258 10:=⟨261,by kernel_rfl,by kernel_rfl,by kernel_rfl⟩
section
variable {m f:M}{Q:V->M->Prop}
theorem zxP{l:List Evt}{n:Int}{cmp:Evt->Evt->Option (Int)}{ac af:C}{rz:(Unit) × List Evt}(hS:Pre f m)(ag:Wg f m ac l)(ad:zwL f af cmp)(hp:ztw l n cmp=some rz)(hq:∀m',zq2 (zqM ac) m m'->Wn m m' ac rz.2->Q (.tup []) m'):Wc prog tbl 201 [.c ac,.c (Il n),.c af] m Q:=by
 have S0:=hS.stW ag;obtain⟨τ0,B⟩:∃τ,Wo ⟨m,zqM ac⟩ f τ m 1 ac l:=⟨_,ag.wo 1⟩;refine zvQ ?_;unfold ztw at hp;intro R0 Oa
 have ae:∀(s:Nat) (F:Int) (G:Int) (h:List Evt) (I:M) (p:Nat->Nat),St ⟨m,zqM ac⟩ f f I->Wo ⟨m,zqM ac⟩ f p I 1 ac h->ztv n cmp s F G h=some rz->R0 [.c (Il F),.c (Il G)] I:=by
  intro s
  induction s with
  | zero=>intro F G h I p g B hp; cases hp
  | succ s ba=>
   intro F G h I p g B hp;refine Oa _ _ _ ?_;rw[ztv] at hp;refine ifd hp (fun ca hp=>?_) fun ca hp=>?_
   ·obtain⟨Ua,da,hp⟩:=zqh hp;refine zxz (l:=h) (a:=F) (b:=G) (cmp:=cmp) g.pre (B.wg g) ad da fun m5 ea S=>?_;obtain⟨fa,Va,ga⟩:=B.callX g ea S;refine⟨rfl,?_⟩;refine gdi hp fun ha hp=>?_;exact ba _ _ _ _ p fa ga hp
   obtain⟨Wa,ia,hp⟩:=zqh hp;refine zxz (l:=h) (a:=F) (b:=n) (cmp:=cmp) g.pre (B.wg g) ad ia fun m7 ja T=>?_;obtain⟨ka,Xa,d⟩:=B.callX g ja T;refine⟨rfl,?_⟩;intro R8 Pa
   have ae:∀(q:Nat) (x9:Int) (J:Int) (N:Int) (O:Int) (r:Int) (t:List Evt) (y:M) (u:Nat->Nat),St ⟨m,zqM ac⟩ f f y->Wo ⟨m,zqM ac⟩ f u y 1 ac t->ztu n cmp q r t=some rz->R8 [.c (Il x9),.c (Il J),.c (Il N),.c (Il O),.c (Il r)] y:=by
    intro q
    induction q with
    | zero=>intro x9 J N O r t y u D d hp; cases hp
    | succ q P=>
     intro x9 J N O r t y u D d hp;refine Pa _ _ _ _ _ _ ?_;rw[ztu] at hp;refine ifd hp (fun ma hp=>?_) fun ma hp=>?_; rotate_left
     ·obtain rfl:=oi hp;exact hq _ D.extX d.wn
     refine gdi hp fun na hp=>?_;refine gdi hp fun oa hp=>?_;refine gdi hp fun pa hp=>?_;intro Qa qa
     have ae:∀(w:Nat) (o:Int) (z:Int) (i:List Evt) (A:M) (j:Nat->Nat),St ⟨m,zqM ac⟩ f f A->Wo ⟨m,zqM ac⟩ f j A 1 ac i->ztt n cmp r (ztu n cmp q) w o z i=some rz->Qa [.c (Il o),.c (Il z)] A:=by
      intro w
      induction w with
      | zero=>intro o z i A j e d hp; cases hp
      | succ w Y=>
       intro o z i A j e d hp;refine qa _ _ _ ?_;rw[ztt] at hp;refine ifd hp (fun sa hp=>?_) fun sa hp=>?_
       ·refine gdi hp fun ta hp=>?_;obtain⟨Za,ua,hp⟩:=zqh hp;refine zxA (l:=i) (a:=o) (m:=(o+r)) (b:=z) (cmp:=cmp) e.pre (d.wg e) ad ua fun db va Z=>?_;obtain⟨wa,ab,xa⟩:=d.callX e va Z;refine⟨rfl,?_⟩;refine gdi hp fun ya hp=>?_;refine gdi hp fun za hp=>?_;refine gdi hp fun Aa hp=>?_;refine gdi hp fun Ba hp=>?_;exact Y _ _ _ _ j wa xa hp
       refine gdi hp fun Ca hp=>?_;refine ifd hp (fun Da hp=>?_) fun Da hp=>?_; rotate_left
       ·refine gdi hp fun Ea hp=>?_;refine gdi hp fun Fa hp=>?_;refine gdi hp fun Ga hp=>?_;exact P _ _ _ _ _ _ _ j e d hp
       obtain⟨bb,Ha,hp⟩:=zqh hp;refine zxA (l:=i) (a:=o) (m:=(o+r)) (b:=n) (cmp:=cmp) e.pre (d.wg e) ad Ha fun eb Ia aa=>?_;obtain⟨Ja,cb,Ka⟩:=d.callX e Ia aa;refine⟨rfl,?_⟩;refine gdi hp fun La hp=>?_;refine gdi hp fun Ma hp=>?_;refine gdi hp fun Na hp=>?_;exact P _ _ _ _ _ _ _ j Ja Ka hp
     exact ae _ _ _ _ _ u D d hp
   exact ae _ _ _ _ _ _ _ _ p ka d hp
 exact ae _ _ _ _ _ τ0 S0 B hp
theorem zxQ{l:List Evt}{cmp:Evt->Evt->Option (Int)}{s u:C}{rz:(Unit) × List Evt}(hS:Pre f m)(w:Wg f m s l)(y:zwL f u cmp)(hp:ztx l cmp=some rz)(hq:∀m',zq2 (zqM s) m m'->Wn m m' s rz.2->Q (.tup []) m'):Wc prog tbl 192 [.c s,.c u] m Q:=by
 have e:=hS.stW w;obtain⟨q,a⟩:∃τ,Wo ⟨m,zqM s⟩ f τ m 1 s l:=⟨_,w.wo 1⟩;refine zvP ?_;unfold ztx at hp;refine⟨a.isSl,?_⟩
 try rw[a.slLen]
 obtain⟨o,g,hp⟩:=zqh hp;refine zxP (l:=l) (n:=(l.length:Int)) (cmp:=cmp) e.pre (a.wg e) y g fun r h d=>?_;obtain⟨i,p,j⟩:=a.callX e h d;refine⟨rfl,?_⟩;obtain rfl:=oi hp;exact hq _ i.extX j.wn
theorem zxR{w:Wk}{days:List Int}{ac ad ae:C}{rz:List Evt}(hS:Pre f m)(_ha102:Sl f ac w.b.Parcels)(aa:Sl f ad w.b.Entries)(af:Sl f ae days)(hp:ztz w days=some rz)(hq:∀m' f' c0,Grw m f m' f'->Sl f' c0 rz->Q (.c c0) m'):Wc prog tbl 178 [.agg 17 (xW w ac ad),.c ae] m Q:=by
 have S0:=hS.st;obtain⟨τ0,_⟩:=zr5;refine zvN ?_;unfold ztz at hp;intro m0 ja;obtain⟨ka,la,fb,J⟩:=S0.blk ja τ0 1;refine⟨trivial,trivial,_,J.bk.rc rfl,aa.isSl,?_⟩
 try rw[aa.slLen]
 obtain⟨gb,hp⟩:=zqi hp;obtain⟨n3,D⟩:∃n:Nat,(w.b.Entries.length:Int)=(n:Int):=⟨Int.toNat (w.b.Entries.length:Int),by omega⟩
 have Z:Int.toNat (w.b.Entries.length:Int)=n3:=by omega
 refine⟨0,n3,rfl,(by first|exact D|(rw[aa.slLen];exact D)),yam _,(by omega),?_⟩;intro m4 ma;obtain⟨na,oa,pa,qa⟩:=la.blk ma ka 2;have sa:=Lb.mkQ (β:=Evt) (a:=({ e:=({ Kind:=0,Parcel:=0,Other:=0,From:=0,To:=0,Part:=0,Day:=({ Lo:=0,Hi:=(0:Int) }:Rg) }:En),on:=0,makes:=(0:Int) }:Evt)) qa rfl Z;have i:=J.k pa;refine⟨trivial,trivial,_,i.bk.rc rfl,aa.isSl,?_⟩;intro R6 Ya
 have ah:∀(p:Nat) (N:C) (x8:Int) (j:List Evt) (I:M) (o:Nat->Nat),St (Fm.of m) f f I->Lb (Fm.of m) f o I 1 m.nxt 17 (xW w ac ad)->Oq (Fm.of m) f o I 2 N j (Int.toNat (w.b.Entries.length:Int))->zty w days p j x8=some rz->R6 [.c N,.c (Il x8)] I:=by
  intro p
  induction p with
  | zero=>intro N x8 j I o h i g hp; cases hp
  | succ p O=>
   intro N x8 j I o h i g hp;refine Ya _ _ _ ?_;rw[zty] at hp
   try rw[aa.slLen]
   refine ifd hp (fun ta hp=>?_) fun ta hp=>?_; rotate_left
   ·have ba:zwL f ((C.fn (Fn.func 193) [] [])) (fun q s=>ztm q s):=by
     intro f' m' q s r Q hs ag  hg hq;exact zxy ag  hg hq
    obtain⟨ib,ua,hp⟩:=zqh hp;refine zxQ (l:=j) (cmp:=(fun q s=>ztm q s)) h.pre (g.wg h) ba ua fun ob va ca=>?_;obtain⟨wa,jb,xa⟩:=g.callX h va ca;refine⟨rfl,?_⟩;obtain⟨ya,za,kb,Aa⟩:=xa.freeze wa;obtain rfl:=oi hp;exact hq _ ya N za.grw Aa
   obtain⟨d,u,hp⟩:=zqh hp;obtain⟨Za,da,F,u⟩:=zqb u;obtain⟨_,Ba⟩:=zsb aa u;refine⟨Za,da,(by first|exact F|(rw[aa.slLen];exact F)),_,_,_,_,_,_,_,_,(Ba _ h.sub).1,?_⟩;intro pb Ca;obtain⟨Da,Ea,P,Fa⟩:=h.blk Ca o 3;have Ga:=i.k P;have g:=g.k P;obtain⟨Ha,Ia,y,S,Ja⟩:=Fa.sto Ea [Il d.Kind,Il d.Parcel,Il d.Other,Il d.From,Il d.To,Il d.Part,Il d.Day.Lo,Il d.Day.Hi];have t:=Ga.k S;have g:=g.k S;refine⟨Ha,Ia,?_⟩;refine⟨trivial,trivial,?_⟩;obtain⟨mb,z,hp⟩:=zqh hp;obtain⟨ab,ea,fa,z⟩:=zqb z;refine⟨ab,ea,fa,_,(t.bk.rc (zqN (l:=([w.out.o0,w.out.o1,w.out.o2,w.out.o3,w.out.o4,w.out.o5]:List Bool)) (enc:=C.bool) 11 rfl z)),?_⟩;refine zqT hp (fun Ka hp=>?_) fun Ka hp=>?_; rotate_left
   ·refine gdi hp fun La hp=>?_;exact O _ _ _ _ Da y t g hp
   refine⟨_,_,_,_,_,_,_,_,Ja.bk.ra,?_⟩;obtain⟨T,A,hp⟩:=zqh hp;obtain⟨bb,ga,G,A⟩:=zqb A;refine⟨bb,ga,(by first|exact G|(rw[af.slLen];exact G)),_,(af.rdI A y.sub),trivial,trivial,?_⟩;obtain⟨Y,B,hp⟩:=zqh hp;obtain⟨cb,ha,ia,B⟩:=zqb B;refine⟨cb,ha,ia,_,(t.bk.rc (zqN (l:=([w.makes.m0,w.makes.m1,w.makes.m2,w.makes.m3,w.makes.m4,w.makes.m5]:List Int)) (enc:=(C.int .i64)) 5 rfl B)),?_⟩;obtain⟨Ma,hp⟩:=zqi hp;intro qb Na;obtain⟨Oa,Pa,Qa,Ra,Sa,Ta,Ua⟩:=g.app' zxO y (a:=({ e:=d,on:=T,makes:=Y }:Evt)) (show Rp.rep (α:=Evt) f _ ({ e:=d,on:=T,makes:=Y }:Evt) from rfl) Ma Na;have Va:=t.k Ta;refine⟨Oa,Pa,Ra,?_⟩;refine gdi hp fun Wa hp=>?_;exact O _ _ _ _ Qa Sa Va Ua hp
 exact ah _ _ _ _ _ na oa i sa hp
theorem zxS{w:Wk}{t:Tr}{day:Int}{ad ae af ag:C}{rz:List Pl × Bool}(hS:Pre f m)(ah:Sl f ad w.b.Parcels)(ai:Sl f ae w.b.Entries)(aj:Sl f af t.Days)(ak:Sl f ag t.Sown)(hp:ztB w t day=some rz)(hq:∀m',Ext m m'->Q (.tup [.agg 50 (zsf rz.1),.c (.bool rz.2)]) m'):Wc prog tbl 157 [.agg 17 (xW w ad ae),.agg 2 [af,ag],.c (Il day)] m Q:=by
 have S0:=hS.st;obtain⟨τ0,_⟩:=zr5;refine zwA ?_;unfold ztB at hp;intro m0 Ea;obtain⟨Fa,Ga,pc,Ha⟩:=S0.blk Ea τ0 1;intro m1 Ia;obtain⟨Ja,Ka,La,Ma⟩:=Ga.blk Ia Fa 2;have Na:=Ha.k La;intro m2 Oa;obtain⟨ha,ia,ja,G⟩:=Ka.blk Oa Ja 3
 replace G:Lb _ _ _ _ _ _ _ (zsf (List.replicate 10 ({ owner:=0,value:=0,there:=false,harvested:=false,sown:=(0:Int) }:Pl))):=G
 have ka:=Na.k ja;have la:=Ma.k ja;refine⟨_,_,_,_,_,_,_,_,_,_,_,_,_,_,_,_,_,ka.bk.ra,trivial,_,la.bk.rc rfl,?_⟩;obtain⟨Pa,Qa,hp⟩:=zqh hp;refine zxv (w:=w) (sown:=t.Sown) ia.pre ah ai ak Qa fun ic Ra=>?_;obtain⟨Sa,I⟩:=ia.call Ra ha;have Ta:=ka.k I;have Ua:=la.k I;have Va:=G.k I;refine⟨_,rfl,?_⟩;intro zc Wa;obtain⟨ma,Xa,J,N⟩:=Sa.blk Wa ha 4
 replace N:Lb _ _ _ _ _ _ _ (zsf (List.replicate 10 ({ owner:=0,value:=0,there:=false,harvested:=false,sown:=(0:Int) }:Pl))):=N
 have Ya:=Ta.k J;have Za:=Ua.k J;have ab:=Va.k J;obtain⟨bb,cb,db,O,na⟩:=N.sto Xa (zsf Pa);have eb:=Ya.k O;have fb:=Za.k O;have gb:=ab.k O;refine⟨bb,cb,?_⟩;refine⟨0,10,rfl,rfl,_,zra (by decide),0,10,rfl,rfl,_,zra (by decide),?_⟩;obtain⟨qc,hp⟩:=zqi hp;obtain⟨hb,Aa,oa,P,ib⟩:=gb.cpA zxN db na.bk (by rw[zsh]; omega) (by rw[zsh]; omega) (n:=10) (by decide) (by decide);refine⟨_,hb,Aa,?_⟩;have pa:=eb.k P;have qa:=fb.k P;have jb:=na.k P;refine⟨_,_,_,_,_,_,_,_,_,_,_,_,_,_,_,_,_,pa.bk.ra,trivial,_,qa.bk.rc rfl,?_⟩;obtain⟨kb,mb,hp⟩:=zqh hp;refine zxR (w:=w) (days:=t.Days) oa.pre ah ai aj mb fun Ac sa sc ob p=>?_;obtain⟨pb,q⟩:=oa.callG ob ma;have r:=pa.k q;have s:=qa.k q;have i:=ib.k q;have u:=jb.k q;refine⟨_,rfl,p.isSl,?_⟩;intro jc qb
 have am:∀(y:Nat) (ta:Bool) (ea:Int) (o:List Pl) (z:List Pl) (j:M) (d:M) (g:Nat->Nat),St (Fm.of m) f d j->Sub sa d->Lb (Fm.of m) d g j 1 m.nxt 17 (xW w ad ae)->Lb (Fm.of m) d g j 2 m0.nxt 2 [af,ag]->Lb (Fm.of m) d g j 3 m1.nxt 50 (zsf o)->Lb (Fm.of m) d g j 4 ic.nxt 50 (zsf z)->ztA day kb y o z ea=some rz->jc [.c (.bool ta),.c (Il ea)] j:=by
  intro y
  induction y with
  | zero=>intro ta ea o z j d g A l r s i u hp; cases hp
  | succ y fa=>
   intro ta ea o z j d g A l r s i u hp;refine qb _ _ _ ?_;rw[ztA] at hp
   try rw[p.slLen]
   refine ifd hp (fun rb hp=>?_) fun rb hp=>?_; rotate_left
   ·refine⟨_,i.bk.ra,?_⟩;obtain⟨sb,tb,ub,tc,vb⟩:=i.sto A (zsf o);refine⟨sb,tb,?_⟩;refine⟨_,vb.bk.ra,?_⟩;obtain rfl:=oi hp;exact hq _ ub.ext'
   obtain⟨a,S,hp⟩:=zqh hp;obtain⟨kc,Ba,ga,S⟩:=zqb S;obtain⟨_,wb⟩:=zsi p S;refine⟨kc,Ba,(by first|exact ga|(rw[p.slLen];exact ga)),_,_,_,_,_,_,_,_,_,_,(wb _ (Sub.trans l A.sub)).1,?_⟩;intro Bc xb;obtain⟨T,yb,B,zb⟩:=A.blk xb g 5;have Ab:=r.k B;have Bb:=s.k B;have Cb:=i.k B;have Db:=u.k B;obtain⟨Eb,Fb,ua,D,Y⟩:=zb.sto yb [Il a.e.Kind,Il a.e.Parcel,Il a.e.Other,Il a.e.From,Il a.e.To,Il a.e.Part,Il a.e.Day.Lo,Il a.e.Day.Hi,Il a.on,Il a.makes];have Gb:=Ab.k D;have Hb:=Bb.k D;have Ib:=Cb.k D;have Jb:=Db.k D;refine⟨Eb,Fb,?_⟩;refine⟨trivial,trivial,_,Y.bk.rc rfl,?_⟩;obtain⟨uc,Kb,hp⟩:=zqh hp;refine zxB (n:=a.e.Kind) ua.pre  Kb fun Cc va vc Mb Nb=>?_;obtain⟨Z,h⟩:=ua.callG Mb T;have Ob:=Gb.k h;have Pb:=Hb.k h;have Qb:=Ib.k h;have wa:=Jb.k h;have xa:=Y.k h;refine⟨_,rfl,_,_,_,_,_,_,_,_,_,_,xa.bk.ra,(Y.bk.ra),?_⟩;obtain⟨wc,Rb,hp⟩:=zqh hp;refine Nb _ _ _ _ _ _ _ (Sub.refl _) Z.pre (wa.lc Z)  Rb fun Dc Sb Ca=>?_;obtain⟨aa,F,ba⟩:=wa.callX Z Sb Ca;have ya:=Ob.k F;have za:=Pb.k F;have ca:=Qb.k F;have Tb:=xa.k F;refine⟨_,rfl,?_⟩;refine zqT hp (fun Ub hp=>?_) fun Ub hp=>?_
   ·obtain⟨Vb,Wb,Xb,xc,Yb⟩:=ca.sto aa (zsf (List.replicate 10 ({ owner:=0,value:=0,there:=false,harvested:=false,sown:=(0:Int) }:Pl)));refine⟨Vb,Wb,?_⟩;refine⟨_,Yb.bk.ra,?_⟩;obtain rfl:=oi hp;exact hq _ Xb.ext'
   refine⟨trivial,_,Tb.bk.rc rfl,?_⟩;refine ifd hp (fun Zb hp=>?_) fun Zb hp=>?_; rotate_left
   ·refine gdi hp fun ac hp=>?_;exact fa _ _ _ _ _ va T aa (Sub.trans l h.fs) ya za ca ba hp
   refine⟨0,10,rfl,rfl,_,zra (by decide),0,10,rfl,rfl,_,zra (by decide),?_⟩;obtain⟨yc,hp⟩:=zqi hp;obtain⟨bc,Da,cc,da,dc⟩:=ca.cpA zxN aa ba.bk (by rw[zsh]; omega) (by rw[zsh]; omega) (n:=10) (by decide) (by decide);refine⟨_,bc,Da,?_⟩;have ec:=ya.k da;have fc:=za.k da;have gc:=ba.k da;refine gdi hp fun hc hp=>?_;exact fa _ _ _ _ _ va T cc (Sub.trans l h.fs) ec fc dc gc hp
 exact am _ _ _ _ _ _ sa ma pb (Sub.refl _) r s i u hp
theorem zxT{b:Boo}{t:Tr}{day:Int}{ad ae af ag:C}{rz:List Hd × Int}(hS:Pre f m)(ah:Sl f ad b.Parcels)(ai:Sl f ae b.Entries)(aj:Sl f af t.Days)(ak:Sl f ag t.Sown)(hp:ztD b t day=some rz)(hq:∀m' f' c0,Grw m f m' f'->Sl f' c0 rz.1->Q (.tup [.c c0,.c (Il rz.2)]) m'):Wc prog tbl 118 [.agg 4 [Il b.Last,Il b.Owners,ad,ae],.agg 2 [af,ag],.c (Il day)] m Q:=by
 have S0:=hS.st;obtain⟨τ0,_⟩:=zr5;refine zwu ?_;unfold ztD at hp;intro m0 Ra;obtain⟨Sa,Ta,Hc,Ua⟩:=S0.blk Ra τ0 1;intro m1 Va;obtain⟨aa,qa,Wa,Xa⟩:=Ta.blk Va Sa 2;have sa:=Ua.k Wa;refine⟨_,_,_,_,sa.bk.ra,?_⟩;obtain⟨Ic,Ya,hp⟩:=zqh hp;refine zxm (b:=b) qa.pre ah ai Ya fun m7 Za=>?_;obtain⟨ba,ta⟩:=qa.call Za aa;have ua:=sa.k ta;have ab:=Xa.k ta;refine⟨_,rfl,?_⟩;refine zqR hp (fun bb hp=>?_) fun bb hp=>?_
 ·obtain rfl:=oi hp;exact hq _ f .sl0 ba.grw (Sl.nil _)
 refine⟨_,_,_,_,ua.bk.ra,?_⟩;obtain⟨d,cb,hp⟩:=zqh hp;refine zxi (b:=b) ba.pre ah ai cb fun xc g va wa db ca da=>?_;obtain⟨eb,q⟩:=ba.callG db aa;have fb:=ua.k q;have gb:=ab.k q;refine⟨_,_,_,_,_,_,_,_,_,_,_,_,_,_,_,_,_,rfl,?_⟩;intro Tc hb;obtain⟨B,ib,xa,jb⟩:=eb.blk hb aa 3;have kb:=fb.k xa;have mb:=gb.k xa;obtain⟨ob,pb,ya,za,Aa⟩:=jb.sto ib (xW d va wa);have qb:=kb.k za;have Ba:=mb.k za;refine⟨ob,pb,?_⟩;refine⟨_,_,_,_,_,_,_,_,_,_,_,_,_,_,_,_,_,Aa.bk.ra,_,_,Ba.bk.ra,?_⟩;obtain⟨Jc,rb,hp⟩:=zqh hp;refine zxn (w:=d) (t:=t) ya.pre ca da (aj.sub q.fs) (ak.sub q.fs) rb fun Uc sb=>?_;obtain⟨ea,fa⟩:=ya.call sb B;have tb:=qb.k fa;have ub:=Ba.k fa;have Ca:=Aa.k fa;refine⟨_,rfl,?_⟩;refine zqT hp (fun vb hp=>?_) fun vb hp=>?_
 ·obtain rfl:=oi hp;exact hq _ g .sl0 ea.grw (Sl.nil _)
 refine⟨_,_,_,_,_,_,_,_,_,_,_,_,_,_,_,_,_,Ca.bk.ra,?_⟩;obtain⟨Kc,wb,hp⟩:=zqh hp;refine zw4 (w:=d) (n:=day) ea.pre ca da wb fun Vc xb=>?_;obtain⟨ga,ha⟩:=ea.call xb B;have yb:=tb.k ha;have Da:=ub.k ha;have Ea:=Ca.k ha;refine⟨_,rfl,?_⟩;refine zqT hp (fun zb hp=>?_) fun zb hp=>?_
 ·obtain rfl:=oi hp;exact hq _ g .sl0 ga.grw (Sl.nil _)
 refine⟨_,_,_,_,_,_,_,_,_,_,_,_,_,_,_,_,_,Ea.bk.ra,_,_,Da.bk.ra,?_⟩;obtain⟨D,Ab,hp⟩:=zqh hp;refine zxS (w:=d) (t:=t) (day:=day) ga.pre ca da (aj.sub q.fs) (ak.sub q.fs) Ab fun yc Bb=>?_;obtain⟨Cb,ia⟩:=ga.call Bb B;have Db:=yb.k ia;have Eb:=Da.k ia;have Fb:=Ea.k ia;refine⟨_,_,rfl,?_⟩;intro Xc Gb;obtain⟨Hb,Ib,ja,ka⟩:=Cb.blk Gb B 4
 replace ka:Lb _ _ _ _ _ _ _ (zsf (List.replicate 10 ({ owner:=0,value:=0,there:=false,harvested:=false,sown:=(0:Int) }:Pl))):=ka
 have Jb:=Db.k ja;have Kb:=Eb.k ja;have Mb:=Fb.k ja;obtain⟨la,Nb,Fa,ma,Ob⟩:=ka.sto Ib (zsf D.1);have Pb:=Jb.k ma;have Qb:=Kb.k ma;have Ga:=Mb.k ma;refine⟨la,Nb,?_⟩;refine zqT hp (fun Rb hp=>?_) fun Rb hp=>?_
 ·obtain rfl:=oi hp;exact hq _ g .sl0 Fa.grw (Sl.nil _)
 refine⟨trivial,_,Ga.bk.rc rfl,?_⟩;obtain⟨Nc,hp⟩:=zqi hp;obtain⟨o,na⟩:∃n:Nat,d.numbers=(n:Int):=⟨Int.toNat d.numbers,by omega⟩
 have Ka:Int.toNat d.numbers=o:=by omega
 refine⟨o,o,na,na,yac _,(by omega),?_⟩;intro Oc Sb;obtain⟨Tb,Ub,F,Vb⟩:=Fa.blk Sb Hb 5;have e:=Lb.mkS (β:=Hd) (a:=({ There:=false,Covered:=false,Owner:=0,Value:=(0:Int) }:Hd)) Vb rfl Ka;have G:=Pb.k F;have I:=Qb.k F;have J:=Ga.k F;have u:=Ob.k F;refine⟨e.isSl,?_⟩;intro Wb La
 have am:∀(N:Nat) (r:Int) (s:List Hd) (i:M) (j:Nat->Nat),St (Fm.of m) f g i->Lb (Fm.of m) g j i 1 m.nxt 4 [Il b.Last,Il b.Owners,ad,ae]->Lb (Fm.of m) g j i 2 m0.nxt 2 [af,ag]->Lb (Fm.of m) g j i 3 xc.nxt 17 (xW d va wa)->Lb (Fm.of m) g j i 4 yc.nxt 50 (zsf D.1)->Ow (Fm.of m) g j i 5 (.sl la.nxt 0 o 0 (some o)) s->ztC day D N r s=some rz->Wb [.c (Il r)] i:=by
  intro N
  induction N with
  | zero=>intro r s i j O G I J u e hp; cases hp
  | succ N Ha=>
   intro r s i j O G I J u e hp;refine La _ _ ?_;rw[ztC] at hp
   try rw[e.slLen]
   refine ifd hp (fun Xb hp=>?_) fun Xb hp=>?_; rotate_left
   ·obtain⟨Yb,Zb,Qc,ac⟩:=e.freeze O;obtain rfl:=oi hp;exact hq _ Yb (.sl la.nxt 0 o 0 (some o)) Zb.grw ac
   refine⟨trivial,?_⟩;obtain⟨bc,hp⟩:=zqi hp;obtain⟨Ia,Ma,Na⟩:=zqO bc;obtain⟨cc,hp⟩:=zqi hp
   have Oa:D.1.length * 5=50:=by rw[cc]
   obtain⟨dc,P,hp⟩:=zqh hp;obtain⟨Pa,Ac,Bc,P⟩:=zqb P
   have Qa:Pa=Ia:=by omega
   rw[Qa] at P;refine⟨Ia,Ma,Na,_,_,_,_,_,(u.bk.rs zsg Oa P),?_⟩;obtain⟨l,ec,hp⟩:=zqh hp;refine zxq (p:=dc) (day:=day) O.pre  ec fun Rc fc=>?_;obtain⟨gc,y⟩:=O.call fc j;have hc:=G.k y;have ic:=I.k y;have jc:=J.k y;have kc:=u.k y;have e:=e.k y;refine⟨_,_,_,_,rfl,?_⟩;obtain⟨S,A,hp⟩:=zqh hp;obtain⟨T,Y,oa,A⟩:=zqb A;refine⟨T,Y,(by first|exact oa|(rw[e.slLen];exact oa)),?_⟩;obtain⟨nc,oc,pc,Z,Ja⟩:=e.setP gc (a':=l) A [.bool S.There,.bool S.Covered,Il S.Owner,Il S.Value] (fun _ h=>h) 0 [.bool l.There,.bool l.Covered,Il l.Owner,Il l.Value] (yaj rfl) rfl
   have pa:Int.toNat r=T:=by rw[Y]; rfl
   rw[<- pa] at Ja;have Cc:=Y;have qc:(s.set (Int.toNat r) l)[T]? = some l:=(congrArg (fun z=>(s.set z l)[T]?) pa).trans (yaU (yah.1 A).1);have Dc:=(yah.1 qc).1;have sc:=hc.k Z;have tc:=ic.k Z;have uc:=jc.k Z;have vc:=kc.k Z;refine⟨nc,(by have h9:=oc; rw[e.add0 A] at h9; exact h9),?_⟩;refine gdi hp fun wc hp=>?_;exact Ha _ _ _ j pc sc tc uc vc Ja hp
 exact am _ _ _ _ Tb Ub G I J u e hp
end
theorem zxU(y:C)(b b2:Nat){m:M}{Q:V->M->Prop}(h:(∀e:M,(e=M.new m (AO.cells 1 [y] false))->∃g,ldC e (.ptr b 0)=some (Il g)/\∃i:Nat,∃a:Nat,g=((i:Nat):Int)/\g=((a:Nat):Int)/\i<=a/\a<=4096/\∀f:M,(f=M.new e (AO.cells (a * 1) (zaJ [Il 0] a) false))->∀l:M,(l=M.new f (AO.cells 1 [C.sl0] false))->∃d:M,stC l (.ptr f.nxt 0) 1 [.sl e.nxt 0 i 0 (some a)]=some d/\∀o:M,(o=M.new d (AO.cells 1 [C.nilFn] false))->∃j:M,stC o (.ptr d.nxt 0) 1 [(C.fn (Fn.func 174) [] [(W.c (C0.ptr b 0)),(W.c (C0.ptr m.nxt 0)),(W.c (C0.ptr f.nxt 0)),(W.c (C0.ptr b2 0)),(W.c (C0.ptr d.nxt 0))])]=some j/\∃p,ldC j (.ptr d.nxt 0)=some p/\zmr prog tbl [.c (Il 0),(.c (Il 0))] p j (fun q r=>∃s,q=.c (.bool s)/\Q (.tup []) r))):Wc prog tbl 173 [.c y,.c (.ptr b 0),.c (.ptr b2 0)] m Q:=yww (n:=3) h
theorem zxV(at' from':Int)(b k h2 b2 cv:Nat){m:M}{Q:V->M->Prop}(h:(∃q,ldC m (.ptr b 0)=some (Il q)/\ifB (decide (at'=q)) (∃r,ldC m (.ptr k 0)=some r/\∃s,ldC m (.ptr h2 0)=some s/\zmr prog tbl [.c s] r m (fun y z=>∃t,y=.c (.bool t)/\Q (.c (.bool t)) z)) (∀p:List V->M->Prop,(∀u:Bool,∀a:Int,∀d:M,(∃i,ldC d (.ptr b2 0)=some (Il i)/\ifB (decide (a < i)) (∃e,ldC d (.ptr h2 0)=some e/\∃f:Nat,at'=((f:Nat):Int)/\f < (slLen e)/\∃g:M,stC d (zl4 e (f * 1)) 1 [Il a]=some g/\∃j,ldC g (.ptr cv 0)=some j/\zl2 .i64 (at'+(1:Int))/\zl2 .i64 (a+1)/\zmr prog tbl [.c (Il (at'+(1:Int))),(.c (Il (a+1)))] j g (fun w l=>∃o,w=.c (.bool o)/\ifB (!o) (Q (.c (.bool false)) l) (zl2 .i64 (a+1)/\p [.c (.bool u),(.c (Il (a+1)))] l))) (Q (.c (.bool true)) d))->p [.c (.bool u),(.c (Il a))] d)->p [.c (.bool false),(.c (Il from'))] m))):Wc prog tbl 174 [.c (Il at'),.c (Il from'),.c (.ptr b 0),.c (.ptr k 0),.c (.ptr h2 0),.c (.ptr b2 0),.c (.ptr cv 0)] m Q:=yww (n:=7) h
theorem t22:tk prog 22=.sl 3:=by kernel_rfl
theorem g3:zct prog 3=true:=by kernel_rfl
theorem z3:prog.cellsOf 3=1:=by kernel_rfl
theorem zxW{P:List Int}{p:Nat}(hp:p < P.length)(n:Int):(P.set p n).take (p+1)=P.take p++[n]:=by
 rw[ybx,yaU hp,ybH (yac _)]; rfl
theorem _root_.Go.Abs.Chg.trans{S S1:Nat->Prop}{T:Nat->Prop}{m m1 m2:M}(h1:Chg (fun b=>S b\/T b) m m1)(h2:Chg (fun b=>S1 b\/T b) m1 m2)(ho:Own S m S1):Chg (fun b=>S b\/T b) m m2:=
 ⟨yad h1.nxt h2.nxt,fun b hb hS=>by
  rw[h2.g b (yaf hb h1.nxt) fun h=>h.elim (fun h3=>(ho b h3).elim (fun h4=>hS (.inl h4)) fun h4=>by omega) fun h3=>hS (.inr h3)]
  exact h1.g b hb hS,h2.vw.trans h1.vw⟩
theorem _root_.Go.Abs.Own.refl(S:Nat->Prop)(m:M):Own S m S:=fun _ hb=>.inl hb
theorem _root_.Go.Abs.Own.trans{S S1 S2:Nat->Prop}{m m1:M}(h1:Own S m S1)(h2:Own S1 m1 S2)(hn:m.nxt<=m1.nxt):Own S m S2:=fun b hb=>(h2 b hb).elim (h1 b) fun h=>.inr (by omega)
theorem _root_.Go.Abs.Chg.or{S T:Nat->Prop}{m m':M}(h:Chg S m m'):Chg (fun b=>S b\/T b) m m':=⟨h.nxt,fun b hb hS=>h.g b hb fun h2=>hS (.inl h2),h.vw⟩
theorem zxX(L:List Int)(i:Nat)(v:Int):(zp4 L).set i (.int .i64 v)=zp4 (L.set i v):=by unfold zp4; rw[List.map_set]
theorem zxY{n:Int}(h1:-1000000<=n)(h2:n<=1000000):zl2 .i64 n:=by simp only[zl2]; omega
theorem zxZ{α:Type}(g:Nat->List α)(a:α):∀(e n:Nat),a∈zru g e n↔∃j,n<=j/\j < n+e/\a∈g j
 | 0,n=>⟨fun h=>(by cases h),fun⟨j,h1,h2,_⟩=>by omega⟩
 | e+1,n=>by
  show a∈g n++zru g e (n+1)↔_
  rw[yaL,zxZ g a e (n+1)]
  constructor
  ·rintro (h | ⟨j,h1,h2,h3⟩)
   ·exact⟨n,yac _,by omega,h⟩
   ·exact⟨j,by omega,by omega,h3⟩
  ·rintro⟨j,h1,h2,h3⟩
   by_cases hj:j=n
   ·subst hj; exact .inl h3
   ·exact .inr ⟨j,by omega,by omega,h3⟩
def hdr(bl size:Nat):C:=.sl bl 0 size 0 (some size)
def flC(b k h2 b2 cv:Nat):C:=.fn (.func 174) [] [.c (.ptr b 0),.c (.ptr k 0),.c (.ptr h2 0),.c (.ptr b2 0),.c (.ptr cv 0)]
def VsL(all:List (List Int))(n1 i:Nat)(x:List V)(m:M):Prop:=∃L c,all[i]? = some L/\x=[.c c]/\Li m c L/\(zl5 c=false/\zqa c 1 L.length)/\∀b o n s d,c=.sl b o n s d->n1<=b
theorem _root_.Go.Abs.Bk.st1n{m:M}{b n:Nat}{vs:List C}(h:Bk m b n vs){k:Nat}(c:C)(hk:k < vs.length)(hn:vs.length=n):stC m (.ptr b (0+k * 1)) 1 [c]=some (m.set b (.cells n (vs.set k c) false)):=by
 rw[show 0+k * 1=k by omega]
 by_cases h1:n=1
 ·subst h1
  have i:k=0:=by omega
  subst i
  have:vs.set 0 c=[c]:=by
   match vs,hn with
   | [a],_=>rfl
  rw[this];exact zpW h.g [c]
 ·exact zpX h.g c hk hn h1
theorem zx0(n:Nat):zaJ [C.int .i64 0] n=zp4 (List.replicate n 0):=by rw[zey]; simp[zp4]
structure SlF (n size b b2 l k h2 bl cv:Nat) (S:Nat->Prop) (m:M) (P:List Int):Prop where
 bb:Bk m b 1 [.int .i64 (size:Int)]
 nn:Bk m b2 1 [.int .i64 (n:Int)]
 kk:Bk m k 1 [.fn (.yield l) [] []]
 hh:Bk m h2 1 [hdr bl size]
 ll:Bk m bl size (zp4 P)
 cc:Bk m cv 1 [flC b k h2 b2 cv]
 ss:∀b',S b'->b' ≠ b/\b' ≠ b2/\b' ≠ k/\b' ≠ h2/\b' ≠ bl/\b' ≠ cv
 ne:b ≠ bl/\b2 ≠ bl/\k ≠ bl/\h2 ≠ bl/\cv ≠ bl
variable {n size b b2 l k h2 bl cv:Nat}
theorem SlF.to{S S':Nat->Prop}{m m':M}{P:List Int}(h:SlF n size b b2 l k h2 bl cv S m P)(hn:Chg S m m')(ho:Own S m S'):SlF n size b b2 l k h2 bl cv S' m' P:=by
 have tr:∀{b' j:Nat} {vs:List C},Bk m b' j vs->¬ S b'->Bk m' b' j vs:=fun hb hS=>⟨(hn.g _ hb.lt hS).trans hb.g,yaf hb.lt hn.nxt⟩;refine⟨tr h.bb fun h1=>(h.ss _ h1).1 rfl,tr h.nn fun h1=>(h.ss _ h1).2.1 rfl,tr h.kk fun h1=>(h.ss _ h1).2.2.1 rfl,tr h.hh fun h1=>(h.ss _ h1).2.2.2.1 rfl,tr h.ll fun h1=>(h.ss _ h1).2.2.2.2.1 rfl,tr h.cc fun h1=>(h.ss _ h1).2.2.2.2.2 rfl,fun b' hb=>?_,h.ne⟩
 rcases ho b' hb with h1 | h1
 ·exact h.ss b' h1
 ·have:=h.bb.lt; have:=h.nn.lt; have:=h.kk.lt; have:=h.hh.lt; have:=h.ll.lt; have:=h.cc.lt
  omega
theorem SlF.set{S:Nat->Prop}{m:M}{P:List Int}(h:SlF n size b b2 l k h2 bl cv S m P)(P':List Int):SlF n size b b2 l k h2 bl cv S (m.set bl (.cells size (zp4 P') false)) P':=
 ⟨h.bb.setNe h.ne.1 _,h.nn.setNe h.ne.2.1 _,h.kk.setNe h.ne.2.2.1 _,h.hh.setNe h.ne.2.2.2.1 _,h.ll.set _,h.cc.setNe h.ne.2.2.2.2 _,h.ss,h.ne⟩
theorem SlF.li{S:Nat->Prop}{m:M}{P:List Int}(h:SlF n size b b2 l k h2 bl cv S m P)(hP:P.length=size):Li m (hdr bl size) P:=by
 refine⟨by rw[zp5]; omega,.inr ⟨bl,0,0,some size,by rw[hP]; rfl,h.ll.lt,fun _=>.inl ⟨size,zp4 P,false,h.ll.g,by rw[zp5]; exact hP,by rw[zp5]; omega,by rw[yau,ybc]⟩⟩⟩
theorem zx1{n0 n1:Nat}(hn:n<=1000)(ax:size<=1000)(ay:n0<=bl)(ap:n1<=bl){all:List (List Int)}{I:Nat->(Nat->Prop)->M->Prop}{E:(Nat->Prop)->M->Prop}(ae:zqW prog tbl n0 l (VsL all n1) I E) :
  ∀(d p:Nat),d+p=size->∀(i fr:Nat) (S:Nat->Prop) (m:M) (P:List Int) (Q:V->M->Prop),SlF n size b b2 l k h2 bl cv S m P->P.length=size ->
   (∀j L,(zrv n d (P.take p) fr)[j]? = some L->all[i+j]? = some L)->I i S m ->
   (∀S' m' P',Own S m S'->Chg (fun b'=>S b'\/b'=bl) m m'->SlF n size b b2 l k h2 bl cv S' m' P'->P'.length=size->P'.take p=P.take p->I (i+(zrv n d (P.take p) fr).length) S' m'->Q (.c (.bool true)) m') ->
   (∀S' m',Own S m S'->Chg (fun b'=>S b'\/b'=bl) m m'->E S' m'->Q (.c (.bool false)) m') ->
   Wc prog tbl 174 [.c (.int .i64 (p:Int)),.c (.int .i64 (fr:Int)),.c (.ptr b 0),.c (.ptr k 0),.c (.ptr h2 0),.c (.ptr b2 0),.c (.ptr cv 0)] m Q:=by
 intro d
 induction d with
 | zero=>
  intro p hp i fr S m P Q q hP G hI hT hF;refine zxV (p:Int) (fr:Int) b k h2 b2 cv ⟨_,q.bb.rc rfl,?_⟩;rw[zpH];refine⟨fun _=>⟨_,q.kk.rc rfl,_,q.hh.rc rfl,?_⟩,fun h1=>absurd (by omega) h1⟩;have af:=G 0 (P.take p) rfl;rw[yaw (by omega),ybQ] at af
  show Wy prog tbl l [.c (hdr bl size)] m _
  refine ae.yield i _ S m ⟨P,hdr bl size,af,rfl,q.li hP,⟨rfl,.inr (.inl ⟨bl,0,0,size,by rw[hP]; rfl,by omega⟩)⟩,fun b' o n' s d h=>by cases h; exact ap⟩ hI _ (fun S' m' ho u Y=>⟨_,rfl,?_⟩) fun S' m' ho u hE=>⟨_,rfl,hF S' m' ho (Chg.or u) hE⟩;exact hT S' m' P ho (Chg.or u) (q.to u ho) hP rfl Y
 | succ d ih=>
  intro p hp i fr S m P Q q hP G hI hT hF;refine zxV (p:Int) (fr:Int) b k h2 b2 cv ⟨_,q.bb.rc rfl,?_⟩;rw[zpH];refine⟨fun h1=>by omega,fun _ R6 J=>?_⟩
  let g:Nat->List (List Int):=fun x=>zrv n d (P.take p++[(x:Int)]) (x+1)
  have aq:zrv n (d+1) (P.take p) fr=zru g (n - fr) fr:=rfl;rw[aq] at G hT
  have ar:∀(e x:Nat) (b7:Bool) (m9:M) (S1:Nat->Prop) (P1:List Int) (i1:Nat),n - x=e->Own S m S1->Chg (fun b'=>S b'\/b'=bl) m m9->SlF n size b b2 l k h2 bl cv S1 m9 P1->P1.length=size->P1.take p=P.take p->I i1 S1 m9 ->
    i1+(zru g e x).length=i+(zru g (n - fr) fr).length->(∀j L,(zru g e x)[j]? = some L->all[i1+j]? = some L)->R6 [.c (.bool b7),.c (.int .i64 (x:Int))] m9:=by
   intro e
   induction e with
   | zero=>
    intro x b7 m9 S1 P1 i1 au ho u a N O Z y A;refine J _ _ _ ⟨_,a.nn.rc rfl,?_⟩;rw[zpH];refine⟨fun h1=>by omega,fun _=>hT S1 m9 P1 ho u a N O ?_⟩;have:i1+0=_:=y;rw[<- this,ybQ]; exact Z
   | succ e ihe=>
    intro x b7 m9 S1 P1 i1 au ho u a N O Z y A;refine J _ _ _ ⟨_,a.nn.rc rfl,?_⟩;rw[zpH];refine⟨fun _=>?_,fun h1=>absurd (by omega) h1⟩
    have ag:p < P1.length:=by omega
    refine⟨_,a.hh.rc rfl,p,rfl,(by show p < size; omega),_,a.ll.st1n _ (by rw[zp5]; exact ag) (by rw[zp5]; exact N),?_⟩;rw[zxX];have D:=a.set (P1.set p (x:Int));have aa:Chg (fun b'=>S1 b'\/b'=bl) m9 (m9.set bl (.cells size (zp4 (P1.set p (x:Int))) false)):=⟨yac _,fun b' _ hS=>by rw[M.g_set,yaa fun h1=>hS (.inr h1)],rfl⟩;have ah:I i1 S1 (m9.set bl (.cells size (zp4 (P1.set p (x:Int))) false)):=(ae.li i1).st _ _ _ Z (yac _) rfl (fun b' hb=>by rw[M.g_set,yaa (a.ss b' hb).2.2.2.2.1]) (fun b' hb=>by rw[M.g_set,yaa (by omega)]);have w:=Chg.trans (T:=fun b'=>b'=bl) u aa ho;generalize m9.set bl (.cells size (zp4 (P1.set p (x:Int))) false)=ai at D aa ah w
    have aj:(P1.set p (x:Int)).length=size:=by rw[yaC]; exact N
    have ab:(P1.set p (x:Int)).take (p+1)=P.take p++[(x:Int)]:=by rw[zxW ag,O]
    have ac:(P1.set p (x:Int)).take p=P.take p:=by rw[ybH (yac _),O]
    generalize P1.set p (x:Int)=P2 at D ab ac aj;have av:zru g (e+1) x=g x++zru g e (x+1):=rfl
    have hg:g x=zrv n d (P2.take (p+1)) (x+1):=by rw[ab]
    rw[av,hg] at y A;rw[yai] at y;refine⟨_,D.cc.rc rfl,zxY (by omega) (by omega),zxY (by omega) (by omega),?_⟩
    show Wc prog tbl 174 [.c (.int .i64 ((p+1:Nat):Int)),.c (.int .i64 ((x+1:Nat):Int)),.c (.ptr b 0),.c (.ptr k 0),.c (.ptr h2 0),.c (.ptr b2 0),.c (.ptr cv 0)] ai _
    refine ih (p+1) (by omega) i1 (x+1) S1 ai P2 _ D aj (fun j H hj=>A j H (by rw[yb0 (yah.1 hj).1]; exact hj)) ah (fun S' m' P' ad F ak aw am Y=>⟨_,rfl,?_⟩) fun S' m' ad F hE=>⟨_,rfl,?_⟩
    ·have ao:P'.take p=P.take p:=by
      have h1:=congrArg (List.take p) am;rw[yaH,yaH,yaS (by omega)] at h1;rw[h1,ac]
     refine⟨zxY (by omega) (by omega),ihe (x+1) b7 m' S' P' _ (by omega) (Own.trans ho ad w.nxt) (Chg.trans (T:=fun b'=>b'=bl) w F ho) ak aw ao Y (by omega) fun j H hj=>?_⟩;rw[ybN];exact A _ H (by rw[ybv (by omega),yca]; exact hj)
    ·exact hF S' m' (Own.trans ho ad w.nxt) (Chg.trans (T:=fun b'=>b'=bl) w F ho) hE
  exact ar (n - fr) fr false m S P i rfl (Own.refl S m) ⟨yac _,fun _ _ _=>rfl,rfl⟩ q hP rfl hI rfl G
theorem zx2(hn:n<=1000)(D:size<=1000):zqX prog tbl (.fn (.func 173) [] [.c (.ptr b 0),.c (.ptr b2 0)]) (zrv n size [] 0).length (VsL (zrv n size [] 0)) (fun b'=>b'=b\/b'=b2) (fun m=>Bk m b 1 [.int .i64 (size:Int)]/\Bk m b2 1 [.int .i64 (n:Int)]):=by
 refine⟨fun m m' h w hv hg=>⟨⟨(hg b (.inl rfl)).trans h.1.g,yaf h.1.lt w⟩,⟨(hg b2 (.inr rfl)).trans h.2.g,yaf h.2.lt w⟩⟩,fun m h b' hb=>hb.elim (fun h1=>h1 ▸ h.1.lt) fun h1=>h1 ▸ h.2.lt,fun F l I E S m a P hI hR G Q hQ=>?_⟩;have i:=(a.li 0).lt _ _ hI;have hb:=hR.1.lt;have Y:=hR.2.lt
 show Wc prog tbl 173 [.c (.fn (.yield l) [] []),.c (.ptr b 0),.c (.ptr b2 0)] m Q
 refine zxU _ b b2 fun m0 e0=>?_;obtain⟨b0,x0⟩:=Bk.new e0;refine⟨_,(hR.1.ext x0).rc rfl,size,size,rfl,rfl,yac _,by omega,fun m4 e4 m5 e5=>?_⟩;rw[zx0,ybB] at e4;obtain⟨b4,x4⟩:=Bk.new e4;obtain⟨b5,x5⟩:=Bk.new e5
 have n0:m0.nxt=m.nxt+1:=by rw[e0]; rfl
 have n4:m4.nxt=m.nxt+2:=by rw[e4]; show m0.nxt+1=_; omega
 have n5:m5.nxt=m.nxt+3:=by rw[e5]; show m4.nxt+1=_; omega
 refine⟨_,b5.st _,fun m7 e7=>?_⟩;have k6:=b5.set [C.sl m0.nxt 0 size 0 (some size)];have x6:Ext m (m5.set m4.nxt (.cells 1 [C.sl m0.nxt 0 size 0 (some size)] false)):=((x0.trans x4).trans x5).setR (by omega) _;have k0:Bk (m5.set m4.nxt (.cells 1 [C.sl m0.nxt 0 size 0 (some size)] false)) m.nxt 1 [.fn (.yield l) [] []]:=((b0.ext x4).ext x5).setNe (by omega) _;have k4:Bk (m5.set m4.nxt (.cells 1 [C.sl m0.nxt 0 size 0 (some size)] false)) m0.nxt size (zp4 (List.replicate size 0)):=(b4.ext x5).setNe (by omega) _;have n6:(m5.set m4.nxt (.cells 1 [C.sl m0.nxt 0 size 0 (some size)] false)).nxt=m.nxt+3:=n5;have q:m7=(m5.set m4.nxt (.cells 1 [C.sl m0.nxt 0 size 0 (some size)] false)).new (.cells 1 [.nilFn] false):=e7
 clear e7
 generalize m5.set m4.nxt (.cells 1 [C.sl m0.nxt 0 size 0 (some size)] false)=m6 at k6 x6 k0 k4 n6 q ⊢;obtain⟨b7,x7⟩:=Bk.new q
 have n7:m7.nxt=m.nxt+4:=by rw[q]; show m6.nxt+1=_; omega
 refine⟨_,b7.st _,_,(b7.set _).rc rfl,?_⟩;have k8:=b7.set [flC b m.nxt m4.nxt b2 m6.nxt];have x8:Ext m (m7.set m6.nxt (.cells 1 [flC b m.nxt m4.nxt b2 m6.nxt] false)):=(x6.trans x7).setR (by omega) _;have j0:=(k0.ext x7).setNe (c:=m6.nxt) (by omega) (.cells 1 [flC b m.nxt m4.nxt b2 m6.nxt] false);have j4:=(k4.ext x7).setNe (c:=m6.nxt) (by omega) (.cells 1 [flC b m.nxt m4.nxt b2 m6.nxt] false);have j6:=(k6.ext x7).setNe (c:=m6.nxt) (by omega) (.cells 1 [flC b m.nxt m4.nxt b2 m6.nxt] false)
 show zmr prog tbl _ (flC b m.nxt m4.nxt b2 m6.nxt) (m7.set m6.nxt (.cells 1 [flC b m.nxt m4.nxt b2 m6.nxt] false)) _
 generalize m7.set m6.nxt (.cells 1 [flC b m.nxt m4.nxt b2 m6.nxt] false)=m8 at k8 x8 j0 j4 j6;have J:I 0 S m8:=(a.li 0).st _ _ _ hI x8.nxt x8.vw (fun b' hb=>x8.g b' (i b' hb)) (fun b' hb=>x8.g b' (by omega))
 have N:SlF n size b b2 l m.nxt m4.nxt m0.nxt m6.nxt S m8 (List.replicate size 0):=⟨hR.1.ext x8,hR.2.ext x8,j0,j6,j4,k8,fun b' y=>by
  have h1:=i b' y;have h2:=G b' y
  exact⟨fun h=>h2 (.inl h),fun h=>h2 (.inr h),by omega,by omega,by omega,by omega⟩,by omega⟩
 have s:∀{m':M},Chg (fun b'=>S b'\/b'=m0.nxt) m8 m'->Chg S m m':=fun {m'} h=>⟨yad x8.nxt h.nxt,fun b' hb O=>by
  rw[h.g b' (yaf hb x8.nxt) fun h3=>h3.elim O fun h4=>by omega]
  exact x8.g b' hb,h.vw.trans x8.vw⟩
 show Wc prog tbl 174 [.c (.int .i64 ((0:Nat):Int)),.c (.int .i64 ((0:Nat):Int)),.c (.ptr b 0),.c (.ptr m.nxt 0),.c (.ptr m4.nxt 0),.c (.ptr b2 0),.c (.ptr m6.nxt 0)] m8 _
 refine zx1 hn D (n0:=F) (n1:=m.nxt) (by omega) (by omega) a size 0 (by omega) 0 0 S m8 _ _ N (by simp) (fun j L hj=>by rw[Nat.zero_add]; exact hj) J (fun S' m' P' ho u T _ _ A=>⟨_,rfl,?_⟩) fun S' m' ho u hE=>⟨_,rfl,?_⟩
 ·rw[yay] at A;exact hQ _ S' m' (Own.trans (Own.refl S m) ho x8.nxt) (s u) (.inl A)
 ·exact hQ _ S' m' (Own.trans (Own.refl S m) ho x8.nxt) (s u) (.inr hE)
theorem zx3{m:M}{z:C}{L:List Int}(hz:Li m z L)(hn:zl5 z=false):∃b o n s c,z=.sl b o n s c:=by
 rcases hz.val with ⟨rfl,_⟩ | ⟨b,o,s,c,rfl,_⟩
 ·cases hn
 ·exact⟨_,_,_,_,_,rfl⟩
theorem zx4{z:C}{L:List Int}{m:M}{Q:V->M->Prop}(hz:Li m z L)(hn:zl5 z=false)(hL:L.length<=1000)(h:∀z' m',Ext m m'->Li m' z' L->Fr m z'->zqa z' 1 L.length->Q (.c z') m'):Wc prog tbl 112 [.c z] m Q:=by
 obtain⟨b,o,n,s,c,rfl⟩:=zx3 hz hn;refine zvS ⟨trivial,trivial,trivial,rfl,?_⟩
 show ∀m0:M,_
 intro m0 e0;obtain⟨b0,x0⟩:=Bk.new e0;have ho:zpZ m0 1 (.sl m.nxt 0 0 0 (some 0)) [] 0:=⟨rfl,.lit _ b0.g b0.lt⟩
 by_cases h0:L.length=0
 ·have a:L=[]:=yaW h0;subst a;exact⟨_,_,zp3 t22 g3 z3 ho (hz.ext x0),h _ _ x0 ho.ls (fun b o n s d hq=>by cases hq; exact yac _) (.inr (.inl ⟨_,_,_,_,rfl,yac _⟩))⟩
 ·obtain⟨m',q1,q2,q3,q4,q5⟩:=zp2 t22 g3 z3 ho (hz.ext x0) (by omega) (by omega) (by omega)
  have n0:m0.nxt=m.nxt+1:=by rw[e0]; rfl
  refine⟨_,m',q1,h _ _ ⟨by omega,fun b' hb=>?_,q4.trans x0.vw⟩ ?_ (fun b o n s d hq=>by cases hq; omega) (.inr (.inr ⟨_,_,by rw[yay]⟩))⟩
  ·rw[q5 b' (by omega) (by intro hq; cases hq)]; exact x0.g b' hb
  ·have:=q2.ls;rw[yaQ] at this;have e:0+L.length=L.length:=yay _;rw[e] at this ⊢;exact this
theorem zx5{α:Type}(g:Nat->List α)(p:α->Bool):∀e x,(zru g (e+1) x).find? p=((g x).find? p).or ((zru g e (x+1)).find? p):=fun e x=>by
 show(g x++zru g e (x+1)).find? p=_
 rw[List.find?_append]
def zx6(n:Nat)(m:M)(fnc:C)(t:List Int->Bool):Prop:=
 ∀m' z L,Ext m m'->Li m' z L->zqa z 1 L.length->L∈zoa n->∀Q:V->M->Prop,(∀m'',Ext m' m''->Q (.c (.bool (t L))) m'')->zmr prog tbl [.c z] fnc m' Q
theorem zx7{l:List (List Int)}{i:Nat}{a:List Int}(h:l[i]? = some a)(p:List Int->Bool):(l.drop i).find? p=if p a then some a else (l.drop (i+1)).find? p:=by
 obtain⟨hi,ha⟩:=yah.1 h;rw[yat hi,ha,yb3]
 cases p a <;> rfl
theorem zx8{n:Nat}{L:List Int}:∀{d:Nat} {pre:List Int} {fr:Nat},L∈zrv n d pre fr->L.length=pre.length+d
 | 0,pre,fr,h=>by
  have:L=pre:=yaP.1 h;rw[this]; rfl
 | d+1,pre,fr,h=>by
  obtain⟨x,_,_,h3⟩:=(zxZ _ _ _ _).1 h;have:=zx8 h3;rw[yai] at this
  simp only[List.length_cons,List.length_nil] at this
  omega
theorem zx9{n:Nat}{fnc:C}{t:List Int->Bool}{m:M}{Q:V->M->Prop}(hn:n<=100)(ht:zx6 n m fnc t)(h:∀z m',Ext m m'->Li m' z (zrw n t)->zqa z 1 (zrw n t).length->(∀b o n' s d,z=.sl b o n' s d->m.nxt<=b)->Q (.c z) m'):Wc prog tbl 94 [.c (.int .i64 (n:Int)),.c fnc] m Q:=by
 refine w94 fun m0 e0 m1 e1=>?_;obtain⟨b0,x0⟩:=Bk.new e0;obtain⟨b1,x1⟩:=Bk.new e1;have aM:=x0.trans x1
 have n0:m0.nxt=m.nxt+1:=by rw[e0]; rfl
 refine⟨zxY (by omega) (by omega),fun R2 ai=>?_⟩
 let G:Nat->List (List Int):=fun s=>zrv n s [] 0
 have aN:∀(e s:Nat) (m4:M),e+s=n+1->Ext m m4->Bk m4 m.nxt 1 [fnc]->Bk m4 m0.nxt 1 [.sl0]->(zru G e s).find? t=(zoa n).find? t->R2 [.c (.int .i64 (s:Int))] m4:=by
  intro e
  induction e with
  | zero=>
   intro s m4 aO x4 k0 k1 w;refine ai _ _ ?_;rw[zpH];refine⟨fun h1=>by omega,fun _=>⟨_,k1.rc rfl,?_⟩⟩
   have:zrw n t=[]:=by unfold zrw; rw[<- w]; rfl
   refine h _ _ x4 ?_ ?_ fun _ _ _ _ _ h9=>by cases h9
   ·rw[this]; exact Ls.nil m4 1
   ·rw[this]; exact .inl ⟨rfl,rfl⟩
  | succ e ih=>
   intro s m4 aO x4 k0 k1 w;refine ai _ _ ?_;rw[zpH];refine⟨fun _=>?_,fun h1=>absurd (by omega) h1⟩;refine zwg fun m5 e5 m6 e6=>?_;obtain⟨b5,x5⟩:=Bk.new e5;obtain⟨b6,x6⟩:=Bk.new e6;have ao:=x5.trans x6;refine⟨_,rfl,?_⟩;have aT:=k0.lt;have aU:=k1.lt
   have n5:m5.nxt=m4.nxt+1:=by rw[e5]; rfl
   have q:=x4.trans ao;have T:=k0.ext ao;have aB:=k1.ext ao;rw[zx5] at w
   refine zqY (zx2 (b:=m5.nxt) (b2:=m4.nxt) (n:=n) (size:=s) (by omega) (by omega)) ⟨b6,b5.ext x6⟩
    (J:=fun i S ma=>(∀b',S b'↔b'=m0.nxt)/\Bk ma m0.nxt 1 [.sl0]/\((G s).drop i).find? t=(G s).find? t/\m6.nxt<=ma.nxt/\ma.vw=m6.vw/\∀b',b' < m6.nxt->b' ≠ m0.nxt->ma.g b'=m6.g b')
    (X:=fun ex S ma=>ex=.exit 0/\∃z L,(∀b',S b'↔b'=m0.nxt\/∃o n s d,z=.sl b' o n s d)/\Bk ma m0.nxt 1 [z]/\Li ma z L/\(∀b' o n s d,z=.sl b' o n s d->m.nxt<=b'/\b' < ma.nxt)/\((G s).find? t=some L/\zqa z 1 L.length)/\m6.nxt<=ma.nxt/\ma.vw=m6.vw/\∀b',b' < m6.nxt->b' ≠ m0.nxt->ma.g b'=m6.g b')
    (fun i=>⟨fun S ma mb hj F hv hg ae=>⟨hj.1,⟨(hg _ ((hj.1 _).2 rfl)).trans hj.2.1.g,yaf hj.2.1.lt F⟩,hj.2.2.1,yad hj.2.2.2.1 F,hv.trans hj.2.2.2.2.1,fun b' a u=>(ae b' a).trans (hj.2.2.2.2.2 b' a u)⟩,fun S ma hj b' a=>by rw[(hj.1 b').1 a]; exact hj.2.1.lt⟩)
    (fun ex=>⟨fun S ma mb hj F hv hg ae=>?_,fun S ma hj b' a=>?_⟩) (S0:=fun b'=>b'=m0.nxt) ⟨fun _=>Iff.rfl,aB,rfl,yac _,rfl,fun _ _ _=>rfl⟩ (fun b' a hd=>by rcases hd with hd | hd <;> omega) ?_ ?_ ?_ ?_
   ·obtain⟨h1,z,L,h2,h3,h4,h5,h6,h7,h8,h9⟩:=hj;refine⟨h1,z,L,h2,⟨(hg _ ((h2 _).2 (.inl rfl))).trans h3.g,yaf h3.lt F⟩,h4.to F (fun b' _ I=>?_) hv,fun b' o n s d hz=>⟨(h5 b' o n s d hz).1,yaf (h5 b' o n s d hz).2 F⟩,h6,yad h7 F,hv.trans h8,fun b' a u=>(ae b' a).trans (h9 b' a u)⟩;obtain⟨o,s',d,I⟩:=I;exact hg b' ((h2 b').2 (.inr ⟨_,_,_,_,I⟩))
   ·obtain⟨h1,z,L,h2,h3,h4,h5,h6,_⟩:=hj
    rcases (h2 b').1 a with rfl | ⟨o,n',s',d,hz⟩
    ·exact h3.lt
    ·exact(h5 _ _ _ _ _ hz).2
   ·intro i xv S ma B' enter K aP hj ap aV af aq hK;obtain⟨L,z,hL,rfl,hz,ar,aQ⟩:=aP;obtain⟨hS,aj,hf,y,N,D⟩:=hj;refine⟨z,rfl,aq ma _ rfl fun O Y ag Z au=>?_⟩
    have aF:m0.nxt ≠ m6.nxt:=by have:=aB.lt; omega
    have av:Li O z L:=hz.to (by omega) (fun b' _ I=>by obtain⟨o,s',d,I⟩:=I; exact Z b' (by have:=aQ b' _ _ _ _ I; omega)) ag;have aG:Bk O m0.nxt 1 [.sl0]:=⟨(Z _ aF).trans aj.g,by rw[Y]; exact aj.lt⟩;have aw:∀b',b' < m6.nxt->b' ≠ m0.nxt->O.g b'=m6.g b':=fun b' a u=>(Z b' (by omega)).trans (D b' a u);have aC:Ext m O:=⟨by rw[Y]; exact yad q.nxt y,fun b' a=>by rw[aw b' (yaf a q.nxt) (by omega)]; exact q.g b' a,by rw[ag,N]; exact q.vw⟩;have aH:Bk O m.nxt 1 [fnc]:=⟨(aw _ T.lt (by omega)).trans T.g,by rw[Y]; exact yaf T.lt y⟩;have aD:L∈zrv n s [] 0:=ybE hL;have aI:L∈zoa n:=(zxZ _ _ _ _).2 ⟨s,yam _,by omega,aD⟩;have aJ:=zx8 aD
    simp only[List.length_nil] at aJ
    refine⟨fnc,aH.rc rfl,ht O z L aC av ar.2 aI _ fun ak P=>⟨_,rfl,?_⟩⟩;have aa:=aG.ext P
    have ab:∀b',b' < ma.nxt->b' ≠ m6.nxt->ak.g b'=ma.g b':=fun b' a u=>by rw[P.g b' (by omega)]; exact Z b' u
    have ac:ma.nxt<=ak.nxt:=by rw[<- Y]; exact P.nxt
    have ad:ak.vw=ma.vw:=P.vw.trans ag;have ax:ak.g m6.nxt=O.g m6.nxt:=P.g _ (by omega);rw[zpI];refine⟨fun ay=>?_,fun ay=>?_⟩
    ·refine zx4 (av.ext P) ar.1 (by omega) fun z' aW A aE ah aK=>⟨z',rfl,_,(aa.ext A).st _,?_⟩
     have aL:∀b' o n s d,z'=.sl b' o n s d->b' ≠ m0.nxt:=fun b' o n s d hq=>by have:=ah b' o n s d hq; have:=aa.lt; omega
     refine hK (.exit 0) (fun b'=>b'=m0.nxt\/∃o n s d,z'=.sl b' o n s d) _ (au _ ?_) (yad ac A.nxt) (A.vw.trans ad) (fun b' a aR az=>?_) (fun b' a=>?_) ⟨rfl,z',L,fun _=>Iff.rfl,(aa.ext A).set _,aE.setNe aL _,fun b' o n s d hq=>?_,?_,?_,?_,fun b' a u=>?_⟩
     ·rw[M.g_set,yaa (by omega),A.g _ (by omega)]; exact ax
     ·rw[M.g_set,yaa fun h0=>aR ((hS b').2 h0),A.g b' (by omega)]; exact ab b' a az
     ·rcases a with h0 | ⟨o,n',s',d,hq⟩
      ·exact .inl ((hS b').2 h0)
      ·exact .inr (by have:=ah _ _ _ _ _ hq; omega)
     ·have aS:m.nxt<=b':=by have:=ah _ _ _ _ _ hq; have:=aC.nxt; have:=P.nxt; omega
      refine⟨aS,?_⟩;subst hq
      rcases aE.val with ⟨h0,_⟩ | ⟨b3,o3,s3,c3,h0,h1,_⟩
      ·cases h0
      ·cases h0; exact h1
     ·exact⟨by rw[<- hf,zx7 hL,yab ay],aK⟩
     ·exact yad y (yad ac A.nxt)
     ·exact(A.vw.trans ad).trans N
     ·rw[M.g_set,yaa u,A.g b' (by omega),ab b' (by omega) (by omega)]; exact D b' a u
    ·refine hK .nrm S _ (au _ ax) ac ad (fun b' a _ az=>ab b' a az) (Own.refl S ma) ⟨hS,aa,?_,yad y ac,ad.trans N,fun b' a u=>by rw[ab b' (by omega) (by omega)]; exact D b' a u⟩;rw[<- hf,zx7 hL,yaa (by rw[ay]; decide)]
   ·intro S' am af ap hv hg hj;obtain⟨hS,aj,hf,y,N,D⟩:=hj
    have aA:(G s).find? t=none:=by rw[<- hf,yax (yac _)]; rfl
    rw[aA] at w;refine⟨zxY (by omega) (by omega),ih (s+1) am (by omega) ⟨yad q.nxt y,fun b' a=>by rw[D b' (yaf a q.nxt) (by omega)]; exact q.g b' a,N.trans q.vw⟩ ⟨(D _ T.lt (by omega)).trans T.g,yaf T.lt y⟩ aj w⟩
   ·intro id S' am af ap hv hg hj;obtain⟨h1,z,L,h2,h3,h4,h5,h6,y,N,D⟩:=hj
    cases h1
    refine⟨z,h3.rc rfl,h z am ⟨yad q.nxt y,fun b' a=>by rw[D b' (yaf a q.nxt) (by omega)]; exact q.g b' a,N.trans q.vw⟩ ?_ ?_ fun b o n' s d hz=>(h5 b o n' s d hz).1⟩ <;> rw[show zrw n t=L from by unfold zrw; rw[<- w,h6.1]; rfl]
    ·exact h4
    ·exact h6.2
   ·intro S' am af ap hv hg hj;exact absurd hj.1 (by intro h; cases h)
 exact aN (n+1) 0 m1 (by omega) aM (b0.ext x1) b1 rfl
end
end Go.Proofs.YtpjnfiegpjlfgaaGreat

namespace Go.Proofs.YtpjnfiegpjlfgaaGreat
open _root_.Go.Proofs.Tryz
open Go.Abs
set_option maxRecDepth 100000
noncomputable section
def zya(f:M)(x:C)(g:List Int->Option (Bool)):Prop:=∀(f' m:M) (a0:List Int) (c0:C) (r:Bool) (Q:V->M->Prop),Sub f f'->Pre f' m->Sl f' c0 a0->g a0=some r->(∀m',Ext m m'->Q (.c (.bool r)) m')->zmr prog tbl [.c c0] x m Q
theorem zya.sub{f m:M}{x:C}{g:List Int->Option (Bool)}(h:zya f x g)(s:Sub f m):zya m x g:=fun f' m' a0 c0 r Q hs=>h f' m' a0 c0 r Q (s.trans hs)
theorem zre{f:M}:∀(l:List Int),Cat f (zp4 l) l
 | []=>rfl
 | a::l=>⟨[.int .i64 a],zp4 l,rfl,rfl,zre l⟩
def asM(m:M):M:={ nxt:=m.nxt,g:=fun b=>if b < m.nxt then m.g b else none,vw:=m.vw }
theorem zyb(m:M):Sub (asM m) m:=⟨yac _,rfl,fun _b hb _=>(yab hb).symm⟩
theorem zyc{f m m':M}(h:Sub f m)(e:Ext m m'):Sub f (asM m'):=⟨yad h.nxt e.nxt,e.vw.trans h.vw,fun b hb hd=>by
 have:=yaf hb h.nxt;have:=e.nxt
 show(if b < m'.nxt then m'.g b else none)=_
 rw[yab (by omega),e.g b (by omega)]
 exact h.g b hb hd⟩
theorem zyd{f m m':M}(h:Pre f m)(e:Ext m m'):Pre (asM m') m':=⟨zyb m',fun b hb=>yaa (by have hb:m'.nxt<=b:=hb; omega),fun b hb=>by
 have hb:m'.nxt<=b:=hb
 show m'.vw b=none
 rw[e.vw,h.sub.vw]
 exact h.fv b (yad h.sub.nxt (yad e.nxt hb))⟩
theorem zye{m:M}{z:C}{L:List Int}(h:Li m z L)(a:zqa z 1 L.length):Sl (asM m) z L:=by
 refine⟨zp4 L,⟨h.len,?_⟩,zre L,a⟩
 rcases h.val with h1 | ⟨b,o,t,c,h1,h2,h3⟩
 ·exact .inl h1
 ·refine .inr ⟨b,o,t,c,h1,h2,fun h0=>(h3 h0).to' ?_ rfl⟩;exact yab h2
def grM(f m m':M):M:={ nxt:=m'.nxt,g:=fun b=>if b < m.nxt then f.g b else if b < m'.nxt then m'.g b else none,vw:=f.vw }
theorem zyf{f m m':M}(h:Pre f m)(e:Ext m m'):Pre (grM f m m') m':=by
 have hn:=h.sub.nxt;have he:=e.nxt;refine⟨⟨yac _,by show m'.vw=f.vw; rw[e.vw,h.sub.vw],fun b hb hd=>?_⟩,fun b hb=>?_,fun b hb=>h.fv b (by have hb:m'.nxt<=b:=hb; omega)⟩
 ·show m'.g b=(if b < m.nxt then f.g b else if b < m'.nxt then m'.g b else none)
  have hb:b < m'.nxt:=hb
  by_cases a:b < m.nxt
  ·rw[yab a];have hd:(if b < m.nxt then f.g b else if b < m'.nxt then m'.g b else none) ≠ none\/f.vw b ≠ none:=hd;rw[yab a] at hd
   have i:b < f.nxt:=by
    rcases yaA b f.nxt with h1 | h1
    ·exact h1
    ·exact(hd.elim (fun h2=>h2 (h.fz b h1)) fun h2=>h2 (h.fv b h1)).elim
   rw[e.g b a]; exact h.sub.g b i hd
  ·rw[yaa a,yab hb]
 ·have hb:m'.nxt<=b:=hb
  show(if b < m.nxt then f.g b else if b < m'.nxt then m'.g b else none)=none
  rw[yaa (by omega),yaa (by omega)]
theorem zyg{n:Int}{passes:List Int->Option Bool}{c2:C}{m f:M}{Q:V->M->Prop}{rz:List Int}(hS:Pre f m)(hF:zya f c2 passes)(hp:zrx n passes=some rz)(hq:∀m' f' c0,Grw m f m' f'->Sl f' c0 rz->Q (.c c0) m'):Wc prog tbl 94 [.c (Il n),.c c2] m Q:=by
 obtain⟨⟨p,q,i⟩,hp⟩:=zqi hp;obtain rfl:=oi hp
 have hn:n=((n.toNat:Nat):Int):=by omega
 rw[hn];refine zx9 (n:=n.toNat) (t:=fun L=>(passes L).getD false) (by omega) (fun m' z L e hz s hL Q' w=>?_) fun z m' e hz s y=>?_
 ·have hs:=i L hL
  cases u:passes L with
  | none=>rw[u] at hs; cases hs
  | some b=>
   refine hF (asM m') m' L z b Q' (zyc hS.sub e) (zyd hS e) (zye hz s) u fun m'' e'=>?_;have d:Q' (V.c (C.bool ((passes L).getD false))) m'':=w m'' e';rw[u] at d;exact d
 ·refine hq m' (grM f m m') z ⟨e,⟨yad hS.sub.nxt e.nxt,rfl,fun b hb _=>yab (yaf hb hS.sub.nxt)⟩,zyf hS e,fun b hb=>yab hb⟩ ?_;refine⟨zp4 _,⟨hz.len,?_⟩,zre _,s⟩
  rcases hz.val with a | ⟨b,o,t,c,a,h,j⟩
  ·exact .inl a
  ·refine .inr ⟨b,o,t,c,a,h,fun l=>(j l).to' ?_ ?_⟩
   ·have d:=y _ _ _ _ _ a
    show(if b < m.nxt then f.g b else if b < m'.nxt then m'.g b else none)=_
    rw[yaa (by omega),yab h]
   ·show f.vw b=m'.vw b
    rw[e.vw,hS.sub.vw]
end
end Go.Proofs.YtpjnfiegpjlfgaaGreat

