/- An evaluator of code, its soundness, and what functions of the program do. Condition: none; a lemma text. -/
import Derived.Test.YtpjnfiegpjlfgaaGreatVfI

namespace Go.Proofs.YtpjnfiegpjlfgaaGreat
open _root_.Go.Proofs.Tryz
open Go.Abs
set_option maxRecDepth 100000
noncomputable section
def zyh(f:M)(x:C)(g:Cv->Option (Bool)):Prop:=∀(f' m:M) (a0:Cv) (r:Bool) (Q:V->M->Prop),Sub f f'->Pre f' m->g a0=some r->(∀m',Ext m m'->Q (.c (.bool r)) m')->zmr prog tbl [.agg 7 [(.int .i64 a0.Society),(.int .i64 a0.Owner),(.int .i64 a0.Parcel),(.int .i64 a0.Sum),(.int .i64 a0.Until),(.int .i64 a0.Start.Lo),(.int .i64 a0.Start.Hi)]] x m Q
theorem zyh.sub{f m:M}{x:C}{g:Cv->Option (Bool)}(h:zyh f x g)(s:Sub f m):zyh m x g:=fun f' m' a0 r Q hs=>h f' m' a0 r Q (s.trans hs)
def zyi(f:M)(x:C)(g:Clm->Option (Bool)):Prop:=∀(f' m:M) (a0:Clm) (r:Bool) (Q:V->M->Prop),Sub f f'->Pre f' m->g a0=some r->(∀m',Ext m m'->Q (.c (.bool r)) m')->zmr prog tbl [.agg 3 [(.int .i64 a0.Society),(.int .i64 a0.Paid.Lo),(.int .i64 a0.Paid.Hi)]] x m Q
theorem zyi.sub{f m:M}{x:C}{g:Clm->Option (Bool)}(h:zyi f x g)(s:Sub f m):zyi m x g:=fun f' m' a0 r Q hs=>h f' m' a0 r Q (s.trans hs)
def zyj(f:M)(x:C)(g:Int->Option (Bool)):Prop:=∀(f' m:M) (a0:Int) (r:Bool) (Q:V->M->Prop),Sub f f'->Pre f' m->g a0=some r->(∀m',Ext m m'->Q (.c (.bool r)) m')->zmr prog tbl [.c (.int .i64 a0)] x m Q
theorem zyj.sub{f m:M}{x:C}{g:Int->Option (Bool)}(h:zyj f x g)(s:Sub f m):zyj m x g:=fun f' m' a0 r Q hs=>h f' m' a0 r Q (s.trans hs)
def zyk(f:M)(x:C)(g:Stl->Int->Option (Int)):Prop:=∀(f' m:M) (a0:Stl) (a1:Int) (r:Int) (Q:V->M->Prop),Sub f f'->Pre f' m->g a0 a1=some r->(∀m',Ext m m'->Q (.c (.int .i64 r)) m')->zmr prog tbl [.agg 7 [(.int .i64 a0.d.amount),(.int .i64 a0.d.sums.p0),(.int .i64 a0.d.sums.p1),(.int .i64 a0.d.sums.p2),(.int .i64 a0.pays.p0),(.int .i64 a0.pays.p1),(.int .i64 a0.pays.p2)],.c (.int .i64 a1)] x m Q
theorem zyk.sub{f m:M}{x:C}{g:Stl->Int->Option (Int)}(h:zyk f x g)(s:Sub f m):zyk m x g:=fun f' m' a0 a1 r Q hs=>h f' m' a0 a1 r Q (s.trans hs)
theorem zyl:KL prog 131 P3:=zqI (n:=3) (ks:=[.int .i64,.int .i64,.int .i64]) (by kernel_rfl) (by kernel_rfl) (cs:=fun k=>[.int .i64 k.p0,.int .i64 k.p1,.int .i64 k.p2]) (fun _=>rfl) fun a b fa fb=>⟨_,_,(zqH (zqE fa.1 fb.1) (zqH (zqE fa.2.1 fb.2.1) (zqH (zqE fa.2.2.1 fb.2.2.1) zqG))),⟨fun h=>by obtain⟨i,q,s⟩:=a; obtain⟨u,w,y⟩:=b; simp_all,fun h=>by subst h; exact⟨rfl,rfl,rfl,trivial⟩⟩⟩
theorem zym:KL prog 133 Dm:=zqI (n:=4) (ks:=[.int .i64,.int .i64,.int .i64,.int .i64]) (by kernel_rfl) (by kernel_rfl) (cs:=fun k=>[.int .i64 k.amount,.int .i64 k.sums.p0,.int .i64 k.sums.p1,.int .i64 k.sums.p2]) (fun _=>rfl) fun a b fa fb=>⟨_,_,(zqH (zqE fa.1 fb.1) (zqH (zqE fa.2.1 fb.2.1) (zqH (zqE fa.2.2.1 fb.2.2.1) (zqH (zqE fa.2.2.2.1 fb.2.2.2.1) zqG)))),⟨fun h=>by obtain⟨aamount,⟨asumsp0,asumsp1,asumsp2⟩⟩:=a; obtain⟨bamount,⟨bsumsp0,bsumsp1,bsumsp2⟩⟩:=b; simp_all,fun h=>by subst h; exact⟨rfl,rfl,rfl,rfl,trivial⟩⟩⟩
theorem zyn:TC prog 22 1:=⟨3,by kernel_rfl,by kernel_rfl,by kernel_rfl⟩
theorem zyo:∀a b:Dm,MK.enc a=MK.enc b->a=b:=fun a b h=>by
 obtain⟨aamount,⟨asumsp0,asumsp1,asumsp2⟩⟩:=a; obtain⟨bamount,⟨bsumsp0,bsumsp1,bsumsp2⟩⟩:=b
 injection h with h1 h2
 simp only[List.cons.injEq,C.int.injEq,C.bool.injEq,true_and,and_true] at h2
 simp_all
theorem zyp:∀a b:P3,MK.enc a=MK.enc b->a=b:=fun a b h=>by
 obtain⟨i,q,s⟩:=a; obtain⟨u,w,y⟩:=b
 injection h with h1 h2
 simp only[List.cons.injEq,C.int.injEq,C.bool.injEq,true_and,and_true] at h2
 simp_all
theorem zyq:TA prog 55 3:=⟨97,by kernel_rfl,by kernel_rfl,by kernel_rfl⟩
theorem zyr:TA prog 68 4:=⟨81,by kernel_rfl,by kernel_rfl,by kernel_rfl⟩
section
variable {m f:M}{Q:V->M->Prop}
theorem zys{n:Int}{last:Int}{rz:Bool}(hS:Pre f m)(hp:ztE n last=some rz)(hq:∀m',Ext m m'->Q (.c (.bool rz)) m'):Wc prog tbl 109 [.c (Il n),.c (Il last)] m Q:=by
 have d:=hS.st;obtain⟨e,_⟩:=zr5;refine zv9 ?_;unfold ztE at hp;refine ifd hp (fun a hp=>?_) fun a hp=>?_
 ·obtain rfl:=oi hp;exact hq _ d.ext'
 obtain rfl:=oi hp;exact hq _ d.ext'
theorem zyt{r:Rg}{n:Int}{rz:Bool}(hS:Pre f m)(hp:ztF r n=some rz)(hq:∀m',Ext m m'->Q (.c (.bool rz)) m'):Wc prog tbl 117 [.agg 2 [Il r.Lo,Il r.Hi],.c (Il n)] m Q:=by
 have h:=hS.st;obtain⟨i,_⟩:=zr5;refine zwb ?_;unfold ztF at hp;intro o e;obtain⟨j,a,l,d⟩:=h.blk e i 1;refine⟨trivial,_,d.bk.rc rfl,?_⟩;refine ifd hp (fun g hp=>?_) fun g hp=>?_; rotate_left
 ·obtain rfl:=oi hp;exact hq _ a.ext'
 refine⟨trivial,_,d.bk.rc rfl,?_⟩;obtain rfl:=oi hp;exact hq _ a.ext'
theorem zyu{r:Rg}{last:Int}{rz:Bool}(hS:Pre f m)(hp:ztG r last=some rz)(hq:∀m',Ext m m'->Q (.c (.bool rz)) m'):Wc prog tbl 130 [.agg 2 [Il r.Lo,Il r.Hi],.c (Il last)] m Q:=by
 have i:=hS.st;obtain⟨j,_⟩:=zr5;refine zwe ?_;unfold ztG at hp;intro o e;obtain⟨l,d,n,a⟩:=i.blk e j 1;refine⟨trivial,_,a.bk.rc rfl,?_⟩;refine ifd hp (fun g hp=>?_) fun g hp=>?_; rotate_left
 ·obtain rfl:=oi hp;exact hq _ d.ext'
 refine⟨trivial,_,a.bk.rc rfl,trivial,_,a.bk.rc rfl,?_⟩;refine ifd hp (fun h hp=>?_) fun h hp=>?_; rotate_left
 ·obtain rfl:=oi hp;exact hq _ d.ext'
 refine⟨trivial,_,a.bk.rc rfl,?_⟩;obtain rfl:=oi hp;exact hq _ d.ext'
theorem zyv{c:Cs}{n:Int}{w y A D:C}{rz:Bool}(hS:Pre f m)(_ha102:Sl f w c.Book.Parcels)(_ha103:Sl f y c.Book.Entries)(_ha107:Sl f A c.Covers)(_ha110:Sl f D c.Claims)(hp:ztH c n=some rz)(hq:∀m',Ext m m'->Q (.c (.bool rz)) m'):Wc prog tbl 139 [.agg 11 (xC c w y A D),.c (Il n)] m Q:=by
 have o:=hS.st;obtain⟨p,_⟩:=zr5;refine zwy ?_;unfold ztH at hp;intro t d;obtain⟨e,a,q,g⟩:=o.blk d p 1;refine⟨trivial,_,g.bk.rc rfl,?_⟩;refine gdi hp fun h hp=>?_;obtain⟨r,i,hp⟩:=zqh hp;refine zys (n:=n) (last:=(c.Societies - (1:Int))) a.pre  i fun u j=>?_;obtain⟨l,s⟩:=a.call j e;refine⟨_,rfl,?_⟩;obtain rfl:=oi hp;exact hq _ l.ext'
theorem zyw{c:Cs}{n:Int}{w y A D:C}{rz:Bool}(hS:Pre f m)(_ha102:Sl f w c.Book.Parcels)(_ha103:Sl f y c.Book.Entries)(_ha107:Sl f A c.Covers)(_ha110:Sl f D c.Claims)(hp:ztI c n=some rz)(hq:∀m',Ext m m'->Q (.c (.bool rz)) m'):Wc prog tbl 168 [.agg 11 (xC c w y A D),.c (Il n)] m Q:=by
 have o:=hS.st;obtain⟨p,_⟩:=zr5;refine zv4 ?_;unfold ztI at hp;intro t d;obtain⟨e,a,q,g⟩:=o.blk d p 1;refine⟨trivial,trivial,_,g.bk.rc rfl,?_⟩;refine gdi hp fun h hp=>?_;obtain⟨r,i,hp⟩:=zqh hp;refine zys (n:=n) (last:=(c.Book.Owners - (1:Int))) a.pre  i fun u j=>?_;obtain⟨l,s⟩:=a.call j e;refine⟨_,rfl,?_⟩;obtain rfl:=oi hp;exact hq _ l.ext'
theorem zyx{c:Cs}{n:Int}{u w y A:C}{rz:Bool}(hS:Pre f m)(_ha102:Sl f u c.Book.Parcels)(_ha103:Sl f w c.Book.Entries)(_ha107:Sl f y c.Covers)(_ha110:Sl f A c.Claims)(hp:ztJ c n=some rz)(hq:∀m',Ext m m'->Q (.c (.bool rz)) m'):Wc prog tbl 128 [.agg 11 (xC c u w y A),.c (Il n)] m Q:=by
 have l:=hS.st;obtain⟨o,_⟩:=zr5;refine zvE ?_;unfold ztJ at hp;intro s d;obtain⟨e,a,p,g⟩:=l.blk d o 1;refine⟨trivial,trivial,_,g.bk.rc rfl,?_⟩;obtain⟨q,h,hp⟩:=zqh hp;refine zys (n:=n) (last:=c.Book.Last) a.pre  h fun t i=>?_;obtain⟨j,r⟩:=a.call i e;refine⟨_,rfl,?_⟩;obtain rfl:=oi hp;exact hq _ j.ext'
theorem zyy{c:Cs}{n:Int}{ac ad ae af:C}{rz:Bool}(hS:Pre f m)(ag:Sl f ac c.Book.Parcels)(ab:Sl f ad c.Book.Entries)(_ha107:Sl f ae c.Covers)(_ha110:Sl f af c.Claims)(hp:ztL c n=some rz)(hq:∀m',Ext m m'->Q (.c (.bool rz)) m'):Wc prog tbl 129 [.agg 11 (xC c ac ad ae af),.c (Il n)] m Q:=by
 have S0:=hS.st;obtain⟨τ0,_⟩:=zr5;refine zvW ?_;unfold ztL at hp;intro m0 y;obtain⟨z,A,ia,d⟩:=S0.blk y τ0 1;refine⟨trivial,trivial,_,d.bk.rc rfl,ag.isSl,?_⟩;obtain⟨l,hp⟩:=zqi hp;refine⟨(by first|exact l|(rw[ag.slLen];exact l)),trivial,trivial,_,d.bk.rc rfl,ab.isSl,?_⟩;intro R3 fa
 try rw[ag.slLen]
 have ah:∀(h:Nat) (o:Int) (u:Int) (p:M) (e:Nat->Nat),St (Fm.of m) f f p->Lb (Fm.of m) f e p 1 m.nxt 11 (xC c ac ad ae af)->ztK c n h o u=some rz->R3 [.c (Il o),.c (Il u)] p:=by
  intro h
  induction h with
  | zero=>intro o u p e g d hp; cases hp
  | succ h q=>
   intro o u p e g d hp;refine fa _ _ _ ?_;rw[ztK] at hp
   try rw[ab.slLen]
   refine ifd hp (fun B hp=>?_) fun B hp=>?_; rotate_left
   ·obtain⟨ka,D,hp⟩:=zqh hp;refine zys (n:=n) (last:=o) g.pre  D fun na F=>?_;obtain⟨G,la⟩:=g.call F e;refine⟨_,rfl,?_⟩;obtain rfl:=oi hp;exact hq _ G.ext'
   obtain⟨a,i,hp⟩:=zqh hp;obtain⟨n7,w,j,i⟩:=zqb i;obtain⟨_,I⟩:=zsb ab i;refine⟨n7,w,(by first|exact j|(rw[ab.slLen];exact j)),_,_,_,_,_,_,_,_,(I _ g.sub).1,?_⟩;intro oa J;obtain⟨r,N,O,P⟩:=g.blk J e 2;have S:=d.k O;obtain⟨T,Y,s,Z,aa⟩:=P.sto N [Il a.Kind,Il a.Parcel,Il a.Other,Il a.From,Il a.To,Il a.Part,Il a.Day.Lo,Il a.Day.Hi];have t:=S.k Z;refine⟨T,Y,?_⟩;refine⟨trivial,_,aa.bk.rc rfl,?_⟩;refine ifd hp (fun ba hp=>?_) fun ba hp=>?_; rotate_left
   ·refine gdi hp fun ca hp=>?_;exact q _ _ _ r s t hp
   refine gdi hp fun da hp=>?_;refine gdi hp fun ea hp=>?_;exact q _ _ _ r s t hp
 exact ah _ _ _ _ z A d hp
theorem zyz{c:Cs}{v:Cv}{af ag ah ai:C}{rz:Bool}(hS:Pre f m)(ab:Sl f af c.Book.Parcels)(ac:Sl f ag c.Book.Entries)(ad:Sl f ah c.Covers)(ae:Sl f ai c.Claims)(hp:ztM c v=some rz)(hq:∀m',Ext m m'->Q (.c (.bool rz)) m'):Wc prog tbl 132 [.agg 11 (xC c af ag ah ai),.agg 7 [Il v.Society,Il v.Owner,Il v.Parcel,Il v.Sum,Il v.Until,Il v.Start.Lo,Il v.Start.Hi]] m Q:=by
 have S0:=hS.st;obtain⟨τ0,_⟩:=zr5;refine zvF ?_;unfold ztM at hp;intro m0 I;obtain⟨J,N,va,O⟩:=S0.blk I τ0 1;intro m1 P;obtain⟨a,l,S,o⟩:=N.blk P J 2;have p:=O.k S;refine⟨_,_,_,_,_,_,_,_,_,_,_,p.bk.ra,trivial,_,o.bk.rc rfl,?_⟩;obtain⟨wa,T,hp⟩:=zqh hp;refine zyv (c:=c) (n:=v.Society) l.pre ab ac ad ae T fun Da Y=>?_;obtain⟨d,q⟩:=l.call Y a;have s:=p.k q;have t:=o.k q;refine⟨_,rfl,?_⟩;refine zqS hp (fun Z hp=>?_) fun Z hp=>?_; rotate_left
 ·obtain rfl:=oi hp;exact hq _ d.ext'
 refine⟨_,_,_,_,_,_,_,_,_,_,_,s.bk.ra,trivial,_,t.bk.rc rfl,?_⟩;obtain⟨xa,aa,hp⟩:=zqh hp;refine zyw (c:=c) (n:=v.Owner) d.pre ab ac ad ae aa fun Ea ba=>?_;obtain⟨e,u⟩:=d.call ba a;have w:=s.k u;have y:=t.k u;refine⟨_,rfl,?_⟩;refine zqS hp (fun ca hp=>?_) fun ca hp=>?_; rotate_left
 ·obtain rfl:=oi hp;exact hq _ e.ext'
 refine⟨_,_,_,_,_,_,_,_,_,_,_,w.bk.ra,trivial,_,y.bk.rc rfl,?_⟩;obtain⟨ya,da,hp⟩:=zqh hp;refine zyy (c:=c) (n:=v.Parcel) e.pre ab ac ad ae da fun Fa ea=>?_;obtain⟨g,z⟩:=e.call ea a;have fa:=w.k z;have A:=y.k z;refine⟨_,rfl,?_⟩;refine zqS hp (fun ga hp=>?_) fun ga hp=>?_; rotate_left
 ·obtain rfl:=oi hp;exact hq _ g.ext'
 refine⟨trivial,_,A.bk.rc rfl,?_⟩;obtain⟨za,ha,hp⟩:=zqh hp;refine zys (n:=v.Sum) (last:=(1000:Int)) g.pre  ha fun Ga ia=>?_;obtain⟨h,B⟩:=g.call ia a;have D:=fa.k B;have F:=A.k B;refine⟨_,rfl,?_⟩;refine zqS hp (fun ja hp=>?_) fun ja hp=>?_; rotate_left
 ·obtain rfl:=oi hp;exact hq _ h.ext'
 refine⟨trivial,_,_,F.bk.rp (k:=5) (j:=2) rfl (by omega),trivial,trivial,_,D.bk.rc rfl,?_⟩;obtain⟨Aa,ka,hp⟩:=zqh hp;refine zyu (r:=v.Start) (last:=c.Book.Last) h.pre  ka fun Ha la=>?_;obtain⟨i,G⟩:=h.call la a;have ma:=D.k G;have na:=F.k G;refine⟨_,rfl,?_⟩;refine zqS hp (fun oa hp=>?_) fun oa hp=>?_; rotate_left
 ·obtain rfl:=oi hp;exact hq _ i.ext'
 refine⟨_,_,_,_,_,_,_,_,_,_,_,ma.bk.ra,trivial,_,na.bk.rc rfl,?_⟩;obtain⟨Ba,pa,hp⟩:=zqh hp;refine zyx (c:=c) (n:=v.Until) i.pre ab ac ad ae pa fun Ia qa=>?_;obtain⟨sa,Ca⟩:=i.call qa a;refine⟨_,rfl,?_⟩;obtain rfl:=oi hp;exact hq _ sa.ext'
theorem zyA{c:Cs}{x:Clm}{Z aa ab ac:C}{rz:Bool}(hS:Pre f m)(ad:Sl f Z c.Book.Parcels)(ae:Sl f aa c.Book.Entries)(af:Sl f ab c.Covers)(ag:Sl f ac c.Claims)(hp:ztN c x=some rz)(hq:∀m',Ext m m'->Q (.c (.bool rz)) m'):Wc prog tbl 133 [.agg 11 (xC c Z aa ab ac),.agg 3 [Il x.Society,Il x.Paid.Lo,Il x.Paid.Hi]] m Q:=by
 have F:=hS.st;obtain⟨G,_⟩:=zr5;refine zvX ?_;unfold ztN at hp;intro T h;obtain⟨i,l,I,o⟩:=F.blk h G 1;intro Y p;obtain⟨d,e,q,g⟩:=l.blk p i 2;have s:=o.k q;refine⟨_,_,_,_,_,_,_,_,_,_,_,s.bk.ra,trivial,_,g.bk.rc rfl,?_⟩;obtain⟨J,t,hp⟩:=zqh hp;refine zyv (c:=c) (n:=x.Society) e.pre ad ae af ag t fun P u=>?_;obtain⟨a,w⟩:=e.call u d;have y:=g.k w;refine⟨_,rfl,?_⟩;refine zqS hp (fun z hp=>?_) fun z hp=>?_; rotate_left
 ·obtain rfl:=oi hp;exact hq _ a.ext'
 refine⟨trivial,_,_,y.bk.rp (k:=1) (j:=2) rfl (by omega),?_⟩;obtain⟨N,A,hp⟩:=zqh hp;refine zyu (r:=x.Paid) (last:=(1000:Int)) a.pre  A fun S B=>?_;obtain⟨D,O⟩:=a.call B d;refine⟨_,rfl,?_⟩;obtain rfl:=oi hp;exact hq _ D.ext'
theorem zyB{x:Cv}{passes:Cv->Option (Bool)}{b0:Nat}{u:C}{rz:Bool}(hS:Pre f m)(y:Bk f b0 1 [u])(w:zyh f u passes)(hp:ztO x passes=some rz)(hq:∀m',Ext m m'->Q (.c (.bool rz)) m'):Wc prog tbl 167 [.agg 7 [Il x.Society,Il x.Owner,Il x.Parcel,Il x.Sum,Il x.Until,Il x.Start.Lo,Il x.Start.Hi],.c (.ptr b0 0)] m Q:=by
 have l:=hS.st;obtain⟨n,_⟩:=zr5;refine zvm ?_;unfold ztO at hp;intro s d;obtain⟨e,a,o,g⟩:=l.blk d n 1;refine⟨_,(y.sub a.sub).rc rfl,_,_,_,_,_,_,_,g.bk.ra,?_⟩;obtain⟨p,h,hp⟩:=zqh hp;refine w _ _ _ _ _ (Sub.refl _) a.pre  h fun r i=>?_;obtain⟨j,q⟩:=a.call i e;refine⟨_,rfl,?_⟩;obtain rfl:=oi hp;exact hq _ j.ext'
theorem zyC{l:List Cv}{p:Cv->Option (Bool)}{S T:C}{rz:Int}(hS:Pre f m)(P:Sl f S l)(Y:zyh f T p)(hp:ztP l p=some rz)(hq:∀m',Ext m m'->Q (.c (Il rz)) m'):Wc prog tbl 187 [.c S,.c T] m Q:=by
 have B:=hS.st;obtain⟨D,_⟩:=zr5;refine zwG ?_;unfold ztP at hp;refine⟨P.isSl,?_⟩;intro F A
 have Z:∀(d:Nat) (q:Int) (j:Int) (n:M) (e:Nat->Nat),St (Fm.of m) f f n->pindexC_L0 l p d j=some rz->F [.c (Il q),.c (Il j)] n:=by
  intro d
  induction d with
  | zero=>intro q j n e a hp; cases hp
  | succ d r=>
   intro q j n e a hp;refine A _ _ _ ?_;rw[pindexC_L0] at hp
   try rw[P.slLen]
   refine ifd hp (fun s hp=>?_) fun s hp=>?_; rotate_left
   ·obtain rfl:=oi hp;exact hq _ a.ext'
   obtain⟨G,g,hp⟩:=zqh hp;obtain⟨I,o,h,g⟩:=zqb g;obtain⟨_,t⟩:=zsk P g;refine⟨I,o,(by first|exact h|(rw[P.slLen];exact h)),_,_,_,_,_,_,_,(t _ a.sub).1,?_⟩;obtain⟨J,u,hp⟩:=zqh hp;refine Y _ _ _ _ _ (Sub.refl _) a.pre  u fun O w=>?_;obtain⟨i,N⟩:=a.call w e;refine⟨_,rfl,?_⟩;refine zqS hp (fun y hp=>?_) fun y hp=>?_
   ·obtain rfl:=oi hp;exact hq _ i.ext'
   refine gdi hp fun z hp=>?_;exact r _ _ _ e i hp
 exact Z _ _ _ _ D B hp
theorem zyD{l:List Cv}{p:Cv->Option (Bool)}{q s:C}{rz:Bool}(hS:Pre f m)(u:Sl f q l)(w:zyh f s p)(hp:ztQ l p=some rz)(hq:∀m',Ext m m'->Q (.c (.bool rz)) m'):Wc prog tbl 166 [.c q,.c s] m Q:=by
 have g:=hS.st;obtain⟨h,_⟩:=zr5;refine zwC ?_;unfold ztQ at hp;obtain⟨i,a,hp⟩:=zqh hp;refine zyC (l:=l) (p:=p) g.pre u w a fun n d=>?_;obtain⟨e,j⟩:=g.call d h;refine⟨_,rfl,?_⟩;obtain rfl:=oi hp;exact hq _ e.ext'
theorem zyE{l:List Cv}{passes:Cv->Option (Bool)}{G I:C}{rz:Bool}(hS:Pre f m)(J:Sl f G l)(N:zyh f I passes)(hp:ztR l passes=some rz)(hq:∀m',Ext m m'->Q (.c (.bool rz)) m'):Wc prog tbl 131 [.c G,.c I] m Q:=by
 have w:=hS.st;obtain⟨y,_⟩:=zr5;refine zww ?_;unfold ztR at hp;intro D i;obtain⟨j,n,z,o⟩:=w.blk i y 1;obtain⟨q,d,e,g⟩:=o.freeze n
 have h:zyh q ((C.fn (Fn.func 167) [] [(W.c (C0.ptr m.nxt 0))])) (fun a=>ztO a passes):=by
  intro f' m' a r Q hs O  hg hq;exact zyB O (g.sub hs) ((N.sub e.fs).sub hs) hg hq
 obtain⟨A,s,hp⟩:=zqh hp;refine zyD (l:=l) (p:=(fun a=>ztO a passes)) d.pre (J.sub e.fs) h s fun F t=>?_;obtain⟨u,B⟩:=d.call t j;refine⟨_,rfl,?_⟩;obtain rfl:=oi hp;exact hq _ u.ext'
theorem zyF{x:Clm}{passes:Clm->Option (Bool)}{b0:Nat}{u:C}{rz:Bool}(hS:Pre f m)(y:Bk f b0 1 [u])(w:zyi f u passes)(hp:ztS x passes=some rz)(hq:∀m',Ext m m'->Q (.c (.bool rz)) m'):Wc prog tbl 160 [.agg 3 [Il x.Society,Il x.Paid.Lo,Il x.Paid.Hi],.c (.ptr b0 0)] m Q:=by
 have l:=hS.st;obtain⟨n,_⟩:=zr5;refine zvn ?_;unfold ztS at hp;intro r d;obtain⟨e,a,o,g⟩:=l.blk d n 1;refine⟨_,(y.sub a.sub).rc rfl,_,_,_,g.bk.ra,?_⟩;obtain⟨p,h,hp⟩:=zqh hp;refine w _ _ _ _ _ (Sub.refl _) a.pre  h fun s i=>?_;obtain⟨j,q⟩:=a.call i e;refine⟨_,rfl,?_⟩;obtain rfl:=oi hp;exact hq _ j.ext'
theorem zyG{l:List Clm}{p:Clm->Option (Bool)}{S T:C}{rz:Int}(hS:Pre f m)(P:Sl f S l)(Y:zyi f T p)(hp:ztU l p=some rz)(hq:∀m',Ext m m'->Q (.c (Il rz)) m'):Wc prog tbl 180 [.c S,.c T] m Q:=by
 have B:=hS.st;obtain⟨D,_⟩:=zr5;refine zwo ?_;unfold ztU at hp;refine⟨P.isSl,?_⟩;intro F A
 have Z:∀(d:Nat) (q:Int) (j:Int) (n:M) (e:Nat->Nat),St (Fm.of m) f f n->ztT l p d j=some rz->F [.c (Il q),.c (Il j)] n:=by
  intro d
  induction d with
  | zero=>intro q j n e a hp; cases hp
  | succ d r=>
   intro q j n e a hp;refine A _ _ _ ?_;rw[ztT] at hp
   try rw[P.slLen]
   refine ifd hp (fun s hp=>?_) fun s hp=>?_; rotate_left
   ·obtain rfl:=oi hp;exact hq _ a.ext'
   obtain⟨G,g,hp⟩:=zqh hp;obtain⟨I,o,h,g⟩:=zqb g;obtain⟨_,t⟩:=zsm P g;refine⟨I,o,(by first|exact h|(rw[P.slLen];exact h)),_,_,_,(t _ a.sub).1,?_⟩;obtain⟨J,u,hp⟩:=zqh hp;refine Y _ _ _ _ _ (Sub.refl _) a.pre  u fun O w=>?_;obtain⟨i,N⟩:=a.call w e;refine⟨_,rfl,?_⟩;refine zqS hp (fun y hp=>?_) fun y hp=>?_
   ·obtain rfl:=oi hp;exact hq _ i.ext'
   refine gdi hp fun z hp=>?_;exact r _ _ _ e i hp
 exact Z _ _ _ _ D B hp
theorem zyH{l:List Clm}{p:Clm->Option (Bool)}{q s:C}{rz:Bool}(hS:Pre f m)(u:Sl f q l)(w:zyi f s p)(hp:ztV l p=some rz)(hq:∀m',Ext m m'->Q (.c (.bool rz)) m'):Wc prog tbl 159 [.c q,.c s] m Q:=by
 have g:=hS.st;obtain⟨h,_⟩:=zr5;refine zv2 ?_;unfold ztV at hp;obtain⟨i,a,hp⟩:=zqh hp;refine zyG (l:=l) (p:=p) g.pre u w a fun n d=>?_;obtain⟨e,j⟩:=g.call d h;refine⟨_,rfl,?_⟩;obtain rfl:=oi hp;exact hq _ e.ext'
theorem zyI{l:List Clm}{passes:Clm->Option (Bool)}{G I:C}{rz:Bool}(hS:Pre f m)(J:Sl f G l)(N:zyi f I passes)(hp:ztW l passes=some rz)(hq:∀m',Ext m m'->Q (.c (.bool rz)) m'):Wc prog tbl 120 [.c G,.c I] m Q:=by
 have w:=hS.st;obtain⟨y,_⟩:=zr5;refine zvU ?_;unfold ztW at hp;intro D i;obtain⟨j,n,z,o⟩:=w.blk i y 1;obtain⟨q,d,e,g⟩:=o.freeze n
 have h:zyi q ((C.fn (Fn.func 160) [] [(W.c (C0.ptr m.nxt 0))])) (fun a=>ztS a passes):=by
  intro f' m' a r Q hs O  hg hq;exact zyF O (g.sub hs) ((N.sub e.fs).sub hs) hg hq
 obtain⟨A,s,hp⟩:=zqh hp;refine zyH (l:=l) (p:=(fun a=>ztS a passes)) d.pre (J.sub e.fs) h s fun F t=>?_;obtain⟨u,B⟩:=d.call t j;refine⟨_,rfl,?_⟩;obtain rfl:=oi hp;exact hq _ u.ext'
theorem zyJ{x:Int}{passes:Int->Option (Bool)}{b0:Nat}{q:C}{rz:Bool}(hS:Pre f m)(u:Bk f b0 1 [q])(s:zyj f q passes)(hp:ztX x passes=some rz)(hq:∀m',Ext m m'->Q (.c (.bool rz)) m'):Wc prog tbl 152 [.c (Il x),.c (.ptr b0 0)] m Q:=by
 have a:=hS.st;obtain⟨h,_⟩:=zr5;refine zvo ?_;unfold ztX at hp;refine⟨_,(u.sub a.sub).rc rfl,?_⟩;obtain⟨i,d,hp⟩:=zqh hp;refine s _ _ _ _ _ (Sub.refl _) a.pre  d fun l e=>?_;obtain⟨g,j⟩:=a.call e h;refine⟨_,rfl,?_⟩;obtain rfl:=oi hp;exact hq _ g.ext'
theorem zyK{l:List Int}{p:Int->Option (Bool)}{P S:C}{rz:Int}(hS:Pre f m)(O:Sl f P l)(T:zyj f S p)(hp:ztZ l p=some rz)(hq:∀m',Ext m m'->Q (.c (Il rz)) m'):Wc prog tbl 176 [.c P,.c S] m Q:=by
 have A:=hS.st;obtain⟨B,_⟩:=zr5;refine zwn ?_;unfold ztZ at hp;refine⟨O.isSl,?_⟩;intro D z
 have Y:∀(d:Nat) (q:Int) (j:Int) (n:M) (e:Nat->Nat),St (Fm.of m) f f n->ztY l p d j=some rz->D [.c (Il q),.c (Il j)] n:=by
  intro d
  induction d with
  | zero=>intro q j n e a hp; cases hp
  | succ d r=>
   intro q j n e a hp;refine z _ _ _ ?_;rw[ztY] at hp
   try rw[O.slLen]
   refine ifd hp (fun s hp=>?_) fun s hp=>?_; rotate_left
   ·obtain rfl:=oi hp;exact hq _ a.ext'
   obtain⟨F,g,hp⟩:=zqh hp;obtain⟨G,o,h,g⟩:=zqb g;refine⟨G,o,(by first|exact h|(rw[O.slLen];exact h)),_,(O.rdI g a.sub),?_⟩;obtain⟨I,t,hp⟩:=zqh hp;refine T _ _ _ _ _ (Sub.refl _) a.pre  t fun N u=>?_;obtain⟨i,J⟩:=a.call u e;refine⟨_,rfl,?_⟩;refine zqS hp (fun w hp=>?_) fun w hp=>?_
   ·obtain rfl:=oi hp;exact hq _ i.ext'
   refine gdi hp fun y hp=>?_;exact r _ _ _ e i hp
 exact Y _ _ _ _ B A hp
theorem zyL{l:List Int}{p:Int->Option (Bool)}{q s:C}{rz:Bool}(hS:Pre f m)(u:Sl f q l)(w:zyj f s p)(hp:zt0 l p=some rz)(hq:∀m',Ext m m'->Q (.c (.bool rz)) m'):Wc prog tbl 151 [.c q,.c s] m Q:=by
 have g:=hS.st;obtain⟨h,_⟩:=zr5;refine zwi ?_;unfold zt0 at hp;obtain⟨i,a,hp⟩:=zqh hp;refine zyK (l:=l) (p:=p) g.pre u w a fun n d=>?_;obtain⟨e,j⟩:=g.call d h;refine⟨_,rfl,?_⟩;obtain rfl:=oi hp;exact hq _ e.ext'
theorem zyM{l:List Int}{passes:Int->Option (Bool)}{G I:C}{rz:Bool}(hS:Pre f m)(J:Sl f G l)(N:zyj f I passes)(hp:zt1 l passes=some rz)(hq:∀m',Ext m m'->Q (.c (.bool rz)) m'):Wc prog tbl 110 [.c G,.c I] m Q:=by
 have w:=hS.st;obtain⟨y,_⟩:=zr5;refine zws ?_;unfold zt1 at hp;intro D i;obtain⟨j,n,z,o⟩:=w.blk i y 1;obtain⟨q,d,e,g⟩:=o.freeze n
 have h:zyj q ((C.fn (Fn.func 152) [] [(W.c (C0.ptr m.nxt 0))])) (fun a=>ztX a passes):=by
  intro f' m' a r Q hs O  hg hq;exact zyJ O (g.sub hs) ((N.sub e.fs).sub hs) hg hq
 obtain⟨A,s,hp⟩:=zqh hp;refine zyL (l:=l) (p:=(fun a=>ztX a passes)) d.pre (J.sub e.fs) h s fun F t=>?_;obtain⟨u,B⟩:=d.call t j;refine⟨_,rfl,?_⟩;obtain rfl:=oi hp;exact hq _ u.ext'
theorem zyN{c:Cs}{ad ae af ag:C}{rz:Bool}(hS:Pre f m)(ah:Sl f ad c.Book.Parcels)(ai:Sl f ae c.Book.Entries)(ab:Sl f af c.Covers)(ac:Sl f ag c.Claims)(hp:zt2 c=some rz)(hq:∀m',Ext m m'->Q (.c (.bool rz)) m'):Wc prog tbl 75 [.agg 11 (xC c ad ae af ag)] m Q:=by
 have S0:=hS.st;obtain⟨τ0,_⟩:=zr5;refine w75 ?_;unfold zt2 at hp;intro m0 D;obtain⟨a,h,pa,d⟩:=S0.blk D τ0 1;refine⟨trivial,_,d.bk.rc rfl,?_⟩;refine ifd hp (fun F hp=>?_) fun F hp=>?_; rotate_left
 ·obtain rfl:=oi hp;exact hq _ h.ext'
 refine⟨_,_,_,_,_,_,_,_,_,_,_,d.bk.ra,trivial,_,d.bk.rc rfl,?_⟩;obtain⟨qa,G,hp⟩:=zqh hp;refine zyx (c:=c) (n:=c.Day) h.pre ah ai ab ac G fun xa I=>?_;obtain⟨i,J⟩:=h.call I a;have o:=d.k J;refine⟨_,rfl,?_⟩;refine zqS hp (fun N hp=>?_) fun N hp=>?_; rotate_left
 ·obtain rfl:=oi hp;exact hq _ i.ext'
 refine⟨_,_,_,_,_,_,_,_,_,_,_,o.bk.ra,trivial,_,o.bk.rc rfl,?_⟩;obtain⟨sa,O,hp⟩:=zqh hp;refine zyy (c:=c) (n:=c.Parcel) i.pre ah ai ab ac O fun ya P=>?_;obtain⟨p,S⟩:=i.call P a;have u:=o.k S;refine⟨_,rfl,?_⟩;refine zqS hp (fun T hp=>?_) fun T hp=>?_; rotate_left
 ·obtain rfl:=oi hp;exact hq _ p.ext'
 refine⟨trivial,_,_,u.bk.rp (k:=8) (j:=2) rfl (by omega),?_⟩;obtain⟨ta,Y,hp⟩:=zqh hp;refine zyu (r:=c.Loss) (last:=(100:Int)) p.pre  Y fun za Z=>?_;obtain⟨q,aa⟩:=p.call Z a;have s:=u.k aa;refine⟨_,rfl,?_⟩;refine zqS hp (fun ba hp=>?_) fun ba hp=>?_; rotate_left
 ·obtain rfl:=oi hp;exact hq _ q.ext'
 refine⟨trivial,_,s.bk.rc rfl,_,_,_,_,_,_,_,_,_,_,_,s.bk.ra,?_⟩;obtain⟨A,ca,da⟩:∃ws,zaE vW [.agg 11 (xC c ad ae af ag)]=some ws/\zbZ wV ws=[.agg 11 (xC c ad ae af ag)]:=(zqr (zqp (zql rfl (zql rfl (zql ah.noFn (zql ai.noFn (zql rfl (zql rfl (zql rfl (zql ab.noFn (zql rfl (zql rfl (zql ac.noFn zqm)))))))))))) zqq);rw[ca,zd3]
 have y:zyh f ((C.fn (Fn.func 132) A [])) (fun e=>ztM c e):=by
  intro f' m' e r Q hs aj  hg hq
  show Wc prog tbl 132 (appS (zbZ wV A) _) m' Q
  rw[da];exact zyz aj (ah.sub hs) (ai.sub hs) (ab.sub hs) (ac.sub hs) hg hq
 obtain⟨ua,ea,hp⟩:=zqh hp;refine zyE (l:=c.Covers) (passes:=(fun e=>ztM c e)) q.pre ab y ea fun Aa fa=>?_;obtain⟨t,ga⟩:=q.call fa a;have w:=s.k ga;refine⟨_,rfl,?_⟩;refine zqS hp (fun ha hp=>?_) fun ha hp=>?_; rotate_left
 ·obtain rfl:=oi hp;exact hq _ t.ext'
 refine⟨trivial,_,w.bk.rc rfl,_,_,_,_,_,_,_,_,_,_,_,w.bk.ra,?_⟩;obtain⟨B,ia,ja⟩:∃ws,zaE vW [.agg 11 (xC c ad ae af ag)]=some ws/\zbZ wV ws=[.agg 11 (xC c ad ae af ag)]:=(zqr (zqp (zql rfl (zql rfl (zql ah.noFn (zql ai.noFn (zql rfl (zql rfl (zql rfl (zql ab.noFn (zql rfl (zql rfl (zql ac.noFn zqm)))))))))))) zqq);rw[ia,zd3]
 have z:zyi f ((C.fn (Fn.func 133) B [])) (fun g=>ztN c g):=by
  intro f' m' g r Q hs aj  hg hq
  show Wc prog tbl 133 (appS (zbZ wV B) _) m' Q
  rw[ja];exact zyA aj (ah.sub hs) (ai.sub hs) (ab.sub hs) (ac.sub hs) hg hq
 obtain⟨va,ka,hp⟩:=zqh hp;refine zyI (l:=c.Claims) (passes:=(fun g=>ztN c g)) t.pre ac z ka fun Ba la=>?_;obtain⟨ma,wa⟩:=t.call la a;refine⟨_,rfl,?_⟩;obtain rfl:=oi hp;exact hq _ ma.ext'
theorem zyO{c:Cs}{q s u w:C}{rz:Bool}(hS:Pre f m)(_ha102:Sl f q c.Book.Parcels)(_ha103:Sl f s c.Book.Entries)(y:Sl f u c.Covers)(A:Sl f w c.Claims)(hp:zt3 c=some rz)(hq:∀m',Ext m m'->Q (.c (.bool rz)) m'):Wc prog tbl 74 [.agg 11 (xC c q s u w)] m Q:=by
 have i:=hS.st;obtain⟨j,_⟩:=zr5;refine w74 ?_;unfold zt3 at hp;intro o e;obtain⟨l,a,n,d⟩:=i.blk e j 1;refine⟨trivial,_,d.bk.rc rfl,?_⟩;refine ifd hp (fun g hp=>?_) fun g hp=>?_
 ·obtain rfl:=oi hp;exact hq _ a.ext'
 refine⟨trivial,_,d.bk.rc rfl,y.isSl,?_⟩
 try rw[y.slLen]
 refine ifd hp (fun h hp=>?_) fun h hp=>?_
 ·obtain rfl:=oi hp;exact hq _ a.ext'
 refine⟨trivial,_,d.bk.rc rfl,A.isSl,?_⟩
 try rw[A.slLen]
 obtain rfl:=oi hp;exact hq _ a.ext'
theorem zyP{c:Cs}{ac ad ae af:C}{rz:List Rg}(hS:Pre f m)(ag:Sl f ac c.Book.Parcels)(ah:Sl f ad c.Book.Entries)(_ha107:Sl f ae c.Covers)(_ha110:Sl f af c.Claims)(hp:zt6 c=some rz)(hq:∀m' f' c0,Grw m f m' f'->Sl f' c0 rz->Q (.c c0) m'):Wc prog tbl 77 [.agg 11 (xC c ac ad ae af)] m Q:=by
 have S0:=hS.st;obtain⟨τ0,_⟩:=zr5;refine w77 ?_;unfold zt6 at hp;intro m0 Z;obtain⟨aa,ba,fb,d⟩:=S0.blk Z τ0 1;refine⟨trivial,trivial,_,d.bk.rc rfl,ah.isSl,?_⟩;intro R2 ab
 have ai:∀(p:Nat) (O:C) (P:Int) (q:List Rg) (F:M) (i:Nat->Nat),St (Fm.of m) f f F->Lb (Fm.of m) f i F 1 m.nxt 11 (xC c ac ad ae af)->Ow (Fm.of m) f i F 2 O q->zt5 c p q P=some rz->R2 [.c O,.c (Il P)] F:=by
  intro p
  induction p with
  | zero=>intro O P q F i r d g hp; cases hp
  | succ p ca=>
   intro O P q F i r d g hp;refine ab _ _ _ ?_;rw[zt5] at hp
   try rw[ah.slLen]
   refine ifd hp (fun da hp=>?_) fun da hp=>?_
   ·obtain⟨e,y,hp⟩:=zqh hp;obtain⟨n6,S,A,y⟩:=zqb y;obtain⟨_,ea⟩:=zsb ah y;refine⟨n6,S,(by first|exact A|(rw[ah.slLen];exact A)),_,_,_,_,_,_,_,_,(ea _ r.sub).1,?_⟩;intro mb fa;obtain⟨ib,ga,G,ha⟩:=r.blk fa i 3;have ia:=d.k G;have g:=g.k G;obtain⟨ja,ka,la,I,ma⟩:=ha.sto ga [Il e.Kind,Il e.Parcel,Il e.Other,Il e.From,Il e.To,Il e.Part,Il e.Day.Lo,Il e.Day.Hi];have na:=ia.k I;have g:=g.k I;refine⟨ja,ka,?_⟩;refine⟨trivial,_,_,ma.bk.rp (k:=6) (j:=2) rfl (by omega),?_⟩;obtain⟨oa,hp⟩:=zqi hp;intro ob pa;obtain⟨qa,sa,ta,ua,va,wa,xa⟩:=g.app' zwQ la (a:=e.Day) (show Rp.rep (α:=Rg) f _ e.Day from rfl) oa pa;have ya:=na.k wa;refine⟨qa,sa,ua,?_⟩;refine gdi hp fun za hp=>?_;exact ca _ _ _ _ ta va ya xa hp
   refine⟨trivial,trivial,_,d.bk.rc rfl,ag.isSl,?_⟩;intro bb Aa
   have ai:∀(s:Nat) (w:C) (B:Int) (t:List Rg) (o:M) (n:Nat->Nat),St (Fm.of m) f f o->Lb (Fm.of m) f n o 1 m.nxt 11 (xC c ac ad ae af)->Ow (Fm.of m) f n o 2 w t->zt4 c s t B=some rz->bb [.c w,.c (Il B)] o:=by
    intro s
    induction s with
    | zero=>intro w B t o n u d h hp; cases hp
    | succ s T=>
     intro w B t o n u d h hp;refine Aa _ _ _ ?_;rw[zt4] at hp
     try rw[ag.slLen]
     refine ifd hp (fun Ba hp=>?_) fun Ba hp=>?_; rotate_left
     ·obtain⟨Ca,Da,jb,Ea⟩:=h.freeze u;obtain rfl:=oi hp;exact hq _ Ca w Da.grw Ea
     obtain⟨l,z,hp⟩:=zqh hp;obtain⟨cb,Y,D,z⟩:=zqb z;obtain⟨_,Fa⟩:=zr9 ag z;refine⟨cb,Y,(by first|exact D|(rw[ag.slLen];exact D)),_,_,_,_,(Fa _ u.sub).1,?_⟩;intro pb Ga;obtain⟨kb,Ha,J,Ia⟩:=u.blk Ga n 4;have Ja:=d.k J;have h:=h.k J;obtain⟨Ka,La,Ma,N,Na⟩:=Ia.sto Ha [Il l.Owner,Il l.Value,Il l.Sown.Lo,Il l.Sown.Hi];have Oa:=Ja.k N;have h:=h.k N;refine⟨Ka,La,?_⟩;refine⟨trivial,_,_,Na.bk.rp (k:=2) (j:=2) rfl (by omega),?_⟩;obtain⟨Pa,hp⟩:=zqi hp;intro qb Qa;obtain⟨Ra,Sa,Ta,Ua,Va,Wa,Xa⟩:=h.app' zwQ Ma (a:=l.Sown) (show Rp.rep (α:=Rg) f _ l.Sown from rfl) Pa Qa;have Ya:=Oa.k Wa;refine⟨Ra,Sa,Ua,?_⟩;refine gdi hp fun Za hp=>?_;exact T _ _ _ _ Ta Va Ya Xa hp
   exact ai _ _ _ _ _ i r d g hp
 exact ai _ _ _ _ _ aa ba d (Ow.nil _ _ _ _ _) hp
theorem zyQ{c:Cs}{ac ad ae af:C}{rz:List Rg}(hS:Pre f m)(_ha102:Sl f ac c.Book.Parcels)(_ha103:Sl f ad c.Book.Entries)(ab:Sl f ae c.Covers)(_ha110:Sl f af c.Claims)(hp:zt8 c=some rz)(hq:∀m' f' c0,Grw m f m' f'->Sl f' c0 rz->Q (.c c0) m'):Wc prog tbl 78 [.agg 11 (xC c ac ad ae af)] m Q:=by
 have S0:=hS.st;obtain⟨τ0,_⟩:=zr5;refine w78 ?_;unfold zt8 at hp;intro m0 z;obtain⟨A,B,ya,g⟩:=S0.blk z τ0 1;refine⟨trivial,_,g.bk.rc rfl,ab.isSl,?_⟩;intro R2 va
 have ag:∀(i:Nat) (u:C) (w:Int) (l:List Rg) (q:M) (h:Nat->Nat),St (Fm.of m) f f q->Lb (Fm.of m) f h q 1 m.nxt 11 (xC c ac ad ae af)->Ow (Fm.of m) f h q 2 u l->zt7 c i l w=some rz->R2 [.c u,.c (Il w)] q:=by
  intro i
  induction i with
  | zero=>intro u w l q h n g e hp; cases hp
  | succ i D=>
   intro u w l q h n g e hp;refine va _ _ _ ?_;rw[zt7] at hp
   try rw[ab.slLen]
   refine ifd hp (fun F hp=>?_) fun F hp=>?_; rotate_left
   ·refine⟨trivial,_,_,g.bk.rp (k:=8) (j:=2) rfl (by omega),?_⟩;obtain⟨G,hp⟩:=zqi hp;intro Fa I;obtain⟨r,J,Aa,N,O,Ba,P⟩:=e.app' zwQ n (a:=c.Loss) (show Rp.rep (α:=Rg) f _ c.Loss from rfl) G I;refine⟨r,J,N,?_⟩;obtain⟨S,T,Ca,Y⟩:=P.freeze O;obtain rfl:=oi hp;exact hq _ S r T.grw Y
   obtain⟨d,o,hp⟩:=zqh hp;obtain⟨n6,y,p,o⟩:=zqb o;obtain⟨_,Z⟩:=zsk ab o;refine⟨n6,y,(by first|exact p|(rw[ab.slLen];exact p)),_,_,_,_,_,_,_,(Z _ n.sub).1,?_⟩;intro Ga aa;obtain⟨Ea,ba,s,ca⟩:=n.blk aa h 3;have da:=g.k s;have e:=e.k s;obtain⟨ea,fa,ga,t,ha⟩:=ca.sto ba [Il d.Society,Il d.Owner,Il d.Parcel,Il d.Sum,Il d.Until,Il d.Start.Lo,Il d.Start.Hi];have ia:=da.k t;have e:=e.k t;refine⟨ea,fa,?_⟩;refine⟨trivial,_,_,ha.bk.rp (k:=5) (j:=2) rfl (by omega),?_⟩;obtain⟨ja,hp⟩:=zqi hp;intro Ha ka;obtain⟨la,ma,na,oa,pa,qa,sa⟩:=e.app' zwQ ga (a:=d.Start) (show Rp.rep (α:=Rg) f _ d.Start from rfl) ja ka;have ta:=ia.k qa;refine⟨la,ma,oa,?_⟩;refine gdi hp fun ua hp=>?_;exact D _ _ _ _ na pa ta sa hp
 exact ag _ _ _ _ _ A B g (Ow.nil _ _ _ _ _) hp
theorem zyR{c:Cs}{af ag ah ai:C}{rz:Int}(hS:Pre f m)(ab:Sl f af c.Book.Parcels)(ac:Sl f ag c.Book.Entries)(ad:Sl f ah c.Covers)(ae:Sl f ai c.Claims)(hp:zt9 c=some rz)(hq:∀m',Ext m m'->Q (.c (Il rz)) m'):Wc prog tbl 29 [.agg 11 (xC c af ag ah ai)] m Q:=by
 have S0:=hS.st;obtain⟨τ0,_⟩:=zr5;refine w29 ?_;unfold zt9 at hp;intro m0 y;obtain⟨a,n,sa,o⟩:=S0.blk y τ0 1;refine⟨trivial,_,_,_,_,o.bk.rp (k:=0) (j:=4) rfl (by omega),?_⟩;obtain⟨ta,z,hp⟩:=zqh hp;refine zxm (b:=c.Book) n.pre ab ac z fun m6 A=>?_;obtain⟨e,B⟩:=n.call A a;have p:=o.k B;refine⟨_,rfl,?_⟩;refine zqR hp (fun D hp=>?_) fun D hp=>?_
 ·obtain rfl:=oi hp;exact hq _ e.ext'
 refine⟨_,_,_,_,_,_,_,_,_,_,_,p.bk.ra,?_⟩;obtain⟨ua,F,hp⟩:=zqh hp;refine zyO (c:=c) e.pre ab ac ad ae F fun Ea G=>?_;obtain⟨g,I⟩:=e.call G a;have q:=p.k I;refine⟨_,rfl,?_⟩;refine zqS hp (fun J hp=>?_) fun J hp=>?_
 ·obtain rfl:=oi hp;exact hq _ g.ext'
 refine⟨_,_,_,_,_,_,_,_,_,_,_,q.bk.ra,?_⟩;obtain⟨va,N,hp⟩:=zqh hp;refine zyN (c:=c) g.pre ab ac ad ae N fun Fa O=>?_;obtain⟨h,P⟩:=g.call O a;have i:=q.k P;refine⟨_,rfl,?_⟩;refine zqT hp (fun S hp=>?_) fun S hp=>?_
 ·obtain rfl:=oi hp;exact hq _ h.ext'
 refine⟨_,_,_,_,_,_,_,_,_,_,_,i.bk.ra,?_⟩;obtain⟨T,Y,hp⟩:=zqh hp;refine zyP (c:=c) h.pre ab ac ad ae Y fun Ga wa xa Z aa=>?_;obtain⟨r,d⟩:=h.callG Z a;have s:=i.k d;refine⟨_,rfl,?_⟩;obtain⟨ya,ba,hp⟩:=zqh hp;refine zxl (l:=T) r.pre aa ba fun Ha ca=>?_;obtain⟨t,da⟩:=r.call ca a;have ea:=s.k da;refine⟨_,rfl,_,_,_,_,_,_,_,_,_,_,_,ea.bk.ra,(by rw[show zaL cmC _=true from zoO (zql rfl (zql rfl (zql ab.noFn (zql ac.noFn (zql rfl (zql rfl (zql rfl (zql ad.noFn (zql rfl (zql rfl (zql ae.noFn zqm)))))))))))]; exact(s.bk.ra)),(by rw[show zaL cmC _=true from zoO (zql rfl (zql rfl (zql ab.noFn (zql ac.noFn (zql rfl (zql rfl (zql rfl (zql ad.noFn (zql rfl (zql rfl (zql ae.noFn zqm)))))))))))]; exact(i.bk.ra)),?_⟩;obtain⟨fa,ga,hp⟩:=zqh hp;refine zyQ (c:=c) t.pre (ab.sub d.fs) (ac.sub d.fs) (ad.sub d.fs) (ae.sub d.fs) ga fun Ia za Aa ha ia=>?_;obtain⟨u,Ba⟩:=t.callG ha a;refine⟨_,rfl,?_⟩;obtain⟨Ca,ja,hp⟩:=zqh hp;refine zxl (l:=fa) u.pre ia ja fun Ja ka=>?_;obtain⟨w,Da⟩:=u.call ka a;refine⟨_,rfl,?_⟩;refine gdi hp fun la hp=>?_;refine gdi hp fun ma hp=>?_;refine gdi hp fun na hp=>?_;refine ifd hp (fun oa hp=>?_) fun oa hp=>?_
 ·obtain rfl:=oi hp;exact hq _ w.ext'
 obtain rfl:=oi hp;exact hq _ w.ext'
theorem zyS{n:Int}{rz:Bool}(hS:Pre f m)(hp:zua n=some rz)(hq:∀m',Ext m m'->Q (.c (.bool rz)) m'):Wc prog tbl 108 [.c (Il n)] m Q:=by
 have g:=hS.st;obtain⟨h,_⟩:=zr5;refine zvp ?_;unfold zua at hp;obtain⟨i,a,hp⟩:=zqh hp;refine zys (n:=n) (last:=(5000:Int)) g.pre  a fun l d=>?_;obtain⟨e,j⟩:=g.call d h;refine⟨_,rfl,?_⟩;obtain rfl:=oi hp;exact hq _ e.ext'
theorem zyT{amount:Int}{sums:List Int}{F:C}{rz:Bool}(hS:Pre f m)(D:Sl f F sums)(hp:zub amount sums=some rz)(hq:∀m',Ext m m'->Q (.c (.bool rz)) m'):Wc prog tbl 62 [.c (Il amount),.c F] m Q:=by
 have s:=hS.st;obtain⟨t,_⟩:=zr5;refine w62 ?_;unfold zub at hp;obtain⟨u,g,hp⟩:=zqh hp;refine zys (n:=amount) (last:=(1000:Int)) s.pre  g fun A h=>?_;obtain⟨a,w⟩:=s.call h t;refine⟨_,rfl,?_⟩;refine zqS hp (fun i hp=>?_) fun i hp=>?_; rotate_left
 ·obtain rfl:=oi hp;exact hq _ a.ext'
 refine⟨D.isSl,?_⟩
 try rw[D.slLen]
 refine ifd hp (fun j hp=>?_) fun j hp=>?_; rotate_left
 ·obtain rfl:=oi hp;exact hq _ a.ext'
 have e:zyj f ((C.fn (Fn.func 108) [] [])) (fun d=>zua d):=by
  intro f' m' d r Q hs G  hg hq;exact zyS G  hg hq
 obtain⟨y,o,hp⟩:=zqh hp;refine zyM (l:=sums) (passes:=(fun d=>zua d)) a.pre D e o fun B p=>?_;obtain⟨q,z⟩:=a.call p t;refine⟨_,rfl,?_⟩;obtain rfl:=oi hp;exact hq _ q.ext'
theorem zyU{p:P3}{society:Int}{rz:Int}(hS:Pre f m)(hp:zud p society=some rz)(hq:∀m',Ext m m'->Q (.c (Il rz)) m'):Wc prog tbl 111 [.agg 3 [Il p.p0,Il p.p1,Il p.p2],.c (Il society)] m Q:=by
 have T:=hS.st;obtain⟨Y,_⟩:=zr5;refine zvA ?_;unfold zud at hp;intro m0 w;obtain⟨y,z,Z,A⟩:=T.blk w Y 1;refine gdi hp fun B hp=>?_;obtain⟨D,F,aa,q⟩:=A.freeze z;obtain⟨ba,hp⟩:=zqi hp;obtain⟨G,I,a⟩:=Bk.arS (α:=Int) (o:=0) (l:=([p.p0,p.p1,p.p2]:List Int)) (i:=Int.toNat (0:Int)) (j:=Int.toNat (society+1)) q rfl (yaj rfl) (Go.Abs.zre _ ([p.p0,p.p1,p.p2]:List Int)) (by omega) (by show Int.toNat (society+1)<=3; omega);refine⟨Int.toNat (0:Int),Int.toNat (society+1),rfl,(show(society+1)=((Int.toNat (society+1):Nat):Int) by omega),G,I,a.isSl,?_⟩;intro R4 S
 have ab:∀(d:Nat) (r:Int) (s:Int) (t:M) (g:Nat->Nat),St (Fm.of m) f D t->zuc p society d r s=some rz->R4 [.c (Il r),.c (Il s)] t:=by
  intro d
  induction d with
  | zero=>intro r s t g e hp; cases hp
  | succ d J=>
   intro r s t g e hp;refine S _ _ _ ?_;rw[zuc] at hp
   try rw[a.slLen]
   refine ifd hp (fun N hp=>?_) fun N hp=>?_; rotate_left
   ·obtain rfl:=oi hp;exact hq _ e.ext'
   obtain⟨da,h,hp⟩:=zqh hp;obtain⟨n8,u,n,h⟩:=zqb h;refine⟨n8,u,(by first|exact n|(rw[a.slLen];exact n)),_,(a.rdI h e.sub),?_⟩;refine gdi hp fun O hp=>?_;refine gdi hp fun P hp=>?_;exact J _ _ _ g e hp
 exact ab _ _ _ _ y F hp
theorem zyV{l:List Int}{D:C}{rz:List Int}(hS:Pre f m)(A:Sl f D l)(hp:zue l=some rz)(hq:∀m' f' c0,Grw m f m' f'->On m f' m' c0 rz->Q (.c c0) m'):Wc prog tbl 112 [.c D] m Q:=by
 have q:=hS.st;obtain⟨r,_⟩:=zr5;refine zvS ?_;unfold zue at hp;refine⟨(zrz A),(zrz A),trivial,(Bool.or_true _),?_⟩
 cases d:zl5 D with
 | true=>
  refine zqV ?_;obtain rfl:=zry A d;obtain⟨_,hp⟩:=zqi hp;obtain rfl:=oi hp;exact hq _ _ .sl0 q.grw (Ow.nil _ _ r _ 0).on
 | false=>
  refine zqU ?_;intro y e;obtain⟨s,g,t,h⟩:=Ow.lit0 (α:=Int) q r 1 e;obtain⟨i,hp⟩:=zqi hp;obtain⟨a,j,u,n,o,w,p⟩:=h.appL zwN g A i;refine⟨a,j,n,?_⟩;obtain rfl:=oi hp;exact hq _ f a o.grw p.on
theorem zyW{p:P3}{societies:Int}{rz:List Int}(hS:Pre f m)(hp:zuf p societies=some rz)(hq:∀m' f' c0,Grw m f m' f'->Sl f' c0 rz->Q (.c c0) m'):Wc prog tbl 64 [.agg 3 [Il p.p0,Il p.p1,Il p.p2],.c (Il societies)] m Q:=by
 have G:=hS.st;obtain⟨I,_⟩:=zr5;refine w64 ?_;unfold zuf at hp;intro m0 e;obtain⟨g,h,J,n⟩:=G.blk e I 1;obtain⟨N,a,O,d⟩:=n.freeze h;obtain⟨P,hp⟩:=zqi hp;obtain⟨q,r,s⟩:=Bk.arS (α:=Int) (o:=0) (l:=([p.p0,p.p1,p.p2]:List Int)) (i:=Int.toNat (0:Int)) (j:=Int.toNat societies) d rfl (yaj rfl) (Go.Abs.zre _ ([p.p0,p.p1,p.p2]:List Int)) (by omega) (by show Int.toNat societies<=3; omega);refine⟨Int.toNat (0:Int),Int.toNat societies,rfl,(show societies=((Int.toNat societies:Nat):Int) by omega),q,r,?_⟩;obtain⟨S,t,hp⟩:=zqh hp;refine zyV (l:=((([p.p0,p.p1,p.p2]:List Int).take (Int.toNat societies)).drop (Int.toNat (0:Int)))) a.pre s t fun m5 T u w y=>?_;obtain⟨Y,z,Z,A⟩:=a.callO w y g 2;refine⟨_,rfl,?_⟩;obtain⟨B,D,aa,F⟩:=A.freeze z;obtain rfl:=oi hp;exact hq _ B u D.grw F
theorem zyX{d:Dm}{rz:P3}(hS:Pre f m)(hp:zuh d=some rz)(hq:∀m',Ext m m'->Q (.agg 3 [Il rz.p0,Il rz.p1,Il rz.p2]) m'):Wc prog tbl 63 [.agg 4 [Il d.amount,Il d.sums.p0,Il d.sums.p1,Il d.sums.p2]] m Q:=by
 have S0:=hS.st;obtain⟨τ0,_⟩:=zr5;refine w63 ?_;unfold zuh at hp;intro m0 aa;obtain⟨ba,ca,Wa,da⟩:=S0.blk aa τ0 1;intro m1 ea;obtain⟨G,I,fa,ga⟩:=ca.blk ea ba 2;have J:=da.k fa;refine⟨trivial,_,_,_,J.bk.rp (k:=1) (j:=3) rfl (by omega),?_⟩;obtain⟨q,ha,hp⟩:=zqh hp;refine zyU (p:=d.sums) (society:=(2:Int)) I.pre  ha fun m6 ia=>?_;obtain⟨N,O⟩:=I.call ia G;have z:=J.k O;have P:=ga.k O;refine⟨_,rfl,trivial,_,z.bk.rc rfl,?_⟩;refine ifd hp (fun ja hp=>?_) fun ja hp=>?_
 ·refine⟨trivial,_,_,_,z.bk.rp (k:=1) (j:=3) rfl (by omega),?_⟩;obtain⟨ka,la,ma,Ya,na⟩:=P.sto N [Il d.sums.p0,Il d.sums.p1,Il d.sums.p2];refine⟨ka,la,?_⟩;refine⟨_,_,_,na.bk.ra,?_⟩;obtain rfl:=oi hp;exact hq _ ma.ext'
 intro ab oa;obtain⟨pa,qa,S,r⟩:=N.blk oa G 3;have i:=z.k S;have s:=P.k S;intro Ra sa
 have ac:∀(u:Nat) (n:Int) (o:Int) (a:Int) (e:Int) (g:Int) (t:M) (h:Nat->Nat),St (Fm.of m) f f t->Lb (Fm.of m) f h t 1 m.nxt 4 [Il d.amount,Il d.sums.p0,Il d.sums.p1,Il d.sums.p2]->Lb (Fm.of m) f h t 2 m0.nxt 3 [Il 0,Il 0,Il 0]->Lb (Fm.of m) f h t 3 m6.nxt 3 [Il a,Il e,Il g]->zug d q u a e g n o=some rz->Ra [.c (Il n),.c (Il o)] t:=by
  intro u
  induction u with
  | zero=>intro n o a e g t h w i s r hp; cases hp
  | succ u Z=>
   intro n o a e g t h w i s r hp;refine sa _ _ _ ?_;rw[zug] at hp;refine ifd hp (fun ta hp=>?_) fun ta hp=>?_; rotate_left
   ·refine⟨_,_,_,r.bk.ra,?_⟩;obtain⟨ua,va,wa,Za,xa⟩:=s.sto w [Il a,Il e,Il g];refine⟨ua,va,?_⟩;refine⟨_,_,_,xa.bk.ra,?_⟩;obtain rfl:=oi hp;exact hq _ wa.ext'
   refine⟨trivial,_,i.bk.rc rfl,trivial,_,_,_,i.bk.rp (k:=1) (j:=3) rfl (by omega),?_⟩;obtain⟨y,ya,hp⟩:=zqh hp;refine zyU (p:=d.sums) (society:=o) w.pre  ya fun bb za=>?_;obtain⟨Aa,A⟩:=w.call za h;have T:=i.k A;have Ba:=s.k A;have Ca:=r.k A;refine⟨_,rfl,(T.bk.rc rfl),?_⟩;refine gdi hp fun Da hp=>?_;refine gdi hp fun Ea hp=>?_;refine gdi hp fun Fa hp=>?_;refine gdi hp fun Ga hp=>?_;refine gdi hp fun Ha hp=>?_;refine gdi hp fun Ia hp=>?_;obtain⟨Ja,hp⟩:=zqi hp;refine⟨Ja,trivial,?_⟩;obtain⟨Ka,hp⟩:=zqi hp;obtain⟨Sa,D,F⟩:=zqO Ka;refine⟨Sa,D,F,?_⟩;obtain⟨La,Ma,Na,Y,B⟩:=Ca.sta Aa (pre:=[]) (post:=[]) (l:=([a,e,g]:List Int)) (enc:=(C.int .i64)) rfl rfl D F ((((d.amount * y) / q) - n))
   replace B:Lb _ _ _ _ _ _ _ [(Il (sti o 0 (((d.amount * y) / q) - n) a)),(Il (sti o 1 (((d.amount * y) / q) - n) e)),(Il (sti o 2 (((d.amount * y) / q) - n) g))]:=B
   have Oa:=T.k Y;have Pa:=Ba.k Y;refine⟨La,Ma,?_⟩;refine gdi hp fun Qa hp=>?_;exact Z _ _ _ _ _ _ h Na Oa Pa B hp
 exact ac _ _ _ _ _ _ _ pa qa i s r hp
theorem zyY{amount:Int}{sums:List Int}{ab:C}{rz:List Int × Int}(hS:Pre f m)(aa:Sl f ab sums)(hp:zui amount sums=some rz)(hq:∀m' f' c0,Grw m f m' f'->Sl f' c0 rz.1->Q (.tup [.c c0,.c (Il rz.2)]) m'):Wc prog tbl 19 [.c (Il amount),.c ab] m Q:=by
 have l:=hS.st;obtain⟨τ0,_⟩:=zr5;refine w19 ?_;unfold zui at hp;refine⟨aa.isSl,?_⟩
 try rw[aa.slLen]
 refine ifd hp (fun n hp=>?_) fun n hp=>?_
 ·obtain rfl:=oi hp;exact hq _ f .sl0 l.grw (Sl.nil _)
 obtain⟨ba,o,hp⟩:=zqh hp;refine zyT (amount:=amount) (sums:=sums) l.pre aa o fun m1 q=>?_;obtain⟨e,ca⟩:=l.call q τ0;refine⟨_,rfl,?_⟩;refine zqT hp (fun r hp=>?_) fun r hp=>?_
 ·obtain rfl:=oi hp;exact hq _ f .sl0 e.grw (Sl.nil _)
 intro m3 s;obtain⟨g,t,da,u⟩:=e.blk s τ0 1;obtain⟨w,A,B,ea,D⟩:=u.sto t [Il amount,Il 0,Il 0,Il 0];refine⟨w,A,?_⟩;refine⟨trivial,0,3,rfl,rfl,_,zra (by decide),?_⟩;obtain⟨F,hp⟩:=zqi hp;obtain⟨G,fa,j,h,ga,a⟩:=Lb.cp3 (pre:=[Il amount]) (post:=[]) (x:=(0:Int)) (y:=(0:Int)) (z:=(0:Int)) zyn D B rfl aa F rfl
 replace a:Lb _ _ _ _ _ _ _ [Il amount,(Il (sums.getD 0 (0:Int))),(Il (sums.getD 1 (0:Int))),(Il (sums.getD 2 (0:Int)))]:=a
 refine⟨_,G,j,?_⟩;refine⟨_,_,_,_,a.bk.ra,?_⟩;obtain⟨I,J,hp⟩:=zqh hp;refine zyX (d:=({ amount:=amount,sums:=({ p0:=(sums.getD 0 (0:Int)),p1:=(sums.getD 1 (0:Int)),p2:=(sums.getD 2 (0:Int)) }:P3) }:Dm)) h.pre  J fun ka N=>?_;obtain⟨i,ha⟩:=h.call N g;refine⟨_,_,_,rfl,aa.isSl,?_⟩
 try rw[aa.slLen]
 obtain⟨ia,O,hp⟩:=zqh hp;refine zyW (p:=I) (societies:=(sums.length:Int)) i.pre  O fun la P S T Y=>?_;obtain⟨Z,ja⟩:=i.callG T g;refine⟨_,rfl,?_⟩;obtain rfl:=oi hp;exact hq _ P S Z.grw Y
theorem zyZ{x:Clm}{p:P3}{b0:Nat}{rz:Bool}(hS:Pre f m)(I:Bk f b0 3 [Il p.p0,Il p.p1,Il p.p2])(hp:zuj x p=some rz)(hq:∀m',Ext m m'->Q (.c (.bool rz)) m'):Wc prog tbl 121 [.agg 3 [Il x.Society,Il x.Paid.Lo,Il x.Paid.Hi],.c (.ptr b0 0)] m Q:=by
 have w:=hS.st;obtain⟨y,_⟩:=zr5;refine zvq ?_;unfold zuj at hp;intro F i;obtain⟨o,a,z,e⟩:=w.blk i y 1;refine⟨trivial,_,_,e.bk.rp (k:=1) (j:=2) rfl (by omega),trivial,_,e.bk.rc rfl,trivial,?_⟩;obtain⟨q,d,hp⟩:=zqh hp;obtain⟨A,g,h,d⟩:=zqb d;refine⟨A,g,h,_,((I.sub a.sub).rc (zqN (l:=([p.p0,p.p1,p.p2]:List Int)) (enc:=(C.int .i64)) 0 rfl d)),?_⟩;obtain⟨B,s,hp⟩:=zqh hp;refine zyt (r:=x.Paid) (n:=q) a.pre  s fun G t=>?_;obtain⟨u,D⟩:=a.call t o;refine⟨_,rfl,?_⟩;obtain rfl:=oi hp;exact hq _ u.ext'
theorem zy0{p:P3}{claims:List Clm}{G:C}{rz:Bool}(hS:Pre f m)(I:Sl f G claims)(hp:zuk p claims=some rz)(hq:∀m',Ext m m'->Q (.c (.bool rz)) m'):Wc prog tbl 70 [.agg 3 [Il p.p0,Il p.p1,Il p.p2],.c G] m Q:=by
 have w:=hS.st;obtain⟨y,_⟩:=zr5;refine w70 ?_;unfold zuk at hp;intro D h;obtain⟨i,j,z,n⟩:=w.blk h y 1;obtain⟨o,d,q,e⟩:=n.freeze j
 have g:zyi o ((C.fn (Fn.func 121) [] [(W.c (C0.ptr m.nxt 0))])) (fun a=>zuj a p):=by
  intro f' m' a r Q hs J  hg hq;exact zyZ J (e.sub hs) hg hq
 obtain⟨A,s,hp⟩:=zqh hp;refine zyI (l:=claims) (passes:=(fun a=>zuj a p)) d.pre (I.sub q.fs) g s fun F t=>?_;obtain⟨u,B⟩:=d.call t i;refine⟨_,rfl,?_⟩;obtain rfl:=oi hp;exact hq _ u.ext'
theorem zy1{c:Cs}{t:Dt}{ad ae af ag ah ai aj:C}{rz:Bool}(hS:Pre f m)(_ha102:Sl f ad c.Book.Parcels)(_ha103:Sl f ae c.Book.Entries)(ac:Sl f af c.Covers)(_ha110:Sl f ag c.Claims)(_ha200:Sl f ah t.Book.Days)(_ha201:Sl f ai t.Book.Sown)(ab:Sl f aj t.Starts)(hp:zum c t=some rz)(hq:∀m',Ext m m'->Q (.c (.bool rz)) m'):Wc prog tbl 67 [.agg 11 (xC c ad ae af ag),.agg 4 [ah,ai,aj,Il t.Loss]] m Q:=by
 have S0:=hS.st;obtain⟨τ0,_⟩:=zr5;refine w67 ?_;unfold zum at hp;intro m0 B;obtain⟨D,F,pa,G⟩:=S0.blk B τ0 1;intro m1 I;obtain⟨J,s,N,a⟩:=F.blk I D 2;have d:=G.k N;refine⟨trivial,_,a.bk.rc rfl,ab.isSl,trivial,_,d.bk.rc rfl,ac.isSl,?_⟩
 try rw[ab.slLen]
 try rw[ac.slLen]
 refine zqR hp (fun O hp=>?_) fun O hp=>?_
 ·obtain rfl:=oi hp;exact hq _ s.ext'
 refine⟨trivial,_,a.bk.rc rfl,ab.isSl,?_⟩;intro R5 ka
 have ak:∀(h:Nat) (P:Bool) (y:Int) (q:M) (e:Nat->Nat),St (Fm.of m) f f q->Lb (Fm.of m) f e q 1 m.nxt 11 (xC c ad ae af ag)->Lb (Fm.of m) f e q 2 m0.nxt 4 [ah,ai,aj,Il t.Loss]->zul c t h y=some rz->R5 [.c (.bool P),.c (Il y)] q:=by
  intro h
  induction h with
  | zero=>intro P y q e g d a hp; cases hp
  | succ h S=>
   intro P y q e g d a hp;refine ka _ _ _ ?_;rw[zul] at hp
   try rw[ab.slLen]
   refine ifd hp (fun T hp=>?_) fun T hp=>?_; rotate_left
   ·refine⟨trivial,_,_,d.bk.rp (k:=8) (j:=2) rfl (by omega),trivial,_,a.bk.rc rfl,?_⟩;obtain⟨sa,Y,hp⟩:=zqh hp;refine zyt (r:=c.Loss) (n:=t.Loss) g.pre  Y fun wa Z=>?_;obtain⟨aa,ta⟩:=g.call Z e;refine⟨_,rfl,?_⟩;obtain rfl:=oi hp;exact hq _ aa.ext'
   obtain⟨ba,l,hp⟩:=zqh hp;obtain⟨n9,z,o,l⟩:=zqb l;refine⟨n9,z,(by first|exact o|(rw[ab.slLen];exact o)),_,(ab.rdI l g.sub),trivial,_,d.bk.rc rfl,?_⟩;obtain⟨ca,i,hp⟩:=zqh hp;obtain⟨la,A,p,i⟩:=zqb i;obtain⟨_,da⟩:=zsk ac i;refine⟨la,A,(by first|exact p|(rw[ac.slLen];exact p)),(ac.isPt i _),_,_,((da _ g.sub).2.2 5 2 (by omega) (by decide)),?_⟩;obtain⟨va,ea,hp⟩:=zqh hp;refine zyt (r:=ca.Start) (n:=ba) g.pre  ea fun xa fa=>?_;obtain⟨u,w⟩:=g.call fa e;have ga:=d.k w;have ha:=a.k w;refine⟨_,rfl,?_⟩;refine zqT hp (fun ia hp=>?_) fun ia hp=>?_
   ·obtain rfl:=oi hp;exact hq _ u.ext'
   refine gdi hp fun ja hp=>?_;exact S _ _ _ e u ga ha hp
 exact ak _ _ _ _ J s d a hp
theorem zy2{c:Cs}{t:Tr}{ab ac ad ae af ag:C}{rz:Hd × Int}(hS:Pre f m)(ah:Sl f ab c.Book.Parcels)(ai:Sl f ac c.Book.Entries)(_ha107:Sl f ad c.Covers)(_ha110:Sl f ae c.Claims)(aj:Sl f af t.Days)(ak:Sl f ag t.Sown)(hp:zun c t=some rz)(hq:∀m',Ext m m'->Q (.tup [.agg 4 [.bool rz.1.There,.bool rz.1.Covered,Il rz.1.Owner,Il rz.1.Value],.c (Il rz.2)]) m'):Wc prog tbl 68 [.agg 11 (xC c ab ac ad ae),.agg 2 [af,ag]] m Q:=by
 have S0:=hS.st;obtain⟨τ0,_⟩:=zr5;refine w68 ?_;unfold zun at hp;intro m0 fa;obtain⟨r,ga,ia,s⟩:=S0.blk fa τ0 1;intro m1 u;obtain⟨w,y,z,A⟩:=ga.blk u r 2;have B:=s.k z;intro m2 D;obtain⟨F,i,l,G⟩:=y.blk D w 3;have d:=B.k l;have I:=A.k l;refine⟨trivial,_,_,_,_,d.bk.rp (k:=0) (j:=4) rfl (by omega),_,_,I.bk.ra,trivial,_,d.bk.rc rfl,?_⟩;obtain⟨ja,J,hp⟩:=zqh hp;refine zxT (b:=c.Book) (t:=t) (day:=c.Day) i.pre ah ai aj ak J fun qa ka la N n=>?_;obtain⟨e,o⟩:=i.callG N F;have O:=d.k o;have p:=G.k o;refine⟨_,_,rfl,?_⟩;refine zqR hp (fun P hp=>?_) fun P hp=>?_
 ·obtain⟨S,T,Y,ma,Z⟩:=p.sto e [.bool false,.bool false,Il 0,Il 0];refine⟨S,T,?_⟩;refine⟨_,_,_,_,Z.bk.ra,?_⟩;obtain rfl:=oi hp;exact hq _ Y.ext'
 refine⟨trivial,_,O.bk.rc rfl,?_⟩;obtain⟨a,g,hp⟩:=zqh hp;obtain⟨ha,q,h,g⟩:=zqb g;obtain⟨_,aa⟩:=zsd n g;refine⟨ha,q,(by first|exact h|(rw[n.slLen];exact h)),_,_,_,_,(aa _ e.sub).1,?_⟩;obtain⟨ba,ca,da,na,ea⟩:=p.sto e [.bool a.There,.bool a.Covered,Il a.Owner,Il a.Value];refine⟨ba,ca,?_⟩;refine⟨_,_,_,_,ea.bk.ra,?_⟩;obtain rfl:=oi hp;exact hq _ da.ext'
theorem zy3{c:Cs}{v:Cv}{end_:Hd}{start:Int}{O P S T:C}{rz:Bool}(hS:Pre f m)(_ha102:Sl f O c.Book.Parcels)(_ha103:Sl f P c.Book.Entries)(_ha107:Sl f S c.Covers)(_ha110:Sl f T c.Claims)(hp:zuo c v end_ start=some rz)(hq:∀m',Ext m m'->Q (.c (.bool rz)) m'):Wc prog tbl 119 [.agg 11 (xC c O P S T),.agg 7 [Il v.Society,Il v.Owner,Il v.Parcel,Il v.Sum,Il v.Until,Il v.Start.Lo,Il v.Start.Hi],.agg 4 [.bool end_.There,.bool end_.Covered,Il end_.Owner,Il end_.Value],.c (Il start)] m Q:=by
 have F:=hS.st;obtain⟨G,_⟩:=zr5;refine zvC ?_;unfold zuo at hp;intro I i;obtain⟨j,l,B,n⟩:=F.blk i G 1;intro J o;obtain⟨p,q,r,s⟩:=l.blk o j 2;have t:=n.k r;intro N u;obtain⟨D,a,g,h⟩:=q.blk u p 3;have d:=t.k g;have e:=s.k g;refine⟨trivial,_,e.bk.rc rfl,trivial,_,d.bk.rc rfl,?_⟩;refine ifd hp (fun w hp=>?_) fun w hp=>?_; rotate_left
 ·obtain rfl:=oi hp;exact hq _ a.ext'
 refine⟨trivial,_,h.bk.rc rfl,?_⟩;refine zqS hp (fun y hp=>?_) fun y hp=>?_; rotate_left
 ·obtain rfl:=oi hp;exact hq _ a.ext'
 refine⟨trivial,_,h.bk.rc rfl,trivial,_,e.bk.rc rfl,?_⟩;refine ifd hp (fun z hp=>?_) fun z hp=>?_; rotate_left
 ·obtain rfl:=oi hp;exact hq _ a.ext'
 refine⟨trivial,_,d.bk.rc rfl,?_⟩;refine ifd hp (fun A hp=>?_) fun A hp=>?_; rotate_left
 ·obtain rfl:=oi hp;exact hq _ a.ext'
 refine⟨trivial,_,d.bk.rc rfl,trivial,_,e.bk.rc rfl,?_⟩;obtain rfl:=oi hp;exact hq _ a.ext'
theorem zy4{c:Cs}{end_:Hd}{starts:List Int}{loss:Int}{ad ae af ag ah:C}{rz:Dm}(hS:Pre f m)(aj:Sl f ad c.Book.Parcels)(ak:Sl f ae c.Book.Entries)(ac:Sl f af c.Covers)(am:Sl f ag c.Claims)(ai:Sl f ah starts)(hp:zuq c end_ starts loss=some rz)(hq:∀m',Ext m m'->Q (.agg 4 [Il rz.amount,Il rz.sums.p0,Il rz.sums.p1,Il rz.sums.p2]) m'):Wc prog tbl 69 [.agg 11 (xC c ad ae af ag),.agg 4 [.bool end_.There,.bool end_.Covered,Il end_.Owner,Il end_.Value],.c ah,.c (Il loss)] m Q:=by
 have S0:=hS.st;obtain⟨τ0,_⟩:=zr5;refine w69 ?_;unfold zuq at hp;intro m0 oa;obtain⟨pa,qa,Hb,sa⟩:=S0.blk oa τ0 1;intro m1 ta;obtain⟨ua,va,wa,xa⟩:=qa.blk ta pa 2;have ya:=sa.k wa;intro m2 za;obtain⟨Aa,Ba,Z,Ca⟩:=va.blk za ua 3;have Da:=ya.k Z;have aa:=xa.k Z;refine⟨trivial,_,aa.bk.rc rfl,?_⟩;refine gdi hp fun Ea hp=>?_;refine gdi hp fun Fa hp=>?_;refine gdi hp fun Ga hp=>?_;refine gdi hp fun Ha hp=>?_;refine gdi hp fun Ia hp=>?_;refine gdi hp fun Ja hp=>?_;intro m4 Ka;obtain⟨La,Ma,y,Na⟩:=Ba.blk Ka Aa 4;have Oa:=Da.k y;have Pa:=aa.k y;have Qa:=Ca.k y;obtain⟨Ra,Sa,Ta,z,j⟩:=Na.sto Ma [(Il ((end_.Value * loss) / (100:Int))),Il 0,Il 0,Il 0];have n:=Oa.k z;have q:=Pa.k z;have o:=Qa.k z;refine⟨Ra,Sa,?_⟩;refine⟨trivial,_,n.bk.rc rfl,ac.isSl,?_⟩;intro R7 Cb
 have ao:∀(r:Nat) (x8:Int) (h:Int) (d:Int) (e:Int) (g:Int) (O:M) (i:Nat->Nat),St (Fm.of m) f f O->Lb (Fm.of m) f i O 1 m.nxt 11 (xC c ad ae af ag)->Lb (Fm.of m) f i O 2 m0.nxt 4 [.bool end_.There,.bool end_.Covered,Il end_.Owner,Il end_.Value]->Lb (Fm.of m) f i O 3 m1.nxt 4 [Il 0,Il 0,Il 0,Il 0]->Lb (Fm.of m) f i O 4 m2.nxt 4 [Il h,Il d,Il e,Il g]->zup c end_ starts r h d e g x8=some rz->R7 [.c (Il x8)] O:=by
  intro r
  induction r with
  | zero=>intro x8 h d e g O i s n q o j hp; cases hp
  | succ r ja=>
   intro x8 h d e g O i s n q o j hp;refine Cb _ _ ?_;rw[zup] at hp
   try rw[ac.slLen]
   refine ifd hp (fun Va hp=>?_) fun Va hp=>?_; rotate_left
   ·refine⟨_,_,_,_,j.bk.ra,?_⟩;obtain⟨Wa,Xa,Ya,Ib,Za⟩:=o.sto s [Il h,Il d,Il e,Il g];refine⟨Wa,Xa,?_⟩;refine⟨_,_,_,_,Za.bk.ra,?_⟩;obtain rfl:=oi hp;exact hq _ Ya.ext'
   obtain⟨a,A,hp⟩:=zqh hp;obtain⟨Db,ka,P,A⟩:=zqb A;obtain⟨_,ab⟩:=zsk ac A;refine⟨Db,ka,(by first|exact P|(rw[ac.slLen];exact P)),_,_,_,_,_,_,_,(ab _ s.sub).1,?_⟩;intro Rb bb;obtain⟨B,cb,t,db⟩:=s.blk bb i 5;have eb:=n.k t;have fb:=q.k t;have gb:=o.k t;have hb:=j.k t;obtain⟨ib,jb,D,u,ba⟩:=db.sto cb [Il a.Society,Il a.Owner,Il a.Parcel,Il a.Sum,Il a.Until,Il a.Start.Lo,Il a.Start.Hi];have ca:=eb.k u;have da:=fb.k u;have kb:=gb.k u;have mb:=hb.k u;refine⟨ib,jb,?_⟩;refine⟨_,_,_,_,_,_,_,_,_,_,_,ca.bk.ra,_,_,_,_,_,_,_,ba.bk.ra,_,_,_,_,da.bk.ra,?_⟩;obtain⟨ob,F,hp⟩:=zqh hp;obtain⟨Eb,la,S,F⟩:=zqb F;refine⟨Eb,la,(by first|exact S|(rw[ai.slLen];exact S)),_,(ai.rdI F D.sub),?_⟩;obtain⟨Jb,pb,hp⟩:=zqh hp;refine zy3 (c:=c) (v:=a) (end_:=end_) (start:=ob) D.pre aj ak ac am pb fun Sb qb=>?_;obtain⟨ea,p⟩:=D.call qb B;have fa:=ca.k p;have ga:=da.k p;have ha:=kb.k p;have G:=mb.k p;have ia:=ba.k p;refine⟨_,rfl,?_⟩;refine zqS hp (fun rb hp=>?_) fun rb hp=>?_; rotate_left
   ·refine gdi hp fun sb hp=>?_;exact ja _ _ _ _ _ _ B ea fa ga ha G hp
   refine⟨trivial,_,ia.bk.rc rfl,trivial,trivial,?_⟩;obtain⟨w,I,hp⟩:=zqh hp;obtain⟨Fb,ma,na,I⟩:=zqb I;refine⟨Fb,ma,na,_,(G.bk.rc (zqN (l:=([d,e,g]:List Int)) (enc:=(C.int .i64)) 1 rfl I)),trivial,_,ia.bk.rc rfl,?_⟩;obtain⟨tb,hp⟩:=zqi hp;refine⟨tb,trivial,trivial,?_⟩;obtain⟨ub,hp⟩:=zqi hp;obtain⟨Gb,T,Y⟩:=zqO ub;refine⟨Gb,T,Y,?_⟩;obtain⟨vb,wb,xb,J,N⟩:=G.sta ea (pre:=[Il h]) (post:=[]) (l:=([d,e,g]:List Int)) (enc:=(C.int .i64)) rfl rfl T Y ((w+a.Sum))
   replace N:Lb _ _ _ _ _ _ _ [Il h,(Il (sti a.Society 0 (w+a.Sum) d)),(Il (sti a.Society 1 (w+a.Sum) e)),(Il (sti a.Society 2 (w+a.Sum) g))]:=N
   have yb:=fa.k J;have zb:=ga.k J;have Ab:=ha.k J;refine⟨vb,wb,?_⟩;refine gdi hp fun Bb hp=>?_;exact ja _ _ _ _ _ _ B xb yb zb Ab N hp
 exact ao _ _ _ _ _ _ _ La Ta n q o j hp
theorem zy5{c:Cs}{t:Dt}{ag ah ai aj ak am ao:C}{rz:List Int × Int × Int}(hS:Pre f m)(ad:Sl f ag c.Book.Parcels)(ae:Sl f ah c.Book.Entries)(af:Sl f ai c.Covers)(ac:Sl f aj c.Claims)(ap:Sl f ak t.Book.Days)(aq:Sl f am t.Book.Sown)(ar:Sl f ao t.Starts)(hp:zur c t=some rz)(hq:∀m' f' c0,Grw m f m' f'->Sl f' c0 rz.1->Q (.tup [.c c0,.c (Il rz.2.1),.c (Il rz.2.2)]) m'):Wc prog tbl 25 [.agg 11 (xC c ag ah ai aj),.agg 4 [ak,am,ao,Il t.Loss]] m Q:=by
 have S0:=hS.st;obtain⟨τ0,_⟩:=zr5;refine w25 ?_;unfold zur at hp;intro m0 fa;obtain⟨ga,ha,xb,ia⟩:=S0.blk fa τ0 1;intro m1 ja;obtain⟨h,r,ka,la⟩:=ha.blk ja ga 2;have s:=ia.k ka;refine⟨_,_,_,_,_,_,_,_,_,_,_,s.bk.ra,?_⟩;obtain⟨yb,ma,hp⟩:=zqh hp;refine zyR (c:=c) r.pre ad ae af ac ma fun Fb na=>?_;obtain⟨i,u⟩:=r.call na h;have w:=s.k u;have y:=la.k u;refine⟨_,rfl,?_⟩;refine zqR hp (fun oa hp=>?_) fun oa hp=>?_
 ·obtain rfl:=oi hp;exact hq _ f .sl0 i.grw (Sl.nil _)
 refine⟨_,_,_,_,_,_,_,_,_,_,_,w.bk.ra,_,_,_,_,y.bk.ra,?_⟩;obtain⟨zb,pa,hp⟩:=zqh hp;refine zy1 (c:=c) (t:=t) i.pre ad ae af ac ap aq ar pa fun Gb qa=>?_;obtain⟨l,z⟩:=i.call qa h;have A:=w.k z;have B:=y.k z;refine⟨_,rfl,?_⟩;refine zqT hp (fun sa hp=>?_) fun sa hp=>?_
 ·obtain rfl:=oi hp;exact hq _ f .sl0 l.grw (Sl.nil _)
 refine⟨_,_,_,_,_,_,_,_,_,_,_,A.bk.ra,trivial,_,_,B.bk.rp (k:=0) (j:=2) rfl (by omega),?_⟩;obtain⟨a,ta,hp⟩:=zqh hp;refine zy2 (c:=c) (t:=t.Book) l.pre ad ae af ac ap aq ta fun Hb ua=>?_;obtain⟨va,D⟩:=l.call ua h;have wa:=A.k D;have xa:=B.k D;refine⟨_,_,_,_,_,rfl,?_⟩;intro Ib ya;obtain⟨F,za,G,Aa⟩:=va.blk ya h 3;have Ba:=wa.k G;have Ca:=xa.k G;obtain⟨Da,Ea,n,I,Fa⟩:=Aa.sto za [.bool a.1.There,.bool a.1.Covered,Il a.1.Owner,Il a.1.Value];have J:=Ba.k I;have N:=Ca.k I;refine⟨Da,Ea,?_⟩;refine zqR hp (fun Ga hp=>?_) fun Ga hp=>?_
 ·obtain rfl:=oi hp;exact hq _ f .sl0 n.grw (Sl.nil _)
 refine⟨_,_,_,_,_,_,_,_,_,_,_,J.bk.ra,_,_,_,_,Fa.bk.ra,trivial,_,N.bk.rc rfl,trivial,_,N.bk.rc rfl,?_⟩;obtain⟨e,Ha,hp⟩:=zqh hp;refine zy4 (c:=c) (end_:=a.1) (starts:=t.Starts) (loss:=t.Loss) n.pre ad ae af ac ar Ha fun Jb Ia=>?_;obtain⟨Ja,Ka⟩:=n.call Ia F;have La:=J.k Ka;refine⟨_,_,_,_,rfl,?_⟩;intro Kb Ma;obtain⟨O,Na,Oa,Pa⟩:=Ja.blk Ma F 4;have Qa:=La.k Oa;obtain⟨Ra,Sa,P,Ta,S⟩:=Pa.sto Na [Il e.amount,Il e.sums.p0,Il e.sums.p1,Il e.sums.p2];have Ua:=Qa.k Ta;refine⟨Ra,Sa,?_⟩;refine⟨_,_,_,_,S.bk.ra,?_⟩;obtain⟨g,Va,hp⟩:=zqh hp;refine zyX (d:=e) P.pre  Va fun Mb Wa=>?_;obtain⟨Xa,T⟩:=P.call Wa O;have Ya:=Ua.k T;have Za:=S.k T;refine⟨_,_,_,rfl,?_⟩;intro Nb ab;obtain⟨Y,bb,Z,cb⟩:=Xa.blk ab O 5;have db:=Ya.k Z;have eb:=Za.k Z;obtain⟨fb,gb,aa,ba,ca⟩:=cb.sto bb [Il g.p0,Il g.p1,Il g.p2];have da:=db.k ba;have hb:=eb.k ba;refine⟨fb,gb,?_⟩;refine⟨_,_,_,ca.bk.ra,trivial,_,da.bk.rc rfl,?_⟩;obtain⟨Ab,ib,hp⟩:=zqh hp;refine zy0 (p:=g) (claims:=c.Claims) aa.pre ac ib fun Ob jb=>?_;obtain⟨o,q⟩:=aa.call jb Y;have kb:=da.k q;have ea:=hb.k q;have mb:=ca.k q;refine⟨_,rfl,?_⟩;refine zqT hp (fun ob hp=>?_) fun ob hp=>?_
 ·obtain rfl:=oi hp;exact hq _ f .sl0 o.grw (Sl.nil _)
 refine⟨_,_,_,mb.bk.ra,trivial,_,kb.bk.rc rfl,?_⟩;obtain⟨Bb,pb,hp⟩:=zqh hp;refine zyW (p:=g) (societies:=c.Societies) o.pre  pb fun Eb qb rb sb tb=>?_;obtain⟨ub,vb⟩:=o.callG sb Y;have wb:=ea.k vb;refine⟨_,rfl,trivial,_,wb.bk.rc rfl,(ea.bk.rc rfl),?_⟩;obtain rfl:=oi hp;exact hq _ qb rb ub.grw tb
end
theorem zy6{c:Cs}{b0:Nat}{ar au av aw:C}{m f:M}{F:Fm}{n0 ly:Nat}{xs:List (Tr × Hd)}{I:Nat->(Nat->Prop)->M->Prop}{E:(Nat->Prop)->M->Prop}{S1:Nat->Prop}{Q:V->M->Prop}{rz:List (Tr × Hd)}{τ0:Nat->Nat}(hc:zqZ prog tbl n0 ly (VsW xs F.m.nxt) I E)(S0:St F f f m)(Y0:Yg n0 (YJW xs I rz) S1 F f τ0 m)(aH:Bk f b0 11 [(.int .i64 c.Book.Last),(.int .i64 c.Book.Owners),ar,au,(.int .i64 c.Societies),(.int .i64 c.Day),(.int .i64 c.Parcel),av,(.int .i64 c.Loss.Lo),(.int .i64 c.Loss.Hi),aw])(ax:Sl f ar c.Book.Parcels)(ad:Sl f au c.Book.Entries)(ay:Sl f av c.Covers)(az:Sl f aw c.Claims)(hp:zut c=some rz)(hq:∀v m' f' τ' S',St F f f' m'->(Yg n0 (YJW xs I ([]:List (Tr × Hd))) S' F f' τ' m'\/Yg n0 E S' F f' τ' m')->Q v m'):Wc prog tbl 188 [.c (.fn (.yield ly) [] []),.c (.ptr b0 0)] m Q:=by
 have bH:F.m.nxt<=m.nxt:=S0.ext.nxt;refine zvr ?_;unfold zut at hp;intro m0 aV;obtain⟨τ1299,S1297,aW,L1300⟩:=S0.blk aV τ0 1;have Y1301:=Y0.k aW (by decide);refine⟨trivial,trivial,_,(aH.sub S1297.sub).rc rfl,ad.isSl,?_⟩;intro m2 aX;obtain⟨τ1305,S1303,aA,L1306⟩:=S1297.blk aX τ1299 2;have L1307:=L1300.k aA (by decide);have Y1308:=Y1301.k aA (by decide)
 try rw[ad.slLen]
 obtain⟨aY,aZ,S1309,aB,L1313⟩:=L1306.sto S1303 [(.int .i64 (c.Book.Entries.length:Int))];have L1314:=L1307.k aB (by decide);have Y1315:=Y1308.k aB (by decide);refine⟨aY,aZ,?_⟩;refine⟨_,_,_,_,_,_,_,_,_,_,_,(aH.sub S1309.sub).ra,?_⟩;obtain⟨a0,a1,hp⟩:=zqh hp;refine zyP (c:=c) S1309.pre ax ad ay az a1 fun bI bv bw a2 a3=>?_;obtain⟨S1318,y⟩:=S1309.callG a2 τ1305;have L1324:=L1314.k y (by decide);have L1325:=L1313.k y (by decide);have Y1326:=Y1315.k y (by decide);refine⟨_,rfl,?_⟩;obtain⟨bx,a4,hp⟩:=zqh hp;refine zxM (l:=a0) S1318.pre a3 a4 fun br bz bA a5 a6=>?_;obtain⟨S1329,A⟩:=S1318.callG a5 τ1305;have L1335:=L1324.k A (by decide);have L1336:=L1325.k A (by decide);have Y1337:=Y1326.k A (by decide);refine⟨_,rfl,?_⟩;have bs:F.m.nxt<=br.nxt:=S1329.ext.nxt
 refine zrt (α:=List Int) S1329 a6 (σ:=(List (Tr × Hd)) × (Nat->Prop) × Bool) 3 (fun st bb=>(False\/(False\/(st.2.1 bb)))) (fun st gG gF gT gM=>(Lb gG gF gT gM 1 m.nxt 1 [(.fn (.yield ly) [] [])])/\(Lb gG gF gT gM 2 m0.nxt 1 [(.int .i64 (c.Book.Entries.length:Int))])/\(Yg n0 (YDW xs I E st.2.2 st.1) st.2.1 gG gF gT gM)) (fun rr_ st=>st.2.2=false/\pbooks1_L0 c rr_=some st.1) (fun ex st=>(match ex with | .ret=>st.2.2=true\/(st.2.2=false/\(0:Nat)=0/\zus=some st.1) | _=>False)) (fun st=>(Gux.and (Gux.lb L1335.bk.lt (by decide)) (Gux.and (Gux.lb L1336.bk.lt (by decide)) (Gux.yg Y1337.n (by decide))))) (st0:=(rz,S1,false)) (τ:=τ1305) ⟨L1335,L1336,Y1337⟩ ⟨rfl,hp⟩ ?_ ?_ ?_ ?_
 ·intro D a7 st ak τ1352 aC F1353 bB Ok1355 bt Kn1357 _ _ S1358 ab hA aI hp bq aJ aK af;obtain⟨a8,rfl,⟨am,a9⟩⟩:=bq
  have h:Xt F.m.nxt τ1352 aC a8:=fun b o k s d he=>by have:=aJ b (a9 b o k s d he); exact⟨by omega,this.2⟩
  obtain⟨w,S,Z⟩:=st;obtain⟨ag,hp⟩:=hp
  replace ag:Z=false:=ag
  subst ag;obtain⟨L1338,L1339,Y1343⟩:=hA
  replace L1338:Lb F1353 ak τ1352 aC 1 m.nxt 1 [(.fn (.yield ly) [] [])]:=L1338
  replace L1339:Lb F1353 ak τ1352 aC 2 m0.nxt 1 [(.int .i64 (c.Book.Entries.length:Int))]:=L1339
  replace Y1343:Yg n0 (YJW xs I w) S F1353 ak τ1352 aC:=Y1343
  replace hp:pbooks1_L0 c (D::a7)=some w:=hp
  rw[pbooks1_L0] at hp;refine⟨_,rfl,?_⟩;refine aK _ _ _ _ S1358 aI fun bJ bC S1368 ae aL ah=>?_;have L1373:=L1338.k ae (by decide);have L1374:=L1339.k ae (by decide);have Y1375:=Y1343.k ae (by decide);have h:=h.k ae;refine⟨_,L1374.bk.rc rfl,?_⟩;obtain⟨bD,hp⟩:=zqi hp;obtain⟨ao,aD,aE⟩:=am.subC (i:=Int.toNat (0:Int)) (j:=Int.toNat (c.Book.Entries.length:Int)) (by omega) (by omega);refine⟨_,_,rfl,(show(c.Book.Entries.length:Int)=((Int.toNat (c.Book.Entries.length:Int):Nat):Int) by omega),ao,aD,?_⟩;have q:=h.sub aD;refine⟨_,L1374.bk.rc rfl,?_⟩
  try rw[am.slLen]
  obtain⟨bE,hp⟩:=zqi hp;obtain⟨ap,aF,aG⟩:=am.subC (i:=Int.toNat (c.Book.Entries.length:Int)) (j:=Int.toNat (D.length:Int)) (by omega) (by omega);refine⟨_,_,(show(c.Book.Entries.length:Int)=((Int.toNat (c.Book.Entries.length:Int):Nat):Int) by omega),rfl,ap,aF,?_⟩;have u:=h.sub aF;intro bK ba;obtain⟨τ1389,S1387,T,L1390⟩:=S1368.blk ba τ1352 4;have L1391:=L1373.k T (by decide);have L1392:=L1374.k T (by decide);have Y1393:=Y1375.k T (by decide);have aM:=aL.k T (by decide);have h:=h.k T;have q:=q.k T;have u:=u.k T;refine⟨(L1392.bk.rc rfl),(L1392.bk.rc rfl),?_⟩;obtain⟨bc,be,S1395,Y,L1399⟩:=L1390.sto S1387 [ao,ap];have L1400:=L1391.k Y (by decide);have L1401:=L1392.k Y (by decide);have Y1402:=Y1393.k Y (by decide);have aN:=aM.k Y (by decide);have h:=h.k Y;have q:=q.k Y;have u:=u.k Y;refine⟨bc,be,?_⟩;refine⟨_,_,_,_,_,_,_,_,_,_,_,(aH.sub (Sub.trans (Sub.trans (Sub.trans y.fs A.fs) ab) S1395.sub)).ra,_,_,L1399.bk.ra,?_⟩;obtain⟨ac,bf,hp⟩:=zqh hp;refine zy2 (c:=c) (t:=({ Days:=((D.take (Int.toNat (c.Book.Entries.length:Int))).drop (Int.toNat (0:Int))),Sown:=((D.take (Int.toNat (D.length:Int))).drop (Int.toNat (c.Book.Entries.length:Int))) }:Tr)) S1395.pre (ax.sub (Sub.trans (Sub.trans y.fs A.fs) ab)) (ad.sub (Sub.trans (Sub.trans y.fs A.fs) ab)) (ay.sub (Sub.trans (Sub.trans y.fs A.fs) ab)) (az.sub (Sub.trans (Sub.trans y.fs A.fs) ab)) aE aG bf fun bL bg=>?_
  obtain⟨S1406,G⟩:=S1395.call bg τ1389;have L1409:=L1400.k G (by decide);have L1410:=L1401.k G (by decide);have L1411:=L1399.k G (by decide);have Y1412:=Y1402.k G (by decide);have aO:=aN.k G (by decide);have h:=h.k G;have q:=q.k G;have u:=u.k G;refine⟨_,_,_,_,_,rfl,?_⟩;intro bM bh;obtain⟨τ1417,S1415,J,L1418⟩:=S1406.blk bh τ1389 5;have L1419:=L1409.k J (by decide);have L1420:=L1410.k J (by decide);have L1421:=L1411.k J (by decide);have Y1422:=Y1412.k J (by decide);have aP:=aO.k J (by decide);have h:=h.k J;have q:=q.k J;have u:=u.k J;obtain⟨bi,bj,S1424,N,L1428⟩:=L1418.sto S1415 [.bool ac.1.There,.bool ac.1.Covered,(.int .i64 ac.1.Owner),(.int .i64 ac.1.Value)];have L1429:=L1419.k N (by decide);have L1430:=L1420.k N (by decide);have L1431:=L1421.k N (by decide);have Y1432:=Y1422.k N (by decide);have ai:=aP.k N (by decide);have h:=h.k N;have q:=q.k N;have u:=u.k N;refine⟨bi,bj,?_⟩;refine ifd hp (fun bl hp=>?_) fun bl hp=>?_; rotate_left
  ·exact af .nrm (w,S,false) _ _ _ _ S1424 ⟨L1429,L1430,Y1432⟩ ai ah ⟨rfl,hp⟩
  refine⟨_,L1429.bk.rc rfl,_,_,L1431.bk.ra,_,_,_,_,L1428.bk.ra,?_⟩;obtain⟨bm,aQ,aR⟩:=zqh hp
  clear hp
  obtain rfl:=oi aR;have hp:=aQ;refine Yg.yieldW (a:=(({ Days:=((D.take (Int.toNat (c.Book.Entries.length:Int))).drop (Int.toNat (0:Int))),Sown:=((D.take (Int.toNat (D.length:Int))).drop (Int.toNat (c.Book.Entries.length:Int))) }:Tr),ac.1)) hc S1424 Y1432 (fun X9 bp=>⟨ao,ap,rfl,⟨aE.sub S1424.sub,q.x bp⟩,⟨aG.sub S1424.sub,u.x bp⟩⟩) ?_ ?_
  ·intro bu τ1438 bn S1439 O Y1441;have L1443:=L1429.k O (by decide);have L1444:=L1430.k O (by decide);have L1445:=L1431.k O (by decide);have L1446:=L1428.k O (by decide);have aS:=ai.k O (by decide);have h:=h.k O;have q:=q.k O;have u:=u.k O;refine⟨_,rfl,?_⟩;refine zqU ?_;exact af .nrm (bm,bn,false) _ _ _ _ S1439 ⟨L1443,L1444,Y1441⟩ aS ah ⟨rfl,hp⟩
  ·intro bu τ1448 bo S1449 P Y1451;have L1453:=L1429.k P (by decide);have L1454:=L1430.k P (by decide);have L1455:=L1431.k P (by decide);have L1456:=L1428.k P (by decide);have aT:=ai.k P (by decide);have h:=h.k P;have q:=q.k P;have u:=u.k P;refine⟨_,rfl,?_⟩;refine zqV ?_;exact af .ret ([],bo,true) _ _ _ _ S1449 ⟨L1453,L1454,Y1451⟩ aT ah (.inl rfl)
 ·intro st aq τ1460 aU S1461 bF hA hp;obtain⟨w,S,Z⟩:=st;obtain⟨ag,hp⟩:=hp
  replace ag:Z=false:=ag
  subst ag
  replace hp:pbooks1_L0 c []=some w:=hp
  obtain⟨L1338,L1339,Y1343⟩:=hA
  replace L1338:Lb F aq τ1460 aU 1 m.nxt 1 [(.fn (.yield ly) [] [])]:=L1338
  replace L1339:Lb F aq τ1460 aU 2 m0.nxt 1 [(.int .i64 (c.Book.Entries.length:Int))]:=L1339
  replace Y1343:Yg n0 (YJW xs I w) S F aq τ1460 aU:=Y1343
  rw[pbooks1_L0] at hp;obtain rfl:=oi hp;exact hq _ _ _ _ _ S1461 (.inl Y1343)
 ·intro id st _ _ _ _ _ _ hn; first | exact hn.elim | (cases hn)
 ·intro st aa τ1347 aj S1348 bG hA hn;obtain⟨w,S,Z⟩:=st
  rcases hn with hd | ⟨hd,bN,hp⟩
  ·replace hd:Z=true:=hd
   subst hd;obtain⟨L1338,L1339,Y1343⟩:=hA
   replace L1338:Lb F aa τ1347 aj 1 m.nxt 1 [(.fn (.yield ly) [] [])]:=L1338
   replace L1339:Lb F aa τ1347 aj 2 m0.nxt 1 [(.int .i64 (c.Book.Entries.length:Int))]:=L1339
   replace Y1343:Yg n0 E S F aa τ1347 aj:=Y1343
   exact hq _ _ _ _ _ S1348 (.inr Y1343)
  replace hd:Z=false:=hd
  subst hd
  replace hp:zus=some w:=hp
  unfold zus at hp;obtain⟨L1338,L1339,Y1343⟩:=hA
  replace L1338:Lb F aa τ1347 aj 1 m.nxt 1 [(.fn (.yield ly) [] [])]:=L1338
  replace L1339:Lb F aa τ1347 aj 2 m0.nxt 1 [(.int .i64 (c.Book.Entries.length:Int))]:=L1339
  replace Y1343:Yg n0 (YJW xs I w) S F aa τ1347 aj:=Y1343
  obtain rfl:=oi hp;exact hq _ _ _ _ _ S1348 (.inl Y1343)
theorem zy7{c:Cs}{D F G J:C}{m f:M}{Q:V->M->Prop}{rz:List (Tr × Hd)}(hS:Pre f m)(N:Sl f D c.Book.Parcels)(O:Sl f F c.Book.Entries)(P:Sl f G c.Covers)(S:Sl f J c.Claims)(hp:zuu c=some rz)(hq:∀m' f' c0,Grw m f m' f'->ItW prog tbl f' c0 rz->Q (.c c0) m'):Wc prog tbl 170 [.agg 11 (xC c D F G J)] m Q:=by
 have r:=hS.st;obtain⟨s,_⟩:=zr5;refine zwm ?_;unfold zuu at hp;intro t i;obtain⟨p,j,q,l⟩:=r.blk i s 1;obtain⟨e,d,a,g⟩:=l.freeze j;obtain⟨n,o,hp⟩:=zqh hp;have h:ItW prog tbl e ((C.fn (Fn.func 188) [] [(W.c (C0.ptr m.nxt 0))])) n:=zrs d.fz d.fv fun u ly I E w y hc z A hS hY Q hq=>zy6 hc hS hY g (N.sub a.fs) (O.sub a.fs) (P.sub a.fs) (S.sub a.fs) o hq;obtain rfl:=oi hp;exact hq _ e (C.fn (Fn.func 188) [] [(W.c (C0.ptr m.nxt 0))]) d.grw h
theorem zy8{c:Cs}{b0:Nat}{a4 a5 a6 a7:C}{m f:M}{F:Fm}{n0 ly:Nat}{xs:List (Dt × Dm)}{I:Nat->(Nat->Prop)->M->Prop}{E:(Nat->Prop)->M->Prop}{S1:Nat->Prop}{Q:V->M->Prop}{rz:List (Dt × Dm)}{τ0:Nat->Nat}(hc:zqZ prog tbl n0 ly (VsW xs F.m.nxt) I E)(S0:St F f f m)(Y0:Yg n0 (YJW xs I rz) S1 F f τ0 m)(a8:Bk f b0 11 [(.int .i64 c.Book.Last),(.int .i64 c.Book.Owners),a4,a5,(.int .i64 c.Societies),(.int .i64 c.Day),(.int .i64 c.Parcel),a6,(.int .i64 c.Loss.Lo),(.int .i64 c.Loss.Hi),a7])(aM:Sl f a4 c.Book.Parcels)(aN:Sl f a5 c.Book.Entries)(aA:Sl f a6 c.Covers)(aO:Sl f a7 c.Claims)(hp:zuy c=some rz)(hq:∀v m' f' τ' S',St F f f' m'->(Yg n0 (YJW xs I ([]:List (Dt × Dm))) S' F f' τ' m'\/Yg n0 E S' F f' τ' m')->Q v m'):Wc prog tbl 169 [.c (.fn (.yield ly) [] []),.c (.ptr b0 0)] m Q:=by
 have cE:F.m.nxt<=m.nxt:=S0.ext.nxt;refine zvs ?_;unfold zuy at hp;intro m0 bE;obtain⟨τ1477,S1475,bF,L1478⟩:=S0.blk bE τ0 1;have Y1479:=Y0.k bF (by decide);refine⟨trivial,_,(a8.sub S1475.sub).rc rfl,aA.isSl,?_⟩;intro m2 bG;obtain⟨τ1483,S1481,a9,L1484⟩:=S1475.blk bG τ1477 2;have L1485:=L1478.k a9 (by decide);have Y1486:=Y1479.k a9 (by decide)
 try rw[aA.slLen]
 obtain⟨bH,bI,S1487,ba,L1491⟩:=L1484.sto S1481 [(.int .i64 (c.Covers.length:Int))];have L1492:=L1485.k ba (by decide);have Y1493:=Y1486.k ba (by decide);refine⟨bH,bI,?_⟩;refine⟨_,_,_,_,_,_,_,_,_,_,_,(a8.sub S1487.sub).ra,?_⟩;obtain⟨cn,bJ,hp⟩:=zqh hp;refine zy7 (c:=c) S1487.pre aM aN aA aO bJ fun aL co cq bK bL=>?_;obtain⟨S1496,O⟩:=S1487.callG bK τ1483;have L1502:=L1492.k O (by decide);have L1503:=L1491.k O (by decide);have Y1504:=Y1493.k O (by decide);refine⟨_,rfl,?_⟩;have ce:F.m.nxt<=aL.nxt:=S1496.ext.nxt
 refine zrt (α:=Tr × Hd) S1496 bL (σ:=(List (Dt × Dm)) × (Nat->Prop) × Bool) 3 (fun st bb=>(False\/(False\/(st.2.1 bb)))) (fun st gG gF gT gM=>(Lb gG gF gT gM 1 m.nxt 1 [(.fn (.yield ly) [] [])])/\(Lb gG gF gT gM 2 m0.nxt 1 [(.int .i64 (c.Covers.length:Int))])/\(Yg n0 (YDW xs I E st.2.2 st.1) st.2.1 gG gF gT gM)) (fun rr_ st=>st.2.2=false/\punclaimed1_L0 c rr_=some st.1) (fun ex st=>(match ex with | .ret=>st.2.2=true\/(st.2.2=false/\(0:Nat)=0/\zuv=some st.1) | _=>False)) (fun st=>(Gux.and (Gux.lb L1502.bk.lt (by decide)) (Gux.and (Gux.lb L1503.bk.lt (by decide)) (Gux.yg Y1504.n (by decide))))) (st0:=(rz,S1,false)) (τ:=τ1483) ⟨L1502,L1503,Y1504⟩ ⟨rfl,hp⟩ ?_ ?_ ?_ ?_
 ·intro u aF st aP τ1519 az F1520 cr Ok1522 cf Kn1524 _ _ S1525 ab hA be hp a2 aX bf aI;obtain⟨G,J,rfl,⟨aQ,bM⟩,⟨aR,bN⟩⟩:=a2
  have h:Xt F.m.nxt τ1519 az G:=fun b o k s d he=>by have:=aX b (bM b o k s d he); exact⟨by omega,this.2⟩
  have q:Xt F.m.nxt τ1519 az J:=fun b o k s d he=>by have:=aX b (bN b o k s d he); exact⟨by omega,this.2⟩
  obtain⟨ae,ai,ap⟩:=st;obtain⟨ah,hp⟩:=hp
  replace ah:ap=false:=ah
  subst ah;obtain⟨L1505,L1506,Y1510⟩:=hA
  replace L1505:Lb F1520 aP τ1519 az 1 m.nxt 1 [(.fn (.yield ly) [] [])]:=L1505
  replace L1506:Lb F1520 aP τ1519 az 2 m0.nxt 1 [(.int .i64 (c.Covers.length:Int))]:=L1506
  replace Y1510:Yg n0 (YJW xs I ae) ai F1520 aP τ1519 az:=Y1510
  replace hp:punclaimed1_L0 c (u::aF)=some ae:=hp
  rw[punclaimed1_L0] at hp;refine⟨_,_,_,_,_,_,rfl,?_⟩;intro cF bO;obtain⟨τ1542,S1540,aq,L1543⟩:=S1525.blk bO τ1519 4;have L1544:=L1505.k aq (by decide);have L1545:=L1506.k aq (by decide);have Y1546:=Y1510.k aq (by decide);have bg:=be.k aq (by decide);have h:=h.k aq;have q:=q.k aq;obtain⟨ar,bP,S1548,au,L1552⟩:=L1543.sto S1540 [G,J];have L1553:=L1544.k au (by decide);have L1554:=L1545.k au (by decide);have Y1555:=Y1546.k au (by decide);have bh:=bg.k au (by decide);have h:=h.k au;have q:=q.k au;refine⟨ar,bP,?_⟩;intro cG bQ;obtain⟨τ1560,S1558,aj,L1561⟩:=S1548.blk bQ τ1542 5;have L1562:=L1553.k aj (by decide);have L1563:=L1554.k aj (by decide);have L1564:=L1552.k aj (by decide);have Y1565:=Y1555.k aj (by decide);have bi:=bh.k aj (by decide);have h:=h.k aj;have q:=q.k aj;obtain⟨bR,bS,S1567,ak,L1571⟩:=L1561.sto S1558 [.bool u.2.There,.bool u.2.Covered,(.int .i64 u.2.Owner),(.int .i64 u.2.Value)];have L1572:=L1562.k ak (by decide);have L1573:=L1563.k ak (by decide);have L1574:=L1564.k ak (by decide);have Y1575:=Y1565.k ak (by decide);have bj:=bi.k ak (by decide);have h:=h.k ak;have q:=q.k ak;refine⟨bR,bS,?_⟩;refine bf _ _ _ _ S1567 bj fun cH aB S1577 am bl aJ=>?_;have L1582:=L1572.k am (by decide)
  have L1583:=L1573.k am (by decide);have L1584:=L1574.k am (by decide);have L1585:=L1571.k am (by decide);have Y1586:=Y1575.k am (by decide);have h:=h.k am;have q:=q.k am;refine⟨_,_,_,_,_,_,_,_,_,_,_,(a8.sub (Sub.trans (Sub.trans O.fs ab) S1577.sub)).ra,?_⟩;obtain⟨bT,bU,hp⟩:=zqh hp;refine zyQ (c:=c) S1577.pre (aM.sub (Sub.trans O.fs ab)) (aN.sub (Sub.trans O.fs ab)) (aA.sub (Sub.trans O.fs ab)) (aO.sub (Sub.trans O.fs ab)) bU fun cI cs ct bV bW=>?_;obtain⟨S1589,A⟩:=S1577.callG bV τ1560;have L1595:=L1582.k A (by decide);have L1596:=L1583.k A (by decide);have L1597:=L1584.k A (by decide);have L1598:=L1585.k A (by decide);have Y1599:=Y1586.k A (by decide);have bm:=bl.k A (by decide);have h:=h.k A;have q:=q.k A;refine⟨_,rfl,?_⟩;obtain⟨cu,bX,hp⟩:=zqh hp;refine zxM (l:=bT) S1589.pre bW bX fun cg cv cw bY bZ=>?_;obtain⟨S1603,D⟩:=S1589.callG bY τ1560;have L1609:=L1595.k D (by decide);have L1610:=L1596.k D (by decide);have L1611:=L1597.k D (by decide);have L1612:=L1598.k D (by decide);have Y1613:=Y1599.k D (by decide);have aK:=bm.k D (by decide);have h:=h.k D;have q:=q.k D;refine⟨_,rfl,?_⟩;have ch:F.m.nxt<=cg.nxt:=(by have:=aK.lt; omega)
  refine zrt (α:=List Int) S1603 bZ (σ:=(List (Dt × Dm)) × (Nat->Prop) × Bool) 6 (fun st bb=>(False\/(False\/(False\/(False\/((st.2.1 bb)\/(False\/(False\/False)))))))) (fun st gG gF gT gM=>(Lb gG gF gT gM 1 m.nxt 1 [(.fn (.yield ly) [] [])])/\(Lb gG gF gT gM 2 m0.nxt 1 [(.int .i64 (c.Covers.length:Int))])/\(Lb gG gF gT gM 4 az.nxt 2 [G,J])/\(Lb gG gF gT gM 5 ar.nxt 4 [.bool u.2.There,.bool u.2.Covered,(.int .i64 u.2.Owner),(.int .i64 u.2.Value)])/\(Yg n0 (YDW xs I E st.2.2 st.1) st.2.1 gG gF gT gM)/\(Xt F.m.nxt gT gM G)/\(Xt F.m.nxt gT gM J)/\(Rk gG gF gT gM 3 (aL).nxt aB)) (fun rr_ st=>st.2.2=false/\zux c u ((punclaimed1_L0 c aF)) rr_=some st.1) (fun ex st=>(match ex with | .ret=>st.2.2=true\/(st.2.2=false/\(0:Nat)=0/\zuw=some st.1) | _=>False)) (fun st=>(Gux.and (Gux.lb L1609.bk.lt (by decide)) (Gux.and (Gux.lb L1610.bk.lt (by decide)) (Gux.and (Gux.lb L1611.bk.lt (by decide)) (Gux.and (Gux.lb L1612.bk.lt (by decide)) (Gux.and (Gux.yg Y1613.n (by decide)) (Gux.and (Gux.xt h.b) (Gux.and (Gux.xt q.b) (Gux.rk aK.lt (by decide)))))))))) (st0:=(ae,ai,false)) (τ:=τ1560) ⟨L1609,L1610,L1611,L1612,Y1613,h,q,aK⟩ ⟨rfl,hp⟩ ?_ ?_ ?_ ?_
  ·intro aS b1 st av τ1632 aC F1633 cx Ok1635 ci Kn1637 _ _ S1638 ao hA bn hp a2 bo bp aY;obtain⟨b2,rfl,⟨aG,b3⟩⟩:=a2
   have y:Xt F.m.nxt τ1632 aC b2:=fun b o k s d he=>by have:=bo b (b3 b o k s d he); exact⟨by omega,this.2⟩
   obtain⟨ac,af,aw⟩:=st;obtain⟨ah,hp⟩:=hp
   replace ah:aw=false:=ah
   subst ah;obtain⟨L1615,L1616,L1617,L1618,Y1622,h,q,w⟩:=hA
   replace L1615:Lb F1633 av τ1632 aC 1 m.nxt 1 [(.fn (.yield ly) [] [])]:=L1615
   replace L1616:Lb F1633 av τ1632 aC 2 m0.nxt 1 [(.int .i64 (c.Covers.length:Int))]:=L1616
   replace L1617:Lb F1633 av τ1632 aC 4 az.nxt 2 [G,J]:=L1617
   replace L1618:Lb F1633 av τ1632 aC 5 ar.nxt 4 [.bool u.2.There,.bool u.2.Covered,(.int .i64 u.2.Owner),(.int .i64 u.2.Value)]:=L1618
   replace Y1622:Yg n0 (YJW xs I ac) af F1633 av τ1632 aC:=Y1622
   replace h:Xt F.m.nxt τ1632 aC G:=h
   replace q:Xt F.m.nxt τ1632 aC J:=q
   replace w:Rk F1633 av τ1632 aC 3 (aL).nxt aB:=w
   replace hp:zux c u ((punclaimed1_L0 c aF)) (aS::b1)=some ac:=hp
   rw[zux] at hp;refine⟨_,rfl,?_⟩;refine bp _ _ _ _ S1638 bn fun cJ cy S1648 ag bq aZ=>?_;have L1653:=L1615.k ag (by decide);have L1654:=L1616.k ag (by decide);have L1655:=L1617.k ag (by decide);have L1656:=L1618.k ag (by decide);have Y1657:=Y1622.k ag (by decide);have h:=h.k ag;have q:=q.k ag;have y:=y.k ag;have br:=w.k ag (by decide);refine⟨_,_,L1655.bk.ra,_,L1654.bk.rc rfl,?_⟩;obtain⟨cz,hp⟩:=zqi hp;obtain⟨aT,bc,aU⟩:=aG.subC (i:=Int.toNat (0:Int)) (j:=Int.toNat (c.Covers.length:Int)) (by omega) (by omega);refine⟨_,_,rfl,(show(c.Covers.length:Int)=((Int.toNat (c.Covers.length:Int):Nat):Int) by omega),aT,bc,?_⟩;have N:=y.sub bc;refine⟨_,L1654.bk.rc rfl,?_⟩;obtain⟨aV,aH,hp⟩:=zqh hp;obtain⟨cj,g1665i,g1665l,aH⟩:=zqb aH;refine⟨cj,g1665i,(by first|exact g1665l|(rw[aG.slLen];exact g1665l)),_,(aG.rdI aH S1648.sub),?_⟩;intro cK b4;obtain⟨τ1669,S1667,T,L1670⟩:=S1648.blk b4 τ1632 7;have L1671:=L1653.k T (by decide);have L1672:=L1654.k T (by decide);have L1673:=L1655.k T (by decide);have L1674:=L1656.k T (by decide);have Y1675:=Y1657.k T (by decide);have bs:=bq.k T (by decide);have h:=h.k T;have q:=q.k T;have y:=y.k T;have N:=N.k T;have bt:=br.k T (by decide);refine⟨(aG.rdI aH S1667.sub),(L1672.bk.rc rfl),(L1672.bk.rc rfl),(by rw[show zaL cmC _=true from zoO (zql aQ.noFn (zql aR.noFn zqm))]; exact(L1673.bk.ra)),?_⟩
   obtain⟨b5,b6,S1678,Y,L1682⟩:=L1670.sto S1667 [G,J,aT,(.int .i64 aV)];have L1683:=L1671.k Y (by decide);have L1684:=L1672.k Y (by decide);have L1685:=L1673.k Y (by decide);have L1686:=L1674.k Y (by decide);have Y1687:=Y1675.k Y (by decide);have bu:=bs.k Y (by decide);have h:=h.k Y;have q:=q.k Y;have y:=y.k Y;have N:=N.k Y;have bv:=bt.k Y (by decide);refine⟨b5,b6,?_⟩;refine⟨_,L1683.bk.rc rfl,_,_,_,_,L1682.bk.ra,_,_,_,_,_,_,_,_,_,_,_,(a8.sub (Sub.trans (Sub.trans (Sub.trans (Sub.trans (Sub.trans O.fs ab) A.fs) D.fs) ao) S1678.sub)).ra,_,_,_,_,L1686.bk.ra,trivial,_,L1682.bk.rc rfl,trivial,_,L1682.bk.rc rfl,?_⟩;obtain⟨b7,b8,hp⟩:=zqh hp;refine zy4 (c:=c) (end_:=u.2) (starts:=((aS.take (Int.toNat (c.Covers.length:Int))).drop (Int.toNat (0:Int)))) (loss:=aV) S1678.pre (aM.sub (Sub.trans (Sub.trans (Sub.trans (Sub.trans O.fs ab) A.fs) D.fs) ao)) (aN.sub (Sub.trans (Sub.trans (Sub.trans (Sub.trans O.fs ab) A.fs) D.fs) ao)) (aA.sub (Sub.trans (Sub.trans (Sub.trans (Sub.trans O.fs ab) A.fs) D.fs) ao)) (aO.sub (Sub.trans (Sub.trans (Sub.trans (Sub.trans O.fs ab) A.fs) D.fs) ao)) aU b8 fun cL b9=>?_;obtain⟨S1692,P⟩:=S1678.call b9 τ1669;have L1695:=L1683.k P (by decide);have L1696:=L1684.k P (by decide);have L1697:=L1685.k P (by decide)
   have L1698:=L1686.k P (by decide);have L1699:=L1682.k P (by decide);have Y1700:=Y1687.k P (by decide);have a0:=bu.k P (by decide);have h:=h.k P;have q:=q.k P;have y:=y.k P;have N:=N.k P;have a1:=bv.k P (by decide);refine⟨_,_,_,_,rfl,(by rw[show zaL cmC _=true from zoO (zql aQ.noFn (zql aR.noFn (zql aU.noFn (zql rfl zqm))))]; exact(L1699.bk.ra)),(by rw[show cmC _=true from rfl]; exact(L1695.bk.rc rfl)),?_⟩;obtain⟨ca,bw,bx⟩:=zqh hp
   clear hp
   obtain rfl:=oi bx;have hp:=bw;refine Yg.yieldW (a:=(({ Book:=u.1,Starts:=((aS.take (Int.toNat (c.Covers.length:Int))).drop (Int.toNat (0:Int))),Loss:=aV }:Dt),b7)) hc S1692 Y1700 (fun X9 bz=>⟨G,J,aT,rfl,⟨(aQ.sub (Sub.trans (Sub.trans A.fs D.fs) ao)).sub S1692.sub,h.x bz⟩,⟨(aR.sub (Sub.trans (Sub.trans A.fs D.fs) ao)).sub S1692.sub,q.x bz⟩,⟨aU.sub S1692.sub,N.x bz⟩⟩) ?_ ?_
   ·intro ck τ1706 cb S1707 Z Y1709;have L1711:=L1695.k Z (by decide);have L1712:=L1696.k Z (by decide);have L1713:=L1697.k Z (by decide);have L1714:=L1698.k Z (by decide);have L1715:=L1699.k Z (by decide);have bA:=a0.k Z (by decide);have h:=h.k Z;have q:=q.k Z;have y:=y.k Z;have N:=N.k Z;have bB:=a1.k Z (by decide);refine⟨_,rfl,?_⟩;refine zqU ?_;exact aY .nrm (ca,cb,false) _ _ _ _ S1707 ⟨L1711,L1712,L1713,L1714,Y1709,h,q,bB⟩ bA aZ ⟨rfl,hp⟩
   ·intro ck τ1718 cd S1719 aa Y1721;have L1723:=L1695.k aa (by decide);have L1724:=L1696.k aa (by decide);have L1725:=L1697.k aa (by decide);have L1726:=L1698.k aa (by decide);have L1727:=L1699.k aa (by decide);have bC:=a0.k aa (by decide);have h:=h.k aa;have q:=q.k aa;have y:=y.k aa;have N:=N.k aa;have bD:=a1.k aa (by decide);refine⟨_,rfl,?_⟩;refine zqV ?_;exact aY .ret ([],cd,true) _ _ _ _ S1719 ⟨L1723,L1724,L1725,L1726,Y1721,h,q,bD⟩ bC aZ (.inl rfl)
  ·intro st ax τ1732 aE S1733 cA hA hp;obtain⟨ac,af,aw⟩:=st;obtain⟨ah,hp⟩:=hp
   replace ah:aw=false:=ah
   subst ah
   replace hp:zux c u ((punclaimed1_L0 c aF)) []=some ac:=hp
   obtain⟨L1615,L1616,L1617,L1618,Y1622,h,q,w⟩:=hA
   replace L1615:Lb F1520 ax τ1732 aE 1 m.nxt 1 [(.fn (.yield ly) [] [])]:=L1615
   replace L1616:Lb F1520 ax τ1732 aE 2 m0.nxt 1 [(.int .i64 (c.Covers.length:Int))]:=L1616
   replace L1617:Lb F1520 ax τ1732 aE 4 az.nxt 2 [G,J]:=L1617
   replace L1618:Lb F1520 ax τ1732 aE 5 ar.nxt 4 [.bool u.2.There,.bool u.2.Covered,(.int .i64 u.2.Owner),(.int .i64 u.2.Value)]:=L1618
   replace Y1622:Yg n0 (YJW xs I ac) af F1520 ax τ1732 aE:=Y1622
   replace h:Xt F.m.nxt τ1732 aE G:=h
   replace q:Xt F.m.nxt τ1732 aE J:=q
   replace w:Rk F1520 ax τ1732 aE 3 (aL).nxt aB:=w
   rw[zux] at hp;exact aI .nrm (ac,af,false) _ _ _ _ S1733 ⟨L1615,L1616,Y1622⟩ w aJ ⟨rfl,hp⟩
  ·intro id st _ _ _ _ _ _ hn; first | exact hn.elim | (cases hn)
  ·intro st S τ1627 ad S1628 cB hA hn;obtain⟨ac,af,aw⟩:=st
   rcases hn with hd | ⟨hd,cm,hp⟩
   ·replace hd:aw=true:=hd
    subst hd;obtain⟨L1615,L1616,L1617,L1618,Y1622,h,q,w⟩:=hA
    replace L1615:Lb F1520 S τ1627 ad 1 m.nxt 1 [(.fn (.yield ly) [] [])]:=L1615
    replace L1616:Lb F1520 S τ1627 ad 2 m0.nxt 1 [(.int .i64 (c.Covers.length:Int))]:=L1616
    replace L1617:Lb F1520 S τ1627 ad 4 az.nxt 2 [G,J]:=L1617
    replace L1618:Lb F1520 S τ1627 ad 5 ar.nxt 4 [.bool u.2.There,.bool u.2.Covered,(.int .i64 u.2.Owner),(.int .i64 u.2.Value)]:=L1618
    replace Y1622:Yg n0 E af F1520 S τ1627 ad:=Y1622
    replace h:Xt F.m.nxt τ1627 ad G:=h
    replace q:Xt F.m.nxt τ1627 ad J:=q
    replace w:Rk F1520 S τ1627 ad 3 (aL).nxt aB:=w
    exact aI .ret ([],af,true) _ _ _ _ S1628 ⟨L1615,L1616,Y1622⟩ w aJ (.inl rfl)
   replace hd:aw=false:=hd
   subst hd
   replace hp:zuw=some ac:=hp
   unfold zuw at hp;obtain⟨L1615,L1616,L1617,L1618,Y1622,h,q,w⟩:=hA
   replace L1615:Lb F1520 S τ1627 ad 1 m.nxt 1 [(.fn (.yield ly) [] [])]:=L1615
   replace L1616:Lb F1520 S τ1627 ad 2 m0.nxt 1 [(.int .i64 (c.Covers.length:Int))]:=L1616
   replace L1617:Lb F1520 S τ1627 ad 4 az.nxt 2 [G,J]:=L1617
   replace L1618:Lb F1520 S τ1627 ad 5 ar.nxt 4 [.bool u.2.There,.bool u.2.Covered,(.int .i64 u.2.Owner),(.int .i64 u.2.Value)]:=L1618
   replace Y1622:Yg n0 (YJW xs I ac) af F1520 S τ1627 ad:=Y1622
   replace h:Xt F.m.nxt τ1627 ad G:=h
   replace q:Xt F.m.nxt τ1627 ad J:=q
   replace w:Rk F1520 S τ1627 ad 3 (aL).nxt aB:=w
   exact aI .ret (ac,af,false) _ _ _ _ S1628 ⟨L1615,L1616,Y1622⟩ w aJ (.inr ⟨rfl,rfl,hp⟩)
 ·intro st aW τ1736 a3 S1737 cC hA hp;obtain⟨ae,ai,ap⟩:=st;obtain⟨ah,hp⟩:=hp
  replace ah:ap=false:=ah
  subst ah
  replace hp:punclaimed1_L0 c []=some ae:=hp
  obtain⟨L1505,L1506,Y1510⟩:=hA
  replace L1505:Lb F aW τ1736 a3 1 m.nxt 1 [(.fn (.yield ly) [] [])]:=L1505
  replace L1506:Lb F aW τ1736 a3 2 m0.nxt 1 [(.int .i64 (c.Covers.length:Int))]:=L1506
  replace Y1510:Yg n0 (YJW xs I ae) ai F aW τ1736 a3:=Y1510
  rw[punclaimed1_L0] at hp;obtain rfl:=oi hp;exact hq _ _ _ _ _ S1737 (.inl Y1510)
 ·intro id st _ _ _ _ _ _ hn; first | exact hn.elim | (cases hn)
 ·intro st ay τ1514 aD S1515 cD hA hn;obtain⟨ae,ai,ap⟩:=st
  rcases hn with hd | ⟨hd,cm,hp⟩
  ·replace hd:ap=true:=hd
   subst hd;obtain⟨L1505,L1506,Y1510⟩:=hA
   replace L1505:Lb F ay τ1514 aD 1 m.nxt 1 [(.fn (.yield ly) [] [])]:=L1505
   replace L1506:Lb F ay τ1514 aD 2 m0.nxt 1 [(.int .i64 (c.Covers.length:Int))]:=L1506
   replace Y1510:Yg n0 E ai F ay τ1514 aD:=Y1510
   exact hq _ _ _ _ _ S1515 (.inr Y1510)
  replace hd:ap=false:=hd
  subst hd
  replace hp:zuv=some ae:=hp
  unfold zuv at hp;obtain⟨L1505,L1506,Y1510⟩:=hA
  replace L1505:Lb F ay τ1514 aD 1 m.nxt 1 [(.fn (.yield ly) [] [])]:=L1505
  replace L1506:Lb F ay τ1514 aD 2 m0.nxt 1 [(.int .i64 (c.Covers.length:Int))]:=L1506
  replace Y1510:Yg n0 (YJW xs I ae) ai F ay τ1514 aD:=Y1510
  obtain rfl:=oi hp;exact hq _ _ _ _ _ S1515 (.inl Y1510)
section
variable {m f:M}{Q:V->M->Prop}
theorem zy9{c:Cs}{D F G J:C}{rz:List (Dt × Dm)}(hS:Pre f m)(N:Sl f D c.Book.Parcels)(O:Sl f F c.Book.Entries)(P:Sl f G c.Covers)(S:Sl f J c.Claims)(hp:zuz c=some rz)(hq:∀m' f' c0,Grw m f m' f'->ItW prog tbl f' c0 rz->Q (.c c0) m'):Wc prog tbl 137 [.agg 11 (xC c D F G J)] m Q:=by
 have r:=hS.st;obtain⟨s,_⟩:=zr5;refine zvY ?_;unfold zuz at hp;intro t i;obtain⟨p,j,q,l⟩:=r.blk i s 1;obtain⟨e,d,a,g⟩:=l.freeze j;obtain⟨n,o,hp⟩:=zqh hp;have h:ItW prog tbl e ((C.fn (Fn.func 169) [] [(W.c (C0.ptr m.nxt 0))])) n:=zrs d.fz d.fv fun u ly I E w y hc z A hS hY Q hq=>zy8 hc hS hY g (N.sub a.fs) (O.sub a.fs) (P.sub a.fs) (S.sub a.fs) o hq;obtain rfl:=oi hp;exact hq _ e (C.fn (Fn.func 169) [] [(W.c (C0.ptr m.nxt 0))]) d.grw h
theorem zza{c:Cs}{ag ah ai aj:C}{rz:Wd}(hS:Pre f m)(ak:Sl f ag c.Book.Parcels)(am:Sl f ah c.Book.Entries)(ao:Sl f ai c.Covers)(ap:Sl f aj c.Claims)(hp:zuA c=some rz)(hq:∀m' f' c2 c3 c7 aq ar au,Grw m f m' f'->Sl f' c2 rz.c.Book.Parcels->Sl f' c3 rz.c.Book.Entries->Sl f' c7 rz.c.Covers->Sl f' aq rz.c.Claims->Mi f' ar rz.settled->Mi f' au rz.paid->Q (.agg 13 (xD rz c2 c3 c7 aq ar au)) m'):Wc prog tbl 140 [.agg 11 (xC c ag ah ai aj)] m Q:=by
 have S0:=hS.st;obtain⟨τ0,_⟩:=zr5;refine zvH ?_;unfold zuA at hp;intro m0 fb;obtain⟨gb,hb,ye,ib⟩:=S0.blk fb τ0 1;intro m1 jb;obtain⟨kb,mb,ob,pb⟩:=hb.blk jb gb 2;have sa:=ib.k ob;refine⟨_,_,_,_,_,_,_,_,_,_,_,sa.bk.ra,?_⟩;intro N qb;obtain⟨rb,sb,ta,tb⟩:=Mo.new (K:=Dm) (V':=P3) mb qb kb 3;have ub:=sa.k ta;have vb:=pb.k ta;intro Oa wb;obtain⟨xb,yb,fa,zb⟩:=Mo.new (K:=P3) (V':=Bool) sb wb rb 4;have Ab:=ub.k fa;have Bb:=vb.k fa;have Cb:=tb.k fa;intro Te Db;obtain⟨ua,Eb,ba,Fb⟩:=yb.blk Db xb 5;have Gb:=Ab.k ba;have Hb:=Bb.k ba;have Ib:=Cb.k ba;have Jb:=zb.k ba;obtain⟨Kb,Mb,va,ca,wa⟩:=Fb.sto Eb [Il c.Book.Last,Il c.Book.Owners,ag,ah,Il c.Societies,Il c.Day,Il c.Parcel,ai,Il c.Loss.Lo,Il c.Loss.Hi,aj,(.map m1.nxt),(.map N.nxt)];have Nb:=Gb.k ca;have Ob:=Hb.k ca;have Pb:=Ib.k ca;have Qb:=Jb.k ca;refine⟨Kb,Mb,?_⟩;refine⟨trivial,_,_,_,_,_,_,_,_,_,_,_,wa.bk.rp (k:=0) (j:=11) rfl (by omega),?_⟩;obtain⟨ze,Rb,hp⟩:=zqh hp;refine zy9 (c:=c) va.pre ak am ao ap Rb fun Ue Ae Be Sb Tb=>?_;obtain⟨Ub,g⟩:=va.callG Sb ua;have xa:=Nb.k g;have ya:=Ob.k g;have za:=wa.k g;have Aa:=Pb.k g;have Ba:=Qb.k g;refine⟨_,rfl,?_⟩;refine zrt (α:=Dt × Dm) Ub Tb (σ:=(Option (Dm->Option (P3))) × (Option (P3->Option (Bool)))) 6 (fun st bb=>(False\/(False\/(False\/(False\/False))))) (fun st gG gF gT gM=>(Lb gG gF gT gM 1 m.nxt 11 (xC c ag ah ai aj))/\(Lb gG gF gT gM 2 m0.nxt 13 [Il 0,Il 0,.sl0,.sl0,Il 0,Il 0,Il 0,.sl0,Il 0,Il 0,.sl0,C.map0,C.map0])/\(Lb gG gF gT gM 5 Oa.nxt 13 [Il c.Book.Last,Il c.Book.Owners,ag,ah,Il c.Societies,Il c.Day,Il c.Parcel,ai,Il c.Loss.Lo,Il c.Loss.Hi,aj,(.map m1.nxt),(.map N.nxt)])/\(Mo gG gF gT gM 3 (.map m1.nxt) st.1)/\(Mo gG gF gT gM 4 (.map N.nxt) st.2)) (fun rr_ st=>psettleAll_L0 c rr_ st.1 st.2=some rz) (fun ex st=>False) (fun st=>(Gux.and (Gux.lb xa.bk.lt (by decide)) (Gux.and (Gux.lb ya.bk.lt (by decide)) (Gux.and (Gux.lb za.bk.lt (by decide)) (Gux.and (Gux.mo Aa.lt (by decide)) (Gux.mo Ba.lt (by decide))))))) (st0:=((some fun _=>none:Option (Dm->Option (P3))),(some fun _=>none:Option (P3->Option (Bool))))) (τ:=ua) ⟨xa,ya,za,Aa,Ba⟩ hp ?_ ?_ ?_ ?_
 ·intro a Vb st O y la P Ce ue ve we _ _ Wb De hA Pa hp av xe Qa ma;obtain⟨Ee,Fe,Ge,rfl,⟨He,_⟩,⟨Ie,_⟩,⟨Je,_⟩⟩:=av;obtain⟨i,z⟩:=st;obtain⟨A,l,n,o,p⟩:=hA
  replace A:Lb P O y la 1 m.nxt 11 (xC c ag ah ai aj):=A
  replace l:Lb P O y la 2 m0.nxt 13 [Il 0,Il 0,.sl0,.sl0,Il 0,Il 0,Il 0,.sl0,Il 0,Il 0,.sl0,C.map0,C.map0]:=l
  replace n:Lb P O y la 5 Oa.nxt 13 [Il c.Book.Last,Il c.Book.Owners,ag,ah,Il c.Societies,Il c.Day,Il c.Parcel,ai,Il c.Loss.Lo,Il c.Loss.Hi,aj,(.map m1.nxt),(.map N.nxt)]:=n
  replace o:Mo P O y la 3 (.map m1.nxt) i:=o
  replace p:Mo P O y la 4 (.map N.nxt) z:=p
  replace hp:psettleAll_L0 c (a::Vb) i z=some rz:=hp
  rw[psettleAll_L0] at hp;refine⟨_,_,_,_,_,_,_,_,rfl,?_⟩;intro Ve Xb;obtain⟨Ca,Yb,B,Zb⟩:=Wb.blk Xb y 7;have ac:=A.k B;have bc:=l.k B;have cc:=n.k B;have dc:=o.k B;have ec:=p.k B;have Ra:=Pa.k B;obtain⟨fc,gc,hc,D,ic⟩:=Zb.sto Yb [Il a.2.amount,Il a.2.sums.p0,Il a.2.sums.p1,Il a.2.sums.p2];have jc:=ac.k D;have kc:=bc.k D;have nc:=cc.k D;have oc:=dc.k D;have pc:=ec.k D;have Sa:=Ra.k D;refine⟨fc,gc,?_⟩;refine Qa _ _ _ _ hc Sa fun We Ke Da F na oa=>?_;have Ea:=jc.k F;have Fa:=kc.k F;have ga:=nc.k F;have Ga:=ic.k F;have ha:=oc.k F;have Ha:=pc.k F;refine⟨trivial,_,ga.bk.rc rfl,_,_,_,_,Ga.bk.ra,?_⟩;obtain⟨qc,hp⟩:=zqi hp;refine⟨_,ha.mi.lk zym (k:=a.2) qc rfl,?_⟩
  cases pa:(zqC i a.2) with
  | none=>
   rw[zqK pa] at hp;refine⟨fun _=>?_,fun u hu=>(by cases hu)⟩;intro Xe sc;obtain⟨Ia,tc,q,uc⟩:=Da.blk sc Ca 8;have vc:=Ea.k q;have wc:=Fa.k q;have xc:=ga.k q;have yc:=Ga.k q;have zc:=ha.k q;have Ac:=Ha.k q;have Ta:=na.k q;obtain⟨Bc,Cc,Ja,r,Me⟩:=uc.sto tc [Il 0,Il 0,Il 0];have Dc:=vc.k r;have Ec:=wc.k r;have Fc:=xc.k r;have Ka:=yc.k r;have Gc:=zc.k r;have Hc:=Ac.k r;have Ua:=Ta.k r;refine⟨Bc,Cc,?_⟩;refine⟨_,_,_,_,Ka.bk.ra,?_⟩;obtain⟨e,Ic,hp⟩:=zqh hp;refine zyX (d:=a.2) Ja.pre  Ic fun Ye Jc=>?_;obtain⟨Kc,s⟩:=Ja.call Jc Ia;have Nc:=Dc.k s;have Oc:=Ec.k s;have Qc:=Fc.k s;have Rc:=Ka.k s;have Tc:=Gc.k s;have Uc:=Hc.k s;have Va:=Ua.k s;refine⟨_,_,_,rfl,?_⟩;intro Ze Vc;obtain⟨Ne,Xc,t,Yc⟩:=Kc.blk Vc Ia 9;have Zc:=Nc.k t;have ad:=Oc.k t;have bd:=Qc.k t;have cd:=Rc.k t;have dd:=Tc.k t;have ed:=Uc.k t;have Wa:=Va.k t;obtain⟨fd,hd,jd,w,ia⟩:=Yc.sto Xc [Il e.p0,Il e.p1,Il e.p2];have kd:=Zc.k w;have ld:=ad.k w;have ja:=bd.k w;have md:=cd.k w;have nd:=dd.k w;have od:=ed.k w;have Xa:=Wa.k w;refine⟨fd,hd,?_⟩;refine⟨trivial,_,ja.bk.rc rfl,_,_,_,_,md.bk.ra,trivial,_,ja.bk.rc rfl,_,_,_,ia.bk.ra,_,_,_,ia.bk.ra,?_⟩;obtain⟨pd,hp⟩:=zqi hp;obtain⟨qd,sd,hp⟩:=zqh hp;obtain⟨td,ud,vd,G,wd⟩:=Mo.up zym jd nd (k:=a.2) pd (v:=e) sd (kv:=.agg 4 [Il a.2.amount,Il a.2.sums.p0,Il a.2.sums.p1,Il a.2.sums.p2]) (yv:=.agg 3 [Il e.p0,Il e.p1,Il e.p2]) rfl rfl;have xd:=kd.k G;have yd:=ld.k G;have La:=ja.k G;have zd:=ia.k G;have Ma:=od.k G;have Ya:=Xa.k G;refine⟨td,ud,?_⟩;refine⟨(zd.bk.ra),(by rw[show cmC _=true from zoN (Ma.mi.noFn)]; exact(La.bk.rc rfl)),?_⟩
   obtain⟨Ad,hp⟩:=zqi hp;obtain⟨Cd,Dd,hp⟩:=zqh hp;obtain⟨Ed,Gd,Id,S,Jd⟩:=Mo.up zyl vd Ma (k:=e) Ad (v:=true) Dd (kv:=.agg 3 [Il e.p0,Il e.p1,Il e.p2]) (yv:=.c (.bool true)) rfl rfl;have Ld:=xd.k S;have Md:=yd.k S;have Nd:=La.k S;have Od:=wd.k S;have Za:=Ya.k S;refine⟨Ed,Gd,?_⟩;exact ma .nrm (qd,Cd) _ _ _ _ Id ⟨Ld,Md,Nd,Od,Jd⟩ Za oa hp
  | some ka=>
   rw[zqL pa] at hp;refine⟨fun h=>(by cases h),fun u hu=>?_⟩;obtain rfl:=oi hu;refine⟨_,_,_,rfl,?_⟩;intro af Pd;obtain⟨Oe,Qd,I,Rd⟩:=Da.blk Pd Ca 10;have Sd:=Ea.k I;have Td:=Fa.k I;have Ud:=ga.k I;have Vd:=ha.k I;have Xd:=Ha.k I;have ab:=na.k I;obtain⟨Yd,Zd,ae,J,Pe⟩:=Rd.sto Qd [Il ka.p0,Il ka.p1,Il ka.p2];have be:=Sd.k J;have ce:=Td.k J;have de:=Ud.k J;have ee:=Vd.k J;have fe:=Xd.k J;have cb:=ab.k J;refine⟨Yd,Zd,?_⟩;exact ma .nrm (i,z) _ _ _ _ ae ⟨be,ce,de,ee,fe⟩ cb oa hp
 ·intro st T Y qa ge da hA hp;obtain⟨i,z⟩:=st
  replace hp:psettleAll_L0 c [] i z=some rz:=hp
  obtain⟨A,l,n,o,p⟩:=hA
  replace A:Lb (Fm.of m) T Y qa 1 m.nxt 11 (xC c ag ah ai aj):=A
  replace l:Lb (Fm.of m) T Y qa 2 m0.nxt 13 [Il 0,Il 0,.sl0,.sl0,Il 0,Il 0,Il 0,.sl0,Il 0,Il 0,.sl0,C.map0,C.map0]:=l
  replace n:Lb (Fm.of m) T Y qa 5 Oa.nxt 13 [Il c.Book.Last,Il c.Book.Owners,ag,ah,Il c.Societies,Il c.Day,Il c.Parcel,ai,Il c.Loss.Lo,Il c.Loss.Hi,aj,(.map m1.nxt),(.map N.nxt)]:=n
  replace o:Mo (Fm.of m) T Y qa 3 (.map m1.nxt) i:=o
  replace p:Mo (Fm.of m) T Y qa 4 (.map N.nxt) z:=p
  rw[psettleAll_L0] at hp;refine⟨_,_,_,_,_,_,_,_,_,_,_,_,_,n.bk.ra,?_⟩;obtain⟨he,ie,je,Na,ke⟩:=l.sto ge [Il c.Book.Last,Il c.Book.Owners,ag,ah,Il c.Societies,Il c.Day,Il c.Parcel,ai,Il c.Loss.Lo,Il c.Loss.Hi,aj,(.map m1.nxt),(.map N.nxt)];have me:=o.k Na;have oe:=p.k Na;refine⟨he,ie,?_⟩;refine⟨_,_,_,_,_,_,_,_,_,_,_,_,_,ke.bk.ra,?_⟩;obtain⟨Qe,pe,Z,db⟩:=me.freeze je;have qe:=oe.k Z;obtain⟨re,se,aa,eb⟩:=qe.freeze pe;obtain rfl:=oi hp;exact hq _ re ag ah ai aj (.map m1.nxt) (.map N.nxt) se.grw (ak.sub (Sub.trans (Sub.trans (Sub.trans g.fs da) Z.fs) aa.fs)) (am.sub (Sub.trans (Sub.trans (Sub.trans g.fs da) Z.fs) aa.fs)) (ao.sub (Sub.trans (Sub.trans (Sub.trans g.fs da) Z.fs) aa.fs)) (ap.sub (Sub.trans (Sub.trans (Sub.trans g.fs da) Z.fs) aa.fs)) (db.sub aa.fs) eb
 ·intro id st _ _ _ _ _ _ hn; first | exact hn.elim | (cases hn)
 ·intro st _ _ _ _ _ _ hn; first | exact hn.elim | (cases hn)
theorem zzb{c:Cs}{asked:List Int}{ac ad ae af ak:C}{rz:Wd × Int}(hS:Pre f m)(ag:Sl f ac c.Book.Parcels)(ah:Sl f ad c.Book.Entries)(ai:Sl f ae c.Covers)(aj:Sl f af c.Claims)(am:Sl f ak asked)(hp:zuB c asked=some rz)(hq:∀m' f' c2 c3 c7 ao ap aq,Grw m f m' f'->Sl f' c2 rz.1.c.Book.Parcels->Sl f' c3 rz.1.c.Book.Entries->Sl f' c7 rz.1.c.Covers->Sl f' ao rz.1.c.Claims->Mi f' ap rz.1.settled->Mi f' aq rz.1.paid->Q (.tup [.agg 13 (xD rz.1 c2 c3 c7 ao ap aq),.c (Il rz.2)]) m'):Wc prog tbl 90 [.agg 11 (xC c ac ad ae af),.c ak] m Q:=by
 have S0:=hS.st;obtain⟨τ0,_⟩:=zr5;refine w90 ?_;unfold zuB at hp;intro m0 N;obtain⟨O,P,Ua,S⟩:=S0.blk N τ0 1;intro m1 T;obtain⟨d,t,Y,Z⟩:=P.blk T O 2;have u:=S.k Y;refine⟨_,_,_,_,_,_,_,_,_,_,_,u.bk.ra,?_⟩;obtain⟨Va,aa,hp⟩:=zqh hp;refine zyR (c:=c) t.pre ag ah ai aj aa fun eb ba=>?_;obtain⟨g,w⟩:=t.call ba d;have y:=u.k w;have z:=Z.k w;refine⟨_,rfl,?_⟩;refine zqR hp (fun ca hp=>?_) fun ca hp=>?_
 ·obtain⟨da,ea,fa,Wa,ga⟩:=z.sto g [Il 0,Il 0,.sl0,.sl0,Il 0,Il 0,Il 0,.sl0,Il 0,Il 0,.sl0,C.map0,C.map0];refine⟨da,ea,?_⟩;refine⟨_,_,_,_,_,_,_,_,_,_,_,_,_,ga.bk.ra,?_⟩;obtain rfl:=oi hp;exact hq _ f .sl0 .sl0 .sl0 .sl0 C.map0 C.map0 fa.grw (Sl.nil _) (Sl.nil _) (Sl.nil _) (Sl.nil _) (show Mi _ .map0 none from rfl) (show Mi _ .map0 none from rfl)
 refine⟨_,_,_,_,_,_,_,_,_,_,_,y.bk.ra,?_⟩;obtain⟨Ra,Sa,Ta⟩:∃ws,zaE vW [.agg 11 (xC c ac ad ae af)]=some ws/\zbZ wV ws=[.agg 11 (xC c ac ad ae af)]:=(zqr (zqp (zql rfl (zql rfl (zql ag.noFn (zql ah.noFn (zql rfl (zql rfl (zql rfl (zql ai.noFn (zql rfl (zql rfl (zql aj.noFn zqm)))))))))))) zqq);rw[Sa,zd3]
 have J:zyj f ((C.fn (Fn.func 139) Ra [])) (fun e=>ztH c e):=by
  intro f' m' e r Q hs ar  hg hq
  show Wc prog tbl 139 (appS (zbZ wV Ra) _) m' Q
  rw[Ta];exact zyv ar (ag.sub hs) (ah.sub hs) (ai.sub hs) (aj.sub hs) hg hq
 obtain⟨Xa,ha,hp⟩:=zqh hp;refine zyM (l:=asked) (passes:=(fun e=>ztH c e)) g.pre am J ha fun fb ia=>?_;obtain⟨h,A⟩:=g.call ia d;have ja:=y.k A;have B:=z.k A;refine⟨_,rfl,?_⟩;refine zqT hp (fun ka hp=>?_) fun ka hp=>?_
 ·obtain⟨la,ma,na,Ya,oa⟩:=B.sto h [Il 0,Il 0,.sl0,.sl0,Il 0,Il 0,Il 0,.sl0,Il 0,Il 0,.sl0,C.map0,C.map0];refine⟨la,ma,?_⟩;refine⟨_,_,_,_,_,_,_,_,_,_,_,_,_,oa.bk.ra,?_⟩;obtain rfl:=oi hp;exact hq _ f .sl0 .sl0 .sl0 .sl0 C.map0 C.map0 na.grw (Sl.nil _) (Sl.nil _) (Sl.nil _) (Sl.nil _) (show Mi _ .map0 none from rfl) (show Mi _ .map0 none from rfl)
 refine⟨_,_,_,_,_,_,_,_,_,_,_,ja.bk.ra,?_⟩;obtain⟨a,pa,hp⟩:=zqh hp;refine zza (c:=c) h.pre ag ah ai aj pa fun gb D i j n o p q qa sa ta ua va F wa=>?_;obtain⟨xa,ya⟩:=h.callG qa d;have za:=B.k ya;refine⟨_,_,_,_,_,_,_,_,_,_,_,_,_,rfl,?_⟩;intro hb Aa;obtain⟨Za,Ba,Ca,Da⟩:=xa.blk Aa d 3;have Ea:=za.k Ca;obtain⟨Fa,Ga,s,Ha,G⟩:=Da.sto Ba (xD a i j n o p q);have I:=Ea.k Ha;refine⟨Fa,Ga,?_⟩;refine⟨trivial,_,G.bk.rc rfl,_,(Mi.len zyo (Mi.sub F s.sub)),?_⟩;refine ifd hp (fun Ia hp=>?_) fun Ia hp=>?_
 ·obtain⟨Ja,Ka,La,ab,Ma⟩:=I.sto s [Il 0,Il 0,.sl0,.sl0,Il 0,Il 0,Il 0,.sl0,Il 0,Il 0,.sl0,C.map0,C.map0];refine⟨Ja,Ka,?_⟩;refine⟨_,_,_,_,_,_,_,_,_,_,_,_,_,Ma.bk.ra,?_⟩;obtain rfl:=oi hp;exact hq _ D .sl0 .sl0 .sl0 .sl0 C.map0 C.map0 La.grw (Sl.nil _) (Sl.nil _) (Sl.nil _) (Sl.nil _) (show Mi _ .map0 none from rfl) (show Mi _ .map0 none from rfl)
 refine⟨_,_,_,_,_,_,_,_,_,_,_,_,_,G.bk.ra,?_⟩;obtain⟨Na,Oa,Pa,bb,Qa⟩:=I.sto s (xD a i j n o p q);refine⟨Na,Oa,?_⟩;refine⟨_,_,_,_,_,_,_,_,_,_,_,_,_,Qa.bk.ra,?_⟩;obtain rfl:=oi hp;exact hq _ D i j n o p q Pa.grw sa ta ua va F wa
theorem zzc{w:Wd}{claims:List Clm}{ac ad ae af ag ab ah:C}{rz:Bool}(hS:Pre f m)(_ha102:Sl f ac w.c.Book.Parcels)(_ha103:Sl f ad w.c.Book.Entries)(_ha107:Sl f ae w.c.Covers)(_ha110:Sl f af w.c.Claims)(_ha111:Mi f ag w.settled)(ai:Mi f ab w.paid)(aj:Sl f ah claims)(hp:zuC w claims=some rz)(hq:∀m',Ext m m'->Q (.c (.bool rz)) m'):Wc prog tbl 91 [.agg 13 (xD w ac ad ae af ag ab),.c ah] m Q:=by
 have S0:=hS.st;obtain⟨τ0,_⟩:=zr5;refine w91 ?_;unfold zuC at hp;intro m0 T;obtain⟨Y,Z,Ia,o⟩:=S0.blk T τ0 1;refine⟨trivial,_,o.bk.rc rfl,?_⟩;obtain⟨Fa,aa,D,F,G⟩:=Mi.rng zyp Z ai Y 2;have hp:=zrk hp D;refine⟨aa,F,?_⟩;intro m3 ba;obtain⟨ca,da,ea,fa⟩:=G m3 ba;have d:=o.k ea;intro R4 Ga
 have ak:∀(e:Nat) (b5:Bool) (g:List P3) (A:M) (a:Nat->Nat),St (Fm.of m) f f A->Lb (Fm.of m) f a A 1 m.nxt 13 (xD w ac ad ae af ag ab)->Ir (Fm.of m) f a A 2 m0.nxt ab w.paid g->pcanHold_L0 w claims e g=some rz->R4 [.c (.bool b5)] A:=by
  intro e
  induction e with
  | zero=>intro b5 g A a j d q hp; cases hp
  | succ e Ea=>
   intro b5 g A a j d q hp;refine Ga _ _ ?_;rw[pcanHold_L0] at hp;obtain⟨l7,I,J,N⟩:=q.next j;refine⟨l7,I,fun ga=>?_,fun u8 u9 Ra ha=>?_⟩
   ·have hp:=zrn (J ga) hp;obtain rfl:=oi hp;exact hq _ j.ext'
   obtain⟨ia,h,ja,ka,O,Ha,P,B,r,la,s⟩:=N _ _ _ ha;have hp:=zro O hp;obtain⟨ma,S,hp⟩:=zqh hp;obtain rfl:ma=ka:=oi (S.symm.trans P);generalize ia++ja=Ja at hp s;have na:=d.k la;refine⟨_,_,_,_,B,?_⟩;intro Sa oa;obtain⟨t,l,u,pa⟩:=r.blk oa a 3;have qa:=na.k u;have sa:=s.k u r.sub l (by decide);obtain⟨ta,ua,i,y,va⟩:=pa.sto l [Il h.p0,Il h.p1,Il h.p2];have wa:=qa.k y;have xa:=sa.k y l.sub i (by decide);refine⟨ta,ua,?_⟩;refine⟨_,_,_,va.bk.ra,?_⟩;obtain⟨Ka,ya,hp⟩:=zqh hp;refine zy0 (p:=h) (claims:=claims) i.pre aj ya fun Ta za=>?_;obtain⟨n,z⟩:=i.call za t;have Aa:=wa.k z;have Ba:=xa.k z i.sub n (by decide);refine⟨_,rfl,?_⟩;refine zqS hp (fun Ca hp=>?_) fun Ca hp=>?_; rotate_left
   ·exact Ea _ _ _ t n Aa Ba hp
   obtain rfl:=oi hp;exact hq _ n.ext'
 exact ak _ _ _ _ ca da d fa hp
theorem zzd{c:Cs}{asked:List Int}{ab ac ad ae af:C}{rz:Wd × Int}(hS:Pre f m)(ag:Sl f ab c.Book.Parcels)(ah:Sl f ac c.Book.Entries)(ai:Sl f ad c.Covers)(aj:Sl f ae c.Claims)(ak:Sl f af asked)(hp:zuD c asked=some rz)(hq:∀m' f' c2 c3 c7 am ao ap,Grw m f m' f'->Sl f' c2 rz.1.c.Book.Parcels->Sl f' c3 rz.1.c.Book.Entries->Sl f' c7 rz.1.c.Covers->Sl f' am rz.1.c.Claims->Mi f' ao rz.1.settled->Mi f' ap rz.1.paid->Q (.tup [.agg 13 (xD rz.1 c2 c3 c7 am ao ap),.c (Il rz.2)]) m'):Wc prog tbl 80 [.agg 11 (xC c ab ac ad ae),.c af] m Q:=by
 have S0:=hS.st;obtain⟨τ0,_⟩:=zr5;refine w80 ?_;unfold zuD at hp;intro m0 G;obtain⟨I,J,Ea,N⟩:=S0.blk G τ0 1;intro m1 O;obtain⟨q,r,P,S⟩:=J.blk O I 2;have T:=N.k P;refine⟨_,_,_,_,_,_,_,_,_,_,_,T.bk.ra,?_⟩;obtain⟨a,Y,hp⟩:=zqh hp;refine zzb (c:=c) (asked:=asked) r.pre ag ah ai aj ak Y fun La d e g h i j l Z s t u n y z=>?_;obtain⟨aa,ba⟩:=r.callG Z q;have ca:=S.k ba;refine⟨_,_,_,_,_,_,_,_,_,_,_,_,_,_,rfl,?_⟩;intro Ma da;obtain⟨ea,fa,ga,ha⟩:=aa.blk da q 3;have ia:=ca.k ga;obtain⟨ja,ka,o,la,p⟩:=ha.sto fa (xD a.1 e g h i j l);have A:=ia.k la;refine⟨ja,ka,?_⟩;refine zqR hp (fun ma hp=>?_) fun ma hp=>?_
 ·obtain⟨na,oa,pa,Fa,qa⟩:=A.sto o [Il 0,Il 0,.sl0,.sl0,Il 0,Il 0,Il 0,.sl0,Il 0,Il 0,.sl0,C.map0,C.map0];refine⟨na,oa,?_⟩;refine⟨_,_,_,_,_,_,_,_,_,_,_,_,_,qa.bk.ra,?_⟩;obtain rfl:=oi hp;exact hq _ d .sl0 .sl0 .sl0 .sl0 C.map0 C.map0 pa.grw (Sl.nil _) (Sl.nil _) (Sl.nil _) (Sl.nil _) (show Mi _ .map0 none from rfl) (show Mi _ .map0 none from rfl)
 refine⟨_,_,_,_,_,_,_,_,_,_,_,_,_,p.bk.ra,trivial,trivial,_,p.bk.rc rfl,?_⟩;obtain⟨Ga,sa,hp⟩:=zqh hp;refine zzc (w:=a.1) (claims:=a.1.c.Claims) o.pre s t u n y z n sa fun Na ta=>?_;obtain⟨B,D⟩:=o.call ta ea;have F:=A.k D;have ua:=p.k D;refine⟨_,rfl,?_⟩;refine zqT hp (fun va hp=>?_) fun va hp=>?_
 ·obtain⟨wa,xa,ya,Ha,za⟩:=F.sto B [Il 0,Il 0,.sl0,.sl0,Il 0,Il 0,Il 0,.sl0,Il 0,Il 0,.sl0,C.map0,C.map0];refine⟨wa,xa,?_⟩;refine⟨_,_,_,_,_,_,_,_,_,_,_,_,_,za.bk.ra,?_⟩;obtain rfl:=oi hp;exact hq _ d .sl0 .sl0 .sl0 .sl0 C.map0 C.map0 ya.grw (Sl.nil _) (Sl.nil _) (Sl.nil _) (Sl.nil _) (show Mi _ .map0 none from rfl) (show Mi _ .map0 none from rfl)
 refine⟨_,_,_,_,_,_,_,_,_,_,_,_,_,ua.bk.ra,?_⟩;obtain⟨Aa,Ba,Ca,Ia,Da⟩:=F.sto B (xD a.1 e g h i j l);refine⟨Aa,Ba,?_⟩;refine⟨_,_,_,_,_,_,_,_,_,_,_,_,_,Da.bk.ra,?_⟩;obtain rfl:=oi hp;exact hq _ d e g h i j l Ca.grw s t u n y z
theorem zze{l:List Int}{v:Int}{F:C}{rz:Int}(hS:Pre f m)(D:Sl f F l)(hp:zuF l v=some rz)(hq:∀m',Ext m m'->Q (.c (Il rz)) m'):Wc prog tbl 172 [.c F,.c (Il v)] m Q:=by
 have w:=hS.st;obtain⟨y,_⟩:=zr5;refine zvM ?_;unfold zuF at hp;refine⟨D.isSl,?_⟩;intro z t
 have G:∀(d:Nat) (r:Int) (j:Int) (n:M) (e:Nat->Nat),St (Fm.of m) f f n->zuE l v d j=some rz->z [.c (Il r),.c (Il j)] n:=by
  intro d
  induction d with
  | zero=>intro r j n e a hp; cases hp
  | succ d s=>
   intro r j n e a hp;refine t _ _ _ ?_;rw[zuE] at hp
   try rw[D.slLen]
   refine ifd hp (fun o hp=>?_) fun o hp=>?_; rotate_left
   ·obtain rfl:=oi hp;exact hq _ a.ext'
   obtain⟨u,g,hp⟩:=zqh hp;obtain⟨A,i,h,g⟩:=zqb g;refine⟨A,i,(by first|exact h|(rw[D.slLen];exact h)),_,(D.rdI g a.sub),?_⟩;refine ifd hp (fun p hp=>?_) fun p hp=>?_
   ·obtain rfl:=oi hp;exact hq _ a.ext'
   refine gdi hp fun q hp=>?_;exact s _ _ _ e a hp
 exact G _ _ _ _ y w hp
theorem zzf{l:List Int}{v:Int}{q:C}{rz:Bool}(hS:Pre f m)(s:Sl f q l)(hp:zuG l v=some rz)(hq:∀m',Ext m m'->Q (.c (.bool rz)) m'):Wc prog tbl 141 [.c q,.c (Il v)] m Q:=by
 have g:=hS.st;obtain⟨j,_⟩:=zr5;refine zvZ ?_;unfold zuG at hp;obtain⟨h,a,hp⟩:=zqh hp;refine zze (l:=l) (v:=v) g.pre s a fun n d=>?_;obtain⟨e,i⟩:=g.call d j;refine⟨_,rfl,?_⟩;obtain rfl:=oi hp;exact hq _ e.ext'
theorem zzg{w:Wd}{list:List Int}{ac ad ae af ag ah ai:C}{rz:List Clm}(hS:Pre f m)(_ha102:Sl f ac w.c.Book.Parcels)(_ha103:Sl f ad w.c.Book.Entries)(_ha107:Sl f ae w.c.Covers)(ab:Sl f af w.c.Claims)(_ha111:Mi f ag w.settled)(_ha112:Mi f ah w.paid)(aj:Sl f ai list)(hp:zuI w list=some rz)(hq:∀m' f' c0,Grw m f m' f'->Sl f' c0 rz->Q (.c c0) m'):Wc prog tbl 93 [.agg 13 (xD w ac ad ae af ag ah),.c ai] m Q:=by
 have S0:=hS.st;obtain⟨τ0,_⟩:=zr5;refine w93 ?_;unfold zuI at hp;intro m0 I;obtain⟨J,N,za,e⟩:=S0.blk I τ0 1;refine⟨trivial,trivial,_,e.bk.rc rfl,ab.isSl,?_⟩;intro R2 ya
 have ak:∀(i:Nat) (B:C) (D:Int) (j:List Clm) (A:M) (g:Nat->Nat),St (Fm.of m) f f A->Lb (Fm.of m) f g A 1 m.nxt 13 (xD w ac ad ae af ag ah)->Ow (Fm.of m) f g A 2 B j->zuH w list i j D=some rz->R2 [.c B,.c (Il D)] A:=by
  intro i
  induction i with
  | zero=>intro B D j A g n e d hp; cases hp
  | succ i F=>
   intro B D j A g n e d hp;refine ya _ _ _ ?_;rw[zuH] at hp
   try rw[ab.slLen]
   refine ifd hp (fun O hp=>?_) fun O hp=>?_; rotate_left
   ·obtain⟨P,S,Aa,T⟩:=d.freeze n;obtain rfl:=oi hp;exact hq _ P B S.grw T
   obtain⟨h,o,hp⟩:=zqh hp;obtain⟨n6,G,q,o⟩:=zqb o;obtain⟨_,Y⟩:=zsm ab o;refine⟨n6,G,(by first|exact q|(rw[ab.slLen];exact q)),_,_,_,(Y _ n.sub).1,?_⟩;intro Ga Z;obtain⟨r,aa,s,ba⟩:=n.blk Z g 3;have ca:=e.k s;have d:=d.k s;obtain⟨da,ea,t,u,fa⟩:=ba.sto aa [Il h.Society,Il h.Paid.Lo,Il h.Paid.Hi];have ga:=ca.k u;have d:=d.k u;refine⟨da,ea,?_⟩;obtain⟨Ba,ha,hp⟩:=zqh hp;refine zzf (l:=list) (v:=D) t.pre aj ha fun Ha ia=>?_;obtain⟨y,p⟩:=t.call ia r;have z:=ga.k p;have ja:=fa.k p;have d:=d.k p;refine⟨_,rfl,?_⟩;refine zqT hp (fun ka hp=>?_) fun ka hp=>?_; rotate_left
   ·refine gdi hp fun la hp=>?_;exact F _ _ _ _ r y z d hp
   refine⟨_,_,_,ja.bk.ra,?_⟩;obtain⟨ma,hp⟩:=zqi hp;intro Ia na;obtain⟨oa,pa,qa,sa,ta,ua,va⟩:=d.app' zyq y (a:=h) (show Rp.rep (α:=Clm) f _ h from rfl) ma na;have wa:=z.k ua;refine⟨oa,pa,sa,?_⟩;refine gdi hp fun xa hp=>?_;exact F _ _ _ _ qa ta wa va hp
 exact ak _ _ _ _ _ J N e (Ow.nil _ _ _ _ _) hp
theorem zzh{l:List Int}{P:C}{rz:Int}(hS:Pre f m)(O:Sl f P l)(hp:zuK l=some rz)(hq:∀m',Ext m m'->Q (.c (Il rz)) m'):Wc prog tbl 135 [.c P] m Q:=by
 have A:=hS.st;obtain⟨G,_⟩:=zr5;refine zwx ?_;unfold zuK at hp;refine⟨O.isSl,?_⟩
 try rw[O.slLen]
 refine ifd hp (fun q hp=>?_) fun q hp=>?_
 ·obtain rfl:=oi hp;exact hq _ A.ext'
 obtain⟨D,g,hp⟩:=zqh hp;obtain⟨I,n,i,g⟩:=zqb g;refine⟨I,n,(by first|exact i|(rw[O.slLen];exact i)),_,(O.rdI g A.sub),O.isSl,?_⟩;intro J B
 have S:∀(d:Nat) (r:Int) (s:Int) (t:M) (e:Nat->Nat),St (Fm.of m) f f t->zuJ l d r s=some rz->J [.c (Il r),.c (Il s)] t:=by
  intro d
  induction d with
  | zero=>intro r s t e a hp; cases hp
  | succ d o=>
   intro r s t e a hp;refine B _ _ _ ?_;rw[zuJ] at hp
   try rw[O.slLen]
   refine ifd hp (fun u hp=>?_) fun u hp=>?_; rotate_left
   ·obtain rfl:=oi hp;exact hq _ a.ext'
   obtain⟨F,h,hp⟩:=zqh hp;obtain⟨N,p,j,h⟩:=zqb h;refine⟨N,p,(by first|exact j|(rw[O.slLen];exact j)),_,(O.rdI h a.sub),?_⟩;refine ifd hp (fun w hp=>?_) fun w hp=>?_
   ·refine gdi hp fun y hp=>?_;exact o _ _ _ e a hp
   refine gdi hp fun z hp=>?_;exact o _ _ _ e a hp
 exact S _ _ _ _ G A hp
theorem zzi{l:List Int}{N:C}{rz:Int}(hS:Pre f m)(J:Sl f N l)(hp:zuM l=some rz)(hq:∀m',Ext m m'->Q (.c (Il rz)) m'):Wc prog tbl 136 [.c N] m Q:=by
 have y:=hS.st;obtain⟨D,_⟩:=zr5;refine zvG ?_;unfold zuM at hp;refine⟨J.isSl,?_⟩
 try rw[J.slLen]
 refine ifd hp (fun p hp=>?_) fun p hp=>?_
 ·cases hp
 obtain⟨A,e,hp⟩:=zqh hp;obtain⟨F,n,i,e⟩:=zqb e;refine⟨F,n,(by first|exact i|(rw[J.slLen];exact i)),_,(J.rdI e y.sub),?_⟩;intro G z
 have O:∀(a:Nat) (q:Int) (r:Int) (s:M) (g:Nat->Nat),St (Fm.of m) f f s->zuL l a q r=some rz->G [.c (Il q),.c (Il r)] s:=by
  intro a
  induction a with
  | zero=>intro q r s g d hp; cases hp
  | succ a w=>
   intro q r s g d hp;refine z _ _ _ ?_;rw[zuL] at hp;refine⟨J.isSl,?_⟩
   try rw[J.slLen]
   refine ifd hp (fun t hp=>?_) fun t hp=>?_; rotate_left
   ·obtain rfl:=oi hp;exact hq _ d.ext'
   obtain⟨B,h,hp⟩:=zqh hp;obtain⟨I,o,j,h⟩:=zqb h;refine⟨I,o,(by first|exact j|(rw[J.slLen];exact j)),_,(J.rdI h d.sub),?_⟩;refine gdi hp fun u hp=>?_;exact w _ _ _ g d hp
 exact O _ _ _ _ D y hp
theorem zzj{s:Stl}{society:Int}{rz:Int}(hS:Pre f m)(hp:zuN s society=some rz)(hq:∀m',Ext m m'->Q (.c (Il rz)) m'):Wc prog tbl 82 [.agg 7 [Il s.d.amount,Il s.d.sums.p0,Il s.d.sums.p1,Il s.d.sums.p2,Il s.pays.p0,Il s.pays.p1,Il s.pays.p2],.c (Il society)] m Q:=by
 have q:=hS.st;obtain⟨r,_⟩:=zr5;refine w82 ?_;unfold zuN at hp;intro u h;obtain⟨n,i,o,j⟩:=q.blk h r 1;refine⟨trivial,trivial,?_⟩;obtain⟨p,a,hp⟩:=zqh hp;obtain⟨t,e,g,a⟩:=zqb a;refine⟨t,e,g,_,(j.bk.rc (zqN (l:=([s.pays.p0,s.pays.p1,s.pays.p2]:List Int)) (enc:=(C.int .i64)) 4 rfl a)),?_⟩;obtain rfl:=oi hp;exact hq _ i.ext'
theorem zzk{s:Stl}{society:Int}{rz:Int}(hS:Pre f m)(hp:zuO s society=some rz)(hq:∀m',Ext m m'->Q (.c (Il rz)) m'):Wc prog tbl 84 [.agg 7 [Il s.d.amount,Il s.d.sums.p0,Il s.d.sums.p1,Il s.d.sums.p2,Il s.pays.p0,Il s.pays.p1,Il s.pays.p2],.c (Il society)] m Q:=by
 have t:=hS.st;obtain⟨u,_⟩:=zr5;refine w84 ?_;unfold zuO at hp;intro w e;obtain⟨g,a,o,h⟩:=t.blk e u 1;refine⟨trivial,_,_,_,h.bk.rp (k:=4) (j:=3) rfl (by omega),?_⟩;obtain⟨q,i,hp⟩:=zqh hp;refine zyU (p:=s.pays) (society:=society) a.pre  i fun y l=>?_;obtain⟨n,r⟩:=a.call l g;refine⟨_,rfl,?_⟩;obtain rfl:=oi hp;exact hq _ n.ext'
theorem zzl{s:Stl}{society:Int}{rz:Int}(hS:Pre f m)(hp:zuP s society=some rz)(hq:∀m',Ext m m'->Q (.c (Il rz)) m'):Wc prog tbl 83 [.agg 7 [Il s.d.amount,Il s.d.sums.p0,Il s.d.sums.p1,Il s.d.sums.p2,Il s.pays.p0,Il s.pays.p1,Il s.pays.p2],.c (Il society)] m Q:=by
 have y:=hS.st;obtain⟨z,_⟩:=zr5;refine w83 ?_;unfold zuP at hp;intro D o;obtain⟨r,p,t,a⟩:=y.blk o z 1;refine⟨trivial,trivial,trivial,?_⟩;obtain⟨u,e,hp⟩:=zqh hp;obtain⟨A,h,i,e⟩:=zqb e;refine⟨A,h,i,_,(a.bk.rc (zqN (l:=([s.d.sums.p0,s.d.sums.p1,s.d.sums.p2]:List Int)) (enc:=(C.int .i64)) 1 rfl e)),trivial,trivial,_,a.bk.rc rfl,trivial,trivial,?_⟩;obtain⟨w,g,hp⟩:=zqh hp;obtain⟨B,j,n,g⟩:=zqb g;refine⟨B,j,n,_,(a.bk.rc (zqN (l:=([s.pays.p0,s.pays.p1,s.pays.p2]:List Int)) (enc:=(C.int .i64)) 4 rfl g)),?_⟩;refine gdi hp fun q hp=>?_;obtain rfl:=oi hp;exact hq _ p.ext'
theorem zzm{w:Wd}{q:Qu}{society:Int}{af ag ah ai ae aj ak:C}{rz:Rg}(hS:Pre f m)(_ha102:Sl f af w.c.Book.Parcels)(_ha103:Sl f ag w.c.Book.Entries)(_ha107:Sl f ah w.c.Covers)(am:Sl f ai w.c.Claims)(ao:Mi f ae w.settled)(_ha112:Mi f aj w.paid)(ap:zyk f ak q.ask)(hp:zuQ w q society=some rz)(hq:∀m',Ext m m'->Q (.agg 2 [Il rz.Lo,Il rz.Hi]) m'):Wc prog tbl 81 [.agg 13 (xD w af ag ah ai ae aj),.agg 1 [ak],.c (Il society)] m Q:=by
 have S0:=hS.st;obtain⟨τ0,_⟩:=zr5;refine w81 ?_;unfold zuQ at hp;intro m0 Ha;obtain⟨Ia,Ja,Hc,Ka⟩:=S0.blk Ha τ0 1;intro m1 La;obtain⟨Ma,Na,Oa,Pa⟩:=Ja.blk La Ia 2;have Qa:=Ka.k Oa;intro m2 Ra;obtain⟨Sa,Ta,fa,Ua⟩:=Na.blk Ra Ma 3;have ga:=Qa.k fa;have Va:=Pa.k fa;refine⟨trivial,_,ga.bk.rc rfl,?_⟩;obtain⟨Ec,Wa,xa,ya,za⟩:=Mi.rng zyo Ta ao Sa 4;have hp:=zrk hp xa;refine⟨Wa,ya,?_⟩;intro m5 Xa;obtain⟨Ya,Za,P,ab⟩:=za m5 Xa;have y:=ga.k P;have z:=Va.k P;have o:=Ua.k P;intro R6 Fc
 have aq:∀(A:Nat) (c7:C) (h:List Int) (B:List Dm) (S:M) (e:Nat->Nat),St (Fm.of m) f f S->Lb (Fm.of m) f e S 1 m.nxt 13 (xD w af ag ah ai ae aj)->Lb (Fm.of m) f e S 2 m0.nxt 1 [ak]->Lb (Fm.of m) f e S 3 m1.nxt 2 [Il 0,Il 0]->Ow (Fm.of m) f e S 5 c7 h->Ir (Fm.of m) f e S 4 m2.nxt ae w.settled B->pboundsW_L0 w q society A h B=some rz->R6 [.c c7] S:=by
  intro A
  induction A with
  | zero=>intro c7 h B S e D y z o d T hp; cases hp
  | succ A Aa=>
   intro c7 h B S e D y z o d T hp;refine Fc _ _ ?_;rw[pboundsW_L0] at hp;obtain⟨l9,Ba,Ca,Da⟩:=T.next D;refine⟨l9,Ba,fun cb=>?_,fun Zc ad bd db=>?_⟩
   ·have hp:=zrn (Ca cb) hp;obtain⟨Ic,F,ha,ia⟩:=d.freeze D;have eb:=o.k ha;have fb:=T.k ha D.sub F (by decide);obtain⟨gb,hb,hp⟩:=zqh hp;refine zzh (l:=h) F.pre ia hb fun cd ib=>?_;obtain⟨G,ja⟩:=F.call ib e;have jb:=eb.k ja;have kb:=fb.k ja F.sub G (by decide);refine⟨_,rfl,?_⟩;obtain⟨mb,ob,hp⟩:=zqh hp;refine zzi (l:=h) G.pre ia ob fun dd pb=>?_;obtain⟨Y,ka⟩:=G.call pb e;have qb:=jb.k ka;have rb:=kb.k ka G.sub Y (by decide);refine⟨_,rfl,?_⟩;obtain⟨sb,tb,la,ub,vb⟩:=qb.sto Y [Il gb,Il mb];have Jc:=rb.k ub Y.sub la (by decide);refine⟨sb,tb,?_⟩;refine⟨_,_,vb.bk.ra,?_⟩;obtain rfl:=oi hp;exact hq _ la.ext'
   obtain⟨wb,I,xb,yb,Ea,Gc,Fa,wa,ma,J,na⟩:=Da _ _ _ db;have hp:=zro Ea hp;obtain⟨r,Ga,hp⟩:=zqh hp;obtain rfl:r=yb:=oi (Ga.symm.trans Fa);generalize wb++xb=Kc at hp na;have zb:=y.k J;have Ab:=z.k J;have Bb:=o.k J;have d:=d.k J;refine⟨_,_,_,_,_,_,_,wa,?_⟩;intro ed Cb;obtain⟨Db,Z,s,Eb⟩:=ma.blk Cb e 6;have Fb:=zb.k s;have Gb:=Ab.k s;have Hb:=Bb.k s;have d:=d.k s;have Ib:=na.k s ma.sub Z (by decide);intro fd Jb;obtain⟨aa,ba,i,Kb⟩:=Z.blk Jb Db 7;have Mb:=Fb.k i;have Nb:=Gb.k i;have Ob:=Hb.k i;have Pb:=Eb.k i;have d:=d.k i;have Qb:=Ib.k i Z.sub ba (by decide);obtain⟨Rb,Sb,ca,j,Tb⟩:=Pb.sto ba [Il I.amount,Il I.sums.p0,Il I.sums.p1,Il I.sums.p2];have Ub:=Mb.k j;have Vb:=Nb.k j;have Wb:=Ob.k j;have Xb:=Kb.k j;have d:=d.k j;have Yb:=Qb.k j ba.sub ca (by decide);refine⟨Rb,Sb,?_⟩;obtain⟨Zb,ac,N,n,oa⟩:=Xb.sto ca [Il r.p0,Il r.p1,Il r.p2];have pa:=Ub.k n;have bc:=Vb.k n;have cc:=Wb.k n;have dc:=Tb.k n;have d:=d.k n;have ec:=Yb.k n ca.sub N (by decide);refine⟨Zb,ac,?_⟩;refine⟨_,_,_,oa.bk.ra,trivial,trivial,_,pa.bk.rc rfl,?_⟩;obtain⟨Nc,fc,hp⟩:=zqh hp;refine zy0 (p:=r) (claims:=w.c.Claims) N.pre am fc fun hd gc=>?_;obtain⟨t,g⟩:=N.call gc aa;have qa:=pa.k g;have da:=bc.k g;have sa:=cc.k g;have hc:=dc.k g;have ic:=oa.k g;have d:=d.k g;have ta:=ec.k g N.sub t (by decide);refine⟨_,rfl,?_⟩;refine zqS hp (fun jc hp=>?_) fun jc hp=>?_; rotate_left
   ·exact Aa _ _ _ _ aa t qa da sa d ta hp
   refine⟨trivial,_,da.bk.rc rfl,_,_,_,_,hc.bk.ra,_,_,_,ic.bk.ra,?_⟩;obtain⟨ua,kc,hp⟩:=zqh hp;refine ap _ _ _ _ _ _ (Sub.refl _) t.pre  kc fun id nc=>?_;obtain⟨ea,u⟩:=t.call nc aa;have oc:=qa.k u;have pc:=da.k u;have qc:=sa.k u;have d:=d.k u;have sc:=ta.k u t.sub ea (by decide);refine⟨_,rfl,?_⟩;obtain⟨tc,hp⟩:=zqi hp;intro jd uc;obtain⟨vc,wc,xc,yc,va,O,zc⟩:=d.app' zwN ea (a:=ua) (show Rp.rep (α:=Int) f _ ua from rfl) tc uc;have Ac:=oc.k O;have Bc:=pc.k O;have Cc:=qc.k O;have Dc:=sc.k O ea.sub va (by decide);refine⟨vc,wc,yc,?_⟩;exact Aa _ _ _ _ xc va Ac Bc Cc zc Dc hp
 exact aq _ _ _ _ _ Ya Za y z o (Ow.nil _ _ _ _ _) ab hp
theorem zzn{c:Cs}{ac ad ae af:C}{rz:List Bd × Int}(hS:Pre f m)(ah:Sl f ac c.Book.Parcels)(ai:Sl f ad c.Book.Entries)(aj:Sl f ae c.Covers)(ak:Sl f af c.Claims)(hp:zuS c=some rz)(hq:∀m' f' c0,Grw m f m' f'->Sl f' c0 rz.1->Q (.tup [.c c0,.c (Il rz.2)]) m'):Wc prog tbl 33 [.agg 11 (xC c ac ad ae af)] m Q:=by
 have S0:=hS.st;obtain⟨τ0,_⟩:=zr5;refine w33 ?_;unfold zuS at hp;intro m0 ma;obtain⟨P,S,eb,T⟩:=S0.blk ma τ0 1;refine⟨_,_,_,_,_,_,_,_,_,_,_,T.bk.ra,?_⟩;obtain⟨d,na,hp⟩:=zqh hp;refine zzd (c:=c) (asked:=[]) S.pre ah ai aj ak (Sl.nil _) na fun cb e Y Z aa ba ca da oa A B D F G I=>?_;obtain⟨pa,qa⟩:=S.callG oa P;have sa:=T.k qa;refine⟨_,_,_,_,_,_,_,_,_,_,_,_,_,_,rfl,?_⟩;intro ib ta;obtain⟨ua,va,wa,xa⟩:=pa.blk ta P 2;have ya:=sa.k wa;obtain⟨za,Aa,ea,Ba,i⟩:=xa.sto va (xD d.1 Y Z aa ba ca da);have j:=ya.k Ba;refine⟨za,Aa,?_⟩;refine zqR hp (fun Ca hp=>?_) fun Ca hp=>?_
 ·obtain rfl:=oi hp;exact hq _ e .sl0 ea.grw (Sl.nil _)
 refine⟨trivial,_,j.bk.rc rfl,?_⟩;intro db bb
 have am:∀(l:Nat) (O:C) (z:Int) (n:List Bd) (y:M) (g:Nat->Nat),St (Fm.of m) f e y->Lb (Fm.of m) e g y 1 m.nxt 11 (xC c ac ad ae af)->Lb (Fm.of m) e g y 2 cb.nxt 13 (xD d.1 Y Z aa ba ca da)->Ow (Fm.of m) e g y 3 O n->zuR c d l n z=some rz->db [.c O,.c (Il z)] y:=by
  intro l
  induction l with
  | zero=>intro O z n y g o j i h hp; cases hp
  | succ l Da=>
   intro O z n y g o j i h hp;refine bb _ _ _ ?_;rw[zuR] at hp;refine ifd hp (fun Ea hp=>?_) fun Ea hp=>?_; rotate_left
   ·obtain⟨Fa,Ga,fb,Ha⟩:=h.freeze o;obtain rfl:=oi hp;exact hq _ Fa O Ga.grw Ha
   refine⟨_,_,_,_,_,_,_,_,_,_,_,_,_,i.bk.ra,?_⟩
   have ka:zyk e ((C.fn (Fn.func 82) [] [])) (fun p s=>zuN p s):=by
    intro f' m' p s r Q hs ag  hg hq;exact zzj ag  hg hq
   obtain⟨fa,Ia,hp⟩:=zqh hp;refine zzm (w:=d.1) (q:=({ ask:=(fun p s=>zuN p s) }:Qu)) (society:=z) o.pre A B D F G I ka Ia fun jb Ja=>?_;obtain⟨ga,J⟩:=o.call Ja g;have Ka:=j.k J;have ha:=i.k J;have h:=h.k J;refine⟨_,_,rfl,_,_,_,_,_,_,_,_,_,_,_,_,_,ha.bk.ra,(by rw[show zaL cmC _=true from zoO (zql rfl (zql rfl (zql A.noFn (zql B.noFn (zql rfl (zql rfl (zql rfl (zql D.noFn (zql rfl (zql rfl (zql F.noFn (zql G.noFn (zql I.noFn zqm)))))))))))))]; exact(i.bk.ra)),?_⟩
   have la:zyk e ((C.fn (Fn.func 83) [] [])) (fun t u=>zuP t u):=by
    intro f' m' t u r Q hs ag  hg hq;exact zzl ag  hg hq
   obtain⟨ia,La,hp⟩:=zqh hp;refine zzm (w:=d.1) (q:=({ ask:=(fun t u=>zuP t u) }:Qu)) (society:=z) ga.pre A B D F G I la La fun kb Ma=>?_;obtain⟨Na,N⟩:=ga.call Ma g;have Oa:=Ka.k N;have Pa:=ha.k N;have h:=h.k N;refine⟨_,_,rfl,?_⟩;obtain⟨Qa,hp⟩:=zqi hp;intro mb Ra;obtain⟨Sa,Ta,Ua,Va,Wa,ja,Xa⟩:=h.app' zyr Na (a:=({ Pays:=fa,Refund:=ia }:Bd)) (show Rp.rep (α:=Bd) e _ ({ Pays:=fa,Refund:=ia }:Bd) from rfl) Qa Ra;have Ya:=Oa.k ja;have Za:=Pa.k ja;refine⟨Sa,Ta,Va,?_⟩;refine gdi hp fun ab hp=>?_;exact Da _ _ _ _ Ua Wa Ya Za Xa hp
 exact am _ _ _ _ _ ua ea j i (Ow.nil _ _ _ _ _) hp
theorem zzo{c:Cs}{ab ac ad ae:C}{rz:Rg × Int}(hS:Pre f m)(af:Sl f ab c.Book.Parcels)(ag:Sl f ac c.Book.Entries)(ah:Sl f ad c.Covers)(ai:Sl f ae c.Claims)(hp:zuT c=some rz)(hq:∀m',Ext m m'->Q (.tup [.agg 2 [Il rz.1.Lo,Il rz.1.Hi],.c (Il rz.2)]) m'):Wc prog tbl 34 [.agg 11 (xC c ab ac ad ae)] m Q:=by
 have S0:=hS.st;obtain⟨τ0,_⟩:=zr5;refine w34 ?_;unfold zuT at hp;intro m0 u;obtain⟨y,z,Ia,A⟩:=S0.blk u τ0 1;intro m1 B;obtain⟨h,i,D,F⟩:=z.blk B y 2;have j:=A.k D;refine⟨_,_,_,_,_,_,_,_,_,_,_,j.bk.ra,?_⟩;obtain⟨a,G,hp⟩:=zqh hp;refine zzd (c:=c) (asked:=[]) i.pre af ag ah ai (Sl.nil _) G fun Na I J N O P S T Y Z aa ba ca da ea=>?_;obtain⟨fa,l⟩:=i.callG Y h;have ga:=j.k l;have ha:=F.k l;refine⟨_,_,_,_,_,_,_,_,_,_,_,_,_,_,rfl,?_⟩;intro Oa ia;obtain⟨ja,ka,n,la⟩:=fa.blk ia h 3;have ma:=ga.k n;have na:=ha.k n;obtain⟨oa,pa,g,o,qa⟩:=la.sto ka (xD a.1 J N O P S T);have sa:=ma.k o;have p:=na.k o;refine⟨oa,pa,?_⟩;refine zqR hp (fun ta hp=>?_) fun ta hp=>?_
 ·obtain⟨ua,va,wa,Ja,xa⟩:=p.sto g [Il 0,Il 0];refine⟨ua,va,?_⟩;refine⟨_,_,xa.bk.ra,?_⟩;obtain rfl:=oi hp;exact hq _ wa.ext'
 refine⟨_,_,_,_,_,_,_,_,_,_,_,_,_,qa.bk.ra,trivial,_,sa.bk.rc rfl,?_⟩;refine gdi hp fun ya hp=>?_
 have t:zyk I ((C.fn (Fn.func 84) [] [])) (fun d e=>zuO d e):=by
  intro f' m' d e r Q hs aj  hg hq;exact zzk aj  hg hq
 obtain⟨s,za,hp⟩:=zqh hp;refine zzm (w:=a.1) (q:=({ ask:=(fun d e=>zuO d e) }:Qu)) (society:=(c.Societies - (1:Int))) g.pre Z aa ba ca da ea t za fun Pa Aa=>?_;obtain⟨Ba,Ca⟩:=g.call Aa ja;have Da:=p.k Ca;refine⟨_,_,rfl,?_⟩;obtain⟨Ea,Fa,Ga,Ka,Ha⟩:=Da.sto Ba [Il s.Lo,Il s.Hi];refine⟨Ea,Fa,?_⟩;refine⟨_,_,Ha.bk.ra,?_⟩;obtain rfl:=oi hp;exact hq _ Ga.ext'
theorem zzp{c:Cs}{ab ac ad ae:C}{rz:Int × Int}(hS:Pre f m)(af:Sl f ab c.Book.Parcels)(ag:Sl f ac c.Book.Entries)(ah:Sl f ad c.Covers)(ai:Sl f ae c.Claims)(hp:zuV c=some rz)(hq:∀m',Ext m m'->Q (.tup [.c (Il rz.1),.c (Il rz.2)]) m'):Wc prog tbl 42 [.agg 11 (xC c ab ac ad ae)] m Q:=by
 have S0:=hS.st;obtain⟨τ0,_⟩:=zr5;refine w42 ?_;unfold zuV at hp;intro m0 O;obtain⟨r,s,Fa,t⟩:=S0.blk O τ0 1;refine⟨_,_,_,_,_,_,_,_,_,_,_,t.bk.ra,?_⟩;obtain⟨a,P,hp⟩:=zqh hp;refine zzb (c:=c) (asked:=[]) s.pre af ag ah ai (Sl.nil _) P fun Da q u y z A B D S T Y Z h aa ba=>?_;obtain⟨ca,da⟩:=s.callG S r;have ea:=t.k da;refine⟨_,_,_,_,_,_,_,_,_,_,_,_,_,_,rfl,?_⟩;intro Ka fa;obtain⟨ga,ha,ia,ja⟩:=ca.blk fa r 2;have ka:=ea.k ia;obtain⟨la,ma,F,na,d⟩:=ja.sto ha (xD a.1 u y z A B D);have l:=ka.k na;refine⟨la,ma,?_⟩;refine zqR hp (fun oa hp=>?_) fun oa hp=>?_
 ·obtain rfl:=oi hp;exact hq _ F.ext'
 refine⟨trivial,trivial,_,d.bk.rc rfl,h.isSl,?_⟩;intro Ea Ca
 have aj:∀(n:Nat) (J:Int) (N:Int) (g:Int) (p:M) (e:Nat->Nat),St (Fm.of m) f q p->Lb (Fm.of m) q e p 1 m.nxt 11 (xC c ab ac ad ae)->Lb (Fm.of m) q e p 2 Da.nxt 13 (xD a.1 u y z A B D)->zuU a n g=some rz->Ea [.c (Il J),.c (Il N),.c (Il g)] p:=by
  intro n
  induction n with
  | zero=>intro J N g p e o l d hp; cases hp
  | succ n pa=>
   intro J N g p e o l d hp;refine Ca _ _ _ _ ?_;rw[zuU] at hp
   try rw[h.slLen]
   refine ifd hp (fun qa hp=>?_) fun qa hp=>?_; rotate_left
   ·obtain rfl:=oi hp;exact hq _ o.ext'
   refine⟨_,_,_,_,_,_,_,_,_,_,_,_,_,d.bk.ra,trivial,trivial,_,d.bk.rc rfl,?_⟩;refine gdi hp fun sa hp=>?_;obtain⟨Ga,hp⟩:=zqi hp;obtain⟨ta,ua,va⟩:=h.subC (i:=Int.toNat (0:Int)) (j:=Int.toNat (g+1)) (by omega) (by omega);refine⟨_,_,rfl,(show(g+1)=((Int.toNat (g+1):Nat):Int) by omega),ta,ua,?_⟩;obtain⟨Ha,wa,hp⟩:=zqh hp;refine zzc (w:=a.1) (claims:=((a.1.c.Claims.take (Int.toNat (g+1))).drop (Int.toNat (0:Int)))) o.pre T Y Z h aa ba va wa fun La xa=>?_;obtain⟨G,I⟩:=o.call xa e;have ya:=l.k I;have za:=d.k I;refine⟨_,rfl,?_⟩;refine zqT hp (fun Aa hp=>?_) fun Aa hp=>?_
   ·obtain rfl:=oi hp;exact hq _ G.ext'
   refine gdi hp fun Ba hp=>?_;exact pa _ _ _ _ e G ya za hp
 exact aj _ _ _ _ _ ga F l d hp
theorem zzq{list:List Int}{w:Wd}{b0:Nat}{N O P S T Y Z:C}{rz:Bool}(hS:Pre f m)(ab:Sl f N list)(aa:Bk f b0 13 (xD w O P S T Y Z))(A:Sl f O w.c.Book.Parcels)(D:Sl f P w.c.Book.Entries)(F:Sl f S w.c.Covers)(G:Sl f T w.c.Claims)(I:Mi f Y w.settled)(J:Mi f Z w.paid)(hp:zuW list w=some rz)(hq:∀m',Ext m m'->Q (.c (.bool rz)) m'):Wc prog tbl 92 [.c N,.c (.ptr b0 0)] m Q:=by
 have e:=hS.st;obtain⟨p,_⟩:=zr5;refine c92 ?_;unfold zuW at hp;refine⟨_,_,_,_,_,_,_,_,_,_,_,_,_,(aa.sub e.sub).ra,_,_,_,_,_,_,_,_,_,_,_,_,_,(aa.sub e.sub).ra,?_⟩;obtain⟨g,h,hp⟩:=zqh hp;refine zzg (w:=w) (list:=list) e.pre A D F G I J ab h fun u q r i j=>?_;obtain⟨d,a⟩:=e.callG i p;refine⟨_,rfl,(by rw[show zaL cmC _=true from zoO (zql rfl (zql rfl (zql A.noFn (zql D.noFn (zql rfl (zql rfl (zql rfl (zql F.noFn (zql rfl (zql rfl (zql G.noFn (zql I.noFn (zql J.noFn zqm)))))))))))))]; exact((aa.sub (Sub.trans a.fs d.sub)).ra)),?_⟩;obtain⟨s,l,hp⟩:=zqh hp;refine zzc (w:=w) (claims:=g) d.pre (A.sub a.fs) (D.sub a.fs) (F.sub a.fs) (G.sub a.fs) (I.sub a.fs) (J.sub a.fs) j l fun y n=>?_;obtain⟨o,t⟩:=d.call n p;refine⟨_,rfl,?_⟩;obtain rfl:=oi hp;exact hq _ o.ext'
theorem zzr{c:Cs}{ab ac ad ae:C}{rz:List Int × Int}(hS:Pre f m)(af:Sl f ab c.Book.Parcels)(ag:Sl f ac c.Book.Entries)(ah:Sl f ad c.Covers)(ai:Sl f ae c.Claims)(hp:zuX c=some rz)(hq:∀m' f' c0,Grw m f m' f'->Sl f' c0 rz.1->Q (.tup [.c c0,.c (Il rz.2)]) m'):Wc prog tbl 43 [.agg 11 (xC c ab ac ad ae)] m Q:=by
 have S0:=hS.st;obtain⟨τ0,_⟩:=zr5;refine w43 ?_;unfold zuX at hp;intro m0 s;obtain⟨h,i,na,t⟩:=S0.blk s τ0 1;refine⟨_,_,_,_,_,_,_,_,_,_,_,t.bk.ra,?_⟩;obtain⟨a,u,hp⟩:=zqh hp;refine zzb (c:=c) (asked:=[]) i.pre af ag ah ai (Sl.nil _) u fun ma w y z A B D F G I J N g O P=>?_;obtain⟨S,oa⟩:=i.callG G h;refine⟨_,_,_,_,_,_,_,_,_,_,_,_,_,_,rfl,?_⟩;intro xa T;obtain⟨Y,Z,pa,aa⟩:=S.blk T h 2;obtain⟨ba,ca,j,qa,l⟩:=aa.sto Z (xD a.1 y z A B D F);refine⟨ba,ca,?_⟩;refine zqR hp (fun da hp=>?_) fun da hp=>?_
 ·obtain rfl:=oi hp;exact hq _ w .sl0 j.grw (Sl.nil _)
 refine⟨trivial,trivial,_,l.bk.rc rfl,g.isSl,?_⟩
 try rw[g.slLen]
 obtain⟨ea,o,d,p⟩:=l.freeze j
 have q:zya ea ((C.fn (Fn.func 92) [] [(W.c (C0.ptr ma.nxt 0))])) (fun e=>zuW e a.1):=by
  intro f' m' e sa r Q hs aj fa hg hq;exact zzq aj fa (p.sub hs) ((I.sub d.fs).sub hs) ((J.sub d.fs).sub hs) ((N.sub d.fs).sub hs) ((g.sub d.fs).sub hs) ((O.sub d.fs).sub hs) ((P.sub d.fs).sub hs) hg hq
 obtain⟨ta,ga,hp⟩:=zqh hp;refine zyg (n:=(a.1.c.Claims.length:Int)) (passes:=(fun e=>zuW e a.1)) o.pre q ga fun ya ha ia ja ka=>?_;obtain⟨la,ua⟩:=o.callG ja Y;refine⟨_,rfl,?_⟩;obtain rfl:=oi hp;exact hq _ ha ia la.grw ka
end
theorem zzs:TA prog 39 3:=⟨122,by kernel_rfl,by kernel_rfl,by kernel_rfl⟩
theorem zzt:TA prog 53 7:=⟨103,by kernel_rfl,by kernel_rfl,by kernel_rfl⟩
section
variable {m f:M}{Q:V->M->Prop}
theorem zzu{r:Rg}{low:Int}{high:Int}{rz:Bool}(hS:Pre f m)(hp:zuY r low high=some rz)(hq:∀m',Ext m m'->Q (.c (.bool rz)) m'):Wc prog tbl 115 [.agg 2 [Il r.Lo,Il r.Hi],.c (Il low),.c (Il high)] m Q:=by
 have i:=hS.st;obtain⟨j,_⟩:=zr5;refine zvB ?_;unfold zuY at hp;intro o e;obtain⟨l,d,n,a⟩:=i.blk e j 1;refine⟨trivial,_,a.bk.rc rfl,?_⟩;refine ifd hp (fun g hp=>?_) fun g hp=>?_; rotate_left
 ·obtain rfl:=oi hp;exact hq _ d.ext'
 refine⟨trivial,_,a.bk.rc rfl,trivial,_,a.bk.rc rfl,?_⟩;refine ifd hp (fun h hp=>?_) fun h hp=>?_; rotate_left
 ·obtain rfl:=oi hp;exact hq _ d.ext'
 refine⟨trivial,_,a.bk.rc rfl,?_⟩;obtain rfl:=oi hp;exact hq _ d.ext'
theorem zzv{r:Rg}{rz:Int}(hS:Pre f m)(hp:zuZ r=some rz)(hq:∀m',Ext m m'->Q (.c (Il rz)) m'):Wc prog tbl 99 [.agg 2 [Il r.Lo,Il r.Hi]] m Q:=by
 have i:=hS.st;obtain⟨j,_⟩:=zr5;refine w99 ?_;unfold zuZ at hp;intro o d;obtain⟨l,e,n,a⟩:=i.blk d j 1;refine⟨trivial,_,a.bk.rc rfl,trivial,_,a.bk.rc rfl,?_⟩;refine gdi hp fun g hp=>?_;refine gdi hp fun h hp=>?_;obtain rfl:=oi hp;exact hq _ e.ext'
theorem zzw{c:Cs}{x:Cv}{ac ad ae af:C}{rz:Bool}(hS:Pre f m)(ag:Sl f ac c.Book.Parcels)(ah:Sl f ad c.Book.Entries)(_ha107:Sl f ae c.Covers)(_ha110:Sl f af c.Claims)(hp:zu0 c x=some rz)(hq:∀m',Ext m m'->Q (.c (.bool rz)) m'):Wc prog tbl 116 [.agg 11 (xC c ac ad ae af),.agg 7 [Il x.Society,Il x.Owner,Il x.Parcel,Il x.Sum,Il x.Until,Il x.Start.Lo,Il x.Start.Hi]] m Q:=by
 have S0:=hS.st;obtain⟨τ0,_⟩:=zr5;refine zvT ?_;unfold zu0 at hp;intro m0 S;obtain⟨T,Y,Ta,Z⟩:=S0.blk S τ0 1;intro m1 aa;obtain⟨ba,ca,da,ea⟩:=Y.blk aa T 2;have l:=Z.k da;refine⟨trivial,_,_,_,_,l.bk.rp (k:=0) (j:=4) rfl (by omega),?_⟩;intro m6 fa;obtain⟨a,ga,o,ha⟩:=ca.blk fa ba 3;have ia:=l.k o;have ja:=ea.k o;obtain⟨ka,la,p,q,ma⟩:=ha.sto ga [Il c.Book.Last,Il c.Book.Owners,ac,ad];have na:=ia.k q;have s:=ja.k q;refine⟨ka,la,?_⟩;refine⟨trivial,_,s.bk.rc rfl,trivial,_,na.bk.rc rfl,?_⟩;refine gdi hp fun oa hp=>?_;obtain⟨Ua,pa,hp⟩:=zqh hp;refine zwR (n:=x.Society) (low:=(0:Int)) (high:=(c.Societies - (1:Int))) p.pre  pa fun bb qa=>?_;obtain⟨d,t⟩:=p.call qa a;have u:=s.k t;have w:=ma.k t;refine⟨_,rfl,?_⟩;refine zqS hp (fun sa hp=>?_) fun sa hp=>?_; rotate_left
 ·obtain rfl:=oi hp;exact hq _ d.ext'
 refine⟨trivial,_,u.bk.rc rfl,trivial,_,w.bk.rc rfl,?_⟩;refine gdi hp fun ta hp=>?_;obtain⟨Va,ua,hp⟩:=zqh hp;refine zwR (n:=x.Owner) (low:=(0:Int)) (high:=(c.Book.Owners - (1:Int))) d.pre  ua fun cb va=>?_;obtain⟨e,y⟩:=d.call va a;have z:=u.k y;have A:=w.k y;refine⟨_,rfl,?_⟩;refine zqS hp (fun wa hp=>?_) fun wa hp=>?_; rotate_left
 ·obtain rfl:=oi hp;exact hq _ e.ext'
 refine⟨trivial,_,z.bk.rc rfl,_,_,_,_,A.bk.ra,?_⟩;obtain⟨xa,ya,hp⟩:=zqh hp;refine zwU (b:=c.Book) e.pre ag ah ya fun db za=>?_;obtain⟨B,D⟩:=e.call za a;have F:=z.k D;have Aa:=A.k D;refine⟨_,rfl,(F.bk.rc rfl),?_⟩;refine gdi hp fun Ba hp=>?_;obtain⟨Wa,Ca,hp⟩:=zqh hp;refine zwR (n:=x.Parcel) (low:=(0:Int)) (high:=(xa - 1)) B.pre  Ca fun eb Da=>?_;obtain⟨g,G⟩:=B.call Da a;have I:=F.k G;have Ea:=Aa.k G;refine⟨_,rfl,?_⟩;refine zqS hp (fun Fa hp=>?_) fun Fa hp=>?_; rotate_left
 ·obtain rfl:=oi hp;exact hq _ g.ext'
 refine⟨trivial,_,I.bk.rc rfl,?_⟩;obtain⟨Xa,Ga,hp⟩:=zqh hp;refine zwR (n:=x.Sum) (low:=(0:Int)) (high:=(1000:Int)) g.pre  Ga fun fb Ha=>?_;obtain⟨h,J⟩:=g.call Ha a;have N:=I.k J;have O:=Ea.k J;refine⟨_,rfl,?_⟩;refine zqS hp (fun Ia hp=>?_) fun Ia hp=>?_; rotate_left
 ·obtain rfl:=oi hp;exact hq _ h.ext'
 refine⟨trivial,_,N.bk.rc rfl,trivial,_,O.bk.rc rfl,?_⟩;obtain⟨Ya,Ja,hp⟩:=zqh hp;refine zwR (n:=x.Until) (low:=(0:Int)) (high:=c.Book.Last) h.pre  Ja fun gb Ka=>?_;obtain⟨i,P⟩:=h.call Ka a;have La:=N.k P;have Ma:=O.k P;refine⟨_,rfl,?_⟩;refine zqS hp (fun Na hp=>?_) fun Na hp=>?_; rotate_left
 ·obtain rfl:=oi hp;exact hq _ i.ext'
 refine⟨trivial,_,_,La.bk.rp (k:=5) (j:=2) rfl (by omega),trivial,_,Ma.bk.rc rfl,?_⟩;obtain⟨Za,Oa,hp⟩:=zqh hp;refine zzu (r:=x.Start) (low:=(0:Int)) (high:=c.Book.Last) i.pre  Oa fun hb Pa=>?_;obtain⟨Qa,ab⟩:=i.call Pa a;refine⟨_,rfl,?_⟩;obtain rfl:=oi hp;exact hq _ Qa.ext'
theorem zzx{c:Cs}{ac ad ae af:C}{rz:Int}(hS:Pre f m)(ag:Sl f ac c.Book.Parcels)(ah:Sl f ad c.Book.Entries)(ab:Sl f ae c.Covers)(_ha110:Sl f af c.Claims)(hp:zu2 c=some rz)(hq:∀m',Ext m m'->Q (.c (Il rz)) m'):Wc prog tbl 54 [.agg 11 (xC c ac ad ae af)] m Q:=by
 have S0:=hS.st;obtain⟨τ0,_⟩:=zr5;refine w54 ?_;unfold zu2 at hp;intro m0 z;obtain⟨l,s,na,n⟩:=S0.blk z τ0 1;refine⟨trivial,_,_,_,_,n.bk.rp (k:=0) (j:=4) rfl (by omega),?_⟩;obtain⟨oa,A,hp⟩:=zqh hp;refine zwW (b:=c.Book) s.pre ag ah A fun m6 B=>?_;obtain⟨t,D⟩:=s.call B l;have u:=n.k D;refine⟨_,rfl,trivial,_,_,u.bk.rp (k:=8) (j:=2) rfl (by omega),(n.bk.rp (k:=8) (j:=2) rfl (by omega)),?_⟩;obtain⟨pa,F,hp⟩:=zqh hp;refine zzv (r:=c.Loss) t.pre  F fun sa G=>?_;obtain⟨I,J⟩:=t.call G l;have a:=u.k J;refine⟨_,rfl,?_⟩;refine gdi hp fun N hp=>?_;refine gdi hp fun O hp=>?_;refine gdi hp fun P hp=>?_;intro ja S
 have ai:∀(g:Nat) (o:Int) (p:Int) (i:M) (d:Nat->Nat),St (Fm.of m) f f i->Lb (Fm.of m) f d i 1 m.nxt 11 (xC c ac ad ae af)->zu1 c g o p=some rz->ja [.c (Il o),.c (Il p)] i:=by
  intro g
  induction g with
  | zero=>intro o p i d e a hp; cases hp
  | succ g w=>
   intro o p i d e a hp;refine S _ _ _ ?_;rw[zu1] at hp;refine⟨trivial,_,a.bk.rc rfl,ab.isSl,?_⟩
   try rw[ab.slLen]
   refine ifd hp (fun T hp=>?_) fun T hp=>?_; rotate_left
   ·obtain rfl:=oi hp;exact hq _ e.ext'
   refine⟨trivial,_,a.bk.rc rfl,?_⟩;obtain⟨Y,h,hp⟩:=zqh hp;obtain⟨ka,y,q,h⟩:=zqb h;obtain⟨_,Z⟩:=zsk ab h;refine⟨ka,y,(by first|exact q|(rw[ab.slLen];exact q)),(ab.isPt h _),_,_,((Z _ e.sub).2.2 5 2 (by omega) (by decide)),?_⟩;obtain⟨qa,aa,hp⟩:=zqh hp;refine zzv (r:=Y.Start) e.pre  aa fun ta ba=>?_;obtain⟨ca,da⟩:=e.call ba d;have ea:=a.k da;refine⟨_,rfl,?_⟩;refine gdi hp fun fa hp=>?_;refine gdi hp fun ga hp=>?_;refine gdi hp fun ha hp=>?_;refine gdi hp fun ia hp=>?_;exact w _ _ _ d ca ea hp
 exact ai _ _ _ _ l I a hp
theorem zzy{c:Cs}{ae af ag ah:C}{rz:Int}(hS:Pre f m)(ai:Sl f ae c.Book.Parcels)(aj:Sl f af c.Book.Entries)(ad:Sl f ag c.Covers)(ac:Sl f ah c.Claims)(hp:zu5 c=some rz)(hq:∀m',Ext m m'->Q (.c (Il rz)) m'):Wc prog tbl 66 [.agg 11 (xC c ae af ag ah)] m Q:=by
 have S0:=hS.st;obtain⟨τ0,_⟩:=zr5;refine w66 ?_;unfold zu5 at hp;intro m0 la;obtain⟨h,P,zb,S⟩:=S0.blk la τ0 1;refine⟨trivial,_,_,_,_,S.bk.rp (k:=0) (j:=4) rfl (by omega),?_⟩;obtain⟨Ab,ma,hp⟩:=zqh hp;refine zwX (b:=c.Book) P.pre ai aj ma fun m6 na=>?_;obtain⟨d,oa⟩:=P.call na h;have e:=S.k oa;refine⟨_,rfl,?_⟩;refine zqR hp (fun pa hp=>?_) fun pa hp=>?_
 ·obtain rfl:=oi hp;exact hq _ d.ext'
 refine⟨trivial,_,e.bk.rc rfl,?_⟩;refine ifd hp (fun qa hp=>?_) fun qa hp=>?_
 ·obtain rfl:=oi hp;exact hq _ d.ext'
 refine⟨trivial,_,e.bk.rc rfl,ad.isSl,?_⟩
 try rw[ad.slLen]
 refine ifd hp (fun sa hp=>?_) fun sa hp=>?_
 ·obtain rfl:=oi hp;exact hq _ d.ext'
 refine⟨trivial,_,e.bk.rc rfl,ac.isSl,?_⟩
 try rw[ac.slLen]
 refine ifd hp (fun ta hp=>?_) fun ta hp=>?_
 ·obtain rfl:=oi hp;exact hq _ d.ext'
 refine⟨trivial,_,e.bk.rc rfl,?_⟩;refine ifd hp (fun ua hp=>?_) fun ua hp=>?_
 ·obtain rfl:=oi hp;exact hq _ d.ext'
 refine⟨trivial,_,e.bk.rc rfl,trivial,trivial,_,e.bk.rc rfl,?_⟩;obtain⟨Bb,va,hp⟩:=zqh hp;refine zwR (n:=c.Day) (low:=(0:Int)) (high:=c.Book.Last) d.pre  va fun Jb wa=>?_;obtain⟨z,xa⟩:=d.call wa h;have A:=e.k xa;refine⟨_,rfl,?_⟩;refine zqT hp (fun ya hp=>?_) fun ya hp=>?_
 ·obtain rfl:=oi hp;exact hq _ z.ext'
 refine⟨trivial,_,A.bk.rc rfl,trivial,_,_,_,_,A.bk.rp (k:=0) (j:=4) rfl (by omega),?_⟩;obtain⟨za,Aa,hp⟩:=zqh hp;refine zwU (b:=c.Book) z.pre ai aj Aa fun Kb Ba=>?_;obtain⟨T,Ca⟩:=z.call Ba h;have Y:=A.k Ca;refine⟨_,rfl,(Y.bk.rc rfl),?_⟩;refine gdi hp fun Da hp=>?_;obtain⟨Cb,Ea,hp⟩:=zqh hp;refine zwR (n:=c.Parcel) (low:=(0:Int)) (high:=(za - 1)) T.pre  Ea fun Mb Fa=>?_;obtain⟨B,Ga⟩:=T.call Fa h;have Z:=Y.k Ga;refine⟨_,rfl,?_⟩;refine zqT hp (fun Ha hp=>?_) fun Ha hp=>?_
 ·obtain rfl:=oi hp;exact hq _ B.ext'
 refine⟨trivial,_,_,Z.bk.rp (k:=8) (j:=2) rfl (by omega),?_⟩;obtain⟨Db,Ia,hp⟩:=zqh hp;refine zzu (r:=c.Loss) (low:=(0:Int)) (high:=(100:Int)) B.pre  Ia fun Nb Ja=>?_;obtain⟨aa,Ka⟩:=B.call Ja h;have a:=Z.k Ka;refine⟨_,rfl,?_⟩;refine zqT hp (fun La hp=>?_) fun La hp=>?_
 ·obtain rfl:=oi hp;exact hq _ aa.ext'
 intro sb Ma
 have ak:∀(p:Nat) (F:Int) (G:Int) (w:M) (i:Nat->Nat),St (Fm.of m) f f w->Lb (Fm.of m) f i w 1 m.nxt 11 (xC c ae af ag ah)->zu4 c p F G=some rz->sb [.c (Il F),.c (Il G)] w:=by
  intro p
  induction p with
  | zero=>intro F G w i o a hp; cases hp
  | succ p ga=>
   intro F G w i o a hp;refine Ma _ _ _ ?_;rw[zu4] at hp;refine⟨trivial,_,a.bk.rc rfl,ad.isSl,?_⟩
   try rw[ad.slLen]
   refine ifd hp (fun Na hp=>?_) fun Na hp=>?_
   ·refine⟨_,_,_,_,_,_,_,_,_,_,_,a.bk.ra,trivial,_,a.bk.rc rfl,?_⟩;obtain⟨Oa,D,hp⟩:=zqh hp;obtain⟨tb,ha,I,D⟩:=zqb D;obtain⟨_,Pa⟩:=zsk ad D;refine⟨tb,ha,(by first|exact I|(rw[ad.slLen];exact I)),_,_,_,_,_,_,_,(Pa _ o.sub).1,?_⟩;obtain⟨Eb,Qa,hp⟩:=zqh hp;refine zzw (c:=c) (x:=Oa) o.pre ai aj ad ac Qa fun Ob Ra=>?_;obtain⟨ba,Sa⟩:=o.call Ra i;have Ta:=a.k Sa;refine⟨_,rfl,?_⟩;refine zqT hp (fun Ua hp=>?_) fun Ua hp=>?_
    ·obtain rfl:=oi hp;exact hq _ ba.ext'
    refine gdi hp fun Va hp=>?_;exact ga _ _ _ i ba Ta hp
   intro ub Wa
   have ak:∀(q:Nat) (ca:Int) (J:Int) (y:M) (g:Nat->Nat),St (Fm.of m) f f y->Lb (Fm.of m) f g y 1 m.nxt 11 (xC c ae af ag ah)->zu3 c q J=some rz->ub [.c (Il ca),.c (Il J)] y:=by
    intro q
    induction q with
    | zero=>intro ca J y g l a hp; cases hp
    | succ q ia=>
     intro ca J y g l a hp;refine Wa _ _ _ ?_;rw[zu3] at hp;refine⟨trivial,_,a.bk.rc rfl,ac.isSl,?_⟩
     try rw[ac.slLen]
     refine ifd hp (fun Xa hp=>?_) fun Xa hp=>?_; rotate_left
     ·refine⟨_,_,_,_,_,_,_,_,_,_,_,a.bk.ra,?_⟩;obtain⟨Fb,Ya,hp⟩:=zqh hp;refine zzx (c:=c) l.pre ai aj ad ac Ya fun Pb Za=>?_;obtain⟨da,Gb⟩:=l.call Za g;refine⟨_,rfl,?_⟩;refine ifd hp (fun ab hp=>?_) fun ab hp=>?_
      ·obtain rfl:=oi hp;exact hq _ da.ext'
      obtain rfl:=oi hp;exact hq _ da.ext'
     refine⟨trivial,_,a.bk.rc rfl,?_⟩;obtain⟨bb,s,hp⟩:=zqh hp;obtain⟨vb,ja,N,s⟩:=zqb s;obtain⟨_,cb⟩:=zsm ac s;refine⟨vb,ja,(by first|exact N|(rw[ac.slLen];exact N)),(ac.isPt s _),_,((cb _ l.sub).2.1 0 _ rfl),trivial,_,a.bk.rc rfl,?_⟩;refine gdi hp fun db hp=>?_;obtain⟨Hb,eb,hp⟩:=zqh hp;refine zwR (n:=bb.Society) (low:=(0:Int)) (high:=(c.Societies - (1:Int))) l.pre  eb fun Qb fb=>?_;obtain⟨t,gb⟩:=l.call fb g;have ea:=a.k gb;refine⟨_,rfl,?_⟩;refine zqT hp (fun hb hp=>?_) fun hb hp=>?_
     ·obtain rfl:=oi hp;exact hq _ t.ext'
     refine⟨trivial,_,ea.bk.rc rfl,?_⟩;obtain⟨ib,u,hp⟩:=zqh hp;obtain⟨wb,ka,O,u⟩:=zqb u;obtain⟨_,jb⟩:=zsm ac u;refine⟨wb,ka,(by first|exact O|(rw[ac.slLen];exact O)),(ac.isPt u _),_,_,((jb _ t.sub).2.2 1 2 (by omega) (by decide)),?_⟩;obtain⟨Ib,kb,hp⟩:=zqh hp;refine zzu (r:=ib.Paid) (low:=(0:Int)) (high:=(1000:Int)) t.pre  kb fun Rb mb=>?_;obtain⟨fa,ob⟩:=t.call mb g;have pb:=ea.k ob;refine⟨_,rfl,?_⟩;refine zqT hp (fun qb hp=>?_) fun qb hp=>?_
     ·obtain rfl:=oi hp;exact hq _ fa.ext'
     refine gdi hp fun rb hp=>?_;exact ia _ _ _ g fa pb hp
   exact ak _ _ _ _ i o a hp
 exact ak _ _ _ _ h aa a hp
theorem zzz{r:Rg}{rz:Rg}(hS:Pre f m)(hp:zu6 r=some rz)(hq:∀m',Ext m m'->Q (.agg 2 [Il rz.Lo,Il rz.Hi]) m'):Wc prog tbl 38 [.agg 2 [Il r.Lo,Il r.Hi]] m Q:=by
 have w:=hS.st;obtain⟨y,_⟩:=zr5;refine w38 ?_;unfold zu6 at hp;intro z c;obtain⟨d,e,s,g⟩:=w.blk c y 1;intro A h;obtain⟨t,i,j,l⟩:=e.blk h d 2;have a:=g.k j;refine⟨trivial,_,a.bk.rc rfl,trivial,_,a.bk.rc rfl,?_⟩;obtain⟨n,o,p,u,q⟩:=l.sto i [Il r.Lo,Il r.Hi];refine⟨n,o,?_⟩;refine⟨_,_,q.bk.ra,?_⟩;obtain rfl:=oi hp;exact hq _ p.ext'
theorem zzA{c:Cs}{af ag ah ai:C}{rz:Cs}(hS:Pre f m)(ak:Sl f af c.Book.Parcels)(am:Sl f ag c.Book.Entries)(aj:Sl f ah c.Covers)(ae:Sl f ai c.Claims)(hp:zu9 c=some rz)(hq:∀m' f' c2 c3 c7 ap,Grw m f m' f'->Sl f' c2 rz.Book.Parcels->Sl f' c3 rz.Book.Entries->Sl f' c7 rz.Covers->Sl f' ap rz.Claims->Q (.agg 11 (xC rz c2 c3 c7 ap)) m'):Wc prog tbl 26 [.agg 11 (xC c af ag ah ai)] m Q:=by
 have S0:=hS.st;obtain⟨τ0,_⟩:=zr5;refine w26 ?_;unfold zu9 at hp;intro m0 qb;obtain⟨rb,sb,Ad,tb⟩:=S0.blk qb τ0 1;intro m1 ub;obtain⟨vb,wb,xb,yb⟩:=sb.blk ub rb 2;have zb:=tb.k xb;intro m2 Ab;obtain⟨Ba,Ra,Sa,kb⟩:=wb.growK Ab vb 3;have z:=zb.k Sa;have Bb:=yb.k Sa;have Cb:=kb 0 (by decide);refine⟨trivial,_,_,_,_,z.bk.rp (k:=0) (j:=4) rfl (by omega),?_⟩;obtain⟨na,Db,hp⟩:=zqh hp;refine zwZ (b:=c.Book) Ra.pre ak am Db fun m8 g t u Eb Fb Gb=>?_;obtain⟨Ta,w⟩:=Ra.callG Eb Ba;have Y:=z.k w;have Hb:=Bb.k w;have Ib:=Cb.k w;refine⟨_,_,_,_,rfl,trivial,_,Y.bk.rc rfl,(z.bk.rc rfl),trivial,_,Y.bk.rc rfl,(z.bk.rc rfl),trivial,_,Y.bk.rc rfl,(z.bk.rc rfl),trivial,_,_,Y.bk.rp (k:=8) (j:=2) rfl (by omega),(z.bk.rp (k:=8) (j:=2) rfl (by omega)),?_⟩;obtain⟨Ua,Jb,hp⟩:=zqh hp;refine zzz (r:=c.Loss) Ta.pre  Jb fun Gd Kb=>?_;obtain⟨Mb,Ca⟩:=Ta.call Kb Ba;have oa:=Y.k Ca;have Nb:=Hb.k Ca;have Ob:=Ib.k Ca;refine⟨_,_,rfl,(oa.bk.rc rfl),(oa.bk.rc rfl),(oa.bk.rc rfl),?_⟩;intro Id Pb;obtain⟨Qb,Va,Rb⟩:=Ob.set Mb Pb;have A:=oa.k Va;have Sb:=Nb.k Va;refine⟨(A.bk.rp (k:=8) (j:=2) rfl (by omega)),(A.bk.rc rfl),(A.bk.rc rfl),(A.bk.rc rfl),(by rw[show zaL cmC _=true from zoO (zql rfl (zql rfl (zql ak.noFn (zql am.noFn zqm))))]; exact(A.bk.rp (k:=0) (j:=4) rfl (by omega))),?_⟩;obtain⟨Tb,Ub,Vb,Wa,n⟩:=Rb.sto Qb [Il na.Last,Il na.Owners,t,u,Il c.Societies,Il c.Day,Il c.Parcel,.sl0,Il Ua.Lo,Il Ua.Hi,.sl0];have h:=A.k Wa;have o:=Sb.k Wa;refine⟨Tb,Ub,?_⟩;intro vd qd
 have ao:∀(pa:Nat) (Xa:Int) (p:C) (Z:C) (aa:Int) (ba:Int) (ca:Int) (da:Int) (ea:Int) (B:List Cv) (fa:Int) (ga:Int) (qa:List Clm) (ha:M) (q:Nat->Nat),St (Fm.of m) f g ha->Lb (Fm.of m) g q ha 1 m.nxt 11 (xC c af ag ah ai)->Lb (Fm.of m) g q ha 2 m0.nxt 11 [Il 0,Il 0,.sl0,.sl0,Il 0,Il 0,Il 0,.sl0,Il 0,Il 0,.sl0]->Lb (Fm.of m) g q ha 3 (m1.nxt+0) 11 (yC aa ba t u ca da ea p fa ga Z)->Ow (Fm.of m) g q ha 4 p B->Ow (Fm.of m) g q ha 5 Z qa->zu8 c na pa aa ba ca da ea B fa ga qa Xa=some rz->vd [.c (Il Xa)] ha:=by
  intro pa
  induction pa with
  | zero=>intro Xa p Z aa ba ca da ea B fa ga qa ha q sa h o n d i hp; cases hp
  | succ pa Wb=>
   intro Xa p Z aa ba ca da ea B fa ga qa ha q sa h o n d i hp;refine qd _ _ ?_;rw[zu8] at hp;refine⟨trivial,_,h.bk.rc rfl,aj.isSl,?_⟩
   try rw[aj.slLen]
   refine ifd hp (fun Xb hp=>?_) fun Xb hp=>?_
   ·refine⟨trivial,_,h.bk.rc rfl,?_⟩;obtain⟨e,Da,hp⟩:=zqh hp;obtain⟨wd,mb,Oa,Da⟩:=zqb Da;obtain⟨_,Yb⟩:=zsk aj Da;refine⟨wd,mb,(by first|exact Oa|(rw[aj.slLen];exact Oa)),_,_,_,_,_,_,_,(Yb _ (Sub.trans w.fs sa.sub)).1,?_⟩;intro Jd Zb;obtain⟨ac,bc,ia,cc⟩:=sa.blk Zb q 6;have dc:=h.k ia;have ec:=o.k ia;have fc:=n.k ia;have d:=d.k ia;have i:=i.k ia;obtain⟨gc,hc,Ya,ja,y⟩:=cc.sto bc [Il e.Society,Il e.Owner,Il e.Parcel,Il e.Sum,Il e.Until,Il e.Start.Lo,Il e.Start.Hi];have ic:=dc.k ja;have jc:=ec.k ja;have Za:=fc.k ja;have d:=d.k ja;have i:=i.k ja;refine⟨gc,hc,?_⟩;refine⟨trivial,_,Za.bk.rc rfl,trivial,_,y.bk.rc rfl,trivial,_,y.bk.rc rfl,trivial,_,y.bk.rc rfl,trivial,_,y.bk.rc rfl,trivial,_,y.bk.rc rfl,trivial,_,_,y.bk.rp (k:=5) (j:=2) rfl (by omega),?_⟩;obtain⟨ab,kc,hp⟩:=zqh hp;refine zzz (r:=e.Start) Ya.pre  kc fun Ld nc=>?_;obtain⟨oc,D⟩:=Ya.call nc ac;have pc:=ic.k D;have qc:=jc.k D;have Ea:=Za.k D;have ka:=y.k D;have d:=d.k D;have i:=i.k D;refine⟨_,_,rfl,(ka.bk.rc rfl),(ka.bk.rc rfl),(ka.bk.rc rfl),(ka.bk.rc rfl),(ka.bk.rc rfl),(by rw[show cmC _=true from zoN (d.noFn)]; exact(Ea.bk.rc rfl)),?_⟩;obtain⟨sc,hp⟩:=zqi hp;intro Md bb;refine⟨(by rw[show cmC _=true from zoN (d.noFn)]; exact(Ea.bk.ext (Bk.new bb).2).rc rfl),?_⟩;obtain⟨Fa,tc,uc,vc,wc,ta,Ga⟩:=d.app' zzt oc (a:=({ Society:=e.Society,Owner:=e.Owner,Parcel:=e.Parcel,Sum:=e.Sum,Until:=e.Until,Start:=ab }:Cv)) (show Rp.rep (α:=Cv) g _ ({ Society:=e.Society,Owner:=e.Owner,Parcel:=e.Parcel,Sum:=e.Sum,Until:=e.Until,Start:=ab }:Cv) from rfl) sc bb
    have xc:=pc.k ta;have yc:=qc.k ta;have zc:=Ea.k ta;have i:=i.k ta;refine⟨Fa,tc,vc,?_⟩;refine⟨trivial,?_⟩;obtain⟨Ac,Bc,Cc,ua,Ha⟩:=zc.sto1 wc 7 Fa (by simp) rfl
    replace Ha:Lb _ _ _ _ _ _ _ (yC aa ba t u ca da ea Fa fa ga Z):=Ha
    have Dc:=xc.k ua;have Ec:=yc.k ua;have i:=i.k ua;have Ga:=Ga.k ua;refine⟨Ac,Bc,?_⟩;refine gdi hp fun Fc hp=>?_;exact Wb _ _ _ _ _ _ _ _ _ _ _ _ _ uc Cc Dc Ec Ha Ga i hp
   intro xd sd
   have ao:∀(va:Nat) (cb:Int) (F:C) (G:Int) (I:Int) (J:Int) (N:Int) (O:Int) (P:Int) (S:Int) (wa:List Clm) (la:M) (s:Nat->Nat),St (Fm.of m) f g la->Lb (Fm.of m) g s la 1 m.nxt 11 (xC c af ag ah ai)->Lb (Fm.of m) g s la 2 m0.nxt 11 [Il 0,Il 0,.sl0,.sl0,Il 0,Il 0,Il 0,.sl0,Il 0,Il 0,.sl0]->Lb (Fm.of m) g s la 3 (m1.nxt+0) 11 (yC G I t u J N O p P S F)->Ow (Fm.of m) g s la 5 F wa->Ow (Fm.of m) g s la 4 p B->zu7 c na B va G I J N O P S wa cb=some rz->xd [.c (Il cb)] la:=by
    intro va
    induction va with
    | zero=>intro cb F G I J N O P S wa la s T h o n l d hp; cases hp
    | succ va Gc=>
     intro cb F G I J N O P S wa la s T h o n l d hp;refine sd _ _ ?_;rw[zu7] at hp;refine⟨trivial,_,h.bk.rc rfl,ae.isSl,?_⟩
     try rw[ae.slLen]
     refine ifd hp (fun Hc hp=>?_) fun Hc hp=>?_; rotate_left
     ·refine⟨_,_,_,_,_,_,_,_,_,_,_,n.bk.ra,?_⟩;obtain⟨Ic,Jc,Kc,db,Nc⟩:=o.sto T (yC G I t u J N O p P S F);have d:=d.k db;have l:=l.k db;refine⟨Ic,Jc,?_⟩;refine⟨_,_,_,_,_,_,_,_,_,_,_,Nc.bk.ra,?_⟩;obtain⟨Cd,Oc,Ia,Qc⟩:=d.freeze Kc;have l:=l.k Ia;obtain⟨Rc,Tc,Ja,Uc⟩:=l.freeze Oc;obtain rfl:=oi hp;exact hq _ Rc t u p F Tc.grw (Fb.sub (Sub.trans Ia.fs Ja.fs)) (Gb.sub (Sub.trans Ia.fs Ja.fs)) (Qc.sub Ja.fs) Uc
     refine⟨trivial,_,n.bk.rc rfl,trivial,_,h.bk.rc rfl,?_⟩;obtain⟨eb,xa,hp⟩:=zqh hp;obtain⟨yd,ob,Pa,xa⟩:=zqb xa;obtain⟨_,fb⟩:=zsm ae xa;refine⟨yd,ob,(by first|exact Pa|(rw[ae.slLen];exact Pa)),(ae.isPt xa _),_,((fb _ (Sub.trans w.fs T.sub)).2.1 0 _ rfl),trivial,_,h.bk.rc rfl,?_⟩;obtain⟨Vc,ya,hp⟩:=zqh hp;obtain⟨zd,pb,Qa,ya⟩:=zqb ya;obtain⟨_,Xc⟩:=zsm ae ya;refine⟨zd,pb,(by first|exact Qa|(rw[ae.slLen];exact Qa)),(ae.isPt ya _),_,_,((Xc _ (Sub.trans w.fs T.sub)).2.2 1 2 (by omega) (by decide)),?_⟩;obtain⟨gb,Yc,hp⟩:=zqh hp;refine zzz (r:=Vc.Paid) T.pre  Yc fun Nd Zc=>?_;obtain⟨hb,ma⟩:=T.call Zc s;have ib:=h.k ma;have ad:=o.k ma;have Ka:=n.k ma;have d:=d.k ma;have l:=l.k ma;refine⟨_,_,rfl,((fb _ (Sub.trans w.fs hb.sub)).2.1 0 _ rfl),(by rw[show cmC _=true from zoN (ae.noFn)]; exact(ib.bk.rc rfl)),(by rw[show cmC _=true from zoN (l.noFn)]; exact(Ka.bk.rc rfl)),?_⟩;obtain⟨bd,hp⟩:=zqi hp;intro Od jb;refine⟨(by rw[show cmC _=true from zoN (l.noFn)]; exact(Ka.bk.ext (Bk.new jb).2).rc rfl),?_⟩;obtain⟨La,cd,dd,ed,fd,za,Ma⟩:=l.app' zyq hb (a:=({ Society:=eb.Society,Paid:=gb }:Clm)) (show Rp.rep (α:=Clm) g _ ({ Society:=eb.Society,Paid:=gb }:Clm) from rfl) bd jb;have hd:=ib.k za;have id:=ad.k za;have jd:=Ka.k za;have d:=d.k za;refine⟨La,cd,ed,?_⟩;refine⟨trivial,?_⟩;obtain⟨kd,ld,md,Aa,Na⟩:=jd.sto1 fd 10 La (by simp) rfl
     replace Na:Lb _ _ _ _ _ _ _ (yC G I t u J N O p P S La):=Na
     have nd:=hd.k Aa;have od:=id.k Aa;have d:=d.k Aa;have Ma:=Ma.k Aa;refine⟨kd,ld,?_⟩;refine gdi hp fun pd hp=>?_;exact Gc _ _ _ _ _ _ _ _ _ _ _ dd md nd od Na Ma d hp
   exact ao _ _ _ _ _ _ _ _ _ _ _ _ q sa h o n i d hp
 exact ao _ _ _ _ _ _ _ _ _ _ _ _ _ _ Ba Vb h o n (Ow.nil _ _ _ _ _) (Ow.nil _ _ _ _ _) hp
theorem zzB{a:List Int}{b:List Int}{P S:C}{rz:Bool}(hS:Pre f m)(N:Sl f P a)(O:Sl f S b)(hp:zvb a b=some rz)(hq:∀m',Ext m m'->Q (.c (.bool rz)) m'):Wc prog tbl 22 [.c P,.c S] m Q:=by
 have z:=hS.st;obtain⟨F,_⟩:=zr5;refine w22 ?_;unfold zvb at hp;refine⟨N.isSl,O.isSl,?_⟩
 try rw[N.slLen]
 try rw[O.slLen]
 refine zqR hp (fun p hp=>?_) fun p hp=>?_
 ·obtain rfl:=oi hp;exact hq _ z.ext'
 intro G A
 have T:∀(e:Nat) (w:Bool) (q:Int) (r:M) (g:Nat->Nat),St (Fm.of m) f f r->zva a b e q=some rz->G [.c (.bool w),.c (Il q)] r:=by
  intro e
  induction e with
  | zero=>intro w q r g d hp; cases hp
  | succ e y=>
   intro w q r g d hp;refine A _ _ _ ?_;rw[zva] at hp;refine⟨N.isSl,?_⟩
   try rw[N.slLen]
   refine ifd hp (fun s hp=>?_) fun s hp=>?_; rotate_left
   ·obtain rfl:=oi hp;exact hq _ d.ext'
   obtain⟨B,h,hp⟩:=zqh hp;obtain⟨I,n,j,h⟩:=zqb h;refine⟨I,n,(by first|exact j|(rw[N.slLen];exact j)),_,(N.rdI h d.sub),?_⟩;obtain⟨D,i,hp⟩:=zqh hp;obtain⟨J,o,l,i⟩:=zqb i;refine⟨J,o,(by first|exact l|(rw[O.slLen];exact l)),_,(O.rdI i d.sub),?_⟩;refine zqR hp (fun t hp=>?_) fun t hp=>?_
   ·obtain rfl:=oi hp;exact hq _ d.ext'
   refine gdi hp fun u hp=>?_;exact y _ _ _ g d hp
 exact T _ _ _ _ F z hp
theorem zzC{c:Cs}{ae af ag ah:C}{rz:Bool}(hS:Pre f m)(ac:Sl f ae c.Book.Parcels)(ad:Sl f af c.Book.Entries)(aa:Sl f ag c.Covers)(ab:Sl f ah c.Claims)(hp:zvc c=some rz)(hq:∀m',Ext m m'->Q (.c (.bool rz)) m'):Wc prog tbl 24 [.agg 11 (xC c ae af ag ah)] m Q:=by
 have O:=hS.st;obtain⟨P,_⟩:=zr5;refine w24 ?_;unfold zvc at hp;intro Y l;obtain⟨e,a,F,d⟩:=O.blk l P 1;refine⟨trivial,_,d.bk.rc rfl,aa.isSl,?_⟩
 try rw[aa.slLen]
 refine ifd hp (fun n hp=>?_) fun n hp=>?_; rotate_left
 ·obtain rfl:=oi hp;exact hq _ a.ext'
 refine⟨trivial,_,d.bk.rc rfl,ab.isSl,?_⟩
 try rw[ab.slLen]
 refine ifd hp (fun o hp=>?_) fun o hp=>?_; rotate_left
 ·obtain rfl:=oi hp;exact hq _ a.ext'
 refine⟨trivial,_,_,_,_,d.bk.rp (k:=0) (j:=4) rfl (by omega),?_⟩;obtain⟨G,p,hp⟩:=zqh hp;refine zw0 (b:=c.Book) a.pre ac ad p fun Z q=>?_;obtain⟨g,r⟩:=a.call q e;have i:=d.k r;refine⟨_,rfl,?_⟩;refine zqS hp (fun s hp=>?_) fun s hp=>?_; rotate_left
 ·obtain rfl:=oi hp;exact hq _ g.ext'
 refine⟨_,_,_,_,_,_,_,_,_,_,_,i.bk.ra,?_⟩;obtain⟨I,t,hp⟩:=zqh hp;refine zzy (c:=c) g.pre ac ad aa ab t fun S u=>?_;obtain⟨h,w⟩:=g.call u e;have y:=i.k w;refine⟨_,rfl,?_⟩;refine zqR hp (fun z hp=>?_) fun z hp=>?_
 ·obtain rfl:=oi hp;exact hq _ h.ext'
 refine⟨_,_,_,_,_,_,_,_,_,_,_,y.bk.ra,?_⟩;obtain⟨J,A,hp⟩:=zqh hp;refine zzx (c:=c) h.pre ac ad aa ab A fun T B=>?_;obtain⟨D,N⟩:=h.call B e;refine⟨_,rfl,?_⟩;obtain rfl:=oi hp;exact hq _ D.ext'
theorem zzD{low:Int}{high:Int}{rz:Rg}(hS:Pre f m)(hp:zvd low high=some rz)(hq:∀m',Ext m m'->Q (.agg 2 [Il rz.Lo,Il rz.Hi]) m'):Wc prog tbl 49 [.c (Il low),.c (Il high)] m Q:=by
 have p:=hS.st;obtain⟨q,_⟩:=zr5;refine w49 ?_;unfold zvd at hp;intro r a;obtain⟨l,d,n,e⟩:=p.blk a q 1;obtain⟨g,h,i,o,j⟩:=e.sto d [Il low,Il high];refine⟨g,h,?_⟩;refine⟨_,_,j.bk.ra,?_⟩;obtain rfl:=oi hp;exact hq _ i.ext'
theorem zzE{claims:List Clm}{ac:C}{rz:Cs}(hS:Pre f m)(ad:Sl f ac claims)(hp:zve claims=some rz)(hq:∀m' f' c2 c3 c7 ae,Grw m f m' f'->Sl f' c2 rz.Book.Parcels->Sl f' c3 rz.Book.Entries->Sl f' c7 rz.Covers->Sl f' ae rz.Claims->Q (.agg 11 (xC rz c2 c3 c7 ae)) m'):Wc prog tbl 46 [.c ac] m Q:=by
 have S0:=hS.st;obtain⟨τ0,_⟩:=zr5;refine w46 ?_;unfold zve at hp;intro T Y;obtain⟨Z,aa,qb,ba⟩:=S0.blk Y τ0 1;intro m1 da;obtain⟨ea,fa,ga,ha⟩:=aa.blk da Z 2;have ia:=ba.k ga;intro m2 ja;obtain⟨ka,la,u,ma⟩:=fa.blk ja ea 3;have na:=ia.k u;have oa:=ha.k u;intro m3 pa;obtain⟨e,qa,n,sa⟩:=la.blk pa ka 4;have ta:=na.k n;have ua:=oa.k n;have va:=ma.k n;obtain⟨wa,xa,w,o,y⟩:=sa.sto qa [(Il (9:Int)),(Il (2:Int)),(C.sl T.nxt 0 1 0 (Option.some 1)),(C.sl m1.nxt 0 1 0 (Option.some 1))];have ya:=ta.k o;have za:=ua.k o;have Aa:=va.k o;refine⟨wa,xa,?_⟩;refine⟨_,_,_,_,y.bk.ra,?_⟩;obtain⟨z,Ba,hp⟩:=zqh hp;refine zzD (low:=(40:Int)) (high:=(50:Int)) w.pre  Ba fun ub Ca=>?_;obtain⟨A,g⟩:=w.call Ca e;have Da:=ya.k g;have Ea:=za.k g;have Fa:=Aa.k g;have B:=y.k g;refine⟨_,_,rfl,(by rw[show zaL cmC _=true from zoO (zql rfl (zql rfl (zql rfl (zql rfl zqm))))]; exact(B.bk.ra)),?_⟩;obtain⟨a,Ga,hp⟩:=zqh hp;refine zzD (low:=(1:Int)) (high:=(1:Int)) A.pre  Ga fun vb Ha=>?_;obtain⟨D,h⟩:=A.call Ha e;have Ia:=Da.k h;have Ja:=Ea.k h;have Ka:=Fa.k h;have F:=B.k h;refine⟨_,_,rfl,(by rw[show zaL cmC _=true from zoO (zql rfl (zql rfl (zql rfl (zql rfl zqm))))]; exact(F.bk.ra)),?_⟩;obtain⟨d,La,hp⟩:=zqh hp;refine zzD (low:=(3:Int)) (high:=(5:Int)) D.pre  La fun N Ma=>?_;obtain⟨Na,i⟩:=D.call Ma e;have Oa:=Ia.k i;have Pa:=Ja.k i;have Qa:=Ka.k i;have G:=F.k i;refine⟨_,_,rfl,(by rw[show zaL cmC _=true from zoO (zql rfl (zql rfl (zql rfl (zql rfl zqm))))]; exact(G.bk.ra)),?_⟩
 intro wb Ra;obtain⟨rb,Sa,j,Ta⟩:=Na.blk Ra e 5;have Ua:=Oa.k j;have Va:=Pa.k j;have Wa:=Qa.k j;have Xa:=G.k j;refine⟨(by rw[show zaL cmC _=true from zoO (zql rfl (zql rfl (zql rfl (zql rfl zqm))))]; exact(Xa.bk.ra)),?_⟩;obtain⟨Ya,Za,ab,p,bb⟩:=Ua.sto Sa [(Il (9:Int)),(Il (2:Int)),(C.sl T.nxt 0 1 0 (Option.some 1)),(C.sl m1.nxt 0 1 0 (Option.some 1)),(Il (2:Int)),(Il (4:Int)),Il 0,(C.sl N.nxt 0 3 0 (Option.some 3)),Il z.Lo,Il z.Hi,ac];have cb:=Va.k p;have db:=Wa.k p;have eb:=Ta.k p;refine⟨Ya,Za,?_⟩;refine⟨_,_,_,_,_,_,_,_,_,_,_,bb.bk.ra,?_⟩;obtain⟨I,fb,q,O⟩:=cb.freeze ab;have gb:=db.k q;have hb:=eb.k q;have ib:Sl I (C.sl T.nxt 0 1 0 (Option.some 1)) ([({ Owner:=0,Value:=100,Sown:=({ Lo:=0,Hi:=(0:Int) }:Rg) }:Pc)]:List Pc):=Bk.sl (α:=Pc) (l:=([({ Owner:=0,Value:=100,Sown:=({ Lo:=0,Hi:=(0:Int) }:Rg) }:Pc)]:List Pc)) O (show Cat (α:=Pc) I [Il 0,(Il (100:Int)),Il 0,Il 0] ([({ Owner:=0,Value:=100,Sown:=({ Lo:=0,Hi:=(0:Int) }:Rg) }:Pc)]:List Pc) from ⟨[Il 0,(Il (100:Int)),Il 0,Il 0],_,rfl,rfl,rfl⟩) rfl rfl _;obtain⟨J,jb,r,P⟩:=gb.freeze fb;have kb:=hb.k r;have mb:Sl J (C.sl m1.nxt 0 1 0 (Option.some 1)) ([({ Kind:=0,Parcel:=0,Other:=0,From:=0,To:=1,Part:=0,Day:=({ Lo:=4,Hi:=(5:Int) }:Rg) }:En)]:List En):=Bk.sl (α:=En) (l:=([({ Kind:=0,Parcel:=0,Other:=0,From:=0,To:=1,Part:=0,Day:=({ Lo:=4,Hi:=(5:Int) }:Rg) }:En)]:List En)) P (show Cat (α:=En) J [Il 0,Il 0,Il 0,Il 0,(Il (1:Int)),Il 0,(Il (4:Int)),(Il (5:Int))] ([({ Kind:=0,Parcel:=0,Other:=0,From:=0,To:=1,Part:=0,Day:=({ Lo:=4,Hi:=(5:Int) }:Rg) }:En)]:List En) from ⟨[Il 0,Il 0,Il 0,Il 0,(Il (1:Int)),Il 0,(Il (4:Int)),(Il (5:Int))],_,rfl,rfl,rfl⟩) rfl rfl _
 obtain⟨s,ob,t,S⟩:=kb.freeze jb;have pb:Sl s (C.sl N.nxt 0 3 0 (Option.some 3)) ([({ Society:=0,Owner:=0,Parcel:=0,Sum:=60,Until:=9,Start:=a }:Cv),({ Society:=1,Owner:=0,Parcel:=0,Sum:=90,Until:=9,Start:=d }:Cv),({ Society:=1,Owner:=1,Parcel:=0,Sum:=50,Until:=9,Start:=({ Lo:=0,Hi:=(0:Int) }:Rg) }:Cv)]:List Cv):=Bk.sl (α:=Cv) (l:=([({ Society:=0,Owner:=0,Parcel:=0,Sum:=60,Until:=9,Start:=a }:Cv),({ Society:=1,Owner:=0,Parcel:=0,Sum:=90,Until:=9,Start:=d }:Cv),({ Society:=1,Owner:=1,Parcel:=0,Sum:=50,Until:=9,Start:=({ Lo:=0,Hi:=(0:Int) }:Rg) }:Cv)]:List Cv)) S (show Cat (α:=Cv) s [Il 0,Il 0,Il 0,(Il (60:Int)),(Il (9:Int)),Il a.Lo,Il a.Hi,(Il (1:Int)),Il 0,Il 0,(Il (90:Int)),(Il (9:Int)),Il d.Lo,Il d.Hi,(Il (1:Int)),(Il (1:Int)),Il 0,(Il (50:Int)),(Il (9:Int)),Il 0,Il 0] ([({ Society:=0,Owner:=0,Parcel:=0,Sum:=60,Until:=9,Start:=a }:Cv),({ Society:=1,Owner:=0,Parcel:=0,Sum:=90,Until:=9,Start:=d }:Cv),({ Society:=1,Owner:=1,Parcel:=0,Sum:=50,Until:=9,Start:=({ Lo:=0,Hi:=(0:Int) }:Rg) }:Cv)]:List Cv) from ⟨[Il 0,Il 0,Il 0,(Il (60:Int)),(Il (9:Int)),Il a.Lo,Il a.Hi],_,rfl,rfl,⟨[(Il (1:Int)),Il 0,Il 0,(Il (90:Int)),(Il (9:Int)),Il d.Lo,Il d.Hi],_,rfl,rfl,⟨[(Il (1:Int)),(Il (1:Int)),Il 0,(Il (50:Int)),(Il (9:Int)),Il 0,Il 0],_,rfl,rfl,rfl⟩⟩⟩) rfl rfl _
 obtain rfl:=oi hp;exact hq _ s (C.sl T.nxt 0 1 0 (Option.some 1)) (C.sl m1.nxt 0 1 0 (Option.some 1)) (C.sl N.nxt 0 3 0 (Option.some 3)) ac ob.grw (ib.sub (Sub.trans r.fs t.fs)) (mb.sub t.fs) pb (ad.sub (Sub.trans (Sub.trans q.fs r.fs) t.fs))
theorem zzF{rz:List Clm}(hS:Pre f m)(hp:zvf=some rz)(hq:∀m' f' c0,Grw m f m' f'->Sl f' c0 rz->Q (.c c0) m'):Wc prog tbl 48 [] m Q:=by
 have y:=hS.st;obtain⟨w,_⟩:=zr5;refine w48 ?_;unfold zvf at hp;obtain⟨a,i,hp⟩:=zqh hp;refine zzD (low:=(16:Int)) (high:=(20:Int)) y.pre  i fun I j=>?_;obtain⟨g,A⟩:=y.call j w;refine⟨_,_,rfl,?_⟩;obtain⟨d,n,hp⟩:=zqh hp;refine zzD (low:=(10:Int)) (high:=(20:Int)) g.pre  n fun z o=>?_;obtain⟨p,B⟩:=g.call o w;refine⟨_,_,rfl,?_⟩;intro J q;obtain⟨D,r,F,s⟩:=p.blk q w 1;obtain⟨e,t,G,h⟩:=s.freeze r;have u:Sl e (C.sl z.nxt 0 2 0 (Option.some 2)) ([({ Society:=0,Paid:=a }:Clm),({ Society:=1,Paid:=d }:Clm)]:List Clm):=Bk.sl (α:=Clm) (l:=([({ Society:=0,Paid:=a }:Clm),({ Society:=1,Paid:=d }:Clm)]:List Clm)) h (show Cat (α:=Clm) e [Il 0,Il a.Lo,Il a.Hi,(Il (1:Int)),Il d.Lo,Il d.Hi] ([({ Society:=0,Paid:=a }:Clm),({ Society:=1,Paid:=d }:Clm)]:List Clm) from ⟨[Il 0,Il a.Lo,Il a.Hi],_,rfl,rfl,⟨[(Il (1:Int)),Il d.Lo,Il d.Hi],_,rfl,rfl,rfl⟩⟩) rfl rfl _;obtain rfl:=oi hp;exact hq _ e (C.sl z.nxt 0 2 0 (Option.some 2)) t.grw u
theorem zzG{rz:Dt}(hS:Pre f m)(hp:zvg=some rz)(hq:∀m' f' c0 c1 c2,Grw m f m' f'->Sl f' c0 rz.Book.Days->Sl f' c1 rz.Book.Sown->Sl f' c2 rz.Starts->Q (.agg 4 [c0,c1,c2,Il rz.Loss]) m'):Wc prog tbl 47 [] m Q:=by
 have S0:=hS.st;obtain⟨τ0,_⟩:=zr5;refine w47 ?_;unfold zvg at hp;intro m0 r;obtain⟨s,t,va,u⟩:=S0.blk r τ0 1;intro m1 w;obtain⟨y,z,A,B⟩:=t.blk w s 2;have D:=u.k A;intro m2 F;obtain⟨G,I,e,J⟩:=z.blk F y 3;have N:=D.k e;have O:=B.k e;intro m3 P;obtain⟨wa,S,a,T⟩:=I.blk P G 4;have Y:=N.k a;have Z:=O.k a;have aa:=J.k a;obtain⟨ba,ca,da,c,ea⟩:=Y.sto S [(C.sl m0.nxt 0 1 0 (Option.some 1)),(C.sl m1.nxt 0 1 0 (Option.some 1)),(C.sl m2.nxt 0 3 0 (Option.some 3)),(Il (50:Int))];have fa:=Z.k c;have ga:=aa.k c;have ha:=T.k c;refine⟨ba,ca,?_⟩;refine⟨_,_,_,_,ea.bk.ra,?_⟩;obtain⟨g,ia,h,o⟩:=fa.freeze da;have ja:=ga.k h;have ka:=ha.k h;have la:Sl g (C.sl m0.nxt 0 1 0 (Option.some 1)) ([(5:Int)]:List Int):=Bk.sl (α:=Int) (l:=([(5:Int)]:List Int)) o (show Cat (α:=Int) g [(Il (5:Int))] ([(5:Int)]:List Int) from ⟨[(Il (5:Int))],_,rfl,rfl,rfl⟩) rfl rfl _;obtain⟨i,ma,j,p⟩:=ja.freeze ia;have na:=ka.k j;have oa:Sl i (C.sl m1.nxt 0 1 0 (Option.some 1)) ([(0:Int)]:List Int):=Bk.sl (α:=Int) (l:=([(0:Int)]:List Int)) p (show Cat (α:=Int) i [Il 0] ([(0:Int)]:List Int) from ⟨[Il 0],_,rfl,rfl,rfl⟩) rfl rfl _;obtain⟨d,pa,n,q⟩:=na.freeze ma;have qa:Sl d (C.sl m2.nxt 0 3 0 (Option.some 3)) ([(1:Int),(4:Int),(0:Int)]:List Int):=Bk.sl (α:=Int) (l:=([(1:Int),(4:Int),(0:Int)]:List Int)) q (show Cat (α:=Int) d [(Il (1:Int)),(Il (4:Int)),Il 0] ([(1:Int),(4:Int),(0:Int)]:List Int) from ⟨[(Il (1:Int))],_,rfl,rfl,⟨[(Il (4:Int))],_,rfl,rfl,⟨[Il 0],_,rfl,rfl,rfl⟩⟩⟩) rfl rfl _;obtain rfl:=oi hp;exact hq _ d (C.sl m0.nxt 0 1 0 (Option.some 1)) (C.sl m1.nxt 0 1 0 (Option.some 1)) (C.sl m2.nxt 0 3 0 (Option.some 3)) pa.grw (la.sub (Sub.trans j.fs n.fs)) (oa.sub n.fs) qa
theorem zzH{rz:Bool}(hS:Pre f m)(hp:zvh=some rz)(hq:∀m',Ext m m'->Q (.c (.bool rz)) m'):Wc prog tbl 18 [] m Q:=by
 have S0:=hS.st;obtain⟨τ0,_⟩:=zr5;refine w18 ?_;unfold zvh at hp;intro m0 Ea;obtain⟨e,Fa,se,Ga⟩:=S0.blk Ea τ0 1;obtain⟨S,T,te,ya⟩:=Ga.freeze Fa;have Ha:Sl S (C.sl m.nxt 0 3 0 (Option.some 3)) ([(33:Int),(33:Int),(34:Int)]:List Int):=Bk.sl (α:=Int) (l:=([(33:Int),(33:Int),(34:Int)]:List Int)) ya (show Cat (α:=Int) S [(Il (33:Int)),(Il (33:Int)),(Il (34:Int))] ([(33:Int),(33:Int),(34:Int)]:List Int) from ⟨[(Il (33:Int))],_,rfl,rfl,⟨[(Il (33:Int))],_,rfl,rfl,⟨[(Il (34:Int))],_,rfl,rfl,rfl⟩⟩⟩) rfl rfl _;obtain⟨Ia,Ja,hp⟩:=zqh hp;refine zyY (amount:=(50:Int)) (sums:=([(33:Int),(33:Int),(34:Int)]:List Int)) T.pre Ha Ja fun m2 ue ve Ka La=>?_;obtain⟨Y,we⟩:=T.callG Ka e;refine⟨_,_,rfl,?_⟩;obtain⟨Ma,Na,hp⟩:=zqh hp;refine zzE (claims:=[]) Y.pre (Sl.nil _) Na fun m6 xe ye ze Ae Be Oa Pa Qa Ra Sa=>?_;obtain⟨Z,Ta⟩:=Y.callG Oa e;refine⟨_,_,_,_,_,_,_,_,_,_,_,rfl,?_⟩;obtain⟨Ua,Va,hp⟩:=zqh hp;refine zzG Z.pre  Va fun Qf Ce De Ee Fe Wa Xa Ya Za=>?_;obtain⟨aa,w⟩:=Z.callG Wa e;refine⟨_,_,_,_,rfl,?_⟩;obtain⟨ab,bb,hp⟩:=zqh hp;refine zy5 (c:=Ma) (t:=Ua) aa.pre (Pa.sub w.fs) (Qa.sub w.fs) (Ra.sub w.fs) (Sa.sub w.fs) Xa Ya Za bb fun Rf Ge He cb db=>?_;obtain⟨ba,eb⟩:=aa.callG cb e;refine⟨_,_,_,rfl,?_⟩;obtain⟨fb,gb,hp⟩:=zqh hp;refine zzE (claims:=[]) ba.pre (Sl.nil _) gb fun Sf Ie Je Ke Me Ne hb ib jb kb mb=>?_;obtain⟨ca,da⟩:=ba.callG hb e;refine⟨_,_,_,_,_,_,_,_,_,_,_,rfl,?_⟩;obtain⟨Oe,ob,hp⟩:=zqh hp;refine zzn (c:=fb) ca.pre ib jb kb mb ob fun Tf Pe Qe pb u=>?_
 obtain⟨ea,fa⟩:=ca.callG pb e;refine⟨_,_,rfl,?_⟩;obtain⟨qb,rb,hp⟩:=zqh hp;refine zzE (claims:=[]) ea.pre (Sl.nil _) rb fun Uf Re Se Te Ue Ve sb tb ub vb wb=>?_;obtain⟨ga,p⟩:=ea.callG sb e;refine⟨_,_,_,_,_,_,_,_,_,_,_,rfl,?_⟩;obtain⟨ha,xb,hp⟩:=zqh hp;refine zzo (c:=qb) ga.pre tb ub vb wb xb fun Vf yb=>?_;obtain⟨zb,We⟩:=ga.call yb e;refine⟨_,_,_,rfl,?_⟩;intro Wf Ab;obtain⟨q,Bb,Xe,Cb⟩:=zb.blk Ab e 2;obtain⟨Db,Eb,ia,Ye,Fb⟩:=Cb.sto Bb [Il ha.1.Lo,Il ha.1.Hi];refine⟨Db,Eb,?_⟩;obtain⟨Gb,Hb,hp⟩:=zqh hp;refine zzF ia.pre  Hb fun Xf Ze af Ib Jb=>?_;obtain⟨ja,g⟩:=ia.callG Ib q;have Kb:=Fb.k g;refine⟨_,rfl,?_⟩;obtain⟨Mb,Nb,hp⟩:=zqh hp;refine zzE (claims:=Gb) ja.pre Jb Nb fun Yf bf cf df ef gf Ob Pb Qb Rb Sb=>?_;obtain⟨ka,h⟩:=ja.callG Ob q;have Tb:=Kb.k h;refine⟨_,_,_,_,_,_,_,_,_,_,_,rfl,?_⟩;obtain⟨hf,Ub,hp⟩:=zqh hp;refine zzp (c:=Mb) ka.pre Pb Qb Rb Sb Ub fun Zf Vb=>?_;obtain⟨la,Wb⟩:=ka.call Vb q;have Xb:=Tb.k Wb;refine⟨_,_,rfl,?_⟩;obtain⟨Yb,Zb,hp⟩:=zqh hp;refine zzF la.pre  Zb fun ag jf kf ac bc=>?_;obtain⟨ma,i⟩:=la.callG ac q;have cc:=Xb.k i;refine⟨_,rfl,?_⟩;obtain⟨dc,ec,hp⟩:=zqh hp;refine zzE (claims:=Yb) ma.pre bc ec fun bg lf mf nf pf qf fc gc hc ic jc=>?_;obtain⟨na,j⟩:=ma.callG fc q;have kc:=cc.k j;refine⟨_,_,_,_,_,_,_,_,_,_,_,rfl,?_⟩;obtain⟨nc,oc,hp⟩:=zqh hp;refine zzr (c:=dc) na.pre gc hc ic jc oc fun me rf sf pc qc=>?_;obtain⟨oa,n⟩:=na.callG pc q;have sc:=kc.k n;refine⟨_,_,rfl,?_⟩;refine ifd hp (fun tc hp=>?_) fun tc hp=>?_; rotate_left
 ·obtain rfl:=oi hp;exact hq _ oa.ext'
 intro Hf uc;obtain⟨pa,vc,wc,xc⟩:=oa.blk uc q 3;have yc:=sc.k wc;obtain⟨qa,sa,d,za⟩:=xc.freeze vc;have zc:=yc.k d;have Ac:Sl qa (C.sl me.nxt 0 3 0 (Option.some 3)) ([(16:Int),(17:Int),(17:Int)]:List Int):=Bk.sl (α:=Int) (l:=([(16:Int),(17:Int),(17:Int)]:List Int)) za (show Cat (α:=Int) qa [(Il (16:Int)),(Il (17:Int)),(Il (17:Int))] ([(16:Int),(17:Int),(17:Int)]:List Int) from ⟨[(Il (16:Int))],_,rfl,rfl,⟨[(Il (17:Int))],_,rfl,rfl,⟨[(Il (17:Int))],_,rfl,rfl,rfl⟩⟩⟩) rfl rfl _;obtain⟨tf,Bc,hp⟩:=zqh hp;refine zzB (a:=Ia.1) (b:=([(16:Int),(17:Int),(17:Int)]:List Int)) sa.pre (La.sub (Sub.trans (Sub.trans (Sub.trans (Sub.trans (Sub.trans (Sub.trans (Sub.trans (Sub.trans (Sub.trans (Sub.trans (Sub.trans Ta.fs w.fs) eb.fs) da.fs) fa.fs) p.fs) g.fs) h.fs) i.fs) j.fs) n.fs) d.fs)) Ac Bc fun oe Cc=>?_;obtain⟨B,Dc⟩:=sa.call Cc pa;have Ec:=zc.k Dc;refine⟨_,rfl,?_⟩;refine zqS hp (fun Fc hp=>?_) fun Fc hp=>?_; rotate_left
 ·obtain rfl:=oi hp;exact hq _ B.ext'
 refine ifd hp (fun Gc hp=>?_) fun Gc hp=>?_; rotate_left
 ·obtain rfl:=oi hp;exact hq _ B.ext'
 intro If Hc;obtain⟨r,Ic,Jc,Kc⟩:=B.blk Hc pa 4;have Nc:=Ec.k Jc;obtain⟨ta,ua,o,Aa⟩:=Kc.freeze Ic;have Oc:=Nc.k o;have Qc:Sl ta (C.sl oe.nxt 0 2 0 (Option.some 2)) ([(20:Int),(30:Int)]:List Int):=Bk.sl (α:=Int) (l:=([(20:Int),(30:Int)]:List Int)) Aa (show Cat (α:=Int) ta [(Il (20:Int)),(Il (30:Int))] ([(20:Int),(30:Int)]:List Int) from ⟨[(Il (20:Int))],_,rfl,rfl,⟨[(Il (30:Int))],_,rfl,rfl,rfl⟩⟩) rfl rfl _;obtain⟨uf,Rc,hp⟩:=zqh hp;refine zzB (a:=ab.1) (b:=([(20:Int),(30:Int)]:List Int)) ua.pre (db.sub (Sub.trans (Sub.trans (Sub.trans (Sub.trans (Sub.trans (Sub.trans (Sub.trans (Sub.trans (Sub.trans da.fs fa.fs) p.fs) g.fs) h.fs) i.fs) j.fs) n.fs) d.fs) o.fs)) Qc Rc fun Jf Tc=>?_;obtain⟨s,Uc⟩:=ua.call Tc r;have Vc:=Oc.k Uc;refine⟨_,rfl,?_⟩;refine zqS hp (fun Xc hp=>?_) fun Xc hp=>?_; rotate_left
 ·obtain rfl:=oi hp;exact hq _ s.ext'
 refine ifd hp (fun Yc hp=>?_) fun Yc hp=>?_; rotate_left
 ·obtain rfl:=oi hp;exact hq _ s.ext'
 refine ifd hp (fun Zc hp=>?_) fun Zc hp=>?_; rotate_left
 ·obtain rfl:=oi hp;exact hq _ s.ext'
 refine⟨u.isSl,?_⟩
 try rw[u.slLen]
 refine ifd hp (fun ad hp=>?_) fun ad hp=>?_; rotate_left
 ·obtain rfl:=oi hp;exact hq _ s.ext'
 obtain⟨vf,D,hp⟩:=zqh hp;obtain⟨pe,Ba,O,D⟩:=zqb D;obtain⟨_,F⟩:=zso u D;refine⟨pe,Ba,(by first|exact O|(rw[u.slLen];exact O)),_,_,_,_,(F _ (Sub.trans (Sub.trans (Sub.trans (Sub.trans (Sub.trans (Sub.trans (Sub.trans (Sub.trans p.fs g.fs) h.fs) i.fs) j.fs) n.fs) d.fs) o.fs) s.sub)).1,?_⟩;obtain⟨wf,bd,hp⟩:=zqh hp;refine zzD (low:=(0:Int)) (high:=(50:Int)) s.pre  bd fun Kf cd=>?_;obtain⟨G,dd⟩:=s.call cd r;have ed:=Vc.k dd;refine⟨_,_,rfl,(F _ (Sub.trans (Sub.trans (Sub.trans (Sub.trans (Sub.trans (Sub.trans (Sub.trans (Sub.trans p.fs g.fs) h.fs) i.fs) j.fs) n.fs) d.fs) o.fs) G.sub)).1,?_⟩;obtain⟨xf,fd,hp⟩:=zqh hp;refine zzD (low:=(0:Int)) (high:=(30:Int)) G.pre  fd fun Lf hd=>?_;obtain⟨y,id⟩:=G.call hd r;have jd:=ed.k id;refine⟨_,_,rfl,(F _ (Sub.trans (Sub.trans (Sub.trans (Sub.trans (Sub.trans (Sub.trans (Sub.trans (Sub.trans p.fs g.fs) h.fs) i.fs) j.fs) n.fs) d.fs) o.fs) y.sub)).1,?_⟩;refine gdi hp fun kd hp=>?_;refine gdi hp fun ld hp=>?_;refine gdi hp fun md hp=>?_;refine gdi hp fun nd hp=>?_;refine gdi hp fun od hp=>?_;refine gdi hp fun pd hp=>?_;refine gdi hp fun qd hp=>?_;refine gdi hp fun sd hp=>?_;refine zqS hp (fun td hp=>?_) fun td hp=>?_; rotate_left
 ·obtain rfl:=oi hp;exact hq _ y.ext'
 obtain⟨yf,I,hp⟩:=zqh hp;obtain⟨qe,Ca,P,I⟩:=zqb I;obtain⟨_,J⟩:=zso u I;refine⟨qe,Ca,(by first|exact P|(rw[u.slLen];exact P)),_,_,_,_,(J _ (Sub.trans (Sub.trans (Sub.trans (Sub.trans (Sub.trans (Sub.trans (Sub.trans (Sub.trans p.fs g.fs) h.fs) i.fs) j.fs) n.fs) d.fs) o.fs) y.sub)).1,?_⟩;obtain⟨zf,ud,hp⟩:=zqh hp;refine zzD (low:=(0:Int)) (high:=(50:Int)) y.pre  ud fun Mf vd=>?_;obtain⟨N,wd⟩:=y.call vd r;have xd:=jd.k wd;refine⟨_,_,rfl,(J _ (Sub.trans (Sub.trans (Sub.trans (Sub.trans (Sub.trans (Sub.trans (Sub.trans (Sub.trans p.fs g.fs) h.fs) i.fs) j.fs) n.fs) d.fs) o.fs) N.sub)).1,?_⟩;obtain⟨Af,yd,hp⟩:=zqh hp;refine zzD (low:=(0:Int)) (high:=(20:Int)) N.pre  yd fun Nf zd=>?_;obtain⟨z,Ad⟩:=N.call zd r;have va:=xd.k Ad;refine⟨_,_,rfl,(J _ (Sub.trans (Sub.trans (Sub.trans (Sub.trans (Sub.trans (Sub.trans (Sub.trans (Sub.trans p.fs g.fs) h.fs) i.fs) j.fs) n.fs) d.fs) o.fs) z.sub)).1,?_⟩;refine gdi hp fun Cd hp=>?_;refine gdi hp fun Dd hp=>?_;refine gdi hp fun Ed hp=>?_;refine gdi hp fun Gd hp=>?_;refine gdi hp fun Id hp=>?_;refine gdi hp fun Jd hp=>?_;refine gdi hp fun Ld hp=>?_;refine gdi hp fun Md hp=>?_;refine zqS hp (fun Nd hp=>?_) fun Nd hp=>?_; rotate_left
 ·obtain rfl:=oi hp;exact hq _ z.ext'
 refine ifd hp (fun Od hp=>?_) fun Od hp=>?_; rotate_left
 ·obtain rfl:=oi hp;exact hq _ z.ext'
 refine⟨_,_,va.bk.ra,?_⟩;obtain⟨Bf,Pd,hp⟩:=zqh hp;refine zzD (low:=(40:Int)) (high:=(50:Int)) z.pre  Pd fun re Qd=>?_;obtain⟨A,Rd⟩:=z.call Qd r;have Sd:=va.k Rd;refine⟨_,_,rfl,(Sd.bk.ra),?_⟩;refine gdi hp fun Td hp=>?_;refine gdi hp fun Ud hp=>?_;refine gdi hp fun Vd hp=>?_;refine gdi hp fun Xd hp=>?_;refine zqS hp (fun Yd hp=>?_) fun Yd hp=>?_; rotate_left
 ·obtain rfl:=oi hp;exact hq _ A.ext'
 refine ifd hp (fun Zd hp=>?_) fun Zd hp=>?_; rotate_left
 ·obtain rfl:=oi hp;exact hq _ A.ext'
 refine ifd hp (fun ae hp=>?_) fun ae hp=>?_; rotate_left
 ·obtain rfl:=oi hp;exact hq _ A.ext'
 refine ifd hp (fun be hp=>?_) fun be hp=>?_; rotate_left
 ·obtain rfl:=oi hp;exact hq _ A.ext'
 intro Of ce;obtain⟨de,ee,Cf,fe⟩:=A.blk ce r 5;obtain⟨wa,xa,ge,Da⟩:=fe.freeze ee;have he:Sl wa (C.sl re.nxt 0 1 0 (Option.some 1)) ([(1:Int)]:List Int):=Bk.sl (α:=Int) (l:=([(1:Int)]:List Int)) Da (show Cat (α:=Int) wa [(Il (1:Int))] ([(1:Int)]:List Int) from ⟨[(Il (1:Int))],_,rfl,rfl,rfl⟩) rfl rfl _;obtain⟨Df,ie,hp⟩:=zqh hp;refine zzB (a:=nc.1) (b:=([(1:Int)]:List Int)) xa.pre (qc.sub (Sub.trans (Sub.trans d.fs o.fs) ge.fs)) he ie fun Pf je=>?_;obtain⟨ke,Ef⟩:=xa.call je de;refine⟨_,rfl,?_⟩;obtain rfl:=oi hp;exact hq _ ke.ext'
theorem zzI{c:Cs}{F G I J:C}{rz:Bool}(hS:Pre f m)(N:Sl f F c.Book.Parcels)(O:Sl f G c.Book.Entries)(P:Sl f I c.Covers)(S:Sl f J c.Claims)(hp:zvi c=some rz)(hq:∀m',Ext m m'->Q (.c (.bool rz)) m'):Wc prog tbl 50 [.agg 11 (xC c F G I J)] m Q:=by
 have y:=hS.st;obtain⟨z,_⟩:=zr5;refine w50 ?_;unfold zvi at hp;intro D h;obtain⟨d,e,s,g⟩:=y.blk h z 1;refine⟨_,_,_,_,_,_,_,_,_,_,_,g.bk.ra,?_⟩;obtain⟨t,i,hp⟩:=zqh hp;refine zzC (c:=c) e.pre N O P S i fun A j=>?_;obtain⟨a,l⟩:=e.call j d;have n:=g.k l;refine⟨_,rfl,?_⟩;refine zqS hp (fun o hp=>?_) fun o hp=>?_; rotate_left
 ·obtain rfl:=oi hp;exact hq _ a.ext'
 refine⟨_,_,_,_,_,_,_,_,_,_,_,n.bk.ra,?_⟩;obtain⟨u,p,hp⟩:=zqh hp;refine zzy (c:=c) a.pre N O P S p fun B q=>?_;obtain⟨r,w⟩:=a.call q d;refine⟨_,rfl,?_⟩;obtain rfl:=oi hp;exact hq _ r.ext'
theorem zzJ{c:Cs}{bits:Int}{ac ad ae af:C}{rz:Cs}(hS:Pre f m)(ah:Sl f ac c.Book.Parcels)(ai:Sl f ad c.Book.Entries)(aj:Sl f ae c.Covers)(ag:Sl f af c.Claims)(hp:zvk c bits=some rz)(hq:∀m' f' c2 c3 c7 ak,Grw m f m' f'->Sl f' c2 rz.Book.Parcels->Sl f' c3 rz.Book.Entries->Sl f' c7 rz.Covers->Sl f' ak rz.Claims->Q (.agg 11 (xC rz c2 c3 c7 ak)) m'):Wc prog tbl 58 [.agg 11 (xC c ac ad ae af),.c (Il bits)] m Q:=by
 have S0:=hS.st;obtain⟨τ0,_⟩:=zr5;refine w58 ?_;unfold zvk at hp;intro m0 ca;obtain⟨da,ea,mb,fa⟩:=S0.blk ca τ0 1;intro m1 ga;obtain⟨ha,ia,ja,ka⟩:=ea.blk ga da 2;have N:=fa.k ja;refine⟨_,_,_,_,_,_,_,_,_,_,_,N.bk.ra,?_⟩;intro sb la;obtain⟨ma,na,O,oa⟩:=ia.blk la ha 3;have pa:=N.k O;have qa:=ka.k O;obtain⟨sa,ta,ua,P,va⟩:=oa.sto na (xC c ac ad ae af);have wa:=pa.k P;have xa:=qa.k P;refine⟨sa,ta,?_⟩;refine⟨trivial,?_⟩;obtain⟨ya,za,Aa,S,d⟩:=va.sto1 ua 10 .sl0 (by simp) rfl
 replace d:Lb _ _ _ _ _ _ _ [Il c.Book.Last,Il c.Book.Owners,ac,ad,Il c.Societies,Il c.Day,Il c.Parcel,ae,Il c.Loss.Lo,Il c.Loss.Hi,.sl0]:=d
 have e:=wa.k S;have i:=xa.k S;refine⟨ya,za,?_⟩;intro jb ib
 have am:∀(w:Nat) (T:Int) (j:C) (l:Int) (n:Int) (o:Int) (p:Int) (q:Int) (r:Int) (s:Int) (y:List Clm) (u:M) (g:Nat->Nat),St (Fm.of m) f f u->Lb (Fm.of m) f g u 1 m.nxt 11 (xC c ac ad ae af)->Lb (Fm.of m) f g u 2 m0.nxt 11 [Il 0,Il 0,.sl0,.sl0,Il 0,Il 0,Il 0,.sl0,Il 0,Il 0,.sl0]->Lb (Fm.of m) f g u 3 m1.nxt 11 (yC l n ac ad o p q ae r s j)->Ow (Fm.of m) f g u 4 j y->zvj c bits w l n o p q r s y T=some rz->jb [.c (Il T)] u:=by
  intro w
  induction w with
  | zero=>intro T j l n o p q r s y u g t e i d h hp; cases hp
  | succ w Y=>
   intro T j l n o p q r s y u g t e i d h hp;refine ib _ _ ?_;rw[zvj] at hp;refine⟨trivial,_,e.bk.rc rfl,ag.isSl,?_⟩
   try rw[ag.slLen]
   refine ifd hp (fun Ba hp=>?_) fun Ba hp=>?_; rotate_left
   ·refine⟨_,_,_,_,_,_,_,_,_,_,_,d.bk.ra,?_⟩;obtain⟨Ca,Da,Ea,Fa,Ga⟩:=i.sto t (yC l n ac ad o p q ae r s j);have h:=h.k Fa;refine⟨Ca,Da,?_⟩;refine⟨_,_,_,_,_,_,_,_,_,_,_,Ga.bk.ra,?_⟩;obtain⟨Ha,Ia,z,Ja⟩:=h.freeze Ea;obtain rfl:=oi hp;exact hq _ Ha ac ad ae j Ia.grw (ah.sub z.fs) (ai.sub z.fs) (aj.sub z.fs) Ja
   refine gdi hp fun Ka hp=>?_;refine gdi hp fun La hp=>?_;refine gdi hp fun Ma hp=>?_;refine gdi hp fun Na hp=>?_;refine gdi hp fun Oa hp=>?_;refine gdi hp fun Pa hp=>?_;refine gdi hp fun Qa hp=>?_;refine ifd hp (fun Ra hp=>?_) fun Ra hp=>?_; rotate_left
   ·refine gdi hp fun Sa hp=>?_;exact Y _ _ _ _ _ _ _ _ _ _ _ g t e i d h hp
   refine⟨trivial,_,d.bk.rc rfl,trivial,_,e.bk.rc rfl,?_⟩;obtain⟨Z,A,hp⟩:=zqh hp;obtain⟨kb,ba,J,A⟩:=zqb A;obtain⟨_,Ta⟩:=zsm ag A;refine⟨kb,ba,(by first|exact J|(rw[ag.slLen];exact J)),_,_,_,(Ta _ t.sub).1,?_⟩;obtain⟨Ua,hp⟩:=zqi hp;intro tb aa;refine⟨(by rw[show cmC _=true from zoN (h.noFn)]; exact(d.bk.ext (Bk.new aa).2).rc rfl),?_⟩;obtain⟨B,Va,Wa,Xa,Ya,D,F⟩:=h.app' zzs t (a:=Z) (show Rp.rep (α:=Clm) f _ Z from rfl) Ua aa;have Za:=e.k D;have ab:=i.k D;have bb:=d.k D;refine⟨B,Va,Xa,?_⟩;refine⟨trivial,?_⟩;obtain⟨cb,db,eb,G,I⟩:=bb.sto1 Ya 10 B (by simp) rfl
   replace I:Lb _ _ _ _ _ _ _ (yC l n ac ad o p q ae r s B):=I
   have fb:=Za.k G;have gb:=ab.k G;have F:=F.k G;refine⟨cb,db,?_⟩;refine gdi hp fun hb hp=>?_;exact Y _ _ _ _ _ _ _ _ _ _ _ Wa eb fb gb I F hp
 exact am _ _ _ _ _ _ _ _ _ _ _ _ ma Aa e i d (Ow.nil _ _ _ _ _) hp
theorem zzK{c:Cs}{ai aj ak am:C}{rz:Bool}(hS:Pre f m)(af:Sl f ai c.Book.Parcels)(ag:Sl f aj c.Book.Entries)(ah:Sl f ak c.Covers)(ae:Sl f am c.Claims)(hp:zvl c=some rz)(hq:∀m',Ext m m'->Q (.c (.bool rz)) m'):Wc prog tbl 15 [.agg 11 (xC c ai aj ak am)] m Q:=by
 have S0:=hS.st;obtain⟨τ0,_⟩:=zr5;refine w15 ?_;unfold zvl at hp;intro m0 J;obtain⟨a,s,Qb,t⟩:=S0.blk J τ0 1;refine⟨_,_,_,_,_,_,_,_,_,_,_,t.bk.ra,?_⟩;obtain⟨Rb,N,hp⟩:=zqh hp;refine zzI (c:=c) s.pre af ag ah ae N fun pd O=>?_;obtain⟨j,P⟩:=s.call O a;have u:=t.k P;refine⟨_,rfl,?_⟩;refine zqT hp (fun S hp=>?_) fun S hp=>?_
 ·obtain⟨Sb,T,hp⟩:=zqh hp;refine zzH j.pre  T fun qd Y=>?_;obtain⟨Z,Tb⟩:=j.call Y a;refine⟨_,rfl,?_⟩;obtain rfl:=oi hp;exact hq _ Z.ext'
 refine⟨_,_,_,_,_,_,_,_,_,_,_,u.bk.ra,?_⟩;obtain⟨aa,ba,hp⟩:=zqh hp;refine zzA (c:=c) j.pre af ag ah ae ba fun sd Ub Vb Wb Xb Yb ca da ea fa ga=>?_;obtain⟨w,d⟩:=j.callG ca a;have ha:=u.k d;refine⟨_,_,_,_,_,_,_,_,_,_,_,rfl,?_⟩;obtain⟨p,ia,hp⟩:=zqh hp;refine zzp (c:=aa) w.pre da ea fa ga ia fun td ja=>?_;obtain⟨l,ka⟩:=w.call ja a;have q:=ha.k ka;refine⟨_,_,rfl,?_⟩;refine zqR hp (fun la hp=>?_) fun la hp=>?_
 ·refine⟨_,_,_,_,_,_,_,_,_,_,_,q.bk.ra,?_⟩;obtain⟨ma,na,hp⟩:=zqh hp;refine zzA (c:=c) l.pre (af.sub d.fs) (ag.sub d.fs) (ah.sub d.fs) (ae.sub d.fs) na fun ud Zb ac bc cc dc oa pa qa sa ta=>?_;obtain⟨y,ec⟩:=l.callG oa a;refine⟨_,_,_,_,_,_,_,_,_,_,_,rfl,?_⟩;obtain⟨fc,ua,hp⟩:=zqh hp;refine zzn (c:=ma) y.pre pa qa sa ta ua fun vd gc hc va ic=>?_;obtain⟨e,jc⟩:=y.callG va a;refine⟨_,_,rfl,?_⟩;refine ifd hp (fun wa hp=>?_) fun wa hp=>?_; rotate_left
  ·refine ifd hp (fun xa hp=>?_) fun xa hp=>?_; rotate_left
   ·obtain rfl:=oi hp;exact hq _ e.ext'
   refine ifd hp (fun ya hp=>?_) fun ya hp=>?_; rotate_left
   ·obtain rfl:=oi hp;exact hq _ e.ext'
   obtain⟨kc,za,hp⟩:=zqh hp;refine zzH e.pre  za fun wd Aa=>?_;obtain⟨Ba,nc⟩:=e.call Aa a;refine⟨_,rfl,?_⟩;obtain rfl:=oi hp;exact hq _ Ba.ext'
  refine ifd hp (fun Ca hp=>?_) fun Ca hp=>?_
  ·obtain⟨oc,Da,hp⟩:=zqh hp;refine zzH e.pre  Da fun xd Ea=>?_;obtain⟨Fa,pc⟩:=e.call Ea a;refine⟨_,rfl,?_⟩;obtain rfl:=oi hp;exact hq _ Fa.ext'
  refine ifd hp (fun Ga hp=>?_) fun Ga hp=>?_; rotate_left
  ·obtain rfl:=oi hp;exact hq _ e.ext'
  refine ifd hp (fun Ha hp=>?_) fun Ha hp=>?_; rotate_left
  ·obtain rfl:=oi hp;exact hq _ e.ext'
  obtain⟨qc,Ia,hp⟩:=zqh hp;refine zzH e.pre  Ia fun yd Ja=>?_;obtain⟨Ka,sc⟩:=e.call Ja a;refine⟨_,rfl,?_⟩;obtain rfl:=oi hp;exact hq _ Ka.ext'
 refine⟨trivial,_,q.bk.rc rfl,ae.isSl,?_⟩;obtain⟨z,hp⟩:=zqi hp;refine⟨(by first|exact z|(rw[ae.slLen];exact z)),?_⟩
 try rw[ae.slLen]
 obtain⟨tc,La,hp⟩:=zqh hp;refine zwR (n:=p.1) (low:=(0:Int)) (high:=((c.Claims.length:Int) - (1:Int))) l.pre  La fun zd Ma=>?_;obtain⟨r,Na⟩:=l.call Ma a;have A:=q.k Na;refine⟨_,rfl,?_⟩;refine zqT hp (fun Oa hp=>?_) fun Oa hp=>?_
 ·obtain rfl:=oi hp;exact hq _ r.ext'
 refine⟨_,_,_,_,_,_,_,_,_,_,_,A.bk.ra,?_⟩;refine gdi hp fun Pa hp=>?_;refine gdi hp fun Qa hp=>?_;refine gdi hp fun Ra hp=>?_;refine gdi hp fun Sa hp=>?_;refine gdi hp fun Ta hp=>?_;obtain⟨Ua,Va,hp⟩:=zqh hp;refine zzJ (c:=c) (bits:=(((1:Int) * ((2:Int) ^ (Int.toNat (zl7 .u64 p.1)))) - (1:Int))) r.pre (af.sub d.fs) (ag.sub d.fs) (ah.sub d.fs) (ae.sub d.fs) Va fun Ad uc vc wc xc yc Wa Xa Ya Za ab=>?_;obtain⟨B,g⟩:=r.callG Wa a;have bb:=A.k g;refine⟨_,_,_,_,_,_,_,_,_,_,_,rfl,?_⟩;obtain⟨cb,db,hp⟩:=zqh hp;refine zzA (c:=Ua) B.pre Xa Ya Za ab db fun jd zc Ac Bc Cc Dc eb fb gb hb ib=>?_;obtain⟨D,h⟩:=B.callG eb a;have jb:=bb.k h;refine⟨_,_,_,_,_,_,_,_,_,_,_,rfl,?_⟩;obtain⟨Ec,kb,hp⟩:=zqh hp;refine zzn (c:=cb) D.pre fb gb hb ib kb fun kd Fc Gc mb Hc=>?_;obtain⟨F,i⟩:=D.callG mb a;have ob:=jb.k i;refine⟨_,_,rfl,_,_,_,_,_,_,_,_,_,_,_,ob.bk.ra,?_⟩;refine gdi hp fun pb hp=>?_;refine gdi hp fun qb hp=>?_;refine gdi hp fun rb hp=>?_;refine gdi hp fun sb hp=>?_;refine gdi hp fun tb hp=>?_;obtain⟨ub,vb,hp⟩:=zqh hp;refine zzJ (c:=c) (bits:=(((2:Int) * ((2:Int) ^ (Int.toNat (zl7 .u64 p.1)))) - (1:Int))) F.pre (af.sub (Sub.trans (Sub.trans (Sub.trans d.fs g.fs) h.fs) i.fs)) (ag.sub (Sub.trans (Sub.trans (Sub.trans d.fs g.fs) h.fs) i.fs)) (ah.sub (Sub.trans (Sub.trans (Sub.trans d.fs g.fs) h.fs) i.fs)) (ae.sub (Sub.trans (Sub.trans (Sub.trans d.fs g.fs) h.fs) i.fs)) vb fun ld Ic Jc Kc Nc Oc wb xb yb zb Ab=>?_;obtain⟨G,Qc⟩:=F.callG wb a;refine⟨_,_,_,_,_,_,_,_,_,_,_,rfl,?_⟩
 obtain⟨Bb,Cb,hp⟩:=zqh hp;refine zzA (c:=ub) G.pre xb yb zb Ab Cb fun md Rc Tc Uc Vc Xc Db Eb Fb Gb Hb=>?_;obtain⟨I,Yc⟩:=G.callG Db a;refine⟨_,_,_,_,_,_,_,_,_,_,_,rfl,?_⟩;obtain⟨Zc,Ib,hp⟩:=zqh hp;refine zzn (c:=Bb) I.pre Eb Fb Gb Hb Ib fun nd ad bd Jb cd=>?_;obtain⟨o,dd⟩:=I.callG Jb a;refine⟨_,_,rfl,?_⟩;refine ifd hp (fun Kb hp=>?_) fun Kb hp=>?_; rotate_left
 ·obtain rfl:=oi hp;exact hq _ o.ext'
 refine ifd hp (fun Mb hp=>?_) fun Mb hp=>?_; rotate_left
 ·obtain rfl:=oi hp;exact hq _ o.ext'
 obtain⟨ed,Nb,hp⟩:=zqh hp;refine zzH o.pre  Nb fun od Ob=>?_;obtain⟨Pb,fd⟩:=o.call Ob a;refine⟨_,rfl,?_⟩;obtain rfl:=oi hp;exact hq _ Pb.ext'
end
end
end Go.Proofs.YtpjnfiegpjlfgaaGreat

