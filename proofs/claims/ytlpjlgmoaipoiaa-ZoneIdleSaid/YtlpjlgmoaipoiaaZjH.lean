/- An evaluator of code, its soundness, and what functions of the program do. Condition: none; a lemma text. -/
import Derived.Test.YtlpjlgmoaipoiaaZjG

namespace Go.Proofs.Ytlpjlgmoaipoiaa
open _root_.Go.Proofs.Try
open Go.Abs
set_option maxRecDepth 100000
noncomputable section
def zuj(f:M)(x:C)(g:Rl->Stt->Option (Stt)):Prop:=c0B x=true/\∀(f' m:M) (a0:Rl) (a1:Stt) (c0:C) (r:Stt) (Q:V->M->Prop),Sub f f'->Pre f' m->Sl f' c0 a0.Price->g a0 a1=some r->(∀m',Ext m m'->Q (.agg 2 [(.int .i64 r.cls),(.int .i64 r.since)]) m')->zmw prog tbl [.agg 6 [(.int .i64 a0.Classes),(.int .i64 a0.Good),(.int .i64 a0.Bad),(.int .i64 a0.Rest),(.int .i64 a0.Fewest),c0],.agg 2 [(.int .i64 a1.cls),(.int .i64 a1.since)]] x m Q
theorem zuj.sub{f m:M}{x:C}{g:Rl->Stt->Option (Stt)}(h:zuj f x g)(s:Sub f m):zuj m x g:=⟨h.1,fun f' m' a0 a1 c0 r Q hs=>h.2 f' m' a0 a1 c0 r Q (s.trans hs)⟩
def zuk(f:M)(x:C)(g:Int->Option (Bool)):Prop:=∀(f' m:M) (a0:Int) (r:Bool) (Q:V->M->Prop),Sub f f'->Pre f' m->g a0=some r->(∀m',Ext m m'->Q (.c (.bool r)) m')->zmw prog tbl [.c (.int .i64 a0)] x m Q
theorem zuk.sub{f m:M}{x:C}{g:Int->Option (Bool)}(h:zuk f x g)(s:Sub f m):zuk m x g:=fun f' m' a0 r Q hs=>h f' m' a0 r Q (s.trans hs)
def zul(f:M)(x:C)(g:Yr->Option (Bool)):Prop:=∀(f' m:M) (a0:Yr) (r:Bool) (Q:V->M->Prop),Sub f f'->Pre f' m->g a0=some r->(∀m',Ext m m'->Q (.c (.bool r)) m')->zmw prog tbl [.agg 6 [(.int .i64 a0.Losses.Lo),(.int .i64 a0.Losses.Hi),(.int .i64 a0.Premiums.Lo),(.int .i64 a0.Premiums.Hi),(.int .i64 a0.Parcels),.bool a0.Exempt]] x m Q
theorem zul.sub{f m:M}{x:C}{g:Yr->Option (Bool)}(h:zul f x g)(s:Sub f m):zul m x g:=fun f' m' a0 r Q hs=>h f' m' a0 r Q (s.trans hs)
theorem zum:KL prog 130 Stt:=zqM (n:=2) (ks:=[.int .i64,.int .i64]) (by kernel_rfl) (by kernel_rfl) (cs:=fun k=>[.int .i64 k.cls,.int .i64 k.since]) (fun _=>rfl) fun a b fa fb=>⟨_,_,(zqL (zqI fa.1 fb.1) (zqL (zqI fa.2.1 fb.2.1) zqK)),⟨fun h=>by obtain⟨acls,asince⟩:=a; obtain⟨bcls,bsince⟩:=b; simp_all,fun h=>by subst h; exact⟨rfl,rfl,trivial⟩⟩⟩
theorem zun:∀a b:Stt,MK.enc a=MK.enc b->a=b:=fun a b h=>by
 obtain⟨acls,asince⟩:=a; obtain⟨bcls,bsince⟩:=b
 injection h with h1 h2
 simp only[List.cons.injEq,C.int.injEq,true_and,and_true] at h2
 simp_all
theorem zuo:TA prog 22 1:=⟨3,by kernel_rfl,by kernel_rfl,by kernel_rfl⟩
theorem zup:TA prog 96 4:=⟨127,by kernel_rfl,by kernel_rfl,by kernel_rfl⟩
theorem zuq{n:Int}{low:Int}{high:Int}{m f:M}{Q:V->M->Prop}{rz:Bool}(hS:Pre f m)(hp:zsa n low high=some rz)(hq:∀m',Ext m m'->Q (.c (.bool rz)) m'):Wc prog tbl 40 [.c (Il n),.c (Il low),.c (Il high)] m Q:=by
 have d:=hS.st;obtain⟨e,_⟩:=zr0;refine w40 ?_;unfold zsa at hp;refine ifd hp (fun a hp=>?_) fun a hp=>?_
 ·obtain rfl:=oi hp;exact hq _ d.ext'
 obtain rfl:=oi hp;exact hq _ d.ext'
theorem zur{r:Rg}{m f:M}{Q:V->M->Prop}{rz:Bool}(hS:Pre f m)(hp:zsb r=some rz)(hq:∀m',Ext m m'->Q (.c (.bool rz)) m'):Wc prog tbl 81 [.agg 2 [Il r.Lo,Il r.Hi]] m Q:=by
 have l:=hS.st;obtain⟨n,_⟩:=zr0;refine w81 ?_;unfold zsb at hp;intro q e;obtain⟨o,d,p,a⟩:=l.blk e n 1;refine⟨trivial,_,a.bk.rc rfl,?_⟩;refine ifd hp (fun g hp=>?_) fun g hp=>?_; rotate_left
 ·obtain rfl:=oi hp;exact hq _ d.ext'
 refine⟨trivial,_,a.bk.rc rfl,trivial,_,a.bk.rc rfl,?_⟩;refine ifd hp (fun h hp=>?_) fun h hp=>?_; rotate_left
 ·obtain rfl:=oi hp;exact hq _ d.ext'
 refine⟨trivial,_,a.bk.rc rfl,?_⟩;refine ifd hp (fun i hp=>?_) fun i hp=>?_; rotate_left
 ·obtain rfl:=oi hp;exact hq _ d.ext'
 refine⟨trivial,_,a.bk.rc rfl,trivial,_,a.bk.rc rfl,?_⟩;refine gdi hp fun j hp=>?_;obtain rfl:=oi hp;exact hq _ d.ext'
theorem zus{r:Rl}{z:Zn}{ca105 ca201:C}{m f:M}{Q:V->M->Prop}{rz:Int}(hS:Pre f m)(ha105:Sl f ca105 r.Price)(ha201:Sl f ca201 z.Years)(hp:zsd r z=some rz)(hq:∀m',Ext m m'->Q (.c (Il rz)) m'):Wc prog tbl 56 [.agg 6 [Il r.Classes,Il r.Good,Il r.Bad,Il r.Rest,Il r.Fewest,ca105],.agg 2 [Il z.First,ca201]] m Q:=by
 have S0:=hS.st;obtain⟨τ0,_⟩:=zr0;refine w56 ?_;unfold zsd at hp;intro m0 Ha;obtain⟨Ia,Ja,hc,Ka⟩:=S0.blk Ha τ0 1;intro m1 La;obtain⟨o,i,Ma,ia⟩:=Ja.blk La Ia 2;have h:=Ka.k Ma;refine⟨trivial,_,h.bk.rc rfl,?_⟩;refine ifd hp (fun Na hp=>?_) fun Na hp=>?_
 ·obtain rfl:=oi hp;exact hq _ i.ext'
 refine⟨trivial,_,ia.bk.rc rfl,ha201.isSl,?_⟩
 try rw[ha201.slLen]
 refine ifd hp (fun Oa hp=>?_) fun Oa hp=>?_
 ·obtain rfl:=oi hp;exact hq _ i.ext'
 refine⟨trivial,_,h.bk.rc rfl,?_⟩;refine ifd hp (fun Pa hp=>?_) fun Pa hp=>?_
 ·obtain rfl:=oi hp;exact hq _ i.ext'
 refine⟨trivial,_,h.bk.rc rfl,ha105.isSl,trivial,_,h.bk.rc rfl,?_⟩
 try rw[ha105.slLen]
 refine zqT hp (fun Qa hp=>?_) fun Qa hp=>?_
 ·obtain rfl:=oi hp;exact hq _ i.ext'
 refine⟨trivial,_,h.bk.rc rfl,trivial,_,h.bk.rc rfl,?_⟩;obtain⟨ic,Ra,hp⟩:=zqq hp;refine zuq (n:=r.Good) (low:=(0:Int)) (high:=r.Bad) i.pre  Ra fun vc Sa=>?_;obtain⟨u,ja⟩:=i.call Sa o;have F:=h.k ja;have Ta:=ia.k ja;refine⟨_,rfl,?_⟩;refine zqV hp (fun Ua hp=>?_) fun Ua hp=>?_
 ·obtain rfl:=oi hp;exact hq _ u.ext'
 refine⟨trivial,_,F.bk.rc rfl,?_⟩;refine ifd hp (fun Va hp=>?_) fun Va hp=>?_
 ·obtain rfl:=oi hp;exact hq _ u.ext'
 refine⟨trivial,_,F.bk.rc rfl,?_⟩;obtain⟨jc,Wa,hp⟩:=zqq hp;refine zuq (n:=r.Rest) (low:=(0:Int)) (high:=(4:Int)) u.pre  Wa fun wc Xa=>?_;obtain⟨G,ka⟩:=u.call Xa o;have la:=F.k ka;have Ya:=Ta.k ka;refine⟨_,rfl,?_⟩;refine zqV hp (fun Za hp=>?_) fun Za hp=>?_
 ·obtain rfl:=oi hp;exact hq _ G.ext'
 refine⟨trivial,_,la.bk.rc rfl,?_⟩;obtain⟨kc,ab,hp⟩:=zqq hp;refine zuq (n:=r.Fewest) (low:=(0:Int)) (high:=(100:Int)) G.pre  ab fun xc bb=>?_;obtain⟨I,ma⟩:=G.call bb o;have na:=la.k ma;have oa:=Ya.k ma;refine⟨_,rfl,?_⟩;refine zqV hp (fun cb hp=>?_) fun cb hp=>?_
 ·obtain rfl:=oi hp;exact hq _ I.ext'
 refine⟨trivial,_,oa.bk.rc rfl,trivial,_,na.bk.rc rfl,?_⟩;refine gdi hp fun db hp=>?_;obtain⟨nc,eb,hp⟩:=zqq hp;refine zuq (n:=z.First) (low:=(0:Int)) (high:=(r.Classes - (1:Int))) I.pre  eb fun yc fb=>?_;obtain⟨pa,qa⟩:=I.call fb o;have a:=na.k qa;have d:=oa.k qa;refine⟨_,rfl,?_⟩;refine zqV hp (fun gb hp=>?_) fun gb hp=>?_
 ·obtain rfl:=oi hp;exact hq _ pa.ext'
 intro Zb hb
 have hgo:∀(w:Nat) (aa:Int) (ba:Int) (s:M) (g:Nat->Nat),St (Fm.of m) f f s->Lb (Fm.of m) f g s 1 m.nxt 6 [Il r.Classes,Il r.Good,Il r.Bad,Il r.Rest,Il r.Fewest,ca105]->Lb (Fm.of m) f g s 2 m0.nxt 2 [Il z.First,ca201]->zsc r z w aa ba=some rz->Zb [.c (Il aa),.c (Il ba)] s:=by
  intro w
  induction w with
  | zero=>intro aa ba s g p a d hp; cases hp
  | succ w ca=>
   intro aa ba s g p a d hp;refine hb _ _ _ ?_;rw[zsc] at hp;refine⟨trivial,_,a.bk.rc rfl,ha105.isSl,?_⟩
   try rw[ha105.slLen]
   refine ifd hp (fun ib hp=>?_) fun ib hp=>?_
   ·refine⟨trivial,_,a.bk.rc rfl,?_⟩;obtain⟨jb,J,hp⟩:=zqq hp;obtain⟨ac,Ca,da,J⟩:=zqk J;refine⟨ac,Ca,(by first|exact da|(rw[ha105.slLen];exact da)),_,(ha105.rdI J p.sub),?_⟩;obtain⟨oc,kb,hp⟩:=zqq hp;refine zuq (n:=jb) (low:=(1:Int)) (high:=(10000:Int)) p.pre  kb fun zc mb=>?_;obtain⟨l,sa⟩:=p.call mb g;have y:=a.k sa;have ta:=d.k sa;refine⟨_,rfl,?_⟩;refine zqV hp (fun ob hp=>?_) fun ob hp=>?_
    ·obtain rfl:=oi hp;exact hq _ l.ext'
    refine ifd hp (fun pb hp=>?_) fun pb hp=>?_; rotate_left
    ·refine gdi hp fun qb hp=>?_;exact ca _ _ _ g l y ta hp
    refine⟨trivial,_,y.bk.rc rfl,?_⟩;obtain⟨pc,N,hp⟩:=zqq hp;obtain⟨bc,Da,ea,N⟩:=zqk N;refine⟨bc,Da,(by first|exact ea|(rw[ha105.slLen];exact ea)),_,(ha105.rdI N l.sub),trivial,_,y.bk.rc rfl,?_⟩;refine gdi hp fun rb hp=>?_;obtain⟨qc,O,hp⟩:=zqq hp;obtain⟨cc,Ea,fa,O⟩:=zqk O;refine⟨cc,Ea,(by first|exact fa|(rw[ha105.slLen];exact fa)),_,(ha105.rdI O l.sub),?_⟩;refine ifd hp (fun sb hp=>?_) fun sb hp=>?_
    ·obtain rfl:=oi hp;exact hq _ l.ext'
    refine gdi hp fun tb hp=>?_;exact ca _ _ _ g l y ta hp
   intro dc ub
   have hgo:∀(A:Nat) (ua:Int) (ga:Int) (t:M) (q:Nat->Nat),St (Fm.of m) f f t->Lb (Fm.of m) f q t 1 m.nxt 6 [Il r.Classes,Il r.Good,Il r.Bad,Il r.Rest,Il r.Fewest,ca105]->Lb (Fm.of m) f q t 2 m0.nxt 2 [Il z.First,ca201]->prFault_L1 z A ga=some rz->dc [.c (Il ua),.c (Il ga)] t:=by
    intro A
    induction A with
    | zero=>intro ua ga t q B a d hp; cases hp
    | succ A Fa=>
     intro ua ga t q B a d hp;refine ub _ _ _ ?_;rw[prFault_L1] at hp;refine⟨trivial,_,d.bk.rc rfl,ha201.isSl,?_⟩
     try rw[ha201.slLen]
     refine ifd hp (fun vb hp=>?_) fun vb hp=>?_; rotate_left
     ·obtain rfl:=oi hp;exact hq _ B.ext'
     refine⟨trivial,_,d.bk.rc rfl,?_⟩;obtain⟨e,P,hp⟩:=zqq hp;obtain⟨ec,Ga,ha,P⟩:=zqk P;obtain⟨_,wb⟩:=zr5 ha201 P;refine⟨ec,Ga,(by first|exact ha|(rw[ha201.slLen];exact ha)),_,_,_,_,_,_,(wb _ B.sub).1,?_⟩;intro Ac xb;obtain⟨D,yb,va,zb⟩:=B.blk xb q 3;have Ab:=a.k va;have Bb:=d.k va;obtain⟨Cb,Db,wa,xa,ya⟩:=zb.sto yb [Il e.Losses.Lo,Il e.Losses.Hi,Il e.Premiums.Lo,Il e.Premiums.Hi,Il e.Parcels,.bool e.Exempt];have Eb:=Ab.k xa;have Fb:=Bb.k xa;refine⟨Cb,Db,?_⟩;refine⟨trivial,_,_,ya.bk.rp (k:=0) (j:=2) rfl (by omega),?_⟩;obtain⟨sc,Gb,hp⟩:=zqq hp;refine zur (r:=e.Losses) wa.pre  Gb fun Bc Hb=>?_;obtain⟨S,T⟩:=wa.call Hb D;have Ib:=Eb.k T;have Jb:=Fb.k T;have za:=ya.k T;refine⟨_,rfl,?_⟩;refine zqV hp (fun Kb hp=>?_) fun Kb hp=>?_
     ·obtain rfl:=oi hp;exact hq _ S.ext'
     refine⟨trivial,_,_,za.bk.rp (k:=2) (j:=2) rfl (by omega),?_⟩;obtain⟨tc,Mb,hp⟩:=zqq hp;refine zur (r:=e.Premiums) S.pre  Mb fun Cc Nb=>?_;obtain⟨Y,Z⟩:=S.call Nb D;have Ob:=Ib.k Z;have Pb:=Jb.k Z;have Qb:=za.k Z;refine⟨_,rfl,?_⟩;refine zqV hp (fun Rb hp=>?_) fun Rb hp=>?_
     ·obtain rfl:=oi hp;exact hq _ Y.ext'
     refine⟨trivial,_,Qb.bk.rc rfl,?_⟩;obtain⟨uc,Sb,hp⟩:=zqq hp;refine zuq (n:=e.Parcels) (low:=(0:Int)) (high:=(100:Int)) Y.pre  Sb fun Dc Tb=>?_;obtain⟨Aa,Ba⟩:=Y.call Tb D;have Ub:=Ob.k Ba;have Vb:=Pb.k Ba;refine⟨_,rfl,?_⟩;refine zqV hp (fun Wb hp=>?_) fun Wb hp=>?_
     ·obtain rfl:=oi hp;exact hq _ Aa.ext'
     refine gdi hp fun Xb hp=>?_;exact Fa _ _ _ D Aa Ub Vb hp
   exact hgo _ _ _ _ g p a d hp
 exact hgo _ _ _ _ o pa a d hp
theorem zut{a:List Int}{b:List Int}{ca100 ca200:C}{m f:M}{Q:V->M->Prop}{rz:Bool}(hS:Pre f m)(ha100:Sl f ca100 a)(ha200:Sl f ca200 b)(hp:zsm a b=some rz)(hq:∀m',Ext m m'->Q (.c (.bool rz)) m'):Wc prog tbl 60 [.c ca100,.c ca200] m Q:=by
 have T:=hS.st;obtain⟨Y,_⟩:=zr0;refine w60 ?_;unfold zsm at hp;intro Z I
 have hgo:∀(e:Nat) (F:Bool) (w:Int) (y:M) (g:Nat->Nat),St (Fm.of m) f f y->zsl a b e w=some rz->Z [.c (.bool F),.c (Il w)] y:=by
  intro e
  induction e with
  | zero=>intro F w y g d hp; cases hp
  | succ e G=>
   intro F w y g d hp;refine I _ _ _ ?_;rw[zsl] at hp;refine⟨ha100.isSl,?_⟩
   try rw[ha100.slLen]
   refine ifd hp (fun z hp=>?_) fun z hp=>?_; rotate_left
   ·refine⟨ha100.isSl,ha200.isSl,?_⟩
    try rw[ha100.slLen]
    try rw[ha200.slLen]
    obtain rfl:=oi hp;exact hq _ d.ext'
   refine⟨ha200.isSl,?_⟩
   try rw[ha200.slLen]
   refine ifd hp (fun A hp=>?_) fun A hp=>?_; rotate_left
   ·refine⟨ha100.isSl,ha200.isSl,?_⟩
    try rw[ha100.slLen]
    try rw[ha200.slLen]
    obtain rfl:=oi hp;exact hq _ d.ext'
   obtain⟨N,h,hp⟩:=zqq hp;obtain⟨n4,r,n,h⟩:=zqk h;refine⟨n4,r,(by first|exact n|(rw[ha100.slLen];exact n)),_,(ha100.rdI h d.sub),?_⟩;obtain⟨O,i,hp⟩:=zqq hp;obtain⟨n6,s,o,i⟩:=zqk i;refine⟨n6,s,(by first|exact o|(rw[ha200.slLen];exact o)),_,(ha200.rdI i d.sub),?_⟩;refine zqT hp (fun B hp=>?_) fun B hp=>?_; rotate_left
   ·refine gdi hp fun D hp=>?_;exact G _ _ _ g d hp
   obtain⟨P,j,hp⟩:=zqq hp;obtain⟨n8,t,p,j⟩:=zqk j;refine⟨n8,t,(by first|exact p|(rw[ha100.slLen];exact p)),_,(ha100.rdI j d.sub),?_⟩;obtain⟨S,l,hp⟩:=zqq hp;obtain⟨J,u,q,l⟩:=zqk l;refine⟨J,u,(by first|exact q|(rw[ha200.slLen];exact q)),_,(ha200.rdI l d.sub),?_⟩;obtain rfl:=oi hp;exact hq _ d.ext'
 exact hgo _ _ _ _ Y T hp
theorem zuu{a:List Int}{b:List Int}{ca100 ca200:C}{m f:M}{Q:V->M->Prop}{rz:Bool}(hS:Pre f m)(ha100:Sl f ca100 a)(ha200:Sl f ca200 b)(hp:zsn a b=some rz)(hq:∀m',Ext m m'->Q (.c (.bool rz)) m'):Wc prog tbl 28 [.c ca100,.c ca200] m Q:=by
 have o:=hS.st;obtain⟨p,_⟩:=zr0;refine w28 ?_;unfold zsn at hp;refine⟨ha100.isSl,ha200.isSl,?_⟩
 try rw[ha100.slLen]
 try rw[ha200.slLen]
 refine ifd hp (fun e hp=>?_) fun e hp=>?_; rotate_left
 ·obtain rfl:=oi hp;exact hq _ o.ext'
 obtain⟨q,g,hp⟩:=zqq hp;refine zut (a:=a) (b:=b) o.pre ha100 ha200 g fun u h=>?_;obtain⟨d,r⟩:=o.call h p;refine⟨_,rfl,?_⟩;refine zqV hp (fun i hp=>?_) fun i hp=>?_; rotate_left
 ·obtain rfl:=oi hp;exact hq _ d.ext'
 obtain⟨s,j,hp⟩:=zqq hp;refine zut (a:=b) (b:=a) d.pre ha200 ha100 j fun w l=>?_;obtain⟨n,t⟩:=d.call l p;refine⟨_,rfl,?_⟩;obtain rfl:=oi hp;exact hq _ n.ext'
theorem zuv{r:Rg}{n:Int}{m f:M}{Q:V->M->Prop}{rz:Bool}(hS:Pre f m)(hp:zso r n=some rz)(hq:∀m',Ext m m'->Q (.c (.bool rz)) m'):Wc prog tbl 78 [.agg 2 [Il r.Lo,Il r.Hi],.c (Il n)] m Q:=by
 have j:=hS.st;obtain⟨l,_⟩:=zr0;refine w78 ?_;unfold zso at hp;intro o e;obtain⟨h,a,i,d⟩:=j.blk e l 1;refine⟨trivial,_,d.bk.rc rfl,?_⟩;refine ifd hp (fun g hp=>?_) fun g hp=>?_; rotate_left
 ·obtain rfl:=oi hp;exact hq _ a.ext'
 refine⟨trivial,_,d.bk.rc rfl,?_⟩;obtain rfl:=oi hp;exact hq _ a.ext'
theorem zuw{r:Rg}{other:Rg}{m f:M}{Q:V->M->Prop}{rz:Bool}(hS:Pre f m)(hp:zsp r other=some rz)(hq:∀m',Ext m m'->Q (.c (.bool rz)) m'):Wc prog tbl 83 [.agg 2 [Il r.Lo,Il r.Hi],.agg 2 [Il other.Lo,Il other.Hi]] m Q:=by
 have t:=hS.st;obtain⟨u,_⟩:=zr0;refine w83 ?_;unfold zsp at hp;intro w g;obtain⟨h,i,q,j⟩:=t.blk g u 1;intro y l;obtain⟨s,d,n,a⟩:=i.blk l h 2;have e:=j.k n;refine⟨trivial,_,e.bk.rc rfl,trivial,_,a.bk.rc rfl,?_⟩;refine ifd hp (fun o hp=>?_) fun o hp=>?_; rotate_left
 ·obtain rfl:=oi hp;exact hq _ d.ext'
 refine⟨trivial,_,a.bk.rc rfl,trivial,_,a.bk.rc rfl,?_⟩;refine ifd hp (fun p hp=>?_) fun p hp=>?_; rotate_left
 ·obtain rfl:=oi hp;exact hq _ d.ext'
 refine⟨trivial,_,a.bk.rc rfl,trivial,_,e.bk.rc rfl,?_⟩;obtain rfl:=oi hp;exact hq _ d.ext'
theorem zux{last:Int}{m f:M}{Q:V->M->Prop}{rz:Rg}(hS:Pre f m)(hp:zsq last=some rz)(hq:∀m',Ext m m'->Q (.agg 2 [Il rz.Lo,Il rz.Hi]) m'):Wc prog tbl 82 [.c (Il last)] m Q:=by
 have p:=hS.st;obtain⟨q,_⟩:=zr0;refine w82 ?_;unfold zsq at hp;intro r a;obtain⟨l,d,n,e⟩:=p.blk a q 1;obtain⟨g,h,i,o,j⟩:=e.sto d [Il 0,Il last];refine⟨g,h,?_⟩;refine⟨_,_,j.bk.ra,?_⟩;obtain rfl:=oi hp;exact hq _ i.ext'
theorem zuy{l:List Int}{ca100:C}{m f:M}{Q:V->M->Prop}{rz:Int}(hS:Pre f m)(ha100:Sl f ca100 l)(hp:zss l=some rz)(hq:∀m',Ext m m'->Q (.c (Il rz)) m'):Wc prog tbl 68 [.c ca100] m Q:=by
 have A:=hS.st;obtain⟨G,_⟩:=zr0;refine w68 ?_;unfold zss at hp;refine⟨ha100.isSl,?_⟩
 try rw[ha100.slLen]
 refine ifd hp (fun q hp=>?_) fun q hp=>?_
 ·obtain rfl:=oi hp;exact hq _ A.ext'
 obtain⟨D,g,hp⟩:=zqq hp;obtain⟨I,n,i,g⟩:=zqk g;refine⟨I,n,(by first|exact i|(rw[ha100.slLen];exact i)),_,(ha100.rdI g A.sub),ha100.isSl,?_⟩;intro J B
 have hgo:∀(d:Nat) (r:Int) (s:Int) (t:M) (e:Nat->Nat),St (Fm.of m) f f t->zsr l d r s=some rz->J [.c (Il r),.c (Il s)] t:=by
  intro d
  induction d with
  | zero=>intro r s t e a hp; cases hp
  | succ d o=>
   intro r s t e a hp;refine B _ _ _ ?_;rw[zsr] at hp
   try rw[ha100.slLen]
   refine ifd hp (fun u hp=>?_) fun u hp=>?_; rotate_left
   ·obtain rfl:=oi hp;exact hq _ a.ext'
   obtain⟨F,h,hp⟩:=zqq hp;obtain⟨N,p,j,h⟩:=zqk h;refine⟨N,p,(by first|exact j|(rw[ha100.slLen];exact j)),_,(ha100.rdI h a.sub),?_⟩;refine ifd hp (fun w hp=>?_) fun w hp=>?_
   ·refine gdi hp fun y hp=>?_;exact o _ _ _ e a hp
   refine gdi hp fun z hp=>?_;exact o _ _ _ e a hp
 exact hgo _ _ _ _ G A hp
theorem zuz{l:List Int}{ca100:C}{m f:M}{Q:V->M->Prop}{rz:Int}(hS:Pre f m)(ha100:Sl f ca100 l)(hp:zsu l=some rz)(hq:∀m',Ext m m'->Q (.c (Il rz)) m'):Wc prog tbl 69 [.c ca100] m Q:=by
 have y:=hS.st;obtain⟨D,_⟩:=zr0;refine w69 ?_;unfold zsu at hp;refine⟨ha100.isSl,?_⟩
 try rw[ha100.slLen]
 refine ifd hp (fun p hp=>?_) fun p hp=>?_
 ·cases hp
 obtain⟨A,e,hp⟩:=zqq hp;obtain⟨F,n,i,e⟩:=zqk e;refine⟨F,n,(by first|exact i|(rw[ha100.slLen];exact i)),_,(ha100.rdI e y.sub),?_⟩;intro G z
 have hgo:∀(a:Nat) (q:Int) (r:Int) (s:M) (g:Nat->Nat),St (Fm.of m) f f s->zst l a q r=some rz->G [.c (Il q),.c (Il r)] s:=by
  intro a
  induction a with
  | zero=>intro q r s g d hp; cases hp
  | succ a w=>
   intro q r s g d hp;refine z _ _ _ ?_;rw[zst] at hp;refine⟨ha100.isSl,?_⟩
   try rw[ha100.slLen]
   refine ifd hp (fun t hp=>?_) fun t hp=>?_; rotate_left
   ·obtain rfl:=oi hp;exact hq _ d.ext'
   obtain⟨B,h,hp⟩:=zqq hp;obtain⟨I,o,j,h⟩:=zqk h;refine⟨I,o,(by first|exact j|(rw[ha100.slLen];exact j)),_,(ha100.rdI h d.sub),?_⟩;refine gdi hp fun u hp=>?_;exact w _ _ _ g d hp
 exact hgo _ _ _ _ D y hp
theorem zuA{x:Int}{m f:M}{Q:V->M->Prop}{rz:Bool}(hS:Pre f m)(hp:zsv x=some rz)(hq:∀m',Ext m m'->Q (.c (.bool rz)) m'):Wc prog tbl 124 [.c (Il x)] m Q:=by
 have a:=hS.st;obtain⟨d,_⟩:=zr0;refine zt5 ?_;unfold zsv at hp;obtain rfl:=oi hp;exact hq _ a.ext'
theorem zuB{x:Int}{y:Int}{m f:M}{Q:V->M->Prop}{rz:Bool}(hS:Pre f m)(hp:zsw x y=some rz)(hq:∀m',Ext m m'->Q (.c (.bool rz)) m'):Wc prog tbl 119 [.c (Il x),.c (Il y)] m Q:=by
 have n:=hS.st;obtain⟨o,_⟩:=zr0;refine zt9 ?_;unfold zsw at hp;obtain⟨p,e,hp⟩:=zqq hp;refine zuA (x:=x) n.pre  e fun t g=>?_;obtain⟨a,q⟩:=n.call g o;refine⟨_,rfl,?_⟩;refine zqU hp (fun h hp=>?_) fun h hp=>?_; rotate_left
 ·obtain rfl:=oi hp;exact hq _ a.ext'
 obtain⟨r,i,hp⟩:=zqq hp;refine zuA (x:=y) a.pre  i fun u j=>?_;obtain⟨d,s⟩:=a.call j o;refine⟨_,rfl,?_⟩;refine zqV hp (fun l hp=>?_) fun l hp=>?_
 ·obtain rfl:=oi hp;exact hq _ d.ext'
 obtain rfl:=oi hp;exact hq _ d.ext'
theorem zuC{l:List Int}{ca100:C}{m f:M}{Q:V->M->Prop}{rz:Bool}(hS:Pre f m)(ha100:Sl f ca100 l)(hp:zsy l=some rz)(hq:∀m',Ext m m'->Q (.c (.bool rz)) m'):Wc prog tbl 104 [.c ca100] m Q:=by
 have P:=hS.st;obtain⟨S,_⟩:=zr0;refine zuf ?_;unfold zsy at hp;refine⟨ha100.isSl,?_⟩;obtain⟨n,hp⟩:=zqr hp;refine⟨(by first|exact n|(rw[ha100.slLen];exact n)),?_⟩;intro T J
 try rw[ha100.slLen]
 have hgo:∀(d:Nat) (G:Bool) (r:Int) (s:M) (e:Nat->Nat),St (Fm.of m) f f s->zsx l d r=some rz->T [.c (.bool G),.c (Il r)] s:=by
  intro d
  induction d with
  | zero=>intro G r s e a hp; cases hp
  | succ d I=>
   intro G r s e a hp;refine J _ _ _ ?_;rw[zsx] at hp;refine ifd hp (fun t hp=>?_) fun t hp=>?_; rotate_left
   ·obtain rfl:=oi hp;exact hq _ a.ext'
   obtain⟨u,g,hp⟩:=zqq hp;obtain⟨Y,p,i,g⟩:=zqk g;refine⟨Y,p,(by first|exact i|(rw[ha100.slLen];exact i)),_,(ha100.rdI g a.sub),?_⟩;refine gdi hp fun w hp=>?_;obtain⟨z,h,hp⟩:=zqq hp;obtain⟨Z,q,j,h⟩:=zqk h;refine⟨Z,q,(by first|exact j|(rw[ha100.slLen];exact j)),_,(ha100.rdI h a.sub),?_⟩;obtain⟨N,A,hp⟩:=zqq hp;refine zuB (x:=u) (y:=z) a.pre  A fun m9 B=>?_;obtain⟨o,O⟩:=a.call B e;refine⟨_,rfl,?_⟩;refine zqU hp (fun D hp=>?_) fun D hp=>?_
   ·obtain rfl:=oi hp;exact hq _ o.ext'
   refine gdi hp fun F hp=>?_;exact I _ _ _ e o hp
 exact hgo _ _ _ _ S P hp
theorem zuD{x:Int}{passes:Int->Option (Bool)}{bq0:Nat}{cb000:C}{m f:M}{Q:V->M->Prop}{rz:Bool}(hS:Pre f m)(hb0:Bk f bq0 1 [cb000])(hb000:zuk f cb000 passes)(hp:zsz x passes=some rz)(hq:∀m',Ext m m'->Q (.c (.bool rz)) m'):Wc prog tbl 118 [.c (Il x),.c (.ptr bq0 0)] m Q:=by
 have g:=hS.st;obtain⟨j,_⟩:=zr0;refine ztY ?_;unfold zsz at hp;refine⟨_,(hb0.sub g.sub).rc rfl,?_⟩;obtain⟨h,a,hp⟩:=zqq hp;refine hb000 _ _ _ _ _ (Sub.refl _) g.pre  a fun l d=>?_;obtain⟨e,i⟩:=g.call d j;refine⟨_,rfl,?_⟩;obtain rfl:=oi hp;exact hq _ e.ext'
theorem zuE{l:List Int}{p:Int->Option (Bool)}{ca100 ca200:C}{m f:M}{Q:V->M->Prop}{rz:Int}(hS:Pre f m)(ha100:Sl f ca100 l)(ha200:zuk f ca200 p)(hp:zsB l p=some rz)(hq:∀m',Ext m m'->Q (.c (Il rz)) m'):Wc prog tbl 123 [.c ca100,.c ca200] m Q:=by
 have F:=hS.st;obtain⟨G,_⟩:=zr0;refine zui ?_;unfold zsB at hp;refine⟨ha100.isSl,?_⟩;intro I z
 have hgo:∀(d:Nat) (w:Int) (n:Int) (o:M) (e:Nat->Nat),St (Fm.of m) f f o->zsA l p d n=some rz->I [.c (Il w),.c (Il n)] o:=by
  intro d
  induction d with
  | zero=>intro w n o e a hp; cases hp
  | succ d y=>
   intro w n o e a hp;refine z _ _ _ ?_;rw[zsA] at hp
   try rw[ha100.slLen]
   refine ifd hp (fun q hp=>?_) fun q hp=>?_; rotate_left
   ·obtain rfl:=oi hp;exact hq _ a.ext'
   obtain⟨A,g,hp⟩:=zqq hp;obtain⟨J,j,h,g⟩:=zqk g;refine⟨J,j,(by first|exact h|(rw[ha100.slLen];exact h)),_,(ha100.rdI g a.sub),?_⟩;obtain⟨B,r,hp⟩:=zqq hp;refine ha200 _ _ _ _ _ (Sub.refl _) a.pre  r fun N s=>?_;obtain⟨i,D⟩:=a.call s e;refine⟨_,rfl,?_⟩;refine zqU hp (fun t hp=>?_) fun t hp=>?_
   ·obtain rfl:=oi hp;exact hq _ i.ext'
   refine gdi hp fun u hp=>?_;exact y _ _ _ e i hp
 exact hgo _ _ _ _ G F hp
theorem zuF{l:List Int}{p:Int->Option (Bool)}{ca100 ca200:C}{m f:M}{Q:V->M->Prop}{rz:Bool}(hS:Pre f m)(ha100:Sl f ca100 l)(ha200:zuk f ca200 p)(hp:zsC l p=some rz)(hq:∀m',Ext m m'->Q (.c (.bool rz)) m'):Wc prog tbl 117 [.c ca100,.c ca200] m Q:=by
 have g:=hS.st;obtain⟨j,_⟩:=zr0;refine zt4 ?_;unfold zsC at hp;obtain⟨h,a,hp⟩:=zqq hp;refine zuE (l:=l) (p:=p) g.pre ha100 ha200 a fun n d=>?_;obtain⟨e,i⟩:=g.call d j;refine⟨_,rfl,?_⟩;obtain rfl:=oi hp;exact hq _ e.ext'
theorem zuG{l:List Int}{passes:Int->Option (Bool)}{ca100 ca200:C}{m f:M}{Q:V->M->Prop}{rz:Bool}(hS:Pre f m)(ha100:Sl f ca100 l)(ha200:zuk f ca200 passes)(hp:zsD l passes=some rz)(hq:∀m',Ext m m'->Q (.c (.bool rz)) m'):Wc prog tbl 103 [.c ca100,.c ca200] m Q:=by
 have A:=hS.st;obtain⟨B,_⟩:=zr0;refine zua ?_;unfold zsD at hp;intro D i;obtain⟨j,n,w,o⟩:=A.blk i B 1;obtain⟨q,d,e,g⟩:=o.freeze n
 have h:zuk q ((C.fn (Fn.func 118) [] [(W.c (C0.ptr m.nxt 0))])) (fun a=>zsz a passes):=by
  intro f' m' a r Q hs hpre  hg hq;exact zuD hpre (g.sub hs) ((ha200.sub e.fs).sub hs) hg hq
 obtain⟨y,s,hp⟩:=zqq hp;refine zuF (l:=l) (p:=(fun a=>zsz a passes)) d.pre (ha100.sub e.fs) h s fun F t=>?_;obtain⟨u,z⟩:=d.call t j;refine⟨_,rfl,?_⟩;obtain rfl:=oi hp;exact hq _ u.ext'
theorem zuH{x:Yr}{passes:Yr->Option (Bool)}{bq0:Nat}{cb000:C}{m f:M}{Q:V->M->Prop}{rz:Bool}(hS:Pre f m)(hb0:Bk f bq0 1 [cb000])(hb000:zul f cb000 passes)(hp:zsE x passes=some rz)(hq:∀m',Ext m m'->Q (.c (.bool rz)) m'):Wc prog tbl 106 [.agg 6 [Il x.Losses.Lo,Il x.Losses.Hi,Il x.Premiums.Lo,Il x.Premiums.Hi,Il x.Parcels,.bool x.Exempt],.c (.ptr bq0 0)] m Q:=by
 have p:=hS.st;obtain⟨q,_⟩:=zr0;refine ztZ ?_;unfold zsE at hp;intro r d;obtain⟨e,a,l,g⟩:=p.blk d q 1;refine⟨_,(hb0.sub a.sub).rc rfl,_,_,_,_,_,_,g.bk.ra,?_⟩;obtain⟨n,h,hp⟩:=zqq hp;refine hb000 _ _ _ _ _ (Sub.refl _) a.pre  h fun s i=>?_;obtain⟨j,o⟩:=a.call i e;refine⟨_,rfl,?_⟩;obtain rfl:=oi hp;exact hq _ j.ext'
theorem zuI{l:List Yr}{p:Yr->Option (Bool)}{ca100 ca200:C}{m f:M}{Q:V->M->Prop}{rz:Int}(hS:Pre f m)(ha100:Sl f ca100 l)(ha200:zul f ca200 p)(hp:zsG l p=some rz)(hq:∀m',Ext m m'->Q (.c (Il rz)) m'):Wc prog tbl 120 [.c ca100,.c ca200] m Q:=by
 have G:=hS.st;obtain⟨I,_⟩:=zr0;refine zud ?_;unfold zsG at hp;refine⟨ha100.isSl,?_⟩;intro J A
 have hgo:∀(d:Nat) (y:Int) (n:Int) (o:M) (e:Nat->Nat),St (Fm.of m) f f o->zsF l p d n=some rz->J [.c (Il y),.c (Il n)] o:=by
  intro d
  induction d with
  | zero=>intro y n o e a hp; cases hp
  | succ d z=>
   intro y n o e a hp;refine A _ _ _ ?_;rw[zsF] at hp
   try rw[ha100.slLen]
   refine ifd hp (fun q hp=>?_) fun q hp=>?_; rotate_left
   ·obtain rfl:=oi hp;exact hq _ a.ext'
   obtain⟨B,g,hp⟩:=zqq hp;obtain⟨N,j,h,g⟩:=zqk g;obtain⟨_,r⟩:=zr5 ha100 g;refine⟨N,j,(by first|exact h|(rw[ha100.slLen];exact h)),_,_,_,_,_,_,(r _ a.sub).1,?_⟩;obtain⟨D,s,hp⟩:=zqq hp;refine ha200 _ _ _ _ _ (Sub.refl _) a.pre  s fun O t=>?_;obtain⟨i,F⟩:=a.call t e;refine⟨_,rfl,?_⟩;refine zqU hp (fun u hp=>?_) fun u hp=>?_
   ·obtain rfl:=oi hp;exact hq _ i.ext'
   refine gdi hp fun w hp=>?_;exact z _ _ _ e i hp
 exact hgo _ _ _ _ I G hp
theorem zuJ{l:List Yr}{p:Yr->Option (Bool)}{ca100 ca200:C}{m f:M}{Q:V->M->Prop}{rz:Bool}(hS:Pre f m)(ha100:Sl f ca100 l)(ha200:zul f ca200 p)(hp:zsH l p=some rz)(hq:∀m',Ext m m'->Q (.c (.bool rz)) m'):Wc prog tbl 105 [.c ca100,.c ca200] m Q:=by
 have g:=hS.st;obtain⟨j,_⟩:=zr0;refine zt2 ?_;unfold zsH at hp;obtain⟨h,a,hp⟩:=zqq hp;refine zuI (l:=l) (p:=p) g.pre ha100 ha200 a fun n d=>?_;obtain⟨e,i⟩:=g.call d j;refine⟨_,rfl,?_⟩;obtain rfl:=oi hp;exact hq _ e.ext'
theorem zuK{l:List Yr}{passes:Yr->Option (Bool)}{ca100 ca200:C}{m f:M}{Q:V->M->Prop}{rz:Bool}(hS:Pre f m)(ha100:Sl f ca100 l)(ha200:zul f ca200 passes)(hp:zsI l passes=some rz)(hq:∀m',Ext m m'->Q (.c (.bool rz)) m'):Wc prog tbl 85 [.c ca100,.c ca200] m Q:=by
 have A:=hS.st;obtain⟨B,_⟩:=zr0;refine w85 ?_;unfold zsI at hp;intro D i;obtain⟨j,n,w,o⟩:=A.blk i B 1;obtain⟨q,d,e,g⟩:=o.freeze n
 have h:zul q ((C.fn (Fn.func 106) [] [(W.c (C0.ptr m.nxt 0))])) (fun a=>zsE a passes):=by
  intro f' m' a r Q hs hpre  hg hq;exact zuH hpre (g.sub hs) ((ha200.sub e.fs).sub hs) hg hq
 obtain⟨y,s,hp⟩:=zqq hp;refine zuJ (l:=l) (p:=(fun a=>zsE a passes)) d.pre (ha100.sub e.fs) h s fun F t=>?_;obtain⟨u,z⟩:=d.call t j;refine⟨_,rfl,?_⟩;obtain rfl:=oi hp;exact hq _ u.ext'
theorem zuL{l:Lm}{r:Rg}{m f:M}{Q:V->M->Prop}{rz:Bool}(hS:Pre f m)(hp:zsJ l r=some rz)(hq:∀m',Ext m m'->Q (.c (.bool rz)) m'):Wc prog tbl 107 [.agg 6 [Il l.pence.Lo,Il l.pence.Hi,Il l.wide.Lo,Il l.wide.Hi,Il l.parcels.Lo,Il l.parcels.Hi],.agg 2 [Il r.Lo,Il r.Hi]] m Q:=by
 have S:=hS.st;obtain⟨T,_⟩:=zr0;refine zt7 ?_;unfold zsJ at hp;intro Z p;obtain⟨q,s,J,t⟩:=S.blk p T 1;intro m1 u;obtain⟨d,e,w,g⟩:=s.blk u q 2;have h:=t.k w;refine⟨trivial,_,_,h.bk.rp (k:=0) (j:=2) rfl (by omega),_,_,g.bk.ra,?_⟩;obtain⟨N,y,hp⟩:=zqq hp;refine zuw (r:=l.pence) (other:=r) e.pre  y fun m7 z=>?_;obtain⟨a,i⟩:=e.call z d;have A:=h.k i;have o:=g.k i;refine⟨_,rfl,?_⟩;refine zqU hp (fun B hp=>?_) fun B hp=>?_; rotate_left
 ·obtain rfl:=oi hp;exact hq _ a.ext'
 refine⟨trivial,_,_,A.bk.rp (k:=2) (j:=2) rfl (by omega),trivial,_,o.bk.rc rfl,trivial,_,o.bk.rc rfl,?_⟩;refine gdi hp fun D hp=>?_;obtain⟨O,F,hp⟩:=zqq hp;refine zuv (r:=l.wide) (n:=(r.Hi - r.Lo)) a.pre  F fun Y G=>?_;obtain⟨I,P⟩:=a.call G d;refine⟨_,rfl,?_⟩;obtain rfl:=oi hp;exact hq _ I.ext'
theorem zuM{l:Lm}{y:Yr}{m f:M}{Q:V->M->Prop}{rz:Bool}(hS:Pre f m)(hp:zsK l y=some rz)(hq:∀m',Ext m m'->Q (.c (.bool rz)) m'):Wc prog tbl 86 [.agg 6 [Il l.pence.Lo,Il l.pence.Hi,Il l.wide.Lo,Il l.wide.Hi,Il l.parcels.Lo,Il l.parcels.Hi],.agg 6 [Il y.Losses.Lo,Il y.Losses.Hi,Il y.Premiums.Lo,Il y.Premiums.Hi,Il y.Parcels,.bool y.Exempt]] m Q:=by
 have S0:=hS.st;obtain⟨τ0,_⟩:=zr0;refine w86 ?_;unfold zsK at hp;intro m0 t;obtain⟨u,w,Z,z⟩:=S0.blk t τ0 1;intro m1 A;obtain⟨a,g,B,h⟩:=w.blk A u 2;have i:=z.k B;refine⟨_,_,_,_,_,_,i.bk.ra,trivial,_,_,h.bk.rp (k:=0) (j:=2) rfl (by omega),?_⟩;obtain⟨aa,D,hp⟩:=zqq hp;refine zuL (l:=l) (r:=y.Losses) g.pre  D fun ga F=>?_;obtain⟨d,o⟩:=g.call F a;have p:=i.k o;have q:=h.k o;refine⟨_,rfl,?_⟩;refine zqU hp (fun G hp=>?_) fun G hp=>?_; rotate_left
 ·obtain rfl:=oi hp;exact hq _ d.ext'
 refine⟨_,_,_,_,_,_,p.bk.ra,trivial,_,_,q.bk.rp (k:=2) (j:=2) rfl (by omega),?_⟩;obtain⟨ba,I,hp⟩:=zqq hp;refine zuL (l:=l) (r:=y.Premiums) d.pre  I fun ha J=>?_;obtain⟨e,s⟩:=d.call J a;have N:=p.k s;have O:=q.k s;refine⟨_,rfl,?_⟩;refine zqU hp (fun P hp=>?_) fun P hp=>?_; rotate_left
 ·obtain rfl:=oi hp;exact hq _ e.ext'
 refine⟨trivial,_,_,N.bk.rp (k:=4) (j:=2) rfl (by omega),trivial,_,O.bk.rc rfl,?_⟩;obtain⟨ca,S,hp⟩:=zqq hp;refine zuv (r:=l.parcels) (n:=y.Parcels) e.pre  S fun ia T=>?_;obtain⟨Y,da⟩:=e.call T a;refine⟨_,rfl,?_⟩;obtain rfl:=oi hp;exact hq _ Y.ext'
theorem zuN{r:Rl}{ca105:C}{m f:M}{Q:V->M->Prop}{rz:Bool}(hS:Pre f m)(ha105:Sl f ca105 r.Price)(hp:zsL r=some rz)(hq:∀m',Ext m m'->Q (.c (.bool rz)) m'):Wc prog tbl 84 [.agg 6 [Il r.Classes,Il r.Good,Il r.Bad,Il r.Rest,Il r.Fewest,ca105]] m Q:=by
 have S0:=hS.st;obtain⟨τ0,_⟩:=zr0;refine w84 ?_;unfold zsL at hp;intro m0 j;obtain⟨n,o,T,p⟩:=S0.blk j τ0 1;intro m1 q;obtain⟨h,s,t,u⟩:=o.blk q n 2;have w:=p.k t;obtain⟨y,z,e,A,B⟩:=u.sto s [(Il (1:Int)),(Il (10000:Int))];have a:=w.k A;refine⟨y,z,?_⟩;refine⟨trivial,_,a.bk.rc rfl,ha105.isSl,trivial,_,a.bk.rc rfl,?_⟩
 try rw[ha105.slLen]
 refine ifd hp (fun D hp=>?_) fun D hp=>?_; rotate_left
 ·obtain rfl:=oi hp;exact hq _ e.ext'
 refine⟨trivial,_,a.bk.rc rfl,_,_,B.bk.ra,?_⟩
 have i:zuk f ((C.fn (Fn.func 78) [(W.agg 2 [(C0.int IntKind.i64 (1:Int)),(C0.int IntKind.i64 (10000:Int))])] [])) (fun d=>zso ({ Lo:=(1:Int),Hi:=(10000:Int) }:Rg) d):=by
  intro f' m' d r Q hs hpre  hg hq;exact zuv hpre  hg hq
 obtain⟨Y,F,hp⟩:=zqq hp;refine zuG (l:=r.Price) (passes:=(fun d=>zso ({ Lo:=(1:Int),Hi:=(10000:Int) }:Rg) d)) e.pre ha105 i F fun m9 G=>?_;obtain⟨g,I⟩:=e.call G h;have J:=a.k I;refine⟨_,rfl,?_⟩;refine zqU hp (fun N hp=>?_) fun N hp=>?_; rotate_left
 ·obtain rfl:=oi hp;exact hq _ g.ext'
 refine⟨trivial,_,J.bk.rc rfl,?_⟩;obtain⟨Z,O,hp⟩:=zqq hp;refine zuC (l:=r.Price) g.pre ha105 O fun da P=>?_;obtain⟨S,aa⟩:=g.call P h;refine⟨_,rfl,?_⟩;obtain rfl:=oi hp;exact hq _ S.ext'
theorem zuO{r:Rl}{ca105:C}{m f:M}{Q:V->M->Prop}{rz:Bool}(hS:Pre f m)(ha105:Sl f ca105 r.Price)(hp:zsM r=some rz)(hq:∀m',Ext m m'->Q (.c (.bool rz)) m'):Wc prog tbl 57 [.agg 6 [Il r.Classes,Il r.Good,Il r.Bad,Il r.Rest,Il r.Fewest,ca105]] m Q:=by
 have S0:=hS.st;obtain⟨τ0,_⟩:=zr0;refine w57 ?_;unfold zsM at hp;intro m0 w;obtain⟨a,e,na,d⟩:=S0.blk w τ0 1;refine⟨trivial,_,d.bk.rc rfl,?_⟩;refine ifd hp (fun y hp=>?_) fun y hp=>?_; rotate_left
 ·obtain rfl:=oi hp;exact hq _ e.ext'
 obtain⟨z,A,hp⟩:=zqq hp;refine zux (last:=(300:Int)) e.pre  A fun m3 B=>?_;obtain⟨l,D⟩:=e.call B a;have g:=d.k D;refine⟨_,_,rfl,trivial,_,g.bk.rc rfl,(d.bk.rc rfl),trivial,_,g.bk.rc rfl,(d.bk.rc rfl),?_⟩;obtain⟨oa,F,hp⟩:=zqq hp;refine zuw (r:=z) (other:=({ Lo:=r.Good,Hi:=r.Bad }:Rg)) l.pre  F fun m9 G=>?_;obtain⟨h,I⟩:=l.call G a;have o:=g.k I;refine⟨_,rfl,?_⟩;refine zqU hp (fun J hp=>?_) fun J hp=>?_; rotate_left
 ·obtain rfl:=oi hp;exact hq _ h.ext'
 obtain⟨N,O,hp⟩:=zqq hp;refine zux (last:=(4:Int)) h.pre  O fun wa P=>?_;obtain⟨p,S⟩:=h.call P a;have q:=o.k S;refine⟨_,_,rfl,trivial,_,q.bk.rc rfl,(o.bk.rc rfl),?_⟩;obtain⟨pa,T,hp⟩:=zqq hp;refine zuv (r:=N) (n:=r.Rest) p.pre  T fun xa Y=>?_;obtain⟨i,Z⟩:=p.call Y a;have s:=q.k Z;refine⟨_,rfl,?_⟩;refine zqU hp (fun aa hp=>?_) fun aa hp=>?_; rotate_left
 ·obtain rfl:=oi hp;exact hq _ i.ext'
 obtain⟨ba,ca,hp⟩:=zqq hp;refine zux (last:=(100:Int)) i.pre  ca fun ya da=>?_;obtain⟨t,ea⟩:=i.call da a;have u:=s.k ea;refine⟨_,_,rfl,trivial,_,u.bk.rc rfl,(s.bk.rc rfl),?_⟩;obtain⟨qa,fa,hp⟩:=zqq hp;refine zuv (r:=ba) (n:=r.Fewest) t.pre  fa fun za ga=>?_;obtain⟨j,ha⟩:=t.call ga a;have ia:=u.k ha;refine⟨_,rfl,?_⟩;refine zqU hp (fun ja hp=>?_) fun ja hp=>?_; rotate_left
 ·obtain rfl:=oi hp;exact hq _ j.ext'
 refine⟨_,_,_,_,_,_,ia.bk.ra,?_⟩;obtain⟨sa,ka,hp⟩:=zqq hp;refine zuN (r:=r) j.pre ha105 ka fun Aa la=>?_;obtain⟨ma,ta⟩:=j.call la a;refine⟨_,rfl,?_⟩;obtain rfl:=oi hp;exact hq _ ma.ext'
theorem zuP{r:Rl}{class_:Int}{ca105:C}{m f:M}{Q:V->M->Prop}{rz:Bool}(hS:Pre f m)(_ha105:Sl f ca105 r.Price)(hp:zsN r class_=some rz)(hq:∀m',Ext m m'->Q (.c (.bool rz)) m'):Wc prog tbl 72 [.agg 6 [Il r.Classes,Il r.Good,Il r.Bad,Il r.Rest,Il r.Fewest,ca105],.c (Il class_)] m Q:=by
 have z:=hS.st;obtain⟨A,_⟩:=zr0;refine w72 ?_;unfold zsN at hp;intro B g;obtain⟨a,d,t,h⟩:=z.blk g A 1;refine⟨trivial,_,h.bk.rc rfl,?_⟩;refine gdi hp fun i hp=>?_;obtain⟨j,l,hp⟩:=zqq hp;refine zux (last:=(r.Classes - (1:Int))) d.pre  l fun D o=>?_;obtain⟨e,u⟩:=d.call o a;refine⟨_,_,rfl,?_⟩;obtain⟨w,p,hp⟩:=zqq hp;refine zuv (r:=j) (n:=class_) e.pre  p fun F q=>?_;obtain⟨s,y⟩:=e.call q a;refine⟨_,rfl,?_⟩;obtain rfl:=oi hp;exact hq _ s.ext'
theorem zuQ{r:Rl}{z:Zn}{ca105 ca201:C}{m f:M}{Q:V->M->Prop}{rz:Bool}(hS:Pre f m)(ha105:Sl f ca105 r.Price)(ha201:Sl f ca201 z.Years)(hp:zsO r z=some rz)(hq:∀m',Ext m m'->Q (.c (.bool rz)) m'):Wc prog tbl 58 [.agg 6 [Il r.Classes,Il r.Good,Il r.Bad,Il r.Rest,Il r.Fewest,ca105],.agg 2 [Il z.First,ca201]] m Q:=by
 have S0:=hS.st;obtain⟨τ0,_⟩:=zr0;refine w58 ?_;unfold zsO at hp;intro m0 F;obtain⟨G,I,Ca,J⟩:=S0.blk F τ0 1;intro m1 N;obtain⟨g,j,O,P⟩:=I.blk N G 2;have S:=J.k O;obtain⟨a,T,hp⟩:=zqq hp;refine zux (last:=(10000:Int)) j.pre  T fun m3 Y=>?_;obtain⟨n,o⟩:=j.call Y g;have Z:=S.k o;have aa:=P.k o;refine⟨_,_,rfl,?_⟩;obtain⟨d,ba,hp⟩:=zqq hp;refine zux (last:=(5:Int)) n.pre  ba fun m7 ca=>?_;obtain⟨p,q⟩:=n.call ca g;have da:=Z.k q;have ea:=aa.k q;refine⟨_,_,rfl,?_⟩;obtain⟨e,fa,hp⟩:=zqq hp;refine zux (last:=(100:Int)) p.pre  fa fun Ia ga=>?_;obtain⟨ha,s⟩:=p.call ga g;have ia:=da.k s;have ja:=ea.k s;refine⟨_,_,rfl,?_⟩;intro Ja ka;obtain⟨t,la,u,ma⟩:=ha.blk ka g 3;have na:=ia.k u;have oa:=ja.k u;obtain⟨pa,qa,w,y,sa⟩:=ma.sto la [Il a.Lo,Il a.Hi,Il d.Lo,Il d.Hi,Il e.Lo,Il e.Hi];have ta:=na.k y;have A:=oa.k y;refine⟨pa,qa,?_⟩;refine⟨_,_,_,_,_,_,ta.bk.ra,trivial,_,A.bk.rc rfl,?_⟩;obtain⟨Da,ua,hp⟩:=zqq hp;refine zuP (r:=r) (class_:=z.First) w.pre ha105 ua fun Ka va=>?_;obtain⟨i,B⟩:=w.call va t;have wa:=A.k B;have xa:=sa.k B;refine⟨_,rfl,?_⟩;refine zqU hp (fun ya hp=>?_) fun ya hp=>?_; rotate_left
 ·obtain rfl:=oi hp;exact hq _ i.ext'
 refine⟨trivial,_,wa.bk.rc rfl,_,_,_,_,_,_,xa.bk.ra,?_⟩
 have D:zul f ((C.fn (Fn.func 86) [(W.agg 6 [(C0.int IntKind.i64 a.Lo),(C0.int IntKind.i64 a.Hi),(C0.int IntKind.i64 d.Lo),(C0.int IntKind.i64 d.Hi),(C0.int IntKind.i64 e.Lo),(C0.int IntKind.i64 e.Hi)])] [])) (fun h=>zsK ({ pence:=a,wide:=d,parcels:=e }:Lm) h):=by
  intro f' m' h r Q hs hpre  hg hq;exact zuM hpre  hg hq
 obtain⟨Ea,za,hp⟩:=zqq hp;refine zuK (l:=z.Years) (passes:=(fun h=>zsK ({ pence:=a,wide:=d,parcels:=e }:Lm) h)) i.pre ha201 D za fun La Aa=>?_;obtain⟨Ba,Fa⟩:=i.call Aa t;refine⟨_,rfl,?_⟩;obtain rfl:=oi hp;exact hq _ Ba.ext'
theorem zuR{z:Zn}{year:Int}{ca101:C}{m f:M}{Q:V->M->Prop}{rz:Bool}(hS:Pre f m)(ha101:Sl f ca101 z.Years)(hp:zsP z year=some rz)(hq:∀m',Ext m m'->Q (.c (.bool rz)) m'):Wc prog tbl 88 [.agg 2 [Il z.First,ca101],.c (Il year)] m Q:=by
 have A:=hS.st;obtain⟨B,_⟩:=zr0;refine w88 ?_;unfold zsP at hp;intro D h;obtain⟨a,d,t,i⟩:=A.blk h B 1;refine⟨trivial,_,i.bk.rc rfl,ha101.isSl,?_⟩;obtain⟨e,hp⟩:=zqr hp;refine⟨(by first|exact e|(rw[ha101.slLen];exact e)),?_⟩
 try rw[ha101.slLen]
 obtain⟨j,l,hp⟩:=zqq hp;refine zux (last:=((z.Years.length:Int) - (1:Int))) d.pre  l fun F o=>?_;obtain⟨g,u⟩:=d.call o a;refine⟨_,_,rfl,?_⟩;obtain⟨w,p,hp⟩:=zqq hp;refine zuv (r:=j) (n:=year) g.pre  p fun G q=>?_;obtain⟨s,y⟩:=g.call q a;refine⟨_,rfl,?_⟩;obtain rfl:=oi hp;exact hq _ s.ext'
theorem zuS{z:Zn}{t:Tr}{ca101 ca200 ca201:C}{m f:M}{Q:V->M->Prop}{rz:Bool}(hS:Pre f m)(ha101:Sl f ca101 z.Years)(ha200:Sl f ca200 t.Losses)(ha201:Sl f ca201 t.Premiums)(hp:zsR z t=some rz)(hq:∀m',Ext m m'->Q (.c (.bool rz)) m'):Wc prog tbl 54 [.agg 2 [Il z.First,ca101],.agg 2 [ca200,ca201]] m Q:=by
 have S0:=hS.st;obtain⟨τ0,_⟩:=zr0;refine w54 ?_;unfold zsR at hp;intro m0 aa;obtain⟨ba,ca,Oa,da⟩:=S0.blk aa τ0 1;intro m1 ea;obtain⟨fa,p,ga,e⟩:=ca.blk ea ba 2;have d:=da.k ga;refine⟨trivial,_,e.bk.rc rfl,ha200.isSl,trivial,_,d.bk.rc rfl,ha101.isSl,?_⟩
 try rw[ha200.slLen]
 try rw[ha101.slLen]
 refine zqT hp (fun ha hp=>?_) fun ha hp=>?_
 ·obtain rfl:=oi hp;exact hq _ p.ext'
 refine⟨trivial,_,e.bk.rc rfl,ha201.isSl,trivial,_,d.bk.rc rfl,ha101.isSl,?_⟩
 try rw[ha201.slLen]
 try rw[ha101.slLen]
 refine zqT hp (fun ia hp=>?_) fun ia hp=>?_
 ·obtain rfl:=oi hp;exact hq _ p.ext'
 refine⟨trivial,_,d.bk.rc rfl,ha101.isSl,?_⟩;intro R7 Ka
 have hgo:∀(h:Nat) (b8:Bool) (x9:Int) (o:M) (g:Nat->Nat),St (Fm.of m) f f o->Lb (Fm.of m) f g o 1 m.nxt 2 [Il z.First,ca101]->Lb (Fm.of m) f g o 2 m0.nxt 2 [ca200,ca201]->zsQ z t h x9=some rz->R7 [.c (.bool b8),.c (Il x9)] o:=by
  intro h
  induction h with
  | zero=>intro b8 x9 o g i d e hp; cases hp
  | succ h Ja=>
   intro b8 x9 o g i d e hp;refine Ka _ _ _ ?_;rw[zsQ] at hp
   try rw[ha101.slLen]
   refine ifd hp (fun ka hp=>?_) fun ka hp=>?_; rotate_left
   ·obtain rfl:=oi hp;exact hq _ i.ext'
   obtain⟨a,q,hp⟩:=zqq hp;obtain⟨La,T,B,q⟩:=zqk q;obtain⟨_,la⟩:=zr5 ha101 q;refine⟨La,T,(by first|exact B|(rw[ha101.slLen];exact B)),_,_,_,_,_,_,(la _ i.sub).1,?_⟩;intro Va ma;obtain⟨s,na,G,oa⟩:=i.blk ma g 3;have pa:=d.k G;have qa:=e.k G;obtain⟨sa,ta,u,I,J⟩:=oa.sto na [Il a.Losses.Lo,Il a.Losses.Hi,Il a.Premiums.Lo,Il a.Premiums.Hi,Il a.Parcels,.bool a.Exempt];have ua:=pa.k I;have N:=qa.k I;refine⟨sa,ta,?_⟩;refine⟨trivial,_,_,J.bk.rp (k:=0) (j:=2) rfl (by omega),trivial,_,N.bk.rc rfl,?_⟩;obtain⟨va,w,hp⟩:=zqq hp;obtain⟨Ma,Y,D,w⟩:=zqk w;refine⟨Ma,Y,(by first|exact D|(rw[ha200.slLen];exact D)),_,(ha200.rdI w u.sub),?_⟩;obtain⟨Pa,wa,hp⟩:=zqq hp;refine zuv (r:=a.Losses) (n:=va) u.pre  wa fun Wa xa=>?_;obtain⟨l,y⟩:=u.call xa s;have ya:=ua.k y;have O:=N.k y;have za:=J.k y;refine⟨_,rfl,?_⟩;refine zqV hp (fun Aa hp=>?_) fun Aa hp=>?_
   ·obtain rfl:=oi hp;exact hq _ l.ext'
   refine⟨trivial,_,_,za.bk.rp (k:=2) (j:=2) rfl (by omega),trivial,_,O.bk.rc rfl,?_⟩;obtain⟨Ba,A,hp⟩:=zqq hp;obtain⟨Na,Z,F,A⟩:=zqk A;refine⟨Na,Z,(by first|exact F|(rw[ha201.slLen];exact F)),_,(ha201.rdI A l.sub),?_⟩;obtain⟨Qa,Ca,hp⟩:=zqq hp;refine zuv (r:=a.Premiums) (n:=Ba) l.pre  Ca fun Xa Da=>?_;obtain⟨P,S⟩:=l.call Da s;have Ea:=ya.k S;have Fa:=O.k S;refine⟨_,rfl,?_⟩;refine zqV hp (fun Ga hp=>?_) fun Ga hp=>?_
   ·obtain rfl:=oi hp;exact hq _ P.ext'
   refine gdi hp fun Ha hp=>?_;exact Ja _ _ _ s P Ea Fa hp
 exact hgo _ _ _ _ fa p d e hp
theorem zuT{r:Rl}{z:Zn}{ca105 ca201:C}{m f:M}{Q:V->M->Prop}{rz:Int}(hS:Pre f m)(ha105:Sl f ca105 r.Price)(ha201:Sl f ca201 z.Years)(hp:zsS r z=some rz)(hq:∀m',Ext m m'->Q (.c (Il rz)) m'):Wc prog tbl 25 [.agg 6 [Il r.Classes,Il r.Good,Il r.Bad,Il r.Rest,Il r.Fewest,ca105],.agg 2 [Il z.First,ca201]] m Q:=by
 have S:=hS.st;obtain⟨T,_⟩:=zr0;refine w25 ?_;unfold zsS at hp;intro m0 l;obtain⟨n,o,J,p⟩:=S.blk l T 1;intro m1 q;obtain⟨g,a,s,h⟩:=o.blk q n 2;have d:=p.k s;refine⟨trivial,_,d.bk.rc rfl,?_⟩;refine ifd hp (fun t hp=>?_) fun t hp=>?_
 ·obtain rfl:=oi hp;exact hq _ a.ext'
 refine⟨trivial,_,h.bk.rc rfl,ha201.isSl,?_⟩
 try rw[ha201.slLen]
 refine ifd hp (fun u hp=>?_) fun u hp=>?_
 ·obtain rfl:=oi hp;exact hq _ a.ext'
 refine⟨_,_,_,_,_,_,d.bk.ra,?_⟩;obtain⟨N,w,hp⟩:=zqq hp;refine zuO (r:=r) a.pre ha105 w fun Y y=>?_;obtain⟨e,i⟩:=a.call y g;have A:=d.k i;have B:=h.k i;refine⟨_,rfl,?_⟩;refine zqV hp (fun D hp=>?_) fun D hp=>?_
 ·obtain rfl:=oi hp;exact hq _ e.ext'
 refine⟨_,_,_,_,_,_,A.bk.ra,_,_,B.bk.ra,?_⟩;obtain⟨O,F,hp⟩:=zqq hp;refine zuQ (r:=r) (z:=z) e.pre ha105 ha201 F fun Z G=>?_;obtain⟨j,P⟩:=e.call G g;refine⟨_,rfl,?_⟩;refine zqV hp (fun I hp=>?_) fun I hp=>?_
 ·obtain rfl:=oi hp;exact hq _ j.ext'
 obtain rfl:=oi hp;exact hq _ j.ext'
theorem zuU{r:Rl}{from_:Stt}{ca105:C}{m f:M}{Q:V->M->Prop}{rz:Stt}(hS:Pre f m)(_ha105:Sl f ca105 r.Price)(hp:zsT r from_=some rz)(hq:∀m',Ext m m'->Q (.agg 2 [Il rz.cls,Il rz.since]) m'):Wc prog tbl 97 [.agg 6 [Il r.Classes,Il r.Good,Il r.Bad,Il r.Rest,Il r.Fewest,ca105],.agg 2 [Il from_.cls,Il from_.since]] m Q:=by
 have D:=hS.st;obtain⟨F,_⟩:=zr0;refine w97 ?_;unfold zsT at hp;intro G a;obtain⟨c,d,w,y⟩:=D.blk a F 1;intro I e;obtain⟨g,h,z,i⟩:=d.blk e c 2;intro J j;obtain⟨A,l,n,o⟩:=h.blk j g 3;have p:=i.k n;refine⟨_,_,p.bk.ra,?_⟩;obtain⟨q,s,t,B,u⟩:=o.sto l [Il from_.cls,Il from_.since];refine⟨q,s,?_⟩;refine⟨_,_,u.bk.ra,?_⟩;obtain rfl:=oi hp;exact hq _ t.ext'
theorem zuV{r:Rl}{from_:Stt}{ca105:C}{m f:M}{Q:V->M->Prop}{rz:Stt}(hS:Pre f m)(_ha105:Sl f ca105 r.Price)(hp:zsU r from_=some rz)(hq:∀m',Ext m m'->Q (.agg 2 [Il rz.cls,Il rz.since]) m'):Wc prog tbl 100 [.agg 6 [Il r.Classes,Il r.Good,Il r.Bad,Il r.Rest,Il r.Fewest,ca105],.agg 2 [Il from_.cls,Il from_.since]] m Q:=by
 have I:=hS.st;obtain⟨J,_⟩:=zr0;refine zue ?_;unfold zsU at hp;intro N d;obtain⟨e,g,D,h⟩:=I.blk d J 1;intro O i;obtain⟨j,l,n,o⟩:=g.blk i e 2;have p:=h.k n;intro P q;obtain⟨F,s,a,t⟩:=l.blk q j 3;have u:=p.k a;have c:=o.k a;refine⟨trivial,_,c.bk.rc rfl,trivial,_,c.bk.rc rfl,?_⟩;obtain⟨w,hp⟩:=zqr hp;refine⟨w,trivial,_,u.bk.rc rfl,?_⟩;obtain⟨y,z,A,G,B⟩:=t.sto s [Il from_.cls,(Il (min (from_.since+(1:Int)) r.Rest))];refine⟨y,z,?_⟩;refine⟨_,_,B.bk.ra,?_⟩;obtain rfl:=oi hp;exact hq _ A.ext'
theorem zuW{r:Rl}{from_:Stt}{ca105:C}{m f:M}{Q:V->M->Prop}{rz:Stt}(hS:Pre f m)(ha105:Sl f ca105 r.Price)(hp:zsV r from_=some rz)(hq:∀m',Ext m m'->Q (.agg 2 [Il rz.cls,Il rz.since]) m'):Wc prog tbl 98 [.agg 6 [Il r.Classes,Il r.Good,Il r.Bad,Il r.Rest,Il r.Fewest,ca105],.agg 2 [Il from_.cls,Il from_.since]] m Q:=by
 have S0:=hS.st;obtain⟨τ0,_⟩:=zr0;refine w98 ?_;unfold zsV at hp;intro m0 t;obtain⟨u,w,ya,y⟩:=S0.blk t τ0 1;intro m1 z;obtain⟨A,B,D,F⟩:=w.blk z u 2;have G:=y.k D;intro m2 I;obtain⟨h,i,j,J⟩:=B.blk I A 3;have l:=G.k j;have n:=F.k j;refine⟨_,_,_,_,_,_,l.bk.ra,_,_,n.bk.ra,?_⟩;obtain⟨a,N,hp⟩:=zqq hp;refine zuV (r:=r) (from_:=from_) i.pre ha105 N fun Ea O=>?_;obtain⟨P,c⟩:=i.call O h;have S:=l.k c;have T:=n.k c;have Y:=J.k c;refine⟨_,_,rfl,?_⟩;intro Fa Z;obtain⟨za,aa,d,ba⟩:=P.blk Z h 4;have ca:=S.k d;have da:=T.k d;have ea:=Y.k d;obtain⟨fa,ga,o,e,p⟩:=ba.sto aa [Il a.cls,Il a.since];have ha:=ca.k e;have q:=da.k e;have s:=ea.k e;refine⟨fa,ga,?_⟩;refine⟨trivial,_,q.bk.rc rfl,trivial,_,ha.bk.rc rfl,?_⟩;refine ifd hp (fun ia hp=>?_) fun ia hp=>?_; rotate_left
 ·refine⟨_,_,p.bk.ra,?_⟩;obtain⟨ja,ka,la,Aa,ma⟩:=s.sto o [Il a.cls,Il a.since];refine⟨ja,ka,?_⟩;refine⟨_,_,ma.bk.ra,?_⟩;obtain rfl:=oi hp;exact hq _ la.ext'
 refine⟨trivial,_,q.bk.rc rfl,?_⟩;obtain⟨na,hp⟩:=zqr hp;refine⟨na,trivial,?_⟩;obtain⟨oa,pa,qa,sa,g⟩:=p.sto1 o 0 (Il (max (0:Int) (from_.cls - (1:Int)))) (by simp) rfl
 replace g:Lb _ _ _ _ _ _ _ [(Il (max (0:Int) (from_.cls - (1:Int)))),Il a.since]:=g
 have ta:=s.k sa;refine⟨oa,pa,?_⟩;refine⟨_,_,g.bk.ra,?_⟩;obtain⟨ua,va,wa,Ba,xa⟩:=ta.sto qa [(Il (max (0:Int) (from_.cls - (1:Int)))),Il a.since];refine⟨ua,va,?_⟩;refine⟨_,_,xa.bk.ra,?_⟩;obtain rfl:=oi hp;exact hq _ wa.ext'
theorem zuX{r:Rl}{from_:Stt}{ca105:C}{m f:M}{Q:V->M->Prop}{rz:Stt}(hS:Pre f m)(_ha105:Sl f ca105 r.Price)(hp:zsW r from_=some rz)(hq:∀m',Ext m m'->Q (.agg 2 [Il rz.cls,Il rz.since]) m'):Wc prog tbl 99 [.agg 6 [Il r.Classes,Il r.Good,Il r.Bad,Il r.Rest,Il r.Fewest,ca105],.agg 2 [Il from_.cls,Il from_.since]] m Q:=by
 have J:=hS.st;obtain⟨N,_⟩:=zr0;refine w99 ?_;unfold zsW at hp;intro O c;obtain⟨d,e,F,g⟩:=J.blk c N 1;intro P h;obtain⟨i,j,l,n⟩:=e.blk h d 2;have o:=g.k l;intro S p;obtain⟨G,q,a,s⟩:=j.blk p i 3;have t:=o.k a;have u:=n.k a;refine⟨trivial,_,u.bk.rc rfl,?_⟩;obtain⟨w,hp⟩:=zqr hp;refine⟨w,trivial,_,t.bk.rc rfl,?_⟩;refine gdi hp fun y hp=>?_;obtain⟨z,A,B,I,D⟩:=s.sto q [(Il (min (from_.cls+(1:Int)) (r.Classes - (1:Int)))),Il 0];refine⟨z,A,?_⟩;refine⟨_,_,D.bk.ra,?_⟩;obtain rfl:=oi hp;exact hq _ B.ext'
theorem zuY{m f:M}{Q:V->M->Prop}{rz:K4}(hS:Pre f m)(hp:zsX=some rz)(hq:∀m' f' c0 c1 c2 c3,Grw m f m' f'->zuj f' c0 rz.k0.lead->zuj f' c1 rz.k1.lead->zuj f' c2 rz.k2.lead->zuj f' c3 rz.k3.lead->Q (.agg 4 [c0,c1,c2,c3]) m'):Wc prog tbl 76 [] m Q:=by
 have T:=hS.st;obtain⟨Y,_⟩:=zr0;refine w76 ?_;unfold zsX at hp;intro Z q;obtain⟨G,s,I,t⟩:=T.blk q Y 1;obtain⟨u,w,y,J,z⟩:=t.sto s [(C.fn (Fn.func 97) [] []),(C.fn (Fn.func 98) [] []),(C.fn (Fn.func 99) [] []),(C.fn (Fn.func 100) [] [])];refine⟨u,w,?_⟩;refine⟨_,_,_,_,z.bk.ra,?_⟩
 have l:zuj f ((C.fn (Fn.func 97) [] [])) (fun a c=>zsT a c):=by
  refine⟨rfl,?_⟩;intro f' m' a c N r Q hs hpre A hg hq;exact zuU hpre A hg hq
 have n:zuj f ((C.fn (Fn.func 98) [] [])) (fun d e=>zsV d e):=by
  refine⟨rfl,?_⟩;intro f' m' d e O r Q hs hpre B hg hq;exact zuW hpre B hg hq
 have o:zuj f ((C.fn (Fn.func 99) [] [])) (fun g h=>zsW g h):=by
  refine⟨rfl,?_⟩;intro f' m' g h P r Q hs hpre D hg hq;exact zuX hpre D hg hq
 have p:zuj f ((C.fn (Fn.func 100) [] [])) (fun i j=>zsU i j):=by
  refine⟨rfl,?_⟩;intro f' m' i j S r Q hs hpre F hg hq;exact zuV hpre F hg hq
 obtain rfl:=oi hp;exact hq _ f (C.fn (Fn.func 97) [] []) (C.fn (Fn.func 98) [] []) (C.fn (Fn.func 99) [] []) (C.fn (Fn.func 100) [] []) y.grw l n o p
theorem zuZ{r:Rl}{y:Yr}{ca105:C}{m f:M}{Q:V->M->Prop}{rz:Bool}(hS:Pre f m)(_ha105:Sl f ca105 r.Price)(hp:zsY r y=some rz)(hq:∀m',Ext m m'->Q (.c (.bool rz)) m'):Wc prog tbl 102 [.agg 6 [Il r.Classes,Il r.Good,Il r.Bad,Il r.Rest,Il r.Fewest,ca105],.agg 6 [Il y.Losses.Lo,Il y.Losses.Hi,Il y.Premiums.Lo,Il y.Premiums.Hi,Il y.Parcels,.bool y.Exempt]] m Q:=by
 have s:=hS.st;obtain⟨t,_⟩:=zr0;refine zt6 ?_;unfold zsY at hp;intro u e;obtain⟨g,h,p,i⟩:=s.blk e t 1;intro w j;obtain⟨q,a,l,d⟩:=h.blk j g 2;have n:=i.k l;refine⟨trivial,_,d.bk.rc rfl,?_⟩;refine zqV hp (fun o hp=>?_) fun o hp=>?_; rotate_left
 ·obtain rfl:=oi hp;exact hq _ a.ext'
 refine⟨trivial,_,d.bk.rc rfl,trivial,_,n.bk.rc rfl,?_⟩;obtain rfl:=oi hp;exact hq _ a.ext'
theorem zu0{r:Rl}{y:Yr}{losses:Int}{premiums:Int}{ca105:C}{m f:M}{Q:V->M->Prop}{rz:Int}(hS:Pre f m)(ha105:Sl f ca105 r.Price)(hp:zsZ r y losses premiums=some rz)(hq:∀m',Ext m m'->Q (.c (Il rz)) m'):Wc prog tbl 80 [.agg 6 [Il r.Classes,Il r.Good,Il r.Bad,Il r.Rest,Il r.Fewest,ca105],.agg 6 [Il y.Losses.Lo,Il y.Losses.Hi,Il y.Premiums.Lo,Il y.Premiums.Hi,Il y.Parcels,.bool y.Exempt],.c (Il losses),.c (Il premiums)] m Q:=by
 have S0:=hS.st;obtain⟨τ0,_⟩:=zr0;refine w80 ?_;unfold zsZ at hp;intro m0 h;obtain⟨i,j,Z,l⟩:=S0.blk h τ0 1;intro m1 n;obtain⟨o,d,p,q⟩:=j.blk n i 2;have e:=l.k p;refine⟨_,_,_,_,_,_,e.bk.ra,_,_,_,_,_,_,q.bk.ra,?_⟩;obtain⟨aa,s,hp⟩:=zqq hp;refine zuZ (r:=r) (y:=y) d.pre ha105 s fun da t=>?_;obtain⟨a,u⟩:=d.call t o;have g:=e.k u;refine⟨_,rfl,?_⟩;refine zqV hp (fun w hp=>?_) fun w hp=>?_
 ·obtain rfl:=oi hp;exact hq _ a.ext'
 refine gdi hp fun z hp=>?_;refine gdi hp fun A hp=>?_;obtain⟨B,hp⟩:=zqr hp;refine⟨B,trivial,_,g.bk.rc rfl,?_⟩;refine gdi hp fun D hp=>?_;refine gdi hp fun F hp=>?_;refine gdi hp fun G hp=>?_;refine ifd hp (fun I hp=>?_) fun I hp=>?_
 ·obtain rfl:=oi hp;exact hq _ a.ext'
 refine gdi hp fun J hp=>?_;refine gdi hp fun N hp=>?_;obtain⟨O,hp⟩:=zqr hp;refine⟨O,trivial,_,g.bk.rc rfl,?_⟩;refine gdi hp fun P hp=>?_;refine gdi hp fun S hp=>?_;refine gdi hp fun T hp=>?_;refine ifd hp (fun Y hp=>?_) fun Y hp=>?_
 ·obtain rfl:=oi hp;exact hq _ a.ext'
 obtain rfl:=oi hp;exact hq _ a.ext'
theorem zu1{m f:M}{Q:V->M->Prop}{rz:P4}(hS:Pre f m)(hp:zs0=some rz)(hq:∀m',Ext m m'->Q (.agg 4 [.bool rz.p0,.bool rz.p1,.bool rz.p2,.bool rz.p3]) m'):Wc prog tbl 113 [] m Q:=by
 have o:=hS.st;obtain⟨p,_⟩:=zr0;refine zuc ?_;unfold zs0 at hp;intro q a;obtain⟨j,c,l,d⟩:=o.blk a p 1;obtain⟨e,g,h,n,i⟩:=d.sto c [.bool false,.bool true,.bool true,.bool true];refine⟨e,g,?_⟩;refine⟨_,_,_,_,i.bk.ra,?_⟩;obtain rfl:=oi hp;exact hq _ h.ext'
theorem zu2{class_:Int}{m f:M}{Q:V->M->Prop}{rz:C6}(hS:Pre f m)(hp:zs1 class_=some rz)(hq:∀m',Ext m m'->Q (.agg 6 [.bool rz.c0,.bool rz.c1,.bool rz.c2,.bool rz.c3,.bool rz.c4,.bool rz.c5]) m'):Wc prog tbl 90 [.c (Il class_)] m Q:=by
 have N:=hS.st;obtain⟨O,_⟩:=zr0;refine w90 ?_;unfold zs1 at hp;intro S g;obtain⟨h,i,G,j⟩:=N.blk g O 1;intro T n;obtain⟨I,o,p,q⟩:=i.blk n h 2;have r:=j.k p;refine⟨trivial,?_⟩;obtain⟨s,hp⟩:=zqr hp;obtain⟨P,d,e⟩:=zqQ s;refine⟨P,d,e,?_⟩;obtain⟨t,u,w,y,a⟩:=q.sta o (pre:=[]) (post:=[]) (l:=([false,false,false,false,false,false]:List Bool)) (enc:=C.bool) rfl rfl d e true
 replace a:Lb _ _ _ _ _ _ _ [(.bool (sti class_ 0 true false)),(.bool (sti class_ 1 true false)),(.bool (sti class_ 2 true false)),(.bool (sti class_ 3 true false)),(.bool (sti class_ 4 true false)),(.bool (sti class_ 5 true false))]:=a
 have z:=r.k y;refine⟨t,u,?_⟩;refine⟨_,_,_,_,_,_,a.bk.ra,?_⟩;obtain⟨A,B,D,J,F⟩:=z.sto w [(.bool (sti class_ 0 true false)),(.bool (sti class_ 1 true false)),(.bool (sti class_ 2 true false)),(.bool (sti class_ 3 true false)),(.bool (sti class_ 4 true false)),(.bool (sti class_ 5 true false))];refine⟨A,B,?_⟩;refine⟨_,_,_,_,_,_,F.bk.ra,?_⟩;obtain rfl:=oi hp;exact hq _ D.ext'
theorem zu3{c:C6}{m f:M}{Q:V->M->Prop}{rz:List Int}(hS:Pre f m)(hp:zs3 c=some rz)(hq:∀m' f' c0,Grw m f m' f'->Sl f' c0 rz->Q (.c c0) m'):Wc prog tbl 64 [.agg 6 [.bool c.c0,.bool c.c1,.bool c.c2,.bool c.c3,.bool c.c4,.bool c.c5]] m Q:=by
 have S0:=hS.st;obtain⟨τ0,_⟩:=zr0;refine w64 ?_;unfold zs3 at hp;intro m0 t;obtain⟨u,w,ca,d⟩:=S0.blk t τ0 1;intro R1 ba
 have hgo:∀(g:Nat) (c2:C) (o:Int) (h:List Int) (p:M) (e:Nat->Nat),St (Fm.of m) f f p->Lb (Fm.of m) f e p 1 m.nxt 6 [.bool c.c0,.bool c.c1,.bool c.c2,.bool c.c3,.bool c.c4,.bool c.c5]->Ow (Fm.of m) f e p 2 c2 h->zs2 c g h o=some rz->R1 [.c c2,.c (Il o)] p:=by
  intro g
  induction g with
  | zero=>intro c2 o h p e i d j hp; cases hp
  | succ g q=>
   intro c2 o h p e i d j hp;refine ba _ _ _ ?_;rw[zs2] at hp;refine ifd hp (fun y hp=>?_) fun y hp=>?_; rotate_left
   ·obtain⟨z,A,da,B⟩:=j.freeze i;obtain rfl:=oi hp;exact hq _ z c2 A.grw B
   refine⟨trivial,?_⟩;obtain⟨ea,n,hp⟩:=zqq hp;obtain⟨n5,r,s,n⟩:=zqk n;refine⟨n5,r,s,_,(d.bk.rc (zqP (l:=([c.c0,c.c1,c.c2,c.c3,c.c4,c.c5]:List Bool)) (enc:=C.bool) 0 rfl n)),?_⟩;refine zqU hp (fun D hp=>?_) fun D hp=>?_; rotate_left
   ·refine gdi hp fun F hp=>?_;exact q _ _ _ _ e i d j hp
   obtain⟨G,hp⟩:=zqr hp;intro m7 I;obtain⟨J,N,O,P,S,T,Y⟩:=j.app' zuo i (a:=o) (show Rp.rep (α:=Int) f _ o from rfl) G I;have Z:=d.k T;refine⟨J,N,P,?_⟩;refine gdi hp fun aa hp=>?_;exact q _ _ _ _ O S Z Y hp
 exact hgo _ _ _ _ _ u w d (Ow.nil _ _ _ _ _) hp
theorem zu4{p:P4}{bq0:Nat}{m f:M}{F:Fm}{n0 ly:Nat}{xs:List (List V)}{I:Nat->(Nat->Prop)->M->Prop}{E:(Nat->Prop)->M->Prop}{S1:Nat->Prop}{Q:V->M->Prop}{rz:List Int}{τ0:Nat->Nat}(hc:zqf prog tbl n0 ly xs I E)(S0:St F f f m)(Y0:Yg n0 (YJ xs I rz) S1 F f τ0 m)(hb0:Bk f bq0 4 [.bool p.p0,.bool p.p1,.bool p.p2,.bool p.p3])(hp:zs5 p=some rz)(hq:∀v m' f' τ' S',St F f f' m'->(Yg n0 (YJ xs I ([]:List Int)) S' F f' τ' m'\/Yg n0 E S' F f' τ' m')->Q v m'):Wc prog tbl 109 [.c (.fn (.yield ly) [] []),.c (.ptr bq0 0)] m Q:=by
 refine zt0 ?_;unfold zs5 at hp;refine⟨_,_,_,_,(hb0.sub S0.sub).ra,?_⟩;intro R4 hR4
 have hgo:∀(d4242:Nat) (x5:Int) (r4239:List Int) (s4240:Nat->Prop) (m6:M) (τ4238:Nat->Nat),St F f f m6->Yg n0 (YJ xs I r4239) s4240 F f τ4238 m6->zs4 p d4242 x5=some r4239->R4 [.c (.int .i64 x5)] m6:=by
  intro d4242
  induction d4242 with
  | zero=>intro x5 r4239 s4240 m6 τ4238 S4237 Y4241 hp; cases hp
  | succ d4242 ihR4=>
   intro x5 r4239 s4240 m6 τ4238 S4237 Y4241 hp;refine hR4 _ _ ?_;rw[zs4] at hp;refine ifd hp (fun q4243 hp=>?_) fun q4243 hp=>?_; rotate_left
   ·obtain rfl:=oi hp;exact hq _ _ _ _ _ S4237 (.inl Y4241)
   obtain⟨v4245,g4244,hp⟩:=zqq hp;obtain⟨n7,g4244i,g4244l,g4244⟩:=zqk g4244;refine⟨n7,g4244i,g4244l,_,(zrv (l:=([p.p0,p.p1,p.p2,p.p3]:List Bool)) (enc:=C.bool) rfl g4244),?_⟩;refine zqU hp (fun q4246 hp=>?_) fun q4246 hp=>?_; rotate_left
   ·obtain⟨g4261,hp⟩:=zqr hp;refine⟨g4261,?_⟩;exact ihR4 _ _ _ _ τ4238 S4237 Y4241 hp
   obtain⟨r4247,hp4249,hz4248⟩:=zqq hp
   clear hp
   obtain rfl:=oi hz4248;have hp:=hp4249
   show Wy prog tbl ly (IV.encs (x5:Int)) _ _
   refine Yg.yield hc S4237 Y4241 ?_ ?_
   ·intro m10 τ4250 s4254 S4251 k4252 Y4253;refine⟨_,rfl,?_⟩;refine zqW ?_;obtain⟨g4255,hp⟩:=zqr hp;refine⟨g4255,?_⟩;exact ihR4 _ _ _ _ τ4250 S4251 Y4253 hp
   ·intro m10 τ4256 s4260 S4257 k4258 Y4259;refine⟨_,rfl,?_⟩;refine zqX ?_;exact hq _ _ _ _ _ S4257 (.inr Y4259)
 exact hgo _ _ _ _ _ τ0 S0 Y0 hp
theorem zu5{p:P4}{m f:M}{Q:V->M->Prop}{rz:List Int}(hS:Pre f m)(hp:zs6 p=some rz)(hq:∀m' f' c0,Grw m f m' f'->It prog tbl f' c0 rz->Q (.c c0) m'):Wc prog tbl 93 [.agg 4 [.bool p.p0,.bool p.p1,.bool p.p2,.bool p.p3]] m Q:=by
 have s:=hS.st;obtain⟨t,_⟩:=zr0;refine w93 ?_;unfold zs6 at hp;intro u h;obtain⟨o,i,q,j⟩:=s.blk h t 1;obtain⟨d,a,r,e⟩:=j.freeze i;obtain⟨l,n,hp⟩:=zqq hp;have g:It prog tbl d ((C.fn (Fn.func 109) [] [(W.c (C0.ptr m.nxt 0))])) l:=zqY a.fz a.fv fun w ly I E hc y z A B hS hY Q hq=>zu4 hc hS hY e n hq;obtain rfl:=oi hp;exact hq _ d (C.fn (Fn.func 109) [] [(W.c (C0.ptr m.nxt 0))]) a.grw g
theorem zu6{seq:List Int}{ca200:C}{m f:M}{Q:V->M->Prop}{rz:List Int}(hS:Pre f m)(ha200:It prog tbl f ca200 seq)(hp:zs8 seq=some rz)(hq:∀m' f' c0,Grw m f m' f'->Sl f' c0 rz->Q (.c c0) m'):Wc prog tbl 108 [.c .sl0,.c ca200] m Q:=by
 have S0:=hS.st;obtain⟨τ0,_⟩:=zr0;refine zub ?_;unfold zs8 at hp;intro m0 J;obtain⟨N,O,sa,o⟩:=S0.blk J τ0 1;refine zqO (α:=Int) O ha200 (σ:=(List Int) × C) 2 (fun st bb=>(False\/(zqN st.2 bb))) (fun st gG gF gT gM=>(Lb gG gF gT gM 1 m.nxt 1 [st.2])/\(Ow gG gF gT gM 3 st.2 st.1)) (fun rr_ st=>zs7 rr_ st.1=some rz) (fun ex st=>False) (fun st=>(Gud.and (Gud.lb o.bk.lt (by decide)) (Gud.ow (by decide)))) (st0:=([],.sl0)) (τ:=N) ⟨o,(Ow.nil _ _ _ _ _)⟩ hp ?_ ?_ ?_ ?_
 ·intro i P st j p m2 q ta oa pa qa S ua hA z hp A B;obtain⟨g,h⟩:=st;obtain⟨e,d⟩:=hA
  replace e:Lb q j p m2 1 m.nxt 1 [h]:=e
  replace d:Ow q j p m2 3 h g:=d
  replace hp:zs7 (i::P) g=some rz:=hp
  rw[zs7] at hp;refine⟨_,rfl,?_⟩;refine A _ _ _ _ S z fun m6 va T r D F=>?_;have s:=e.k r;have d:=d.k r;refine⟨_,s.bk.rc rfl,?_⟩;obtain⟨Y,hp⟩:=zqr hp;intro m8 Z;obtain⟨l,aa,wa,ba,ca,t,n⟩:=d.app' zuo T (a:=i) (show Rp.rep (α:=Int) j _ i from rfl) Y Z;have da:=s.k t;have G:=D.k t;refine⟨l,aa,ba,?_⟩;obtain⟨ea,fa,ga,u,ha⟩:=da.sto ca [l];have n:=n.k u;have I:=G.k u;refine⟨ea,fa,?_⟩;exact B .nrm ((g++[i]),l) _ _ _ _ ga ⟨ha,n⟩ I F hp
 ·intro st w y ma ia xa hA hp;obtain⟨g,h⟩:=st
  replace hp:zs7 [] g=some rz:=hp
  obtain⟨e,d⟩:=hA
  replace e:Lb (Fm.of m) w y ma 1 m.nxt 1 [h]:=e
  replace d:Ow (Fm.of m) w y ma 3 h g:=d
  rw[zs7] at hp;refine⟨_,e.bk.rc rfl,?_⟩;obtain⟨ja,ka,ya,la⟩:=d.freeze ia;obtain rfl:=oi hp;exact hq _ ja h ka.grw la
 ·intro id st _ _ _ _ _ _ hn; first | exact hn.elim | (cases hn)
 ·intro st _ _ _ _ _ _ hn; first | exact hn.elim | (cases hn)
theorem zu7{seq:List Int}{ca100:C}{m f:M}{Q:V->M->Prop}{rz:List Int}(hS:Pre f m)(ha100:It prog tbl f ca100 seq)(hp:zs9 seq=some rz)(hq:∀m' f' c0,Grw m f m' f'->Sl f' c0 rz->Q (.c c0) m'):Wc prog tbl 92 [.c ca100] m Q:=by
 have j:=hS.st;obtain⟨o,_⟩:=zr0;refine w92 ?_;unfold zs9 at hp;obtain⟨l,a,hp⟩:=zqq hp;refine zu6 (seq:=seq) j.pre ha100 a fun p d e g h=>?_;obtain⟨i,n⟩:=j.callG g o;refine⟨_,rfl,?_⟩;obtain rfl:=oi hp;exact hq _ d e i.grw h
theorem zu8{s:Option (Stt->Option (Bool))}{ca100:C}{m f:M}{Q:V->M->Prop}{rz:C6}(hS:Pre f m)(ha100:Mi f ca100 s)(hp:ztb s=some rz)(hq:∀m',Ext m m'->Q (.agg 6 [.bool rz.c0,.bool rz.c1,.bool rz.c2,.bool rz.c3,.bool rz.c4,.bool rz.c5]) m'):Wc prog tbl 63 [.c ca100] m Q:=by
 have S0:=hS.st;obtain⟨τ0,_⟩:=zr0;refine w63 ?_;unfold ztb at hp;intro m0 ia;obtain⟨ja,ka,gb,la⟩:=S0.blk ia τ0 1;intro m1 ma;obtain⟨na,oa,pa,qa⟩:=ka.blk ma ja 2;have sa:=la.k pa;obtain⟨cb,ta,Z,aa,ba⟩:=Mi.rng zun oa ha100 na 3;have hp:=zrc hp Z;refine⟨ta,aa,?_⟩;intro m3 ua;obtain⟨va,wa,I,xa⟩:=ba m3 ua;have o:=sa.k I;have p:=qa.k I;intro R4 db
 have hgo:∀(q:Nat) (d:Bool) (e:Bool) (g:Bool) (h:Bool) (i:Bool) (j:Bool) (r:List Stt) (G:M) (n:Nat->Nat),St (Fm.of m) f f G->Lb (Fm.of m) f n G 1 m.nxt 6 [.bool false,.bool false,.bool false,.bool false,.bool false,.bool false]->Lb (Fm.of m) f n G 2 m0.nxt 6 [.bool d,.bool e,.bool g,.bool h,.bool i,.bool j]->Ir (Fm.of m) f n G 3 m1.nxt ca100 s r->zta s q d e g h i j r=some rz->R4 [] G:=by
  intro q
  induction q with
  | zero=>intro d e g h i j r G n t o p u hp; cases hp
  | succ q bb=>
   intro d e g h i j r G n t o p u hp;refine db  _ ?_;rw[zta] at hp;obtain⟨l6,ca,da,ea⟩:=u.next t;refine⟨l6,ca,fun ya=>?_,fun sb tb ub za=>?_⟩
   ·have hp:=zrf (da ya) hp;refine⟨_,_,_,_,_,_,p.bk.ra,?_⟩;obtain⟨Aa,Ba,J,Ca,Da⟩:=o.sto t [.bool d,.bool e,.bool g,.bool h,.bool i,.bool j];have hb:=u.k Ca t.sub J (by decide);refine⟨Aa,Ba,?_⟩;refine⟨_,_,_,_,_,_,Da.bk.ra,?_⟩;obtain rfl:=oi hp;exact hq _ J.ext'
   obtain⟨Ea,a,Fa,Ga,fa,eb,ga,Y,N,O,P⟩:=ea _ _ _ za;have hp:=zrg fa hp;obtain⟨Ha,ha,hp⟩:=zqq hp;obtain rfl:Ha=Ga:=oi (ha.symm.trans ga);generalize Ea++Fa=ib at hp P;have Ia:=o.k O;have Ja:=p.k O;refine⟨_,_,_,Y,?_⟩;intro vb Ka;obtain⟨La,w,y,Ma⟩:=N.blk Ka n 4;have Na:=Ia.k y;have Oa:=Ja.k y;have Pa:=P.k y N.sub w (by decide);obtain⟨Qa,Ra,z,A,Sa⟩:=Ma.sto w [Il a.cls,Il a.since];have Ta:=Na.k A;have Ua:=Oa.k A;have Va:=Pa.k A w.sub z (by decide);refine⟨Qa,Ra,?_⟩;refine⟨trivial,_,Sa.bk.rc rfl,trivial,?_⟩;obtain⟨Wa,hp⟩:=zqr hp;obtain⟨fb,D,F⟩:=zqQ Wa;refine⟨fb,D,F,?_⟩;obtain⟨Xa,Ya,S,T,B⟩:=Ua.sta z (pre:=[]) (post:=[]) (l:=([d,e,g,h,i,j]:List Bool)) (enc:=C.bool) rfl rfl D F true
   replace B:Lb _ _ _ _ _ _ _ [(.bool (sti a.cls 0 true d)),(.bool (sti a.cls 1 true e)),(.bool (sti a.cls 2 true g)),(.bool (sti a.cls 3 true h)),(.bool (sti a.cls 4 true i)),(.bool (sti a.cls 5 true j))]:=B
   have Za:=Ta.k T;have ab:=Va.k T z.sub S (by decide);refine⟨Xa,Ya,?_⟩;exact bb _ _ _ _ _ _ _ _ La S Za B ab hp
 exact hgo _ _ _ _ _ _ _ _ _ va wa o p xa hp
theorem zu9{w:Wk}{ca105 ca107 ca108 ca109 ca110 ca111 ca112:C}{m f:M}{Q:V->M->Prop}{rz:Stt}(hS:Pre f m)(_ha105:Sl f ca105 w.r.Price)(_ha107:Sl f ca107 w.zone.Years)(_ha108:zuj f ca108 w.kinds.k0.lead)(_ha109:zuj f ca109 w.kinds.k1.lead)(_ha110:zuj f ca110 w.kinds.k2.lead)(_ha111:zuj f ca111 w.kinds.k3.lead)(_ha112:Sl f ca112 w.can)(hp:ztc w=some rz)(hq:∀m',Ext m m'->Q (.agg 2 [Il rz.cls,Il rz.since]) m'):Wc prog tbl 79 [.agg 13 [Il w.r.Classes,Il w.r.Good,Il w.r.Bad,Il w.r.Rest,Il w.r.Fewest,ca105,Il w.zone.First,ca107,ca108,ca109,ca110,ca111,ca112]] m Q:=by
 have y:=hS.st;obtain⟨z,_⟩:=zr0;refine w79 ?_;unfold ztc at hp;intro A c;obtain⟨d,e,s,g⟩:=y.blk c z 1;intro B h;obtain⟨t,i,j,l⟩:=e.blk h d 2;have a:=g.k j;refine⟨trivial,trivial,_,a.bk.rc rfl,trivial,trivial,_,a.bk.rc rfl,?_⟩;obtain⟨n,o,p,u,q⟩:=l.sto i [Il w.zone.First,Il w.r.Rest];refine⟨n,o,?_⟩;refine⟨_,_,q.bk.ra,?_⟩;obtain rfl:=oi hp;exact hq _ p.ext'
theorem zva{w:Wk}{t:Tr}{ca105 ca107 ca108 ca109 ca110 ca111 ca112 ca200 ca201:C}{m f:M}{Q:V->M->Prop}{rz:List Int}(hS:Pre f m)(ha105:Sl f ca105 w.r.Price)(ha107:Sl f ca107 w.zone.Years)(ha108:zuj f ca108 w.kinds.k0.lead)(ha109:zuj f ca109 w.kinds.k1.lead)(ha110:zuj f ca110 w.kinds.k2.lead)(ha111:zuj f ca111 w.kinds.k3.lead)(ha112:Sl f ca112 w.can)(ha200:Sl f ca200 t.Losses)(ha201:Sl f ca201 t.Premiums)(hp:zte w t=some rz)(hq:∀m' f' c0,Grw m f m' f'->Sl f' c0 rz->Q (.c c0) m'):Wc prog tbl 55 [.agg 13 [Il w.r.Classes,Il w.r.Good,Il w.r.Bad,Il w.r.Rest,Il w.r.Fewest,ca105,Il w.zone.First,ca107,ca108,ca109,ca110,ca111,ca112],.agg 2 [ca200,ca201]] m Q:=by
 have S0:=hS.st;obtain⟨τ0,_⟩:=zr0;refine w55 ?_;unfold zte at hp;intro m0 Qa;obtain⟨Ra,Sa,Ld,Ta⟩:=S0.blk Qa τ0 1;intro m1 Ua;obtain⟨ua,va,Va,Wa⟩:=Sa.blk Ua Ra 2;have wa:=Ta.k Va;refine⟨_,_,_,_,_,_,_,_,_,_,_,_,_,wa.bk.ra,?_⟩;obtain⟨xa,Xa,hp⟩:=zqq hp;refine zu9 (w:=w) va.pre ha105 ha107 ha108 ha109 ha110 ha111 ha112 Xa fun Fd Ya=>?_;obtain⟨Za,ya⟩:=va.call Ya ua;have ab:=wa.k ya;have bb:=Wa.k ya;refine⟨_,_,rfl,?_⟩;intro Rd cb;obtain⟨db,eb,za,fb⟩:=Za.blk cb ua 3;have gb:=ab.k za;have hb:=bb.k za;obtain⟨ib,jb,kb,Aa,q⟩:=fb.sto eb [Il xa.cls,Il xa.since];have n:=gb.k Aa;have s:=hb.k Aa;refine⟨ib,jb,?_⟩;refine⟨trivial,trivial,_,n.bk.rc rfl,ha107.isSl,?_⟩;intro Gd Ed
 have hgo:∀(u:Nat) (pa:C) (Ba:Int) (z:Int) (A:Int) (B:List Int) (p:M) (i:Nat->Nat),St (Fm.of m) f f p->Lb (Fm.of m) f i p 1 m.nxt 13 [Il w.r.Classes,Il w.r.Good,Il w.r.Bad,Il w.r.Rest,Il w.r.Fewest,ca105,Il w.zone.First,ca107,ca108,ca109,ca110,ca111,ca112]->Lb (Fm.of m) f i p 2 m0.nxt 2 [ca200,ca201]->Lb (Fm.of m) f i p 3 Fd.nxt 2 [Il z,Il A]->Ow (Fm.of m) f i p 4 pa B->ztd w t u z A B Ba=some rz->Gd [.c pa,.c (Il Ba)] p:=by
  intro u
  induction u with
  | zero=>intro pa Ba z A B p i D n s q d hp; cases hp
  | succ u F=>
   intro pa Ba z A B p i D n s q d hp;refine Ed _ _ _ ?_;rw[ztd] at hp
   try rw[ha107.slLen]
   refine ifd hp (fun mb hp=>?_) fun mb hp=>?_; rotate_left
   ·obtain⟨ob,pb,Md,qb⟩:=d.freeze D;obtain rfl:=oi hp;exact hq _ ob pa pb.grw qb
   obtain⟨l,da,hp⟩:=zqq hp;obtain⟨Hd,La,qa,da⟩:=zqk da;obtain⟨_,rb⟩:=zr5 ha107 da;refine⟨Hd,La,(by first|exact qa|(rw[ha107.slLen];exact qa)),_,_,_,_,_,_,(rb _ D.sub).1,?_⟩;intro Sd sb;obtain⟨o,tb,G,ub⟩:=D.blk sb i 5;have vb:=n.k G;have wb:=s.k G;have xb:=q.k G;have d:=d.k G;obtain⟨yb,zb,I,J,Ab⟩:=ub.sto tb [Il l.Losses.Lo,Il l.Losses.Hi,Il l.Premiums.Lo,Il l.Premiums.Hi,Il l.Parcels,.bool l.Exempt];have Ca:=vb.k J;have ea:=wb.k J;have Bb:=xb.k J;have d:=d.k J;refine⟨yb,zb,?_⟩;refine⟨trivial,_,_,_,_,_,_,Ca.bk.rp (k:=0) (j:=6) rfl (by omega),_,_,_,_,_,_,Ab.bk.ra,trivial,_,ea.bk.rc rfl,?_⟩;obtain⟨Cb,fa,hp⟩:=zqq hp;obtain⟨Id,Ma,sa,fa⟩:=zqk fa;refine⟨Id,Ma,(by first|exact sa|(rw[ha200.slLen];exact sa)),_,(ha200.rdI fa I.sub),trivial,_,ea.bk.rc rfl,?_⟩;obtain⟨Db,ga,hp⟩:=zqq hp;obtain⟨Jd,Na,ta,ga⟩:=zqk ga;refine⟨Jd,Na,(by first|exact ta|(rw[ha201.slLen];exact ta)),_,(ha201.rdI ga I.sub),?_⟩;obtain⟨Nd,Eb,hp⟩:=zqq hp;refine zu0 (r:=w.r) (y:=l) (losses:=Cb) (premiums:=Db) I.pre ha105 Eb fun Td Fb=>?_;obtain⟨g,N⟩:=I.call Fb o;have e:=Ca.k N;have O:=ea.k N;have h:=Bb.k N;have d:=d.k N;refine⟨_,rfl,trivial,trivial,?_⟩;refine spl hp (fun Da hp=>?_) fun Da hp=>?_
   ·refine⟨0,Da.trans rfl,Nat.le_of_ble_eq_true rfl,?_⟩;refine⟨trivial,_,e.bk.rc rfl,trivial,_,_,_,_,_,_,e.bk.rp (k:=0) (j:=6) rfl (by omega),_,_,h.bk.ra,?_⟩;obtain⟨P,Gb,hp⟩:=zqq hp;refine ha108.2 _ _ _ _ _ _ _ (Sub.refl _) g.pre ha105 Gb fun Oa Hb=>?_;obtain⟨Ib,S⟩:=g.call Hb o;have Jb:=e.k S;have Kb:=O.k S;have Mb:=h.k S;have d:=d.k S;refine⟨_,_,rfl,?_⟩;obtain⟨Nb,Ob,Pb,ha,Ea⟩:=Mb.sto Ib [Il P.cls,Il P.since];have Qb:=Jb.k ha;have Rb:=Kb.k ha;have d:=d.k ha;refine⟨Nb,Ob,?_⟩;refine⟨trivial,_,Ea.bk.rc rfl,?_⟩;obtain⟨Sb,hp⟩:=zqr hp;intro Pa Tb;obtain⟨Ub,Vb,Wb,Xb,Yb,ia,Zb⟩:=d.app' zuo Pb (a:=P.cls) (show Rp.rep (α:=Int) f _ P.cls from rfl) Sb Tb;have ac:=Qb.k ia;have bc:=Rb.k ia;have cc:=Ea.k ia;refine⟨Ub,Vb,Xb,?_⟩;refine gdi hp fun dc hp=>?_;exact F _ _ _ _ _ _ Wb Yb ac bc cc Zb hp
   refine spl hp (fun Fa hp=>?_) fun Fa hp=>?_
   ·refine⟨1,Fa.trans rfl,Nat.le_of_ble_eq_true rfl,?_⟩;refine⟨trivial,_,e.bk.rc rfl,trivial,_,_,_,_,_,_,e.bk.rp (k:=0) (j:=6) rfl (by omega),_,_,h.bk.ra,?_⟩;obtain⟨T,ec,hp⟩:=zqq hp;refine ha109.2 _ _ _ _ _ _ _ (Sub.refl _) g.pre ha105 ec fun Oa fc=>?_;obtain⟨gc,Y⟩:=g.call fc o;have hc:=e.k Y;have ic:=O.k Y;have jc:=h.k Y;have d:=d.k Y;refine⟨_,_,rfl,?_⟩;obtain⟨kc,nc,oc,ja,Ga⟩:=jc.sto gc [Il T.cls,Il T.since];have pc:=hc.k ja;have qc:=ic.k ja;have d:=d.k ja;refine⟨kc,nc,?_⟩;refine⟨trivial,_,Ga.bk.rc rfl,?_⟩;obtain⟨sc,hp⟩:=zqr hp;intro Pa tc;obtain⟨uc,vc,wc,xc,yc,ka,zc⟩:=d.app' zuo oc (a:=T.cls) (show Rp.rep (α:=Int) f _ T.cls from rfl) sc tc;have Ac:=pc.k ka;have Bc:=qc.k ka;have Cc:=Ga.k ka;refine⟨uc,vc,xc,?_⟩;refine gdi hp fun Dc hp=>?_;exact F _ _ _ _ _ _ wc yc Ac Bc Cc zc hp
   refine spl hp (fun Ha hp=>?_) fun Ha hp=>?_
   ·refine⟨2,Ha.trans rfl,Nat.le_of_ble_eq_true rfl,?_⟩;refine⟨trivial,_,e.bk.rc rfl,trivial,_,_,_,_,_,_,e.bk.rp (k:=0) (j:=6) rfl (by omega),_,_,h.bk.ra,?_⟩;obtain⟨Z,Ec,hp⟩:=zqq hp;refine ha110.2 _ _ _ _ _ _ _ (Sub.refl _) g.pre ha105 Ec fun Oa Fc=>?_;obtain⟨Gc,aa⟩:=g.call Fc o;have Hc:=e.k aa;have Ic:=O.k aa;have Jc:=h.k aa;have d:=d.k aa;refine⟨_,_,rfl,?_⟩;obtain⟨Kc,Nc,Oc,la,Ia⟩:=Jc.sto Gc [Il Z.cls,Il Z.since];have Pc:=Hc.k la;have Qc:=Ic.k la;have d:=d.k la;refine⟨Kc,Nc,?_⟩;refine⟨trivial,_,Ia.bk.rc rfl,?_⟩;obtain⟨Rc,hp⟩:=zqr hp;intro Pa Tc;obtain⟨Uc,Vc,Xc,Yc,Zc,ma,ad⟩:=d.app' zuo Oc (a:=Z.cls) (show Rp.rep (α:=Int) f _ Z.cls from rfl) Rc Tc;have bd:=Pc.k ma;have cd:=Qc.k ma;have dd:=Ia.k ma;refine⟨Uc,Vc,Yc,?_⟩;refine gdi hp fun ed hp=>?_;exact F _ _ _ _ _ _ Xc Zc bd cd dd ad hp
   refine spl hp (fun Ja hp=>?_) fun Ja hp=>?_
   ·refine⟨3,Ja.trans rfl,Nat.le_of_ble_eq_true rfl,?_⟩;refine⟨trivial,_,e.bk.rc rfl,trivial,_,_,_,_,_,_,e.bk.rp (k:=0) (j:=6) rfl (by omega),_,_,h.bk.ra,?_⟩;obtain⟨ba,fd,hp⟩:=zqq hp;refine ha111.2 _ _ _ _ _ _ _ (Sub.refl _) g.pre ha105 fd fun Oa hd=>?_;obtain⟨id,ca⟩:=g.call hd o;have jd:=e.k ca;have kd:=O.k ca;have ld:=h.k ca;have d:=d.k ca;refine⟨_,_,rfl,?_⟩;obtain⟨md,nd,od,na,Ka⟩:=ld.sto id [Il ba.cls,Il ba.since];have pd:=jd.k na;have qd:=kd.k na;have d:=d.k na;refine⟨md,nd,?_⟩;refine⟨trivial,_,Ka.bk.rc rfl,?_⟩;obtain⟨sd,hp⟩:=zqr hp;intro Pa td;obtain⟨ud,vd,wd,xd,yd,oa,zd⟩:=d.app' zuo od (a:=ba.cls) (show Rp.rep (α:=Int) f _ ba.cls from rfl) sd td;have Ad:=pd.k oa;have Bd:=qd.k oa;have Cd:=Ka.k oa;refine⟨ud,vd,xd,?_⟩;refine gdi hp fun Dd hp=>?_;exact F _ _ _ _ _ _ wd yd Ad Bd Cd zd hp
   cases hp
 exact hgo _ _ _ _ _ _ _ db kb n s q (Ow.nil _ _ _ _ _) hp
theorem zvb{w:Wk}{before:Option (Stt->Option (Bool))}{year:Int}{ca105 ca107 ca108 ca109 ca110 ca111 ca112 ca200:C}{m f:M}{Q:V->M->Prop}{rz:Option (Stt->Option (Bool))}(hS:Pre f m)(ha105:Sl f ca105 w.r.Price)(_ha107:Sl f ca107 w.zone.Years)(ha108:zuj f ca108 w.kinds.k0.lead)(ha109:zuj f ca109 w.kinds.k1.lead)(ha110:zuj f ca110 w.kinds.k2.lead)(ha111:zuj f ca111 w.kinds.k3.lead)(ha112:Sl f ca112 w.can)(ha200:Mi f ca200 before)(hp:zth w before year=some rz)(hq:∀m' f' c0,Grw m f m' f'->Mi f' c0 rz->Q (.c c0) m'):Wc prog tbl 89 [.agg 13 [Il w.r.Classes,Il w.r.Good,Il w.r.Bad,Il w.r.Rest,Il w.r.Fewest,ca105,Il w.zone.First,ca107,ca108,ca109,ca110,ca111,ca112],.c ca200,.c (Il year)] m Q:=by
 have S0:=hS.st;obtain⟨τ0,_⟩:=zr0;refine w89 ?_;unfold zth at hp;intro m0 Rb;obtain⟨Sb,Tb,Be,Ub⟩:=S0.blk Rb τ0 1;intro m1 Wb;obtain⟨Xb,Yb,Zb,ac⟩:=Mo.new (K:=Stt) (V':=Bool) Tb Wb Sb 2;have bc:=Ub.k Zb;intro m2 cc;obtain⟨dc,ec,Na,fc⟩:=Yb.blk cc Xb 3;have gc:=bc.k Na;have hc:=ac.k Na;obtain⟨O,ic,jc,Oa,kc⟩:=fc.sto ec [(.map m0.nxt)];have nc:=gc.k Oa;have oc:=hc.k Oa;refine⟨O,ic,?_⟩;obtain⟨ue,pc,tb,ub,vb⟩:=Mi.rng zun jc ha200 dc 4;have hp:=zrc hp tb;refine⟨pc,ub,?_⟩;intro m5 qc;obtain⟨sc,tc,ua,uc⟩:=vb m5 qc;have la:=nc.k ua;have P:=kc.k ua;have S:=oc.k ua;intro R6 ve
 have hgo:∀(q:Nat) (T:Option (Stt->Option (Bool))) (ma:List Stt) (m7:M) (l:M) (s:Nat->Nat),St (Fm.of m) f l m7->Sub f l->Lb (Fm.of m) l s m7 1 m.nxt 13 [Il w.r.Classes,Il w.r.Good,Il w.r.Bad,Il w.r.Rest,Il w.r.Fewest,ca105,Il w.zone.First,ca107,ca108,ca109,ca110,ca111,ca112]->Lb (Fm.of m) l s m7 3 m1.nxt 1 [(.map m0.nxt)]->Mo (Fm.of m) l s m7 2 (.map m0.nxt) T->Ir (Fm.of m) l s m7 4 O.nxt ca200 before ma->ztg w before year q T ma=some rz->R6 [] m7:=by
  intro q
  induction q with
  | zero=>intro T ma m7 l s na d la P S va hp; cases hp
  | succ q te=>
   intro T ma m7 l s na d la P S va hp;refine ve  _ ?_;rw[ztg] at hp;obtain⟨l8,wb,xb,yb⟩:=va.next na;refine⟨l8,wb,fun vc=>?_,fun Oe Pe zb wc=>?_⟩
   ·have hp:=zrf (xb vc) hp;refine⟨_,P.bk.rc rfl,?_⟩;obtain⟨xc,Pa,yc,Ab⟩:=S.freeze na;have Ce:=va.k yc na.sub Pa (by decide);obtain rfl:=oi hp;exact hq _ xc (.map m0.nxt) Pa.grw Ab
   obtain⟨zc,h,Ac,Bc,Bb,we,Cb,sb,Qa,wa,Ra⟩:=yb _ _ _ wc;have hp:=zrg Bb hp;obtain⟨Cc,Db,hp⟩:=zqq hp;obtain rfl:Cc=Bc:=oi (Db.symm.trans Cb);generalize zc++Ac=A at hp Ra;have Dc:=la.k wa;have Ec:=P.k wa;have Fc:=S.k wa;refine⟨_,_,_,sb,?_⟩;intro Qe Gc;obtain⟨Sa,xa,oa,Hc⟩:=Qa.blk Gc s 5;have Ic:=Dc.k oa;have Jc:=Ec.k oa;have Kc:=Fc.k oa;have Nc:=Ra.k oa Qa.sub xa (by decide);obtain⟨Oc,Pc,Y,pa,Qc⟩:=Hc.sto xa [Il h.cls,Il h.since];have Ta:=Ic.k pa;have Rc:=Jc.k pa;have Tc:=Kc.k pa;have Uc:=Nc.k pa xa.sub Y (by decide);refine⟨Oc,Pc,?_⟩;refine⟨trivial,_,Ta.bk.rc rfl,?_⟩;obtain⟨Vc,ya,hp⟩:=zqq hp;obtain⟨xe,Eb,Ka,ya⟩:=zqk ya;obtain⟨_,Xc⟩:=zr7 ha112 ya;refine⟨xe,Eb,(by first|exact Ka|(rw[ha112.slLen];exact Ka)),_,_,_,_,(Xc _ (Sub.trans d Y.sub)).1,?_⟩;obtain⟨De,Yc,hp⟩:=zqq hp;refine zu5 (p:=Vc) Y.pre  Yc fun Re Ee Fe Zc ad=>?_;obtain⟨za,a⟩:=Y.callG Zc Sa;have Ua:=Ta.k a;have Va:=Rc.k a;have Wa:=Qc.k a;have Xa:=Tc.k a;have Aa:=Uc.k a Y.sub za (by decide);refine⟨_,rfl,?_⟩;refine zqO (α:=Int) za ad (σ:=(Option (Stt->Option (Bool)))) 6 (fun st bb=>(False\/(False\/(False\/(False\/False))))) (fun st gG gF gT gM=>(Lb gG gF gT gM 1 m.nxt 13 [Il w.r.Classes,Il w.r.Good,Il w.r.Bad,Il w.r.Rest,Il w.r.Fewest,ca105,Il w.zone.First,ca107,ca108,ca109,ca110,ca111,ca112])/\(Lb gG gF gT gM 3 m1.nxt 1 [(.map m0.nxt)])/\(Lb gG gF gT gM 5 zb.nxt 2 [Il h.cls,Il h.since])/\(Mo gG gF gT gM 2 (.map m0.nxt) st)/\(Ir gG gF gT gM 4 O.nxt ca200 before A)) (fun rr_ st=>ztf w h A (ztg w before year q) rr_ st=some rz) (fun ex st=>False) (fun st=>(Gud.and (Gud.lb Ua.bk.lt (by decide)) (Gud.and (Gud.lb Va.bk.lt (by decide)) (Gud.and (Gud.lb Wa.bk.lt (by decide)) (Gud.and (Gud.mo Xa.lt (by decide)) (Gud.ir Aa.lt (Ir.ltb Aa za.sub) (by decide))))))) (st0:=(T)) (τ:=Sa) ⟨Ua,Va,Wa,Xa,Aa⟩ hp ?_ ?_ ?_ ?_
   ·intro bd cd Z aa i La ba Ge ye ze Ae Ya n hA Fb hp Gb ca;obtain⟨t,u,B,y,z⟩:=hA
    replace t:Lb ba aa i La 1 m.nxt 13 [Il w.r.Classes,Il w.r.Good,Il w.r.Bad,Il w.r.Rest,Il w.r.Fewest,ca105,Il w.zone.First,ca107,ca108,ca109,ca110,ca111,ca112]:=t
    replace u:Lb ba aa i La 3 m1.nxt 1 [(.map m0.nxt)]:=u
    replace B:Lb ba aa i La 5 zb.nxt 2 [Il h.cls,Il h.since]:=B
    replace y:Mo ba aa i La 2 (.map m0.nxt) Z:=y
    replace z:Ir ba aa i La 4 O.nxt ca200 before A:=z
    replace hp:ztf w h A (ztg w before year q) (bd::cd) Z=some rz:=hp
    rw[ztf] at hp;refine⟨_,rfl,?_⟩;refine Gb _ _ _ _ Ya Fb fun Se He e da ea fa=>?_;have g:=t.k da;have ga:=u.k da;have o:=B.k da;have qa:=y.k da;have sa:=z.k da Ya.sub e (by decide);refine⟨_,ga.bk.rc rfl,trivial,trivial,?_⟩;refine spl hp (fun Za hp=>?_) fun Za hp=>?_
    ·refine⟨0,Za.trans rfl,Nat.le_of_ble_eq_true rfl,?_⟩;refine⟨trivial,_,g.bk.rc rfl,trivial,_,_,_,_,_,_,g.bk.rp (k:=0) (j:=6) rfl (by omega),_,_,o.bk.ra,?_⟩;obtain⟨Ba,dd,hp⟩:=zqq hp;refine(ha108.sub (Sub.trans (Sub.trans d a.fs) n)).2 _ _ _ _ _ _ _ (Sub.refl _) e.pre (ha105.sub (Sub.trans (Sub.trans d a.fs) n)) dd fun Hb ed=>?_;obtain⟨Ca,D⟩:=e.call ed i;have fd:=g.k D;have ab:=ga.k D;have hd:=o.k D;have cb:=qa.k D;have Ib:=ea.k D;have jd:=sa.k D e.sub Ca (by decide);refine⟨_,_,rfl,(by rw[show cmC _=true from zoV (cb.mi.noFn)]; exact(ab.bk.rc rfl)),?_⟩;obtain⟨kd,hp⟩:=zqr hp;obtain⟨ld,md,hp⟩:=zqq hp;obtain⟨nd,od,db,ha,pd⟩:=Mo.up zum Ca cb (k:=Ba) kd (v:=true) md (kv:=.agg 2 [Il Ba.cls,Il Ba.since]) (yv:=.c (.bool true)) rfl rfl;have qd:=fd.k ha;have sd:=ab.k ha;have td:=hd.k ha;have Jb:=Ib.k ha;have ud:=jd.k ha Ca.sub db (by decide);refine⟨nd,od,?_⟩;exact ca .nrm (ld) _ _ _ _ db ⟨qd,sd,td,pd,ud⟩ Jb fa hp
    refine spl hp (fun eb hp=>?_) fun eb hp=>?_
    ·refine⟨1,eb.trans rfl,Nat.le_of_ble_eq_true rfl,?_⟩;refine⟨trivial,_,g.bk.rc rfl,trivial,_,_,_,_,_,_,g.bk.rp (k:=0) (j:=6) rfl (by omega),_,_,o.bk.ra,?_⟩;obtain⟨Da,vd,hp⟩:=zqq hp;refine(ha109.sub (Sub.trans (Sub.trans d a.fs) n)).2 _ _ _ _ _ _ _ (Sub.refl _) e.pre (ha105.sub (Sub.trans (Sub.trans d a.fs) n)) vd fun Hb wd=>?_;obtain⟨Ea,F⟩:=e.call wd i;have xd:=g.k F;have fb:=ga.k F;have yd:=o.k F;have gb:=qa.k F;have Kb:=ea.k F;have zd:=sa.k F e.sub Ea (by decide);refine⟨_,_,rfl,(by rw[show cmC _=true from zoV (gb.mi.noFn)]; exact(fb.bk.rc rfl)),?_⟩;obtain⟨Ad,hp⟩:=zqr hp;obtain⟨Bd,Cd,hp⟩:=zqq hp;obtain⟨Dd,Ed,hb,ia,Fd⟩:=Mo.up zum Ea gb (k:=Da) Ad (v:=true) Cd (kv:=.agg 2 [Il Da.cls,Il Da.since]) (yv:=.c (.bool true)) rfl rfl;have Gd:=xd.k ia;have Hd:=fb.k ia;have Id:=yd.k ia;have Mb:=Kb.k ia;have Jd:=zd.k ia Ea.sub hb (by decide);refine⟨Dd,Ed,?_⟩;exact ca .nrm (Bd) _ _ _ _ hb ⟨Gd,Hd,Id,Fd,Jd⟩ Mb fa hp
    refine spl hp (fun ib hp=>?_) fun ib hp=>?_
    ·refine⟨2,ib.trans rfl,Nat.le_of_ble_eq_true rfl,?_⟩;refine⟨trivial,_,g.bk.rc rfl,trivial,_,_,_,_,_,_,g.bk.rp (k:=0) (j:=6) rfl (by omega),_,_,o.bk.ra,?_⟩;obtain⟨Fa,Ld,hp⟩:=zqq hp;refine(ha110.sub (Sub.trans (Sub.trans d a.fs) n)).2 _ _ _ _ _ _ _ (Sub.refl _) e.pre (ha105.sub (Sub.trans (Sub.trans d a.fs) n)) Ld fun Hb Md=>?_;obtain⟨Ga,G⟩:=e.call Md i;have Nd:=g.k G;have jb:=ga.k G;have Od:=o.k G;have kb:=qa.k G;have Nb:=ea.k G;have Pd:=sa.k G e.sub Ga (by decide);refine⟨_,_,rfl,(by rw[show cmC _=true from zoV (kb.mi.noFn)]; exact(jb.bk.rc rfl)),?_⟩;obtain⟨Qd,hp⟩:=zqr hp;obtain⟨Rd,Sd,hp⟩:=zqq hp;obtain⟨Td,Ud,mb,ja,Vd⟩:=Mo.up zum Ga kb (k:=Fa) Qd (v:=true) Sd (kv:=.agg 2 [Il Fa.cls,Il Fa.since]) (yv:=.c (.bool true)) rfl rfl;have Wd:=Nd.k ja;have Xd:=jb.k ja;have Yd:=Od.k ja;have Ob:=Nb.k ja;have Zd:=Pd.k ja Ga.sub mb (by decide);refine⟨Td,Ud,?_⟩;exact ca .nrm (Rd) _ _ _ _ mb ⟨Wd,Xd,Yd,Vd,Zd⟩ Ob fa hp
    refine spl hp (fun ob hp=>?_) fun ob hp=>?_
    ·refine⟨3,ob.trans rfl,Nat.le_of_ble_eq_true rfl,?_⟩;refine⟨trivial,_,g.bk.rc rfl,trivial,_,_,_,_,_,_,g.bk.rp (k:=0) (j:=6) rfl (by omega),_,_,o.bk.ra,?_⟩;obtain⟨Ha,ae,hp⟩:=zqq hp;refine(ha111.sub (Sub.trans (Sub.trans d a.fs) n)).2 _ _ _ _ _ _ _ (Sub.refl _) e.pre (ha105.sub (Sub.trans (Sub.trans d a.fs) n)) ae fun Hb be=>?_;obtain⟨Ia,I⟩:=e.call be i;have ce:=g.k I;have pb:=ga.k I;have de:=o.k I;have qb:=qa.k I;have Pb:=ea.k I;have ee:=sa.k I e.sub Ia (by decide);refine⟨_,_,rfl,(by rw[show cmC _=true from zoV (qb.mi.noFn)]; exact(pb.bk.rc rfl)),?_⟩;obtain⟨fe,hp⟩:=zqr hp;obtain⟨ge,he,hp⟩:=zqq hp;obtain⟨ie,je,rb,ka,ke⟩:=Mo.up zum Ia qb (k:=Ha) fe (v:=true) he (kv:=.agg 2 [Il Ha.cls,Il Ha.since]) (yv:=.c (.bool true)) rfl rfl;have me:=ce.k ka;have oe:=pb.k ka;have pe:=de.k ka;have Qb:=Pb.k ka;have qe:=ee.k ka Ia.sub rb (by decide);refine⟨ie,je,?_⟩;exact ca .nrm (ge) _ _ _ _ rb ⟨me,oe,pe,ke,qe⟩ Qb fa hp
    cases hp
   ·intro Z J N Ma re se hA hp
    replace hp:ztf w h A (ztg w before year q) [] Z=some rz:=hp
    obtain⟨t,u,B,y,z⟩:=hA
    replace t:Lb (Fm.of m) J N Ma 1 m.nxt 13 [Il w.r.Classes,Il w.r.Good,Il w.r.Bad,Il w.r.Rest,Il w.r.Fewest,ca105,Il w.zone.First,ca107,ca108,ca109,ca110,ca111,ca112]:=t
    replace u:Lb (Fm.of m) J N Ma 3 m1.nxt 1 [(.map m0.nxt)]:=u
    replace B:Lb (Fm.of m) J N Ma 5 zb.nxt 2 [Il h.cls,Il h.since]:=B
    replace y:Mo (Fm.of m) J N Ma 2 (.map m0.nxt) Z:=y
    replace z:Ir (Fm.of m) J N Ma 4 O.nxt ca200 before A:=z
    rw[ztf] at hp;exact te _ _ _ J N re (Sub.trans (Sub.trans d a.fs) se) t u y z hp
   ·intro id st _ _ _ _ _ _ hn; first | exact hn.elim | (cases hn)
   ·intro st _ _ _ _ _ _ hn; first | exact hn.elim | (cases hn)
 exact hgo _ _ _ _ f sc tc (Sub.refl _) la P S uc hp
theorem zvc{w:Wk}{years:Int}{ca105 ca107 ca108 ca109 ca110 ca111 ca112:C}{m f:M}{Q:V->M->Prop}{rz:Option (Stt->Option (Bool))}(hS:Pre f m)(ha105:Sl f ca105 w.r.Price)(ha107:Sl f ca107 w.zone.Years)(ha108:zuj f ca108 w.kinds.k0.lead)(ha109:zuj f ca109 w.kinds.k1.lead)(ha110:zuj f ca110 w.kinds.k2.lead)(ha111:zuj f ca111 w.kinds.k3.lead)(ha112:Sl f ca112 w.can)(hp:ztj w years=some rz)(hq:∀m' f' c0,Grw m f m' f'->Mi f' c0 rz->Q (.c c0) m'):Wc prog tbl 62 [.agg 13 [Il w.r.Classes,Il w.r.Good,Il w.r.Bad,Il w.r.Rest,Il w.r.Fewest,ca105,Il w.zone.First,ca107,ca108,ca109,ca110,ca111,ca112],.c (Il years)] m Q:=by
 have S0:=hS.st;obtain⟨τ0,_⟩:=zr0;refine w62 ?_;unfold ztj at hp;intro m0 F;obtain⟨G,I,wa,J⟩:=S0.blk F τ0 1;intro m1 N;obtain⟨t,u,O,P⟩:=Mo.new (K:=Stt) (V':=Bool) I N G 2;have y:=J.k O;refine⟨_,_,_,_,_,_,_,_,_,_,_,_,_,y.bk.ra,?_⟩;obtain⟨n,S,hp⟩:=zqq hp;refine zu9 (w:=w) u.pre ha105 ha107 ha108 ha109 ha110 ha111 ha112 S fun Ca T=>?_;obtain⟨Y,z⟩:=u.call T t;have Z:=y.k z;have aa:=P.k z;refine⟨_,_,rfl,?_⟩;obtain⟨ba,hp⟩:=zqr hp;obtain⟨xa,ca,hp⟩:=zqq hp;obtain⟨da,ea,fa,ga,ha⟩:=Mo.up zum Y aa (k:=n) ba (v:=true) ca (kv:=.agg 2 [Il n.cls,Il n.since]) (yv:=.c (.bool true)) rfl rfl;have ia:=Z.k ga;refine⟨da,ea,?_⟩;obtain⟨A,ja,d,D⟩:=ha.freeze fa;have g:=ia.k d;intro va ua
 have hgo:∀(j:Nat) (p:C) (q:Int) (h:Option (Stt->Option (Bool))) (s:M) (e:M) (i:Nat->Nat),St (Fm.of m) f e s->Sub A e->Lb (Fm.of m) e i s 1 m.nxt 13 [Il w.r.Classes,Il w.r.Good,Il w.r.Bad,Il w.r.Rest,Il w.r.Fewest,ca105,Il w.zone.First,ca107,ca108,ca109,ca110,ca111,ca112]->Mi e p h->zti w years j h q=some rz->va [.c p,.c (Il q)] s:=by
  intro j
  induction j with
  | zero=>intro p q h s e i l a g o hp; cases hp
  | succ j ka=>
   intro p q h s e i l a g o hp;refine ua _ _ _ ?_;rw[zti] at hp;refine ifd hp (fun la hp=>?_) fun la hp=>?_; rotate_left
   ·obtain rfl:=oi hp;exact hq _ e p l.grw o
   refine⟨_,_,_,_,_,_,_,_,_,_,_,_,_,g.bk.ra,?_⟩;obtain⟨ya,ma,hp⟩:=zqq hp;refine zvb (w:=w) (before:=h) (year:=q) l.pre (ha105.sub (Sub.trans d.fs a)) (ha107.sub (Sub.trans d.fs a)) (ha108.sub (Sub.trans d.fs a)) (ha109.sub (Sub.trans d.fs a)) (ha110.sub (Sub.trans d.fs a)) (ha111.sub (Sub.trans d.fs a)) (ha112.sub (Sub.trans d.fs a)) o ma fun Da na za oa pa=>?_;obtain⟨qa,B⟩:=l.callG oa i;have sa:=g.k B;refine⟨_,rfl,?_⟩;refine gdi hp fun ta hp=>?_;exact ka _ _ _ _ na i qa (Sub.trans a B.fs) sa pa hp
 exact hgo _ _ _ _ _ A t ja (Sub.refl _) g D hp
theorem zvd{w:Wk}{year:Int}{ca105 ca107 ca108 ca109 ca110 ca111 ca112:C}{m f:M}{Q:V->M->Prop}{rz:Int}(hS:Pre f m)(ha105:Sl f ca105 w.r.Price)(ha107:Sl f ca107 w.zone.Years)(ha108:zuj f ca108 w.kinds.k0.lead)(ha109:zuj f ca109 w.kinds.k1.lead)(ha110:zuj f ca110 w.kinds.k2.lead)(ha111:zuj f ca111 w.kinds.k3.lead)(ha112:Sl f ca112 w.can)(hp:ztl w year=some rz)(hq:∀m',Ext m m'->Q (.c (Il rz)) m'):Wc prog tbl 65 [.agg 13 [Il w.r.Classes,Il w.r.Good,Il w.r.Bad,Il w.r.Rest,Il w.r.Fewest,ca105,Il w.zone.First,ca107,ca108,ca109,ca110,ca111,ca112],.c (Il year)] m Q:=by
 have S0:=hS.st;obtain⟨τ0,_⟩:=zr0;refine w65 ?_;unfold ztl at hp;intro m0 Ya;obtain⟨la,ma,Qc,na⟩:=S0.blk Ya τ0 1;refine⟨_,_,_,_,_,_,_,_,_,_,_,_,_,na.bk.ra,?_⟩;obtain⟨oa,Za,hp⟩:=zqq hp;refine zvc (w:=w) (years:=year) ma.pre ha105 ha107 ha108 ha109 ha110 ha111 ha112 Za fun Gc pa ab bb cb=>?_;obtain⟨db,g⟩:=ma.callG bb la;have eb:=na.k g;refine⟨_,rfl,?_⟩;obtain⟨Hc,fb,Ja,Ka,La⟩:=Mi.rng zun db cb la 2;have hp:=zrc hp Ja;refine⟨fb,Ka,?_⟩;intro Ic gb;obtain⟨hb,ib,jb,kb⟩:=La Ic gb;have t:=eb.k jb;intro Jc Fc
 have hgo:∀(u:Nat) (qa:Bool) (sa:Bool) (y:List Stt) (N:M) (j:M) (p:Nat->Nat),St (Fm.of m) f j N->Sub pa j->Lb (Fm.of m) j p N 1 m.nxt 13 [Il w.r.Classes,Il w.r.Good,Il w.r.Bad,Il w.r.Rest,Il w.r.Fewest,ca105,Il w.zone.First,ca107,ca108,ca109,ca110,ca111,ca112]->Ir (Fm.of m) j p N 2 Gc.nxt ab oa y->ztk w year oa u qa sa y=some rz->Jc [.c (.bool qa),.c (.bool sa)] N:=by
  intro u
  induction u with
  | zero=>intro qa sa y N j p q e t ta hp; cases hp
  | succ u z=>
   intro qa sa y N j p q e t ta hp;refine Fc _ _ _ ?_;rw[ztk] at hp;obtain⟨Kc,Ma,Na,Oa⟩:=ta.next q;refine⟨Kc,Ma,fun mb=>?_,fun bd cd dd ob=>?_⟩
   ·have hp:=zrf (Na mb) hp;refine zqV hp (fun pb hp=>?_) fun pb hp=>?_
    ·obtain rfl:=oi hp;exact hq _ q.ext'
    refine zqV hp (fun qb hp=>?_) fun qb hp=>?_
    ·obtain rfl:=oi hp;exact hq _ q.ext'
    obtain rfl:=oi hp;exact hq _ q.ext'
   obtain⟨rb,n,sb,tb,Pa,Nc,Qa,Ia,ua,ub,va⟩:=Oa _ _ _ ob;have hp:=zrg Pa hp;obtain⟨vb,Ra,hp⟩:=zqq hp;obtain rfl:vb=tb:=oi (Ra.symm.trans Qa);generalize rb++sb=Rc at hp va;have wb:=t.k ub;refine⟨_,_,_,Ia,?_⟩;intro ed xb;obtain⟨yb,O,wa,zb⟩:=ua.blk xb p 3;have Ab:=wb.k wa;have Bb:=va.k wa ua.sub O (by decide);obtain⟨Cb,Db,P,xa,Eb⟩:=zb.sto O [Il n.cls,Il n.since];have Fb:=Ab.k xa;have Gb:=Bb.k xa O.sub P (by decide);refine⟨Cb,Db,?_⟩;intro fd Hb;obtain⟨Ib,S,T,Sa⟩:=P.growK Hb yb 4;have ya:=Fb.k T;have za:=Eb.k T;have Jb:=Gb.k T P.sub S (by decide);have Kb:=Sa 0 (by decide);refine⟨_,_,_,_,_,_,_,_,_,_,_,_,_,ya.bk.ra,?_⟩;intro hd Mb;obtain⟨i,Y,A,Nb⟩:=Mo.new (K:=Stt) (V':=Bool) S Mb Ib 5;have Aa:=ya.k A;have Ba:=za.k A;have Ob:=Kb.k A;have Pb:=Jb.k A S.sub Y (by decide);refine⟨(by rw[show zaL cmC _=true from (zrt (zoV rfl) (zrt (zoV rfl) (zrt (zoV rfl) (zrt (zoV rfl) (zrt (zoV rfl) (zrt (zoV ha105.noFn) (zrt (zoV rfl) (zrt (zoV ha107.noFn) (zrt (zrr ha108.1) (zrt (zrr ha109.1) (zrt (zrr ha110.1) (zrt (zrr ha111.1) (zrt (zoV ha112.noFn) zrs)))))))))))))]; exact(Aa.bk.ra)),_,_,Ba.bk.ra,(za.bk.ra),?_⟩;obtain⟨Qb,hp⟩:=zqr hp;obtain⟨Rb,Sb,hp⟩:=zqq hp;obtain⟨Tb,Ub,Z,B,Vb⟩:=Mo.up zum Y Nb (k:=n) Qb (v:=true) Sb (kv:=.agg 2 [Il n.cls,Il n.since]) (yv:=.c (.bool true)) rfl rfl;have Ca:=Aa.k B;have Wb:=Ba.k B;have Xb:=Ob.k B;have Yb:=Pb.k B Y.sub Z (by decide);refine⟨Tb,Ub,?_⟩;refine⟨(by rw[show zaL cmC _=true from (zrt (zoV rfl) (zrt (zoV rfl) (zrt (zoV rfl) (zrt (zoV rfl) (zrt (zoV rfl) (zrt (zoV ha105.noFn) (zrt (zoV rfl) (zrt (zoV ha107.noFn) (zrt (zrr ha108.1) (zrt (zrr ha109.1) (zrt (zrr ha110.1) (zrt (zrr ha111.1) (zrt (zoV ha112.noFn) zrs)))))))))))))]; exact(Ca.bk.ra)),?_⟩
   obtain⟨Tc,D,d,Ta⟩:=Vb.freeze Z;have Zb:=Ca.k d;have ac:=Wb.k d;have bc:=Xb.k d;have cc:=Yb.k d Z.sub D (by decide);obtain⟨dc,ec,hp⟩:=zqq hp;refine zvb (w:=w) (before:=Rb) (year:=year) D.pre (ha105.sub (Sub.trans (Sub.trans g.fs e) d.fs)) (ha107.sub (Sub.trans (Sub.trans g.fs e) d.fs)) (ha108.sub (Sub.trans (Sub.trans g.fs e) d.fs)) (ha109.sub (Sub.trans (Sub.trans g.fs e) d.fs)) (ha110.sub (Sub.trans (Sub.trans g.fs e) d.fs)) (ha111.sub (Sub.trans (Sub.trans g.fs e) d.fs)) (ha112.sub (Sub.trans (Sub.trans g.fs e) d.fs)) Ta ec fun id F Uc fc gc=>?_;obtain⟨G,h⟩:=D.callG fc i;have hc:=Zb.k h;have ic:=ac.k h;have jc:=bc.k h;have kc:=cc.k h D.sub G (by decide);refine⟨_,rfl,?_⟩;obtain⟨a,nc,hp⟩:=zqq hp;refine zu8 (s:=dc) G.pre gc nc fun jd oc=>?_;obtain⟨aa,I⟩:=G.call oc i;have pc:=hc.k I;have qc:=ic.k I;have sc:=jc.k I;have tc:=kc.k I G.sub aa (by decide);refine⟨_,_,_,_,_,_,rfl,?_⟩;intro kd uc;obtain⟨ba,ca,vc⟩:=sc.set aa uc;have Da:=pc.k ca;have Ea:=qc.k ca;have wc:=tc.k ca aa.sub ba (by decide);refine⟨(Ea.bk.ra),(by rw[show zaL cmC _=true from (zrt (zoV rfl) (zrt (zoV rfl) (zrt (zoV rfl) (zrt (zoV rfl) (zrt (zoV rfl) (zrt (zoV ha105.noFn) (zrt (zoV rfl) (zrt (zoV ha107.noFn) (zrt (zrr ha108.1) (zrt (zrr ha109.1) (zrt (zrr ha110.1) (zrt (zrr ha111.1) (zrt (zoV ha112.noFn) zrs)))))))))))))]; exact(Da.bk.ra)),?_⟩;obtain⟨xc,yc,o,da,ea⟩:=vc.sto ba [.bool a.c0,.bool a.c1,.bool a.c2,.bool a.c3,.bool a.c4,.bool a.c5]
   have fa:=Da.k da;have ga:=Ea.k da;have ha:=wc.k da ba.sub o (by decide);refine⟨xc,yc,?_⟩;refine zqU hp (fun zc hp=>?_) fun zc hp=>?_
   ·refine zqU hp (fun Ac hp=>?_) fun Ac hp=>?_
    ·exact z _ _ _ _ F i o (Sub.trans (Sub.trans e d.fs) h.fs) fa ha hp
    refine⟨trivial,_,ga.bk.rc rfl,trivial,?_⟩;obtain⟨Vc,ia,hp⟩:=zqq hp;obtain⟨Oc,Ua,Va,ia⟩:=zqk ia;refine⟨Oc,Ua,Va,_,(ea.bk.rc (zqP (l:=([a.c0,a.c1,a.c2,a.c3,a.c4,a.c5]:List Bool)) (enc:=C.bool) 0 rfl ia)),?_⟩;exact z _ _ _ _ F i o (Sub.trans (Sub.trans e d.fs) h.fs) fa ha hp
   refine⟨_,_,_,_,_,_,ea.bk.ra,trivial,_,ga.bk.rc rfl,?_⟩;obtain⟨Xc,Bc,hp⟩:=zqq hp;refine zu2 (class_:=n.cls) o.pre  Bc fun ld Cc=>?_;obtain⟨ja,J⟩:=o.call Cc i;have Fa:=fa.k J;have Dc:=ga.k J;have Ga:=ea.k J;have Ha:=ha.k J o.sub ja (by decide);refine⟨_,_,_,_,_,_,rfl,(Ga.bk.ra),?_⟩;refine zqU hp (fun Ec hp=>?_) fun Ec hp=>?_
   ·exact z _ _ _ _ F i ja (Sub.trans (Sub.trans e d.fs) h.fs) Fa Ha hp
   refine⟨trivial,_,Dc.bk.rc rfl,trivial,?_⟩;obtain⟨Yc,ka,hp⟩:=zqq hp;obtain⟨Pc,Wa,Xa,ka⟩:=zqk ka;refine⟨Pc,Wa,Xa,_,(Ga.bk.rc (zqP (l:=([a.c0,a.c1,a.c2,a.c3,a.c4,a.c5]:List Bool)) (enc:=C.bool) 0 rfl ka)),?_⟩;exact z _ _ _ _ F i ja (Sub.trans (Sub.trans e d.fs) h.fs) Fa Ha hp
 exact hgo _ _ _ _ _ pa hb ib (Sub.refl _) t kb hp
theorem zve{w:Wk}{ca105 ca107 ca108 ca109 ca110 ca111 ca112:C}{m f:M}{Q:V->M->Prop}{rz:C6}(hS:Pre f m)(ha105:Sl f ca105 w.r.Price)(ha107:Sl f ca107 w.zone.Years)(ha108:zuj f ca108 w.kinds.k0.lead)(ha109:zuj f ca109 w.kinds.k1.lead)(ha110:zuj f ca110 w.kinds.k2.lead)(ha111:zuj f ca111 w.kinds.k3.lead)(ha112:Sl f ca112 w.can)(hp:ztm w=some rz)(hq:∀m',Ext m m'->Q (.agg 6 [.bool rz.c0,.bool rz.c1,.bool rz.c2,.bool rz.c3,.bool rz.c4,.bool rz.c5]) m'):Wc prog tbl 91 [.agg 13 [Il w.r.Classes,Il w.r.Good,Il w.r.Bad,Il w.r.Rest,Il w.r.Fewest,ca105,Il w.zone.First,ca107,ca108,ca109,ca110,ca111,ca112]] m Q:=by
 have S0:=hS.st;obtain⟨τ0,_⟩:=zr0;refine w91 ?_;unfold ztm at hp;intro m0 h;obtain⟨i,j,S,l⟩:=S0.blk h τ0 1;intro m1 n;obtain⟨c,d,o,p⟩:=j.blk n i 2;have e:=l.k o;refine⟨_,_,_,_,_,_,_,_,_,_,_,_,_,e.bk.ra,trivial,_,e.bk.rc rfl,ha112.isSl,?_⟩
 try rw[ha112.slLen]
 obtain⟨q,t,hp⟩:=zqq hp;refine zvc (w:=w) (years:=(w.can.length:Int)) d.pre ha105 ha107 ha108 ha109 ha110 ha111 ha112 t fun ca T Y u y=>?_;obtain⟨g,z⟩:=d.callG u c;have A:=p.k z;refine⟨_,rfl,?_⟩;obtain⟨a,B,hp⟩:=zqq hp;refine zu8 (s:=q) g.pre y B fun da D=>?_;obtain⟨F,G⟩:=g.call D c;have I:=A.k G;refine⟨_,_,_,_,_,_,rfl,?_⟩;obtain⟨J,N,O,Z,P⟩:=I.sto F [.bool a.c0,.bool a.c1,.bool a.c2,.bool a.c3,.bool a.c4,.bool a.c5];refine⟨J,N,?_⟩;refine⟨_,_,_,_,_,_,P.bk.ra,?_⟩;obtain rfl:=oi hp;exact hq _ O.ext'
theorem zvf{w:Wk}{ca105 ca107 ca108 ca109 ca110 ca111 ca112:C}{m f:M}{Q:V->M->Prop}{rz:List Int}(hS:Pre f m)(ha105:Sl f ca105 w.r.Price)(ha107:Sl f ca107 w.zone.Years)(ha108:zuj f ca108 w.kinds.k0.lead)(ha109:zuj f ca109 w.kinds.k1.lead)(ha110:zuj f ca110 w.kinds.k2.lead)(ha111:zuj f ca111 w.kinds.k3.lead)(ha112:Sl f ca112 w.can)(hp:zto w=some rz)(hq:∀m' f' c0,Grw m f m' f'->Sl f' c0 rz->Q (.c c0) m'):Wc prog tbl 67 [.agg 13 [Il w.r.Classes,Il w.r.Good,Il w.r.Bad,Il w.r.Rest,Il w.r.Fewest,ca105,Il w.zone.First,ca107,ca108,ca109,ca110,ca111,ca112]] m Q:=by
 have S0:=hS.st;obtain⟨τ0,_⟩:=zr0;refine w67 ?_;unfold zto at hp;intro m0 N;obtain⟨o,z,ya,A⟩:=S0.blk N τ0 1;refine⟨_,_,_,_,_,_,_,_,_,_,_,_,_,A.bk.ra,?_⟩;obtain⟨O,P,hp⟩:=zqq hp;refine zve (w:=w) z.pre ha105 ha107 ha108 ha109 ha110 ha111 ha112 P fun Ea S=>?_;obtain⟨B,T⟩:=z.call S o;have Y:=A.k T;refine⟨_,_,_,_,_,_,rfl,?_⟩;obtain⟨Z,aa,hp⟩:=zqq hp;refine zu3 (c:=O) B.pre  aa fun Fa g za ba h=>?_;obtain⟨ca,D⟩:=B.callG ba o;have d:=Y.k D;refine⟨_,rfl,h.isSl,?_⟩;intro va ua
 have hgo:∀(i:Nat) (t:C) (F:Int) (j:List Int) (n:M) (l:Nat->Nat),St (Fm.of m) f g n->Lb (Fm.of m) g l n 1 m.nxt 13 [Il w.r.Classes,Il w.r.Good,Il w.r.Bad,Il w.r.Rest,Il w.r.Fewest,ca105,Il w.zone.First,ca107,ca108,ca109,ca110,ca111,ca112]->Ow (Fm.of m) g l n 2 t j->ztn w Z i j F=some rz->va [.c t,.c (Il F)] n:=by
  intro i
  induction i with
  | zero=>intro t F j n l e d p hp; cases hp
  | succ i da=>
   intro t F j n l e d p hp;refine ua _ _ _ ?_;rw[ztn] at hp
   try rw[h.slLen]
   refine ifd hp (fun ea hp=>?_) fun ea hp=>?_; rotate_left
   ·obtain⟨fa,ga,Aa,ha⟩:=p.freeze e;obtain rfl:=oi hp;exact hq _ fa t ga.grw ha
   obtain⟨Ba,q,hp⟩:=zqq hp;obtain⟨wa,I,u,q⟩:=zqk q;refine⟨wa,I,(by first|exact u|(rw[h.slLen];exact u)),_,(h.rdI q e.sub),trivial,trivial,_,d.bk.rc rfl,?_⟩;obtain⟨G,s,hp⟩:=zqq hp;obtain⟨xa,J,y,s⟩:=zqk s;refine⟨xa,J,(by first|exact y|(rw[ha105.slLen];exact y)),_,(ha105.rdI s (Sub.trans D.fs e.sub)),?_⟩;obtain⟨ia,hp⟩:=zqr hp;intro Ga ja;obtain⟨ka,la,ma,na,oa,pa,qa⟩:=p.app' zuo e (a:=G) (show Rp.rep (α:=Int) g _ G from rfl) ia ja;have sa:=d.k pa;refine⟨ka,la,na,?_⟩;refine gdi hp fun ta hp=>?_;exact da _ _ _ _ ma oa sa qa hp
 exact hgo _ _ _ _ _ o ca d (Ow.nil _ _ _ _ _) hp
theorem zvg{w:Wk}{ca105 ca107 ca108 ca109 ca110 ca111 ca112:C}{m f:M}{Q:V->M->Prop}{rz:List Int}(hS:Pre f m)(_ha105:Sl f ca105 w.r.Price)(_ha107:Sl f ca107 w.zone.Years)(_ha108:zuj f ca108 w.kinds.k0.lead)(_ha109:zuj f ca109 w.kinds.k1.lead)(_ha110:zuj f ca110 w.kinds.k2.lead)(_ha111:zuj f ca111 w.kinds.k3.lead)(ha112:Sl f ca112 w.can)(hp:ztq w=some rz)(hq:∀m' f' c0,Grw m f m' f'->Sl f' c0 rz->Q (.c c0) m'):Wc prog tbl 70 [.agg 13 [Il w.r.Classes,Il w.r.Good,Il w.r.Bad,Il w.r.Rest,Il w.r.Fewest,ca105,Il w.zone.First,ca107,ca108,ca109,ca110,ca111,ca112]] m Q:=by
 have S0:=hS.st;obtain⟨τ0,_⟩:=zr0;refine w70 ?_;unfold ztq at hp;intro m0 Y;obtain⟨Z,aa,Ka,g⟩:=S0.blk Y τ0 1;refine⟨trivial,_,g.bk.rc rfl,ha112.isSl,?_⟩;intro R2 Ja
 have hgo:∀(l:Nat) (P:C) (N:Int) (n:List Int) (O:M) (e:M) (h:Nat->Nat),St (Fm.of m) f e O->Sub f e->Lb (Fm.of m) e h O 1 m.nxt 13 [Il w.r.Classes,Il w.r.Good,Il w.r.Bad,Il w.r.Rest,Il w.r.Fewest,ca105,Il w.zone.First,ca107,ca108,ca109,ca110,ca111,ca112]->Ow (Fm.of m) e h O 2 P n->ztp w l n N=some rz->R2 [.c P,.c (Il N)] O:=by
  intro l
  induction l with
  | zero=>intro P N n O e h o i g d hp; cases hp
  | succ l S=>
   intro P N n O e h o i g d hp;refine Ja _ _ _ ?_;rw[ztp] at hp
   try rw[ha112.slLen]
   refine ifd hp (fun ba hp=>?_) fun ba hp=>?_; rotate_left
   ·obtain⟨ca,da,La,ea⟩:=d.freeze o;obtain rfl:=oi hp;exact hq _ ca P da.grw ea
   obtain⟨j,t,hp⟩:=zqq hp;obtain⟨n6,T,z,t⟩:=zqk t;obtain⟨_,fa⟩:=zr7 ha112 t;refine⟨n6,T,(by first|exact z|(rw[ha112.slLen];exact z)),_,_,_,_,(fa _ (Sub.trans i o.sub)).1,?_⟩;intro Ua ga;obtain⟨u,ha,A,ia⟩:=o.blk ga h 3;have ja:=g.k A;have d:=d.k A;obtain⟨ka,la,B,D,ma⟩:=ia.sto ha [.bool j.p0,.bool j.p1,.bool j.p2,.bool j.p3];have na:=ja.k D;have d:=d.k D;refine⟨ka,la,?_⟩;refine⟨_,_,_,_,ma.bk.ra,?_⟩;obtain⟨oa,pa,hp⟩:=zqq hp;refine zu5 (p:=j) B.pre  pa fun Va Ma Na qa sa=>?_;obtain⟨F,q⟩:=B.callG qa u;have ta:=na.k q;have d:=d.k q;refine⟨_,rfl,?_⟩;obtain⟨Oa,ua,hp⟩:=zqq hp;refine zu7 (seq:=oa) F.pre sa ua fun Wa y Pa va G=>?_;obtain⟨I,s⟩:=F.callG va u;have J:=ta.k s;have d:=d.k s;refine⟨_,rfl,G.isSl,?_⟩
   try rw[G.slLen]
   refine ifd hp (fun wa hp=>?_) fun wa hp=>?_; rotate_left
   ·refine gdi hp fun xa hp=>?_;exact S _ _ _ _ y u I (Sub.trans (Sub.trans i q.fs) s.fs) J d hp
   obtain⟨ya,hp⟩:=zqr hp;intro Xa za;obtain⟨Aa,Ba,Ca,Da,Ea,Fa,Ga⟩:=d.app' zuo I (a:=N) (show Rp.rep (α:=Int) y _ N from rfl) ya za;have Ha:=J.k Fa;refine⟨Aa,Ba,Da,?_⟩;refine gdi hp fun Ia hp=>?_;exact S _ _ _ _ y Ca Ea (Sub.trans (Sub.trans i q.fs) s.fs) Ha Ga hp
 exact hgo _ _ _ _ _ f Z aa (Sub.refl _) g (Ow.nil _ _ _ _ _) hp
theorem zvh{l:List P4}{ca100:C}{m f:M}{Q:V->M->Prop}{rz:List P4}(hS:Pre f m)(ha100:Sl f ca100 l)(hp:ztr l=some rz)(hq:∀m' f' c0,Grw m f m' f'->On m f' m' c0 rz->Q (.c c0) m'):Wc prog tbl 112 [.c ca100] m Q:=by
 have q:=hS.st;obtain⟨r,_⟩:=zr0;refine zt8 ?_;unfold ztr at hp;refine⟨(zrp ha100),(zrp ha100),trivial,(Bool.or_true _),?_⟩
 cases d:zl9 ca100 with
 | true=>
  refine zqX ?_;obtain rfl:=zro ha100 d;obtain⟨_,hp⟩:=zqr hp;obtain rfl:=oi hp;exact hq _ _ .sl0 q.grw (Ow.nil _ _ r _ 0).on
 | false=>
  refine zqW ?_;intro y e;obtain⟨s,g,t,h⟩:=Ow.lit0 (α:=P4) q r 1 e;obtain⟨i,hp⟩:=zqr hp;obtain⟨a,j,u,n,o,w,p⟩:=h.appL zup g ha100 i;refine⟨a,j,n,?_⟩;obtain rfl:=oi hp;exact hq _ f a o.grw p.on
theorem zvi{w:Wk}{list:List Int}{ca105 ca107 ca108 ca109 ca110 ca111 ca112 ca200:C}{m f:M}{Q:V->M->Prop}{rz:Wk}(hS:Pre f m)(ha105:Sl f ca105 w.r.Price)(ha107:Sl f ca107 w.zone.Years)(ha108:zuj f ca108 w.kinds.k0.lead)(ha109:zuj f ca109 w.kinds.k1.lead)(ha110:zuj f ca110 w.kinds.k2.lead)(ha111:zuj f ca111 w.kinds.k3.lead)(ha112:Sl f ca112 w.can)(ha200:Sl f ca200 list)(hp:ztt w list=some rz)(hq:∀m' f' c5 c7 c8 c9 c10 c11 c12,Grw m f m' f'->Sl f' c5 rz.r.Price->Sl f' c7 rz.zone.Years->zuj f' c8 rz.kinds.k0.lead->zuj f' c9 rz.kinds.k1.lead->zuj f' c10 rz.kinds.k2.lead->zuj f' c11 rz.kinds.k3.lead->Sl f' c12 rz.can->Q (.agg 13 [Il rz.r.Classes,Il rz.r.Good,Il rz.r.Bad,Il rz.r.Rest,Il rz.r.Fewest,c5,Il rz.zone.First,c7,c8,c9,c10,c11,c12]) m'):Wc prog tbl 96 [.agg 13 [Il w.r.Classes,Il w.r.Good,Il w.r.Bad,Il w.r.Rest,Il w.r.Fewest,ca105,Il w.zone.First,ca107,ca108,ca109,ca110,ca111,ca112],.c ca200] m Q:=by
 have S0:=hS.st;obtain⟨τ0,_⟩:=zr0;refine w96 ?_;unfold ztt at hp;intro m0 va;obtain⟨wa,xa,wb,ya⟩:=S0.blk va τ0 1;intro m1 za;obtain⟨Aa,ha,Ba,Ca⟩:=xa.blk za wa 2;have ia:=ya.k Ba;refine⟨trivial,_,ia.bk.rc rfl,?_⟩;obtain⟨xb,Da,hp⟩:=zqq hp;refine zvh (l:=w.can) ha.pre ha112 Da fun m4 I ja Ea Fa=>?_;obtain⟨Ga,Ha,d,P⟩:=ha.callO Ea Fa Aa 3;have Ia:=ia.k d;have Ja:=Ca.k d;refine⟨_,rfl,trivial,?_⟩;obtain⟨Ka,La,Ma,ka,e⟩:=Ia.sto1 Ha 12 ja (by simp) rfl
 replace e:Lb _ _ _ _ _ _ _ [Il w.r.Classes,Il w.r.Good,Il w.r.Bad,Il w.r.Rest,Il w.r.Fewest,ca105,Il w.zone.First,ca107,ca108,ca109,ca110,ca111,ja]:=e
 have D:=Ja.k ka;have P:=P.k ka;refine⟨Ka,La,?_⟩;refine⟨ha200.isSl,?_⟩;intro R7 qb
 have hgo:∀(J:Nat) (x8:Int) (n:C) (o:Int) (p:Int) (q:Int) (s:Int) (t:Int) (F:Int) (u:List P4) (m9:M) (g:Nat->Nat),St (Fm.of m) f I m9->Lb (Fm.of m) I g m9 1 m.nxt 13 [Il o,Il p,Il q,Il s,Il t,ca105,Il F,ca107,ca108,ca109,ca110,ca111,n]->Lb (Fm.of m) I g m9 2 m0.nxt 13 [Il 0,Il 0,Il 0,Il 0,Il 0,.sl0,Il 0,.sl0,C.nilFn,C.nilFn,C.nilFn,C.nilFn,.sl0]->Ow (Fm.of m) I g m9 3 n u->zts w list J o p q s t F u x8=some rz->R7 [.c (Il x8)] m9:=by
  intro J
  induction J with
  | zero=>intro x8 n o p q s t F u m9 g A e D a hp; cases hp
  | succ J sa=>
   intro x8 n o p q s t F u m9 g A e D a hp;refine qb _ _ ?_;rw[zts] at hp
   try rw[ha200.slLen]
   refine ifd hp (fun Oa hp=>?_) fun Oa hp=>?_; rotate_left
   ·refine⟨_,_,_,_,_,_,_,_,_,_,_,_,_,e.bk.ra,?_⟩;obtain⟨Pa,Qa,Ra,Sa,Ta⟩:=D.sto A [Il o,Il p,Il q,Il s,Il t,ca105,Il F,ca107,ca108,ca109,ca110,ca111,n];have a:=a.k Sa;refine⟨Pa,Qa,?_⟩;refine⟨_,_,_,_,_,_,_,_,_,_,_,_,_,Ta.bk.ra,?_⟩;obtain⟨Ua,Va,B,Wa⟩:=a.freeze Ra;obtain rfl:=oi hp;exact hq _ Ua ca105 ca107 ca108 ca109 ca110 ca111 n Va.grw (ha105.sub (Sub.trans d.fs B.fs)) (ha107.sub (Sub.trans d.fs B.fs)) (ha108.sub (Sub.trans d.fs B.fs)) (ha109.sub (Sub.trans d.fs B.fs)) (ha110.sub (Sub.trans d.fs B.fs)) (ha111.sub (Sub.trans d.fs B.fs)) Wa
   obtain⟨la,S,hp⟩:=zqq hp;obtain⟨rb,ta,ca,S⟩:=zqk S;refine⟨rb,ta,(by first|exact ca|(rw[ha200.slLen];exact ca)),_,(ha200.rdI S (Sub.trans d.fs A.sub)),trivial,_,_,_,_,_,_,e.bk.rp (k:=0) (j:=6) rfl (by omega),trivial,trivial,_,e.bk.rc rfl,?_⟩;obtain⟨Xa,T,hp⟩:=zqq hp;obtain⟨sb,ua,da,T⟩:=zqk T;obtain⟨_,Ya⟩:=zr5 ha107 T;refine⟨sb,ua,(by first|exact da|(rw[ha107.slLen];exact da)),_,_,_,_,_,_,(Ya _ (Sub.trans d.fs A.sub)).1,?_⟩;obtain⟨yb,Za,hp⟩:=zqq hp;refine zuZ (r:=({ Classes:=o,Good:=p,Bad:=q,Rest:=s,Fewest:=t,Price:=w.r.Price }:Rl)) (y:=Xa) A.pre (ha105.sub d.fs) Za fun Db ab=>?_;obtain⟨Y,Z⟩:=A.call ab g;have aa:=e.k Z;have ma:=D.k Z;have a:=a.k Z;refine⟨_,rfl,?_⟩;refine zqU hp (fun bb hp=>?_) fun bb hp=>?_; rotate_left
   ·refine gdi hp fun cb hp=>?_;exact sa _ _ _ _ _ _ _ _ _ _ g Y aa ma a hp
   refine⟨trivial,_,aa.bk.rc rfl,?_⟩;obtain⟨i,db,hp⟩:=zqq hp;refine zu1 Y.pre  db fun Eb eb=>?_;obtain⟨fb,ba⟩:=Y.call eb g;have na:=aa.k ba;have gb:=ma.k ba;have a:=a.k ba;refine⟨_,_,_,_,rfl,(by rw[show cmC _=true from zoV (a.noFn)]; exact(na.bk.rc rfl)),?_⟩;obtain⟨N,G,hp⟩:=zqq hp;obtain⟨oa,O,ea,G⟩:=zqk G;refine⟨oa,O,(by first|exact ea|(rw[a.slLen];exact ea)),?_⟩;obtain⟨hb,ib,jb,pa,qa⟩:=a.setP fb (a':=i) G [.bool N.p0,.bool N.p1,.bool N.p2,.bool N.p3] (fun _ h=>h) 0 [.bool i.p0,.bool i.p1,.bool i.p2,.bool i.p3] (Nat.le_of_ble_eq_true rfl) rfl
   have fa:Int.toNat la=oa:=by rw[O]; rfl
   rw[<- fa] at qa;have tb:=O;have kb:(u.set (Int.toNat la) i)[oa]? = some i:=(congrArg (fun z=>(u.set z i)[oa]?) fa).trans (List.getElem?_set_self (List.getElem?_eq_some_iff.1 G).1);have ub:=(List.getElem?_eq_some_iff.1 kb).1;have mb:=na.k pa;have ob:=gb.k pa;refine⟨hb,(by have h9:=ib; rw[a.add0 G] at h9; exact h9),?_⟩;refine gdi hp fun pb hp=>?_;exact sa _ _ _ _ _ _ _ _ _ _ g jb mb ob qa hp
 exact hgo _ _ _ _ _ _ _ _ _ _ _ Ga Ma e D P hp
theorem zvj{r:Rg}{m f:M}{Q:V->M->Prop}{rz:Int}(hS:Pre f m)(hp:ztu r=some rz)(hq:∀m',Ext m m'->Q (.c (Il rz)) m'):Wc prog tbl 116 [.agg 2 [Il r.Lo,Il r.Hi]] m Q:=by
 have l:=hS.st;obtain⟨n,_⟩:=zr0;refine zuh ?_;unfold ztu at hp;intro o d;obtain⟨i,e,j,a⟩:=l.blk d n 1;refine⟨trivial,_,a.bk.rc rfl,trivial,_,a.bk.rc rfl,?_⟩;refine gdi hp fun g hp=>?_;refine gdi hp fun h hp=>?_;obtain rfl:=oi hp;exact hq _ e.ext'
theorem zvk(y:C)(b b2:Nat){m:M}{Q:V->M->Prop}(h:(∀e:M,(e=M.new m (AO.cells 1 [y] false))->∃g,ldC e (.ptr b 0)=some (Il g)/\∃i:Nat,∃a:Nat,g=((i:Nat):Int)/\g=((a:Nat):Int)/\i<=a/\a<=4096/\∀f:M,(f=M.new e (AO.cells (a * 1) (zaJ [Il 0] a) false))->∀l:M,(l=M.new f (AO.cells 1 [C.sl0] false))->∃d:M,stC l (.ptr f.nxt 0) 1 [.sl e.nxt 0 i 0 (some a)]=some d/\∀o:M,(o=M.new d (AO.cells 1 [C.nilFn] false))->∃j:M,stC o (.ptr d.nxt 0) 1 [(C.fn (Fn.func 122) [] [(W.c (C0.ptr b 0)),(W.c (C0.ptr m.nxt 0)),(W.c (C0.ptr f.nxt 0)),(W.c (C0.ptr b2 0)),(W.c (C0.ptr d.nxt 0))])]=some j/\∃p,ldC j (.ptr d.nxt 0)=some p/\zmw prog tbl [.c (Il 0),(.c (Il 0))] p j (fun q r=>∃s,q=.c (.bool s)/\Q (.tup []) r))):Wc prog tbl 121 [.c y,.c (.ptr b 0),.c (.ptr b2 0)] m Q:=zpK (n:=3) rfl (by kernel_rfl) (by kernel_rfl) h
theorem zvl(at' from':Int)(b k h2 b2 cv:Nat){m:M}{Q:V->M->Prop}(h:(∃q,ldC m (.ptr b 0)=some (Il q)/\ifB (decide (at'=q)) (∃r,ldC m (.ptr k 0)=some r/\∃s,ldC m (.ptr h2 0)=some s/\zmw prog tbl [.c s] r m (fun y z=>∃t,y=.c (.bool t)/\Q (.c (.bool t)) z)) (∀p:List V->M->Prop,(∀u:Bool,∀a:Int,∀d:M,(∃i,ldC d (.ptr b2 0)=some (Il i)/\ifB (decide (a < i)) (∃e,ldC d (.ptr h2 0)=some e/\∃f:Nat,at'=((f:Nat):Int)/\f < (slLen e)/\∃g:M,stC d (zl8 e (f * 1)) 1 [Il a]=some g/\∃j,ldC g (.ptr cv 0)=some j/\zl6 .i64 (at'+(1:Int))/\zl6 .i64 (a+1)/\zmw prog tbl [.c (Il (at'+(1:Int))),(.c (Il (a+1)))] j g (fun w l=>∃o,w=.c (.bool o)/\ifB (!o) (Q (.c (.bool false)) l) (zl6 .i64 (a+1)/\p [.c (.bool u),(.c (Il (a+1)))] l))) (Q (.c (.bool true)) d))->p [.c (.bool u),(.c (Il a))] d)->p [.c (.bool false),(.c (Il from'))] m))):Wc prog tbl 122 [.c (Il at'),.c (Il from'),.c (.ptr b 0),.c (.ptr k 0),.c (.ptr h2 0),.c (.ptr b2 0),.c (.ptr cv 0)] m Q:=zpK (n:=7) rfl (by kernel_rfl) (by kernel_rfl) h
theorem t22:tk prog 22=.sl 3:=by kernel_rfl
theorem g3:zcw prog 3=true:=by kernel_rfl
theorem z3:prog.cellsOf 3=1:=by kernel_rfl
theorem zvm{P:List Int}{p:Nat}(hp:p < P.length)(n:Int):(P.set p n).take (p+1)=P.take p++[n]:=by
 rw[List.take_add_one,List.getElem?_set_self hp,List.take_set_of_le (Nat.le_refl _)]; rfl
theorem _root_.Go.Abs.Chg.trans{S S1:Nat->Prop}{T:Nat->Prop}{m m1 m2:M}(h1:Chg (fun b=>S b\/T b) m m1)(h2:Chg (fun b=>S1 b\/T b) m1 m2)(ho:Own S m S1):Chg (fun b=>S b\/T b) m m2:=
 ⟨Nat.le_trans h1.nxt h2.nxt,fun b hb hS=>by
  rw[h2.g b (Nat.lt_of_lt_of_le hb h1.nxt) fun h=>h.elim (fun h3=>(ho b h3).elim (fun h4=>hS (.inl h4)) fun h4=>by omega) fun h3=>hS (.inr h3)]
  exact h1.g b hb hS,h2.vw.trans h1.vw⟩
theorem _root_.Go.Abs.Own.refl(S:Nat->Prop)(m:M):Own S m S:=fun _ hb=>.inl hb
theorem _root_.Go.Abs.Own.trans{S S1 S2:Nat->Prop}{m m1:M}(h1:Own S m S1)(h2:Own S1 m1 S2)(hn:m.nxt<=m1.nxt):Own S m S2:=fun b hb=>(h2 b hb).elim (h1 b) fun h=>.inr (by omega)
theorem _root_.Go.Abs.Chg.or{S T:Nat->Prop}{m m':M}(h:Chg S m m'):Chg (fun b=>S b\/T b) m m':=⟨h.nxt,fun b hb hS=>h.g b hb fun h2=>hS (.inl h2),h.vw⟩
theorem zvn(L:List Int)(i:Nat)(v:Int):(zqc L).set i (.int .i64 v)=zqc (L.set i v):=by unfold zqc; rw[List.map_set]
theorem zvo{n:Int}(h1:-1000000<=n)(h2:n<=1000000):zl6 .i64 n:=by simp only[zl6]; omega
theorem zvp{α:Type}(g:Nat->List α)(a:α):∀(e n:Nat),a∈zrl g e n↔∃j,n<=j/\j < n+e/\a∈g j
 | 0,n=>⟨fun h=>(by cases h),fun⟨j,h1,h2,_⟩=>by omega⟩
 | e+1,n=>by
  show a∈g n++zrl g e (n+1)↔_
  rw[List.mem_append,zvp g a e (n+1)]
  constructor
  ·rintro (h | ⟨j,h1,h2,h3⟩)
   ·exact⟨n,Nat.le_refl _,by omega,h⟩
   ·exact⟨j,by omega,by omega,h3⟩
  ·rintro⟨j,h1,h2,h3⟩
   by_cases hj:j=n
   ·subst hj; exact .inl h3
   ·exact .inr ⟨j,by omega,by omega,h3⟩
def hdr(bl size:Nat):C:=.sl bl 0 size 0 (some size)
def flC(b k h2 b2 cv:Nat):C:=.fn (.func 122) [] [.c (.ptr b 0),.c (.ptr k 0),.c (.ptr h2 0),.c (.ptr b2 0),.c (.ptr cv 0)]
def VsL(all:List (List Int))(n1 i:Nat)(x:List V)(m:M):Prop:=∃L c,all[i]? = some L/\x=[.c c]/\Li m c L/\(zl9 c=false/\zqj c 1 L.length)/\∀b o n s d,c=.sl b o n s d->n1<=b
theorem _root_.Go.Abs.Bk.st1n{m:M}{b n:Nat}{vs:List C}(h:Bk m b n vs){k:Nat}(c:C)(hk:k < vs.length)(hn:vs.length=n):stC m (.ptr b (0+k * 1)) 1 [c]=some (m.set b (.cells n (vs.set k c) false)):=by
 rw[show 0+k * 1=k by omega]
 by_cases h1:n=1
 ·subst h1
  have hk0:k=0:=by omega
  subst hk0
  have:vs.set 0 c=[c]:=by
   match vs,hn with
   | [a],_=>rfl
  rw[this];exact zp4 h.g [c]
 ·exact zp5 h.g c hk hn h1
theorem zvq(n:Nat):zaJ [C.int .i64 0] n=zqc (List.replicate n 0):=by rw[zeB]; simp[zqc]
structure SlF (n size b b2 l k h2 bl cv:Nat) (S:Nat->Prop) (m:M) (P:List Int):Prop where
 bb:Bk m b 1 [.int .i64 (size:Int)]
 nn:Bk m b2 1 [.int .i64 (n:Int)]
 kk:Bk m k 1 [.fn (.yield l) [] []]
 hh:Bk m h2 1 [hdr bl size]
 ll:Bk m bl size (zqc P)
 cc:Bk m cv 1 [flC b k h2 b2 cv]
 ss:∀b',S b'->b' ≠ b/\b' ≠ b2/\b' ≠ k/\b' ≠ h2/\b' ≠ bl/\b' ≠ cv
 ne:b ≠ bl/\b2 ≠ bl/\k ≠ bl/\h2 ≠ bl/\cv ≠ bl
variable {n size b b2 l k h2 bl cv:Nat}
theorem SlF.to{S S':Nat->Prop}{m m':M}{P:List Int}(h:SlF n size b b2 l k h2 bl cv S m P)(hn:Chg S m m')(ho:Own S m S'):SlF n size b b2 l k h2 bl cv S' m' P:=by
 have tr:∀{b' j:Nat} {vs:List C},Bk m b' j vs->¬ S b'->Bk m' b' j vs:=fun hb hS=>⟨(hn.g _ hb.lt hS).trans hb.g,Nat.lt_of_lt_of_le hb.lt hn.nxt⟩;refine⟨tr h.bb fun h1=>(h.ss _ h1).1 rfl,tr h.nn fun h1=>(h.ss _ h1).2.1 rfl,tr h.kk fun h1=>(h.ss _ h1).2.2.1 rfl,tr h.hh fun h1=>(h.ss _ h1).2.2.2.1 rfl,tr h.ll fun h1=>(h.ss _ h1).2.2.2.2.1 rfl,tr h.cc fun h1=>(h.ss _ h1).2.2.2.2.2 rfl,fun b' hb=>?_,h.ne⟩
 rcases ho b' hb with h1 | h1
 ·exact h.ss b' h1
 ·have:=h.bb.lt; have:=h.nn.lt; have:=h.kk.lt; have:=h.hh.lt; have:=h.ll.lt; have:=h.cc.lt
  omega
theorem SlF.set{S:Nat->Prop}{m:M}{P:List Int}(h:SlF n size b b2 l k h2 bl cv S m P)(P':List Int):SlF n size b b2 l k h2 bl cv S (m.set bl (.cells size (zqc P') false)) P':=
 ⟨h.bb.setNe h.ne.1 _,h.nn.setNe h.ne.2.1 _,h.kk.setNe h.ne.2.2.1 _,h.hh.setNe h.ne.2.2.2.1 _,h.ll.set _,h.cc.setNe h.ne.2.2.2.2 _,h.ss,h.ne⟩
theorem SlF.li{S:Nat->Prop}{m:M}{P:List Int}(h:SlF n size b b2 l k h2 bl cv S m P)(hP:P.length=size):Li m (hdr bl size) P:=by
 refine⟨by rw[zqd]; omega,.inr ⟨bl,0,0,some size,by rw[hP]; rfl,h.ll.lt,fun _=>.inl ⟨size,zqc P,false,h.ll.g,by rw[zqd]; exact hP,by rw[zqd]; omega,by rw[List.drop_zero,List.take_length]⟩⟩⟩
theorem zvr{n0 n1:Nat}(hn:n<=1000)(hsz:size<=1000)(hn0:n0<=bl)(hn1:n1<=bl){all:List (List Int)}{I:Nat->(Nat->Prop)->M->Prop}{E:(Nat->Prop)->M->Prop}(hcl:zqZ prog tbl n0 l (VsL all n1) I E) :
  ∀(d p:Nat),d+p=size->∀(i fr:Nat) (S:Nat->Prop) (m:M) (P:List Int) (Q:V->M->Prop),SlF n size b b2 l k h2 bl cv S m P->P.length=size ->
   (∀j L,(zrm n d (P.take p) fr)[j]? = some L->all[i+j]? = some L)->I i S m ->
   (∀S' m' P',Own S m S'->Chg (fun b'=>S b'\/b'=bl) m m'->SlF n size b b2 l k h2 bl cv S' m' P'->P'.length=size->P'.take p=P.take p->I (i+(zrm n d (P.take p) fr).length) S' m'->Q (.c (.bool true)) m') ->
   (∀S' m',Own S m S'->Chg (fun b'=>S b'\/b'=bl) m m'->E S' m'->Q (.c (.bool false)) m') ->
   Wc prog tbl 122 [.c (.int .i64 (p:Int)),.c (.int .i64 (fr:Int)),.c (.ptr b 0),.c (.ptr k 0),.c (.ptr h2 0),.c (.ptr b2 0),.c (.ptr cv 0)] m Q:=by
 intro d
 induction d with
 | zero=>
  intro p hp i fr S m P Q hst hP hxs hI hT hF;refine zvl (p:Int) (fr:Int) b k h2 b2 cv ⟨_,hst.bb.rc rfl,?_⟩;rw[zpP];refine⟨fun _=>⟨_,hst.kk.rc rfl,_,hst.hh.rc rfl,?_⟩,fun h1=>absurd (by omega) h1⟩;have hx0:=hxs 0 (P.take p) rfl;rw[List.take_of_length_le (by omega),Nat.add_zero] at hx0
  show Wy prog tbl l [.c (hdr bl size)] m _
  refine hcl.yield i _ S m ⟨P,hdr bl size,hx0,rfl,hst.li hP,⟨rfl,.inr (.inl ⟨bl,0,0,size,by rw[hP]; rfl,by omega⟩)⟩,fun b' o n' s d h=>by cases h; exact hn1⟩ hI _ (fun S' m' ho hch hI'=>⟨_,rfl,?_⟩) fun S' m' ho hch hE=>⟨_,rfl,hF S' m' ho (Chg.or hch) hE⟩;exact hT S' m' P ho (Chg.or hch) (hst.to hch ho) hP rfl hI'
 | succ d ih=>
  intro p hp i fr S m P Q hst hP hxs hI hT hF;refine zvl (p:Int) (fr:Int) b k h2 b2 cv ⟨_,hst.bb.rc rfl,?_⟩;rw[zpP];refine⟨fun h1=>by omega,fun _ R6 hstep=>?_⟩
  let g:Nat->List (List Int):=fun x=>zrm n d (P.take p++[(x:Int)]) (x+1)
  have hex:zrm n (d+1) (P.take p) fr=zrl g (n - fr) fr:=rfl;rw[hex] at hxs hT
  have hgo:∀(e x:Nat) (b7:Bool) (m9:M) (S1:Nat->Prop) (P1:List Int) (i1:Nat),n - x=e->Own S m S1->Chg (fun b'=>S b'\/b'=bl) m m9->SlF n size b b2 l k h2 bl cv S1 m9 P1->P1.length=size->P1.take p=P.take p->I i1 S1 m9 ->
    i1+(zrl g e x).length=i+(zrl g (n - fr) fr).length->(∀j L,(zrl g e x)[j]? = some L->all[i1+j]? = some L)->R6 [.c (.bool b7),.c (.int .i64 (x:Int))] m9:=by
   intro e
   induction e with
   | zero=>
    intro x b7 m9 S1 P1 i1 hen ho hch hst1 hP1 htk hI1 hlen hxs1;refine hstep _ _ _ ⟨_,hst1.nn.rc rfl,?_⟩;rw[zpP];refine⟨fun h1=>by omega,fun _=>hT S1 m9 P1 ho hch hst1 hP1 htk ?_⟩;have:i1+0=_:=hlen;rw[<- this,Nat.add_zero]; exact hI1
   | succ e ihe=>
    intro x b7 m9 S1 P1 i1 hen ho hch hst1 hP1 htk hI1 hlen hxs1;refine hstep _ _ _ ⟨_,hst1.nn.rc rfl,?_⟩;rw[zpP];refine⟨fun _=>?_,fun h1=>absurd (by omega) h1⟩
    have hp9:p < P1.length:=by omega
    refine⟨_,hst1.hh.rc rfl,p,rfl,(by show p < size; omega),_,hst1.ll.st1n _ (by rw[zqd]; exact hp9) (by rw[zqd]; exact hP1),?_⟩;rw[zvn];have hst2:=hst1.set (P1.set p (x:Int));have hch2:Chg (fun b'=>S1 b'\/b'=bl) m9 (m9.set bl (.cells size (zqc (P1.set p (x:Int))) false)):=⟨Nat.le_refl _,fun b' _ hS=>by rw[M.g_set,if_neg fun h1=>hS (.inr h1)],rfl⟩;have hI2:I i1 S1 (m9.set bl (.cells size (zqc (P1.set p (x:Int))) false)):=(hcl.li i1).st _ _ _ hI1 (Nat.le_refl _) rfl (fun b' hb=>by rw[M.g_set,if_neg (hst1.ss b' hb).2.2.2.2.1]) (fun b' hb=>by rw[M.g_set,if_neg (by omega)]);have hchm:=Chg.trans (T:=fun b'=>b'=bl) hch hch2 ho;generalize m9.set bl (.cells size (zqc (P1.set p (x:Int))) false)=m13 at hst2 hch2 hI2 hchm
    have hP2:(P1.set p (x:Int)).length=size:=by rw[List.length_set]; exact hP1
    have htk2:(P1.set p (x:Int)).take (p+1)=P.take p++[(x:Int)]:=by rw[zvm hp9,htk]
    have htk3:(P1.set p (x:Int)).take p=P.take p:=by rw[List.take_set_of_le (Nat.le_refl _),htk]
    generalize P1.set p (x:Int)=P2 at hst2 htk2 htk3 hP2;have hge:zrl g (e+1) x=g x++zrl g e (x+1):=rfl
    have hg:g x=zrm n d (P2.take (p+1)) (x+1):=by rw[htk2]
    rw[hge,hg] at hlen hxs1;rw[List.length_append] at hlen;refine⟨_,hst2.cc.rc rfl,zvo (by omega) (by omega),zvo (by omega) (by omega),?_⟩
    show Wc prog tbl 122 [.c (.int .i64 ((p+1:Nat):Int)),.c (.int .i64 ((x+1:Nat):Int)),.c (.ptr b 0),.c (.ptr k 0),.c (.ptr h2 0),.c (.ptr b2 0),.c (.ptr cv 0)] m13 _
    refine ih (p+1) (by omega) i1 (x+1) S1 m13 P2 _ hst2 hP2 (fun j H hj=>hxs1 j H (by rw[List.getElem?_append_left (List.getElem?_eq_some_iff.1 hj).1]; exact hj)) hI2 (fun S' m' P' ho' hch' hst' hP' htk' hI'=>⟨_,rfl,?_⟩) fun S' m' ho' hch' hE=>⟨_,rfl,?_⟩
    ·have htk4:P'.take p=P.take p:=by
      have h1:=congrArg (List.take p) htk';rw[List.take_take,List.take_take,Nat.min_eq_left (by omega)] at h1;rw[h1,htk3]
     refine⟨zvo (by omega) (by omega),ihe (x+1) b7 m' S' P' _ (by omega) (Own.trans ho ho' hchm.nxt) (Chg.trans (T:=fun b'=>b'=bl) hchm hch' ho) hst' hP' htk4 hI' (by omega) fun j H hj=>?_⟩;rw[Nat.add_assoc];exact hxs1 _ H (by rw[List.getElem?_append_right (by omega),Nat.add_sub_cancel_left]; exact hj)
    ·exact hF S' m' (Own.trans ho ho' hchm.nxt) (Chg.trans (T:=fun b'=>b'=bl) hchm hch' ho) hE
  exact hgo (n - fr) fr false m S P i rfl (Own.refl S m) ⟨Nat.le_refl _,fun _ _ _=>rfl,rfl⟩ hst hP rfl hI rfl hxs
theorem zvs(hn:n<=1000)(hsz:size<=1000):zq0 prog tbl (.fn (.func 121) [] [.c (.ptr b 0),.c (.ptr b2 0)]) (zrm n size [] 0).length (VsL (zrm n size [] 0)) (fun b'=>b'=b\/b'=b2) (fun m=>Bk m b 1 [.int .i64 (size:Int)]/\Bk m b2 1 [.int .i64 (n:Int)]):=by
 refine⟨fun m m' h hn' hv hg=>⟨⟨(hg b (.inl rfl)).trans h.1.g,Nat.lt_of_lt_of_le h.1.lt hn'⟩,⟨(hg b2 (.inr rfl)).trans h.2.g,Nat.lt_of_lt_of_le h.2.lt hn'⟩⟩,fun m h b' hb=>hb.elim (fun h1=>h1 ▸ h.1.lt) fun h1=>h1 ▸ h.2.lt,fun n0' l I E S m hcl hn0' hI hR hSD Q hQ=>?_⟩;have hSlt:=(hcl.li 0).lt _ _ hI;have hb:=hR.1.lt;have hb2:=hR.2.lt
 show Wc prog tbl 121 [.c (.fn (.yield l) [] []),.c (.ptr b 0),.c (.ptr b2 0)] m Q
 refine zvk _ b b2 fun m0 e0=>?_;obtain⟨b0,x0⟩:=Bk.new e0;refine⟨_,(hR.1.ext x0).rc rfl,size,size,rfl,rfl,Nat.le_refl _,by omega,fun m4 e4 m5 e5=>?_⟩;rw[zvq,Nat.mul_one] at e4;obtain⟨b4,x4⟩:=Bk.new e4;obtain⟨b5,x5⟩:=Bk.new e5
 have n0:m0.nxt=m.nxt+1:=by rw[e0]; rfl
 have n4:m4.nxt=m.nxt+2:=by rw[e4]; show m0.nxt+1=_; omega
 have n5:m5.nxt=m.nxt+3:=by rw[e5]; show m4.nxt+1=_; omega
 refine⟨_,b5.st _,fun m7 e7=>?_⟩;have k6:=b5.set [C.sl m0.nxt 0 size 0 (some size)];have x6:Ext m (m5.set m4.nxt (.cells 1 [C.sl m0.nxt 0 size 0 (some size)] false)):=((x0.trans x4).trans x5).setR (by omega) _;have k0:Bk (m5.set m4.nxt (.cells 1 [C.sl m0.nxt 0 size 0 (some size)] false)) m.nxt 1 [.fn (.yield l) [] []]:=((b0.ext x4).ext x5).setNe (by omega) _;have k4:Bk (m5.set m4.nxt (.cells 1 [C.sl m0.nxt 0 size 0 (some size)] false)) m0.nxt size (zqc (List.replicate size 0)):=(b4.ext x5).setNe (by omega) _;have n6:(m5.set m4.nxt (.cells 1 [C.sl m0.nxt 0 size 0 (some size)] false)).nxt=m.nxt+3:=n5;have e7':m7=(m5.set m4.nxt (.cells 1 [C.sl m0.nxt 0 size 0 (some size)] false)).new (.cells 1 [.nilFn] false):=e7
 clear e7
 generalize m5.set m4.nxt (.cells 1 [C.sl m0.nxt 0 size 0 (some size)] false)=m6 at k6 x6 k0 k4 n6 e7' ⊢;obtain⟨b7,x7⟩:=Bk.new e7'
 have n7:m7.nxt=m.nxt+4:=by rw[e7']; show m6.nxt+1=_; omega
 refine⟨_,b7.st _,_,(b7.set _).rc rfl,?_⟩;have k8:=b7.set [flC b m.nxt m4.nxt b2 m6.nxt];have x8:Ext m (m7.set m6.nxt (.cells 1 [flC b m.nxt m4.nxt b2 m6.nxt] false)):=(x6.trans x7).setR (by omega) _;have j0:=(k0.ext x7).setNe (c:=m6.nxt) (by omega) (.cells 1 [flC b m.nxt m4.nxt b2 m6.nxt] false);have j4:=(k4.ext x7).setNe (c:=m6.nxt) (by omega) (.cells 1 [flC b m.nxt m4.nxt b2 m6.nxt] false);have j6:=(k6.ext x7).setNe (c:=m6.nxt) (by omega) (.cells 1 [flC b m.nxt m4.nxt b2 m6.nxt] false)
 show zmw prog tbl _ (flC b m.nxt m4.nxt b2 m6.nxt) (m7.set m6.nxt (.cells 1 [flC b m.nxt m4.nxt b2 m6.nxt] false)) _
 generalize m7.set m6.nxt (.cells 1 [flC b m.nxt m4.nxt b2 m6.nxt] false)=m8 at k8 x8 j0 j4 j6;have hI8:I 0 S m8:=(hcl.li 0).st _ _ _ hI x8.nxt x8.vw (fun b' hb=>x8.g b' (hSlt b' hb)) (fun b' hb=>x8.g b' (by omega))
 have hSl:SlF n size b b2 l m.nxt m4.nxt m0.nxt m6.nxt S m8 (List.replicate size 0):=⟨hR.1.ext x8,hR.2.ext x8,j0,j6,j4,k8,fun b' hb'=>by
  have h1:=hSlt b' hb';have h2:=hSD b' hb'
  exact⟨fun h=>h2 (.inl h),fun h=>h2 (.inr h),by omega,by omega,by omega,by omega⟩,by omega⟩
 have hchg:∀{m':M},Chg (fun b'=>S b'\/b'=m0.nxt) m8 m'->Chg S m m':=fun {m'} h=>⟨Nat.le_trans x8.nxt h.nxt,fun b' hb hSb=>by
  rw[h.g b' (Nat.lt_of_lt_of_le hb x8.nxt) fun h3=>h3.elim hSb fun h4=>by omega]
  exact x8.g b' hb,h.vw.trans x8.vw⟩
 show Wc prog tbl 122 [.c (.int .i64 ((0:Nat):Int)),.c (.int .i64 ((0:Nat):Int)),.c (.ptr b 0),.c (.ptr m.nxt 0),.c (.ptr m4.nxt 0),.c (.ptr b2 0),.c (.ptr m6.nxt 0)] m8 _
 refine zvr hn hsz (n0:=n0') (n1:=m.nxt) (by omega) (by omega) hcl size 0 (by omega) 0 0 S m8 _ _ hSl (by simp) (fun j L hj=>by rw[Nat.zero_add]; exact hj) hI8 (fun S' m' P' ho hch hst' _ _ hI'=>⟨_,rfl,?_⟩) fun S' m' ho hch hE=>⟨_,rfl,?_⟩
 ·rw[Nat.zero_add] at hI';exact hQ _ S' m' (Own.trans (Own.refl S m) ho x8.nxt) (hchg hch) (.inl hI')
 ·exact hQ _ S' m' (Own.trans (Own.refl S m) ho x8.nxt) (hchg hch) (.inr hE)
theorem zvt{m:M}{z:C}{L:List Int}(hz:Li m z L)(hn:zl9 z=false):∃b o n s c,z=.sl b o n s c:=by
 rcases hz.val with ⟨rfl,_⟩ | ⟨b,o,s,c,rfl,_⟩
 ·cases hn
 ·exact⟨_,_,_,_,_,rfl⟩
theorem zvu{z:C}{L:List Int}{m:M}{Q:V->M->Prop}(hz:Li m z L)(hn:zl9 z=false)(hL:L.length<=1000)(h:∀z' m',Ext m m'->Li m' z' L->Fr m z'->zqj z' 1 L.length->Q (.c z') m'):Wc prog tbl 111 [.c z] m Q:=by
 obtain⟨b,o,n,s,c,rfl⟩:=zvt hz hn;refine zt3 ⟨trivial,trivial,trivial,rfl,?_⟩
 show ∀m0:M,_
 intro m0 e0;obtain⟨b0,x0⟩:=Bk.new e0;have ho:zp7 m0 1 (.sl m.nxt 0 0 0 (some 0)) [] 0:=⟨rfl,.lit _ b0.g b0.lt⟩
 by_cases h0:L.length=0
 ·have hL0:L=[]:=List.eq_nil_of_length_eq_zero h0;subst hL0;exact⟨_,_,zqb t22 g3 z3 ho (hz.ext x0),h _ _ x0 ho.ls (fun b o n s d hq=>by cases hq; exact Nat.le_refl _) (.inr (.inl ⟨_,_,_,_,rfl,Nat.le_refl _⟩))⟩
 ·obtain⟨m',q1,q2,q3,q4,q5⟩:=zqa t22 g3 z3 ho (hz.ext x0) (by omega) (by omega) (by omega)
  have n0:m0.nxt=m.nxt+1:=by rw[e0]; rfl
  refine⟨_,m',q1,h _ _ ⟨by omega,fun b' hb=>?_,q4.trans x0.vw⟩ ?_ (fun b o n s d hq=>by cases hq; omega) (.inr (.inr ⟨_,_,by rw[Nat.zero_add]⟩))⟩
  ·rw[q5 b' (by omega) (by intro hq; cases hq)]; exact x0.g b' hb
  ·have:=q2.ls;rw[List.nil_append] at this;have e:0+L.length=L.length:=Nat.zero_add _;rw[e] at this ⊢;exact this
theorem zvv{α:Type}(g:Nat->List α)(p:α->Bool):∀e x,(zrl g (e+1) x).find? p=((g x).find? p).or ((zrl g e (x+1)).find? p):=fun e x=>by
 show(g x++zrl g e (x+1)).find? p=_
 rw[List.find?_append]
theorem zvw{l:List (List Int)}{i:Nat}{a:List Int}(h:l[i]? = some a)(p:List Int->Bool):(l.drop i).find? p=if p a then some a else (l.drop (i+1)).find? p:=by
 obtain⟨hi,ha⟩:=List.getElem?_eq_some_iff.1 h;rw[List.drop_eq_getElem_cons hi,ha,List.find?_cons]
 cases p a <;> rfl
theorem zvx{n:Nat}{L:List Int}:∀{d:Nat} {pre:List Int} {fr:Nat},L∈zrm n d pre fr->L.length=pre.length+d
 | 0,pre,fr,h=>by
  have:L=pre:=List.mem_singleton.1 h;rw[this]; rfl
 | d+1,pre,fr,h=>by
  obtain⟨x,_,_,h3⟩:=(zvp _ _ _ _).1 h;have:=zvx h3;rw[List.length_append] at this
  simp only[List.length_cons,List.length_nil] at this
  omega
end
end Go.Proofs.Ytlpjlgmoaipoiaa

namespace Go.Proofs.Ytlpjlgmoaipoiaa
open _root_.Go.Proofs.Try
open Go.Abs
set_option maxRecDepth 100000
noncomputable section
def zvy(f:M)(x:C)(g:List Int->Option (Bool)):Prop:=∀(f' m:M) (a0:List Int) (c0:C) (r:Bool) (Q:V->M->Prop),Sub f f'->Pre f' m->Sl f' c0 a0->g a0=some r->(∀m',Ext m m'->Q (.c (.bool r)) m')->zmw prog tbl [.c c0] x m Q
theorem zvy.sub{f m:M}{x:C}{g:List Int->Option (Bool)}(h:zvy f x g)(s:Sub f m):zvy m x g:=fun f' m' a0 c0 r Q hs=>h f' m' a0 c0 r Q (s.trans hs)
theorem zq6{f:M}:∀(l:List Int),Cat f (zqc l) l
 | []=>rfl
 | a::l=>⟨[.int .i64 a],zqc l,rfl,rfl,zq6 l⟩
def asM(m:M):M:={ nxt:=m.nxt,g:=fun b=>if b < m.nxt then m.g b else none,vw:=m.vw }
theorem zvz(m:M):Sub (asM m) m:=⟨Nat.le_refl _,rfl,fun _b hb _=>(if_pos hb).symm⟩
theorem zvA{f m m':M}(h:Sub f m)(e:Ext m m'):Sub f (asM m'):=⟨Nat.le_trans h.nxt e.nxt,e.vw.trans h.vw,fun b hb hd=>by
 have:=Nat.lt_of_lt_of_le hb h.nxt;have:=e.nxt
 show(if b < m'.nxt then m'.g b else none)=_
 rw[if_pos (by omega),e.g b (by omega)]
 exact h.g b hb hd⟩
theorem zvB{f m m':M}(h:Pre f m)(e:Ext m m'):Pre (asM m') m':=⟨zvz m',fun b hb=>if_neg (by have hb:m'.nxt<=b:=hb; omega),fun b hb=>by
 have hb:m'.nxt<=b:=hb
 show m'.vw b=none
 rw[e.vw,h.sub.vw]
 exact h.fv b (Nat.le_trans h.sub.nxt (Nat.le_trans e.nxt hb))⟩
theorem zvC{m:M}{z:C}{L:List Int}(h:Li m z L)(hok:zqj z 1 L.length):Sl (asM m) z L:=by
 refine⟨zqc L,⟨h.len,?_⟩,zq6 L,hok⟩
 rcases h.val with h1 | ⟨b,o,t,c,h1,h2,h3⟩
 ·exact .inl h1
 ·refine .inr ⟨b,o,t,c,h1,h2,fun h0=>(h3 h0).to' ?_ rfl⟩;exact if_pos h2
def grM(f m m':M):M:={ nxt:=m'.nxt,g:=fun b=>if b < m.nxt then f.g b else if b < m'.nxt then m'.g b else none,vw:=f.vw }
theorem zvD{f m m':M}(h:Pre f m)(e:Ext m m'):Pre (grM f m m') m':=by
 have hn:=h.sub.nxt;have he:=e.nxt;refine⟨⟨Nat.le_refl _,by show m'.vw=f.vw; rw[e.vw,h.sub.vw],fun b hb hd=>?_⟩,fun b hb=>?_,fun b hb=>h.fv b (by have hb:m'.nxt<=b:=hb; omega)⟩
 ·show m'.g b=(if b < m.nxt then f.g b else if b < m'.nxt then m'.g b else none)
  have hb:b < m'.nxt:=hb
  by_cases hbm:b < m.nxt
  ·rw[if_pos hbm];have hd:(if b < m.nxt then f.g b else if b < m'.nxt then m'.g b else none) ≠ none\/f.vw b ≠ none:=hd;rw[if_pos hbm] at hd
   have hbf:b < f.nxt:=by
    rcases Nat.lt_or_ge b f.nxt with h1 | h1
    ·exact h1
    ·exact(hd.elim (fun h2=>h2 (h.fz b h1)) fun h2=>h2 (h.fv b h1)).elim
   rw[e.g b hbm]; exact h.sub.g b hbf hd
  ·rw[if_neg hbm,if_pos hb]
 ·have hb:m'.nxt<=b:=hb
  show(if b < m.nxt then f.g b else if b < m'.nxt then m'.g b else none)=none
  rw[if_neg (by omega),if_neg (by omega)]
theorem zvE(y:C)(b:Nat){m:M}{Q:V->M->Prop}(h:(∀e:M,(e=M.new m (AO.cells 1 [y] false))->∃f,ldC e (.ptr b 0)=some f/\isSl f/\∃i:Nat,∃a:Nat,(slLen f:Int)=((i:Nat):Int)/\(slLen f:Int)=((a:Nat):Int)/\i<=a/\a<=4096/\∀g:M,(g=M.new e (AO.cells (a * 1) (zaJ [Il 0] a) false))->∀l:M,(l=M.new g (AO.cells 1 [C.sl0] false))->∃d:M,stC l (.ptr g.nxt 0) 1 [.sl e.nxt 0 i 0 (some a)]=some d/\∀o:M,(o=M.new d (AO.cells 1 [C.nilFn] false))->∃j:M,stC o (.ptr d.nxt 0) 1 [(C.fn (Fn.func 115) [] [(W.c (C0.ptr b 0)),(W.c (C0.ptr m.nxt 0)),(W.c (C0.ptr g.nxt 0)),(W.c (C0.ptr d.nxt 0))])]=some j/\∃p,ldC j (.ptr d.nxt 0)=some p/\zmw prog tbl [.c (Il 0)] p j (fun q r=>∃s,q=.c (.bool s)/\Q (.tup []) r))):Wc prog tbl 114 [.c y,.c (.ptr b 0)] m Q:=zpK (n:=2) rfl (by kernel_rfl) (by kernel_rfl) h
theorem zvF(at':Int)(br k bd cv:Nat){m:M}{Q:V->M->Prop}(h:(∃u,ldC m (.ptr br 0)=some u/\isSl u/\ifB (decide (at'=(slLen u:Int))) (∃z,ldC m (.ptr k 0)=some z/\∃A,ldC m (.ptr bd 0)=some A/\zmw prog tbl [.c A] z m (fun N O=>∃B,N=.c (.bool B)/\Q (.c (.bool B)) O)) (∃w,ldC m (.ptr br 0)=some w/\∃y:Nat,at'=((y:Nat):Int)/\y < (slLen w)/\∃D F,ldA m (zl8 w (y * 2)) 2=some [Il D,Il F]/\Wc prog tbl 116 [.agg 2 [Il D,Il F]] m (fun G I=>∃p,G=.c (Il p)/\∀g:List V->M->Prop,(∀q:Bool,∀a:Int,∀d:M,(ifB (decide (a < p)) (∃i,ldC d (.ptr bd 0)=some i/\∃e,ldC d (.ptr br 0)=some e/\∃f:Nat,at'=((f:Nat):Int)/\f < (slLen e)/\isPt (zl8 e (f * 2))/\∃j,ldC d (zl7 (zl8 e (f * 2)) 0)=some (Il j)/\zl6 .i64 (j+a)/\∃l:Nat,at'=((l:Nat):Int)/\l < (slLen i)/\∃o:M,stC d (zl8 i (l * 1)) 1 [(Il (j+a))]=some o/\∃r,ldC o (.ptr cv 0)=some r/\zl6 .i64 (at'+(1:Int))/\zmw prog tbl [.c (Il (at'+(1:Int)))] r o (fun J s=>∃t,J=.c (.bool t)/\ifB (!t) (Q (.c (.bool false)) s) (zl6 .i64 (a+1)/\g [.c (.bool q),(.c (Il (a+1)))] s))) (Q (.c (.bool true)) d))->g [.c (.bool q),(.c (Il a))] d)->g [.c (.bool false),(.c (Il 0))] I)))):Wc prog tbl 115 [.c (Il at'),.c (.ptr br 0),.c (.ptr k 0),.c (.ptr bd 0),.c (.ptr cv 0)] m Q:=zpK (n:=5) rfl (by kernel_rfl) (by kernel_rfl) h
theorem zvG{n:Int}(h1:-1000000<=n)(h2:n<=1000000):zl6 .i64 n:=by simp only[zl6]; omega
theorem zvH{r:Rg}(h:okR r):ztu r=some (szR r):=by
 unfold okR at h;unfold ztu gd;rw[if_pos (zvG (by omega) (by omega)),if_pos (zvG (by omega) (by omega))]; rfl
def hdP(bl N:Nat):C:=.sl bl 0 N 0 (some N)
def flP(br k bd cv:Nat):C:=.fn (.func 115) [] [.c (.ptr br 0),.c (.ptr k 0),.c (.ptr bd 0),.c (.ptr cv 0)]
theorem zvI{P:List Int}{p:Nat}(hp:p < P.length)(n:Int):(P.set p n).take (p+1)=P.take p++[n]:=by
 rw[List.take_add_one,List.getElem?_set_self hp,List.take_set_of_le (Nat.le_refl _)]; rfl
theorem zvJ(L:List Int)(i:Nat)(v:Int):(zqc L).set i (.int .i64 v)=zqc (L.set i v):=by unfold zqc; rw[List.map_set]
theorem zvK(n:Nat):zaJ [C.int .i64 0] n=zqc (List.replicate n 0):=by rw[zeB]; simp[zqc]
theorem zvL{m:M}{b n:Nat}{vs:List C}(h:Bk m b n vs){k:Nat}(c:C)(hk:k < vs.length)(hn:vs.length=n):stC m (.ptr b (0+k * 1)) 1 [c]=some (m.set b (.cells n (vs.set k c) false)):=by
 rw[show 0+k * 1=k by omega]
 by_cases h1:n=1
 ·subst h1
  have hk0:k=0:=by omega
  subst hk0
  have:vs.set 0 c=[c]:=by
   match vs,hn with
   | [a],_=>rfl
  rw[this];exact zp4 h.g [c]
 ·exact zp5 h.g c hk hn h1
structure CkF (f:M) (l br k bd cv bl N:Nat) (cR:C) (S:Nat->Prop) (m:M) (P:List Int):Prop where
 sb:Sub f m
 rr:Bk m br 1 [cR]
 kk:Bk m k 1 [.fn (.yield l) [] []]
 dd:Bk m bd 1 [hdP bl N]
 cc:Bk m cv 1 [flP br k bd cv]
 ll:Bk m bl N (zqc P)
 ss:∀b',S b'->b' ≠ br/\b' ≠ k/\b' ≠ bd/\b' ≠ cv/\b' ≠ bl/\f.g b'=none/\f.vw b'=none
 ne:br ≠ bl/\k ≠ bl/\bd ≠ bl/\cv ≠ bl
variable {f:M} {l br k bd cv bl N:Nat} {cR:C}
theorem CkF.chg{S S':Nat->Prop}{m m':M}{P:List Int}(hz:∀b,f.nxt<=b->f.g b=none)(hv:∀b,f.nxt<=b->f.vw b=none)(h:CkF f l br k bd cv bl N cR S m P)(hc:Chg S m m')(ho:Own S m S'):CkF f l br k bd cv bl N cR S' m' P:=by
 have tr:∀{b' j:Nat} {vs:List C},Bk m b' j vs->¬ S b'->Bk m' b' j vs:=fun hb hS=>⟨(hc.g _ hb.lt hS).trans hb.g,Nat.lt_of_lt_of_le hb.lt hc.nxt⟩;refine⟨⟨Nat.le_trans h.sb.nxt hc.nxt,hc.vw.trans h.sb.vw,fun b' hb hd=>?_⟩,tr h.rr fun hs=>(h.ss _ hs).1 rfl,tr h.kk fun hs=>(h.ss _ hs).2.1 rfl,tr h.dd fun hs=>(h.ss _ hs).2.2.1 rfl,tr h.cc fun hs=>(h.ss _ hs).2.2.2.1 rfl,tr h.ll fun hs=>(h.ss _ hs).2.2.2.2.1 rfl,fun b' hb=>?_,h.ne⟩
 ·rw[hc.g b' (Nat.lt_of_lt_of_le hb h.sb.nxt) fun hs=>hd.elim (fun h1=>h1 (h.ss b' hs).2.2.2.2.2.1) fun h1=>h1 (h.ss b' hs).2.2.2.2.2.2];exact h.sb.g b' hb hd
 ·rcases ho b' hb with hs | hs
  ·exact h.ss b' hs
  ·have:=h.rr.lt; have:=h.kk.lt; have:=h.dd.lt; have:=h.cc.lt; have:=h.ll.lt; have:=h.sb.nxt;exact⟨by omega,by omega,by omega,by omega,by omega,hz b' (by omega),hv b' (by omega)⟩
theorem CkF.ext{S:Nat->Prop}{m m':M}{P:List Int}(hz:∀b,f.nxt<=b->f.g b=none)(hv:∀b,f.nxt<=b->f.vw b=none)(h:CkF f l br k bd cv bl N cR S m P)(x:Ext m m'):CkF f l br k bd cv bl N cR S m' P:=
 h.chg hz hv ⟨x.nxt,fun b' hb _=>x.g b' hb,x.vw⟩ fun _ hb=>.inl hb
theorem CkF.set{S:Nat->Prop}{m:M}{P:List Int}(h:CkF f l br k bd cv bl N cR S m P)(hb:f.g bl=none/\f.vw bl=none)(P':List Int):CkF f l br k bd cv bl N cR S (m.set bl (.cells N (zqc P') false)) P':=
 ⟨⟨h.sb.nxt,h.sb.vw,fun b' hb' hd=>by
  rw[M.g_set,if_neg fun he=>by subst he; exact hd.elim (fun q=>q hb.1) fun q=>q hb.2]
  exact h.sb.g b' hb' hd⟩,h.rr.setNe h.ne.1 _,h.kk.setNe h.ne.2.1 _,h.dd.setNe h.ne.2.2.1 _,h.cc.setNe h.ne.2.2.2 _,h.ll.set _,h.ss,h.ne⟩
theorem slP{m:M}{P:List Int}(h:Bk m bl N (zqc P))(hP:P.length=N):SlX m (fun b'=>b'=bl) (hdP bl N) P:=by
 refine⟨⟨zqc P,⟨by rw[zqd]; exact Nat.mul_one _,.inr ⟨bl,0,0,some N,by rw[hP]; rfl,h.lt,fun _=>.inl ⟨N,zqc P,false,h.g,by rw[zqd]; exact hP,by rw[zqd]; omega,by rw[List.drop_zero,List.take_of_length_le (Nat.le_refl _)]⟩⟩⟩,(by first | exact zq6 m _ | exact zq6 _),.inr (.inl ⟨bl,0,0,N,by rw[hP]; rfl,by omega⟩)⟩,fun b o' n s d he=>by cases he; rfl⟩
theorem zvM{ranges:List Rg}{n0 n1:Nat}{all:List (List Int)}{I:Nat->(Nat->Prop)->M->Prop}{E:(Nat->Prop)->M->Prop}(hz:∀b,f.nxt<=b->f.g b=none)(hv:∀b,f.nxt<=b->f.vw b=none)(hR:Sl f cR ranges)(hN:ranges.length=N)(hN1:N<=100)(hok:∀r∈ranges,okR r)(hfb:f.g bl=none/\f.vw bl=none)
  (hn0:n0<=bl) (hn1:n1<=bl) (hcl:zq2 prog tbl n0 l (VsW all n1) I E) :
  ∀(rs:List Rg) (p:Nat),ranges.drop p=rs->p<=N->∀(i:Nat) (S:Nat->Prop) (m:M) (P:List Int) (Q:V->M->Prop),CkF f l br k bd cv bl N cR S m P->P.length=N ->
   (∀j L,(chW rs (P.take p))[j]? = some L->all[i+j]? = some L)->I i S m ->
   (∀S' m' P',Own S m S'->Chg (fun b'=>S b'\/b'=bl) m m'->CkF f l br k bd cv bl N cR S' m' P'->P'.length=N->P'.take p=P.take p->I (i+(chW rs (P.take p)).length) S' m'->Q (.c (.bool true)) m') ->
   (∀S' m',Own S m S'->Chg (fun b'=>S b'\/b'=bl) m m'->E S' m'->Q (.c (.bool false)) m') ->
   Wc prog tbl 115 [.c (.int .i64 (p:Int)),.c (.ptr br 0),.c (.ptr k 0),.c (.ptr bd 0),.c (.ptr cv 0)] m Q:=by
 intro rs
 have ctr:∀{S S1:Nat->Prop} {m m1 m2:M},Chg (fun b=>S b\/b=bl) m m1->Chg (fun b=>S1 b\/b=bl) m1 m2->Own S m S1->Chg (fun b=>S b\/b=bl) m m2:=fun {S S1 m m1 m2} h1 h2 ho=>
  ⟨Nat.le_trans h1.nxt h2.nxt,fun b hb hS=>by
   rw[h2.g b (Nat.lt_of_lt_of_le hb h1.nxt) fun h=>h.elim (fun h3=>(ho b h3).elim (fun h4=>hS (.inl h4)) fun h4=>by omega) fun h3=>hS (.inr h3)]
   exact h1.g b hb hS,h2.vw.trans h1.vw⟩
 have otr:∀{S S1 S2:Nat->Prop} {m m1:M},Own S m S1->Own S1 m1 S2->m.nxt<=m1.nxt->Own S m S2:=fun h1 h2 hn b' hb=>(h2 b' hb).elim (h1 b') fun h=>.inr (by omega);have cor:∀{S:Nat->Prop} {m m':M},Chg S m m'->Chg (fun b=>S b\/b=bl) m m':=fun h=>⟨h.nxt,fun b hb hS=>h.g b hb fun h2=>hS (.inl h2),h.vw⟩
 induction rs with
 | nil=>
  intro p hp hpN i S m P Q hst hP hxs hI hT hFl
  have hpe:p=N:=by have:=congrArg List.length hp; rw[List.length_drop,List.length_nil] at this; omega
  subst hpe;refine zvF (p:Int) br k bd cv ⟨_,hst.rr.rc rfl,hR.isSl,?_⟩;rw[hR.slLen,zpP];refine⟨fun _=>?_,fun h1=>absurd (by omega) h1⟩;have hx0:=hxs 0 (P.take p) rfl;rw[Nat.add_zero] at hx0;have hPp:P.take p=P:=List.take_of_length_le (by omega);rw[hPp] at hx0;have s0:=slP hst.ll hP;refine⟨_,hst.kk.rc rfl,_,hst.dd.rc rfl,?_⟩
  show Wy prog tbl l [.c (hdP bl p)] m _
  refine hcl.yield i _ S m ⟨P,fun b'=>b'=bl,hx0,⟨_,rfl,s0⟩,fun b' hb'=>by subst hb'; exact⟨hn1,fun hs=>(hst.ss _ hs).2.2.2.2.1 rfl,hst.ll.lt⟩⟩ hI _ (fun S' m' ho hch hI'=>⟨_,rfl,?_⟩) fun S' m' ho hch hE=>⟨_,rfl,hFl S' m' ho (cor hch) hE⟩;exact hT S' m' P ho (cor hch) (hst.chg hz hv hch ho) hP rfl hI'
 | cons r rs ih=>
  intro p hp hpN i S m P Q hst hP hxs hI hT hFl
  have hpl:p < ranges.length:=by
   have:=congrArg List.length hp;rw[List.length_drop,List.length_cons] at this; omega
  have hpN':p < N:=by omega
  have hd:=List.drop_eq_getElem_cons hpl;rw[hp] at hd
  have hr:ranges[p]? = some r:=by rw[List.getElem?_eq_getElem hpl,(List.cons.inj hd).1]
  have hdrop:ranges.drop (p+1)=rs:=(List.cons.inj hd).2.symm;have hrk:=hok r (List.mem_of_getElem? hr);have hrk':=hrk;unfold okR at hrk';obtain⟨_,hrd⟩:=zr2 hR hr;have hSl:=(hcl.li i).lt _ _ hI;refine zvF (p:Int) br k bd cv ⟨_,hst.rr.rc rfl,hR.isSl,?_⟩;rw[hR.slLen,zpP];refine⟨fun h1=>by omega,fun _=>⟨_,hst.rr.rc rfl,p,rfl,by rw[hR.slLen]; exact hpl,_,_,(hrd m hst.sb).1,?_⟩⟩;refine zvj (r:=r) ⟨hst.sb,hz,hv⟩ (zvH hrk) fun m20 e20=>⟨_,rfl,fun R22 hstep=>?_⟩;have hst20:=hst.ext hz hv e20;have hI20:I i S m20:=(hcl.li i).st _ _ _ hI e20.nxt e20.vw (fun b' hb=>e20.g b' (hSl b' hb)) fun b' hb=>e20.g b' (by have:=hst.ll.lt; omega)
  let g:Nat->List (List Int):=fun n=>chW rs (P.take p++[r.Lo+(n:Int)])
  have hex:chW (r::rs) (P.take p)=zrl g (szR r).toNat 0:=rfl;rw[hex] at hxs hT
  have hgo:∀(d n:Nat) (b7:Bool) (m9:M) (S1:Nat->Prop) (P1:List Int) (i1:Nat),n+d=(szR r).toNat->Own S m20 S1->Chg (fun b'=>S b'\/b'=bl) m20 m9->CkF f l br k bd cv bl N cR S1 m9 P1->P1.length=N->P1.take p=P.take p->I i1 S1 m9 ->
    i1+(zrl g d n).length=i+(zrl g (szR r).toNat 0).length->(∀j L,(zrl g d n)[j]? = some L->all[i1+j]? = some L)->R22 [.c (.bool b7),.c (.int .i64 (n:Int))] m9:=by
   intro d
   induction d with
   | zero=>
    intro n b7 m9 S1 P1 i1 hen ho hch hst1 hP1 htk hI1 hlen hxs1;refine hstep _ _ _ ?_;rw[zpP];refine⟨fun h1=>by omega,fun _=>hT S1 m9 P1 (fun b' hb'=>(ho b' hb').imp id fun h=>Nat.le_trans e20.nxt h) (ctr (S1:=S) (cor ⟨e20.nxt,fun b' hb' _=>e20.g b' hb',e20.vw⟩) hch fun b' hb'=>.inl hb') hst1 hP1 htk ?_⟩;have h9:i1+0=_:=hlen;rw[<- h9,Nat.add_zero]; exact hI1
   | succ d ihe=>
    intro n b7 m9 S1 P1 i1 hen ho hch hst1 hP1 htk hI1 hlen hxs1;have hns:szR r=r.Hi - r.Lo+1:=rfl;refine hstep _ _ _ ?_;rw[zpP];refine⟨fun _=>?_,fun h1=>absurd (by omega) h1⟩
    have hp9:p < P1.length:=by omega
    refine⟨_,hst1.dd.rc rfl,_,hst1.rr.rc rfl,p,rfl,by rw[hR.slLen]; exact hpl,hR.isPt hr _,_,(hrd m9 hst1.sb).2.1 0 _ rfl,zvG (by omega) (by omega),p,rfl,(by show p < N; omega),_,zvL hst1.ll _ (by rw[zqd]; exact hp9) (by rw[zqd]; exact hP1),?_⟩;rw[zvJ];have hst2:=hst1.set hfb (P1.set p (r.Lo+(n:Int)));have hch2:Chg (fun b'=>S1 b'\/b'=bl) m9 (m9.set bl (.cells N (zqc (P1.set p (r.Lo+(n:Int)))) false)):=⟨Nat.le_refl _,fun b' _ hS=>by rw[M.g_set,if_neg fun h1=>hS (.inr h1)],rfl⟩;have hI2:I i1 S1 (m9.set bl (.cells N (zqc (P1.set p (r.Lo+(n:Int)))) false)):=(hcl.li i1).st _ _ _ hI1 (Nat.le_refl _) rfl (fun b' hb=>by rw[M.g_set,if_neg (hst1.ss b' hb).2.2.2.2.1]) (fun b' hb=>by rw[M.g_set,if_neg (by omega)]);have hchm:=ctr hch hch2 ho;generalize m9.set bl (.cells N (zqc (P1.set p (r.Lo+(n:Int)))) false)=m13 at hst2 hch2 hI2 hchm
    have hP2:(P1.set p (r.Lo+(n:Int))).length=N:=by rw[List.length_set]; exact hP1
    have htk2:(P1.set p (r.Lo+(n:Int))).take (p+1)=P.take p++[r.Lo+(n:Int)]:=by rw[zvI hp9,htk]
    have htk3:(P1.set p (r.Lo+(n:Int))).take p=P.take p:=by rw[List.take_set_of_le (Nat.le_refl _),htk]
    generalize P1.set p (r.Lo+(n:Int))=P2 at hst2 htk2 htk3 hP2;have hge:zrl g (d+1) n=g n++zrl g d (n+1):=rfl
    have hg:g n=chW rs (P2.take (p+1)):=by rw[htk2]
    rw[hge,hg] at hlen hxs1;rw[List.length_append] at hlen;refine⟨_,hst2.cc.rc rfl,zvG (by omega) (by omega),?_⟩
    show Wc prog tbl 115 [.c (.int .i64 ((p+1:Nat):Int)),.c (.ptr br 0),.c (.ptr k 0),.c (.ptr bd 0),.c (.ptr cv 0)] m13 _
    refine ih (p+1) hdrop (by omega) i1 S1 m13 P2 _ hst2 hP2 (fun j H hj=>hxs1 j H (by rw[List.getElem?_append_left (List.getElem?_eq_some_iff.1 hj).1]; exact hj)) hI2 (fun S' m' P' ho' hch' hst' hP' htk' hI'=>⟨_,rfl,?_⟩) fun S' m' ho' hch' hE=>⟨_,rfl,?_⟩
    ·have htk4:P'.take p=P.take p:=by
      have h1:=congrArg (List.take p) htk';rw[List.take_take,List.take_take,Nat.min_eq_left (by omega)] at h1;rw[h1,htk3]
     refine zqW ⟨zvG (by omega) (by omega),ihe (n+1) b7 m' S' P' _ (by omega) (otr ho ho' hchm.nxt) (ctr hchm hch' ho) hst' hP' htk4 hI' (by omega) fun j H hj=>?_⟩;rw[Nat.add_assoc];exact hxs1 _ H (by rw[List.getElem?_append_right (by omega),Nat.add_sub_cancel_left]; exact hj)
    ·refine zqX ?_;exact hFl S' m' (fun b' hb'=>(otr ho ho' hchm.nxt b' hb').imp id fun h=>Nat.le_trans e20.nxt h) (ctr (S1:=S) (cor ⟨e20.nxt,fun b' hb' _=>e20.g b' hb',e20.vw⟩) (ctr hchm hch' ho) fun b' hb'=>.inl hb') hE
  exact hgo (szR r).toNat 0 false m20 S P i (by omega) (fun b' hb'=>.inl hb') ⟨Nat.le_refl _,fun _ _ _=>rfl,rfl⟩ hst20 hP rfl hI20 rfl hxs
end
end Go.Proofs.Ytlpjlgmoaipoiaa

namespace Go.Proofs.Ytlpjlgmoaipoiaa
open _root_.Go.Proofs.Try
open Go.Abs
set_option maxRecDepth 100000
noncomputable section
theorem zvN{rs:List Rg}{cR:C}{f:M}{b:Nat}(hR0:Sl f cR rs)(hb:Bk f b 1 [cR])(hN1:rs.length<=100)(hok:∀r∈rs,okR r)
    (n0 l:Nat) (I:Nat->(Nat->Prop)->M->Prop) (E:(Nat->Prop)->M->Prop) (S:Nat->Prop) (m:M) (hc:zq2 prog tbl n0 l (VsW (chW rs []) m.nxt) I E) (_hn:n0<=m.nxt) (hI:I 0 S m) (hS:Pre f m) (hSf:∀b,S b->f.g b=none/\f.vw b=none) (Q:V->M->Prop)
    (hQ:∀v S' m',Own S m S'->Chg S m m'->I (chW rs []).length S' m'\/E S' m'->Q v m'):Wc prog tbl 114 [.c (.fn (.yield l) [] []),.c (.ptr b 0)] m Q:=by
 have hSl:=(hc.li 0).lt _ _ hI;refine zvE _ b fun a w=>?_;obtain⟨O,p⟩:=Bk.new w
 have q0:a.nxt=m.nxt+1:=by rw[w]; rfl
 have y:Sub f a:=⟨Nat.le_trans hS.sub.nxt p.nxt,p.vw.trans hS.sub.vw,fun b' hb' hd=>(p.g b' (Nat.lt_of_lt_of_le hb' hS.sub.nxt)).trans (hS.sub.g b' hb' hd)⟩;refine⟨_,(hb.sub y).rc rfl,hR0.isSl,rs.length,rs.length,by rw[hR0.slLen],by rw[hR0.slLen],Nat.le_refl _,by omega,fun d s n e5=>?_⟩;rw[zvK,Nat.mul_one] at s;obtain⟨P,T⟩:=Bk.new s;obtain⟨z,A⟩:=Bk.new e5
 have q4:d.nxt=m.nxt+2:=by rw[s]; show a.nxt+1=_; omega
 have Y:n.nxt=m.nxt+3:=by rw[e5]; show d.nxt+1=_; omega
 refine⟨n.set d.nxt (.cells 1 [hdP a.nxt rs.length] false),z.st _,fun o t=>?_⟩;have B:=z.set [hdP a.nxt rs.length];have D:=(P.ext A).setNe (c:=d.nxt) (by omega) (.cells 1 [hdP a.nxt rs.length] false);have F:Ext a (n.set d.nxt (.cells 1 [hdP a.nxt rs.length] false)):=(T.trans A).setR (by omega) _;have Z:(n.set d.nxt (.cells 1 [hdP a.nxt rs.length] false)).nxt=m.nxt+3:=Y;generalize n.set d.nxt (.cells 1 [hdP a.nxt rs.length] false)=e at B D F Z t ⊢;obtain⟨G,x7⟩:=Bk.new t
 have q7:o.nxt=m.nxt+4:=by rw[t]; show e.nxt+1=_; omega
 refine⟨o.set e.nxt (.cells 1 [flP b m.nxt d.nxt e.nxt] false),G.st _,?_⟩;have u:=G.set [flP b m.nxt d.nxt e.nxt];have q:Ext e (o.set e.nxt (.cells 1 [flP b m.nxt d.nxt e.nxt] false)):=x7.setR (Nat.le_refl _) _;have q8:(o.set e.nxt (.cells 1 [flP b m.nxt d.nxt e.nxt] false)).nxt=m.nxt+4:=q7;generalize o.set e.nxt (.cells 1 [flP b m.nxt d.nxt e.nxt] false)=i at u q q8 ⊢;refine⟨_,u.rc rfl,?_⟩
 show Wc prog tbl 115 [.c (Il ((0:Nat):Int)),.c (.ptr b 0),.c (.ptr m.nxt 0),.c (.ptr d.nxt 0),.c (.ptr e.nxt 0)] i _
 have J:=F.trans q;have ym:=p.trans J;have subx:Sub f i:=⟨Nat.le_trans hS.sub.nxt ym.nxt,ym.vw.trans hS.sub.vw,fun b' hb' hd=>(ym.g b' (Nat.lt_of_lt_of_le hb' hS.sub.nxt)).trans (hS.sub.g b' hb' hd)⟩;have hff:=hS.sub.nxt;have hbf:=hb.lt
 have hbg:f.g b ≠ none:=by rw[hb.g]; exact Option.some_ne_none _
 have hst:CkF f l b m.nxt d.nxt e.nxt a.nxt rs.length cR S i (List.replicate rs.length 0):=
  ⟨subx,hb.sub subx,O.ext J,B.ext q,u,D.ext q,fun b' hb'=>by
   have h1:=hSl b' hb'
   exact⟨fun he=>hbg (he ▸ (hSf b' hb').1),by omega,by omega,by omega,by omega,hSf b' hb'⟩,by omega,by omega,by omega,by omega⟩
 have N:I 0 S i:=(hc.li 0).st _ _ _ hI ym.nxt ym.vw (fun b' hb'=>ym.g b' (hSl b' hb')) fun b' hb'=>ym.g b' (by omega)
 have fin:∀{m':M},Chg (fun b'=>S b'\/b'=a.nxt) i m'->Chg S m m':=fun {m'} h=>⟨Nat.le_trans ym.nxt h.nxt,fun b' hb' hs=>by
  rw[h.g b' (by have:=ym.nxt; omega) fun hY=>hY.elim hs fun h9=>by omega]
  exact ym.g b' hb',h.vw.trans ym.vw⟩
 have hfb:f.g a.nxt=none/\f.vw a.nxt=none:=⟨hS.fz _ (by omega),hS.fv _ (by omega)⟩;refine zvM hS.fz hS.fv hR0 rfl hN1 hok hfb (n0:=n0) (n1:=m.nxt) (by omega) (by omega) hc rs 0 List.drop_zero (Nat.zero_le _) 0 S i (List.replicate rs.length 0) _ hst (by rw[List.length_replicate]) (fun j L hj=>?_) N (fun S' m' P' ho hch hst' hP' htk hI'=>⟨_,rfl,?_⟩) fun S' m' ho hch hE=>⟨_,rfl,?_⟩
 ·rw[Nat.zero_add]; exact hj
 ·rw[Nat.zero_add] at hI';exact hQ _ S' m' (fun b' hb'=>(ho b' hb').imp id fun h=>Nat.le_trans ym.nxt h) (fin hch) (.inl hI')
 ·exact hQ _ S' m' (fun b' hb'=>(ho b' hb').imp id fun h=>Nat.le_trans ym.nxt h) (fin hch) (.inr hE)
theorem zvO{l:List Rg}{ca100:C}{m f:M}{Q:V->M->Prop}{rz:List (List Int)}(hS:Pre f m)(ha100:Sl f ca100 l)(hp:ztv l=some rz)(hq:∀m' f' c0,Grw m f m' f'->ItW prog tbl f' c0 rz->Q (.c c0) m'):Wc prog tbl 101 [.c ca100] m Q:=by
 have e:=hS.st;obtain⟨g,_⟩:=zr0;refine zt1 ?_;unfold ztv at hp;intro r h;obtain⟨s,i,t,j⟩:=e.blk h g 1;obtain⟨d,a,n,hb⟩:=j.freeze i;obtain⟨⟨o,p⟩,hp⟩:=zqr hp;obtain rfl:=oi hp
 have hI:ItW prog tbl d (C.fn (Fn.func 114) [] [(W.c (C0.ptr m.nxt 0))]) (chW l []):=
  zq5 a.fz a.fv fun q ly I E S m' hc hn hI hP hSf Q hQ=>zvN (ha100.sub n.fs) hb o p q ly I E S m' hc hn hI hP hSf Q hQ
 exact hq _ d _ a.grw hI
theorem w95(z:C)(bw bc bf:Nat){m:M}{Q:V->M->Prop}(h:(∃Y Z x2 x3 x4 c5 x6 c7 c8 c9 f g i,ldA m (.ptr bw 0) 13=some [Il Y,Il Z,Il x2,Il x3,Il x4,c5,Il x6,c7,c8,c9,f,g,i]/\Wc prog tbl 96 [.agg 13 [Il Y,Il Z,Il x2,Il x3,Il x4,c5,Il x6,c7,c8,c9,f,g,i],.c z] m (fun ai j=>∃l o p q r s t u w y A B D,ai=.agg 13 [Il l,Il o,Il p,Il q,Il r,s,Il t,u,w,y,A,B,D]/\Wc prog tbl 91 [.agg 13 [Il l,Il o,Il p,Il q,Il r,s,Il t,u,w,y,A,B,D]] j (fun aj F=>∃G I J N O P,aj=.agg 6 [.bool G,.bool I,.bool J,.bool N,.bool O,.bool P]/\∃a,ldC F (.ptr bc 0)=some (Il a)/\ldC j (.ptr bc 0)=some (Il a)/\ldC m (.ptr bc 0)=some (Il a)/\∃d:Nat,a=((d:Nat):Int)/\d < 6/\∃S,atS [(C.bool G),.bool I,.bool J,.bool N,.bool O,.bool P] (d * 1)=some (.bool S)/\∃e:M,stC F (.ptr bf 0) 1 [.bool S]=some e/\∃T,ldC e (.ptr bf 0)=some (.bool T)/\Q (.c (.bool T)) e)))):Wc prog tbl 95 [.c z,.c (.ptr bw 0),.c (.ptr bc 0),.c (.ptr bf 0)] m Q:=zpK (n:=4) rfl (by kernel_rfl) (by kernel_rfl) h
theorem _root_.Go.Abs.ExtX.ext{m m0 m':M}{B:Nat}(h:ExtX (isB B) m0 m')(e:Ext m m0)(hB:m.nxt<=B):Ext m m':=⟨Nat.le_trans e.nxt h.nxt,fun b hb=>by rw[h.g b (Nat.lt_of_lt_of_le hb e.nxt) fun he=>by have he:b=B:=he; omega]; exact e.g b hb,h.vw.trans e.vw⟩
theorem _root_.Go.Abs.ExtX.bk{m m':M}{B b n:Nat}{vs:List C}(h:ExtX (isB B) m m')(k:Bk m b n vs)(hb:b ≠ B):Bk m' b n vs:=⟨(h.g b k.lt hb).trans k.g,Nat.lt_of_lt_of_le k.lt h.nxt⟩
def zvP(n:Nat)(m:M)(B:Nat)(fnc:C)(t:List Int->Bool):Prop:=
 ∀m' z L v,ExtX (isB B) m m'->Bk m' B 1 [.bool v]->Li m' z L->zqj z 1 L.length->L∈zoi n->∀Q:V->M->Prop,(∀m'',ExtX (isB B) m' m''->Bk m'' B 1 [.bool (t L)]->Q (.c (.bool (t L))) m'')->zmw prog tbl [.c z] fnc m' Q
theorem zvQ{n B:Nat}{fnc:C}{t:List Int->Bool}{m:M}{Q:V->M->Prop}(hn:n<=100)(hB:Bk m B 1 [.bool false])(ht:zvP n m B fnc t)(h:∀z m',ExtX (isB B) m m'->Bk m' B 1 [.bool ((zoi n).find? t).isSome]->Li m' z (zrn n t)->zqj z 1 (zrn n t).length->(∀b o n' s d,z=.sl b o n' s d->m.nxt<=b)->Q (.c z) m'):Wc prog tbl 94 [.c (.int .i64 (n:Int)),.c fnc] m Q:=by
 refine w94 fun m0 e0 m1 e1=>?_;obtain⟨b0,x0⟩:=Bk.new e0;obtain⟨b1,x1⟩:=Bk.new e1;have x01:=x0.trans x1
 have n0:m0.nxt=m.nxt+1:=by rw[e0]; rfl
 have hBm:=hB.lt;refine⟨zvo (by omega) (by omega),fun R2 hstep=>?_⟩
 let G:Nat->List (List Int):=fun s=>zrm n s [] 0
 have hgo:∀(e s:Nat) (m4:M),e+s=n+1->ExtX (isB B) m m4->Bk m4 m.nxt 1 [fnc]->Bk m4 m0.nxt 1 [.sl0]->Bk m4 B 1 [.bool false]->(zrl G e s).find? t=(zoi n).find? t->R2 [.c (.int .i64 (s:Int))] m4:=by
  intro e
  induction e with
  | zero=>
   intro s m4 hes x4 k0 k1 kB hfind;refine hstep _ _ ?_;rw[zpP];refine⟨fun h1=>by omega,fun _=>⟨_,k1.rc rfl,?_⟩⟩;have h0:(zoi n).find? t=none:=hfind.symm
   have:zrn n t=[]:=by unfold zrn; rw[h0]; rfl
   refine h _ _ x4 (by rw[h0]; exact kB) ?_ ?_ fun _ _ _ _ _ h9=>by cases h9
   ·rw[this]; exact Ls.nil m4 1
   ·rw[this]; exact .inl ⟨rfl,rfl⟩
  | succ e ih=>
   intro s m4 hes x4 k0 k1 kB hfind;refine hstep _ _ ?_;rw[zpP];refine⟨fun _=>?_,fun h1=>absurd (by omega) h1⟩;refine zug fun m5 e5 m6 e6=>?_;obtain⟨b5,x5⟩:=Bk.new e5;obtain⟨b6,x6⟩:=Bk.new e6;have x56:=x5.trans x6;refine⟨_,rfl,?_⟩;have hk0:=k0.lt;have hk1:=k1.lt;have hkB:=kB.lt
   have n5:m5.nxt=m4.nxt+1:=by rw[e5]; rfl
   have x46:ExtX (isB B) m m6:=⟨Nat.le_trans x4.nxt x56.nxt,fun b hb hne=>by rw[x56.g b (Nat.lt_of_lt_of_le hb x4.nxt)]; exact x4.g b hb hne,x56.vw.trans x4.vw⟩;have k06:=k0.ext x56;have k16:=k1.ext x56;have kB6:=kB.ext x56;rw[zvv] at hfind
   refine zq1 (zvs (b:=m5.nxt) (b2:=m4.nxt) (n:=n) (size:=s) (by omega) (by omega)) ⟨b6,b5.ext x6⟩
    (J:=fun i S ma=>(∀b',S b'↔b'=m0.nxt\/b'=B)/\Bk ma m0.nxt 1 [.sl0]/\Bk ma B 1 [.bool false]/\((G s).drop i).find? t=(G s).find? t/\m6.nxt<=ma.nxt/\ma.vw=m6.vw/\∀b',b' < m6.nxt->b' ≠ m0.nxt->b' ≠ B->ma.g b'=m6.g b')
    (X:=fun ex S ma=>ex=.exit 0/\∃z L,(∀b',S b'↔b'=m0.nxt\/b'=B\/∃o n s d,z=.sl b' o n s d)/\Bk ma m0.nxt 1 [z]/\Bk ma B 1 [.bool true]/\Li ma z L/\(∀b' o n s d,z=.sl b' o n s d->m.nxt<=b'/\b' < ma.nxt)/\((G s).find? t=some L/\zqj z 1 L.length)/\m6.nxt<=ma.nxt/\ma.vw=m6.vw/\∀b',b' < m6.nxt->b' ≠ m0.nxt->b' ≠ B->ma.g b'=m6.g b')
    (fun i=>⟨fun S ma mb hj hn' hv hg hlow=>⟨hj.1,⟨(hg _ ((hj.1 _).2 (.inl rfl))).trans hj.2.1.g,Nat.lt_of_lt_of_le hj.2.1.lt hn'⟩,⟨(hg _ ((hj.1 _).2 (.inr rfl))).trans hj.2.2.1.g,Nat.lt_of_lt_of_le hj.2.2.1.lt hn'⟩,hj.2.2.2.1,Nat.le_trans hj.2.2.2.2.1 hn',hv.trans hj.2.2.2.2.2.1,fun b' hb' hne hne2=>(hlow b' hb').trans (hj.2.2.2.2.2.2 b' hb' hne hne2)⟩,fun S ma hj b' hb'=>by
     rcases (hj.1 b').1 hb' with h1 | h1
     ·rw[h1]; exact hj.2.1.lt
     ·rw[h1]; exact hj.2.2.1.lt⟩)
    (fun ex=>⟨fun S ma mb hj hn' hv hg hlow=>?_,fun S ma hj b' hb'=>?_⟩) (S0:=fun b'=>b'=m0.nxt\/b'=B) ⟨fun _=>Iff.rfl,k16,kB6,rfl,Nat.le_refl _,rfl,fun _ _ _ _=>rfl⟩ (fun b' hb' hd=>by rcases hb' with hb' | hb' <;> rcases hd with hd | hd <;> omega) ?_ ?_ ?_ ?_
   ·obtain⟨h1,z,L,h2,h3,hB3,h4,h5,h6,h7,h8,h9⟩:=hj;refine⟨h1,z,L,h2,⟨(hg _ ((h2 _).2 (.inl rfl))).trans h3.g,Nat.lt_of_lt_of_le h3.lt hn'⟩,⟨(hg _ ((h2 _).2 (.inr (.inl rfl)))).trans hB3.g,Nat.lt_of_lt_of_le hB3.lt hn'⟩,h4.to hn' (fun b' _ hx'=>?_) hv,fun b' o n s d hz=>⟨(h5 b' o n s d hz).1,Nat.lt_of_lt_of_le (h5 b' o n s d hz).2 hn'⟩,h6,Nat.le_trans h7 hn',hv.trans h8,fun b' hb' hne hne2=>(hlow b' hb').trans (h9 b' hb' hne hne2)⟩;obtain⟨o,s',d,hx'⟩:=hx';exact hg b' ((h2 b').2 (.inr (.inr ⟨_,_,_,_,hx'⟩)))
   ·obtain⟨h1,z,L,h2,h3,hB3,h4,h5,h6,_⟩:=hj
    rcases (h2 b').1 hb' with rfl | rfl | ⟨o,n',s',d,hz⟩
    ·exact h3.lt
    ·exact hB3.lt
    ·exact(h5 _ _ _ _ _ hz).2
   ·intro i xv S ma B' enter K hxv hj hlt hSl hown henter hK;obtain⟨L,z,hL,rfl,hz,hnil,hfr⟩:=hxv;obtain⟨hS,hkb,hkB5,hf,hn6,hv6,hg6⟩:=hj;refine⟨z,rfl,henter ma _ rfl fun m15 hn15 hv15 hg15 hB15=>?_⟩
    have hne0:m0.nxt ≠ m6.nxt:=by have:=k16.lt; omega
    have hneB:B ≠ m6.nxt:=by have:=kB6.lt; omega
    have hl15:Li m15 z L:=hz.to (by omega) (fun b' _ hx'=>by obtain⟨o,s',d,hx'⟩:=hx'; exact hg15 b' (by have:=hfr b' _ _ _ _ hx'; omega)) hv15;have kk15:Bk m15 m0.nxt 1 [.sl0]:=⟨(hg15 _ hne0).trans hkb.g,by rw[hn15]; exact hkb.lt⟩;have kB15:Bk m15 B 1 [.bool false]:=⟨(hg15 _ hneB).trans hkB5.g,by rw[hn15]; exact hkB5.lt⟩;have hold:∀b',b' < m6.nxt->b' ≠ m0.nxt->b' ≠ B->m15.g b'=m6.g b':=fun b' hb' hne hne2=>(hg15 b' (by omega)).trans (hg6 b' hb' hne hne2);have x15:ExtX (isB B) m m15:=⟨by rw[hn15]; exact Nat.le_trans x46.nxt hn6,fun b' hb' hne=>by rw[hold b' (Nat.lt_of_lt_of_le hb' x46.nxt) (by omega) hne]; exact x46.g b' hb' hne,by rw[hv15,hv6]; exact x46.vw⟩;have kf15:Bk m15 m.nxt 1 [fnc]:=⟨(hold _ k06.lt (by omega) (by omega)).trans k06.g,by rw[hn15]; exact Nat.lt_of_lt_of_le k06.lt hn6⟩;have hLm:L∈zrm n s [] 0:=List.mem_of_getElem? hL;have hmem:L∈zoi n:=(zvp _ _ _ _).2 ⟨s,Nat.zero_le _,by omega,hLm⟩;have hlen:=zvx hLm
    simp only[List.length_nil] at hlen
    refine⟨fnc,kf15.rc rfl,ht m15 z L false x15 kB15 hl15 hnil.2 hmem _ fun m18 e18 kB18=>⟨_,rfl,?_⟩⟩;have kk18:=e18.bk kk15 (by omega)
    have hg18:∀b',b' < ma.nxt->b' ≠ m6.nxt->b' ≠ B->m18.g b'=ma.g b':=fun b' hb' hne hne2=>by rw[e18.g b' (by omega) hne2]; exact hg15 b' hne
    have hn18:ma.nxt<=m18.nxt:=by rw[<- hn15]; exact e18.nxt
    have hv18:m18.vw=ma.vw:=e18.vw.trans hv15;have hB18:m18.g m6.nxt=m15.g m6.nxt:=e18.g _ (by omega) hneB.symm;rw[zpQ];refine⟨fun htl=>?_,fun htl=>?_⟩
    ·have hl18:Li m18 z L:=hl15.to e18.nxt (fun b' hb' hx'=>by obtain⟨o,s',d,hx'⟩:=hx'; exact e18.g b' hb' (by have h1:=hfr b' _ _ _ _ hx'; have h2:=x46.nxt; show ¬ b'=B; omega)) e18.vw;rw[htl] at kB18;refine zvu hl18 hnil.1 (by omega) fun z' m21 e21 hz' hfr' hok'=>⟨z',rfl,_,(kk18.ext e21).st _,?_⟩
     have hzne:∀b' o n s d,z'=.sl b' o n s d->b' ≠ m0.nxt:=fun b' o n s d hq=>by have:=hfr' b' o n s d hq; have:=kk18.lt; omega
     refine hK (.exit 0) (fun b'=>b'=m0.nxt\/b'=B\/∃o n s d,z'=.sl b' o n s d) _ (hB15 _ ?_) (Nat.le_trans hn18 e21.nxt) (e21.vw.trans hv18) (fun b' hb' hSb hbl=>?_) (fun b' hb'=>?_) ⟨rfl,z',L,fun _=>Iff.rfl,(kk18.ext e21).set _,(kB18.ext e21).setNe (by omega) _,hz'.setNe hzne _,fun b' o n s d hq=>?_,?_,?_,?_,fun b' hb' hne hne2=>?_⟩
     ·rw[M.g_set,if_neg (by omega),e21.g _ (by omega)]; exact hB18
     ·rw[M.g_set,if_neg fun h0=>hSb ((hS b').2 (.inl h0)),e21.g b' (by omega)]; exact hg18 b' hb' hbl fun h0=>hSb ((hS b').2 (.inr h0))
     ·rcases hb' with h0 | h0 | ⟨o,n',s',d,hq⟩
      ·exact .inl ((hS b').2 (.inl h0))
      ·exact .inl ((hS b').2 (.inr h0))
      ·exact .inr (by have:=hfr' _ _ _ _ _ hq; omega)
     ·have hmm:m.nxt<=b':=by have:=hfr' _ _ _ _ _ hq; have:=x15.nxt; have:=e18.nxt; omega
      refine⟨hmm,?_⟩;subst hq
      rcases hz'.val with ⟨h0,_⟩ | ⟨b3,o3,s3,c3,h0,h1,_⟩
      ·cases h0
      ·cases h0; exact h1
     ·exact⟨by rw[<- hf,zvw hL,if_pos htl],hok'⟩
     ·exact Nat.le_trans hn6 (Nat.le_trans hn18 e21.nxt)
     ·exact(e21.vw.trans hv18).trans hv6
     ·rw[M.g_set,if_neg hne,e21.g b' (by omega),hg18 b' (by omega) (by omega) hne2]; exact hg6 b' hb' hne hne2
    ·rw[htl] at kB18;refine hK .nrm S _ (hB15 _ hB18) hn18 hv18 (fun b' hb' hSb hbl=>hg18 b' hb' hbl fun h0=>hSb ((hS b').2 (.inr h0))) (Own.refl S ma) ⟨hS,kk18,kB18,?_,Nat.le_trans hn6 hn18,hv18.trans hv6,fun b' hb' hne hne2=>by rw[hg18 b' (by omega) (by omega) hne2]; exact hg6 b' hb' hne hne2⟩;rw[<- hf,zvw hL,if_neg (by rw[htl]; decide)]
   ·intro S' m5' hown hlt hv hg hj;obtain⟨hS,hkb,hkB5,hf,hn6,hv6,hg6⟩:=hj
    have hnone:(G s).find? t=none:=by rw[<- hf,List.drop_eq_nil_of_le (Nat.le_refl _)]; rfl
    rw[hnone] at hfind;refine⟨zvo (by omega) (by omega),ih (s+1) m5' (by omega) ⟨Nat.le_trans x46.nxt hn6,fun b' hb' hne=>by rw[hg6 b' (Nat.lt_of_lt_of_le hb' x46.nxt) (by omega) hne]; exact x46.g b' hb' hne,hv6.trans x46.vw⟩ ⟨(hg6 _ k06.lt (by omega) (by omega)).trans k06.g,Nat.lt_of_lt_of_le k06.lt hn6⟩ hkb hkB5 hfind⟩
   ·intro id S' m5' hown hlt hv hg hj;obtain⟨h1,z,L,h2,h3,hB3,h4,h5,h6,hn6,hv6,hg6⟩:=hj
    cases h1
    have hfs:(zoi n).find? t=some L:=by rw[<- hfind,h6.1]; rfl
    refine⟨z,h3.rc rfl,h z m5' ⟨Nat.le_trans x46.nxt hn6,fun b' hb' hne=>by rw[hg6 b' (Nat.lt_of_lt_of_le hb' x46.nxt) (by omega) hne]; exact x46.g b' hb' hne,hv6.trans x46.vw⟩ (by rw[hfs]; exact hB3) ?_ ?_ fun b o n' s d hz=>(h5 b o n' s d hz).1⟩ <;> rw[show zrn n t=L from by unfold zrn; rw[hfs]; rfl]
    ·exact h4
    ·exact h6.2
   ·intro S' m5' hown hlt hv hg hj;exact absurd hj.1 (by intro h; cases h)
 exact hgo (n+1) 0 m1 (by omega) ⟨x01.nxt,fun b hb _=>x01.g b hb,x01.vw⟩ (b0.ext x1) b1 (hB.ext x01) rfl
theorem zvR{f m m':M}(hS:Pre f m)(e:Ext m m'):Grw m f m' (grM f m m'):=⟨e,⟨Nat.le_trans hS.sub.nxt e.nxt,rfl,fun b hb _=>if_pos (Nat.lt_of_lt_of_le hb hS.sub.nxt)⟩,zvD hS e,fun b hb=>if_pos hb⟩
theorem zvS{w:Wk}{class_:Int}{ca105 ca107 ca108 ca109 ca110 ca111 ca112:C}{m f:M}{Q:V->M->Prop}{rz:List Int × Bool}(hS:Pre f m)(ha105:Sl f ca105 w.r.Price)(ha107:Sl f ca107 w.zone.Years)(ha108:zuj f ca108 w.kinds.k0.lead)(ha109:zuj f ca109 w.kinds.k1.lead)(ha110:zuj f ca110 w.kinds.k2.lead)(ha111:zuj f ca111 w.kinds.k3.lead)(ha112:Sl f ca112 w.can)(hp:ztx w class_=some rz)(hq:∀m' f' c0,Grw m f m' f'->Sl f' c0 rz.1->Q (.tup [.c c0,.c (.bool rz.2)]) m'):Wc prog tbl 73 [.agg 13 [Il w.r.Classes,Il w.r.Good,Il w.r.Bad,Il w.r.Rest,Il w.r.Fewest,ca105,Il w.zone.First,ca107,ca108,ca109,ca110,ca111,ca112],.c (Il class_)] m Q:=by
 obtain⟨⟨h1,h2⟩,hp⟩:=zqr hp;obtain rfl:=oi hp;refine w73 fun u G a I m2 J=>?_;obtain⟨N,x0⟩:=Bk.new G;obtain⟨b1,x1⟩:=Bk.new I;obtain⟨b2,O⟩:=Bk.new J
 have n0:u.nxt=m.nxt+1:=by rw[G]; rfl
 have n1:a.nxt=m.nxt+2:=by rw[I]; show u.nxt+1=_; omega
 have n2:m2.nxt=m.nxt+3:=by rw[J]; show a.nxt+1=_; omega
 have j:=x1.trans O;have A:=x0.trans j;refine⟨trivial,_,(N.ext j).rc rfl,ha112.isSl,?_⟩;rw[ha112.slLen];refine zvQ (n:=w.can.length) (B:=a.nxt) (t:=fun L=>(ztw w class_ L).getD false) h1 b2 (fun m' z L v e hB hz hok hL Q' hQ'=>?_) fun z m' e hB hz hok hfr=>?_
 ·have hs:=h2 L hL;obtain⟨bb,hbb⟩:∃bb,ztw w class_ L=some bb:=Option.isSome_iff_exists.1 hs
  have hQ':∀m'',ExtX (isB a.nxt) m' m''->Bk m'' a.nxt 1 [.bool bb]->Q' (.c (.bool bb)) m'':=fun m''=>by
   have P:ExtX (isB a.nxt) m' m''->Bk m'' a.nxt 1 [.bool ((ztw w class_ L).getD false)]->Q' (.c (.bool ((ztw w class_ L).getD false))) m'':=hQ' m'';rw[hbb] at P;exact P
  have em:Ext m m':=e.ext A (by omega);have sA:Sub f (asM m'):=zvA hS.sub em;have pA:Pre (asM m') m':=zvB hS em;have kw:=e.bk (N.ext j) (by omega);have kc:=e.bk (b1.ext O) (by omega)
  show Wc prog tbl 95 [.c z,.c (.ptr m.nxt 0),.c (.ptr u.nxt 0),.c (.ptr a.nxt 0)] m' Q'
  refine w95 z m.nxt u.nxt a.nxt ⟨_,_,_,_,_,_,_,_,_,_,_,_,_,kw.ra,?_⟩;obtain⟨v1,g1,hbb⟩:=zqq hbb;obtain⟨i,g2,hbb⟩:=zqq hbb;refine zvi (w:=w) (list:=L) pA (ha105.sub sA) (ha107.sub sA) (ha108.sub sA) (ha109.sub sA) (ha110.sub sA) (ha111.sub sA) (ha112.sub sA) (zvC hz hok) g1 fun qa sa c5 c7 c8 c9 ta ua va h q5 q7 q8 q9 S T Y=>⟨_,_,_,_,_,_,_,_,_,_,_,_,_,rfl,?_⟩;refine zve (w:=v1) h.pre q5 q7 q8 q9 S T Y g2 fun wa D=>⟨_,_,_,_,_,_,rfl,_,((kc.ext h.ext).ext D).rc rfl,(kc.ext h.ext).rc rfl,kc.rc rfl,?_⟩;obtain⟨n,ni,nl,ng⟩:=zqk hbb;have xt:=h.ext.trans D;refine⟨n,ni,nl,_,zrv (l:=([i.c0,i.c1,i.c2,i.c3,i.c4,i.c5]:List Bool)) (enc:=C.bool) rfl ng,_,(hB.ext xt).st _,_,((hB.ext xt).set _).rc rfl,?_⟩;exact hQ' _ ⟨xt.nxt,fun b hb hne=>by rw[M.g_set,if_neg (show ¬ b=a.nxt from hne)]; exact xt.g b hb,xt.vw⟩ ((hB.ext xt).set _)
 ·have em:Ext m m':=e.ext A (by omega);refine⟨_,rfl,_,hB.rc rfl,_,hB.st _,_,(hB.set _).rc rfl,?_⟩;have F:Ext m (m'.set a.nxt (.cells 1 [C.bool ((zoi w.can.length).find? fun L=>(ztw w class_ L).getD false).isSome] false)):=em.setR (by omega) _;have p:=hz.setNe (c:=a.nxt) (fun b o n s d hq=>by have:=hfr b o n s d hq; omega) (.cells 1 [C.bool ((zoi w.can.length).find? fun L=>(ztw w class_ L).getD false).isSome] false);generalize m'.set a.nxt (.cells 1 [C.bool ((zoi w.can.length).find? fun L=>(ztw w class_ L).getD false).isSome] false)=q at F p;refine hq q (grM f m q) z (zvR hS F) ?_;refine⟨zqc _,⟨p.len,?_⟩,zq6 _,hok⟩
  rcases p.val with y | ⟨b,o,t,c,y,Z,h6⟩
  ·exact .inl y
  ·refine .inr ⟨b,o,t,c,y,Z,fun h0=>(h6 h0).to' ?_ ?_⟩
   ·have h7:=hfr _ _ _ _ _ y
    show(if b < m.nxt then f.g b else if b < q.nxt then q.g b else none)=_
    rw[if_neg (by omega),if_pos Z]
   ·show f.vw b=q.vw b
    rw[F.vw,hS.sub.vw]
end
end Go.Proofs.Ytlpjlgmoaipoiaa

