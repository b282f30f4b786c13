/- An evaluator of code, its soundness, and what functions of the program do. Condition: none; a lemma text. -/
import Derived.Test.YtlkgdadfbfafcaaGreatPaH

namespace Go.Proofs.YtlkgdadfbfafcaaGreat
open _root_.Go.Proofs.Tryz
open Go.Abs
set_option maxRecDepth 100000
noncomputable section
theorem zwj:TC prog 156 5:=⟨124,by kernel_rfl,by kernel_rfl,by kernel_rfl⟩
theorem zwk:TA prog 23 8:=⟨103,by kernel_rfl,by kernel_rfl,by kernel_rfl⟩
theorem zwl:TA prog 157 10:=⟨160,by kernel_rfl,by kernel_rfl,by kernel_rfl⟩
theorem zwm{l:List Evt}{n:Int}{cmp:Evt->Evt->Option (Int)}{ca100 ca300:C}{m f:M}{Q:V->M->Prop}{rz:(Unit) × List Evt}(hS:Pre f m)(ha100:Wg f m ca100 l)(ha300:zuN f ca300 cmp)(hp:ztH l n cmp=some rz)(hq:∀m',zry (zri ca100) m m'->Wn m m' ca100 rz.2->Q (.tup []) m'):Wc prog tbl 145 [.c ca100,.c (Il n),.c ca300] m Q:=by
 have S0:=hS.stW ha100;obtain⟨τ0,B⟩:∃τ,Wo ⟨m,zri ca100⟩ f τ m 1 ca100 l:=⟨_,ha100.wo 1⟩;refine zuD ?_;unfold ztH at hp;intro R0 Oa
 have hgo:∀(s:Nat) (F:Int) (G:Int) (h:List Evt) (I:M) (p:Nat->Nat),St ⟨m,zri ca100⟩ f f I->Wo ⟨m,zri ca100⟩ f p I 1 ca100 h->ztG n cmp s F G h=some rz->R0 [.c (Il F),.c (Il G)] I:=by
  intro s
  induction s with
  | zero=>intro F G h I p g B hp; cases hp
  | succ s ba=>
   intro F G h I p g B hp;refine Oa _ _ _ ?_;rw[ztG] at hp;refine ifd hp (fun ca hp=>?_) fun ca hp=>?_
   ·obtain⟨Ua,da,hp⟩:=zqY hp;refine zvI (l:=h) (a:=F) (b:=G) (cmp:=cmp) g.pre (B.wg g) ha300 da fun m5 ea S=>?_;obtain⟨fa,Va,ga⟩:=B.callX g ea S;refine⟨rfl,?_⟩;refine gdi hp fun ha hp=>?_;exact ba _ _ _ _ p fa ga hp
   obtain⟨Wa,ia,hp⟩:=zqY hp;refine zvI (l:=h) (a:=F) (b:=n) (cmp:=cmp) g.pre (B.wg g) ha300 ia fun m7 ja T=>?_;obtain⟨ka,Xa,d⟩:=B.callX g ja T;refine⟨rfl,?_⟩;intro R8 Pa
   have hgo:∀(q:Nat) (x9:Int) (J:Int) (N:Int) (O:Int) (r:Int) (t:List Evt) (y:M) (u:Nat->Nat),St ⟨m,zri ca100⟩ f f y->Wo ⟨m,zri ca100⟩ f u y 1 ca100 t->ztF n cmp q r t=some rz->R8 [.c (Il x9),.c (Il J),.c (Il N),.c (Il O),.c (Il r)] y:=by
    intro q
    induction q with
    | zero=>intro x9 J N O r t y u D d hp; cases hp
    | succ q P=>
     intro x9 J N O r t y u D d hp;refine Pa _ _ _ _ _ _ ?_;rw[ztF] at hp;refine ifd hp (fun ma hp=>?_) fun ma hp=>?_; rotate_left
     ·obtain rfl:=oi hp;exact hq _ D.extX d.wn
     refine gdi hp fun na hp=>?_;refine gdi hp fun oa hp=>?_;refine gdi hp fun pa hp=>?_;intro Qa qa
     have hgo:∀(w:Nat) (o:Int) (z:Int) (i:List Evt) (A:M) (j:Nat->Nat),St ⟨m,zri ca100⟩ f f A->Wo ⟨m,zri ca100⟩ f j A 1 ca100 i->ztE n cmp r (ztF n cmp q) w o z i=some rz->Qa [.c (Il o),.c (Il z)] A:=by
      intro w
      induction w with
      | zero=>intro o z i A j e d hp; cases hp
      | succ w Y=>
       intro o z i A j e d hp;refine qa _ _ _ ?_;rw[ztE] at hp;refine ifd hp (fun sa hp=>?_) fun sa hp=>?_
       ·refine gdi hp fun ta hp=>?_;obtain⟨Za,ua,hp⟩:=zqY hp;refine zvJ (l:=i) (a:=o) (m:=(o+r)) (b:=z) (cmp:=cmp) e.pre (d.wg e) ha300 ua fun db va Z=>?_;obtain⟨wa,ab,xa⟩:=d.callX e va Z;refine⟨rfl,?_⟩;refine gdi hp fun ya hp=>?_;refine gdi hp fun za hp=>?_;refine gdi hp fun Aa hp=>?_;refine gdi hp fun Ba hp=>?_;exact Y _ _ _ _ j wa xa hp
       refine gdi hp fun Ca hp=>?_;refine ifd hp (fun Da hp=>?_) fun Da hp=>?_; rotate_left
       ·refine gdi hp fun Ea hp=>?_;refine gdi hp fun Fa hp=>?_;refine gdi hp fun Ga hp=>?_;exact P _ _ _ _ _ _ _ j e d hp
       obtain⟨bb,Ha,hp⟩:=zqY hp;refine zvJ (l:=i) (a:=o) (m:=(o+r)) (b:=n) (cmp:=cmp) e.pre (d.wg e) ha300 Ha fun eb Ia aa=>?_;obtain⟨Ja,cb,Ka⟩:=d.callX e Ia aa;refine⟨rfl,?_⟩;refine gdi hp fun La hp=>?_;refine gdi hp fun Ma hp=>?_;refine gdi hp fun Na hp=>?_;exact P _ _ _ _ _ _ _ j Ja Ka hp
     exact hgo _ _ _ _ _ u D d hp
   exact hgo _ _ _ _ _ _ _ _ p ka d hp
 exact hgo _ _ _ _ _ τ0 S0 B hp
theorem zwn{l:List Evt}{cmp:Evt->Evt->Option (Int)}{ca100 ca200:C}{m f:M}{Q:V->M->Prop}{rz:(Unit) × List Evt}(hS:Pre f m)(ha100:Wg f m ca100 l)(ha200:zuN f ca200 cmp)(hp:ztI l cmp=some rz)(hq:∀m',zry (zri ca100) m m'->Wn m m' ca100 rz.2->Q (.tup []) m'):Wc prog tbl 118 [.c ca100,.c ca200] m Q:=by
 have e:=hS.stW ha100;obtain⟨q,a⟩:∃τ,Wo ⟨m,zri ca100⟩ f τ m 1 ca100 l:=⟨_,ha100.wo 1⟩;refine zuw ?_;unfold ztI at hp;refine⟨a.isSl,?_⟩
 try rw[a.slLen]
 obtain⟨o,g,hp⟩:=zqY hp;refine zwm (l:=l) (n:=(l.length:Int)) (cmp:=cmp) e.pre (a.wg e) ha200 g fun r h d=>?_;obtain⟨i,p,j⟩:=a.callX e h d;refine⟨rfl,?_⟩;obtain rfl:=oi hp;exact hq _ i.extX j.wn
theorem zwo{w:Wk}{days:List Int}{ca102 ca103 ca200:C}{m f:M}{Q:V->M->Prop}{rz:List Evt}(hS:Pre f m)(_ha102:Sl f ca102 w.b.Parcels)(ha103:Sl f ca103 w.b.Entries)(ha200:Sl f ca200 days)(hp:ztK w days=some rz)(hq:∀m' f' c0,Grw m f m' f'->Sl f' c0 rz->Q (.c c0) m'):Wc prog tbl 97 [.agg 17 [Il w.b.Last,Il w.b.Owners,ca102,ca103,Il w.numbers,Il w.makes.m0,Il w.makes.m1,Il w.makes.m2,Il w.makes.m3,Il w.makes.m4,Il w.makes.m5,.bool w.out.o0,.bool w.out.o1,.bool w.out.o2,.bool w.out.o3,.bool w.out.o4,.bool w.out.o5],.c ca200] m Q:=by
 have S0:=hS.st;obtain⟨τ0,_⟩:=zsf;refine w97 ?_;unfold ztK at hp;intro m0 ja;obtain⟨ka,la,fb,J⟩:=S0.blk ja τ0 1;refine⟨trivial,trivial,_,J.bk.rc rfl,ha103.isSl,?_⟩
 try rw[ha103.slLen]
 obtain⟨gb,hp⟩:=zqZ hp;obtain⟨n3,D⟩:∃n:Nat,(w.b.Entries.length:Int)=(n:Int):=⟨Int.toNat (w.b.Entries.length:Int),by omega⟩
 have Z:Int.toNat (w.b.Entries.length:Int)=n3:=by omega
 refine⟨0,n3,rfl,(by first|exact D|(rw[ha103.slLen];exact D)),Nat.zero_le _,(by omega),?_⟩;intro m4 ma;obtain⟨na,oa,pa,qa⟩:=la.blk ma ka 2;have sa:=Lb.mkQ (β:=Evt) (a:=({ e:=({ Kind:=(0:Int),Parcel:=(0:Int),Other:=(0:Int),From:=(0:Int),To:=(0:Int),Part:=(0:Int),Day:=({ Lo:=(0:Int),Hi:=(0:Int) }:Rg) }:En),on:=(0:Int),makes:=(0:Int) }:Evt)) qa rfl Z;have i:=J.k pa;refine⟨trivial,trivial,_,i.bk.rc rfl,ha103.isSl,?_⟩;intro R6 Ya
 have hgo:∀(p:Nat) (N:C) (x8:Int) (j:List Evt) (I:M) (o:Nat->Nat),St (Fm.of m) f f I->Lb (Fm.of m) f o I 1 m.nxt 17 [Il w.b.Last,Il w.b.Owners,ca102,ca103,Il w.numbers,Il w.makes.m0,Il w.makes.m1,Il w.makes.m2,Il w.makes.m3,Il w.makes.m4,Il w.makes.m5,.bool w.out.o0,.bool w.out.o1,.bool w.out.o2,.bool w.out.o3,.bool w.out.o4,.bool w.out.o5]->Oq (Fm.of m) f o I 2 N j (Int.toNat (w.b.Entries.length:Int))->ztJ w days p j x8=some rz->R6 [.c N,.c (Il x8)] I:=by
  intro p
  induction p with
  | zero=>intro N x8 j I o h i g hp; cases hp
  | succ p O=>
   intro N x8 j I o h i g hp;refine Ya _ _ _ ?_;rw[ztJ] at hp
   try rw[ha103.slLen]
   refine ifd hp (fun ta hp=>?_) fun ta hp=>?_; rotate_left
   ·have ba:zuN f ((C.fn (Fn.func 119) [] [])) (fun q s=>ztx q s):=by
     intro f' m' q s r Q hs hpre  hg hq;exact zvH hpre  hg hq
    obtain⟨ib,ua,hp⟩:=zqY hp;refine zwn (l:=j) (cmp:=(fun q s=>ztx q s)) h.pre (g.wg h) ba ua fun ob va ca=>?_;obtain⟨wa,jb,xa⟩:=g.callX h va ca;refine⟨rfl,?_⟩;obtain⟨ya,za,kb,Aa⟩:=xa.freeze wa;obtain rfl:=oi hp;exact hq _ ya N za.grw Aa
   obtain⟨d,u,hp⟩:=zqY hp;obtain⟨Za,da,F,u⟩:=zqS u;obtain⟨_,Ba⟩:=zsl ha103 u;refine⟨Za,da,(by first|exact F|(rw[ha103.slLen];exact F)),_,_,_,_,_,_,_,_,(Ba _ h.sub).1,?_⟩;intro pb Ca;obtain⟨Da,Ea,P,Fa⟩:=h.blk Ca o 3;have Ga:=i.k P;have g:=g.k P;obtain⟨Ha,Ia,y,S,Ja⟩:=Fa.sto Ea [Il d.Kind,Il d.Parcel,Il d.Other,Il d.From,Il d.To,Il d.Part,Il d.Day.Lo,Il d.Day.Hi];have t:=Ga.k S;have g:=g.k S;refine⟨Ha,Ia,?_⟩;refine⟨trivial,trivial,?_⟩;obtain⟨mb,z,hp⟩:=zqY hp;obtain⟨ab,ea,fa,z⟩:=zqS z;refine⟨ab,ea,fa,_,(t.bk.rc (zrj (l:=([w.out.o0,w.out.o1,w.out.o2,w.out.o3,w.out.o4,w.out.o5]:List Bool)) (enc:=C.bool) 11 rfl z)),?_⟩;refine zrp hp (fun Ka hp=>?_) fun Ka hp=>?_; rotate_left
   ·refine gdi hp fun La hp=>?_;exact O _ _ _ _ Da y t g hp
   refine⟨_,_,_,_,_,_,_,_,Ja.bk.ra,?_⟩;obtain⟨T,A,hp⟩:=zqY hp;obtain⟨bb,ga,G,A⟩:=zqS A;refine⟨bb,ga,(by first|exact G|(rw[ha200.slLen];exact G)),_,(ha200.rdI A y.sub),trivial,trivial,?_⟩;obtain⟨Y,B,hp⟩:=zqY hp;obtain⟨cb,ha,ia,B⟩:=zqS B;refine⟨cb,ha,ia,_,(t.bk.rc (zrj (l:=([w.makes.m0,w.makes.m1,w.makes.m2,w.makes.m3,w.makes.m4,w.makes.m5]:List Int)) (enc:=(C.int .i64)) 5 rfl B)),?_⟩;obtain⟨Ma,hp⟩:=zqZ hp;intro qb Na;obtain⟨Oa,Pa,Qa,Ra,Sa,Ta,Ua⟩:=g.app' zwl y (a:=({ e:=d,on:=T,makes:=Y }:Evt)) (show Rp.rep (α:=Evt) f _ ({ e:=d,on:=T,makes:=Y }:Evt) from rfl) Ma Na;have Va:=t.k Ta;refine⟨Oa,Pa,Ra,?_⟩;refine gdi hp fun Wa hp=>?_;exact O _ _ _ _ Qa Sa Va Ua hp
 exact hgo _ _ _ _ _ na oa i sa hp
theorem zwp{w:Wk}{t:Tr}{day:Int}{ca102 ca103 ca200 ca201:C}{m f:M}{Q:V->M->Prop}{rz:List Pl × Bool}(hS:Pre f m)(ha102:Sl f ca102 w.b.Parcels)(ha103:Sl f ca103 w.b.Entries)(ha200:Sl f ca200 t.Days)(ha201:Sl f ca201 t.Sown)(hp:ztM w t day=some rz)(hq:∀m',Ext m m'->Q (.tup [.agg 50 (zso rz.1),.c (.bool rz.2)]) m'):Wc prog tbl 64 [.agg 17 [Il w.b.Last,Il w.b.Owners,ca102,ca103,Il w.numbers,Il w.makes.m0,Il w.makes.m1,Il w.makes.m2,Il w.makes.m3,Il w.makes.m4,Il w.makes.m5,.bool w.out.o0,.bool w.out.o1,.bool w.out.o2,.bool w.out.o3,.bool w.out.o4,.bool w.out.o5],.agg 2 [ca200,ca201],.c (Il day)] m Q:=by
 have S0:=hS.st;obtain⟨τ0,_⟩:=zsf;refine w64 ?_;unfold ztM at hp;intro m0 Ea;obtain⟨Fa,Ga,pc,Ha⟩:=S0.blk Ea τ0 1;intro m1 Ia;obtain⟨Ja,Ka,La,Ma⟩:=Ga.blk Ia Fa 2;have Na:=Ha.k La;intro m2 Oa;obtain⟨ha,ia,ja,G⟩:=Ka.blk Oa Ja 3
 replace G:Lb _ _ _ _ _ _ _ (zso (List.replicate 10 ({ owner:=(0:Int),value:=(0:Int),there:=false,harvested:=false,sown:=(0:Int) }:Pl))):=G
 have ka:=Na.k ja;have la:=Ma.k ja;refine⟨_,_,_,_,_,_,_,_,_,_,_,_,_,_,_,_,_,ka.bk.ra,trivial,_,la.bk.rc rfl,?_⟩;obtain⟨Pa,Qa,hp⟩:=zqY hp;refine zvE (w:=w) (sown:=t.Sown) ia.pre ha102 ha103 ha201 Qa fun ic Ra=>?_;obtain⟨Sa,I⟩:=ia.call Ra ha;have Ta:=ka.k I;have Ua:=la.k I;have Va:=G.k I;refine⟨_,rfl,?_⟩;intro zc Wa;obtain⟨ma,Xa,J,N⟩:=Sa.blk Wa ha 4
 replace N:Lb _ _ _ _ _ _ _ (zso (List.replicate 10 ({ owner:=(0:Int),value:=(0:Int),there:=false,harvested:=false,sown:=(0:Int) }:Pl))):=N
 have Ya:=Ta.k J;have Za:=Ua.k J;have ab:=Va.k J;obtain⟨bb,cb,db,O,na⟩:=N.sto Xa (zso Pa);have eb:=Ya.k O;have fb:=Za.k O;have gb:=ab.k O;refine⟨bb,cb,?_⟩;refine⟨0,10,rfl,rfl,_,zrG (by decide),0,10,rfl,rfl,_,zrG (by decide),?_⟩;obtain⟨qc,hp⟩:=zqZ hp;obtain⟨hb,Aa,oa,P,ib⟩:=gb.cpA zwj db na.bk (by rw[zsq]; omega) (by rw[zsq]; omega) (n:=10) (by decide) (by decide);refine⟨_,hb,Aa,?_⟩;have pa:=eb.k P;have qa:=fb.k P;have jb:=na.k P;refine⟨_,_,_,_,_,_,_,_,_,_,_,_,_,_,_,_,_,pa.bk.ra,trivial,_,qa.bk.rc rfl,?_⟩;obtain⟨kb,mb,hp⟩:=zqY hp;refine zwo (w:=w) (days:=t.Days) oa.pre ha102 ha103 ha200 mb fun Ac sa sc ob p=>?_;obtain⟨pb,q⟩:=oa.callG ob ma;have r:=pa.k q;have s:=qa.k q;have i:=ib.k q;have u:=jb.k q;refine⟨_,rfl,p.isSl,?_⟩;intro jc qb
 have hgo:∀(y:Nat) (ta:Bool) (ea:Int) (o:List Pl) (z:List Pl) (j:M) (d:M) (g:Nat->Nat),St (Fm.of m) f d j->Sub sa d->Lb (Fm.of m) d g j 1 m.nxt 17 [Il w.b.Last,Il w.b.Owners,ca102,ca103,Il w.numbers,Il w.makes.m0,Il w.makes.m1,Il w.makes.m2,Il w.makes.m3,Il w.makes.m4,Il w.makes.m5,.bool w.out.o0,.bool w.out.o1,.bool w.out.o2,.bool w.out.o3,.bool w.out.o4,.bool w.out.o5]->Lb (Fm.of m) d g j 2 m0.nxt 2 [ca200,ca201]->Lb (Fm.of m) d g j 3 m1.nxt 50 (zso o)->Lb (Fm.of m) d g j 4 ic.nxt 50 (zso z)->ztL day kb y o z ea=some rz->jc [.c (.bool ta),.c (Il ea)] j:=by
  intro y
  induction y with
  | zero=>intro ta ea o z j d g A l r s i u hp; cases hp
  | succ y fa=>
   intro ta ea o z j d g A l r s i u hp;refine qb _ _ _ ?_;rw[ztL] at hp
   try rw[p.slLen]
   refine ifd hp (fun rb hp=>?_) fun rb hp=>?_; rotate_left
   ·refine⟨_,i.bk.ra,?_⟩;obtain⟨sb,tb,ub,tc,vb⟩:=i.sto A (zso o);refine⟨sb,tb,?_⟩;refine⟨_,vb.bk.ra,?_⟩;obtain rfl:=oi hp;exact hq _ ub.ext'
   obtain⟨a,S,hp⟩:=zqY hp;obtain⟨kc,Ba,ga,S⟩:=zqS S;obtain⟨_,wb⟩:=zsr p S;refine⟨kc,Ba,(by first|exact ga|(rw[p.slLen];exact ga)),_,_,_,_,_,_,_,_,_,_,(wb _ (Sub.trans l A.sub)).1,?_⟩;intro Bc xb;obtain⟨T,yb,B,zb⟩:=A.blk xb g 5;have Ab:=r.k B;have Bb:=s.k B;have Cb:=i.k B;have Db:=u.k B;obtain⟨Eb,Fb,ua,D,Y⟩:=zb.sto yb [Il a.e.Kind,Il a.e.Parcel,Il a.e.Other,Il a.e.From,Il a.e.To,Il a.e.Part,Il a.e.Day.Lo,Il a.e.Day.Hi,Il a.on,Il a.makes];have Gb:=Ab.k D;have Hb:=Bb.k D;have Ib:=Cb.k D;have Jb:=Db.k D;refine⟨Eb,Fb,?_⟩;refine⟨trivial,trivial,_,Y.bk.rc rfl,?_⟩;obtain⟨uc,Kb,hp⟩:=zqY hp;refine zvK (n:=a.e.Kind) ua.pre  Kb fun Cc va vc Mb Nb=>?_;obtain⟨Z,h⟩:=ua.callG Mb T;have Ob:=Gb.k h;have Pb:=Hb.k h;have Qb:=Ib.k h;have wa:=Jb.k h;have xa:=Y.k h;refine⟨_,rfl,_,_,_,_,_,_,_,_,_,_,xa.bk.ra,(Y.bk.ra),?_⟩;obtain⟨wc,Rb,hp⟩:=zqY hp;refine Nb _ _ _ _ _ _ _ (Sub.refl _) Z.pre (wa.lc Z)  Rb fun Dc Sb Ca=>?_;obtain⟨aa,F,ba⟩:=wa.callX Z Sb Ca;have ya:=Ob.k F;have za:=Pb.k F;have ca:=Qb.k F;have Tb:=xa.k F;refine⟨_,rfl,?_⟩;refine zrp hp (fun Ub hp=>?_) fun Ub hp=>?_
   ·obtain⟨Vb,Wb,Xb,xc,Yb⟩:=ca.sto aa (zso (List.replicate 10 ({ owner:=(0:Int),value:=(0:Int),there:=false,harvested:=false,sown:=(0:Int) }:Pl)));refine⟨Vb,Wb,?_⟩;refine⟨_,Yb.bk.ra,?_⟩;obtain rfl:=oi hp;exact hq _ Xb.ext'
   refine⟨trivial,_,Tb.bk.rc rfl,?_⟩;refine ifd hp (fun Zb hp=>?_) fun Zb hp=>?_; rotate_left
   ·refine gdi hp fun ac hp=>?_;exact fa _ _ _ _ _ va T aa (Sub.trans l h.fs) ya za ca ba hp
   refine⟨0,10,rfl,rfl,_,zrG (by decide),0,10,rfl,rfl,_,zrG (by decide),?_⟩;obtain⟨yc,hp⟩:=zqZ hp;obtain⟨bc,Da,cc,da,dc⟩:=ca.cpA zwj aa ba.bk (by rw[zsq]; omega) (by rw[zsq]; omega) (n:=10) (by decide) (by decide);refine⟨_,bc,Da,?_⟩;have ec:=ya.k da;have fc:=za.k da;have gc:=ba.k da;refine gdi hp fun hc hp=>?_;exact fa _ _ _ _ _ va T cc (Sub.trans l h.fs) ec fc dc gc hp
 exact hgo _ _ _ _ _ _ sa ma pb (Sub.refl _) r s i u hp
theorem zwq{w:Wk}{bq0:Nat}{cb002 cb003:C}{m f:M}{F:Fm}{n0 ly:Nat}{xs:List Tr}{I:Nat->(Nat->Prop)->M->Prop}{E:(Nat->Prop)->M->Prop}{S1:Nat->Prop}{Q:V->M->Prop}{rz:List Tr}{τ0:Nat->Nat}(hc:zrv prog tbl n0 ly (VsW xs F.m.nxt) I E)(S0:St F f f m)(Y0:Yg n0 (YJW xs I rz) S1 F f τ0 m)(hb0:Bk f bq0 17 [(.int .i64 w.b.Last),(.int .i64 w.b.Owners),cb002,cb003,(.int .i64 w.numbers),(.int .i64 w.makes.m0),(.int .i64 w.makes.m1),(.int .i64 w.makes.m2),(.int .i64 w.makes.m3),(.int .i64 w.makes.m4),(.int .i64 w.makes.m5),.bool w.out.o0,.bool w.out.o1,.bool w.out.o2,.bool w.out.o3,.bool w.out.o4,.bool w.out.o5])(hb002:Sl f cb002 w.b.Parcels)(hb003:Sl f cb003 w.b.Entries)(hp:ztP w=some rz)(hq:∀v m' f' τ' S',St F f f' m'->(Yg n0 (YJW xs I ([]:List Tr)) S' F f' τ' m'\/Yg n0 E S' F f' τ' m')->Q v m'):Wc prog tbl 114 [.c (.fn (.yield ly) [] []),.c (.ptr bq0 0)] m Q:=by
 have hN0:F.m.nxt<=m.nxt:=S0.ext.nxt;refine zuh ?_;unfold ztP at hp;intro m0 e729;obtain⟨τ732,S730,k731,L733⟩:=S0.blk e729 τ0 1;have Y734:=Y0.k k731 (by decide);refine⟨trivial,trivial,_,(hb0.sub S730.sub).rc rfl,hb003.isSl,?_⟩;intro m2 e735;obtain⟨τ738,S736,k737,L739⟩:=S730.blk e735 τ732 2;have L740:=L733.k k737 (by decide);have Y741:=Y734.k k737 (by decide)
 try rw[hb003.slLen]
 obtain⟨m745,e744,S742,k743,L746⟩:=L739.sto S736 [(.int .i64 (w.b.Entries.length:Int))];have L747:=L740.k k743 (by decide);have Y748:=Y741.k k743 (by decide);refine⟨m745,e744,?_⟩;refine⟨_,_,_,_,_,_,_,_,_,_,_,_,_,_,_,_,_,(hb0.sub S742.sub).ra,?_⟩;obtain⟨r749,g750,hp⟩:=zqY hp;refine zvv (w:=w) S742.pre hb002 hb003 g750 fun m22 f754 c755 e753 h756=>?_;obtain⟨S751,k752⟩:=S742.callG e753 τ738;have L757:=L747.k k752 (by decide);have L758:=L746.k k752 (by decide);have Y759:=Y748.k k752 (by decide);refine⟨_,rfl,?_⟩;obtain⟨r760,g761,hp⟩:=zqY hp;refine zvV (l:=r749) S751.pre h756 g761 fun m25 f765 c766 e764 h767=>?_;obtain⟨S762,k763⟩:=S751.callG e764 τ738;have L768:=L757.k k763 (by decide);have L769:=L758.k k763 (by decide);have Y770:=Y759.k k763 (by decide);refine⟨_,rfl,?_⟩;have hN777:F.m.nxt<=m25.nxt:=S762.ext.nxt
 refine zrR (α:=List Int) S762 h767 (σ:=(List Tr) × (Nat->Prop) × Bool) 3 (fun st bb=>(False\/(False\/(st.2.1 bb)))) (fun st gG gF gT gM=>(Lb gG gF gT gM 1 m.nxt 1 [(.fn (.yield ly) [] [])])/\(Lb gG gF gT gM 2 m0.nxt 1 [(.int .i64 (w.b.Entries.length:Int))])/\(Yg n0 (YDW xs I E st.2.2 st.1) st.2.1 gG gF gT gM)) (fun rr_ st=>st.2.2=false/\ztO w rr_=some st.1) (fun ex st=>(match ex with | .ret=>st.2.2=true\/(st.2.2=false/\(0:Nat)=0/\ztN=some st.1) | _=>False)) (fun st=>(Gux.and (Gux.lb L768.bk.lt (by decide)) (Gux.and (Gux.lb L769.bk.lt (by decide)) (Gux.yg Y770.n (by decide))))) (st0:=(rz,S1,false)) (τ:=τ738) ⟨L768,L769,Y770⟩ ⟨rfl,hp⟩ ?_ ?_ ?_ ?_
 ·intro a782 q783 st f784 τ785 m28 F786 o787 Ok788 en789 Kn790 _ _ S791 s792 hA rk793 hp hrep hX796 he794 hk795;obtain⟨c797,rfl,⟨h798,x800⟩⟩:=hrep
  have xt799:Xt F.m.nxt τ785 m28 c797:=fun b o k s d he=>by have:=hX796 b (x800 b o k s d he); exact⟨by omega,this.2⟩
  obtain⟨r773,s774,d775⟩:=st;obtain⟨hdd,hp⟩:=hp
  replace hdd:d775=false:=hdd
  subst hdd;obtain⟨L771,L772,Y776⟩:=hA
  replace L771:Lb F786 f784 τ785 m28 1 m.nxt 1 [(.fn (.yield ly) [] [])]:=L771
  replace L772:Lb F786 f784 τ785 m28 2 m0.nxt 1 [(.int .i64 (w.b.Entries.length:Int))]:=L772
  replace Y776:Yg n0 (YJW xs I r773) s774 F786 f784 τ785 m28:=Y776
  replace hp:ztO w (a782::q783)=some r773:=hp
  rw[ztO] at hp;refine⟨_,rfl,?_⟩;refine he794 _ _ _ _ S791 rk793 fun m32 o804 S801 k802 rk803 hO805=>?_;have L806:=L771.k k802 (by decide);have L807:=L772.k k802 (by decide);have Y808:=Y776.k k802 (by decide);have xt799:=xt799.k k802;refine⟨_,L806.bk.rc rfl,_,L807.bk.rc rfl,?_⟩;obtain⟨g812,hp⟩:=zqZ hp;obtain⟨c809,r810,h811⟩:=h798.subC (i:=Int.toNat (0:Int)) (j:=Int.toNat (w.b.Entries.length:Int)) (by omega) (by omega);refine⟨_,_,rfl,(show(w.b.Entries.length:Int)=((Int.toNat (w.b.Entries.length:Int):Nat):Int) by omega),c809,r810,?_⟩;have xt813:=xt799.sub r810;refine⟨_,L807.bk.rc rfl,?_⟩
  try rw[h798.slLen]
  obtain⟨g817,hp⟩:=zqZ hp;obtain⟨c814,r815,h816⟩:=h798.subC (i:=Int.toNat (w.b.Entries.length:Int)) (j:=Int.toNat (a782.length:Int)) (by omega) (by omega);refine⟨_,_,(show(w.b.Entries.length:Int)=((Int.toNat (w.b.Entries.length:Int):Nat):Int) by omega),rfl,c814,r815,?_⟩;have xt818:=xt799.sub r815;obtain⟨r819,hp821,hz820⟩:=zqY hp
  clear hp
  obtain rfl:=oi hz820;have hp:=hp821;refine Yg.yieldW (a:=({ Days:=((a782.take (Int.toNat (w.b.Entries.length:Int))).drop (Int.toNat (0:Int))),Sown:=((a782.take (Int.toNat (a782.length:Int))).drop (Int.toNat (w.b.Entries.length:Int))) }:Tr)) hc S801 Y808 (fun X9 hX9=>⟨c809,c814,rfl,⟨h811.sub S801.sub,xt813.x hX9⟩,⟨h816.sub S801.sub,xt818.x hX9⟩⟩) ?_ ?_
  ·intro m43 τ822 s826 S823 k824 Y825;have L827:=L806.k k824 (by decide);have L828:=L807.k k824 (by decide);have rk829:=rk803.k k824 (by decide);have xt799:=xt799.k k824;have xt813:=xt813.k k824;have xt818:=xt818.k k824;refine⟨_,rfl,?_⟩;refine zrq ?_;exact hk795 .nrm (r819,s826,false) _ _ _ _ S823 ⟨L827,L828,Y825⟩ rk829 hO805 ⟨rfl,hp⟩
  ·intro m43 τ830 s834 S831 k832 Y833;have L835:=L806.k k832 (by decide);have L836:=L807.k k832 (by decide);have rk837:=rk803.k k832 (by decide);have xt799:=xt799.k k832;have xt813:=xt813.k k832;have xt818:=xt818.k k832;refine⟨_,rfl,?_⟩;refine zrr ?_;exact hk795 .ret ([],s834,true) _ _ _ _ S831 ⟨L835,L836,Y833⟩ rk837 hO805 (.inl rfl)
 ·intro st f838 τ840 m45 S841 s839 hA hp;obtain⟨r773,s774,d775⟩:=st;obtain⟨hdd,hp⟩:=hp
  replace hdd:d775=false:=hdd
  subst hdd
  replace hp:ztO w []=some r773:=hp
  obtain⟨L771,L772,Y776⟩:=hA
  replace L771:Lb F f838 τ840 m45 1 m.nxt 1 [(.fn (.yield ly) [] [])]:=L771
  replace L772:Lb F f838 τ840 m45 2 m0.nxt 1 [(.int .i64 (w.b.Entries.length:Int))]:=L772
  replace Y776:Yg n0 (YJW xs I r773) s774 F f838 τ840 m45:=Y776
  rw[ztO] at hp;obtain rfl:=oi hp;exact hq _ _ _ _ _ S841 (.inl Y776)
 ·intro id st _ _ _ _ _ _ hn; first | exact hn.elim | (cases hn)
 ·intro st f778 τ780 m46 S781 s779 hA hn;obtain⟨r773,s774,d775⟩:=st
  rcases hn with hd | ⟨hd,hid,hp⟩
  ·replace hd:d775=true:=hd
   subst hd;obtain⟨L771,L772,Y776⟩:=hA
   replace L771:Lb F f778 τ780 m46 1 m.nxt 1 [(.fn (.yield ly) [] [])]:=L771
   replace L772:Lb F f778 τ780 m46 2 m0.nxt 1 [(.int .i64 (w.b.Entries.length:Int))]:=L772
   replace Y776:Yg n0 E s774 F f778 τ780 m46:=Y776
   exact hq _ _ _ _ _ S781 (.inr Y776)
  replace hd:d775=false:=hd
  subst hd
  replace hp:ztN=some r773:=hp
  unfold ztN at hp;obtain⟨L771,L772,Y776⟩:=hA
  replace L771:Lb F f778 τ780 m46 1 m.nxt 1 [(.fn (.yield ly) [] [])]:=L771
  replace L772:Lb F f778 τ780 m46 2 m0.nxt 1 [(.int .i64 (w.b.Entries.length:Int))]:=L772
  replace Y776:Yg n0 (YJW xs I r773) s774 F f778 τ780 m46:=Y776
  obtain rfl:=oi hp;exact hq _ _ _ _ _ S781 (.inl Y776)
theorem zwr{w:Wk}{ca102 ca103:C}{m f:M}{Q:V->M->Prop}{rz:List Tr}(hS:Pre f m)(ha102:Sl f ca102 w.b.Parcels)(ha103:Sl f ca103 w.b.Entries)(hp:ztQ w=some rz)(hq:∀m' f' c0,Grw m f m' f'->ItW prog tbl f' c0 rz->Q (.c c0) m'):Wc prog tbl 89 [.agg 17 [Il w.b.Last,Il w.b.Owners,ca102,ca103,Il w.numbers,Il w.makes.m0,Il w.makes.m1,Il w.makes.m2,Il w.makes.m3,Il w.makes.m4,Il w.makes.m5,.bool w.out.o0,.bool w.out.o1,.bool w.out.o2,.bool w.out.o3,.bool w.out.o4,.bool w.out.o5]] m Q:=by
 have p:=hS.st;obtain⟨q,_⟩:=zsf;refine w89 ?_;unfold ztQ at hp;intro m0 i;obtain⟨r,j,s,l⟩:=p.blk i q 1;obtain⟨d,a,e,g⟩:=l.freeze j;obtain⟨n,o,hp⟩:=zqY hp;have h:ItW prog tbl d ((C.fn (Fn.func 114) [] [(W.c (C0.ptr m.nxt 0))])) n:=zrQ a.fz a.fv fun t ly I E m1 u hc y z hS hY Q hq=>zwq hc hS hY g (ha102.sub e.fs) (ha103.sub e.fs) o hq;obtain rfl:=oi hp;exact hq _ d (C.fn (Fn.func 114) [] [(W.c (C0.ptr m.nxt 0))]) a.grw h
theorem zws{w:Wk}{t:Tr}{ca102 ca103 ca200 ca201:C}{m f:M}{Q:V->M->Prop}{rz:Bool}(hS:Pre f m)(ha102:Sl f ca102 w.b.Parcels)(ha103:Sl f ca103 w.b.Entries)(ha200:Sl f ca200 t.Days)(ha201:Sl f ca201 t.Sown)(hp:ztR w t=some rz)(hq:∀m',Ext m m'->Q (.c (.bool rz)) m'):Wc prog tbl 66 [.agg 17 [Il w.b.Last,Il w.b.Owners,ca102,ca103,Il w.numbers,Il w.makes.m0,Il w.makes.m1,Il w.makes.m2,Il w.makes.m3,Il w.makes.m4,Il w.makes.m5,.bool w.out.o0,.bool w.out.o1,.bool w.out.o2,.bool w.out.o3,.bool w.out.o4,.bool w.out.o5],.agg 2 [ca200,ca201]] m Q:=by
 have F:=hS.st;obtain⟨G,_⟩:=zsf;refine w66 ?_;unfold ztR at hp;intro m0 h;obtain⟨i,j,I,l⟩:=F.blk h G 1;intro m1 n;obtain⟨d,e,o,p⟩:=j.blk n i 2;have g:=l.k o;refine⟨_,_,_,_,_,_,_,_,_,_,_,_,_,_,_,_,_,g.bk.ra,_,_,p.bk.ra,trivial,trivial,_,g.bk.rc rfl,?_⟩;obtain⟨q,r,hp⟩:=zqY hp;refine zwp (w:=w) (t:=t) (day:=w.b.Last) e.pre ha102 ha103 ha200 ha201 r fun T s=>?_;obtain⟨u,J⟩:=e.call s d;refine⟨_,_,rfl,?_⟩;intro Y y;obtain⟨N,z,O,a⟩:=u.blk y d 3
 replace a:Lb _ _ _ _ _ _ _ (zso (List.replicate 10 ({ owner:=(0:Int),value:=(0:Int),there:=false,harvested:=false,sown:=(0:Int) }:Pl))):=a
 obtain⟨A,B,D,P,S⟩:=a.sto z (zso q.1);refine⟨A,B,?_⟩;obtain rfl:=oi hp;exact hq _ D.ext'
theorem zwt{w:Wk}{ca102 ca103:C}{m f:M}{Q:V->M->Prop}{rz:Bool}(hS:Pre f m)(ha102:Sl f ca102 w.b.Parcels)(ha103:Sl f ca103 w.b.Entries)(hp:ztU w=some rz)(hq:∀m',Ext m m'->Q (.c (.bool rz)) m'):Wc prog tbl 91 [.agg 17 [Il w.b.Last,Il w.b.Owners,ca102,ca103,Il w.numbers,Il w.makes.m0,Il w.makes.m1,Il w.makes.m2,Il w.makes.m3,Il w.makes.m4,Il w.makes.m5,.bool w.out.o0,.bool w.out.o1,.bool w.out.o2,.bool w.out.o3,.bool w.out.o4,.bool w.out.o5]] m Q:=by
 have S0:=hS.st;obtain⟨τ0,_⟩:=zsf;refine w91 ?_;unfold ztU at hp;intro m0 ja;obtain⟨ka,la,kb,ma⟩:=S0.blk ja τ0 1;intro m1 na;obtain⟨r,s,oa,pa⟩:=la.blk na ka 2;have u:=ma.k oa;refine⟨_,_,_,_,_,_,_,_,_,_,_,_,_,_,_,_,_,u.bk.ra,?_⟩;obtain⟨mb,qa,hp⟩:=zqY hp;refine zwr (w:=w) s.pre ha102 ha103 qa fun wb ob pb sa ta=>?_;obtain⟨ua,g⟩:=s.callG sa r;have y:=u.k g;have z:=pa.k g;refine⟨_,rfl,?_⟩
 refine zrR (α:=Tr) ua ta (σ:=Bool) 3 (fun st bb=>(False\/False)) (fun st gG gF gT gM=>(Lb gG gF gT gM 1 m.nxt 17 [Il w.b.Last,Il w.b.Owners,ca102,ca103,Il w.numbers,Il w.makes.m0,Il w.makes.m1,Il w.makes.m2,Il w.makes.m3,Il w.makes.m4,Il w.makes.m5,.bool w.out.o0,.bool w.out.o1,.bool w.out.o2,.bool w.out.o3,.bool w.out.o4,.bool w.out.o5])/\(Lb gG gF gT gM 2 m0.nxt 1 [.bool st])) (fun rr_ st=>ztT w rr_ st=some rz) (fun ex st=>(match ex with | .ret=>(0:Nat)=0/\ztS st=some rz | _=>False)) (fun st=>(Gux.and (Gux.lb y.bk.lt (by decide)) (Gux.lb z.bk.lt (by decide)))) (st0:=(false)) (τ:=r) ⟨y,z⟩ hp ?_ ?_ ?_ ?_
 ·intro A va d B h ga D qb eb fb gb _ _ wa F hA aa hp hrep hb ba o;obtain⟨xa,ya,rfl,⟨za,_⟩,⟨Aa,_⟩⟩:=hrep;obtain⟨e,a⟩:=hA
  replace e:Lb D B h ga 1 m.nxt 17 [Il w.b.Last,Il w.b.Owners,ca102,ca103,Il w.numbers,Il w.makes.m0,Il w.makes.m1,Il w.makes.m2,Il w.makes.m3,Il w.makes.m4,Il w.makes.m5,.bool w.out.o0,.bool w.out.o1,.bool w.out.o2,.bool w.out.o3,.bool w.out.o4,.bool w.out.o5]:=e
  replace a:Lb D B h ga 2 m0.nxt 1 [.bool d]:=a
  replace hp:ztT w (A::va) d=some rz:=hp
  rw[ztT] at hp;refine⟨_,_,rfl,?_⟩;intro xb Ba;obtain⟨Ca,Da,i,Ea⟩:=wa.blk Ba h 4;have Fa:=e.k i;have Ga:=a.k i;have ca:=aa.k i;obtain⟨Ha,Ia,Ja,j,Ka⟩:=Ea.sto Da [xa,ya];have La:=Fa.k j;have Ma:=Ga.k j;have da:=ca.k j;refine⟨Ha,Ia,?_⟩;refine ba _ _ _ _ Ja da fun yb rb G l ea p=>?_;have I:=La.k l;have Na:=Ma.k l;have Oa:=Ka.k l;refine⟨_,_,_,_,_,_,_,_,_,_,_,_,_,_,_,_,_,I.bk.ra,_,_,Oa.bk.ra,?_⟩;obtain⟨sb,Pa,hp⟩:=zqY hp;refine zws (w:=w) (t:=A) G.pre (ha102.sub (Sub.trans g.fs F)) (ha103.sub (Sub.trans g.fs F)) za Aa Pa fun zb Qa=>?_;obtain⟨J,n⟩:=G.call Qa Ca;have N:=I.k n;have O:=Na.k n;have q:=ea.k n;refine⟨_,rfl,?_⟩;refine zro hp (fun Ra hp=>?_) fun Ra hp=>?_; rotate_left
  ·exact o .nrm (d) _ _ _ _ J ⟨N,O⟩ q p hp
  obtain⟨Sa,Ta,Ua,P,Va⟩:=O.sto J [.bool true];have Wa:=N.k P;have fa:=q.k P;refine⟨Sa,Ta,?_⟩;exact o .ret (true) _ _ _ _ Ua ⟨Wa,Va⟩ fa p ⟨rfl,hp⟩
 ·intro d S T ha Xa tb hA hp
  replace hp:ztT w [] d=some rz:=hp
  obtain⟨e,a⟩:=hA
  replace e:Lb (Fm.of m) S T ha 1 m.nxt 17 [Il w.b.Last,Il w.b.Owners,ca102,ca103,Il w.numbers,Il w.makes.m0,Il w.makes.m1,Il w.makes.m2,Il w.makes.m3,Il w.makes.m4,Il w.makes.m5,.bool w.out.o0,.bool w.out.o1,.bool w.out.o2,.bool w.out.o3,.bool w.out.o4,.bool w.out.o5]:=e
  replace a:Lb (Fm.of m) S T ha 2 m0.nxt 1 [.bool d]:=a
  rw[ztT] at hp;obtain⟨Ya,Za,ab,ub,cb⟩:=a.sto Xa [.bool false];refine⟨Ya,Za,?_⟩;refine⟨_,cb.bk.rc rfl,?_⟩;obtain rfl:=oi hp;exact hq _ ab.ext'
 ·intro id st _ _ _ _ _ _ hn; first | exact hn.elim | (cases hn)
 ·intro d Y Z ia db vb hA hn;obtain⟨hid,hp⟩:=hn
  replace hp:ztS d=some rz:=hp
  unfold ztS at hp;obtain⟨e,a⟩:=hA
  replace e:Lb (Fm.of m) Y Z ia 1 m.nxt 17 [Il w.b.Last,Il w.b.Owners,ca102,ca103,Il w.numbers,Il w.makes.m0,Il w.makes.m1,Il w.makes.m2,Il w.makes.m3,Il w.makes.m4,Il w.makes.m5,.bool w.out.o0,.bool w.out.o1,.bool w.out.o2,.bool w.out.o3,.bool w.out.o4,.bool w.out.o5]:=e
  replace a:Lb (Fm.of m) Y Z ia 2 m0.nxt 1 [.bool d]:=a
  refine⟨_,a.bk.rc rfl,?_⟩;obtain rfl:=oi hp;exact hq _ db.ext'
theorem zwu{w:Wk}{last:Int}{ca102 ca103:C}{m f:M}{Q:V->M->Prop}{rz:Wk}(hS:Pre f m)(ha102:Sl f ca102 w.b.Parcels)(ha103:Sl f ca103 w.b.Entries)(hp:ztW w last=some rz)(hq:∀m' f' c2 c3,Grw m f m' f'->Sl f' c2 rz.b.Parcels->Sl f' c3 rz.b.Entries->Q (.agg 17 [Il rz.b.Last,Il rz.b.Owners,c2,c3,Il rz.numbers,Il rz.makes.m0,Il rz.makes.m1,Il rz.makes.m2,Il rz.makes.m3,Il rz.makes.m4,Il rz.makes.m5,.bool rz.out.o0,.bool rz.out.o1,.bool rz.out.o2,.bool rz.out.o3,.bool rz.out.o4,.bool rz.out.o5]) m'):Wc prog tbl 90 [.agg 17 [Il w.b.Last,Il w.b.Owners,ca102,ca103,Il w.numbers,Il w.makes.m0,Il w.makes.m1,Il w.makes.m2,Il w.makes.m3,Il w.makes.m4,Il w.makes.m5,.bool w.out.o0,.bool w.out.o1,.bool w.out.o2,.bool w.out.o3,.bool w.out.o4,.bool w.out.o5],.c (Il last)] m Q:=by
 have S0:=hS.st;obtain⟨τ0,_⟩:=zsf;refine w90 ?_;unfold ztW at hp;intro m0 fa;obtain⟨ga,ha,ta,ia⟩:=S0.blk fa τ0 1;intro m1 ja;obtain⟨ka,la,ma,B⟩:=ha.blk ja ga 2;have z:=ia.k ma;refine⟨trivial,trivial,_,z.bk.rc rfl,ha103.isSl,?_⟩;intro R3 oa
 have hgo:∀(A:Nat) (t:Int) (u:Int) (y:Int) (a:Int) (d:Int) (e:Int) (g:Int) (h:Int) (i:Int) (j:Int) (n:Bool) (o:Bool) (p:Bool) (q:Bool) (r:Bool) (s:Bool) (m5:M) (D:Nat->Nat),St (Fm.of m) f f m5->Lb (Fm.of m) f D m5 1 m.nxt 17 [Il u,Il y,ca102,ca103,Il a,Il d,Il e,Il g,Il h,Il i,Il j,.bool n,.bool o,.bool p,.bool q,.bool r,.bool s]->Lb (Fm.of m) f D m5 2 m0.nxt 17 [Il 0,Il 0,.sl0,.sl0,Il 0,Il 0,Il 0,Il 0,Il 0,Il 0,Il 0,.bool false,.bool false,.bool false,.bool false,.bool false,.bool false]->ztV w last A u y a d e g h i j n o p q r s t=some rz->R3 [.c (Il t)] m5:=by
  intro A
  induction A with
  | zero=>intro t u y a d e g h i j n o p q r s m5 D J z B hp; cases hp
  | succ A na=>
   intro t u y a d e g h i j n o p q r s m5 D J z B hp;refine oa _ _ ?_;rw[ztV] at hp
   try rw[ha103.slLen]
   refine ifd hp (fun N hp=>?_) fun N hp=>?_; rotate_left
   ·refine⟨_,_,_,_,_,_,_,_,_,_,_,_,_,_,_,_,_,z.bk.ra,?_⟩;obtain⟨O,P,S,pa,T⟩:=B.sto J [Il u,Il y,ca102,ca103,Il a,Il d,Il e,Il g,Il h,Il i,Il j,.bool n,.bool o,.bool p,.bool q,.bool r,.bool s];refine⟨O,P,?_⟩;refine⟨_,_,_,_,_,_,_,_,_,_,_,_,_,_,_,_,_,T.bk.ra,?_⟩;obtain rfl:=oi hp;exact hq _ f ca102 ca103 S.grw ha102 ha103
   refine⟨trivial,trivial,?_⟩;obtain⟨Y,hp⟩:=zqZ hp;obtain⟨n6,G,I⟩:=zrk Y;refine⟨n6,G,I,?_⟩;obtain⟨Z,aa,ba,ca,F⟩:=z.sta J (pre:=[Il u,Il y,ca102,ca103,Il a,Il d,Il e,Il g,Il h,Il i,Il j]) (post:=[]) (l:=([n,o,p,q,r,s]:List Bool)) (enc:=C.bool) rfl rfl G I ((decide (last < t)))
   replace F:Lb _ _ _ _ _ _ _ [Il u,Il y,ca102,ca103,Il a,Il d,Il e,Il g,Il h,Il i,Il j,(.bool (sti t 0 (decide (last < t)) n)),(.bool (sti t 1 (decide (last < t)) o)),(.bool (sti t 2 (decide (last < t)) p)),(.bool (sti t 3 (decide (last < t)) q)),(.bool (sti t 4 (decide (last < t)) r)),(.bool (sti t 5 (decide (last < t)) s))]:=F
   have da:=B.k ca;refine⟨Z,aa,?_⟩;refine gdi hp fun ea hp=>?_;exact na _ _ _ _ _ _ _ _ _ _ _ _ _ _ _ _ _ D ba F da hp
 exact hgo _ _ _ _ _ _ _ _ _ _ _ _ _ _ _ _ _ _ ka la z B hp
theorem zwv{w:Wk}{list:List Int}{ca102 ca103 ca200:C}{m f:M}{Q:V->M->Prop}{rz:Wk}(hS:Pre f m)(ha102:Sl f ca102 w.b.Parcels)(ha103:Sl f ca103 w.b.Entries)(ha200:Sl f ca200 list)(hp:ztY w list=some rz)(hq:∀m' f' c2 c3,Grw m f m' f'->Sl f' c2 rz.b.Parcels->Sl f' c3 rz.b.Entries->Q (.agg 17 [Il rz.b.Last,Il rz.b.Owners,c2,c3,Il rz.numbers,Il rz.makes.m0,Il rz.makes.m1,Il rz.makes.m2,Il rz.makes.m3,Il rz.makes.m4,Il rz.makes.m5,.bool rz.out.o0,.bool rz.out.o1,.bool rz.out.o2,.bool rz.out.o3,.bool rz.out.o4,.bool rz.out.o5]) m'):Wc prog tbl 93 [.agg 17 [Il w.b.Last,Il w.b.Owners,ca102,ca103,Il w.numbers,Il w.makes.m0,Il w.makes.m1,Il w.makes.m2,Il w.makes.m3,Il w.makes.m4,Il w.makes.m5,.bool w.out.o0,.bool w.out.o1,.bool w.out.o2,.bool w.out.o3,.bool w.out.o4,.bool w.out.o5],.c ca200] m Q:=by
 have S0:=hS.st;obtain⟨τ0,_⟩:=zsf;refine w93 ?_;unfold ztY at hp;intro m0 S;obtain⟨T,Y,ua,Z⟩:=S0.blk S τ0 1;intro m1 aa;obtain⟨ba,ca,da,z⟩:=Y.blk aa T 2;have A:=Z.k da;refine⟨ha200.isSl,?_⟩;intro R2 ta
 have hgo:∀(D:Nat) (x3:Int) (a:Int) (d:Int) (e:Int) (g:Int) (h:Int) (i:Int) (j:Int) (n:Int) (o:Int) (p:Bool) (q:Bool) (r:Bool) (s:Bool) (t:Bool) (u:Bool) (m4:M) (B:Nat->Nat),St (Fm.of m) f f m4->Lb (Fm.of m) f B m4 1 m.nxt 17 [Il a,Il d,ca102,ca103,Il e,Il g,Il h,Il i,Il j,Il n,Il o,.bool p,.bool q,.bool r,.bool s,.bool t,.bool u]->Lb (Fm.of m) f B m4 2 m0.nxt 17 [Il 0,Il 0,.sl0,.sl0,Il 0,Il 0,Il 0,Il 0,Il 0,Il 0,Il 0,.bool false,.bool false,.bool false,.bool false,.bool false,.bool false]->ztX w list D a d e g h i j n o p q r s t u x3=some rz->R2 [.c (Il x3)] m4:=by
  intro D
  induction D with
  | zero=>intro x3 a d e g h i j n o p q r s t u m4 B F A z hp; cases hp
  | succ D sa=>
   intro x3 a d e g h i j n o p q r s t u m4 B F A z hp;refine ta _ _ ?_;rw[ztX] at hp
   try rw[ha200.slLen]
   refine ifd hp (fun fa hp=>?_) fun fa hp=>?_; rotate_left
   ·refine⟨_,_,_,_,_,_,_,_,_,_,_,_,_,_,_,_,_,A.bk.ra,?_⟩;obtain⟨ga,ha,ia,va,ja⟩:=z.sto F [Il a,Il d,ca102,ca103,Il e,Il g,Il h,Il i,Il j,Il n,Il o,.bool p,.bool q,.bool r,.bool s,.bool t,.bool u];refine⟨ga,ha,?_⟩;refine⟨_,_,_,_,_,_,_,_,_,_,_,_,_,_,_,_,_,ja.bk.ra,?_⟩;obtain rfl:=oi hp;exact hq _ f ca102 ca103 ia.grw ha102 ha103
   obtain⟨y,G,hp⟩:=zqY hp;obtain⟨n5,P,J,G⟩:=zqS G;refine⟨n5,P,(by first|exact J|(rw[ha200.slLen];exact J)),_,(ha200.rdI G F.sub),trivial,trivial,?_⟩;obtain⟨ka,hp⟩:=zqZ hp;obtain⟨n7,N,O⟩:=zrk ka;refine⟨n7,N,O,?_⟩;obtain⟨la,ma,na,oa,I⟩:=A.sta F (pre:=[Il a,Il d,ca102,ca103,Il e,Il g,Il h,Il i,Il j,Il n,Il o]) (post:=[]) (l:=([p,q,r,s,t,u]:List Bool)) (enc:=C.bool) rfl rfl N O true
   replace I:Lb _ _ _ _ _ _ _ [Il a,Il d,ca102,ca103,Il e,Il g,Il h,Il i,Il j,Il n,Il o,(.bool (sti y 0 true p)),(.bool (sti y 1 true q)),(.bool (sti y 2 true r)),(.bool (sti y 3 true s)),(.bool (sti y 4 true t)),(.bool (sti y 5 true u))]:=I
   have pa:=z.k oa;refine⟨la,ma,?_⟩;refine gdi hp fun qa hp=>?_;exact sa _ _ _ _ _ _ _ _ _ _ _ _ _ _ _ _ _ B na I pa hp
 exact hgo _ _ _ _ _ _ _ _ _ _ _ _ _ _ _ _ _ _ ba ca A z hp
theorem zww{list:List Int}{w:Wk}{bq0:Nat}{ca100 cb002 cb003:C}{m f:M}{Q:V->M->Prop}{rz:Bool}(hS:Pre f m)(ha100:Sl f ca100 list)(hb0:Bk f bq0 17 [Il w.b.Last,Il w.b.Owners,cb002,cb003,Il w.numbers,Il w.makes.m0,Il w.makes.m1,Il w.makes.m2,Il w.makes.m3,Il w.makes.m4,Il w.makes.m5,.bool w.out.o0,.bool w.out.o1,.bool w.out.o2,.bool w.out.o3,.bool w.out.o4,.bool w.out.o5])(hb002:Sl f cb002 w.b.Parcels)(hb003:Sl f cb003 w.b.Entries)(hp:ztZ list w=some rz)(hq:∀m',Ext m m'->Q (.c (.bool rz)) m'):Wc prog tbl 92 [.c ca100,.c (.ptr bq0 0)] m Q:=by
 have o:=hS.st;obtain⟨p,_⟩:=zsf;refine c92 ?_;unfold ztZ at hp;refine⟨_,_,_,_,_,_,_,_,_,_,_,_,_,_,_,_,_,(hb0.sub o.sub).ra,?_⟩;obtain⟨d,e,hp⟩:=zqY hp;refine zwv (w:=w) (list:=list) o.pre hb002 hb003 ha100 e fun z q r s g h i=>?_;obtain⟨a,t⟩:=o.callG g p;refine⟨_,_,_,_,_,_,_,_,_,_,_,_,_,_,_,_,_,rfl,?_⟩;obtain⟨u,j,hp⟩:=zqY hp;refine zwt (w:=d) a.pre h i j fun A l=>?_;obtain⟨n,y⟩:=a.call l p;refine⟨_,rfl,?_⟩;obtain rfl:=oi hp;exact hq _ n.ext'
theorem zwx{b:Boo}{ca102 ca103:C}{m f:M}{Q:V->M->Prop}{rz:List Int × Int}(hS:Pre f m)(ha102:Sl f ca102 b.Parcels)(ha103:Sl f ca103 b.Entries)(hp:zt0 b=some rz)(hq:∀m' f' c0,Grw m f m' f'->Sl f' c0 rz.1->Q (.tup [.c c0,.c (Il rz.2)]) m'):Wc prog tbl 43 [.agg 4 [Il b.Last,Il b.Owners,ca102,ca103]] m Q:=by
 have S0:=hS.st;obtain⟨τ0,_⟩:=zsf;refine w43 ?_;unfold zt0 at hp;intro m0 t;obtain⟨e,i,ja,j⟩:=S0.blk t τ0 1;refine⟨_,_,_,_,j.bk.ra,?_⟩;obtain⟨ka,u,hp⟩:=zqY hp;refine zvy (b:=b) i.pre ha102 ha103 u fun m6 w=>?_;obtain⟨g,y⟩:=i.call w e;have z:=j.k y;refine⟨_,rfl,?_⟩;refine zrn hp (fun A hp=>?_) fun A hp=>?_
 ·obtain rfl:=oi hp;exact hq _ f .sl0 g.grw (Sl.nil _)
 refine⟨_,_,_,_,z.bk.ra,?_⟩;obtain⟨a,B,hp⟩:=zqY hp;refine zvu (b:=b) g.pre ha102 ha103 B fun ia la D F G I h=>?_;obtain⟨J,ma⟩:=g.callG G e;refine⟨_,_,_,_,_,_,_,_,_,_,_,_,_,_,_,_,_,rfl,?_⟩;intro va N;obtain⟨O,P,na,S⟩:=J.blk N e 2;obtain⟨T,Y,Z,oa,l⟩:=S.sto P [Il a.b.Last,Il a.b.Owners,D,F,Il a.numbers,Il a.makes.m0,Il a.makes.m1,Il a.makes.m2,Il a.makes.m3,Il a.makes.m4,Il a.makes.m5,.bool a.out.o0,.bool a.out.o1,.bool a.out.o2,.bool a.out.o3,.bool a.out.o4,.bool a.out.o5];refine⟨T,Y,?_⟩;refine⟨trivial,trivial,_,l.bk.rc rfl,h.isSl,?_⟩
 try rw[h.slLen]
 obtain⟨aa,o,p,q⟩:=l.freeze Z
 have s:zwc aa ((C.fn (Fn.func 92) [] [(W.c (C0.ptr ia.nxt 0))])) (fun d=>ztZ d a):=by
  intro f' m' d pa r Q hs hpre ba hg hq;exact zww hpre ba (q.sub hs) ((I.sub p.fs).sub hs) ((h.sub p.fs).sub hs) hg hq
 obtain⟨qa,ca,hp⟩:=zqY hp;refine zwi (n:=(a.b.Entries.length:Int)) (passes:=(fun d=>ztZ d a)) o.pre s ca fun wa da ea fa ga=>?_;obtain⟨ha,sa⟩:=o.callG fa O;refine⟨_,rfl,?_⟩;obtain rfl:=oi hp;exact hq _ da ea ha.grw ga
theorem zwy{b:Boo}{ca102 ca103:C}{m f:M}{Q:V->M->Prop}{rz:Int × Int}(hS:Pre f m)(ha102:Sl f ca102 b.Parcels)(ha103:Sl f ca103 b.Entries)(hp:zt2 b=some rz)(hq:∀m',Ext m m'->Q (.tup [.c (Il rz.1),.c (Il rz.2)]) m'):Wc prog tbl 42 [.agg 4 [Il b.Last,Il b.Owners,ca102,ca103]] m Q:=by
 have S0:=hS.st;obtain⟨τ0,_⟩:=zsf;refine w42 ?_;unfold zt2 at hp;intro m0 N;obtain⟨o,t,Ia,u⟩:=S0.blk N τ0 1;refine⟨_,_,_,_,u.bk.ra,?_⟩;obtain⟨Ja,O,hp⟩:=zqY hp;refine zvy (b:=b) t.pre ha102 ha103 O fun m6 P=>?_;obtain⟨p,S⟩:=t.call P o;have y:=u.k S;refine⟨_,rfl,?_⟩;refine zrn hp (fun T hp=>?_) fun T hp=>?_
 ·obtain rfl:=oi hp;exact hq _ p.ext'
 refine⟨_,_,_,_,y.bk.ra,?_⟩;obtain⟨a,Y,hp⟩:=zqY hp;refine zvu (b:=b) p.pre ha102 ha103 Y fun Ga z A B Z aa q=>?_;obtain⟨ba,ca⟩:=p.callG Z o;have da:=y.k ca;refine⟨_,_,_,_,_,_,_,_,_,_,_,_,_,_,_,_,_,rfl,?_⟩;intro Pa ea;obtain⟨fa,ga,ha,ia⟩:=ba.blk ea o 2;have ja:=da.k ha;obtain⟨ka,la,ma,na,e⟩:=ia.sto ga [Il a.b.Last,Il a.b.Owners,A,B,Il a.numbers,Il a.makes.m0,Il a.makes.m1,Il a.makes.m2,Il a.makes.m3,Il a.makes.m4,Il a.makes.m5,.bool a.out.o0,.bool a.out.o1,.bool a.out.o2,.bool a.out.o3,.bool a.out.o4,.bool a.out.o5];have i:=ja.k na;refine⟨ka,la,?_⟩;refine⟨trivial,trivial,_,e.bk.rc rfl,q.isSl,?_⟩;intro Ha Fa
 have hgo:∀(j:Nat) (I:Int) (J:Int) (s:Int) (n:M) (g:M) (d:Nat->Nat),St (Fm.of m) f g n->Sub z g->Lb (Fm.of m) g d n 1 m.nxt 4 [Il b.Last,Il b.Owners,ca102,ca103]->Lb (Fm.of m) g d n 2 Ga.nxt 17 [Il a.b.Last,Il a.b.Owners,A,B,Il a.numbers,Il a.makes.m0,Il a.makes.m1,Il a.makes.m2,Il a.makes.m3,Il a.makes.m4,Il a.makes.m5,.bool a.out.o0,.bool a.out.o1,.bool a.out.o2,.bool a.out.o3,.bool a.out.o4,.bool a.out.o5]->zt1 a j s=some rz->Ha [.c (Il I),.c (Il J),.c (Il s)] n:=by
  intro j
  induction j with
  | zero=>intro I J s n g d l h i e hp; cases hp
  | succ j oa=>
   intro I J s n g d l h i e hp;refine Fa _ _ _ _ ?_;rw[zt1] at hp
   try rw[q.slLen]
   refine ifd hp (fun pa hp=>?_) fun pa hp=>?_; rotate_left
   ·obtain rfl:=oi hp;exact hq _ l.ext'
   refine⟨_,_,_,_,_,_,_,_,_,_,_,_,_,_,_,_,_,e.bk.ra,?_⟩;obtain⟨qa,sa,hp⟩:=zqY hp;refine zwu (w:=a) (last:=s) l.pre (aa.sub h) (q.sub h) sa fun Qa ta Ka La ua va wa=>?_;obtain⟨D,r⟩:=l.callG ua d;have xa:=i.k r;have ya:=e.k r;refine⟨_,_,_,_,_,_,_,_,_,_,_,_,_,_,_,_,_,rfl,?_⟩;obtain⟨Ma,za,hp⟩:=zqY hp;refine zwt (w:=qa) D.pre va wa za fun Ra Aa=>?_;obtain⟨F,G⟩:=D.call Aa d;have Ba:=xa.k G;have Ca:=ya.k G;refine⟨_,rfl,?_⟩;refine zrp hp (fun Da hp=>?_) fun Da hp=>?_
   ·obtain rfl:=oi hp;exact hq _ F.ext'
   refine gdi hp fun Ea hp=>?_;exact oa _ _ _ _ ta d F (Sub.trans h r.fs) Ba Ca hp
 exact hgo _ _ _ _ _ z fa ma (Sub.refl _) i e hp
theorem zwz{b:Boo}{out_:Int}{ca102 ca103:C}{m f:M}{Q:V->M->Prop}{rz:Bool}(hS:Pre f m)(ha102:Sl f ca102 b.Parcels)(ha103:Sl f ca103 b.Entries)(hp:zt4 b out_=some rz)(hq:∀m',Ext m m'->Q (.c (.bool rz)) m'):Wc prog tbl 52 [.agg 4 [Il b.Last,Il b.Owners,ca102,ca103],.c (Il out_)] m Q:=by
 have S0:=hS.st;obtain⟨τ0,_⟩:=zsf;refine w52 ?_;unfold zt4 at hp;intro m0 y;obtain⟨z,A,fa,e⟩:=S0.blk y τ0 1;intro R1 ea
 have hgo:∀(h:Nat) (b2:Bool) (u:Int) (w:M) (g:M) (d:Nat->Nat),St (Fm.of m) f g w->Sub f g->Lb (Fm.of m) g d w 1 m.nxt 4 [Il b.Last,Il b.Owners,ca102,ca103]->zt3 b out_ h u=some rz->R1 [.c (.bool b2),.c (Il u)] w:=by
  intro h
  induction h with
  | zero=>intro b2 u w g d j a e hp; cases hp
  | succ h da=>
   intro b2 u w g d j a e hp;refine ea _ _ _ ?_;rw[zt3] at hp;refine⟨_,_,_,_,e.bk.ra,?_⟩;obtain⟨ga,B,hp⟩:=zqY hp;refine zu1 (b:=b) j.pre (ha102.sub a) (ha103.sub a) B fun qa D=>?_;obtain⟨l,F⟩:=j.call D d;have o:=e.k F;refine⟨_,rfl,?_⟩;refine ifd hp (fun G hp=>?_) fun G hp=>?_; rotate_left
   ·obtain rfl:=oi hp;exact hq _ l.ext'
   refine⟨_,_,_,_,o.bk.ra,_,_,_,_,o.bk.ra,?_⟩;obtain⟨I,J,hp⟩:=zqY hp;refine zu3 (b:=b) (n:=u) l.pre (ha102.sub a) (ha103.sub a) J fun sa ha ia ja N O P=>?_;obtain⟨p,i⟩:=l.callG N d;have q:=o.k i;refine⟨_,_,rfl,(by rw[show zaL cmC _=true from zpu (zq2 rfl (zq2 rfl (zq2 ha102.noFn (zq2 ha103.noFn zq3))))]; exact(q.bk.ra)),?_⟩;obtain⟨ka,S,hp⟩:=zqY hp;refine zu6 (b:=b) (t:=I) (day:=(0:Int)) (out_:=out_) p.pre (ha102.sub (Sub.trans a i.fs)) (ha103.sub (Sub.trans a i.fs)) O P S fun ta T la Y ma=>?_;obtain⟨r,s⟩:=p.callG Y d;have Z:=q.k s;refine⟨_,_,rfl,?_⟩;refine zro hp (fun aa hp=>?_) fun aa hp=>?_
   ·obtain rfl:=oi hp;exact hq _ r.ext'
   refine gdi hp fun ba hp=>?_;exact da _ _ _ T d r (Sub.trans (Sub.trans a i.fs) s.fs) Z hp
 exact hgo _ _ _ _ f z A (Sub.refl _) e hp
theorem zwA{b:Boo}{ca102 ca103:C}{m f:M}{Q:V->M->Prop}{rz:Int}(hS:Pre f m)(ha102:Sl f ca102 b.Parcels)(ha103:Sl f ca103 b.Entries)(hp:zt6 b=some rz)(hq:∀m',Ext m m'->Q (.c (Il rz)) m'):Wc prog tbl 44 [.agg 4 [Il b.Last,Il b.Owners,ca102,ca103]] m Q:=by
 have S0:=hS.st;obtain⟨τ0,_⟩:=zsf;refine w44 ?_;unfold zt6 at hp;intro m0 t;obtain⟨u,w,da,a⟩:=S0.blk t τ0 1;refine⟨trivial,_,a.bk.rc rfl,ha103.isSl,?_⟩;refine gdi hp fun y hp=>?_;obtain⟨h,hp⟩:=zqZ hp;refine⟨(by first|exact h|(rw[ha103.slLen];exact h)),?_⟩;obtain⟨i,hp⟩:=zqZ hp;refine⟨(by first|exact i|(rw[ha103.slLen];exact i)),?_⟩;obtain⟨j,hp⟩:=zqZ hp;refine⟨(by first|exact j|(rw[ha103.slLen];exact j)),?_⟩;obtain⟨l,hp⟩:=zqZ hp;refine⟨(by first|exact l|(rw[ha103.slLen];exact l)),?_⟩;intro R2 ca
 have hgo:∀(e:Nat) (x3:Int) (r:Int) (s:M) (d:Nat->Nat),St (Fm.of m) f f s->Lb (Fm.of m) f d s 1 m.nxt 4 [Il b.Last,Il b.Owners,ca102,ca103]->zt5 b e r=some rz->R2 [.c (Il x3),.c (Il r)] s:=by
  intro e
  induction e with
  | zero=>intro x3 r s d g a hp; cases hp
  | succ e ba=>
   intro x3 r s d g a hp;refine ca _ _ _ ?_;rw[zt5] at hp;refine⟨trivial,_,a.bk.rc rfl,ha103.isSl,?_⟩
   try rw[ha103.slLen]
   refine ifd hp (fun z hp=>?_) fun z hp=>?_; rotate_left
   ·obtain rfl:=oi hp;exact hq _ g.ext'
   refine⟨_,_,_,_,a.bk.ra,?_⟩;refine gdi hp fun A hp=>?_;refine gdi hp fun B hp=>?_;refine gdi hp fun D hp=>?_;refine gdi hp fun F hp=>?_;refine gdi hp fun G hp=>?_;refine gdi hp fun I hp=>?_;obtain⟨n,hp⟩:=zqZ hp;refine⟨(by first|exact n|(rw[ha103.slLen];exact n)),?_⟩;refine gdi hp fun J hp=>?_;obtain⟨o,hp⟩:=zqZ hp;refine⟨(by first|exact o|(rw[ha103.slLen];exact o)),?_⟩;refine gdi hp fun N hp=>?_;obtain⟨p,hp⟩:=zqZ hp;refine⟨(by first|exact p|(rw[ha103.slLen];exact p)),?_⟩
   try rw[ha103.slLen]
   obtain⟨ea,O,hp⟩:=zqY hp;refine zwz (b:=b) (out_:=(((Nat.xor (Int.toNat (((1:Int) * ((2:Int) ^ (Int.toNat (zmJ .u64 (b.Entries.length:Int))))) - (1:Int))) (Nat.land (Int.toNat (((1:Int) * ((2:Int) ^ (Int.toNat (zmJ .u64 (b.Entries.length:Int))))) - (1:Int))) (Int.toNat (((1:Int) * ((2:Int) ^ (Int.toNat (zmJ .u64 (r+1))))) - (1:Int))))):Nat):Int)) g.pre ha102 ha103 O fun ia P=>?_;obtain⟨q,S⟩:=g.call P d;have T:=a.k S;refine⟨_,rfl,?_⟩;refine zrp hp (fun Y hp=>?_) fun Y hp=>?_
   ·obtain rfl:=oi hp;exact hq _ q.ext'
   refine gdi hp fun Z hp=>?_;exact ba _ _ _ d q T hp
 exact hgo _ _ _ _ u w a hp
theorem zwB{b:Boo}{ca102 ca103:C}{m f:M}{Q:V->M->Prop}{rz:List Int}(hS:Pre f m)(ha102:Sl f ca102 b.Parcels)(ha103:Sl f ca103 b.Entries)(hp:zt8 b=some rz)(hq:∀m' f' c0,Grw m f m' f'->Sl f' c0 rz->Q (.c c0) m'):Wc prog tbl 45 [.agg 4 [Il b.Last,Il b.Owners,ca102,ca103]] m Q:=by
 have S0:=hS.st;obtain⟨τ0,_⟩:=zsf;refine w45 ?_;unfold zt8 at hp;intro m0 aa;obtain⟨u,w,za,y⟩:=S0.blk aa τ0 1;refine⟨trivial,_,y.bk.rc rfl,ha103.isSl,?_⟩;refine gdi hp fun ba hp=>?_;obtain⟨z,hp⟩:=zqZ hp;refine⟨(by first|exact z|(rw[ha103.slLen];exact z)),?_⟩;obtain⟨A,hp⟩:=zqZ hp;refine⟨(by first|exact A|(rw[ha103.slLen];exact A)),?_⟩;obtain⟨B,hp⟩:=zqZ hp;refine⟨(by first|exact B|(rw[ha103.slLen];exact B)),?_⟩;obtain⟨D,hp⟩:=zqZ hp;refine⟨(by first|exact D|(rw[ha103.slLen];exact D)),?_⟩
 try rw[ha103.slLen]
 obtain⟨Aa,ca,hp⟩:=zqY hp;refine zu7 (bits:=(((1:Int) * ((2:Int) ^ (Int.toNat (zmJ .u64 (b.Entries.length:Int))))) - (1:Int))) w.pre  ca fun m3 F Ba da ea=>?_;obtain⟨fa,p⟩:=w.callG da u;have i:=y.k p;refine⟨_,rfl,?_⟩;intro R5 ya
 have hgo:∀(n:Nat) (Y:C) (T:Int) (j:List Int) (Z:M) (h:M) (d:Nat->Nat),St (Fm.of m) f h Z->Sub F h->Lb (Fm.of m) h d Z 1 m.nxt 4 [Il b.Last,Il b.Owners,ca102,ca103]->Sl h Y j->zt7 b n j T=some rz->R5 [.c Y,.c (Il T)] Z:=by
  intro n
  induction n with
  | zero=>intro Y T j Z h d o g i l hp; cases hp
  | succ n t=>
   intro Y T j Z h d o g i l hp;refine ya _ _ _ ?_;rw[zt7] at hp;refine⟨trivial,_,i.bk.rc rfl,ha103.isSl,?_⟩;refine gdi hp fun ga hp=>?_;obtain⟨G,hp⟩:=zqZ hp;refine⟨(by first|exact G|(rw[ha103.slLen];exact G)),?_⟩;obtain⟨I,hp⟩:=zqZ hp;refine⟨(by first|exact I|(rw[ha103.slLen];exact I)),?_⟩;obtain⟨J,hp⟩:=zqZ hp;refine⟨(by first|exact J|(rw[ha103.slLen];exact J)),?_⟩
   try rw[ha103.slLen]
   refine ifd hp (fun ha hp=>?_) fun ha hp=>?_; rotate_left
   ·obtain rfl:=oi hp;exact hq _ h Y o.grw l
   obtain⟨ia,ja,hp⟩:=zqY hp;refine zu7 (bits:=T) o.pre  ja fun Ia q Ca ka N=>?_;obtain⟨O,e⟩:=o.callG ka d;have la:=i.k e;refine⟨_,rfl,?_⟩;obtain⟨Da,ma,hp⟩:=zqY hp;refine zu9 (a:=ia) (b:=j) O.pre N (l.sub e.fs) ma fun Ja na=>?_;obtain⟨r,oa⟩:=O.call na d;have s:=la.k oa;refine⟨_,rfl,?_⟩;refine zro hp (fun pa hp=>?_) fun pa hp=>?_; rotate_left
   ·refine gdi hp fun qa hp=>?_;exact t _ _ _ _ q d r (Sub.trans g e.fs) s (l.sub e.fs) hp
   refine⟨_,_,_,_,s.bk.ra,?_⟩;obtain⟨Ea,sa,hp⟩:=zqY hp;refine zwz (b:=b) (out_:=T) r.pre (ha102.sub (Sub.trans (Sub.trans p.fs g) e.fs)) (ha103.sub (Sub.trans (Sub.trans p.fs g) e.fs)) sa fun Ka ta=>?_;obtain⟨P,ua⟩:=r.call ta d;have S:=s.k ua;refine⟨_,rfl,?_⟩;refine zro hp (fun va hp=>?_) fun va hp=>?_
   ·refine gdi hp fun wa hp=>?_;exact t _ _ _ _ q d P (Sub.trans g e.fs) S N hp
   refine gdi hp fun xa hp=>?_;exact t _ _ _ _ q d P (Sub.trans g e.fs) S (l.sub e.fs) hp
 exact hgo _ _ _ _ _ F u fa (Sub.refl _) i ea hp
theorem zwC{a:List Int}{b:List Int}{ca100 ca200:C}{m f:M}{Q:V->M->Prop}{rz:Bool}(hS:Pre f m)(ha100:Sl f ca100 a)(ha200:Sl f ca200 b)(hp:zt9 a b=some rz)(hq:∀m',Ext m m'->Q (.c (.bool rz)) m'):Wc prog tbl 35 [.c ca100,.c ca200] m Q:=by
 have o:=hS.st;obtain⟨p,_⟩:=zsf;refine w35 ?_;unfold zt9 at hp;refine⟨ha100.isSl,ha200.isSl,?_⟩
 try rw[ha100.slLen]
 try rw[ha200.slLen]
 refine ifd hp (fun e hp=>?_) fun e hp=>?_; rotate_left
 ·obtain rfl:=oi hp;exact hq _ o.ext'
 obtain⟨q,g,hp⟩:=zqY hp;refine zu8 (a:=a) (b:=b) o.pre ha100 ha200 g fun u h=>?_;obtain⟨d,r⟩:=o.call h p;refine⟨_,rfl,?_⟩;refine zrp hp (fun i hp=>?_) fun i hp=>?_; rotate_left
 ·obtain rfl:=oi hp;exact hq _ d.ext'
 obtain⟨s,j,hp⟩:=zqY hp;refine zu8 (a:=b) (b:=a) d.pre ha200 ha100 j fun w l=>?_;obtain⟨n,t⟩:=d.call l p;refine⟨_,rfl,?_⟩;obtain rfl:=oi hp;exact hq _ n.ext'
theorem zwD{b:Boo}{ca102 ca103:C}{m f:M}{Q:V->M->Prop}{rz:Int}(hS:Pre f m)(ha102:Sl f ca102 b.Parcels)(ha103:Sl f ca103 b.Entries)(hp:zua b=some rz)(hq:∀m',Ext m m'->Q (.c (Il rz)) m'):Wc prog tbl 23 [.agg 4 [Il b.Last,Il b.Owners,ca102,ca103]] m Q:=by
 have p:=hS.st;obtain⟨q,_⟩:=zsf;refine w23 ?_;unfold zua at hp;intro r d;obtain⟨e,a,l,g⟩:=p.blk d q 1;refine⟨_,_,_,_,g.bk.ra,?_⟩;obtain⟨n,h,hp⟩:=zqY hp;refine zu2 (b:=b) a.pre ha102 ha103 h fun s i=>?_;obtain⟨j,o⟩:=a.call i e;refine⟨_,rfl,?_⟩;obtain rfl:=oi hp;exact hq _ j.ext'
theorem zwE{b:Boo}{ca102 ca103:C}{m f:M}{Q:V->M->Prop}{rz:Bool}(hS:Pre f m)(ha102:Sl f ca102 b.Parcels)(ha103:Sl f ca103 b.Entries)(hp:zub b=some rz)(hq:∀m',Ext m m'->Q (.c (.bool rz)) m'):Wc prog tbl 49 [.agg 4 [Il b.Last,Il b.Owners,ca102,ca103]] m Q:=by
 have y:=hS.st;obtain⟨z,_⟩:=zsf;refine w49 ?_;unfold zub at hp;intro B h;obtain⟨d,e,s,g⟩:=y.blk h z 1;refine⟨_,_,_,_,g.bk.ra,?_⟩;obtain⟨t,i,hp⟩:=zqY hp;refine zvc (b:=b) e.pre ha102 ha103 i fun D j=>?_;obtain⟨a,l⟩:=e.call j d;have n:=g.k l;refine⟨_,rfl,?_⟩;refine zro hp (fun o hp=>?_) fun o hp=>?_; rotate_left
 ·obtain rfl:=oi hp;exact hq _ a.ext'
 refine⟨_,_,_,_,n.bk.ra,?_⟩;obtain⟨u,p,hp⟩:=zqY hp;refine zwD (b:=b) a.pre ha102 ha103 p fun A q=>?_;obtain⟨r,w⟩:=a.call q d;refine⟨_,rfl,?_⟩;obtain rfl:=oi hp;exact hq _ r.ext'
theorem zwF{b:Boo}{n:Int}{ca102 ca103:C}{m f:M}{Q:V->M->Prop}{rz:Boo}(hS:Pre f m)(ha102:Sl f ca102 b.Parcels)(ha103:Sl f ca103 b.Entries)(hp:zuc b n=some rz)(hq:∀m' f' c2 c3,Grw m f m' f'->Sl f' c2 rz.Parcels->Sl f' c3 rz.Entries->Q (.agg 4 [Il rz.Last,Il rz.Owners,c2,c3]) m'):Wc prog tbl 58 [.agg 4 [Il b.Last,Il b.Owners,ca102,ca103],.c (Il n)] m Q:=by
 have S0:=hS.st;obtain⟨τ0,_⟩:=zsf;refine w58 ?_;unfold zuc at hp;intro m0 r;obtain⟨s,t,Ea,u⟩:=S0.blk r τ0 1;intro m1 w;obtain⟨y,z,A,B⟩:=t.blk w s 2;have h:=u.k A;refine⟨_,_,_,_,h.bk.ra,?_⟩;intro m6 D;obtain⟨F,G,l,I⟩:=z.blk D y 3;have J:=h.k l;have N:=B.k l;obtain⟨O,P,S,o,T⟩:=I.sto G [Il b.Last,Il b.Owners,ca102,ca103];have Y:=J.k o;have Z:=N.k o;refine⟨O,P,?_⟩;intro m8 aa;obtain⟨Fa,ba,e,ca⟩:=S.blk aa F 4;have da:=Y.k e;have ea:=Z.k e;have fa:=T.k e;refine⟨trivial,_,da.bk.rc rfl,?_⟩;obtain⟨Ga,hp⟩:=zqZ hp;obtain⟨ga,ha,ia⟩:=ha103.subC (i:=Int.toNat (0:Int)) (j:=Int.toNat n) (by omega) (by omega);refine⟨_,_,rfl,(show n=((Int.toNat n:Nat):Int) by omega),ga,ha,?_⟩;have ja:=Lb.ow0 (α:=En) ca;obtain⟨ka,hp⟩:=zqZ hp;obtain⟨a,la,Ha,ma,na,p,d⟩:=ja.appL zwk ba ia ka;have oa:=ea.k p;have pa:=fa.k p;refine⟨a,la,ma,?_⟩;refine⟨trivial,?_⟩;obtain⟨qa,sa,ta,q,g⟩:=pa.sto1 na 3 a (by simp) rfl
 replace g:Lb _ _ _ _ _ _ _ [Il b.Last,Il b.Owners,ca102,a]:=g
 have ua:=oa.k q;have d:=d.k q;refine⟨qa,sa,?_⟩;refine⟨_,_,_,_,g.bk.ra,?_⟩;obtain⟨va,wa,xa,ya,za⟩:=ua.sto ta [Il b.Last,Il b.Owners,ca102,a];have d:=d.k ya;refine⟨va,wa,?_⟩;refine⟨_,_,_,_,za.bk.ra,?_⟩;obtain⟨Aa,Ba,Ca,Da⟩:=d.freeze xa;obtain rfl:=oi hp;exact hq _ Aa ca102 a Ba.grw (ha102.sub Ca.fs) Da
theorem zwG{b:Boo}{ca102 ca103:C}{m f:M}{Q:V->M->Prop}{rz:Bool}(hS:Pre f m)(ha102:Sl f ca102 b.Parcels)(ha103:Sl f ca103 b.Entries)(hp:zud b=some rz)(hq:∀m',Ext m m'->Q (.c (.bool rz)) m'):Wc prog tbl 6 [.agg 4 [Il b.Last,Il b.Owners,ca102,ca103]] m Q:=by
 have S0:=hS.st;obtain⟨τ0,_⟩:=zsf;refine w6 ?_;unfold zud at hp;intro m0 J;obtain⟨d,q,jb,r⟩:=S0.blk J τ0 1;refine⟨_,_,_,_,r.bk.ra,?_⟩;obtain⟨kb,N,hp⟩:=zqY hp;refine zvc (b:=b) q.pre ha102 ha103 N fun m6 O=>?_;obtain⟨l,P⟩:=q.call O d;have s:=r.k P;refine⟨_,rfl,?_⟩;refine zrp hp (fun S hp=>?_) fun S hp=>?_
 ·obtain⟨mb,T,hp⟩:=zqY hp;refine zuV l.pre  T fun m9 Y=>?_;obtain⟨Z,ob⟩:=l.call Y d;refine⟨_,rfl,?_⟩;obtain rfl:=oi hp;exact hq _ Z.ext'
 refine⟨_,_,_,_,s.bk.ra,?_⟩;obtain⟨aa,ba,hp⟩:=zqY hp;refine zvb (b:=b) l.pre ha102 ha103 ba fun Rb pb qb rb ca da ea=>?_;obtain⟨t,e⟩:=l.callG ca d;have fa:=s.k e;refine⟨_,_,_,_,rfl,?_⟩;obtain⟨sb,ga,hp⟩:=zqY hp;refine zwy (b:=aa) t.pre da ea ga fun Sb ha=>?_;obtain⟨u,ia⟩:=t.call ha d;have w:=fa.k ia;refine⟨_,_,rfl,_,_,_,_,w.bk.ra,?_⟩;obtain⟨ja,ka,hp⟩:=zqY hp;refine zvb (b:=b) u.pre (ha102.sub e.fs) (ha103.sub e.fs) ka fun Tb tb ub vb la ma na=>?_;obtain⟨y,h⟩:=u.callG la d;have oa:=w.k h;refine⟨_,_,_,_,rfl,?_⟩;obtain⟨z,pa,hp⟩:=zqY hp;refine zwx (b:=ja) y.pre ma na pa fun Ub wb xb qa n=>?_;obtain⟨A,i⟩:=y.callG qa d;have B:=oa.k i;refine⟨_,_,rfl,_,_,_,_,B.bk.ra,?_⟩;obtain⟨yb,sa,hp⟩:=zqY hp;refine zwD (b:=b) A.pre (ha102.sub (Sub.trans (Sub.trans e.fs h.fs) i.fs)) (ha103.sub (Sub.trans (Sub.trans e.fs h.fs) i.fs)) sa fun Vb ta=>?_;obtain⟨j,ua⟩:=A.call ta d;have D:=B.k ua;refine⟨_,rfl,?_⟩;refine zrn hp (fun va hp=>?_) fun va hp=>?_
 ·refine ifd hp (fun wa hp=>?_) fun wa hp=>?_; rotate_left
  ·obtain rfl:=oi hp;exact hq _ j.ext'
  refine ifd hp (fun xa hp=>?_) fun xa hp=>?_; rotate_left
  ·obtain rfl:=oi hp;exact hq _ j.ext'
  refine ifd hp (fun ya hp=>?_) fun ya hp=>?_; rotate_left
  ·obtain rfl:=oi hp;exact hq _ j.ext'
  refine⟨n.isSl,?_⟩
  try rw[n.slLen]
  refine ifd hp (fun za hp=>?_) fun za hp=>?_; rotate_left
  ·obtain rfl:=oi hp;exact hq _ j.ext'
  obtain⟨zb,Aa,hp⟩:=zqY hp;refine zuV j.pre  Aa fun Wb Ba=>?_;obtain⟨Ca,Ab⟩:=j.call Ba d;refine⟨_,rfl,?_⟩;obtain rfl:=oi hp;exact hq _ Ca.ext'
 refine⟨_,_,_,_,D.bk.ra,?_⟩;obtain⟨Bb,Da,hp⟩:=zqY hp;refine zwA (b:=b) j.pre (ha102.sub (Sub.trans (Sub.trans e.fs h.fs) i.fs)) (ha103.sub (Sub.trans (Sub.trans e.fs h.fs) i.fs)) Da fun Xb Ea=>?_;obtain⟨g,Fa⟩:=j.call Ea d;have F:=D.k Fa;refine⟨_,rfl,?_⟩;refine ifd hp (fun Ga hp=>?_) fun Ga hp=>?_
 ·refine zrn hp (fun Ha hp=>?_) fun Ha hp=>?_
  ·obtain rfl:=oi hp;exact hq _ g.ext'
  refine zrn hp (fun Ia hp=>?_) fun Ia hp=>?_
  ·obtain rfl:=oi hp;exact hq _ g.ext'
  refine ifd hp (fun Ja hp=>?_) fun Ja hp=>?_; rotate_left
  ·obtain rfl:=oi hp;exact hq _ g.ext'
  refine⟨_,_,_,_,F.bk.ra,?_⟩;obtain⟨Ka,La,hp⟩:=zqY hp;refine zwB (b:=b) g.pre (ha102.sub (Sub.trans (Sub.trans e.fs h.fs) i.fs)) (ha103.sub (Sub.trans (Sub.trans e.fs h.fs) i.fs)) La fun Yb Cb Db Ma Na=>?_;obtain⟨G,Oa⟩:=g.callG Ma d;refine⟨_,rfl,?_⟩;obtain⟨Eb,Pa,hp⟩:=zqY hp;refine zwC (a:=z.1) (b:=Ka) G.pre (n.sub Oa.fs) Na Pa fun Zb Qa=>?_;obtain⟨o,Fb⟩:=G.call Qa d;refine⟨_,rfl,?_⟩;refine zro hp (fun Ra hp=>?_) fun Ra hp=>?_; rotate_left
  ·obtain rfl:=oi hp;exact hq _ o.ext'
  obtain⟨Gb,Sa,hp⟩:=zqY hp;refine zuV o.pre  Sa fun ac Ta=>?_;obtain⟨Ua,Hb⟩:=o.call Ta d;refine⟨_,rfl,?_⟩;obtain rfl:=oi hp;exact hq _ Ua.ext'
 refine zrn hp (fun Va hp=>?_) fun Va hp=>?_
 ·obtain rfl:=oi hp;exact hq _ g.ext'
 refine zrn hp (fun Wa hp=>?_) fun Wa hp=>?_
 ·obtain rfl:=oi hp;exact hq _ g.ext'
 refine ifd hp (fun Xa hp=>?_) fun Xa hp=>?_; rotate_left
 ·obtain rfl:=oi hp;exact hq _ g.ext'
 refine⟨_,_,_,_,F.bk.ra,?_⟩;obtain⟨Ya,Za,hp⟩:=zqY hp;refine zwB (b:=b) g.pre (ha102.sub (Sub.trans (Sub.trans e.fs h.fs) i.fs)) (ha103.sub (Sub.trans (Sub.trans e.fs h.fs) i.fs)) Za fun bc Ib Jb ab bb=>?_;obtain⟨I,cb⟩:=g.callG ab d;refine⟨_,rfl,?_⟩;obtain⟨Kb,db,hp⟩:=zqY hp;refine zwC (a:=z.1) (b:=Ya) I.pre (n.sub cb.fs) bb db fun cc eb=>?_;obtain⟨p,Mb⟩:=I.call eb d;refine⟨_,rfl,?_⟩;refine zro hp (fun fb hp=>?_) fun fb hp=>?_; rotate_left
 ·obtain rfl:=oi hp;exact hq _ p.ext'
 obtain⟨Nb,gb,hp⟩:=zqY hp;refine zuV p.pre  gb fun dc hb=>?_;obtain⟨ib,Ob⟩:=p.call hb d;refine⟨_,rfl,?_⟩;obtain rfl:=oi hp;exact hq _ ib.ext'
theorem zwH{b:Boo}{ca102 ca103:C}{m f:M}{Q:V->M->Prop}{rz:Bool}(hS:Pre f m)(ha102:Sl f ca102 b.Parcels)(ha103:Sl f ca103 b.Entries)(hp:zue b=some rz)(hq:∀m',Ext m m'->Q (.c (.bool rz)) m'):Wc prog tbl 13 [.agg 4 [Il b.Last,Il b.Owners,ca102,ca103]] m Q:=by
 have S0:=hS.st;obtain⟨τ0,_⟩:=zsf;refine w13 ?_;unfold zue at hp;intro m0 va;obtain⟨d,O,dd,P⟩:=S0.blk va τ0 1;refine⟨_,_,_,_,P.bk.ra,?_⟩;obtain⟨ed,wa,hp⟩:=zqY hp;refine zwE (b:=b) O.pre ha102 ha103 wa fun m6 xa=>?_;obtain⟨p,ya⟩:=O.call xa d;have S:=P.k ya;refine⟨_,rfl,?_⟩;refine zrp hp (fun za hp=>?_) fun za hp=>?_
 ·obtain⟨fd,Aa,hp⟩:=zqY hp;refine zuV p.pre  Aa fun m9 Ba=>?_;obtain⟨Ca,hd⟩:=p.call Ba d;refine⟨_,rfl,?_⟩;obtain rfl:=oi hp;exact hq _ Ca.ext'
 refine⟨_,_,_,_,S.bk.ra,?_⟩;obtain⟨Da,Ea,hp⟩:=zqY hp;refine zvb (b:=b) p.pre ha102 ha103 Ea fun we id jd kd Fa Ga Ha=>?_;obtain⟨T,e⟩:=p.callG Fa d;have Ia:=S.k e;refine⟨_,_,_,_,rfl,?_⟩;obtain⟨D,Ja,hp⟩:=zqY hp;refine zwy (b:=Da) T.pre Ga Ha Ja fun xe Ka=>?_;obtain⟨q,La⟩:=T.call Ka d;have F:=Ia.k La;refine⟨_,_,rfl,?_⟩;refine zrn hp (fun Ma hp=>?_) fun Ma hp=>?_
 ·refine⟨_,_,_,_,F.bk.ra,?_⟩;obtain⟨Na,Oa,hp⟩:=zqY hp;refine zvb (b:=b) q.pre (ha102.sub e.fs) (ha103.sub e.fs) Oa fun ye ld md nd Pa Qa Ra=>?_;obtain⟨Y,od⟩:=q.callG Pa d;refine⟨_,_,_,_,rfl,?_⟩;obtain⟨pd,Sa,hp⟩:=zqY hp;refine zwx (b:=Na) Y.pre Qa Ra Sa fun ze qd sd Ta Z=>?_;obtain⟨i,td⟩:=Y.callG Ta d;refine⟨_,_,rfl,?_⟩;refine ifd hp (fun Ua hp=>?_) fun Ua hp=>?_; rotate_left
  ·obtain rfl:=oi hp;exact hq _ i.ext'
  refine ifd hp (fun Va hp=>?_) fun Va hp=>?_; rotate_left
  ·obtain rfl:=oi hp;exact hq _ i.ext'
  refine⟨Z.isSl,?_⟩
  try rw[Z.slLen]
  refine ifd hp (fun Wa hp=>?_) fun Wa hp=>?_; rotate_left
  ·obtain rfl:=oi hp;exact hq _ i.ext'
  obtain⟨ud,Xa,hp⟩:=zqY hp;refine zuV i.pre  Xa fun Ae Ya=>?_;obtain⟨Za,vd⟩:=i.call Ya d;refine⟨_,rfl,?_⟩;obtain rfl:=oi hp;exact hq _ Za.ext'
 refine⟨trivial,_,F.bk.rc rfl,ha103.isSl,?_⟩;obtain⟨aa,hp⟩:=zqZ hp;refine⟨(by first|exact aa|(rw[ha103.slLen];exact aa)),?_⟩
 try rw[ha103.slLen]
 obtain⟨wd,ab,hp⟩:=zqY hp;refine zuW (n:=D.1) (low:=(0:Int)) (high:=((b.Entries.length:Int) - (1:Int))) q.pre  ab fun Be bb=>?_;obtain⟨ba,cb⟩:=q.call bb d;have db:=F.k cb;refine⟨_,rfl,?_⟩;refine zrp hp (fun eb hp=>?_) fun eb hp=>?_
 ·obtain rfl:=oi hp;exact hq _ ba.ext'
 intro Ce fb;obtain⟨a,ca,gb,N⟩:=ba.growK fb d 2;have G:=db.k gb;have hb:=N 0 (by decide);have ib:=N 1 (by decide);refine⟨_,_,_,_,G.bk.ra,?_⟩;obtain⟨r,jb,hp⟩:=zqY hp;refine zwF (b:=b) (n:=D.1) ca.pre (ha102.sub e.fs) (ha103.sub e.fs) jb fun De xd kb mb ob da ea=>?_;obtain⟨fa,j⟩:=ca.callG ob a;have ga:=G.k j;have pb:=hb.k j;have qb:=ib.k j;refine⟨_,_,_,_,rfl,_,_,_,_,ga.bk.ra,(by rw[show zaL cmC _=true from zpu (zq2 rfl (zq2 rfl (zq2 ha102.noFn (zq2 ha103.noFn zq3))))]; exact(G.bk.ra)),?_⟩;refine gdi hp fun rb hp=>?_;obtain⟨h,sb,hp⟩:=zqY hp;refine zwF (b:=b) (n:=(D.1+(1:Int))) fa.pre (ha102.sub (Sub.trans e.fs j.fs)) (ha103.sub (Sub.trans e.fs j.fs)) sb fun Ee yd tb ub vb s t=>?_;obtain⟨wb,g⟩:=fa.callG vb a;have xb:=ga.k g;have yb:=pb.k g;have zb:=qb.k g;refine⟨_,_,_,_,rfl,?_⟩;intro Fe Ab;obtain⟨Bb,ha,Cb⟩:=yb.set wb Ab;have I:=xb.k ha;have Db:=zb.k ha;refine⟨(by rw[show zaL cmC _=true from zpu (zq2 rfl (zq2 rfl (zq2 ha102.noFn (zq2 ha103.noFn zq3))))]; exact(I.bk.ra)),(by rw[show zaL cmC _=true from zpu (zq2 rfl (zq2 rfl (zq2 ha102.noFn (zq2 ha103.noFn zq3))))]; exact(I.bk.ra)),?_⟩;intro Ge Eb;obtain⟨Fb,ia,Gb⟩:=Db.set Bb Eb;have ja:=I.k ia;have Hb:=Cb.k ia;refine⟨(by rw[show zaL cmC _=true from zpu (zq2 rfl (zq2 rfl (zq2 ha102.noFn (zq2 ha103.noFn zq3))))]; exact(ja.bk.ra)),(by rw[show zaL cmC _=true from zpu (zq2 rfl (zq2 rfl (zq2 ha102.noFn (zq2 ha103.noFn zq3))))]; exact(ja.bk.ra)),?_⟩
 obtain⟨Ib,Jb,Kb,Mb,Nb⟩:=Hb.sto Fb [Il r.Last,Il r.Owners,kb,mb];have Ob:=Gb.k Mb;refine⟨Ib,Jb,?_⟩;obtain⟨Pb,Qb,ka,Rb,Sb⟩:=Ob.sto Kb [Il h.Last,Il h.Owners,tb,ub];have la:=Nb.k Rb;refine⟨Pb,Qb,?_⟩;refine⟨_,_,_,_,la.bk.ra,?_⟩;obtain⟨zd,Tb,hp⟩:=zqY hp;refine zwD (b:=r) ka.pre (da.sub g.fs) (ea.sub g.fs) Tb fun He Ub=>?_;obtain⟨u,ma⟩:=ka.call Ub a;have Vb:=la.k ma;have J:=Sb.k ma;refine⟨_,rfl,?_⟩;refine ifd hp (fun Wb hp=>?_) fun Wb hp=>?_; rotate_left
 ·refine⟨_,_,_,_,J.bk.ra,?_⟩;obtain⟨Ad,Xb,hp⟩:=zqY hp;refine zwD (b:=h) u.pre s t Xb fun me Yb=>?_;obtain⟨w,Zb⟩:=u.call Yb a;have ac:=J.k Zb;refine⟨_,rfl,?_⟩;refine ifd hp (fun bc hp=>?_) fun bc hp=>?_; rotate_left
  ·obtain⟨Bd,cc,hp⟩:=zqY hp;refine zuV w.pre  cc fun oe dc=>?_;obtain⟨ec,Cd⟩:=w.call dc a;refine⟨_,rfl,?_⟩;obtain rfl:=oi hp;exact hq _ ec.ext'
  refine⟨_,_,_,_,ac.bk.ra,?_⟩;obtain⟨fc,gc,hp⟩:=zqY hp;refine zvb (b:=h) w.pre s t gc fun pe Dd Ed Gd hc ic jc=>?_;obtain⟨na,Id⟩:=w.callG hc a;refine⟨_,_,_,_,rfl,?_⟩;obtain⟨Jd,kc,hp⟩:=zqY hp;refine zwx (b:=fc) na.pre ic jc kc fun qe Ld Md nc oa=>?_;obtain⟨y,Nd⟩:=na.callG nc a;refine⟨_,_,rfl,?_⟩;refine zrn hp (fun oc hp=>?_) fun oc hp=>?_
  ·obtain rfl:=oi hp;exact hq _ y.ext'
  refine⟨oa.isSl,?_⟩
  try rw[oa.slLen]
  refine ifd hp (fun pc hp=>?_) fun pc hp=>?_
  ·obtain rfl:=oi hp;exact hq _ y.ext'
  obtain⟨Od,qc,hp⟩:=zqY hp;refine zuV y.pre  qc fun re sc=>?_;obtain⟨tc,Pd⟩:=y.call sc a;refine⟨_,rfl,?_⟩;obtain rfl:=oi hp;exact hq _ tc.ext'
 refine⟨_,_,_,_,Vb.bk.ra,?_⟩;obtain⟨uc,vc,hp⟩:=zqY hp;refine zvb (b:=r) u.pre (da.sub g.fs) (ea.sub g.fs) vc fun Ie Qd Rd Sd wc xc yc=>?_;obtain⟨pa,l⟩:=u.callG wc a;have zc:=J.k l;refine⟨_,_,_,_,rfl,?_⟩;obtain⟨Td,Ac,hp⟩:=zqY hp;refine zwx (b:=uc) pa.pre xc yc Ac fun Je Ud Vd Bc qa=>?_;obtain⟨z,o⟩:=pa.callG Bc a;have sa:=zc.k o;refine⟨_,_,rfl,?_⟩;refine zrn hp (fun Cc hp=>?_) fun Cc hp=>?_
 ·obtain rfl:=oi hp;exact hq _ z.ext'
 refine⟨qa.isSl,?_⟩
 try rw[qa.slLen]
 refine zrn hp (fun Dc hp=>?_) fun Dc hp=>?_
 ·obtain rfl:=oi hp;exact hq _ z.ext'
 refine⟨_,_,_,_,sa.bk.ra,?_⟩;obtain⟨Wd,Ec,hp⟩:=zqY hp;refine zwD (b:=h) z.pre (s.sub (Sub.trans l.fs o.fs)) (t.sub (Sub.trans l.fs o.fs)) Ec fun Ke Fc=>?_;obtain⟨A,Gc⟩:=z.call Fc a;have Hc:=sa.k Gc;refine⟨_,rfl,?_⟩;refine ifd hp (fun Ic hp=>?_) fun Ic hp=>?_; rotate_left
 ·obtain⟨Xd,Jc,hp⟩:=zqY hp;refine zuV A.pre  Jc fun se Kc=>?_;obtain⟨Nc,Yd⟩:=A.call Kc a;refine⟨_,rfl,?_⟩;obtain rfl:=oi hp;exact hq _ Nc.ext'
 refine⟨_,_,_,_,Hc.bk.ra,?_⟩;obtain⟨Oc,Qc,hp⟩:=zqY hp;refine zvb (b:=h) A.pre (s.sub (Sub.trans l.fs o.fs)) (t.sub (Sub.trans l.fs o.fs)) Qc fun te Zd ae be Rc Tc Uc=>?_;obtain⟨ta,ce⟩:=A.callG Rc a;refine⟨_,_,_,_,rfl,?_⟩;obtain⟨de,Vc,hp⟩:=zqY hp;refine zwx (b:=Oc) ta.pre Tc Uc Vc fun ue ee fe Xc ua=>?_;obtain⟨B,ge⟩:=ta.callG Xc a;refine⟨_,_,rfl,?_⟩;refine zrn hp (fun Yc hp=>?_) fun Yc hp=>?_
 ·obtain rfl:=oi hp;exact hq _ B.ext'
 refine⟨ua.isSl,?_⟩
 try rw[ua.slLen]
 refine ifd hp (fun Zc hp=>?_) fun Zc hp=>?_
 ·obtain rfl:=oi hp;exact hq _ B.ext'
 obtain⟨he,ad,hp⟩:=zqY hp;refine zuV B.pre  ad fun ve bd=>?_;obtain⟨cd,ie⟩:=B.call bd a;refine⟨_,rfl,?_⟩;obtain rfl:=oi hp;exact hq _ cd.ext'
theorem zwI{b:Boo}{bits:Int}{ca102 ca103:C}{m f:M}{Q:V->M->Prop}{rz:Bool}(hS:Pre f m)(ha102:Sl f ca102 b.Parcels)(ha103:Sl f ca103 b.Entries)(hp:zug b bits=some rz)(hq:∀m',Ext m m'->Q (.c (.bool rz)) m'):Wc prog tbl 14 [.agg 4 [Il b.Last,Il b.Owners,ca102,ca103],.c (.int .u8 bits)] m Q:=by
 have S0:=hS.st;obtain⟨τ0,_⟩:=zsf;refine w14 ?_;unfold zug at hp;intro m0 ua;obtain⟨o,S,Wb,T⟩:=S0.blk ua τ0 1;refine⟨_,_,_,_,T.bk.ra,?_⟩;obtain⟨Xb,va,hp⟩:=zqY hp;refine zwE (b:=b) S.pre ha102 ha103 va fun m6 wa=>?_;obtain⟨r,xa⟩:=S.call wa o;have Y:=T.k xa;refine⟨_,rfl,?_⟩;refine zrp hp (fun ya hp=>?_) fun ya hp=>?_
 ·obtain⟨Yb,za,hp⟩:=zqY hp;refine zuV r.pre  za fun m9 Aa=>?_;obtain⟨Ba,Zb⟩:=r.call Aa o;refine⟨_,rfl,?_⟩;obtain rfl:=oi hp;exact hq _ Ba.ext'
 refine⟨_,_,_,_,Y.bk.ra,?_⟩;obtain⟨Ca,Da,hp⟩:=zqY hp;refine zvb (b:=b) r.pre ha102 ha103 Da fun zc ac bc cc Ea Fa Ga=>?_;obtain⟨Z,p⟩:=r.callG Ea o;have Ha:=Y.k p;refine⟨_,_,_,_,rfl,?_⟩;obtain⟨aa,Ia,hp⟩:=zqY hp;refine zwx (b:=Ca) Z.pre Fa Ga Ia fun Ac ba dc Ja e=>?_;obtain⟨ca,q⟩:=Z.callG Ja o;have h:=Ha.k q;refine⟨_,_,rfl,?_⟩;refine zrn hp (fun Ka hp=>?_) fun Ka hp=>?_
 ·obtain rfl:=oi hp;exact hq _ ca.ext'
 intro Qb Pb
 have hgo:∀(s:Nat) (na:Bool) (F:Int) (da:Int) (G:M) (j:M) (g:Nat->Nat),St (Fm.of m) f j G->Sub ba j->Lb (Fm.of m) j g G 1 m.nxt 4 [Il b.Last,Il b.Owners,ca102,ca103]->zuf b bits aa s F da=some rz->Qb [.c (.bool na),.c (Il F),.c (Il da)] G:=by
  intro s
  induction s with
  | zero=>intro na F da G j g l d h hp; cases hp
  | succ s ea=>
   intro na F da G j g l d h hp;refine Pb _ _ _ _ ?_;rw[zuf] at hp;refine⟨e.isSl,?_⟩
   try rw[e.slLen]
   refine ifd hp (fun La hp=>?_) fun La hp=>?_; rotate_left
   ·refine⟨trivial,_,h.bk.rc rfl,ha103.isSl,?_⟩;refine gdi hp fun Ma hp=>?_;obtain⟨fa,hp⟩:=zqZ hp;refine⟨(by first|exact fa|(rw[ha103.slLen];exact fa)),?_⟩;obtain⟨ga,hp⟩:=zqZ hp;refine⟨(by first|exact ga|(rw[ha103.slLen];exact ga)),?_⟩;obtain⟨ha,hp⟩:=zqZ hp;refine⟨(by first|exact ha|(rw[ha103.slLen];exact ha)),?_⟩;refine gdi hp fun Na hp=>?_;obtain⟨ia,hp⟩:=zqZ hp;refine⟨(by first|exact ia|(rw[ha103.slLen];exact ia)),?_⟩;obtain⟨ja,hp⟩:=zqZ hp;refine⟨(by first|exact ja|(rw[ha103.slLen];exact ja)),_,_,_,_,h.bk.ra,?_⟩;obtain⟨ec,Oa,hp⟩:=zqY hp;refine zwz (b:=b) (out_:=F) l.pre (ha102.sub (Sub.trans (Sub.trans p.fs q.fs) d)) (ha103.sub (Sub.trans (Sub.trans p.fs q.fs) d)) Oa fun Bc Pa=>?_;obtain⟨u,Qa⟩:=l.call Pa g;have Ra:=h.k Qa;refine⟨_,rfl,?_⟩;refine zro hp (fun Sa hp=>?_) fun Sa hp=>?_; rotate_left
    ·obtain rfl:=oi hp;exact hq _ u.ext'
    refine⟨_,_,_,_,Ra.bk.ra,?_⟩
    try rw[ha103.slLen]
    obtain⟨fc,Ta,hp⟩:=zqY hp;refine zwz (b:=b) (out_:=((zmJ .i64 bits) % ((1:Int) * ((2:Int) ^ (Int.toNat (zmJ .u64 (b.Entries.length:Int))))))) u.pre (ha102.sub (Sub.trans (Sub.trans p.fs q.fs) d)) (ha103.sub (Sub.trans (Sub.trans p.fs q.fs) d)) Ta fun Cc Ua=>?_;obtain⟨t,gc⟩:=u.call Ua g;refine⟨_,rfl,?_⟩;refine zro hp (fun Va hp=>?_) fun Va hp=>?_; rotate_left
    ·obtain⟨hc,Wa,hp⟩:=zqY hp;refine zuV t.pre  Wa fun Dc Xa=>?_;obtain⟨Ya,ic⟩:=t.call Xa g;refine⟨_,rfl,?_⟩;obtain rfl:=oi hp;exact hq _ Ya.ext'
    try rw[ha103.slLen]
    obtain⟨Za,ab,hp⟩:=zqY hp;refine zu7 (bits:=((zmJ .i64 bits) % ((1:Int) * ((2:Int) ^ (Int.toNat (zmJ .u64 (b.Entries.length:Int))))))) t.pre  ab fun Ec jc kc bb cb=>?_;obtain⟨ka,db⟩:=t.callG bb g;refine⟨_,rfl,?_⟩;obtain⟨nc,eb,hp⟩:=zqY hp;refine zu9 (a:=Za) (b:=aa.1) ka.pre cb (e.sub (Sub.trans d db.fs)) eb fun Fc fb=>?_;obtain⟨w,oc⟩:=ka.call fb g;refine⟨_,rfl,?_⟩;refine zrp hp (fun gb hp=>?_) fun gb hp=>?_; rotate_left
    ·obtain rfl:=oi hp;exact hq _ w.ext'
    obtain⟨pc,hb,hp⟩:=zqY hp;refine zuV w.pre  hb fun Gc ib=>?_;obtain⟨jb,qc⟩:=w.call ib g;refine⟨_,rfl,?_⟩;obtain rfl:=oi hp;exact hq _ jb.ext'
   obtain⟨kb,y,hp⟩:=zqY hp;obtain⟨Rb,oa,I,y⟩:=zqS y;refine⟨Rb,oa,(by first|exact I|(rw[e.slLen];exact I)),_,(e.rdI y (Sub.trans d l.sub)),trivial,_,h.bk.rc rfl,ha103.isSl,?_⟩;obtain⟨la,hp⟩:=zqZ hp;refine⟨(by first|exact la|(rw[ha103.slLen];exact la)),?_⟩
   try rw[ha103.slLen]
   obtain⟨sc,mb,hp⟩:=zqY hp;refine zuW (n:=kb) (low:=(0:Int)) (high:=((b.Entries.length:Int) - (1:Int))) l.pre  mb fun Hc ob=>?_;obtain⟨i,pb⟩:=l.call ob g;have ma:=h.k pb;refine⟨_,rfl,?_⟩;refine zrp hp (fun qb hp=>?_) fun qb hp=>?_
   ·obtain rfl:=oi hp;exact hq _ i.ext'
   refine ifd hp (fun rb hp=>?_) fun rb hp=>?_; rotate_left
   ·obtain⟨tc,z,hp⟩:=zqY hp;obtain⟨Sb,pa,J,z⟩:=zqS z;refine⟨Sb,pa,(by first|exact J|(rw[e.slLen];exact J)),_,(e.rdI z (Sub.trans d i.sub)),?_⟩;refine gdi hp fun sb hp=>?_;refine gdi hp fun tb hp=>?_;refine gdi hp fun ub hp=>?_;refine gdi hp fun vb hp=>?_;refine gdi hp fun wb hp=>?_;refine gdi hp fun xb hp=>?_;refine gdi hp fun yb hp=>?_;refine gdi hp fun zb hp=>?_;refine gdi hp fun Ab hp=>?_;refine gdi hp fun Bb hp=>?_;exact ea _ _ _ _ j g i d ma hp
   obtain⟨uc,A,hp⟩:=zqY hp;obtain⟨Tb,qa,N,A⟩:=zqS A;refine⟨Tb,qa,(by first|exact N|(rw[e.slLen];exact N)),_,(e.rdI A (Sub.trans d i.sub)),?_⟩;refine gdi hp fun Cb hp=>?_;obtain⟨vc,B,hp⟩:=zqY hp;obtain⟨Ub,sa,O,B⟩:=zqS B;refine⟨Ub,sa,(by first|exact O|(rw[e.slLen];exact O)),_,(e.rdI B (Sub.trans d i.sub)),?_⟩;refine ifd hp (fun Db hp=>?_) fun Db hp=>?_
   ·obtain rfl:=oi hp;exact hq _ i.ext'
   obtain⟨wc,D,hp⟩:=zqY hp;obtain⟨Vb,ta,P,D⟩:=zqS D;refine⟨Vb,ta,(by first|exact P|(rw[e.slLen];exact P)),_,(e.rdI D (Sub.trans d i.sub)),?_⟩;refine gdi hp fun Eb hp=>?_;refine gdi hp fun Fb hp=>?_;refine gdi hp fun Gb hp=>?_;refine gdi hp fun Hb hp=>?_;refine gdi hp fun Ib hp=>?_;refine gdi hp fun Jb hp=>?_;refine gdi hp fun Kb hp=>?_;refine gdi hp fun Mb hp=>?_;refine gdi hp fun Nb hp=>?_;refine gdi hp fun Ob hp=>?_;exact ea _ _ _ _ j g i d ma hp
 exact hgo _ _ _ _ _ ba o ca (Sub.refl _) h hp
def Inc(n fr:Nat)(T:List Int):Prop:=T.Pairwise (· < ·)/\∀v∈T,(fr:Int)<=v/\v < n
theorem Inc.cons{n fr:Nat}{x:Int}{T:List Int}:Inc n fr (x::T)↔((fr:Int)<=x/\x < n)/\Inc n (x+1).toNat T:=by
 unfold Inc;rw[List.pairwise_cons]
 constructor
 ·rintro⟨⟨h1,h2⟩,h3⟩
  have hx:=h3 x (List.mem_cons_self ..);exact⟨hx,h2,fun v hv=>by have:=h1 v hv; have:=h3 v (List.mem_cons_of_mem _ hv); omega⟩
 ·rintro⟨hx,h2,h3⟩
  refine⟨⟨fun v hv=>by have:=h3 v hv; omega,h2⟩,fun v hv=>?_⟩
  rcases List.mem_cons.1 hv with rfl | hv
  ·exact hx
  ·have:=h3 v hv; omega
theorem zwJ{n:Nat}{D:List Int}:∀{d:Nat} {pre:List Int} {fr:Nat},D∈zrT n d pre fr↔∃T,D=pre++T/\T.length=d/\Inc n fr T
 | 0,pre,fr=>by
  show D∈[pre]↔_
  rw[List.mem_singleton]
  constructor
  ·rintro rfl; exact⟨[],by simp,rfl,.nil,fun v hv=>by cases hv⟩
  ·rintro⟨T,h1,h2,_⟩
   rw[List.eq_nil_of_length_eq_zero h2,List.append_nil] at h1; exact h1
 | d+1,pre,fr=>by
  show D∈zrS (fun x=>zrT n d (pre++[(x:Int)]) (x+1)) (n - fr) fr↔_
  rw[zv1]
  constructor
  ·rintro⟨x,h1,h2,h3⟩
   obtain⟨T,h4,h5,h6⟩:=zwJ.1 h3;refine⟨(x:Int)::T,by rw[h4]; simp,by simp[h5],Inc.cons.2 ⟨by omega,?_⟩⟩;rw[show((x:Int)+1).toNat=x+1 by omega]; exact h6
  ·rintro⟨T,h1,h2,h3⟩
   cases T with
   | nil=>simp at h2
   | cons v T=>
    obtain⟨h4,h5⟩:=Inc.cons.1 h3;refine⟨v.toNat,by omega,by omega,zwJ.2 ⟨T,?_,by simpa using h2,?_⟩⟩
    ·rw[show((v.toNat:Nat):Int)=v by omega,h1]; simp
    ·rw[show v.toNat+1=(v+1).toNat by omega]; exact h5
theorem zwK{n:Nat}:∀{T:List Int} {fr:Nat},Inc n fr T->T.length<=n - fr
 | [],_,_=>Nat.zero_le _
 | v::T,fr,h=>by
  obtain⟨h1,h2⟩:=Inc.cons.1 h;have:=zwK h2
  simp only[List.length_cons]
  omega
theorem zwL{n:Nat}{D:List Int}:D∈zoQ n↔Inc n 0 D:=by
 unfold zoQ;rw[zv1]
 constructor
 ·rintro⟨s,_,_,h⟩
  obtain⟨T,h1,_,h2⟩:=zwJ.1 h;rw[h1]; exact h2
 ·intro h;have:=zwK h;exact⟨D.length,Nat.zero_le _,by omega,zwJ.2 ⟨D,rfl,rfl,h⟩⟩
def inD(D:List Int)(j:Nat):Bool:=decide ((j:Int)∈D)
def zwM(b:Nat):Nat->List Int
 | 0=>[]
 | p+1=>zwM b p++(if b.testBit p then [(p:Int)] else [])
def zwN(b:Nat):List Int:=zwM b 16
theorem zwO{b:Nat}{v:Int}:∀{p:Nat},v∈zwM b p↔0<=v/\v < p/\b.testBit v.toNat=true
 | 0=>⟨fun h=>(by cases h),fun h=>by omega⟩
 | p+1=>by
  show v∈zwM b p++_↔_
  rw[List.mem_append,zwO]
  constructor
  ·rintro (h | h)
   ·exact⟨h.1,by omega,h.2.2⟩
   ·by_cases hb:b.testBit p=true
    ·rw[if_pos hb,List.mem_singleton] at h;subst h; exact⟨by omega,by omega,hb⟩
    ·rw[if_neg hb] at h; cases h
  ·rintro⟨h1,h2,h3⟩
   by_cases hv:v=(p:Int)
   ·subst hv;have h4:b.testBit p=true:=h3;rw[if_pos h4]; exact .inr (List.mem_singleton.2 rfl)
   ·exact .inl ⟨h1,by omega,h3⟩
theorem zwP{b:Nat}:∀p:Nat,(zwM b p).Pairwise (· < ·)
 | 0=>.nil
 | p+1=>by
  show(zwM b p++_).Pairwise _
  rw[List.pairwise_append];refine⟨zwP p,?_,fun a ha c hc=>?_⟩
  ·split
   ·exact List.pairwise_singleton _ _
   ·exact .nil
  ·have:=zwO.1 ha
   split at hc
   ·rw[List.mem_singleton] at hc; omega
   ·cases hc
theorem zwQ{b p:Nat}(h:∀q,p<=q->b.testBit q=false):∀k,zwM b (p+k)=zwM b p
 | 0=>rfl
 | k+1=>by
  show zwM b (p+k)++(if b.testBit (p+k) then _ else _)=_
  rw[h (p+k) (by omega),zwQ h k]; simp
theorem zwR{b:Nat}:∀p,(zwM b p).length<=p
 | 0=>Nat.le_refl _
 | p+1=>by
  show(zwM b p++_).length<=_
  rw[List.length_append];have:=zwR (b:=b) p
  split <;> simp <;> omega
theorem zwS(b p:Nat):(b:Int) / 2 ^ p=((b / 2 ^ p:Nat):Int):=by simp
theorem zjo{b p q:Nat}(h:b / 2 ^ p=0)(hq:p<=q):b.testBit q=false:=by
 have h1:b < 2 ^ p:=by
  rcases Nat.lt_or_ge b (2 ^ p) with h2 | h2
  ·exact h2
  ·have:=Nat.div_pos h2 (Nat.two_pow_pos p); omega
 exact Nat.testBit_lt_two_pow (Nat.lt_of_lt_of_le h1 (Nat.pow_le_pow_right (by omega) hq))
def bef:List Int->List Int->Bool
 | [],[]=>false
 | [],_::_=>true
 | _::_,[]=>false
 | x::a,y::b=>if x=y then bef a b else decide (x < y)
def shB(a b:List Int):Bool:=decide (a.length < b.length) || (decide (a.length=b.length) && bef a b)
theorem zwT:∀A:List Int,bef A A=false
 | []=>rfl
 | x::A=>by show(if x=x then bef A A else _)=_; rw[if_pos rfl,zwT A]
theorem zwU:∀{A B:List Int},bef A B=true->bef B A=false
 | [],[],h=>by cases h
 | [],_::_,_=>rfl
 | _::_,[],h=>by cases h
 | x::A,y::B,h=>by
  have h':(if x=y then bef A B else decide (x < y))=true:=h
  show(if y=x then bef B A else decide (y < x))=false
  by_cases hxy:x=y
  ·rw[if_pos hxy] at h'; rw[if_pos hxy.symm]; exact zwU h'
  ·rw[if_neg hxy] at h'; rw[if_neg fun h=>hxy h.symm];have:=of_decide_eq_true h';exact decide_eq_false (by omega)
theorem zwV:∀A B:List Int,A=B\/bef A B=true\/bef B A=true
 | [],[]=>.inl rfl
 | [],_::_=>.inr (.inl rfl)
 | _::_,[]=>.inr (.inr rfl)
 | x::A,y::B=>by
  show x::A=y::B\/(if x=y then bef A B else decide (x < y))=true\/(if y=x then bef B A else decide (y < x))=true
  by_cases hxy:x=y
  ·subst hxy;rw[if_pos rfl,if_pos rfl]
   rcases zwV A B with h | h | h
   ·exact .inl (by rw[h])
   ·exact .inr (.inl h)
   ·exact .inr (.inr h)
  ·rw[if_neg hxy,if_neg fun h=>hxy h.symm]
   by_cases h:x < y
   ·exact .inr (.inl (decide_eq_true h))
   ·exact .inr (.inr (decide_eq_true (by omega)))
theorem zwW:∀{A B E:List Int},bef A B=true->bef B E=true->bef A E=true
 | [],[],_,h,_=>by cases h
 | [],_::_,[],_,h=>by cases h
 | [],_::_,_::_,_,_=>rfl
 | _::_,[],_,h,_=>by cases h
 | _::_,_::_,[],_,h=>by cases h
 | x::A,y::B,z::E,h1,h2=>by
  have h1':(if x=y then bef A B else decide (x < y))=true:=h1;have h2':(if y=z then bef B E else decide (y < z))=true:=h2
  show(if x=z then bef A E else decide (x < z))=true
  by_cases hxy:x=y
  ·rw[if_pos hxy] at h1'
   by_cases hyz:y=z
   ·rw[if_pos hyz] at h2';rw[if_pos (hxy.trans hyz)]; exact zwW h1' h2'
   ·rw[if_neg hyz] at h2';rw[if_neg (by rw[hxy]; exact hyz)];have:=of_decide_eq_true h2';exact decide_eq_true (by omega)
  ·rw[if_neg hxy] at h1';have h3:=of_decide_eq_true h1'
   by_cases hyz:y=z
   ·rw[if_neg (by omega)]; exact decide_eq_true (by omega)
   ·rw[if_neg hyz] at h2';have:=of_decide_eq_true h2';rw[if_neg (by omega)]; exact decide_eq_true (by omega)
theorem zwX{A B:List Int}:shB A B=true↔A.length < B.length\/(A.length=B.length/\bef A B=true):=by
 unfold shB;rw[Bool.or_eq_true,Bool.and_eq_true,decide_eq_true_eq,decide_eq_true_eq]
theorem zwY{A B E:List Int}(h1:shB A B=true)(h2:shB B E=true):shB A E=true:=by
 rw[zwX] at h1 h2 ⊢
 rcases h1 with h1 | ⟨h1,h3⟩
 ·rcases h2 with h2 | ⟨h2,_⟩
  ·exact .inl (by omega)
  ·exact .inl (by omega)
 ·rcases h2 with h2 | ⟨h2,h4⟩
  ·exact .inl (by omega)
  ·exact .inr ⟨by omega,zwW h3 h4⟩
theorem zwZ(A B:List Int):A=B\/shB A B=true\/shB B A=true:=by
 rw[zwX,zwX]
 rcases Nat.lt_trichotomy A.length B.length with h | h | h
 ·exact .inr (.inl (.inl h))
 ·rcases zwV A B with h1 | h1 | h1
  ·exact .inl h1
  ·exact .inr (.inl (.inr ⟨h,h1⟩))
  ·exact .inr (.inr (.inr ⟨h.symm,h1⟩))
 ·exact .inr (.inr (.inl h))
theorem zw0(A:List Int):shB A A=false:=by unfold shB; rw[decide_eq_false (by omega),zwT]; simp
theorem zw1{A B:List Int}(h:shB A B=true):shB B A=false:=by
 unfold shB at h ⊢;rw[Bool.or_eq_true,Bool.and_eq_true,decide_eq_true_eq,decide_eq_true_eq] at h
 rcases h with h | ⟨h1,h2⟩
 ·rw[decide_eq_false (by omega),decide_eq_false (by omega)]; rfl
 ·rw[decide_eq_false (by omega),zwU h2]; simp
theorem zw2(x y:Int)(A B:List Int)(hxy:x < y):∀pre:List Int,bef (pre++x::A) (pre++y::B)=true
 | []=>by show(if x=y then _ else decide (x < y))=true; rw[if_neg (by omega),decide_eq_true hxy]
 | p::pre=>by show(if p=p then bef (pre++x::A) (pre++y::B) else _)=true; rw[if_pos rfl]; exact zw2 x y A B hxy pre
theorem zw3{α:Type}{R:α->α->Prop}(g:Nat->List α)(h1:∀x,(g x).Pairwise R)(h2:∀x y,x < y->∀a∈g x,∀b∈g y,R a b):∀e x,(zrS g e x).Pairwise R
 | 0,_=>.nil
 | e+1,x=>by
  show(g x++zrS g e (x+1)).Pairwise R
  rw[List.pairwise_append];refine⟨h1 x,zw3 g h1 h2 e (x+1),fun a ha b hb=>?_⟩;obtain⟨j,h3,_,h4⟩:=(zv1 g b e (x+1)).1 hb;exact h2 x j (by omega) a ha b h4
theorem zw4{n:Nat}:∀(d:Nat) (pre:List Int) (fr:Nat),(zrT n d pre fr).Pairwise fun a b=>bef a b=true
 | 0,pre,fr=>List.pairwise_singleton _ _
 | d+1,pre,fr=>zw3 _ (fun x=>zw4 d _ _) (fun x y hxy a ha b hb=>by
  obtain⟨T,h1,_,_⟩:=zwJ.1 ha;obtain⟨T',h2,_,_⟩:=zwJ.1 hb;rw[h1,h2,List.append_assoc,List.append_assoc]
  exact zw2 _ _ _ _ (by omega) pre) _ _
theorem zw5(n:Nat):(zoQ n).Pairwise fun a b=>shB a b=true:=
 zw3 _ (fun s=>(zw4 s [] 0).imp_of_mem fun {a b} ha hb hab=>by
  have h1:=zwa ha;have h2:=zwa hb;unfold shB
  rw[hab,decide_eq_true (show a.length=b.length by omega)]; simp) (fun s s' hs a ha b hb=>by
  have h1:=zwa ha;have h2:=zwa hb;unfold shB
  rw[decide_eq_true (by omega)]; rfl) _ _
theorem zw6{t:List Int->Bool}:∀{l:List (List Int)},l.Pairwise (fun a b=>shB a b=true)->∀{D D':List Int},l.find? t=some D->D'∈l->t D'=true->D'=D\/shB D D'=true
 | [],_,_,_,h,_,_=>by cases h
 | a::l,hp,D,D',h,hm,ht=>by
  rw[List.pairwise_cons] at hp;rw[List.find?_cons] at h
  cases hta:t a with
  | true=>
   rw[hta] at h;have:a=D:=oi h;subst this
   rcases List.mem_cons.1 hm with rfl | h1
   ·exact .inl rfl
   ·exact .inr (hp.1 _ h1)
  | false=>
   rw[hta] at h
   rcases List.mem_cons.1 hm with rfl | h1
   ·rw[hta] at ht; cases ht
   ·exact zw6 hp.2 h h1 ht
theorem zw7{n:Nat}{t:List Int->Bool}(h:∃D,Inc n 0 D/\t D=true):Inc n 0 (zrU n t)/\t (zrU n t)=true/\∀D,Inc n 0 D->t D=true->D=zrU n t\/shB (zrU n t) D=true:=by
 obtain⟨D0,h1,h2⟩:=h;unfold zrU
 cases hf:(zoQ n).find? t with
 | none=>exact absurd h2 (by have:=List.find?_eq_none.1 hf D0 (zwL.2 h1); simpa using this)
 | some D=>exact⟨zwL.1 (List.mem_of_find?_eq_some hf),List.find?_some hf,fun D' h3 h4=>zw6 (zw5 n) hf (zwL.2 h3) h4⟩
theorem zw8:∀(n:Nat) (S:Nat->Bool),∃b,b < 2 ^ n/\∀q,q < n->b.testBit q=S q
 | 0,S=>⟨0,by decide,fun q hq=>by omega⟩
 | n+1,S=>by
  obtain⟨b,h1,h2⟩:=zw8 n fun q=>S (q+1);refine⟨2 * b+(if S 0 then 1 else 0),?_,fun q hq=>?_⟩
  ·rw[Nat.pow_succ]; split <;> omega
  ·cases q with
   | zero=>
    rw[Nat.testBit_zero]
    cases S 0 with
    | true=>exact decide_eq_true (by simp only[if_true]; omega)
    | false=>exact decide_eq_false (by simp)
   | succ q=>
    rw[Nat.testBit_succ,<- h2 q (by omega)]
    congr 1
    split <;> omega
theorem zw9:∀{A B:List Int},A.Pairwise (· < ·)->B.Pairwise (· < ·)->(∀v,v∈A↔v∈B)->A=B
 | [],[],_,_,_=>rfl
 | [],b::B,_,_,h=>by have:=(h b).2 (List.mem_cons_self ..); cases this
 | a::A,[],_,_,h=>by have:=(h a).1 (List.mem_cons_self ..); cases this
 | a::A,b::B,hA,hB,h=>by
  rw[List.pairwise_cons] at hA hB
  have hab:a=b:=by
   rcases List.mem_cons.1 ((h a).1 (List.mem_cons_self ..)) with h1 | h1
   ·exact h1
   ·rcases List.mem_cons.1 ((h b).2 (List.mem_cons_self ..)) with h2 | h2
    ·exact h2.symm
    ·have:=hA.1 _ h2; have:=hB.1 _ h1; omega
  subst hab
  congr 1
  refine zw9 hA.2 hB.2 fun v=>?_;have hv:=h v;rw[List.mem_cons,List.mem_cons] at hv
  constructor
  ·intro h1
   rcases hv.1 (.inr h1) with h2 | h2
   ·have:=hA.1 _ h1; omega
   ·exact h2
  ·intro h1
   rcases hv.2 (.inr h1) with h2 | h2
   ·have:=hB.1 _ h1; omega
   ·exact h2
theorem zxa{n b:Nat}(_hn:n<=16)(hb:b < 2 ^ n):Inc n 0 (zwN b):=
 ⟨zwP 16,fun v hv=>by
  obtain⟨h1,h2,h3⟩:=zwO.1 hv;refine⟨by omega,?_⟩
  by_cases h4:v < n
  ·exact h4
  ·have:=Nat.testBit_lt_two_pow (Nat.lt_of_lt_of_le hb (Nat.pow_le_pow_right (by omega) (show n<=v.toNat by omega)))
   rw[this] at h3; cases h3⟩
theorem zxb{n b k:Nat}(hn:n<=16)(hk:k < n):inD (zwN b) k=b.testBit k:=by
 unfold inD
 have:((k:Nat):Int)∈zwN b↔b.testBit k=true:=by
  unfold zwN;rw[zwO];exact⟨fun h=>h.2.2,fun h=>⟨by omega,by omega,h⟩⟩
 cases hb:b.testBit k with
 | true=>exact decide_eq_true (this.2 hb)
 | false=>exact decide_eq_false fun h=>by rw[this.1 h] at hb; cases hb
theorem zxc{n:Nat}{D:List Int}(hn:n<=16)(hD:Inc n 0 D):∃b,b < 2 ^ n/\zwN b=D:=by
 obtain⟨b,h1,h2⟩:=zw8 n (inD D);refine⟨b,h1,zw9 (zwP 16) hD.1 fun v=>?_⟩
 constructor
 ·intro hv;obtain⟨h3,h4⟩:=(zxa hn h1).2 v hv;obtain⟨_,_,h5⟩:=zwO.1 hv;rw[h2 _ (by omega)] at h5;have:=of_decide_eq_true h5
  rwa [show((v.toNat:Nat):Int)=v by omega] at this
 ·intro hv;have h3:=hD.2 v hv;refine zwO.2 ⟨by omega,by omega,?_⟩;rw[h2 _ (by omega)];exact decide_eq_true (by rw[show((v.toNat:Nat):Int)=v by omega]; exact hv)
def inR:List Rg->List Int->Prop
 | [],[]=>True
 | r::rs,x::xs=>(r.Lo<=x/\x<=r.Hi)/\inR rs xs
 | _,_=>False
theorem zxd:∀{rs:List Rg} {xs:List Int},inR rs xs->xs.length=rs.length
 | [],[],_=>rfl
 | _::_,_::_,h=>by rw[List.length_cons,List.length_cons,zxd h.2]
theorem zxe{L:List Int}:∀{rs:List Rg} {pre:List Int},L∈chW rs pre↔∃xs,L=pre++xs/\inR rs xs
 | [],pre=>by
  rw[chW,List.mem_singleton]
  constructor
  ·intro h; exact⟨[],by rw[h,List.append_nil],trivial⟩
  ·rintro⟨xs,h1,h2⟩
   cases xs with
   | nil=>rw[h1,List.append_nil]
   | cons _ _=>exact h2.elim
 | r::rs,pre=>by
  rw[chW,zv1]
  constructor
  ·rintro⟨j,_,h1,h2⟩
   obtain⟨xs,h3,h4⟩:=(zxe (rs:=rs)).1 h2;refine⟨(r.Lo+(j:Int))::xs,by rw[h3,List.append_assoc]; rfl,⟨?_,h4⟩⟩;unfold szR at h1; omega
  ·rintro⟨xs,h1,h2⟩
   cases xs with
   | nil=>exact h2.elim
   | cons x xs=>
    obtain⟨h3,h4⟩:=h2;refine⟨(x - r.Lo).toNat,Nat.zero_le _,by unfold szR; omega,(zxe (rs:=rs)).2 ⟨xs,?_,h4⟩⟩;rw[h1,show r.Lo+((x - r.Lo).toNat:Int)=x by omega,List.append_assoc]; rfl
theorem zxf{L:List Int}{rs:List Rg}:L∈chW rs []↔inR rs L:=by
 rw[zxe];exact⟨fun⟨xs,h1,h2⟩=>by rw[h1]; exact h2,fun h=>⟨L,rfl,h⟩⟩
def zxg(l:List En):Int:=((l.filter fun e=>decide (e.Kind=1)).length:Int)
def zxh(b:Boo):Int:=(b.Parcels.length:Int)+zxg b.Entries
def zxi(b:Boo)(r:Rg):Prop:=0<=r.Lo/\r.Lo<=r.Hi/\r.Hi<=b.Last
def InN(n lo hi:Int):Prop:=lo<=n/\n<=hi
def zgo(b:Boo)(e:En):Prop:=
 (e.Kind=0/\InN e.From 0 (b.Owners - 1)/\InN e.To 0 (b.Owners - 1)/\e.From ≠ e.To/\e.Part=0/\e.Other=0) \/
 (e.Kind=1/\e.From=0/\e.To=0/\e.Other=0/\InN e.Part 1 1000) \/
 (e.Kind=2/\e.From=0/\e.To=0/\e.Part=0/\InN e.Other 0 (zxh b - 1)/\e.Other ≠ e.Parcel) \/
 (e.Kind=3/\e.From=0/\e.To=0/\e.Part=0/\e.Other=0)
def zxj(b:Boo)(e:En):Prop:=zxi b e.Day/\InN e.Parcel 0 (zxh b - 1)/\zgo b e
def zxk(b:Boo)(p:Pc):Prop:=InN p.Owner 0 (b.Owners - 1)/\InN p.Value 0 1000/\zxi b p.Sown
theorem zxl{l:List En}:0<=zxg l/\zxg l<=l.length:=by
 unfold zxg;have:=List.length_filter_le (fun e:En=>decide (e.Kind=1)) l
 omega
theorem zxm{n lo hi:Int}:Ev (zst n lo hi) (InN n lo hi):=Ev.ite fun _=>Ev.dec Iff.rfl
theorem zxn{b:Boo}{r:Rg}:Ev (zsu b r) (zxi b r):=Ev.ite fun _=>Ev.ite fun _=>Ev.dec Iff.rfl
theorem zxo{b:Boo}{n:Int}(hl:b.Entries.length<=100){m:Nat}(hm:n=(m:Int))(hml:m<=b.Entries.length)(hp:b.Parcels.length<=100):∀(d k:Nat),k<=m->m - k < d->prNumbers_L0 b n d ((b.Parcels.length:Int)+zxg (b.Entries.take k)) (k:Int)=some ((b.Parcels.length:Int)+zxg (b.Entries.take m))
 | 0,_,_,h=>by omega
 | d+1,k,hk,h=>by
  unfold prNumbers_L0
  by_cases hkm:k=m
  ·subst hkm;rw[if_neg (by omega)]
  ·have hlt:k < b.Entries.length:=by omega
   have hg:=List.getElem?_eq_getElem hlt
   have hsp:zxg (b.Entries.take (k+1))=zxg (b.Entries.take k)+if b.Entries[k].Kind=1 then 1 else 0:=by
    rw[List.take_add_one,hg];unfold zxg;rw[List.filter_append,List.length_append]
    by_cases h1:b.Entries[k].Kind=1
    ·rw[if_pos h1]; simp[h1]
    ·rw[if_neg h1]; simp[h1]
   have hr:=zxl (l:=b.Entries.take k)
   have:(b.Entries.take k).length<=100:=by rw[List.length_take]; omega
   have ih:=zxo hl hm hml hp d (k+1) (by omega) (by omega);rw[if_pos (by omega),zrX hg,obs]
   by_cases h1:b.Entries[k].Kind=1
   ·rw[if_pos h1] at hsp;rw[if_pos h1,zq0 (fI (by omega)),zq0 (fI (by omega)),show(k:Int)+1=((k+1:Nat):Int) by omega,Int.add_assoc,<- hsp];exact ih
   ·rw[if_neg h1,Int.add_zero] at hsp;rw[if_neg h1,zq0 (fI (by omega)),show(k:Int)+1=((k+1:Nat):Int) by omega,<- hsp];exact ih
theorem zxp{b:Boo}(hl:b.Entries.length<=100)(hp:b.Parcels.length<=100):zsw b=some (zxh b):=by
 unfold zsw zsv;have:=zxo hl rfl (Nat.le_refl _) hp (b.Entries.length+1) 0 (Nat.zero_le _) (by omega);rw[List.take_length] at this;rw[Int.toNat_natCast];have h0:zxg (b.Entries.take 0)=0:=rfl;rw[h0,Int.add_zero] at this;rw[show((0:Nat):Int)=0 from rfl] at this;rw[this]; rfl
theorem zxq{b:Boo}(hl:b.Entries.length<=100)(hp:b.Parcels.length<=100):0<=zxh b/\zxh b<=200:=by
 have:=zxl (l:=b.Entries);unfold zxh; omega
theorem zxr{b:Boo}{e:En}(hl:b.Entries.length<=100)(hp:b.Parcels.length<=100)(ho:1<=b.Owners/\b.Owners<=4):Ev (zsx b e) (zxj b e):=by
 have hr:=zxq hl hp;unfold zsx;refine(zxn.and (K:=InN e.Parcel 0 (zxh b - 1)/\zgo b e) fun _=>Ev.bind (zxp hl hp) (Ev.gd (fI (by omega)) (zxm.and fun hpc=>?_)));unfold zgo
 by_cases h0:e.From=0
 ·rw[if_pos h0]
  by_cases k0:e.Kind=0
  ·rw[if_pos k0];refine(Ev.gd (fI (by omega)) (zxm.and fun _=>Ev.gd (fI (by omega)) (zxm.and fun _=>Ev.itn fun _=>Ev.ite fun _=>Ev.dec Iff.rfl))).imp ?_
   simp[k0]
  ·rw[if_neg k0]
   by_cases k1:e.Kind=1
   ·rw[if_pos k1];refine(Ev.ite fun _=>Ev.ite fun _=>zxm.ret).imp ?_
    simp[k1,h0]
   ·rw[if_neg k1]
    by_cases k2:e.Kind=2
    ·rw[if_pos k2];refine(Ev.ite fun _=>Ev.ite fun _=>Ev.bind (zxp hl hp) (Ev.gd (fI (by omega)) (zxm.and (K:=¬ e.Other=e.Parcel) fun _=>Ev.mk' (by simp)))).imp ?_
     simp[k2,h0]
    ·rw[if_neg k2]
     by_cases k3:e.Kind=3
     ·rw[if_pos k3];refine(Ev.ite fun _=>Ev.ite fun _=>Ev.dec Iff.rfl).imp ?_
      simp[k3,h0]
     ·rw[if_neg k3];exact Ev.ff (by simp[k0,k1,k2,k3])
 ·rw[if_neg h0]
  by_cases k0:e.Kind=0
  ·rw[if_pos k0];refine(Ev.gd (fI (by omega)) (zxm.and fun _=>Ev.gd (fI (by omega)) (zxm.and fun _=>Ev.itn fun _=>Ev.ite fun _=>Ev.dec Iff.rfl))).imp ?_
   simp[k0]
  ·rw[if_neg k0]
   repeat' split
   all_goals exact Ev.ff (by simp[k0,h0])
def zxs(x:Int)(l:List Rg):Int:=l.foldl (fun p r=>p * szR r) x
def zxt(C:Int)(x:Int)(l:List Rg):Int:=l.foldl (fun p r=>min C (p * szR r)) x
def zxu(S:Int)(l:List Rg):Prop:=∀r∈l,1<=szR r/\szR r<=S
theorem zxv:∀{l:List Rg} {x:Int},zxs x l=x * zxs 1 l
 | [],x=>(Int.mul_one x).symm
 | r::l,x=>by
  show zxs (x * szR r) l=x * zxs (1 * szR r) l
  rw[zxv (l:=l) (x:=x * szR r),zxv (l:=l) (x:=1 * szR r),Int.one_mul,Int.mul_assoc]
theorem zxw{l:List Rg}{r:Rg}{x:Int}:zxs x (r::l)=zxs (x * szR r) l:=rfl
theorem zxx{C:Int}{l k:List Rg}{x:Int}:zxt C x (l++k)=zxt C (zxt C x l) k:=by unfold zxt; rw[List.foldl_append]
theorem zxy{S:Int}:∀{l:List Rg},zxu S l->1<=zxs 1 l
 | [],_=>by show(1:Int)<=1; omega
 | r::l,h=>by
  rw[zxw,Int.one_mul,zxv];have h1:=h r (List.mem_cons_self ..);have h2:=zxy fun r hr=>h r (List.mem_cons_of_mem _ hr);have:=Int.mul_le_mul h1.1 h2 (by omega) (by omega)
  omega
theorem zxz{S C:Int}(hC:0<=C):∀{l:List Rg} {x:Int},zxu S l->0<=x->x<=C->zxt C x l=min C (zxs x l)
 | [],x,_,_,hx=>(Int.min_eq_right hx).symm
 | r::l,x,h,h0,hx=>by
  have h1:=h r (List.mem_cons_self ..);have hl:zxu S l:=fun r hr=>h r (List.mem_cons_of_mem _ hr);have h2:=zxy hl;have h3:0<=x * szR r:=Int.mul_nonneg h0 (by omega)
  show zxt C (min C (x * szR r)) l=min C (zxs (x * szR r) l)
  rw[zxz hC hl (by omega) (by omega)]
  by_cases h4:x * szR r<=C
  ·rw[Int.min_eq_right h4]
  ·rw[Int.min_eq_left (a:=C) (b:=x * szR r) (by omega),zxv (x:=C),zxv (x:=x * szR r)];have a1:C * 1<=C * zxs 1 l:=Int.mul_le_mul_of_nonneg_left h2 hC;have a2:(x * szR r) * 1<=(x * szR r) * zxs 1 l:=Int.mul_le_mul_of_nonneg_left h2 h3;rw[Int.min_eq_left (by omega),Int.min_eq_left (by omega)]
theorem zxA{C:Int}(hC:1<=C){S:Int}{l:List Rg}(h:zxu S l){x:Int}(h0:1<=x)(hx:x<=C):1<=zxt C x l/\zxt C x l<=C:=by
 rw[zxz (by omega) h (by omega) hx,zxv];have h2:=zxy h;have a2:x * 1<=x * zxs 1 l:=Int.mul_le_mul_of_nonneg_left h2 (by omega)
 omega
theorem zxB{x s C S:Int}(hx:0<=x/\x<=C)(hs:1<=s/\s<=S)(hC:0<=C):0<=x * s/\x * s<=C * S:=⟨Int.mul_nonneg hx.1 (by omega),Int.mul_le_mul hx.2 hs.2 (by omega) hC⟩
theorem zxC{b:Boo}(hp:b.Parcels.length<=100)(hz:zxu 100 (b.Parcels.map (·.Sown)))(hr:∀p∈b.Parcels,okR p.Sown):∀(d k:Nat) (x:Int),k<=b.Parcels.length->b.Parcels.length - k < d->1<=x->x<=2000->zsy b d x (k:Int)=some (zxt 2000 x ((b.Parcels.drop k).map (·.Sown)))
 | 0,_,_,_,h,_,_=>by omega
 | d+1,k,x,hk,h,h0,hx=>by
  rw[zsy]
  by_cases hkn:k < b.Parcels.length
  ·have hg:=List.getElem?_eq_getElem hkn;have hm:=List.getElem_mem hkn;have hs:=hz _ (List.mem_map.2 ⟨_,hm,rfl⟩);have ho:=hr _ hm;unfold okR at ho;have hsd:b.Parcels[k].Sown.Hi - b.Parcels[k].Sown.Lo+1=szR b.Parcels[k].Sown:=rfl;have hmu:=zxB (C:=2000) ⟨by omega,hx⟩ hs (by omega);rw[if_pos (by omega),zrX hg,obs,obs,zq0 (fI (by omega)),zq0 (fI (by omega)),zq0 (by omega),hsd,zq0 (by omega),zq0 (fI (by omega)),zq0 (fI (by omega)),show(k:Int)+1=((k+1:Nat):Int) by omega];have h1:x * 1<=x * szR b.Parcels[k].Sown:=Int.mul_le_mul_of_nonneg_left hs.1 (by omega);rw[zxC hp hz hr d (k+1) _ (by omega) (by omega) (by omega) (by omega),List.drop_eq_getElem_cons hkn]; rfl
  ·rw[if_neg (by omega),List.drop_eq_nil_of_le (by omega)]; rfl
theorem zxD{b:Boo}(hp:b.Entries.length<=100)(hz:zxu 100 (b.Entries.map (·.Day)))(hr:∀p∈b.Entries,okR p.Day):∀(d k:Nat) (x:Int),k<=b.Entries.length->b.Entries.length - k < d->1<=x->x<=2000->zsz b d x (k:Int)=zsy b 1000000 (zxt 2000 x ((b.Entries.drop k).map (·.Day))) 0
 | 0,_,_,_,h,_,_=>by omega
 | d+1,k,x,hk,h,h0,hx=>by
  rw[zsz]
  by_cases hkn:k < b.Entries.length
  ·have hg:=List.getElem?_eq_getElem hkn;have hm:=List.getElem_mem hkn;have hs:=hz _ (List.mem_map.2 ⟨_,hm,rfl⟩);have ho:=hr _ hm;unfold okR at ho;have hsd:b.Entries[k].Day.Hi - b.Entries[k].Day.Lo+1=szR b.Entries[k].Day:=rfl;have hmu:=zxB (C:=2000) ⟨by omega,hx⟩ hs (by omega);rw[if_pos (by omega),zrX hg,obs,obs,zq0 (fI (by omega)),zq0 (fI (by omega)),zq0 (by omega),hsd,zq0 (by omega),zq0 (fI (by omega)),zq0 (fI (by omega)),show(k:Int)+1=((k+1:Nat):Int) by omega];have h1:x * 1<=x * szR b.Entries[k].Day:=Int.mul_le_mul_of_nonneg_left hs.1 (by omega);rw[zxD hp hz hr d (k+1) _ (by omega) (by omega) (by omega) (by omega),List.drop_eq_getElem_cons hkn]; rfl
  ·rw[if_neg (by omega),List.drop_eq_nil_of_le (by omega)]; rfl
def zxE(b:Boo):List Rg:=b.Entries.map (·.Day)++b.Parcels.map (·.Sown)
theorem zxF{b:Boo}(hL:b.Last<=30){r:Rg}(h:zxi b r):(1<=szR r/\szR r<=31)/\okR r:=by
 unfold zxi at h;unfold szR okR
 omega
theorem zxG{b:Boo}(hL:b.Last<=30)(hP:∀p∈b.Parcels,zxk b p)(hE:∀e∈b.Entries,zxj b e):zxu 31 (zxE b)/\∀r∈zxE b,okR r:=by
 have key:∀r∈zxE b,zxi b r:=fun r hr=>by
  rcases List.mem_append.1 hr with h | h
  ·obtain⟨e,he,rfl⟩:=List.mem_map.1 h; exact(hE e he).1
  ·obtain⟨e,he,rfl⟩:=List.mem_map.1 h; exact(hP e he).2.2
 exact⟨fun r hr=>(zxF hL (key r hr)).1,fun r hr=>(zxF hL (key r hr)).2⟩
theorem zxu.mono{S T:Int}(h:S<=T){l k:List Rg}(hk:∀r∈k,r∈l)(hl:zxu S l):zxu T k:=fun r hr=>⟨(hl r (hk r hr)).1,by have:=(hl r (hk r hr)).2; omega⟩
theorem zxH{b:Boo}(h1:b.Entries.length<=100)(h2:b.Parcels.length<=100)(hL:b.Last<=30)(hP:∀p∈b.Parcels,zxk b p)(hE:∀e∈b.Entries,zxj b e):zsA b=some (min 2000 (zxs 1 (zxE b))):=by
 obtain⟨hz,hr⟩:=zxG hL hP hE;have hzE:zxu 100 (b.Entries.map (·.Day)):=zxu.mono (by omega) (fun r hr=>List.mem_append_left _ hr) hz;have hzP:zxu 100 (b.Parcels.map (·.Sown)):=zxu.mono (by omega) (fun r hr=>List.mem_append_right _ hr) hz;unfold zsA;have g1:=zxD h1 hzE (fun e he=>hr _ (List.mem_append_left _ (List.mem_map.2 ⟨e,he,rfl⟩))) 1000000 0 1 (Nat.zero_le _) (by omega) (by omega) (by omega);have hc:=zxA (C:=2000) (x:=1) (by omega) hzE (by omega) (by omega);have g2:=zxC h2 hzP (fun e he=>hr _ (List.mem_append_right _ (List.mem_map.2 ⟨e,he,rfl⟩))) 1000000 0 (zxt 2000 1 (b.Entries.map (·.Day))) (Nat.zero_le _) (by omega) hc.1 hc.2;rw[List.drop_zero] at g1 g2;refine g1.trans (g2.trans ?_);rw[<- zxx];exact congrArg some (zxz (by omega) hz (by omega) (by omega))
def zxI(b:Boo):Prop:=(InN b.Last 0 30/\1<=b.Owners)/\(∀p∈b.Parcels,zxk b p)/\∀e∈b.Entries,zxj b e
open Classical in
def zxJ(b:Boo):Int:=if 4 < b.Owners\/4 < b.Parcels.length\/6 < b.Entries.length then 3 else if zxI b then (if 1000 < zxs 1 (zxE b) then 3 else 0) else 1
theorem zxK{b:Boo}(ho:zmE .i64 b.Owners):zsC b=some (zxJ b):=by
 have ho:=fI' ho;unfold zsC zxJ
 by_cases c1:4 < b.Owners
 ·rw[if_pos c1,if_pos (.inl c1)]
 rw[if_neg c1]
 by_cases c2:4 < b.Parcels.length
 ·rw[if_pos (by omega),if_pos (.inr (.inl c2))]
 rw[if_neg (by omega)]
 by_cases c3:6 < b.Entries.length
 ·rw[if_pos (by omega),if_pos (.inr (.inr c3))]
 rw[if_neg (by omega),if_neg (show ¬ (4 < b.Owners\/4 < b.Parcels.length\/6 < b.Entries.length) by omega)]
 refine zxm.pick (P:=InN b.Last 0 30) (fun hl=>?_) fun hl=>by rw[if_neg (by simp),if_neg fun h=>hl h.1.1]
 rw[if_pos rfl]
 by_cases c4:b.Owners < 1
 ·rw[if_pos c4,if_neg fun h=>by have:=h.1.2; omega]
 rw[if_neg c4]
 obtain⟨l1,l2⟩:=zr4 (l:=b.Parcels) (F:=fun d x=>zsB b d 0 x) (ok:=zxk b) (bad:=some 1) (fin:=prFault_L1 b 1000000 0) (fun d k a hk=>by
  have hkl:=(List.getElem?_eq_some_iff.1 hk).1
  have e1:zsB b (d+1) 0 (k:Int)=gd (zmE .i64 (b.Owners - (1:Int))) ((zst a.Owner (0:Int) (b.Owners - (1:Int))).bind fun r529=>(if r529=true then ((zst a.Value (0:Int) (1000:Int)).bind fun r537=>(if r537=true then ((zsu b a.Sown).bind fun r545=>(if r545=true then (gd (zmE .i64 ((k:Int)+(1:Int))) (zsB b d 0 ((k:Int)+(1:Int)))) else (some (1:Int)))) else (some (1:Int)))) else (some (1:Int)))):=by
   rw[zsB,if_pos (by omega),zrX hk,obs]
  rw[e1,zq0 (fI (by omega)),zq0 (fI (by omega))]
  constructor
  ·intro h;rw[zxm.some_of h.1,obs,if_pos rfl,zxm.some_of h.2.1,obs,if_pos rfl,zxn.some_of h.2.2,obs,if_pos rfl]
  ·intro h
   refine zxm.pick (P:=InN a.Owner 0 (b.Owners - 1)) (fun q1=>?_) fun q1=>by rw[if_neg (by simp)]
   rw[if_pos rfl]
   refine zxm.pick (P:=InN a.Value 0 1000) (fun q2=>?_) fun q2=>by rw[if_neg (by simp)]
   rw[if_pos rfl]
   exact zxn.pick (fun q3=>absurd ⟨q1,q2,q3⟩ h) fun q3=>by rw[if_neg (by simp)]) (fun d=>by
  show zsB b (d+1) 0 _=_
  rw[zsB,if_neg (Int.lt_irrefl _)]) (d:=1000000) (by omega)
 by_cases c5:∀p∈b.Parcels,zxk b p
 rotate_left
 ·rw[if_neg fun h=>c5 h.2.1]; exact l2 c5
 refine(l1 c5).trans ?_
 obtain⟨m1,m2⟩:=zr4 (l:=b.Entries) (F:=fun d x=>prFault_L1 b d x) (ok:=zxj b) (bad:=some 1) (fin:=(zsA b).bind fun r569=>(if (1000:Int) < r569 then (some (3:Int)) else (some (0:Int)))) (fun d k a hk=>by
  have hkl:=(List.getElem?_eq_some_iff.1 hk).1
  have e1:prFault_L1 b (d+1) (k:Int)=(zsx b a).bind fun r561=>(if r561=true then (gd (zmE .i64 ((k:Int)+(1:Int))) (prFault_L1 b d ((k:Int)+(1:Int)))) else (some (1:Int))):=by
   rw[prFault_L1,if_pos (by omega),zrX hk,obs]
  rw[e1,zq0 (fI (by omega))]
  exact(zxr (by omega) (by omega) (by omega)).step (by rw[if_pos rfl]) (by rw[if_neg (by simp)])) (fun d=>by
  show prFault_L1 b (d+1) _=_
  rw[prFault_L1,if_neg (Int.lt_irrefl _)]) (d:=1000000) (by omega)
 by_cases c6:∀e∈b.Entries,zxj b e
 rotate_left
 ·rw[if_neg fun h=>c6 h.2.2]; exact m2 c6
 refine(m1 c6).trans ?_;rw[if_pos ⟨⟨hl,by omega⟩,c5,c6⟩,zxH (by omega) (by omega) hl.2 c5 c6,obs]
 by_cases c7:1000 < zxs 1 (zxE b)
 ·rw[if_pos (by omega),if_pos c7]
 ·rw[if_neg (by omega),if_neg c7]
end
end Go.Proofs.YtlkgdadfbfafcaaGreat

namespace Go.Proofs.YtlkgdadfbfafcaaGreat
open _root_.Go.Proofs.Tryz
open Go.Abs
set_option maxRecDepth 100000
noncomputable section
def zxL:O6:={ o0:=false,o1:=false,o2:=false,o3:=false,o4:=false,o5:=false }
def zxM(m:M6):List Int:=[m.m0,m.m1,m.m2,m.m3,m.m4,m.m5]
def zxN(o:O6):List Bool:=[o.o0,o.o1,o.o2,o.o3,o.o4,o.o5]
def zxO(o:O6)(i:Nat):Bool:=(zxN o).getD i false
def en0:En:={ Kind:=0,Parcel:=0,Other:=0,From:=0,To:=0,Part:=0,Day:={ Lo:=0,Hi:=0 } }
def zxP(b:Boo)(i:Nat):En:=b.Entries.getD i en0
def mkC(b:Boo)(i:Nat):Int:=if (zxP b i).Kind=1 then (b.Parcels.length:Int)+zxg (b.Entries.take i) else 0
theorem zxQ{b:Boo}{i:Nat}{e:En}(h:b.Entries[i]? = some e):zxP b i=e:=by unfold zxP; rw[List.getD_eq_getElem?_getD,h]; rfl
theorem zxR{o:O6}{k:Nat}(hk:k < 6):([o.o0,o.o1,o.o2,o.o3,o.o4,o.o5]:List Bool)[k]? = some (zxO o k):=by
 have:k=0\/k=1\/k=2\/k=3\/k=4\/k=5:=by omega
 rcases this with rfl | rfl | rfl | rfl | rfl | rfl <;> rfl
structure zxS (w:Wk) (b:Boo) (O:O6):Prop where
 eb:w.b=b
 n:w.numbers=zxh b
 o:w.out=O
 m:∀i:Nat,i < b.Entries.length->(zxM w.makes)[i]? = some (mkC b i)
theorem zxT{l:List En}{k:Nat}{e:En}(h:l[k]? = some e):zxg (l.take (k+1))=zxg (l.take k)+if e.Kind=1 then 1 else 0:=by
 rw[List.take_add_one,h];unfold zxg;rw[List.filter_append,List.length_append]
 by_cases h1:e.Kind=1
 ·rw[if_pos h1]; simp[h1]
 ·rw[if_neg h1]; simp[h1]
theorem zxU{k:Nat}{v a0 a1 a2 a3 a4 a5:Int}(hk:k < 6):([sti (k:Int) 0 v a0,sti (k:Int) 1 v a1,sti (k:Int) 2 v a2,sti (k:Int) 3 v a3,sti (k:Int) 4 v a4,sti (k:Int) 5 v a5]:List Int)[k]? = some v/\∀i,i ≠ k->([sti (k:Int) 0 v a0,sti (k:Int) 1 v a1,sti (k:Int) 2 v a2,sti (k:Int) 3 v a3,sti (k:Int) 4 v a4,sti (k:Int) 5 v a5]:List Int)[i]? = ([a0,a1,a2,a3,a4,a5]:List Int)[i]?:=by
 have e:∀(j:Nat) (x:Int),sti (k:Int) j v x=if k=j then v else x:=fun j x=>by
  unfold sti
  by_cases h:k=j
  ·rw[if_pos h,if_pos (by omega)]
  ·rw[if_neg h,if_neg (by omega)]
 simp only[e]
 have:k=0\/k=1\/k=2\/k=3\/k=4\/k=5:=by omega
 rcases this with rfl | rfl | rfl | rfl | rfl | rfl <;> exact⟨rfl,fun i hi=>by rcases i with _ | _ | _ | _ | _ | _ | i <;> first | rfl | exact absurd rfl hi⟩
theorem zxV{b:Boo}(hl:b.Entries.length<=6)(hp:b.Parcels.length<=100):∀(d k:Nat) (n a0 a1 a2 a3 a4 a5:Int),k<=b.Entries.length->b.Entries.length - k < d->n=(b.Parcels.length:Int)+zxg (b.Entries.take k) ->
  (∀i:Nat,i < 6->([a0,a1,a2,a3,a4,a5]:List Int)[i]? = some (if i < k then mkC b i else 0)) ->
  ∃w,ztf b d b.Last b.Owners n a0 a1 a2 a3 a4 a5 false false false false false false (k:Int)=some w/\zxS w b zxL
 | 0,_,_,_,_,_,_,_,_,_,h,_,_=>by omega
 | d+1,k,n,a0,a1,a2,a3,a4,a5,hk,h,hn,hm=>by
  rw[ztf]
  by_cases hkn:k < b.Entries.length
  ·have hg:=List.getElem?_eq_getElem hkn;have hst:=zxT hg;have hr:=zxl (l:=b.Entries.take k)
   have hr2:(b.Entries.take k).length<=6:=by rw[List.length_take]; omega
   have hmk:mkC b k=if b.Entries[k].Kind=1 then (b.Parcels.length:Int)+zxg (b.Entries.take k) else 0:=by unfold mkC; rw[zxQ hg]
   rw[if_pos (by omega),zrX hg,obs]
   by_cases h1:b.Entries[k].Kind=1
   ·rw[if_pos h1] at hst hmk;obtain⟨s1,s2⟩:=zxU (k:=k) (v:=n) (a0:=a0) (a1:=a1) (a2:=a2) (a3:=a3) (a4:=a4) (a5:=a5) (by omega);rw[if_pos h1,zq0 (by omega),zq0 (fI (by omega)),zq0 (fI (by omega)),show(k:Int)+1=((k+1:Nat):Int) by omega];refine zxV hl hp d (k+1) (n+1) _ _ _ _ _ _ (by omega) (by omega) (by omega) fun i hi=>?_
    by_cases hik:i=k
    ·subst hik; rw[s1,hn,if_pos (by omega),hmk]
    ·rw[s2 i hik,hm i hi]
     by_cases h2:i < k
     ·rw[if_pos h2,if_pos (by omega)]
     ·rw[if_neg h2,if_neg (by omega)]
   ·rw[if_neg h1] at hst hmk;rw[if_neg h1,zq0 (fI (by omega)),show(k:Int)+1=((k+1:Nat):Int) by omega];refine zxV hl hp d (k+1) n _ _ _ _ _ _ (by omega) (by omega) (by omega) fun i hi=>?_;rw[hm i hi]
    by_cases hik:i=k
    ·subst hik; rw[if_neg (by omega),if_pos (by omega),hmk]
    ·by_cases h2:i < k
     ·rw[if_pos h2,if_pos (by omega)]
     ·rw[if_neg h2,if_neg (by omega)]
  ·rw[if_neg (by omega)]
   have hkl:k=b.Entries.length:=by omega
   subst hkl;rw[List.take_length] at hn
   exact⟨_,rfl,rfl,hn,rfl,fun i hi=>by
    have:=hm i (by omega)
    rw[if_pos hi] at this; exact this⟩
theorem zxW{b:Boo}(hl:b.Entries.length<=6)(hp:b.Parcels.length<=100):∃w,ztg b=some w/\zxS w b zxL:=
 zxV hl hp (b.Entries.length+1) 0 _ 0 0 0 0 0 0 (Nat.zero_le _) (by omega) (by show _=_+zxg []; unfold zxg; simp) fun i hi=>by
  rw[if_neg (by omega)]
  have:i=0\/i=1\/i=2\/i=3\/i=4\/i=5:=by omega
  rcases this with rfl | rfl | rfl | rfl | rfl | rfl <;> rfl
theorem zxX{n lo hi:Int}:Ev (zsW n lo hi) (InN n lo hi):=Ev.ite fun _=>Ev.dec Iff.rfl
theorem zxY{w:Wk}{n:Int}:Ev (zsZ w n) (InN n 0 w.b.Last):=zxX.ret
theorem zxZ{w:Wk}{r:Rg}:Ev (zs0 w r) (zxi w.b r):=
 (Ev.ite fun _=>zxY.and fun _=>zxY.ret).imp (by unfold InN zxi; omega)
theorem zx0{w:Wk}{n:Int}(ho:-1000<=w.b.Owners/\w.b.Owners<=1000):Ev (zsY w n) (InN n 0 (w.b.Owners - 1)):=Ev.gd (fI (by omega)) zxX.ret
theorem zx1{w:Wk}{n:Int}(ho:0<=w.numbers/\w.numbers<=1000):Ev (zsX w n) (InN n 0 (w.numbers - 1)):=Ev.gd (fI (by omega)) zxX.ret
theorem zx2{w:Wk}{p:Pc}(ho:-1000<=w.b.Owners/\w.b.Owners<=1000):Ev (zs2 w p) (zxk w.b p):=(zx0 ho).and fun _=>zxX.and fun _=>zxZ.ret
theorem zx3{w:Wk}{e:En}(hw:w.numbers=zxh w.b)(hn:0<=w.numbers/\w.numbers<=1000)(ho:-1000<=w.b.Owners/\w.b.Owners<=1000)(he:zsk e):Ev (zs1 w e) (zxj w.b e):=by
 obtain⟨f1,f2,f3,f4,f5,f6,f7,f8⟩:=he;have fz:zmE .i64 0:=fI (by omega);unfold zs1
 simp only[zq0 f1,zq0 f2,zq0 f3,zq0 f4,zq0 f5,zq0 f6,zq0 f7,zq0 f8,zq0 fz]
 refine((zx1 hn).and (K:=zxi w.b e.Day/\zgo w.b e) fun _=>zxZ.and fun _=>?_).imp (by rw[hw]; unfold zxj; constructor <;> (rintro⟨a,b,c⟩; exact⟨b,a,c⟩))
 unfold zgo;rw[<- hw]
 by_cases k0:e.Kind=0
 ·rw[if_pos k0];refine((zx0 ho).and fun _=>(zx0 ho).and fun _=>Ev.itn (K:=e.Part=0/\e.Other=0) fun _=>Ev.mk' (by simp; exact And.comm)).imp ?_
  simp[k0]
 ·rw[if_neg k0]
  by_cases k1:e.Kind=1
  ·rw[if_pos k1];refine(zxX.and (K:=e.Other=0/\e.From=0/\e.To=0) fun _=>Ev.mk' (by simp)).imp ?_
   simp[k1]
   constructor
   ·rintro⟨a,b,c,d⟩; exact⟨c,d,b,a⟩
   ·rintro⟨c,d,b,a⟩; exact⟨a,b,c,d⟩
  ·rw[if_neg k1]
   by_cases k2:e.Kind=2
   ·rw[if_pos k2];refine((zx1 hn).and fun _=>Ev.itn (K:=e.From=0/\e.To=0/\e.Part=0) fun _=>Ev.mk' (by simp)).imp ?_
    simp[k2]
    constructor
    ·rintro⟨a,b,c,d,f⟩; exact⟨c,d,f,a,b⟩
    ·rintro⟨c,d,f,a,b⟩; exact⟨a,b,c,d,f⟩
   ·rw[if_neg k2]
    by_cases k3:e.Kind=3
    ·rw[if_pos k3];refine(Ev.mk' (P:=e.Other=0/\e.From=0/\e.To=0/\e.Part=0) (by simp)).imp ?_
     simp[k3]
     constructor
     ·rintro⟨a,b,c,d⟩; exact⟨b,c,d,a⟩
     ·rintro⟨b,c,d,a⟩; exact⟨a,b,c,d⟩
    ·rw[if_neg k3];exact Ev.ff (by simp[k0,k1,k2,k3])
theorem gP{l:List Pc}{p:Pc->Option Bool}:∀{d:Nat} {x:Int},zs4 l p d x=gIdx l p d x
 | 0,_=>rfl
 | d+1,x=>by unfold zs4 gIdx; simp only[gP]
theorem gE{l:List En}{p:En->Option Bool}:∀{d:Nat} {x:Int},zs9 l p d x=gIdx l p d x
 | 0,_=>rfl
 | d+1,x=>by unfold zs9 gIdx; simp only[gE]
theorem zx4{w:Wk}{b:Boo}{O:O6}(hw:zxS w b O)(h1:b.Entries.length<=6)(h2:b.Parcels.length<=4)(ho:-1000<=b.Owners/\b.Owners<=1000)(hE:∀e∈b.Entries,zsk e):Ev (ztd w) (zxI b):=by
 have e1:=hw.eb;subst e1;have hr:=zxq (b:=w.b) (by omega) (by omega);have hn:=hw.n;refine(zxX.and fun _=>Ev.ite fun _=>(Ev.each (q:=zxk w.b) (fun a _=>zx2 ho) (by omega) gP).and fun _=>(Ev.each (q:=zxj w.b) (fun a ha=>zx3 hn (by omega) ho (hE a ha)) (by omega) gE).ret).imp ?_;unfold zxI;rw[and_assoc]
def zx5(o:Bool)(r:Rg):Rg:=if o=true then { Lo:=r.Lo,Hi:=r.Lo } else r
def zx6(b:Boo)(o:Nat->Bool)(k:Nat):List Rg:=(List.range k).map fun i=>zx5 (o i) (zxP b i).Day
def zx7(b:Boo)(o:Nat->Bool):List Rg:=zx6 b o b.Entries.length++b.Parcels.map (·.Sown)
theorem zx8{b:Boo}{o:Nat->Bool}{k:Nat}:zx6 b o (k+1)=zx6 b o k++[zx5 (o k) (zxP b k).Day]:=by
 unfold zx6;rw[List.range_succ,List.map_append]; rfl
theorem zx9{b:Boo}{o:Nat->Bool}{k:Nat}:(zx6 b o k).length=k:=by unfold zx6; rw[List.length_map,List.length_range]
theorem zya{i:Nat}:zxO zxL i=false:=by
 rcases i with _ | _ | _ | _ | _ | _ | i <;> rfl
theorem zyb{b:Boo}{o:Nat->Bool}(ho:∀i,i < b.Entries.length->o i=false):zx7 b o=zxE b:=by
 unfold zx7 zxE zx6
 congr 1
 refine List.ext_getElem (by rw[List.length_map,List.length_map,List.length_range]) fun i h1 h2=>?_;rw[List.length_map,List.length_range] at h1;rw[List.getElem_map,List.getElem_map,List.getElem_range,ho i h1,zxQ (List.getElem?_eq_getElem h1)]; rfl
theorem zyc{w:Wk}{b:Boo}{O:O6}(hw:zxS w b O)(h1:b.Entries.length<=6)(h2:b.Parcels.length<=100):ztj w=some (zx7 b (zxO O)):=by
 have e1:=hw.eb;subst e1;unfold ztj
 have key0:∀(d k:Nat),k<=w.b.Entries.length->w.b.Entries.length - k < d->zti w d (zx6 w.b (zxO O) k) (k:Int)=zth w (w.b.Parcels.length+1) (zx6 w.b (zxO O) w.b.Entries.length) 0:=by
  intro d
  induction d with
  | zero=>intro k _ h; omega
  | succ d ih=>
   intro k hk h;have hlen:=zx9 (b:=w.b) (o:=zxO O) (k:=k);rw[zti]
   by_cases hkn:k < w.b.Entries.length
   ·have hg:=List.getElem?_eq_getElem hkn
    have ho:([w.out.o0,w.out.o1,w.out.o2,w.out.o3,w.out.o4,w.out.o5]:List Bool)[k]? = some (zxO O k):=by
     rw[hw.o]; exact zxR (by omega)
    have ih:=ih (k+1) (by omega) (by omega);rw[zx8,zxQ hg] at ih;rw[if_pos (by omega),zrX hg,obs,zrX ho,obs]
    cases hb:zxO O k with
    | true=>
     rw[hb] at ih;rw[if_pos rfl,zq0 (by omega),zq0 (fI (by omega)),show(k:Int)+1=((k+1:Nat):Int) by omega];exact ih
    | false=>
     rw[hb] at ih;rw[if_neg (by simp),zq0 (by omega),zq0 (fI (by omega)),show(k:Int)+1=((k+1:Nat):Int) by omega];exact ih
   ·have hkl:k=w.b.Entries.length:=by omega
    subst hkl;rw[if_neg (by omega)]
 have key:∀(d k:Nat) (acc:List Rg),k<=w.b.Parcels.length->w.b.Parcels.length - k < d->acc.length<=100+k->zth w d acc (k:Int)=some (acc++(w.b.Parcels.drop k).map (·.Sown)):=by
  intro d
  induction d with
  | zero=>intro k _ _ h; omega
  | succ d ih=>
   intro k acc hk h ha;rw[zth]
   by_cases hkn:k < w.b.Parcels.length
   ·have hg:=List.getElem?_eq_getElem hkn;rw[if_pos (by omega),zrX hg,obs,zq0 (by omega),zq0 (fI (by omega)),show(k:Int)+1=((k+1:Nat):Int) by omega,ih (k+1) _ (by omega) (by omega) (by rw[List.length_append,List.length_singleton]; omega),List.drop_eq_getElem_cons hkn,List.map_cons,List.append_assoc]; rfl
   ·rw[if_neg (by omega),List.drop_eq_nil_of_le (by omega)]; simp
 have e0:=key0 (w.b.Entries.length+1) 0 (Nat.zero_le _) (by omega);refine e0.trans ((key (w.b.Parcels.length+1) 0 _ (Nat.zero_le _) (by omega) (by rw[zx9]; omega)).trans rfl)
theorem zyd{S:Nat}{l:List Rg}(hS:1<=S/\S<=1000)(hz:zxu S l)(hr:∀r∈l,okR r)(hl:l.length<=100):∀(d k:Nat) (x:Nat),k<=l.length->l.length - k < d->x * S ^ (l.length - k)<=1000000000000000000->ztl l d (x:Int) (k:Int)=some (zxs (x:Int) (l.drop k))
 | 0,_,_,_,h,_=>by omega
 | d+1,k,x,hk,h,hx=>by
  rw[ztl]
  by_cases hkn:k < l.length
  ·have hg:=List.getElem?_eq_getElem hkn;have hm:=List.getElem_mem hkn;have hs:=hz _ hm;have ho:=hr _ hm;unfold okR at ho;have hsd:l[k].Hi - l[k].Lo+1=szR l[k]:=rfl
   have es:ztk l[k]=some (szR l[k]):=by unfold ztk; rw[zq0 (fI (by omega)),zq0 (fI (by omega))]; rfl
   obtain⟨z,hz'⟩:∃z:Nat,szR l[k]=(z:Int):=⟨(szR l[k]).toNat,by omega⟩;rw[hz'] at hs es
   have hzS:z<=S:=by omega
   have e1:l.length - k=(l.length - (k+1))+1:=by omega
   rw[e1,Nat.pow_succ] at hx
   have hx2:x * z * S ^ (l.length - (k+1))<=x * (S ^ (l.length - (k+1)) * S):=by
    rw[Nat.mul_comm (S ^ _) S,<- Nat.mul_assoc];exact Nat.mul_le_mul_right _ (Nat.mul_le_mul_left _ hzS)
   have hp:1<=S ^ (l.length - (k+1)):=Nat.pow_pos (by omega);have hx3:x * z<=x * z * S ^ (l.length - (k+1)):=Nat.le_mul_of_pos_right _ hp;have ec:(x:Int) * (z:Int)=((x * z:Nat):Int):=(Int.natCast_mul x z).symm;rw[if_pos (by omega),zrX hg,obs,es,obs,zq0 (by omega),zq0 (by omega),ec,zq0 (fI (by omega)),zq0 (fI (by omega)),show(k:Int)+1=((k+1:Nat):Int) by omega,zyd hS hz hr hl d (k+1) (x * z) (by omega) (by omega) (by omega),List.drop_eq_getElem_cons hkn,zxw,hz',ec]
  ·rw[if_neg (by omega),List.drop_eq_nil_of_le (by omega)]; rfl
theorem zye{S:Nat}{l:List Rg}(hS:1<=S/\S<=1000)(hz:zxu S l)(hr:∀r∈l,okR r)(hl:l.length<=100)(hp:S ^ l.length<=1000000000000000000):ztm l=some (zxs 1 l):=
 zyd hS hz hr hl (l.length+1) 0 1 (Nat.zero_le _) (by omega) (by rw[Nat.one_mul]; exact hp)
theorem zyf{b:Boo}(hb:zsm b):ztn b=some (zxJ b):=by
 obtain⟨f1,f2,⟨f3,f4⟩,f5,f6⟩:=hb;unfold ztn zxJ
 have et:zte b=some (decide (4 < b.Owners\/4 < b.Parcels.length\/6 < b.Entries.length)):=by
  unfold zte
  by_cases c1:4 < b.Owners
  ·rw[if_pos c1,decide_eq_true (.inl c1)]
  rw[if_neg c1]
  by_cases c2:4 < b.Parcels.length
  ·rw[if_pos (by omega),decide_eq_true (.inr (.inl c2))]
  rw[if_neg (by omega)];exact congrArg some (decide_eq_decide.2 (by omega))
 rw[et,obs]
 by_cases c1:4 < b.Owners\/4 < b.Parcels.length\/6 < b.Entries.length
 ·rw[if_pos (decide_eq_true c1),if_pos c1]
 rw[if_neg (by simpa using c1),if_neg c1];obtain⟨w,hw,ww⟩:=zxW (b:=b) (by omega) (by omega);rw[hw,obs]
 by_cases c2:b.Owners < 1
 ·have:¬ zxI b:=fun h=>by have:=h.1.2; omega
  rw[if_neg this]
  have e2:ztd w=some false:=by
   have hb:=ww.eb;unfold ztd
   refine zxX.pick (P:=InN w.b.Last 0 30) (fun _=>?_) fun _=>by rw[if_neg (by simp)]
   rw[if_pos rfl,if_neg (by rw[hb]; omega)]
  rw[e2,obs,if_neg (by simp)]
 refine(zx4 ww (by omega) (by omega) (by omega) f6).pick (fun h=>?_) fun h=>by rw[if_neg (by simp),if_neg h]
 obtain⟨hz,hr⟩:=zxG h.1.1.2 h.2.1 h.2.2
 have hl:(zxE b).length<=10:=by unfold zxE; rw[List.length_append,List.length_map,List.length_map]; omega
 rw[if_pos rfl,if_pos h,zyc ww (by omega) (by omega),zyb (fun i _=>zya),obs,zye (S:=31) (by omega) hz hr (by omega) (Nat.le_trans (Nat.pow_le_pow_right (by omega) hl) (by decide)),obs]
 by_cases c7:1000 < zxs 1 (zxE b)
 ·rw[if_pos c7,if_pos c7]
 ·rw[if_neg c7,if_neg c7]
def insR(a:Evt):List Evt->List Evt
 | []=>[a]
 | x::r=>if a.on < x.on then x::insR a r else a::x::r
def zyg(p:List Evt)(a:Evt):List Evt:=(insR a p.reverse).reverse
def zyh(l:List Evt):List Evt:=l.foldl zyg []
theorem zyi{q:List Evt}{x a:Evt}:zyg (q++[x]) a=if a.on < x.on then zyg q a++[x] else q++[x,a]:=by
 unfold zyg;rw[List.reverse_append]
 show(insR a (x::q.reverse)).reverse=_
 rw[insR]
 by_cases h:a.on < x.on
 ·rw[if_pos h,if_pos h,List.reverse_cons]
 ·rw[if_neg h,if_neg h]; simp
theorem zyj{a:Evt}:∀{r:List Evt},(insR a r).Perm (a::r)
 | []=>List.Perm.refl _
 | x::r=>by
  unfold insR
  split
  ·exact((zyj (r:=r)).cons x).trans (List.Perm.swap a x r)
  ·exact List.Perm.refl _
theorem zyk{p:List Evt}{a:Evt}:(zyg p a).Perm (p++[a]):=
 (List.reverse_perm _).trans (zyj.trans (((List.reverse_perm p).cons a).trans (List.perm_append_singleton a p).symm))
theorem zyl{p:List Evt}{a:Evt}:(zyg p a).length=p.length+1:=by rw[zyk.length_eq,List.length_append]; rfl
theorem zym:∀{l p:List Evt},(l.foldl zyg p).Perm (p++l)
 | [],p=>by rw[List.append_nil]; exact List.Perm.refl _
 | a::l,p=>by
  refine(zym (l:=l) (p:=zyg p a)).trans ?_;refine(zyk.append_right l).trans ?_;rw[List.append_assoc]; exact List.Perm.refl _
theorem zyn{l:List Evt}:(zyh l).Perm l:=zym
theorem zyo{l:List Evt}:(zyh l).length=l.length:=zyn.length_eq
theorem zyp{a b:Evt}:ztx a b=some (if a.on < b.on then -1 else if b.on < a.on then 1 else 0):=by
 unfold ztx ztw ztv
 simp only[obs]
 simp only[decide_true,Bool.not_true,Bool.false_eq_true,if_false]
 by_cases h1:a.on < b.on
 ·rw[if_pos h1,if_pos h1]; rfl
 ·rw[if_neg h1,if_neg h1]
  by_cases h2:b.on < a.on
  ·rw[if_pos h2,if_pos h2]; rfl
  ·rw[if_neg h2,if_neg h2]; rfl
theorem zyq{K:Int->List Evt->Option (Unit × List Evt)}{x1:Int}(hx:0<=x1/\x1<=1000000)(a:Evt):∀(n:Nat) (d:Nat) (p s:List Evt),p.length=n->n < d->n<=1000000 ->
  zty 0 (fun a b=>ztx a b) x1 K d (n:Int) (p++a::s)=K (x1+1) (zyg p a++s)
 | 0,0,_,_,_,h,_=>by omega
 | 0,d+1,p,s,hp,h,hn=>by
  rw[zty,if_neg (by omega),zq0 (fI (by omega)),List.eq_nil_of_length_eq_zero hp]; rfl
 | n+1,0,_,_,_,h,_=>by omega
 | n+1,d+1,p,s,hp,h,hn=>by
  have hne:p ≠ []:=fun h=>by rw[h] at hp; cases hp
  obtain⟨q,x,rfl⟩:∃q x,p=q++[x]:=⟨p.dropLast,p.getLast hne,(List.dropLast_concat_getLast hne).symm⟩
  have hq:q.length=n:=by rw[List.length_append] at hp; exact Nat.succ.inj hp
  have e1:(q++[x])++a::s=q++x::a::s:=by rw[List.append_assoc]; rfl
  rw[e1]
  have g1:(q++x::a::s)[n+1]? = some a:=by rw[List.getElem?_append_right (by omega)]; rw[show n+1 - q.length=1 by omega]; rfl
  have g0:(q++x::a::s)[n]? = some x:=by rw[List.getElem?_append_right (by omega)]; rw[show n - q.length=0 by omega]; rfl
  have g1i:idx (q++x::a::s) ((n+1:Nat):Int)=some a:=zrX g1
  have g0i:idx (q++x::a::s) (((n+1:Nat):Int) - 1)=some x:=by rw[show((n+1:Nat):Int) - 1=(n:Int) by omega]; exact zrX g0
  rw[zty,if_pos (by omega),g1i,obs,zq0 (fI (by omega)),g0i,obs,zyp,obs,zyi]
  by_cases hc:a.on < x.on
  ·have s1:(q++x::a::s).set (Int.toNat ((n+1:Nat):Int)) x=q++x::x::s:=by
    rw[Int.toNat_natCast,List.set_append_right _ _ (by omega),show n+1 - q.length=1 by omega]; rfl
   have g2:idx (q++x::x::s) (((n+1:Nat):Int) - 1)=some x:=by
    rw[show((n+1:Nat):Int) - 1=(n:Int) by omega];exact zrX (by rw[List.getElem?_append_right (by omega),show n - q.length=0 by omega]; rfl)
   have s2:(q++x::x::s).set (Int.toNat (((n+1:Nat):Int) - 1)) a=q++a::x::s:=by
    rw[show(((n+1:Nat):Int) - 1).toNat=n by omega,List.set_append_right _ _ (by omega),show n - q.length=0 by omega]; rfl
   rw[if_pos hc,if_pos (by omega),zq0 (fI (by omega)),zq0 (fI (by omega)),obs,obs,obs,s1,g2,obs,zq0 (fI (by omega)),s2,if_pos hc,show((n+1:Nat):Int) - 1=(n:Int) by omega,zyq hx a n d q (x::s) hq (by omega) (by omega)];rw[List.append_assoc]; rfl
  ·have hz:¬ (if a.on < x.on then (-1:Int) else if x.on < a.on then 1 else 0) < 0:=by
    rw[if_neg hc]; split <;> omega
   rw[if_neg hz,zq0 (fI (by omega)),if_neg hc];rw[List.append_assoc]; rfl
theorem zyr{n:Nat}(hn:n<=1000):∀(zlq p:List Evt) (d:Nat),p.length+zlq.length=n->zlq.length < d->ztz 0 (n:Int) (fun a b=>ztx a b) d (p.length:Int) (p++zlq)=some ((),zlq.foldl zyg p)
 | _,_,0,_,h=>by omega
 | [],p,d+1,hl,h=>by
  rw[ztz,if_neg (by simp at hl; omega),List.append_nil]; rfl
 | a::zlq,p,d+1,hl,h=>by
  have hl':p.length+(zlq.length+1)=n:=hl;rw[ztz,if_pos (by omega),zyq (by omega) a p.length 1000000 p zlq rfl (by omega) (by omega)]
  have e:(p.length:Int)+1=((zyg p a).length:Int):=by rw[zyl]; rfl
  rw[e,zyr hn zlq (zyg p a) d (by rw[zyl]; omega) (by have h':zlq.length+1 < d+1:=h; omega)]; rfl
theorem zys{l:List Evt}(hl:l.length<=19):ztI l (fun a b=>ztx a b)=some ((),zyh l):=by
 unfold ztI ztH;rw[ztG,if_neg (by omega)]
 have key:ztA l 0 (l.length:Int) (fun a b=>ztx a b)=some ((),zyh l):=by
  unfold ztA;rw[zq0 (fI (by omega))]
  cases l with
  | nil=>
   rw[ztz,if_neg (by simp)]; rfl
  | cons a r=>
   have hl':r.length+1<=19:=hl;have:=zyr (n:=r.length+1) (by omega) r [a] ((((r.length+1:Nat):Int) - (0+1)).toNat+1) (by simp; omega) (by omega);exact this
 rw[key,obs,show((l.length:Int) - 20).toNat+1=1 by omega,ztF,if_neg (by omega)]
 rfl
def dF(l:List Int)(i:Nat):Int:=l.getD i 0
def zyt(b:Boo)(D:Nat->Int)(i:Nat):Evt:={ e:=zxP b i,on:=D i,makes:=mkC b i }
def evK(b:Boo)(D:Nat->Int)(o:Nat->Bool)(k:Nat):List Evt:=((List.range k).filter fun i=>!o i).map (zyt b D)
def evI(b:Boo)(D:Nat->Int)(o:Nat->Bool):List Evt:=evK b D o b.Entries.length
theorem zyu{b:Boo}{D:Nat->Int}{o:Nat->Bool}{k:Nat}:evK b D o (k+1)=evK b D o k++if o k=true then [] else [zyt b D k]:=by
 unfold evK;rw[List.range_succ,List.filter_append,List.map_append]
 cases h:o k <;> simp[h]
theorem zyv{b:Boo}{D:Nat->Int}{o:Nat->Bool}{k:Nat}:(evK b D o k).length<=k:=by
 unfold evK;rw[List.length_map];have:=List.length_filter_le (fun i=>!o i) (List.range k);rw[List.length_range] at this; exact this
theorem zyw{b:Boo}{D:Nat->Int}{o:Nat->Bool}{x:Evt}:x∈evI b D o↔∃i,i < b.Entries.length/\o i=false/\zyt b D i=x:=by
 unfold evI evK;rw[List.mem_map]
 constructor
 ·rintro⟨i,h1,h2⟩
  rw[List.mem_filter,List.mem_range] at h1;exact⟨i,h1.1,by simpa using h1.2,h2⟩
 ·rintro⟨i,h1,h2,h3⟩
  exact⟨i,List.mem_filter.2 ⟨List.mem_range.2 h1,by simp[h2]⟩,h3⟩
theorem zyx{b:Boo}{D E:Nat->Int}{o:Nat->Bool}(h:∀i,i < b.Entries.length->o i=false->D i=E i):evI b D o=evI b E o:=by
 unfold evI evK;refine List.map_congr_left fun i hi=>?_;rw[List.mem_filter,List.mem_range] at hi;unfold zyt;rw[h i hi.1 (by simpa using hi.2)]
theorem zyy{w:Wk}{b:Boo}{O:O6}(hw:zxS w b O){days:List Int}(hl:b.Entries.length<=6)(hd:days.length=b.Entries.length):ztK w days=some (zyh (evI b (dF days) (zxO O))):=by
 have e1:=hw.eb;subst e1;unfold ztK;rw[zq0 (by omega)]
 have key:∀(d k:Nat),k<=w.b.Entries.length->w.b.Entries.length - k < d->ztJ w days d (evK w.b (dF days) (zxO O) k) (k:Int)=some (zyh (evI w.b (dF days) (zxO O))):=by
  intro d
  induction d with
  | zero=>intro k _ h; omega
  | succ d ih=>
   intro k hk h;have hlen:=zyv (b:=w.b) (D:=dF days) (o:=zxO O) (k:=k);rw[ztJ]
   by_cases hkn:k < w.b.Entries.length
   ·have hg:=List.getElem?_eq_getElem hkn;have hgd:=List.getElem?_eq_getElem (l:=days) (show k < days.length by omega);have hgm:=hw.m k hkn
    have ho:([w.out.o0,w.out.o1,w.out.o2,w.out.o3,w.out.o4,w.out.o5]:List Bool)[k]? = some (zxO O k):=by
     rw[hw.o]; exact zxR (by omega)
    have em:idx ([w.makes.m0,w.makes.m1,w.makes.m2,w.makes.m3,w.makes.m4,w.makes.m5]:List Int) (k:Int)=some (mkC w.b k):=zrX hgm;have ih:=ih (k+1) (by omega) (by omega);rw[zyu] at ih
    have ed:days[k]=dF days k:=by unfold dF; rw[List.getD_eq_getElem?_getD,hgd]; rfl
    rw[if_pos (by omega),zrX hg,obs,zrX ho,obs]
    cases hb:zxO O k with
    | true=>
     rw[hb,if_pos rfl,List.append_nil] at ih;rw[if_pos rfl,zq0 (fI (by omega)),show(k:Int)+1=((k+1:Nat):Int) by omega];exact ih
    | false=>
     rw[hb,if_neg (by simp)] at ih;rw[if_neg (by simp),zrX hgd,obs,em,obs,zq0 (by rw[Int.toNat_natCast]; omega),zq0 (fI (by omega)),show(k:Int)+1=((k+1:Nat):Int) by omega,ed];unfold zyt zxP at ih;rw[List.getD_eq_getElem?_getD,hg] at ih;exact ih
   ·have hkl:k=w.b.Entries.length:=by omega
    subst hkl;rw[if_neg (by omega)];unfold evI;rw[zys (by omega)]; rfl
    all_goals (intros; simp_all)
 exact key (w.b.Entries.length+1) 0 (Nat.zero_le _) (by omega)
def pl0:Pl:={ owner:=0,value:=0,there:=false,harvested:=false,sown:=0 }
def zyz:List Pl:=List.replicate 10 pl0
def zyA(s:List Pl)(i:Int):Pl:=s.getD i.toNat pl0
def zyB(p:Pl):Bool:=p.there && !p.harvested
def zyC(s:List Pl)(e:Evt):Bool × List Pl:=
 let x:=zyA s e.e.Parcel
 if zyB x=false then (false,s)
 else if e.e.Kind=0 then (if x.owner=e.e.From then (true,s.set e.e.Parcel.toNat { x with owner:=e.e.To }) else (false,s))
 else if e.e.Kind=1 then (if x.value<=e.e.Part then (false,s) else (true,(s.set e.e.Parcel.toNat { x with value:=x.value - e.e.Part }).set e.makes.toNat { x with value:=e.e.Part }))
 else if e.e.Kind=2 then (let y:=zyA s e.e.Other; if zyB y=false then (false,s) else if x.owner=y.owner then (false,s) else (true,(s.set e.e.Parcel.toNat { x with owner:=y.owner }).set e.e.Other.toNat { y with owner:=x.owner }))
 else (if e.on < x.sown then (false,s) else (true,s.set e.e.Parcel.toNat { x with harvested:=true }))
structure zyD (e:Evt):Prop where
 p:0<=e.e.Parcel/\e.e.Parcel < 10
 k:e.e.Kind=0\/e.e.Kind=1\/e.e.Kind=2\/e.e.Kind=3
 m:e.e.Kind=1->(0<=e.makes/\e.makes < 10)/\1<=e.e.Part/\e.e.Part<=1000
 o:e.e.Kind=2->(0<=e.e.Other/\e.e.Other < 10)/\e.e.Other ≠ e.e.Parcel
def zyE(s:List Pl):Prop:=s.length=10/\∀p∈s,0<=p.value/\p.value<=1000
theorem zyF{s:List Pl}(hs:s.length=10){i:Int}(hi:0<=i/\i < 10):idx s i=some (zyA s i):=by
 have hk:i.toNat < s.length:=by omega
 have hg:=List.getElem?_eq_getElem hk;unfold zyA;rw[List.getD_eq_getElem?_getD,hg];have:=zrX hg;rw[show((i.toNat:Nat):Int)=i by omega] at this;exact this
theorem zyG{s:List Pl}(hs:s.length=10){i j:Int}(hi:0<=i/\i < 10)(hj:0<=j/\j < 10){v:Pl}:zyA (s.set i.toNat v) j=if i=j then v else zyA s j:=by
 unfold zyA;rw[List.getD_eq_getElem?_getD,List.getD_eq_getElem?_getD,List.getElem?_set]
 by_cases h:i=j
 ·subst h; rw[if_pos rfl,if_pos (by omega),if_pos rfl]; rfl
 ·rw[if_neg (by omega),if_neg h]
theorem zyH{p:Pl}:zto p=some (zyB p):=by
 unfold zto zyB
 cases p.there <;> rfl
theorem zyI{s:List Pl}(hs:zyE s){e:Evt}(he:zyD e){β:Type}{f:Bool × List Pl->Option β}:((ztC e.e.Kind).bind fun r=>(r.happen s e).bind f)=f (zyC s e):=by
 have hl:=hs.1;have hx:=zyF hl he.p
 have hxm:zyA s e.e.Parcel∈s:=by
  unfold zyA;rw[List.getD_eq_getElem?_getD,List.getElem?_eq_getElem (show e.e.Parcel.toNat < s.length by have:=he.p; omega)];exact List.getElem_mem _
 have hv:=hs.2 _ hxm;unfold ztC zyC
 dsimp only
 rcases he.k with k | k | k | k
 ·rw[if_pos k,obs]
  show(ztp s e).bind f=_
  unfold ztp;rw[zq0 he.p,zq0 hl,hx,obs,zyH,obs]
  cases hst:zyB (zyA s e.e.Parcel) with
  | false=>rw[if_neg (show ¬ (false=true) by decide),if_pos rfl]; rfl
  | true=>
   rw[if_pos rfl,if_neg (show ¬ (true=false) by decide),if_pos k]
   by_cases ho:(zyA s e.e.Parcel).owner=e.e.From
   ·rw[if_pos ho,if_pos ho]; rfl
   ·rw[if_neg ho,if_neg ho]; rfl
 ·rw[if_neg (by omega),if_pos k,obs]
  show(ztq s e).bind f=_
  obtain⟨hm,hp⟩:=he.m k;unfold ztq;rw[zq0 he.p,zq0 hl,hx,obs,zyH,obs]
  cases hst:zyB (zyA s e.e.Parcel) with
  | false=>rw[if_neg (show ¬ (false=true) by decide),if_pos rfl]; rfl
  | true=>
   rw[if_pos rfl,if_neg (show ¬ (true=false) by decide),if_neg (show ¬ e.e.Kind=0 by omega),if_pos k]
   by_cases ho:(zyA s e.e.Parcel).value<=e.e.Part
   ·rw[if_pos ho,if_pos ho]; rfl
   ·rw[if_neg ho,if_neg ho,zq0 (fI (by omega)),zq0 hm,zyF (by rw[List.length_set]; exact hl) hm]; rfl
 ·rw[if_neg (by omega),if_neg (by omega),if_pos k,obs]
  show(ztr s e).bind f=_
  obtain⟨hm,hne⟩:=he.o k;unfold ztr;rw[zq0 he.p,zq0 hm,zq0 hl,hx,obs,zyH,obs]
  cases hst:zyB (zyA s e.e.Parcel) with
  | false=>rw[if_neg (show ¬ (false=true) by decide),if_pos rfl]; rfl
  | true=>
   rw[if_pos rfl,if_neg (show ¬ (true=false) by decide),if_neg (show ¬ e.e.Kind=0 by omega),if_neg (show ¬ e.e.Kind=1 by omega),if_pos k,zyF hl hm,obs,zyH,obs]
   cases hst2:zyB (zyA s e.e.Other) with
   | false=>rw[if_neg (show ¬ (false=true) by decide),if_pos rfl]; rfl
   | true=>
    rw[if_pos rfl,if_neg (show ¬ (true=false) by decide)]
    by_cases ho:(zyA s e.e.Parcel).owner=(zyA s e.e.Other).owner
    ·rw[if_pos ho,if_pos ho]; rfl
    ·rw[if_neg ho,if_neg ho,zyF (by rw[List.length_set]; exact hl) hm,obs,zyG hl he.p hm,if_neg (Ne.symm hne)]; rfl
 ·rw[if_neg (by omega),if_neg (by omega),if_neg (by omega),if_pos k,obs]
  show(zts s e).bind f=_
  unfold zts;rw[zq0 he.p,zq0 hl,hx,obs,zyH,obs]
  cases hst:zyB (zyA s e.e.Parcel) with
  | false=>rw[if_neg (show ¬ (false=true) by decide),if_pos rfl]; rfl
  | true=>
   rw[if_pos rfl,if_neg (show ¬ (true=false) by decide),if_neg (show ¬ e.e.Kind=0 by omega),if_neg (show ¬ e.e.Kind=1 by omega),if_neg (show ¬ e.e.Kind=2 by omega)]
   by_cases ho:e.on < (zyA s e.e.Parcel).sown
   ·rw[if_pos ho,if_pos ho]; rfl
   ·rw[if_neg ho,if_neg ho]; rfl
theorem zyE.set{s:List Pl}(h:zyE s){i:Nat}{v:Pl}(hv:0<=v.value/\v.value<=1000):zyE (s.set i v):=
 ⟨by rw[List.length_set]; exact h.1,fun p hp=>by
  rcases List.mem_or_eq_of_mem_set hp with h' | h'
  ·exact h.2 p h'
  ·rw[h']; exact hv⟩
theorem zyE.at{s:List Pl}(h:zyE s)(i:Int):0<=(zyA s i).value/\(zyA s i).value<=1000:=by
 unfold zyA;rw[List.getD_eq_getElem?_getD]
 cases hg:s[i.toNat]? with
 | none=>exact⟨by decide,by decide⟩
 | some x=>exact h.2 x (List.mem_of_getElem? hg)
theorem zyJ{s:List Pl}(hs:zyE s){e:Evt}(he:zyD e):zyE (zyC s e).2:=by
 have hv:=hs.at e.e.Parcel;have hv2:=hs.at e.e.Other;unfold zyC
 dsimp only
 split
 ·exact hs
 split
 ·split
  ·exact hs.set hv
  ·exact hs
 split
 ·rename_i k1
  obtain⟨_,hp⟩:=he.m k1
  split
  ·exact hs
  ·exact(hs.set (by dsimp only; omega)).set (by dsimp only; omega)
 split
 ·split
  ·exact hs
  split
  ·exact hs
  ·exact(hs.set (by dsimp only; exact hv)).set (by dsimp only; exact hv2)
 split
 ·exact hs
 ·exact hs.set hv
def stepsN(day:Int):List Evt->List Pl->List Pl->List Pl × Bool
 | [],out,_=>(out,true)
 | e::l,out,now=>if (zyC now e).1=true then stepsN day l (if e.on<=day then (zyC now e).2 else out) (zyC now e).2 else (zyz,false)
theorem zyK:zyE zyz:=⟨rfl,fun p hp=>by rw[List.eq_of_mem_replicate hp]; exact⟨by decide,by decide⟩⟩
theorem zyL{day:Int}:∀{l:List Evt} {out now:List Pl},(∀e∈l,zyD e)->zyE out->zyE now->zyE (stepsN day l out now).1
 | [],_,_,_,h,_=>h
 | e::l,out,now,hl,h,hn=>by
  unfold stepsN;have h2:=zyJ hn (hl e (List.mem_cons_self ..))
  split
  ·refine zyL (fun e he=>hl e (List.mem_cons_of_mem _ he)) ?_ h2
   split
   ·exact h2
   ·exact h
  ·exact zyK
theorem zyM{day:Int}{L:List Evt}(hL:∀e∈L,zyD e)(hln:L.length<=1000):∀(d k:Nat) (out now:List Pl),k<=L.length->L.length - k < d->zyE out->zyE now->ztL day L d out now (k:Int)=some (stepsN day (L.drop k) out now)
 | 0,_,_,_,_,h,_,_=>by omega
 | d+1,k,out,now,hk,h,ho,hn=>by
  rw[ztL]
  by_cases hkn:k < L.length
  ·have hg:=List.getElem?_eq_getElem hkn;have he:=hL _ (List.getElem_mem hkn);have h2:=zyJ hn he;rw[if_pos (by omega),zrX hg,obs,zyI hn he,List.drop_eq_getElem_cons hkn,stepsN]
   by_cases hb:(zyC now L[k]).1=true
   ·rw[if_pos hb,if_pos hb]
    by_cases hd:L[k].on<=day
    ·rw[if_pos hd,zq0 ⟨ho.1,h2.1⟩,zq0 (fI (by omega)),show(k:Int)+1=((k+1:Nat):Int) by omega,zyM hL hln d (k+1) _ _ (by omega) (by omega) h2 h2,if_pos hd]
    ·rw[if_neg hd,zq0 (fI (by omega)),show(k:Int)+1=((k+1:Nat):Int) by omega,zyM hL hln d (k+1) _ _ (by omega) (by omega) ho h2,if_neg hd]
   ·rw[if_neg hb,if_neg hb]; rfl
  ·rw[if_neg (by omega),List.drop_eq_nil_of_le (by omega)]; rfl
def zyN(p:Pc)(s:Int):Pl:={ owner:=p.Owner,value:=p.Value,there:=true,harvested:=false,sown:=s }
def zyO:List Pc->List Int->List Pl
 | p::ps,s::ss=>zyN p s::zyO ps ss
 | _,_=>[]
theorem zyP:∀{ps:List Pc} {ss:List Int},ss.length=ps.length->(zyO ps ss).length=ps.length
 | [],_,_=>rfl
 | _::_,[],h=>by cases h
 | p::ps,s::ss,h=>by simp[zyO,zyP (Nat.succ.inj h)]
def zyQ(b:Boo)(sown:List Int):List Pl:=zyO b.Parcels sown++List.replicate (10 - b.Parcels.length) pl0
theorem zyR{b:Boo}{sown:List Int}(hl:b.Parcels.length<=4)(hs:sown.length=b.Parcels.length)(hP:∀p∈b.Parcels,zxk b p):zyE (zyQ b sown):=by
 unfold zyQ;refine⟨by rw[List.length_append,zyP hs,List.length_replicate]; omega,fun p hp=>?_⟩
 rcases List.mem_append.1 hp with h | h
 ·have key:∀(ps:List Pc) (ss:List Int),p∈zyO ps ss->∃q∈ps,p.value=q.Value:=by
   intro ps
   induction ps with
   | nil=>intro ss h; simp[zyO] at h
   | cons q ps ih=>
    intro ss h
    cases ss with
    | nil=>simp[zyO] at h
    | cons s ss=>
     rcases List.mem_cons.1 h with rfl | h
     ·exact⟨q,List.mem_cons_self ..,rfl⟩
     ·obtain⟨q',h1,h2⟩:=ih ss h; exact⟨q',List.mem_cons_of_mem _ h1,h2⟩
  obtain⟨q,h1,h2⟩:=key _ _ h;rw[h2]; exact(hP q h1).2.1
 ·rw[List.eq_of_mem_replicate h]; exact⟨by decide,by decide⟩
theorem zyS{w:Wk}{b:Boo}{O:O6}(hw:zxS w b O){sown:List Int}(hl:b.Parcels.length<=4)(hs:sown.length=b.Parcels.length):ztu w sown=some (zyQ b sown):=by
 have e1:=hw.eb;subst e1
 have key:∀(d k:Nat) (pre:List Pl),k<=w.b.Parcels.length->w.b.Parcels.length - k < d->pre.length=k->ztt w sown d (pre++List.replicate (10 - k) pl0) (k:Int)=some (pre++zyO (w.b.Parcels.drop k) (sown.drop k)++List.replicate (10 - w.b.Parcels.length) pl0):=by
  intro d
  induction d with
  | zero=>intro k _ _ h; omega
  | succ d ih=>
   intro k pre hk h hp;rw[ztt]
   by_cases hkn:k < w.b.Parcels.length
   ·have hg:=List.getElem?_eq_getElem hkn;have hg2:=List.getElem?_eq_getElem (l:=sown) (show k < sown.length by omega)
    have hlen:(pre++List.replicate (10 - k) pl0).length=10:=by rw[List.length_append,List.length_replicate]; omega
    have hset:(pre++List.replicate (10 - k) pl0).set (Int.toNat (k:Int)) (zyN w.b.Parcels[k] sown[k])=(pre++[zyN w.b.Parcels[k] sown[k]])++List.replicate (10 - (k+1)) pl0:=by
     rw[Int.toNat_natCast,List.set_append_right _ _ (by omega),hp,Nat.sub_self,show 10 - k=(10 - (k+1))+1 by omega,List.replicate_succ,List.append_assoc]; rfl
    rw[if_pos (by omega),zrX hg,obs,zrX hg2,obs,zq0 (by omega),zq0 hlen,zyF hlen (by omega),obs,zq0 (fI (by omega)),show(k:Int)+1=((k+1:Nat):Int) by omega];refine(congrArg (fun y=>ztt w sown d y ((k+1:Nat):Int)) hset).trans ?_;rw[ih (k+1) _ (by omega) (by omega) (by rw[List.length_append,hp]; rfl),List.drop_eq_getElem_cons hkn,List.drop_eq_getElem_cons (l:=sown) (show k < sown.length by omega),zyO,List.append_assoc pre]; rfl
   ·rw[if_neg (by omega)]
    have hk':k=w.b.Parcels.length:=by omega
    subst hk';rw[List.drop_length]
    show some _=some (pre++[]++_)
    rw[List.append_nil]
 exact key (w.b.Parcels.length+1) 0 [] (Nat.zero_le _) (by omega) rfl
theorem zyT{b:Boo}(h1:b.Entries.length<=6)(h2:b.Parcels.length<=4)(hE:∀e∈b.Entries,zxj b e){D:Nat->Int}{o:Nat->Bool}:∀x∈evI b D o,zyD x/\x.e.Parcel < zxh b/\(x.e.Kind=1->x.makes < zxh b)/\(x.e.Kind=2->x.e.Other < zxh b):=by
 intro x hx;obtain⟨i,a1,a2,rfl⟩:=zyw.1 hx;have hg:=List.getElem?_eq_getElem a1;have he:zxP b i=b.Entries[i]:=zxQ hg;obtain⟨d1,d2,d3⟩:=hE _ (List.getElem_mem a1);rw[<- he] at d1 d2 d3;have hr:=zxl (l:=b.Entries);unfold InN at d2;unfold zgo at d3;have hev:zxh b=(b.Parcels.length:Int)+zxg b.Entries:=rfl
 have hm:(zxP b i).Kind=1->0<=mkC b i/\mkC b i < zxh b:=fun k=>by
  unfold mkC;rw[if_pos k];have hr2:=zxl (l:=b.Entries.take i);have hst:=zxT hg;rw[<- he,if_pos k] at hst
  have hmono:zxg (b.Entries.take (i+1))<=zxg b.Entries:=by
   unfold zxg;have:=(List.take_sublist (i+1) b.Entries).filter (fun e=>decide (e.Kind=1));have:=this.length_le
   omega
  omega
 refine⟨⟨by show 0<=(zxP b i).Parcel/\(zxP b i).Parcel < 10; omega,?_,fun k=>?_,fun k=>?_⟩,by show(zxP b i).Parcel < _; omega,fun k=>(hm k).2,fun k=>?_⟩
 ·rcases d3 with h | h | h | h
  ·exact .inl h.1
  ·exact .inr (.inl h.1)
  ·exact .inr (.inr (.inl h.1))
  ·exact .inr (.inr (.inr h.1))
 ·have hm:=hm k;have k:(zxP b i).Kind=1:=k;refine⟨⟨hm.1,by show mkC b i < 10; omega⟩,?_⟩
  rcases d3 with h | h | h | h
  ·omega
  ·exact h.2.2.2.2
  ·omega
  ·omega
 ·have k:(zxP b i).Kind=2:=k
  rcases d3 with h | h | h | h
  ·omega
  ·omega
  ·have h4:=h.2.2.2.2.1; unfold InN at h4; exact⟨by show 0<=(zxP b i).Other/\(zxP b i).Other < 10; omega,h.2.2.2.2.2⟩
  ·omega
 ·have k:(zxP b i).Kind=2:=k
  rcases d3 with h | h | h | h
  ·omega
  ·omega
  ·have h4:=h.2.2.2.2.1; unfold InN at h4; show(zxP b i).Other < _; omega
  ·omega
theorem zyU{w:Wk}{b:Boo}{O:O6}(hw:zxS w b O)(h1:b.Entries.length<=6)(h2:b.Parcels.length<=4)(hP:∀p∈b.Parcels,zxk b p)(hE:∀e∈b.Entries,zxj b e){t:Tr}(hd:t.Days.length=b.Entries.length)(hs:t.Sown.length=b.Parcels.length){day:Int} :
  ztM w t day=some (stepsN day (zyh (evI b (dF t.Days) (zxO O))) (zyQ b t.Sown) (zyQ b t.Sown))/\zyE (stepsN day (zyh (evI b (dF t.Days) (zxO O))) (zyQ b t.Sown) (zyQ b t.Sown)).1:=by
 have hst:=zyR h2 hs hP;have hev:∀e∈zyh (evI b (dF t.Days) (zxO O)),zyD e:=fun e he=>(zyT h1 h2 hE e (zyn.mem_iff.1 he)).1
 have hlen:(zyh (evI b (dF t.Days) (zxO O))).length<=6:=by rw[zyo]; exact Nat.le_trans zyv h1
 refine⟨?_,zyL hev hst hst⟩;unfold ztM;rw[zyS hw h2 hs,obs,zq0 ⟨rfl,hst.1⟩,zyy hw h1 hd,obs];exact zyM hev (by omega) _ 0 _ _ (Nat.zero_le _) (Nat.lt_succ_self _) hst hst
theorem zyV:∀{rs:List Rg} {xs:List Int},inR rs xs↔xs.length=rs.length/\∀(j:Nat) r x,rs[j]? = some r->xs[j]? = some x->r.Lo<=x/\x<=r.Hi
 | [],[]=>⟨fun _=>⟨rfl,fun j r x h=>by simp at h⟩,fun _=>trivial⟩
 | [],_::_=>⟨fun h=>h.elim,fun h=>by simp at h⟩
 | _::_,[]=>⟨fun h=>h.elim,fun h=>by simp at h⟩
 | r::rs,x::xs=>by
  have ih:=zyV (rs:=rs) (xs:=xs)
  show(r.Lo<=x/\x<=r.Hi)/\inR rs xs↔_
  rw[ih]
  constructor
  ·rintro⟨h1,h2,h3⟩
   refine⟨by simp[h2],fun j r' x' hr hx=>?_⟩
   cases j with
   | zero=>cases hr; cases hx; exact h1
   | succ j=>exact h3 j r' x' hr hx
  ·rintro⟨h1,h2⟩
   exact⟨h2 0 r x rfl rfl,by simpa using h1,fun j r' x' hr hx=>h2 (j+1) r' x' hr hx⟩
def wkN(b:Boo):Wk:=(ztg b).getD { b:=b,numbers:=0,makes:=⟨0,0,0,0,0,0⟩,out:=zxL }
theorem zyW{b:Boo}(hl:b.Entries.length<=6)(hp:b.Parcels.length<=100):ztg b=some (wkN b)/\zxS (wkN b) b zxL:=by
 obtain⟨w,h1,h2⟩:=zxW hl hp;unfold wkN;rw[h1]; exact⟨rfl,h2⟩
theorem zyX{b:Boo}:zxJ b=0↔(b.Owners<=4/\b.Parcels.length<=4/\b.Entries.length<=6)/\zxI b/\zxs 1 (zxE b)<=1000:=by
 unfold zxJ
 by_cases c1:4 < b.Owners\/4 < b.Parcels.length\/6 < b.Entries.length
 ·rw[if_pos c1]; exact⟨fun h=>absurd h (by omega),fun h=>by omega⟩
 ·rw[if_neg c1]
  by_cases c2:zxI b
  ·rw[if_pos c2]
   by_cases c3:1000 < zxs 1 (zxE b)
   ·rw[if_pos c3]; exact⟨fun h=>absurd h (by omega),fun h=>by omega⟩
   ·rw[if_neg c3]; exact⟨fun _=>⟨by omega,c2,by omega⟩,fun _=>rfl⟩
  ·rw[if_neg c2]; exact⟨fun h=>absurd h (by omega),fun h=>absurd h.2.1 c2⟩
section
variable {b:Boo} (hb:zsm b)
include hb
end
end
end Go.Proofs.YtlkgdadfbfafcaaGreat

namespace Go.Proofs.YtlkgdadfbfafcaaGreat
open _root_.Go.Proofs.Tryz
open Go.Abs
set_option maxRecDepth 100000
noncomputable section
def onB(d:Nat)(e:Evt):Bool:=decide (e.on=(d:Int))
def bkN(l:List Evt):Nat->List Evt
 | 0=>[]
 | n+1=>bkN l n++l.filter (onB n)
theorem zyY{l:List Evt}{x:Evt}:∀{n:Nat},x∈bkN l n↔x∈l/\0<=x.on/\x.on < n
 | 0=>⟨fun h=>by simp[bkN] at h,fun h=>by omega⟩
 | n+1=>by
  rw[bkN,List.mem_append,zyY (n:=n),List.mem_filter];unfold onB;rw[decide_eq_true_iff]
  constructor
  ·rintro (⟨h1,h2,h3⟩ | ⟨h1,h2⟩)
   ·exact⟨h1,h2,by omega⟩
   ·exact⟨h1,by omega,by omega⟩
  ·rintro⟨h1,h2,h3⟩
   by_cases h:x.on=n
   ·exact .inr ⟨h1,h⟩
   ·exact .inl ⟨h1,h2,by omega⟩
theorem zyZ{α:Type}{P:List α->Prop}(h0:P [])(h1:∀q x,P q->P (q++[x]))(l:List α):P l:=by
 rw[<- List.reverse_reverse l]
 induction l.reverse with
 | nil=>exact h0
 | cons a l ih=>rw[List.reverse_cons]; exact h1 _ _ ih
theorem zy0{p:List Evt}{a:Evt}:∀{q:List Evt},(∀x∈q,a.on < x.on)->zyg (p++q) a=zyg p a++q:=by
 intro q;refine zyZ (P:=fun q=>(∀x∈q,a.on < x.on)->zyg (p++q) a=zyg p a++q) (fun _=>by rw[List.append_nil,List.append_nil]) (fun q x ih h=>?_) q;rw[<- List.append_assoc,zyi,if_pos (h x (by simp)),ih fun y hy=>h y (by simp[hy]),List.append_assoc]
theorem zy1{a:Evt}{p:List Evt}:(∀x∈p,x.on<=a.on)->zyg p a=p++[a]:=by
 refine zyZ (P:=fun p=>(∀x∈p,x.on<=a.on)->zyg p a=p++[a]) (fun _=>rfl) (fun q x _ h=>?_) p;have:=h x (by simp);rw[zyi,if_neg (by omega),List.append_assoc]; rfl
theorem zy2{l:List Evt}{a:Evt}(h0:0<=a.on):∀{n:Nat},bkN (l++[a]) n=if a.on < n then zyg (bkN l n) a else bkN l n
 | 0=>by rw[if_neg (by omega)]; rfl
 | n+1=>by
  rw[bkN,bkN,zy2 h0 (n:=n),List.filter_append]
  by_cases h1:a.on < n
  ·have e:[a].filter (onB n)=[]:=by unfold onB; rw[List.filter_cons,if_neg (by rw[decide_eq_true_iff]; omega)]; rfl
   rw[if_pos h1,if_pos (by omega),e,List.append_nil,zy0 fun x hx=>?_];have:=(List.mem_filter.1 hx).2;unfold onB at this;rw[decide_eq_true_iff] at this; omega
  ·rw[if_neg h1]
   by_cases h2:a.on=n
   ·have e:[a].filter (onB n)=[a]:=by unfold onB; rw[List.filter_cons,if_pos (by rw[decide_eq_true_iff]; omega)]; rfl
    rw[if_pos (by omega),e,<- List.append_assoc];refine(zy1 fun x hx=>?_).symm
    rcases List.mem_append.1 hx with h | h
    ·have:=zyY.1 h; omega
    ·have:=(List.mem_filter.1 h).2;unfold onB at this;rw[decide_eq_true_iff] at this; omega
   ·have e:[a].filter (onB n)=[]:=by unfold onB; rw[List.filter_cons,if_neg (by rw[decide_eq_true_iff]; omega)]; rfl
    rw[if_neg (by omega),e,List.append_nil]
theorem zy3:∀{n:Nat},bkN [] n=[]
 | 0=>rfl
 | n+1=>by rw[bkN,zy3]; rfl
theorem zy4{N:Nat}:∀{l q:List Evt},(∀x∈l,0<=x.on/\x.on < N)->l.foldl zyg (bkN q N)=bkN (q++l) N
 | [],q,_=>by rw[List.append_nil]; rfl
 | a::l,q,h=>by
  have ha:=h a (List.mem_cons_self ..)
  show l.foldl zyg (zyg (bkN q N) a)=_
  have e:=zy2 (l:=q) ha.1 (n:=N);rw[if_pos ha.2] at e;rw[<- e,zy4 fun x hx=>h x (List.mem_cons_of_mem _ hx),List.append_assoc]; rfl
theorem zy5{N:Nat}{l:List Evt}(h:∀x∈l,0<=x.on/\x.on < N):zyh l=bkN l N:=by
 have:=zy4 (q:=[]) h;rw[zy3,List.nil_append] at this;exact this
theorem zy6{l:List Evt}{n:Nat}:∀{k:Nat},∃t,bkN l (n+k)=bkN l n++t/\∀x∈t,(n:Int)<=x.on
 | 0=>⟨[],by rw[List.append_nil]; rfl,fun x h=>by simp at h⟩
 | k+1=>by
  obtain⟨t,h1,h2⟩:=zy6 (l:=l) (n:=n) (k:=k);refine⟨t++l.filter (onB (n+k)),by rw[<- Nat.add_assoc,bkN,h1,List.append_assoc],fun x hx=>?_⟩
  rcases List.mem_append.1 hx with h | h
  ·exact h2 x h
  ·have:=(List.mem_filter.1 h).2;unfold onB at this;rw[decide_eq_true_iff] at this; omega
def zy7:List Evt->List Pl->Option (List Pl)
 | [],s=>some s
 | e::l,s=>if (zyC s e).1=true then zy7 l (zyC s e).2 else none
theorem zy8{day:Int}:∀{l k:List Evt} {s:List Pl},(∀x∈l,x.on<=day)->stepsN day (l++k) s s=match zy7 l s with | some s'=>stepsN day k s' s' | none=>(zyz,false)
 | [],_,_,_=>rfl
 | e::l,k,s,h=>by
  have he:=h e (List.mem_cons_self ..)
  show(if _ then _ else _)=match (if _ then _ else _:Option (List Pl)) with | some s'=>_ | none=>_
  by_cases hc:(zyC s e).1=true
  ·rw[if_pos hc,if_pos hc,if_pos he];exact zy8 fun x hx=>h x (List.mem_cons_of_mem _ hx)
  ·rw[if_neg hc,if_neg hc]
theorem zy9{day:Int}:∀{l:List Evt} {o s:List Pl},(∀x∈l,day < x.on)->stepsN day l o s=match zy7 l s with | some _=>(o,true) | none=>(zyz,false)
 | [],_,_,_=>rfl
 | e::l,o,s,h=>by
  have he:=h e (List.mem_cons_self ..)
  show(if _ then _ else _)=match (if _ then _ else _:Option (List Pl)) with | some s'=>_ | none=>_
  by_cases hc:(zyC s e).1=true
  ·rw[if_pos hc,if_pos hc,if_neg (by omega)];exact zy9 fun x hx=>h x (List.mem_cons_of_mem _ hx)
  ·rw[if_neg hc,if_neg hc]
def fd0:Fd:={ There:=false,Gone:=false,Owner:=0,Value:=0,Sown:=0 }
def plF(x:Fd):Pl:={ owner:=x.Owner,value:=x.Value,there:=x.There,harvested:=x.Gone,sown:=x.Sown }
def sOf(l:List Fd):List Pl:=l.map plF++List.replicate (10 - l.length) pl0
def zza(l:List Fd)(i:Int):Fd:=l.getD i.toNat fd0
def zzb(x:Fd):Bool:=x.There && !x.Gone
def zzc(l:List Fd)(e:Evt):Bool × List Fd:=
 let x:=zza l e.e.Parcel
 if zzb x=false then (false,l)
 else if e.e.Kind=0 then (if x.Owner=e.e.From then (true,l.set e.e.Parcel.toNat { x with Owner:=e.e.To }) else (false,l))
 else if e.e.Kind=1 then (if x.Value<=e.e.Part then (false,l) else (true,(l.set e.e.Parcel.toNat { x with Value:=x.Value - e.e.Part }).set e.makes.toNat { x with Value:=e.e.Part }))
 else if e.e.Kind=2 then (let y:=zza l e.e.Other; if zzb y=false then (false,l) else if x.Owner=y.Owner then (false,l) else (true,(l.set e.e.Parcel.toNat { x with Owner:=y.Owner }).set e.e.Other.toNat { y with Owner:=x.Owner }))
 else (if e.on < x.Sown then (false,l) else (true,l.set e.e.Parcel.toNat { x with Gone:=true }))
structure EvF (n:Nat) (e:Evt):Prop where
 p:0<=e.e.Parcel/\e.e.Parcel < n
 k:e.e.Kind=0\/e.e.Kind=1\/e.e.Kind=2\/e.e.Kind=3
 m:e.e.Kind=1->(0<=e.makes/\e.makes < n)/\1<=e.e.Part/\e.e.Part<=1000
 o:e.e.Kind=2->(0<=e.e.Other/\e.e.Other < n)/\e.e.Other ≠ e.e.Parcel
theorem zzd{l:List Fd}{i:Int}(hi:0<=i/\i < l.length):zyA (sOf l) i=plF (zza l i):=by
 have hk:i.toNat < l.length:=by omega
 unfold zyA sOf zza;rw[List.getD_eq_getElem?_getD,List.getD_eq_getElem?_getD,List.getElem?_append_left (by rw[List.length_map]; exact hk),List.getElem?_map,List.getElem?_eq_getElem hk]; rfl
theorem zze{l:List Fd}{i:Int}{v:Fd}{p:Pl}(hp:p=plF v)(hi:0<=i/\i < l.length):(sOf l).set i.toNat p=sOf (l.set i.toNat v):=by
 subst hp;unfold sOf;rw[List.set_append_left _ _ (by rw[List.length_map]; omega),List.length_set,List.map_set]
theorem zzf{l:List Fd}{i j:Int}{v w:Fd}{p q:Pl}(hp:p=plF v)(hq:q=plF w)(hi:0<=i/\i < l.length)(hj:0<=j/\j < l.length):((sOf l).set i.toNat p).set j.toNat q=sOf ((l.set i.toNat v).set j.toNat w):=by
 rw[zze hp hi,zze hq (by rw[List.length_set]; exact hj)]
theorem zzg{l:List Fd}{e:Evt}:(zzc l e).2.length=l.length:=by
 unfold zzc
 dsimp only
 repeat' split
 all_goals simp only[List.length_set]
theorem zzh{l:List Fd}{e:Evt}(he:EvF l.length e):zyC (sOf l) e=((zzc l e).1,sOf (zzc l e).2):=by
 have hst:∀x:Fd,zyB (plF x)=zzb x:=fun _=>rfl;unfold zyC zzc
 dsimp only
 rw[zzd he.p,hst]
 by_cases c0:zzb (zza l e.e.Parcel)=false
 ·rw[if_pos c0,if_pos c0]
 rw[if_neg c0,if_neg c0]
 by_cases k0:e.e.Kind=0
 ·rw[if_pos k0,if_pos k0]
  by_cases c1:(zza l e.e.Parcel).Owner=e.e.From
  ·rw[if_pos c1,if_pos (show(plF (zza l e.e.Parcel)).owner=e.e.From from c1)]
   exact congrArg (Prod.mk true) (zze (v:={ zza l e.e.Parcel with Owner:=e.e.To }) rfl he.p)
  ·rw[if_neg c1,if_neg (show ¬ (plF (zza l e.e.Parcel)).owner=e.e.From from c1)]
 rw[if_neg k0,if_neg k0]
 by_cases k1:e.e.Kind=1
 ·have hm:=(he.m k1).1;rw[if_pos k1,if_pos k1]
  by_cases c1:(zza l e.e.Parcel).Value<=e.e.Part
  ·rw[if_pos c1,if_pos (show(plF (zza l e.e.Parcel)).value<=e.e.Part from c1)]
  ·rw[if_neg c1,if_neg (show ¬ (plF (zza l e.e.Parcel)).value<=e.e.Part from c1)]
   exact congrArg (Prod.mk true) (zzf (v:={ zza l e.e.Parcel with Value:=(zza l e.e.Parcel).Value - e.e.Part }) (w:={ zza l e.e.Parcel with Value:=e.e.Part }) rfl rfl he.p hm)
 rw[if_neg k1,if_neg k1]
 by_cases k2:e.e.Kind=2
 ·have hm:=(he.o k2).1;rw[if_pos k2,if_pos k2,zzd hm,hst]
  by_cases c1:zzb (zza l e.e.Other)=false
  ·rw[if_pos c1,if_pos c1]
  rw[if_neg c1,if_neg c1]
  by_cases c2:(zza l e.e.Parcel).Owner=(zza l e.e.Other).Owner
  ·rw[if_pos c2,if_pos (show(plF (zza l e.e.Parcel)).owner=(plF (zza l e.e.Other)).owner from c2)]
  ·rw[if_neg c2,if_neg (show ¬ (plF (zza l e.e.Parcel)).owner=(plF (zza l e.e.Other)).owner from c2)]
   exact congrArg (Prod.mk true) (zzf (v:={ zza l e.e.Parcel with Owner:=(zza l e.e.Other).Owner }) (w:={ zza l e.e.Other with Owner:=(zza l e.e.Parcel).Owner }) rfl rfl he.p hm)
 rw[if_neg k2,if_neg k2]
 by_cases c1:e.on < (zza l e.e.Parcel).Sown
 ·rw[if_pos c1,if_pos (show e.on < (plF (zza l e.e.Parcel)).sown from c1)]
 ·rw[if_neg c1,if_neg (show ¬ e.on < (plF (zza l e.e.Parcel)).sown from c1)]
  exact congrArg (Prod.mk true) (zze (v:={ zza l e.e.Parcel with Gone:=true }) rfl he.p)
def zzi:List Evt->List Fd->Option (List Fd)
 | [],s=>some s
 | e::l,s=>if (zzc s e).1=true then zzi l (zzc s e).2 else none
theorem zzj:∀{L:List Evt} {l:List Fd},(∀e∈L,EvF l.length e)->zy7 L (sOf l)=(zzi L l).map sOf
 | [],_,_=>rfl
 | e::L,l,h=>by
  show(if _ then _ else _)=(if _ then _ else _:Option _).map _
  rw[zzh (h e (List.mem_cons_self ..))]
  by_cases hc:(zzc l e).1=true
  ·rw[if_pos hc,if_pos hc]
   exact zzj fun x hx=>by rw[zzg]; exact h x (List.mem_cons_of_mem _ hx)
  ·rw[if_neg hc,if_neg hc]; rfl
theorem zzk:∀{l k:List Evt} {s:List Fd},zzi (l++k) s=(zzi l s).bind (zzi k)
 | [],_,_=>rfl
 | e::l,k,s=>by
  show(if _ then _ else _)=(if _ then _ else _:Option _).bind _
  split
  ·exact zzk
  ·rfl
theorem zzl:∀{L:List Evt} {l l':List Fd},zzi L l=some l'->l'.length=l.length
 | [],l,l',h=>by cases h; rfl
 | e::L,l,l',h=>by
  have h:(if _ then _ else _)=some l':=h
  split at h
  ·rw[zzl h,zzg]
  ·cases h
theorem zzm{L:List Evt}{N:Nat}{l:List Fd}{d:Nat}(hd:d < N)(hL:∀x∈L,0<=x.on/\x.on < N)(hE:∀e∈L,EvF l.length e) :
  stepsN (d:Int) (zyh L) (sOf l) (sOf l)=match zzi (bkN L (d+1)) l with
   | some s=>if (zzi (bkN L N) l).isSome then (sOf s,true) else (zyz,false)
   | none=>(zyz,false):=by
 obtain⟨t,h1,h2⟩:=zy6 (l:=L) (n:=d+1) (k:=N - (d+1));rw[show d+1+(N - (d+1))=N by omega] at h1;have hm:∀e∈bkN L N,EvF l.length e:=fun e he=>hE e (zyY.1 he).1;rw[zy5 hL,h1];rw[h1] at hm;rw[zy8 fun x hx=>by have:=zyY.1 hx; omega,zzj fun x hx=>hm x (List.mem_append_left _ hx),zzk]
 cases hr:zzi (bkN L (d+1)) l with
 | none=>rfl
 | some s=>
  show stepsN (d:Int) t (sOf s) (sOf s)=if (zzi t s).isSome=true then (sOf s,true) else (zyz,false)
  rw[zy9 fun x hx=>by have:=h2 x hx; omega,zzj fun x hx=>by rw[zzl hr]; exact hm x (List.mem_append_right _ hx)]
  cases zzi t s <;> rfl
def fdP:List Pc->List Int->List Fd
 | p::ps,s::ss=>{ There:=true,Gone:=false,Owner:=p.Owner,Value:=p.Value,Sown:=s } :: fdP ps ss
 | _,_=>[]
theorem zzn:∀{ps:List Pc} {ss:List Int},ss.length=ps.length->(fdP ps ss).length=ps.length
 | [],_,_=>rfl
 | _::_,[],h=>by cases h
 | p::ps,s::ss,h=>by simp[fdP,zzn (Nat.succ.inj h)]
theorem zzo:∀{ps:List Pc} {ss:List Int},zyO ps ss=(fdP ps ss).map plF
 | [],_=>rfl
 | _::_,[]=>rfl
 | p::ps,s::ss=>by rw[zyO,fdP,List.map_cons,zzo]; rfl
def zzp(b:Boo)(S:List Int):List Fd:=fdP b.Parcels S++List.replicate (zxg b.Entries).toNat fd0
theorem zzq{b:Boo}{S:List Int}(hs:S.length=b.Parcels.length):((zzp b S).length:Int)=zxh b:=by
 have:=zxl (l:=b.Entries);unfold zzp zxh;rw[List.length_append,zzn hs,List.length_replicate]; omega
theorem zzr{b:Boo}{S:List Int}(hs:S.length=b.Parcels.length)(h2:b.Parcels.length<=4)(h1:b.Entries.length<=6):zyQ b S=sOf (zzp b S):=by
 have:=zxl (l:=b.Entries);unfold zyQ sOf zzp;rw[zzo,List.map_append,List.map_replicate,List.length_append,zzn hs,List.length_replicate,List.append_assoc]
 show _=_++(List.replicate _ pl0++_)
 rw[List.replicate_append_replicate,show(zxg b.Entries).toNat+(10 - (b.Parcels.length+(zxg b.Entries).toNat))=10 - b.Parcels.length by omega]
theorem zzs{l:List Fd}{i:Int}(hi:0<=i/\i < l.length):idx l i=some (zza l i):=by
 have hk:i.toNat < l.length:=by omega
 have hg:=List.getElem?_eq_getElem hk;unfold zza;rw[List.getD_eq_getElem?_getD,hg];have:=zrX hg;rw[show((i.toNat:Nat):Int)=i by omega] at this;exact this
theorem zzt{l:List Fd}{i j:Int}(hi:0<=i/\i < l.length)(hj:0<=j/\j < l.length){v:Fd}:zza (l.set i.toNat v) j=if i=j then v else zza l j:=by
 unfold zza;rw[List.getD_eq_getElem?_getD,List.getD_eq_getElem?_getD,List.getElem?_set]
 by_cases h:i=j
 ·subst h; rw[if_pos rfl,if_pos (by omega),if_pos rfl]; rfl
 ·rw[if_neg (by omega),if_neg h]
theorem zzu{l:List Fd}(hs:zyE (sOf l)){i:Int}(hi:0<=i/\i < l.length):0<=(zza l i).Value/\(zza l i).Value<=1000:=by
 have:=hs.at i;rw[zzd hi] at this;exact this
theorem zzv{b:Boo}{i:Nat}(hi:i<=b.Entries.length)(hl:b.Entries.length<=100)(hp:b.Parcels.length<=100):zsv b (i:Int)=some ((b.Parcels.length:Int)+zxg (b.Entries.take i)):=by
 unfold zsv;have:=zxo hl (n:=(i:Int)) rfl hi hp ((i:Int).toNat+1) 0 (Nat.zero_le _) (by omega);have h0:zxg (b.Entries.take 0)=0:=rfl;rw[h0,Int.add_zero] at this;exact this
theorem zzw{b:Boo}{l:List Fd}{e:Evt}{i:Nat}(hg:b.Entries[i]? = some e.e)(em:e.e.Kind=1->zsv b (i:Int)=some e.makes)(hs:zyE (sOf l))(he:EvF l.length e):zsI b l (i:Int) e.on=some (zzc l e):=by
 have hP:0<=e.e.Parcel/\e.e.Parcel < l.length:=he.p;have hv:=zzu hs hP;have hK:e.e.Kind=0\/e.e.Kind=1\/e.e.Kind=2\/e.e.Kind=3:=he.k;unfold zsI zzc
 dsimp only
 rw[zrX hg,obs,zzs hP,obs]
 by_cases c0:(zza l e.e.Parcel).There=true
 rotate_left
 ·rw[if_neg c0,if_pos (show zzb _=false by unfold zzb; simp[c0])]
 rw[if_pos c0]
 by_cases c1:(zza l e.e.Parcel).Gone=true
 ·rw[if_pos c1,if_pos (show zzb _=false by unfold zzb; simp[c1])]
 rw[if_neg c1,if_neg (show ¬ zzb _=false by unfold zzb; simp[c0,c1])]
 by_cases k0:e.e.Kind=0
 ·rw[if_pos k0,if_pos k0]
  by_cases c2:(zza l e.e.Parcel).Owner=e.e.From
  ·rw[if_pos c2,if_pos c2]; rfl
  ·rw[if_neg c2,if_neg c2]
 rw[if_neg k0,if_neg k0]
 by_cases k1:e.e.Kind=1
 ·obtain⟨hm,hp1⟩:=he.m k1;have hm:0<=e.makes/\e.makes < l.length:=hm;have hp1:1<=e.e.Part/\e.e.Part<=1000:=hp1;rw[if_pos k1,if_pos k1]
  by_cases c2:(zza l e.e.Parcel).Value<=e.e.Part
  ·rw[if_pos c2,if_pos c2]
  ·rw[if_neg c2,if_neg c2,zq0 (fI (by omega)),obs,em k1,obs,zzs (by rw[List.length_set]; exact hm)]; rfl
 rw[if_neg k1,if_neg k1]
 by_cases k2:e.e.Kind=2
 ·obtain⟨hm,hne⟩:=he.o k2;have hm:0<=e.e.Other/\e.e.Other < l.length:=hm;have hne:e.e.Other ≠ e.e.Parcel:=hne;rw[if_pos k2,if_pos k2,zzs hm,obs]
  by_cases d0:(zza l e.e.Other).There=true
  rotate_left
  ·rw[if_neg d0,if_pos (show zzb _=false by unfold zzb; simp[d0])]
  rw[if_pos d0]
  by_cases d1:(zza l e.e.Other).Gone=true
  ·rw[if_pos d1,if_pos (show zzb _=false by unfold zzb; simp[d1])]
  rw[if_neg d1,if_neg (show ¬ zzb _=false by unfold zzb; simp[d0,d1])]
  by_cases c2:(zza l e.e.Parcel).Owner=(zza l e.e.Other).Owner
  ·rw[if_pos c2.symm,if_pos c2]
  ·rw[if_neg (Ne.symm c2),if_neg c2,obs,zzs (by rw[List.length_set]; exact hm),obs,zzt hP hm,if_neg (Ne.symm hne)]
 rw[if_neg k2,if_neg k2,if_pos (show e.e.Kind=3 by omega)]
 by_cases c2:e.on < (zza l e.e.Parcel).Sown
 ·rw[if_pos c2,if_pos c2]
 ·rw[if_neg c2,if_neg c2]; rfl
theorem zzx{b:Boo}{l:List Fd}{D:Nat->Int}{i:Nat}(hi:i < b.Entries.length)(hl:b.Entries.length<=100)(hp:b.Parcels.length<=100)(hs:zyE (sOf l))(he:EvF l.length (zyt b D i)):zsI b l (i:Int) (D i)=some (zzc l (zyt b D i)):=
 zzw (e:=zyt b D i) (by show _=some (zxP b i); rw[zxQ (List.getElem?_eq_getElem hi)]; exact List.getElem?_eq_getElem hi) (fun k=>by
  have k:(zxP b i).Kind=1:=k
  show _=some (mkC b i)
  rw[zzv (by omega) hl hp]; unfold mkC; rw[if_pos k]) hs he
theorem zzy{b:Boo}{t:Tr}(h1:b.Entries.length<=6)(h2:b.Parcels.length<=4)(hs:t.Sown.length=b.Parcels.length):zsH b t=some (zzp b t.Sown):=by
 have hr:=zxl (l:=b.Entries);have hev:zxh b=(b.Parcels.length:Int)+zxg b.Entries:=rfl;unfold zsH;rw[zxp (by omega) (by omega),obs,zq0 (by omega)]
 have key:∀(d k:Nat) (pre:List Fd),k<=b.Parcels.length->b.Parcels.length - k < d->pre.length=k->zsG b t d (k:Int) (pre++List.replicate ((zxh b).toNat - k) fd0)=some (pre++fdP (b.Parcels.drop k) (t.Sown.drop k)++List.replicate (zxg b.Entries).toNat fd0):=by
  intro d
  induction d with
  | zero=>intro k _ _ h; omega
  | succ d ih=>
   intro k pre hk h hp;rw[zsG]
   by_cases hkn:k < b.Parcels.length
   ·have hg:=List.getElem?_eq_getElem hkn;have hg2:=List.getElem?_eq_getElem (l:=t.Sown) (show k < t.Sown.length by omega)
    have e1:(zxh b).toNat - k=((zxh b).toNat - (k+1))+1:=by omega
    have hx:∃v,idx (pre++List.replicate ((zxh b).toNat - k) fd0) (k:Int)=some v:=⟨_,zrX (List.getElem?_eq_getElem (by rw[List.length_append,List.length_replicate]; omega))⟩;obtain⟨v,hx⟩:=hx
    have hset:(pre++List.replicate ((zxh b).toNat - k) fd0).set (Int.toNat (k:Int)) ({ There:=true,Gone:=false,Owner:=b.Parcels[k].Owner,Value:=b.Parcels[k].Value,Sown:=t.Sown[k] }:Fd)=(pre++[({ There:=true,Gone:=false,Owner:=b.Parcels[k].Owner,Value:=b.Parcels[k].Value,Sown:=t.Sown[k] }:Fd)])++List.replicate ((zxh b).toNat - (k+1)) fd0:=by
     rw[Int.toNat_natCast,List.set_append_right _ _ (by omega),hp,Nat.sub_self,e1,List.replicate_succ,List.append_assoc]; rfl
    rw[if_pos (by omega),zrX hg,obs,obs,zrX hg2,obs,hx,obs,zq0 (fI (by omega)),hset,show(k:Int)+1=((k+1:Nat):Int) by omega,ih (k+1) _ (by omega) (by omega) (by rw[List.length_append,hp]; rfl),List.drop_eq_getElem_cons hkn,List.drop_eq_getElem_cons (l:=t.Sown) (show k < t.Sown.length by omega),fdP,List.append_assoc pre]; rfl
   ·have hk':k=b.Parcels.length:=by omega
    subst hk';rw[if_neg (by omega),List.drop_length,show(zxh b).toNat - b.Parcels.length=(zxg b.Entries).toNat by omega]
    show some _=some (pre++[]++_)
    rw[List.append_nil]
 exact key 1000000 0 [] (Nat.zero_le _) (by omega) rfl
structure zzz (b:Boo):Prop where
 o4:b.Owners<=4
 p4:b.Parcels.length<=4
 e6:b.Entries.length<=6
 L:0<=b.Last/\b.Last<=30
 o1:1<=b.Owners
 P:∀p∈b.Parcels,zxk b p
 E:∀e∈b.Entries,zxj b e
 m:zxs 1 (zxE b)<=1000
theorem zzA{b:Boo}(h:zxJ b=0):zzz b:=by
 obtain⟨⟨a1,a2,a3⟩,⟨⟨a4,a5⟩,a6,a7⟩,a8⟩:=zyX.1 h;unfold InN at a4;exact⟨a1,a2,a3,a4,a5,a6,a7,a8⟩
def EvB(n:Nat)(x:Evt):Prop:=zyD x/\EvF n x
theorem zzB{b:Boo}(h:zzz b){D:Nat->Int}{o:Nat->Bool}{n:Nat}(hn:(n:Int)=zxh b):∀x∈evI b D o,EvB n x:=fun x hx=>by
 obtain⟨a1,a2,a3,a4⟩:=zyT h.e6 h.p4 h.E x hx;have hp:=a1.p;exact⟨a1,⟨by omega,a1.k,fun k=>⟨by have:=(a1.m k).1; have:=a3 k; omega,(a1.m k).2⟩,fun k=>⟨by have:=(a1.o k).1; have:=a4 k; omega,(a1.o k).2⟩⟩⟩
theorem zzC:∀{L:List Evt} {l l':List Fd},zyE (sOf l)->(∀e∈L,EvB l.length e)->zzi L l=some l'->zyE (sOf l')
 | [],l,l',hs,_,h=>by cases h; exact hs
 | e::L,l,l',hs,hL,h=>by
  have he:=hL e (List.mem_cons_self ..);have h:(if _ then _ else _)=some l':=h
  split at h
  ·refine zzC ?_ (fun x hx=>by rw[zzg]; exact hL x (List.mem_cons_of_mem _ hx)) h;have:=zyJ hs he.1;rw[zzh he.2] at this;exact this
  ·cases h
theorem zzD{b:Boo}{D:Nat->Int}{o:Nat->Bool}{k:Nat}:∀{n:Nat},k<=n->∃t,evK b D o n=evK b D o k++t
 | 0,h=>⟨[],by rw[show k=0 by omega,List.append_nil]⟩
 | n+1,h=>by
  by_cases hk:k=n+1
  ·subst hk; exact⟨[],by rw[List.append_nil]⟩
  ·obtain⟨t,ht⟩:=zzD (b:=b) (D:=D) (o:=o) (k:=k) (n:=n) (by omega);rw[zyu,ht,List.append_assoc];exact⟨_,rfl⟩
theorem zzE{b:Boo}(h:zzz b){S:List Int}(hs:S.length=b.Parcels.length):zyE (sOf (zzp b S)):=by
 rw[<- zzr hs h.p4 h.e6]; exact zyR h.p4 hs h.P
def zzF(out:Int)(o:Nat->Bool):Prop:=(0<=out/\out<=1000000)/\∀k:Nat,k < 6->(out / 2 ^ k % 2=0↔o k=false)
section
variable {b:Boo} (h:zzz b) {t:Tr} {day out:Int} {o:Nat->Bool} (ho:zzF out o) (hT:t.Days.length=b.Entries.length)
include h ho hT
theorem zzG{th l':List Fd}{b':Bool}{X:Nat}(hX:X<=100){K:List Fd->Bool->List Fd->Int->List Fd->Option (List Fd × Bool)}{y0:List Fd}(hs:zyE (sOf y0))(hn:(y0.length:Int)=zxh b):∀(d k:Nat) (y:List Fd),k<=b.Entries.length->b.Entries.length - k < d ->
  zzi ((evK b (dF t.Days) o k).filter (onB X)) y0=some y ->
  zsJ b t day out th (X:Int) K d l' b' (k:Int) y=match zzi ((evI b (dF t.Days) o).filter (onB X)) y0 with
   | some s=>if (X:Int)=day then K l' b' s ((X:Int)+1) s else K l' b' th ((X:Int)+1) s
   | none=>some ([],false)
 | 0,k,_,_,hd,_=>by omega
 | d+1,k,y,hk,hd,hy=>by
  have h6:=h.e6;have hall:=zzB h (D:=dF t.Days) (o:=o) hn;rw[zsJ]
  by_cases hkn:k < b.Entries.length
  ·have hgd:=List.getElem?_eq_getElem (l:=t.Days) (show k < t.Days.length by omega)
   have ed:t.Days[k]=dF t.Days k:=by unfold dF; rw[List.getD_eq_getElem?_getD,hgd]; rfl
   have hsucc:=zyu (b:=b) (D:=dF t.Days) (o:=o) (k:=k);have ih:=fun y'=>zzG (th:=th) (l':=l') (b':=b') hX (K:=K) hs hn d (k+1) y' (by omega) (by omega);rw[if_pos (by omega),zrX hgd,obs,ed]
   by_cases hx:dF t.Days k=(X:Int)
   ·have hw:zmJ .u64 (k:Int)=(k:Int):=wz (show(0:Int)<=k/\(k:Int) < 18446744073709551616 by omega);have hq0:0<=out / 2 ^ k:=Int.ediv_nonneg ho.1.1 (Int.le_of_lt (Int.pow_pos (by omega)));have hq1:out / 2 ^ k<=out:=Int.ediv_le_self _ ho.1.1;have hbit:=ho.2 k (by omega);have ho1:=ho.1;rw[if_pos hx,hw,Int.toNat_natCast];generalize out / 2 ^ k=q at hq0 hq1 hbit ⊢;rw[zq0 ho1.1,zq0 (by omega),zq0 (by omega),zq0 (fI (by omega)),zq0 hq0,zq0 (by omega),zq0 (fI (by omega))]
    by_cases hb:q % 2=0
    ·have hok:=hbit.1 hb;have hon:onB X (zyt b (dF t.Days) k)=true:=decide_eq_true hx;have hmem:zyt b (dF t.Days) k∈evI b (dF t.Days) o:=zyw.2 ⟨k,hkn,hok,rfl⟩;have hlen:y.length=y0.length:=zzl hy
     have hys:zyE (sOf y):=zzC hs (fun e he=>by
      obtain⟨t',ht'⟩:=zzD (b:=b) (D:=dF t.Days) (o:=o) (k:=k) (n:=b.Entries.length) hk;refine hall e ?_;unfold evI;rw[ht']
      exact List.mem_append_left _ (List.mem_filter.1 he).1) hy
     have hev:=hall _ hmem;rw[<- hlen] at hev;have hhap:=zzx (D:=dF t.Days) hkn (by omega) (by have:=h.p4; omega) hys hev.2;rw[hx] at hhap
     have hf:(evK b (dF t.Days) o (k+1)).filter (onB X)=(evK b (dF t.Days) o k).filter (onB X)++[zyt b (dF t.Days) k]:=by
      rw[hsucc,hok,if_neg (by simp),List.filter_append,List.filter_cons,if_pos hon]; rfl
     have hrun:zzi ((evK b (dF t.Days) o (k+1)).filter (onB X)) y0=if (zzc y (zyt b (dF t.Days) k)).1=true then some (zzc y (zyt b (dF t.Days) k)).2 else none:=by
      rw[hf,zzk,hy]; rfl
     rw[if_pos hb,hhap,obs]
     by_cases hc:(zzc y (zyt b (dF t.Days) k)).1=true
     ·rw[if_pos hc] at hrun;rw[if_pos hc,zq0 (fI (by omega)),show(k:Int)+1=((k+1:Nat):Int) by omega];exact ih _ hrun
     ·rw[if_neg hc] at hrun;rw[if_neg hc];obtain⟨t',ht'⟩:=zzD (b:=b) (D:=dF t.Days) (o:=o) (k:=k+1) (n:=b.Entries.length) (by omega)
      have:zzi ((evI b (dF t.Days) o).filter (onB X)) y0=none:=by
       unfold evI;rw[ht',List.filter_append,zzk,hrun]; rfl
      rw[this]
    ·have hok:o k=true:=by
      cases hq:o k with
      | true=>rfl
      | false=>exact absurd (hbit.2 hq) hb
     have hf:(evK b (dF t.Days) o (k+1)).filter (onB X)=(evK b (dF t.Days) o k).filter (onB X):=by
      rw[hsucc,hok,if_pos rfl,List.append_nil]
     rw[if_neg hb,zq0 (fI (by omega)),show(k:Int)+1=((k+1:Nat):Int) by omega];exact ih y (by rw[hf]; exact hy)
   ·have hon:¬ onB X (zyt b (dF t.Days) k)=true:=fun hh=>hx (of_decide_eq_true hh)
    have hf:(evK b (dF t.Days) o (k+1)).filter (onB X)=(evK b (dF t.Days) o k).filter (onB X):=by
     rw[hsucc]
     cases o k with
     | true=>rw[if_pos rfl,List.append_nil]
     | false=>rw[if_neg (by simp),List.filter_append,List.filter_cons,if_neg hon]; exact List.append_nil _
    rw[if_neg hx,zq0 (fI (by omega)),show(k:Int)+1=((k+1:Nat):Int) by omega];exact ih y (by rw[hf]; exact hy)
  ·have hkl:k=b.Entries.length:=by omega
   subst hkl;have hlen:y.length=y0.length:=zzl hy;have hr:=zxl (l:=b.Entries);have hev:zxh b=(b.Parcels.length:Int)+zxg b.Entries:=rfl;have hp4:=h.p4;rw[if_neg (by omega)]
   show _=match zzi ((evK b (dF t.Days) o b.Entries.length).filter (onB X)) y0 with | some s=>_ | none=>_
   rw[hy]
   show _=if _ then _ else _
   by_cases hx:(X:Int)=day
   ·rw[if_pos hx,if_pos hx,zq0 (by show 0+y.length<=_; omega),zq0 (fI (by omega))]; rfl
   ·rw[if_neg hx,if_neg hx,zq0 (fI (by omega))]
def thN(L:List Evt)(y0:List Fd)(day:Int)(X:Nat):List Fd:=if 0<=day/\day < X then (zzi (bkN L (day.toNat+1)) y0).getD [] else []
def atR(L:List Evt)(y0:List Fd)(day:Int)(N:Nat):List Fd × Bool:=match zzi (bkN L N) y0 with | some _=>(thN L y0 day N,true) | none=>([],false)
theorem zzH{l':List Fd}{b':Bool}{y0:List Fd}(hs:zyE (sOf y0))(hn:(y0.length:Int)=zxh b):∀(d X:Nat) (y:List Fd),(X:Int)<=b.Last+1->(b.Last+1).toNat - X < d->zzi (bkN (evI b (dF t.Days) o) X) y0=some y ->
  zsK b t day out d l' b' (thN (evI b (dF t.Days) o) y0 day X) (X:Int) y=some (atR (evI b (dF t.Days) o) y0 day (b.Last+1).toNat)
 | 0,X,_,_,hd,_=>by omega
 | d+1,X,y,hX,hd,hy=>by
  have hL:=h.L;rw[zsK]
  by_cases hx:(X:Int)<=b.Last
  ·have hlen:y.length=y0.length:=zzl hy;have hys:zyE (sOf y):=zzC hs (fun e he=>zzB h hn e (zyY.1 he).1) hy
   have hb:zzi (bkN (evI b (dF t.Days) o) (X+1)) y0=zzi ((evI b (dF t.Days) o).filter (onB X)) y:=by
    rw[bkN,zzk,hy]; rfl
   rw[if_pos hx];refine(zzG h ho hT (y0:=y) (by omega) hys (by omega) 1000000 0 y (Nat.zero_le _) (by have:=h.e6; omega) rfl).trans ?_;rw[<- hb]
   cases hr:zzi (bkN (evI b (dF t.Days) o) (X+1)) y0 with
   | none=>
    show some _=some _
    obtain⟨t',ht',_⟩:=zy6 (l:=evI b (dF t.Days) o) (n:=X+1) (k:=(b.Last+1).toNat - (X+1));rw[show X+1+((b.Last+1).toNat - (X+1))=(b.Last+1).toNat by omega] at ht';unfold atR;rw[ht',zzk,hr]; rfl
   | some s=>
    show(if _ then _ else _)=_
    have ih:=zzH (l':=l') (b':=b') hs hn d (X+1) s (by omega) (by omega) hr
    by_cases hxd:(X:Int)=day
    ·rw[if_pos hxd]
     have e:thN (evI b (dF t.Days) o) y0 day (X+1)=s:=by
      unfold thN;rw[if_pos (by omega),<- hxd,Int.toNat_natCast,hr]; rfl
     rw[e] at ih;exact ih
    ·rw[if_neg hxd]
     have e:thN (evI b (dF t.Days) o) y0 day (X+1)=thN (evI b (dF t.Days) o) y0 day X:=by
      unfold thN
      by_cases hc:0<=day/\day < (X:Int)
      ·rw[if_pos hc,if_pos (by omega)]
      ·rw[if_neg hc,if_neg (by omega)]
     rw[e] at ih;exact ih
  ·rw[if_neg hx,show X=(b.Last+1).toNat by omega];rw[show X=(b.Last+1).toNat by omega] at hy;unfold atR;rw[hy]
theorem zzI(hS:t.Sown.length=b.Parcels.length):zsL b t day out=some (atR (evI b (dF t.Days) o) (zzp b t.Sown) day (b.Last+1).toNat):=by
 unfold zsL;rw[zzy h.e6 h.p4 hS,obs];have:=zzH h ho hT (day:=day) (l':=[]) (b':=false) (zzE h hS) (zzq hS) 1000000 0 _ (by have:=h.L; omega) (by have:=h.L; omega) rfl
 have e:thN (evI b (dF t.Days) o) (zzp b t.Sown) day 0=[]:=by unfold thN; rw[if_neg (by omega)]
 rw[e] at this;exact this
end
end
end Go.Proofs.YtlkgdadfbfafcaaGreat

namespace Go.Proofs.YtlkgdadfbfafcaaGreat
open _root_.Go.Proofs.Tryz
open Go.Abs
set_option maxRecDepth 100000
noncomputable section
def okB(b:Boo)(o:Nat->Bool)(D:Nat->Int)(S:List Int):Bool:=(zzi (bkN (evI b D o) (b.Last+1).toNat) (zzp b S)).isSome
def zzJ(b:Boo)(o:Nat->Bool):Prop:=∃(D:Nat->Int) (S:List Int),(∀i,i < b.Entries.length->o i=false->(zxP b i).Day.Lo<=D i/\D i<=(zxP b i).Day.Hi)/\inR (b.Parcels.map (·.Sown)) S/\okB b o D S=true
theorem zzK{b:Boo}{o:Nat->Bool}{D:Nat->Int}{S:List Int}{day:Int}:(atR (evI b D o) (zzp b S) day (b.Last+1).toNat).2=okB b o D S:=by
 unfold atR okB
 cases zzi (bkN (evI b D o) (b.Last+1).toNat) (zzp b S) <;> rfl
theorem zzL{b:Boo}{o:Nat->Bool}{D E:Nat->Int}{S:List Int}(h:∀i,i < b.Entries.length->o i=false->D i=E i):okB b o D S=okB b o E S:=by unfold okB; rw[zyx h]
theorem zzM{w:Wk}{b:Boo}{O:O6}(h:zzz b)(hw:zxS w b O){t:Tr}(hT:t.Days.length=b.Entries.length)(hS:t.Sown.length=b.Parcels.length)(hD:∀i,i < b.Entries.length->zxO O i=false->0<=dF t.Days i/\dF t.Days i<=b.Last){day:Int}(hd:0<=day/\day<=b.Last) :
  ztM w t day=some (if okB b (zxO O) (dF t.Days) t.Sown=true then (sOf (thN (evI b (dF t.Days) (zxO O)) (zzp b t.Sown) day (b.Last+1).toNat),true) else (zyz,false)):=by
 obtain⟨d,rfl⟩:∃d:Nat,day=(d:Int):=⟨day.toNat,by omega⟩;rw[(zyU hw h.e6 h.p4 h.P h.E hT hS).1,zzr hS h.p4 h.e6]
 have hL:∀x∈evI b (dF t.Days) (zxO O),0<=x.on/\x.on < ((b.Last+1).toNat:Int):=fun x hx=>by
  obtain⟨i,a1,a2,rfl⟩:=zyw.1 hx;have:=hD i a1 a2
  show 0<=dF t.Days i/\dF t.Days i < _
  omega
 rw[zzm (N:=(b.Last+1).toNat) (by omega) hL fun e he=>(zzB h (zzq hS) e he).2];obtain⟨t',ht',_⟩:=zy6 (l:=evI b (dF t.Days) (zxO O)) (n:=d+1) (k:=(b.Last+1).toNat - (d+1));rw[show d+1+((b.Last+1).toNat - (d+1))=(b.Last+1).toNat by omega] at ht'
 congr 1
 cases hr:zzi (bkN (evI b (dF t.Days) (zxO O)) (d+1)) (zzp b t.Sown) with
 | none=>
  have:okB b (zxO O) (dF t.Days) t.Sown=false:=by unfold okB; rw[ht',zzk,hr]; rfl
  rw[this]; rfl
 | some s=>
  have e:thN (evI b (dF t.Days) (zxO O)) (zzp b t.Sown) (d:Int) (b.Last+1).toNat=s:=by
   unfold thN;rw[if_pos (by omega),Int.toNat_natCast,hr]; rfl
  rw[e]; rfl
theorem zzN{w:Wk}{b:Boo}{O:O6}(h:zzz b)(hw:zxS w b O){t:Tr}(hT:t.Days.length=b.Entries.length)(hS:t.Sown.length=b.Parcels.length)(hD:∀i,i < b.Entries.length->zxO O i=false->0<=dF t.Days i/\dF t.Days i<=b.Last):ztR w t=some (okB b (zxO O) (dF t.Days) t.Sown):=by
 have hL:=h.L;unfold ztR;rw[hw.eb,zzM h hw hT hS hD ⟨hL.1,Int.le_refl _⟩,obs]
 cases okB b (zxO O) (dF t.Days) t.Sown <;> rfl
def zzO(n:Nat)(l:List Int):Tr:={ Days:=l.take n,Sown:=l.drop n }
theorem zzP{w:Wk}:∀{l:List (List Int)},(∀a∈l,w.b.Entries.length<=a.length)->ztO w l=some (l.map (zzO w.b.Entries.length))
 | [],_=>rfl
 | a::l,h=>by
  have ha:=h a (List.mem_cons_self ..);rw[ztO,zq0 (by omega),zq0 (by omega),zzP fun x hx=>h x (List.mem_cons_of_mem _ hx),obs,Int.toNat_natCast,Int.toNat_natCast,List.take_length]; rfl
theorem zzQ:∀{A B:List Rg} {l:List Int},inR (A++B) l↔inR A (l.take A.length)/\inR B (l.drop A.length)
 | [],B,l=>⟨fun h=>⟨trivial,h⟩,fun h=>h.2⟩
 | r::A,B,[]=>⟨fun h=>h.elim,fun h=>h.1.elim⟩
 | r::A,B,x::l=>by
  show(r.Lo<=x/\x<=r.Hi)/\inR (A++B) l↔((r.Lo<=x/\x<=r.Hi)/\inR A (l.take A.length))/\inR B (l.drop A.length)
  rw[zzQ];exact and_assoc.symm
theorem zzR{b:Boo}{c:Nat->Bool}{n:Nat}{l:List Int}:inR (zx6 b c n) l↔l.length=n/\∀i,i < n->(zx5 (c i) (zxP b i).Day).Lo<=dF l i/\dF l i<=(zx5 (c i) (zxP b i).Day).Hi:=by
 rw[zyV,zx9];refine and_congr_right fun hl=>⟨fun h i hi=>?_,fun h j r x hr hx=>?_⟩
 ·have hg:=List.getElem?_eq_getElem (l:=l) (show i < l.length by omega)
  have e:dF l i=l[i]:=by unfold dF; rw[List.getD_eq_getElem?_getD,hg]; rfl
  rw[e];refine h i _ _ ?_ hg;unfold zx6;rw[List.getElem?_map,List.getElem?_range hi]; rfl
 ·have hj:=(List.getElem?_eq_some_iff.1 hx).1
  have e:dF l j=x:=by unfold dF; rw[List.getD_eq_getElem?_getD,hx]; rfl
  unfold zx6 at hr;rw[List.getElem?_map,List.getElem?_range (by omega)] at hr;have hr:=oi hr;have:=h j (by omega);rw[e] at this;rw[<- hr]; exact this
theorem zzS{o:Bool}{r:Rg}(h:r.Lo<=r.Hi):r.Lo<=(zx5 o r).Lo/\(zx5 o r).Lo<=(zx5 o r).Hi/\(zx5 o r).Hi<=r.Hi:=by
 unfold zx5
 cases o with
 | true=>rw[if_pos rfl]; exact⟨Int.le_refl _,Int.le_refl _,h⟩
 | false=>rw[if_neg (by simp)]; exact⟨Int.le_refl _,h,Int.le_refl _⟩
theorem zzz.day{b:Boo}(h:zzz b){i:Nat}(hi:i < b.Entries.length):zxi b (zxP b i).Day:=by
 rw[zxQ (List.getElem?_eq_getElem hi)]; exact(h.E _ (List.getElem_mem hi)).1
theorem zzT{b:Boo}(h:zzz b){c:Nat->Bool}{l:List Int}(hl:inR (zx7 b c) l):(zzO b.Entries.length l).Days.length=b.Entries.length/\inR (b.Parcels.map (·.Sown)) (zzO b.Entries.length l).Sown/\(zzO b.Entries.length l).Sown.length=b.Parcels.length/\∀i,i < b.Entries.length->((zx5 (c i) (zxP b i).Day).Lo<=dF (zzO b.Entries.length l).Days i/\dF (zzO b.Entries.length l).Days i<=(zx5 (c i) (zxP b i).Day).Hi)/\0<=dF (zzO b.Entries.length l).Days i/\dF (zzO b.Entries.length l).Days i<=b.Last:=by
 unfold zx7 at hl;rw[zzQ,zx9,zzR] at hl;obtain⟨⟨h1,h2⟩,h3⟩:=hl;refine⟨h1,h3,by have:=zxd h3; rw[List.length_map] at this; exact this,fun i hi=>⟨h2 i hi,?_⟩⟩;have a1:=h2 i hi;have a2:=h.day hi;unfold zxi at a2;have a3:=zzS (o:=c i) a2.2.1
 show 0<=dF (l.take b.Entries.length) i/\dF (l.take b.Entries.length) i<=b.Last
 omega
theorem zzU{b:Boo}{c:Nat->Bool}{E:Nat->Int}{S:List Int}(hE:∀i,i < b.Entries.length->(zx5 (c i) (zxP b i).Day).Lo<=E i/\E i<=(zx5 (c i) (zxP b i).Day).Hi)(hS:inR (b.Parcels.map (·.Sown)) S) :
  inR (zx7 b c) ((List.range b.Entries.length).map E++S)/\zzO b.Entries.length ((List.range b.Entries.length).map E++S)={ Days:=(List.range b.Entries.length).map E,Sown:=S }/\∀i,i < b.Entries.length->dF ((List.range b.Entries.length).map E) i=E i:=by
 have hl:((List.range b.Entries.length).map E).length=b.Entries.length:=by rw[List.length_map,List.length_range]
 have hd:∀i,i < b.Entries.length->dF ((List.range b.Entries.length).map E) i=E i:=fun i hi=>by
  unfold dF;rw[List.getD_eq_getElem?_getD,List.getElem?_map,List.getElem?_range hi]; rfl
 have e1:((List.range b.Entries.length).map E++S).take b.Entries.length=(List.range b.Entries.length).map E:=by
  have:=List.take_left (l₁:=(List.range b.Entries.length).map E) (l₂:=S);rw[hl] at this; exact this
 have e2:((List.range b.Entries.length).map E++S).drop b.Entries.length=S:=by
  have:=List.drop_left (l₁:=(List.range b.Entries.length).map E) (l₂:=S);rw[hl] at this; exact this
 refine⟨?_,by unfold zzO; rw[e1,e2],hd⟩;unfold zx7;rw[zzQ,zx9,e1,e2,zzR];exact⟨⟨hl,fun i hi=>by rw[hd i hi]; exact hE i hi⟩,hS⟩
def zzV(b:Boo)(o:Nat->Bool)(D:Nat->Int)(i:Nat):Int:=if o i=true then (zxP b i).Day.Lo else D i
theorem zzW{b:Boo}{o:Nat->Bool}{D:Nat->Int}{i:Nat}(h:o i=false):zzV b o D i=D i:=by unfold zzV; rw[if_neg (by simp[h])]
theorem zzX{w:Wk}{f:Tr->Bool}:∀{l:List Tr} {y:Bool},(∀a∈l,ztR w a=some (f a))->ztT w l y=some (l.any f)
 | [],_,_=>rfl
 | a::l,y,h=>by
  rw[ztT,h a (List.mem_cons_self ..),obs,List.any_cons]
  cases hf:f a with
  | true=>rfl
  | false=>rw[if_neg (by simp)]; exact zzX fun x hx=>h x (List.mem_cons_of_mem _ hx)
theorem zzY{b:Boo}(h:zzz b){c:Nat->Bool}:(zx7 b c).length<=100/\∀r∈zx7 b c,okR r:=by
 have h6:=h.e6;have h4:=h.p4;have hL:=h.L;refine⟨by unfold zx7; rw[List.length_append,zx9,List.length_map]; omega,fun r hr=>?_⟩;unfold zx7 at hr
 rcases List.mem_append.1 hr with hr | hr
 ·unfold zx6 at hr;obtain⟨i,hi,rfl⟩:=List.mem_map.1 hr;have a2:=h.day (List.mem_range.1 hi);unfold zxi at a2;have a3:=zzS (o:=c i) a2.2.1;unfold okR; omega
 ·obtain⟨p,hp,rfl⟩:=List.mem_map.1 hr;have:=(h.P p hp).2.2;unfold zxi at this;unfold okR; omega
theorem zzZ{w:Wk}{b:Boo}{O:O6}(h:zzz b)(hw:zxS w b O):ztQ w=some ((chW (zx7 b (zxO O)) []).map (zzO b.Entries.length)):=by
 obtain⟨r1,r2⟩:=zzY h (c:=zxO O);have hb:=hw.eb;unfold ztQ ztP
 rw[zyc hw h.e6 (by have:=h.p4; omega),obs,show ztB (zx7 b (zxO O))=some (chW (zx7 b (zxO O)) []) from zq0 ⟨r1,r2⟩,obs,zzP fun a ha=>by
  have:=zxd (zxf.1 ha)
  rw[hb,this]; unfold zx7; rw[List.length_append,zx9]; omega,hb]; rfl
theorem zz0{w:Wk}{b:Boo}{O:O6}(h:zzz b)(hw:zxS w b O):Ev (ztU w) (zzJ b (zxO O)):=by
 have key:ztU w=some (((chW (zx7 b (zxO O)) []).map (zzO b.Entries.length)).any fun t=>okB b (zxO O) (dF t.Days) t.Sown):=by
  unfold ztU;rw[zzZ h hw,obs];refine zzX fun a ha=>?_;obtain⟨l,hl,rfl⟩:=List.mem_map.1 ha;obtain⟨a1,a2,a3,a4⟩:=zzT h (zxf.1 hl);exact zzN h hw a1 a3 fun i hi _=>(a4 i hi).2
 rw[key];refine Ev.mk' ?_;rw[List.any_eq_true]
 constructor
 ·rintro⟨t,ht,hok⟩
  obtain⟨l,hl,rfl⟩:=List.mem_map.1 ht;obtain⟨a1,a2,a3,a4⟩:=zzT h (zxf.1 hl);refine⟨_,_,fun i hi ho=>?_,a2,hok⟩;have:=(a4 i hi).1;rw[ho] at this;exact this
 ·rintro⟨D,S,hD,hS,hok⟩
  obtain⟨b1,b2,b3⟩:=zzU (b:=b) (c:=zxO O) (E:=zzV b (zxO O) D) (S:=S) (fun i hi=>by
   have hd:=h.day hi;unfold zxi at hd
   cases ho:zxO O i with
   | true=>unfold zzV zx5; rw[ho,if_pos rfl,if_pos rfl]; exact⟨Int.le_refl _,Int.le_refl _⟩
   | false=>rw[zzW ho]; exact hD i hi ho) hS
  refine⟨_,List.mem_map.2 ⟨_,zxf.2 b1,rfl⟩,?_⟩;rw[b2]
  show okB b (zxO O) (dF _) S=true
  rw[zzL (E:=D) fun i hi ho=>by rw[b3 i hi,zzW ho]]; exact hok
theorem wu{n:Nat}(h:n<=64):zmJ .u64 (n:Int)=(n:Int):=wz (show(0:Int)<=n/\(n:Int) < 18446744073709551616 by omega)
theorem zz1(B k:Nat):(B:Int) / 2 ^ k % 2=((B / 2 ^ k % 2:Nat):Int):=by rw[zwS]; rfl
theorem zz2{B k:Nat}:(B:Int) / 2 ^ k % 2=1↔B.testBit k=true:=by
 rw[zz1,Nat.testBit_eq_decide_div_mod_eq,decide_eq_true_eq]; omega
theorem zz3{b:Nat}(hb:b < 65536):∀(d p:Nat) (acc:List Int),p<=16->16 - p < d->acc=zwM b p->zsM (b:Int) d acc (p:Int)=some (zwN b)
 | 0,_,_,_,h,_=>by omega
 | d+1,p,acc,hp,h,ha=>by
  have hle:b / 2 ^ p<=b:=Nat.div_le_self _ _;rw[zsM,wu (show p<=64 by omega)]
  have hq:(b:Int) / 2 ^ ((p:Int)).toNat=((b / 2 ^ p:Nat):Int):=by rw[Int.toNat_natCast]; simp
  rw[hq]
  clear hq
  have hl:=zwR (b:=b) p;have hbit:b.testBit p=decide (b / 2 ^ p % 2=1):=Nat.testBit_eq_decide_div_mod_eq ..
  have h16:p=16->b / 2 ^ p=0:=fun he=>by subst he; exact Nat.div_eq_of_lt (by omega)
  have h0':b / 2 ^ p=0->zwM b p=zwN b:=fun h9=>by
   have:=zwQ (b:=b) (p:=p) (fun q hq=>zjo h9 hq) (16 - p);rw[show p+(16 - p)=16 by omega] at this;exact this.symm
  generalize b / 2 ^ p=q at hle hbit h16 h0' ⊢;rw[zq0 (by omega),zq0 (by omega),zq0 (by omega),zq0 (fI (by omega))]
  by_cases h0:0 < q
  ·have hp16:p < 16:=by
    rcases Nat.lt_or_ge p 16 with h1 | h1
    ·exact h1
    ·have:=h16 (by omega); omega
   rw[if_pos (by omega),zq0 (by omega),zq0 (by omega),zq0 (by omega),zq0 (fI (by omega)),zq0 (by omega),zq0 (by omega),zq0 (fI (by omega))]
   by_cases h1:q % 2=1
   ·rw[if_pos (by omega),zq0 (show acc.length < 1048576 by rw[ha]; omega),zq0 (fI (by omega)),show(p:Int)+1=((p+1:Nat):Int) by omega];refine zz3 hb d (p+1) _ (by omega) (by omega) ?_
    show _=zwM b p++(if b.testBit p then [(p:Int)] else [])
    rw[ha,hbit,h1]; rfl
   ·rw[if_neg (by omega),zq0 (fI (by omega)),show(p:Int)+1=((p+1:Nat):Int) by omega];refine zz3 hb d (p+1) _ (by omega) (by omega) ?_
    show _=zwM b p++(if b.testBit p then [(p:Int)] else [])
    rw[ha,hbit,decide_eq_false h1]; simp
  ·rw[if_neg (by omega),ha];exact congrArg some (h0' (by omega))
theorem zz4{b:Nat}(hb:b < 65536):zsN (b:Int)=some (zwN b):=zz3 hb 1000000 0 [] (Nat.zero_le _) (by omega) rfl
theorem zz5{a b:List Int}(hl:a.length<=1000):∀(d k:Nat),k<=a.length->a.length - k < d->zsO a b d (k:Int)=some (bef (a.drop k) (b.drop k))
 | 0,_,_,h=>by omega
 | d+1,k,hk,h=>by
  rw[zsO]
  by_cases hka:k < a.length
  ·rw[if_pos (by omega)];have da:=List.drop_eq_getElem_cons hka;have ga:=List.getElem?_eq_getElem hka
   by_cases hkb:k < b.length
   ·have db:=List.drop_eq_getElem_cons hkb;have gb:=List.getElem?_eq_getElem hkb;rw[if_pos (by omega),zrX ga,obs,zrX gb,obs,da,db];unfold bef
    by_cases he:a[k]=b[k]
    ·rw[if_pos he,if_pos he,zq0 (fI (by omega)),show(k:Int)+1=((k+1:Nat):Int) by omega];exact zz5 hl d (k+1) (by omega) (by omega)
    ·rw[if_neg he,if_neg he,obs,obs]
   ·rw[if_neg (by omega),da,List.drop_eq_nil_of_le (show b.length<=k by omega),decide_eq_false (by omega)]; rfl
  ·rw[if_neg (by omega),List.drop_eq_nil_of_le (show a.length<=k by omega)]
   by_cases hkb:k < b.length
   ·rw[List.drop_eq_getElem_cons hkb,decide_eq_true (by omega)]; rfl
   ·rw[List.drop_eq_nil_of_le (show b.length<=k by omega),decide_eq_false (by omega)]; rfl
theorem zz6{a b:List Int}(hl:a.length<=1000):zsP a b=some (bef a b):=zz5 hl (a.length+1) 0 (Nat.zero_le _) (by omega)
theorem zz7{a b:List Int}(hl:a.length<=1000):zsQ a b=some (shB a b):=by
 unfold zsQ shB
 by_cases h1:a.length < b.length
 ·rw[if_pos (by omega),decide_eq_true h1]; rfl
 ·rw[if_neg (by omega),decide_eq_false h1]
  by_cases h2:a.length=b.length
  ·rw[if_pos (by omega),zz6 hl,decide_eq_true h2]; simp
  ·rw[if_neg (by omega),decide_eq_false h2]; simp
def zz8(n:Nat):List Int:=(List.range n).map fun j=>((j:Nat):Int)
theorem zz9(n:Nat):Inc n 0 (zz8 n):=by
 refine⟨?_,fun v hv=>?_⟩
 ·unfold zz8;rw[List.pairwise_map]
  exact List.pairwise_lt_range.imp fun h=>by omega
 ·obtain⟨j,hj,rfl⟩:=List.mem_map.1 hv;have:=List.mem_range.1 hj
  omega
theorem zAa{n j:Nat}(h:j < n):inD (zz8 n) j=true:=decide_eq_true (List.mem_map.2 ⟨j,List.mem_range.2 h,rfl⟩)
theorem zAb{b:Nat}:(zwN b).length<=16:=zwR 16
structure zAc (n:Nat) (P:(Nat->Bool)->Prop) (M:List Int):Prop where
 inc:Inc n 0 M
 ok:P (inD M)
 min:∀D,Inc n 0 D->P (inD D)->D=M\/shB M D=true
theorem zAc.uniq{n:Nat}{P:(Nat->Bool)->Prop}{M M':List Int}(h:zAc n P M)(h':zAc n P M'):M=M':=by
 rcases h.min M' h'.inc h'.ok with h1 | h1
 ·exact h1.symm
 ·rcases h'.min M h.inc h.ok with h2 | h2
  ·exact h2
  ·rw[zw1 h1] at h2; cases h2
theorem zAd{n:Nat}:2 ^ n - 1 < 2 ^ n:=by have:=Nat.two_pow_pos n; omega
theorem zAe{n b:Nat}(_hb:b < 2 ^ n):Nat.xor (2 ^ n - 1) (Nat.land (2 ^ n - 1) b) < 2 ^ n/\∀j,j < n->(Nat.xor (2 ^ n - 1) (Nat.land (2 ^ n - 1) b)).testBit j = !b.testBit j:=by
 have e:∀j,(Nat.xor (2 ^ n - 1) (Nat.land (2 ^ n - 1) b)).testBit j=(decide (j < n) ^^ (decide (j < n) && b.testBit j)):=fun j=>by
  show((2 ^ n - 1) ^^^ ((2 ^ n - 1) &&& b)).testBit j=_
  rw[Nat.testBit_xor,Nat.testBit_and,Nat.testBit_two_pow_sub_one]
 refine⟨Nat.lt_pow_two_of_testBit _ fun j hj=>?_,fun j hj=>?_⟩
 ·rw[e,decide_eq_false (by omega)]; rfl
 ·rw[e,decide_eq_true hj]
  cases b.testBit j <;> rfl
theorem zAf{β:Type}{n:Nat}{F:Nat->Int->Option β}{ok:Nat->Prop}{res:Nat->Option β}{fin:Option β}(hstep:∀d k,k < n->(ok k->F (d+1) (k:Int)=F d ((k:Int)+1))/\(¬ ok k->F (d+1) (k:Int)=res k))(hend:∀d,F (d+1) (n:Int)=fin) :
  ∀(d k:Nat),k<=n->n - k < d->(∃j,k<=j/\j < n/\¬ ok j/\(∀i,k<=i->i < j->ok i)/\F d (k:Int)=res j)\/((∀j,k<=j->j < n->ok j)/\F d (k:Int)=fin)
 | 0,k,_,h=>by omega
 | d+1,k,hk,hd=>by
  by_cases hkn:k=n
  ·subst hkn;exact .inr ⟨fun j h1 h2=>by omega,hend d⟩
  ·by_cases ho:ok k
   ·rw[(hstep d k (by omega)).1 ho,show(k:Int)+1=((k+1:Nat):Int) by omega]
    have hor:∀i,k<=i->(k+1<=i->ok i)->ok i:=fun i h1 h2=>by
     rcases Nat.eq_or_lt_of_le h1 with h3 | h3
     ·subst h3; exact ho
     ·exact h2 h3
    rcases zAf hstep hend d (k+1) (by omega) (by omega) with ⟨j,q1,q2,q3,q4,q5⟩ | ⟨q1,q2⟩
    ·exact .inl ⟨j,by omega,q2,q3,fun i h1 h2=>hor i h1 fun h3=>q4 i h3 h2,q5⟩
    ·exact .inr ⟨fun j h1 h2=>hor j h1 fun h3=>q1 j h3 h2,q2⟩
   ·exact .inl ⟨k,Nat.le_refl _,by omega,ho,fun i h1 h2=>by omega,(hstep d k (by omega)).2 ho⟩
theorem zAg{i:Nat}(h:i<=6):2 ^ i<=64:=Nat.pow_le_pow_right (n:=2) (by omega) h
theorem zAh{n:Nat}(h:n<=6):(1:Int) * 2 ^ (Int.toNat (zmJ .u64 (n:Int)))=((2 ^ n:Nat):Int):=by rw[wu (by omega),Int.toNat_natCast,Int.one_mul,Int.natCast_pow]; rfl
def zAi:List Rg->Int->Int
 | [],n=>n
 | r::rs,n=>zAi rs (n / (r.Hi - r.Lo+1))
def zAj:List Rg->Int->List Int
 | [],_=>[]
 | r::rs,n=>(r.Lo+n % (r.Hi - r.Lo+1))::zAj rs (n / (r.Hi - r.Lo+1))
theorem zAk:∀{A B:List Rg} {n:Int},zAj (A++B) n=zAj A n++zAj B (zAi A n)
 | [],_,_=>rfl
 | r::A,B,n=>by
  show _::zAj (A++B) _=_::(zAj A _++zAj B _)
  rw[zAk]; rfl
theorem zAl:∀{A:List Rg} {n:Int},(zAj A n).length=A.length
 | [],_=>rfl
 | r::A,n=>by show(zAj A _).length+1=A.length+1; rw[zAl]
theorem zAm:∀{rs:List Rg} {n:Int},(∀r∈rs,r.Lo<=r.Hi)->0<=n->inR rs (zAj rs n)
 | [],_,_,_=>trivial
 | r::rs,n,h,h0=>by
  have hr:=h r (List.mem_cons_self ..);have h1:=Int.emod_nonneg n (show r.Hi - r.Lo+1 ≠ 0 by omega);have h2:=Int.emod_lt_of_pos n (show 0 < r.Hi - r.Lo+1 by omega);exact⟨⟨by omega,by omega⟩,zAm (fun r hr=>h r (List.mem_cons_of_mem _ hr)) (Int.ediv_nonneg h0 (by omega))⟩
theorem zAn:∀{rs:List Rg} {L:List Int},inR rs L->∃n,0<=n/\n < zxs 1 rs/\zAj rs n=L
 | [],[],_=>⟨0,Int.le_refl _,by show(0:Int) < 1; omega,rfl⟩
 | [],_::_,h=>h.elim
 | _::_,[],h=>h.elim
 | r::rs,x::xs,h=>by
  obtain⟨n,h0,h1,h2⟩:=zAn h.2;have hx:=h.1;obtain⟨c,hc⟩:∃c,c=r.Hi - r.Lo+1:=⟨_,rfl⟩;refine⟨(x - r.Lo)+c * n,?_,?_,?_⟩
  ·have:=Int.mul_nonneg (show 0<=c by omega) h0; omega
  ·rw[zxw,Int.one_mul,zxv]
   show _ < (r.Hi - r.Lo+1) * zxs 1 rs
   rw[<- hc];have:=Int.mul_le_mul_of_nonneg_left (show n+1<=zxs 1 rs by omega) (show 0<=c by omega);rw[Int.mul_add,Int.mul_one] at this
   omega
  ·show(r.Lo+_ % (r.Hi - r.Lo+1))::zAj rs (_ / (r.Hi - r.Lo+1))=_
   rw[<- hc,Int.add_mul_emod_self_left,Int.emod_eq_of_lt (by omega) (by omega),Int.add_mul_ediv_left _ _ (by omega),Int.ediv_eq_zero_of_lt (by omega) (by omega),Int.zero_add,h2]
   congr 1; omega
theorem zAo{b:Boo}(h:zzz b){acc0:List Int}:∀(d k:Nat) (acc:List Int) (n:Int),k<=b.Parcels.length->b.Parcels.length - k < d->acc.length=k->0<=n/\n<=100000->zsD b acc0 d acc n (k:Int)=some { Days:=acc0,Sown:=acc++zAj ((b.Parcels.map (·.Sown)).drop k) n }
 | 0,_,_,_,_,hd,_,_=>by omega
 | d+1,k,acc,n,hk,hd,ha,hn=>by
  have h4:=h.p4;have hL:=h.L;rw[zsD]
  by_cases hkl:k < b.Parcels.length
  ·have hg:=List.getElem?_eq_getElem hkl;have hr:=(h.P _ (List.getElem_mem hkl)).2.2
   have e1:(b.Parcels.map (·.Sown)).drop k=b.Parcels[k].Sown::(b.Parcels.map (·.Sown)).drop (k+1):=by
    rw[<- List.map_drop,List.drop_eq_getElem_cons hkl,List.map_cons,List.map_drop]
   rw[e1];generalize b.Parcels[k]=p at hg hr;unfold zxi at hr;have h1:=Int.emod_nonneg n (show p.Sown.Hi - p.Sown.Lo+1 ≠ 0 by omega);have h2:=Int.emod_lt_of_pos n (show 0 < p.Sown.Hi - p.Sown.Lo+1 by omega);have h3:=Int.ediv_nonneg hn.1 (show 0<=p.Sown.Hi - p.Sown.Lo+1 by omega);have h5:=Int.ediv_le_self (p.Sown.Hi - p.Sown.Lo+1) hn.1;rw[if_pos (by omega),zrX hg,obs,zq0 (fI (by omega)),zq0 (fI (by omega)),zq0 hn.1,zq0 (by omega),zq0 (fI (by omega)),zq0 (fI (by omega)),zq0 (by omega),zq0 (fI (by omega)),zq0 (fI (by omega)),zq0 hn.1,zq0 (by omega),zq0 (fI (by omega)),zq0 (fI (by omega)),show(k:Int)+1=((k+1:Nat):Int) by omega];refine(zAo h d (k+1) (acc++[p.Sown.Lo+n % (p.Sown.Hi - p.Sown.Lo+1)]) (n / (p.Sown.Hi - p.Sown.Lo+1)) (by omega) (by omega) (by rw[List.length_append,ha]; rfl) (by omega)).trans ?_;rw[List.append_assoc]; rfl
  ·rw[if_neg (by omega),List.drop_eq_nil_of_le (by rw[List.length_map]; omega)]
   show _=some ({ Days:=acc0,Sown:=acc++[] }:Tr)
   rw[List.append_nil]
theorem zAp{b:Boo}(h:zzz b):∀(d k:Nat) (acc:List Int) (n:Int),k<=b.Entries.length->b.Entries.length - k < d->acc.length=k->0<=n/\n<=100000->zsE b d acc [] n (k:Int)=some { Days:=acc++zAj ((b.Entries.map (·.Day)).drop k) n,Sown:=zAj (b.Parcels.map (·.Sown)) (zAi ((b.Entries.map (·.Day)).drop k) n) }
 | 0,_,_,_,_,hd,_,_=>by omega
 | d+1,k,acc,n,hk,hd,ha,hn=>by
  have h4:=h.e6;have hL:=h.L;rw[zsE]
  by_cases hkl:k < b.Entries.length
  ·have hg:=List.getElem?_eq_getElem hkl;have hr:=(h.E _ (List.getElem_mem hkl)).1
   have e1:(b.Entries.map (·.Day)).drop k=b.Entries[k].Day::(b.Entries.map (·.Day)).drop (k+1):=by
    rw[<- List.map_drop,List.drop_eq_getElem_cons hkl,List.map_cons,List.map_drop]
   rw[e1];generalize b.Entries[k]=p at hg hr;unfold zxi at hr;have h1:=Int.emod_nonneg n (show p.Day.Hi - p.Day.Lo+1 ≠ 0 by omega);have h2:=Int.emod_lt_of_pos n (show 0 < p.Day.Hi - p.Day.Lo+1 by omega);have h3:=Int.ediv_nonneg hn.1 (show 0<=p.Day.Hi - p.Day.Lo+1 by omega);have h5:=Int.ediv_le_self (p.Day.Hi - p.Day.Lo+1) hn.1;rw[if_pos (by omega),zrX hg,obs,zq0 (fI (by omega)),zq0 (fI (by omega)),zq0 hn.1,zq0 (by omega),zq0 (fI (by omega)),zq0 (fI (by omega)),zq0 (by omega),zq0 (fI (by omega)),zq0 (fI (by omega)),zq0 hn.1,zq0 (by omega),zq0 (fI (by omega)),zq0 (fI (by omega)),show(k:Int)+1=((k+1:Nat):Int) by omega];refine(zAp h d (k+1) (acc++[p.Day.Lo+n % (p.Day.Hi - p.Day.Lo+1)]) (n / (p.Day.Hi - p.Day.Lo+1)) (by omega) (by omega) (by rw[List.length_append,ha]; rfl) (by omega)).trans ?_;rw[List.append_assoc]; rfl
  ·rw[if_neg (by omega),List.drop_eq_nil_of_le (by rw[List.length_map]; omega)];refine(zAo h 1000000 0 [] n (Nat.zero_le _) (by have:=h.p4; omega) rfl hn).trans ?_
   show some ({ Days:=acc,Sown:=[]++zAj (b.Parcels.map (·.Sown)) n }:Tr)=some ({ Days:=acc++[],Sown:=zAj (b.Parcels.map (·.Sown)) n }:Tr)
   rw[List.append_nil,List.nil_append]
theorem zAq{b:Boo}(h:zzz b){n:Int}(hn:0<=n/\n<=100000):zsF b n=some (zzO b.Entries.length (zAj (zxE b) n)):=by
 unfold zsF;refine(zAp h 1000000 0 [] n (Nat.zero_le _) (by have:=h.e6; omega) rfl hn).trans ?_
 have hl:(zAj (b.Entries.map (·.Day)) n).length=b.Entries.length:=by rw[zAl,List.length_map]
 have e1:(zAj (zxE b) n).take b.Entries.length=zAj (b.Entries.map (·.Day)) n:=by
  unfold zxE;rw[zAk];have:=List.take_left (l₁:=zAj (b.Entries.map (·.Day)) n) (l₂:=zAj (b.Parcels.map (·.Sown)) (zAi (b.Entries.map (·.Day)) n));rw[hl] at this; exact this
 have e2:(zAj (zxE b) n).drop b.Entries.length=zAj (b.Parcels.map (·.Sown)) (zAi (b.Entries.map (·.Day)) n):=by
  unfold zxE;rw[zAk];have:=List.drop_left (l₁:=zAj (b.Entries.map (·.Day)) n) (l₂:=zAj (b.Parcels.map (·.Sown)) (zAi (b.Entries.map (·.Day)) n));rw[hl] at this; exact this
 unfold zzO;rw[e1,e2]; rfl
theorem zAr{b:Boo}(h:zzz b):∀r∈zxE b,r.Lo<=r.Hi:=fun r hr=>by
 unfold zxE at hr
 rcases List.mem_append.1 hr with hr | hr
 ·obtain⟨e,he,rfl⟩:=List.mem_map.1 hr;exact(h.E e he).1.2.1
 ·obtain⟨p,hp,rfl⟩:=List.mem_map.1 hr;exact(h.P p hp).2.2.2.1
theorem zAs{b:Boo}(h:zzz b):zsA b=some (zxs 1 (zxE b))/\1<=zxs 1 (zxE b):=by
 have hL:=h.L;obtain⟨hz,_⟩:=zxG hL.2 h.P h.E;have:=zxy hz;have hm:=h.m;rw[zxH (by have:=h.e6; omega) (by have:=h.p4; omega) hL.2 h.P h.E,Int.min_eq_right (by omega)];exact⟨rfl,this⟩
theorem zAt{b:Boo}(h:zzz b){n:Int}(hn:0<=n):inR (zx7 b fun _=>false) (zAj (zxE b) n):=by
 rw[zyb fun _ _=>rfl]; exact zAm (zAr h) hn
theorem zAu{x:Nat}(hx:x<=1000000):zzF (x:Int) fun j=>x.testBit j:=⟨by omega,fun k _=>by
 have h1:=zz2 (B:=x) (k:=k);have h2:=Int.emod_nonneg ((x:Int) / 2 ^ k) (show(2:Int) ≠ 0 by omega);have h3:=Int.emod_lt_of_pos ((x:Int) / 2 ^ k) (show(0:Int) < 2 by omega)
 show _↔x.testBit k=false
 generalize x.testBit k=tb at h1
 cases tb with
 | true=>have:=h1.2 rfl; exact⟨fun h=>by omega,fun h=>by cases h⟩
 | false=>exact ⟨fun _=>rfl,fun _=>by
   have:¬ (x:Int) / 2 ^ k % 2=1:=fun h=>by have:=h1.1 h; cases this
   omega⟩⟩
theorem zAv{b:Boo}(h:zzz b){out:Int}{o:Nat->Bool}(ho:zzF out o):Ev (zt4 b out) (zzJ b o):=by
 obtain⟨hm,hm1⟩:=zAs h;have hm2:=h.m
 have key:=zAf (n:=(zxs 1 (zxE b)).toNat) (F:=zt3 b out) (ok:=fun k=>¬ okB b o (dF (zzO b.Entries.length (zAj (zxE b) (k:Int))).Days) (zzO b.Entries.length (zAj (zxE b) (k:Int))).Sown=true) (res:=fun _=>some true) (fin:=some false) (fun d k hk=>by
  obtain⟨a1,a2,a3,a4⟩:=zzT h (zAt h (n:=(k:Int)) (by omega));rw[zt3,hm,obs,if_pos (by omega),zAq h (by omega),obs,zzI h ho a1 a3,obs,zzK]
  exact⟨fun hc=>by rw[if_neg hc,zq0 (fI (by omega))],fun hc=>by rw[if_pos (Decidable.not_not.1 hc)]⟩) (fun d=>by rw[zt3,hm,obs,if_neg (by omega)]) 1000000 0 (Nat.zero_le _) (by omega)
 unfold zt4
 rcases key with ⟨k,_,q2,q3,q4,q5⟩ | ⟨q1,q2⟩
 ·refine⟨true,q5,⟨fun _=>?_,fun _=>rfl⟩⟩;obtain⟨a1,a2,a3,a4⟩:=zzT h (zAt h (n:=(k:Int)) (by omega));exact⟨_,_,fun i hi _=>(a4 i hi).1,a2,Decidable.not_not.1 q3⟩
 ·refine⟨false,q2,⟨fun hc=>(by cases hc),fun hc=>?_⟩⟩;obtain⟨D,S,hD,hS,hok⟩:=hc
  obtain⟨b1,b2,b3⟩:=zzU (b:=b) (c:=fun _=>false) (E:=zzV b o D) (S:=S) (fun i hi=>by
   have hd:=h.day hi;unfold zxi at hd
   show(zxP b i).Day.Lo<=_/\_<=(zxP b i).Day.Hi
   cases ho:o i with
   | true=>unfold zzV; rw[ho,if_pos rfl]; exact⟨Int.le_refl _,hd.2.1⟩
   | false=>rw[zzW ho]; exact hD i hi ho) hS
  rw[zyb fun _ _=>rfl] at b1;obtain⟨n,n1,n2,n3⟩:=zAn b1;refine absurd ?_ (q1 n.toNat (Nat.zero_le _) (by omega));rw[show((n.toNat:Nat):Int)=n by omega,n3,b2]
  show okB b o (dF _) S=true
  rw[zzL (E:=D) fun i hi ho=>by rw[b3 i hi,zzW ho]]; exact hok
theorem zzJ.congr{b:Boo}{o o':Nat->Bool}(h:∀j,j < b.Entries.length->o j=o' j):zzJ b o↔zzJ b o':=by
 have key:∀{o o':Nat->Bool},(∀j,j < b.Entries.length->o j=o' j)->zzJ b o->zzJ b o':=fun {o o'} h ⟨D,S,h1,h2,h3⟩=>by
  have e:evI b D o=evI b D o':=by
   unfold evI evK;rw[List.filter_congr fun i hi=>by rw[h i (List.mem_range.1 hi)]]
  refine⟨D,S,fun i hi ho=>h1 i hi (by rw[h i hi]; exact ho),h2,?_⟩;unfold okB at h3 ⊢;rw[<- e]; exact h3
 exact⟨key h,key fun j hj=>(h j hj).symm⟩
theorem zzJ.all{b:Boo}(h:zzz b){o:Nat->Bool}(ho:∀j,j < b.Entries.length->o j=true):zzJ b o:=by
 have e:evI b (fun _=>0) o=[]:=by
  unfold evI evK
  have:(List.range b.Entries.length).filter (fun i=>!o i)=[]:=List.filter_eq_nil_iff.2 fun i hi=>by rw[ho i (List.mem_range.1 hi)]; simp
  rw[this]; rfl
 refine⟨fun _=>0,b.Parcels.map (fun p:Pc=>p.Sown.Lo),fun i hi h1=>absurd (h1.symm.trans (ho i hi)) (by simp),?_,?_⟩
 ·have key:∀l:List Pc,(∀p∈l,zxk b p)->inR (l.map (·.Sown)) (l.map (fun p:Pc=>p.Sown.Lo)):=by
   intro l
   induction l with
   | nil=>intro _; trivial
   | cons p l ih=>intro hl; exact⟨⟨Int.le_refl _,(hl p (List.mem_cons_self ..)).2.2.2.1⟩,ih fun q hq=>hl q (List.mem_cons_of_mem _ hq)⟩
  exact key _ h.P
 ·unfold okB;rw[e,zy3]; rfl
end
end Go.Proofs.YtlkgdadfbfafcaaGreat

