/- An evaluator of code, its soundness, and what functions of the program do. Condition: none; a lemma text. -/
import Derived.Test.YtlkgdadfbfafcaaGreatPaH

namespace Go.Proofs.YtlkgdadfbfafcaaGreat
open _root_.Go.Proofs.Tryz
open Go.Abs
set_option maxRecDepth 100000
noncomputable section
theorem zw5:TC prog 156 5:=⟨124,by kernel_rfl,by kernel_rfl,by kernel_rfl⟩
theorem zw6:TA prog 23 8:=⟨103,by kernel_rfl,by kernel_rfl,by kernel_rfl⟩
theorem zw7:TA prog 157 10:=⟨160,by kernel_rfl,by kernel_rfl,by kernel_rfl⟩
theorem zw8{l:List Evt}{n:Int}{cmp:Evt->Evt->Option (Int)}{ca100 ca300:C}{m f:M}{Q:V->M->Prop}{rz:(Unit) × List Evt}(hS:Pre f m)(ha100:Wg f m ca100 l)(ha300:zvz f ca300 cmp)(hp:zut l n cmp=some rz)(hq:∀m',zsk (zr4 ca100) m m'->Wn m m' ca100 rz.2->Q (.tup []) m'):Wc prog tbl 145 [.c ca100,.c (Il n),.c ca300] m Q:=by
 have S0:=hS.stW ha100;obtain⟨τ0,B⟩:∃τ,Wo ⟨m,zr4 ca100⟩ f τ m 1 ca100 l:=⟨_,ha100.wo 1⟩;refine zvp ?_;unfold zut at hp;intro R0 Oa
 have hgo:∀(s:Nat) (F:Int) (G:Int) (h:List Evt) (I:M) (p:Nat->Nat),St ⟨m,zr4 ca100⟩ f f I->Wo ⟨m,zr4 ca100⟩ f p I 1 ca100 h->zus n cmp s F G h=some rz->R0 [.c (Il F),.c (Il G)] I:=by
  intro s
  induction s with
  | zero=>intro F G h I p g B hp; cases hp
  | succ s ba=>
   intro F G h I p g B hp;refine Oa _ _ _ ?_;rw[zus] at hp;refine ifd hp (fun ca hp=>?_) fun ca hp=>?_
   ·obtain⟨Ua,da,hp⟩:=zrK hp;refine zwu (l:=h) (a:=F) (b:=G) (cmp:=cmp) g.pre (B.wg g) ha300 da fun m5 ea S=>?_;obtain⟨fa,Va,ga⟩:=B.callX g ea S;refine⟨rfl,?_⟩;refine gdi hp fun ha hp=>?_;exact ba _ _ _ _ p fa ga hp
   obtain⟨Wa,ia,hp⟩:=zrK hp;refine zwu (l:=h) (a:=F) (b:=n) (cmp:=cmp) g.pre (B.wg g) ha300 ia fun m7 ja T=>?_;obtain⟨ka,Xa,d⟩:=B.callX g ja T;refine⟨rfl,?_⟩;intro R8 Pa
   have hgo:∀(q:Nat) (x9:Int) (J:Int) (N:Int) (O:Int) (r:Int) (t:List Evt) (y:M) (u:Nat->Nat),St ⟨m,zr4 ca100⟩ f f y->Wo ⟨m,zr4 ca100⟩ f u y 1 ca100 t->zur n cmp q r t=some rz->R8 [.c (Il x9),.c (Il J),.c (Il N),.c (Il O),.c (Il r)] y:=by
    intro q
    induction q with
    | zero=>intro x9 J N O r t y u D d hp; cases hp
    | succ q P=>
     intro x9 J N O r t y u D d hp;refine Pa _ _ _ _ _ _ ?_;rw[zur] at hp;refine ifd hp (fun ma hp=>?_) fun ma hp=>?_; rotate_left
     ·obtain rfl:=oi hp;exact hq _ D.extX d.wn
     refine gdi hp fun na hp=>?_;refine gdi hp fun oa hp=>?_;refine gdi hp fun pa hp=>?_;intro Qa qa
     have hgo:∀(w:Nat) (o:Int) (z:Int) (i:List Evt) (A:M) (j:Nat->Nat),St ⟨m,zr4 ca100⟩ f f A->Wo ⟨m,zr4 ca100⟩ f j A 1 ca100 i->zuq n cmp r (zur n cmp q) w o z i=some rz->Qa [.c (Il o),.c (Il z)] A:=by
      intro w
      induction w with
      | zero=>intro o z i A j e d hp; cases hp
      | succ w Y=>
       intro o z i A j e d hp;refine qa _ _ _ ?_;rw[zuq] at hp;refine ifd hp (fun sa hp=>?_) fun sa hp=>?_
       ·refine gdi hp fun ta hp=>?_;obtain⟨Za,ua,hp⟩:=zrK hp;refine zwv (l:=i) (a:=o) (m:=(o+r)) (b:=z) (cmp:=cmp) e.pre (d.wg e) ha300 ua fun db va Z=>?_;obtain⟨wa,ab,xa⟩:=d.callX e va Z;refine⟨rfl,?_⟩;refine gdi hp fun ya hp=>?_;refine gdi hp fun za hp=>?_;refine gdi hp fun Aa hp=>?_;refine gdi hp fun Ba hp=>?_;exact Y _ _ _ _ j wa xa hp
       refine gdi hp fun Ca hp=>?_;refine ifd hp (fun Da hp=>?_) fun Da hp=>?_; rotate_left
       ·refine gdi hp fun Ea hp=>?_;refine gdi hp fun Fa hp=>?_;refine gdi hp fun Ga hp=>?_;exact P _ _ _ _ _ _ _ j e d hp
       obtain⟨bb,Ha,hp⟩:=zrK hp;refine zwv (l:=i) (a:=o) (m:=(o+r)) (b:=n) (cmp:=cmp) e.pre (d.wg e) ha300 Ha fun eb Ia aa=>?_;obtain⟨Ja,cb,Ka⟩:=d.callX e Ia aa;refine⟨rfl,?_⟩;refine gdi hp fun La hp=>?_;refine gdi hp fun Ma hp=>?_;refine gdi hp fun Na hp=>?_;exact P _ _ _ _ _ _ _ j Ja Ka hp
     exact hgo _ _ _ _ _ u D d hp
   exact hgo _ _ _ _ _ _ _ _ p ka d hp
 exact hgo _ _ _ _ _ τ0 S0 B hp
theorem zw9{l:List Evt}{cmp:Evt->Evt->Option (Int)}{ca100 ca200:C}{m f:M}{Q:V->M->Prop}{rz:(Unit) × List Evt}(hS:Pre f m)(ha100:Wg f m ca100 l)(ha200:zvz f ca200 cmp)(hp:zuu l cmp=some rz)(hq:∀m',zsk (zr4 ca100) m m'->Wn m m' ca100 rz.2->Q (.tup []) m'):Wc prog tbl 118 [.c ca100,.c ca200] m Q:=by
 have e:=hS.stW ha100;obtain⟨q,a⟩:∃τ,Wo ⟨m,zr4 ca100⟩ f τ m 1 ca100 l:=⟨_,ha100.wo 1⟩;refine zvi ?_;unfold zuu at hp;refine⟨a.isSl,?_⟩
 try rw[a.slLen]
 obtain⟨o,g,hp⟩:=zrK hp;refine zw8 (l:=l) (n:=(l.length:Int)) (cmp:=cmp) e.pre (a.wg e) ha200 g fun r h d=>?_;obtain⟨i,p,j⟩:=a.callX e h d;refine⟨rfl,?_⟩;obtain rfl:=oi hp;exact hq _ i.extX j.wn
theorem zxa{w:Wk}{days:List Int}{ca102 ca103 ca200:C}{m f:M}{Q:V->M->Prop}{rz:List Evt}(hS:Pre f m)(_ha102:Sl f ca102 w.b.Parcels)(ha103:Sl f ca103 w.b.Entries)(ha200:Sl f ca200 days)(hp:zuw w days=some rz)(hq:∀m' f' c0,Grw m f m' f'->Sl f' c0 rz->Q (.c c0) m'):Wc prog tbl 97 [.agg 17 [Il w.b.Last,Il w.b.Owners,ca102,ca103,Il w.numbers,Il w.makes.m0,Il w.makes.m1,Il w.makes.m2,Il w.makes.m3,Il w.makes.m4,Il w.makes.m5,.bool w.out.o0,.bool w.out.o1,.bool w.out.o2,.bool w.out.o3,.bool w.out.o4,.bool w.out.o5],.c ca200] m Q:=by
 have S0:=hS.st;obtain⟨τ0,_⟩:=zs1;refine w97 ?_;unfold zuw at hp;intro m0 ja;obtain⟨ka,la,fb,J⟩:=S0.blk ja τ0 1;refine⟨trivial,trivial,_,J.bk.rc rfl,ha103.isSl,?_⟩
 try rw[ha103.slLen]
 obtain⟨gb,hp⟩:=zrL hp;obtain⟨n3,D⟩:∃n:Nat,(w.b.Entries.length:Int)=(n:Int):=⟨Int.toNat (w.b.Entries.length:Int),by omega⟩
 have Z:Int.toNat (w.b.Entries.length:Int)=n3:=by omega
 refine⟨0,n3,rfl,(by first|exact D|(rw[ha103.slLen];exact D)),Nat.zero_le _,(by omega),?_⟩;intro m4 ma;obtain⟨na,oa,pa,qa⟩:=la.blk ma ka 2;have sa:=Lb.mkQ (β:=Evt) (a:=({ e:=({ Kind:=(0:Int),Parcel:=(0:Int),Other:=(0:Int),From:=(0:Int),To:=(0:Int),Part:=(0:Int),Day:=({ Lo:=(0:Int),Hi:=(0:Int) }:Rg) }:En),on:=(0:Int),makes:=(0:Int) }:Evt)) qa rfl Z;have i:=J.k pa;refine⟨trivial,trivial,_,i.bk.rc rfl,ha103.isSl,?_⟩;intro R6 Ya
 have hgo:∀(p:Nat) (N:C) (x8:Int) (j:List Evt) (I:M) (o:Nat->Nat),St (Fm.of m) f f I->Lb (Fm.of m) f o I 1 m.nxt 17 [Il w.b.Last,Il w.b.Owners,ca102,ca103,Il w.numbers,Il w.makes.m0,Il w.makes.m1,Il w.makes.m2,Il w.makes.m3,Il w.makes.m4,Il w.makes.m5,.bool w.out.o0,.bool w.out.o1,.bool w.out.o2,.bool w.out.o3,.bool w.out.o4,.bool w.out.o5]->Oq (Fm.of m) f o I 2 N j (Int.toNat (w.b.Entries.length:Int))->zuv w days p j x8=some rz->R6 [.c N,.c (Il x8)] I:=by
  intro p
  induction p with
  | zero=>intro N x8 j I o h i g hp; cases hp
  | succ p O=>
   intro N x8 j I o h i g hp;refine Ya _ _ _ ?_;rw[zuv] at hp
   try rw[ha103.slLen]
   refine ifd hp (fun ta hp=>?_) fun ta hp=>?_; rotate_left
   ·have ba:zvz f ((C.fn (Fn.func 119) [] [])) (fun q s=>zuj q s):=by
     intro f' m' q s r Q hs hpre  hg hq;exact zwt hpre  hg hq
    obtain⟨ib,ua,hp⟩:=zrK hp;refine zw9 (l:=j) (cmp:=(fun q s=>zuj q s)) h.pre (g.wg h) ba ua fun ob va ca=>?_;obtain⟨wa,jb,xa⟩:=g.callX h va ca;refine⟨rfl,?_⟩;obtain⟨ya,za,kb,Aa⟩:=xa.freeze wa;obtain rfl:=oi hp;exact hq _ ya N za.grw Aa
   obtain⟨d,u,hp⟩:=zrK hp;obtain⟨Za,da,F,u⟩:=zrE u;obtain⟨_,Ba⟩:=zs7 ha103 u;refine⟨Za,da,(by first|exact F|(rw[ha103.slLen];exact F)),_,_,_,_,_,_,_,_,(Ba _ h.sub).1,?_⟩;intro pb Ca;obtain⟨Da,Ea,P,Fa⟩:=h.blk Ca o 3;have Ga:=i.k P;have g:=g.k P;obtain⟨Ha,Ia,y,S,Ja⟩:=Fa.sto Ea [Il d.Kind,Il d.Parcel,Il d.Other,Il d.From,Il d.To,Il d.Part,Il d.Day.Lo,Il d.Day.Hi];have t:=Ga.k S;have g:=g.k S;refine⟨Ha,Ia,?_⟩;refine⟨trivial,trivial,?_⟩;obtain⟨mb,z,hp⟩:=zrK hp;obtain⟨ab,ea,fa,z⟩:=zrE z;refine⟨ab,ea,fa,_,(t.bk.rc (zr5 (l:=([w.out.o0,w.out.o1,w.out.o2,w.out.o3,w.out.o4,w.out.o5]:List Bool)) (enc:=C.bool) 11 rfl z)),?_⟩;refine zsb hp (fun Ka hp=>?_) fun Ka hp=>?_; rotate_left
   ·refine gdi hp fun La hp=>?_;exact O _ _ _ _ Da y t g hp
   refine⟨_,_,_,_,_,_,_,_,Ja.bk.ra,?_⟩;obtain⟨T,A,hp⟩:=zrK hp;obtain⟨bb,ga,G,A⟩:=zrE A;refine⟨bb,ga,(by first|exact G|(rw[ha200.slLen];exact G)),_,(ha200.rdI A y.sub),trivial,trivial,?_⟩;obtain⟨Y,B,hp⟩:=zrK hp;obtain⟨cb,ha,ia,B⟩:=zrE B;refine⟨cb,ha,ia,_,(t.bk.rc (zr5 (l:=([w.makes.m0,w.makes.m1,w.makes.m2,w.makes.m3,w.makes.m4,w.makes.m5]:List Int)) (enc:=(C.int .i64)) 5 rfl B)),?_⟩;obtain⟨Ma,hp⟩:=zrL hp;intro qb Na;obtain⟨Oa,Pa,Qa,Ra,Sa,Ta,Ua⟩:=g.app' zw7 y (a:=({ e:=d,on:=T,makes:=Y }:Evt)) (show Rp.rep (α:=Evt) f _ ({ e:=d,on:=T,makes:=Y }:Evt) from rfl) Ma Na;have Va:=t.k Ta;refine⟨Oa,Pa,Ra,?_⟩;refine gdi hp fun Wa hp=>?_;exact O _ _ _ _ Qa Sa Va Ua hp
 exact hgo _ _ _ _ _ na oa i sa hp
theorem zxb{w:Wk}{t:Tr}{day:Int}{ca102 ca103 ca200 ca201:C}{m f:M}{Q:V->M->Prop}{rz:List Pl × Bool}(hS:Pre f m)(ha102:Sl f ca102 w.b.Parcels)(ha103:Sl f ca103 w.b.Entries)(ha200:Sl f ca200 t.Days)(ha201:Sl f ca201 t.Sown)(hp:zuy w t day=some rz)(hq:∀m',Ext m m'->Q (.tup [.agg 50 (zta rz.1),.c (.bool rz.2)]) m'):Wc prog tbl 64 [.agg 17 [Il w.b.Last,Il w.b.Owners,ca102,ca103,Il w.numbers,Il w.makes.m0,Il w.makes.m1,Il w.makes.m2,Il w.makes.m3,Il w.makes.m4,Il w.makes.m5,.bool w.out.o0,.bool w.out.o1,.bool w.out.o2,.bool w.out.o3,.bool w.out.o4,.bool w.out.o5],.agg 2 [ca200,ca201],.c (Il day)] m Q:=by
 have S0:=hS.st;obtain⟨τ0,_⟩:=zs1;refine w64 ?_;unfold zuy at hp;intro m0 Ea;obtain⟨Fa,Ga,pc,Ha⟩:=S0.blk Ea τ0 1;intro m1 Ia;obtain⟨Ja,Ka,La,Ma⟩:=Ga.blk Ia Fa 2;have Na:=Ha.k La;intro m2 Oa;obtain⟨ha,ia,ja,G⟩:=Ka.blk Oa Ja 3
 replace G:Lb _ _ _ _ _ _ _ (zta (List.replicate 10 ({ owner:=(0:Int),value:=(0:Int),there:=false,harvested:=false,sown:=(0:Int) }:Pl))):=G
 have ka:=Na.k ja;have la:=Ma.k ja;refine⟨_,_,_,_,_,_,_,_,_,_,_,_,_,_,_,_,_,ka.bk.ra,trivial,_,la.bk.rc rfl,?_⟩;obtain⟨Pa,Qa,hp⟩:=zrK hp;refine zwq (w:=w) (sown:=t.Sown) ia.pre ha102 ha103 ha201 Qa fun ic Ra=>?_;obtain⟨Sa,I⟩:=ia.call Ra ha;have Ta:=ka.k I;have Ua:=la.k I;have Va:=G.k I;refine⟨_,rfl,?_⟩;intro zc Wa;obtain⟨ma,Xa,J,N⟩:=Sa.blk Wa ha 4
 replace N:Lb _ _ _ _ _ _ _ (zta (List.replicate 10 ({ owner:=(0:Int),value:=(0:Int),there:=false,harvested:=false,sown:=(0:Int) }:Pl))):=N
 have Ya:=Ta.k J;have Za:=Ua.k J;have ab:=Va.k J;obtain⟨bb,cb,db,O,na⟩:=N.sto Xa (zta Pa);have eb:=Ya.k O;have fb:=Za.k O;have gb:=ab.k O;refine⟨bb,cb,?_⟩;refine⟨0,10,rfl,rfl,_,zss (by decide),0,10,rfl,rfl,_,zss (by decide),?_⟩;obtain⟨qc,hp⟩:=zrL hp;obtain⟨hb,Aa,oa,P,ib⟩:=gb.cpA zw5 db na.bk (by rw[ztc]; omega) (by rw[ztc]; omega) (n:=10) (by decide) (by decide);refine⟨_,hb,Aa,?_⟩;have pa:=eb.k P;have qa:=fb.k P;have jb:=na.k P;refine⟨_,_,_,_,_,_,_,_,_,_,_,_,_,_,_,_,_,pa.bk.ra,trivial,_,qa.bk.rc rfl,?_⟩;obtain⟨kb,mb,hp⟩:=zrK hp;refine zxa (w:=w) (days:=t.Days) oa.pre ha102 ha103 ha200 mb fun Ac sa sc ob p=>?_;obtain⟨pb,q⟩:=oa.callG ob ma;have r:=pa.k q;have s:=qa.k q;have i:=ib.k q;have u:=jb.k q;refine⟨_,rfl,p.isSl,?_⟩;intro jc qb
 have hgo:∀(y:Nat) (ta:Bool) (ea:Int) (o:List Pl) (z:List Pl) (j:M) (d:M) (g:Nat->Nat),St (Fm.of m) f d j->Sub sa d->Lb (Fm.of m) d g j 1 m.nxt 17 [Il w.b.Last,Il w.b.Owners,ca102,ca103,Il w.numbers,Il w.makes.m0,Il w.makes.m1,Il w.makes.m2,Il w.makes.m3,Il w.makes.m4,Il w.makes.m5,.bool w.out.o0,.bool w.out.o1,.bool w.out.o2,.bool w.out.o3,.bool w.out.o4,.bool w.out.o5]->Lb (Fm.of m) d g j 2 m0.nxt 2 [ca200,ca201]->Lb (Fm.of m) d g j 3 m1.nxt 50 (zta o)->Lb (Fm.of m) d g j 4 ic.nxt 50 (zta z)->zux day kb y o z ea=some rz->jc [.c (.bool ta),.c (Il ea)] j:=by
  intro y
  induction y with
  | zero=>intro ta ea o z j d g A l r s i u hp; cases hp
  | succ y fa=>
   intro ta ea o z j d g A l r s i u hp;refine qb _ _ _ ?_;rw[zux] at hp
   try rw[p.slLen]
   refine ifd hp (fun rb hp=>?_) fun rb hp=>?_; rotate_left
   ·refine⟨_,i.bk.ra,?_⟩;obtain⟨sb,tb,ub,tc,vb⟩:=i.sto A (zta o);refine⟨sb,tb,?_⟩;refine⟨_,vb.bk.ra,?_⟩;obtain rfl:=oi hp;exact hq _ ub.ext'
   obtain⟨a,S,hp⟩:=zrK hp;obtain⟨kc,Ba,ga,S⟩:=zrE S;obtain⟨_,wb⟩:=ztd p S;refine⟨kc,Ba,(by first|exact ga|(rw[p.slLen];exact ga)),_,_,_,_,_,_,_,_,_,_,(wb _ (Sub.trans l A.sub)).1,?_⟩;intro Bc xb;obtain⟨T,yb,B,zb⟩:=A.blk xb g 5;have Ab:=r.k B;have Bb:=s.k B;have Cb:=i.k B;have Db:=u.k B;obtain⟨Eb,Fb,ua,D,Y⟩:=zb.sto yb [Il a.e.Kind,Il a.e.Parcel,Il a.e.Other,Il a.e.From,Il a.e.To,Il a.e.Part,Il a.e.Day.Lo,Il a.e.Day.Hi,Il a.on,Il a.makes];have Gb:=Ab.k D;have Hb:=Bb.k D;have Ib:=Cb.k D;have Jb:=Db.k D;refine⟨Eb,Fb,?_⟩;refine⟨trivial,trivial,_,Y.bk.rc rfl,?_⟩;obtain⟨uc,Kb,hp⟩:=zrK hp;refine zww (n:=a.e.Kind) ua.pre  Kb fun Cc va vc Mb Nb=>?_;obtain⟨Z,h⟩:=ua.callG Mb T;have Ob:=Gb.k h;have Pb:=Hb.k h;have Qb:=Ib.k h;have wa:=Jb.k h;have xa:=Y.k h;refine⟨_,rfl,_,_,_,_,_,_,_,_,_,_,xa.bk.ra,(Y.bk.ra),?_⟩;obtain⟨wc,Rb,hp⟩:=zrK hp;refine Nb _ _ _ _ _ _ _ (Sub.refl _) Z.pre (wa.lc Z)  Rb fun Dc Sb Ca=>?_;obtain⟨aa,F,ba⟩:=wa.callX Z Sb Ca;have ya:=Ob.k F;have za:=Pb.k F;have ca:=Qb.k F;have Tb:=xa.k F;refine⟨_,rfl,?_⟩;refine zsb hp (fun Ub hp=>?_) fun Ub hp=>?_
   ·obtain⟨Vb,Wb,Xb,xc,Yb⟩:=ca.sto aa (zta (List.replicate 10 ({ owner:=(0:Int),value:=(0:Int),there:=false,harvested:=false,sown:=(0:Int) }:Pl)));refine⟨Vb,Wb,?_⟩;refine⟨_,Yb.bk.ra,?_⟩;obtain rfl:=oi hp;exact hq _ Xb.ext'
   refine⟨trivial,_,Tb.bk.rc rfl,?_⟩;refine ifd hp (fun Zb hp=>?_) fun Zb hp=>?_; rotate_left
   ·refine gdi hp fun ac hp=>?_;exact fa _ _ _ _ _ va T aa (Sub.trans l h.fs) ya za ca ba hp
   refine⟨0,10,rfl,rfl,_,zss (by decide),0,10,rfl,rfl,_,zss (by decide),?_⟩;obtain⟨yc,hp⟩:=zrL hp;obtain⟨bc,Da,cc,da,dc⟩:=ca.cpA zw5 aa ba.bk (by rw[ztc]; omega) (by rw[ztc]; omega) (n:=10) (by decide) (by decide);refine⟨_,bc,Da,?_⟩;have ec:=ya.k da;have fc:=za.k da;have gc:=ba.k da;refine gdi hp fun hc hp=>?_;exact fa _ _ _ _ _ va T cc (Sub.trans l h.fs) ec fc dc gc hp
 exact hgo _ _ _ _ _ _ sa ma pb (Sub.refl _) r s i u hp
theorem zxc{w:Wk}{bq0:Nat}{cb002 cb003:C}{m f:M}{F:Fm}{n0 ly:Nat}{xs:List Tr}{I:Nat->(Nat->Prop)->M->Prop}{E:(Nat->Prop)->M->Prop}{S1:Nat->Prop}{Q:V->M->Prop}{rz:List Tr}{τ0:Nat->Nat}(hc:zsh prog tbl n0 ly (VsW xs F.m.nxt) I E)(S0:St F f f m)(Y0:Yg n0 (YJW xs I rz) S1 F f τ0 m)(hb0:Bk f bq0 17 [(.int .i64 w.b.Last),(.int .i64 w.b.Owners),cb002,cb003,(.int .i64 w.numbers),(.int .i64 w.makes.m0),(.int .i64 w.makes.m1),(.int .i64 w.makes.m2),(.int .i64 w.makes.m3),(.int .i64 w.makes.m4),(.int .i64 w.makes.m5),.bool w.out.o0,.bool w.out.o1,.bool w.out.o2,.bool w.out.o3,.bool w.out.o4,.bool w.out.o5])(hb002:Sl f cb002 w.b.Parcels)(hb003:Sl f cb003 w.b.Entries)(hp:zuB w=some rz)(hq:∀v m' f' τ' S',St F f f' m'->(Yg n0 (YJW xs I ([]:List Tr)) S' F f' τ' m'\/Yg n0 E S' F f' τ' m')->Q v m'):Wc prog tbl 114 [.c (.fn (.yield ly) [] []),.c (.ptr bq0 0)] m Q:=by
 have hN0:F.m.nxt<=m.nxt:=S0.ext.nxt;refine zu3 ?_;unfold zuB at hp;intro m0 e729;obtain⟨τ732,S730,k731,L733⟩:=S0.blk e729 τ0 1;have Y734:=Y0.k k731 (by decide);refine⟨trivial,trivial,_,(hb0.sub S730.sub).rc rfl,hb003.isSl,?_⟩;intro m2 e735;obtain⟨τ738,S736,k737,L739⟩:=S730.blk e735 τ732 2;have L740:=L733.k k737 (by decide);have Y741:=Y734.k k737 (by decide)
 try rw[hb003.slLen]
 obtain⟨m745,e744,S742,k743,L746⟩:=L739.sto S736 [(.int .i64 (w.b.Entries.length:Int))];have L747:=L740.k k743 (by decide);have Y748:=Y741.k k743 (by decide);refine⟨m745,e744,?_⟩;refine⟨_,_,_,_,_,_,_,_,_,_,_,_,_,_,_,_,_,(hb0.sub S742.sub).ra,?_⟩;obtain⟨r749,g750,hp⟩:=zrK hp;refine zwh (w:=w) S742.pre hb002 hb003 g750 fun m22 f754 c755 e753 h756=>?_;obtain⟨S751,k752⟩:=S742.callG e753 τ738;have L757:=L747.k k752 (by decide);have L758:=L746.k k752 (by decide);have Y759:=Y748.k k752 (by decide);refine⟨_,rfl,?_⟩;obtain⟨r760,g761,hp⟩:=zrK hp;refine zwH (l:=r749) S751.pre h756 g761 fun m25 f765 c766 e764 h767=>?_;obtain⟨S762,k763⟩:=S751.callG e764 τ738;have L768:=L757.k k763 (by decide);have L769:=L758.k k763 (by decide);have Y770:=Y759.k k763 (by decide);refine⟨_,rfl,?_⟩;have hN777:F.m.nxt<=m25.nxt:=S762.ext.nxt
 refine zsD (α:=List Int) S762 h767 (σ:=(List Tr) × (Nat->Prop) × Bool) 3 (fun st bb=>(False\/(False\/(st.2.1 bb)))) (fun st gG gF gT gM=>(Lb gG gF gT gM 1 m.nxt 1 [(.fn (.yield ly) [] [])])/\(Lb gG gF gT gM 2 m0.nxt 1 [(.int .i64 (w.b.Entries.length:Int))])/\(Yg n0 (YDW xs I E st.2.2 st.1) st.2.1 gG gF gT gM)) (fun rr_ st=>st.2.2=false/\zuA w rr_=some st.1) (fun ex st=>(match ex with | .ret=>st.2.2=true\/(st.2.2=false/\(0:Nat)=0/\zuz=some st.1) | _=>False)) (fun st=>(Gux.and (Gux.lb L768.bk.lt (by decide)) (Gux.and (Gux.lb L769.bk.lt (by decide)) (Gux.yg Y770.n (by decide))))) (st0:=(rz,S1,false)) (τ:=τ738) ⟨L768,L769,Y770⟩ ⟨rfl,hp⟩ ?_ ?_ ?_ ?_
 ·intro a782 q783 st f784 τ785 m28 F786 o787 Ok788 en789 Kn790 _ _ S791 s792 hA rk793 hp hrep hX796 he794 hk795;obtain⟨c797,rfl,⟨h798,x800⟩⟩:=hrep
  have xt799:Xt F.m.nxt τ785 m28 c797:=fun b o k s d he=>by have:=hX796 b (x800 b o k s d he); exact⟨by omega,this.2⟩
  obtain⟨r773,s774,d775⟩:=st;obtain⟨hdd,hp⟩:=hp
  replace hdd:d775=false:=hdd
  subst hdd;obtain⟨L771,L772,Y776⟩:=hA
  replace L771:Lb F786 f784 τ785 m28 1 m.nxt 1 [(.fn (.yield ly) [] [])]:=L771
  replace L772:Lb F786 f784 τ785 m28 2 m0.nxt 1 [(.int .i64 (w.b.Entries.length:Int))]:=L772
  replace Y776:Yg n0 (YJW xs I r773) s774 F786 f784 τ785 m28:=Y776
  replace hp:zuA w (a782::q783)=some r773:=hp
  rw[zuA] at hp;refine⟨_,rfl,?_⟩;refine he794 _ _ _ _ S791 rk793 fun m32 o804 S801 k802 rk803 hO805=>?_;have L806:=L771.k k802 (by decide);have L807:=L772.k k802 (by decide);have Y808:=Y776.k k802 (by decide);have xt799:=xt799.k k802;refine⟨_,L806.bk.rc rfl,_,L807.bk.rc rfl,?_⟩;obtain⟨g812,hp⟩:=zrL hp;obtain⟨c809,r810,h811⟩:=h798.subC (i:=Int.toNat (0:Int)) (j:=Int.toNat (w.b.Entries.length:Int)) (by omega) (by omega);refine⟨_,_,rfl,(show(w.b.Entries.length:Int)=((Int.toNat (w.b.Entries.length:Int):Nat):Int) by omega),c809,r810,?_⟩;have xt813:=xt799.sub r810;refine⟨_,L807.bk.rc rfl,?_⟩
  try rw[h798.slLen]
  obtain⟨g817,hp⟩:=zrL hp;obtain⟨c814,r815,h816⟩:=h798.subC (i:=Int.toNat (w.b.Entries.length:Int)) (j:=Int.toNat (a782.length:Int)) (by omega) (by omega);refine⟨_,_,(show(w.b.Entries.length:Int)=((Int.toNat (w.b.Entries.length:Int):Nat):Int) by omega),rfl,c814,r815,?_⟩;have xt818:=xt799.sub r815;obtain⟨r819,hp821,hz820⟩:=zrK hp
  clear hp
  obtain rfl:=oi hz820;have hp:=hp821;refine Yg.yieldW (a:=({ Days:=((a782.take (Int.toNat (w.b.Entries.length:Int))).drop (Int.toNat (0:Int))),Sown:=((a782.take (Int.toNat (a782.length:Int))).drop (Int.toNat (w.b.Entries.length:Int))) }:Tr)) hc S801 Y808 (fun X9 hX9=>⟨c809,c814,rfl,⟨h811.sub S801.sub,xt813.x hX9⟩,⟨h816.sub S801.sub,xt818.x hX9⟩⟩) ?_ ?_
  ·intro m43 τ822 s826 S823 k824 Y825;have L827:=L806.k k824 (by decide);have L828:=L807.k k824 (by decide);have rk829:=rk803.k k824 (by decide);have xt799:=xt799.k k824;have xt813:=xt813.k k824;have xt818:=xt818.k k824;refine⟨_,rfl,?_⟩;refine zsc ?_;exact hk795 .nrm (r819,s826,false) _ _ _ _ S823 ⟨L827,L828,Y825⟩ rk829 hO805 ⟨rfl,hp⟩
  ·intro m43 τ830 s834 S831 k832 Y833;have L835:=L806.k k832 (by decide);have L836:=L807.k k832 (by decide);have rk837:=rk803.k k832 (by decide);have xt799:=xt799.k k832;have xt813:=xt813.k k832;have xt818:=xt818.k k832;refine⟨_,rfl,?_⟩;refine zsd ?_;exact hk795 .ret ([],s834,true) _ _ _ _ S831 ⟨L835,L836,Y833⟩ rk837 hO805 (.inl rfl)
 ·intro st f838 τ840 m45 S841 s839 hA hp;obtain⟨r773,s774,d775⟩:=st;obtain⟨hdd,hp⟩:=hp
  replace hdd:d775=false:=hdd
  subst hdd
  replace hp:zuA w []=some r773:=hp
  obtain⟨L771,L772,Y776⟩:=hA
  replace L771:Lb F f838 τ840 m45 1 m.nxt 1 [(.fn (.yield ly) [] [])]:=L771
  replace L772:Lb F f838 τ840 m45 2 m0.nxt 1 [(.int .i64 (w.b.Entries.length:Int))]:=L772
  replace Y776:Yg n0 (YJW xs I r773) s774 F f838 τ840 m45:=Y776
  rw[zuA] at hp;obtain rfl:=oi hp;exact hq _ _ _ _ _ S841 (.inl Y776)
 ·intro id st _ _ _ _ _ _ hn; first | exact hn.elim | (cases hn)
 ·intro st f778 τ780 m46 S781 s779 hA hn;obtain⟨r773,s774,d775⟩:=st
  rcases hn with hd | ⟨hd,hid,hp⟩
  ·replace hd:d775=true:=hd
   subst hd;obtain⟨L771,L772,Y776⟩:=hA
   replace L771:Lb F f778 τ780 m46 1 m.nxt 1 [(.fn (.yield ly) [] [])]:=L771
   replace L772:Lb F f778 τ780 m46 2 m0.nxt 1 [(.int .i64 (w.b.Entries.length:Int))]:=L772
   replace Y776:Yg n0 E s774 F f778 τ780 m46:=Y776
   exact hq _ _ _ _ _ S781 (.inr Y776)
  replace hd:d775=false:=hd
  subst hd
  replace hp:zuz=some r773:=hp
  unfold zuz at hp;obtain⟨L771,L772,Y776⟩:=hA
  replace L771:Lb F f778 τ780 m46 1 m.nxt 1 [(.fn (.yield ly) [] [])]:=L771
  replace L772:Lb F f778 τ780 m46 2 m0.nxt 1 [(.int .i64 (w.b.Entries.length:Int))]:=L772
  replace Y776:Yg n0 (YJW xs I r773) s774 F f778 τ780 m46:=Y776
  obtain rfl:=oi hp;exact hq _ _ _ _ _ S781 (.inl Y776)
theorem zxd{w:Wk}{ca102 ca103:C}{m f:M}{Q:V->M->Prop}{rz:List Tr}(hS:Pre f m)(ha102:Sl f ca102 w.b.Parcels)(ha103:Sl f ca103 w.b.Entries)(hp:zuC w=some rz)(hq:∀m' f' c0,Grw m f m' f'->ItW prog tbl f' c0 rz->Q (.c c0) m'):Wc prog tbl 89 [.agg 17 [Il w.b.Last,Il w.b.Owners,ca102,ca103,Il w.numbers,Il w.makes.m0,Il w.makes.m1,Il w.makes.m2,Il w.makes.m3,Il w.makes.m4,Il w.makes.m5,.bool w.out.o0,.bool w.out.o1,.bool w.out.o2,.bool w.out.o3,.bool w.out.o4,.bool w.out.o5]] m Q:=by
 have p:=hS.st;obtain⟨q,_⟩:=zs1;refine w89 ?_;unfold zuC at hp;intro m0 i;obtain⟨r,j,s,l⟩:=p.blk i q 1;obtain⟨d,a,e,g⟩:=l.freeze j;obtain⟨n,o,hp⟩:=zrK hp;have h:ItW prog tbl d ((C.fn (Fn.func 114) [] [(W.c (C0.ptr m.nxt 0))])) n:=zsC a.fz a.fv fun t ly I E m1 u hc y z hS hY Q hq=>zxc hc hS hY g (ha102.sub e.fs) (ha103.sub e.fs) o hq;obtain rfl:=oi hp;exact hq _ d (C.fn (Fn.func 114) [] [(W.c (C0.ptr m.nxt 0))]) a.grw h
theorem zxe{w:Wk}{t:Tr}{ca102 ca103 ca200 ca201:C}{m f:M}{Q:V->M->Prop}{rz:Bool}(hS:Pre f m)(ha102:Sl f ca102 w.b.Parcels)(ha103:Sl f ca103 w.b.Entries)(ha200:Sl f ca200 t.Days)(ha201:Sl f ca201 t.Sown)(hp:zuD w t=some rz)(hq:∀m',Ext m m'->Q (.c (.bool rz)) m'):Wc prog tbl 66 [.agg 17 [Il w.b.Last,Il w.b.Owners,ca102,ca103,Il w.numbers,Il w.makes.m0,Il w.makes.m1,Il w.makes.m2,Il w.makes.m3,Il w.makes.m4,Il w.makes.m5,.bool w.out.o0,.bool w.out.o1,.bool w.out.o2,.bool w.out.o3,.bool w.out.o4,.bool w.out.o5],.agg 2 [ca200,ca201]] m Q:=by
 have F:=hS.st;obtain⟨G,_⟩:=zs1;refine w66 ?_;unfold zuD at hp;intro m0 h;obtain⟨i,j,I,l⟩:=F.blk h G 1;intro m1 n;obtain⟨d,e,o,p⟩:=j.blk n i 2;have g:=l.k o;refine⟨_,_,_,_,_,_,_,_,_,_,_,_,_,_,_,_,_,g.bk.ra,_,_,p.bk.ra,trivial,trivial,_,g.bk.rc rfl,?_⟩;obtain⟨q,r,hp⟩:=zrK hp;refine zxb (w:=w) (t:=t) (day:=w.b.Last) e.pre ha102 ha103 ha200 ha201 r fun T s=>?_;obtain⟨u,J⟩:=e.call s d;refine⟨_,_,rfl,?_⟩;intro Y y;obtain⟨N,z,O,a⟩:=u.blk y d 3
 replace a:Lb _ _ _ _ _ _ _ (zta (List.replicate 10 ({ owner:=(0:Int),value:=(0:Int),there:=false,harvested:=false,sown:=(0:Int) }:Pl))):=a
 obtain⟨A,B,D,P,S⟩:=a.sto z (zta q.1);refine⟨A,B,?_⟩;obtain rfl:=oi hp;exact hq _ D.ext'
theorem zxf{w:Wk}{ca102 ca103:C}{m f:M}{Q:V->M->Prop}{rz:Bool}(hS:Pre f m)(ha102:Sl f ca102 w.b.Parcels)(ha103:Sl f ca103 w.b.Entries)(hp:zuG w=some rz)(hq:∀m',Ext m m'->Q (.c (.bool rz)) m'):Wc prog tbl 91 [.agg 17 [Il w.b.Last,Il w.b.Owners,ca102,ca103,Il w.numbers,Il w.makes.m0,Il w.makes.m1,Il w.makes.m2,Il w.makes.m3,Il w.makes.m4,Il w.makes.m5,.bool w.out.o0,.bool w.out.o1,.bool w.out.o2,.bool w.out.o3,.bool w.out.o4,.bool w.out.o5]] m Q:=by
 have S0:=hS.st;obtain⟨τ0,_⟩:=zs1;refine w91 ?_;unfold zuG at hp;intro m0 ja;obtain⟨ka,la,kb,ma⟩:=S0.blk ja τ0 1;intro m1 na;obtain⟨r,s,oa,pa⟩:=la.blk na ka 2;have u:=ma.k oa;refine⟨_,_,_,_,_,_,_,_,_,_,_,_,_,_,_,_,_,u.bk.ra,?_⟩;obtain⟨mb,qa,hp⟩:=zrK hp;refine zxd (w:=w) s.pre ha102 ha103 qa fun wb ob pb sa ta=>?_;obtain⟨ua,g⟩:=s.callG sa r;have y:=u.k g;have z:=pa.k g;refine⟨_,rfl,?_⟩
 refine zsD (α:=Tr) ua ta (σ:=Bool) 3 (fun st bb=>(False\/False)) (fun st gG gF gT gM=>(Lb gG gF gT gM 1 m.nxt 17 [Il w.b.Last,Il w.b.Owners,ca102,ca103,Il w.numbers,Il w.makes.m0,Il w.makes.m1,Il w.makes.m2,Il w.makes.m3,Il w.makes.m4,Il w.makes.m5,.bool w.out.o0,.bool w.out.o1,.bool w.out.o2,.bool w.out.o3,.bool w.out.o4,.bool w.out.o5])/\(Lb gG gF gT gM 2 m0.nxt 1 [.bool st])) (fun rr_ st=>zuF w rr_ st=some rz) (fun ex st=>(match ex with | .ret=>(0:Nat)=0/\zuE st=some rz | _=>False)) (fun st=>(Gux.and (Gux.lb y.bk.lt (by decide)) (Gux.lb z.bk.lt (by decide)))) (st0:=(false)) (τ:=r) ⟨y,z⟩ hp ?_ ?_ ?_ ?_
 ·intro A va d B h ga D qb eb fb gb _ _ wa F hA aa hp hrep hb ba o;obtain⟨xa,ya,rfl,⟨za,_⟩,⟨Aa,_⟩⟩:=hrep;obtain⟨e,a⟩:=hA
  replace e:Lb D B h ga 1 m.nxt 17 [Il w.b.Last,Il w.b.Owners,ca102,ca103,Il w.numbers,Il w.makes.m0,Il w.makes.m1,Il w.makes.m2,Il w.makes.m3,Il w.makes.m4,Il w.makes.m5,.bool w.out.o0,.bool w.out.o1,.bool w.out.o2,.bool w.out.o3,.bool w.out.o4,.bool w.out.o5]:=e
  replace a:Lb D B h ga 2 m0.nxt 1 [.bool d]:=a
  replace hp:zuF w (A::va) d=some rz:=hp
  rw[zuF] at hp;refine⟨_,_,rfl,?_⟩;intro xb Ba;obtain⟨Ca,Da,i,Ea⟩:=wa.blk Ba h 4;have Fa:=e.k i;have Ga:=a.k i;have ca:=aa.k i;obtain⟨Ha,Ia,Ja,j,Ka⟩:=Ea.sto Da [xa,ya];have La:=Fa.k j;have Ma:=Ga.k j;have da:=ca.k j;refine⟨Ha,Ia,?_⟩;refine ba _ _ _ _ Ja da fun yb rb G l ea p=>?_;have I:=La.k l;have Na:=Ma.k l;have Oa:=Ka.k l;refine⟨_,_,_,_,_,_,_,_,_,_,_,_,_,_,_,_,_,I.bk.ra,_,_,Oa.bk.ra,?_⟩;obtain⟨sb,Pa,hp⟩:=zrK hp;refine zxe (w:=w) (t:=A) G.pre (ha102.sub (Sub.trans g.fs F)) (ha103.sub (Sub.trans g.fs F)) za Aa Pa fun zb Qa=>?_;obtain⟨J,n⟩:=G.call Qa Ca;have N:=I.k n;have O:=Na.k n;have q:=ea.k n;refine⟨_,rfl,?_⟩;refine zsa hp (fun Ra hp=>?_) fun Ra hp=>?_; rotate_left
  ·exact o .nrm (d) _ _ _ _ J ⟨N,O⟩ q p hp
  obtain⟨Sa,Ta,Ua,P,Va⟩:=O.sto J [.bool true];have Wa:=N.k P;have fa:=q.k P;refine⟨Sa,Ta,?_⟩;exact o .ret (true) _ _ _ _ Ua ⟨Wa,Va⟩ fa p ⟨rfl,hp⟩
 ·intro d S T ha Xa tb hA hp
  replace hp:zuF w [] d=some rz:=hp
  obtain⟨e,a⟩:=hA
  replace e:Lb (Fm.of m) S T ha 1 m.nxt 17 [Il w.b.Last,Il w.b.Owners,ca102,ca103,Il w.numbers,Il w.makes.m0,Il w.makes.m1,Il w.makes.m2,Il w.makes.m3,Il w.makes.m4,Il w.makes.m5,.bool w.out.o0,.bool w.out.o1,.bool w.out.o2,.bool w.out.o3,.bool w.out.o4,.bool w.out.o5]:=e
  replace a:Lb (Fm.of m) S T ha 2 m0.nxt 1 [.bool d]:=a
  rw[zuF] at hp;obtain⟨Ya,Za,ab,ub,cb⟩:=a.sto Xa [.bool false];refine⟨Ya,Za,?_⟩;refine⟨_,cb.bk.rc rfl,?_⟩;obtain rfl:=oi hp;exact hq _ ab.ext'
 ·intro id st _ _ _ _ _ _ hn; first | exact hn.elim | (cases hn)
 ·intro d Y Z ia db vb hA hn;obtain⟨hid,hp⟩:=hn
  replace hp:zuE d=some rz:=hp
  unfold zuE at hp;obtain⟨e,a⟩:=hA
  replace e:Lb (Fm.of m) Y Z ia 1 m.nxt 17 [Il w.b.Last,Il w.b.Owners,ca102,ca103,Il w.numbers,Il w.makes.m0,Il w.makes.m1,Il w.makes.m2,Il w.makes.m3,Il w.makes.m4,Il w.makes.m5,.bool w.out.o0,.bool w.out.o1,.bool w.out.o2,.bool w.out.o3,.bool w.out.o4,.bool w.out.o5]:=e
  replace a:Lb (Fm.of m) Y Z ia 2 m0.nxt 1 [.bool d]:=a
  refine⟨_,a.bk.rc rfl,?_⟩;obtain rfl:=oi hp;exact hq _ db.ext'
theorem zxg{w:Wk}{last:Int}{ca102 ca103:C}{m f:M}{Q:V->M->Prop}{rz:Wk}(hS:Pre f m)(ha102:Sl f ca102 w.b.Parcels)(ha103:Sl f ca103 w.b.Entries)(hp:zuI w last=some rz)(hq:∀m' f' c2 c3,Grw m f m' f'->Sl f' c2 rz.b.Parcels->Sl f' c3 rz.b.Entries->Q (.agg 17 [Il rz.b.Last,Il rz.b.Owners,c2,c3,Il rz.numbers,Il rz.makes.m0,Il rz.makes.m1,Il rz.makes.m2,Il rz.makes.m3,Il rz.makes.m4,Il rz.makes.m5,.bool rz.out.o0,.bool rz.out.o1,.bool rz.out.o2,.bool rz.out.o3,.bool rz.out.o4,.bool rz.out.o5]) m'):Wc prog tbl 90 [.agg 17 [Il w.b.Last,Il w.b.Owners,ca102,ca103,Il w.numbers,Il w.makes.m0,Il w.makes.m1,Il w.makes.m2,Il w.makes.m3,Il w.makes.m4,Il w.makes.m5,.bool w.out.o0,.bool w.out.o1,.bool w.out.o2,.bool w.out.o3,.bool w.out.o4,.bool w.out.o5],.c (Il last)] m Q:=by
 have S0:=hS.st;obtain⟨τ0,_⟩:=zs1;refine w90 ?_;unfold zuI at hp;intro m0 fa;obtain⟨ga,ha,ta,ia⟩:=S0.blk fa τ0 1;intro m1 ja;obtain⟨ka,la,ma,B⟩:=ha.blk ja ga 2;have z:=ia.k ma;refine⟨trivial,trivial,_,z.bk.rc rfl,ha103.isSl,?_⟩;intro R3 oa
 have hgo:∀(A:Nat) (t:Int) (u:Int) (y:Int) (a:Int) (d:Int) (e:Int) (g:Int) (h:Int) (i:Int) (j:Int) (n:Bool) (o:Bool) (p:Bool) (q:Bool) (r:Bool) (s:Bool) (m5:M) (D:Nat->Nat),St (Fm.of m) f f m5->Lb (Fm.of m) f D m5 1 m.nxt 17 [Il u,Il y,ca102,ca103,Il a,Il d,Il e,Il g,Il h,Il i,Il j,.bool n,.bool o,.bool p,.bool q,.bool r,.bool s]->Lb (Fm.of m) f D m5 2 m0.nxt 17 [Il 0,Il 0,.sl0,.sl0,Il 0,Il 0,Il 0,Il 0,Il 0,Il 0,Il 0,.bool false,.bool false,.bool false,.bool false,.bool false,.bool false]->zuH w last A u y a d e g h i j n o p q r s t=some rz->R3 [.c (Il t)] m5:=by
  intro A
  induction A with
  | zero=>intro t u y a d e g h i j n o p q r s m5 D J z B hp; cases hp
  | succ A na=>
   intro t u y a d e g h i j n o p q r s m5 D J z B hp;refine oa _ _ ?_;rw[zuH] at hp
   try rw[ha103.slLen]
   refine ifd hp (fun N hp=>?_) fun N hp=>?_; rotate_left
   ·refine⟨_,_,_,_,_,_,_,_,_,_,_,_,_,_,_,_,_,z.bk.ra,?_⟩;obtain⟨O,P,S,pa,T⟩:=B.sto J [Il u,Il y,ca102,ca103,Il a,Il d,Il e,Il g,Il h,Il i,Il j,.bool n,.bool o,.bool p,.bool q,.bool r,.bool s];refine⟨O,P,?_⟩;refine⟨_,_,_,_,_,_,_,_,_,_,_,_,_,_,_,_,_,T.bk.ra,?_⟩;obtain rfl:=oi hp;exact hq _ f ca102 ca103 S.grw ha102 ha103
   refine⟨trivial,trivial,?_⟩;obtain⟨Y,hp⟩:=zrL hp;obtain⟨n6,G,I⟩:=zr6 Y;refine⟨n6,G,I,?_⟩;obtain⟨Z,aa,ba,ca,F⟩:=z.sta J (pre:=[Il u,Il y,ca102,ca103,Il a,Il d,Il e,Il g,Il h,Il i,Il j]) (post:=[]) (l:=([n,o,p,q,r,s]:List Bool)) (enc:=C.bool) rfl rfl G I ((decide (last < t)))
   replace F:Lb _ _ _ _ _ _ _ [Il u,Il y,ca102,ca103,Il a,Il d,Il e,Il g,Il h,Il i,Il j,(.bool (sti t 0 (decide (last < t)) n)),(.bool (sti t 1 (decide (last < t)) o)),(.bool (sti t 2 (decide (last < t)) p)),(.bool (sti t 3 (decide (last < t)) q)),(.bool (sti t 4 (decide (last < t)) r)),(.bool (sti t 5 (decide (last < t)) s))]:=F
   have da:=B.k ca;refine⟨Z,aa,?_⟩;refine gdi hp fun ea hp=>?_;exact na _ _ _ _ _ _ _ _ _ _ _ _ _ _ _ _ _ D ba F da hp
 exact hgo _ _ _ _ _ _ _ _ _ _ _ _ _ _ _ _ _ _ ka la z B hp
theorem zxh{w:Wk}{list:List Int}{ca102 ca103 ca200:C}{m f:M}{Q:V->M->Prop}{rz:Wk}(hS:Pre f m)(ha102:Sl f ca102 w.b.Parcels)(ha103:Sl f ca103 w.b.Entries)(ha200:Sl f ca200 list)(hp:zuK w list=some rz)(hq:∀m' f' c2 c3,Grw m f m' f'->Sl f' c2 rz.b.Parcels->Sl f' c3 rz.b.Entries->Q (.agg 17 [Il rz.b.Last,Il rz.b.Owners,c2,c3,Il rz.numbers,Il rz.makes.m0,Il rz.makes.m1,Il rz.makes.m2,Il rz.makes.m3,Il rz.makes.m4,Il rz.makes.m5,.bool rz.out.o0,.bool rz.out.o1,.bool rz.out.o2,.bool rz.out.o3,.bool rz.out.o4,.bool rz.out.o5]) m'):Wc prog tbl 93 [.agg 17 [Il w.b.Last,Il w.b.Owners,ca102,ca103,Il w.numbers,Il w.makes.m0,Il w.makes.m1,Il w.makes.m2,Il w.makes.m3,Il w.makes.m4,Il w.makes.m5,.bool w.out.o0,.bool w.out.o1,.bool w.out.o2,.bool w.out.o3,.bool w.out.o4,.bool w.out.o5],.c ca200] m Q:=by
 have S0:=hS.st;obtain⟨τ0,_⟩:=zs1;refine w93 ?_;unfold zuK at hp;intro m0 S;obtain⟨T,Y,ua,Z⟩:=S0.blk S τ0 1;intro m1 aa;obtain⟨ba,ca,da,z⟩:=Y.blk aa T 2;have A:=Z.k da;refine⟨ha200.isSl,?_⟩;intro R2 ta
 have hgo:∀(D:Nat) (x3:Int) (a:Int) (d:Int) (e:Int) (g:Int) (h:Int) (i:Int) (j:Int) (n:Int) (o:Int) (p:Bool) (q:Bool) (r:Bool) (s:Bool) (t:Bool) (u:Bool) (m4:M) (B:Nat->Nat),St (Fm.of m) f f m4->Lb (Fm.of m) f B m4 1 m.nxt 17 [Il a,Il d,ca102,ca103,Il e,Il g,Il h,Il i,Il j,Il n,Il o,.bool p,.bool q,.bool r,.bool s,.bool t,.bool u]->Lb (Fm.of m) f B m4 2 m0.nxt 17 [Il 0,Il 0,.sl0,.sl0,Il 0,Il 0,Il 0,Il 0,Il 0,Il 0,Il 0,.bool false,.bool false,.bool false,.bool false,.bool false,.bool false]->zuJ w list D a d e g h i j n o p q r s t u x3=some rz->R2 [.c (Il x3)] m4:=by
  intro D
  induction D with
  | zero=>intro x3 a d e g h i j n o p q r s t u m4 B F A z hp; cases hp
  | succ D sa=>
   intro x3 a d e g h i j n o p q r s t u m4 B F A z hp;refine ta _ _ ?_;rw[zuJ] at hp
   try rw[ha200.slLen]
   refine ifd hp (fun fa hp=>?_) fun fa hp=>?_; rotate_left
   ·refine⟨_,_,_,_,_,_,_,_,_,_,_,_,_,_,_,_,_,A.bk.ra,?_⟩;obtain⟨ga,ha,ia,va,ja⟩:=z.sto F [Il a,Il d,ca102,ca103,Il e,Il g,Il h,Il i,Il j,Il n,Il o,.bool p,.bool q,.bool r,.bool s,.bool t,.bool u];refine⟨ga,ha,?_⟩;refine⟨_,_,_,_,_,_,_,_,_,_,_,_,_,_,_,_,_,ja.bk.ra,?_⟩;obtain rfl:=oi hp;exact hq _ f ca102 ca103 ia.grw ha102 ha103
   obtain⟨y,G,hp⟩:=zrK hp;obtain⟨n5,P,J,G⟩:=zrE G;refine⟨n5,P,(by first|exact J|(rw[ha200.slLen];exact J)),_,(ha200.rdI G F.sub),trivial,trivial,?_⟩;obtain⟨ka,hp⟩:=zrL hp;obtain⟨n7,N,O⟩:=zr6 ka;refine⟨n7,N,O,?_⟩;obtain⟨la,ma,na,oa,I⟩:=A.sta F (pre:=[Il a,Il d,ca102,ca103,Il e,Il g,Il h,Il i,Il j,Il n,Il o]) (post:=[]) (l:=([p,q,r,s,t,u]:List Bool)) (enc:=C.bool) rfl rfl N O true
   replace I:Lb _ _ _ _ _ _ _ [Il a,Il d,ca102,ca103,Il e,Il g,Il h,Il i,Il j,Il n,Il o,(.bool (sti y 0 true p)),(.bool (sti y 1 true q)),(.bool (sti y 2 true r)),(.bool (sti y 3 true s)),(.bool (sti y 4 true t)),(.bool (sti y 5 true u))]:=I
   have pa:=z.k oa;refine⟨la,ma,?_⟩;refine gdi hp fun qa hp=>?_;exact sa _ _ _ _ _ _ _ _ _ _ _ _ _ _ _ _ _ B na I pa hp
 exact hgo _ _ _ _ _ _ _ _ _ _ _ _ _ _ _ _ _ _ ba ca A z hp
theorem zxi{list:List Int}{w:Wk}{bq0:Nat}{ca100 cb002 cb003:C}{m f:M}{Q:V->M->Prop}{rz:Bool}(hS:Pre f m)(ha100:Sl f ca100 list)(hb0:Bk f bq0 17 [Il w.b.Last,Il w.b.Owners,cb002,cb003,Il w.numbers,Il w.makes.m0,Il w.makes.m1,Il w.makes.m2,Il w.makes.m3,Il w.makes.m4,Il w.makes.m5,.bool w.out.o0,.bool w.out.o1,.bool w.out.o2,.bool w.out.o3,.bool w.out.o4,.bool w.out.o5])(hb002:Sl f cb002 w.b.Parcels)(hb003:Sl f cb003 w.b.Entries)(hp:zuL list w=some rz)(hq:∀m',Ext m m'->Q (.c (.bool rz)) m'):Wc prog tbl 92 [.c ca100,.c (.ptr bq0 0)] m Q:=by
 have o:=hS.st;obtain⟨p,_⟩:=zs1;refine c92 ?_;unfold zuL at hp;refine⟨_,_,_,_,_,_,_,_,_,_,_,_,_,_,_,_,_,(hb0.sub o.sub).ra,?_⟩;obtain⟨d,e,hp⟩:=zrK hp;refine zxh (w:=w) (list:=list) o.pre hb002 hb003 ha100 e fun z q r s g h i=>?_;obtain⟨a,t⟩:=o.callG g p;refine⟨_,_,_,_,_,_,_,_,_,_,_,_,_,_,_,_,_,rfl,?_⟩;obtain⟨u,j,hp⟩:=zrK hp;refine zxf (w:=d) a.pre h i j fun A l=>?_;obtain⟨n,y⟩:=a.call l p;refine⟨_,rfl,?_⟩;obtain rfl:=oi hp;exact hq _ n.ext'
theorem zxj{b:Boo}{ca102 ca103:C}{m f:M}{Q:V->M->Prop}{rz:List Int × Int}(hS:Pre f m)(ha102:Sl f ca102 b.Parcels)(ha103:Sl f ca103 b.Entries)(hp:zuM b=some rz)(hq:∀m' f' c0,Grw m f m' f'->Sl f' c0 rz.1->Q (.tup [.c c0,.c (Il rz.2)]) m'):Wc prog tbl 43 [.agg 4 [Il b.Last,Il b.Owners,ca102,ca103]] m Q:=by
 have S0:=hS.st;obtain⟨τ0,_⟩:=zs1;refine w43 ?_;unfold zuM at hp;intro m0 t;obtain⟨e,i,ja,j⟩:=S0.blk t τ0 1;refine⟨_,_,_,_,j.bk.ra,?_⟩;obtain⟨ka,u,hp⟩:=zrK hp;refine zwk (b:=b) i.pre ha102 ha103 u fun m6 w=>?_;obtain⟨g,y⟩:=i.call w e;have z:=j.k y;refine⟨_,rfl,?_⟩;refine zr9 hp (fun A hp=>?_) fun A hp=>?_
 ·obtain rfl:=oi hp;exact hq _ f .sl0 g.grw (Sl.nil _)
 refine⟨_,_,_,_,z.bk.ra,?_⟩;obtain⟨a,B,hp⟩:=zrK hp;refine zwg (b:=b) g.pre ha102 ha103 B fun ia la D F G I h=>?_;obtain⟨J,ma⟩:=g.callG G e;refine⟨_,_,_,_,_,_,_,_,_,_,_,_,_,_,_,_,_,rfl,?_⟩;intro va N;obtain⟨O,P,na,S⟩:=J.blk N e 2;obtain⟨T,Y,Z,oa,l⟩:=S.sto P [Il a.b.Last,Il a.b.Owners,D,F,Il a.numbers,Il a.makes.m0,Il a.makes.m1,Il a.makes.m2,Il a.makes.m3,Il a.makes.m4,Il a.makes.m5,.bool a.out.o0,.bool a.out.o1,.bool a.out.o2,.bool a.out.o3,.bool a.out.o4,.bool a.out.o5];refine⟨T,Y,?_⟩;refine⟨trivial,trivial,_,l.bk.rc rfl,h.isSl,?_⟩
 try rw[h.slLen]
 obtain⟨aa,o,p,q⟩:=l.freeze Z
 have s:zwY aa ((C.fn (Fn.func 92) [] [(W.c (C0.ptr ia.nxt 0))])) (fun d=>zuL d a):=by
  intro f' m' d pa r Q hs hpre ba hg hq;exact zxi hpre ba (q.sub hs) ((I.sub p.fs).sub hs) ((h.sub p.fs).sub hs) hg hq
 obtain⟨qa,ca,hp⟩:=zrK hp;refine zw4 (n:=(a.b.Entries.length:Int)) (passes:=(fun d=>zuL d a)) o.pre s ca fun wa da ea fa ga=>?_;obtain⟨ha,sa⟩:=o.callG fa O;refine⟨_,rfl,?_⟩;obtain rfl:=oi hp;exact hq _ da ea ha.grw ga
theorem zxk{b:Boo}{ca102 ca103:C}{m f:M}{Q:V->M->Prop}{rz:Int × Int}(hS:Pre f m)(ha102:Sl f ca102 b.Parcels)(ha103:Sl f ca103 b.Entries)(hp:zuO b=some rz)(hq:∀m',Ext m m'->Q (.tup [.c (Il rz.1),.c (Il rz.2)]) m'):Wc prog tbl 42 [.agg 4 [Il b.Last,Il b.Owners,ca102,ca103]] m Q:=by
 have S0:=hS.st;obtain⟨τ0,_⟩:=zs1;refine w42 ?_;unfold zuO at hp;intro m0 N;obtain⟨o,t,Ia,u⟩:=S0.blk N τ0 1;refine⟨_,_,_,_,u.bk.ra,?_⟩;obtain⟨Ja,O,hp⟩:=zrK hp;refine zwk (b:=b) t.pre ha102 ha103 O fun m6 P=>?_;obtain⟨p,S⟩:=t.call P o;have y:=u.k S;refine⟨_,rfl,?_⟩;refine zr9 hp (fun T hp=>?_) fun T hp=>?_
 ·obtain rfl:=oi hp;exact hq _ p.ext'
 refine⟨_,_,_,_,y.bk.ra,?_⟩;obtain⟨a,Y,hp⟩:=zrK hp;refine zwg (b:=b) p.pre ha102 ha103 Y fun Ga z A B Z aa q=>?_;obtain⟨ba,ca⟩:=p.callG Z o;have da:=y.k ca;refine⟨_,_,_,_,_,_,_,_,_,_,_,_,_,_,_,_,_,rfl,?_⟩;intro Pa ea;obtain⟨fa,ga,ha,ia⟩:=ba.blk ea o 2;have ja:=da.k ha;obtain⟨ka,la,ma,na,e⟩:=ia.sto ga [Il a.b.Last,Il a.b.Owners,A,B,Il a.numbers,Il a.makes.m0,Il a.makes.m1,Il a.makes.m2,Il a.makes.m3,Il a.makes.m4,Il a.makes.m5,.bool a.out.o0,.bool a.out.o1,.bool a.out.o2,.bool a.out.o3,.bool a.out.o4,.bool a.out.o5];have i:=ja.k na;refine⟨ka,la,?_⟩;refine⟨trivial,trivial,_,e.bk.rc rfl,q.isSl,?_⟩;intro Ha Fa
 have hgo:∀(j:Nat) (I:Int) (J:Int) (s:Int) (n:M) (g:M) (d:Nat->Nat),St (Fm.of m) f g n->Sub z g->Lb (Fm.of m) g d n 1 m.nxt 4 [Il b.Last,Il b.Owners,ca102,ca103]->Lb (Fm.of m) g d n 2 Ga.nxt 17 [Il a.b.Last,Il a.b.Owners,A,B,Il a.numbers,Il a.makes.m0,Il a.makes.m1,Il a.makes.m2,Il a.makes.m3,Il a.makes.m4,Il a.makes.m5,.bool a.out.o0,.bool a.out.o1,.bool a.out.o2,.bool a.out.o3,.bool a.out.o4,.bool a.out.o5]->zuN a j s=some rz->Ha [.c (Il I),.c (Il J),.c (Il s)] n:=by
  intro j
  induction j with
  | zero=>intro I J s n g d l h i e hp; cases hp
  | succ j oa=>
   intro I J s n g d l h i e hp;refine Fa _ _ _ _ ?_;rw[zuN] at hp
   try rw[q.slLen]
   refine ifd hp (fun pa hp=>?_) fun pa hp=>?_; rotate_left
   ·obtain rfl:=oi hp;exact hq _ l.ext'
   refine⟨_,_,_,_,_,_,_,_,_,_,_,_,_,_,_,_,_,e.bk.ra,?_⟩;obtain⟨qa,sa,hp⟩:=zrK hp;refine zxg (w:=a) (last:=s) l.pre (aa.sub h) (q.sub h) sa fun Qa ta Ka La ua va wa=>?_;obtain⟨D,r⟩:=l.callG ua d;have xa:=i.k r;have ya:=e.k r;refine⟨_,_,_,_,_,_,_,_,_,_,_,_,_,_,_,_,_,rfl,?_⟩;obtain⟨Ma,za,hp⟩:=zrK hp;refine zxf (w:=qa) D.pre va wa za fun Ra Aa=>?_;obtain⟨F,G⟩:=D.call Aa d;have Ba:=xa.k G;have Ca:=ya.k G;refine⟨_,rfl,?_⟩;refine zsb hp (fun Da hp=>?_) fun Da hp=>?_
   ·obtain rfl:=oi hp;exact hq _ F.ext'
   refine gdi hp fun Ea hp=>?_;exact oa _ _ _ _ ta d F (Sub.trans h r.fs) Ba Ca hp
 exact hgo _ _ _ _ _ z fa ma (Sub.refl _) i e hp
theorem zxl{b:Boo}{out_:Int}{ca102 ca103:C}{m f:M}{Q:V->M->Prop}{rz:Bool}(hS:Pre f m)(ha102:Sl f ca102 b.Parcels)(ha103:Sl f ca103 b.Entries)(hp:zuQ b out_=some rz)(hq:∀m',Ext m m'->Q (.c (.bool rz)) m'):Wc prog tbl 52 [.agg 4 [Il b.Last,Il b.Owners,ca102,ca103],.c (Il out_)] m Q:=by
 have S0:=hS.st;obtain⟨τ0,_⟩:=zs1;refine w52 ?_;unfold zuQ at hp;intro m0 y;obtain⟨z,A,fa,e⟩:=S0.blk y τ0 1;intro R1 ea
 have hgo:∀(h:Nat) (b2:Bool) (u:Int) (w:M) (g:M) (d:Nat->Nat),St (Fm.of m) f g w->Sub f g->Lb (Fm.of m) g d w 1 m.nxt 4 [Il b.Last,Il b.Owners,ca102,ca103]->zuP b out_ h u=some rz->R1 [.c (.bool b2),.c (Il u)] w:=by
  intro h
  induction h with
  | zero=>intro b2 u w g d j a e hp; cases hp
  | succ h da=>
   intro b2 u w g d j a e hp;refine ea _ _ _ ?_;rw[zuP] at hp;refine⟨_,_,_,_,e.bk.ra,?_⟩;obtain⟨ga,B,hp⟩:=zrK hp;refine zvN (b:=b) j.pre (ha102.sub a) (ha103.sub a) B fun qa D=>?_;obtain⟨l,F⟩:=j.call D d;have o:=e.k F;refine⟨_,rfl,?_⟩;refine ifd hp (fun G hp=>?_) fun G hp=>?_; rotate_left
   ·obtain rfl:=oi hp;exact hq _ l.ext'
   refine⟨_,_,_,_,o.bk.ra,_,_,_,_,o.bk.ra,?_⟩;obtain⟨I,J,hp⟩:=zrK hp;refine zvP (b:=b) (n:=u) l.pre (ha102.sub a) (ha103.sub a) J fun sa ha ia ja N O P=>?_;obtain⟨p,i⟩:=l.callG N d;have q:=o.k i;refine⟨_,_,rfl,(by rw[show zaL cmC _=true from zqg (zrO rfl (zrO rfl (zrO ha102.noFn (zrO ha103.noFn zrP))))]; exact(q.bk.ra)),?_⟩;obtain⟨ka,S,hp⟩:=zrK hp;refine zvS (b:=b) (t:=I) (day:=(0:Int)) (out_:=out_) p.pre (ha102.sub (Sub.trans a i.fs)) (ha103.sub (Sub.trans a i.fs)) O P S fun ta T la Y ma=>?_;obtain⟨r,s⟩:=p.callG Y d;have Z:=q.k s;refine⟨_,_,rfl,?_⟩;refine zsa hp (fun aa hp=>?_) fun aa hp=>?_
   ·obtain rfl:=oi hp;exact hq _ r.ext'
   refine gdi hp fun ba hp=>?_;exact da _ _ _ T d r (Sub.trans (Sub.trans a i.fs) s.fs) Z hp
 exact hgo _ _ _ _ f z A (Sub.refl _) e hp
theorem zxm{b:Boo}{ca102 ca103:C}{m f:M}{Q:V->M->Prop}{rz:Int}(hS:Pre f m)(ha102:Sl f ca102 b.Parcels)(ha103:Sl f ca103 b.Entries)(hp:zuS b=some rz)(hq:∀m',Ext m m'->Q (.c (Il rz)) m'):Wc prog tbl 44 [.agg 4 [Il b.Last,Il b.Owners,ca102,ca103]] m Q:=by
 have S0:=hS.st;obtain⟨τ0,_⟩:=zs1;refine w44 ?_;unfold zuS at hp;intro m0 t;obtain⟨u,w,da,a⟩:=S0.blk t τ0 1;refine⟨trivial,_,a.bk.rc rfl,ha103.isSl,?_⟩;refine gdi hp fun y hp=>?_;obtain⟨h,hp⟩:=zrL hp;refine⟨(by first|exact h|(rw[ha103.slLen];exact h)),?_⟩;obtain⟨i,hp⟩:=zrL hp;refine⟨(by first|exact i|(rw[ha103.slLen];exact i)),?_⟩;obtain⟨j,hp⟩:=zrL hp;refine⟨(by first|exact j|(rw[ha103.slLen];exact j)),?_⟩;obtain⟨l,hp⟩:=zrL hp;refine⟨(by first|exact l|(rw[ha103.slLen];exact l)),?_⟩;intro R2 ca
 have hgo:∀(e:Nat) (x3:Int) (r:Int) (s:M) (d:Nat->Nat),St (Fm.of m) f f s->Lb (Fm.of m) f d s 1 m.nxt 4 [Il b.Last,Il b.Owners,ca102,ca103]->zuR b e r=some rz->R2 [.c (Il x3),.c (Il r)] s:=by
  intro e
  induction e with
  | zero=>intro x3 r s d g a hp; cases hp
  | succ e ba=>
   intro x3 r s d g a hp;refine ca _ _ _ ?_;rw[zuR] at hp;refine⟨trivial,_,a.bk.rc rfl,ha103.isSl,?_⟩
   try rw[ha103.slLen]
   refine ifd hp (fun z hp=>?_) fun z hp=>?_; rotate_left
   ·obtain rfl:=oi hp;exact hq _ g.ext'
   refine⟨_,_,_,_,a.bk.ra,?_⟩;refine gdi hp fun A hp=>?_;refine gdi hp fun B hp=>?_;refine gdi hp fun D hp=>?_;refine gdi hp fun F hp=>?_;refine gdi hp fun G hp=>?_;refine gdi hp fun I hp=>?_;obtain⟨n,hp⟩:=zrL hp;refine⟨(by first|exact n|(rw[ha103.slLen];exact n)),?_⟩;refine gdi hp fun J hp=>?_;obtain⟨o,hp⟩:=zrL hp;refine⟨(by first|exact o|(rw[ha103.slLen];exact o)),?_⟩;refine gdi hp fun N hp=>?_;obtain⟨p,hp⟩:=zrL hp;refine⟨(by first|exact p|(rw[ha103.slLen];exact p)),?_⟩
   try rw[ha103.slLen]
   obtain⟨ea,O,hp⟩:=zrK hp;refine zxl (b:=b) (out_:=(((Nat.xor (Int.toNat (((1:Int) * ((2:Int) ^ (Int.toNat (znv .u64 (b.Entries.length:Int))))) - (1:Int))) (Nat.land (Int.toNat (((1:Int) * ((2:Int) ^ (Int.toNat (znv .u64 (b.Entries.length:Int))))) - (1:Int))) (Int.toNat (((1:Int) * ((2:Int) ^ (Int.toNat (znv .u64 (r+1))))) - (1:Int))))):Nat):Int)) g.pre ha102 ha103 O fun ia P=>?_;obtain⟨q,S⟩:=g.call P d;have T:=a.k S;refine⟨_,rfl,?_⟩;refine zsb hp (fun Y hp=>?_) fun Y hp=>?_
   ·obtain rfl:=oi hp;exact hq _ q.ext'
   refine gdi hp fun Z hp=>?_;exact ba _ _ _ d q T hp
 exact hgo _ _ _ _ u w a hp
theorem zxn{b:Boo}{ca102 ca103:C}{m f:M}{Q:V->M->Prop}{rz:List Int}(hS:Pre f m)(ha102:Sl f ca102 b.Parcels)(ha103:Sl f ca103 b.Entries)(hp:zuU b=some rz)(hq:∀m' f' c0,Grw m f m' f'->Sl f' c0 rz->Q (.c c0) m'):Wc prog tbl 45 [.agg 4 [Il b.Last,Il b.Owners,ca102,ca103]] m Q:=by
 have S0:=hS.st;obtain⟨τ0,_⟩:=zs1;refine w45 ?_;unfold zuU at hp;intro m0 aa;obtain⟨u,w,za,y⟩:=S0.blk aa τ0 1;refine⟨trivial,_,y.bk.rc rfl,ha103.isSl,?_⟩;refine gdi hp fun ba hp=>?_;obtain⟨z,hp⟩:=zrL hp;refine⟨(by first|exact z|(rw[ha103.slLen];exact z)),?_⟩;obtain⟨A,hp⟩:=zrL hp;refine⟨(by first|exact A|(rw[ha103.slLen];exact A)),?_⟩;obtain⟨B,hp⟩:=zrL hp;refine⟨(by first|exact B|(rw[ha103.slLen];exact B)),?_⟩;obtain⟨D,hp⟩:=zrL hp;refine⟨(by first|exact D|(rw[ha103.slLen];exact D)),?_⟩
 try rw[ha103.slLen]
 obtain⟨Aa,ca,hp⟩:=zrK hp;refine zvT (bits:=(((1:Int) * ((2:Int) ^ (Int.toNat (znv .u64 (b.Entries.length:Int))))) - (1:Int))) w.pre  ca fun m3 F Ba da ea=>?_;obtain⟨fa,p⟩:=w.callG da u;have i:=y.k p;refine⟨_,rfl,?_⟩;intro R5 ya
 have hgo:∀(n:Nat) (Y:C) (T:Int) (j:List Int) (Z:M) (h:M) (d:Nat->Nat),St (Fm.of m) f h Z->Sub F h->Lb (Fm.of m) h d Z 1 m.nxt 4 [Il b.Last,Il b.Owners,ca102,ca103]->Sl h Y j->zuT b n j T=some rz->R5 [.c Y,.c (Il T)] Z:=by
  intro n
  induction n with
  | zero=>intro Y T j Z h d o g i l hp; cases hp
  | succ n t=>
   intro Y T j Z h d o g i l hp;refine ya _ _ _ ?_;rw[zuT] at hp;refine⟨trivial,_,i.bk.rc rfl,ha103.isSl,?_⟩;refine gdi hp fun ga hp=>?_;obtain⟨G,hp⟩:=zrL hp;refine⟨(by first|exact G|(rw[ha103.slLen];exact G)),?_⟩;obtain⟨I,hp⟩:=zrL hp;refine⟨(by first|exact I|(rw[ha103.slLen];exact I)),?_⟩;obtain⟨J,hp⟩:=zrL hp;refine⟨(by first|exact J|(rw[ha103.slLen];exact J)),?_⟩
   try rw[ha103.slLen]
   refine ifd hp (fun ha hp=>?_) fun ha hp=>?_; rotate_left
   ·obtain rfl:=oi hp;exact hq _ h Y o.grw l
   obtain⟨ia,ja,hp⟩:=zrK hp;refine zvT (bits:=T) o.pre  ja fun Ia q Ca ka N=>?_;obtain⟨O,e⟩:=o.callG ka d;have la:=i.k e;refine⟨_,rfl,?_⟩;obtain⟨Da,ma,hp⟩:=zrK hp;refine zvV (a:=ia) (b:=j) O.pre N (l.sub e.fs) ma fun Ja na=>?_;obtain⟨r,oa⟩:=O.call na d;have s:=la.k oa;refine⟨_,rfl,?_⟩;refine zsa hp (fun pa hp=>?_) fun pa hp=>?_; rotate_left
   ·refine gdi hp fun qa hp=>?_;exact t _ _ _ _ q d r (Sub.trans g e.fs) s (l.sub e.fs) hp
   refine⟨_,_,_,_,s.bk.ra,?_⟩;obtain⟨Ea,sa,hp⟩:=zrK hp;refine zxl (b:=b) (out_:=T) r.pre (ha102.sub (Sub.trans (Sub.trans p.fs g) e.fs)) (ha103.sub (Sub.trans (Sub.trans p.fs g) e.fs)) sa fun Ka ta=>?_;obtain⟨P,ua⟩:=r.call ta d;have S:=s.k ua;refine⟨_,rfl,?_⟩;refine zsa hp (fun va hp=>?_) fun va hp=>?_
   ·refine gdi hp fun wa hp=>?_;exact t _ _ _ _ q d P (Sub.trans g e.fs) S N hp
   refine gdi hp fun xa hp=>?_;exact t _ _ _ _ q d P (Sub.trans g e.fs) S (l.sub e.fs) hp
 exact hgo _ _ _ _ _ F u fa (Sub.refl _) i ea hp
theorem zxo{a:List Int}{b:List Int}{ca100 ca200:C}{m f:M}{Q:V->M->Prop}{rz:Bool}(hS:Pre f m)(ha100:Sl f ca100 a)(ha200:Sl f ca200 b)(hp:zuV a b=some rz)(hq:∀m',Ext m m'->Q (.c (.bool rz)) m'):Wc prog tbl 35 [.c ca100,.c ca200] m Q:=by
 have o:=hS.st;obtain⟨p,_⟩:=zs1;refine w35 ?_;unfold zuV at hp;refine⟨ha100.isSl,ha200.isSl,?_⟩
 try rw[ha100.slLen]
 try rw[ha200.slLen]
 refine ifd hp (fun e hp=>?_) fun e hp=>?_; rotate_left
 ·obtain rfl:=oi hp;exact hq _ o.ext'
 obtain⟨q,g,hp⟩:=zrK hp;refine zvU (a:=a) (b:=b) o.pre ha100 ha200 g fun u h=>?_;obtain⟨d,r⟩:=o.call h p;refine⟨_,rfl,?_⟩;refine zsb hp (fun i hp=>?_) fun i hp=>?_; rotate_left
 ·obtain rfl:=oi hp;exact hq _ d.ext'
 obtain⟨s,j,hp⟩:=zrK hp;refine zvU (a:=b) (b:=a) d.pre ha200 ha100 j fun w l=>?_;obtain⟨n,t⟩:=d.call l p;refine⟨_,rfl,?_⟩;obtain rfl:=oi hp;exact hq _ n.ext'
theorem zxp{b:Boo}{ca102 ca103:C}{m f:M}{Q:V->M->Prop}{rz:Int}(hS:Pre f m)(ha102:Sl f ca102 b.Parcels)(ha103:Sl f ca103 b.Entries)(hp:zuW b=some rz)(hq:∀m',Ext m m'->Q (.c (Il rz)) m'):Wc prog tbl 23 [.agg 4 [Il b.Last,Il b.Owners,ca102,ca103]] m Q:=by
 have p:=hS.st;obtain⟨q,_⟩:=zs1;refine w23 ?_;unfold zuW at hp;intro r d;obtain⟨e,a,l,g⟩:=p.blk d q 1;refine⟨_,_,_,_,g.bk.ra,?_⟩;obtain⟨n,h,hp⟩:=zrK hp;refine zvO (b:=b) a.pre ha102 ha103 h fun s i=>?_;obtain⟨j,o⟩:=a.call i e;refine⟨_,rfl,?_⟩;obtain rfl:=oi hp;exact hq _ j.ext'
theorem zxq{b:Boo}{ca102 ca103:C}{m f:M}{Q:V->M->Prop}{rz:Bool}(hS:Pre f m)(ha102:Sl f ca102 b.Parcels)(ha103:Sl f ca103 b.Entries)(hp:zuX b=some rz)(hq:∀m',Ext m m'->Q (.c (.bool rz)) m'):Wc prog tbl 49 [.agg 4 [Il b.Last,Il b.Owners,ca102,ca103]] m Q:=by
 have y:=hS.st;obtain⟨z,_⟩:=zs1;refine w49 ?_;unfold zuX at hp;intro B h;obtain⟨d,e,s,g⟩:=y.blk h z 1;refine⟨_,_,_,_,g.bk.ra,?_⟩;obtain⟨t,i,hp⟩:=zrK hp;refine zvY (b:=b) e.pre ha102 ha103 i fun D j=>?_;obtain⟨a,l⟩:=e.call j d;have n:=g.k l;refine⟨_,rfl,?_⟩;refine zsa hp (fun o hp=>?_) fun o hp=>?_; rotate_left
 ·obtain rfl:=oi hp;exact hq _ a.ext'
 refine⟨_,_,_,_,n.bk.ra,?_⟩;obtain⟨u,p,hp⟩:=zrK hp;refine zxp (b:=b) a.pre ha102 ha103 p fun A q=>?_;obtain⟨r,w⟩:=a.call q d;refine⟨_,rfl,?_⟩;obtain rfl:=oi hp;exact hq _ r.ext'
theorem zxr{b:Boo}{n:Int}{ca102 ca103:C}{m f:M}{Q:V->M->Prop}{rz:Boo}(hS:Pre f m)(ha102:Sl f ca102 b.Parcels)(ha103:Sl f ca103 b.Entries)(hp:zuY b n=some rz)(hq:∀m' f' c2 c3,Grw m f m' f'->Sl f' c2 rz.Parcels->Sl f' c3 rz.Entries->Q (.agg 4 [Il rz.Last,Il rz.Owners,c2,c3]) m'):Wc prog tbl 58 [.agg 4 [Il b.Last,Il b.Owners,ca102,ca103],.c (Il n)] m Q:=by
 have S0:=hS.st;obtain⟨τ0,_⟩:=zs1;refine w58 ?_;unfold zuY at hp;intro m0 r;obtain⟨s,t,Ea,u⟩:=S0.blk r τ0 1;intro m1 w;obtain⟨y,z,A,B⟩:=t.blk w s 2;have h:=u.k A;refine⟨_,_,_,_,h.bk.ra,?_⟩;intro m6 D;obtain⟨F,G,l,I⟩:=z.blk D y 3;have J:=h.k l;have N:=B.k l;obtain⟨O,P,S,o,T⟩:=I.sto G [Il b.Last,Il b.Owners,ca102,ca103];have Y:=J.k o;have Z:=N.k o;refine⟨O,P,?_⟩;intro m8 aa;obtain⟨Fa,ba,e,ca⟩:=S.blk aa F 4;have da:=Y.k e;have ea:=Z.k e;have fa:=T.k e;refine⟨trivial,_,da.bk.rc rfl,?_⟩;obtain⟨Ga,hp⟩:=zrL hp;obtain⟨ga,ha,ia⟩:=ha103.subC (i:=Int.toNat (0:Int)) (j:=Int.toNat n) (by omega) (by omega);refine⟨_,_,rfl,(show n=((Int.toNat n:Nat):Int) by omega),ga,ha,?_⟩;have ja:=Lb.ow0 (α:=En) ca;obtain⟨ka,hp⟩:=zrL hp;obtain⟨a,la,Ha,ma,na,p,d⟩:=ja.appL zw6 ba ia ka;have oa:=ea.k p;have pa:=fa.k p;refine⟨a,la,ma,?_⟩;refine⟨trivial,?_⟩;obtain⟨qa,sa,ta,q,g⟩:=pa.sto1 na 3 a (by simp) rfl
 replace g:Lb _ _ _ _ _ _ _ [Il b.Last,Il b.Owners,ca102,a]:=g
 have ua:=oa.k q;have d:=d.k q;refine⟨qa,sa,?_⟩;refine⟨_,_,_,_,g.bk.ra,?_⟩;obtain⟨va,wa,xa,ya,za⟩:=ua.sto ta [Il b.Last,Il b.Owners,ca102,a];have d:=d.k ya;refine⟨va,wa,?_⟩;refine⟨_,_,_,_,za.bk.ra,?_⟩;obtain⟨Aa,Ba,Ca,Da⟩:=d.freeze xa;obtain rfl:=oi hp;exact hq _ Aa ca102 a Ba.grw (ha102.sub Ca.fs) Da
theorem zxs{b:Boo}{ca102 ca103:C}{m f:M}{Q:V->M->Prop}{rz:Bool}(hS:Pre f m)(ha102:Sl f ca102 b.Parcels)(ha103:Sl f ca103 b.Entries)(hp:zuZ b=some rz)(hq:∀m',Ext m m'->Q (.c (.bool rz)) m'):Wc prog tbl 6 [.agg 4 [Il b.Last,Il b.Owners,ca102,ca103]] m Q:=by
 have S0:=hS.st;obtain⟨τ0,_⟩:=zs1;refine w6 ?_;unfold zuZ at hp;intro m0 J;obtain⟨d,q,jb,r⟩:=S0.blk J τ0 1;refine⟨_,_,_,_,r.bk.ra,?_⟩;obtain⟨kb,N,hp⟩:=zrK hp;refine zvY (b:=b) q.pre ha102 ha103 N fun m6 O=>?_;obtain⟨l,P⟩:=q.call O d;have s:=r.k P;refine⟨_,rfl,?_⟩;refine zsb hp (fun S hp=>?_) fun S hp=>?_
 ·obtain⟨mb,T,hp⟩:=zrK hp;refine zvH l.pre  T fun m9 Y=>?_;obtain⟨Z,ob⟩:=l.call Y d;refine⟨_,rfl,?_⟩;obtain rfl:=oi hp;exact hq _ Z.ext'
 refine⟨_,_,_,_,s.bk.ra,?_⟩;obtain⟨aa,ba,hp⟩:=zrK hp;refine zvX (b:=b) l.pre ha102 ha103 ba fun Rb pb qb rb ca da ea=>?_;obtain⟨t,e⟩:=l.callG ca d;have fa:=s.k e;refine⟨_,_,_,_,rfl,?_⟩;obtain⟨sb,ga,hp⟩:=zrK hp;refine zxk (b:=aa) t.pre da ea ga fun Sb ha=>?_;obtain⟨u,ia⟩:=t.call ha d;have w:=fa.k ia;refine⟨_,_,rfl,_,_,_,_,w.bk.ra,?_⟩;obtain⟨ja,ka,hp⟩:=zrK hp;refine zvX (b:=b) u.pre (ha102.sub e.fs) (ha103.sub e.fs) ka fun Tb tb ub vb la ma na=>?_;obtain⟨y,h⟩:=u.callG la d;have oa:=w.k h;refine⟨_,_,_,_,rfl,?_⟩;obtain⟨z,pa,hp⟩:=zrK hp;refine zxj (b:=ja) y.pre ma na pa fun Ub wb xb qa n=>?_;obtain⟨A,i⟩:=y.callG qa d;have B:=oa.k i;refine⟨_,_,rfl,_,_,_,_,B.bk.ra,?_⟩;obtain⟨yb,sa,hp⟩:=zrK hp;refine zxp (b:=b) A.pre (ha102.sub (Sub.trans (Sub.trans e.fs h.fs) i.fs)) (ha103.sub (Sub.trans (Sub.trans e.fs h.fs) i.fs)) sa fun Vb ta=>?_;obtain⟨j,ua⟩:=A.call ta d;have D:=B.k ua;refine⟨_,rfl,?_⟩;refine zr9 hp (fun va hp=>?_) fun va hp=>?_
 ·refine ifd hp (fun wa hp=>?_) fun wa hp=>?_; rotate_left
  ·obtain rfl:=oi hp;exact hq _ j.ext'
  refine ifd hp (fun xa hp=>?_) fun xa hp=>?_; rotate_left
  ·obtain rfl:=oi hp;exact hq _ j.ext'
  refine ifd hp (fun ya hp=>?_) fun ya hp=>?_; rotate_left
  ·obtain rfl:=oi hp;exact hq _ j.ext'
  refine⟨n.isSl,?_⟩
  try rw[n.slLen]
  refine ifd hp (fun za hp=>?_) fun za hp=>?_; rotate_left
  ·obtain rfl:=oi hp;exact hq _ j.ext'
  obtain⟨zb,Aa,hp⟩:=zrK hp;refine zvH j.pre  Aa fun Wb Ba=>?_;obtain⟨Ca,Ab⟩:=j.call Ba d;refine⟨_,rfl,?_⟩;obtain rfl:=oi hp;exact hq _ Ca.ext'
 refine⟨_,_,_,_,D.bk.ra,?_⟩;obtain⟨Bb,Da,hp⟩:=zrK hp;refine zxm (b:=b) j.pre (ha102.sub (Sub.trans (Sub.trans e.fs h.fs) i.fs)) (ha103.sub (Sub.trans (Sub.trans e.fs h.fs) i.fs)) Da fun Xb Ea=>?_;obtain⟨g,Fa⟩:=j.call Ea d;have F:=D.k Fa;refine⟨_,rfl,?_⟩;refine ifd hp (fun Ga hp=>?_) fun Ga hp=>?_
 ·refine zr9 hp (fun Ha hp=>?_) fun Ha hp=>?_
  ·obtain rfl:=oi hp;exact hq _ g.ext'
  refine zr9 hp (fun Ia hp=>?_) fun Ia hp=>?_
  ·obtain rfl:=oi hp;exact hq _ g.ext'
  refine ifd hp (fun Ja hp=>?_) fun Ja hp=>?_; rotate_left
  ·obtain rfl:=oi hp;exact hq _ g.ext'
  refine⟨_,_,_,_,F.bk.ra,?_⟩;obtain⟨Ka,La,hp⟩:=zrK hp;refine zxn (b:=b) g.pre (ha102.sub (Sub.trans (Sub.trans e.fs h.fs) i.fs)) (ha103.sub (Sub.trans (Sub.trans e.fs h.fs) i.fs)) La fun Yb Cb Db Ma Na=>?_;obtain⟨G,Oa⟩:=g.callG Ma d;refine⟨_,rfl,?_⟩;obtain⟨Eb,Pa,hp⟩:=zrK hp;refine zxo (a:=z.1) (b:=Ka) G.pre (n.sub Oa.fs) Na Pa fun Zb Qa=>?_;obtain⟨o,Fb⟩:=G.call Qa d;refine⟨_,rfl,?_⟩;refine zsa hp (fun Ra hp=>?_) fun Ra hp=>?_; rotate_left
  ·obtain rfl:=oi hp;exact hq _ o.ext'
  obtain⟨Gb,Sa,hp⟩:=zrK hp;refine zvH o.pre  Sa fun ac Ta=>?_;obtain⟨Ua,Hb⟩:=o.call Ta d;refine⟨_,rfl,?_⟩;obtain rfl:=oi hp;exact hq _ Ua.ext'
 refine zr9 hp (fun Va hp=>?_) fun Va hp=>?_
 ·obtain rfl:=oi hp;exact hq _ g.ext'
 refine zr9 hp (fun Wa hp=>?_) fun Wa hp=>?_
 ·obtain rfl:=oi hp;exact hq _ g.ext'
 refine ifd hp (fun Xa hp=>?_) fun Xa hp=>?_; rotate_left
 ·obtain rfl:=oi hp;exact hq _ g.ext'
 refine⟨_,_,_,_,F.bk.ra,?_⟩;obtain⟨Ya,Za,hp⟩:=zrK hp;refine zxn (b:=b) g.pre (ha102.sub (Sub.trans (Sub.trans e.fs h.fs) i.fs)) (ha103.sub (Sub.trans (Sub.trans e.fs h.fs) i.fs)) Za fun bc Ib Jb ab bb=>?_;obtain⟨I,cb⟩:=g.callG ab d;refine⟨_,rfl,?_⟩;obtain⟨Kb,db,hp⟩:=zrK hp;refine zxo (a:=z.1) (b:=Ya) I.pre (n.sub cb.fs) bb db fun cc eb=>?_;obtain⟨p,Mb⟩:=I.call eb d;refine⟨_,rfl,?_⟩;refine zsa hp (fun fb hp=>?_) fun fb hp=>?_; rotate_left
 ·obtain rfl:=oi hp;exact hq _ p.ext'
 obtain⟨Nb,gb,hp⟩:=zrK hp;refine zvH p.pre  gb fun dc hb=>?_;obtain⟨ib,Ob⟩:=p.call hb d;refine⟨_,rfl,?_⟩;obtain rfl:=oi hp;exact hq _ ib.ext'
theorem zxt{b:Boo}{ca102 ca103:C}{m f:M}{Q:V->M->Prop}{rz:Bool}(hS:Pre f m)(ha102:Sl f ca102 b.Parcels)(ha103:Sl f ca103 b.Entries)(hp:zu0 b=some rz)(hq:∀m',Ext m m'->Q (.c (.bool rz)) m'):Wc prog tbl 13 [.agg 4 [Il b.Last,Il b.Owners,ca102,ca103]] m Q:=by
 have S0:=hS.st;obtain⟨τ0,_⟩:=zs1;refine w13 ?_;unfold zu0 at hp;intro m0 va;obtain⟨d,O,dd,P⟩:=S0.blk va τ0 1;refine⟨_,_,_,_,P.bk.ra,?_⟩;obtain⟨ed,wa,hp⟩:=zrK hp;refine zxq (b:=b) O.pre ha102 ha103 wa fun m6 xa=>?_;obtain⟨p,ya⟩:=O.call xa d;have S:=P.k ya;refine⟨_,rfl,?_⟩;refine zsb hp (fun za hp=>?_) fun za hp=>?_
 ·obtain⟨fd,Aa,hp⟩:=zrK hp;refine zvH p.pre  Aa fun m9 Ba=>?_;obtain⟨Ca,hd⟩:=p.call Ba d;refine⟨_,rfl,?_⟩;obtain rfl:=oi hp;exact hq _ Ca.ext'
 refine⟨_,_,_,_,S.bk.ra,?_⟩;obtain⟨Da,Ea,hp⟩:=zrK hp;refine zvX (b:=b) p.pre ha102 ha103 Ea fun we id jd kd Fa Ga Ha=>?_;obtain⟨T,e⟩:=p.callG Fa d;have Ia:=S.k e;refine⟨_,_,_,_,rfl,?_⟩;obtain⟨D,Ja,hp⟩:=zrK hp;refine zxk (b:=Da) T.pre Ga Ha Ja fun xe Ka=>?_;obtain⟨q,La⟩:=T.call Ka d;have F:=Ia.k La;refine⟨_,_,rfl,?_⟩;refine zr9 hp (fun Ma hp=>?_) fun Ma hp=>?_
 ·refine⟨_,_,_,_,F.bk.ra,?_⟩;obtain⟨Na,Oa,hp⟩:=zrK hp;refine zvX (b:=b) q.pre (ha102.sub e.fs) (ha103.sub e.fs) Oa fun ye ld md nd Pa Qa Ra=>?_;obtain⟨Y,od⟩:=q.callG Pa d;refine⟨_,_,_,_,rfl,?_⟩;obtain⟨pd,Sa,hp⟩:=zrK hp;refine zxj (b:=Na) Y.pre Qa Ra Sa fun ze qd sd Ta Z=>?_;obtain⟨i,td⟩:=Y.callG Ta d;refine⟨_,_,rfl,?_⟩;refine ifd hp (fun Ua hp=>?_) fun Ua hp=>?_; rotate_left
  ·obtain rfl:=oi hp;exact hq _ i.ext'
  refine ifd hp (fun Va hp=>?_) fun Va hp=>?_; rotate_left
  ·obtain rfl:=oi hp;exact hq _ i.ext'
  refine⟨Z.isSl,?_⟩
  try rw[Z.slLen]
  refine ifd hp (fun Wa hp=>?_) fun Wa hp=>?_; rotate_left
  ·obtain rfl:=oi hp;exact hq _ i.ext'
  obtain⟨ud,Xa,hp⟩:=zrK hp;refine zvH i.pre  Xa fun Ae Ya=>?_;obtain⟨Za,vd⟩:=i.call Ya d;refine⟨_,rfl,?_⟩;obtain rfl:=oi hp;exact hq _ Za.ext'
 refine⟨trivial,_,F.bk.rc rfl,ha103.isSl,?_⟩;obtain⟨aa,hp⟩:=zrL hp;refine⟨(by first|exact aa|(rw[ha103.slLen];exact aa)),?_⟩
 try rw[ha103.slLen]
 obtain⟨wd,ab,hp⟩:=zrK hp;refine zvI (n:=D.1) (low:=(0:Int)) (high:=((b.Entries.length:Int) - (1:Int))) q.pre  ab fun Be bb=>?_;obtain⟨ba,cb⟩:=q.call bb d;have db:=F.k cb;refine⟨_,rfl,?_⟩;refine zsb hp (fun eb hp=>?_) fun eb hp=>?_
 ·obtain rfl:=oi hp;exact hq _ ba.ext'
 intro Ce fb;obtain⟨a,ca,gb,N⟩:=ba.growK fb d 2;have G:=db.k gb;have hb:=N 0 (by decide);have ib:=N 1 (by decide);refine⟨_,_,_,_,G.bk.ra,?_⟩;obtain⟨r,jb,hp⟩:=zrK hp;refine zxr (b:=b) (n:=D.1) ca.pre (ha102.sub e.fs) (ha103.sub e.fs) jb fun De xd kb mb ob da ea=>?_;obtain⟨fa,j⟩:=ca.callG ob a;have ga:=G.k j;have pb:=hb.k j;have qb:=ib.k j;refine⟨_,_,_,_,rfl,_,_,_,_,ga.bk.ra,(by rw[show zaL cmC _=true from zqg (zrO rfl (zrO rfl (zrO ha102.noFn (zrO ha103.noFn zrP))))]; exact(G.bk.ra)),?_⟩;refine gdi hp fun rb hp=>?_;obtain⟨h,sb,hp⟩:=zrK hp;refine zxr (b:=b) (n:=(D.1+(1:Int))) fa.pre (ha102.sub (Sub.trans e.fs j.fs)) (ha103.sub (Sub.trans e.fs j.fs)) sb fun Ee yd tb ub vb s t=>?_;obtain⟨wb,g⟩:=fa.callG vb a;have xb:=ga.k g;have yb:=pb.k g;have zb:=qb.k g;refine⟨_,_,_,_,rfl,?_⟩;intro Fe Ab;obtain⟨Bb,ha,Cb⟩:=yb.set wb Ab;have I:=xb.k ha;have Db:=zb.k ha;refine⟨(by rw[show zaL cmC _=true from zqg (zrO rfl (zrO rfl (zrO ha102.noFn (zrO ha103.noFn zrP))))]; exact(I.bk.ra)),(by rw[show zaL cmC _=true from zqg (zrO rfl (zrO rfl (zrO ha102.noFn (zrO ha103.noFn zrP))))]; exact(I.bk.ra)),?_⟩;intro Ge Eb;obtain⟨Fb,ia,Gb⟩:=Db.set Bb Eb;have ja:=I.k ia;have Hb:=Cb.k ia;refine⟨(by rw[show zaL cmC _=true from zqg (zrO rfl (zrO rfl (zrO ha102.noFn (zrO ha103.noFn zrP))))]; exact(ja.bk.ra)),(by rw[show zaL cmC _=true from zqg (zrO rfl (zrO rfl (zrO ha102.noFn (zrO ha103.noFn zrP))))]; exact(ja.bk.ra)),?_⟩
 obtain⟨Ib,Jb,Kb,Mb,Nb⟩:=Hb.sto Fb [Il r.Last,Il r.Owners,kb,mb];have Ob:=Gb.k Mb;refine⟨Ib,Jb,?_⟩;obtain⟨Pb,Qb,ka,Rb,Sb⟩:=Ob.sto Kb [Il h.Last,Il h.Owners,tb,ub];have la:=Nb.k Rb;refine⟨Pb,Qb,?_⟩;refine⟨_,_,_,_,la.bk.ra,?_⟩;obtain⟨zd,Tb,hp⟩:=zrK hp;refine zxp (b:=r) ka.pre (da.sub g.fs) (ea.sub g.fs) Tb fun He Ub=>?_;obtain⟨u,ma⟩:=ka.call Ub a;have Vb:=la.k ma;have J:=Sb.k ma;refine⟨_,rfl,?_⟩;refine ifd hp (fun Wb hp=>?_) fun Wb hp=>?_; rotate_left
 ·refine⟨_,_,_,_,J.bk.ra,?_⟩;obtain⟨Ad,Xb,hp⟩:=zrK hp;refine zxp (b:=h) u.pre s t Xb fun me Yb=>?_;obtain⟨w,Zb⟩:=u.call Yb a;have ac:=J.k Zb;refine⟨_,rfl,?_⟩;refine ifd hp (fun bc hp=>?_) fun bc hp=>?_; rotate_left
  ·obtain⟨Bd,cc,hp⟩:=zrK hp;refine zvH w.pre  cc fun oe dc=>?_;obtain⟨ec,Cd⟩:=w.call dc a;refine⟨_,rfl,?_⟩;obtain rfl:=oi hp;exact hq _ ec.ext'
  refine⟨_,_,_,_,ac.bk.ra,?_⟩;obtain⟨fc,gc,hp⟩:=zrK hp;refine zvX (b:=h) w.pre s t gc fun pe Dd Ed Gd hc ic jc=>?_;obtain⟨na,Id⟩:=w.callG hc a;refine⟨_,_,_,_,rfl,?_⟩;obtain⟨Jd,kc,hp⟩:=zrK hp;refine zxj (b:=fc) na.pre ic jc kc fun qe Ld Md nc oa=>?_;obtain⟨y,Nd⟩:=na.callG nc a;refine⟨_,_,rfl,?_⟩;refine zr9 hp (fun oc hp=>?_) fun oc hp=>?_
  ·obtain rfl:=oi hp;exact hq _ y.ext'
  refine⟨oa.isSl,?_⟩
  try rw[oa.slLen]
  refine ifd hp (fun pc hp=>?_) fun pc hp=>?_
  ·obtain rfl:=oi hp;exact hq _ y.ext'
  obtain⟨Od,qc,hp⟩:=zrK hp;refine zvH y.pre  qc fun re sc=>?_;obtain⟨tc,Pd⟩:=y.call sc a;refine⟨_,rfl,?_⟩;obtain rfl:=oi hp;exact hq _ tc.ext'
 refine⟨_,_,_,_,Vb.bk.ra,?_⟩;obtain⟨uc,vc,hp⟩:=zrK hp;refine zvX (b:=r) u.pre (da.sub g.fs) (ea.sub g.fs) vc fun Ie Qd Rd Sd wc xc yc=>?_;obtain⟨pa,l⟩:=u.callG wc a;have zc:=J.k l;refine⟨_,_,_,_,rfl,?_⟩;obtain⟨Td,Ac,hp⟩:=zrK hp;refine zxj (b:=uc) pa.pre xc yc Ac fun Je Ud Vd Bc qa=>?_;obtain⟨z,o⟩:=pa.callG Bc a;have sa:=zc.k o;refine⟨_,_,rfl,?_⟩;refine zr9 hp (fun Cc hp=>?_) fun Cc hp=>?_
 ·obtain rfl:=oi hp;exact hq _ z.ext'
 refine⟨qa.isSl,?_⟩
 try rw[qa.slLen]
 refine zr9 hp (fun Dc hp=>?_) fun Dc hp=>?_
 ·obtain rfl:=oi hp;exact hq _ z.ext'
 refine⟨_,_,_,_,sa.bk.ra,?_⟩;obtain⟨Wd,Ec,hp⟩:=zrK hp;refine zxp (b:=h) z.pre (s.sub (Sub.trans l.fs o.fs)) (t.sub (Sub.trans l.fs o.fs)) Ec fun Ke Fc=>?_;obtain⟨A,Gc⟩:=z.call Fc a;have Hc:=sa.k Gc;refine⟨_,rfl,?_⟩;refine ifd hp (fun Ic hp=>?_) fun Ic hp=>?_; rotate_left
 ·obtain⟨Xd,Jc,hp⟩:=zrK hp;refine zvH A.pre  Jc fun se Kc=>?_;obtain⟨Nc,Yd⟩:=A.call Kc a;refine⟨_,rfl,?_⟩;obtain rfl:=oi hp;exact hq _ Nc.ext'
 refine⟨_,_,_,_,Hc.bk.ra,?_⟩;obtain⟨Oc,Qc,hp⟩:=zrK hp;refine zvX (b:=h) A.pre (s.sub (Sub.trans l.fs o.fs)) (t.sub (Sub.trans l.fs o.fs)) Qc fun te Zd ae be Rc Tc Uc=>?_;obtain⟨ta,ce⟩:=A.callG Rc a;refine⟨_,_,_,_,rfl,?_⟩;obtain⟨de,Vc,hp⟩:=zrK hp;refine zxj (b:=Oc) ta.pre Tc Uc Vc fun ue ee fe Xc ua=>?_;obtain⟨B,ge⟩:=ta.callG Xc a;refine⟨_,_,rfl,?_⟩;refine zr9 hp (fun Yc hp=>?_) fun Yc hp=>?_
 ·obtain rfl:=oi hp;exact hq _ B.ext'
 refine⟨ua.isSl,?_⟩
 try rw[ua.slLen]
 refine ifd hp (fun Zc hp=>?_) fun Zc hp=>?_
 ·obtain rfl:=oi hp;exact hq _ B.ext'
 obtain⟨he,ad,hp⟩:=zrK hp;refine zvH B.pre  ad fun ve bd=>?_;obtain⟨cd,ie⟩:=B.call bd a;refine⟨_,rfl,?_⟩;obtain rfl:=oi hp;exact hq _ cd.ext'
theorem zxu{b:Boo}{bits:Int}{ca102 ca103:C}{m f:M}{Q:V->M->Prop}{rz:Bool}(hS:Pre f m)(ha102:Sl f ca102 b.Parcels)(ha103:Sl f ca103 b.Entries)(hp:zu2 b bits=some rz)(hq:∀m',Ext m m'->Q (.c (.bool rz)) m'):Wc prog tbl 14 [.agg 4 [Il b.Last,Il b.Owners,ca102,ca103],.c (.int .u8 bits)] m Q:=by
 have S0:=hS.st;obtain⟨τ0,_⟩:=zs1;refine w14 ?_;unfold zu2 at hp;intro m0 ua;obtain⟨o,S,Wb,T⟩:=S0.blk ua τ0 1;refine⟨_,_,_,_,T.bk.ra,?_⟩;obtain⟨Xb,va,hp⟩:=zrK hp;refine zxq (b:=b) S.pre ha102 ha103 va fun m6 wa=>?_;obtain⟨r,xa⟩:=S.call wa o;have Y:=T.k xa;refine⟨_,rfl,?_⟩;refine zsb hp (fun ya hp=>?_) fun ya hp=>?_
 ·obtain⟨Yb,za,hp⟩:=zrK hp;refine zvH r.pre  za fun m9 Aa=>?_;obtain⟨Ba,Zb⟩:=r.call Aa o;refine⟨_,rfl,?_⟩;obtain rfl:=oi hp;exact hq _ Ba.ext'
 refine⟨_,_,_,_,Y.bk.ra,?_⟩;obtain⟨Ca,Da,hp⟩:=zrK hp;refine zvX (b:=b) r.pre ha102 ha103 Da fun zc ac bc cc Ea Fa Ga=>?_;obtain⟨Z,p⟩:=r.callG Ea o;have Ha:=Y.k p;refine⟨_,_,_,_,rfl,?_⟩;obtain⟨aa,Ia,hp⟩:=zrK hp;refine zxj (b:=Ca) Z.pre Fa Ga Ia fun Ac ba dc Ja e=>?_;obtain⟨ca,q⟩:=Z.callG Ja o;have h:=Ha.k q;refine⟨_,_,rfl,?_⟩;refine zr9 hp (fun Ka hp=>?_) fun Ka hp=>?_
 ·obtain rfl:=oi hp;exact hq _ ca.ext'
 intro Qb Pb
 have hgo:∀(s:Nat) (na:Bool) (F:Int) (da:Int) (G:M) (j:M) (g:Nat->Nat),St (Fm.of m) f j G->Sub ba j->Lb (Fm.of m) j g G 1 m.nxt 4 [Il b.Last,Il b.Owners,ca102,ca103]->zu1 b bits aa s F da=some rz->Qb [.c (.bool na),.c (Il F),.c (Il da)] G:=by
  intro s
  induction s with
  | zero=>intro na F da G j g l d h hp; cases hp
  | succ s ea=>
   intro na F da G j g l d h hp;refine Pb _ _ _ _ ?_;rw[zu1] at hp;refine⟨e.isSl,?_⟩
   try rw[e.slLen]
   refine ifd hp (fun La hp=>?_) fun La hp=>?_; rotate_left
   ·refine⟨trivial,_,h.bk.rc rfl,ha103.isSl,?_⟩;refine gdi hp fun Ma hp=>?_;obtain⟨fa,hp⟩:=zrL hp;refine⟨(by first|exact fa|(rw[ha103.slLen];exact fa)),?_⟩;obtain⟨ga,hp⟩:=zrL hp;refine⟨(by first|exact ga|(rw[ha103.slLen];exact ga)),?_⟩;obtain⟨ha,hp⟩:=zrL hp;refine⟨(by first|exact ha|(rw[ha103.slLen];exact ha)),?_⟩;refine gdi hp fun Na hp=>?_;obtain⟨ia,hp⟩:=zrL hp;refine⟨(by first|exact ia|(rw[ha103.slLen];exact ia)),?_⟩;obtain⟨ja,hp⟩:=zrL hp;refine⟨(by first|exact ja|(rw[ha103.slLen];exact ja)),_,_,_,_,h.bk.ra,?_⟩;obtain⟨ec,Oa,hp⟩:=zrK hp;refine zxl (b:=b) (out_:=F) l.pre (ha102.sub (Sub.trans (Sub.trans p.fs q.fs) d)) (ha103.sub (Sub.trans (Sub.trans p.fs q.fs) d)) Oa fun Bc Pa=>?_;obtain⟨u,Qa⟩:=l.call Pa g;have Ra:=h.k Qa;refine⟨_,rfl,?_⟩;refine zsa hp (fun Sa hp=>?_) fun Sa hp=>?_; rotate_left
    ·obtain rfl:=oi hp;exact hq _ u.ext'
    refine⟨_,_,_,_,Ra.bk.ra,?_⟩
    try rw[ha103.slLen]
    obtain⟨fc,Ta,hp⟩:=zrK hp;refine zxl (b:=b) (out_:=((znv .i64 bits) % ((1:Int) * ((2:Int) ^ (Int.toNat (znv .u64 (b.Entries.length:Int))))))) u.pre (ha102.sub (Sub.trans (Sub.trans p.fs q.fs) d)) (ha103.sub (Sub.trans (Sub.trans p.fs q.fs) d)) Ta fun Cc Ua=>?_;obtain⟨t,gc⟩:=u.call Ua g;refine⟨_,rfl,?_⟩;refine zsa hp (fun Va hp=>?_) fun Va hp=>?_; rotate_left
    ·obtain⟨hc,Wa,hp⟩:=zrK hp;refine zvH t.pre  Wa fun Dc Xa=>?_;obtain⟨Ya,ic⟩:=t.call Xa g;refine⟨_,rfl,?_⟩;obtain rfl:=oi hp;exact hq _ Ya.ext'
    try rw[ha103.slLen]
    obtain⟨Za,ab,hp⟩:=zrK hp;refine zvT (bits:=((znv .i64 bits) % ((1:Int) * ((2:Int) ^ (Int.toNat (znv .u64 (b.Entries.length:Int))))))) t.pre  ab fun Ec jc kc bb cb=>?_;obtain⟨ka,db⟩:=t.callG bb g;refine⟨_,rfl,?_⟩;obtain⟨nc,eb,hp⟩:=zrK hp;refine zvV (a:=Za) (b:=aa.1) ka.pre cb (e.sub (Sub.trans d db.fs)) eb fun Fc fb=>?_;obtain⟨w,oc⟩:=ka.call fb g;refine⟨_,rfl,?_⟩;refine zsb hp (fun gb hp=>?_) fun gb hp=>?_; rotate_left
    ·obtain rfl:=oi hp;exact hq _ w.ext'
    obtain⟨pc,hb,hp⟩:=zrK hp;refine zvH w.pre  hb fun Gc ib=>?_;obtain⟨jb,qc⟩:=w.call ib g;refine⟨_,rfl,?_⟩;obtain rfl:=oi hp;exact hq _ jb.ext'
   obtain⟨kb,y,hp⟩:=zrK hp;obtain⟨Rb,oa,I,y⟩:=zrE y;refine⟨Rb,oa,(by first|exact I|(rw[e.slLen];exact I)),_,(e.rdI y (Sub.trans d l.sub)),trivial,_,h.bk.rc rfl,ha103.isSl,?_⟩;obtain⟨la,hp⟩:=zrL hp;refine⟨(by first|exact la|(rw[ha103.slLen];exact la)),?_⟩
   try rw[ha103.slLen]
   obtain⟨sc,mb,hp⟩:=zrK hp;refine zvI (n:=kb) (low:=(0:Int)) (high:=((b.Entries.length:Int) - (1:Int))) l.pre  mb fun Hc ob=>?_;obtain⟨i,pb⟩:=l.call ob g;have ma:=h.k pb;refine⟨_,rfl,?_⟩;refine zsb hp (fun qb hp=>?_) fun qb hp=>?_
   ·obtain rfl:=oi hp;exact hq _ i.ext'
   refine ifd hp (fun rb hp=>?_) fun rb hp=>?_; rotate_left
   ·obtain⟨tc,z,hp⟩:=zrK hp;obtain⟨Sb,pa,J,z⟩:=zrE z;refine⟨Sb,pa,(by first|exact J|(rw[e.slLen];exact J)),_,(e.rdI z (Sub.trans d i.sub)),?_⟩;refine gdi hp fun sb hp=>?_;refine gdi hp fun tb hp=>?_;refine gdi hp fun ub hp=>?_;refine gdi hp fun vb hp=>?_;refine gdi hp fun wb hp=>?_;refine gdi hp fun xb hp=>?_;refine gdi hp fun yb hp=>?_;refine gdi hp fun zb hp=>?_;refine gdi hp fun Ab hp=>?_;refine gdi hp fun Bb hp=>?_;exact ea _ _ _ _ j g i d ma hp
   obtain⟨uc,A,hp⟩:=zrK hp;obtain⟨Tb,qa,N,A⟩:=zrE A;refine⟨Tb,qa,(by first|exact N|(rw[e.slLen];exact N)),_,(e.rdI A (Sub.trans d i.sub)),?_⟩;refine gdi hp fun Cb hp=>?_;obtain⟨vc,B,hp⟩:=zrK hp;obtain⟨Ub,sa,O,B⟩:=zrE B;refine⟨Ub,sa,(by first|exact O|(rw[e.slLen];exact O)),_,(e.rdI B (Sub.trans d i.sub)),?_⟩;refine ifd hp (fun Db hp=>?_) fun Db hp=>?_
   ·obtain rfl:=oi hp;exact hq _ i.ext'
   obtain⟨wc,D,hp⟩:=zrK hp;obtain⟨Vb,ta,P,D⟩:=zrE D;refine⟨Vb,ta,(by first|exact P|(rw[e.slLen];exact P)),_,(e.rdI D (Sub.trans d i.sub)),?_⟩;refine gdi hp fun Eb hp=>?_;refine gdi hp fun Fb hp=>?_;refine gdi hp fun Gb hp=>?_;refine gdi hp fun Hb hp=>?_;refine gdi hp fun Ib hp=>?_;refine gdi hp fun Jb hp=>?_;refine gdi hp fun Kb hp=>?_;refine gdi hp fun Mb hp=>?_;refine gdi hp fun Nb hp=>?_;refine gdi hp fun Ob hp=>?_;exact ea _ _ _ _ j g i d ma hp
 exact hgo _ _ _ _ _ ba o ca (Sub.refl _) h hp
def Inc(n fr:Nat)(T:List Int):Prop:=T.Pairwise (· < ·)/\∀v∈T,(fr:Int)<=v/\v < n
theorem Inc.cons{n fr:Nat}{x:Int}{T:List Int}:Inc n fr (x::T)↔((fr:Int)<=x/\x < n)/\Inc n (x+1).toNat T:=by
 unfold Inc;rw[List.pairwise_cons]
 constructor
 ·rintro⟨⟨h1,h2⟩,h3⟩
  have hx:=h3 x (List.mem_cons_self ..);exact⟨hx,h2,fun v hv=>by have:=h1 v hv; have:=h3 v (List.mem_cons_of_mem _ hv); omega⟩
 ·rintro⟨hx,h2,h3⟩
  refine⟨⟨fun v hv=>by have:=h3 v hv; omega,h2⟩,fun v hv=>?_⟩
  rcases List.mem_cons.1 hv with rfl | hv
  ·exact hx
  ·have:=h3 v hv; omega
theorem zxv{n:Nat}{D:List Int}:∀{d:Nat} {pre:List Int} {fr:Nat},D∈zsF n d pre fr↔∃T,D=pre++T/\T.length=d/\Inc n fr T
 | 0,pre,fr=>by
  show D∈[pre]↔_
  rw[List.mem_singleton]
  constructor
  ·rintro rfl; exact⟨[],by simp,rfl,.nil,fun v hv=>by cases hv⟩
  ·rintro⟨T,h1,h2,_⟩
   rw[List.eq_nil_of_length_eq_zero h2,List.append_nil] at h1; exact h1
 | d+1,pre,fr=>by
  show D∈zsE (fun x=>zsF n d (pre++[(x:Int)]) (x+1)) (n - fr) fr↔_
  rw[zwN]
  constructor
  ·rintro⟨x,h1,h2,h3⟩
   obtain⟨T,h4,h5,h6⟩:=zxv.1 h3;refine⟨(x:Int)::T,by rw[h4]; simp,by simp[h5],Inc.cons.2 ⟨by omega,?_⟩⟩;rw[show((x:Int)+1).toNat=x+1 by omega]; exact h6
  ·rintro⟨T,h1,h2,h3⟩
   cases T with
   | nil=>simp at h2
   | cons v T=>
    obtain⟨h4,h5⟩:=Inc.cons.1 h3;refine⟨v.toNat,by omega,by omega,zxv.2 ⟨T,?_,by simpa using h2,?_⟩⟩
    ·rw[show((v.toNat:Nat):Int)=v by omega,h1]; simp
    ·rw[show v.toNat+1=(v+1).toNat by omega]; exact h5
theorem zxw{n:Nat}:∀{T:List Int} {fr:Nat},Inc n fr T->T.length<=n - fr
 | [],_,_=>Nat.zero_le _
 | v::T,fr,h=>by
  obtain⟨h1,h2⟩:=Inc.cons.1 h;have:=zxw h2
  simp only[List.length_cons]
  omega
theorem zxx{n:Nat}{D:List Int}:D∈zpC n↔Inc n 0 D:=by
 unfold zpC;rw[zwN]
 constructor
 ·rintro⟨s,_,_,h⟩
  obtain⟨T,h1,_,h2⟩:=zxv.1 h;rw[h1]; exact h2
 ·intro h;have:=zxw h;exact⟨D.length,Nat.zero_le _,by omega,zxv.2 ⟨D,rfl,rfl,h⟩⟩
def inD(D:List Int)(j:Nat):Bool:=decide ((j:Int)∈D)
def zxy(b:Nat):Nat->List Int
 | 0=>[]
 | p+1=>zxy b p++(if b.testBit p then [(p:Int)] else [])
def zxz(b:Nat):List Int:=zxy b 16
theorem zxA{b:Nat}{v:Int}:∀{p:Nat},v∈zxy b p↔0<=v/\v < p/\b.testBit v.toNat=true
 | 0=>⟨fun h=>(by cases h),fun h=>by omega⟩
 | p+1=>by
  show v∈zxy b p++_↔_
  rw[List.mem_append,zxA]
  constructor
  ·rintro (h | h)
   ·exact⟨h.1,by omega,h.2.2⟩
   ·by_cases hb:b.testBit p=true
    ·rw[if_pos hb,List.mem_singleton] at h;subst h; exact⟨by omega,by omega,hb⟩
    ·rw[if_neg hb] at h; cases h
  ·rintro⟨h1,h2,h3⟩
   by_cases hv:v=(p:Int)
   ·subst hv;have h4:b.testBit p=true:=h3;rw[if_pos h4]; exact .inr (List.mem_singleton.2 rfl)
   ·exact .inl ⟨h1,by omega,h3⟩
theorem zxB{b:Nat}:∀p:Nat,(zxy b p).Pairwise (· < ·)
 | 0=>.nil
 | p+1=>by
  show(zxy b p++_).Pairwise _
  rw[List.pairwise_append];refine⟨zxB p,?_,fun a ha c hc=>?_⟩
  ·split
   ·exact List.pairwise_singleton _ _
   ·exact .nil
  ·have:=zxA.1 ha
   split at hc
   ·rw[List.mem_singleton] at hc; omega
   ·cases hc
theorem zxC{b p:Nat}(h:∀q,p<=q->b.testBit q=false):∀k,zxy b (p+k)=zxy b p
 | 0=>rfl
 | k+1=>by
  show zxy b (p+k)++(if b.testBit (p+k) then _ else _)=_
  rw[h (p+k) (by omega),zxC h k]; simp
theorem zxD{b:Nat}:∀p,(zxy b p).length<=p
 | 0=>Nat.le_refl _
 | p+1=>by
  show(zxy b p++_).length<=_
  rw[List.length_append];have:=zxD (b:=b) p
  split <;> simp <;> omega
theorem zxE(b p:Nat):(b:Int) / 2 ^ p=((b / 2 ^ p:Nat):Int):=by simp
theorem zjo{b p q:Nat}(h:b / 2 ^ p=0)(hq:p<=q):b.testBit q=false:=by
 have h1:b < 2 ^ p:=by
  rcases Nat.lt_or_ge b (2 ^ p) with h2 | h2
  ·exact h2
  ·have:=Nat.div_pos h2 (Nat.two_pow_pos p); omega
 exact Nat.testBit_lt_two_pow (Nat.lt_of_lt_of_le h1 (Nat.pow_le_pow_right (by omega) hq))
def bef:List Int->List Int->Bool
 | [],[]=>false
 | [],_::_=>true
 | _::_,[]=>false
 | x::a,y::b=>if x=y then bef a b else decide (x < y)
def shB(a b:List Int):Bool:=decide (a.length < b.length) || (decide (a.length=b.length) && bef a b)
theorem zxF:∀A:List Int,bef A A=false
 | []=>rfl
 | x::A=>by show(if x=x then bef A A else _)=_; rw[if_pos rfl,zxF A]
theorem zxG:∀{A B:List Int},bef A B=true->bef B A=false
 | [],[],h=>by cases h
 | [],_::_,_=>rfl
 | _::_,[],h=>by cases h
 | x::A,y::B,h=>by
  have h':(if x=y then bef A B else decide (x < y))=true:=h
  show(if y=x then bef B A else decide (y < x))=false
  by_cases hxy:x=y
  ·rw[if_pos hxy] at h'; rw[if_pos hxy.symm]; exact zxG h'
  ·rw[if_neg hxy] at h'; rw[if_neg fun h=>hxy h.symm];have:=of_decide_eq_true h';exact decide_eq_false (by omega)
theorem zxH:∀A B:List Int,A=B\/bef A B=true\/bef B A=true
 | [],[]=>.inl rfl
 | [],_::_=>.inr (.inl rfl)
 | _::_,[]=>.inr (.inr rfl)
 | x::A,y::B=>by
  show x::A=y::B\/(if x=y then bef A B else decide (x < y))=true\/(if y=x then bef B A else decide (y < x))=true
  by_cases hxy:x=y
  ·subst hxy;rw[if_pos rfl,if_pos rfl]
   rcases zxH A B with h | h | h
   ·exact .inl (by rw[h])
   ·exact .inr (.inl h)
   ·exact .inr (.inr h)
  ·rw[if_neg hxy,if_neg fun h=>hxy h.symm]
   by_cases h:x < y
   ·exact .inr (.inl (decide_eq_true h))
   ·exact .inr (.inr (decide_eq_true (by omega)))
theorem zxI:∀{A B E:List Int},bef A B=true->bef B E=true->bef A E=true
 | [],[],_,h,_=>by cases h
 | [],_::_,[],_,h=>by cases h
 | [],_::_,_::_,_,_=>rfl
 | _::_,[],_,h,_=>by cases h
 | _::_,_::_,[],_,h=>by cases h
 | x::A,y::B,z::E,h1,h2=>by
  have h1':(if x=y then bef A B else decide (x < y))=true:=h1;have h2':(if y=z then bef B E else decide (y < z))=true:=h2
  show(if x=z then bef A E else decide (x < z))=true
  by_cases hxy:x=y
  ·rw[if_pos hxy] at h1'
   by_cases hyz:y=z
   ·rw[if_pos hyz] at h2';rw[if_pos (hxy.trans hyz)]; exact zxI h1' h2'
   ·rw[if_neg hyz] at h2';rw[if_neg (by rw[hxy]; exact hyz)];have:=of_decide_eq_true h2';exact decide_eq_true (by omega)
  ·rw[if_neg hxy] at h1';have h3:=of_decide_eq_true h1'
   by_cases hyz:y=z
   ·rw[if_neg (by omega)]; exact decide_eq_true (by omega)
   ·rw[if_neg hyz] at h2';have:=of_decide_eq_true h2';rw[if_neg (by omega)]; exact decide_eq_true (by omega)
theorem zxJ{A B:List Int}:shB A B=true↔A.length < B.length\/(A.length=B.length/\bef A B=true):=by
 unfold shB;rw[Bool.or_eq_true,Bool.and_eq_true,decide_eq_true_eq,decide_eq_true_eq]
theorem zxK{A B E:List Int}(h1:shB A B=true)(h2:shB B E=true):shB A E=true:=by
 rw[zxJ] at h1 h2 ⊢
 rcases h1 with h1 | ⟨h1,h3⟩
 ·rcases h2 with h2 | ⟨h2,_⟩
  ·exact .inl (by omega)
  ·exact .inl (by omega)
 ·rcases h2 with h2 | ⟨h2,h4⟩
  ·exact .inl (by omega)
  ·exact .inr ⟨by omega,zxI h3 h4⟩
theorem zxL(A B:List Int):A=B\/shB A B=true\/shB B A=true:=by
 rw[zxJ,zxJ]
 rcases Nat.lt_trichotomy A.length B.length with h | h | h
 ·exact .inr (.inl (.inl h))
 ·rcases zxH A B with h1 | h1 | h1
  ·exact .inl h1
  ·exact .inr (.inl (.inr ⟨h,h1⟩))
  ·exact .inr (.inr (.inr ⟨h.symm,h1⟩))
 ·exact .inr (.inr (.inl h))
theorem zxM(A:List Int):shB A A=false:=by unfold shB; rw[decide_eq_false (by omega),zxF]; simp
theorem zxN{A B:List Int}(h:shB A B=true):shB B A=false:=by
 unfold shB at h ⊢;rw[Bool.or_eq_true,Bool.and_eq_true,decide_eq_true_eq,decide_eq_true_eq] at h
 rcases h with h | ⟨h1,h2⟩
 ·rw[decide_eq_false (by omega),decide_eq_false (by omega)]; rfl
 ·rw[decide_eq_false (by omega),zxG h2]; simp
theorem zxO(x y:Int)(A B:List Int)(hxy:x < y):∀pre:List Int,bef (pre++x::A) (pre++y::B)=true
 | []=>by show(if x=y then _ else decide (x < y))=true; rw[if_neg (by omega),decide_eq_true hxy]
 | p::pre=>by show(if p=p then bef (pre++x::A) (pre++y::B) else _)=true; rw[if_pos rfl]; exact zxO x y A B hxy pre
theorem zxP{α:Type}{R:α->α->Prop}(g:Nat->List α)(h1:∀x,(g x).Pairwise R)(h2:∀x y,x < y->∀a∈g x,∀b∈g y,R a b):∀e x,(zsE g e x).Pairwise R
 | 0,_=>.nil
 | e+1,x=>by
  show(g x++zsE g e (x+1)).Pairwise R
  rw[List.pairwise_append];refine⟨h1 x,zxP g h1 h2 e (x+1),fun a ha b hb=>?_⟩;obtain⟨j,h3,_,h4⟩:=(zwN g b e (x+1)).1 hb;exact h2 x j (by omega) a ha b h4
theorem zxQ{n:Nat}:∀(d:Nat) (pre:List Int) (fr:Nat),(zsF n d pre fr).Pairwise fun a b=>bef a b=true
 | 0,pre,fr=>List.pairwise_singleton _ _
 | d+1,pre,fr=>zxP _ (fun x=>zxQ d _ _) (fun x y hxy a ha b hb=>by
  obtain⟨T,h1,_,_⟩:=zxv.1 ha;obtain⟨T',h2,_,_⟩:=zxv.1 hb;rw[h1,h2,List.append_assoc,List.append_assoc]
  exact zxO _ _ _ _ (by omega) pre) _ _
theorem zxR(n:Nat):(zpC n).Pairwise fun a b=>shB a b=true:=
 zxP _ (fun s=>(zxQ s [] 0).imp_of_mem fun {a b} ha hb hab=>by
  have h1:=zwW ha;have h2:=zwW hb;unfold shB
  rw[hab,decide_eq_true (show a.length=b.length by omega)]; simp) (fun s s' hs a ha b hb=>by
  have h1:=zwW ha;have h2:=zwW hb;unfold shB
  rw[decide_eq_true (by omega)]; rfl) _ _
theorem zxS{t:List Int->Bool}:∀{l:List (List Int)},l.Pairwise (fun a b=>shB a b=true)->∀{D D':List Int},l.find? t=some D->D'∈l->t D'=true->D'=D\/shB D D'=true
 | [],_,_,_,h,_,_=>by cases h
 | a::l,hp,D,D',h,hm,ht=>by
  rw[List.pairwise_cons] at hp;rw[List.find?_cons] at h
  cases hta:t a with
  | true=>
   rw[hta] at h;have:a=D:=oi h;subst this
   rcases List.mem_cons.1 hm with rfl | h1
   ·exact .inl rfl
   ·exact .inr (hp.1 _ h1)
  | false=>
   rw[hta] at h
   rcases List.mem_cons.1 hm with rfl | h1
   ·rw[hta] at ht; cases ht
   ·exact zxS hp.2 h h1 ht
theorem zxT{n:Nat}{t:List Int->Bool}(h:∃D,Inc n 0 D/\t D=true):Inc n 0 (zsG n t)/\t (zsG n t)=true/\∀D,Inc n 0 D->t D=true->D=zsG n t\/shB (zsG n t) D=true:=by
 obtain⟨D0,h1,h2⟩:=h;unfold zsG
 cases hf:(zpC n).find? t with
 | none=>exact absurd h2 (by have:=List.find?_eq_none.1 hf D0 (zxx.2 h1); simpa using this)
 | some D=>exact⟨zxx.1 (List.mem_of_find?_eq_some hf),List.find?_some hf,fun D' h3 h4=>zxS (zxR n) hf (zxx.2 h3) h4⟩
theorem zxU:∀(n:Nat) (S:Nat->Bool),∃b,b < 2 ^ n/\∀q,q < n->b.testBit q=S q
 | 0,S=>⟨0,by decide,fun q hq=>by omega⟩
 | n+1,S=>by
  obtain⟨b,h1,h2⟩:=zxU n fun q=>S (q+1);refine⟨2 * b+(if S 0 then 1 else 0),?_,fun q hq=>?_⟩
  ·rw[Nat.pow_succ]; split <;> omega
  ·cases q with
   | zero=>
    rw[Nat.testBit_zero]
    cases S 0 with
    | true=>exact decide_eq_true (by simp only[if_true]; omega)
    | false=>exact decide_eq_false (by simp)
   | succ q=>
    rw[Nat.testBit_succ,<- h2 q (by omega)]
    congr 1
    split <;> omega
theorem zxV:∀{A B:List Int},A.Pairwise (· < ·)->B.Pairwise (· < ·)->(∀v,v∈A↔v∈B)->A=B
 | [],[],_,_,_=>rfl
 | [],b::B,_,_,h=>by have:=(h b).2 (List.mem_cons_self ..); cases this
 | a::A,[],_,_,h=>by have:=(h a).1 (List.mem_cons_self ..); cases this
 | a::A,b::B,hA,hB,h=>by
  rw[List.pairwise_cons] at hA hB
  have hab:a=b:=by
   rcases List.mem_cons.1 ((h a).1 (List.mem_cons_self ..)) with h1 | h1
   ·exact h1
   ·rcases List.mem_cons.1 ((h b).2 (List.mem_cons_self ..)) with h2 | h2
    ·exact h2.symm
    ·have:=hA.1 _ h2; have:=hB.1 _ h1; omega
  subst hab
  congr 1
  refine zxV hA.2 hB.2 fun v=>?_;have hv:=h v;rw[List.mem_cons,List.mem_cons] at hv
  constructor
  ·intro h1
   rcases hv.1 (.inr h1) with h2 | h2
   ·have:=hA.1 _ h1; omega
   ·exact h2
  ·intro h1
   rcases hv.2 (.inr h1) with h2 | h2
   ·have:=hB.1 _ h1; omega
   ·exact h2
theorem zxW{n b:Nat}(_hn:n<=16)(hb:b < 2 ^ n):Inc n 0 (zxz b):=
 ⟨zxB 16,fun v hv=>by
  obtain⟨h1,h2,h3⟩:=zxA.1 hv;refine⟨by omega,?_⟩
  by_cases h4:v < n
  ·exact h4
  ·have:=Nat.testBit_lt_two_pow (Nat.lt_of_lt_of_le hb (Nat.pow_le_pow_right (by omega) (show n<=v.toNat by omega)))
   rw[this] at h3; cases h3⟩
theorem zxX{n b k:Nat}(hn:n<=16)(hk:k < n):inD (zxz b) k=b.testBit k:=by
 unfold inD
 have:((k:Nat):Int)∈zxz b↔b.testBit k=true:=by
  unfold zxz;rw[zxA];exact⟨fun h=>h.2.2,fun h=>⟨by omega,by omega,h⟩⟩
 cases hb:b.testBit k with
 | true=>exact decide_eq_true (this.2 hb)
 | false=>exact decide_eq_false fun h=>by rw[this.1 h] at hb; cases hb
theorem zxY{n:Nat}{D:List Int}(hn:n<=16)(hD:Inc n 0 D):∃b,b < 2 ^ n/\zxz b=D:=by
 obtain⟨b,h1,h2⟩:=zxU n (inD D);refine⟨b,h1,zxV (zxB 16) hD.1 fun v=>?_⟩
 constructor
 ·intro hv;obtain⟨h3,h4⟩:=(zxW hn h1).2 v hv;obtain⟨_,_,h5⟩:=zxA.1 hv;rw[h2 _ (by omega)] at h5;have:=of_decide_eq_true h5
  rwa [show((v.toNat:Nat):Int)=v by omega] at this
 ·intro hv;have h3:=hD.2 v hv;refine zxA.2 ⟨by omega,by omega,?_⟩;rw[h2 _ (by omega)];exact decide_eq_true (by rw[show((v.toNat:Nat):Int)=v by omega]; exact hv)
def inR:List Rg->List Int->Prop
 | [],[]=>True
 | r::rs,x::xs=>(r.Lo<=x/\x<=r.Hi)/\inR rs xs
 | _,_=>False
theorem zxZ:∀{rs:List Rg} {xs:List Int},inR rs xs->xs.length=rs.length
 | [],[],_=>rfl
 | _::_,_::_,h=>by rw[List.length_cons,List.length_cons,zxZ h.2]
theorem zx0{L:List Int}:∀{rs:List Rg} {pre:List Int},L∈chW rs pre↔∃xs,L=pre++xs/\inR rs xs
 | [],pre=>by
  rw[chW,List.mem_singleton]
  constructor
  ·intro h; exact⟨[],by rw[h,List.append_nil],trivial⟩
  ·rintro⟨xs,h1,h2⟩
   cases xs with
   | nil=>rw[h1,List.append_nil]
   | cons _ _=>exact h2.elim
 | r::rs,pre=>by
  rw[chW,zwN]
  constructor
  ·rintro⟨j,_,h1,h2⟩
   obtain⟨xs,h3,h4⟩:=(zx0 (rs:=rs)).1 h2;refine⟨(r.Lo+(j:Int))::xs,by rw[h3,List.append_assoc]; rfl,⟨?_,h4⟩⟩;unfold szR at h1; omega
  ·rintro⟨xs,h1,h2⟩
   cases xs with
   | nil=>exact h2.elim
   | cons x xs=>
    obtain⟨h3,h4⟩:=h2;refine⟨(x - r.Lo).toNat,Nat.zero_le _,by unfold szR; omega,(zx0 (rs:=rs)).2 ⟨xs,?_,h4⟩⟩;rw[h1,show r.Lo+((x - r.Lo).toNat:Int)=x by omega,List.append_assoc]; rfl
theorem zx1{L:List Int}{rs:List Rg}:L∈chW rs []↔inR rs L:=by
 rw[zx0];exact⟨fun⟨xs,h1,h2⟩=>by rw[h1]; exact h2,fun h=>⟨L,rfl,h⟩⟩
def zx2(l:List En):Int:=((l.filter fun e=>decide (e.Kind=1)).length:Int)
def zx3(b:Boo):Int:=(b.Parcels.length:Int)+zx2 b.Entries
def zx4(b:Boo)(r:Rg):Prop:=0<=r.Lo/\r.Lo<=r.Hi/\r.Hi<=b.Last
def InN(n lo hi:Int):Prop:=lo<=n/\n<=hi
def zgo(b:Boo)(e:En):Prop:=
 (e.Kind=0/\InN e.From 0 (b.Owners - 1)/\InN e.To 0 (b.Owners - 1)/\e.From ≠ e.To/\e.Part=0/\e.Other=0) \/
 (e.Kind=1/\e.From=0/\e.To=0/\e.Other=0/\InN e.Part 1 1000) \/
 (e.Kind=2/\e.From=0/\e.To=0/\e.Part=0/\InN e.Other 0 (zx3 b - 1)/\e.Other ≠ e.Parcel) \/
 (e.Kind=3/\e.From=0/\e.To=0/\e.Part=0/\e.Other=0)
def zx5(b:Boo)(e:En):Prop:=zx4 b e.Day/\InN e.Parcel 0 (zx3 b - 1)/\zgo b e
def zx6(b:Boo)(p:Pc):Prop:=InN p.Owner 0 (b.Owners - 1)/\InN p.Value 0 1000/\zx4 b p.Sown
theorem zx7{l:List En}:0<=zx2 l/\zx2 l<=l.length:=by
 unfold zx2;have:=List.length_filter_le (fun e:En=>decide (e.Kind=1)) l
 omega
theorem zx8{n lo hi:Int}:Ev (ztf n lo hi) (InN n lo hi):=Ev.ite fun _=>Ev.dec Iff.rfl
theorem zx9{b:Boo}{r:Rg}:Ev (ztg b r) (zx4 b r):=Ev.ite fun _=>Ev.ite fun _=>Ev.dec Iff.rfl
theorem zya{b:Boo}{n:Int}(hl:b.Entries.length<=100){m:Nat}(hm:n=(m:Int))(hml:m<=b.Entries.length)(hp:b.Parcels.length<=100):∀(d k:Nat),k<=m->m - k < d->prNumbers_L0 b n d ((b.Parcels.length:Int)+zx2 (b.Entries.take k)) (k:Int)=some ((b.Parcels.length:Int)+zx2 (b.Entries.take m))
 | 0,_,_,h=>by omega
 | d+1,k,hk,h=>by
  unfold prNumbers_L0
  by_cases hkm:k=m
  ·subst hkm;rw[if_neg (by omega)]
  ·have hlt:k < b.Entries.length:=by omega
   have hg:=List.getElem?_eq_getElem hlt
   have hsp:zx2 (b.Entries.take (k+1))=zx2 (b.Entries.take k)+if b.Entries[k].Kind=1 then 1 else 0:=by
    rw[List.take_add_one,hg];unfold zx2;rw[List.filter_append,List.length_append]
    by_cases h1:b.Entries[k].Kind=1
    ·rw[if_pos h1]; simp[h1]
    ·rw[if_neg h1]; simp[h1]
   have hr:=zx7 (l:=b.Entries.take k)
   have:(b.Entries.take k).length<=100:=by rw[List.length_take]; omega
   have ih:=zya hl hm hml hp d (k+1) (by omega) (by omega);rw[if_pos (by omega),zsJ hg,obs]
   by_cases h1:b.Entries[k].Kind=1
   ·rw[if_pos h1] at hsp;rw[if_pos h1,zrM (fI (by omega)),zrM (fI (by omega)),show(k:Int)+1=((k+1:Nat):Int) by omega,Int.add_assoc,<- hsp];exact ih
   ·rw[if_neg h1,Int.add_zero] at hsp;rw[if_neg h1,zrM (fI (by omega)),show(k:Int)+1=((k+1:Nat):Int) by omega,<- hsp];exact ih
theorem zyb{b:Boo}(hl:b.Entries.length<=100)(hp:b.Parcels.length<=100):zti b=some (zx3 b):=by
 unfold zti zth;have:=zya hl rfl (Nat.le_refl _) hp (b.Entries.length+1) 0 (Nat.zero_le _) (by omega);rw[List.take_length] at this;rw[Int.toNat_natCast];have h0:zx2 (b.Entries.take 0)=0:=rfl;rw[h0,Int.add_zero] at this;rw[show((0:Nat):Int)=0 from rfl] at this;rw[this]; rfl
theorem zyc{b:Boo}(hl:b.Entries.length<=100)(hp:b.Parcels.length<=100):0<=zx3 b/\zx3 b<=200:=by
 have:=zx7 (l:=b.Entries);unfold zx3; omega
theorem zyd{b:Boo}{e:En}(hl:b.Entries.length<=100)(hp:b.Parcels.length<=100)(ho:1<=b.Owners/\b.Owners<=4):Ev (ztj b e) (zx5 b e):=by
 have hr:=zyc hl hp;unfold ztj;refine(zx9.and (K:=InN e.Parcel 0 (zx3 b - 1)/\zgo b e) fun _=>Ev.bind (zyb hl hp) (Ev.gd (fI (by omega)) (zx8.and fun hpc=>?_)));unfold zgo
 by_cases h0:e.From=0
 ·rw[if_pos h0]
  by_cases k0:e.Kind=0
  ·rw[if_pos k0];refine(Ev.gd (fI (by omega)) (zx8.and fun _=>Ev.gd (fI (by omega)) (zx8.and fun _=>Ev.itn fun _=>Ev.ite fun _=>Ev.dec Iff.rfl))).imp ?_
   simp[k0]
  ·rw[if_neg k0]
   by_cases k1:e.Kind=1
   ·rw[if_pos k1];refine(Ev.ite fun _=>Ev.ite fun _=>zx8.ret).imp ?_
    simp[k1,h0]
   ·rw[if_neg k1]
    by_cases k2:e.Kind=2
    ·rw[if_pos k2];refine(Ev.ite fun _=>Ev.ite fun _=>Ev.bind (zyb hl hp) (Ev.gd (fI (by omega)) (zx8.and (K:=¬ e.Other=e.Parcel) fun _=>Ev.mk' (by simp)))).imp ?_
     simp[k2,h0]
    ·rw[if_neg k2]
     by_cases k3:e.Kind=3
     ·rw[if_pos k3];refine(Ev.ite fun _=>Ev.ite fun _=>Ev.dec Iff.rfl).imp ?_
      simp[k3,h0]
     ·rw[if_neg k3];exact Ev.ff (by simp[k0,k1,k2,k3])
 ·rw[if_neg h0]
  by_cases k0:e.Kind=0
  ·rw[if_pos k0];refine(Ev.gd (fI (by omega)) (zx8.and fun _=>Ev.gd (fI (by omega)) (zx8.and fun _=>Ev.itn fun _=>Ev.ite fun _=>Ev.dec Iff.rfl))).imp ?_
   simp[k0]
  ·rw[if_neg k0]
   repeat' split
   all_goals exact Ev.ff (by simp[k0,h0])
def zye(x:Int)(l:List Rg):Int:=l.foldl (fun p r=>p * szR r) x
def zyf(C:Int)(x:Int)(l:List Rg):Int:=l.foldl (fun p r=>min C (p * szR r)) x
def zyg(S:Int)(l:List Rg):Prop:=∀r∈l,1<=szR r/\szR r<=S
theorem zyh:∀{l:List Rg} {x:Int},zye x l=x * zye 1 l
 | [],x=>(Int.mul_one x).symm
 | r::l,x=>by
  show zye (x * szR r) l=x * zye (1 * szR r) l
  rw[zyh (l:=l) (x:=x * szR r),zyh (l:=l) (x:=1 * szR r),Int.one_mul,Int.mul_assoc]
theorem zyi{l:List Rg}{r:Rg}{x:Int}:zye x (r::l)=zye (x * szR r) l:=rfl
theorem zyj{C:Int}{l k:List Rg}{x:Int}:zyf C x (l++k)=zyf C (zyf C x l) k:=by unfold zyf; rw[List.foldl_append]
theorem zyk{S:Int}:∀{l:List Rg},zyg S l->1<=zye 1 l
 | [],_=>by show(1:Int)<=1; omega
 | r::l,h=>by
  rw[zyi,Int.one_mul,zyh];have h1:=h r (List.mem_cons_self ..);have h2:=zyk fun r hr=>h r (List.mem_cons_of_mem _ hr);have:=Int.mul_le_mul h1.1 h2 (by omega) (by omega)
  omega
theorem zyl{S C:Int}(hC:0<=C):∀{l:List Rg} {x:Int},zyg S l->0<=x->x<=C->zyf C x l=min C (zye x l)
 | [],x,_,_,hx=>(Int.min_eq_right hx).symm
 | r::l,x,h,h0,hx=>by
  have h1:=h r (List.mem_cons_self ..);have hl:zyg S l:=fun r hr=>h r (List.mem_cons_of_mem _ hr);have h2:=zyk hl;have h3:0<=x * szR r:=Int.mul_nonneg h0 (by omega)
  show zyf C (min C (x * szR r)) l=min C (zye (x * szR r) l)
  rw[zyl hC hl (by omega) (by omega)]
  by_cases h4:x * szR r<=C
  ·rw[Int.min_eq_right h4]
  ·rw[Int.min_eq_left (a:=C) (b:=x * szR r) (by omega),zyh (x:=C),zyh (x:=x * szR r)];have a1:C * 1<=C * zye 1 l:=Int.mul_le_mul_of_nonneg_left h2 hC;have a2:(x * szR r) * 1<=(x * szR r) * zye 1 l:=Int.mul_le_mul_of_nonneg_left h2 h3;rw[Int.min_eq_left (by omega),Int.min_eq_left (by omega)]
theorem zym{C:Int}(hC:1<=C){S:Int}{l:List Rg}(h:zyg S l){x:Int}(h0:1<=x)(hx:x<=C):1<=zyf C x l/\zyf C x l<=C:=by
 rw[zyl (by omega) h (by omega) hx,zyh];have h2:=zyk h;have a2:x * 1<=x * zye 1 l:=Int.mul_le_mul_of_nonneg_left h2 (by omega)
 omega
theorem zyn{x s C S:Int}(hx:0<=x/\x<=C)(hs:1<=s/\s<=S)(hC:0<=C):0<=x * s/\x * s<=C * S:=⟨Int.mul_nonneg hx.1 (by omega),Int.mul_le_mul hx.2 hs.2 (by omega) hC⟩
theorem zyo{b:Boo}(hp:b.Parcels.length<=100)(hz:zyg 100 (b.Parcels.map (·.Sown)))(hr:∀p∈b.Parcels,okR p.Sown):∀(d k:Nat) (x:Int),k<=b.Parcels.length->b.Parcels.length - k < d->1<=x->x<=2000->ztk b d x (k:Int)=some (zyf 2000 x ((b.Parcels.drop k).map (·.Sown)))
 | 0,_,_,_,h,_,_=>by omega
 | d+1,k,x,hk,h,h0,hx=>by
  rw[ztk]
  by_cases hkn:k < b.Parcels.length
  ·have hg:=List.getElem?_eq_getElem hkn;have hm:=List.getElem_mem hkn;have hs:=hz _ (List.mem_map.2 ⟨_,hm,rfl⟩);have ho:=hr _ hm;unfold okR at ho;have hsd:b.Parcels[k].Sown.Hi - b.Parcels[k].Sown.Lo+1=szR b.Parcels[k].Sown:=rfl;have hmu:=zyn (C:=2000) ⟨by omega,hx⟩ hs (by omega);rw[if_pos (by omega),zsJ hg,obs,obs,zrM (fI (by omega)),zrM (fI (by omega)),zrM (by omega),hsd,zrM (by omega),zrM (fI (by omega)),zrM (fI (by omega)),show(k:Int)+1=((k+1:Nat):Int) by omega];have h1:x * 1<=x * szR b.Parcels[k].Sown:=Int.mul_le_mul_of_nonneg_left hs.1 (by omega);rw[zyo hp hz hr d (k+1) _ (by omega) (by omega) (by omega) (by omega),List.drop_eq_getElem_cons hkn]; rfl
  ·rw[if_neg (by omega),List.drop_eq_nil_of_le (by omega)]; rfl
theorem zyp{b:Boo}(hp:b.Entries.length<=100)(hz:zyg 100 (b.Entries.map (·.Day)))(hr:∀p∈b.Entries,okR p.Day):∀(d k:Nat) (x:Int),k<=b.Entries.length->b.Entries.length - k < d->1<=x->x<=2000->ztl b d x (k:Int)=ztk b 1000000 (zyf 2000 x ((b.Entries.drop k).map (·.Day))) 0
 | 0,_,_,_,h,_,_=>by omega
 | d+1,k,x,hk,h,h0,hx=>by
  rw[ztl]
  by_cases hkn:k < b.Entries.length
  ·have hg:=List.getElem?_eq_getElem hkn;have hm:=List.getElem_mem hkn;have hs:=hz _ (List.mem_map.2 ⟨_,hm,rfl⟩);have ho:=hr _ hm;unfold okR at ho;have hsd:b.Entries[k].Day.Hi - b.Entries[k].Day.Lo+1=szR b.Entries[k].Day:=rfl;have hmu:=zyn (C:=2000) ⟨by omega,hx⟩ hs (by omega);rw[if_pos (by omega),zsJ hg,obs,obs,zrM (fI (by omega)),zrM (fI (by omega)),zrM (by omega),hsd,zrM (by omega),zrM (fI (by omega)),zrM (fI (by omega)),show(k:Int)+1=((k+1:Nat):Int) by omega];have h1:x * 1<=x * szR b.Entries[k].Day:=Int.mul_le_mul_of_nonneg_left hs.1 (by omega);rw[zyp hp hz hr d (k+1) _ (by omega) (by omega) (by omega) (by omega),List.drop_eq_getElem_cons hkn]; rfl
  ·rw[if_neg (by omega),List.drop_eq_nil_of_le (by omega)]; rfl
def zyq(b:Boo):List Rg:=b.Entries.map (·.Day)++b.Parcels.map (·.Sown)
theorem zyr{b:Boo}(hL:b.Last<=30){r:Rg}(h:zx4 b r):(1<=szR r/\szR r<=31)/\okR r:=by
 unfold zx4 at h;unfold szR okR
 omega
theorem zys{b:Boo}(hL:b.Last<=30)(hP:∀p∈b.Parcels,zx6 b p)(hE:∀e∈b.Entries,zx5 b e):zyg 31 (zyq b)/\∀r∈zyq b,okR r:=by
 have key:∀r∈zyq b,zx4 b r:=fun r hr=>by
  rcases List.mem_append.1 hr with h | h
  ·obtain⟨e,he,rfl⟩:=List.mem_map.1 h; exact(hE e he).1
  ·obtain⟨e,he,rfl⟩:=List.mem_map.1 h; exact(hP e he).2.2
 exact⟨fun r hr=>(zyr hL (key r hr)).1,fun r hr=>(zyr hL (key r hr)).2⟩
theorem zyg.mono{S T:Int}(h:S<=T){l k:List Rg}(hk:∀r∈k,r∈l)(hl:zyg S l):zyg T k:=fun r hr=>⟨(hl r (hk r hr)).1,by have:=(hl r (hk r hr)).2; omega⟩
theorem zyt{b:Boo}(h1:b.Entries.length<=100)(h2:b.Parcels.length<=100)(hL:b.Last<=30)(hP:∀p∈b.Parcels,zx6 b p)(hE:∀e∈b.Entries,zx5 b e):ztm b=some (min 2000 (zye 1 (zyq b))):=by
 obtain⟨hz,hr⟩:=zys hL hP hE;have hzE:zyg 100 (b.Entries.map (·.Day)):=zyg.mono (by omega) (fun r hr=>List.mem_append_left _ hr) hz;have hzP:zyg 100 (b.Parcels.map (·.Sown)):=zyg.mono (by omega) (fun r hr=>List.mem_append_right _ hr) hz;unfold ztm;have g1:=zyp h1 hzE (fun e he=>hr _ (List.mem_append_left _ (List.mem_map.2 ⟨e,he,rfl⟩))) 1000000 0 1 (Nat.zero_le _) (by omega) (by omega) (by omega);have hc:=zym (C:=2000) (x:=1) (by omega) hzE (by omega) (by omega);have g2:=zyo h2 hzP (fun e he=>hr _ (List.mem_append_right _ (List.mem_map.2 ⟨e,he,rfl⟩))) 1000000 0 (zyf 2000 1 (b.Entries.map (·.Day))) (Nat.zero_le _) (by omega) hc.1 hc.2;rw[List.drop_zero] at g1 g2;refine g1.trans (g2.trans ?_);rw[<- zyj];exact congrArg some (zyl (by omega) hz (by omega) (by omega))
def zyu(b:Boo):Prop:=(InN b.Last 0 30/\1<=b.Owners)/\(∀p∈b.Parcels,zx6 b p)/\∀e∈b.Entries,zx5 b e
open Classical in
def zyv(b:Boo):Int:=if 4 < b.Owners\/4 < b.Parcels.length\/6 < b.Entries.length then 3 else if zyu b then (if 1000 < zye 1 (zyq b) then 3 else 0) else 1
theorem zyw{b:Boo}(ho:znq .i64 b.Owners):zto b=some (zyv b):=by
 have ho:=fI' ho;unfold zto zyv
 by_cases c1:4 < b.Owners
 ·rw[if_pos c1,if_pos (.inl c1)]
 rw[if_neg c1]
 by_cases c2:4 < b.Parcels.length
 ·rw[if_pos (by omega),if_pos (.inr (.inl c2))]
 rw[if_neg (by omega)]
 by_cases c3:6 < b.Entries.length
 ·rw[if_pos (by omega),if_pos (.inr (.inr c3))]
 rw[if_neg (by omega),if_neg (show ¬ (4 < b.Owners\/4 < b.Parcels.length\/6 < b.Entries.length) by omega)]
 refine zx8.pick (P:=InN b.Last 0 30) (fun hl=>?_) fun hl=>by rw[if_neg (by simp),if_neg fun h=>hl h.1.1]
 rw[if_pos rfl]
 by_cases c4:b.Owners < 1
 ·rw[if_pos c4,if_neg fun h=>by have:=h.1.2; omega]
 rw[if_neg c4]
 obtain⟨l1,l2⟩:=zsQ (l:=b.Parcels) (F:=fun d x=>ztn b d 0 x) (ok:=zx6 b) (bad:=some 1) (fin:=prFault_L1 b 1000000 0) (fun d k a hk=>by
  have hkl:=(List.getElem?_eq_some_iff.1 hk).1
  have e1:ztn b (d+1) 0 (k:Int)=gd (znq .i64 (b.Owners - (1:Int))) ((ztf a.Owner (0:Int) (b.Owners - (1:Int))).bind fun r529=>(if r529=true then ((ztf a.Value (0:Int) (1000:Int)).bind fun r537=>(if r537=true then ((ztg b a.Sown).bind fun r545=>(if r545=true then (gd (znq .i64 ((k:Int)+(1:Int))) (ztn b d 0 ((k:Int)+(1:Int)))) else (some (1:Int)))) else (some (1:Int)))) else (some (1:Int)))):=by
   rw[ztn,if_pos (by omega),zsJ hk,obs]
  rw[e1,zrM (fI (by omega)),zrM (fI (by omega))]
  constructor
  ·intro h;rw[zx8.some_of h.1,obs,if_pos rfl,zx8.some_of h.2.1,obs,if_pos rfl,zx9.some_of h.2.2,obs,if_pos rfl]
  ·intro h
   refine zx8.pick (P:=InN a.Owner 0 (b.Owners - 1)) (fun q1=>?_) fun q1=>by rw[if_neg (by simp)]
   rw[if_pos rfl]
   refine zx8.pick (P:=InN a.Value 0 1000) (fun q2=>?_) fun q2=>by rw[if_neg (by simp)]
   rw[if_pos rfl]
   exact zx9.pick (fun q3=>absurd ⟨q1,q2,q3⟩ h) fun q3=>by rw[if_neg (by simp)]) (fun d=>by
  show ztn b (d+1) 0 _=_
  rw[ztn,if_neg (Int.lt_irrefl _)]) (d:=1000000) (by omega)
 by_cases c5:∀p∈b.Parcels,zx6 b p
 rotate_left
 ·rw[if_neg fun h=>c5 h.2.1]; exact l2 c5
 refine(l1 c5).trans ?_
 obtain⟨m1,m2⟩:=zsQ (l:=b.Entries) (F:=fun d x=>prFault_L1 b d x) (ok:=zx5 b) (bad:=some 1) (fin:=(ztm b).bind fun r569=>(if (1000:Int) < r569 then (some (3:Int)) else (some (0:Int)))) (fun d k a hk=>by
  have hkl:=(List.getElem?_eq_some_iff.1 hk).1
  have e1:prFault_L1 b (d+1) (k:Int)=(ztj b a).bind fun r561=>(if r561=true then (gd (znq .i64 ((k:Int)+(1:Int))) (prFault_L1 b d ((k:Int)+(1:Int)))) else (some (1:Int))):=by
   rw[prFault_L1,if_pos (by omega),zsJ hk,obs]
  rw[e1,zrM (fI (by omega))]
  exact(zyd (by omega) (by omega) (by omega)).step (by rw[if_pos rfl]) (by rw[if_neg (by simp)])) (fun d=>by
  show prFault_L1 b (d+1) _=_
  rw[prFault_L1,if_neg (Int.lt_irrefl _)]) (d:=1000000) (by omega)
 by_cases c6:∀e∈b.Entries,zx5 b e
 rotate_left
 ·rw[if_neg fun h=>c6 h.2.2]; exact m2 c6
 refine(m1 c6).trans ?_;rw[if_pos ⟨⟨hl,by omega⟩,c5,c6⟩,zyt (by omega) (by omega) hl.2 c5 c6,obs]
 by_cases c7:1000 < zye 1 (zyq b)
 ·rw[if_pos (by omega),if_pos c7]
 ·rw[if_neg (by omega),if_neg c7]
end
end Go.Proofs.YtlkgdadfbfafcaaGreat

namespace Go.Proofs.YtlkgdadfbfafcaaGreat
open _root_.Go.Proofs.Tryz
open Go.Abs
set_option maxRecDepth 100000
noncomputable section
def zyx:O6:={ o0:=false,o1:=false,o2:=false,o3:=false,o4:=false,o5:=false }
def zyy(m:M6):List Int:=[m.m0,m.m1,m.m2,m.m3,m.m4,m.m5]
def zyz(o:O6):List Bool:=[o.o0,o.o1,o.o2,o.o3,o.o4,o.o5]
def zyA(o:O6)(i:Nat):Bool:=(zyz o).getD i false
def en0:En:={ Kind:=0,Parcel:=0,Other:=0,From:=0,To:=0,Part:=0,Day:={ Lo:=0,Hi:=0 } }
def zyB(b:Boo)(i:Nat):En:=b.Entries.getD i en0
def mkC(b:Boo)(i:Nat):Int:=if (zyB b i).Kind=1 then (b.Parcels.length:Int)+zx2 (b.Entries.take i) else 0
theorem zyC{b:Boo}{i:Nat}{e:En}(h:b.Entries[i]? = some e):zyB b i=e:=by unfold zyB; rw[List.getD_eq_getElem?_getD,h]; rfl
theorem zyD{o:O6}{k:Nat}(hk:k < 6):([o.o0,o.o1,o.o2,o.o3,o.o4,o.o5]:List Bool)[k]? = some (zyA o k):=by
 have:k=0\/k=1\/k=2\/k=3\/k=4\/k=5:=by omega
 rcases this with rfl | rfl | rfl | rfl | rfl | rfl <;> rfl
structure zyE (w:Wk) (b:Boo) (O:O6):Prop where
 eb:w.b=b
 n:w.numbers=zx3 b
 o:w.out=O
 m:∀i:Nat,i < b.Entries.length->(zyy w.makes)[i]? = some (mkC b i)
theorem zyF{l:List En}{k:Nat}{e:En}(h:l[k]? = some e):zx2 (l.take (k+1))=zx2 (l.take k)+if e.Kind=1 then 1 else 0:=by
 rw[List.take_add_one,h];unfold zx2;rw[List.filter_append,List.length_append]
 by_cases h1:e.Kind=1
 ·rw[if_pos h1]; simp[h1]
 ·rw[if_neg h1]; simp[h1]
theorem zyG{k:Nat}{v a0 a1 a2 a3 a4 a5:Int}(hk:k < 6):([sti (k:Int) 0 v a0,sti (k:Int) 1 v a1,sti (k:Int) 2 v a2,sti (k:Int) 3 v a3,sti (k:Int) 4 v a4,sti (k:Int) 5 v a5]:List Int)[k]? = some v/\∀i,i ≠ k->([sti (k:Int) 0 v a0,sti (k:Int) 1 v a1,sti (k:Int) 2 v a2,sti (k:Int) 3 v a3,sti (k:Int) 4 v a4,sti (k:Int) 5 v a5]:List Int)[i]? = ([a0,a1,a2,a3,a4,a5]:List Int)[i]?:=by
 have e:∀(j:Nat) (x:Int),sti (k:Int) j v x=if k=j then v else x:=fun j x=>by
  unfold sti
  by_cases h:k=j
  ·rw[if_pos h,if_pos (by omega)]
  ·rw[if_neg h,if_neg (by omega)]
 simp only[e]
 have:k=0\/k=1\/k=2\/k=3\/k=4\/k=5:=by omega
 rcases this with rfl | rfl | rfl | rfl | rfl | rfl <;> exact⟨rfl,fun i hi=>by rcases i with _ | _ | _ | _ | _ | _ | i <;> first | rfl | exact absurd rfl hi⟩
theorem zyH{b:Boo}(hl:b.Entries.length<=6)(hp:b.Parcels.length<=100):∀(d k:Nat) (n a0 a1 a2 a3 a4 a5:Int),k<=b.Entries.length->b.Entries.length - k < d->n=(b.Parcels.length:Int)+zx2 (b.Entries.take k) ->
  (∀i:Nat,i < 6->([a0,a1,a2,a3,a4,a5]:List Int)[i]? = some (if i < k then mkC b i else 0)) ->
  ∃w,zt1 b d b.Last b.Owners n a0 a1 a2 a3 a4 a5 false false false false false false (k:Int)=some w/\zyE w b zyx
 | 0,_,_,_,_,_,_,_,_,_,h,_,_=>by omega
 | d+1,k,n,a0,a1,a2,a3,a4,a5,hk,h,hn,hm=>by
  rw[zt1]
  by_cases hkn:k < b.Entries.length
  ·have hg:=List.getElem?_eq_getElem hkn;have hst:=zyF hg;have hr:=zx7 (l:=b.Entries.take k)
   have hr2:(b.Entries.take k).length<=6:=by rw[List.length_take]; omega
   have hmk:mkC b k=if b.Entries[k].Kind=1 then (b.Parcels.length:Int)+zx2 (b.Entries.take k) else 0:=by unfold mkC; rw[zyC hg]
   rw[if_pos (by omega),zsJ hg,obs]
   by_cases h1:b.Entries[k].Kind=1
   ·rw[if_pos h1] at hst hmk;obtain⟨s1,s2⟩:=zyG (k:=k) (v:=n) (a0:=a0) (a1:=a1) (a2:=a2) (a3:=a3) (a4:=a4) (a5:=a5) (by omega);rw[if_pos h1,zrM (by omega),zrM (fI (by omega)),zrM (fI (by omega)),show(k:Int)+1=((k+1:Nat):Int) by omega];refine zyH hl hp d (k+1) (n+1) _ _ _ _ _ _ (by omega) (by omega) (by omega) fun i hi=>?_
    by_cases hik:i=k
    ·subst hik; rw[s1,hn,if_pos (by omega),hmk]
    ·rw[s2 i hik,hm i hi]
     by_cases h2:i < k
     ·rw[if_pos h2,if_pos (by omega)]
     ·rw[if_neg h2,if_neg (by omega)]
   ·rw[if_neg h1] at hst hmk;rw[if_neg h1,zrM (fI (by omega)),show(k:Int)+1=((k+1:Nat):Int) by omega];refine zyH hl hp d (k+1) n _ _ _ _ _ _ (by omega) (by omega) (by omega) fun i hi=>?_;rw[hm i hi]
    by_cases hik:i=k
    ·subst hik; rw[if_neg (by omega),if_pos (by omega),hmk]
    ·by_cases h2:i < k
     ·rw[if_pos h2,if_pos (by omega)]
     ·rw[if_neg h2,if_neg (by omega)]
  ·rw[if_neg (by omega)]
   have hkl:k=b.Entries.length:=by omega
   subst hkl;rw[List.take_length] at hn
   exact⟨_,rfl,rfl,hn,rfl,fun i hi=>by
    have:=hm i (by omega)
    rw[if_pos hi] at this; exact this⟩
theorem zyI{b:Boo}(hl:b.Entries.length<=6)(hp:b.Parcels.length<=100):∃w,zt2 b=some w/\zyE w b zyx:=
 zyH hl hp (b.Entries.length+1) 0 _ 0 0 0 0 0 0 (Nat.zero_le _) (by omega) (by show _=_+zx2 []; unfold zx2; simp) fun i hi=>by
  rw[if_neg (by omega)]
  have:i=0\/i=1\/i=2\/i=3\/i=4\/i=5:=by omega
  rcases this with rfl | rfl | rfl | rfl | rfl | rfl <;> rfl
theorem zyJ{n lo hi:Int}:Ev (ztI n lo hi) (InN n lo hi):=Ev.ite fun _=>Ev.dec Iff.rfl
theorem zyK{w:Wk}{n:Int}:Ev (ztL w n) (InN n 0 w.b.Last):=zyJ.ret
theorem zyL{w:Wk}{r:Rg}:Ev (ztM w r) (zx4 w.b r):=
 (Ev.ite fun _=>zyK.and fun _=>zyK.ret).imp (by unfold InN zx4; omega)
theorem zyM{w:Wk}{n:Int}(ho:-1000<=w.b.Owners/\w.b.Owners<=1000):Ev (ztK w n) (InN n 0 (w.b.Owners - 1)):=Ev.gd (fI (by omega)) zyJ.ret
theorem zyN{w:Wk}{n:Int}(ho:0<=w.numbers/\w.numbers<=1000):Ev (ztJ w n) (InN n 0 (w.numbers - 1)):=Ev.gd (fI (by omega)) zyJ.ret
theorem zyO{w:Wk}{p:Pc}(ho:-1000<=w.b.Owners/\w.b.Owners<=1000):Ev (ztO w p) (zx6 w.b p):=(zyM ho).and fun _=>zyJ.and fun _=>zyL.ret
theorem zyP{w:Wk}{e:En}(hw:w.numbers=zx3 w.b)(hn:0<=w.numbers/\w.numbers<=1000)(ho:-1000<=w.b.Owners/\w.b.Owners<=1000)(he:zs6 e):Ev (ztN w e) (zx5 w.b e):=by
 obtain⟨f1,f2,f3,f4,f5,f6,f7,f8⟩:=he;have fz:znq .i64 0:=fI (by omega);unfold ztN
 simp only[zrM f1,zrM f2,zrM f3,zrM f4,zrM f5,zrM f6,zrM f7,zrM f8,zrM fz]
 refine((zyN hn).and (K:=zx4 w.b e.Day/\zgo w.b e) fun _=>zyL.and fun _=>?_).imp (by rw[hw]; unfold zx5; constructor <;> (rintro⟨a,b,c⟩; exact⟨b,a,c⟩))
 unfold zgo;rw[<- hw]
 by_cases k0:e.Kind=0
 ·rw[if_pos k0];refine((zyM ho).and fun _=>(zyM ho).and fun _=>Ev.itn (K:=e.Part=0/\e.Other=0) fun _=>Ev.mk' (by simp; exact And.comm)).imp ?_
  simp[k0]
 ·rw[if_neg k0]
  by_cases k1:e.Kind=1
  ·rw[if_pos k1];refine(zyJ.and (K:=e.Other=0/\e.From=0/\e.To=0) fun _=>Ev.mk' (by simp)).imp ?_
   simp[k1]
   constructor
   ·rintro⟨a,b,c,d⟩; exact⟨c,d,b,a⟩
   ·rintro⟨c,d,b,a⟩; exact⟨a,b,c,d⟩
  ·rw[if_neg k1]
   by_cases k2:e.Kind=2
   ·rw[if_pos k2];refine((zyN hn).and fun _=>Ev.itn (K:=e.From=0/\e.To=0/\e.Part=0) fun _=>Ev.mk' (by simp)).imp ?_
    simp[k2]
    constructor
    ·rintro⟨a,b,c,d,f⟩; exact⟨c,d,f,a,b⟩
    ·rintro⟨c,d,f,a,b⟩; exact⟨a,b,c,d,f⟩
   ·rw[if_neg k2]
    by_cases k3:e.Kind=3
    ·rw[if_pos k3];refine(Ev.mk' (P:=e.Other=0/\e.From=0/\e.To=0/\e.Part=0) (by simp)).imp ?_
     simp[k3]
     constructor
     ·rintro⟨a,b,c,d⟩; exact⟨b,c,d,a⟩
     ·rintro⟨b,c,d,a⟩; exact⟨a,b,c,d⟩
    ·rw[if_neg k3];exact Ev.ff (by simp[k0,k1,k2,k3])
theorem gP{l:List Pc}{p:Pc->Option Bool}:∀{d:Nat} {x:Int},ztQ l p d x=gIdx l p d x
 | 0,_=>rfl
 | d+1,x=>by unfold ztQ gIdx; simp only[gP]
theorem gE{l:List En}{p:En->Option Bool}:∀{d:Nat} {x:Int},ztV l p d x=gIdx l p d x
 | 0,_=>rfl
 | d+1,x=>by unfold ztV gIdx; simp only[gE]
theorem zyQ{w:Wk}{b:Boo}{O:O6}(hw:zyE w b O)(h1:b.Entries.length<=6)(h2:b.Parcels.length<=4)(ho:-1000<=b.Owners/\b.Owners<=1000)(hE:∀e∈b.Entries,zs6 e):Ev (ztZ w) (zyu b):=by
 have e1:=hw.eb;subst e1;have hr:=zyc (b:=w.b) (by omega) (by omega);have hn:=hw.n;refine(zyJ.and fun _=>Ev.ite fun _=>(Ev.each (q:=zx6 w.b) (fun a _=>zyO ho) (by omega) gP).and fun _=>(Ev.each (q:=zx5 w.b) (fun a ha=>zyP hn (by omega) ho (hE a ha)) (by omega) gE).ret).imp ?_;unfold zyu;rw[and_assoc]
def zyR(o:Bool)(r:Rg):Rg:=if o=true then { Lo:=r.Lo,Hi:=r.Lo } else r
def zyS(b:Boo)(o:Nat->Bool)(k:Nat):List Rg:=(List.range k).map fun i=>zyR (o i) (zyB b i).Day
def zyT(b:Boo)(o:Nat->Bool):List Rg:=zyS b o b.Entries.length++b.Parcels.map (·.Sown)
theorem zyU{b:Boo}{o:Nat->Bool}{k:Nat}:zyS b o (k+1)=zyS b o k++[zyR (o k) (zyB b k).Day]:=by
 unfold zyS;rw[List.range_succ,List.map_append]; rfl
theorem zyV{b:Boo}{o:Nat->Bool}{k:Nat}:(zyS b o k).length=k:=by unfold zyS; rw[List.length_map,List.length_range]
theorem zyW{i:Nat}:zyA zyx i=false:=by
 rcases i with _ | _ | _ | _ | _ | _ | i <;> rfl
theorem zyX{b:Boo}{o:Nat->Bool}(ho:∀i,i < b.Entries.length->o i=false):zyT b o=zyq b:=by
 unfold zyT zyq zyS
 congr 1
 refine List.ext_getElem (by rw[List.length_map,List.length_map,List.length_range]) fun i h1 h2=>?_;rw[List.length_map,List.length_range] at h1;rw[List.getElem_map,List.getElem_map,List.getElem_range,ho i h1,zyC (List.getElem?_eq_getElem h1)]; rfl
theorem zyY{w:Wk}{b:Boo}{O:O6}(hw:zyE w b O)(h1:b.Entries.length<=6)(h2:b.Parcels.length<=100):zt5 w=some (zyT b (zyA O)):=by
 have e1:=hw.eb;subst e1;unfold zt5
 have key0:∀(d k:Nat),k<=w.b.Entries.length->w.b.Entries.length - k < d->zt4 w d (zyS w.b (zyA O) k) (k:Int)=zt3 w (w.b.Parcels.length+1) (zyS w.b (zyA O) w.b.Entries.length) 0:=by
  intro d
  induction d with
  | zero=>intro k _ h; omega
  | succ d ih=>
   intro k hk h;have hlen:=zyV (b:=w.b) (o:=zyA O) (k:=k);rw[zt4]
   by_cases hkn:k < w.b.Entries.length
   ·have hg:=List.getElem?_eq_getElem hkn
    have ho:([w.out.o0,w.out.o1,w.out.o2,w.out.o3,w.out.o4,w.out.o5]:List Bool)[k]? = some (zyA O k):=by
     rw[hw.o]; exact zyD (by omega)
    have ih:=ih (k+1) (by omega) (by omega);rw[zyU,zyC hg] at ih;rw[if_pos (by omega),zsJ hg,obs,zsJ ho,obs]
    cases hb:zyA O k with
    | true=>
     rw[hb] at ih;rw[if_pos rfl,zrM (by omega),zrM (fI (by omega)),show(k:Int)+1=((k+1:Nat):Int) by omega];exact ih
    | false=>
     rw[hb] at ih;rw[if_neg (by simp),zrM (by omega),zrM (fI (by omega)),show(k:Int)+1=((k+1:Nat):Int) by omega];exact ih
   ·have hkl:k=w.b.Entries.length:=by omega
    subst hkl;rw[if_neg (by omega)]
 have key:∀(d k:Nat) (acc:List Rg),k<=w.b.Parcels.length->w.b.Parcels.length - k < d->acc.length<=100+k->zt3 w d acc (k:Int)=some (acc++(w.b.Parcels.drop k).map (·.Sown)):=by
  intro d
  induction d with
  | zero=>intro k _ _ h; omega
  | succ d ih=>
   intro k acc hk h ha;rw[zt3]
   by_cases hkn:k < w.b.Parcels.length
   ·have hg:=List.getElem?_eq_getElem hkn;rw[if_pos (by omega),zsJ hg,obs,zrM (by omega),zrM (fI (by omega)),show(k:Int)+1=((k+1:Nat):Int) by omega,ih (k+1) _ (by omega) (by omega) (by rw[List.length_append,List.length_singleton]; omega),List.drop_eq_getElem_cons hkn,List.map_cons,List.append_assoc]; rfl
   ·rw[if_neg (by omega),List.drop_eq_nil_of_le (by omega)]; simp
 have e0:=key0 (w.b.Entries.length+1) 0 (Nat.zero_le _) (by omega);refine e0.trans ((key (w.b.Parcels.length+1) 0 _ (Nat.zero_le _) (by omega) (by rw[zyV]; omega)).trans rfl)
theorem zyZ{S:Nat}{l:List Rg}(hS:1<=S/\S<=1000)(hz:zyg S l)(hr:∀r∈l,okR r)(hl:l.length<=100):∀(d k:Nat) (x:Nat),k<=l.length->l.length - k < d->x * S ^ (l.length - k)<=1000000000000000000->zt7 l d (x:Int) (k:Int)=some (zye (x:Int) (l.drop k))
 | 0,_,_,_,h,_=>by omega
 | d+1,k,x,hk,h,hx=>by
  rw[zt7]
  by_cases hkn:k < l.length
  ·have hg:=List.getElem?_eq_getElem hkn;have hm:=List.getElem_mem hkn;have hs:=hz _ hm;have ho:=hr _ hm;unfold okR at ho;have hsd:l[k].Hi - l[k].Lo+1=szR l[k]:=rfl
   have es:zt6 l[k]=some (szR l[k]):=by unfold zt6; rw[zrM (fI (by omega)),zrM (fI (by omega))]; rfl
   obtain⟨z,hz'⟩:∃z:Nat,szR l[k]=(z:Int):=⟨(szR l[k]).toNat,by omega⟩;rw[hz'] at hs es
   have hzS:z<=S:=by omega
   have e1:l.length - k=(l.length - (k+1))+1:=by omega
   rw[e1,Nat.pow_succ] at hx
   have hx2:x * z * S ^ (l.length - (k+1))<=x * (S ^ (l.length - (k+1)) * S):=by
    rw[Nat.mul_comm (S ^ _) S,<- Nat.mul_assoc];exact Nat.mul_le_mul_right _ (Nat.mul_le_mul_left _ hzS)
   have hp:1<=S ^ (l.length - (k+1)):=Nat.pow_pos (by omega);have hx3:x * z<=x * z * S ^ (l.length - (k+1)):=Nat.le_mul_of_pos_right _ hp;have ec:(x:Int) * (z:Int)=((x * z:Nat):Int):=(Int.natCast_mul x z).symm;rw[if_pos (by omega),zsJ hg,obs,es,obs,zrM (by omega),zrM (by omega),ec,zrM (fI (by omega)),zrM (fI (by omega)),show(k:Int)+1=((k+1:Nat):Int) by omega,zyZ hS hz hr hl d (k+1) (x * z) (by omega) (by omega) (by omega),List.drop_eq_getElem_cons hkn,zyi,hz',ec]
  ·rw[if_neg (by omega),List.drop_eq_nil_of_le (by omega)]; rfl
theorem zy0{S:Nat}{l:List Rg}(hS:1<=S/\S<=1000)(hz:zyg S l)(hr:∀r∈l,okR r)(hl:l.length<=100)(hp:S ^ l.length<=1000000000000000000):zt8 l=some (zye 1 l):=
 zyZ hS hz hr hl (l.length+1) 0 1 (Nat.zero_le _) (by omega) (by rw[Nat.one_mul]; exact hp)
theorem zy1{b:Boo}(hb:zs8 b):zt9 b=some (zyv b):=by
 obtain⟨f1,f2,⟨f3,f4⟩,f5,f6⟩:=hb;unfold zt9 zyv
 have et:zt0 b=some (decide (4 < b.Owners\/4 < b.Parcels.length\/6 < b.Entries.length)):=by
  unfold zt0
  by_cases c1:4 < b.Owners
  ·rw[if_pos c1,decide_eq_true (.inl c1)]
  rw[if_neg c1]
  by_cases c2:4 < b.Parcels.length
  ·rw[if_pos (by omega),decide_eq_true (.inr (.inl c2))]
  rw[if_neg (by omega)];exact congrArg some (decide_eq_decide.2 (by omega))
 rw[et,obs]
 by_cases c1:4 < b.Owners\/4 < b.Parcels.length\/6 < b.Entries.length
 ·rw[if_pos (decide_eq_true c1),if_pos c1]
 rw[if_neg (by simpa using c1),if_neg c1];obtain⟨w,hw,ww⟩:=zyI (b:=b) (by omega) (by omega);rw[hw,obs]
 by_cases c2:b.Owners < 1
 ·have:¬ zyu b:=fun h=>by have:=h.1.2; omega
  rw[if_neg this]
  have e2:ztZ w=some false:=by
   have hb:=ww.eb;unfold ztZ
   refine zyJ.pick (P:=InN w.b.Last 0 30) (fun _=>?_) fun _=>by rw[if_neg (by simp)]
   rw[if_pos rfl,if_neg (by rw[hb]; omega)]
  rw[e2,obs,if_neg (by simp)]
 refine(zyQ ww (by omega) (by omega) (by omega) f6).pick (fun h=>?_) fun h=>by rw[if_neg (by simp),if_neg h]
 obtain⟨hz,hr⟩:=zys h.1.1.2 h.2.1 h.2.2
 have hl:(zyq b).length<=10:=by unfold zyq; rw[List.length_append,List.length_map,List.length_map]; omega
 rw[if_pos rfl,if_pos h,zyY ww (by omega) (by omega),zyX (fun i _=>zyW),obs,zy0 (S:=31) (by omega) hz hr (by omega) (Nat.le_trans (Nat.pow_le_pow_right (by omega) hl) (by decide)),obs]
 by_cases c7:1000 < zye 1 (zyq b)
 ·rw[if_pos c7,if_pos c7]
 ·rw[if_neg c7,if_neg c7]
def insR(a:Evt):List Evt->List Evt
 | []=>[a]
 | x::r=>if a.on < x.on then x::insR a r else a::x::r
def zy2(p:List Evt)(a:Evt):List Evt:=(insR a p.reverse).reverse
def zy3(l:List Evt):List Evt:=l.foldl zy2 []
theorem zy4{q:List Evt}{x a:Evt}:zy2 (q++[x]) a=if a.on < x.on then zy2 q a++[x] else q++[x,a]:=by
 unfold zy2;rw[List.reverse_append]
 show(insR a (x::q.reverse)).reverse=_
 rw[insR]
 by_cases h:a.on < x.on
 ·rw[if_pos h,if_pos h,List.reverse_cons]
 ·rw[if_neg h,if_neg h]; simp
theorem zy5{a:Evt}:∀{r:List Evt},(insR a r).Perm (a::r)
 | []=>List.Perm.refl _
 | x::r=>by
  unfold insR
  split
  ·exact((zy5 (r:=r)).cons x).trans (List.Perm.swap a x r)
  ·exact List.Perm.refl _
theorem zy6{p:List Evt}{a:Evt}:(zy2 p a).Perm (p++[a]):=
 (List.reverse_perm _).trans (zy5.trans (((List.reverse_perm p).cons a).trans (List.perm_append_singleton a p).symm))
theorem zy7{p:List Evt}{a:Evt}:(zy2 p a).length=p.length+1:=by rw[zy6.length_eq,List.length_append]; rfl
theorem zy8:∀{l p:List Evt},(l.foldl zy2 p).Perm (p++l)
 | [],p=>by rw[List.append_nil]; exact List.Perm.refl _
 | a::l,p=>by
  refine(zy8 (l:=l) (p:=zy2 p a)).trans ?_;refine(zy6.append_right l).trans ?_;rw[List.append_assoc]; exact List.Perm.refl _
theorem zy9{l:List Evt}:(zy3 l).Perm l:=zy8
theorem zza{l:List Evt}:(zy3 l).length=l.length:=zy9.length_eq
theorem zzb{a b:Evt}:zuj a b=some (if a.on < b.on then -1 else if b.on < a.on then 1 else 0):=by
 unfold zuj zui zuh
 simp only[obs]
 simp only[decide_true,Bool.not_true,Bool.false_eq_true,if_false]
 by_cases h1:a.on < b.on
 ·rw[if_pos h1,if_pos h1]; rfl
 ·rw[if_neg h1,if_neg h1]
  by_cases h2:b.on < a.on
  ·rw[if_pos h2,if_pos h2]; rfl
  ·rw[if_neg h2,if_neg h2]; rfl
theorem zzc{K:Int->List Evt->Option (Unit × List Evt)}{x1:Int}(hx:0<=x1/\x1<=1000000)(a:Evt):∀(n:Nat) (d:Nat) (p s:List Evt),p.length=n->n < d->n<=1000000 ->
  zuk 0 (fun a b=>zuj a b) x1 K d (n:Int) (p++a::s)=K (x1+1) (zy2 p a++s)
 | 0,0,_,_,_,h,_=>by omega
 | 0,d+1,p,s,hp,h,hn=>by
  rw[zuk,if_neg (by omega),zrM (fI (by omega)),List.eq_nil_of_length_eq_zero hp]; rfl
 | n+1,0,_,_,_,h,_=>by omega
 | n+1,d+1,p,s,hp,h,hn=>by
  have hne:p ≠ []:=fun h=>by rw[h] at hp; cases hp
  obtain⟨q,x,rfl⟩:∃q x,p=q++[x]:=⟨p.dropLast,p.getLast hne,(List.dropLast_concat_getLast hne).symm⟩
  have hq:q.length=n:=by rw[List.length_append] at hp; exact Nat.succ.inj hp
  have e1:(q++[x])++a::s=q++x::a::s:=by rw[List.append_assoc]; rfl
  rw[e1]
  have g1:(q++x::a::s)[n+1]? = some a:=by rw[List.getElem?_append_right (by omega)]; rw[show n+1 - q.length=1 by omega]; rfl
  have g0:(q++x::a::s)[n]? = some x:=by rw[List.getElem?_append_right (by omega)]; rw[show n - q.length=0 by omega]; rfl
  have g1i:idx (q++x::a::s) ((n+1:Nat):Int)=some a:=zsJ g1
  have g0i:idx (q++x::a::s) (((n+1:Nat):Int) - 1)=some x:=by rw[show((n+1:Nat):Int) - 1=(n:Int) by omega]; exact zsJ g0
  rw[zuk,if_pos (by omega),g1i,obs,zrM (fI (by omega)),g0i,obs,zzb,obs,zy4]
  by_cases hc:a.on < x.on
  ·have s1:(q++x::a::s).set (Int.toNat ((n+1:Nat):Int)) x=q++x::x::s:=by
    rw[Int.toNat_natCast,List.set_append_right _ _ (by omega),show n+1 - q.length=1 by omega]; rfl
   have g2:idx (q++x::x::s) (((n+1:Nat):Int) - 1)=some x:=by
    rw[show((n+1:Nat):Int) - 1=(n:Int) by omega];exact zsJ (by rw[List.getElem?_append_right (by omega),show n - q.length=0 by omega]; rfl)
   have s2:(q++x::x::s).set (Int.toNat (((n+1:Nat):Int) - 1)) a=q++a::x::s:=by
    rw[show(((n+1:Nat):Int) - 1).toNat=n by omega,List.set_append_right _ _ (by omega),show n - q.length=0 by omega]; rfl
   rw[if_pos hc,if_pos (by omega),zrM (fI (by omega)),zrM (fI (by omega)),obs,obs,obs,s1,g2,obs,zrM (fI (by omega)),s2,if_pos hc,show((n+1:Nat):Int) - 1=(n:Int) by omega,zzc hx a n d q (x::s) hq (by omega) (by omega)];rw[List.append_assoc]; rfl
  ·have hz:¬ (if a.on < x.on then (-1:Int) else if x.on < a.on then 1 else 0) < 0:=by
    rw[if_neg hc]; split <;> omega
   rw[if_neg hz,zrM (fI (by omega)),if_neg hc];rw[List.append_assoc]; rfl
theorem zzd{n:Nat}(hn:n<=1000):∀(zlq p:List Evt) (d:Nat),p.length+zlq.length=n->zlq.length < d->zul 0 (n:Int) (fun a b=>zuj a b) d (p.length:Int) (p++zlq)=some ((),zlq.foldl zy2 p)
 | _,_,0,_,h=>by omega
 | [],p,d+1,hl,h=>by
  rw[zul,if_neg (by simp at hl; omega),List.append_nil]; rfl
 | a::zlq,p,d+1,hl,h=>by
  have hl':p.length+(zlq.length+1)=n:=hl;rw[zul,if_pos (by omega),zzc (by omega) a p.length 1000000 p zlq rfl (by omega) (by omega)]
  have e:(p.length:Int)+1=((zy2 p a).length:Int):=by rw[zy7]; rfl
  rw[e,zzd hn zlq (zy2 p a) d (by rw[zy7]; omega) (by have h':zlq.length+1 < d+1:=h; omega)]; rfl
theorem zze{l:List Evt}(hl:l.length<=19):zuu l (fun a b=>zuj a b)=some ((),zy3 l):=by
 unfold zuu zut;rw[zus,if_neg (by omega)]
 have key:zum l 0 (l.length:Int) (fun a b=>zuj a b)=some ((),zy3 l):=by
  unfold zum;rw[zrM (fI (by omega))]
  cases l with
  | nil=>
   rw[zul,if_neg (by simp)]; rfl
  | cons a r=>
   have hl':r.length+1<=19:=hl;have:=zzd (n:=r.length+1) (by omega) r [a] ((((r.length+1:Nat):Int) - (0+1)).toNat+1) (by simp; omega) (by omega);exact this
 rw[key,obs,show((l.length:Int) - 20).toNat+1=1 by omega,zur,if_neg (by omega)]
 rfl
def dF(l:List Int)(i:Nat):Int:=l.getD i 0
def zzf(b:Boo)(D:Nat->Int)(i:Nat):Evt:={ e:=zyB b i,on:=D i,makes:=mkC b i }
def evK(b:Boo)(D:Nat->Int)(o:Nat->Bool)(k:Nat):List Evt:=((List.range k).filter fun i=>!o i).map (zzf b D)
def evI(b:Boo)(D:Nat->Int)(o:Nat->Bool):List Evt:=evK b D o b.Entries.length
theorem zzg{b:Boo}{D:Nat->Int}{o:Nat->Bool}{k:Nat}:evK b D o (k+1)=evK b D o k++if o k=true then [] else [zzf b D k]:=by
 unfold evK;rw[List.range_succ,List.filter_append,List.map_append]
 cases h:o k <;> simp[h]
theorem zzh{b:Boo}{D:Nat->Int}{o:Nat->Bool}{k:Nat}:(evK b D o k).length<=k:=by
 unfold evK;rw[List.length_map];have:=List.length_filter_le (fun i=>!o i) (List.range k);rw[List.length_range] at this; exact this
theorem zzi{b:Boo}{D:Nat->Int}{o:Nat->Bool}{x:Evt}:x∈evI b D o↔∃i,i < b.Entries.length/\o i=false/\zzf b D i=x:=by
 unfold evI evK;rw[List.mem_map]
 constructor
 ·rintro⟨i,h1,h2⟩
  rw[List.mem_filter,List.mem_range] at h1;exact⟨i,h1.1,by simpa using h1.2,h2⟩
 ·rintro⟨i,h1,h2,h3⟩
  exact⟨i,List.mem_filter.2 ⟨List.mem_range.2 h1,by simp[h2]⟩,h3⟩
theorem zzj{b:Boo}{D E:Nat->Int}{o:Nat->Bool}(h:∀i,i < b.Entries.length->o i=false->D i=E i):evI b D o=evI b E o:=by
 unfold evI evK;refine List.map_congr_left fun i hi=>?_;rw[List.mem_filter,List.mem_range] at hi;unfold zzf;rw[h i hi.1 (by simpa using hi.2)]
theorem zzk{w:Wk}{b:Boo}{O:O6}(hw:zyE w b O){days:List Int}(hl:b.Entries.length<=6)(hd:days.length=b.Entries.length):zuw w days=some (zy3 (evI b (dF days) (zyA O))):=by
 have e1:=hw.eb;subst e1;unfold zuw;rw[zrM (by omega)]
 have key:∀(d k:Nat),k<=w.b.Entries.length->w.b.Entries.length - k < d->zuv w days d (evK w.b (dF days) (zyA O) k) (k:Int)=some (zy3 (evI w.b (dF days) (zyA O))):=by
  intro d
  induction d with
  | zero=>intro k _ h; omega
  | succ d ih=>
   intro k hk h;have hlen:=zzh (b:=w.b) (D:=dF days) (o:=zyA O) (k:=k);rw[zuv]
   by_cases hkn:k < w.b.Entries.length
   ·have hg:=List.getElem?_eq_getElem hkn;have hgd:=List.getElem?_eq_getElem (l:=days) (show k < days.length by omega);have hgm:=hw.m k hkn
    have ho:([w.out.o0,w.out.o1,w.out.o2,w.out.o3,w.out.o4,w.out.o5]:List Bool)[k]? = some (zyA O k):=by
     rw[hw.o]; exact zyD (by omega)
    have em:idx ([w.makes.m0,w.makes.m1,w.makes.m2,w.makes.m3,w.makes.m4,w.makes.m5]:List Int) (k:Int)=some (mkC w.b k):=zsJ hgm;have ih:=ih (k+1) (by omega) (by omega);rw[zzg] at ih
    have ed:days[k]=dF days k:=by unfold dF; rw[List.getD_eq_getElem?_getD,hgd]; rfl
    rw[if_pos (by omega),zsJ hg,obs,zsJ ho,obs]
    cases hb:zyA O k with
    | true=>
     rw[hb,if_pos rfl,List.append_nil] at ih;rw[if_pos rfl,zrM (fI (by omega)),show(k:Int)+1=((k+1:Nat):Int) by omega];exact ih
    | false=>
     rw[hb,if_neg (by simp)] at ih;rw[if_neg (by simp),zsJ hgd,obs,em,obs,zrM (by rw[Int.toNat_natCast]; omega),zrM (fI (by omega)),show(k:Int)+1=((k+1:Nat):Int) by omega,ed];unfold zzf zyB at ih;rw[List.getD_eq_getElem?_getD,hg] at ih;exact ih
   ·have hkl:k=w.b.Entries.length:=by omega
    subst hkl;rw[if_neg (by omega)];unfold evI;rw[zze (by omega)]; rfl
    all_goals (intros; simp_all)
 exact key (w.b.Entries.length+1) 0 (Nat.zero_le _) (by omega)
def pl0:Pl:={ owner:=0,value:=0,there:=false,harvested:=false,sown:=0 }
def zzl:List Pl:=List.replicate 10 pl0
def zzm(s:List Pl)(i:Int):Pl:=s.getD i.toNat pl0
def zzn(p:Pl):Bool:=p.there && !p.harvested
def zzo(s:List Pl)(e:Evt):Bool × List Pl:=
 let x:=zzm s e.e.Parcel
 if zzn x=false then (false,s)
 else if e.e.Kind=0 then (if x.owner=e.e.From then (true,s.set e.e.Parcel.toNat { x with owner:=e.e.To }) else (false,s))
 else if e.e.Kind=1 then (if x.value<=e.e.Part then (false,s) else (true,(s.set e.e.Parcel.toNat { x with value:=x.value - e.e.Part }).set e.makes.toNat { x with value:=e.e.Part }))
 else if e.e.Kind=2 then (let y:=zzm s e.e.Other; if zzn y=false then (false,s) else if x.owner=y.owner then (false,s) else (true,(s.set e.e.Parcel.toNat { x with owner:=y.owner }).set e.e.Other.toNat { y with owner:=x.owner }))
 else (if e.on < x.sown then (false,s) else (true,s.set e.e.Parcel.toNat { x with harvested:=true }))
structure zzp (e:Evt):Prop where
 p:0<=e.e.Parcel/\e.e.Parcel < 10
 k:e.e.Kind=0\/e.e.Kind=1\/e.e.Kind=2\/e.e.Kind=3
 m:e.e.Kind=1->(0<=e.makes/\e.makes < 10)/\1<=e.e.Part/\e.e.Part<=1000
 o:e.e.Kind=2->(0<=e.e.Other/\e.e.Other < 10)/\e.e.Other ≠ e.e.Parcel
def zzq(s:List Pl):Prop:=s.length=10/\∀p∈s,0<=p.value/\p.value<=1000
theorem zzr{s:List Pl}(hs:s.length=10){i:Int}(hi:0<=i/\i < 10):idx s i=some (zzm s i):=by
 have hk:i.toNat < s.length:=by omega
 have hg:=List.getElem?_eq_getElem hk;unfold zzm;rw[List.getD_eq_getElem?_getD,hg];have:=zsJ hg;rw[show((i.toNat:Nat):Int)=i by omega] at this;exact this
theorem zzs{s:List Pl}(hs:s.length=10){i j:Int}(hi:0<=i/\i < 10)(hj:0<=j/\j < 10){v:Pl}:zzm (s.set i.toNat v) j=if i=j then v else zzm s j:=by
 unfold zzm;rw[List.getD_eq_getElem?_getD,List.getD_eq_getElem?_getD,List.getElem?_set]
 by_cases h:i=j
 ·subst h; rw[if_pos rfl,if_pos (by omega),if_pos rfl]; rfl
 ·rw[if_neg (by omega),if_neg h]
theorem zzt{p:Pl}:zua p=some (zzn p):=by
 unfold zua zzn
 cases p.there <;> rfl
theorem zzu{s:List Pl}(hs:zzq s){e:Evt}(he:zzp e){β:Type}{f:Bool × List Pl->Option β}:((zuo e.e.Kind).bind fun r=>(r.happen s e).bind f)=f (zzo s e):=by
 have hl:=hs.1;have hx:=zzr hl he.p
 have hxm:zzm s e.e.Parcel∈s:=by
  unfold zzm;rw[List.getD_eq_getElem?_getD,List.getElem?_eq_getElem (show e.e.Parcel.toNat < s.length by have:=he.p; omega)];exact List.getElem_mem _
 have hv:=hs.2 _ hxm;unfold zuo zzo
 dsimp only
 rcases he.k with k | k | k | k
 ·rw[if_pos k,obs]
  show(zub s e).bind f=_
  unfold zub;rw[zrM he.p,zrM hl,hx,obs,zzt,obs]
  cases hst:zzn (zzm s e.e.Parcel) with
  | false=>rw[if_neg (show ¬ (false=true) by decide),if_pos rfl]; rfl
  | true=>
   rw[if_pos rfl,if_neg (show ¬ (true=false) by decide),if_pos k]
   by_cases ho:(zzm s e.e.Parcel).owner=e.e.From
   ·rw[if_pos ho,if_pos ho]; rfl
   ·rw[if_neg ho,if_neg ho]; rfl
 ·rw[if_neg (by omega),if_pos k,obs]
  show(zuc s e).bind f=_
  obtain⟨hm,hp⟩:=he.m k;unfold zuc;rw[zrM he.p,zrM hl,hx,obs,zzt,obs]
  cases hst:zzn (zzm s e.e.Parcel) with
  | false=>rw[if_neg (show ¬ (false=true) by decide),if_pos rfl]; rfl
  | true=>
   rw[if_pos rfl,if_neg (show ¬ (true=false) by decide),if_neg (show ¬ e.e.Kind=0 by omega),if_pos k]
   by_cases ho:(zzm s e.e.Parcel).value<=e.e.Part
   ·rw[if_pos ho,if_pos ho]; rfl
   ·rw[if_neg ho,if_neg ho,zrM (fI (by omega)),zrM hm,zzr (by rw[List.length_set]; exact hl) hm]; rfl
 ·rw[if_neg (by omega),if_neg (by omega),if_pos k,obs]
  show(zud s e).bind f=_
  obtain⟨hm,hne⟩:=he.o k;unfold zud;rw[zrM he.p,zrM hm,zrM hl,hx,obs,zzt,obs]
  cases hst:zzn (zzm s e.e.Parcel) with
  | false=>rw[if_neg (show ¬ (false=true) by decide),if_pos rfl]; rfl
  | true=>
   rw[if_pos rfl,if_neg (show ¬ (true=false) by decide),if_neg (show ¬ e.e.Kind=0 by omega),if_neg (show ¬ e.e.Kind=1 by omega),if_pos k,zzr hl hm,obs,zzt,obs]
   cases hst2:zzn (zzm s e.e.Other) with
   | false=>rw[if_neg (show ¬ (false=true) by decide),if_pos rfl]; rfl
   | true=>
    rw[if_pos rfl,if_neg (show ¬ (true=false) by decide)]
    by_cases ho:(zzm s e.e.Parcel).owner=(zzm s e.e.Other).owner
    ·rw[if_pos ho,if_pos ho]; rfl
    ·rw[if_neg ho,if_neg ho,zzr (by rw[List.length_set]; exact hl) hm,obs,zzs hl he.p hm,if_neg (Ne.symm hne)]; rfl
 ·rw[if_neg (by omega),if_neg (by omega),if_neg (by omega),if_pos k,obs]
  show(zue s e).bind f=_
  unfold zue;rw[zrM he.p,zrM hl,hx,obs,zzt,obs]
  cases hst:zzn (zzm s e.e.Parcel) with
  | false=>rw[if_neg (show ¬ (false=true) by decide),if_pos rfl]; rfl
  | true=>
   rw[if_pos rfl,if_neg (show ¬ (true=false) by decide),if_neg (show ¬ e.e.Kind=0 by omega),if_neg (show ¬ e.e.Kind=1 by omega),if_neg (show ¬ e.e.Kind=2 by omega)]
   by_cases ho:e.on < (zzm s e.e.Parcel).sown
   ·rw[if_pos ho,if_pos ho]; rfl
   ·rw[if_neg ho,if_neg ho]; rfl
theorem zzq.set{s:List Pl}(h:zzq s){i:Nat}{v:Pl}(hv:0<=v.value/\v.value<=1000):zzq (s.set i v):=
 ⟨by rw[List.length_set]; exact h.1,fun p hp=>by
  rcases List.mem_or_eq_of_mem_set hp with h' | h'
  ·exact h.2 p h'
  ·rw[h']; exact hv⟩
theorem zzq.at{s:List Pl}(h:zzq s)(i:Int):0<=(zzm s i).value/\(zzm s i).value<=1000:=by
 unfold zzm;rw[List.getD_eq_getElem?_getD]
 cases hg:s[i.toNat]? with
 | none=>exact⟨by decide,by decide⟩
 | some x=>exact h.2 x (List.mem_of_getElem? hg)
theorem zzv{s:List Pl}(hs:zzq s){e:Evt}(he:zzp e):zzq (zzo s e).2:=by
 have hv:=hs.at e.e.Parcel;have hv2:=hs.at e.e.Other;unfold zzo
 dsimp only
 split
 ·exact hs
 split
 ·split
  ·exact hs.set hv
  ·exact hs
 split
 ·rename_i k1
  obtain⟨_,hp⟩:=he.m k1
  split
  ·exact hs
  ·exact(hs.set (by dsimp only; omega)).set (by dsimp only; omega)
 split
 ·split
  ·exact hs
  split
  ·exact hs
  ·exact(hs.set (by dsimp only; exact hv)).set (by dsimp only; exact hv2)
 split
 ·exact hs
 ·exact hs.set hv
def stepsN(day:Int):List Evt->List Pl->List Pl->List Pl × Bool
 | [],out,_=>(out,true)
 | e::l,out,now=>if (zzo now e).1=true then stepsN day l (if e.on<=day then (zzo now e).2 else out) (zzo now e).2 else (zzl,false)
theorem zzw:zzq zzl:=⟨rfl,fun p hp=>by rw[List.eq_of_mem_replicate hp]; exact⟨by decide,by decide⟩⟩
theorem zzx{day:Int}:∀{l:List Evt} {out now:List Pl},(∀e∈l,zzp e)->zzq out->zzq now->zzq (stepsN day l out now).1
 | [],_,_,_,h,_=>h
 | e::l,out,now,hl,h,hn=>by
  unfold stepsN;have h2:=zzv hn (hl e (List.mem_cons_self ..))
  split
  ·refine zzx (fun e he=>hl e (List.mem_cons_of_mem _ he)) ?_ h2
   split
   ·exact h2
   ·exact h
  ·exact zzw
theorem zzy{day:Int}{L:List Evt}(hL:∀e∈L,zzp e)(hln:L.length<=1000):∀(d k:Nat) (out now:List Pl),k<=L.length->L.length - k < d->zzq out->zzq now->zux day L d out now (k:Int)=some (stepsN day (L.drop k) out now)
 | 0,_,_,_,_,h,_,_=>by omega
 | d+1,k,out,now,hk,h,ho,hn=>by
  rw[zux]
  by_cases hkn:k < L.length
  ·have hg:=List.getElem?_eq_getElem hkn;have he:=hL _ (List.getElem_mem hkn);have h2:=zzv hn he;rw[if_pos (by omega),zsJ hg,obs,zzu hn he,List.drop_eq_getElem_cons hkn,stepsN]
   by_cases hb:(zzo now L[k]).1=true
   ·rw[if_pos hb,if_pos hb]
    by_cases hd:L[k].on<=day
    ·rw[if_pos hd,zrM ⟨ho.1,h2.1⟩,zrM (fI (by omega)),show(k:Int)+1=((k+1:Nat):Int) by omega,zzy hL hln d (k+1) _ _ (by omega) (by omega) h2 h2,if_pos hd]
    ·rw[if_neg hd,zrM (fI (by omega)),show(k:Int)+1=((k+1:Nat):Int) by omega,zzy hL hln d (k+1) _ _ (by omega) (by omega) ho h2,if_neg hd]
   ·rw[if_neg hb,if_neg hb]; rfl
  ·rw[if_neg (by omega),List.drop_eq_nil_of_le (by omega)]; rfl
def zzz(p:Pc)(s:Int):Pl:={ owner:=p.Owner,value:=p.Value,there:=true,harvested:=false,sown:=s }
def zzA:List Pc->List Int->List Pl
 | p::ps,s::ss=>zzz p s::zzA ps ss
 | _,_=>[]
theorem zzB:∀{ps:List Pc} {ss:List Int},ss.length=ps.length->(zzA ps ss).length=ps.length
 | [],_,_=>rfl
 | _::_,[],h=>by cases h
 | p::ps,s::ss,h=>by simp[zzA,zzB (Nat.succ.inj h)]
def zzC(b:Boo)(sown:List Int):List Pl:=zzA b.Parcels sown++List.replicate (10 - b.Parcels.length) pl0
theorem zzD{b:Boo}{sown:List Int}(hl:b.Parcels.length<=4)(hs:sown.length=b.Parcels.length)(hP:∀p∈b.Parcels,zx6 b p):zzq (zzC b sown):=by
 unfold zzC;refine⟨by rw[List.length_append,zzB hs,List.length_replicate]; omega,fun p hp=>?_⟩
 rcases List.mem_append.1 hp with h | h
 ·have key:∀(ps:List Pc) (ss:List Int),p∈zzA ps ss->∃q∈ps,p.value=q.Value:=by
   intro ps
   induction ps with
   | nil=>intro ss h; simp[zzA] at h
   | cons q ps ih=>
    intro ss h
    cases ss with
    | nil=>simp[zzA] at h
    | cons s ss=>
     rcases List.mem_cons.1 h with rfl | h
     ·exact⟨q,List.mem_cons_self ..,rfl⟩
     ·obtain⟨q',h1,h2⟩:=ih ss h; exact⟨q',List.mem_cons_of_mem _ h1,h2⟩
  obtain⟨q,h1,h2⟩:=key _ _ h;rw[h2]; exact(hP q h1).2.1
 ·rw[List.eq_of_mem_replicate h]; exact⟨by decide,by decide⟩
theorem zzE{w:Wk}{b:Boo}{O:O6}(hw:zyE w b O){sown:List Int}(hl:b.Parcels.length<=4)(hs:sown.length=b.Parcels.length):zug w sown=some (zzC b sown):=by
 have e1:=hw.eb;subst e1
 have key:∀(d k:Nat) (pre:List Pl),k<=w.b.Parcels.length->w.b.Parcels.length - k < d->pre.length=k->zuf w sown d (pre++List.replicate (10 - k) pl0) (k:Int)=some (pre++zzA (w.b.Parcels.drop k) (sown.drop k)++List.replicate (10 - w.b.Parcels.length) pl0):=by
  intro d
  induction d with
  | zero=>intro k _ _ h; omega
  | succ d ih=>
   intro k pre hk h hp;rw[zuf]
   by_cases hkn:k < w.b.Parcels.length
   ·have hg:=List.getElem?_eq_getElem hkn;have hg2:=List.getElem?_eq_getElem (l:=sown) (show k < sown.length by omega)
    have hlen:(pre++List.replicate (10 - k) pl0).length=10:=by rw[List.length_append,List.length_replicate]; omega
    have hset:(pre++List.replicate (10 - k) pl0).set (Int.toNat (k:Int)) (zzz w.b.Parcels[k] sown[k])=(pre++[zzz w.b.Parcels[k] sown[k]])++List.replicate (10 - (k+1)) pl0:=by
     rw[Int.toNat_natCast,List.set_append_right _ _ (by omega),hp,Nat.sub_self,show 10 - k=(10 - (k+1))+1 by omega,List.replicate_succ,List.append_assoc]; rfl
    rw[if_pos (by omega),zsJ hg,obs,zsJ hg2,obs,zrM (by omega),zrM hlen,zzr hlen (by omega),obs,zrM (fI (by omega)),show(k:Int)+1=((k+1:Nat):Int) by omega];refine(congrArg (fun y=>zuf w sown d y ((k+1:Nat):Int)) hset).trans ?_;rw[ih (k+1) _ (by omega) (by omega) (by rw[List.length_append,hp]; rfl),List.drop_eq_getElem_cons hkn,List.drop_eq_getElem_cons (l:=sown) (show k < sown.length by omega),zzA,List.append_assoc pre]; rfl
   ·rw[if_neg (by omega)]
    have hk':k=w.b.Parcels.length:=by omega
    subst hk';rw[List.drop_length]
    show some _=some (pre++[]++_)
    rw[List.append_nil]
 exact key (w.b.Parcels.length+1) 0 [] (Nat.zero_le _) (by omega) rfl
theorem zzF{b:Boo}(h1:b.Entries.length<=6)(h2:b.Parcels.length<=4)(hE:∀e∈b.Entries,zx5 b e){D:Nat->Int}{o:Nat->Bool}:∀x∈evI b D o,zzp x/\x.e.Parcel < zx3 b/\(x.e.Kind=1->x.makes < zx3 b)/\(x.e.Kind=2->x.e.Other < zx3 b):=by
 intro x hx;obtain⟨i,a1,a2,rfl⟩:=zzi.1 hx;have hg:=List.getElem?_eq_getElem a1;have he:zyB b i=b.Entries[i]:=zyC hg;obtain⟨d1,d2,d3⟩:=hE _ (List.getElem_mem a1);rw[<- he] at d1 d2 d3;have hr:=zx7 (l:=b.Entries);unfold InN at d2;unfold zgo at d3;have hev:zx3 b=(b.Parcels.length:Int)+zx2 b.Entries:=rfl
 have hm:(zyB b i).Kind=1->0<=mkC b i/\mkC b i < zx3 b:=fun k=>by
  unfold mkC;rw[if_pos k];have hr2:=zx7 (l:=b.Entries.take i);have hst:=zyF hg;rw[<- he,if_pos k] at hst
  have hmono:zx2 (b.Entries.take (i+1))<=zx2 b.Entries:=by
   unfold zx2;have:=(List.take_sublist (i+1) b.Entries).filter (fun e=>decide (e.Kind=1));have:=this.length_le
   omega
  omega
 refine⟨⟨by show 0<=(zyB b i).Parcel/\(zyB b i).Parcel < 10; omega,?_,fun k=>?_,fun k=>?_⟩,by show(zyB b i).Parcel < _; omega,fun k=>(hm k).2,fun k=>?_⟩
 ·rcases d3 with h | h | h | h
  ·exact .inl h.1
  ·exact .inr (.inl h.1)
  ·exact .inr (.inr (.inl h.1))
  ·exact .inr (.inr (.inr h.1))
 ·have hm:=hm k;have k:(zyB b i).Kind=1:=k;refine⟨⟨hm.1,by show mkC b i < 10; omega⟩,?_⟩
  rcases d3 with h | h | h | h
  ·omega
  ·exact h.2.2.2.2
  ·omega
  ·omega
 ·have k:(zyB b i).Kind=2:=k
  rcases d3 with h | h | h | h
  ·omega
  ·omega
  ·have h4:=h.2.2.2.2.1; unfold InN at h4; exact⟨by show 0<=(zyB b i).Other/\(zyB b i).Other < 10; omega,h.2.2.2.2.2⟩
  ·omega
 ·have k:(zyB b i).Kind=2:=k
  rcases d3 with h | h | h | h
  ·omega
  ·omega
  ·have h4:=h.2.2.2.2.1; unfold InN at h4; show(zyB b i).Other < _; omega
  ·omega
theorem zzG{w:Wk}{b:Boo}{O:O6}(hw:zyE w b O)(h1:b.Entries.length<=6)(h2:b.Parcels.length<=4)(hP:∀p∈b.Parcels,zx6 b p)(hE:∀e∈b.Entries,zx5 b e){t:Tr}(hd:t.Days.length=b.Entries.length)(hs:t.Sown.length=b.Parcels.length){day:Int} :
  zuy w t day=some (stepsN day (zy3 (evI b (dF t.Days) (zyA O))) (zzC b t.Sown) (zzC b t.Sown))/\zzq (stepsN day (zy3 (evI b (dF t.Days) (zyA O))) (zzC b t.Sown) (zzC b t.Sown)).1:=by
 have hst:=zzD h2 hs hP;have hev:∀e∈zy3 (evI b (dF t.Days) (zyA O)),zzp e:=fun e he=>(zzF h1 h2 hE e (zy9.mem_iff.1 he)).1
 have hlen:(zy3 (evI b (dF t.Days) (zyA O))).length<=6:=by rw[zza]; exact Nat.le_trans zzh h1
 refine⟨?_,zzx hev hst hst⟩;unfold zuy;rw[zzE hw h2 hs,obs,zrM ⟨rfl,hst.1⟩,zzk hw h1 hd,obs];exact zzy hev (by omega) _ 0 _ _ (Nat.zero_le _) (Nat.lt_succ_self _) hst hst
theorem zzH:∀{rs:List Rg} {xs:List Int},inR rs xs↔xs.length=rs.length/\∀(j:Nat) r x,rs[j]? = some r->xs[j]? = some x->r.Lo<=x/\x<=r.Hi
 | [],[]=>⟨fun _=>⟨rfl,fun j r x h=>by simp at h⟩,fun _=>trivial⟩
 | [],_::_=>⟨fun h=>h.elim,fun h=>by simp at h⟩
 | _::_,[]=>⟨fun h=>h.elim,fun h=>by simp at h⟩
 | r::rs,x::xs=>by
  have ih:=zzH (rs:=rs) (xs:=xs)
  show(r.Lo<=x/\x<=r.Hi)/\inR rs xs↔_
  rw[ih]
  constructor
  ·rintro⟨h1,h2,h3⟩
   refine⟨by simp[h2],fun j r' x' hr hx=>?_⟩
   cases j with
   | zero=>cases hr; cases hx; exact h1
   | succ j=>exact h3 j r' x' hr hx
  ·rintro⟨h1,h2⟩
   exact⟨h2 0 r x rfl rfl,by simpa using h1,fun j r' x' hr hx=>h2 (j+1) r' x' hr hx⟩
def wkN(b:Boo):Wk:=(zt2 b).getD { b:=b,numbers:=0,makes:=⟨0,0,0,0,0,0⟩,out:=zyx }
theorem zzI{b:Boo}(hl:b.Entries.length<=6)(hp:b.Parcels.length<=100):zt2 b=some (wkN b)/\zyE (wkN b) b zyx:=by
 obtain⟨w,h1,h2⟩:=zyI hl hp;unfold wkN;rw[h1]; exact⟨rfl,h2⟩
theorem zzJ{b:Boo}:zyv b=0↔(b.Owners<=4/\b.Parcels.length<=4/\b.Entries.length<=6)/\zyu b/\zye 1 (zyq b)<=1000:=by
 unfold zyv
 by_cases c1:4 < b.Owners\/4 < b.Parcels.length\/6 < b.Entries.length
 ·rw[if_pos c1]; exact⟨fun h=>absurd h (by omega),fun h=>by omega⟩
 ·rw[if_neg c1]
  by_cases c2:zyu b
  ·rw[if_pos c2]
   by_cases c3:1000 < zye 1 (zyq b)
   ·rw[if_pos c3]; exact⟨fun h=>absurd h (by omega),fun h=>by omega⟩
   ·rw[if_neg c3]; exact⟨fun _=>⟨by omega,c2,by omega⟩,fun _=>rfl⟩
  ·rw[if_neg c2]; exact⟨fun h=>absurd h (by omega),fun h=>absurd h.2.1 c2⟩
section
variable {b:Boo} (hb:zs8 b)
include hb
end
end
end Go.Proofs.YtlkgdadfbfafcaaGreat

namespace Go.Proofs.YtlkgdadfbfafcaaGreat
open _root_.Go.Proofs.Tryz
open Go.Abs
set_option maxRecDepth 100000
noncomputable section
def onB(d:Nat)(e:Evt):Bool:=decide (e.on=(d:Int))
def bkN(l:List Evt):Nat->List Evt
 | 0=>[]
 | n+1=>bkN l n++l.filter (onB n)
theorem zzK{l:List Evt}{x:Evt}:∀{n:Nat},x∈bkN l n↔x∈l/\0<=x.on/\x.on < n
 | 0=>⟨fun h=>by simp[bkN] at h,fun h=>by omega⟩
 | n+1=>by
  rw[bkN,List.mem_append,zzK (n:=n),List.mem_filter];unfold onB;rw[decide_eq_true_iff]
  constructor
  ·rintro (⟨h1,h2,h3⟩ | ⟨h1,h2⟩)
   ·exact⟨h1,h2,by omega⟩
   ·exact⟨h1,by omega,by omega⟩
  ·rintro⟨h1,h2,h3⟩
   by_cases h:x.on=n
   ·exact .inr ⟨h1,h⟩
   ·exact .inl ⟨h1,h2,by omega⟩
theorem zzL{α:Type}{P:List α->Prop}(h0:P [])(h1:∀q x,P q->P (q++[x]))(l:List α):P l:=by
 rw[<- List.reverse_reverse l]
 induction l.reverse with
 | nil=>exact h0
 | cons a l ih=>rw[List.reverse_cons]; exact h1 _ _ ih
theorem zzM{p:List Evt}{a:Evt}:∀{q:List Evt},(∀x∈q,a.on < x.on)->zy2 (p++q) a=zy2 p a++q:=by
 intro q;refine zzL (P:=fun q=>(∀x∈q,a.on < x.on)->zy2 (p++q) a=zy2 p a++q) (fun _=>by rw[List.append_nil,List.append_nil]) (fun q x ih h=>?_) q;rw[<- List.append_assoc,zy4,if_pos (h x (by simp)),ih fun y hy=>h y (by simp[hy]),List.append_assoc]
theorem zzN{a:Evt}{p:List Evt}:(∀x∈p,x.on<=a.on)->zy2 p a=p++[a]:=by
 refine zzL (P:=fun p=>(∀x∈p,x.on<=a.on)->zy2 p a=p++[a]) (fun _=>rfl) (fun q x _ h=>?_) p;have:=h x (by simp);rw[zy4,if_neg (by omega),List.append_assoc]; rfl
theorem zzO{l:List Evt}{a:Evt}(h0:0<=a.on):∀{n:Nat},bkN (l++[a]) n=if a.on < n then zy2 (bkN l n) a else bkN l n
 | 0=>by rw[if_neg (by omega)]; rfl
 | n+1=>by
  rw[bkN,bkN,zzO h0 (n:=n),List.filter_append]
  by_cases h1:a.on < n
  ·have e:[a].filter (onB n)=[]:=by unfold onB; rw[List.filter_cons,if_neg (by rw[decide_eq_true_iff]; omega)]; rfl
   rw[if_pos h1,if_pos (by omega),e,List.append_nil,zzM fun x hx=>?_];have:=(List.mem_filter.1 hx).2;unfold onB at this;rw[decide_eq_true_iff] at this; omega
  ·rw[if_neg h1]
   by_cases h2:a.on=n
   ·have e:[a].filter (onB n)=[a]:=by unfold onB; rw[List.filter_cons,if_pos (by rw[decide_eq_true_iff]; omega)]; rfl
    rw[if_pos (by omega),e,<- List.append_assoc];refine(zzN fun x hx=>?_).symm
    rcases List.mem_append.1 hx with h | h
    ·have:=zzK.1 h; omega
    ·have:=(List.mem_filter.1 h).2;unfold onB at this;rw[decide_eq_true_iff] at this; omega
   ·have e:[a].filter (onB n)=[]:=by unfold onB; rw[List.filter_cons,if_neg (by rw[decide_eq_true_iff]; omega)]; rfl
    rw[if_neg (by omega),e,List.append_nil]
theorem zzP:∀{n:Nat},bkN [] n=[]
 | 0=>rfl
 | n+1=>by rw[bkN,zzP]; rfl
theorem zzQ{N:Nat}:∀{l q:List Evt},(∀x∈l,0<=x.on/\x.on < N)->l.foldl zy2 (bkN q N)=bkN (q++l) N
 | [],q,_=>by rw[List.append_nil]; rfl
 | a::l,q,h=>by
  have ha:=h a (List.mem_cons_self ..)
  show l.foldl zy2 (zy2 (bkN q N) a)=_
  have e:=zzO (l:=q) ha.1 (n:=N);rw[if_pos ha.2] at e;rw[<- e,zzQ fun x hx=>h x (List.mem_cons_of_mem _ hx),List.append_assoc]; rfl
theorem zzR{N:Nat}{l:List Evt}(h:∀x∈l,0<=x.on/\x.on < N):zy3 l=bkN l N:=by
 have:=zzQ (q:=[]) h;rw[zzP,List.nil_append] at this;exact this
theorem zzS{l:List Evt}{n:Nat}:∀{k:Nat},∃t,bkN l (n+k)=bkN l n++t/\∀x∈t,(n:Int)<=x.on
 | 0=>⟨[],by rw[List.append_nil]; rfl,fun x h=>by simp at h⟩
 | k+1=>by
  obtain⟨t,h1,h2⟩:=zzS (l:=l) (n:=n) (k:=k);refine⟨t++l.filter (onB (n+k)),by rw[<- Nat.add_assoc,bkN,h1,List.append_assoc],fun x hx=>?_⟩
  rcases List.mem_append.1 hx with h | h
  ·exact h2 x h
  ·have:=(List.mem_filter.1 h).2;unfold onB at this;rw[decide_eq_true_iff] at this; omega
def zzT:List Evt->List Pl->Option (List Pl)
 | [],s=>some s
 | e::l,s=>if (zzo s e).1=true then zzT l (zzo s e).2 else none
theorem zzU{day:Int}:∀{l k:List Evt} {s:List Pl},(∀x∈l,x.on<=day)->stepsN day (l++k) s s=match zzT l s with | some s'=>stepsN day k s' s' | none=>(zzl,false)
 | [],_,_,_=>rfl
 | e::l,k,s,h=>by
  have he:=h e (List.mem_cons_self ..)
  show(if _ then _ else _)=match (if _ then _ else _:Option (List Pl)) with | some s'=>_ | none=>_
  by_cases hc:(zzo s e).1=true
  ·rw[if_pos hc,if_pos hc,if_pos he];exact zzU fun x hx=>h x (List.mem_cons_of_mem _ hx)
  ·rw[if_neg hc,if_neg hc]
theorem zzV{day:Int}:∀{l:List Evt} {o s:List Pl},(∀x∈l,day < x.on)->stepsN day l o s=match zzT l s with | some _=>(o,true) | none=>(zzl,false)
 | [],_,_,_=>rfl
 | e::l,o,s,h=>by
  have he:=h e (List.mem_cons_self ..)
  show(if _ then _ else _)=match (if _ then _ else _:Option (List Pl)) with | some s'=>_ | none=>_
  by_cases hc:(zzo s e).1=true
  ·rw[if_pos hc,if_pos hc,if_neg (by omega)];exact zzV fun x hx=>h x (List.mem_cons_of_mem _ hx)
  ·rw[if_neg hc,if_neg hc]
def fd0:Fd:={ There:=false,Gone:=false,Owner:=0,Value:=0,Sown:=0 }
def plF(x:Fd):Pl:={ owner:=x.Owner,value:=x.Value,there:=x.There,harvested:=x.Gone,sown:=x.Sown }
def sOf(l:List Fd):List Pl:=l.map plF++List.replicate (10 - l.length) pl0
def zzW(l:List Fd)(i:Int):Fd:=l.getD i.toNat fd0
def zzX(x:Fd):Bool:=x.There && !x.Gone
def zzY(l:List Fd)(e:Evt):Bool × List Fd:=
 let x:=zzW l e.e.Parcel
 if zzX x=false then (false,l)
 else if e.e.Kind=0 then (if x.Owner=e.e.From then (true,l.set e.e.Parcel.toNat { x with Owner:=e.e.To }) else (false,l))
 else if e.e.Kind=1 then (if x.Value<=e.e.Part then (false,l) else (true,(l.set e.e.Parcel.toNat { x with Value:=x.Value - e.e.Part }).set e.makes.toNat { x with Value:=e.e.Part }))
 else if e.e.Kind=2 then (let y:=zzW l e.e.Other; if zzX y=false then (false,l) else if x.Owner=y.Owner then (false,l) else (true,(l.set e.e.Parcel.toNat { x with Owner:=y.Owner }).set e.e.Other.toNat { y with Owner:=x.Owner }))
 else (if e.on < x.Sown then (false,l) else (true,l.set e.e.Parcel.toNat { x with Gone:=true }))
structure EvF (n:Nat) (e:Evt):Prop where
 p:0<=e.e.Parcel/\e.e.Parcel < n
 k:e.e.Kind=0\/e.e.Kind=1\/e.e.Kind=2\/e.e.Kind=3
 m:e.e.Kind=1->(0<=e.makes/\e.makes < n)/\1<=e.e.Part/\e.e.Part<=1000
 o:e.e.Kind=2->(0<=e.e.Other/\e.e.Other < n)/\e.e.Other ≠ e.e.Parcel
theorem zzZ{l:List Fd}{i:Int}(hi:0<=i/\i < l.length):zzm (sOf l) i=plF (zzW l i):=by
 have hk:i.toNat < l.length:=by omega
 unfold zzm sOf zzW;rw[List.getD_eq_getElem?_getD,List.getD_eq_getElem?_getD,List.getElem?_append_left (by rw[List.length_map]; exact hk),List.getElem?_map,List.getElem?_eq_getElem hk]; rfl
theorem zz0{l:List Fd}{i:Int}{v:Fd}{p:Pl}(hp:p=plF v)(hi:0<=i/\i < l.length):(sOf l).set i.toNat p=sOf (l.set i.toNat v):=by
 subst hp;unfold sOf;rw[List.set_append_left _ _ (by rw[List.length_map]; omega),List.length_set,List.map_set]
theorem zz1{l:List Fd}{i j:Int}{v w:Fd}{p q:Pl}(hp:p=plF v)(hq:q=plF w)(hi:0<=i/\i < l.length)(hj:0<=j/\j < l.length):((sOf l).set i.toNat p).set j.toNat q=sOf ((l.set i.toNat v).set j.toNat w):=by
 rw[zz0 hp hi,zz0 hq (by rw[List.length_set]; exact hj)]
theorem zz2{l:List Fd}{e:Evt}:(zzY l e).2.length=l.length:=by
 unfold zzY
 dsimp only
 repeat' split
 all_goals simp only[List.length_set]
theorem zz3{l:List Fd}{e:Evt}(he:EvF l.length e):zzo (sOf l) e=((zzY l e).1,sOf (zzY l e).2):=by
 have hst:∀x:Fd,zzn (plF x)=zzX x:=fun _=>rfl;unfold zzo zzY
 dsimp only
 rw[zzZ he.p,hst]
 by_cases c0:zzX (zzW l e.e.Parcel)=false
 ·rw[if_pos c0,if_pos c0]
 rw[if_neg c0,if_neg c0]
 by_cases k0:e.e.Kind=0
 ·rw[if_pos k0,if_pos k0]
  by_cases c1:(zzW l e.e.Parcel).Owner=e.e.From
  ·rw[if_pos c1,if_pos (show(plF (zzW l e.e.Parcel)).owner=e.e.From from c1)]
   exact congrArg (Prod.mk true) (zz0 (v:={ zzW l e.e.Parcel with Owner:=e.e.To }) rfl he.p)
  ·rw[if_neg c1,if_neg (show ¬ (plF (zzW l e.e.Parcel)).owner=e.e.From from c1)]
 rw[if_neg k0,if_neg k0]
 by_cases k1:e.e.Kind=1
 ·have hm:=(he.m k1).1;rw[if_pos k1,if_pos k1]
  by_cases c1:(zzW l e.e.Parcel).Value<=e.e.Part
  ·rw[if_pos c1,if_pos (show(plF (zzW l e.e.Parcel)).value<=e.e.Part from c1)]
  ·rw[if_neg c1,if_neg (show ¬ (plF (zzW l e.e.Parcel)).value<=e.e.Part from c1)]
   exact congrArg (Prod.mk true) (zz1 (v:={ zzW l e.e.Parcel with Value:=(zzW l e.e.Parcel).Value - e.e.Part }) (w:={ zzW l e.e.Parcel with Value:=e.e.Part }) rfl rfl he.p hm)
 rw[if_neg k1,if_neg k1]
 by_cases k2:e.e.Kind=2
 ·have hm:=(he.o k2).1;rw[if_pos k2,if_pos k2,zzZ hm,hst]
  by_cases c1:zzX (zzW l e.e.Other)=false
  ·rw[if_pos c1,if_pos c1]
  rw[if_neg c1,if_neg c1]
  by_cases c2:(zzW l e.e.Parcel).Owner=(zzW l e.e.Other).Owner
  ·rw[if_pos c2,if_pos (show(plF (zzW l e.e.Parcel)).owner=(plF (zzW l e.e.Other)).owner from c2)]
  ·rw[if_neg c2,if_neg (show ¬ (plF (zzW l e.e.Parcel)).owner=(plF (zzW l e.e.Other)).owner from c2)]
   exact congrArg (Prod.mk true) (zz1 (v:={ zzW l e.e.Parcel with Owner:=(zzW l e.e.Other).Owner }) (w:={ zzW l e.e.Other with Owner:=(zzW l e.e.Parcel).Owner }) rfl rfl he.p hm)
 rw[if_neg k2,if_neg k2]
 by_cases c1:e.on < (zzW l e.e.Parcel).Sown
 ·rw[if_pos c1,if_pos (show e.on < (plF (zzW l e.e.Parcel)).sown from c1)]
 ·rw[if_neg c1,if_neg (show ¬ e.on < (plF (zzW l e.e.Parcel)).sown from c1)]
  exact congrArg (Prod.mk true) (zz0 (v:={ zzW l e.e.Parcel with Gone:=true }) rfl he.p)
def zz4:List Evt->List Fd->Option (List Fd)
 | [],s=>some s
 | e::l,s=>if (zzY s e).1=true then zz4 l (zzY s e).2 else none
theorem zz5:∀{L:List Evt} {l:List Fd},(∀e∈L,EvF l.length e)->zzT L (sOf l)=(zz4 L l).map sOf
 | [],_,_=>rfl
 | e::L,l,h=>by
  show(if _ then _ else _)=(if _ then _ else _:Option _).map _
  rw[zz3 (h e (List.mem_cons_self ..))]
  by_cases hc:(zzY l e).1=true
  ·rw[if_pos hc,if_pos hc]
   exact zz5 fun x hx=>by rw[zz2]; exact h x (List.mem_cons_of_mem _ hx)
  ·rw[if_neg hc,if_neg hc]; rfl
theorem zz6:∀{l k:List Evt} {s:List Fd},zz4 (l++k) s=(zz4 l s).bind (zz4 k)
 | [],_,_=>rfl
 | e::l,k,s=>by
  show(if _ then _ else _)=(if _ then _ else _:Option _).bind _
  split
  ·exact zz6
  ·rfl
theorem zz7:∀{L:List Evt} {l l':List Fd},zz4 L l=some l'->l'.length=l.length
 | [],l,l',h=>by cases h; rfl
 | e::L,l,l',h=>by
  have h:(if _ then _ else _)=some l':=h
  split at h
  ·rw[zz7 h,zz2]
  ·cases h
theorem zz8{L:List Evt}{N:Nat}{l:List Fd}{d:Nat}(hd:d < N)(hL:∀x∈L,0<=x.on/\x.on < N)(hE:∀e∈L,EvF l.length e) :
  stepsN (d:Int) (zy3 L) (sOf l) (sOf l)=match zz4 (bkN L (d+1)) l with
   | some s=>if (zz4 (bkN L N) l).isSome then (sOf s,true) else (zzl,false)
   | none=>(zzl,false):=by
 obtain⟨t,h1,h2⟩:=zzS (l:=L) (n:=d+1) (k:=N - (d+1));rw[show d+1+(N - (d+1))=N by omega] at h1;have hm:∀e∈bkN L N,EvF l.length e:=fun e he=>hE e (zzK.1 he).1;rw[zzR hL,h1];rw[h1] at hm;rw[zzU fun x hx=>by have:=zzK.1 hx; omega,zz5 fun x hx=>hm x (List.mem_append_left _ hx),zz6]
 cases hr:zz4 (bkN L (d+1)) l with
 | none=>rfl
 | some s=>
  show stepsN (d:Int) t (sOf s) (sOf s)=if (zz4 t s).isSome=true then (sOf s,true) else (zzl,false)
  rw[zzV fun x hx=>by have:=h2 x hx; omega,zz5 fun x hx=>by rw[zz7 hr]; exact hm x (List.mem_append_right _ hx)]
  cases zz4 t s <;> rfl
def fdP:List Pc->List Int->List Fd
 | p::ps,s::ss=>{ There:=true,Gone:=false,Owner:=p.Owner,Value:=p.Value,Sown:=s } :: fdP ps ss
 | _,_=>[]
theorem zz9:∀{ps:List Pc} {ss:List Int},ss.length=ps.length->(fdP ps ss).length=ps.length
 | [],_,_=>rfl
 | _::_,[],h=>by cases h
 | p::ps,s::ss,h=>by simp[fdP,zz9 (Nat.succ.inj h)]
theorem zAa:∀{ps:List Pc} {ss:List Int},zzA ps ss=(fdP ps ss).map plF
 | [],_=>rfl
 | _::_,[]=>rfl
 | p::ps,s::ss=>by rw[zzA,fdP,List.map_cons,zAa]; rfl
def zAb(b:Boo)(S:List Int):List Fd:=fdP b.Parcels S++List.replicate (zx2 b.Entries).toNat fd0
theorem zAc{b:Boo}{S:List Int}(hs:S.length=b.Parcels.length):((zAb b S).length:Int)=zx3 b:=by
 have:=zx7 (l:=b.Entries);unfold zAb zx3;rw[List.length_append,zz9 hs,List.length_replicate]; omega
theorem zAd{b:Boo}{S:List Int}(hs:S.length=b.Parcels.length)(h2:b.Parcels.length<=4)(h1:b.Entries.length<=6):zzC b S=sOf (zAb b S):=by
 have:=zx7 (l:=b.Entries);unfold zzC sOf zAb;rw[zAa,List.map_append,List.map_replicate,List.length_append,zz9 hs,List.length_replicate,List.append_assoc]
 show _=_++(List.replicate _ pl0++_)
 rw[List.replicate_append_replicate,show(zx2 b.Entries).toNat+(10 - (b.Parcels.length+(zx2 b.Entries).toNat))=10 - b.Parcels.length by omega]
theorem zAe{l:List Fd}{i:Int}(hi:0<=i/\i < l.length):idx l i=some (zzW l i):=by
 have hk:i.toNat < l.length:=by omega
 have hg:=List.getElem?_eq_getElem hk;unfold zzW;rw[List.getD_eq_getElem?_getD,hg];have:=zsJ hg;rw[show((i.toNat:Nat):Int)=i by omega] at this;exact this
theorem zAf{l:List Fd}{i j:Int}(hi:0<=i/\i < l.length)(hj:0<=j/\j < l.length){v:Fd}:zzW (l.set i.toNat v) j=if i=j then v else zzW l j:=by
 unfold zzW;rw[List.getD_eq_getElem?_getD,List.getD_eq_getElem?_getD,List.getElem?_set]
 by_cases h:i=j
 ·subst h; rw[if_pos rfl,if_pos (by omega),if_pos rfl]; rfl
 ·rw[if_neg (by omega),if_neg h]
theorem zAg{l:List Fd}(hs:zzq (sOf l)){i:Int}(hi:0<=i/\i < l.length):0<=(zzW l i).Value/\(zzW l i).Value<=1000:=by
 have:=hs.at i;rw[zzZ hi] at this;exact this
theorem zAh{b:Boo}{i:Nat}(hi:i<=b.Entries.length)(hl:b.Entries.length<=100)(hp:b.Parcels.length<=100):zth b (i:Int)=some ((b.Parcels.length:Int)+zx2 (b.Entries.take i)):=by
 unfold zth;have:=zya hl (n:=(i:Int)) rfl hi hp ((i:Int).toNat+1) 0 (Nat.zero_le _) (by omega);have h0:zx2 (b.Entries.take 0)=0:=rfl;rw[h0,Int.add_zero] at this;exact this
theorem zAi{b:Boo}{l:List Fd}{e:Evt}{i:Nat}(hg:b.Entries[i]? = some e.e)(em:e.e.Kind=1->zth b (i:Int)=some e.makes)(hs:zzq (sOf l))(he:EvF l.length e):ztu b l (i:Int) e.on=some (zzY l e):=by
 have hP:0<=e.e.Parcel/\e.e.Parcel < l.length:=he.p;have hv:=zAg hs hP;have hK:e.e.Kind=0\/e.e.Kind=1\/e.e.Kind=2\/e.e.Kind=3:=he.k;unfold ztu zzY
 dsimp only
 rw[zsJ hg,obs,zAe hP,obs]
 by_cases c0:(zzW l e.e.Parcel).There=true
 rotate_left
 ·rw[if_neg c0,if_pos (show zzX _=false by unfold zzX; simp[c0])]
 rw[if_pos c0]
 by_cases c1:(zzW l e.e.Parcel).Gone=true
 ·rw[if_pos c1,if_pos (show zzX _=false by unfold zzX; simp[c1])]
 rw[if_neg c1,if_neg (show ¬ zzX _=false by unfold zzX; simp[c0,c1])]
 by_cases k0:e.e.Kind=0
 ·rw[if_pos k0,if_pos k0]
  by_cases c2:(zzW l e.e.Parcel).Owner=e.e.From
  ·rw[if_pos c2,if_pos c2]; rfl
  ·rw[if_neg c2,if_neg c2]
 rw[if_neg k0,if_neg k0]
 by_cases k1:e.e.Kind=1
 ·obtain⟨hm,hp1⟩:=he.m k1;have hm:0<=e.makes/\e.makes < l.length:=hm;have hp1:1<=e.e.Part/\e.e.Part<=1000:=hp1;rw[if_pos k1,if_pos k1]
  by_cases c2:(zzW l e.e.Parcel).Value<=e.e.Part
  ·rw[if_pos c2,if_pos c2]
  ·rw[if_neg c2,if_neg c2,zrM (fI (by omega)),obs,em k1,obs,zAe (by rw[List.length_set]; exact hm)]; rfl
 rw[if_neg k1,if_neg k1]
 by_cases k2:e.e.Kind=2
 ·obtain⟨hm,hne⟩:=he.o k2;have hm:0<=e.e.Other/\e.e.Other < l.length:=hm;have hne:e.e.Other ≠ e.e.Parcel:=hne;rw[if_pos k2,if_pos k2,zAe hm,obs]
  by_cases d0:(zzW l e.e.Other).There=true
  rotate_left
  ·rw[if_neg d0,if_pos (show zzX _=false by unfold zzX; simp[d0])]
  rw[if_pos d0]
  by_cases d1:(zzW l e.e.Other).Gone=true
  ·rw[if_pos d1,if_pos (show zzX _=false by unfold zzX; simp[d1])]
  rw[if_neg d1,if_neg (show ¬ zzX _=false by unfold zzX; simp[d0,d1])]
  by_cases c2:(zzW l e.e.Parcel).Owner=(zzW l e.e.Other).Owner
  ·rw[if_pos c2.symm,if_pos c2]
  ·rw[if_neg (Ne.symm c2),if_neg c2,obs,zAe (by rw[List.length_set]; exact hm),obs,zAf hP hm,if_neg (Ne.symm hne)]
 rw[if_neg k2,if_neg k2,if_pos (show e.e.Kind=3 by omega)]
 by_cases c2:e.on < (zzW l e.e.Parcel).Sown
 ·rw[if_pos c2,if_pos c2]
 ·rw[if_neg c2,if_neg c2]; rfl
theorem zAj{b:Boo}{l:List Fd}{D:Nat->Int}{i:Nat}(hi:i < b.Entries.length)(hl:b.Entries.length<=100)(hp:b.Parcels.length<=100)(hs:zzq (sOf l))(he:EvF l.length (zzf b D i)):ztu b l (i:Int) (D i)=some (zzY l (zzf b D i)):=
 zAi (e:=zzf b D i) (by show _=some (zyB b i); rw[zyC (List.getElem?_eq_getElem hi)]; exact List.getElem?_eq_getElem hi) (fun k=>by
  have k:(zyB b i).Kind=1:=k
  show _=some (mkC b i)
  rw[zAh (by omega) hl hp]; unfold mkC; rw[if_pos k]) hs he
theorem zAk{b:Boo}{t:Tr}(h1:b.Entries.length<=6)(h2:b.Parcels.length<=4)(hs:t.Sown.length=b.Parcels.length):ztt b t=some (zAb b t.Sown):=by
 have hr:=zx7 (l:=b.Entries);have hev:zx3 b=(b.Parcels.length:Int)+zx2 b.Entries:=rfl;unfold ztt;rw[zyb (by omega) (by omega),obs,zrM (by omega)]
 have key:∀(d k:Nat) (pre:List Fd),k<=b.Parcels.length->b.Parcels.length - k < d->pre.length=k->zts b t d (k:Int) (pre++List.replicate ((zx3 b).toNat - k) fd0)=some (pre++fdP (b.Parcels.drop k) (t.Sown.drop k)++List.replicate (zx2 b.Entries).toNat fd0):=by
  intro d
  induction d with
  | zero=>intro k _ _ h; omega
  | succ d ih=>
   intro k pre hk h hp;rw[zts]
   by_cases hkn:k < b.Parcels.length
   ·have hg:=List.getElem?_eq_getElem hkn;have hg2:=List.getElem?_eq_getElem (l:=t.Sown) (show k < t.Sown.length by omega)
    have e1:(zx3 b).toNat - k=((zx3 b).toNat - (k+1))+1:=by omega
    have hx:∃v,idx (pre++List.replicate ((zx3 b).toNat - k) fd0) (k:Int)=some v:=⟨_,zsJ (List.getElem?_eq_getElem (by rw[List.length_append,List.length_replicate]; omega))⟩;obtain⟨v,hx⟩:=hx
    have hset:(pre++List.replicate ((zx3 b).toNat - k) fd0).set (Int.toNat (k:Int)) ({ There:=true,Gone:=false,Owner:=b.Parcels[k].Owner,Value:=b.Parcels[k].Value,Sown:=t.Sown[k] }:Fd)=(pre++[({ There:=true,Gone:=false,Owner:=b.Parcels[k].Owner,Value:=b.Parcels[k].Value,Sown:=t.Sown[k] }:Fd)])++List.replicate ((zx3 b).toNat - (k+1)) fd0:=by
     rw[Int.toNat_natCast,List.set_append_right _ _ (by omega),hp,Nat.sub_self,e1,List.replicate_succ,List.append_assoc]; rfl
    rw[if_pos (by omega),zsJ hg,obs,obs,zsJ hg2,obs,hx,obs,zrM (fI (by omega)),hset,show(k:Int)+1=((k+1:Nat):Int) by omega,ih (k+1) _ (by omega) (by omega) (by rw[List.length_append,hp]; rfl),List.drop_eq_getElem_cons hkn,List.drop_eq_getElem_cons (l:=t.Sown) (show k < t.Sown.length by omega),fdP,List.append_assoc pre]; rfl
   ·have hk':k=b.Parcels.length:=by omega
    subst hk';rw[if_neg (by omega),List.drop_length,show(zx3 b).toNat - b.Parcels.length=(zx2 b.Entries).toNat by omega]
    show some _=some (pre++[]++_)
    rw[List.append_nil]
 exact key 1000000 0 [] (Nat.zero_le _) (by omega) rfl
structure zAl (b:Boo):Prop where
 o4:b.Owners<=4
 p4:b.Parcels.length<=4
 e6:b.Entries.length<=6
 L:0<=b.Last/\b.Last<=30
 o1:1<=b.Owners
 P:∀p∈b.Parcels,zx6 b p
 E:∀e∈b.Entries,zx5 b e
 m:zye 1 (zyq b)<=1000
theorem zAm{b:Boo}(h:zyv b=0):zAl b:=by
 obtain⟨⟨a1,a2,a3⟩,⟨⟨a4,a5⟩,a6,a7⟩,a8⟩:=zzJ.1 h;unfold InN at a4;exact⟨a1,a2,a3,a4,a5,a6,a7,a8⟩
def EvB(n:Nat)(x:Evt):Prop:=zzp x/\EvF n x
theorem zAn{b:Boo}(h:zAl b){D:Nat->Int}{o:Nat->Bool}{n:Nat}(hn:(n:Int)=zx3 b):∀x∈evI b D o,EvB n x:=fun x hx=>by
 obtain⟨a1,a2,a3,a4⟩:=zzF h.e6 h.p4 h.E x hx;have hp:=a1.p;exact⟨a1,⟨by omega,a1.k,fun k=>⟨by have:=(a1.m k).1; have:=a3 k; omega,(a1.m k).2⟩,fun k=>⟨by have:=(a1.o k).1; have:=a4 k; omega,(a1.o k).2⟩⟩⟩
theorem zAo:∀{L:List Evt} {l l':List Fd},zzq (sOf l)->(∀e∈L,EvB l.length e)->zz4 L l=some l'->zzq (sOf l')
 | [],l,l',hs,_,h=>by cases h; exact hs
 | e::L,l,l',hs,hL,h=>by
  have he:=hL e (List.mem_cons_self ..);have h:(if _ then _ else _)=some l':=h
  split at h
  ·refine zAo ?_ (fun x hx=>by rw[zz2]; exact hL x (List.mem_cons_of_mem _ hx)) h;have:=zzv hs he.1;rw[zz3 he.2] at this;exact this
  ·cases h
theorem zAp{b:Boo}{D:Nat->Int}{o:Nat->Bool}{k:Nat}:∀{n:Nat},k<=n->∃t,evK b D o n=evK b D o k++t
 | 0,h=>⟨[],by rw[show k=0 by omega,List.append_nil]⟩
 | n+1,h=>by
  by_cases hk:k=n+1
  ·subst hk; exact⟨[],by rw[List.append_nil]⟩
  ·obtain⟨t,ht⟩:=zAp (b:=b) (D:=D) (o:=o) (k:=k) (n:=n) (by omega);rw[zzg,ht,List.append_assoc];exact⟨_,rfl⟩
theorem zAq{b:Boo}(h:zAl b){S:List Int}(hs:S.length=b.Parcels.length):zzq (sOf (zAb b S)):=by
 rw[<- zAd hs h.p4 h.e6]; exact zzD h.p4 hs h.P
def zAr(out:Int)(o:Nat->Bool):Prop:=(0<=out/\out<=1000000)/\∀k:Nat,k < 6->(out / 2 ^ k % 2=0↔o k=false)
section
variable {b:Boo} (h:zAl b) {t:Tr} {day out:Int} {o:Nat->Bool} (ho:zAr out o) (hT:t.Days.length=b.Entries.length)
include h ho hT
theorem zAs{th l':List Fd}{b':Bool}{X:Nat}(hX:X<=100){K:List Fd->Bool->List Fd->Int->List Fd->Option (List Fd × Bool)}{y0:List Fd}(hs:zzq (sOf y0))(hn:(y0.length:Int)=zx3 b):∀(d k:Nat) (y:List Fd),k<=b.Entries.length->b.Entries.length - k < d ->
  zz4 ((evK b (dF t.Days) o k).filter (onB X)) y0=some y ->
  ztv b t day out th (X:Int) K d l' b' (k:Int) y=match zz4 ((evI b (dF t.Days) o).filter (onB X)) y0 with
   | some s=>if (X:Int)=day then K l' b' s ((X:Int)+1) s else K l' b' th ((X:Int)+1) s
   | none=>some ([],false)
 | 0,k,_,_,hd,_=>by omega
 | d+1,k,y,hk,hd,hy=>by
  have h6:=h.e6;have hall:=zAn h (D:=dF t.Days) (o:=o) hn;rw[ztv]
  by_cases hkn:k < b.Entries.length
  ·have hgd:=List.getElem?_eq_getElem (l:=t.Days) (show k < t.Days.length by omega)
   have ed:t.Days[k]=dF t.Days k:=by unfold dF; rw[List.getD_eq_getElem?_getD,hgd]; rfl
   have hsucc:=zzg (b:=b) (D:=dF t.Days) (o:=o) (k:=k);have ih:=fun y'=>zAs (th:=th) (l':=l') (b':=b') hX (K:=K) hs hn d (k+1) y' (by omega) (by omega);rw[if_pos (by omega),zsJ hgd,obs,ed]
   by_cases hx:dF t.Days k=(X:Int)
   ·have hw:znv .u64 (k:Int)=(k:Int):=wz (show(0:Int)<=k/\(k:Int) < 18446744073709551616 by omega);have hq0:0<=out / 2 ^ k:=Int.ediv_nonneg ho.1.1 (Int.le_of_lt (Int.pow_pos (by omega)));have hq1:out / 2 ^ k<=out:=Int.ediv_le_self _ ho.1.1;have hbit:=ho.2 k (by omega);have ho1:=ho.1;rw[if_pos hx,hw,Int.toNat_natCast];generalize out / 2 ^ k=q at hq0 hq1 hbit ⊢;rw[zrM ho1.1,zrM (by omega),zrM (by omega),zrM (fI (by omega)),zrM hq0,zrM (by omega),zrM (fI (by omega))]
    by_cases hb:q % 2=0
    ·have hok:=hbit.1 hb;have hon:onB X (zzf b (dF t.Days) k)=true:=decide_eq_true hx;have hmem:zzf b (dF t.Days) k∈evI b (dF t.Days) o:=zzi.2 ⟨k,hkn,hok,rfl⟩;have hlen:y.length=y0.length:=zz7 hy
     have hys:zzq (sOf y):=zAo hs (fun e he=>by
      obtain⟨t',ht'⟩:=zAp (b:=b) (D:=dF t.Days) (o:=o) (k:=k) (n:=b.Entries.length) hk;refine hall e ?_;unfold evI;rw[ht']
      exact List.mem_append_left _ (List.mem_filter.1 he).1) hy
     have hev:=hall _ hmem;rw[<- hlen] at hev;have hhap:=zAj (D:=dF t.Days) hkn (by omega) (by have:=h.p4; omega) hys hev.2;rw[hx] at hhap
     have hf:(evK b (dF t.Days) o (k+1)).filter (onB X)=(evK b (dF t.Days) o k).filter (onB X)++[zzf b (dF t.Days) k]:=by
      rw[hsucc,hok,if_neg (by simp),List.filter_append,List.filter_cons,if_pos hon]; rfl
     have hrun:zz4 ((evK b (dF t.Days) o (k+1)).filter (onB X)) y0=if (zzY y (zzf b (dF t.Days) k)).1=true then some (zzY y (zzf b (dF t.Days) k)).2 else none:=by
      rw[hf,zz6,hy]; rfl
     rw[if_pos hb,hhap,obs]
     by_cases hc:(zzY y (zzf b (dF t.Days) k)).1=true
     ·rw[if_pos hc] at hrun;rw[if_pos hc,zrM (fI (by omega)),show(k:Int)+1=((k+1:Nat):Int) by omega];exact ih _ hrun
     ·rw[if_neg hc] at hrun;rw[if_neg hc];obtain⟨t',ht'⟩:=zAp (b:=b) (D:=dF t.Days) (o:=o) (k:=k+1) (n:=b.Entries.length) (by omega)
      have:zz4 ((evI b (dF t.Days) o).filter (onB X)) y0=none:=by
       unfold evI;rw[ht',List.filter_append,zz6,hrun]; rfl
      rw[this]
    ·have hok:o k=true:=by
      cases hq:o k with
      | true=>rfl
      | false=>exact absurd (hbit.2 hq) hb
     have hf:(evK b (dF t.Days) o (k+1)).filter (onB X)=(evK b (dF t.Days) o k).filter (onB X):=by
      rw[hsucc,hok,if_pos rfl,List.append_nil]
     rw[if_neg hb,zrM (fI (by omega)),show(k:Int)+1=((k+1:Nat):Int) by omega];exact ih y (by rw[hf]; exact hy)
   ·have hon:¬ onB X (zzf b (dF t.Days) k)=true:=fun hh=>hx (of_decide_eq_true hh)
    have hf:(evK b (dF t.Days) o (k+1)).filter (onB X)=(evK b (dF t.Days) o k).filter (onB X):=by
     rw[hsucc]
     cases o k with
     | true=>rw[if_pos rfl,List.append_nil]
     | false=>rw[if_neg (by simp),List.filter_append,List.filter_cons,if_neg hon]; exact List.append_nil _
    rw[if_neg hx,zrM (fI (by omega)),show(k:Int)+1=((k+1:Nat):Int) by omega];exact ih y (by rw[hf]; exact hy)
  ·have hkl:k=b.Entries.length:=by omega
   subst hkl;have hlen:y.length=y0.length:=zz7 hy;have hr:=zx7 (l:=b.Entries);have hev:zx3 b=(b.Parcels.length:Int)+zx2 b.Entries:=rfl;have hp4:=h.p4;rw[if_neg (by omega)]
   show _=match zz4 ((evK b (dF t.Days) o b.Entries.length).filter (onB X)) y0 with | some s=>_ | none=>_
   rw[hy]
   show _=if _ then _ else _
   by_cases hx:(X:Int)=day
   ·rw[if_pos hx,if_pos hx,zrM (by show 0+y.length<=_; omega),zrM (fI (by omega))]; rfl
   ·rw[if_neg hx,if_neg hx,zrM (fI (by omega))]
def thN(L:List Evt)(y0:List Fd)(day:Int)(X:Nat):List Fd:=if 0<=day/\day < X then (zz4 (bkN L (day.toNat+1)) y0).getD [] else []
def atR(L:List Evt)(y0:List Fd)(day:Int)(N:Nat):List Fd × Bool:=match zz4 (bkN L N) y0 with | some _=>(thN L y0 day N,true) | none=>([],false)
theorem zAt{l':List Fd}{b':Bool}{y0:List Fd}(hs:zzq (sOf y0))(hn:(y0.length:Int)=zx3 b):∀(d X:Nat) (y:List Fd),(X:Int)<=b.Last+1->(b.Last+1).toNat - X < d->zz4 (bkN (evI b (dF t.Days) o) X) y0=some y ->
  ztw b t day out d l' b' (thN (evI b (dF t.Days) o) y0 day X) (X:Int) y=some (atR (evI b (dF t.Days) o) y0 day (b.Last+1).toNat)
 | 0,X,_,_,hd,_=>by omega
 | d+1,X,y,hX,hd,hy=>by
  have hL:=h.L;rw[ztw]
  by_cases hx:(X:Int)<=b.Last
  ·have hlen:y.length=y0.length:=zz7 hy;have hys:zzq (sOf y):=zAo hs (fun e he=>zAn h hn e (zzK.1 he).1) hy
   have hb:zz4 (bkN (evI b (dF t.Days) o) (X+1)) y0=zz4 ((evI b (dF t.Days) o).filter (onB X)) y:=by
    rw[bkN,zz6,hy]; rfl
   rw[if_pos hx];refine(zAs h ho hT (y0:=y) (by omega) hys (by omega) 1000000 0 y (Nat.zero_le _) (by have:=h.e6; omega) rfl).trans ?_;rw[<- hb]
   cases hr:zz4 (bkN (evI b (dF t.Days) o) (X+1)) y0 with
   | none=>
    show some _=some _
    obtain⟨t',ht',_⟩:=zzS (l:=evI b (dF t.Days) o) (n:=X+1) (k:=(b.Last+1).toNat - (X+1));rw[show X+1+((b.Last+1).toNat - (X+1))=(b.Last+1).toNat by omega] at ht';unfold atR;rw[ht',zz6,hr]; rfl
   | some s=>
    show(if _ then _ else _)=_
    have ih:=zAt (l':=l') (b':=b') hs hn d (X+1) s (by omega) (by omega) hr
    by_cases hxd:(X:Int)=day
    ·rw[if_pos hxd]
     have e:thN (evI b (dF t.Days) o) y0 day (X+1)=s:=by
      unfold thN;rw[if_pos (by omega),<- hxd,Int.toNat_natCast,hr]; rfl
     rw[e] at ih;exact ih
    ·rw[if_neg hxd]
     have e:thN (evI b (dF t.Days) o) y0 day (X+1)=thN (evI b (dF t.Days) o) y0 day X:=by
      unfold thN
      by_cases hc:0<=day/\day < (X:Int)
      ·rw[if_pos hc,if_pos (by omega)]
      ·rw[if_neg hc,if_neg (by omega)]
     rw[e] at ih;exact ih
  ·rw[if_neg hx,show X=(b.Last+1).toNat by omega];rw[show X=(b.Last+1).toNat by omega] at hy;unfold atR;rw[hy]
theorem zAu(hS:t.Sown.length=b.Parcels.length):ztx b t day out=some (atR (evI b (dF t.Days) o) (zAb b t.Sown) day (b.Last+1).toNat):=by
 unfold ztx;rw[zAk h.e6 h.p4 hS,obs];have:=zAt h ho hT (day:=day) (l':=[]) (b':=false) (zAq h hS) (zAc hS) 1000000 0 _ (by have:=h.L; omega) (by have:=h.L; omega) rfl
 have e:thN (evI b (dF t.Days) o) (zAb b t.Sown) day 0=[]:=by unfold thN; rw[if_neg (by omega)]
 rw[e] at this;exact this
end
end
end Go.Proofs.YtlkgdadfbfafcaaGreat

namespace Go.Proofs.YtlkgdadfbfafcaaGreat
open _root_.Go.Proofs.Tryz
open Go.Abs
set_option maxRecDepth 100000
noncomputable section
def okB(b:Boo)(o:Nat->Bool)(D:Nat->Int)(S:List Int):Bool:=(zz4 (bkN (evI b D o) (b.Last+1).toNat) (zAb b S)).isSome
def zAv(b:Boo)(o:Nat->Bool):Prop:=∃(D:Nat->Int) (S:List Int),(∀i,i < b.Entries.length->o i=false->(zyB b i).Day.Lo<=D i/\D i<=(zyB b i).Day.Hi)/\inR (b.Parcels.map (·.Sown)) S/\okB b o D S=true
theorem zAw{b:Boo}{o:Nat->Bool}{D:Nat->Int}{S:List Int}{day:Int}:(atR (evI b D o) (zAb b S) day (b.Last+1).toNat).2=okB b o D S:=by
 unfold atR okB
 cases zz4 (bkN (evI b D o) (b.Last+1).toNat) (zAb b S) <;> rfl
theorem zAx{b:Boo}{o:Nat->Bool}{D E:Nat->Int}{S:List Int}(h:∀i,i < b.Entries.length->o i=false->D i=E i):okB b o D S=okB b o E S:=by unfold okB; rw[zzj h]
theorem zAy{w:Wk}{b:Boo}{O:O6}(h:zAl b)(hw:zyE w b O){t:Tr}(hT:t.Days.length=b.Entries.length)(hS:t.Sown.length=b.Parcels.length)(hD:∀i,i < b.Entries.length->zyA O i=false->0<=dF t.Days i/\dF t.Days i<=b.Last){day:Int}(hd:0<=day/\day<=b.Last) :
  zuy w t day=some (if okB b (zyA O) (dF t.Days) t.Sown=true then (sOf (thN (evI b (dF t.Days) (zyA O)) (zAb b t.Sown) day (b.Last+1).toNat),true) else (zzl,false)):=by
 obtain⟨d,rfl⟩:∃d:Nat,day=(d:Int):=⟨day.toNat,by omega⟩;rw[(zzG hw h.e6 h.p4 h.P h.E hT hS).1,zAd hS h.p4 h.e6]
 have hL:∀x∈evI b (dF t.Days) (zyA O),0<=x.on/\x.on < ((b.Last+1).toNat:Int):=fun x hx=>by
  obtain⟨i,a1,a2,rfl⟩:=zzi.1 hx;have:=hD i a1 a2
  show 0<=dF t.Days i/\dF t.Days i < _
  omega
 rw[zz8 (N:=(b.Last+1).toNat) (by omega) hL fun e he=>(zAn h (zAc hS) e he).2];obtain⟨t',ht',_⟩:=zzS (l:=evI b (dF t.Days) (zyA O)) (n:=d+1) (k:=(b.Last+1).toNat - (d+1));rw[show d+1+((b.Last+1).toNat - (d+1))=(b.Last+1).toNat by omega] at ht'
 congr 1
 cases hr:zz4 (bkN (evI b (dF t.Days) (zyA O)) (d+1)) (zAb b t.Sown) with
 | none=>
  have:okB b (zyA O) (dF t.Days) t.Sown=false:=by unfold okB; rw[ht',zz6,hr]; rfl
  rw[this]; rfl
 | some s=>
  have e:thN (evI b (dF t.Days) (zyA O)) (zAb b t.Sown) (d:Int) (b.Last+1).toNat=s:=by
   unfold thN;rw[if_pos (by omega),Int.toNat_natCast,hr]; rfl
  rw[e]; rfl
theorem zAz{w:Wk}{b:Boo}{O:O6}(h:zAl b)(hw:zyE w b O){t:Tr}(hT:t.Days.length=b.Entries.length)(hS:t.Sown.length=b.Parcels.length)(hD:∀i,i < b.Entries.length->zyA O i=false->0<=dF t.Days i/\dF t.Days i<=b.Last):zuD w t=some (okB b (zyA O) (dF t.Days) t.Sown):=by
 have hL:=h.L;unfold zuD;rw[hw.eb,zAy h hw hT hS hD ⟨hL.1,Int.le_refl _⟩,obs]
 cases okB b (zyA O) (dF t.Days) t.Sown <;> rfl
def zAA(n:Nat)(l:List Int):Tr:={ Days:=l.take n,Sown:=l.drop n }
theorem zAB{w:Wk}:∀{l:List (List Int)},(∀a∈l,w.b.Entries.length<=a.length)->zuA w l=some (l.map (zAA w.b.Entries.length))
 | [],_=>rfl
 | a::l,h=>by
  have ha:=h a (List.mem_cons_self ..);rw[zuA,zrM (by omega),zrM (by omega),zAB fun x hx=>h x (List.mem_cons_of_mem _ hx),obs,Int.toNat_natCast,Int.toNat_natCast,List.take_length]; rfl
theorem zAC:∀{A B:List Rg} {l:List Int},inR (A++B) l↔inR A (l.take A.length)/\inR B (l.drop A.length)
 | [],B,l=>⟨fun h=>⟨trivial,h⟩,fun h=>h.2⟩
 | r::A,B,[]=>⟨fun h=>h.elim,fun h=>h.1.elim⟩
 | r::A,B,x::l=>by
  show(r.Lo<=x/\x<=r.Hi)/\inR (A++B) l↔((r.Lo<=x/\x<=r.Hi)/\inR A (l.take A.length))/\inR B (l.drop A.length)
  rw[zAC];exact and_assoc.symm
theorem zAD{b:Boo}{c:Nat->Bool}{n:Nat}{l:List Int}:inR (zyS b c n) l↔l.length=n/\∀i,i < n->(zyR (c i) (zyB b i).Day).Lo<=dF l i/\dF l i<=(zyR (c i) (zyB b i).Day).Hi:=by
 rw[zzH,zyV];refine and_congr_right fun hl=>⟨fun h i hi=>?_,fun h j r x hr hx=>?_⟩
 ·have hg:=List.getElem?_eq_getElem (l:=l) (show i < l.length by omega)
  have e:dF l i=l[i]:=by unfold dF; rw[List.getD_eq_getElem?_getD,hg]; rfl
  rw[e];refine h i _ _ ?_ hg;unfold zyS;rw[List.getElem?_map,List.getElem?_range hi]; rfl
 ·have hj:=(List.getElem?_eq_some_iff.1 hx).1
  have e:dF l j=x:=by unfold dF; rw[List.getD_eq_getElem?_getD,hx]; rfl
  unfold zyS at hr;rw[List.getElem?_map,List.getElem?_range (by omega)] at hr;have hr:=oi hr;have:=h j (by omega);rw[e] at this;rw[<- hr]; exact this
theorem zAE{o:Bool}{r:Rg}(h:r.Lo<=r.Hi):r.Lo<=(zyR o r).Lo/\(zyR o r).Lo<=(zyR o r).Hi/\(zyR o r).Hi<=r.Hi:=by
 unfold zyR
 cases o with
 | true=>rw[if_pos rfl]; exact⟨Int.le_refl _,Int.le_refl _,h⟩
 | false=>rw[if_neg (by simp)]; exact⟨Int.le_refl _,h,Int.le_refl _⟩
theorem zAl.day{b:Boo}(h:zAl b){i:Nat}(hi:i < b.Entries.length):zx4 b (zyB b i).Day:=by
 rw[zyC (List.getElem?_eq_getElem hi)]; exact(h.E _ (List.getElem_mem hi)).1
theorem zAF{b:Boo}(h:zAl b){c:Nat->Bool}{l:List Int}(hl:inR (zyT b c) l):(zAA b.Entries.length l).Days.length=b.Entries.length/\inR (b.Parcels.map (·.Sown)) (zAA b.Entries.length l).Sown/\(zAA b.Entries.length l).Sown.length=b.Parcels.length/\∀i,i < b.Entries.length->((zyR (c i) (zyB b i).Day).Lo<=dF (zAA b.Entries.length l).Days i/\dF (zAA b.Entries.length l).Days i<=(zyR (c i) (zyB b i).Day).Hi)/\0<=dF (zAA b.Entries.length l).Days i/\dF (zAA b.Entries.length l).Days i<=b.Last:=by
 unfold zyT at hl;rw[zAC,zyV,zAD] at hl;obtain⟨⟨h1,h2⟩,h3⟩:=hl;refine⟨h1,h3,by have:=zxZ h3; rw[List.length_map] at this; exact this,fun i hi=>⟨h2 i hi,?_⟩⟩;have a1:=h2 i hi;have a2:=h.day hi;unfold zx4 at a2;have a3:=zAE (o:=c i) a2.2.1
 show 0<=dF (l.take b.Entries.length) i/\dF (l.take b.Entries.length) i<=b.Last
 omega
theorem zAG{b:Boo}{c:Nat->Bool}{E:Nat->Int}{S:List Int}(hE:∀i,i < b.Entries.length->(zyR (c i) (zyB b i).Day).Lo<=E i/\E i<=(zyR (c i) (zyB b i).Day).Hi)(hS:inR (b.Parcels.map (·.Sown)) S) :
  inR (zyT b c) ((List.range b.Entries.length).map E++S)/\zAA b.Entries.length ((List.range b.Entries.length).map E++S)={ Days:=(List.range b.Entries.length).map E,Sown:=S }/\∀i,i < b.Entries.length->dF ((List.range b.Entries.length).map E) i=E i:=by
 have hl:((List.range b.Entries.length).map E).length=b.Entries.length:=by rw[List.length_map,List.length_range]
 have hd:∀i,i < b.Entries.length->dF ((List.range b.Entries.length).map E) i=E i:=fun i hi=>by
  unfold dF;rw[List.getD_eq_getElem?_getD,List.getElem?_map,List.getElem?_range hi]; rfl
 have e1:((List.range b.Entries.length).map E++S).take b.Entries.length=(List.range b.Entries.length).map E:=by
  have:=List.take_left (l₁:=(List.range b.Entries.length).map E) (l₂:=S);rw[hl] at this; exact this
 have e2:((List.range b.Entries.length).map E++S).drop b.Entries.length=S:=by
  have:=List.drop_left (l₁:=(List.range b.Entries.length).map E) (l₂:=S);rw[hl] at this; exact this
 refine⟨?_,by unfold zAA; rw[e1,e2],hd⟩;unfold zyT;rw[zAC,zyV,e1,e2,zAD];exact⟨⟨hl,fun i hi=>by rw[hd i hi]; exact hE i hi⟩,hS⟩
def zAH(b:Boo)(o:Nat->Bool)(D:Nat->Int)(i:Nat):Int:=if o i=true then (zyB b i).Day.Lo else D i
theorem zAI{b:Boo}{o:Nat->Bool}{D:Nat->Int}{i:Nat}(h:o i=false):zAH b o D i=D i:=by unfold zAH; rw[if_neg (by simp[h])]
theorem zAJ{w:Wk}{f:Tr->Bool}:∀{l:List Tr} {y:Bool},(∀a∈l,zuD w a=some (f a))->zuF w l y=some (l.any f)
 | [],_,_=>rfl
 | a::l,y,h=>by
  rw[zuF,h a (List.mem_cons_self ..),obs,List.any_cons]
  cases hf:f a with
  | true=>rfl
  | false=>rw[if_neg (by simp)]; exact zAJ fun x hx=>h x (List.mem_cons_of_mem _ hx)
theorem zAK{b:Boo}(h:zAl b){c:Nat->Bool}:(zyT b c).length<=100/\∀r∈zyT b c,okR r:=by
 have h6:=h.e6;have h4:=h.p4;have hL:=h.L;refine⟨by unfold zyT; rw[List.length_append,zyV,List.length_map]; omega,fun r hr=>?_⟩;unfold zyT at hr
 rcases List.mem_append.1 hr with hr | hr
 ·unfold zyS at hr;obtain⟨i,hi,rfl⟩:=List.mem_map.1 hr;have a2:=h.day (List.mem_range.1 hi);unfold zx4 at a2;have a3:=zAE (o:=c i) a2.2.1;unfold okR; omega
 ·obtain⟨p,hp,rfl⟩:=List.mem_map.1 hr;have:=(h.P p hp).2.2;unfold zx4 at this;unfold okR; omega
theorem zAL{w:Wk}{b:Boo}{O:O6}(h:zAl b)(hw:zyE w b O):zuC w=some ((chW (zyT b (zyA O)) []).map (zAA b.Entries.length)):=by
 obtain⟨r1,r2⟩:=zAK h (c:=zyA O);have hb:=hw.eb;unfold zuC zuB
 rw[zyY hw h.e6 (by have:=h.p4; omega),obs,show zun (zyT b (zyA O))=some (chW (zyT b (zyA O)) []) from zrM ⟨r1,r2⟩,obs,zAB fun a ha=>by
  have:=zxZ (zx1.1 ha)
  rw[hb,this]; unfold zyT; rw[List.length_append,zyV]; omega,hb]; rfl
theorem zAM{w:Wk}{b:Boo}{O:O6}(h:zAl b)(hw:zyE w b O):Ev (zuG w) (zAv b (zyA O)):=by
 have key:zuG w=some (((chW (zyT b (zyA O)) []).map (zAA b.Entries.length)).any fun t=>okB b (zyA O) (dF t.Days) t.Sown):=by
  unfold zuG;rw[zAL h hw,obs];refine zAJ fun a ha=>?_;obtain⟨l,hl,rfl⟩:=List.mem_map.1 ha;obtain⟨a1,a2,a3,a4⟩:=zAF h (zx1.1 hl);exact zAz h hw a1 a3 fun i hi _=>(a4 i hi).2
 rw[key];refine Ev.mk' ?_;rw[List.any_eq_true]
 constructor
 ·rintro⟨t,ht,hok⟩
  obtain⟨l,hl,rfl⟩:=List.mem_map.1 ht;obtain⟨a1,a2,a3,a4⟩:=zAF h (zx1.1 hl);refine⟨_,_,fun i hi ho=>?_,a2,hok⟩;have:=(a4 i hi).1;rw[ho] at this;exact this
 ·rintro⟨D,S,hD,hS,hok⟩
  obtain⟨b1,b2,b3⟩:=zAG (b:=b) (c:=zyA O) (E:=zAH b (zyA O) D) (S:=S) (fun i hi=>by
   have hd:=h.day hi;unfold zx4 at hd
   cases ho:zyA O i with
   | true=>unfold zAH zyR; rw[ho,if_pos rfl,if_pos rfl]; exact⟨Int.le_refl _,Int.le_refl _⟩
   | false=>rw[zAI ho]; exact hD i hi ho) hS
  refine⟨_,List.mem_map.2 ⟨_,zx1.2 b1,rfl⟩,?_⟩;rw[b2]
  show okB b (zyA O) (dF _) S=true
  rw[zAx (E:=D) fun i hi ho=>by rw[b3 i hi,zAI ho]]; exact hok
theorem wu{n:Nat}(h:n<=64):znv .u64 (n:Int)=(n:Int):=wz (show(0:Int)<=n/\(n:Int) < 18446744073709551616 by omega)
theorem zAN(B k:Nat):(B:Int) / 2 ^ k % 2=((B / 2 ^ k % 2:Nat):Int):=by rw[zxE]; rfl
theorem zAO{B k:Nat}:(B:Int) / 2 ^ k % 2=1↔B.testBit k=true:=by
 rw[zAN,Nat.testBit_eq_decide_div_mod_eq,decide_eq_true_eq]; omega
theorem zAP{b:Nat}(hb:b < 65536):∀(d p:Nat) (acc:List Int),p<=16->16 - p < d->acc=zxy b p->zty (b:Int) d acc (p:Int)=some (zxz b)
 | 0,_,_,_,h,_=>by omega
 | d+1,p,acc,hp,h,ha=>by
  have hle:b / 2 ^ p<=b:=Nat.div_le_self _ _;rw[zty,wu (show p<=64 by omega)]
  have hq:(b:Int) / 2 ^ ((p:Int)).toNat=((b / 2 ^ p:Nat):Int):=by rw[Int.toNat_natCast]; simp
  rw[hq]
  clear hq
  have hl:=zxD (b:=b) p;have hbit:b.testBit p=decide (b / 2 ^ p % 2=1):=Nat.testBit_eq_decide_div_mod_eq ..
  have h16:p=16->b / 2 ^ p=0:=fun he=>by subst he; exact Nat.div_eq_of_lt (by omega)
  have h0':b / 2 ^ p=0->zxy b p=zxz b:=fun h9=>by
   have:=zxC (b:=b) (p:=p) (fun q hq=>zjo h9 hq) (16 - p);rw[show p+(16 - p)=16 by omega] at this;exact this.symm
  generalize b / 2 ^ p=q at hle hbit h16 h0' ⊢;rw[zrM (by omega),zrM (by omega),zrM (by omega),zrM (fI (by omega))]
  by_cases h0:0 < q
  ·have hp16:p < 16:=by
    rcases Nat.lt_or_ge p 16 with h1 | h1
    ·exact h1
    ·have:=h16 (by omega); omega
   rw[if_pos (by omega),zrM (by omega),zrM (by omega),zrM (by omega),zrM (fI (by omega)),zrM (by omega),zrM (by omega),zrM (fI (by omega))]
   by_cases h1:q % 2=1
   ·rw[if_pos (by omega),zrM (show acc.length < 1048576 by rw[ha]; omega),zrM (fI (by omega)),show(p:Int)+1=((p+1:Nat):Int) by omega];refine zAP hb d (p+1) _ (by omega) (by omega) ?_
    show _=zxy b p++(if b.testBit p then [(p:Int)] else [])
    rw[ha,hbit,h1]; rfl
   ·rw[if_neg (by omega),zrM (fI (by omega)),show(p:Int)+1=((p+1:Nat):Int) by omega];refine zAP hb d (p+1) _ (by omega) (by omega) ?_
    show _=zxy b p++(if b.testBit p then [(p:Int)] else [])
    rw[ha,hbit,decide_eq_false h1]; simp
  ·rw[if_neg (by omega),ha];exact congrArg some (h0' (by omega))
theorem zAQ{b:Nat}(hb:b < 65536):ztz (b:Int)=some (zxz b):=zAP hb 1000000 0 [] (Nat.zero_le _) (by omega) rfl
theorem zAR{a b:List Int}(hl:a.length<=1000):∀(d k:Nat),k<=a.length->a.length - k < d->ztA a b d (k:Int)=some (bef (a.drop k) (b.drop k))
 | 0,_,_,h=>by omega
 | d+1,k,hk,h=>by
  rw[ztA]
  by_cases hka:k < a.length
  ·rw[if_pos (by omega)];have da:=List.drop_eq_getElem_cons hka;have ga:=List.getElem?_eq_getElem hka
   by_cases hkb:k < b.length
   ·have db:=List.drop_eq_getElem_cons hkb;have gb:=List.getElem?_eq_getElem hkb;rw[if_pos (by omega),zsJ ga,obs,zsJ gb,obs,da,db];unfold bef
    by_cases he:a[k]=b[k]
    ·rw[if_pos he,if_pos he,zrM (fI (by omega)),show(k:Int)+1=((k+1:Nat):Int) by omega];exact zAR hl d (k+1) (by omega) (by omega)
    ·rw[if_neg he,if_neg he,obs,obs]
   ·rw[if_neg (by omega),da,List.drop_eq_nil_of_le (show b.length<=k by omega),decide_eq_false (by omega)]; rfl
  ·rw[if_neg (by omega),List.drop_eq_nil_of_le (show a.length<=k by omega)]
   by_cases hkb:k < b.length
   ·rw[List.drop_eq_getElem_cons hkb,decide_eq_true (by omega)]; rfl
   ·rw[List.drop_eq_nil_of_le (show b.length<=k by omega),decide_eq_false (by omega)]; rfl
theorem zAS{a b:List Int}(hl:a.length<=1000):ztB a b=some (bef a b):=zAR hl (a.length+1) 0 (Nat.zero_le _) (by omega)
theorem zAT{a b:List Int}(hl:a.length<=1000):ztC a b=some (shB a b):=by
 unfold ztC shB
 by_cases h1:a.length < b.length
 ·rw[if_pos (by omega),decide_eq_true h1]; rfl
 ·rw[if_neg (by omega),decide_eq_false h1]
  by_cases h2:a.length=b.length
  ·rw[if_pos (by omega),zAS hl,decide_eq_true h2]; simp
  ·rw[if_neg (by omega),decide_eq_false h2]; simp
def zAU(n:Nat):List Int:=(List.range n).map fun j=>((j:Nat):Int)
theorem zAV(n:Nat):Inc n 0 (zAU n):=by
 refine⟨?_,fun v hv=>?_⟩
 ·unfold zAU;rw[List.pairwise_map]
  exact List.pairwise_lt_range.imp fun h=>by omega
 ·obtain⟨j,hj,rfl⟩:=List.mem_map.1 hv;have:=List.mem_range.1 hj
  omega
theorem zAW{n j:Nat}(h:j < n):inD (zAU n) j=true:=decide_eq_true (List.mem_map.2 ⟨j,List.mem_range.2 h,rfl⟩)
theorem zAX{b:Nat}:(zxz b).length<=16:=zxD 16
structure zAY (n:Nat) (P:(Nat->Bool)->Prop) (M:List Int):Prop where
 inc:Inc n 0 M
 ok:P (inD M)
 min:∀D,Inc n 0 D->P (inD D)->D=M\/shB M D=true
theorem zAY.uniq{n:Nat}{P:(Nat->Bool)->Prop}{M M':List Int}(h:zAY n P M)(h':zAY n P M'):M=M':=by
 rcases h.min M' h'.inc h'.ok with h1 | h1
 ·exact h1.symm
 ·rcases h'.min M h.inc h.ok with h2 | h2
  ·exact h2
  ·rw[zxN h1] at h2; cases h2
theorem zAZ{n:Nat}:2 ^ n - 1 < 2 ^ n:=by have:=Nat.two_pow_pos n; omega
theorem zA0{n b:Nat}(_hb:b < 2 ^ n):Nat.xor (2 ^ n - 1) (Nat.land (2 ^ n - 1) b) < 2 ^ n/\∀j,j < n->(Nat.xor (2 ^ n - 1) (Nat.land (2 ^ n - 1) b)).testBit j = !b.testBit j:=by
 have e:∀j,(Nat.xor (2 ^ n - 1) (Nat.land (2 ^ n - 1) b)).testBit j=(decide (j < n) ^^ (decide (j < n) && b.testBit j)):=fun j=>by
  show((2 ^ n - 1) ^^^ ((2 ^ n - 1) &&& b)).testBit j=_
  rw[Nat.testBit_xor,Nat.testBit_and,Nat.testBit_two_pow_sub_one]
 refine⟨Nat.lt_pow_two_of_testBit _ fun j hj=>?_,fun j hj=>?_⟩
 ·rw[e,decide_eq_false (by omega)]; rfl
 ·rw[e,decide_eq_true hj]
  cases b.testBit j <;> rfl
theorem zA1{β:Type}{n:Nat}{F:Nat->Int->Option β}{ok:Nat->Prop}{res:Nat->Option β}{fin:Option β}(hstep:∀d k,k < n->(ok k->F (d+1) (k:Int)=F d ((k:Int)+1))/\(¬ ok k->F (d+1) (k:Int)=res k))(hend:∀d,F (d+1) (n:Int)=fin) :
  ∀(d k:Nat),k<=n->n - k < d->(∃j,k<=j/\j < n/\¬ ok j/\(∀i,k<=i->i < j->ok i)/\F d (k:Int)=res j)\/((∀j,k<=j->j < n->ok j)/\F d (k:Int)=fin)
 | 0,k,_,h=>by omega
 | d+1,k,hk,hd=>by
  by_cases hkn:k=n
  ·subst hkn;exact .inr ⟨fun j h1 h2=>by omega,hend d⟩
  ·by_cases ho:ok k
   ·rw[(hstep d k (by omega)).1 ho,show(k:Int)+1=((k+1:Nat):Int) by omega]
    have hor:∀i,k<=i->(k+1<=i->ok i)->ok i:=fun i h1 h2=>by
     rcases Nat.eq_or_lt_of_le h1 with h3 | h3
     ·subst h3; exact ho
     ·exact h2 h3
    rcases zA1 hstep hend d (k+1) (by omega) (by omega) with ⟨j,q1,q2,q3,q4,q5⟩ | ⟨q1,q2⟩
    ·exact .inl ⟨j,by omega,q2,q3,fun i h1 h2=>hor i h1 fun h3=>q4 i h3 h2,q5⟩
    ·exact .inr ⟨fun j h1 h2=>hor j h1 fun h3=>q1 j h3 h2,q2⟩
   ·exact .inl ⟨k,Nat.le_refl _,by omega,ho,fun i h1 h2=>by omega,(hstep d k (by omega)).2 ho⟩
theorem zA2{i:Nat}(h:i<=6):2 ^ i<=64:=Nat.pow_le_pow_right (n:=2) (by omega) h
theorem zA3{n:Nat}(h:n<=6):(1:Int) * 2 ^ (Int.toNat (znv .u64 (n:Int)))=((2 ^ n:Nat):Int):=by rw[wu (by omega),Int.toNat_natCast,Int.one_mul,Int.natCast_pow]; rfl
def zA4:List Rg->Int->Int
 | [],n=>n
 | r::rs,n=>zA4 rs (n / (r.Hi - r.Lo+1))
def zA5:List Rg->Int->List Int
 | [],_=>[]
 | r::rs,n=>(r.Lo+n % (r.Hi - r.Lo+1))::zA5 rs (n / (r.Hi - r.Lo+1))
theorem zA6:∀{A B:List Rg} {n:Int},zA5 (A++B) n=zA5 A n++zA5 B (zA4 A n)
 | [],_,_=>rfl
 | r::A,B,n=>by
  show _::zA5 (A++B) _=_::(zA5 A _++zA5 B _)
  rw[zA6]; rfl
theorem zA7:∀{A:List Rg} {n:Int},(zA5 A n).length=A.length
 | [],_=>rfl
 | r::A,n=>by show(zA5 A _).length+1=A.length+1; rw[zA7]
theorem zA8:∀{rs:List Rg} {n:Int},(∀r∈rs,r.Lo<=r.Hi)->0<=n->inR rs (zA5 rs n)
 | [],_,_,_=>trivial
 | r::rs,n,h,h0=>by
  have hr:=h r (List.mem_cons_self ..);have h1:=Int.emod_nonneg n (show r.Hi - r.Lo+1 ≠ 0 by omega);have h2:=Int.emod_lt_of_pos n (show 0 < r.Hi - r.Lo+1 by omega);exact⟨⟨by omega,by omega⟩,zA8 (fun r hr=>h r (List.mem_cons_of_mem _ hr)) (Int.ediv_nonneg h0 (by omega))⟩
theorem zA9:∀{rs:List Rg} {L:List Int},inR rs L->∃n,0<=n/\n < zye 1 rs/\zA5 rs n=L
 | [],[],_=>⟨0,Int.le_refl _,by show(0:Int) < 1; omega,rfl⟩
 | [],_::_,h=>h.elim
 | _::_,[],h=>h.elim
 | r::rs,x::xs,h=>by
  obtain⟨n,h0,h1,h2⟩:=zA9 h.2;have hx:=h.1;obtain⟨c,hc⟩:∃c,c=r.Hi - r.Lo+1:=⟨_,rfl⟩;refine⟨(x - r.Lo)+c * n,?_,?_,?_⟩
  ·have:=Int.mul_nonneg (show 0<=c by omega) h0; omega
  ·rw[zyi,Int.one_mul,zyh]
   show _ < (r.Hi - r.Lo+1) * zye 1 rs
   rw[<- hc];have:=Int.mul_le_mul_of_nonneg_left (show n+1<=zye 1 rs by omega) (show 0<=c by omega);rw[Int.mul_add,Int.mul_one] at this
   omega
  ·show(r.Lo+_ % (r.Hi - r.Lo+1))::zA5 rs (_ / (r.Hi - r.Lo+1))=_
   rw[<- hc,Int.add_mul_emod_self_left,Int.emod_eq_of_lt (by omega) (by omega),Int.add_mul_ediv_left _ _ (by omega),Int.ediv_eq_zero_of_lt (by omega) (by omega),Int.zero_add,h2]
   congr 1; omega
theorem zBa{b:Boo}(h:zAl b){acc0:List Int}:∀(d k:Nat) (acc:List Int) (n:Int),k<=b.Parcels.length->b.Parcels.length - k < d->acc.length=k->0<=n/\n<=100000->ztp b acc0 d acc n (k:Int)=some { Days:=acc0,Sown:=acc++zA5 ((b.Parcels.map (·.Sown)).drop k) n }
 | 0,_,_,_,_,hd,_,_=>by omega
 | d+1,k,acc,n,hk,hd,ha,hn=>by
  have h4:=h.p4;have hL:=h.L;rw[ztp]
  by_cases hkl:k < b.Parcels.length
  ·have hg:=List.getElem?_eq_getElem hkl;have hr:=(h.P _ (List.getElem_mem hkl)).2.2
   have e1:(b.Parcels.map (·.Sown)).drop k=b.Parcels[k].Sown::(b.Parcels.map (·.Sown)).drop (k+1):=by
    rw[<- List.map_drop,List.drop_eq_getElem_cons hkl,List.map_cons,List.map_drop]
   rw[e1];generalize b.Parcels[k]=p at hg hr;unfold zx4 at hr;have h1:=Int.emod_nonneg n (show p.Sown.Hi - p.Sown.Lo+1 ≠ 0 by omega);have h2:=Int.emod_lt_of_pos n (show 0 < p.Sown.Hi - p.Sown.Lo+1 by omega);have h3:=Int.ediv_nonneg hn.1 (show 0<=p.Sown.Hi - p.Sown.Lo+1 by omega);have h5:=Int.ediv_le_self (p.Sown.Hi - p.Sown.Lo+1) hn.1;rw[if_pos (by omega),zsJ hg,obs,zrM (fI (by omega)),zrM (fI (by omega)),zrM hn.1,zrM (by omega),zrM (fI (by omega)),zrM (fI (by omega)),zrM (by omega),zrM (fI (by omega)),zrM (fI (by omega)),zrM hn.1,zrM (by omega),zrM (fI (by omega)),zrM (fI (by omega)),show(k:Int)+1=((k+1:Nat):Int) by omega];refine(zBa h d (k+1) (acc++[p.Sown.Lo+n % (p.Sown.Hi - p.Sown.Lo+1)]) (n / (p.Sown.Hi - p.Sown.Lo+1)) (by omega) (by omega) (by rw[List.length_append,ha]; rfl) (by omega)).trans ?_;rw[List.append_assoc]; rfl
  ·rw[if_neg (by omega),List.drop_eq_nil_of_le (by rw[List.length_map]; omega)]
   show _=some ({ Days:=acc0,Sown:=acc++[] }:Tr)
   rw[List.append_nil]
theorem zBb{b:Boo}(h:zAl b):∀(d k:Nat) (acc:List Int) (n:Int),k<=b.Entries.length->b.Entries.length - k < d->acc.length=k->0<=n/\n<=100000->ztq b d acc [] n (k:Int)=some { Days:=acc++zA5 ((b.Entries.map (·.Day)).drop k) n,Sown:=zA5 (b.Parcels.map (·.Sown)) (zA4 ((b.Entries.map (·.Day)).drop k) n) }
 | 0,_,_,_,_,hd,_,_=>by omega
 | d+1,k,acc,n,hk,hd,ha,hn=>by
  have h4:=h.e6;have hL:=h.L;rw[ztq]
  by_cases hkl:k < b.Entries.length
  ·have hg:=List.getElem?_eq_getElem hkl;have hr:=(h.E _ (List.getElem_mem hkl)).1
   have e1:(b.Entries.map (·.Day)).drop k=b.Entries[k].Day::(b.Entries.map (·.Day)).drop (k+1):=by
    rw[<- List.map_drop,List.drop_eq_getElem_cons hkl,List.map_cons,List.map_drop]
   rw[e1];generalize b.Entries[k]=p at hg hr;unfold zx4 at hr;have h1:=Int.emod_nonneg n (show p.Day.Hi - p.Day.Lo+1 ≠ 0 by omega);have h2:=Int.emod_lt_of_pos n (show 0 < p.Day.Hi - p.Day.Lo+1 by omega);have h3:=Int.ediv_nonneg hn.1 (show 0<=p.Day.Hi - p.Day.Lo+1 by omega);have h5:=Int.ediv_le_self (p.Day.Hi - p.Day.Lo+1) hn.1;rw[if_pos (by omega),zsJ hg,obs,zrM (fI (by omega)),zrM (fI (by omega)),zrM hn.1,zrM (by omega),zrM (fI (by omega)),zrM (fI (by omega)),zrM (by omega),zrM (fI (by omega)),zrM (fI (by omega)),zrM hn.1,zrM (by omega),zrM (fI (by omega)),zrM (fI (by omega)),show(k:Int)+1=((k+1:Nat):Int) by omega];refine(zBb h d (k+1) (acc++[p.Day.Lo+n % (p.Day.Hi - p.Day.Lo+1)]) (n / (p.Day.Hi - p.Day.Lo+1)) (by omega) (by omega) (by rw[List.length_append,ha]; rfl) (by omega)).trans ?_;rw[List.append_assoc]; rfl
  ·rw[if_neg (by omega),List.drop_eq_nil_of_le (by rw[List.length_map]; omega)];refine(zBa h 1000000 0 [] n (Nat.zero_le _) (by have:=h.p4; omega) rfl hn).trans ?_
   show some ({ Days:=acc,Sown:=[]++zA5 (b.Parcels.map (·.Sown)) n }:Tr)=some ({ Days:=acc++[],Sown:=zA5 (b.Parcels.map (·.Sown)) n }:Tr)
   rw[List.append_nil,List.nil_append]
theorem zBc{b:Boo}(h:zAl b){n:Int}(hn:0<=n/\n<=100000):ztr b n=some (zAA b.Entries.length (zA5 (zyq b) n)):=by
 unfold ztr;refine(zBb h 1000000 0 [] n (Nat.zero_le _) (by have:=h.e6; omega) rfl hn).trans ?_
 have hl:(zA5 (b.Entries.map (·.Day)) n).length=b.Entries.length:=by rw[zA7,List.length_map]
 have e1:(zA5 (zyq b) n).take b.Entries.length=zA5 (b.Entries.map (·.Day)) n:=by
  unfold zyq;rw[zA6];have:=List.take_left (l₁:=zA5 (b.Entries.map (·.Day)) n) (l₂:=zA5 (b.Parcels.map (·.Sown)) (zA4 (b.Entries.map (·.Day)) n));rw[hl] at this; exact this
 have e2:(zA5 (zyq b) n).drop b.Entries.length=zA5 (b.Parcels.map (·.Sown)) (zA4 (b.Entries.map (·.Day)) n):=by
  unfold zyq;rw[zA6];have:=List.drop_left (l₁:=zA5 (b.Entries.map (·.Day)) n) (l₂:=zA5 (b.Parcels.map (·.Sown)) (zA4 (b.Entries.map (·.Day)) n));rw[hl] at this; exact this
 unfold zAA;rw[e1,e2]; rfl
theorem zBd{b:Boo}(h:zAl b):∀r∈zyq b,r.Lo<=r.Hi:=fun r hr=>by
 unfold zyq at hr
 rcases List.mem_append.1 hr with hr | hr
 ·obtain⟨e,he,rfl⟩:=List.mem_map.1 hr;exact(h.E e he).1.2.1
 ·obtain⟨p,hp,rfl⟩:=List.mem_map.1 hr;exact(h.P p hp).2.2.2.1
theorem zBe{b:Boo}(h:zAl b):ztm b=some (zye 1 (zyq b))/\1<=zye 1 (zyq b):=by
 have hL:=h.L;obtain⟨hz,_⟩:=zys hL.2 h.P h.E;have:=zyk hz;have hm:=h.m;rw[zyt (by have:=h.e6; omega) (by have:=h.p4; omega) hL.2 h.P h.E,Int.min_eq_right (by omega)];exact⟨rfl,this⟩
theorem zBf{b:Boo}(h:zAl b){n:Int}(hn:0<=n):inR (zyT b fun _=>false) (zA5 (zyq b) n):=by
 rw[zyX fun _ _=>rfl]; exact zA8 (zBd h) hn
theorem zBg{x:Nat}(hx:x<=1000000):zAr (x:Int) fun j=>x.testBit j:=⟨by omega,fun k _=>by
 have h1:=zAO (B:=x) (k:=k);have h2:=Int.emod_nonneg ((x:Int) / 2 ^ k) (show(2:Int) ≠ 0 by omega);have h3:=Int.emod_lt_of_pos ((x:Int) / 2 ^ k) (show(0:Int) < 2 by omega)
 show _↔x.testBit k=false
 generalize x.testBit k=tb at h1
 cases tb with
 | true=>have:=h1.2 rfl; exact⟨fun h=>by omega,fun h=>by cases h⟩
 | false=>exact ⟨fun _=>rfl,fun _=>by
   have:¬ (x:Int) / 2 ^ k % 2=1:=fun h=>by have:=h1.1 h; cases this
   omega⟩⟩
theorem zBh{b:Boo}(h:zAl b){out:Int}{o:Nat->Bool}(ho:zAr out o):Ev (zuQ b out) (zAv b o):=by
 obtain⟨hm,hm1⟩:=zBe h;have hm2:=h.m
 have key:=zA1 (n:=(zye 1 (zyq b)).toNat) (F:=zuP b out) (ok:=fun k=>¬ okB b o (dF (zAA b.Entries.length (zA5 (zyq b) (k:Int))).Days) (zAA b.Entries.length (zA5 (zyq b) (k:Int))).Sown=true) (res:=fun _=>some true) (fin:=some false) (fun d k hk=>by
  obtain⟨a1,a2,a3,a4⟩:=zAF h (zBf h (n:=(k:Int)) (by omega));rw[zuP,hm,obs,if_pos (by omega),zBc h (by omega),obs,zAu h ho a1 a3,obs,zAw]
  exact⟨fun hc=>by rw[if_neg hc,zrM (fI (by omega))],fun hc=>by rw[if_pos (Decidable.not_not.1 hc)]⟩) (fun d=>by rw[zuP,hm,obs,if_neg (by omega)]) 1000000 0 (Nat.zero_le _) (by omega)
 unfold zuQ
 rcases key with ⟨k,_,q2,q3,q4,q5⟩ | ⟨q1,q2⟩
 ·refine⟨true,q5,⟨fun _=>?_,fun _=>rfl⟩⟩;obtain⟨a1,a2,a3,a4⟩:=zAF h (zBf h (n:=(k:Int)) (by omega));exact⟨_,_,fun i hi _=>(a4 i hi).1,a2,Decidable.not_not.1 q3⟩
 ·refine⟨false,q2,⟨fun hc=>(by cases hc),fun hc=>?_⟩⟩;obtain⟨D,S,hD,hS,hok⟩:=hc
  obtain⟨b1,b2,b3⟩:=zAG (b:=b) (c:=fun _=>false) (E:=zAH b o D) (S:=S) (fun i hi=>by
   have hd:=h.day hi;unfold zx4 at hd
   show(zyB b i).Day.Lo<=_/\_<=(zyB b i).Day.Hi
   cases ho:o i with
   | true=>unfold zAH; rw[ho,if_pos rfl]; exact⟨Int.le_refl _,hd.2.1⟩
   | false=>rw[zAI ho]; exact hD i hi ho) hS
  rw[zyX fun _ _=>rfl] at b1;obtain⟨n,n1,n2,n3⟩:=zA9 b1;refine absurd ?_ (q1 n.toNat (Nat.zero_le _) (by omega));rw[show((n.toNat:Nat):Int)=n by omega,n3,b2]
  show okB b o (dF _) S=true
  rw[zAx (E:=D) fun i hi ho=>by rw[b3 i hi,zAI ho]]; exact hok
theorem zAv.congr{b:Boo}{o o':Nat->Bool}(h:∀j,j < b.Entries.length->o j=o' j):zAv b o↔zAv b o':=by
 have key:∀{o o':Nat->Bool},(∀j,j < b.Entries.length->o j=o' j)->zAv b o->zAv b o':=fun {o o'} h ⟨D,S,h1,h2,h3⟩=>by
  have e:evI b D o=evI b D o':=by
   unfold evI evK;rw[List.filter_congr fun i hi=>by rw[h i (List.mem_range.1 hi)]]
  refine⟨D,S,fun i hi ho=>h1 i hi (by rw[h i hi]; exact ho),h2,?_⟩;unfold okB at h3 ⊢;rw[<- e]; exact h3
 exact⟨key h,key fun j hj=>(h j hj).symm⟩
theorem zAv.all{b:Boo}(h:zAl b){o:Nat->Bool}(ho:∀j,j < b.Entries.length->o j=true):zAv b o:=by
 have e:evI b (fun _=>0) o=[]:=by
  unfold evI evK
  have:(List.range b.Entries.length).filter (fun i=>!o i)=[]:=List.filter_eq_nil_iff.2 fun i hi=>by rw[ho i (List.mem_range.1 hi)]; simp
  rw[this]; rfl
 refine⟨fun _=>0,b.Parcels.map (fun p:Pc=>p.Sown.Lo),fun i hi h1=>absurd (h1.symm.trans (ho i hi)) (by simp),?_,?_⟩
 ·have key:∀l:List Pc,(∀p∈l,zx6 b p)->inR (l.map (·.Sown)) (l.map (fun p:Pc=>p.Sown.Lo)):=by
   intro l
   induction l with
   | nil=>intro _; trivial
   | cons p l ih=>intro hl; exact⟨⟨Int.le_refl _,(hl p (List.mem_cons_self ..)).2.2.2.1⟩,ih fun q hq=>hl q (List.mem_cons_of_mem _ hq)⟩
  exact key _ h.P
 ·unfold okB;rw[e,zzP]; rfl
end
end Go.Proofs.YtlkgdadfbfafcaaGreat

