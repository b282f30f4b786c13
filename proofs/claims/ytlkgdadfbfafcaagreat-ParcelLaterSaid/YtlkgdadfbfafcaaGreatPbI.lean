/- An evaluator of code, its soundness, and what functions of the program do. Condition: none; a lemma text. -/
import Derived.Test.YtlkgdadfbfafcaaGreatPbH

namespace Go.Proofs.YtlkgdadfbfafcaaGreat
open _root_.Go.Proofs.Tryz
open Go.Abs
set_option maxRecDepth 100000
noncomputable section
theorem zwD{l:List Int}{ca100:C}{m f:M}{Q:V->M->Prop}{rz:List Int}(hS:Pre f m)(ha100:Sl f ca100 l)(hp:zwy l=some rz)(hq:∀m' f' c0,Grw m f m' f'->On m f' m' c0 rz->Q (.c c0) m'):Wc prog tbl 56 [.c ca100] m Q:=by
 have p:=hS.st;obtain⟨q,_⟩:=zsR;refine w56 ?_;unfold zwy at hp;intro w d;obtain⟨r,e,s,g⟩:=Ow.lit0 (α:=Int) p q 1 d;obtain⟨h,hp⟩:=zrI hp;obtain⟨a,i,t,j,n,u,o⟩:=g.appL zvl e ha100 h;refine⟨a,i,j,?_⟩;obtain rfl:=oi hp;exact hq _ f a n.grw o.on
theorem zwE{b:Boo}{which:Int}{other:Int}{on:Int}{ca102 ca103:C}{m f:M}{Q:V->M->Prop}{rz:Bool}(hS:Pre f m)(ha102:Sl f ca102 b.Parcels)(ha103:Sl f ca103 b.Entries)(hp:zwC b which other on=some rz)(hq:∀m',Ext m m'->Q (.c (.bool rz)) m'):Wc prog tbl 10 [.agg 4 [Il b.Last,Il b.Owners,ca102,ca103],.c (.int .u16 which),.c (.int .u16 other),.c (.int .u8 on)] m Q:=by
 have S0:=hS.st;obtain⟨τ0,_⟩:=zsR;refine w10 ?_;unfold zwC at hp;intro m0 Tb;obtain⟨oa,eb,Cf,fb⟩:=S0.blk Tb τ0 1;refine⟨_,_,_,_,fb.bk.ra,?_⟩;obtain⟨Df,Ub,hp⟩:=zrH hp;refine zwv (b:=b) eb.pre ha102 ha103 Ub fun m6 Vb=>?_;obtain⟨pa,Wb⟩:=eb.call Vb oa;have gb:=fb.k Wb;refine⟨_,rfl,?_⟩;refine zr8 hp (fun Xb hp=>?_) fun Xb hp=>?_
 ·obtain⟨Ef,Yb,hp⟩:=zrH hp;refine zvq pa.pre  Yb fun m9 Zb=>?_;obtain⟨ac,Ff⟩:=pa.call Zb oa;refine⟨_,rfl,?_⟩;obtain rfl:=oi hp;exact hq _ ac.ext'
 refine⟨_,_,_,_,gb.bk.ra,?_⟩;obtain⟨qa,bc,hp⟩:=zrH hp;refine zww (b:=b) (n:=(znv .i64 which)) pa.pre ha102 ha103 bc fun hb Gf sa z cc A ga=>?_;obtain⟨dc,ba⟩:=pa.callG cc oa;have ec:=gb.k ba;refine⟨_,_,_,rfl,?_⟩;intro og fc;obtain⟨ib,gc,hc,ic⟩:=dc.blk fc oa 2;have jc:=ec.k hc;obtain⟨kc,nc,jb,oc,pc⟩:=ic.sto gc [sa,z];have kb:=jc.k oc;refine⟨kc,nc,?_⟩;refine⟨_,_,_,_,kb.bk.ra,?_⟩;obtain⟨qc,sc,hp⟩:=zrH hp;refine zww (b:=b) (n:=(znv .i64 other)) jb.pre (ha102.sub ba.fs) (ha103.sub ba.fs) sc fun mb Hf ta ua tc va If=>?_;obtain⟨uc,j⟩:=jb.callG tc ib;have vc:=kb.k j;have wc:=pc.k j;refine⟨_,_,_,rfl,?_⟩;intro pg xc;obtain⟨yc,zc,ob,Ac⟩:=uc.blk xc ib 3;have Bc:=vc.k ob;have Cc:=wc.k ob;obtain⟨wa,Dc,Ec,pb,Fc⟩:=Ac.sto zc [ta,ua];have qb:=Bc.k pb;have Gc:=Cc.k pb;refine⟨wa,Dc,?_⟩;refine⟨trivial,_,qb.bk.rc rfl,?_⟩;refine gdi hp fun Hc hp=>?_;refine gdi hp fun Ic hp=>?_;refine gdi hp fun Jc hp=>?_;refine gdi hp fun Kc hp=>?_;intro qg Nc;obtain⟨Oc,rb,Ha,Ib⟩:=Ec.growK Nc yc 4;have Qc:=qb.k Ha;have Ia:=Gc.k Ha;have Rc:=Fc.k Ha;have Tc:=Ib 0 (by decide);refine⟨trivial,_,Ia.bk.rc rfl,?_⟩;obtain⟨Jf,Uc,hp⟩:=zrH hp;refine zwD (l:=qa.1.Days) rb.pre (A.sub j.fs) Uc fun rg sb Vc Xc Yc=>?_;obtain⟨Zc,ad,g,ka⟩:=rb.callO Xc Yc Oc 5;have bd:=Qc.k g;have tb:=Ia.k g;have cd:=Rc.k g;have dd:=Tc.k g;refine⟨_,rfl,trivial,_,tb.bk.rc rfl,(by rw[show cmC _=true from zqf (ga.noFn)]; exact(Ia.bk.rc rfl)),?_⟩;intro sg ed;obtain⟨fd,xa,hd⟩:=dd.set ad ed;have id:=bd.k xa;have Ja:=tb.k xa;have jd:=cd.k xa;have ka:=ka.k xa
 refine⟨(by rw[show cmC _=true from zqf (ga.noFn)]; exact(Ja.bk.rc rfl)),(by rw[show cmC _=true from zqf (A.noFn)]; exact(Ja.bk.rc rfl)),?_⟩;obtain⟨kd,ld,md,ya,B⟩:=hd.sto fd [Vc,z];have D:=id.k ya;have o:=Ja.k ya;have u:=jd.k ya;have ka:=ka.k ya;refine⟨kd,ld,?_⟩;intro tf nd
 have hgo:∀(za:Nat) (na:Int) (ha:C) (ca:List Int) (fa:M) (i:M) (a:Nat->Nat),St (Fm.of m) f i fa->Sub sb i->Lb (Fm.of m) i a fa 1 m.nxt 4 [Il b.Last,Il b.Owners,ca102,ca103]->Lb (Fm.of m) i a fa 2 hb.nxt 2 [sa,z]->Lb (Fm.of m) i a fa 3 mb.nxt 2 [ta,ua]->Lb (Fm.of m) i a fa 4 (wa.nxt+0) 2 [ha,z]->Ow (Fm.of m) i a fa 5 ha ca->zwB b on qa qc za ca na=some rz->tf [.c (Il na)] fa:=by
  intro za
  induction za with
  | zero=>intro na ha ca fa i a w d D o u B e hp; cases hp
  | succ za Aa=>
   intro na ha ca fa i a w d D o u B e hp;refine nd _ _ ?_;rw[zwB] at hp;refine⟨trivial,_,o.bk.rc rfl,A.isSl,?_⟩
   try rw[A.slLen]
   refine ifd hp (fun od hp=>?_) fun od hp=>?_
   ·refine⟨trivial,_,o.bk.rc rfl,?_⟩;obtain⟨Kf,Ka,hp⟩:=zrH hp;obtain⟨uf,Jb,Ua,Ka⟩:=zrB Ka;refine⟨uf,Jb,(by first|exact Ua|(rw[A.slLen];exact Ua)),_,(A.rdI Ka (Sub.trans (Sub.trans (Sub.trans j.fs g.fs) d) w.sub)),?_⟩;refine ifd hp (fun pd hp=>?_) fun pd hp=>?_; rotate_left
    ·refine gdi hp fun qd hp=>?_;exact Aa _ _ _ _ i a w d D o u B e hp
    refine⟨trivial,_,u.bk.rc rfl,?_⟩;obtain⟨Lf,La,hp⟩:=zrH hp;obtain⟨vf,Kb,Va,La⟩:=zrB La;refine⟨vf,Kb,(by first|exact Va|(rw[va.slLen];exact Va)),_,(va.rdI La (Sub.trans (Sub.trans g.fs d) w.sub)),?_⟩;refine ifd hp (fun sd hp=>?_) fun sd hp=>?_; rotate_left
    ·refine gdi hp fun td hp=>?_;exact Aa _ _ _ _ i a w d D o u B e hp
    refine⟨trivial,_,B.bk.rc rfl,trivial,_,u.bk.rc rfl,?_⟩;obtain⟨la,Ma,hp⟩:=zrH hp;obtain⟨wf,Mb,Wa,Ma⟩:=zrB Ma;refine⟨wf,Mb,(by first|exact Wa|(rw[va.slLen];exact Wa)),_,(va.rdI Ma (Sub.trans (Sub.trans g.fs d) w.sub)),?_⟩;obtain⟨ud,ma,hp⟩:=zrH hp;obtain⟨Xa,Ba,Ya,ma⟩:=zrB ma;refine⟨Xa,Ba,(by first|exact Ya|(rw[e.slLen];exact Ya)),?_⟩;obtain⟨vd,wd,xd,Ca,ub⟩:=e.setP w (a':=la) ma [Il ud] (fun _ h=>h) 0 [Il la] (Nat.le_of_ble_eq_true rfl) rfl
    have Za:Int.toNat na=Xa:=by rw[Ba]; rfl
    rw[<- Za] at ub;have yf:=Ba;have yd:(ca.set (Int.toNat na) la)[Xa]? = some la:=(congrArg (fun z9_=>(ca.set z9_ la)[Xa]?) Za).trans (List.getElem?_set_self (List.getElem?_eq_some_iff.1 ma).1);have zf:=(List.getElem?_eq_some_iff.1 yd).1;have zd:=D.k Ca;have Ad:=o.k Ca;have Bd:=u.k Ca;have Cd:=B.k Ca;refine⟨vd,(by have h9:=wd; rw[e.add0 ma] at h9; exact h9),?_⟩;refine gdi hp fun Dd hp=>?_;exact Aa _ _ _ _ i a xd d zd Ad Bd Cd ub hp
   refine⟨_,_,_,_,D.bk.ra,?_⟩;obtain⟨Ed,Gd,hp⟩:=zrH hp;refine zvG (b:=b) w.pre (ha102.sub (Sub.trans (Sub.trans (Sub.trans ba.fs j.fs) g.fs) d)) (ha103.sub (Sub.trans (Sub.trans (Sub.trans ba.fs j.fs) g.fs) d)) Gd fun tg Mf Nf Of Id Jd Ld=>?_;obtain⟨vb,p⟩:=w.callG Id a;have Md:=D.k p;have wb:=o.k p;have Nd:=u.k p;have Od:=B.k p;have e:=e.k p;refine⟨_,_,_,_,rfl,_,_,wb.bk.ra,(by rw[show zaL cmC _=true from zqg (zrL A.noFn (zrL ga.noFn zrM))]; exact(o.bk.ra)),?_⟩;obtain⟨Pd,Qd,hp⟩:=zrH hp;refine zvH (t:=qa.1) vb.pre (A.sub (Sub.trans (Sub.trans (Sub.trans j.fs g.fs) d) p.fs)) (ga.sub (Sub.trans (Sub.trans (Sub.trans j.fs g.fs) d) p.fs)) Qd fun ug Pf Qf Rf Rd Sd Td=>?_;obtain⟨xb,q⟩:=vb.callG Rd a;have Ud:=Md.k q;have Vd:=wb.k q;have Wd:=Nd.k q;have Xd:=Od.k q;have e:=e.k q;refine⟨_,_,rfl,?_⟩;obtain⟨yb,Yd,hp⟩:=zrH hp;refine zwr (b:=Ed) (t:=Pd) (day:=((znv .i64 on) % (b.Last+(1:Int)))) xb.pre (Jd.sub q.fs) (Ld.sub q.fs) Sd Td Yd fun vg Sf Tf Zd ia=>?_;obtain⟨zb,F⟩:=xb.callG Zd a;have Ab:=Ud.k F;have ae:=Vd.k F;have be:=Wd.k F;have Bb:=Xd.k F;have e:=e.k F;refine⟨_,_,rfl,_,_,_,_,Ab.bk.ra,?_⟩;obtain⟨ce,de,hp⟩:=zrH hp;refine zvG (b:=b) zb.pre (ha102.sub (Sub.trans (Sub.trans (Sub.trans (Sub.trans (Sub.trans (Sub.trans ba.fs j.fs) g.fs) d) p.fs) q.fs) F.fs)) (ha103.sub (Sub.trans (Sub.trans (Sub.trans (Sub.trans (Sub.trans (Sub.trans ba.fs j.fs) g.fs) d) p.fs) q.fs) F.fs)) de fun xg Uf Vf Wf ee fe ge=>?_;obtain⟨he,G⟩:=zb.callG ee a;have ie:=Ab.k G;have je:=ae.k G;have ke:=be.k G;have Cb:=Bb.k G;have e:=e.k G
   refine⟨_,_,_,_,rfl,_,_,Cb.bk.ra,(by rw[show zaL cmC _=true from zqg (zrL e.noFn (zrL ga.noFn zrM))]; exact(Bb.bk.ra)),?_⟩;obtain⟨Xf,Db,y,me⟩:=e.freeze he;have oe:=ie.k y;have pe:=je.k y;have qe:=ke.k y;have re:=Cb.k y;obtain⟨se,te,hp⟩:=zrH hp;refine zvH (t:=({ Days:=ca,Sown:=qa.1.Sown }:Tr)) Db.pre me (ga.sub (Sub.trans (Sub.trans (Sub.trans (Sub.trans (Sub.trans (Sub.trans (Sub.trans j.fs g.fs) d) p.fs) q.fs) F.fs) G.fs) y.fs)) te fun zg Yf Zf ag ue ve we=>?_;obtain⟨Eb,I⟩:=Db.callG ue a;have xe:=oe.k I;have ye:=pe.k I;have ze:=qe.k I;have Ae:=re.k I;refine⟨_,_,rfl,?_⟩;obtain⟨Fb,Be,hp⟩:=zrH hp;refine zwr (b:=ce) (t:=se) (day:=((znv .i64 on) % (b.Last+(1:Int)))) Eb.pre (fe.sub (Sub.trans y.fs I.fs)) (ge.sub (Sub.trans y.fs I.fs)) ve we Be fun Ag r bg Ce s=>?_;obtain⟨J,ja⟩:=Eb.callG Ce a;have N:=xe.k ja;have O:=ye.k ja;have P:=ze.k ja;have S:=Ae.k ja;refine⟨_,_,rfl,?_⟩;refine zr8 hp (fun De hp=>?_) fun De hp=>?_
   ·refine ifd hp (fun Ee hp=>?_) fun Ee hp=>?_; rotate_left
    ·obtain rfl:=oi hp;exact hq _ J.ext'
    obtain⟨cg,Fe,hp⟩:=zrH hp;refine zvq J.pre  Fe fun Bg Ge=>?_;obtain⟨He,dg⟩:=J.call Ge a;refine⟨_,rfl,?_⟩;obtain rfl:=oi hp;exact hq _ He.ext'
   refine zr6 hp (fun Ie hp=>?_) fun Ie hp=>?_
   ·obtain rfl:=oi hp;exact hq _ J.ext'
   refine zr6 hp (fun Na hp=>?_) fun Na hp=>?_
   ·refine zr6 hp (fun Je hp=>?_) fun Je hp=>?_
    ·obtain rfl:=oi hp;exact hq _ J.ext'
    refine zsa Na ?_;intro Ke Nb
    have hgo:∀(Da:Nat) (Oa:Bool) (Ea:Int) (T:M) (Y:Nat->Nat),St (Fm.of m) f r T->Lb (Fm.of m) r Y T 1 m.nxt 4 [Il b.Last,Il b.Owners,ca102,ca103]->Lb (Fm.of m) r Y T 2 hb.nxt 2 [sa,z]->Lb (Fm.of m) r Y T 3 mb.nxt 2 [ta,ua]->Lb (Fm.of m) r Y T 4 (wa.nxt+0) 2 [ha,z]->zwz yb Fb Da Ea=some rz->Ke [.c (.bool Oa),.c (Il Ea)] T:=by
     intro Da
     induction Da with
     | zero=>intro Oa Ea T Y da N O P S hp; cases hp
     | succ Da Gb=>
      intro Oa Ea T Y da N O P S hp;refine Nb _ _ _ ?_;rw[zwz] at hp;refine⟨s.isSl,?_⟩
      try rw[s.slLen]
      refine ifd hp (fun Me hp=>?_) fun Me hp=>?_; rotate_left
      ·obtain⟨eg,Ne,hp⟩:=zrH hp;refine zvq da.pre  Ne fun fg Oe=>?_;obtain⟨Pe,gg⟩:=da.call Oe Y;refine⟨_,rfl,?_⟩;obtain rfl:=oi hp;exact hq _ Pe.ext'
      obtain⟨hg,Pa,hp⟩:=zrH hp;obtain⟨Qe,Ob,ab,Pa⟩:=zrB Pa;obtain⟨_,Re⟩:=zs0 ia Pa;refine⟨Qe,Ob,(by first|exact ab|(rw[ia.slLen];exact ab)),_,_,_,_,(Re _ (Sub.trans (Sub.trans (Sub.trans (Sub.trans G.fs y.fs) I.fs) ja.fs) da.sub)).1,?_⟩;obtain⟨ig,Qa,hp⟩:=zrH hp;obtain⟨Se,Pb,bb,Qa⟩:=zrB Qa;obtain⟨_,Te⟩:=zs0 s Qa;refine⟨Se,Pb,(by first|exact bb|(rw[s.slLen];exact bb)),_,_,_,_,(Te _ da.sub).1,?_⟩;refine gdi hp fun Ue hp=>?_;refine gdi hp fun Ve hp=>?_;refine gdi hp fun We hp=>?_;refine gdi hp fun Xe hp=>?_;refine zr8 hp (fun Ye hp=>?_) fun Ye hp=>?_
      ·obtain rfl:=oi hp;exact hq _ da.ext'
      refine gdi hp fun Ze hp=>?_;exact Gb _ _ _ Y da N O P S hp
    exact hgo _ _ _ _ a J N O P S hp
   refine zr9 Na ?_;refine⟨ia.isSl,s.isSl,?_⟩
   try rw[ia.slLen]
   try rw[s.slLen]
   refine zr6 hp (fun af hp=>?_) fun af hp=>?_
   ·obtain rfl:=oi hp;exact hq _ J.ext'
   intro bf Qb
   have hgo:∀(Fa:Nat) (Ra:Bool) (Ga:Int) (Z:M) (aa:Nat->Nat),St (Fm.of m) f r Z->Lb (Fm.of m) r aa Z 1 m.nxt 4 [Il b.Last,Il b.Owners,ca102,ca103]->Lb (Fm.of m) r aa Z 2 hb.nxt 2 [sa,z]->Lb (Fm.of m) r aa Z 3 mb.nxt 2 [ta,ua]->Lb (Fm.of m) r aa Z 4 (wa.nxt+0) 2 [ha,z]->zwA yb Fb Fa Ga=some rz->bf [.c (.bool Ra),.c (Il Ga)] Z:=by
    intro Fa
    induction Fa with
    | zero=>intro Ra Ga Z aa ea N O P S hp; cases hp
    | succ Fa Hb=>
     intro Ra Ga Z aa ea N O P S hp;refine Qb _ _ _ ?_;rw[zwA] at hp;refine⟨s.isSl,?_⟩
     try rw[s.slLen]
     refine ifd hp (fun cf hp=>?_) fun cf hp=>?_; rotate_left
     ·obtain⟨jg,df,hp⟩:=zrH hp;refine zvq ea.pre  df fun kg ef=>?_;obtain⟨gf,lg⟩:=ea.call ef aa;refine⟨_,rfl,?_⟩;obtain rfl:=oi hp;exact hq _ gf.ext'
     obtain⟨mg,Sa,hp⟩:=zrH hp;obtain⟨hf,Rb,cb,Sa⟩:=zrB Sa;obtain⟨_,jf⟩:=zs0 ia Sa;refine⟨hf,Rb,(by first|exact cb|(rw[ia.slLen];exact cb)),_,_,_,_,(jf _ (Sub.trans (Sub.trans (Sub.trans (Sub.trans G.fs y.fs) I.fs) ja.fs) ea.sub)).1,?_⟩;obtain⟨ng,Ta,hp⟩:=zrH hp;obtain⟨kf,Sb,db,Ta⟩:=zrB Ta;obtain⟨_,lf⟩:=zs0 s Ta;refine⟨kf,Sb,(by first|exact db|(rw[s.slLen];exact db)),_,_,_,_,(lf _ ea.sub).1,?_⟩;refine gdi hp fun mf hp=>?_;refine gdi hp fun nf hp=>?_;refine gdi hp fun pf hp=>?_;refine gdi hp fun qf hp=>?_;refine zr8 hp (fun rf hp=>?_) fun rf hp=>?_
     ·obtain rfl:=oi hp;exact hq _ ea.ext'
     refine gdi hp fun sf hp=>?_;exact Hb _ _ _ aa ea N O P S hp
   exact hgo _ _ _ _ a J N O P S hp
 exact hgo _ _ _ _ _ sb Zc md (Sub.refl _) D o u B ka hp
def Inc(n fr:Nat)(T:List Int):Prop:=T.Pairwise (· < ·)/\∀v∈T,(fr:Int)<=v/\v < n
theorem Inc.cons{n fr:Nat}{x:Int}{T:List Int}:Inc n fr (x::T)↔((fr:Int)<=x/\x < n)/\Inc n (x+1).toNat T:=by
 unfold Inc;rw[List.pairwise_cons]
 constructor
 ·rintro⟨⟨h1,h2⟩,h3⟩
  have hx:=h3 x (List.mem_cons_self ..);exact⟨hx,h2,fun v hv=>by have:=h1 v hv; have:=h3 v (List.mem_cons_of_mem _ hv); omega⟩
 ·rintro⟨hx,h2,h3⟩
  refine⟨⟨fun v hv=>by have:=h3 v hv; omega,h2⟩,fun v hv=>?_⟩
  rcases List.mem_cons.1 hv with rfl | hv
  ·exact hx
  ·have:=h3 v hv; omega
def inD(D:List Int)(j:Nat):Bool:=decide ((j:Int)∈D)
def bef:List Int->List Int->Bool
 | [],[]=>false
 | [],_::_=>true
 | _::_,[]=>false
 | x::a,y::b=>if x=y then bef a b else decide (x < y)
def shB(a b:List Int):Bool:=decide (a.length < b.length) || (decide (a.length=b.length) && bef a b)
theorem zwF{A B:List Int}:shB A B=true↔A.length < B.length\/(A.length=B.length/\bef A B=true):=by
 unfold shB;rw[Bool.or_eq_true,Bool.and_eq_true,decide_eq_true_eq,decide_eq_true_eq]
def inR:List Rg->List Int->Prop
 | [],[]=>True
 | r::rs,x::xs=>(r.Lo<=x/\x<=r.Hi)/\inR rs xs
 | _,_=>False
theorem zwG:∀{rs:List Rg} {xs:List Int},inR rs xs->xs.length=rs.length
 | [],[],_=>rfl
 | _::_,_::_,h=>by rw[List.length_cons,List.length_cons,zwG h.2]
def hd0:Hd:={ There:=false,Covered:=false,Owner:=0,Value:=0 }
def zwH(l:List En):Int:=((l.filter fun e=>decide (e.Kind=1)).length:Int)
def zwI(b:Boo):Int:=(b.Parcels.length:Int)+zwH b.Entries
def zwJ(b:Boo)(r:Rg):Prop:=0<=r.Lo/\r.Lo<=r.Hi/\r.Hi<=b.Last
def InN(n lo hi:Int):Prop:=lo<=n/\n<=hi
def zgo(b:Boo)(e:En):Prop:=
 (e.Kind=0/\InN e.From 0 (b.Owners - 1)/\InN e.To 0 (b.Owners - 1)/\e.From ≠ e.To/\e.Part=0/\e.Other=0) \/
 (e.Kind=1/\e.From=0/\e.To=0/\e.Other=0/\InN e.Part 1 1000) \/
 (e.Kind=2/\e.From=0/\e.To=0/\e.Part=0/\InN e.Other 0 (zwI b - 1)/\e.Other ≠ e.Parcel) \/
 (e.Kind=3/\e.From=0/\e.To=0/\e.Part=0/\e.Other=0)
def zwK(b:Boo)(e:En):Prop:=zwJ b e.Day/\InN e.Parcel 0 (zwI b - 1)/\zgo b e
def zwL(b:Boo)(p:Pc):Prop:=InN p.Owner 0 (b.Owners - 1)/\InN p.Value 0 1000/\zwJ b p.Sown
theorem zwM{l:List En}:0<=zwH l/\zwH l<=l.length:=by
 unfold zwH;have:=List.length_filter_le (fun e:En=>decide (e.Kind=1)) l
 omega
theorem zwN{n lo hi:Int}:Ev (zs8 n lo hi) (InN n lo hi):=Ev.ite fun _=>Ev.dec Iff.rfl
theorem zwO{b:Boo}{r:Rg}:Ev (zs9 b r) (zwJ b r):=Ev.ite fun _=>Ev.ite fun _=>Ev.dec Iff.rfl
theorem zwP{b:Boo}{n:Int}(hl:b.Entries.length<=100){m:Nat}(hm:n=(m:Int))(hml:m<=b.Entries.length)(hp:b.Parcels.length<=100):∀(d k:Nat),k<=m->m - k < d->prNumbers_L0 b n d ((b.Parcels.length:Int)+zwH (b.Entries.take k)) (k:Int)=some ((b.Parcels.length:Int)+zwH (b.Entries.take m))
 | 0,_,_,h=>by omega
 | d+1,k,hk,h=>by
  unfold prNumbers_L0
  by_cases hkm:k=m
  ·subst hkm;rw[if_neg (by omega)]
  ·have hlt:k < b.Entries.length:=by omega
   have hg:=List.getElem?_eq_getElem hlt
   have hsp:zwH (b.Entries.take (k+1))=zwH (b.Entries.take k)+if b.Entries[k].Kind=1 then 1 else 0:=by
    rw[List.take_add_one,hg];unfold zwH;rw[List.filter_append,List.length_append]
    by_cases h1:b.Entries[k].Kind=1
    ·rw[if_pos h1]; simp[h1]
    ·rw[if_neg h1]; simp[h1]
   have hr:=zwM (l:=b.Entries.take k)
   have:(b.Entries.take k).length<=100:=by rw[List.length_take]; omega
   have ih:=zwP hl hm hml hp d (k+1) (by omega) (by omega);rw[if_pos (by omega),zsy hg,obs]
   by_cases h1:b.Entries[k].Kind=1
   ·rw[if_pos h1] at hsp;rw[if_pos h1,zrJ (fI (by omega)),zrJ (fI (by omega)),show(k:Int)+1=((k+1:Nat):Int) by omega,Int.add_assoc,<- hsp];exact ih
   ·rw[if_neg h1,Int.add_zero] at hsp;rw[if_neg h1,zrJ (fI (by omega)),show(k:Int)+1=((k+1:Nat):Int) by omega,<- hsp];exact ih
theorem zwQ{b:Boo}(hl:b.Entries.length<=100)(hp:b.Parcels.length<=100):ztb b=some (zwI b):=by
 unfold ztb zta;have:=zwP hl rfl (Nat.le_refl _) hp (b.Entries.length+1) 0 (Nat.zero_le _) (by omega);rw[List.take_length] at this;rw[Int.toNat_natCast];have h0:zwH (b.Entries.take 0)=0:=rfl;rw[h0,Int.add_zero] at this;rw[show((0:Nat):Int)=0 from rfl] at this;rw[this]; rfl
theorem zwR{b:Boo}(hl:b.Entries.length<=100)(hp:b.Parcels.length<=100):0<=zwI b/\zwI b<=200:=by
 have:=zwM (l:=b.Entries);unfold zwI; omega
theorem zwS{b:Boo}{e:En}(hl:b.Entries.length<=100)(hp:b.Parcels.length<=100)(ho:1<=b.Owners/\b.Owners<=4):Ev (ztc b e) (zwK b e):=by
 have hr:=zwR hl hp;unfold ztc;refine(zwO.and (K:=InN e.Parcel 0 (zwI b - 1)/\zgo b e) fun _=>Ev.bind (zwQ hl hp) (Ev.gd (fI (by omega)) (zwN.and fun hpc=>?_)));unfold zgo
 by_cases h0:e.From=0
 ·rw[if_pos h0]
  by_cases k0:e.Kind=0
  ·rw[if_pos k0];refine(Ev.gd (fI (by omega)) (zwN.and fun _=>Ev.gd (fI (by omega)) (zwN.and fun _=>Ev.itn fun _=>Ev.ite fun _=>Ev.dec Iff.rfl))).imp ?_
   simp[k0]
  ·rw[if_neg k0]
   by_cases k1:e.Kind=1
   ·rw[if_pos k1];refine(Ev.ite fun _=>Ev.ite fun _=>zwN.ret).imp ?_
    simp[k1,h0]
   ·rw[if_neg k1]
    by_cases k2:e.Kind=2
    ·rw[if_pos k2];refine(Ev.ite fun _=>Ev.ite fun _=>Ev.bind (zwQ hl hp) (Ev.gd (fI (by omega)) (zwN.and (K:=¬ e.Other=e.Parcel) fun _=>Ev.mk' (by simp)))).imp ?_
     simp[k2,h0]
    ·rw[if_neg k2]
     by_cases k3:e.Kind=3
     ·rw[if_pos k3];refine(Ev.ite fun _=>Ev.ite fun _=>Ev.dec Iff.rfl).imp ?_
      simp[k3,h0]
     ·rw[if_neg k3];exact Ev.ff (by simp[k0,k1,k2,k3])
 ·rw[if_neg h0]
  by_cases k0:e.Kind=0
  ·rw[if_pos k0];refine(Ev.gd (fI (by omega)) (zwN.and fun _=>Ev.gd (fI (by omega)) (zwN.and fun _=>Ev.itn fun _=>Ev.ite fun _=>Ev.dec Iff.rfl))).imp ?_
   simp[k0]
  ·rw[if_neg k0]
   repeat' split
   all_goals exact Ev.ff (by simp[k0,h0])
def zwT(x:Int)(l:List Rg):Int:=l.foldl (fun p r=>p * szR r) x
def zwU(C:Int)(x:Int)(l:List Rg):Int:=l.foldl (fun p r=>min C (p * szR r)) x
def zwV(S:Int)(l:List Rg):Prop:=∀r∈l,1<=szR r/\szR r<=S
theorem zwW:∀{l:List Rg} {x:Int},zwT x l=x * zwT 1 l
 | [],x=>(Int.mul_one x).symm
 | r::l,x=>by
  show zwT (x * szR r) l=x * zwT (1 * szR r) l
  rw[zwW (l:=l) (x:=x * szR r),zwW (l:=l) (x:=1 * szR r),Int.one_mul,Int.mul_assoc]
theorem zwX{l:List Rg}{r:Rg}{x:Int}:zwT x (r::l)=zwT (x * szR r) l:=rfl
theorem zwY{C:Int}{l k:List Rg}{x:Int}:zwU C x (l++k)=zwU C (zwU C x l) k:=by unfold zwU; rw[List.foldl_append]
theorem zwZ{S:Int}:∀{l:List Rg},zwV S l->1<=zwT 1 l
 | [],_=>by show(1:Int)<=1; omega
 | r::l,h=>by
  rw[zwX,Int.one_mul,zwW];have h1:=h r (List.mem_cons_self ..);have h2:=zwZ fun r hr=>h r (List.mem_cons_of_mem _ hr);have:=Int.mul_le_mul h1.1 h2 (by omega) (by omega)
  omega
theorem zw0{S C:Int}(hC:0<=C):∀{l:List Rg} {x:Int},zwV S l->0<=x->x<=C->zwU C x l=min C (zwT x l)
 | [],x,_,_,hx=>(Int.min_eq_right hx).symm
 | r::l,x,h,h0,hx=>by
  have h1:=h r (List.mem_cons_self ..);have hl:zwV S l:=fun r hr=>h r (List.mem_cons_of_mem _ hr);have h2:=zwZ hl;have h3:0<=x * szR r:=Int.mul_nonneg h0 (by omega)
  show zwU C (min C (x * szR r)) l=min C (zwT (x * szR r) l)
  rw[zw0 hC hl (by omega) (by omega)]
  by_cases h4:x * szR r<=C
  ·rw[Int.min_eq_right h4]
  ·rw[Int.min_eq_left (a:=C) (b:=x * szR r) (by omega),zwW (x:=C),zwW (x:=x * szR r)];have a1:C * 1<=C * zwT 1 l:=Int.mul_le_mul_of_nonneg_left h2 hC;have a2:(x * szR r) * 1<=(x * szR r) * zwT 1 l:=Int.mul_le_mul_of_nonneg_left h2 h3;rw[Int.min_eq_left (by omega),Int.min_eq_left (by omega)]
theorem zw1{C:Int}(hC:1<=C){S:Int}{l:List Rg}(h:zwV S l){x:Int}(h0:1<=x)(hx:x<=C):1<=zwU C x l/\zwU C x l<=C:=by
 rw[zw0 (by omega) h (by omega) hx,zwW];have h2:=zwZ h;have a2:x * 1<=x * zwT 1 l:=Int.mul_le_mul_of_nonneg_left h2 (by omega)
 omega
theorem zw2{x s C S:Int}(hx:0<=x/\x<=C)(hs:1<=s/\s<=S)(hC:0<=C):0<=x * s/\x * s<=C * S:=⟨Int.mul_nonneg hx.1 (by omega),Int.mul_le_mul hx.2 hs.2 (by omega) hC⟩
theorem zw3{b:Boo}(hp:b.Parcels.length<=100)(hz:zwV 100 (b.Parcels.map (·.Sown)))(hr:∀p∈b.Parcels,okR p.Sown):∀(d k:Nat) (x:Int),k<=b.Parcels.length->b.Parcels.length - k < d->1<=x->x<=2000->ztd b d x (k:Int)=some (zwU 2000 x ((b.Parcels.drop k).map (·.Sown)))
 | 0,_,_,_,h,_,_=>by omega
 | d+1,k,x,hk,h,h0,hx=>by
  rw[ztd]
  by_cases hkn:k < b.Parcels.length
  ·have hg:=List.getElem?_eq_getElem hkn;have hm:=List.getElem_mem hkn;have hs:=hz _ (List.mem_map.2 ⟨_,hm,rfl⟩);have ho:=hr _ hm;unfold okR at ho;have hsd:b.Parcels[k].Sown.Hi - b.Parcels[k].Sown.Lo+1=szR b.Parcels[k].Sown:=rfl;have hmu:=zw2 (C:=2000) ⟨by omega,hx⟩ hs (by omega);rw[if_pos (by omega),zsy hg,obs,obs,zrJ (fI (by omega)),zrJ (fI (by omega)),zrJ (by omega),hsd,zrJ (by omega),zrJ (fI (by omega)),zrJ (fI (by omega)),show(k:Int)+1=((k+1:Nat):Int) by omega];have h1:x * 1<=x * szR b.Parcels[k].Sown:=Int.mul_le_mul_of_nonneg_left hs.1 (by omega);rw[zw3 hp hz hr d (k+1) _ (by omega) (by omega) (by omega) (by omega),List.drop_eq_getElem_cons hkn]; rfl
  ·rw[if_neg (by omega),List.drop_eq_nil_of_le (by omega)]; rfl
theorem zw4{b:Boo}(hp:b.Entries.length<=100)(hz:zwV 100 (b.Entries.map (·.Day)))(hr:∀p∈b.Entries,okR p.Day):∀(d k:Nat) (x:Int),k<=b.Entries.length->b.Entries.length - k < d->1<=x->x<=2000->zte b d x (k:Int)=ztd b 1000000 (zwU 2000 x ((b.Entries.drop k).map (·.Day))) 0
 | 0,_,_,_,h,_,_=>by omega
 | d+1,k,x,hk,h,h0,hx=>by
  rw[zte]
  by_cases hkn:k < b.Entries.length
  ·have hg:=List.getElem?_eq_getElem hkn;have hm:=List.getElem_mem hkn;have hs:=hz _ (List.mem_map.2 ⟨_,hm,rfl⟩);have ho:=hr _ hm;unfold okR at ho;have hsd:b.Entries[k].Day.Hi - b.Entries[k].Day.Lo+1=szR b.Entries[k].Day:=rfl;have hmu:=zw2 (C:=2000) ⟨by omega,hx⟩ hs (by omega);rw[if_pos (by omega),zsy hg,obs,obs,zrJ (fI (by omega)),zrJ (fI (by omega)),zrJ (by omega),hsd,zrJ (by omega),zrJ (fI (by omega)),zrJ (fI (by omega)),show(k:Int)+1=((k+1:Nat):Int) by omega];have h1:x * 1<=x * szR b.Entries[k].Day:=Int.mul_le_mul_of_nonneg_left hs.1 (by omega);rw[zw4 hp hz hr d (k+1) _ (by omega) (by omega) (by omega) (by omega),List.drop_eq_getElem_cons hkn]; rfl
  ·rw[if_neg (by omega),List.drop_eq_nil_of_le (by omega)]; rfl
def zw5(b:Boo):List Rg:=b.Entries.map (·.Day)++b.Parcels.map (·.Sown)
theorem zw6{b:Boo}(hL:b.Last<=30){r:Rg}(h:zwJ b r):(1<=szR r/\szR r<=31)/\okR r:=by
 unfold zwJ at h;unfold szR okR
 omega
theorem zw7{b:Boo}(hL:b.Last<=30)(hP:∀p∈b.Parcels,zwL b p)(hE:∀e∈b.Entries,zwK b e):zwV 31 (zw5 b)/\∀r∈zw5 b,okR r:=by
 have key:∀r∈zw5 b,zwJ b r:=fun r hr=>by
  rcases List.mem_append.1 hr with h | h
  ·obtain⟨e,he,rfl⟩:=List.mem_map.1 h; exact(hE e he).1
  ·obtain⟨e,he,rfl⟩:=List.mem_map.1 h; exact(hP e he).2.2
 exact⟨fun r hr=>(zw6 hL (key r hr)).1,fun r hr=>(zw6 hL (key r hr)).2⟩
theorem zwV.mono{S T:Int}(h:S<=T){l k:List Rg}(hk:∀r∈k,r∈l)(hl:zwV S l):zwV T k:=fun r hr=>⟨(hl r (hk r hr)).1,by have:=(hl r (hk r hr)).2; omega⟩
theorem zw8{b:Boo}(h1:b.Entries.length<=100)(h2:b.Parcels.length<=100)(hL:b.Last<=30)(hP:∀p∈b.Parcels,zwL b p)(hE:∀e∈b.Entries,zwK b e):ztf b=some (min 2000 (zwT 1 (zw5 b))):=by
 obtain⟨hz,hr⟩:=zw7 hL hP hE;have hzE:zwV 100 (b.Entries.map (·.Day)):=zwV.mono (by omega) (fun r hr=>List.mem_append_left _ hr) hz;have hzP:zwV 100 (b.Parcels.map (·.Sown)):=zwV.mono (by omega) (fun r hr=>List.mem_append_right _ hr) hz;unfold ztf;have g1:=zw4 h1 hzE (fun e he=>hr _ (List.mem_append_left _ (List.mem_map.2 ⟨e,he,rfl⟩))) 1000000 0 1 (Nat.zero_le _) (by omega) (by omega) (by omega);have hc:=zw1 (C:=2000) (x:=1) (by omega) hzE (by omega) (by omega);have g2:=zw3 h2 hzP (fun e he=>hr _ (List.mem_append_right _ (List.mem_map.2 ⟨e,he,rfl⟩))) 1000000 0 (zwU 2000 1 (b.Entries.map (·.Day))) (Nat.zero_le _) (by omega) hc.1 hc.2;rw[List.drop_zero] at g1 g2;refine g1.trans (g2.trans ?_);rw[<- zwY];exact congrArg some (zw0 (by omega) hz (by omega) (by omega))
def zw9(b:Boo):Prop:=(InN b.Last 0 30/\1<=b.Owners)/\(∀p∈b.Parcels,zwL b p)/\∀e∈b.Entries,zwK b e
open Classical in
def zxa(b:Boo):Int:=if 4 < b.Owners\/4 < b.Parcels.length\/6 < b.Entries.length then 3 else if zw9 b then (if 1000 < zwT 1 (zw5 b) then 3 else 0) else 1
theorem zxb{b:Boo}(ho:znq .i64 b.Owners):zth b=some (zxa b):=by
 have ho:=fI' ho;unfold zth zxa
 by_cases c1:4 < b.Owners
 ·rw[if_pos c1,if_pos (.inl c1)]
 rw[if_neg c1]
 by_cases c2:4 < b.Parcels.length
 ·rw[if_pos (by omega),if_pos (.inr (.inl c2))]
 rw[if_neg (by omega)]
 by_cases c3:6 < b.Entries.length
 ·rw[if_pos (by omega),if_pos (.inr (.inr c3))]
 rw[if_neg (by omega),if_neg (show ¬ (4 < b.Owners\/4 < b.Parcels.length\/6 < b.Entries.length) by omega)]
 refine zwN.pick (P:=InN b.Last 0 30) (fun hl=>?_) fun hl=>by rw[if_neg (by simp),if_neg fun h=>hl h.1.1]
 rw[if_pos rfl]
 by_cases c4:b.Owners < 1
 ·rw[if_pos c4,if_neg fun h=>by have:=h.1.2; omega]
 rw[if_neg c4]
 obtain⟨l1,l2⟩:=zsF (l:=b.Parcels) (F:=fun d x=>ztg b d 0 x) (ok:=zwL b) (bad:=some 1) (fin:=prFault_L1 b 1000000 0) (fun d k a hk=>by
  have hkl:=(List.getElem?_eq_some_iff.1 hk).1
  have e1:ztg b (d+1) 0 (k:Int)=gd (znq .i64 (b.Owners - (1:Int))) ((zs8 a.Owner (0:Int) (b.Owners - (1:Int))).bind fun r529=>(if r529=true then ((zs8 a.Value (0:Int) (1000:Int)).bind fun r537=>(if r537=true then ((zs9 b a.Sown).bind fun r545=>(if r545=true then (gd (znq .i64 ((k:Int)+(1:Int))) (ztg b d 0 ((k:Int)+(1:Int)))) else (some (1:Int)))) else (some (1:Int)))) else (some (1:Int)))):=by
   rw[ztg,if_pos (by omega),zsy hk,obs]
  rw[e1,zrJ (fI (by omega)),zrJ (fI (by omega))]
  constructor
  ·intro h;rw[zwN.some_of h.1,obs,if_pos rfl,zwN.some_of h.2.1,obs,if_pos rfl,zwO.some_of h.2.2,obs,if_pos rfl]
  ·intro h
   refine zwN.pick (P:=InN a.Owner 0 (b.Owners - 1)) (fun q1=>?_) fun q1=>by rw[if_neg (by simp)]
   rw[if_pos rfl]
   refine zwN.pick (P:=InN a.Value 0 1000) (fun q2=>?_) fun q2=>by rw[if_neg (by simp)]
   rw[if_pos rfl]
   exact zwO.pick (fun q3=>absurd ⟨q1,q2,q3⟩ h) fun q3=>by rw[if_neg (by simp)]) (fun d=>by
  show ztg b (d+1) 0 _=_
  rw[ztg,if_neg (Int.lt_irrefl _)]) (d:=1000000) (by omega)
 by_cases c5:∀p∈b.Parcels,zwL b p
 rotate_left
 ·rw[if_neg fun h=>c5 h.2.1]; exact l2 c5
 refine(l1 c5).trans ?_
 obtain⟨m1,m2⟩:=zsF (l:=b.Entries) (F:=fun d x=>prFault_L1 b d x) (ok:=zwK b) (bad:=some 1) (fin:=(ztf b).bind fun r569=>(if (1000:Int) < r569 then (some (3:Int)) else (some (0:Int)))) (fun d k a hk=>by
  have hkl:=(List.getElem?_eq_some_iff.1 hk).1
  have e1:prFault_L1 b (d+1) (k:Int)=(ztc b a).bind fun r561=>(if r561=true then (gd (znq .i64 ((k:Int)+(1:Int))) (prFault_L1 b d ((k:Int)+(1:Int)))) else (some (1:Int))):=by
   rw[prFault_L1,if_pos (by omega),zsy hk,obs]
  rw[e1,zrJ (fI (by omega))]
  exact(zwS (by omega) (by omega) (by omega)).step (by rw[if_pos rfl]) (by rw[if_neg (by simp)])) (fun d=>by
  show prFault_L1 b (d+1) _=_
  rw[prFault_L1,if_neg (Int.lt_irrefl _)]) (d:=1000000) (by omega)
 by_cases c6:∀e∈b.Entries,zwK b e
 rotate_left
 ·rw[if_neg fun h=>c6 h.2.2]; exact m2 c6
 refine(m1 c6).trans ?_;rw[if_pos ⟨⟨hl,by omega⟩,c5,c6⟩,zw8 (by omega) (by omega) hl.2 c5 c6,obs]
 by_cases c7:1000 < zwT 1 (zw5 b)
 ·rw[if_pos (by omega),if_pos c7]
 ·rw[if_neg (by omega),if_neg c7]
end
end Go.Proofs.YtlkgdadfbfafcaaGreat

namespace Go.Proofs.YtlkgdadfbfafcaaGreat
open _root_.Go.Proofs.Tryz
open Go.Abs
set_option maxRecDepth 100000
noncomputable section
def zxc:O6:={ o0:=false,o1:=false,o2:=false,o3:=false,o4:=false,o5:=false }
def zxd(m:M6):List Int:=[m.m0,m.m1,m.m2,m.m3,m.m4,m.m5]
def zxe(o:O6):List Bool:=[o.o0,o.o1,o.o2,o.o3,o.o4,o.o5]
def zxf(o:O6)(i:Nat):Bool:=(zxe o).getD i false
def en0:En:={ Kind:=0,Parcel:=0,Other:=0,From:=0,To:=0,Part:=0,Day:={ Lo:=0,Hi:=0 } }
def zxg(b:Boo)(i:Nat):En:=b.Entries.getD i en0
def mkC(b:Boo)(i:Nat):Int:=if (zxg b i).Kind=1 then (b.Parcels.length:Int)+zwH (b.Entries.take i) else 0
theorem zxh{b:Boo}{i:Nat}{e:En}(h:b.Entries[i]? = some e):zxg b i=e:=by unfold zxg; rw[List.getD_eq_getElem?_getD,h]; rfl
theorem zxi{o:O6}{k:Nat}(hk:k < 6):([o.o0,o.o1,o.o2,o.o3,o.o4,o.o5]:List Bool)[k]? = some (zxf o k):=by
 have:k=0\/k=1\/k=2\/k=3\/k=4\/k=5:=by omega
 rcases this with rfl | rfl | rfl | rfl | rfl | rfl <;> rfl
structure zxj (w:Wk) (b:Boo) (O:O6):Prop where
 eb:w.b=b
 n:w.numbers=zwI b
 o:w.out=O
 m:∀i:Nat,i < b.Entries.length->(zxd w.makes)[i]? = some (mkC b i)
theorem zxk{l:List En}{k:Nat}{e:En}(h:l[k]? = some e):zwH (l.take (k+1))=zwH (l.take k)+if e.Kind=1 then 1 else 0:=by
 rw[List.take_add_one,h];unfold zwH;rw[List.filter_append,List.length_append]
 by_cases h1:e.Kind=1
 ·rw[if_pos h1]; simp[h1]
 ·rw[if_neg h1]; simp[h1]
theorem zxl{k:Nat}{v a0 a1 a2 a3 a4 a5:Int}(hk:k < 6):([sti (k:Int) 0 v a0,sti (k:Int) 1 v a1,sti (k:Int) 2 v a2,sti (k:Int) 3 v a3,sti (k:Int) 4 v a4,sti (k:Int) 5 v a5]:List Int)[k]? = some v/\∀i,i ≠ k->([sti (k:Int) 0 v a0,sti (k:Int) 1 v a1,sti (k:Int) 2 v a2,sti (k:Int) 3 v a3,sti (k:Int) 4 v a4,sti (k:Int) 5 v a5]:List Int)[i]? = ([a0,a1,a2,a3,a4,a5]:List Int)[i]?:=by
 have e:∀(j:Nat) (x:Int),sti (k:Int) j v x=if k=j then v else x:=fun j x=>by
  unfold sti
  by_cases h:k=j
  ·rw[if_pos h,if_pos (by omega)]
  ·rw[if_neg h,if_neg (by omega)]
 simp only[e]
 have:k=0\/k=1\/k=2\/k=3\/k=4\/k=5:=by omega
 rcases this with rfl | rfl | rfl | rfl | rfl | rfl <;> exact⟨rfl,fun i hi=>by rcases i with _ | _ | _ | _ | _ | _ | i <;> first | rfl | exact absurd rfl hi⟩
theorem zxm{b:Boo}(hl:b.Entries.length<=6)(hp:b.Parcels.length<=100):∀(d k:Nat) (n a0 a1 a2 a3 a4 a5:Int),k<=b.Entries.length->b.Entries.length - k < d->n=(b.Parcels.length:Int)+zwH (b.Entries.take k) ->
  (∀i:Nat,i < 6->([a0,a1,a2,a3,a4,a5]:List Int)[i]? = some (if i < k then mkC b i else 0)) ->
  ∃w,ztV b d b.Last b.Owners n a0 a1 a2 a3 a4 a5 false false false false false false (k:Int)=some w/\zxj w b zxc
 | 0,_,_,_,_,_,_,_,_,_,h,_,_=>by omega
 | d+1,k,n,a0,a1,a2,a3,a4,a5,hk,h,hn,hm=>by
  rw[ztV]
  by_cases hkn:k < b.Entries.length
  ·have hg:=List.getElem?_eq_getElem hkn;have hst:=zxk hg;have hr:=zwM (l:=b.Entries.take k)
   have hr2:(b.Entries.take k).length<=6:=by rw[List.length_take]; omega
   have hmk:mkC b k=if b.Entries[k].Kind=1 then (b.Parcels.length:Int)+zwH (b.Entries.take k) else 0:=by unfold mkC; rw[zxh hg]
   rw[if_pos (by omega),zsy hg,obs]
   by_cases h1:b.Entries[k].Kind=1
   ·rw[if_pos h1] at hst hmk;obtain⟨s1,s2⟩:=zxl (k:=k) (v:=n) (a0:=a0) (a1:=a1) (a2:=a2) (a3:=a3) (a4:=a4) (a5:=a5) (by omega);rw[if_pos h1,zrJ (by omega),zrJ (fI (by omega)),zrJ (fI (by omega)),show(k:Int)+1=((k+1:Nat):Int) by omega];refine zxm hl hp d (k+1) (n+1) _ _ _ _ _ _ (by omega) (by omega) (by omega) fun i hi=>?_
    by_cases hik:i=k
    ·subst hik; rw[s1,hn,if_pos (by omega),hmk]
    ·rw[s2 i hik,hm i hi]
     by_cases h2:i < k
     ·rw[if_pos h2,if_pos (by omega)]
     ·rw[if_neg h2,if_neg (by omega)]
   ·rw[if_neg h1] at hst hmk;rw[if_neg h1,zrJ (fI (by omega)),show(k:Int)+1=((k+1:Nat):Int) by omega];refine zxm hl hp d (k+1) n _ _ _ _ _ _ (by omega) (by omega) (by omega) fun i hi=>?_;rw[hm i hi]
    by_cases hik:i=k
    ·subst hik; rw[if_neg (by omega),if_pos (by omega),hmk]
    ·by_cases h2:i < k
     ·rw[if_pos h2,if_pos (by omega)]
     ·rw[if_neg h2,if_neg (by omega)]
  ·rw[if_neg (by omega)]
   have hkl:k=b.Entries.length:=by omega
   subst hkl;rw[List.take_length] at hn
   exact⟨_,rfl,rfl,hn,rfl,fun i hi=>by
    have:=hm i (by omega)
    rw[if_pos hi] at this; exact this⟩
theorem zxn{b:Boo}(hl:b.Entries.length<=6)(hp:b.Parcels.length<=100):∃w,ztW b=some w/\zxj w b zxc:=
 zxm hl hp (b.Entries.length+1) 0 _ 0 0 0 0 0 0 (Nat.zero_le _) (by omega) (by show _=_+zwH []; unfold zwH; simp) fun i hi=>by
  rw[if_neg (by omega)]
  have:i=0\/i=1\/i=2\/i=3\/i=4\/i=5:=by omega
  rcases this with rfl | rfl | rfl | rfl | rfl | rfl <;> rfl
theorem zxo{n lo hi:Int}:Ev (ztC n lo hi) (InN n lo hi):=Ev.ite fun _=>Ev.dec Iff.rfl
theorem zxp{w:Wk}{n:Int}:Ev (ztF w n) (InN n 0 w.b.Last):=zxo.ret
theorem zxq{w:Wk}{r:Rg}:Ev (ztG w r) (zwJ w.b r):=
 (Ev.ite fun _=>zxp.and fun _=>zxp.ret).imp (by unfold InN zwJ; omega)
theorem zxr{w:Wk}{n:Int}(ho:-1000<=w.b.Owners/\w.b.Owners<=1000):Ev (ztE w n) (InN n 0 (w.b.Owners - 1)):=Ev.gd (fI (by omega)) zxo.ret
theorem zxs{w:Wk}{n:Int}(ho:0<=w.numbers/\w.numbers<=1000):Ev (ztD w n) (InN n 0 (w.numbers - 1)):=Ev.gd (fI (by omega)) zxo.ret
theorem zxt{w:Wk}{p:Pc}(ho:-1000<=w.b.Owners/\w.b.Owners<=1000):Ev (ztI w p) (zwL w.b p):=(zxr ho).and fun _=>zxo.and fun _=>zxq.ret
theorem zxu{w:Wk}{e:En}(hw:w.numbers=zwI w.b)(hn:0<=w.numbers/\w.numbers<=1000)(ho:-1000<=w.b.Owners/\w.b.Owners<=1000)(he:zsW e):Ev (ztH w e) (zwK w.b e):=by
 obtain⟨f1,f2,f3,f4,f5,f6,f7,f8⟩:=he;have fz:znq .i64 0:=fI (by omega);unfold ztH
 simp only[zrJ f1,zrJ f2,zrJ f3,zrJ f4,zrJ f5,zrJ f6,zrJ f7,zrJ f8,zrJ fz]
 refine((zxs hn).and (K:=zwJ w.b e.Day/\zgo w.b e) fun _=>zxq.and fun _=>?_).imp (by rw[hw]; unfold zwK; constructor <;> (rintro⟨a,b,c⟩; exact⟨b,a,c⟩))
 unfold zgo;rw[<- hw]
 by_cases k0:e.Kind=0
 ·rw[if_pos k0];refine((zxr ho).and fun _=>(zxr ho).and fun _=>Ev.itn (K:=e.Part=0/\e.Other=0) fun _=>Ev.mk' (by simp; exact And.comm)).imp ?_
  simp[k0]
 ·rw[if_neg k0]
  by_cases k1:e.Kind=1
  ·rw[if_pos k1];refine(zxo.and (K:=e.Other=0/\e.From=0/\e.To=0) fun _=>Ev.mk' (by simp)).imp ?_
   simp[k1]
   constructor
   ·rintro⟨a,b,c,d⟩; exact⟨c,d,b,a⟩
   ·rintro⟨c,d,b,a⟩; exact⟨a,b,c,d⟩
  ·rw[if_neg k1]
   by_cases k2:e.Kind=2
   ·rw[if_pos k2];refine((zxs hn).and fun _=>Ev.itn (K:=e.From=0/\e.To=0/\e.Part=0) fun _=>Ev.mk' (by simp)).imp ?_
    simp[k2]
    constructor
    ·rintro⟨a,b,c,d,f⟩; exact⟨c,d,f,a,b⟩
    ·rintro⟨c,d,f,a,b⟩; exact⟨a,b,c,d,f⟩
   ·rw[if_neg k2]
    by_cases k3:e.Kind=3
    ·rw[if_pos k3];refine(Ev.mk' (P:=e.Other=0/\e.From=0/\e.To=0/\e.Part=0) (by simp)).imp ?_
     simp[k3]
     constructor
     ·rintro⟨a,b,c,d⟩; exact⟨b,c,d,a⟩
     ·rintro⟨b,c,d,a⟩; exact⟨a,b,c,d⟩
    ·rw[if_neg k3];exact Ev.ff (by simp[k0,k1,k2,k3])
theorem gP{l:List Pc}{p:Pc->Option Bool}:∀{d:Nat} {x:Int},ztK l p d x=gIdx l p d x
 | 0,_=>rfl
 | d+1,x=>by unfold ztK gIdx; simp only[gP]
theorem gE{l:List En}{p:En->Option Bool}:∀{d:Nat} {x:Int},ztP l p d x=gIdx l p d x
 | 0,_=>rfl
 | d+1,x=>by unfold ztP gIdx; simp only[gE]
theorem zxv{w:Wk}{b:Boo}{O:O6}(hw:zxj w b O)(h1:b.Entries.length<=6)(h2:b.Parcels.length<=4)(ho:-1000<=b.Owners/\b.Owners<=1000)(hE:∀e∈b.Entries,zsW e):Ev (ztT w) (zw9 b):=by
 have e1:=hw.eb;subst e1;have hr:=zwR (b:=w.b) (by omega) (by omega);have hn:=hw.n;refine(zxo.and fun _=>Ev.ite fun _=>(Ev.each (q:=zwL w.b) (fun a _=>zxt ho) (by omega) gP).and fun _=>(Ev.each (q:=zwK w.b) (fun a ha=>zxu hn (by omega) ho (hE a ha)) (by omega) gE).ret).imp ?_;unfold zw9;rw[and_assoc]
def zxw(o:Bool)(r:Rg):Rg:=if o=true then { Lo:=r.Lo,Hi:=r.Lo } else r
def zxx(b:Boo)(o:Nat->Bool)(k:Nat):List Rg:=(List.range k).map fun i=>zxw (o i) (zxg b i).Day
def zxy(b:Boo)(o:Nat->Bool):List Rg:=zxx b o b.Entries.length++b.Parcels.map (·.Sown)
theorem zxz{b:Boo}{o:Nat->Bool}{k:Nat}:zxx b o (k+1)=zxx b o k++[zxw (o k) (zxg b k).Day]:=by
 unfold zxx;rw[List.range_succ,List.map_append]; rfl
theorem zxA{b:Boo}{o:Nat->Bool}{k:Nat}:(zxx b o k).length=k:=by unfold zxx; rw[List.length_map,List.length_range]
theorem zxB{i:Nat}:zxf zxc i=false:=by
 rcases i with _ | _ | _ | _ | _ | _ | i <;> rfl
theorem zxC{b:Boo}{o:Nat->Bool}(ho:∀i,i < b.Entries.length->o i=false):zxy b o=zw5 b:=by
 unfold zxy zw5 zxx
 congr 1
 refine List.ext_getElem (by rw[List.length_map,List.length_map,List.length_range]) fun i h1 h2=>?_;rw[List.length_map,List.length_range] at h1;rw[List.getElem_map,List.getElem_map,List.getElem_range,ho i h1,zxh (List.getElem?_eq_getElem h1)]; rfl
theorem zxD{w:Wk}{b:Boo}{O:O6}(hw:zxj w b O)(h1:b.Entries.length<=6)(h2:b.Parcels.length<=100):ztZ w=some (zxy b (zxf O)):=by
 have e1:=hw.eb;subst e1;unfold ztZ
 have key0:∀(d k:Nat),k<=w.b.Entries.length->w.b.Entries.length - k < d->ztY w d (zxx w.b (zxf O) k) (k:Int)=ztX w (w.b.Parcels.length+1) (zxx w.b (zxf O) w.b.Entries.length) 0:=by
  intro d
  induction d with
  | zero=>intro k _ h; omega
  | succ d ih=>
   intro k hk h;have hlen:=zxA (b:=w.b) (o:=zxf O) (k:=k);rw[ztY]
   by_cases hkn:k < w.b.Entries.length
   ·have hg:=List.getElem?_eq_getElem hkn
    have ho:([w.out.o0,w.out.o1,w.out.o2,w.out.o3,w.out.o4,w.out.o5]:List Bool)[k]? = some (zxf O k):=by
     rw[hw.o]; exact zxi (by omega)
    have ih:=ih (k+1) (by omega) (by omega);rw[zxz,zxh hg] at ih;rw[if_pos (by omega),zsy hg,obs,zsy ho,obs]
    cases hb:zxf O k with
    | true=>
     rw[hb] at ih;rw[if_pos rfl,zrJ (by omega),zrJ (fI (by omega)),show(k:Int)+1=((k+1:Nat):Int) by omega];exact ih
    | false=>
     rw[hb] at ih;rw[if_neg (by simp),zrJ (by omega),zrJ (fI (by omega)),show(k:Int)+1=((k+1:Nat):Int) by omega];exact ih
   ·have hkl:k=w.b.Entries.length:=by omega
    subst hkl;rw[if_neg (by omega)]
 have key:∀(d k:Nat) (acc:List Rg),k<=w.b.Parcels.length->w.b.Parcels.length - k < d->acc.length<=100+k->ztX w d acc (k:Int)=some (acc++(w.b.Parcels.drop k).map (·.Sown)):=by
  intro d
  induction d with
  | zero=>intro k _ _ h; omega
  | succ d ih=>
   intro k acc hk h ha;rw[ztX]
   by_cases hkn:k < w.b.Parcels.length
   ·have hg:=List.getElem?_eq_getElem hkn;rw[if_pos (by omega),zsy hg,obs,zrJ (by omega),zrJ (fI (by omega)),show(k:Int)+1=((k+1:Nat):Int) by omega,ih (k+1) _ (by omega) (by omega) (by rw[List.length_append,List.length_singleton]; omega),List.drop_eq_getElem_cons hkn,List.map_cons,List.append_assoc]; rfl
   ·rw[if_neg (by omega),List.drop_eq_nil_of_le (by omega)]; simp
 have e0:=key0 (w.b.Entries.length+1) 0 (Nat.zero_le _) (by omega);refine e0.trans ((key (w.b.Parcels.length+1) 0 _ (Nat.zero_le _) (by omega) (by rw[zxA]; omega)).trans rfl)
theorem zxE{S:Nat}{l:List Rg}(hS:1<=S/\S<=1000)(hz:zwV S l)(hr:∀r∈l,okR r)(hl:l.length<=100):∀(d k:Nat) (x:Nat),k<=l.length->l.length - k < d->x * S ^ (l.length - k)<=1000000000000000000->zt1 l d (x:Int) (k:Int)=some (zwT (x:Int) (l.drop k))
 | 0,_,_,_,h,_=>by omega
 | d+1,k,x,hk,h,hx=>by
  rw[zt1]
  by_cases hkn:k < l.length
  ·have hg:=List.getElem?_eq_getElem hkn;have hm:=List.getElem_mem hkn;have hs:=hz _ hm;have ho:=hr _ hm;unfold okR at ho;have hsd:l[k].Hi - l[k].Lo+1=szR l[k]:=rfl
   have es:zt0 l[k]=some (szR l[k]):=by unfold zt0; rw[zrJ (fI (by omega)),zrJ (fI (by omega))]; rfl
   obtain⟨z,hz'⟩:∃z:Nat,szR l[k]=(z:Int):=⟨(szR l[k]).toNat,by omega⟩;rw[hz'] at hs es
   have hzS:z<=S:=by omega
   have e1:l.length - k=(l.length - (k+1))+1:=by omega
   rw[e1,Nat.pow_succ] at hx
   have hx2:x * z * S ^ (l.length - (k+1))<=x * (S ^ (l.length - (k+1)) * S):=by
    rw[Nat.mul_comm (S ^ _) S,<- Nat.mul_assoc];exact Nat.mul_le_mul_right _ (Nat.mul_le_mul_left _ hzS)
   have hp:1<=S ^ (l.length - (k+1)):=Nat.pow_pos (by omega);have hx3:x * z<=x * z * S ^ (l.length - (k+1)):=Nat.le_mul_of_pos_right _ hp;have ec:(x:Int) * (z:Int)=((x * z:Nat):Int):=(Int.natCast_mul x z).symm;rw[if_pos (by omega),zsy hg,obs,es,obs,zrJ (by omega),zrJ (by omega),ec,zrJ (fI (by omega)),zrJ (fI (by omega)),show(k:Int)+1=((k+1:Nat):Int) by omega,zxE hS hz hr hl d (k+1) (x * z) (by omega) (by omega) (by omega),List.drop_eq_getElem_cons hkn,zwX,hz',ec]
  ·rw[if_neg (by omega),List.drop_eq_nil_of_le (by omega)]; rfl
theorem zxF{S:Nat}{l:List Rg}(hS:1<=S/\S<=1000)(hz:zwV S l)(hr:∀r∈l,okR r)(hl:l.length<=100)(hp:S ^ l.length<=1000000000000000000):zt2 l=some (zwT 1 l):=
 zxE hS hz hr hl (l.length+1) 0 1 (Nat.zero_le _) (by omega) (by rw[Nat.one_mul]; exact hp)
theorem zxG{b:Boo}(hb:zsY b):zt3 b=some (zxa b):=by
 obtain⟨f1,f2,⟨f3,f4⟩,f5,f6⟩:=hb;unfold zt3 zxa
 have et:ztU b=some (decide (4 < b.Owners\/4 < b.Parcels.length\/6 < b.Entries.length)):=by
  unfold ztU
  by_cases c1:4 < b.Owners
  ·rw[if_pos c1,decide_eq_true (.inl c1)]
  rw[if_neg c1]
  by_cases c2:4 < b.Parcels.length
  ·rw[if_pos (by omega),decide_eq_true (.inr (.inl c2))]
  rw[if_neg (by omega)];exact congrArg some (decide_eq_decide.2 (by omega))
 rw[et,obs]
 by_cases c1:4 < b.Owners\/4 < b.Parcels.length\/6 < b.Entries.length
 ·rw[if_pos (decide_eq_true c1),if_pos c1]
 rw[if_neg (by simpa using c1),if_neg c1];obtain⟨w,hw,ww⟩:=zxn (b:=b) (by omega) (by omega);rw[hw,obs]
 by_cases c2:b.Owners < 1
 ·have:¬ zw9 b:=fun h=>by have:=h.1.2; omega
  rw[if_neg this]
  have e2:ztT w=some false:=by
   have hb:=ww.eb;unfold ztT
   refine zxo.pick (P:=InN w.b.Last 0 30) (fun _=>?_) fun _=>by rw[if_neg (by simp)]
   rw[if_pos rfl,if_neg (by rw[hb]; omega)]
  rw[e2,obs,if_neg (by simp)]
 refine(zxv ww (by omega) (by omega) (by omega) f6).pick (fun h=>?_) fun h=>by rw[if_neg (by simp),if_neg h]
 obtain⟨hz,hr⟩:=zw7 h.1.1.2 h.2.1 h.2.2
 have hl:(zw5 b).length<=10:=by unfold zw5; rw[List.length_append,List.length_map,List.length_map]; omega
 rw[if_pos rfl,if_pos h,zxD ww (by omega) (by omega),zxC (fun i _=>zxB),obs,zxF (S:=31) (by omega) hz hr (by omega) (Nat.le_trans (Nat.pow_le_pow_right (by omega) hl) (by decide)),obs]
 by_cases c7:1000 < zwT 1 (zw5 b)
 ·rw[if_pos c7,if_pos c7]
 ·rw[if_neg c7,if_neg c7]
def insR(a:Evt):List Evt->List Evt
 | []=>[a]
 | x::r=>if a.on < x.on then x::insR a r else a::x::r
def zxH(p:List Evt)(a:Evt):List Evt:=(insR a p.reverse).reverse
def zxI(l:List Evt):List Evt:=l.foldl zxH []
theorem zxJ{q:List Evt}{x a:Evt}:zxH (q++[x]) a=if a.on < x.on then zxH q a++[x] else q++[x,a]:=by
 unfold zxH;rw[List.reverse_append]
 show(insR a (x::q.reverse)).reverse=_
 rw[insR]
 by_cases h:a.on < x.on
 ·rw[if_pos h,if_pos h,List.reverse_cons]
 ·rw[if_neg h,if_neg h]; simp
theorem zxK{a:Evt}:∀{r:List Evt},(insR a r).Perm (a::r)
 | []=>List.Perm.refl _
 | x::r=>by
  unfold insR
  split
  ·exact((zxK (r:=r)).cons x).trans (List.Perm.swap a x r)
  ·exact List.Perm.refl _
theorem zxL{p:List Evt}{a:Evt}:(zxH p a).Perm (p++[a]):=
 (List.reverse_perm _).trans (zxK.trans (((List.reverse_perm p).cons a).trans (List.perm_append_singleton a p).symm))
theorem zxM{p:List Evt}{a:Evt}:(zxH p a).length=p.length+1:=by rw[zxL.length_eq,List.length_append]; rfl
theorem zxN:∀{l p:List Evt},(l.foldl zxH p).Perm (p++l)
 | [],p=>by rw[List.append_nil]; exact List.Perm.refl _
 | a::l,p=>by
  refine(zxN (l:=l) (p:=zxH p a)).trans ?_;refine(zxL.append_right l).trans ?_;rw[List.append_assoc]; exact List.Perm.refl _
theorem zxO{l:List Evt}:(zxI l).Perm l:=zxN
theorem zxP{l:List Evt}:(zxI l).length=l.length:=zxO.length_eq
theorem zxQ{a b:Evt}:zui a b=some (if a.on < b.on then -1 else if b.on < a.on then 1 else 0):=by
 unfold zui zuh zug
 simp only[obs]
 simp only[decide_true,Bool.not_true,Bool.false_eq_true,if_false]
 by_cases h1:a.on < b.on
 ·rw[if_pos h1,if_pos h1]; rfl
 ·rw[if_neg h1,if_neg h1]
  by_cases h2:b.on < a.on
  ·rw[if_pos h2,if_pos h2]; rfl
  ·rw[if_neg h2,if_neg h2]; rfl
theorem zxR{K:Int->List Evt->Option (Unit × List Evt)}{x1:Int}(hx:0<=x1/\x1<=1000000)(a:Evt):∀(n:Nat) (d:Nat) (p s:List Evt),p.length=n->n < d->n<=1000000 ->
  zuj 0 (fun a b=>zui a b) x1 K d (n:Int) (p++a::s)=K (x1+1) (zxH p a++s)
 | 0,0,_,_,_,h,_=>by omega
 | 0,d+1,p,s,hp,h,hn=>by
  rw[zuj,if_neg (by omega),zrJ (fI (by omega)),List.eq_nil_of_length_eq_zero hp]; rfl
 | n+1,0,_,_,_,h,_=>by omega
 | n+1,d+1,p,s,hp,h,hn=>by
  have hne:p ≠ []:=fun h=>by rw[h] at hp; cases hp
  obtain⟨q,x,rfl⟩:∃q x,p=q++[x]:=⟨p.dropLast,p.getLast hne,(List.dropLast_concat_getLast hne).symm⟩
  have hq:q.length=n:=by rw[List.length_append] at hp; exact Nat.succ.inj hp
  have e1:(q++[x])++a::s=q++x::a::s:=by rw[List.append_assoc]; rfl
  rw[e1]
  have g1:(q++x::a::s)[n+1]? = some a:=by rw[List.getElem?_append_right (by omega)]; rw[show n+1 - q.length=1 by omega]; rfl
  have g0:(q++x::a::s)[n]? = some x:=by rw[List.getElem?_append_right (by omega)]; rw[show n - q.length=0 by omega]; rfl
  have g1i:idx (q++x::a::s) ((n+1:Nat):Int)=some a:=zsy g1
  have g0i:idx (q++x::a::s) (((n+1:Nat):Int) - 1)=some x:=by rw[show((n+1:Nat):Int) - 1=(n:Int) by omega]; exact zsy g0
  rw[zuj,if_pos (by omega),g1i,obs,zrJ (fI (by omega)),g0i,obs,zxQ,obs,zxJ]
  by_cases hc:a.on < x.on
  ·have s1:(q++x::a::s).set (Int.toNat ((n+1:Nat):Int)) x=q++x::x::s:=by
    rw[Int.toNat_natCast,List.set_append_right _ _ (by omega),show n+1 - q.length=1 by omega]; rfl
   have g2:idx (q++x::x::s) (((n+1:Nat):Int) - 1)=some x:=by
    rw[show((n+1:Nat):Int) - 1=(n:Int) by omega];exact zsy (by rw[List.getElem?_append_right (by omega),show n - q.length=0 by omega]; rfl)
   have s2:(q++x::x::s).set (Int.toNat (((n+1:Nat):Int) - 1)) a=q++a::x::s:=by
    rw[show(((n+1:Nat):Int) - 1).toNat=n by omega,List.set_append_right _ _ (by omega),show n - q.length=0 by omega]; rfl
   rw[if_pos hc,if_pos (by omega),zrJ (fI (by omega)),zrJ (fI (by omega)),obs,obs,obs,s1,g2,obs,zrJ (fI (by omega)),s2,if_pos hc,show((n+1:Nat):Int) - 1=(n:Int) by omega,zxR hx a n d q (x::s) hq (by omega) (by omega)];rw[List.append_assoc]; rfl
  ·have hz:¬ (if a.on < x.on then (-1:Int) else if x.on < a.on then 1 else 0) < 0:=by
    rw[if_neg hc]; split <;> omega
   rw[if_neg hz,zrJ (fI (by omega)),if_neg hc];rw[List.append_assoc]; rfl
theorem zxS{n:Nat}(hn:n<=1000):∀(zlq p:List Evt) (d:Nat),p.length+zlq.length=n->zlq.length < d->zuk 0 (n:Int) (fun a b=>zui a b) d (p.length:Int) (p++zlq)=some ((),zlq.foldl zxH p)
 | _,_,0,_,h=>by omega
 | [],p,d+1,hl,h=>by
  rw[zuk,if_neg (by simp at hl; omega),List.append_nil]; rfl
 | a::zlq,p,d+1,hl,h=>by
  have hl':p.length+(zlq.length+1)=n:=hl;rw[zuk,if_pos (by omega),zxR (by omega) a p.length 1000000 p zlq rfl (by omega) (by omega)]
  have e:(p.length:Int)+1=((zxH p a).length:Int):=by rw[zxM]; rfl
  rw[e,zxS hn zlq (zxH p a) d (by rw[zxM]; omega) (by have h':zlq.length+1 < d+1:=h; omega)]; rfl
theorem zxT{l:List Evt}(hl:l.length<=19):zut l (fun a b=>zui a b)=some ((),zxI l):=by
 unfold zut zus;rw[zur,if_neg (by omega)]
 have key:zul l 0 (l.length:Int) (fun a b=>zui a b)=some ((),zxI l):=by
  unfold zul;rw[zrJ (fI (by omega))]
  cases l with
  | nil=>
   rw[zuk,if_neg (by simp)]; rfl
  | cons a r=>
   have hl':r.length+1<=19:=hl;have:=zxS (n:=r.length+1) (by omega) r [a] ((((r.length+1:Nat):Int) - (0+1)).toNat+1) (by simp; omega) (by omega);exact this
 rw[key,obs,show((l.length:Int) - 20).toNat+1=1 by omega,zuq,if_neg (by omega)]
 rfl
def dF(l:List Int)(i:Nat):Int:=l.getD i 0
def zxU(b:Boo)(D:Nat->Int)(i:Nat):Evt:={ e:=zxg b i,on:=D i,makes:=mkC b i }
def evK(b:Boo)(D:Nat->Int)(o:Nat->Bool)(k:Nat):List Evt:=((List.range k).filter fun i=>!o i).map (zxU b D)
def evI(b:Boo)(D:Nat->Int)(o:Nat->Bool):List Evt:=evK b D o b.Entries.length
theorem zxV{b:Boo}{D:Nat->Int}{o:Nat->Bool}{k:Nat}:evK b D o (k+1)=evK b D o k++if o k=true then [] else [zxU b D k]:=by
 unfold evK;rw[List.range_succ,List.filter_append,List.map_append]
 cases h:o k <;> simp[h]
theorem zxW{b:Boo}{D:Nat->Int}{o:Nat->Bool}{k:Nat}:(evK b D o k).length<=k:=by
 unfold evK;rw[List.length_map];have:=List.length_filter_le (fun i=>!o i) (List.range k);rw[List.length_range] at this; exact this
theorem zxX{b:Boo}{D:Nat->Int}{o:Nat->Bool}{x:Evt}:x∈evI b D o↔∃i,i < b.Entries.length/\o i=false/\zxU b D i=x:=by
 unfold evI evK;rw[List.mem_map]
 constructor
 ·rintro⟨i,h1,h2⟩
  rw[List.mem_filter,List.mem_range] at h1;exact⟨i,h1.1,by simpa using h1.2,h2⟩
 ·rintro⟨i,h1,h2,h3⟩
  exact⟨i,List.mem_filter.2 ⟨List.mem_range.2 h1,by simp[h2]⟩,h3⟩
theorem zxY{w:Wk}{b:Boo}{O:O6}(hw:zxj w b O){days:List Int}(hl:b.Entries.length<=6)(hd:days.length=b.Entries.length):zuv w days=some (zxI (evI b (dF days) (zxf O))):=by
 have e1:=hw.eb;subst e1;unfold zuv;rw[zrJ (by omega)]
 have key:∀(d k:Nat),k<=w.b.Entries.length->w.b.Entries.length - k < d->zuu w days d (evK w.b (dF days) (zxf O) k) (k:Int)=some (zxI (evI w.b (dF days) (zxf O))):=by
  intro d
  induction d with
  | zero=>intro k _ h; omega
  | succ d ih=>
   intro k hk h;have hlen:=zxW (b:=w.b) (D:=dF days) (o:=zxf O) (k:=k);rw[zuu]
   by_cases hkn:k < w.b.Entries.length
   ·have hg:=List.getElem?_eq_getElem hkn;have hgd:=List.getElem?_eq_getElem (l:=days) (show k < days.length by omega);have hgm:=hw.m k hkn
    have ho:([w.out.o0,w.out.o1,w.out.o2,w.out.o3,w.out.o4,w.out.o5]:List Bool)[k]? = some (zxf O k):=by
     rw[hw.o]; exact zxi (by omega)
    have em:idx ([w.makes.m0,w.makes.m1,w.makes.m2,w.makes.m3,w.makes.m4,w.makes.m5]:List Int) (k:Int)=some (mkC w.b k):=zsy hgm;have ih:=ih (k+1) (by omega) (by omega);rw[zxV] at ih
    have ed:days[k]=dF days k:=by unfold dF; rw[List.getD_eq_getElem?_getD,hgd]; rfl
    rw[if_pos (by omega),zsy hg,obs,zsy ho,obs]
    cases hb:zxf O k with
    | true=>
     rw[hb,if_pos rfl,List.append_nil] at ih;rw[if_pos rfl,zrJ (fI (by omega)),show(k:Int)+1=((k+1:Nat):Int) by omega];exact ih
    | false=>
     rw[hb,if_neg (by simp)] at ih;rw[if_neg (by simp),zsy hgd,obs,em,obs,zrJ (by rw[Int.toNat_natCast]; omega),zrJ (fI (by omega)),show(k:Int)+1=((k+1:Nat):Int) by omega,ed];unfold zxU zxg at ih;rw[List.getD_eq_getElem?_getD,hg] at ih;exact ih
   ·have hkl:k=w.b.Entries.length:=by omega
    subst hkl;rw[if_neg (by omega)];unfold evI;rw[zxT (by omega)]; rfl
    all_goals (intros; simp_all)
 exact key (w.b.Entries.length+1) 0 (Nat.zero_le _) (by omega)
def pl0:Pl:={ owner:=0,value:=0,there:=false,harvested:=false,sown:=0 }
def zxZ:List Pl:=List.replicate 10 pl0
def zx0(s:List Pl)(i:Int):Pl:=s.getD i.toNat pl0
def zx1(p:Pl):Bool:=p.there && !p.harvested
def zx2(s:List Pl)(e:Evt):Bool × List Pl:=
 let x:=zx0 s e.e.Parcel
 if zx1 x=false then (false,s)
 else if e.e.Kind=0 then (if x.owner=e.e.From then (true,s.set e.e.Parcel.toNat { x with owner:=e.e.To }) else (false,s))
 else if e.e.Kind=1 then (if x.value<=e.e.Part then (false,s) else (true,(s.set e.e.Parcel.toNat { x with value:=x.value - e.e.Part }).set e.makes.toNat { x with value:=e.e.Part }))
 else if e.e.Kind=2 then (let y:=zx0 s e.e.Other; if zx1 y=false then (false,s) else if x.owner=y.owner then (false,s) else (true,(s.set e.e.Parcel.toNat { x with owner:=y.owner }).set e.e.Other.toNat { y with owner:=x.owner }))
 else (if e.on < x.sown then (false,s) else (true,s.set e.e.Parcel.toNat { x with harvested:=true }))
structure zx3 (e:Evt):Prop where
 p:0<=e.e.Parcel/\e.e.Parcel < 10
 k:e.e.Kind=0\/e.e.Kind=1\/e.e.Kind=2\/e.e.Kind=3
 m:e.e.Kind=1->(0<=e.makes/\e.makes < 10)/\1<=e.e.Part/\e.e.Part<=1000
 o:e.e.Kind=2->(0<=e.e.Other/\e.e.Other < 10)/\e.e.Other ≠ e.e.Parcel
def zx4(s:List Pl):Prop:=s.length=10/\∀p∈s,0<=p.value/\p.value<=1000
theorem zx5{s:List Pl}(hs:s.length=10){i:Int}(hi:0<=i/\i < 10):idx s i=some (zx0 s i):=by
 have hk:i.toNat < s.length:=by omega
 have hg:=List.getElem?_eq_getElem hk;unfold zx0;rw[List.getD_eq_getElem?_getD,hg];have:=zsy hg;rw[show((i.toNat:Nat):Int)=i by omega] at this;exact this
theorem zx6{s:List Pl}(hs:s.length=10){i j:Int}(hi:0<=i/\i < 10)(hj:0<=j/\j < 10){v:Pl}:zx0 (s.set i.toNat v) j=if i=j then v else zx0 s j:=by
 unfold zx0;rw[List.getD_eq_getElem?_getD,List.getD_eq_getElem?_getD,List.getElem?_set]
 by_cases h:i=j
 ·subst h; rw[if_pos rfl,if_pos (by omega),if_pos rfl]; rfl
 ·rw[if_neg (by omega),if_neg h]
theorem zx7{p:Pl}:zt7 p=some (zx1 p):=by
 unfold zt7 zx1
 cases p.there <;> rfl
theorem zx8{s:List Pl}(hs:zx4 s){e:Evt}(he:zx3 e){β:Type}{f:Bool × List Pl->Option β}:((zun e.e.Kind).bind fun r=>(r.happen s e).bind f)=f (zx2 s e):=by
 have hl:=hs.1;have hx:=zx5 hl he.p
 have hxm:zx0 s e.e.Parcel∈s:=by
  unfold zx0;rw[List.getD_eq_getElem?_getD,List.getElem?_eq_getElem (show e.e.Parcel.toNat < s.length by have:=he.p; omega)];exact List.getElem_mem _
 have hv:=hs.2 _ hxm;unfold zun zx2
 dsimp only
 rcases he.k with k | k | k | k
 ·rw[if_pos k,obs]
  show(zua s e).bind f=_
  unfold zua;rw[zrJ he.p,zrJ hl,hx,obs,zx7,obs]
  cases hst:zx1 (zx0 s e.e.Parcel) with
  | false=>rw[if_neg (show ¬ (false=true) by decide),if_pos rfl]; rfl
  | true=>
   rw[if_pos rfl,if_neg (show ¬ (true=false) by decide),if_pos k]
   by_cases ho:(zx0 s e.e.Parcel).owner=e.e.From
   ·rw[if_pos ho,if_pos ho]; rfl
   ·rw[if_neg ho,if_neg ho]; rfl
 ·rw[if_neg (by omega),if_pos k,obs]
  show(zub s e).bind f=_
  obtain⟨hm,hp⟩:=he.m k;unfold zub;rw[zrJ he.p,zrJ hl,hx,obs,zx7,obs]
  cases hst:zx1 (zx0 s e.e.Parcel) with
  | false=>rw[if_neg (show ¬ (false=true) by decide),if_pos rfl]; rfl
  | true=>
   rw[if_pos rfl,if_neg (show ¬ (true=false) by decide),if_neg (show ¬ e.e.Kind=0 by omega),if_pos k]
   by_cases ho:(zx0 s e.e.Parcel).value<=e.e.Part
   ·rw[if_pos ho,if_pos ho]; rfl
   ·rw[if_neg ho,if_neg ho,zrJ (fI (by omega)),zrJ hm,zx5 (by rw[List.length_set]; exact hl) hm]; rfl
 ·rw[if_neg (by omega),if_neg (by omega),if_pos k,obs]
  show(zuc s e).bind f=_
  obtain⟨hm,hne⟩:=he.o k;unfold zuc;rw[zrJ he.p,zrJ hm,zrJ hl,hx,obs,zx7,obs]
  cases hst:zx1 (zx0 s e.e.Parcel) with
  | false=>rw[if_neg (show ¬ (false=true) by decide),if_pos rfl]; rfl
  | true=>
   rw[if_pos rfl,if_neg (show ¬ (true=false) by decide),if_neg (show ¬ e.e.Kind=0 by omega),if_neg (show ¬ e.e.Kind=1 by omega),if_pos k,zx5 hl hm,obs,zx7,obs]
   cases hst2:zx1 (zx0 s e.e.Other) with
   | false=>rw[if_neg (show ¬ (false=true) by decide),if_pos rfl]; rfl
   | true=>
    rw[if_pos rfl,if_neg (show ¬ (true=false) by decide)]
    by_cases ho:(zx0 s e.e.Parcel).owner=(zx0 s e.e.Other).owner
    ·rw[if_pos ho,if_pos ho]; rfl
    ·rw[if_neg ho,if_neg ho,zx5 (by rw[List.length_set]; exact hl) hm,obs,zx6 hl he.p hm,if_neg (Ne.symm hne)]; rfl
 ·rw[if_neg (by omega),if_neg (by omega),if_neg (by omega),if_pos k,obs]
  show(zud s e).bind f=_
  unfold zud;rw[zrJ he.p,zrJ hl,hx,obs,zx7,obs]
  cases hst:zx1 (zx0 s e.e.Parcel) with
  | false=>rw[if_neg (show ¬ (false=true) by decide),if_pos rfl]; rfl
  | true=>
   rw[if_pos rfl,if_neg (show ¬ (true=false) by decide),if_neg (show ¬ e.e.Kind=0 by omega),if_neg (show ¬ e.e.Kind=1 by omega),if_neg (show ¬ e.e.Kind=2 by omega)]
   by_cases ho:e.on < (zx0 s e.e.Parcel).sown
   ·rw[if_pos ho,if_pos ho]; rfl
   ·rw[if_neg ho,if_neg ho]; rfl
theorem zx4.set{s:List Pl}(h:zx4 s){i:Nat}{v:Pl}(hv:0<=v.value/\v.value<=1000):zx4 (s.set i v):=
 ⟨by rw[List.length_set]; exact h.1,fun p hp=>by
  rcases List.mem_or_eq_of_mem_set hp with h' | h'
  ·exact h.2 p h'
  ·rw[h']; exact hv⟩
theorem zx4.at{s:List Pl}(h:zx4 s)(i:Int):0<=(zx0 s i).value/\(zx0 s i).value<=1000:=by
 unfold zx0;rw[List.getD_eq_getElem?_getD]
 cases hg:s[i.toNat]? with
 | none=>exact⟨by decide,by decide⟩
 | some x=>exact h.2 x (List.mem_of_getElem? hg)
theorem zx9{s:List Pl}(hs:zx4 s){e:Evt}(he:zx3 e):zx4 (zx2 s e).2:=by
 have hv:=hs.at e.e.Parcel;have hv2:=hs.at e.e.Other;unfold zx2
 dsimp only
 split
 ·exact hs
 split
 ·split
  ·exact hs.set hv
  ·exact hs
 split
 ·rename_i k1
  obtain⟨_,hp⟩:=he.m k1
  split
  ·exact hs
  ·exact(hs.set (by dsimp only; omega)).set (by dsimp only; omega)
 split
 ·split
  ·exact hs
  split
  ·exact hs
  ·exact(hs.set (by dsimp only; exact hv)).set (by dsimp only; exact hv2)
 split
 ·exact hs
 ·exact hs.set hv
def stepsN(day:Int):List Evt->List Pl->List Pl->List Pl × Bool
 | [],out,_=>(out,true)
 | e::l,out,now=>if (zx2 now e).1=true then stepsN day l (if e.on<=day then (zx2 now e).2 else out) (zx2 now e).2 else (zxZ,false)
theorem zya:zx4 zxZ:=⟨rfl,fun p hp=>by rw[List.eq_of_mem_replicate hp]; exact⟨by decide,by decide⟩⟩
theorem zyb{day:Int}:∀{l:List Evt} {out now:List Pl},(∀e∈l,zx3 e)->zx4 out->zx4 now->zx4 (stepsN day l out now).1
 | [],_,_,_,h,_=>h
 | e::l,out,now,hl,h,hn=>by
  unfold stepsN;have h2:=zx9 hn (hl e (List.mem_cons_self ..))
  split
  ·refine zyb (fun e he=>hl e (List.mem_cons_of_mem _ he)) ?_ h2
   split
   ·exact h2
   ·exact h
  ·exact zya
theorem zyc{day:Int}{L:List Evt}(hL:∀e∈L,zx3 e)(hln:L.length<=1000):∀(d k:Nat) (out now:List Pl),k<=L.length->L.length - k < d->zx4 out->zx4 now->zuw day L d out now (k:Int)=some (stepsN day (L.drop k) out now)
 | 0,_,_,_,_,h,_,_=>by omega
 | d+1,k,out,now,hk,h,ho,hn=>by
  rw[zuw]
  by_cases hkn:k < L.length
  ·have hg:=List.getElem?_eq_getElem hkn;have he:=hL _ (List.getElem_mem hkn);have h2:=zx9 hn he;rw[if_pos (by omega),zsy hg,obs,zx8 hn he,List.drop_eq_getElem_cons hkn,stepsN]
   by_cases hb:(zx2 now L[k]).1=true
   ·rw[if_pos hb,if_pos hb]
    by_cases hd:L[k].on<=day
    ·rw[if_pos hd,zrJ ⟨ho.1,h2.1⟩,zrJ (fI (by omega)),show(k:Int)+1=((k+1:Nat):Int) by omega,zyc hL hln d (k+1) _ _ (by omega) (by omega) h2 h2,if_pos hd]
    ·rw[if_neg hd,zrJ (fI (by omega)),show(k:Int)+1=((k+1:Nat):Int) by omega,zyc hL hln d (k+1) _ _ (by omega) (by omega) ho h2,if_neg hd]
   ·rw[if_neg hb,if_neg hb]; rfl
  ·rw[if_neg (by omega),List.drop_eq_nil_of_le (by omega)]; rfl
def zyd(p:Pc)(s:Int):Pl:={ owner:=p.Owner,value:=p.Value,there:=true,harvested:=false,sown:=s }
def zye:List Pc->List Int->List Pl
 | p::ps,s::ss=>zyd p s::zye ps ss
 | _,_=>[]
theorem zyf:∀{ps:List Pc} {ss:List Int},ss.length=ps.length->(zye ps ss).length=ps.length
 | [],_,_=>rfl
 | _::_,[],h=>by cases h
 | p::ps,s::ss,h=>by simp[zye,zyf (Nat.succ.inj h)]
def zyg(b:Boo)(sown:List Int):List Pl:=zye b.Parcels sown++List.replicate (10 - b.Parcels.length) pl0
theorem zyh{b:Boo}{sown:List Int}(hl:b.Parcels.length<=4)(hs:sown.length=b.Parcels.length)(hP:∀p∈b.Parcels,zwL b p):zx4 (zyg b sown):=by
 unfold zyg;refine⟨by rw[List.length_append,zyf hs,List.length_replicate]; omega,fun p hp=>?_⟩
 rcases List.mem_append.1 hp with h | h
 ·have key:∀(ps:List Pc) (ss:List Int),p∈zye ps ss->∃q∈ps,p.value=q.Value:=by
   intro ps
   induction ps with
   | nil=>intro ss h; simp[zye] at h
   | cons q ps ih=>
    intro ss h
    cases ss with
    | nil=>simp[zye] at h
    | cons s ss=>
     rcases List.mem_cons.1 h with rfl | h
     ·exact⟨q,List.mem_cons_self ..,rfl⟩
     ·obtain⟨q',h1,h2⟩:=ih ss h; exact⟨q',List.mem_cons_of_mem _ h1,h2⟩
  obtain⟨q,h1,h2⟩:=key _ _ h;rw[h2]; exact(hP q h1).2.1
 ·rw[List.eq_of_mem_replicate h]; exact⟨by decide,by decide⟩
theorem zyi{w:Wk}{b:Boo}{O:O6}(hw:zxj w b O){sown:List Int}(hl:b.Parcels.length<=4)(hs:sown.length=b.Parcels.length):zuf w sown=some (zyg b sown):=by
 have e1:=hw.eb;subst e1
 have key:∀(d k:Nat) (pre:List Pl),k<=w.b.Parcels.length->w.b.Parcels.length - k < d->pre.length=k->zue w sown d (pre++List.replicate (10 - k) pl0) (k:Int)=some (pre++zye (w.b.Parcels.drop k) (sown.drop k)++List.replicate (10 - w.b.Parcels.length) pl0):=by
  intro d
  induction d with
  | zero=>intro k _ _ h; omega
  | succ d ih=>
   intro k pre hk h hp;rw[zue]
   by_cases hkn:k < w.b.Parcels.length
   ·have hg:=List.getElem?_eq_getElem hkn;have hg2:=List.getElem?_eq_getElem (l:=sown) (show k < sown.length by omega)
    have hlen:(pre++List.replicate (10 - k) pl0).length=10:=by rw[List.length_append,List.length_replicate]; omega
    have hset:(pre++List.replicate (10 - k) pl0).set (Int.toNat (k:Int)) (zyd w.b.Parcels[k] sown[k])=(pre++[zyd w.b.Parcels[k] sown[k]])++List.replicate (10 - (k+1)) pl0:=by
     rw[Int.toNat_natCast,List.set_append_right _ _ (by omega),hp,Nat.sub_self,show 10 - k=(10 - (k+1))+1 by omega,List.replicate_succ,List.append_assoc]; rfl
    rw[if_pos (by omega),zsy hg,obs,zsy hg2,obs,zrJ (by omega),zrJ hlen,zx5 hlen (by omega),obs,zrJ (fI (by omega)),show(k:Int)+1=((k+1:Nat):Int) by omega];refine(congrArg (fun y=>zue w sown d y ((k+1:Nat):Int)) hset).trans ?_;rw[ih (k+1) _ (by omega) (by omega) (by rw[List.length_append,hp]; rfl),List.drop_eq_getElem_cons hkn,List.drop_eq_getElem_cons (l:=sown) (show k < sown.length by omega),zye,List.append_assoc pre]; rfl
   ·rw[if_neg (by omega)]
    have hk':k=w.b.Parcels.length:=by omega
    subst hk';rw[List.drop_length]
    show some _=some (pre++[]++_)
    rw[List.append_nil]
 exact key (w.b.Parcels.length+1) 0 [] (Nat.zero_le _) (by omega) rfl
theorem zyj{b:Boo}(h1:b.Entries.length<=6)(h2:b.Parcels.length<=4)(hE:∀e∈b.Entries,zwK b e){D:Nat->Int}{o:Nat->Bool}:∀x∈evI b D o,zx3 x/\x.e.Parcel < zwI b/\(x.e.Kind=1->x.makes < zwI b)/\(x.e.Kind=2->x.e.Other < zwI b):=by
 intro x hx;obtain⟨i,a1,a2,rfl⟩:=zxX.1 hx;have hg:=List.getElem?_eq_getElem a1;have he:zxg b i=b.Entries[i]:=zxh hg;obtain⟨d1,d2,d3⟩:=hE _ (List.getElem_mem a1);rw[<- he] at d1 d2 d3;have hr:=zwM (l:=b.Entries);unfold InN at d2;unfold zgo at d3;have hev:zwI b=(b.Parcels.length:Int)+zwH b.Entries:=rfl
 have hm:(zxg b i).Kind=1->0<=mkC b i/\mkC b i < zwI b:=fun k=>by
  unfold mkC;rw[if_pos k];have hr2:=zwM (l:=b.Entries.take i);have hst:=zxk hg;rw[<- he,if_pos k] at hst
  have hmono:zwH (b.Entries.take (i+1))<=zwH b.Entries:=by
   unfold zwH;have:=(List.take_sublist (i+1) b.Entries).filter (fun e=>decide (e.Kind=1));have:=this.length_le
   omega
  omega
 refine⟨⟨by show 0<=(zxg b i).Parcel/\(zxg b i).Parcel < 10; omega,?_,fun k=>?_,fun k=>?_⟩,by show(zxg b i).Parcel < _; omega,fun k=>(hm k).2,fun k=>?_⟩
 ·rcases d3 with h | h | h | h
  ·exact .inl h.1
  ·exact .inr (.inl h.1)
  ·exact .inr (.inr (.inl h.1))
  ·exact .inr (.inr (.inr h.1))
 ·have hm:=hm k;have k:(zxg b i).Kind=1:=k;refine⟨⟨hm.1,by show mkC b i < 10; omega⟩,?_⟩
  rcases d3 with h | h | h | h
  ·omega
  ·exact h.2.2.2.2
  ·omega
  ·omega
 ·have k:(zxg b i).Kind=2:=k
  rcases d3 with h | h | h | h
  ·omega
  ·omega
  ·have h4:=h.2.2.2.2.1; unfold InN at h4; exact⟨by show 0<=(zxg b i).Other/\(zxg b i).Other < 10; omega,h.2.2.2.2.2⟩
  ·omega
 ·have k:(zxg b i).Kind=2:=k
  rcases d3 with h | h | h | h
  ·omega
  ·omega
  ·have h4:=h.2.2.2.2.1; unfold InN at h4; show(zxg b i).Other < _; omega
  ·omega
theorem zyk{w:Wk}{b:Boo}{O:O6}(hw:zxj w b O)(h1:b.Entries.length<=6)(h2:b.Parcels.length<=4)(hP:∀p∈b.Parcels,zwL b p)(hE:∀e∈b.Entries,zwK b e){t:Tr}(hd:t.Days.length=b.Entries.length)(hs:t.Sown.length=b.Parcels.length){day:Int} :
  zux w t day=some (stepsN day (zxI (evI b (dF t.Days) (zxf O))) (zyg b t.Sown) (zyg b t.Sown))/\zx4 (stepsN day (zxI (evI b (dF t.Days) (zxf O))) (zyg b t.Sown) (zyg b t.Sown)).1:=by
 have hst:=zyh h2 hs hP;have hev:∀e∈zxI (evI b (dF t.Days) (zxf O)),zx3 e:=fun e he=>(zyj h1 h2 hE e (zxO.mem_iff.1 he)).1
 have hlen:(zxI (evI b (dF t.Days) (zxf O))).length<=6:=by rw[zxP]; exact Nat.le_trans zxW h1
 refine⟨?_,zyb hev hst hst⟩;unfold zux;rw[zyi hw h2 hs,obs,zrJ ⟨rfl,hst.1⟩,zxY hw h1 hd,obs];exact zyc hev (by omega) _ 0 _ _ (Nat.zero_le _) (Nat.lt_succ_self _) hst hst
theorem zyl:∀{rs:List Rg} {xs:List Int},inR rs xs↔xs.length=rs.length/\∀(j:Nat) r x,rs[j]? = some r->xs[j]? = some x->r.Lo<=x/\x<=r.Hi
 | [],[]=>⟨fun _=>⟨rfl,fun j r x h=>by simp at h⟩,fun _=>trivial⟩
 | [],_::_=>⟨fun h=>h.elim,fun h=>by simp at h⟩
 | _::_,[]=>⟨fun h=>h.elim,fun h=>by simp at h⟩
 | r::rs,x::xs=>by
  have ih:=zyl (rs:=rs) (xs:=xs)
  show(r.Lo<=x/\x<=r.Hi)/\inR rs xs↔_
  rw[ih]
  constructor
  ·rintro⟨h1,h2,h3⟩
   refine⟨by simp[h2],fun j r' x' hr hx=>?_⟩
   cases j with
   | zero=>cases hr; cases hx; exact h1
   | succ j=>exact h3 j r' x' hr hx
  ·rintro⟨h1,h2⟩
   exact⟨h2 0 r x rfl rfl,by simpa using h1,fun j r' x' hr hx=>h2 (j+1) r' x' hr hx⟩
def zym(b:Boo)(t:Tr):Prop:=inR (b.Entries.map (·.Day)) t.Days/\inR (b.Parcels.map (·.Sown)) t.Sown
theorem zyn{w:Wk}{b:Boo}{O:O6}(hw:zxj w b O){t:Tr}(h1:b.Entries.length<=100)(h2:b.Parcels.length<=100):Ev (zt6 w t) (zym b t):=by
 have e1:=hw.eb;subst e1;unfold zt6 zym;rw[zyl,zyl,List.length_map,List.length_map]
 by_cases c1:t.Days.length=w.b.Entries.length
 rotate_left
 ·rw[if_neg (by omega)]; exact Ev.ff fun h=>c1 h.1.1
 rw[if_pos (by omega)]
 by_cases c2:t.Sown.length=w.b.Parcels.length
 rotate_left
 ·rw[if_neg (by omega)]; exact Ev.ff fun h=>c2 h.2.1
 rw[if_pos (by omega)]
 have l2:Ev (zt4 w t (t.Sown.length+1) 0) ((∀j,j < t.Sown.length->∀r x,(w.b.Parcels.map (·.Sown))[j]? = some r->t.Sown[j]? = some x->r.Lo<=x/\x<=r.Hi)/\True):=by
  refine Ev.loop (F:=fun d x=>zt4 w t d x) (fin:=some true) (fun d k hk=>?_) (fun d=>by rw[zt4,if_neg (Int.lt_irrefl _)]) (Nat.lt_succ_self _) fun _=>Ev.tt trivial;have hg:=List.getElem?_eq_getElem hk;have hg2:=List.getElem?_eq_getElem (l:=w.b.Parcels) (show k < w.b.Parcels.length by omega)
  have he:(∀r x,(w.b.Parcels.map (·.Sown))[k]? = some r->t.Sown[k]? = some x->r.Lo<=x/\x<=r.Hi)↔InN t.Sown[k] w.b.Parcels[k].Sown.Lo w.b.Parcels[k].Sown.Hi:=by
   rw[List.getElem?_map,hg,hg2];exact⟨fun h=>h _ _ rfl rfl,fun h r x hr hx=>by cases hr; cases hx; exact h⟩
  rw[he]
  show(_->zt4 w t (d+1) (k:Int)=_)/\_
  have e2:zt4 w t (d+1) (k:Int)=(ztC t.Sown[k] w.b.Parcels[k].Sown.Lo w.b.Parcels[k].Sown.Hi).bind fun r=>if r=true then zt4 w t d ((k:Int)+1) else some false:=by
   rw[zt4,if_pos (by omega),zsy hg,obs,zsy hg2,obs,zrJ (fI (by omega))]
  rw[e2];exact zxo.step (by rw[if_pos rfl]) (by rw[if_neg (by simp)])
 have l1:Ev (zt5 w t (t.Days.length+1) false 0) ((∀j,j < t.Days.length->∀r x,(w.b.Entries.map (·.Day))[j]? = some r->t.Days[j]? = some x->r.Lo<=x/\x<=r.Hi)/\((∀j,j < t.Sown.length->∀r x,(w.b.Parcels.map (·.Sown))[j]? = some r->t.Sown[j]? = some x->r.Lo<=x/\x<=r.Hi)/\True)):=by
  refine Ev.loop (F:=fun d x=>zt5 w t d false x) (fin:=zt4 w t (t.Sown.length+1) 0) (fun d k hk=>?_) (fun d=>by rw[zt5,if_neg (Int.lt_irrefl _)]) (Nat.lt_succ_self _) fun _=>l2;have hg:=List.getElem?_eq_getElem hk;have hg2:=List.getElem?_eq_getElem (l:=w.b.Entries) (show k < w.b.Entries.length by omega)
  have he:(∀r x,(w.b.Entries.map (·.Day))[k]? = some r->t.Days[k]? = some x->r.Lo<=x/\x<=r.Hi)↔InN t.Days[k] w.b.Entries[k].Day.Lo w.b.Entries[k].Day.Hi:=by
   rw[List.getElem?_map,hg,hg2];exact⟨fun h=>h _ _ rfl rfl,fun h r x hr hx=>by cases hr; cases hx; exact h⟩
  rw[he]
  show(_->zt5 w t (d+1) false (k:Int)=_)/\_
  have e2:zt5 w t (d+1) false (k:Int)=(ztC t.Days[k] w.b.Entries[k].Day.Lo w.b.Entries[k].Day.Hi).bind fun r=>if r=true then zt5 w t d false ((k:Int)+1) else some false:=by
   rw[zt5,if_pos (by omega),zsy hg,obs,zsy hg2,obs,zrJ (fI (by omega))]
  rw[e2];exact zxo.step (by rw[if_pos rfl]) (by rw[if_neg (by simp)])
 refine l1.imp ⟨fun⟨a,b,_⟩=>⟨⟨c1,fun j r x hr hx=>a j (List.getElem?_eq_some_iff.1 hx).1 r x hr hx⟩,c2,fun j r x hr hx=>b j (List.getElem?_eq_some_iff.1 hx).1 r x hr hx⟩,fun⟨⟨_,a⟩,_,b⟩=>⟨fun j _=>a j,fun j _=>b j,trivial⟩⟩
def zyo(p:Pl)(day:Int):Hd:=if p.there=true then { There:=true,Covered:=zx1 p && decide (p.sown<=day),Owner:=p.owner,Value:=p.value } else hd0
theorem zyp{p:Pl}{day:Int}:zt9 p day=some (zyo p day):=by
 unfold zt9 zyo zt8
 by_cases h:p.there=true
 ·rw[if_pos h,if_pos h,zx7,obs]
  cases hs:zx1 p with
  | true=>rw[if_pos rfl]; rfl
  | false=>rw[if_neg (by simp)]; rfl
 ·rw[if_neg h,if_neg h]; rfl
theorem zyq{day:Int}{r:List Pl × Bool}(hr:r.1.length=10){n:Nat}(hn:n<=10):∀(d k:Nat) (pre:List Hd),k<=n->n - k < d->pre.length=k->zuy day r d (k:Int) (pre++List.replicate (n - k) hd0)=some (pre++(segI (k:Int) (n - k)).map (fun i=>zyo (zx0 r.1 i) day),0)
 | 0,_,_,_,h,_=>by omega
 | d+1,k,pre,hk,h,hp=>by
  rw[zuy]
  have hlen:(pre++List.replicate (n - k) hd0).length=n:=by rw[List.length_append,List.length_replicate]; omega
  by_cases hkn:k < n
  ·have e1:n - k=(n - (k+1))+1:=by omega
   have hset:(pre++List.replicate (n - k) hd0).set (Int.toNat (k:Int)) (zyo (zx0 r.1 (k:Int)) day)=(pre++[zyo (zx0 r.1 (k:Int)) day])++List.replicate (n - (k+1)) hd0:=by
    rw[Int.toNat_natCast,List.set_append_right _ _ (by omega),hp,Nat.sub_self,e1,List.replicate_succ,List.append_assoc]; rfl
   have hx:∃v,idx (pre++List.replicate (n - k) hd0) (k:Int)=some v:=⟨_,zsy (List.getElem?_eq_getElem (by omega))⟩;obtain⟨v,hx⟩:=hx;rw[if_pos (by omega),zrJ (by omega),zrJ hr,zx5 hr (by omega),obs,zyp,obs,hx,obs,zrJ (fI (by omega)),hset,show(k:Int)+1=((k+1:Nat):Int) by omega,zyq hr hn d (k+1) _ (by omega) (by omega) (by rw[List.length_append,hp]; rfl),e1,segI,List.map_cons,List.append_assoc]; rfl
  ·rw[if_neg (by omega),show n - k=0 by omega,segI]; simp
def wkN(b:Boo):Wk:=(ztW b).getD { b:=b,numbers:=0,makes:=⟨0,0,0,0,0,0⟩,out:=zxc }
theorem zyr{b:Boo}(hl:b.Entries.length<=6)(hp:b.Parcels.length<=100):ztW b=some (wkN b)/\zxj (wkN b) b zxc:=by
 obtain⟨w,h1,h2⟩:=zxn hl hp;unfold wkN;rw[h1]; exact⟨rfl,h2⟩
def zys(b:Boo)(t:Tr)(day:Int):List Pl × Bool:=stepsN day (zxI (evI b (dF t.Days) (zxf zxc))) (zyg b t.Sown) (zyg b t.Sown)
theorem zyt{b:Boo}:zxa b=0↔(b.Owners<=4/\b.Parcels.length<=4/\b.Entries.length<=6)/\zw9 b/\zwT 1 (zw5 b)<=1000:=by
 unfold zxa
 by_cases c1:4 < b.Owners\/4 < b.Parcels.length\/6 < b.Entries.length
 ·rw[if_pos c1]; exact⟨fun h=>absurd h (by omega),fun h=>by omega⟩
 ·rw[if_neg c1]
  by_cases c2:zw9 b
  ·rw[if_pos c2]
   by_cases c3:1000 < zwT 1 (zw5 b)
   ·rw[if_pos c3]; exact⟨fun h=>absurd h (by omega),fun h=>by omega⟩
   ·rw[if_neg c3]; exact⟨fun _=>⟨by omega,c2,by omega⟩,fun _=>rfl⟩
  ·rw[if_neg c2]; exact⟨fun h=>absurd h (by omega),fun h=>absurd h.2.1 c2⟩
section
variable {b:Boo} (hb:zsY b)
include hb
theorem zyu(hf:zxa b ≠ 0){t:Tr}{day:Int}:zuz b t day=some ([],zxa b):=by
 unfold zuz;rw[zxG hb,obs,if_neg hf]
theorem zyv(hf:zxa b=0){t:Tr}{day:Int}(ht:zym b t)(hd:InN day 0 b.Last):zuz b t day=some (if (zys b t day).2=true then ((segI 0 (zwI b).toNat).map (fun i=>zyo (zx0 (zys b t day).1 i) day),0) else ([],11))/\zx4 (zys b t day).1:=by
 obtain⟨⟨k1,k2,k3⟩,⟨k4,k5,k6⟩,k7⟩:=zyt.1 hf;obtain⟨w1,w2⟩:=zyr (b:=b) k3 (by omega);have hr:=zwM (l:=b.Entries);have hev:zwI b=(b.Parcels.length:Int)+zwH b.Entries:=rfl;obtain⟨p1,p2⟩:=zyk w2 k3 k2 k5 k6 (t:=t) (day:=day) (by have:=zwG ht.1; rw[List.length_map] at this; exact this) (by have:=zwG ht.2; rw[List.length_map] at this; exact this);refine⟨?_,p2⟩;unfold zuz;rw[zxG hb,obs,if_pos hf,w1,obs,(zyn w2 (by omega) (by omega)).some_of ht,obs,if_pos rfl,zxp.some_of (by rw[w2.eb]; exact hd),obs,if_pos rfl,p1,obs]
 show(if (zys b t day).2=true then _ else _)=_
 by_cases h2:(zys b t day).2=true
 ·rw[if_pos h2,if_pos h2,w2.n,zrJ (by omega)];exact zyq p2.1 (n:=(zwI b).toNat) (by omega) 1000000 0 [] (Nat.zero_le _) (by omega) rfl
 ·rw[if_neg h2,if_neg h2]
theorem zyw(hf:zxa b=0){t:Tr}{day:Int}(h:¬ (zym b t/\InN day 0 b.Last)):zuz b t day=some ([],2):=by
 obtain⟨⟨k1,k2,k3⟩,⟨k4,k5,k6⟩,k7⟩:=zyt.1 hf;obtain⟨w1,w2⟩:=zyr (b:=b) k3 (by omega);unfold zuz;rw[zxG hb,obs,if_pos hf,w1,obs]
 refine(zyn w2 (by omega) (by omega)).pick (fun h1=>?_) fun h1=>by rw[if_neg (by simp)]
 rw[if_pos rfl]
 exact zxp.pick (fun h2=>absurd ⟨h1,by rw[w2.eb] at h2; exact h2⟩ h) fun h2=>by rw[if_neg (by simp)]
end
end
end Go.Proofs.YtlkgdadfbfafcaaGreat

namespace Go.Proofs.YtlkgdadfbfafcaaGreat
open _root_.Go.Proofs.Tryz
open Go.Abs
set_option maxRecDepth 100000
noncomputable section
def onB(d:Nat)(e:Evt):Bool:=decide (e.on=(d:Int))
def bkN(l:List Evt):Nat->List Evt
 | 0=>[]
 | n+1=>bkN l n++l.filter (onB n)
theorem zyx{l:List Evt}{x:Evt}:∀{n:Nat},x∈bkN l n↔x∈l/\0<=x.on/\x.on < n
 | 0=>⟨fun h=>by simp[bkN] at h,fun h=>by omega⟩
 | n+1=>by
  rw[bkN,List.mem_append,zyx (n:=n),List.mem_filter];unfold onB;rw[decide_eq_true_iff]
  constructor
  ·rintro (⟨h1,h2,h3⟩ | ⟨h1,h2⟩)
   ·exact⟨h1,h2,by omega⟩
   ·exact⟨h1,by omega,by omega⟩
  ·rintro⟨h1,h2,h3⟩
   by_cases h:x.on=n
   ·exact .inr ⟨h1,h⟩
   ·exact .inl ⟨h1,h2,by omega⟩
theorem zyy{α:Type}{P:List α->Prop}(h0:P [])(h1:∀q x,P q->P (q++[x]))(l:List α):P l:=by
 rw[<- List.reverse_reverse l]
 induction l.reverse with
 | nil=>exact h0
 | cons a l ih=>rw[List.reverse_cons]; exact h1 _ _ ih
theorem zyz{p:List Evt}{a:Evt}:∀{q:List Evt},(∀x∈q,a.on < x.on)->zxH (p++q) a=zxH p a++q:=by
 intro q;refine zyy (P:=fun q=>(∀x∈q,a.on < x.on)->zxH (p++q) a=zxH p a++q) (fun _=>by rw[List.append_nil,List.append_nil]) (fun q x ih h=>?_) q;rw[<- List.append_assoc,zxJ,if_pos (h x (by simp)),ih fun y hy=>h y (by simp[hy]),List.append_assoc]
theorem zyA{a:Evt}{p:List Evt}:(∀x∈p,x.on<=a.on)->zxH p a=p++[a]:=by
 refine zyy (P:=fun p=>(∀x∈p,x.on<=a.on)->zxH p a=p++[a]) (fun _=>rfl) (fun q x _ h=>?_) p;have:=h x (by simp);rw[zxJ,if_neg (by omega),List.append_assoc]; rfl
theorem zyB{l:List Evt}{a:Evt}(h0:0<=a.on):∀{n:Nat},bkN (l++[a]) n=if a.on < n then zxH (bkN l n) a else bkN l n
 | 0=>by rw[if_neg (by omega)]; rfl
 | n+1=>by
  rw[bkN,bkN,zyB h0 (n:=n),List.filter_append]
  by_cases h1:a.on < n
  ·have e:[a].filter (onB n)=[]:=by unfold onB; rw[List.filter_cons,if_neg (by rw[decide_eq_true_iff]; omega)]; rfl
   rw[if_pos h1,if_pos (by omega),e,List.append_nil,zyz fun x hx=>?_];have:=(List.mem_filter.1 hx).2;unfold onB at this;rw[decide_eq_true_iff] at this; omega
  ·rw[if_neg h1]
   by_cases h2:a.on=n
   ·have e:[a].filter (onB n)=[a]:=by unfold onB; rw[List.filter_cons,if_pos (by rw[decide_eq_true_iff]; omega)]; rfl
    rw[if_pos (by omega),e,<- List.append_assoc];refine(zyA fun x hx=>?_).symm
    rcases List.mem_append.1 hx with h | h
    ·have:=zyx.1 h; omega
    ·have:=(List.mem_filter.1 h).2;unfold onB at this;rw[decide_eq_true_iff] at this; omega
   ·have e:[a].filter (onB n)=[]:=by unfold onB; rw[List.filter_cons,if_neg (by rw[decide_eq_true_iff]; omega)]; rfl
    rw[if_neg (by omega),e,List.append_nil]
theorem zyC:∀{n:Nat},bkN [] n=[]
 | 0=>rfl
 | n+1=>by rw[bkN,zyC]; rfl
theorem zyD{N:Nat}:∀{l q:List Evt},(∀x∈l,0<=x.on/\x.on < N)->l.foldl zxH (bkN q N)=bkN (q++l) N
 | [],q,_=>by rw[List.append_nil]; rfl
 | a::l,q,h=>by
  have ha:=h a (List.mem_cons_self ..)
  show l.foldl zxH (zxH (bkN q N) a)=_
  have e:=zyB (l:=q) ha.1 (n:=N);rw[if_pos ha.2] at e;rw[<- e,zyD fun x hx=>h x (List.mem_cons_of_mem _ hx),List.append_assoc]; rfl
theorem zyE{N:Nat}{l:List Evt}(h:∀x∈l,0<=x.on/\x.on < N):zxI l=bkN l N:=by
 have:=zyD (q:=[]) h;rw[zyC,List.nil_append] at this;exact this
theorem zyF{l:List Evt}{n:Nat}:∀{k:Nat},∃t,bkN l (n+k)=bkN l n++t/\∀x∈t,(n:Int)<=x.on
 | 0=>⟨[],by rw[List.append_nil]; rfl,fun x h=>by simp at h⟩
 | k+1=>by
  obtain⟨t,h1,h2⟩:=zyF (l:=l) (n:=n) (k:=k);refine⟨t++l.filter (onB (n+k)),by rw[<- Nat.add_assoc,bkN,h1,List.append_assoc],fun x hx=>?_⟩
  rcases List.mem_append.1 hx with h | h
  ·exact h2 x h
  ·have:=(List.mem_filter.1 h).2;unfold onB at this;rw[decide_eq_true_iff] at this; omega
def zyG:List Evt->List Pl->Option (List Pl)
 | [],s=>some s
 | e::l,s=>if (zx2 s e).1=true then zyG l (zx2 s e).2 else none
theorem zyH{day:Int}:∀{l k:List Evt} {s:List Pl},(∀x∈l,x.on<=day)->stepsN day (l++k) s s=match zyG l s with | some s'=>stepsN day k s' s' | none=>(zxZ,false)
 | [],_,_,_=>rfl
 | e::l,k,s,h=>by
  have he:=h e (List.mem_cons_self ..)
  show(if _ then _ else _)=match (if _ then _ else _:Option (List Pl)) with | some s'=>_ | none=>_
  by_cases hc:(zx2 s e).1=true
  ·rw[if_pos hc,if_pos hc,if_pos he];exact zyH fun x hx=>h x (List.mem_cons_of_mem _ hx)
  ·rw[if_neg hc,if_neg hc]
theorem zyI{day:Int}:∀{l:List Evt} {o s:List Pl},(∀x∈l,day < x.on)->stepsN day l o s=match zyG l s with | some _=>(o,true) | none=>(zxZ,false)
 | [],_,_,_=>rfl
 | e::l,o,s,h=>by
  have he:=h e (List.mem_cons_self ..)
  show(if _ then _ else _)=match (if _ then _ else _:Option (List Pl)) with | some s'=>_ | none=>_
  by_cases hc:(zx2 s e).1=true
  ·rw[if_pos hc,if_pos hc,if_neg (by omega)];exact zyI fun x hx=>h x (List.mem_cons_of_mem _ hx)
  ·rw[if_neg hc,if_neg hc]
def fd0:Fd:={ There:=false,Gone:=false,Owner:=0,Value:=0,Sown:=0 }
def plF(x:Fd):Pl:={ owner:=x.Owner,value:=x.Value,there:=x.There,harvested:=x.Gone,sown:=x.Sown }
def sOf(l:List Fd):List Pl:=l.map plF++List.replicate (10 - l.length) pl0
def zyJ(l:List Fd)(i:Int):Fd:=l.getD i.toNat fd0
def zyK(x:Fd):Bool:=x.There && !x.Gone
def zyL(l:List Fd)(e:Evt):Bool × List Fd:=
 let x:=zyJ l e.e.Parcel
 if zyK x=false then (false,l)
 else if e.e.Kind=0 then (if x.Owner=e.e.From then (true,l.set e.e.Parcel.toNat { x with Owner:=e.e.To }) else (false,l))
 else if e.e.Kind=1 then (if x.Value<=e.e.Part then (false,l) else (true,(l.set e.e.Parcel.toNat { x with Value:=x.Value - e.e.Part }).set e.makes.toNat { x with Value:=e.e.Part }))
 else if e.e.Kind=2 then (let y:=zyJ l e.e.Other; if zyK y=false then (false,l) else if x.Owner=y.Owner then (false,l) else (true,(l.set e.e.Parcel.toNat { x with Owner:=y.Owner }).set e.e.Other.toNat { y with Owner:=x.Owner }))
 else (if e.on < x.Sown then (false,l) else (true,l.set e.e.Parcel.toNat { x with Gone:=true }))
structure EvF (n:Nat) (e:Evt):Prop where
 p:0<=e.e.Parcel/\e.e.Parcel < n
 k:e.e.Kind=0\/e.e.Kind=1\/e.e.Kind=2\/e.e.Kind=3
 m:e.e.Kind=1->(0<=e.makes/\e.makes < n)/\1<=e.e.Part/\e.e.Part<=1000
 o:e.e.Kind=2->(0<=e.e.Other/\e.e.Other < n)/\e.e.Other ≠ e.e.Parcel
theorem zyM{l:List Fd}{i:Int}(hi:0<=i/\i < l.length):zx0 (sOf l) i=plF (zyJ l i):=by
 have hk:i.toNat < l.length:=by omega
 unfold zx0 sOf zyJ;rw[List.getD_eq_getElem?_getD,List.getD_eq_getElem?_getD,List.getElem?_append_left (by rw[List.length_map]; exact hk),List.getElem?_map,List.getElem?_eq_getElem hk]; rfl
theorem zyN{l:List Fd}{i:Int}{v:Fd}{p:Pl}(hp:p=plF v)(hi:0<=i/\i < l.length):(sOf l).set i.toNat p=sOf (l.set i.toNat v):=by
 subst hp;unfold sOf;rw[List.set_append_left _ _ (by rw[List.length_map]; omega),List.length_set,List.map_set]
theorem zyO{l:List Fd}{i j:Int}{v w:Fd}{p q:Pl}(hp:p=plF v)(hq:q=plF w)(hi:0<=i/\i < l.length)(hj:0<=j/\j < l.length):((sOf l).set i.toNat p).set j.toNat q=sOf ((l.set i.toNat v).set j.toNat w):=by
 rw[zyN hp hi,zyN hq (by rw[List.length_set]; exact hj)]
theorem zyP{l:List Fd}{e:Evt}:(zyL l e).2.length=l.length:=by
 unfold zyL
 dsimp only
 repeat' split
 all_goals simp only[List.length_set]
theorem zyQ{l:List Fd}{e:Evt}(he:EvF l.length e):zx2 (sOf l) e=((zyL l e).1,sOf (zyL l e).2):=by
 have hst:∀x:Fd,zx1 (plF x)=zyK x:=fun _=>rfl;unfold zx2 zyL
 dsimp only
 rw[zyM he.p,hst]
 by_cases c0:zyK (zyJ l e.e.Parcel)=false
 ·rw[if_pos c0,if_pos c0]
 rw[if_neg c0,if_neg c0]
 by_cases k0:e.e.Kind=0
 ·rw[if_pos k0,if_pos k0]
  by_cases c1:(zyJ l e.e.Parcel).Owner=e.e.From
  ·rw[if_pos c1,if_pos (show(plF (zyJ l e.e.Parcel)).owner=e.e.From from c1)]
   exact congrArg (Prod.mk true) (zyN (v:={ zyJ l e.e.Parcel with Owner:=e.e.To }) rfl he.p)
  ·rw[if_neg c1,if_neg (show ¬ (plF (zyJ l e.e.Parcel)).owner=e.e.From from c1)]
 rw[if_neg k0,if_neg k0]
 by_cases k1:e.e.Kind=1
 ·have hm:=(he.m k1).1;rw[if_pos k1,if_pos k1]
  by_cases c1:(zyJ l e.e.Parcel).Value<=e.e.Part
  ·rw[if_pos c1,if_pos (show(plF (zyJ l e.e.Parcel)).value<=e.e.Part from c1)]
  ·rw[if_neg c1,if_neg (show ¬ (plF (zyJ l e.e.Parcel)).value<=e.e.Part from c1)]
   exact congrArg (Prod.mk true) (zyO (v:={ zyJ l e.e.Parcel with Value:=(zyJ l e.e.Parcel).Value - e.e.Part }) (w:={ zyJ l e.e.Parcel with Value:=e.e.Part }) rfl rfl he.p hm)
 rw[if_neg k1,if_neg k1]
 by_cases k2:e.e.Kind=2
 ·have hm:=(he.o k2).1;rw[if_pos k2,if_pos k2,zyM hm,hst]
  by_cases c1:zyK (zyJ l e.e.Other)=false
  ·rw[if_pos c1,if_pos c1]
  rw[if_neg c1,if_neg c1]
  by_cases c2:(zyJ l e.e.Parcel).Owner=(zyJ l e.e.Other).Owner
  ·rw[if_pos c2,if_pos (show(plF (zyJ l e.e.Parcel)).owner=(plF (zyJ l e.e.Other)).owner from c2)]
  ·rw[if_neg c2,if_neg (show ¬ (plF (zyJ l e.e.Parcel)).owner=(plF (zyJ l e.e.Other)).owner from c2)]
   exact congrArg (Prod.mk true) (zyO (v:={ zyJ l e.e.Parcel with Owner:=(zyJ l e.e.Other).Owner }) (w:={ zyJ l e.e.Other with Owner:=(zyJ l e.e.Parcel).Owner }) rfl rfl he.p hm)
 rw[if_neg k2,if_neg k2]
 by_cases c1:e.on < (zyJ l e.e.Parcel).Sown
 ·rw[if_pos c1,if_pos (show e.on < (plF (zyJ l e.e.Parcel)).sown from c1)]
 ·rw[if_neg c1,if_neg (show ¬ e.on < (plF (zyJ l e.e.Parcel)).sown from c1)]
  exact congrArg (Prod.mk true) (zyN (v:={ zyJ l e.e.Parcel with Gone:=true }) rfl he.p)
def zyR:List Evt->List Fd->Option (List Fd)
 | [],s=>some s
 | e::l,s=>if (zyL s e).1=true then zyR l (zyL s e).2 else none
theorem zyS:∀{L:List Evt} {l:List Fd},(∀e∈L,EvF l.length e)->zyG L (sOf l)=(zyR L l).map sOf
 | [],_,_=>rfl
 | e::L,l,h=>by
  show(if _ then _ else _)=(if _ then _ else _:Option _).map _
  rw[zyQ (h e (List.mem_cons_self ..))]
  by_cases hc:(zyL l e).1=true
  ·rw[if_pos hc,if_pos hc]
   exact zyS fun x hx=>by rw[zyP]; exact h x (List.mem_cons_of_mem _ hx)
  ·rw[if_neg hc,if_neg hc]; rfl
theorem zyT:∀{l k:List Evt} {s:List Fd},zyR (l++k) s=(zyR l s).bind (zyR k)
 | [],_,_=>rfl
 | e::l,k,s=>by
  show(if _ then _ else _)=(if _ then _ else _:Option _).bind _
  split
  ·exact zyT
  ·rfl
theorem zyU:∀{L:List Evt} {l l':List Fd},zyR L l=some l'->l'.length=l.length
 | [],l,l',h=>by cases h; rfl
 | e::L,l,l',h=>by
  have h:(if _ then _ else _)=some l':=h
  split at h
  ·rw[zyU h,zyP]
  ·cases h
theorem zyV{L:List Evt}{N:Nat}{l:List Fd}{d:Nat}(hd:d < N)(hL:∀x∈L,0<=x.on/\x.on < N)(hE:∀e∈L,EvF l.length e) :
  stepsN (d:Int) (zxI L) (sOf l) (sOf l)=match zyR (bkN L (d+1)) l with
   | some s=>if (zyR (bkN L N) l).isSome then (sOf s,true) else (zxZ,false)
   | none=>(zxZ,false):=by
 obtain⟨t,h1,h2⟩:=zyF (l:=L) (n:=d+1) (k:=N - (d+1));rw[show d+1+(N - (d+1))=N by omega] at h1;have hm:∀e∈bkN L N,EvF l.length e:=fun e he=>hE e (zyx.1 he).1;rw[zyE hL,h1];rw[h1] at hm;rw[zyH fun x hx=>by have:=zyx.1 hx; omega,zyS fun x hx=>hm x (List.mem_append_left _ hx),zyT]
 cases hr:zyR (bkN L (d+1)) l with
 | none=>rfl
 | some s=>
  show stepsN (d:Int) t (sOf s) (sOf s)=if (zyR t s).isSome=true then (sOf s,true) else (zxZ,false)
  rw[zyI fun x hx=>by have:=h2 x hx; omega,zyS fun x hx=>by rw[zyU hr]; exact hm x (List.mem_append_right _ hx)]
  cases zyR t s <;> rfl
def fdP:List Pc->List Int->List Fd
 | p::ps,s::ss=>{ There:=true,Gone:=false,Owner:=p.Owner,Value:=p.Value,Sown:=s } :: fdP ps ss
 | _,_=>[]
theorem zyW:∀{ps:List Pc} {ss:List Int},ss.length=ps.length->(fdP ps ss).length=ps.length
 | [],_,_=>rfl
 | _::_,[],h=>by cases h
 | p::ps,s::ss,h=>by simp[fdP,zyW (Nat.succ.inj h)]
theorem zyX:∀{ps:List Pc} {ss:List Int},zye ps ss=(fdP ps ss).map plF
 | [],_=>rfl
 | _::_,[]=>rfl
 | p::ps,s::ss=>by rw[zye,fdP,List.map_cons,zyX]; rfl
def zyY(b:Boo)(S:List Int):List Fd:=fdP b.Parcels S++List.replicate (zwH b.Entries).toNat fd0
theorem zyZ{b:Boo}{S:List Int}(hs:S.length=b.Parcels.length):((zyY b S).length:Int)=zwI b:=by
 have:=zwM (l:=b.Entries);unfold zyY zwI;rw[List.length_append,zyW hs,List.length_replicate]; omega
theorem zy0{b:Boo}{S:List Int}(hs:S.length=b.Parcels.length)(h2:b.Parcels.length<=4)(h1:b.Entries.length<=6):zyg b S=sOf (zyY b S):=by
 have:=zwM (l:=b.Entries);unfold zyg sOf zyY;rw[zyX,List.map_append,List.map_replicate,List.length_append,zyW hs,List.length_replicate,List.append_assoc]
 show _=_++(List.replicate _ pl0++_)
 rw[List.replicate_append_replicate,show(zwH b.Entries).toNat+(10 - (b.Parcels.length+(zwH b.Entries).toNat))=10 - b.Parcels.length by omega]
theorem zy1{l:List Fd}{i:Int}(hi:0<=i/\i < l.length):idx l i=some (zyJ l i):=by
 have hk:i.toNat < l.length:=by omega
 have hg:=List.getElem?_eq_getElem hk;unfold zyJ;rw[List.getD_eq_getElem?_getD,hg];have:=zsy hg;rw[show((i.toNat:Nat):Int)=i by omega] at this;exact this
theorem zy2{l:List Fd}{i j:Int}(hi:0<=i/\i < l.length)(hj:0<=j/\j < l.length){v:Fd}:zyJ (l.set i.toNat v) j=if i=j then v else zyJ l j:=by
 unfold zyJ;rw[List.getD_eq_getElem?_getD,List.getD_eq_getElem?_getD,List.getElem?_set]
 by_cases h:i=j
 ·subst h; rw[if_pos rfl,if_pos (by omega),if_pos rfl]; rfl
 ·rw[if_neg (by omega),if_neg h]
theorem zy3{l:List Fd}(hs:zx4 (sOf l)){i:Int}(hi:0<=i/\i < l.length):0<=(zyJ l i).Value/\(zyJ l i).Value<=1000:=by
 have:=hs.at i;rw[zyM hi] at this;exact this
theorem zy4{b:Boo}{i:Nat}(hi:i<=b.Entries.length)(hl:b.Entries.length<=100)(hp:b.Parcels.length<=100):zta b (i:Int)=some ((b.Parcels.length:Int)+zwH (b.Entries.take i)):=by
 unfold zta;have:=zwP hl (n:=(i:Int)) rfl hi hp ((i:Int).toNat+1) 0 (Nat.zero_le _) (by omega);have h0:zwH (b.Entries.take 0)=0:=rfl;rw[h0,Int.add_zero] at this;exact this
theorem zy5{b:Boo}{l:List Fd}{e:Evt}{i:Nat}(hg:b.Entries[i]? = some e.e)(em:e.e.Kind=1->zta b (i:Int)=some e.makes)(hs:zx4 (sOf l))(he:EvF l.length e):ztq b l (i:Int) e.on=some (zyL l e):=by
 have hP:0<=e.e.Parcel/\e.e.Parcel < l.length:=he.p;have hv:=zy3 hs hP;have hK:e.e.Kind=0\/e.e.Kind=1\/e.e.Kind=2\/e.e.Kind=3:=he.k;unfold ztq zyL
 dsimp only
 rw[zsy hg,obs,zy1 hP,obs]
 by_cases c0:(zyJ l e.e.Parcel).There=true
 rotate_left
 ·rw[if_neg c0,if_pos (show zyK _=false by unfold zyK; simp[c0])]
 rw[if_pos c0]
 by_cases c1:(zyJ l e.e.Parcel).Gone=true
 ·rw[if_pos c1,if_pos (show zyK _=false by unfold zyK; simp[c1])]
 rw[if_neg c1,if_neg (show ¬ zyK _=false by unfold zyK; simp[c0,c1])]
 by_cases k0:e.e.Kind=0
 ·rw[if_pos k0,if_pos k0]
  by_cases c2:(zyJ l e.e.Parcel).Owner=e.e.From
  ·rw[if_pos c2,if_pos c2]; rfl
  ·rw[if_neg c2,if_neg c2]
 rw[if_neg k0,if_neg k0]
 by_cases k1:e.e.Kind=1
 ·obtain⟨hm,hp1⟩:=he.m k1;have hm:0<=e.makes/\e.makes < l.length:=hm;have hp1:1<=e.e.Part/\e.e.Part<=1000:=hp1;rw[if_pos k1,if_pos k1]
  by_cases c2:(zyJ l e.e.Parcel).Value<=e.e.Part
  ·rw[if_pos c2,if_pos c2]
  ·rw[if_neg c2,if_neg c2,zrJ (fI (by omega)),obs,em k1,obs,zy1 (by rw[List.length_set]; exact hm)]; rfl
 rw[if_neg k1,if_neg k1]
 by_cases k2:e.e.Kind=2
 ·obtain⟨hm,hne⟩:=he.o k2;have hm:0<=e.e.Other/\e.e.Other < l.length:=hm;have hne:e.e.Other ≠ e.e.Parcel:=hne;rw[if_pos k2,if_pos k2,zy1 hm,obs]
  by_cases d0:(zyJ l e.e.Other).There=true
  rotate_left
  ·rw[if_neg d0,if_pos (show zyK _=false by unfold zyK; simp[d0])]
  rw[if_pos d0]
  by_cases d1:(zyJ l e.e.Other).Gone=true
  ·rw[if_pos d1,if_pos (show zyK _=false by unfold zyK; simp[d1])]
  rw[if_neg d1,if_neg (show ¬ zyK _=false by unfold zyK; simp[d0,d1])]
  by_cases c2:(zyJ l e.e.Parcel).Owner=(zyJ l e.e.Other).Owner
  ·rw[if_pos c2.symm,if_pos c2]
  ·rw[if_neg (Ne.symm c2),if_neg c2,obs,zy1 (by rw[List.length_set]; exact hm),obs,zy2 hP hm,if_neg (Ne.symm hne)]
 rw[if_neg k2,if_neg k2,if_pos (show e.e.Kind=3 by omega)]
 by_cases c2:e.on < (zyJ l e.e.Parcel).Sown
 ·rw[if_pos c2,if_pos c2]
 ·rw[if_neg c2,if_neg c2]; rfl
theorem zy6{b:Boo}{l:List Fd}{D:Nat->Int}{i:Nat}(hi:i < b.Entries.length)(hl:b.Entries.length<=100)(hp:b.Parcels.length<=100)(hs:zx4 (sOf l))(he:EvF l.length (zxU b D i)):ztq b l (i:Int) (D i)=some (zyL l (zxU b D i)):=
 zy5 (e:=zxU b D i) (by show _=some (zxg b i); rw[zxh (List.getElem?_eq_getElem hi)]; exact List.getElem?_eq_getElem hi) (fun k=>by
  have k:(zxg b i).Kind=1:=k
  show _=some (mkC b i)
  rw[zy4 (by omega) hl hp]; unfold mkC; rw[if_pos k]) hs he
theorem zy7{b:Boo}{t:Tr}(h1:b.Entries.length<=6)(h2:b.Parcels.length<=4)(hs:t.Sown.length=b.Parcels.length):ztp b t=some (zyY b t.Sown):=by
 have hr:=zwM (l:=b.Entries);have hev:zwI b=(b.Parcels.length:Int)+zwH b.Entries:=rfl;unfold ztp;rw[zwQ (by omega) (by omega),obs,zrJ (by omega)]
 have key:∀(d k:Nat) (pre:List Fd),k<=b.Parcels.length->b.Parcels.length - k < d->pre.length=k->zto b t d (k:Int) (pre++List.replicate ((zwI b).toNat - k) fd0)=some (pre++fdP (b.Parcels.drop k) (t.Sown.drop k)++List.replicate (zwH b.Entries).toNat fd0):=by
  intro d
  induction d with
  | zero=>intro k _ _ h; omega
  | succ d ih=>
   intro k pre hk h hp;rw[zto]
   by_cases hkn:k < b.Parcels.length
   ·have hg:=List.getElem?_eq_getElem hkn;have hg2:=List.getElem?_eq_getElem (l:=t.Sown) (show k < t.Sown.length by omega)
    have e1:(zwI b).toNat - k=((zwI b).toNat - (k+1))+1:=by omega
    have hx:∃v,idx (pre++List.replicate ((zwI b).toNat - k) fd0) (k:Int)=some v:=⟨_,zsy (List.getElem?_eq_getElem (by rw[List.length_append,List.length_replicate]; omega))⟩;obtain⟨v,hx⟩:=hx
    have hset:(pre++List.replicate ((zwI b).toNat - k) fd0).set (Int.toNat (k:Int)) ({ There:=true,Gone:=false,Owner:=b.Parcels[k].Owner,Value:=b.Parcels[k].Value,Sown:=t.Sown[k] }:Fd)=(pre++[({ There:=true,Gone:=false,Owner:=b.Parcels[k].Owner,Value:=b.Parcels[k].Value,Sown:=t.Sown[k] }:Fd)])++List.replicate ((zwI b).toNat - (k+1)) fd0:=by
     rw[Int.toNat_natCast,List.set_append_right _ _ (by omega),hp,Nat.sub_self,e1,List.replicate_succ,List.append_assoc]; rfl
    rw[if_pos (by omega),zsy hg,obs,obs,zsy hg2,obs,hx,obs,zrJ (fI (by omega)),hset,show(k:Int)+1=((k+1:Nat):Int) by omega,ih (k+1) _ (by omega) (by omega) (by rw[List.length_append,hp]; rfl),List.drop_eq_getElem_cons hkn,List.drop_eq_getElem_cons (l:=t.Sown) (show k < t.Sown.length by omega),fdP,List.append_assoc pre]; rfl
   ·have hk':k=b.Parcels.length:=by omega
    subst hk';rw[if_neg (by omega),List.drop_length,show(zwI b).toNat - b.Parcels.length=(zwH b.Entries).toNat by omega]
    show some _=some (pre++[]++_)
    rw[List.append_nil]
 exact key 1000000 0 [] (Nat.zero_le _) (by omega) rfl
structure zy8 (b:Boo):Prop where
 o4:b.Owners<=4
 p4:b.Parcels.length<=4
 e6:b.Entries.length<=6
 L:0<=b.Last/\b.Last<=30
 o1:1<=b.Owners
 P:∀p∈b.Parcels,zwL b p
 E:∀e∈b.Entries,zwK b e
 m:zwT 1 (zw5 b)<=1000
theorem zy9{b:Boo}(h:zxa b=0):zy8 b:=by
 obtain⟨⟨a1,a2,a3⟩,⟨⟨a4,a5⟩,a6,a7⟩,a8⟩:=zyt.1 h;unfold InN at a4;exact⟨a1,a2,a3,a4,a5,a6,a7,a8⟩
def EvB(n:Nat)(x:Evt):Prop:=zx3 x/\EvF n x
theorem zza{b:Boo}(h:zy8 b){D:Nat->Int}{o:Nat->Bool}{n:Nat}(hn:(n:Int)=zwI b):∀x∈evI b D o,EvB n x:=fun x hx=>by
 obtain⟨a1,a2,a3,a4⟩:=zyj h.e6 h.p4 h.E x hx;have hp:=a1.p;exact⟨a1,⟨by omega,a1.k,fun k=>⟨by have:=(a1.m k).1; have:=a3 k; omega,(a1.m k).2⟩,fun k=>⟨by have:=(a1.o k).1; have:=a4 k; omega,(a1.o k).2⟩⟩⟩
theorem zzb:∀{L:List Evt} {l l':List Fd},zx4 (sOf l)->(∀e∈L,EvB l.length e)->zyR L l=some l'->zx4 (sOf l')
 | [],l,l',hs,_,h=>by cases h; exact hs
 | e::L,l,l',hs,hL,h=>by
  have he:=hL e (List.mem_cons_self ..);have h:(if _ then _ else _)=some l':=h
  split at h
  ·refine zzb ?_ (fun x hx=>by rw[zyP]; exact hL x (List.mem_cons_of_mem _ hx)) h;have:=zx9 hs he.1;rw[zyQ he.2] at this;exact this
  ·cases h
theorem zzc{b:Boo}{D:Nat->Int}{o:Nat->Bool}{k:Nat}:∀{n:Nat},k<=n->∃t,evK b D o n=evK b D o k++t
 | 0,h=>⟨[],by rw[show k=0 by omega,List.append_nil]⟩
 | n+1,h=>by
  by_cases hk:k=n+1
  ·subst hk; exact⟨[],by rw[List.append_nil]⟩
  ·obtain⟨t,ht⟩:=zzc (b:=b) (D:=D) (o:=o) (k:=k) (n:=n) (by omega);rw[zxV,ht,List.append_assoc];exact⟨_,rfl⟩
theorem zzd{b:Boo}(h:zy8 b){S:List Int}(hs:S.length=b.Parcels.length):zx4 (sOf (zyY b S)):=by
 rw[<- zy0 hs h.p4 h.e6]; exact zyh h.p4 hs h.P
def zze(out:Int)(o:Nat->Bool):Prop:=(0<=out/\out<=1000000)/\∀k:Nat,k < 6->(out / 2 ^ k % 2=0↔o k=false)
section
variable {b:Boo} (h:zy8 b) {t:Tr} {day out:Int} {o:Nat->Bool} (ho:zze out o) (hT:t.Days.length=b.Entries.length)
include h ho hT
theorem zzf{th l':List Fd}{b':Bool}{X:Nat}(hX:X<=100){K:List Fd->Bool->List Fd->Int->List Fd->Option (List Fd × Bool)}{y0:List Fd}(hs:zx4 (sOf y0))(hn:(y0.length:Int)=zwI b):∀(d k:Nat) (y:List Fd),k<=b.Entries.length->b.Entries.length - k < d ->
  zyR ((evK b (dF t.Days) o k).filter (onB X)) y0=some y ->
  ztr b t day out th (X:Int) K d l' b' (k:Int) y=match zyR ((evI b (dF t.Days) o).filter (onB X)) y0 with
   | some s=>if (X:Int)=day then K l' b' s ((X:Int)+1) s else K l' b' th ((X:Int)+1) s
   | none=>some ([],false)
 | 0,k,_,_,hd,_=>by omega
 | d+1,k,y,hk,hd,hy=>by
  have h6:=h.e6;have hall:=zza h (D:=dF t.Days) (o:=o) hn;rw[ztr]
  by_cases hkn:k < b.Entries.length
  ·have hgd:=List.getElem?_eq_getElem (l:=t.Days) (show k < t.Days.length by omega)
   have ed:t.Days[k]=dF t.Days k:=by unfold dF; rw[List.getD_eq_getElem?_getD,hgd]; rfl
   have hsucc:=zxV (b:=b) (D:=dF t.Days) (o:=o) (k:=k);have ih:=fun y'=>zzf (th:=th) (l':=l') (b':=b') hX (K:=K) hs hn d (k+1) y' (by omega) (by omega);rw[if_pos (by omega),zsy hgd,obs,ed]
   by_cases hx:dF t.Days k=(X:Int)
   ·have hw:znv .u64 (k:Int)=(k:Int):=wz (show(0:Int)<=k/\(k:Int) < 18446744073709551616 by omega);have hq0:0<=out / 2 ^ k:=Int.ediv_nonneg ho.1.1 (Int.le_of_lt (Int.pow_pos (by omega)));have hq1:out / 2 ^ k<=out:=Int.ediv_le_self _ ho.1.1;have hbit:=ho.2 k (by omega);have ho1:=ho.1;rw[if_pos hx,hw,Int.toNat_natCast];generalize out / 2 ^ k=q at hq0 hq1 hbit ⊢;rw[zrJ ho1.1,zrJ (by omega),zrJ (by omega),zrJ (fI (by omega)),zrJ hq0,zrJ (by omega),zrJ (fI (by omega))]
    by_cases hb:q % 2=0
    ·have hok:=hbit.1 hb;have hon:onB X (zxU b (dF t.Days) k)=true:=decide_eq_true hx;have hmem:zxU b (dF t.Days) k∈evI b (dF t.Days) o:=zxX.2 ⟨k,hkn,hok,rfl⟩;have hlen:y.length=y0.length:=zyU hy
     have hys:zx4 (sOf y):=zzb hs (fun e he=>by
      obtain⟨t',ht'⟩:=zzc (b:=b) (D:=dF t.Days) (o:=o) (k:=k) (n:=b.Entries.length) hk;refine hall e ?_;unfold evI;rw[ht']
      exact List.mem_append_left _ (List.mem_filter.1 he).1) hy
     have hev:=hall _ hmem;rw[<- hlen] at hev;have hhap:=zy6 (D:=dF t.Days) hkn (by omega) (by have:=h.p4; omega) hys hev.2;rw[hx] at hhap
     have hf:(evK b (dF t.Days) o (k+1)).filter (onB X)=(evK b (dF t.Days) o k).filter (onB X)++[zxU b (dF t.Days) k]:=by
      rw[hsucc,hok,if_neg (by simp),List.filter_append,List.filter_cons,if_pos hon]; rfl
     have hrun:zyR ((evK b (dF t.Days) o (k+1)).filter (onB X)) y0=if (zyL y (zxU b (dF t.Days) k)).1=true then some (zyL y (zxU b (dF t.Days) k)).2 else none:=by
      rw[hf,zyT,hy]; rfl
     rw[if_pos hb,hhap,obs]
     by_cases hc:(zyL y (zxU b (dF t.Days) k)).1=true
     ·rw[if_pos hc] at hrun;rw[if_pos hc,zrJ (fI (by omega)),show(k:Int)+1=((k+1:Nat):Int) by omega];exact ih _ hrun
     ·rw[if_neg hc] at hrun;rw[if_neg hc];obtain⟨t',ht'⟩:=zzc (b:=b) (D:=dF t.Days) (o:=o) (k:=k+1) (n:=b.Entries.length) (by omega)
      have:zyR ((evI b (dF t.Days) o).filter (onB X)) y0=none:=by
       unfold evI;rw[ht',List.filter_append,zyT,hrun]; rfl
      rw[this]
    ·have hok:o k=true:=by
      cases hq:o k with
      | true=>rfl
      | false=>exact absurd (hbit.2 hq) hb
     have hf:(evK b (dF t.Days) o (k+1)).filter (onB X)=(evK b (dF t.Days) o k).filter (onB X):=by
      rw[hsucc,hok,if_pos rfl,List.append_nil]
     rw[if_neg hb,zrJ (fI (by omega)),show(k:Int)+1=((k+1:Nat):Int) by omega];exact ih y (by rw[hf]; exact hy)
   ·have hon:¬ onB X (zxU b (dF t.Days) k)=true:=fun hh=>hx (of_decide_eq_true hh)
    have hf:(evK b (dF t.Days) o (k+1)).filter (onB X)=(evK b (dF t.Days) o k).filter (onB X):=by
     rw[hsucc]
     cases o k with
     | true=>rw[if_pos rfl,List.append_nil]
     | false=>rw[if_neg (by simp),List.filter_append,List.filter_cons,if_neg hon]; exact List.append_nil _
    rw[if_neg hx,zrJ (fI (by omega)),show(k:Int)+1=((k+1:Nat):Int) by omega];exact ih y (by rw[hf]; exact hy)
  ·have hkl:k=b.Entries.length:=by omega
   subst hkl;have hlen:y.length=y0.length:=zyU hy;have hr:=zwM (l:=b.Entries);have hev:zwI b=(b.Parcels.length:Int)+zwH b.Entries:=rfl;have hp4:=h.p4;rw[if_neg (by omega)]
   show _=match zyR ((evK b (dF t.Days) o b.Entries.length).filter (onB X)) y0 with | some s=>_ | none=>_
   rw[hy]
   show _=if _ then _ else _
   by_cases hx:(X:Int)=day
   ·rw[if_pos hx,if_pos hx,zrJ (by show 0+y.length<=_; omega),zrJ (fI (by omega))]; rfl
   ·rw[if_neg hx,if_neg hx,zrJ (fI (by omega))]
def thN(L:List Evt)(y0:List Fd)(day:Int)(X:Nat):List Fd:=if 0<=day/\day < X then (zyR (bkN L (day.toNat+1)) y0).getD [] else []
def atR(L:List Evt)(y0:List Fd)(day:Int)(N:Nat):List Fd × Bool:=match zyR (bkN L N) y0 with | some _=>(thN L y0 day N,true) | none=>([],false)
theorem zzg{l':List Fd}{b':Bool}{y0:List Fd}(hs:zx4 (sOf y0))(hn:(y0.length:Int)=zwI b):∀(d X:Nat) (y:List Fd),(X:Int)<=b.Last+1->(b.Last+1).toNat - X < d->zyR (bkN (evI b (dF t.Days) o) X) y0=some y ->
  zts b t day out d l' b' (thN (evI b (dF t.Days) o) y0 day X) (X:Int) y=some (atR (evI b (dF t.Days) o) y0 day (b.Last+1).toNat)
 | 0,X,_,_,hd,_=>by omega
 | d+1,X,y,hX,hd,hy=>by
  have hL:=h.L;rw[zts]
  by_cases hx:(X:Int)<=b.Last
  ·have hlen:y.length=y0.length:=zyU hy;have hys:zx4 (sOf y):=zzb hs (fun e he=>zza h hn e (zyx.1 he).1) hy
   have hb:zyR (bkN (evI b (dF t.Days) o) (X+1)) y0=zyR ((evI b (dF t.Days) o).filter (onB X)) y:=by
    rw[bkN,zyT,hy]; rfl
   rw[if_pos hx];refine(zzf h ho hT (y0:=y) (by omega) hys (by omega) 1000000 0 y (Nat.zero_le _) (by have:=h.e6; omega) rfl).trans ?_;rw[<- hb]
   cases hr:zyR (bkN (evI b (dF t.Days) o) (X+1)) y0 with
   | none=>
    show some _=some _
    obtain⟨t',ht',_⟩:=zyF (l:=evI b (dF t.Days) o) (n:=X+1) (k:=(b.Last+1).toNat - (X+1));rw[show X+1+((b.Last+1).toNat - (X+1))=(b.Last+1).toNat by omega] at ht';unfold atR;rw[ht',zyT,hr]; rfl
   | some s=>
    show(if _ then _ else _)=_
    have ih:=zzg (l':=l') (b':=b') hs hn d (X+1) s (by omega) (by omega) hr
    by_cases hxd:(X:Int)=day
    ·rw[if_pos hxd]
     have e:thN (evI b (dF t.Days) o) y0 day (X+1)=s:=by
      unfold thN;rw[if_pos (by omega),<- hxd,Int.toNat_natCast,hr]; rfl
     rw[e] at ih;exact ih
    ·rw[if_neg hxd]
     have e:thN (evI b (dF t.Days) o) y0 day (X+1)=thN (evI b (dF t.Days) o) y0 day X:=by
      unfold thN
      by_cases hc:0<=day/\day < (X:Int)
      ·rw[if_pos hc,if_pos (by omega)]
      ·rw[if_neg hc,if_neg (by omega)]
     rw[e] at ih;exact ih
  ·rw[if_neg hx,show X=(b.Last+1).toNat by omega];rw[show X=(b.Last+1).toNat by omega] at hy;unfold atR;rw[hy]
theorem zzh(hS:t.Sown.length=b.Parcels.length):ztt b t day out=some (atR (evI b (dF t.Days) o) (zyY b t.Sown) day (b.Last+1).toNat):=by
 unfold ztt;rw[zy7 h.e6 h.p4 hS,obs];have:=zzg h ho hT (day:=day) (l':=[]) (b':=false) (zzd h hS) (zyZ hS) 1000000 0 _ (by have:=h.L; omega) (by have:=h.L; omega) rfl
 have e:thN (evI b (dF t.Days) o) (zyY b t.Sown) day 0=[]:=by unfold thN; rw[if_neg (by omega)]
 rw[e] at this;exact this
end
end
end Go.Proofs.YtlkgdadfbfafcaaGreat

namespace Go.Proofs.YtlkgdadfbfafcaaGreat
open _root_.Go.Proofs.Tryz
open Go.Abs
set_option maxRecDepth 100000
noncomputable section
def okB(b:Boo)(o:Nat->Bool)(D:Nat->Int)(S:List Int):Bool:=(zyR (bkN (evI b D o) (b.Last+1).toNat) (zyY b S)).isSome
def zzi(b:Boo)(o:Nat->Bool):Prop:=∃(D:Nat->Int) (S:List Int),(∀i,i < b.Entries.length->o i=false->(zxg b i).Day.Lo<=D i/\D i<=(zxg b i).Day.Hi)/\inR (b.Parcels.map (·.Sown)) S/\okB b o D S=true
theorem zzj{b:Boo}{o:Nat->Bool}{D:Nat->Int}{S:List Int}{day:Int}:(atR (evI b D o) (zyY b S) day (b.Last+1).toNat).2=okB b o D S:=by
 unfold atR okB
 cases zyR (bkN (evI b D o) (b.Last+1).toNat) (zyY b S) <;> rfl
theorem zzk{w:Wk}{b:Boo}{O:O6}(h:zy8 b)(hw:zxj w b O){t:Tr}(hT:t.Days.length=b.Entries.length)(hS:t.Sown.length=b.Parcels.length)(hD:∀i,i < b.Entries.length->zxf O i=false->0<=dF t.Days i/\dF t.Days i<=b.Last){day:Int}(hd:0<=day/\day<=b.Last) :
  zux w t day=some (if okB b (zxf O) (dF t.Days) t.Sown=true then (sOf (thN (evI b (dF t.Days) (zxf O)) (zyY b t.Sown) day (b.Last+1).toNat),true) else (zxZ,false)):=by
 obtain⟨d,rfl⟩:∃d:Nat,day=(d:Int):=⟨day.toNat,by omega⟩;rw[(zyk hw h.e6 h.p4 h.P h.E hT hS).1,zy0 hS h.p4 h.e6]
 have hL:∀x∈evI b (dF t.Days) (zxf O),0<=x.on/\x.on < ((b.Last+1).toNat:Int):=fun x hx=>by
  obtain⟨i,a1,a2,rfl⟩:=zxX.1 hx;have:=hD i a1 a2
  show 0<=dF t.Days i/\dF t.Days i < _
  omega
 rw[zyV (N:=(b.Last+1).toNat) (by omega) hL fun e he=>(zza h (zyZ hS) e he).2];obtain⟨t',ht',_⟩:=zyF (l:=evI b (dF t.Days) (zxf O)) (n:=d+1) (k:=(b.Last+1).toNat - (d+1));rw[show d+1+((b.Last+1).toNat - (d+1))=(b.Last+1).toNat by omega] at ht'
 congr 1
 cases hr:zyR (bkN (evI b (dF t.Days) (zxf O)) (d+1)) (zyY b t.Sown) with
 | none=>
  have:okB b (zxf O) (dF t.Days) t.Sown=false:=by unfold okB; rw[ht',zyT,hr]; rfl
  rw[this]; rfl
 | some s=>
  have e:thN (evI b (dF t.Days) (zxf O)) (zyY b t.Sown) (d:Int) (b.Last+1).toNat=s:=by
   unfold thN;rw[if_pos (by omega),Int.toNat_natCast,hr]; rfl
  rw[e]; rfl
theorem zzl{w:Wk}{b:Boo}{O:O6}(h:zy8 b)(hw:zxj w b O){t:Tr}(hT:t.Days.length=b.Entries.length)(hS:t.Sown.length=b.Parcels.length)(hD:∀i,i < b.Entries.length->zxf O i=false->0<=dF t.Days i/\dF t.Days i<=b.Last):zuD w t=some (okB b (zxf O) (dF t.Days) t.Sown):=by
 have hL:=h.L;unfold zuD;rw[hw.eb,zzk h hw hT hS hD ⟨hL.1,Int.le_refl _⟩,obs]
 cases okB b (zxf O) (dF t.Days) t.Sown <;> rfl
def zzm(n:Nat)(l:List Int):Tr:={ Days:=l.take n,Sown:=l.drop n }
theorem zzn:∀{A B:List Rg} {l:List Int},inR (A++B) l↔inR A (l.take A.length)/\inR B (l.drop A.length)
 | [],B,l=>⟨fun h=>⟨trivial,h⟩,fun h=>h.2⟩
 | r::A,B,[]=>⟨fun h=>h.elim,fun h=>h.1.elim⟩
 | r::A,B,x::l=>by
  show(r.Lo<=x/\x<=r.Hi)/\inR (A++B) l↔((r.Lo<=x/\x<=r.Hi)/\inR A (l.take A.length))/\inR B (l.drop A.length)
  rw[zzn];exact and_assoc.symm
theorem zzo{b:Boo}{c:Nat->Bool}{n:Nat}{l:List Int}:inR (zxx b c n) l↔l.length=n/\∀i,i < n->(zxw (c i) (zxg b i).Day).Lo<=dF l i/\dF l i<=(zxw (c i) (zxg b i).Day).Hi:=by
 rw[zyl,zxA];refine and_congr_right fun hl=>⟨fun h i hi=>?_,fun h j r x hr hx=>?_⟩
 ·have hg:=List.getElem?_eq_getElem (l:=l) (show i < l.length by omega)
  have e:dF l i=l[i]:=by unfold dF; rw[List.getD_eq_getElem?_getD,hg]; rfl
  rw[e];refine h i _ _ ?_ hg;unfold zxx;rw[List.getElem?_map,List.getElem?_range hi]; rfl
 ·have hj:=(List.getElem?_eq_some_iff.1 hx).1
  have e:dF l j=x:=by unfold dF; rw[List.getD_eq_getElem?_getD,hx]; rfl
  unfold zxx at hr;rw[List.getElem?_map,List.getElem?_range (by omega)] at hr;have hr:=oi hr;have:=h j (by omega);rw[e] at this;rw[<- hr]; exact this
theorem zzp{o:Bool}{r:Rg}(h:r.Lo<=r.Hi):r.Lo<=(zxw o r).Lo/\(zxw o r).Lo<=(zxw o r).Hi/\(zxw o r).Hi<=r.Hi:=by
 unfold zxw
 cases o with
 | true=>rw[if_pos rfl]; exact⟨Int.le_refl _,Int.le_refl _,h⟩
 | false=>rw[if_neg (by simp)]; exact⟨Int.le_refl _,h,Int.le_refl _⟩
theorem zy8.day{b:Boo}(h:zy8 b){i:Nat}(hi:i < b.Entries.length):zwJ b (zxg b i).Day:=by
 rw[zxh (List.getElem?_eq_getElem hi)]; exact(h.E _ (List.getElem_mem hi)).1
theorem zzq{b:Boo}(h:zy8 b){c:Nat->Bool}{l:List Int}(hl:inR (zxy b c) l):(zzm b.Entries.length l).Days.length=b.Entries.length/\inR (b.Parcels.map (·.Sown)) (zzm b.Entries.length l).Sown/\(zzm b.Entries.length l).Sown.length=b.Parcels.length/\∀i,i < b.Entries.length->((zxw (c i) (zxg b i).Day).Lo<=dF (zzm b.Entries.length l).Days i/\dF (zzm b.Entries.length l).Days i<=(zxw (c i) (zxg b i).Day).Hi)/\0<=dF (zzm b.Entries.length l).Days i/\dF (zzm b.Entries.length l).Days i<=b.Last:=by
 unfold zxy at hl;rw[zzn,zxA,zzo] at hl;obtain⟨⟨h1,h2⟩,h3⟩:=hl;refine⟨h1,h3,by have:=zwG h3; rw[List.length_map] at this; exact this,fun i hi=>⟨h2 i hi,?_⟩⟩;have a1:=h2 i hi;have a2:=h.day hi;unfold zwJ at a2;have a3:=zzp (o:=c i) a2.2.1
 show 0<=dF (l.take b.Entries.length) i/\dF (l.take b.Entries.length) i<=b.Last
 omega
structure zzr (n:Nat) (P:(Nat->Bool)->Prop) (M:List Int):Prop where
 inc:Inc n 0 M
 ok:P (inD M)
 min:∀D,Inc n 0 D->P (inD D)->D=M\/shB M D=true
def zzs:List Rg->Int->Int
 | [],n=>n
 | r::rs,n=>zzs rs (n / (r.Hi - r.Lo+1))
def zzt:List Rg->Int->List Int
 | [],_=>[]
 | r::rs,n=>(r.Lo+n % (r.Hi - r.Lo+1))::zzt rs (n / (r.Hi - r.Lo+1))
theorem zzu:∀{A B:List Rg} {n:Int},zzt (A++B) n=zzt A n++zzt B (zzs A n)
 | [],_,_=>rfl
 | r::A,B,n=>by
  show _::zzt (A++B) _=_::(zzt A _++zzt B _)
  rw[zzu]; rfl
theorem zzv:∀{A:List Rg} {n:Int},(zzt A n).length=A.length
 | [],_=>rfl
 | r::A,n=>by show(zzt A _).length+1=A.length+1; rw[zzv]
theorem zzw:∀{rs:List Rg} {n:Int},(∀r∈rs,r.Lo<=r.Hi)->0<=n->inR rs (zzt rs n)
 | [],_,_,_=>trivial
 | r::rs,n,h,h0=>by
  have hr:=h r (List.mem_cons_self ..);have h1:=Int.emod_nonneg n (show r.Hi - r.Lo+1 ≠ 0 by omega);have h2:=Int.emod_lt_of_pos n (show 0 < r.Hi - r.Lo+1 by omega);exact⟨⟨by omega,by omega⟩,zzw (fun r hr=>h r (List.mem_cons_of_mem _ hr)) (Int.ediv_nonneg h0 (by omega))⟩
theorem zzx{b:Boo}(h:zy8 b){acc0:List Int}:∀(d k:Nat) (acc:List Int) (n:Int),k<=b.Parcels.length->b.Parcels.length - k < d->acc.length=k->0<=n/\n<=100000->zti b acc0 d acc n (k:Int)=some { Days:=acc0,Sown:=acc++zzt ((b.Parcels.map (·.Sown)).drop k) n }
 | 0,_,_,_,_,hd,_,_=>by omega
 | d+1,k,acc,n,hk,hd,ha,hn=>by
  have h4:=h.p4;have hL:=h.L;rw[zti]
  by_cases hkl:k < b.Parcels.length
  ·have hg:=List.getElem?_eq_getElem hkl;have hr:=(h.P _ (List.getElem_mem hkl)).2.2
   have e1:(b.Parcels.map (·.Sown)).drop k=b.Parcels[k].Sown::(b.Parcels.map (·.Sown)).drop (k+1):=by
    rw[<- List.map_drop,List.drop_eq_getElem_cons hkl,List.map_cons,List.map_drop]
   rw[e1];generalize b.Parcels[k]=p at hg hr;unfold zwJ at hr;have h1:=Int.emod_nonneg n (show p.Sown.Hi - p.Sown.Lo+1 ≠ 0 by omega);have h2:=Int.emod_lt_of_pos n (show 0 < p.Sown.Hi - p.Sown.Lo+1 by omega);have h3:=Int.ediv_nonneg hn.1 (show 0<=p.Sown.Hi - p.Sown.Lo+1 by omega);have h5:=Int.ediv_le_self (p.Sown.Hi - p.Sown.Lo+1) hn.1;rw[if_pos (by omega),zsy hg,obs,zrJ (fI (by omega)),zrJ (fI (by omega)),zrJ hn.1,zrJ (by omega),zrJ (fI (by omega)),zrJ (fI (by omega)),zrJ (by omega),zrJ (fI (by omega)),zrJ (fI (by omega)),zrJ hn.1,zrJ (by omega),zrJ (fI (by omega)),zrJ (fI (by omega)),show(k:Int)+1=((k+1:Nat):Int) by omega];refine(zzx h d (k+1) (acc++[p.Sown.Lo+n % (p.Sown.Hi - p.Sown.Lo+1)]) (n / (p.Sown.Hi - p.Sown.Lo+1)) (by omega) (by omega) (by rw[List.length_append,ha]; rfl) (by omega)).trans ?_;rw[List.append_assoc]; rfl
  ·rw[if_neg (by omega),List.drop_eq_nil_of_le (by rw[List.length_map]; omega)]
   show _=some ({ Days:=acc0,Sown:=acc++[] }:Tr)
   rw[List.append_nil]
theorem zzy{b:Boo}(h:zy8 b):∀(d k:Nat) (acc:List Int) (n:Int),k<=b.Entries.length->b.Entries.length - k < d->acc.length=k->0<=n/\n<=100000->ztj b d acc [] n (k:Int)=some { Days:=acc++zzt ((b.Entries.map (·.Day)).drop k) n,Sown:=zzt (b.Parcels.map (·.Sown)) (zzs ((b.Entries.map (·.Day)).drop k) n) }
 | 0,_,_,_,_,hd,_,_=>by omega
 | d+1,k,acc,n,hk,hd,ha,hn=>by
  have h4:=h.e6;have hL:=h.L;rw[ztj]
  by_cases hkl:k < b.Entries.length
  ·have hg:=List.getElem?_eq_getElem hkl;have hr:=(h.E _ (List.getElem_mem hkl)).1
   have e1:(b.Entries.map (·.Day)).drop k=b.Entries[k].Day::(b.Entries.map (·.Day)).drop (k+1):=by
    rw[<- List.map_drop,List.drop_eq_getElem_cons hkl,List.map_cons,List.map_drop]
   rw[e1];generalize b.Entries[k]=p at hg hr;unfold zwJ at hr;have h1:=Int.emod_nonneg n (show p.Day.Hi - p.Day.Lo+1 ≠ 0 by omega);have h2:=Int.emod_lt_of_pos n (show 0 < p.Day.Hi - p.Day.Lo+1 by omega);have h3:=Int.ediv_nonneg hn.1 (show 0<=p.Day.Hi - p.Day.Lo+1 by omega);have h5:=Int.ediv_le_self (p.Day.Hi - p.Day.Lo+1) hn.1;rw[if_pos (by omega),zsy hg,obs,zrJ (fI (by omega)),zrJ (fI (by omega)),zrJ hn.1,zrJ (by omega),zrJ (fI (by omega)),zrJ (fI (by omega)),zrJ (by omega),zrJ (fI (by omega)),zrJ (fI (by omega)),zrJ hn.1,zrJ (by omega),zrJ (fI (by omega)),zrJ (fI (by omega)),show(k:Int)+1=((k+1:Nat):Int) by omega];refine(zzy h d (k+1) (acc++[p.Day.Lo+n % (p.Day.Hi - p.Day.Lo+1)]) (n / (p.Day.Hi - p.Day.Lo+1)) (by omega) (by omega) (by rw[List.length_append,ha]; rfl) (by omega)).trans ?_;rw[List.append_assoc]; rfl
  ·rw[if_neg (by omega),List.drop_eq_nil_of_le (by rw[List.length_map]; omega)];refine(zzx h 1000000 0 [] n (Nat.zero_le _) (by have:=h.p4; omega) rfl hn).trans ?_
   show some ({ Days:=acc,Sown:=[]++zzt (b.Parcels.map (·.Sown)) n }:Tr)=some ({ Days:=acc++[],Sown:=zzt (b.Parcels.map (·.Sown)) n }:Tr)
   rw[List.append_nil,List.nil_append]
theorem zzz{b:Boo}(h:zy8 b){n:Int}(hn:0<=n/\n<=100000):ztk b n=some (zzm b.Entries.length (zzt (zw5 b) n)):=by
 unfold ztk;refine(zzy h 1000000 0 [] n (Nat.zero_le _) (by have:=h.e6; omega) rfl hn).trans ?_
 have hl:(zzt (b.Entries.map (·.Day)) n).length=b.Entries.length:=by rw[zzv,List.length_map]
 have e1:(zzt (zw5 b) n).take b.Entries.length=zzt (b.Entries.map (·.Day)) n:=by
  unfold zw5;rw[zzu];have:=List.take_left (l₁:=zzt (b.Entries.map (·.Day)) n) (l₂:=zzt (b.Parcels.map (·.Sown)) (zzs (b.Entries.map (·.Day)) n));rw[hl] at this; exact this
 have e2:(zzt (zw5 b) n).drop b.Entries.length=zzt (b.Parcels.map (·.Sown)) (zzs (b.Entries.map (·.Day)) n):=by
  unfold zw5;rw[zzu];have:=List.drop_left (l₁:=zzt (b.Entries.map (·.Day)) n) (l₂:=zzt (b.Parcels.map (·.Sown)) (zzs (b.Entries.map (·.Day)) n));rw[hl] at this; exact this
 unfold zzm;rw[e1,e2]; rfl
theorem zzA{b:Boo}(h:zy8 b):∀r∈zw5 b,r.Lo<=r.Hi:=fun r hr=>by
 unfold zw5 at hr
 rcases List.mem_append.1 hr with hr | hr
 ·obtain⟨e,he,rfl⟩:=List.mem_map.1 hr;exact(h.E e he).1.2.1
 ·obtain⟨p,hp,rfl⟩:=List.mem_map.1 hr;exact(h.P p hp).2.2.2.1
theorem zzB{b:Boo}(h:zy8 b):ztf b=some (zwT 1 (zw5 b))/\1<=zwT 1 (zw5 b):=by
 have hL:=h.L;obtain⟨hz,_⟩:=zw7 hL.2 h.P h.E;have:=zwZ hz;have hm:=h.m;rw[zw8 (by have:=h.e6; omega) (by have:=h.p4; omega) hL.2 h.P h.E,Int.min_eq_right (by omega)];exact⟨rfl,this⟩
theorem zzC{b:Boo}(h:zy8 b){n:Int}(hn:0<=n):inR (zxy b fun _=>false) (zzt (zw5 b) n):=by
 rw[zxC fun _ _=>rfl]; exact zzw (zzA h) hn
theorem zzi.congr{b:Boo}{o o':Nat->Bool}(h:∀j,j < b.Entries.length->o j=o' j):zzi b o↔zzi b o':=by
 have key:∀{o o':Nat->Bool},(∀j,j < b.Entries.length->o j=o' j)->zzi b o->zzi b o':=fun {o o'} h ⟨D,S,h1,h2,h3⟩=>by
  have e:evI b D o=evI b D o':=by
   unfold evI evK;rw[List.filter_congr fun i hi=>by rw[h i (List.mem_range.1 hi)]]
  refine⟨D,S,fun i hi ho=>h1 i hi (by rw[h i hi]; exact ho),h2,?_⟩;unfold okB at h3 ⊢;rw[<- e]; exact h3
 exact⟨key h,key fun j hj=>(h j hj).symm⟩
section
variable {w:Wk} {b:Boo} {O:O6} (hw:zxj w b O)
include hw
end
theorem zzD{b:Boo}(hb:zsY b)(hf:zxa b=0):zt3 b=some 0:=by rw[zxG hb,hf]
section
variable {b:Boo} (h:zy8 b)
include h
theorem wkV:ztW b=some (wkN b)/\zxj (wkN b) b zxc:=zyr h.e6 (by have:=h.p4; omega)
end
end
end Go.Proofs.YtlkgdadfbfafcaaGreat

namespace Go.Proofs.YtlkgdadfbfafcaaGreat
open _root_.Go.Proofs.Tryz
open Go.Abs
set_option maxRecDepth 100000
noncomputable section
theorem aw:((zs7).bind fun r=>some r)=some true:=rfl
theorem zzE{b:Boo}:Ev (ztB b) (b.Parcels.length<=7/\b.Entries.length<=9):=(Ev.ite fun _=>Ev.dec Iff.rfl).imp (by omega)
theorem zzF{b:Boo}(hb:zsY b):zuL b=some (zxa b):=by
 unfold zuL;rw[zxb hb.2.1,obs]
theorem zzG{b:Boo}(hb:zsY b):Ev (zuM b) ((b.Parcels.length<=7/\b.Entries.length<=9)/\zxa b=0):=by
 unfold zuM;exact zzE.and fun _=>Ev.bind (zzF hb) (Ev.dec Iff.rfl)
theorem zzH{b:Boo}(h1:b.Entries.length<=1000)(h2:b.Parcels.length<=1000):ztz b=some b:=by
 unfold ztz;refine(zsC (l:=b.Parcels) id (F:=fun d acc x=>zty b d b.Last b.Owners acc [] x) (fun acc=>ztx b acc 1000000 b.Last b.Owners [] 0) (fun d k acc a hk ha=>?_) (fun d acc=>by rw[zty,if_neg (Int.lt_irrefl _)]) (by omega)).trans ?_
 ·have hkl:=(List.getElem?_eq_some_iff.1 hk).1;rw[zty,if_pos (by omega),zsy hk,obs]
  show((some a.Sown).bind _)=_
  rw[obs,zrJ (by omega),zrJ (fI (by omega))]; rfl
 ·rw[List.map_id];refine(zsC (l:=b.Entries) id (F:=fun d acc x=>ztx b b.Parcels d b.Last b.Owners acc x) (fun acc=>some { Last:=b.Last,Owners:=b.Owners,Parcels:=b.Parcels,Entries:=acc }) (fun d k acc a hk ha=>?_) (fun d acc=>by rw[ztx,if_neg (Int.lt_irrefl _)]) (by omega)).trans ?_
  ·have hkl:=(List.getElem?_eq_some_iff.1 hk).1;rw[ztx,if_pos (by omega),zsy hk,obs]
   show((some a.Day).bind _)=_
   rw[obs,zrJ (by omega),zrJ (fI (by omega))]; rfl
  ·rw[List.map_id]
theorem zzr.nil{n:Nat}{P:(Nat->Bool)->Prop}{M:List Int}(h:zzr n P M)(h0:P (inD [])):M=[]:=by
 rcases h.min [] ⟨List.Pairwise.nil,fun v hv=>by simp at hv⟩ h0 with h1 | h1
 ·exact h1.symm
 ·rcases zwF.1 h1 with h2 | ⟨h2,_⟩
  ·exact absurd h2 (Nat.not_lt_zero _)
  ·exact List.eq_nil_of_length_eq_zero h2
theorem zzI{S β:Type}{n:Nat}(F:Nat->S->Int->Option β)(st:Nat->S){fin:Option β}(hstep:∀d k,k < n->F (d+1) (st k) (k:Int)=F d (st (k+1)) ((k:Int)+1))(hend:∀d,F (d+1) (st n) (n:Int)=fin) :
  ∀d k,k<=n->n - k < d->F d (st k) (k:Int)=fin
 | 0,k,_,h=>by omega
 | d+1,k,hk,h=>by
  by_cases hkn:k=n
  ·subst hkn; exact hend d
  ·rw[hstep d k (by omega),show(k:Int)+1=((k+1:Nat):Int) by omega];exact zzI F st hstep hend d (k+1) (by omega) (by omega)
open Classical in
theorem u8w{x:Int}(h:znq .u8 x):znv .i64 x=x/\0<=x/\x < 256:=by
 have h':0<=x/\x < 256:=h;exact⟨wz (fI (by omega)),h'⟩
theorem zzJ{x:Int}(h:znq .u16 x):znv .i64 x=x/\0<=x/\x < 65536:=by
 have h':0<=x/\x < 65536:=h;exact⟨wz (fI (by omega)),h'⟩
end
end Go.Proofs.YtlkgdadfbfafcaaGreat

namespace Go.Proofs.YtlkgdadfbfafcaaGreat
open _root_.Go.Proofs.Tryz
open Go.Abs
set_option maxRecDepth 100000
noncomputable section
theorem noO:zxf zxc=fun _=>false:=funext fun _=>zxB
theorem zzK{b:Boo}(h:zy8 b){t:Tr}(ht:zym b t):t.Days.length=b.Entries.length/\t.Sown.length=b.Parcels.length/\∀i,i < b.Entries.length->((zxg b i).Day.Lo<=dF t.Days i/\dF t.Days i<=(zxg b i).Day.Hi)/\0<=dF t.Days i/\dF t.Days i<=b.Last:=by
 have l1:=zwG ht.1;have l2:=zwG ht.2;rw[List.length_map] at l1 l2;refine⟨l1,l2,fun i hi=>?_⟩;have hg:=List.getElem?_eq_getElem (l:=t.Days) (show i < t.Days.length by omega)
 have e:dF t.Days i=t.Days[i]:=by unfold dF; rw[List.getD_eq_getElem?_getD,hg]; rfl
 have he:=List.getElem?_eq_getElem hi;have:=(zyl.1 ht.1).2 i (zxg b i).Day _ (by rw[List.getElem?_map,he,zxh he]; rfl) hg;have hd:=h.day hi;unfold zwJ at hd;rw[e];exact⟨this,by omega⟩
def thB(b:Boo)(t:Tr)(day:Int):List Fd:=thN (evI b (dF t.Days) fun _=>false) (zyY b t.Sown) day (b.Last+1).toNat
def okT(b:Boo)(t:Tr):Bool:=okB b (fun _=>false) (dF t.Days) t.Sown
theorem zzL{b:Boo}(hb:zsY b)(hf:zxa b=0){t:Tr}{day:Int}(ht:zym b t)(hd:InN day 0 b.Last):zuz b t day=some (if okT b t=true then ((segI 0 (zwI b).toNat).map (fun i=>zyo (zx0 (sOf (thB b t day)) i) day),0) else ([],11)):=by
 have h:=zy9 hf;obtain⟨d1,d2,d3⟩:=zzK h ht;have e1:=zzk h (wkV h).2 d1 d2 (fun i hi _=>(d3 i hi).2) hd;have e2:=(zyk (wkV h).2 h.e6 h.p4 h.P h.E d1 d2 (day:=day)).1;rw[e1] at e2;have e3:=oi e2;rw[(zyv hb hf ht hd).1];unfold zys;rw[<- e3,noO]
 by_cases hk:okB b (fun _=>false) (dF t.Days) t.Sown=true
 ·rw[if_pos hk,if_pos (show okT b t=true from hk)]; rfl
 ·rw[if_neg hk,if_neg (show ¬ okT b t=true from hk)]; rfl
theorem zzM{b:Boo}(hb:zsY b)(hf:zxa b=0){t:Tr}(ht:zym b t):zuK b t=some (okT b t):=by
 have h:=zy9 hf;obtain⟨d1,d2,d3⟩:=zzK h ht;unfold zuK;rw[zzD hb hf,obs,if_pos rfl,(wkV h).1,obs,(zyn (wkV h).2 (by have:=h.e6; omega) (by have:=h.p4; omega)).some_of ht,obs,if_pos rfl,zzl h (wkV h).2 d1 d2 fun i hi _=>(d3 i hi).2,noO]; rfl
theorem zzN{b:Boo}(hb:zsY b){t:Tr}(h:zxa b ≠ 0\/¬ zym b t):zuK b t=some false:=by
 unfold zuK;rw[zxG hb,obs]
 by_cases hf:zxa b=0
 ·have hv:=zy9 hf;rw[if_pos hf,(wkV hv).1,obs,(zyn (wkV hv).2 (by have:=hv.e6; omega) (by have:=hv.p4; omega)).some_not (h.resolve_left (fun hh=>hh hf)),obs,if_neg (by simp)]
 ·rw[if_neg hf]
theorem zzO{b:Boo}{t:Tr}(h1:t.Days.length<=9)(h2:t.Sown.length<=9):Ev (ztn b t) (zym b t):=by
 unfold ztn zym;rw[zyl,zyl,List.length_map,List.length_map]
 by_cases c1:t.Days.length=b.Entries.length
 rotate_left
 ·rw[if_neg (by omega)]; exact Ev.ff fun h=>c1 h.1.1
 rw[if_pos (by omega)]
 by_cases c2:t.Sown.length=b.Parcels.length
 rotate_left
 ·rw[if_neg (by omega)]; exact Ev.ff fun h=>c2 h.2.1
 rw[if_pos (by omega)]
 have l2:Ev (ztl b t 1000000 0) ((∀j,j < t.Sown.length->∀r x,(b.Parcels.map (·.Sown))[j]? = some r->t.Sown[j]? = some x->r.Lo<=x/\x<=r.Hi)/\True):=by
  refine Ev.loop (F:=fun d x=>ztl b t d x) (fin:=some true) (fun d k hk=>?_) (fun d=>by rw[ztl,if_neg (Int.lt_irrefl _)]) (by omega) fun _=>Ev.tt trivial;have hg:=List.getElem?_eq_getElem hk;have hg2:=List.getElem?_eq_getElem (l:=b.Parcels) (show k < b.Parcels.length by omega)
  have he:(∀r x,(b.Parcels.map (·.Sown))[k]? = some r->t.Sown[k]? = some x->r.Lo<=x/\x<=r.Hi)↔InN t.Sown[k] b.Parcels[k].Sown.Lo b.Parcels[k].Sown.Hi:=by
   rw[List.getElem?_map,hg,hg2];exact⟨fun h=>h _ _ rfl rfl,fun h r x hr hx=>by cases hr; cases hx; exact h⟩
  rw[he]
  show(_->ztl b t (d+1) (k:Int)=_)/\_
  have e2:ztl b t (d+1) (k:Int)=(zs8 t.Sown[k] b.Parcels[k].Sown.Lo b.Parcels[k].Sown.Hi).bind fun r=>if r=true then ztl b t d ((k:Int)+1) else some false:=by
   rw[ztl,if_pos (by omega),zsy hg,obs,zsy hg2,obs,obs,zrJ (fI (by omega))]
  rw[e2];exact zwN.step (by rw[if_pos rfl]) (by rw[if_neg (by simp)])
 have l1:Ev (ztm b t 1000000 false 0) ((∀j,j < t.Days.length->∀r x,(b.Entries.map (·.Day))[j]? = some r->t.Days[j]? = some x->r.Lo<=x/\x<=r.Hi)/\((∀j,j < t.Sown.length->∀r x,(b.Parcels.map (·.Sown))[j]? = some r->t.Sown[j]? = some x->r.Lo<=x/\x<=r.Hi)/\True)):=by
  refine Ev.loop (F:=fun d x=>ztm b t d false x) (fin:=ztl b t 1000000 0) (fun d k hk=>?_) (fun d=>by rw[ztm,if_neg (Int.lt_irrefl _)]) (by omega) fun _=>l2;have hg:=List.getElem?_eq_getElem hk;have hg2:=List.getElem?_eq_getElem (l:=b.Entries) (show k < b.Entries.length by omega)
  have he:(∀r x,(b.Entries.map (·.Day))[k]? = some r->t.Days[k]? = some x->r.Lo<=x/\x<=r.Hi)↔InN t.Days[k] b.Entries[k].Day.Lo b.Entries[k].Day.Hi:=by
   rw[List.getElem?_map,hg,hg2];exact⟨fun h=>h _ _ rfl rfl,fun h r x hr hx=>by cases hr; cases hx; exact h⟩
  rw[he]
  show(_->ztm b t (d+1) false (k:Int)=_)/\_
  have e2:ztm b t (d+1) false (k:Int)=(zs8 t.Days[k] b.Entries[k].Day.Lo b.Entries[k].Day.Hi).bind fun r=>if r=true then ztm b t d false ((k:Int)+1) else some false:=by
   rw[ztm,if_pos (by omega),zsy hg,obs,zsy hg2,obs,obs,zrJ (fI (by omega))]
  rw[e2];exact zwN.step (by rw[if_pos rfl]) (by rw[if_neg (by simp)])
 refine l1.imp ⟨fun⟨a,b,_⟩=>⟨⟨c1,fun j r x hr hx=>a j (List.getElem?_eq_some_iff.1 hx).1 r x hr hx⟩,c2,fun j r x hr hx=>b j (List.getElem?_eq_some_iff.1 hx).1 r x hr hx⟩,fun⟨⟨_,a⟩,_,b⟩=>⟨fun j _=>a j,fun j _=>b j,trivial⟩⟩
def zzP(l:List Fd):Prop:=∀x∈l,(x.There=true\/x=fd0)/\0<=x.Owner/\x.Owner<=3
theorem zzP.set{l:List Fd}(h:zzP l){i:Nat}{v:Fd}(h1:v.There=true)(h2:0<=v.Owner/\v.Owner<=3):zzP (l.set i v):=fun x hx=>by
 rcases List.mem_or_eq_of_mem_set hx with h' | h'
 ·exact h x h'
 ·rw[h']; exact⟨.inl h1,h2⟩
theorem zzP.at{l:List Fd}(h:zzP l)(i:Int):((zyJ l i).There=true\/zyJ l i=fd0)/\0<=(zyJ l i).Owner/\(zyJ l i).Owner<=3:=by
 unfold zyJ;rw[List.getD_eq_getElem?_getD]
 cases hg:l[i.toNat]? with
 | none=>exact⟨.inr rfl,by decide,by decide⟩
 | some x=>exact h x (List.mem_of_getElem? hg)
theorem zzQ{x:Fd}(h:¬ zyK x=false):x.There=true:=by
 unfold zyK at h
 cases hx:x.There with
 | true=>rfl
 | false=>rw[hx] at h; exact absurd rfl h
theorem zzR{l:List Fd}{e:Evt}(h:zzP l)(hto:e.e.Kind=0->0<=e.e.To/\e.e.To<=3):zzP (zyL l e).2:=by
 have hx:=h.at e.e.Parcel;have hy:=h.at e.e.Other;unfold zyL
 dsimp only
 by_cases c0:zyK (zyJ l e.e.Parcel)=false
 ·rw[if_pos c0]; exact h
 have ht:=zzQ c0;rw[if_neg c0]
 by_cases k0:e.e.Kind=0
 ·rw[if_pos k0]
  split
  ·exact h.set ht (hto k0)
  ·exact h
 rw[if_neg k0]
 by_cases k1:e.e.Kind=1
 ·rw[if_pos k1]
  split
  ·exact h
  ·exact(h.set (v:={ zyJ l e.e.Parcel with Value:=(zyJ l e.e.Parcel).Value - e.e.Part }) ht hx.2).set (v:={ zyJ l e.e.Parcel with Value:=e.e.Part }) ht hx.2
 rw[if_neg k1]
 by_cases k2:e.e.Kind=2
 ·rw[if_pos k2]
  by_cases c1:zyK (zyJ l e.e.Other)=false
  ·rw[if_pos c1]; exact h
  rw[if_neg c1]
  split
  ·exact h
  ·exact(h.set (v:={ zyJ l e.e.Parcel with Owner:=(zyJ l e.e.Other).Owner }) ht hy.2).set (v:={ zyJ l e.e.Other with Owner:=(zyJ l e.e.Parcel).Owner }) (zzQ c1) hx.2
 rw[if_neg k2]
 split
 ·exact h
 ·exact h.set (v:={ zyJ l e.e.Parcel with Gone:=true }) ht hx.2
theorem zzS:∀{L:List Evt} {l l':List Fd},zzP l->(∀e∈L,e.e.Kind=0->0<=e.e.To/\e.e.To<=3)->zyR L l=some l'->zzP l'
 | [],l,l',hs,_,h=>by cases h; exact hs
 | e::L,l,l',hs,hL,h=>by
  have h:(if _ then _ else _)=some l':=h
  split at h
  ·exact zzS (zzR hs (hL e (List.mem_cons_self ..))) (fun x hx=>hL x (List.mem_cons_of_mem _ hx)) h
  ·cases h
theorem zzT{b:Boo}(h:zy8 b){S:List Int}:zzP (zyY b S):=by
 have key:∀(ps:List Pc) (ss:List Int),(∀p∈ps,zwL b p)->zzP (fdP ps ss):=by
  intro ps
  induction ps with
  | nil=>intro ss _ x hx; cases ss <;> simp[fdP] at hx
  | cons p ps ih=>
   intro ss hp
   cases ss with
   | nil=>intro x hx; simp[fdP] at hx
   | cons s ss=>
    intro x hx
    rcases List.mem_cons.1 hx with rfl | hx
    ·have:=(hp p (List.mem_cons_self ..)).1;have ho:=h.o4;unfold InN at this;exact⟨.inl rfl,by show 0<=p.Owner/\p.Owner<=3; omega⟩
    ·exact ih ss (fun q hq=>hp q (List.mem_cons_of_mem _ hq)) x hx
 intro x hx;unfold zyY at hx
 rcases List.mem_append.1 hx with hx | hx
 ·exact key _ _ h.P x hx
 ·rw[List.eq_of_mem_replicate hx]; exact⟨.inr rfl,by decide,by decide⟩
theorem zzU{b:Boo}(h:zy8 b){D:Nat->Int}{o:Nat->Bool}:∀x∈evI b D o,x.e.Kind=0->0<=x.e.To/\x.e.To<=3:=fun x hx k=>by
 obtain⟨i,a1,a2,rfl⟩:=zxX.1 hx;have hg:=List.getElem?_eq_getElem a1;have he:zxg b i=b.Entries[i]:=zxh hg;obtain⟨d1,d2,d3⟩:=h.E _ (List.getElem_mem a1);rw[<- he] at d3;have k:(zxg b i).Kind=0:=k;have ho:=h.o4;unfold zgo InN at d3
 show 0<=(zxg b i).To/\(zxg b i).To<=3
 omega
theorem zzV{b:Boo}(h:zy8 b){t:Tr}{day:Int}(hS:t.Sown.length=b.Parcels.length)(hok:okT b t=true)(hd:0<=day/\day<=b.Last):((thB b t day).length:Int)=zwI b/\zx4 (sOf (thB b t day))/\zzP (thB b t day)/\zyR (bkN (evI b (dF t.Days) fun _=>false) (day.toNat+1)) (zyY b t.Sown)=some (thB b t day):=by
 obtain⟨t',ht',_⟩:=zyF (l:=evI b (dF t.Days) fun _=>false) (n:=day.toNat+1) (k:=(b.Last+1).toNat - (day.toNat+1));rw[show day.toNat+1+((b.Last+1).toNat - (day.toNat+1))=(b.Last+1).toNat by omega] at ht';unfold okT okB at hok;rw[ht',zyT] at hok
 cases hr:zyR (bkN (evI b (dF t.Days) fun _=>false) (day.toNat+1)) (zyY b t.Sown) with
 | none=>rw[hr] at hok; cases hok
 | some s=>
  have e:thB b t day=s:=by
   unfold thB thN;rw[if_pos (by omega),hr]; rfl
  have hb:=zyZ (b:=b) hS;rw[e];refine⟨by rw[zyU hr]; exact hb,zzb (zzd h hS) (fun x hx=>zza h hb x (zyx.1 hx).1) hr,zzS (zzT h) (fun x hx=>zzU h x (zyx.1 hx).1) hr,rfl⟩
theorem zzW{x:Fd}{day:Int}:ztu x day=some (zyK x && decide (x.Sown<=day)):=by
 unfold ztu zyK
 cases x.There with
 | false=>rw[if_neg (by simp)]; rfl
 | true=>
  rw[if_pos rfl]
  cases x.Gone with
  | true=>rw[if_pos rfl]; rfl
  | false=>rw[if_neg (by simp)]; rfl
theorem zzX{t:Tr}(h1:t.Days.length<=1000)(h2:t.Sown.length<=1000):ztA t=some t:=by
 unfold ztA ztw;rw[zrJ (by rw[List.length_nil]; omega),obs,zrJ (by rw[List.length_nil]; omega)]; rfl
theorem zzY:zze 0 fun _=>false:=⟨by omega,fun k _=>by simp⟩
theorem zzZ{b:Boo}{f:Int->Hd}{i:Nat}(hi:(i:Int) < zwI b):((segI 0 (zwI b).toNat).map f)[i]? = some (f (i:Int)):=by
 rw[List.getElem?_map,zsH (by omega),Int.zero_add]; rfl
theorem zz0{b:Boo}{f:Int->Hd}:((segI 0 (zwI b).toNat).map f).length=(zwI b).toNat:=by
 rw[List.length_map]
 have key:∀(n:Nat) (x:Int),(segI x n).length=n:=by
  intro n
  induction n with
  | zero=>intro x; rfl
  | succ n ih=>intro x; show(segI (x+1) n).length+1=n+1; rw[ih]
 exact key _ _
theorem zz1{x:Fd}(hx:x.There=true\/x=fd0){day:Int}:(((zyo (plF x) day).There == x.There) && (((zyo (plF x) day).Covered == (zyK x && decide (x.Sown<=day))) && ((decide ((zyo (plF x) day).Owner=x.Owner)) && (decide ((zyo (plF x) day).Value=x.Value)))))=true:=by
 by_cases h:x.There=true
 ·have e:zyo (plF x) day={ There:=true,Covered:=zyK x && decide (x.Sown<=day),Owner:=x.Owner,Value:=x.Value }:=by
   unfold zyo;rw[if_pos (show(plF x).there=true from h)]; rfl
  rw[e,h]; simp
 ·have e0:=hx.resolve_left h
  have e:zyo (plF x) day=hd0:=by
   unfold zyo;rw[if_neg (show ¬ (plF x).there=true from h)]
  rw[e,e0]; rfl
theorem zz2{x:Fd}(ho:0<=x.Owner/\x.Owner<=3)(hv:0<=x.Value/\x.Value<=1000){day:Int}:znq .i64 (zyo (plF x) day).Owner/\znq .i64 (zyo (plF x) day).Value:=by
 unfold zyo
 split
 ·exact⟨fI (by show _<=x.Owner/\x.Owner < _; omega),fI (by show _<=x.Value/\x.Value < _; omega)⟩
 ·exact⟨fI (by decide),fI (by decide)⟩
instance decInN {n lo hi:Int}:Decidable (InN n lo hi):=inferInstanceAs (Decidable (lo<=n/\n<=hi))
theorem zz3{b:Boo}{day:Int}{th:List Fd}(hl:(th.length:Int)=zwI b)(he:zwI b<=200)(hs:zx4 (sOf th))(hv:zzP th){r:List Hd × Int}(hr:r.1=(segI 0 (zwI b).toNat).map fun i=>zyo (zx0 (sOf th) i) day){q:List Fd × Bool}(hq:q.1=th):∀(d k:Nat),(k:Int)<=zwI b->(zwI b).toNat - k < d->zuO day r q d (k:Int)=some true
 | 0,_,_,h=>by omega
 | d+1,k,hk,h=>by
  rw[zuO,hr,hq,zz0]
  by_cases hkn:(k:Int) < zwI b
  ·have hX:=hv.at (k:Int);have hx:=zy1 (l:=th) (i:=(k:Int)) (by omega);have hval:=zy3 hs (i:=(k:Int)) (by omega);have hp:zx0 (sOf th) (k:Int)=plF (zyJ th (k:Int)):=zyM (by omega);have hg:=zsy (zzZ (b:=b) (f:=fun i=>zyo (zx0 (sOf th) i) day) hkn);rw[if_pos (by omega),hg,obs,hp,hx]
   simp only[obs,zzW]
   generalize zyJ th (k:Int)=x at hX hval;obtain⟨f1,f2⟩:=zz2 hX.2 hval (day:=day);rw[zrJ f1,zrJ (fI (by omega)),zrJ f2,zrJ (fI (by omega)),if_pos (zz1 hX.1),zrJ (fI (by omega)),show(k:Int)+1=((k+1:Nat):Int) by omega];exact zz3 hl he hs hv hr hq d (k+1) (by omega) (by omega)
  ·rw[if_neg (by omega),aw]
theorem zz4{b:Boo}{t:Tr}{day:Int}(hb:zsY b)(_:zsZ t)(_:znq .i64 day):zuP b t day=some true:=by
 unfold zuP
 refine zzE.pick (fun hth=>?_) fun _=>by rw[if_neg (by decide),aw]
 rw[if_pos rfl]
 by_cases c1:(9:Int) < (t.Days.length:Int)
 ·rw[if_pos c1,aw]
 rw[if_neg c1]
 by_cases c2:(9:Int) < (t.Sown.length:Int)
 ·rw[if_pos c2,aw]
 rw[if_neg c2,zzH (by omega) (by omega),obs,zzX (by omega) (by omega),obs]
 by_cases hf:zxa b=0
 ·have h:=zy9 hf;have h6:=h.e6;have h4:=h.p4
  by_cases ht:zym b t
  ·obtain⟨d1,d2,d3⟩:=zzK h ht;have hL:=(zzO (b:=b) (t:=t) (by omega) (by omega)).some_of ht;have hat:=zzh h zzY d1 (day:=day) d2
   have hpl:zuz b t day=some (if InN day 0 b.Last then (if okT b t=true then ((segI 0 (zwI b).toNat).map (fun i=>zyo (zx0 (sOf (thB b t day)) i) day),0) else ([],11)) else ([],2)):=by
    by_cases hd:InN day 0 b.Last
    ·rw[if_pos hd,zzL hb hf ht hd]
    ·rw[if_neg hd,zyw hb hf fun hh=>hd hh.2]
   have hev:zwI b<=200:=(zwR (b:=b) (by omega) (by omega)).2;rw[hpl,obs,obs,obs,zzM hb hf ht,obs,zzF hb,obs,obs,zxG hb,obs,if_pos rfl,if_pos hf,hL,obs,if_pos rfl,hat,obs,zzj,if_pos (by show(okB b (fun _=>false) (dF t.Days) t.Sown == okB b (fun _=>false) (dF t.Days) t.Sown)=true; exact beq_self_eq_true _),obs,if_pos rfl]
   by_cases hd:InN day 0 b.Last
   ·rw[if_pos hd,zwN.some_of hd,obs,if_pos rfl]
    by_cases hok:okT b t=true
    ·obtain⟨t1,t2,t3,t4⟩:=zzV h d2 hok hd
     have hat1:(atR (evI b (dF t.Days) fun _=>false) (zyY b t.Sown) day (b.Last+1).toNat).1=thB b t day:=by
      have hk:(zyR (bkN (evI b (dF t.Days) fun _=>false) (b.Last+1).toNat) (zyY b t.Sown)).isSome=true:=hok;unfold atR
      cases hr:zyR (bkN (evI b (dF t.Days) fun _=>false) (b.Last+1).toNat) (zyY b t.Sown) with
      | none=>rw[hr] at hk; cases hk
      | some s=>rfl
     rw[if_pos (show okB b (fun _=>false) (dF t.Days) t.Sown=true from hok),if_pos hok]
     show(if (0:Int)=0 then _ else _)=_
     rw[if_pos rfl,zwQ (by omega) (by omega),obs]
     show(if ((((segI 0 (zwI b).toNat).map (fun i=>zyo (zx0 (sOf (thB b t day)) i) day)).length:Nat):Int)=zwI b then (if ((atR (evI b (dF t.Days) fun _=>false) (zyY b t.Sown) day (b.Last+1).toNat).1.length:Int)=((((segI 0 (zwI b).toNat).map (fun i=>zyo (zx0 (sOf (thB b t day)) i) day)).length:Nat):Int) then _ else _) else _)=_
     rw[hat1,zz0,if_pos (by omega),if_pos (by omega)];exact zz3 t1 hev t2 t3 rfl hat1 _ 0 (by omega) (by omega)
    ·rw[if_neg (show ¬ okB b (fun _=>false) (dF t.Days) t.Sown=true from hok),if_neg hok]
     show(if (11:Int)=11 then (if (0:Int)=0 then _ else _) else _)=_
     rw[if_pos rfl,if_pos rfl,aw]
   ·rw[if_neg hd,zwN.some_not hd,obs,if_neg (by decide)]
    show(if (2:Int)=2 then (if (0:Int)=0 then _ else _) else _)=_
    rw[if_pos rfl,if_pos rfl,aw]
  ·have hL:=(zzO (b:=b) (t:=t) (by omega) (by omega)).some_not ht;rw[zyw hb hf fun hh=>ht hh.1,obs,obs,obs,zzN hb (.inr ht),obs,zzF hb,obs,obs,zxG hb,obs,if_pos rfl,if_pos hf,hL,obs,if_neg (by decide),if_pos (by decide),obs,if_neg (by decide)]
   show(if (2:Int)=2 then (if (0:Int)=0 then _ else _) else _)=_
   rw[if_pos rfl,if_pos rfl,aw]
 ·rw[zyu hb hf,obs,obs,obs,zzN hb (.inl hf),obs,zzF hb,obs,obs,zxG hb,obs,if_pos rfl,if_neg hf,if_pos (by decide)]
  show(if zxa b=zxa b then (if (0:Int)=0 then _ else _) else _)=_
  rw[if_pos rfl,if_pos rfl,aw]
theorem zz5{L L':List Evt}:∀n,(∀d,d < n->L.filter (onB d)=L'.filter (onB d))->bkN L n=bkN L' n
 | 0,_=>rfl
 | n+1,h=>by
  rw[bkN,bkN,zz5 n fun d hd=>h d (by omega),h n (by omega)]
theorem zz6{b:Boo}{D E:Nat->Int}{o:Nat->Bool}{d:Nat}:∀k,(∀i,i < k->D i=E i\/((d:Int) < D i/\(d:Int) < E i))->(evK b D o k).filter (onB d)=(evK b E o k).filter (onB d)
 | 0,_=>rfl
 | k+1,h=>by
  rw[zxV,zxV,List.filter_append,List.filter_append,zz6 k fun i hi=>h i (by omega)]
  congr 1
  cases o k with
  | true=>rfl
  | false=>
   rw[if_neg (by simp),if_neg (by simp)]
   rcases h k (by omega) with h1 | ⟨h1,h2⟩
   ·unfold zxU; rw[h1]
   ·rw[List.filter_cons,List.filter_cons,if_neg (fun hh=>by have:D k=(d:Int):=of_decide_eq_true hh; omega),if_neg (fun hh=>by have:E k=(d:Int):=of_decide_eq_true hh; omega)]
theorem zz7{b:Boo}(h:zy8 b){n:Int}(hn:0<=n/\n<=65535):∃t,zuN b n=some (t,okT b t)/\zym b t/\t.Days.length<=6/\t.Sown.length<=4:=by
 obtain⟨hm,hm1⟩:=zzB h;have hm2:=h.m;have h1:=Int.emod_nonneg n (show zwT 1 (zw5 b) ≠ 0 by omega);have h2:=Int.emod_lt_of_pos n (show 0 < zwT 1 (zw5 b) by omega);obtain⟨a1,a2,a3,a4⟩:=zzq h (zzC h h1)
 have hfit:zym b (zzm b.Entries.length (zzt (zw5 b) (n % zwT 1 (zw5 b)))):=by
  refine⟨?_,a2⟩;rw[zyl,List.length_map];refine⟨a1,fun j r x hr hx=>?_⟩
  have hj:j < b.Entries.length:=by have:=(List.getElem?_eq_some_iff.1 hx).1; omega
  have e:dF (zzm b.Entries.length (zzt (zw5 b) (n % zwT 1 (zw5 b)))).Days j=x:=by unfold dF; rw[List.getD_eq_getElem?_getD,hx]; rfl
  have hd:=(a4 j hj).1;rw[e] at hd;rw[List.getElem?_map,List.getElem?_eq_getElem hj] at hr;have hr:=oi hr;rw[<- hr,<- zxh (List.getElem?_eq_getElem hj)];exact hd
 refine⟨_,?_,hfit,by rw[a1]; exact h.e6,by rw[a3]; exact h.p4⟩;unfold zuN;rw[hm,obs,zrJ hn.1,zrJ (by omega),zrJ (fI (by omega)),zzz h (by omega),obs,zzh h zzY a1 a3,obs,zzj]; rfl
theorem zz8{b:Boo}{t:Tr}(ht:zym b t){x:List Int}(hl:x.length=t.Days.length)(hx:∀i,i < b.Entries.length->(zxg b i).Day.Lo<=dF x i/\dF x i<=(zxg b i).Day.Hi):zym b { Days:=x,Sown:=t.Sown }:=by
 have l1:=zwG ht.1;rw[List.length_map] at l1;refine⟨?_,ht.2⟩;rw[zyl,List.length_map];refine⟨by show x.length=_; omega,fun j r y hr hy=>?_⟩;have hy:x[j]? = some y:=hy
 have hj:j < b.Entries.length:=by have:=(List.getElem?_eq_some_iff.1 hy).1; omega
 have e:dF x j=y:=by unfold dF; rw[List.getD_eq_getElem?_getD,hy]; rfl
 have hd:=hx j hj;rw[e] at hd;rw[List.getElem?_map,List.getElem?_eq_getElem hj] at hr;have hr:=oi hr;rw[<- hr,<- zxh (List.getElem?_eq_getElem hj)];exact hd
def zz9(t u:Tr)(day:Int)(k:Nat)(i:Nat):Int:=if i < k/\day < dF t.Days i/\day < dF u.Days i then dF u.Days i else dF t.Days i
def zAa(t u:Tr)(day:Int)(k:Nat):List Int:=(List.range t.Days.length).map (zz9 t u day k)
theorem zAb{t u:Tr}{day:Int}{k i:Nat}(hi:i < t.Days.length):(zAa t u day k)[i]? = some (zz9 t u day k i):=by
 unfold zAa;rw[List.getElem?_map,List.getElem?_range hi]; rfl
theorem zAc{t u:Tr}{day:Int}{k:Nat}:(zAa t u day k).length=t.Days.length:=by unfold zAa; rw[List.length_map,List.length_range]
theorem zAd{t u:Tr}{day:Int}:zAa t u day 0=t.Days:=by
 refine List.ext_getElem? fun i=>?_
 by_cases hi:i < t.Days.length
 ·rw[zAb hi];unfold zz9 dF;rw[if_neg (by omega),List.getD_eq_getElem?_getD,List.getElem?_eq_getElem hi]; rfl
 ·rw[List.getElem?_eq_none (by rw[zAc]; omega),List.getElem?_eq_none (by omega)]
theorem zAe{t u:Tr}{day:Int}{k:Nat}(hk:k < t.Days.length):zAa t u day (k+1)=if day < dF t.Days k/\day < dF u.Days k then (zAa t u day k).set k (dF u.Days k) else zAa t u day k:=by
 refine List.ext_getElem? fun i=>?_
 by_cases hi:i < t.Days.length
 ·rw[zAb hi]
  by_cases hc:day < dF t.Days k/\day < dF u.Days k
  ·rw[if_pos hc,List.getElem?_set]
   by_cases hik:k=i
   ·subst hik;rw[if_pos rfl,if_pos (by rw[zAc]; exact hk)];unfold zz9;rw[if_pos ⟨by omega,hc⟩]
   ·rw[if_neg hik,zAb hi];unfold zz9
    by_cases h2:i < k/\day < dF t.Days i/\day < dF u.Days i
    ·rw[if_pos h2,if_pos ⟨by omega,h2.2⟩]
    ·rw[if_neg h2,if_neg (fun hh=>h2 ⟨by omega,hh.2⟩)]
  ·rw[if_neg hc,zAb hi];unfold zz9
   by_cases h2:i < k/\day < dF t.Days i/\day < dF u.Days i
   ·rw[if_pos h2,if_pos ⟨by omega,h2.2⟩]
   ·rw[if_neg h2,if_neg (fun hh=>by
     by_cases hik:i=k
     ·subst hik; exact hc hh.2
     ·exact h2 ⟨by omega,hh.2⟩)]
 ·have l1:=zAc (t:=t) (u:=u) (day:=day) (k:=k+1);have l2:=zAc (t:=t) (u:=u) (day:=day) (k:=k);rw[List.getElem?_eq_none (by omega)]
  split
  ·rw[List.getElem?_eq_none (by rw[List.length_set]; omega)]
  ·rw[List.getElem?_eq_none (by omega)]
theorem zAf{a:Hd}:((a.There == a.There) && ((a.Covered == a.Covered) && ((decide (a.Owner=a.Owner)) && (decide (a.Value=a.Value)))))=true:=by simp
theorem zAg{l:List Hd}(hl:l.length<=1000)(hf:∀a∈l,znq .i64 a.Owner/\znq .i64 a.Value):∀(d k:Nat),k<=l.length->l.length - k < d->zwA (l,0) (l,0) d (k:Int)=some true
 | 0,_,_,h=>by omega
 | d+1,k,hk,h=>by
  rw[zwA]
  show(if (k:Int) < (l.length:Int) then ((idx l (k:Int)).bind fun v=>(idx l (k:Int)).bind _) else _)=_
  by_cases hkn:k < l.length
  ·have hg:=List.getElem?_eq_getElem hkn;obtain⟨f1,f2⟩:=hf _ (List.getElem_mem hkn);rw[if_pos (by omega),zsy hg,obs,obs,zrJ f1,zrJ f1,zrJ f2,zrJ f2,if_pos zAf,zrJ (fI (by omega)),show(k:Int)+1=((k+1:Nat):Int) by omega];exact zAg hl hf d (k+1) (by omega) (by omega)
  ·rw[if_neg (by omega),aw]
theorem zAh{b:Boo}{which other on:Int}(hb:zsY b)(hw:znq .u16 which)(ho:znq .u16 other)(hon:znq .u8 on):zwC b which other on=some true:=by
 unfold zwC
 refine(zzG hb).pick (fun⟨hth,hf⟩=>?_) fun _=>by rw[if_neg (by decide),aw]
 have h:=zy9 hf;have h6:=h.e6;have h4:=h.p4;have hL:=h.L;obtain⟨w1,w2⟩:=zzJ hw;obtain⟨o1,o2⟩:=zzJ ho;obtain⟨n1,n2⟩:=u8w hon;obtain⟨t,t1,t2,t3,t4⟩:=zz7 h (n:=which) (by omega);obtain⟨u,u1,u2,u3,u4⟩:=zz7 h (n:=other) (by omega);obtain⟨td1,td2,td3⟩:=zzK h t2;obtain⟨ud1,ud2,ud3⟩:=zzK h u2;have m1:=Int.emod_nonneg on (show b.Last+1 ≠ 0 by omega);have m2:=Int.emod_lt_of_pos on (show 0 < b.Last+1 by omega);obtain⟨day,hday⟩:∃day,on % (b.Last+1)=day:=⟨_,rfl⟩
 have e0:zwy t.Days=some (zAa t u day 0):=by
  unfold zwy;rw[zrJ (by rw[List.length_nil]; omega),zAd]; rfl
 rw[if_pos rfl,w1,t1,obs,o1,u1,obs,zrJ (fI (by omega)),n1,zrJ (by omega),zrJ (by omega),zrJ (fI (by omega))]
 show((zwy t.Days).bind _)=_
 rw[e0,obs];rw[hday] at m1 m2;refine zzI (n:=t.Days.length) (fun d (s:List Int) y=>zwB b on (t,okT b t) (u,okT b u) d s y) (fun k=>zAa t u day k) (fun d k hk=>?_) (fun d=>?_) 1000000 0 (by omega) (by omega)
 ·have hg:=List.getElem?_eq_getElem hk;have hg2:=List.getElem?_eq_getElem (l:=u.Days) (show k < u.Days.length by omega)
  have e1:t.Days[k]=dF t.Days k:=by unfold dF; rw[List.getD_eq_getElem?_getD,hg]; rfl
  have e2:u.Days[k]=dF u.Days k:=by unfold dF; rw[List.getD_eq_getElem?_getD,hg2]; rfl
  rw[e1] at hg;rw[e2] at hg2
  show zwB b on (t,okT b t) (u,okT b u) (d+1) (zAa t u day k) (k:Int)=_
  rw[zwB]
  show(if (k:Int) < (t.Days.length:Int) then ((idx t.Days (k:Int)).bind fun x519=>if ((znv .i64 on) % (b.Last+(1:Int))) < x519 then ((idx u.Days (k:Int)).bind fun x522=>if ((znv .i64 on) % (b.Last+(1:Int))) < x522 then ((idx u.Days (k:Int)).bind fun x525=>_) else _) else _) else _)=_
  rw[if_pos (by omega),zsy hg,obs,n1,hday,zAe hk]
  by_cases c1:day < dF t.Days k
  ·rw[if_pos c1,zsy hg2,obs]
   by_cases c2:day < dF u.Days k
   ·rw[if_pos c2,if_pos ⟨c1,c2⟩,obs,zsy (zAb hk),obs,zrJ (fI (by omega)),Int.toNat_natCast]
   ·rw[if_neg c2,if_neg (fun hh=>c2 hh.2),zrJ (fI (by omega))]
  ·rw[if_neg c1,if_neg (fun hh=>c1 hh.1),zrJ (fI (by omega))]
 ·show zwB b on (t,okT b t) (u,okT b u) (d+1) (zAa t u day t.Days.length) (t.Days.length:Int)=_
  rw[zwB]
  show(if (t.Days.length:Int) < (t.Days.length:Int) then _ else _)=_
  have hxl:=zAc (t:=t) (u:=u) (day:=day) (k:=t.Days.length)
  have hxd:∀i,i < b.Entries.length->dF (zAa t u day t.Days.length) i=zz9 t u day t.Days.length i:=fun i hi=>by
   unfold dF;rw[List.getD_eq_getElem?_getD,zAb (by omega)]; rfl
  have hfx:zym b { Days:=zAa t u day t.Days.length,Sown:=t.Sown }:=zz8 t2 hxl fun i hi=>by
   rw[hxd i hi];unfold zz9
   split
   ·exact(ud3 i hi).1
   ·exact(td3 i hi).1
  have hid:InN day 0 b.Last:=⟨m1,by omega⟩;rw[if_neg (Int.lt_irrefl _),n1,hday,zzH (by omega) (by omega),obs]
  show((ztA t).bind _)=_
  rw[zzX (by omega) (by omega),obs,zzL hb hf t2 hid,obs,obs]
  show((ztA { Days:=zAa t u day t.Days.length,Sown:=t.Sown }).bind _)=_
  rw[zzX (by show(zAa t u day t.Days.length).length<=_; omega) (by show t.Sown.length<=_; omega),obs,zzL hb hf hfx hid,obs]
  show(if okT b t=true then _ else _)=_
  by_cases hok:okT b t=true
  ·obtain⟨a1,a2,a3,a4⟩:=zzV h td2 hok hid;have hev:zwI b<=200:=(zwR (b:=b) (by omega) (by omega)).2
   have hfits:∀a∈(segI 0 (zwI b).toNat).map (fun i=>zyo (zx0 (sOf (thB b t day)) i) day),znq .i64 a.Owner/\znq .i64 a.Value:=fun a ha=>by
    obtain⟨j,hj⟩:=List.getElem?_of_mem ha;have hjl:=(List.getElem?_eq_some_iff.1 hj).1;rw[zz0] at hjl;rw[zzZ (b:=b) (by omega)] at hj;have hj:=oi hj;rw[<- hj,zyM (by omega)];exact zz2 (a3.at _).2 (zy3 a2 (by omega))
   rw[if_pos hok,if_pos hok]
   show(if (0:Int)=0 then _ else _)=_
   rw[if_pos rfl]
   by_cases hokx:okT b { Days:=zAa t u day t.Days.length,Sown:=t.Sown }=true
   ·have hth:thB b { Days:=zAa t u day t.Days.length,Sown:=t.Sown } day=thB b t day:=by
     unfold thB thN
     have e:bkN (evI b (dF (zAa t u day t.Days.length)) fun _=>false) (day.toNat+1)=bkN (evI b (dF t.Days) fun _=>false) (day.toNat+1):=zz5 _ fun d hd=>by
      unfold evI;refine zz6 _ fun i hi=>?_;rw[hxd i hi];unfold zz9
      by_cases hc:i < t.Days.length/\day < dF t.Days i/\day < dF u.Days i
      ·rw[if_pos hc]; exact .inr ⟨by omega,by omega⟩
      ·rw[if_neg hc]; exact .inl rfl
     show(if _ then (zyR (bkN (evI b (dF (zAa t u day t.Days.length)) fun _=>false) (day.toNat+1)) (zyY b t.Sown)).getD [] else [])=_
     rw[e]
    rw[if_pos hokx,hth]
    show(if (0:Int)=0 then (if _ then _ else _) else _)=_
    rw[if_pos rfl,if_pos rfl];exact zAg (by rw[zz0]; omega) hfits _ 0 (Nat.zero_le _) (by rw[Nat.sub_zero]; exact Nat.lt_succ_self _)
   ·rw[if_neg hokx]
    show(if (11:Int)=0 then _ else (if (11:Int)=11 then _ else _))=_
    rw[if_neg (by decide),if_pos rfl]
    show zwz _ ([],11) (0+1) 0=_
    rw[zwz]
    show(if (0:Int) < 0 then _ else _)=_
    rw[if_neg (by decide),aw]
  ·rw[if_neg hok,if_neg hok]
   show(if (11:Int)=11 then _ else _)=_
   rw[if_pos rfl,aw]
end
end Go.Proofs.YtlkgdadfbfafcaaGreat

