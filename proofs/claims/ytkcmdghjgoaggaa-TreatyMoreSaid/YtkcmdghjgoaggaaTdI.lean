/- An evaluator of code, its soundness, and what functions of the program do. Condition: none; a lemma text. -/
import Derived.Test.YtkcmdghjgoaggaaTdH

namespace Go.Proofs.Ytkcmdghjgoaggaa
open _root_.Go.Proofs.Try
open Go.Abs
set_option maxRecDepth 100000
noncomputable section
def zwi(f:M)(x:C)(g:Oc->Option (Int)):Prop:=∀(f' m:M) (a0:Oc) (r:Int) (Q:V->M->Prop),Sub f f'->Pre f' m->g a0=some r->(∀m',Ext m m'->Q (.c (.int .i64 r)) m')->zmx prog tbl [.agg 11 [(.int .i64 a0.pays.p0),(.int .i64 a0.pays.p1),(.int .i64 a0.pays.p2),(.int .i64 a0.pays.p3),(.int .i64 a0.pays.p4),(.int .i64 a0.keeps.p0),(.int .i64 a0.keeps.p1),(.int .i64 a0.keeps.p2),(.int .i64 a0.keeps.p3),(.int .i64 a0.keeps.p4),(.int .i64 a0.society)]] x m Q
theorem zwi.sub{f m:M}{x:C}{g:Oc->Option (Int)}(h:zwi f x g)(s:Sub f m):zwi m x g:=fun f' m' a0 r Q hs=>h f' m' a0 r Q (s.trans hs)
theorem zwj:KL prog 81 P5:=zqR (n:=5) (ks:=[.int .i64,.int .i64,.int .i64,.int .i64,.int .i64]) (by kernel_rfl) (by kernel_rfl) (cs:=fun k=>[.int .i64 k.p0,.int .i64 k.p1,.int .i64 k.p2,.int .i64 k.p3,.int .i64 k.p4]) (fun _=>rfl) fun a b fa fb=>⟨_,_,(zqQ (zqN fa.1 fb.1) (zqQ (zqN fa.2.1 fb.2.1) (zqQ (zqN fa.2.2.1 fb.2.2.1) (zqQ (zqN fa.2.2.2.1 fb.2.2.2.1) (zqQ (zqN fa.2.2.2.2.1 fb.2.2.2.2.1) zqP))))),⟨fun h=>by obtain⟨ap0,ap1,ap2,ap3,ap4⟩:=a; obtain⟨bp0,bp1,bp2,bp3,bp4⟩:=b; simp_all,fun h=>by subst h; exact⟨rfl,rfl,rfl,rfl,rfl,trivial⟩⟩⟩
theorem zwk:∀a b:P5,MK.enc a=MK.enc b->a=b:=fun a b h=>by
 obtain⟨ap0,ap1,ap2,ap3,ap4⟩:=a; obtain⟨bp0,bp1,bp2,bp3,bp4⟩:=b
 injection h with h1 h2
 simp only[List.cons.injEq,C.int.injEq,true_and,and_true] at h2
 simp_all
theorem zwl:TA prog 26 2:=⟨33,by kernel_rfl,by kernel_rfl,by kernel_rfl⟩
theorem zwm:TA prog 43 4:=⟨107,by kernel_rfl,by kernel_rfl,by kernel_rfl⟩
theorem zwn:TA prog 128 11:=⟨83,by kernel_rfl,by kernel_rfl,by kernel_rfl⟩
theorem zwo{p:Pg}{ca100 ca102 ca103:C}{m f:M}{Q:V->M->Prop}{rz:List (List Int)}(hS:Pre f m)(ha100:Sl f ca100 p.Losses)(ha102:Sl f ca102 p.Treaties)(ha103:Sl f ca103 p.Reports)(hp:ztM p=some rz)(hq:∀m' f' c0,Grw m f m' f'->ItW prog tbl f' c0 rz->Q (.c c0) m'):Wc prog tbl 70 [.agg 4 [ca100,Il p.Reserve,ca102,ca103]] m Q:=by
 have y:=hS.st;obtain⟨z,_⟩:=zsk;refine w70 ?_;unfold ztM at hp;intro J g;obtain⟨a,d,A,h⟩:=y.blk g z 1;refine⟨_,_,_,_,h.bk.ra,?_⟩;obtain⟨i,j,hp⟩:=zqq hp;refine zvr (p:=p) d.pre ha100 ha102 ha103 j fun N B D n o=>?_;obtain⟨e,F⟩:=d.callG n a;refine⟨_,rfl,?_⟩;obtain⟨G,q,hp⟩:=zqq hp;refine zwe (l:=i) e.pre o q fun O r s t u=>?_;obtain⟨w,I⟩:=e.callG t a;refine⟨_,rfl,?_⟩;obtain rfl:=oi hp;exact hq _ r s w.grw u
theorem zwp{p:Pg}{losses:List Int}{ca100 ca102 ca103 ca200:C}{m f:M}{Q:V->M->Prop}{rz:List Int × Int × Int}(hS:Pre f m)(ha100:Sl f ca100 p.Losses)(ha102:Sl f ca102 p.Treaties)(ha103:Sl f ca103 p.Reports)(ha200:Sl f ca200 losses)(hp:ztN p losses=some rz)(hq:∀m' f' c0,Grw m f m' f'->Sl f' c0 rz.1->Q (.tup [.c c0,.c (Il rz.2.1),.c (Il rz.2.2)]) m'):Wc prog tbl 8 [.agg 4 [ca100,Il p.Reserve,ca102,ca103],.c ca200] m Q:=by
 have S0:=hS.st;obtain⟨τ0,_⟩:=zsk;refine w8 ?_;unfold ztN at hp;intro m0 aa;obtain⟨q,A,Mb,B⟩:=S0.blk aa τ0 1;refine⟨_,_,_,_,B.bk.ra,?_⟩;obtain⟨Nb,ba,hp⟩:=zqq hp;refine zvs (p:=p) A.pre ha100 ha102 ha103 ba fun m6 ca=>?_;obtain⟨r,da⟩:=A.call ca q;have D:=B.k da;refine⟨_,rfl,?_⟩;refine zq0 hp (fun ea hp=>?_) fun ea hp=>?_
 ·obtain rfl:=oi hp;exact hq _ f .sl0 r.grw (Sl.nil _)
 refine⟨_,_,_,_,D.bk.ra,?_⟩;obtain⟨Ob,fa,hp⟩:=zqq hp;refine zvt (p:=p) (losses:=losses) r.pre ha100 ha102 ha103 ha200 fa fun Yb ga=>?_;obtain⟨F,ha⟩:=r.call ga q;have G:=D.k ha;refine⟨_,rfl,?_⟩;refine zq2 hp (fun ia hp=>?_) fun ia hp=>?_
 ·obtain rfl:=oi hp;exact hq _ f .sl0 F.grw (Sl.nil _)
 refine⟨_,_,_,_,G.bk.ra,?_⟩;refine w32 ?_;intro m0i221 ja;obtain⟨ka,la,ma,na⟩:=F.blk ja q 2;have oa:=G.k ma;intro m1i221 pa;obtain⟨qa,sa,I,ta⟩:=la.blk pa ka 3;have ua:=oa.k I;have va:=na.k I;intro m2i221 wa;obtain⟨J,N,s,z⟩:=sa.growK wa qa 4;have xa:=ua.k s;have O:=va.k s;have ya:=ta.k s;have za:=z 0 (by decide);have Aa:=z 1 (by decide);refine⟨_,_,_,_,O.bk.ra,?_⟩;obtain⟨d,Ba,hp⟩:=zqq hp;refine zu0 N.pre  Ba fun m8i221 Pb Ca Da Ea Fa Ga=>?_;obtain⟨Ha,e⟩:=N.callG Ea J;have Ia:=xa.k e;have P:=O.k e;have Ja:=ya.k e;have Ka:=za.k e;have La:=Aa.k e;refine⟨_,_,_,_,_,_,_,_,_,_,_,_,_,_,_,_,_,_,rfl,(by rw[show zaL cmC _=true from zoX (zqt ha100.noFn (zqt rfl (zqt ha102.noFn (zqt ha103.noFn zqu))))]; exact(P.bk.ra)),?_⟩;intro m27i221 Ma;obtain⟨Na,g,Oa⟩:=Rs.setM (K:=Mt) (V':=Oc) Ka Ha Ma;have Pa:=Ia.k g;have S:=P.k g;have Qa:=Ja.k g;have Ra:=La.k g;refine⟨(by rw[show zaL cmC _=true from zoX (zqt ha100.noFn (zqt rfl (zqt ha102.noFn (zqt ha103.noFn zqu))))]; exact(S.bk.ra)),?_⟩;intro m28i221 Sa;obtain⟨Ta,h,Ua⟩:=Rs.setS (K:=P5) (α:=Oc) Ra Na Sa;have Va:=Pa.k h;have Wa:=S.k h;have Xa:=Qa.k h;have Ya:=Oa.k h;refine⟨(by rw[show zaL cmC _=true from zoX (zqt ha100.noFn (zqt rfl (zqt ha102.noFn (zqt ha103.noFn zqu))))]; exact(Wa.bk.ra)),?_⟩;obtain⟨Za,ab,t,u,bb⟩:=Xa.sto Ta [ca100,Il p.Reserve,ca102,ca103,Il d.k0.part.Lo,Il d.k0.part.Hi,Il d.k0.above.Lo,Il d.k0.above.Hi,Il d.k0.most.Lo,Il d.k0.most.Hi,Il d.k0.times.Lo,Il d.k0.times.Hi,Ca,Il d.k1.part.Lo,Il d.k1.part.Hi,Il d.k1.above.Lo,Il d.k1.above.Hi,Il d.k1.most.Lo,Il d.k1.most.Hi,Il d.k1.times.Lo,Il d.k1.times.Hi,Da,(.map (m1i221.nxt+0)),(.map (m1i221.nxt+1))]
 have cb:=Va.k u;have T:=Ya.k u;have db:=Ua.k u;refine⟨Za,ab,?_⟩;refine⟨_,_,_,_,_,_,_,_,_,_,_,_,_,_,_,_,_,_,_,_,_,_,_,_,bb.bk.ra,_,_,_,_,_,_,_,_,_,_,_,_,_,_,_,_,_,_,_,_,_,_,_,_,rfl,?_⟩;obtain⟨a,eb,hp⟩:=zqq hp;refine zvE (w:=({ p:=p,kinds:=d,shared:=(some fun _=>none:Option (Mt->Option (Oc))),played:=() }:WkP)) (losses:=losses) t.pre (ha100.sub e.fs) (ha102.sub e.fs) (ha103.sub e.fs) Fa Ga (T.mc t) (show zrF _ _ _ from db.noFn) (ha200.sub e.fs) eb fun Zb fb Z=>?_;obtain⟨gb,hb,Qb⟩:=t.callM T fb Z;have ib:=cb.k hb;refine⟨_,_,_,_,_,_,_,_,_,_,_,rfl,?_⟩;intro ac jb;obtain⟨kb,mb,ob,pb⟩:=gb.blk jb J 6;have qb:=ib.k ob;obtain⟨rb,sb,tb,ub,vb⟩:=pb.sto mb [Il a.1.pays.p0,Il a.1.pays.p1,Il a.1.pays.p2,Il a.1.pays.p3,Il a.1.pays.p4,Il a.1.keeps.p0,Il a.1.keeps.p1,Il a.1.keeps.p2,Il a.1.keeps.p3,Il a.1.keeps.p4,Il a.1.society];have wb:=qb.k ub;refine⟨rb,sb,?_⟩;refine⟨trivial,trivial,_,wb.bk.rc rfl,ha102.isSl,?_⟩
 try rw[ha102.slLen]
 obtain⟨Rb,y,Sb,n⟩:=vb.freeze tb;obtain⟨Tb,hp⟩:=zqr hp;obtain⟨xb,yb,zb⟩:=Bk.arS (α:=Int) (o:=0) (l:=([a.1.pays.p0,a.1.pays.p1,a.1.pays.p2,a.1.pays.p3,a.1.pays.p4]:List Int)) (i:=Int.toNat (0:Int)) (j:=Int.toNat (p.Treaties.length:Int)) n rfl (Nat.le_of_ble_eq_true rfl) (Go.Abs.zri _ ([a.1.pays.p0,a.1.pays.p1,a.1.pays.p2,a.1.pays.p3,a.1.pays.p4]:List Int)) (by omega) (by show Int.toNat (p.Treaties.length:Int)<=5; omega);refine⟨Int.toNat (0:Int),Int.toNat (p.Treaties.length:Int),rfl,(show(p.Treaties.length:Int)=((Int.toNat (p.Treaties.length:Int):Nat):Int) by omega),xb,yb,?_⟩;obtain⟨Ub,Ab,hp⟩:=zqq hp;refine zvI (l:=((([a.1.pays.p0,a.1.pays.p1,a.1.pays.p2,a.1.pays.p3,a.1.pays.p4]:List Int).take (Int.toNat (p.Treaties.length:Int))).drop (Int.toNat (0:Int)))) y.pre zb Ab fun bc Vb Bb Cb Db=>?_;obtain⟨Wb,Y,Eb,Fb⟩:=y.callO Cb Db kb 7;refine⟨_,rfl,trivial,_,(n.sub (Sub.trans Eb.fs Y.sub)).rc rfl,((n.sub y.sub).rc rfl),?_⟩;obtain⟨Gb,Hb,Xb,Ib⟩:=Fb.freeze Y;obtain rfl:=oi hp;exact hq _ Gb Bb Hb.grw Ib
theorem zwq{p:Pg}{ca100 ca102 ca103:C}{m f:M}{Q:V->M->Prop}{rz:Wk}(hS:Pre f m)(ha100:Sl f ca100 p.Losses)(ha102:Sl f ca102 p.Treaties)(ha103:Sl f ca103 p.Reports)(hp:ztP p=some rz)(hq:∀m' f' c0 c2 c3 c12 c21 c22 c23,Grw m f m' f'->Sl f' c0 rz.p.Losses->Sl f' c2 rz.p.Treaties->Sl f' c3 rz.p.Reports->zuD f' c12 rz.kinds.k0.takes->zuD f' c21 rz.kinds.k1.takes->zrF f' c22 rz.shared->MiS f' c23 rz.played->Q (.agg 24 [c0,Il rz.p.Reserve,c2,c3,Il rz.kinds.k0.part.Lo,Il rz.kinds.k0.part.Hi,Il rz.kinds.k0.above.Lo,Il rz.kinds.k0.above.Hi,Il rz.kinds.k0.most.Lo,Il rz.kinds.k0.most.Hi,Il rz.kinds.k0.times.Lo,Il rz.kinds.k0.times.Hi,c12,Il rz.kinds.k1.part.Lo,Il rz.kinds.k1.part.Hi,Il rz.kinds.k1.above.Lo,Il rz.kinds.k1.above.Hi,Il rz.kinds.k1.most.Lo,Il rz.kinds.k1.most.Hi,Il rz.kinds.k1.times.Lo,Il rz.kinds.k1.times.Hi,c21,c22,c23]) m'):Wc prog tbl 39 [.agg 4 [ca100,Il p.Reserve,ca102,ca103]] m Q:=by
 have S0:=hS.st;obtain⟨τ0,_⟩:=zsk;refine w39 ?_;unfold ztP at hp;intro m0 eb;obtain⟨fb,gb,Fe,hb⟩:=S0.blk eb τ0 1;intro m1 jb;obtain⟨kb,mb,ob,pb⟩:=gb.blk jb fb 2;have ma:=hb.k ob;refine⟨_,_,_,_,ma.bk.ra,?_⟩;refine w32 ?_;intro m0i364 qb;obtain⟨rb,sb,na,tb⟩:=mb.blk qb kb 3;have ub:=ma.k na;have vb:=pb.k na;intro m1i364 wb;obtain⟨xb,yb,ia,zb⟩:=sb.blk wb rb 4;have Ab:=ub.k ia;have Bb:=vb.k ia;have Cb:=tb.k ia;intro m2i364 Db;obtain⟨oa,pa,ga,la⟩:=yb.growK Db xb 5;have Eb:=Ab.k ga;have Fb:=Bb.k ga;have qa:=Cb.k ga;have Gb:=zb.k ga;have Hb:=la 0 (by decide);have Ib:=la 1 (by decide);refine⟨_,_,_,_,qa.bk.ra,?_⟩;obtain⟨c,Jb,hp⟩:=zqq hp;refine zu0 pa.pre  Jb fun m8i364 Ge h i Kb sa ta=>?_;obtain⟨Mb,g⟩:=pa.callG Kb oa;have Nb:=Eb.k g;have Ob:=Fb.k g;have ua:=qa.k g;have Pb:=Gb.k g;have Qb:=Hb.k g;have Rb:=Ib.k g;refine⟨_,_,_,_,_,_,_,_,_,_,_,_,_,_,_,_,_,_,rfl,(by rw[show zaL cmC _=true from zoX (zqt ha100.noFn (zqt rfl (zqt ha102.noFn (zqt ha103.noFn zqu))))]; exact(ua.bk.ra)),?_⟩;intro m27i364 Sb;obtain⟨Tb,Z,Ub⟩:=Rs.setM (K:=Mt) (V':=Oc) Qb Mb Sb;have Vb:=Nb.k Z;have Wb:=Ob.k Z;have va:=ua.k Z;have Xb:=Pb.k Z;have Yb:=Rb.k Z;refine⟨(by rw[show zaL cmC _=true from zoX (zqt ha100.noFn (zqt rfl (zqt ha102.noFn (zqt ha103.noFn zqu))))]; exact(va.bk.ra)),?_⟩;intro m28i364 Zb;obtain⟨ac,aa,bc⟩:=Rs.setS (K:=P5) (α:=Oc) Yb Tb Zb;have cc:=Vb.k aa;have dc:=Wb.k aa;have wa:=va.k aa;have ec:=Xb.k aa;have fc:=Ub.k aa;refine⟨(by rw[show zaL cmC _=true from zoX (zqt ha100.noFn (zqt rfl (zqt ha102.noFn (zqt ha103.noFn zqu))))]; exact(wa.bk.ra)),?_⟩
 obtain⟨ha,gc,hc,ba,xa⟩:=ec.sto ac [ca100,Il p.Reserve,ca102,ca103,Il c.k0.part.Lo,Il c.k0.part.Hi,Il c.k0.above.Lo,Il c.k0.above.Hi,Il c.k0.most.Lo,Il c.k0.most.Hi,Il c.k0.times.Lo,Il c.k0.times.Hi,h,Il c.k1.part.Lo,Il c.k1.part.Hi,Il c.k1.above.Lo,Il c.k1.above.Hi,Il c.k1.most.Lo,Il c.k1.most.Hi,Il c.k1.times.Lo,Il c.k1.times.Hi,i,(.map (m1i364.nxt+0)),(.map (m1i364.nxt+1))];have ic:=cc.k ba;have jc:=dc.k ba;have kc:=wa.k ba;have nc:=fc.k ba;have pc:=bc.k ba;refine⟨ha,gc,?_⟩;refine⟨_,_,_,_,_,_,_,_,_,_,_,_,_,_,_,_,_,_,_,_,_,_,_,_,xa.bk.ra,_,_,_,_,_,_,_,_,_,_,_,_,_,_,_,_,_,_,_,_,_,_,_,_,rfl,?_⟩;intro Re qc;obtain⟨ya,sc,J,tc⟩:=hc.blk qc oa 7;have uc:=ic.k J;have vc:=jc.k J;have wc:=kc.k J;have xc:=xa.k J;have yc:=nc.k J;have zc:=pc.k J;obtain⟨Ac,Bc,za,N,Cc⟩:=tc.sto sc [ca100,Il p.Reserve,ca102,ca103,Il c.k0.part.Lo,Il c.k0.part.Hi,Il c.k0.above.Lo,Il c.k0.above.Hi,Il c.k0.most.Lo,Il c.k0.most.Hi,Il c.k0.times.Lo,Il c.k0.times.Hi,h,Il c.k1.part.Lo,Il c.k1.part.Hi,Il c.k1.above.Lo,Il c.k1.above.Hi,Il c.k1.most.Lo,Il c.k1.most.Hi,Il c.k1.times.Lo,Il c.k1.times.Hi,i,(.map (m1i364.nxt+0)),(.map (m1i364.nxt+1))];have Aa:=uc.k N;have Dc:=vc.k N;have Ec:=wc.k N;have Fc:=xc.k N;have Gc:=yc.k N;have Hc:=zc.k N;refine⟨Ac,Bc,?_⟩;refine⟨_,_,_,_,Aa.bk.ra,?_⟩;obtain⟨He,Ic,hp⟩:=zqq hp;refine zwo (p:=p) za.pre (ha100.sub g.fs) (ha102.sub g.fs) (ha103.sub g.fs) Ic fun Se Ie Je Jc Kc=>?_;obtain⟨Nc,e⟩:=za.callG Jc ya;have Ba:=Aa.k e;have Ca:=Dc.k e;have Da:=Ec.k e;have Ea:=Fc.k e;have Fa:=Cc.k e;have Ga:=Gc.k e;have Ha:=Hc.k e
 refine⟨_,rfl,?_⟩;refine zrw (α:=List Int) Nc Kc (σ:=(Option (Mt->Option (Oc))) × (Option (P5->Option (List Oc))) × (Nat->Prop)) 8 (fun st bb=>(False\/(False\/(False\/(False\/(False\/(False\/(st.2.2 bb)))))))) (fun st gG gF gT gM=>(Lb gG gF gT gM 1 m.nxt 4 [ca100,Il p.Reserve,ca102,ca103])/\(Lb gG gF gT gM 2 m0.nxt 24 [.sl0,Il 0,.sl0,.sl0,Il 0,Il 0,Il 0,Il 0,Il 0,Il 0,Il 0,Il 0,C.nilFn,Il 0,Il 0,Il 0,Il 0,Il 0,Il 0,Il 0,Il 0,C.nilFn,C.map0,C.map0])/\(Lb gG gF gT gM 3 m1.nxt 4 [ca100,Il p.Reserve,ca102,ca103])/\(Lb gG gF gT gM 4 m0i364.nxt 24 [ca100,Il p.Reserve,ca102,ca103,Il c.k0.part.Lo,Il c.k0.part.Hi,Il c.k0.above.Lo,Il c.k0.above.Hi,Il c.k0.most.Lo,Il c.k0.most.Hi,Il c.k0.times.Lo,Il c.k0.times.Hi,h,Il c.k1.part.Lo,Il c.k1.part.Hi,Il c.k1.above.Lo,Il c.k1.above.Hi,Il c.k1.most.Lo,Il c.k1.most.Hi,Il c.k1.times.Lo,Il c.k1.times.Hi,i,(.map (m1i364.nxt+0)),(.map (m1i364.nxt+1))])/\(Lb gG gF gT gM 7 ha.nxt 24 [ca100,Il p.Reserve,ca102,ca103,Il c.k0.part.Lo,Il c.k0.part.Hi,Il c.k0.above.Lo,Il c.k0.above.Hi,Il c.k0.most.Lo,Il c.k0.most.Hi,Il c.k0.times.Lo,Il c.k0.times.Hi,h,Il c.k1.part.Lo,Il c.k1.part.Hi,Il c.k1.above.Lo,Il c.k1.above.Hi,Il c.k1.most.Lo,Il c.k1.most.Hi,Il c.k1.times.Lo,Il c.k1.times.Hi,i,(.map (m1i364.nxt+0)),(.map (m1i364.nxt+1))])/\(Mo gG gF gT gM 5 (.map (m1i364.nxt+0)) st.1)/\(MoS gG gF gT gM 6 (.map (m1i364.nxt+1)) st.2.1 st.2.2)) (fun rr_ st=>ztO p c rr_ st.1 st.2.1=some rz) (fun ex st=>False) (fun st=>(Gux.and (Gux.lb Ba.bk.lt (by decide)) (Gux.and (Gux.lb Ca.bk.lt (by decide)) (Gux.and (Gux.lb Da.bk.lt (by decide)) (Gux.and (Gux.lb Ea.bk.lt (by decide)) (Gux.and (Gux.lb Fa.bk.lt (by decide)) (Gux.and (Gux.mo Ga.lt (by decide)) (Gux.moz Ha.lt (by decide))))))))) (st0:=((some fun _=>none:Option (Mt->Option (Oc))),(some fun _=>none:Option (P5->Option (List Oc))),(fun _=>False))) (τ:=ya) ⟨Ba,Ca,Da,Ea,Fa,Ga,Ha⟩ hp ?_ ?_ ?_ ?_
 ·intro Ia Pc st l n ca s Ke ze Ae Be _ _ Qc da hA Qa hp hrep Ce Ra Sa;obtain⟨Me,rfl,⟨Rc,_⟩⟩:=hrep;obtain⟨O,ea,ja⟩:=st;obtain⟨P,t,S,T,u,y,z⟩:=hA
  replace P:Lb s l n ca 1 m.nxt 4 [ca100,Il p.Reserve,ca102,ca103]:=P
  replace t:Lb s l n ca 2 m0.nxt 24 [.sl0,Il 0,.sl0,.sl0,Il 0,Il 0,Il 0,Il 0,Il 0,Il 0,Il 0,Il 0,C.nilFn,Il 0,Il 0,Il 0,Il 0,Il 0,Il 0,Il 0,Il 0,C.nilFn,C.map0,C.map0]:=t
  replace S:Lb s l n ca 3 m1.nxt 4 [ca100,Il p.Reserve,ca102,ca103]:=S
  replace T:Lb s l n ca 4 m0i364.nxt 24 [ca100,Il p.Reserve,ca102,ca103,Il c.k0.part.Lo,Il c.k0.part.Hi,Il c.k0.above.Lo,Il c.k0.above.Hi,Il c.k0.most.Lo,Il c.k0.most.Hi,Il c.k0.times.Lo,Il c.k0.times.Hi,h,Il c.k1.part.Lo,Il c.k1.part.Hi,Il c.k1.above.Lo,Il c.k1.above.Hi,Il c.k1.most.Lo,Il c.k1.most.Hi,Il c.k1.times.Lo,Il c.k1.times.Hi,i,(.map (m1i364.nxt+0)),(.map (m1i364.nxt+1))]:=T
  replace u:Lb s l n ca 7 ha.nxt 24 [ca100,Il p.Reserve,ca102,ca103,Il c.k0.part.Lo,Il c.k0.part.Hi,Il c.k0.above.Lo,Il c.k0.above.Hi,Il c.k0.most.Lo,Il c.k0.most.Hi,Il c.k0.times.Lo,Il c.k0.times.Hi,h,Il c.k1.part.Lo,Il c.k1.part.Hi,Il c.k1.above.Lo,Il c.k1.above.Hi,Il c.k1.most.Lo,Il c.k1.most.Hi,Il c.k1.times.Lo,Il c.k1.times.Hi,i,(.map (m1i364.nxt+0)),(.map (m1i364.nxt+1))]:=u
  replace y:Mo s l n ca 5 (.map (m1i364.nxt+0)) O:=y
  replace z:MoS s l n ca 6 (.map (m1i364.nxt+1)) ea ja:=z
  replace hp:ztO p c (Ia::Pc) O ea=some rz:=hp
  rw[ztO] at hp;refine⟨_,rfl,?_⟩;refine Ra _ _ _ _ Qc Qa fun Te Ne ka A Ta Ua=>?_;have Tc:=P.k A;have Uc:=t.k A;have Vc:=S.k A;have Xc:=T.k A;have Ja:=u.k A;have Ka:=y.k A;have La:=z.k A;refine⟨_,_,_,_,_,_,_,_,_,_,_,_,_,_,_,_,_,_,_,_,_,_,_,_,Ja.bk.ra,?_⟩;obtain⟨d,Yc,hp⟩:=zqq hp;refine zvE (w:=({ p:=p,kinds:=c,shared:=O,played:=() }:WkP)) (losses:=Ia) ka.pre (ha100.sub (Sub.trans (Sub.trans g.fs e.fs) da)) (ha102.sub (Sub.trans (Sub.trans g.fs e.fs) da)) (ha103.sub (Sub.trans (Sub.trans g.fs e.fs) da)) (sa.sub (Sub.trans e.fs da)) (ta.sub (Sub.trans e.fs da)) (Ka.mc ka) (show zrF _ _ _ from La.noFn) Rc Yc fun Ue Zc Va=>?_;obtain⟨ad,B,bd⟩:=ka.callM Ka Zc Va;have cd:=Tc.k B;have dd:=Uc.k B;have ed:=Vc.k B;have fd:=Xc.k B;have hd:=Ja.k B;have jd:=La.k B;have Wa:=Ta.k B;refine⟨_,_,_,_,_,_,_,_,_,_,_,rfl,?_⟩;intro Ve kd;obtain⟨ld,md,o,nd⟩:=ad.blk kd n 9;have od:=cd.k o;have pd:=dd.k o;have qd:=ed.k o;have sd:=fd.k o;have td:=hd.k o;have ud:=bd.k o;have vd:=jd.k o;have Xa:=Wa.k o;obtain⟨xd,yd,zd,q,Ma⟩:=nd.sto md [Il d.1.pays.p0,Il d.1.pays.p1,Il d.1.pays.p2,Il d.1.pays.p3,Il d.1.pays.p4,Il d.1.keeps.p0,Il d.1.keeps.p1,Il d.1.keeps.p2,Il d.1.keeps.p3,Il d.1.keeps.p4,Il d.1.society];have Ad:=od.k q;have Cd:=pd.k q;have Dd:=qd.k q;have Ed:=sd.k q;have Na:=td.k q;have Fd:=ud.k q;have Gd:=vd.k q;have Ya:=Xa.k q;refine⟨xd,yd,?_⟩;refine⟨trivial,_,Na.bk.rc rfl,trivial,_,_,_,_,_,Ma.bk.rp (k:=0) (j:=5) rfl (by omega),_,_,_,_,_,_,_,_,_,_,_,Ma.bk.ra,?_⟩;intro Oe Hd
  obtain⟨Pe,Id,r,Jd⟩:=zd.blk Hd ld 10;have Ld:=Ad.k r;have Md:=Cd.k r;have Nd:=Dd.k r;have Od:=Ed.k r;have Pd:=Na.k r;have Qd:=Fd.k r;have Rd:=Gd.k r;have Za:=Ya.k r;obtain⟨Sd,hp⟩:=zqr hp;obtain⟨Td,hp⟩:=zqr hp;obtain⟨Ud,Vd,hp⟩:=zqq hp;obtain⟨Wd,Oa,Xd,Yd,Zd,ae,Qe,be,ce,de,ee,fe,D,ge⟩:=MoS.opa zwn zwj Id Rd (k:=d.1.pays) Sd (a:=d.1) Jd rfl (show Rp.rep (α:=Oc) l _ d.1 from rfl) Td Vd (kv:=.agg 5 [Il d.1.pays.p0,Il d.1.pays.p1,Il d.1.pays.p2,Il d.1.pays.p3,Il d.1.pays.p4]) rfl;have he:=Ld.k D;have ie:=Md.k D;have je:=Nd.k D;have ke:=Od.k D;have me:=Pd.k D;have oe:=Qd.k D;have ab:=Za.k D;refine⟨Wd,Oa,Xd,ce,Yd,Zd,de,Oa,ae,rfl,ee,?_⟩;exact Sa .nrm (d.2,Ud,be) _ _ _ _ fe ⟨he,ie,je,ke,me,oe,ge⟩ ab Ua hp
 ·intro st F G I pe fa hA hp;obtain⟨O,ea,ja⟩:=st
  replace hp:ztO p c [] O ea=some rz:=hp
  obtain⟨P,t,S,T,u,y,z⟩:=hA
  replace P:Lb (Fm.of m) F G I 1 m.nxt 4 [ca100,Il p.Reserve,ca102,ca103]:=P
  replace t:Lb (Fm.of m) F G I 2 m0.nxt 24 [.sl0,Il 0,.sl0,.sl0,Il 0,Il 0,Il 0,Il 0,Il 0,Il 0,Il 0,Il 0,C.nilFn,Il 0,Il 0,Il 0,Il 0,Il 0,Il 0,Il 0,Il 0,C.nilFn,C.map0,C.map0]:=t
  replace S:Lb (Fm.of m) F G I 3 m1.nxt 4 [ca100,Il p.Reserve,ca102,ca103]:=S
  replace T:Lb (Fm.of m) F G I 4 m0i364.nxt 24 [ca100,Il p.Reserve,ca102,ca103,Il c.k0.part.Lo,Il c.k0.part.Hi,Il c.k0.above.Lo,Il c.k0.above.Hi,Il c.k0.most.Lo,Il c.k0.most.Hi,Il c.k0.times.Lo,Il c.k0.times.Hi,h,Il c.k1.part.Lo,Il c.k1.part.Hi,Il c.k1.above.Lo,Il c.k1.above.Hi,Il c.k1.most.Lo,Il c.k1.most.Hi,Il c.k1.times.Lo,Il c.k1.times.Hi,i,(.map (m1i364.nxt+0)),(.map (m1i364.nxt+1))]:=T
  replace u:Lb (Fm.of m) F G I 7 ha.nxt 24 [ca100,Il p.Reserve,ca102,ca103,Il c.k0.part.Lo,Il c.k0.part.Hi,Il c.k0.above.Lo,Il c.k0.above.Hi,Il c.k0.most.Lo,Il c.k0.most.Hi,Il c.k0.times.Lo,Il c.k0.times.Hi,h,Il c.k1.part.Lo,Il c.k1.part.Hi,Il c.k1.above.Lo,Il c.k1.above.Hi,Il c.k1.most.Lo,Il c.k1.most.Hi,Il c.k1.times.Lo,Il c.k1.times.Hi,i,(.map (m1i364.nxt+0)),(.map (m1i364.nxt+1))]:=u
  replace y:Mo (Fm.of m) F G I 5 (.map (m1i364.nxt+0)) O:=y
  replace z:MoS (Fm.of m) F G I 6 (.map (m1i364.nxt+1)) ea ja:=z
  rw[ztO] at hp;refine⟨_,_,_,_,_,_,_,_,_,_,_,_,_,_,_,_,_,_,_,_,_,_,_,_,u.bk.ra,?_⟩;obtain⟨qe,re,se,Pa,te⟩:=t.sto pe [ca100,Il p.Reserve,ca102,ca103,Il c.k0.part.Lo,Il c.k0.part.Hi,Il c.k0.above.Lo,Il c.k0.above.Hi,Il c.k0.most.Lo,Il c.k0.most.Hi,Il c.k0.times.Lo,Il c.k0.times.Hi,h,Il c.k1.part.Lo,Il c.k1.part.Hi,Il c.k1.above.Lo,Il c.k1.above.Hi,Il c.k1.most.Lo,Il c.k1.most.Hi,Il c.k1.times.Lo,Il c.k1.times.Hi,i,(.map (m1i364.nxt+0)),(.map (m1i364.nxt+1))];have ue:=y.k Pa;have ve:=z.k Pa;refine⟨qe,re,?_⟩;refine⟨_,_,_,_,_,_,_,_,_,_,_,_,_,_,_,_,_,_,_,_,_,_,_,_,te.bk.ra,?_⟩;obtain⟨we,xe,Y,cb⟩:=ve.freeze se;have ye:=ue.k Y;obtain rfl:=oi hp;exact hq _ we ca100 ca102 ca103 h i (.map (m1i364.nxt+0)) (.map (m1i364.nxt+1)) xe.grw (ha100.sub (Sub.trans (Sub.trans (Sub.trans g.fs e.fs) fa) Y.fs)) (ha102.sub (Sub.trans (Sub.trans (Sub.trans g.fs e.fs) fa) Y.fs)) (ha103.sub (Sub.trans (Sub.trans (Sub.trans g.fs e.fs) fa) Y.fs)) (sa.sub (Sub.trans (Sub.trans e.fs fa) Y.fs)) (ta.sub (Sub.trans (Sub.trans e.fs fa) Y.fs)) (show zrF _ _ _ from ye.mi.noFn) cb
 ·intro id st _ _ _ _ _ _ hn; first | exact hn.elim | (cases hn)
 ·intro st _ _ _ _ _ _ hn; first | exact hn.elim | (cases hn)
theorem zwr{w:Wk}{reports:List Rpt}{ca100 ca102 ca103 ca112 ca121 ca122 ca123 ca200:C}{m f:M}{Q:V->M->Prop}{rz:Bool}(hS:Pre f m)(_ha100:Sl f ca100 w.p.Losses)(_ha102:Sl f ca102 w.p.Treaties)(_ha103:Sl f ca103 w.p.Reports)(_ha112:zuD f ca112 w.kinds.k0.takes)(_ha121:zuD f ca121 w.kinds.k1.takes)(_ha122:zrF f ca122 w.shared)(ha123:MiS f ca123 w.played)(ha200:Sl f ca200 reports)(hp:ztQ w reports=some rz)(hq:∀m',Ext m m'->Q (.c (.bool rz)) m'):Wc prog tbl 41 [.agg 24 [ca100,Il w.p.Reserve,ca102,ca103,Il w.kinds.k0.part.Lo,Il w.kinds.k0.part.Hi,Il w.kinds.k0.above.Lo,Il w.kinds.k0.above.Hi,Il w.kinds.k0.most.Lo,Il w.kinds.k0.most.Hi,Il w.kinds.k0.times.Lo,Il w.kinds.k0.times.Hi,ca112,Il w.kinds.k1.part.Lo,Il w.kinds.k1.part.Hi,Il w.kinds.k1.above.Lo,Il w.kinds.k1.above.Hi,Il w.kinds.k1.most.Lo,Il w.kinds.k1.most.Hi,Il w.kinds.k1.times.Lo,Il w.kinds.k1.times.Hi,ca121,ca122,ca123],.c ca200] m Q:=by
 have S0:=hS.st;obtain⟨τ0,_⟩:=zsk;refine w41 ?_;unfold ztQ at hp;intro m0 T;obtain⟨Y,Z,La,q⟩:=S0.blk T τ0 1;refine⟨trivial,_,q.bk.rc rfl,?_⟩;obtain⟨Ga,aa,D,F,G⟩:=MiS.rng zwk Z ha123 Y 2;have hp:=zro hp D;refine⟨aa,F,?_⟩;intro m3 ba;obtain⟨ca,da,ea,fa⟩:=G m3 ba;have e:=q.k ea;intro R4 Fa
 have hgo:∀(g:Nat) (b5:Bool) (h:List P5) (o:M) (d:Nat->Nat),St (Fm.of m) f f o->Lb (Fm.of m) f d o 1 m.nxt 24 [ca100,Il w.p.Reserve,ca102,ca103,Il w.kinds.k0.part.Lo,Il w.kinds.k0.part.Hi,Il w.kinds.k0.above.Lo,Il w.kinds.k0.above.Hi,Il w.kinds.k0.most.Lo,Il w.kinds.k0.most.Hi,Il w.kinds.k0.times.Lo,Il w.kinds.k0.times.Hi,ca112,Il w.kinds.k1.part.Lo,Il w.kinds.k1.part.Hi,Il w.kinds.k1.above.Lo,Il w.kinds.k1.above.Hi,Il w.kinds.k1.most.Lo,Il w.kinds.k1.most.Hi,Il w.kinds.k1.times.Lo,Il w.kinds.k1.times.Hi,ca121,ca122,ca123]->IrS (Fm.of m) f d o 2 m0.nxt ca123 w.played h->pcanHold_L0 w reports g h=some rz->R4 [.c (.bool b5)] o:=by
  intro g
  induction g with
  | zero=>intro b5 h o d j e r hp; cases hp
  | succ g ha=>
   intro b5 h o d j e r hp;refine Fa _ _ ?_;rw[pcanHold_L0] at hp;obtain⟨l7,I,J,N⟩:=r.next j;refine⟨l7,I,fun ia=>?_,fun u8 u9 Ta ja=>?_⟩
   ·have hp:=zrr (J ia) hp;obtain rfl:=oi hp;exact hq _ j.ext'
   obtain⟨ka,a,la,ma,Pa,O,Ha,P,s,Qa,t,na,u⟩:=N _ _ _ ja;have hp:=zrs O hp;obtain⟨oa,S,hp⟩:=zqq hp;obtain rfl:oa=ma:=oi (S.symm.trans P);generalize ka++la=Ra at hp u;have pa:=e.k na;refine⟨_,_,_,_,_,_,s,?_⟩;intro Ua qa;obtain⟨y,l,z,sa⟩:=t.blk qa d 3;have ta:=pa.k z;have ua:=u.k z t.sub l (by decide);obtain⟨va,wa,i,A,xa⟩:=sa.sto l [Il a.p0,Il a.p1,Il a.p2,Il a.p3,Il a.p4];have ya:=ta.k A;have za:=ua.k A l.sub i (by decide);refine⟨va,wa,?_⟩;refine⟨_,_,_,_,_,xa.bk.ra,?_⟩;obtain⟨Sa,Aa,hp⟩:=zqq hp;refine zvB (p:=a) (reports:=reports) i.pre ha200 Aa fun Va Ba=>?_;obtain⟨n,B⟩:=i.call Ba y;have Ca:=ya.k B;have Da:=za.k B i.sub n (by decide);refine⟨_,rfl,?_⟩;refine zq1 hp (fun Ea hp=>?_) fun Ea hp=>?_; rotate_left
   ·exact ha _ _ _ y n Ca Da hp
   obtain rfl:=oi hp;exact hq _ n.ext'
 exact hgo _ _ _ _ ca da e fa hp
theorem zws{w:Wk}{number:Oc->Option (Int)}{ca100 ca102 ca103 ca112 ca121 ca122 ca123 ca200:C}{m f:M}{Q:V->M->Prop}{rz:Rg}(hS:Pre f m)(_ha100:Sl f ca100 w.p.Losses)(_ha102:Sl f ca102 w.p.Treaties)(ha103:Sl f ca103 w.p.Reports)(_ha112:zuD f ca112 w.kinds.k0.takes)(_ha121:zuD f ca121 w.kinds.k1.takes)(_ha122:zrF f ca122 w.shared)(ha123:MiS f ca123 w.played)(ha200:zwi f ca200 number)(hp:ztS w number=some rz)(hq:∀m',Ext m m'->Q (.agg 2 [Il rz.Lo,Il rz.Hi]) m'):Wc prog tbl 46 [.agg 24 [ca100,Il w.p.Reserve,ca102,ca103,Il w.kinds.k0.part.Lo,Il w.kinds.k0.part.Hi,Il w.kinds.k0.above.Lo,Il w.kinds.k0.above.Hi,Il w.kinds.k0.most.Lo,Il w.kinds.k0.most.Hi,Il w.kinds.k0.times.Lo,Il w.kinds.k0.times.Hi,ca112,Il w.kinds.k1.part.Lo,Il w.kinds.k1.part.Hi,Il w.kinds.k1.above.Lo,Il w.kinds.k1.above.Hi,Il w.kinds.k1.most.Lo,Il w.kinds.k1.most.Hi,Il w.kinds.k1.times.Lo,Il w.kinds.k1.times.Hi,ca121,ca122,ca123],.c ca200] m Q:=by
 have S0:=hS.st;obtain⟨τ0,_⟩:=zsk;refine w46 ?_;unfold ztS at hp;intro m0 Va;obtain⟨Wa,Xa,Xc,Ya⟩:=S0.blk Va τ0 1;intro m1 Za;obtain⟨ab,bb,cb,db⟩:=Xa.blk Za Wa 2;have qa:=Ya.k cb;refine⟨trivial,_,qa.bk.rc rfl,?_⟩;obtain⟨Rc,eb,Ja,Ka,La⟩:=MiS.rng zwk bb ha123 ab 3;have hp:=zro hp Ja;refine⟨eb,Ka,?_⟩;intro m4 fb;obtain⟨gb,hb,sa,ib⟩:=La m4 fb;have D:=qa.k sa;have s:=db.k sa;intro R5 Kc
 have hgo:∀(t:Nat) (c6:C) (o:List Int) (F:List P5) (m7:M) (h:Nat->Nat),St (Fm.of m) f f m7->Lb (Fm.of m) f h m7 1 m.nxt 24 [ca100,Il w.p.Reserve,ca102,ca103,Il w.kinds.k0.part.Lo,Il w.kinds.k0.part.Hi,Il w.kinds.k0.above.Lo,Il w.kinds.k0.above.Hi,Il w.kinds.k0.most.Lo,Il w.kinds.k0.most.Hi,Il w.kinds.k0.times.Lo,Il w.kinds.k0.times.Hi,ca112,Il w.kinds.k1.part.Lo,Il w.kinds.k1.part.Hi,Il w.kinds.k1.above.Lo,Il w.kinds.k1.above.Hi,Il w.kinds.k1.most.Lo,Il w.kinds.k1.most.Hi,Il w.kinds.k1.times.Lo,Il w.kinds.k1.times.Hi,ca121,ca122,ca123]->Lb (Fm.of m) f h m7 2 m0.nxt 2 [Il 0,Il 0]->Ow (Fm.of m) f h m7 4 c6 o->IrS (Fm.of m) f h m7 3 m1.nxt ca123 w.played F->pboundsW_L0 w number t o F=some rz->R5 [.c c6] m7:=by
  intro t
  induction t with
  | zero=>intro c6 o F m7 h G D s d da hp; cases hp
  | succ t ta=>
   intro c6 o F m7 h G D s d da hp;refine Kc _ _ ?_;rw[pboundsW_L0] at hp;obtain⟨l8,Na,Oa,Pa⟩:=da.next G;refine⟨l8,Na,fun jb=>?_,fun fd hd Nc kb=>?_⟩
   ·have hp:=zrr (Oa jb) hp;obtain⟨bd,I,ua,va⟩:=d.freeze G;have mb:=s.k ua;have ob:=da.k ua G.sub I (by decide);obtain⟨pb,qb,hp⟩:=zqq hp;refine zuW (l:=o) I.pre va qb fun id rb=>?_;obtain⟨J,wa⟩:=I.call rb h;have sb:=mb.k wa;have tb:=ob.k wa I.sub J (by decide);refine⟨_,rfl,?_⟩;obtain⟨ub,vb,hp⟩:=zqq hp;refine zuX (l:=o) J.pre va vb fun jd wb=>?_;obtain⟨ea,xa⟩:=J.call wb h;have xb:=sb.k xa;have yb:=tb.k xa J.sub ea (by decide);refine⟨_,rfl,?_⟩;obtain⟨zb,Ab,ya,Bb,Cb⟩:=xb.sto ea [Il pb,Il ub];have cd:=yb.k Bb ea.sub ya (by decide);refine⟨zb,Ab,?_⟩;refine⟨_,_,Cb.bk.ra,?_⟩;obtain rfl:=oi hp;exact hq _ ya.ext'
   obtain⟨Db,e,Eb,Fb,dd,Qa,Tc,Ra,za,N,Aa,fa,Ba⟩:=Pa _ _ _ kb;have hp:=zrs Qa hp;obtain⟨Ca,Sa,hp⟩:=zqq hp;obtain rfl:Ca=Fb:=oi (Sa.symm.trans Ra);generalize Db++Eb=Da at hp Ba;have Gb:=D.k fa;have Hb:=s.k fa;have d:=d.k fa;refine⟨_,_,_,_,_,_,za,?_⟩;intro kd Ib;obtain⟨ga,ha,O,Jb⟩:=Aa.blk Ib h 5;have Kb:=Gb.k O;have Mb:=Hb.k O;have d:=d.k O;have Nb:=Ba.k O Aa.sub ha (by decide);obtain⟨Ob,Pb,P,S,Ea⟩:=Jb.sto ha [Il e.p0,Il e.p1,Il e.p2,Il e.p3,Il e.p4];have Fa:=Kb.k S;have Qb:=Mb.k S;have d:=d.k S;have Rb:=Nb.k S ha.sub P (by decide);refine⟨Ob,Pb,?_⟩;refine⟨_,_,_,_,_,Ea.bk.ra,trivial,trivial,_,Fa.bk.rc rfl,?_⟩;obtain⟨ed,Sb,hp⟩:=zqq hp;refine zvB (p:=e) (reports:=w.p.Reports) P.pre ha103 Sb fun ld Tb=>?_;obtain⟨ia,u⟩:=P.call Tb ga;have q:=Fa.k u;have r:=Qb.k u;have T:=Ea.k u;have d:=d.k u;have Ga:=Rb.k u P.sub ia (by decide);refine⟨_,rfl,?_⟩;refine zq2 hp (fun Ub hp=>?_) fun Ub hp=>?_
   ·exact ta _ _ _ _ ga ia q r d Ga hp
   refine⟨N.isSl,?_⟩;intro Pc Vb
   have hgo:∀(Y:Nat) (na:C) (oa:Int) (Z:List Int) (n:M) (i:Nat->Nat),St (Fm.of m) f f n->Lb (Fm.of m) f i n 1 m.nxt 24 [ca100,Il w.p.Reserve,ca102,ca103,Il w.kinds.k0.part.Lo,Il w.kinds.k0.part.Hi,Il w.kinds.k0.above.Lo,Il w.kinds.k0.above.Hi,Il w.kinds.k0.most.Lo,Il w.kinds.k0.most.Hi,Il w.kinds.k0.times.Lo,Il w.kinds.k0.times.Hi,ca112,Il w.kinds.k1.part.Lo,Il w.kinds.k1.part.Hi,Il w.kinds.k1.above.Lo,Il w.kinds.k1.above.Hi,Il w.kinds.k1.most.Lo,Il w.kinds.k1.most.Hi,Il w.kinds.k1.times.Lo,Il w.kinds.k1.times.Hi,ca121,ca122,ca123]->Lb (Fm.of m) f i n 2 m0.nxt 2 [Il 0,Il 0]->Lb (Fm.of m) f i n 5 Nc.nxt 5 [Il e.p0,Il e.p1,Il e.p2,Il e.p3,Il e.p4]->Ow (Fm.of m) f i n 4 na Z->IrS (Fm.of m) f i n 3 m1.nxt ca123 w.played Da->ztR number Ca Da (pboundsW_L0 w number t) Y Z oa=some rz->Pc [.c na,.c (Il oa)] n:=by
    intro Y
    induction Y with
    | zero=>intro na oa Z n i y q r T j ja hp; cases hp
    | succ Y Ta=>
     intro na oa Z n i y q r T j ja hp;refine Vb _ _ _ ?_;rw[ztR] at hp
     try rw[N.slLen]
     refine ifd hp (fun Wb hp=>?_) fun Wb hp=>?_; rotate_left
     ·exact ta _ _ _ _ i y q r j ja hp
     obtain⟨g,ka,hp⟩:=zqq hp;obtain⟨Qc,Ua,pa,ka⟩:=zqk ka;obtain⟨_,Xb⟩:=zst N ka;refine⟨Qc,Ua,(by first|exact pa|(rw[N.slLen];exact pa)),_,_,_,_,_,_,_,_,_,_,_,(Xb _ y.sub).1,?_⟩;intro md Yb;obtain⟨Zb,la,z,ac⟩:=y.blk Yb i 6;have bc:=q.k z;have cc:=r.k z;have dc:=T.k z;have j:=j.k z;have ec:=ja.k z y.sub la (by decide);obtain⟨fc,gc,aa,A,hc⟩:=ac.sto la [Il g.pays.p0,Il g.pays.p1,Il g.pays.p2,Il g.pays.p3,Il g.pays.p4,Il g.keeps.p0,Il g.keeps.p1,Il g.keeps.p2,Il g.keeps.p3,Il g.keeps.p4,Il g.society];have ic:=bc.k A;have jc:=cc.k A;have kc:=dc.k A;have j:=j.k A;have nc:=ec.k A la.sub aa (by decide);refine⟨fc,gc,?_⟩;refine⟨_,_,_,_,_,_,_,_,_,_,_,hc.bk.ra,?_⟩;obtain⟨Ha,pc,hp⟩:=zqq hp;refine ha200 _ _ _ _ _ (Sub.refl _) aa.pre  pc fun nd qc=>?_;obtain⟨ma,B⟩:=aa.call qc Zb;have sc:=ic.k B;have tc:=jc.k B;have uc:=kc.k B;have j:=j.k B;have vc:=nc.k B aa.sub ma (by decide);refine⟨_,rfl,?_⟩;obtain⟨wc,hp⟩:=zqr hp;intro od xc;obtain⟨yc,zc,Ac,Bc,Ia,ba,Cc⟩:=j.app' zuJ ma (a:=Ha) (show Rp.rep (α:=Int) f _ Ha from rfl) wc xc;have Dc:=sc.k ba;have Ec:=tc.k ba;have Fc:=uc.k ba;have Gc:=vc.k ba ma.sub Ia (by decide);refine⟨yc,zc,Bc,?_⟩;refine gdi hp fun Hc hp=>?_;exact Ta _ _ _ _ Ac Ia Dc Ec Fc Cc Gc hp
   exact hgo _ _ _ _ _ ga ia q r T d Ga hp
 exact hgo _ _ _ _ _ gb hb D s (Ow.nil _ _ _ _ _) ib hp
theorem zwt{p:Pg}{ca100 ca102 ca103:C}{m f:M}{Q:V->M->Prop}{rz:Wk × Int}(hS:Pre f m)(ha100:Sl f ca100 p.Losses)(ha102:Sl f ca102 p.Treaties)(ha103:Sl f ca103 p.Reports)(hp:ztT p=some rz)(hq:∀m' f' c0 c2 c3 c12 c21 c22 c23,Grw m f m' f'->Sl f' c0 rz.1.p.Losses->Sl f' c2 rz.1.p.Treaties->Sl f' c3 rz.1.p.Reports->zuD f' c12 rz.1.kinds.k0.takes->zuD f' c21 rz.1.kinds.k1.takes->zrF f' c22 rz.1.shared->MiS f' c23 rz.1.played->Q (.tup [.agg 24 [c0,Il rz.1.p.Reserve,c2,c3,Il rz.1.kinds.k0.part.Lo,Il rz.1.kinds.k0.part.Hi,Il rz.1.kinds.k0.above.Lo,Il rz.1.kinds.k0.above.Hi,Il rz.1.kinds.k0.most.Lo,Il rz.1.kinds.k0.most.Hi,Il rz.1.kinds.k0.times.Lo,Il rz.1.kinds.k0.times.Hi,c12,Il rz.1.kinds.k1.part.Lo,Il rz.1.kinds.k1.part.Hi,Il rz.1.kinds.k1.above.Lo,Il rz.1.kinds.k1.above.Hi,Il rz.1.kinds.k1.most.Lo,Il rz.1.kinds.k1.most.Hi,Il rz.1.kinds.k1.times.Lo,Il rz.1.kinds.k1.times.Hi,c21,c22,c23],.c (Il rz.2)]) m'):Wc prog tbl 45 [.agg 4 [ca100,Il p.Reserve,ca102,ca103]] m Q:=by
 have S0:=hS.st;obtain⟨τ0,_⟩:=zsk;refine w45 ?_;unfold ztT at hp;intro m0 ga;obtain⟨ha,ia,db,ja⟩:=S0.blk ga τ0 1;intro m1 ka;obtain⟨h,D,la,ma⟩:=ia.blk ka ha 2;have F:=ja.k la;refine⟨_,_,_,_,F.bk.ra,?_⟩;obtain⟨eb,na,hp⟩:=zqq hp;refine zvs (p:=p) D.pre ha100 ha102 ha103 na fun m7 oa=>?_;obtain⟨i,G⟩:=D.call oa h;have pa:=F.k G;have I:=ma.k G;refine⟨_,rfl,?_⟩;refine zq0 hp (fun qa hp=>?_) fun qa hp=>?_
 ·obtain⟨sa,ta,ua,fb,va⟩:=I.sto i [.sl0,Il 0,.sl0,.sl0,Il 0,Il 0,Il 0,Il 0,Il 0,Il 0,Il 0,Il 0,C.nilFn,Il 0,Il 0,Il 0,Il 0,Il 0,Il 0,Il 0,Il 0,C.nilFn,C.map0,C.map0];refine⟨sa,ta,?_⟩;refine⟨_,_,_,_,_,_,_,_,_,_,_,_,_,_,_,_,_,_,_,_,_,_,_,_,va.bk.ra,?_⟩
  have Xa:zuD f .nilFn (fun _ _ _=>none):=by refine⟨rfl,?_⟩; intro j l _ _ _ n o _ _ d; exact absurd d (by intro e; cases e)
  have Ya:zuD f .nilFn (fun _ _ _=>none):=by refine⟨rfl,?_⟩; intro j l _ _ _ n o _ _ d; exact absurd d (by intro e; cases e)
  have ca:zuD f .nilFn (fun _ _ _=>none):=by refine⟨rfl,?_⟩; intro j l _ _ _ n o _ _ d; exact absurd d (by intro e; cases e)
  have da:zuD f .nilFn (fun _ _ _=>none):=by refine⟨rfl,?_⟩; intro j l _ _ _ n o _ _ d; exact absurd d (by intro e; cases e)
  obtain rfl:=oi hp;exact hq _ f .sl0 .sl0 .sl0 C.nilFn C.nilFn C.map0 C.map0 ua.grw (Sl.nil _) (Sl.nil _) (Sl.nil _) ca da (show zrF _ _ _ from rfl) (MiS.nil0 _)
 refine⟨_,_,_,_,pa.bk.ra,?_⟩;obtain⟨a,wa,hp⟩:=zqq hp;refine zwq (p:=p) i.pre ha100 ha102 ha103 wa fun jb g q r s t u y z xa J N A O P S T=>?_;obtain⟨ya,za⟩:=i.callG xa h;have Aa:=I.k za;refine⟨_,_,_,_,_,_,_,_,_,_,_,_,_,_,_,_,_,_,_,_,_,_,_,_,rfl,?_⟩;intro kb Ba;obtain⟨Ca,Da,Ea,Fa⟩:=ya.blk Ba h 3;have Ga:=Aa.k Ea;obtain⟨Ha,Ia,Y,Ja,B⟩:=Fa.sto Da [q,Il a.p.Reserve,r,s,Il a.kinds.k0.part.Lo,Il a.kinds.k0.part.Hi,Il a.kinds.k0.above.Lo,Il a.kinds.k0.above.Hi,Il a.kinds.k0.most.Lo,Il a.kinds.k0.most.Hi,Il a.kinds.k0.times.Lo,Il a.kinds.k0.times.Hi,t,Il a.kinds.k1.part.Lo,Il a.kinds.k1.part.Hi,Il a.kinds.k1.above.Lo,Il a.kinds.k1.above.Hi,Il a.kinds.k1.most.Lo,Il a.kinds.k1.most.Hi,Il a.kinds.k1.times.Lo,Il a.kinds.k1.times.Hi,u,y,z];have Ka:=Ga.k Ja;refine⟨Ha,Ia,?_⟩;refine⟨_,_,_,_,_,_,_,_,_,_,_,_,_,_,_,_,_,_,_,_,_,_,_,_,B.bk.ra,trivial,trivial,_,B.bk.rc rfl,?_⟩;obtain⟨gb,La,hp⟩:=zqq hp;refine zwr (w:=({ p:=a.p,kinds:=a.kinds,shared:=(),played:=a.played }:Wk)) (reports:=a.p.Reports) Y.pre J N A O P (show zrF _ _ _ from S.noFn) T A La fun mb Ma=>?_;obtain⟨Z,aa⟩:=Y.call Ma Ca;have ba:=Ka.k aa;have Na:=B.k aa;refine⟨_,rfl,?_⟩;refine zq2 hp (fun Oa hp=>?_) fun Oa hp=>?_; rotate_left
 ·refine⟨_,_,_,_,_,_,_,_,_,_,_,_,_,_,_,_,_,_,_,_,_,_,_,_,Na.bk.ra,?_⟩;obtain⟨Pa,Qa,Ra,hb,Sa⟩:=ba.sto Z [q,Il a.p.Reserve,r,s,Il a.kinds.k0.part.Lo,Il a.kinds.k0.part.Hi,Il a.kinds.k0.above.Lo,Il a.kinds.k0.above.Hi,Il a.kinds.k0.most.Lo,Il a.kinds.k0.most.Hi,Il a.kinds.k0.times.Lo,Il a.kinds.k0.times.Hi,t,Il a.kinds.k1.part.Lo,Il a.kinds.k1.part.Hi,Il a.kinds.k1.above.Lo,Il a.kinds.k1.above.Hi,Il a.kinds.k1.most.Lo,Il a.kinds.k1.most.Hi,Il a.kinds.k1.times.Lo,Il a.kinds.k1.times.Hi,u,y,z];refine⟨Pa,Qa,?_⟩;refine⟨_,_,_,_,_,_,_,_,_,_,_,_,_,_,_,_,_,_,_,_,_,_,_,_,Sa.bk.ra,?_⟩;obtain rfl:=oi hp;exact hq _ g q r s t u y z Ra.grw J N A O P (show zrF _ _ _ from S.noFn) T
 obtain⟨Ta,Ua,Va,ib,Wa⟩:=ba.sto Z [.sl0,Il 0,.sl0,.sl0,Il 0,Il 0,Il 0,Il 0,Il 0,Il 0,Il 0,Il 0,C.nilFn,Il 0,Il 0,Il 0,Il 0,Il 0,Il 0,Il 0,Il 0,C.nilFn,C.map0,C.map0];refine⟨Ta,Ua,?_⟩;refine⟨_,_,_,_,_,_,_,_,_,_,_,_,_,_,_,_,_,_,_,_,_,_,_,_,Wa.bk.ra,?_⟩
 have Za:zuD g .nilFn (fun _ _ _=>none):=by refine⟨rfl,?_⟩; intro j l _ _ _ n o _ _ d; exact absurd d (by intro e; cases e)
 have ab:zuD g .nilFn (fun _ _ _=>none):=by refine⟨rfl,?_⟩; intro j l _ _ _ n o _ _ d; exact absurd d (by intro e; cases e)
 have ea:zuD g .nilFn (fun _ _ _=>none):=by refine⟨rfl,?_⟩; intro j l _ _ _ n o _ _ d; exact absurd d (by intro e; cases e)
 have fa:zuD g .nilFn (fun _ _ _=>none):=by refine⟨rfl,?_⟩; intro j l _ _ _ n o _ _ d; exact absurd d (by intro e; cases e)
 obtain rfl:=oi hp;exact hq _ g .sl0 .sl0 .sl0 C.nilFn C.nilFn C.map0 C.map0 Va.grw (Sl.nil _) (Sl.nil _) (Sl.nil _) ea fa (show zrF _ _ _ from rfl) (MiS.nil0 _)
theorem zwu{o:Oc}{treaty:Int}{b0:Nat}{m f:M}{Q:V->M->Prop}{rz:Int}(hS:Pre f m)(hb0:Bk f b0 1 [Il treaty])(hp:ztU o treaty=some rz)(hq:∀m',Ext m m'->Q (.c (Il rz)) m'):Wc prog tbl 47 [.agg 11 [Il o.pays.p0,Il o.pays.p1,Il o.pays.p2,Il o.pays.p3,Il o.pays.p4,Il o.keeps.p0,Il o.keeps.p1,Il o.keeps.p2,Il o.keeps.p3,Il o.keeps.p4,Il o.society],.c (.ptr b0 0)] m Q:=by
 have j:=hS.st;obtain⟨n,_⟩:=zsk;refine c47 ?_;unfold ztU at hp;intro t h;obtain⟨p,d,q,i⟩:=j.blk h n 1;refine⟨_,(hb0.sub d.sub).rc rfl,trivial,trivial,?_⟩;obtain⟨r,a,hp⟩:=zqq hp;obtain⟨s,e,g,a⟩:=zqk a;refine⟨s,e,g,_,(i.bk.rc (zqW (l:=([o.pays.p0,o.pays.p1,o.pays.p2,o.pays.p3,o.pays.p4]:List Int)) (enc:=(C.int .i64)) 0 rfl a)),?_⟩;obtain rfl:=oi hp;exact hq _ d.ext'
theorem zwv{o:Oc}{treaty:Int}{b0:Nat}{m f:M}{Q:V->M->Prop}{rz:Int}(hS:Pre f m)(hb0:Bk f b0 1 [Il treaty])(hp:ztV o treaty=some rz)(hq:∀m',Ext m m'->Q (.c (Il rz)) m'):Wc prog tbl 48 [.agg 11 [Il o.pays.p0,Il o.pays.p1,Il o.pays.p2,Il o.pays.p3,Il o.pays.p4,Il o.keeps.p0,Il o.keeps.p1,Il o.keeps.p2,Il o.keeps.p3,Il o.keeps.p4,Il o.society],.c (.ptr b0 0)] m Q:=by
 have j:=hS.st;obtain⟨n,_⟩:=zsk;refine c48 ?_;unfold ztV at hp;intro t h;obtain⟨p,d,q,i⟩:=j.blk h n 1;refine⟨_,(hb0.sub d.sub).rc rfl,trivial,trivial,?_⟩;obtain⟨r,a,hp⟩:=zqq hp;obtain⟨s,e,g,a⟩:=zqk a;refine⟨s,e,g,_,(i.bk.rc (zqW (l:=([o.keeps.p0,o.keeps.p1,o.keeps.p2,o.keeps.p3,o.keeps.p4]:List Int)) (enc:=(C.int .i64)) 5 rfl a)),?_⟩;obtain rfl:=oi hp;exact hq _ d.ext'
theorem zww{p:Pg}{ca100 ca102 ca103:C}{m f:M}{Q:V->M->Prop}{rz:List Bd × Int}(hS:Pre f m)(ha100:Sl f ca100 p.Losses)(ha102:Sl f ca102 p.Treaties)(ha103:Sl f ca103 p.Reports)(hp:ztX p=some rz)(hq:∀m' f' c0,Grw m f m' f'->Sl f' c0 rz.1->Q (.tup [.c c0,.c (Il rz.2)]) m'):Wc prog tbl 17 [.agg 4 [ca100,Il p.Reserve,ca102,ca103]] m Q:=by
 have S0:=hS.st;obtain⟨τ0,_⟩:=zsk;refine w17 ?_;unfold ztX at hp;intro m0 ya;obtain⟨ba,ca,Bb,da⟩:=S0.blk ya τ0 1;refine⟨_,_,_,_,da.bk.ra,?_⟩;obtain⟨d,za,hp⟩:=zqq hp;refine zwt (p:=p) ca.pre ha100 ha102 ha103 za fun m6 A ea fa ga ha ia ja ka Aa B D F G I J N=>?_;obtain⟨Ba,Ca⟩:=ca.callG Aa ba;have Da:=da.k Ca;refine⟨_,_,_,_,_,_,_,_,_,_,_,_,_,_,_,_,_,_,_,_,_,_,_,_,_,rfl,?_⟩;intro Gb Ea;obtain⟨Fa,Ga,Ha,Ia⟩:=Ba.blk Ea ba 2;have Ja:=Da.k Ha;obtain⟨Ka,La,la,Ma,q⟩:=Ia.sto Ga [ea,Il d.1.p.Reserve,fa,ga,Il d.1.kinds.k0.part.Lo,Il d.1.kinds.k0.part.Hi,Il d.1.kinds.k0.above.Lo,Il d.1.kinds.k0.above.Hi,Il d.1.kinds.k0.most.Lo,Il d.1.kinds.k0.most.Hi,Il d.1.kinds.k0.times.Lo,Il d.1.kinds.k0.times.Hi,ha,Il d.1.kinds.k1.part.Lo,Il d.1.kinds.k1.part.Hi,Il d.1.kinds.k1.above.Lo,Il d.1.kinds.k1.above.Hi,Il d.1.kinds.k1.most.Lo,Il d.1.kinds.k1.most.Hi,Il d.1.kinds.k1.times.Lo,Il d.1.kinds.k1.times.Hi,ia,ja,ka];have l:=Ja.k Ma;refine⟨Ka,La,?_⟩;refine zq0 hp (fun Na hp=>?_) fun Na hp=>?_
 ·obtain rfl:=oi hp;exact hq _ A .sl0 la.grw (Sl.nil _)
 refine⟨trivial,_,l.bk.rc rfl,ha102.isSl,?_⟩;intro Ab zb
 have hgo:∀(s:Nat) (Z:C) (n:Int) (t:List Bd) (o:M) (i:M) (j:Nat->Nat),St (Fm.of m) f i o->Sub A i->Lb (Fm.of m) i j o 1 m.nxt 4 [ca100,Il p.Reserve,ca102,ca103]->Lb (Fm.of m) i j o 2 m6.nxt 24 [ea,Il d.1.p.Reserve,fa,ga,Il d.1.kinds.k0.part.Lo,Il d.1.kinds.k0.part.Hi,Il d.1.kinds.k0.above.Lo,Il d.1.kinds.k0.above.Hi,Il d.1.kinds.k0.most.Lo,Il d.1.kinds.k0.most.Hi,Il d.1.kinds.k0.times.Lo,Il d.1.kinds.k0.times.Hi,ha,Il d.1.kinds.k1.part.Lo,Il d.1.kinds.k1.part.Hi,Il d.1.kinds.k1.above.Lo,Il d.1.kinds.k1.above.Hi,Il d.1.kinds.k1.most.Lo,Il d.1.kinds.k1.most.Hi,Il d.1.kinds.k1.times.Lo,Il d.1.kinds.k1.times.Hi,ia,ja,ka]->Ow (Fm.of m) i j o 3 Z t->ztW p d s t n=some rz->Ab [.c Z,.c (Il n)] o:=by
  intro s
  induction s with
  | zero=>intro Z n t o i j O e l q h hp; cases hp
  | succ s Oa=>
   intro Z n t o i j O e l q h hp;refine zb _ _ _ ?_;rw[ztW] at hp
   try rw[ha102.slLen]
   refine ifd hp (fun Pa hp=>?_) fun Pa hp=>?_; rotate_left
   ·obtain⟨Qa,Ra,Cb,Sa⟩:=h.freeze O;obtain rfl:=oi hp;exact hq _ Qa Z Ra.grw Sa
   intro Hb Ta;obtain⟨ma,Ua,P,Va⟩:=O.blk Ta j 4;have Wa:=l.k P;have Xa:=q.k P;have h:=h.k P;obtain⟨Ya,Za,ab,S,bb⟩:=Va.sto Ua [Il n];have cb:=Wa.k S;have na:=Xa.k S;have h:=h.k S;refine⟨Ya,Za,?_⟩;refine⟨_,_,_,_,_,_,_,_,_,_,_,_,_,_,_,_,_,_,_,_,_,_,_,_,na.bk.ra,?_⟩;obtain⟨u,oa,g,aa⟩:=bb.freeze ab;have db:=cb.k g;have pa:=na.k g;have h:=h.k g
   have wa:zwi u ((C.fn (Fn.func 47) [] [(W.c (C0.ptr o.nxt 0))])) (fun y=>ztU y n):=by
    intro f' m' y r Q hs hpre  hg hq;exact zwu hpre (aa.sub hs) hg hq
   obtain⟨qa,eb,hp⟩:=zqq hp;refine zws (w:=({ p:=d.1.p,kinds:=d.1.kinds,shared:=(),played:=d.1.played }:Wk)) (number:=(fun y=>ztU y n)) oa.pre (B.sub (Sub.trans e g.fs)) (D.sub (Sub.trans e g.fs)) (F.sub (Sub.trans e g.fs)) (G.sub (Sub.trans e g.fs)) (I.sub (Sub.trans e g.fs)) (show zrF _ _ _ from J.noFn) (N.sub (Sub.trans e g.fs)) wa eb fun Ib fb=>?_;obtain⟨sa,T⟩:=oa.call fb ma;have gb:=db.k T;have ta:=pa.k T;have h:=h.k T;refine⟨_,_,rfl,_,_,_,_,_,_,_,_,_,_,_,_,_,_,_,_,_,_,_,_,_,_,_,_,ta.bk.ra,(by rw[show zaL cmC _=true from (zrM (zoW B.noFn) (zrM (zoW rfl) (zrM (zoW D.noFn) (zrM (zoW F.noFn) (zrM (zoW rfl) (zrM (zoW rfl) (zrM (zoW rfl) (zrM (zoW rfl) (zrM (zoW rfl) (zrM (zoW rfl) (zrM (zoW rfl) (zrM (zoW rfl) (zrM (zrK G.1) (zrM (zoW rfl) (zrM (zoW rfl) (zrM (zoW rfl) (zrM (zoW rfl) (zrM (zoW rfl) (zrM (zoW rfl) (zrM (zoW rfl) (zrM (zoW rfl) (zrM (zrK I.1) (zrM (zoW J.noFn) (zrM (zoW N.noFn) zrL))))))))))))))))))))))))]; exact(pa.bk.ra)),?_⟩
   have xa:zwi u ((C.fn (Fn.func 48) [] [(W.c (C0.ptr o.nxt 0))])) (fun z=>ztV z n):=by
    intro f' m' z r Q hs hpre  hg hq;exact zwv hpre (aa.sub hs) hg hq
   obtain⟨ua,hb,hp⟩:=zqq hp;refine zws (w:=({ p:=d.1.p,kinds:=d.1.kinds,shared:=(),played:=d.1.played }:Wk)) (number:=(fun z=>ztV z n)) sa.pre (B.sub (Sub.trans e g.fs)) (D.sub (Sub.trans e g.fs)) (F.sub (Sub.trans e g.fs)) (G.sub (Sub.trans e g.fs)) (I.sub (Sub.trans e g.fs)) (show zrF _ _ _ from J.noFn) (N.sub (Sub.trans e g.fs)) xa hb fun Jb ib=>?_;obtain⟨jb,Y⟩:=sa.call ib ma;have kb:=gb.k Y;have mb:=ta.k Y;have h:=h.k Y;refine⟨_,_,rfl,?_⟩;obtain⟨ob,hp⟩:=zqr hp;intro Kb pb;obtain⟨qb,rb,sb,tb,ub,va,vb⟩:=h.app' zwm jb (a:=({ Pays:=qa,Keeps:=ua }:Bd)) (show Rp.rep (α:=Bd) u _ ({ Pays:=qa,Keeps:=ua }:Bd) from rfl) ob pb;have wb:=kb.k va;have xb:=mb.k va;refine⟨qb,rb,tb,?_⟩;refine gdi hp fun yb hp=>?_;exact Oa _ _ _ _ u sb ub (Sub.trans e g.fs) wb xb vb hp
 exact hgo _ _ _ _ _ A Fa la (Sub.refl _) l q (Ow.nil _ _ _ _ _) hp
theorem zwx{p:Pg}{ca100 ca102 ca103:C}{m f:M}{Q:V->M->Prop}{rz:Rg × Int}(hS:Pre f m)(ha100:Sl f ca100 p.Losses)(ha102:Sl f ca102 p.Treaties)(ha103:Sl f ca103 p.Reports)(hp:ztY p=some rz)(hq:∀m',Ext m m'->Q (.tup [.agg 2 [Il rz.1.Lo,Il rz.1.Hi],.c (Il rz.2)]) m'):Wc prog tbl 28 [.agg 4 [ca100,Il p.Reserve,ca102,ca103]] m Q:=by
 have S0:=hS.st;obtain⟨τ0,_⟩:=zsk;refine w28 ?_;unfold ztY at hp;intro m0 n;obtain⟨o,q,Fa,s⟩:=S0.blk n τ0 1;intro m1 t;obtain⟨g,h,u,y⟩:=q.blk t o 2;have z:=s.k u;refine⟨_,_,_,_,z.bk.ra,?_⟩;obtain⟨a,A,hp⟩:=zqq hp;refine zwt (p:=p) h.pre ha100 ha102 ha103 A fun m7 B D F G I J N O P S T Y Z aa ba ca=>?_;obtain⟨da,ea⟩:=h.callG P g;have fa:=y.k ea;refine⟨_,_,_,_,_,_,_,_,_,_,_,_,_,_,_,_,_,_,_,_,_,_,_,_,_,rfl,?_⟩;intro Ka ga;obtain⟨ha,ia,ja,ka⟩:=da.blk ga g 3;have la:=fa.k ja;obtain⟨ma,na,e,oa,pa⟩:=ka.sto ia [D,Il a.1.p.Reserve,F,G,Il a.1.kinds.k0.part.Lo,Il a.1.kinds.k0.part.Hi,Il a.1.kinds.k0.above.Lo,Il a.1.kinds.k0.above.Hi,Il a.1.kinds.k0.most.Lo,Il a.1.kinds.k0.most.Hi,Il a.1.kinds.k0.times.Lo,Il a.1.kinds.k0.times.Hi,I,Il a.1.kinds.k1.part.Lo,Il a.1.kinds.k1.part.Hi,Il a.1.kinds.k1.above.Lo,Il a.1.kinds.k1.above.Hi,Il a.1.kinds.k1.most.Lo,Il a.1.kinds.k1.most.Hi,Il a.1.kinds.k1.times.Lo,Il a.1.kinds.k1.times.Hi,J,N,O];have i:=la.k oa;refine⟨ma,na,?_⟩;refine zq0 hp (fun qa hp=>?_) fun qa hp=>?_
 ·obtain⟨sa,ta,ua,Ga,va⟩:=i.sto e [Il 0,Il 0];refine⟨sa,ta,?_⟩;refine⟨_,_,va.bk.ra,?_⟩;obtain rfl:=oi hp;exact hq _ ua.ext'
 refine⟨_,_,_,_,_,_,_,_,_,_,_,_,_,_,_,_,_,_,_,_,_,_,_,_,pa.bk.ra,?_⟩
 have l:zwi B ((C.fn (Fn.func 60) [] [])) (fun d=>ztx d):=by
  intro f' m' d r Q hs hpre  hg hq;exact zvz hpre  hg hq
 obtain⟨j,wa,hp⟩:=zqq hp;refine zws (w:=({ p:=a.1.p,kinds:=a.1.kinds,shared:=(),played:=a.1.played }:Wk)) (number:=(fun d=>ztx d)) e.pre S T Y Z aa (show zrF _ _ _ from ba.noFn) ca l wa fun La xa=>?_;obtain⟨ya,za⟩:=e.call xa ha;have Aa:=i.k za;refine⟨_,_,rfl,?_⟩;obtain⟨Ba,Ca,Da,Ha,Ea⟩:=Aa.sto ya [Il j.Lo,Il j.Hi];refine⟨Ba,Ca,?_⟩;refine⟨_,_,Ea.bk.ra,?_⟩;obtain rfl:=oi hp;exact hq _ Da.ext'
theorem zwy{p:Pg}{set:List Int}{ca100 ca102 ca103 ca200:C}{m f:M}{Q:V->M->Prop}{rz:Rg}(hS:Pre f m)(ha100:Sl f ca100 p.Losses)(ha102:Sl f ca102 p.Treaties)(ha103:Sl f ca103 p.Reports)(ha200:Sl f ca200 set)(hp:ztZ p set=some rz)(hq:∀m',Ext m m'->Q (.agg 2 [Il rz.Lo,Il rz.Hi]) m'):Wc prog tbl 36 [.agg 4 [ca100,Il p.Reserve,ca102,ca103],.c ca200] m Q:=by
 have S0:=hS.st;obtain⟨τ0,_⟩:=zsk;refine w36 ?_;unfold ztZ at hp;intro m0 n;obtain⟨o,q,pa,s⟩:=S0.blk n τ0 1;intro m1 t;obtain⟨d,g,u,y⟩:=q.blk t o 2;have z:=s.k u;refine⟨_,_,_,_,z.bk.ra,?_⟩;obtain⟨A,B,hp⟩:=zqq hp;refine zvx (p:=p) (set:=set) g.pre ha100 ha102 ha103 ha200 B fun m7 qa sa ta ua D F G I=>?_;obtain⟨h,J⟩:=g.callG D d;have N:=y.k J;refine⟨_,_,_,_,rfl,?_⟩;obtain⟨e,O,hp⟩:=zqq hp;refine zwq (p:=A) h.pre F G I O fun Fa P va wa xa ya za Aa Ba S T Y Z aa ba ca da=>?_;obtain⟨i,ea⟩:=h.callG S d;have fa:=N.k ea;refine⟨_,_,_,_,_,_,_,_,_,_,_,_,_,_,_,_,_,_,_,_,_,_,_,_,rfl,?_⟩
 have l:zwi P ((C.fn (Fn.func 60) [] [])) (fun a=>ztx a):=by
  intro f' m' a r Q hs hpre  hg hq;exact zvz hpre  hg hq
 obtain⟨j,ga,hp⟩:=zqq hp;refine zws (w:=({ p:=e.p,kinds:=e.kinds,shared:=(),played:=e.played }:Wk)) (number:=(fun a=>ztx a)) i.pre T Y Z aa ba (show zrF _ _ _ from ca.noFn) da l ga fun Ga ha=>?_;obtain⟨ia,ja⟩:=i.call ha d;have ka:=fa.k ja;refine⟨_,_,rfl,?_⟩;obtain⟨la,ma,na,Ca,oa⟩:=ka.sto ia [Il j.Lo,Il j.Hi];refine⟨la,ma,?_⟩;refine⟨_,_,oa.bk.ra,?_⟩;obtain rfl:=oi hp;exact hq _ na.ext'
theorem zwz{p:Pg}{set:List Int}{ca100 ca102 ca103 ca200:C}{m f:M}{Q:V->M->Prop}{rz:Bool}(hS:Pre f m)(ha100:Sl f ca100 p.Losses)(ha102:Sl f ca102 p.Treaties)(ha103:Sl f ca103 p.Reports)(ha200:Sl f ca200 set)(hp:zt0 p set=some rz)(hq:∀m',Ext m m'->Q (.c (.bool rz)) m'):Wc prog tbl 44 [.agg 4 [ca100,Il p.Reserve,ca102,ca103],.c ca200] m Q:=by
 have r:=hS.st;obtain⟨s,_⟩:=zsk;refine w44 ?_;unfold zt0 at hp;intro t e;obtain⟨g,d,o,a⟩:=r.blk e s 1;refine⟨_,_,_,_,a.bk.ra,?_⟩;obtain⟨q,h,hp⟩:=zqq hp;refine zwy (p:=p) (set:=set) d.pre ha100 ha102 ha103 ha200 h fun u i=>?_;obtain⟨j,l⟩:=d.call i g;have n:=a.k l;refine⟨_,_,rfl,trivial,_,n.bk.rc rfl,(a.bk.rc rfl),?_⟩;obtain rfl:=oi hp;exact hq _ j.ext'
theorem zwA{p:Pg}{set:List Int}{ca100 ca102 ca103 ca200:C}{m f:M}{Q:V->M->Prop}{rz:Rg × Int}(hS:Pre f m)(ha100:Sl f ca100 p.Losses)(ha102:Sl f ca102 p.Treaties)(ha103:Sl f ca103 p.Reports)(ha200:Sl f ca200 set)(hp:zt1 p set=some rz)(hq:∀m',Ext m m'->Q (.tup [.agg 2 [Il rz.1.Lo,Il rz.1.Hi],.c (Il rz.2)]) m'):Wc prog tbl 10 [.agg 4 [ca100,Il p.Reserve,ca102,ca103],.c ca200] m Q:=by
 have S0:=hS.st;obtain⟨τ0,_⟩:=zsk;refine w10 ?_;unfold zt1 at hp;intro m0 s;obtain⟨t,u,la,w⟩:=S0.blk s τ0 1;intro m1 y;obtain⟨a,g,z,A⟩:=u.blk y t 2;have h:=w.k z;refine⟨_,_,_,_,h.bk.ra,?_⟩;obtain⟨ma,B,hp⟩:=zqq hp;refine zvs (p:=p) g.pre ha100 ha102 ha103 B fun m7 D=>?_;obtain⟨d,i⟩:=g.call D a;have j:=h.k i;have n:=A.k i;refine⟨_,rfl,?_⟩;refine zq0 hp (fun F hp=>?_) fun F hp=>?_
 ·obtain⟨G,I,J,na,N⟩:=n.sto d [Il 0,Il 0];refine⟨G,I,?_⟩;refine⟨_,_,N.bk.ra,?_⟩;obtain rfl:=oi hp;exact hq _ J.ext'
 refine⟨_,_,_,_,j.bk.ra,?_⟩;obtain⟨oa,O,hp⟩:=zqq hp;refine zvv (p:=p) (l:=set) d.pre ha100 ha102 ha103 ha200 O fun ua P=>?_;obtain⟨e,o⟩:=d.call P a;have S:=j.k o;have q:=n.k o;refine⟨_,rfl,?_⟩;refine zq2 hp (fun T hp=>?_) fun T hp=>?_
 ·obtain⟨Y,Z,aa,pa,ba⟩:=q.sto e [Il 0,Il 0];refine⟨Y,Z,?_⟩;refine⟨_,_,ba.bk.ra,?_⟩;obtain rfl:=oi hp;exact hq _ aa.ext'
 refine⟨_,_,_,_,S.bk.ra,?_⟩;obtain⟨r,ca,hp⟩:=zqq hp;refine zwy (p:=p) (set:=set) e.pre ha100 ha102 ha103 ha200 ca fun va da=>?_;obtain⟨ea,fa⟩:=e.call da a;have ga:=q.k fa;refine⟨_,_,rfl,?_⟩;obtain⟨ha,ia,ja,qa,ka⟩:=ga.sto ea [Il r.Lo,Il r.Hi];refine⟨ha,ia,?_⟩;refine⟨_,_,ka.bk.ra,?_⟩;obtain rfl:=oi hp;exact hq _ ja.ext'
theorem zwB{p:Pg}{ca100 ca102 ca103:C}{m f:M}{Q:V->M->Prop}{rz:List Int × Bool}(hS:Pre f m)(ha100:Sl f ca100 p.Losses)(ha102:Sl f ca102 p.Treaties)(ha103:Sl f ca103 p.Reports)(hp:zt4 p=some rz)(hq:∀m' f' c0,Grw m f m' f'->Sl f' c0 rz.1->Q (.tup [.c c0,.c (.bool rz.2)]) m'):Wc prog tbl 37 [.agg 4 [ca100,Il p.Reserve,ca102,ca103]] m Q:=by
 have S0:=hS.st;obtain⟨τ0,_⟩:=zsk;refine w37 ?_;unfold zt4 at hp;intro m0 sb;obtain⟨tb,ub,Fd,vb⟩:=S0.blk sb τ0 1;intro m1 xb;obtain⟨yb,zb,Ab,Bb⟩:=ub.blk xb tb 2;have Cb:=vb.k Ab;intro m2 Db;obtain⟨Eb,Fb,Fa,G⟩:=zb.blk Db yb 3;have P:=Cb.k Fa;have I:=Bb.k Fa;refine⟨trivial,_,P.bk.rc rfl,ha102.isSl,?_⟩;obtain⟨Ga,hp⟩:=zqr hp;refine⟨(by first|exact Ga|(rw[ha102.slLen];exact Ga)),?_⟩;intro R4 zd
 have hgo:∀(y:Nat) (x5:Int) (z:C) (S:List Int) (J:Bool) (m6:M) (s:M) (t:Nat->Nat),St (Fm.of m) f s m6->Sub f s->Lb (Fm.of m) s t m6 1 m.nxt 4 [ca100,Il p.Reserve,ca102,ca103]->Lb (Fm.of m) s t m6 2 m0.nxt 1 [z]->Lb (Fm.of m) s t m6 3 m1.nxt 1 [.bool J]->Ow (Fm.of m) s t m6 4 z S->zt3 p y S J x5=some rz->R4 [.c (Il x5)] m6:=by
  intro y
  induction y with
  | zero=>intro x5 z S J m6 s t na d P I G o hp; cases hp
  | succ y yd=>
   intro x5 z S J m6 s t na d P I G o hp;refine zd _ _ ?_;rw[zt3] at hp
   try rw[ha102.slLen]
   refine ifd hp (fun Gb hp=>?_) fun Gb hp=>?_; rotate_left
   ·refine⟨_,I.bk.rc rfl,_,G.bk.rc rfl,?_⟩;obtain⟨Hb,Ib,Jb,Ha,Kb⟩:=I.sto na [z];have Ia:=G.k Ha;have o:=o.k Ha;refine⟨Hb,Ib,?_⟩;refine⟨(Ia.bk.rc rfl),?_⟩;obtain⟨Mb,Nb,Ob,Ja,Pb⟩:=Ia.sto Jb [.bool J];have Qb:=Kb.k Ja;have o:=o.k Ja;refine⟨Mb,Nb,?_⟩;refine⟨_,Qb.bk.rc rfl,_,Pb.bk.rc rfl,?_⟩;obtain⟨Rb,Sb,Gd,Tb⟩:=o.freeze Ob;obtain rfl:=oi hp;exact hq _ Rb z Sb.grw Tb
   try rw[ha102.slLen]
   obtain⟨Hd,Ub,hp⟩:=zqq hp;refine zwh (n:=(p.Treaties.length:Int)) (size:=x5) na.pre  Ub fun m8 Id Jd Vb Wb=>?_;obtain⟨Xb,e⟩:=na.callG Vb t;have Ka:=P.k e;have La:=I.k e;have Ma:=G.k e;have o:=o.k e;refine⟨_,rfl,?_⟩;refine zrw (α:=List Int) Xb Wb (σ:=(List Int) × C × Bool) 5 (fun st bb=>(False\/(False\/((zqV st.2.1 bb)\/False)))) (fun st gG gF gT gM=>(Lb gG gF gT gM 1 m.nxt 4 [ca100,Il p.Reserve,ca102,ca103])/\(Lb gG gF gT gM 2 m0.nxt 1 [st.2.1])/\(Ow gG gF gT gM 4 st.2.1 st.1)/\(Lb gG gF gT gM 3 m1.nxt 1 [.bool st.2.2])) (fun rr_ st=>zt2 p x5 (zt3 p y) rr_ st.1 st.2.2=some rz) (fun ex st=>False) (fun st=>(Gux.and (Gux.lb Ka.bk.lt (by decide)) (Gux.and (Gux.lb La.bk.lt (by decide)) (Gux.and (Gux.ow (by decide)) (Gux.lb Ma.bk.lt (by decide)))))) (st0:=(S,z,J)) (τ:=t) ⟨Ka,La,o,Ma⟩ hp ?_ ?_ ?_ ?_
   ·intro A Yb st oa i Na pa Ld Ad Cd Dd _ _ Zb g hA fb hp hrep Ed gb u;obtain⟨Md,rfl,⟨N,_⟩⟩:=hrep;obtain⟨j,q,r⟩:=st;obtain⟨B,D,a,F⟩:=hA
    replace B:Lb pa oa i Na 1 m.nxt 4 [ca100,Il p.Reserve,ca102,ca103]:=B
    replace D:Lb pa oa i Na 2 m0.nxt 1 [q]:=D
    replace a:Ow pa oa i Na 4 q j:=a
    replace F:Lb pa oa i Na 3 m1.nxt 1 [.bool r]:=F
    replace hp:zt2 p x5 (zt3 p y) (A::Yb) j r=some rz:=hp
    rw[zt2] at hp;refine⟨_,rfl,?_⟩;refine gb _ _ _ _ Zb fb fun fe Nd Oa qa hb w=>?_;have Pa:=B.k qa;have ac:=D.k qa;have bc:=F.k qa;have a:=a.k qa;refine⟨_,_,_,_,Pa.bk.ra,?_⟩;have Od:=a;obtain⟨Pd,cc,hp⟩:=zqq hp;refine zvv (p:=p) (l:=A) Oa.pre (ha100.sub (Sub.trans (Sub.trans d e.fs) g)) (ha102.sub (Sub.trans (Sub.trans d e.fs) g)) (ha103.sub (Sub.trans (Sub.trans d e.fs) g)) N cc fun ge dc=>?_;obtain⟨T,Y⟩:=Oa.call dc i;have O:=Pa.k Y;have sa:=ac.k Y;have ta:=bc.k Y;have a:=a.k Y;have ua:=hb.k Y;refine⟨_,rfl,?_⟩;refine zq2 hp (fun ec hp=>?_) fun ec hp=>?_
    ·exact u .nrm (j,q,r) _ _ _ _ T ⟨O,sa,a,ta⟩ ua w hp
    refine⟨_,ta.bk.rc rfl,?_⟩;refine zq1 hp (fun fc hp=>?_) fun fc hp=>?_; rotate_left
    ·refine⟨_,_,_,_,O.bk.ra,?_⟩;have Qd:=a;obtain⟨Rd,gc,hp⟩:=zqq hp;refine zwz (p:=p) (set:=A) T.pre (ha100.sub (Sub.trans (Sub.trans d e.fs) g)) (ha102.sub (Sub.trans (Sub.trans d e.fs) g)) (ha103.sub (Sub.trans (Sub.trans d e.fs) g)) N gc fun he hc=>?_;obtain⟨va,Z⟩:=T.call hc i;have Qa:=O.k Z;have Ra:=sa.k Z;have Sa:=ta.k Z;have a:=a.k Z;have Ca:=ua.k Z;refine⟨_,rfl,?_⟩;refine zq1 hp (fun ic hp=>?_) fun ic hp=>?_; rotate_left
     ·exact u .nrm (j,q,r) _ _ _ _ va ⟨Qa,Ra,a,Sa⟩ Ca w hp
     obtain⟨jc,kc,hp⟩:=zqq hp;refine zvI (l:=A) va.pre N kc fun ie Sd Ta nc pc=>?_;obtain⟨Td,qc,aa,ba⟩:=va.callO nc pc i 4;have sc:=Qa.k aa;have tc:=Ra.k aa;have uc:=Sa.k aa;have a:=a.k aa;have ib:=Ca.k aa;refine⟨_,rfl,?_⟩;obtain⟨vc,wc,xc,ca,yc⟩:=tc.sto qc [Ta];have zc:=sc.k ca;have Ac:=uc.k ca;have a:=a.k ca;have ba:=ba.k ca;have jb:=ib.k ca;refine⟨vc,wc,?_⟩;obtain⟨Bc,Cc,Dc,da,Ec⟩:=Ac.sto xc [.bool true];have Fc:=zc.k da;have Gc:=yc.k da;have a:=a.k da;have ba:=ba.k da;have kb:=jb.k da;refine⟨Bc,Cc,?_⟩;exact u .nrm (jc,Ta,true) _ _ _ _ Dc ⟨Fc,Gc,ba,Ec⟩ kb w hp
    refine⟨_,_,_,_,O.bk.ra,?_⟩;have Ud:=a;obtain⟨Vd,Hc,hp⟩:=zqq hp;refine zvw (p:=p) (set:=A) T.pre (ha100.sub (Sub.trans (Sub.trans d e.fs) g)) (ha102.sub (Sub.trans (Sub.trans d e.fs) g)) (ha103.sub (Sub.trans (Sub.trans d e.fs) g)) N Hc fun je Ic=>?_;obtain⟨Ua,ea⟩:=T.call Ic i;have Va:=O.k ea;have Wa:=sa.k ea;have Jc:=ta.k ea;have a:=a.k ea;have mb:=ua.k ea;refine⟨_,rfl,_,_,_,_,Va.bk.ra,(by rw[show zaL cmC _=true from zoX (zqt ha100.noFn (zqt rfl (zqt ha102.noFn (zqt ha103.noFn zqu))))]; exact(O.bk.ra)),_,Wa.bk.rc rfl,(by rw[show cmC _=true from zoW (a.noFn)]; exact(sa.bk.rc rfl)),?_⟩;have h:=a;obtain⟨Wd,Kc,wa,Nc⟩:=a.freeze Ua;obtain⟨Xd,Pc,hp⟩:=zqq hp;refine zvw (p:=p) (set:=j) Kc.pre (ha100.sub (Sub.trans (Sub.trans (Sub.trans d e.fs) g) wa.fs)) (ha102.sub (Sub.trans (Sub.trans (Sub.trans d e.fs) g) wa.fs)) (ha103.sub (Sub.trans (Sub.trans (Sub.trans d e.fs) g) wa.fs)) Nc Pc fun ke Qc=>?_;obtain⟨xa,fa⟩:=Ua.call Qc i;have ya:=Va.k fa;have Xa:=Wa.k fa;have Ya:=Jc.k fa;have h:=h.k fa;have Da:=mb.k fa;refine⟨_,rfl,?_⟩;refine ifd hp (fun Rc hp=>?_) fun Rc hp=>?_
    ·exact u .nrm (j,q,r) _ _ _ _ xa ⟨ya,Xa,h,Ya⟩ Da w hp
    refine⟨_,_,_,_,ya.bk.ra,?_⟩;have Yd:=h;obtain⟨Zd,Tc,hp⟩:=zqq hp;refine zwz (p:=p) (set:=A) xa.pre (ha100.sub (Sub.trans (Sub.trans d e.fs) g)) (ha102.sub (Sub.trans (Sub.trans d e.fs) g)) (ha103.sub (Sub.trans (Sub.trans d e.fs) g)) N Tc fun me Uc=>?_;obtain⟨za,ga⟩:=xa.call Uc i;have Za:=ya.k ga;have ab:=Xa.k ga;have cb:=Ya.k ga;have h:=h.k ga;have Ea:=Da.k ga;refine⟨_,rfl,?_⟩;refine zq1 hp (fun Vc hp=>?_) fun Vc hp=>?_; rotate_left
    ·exact u .nrm (j,q,r) _ _ _ _ za ⟨Za,ab,h,cb⟩ Ea w hp
    obtain⟨Xc,Yc,hp⟩:=zqq hp;refine zvI (l:=A) za.pre N Yc fun oe ae db Zc ad=>?_;obtain⟨be,bd,ha,ia⟩:=za.callO Zc ad i 4;have cd:=Za.k ha;have dd:=ab.k ha;have ed:=cb.k ha;have h:=h.k ha;have ob:=Ea.k ha;refine⟨_,rfl,?_⟩;obtain⟨fd,hd,jd,ja,kd⟩:=dd.sto bd [db];have ld:=cd.k ja;have md:=ed.k ja;have h:=h.k ja;have ia:=ia.k ja;have pb:=ob.k ja;refine⟨fd,hd,?_⟩;obtain⟨nd,od,pd,ka,qd⟩:=md.sto jd [.bool true];have sd:=ld.k ka;have td:=kd.k ka;have h:=h.k ka;have ia:=ia.k ka;have qb:=pb.k ka;refine⟨nd,od,?_⟩;exact u .nrm (Xc,db,true) _ _ _ _ pd ⟨sd,td,ia,qd⟩ qb w hp
   ·intro st la ma eb ud vd hA hp;obtain⟨j,q,r⟩:=st
    replace hp:zt2 p x5 (zt3 p y) [] j r=some rz:=hp
    obtain⟨B,D,a,F⟩:=hA
    replace B:Lb (Fm.of m) la ma eb 1 m.nxt 4 [ca100,Il p.Reserve,ca102,ca103]:=B
    replace D:Lb (Fm.of m) la ma eb 2 m0.nxt 1 [q]:=D
    replace a:Ow (Fm.of m) la ma eb 4 q j:=a
    replace F:Lb (Fm.of m) la ma eb 3 m1.nxt 1 [.bool r]:=F
    rw[zt2] at hp;refine gdi hp fun xd hp=>?_;exact yd _ _ _ _ _ la ma ud (Sub.trans (Sub.trans d e.fs) vd) B D F a hp
   ·intro id st _ _ _ _ _ _ hn; first | exact hn.elim | (cases hn)
   ·intro st _ _ _ _ _ _ hn; first | exact hn.elim | (cases hn)
 exact hgo _ _ _ _ _ _ f Eb Fb (Sub.refl _) P I G (Ow.nil _ _ _ _ _) hp
theorem zwC{p:Pg}{ca100 ca102 ca103:C}{m f:M}{Q:V->M->Prop}{rz:List Int × Int × Int}(hS:Pre f m)(ha100:Sl f ca100 p.Losses)(ha102:Sl f ca102 p.Treaties)(ha103:Sl f ca103 p.Reports)(hp:zt5 p=some rz)(hq:∀m' f' c0,Grw m f m' f'->Sl f' c0 rz.1->Q (.tup [.c c0,.c (Il rz.2.1),.c (Il rz.2.2)]) m'):Wc prog tbl 11 [.agg 4 [ca100,Il p.Reserve,ca102,ca103]] m Q:=by
 have P:=hS.st;obtain⟨S,_⟩:=zsk;refine w11 ?_;unfold zt5 at hp;intro Z o;obtain⟨d,h,I,i⟩:=P.blk o S 1;refine⟨_,_,_,_,i.bk.ra,?_⟩;obtain⟨J,q,hp⟩:=zqq hp;refine zvs (p:=p) h.pre ha100 ha102 ha103 q fun m6 r=>?_;obtain⟨e,s⟩:=h.call r d;have j:=i.k s;refine⟨_,rfl,?_⟩;refine zq0 hp (fun t hp=>?_) fun t hp=>?_
 ·obtain rfl:=oi hp;exact hq _ f .sl0 e.grw (Sl.nil _)
 refine⟨_,_,_,_,j.bk.ra,?_⟩;obtain⟨u,w,hp⟩:=zqq hp;refine zwB (p:=p) e.pre ha100 ha102 ha103 w fun T l y z n=>?_;obtain⟨g,a⟩:=e.callG z d;have A:=j.k a;refine⟨_,_,rfl,?_⟩;refine zq2 hp (fun B hp=>?_) fun B hp=>?_
 ·obtain rfl:=oi hp;exact hq _ l .sl0 g.grw (Sl.nil _)
 refine⟨_,_,_,_,A.bk.ra,?_⟩;obtain⟨N,D,hp⟩:=zqq hp;refine zvw (p:=p) (set:=u.1) g.pre (ha100.sub a.fs) (ha102.sub a.fs) (ha103.sub a.fs) n D fun Y F=>?_;obtain⟨G,O⟩:=g.call F d;refine⟨_,rfl,?_⟩;obtain rfl:=oi hp;exact hq _ l y G.grw n
theorem zwD{p:Pg}{set:List Int}{price:Int}{ca100 ca102 ca103 ca200:C}{m f:M}{Q:V->M->Prop}{rz:Bool}(hS:Pre f m)(ha100:Sl f ca100 p.Losses)(ha102:Sl f ca102 p.Treaties)(ha103:Sl f ca103 p.Reports)(ha200:Sl f ca200 set)(hp:zt6 p set price=some rz)(hq:∀m',Ext m m'->Q (.c (.bool rz)) m'):Wc prog tbl 16 [.agg 4 [ca100,Il p.Reserve,ca102,ca103],.c ca200,.c (Il price)] m Q:=by
 have S0:=hS.st;obtain⟨τ0,_⟩:=zsk;refine w16 ?_;unfold zt6 at hp;intro m0 o;obtain⟨a,h,O,i⟩:=S0.blk o τ0 1;refine⟨_,_,_,_,i.bk.ra,?_⟩;obtain⟨P,q,hp⟩:=zqq hp;refine zvs (p:=p) h.pre ha100 ha102 ha103 q fun m6 r=>?_;obtain⟨d,s⟩:=h.call r a;have j:=i.k s;refine⟨_,rfl,?_⟩;refine ifd hp (fun t hp=>?_) fun t hp=>?_; rotate_left
 ·obtain rfl:=oi hp;exact hq _ d.ext'
 refine⟨_,_,_,_,j.bk.ra,?_⟩;obtain⟨S,u,hp⟩:=zqq hp;refine zvv (p:=p) (l:=set) d.pre ha100 ha102 ha103 ha200 u fun ca w=>?_;obtain⟨e,y⟩:=d.call w a;have n:=j.k y;refine⟨_,rfl,?_⟩;refine zq1 hp (fun z hp=>?_) fun z hp=>?_; rotate_left
 ·obtain rfl:=oi hp;exact hq _ e.ext'
 refine⟨_,_,_,_,n.bk.ra,?_⟩;obtain⟨T,A,hp⟩:=zqq hp;refine zvw (p:=p) (set:=set) e.pre ha100 ha102 ha103 ha200 A fun da B=>?_;obtain⟨g,D⟩:=e.call B a;have F:=n.k D;refine⟨_,rfl,?_⟩;refine ifd hp (fun G hp=>?_) fun G hp=>?_; rotate_left
 ·obtain rfl:=oi hp;exact hq _ g.ext'
 refine⟨_,_,_,_,F.bk.ra,?_⟩;obtain⟨Y,I,hp⟩:=zqq hp;refine zwz (p:=p) (set:=set) g.pre ha100 ha102 ha103 ha200 I fun ea J=>?_;obtain⟨N,Z⟩:=g.call J a;refine⟨_,rfl,?_⟩;obtain rfl:=oi hp;exact hq _ N.ext'
theorem zwE{n:Int}{w:Wk}{b0:Nat}{p:Pg}{b1:Nat}{cb000 cb002 cb003 cb012 cb021 cb022 cb023 cb100 cb102 cb103:C}{m f:M}{Q:V->M->Prop}{rz:Bool}(hS:Pre f m)(hb0:Bk f b0 24 [cb000,Il w.p.Reserve,cb002,cb003,Il w.kinds.k0.part.Lo,Il w.kinds.k0.part.Hi,Il w.kinds.k0.above.Lo,Il w.kinds.k0.above.Hi,Il w.kinds.k0.most.Lo,Il w.kinds.k0.most.Hi,Il w.kinds.k0.times.Lo,Il w.kinds.k0.times.Hi,cb012,Il w.kinds.k1.part.Lo,Il w.kinds.k1.part.Hi,Il w.kinds.k1.above.Lo,Il w.kinds.k1.above.Hi,Il w.kinds.k1.most.Lo,Il w.kinds.k1.most.Hi,Il w.kinds.k1.times.Lo,Il w.kinds.k1.times.Hi,cb021,cb022,cb023])(hb000:Sl f cb000 w.p.Losses)(hb002:Sl f cb002 w.p.Treaties)(hb003:Sl f cb003 w.p.Reports)(hb012:zuD f cb012 w.kinds.k0.takes)(hb021:zuD f cb021 w.kinds.k1.takes)(hb022:zrF f cb022 w.shared)(hb023:MiS f cb023 w.played)(hb1:Bk f b1 4 [cb100,Il p.Reserve,cb102,cb103])(_hb100:Sl f cb100 p.Losses)(_hb102:Sl f cb102 p.Treaties)(hb103:Sl f cb103 p.Reports)(hp:zt7 n w p=some rz)(hq:∀m',Ext m m'->Q (.c (.bool rz)) m'):Wc prog tbl 49 [.c (Il n),.c (.ptr b0 0),.c (.ptr b1 0)] m Q:=by
 have a:=hS.st;obtain⟨u,_⟩:=zsk;refine c49 ?_;unfold zt7 at hp;refine⟨_,_,_,_,_,_,_,_,_,_,_,_,_,_,_,_,_,_,_,_,_,_,_,_,(hb0.sub a.sub).ra,trivial,_,(hb1.sub a.sub).rc rfl,?_⟩;refine gdi hp fun d hp=>?_;obtain⟨r,hp⟩:=zqr hp;obtain⟨e,g,h⟩:=hb103.subC (i:=Int.toNat (0:Int)) (j:=Int.toNat (n+1)) (by omega) (by omega);refine⟨_,_,rfl,(show(n+1)=((Int.toNat (n+1):Nat):Int) by omega),e,g,?_⟩;obtain⟨s,l,hp⟩:=zqq hp;refine zwr (w:=({ p:=w.p,kinds:=w.kinds,shared:=(),played:=w.played }:Wk)) (reports:=((p.Reports.take (Int.toNat (n+1))).drop (Int.toNat (0:Int)))) a.pre hb000 hb002 hb003 hb012 hb021 (show zrF _ _ _ from hb022.noFn) hb023 h l fun y o=>?_;obtain⟨q,t⟩:=a.call o u;refine⟨_,rfl,?_⟩;obtain rfl:=oi hp;exact hq _ q.ext'
theorem zwF{n:Int}{p:Int->Option (Bool)}{ca200:C}{m f:M}{Q:V->M->Prop}{rz:Int}(hS:Pre f m)(ha200:zuH f ca200 p)(hp:zt9 n p=some rz)(hq:∀m',Ext m m'->Q (.c (Il rz)) m'):Wc prog tbl 50 [.c (Il n),.c ca200] m Q:=by
 have G:=hS.st;obtain⟨I,_⟩:=zsk;refine w50 ?_;unfold zt9 at hp;intro J B
 have hgo:∀(d:Nat) (i:Int) (j:Int) (l:M) (a:Nat->Nat),St (Fm.of m) f f l->zt8 p d i j=some rz->J [.c (Il i),.c (Il j)] l:=by
  intro d
  induction d with
  | zero=>intro i j l a e hp; cases hp
  | succ d h=>
   intro i j l a e hp;refine B _ _ _ ?_;rw[zt8] at hp;refine ifd hp (fun o hp=>?_) fun o hp=>?_; rotate_left
   ·obtain rfl:=oi hp;exact hq _ e.ext'
   refine gdi hp fun q hp=>?_;refine gdi hp fun r hp=>?_;refine gdi hp fun s hp=>?_;refine gdi hp fun t hp=>?_;refine gdi hp fun u hp=>?_;obtain⟨D,w,hp⟩:=zqq hp;refine ha200 _ _ _ _ _ (Sub.refl _) e.pre  w fun N y=>?_;obtain⟨g,F⟩:=e.call y a;refine⟨_,rfl,?_⟩;refine zq2 hp (fun z hp=>?_) fun z hp=>?_; rotate_left
   ·exact h _ _ _ a g hp
   refine gdi hp fun A hp=>?_;exact h _ _ _ a g hp
 exact hgo _ _ _ _ I G hp
theorem zwG{p:Pg}{ca100 ca102 ca103:C}{m f:M}{Q:V->M->Prop}{rz:Int × Int}(hS:Pre f m)(ha100:Sl f ca100 p.Losses)(ha102:Sl f ca102 p.Treaties)(ha103:Sl f ca103 p.Reports)(hp:zua p=some rz)(hq:∀m',Ext m m'->Q (.tup [.c (Il rz.1),.c (Il rz.2)]) m'):Wc prog tbl 19 [.agg 4 [ca100,Il p.Reserve,ca102,ca103]] m Q:=by
 have S0:=hS.st;obtain⟨τ0,_⟩:=zsk;refine w19 ?_;unfold zua at hp;intro m0 A;obtain⟨i,q,Ca,s⟩:=S0.blk A τ0 1;refine⟨_,_,_,_,s.bk.ra,?_⟩;obtain⟨Da,B,hp⟩:=zqq hp;refine zvs (p:=p) q.pre ha100 ha102 ha103 B fun m6 D=>?_;obtain⟨j,F⟩:=q.call D i;have t:=s.k F;refine⟨_,rfl,?_⟩;refine zq0 hp (fun G hp=>?_) fun G hp=>?_
 ·obtain rfl:=oi hp;exact hq _ j.ext'
 refine⟨_,_,_,_,t.bk.ra,?_⟩;obtain⟨a,I,hp⟩:=zqq hp;refine zwq (p:=p) j.pre ha100 ha102 ha103 I fun Ba Ea J N O P S T Y Z aa ba ca da ea fa ga=>?_;obtain⟨ha,g⟩:=j.callG Z i;have ia:=t.k g;refine⟨_,_,_,_,_,_,_,_,_,_,_,_,_,_,_,_,_,_,_,_,_,_,_,_,rfl,?_⟩;intro Ka ja;obtain⟨ka,la,ma,na⟩:=ha.blk ja i 2;have oa:=ia.k ma;obtain⟨pa,qa,sa,ta,ua⟩:=na.sto la [J,Il a.p.Reserve,N,O,Il a.kinds.k0.part.Lo,Il a.kinds.k0.part.Hi,Il a.kinds.k0.above.Lo,Il a.kinds.k0.above.Hi,Il a.kinds.k0.most.Lo,Il a.kinds.k0.most.Hi,Il a.kinds.k0.times.Lo,Il a.kinds.k0.times.Hi,P,Il a.kinds.k1.part.Lo,Il a.kinds.k1.part.Hi,Il a.kinds.k1.above.Lo,Il a.kinds.k1.above.Hi,Il a.kinds.k1.most.Lo,Il a.kinds.k1.most.Hi,Il a.kinds.k1.times.Lo,Il a.kinds.k1.times.Hi,S,T,Y];have u:=oa.k ta;refine⟨pa,qa,?_⟩;refine⟨trivial,_,u.bk.rc rfl,ha103.isSl,?_⟩
 try rw[ha103.slLen]
 obtain⟨Fa,va,d,y⟩:=ua.freeze sa;have wa:=u.k d;obtain⟨xa,w,e,o⟩:=wa.freeze va
 have z:zuH xa ((C.fn (Fn.func 49) [] [(W.c (C0.ptr Ba.nxt 0)),(W.c (C0.ptr m.nxt 0))])) (fun h=>zt7 h a p):=by
  intro f' m' h r Q hs hpre  hg hq;exact zwE hpre ((y.sub e.fs).sub hs) ((aa.sub (Sub.trans d.fs e.fs)).sub hs) ((ba.sub (Sub.trans d.fs e.fs)).sub hs) ((ca.sub (Sub.trans d.fs e.fs)).sub hs) ((da.sub (Sub.trans d.fs e.fs)).sub hs) ((ea.sub (Sub.trans d.fs e.fs)).sub hs) ((fa.sub (Sub.trans d.fs e.fs)).sub hs) ((ga.sub (Sub.trans d.fs e.fs)).sub hs) (o.sub hs) ((ha100.sub (Sub.trans (Sub.trans g.fs d.fs) e.fs)).sub hs) ((ha102.sub (Sub.trans (Sub.trans g.fs d.fs) e.fs)).sub hs) ((ha103.sub (Sub.trans (Sub.trans g.fs d.fs) e.fs)).sub hs) hg hq
 obtain⟨Ga,ya,hp⟩:=zqq hp;refine zwF (n:=(p.Reports.length:Int)) (p:=(fun h=>zt7 h a p)) w.pre z ya fun La za=>?_;obtain⟨l,Ha⟩:=w.call za ka;refine⟨_,rfl,trivial,_,(o.sub l.sub).rc rfl,ha103.isSl,?_⟩
 try rw[ha103.slLen]
 refine ifd hp (fun Aa hp=>?_) fun Aa hp=>?_
 ·obtain rfl:=oi hp;exact hq _ l.ext'
 obtain rfl:=oi hp;exact hq _ l.ext'
theorem zwH{list:List Int}{w:Wk}{b0:Nat}{p:Pg}{b1:Nat}{ca100 cb000 cb002 cb003 cb012 cb021 cb022 cb023 cb100 cb102 cb103:C}{m f:M}{Q:V->M->Prop}{rz:Bool}(hS:Pre f m)(ha100:Sl f ca100 list)(hb0:Bk f b0 24 [cb000,Il w.p.Reserve,cb002,cb003,Il w.kinds.k0.part.Lo,Il w.kinds.k0.part.Hi,Il w.kinds.k0.above.Lo,Il w.kinds.k0.above.Hi,Il w.kinds.k0.most.Lo,Il w.kinds.k0.most.Hi,Il w.kinds.k0.times.Lo,Il w.kinds.k0.times.Hi,cb012,Il w.kinds.k1.part.Lo,Il w.kinds.k1.part.Hi,Il w.kinds.k1.above.Lo,Il w.kinds.k1.above.Hi,Il w.kinds.k1.most.Lo,Il w.kinds.k1.most.Hi,Il w.kinds.k1.times.Lo,Il w.kinds.k1.times.Hi,cb021,cb022,cb023])(hb000:Sl f cb000 w.p.Losses)(hb002:Sl f cb002 w.p.Treaties)(hb003:Sl f cb003 w.p.Reports)(hb012:zuD f cb012 w.kinds.k0.takes)(hb021:zuD f cb021 w.kinds.k1.takes)(hb022:zrF f cb022 w.shared)(hb023:MiS f cb023 w.played)(hb1:Bk f b1 4 [cb100,Il p.Reserve,cb102,cb103])(_hb100:Sl f cb100 p.Losses)(_hb102:Sl f cb102 p.Treaties)(hb103:Sl f cb103 p.Reports)(hp:zub list w p=some rz)(hq:∀m',Ext m m'->Q (.c (.bool rz)) m'):Wc prog tbl 40 [.c ca100,.c (.ptr b0 0),.c (.ptr b1 0)] m Q:=by
 have e:=hS.st;obtain⟨r,_⟩:=zsk;refine c40 ?_;unfold zub at hp;refine⟨_,_,_,_,_,_,_,_,_,_,_,_,_,_,_,_,_,_,_,_,_,_,_,_,(hb0.sub e.sub).ra,trivial,_,(hb1.sub e.sub).rc rfl,?_⟩;obtain⟨g,h,hp⟩:=zqq hp;refine zvH (l:=p.Reports) (out:=list) e.pre hb103 ha100 h fun z s t i j=>?_;obtain⟨d,a⟩:=e.callG i r;refine⟨_,rfl,(by rw[show zaL cmC _=true from (zrM (zoW hb000.noFn) (zrM (zoW rfl) (zrM (zoW hb002.noFn) (zrM (zoW hb003.noFn) (zrM (zoW rfl) (zrM (zoW rfl) (zrM (zoW rfl) (zrM (zoW rfl) (zrM (zoW rfl) (zrM (zoW rfl) (zrM (zoW rfl) (zrM (zoW rfl) (zrM (zrK hb012.1) (zrM (zoW rfl) (zrM (zoW rfl) (zrM (zoW rfl) (zrM (zoW rfl) (zrM (zoW rfl) (zrM (zoW rfl) (zrM (zoW rfl) (zrM (zoW rfl) (zrM (zrK hb021.1) (zrM (zoW hb022.noFn) (zrM (zoW hb023.noFn) zrL))))))))))))))))))))))))]; exact((hb0.sub (Sub.trans a.fs d.sub)).ra)),?_⟩;obtain⟨u,n,hp⟩:=zqq hp;refine zwr (w:=({ p:=w.p,kinds:=w.kinds,shared:=(),played:=w.played }:Wk)) (reports:=g) d.pre (hb000.sub a.fs) (hb002.sub a.fs) (hb003.sub a.fs) (hb012.sub a.fs) (hb021.sub a.fs) (show zrF _ _ _ from hb022.noFn) (hb023.sub a.fs) j n fun A o=>?_;obtain⟨q,y⟩:=d.call o r;refine⟨_,rfl,?_⟩;obtain rfl:=oi hp;exact hq _ q.ext'
theorem zwI{p:Pg}{ca100 ca102 ca103:C}{m f:M}{Q:V->M->Prop}{rz:List Int × Int}(hS:Pre f m)(ha100:Sl f ca100 p.Losses)(ha102:Sl f ca102 p.Treaties)(ha103:Sl f ca103 p.Reports)(hp:zuc p=some rz)(hq:∀m' f' c0,Grw m f m' f'->Sl f' c0 rz.1->Q (.tup [.c c0,.c (Il rz.2)]) m'):Wc prog tbl 13 [.agg 4 [ca100,Il p.Reserve,ca102,ca103]] m Q:=by
 have S0:=hS.st;obtain⟨τ0,_⟩:=zsk;refine w13 ?_;unfold zuc at hp;intro m0 z;obtain⟨i,l,Fa,o⟩:=S0.blk z τ0 1;refine⟨_,_,_,_,o.bk.ra,?_⟩;obtain⟨Ga,A,hp⟩:=zqq hp;refine zvs (p:=p) l.pre ha100 ha102 ha103 A fun m6 B=>?_;obtain⟨j,D⟩:=l.call B i;have q:=o.k D;refine⟨_,rfl,?_⟩;refine zq0 hp (fun F hp=>?_) fun F hp=>?_
 ·obtain rfl:=oi hp;exact hq _ f .sl0 j.grw (Sl.nil _)
 refine⟨_,_,_,_,q.bk.ra,?_⟩;obtain⟨a,G,hp⟩:=zqq hp;refine zwq (p:=p) j.pre ha100 ha102 ha103 G fun Ea Ha I J N O P S T Y Z aa ba ca da ea fa=>?_;obtain⟨ga,g⟩:=j.callG Y i;have ha:=q.k g;refine⟨_,_,_,_,_,_,_,_,_,_,_,_,_,_,_,_,_,_,_,_,_,_,_,_,rfl,?_⟩;intro Oa ia;obtain⟨ja,ka,la,ma⟩:=ga.blk ia i 2;have na:=ha.k la;obtain⟨oa,pa,qa,sa,ta⟩:=ma.sto ka [I,Il a.p.Reserve,J,N,Il a.kinds.k0.part.Lo,Il a.kinds.k0.part.Hi,Il a.kinds.k0.above.Lo,Il a.kinds.k0.above.Hi,Il a.kinds.k0.most.Lo,Il a.kinds.k0.most.Hi,Il a.kinds.k0.times.Lo,Il a.kinds.k0.times.Hi,O,Il a.kinds.k1.part.Lo,Il a.kinds.k1.part.Hi,Il a.kinds.k1.above.Lo,Il a.kinds.k1.above.Hi,Il a.kinds.k1.most.Lo,Il a.kinds.k1.most.Hi,Il a.kinds.k1.times.Lo,Il a.kinds.k1.times.Hi,P,S,T];have s:=na.k sa;refine⟨oa,pa,?_⟩;refine⟨trivial,_,s.bk.rc rfl,ha103.isSl,?_⟩
 try rw[ha103.slLen]
 obtain⟨Ia,ua,d,u⟩:=ta.freeze qa;have va:=s.k d;obtain⟨wa,t,e,w⟩:=va.freeze ua
 have y:zvX wa ((C.fn (Fn.func 40) [] [(W.c (C0.ptr Ea.nxt 0)),(W.c (C0.ptr m.nxt 0))])) (fun h=>zub h a p):=by
  intro f' m' h Ja r Q hs hpre xa hg hq;exact zwH hpre xa ((u.sub e.fs).sub hs) ((Z.sub (Sub.trans d.fs e.fs)).sub hs) ((aa.sub (Sub.trans d.fs e.fs)).sub hs) ((ba.sub (Sub.trans d.fs e.fs)).sub hs) ((ca.sub (Sub.trans d.fs e.fs)).sub hs) ((da.sub (Sub.trans d.fs e.fs)).sub hs) ((ea.sub (Sub.trans d.fs e.fs)).sub hs) ((fa.sub (Sub.trans d.fs e.fs)).sub hs) (w.sub hs) ((ha100.sub (Sub.trans (Sub.trans g.fs d.fs) e.fs)).sub hs) ((ha102.sub (Sub.trans (Sub.trans g.fs d.fs) e.fs)).sub hs) ((ha103.sub (Sub.trans (Sub.trans g.fs d.fs) e.fs)).sub hs) hg hq
 obtain⟨Ka,ya,hp⟩:=zqq hp;refine zv3 (n:=(p.Reports.length:Int)) (passes:=(fun h=>zub h a p)) t.pre y ya fun Pa za Aa Ba Ca=>?_;obtain⟨Da,La⟩:=t.callG Ba ja;refine⟨_,rfl,?_⟩;obtain rfl:=oi hp;exact hq _ za Aa Da.grw Ca
theorem zwJ{r:Rg}{m f:M}{Q:V->M->Prop}{rz:Rg}(hS:Pre f m)(hp:zud r=some rz)(hq:∀m',Ext m m'->Q (.agg 2 [Il rz.Lo,Il rz.Hi]) m'):Wc prog tbl 58 [.agg 2 [Il r.Lo,Il r.Hi]] m Q:=by
 have w:=hS.st;obtain⟨y,_⟩:=zsk;refine w58 ?_;unfold zud at hp;intro z c;obtain⟨d,e,s,g⟩:=w.blk c y 1;intro A h;obtain⟨t,i,j,l⟩:=e.blk h d 2;have a:=g.k j;refine⟨trivial,_,a.bk.rc rfl,trivial,_,a.bk.rc rfl,?_⟩;obtain⟨n,o,p,u,q⟩:=l.sto i [Il r.Lo,Il r.Hi];refine⟨n,o,?_⟩;refine⟨_,_,q.bk.ra,?_⟩;obtain rfl:=oi hp;exact hq _ p.ext'
theorem zwK{p:Pg}{ca100 ca102 ca103:C}{m f:M}{Q:V->M->Prop}{rz:Pg}(hS:Pre f m)(ha100:Sl f ca100 p.Losses)(ha102:Sl f ca102 p.Treaties)(ha103:Sl f ca103 p.Reports)(hp:zuh p=some rz)(hq:∀m' f' c0 c2 c3,Grw m f m' f'->Sl f' c0 rz.Losses->Sl f' c2 rz.Treaties->Sl f' c3 rz.Reports->Q (.agg 4 [c0,Il rz.Reserve,c2,c3]) m'):Wc prog tbl 25 [.agg 4 [ca100,Il p.Reserve,ca102,ca103]] m Q:=by
 have S0:=hS.st;obtain⟨τ0,_⟩:=zsk;refine w25 ?_;unfold zuh at hp;intro m0 ib;obtain⟨jb,kb,Id,mb⟩:=S0.blk ib τ0 1;intro m1 ob;obtain⟨pb,qb,rb,sb⟩:=kb.blk ob jb 2;have Na:=mb.k rb;refine⟨trivial,_,Na.bk.rc rfl,?_⟩;intro m3 tb;obtain⟨ub,vb,Oa,wb⟩:=qb.blk tb pb 3;have xb:=Na.k Oa;have yb:=sb.k Oa;obtain⟨zb,Ab,Bb,Pa,h⟩:=wb.sto vb [.sl0,Il p.Reserve,.sl0,.sl0];have g:=xb.k Pa;have i:=yb.k Pa;refine⟨zb,Ab,?_⟩;intro R5 Ad
 have hgo:∀(ja:Nat) (x6:Int) (l:C) (T:C) (Y:C) (z:List Rg) (Z:Int) (ka:List Ty) (la:List Rpt) (m7:M) (o:Nat->Nat),St (Fm.of m) f f m7->Lb (Fm.of m) f o m7 1 m.nxt 4 [ca100,Il p.Reserve,ca102,ca103]->Lb (Fm.of m) f o m7 2 m0.nxt 4 [.sl0,Il 0,.sl0,.sl0]->Lb (Fm.of m) f o m7 3 m1.nxt 4 [l,Il Z,T,Y]->Ow (Fm.of m) f o m7 4 l z->Ow (Fm.of m) f o m7 5 T ka->Ow (Fm.of m) f o m7 6 Y la->zug p ja z Z ka la x6=some rz->R5 [.c (Il x6)] m7:=by
  intro ja
  induction ja with
  | zero=>intro x6 l T Y z Z ka la m7 o aa g i h d s t hp; cases hp
  | succ ja xd=>
   intro x6 l T Y z Z ka la m7 o aa g i h d s t hp;refine Ad _ _ ?_;rw[zug] at hp;refine⟨trivial,_,g.bk.rc rfl,ha100.isSl,?_⟩
   try rw[ha100.slLen]
   refine ifd hp (fun Db hp=>?_) fun Db hp=>?_
   ·refine⟨trivial,_,h.bk.rc rfl,trivial,_,g.bk.rc rfl,?_⟩;obtain⟨Eb,va,hp⟩:=zqq hp;obtain⟨Cd,eb,Ja,va⟩:=zqk va;obtain⟨_,Fb⟩:=zsm ha100 va;refine⟨Cd,eb,(by first|exact Ja|(rw[ha100.slLen];exact Ja)),_,_,(Fb _ aa.sub).1,?_⟩;obtain⟨Qa,Gb,hp⟩:=zqq hp;refine zwJ (r:=Eb) aa.pre  Gb fun Qd Hb=>?_;obtain⟨Ib,B⟩:=aa.call Hb o;have Jb:=g.k B;have Kb:=i.k B;have wa:=h.k B;have d:=d.k B;have s:=s.k B;have t:=t.k B;refine⟨_,_,rfl,(by rw[show cmC _=true from zoW (d.noFn)]; exact(wa.bk.rc rfl)),?_⟩;obtain⟨Mb,hp⟩:=zqr hp;intro Rd Ra;refine⟨(by rw[show cmC _=true from zoW (d.noFn)]; exact(wa.bk.ext (Bk.new Ra).2).rc rfl),?_⟩;obtain⟨xa,Nb,Ob,Pb,Qb,ba,ya⟩:=d.app' zwl Ib (a:=Qa) (show Rp.rep (α:=Rg) f _ Qa from rfl) Mb Ra;have Rb:=Jb.k ba;have Sb:=Kb.k ba;have Tb:=wa.k ba;have s:=s.k ba;have t:=t.k ba;refine⟨xa,Nb,Pb,?_⟩;refine⟨trivial,?_⟩;obtain⟨Ub,Vb,Wb,ca,za⟩:=Tb.sto1 Qb 0 xa (by simp) rfl
    replace za:Lb _ _ _ _ _ _ _ [xa,Il Z,T,Y]:=za
    have Xb:=Rb.k ca;have Yb:=Sb.k ca;have s:=s.k ca;have t:=t.k ca;have ya:=ya.k ca;refine⟨Ub,Vb,?_⟩;refine gdi hp fun Zb hp=>?_;exact xd _ _ _ _ _ _ _ _ _ Ob Wb Xb Yb za ya s t hp
   intro Dd yd
   have hgo:∀(ma:Nat) (Sa:Int) (u:C) (da:C) (ea:Int) (D:List Ty) (na:List Rpt) (P:M) (q:Nat->Nat),St (Fm.of m) f f P->Lb (Fm.of m) f q P 1 m.nxt 4 [ca100,Il p.Reserve,ca102,ca103]->Lb (Fm.of m) f q P 2 m0.nxt 4 [.sl0,Il 0,.sl0,.sl0]->Lb (Fm.of m) f q P 3 m1.nxt 4 [l,Il ea,u,da]->Ow (Fm.of m) f q P 5 u D->Ow (Fm.of m) f q P 6 da na->Ow (Fm.of m) f q P 4 l z->zuf p z ma ea D na Sa=some rz->Dd [.c (Il Sa)] P:=by
    intro ma
    induction ma with
    | zero=>intro Sa u da ea D na P q oa g i h e n d hp; cases hp
    | succ ma ac=>
     intro Sa u da ea D na P q oa g i h e n d hp;refine yd _ _ ?_;rw[zuf] at hp;refine⟨trivial,_,g.bk.rc rfl,ha102.isSl,?_⟩
     try rw[ha102.slLen]
     refine ifd hp (fun bc hp=>?_) fun bc hp=>?_
     ·refine⟨trivial,_,g.bk.rc rfl,?_⟩;obtain⟨w,Aa,hp⟩:=zqq hp;obtain⟨Ed,fb,Ka,Aa⟩:=zqk Aa;obtain⟨_,cc⟩:=zso ha102 Aa;refine⟨Ed,fb,(by first|exact Ka|(rw[ha102.slLen];exact Ka)),_,_,_,_,_,_,_,(cc _ oa.sub).1,?_⟩;intro Sd dc;obtain⟨Jd,ec,F,fc⟩:=oa.blk dc q 7;have gc:=g.k F;have hc:=i.k F;have ic:=h.k F;have d:=d.k F;have e:=e.k F;have n:=n.k F;obtain⟨jc,kc,nc,G,A⟩:=fc.sto ec [Il w.Kind,Il w.Part,Il w.Above,Il w.Most,Il w.Times,Il w.Price,Il w.Of];have pc:=gc.k G;have qc:=hc.k G;have Ta:=ic.k G;have d:=d.k G;have e:=e.k G;have n:=n.k G;refine⟨jc,kc,?_⟩;refine⟨trivial,_,Ta.bk.rc rfl,trivial,_,A.bk.rc rfl,trivial,_,A.bk.rc rfl,trivial,_,A.bk.rc rfl,trivial,_,A.bk.rc rfl,trivial,_,A.bk.rc rfl,trivial,_,A.bk.rc rfl,trivial,_,A.bk.rc rfl,?_⟩;obtain⟨sc,hp⟩:=zqr hp;intro Td tc;obtain⟨Ba,uc,vc,wc,xc,fa,Ca⟩:=e.app' zuK nc (a:=w) (show Rp.rep (α:=Ty) f _ w from rfl) sc tc;have yc:=pc.k fa;have zc:=qc.k fa;have Ac:=Ta.k fa;have d:=d.k fa;have n:=n.k fa;refine⟨Ba,uc,wc,?_⟩;refine⟨trivial,?_⟩;obtain⟨Bc,Cc,Dc,ga,Da⟩:=Ac.sto1 xc 2 Ba (by simp) rfl
      replace Da:Lb _ _ _ _ _ _ _ [l,Il ea,Ba,da]:=Da
      have Ec:=yc.k ga;have Fc:=zc.k ga;have d:=d.k ga;have n:=n.k ga;have Ca:=Ca.k ga;refine⟨Bc,Cc,?_⟩;refine gdi hp fun Gc hp=>?_;exact ac _ _ _ _ _ _ _ vc Dc Ec Fc Da Ca n d hp
     intro Fd zd
     have hgo:∀(pa:Nat) (Ua:Int) (I:C) (J:Int) (qa:List Rpt) (S:M) (y:Nat->Nat),St (Fm.of m) f f S->Lb (Fm.of m) f y S 1 m.nxt 4 [ca100,Il p.Reserve,ca102,ca103]->Lb (Fm.of m) f y S 2 m0.nxt 4 [.sl0,Il 0,.sl0,.sl0]->Lb (Fm.of m) f y S 3 m1.nxt 4 [l,Il J,u,I]->Ow (Fm.of m) f y S 6 I qa->Ow (Fm.of m) f y S 4 l z->Ow (Fm.of m) f y S 5 u D->zue p z D pa J qa Ua=some rz->Fd [.c (Il Ua)] S:=by
      intro pa
      induction pa with
      | zero=>intro Ua I J qa S y N g i h j d e hp; cases hp
      | succ pa Hc=>
       intro Ua I J qa S y N g i h j d e hp;refine zd _ _ ?_;rw[zue] at hp;refine⟨trivial,_,g.bk.rc rfl,ha103.isSl,?_⟩
       try rw[ha103.slLen]
       refine ifd hp (fun Ic hp=>?_) fun Ic hp=>?_; rotate_left
       ·refine⟨_,_,_,_,h.bk.ra,?_⟩;obtain⟨Jc,Kc,Nc,Ea,Pc⟩:=i.sto N [l,Il J,u,I];have d:=d.k Ea;have e:=e.k Ea;have j:=j.k Ea;refine⟨Jc,Kc,?_⟩;refine⟨_,_,_,_,Pc.bk.ra,?_⟩;obtain⟨Ld,Qc,Va,Rc⟩:=d.freeze Nc;have e:=e.k Va;have j:=j.k Va;obtain⟨Md,Tc,Wa,Uc⟩:=e.freeze Qc;have j:=j.k Wa;obtain⟨Vc,Xc,Xa,Yc⟩:=j.freeze Tc;obtain rfl:=oi hp;exact hq _ Vc l u I Xc.grw (Rc.sub (Sub.trans Wa.fs Xa.fs)) (Uc.sub Xa.fs) Yc
       refine⟨trivial,_,h.bk.rc rfl,trivial,_,g.bk.rc rfl,?_⟩;obtain⟨Ya,sa,hp⟩:=zqq hp;obtain⟨Gd,gb,La,sa⟩:=zqk sa;obtain⟨_,Za⟩:=zsq ha103 sa;refine⟨Gd,gb,(by first|exact La|(rw[ha103.slLen];exact La)),(ha103.isPt sa _),_,((Za _ N.sub).2.1 0 _ rfl),trivial,_,g.bk.rc rfl,?_⟩;obtain⟨Zc,ta,hp⟩:=zqq hp;obtain⟨Hd,hb,Ma,ta⟩:=zqk ta;obtain⟨_,ad⟩:=zsq ha103 ta;refine⟨Hd,hb,(by first|exact Ma|(rw[ha103.slLen];exact Ma)),(ha103.isPt ta _),_,_,((ad _ N.sub).2.2 1 2 (by omega) (by decide)),?_⟩;obtain⟨ab,bd,hp⟩:=zqq hp;refine zwJ (r:=Zc.Paid) N.pre  bd fun Ud cd=>?_;obtain⟨bb,O⟩:=N.call cd y;have cb:=g.k O;have dd:=i.k O;have Fa:=h.k O;have d:=d.k O;have e:=e.k O;have j:=j.k O;refine⟨_,_,rfl,((Za _ bb.sub).2.1 0 _ rfl),(by rw[show cmC _=true from zoW (ha103.noFn)]; exact(cb.bk.rc rfl)),(by rw[show cmC _=true from zoW (j.noFn)]; exact(Fa.bk.rc rfl)),?_⟩;obtain⟨ed,hp⟩:=zqr hp;intro Vd db;refine⟨(by rw[show cmC _=true from zoW (j.noFn)]; exact(Fa.bk.ext (Bk.new db).2).rc rfl),?_⟩;obtain⟨Ga,fd,hd,id,jd,ha,Ha⟩:=j.app' zuL bb (a:=({ Treaty:=Ya.Treaty,Paid:=ab }:Rpt)) (show Rp.rep (α:=Rpt) f _ ({ Treaty:=Ya.Treaty,Paid:=ab }:Rpt) from rfl) ed db;have kd:=cb.k ha;have ld:=dd.k ha;have md:=Fa.k ha;have d:=d.k ha;have e:=e.k ha;refine⟨Ga,fd,id,?_⟩;refine⟨trivial,?_⟩;obtain⟨nd,od,pd,ia,Ia⟩:=md.sto1 jd 3 Ga (by simp) rfl
       replace Ia:Lb _ _ _ _ _ _ _ [l,Il J,u,Ga]:=Ia
       have qd:=kd.k ia;have sd:=ld.k ia;have d:=d.k ia;have e:=e.k ia;have Ha:=Ha.k ia;refine⟨nd,od,?_⟩;refine gdi hp fun td hp=>?_;exact Hc _ _ _ _ _ hd pd qd sd Ia Ha d e hp
     exact hgo _ _ _ _ _ _ q oa g i h n d e hp
   exact hgo _ _ _ _ _ _ _ _ o aa g i h s t d hp
 exact hgo _ _ _ _ _ _ _ _ _ _ ub Bb g i h (Ow.nil _ _ _ _ _) (Ow.nil _ _ _ _ _) (Ow.nil _ _ _ _ _) hp
theorem zwL{a:List Int}{b:List Int}{ca100 ca200:C}{m f:M}{Q:V->M->Prop}{rz:Bool}(hS:Pre f m)(ha100:Sl f ca100 a)(ha200:Sl f ca200 b)(hp:zuj a b=some rz)(hq:∀m',Ext m m'->Q (.c (.bool rz)) m'):Wc prog tbl 14 [.c ca100,.c ca200] m Q:=by
 have z:=hS.st;obtain⟨F,_⟩:=zsk;refine w14 ?_;unfold zuj at hp;refine⟨ha100.isSl,ha200.isSl,?_⟩
 try rw[ha100.slLen]
 try rw[ha200.slLen]
 refine zq0 hp (fun p hp=>?_) fun p hp=>?_
 ·obtain rfl:=oi hp;exact hq _ z.ext'
 intro G A
 have hgo:∀(e:Nat) (w:Bool) (q:Int) (r:M) (g:Nat->Nat),St (Fm.of m) f f r->zui a b e q=some rz->G [.c (.bool w),.c (Il q)] r:=by
  intro e
  induction e with
  | zero=>intro w q r g d hp; cases hp
  | succ e y=>
   intro w q r g d hp;refine A _ _ _ ?_;rw[zui] at hp;refine⟨ha100.isSl,?_⟩
   try rw[ha100.slLen]
   refine ifd hp (fun s hp=>?_) fun s hp=>?_; rotate_left
   ·obtain rfl:=oi hp;exact hq _ d.ext'
   obtain⟨B,h,hp⟩:=zqq hp;obtain⟨I,n,j,h⟩:=zqk h;refine⟨I,n,(by first|exact j|(rw[ha100.slLen];exact j)),_,(ha100.rdI h d.sub),?_⟩;obtain⟨D,i,hp⟩:=zqq hp;obtain⟨J,o,l,i⟩:=zqk i;refine⟨J,o,(by first|exact l|(rw[ha200.slLen];exact l)),_,(ha200.rdI i d.sub),?_⟩;refine zq0 hp (fun t hp=>?_) fun t hp=>?_
   ·obtain rfl:=oi hp;exact hq _ d.ext'
   refine gdi hp fun u hp=>?_;exact y _ _ _ g d hp
 exact hgo _ _ _ _ F z hp
theorem zwM{p:Pg}{ca100 ca102 ca103:C}{m f:M}{Q:V->M->Prop}{rz:Bool}(hS:Pre f m)(ha100:Sl f ca100 p.Losses)(ha102:Sl f ca102 p.Treaties)(ha103:Sl f ca103 p.Reports)(hp:zuk p=some rz)(hq:∀m',Ext m m'->Q (.c (.bool rz)) m'):Wc prog tbl 55 [.agg 4 [ca100,Il p.Reserve,ca102,ca103]] m Q:=by
 have D:=hS.st;obtain⟨F,_⟩:=zsk;refine w55 ?_;unfold zuk at hp;intro I h;obtain⟨g,a,y,d⟩:=D.blk h F 1;refine⟨trivial,_,d.bk.rc rfl,ha100.isSl,?_⟩
 try rw[ha100.slLen]
 refine ifd hp (fun i hp=>?_) fun i hp=>?_; rotate_left
 ·obtain rfl:=oi hp;exact hq _ a.ext'
 refine⟨trivial,_,d.bk.rc rfl,ha102.isSl,?_⟩
 try rw[ha102.slLen]
 refine ifd hp (fun j hp=>?_) fun j hp=>?_; rotate_left
 ·obtain rfl:=oi hp;exact hq _ a.ext'
 refine⟨trivial,_,d.bk.rc rfl,ha103.isSl,?_⟩
 try rw[ha103.slLen]
 refine ifd hp (fun l hp=>?_) fun l hp=>?_; rotate_left
 ·obtain rfl:=oi hp;exact hq _ a.ext'
 refine⟨_,_,_,_,d.bk.ra,?_⟩;obtain⟨z,n,hp⟩:=zqq hp;refine zuS (p:=p) a.pre ha100 ha102 ha103 n fun J o=>?_;obtain⟨e,q⟩:=a.call o g;have r:=d.k q;refine⟨_,rfl,?_⟩;refine zq0 hp (fun s hp=>?_) fun s hp=>?_
 ·obtain rfl:=oi hp;exact hq _ e.ext'
 refine⟨_,_,_,_,r.bk.ra,?_⟩;obtain⟨A,t,hp⟩:=zqq hp;refine zuR (p:=p) e.pre ha100 ha102 ha103 t fun G u=>?_;obtain⟨w,B⟩:=e.call u g;refine⟨_,rfl,?_⟩;obtain rfl:=oi hp;exact hq _ w.ext'
theorem zwN{low:Int}{high:Int}{m f:M}{Q:V->M->Prop}{rz:Rg}(hS:Pre f m)(hp:zul low high=some rz)(hq:∀m',Ext m m'->Q (.agg 2 [Il rz.Lo,Il rz.Hi]) m'):Wc prog tbl 15 [.c (Il low),.c (Il high)] m Q:=by
 have p:=hS.st;obtain⟨q,_⟩:=zsk;refine w15 ?_;unfold zul at hp;intro r a;obtain⟨l,d,n,e⟩:=p.blk a q 1;obtain⟨g,h,i,o,j⟩:=e.sto d [Il low,Il high];refine⟨g,h,?_⟩;refine⟨_,_,j.bk.ra,?_⟩;obtain rfl:=oi hp;exact hq _ i.ext'
theorem zwO{reports:List Rpt}{ca100:C}{m f:M}{Q:V->M->Prop}{rz:Pg}(hS:Pre f m)(ha100:Sl f ca100 reports)(hp:zum reports=some rz)(hq:∀m' f' c0 c2 c3,Grw m f m' f'->Sl f' c0 rz.Losses->Sl f' c2 rz.Treaties->Sl f' c3 rz.Reports->Q (.agg 4 [c0,Il rz.Reserve,c2,c3]) m'):Wc prog tbl 9 [.c ca100] m Q:=by
 have S0:=hS.st;obtain⟨τ0,_⟩:=zsk;refine w9 ?_;unfold zum at hp;intro m0 t;obtain⟨e,h,qa,u⟩:=S0.blk t τ0 1;obtain⟨a,w,hp⟩:=zqq hp;refine zwN (low:=(100:Int)) (high:=(120:Int)) h.pre  w fun m2 y=>?_;obtain⟨i,z⟩:=h.call y e;have A:=u.k z;refine⟨_,_,rfl,?_⟩;obtain⟨d,B,hp⟩:=zqq hp;refine zwN (low:=(300:Int)) (high:=(300:Int)) i.pre  B fun m6 D=>?_;obtain⟨F,G⟩:=i.call D e;have I:=A.k G;refine⟨_,_,rfl,?_⟩;intro m9 J;obtain⟨N,O,P,S⟩:=F.blk J e 2;have T:=I.k P;intro va Y;obtain⟨sa,Z,j,aa⟩:=O.blk Y N 3;have ba:=T.k j;have ca:=S.k j;obtain⟨da,ea,fa,n,ga⟩:=ba.sto Z [(C.sl m6.nxt 0 2 0 (Option.some 2)),(Il (200:Int)),(C.sl m9.nxt 0 3 0 (Option.some 3)),ca100];have ha:=ca.k n;have ia:=aa.k n;refine⟨da,ea,?_⟩;refine⟨_,_,_,_,ga.bk.ra,?_⟩;obtain⟨o,ja,p,r⟩:=ha.freeze fa;have ka:=ia.k p;have la:Sl o (C.sl m6.nxt 0 2 0 (Option.some 2)) ([a,d]:List Rg):=Bk.sl (α:=Rg) (l:=([a,d]:List Rg)) r (show Cat (α:=Rg) o [Il a.Lo,Il a.Hi,Il d.Lo,Il d.Hi] ([a,d]:List Rg) from ⟨[Il a.Lo,Il a.Hi],_,rfl,rfl,⟨[Il d.Lo,Il d.Hi],_,rfl,rfl,rfl⟩⟩) rfl rfl _;obtain⟨g,ma,q,s⟩:=ka.freeze ja;have na:Sl g (C.sl m9.nxt 0 3 0 (Option.some 3)) ([({ Kind:=(0:Int),Part:=(25:Int),Above:=(0:Int),Most:=(0:Int),Times:=(0:Int),Price:=(50:Int),Of:=(-1:Int) }:Ty),({ Kind:=(1:Int),Part:=(0:Int),Above:=(50:Int),Most:=(100:Int),Times:=(0:Int),Price:=(30:Int),Of:=(-1:Int) }:Ty),({ Kind:=(1:Int),Part:=(0:Int),Above:=(20:Int),Most:=(40:Int),Times:=(1:Int),Price:=(5:Int),Of:=(0:Int) }:Ty)]:List Ty):=Bk.sl (α:=Ty) (l:=([({ Kind:=(0:Int),Part:=(25:Int),Above:=(0:Int),Most:=(0:Int),Times:=(0:Int),Price:=(50:Int),Of:=(-1:Int) }:Ty),({ Kind:=(1:Int),Part:=(0:Int),Above:=(50:Int),Most:=(100:Int),Times:=(0:Int),Price:=(30:Int),Of:=(-1:Int) }:Ty),({ Kind:=(1:Int),Part:=(0:Int),Above:=(20:Int),Most:=(40:Int),Times:=(1:Int),Price:=(5:Int),Of:=(0:Int) }:Ty)]:List Ty)) s (show Cat (α:=Ty) g [Il 0,(Il (25:Int)),Il 0,Il 0,Il 0,(Il (50:Int)),(Il (-1:Int)),(Il (1:Int)),Il 0,(Il (50:Int)),(Il (100:Int)),Il 0,(Il (30:Int)),(Il (-1:Int)),(Il (1:Int)),Il 0,(Il (20:Int)),(Il (40:Int)),(Il (1:Int)),(Il (5:Int)),Il 0] ([({ Kind:=(0:Int),Part:=(25:Int),Above:=(0:Int),Most:=(0:Int),Times:=(0:Int),Price:=(50:Int),Of:=(-1:Int) }:Ty),({ Kind:=(1:Int),Part:=(0:Int),Above:=(50:Int),Most:=(100:Int),Times:=(0:Int),Price:=(30:Int),Of:=(-1:Int) }:Ty),({ Kind:=(1:Int),Part:=(0:Int),Above:=(20:Int),Most:=(40:Int),Times:=(1:Int),Price:=(5:Int),Of:=(0:Int) }:Ty)]:List Ty) from ⟨[Il 0,(Il (25:Int)),Il 0,Il 0,Il 0,(Il (50:Int)),(Il (-1:Int))],_,rfl,rfl,⟨[(Il (1:Int)),Il 0,(Il (50:Int)),(Il (100:Int)),Il 0,(Il (30:Int)),(Il (-1:Int))],_,rfl,rfl,⟨[(Il (1:Int)),Il 0,(Il (20:Int)),(Il (40:Int)),(Il (1:Int)),(Il (5:Int)),Il 0],_,rfl,rfl,rfl⟩⟩⟩) rfl rfl _
 obtain rfl:=oi hp;exact hq _ g (C.sl m6.nxt 0 2 0 (Option.some 2)) (C.sl m9.nxt 0 3 0 (Option.some 3)) ca100 ma.grw (la.sub q.fs) na (ha100.sub (Sub.trans p.fs q.fs))
theorem zwP{m f:M}{Q:V->M->Prop}{rz:List Rpt}(hS:Pre f m)(hp:zun=some rz)(hq:∀m' f' c0,Grw m f m' f'->Sl f' c0 rz->Q (.c c0) m'):Wc prog tbl 18 [] m Q:=by
 have y:=hS.st;obtain⟨w,_⟩:=zsk;refine w18 ?_;unfold zun at hp;obtain⟨a,i,hp⟩:=zqq hp;refine zwN (low:=(103:Int)) (high:=(110:Int)) y.pre  i fun I j=>?_;obtain⟨g,A⟩:=y.call j w;refine⟨_,_,rfl,?_⟩;obtain⟨d,n,hp⟩:=zqq hp;refine zwN (low:=(45:Int)) (high:=(46:Int)) g.pre  n fun z o=>?_;obtain⟨p,B⟩:=g.call o w;refine⟨_,_,rfl,?_⟩;intro J q;obtain⟨D,r,F,s⟩:=p.blk q w 1;obtain⟨e,t,G,h⟩:=s.freeze r;have u:Sl e (C.sl z.nxt 0 2 0 (Option.some 2)) ([({ Treaty:=(0:Int),Paid:=a }:Rpt),({ Treaty:=(2:Int),Paid:=d }:Rpt)]:List Rpt):=Bk.sl (α:=Rpt) (l:=([({ Treaty:=(0:Int),Paid:=a }:Rpt),({ Treaty:=(2:Int),Paid:=d }:Rpt)]:List Rpt)) h (show Cat (α:=Rpt) e [Il 0,Il a.Lo,Il a.Hi,(Il (2:Int)),Il d.Lo,Il d.Hi] ([({ Treaty:=(0:Int),Paid:=a }:Rpt),({ Treaty:=(2:Int),Paid:=d }:Rpt)]:List Rpt) from ⟨[Il 0,Il a.Lo,Il a.Hi],_,rfl,rfl,⟨[(Il (2:Int)),Il d.Lo,Il d.Hi],_,rfl,rfl,rfl⟩⟩) rfl rfl _;obtain rfl:=oi hp;exact hq _ e (C.sl z.nxt 0 2 0 (Option.some 2)) t.grw u
theorem zwQ{n:Int}{m f:M}{Q:V->M->Prop}{rz:Pg}(hS:Pre f m)(hp:zuo n=some rz)(hq:∀m' f' c0 c2 c3,Grw m f m' f'->Sl f' c0 rz.Losses->Sl f' c2 rz.Treaties->Sl f' c3 rz.Reports->Q (.agg 4 [c0,Il rz.Reserve,c2,c3]) m'):Wc prog tbl 12 [.c (Il n)] m Q:=by
 have S0:=hS.st;obtain⟨τ0,_⟩:=zsk;refine w12 ?_;unfold zuo at hp;intro m0 j;obtain⟨h,i,ga,l⟩:=S0.blk j τ0 1;obtain⟨o,p,hp⟩:=zqq hp;refine zwO (reports:=[]) i.pre (Sl.nil _) p fun m2 q a d e r s t u=>?_;obtain⟨w,y⟩:=i.callG r h;have z:=l.k y;refine⟨_,_,_,_,rfl,?_⟩;intro m7 A;obtain⟨ha,B,D,F⟩:=w.blk A h 2;have G:=z.k D;obtain⟨I,J,N,O,P⟩:=F.sto B [a,Il o.Reserve,d,e];have S:=G.k O;refine⟨I,J,?_⟩;refine⟨trivial,?_⟩;obtain⟨T,Y,Z,aa,g⟩:=P.sto1 N 1 (Il n) (by simp) rfl
 replace g:Lb _ _ _ _ _ _ _ [a,Il n,d,e]:=g
 have ba:=S.k aa;refine⟨T,Y,?_⟩;refine⟨_,_,_,_,g.bk.ra,?_⟩;obtain⟨ca,da,ea,ia,fa⟩:=ba.sto Z [a,Il n,d,e];refine⟨ca,da,?_⟩;refine⟨_,_,_,_,fa.bk.ra,?_⟩;obtain rfl:=oi hp;exact hq _ q a d e ea.grw s t u
theorem zwR{m f:M}{Q:V->M->Prop}{rz:Bool}(hS:Pre f m)(hp:zup=some rz)(hq:∀m',Ext m m'->Q (.c (.bool rz)) m'):Wc prog tbl 21 [] m Q:=by
 have S0:=hS.st;obtain⟨τ0,_⟩:=zsk;refine w21 ?_;unfold zup at hp;obtain⟨cb,db,hp⟩:=zqq hp;refine zwO (reports:=[]) S0.pre (Sl.nil _) db fun m1 Sf Tf Uf Vf eb fb gb hb=>?_;obtain⟨ib,Wf⟩:=S0.callG eb τ0;refine⟨_,_,_,_,rfl,?_⟩;intro m6 jb;obtain⟨z,kb,Xf,mb⟩:=ib.blk jb τ0 1;obtain⟨ea,fa,N,Va⟩:=mb.freeze kb;have ob:Sl ea (C.sl m1.nxt 0 2 0 (Option.some 2)) ([(100:Int),(300:Int)]:List Int):=Bk.sl (α:=Int) (l:=([(100:Int),(300:Int)]:List Int)) Va (show Cat (α:=Int) ea [(Il (100:Int)),(Il (300:Int))] ([(100:Int),(300:Int)]:List Int) from ⟨[(Il (100:Int))],_,rfl,rfl,⟨[(Il (300:Int))],_,rfl,rfl,rfl⟩⟩) rfl rfl _;obtain⟨pb,qb,hp⟩:=zqq hp;refine zwp (p:=cb) (losses:=([(100:Int),(300:Int)]:List Int)) fa.pre (fb.sub N.fs) (gb.sub N.fs) (hb.sub N.fs) ob qb fun m8 Yf Zf rb sb=>?_;obtain⟨ga,ag⟩:=fa.callG rb z;refine⟨_,_,_,rfl,?_⟩;obtain⟨tb,ub,hp⟩:=zqq hp;refine zwO (reports:=[]) ga.pre (Sl.nil _) ub fun Ah bg cg dg eg vb wb xb yb=>?_;obtain⟨ha,zb⟩:=ga.callG vb z;refine⟨_,_,_,_,rfl,?_⟩;obtain⟨fg,Ab,hp⟩:=zqq hp;refine zww (p:=tb) ha.pre wb xb yb Ab fun Bh gg hg Bb A=>?_;obtain⟨ia,Cb⟩:=ha.callG Bb z;refine⟨_,_,rfl,?_⟩;obtain⟨Db,Eb,hp⟩:=zqq hp;refine zwO (reports:=[]) ia.pre (Sl.nil _) Eb fun Ch ig jg kg lg Fb Gb Hb Ib=>?_;obtain⟨ja,w⟩:=ia.callG Fb z;refine⟨_,_,_,_,rfl,?_⟩;obtain⟨ka,Jb,hp⟩:=zqq hp;refine zwx (p:=Db) ja.pre Gb Hb Ib Jb fun Dh Kb=>?_;obtain⟨Mb,mg⟩:=ja.call Kb z;refine⟨_,_,_,rfl,?_⟩;intro Eh Nb;obtain⟨la,Ob,ng,Pb⟩:=Mb.blk Nb z 2;obtain⟨Qb,Rb,ma,og,Sb⟩:=Pb.sto Ob [Il ka.1.Lo,Il ka.1.Hi]
 refine⟨Qb,Rb,?_⟩;obtain⟨Tb,Ub,hp⟩:=zqq hp;refine zwO (reports:=[]) ma.pre (Sl.nil _) Ub fun Pf pg qg rg sg Vb Wb Xb Yb=>?_;obtain⟨Zb,t⟩:=ma.callG Vb la;have ac:=Sb.k t;refine⟨_,_,_,_,rfl,?_⟩;intro Fh bc;obtain⟨na,cc,dc,ec⟩:=Zb.blk bc la 3;have fc:=ac.k dc;obtain⟨oa,pa,e,Wa⟩:=ec.freeze cc;have gc:=fc.k e;have hc:Sl oa (C.sl Pf.nxt 0 1 0 (Option.some 1)) ([(1:Int)]:List Int):=Bk.sl (α:=Int) (l:=([(1:Int)]:List Int)) Wa (show Cat (α:=Int) oa [(Il (1:Int))] ([(1:Int)]:List Int) from ⟨[(Il (1:Int))],_,rfl,rfl,rfl⟩) rfl rfl _;obtain⟨qa,ic,hp⟩:=zqq hp;refine zwA (p:=Tb) (set:=([(1:Int)]:List Int)) pa.pre (Wb.sub e.fs) (Xb.sub e.fs) (Yb.sub e.fs) hc ic fun Gh jc=>?_;obtain⟨kc,nc⟩:=pa.call jc na;have pc:=gc.k nc;refine⟨_,_,_,rfl,?_⟩;intro Hh qc;obtain⟨q,sc,tc,uc⟩:=kc.blk qc na 4;have vc:=pc.k tc;obtain⟨wc,xc,sa,yc,zc⟩:=uc.sto sc [Il qa.1.Lo,Il qa.1.Hi];have Ac:=vc.k yc;refine⟨wc,xc,?_⟩;obtain⟨Bc,Cc,hp⟩:=zqq hp;refine zwQ (n:=(300:Int)) sa.pre  Cc fun Ih tg ug vg xg Dc Ec Fc Gc=>?_;obtain⟨ta,r⟩:=sa.callG Dc q;have Hc:=Ac.k r;have Ic:=zc.k r;refine⟨_,_,_,_,rfl,?_⟩;obtain⟨ua,Jc,hp⟩:=zqq hp;refine zwC (p:=Bc) ta.pre Ec Fc Gc Jc fun Jh zg Ag Kc va=>?_;obtain⟨wa,s⟩:=ta.callG Kc q;have Nc:=Hc.k s;have Pc:=Ic.k s;refine⟨_,_,_,rfl,?_⟩;obtain⟨Qc,Rc,hp⟩:=zqq hp;refine zwP wa.pre  Rc fun Kh Bg Cg Tc Uc=>?_;obtain⟨xa,g⟩:=wa.callG Tc q;have Vc:=Nc.k g;have Xc:=Pc.k g;refine⟨_,rfl,?_⟩;obtain⟨Yc,Zc,hp⟩:=zqq hp;refine zwO (reports:=Qc) xa.pre Uc Zc fun Lh Dg Eg Fg Gg ad bd cd dd=>?_
 obtain⟨ya,h⟩:=xa.callG ad q;have ed:=Vc.k h;have fd:=Xc.k h;refine⟨_,_,_,_,rfl,?_⟩;obtain⟨Hg,hd,hp⟩:=zqq hp;refine zwG (p:=Yc) ya.pre bd cd dd hd fun Mh id=>?_;obtain⟨za,Aa⟩:=ya.call id q;have jd:=ed.k Aa;have kd:=fd.k Aa;refine⟨_,_,rfl,?_⟩;obtain⟨ld,md,hp⟩:=zqq hp;refine zwP za.pre  md fun Nh Ig Jg nd od=>?_;obtain⟨Ba,i⟩:=za.callG nd q;have pd:=jd.k i;have qd:=kd.k i;refine⟨_,rfl,?_⟩;obtain⟨sd,td,hp⟩:=zqq hp;refine zwO (reports:=ld) Ba.pre od td fun Oh Kg Lg Mg Ng ud vd xd yd=>?_;obtain⟨Ca,j⟩:=Ba.callG ud q;have zd:=pd.k j;have Ad:=qd.k j;refine⟨_,_,_,_,rfl,?_⟩;obtain⟨Cd,Dd,hp⟩:=zqq hp;refine zwI (p:=sd) Ca.pre vd xd yd Dd fun Qf Og Qg Ed Fd=>?_;obtain⟨Da,o⟩:=Ca.callG Ed q;have Gd:=zd.k o;have Hd:=Ad.k o;refine⟨_,_,rfl,?_⟩;refine ifd hp (fun Id hp=>?_) fun Id hp=>?_; rotate_left
 ·obtain rfl:=oi hp;exact hq _ Da.ext'
 intro Ph Jd;obtain⟨u,Ld,Ea,Md⟩:=Da.blk Jd q 5;have Nd:=Gd.k Ea;have Od:=Hd.k Ea;obtain⟨Fa,Ga,d,Xa⟩:=Md.freeze Ld;have Pd:=Nd.k d;have Qd:=Od.k d;have Rd:Sl Fa (C.sl Qf.nxt 0 3 0 (Option.some 3)) ([(100:Int),(100:Int),(45:Int)]:List Int):=Bk.sl (α:=Int) (l:=([(100:Int),(100:Int),(45:Int)]:List Int)) Xa (show Cat (α:=Int) Fa [(Il (100:Int)),(Il (100:Int)),(Il (45:Int))] ([(100:Int),(100:Int),(45:Int)]:List Int) from ⟨[(Il (100:Int))],_,rfl,rfl,⟨[(Il (100:Int))],_,rfl,rfl,⟨[(Il (45:Int))],_,rfl,rfl,rfl⟩⟩⟩) rfl rfl _;obtain⟨Sg,Sd,hp⟩:=zqq hp;refine zwL (a:=pb.1) (b:=([(100:Int),(100:Int),(45:Int)]:List Int)) Ga.pre (sb.sub (Sub.trans (Sub.trans (Sub.trans (Sub.trans (Sub.trans (Sub.trans (Sub.trans (Sub.trans (Sub.trans (Sub.trans (Sub.trans (Sub.trans zb.fs Cb.fs) w.fs) t.fs) e.fs) r.fs) s.fs) g.fs) h.fs) i.fs) j.fs) o.fs) d.fs)) Rd Sd fun Qh Td=>?_;obtain⟨y,Ha⟩:=Ga.call Td u;have Ud:=Pd.k Ha;have Vd:=Qd.k Ha;refine⟨_,rfl,?_⟩;refine zq1 hp (fun Wd hp=>?_) fun Wd hp=>?_; rotate_left
 ·obtain rfl:=oi hp;exact hq _ y.ext'
 refine ifd hp (fun Xd hp=>?_) fun Xd hp=>?_; rotate_left
 ·obtain rfl:=oi hp;exact hq _ y.ext'
 refine ifd hp (fun Yd hp=>?_) fun Yd hp=>?_; rotate_left
 ·obtain rfl:=oi hp;exact hq _ y.ext'
 refine⟨A.isSl,?_⟩
 try rw[A.slLen]
 refine ifd hp (fun Zd hp=>?_) fun Zd hp=>?_; rotate_left
 ·obtain rfl:=oi hp;exact hq _ y.ext'
 obtain⟨Tg,O,hp⟩:=zqq hp;obtain⟨Rf,Ya,ca,O⟩:=zqk O;obtain⟨_,P⟩:=zss A O;refine⟨Rf,Ya,(by first|exact ca|(rw[A.slLen];exact ca)),_,_,_,_,(P _ (Sub.trans (Sub.trans (Sub.trans (Sub.trans (Sub.trans (Sub.trans (Sub.trans (Sub.trans (Sub.trans (Sub.trans (Sub.trans w.fs t.fs) e.fs) r.fs) s.fs) g.fs) h.fs) i.fs) j.fs) o.fs) d.fs) y.sub)).1,?_⟩;obtain⟨Ug,ae,hp⟩:=zqq hp;refine zwN (low:=(100:Int)) (high:=(105:Int)) y.pre  ae fun Rh be=>?_;obtain⟨S,Ia⟩:=y.call be u;have ce:=Ud.k Ia;have de:=Vd.k Ia;refine⟨_,_,rfl,(P _ (Sub.trans (Sub.trans (Sub.trans (Sub.trans (Sub.trans (Sub.trans (Sub.trans (Sub.trans (Sub.trans (Sub.trans (Sub.trans w.fs t.fs) e.fs) r.fs) s.fs) g.fs) h.fs) i.fs) j.fs) o.fs) d.fs) S.sub)).1,?_⟩;obtain⟨Vg,ee,hp⟩:=zqq hp;refine zwN (low:=(55:Int)) (high:=(55:Int)) S.pre  ee fun qh fe=>?_;obtain⟨B,Ja⟩:=S.call fe u;have ge:=ce.k Ja;have he:=de.k Ja;refine⟨_,_,rfl,(P _ (Sub.trans (Sub.trans (Sub.trans (Sub.trans (Sub.trans (Sub.trans (Sub.trans (Sub.trans (Sub.trans (Sub.trans (Sub.trans w.fs t.fs) e.fs) r.fs) s.fs) g.fs) h.fs) i.fs) j.fs) o.fs) d.fs) B.sub)).1,?_⟩;refine gdi hp fun ie hp=>?_;refine gdi hp fun je hp=>?_;refine gdi hp fun ke hp=>?_;refine gdi hp fun me hp=>?_;refine gdi hp fun oe hp=>?_;refine gdi hp fun pe hp=>?_;refine gdi hp fun qe hp=>?_;refine gdi hp fun re hp=>?_;refine zq1 hp (fun se hp=>?_) fun se hp=>?_; rotate_left
 ·obtain rfl:=oi hp;exact hq _ B.ext'
 obtain⟨Xg,T,hp⟩:=zqq hp;obtain⟨Kf,Za,da,T⟩:=zqk T;obtain⟨_,Y⟩:=zss A T;refine⟨Kf,Za,(by first|exact da|(rw[A.slLen];exact da)),_,_,_,_,(Y _ (Sub.trans (Sub.trans (Sub.trans (Sub.trans (Sub.trans (Sub.trans (Sub.trans (Sub.trans (Sub.trans (Sub.trans (Sub.trans w.fs t.fs) e.fs) r.fs) s.fs) g.fs) h.fs) i.fs) j.fs) o.fs) d.fs) B.sub)).1,?_⟩;obtain⟨Zg,te,hp⟩:=zqq hp;refine zwN (low:=(45:Int)) (high:=(50:Int)) B.pre  te fun rh ue=>?_;obtain⟨Z,Ka⟩:=B.call ue u;have ve:=ge.k Ka;have we:=he.k Ka;refine⟨_,_,rfl,(Y _ (Sub.trans (Sub.trans (Sub.trans (Sub.trans (Sub.trans (Sub.trans (Sub.trans (Sub.trans (Sub.trans (Sub.trans (Sub.trans w.fs t.fs) e.fs) r.fs) s.fs) g.fs) h.fs) i.fs) j.fs) o.fs) d.fs) Z.sub)).1,?_⟩;obtain⟨ah,xe,hp⟩:=zqq hp;refine zwN (low:=(45:Int)) (high:=(50:Int)) Z.pre  xe fun th ye=>?_;obtain⟨D,La⟩:=Z.call ye u;have Ma:=ve.k La;have ze:=we.k La;refine⟨_,_,rfl,(Y _ (Sub.trans (Sub.trans (Sub.trans (Sub.trans (Sub.trans (Sub.trans (Sub.trans (Sub.trans (Sub.trans (Sub.trans (Sub.trans w.fs t.fs) e.fs) r.fs) s.fs) g.fs) h.fs) i.fs) j.fs) o.fs) d.fs) D.sub)).1,?_⟩;refine gdi hp fun Ae hp=>?_;refine gdi hp fun Be hp=>?_;refine gdi hp fun Ce hp=>?_;refine gdi hp fun De hp=>?_;refine gdi hp fun Ee hp=>?_;refine gdi hp fun Fe hp=>?_;refine gdi hp fun Ge hp=>?_;refine gdi hp fun He hp=>?_;refine zq1 hp (fun Ie hp=>?_) fun Ie hp=>?_; rotate_left
 ·obtain rfl:=oi hp;exact hq _ D.ext'
 refine ifd hp (fun Je hp=>?_) fun Je hp=>?_; rotate_left
 ·obtain rfl:=oi hp;exact hq _ D.ext'
 refine⟨_,_,Ma.bk.ra,?_⟩;obtain⟨bh,Ke,hp⟩:=zqq hp;refine zwN (low:=(200:Int)) (high:=(215:Int)) D.pre  Ke fun uh Me=>?_;obtain⟨G,Na⟩:=D.call Me u;have Ne:=Ma.k Na;have Oa:=ze.k Na;refine⟨_,_,rfl,(Ne.bk.ra),?_⟩;refine gdi hp fun Oe hp=>?_;refine gdi hp fun Pe hp=>?_;refine gdi hp fun Qe hp=>?_;refine gdi hp fun Re hp=>?_;refine zq1 hp (fun Se hp=>?_) fun Se hp=>?_; rotate_left
 ·obtain rfl:=oi hp;exact hq _ G.ext'
 refine ifd hp (fun Te hp=>?_) fun Te hp=>?_; rotate_left
 ·obtain rfl:=oi hp;exact hq _ G.ext'
 refine⟨_,_,Oa.bk.ra,?_⟩;obtain⟨ch,Ue,hp⟩:=zqq hp;refine zwN (low:=(300:Int)) (high:=(320:Int)) G.pre  Ue fun Lf Ve=>?_;obtain⟨aa,We⟩:=G.call Ve u;have Xe:=Oa.k We;refine⟨_,_,rfl,(Xe.bk.ra),?_⟩;refine gdi hp fun Ye hp=>?_;refine gdi hp fun Ze hp=>?_;refine gdi hp fun af hp=>?_;refine gdi hp fun bf hp=>?_;refine zq1 hp (fun cf hp=>?_) fun cf hp=>?_; rotate_left
 ·obtain rfl:=oi hp;exact hq _ aa.ext'
 refine ifd hp (fun df hp=>?_) fun df hp=>?_; rotate_left
 ·obtain rfl:=oi hp;exact hq _ aa.ext'
 intro vh ef;obtain⟨I,gf,dh,hf⟩:=aa.blk ef u 6;obtain⟨Pa,Qa,ba,ab⟩:=hf.freeze gf;have jf:Sl Pa (C.sl Lf.nxt 0 2 0 (Option.some 2)) ([(0:Int),(1:Int)]:List Int):=Bk.sl (α:=Int) (l:=([(0:Int),(1:Int)]:List Int)) ab (show Cat (α:=Int) Pa [Il 0,(Il (1:Int))] ([(0:Int),(1:Int)]:List Int) from ⟨[Il 0],_,rfl,rfl,⟨[(Il (1:Int))],_,rfl,rfl,rfl⟩⟩) rfl rfl _;obtain⟨eh,kf,hp⟩:=zqq hp;refine zwL (a:=ua.1) (b:=([(0:Int),(1:Int)]:List Int)) Qa.pre (va.sub (Sub.trans (Sub.trans (Sub.trans (Sub.trans (Sub.trans (Sub.trans g.fs h.fs) i.fs) j.fs) o.fs) d.fs) ba.fs)) jf kf fun wh lf=>?_;obtain⟨J,fh⟩:=Qa.call lf I;refine⟨_,rfl,?_⟩;refine zq1 hp (fun mf hp=>?_) fun mf hp=>?_; rotate_left
 ·obtain rfl:=oi hp;exact hq _ J.ext'
 refine ifd hp (fun nf hp=>?_) fun nf hp=>?_; rotate_left
 ·obtain rfl:=oi hp;exact hq _ J.ext'
 obtain⟨pf,qf,hp⟩:=zqq hp;refine zwQ (n:=(300:Int)) J.pre  qf fun xh gh hh ih jh rf sf tf uf=>?_;obtain⟨Ra,Sa⟩:=J.callG rf I;refine⟨_,_,_,_,rfl,?_⟩;obtain⟨kh,vf,hp⟩:=zqq hp;refine zwD (p:=pf) (set:=ua.1) (price:=(80:Int)) Ra.pre sf tf uf (va.sub (Sub.trans (Sub.trans (Sub.trans (Sub.trans (Sub.trans (Sub.trans (Sub.trans g.fs h.fs) i.fs) j.fs) o.fs) d.fs) ba.fs) Sa.fs)) vf fun Mf wf=>?_;obtain⟨F,lh⟩:=Ra.call wf I;refine⟨_,rfl,?_⟩;refine zq1 hp (fun xf hp=>?_) fun xf hp=>?_; rotate_left
 ·obtain rfl:=oi hp;exact hq _ F.ext'
 refine ifd hp (fun yf hp=>?_) fun yf hp=>?_; rotate_left
 ·obtain rfl:=oi hp;exact hq _ F.ext'
 refine ifd hp (fun zf hp=>?_) fun zf hp=>?_; rotate_left
 ·obtain rfl:=oi hp;exact hq _ F.ext'
 refine ifd hp (fun Af hp=>?_) fun Af hp=>?_; rotate_left
 ·obtain rfl:=oi hp;exact hq _ F.ext'
 intro yh Bf;obtain⟨Cf,Df,mh,Ef⟩:=F.blk Bf I 7;obtain⟨Ta,Ua,Ff,bb⟩:=Ef.freeze Df;have Gf:Sl Ta (C.sl Mf.nxt 0 1 0 (Option.some 1)) ([(0:Int)]:List Int):=Bk.sl (α:=Int) (l:=([(0:Int)]:List Int)) bb (show Cat (α:=Int) Ta [Il 0] ([(0:Int)]:List Int) from ⟨[Il 0],_,rfl,rfl,rfl⟩) rfl rfl _;obtain⟨nh,Hf,hp⟩:=zqq hp;refine zwL (a:=Cd.1) (b:=([(0:Int)]:List Int)) Ua.pre (Fd.sub (Sub.trans (Sub.trans (Sub.trans d.fs ba.fs) Sa.fs) Ff.fs)) Gf Hf fun zh If=>?_;obtain⟨Jf,oh⟩:=Ua.call If Cf;refine⟨_,rfl,?_⟩;obtain rfl:=oi hp;exact hq _ Jf.ext'
theorem zwS{p:Pg}{ca100 ca102 ca103:C}{m f:M}{Q:V->M->Prop}{rz:Bool}(hS:Pre f m)(ha100:Sl f ca100 p.Losses)(ha102:Sl f ca102 p.Treaties)(ha103:Sl f ca103 p.Reports)(hp:zuq p=some rz)(hq:∀m',Ext m m'->Q (.c (.bool rz)) m'):Wc prog tbl 22 [.agg 4 [ca100,Il p.Reserve,ca102,ca103]] m Q:=by
 have z:=hS.st;obtain⟨A,_⟩:=zsk;refine w22 ?_;unfold zuq at hp;intro D h;obtain⟨d,e,t,g⟩:=z.blk h A 1;refine⟨_,_,_,_,g.bk.ra,?_⟩;obtain⟨u,i,hp⟩:=zqq hp;refine zwM (p:=p) e.pre ha100 ha102 ha103 i fun F j=>?_;obtain⟨a,l⟩:=e.call j d;have n:=g.k l;refine⟨_,rfl,?_⟩;refine zq1 hp (fun o hp=>?_) fun o hp=>?_; rotate_left
 ·obtain rfl:=oi hp;exact hq _ a.ext'
 refine⟨_,_,_,_,n.bk.ra,?_⟩;obtain⟨w,q,hp⟩:=zqq hp;refine zuS (p:=p) a.pre ha100 ha102 ha103 q fun B r=>?_;obtain⟨s,y⟩:=a.call r d;refine⟨_,rfl,?_⟩;obtain rfl:=oi hp;exact hq _ s.ext'
theorem zwT{a:Rg}{b:Rg}{m f:M}{Q:V->M->Prop}{rz:Bool}(hS:Pre f m)(hp:zur a b=some rz)(hq:∀m',Ext m m'->Q (.c (.bool rz)) m'):Wc prog tbl 59 [.agg 2 [Il a.Lo,Il a.Hi],.agg 2 [Il b.Lo,Il b.Hi]] m Q:=by
 have s:=hS.st;obtain⟨t,_⟩:=zsk;refine w59 ?_;unfold zur at hp;intro u h;obtain⟨i,j,q,l⟩:=s.blk h t 1;intro w n;obtain⟨r,d,o,e⟩:=j.blk n i 2;have g:=l.k o;refine⟨trivial,_,g.bk.rc rfl,trivial,_,e.bk.rc rfl,?_⟩;refine ifd hp (fun p hp=>?_) fun p hp=>?_; rotate_left
 ·obtain rfl:=oi hp;exact hq _ d.ext'
 refine⟨trivial,_,g.bk.rc rfl,trivial,_,e.bk.rc rfl,?_⟩;obtain rfl:=oi hp;exact hq _ d.ext'
theorem zwU{a:List Bd}{b:List Bd}{ca100 ca200:C}{m f:M}{Q:V->M->Prop}{rz:Bool}(hS:Pre f m)(ha100:Sl f ca100 a)(ha200:Sl f ca200 b)(hp:zut a b=some rz)(hq:∀m',Ext m m'->Q (.c (.bool rz)) m'):Wc prog tbl 27 [.c ca100,.c ca200] m Q:=by
 have S0:=hS.st;obtain⟨τ0,_⟩:=zsk;refine w27 ?_;unfold zut at hp;refine⟨ha100.isSl,ha200.isSl,?_⟩
 try rw[ha100.slLen]
 try rw[ha200.slLen]
 refine zq0 hp (fun z hp=>?_) fun z hp=>?_
 ·obtain rfl:=oi hp;exact hq _ S0.ext'
 intro R0 ha
 have hgo:∀(h:Nat) (b1:Bool) (A:Int) (B:M) (e:Nat->Nat),St (Fm.of m) f f B->zus a b h A=some rz->R0 [.c (.bool b1),.c (Il A)] B:=by
  intro h
  induction h with
  | zero=>intro b1 A B e d hp; cases hp
  | succ h fa=>
   intro b1 A B e d hp;refine ha _ _ _ ?_;rw[zus] at hp;refine⟨ha100.isSl,?_⟩
   try rw[ha100.slLen]
   refine ifd hp (fun D hp=>?_) fun D hp=>?_; rotate_left
   ·obtain rfl:=oi hp;exact hq _ d.ext'
   obtain⟨F,i,hp⟩:=zqq hp;obtain⟨n4,t,o,i⟩:=zqk i;obtain⟨_,G⟩:=zss ha100 i;refine⟨n4,t,(by first|exact o|(rw[ha100.slLen];exact o)),(ha100.isPt i _),_,_,((G _ d.sub).2.2 0 2 (by omega) (by decide)),?_⟩;obtain⟨I,j,hp⟩:=zqq hp;obtain⟨n7,u,p,j⟩:=zqk j;obtain⟨_,J⟩:=zss ha200 j;refine⟨n7,u,(by first|exact p|(rw[ha200.slLen];exact p)),(ha200.isPt j _),_,_,((J _ d.sub).2.2 0 2 (by omega) (by decide)),?_⟩;obtain⟨ka,N,hp⟩:=zqq hp;refine zwT (a:=F.Pays) (b:=I.Pays) d.pre  N fun ta O=>?_;obtain⟨g,la⟩:=d.call O e;refine⟨_,rfl,?_⟩;refine zq2 hp (fun P hp=>?_) fun P hp=>?_
   ·obtain rfl:=oi hp;exact hq _ g.ext'
   obtain⟨S,l,hp⟩:=zqq hp;obtain⟨ia,w,q,l⟩:=zqk l;obtain⟨_,T⟩:=zss ha100 l;refine⟨ia,w,(by first|exact q|(rw[ha100.slLen];exact q)),(ha100.isPt l _),_,_,((T _ g.sub).2.2 2 2 (by omega) (by decide)),?_⟩;obtain⟨Y,n,hp⟩:=zqq hp;obtain⟨ja,y,r,n⟩:=zqk n;obtain⟨_,Z⟩:=zss ha200 n;refine⟨ja,y,(by first|exact r|(rw[ha200.slLen];exact r)),(ha200.isPt n _),_,_,((Z _ g.sub).2.2 2 2 (by omega) (by decide)),?_⟩;obtain⟨ma,aa,hp⟩:=zqq hp;refine zwT (a:=S.Keeps) (b:=Y.Keeps) g.pre  aa fun ua ba=>?_;obtain⟨s,na⟩:=g.call ba e;refine⟨_,rfl,?_⟩;refine zq2 hp (fun ca hp=>?_) fun ca hp=>?_
   ·obtain rfl:=oi hp;exact hq _ s.ext'
   refine gdi hp fun da hp=>?_;exact fa _ _ _ e s hp
 exact hgo _ _ _ _ τ0 S0 hp
theorem zwV:TB prog 57 3 24:=⟨70,by kernel_rfl,by kernel_rfl,by kernel_rfl,by kernel_rfl⟩
theorem zwW{p:Pg}{more:Rpt}{ca100 ca102 ca103:C}{m f:M}{Q:V->M->Prop}{rz:Bool}(hS:Pre f m)(ha100:Sl f ca100 p.Losses)(ha102:Sl f ca102 p.Treaties)(ha103:Sl f ca103 p.Reports)(hp:zuu p more=some rz)(hq:∀m',Ext m m'->Q (.c (.bool rz)) m'):Wc prog tbl 5 [.agg 4 [ca100,Il p.Reserve,ca102,ca103],.agg 3 [Il more.Treaty,Il more.Paid.Lo,Il more.Paid.Hi]] m Q:=by
 have S0:=hS.st;obtain⟨τ0,_⟩:=zsk;refine w5 ?_;unfold zuu at hp;intro m0 Aa;obtain⟨Ba,Ca,Dd,Da⟩:=S0.blk Aa τ0 1;intro m1 Ea;obtain⟨Fa,Ga,Ha,Ia⟩:=Ca.blk Ea Ba 2;have S:=Da.k Ha;refine⟨_,_,_,_,S.bk.ra,?_⟩;intro m6 Ja;obtain⟨Ka,La,T,Ma⟩:=Ga.blk Ja Fa 3;have Na:=S.k T;have Oa:=Ia.k T;obtain⟨Y,Pa,Qa,Z,Ra⟩:=Ma.sto La [ca100,Il p.Reserve,ca102,ca103];have Sa:=Na.k Z;have Ta:=Oa.k Z;refine⟨Y,Pa,?_⟩;intro m8 Ua;obtain⟨Va,Wa,B,ya⟩:=Qa.growK Ua Ka 4;have aa:=Sa.k B;have ba:=Ta.k B;have Xa:=Ra.k B;have Ya:=ya 0 (by decide);intro m9 Za;obtain⟨Ed,ab,t,bb⟩:=Wa.blk Za Va 5;have ca:=aa.k t;have da:=ba.k t;have cb:=Xa.k t;have db:=Ya.k t;refine⟨trivial,_,ca.bk.rc rfl,(by rw[show cmC _=true from zoW (ha103.noFn)]; exact(aa.bk.rc rfl)),?_⟩;have eb:=Lb.ow0 (α:=Rpt) bb;obtain⟨fb,hp⟩:=zqr hp;obtain⟨gb,hb,Fd,ib,jb,u,r⟩:=eb.appLB zwV ab ha103 fb;have kb:=ca.k u;have mb:=da.k u;have ob:=cb.k u;have pb:=db.k u;refine⟨gb,hb,ib,?_⟩;refine⟨_,_,_,mb.bk.ra,(da.bk.ra),(ba.bk.ra),?_⟩;intro Ae qb;obtain⟨rb,D,sb⟩:=pb.set jb qb;have ea:=kb.k D;have tb:=ob.k D;have r:=r.k D;refine⟨(by rw[show cmC _=true from zoW (ha103.noFn)]; exact(ea.bk.rc rfl)),?_⟩;obtain⟨fa,ub,d,za⟩:=sb.freeze rb;have vb:=ea.k d;have wb:=tb.k d;have r:=r.k d;have xb:Sl fa (C.sl (Y.nxt+0) 0 1 0 (Option.some 1)) ([more]:List Rpt):=Bk.sl (α:=Rpt) (l:=([more]:List Rpt)) za (show Cat (α:=Rpt) fa [Il more.Treaty,Il more.Paid.Lo,Il more.Paid.Hi] ([more]:List Rpt) from ⟨[Il more.Treaty,Il more.Paid.Lo,Il more.Paid.Hi],_,rfl,rfl,rfl⟩) rfl rfl _
 obtain⟨yb,hp⟩:=zqr hp;obtain⟨F,zb,e,Ab,Bb,ga,q⟩:=r.appLB zwV ub xb yb;have Cb:=vb.k ga;have Db:=wb.k ga;refine⟨F,zb,Ab,?_⟩;refine⟨trivial,?_⟩;obtain⟨Eb,Fb,ha,ia,G⟩:=Db.sto1 Bb 3 F (by simp) rfl
 replace G:Lb _ _ _ _ _ _ _ [ca100,Il p.Reserve,ca102,F]:=G
 have ja:=Cb.k ia;have q:=q.k ia;refine⟨Eb,Fb,?_⟩;refine⟨_,_,_,_,ja.bk.ra,?_⟩;obtain⟨Gd,Gb,hp⟩:=zqq hp;refine zwS (p:=p) ha.pre (ha100.sub d.fs) (ha102.sub d.fs) (ha103.sub d.fs) Gb fun Be Hb=>?_;obtain⟨I,J⟩:=ha.call Hb e;have Ib:=ja.k J;have ka:=G.k J;have q:=q.k J;refine⟨_,rfl,?_⟩;refine zq2 hp (fun Jb hp=>?_) fun Jb hp=>?_
 ·obtain⟨Hd,Kb,hp⟩:=zqq hp;refine zwR I.pre  Kb fun Ce Mb=>?_;obtain⟨Nb,Ob⟩:=I.call Mb e;have q:=q.k Ob;refine⟨_,rfl,?_⟩;obtain rfl:=oi hp;exact hq _ Nb.ext'
 refine⟨_,_,_,_,ka.bk.ra,?_⟩;obtain⟨Id,la,g,N⟩:=q.freeze I;have Pb:=Ib.k g;have Qb:=ka.k g;obtain⟨Jd,Rb,hp⟩:=zqq hp;refine zwS (p:=({ Losses:=p.Losses,Reserve:=p.Reserve,Treaties:=p.Treaties,Reports:=(([]++p.Reports)++([more]:List Rpt)) }:Pg)) la.pre (ha100.sub (Sub.trans d.fs g.fs)) (ha102.sub (Sub.trans d.fs g.fs)) N Rb fun De Sb=>?_;obtain⟨w,ma⟩:=la.call Sb e;have na:=Pb.k ma;have Tb:=Qb.k ma;refine⟨_,rfl,?_⟩;refine zq2 hp (fun Ub hp=>?_) fun Ub hp=>?_
 ·obtain⟨Ld,Vb,hp⟩:=zqq hp;refine zwR w.pre  Vb fun Ee Wb=>?_;obtain⟨Xb,Md⟩:=w.call Wb e;refine⟨_,rfl,?_⟩;obtain rfl:=oi hp;exact hq _ Xb.ext'
 refine⟨_,_,_,_,na.bk.ra,?_⟩;obtain⟨Yb,Zb,hp⟩:=zqq hp;refine zwK (p:=p) w.pre (ha100.sub (Sub.trans d.fs g.fs)) (ha102.sub (Sub.trans d.fs g.fs)) (ha103.sub (Sub.trans d.fs g.fs)) Zb fun Fe Nd Od Pd Qd ac bc cc dc=>?_;obtain⟨oa,i⟩:=w.callG ac e;have ec:=na.k i;have fc:=Tb.k i;refine⟨_,_,_,_,rfl,?_⟩;obtain⟨Rd,gc,hp⟩:=zqq hp;refine zwI (p:=Yb) oa.pre bc cc dc gc fun Ge Sd Td hc s=>?_;obtain⟨pa,j⟩:=oa.callG hc e;have ic:=ec.k j;have qa:=fc.k j;refine⟨_,_,rfl,_,_,_,_,qa.bk.ra,?_⟩;obtain⟨jc,kc,hp⟩:=zqq hp;refine zwK (p:=({ Losses:=p.Losses,Reserve:=p.Reserve,Treaties:=p.Treaties,Reports:=(([]++p.Reports)++([more]:List Rpt)) }:Pg)) pa.pre (ha100.sub (Sub.trans (Sub.trans (Sub.trans d.fs g.fs) i.fs) j.fs)) (ha102.sub (Sub.trans (Sub.trans (Sub.trans d.fs g.fs) i.fs) j.fs)) (N.sub (Sub.trans i.fs j.fs)) kc fun He Ud Vd Wd Xd nc pc qc sc=>?_;obtain⟨sa,n⟩:=pa.callG nc e;have tc:=ic.k n;have uc:=qa.k n;refine⟨_,_,_,_,rfl,?_⟩;obtain⟨Yd,vc,hp⟩:=zqq hp;refine zwI (p:=jc) sa.pre pc qc sc vc fun Ie Zd ae wc y=>?_;obtain⟨ta,o⟩:=sa.callG wc e;have xc:=tc.k o;have yc:=uc.k o;refine⟨_,_,rfl,_,_,_,_,xc.bk.ra,?_⟩;obtain⟨zc,Ac,hp⟩:=zqq hp;refine zwK (p:=p) ta.pre (ha100.sub (Sub.trans (Sub.trans (Sub.trans (Sub.trans (Sub.trans d.fs g.fs) i.fs) j.fs) n.fs) o.fs)) (ha102.sub (Sub.trans (Sub.trans (Sub.trans (Sub.trans (Sub.trans d.fs g.fs) i.fs) j.fs) n.fs) o.fs)) (ha103.sub (Sub.trans (Sub.trans (Sub.trans (Sub.trans (Sub.trans d.fs g.fs) i.fs) j.fs) n.fs) o.fs)) Ac fun Je be ce de ee Bc Cc Dc Ec=>?_
 obtain⟨ua,z⟩:=ta.callG Bc e;have Fc:=yc.k z;refine⟨_,_,_,_,rfl,?_⟩;obtain⟨Gc,Hc,hp⟩:=zqq hp;refine zww (p:=zc) ua.pre Cc Dc Ec Hc fun Ke fe ge Ic Jc=>?_;obtain⟨va,A⟩:=ua.callG Ic e;have Kc:=Fc.k A;refine⟨_,_,rfl,_,_,_,_,Kc.bk.ra,?_⟩;obtain⟨Nc,Pc,hp⟩:=zqq hp;refine zwK (p:=({ Losses:=p.Losses,Reserve:=p.Reserve,Treaties:=p.Treaties,Reports:=(([]++p.Reports)++([more]:List Rpt)) }:Pg)) va.pre (ha100.sub (Sub.trans (Sub.trans (Sub.trans (Sub.trans (Sub.trans (Sub.trans (Sub.trans d.fs g.fs) i.fs) j.fs) n.fs) o.fs) z.fs) A.fs)) (ha102.sub (Sub.trans (Sub.trans (Sub.trans (Sub.trans (Sub.trans (Sub.trans (Sub.trans d.fs g.fs) i.fs) j.fs) n.fs) o.fs) z.fs) A.fs)) (N.sub (Sub.trans (Sub.trans (Sub.trans (Sub.trans (Sub.trans i.fs j.fs) n.fs) o.fs) z.fs) A.fs)) Pc fun Me he ie je ke Qc Rc Tc Uc=>?_;obtain⟨wa,Vc⟩:=va.callG Qc e;refine⟨_,_,_,_,rfl,?_⟩;obtain⟨Xc,Yc,hp⟩:=zqq hp;refine zww (p:=Nc) wa.pre Rc Tc Uc Yc fun Ne me oe Zc ad=>?_;obtain⟨h,bd⟩:=wa.callG Zc e;refine⟨_,_,rfl,?_⟩;refine zq0 hp (fun cd hp=>?_) fun cd hp=>?_
 ·obtain rfl:=oi hp;exact hq _ h.ext'
 refine zq0 hp (fun dd hp=>?_) fun dd hp=>?_
 ·obtain rfl:=oi hp;exact hq _ h.ext'
 refine⟨y.isSl,s.isSl,?_⟩
 try rw[y.slLen]
 try rw[s.slLen]
 refine ifd hp (fun ed hp=>?_) fun ed hp=>?_
 ·obtain rfl:=oi hp;exact hq _ h.ext'
 refine⟨y.isSl,s.isSl,?_⟩;obtain⟨xa,hp⟩:=zqr hp;refine⟨(by first|exact xa|(rw[s.slLen];exact xa)),?_⟩
 try rw[s.slLen]
 try rw[y.slLen]
 refine ifd hp (fun fd hp=>?_) fun fd hp=>?_
 ·obtain rfl:=oi hp;exact hq _ h.ext'
 refine zq0 hp (fun O hp=>?_) fun O hp=>?_
 ·refine zq0 hp (fun hd hp=>?_) fun hd hp=>?_
  ·obtain rfl:=oi hp;exact hq _ h.ext'
  refine zq0 hp (fun id hp=>?_) fun id hp=>?_; rotate_left
  ·refine zq4 O ?_;obtain rfl:=oi hp;exact hq _ h.ext'
  refine ifd hp (fun jd hp=>?_) fun jd hp=>?_; rotate_left
  ·obtain rfl:=oi hp;exact hq _ h.ext'
  obtain⟨pe,kd,hp⟩:=zqq hp;refine zwR h.pre  kd fun Oe ld=>?_;obtain⟨md,qe⟩:=h.call ld e;refine⟨_,rfl,?_⟩;obtain rfl:=oi hp;exact hq _ md.ext'
 refine zq0 hp (fun nd hp=>?_) fun nd hp=>?_
 ·refine ifd hp (fun od hp=>?_) fun od hp=>?_; rotate_left
  ·obtain rfl:=oi hp;exact hq _ h.ext'
  obtain⟨re,pd,hp⟩:=zqq hp;refine zwR h.pre  pd fun se qd=>?_;obtain⟨sd,te⟩:=h.call qd e;refine⟨_,rfl,?_⟩;obtain rfl:=oi hp;exact hq _ sd.ext'
 refine zq3 O ?_;obtain⟨ue,td,hp⟩:=zqq hp;refine zwU (a:=Xc.1) (b:=Gc.1) h.pre ad (Jc.sub (Sub.trans Vc.fs bd.fs)) td fun ve ud=>?_;obtain⟨P,we⟩:=h.call ud e;refine⟨_,rfl,?_⟩;refine zq1 hp (fun vd hp=>?_) fun vd hp=>?_; rotate_left
 ·obtain rfl:=oi hp;exact hq _ P.ext'
 obtain⟨xe,xd,hp⟩:=zqq hp;refine zwR P.pre  xd fun ye yd=>?_;obtain⟨zd,ze⟩:=P.call yd e;refine⟨_,rfl,?_⟩;obtain rfl:=oi hp;exact hq _ zd.ext'
def Inc(n fr:Nat)(T:List Int):Prop:=T.Pairwise (· < ·)/\∀v∈T,(fr:Int)<=v/\v < n
theorem Inc.cons{n fr:Nat}{x:Int}{T:List Int}:Inc n fr (x::T)↔((fr:Int)<=x/\x < n)/\Inc n (x+1).toNat T:=by
 unfold Inc;rw[List.pairwise_cons]
 constructor
 ·rintro⟨⟨h1,h2⟩,h3⟩
  have hx:=h3 x (List.mem_cons_self ..);exact⟨hx,h2,fun v hv=>by have:=h1 v hv; have:=h3 v (List.mem_cons_of_mem _ hv); omega⟩
 ·rintro⟨hx,h2,h3⟩
  refine⟨⟨fun v hv=>by have:=h3 v hv; omega,h2⟩,fun v hv=>?_⟩
  rcases List.mem_cons.1 hv with rfl | hv
  ·exact hx
  ·have:=h3 v hv; omega
theorem zwX{n:Nat}{D:List Int}:∀{d:Nat} {pre:List Int} {fr:Nat},D∈zry n d pre fr↔∃T,D=pre++T/\T.length=d/\Inc n fr T
 | 0,pre,fr=>by
  show D∈[pre]↔_
  rw[List.mem_singleton]
  constructor
  ·rintro rfl; exact⟨[],by simp,rfl,.nil,fun v hv=>by cases hv⟩
  ·rintro⟨T,h1,h2,_⟩
   rw[List.eq_nil_of_length_eq_zero h2,List.append_nil] at h1; exact h1
 | d+1,pre,fr=>by
  show D∈zrx (fun x=>zry n d (pre++[(x:Int)]) (x+1)) (n - fr) fr↔_
  rw[zvM]
  constructor
  ·rintro⟨x,h1,h2,h3⟩
   obtain⟨T,h4,h5,h6⟩:=zwX.1 h3;refine⟨(x:Int)::T,by rw[h4]; simp,by simp[h5],Inc.cons.2 ⟨by omega,?_⟩⟩;rw[show((x:Int)+1).toNat=x+1 by omega]; exact h6
  ·rintro⟨T,h1,h2,h3⟩
   cases T with
   | nil=>simp at h2
   | cons v T=>
    obtain⟨h4,h5⟩:=Inc.cons.1 h3;refine⟨v.toNat,by omega,by omega,zwX.2 ⟨T,?_,by simpa using h2,?_⟩⟩
    ·rw[show((v.toNat:Nat):Int)=v by omega,h1]; simp
    ·rw[show v.toNat+1=(v+1).toNat by omega]; exact h5
theorem zwY{n:Nat}:∀{T:List Int} {fr:Nat},Inc n fr T->T.length<=n - fr
 | [],_,_=>Nat.zero_le _
 | v::T,fr,h=>by
  obtain⟨h1,h2⟩:=Inc.cons.1 h;have:=zwY h2
  simp only[List.length_cons]
  omega
theorem zwZ{n:Nat}{D:List Int}:D∈zoj n↔Inc n 0 D:=by
 unfold zoj;rw[zvM]
 constructor
 ·rintro⟨s,_,_,h⟩
  obtain⟨T,h1,_,h2⟩:=zwX.1 h;rw[h1]; exact h2
 ·intro h;have:=zwY h;exact⟨D.length,Nat.zero_le _,by omega,zwX.2 ⟨D,rfl,rfl,h⟩⟩
def inD(D:List Int)(j:Nat):Bool:=decide ((j:Int)∈D)
def zw0(b:Nat):Nat->List Int
 | 0=>[]
 | p+1=>zw0 b p++(if b.testBit p then [(p:Int)] else [])
def zw1(b:Nat):List Int:=zw0 b 16
theorem zw2{b:Nat}{v:Int}:∀{p:Nat},v∈zw0 b p↔0<=v/\v < p/\b.testBit v.toNat=true
 | 0=>⟨fun h=>(by cases h),fun h=>by omega⟩
 | p+1=>by
  show v∈zw0 b p++_↔_
  rw[List.mem_append,zw2]
  constructor
  ·rintro (h | h)
   ·exact⟨h.1,by omega,h.2.2⟩
   ·by_cases hb:b.testBit p=true
    ·rw[if_pos hb,List.mem_singleton] at h;subst h; exact⟨by omega,by omega,hb⟩
    ·rw[if_neg hb] at h; cases h
  ·rintro⟨h1,h2,h3⟩
   by_cases hv:v=(p:Int)
   ·subst hv;have h4:b.testBit p=true:=h3;rw[if_pos h4]; exact .inr (List.mem_singleton.2 rfl)
   ·exact .inl ⟨h1,by omega,h3⟩
theorem zw3{b:Nat}:∀p:Nat,(zw0 b p).Pairwise (· < ·)
 | 0=>.nil
 | p+1=>by
  show(zw0 b p++_).Pairwise _
  rw[List.pairwise_append];refine⟨zw3 p,?_,fun a ha c hc=>?_⟩
  ·split
   ·exact List.pairwise_singleton _ _
   ·exact .nil
  ·have:=zw2.1 ha
   split at hc
   ·rw[List.mem_singleton] at hc; omega
   ·cases hc
theorem zw4{b p:Nat}(h:∀q,p<=q->b.testBit q=false):∀k,zw0 b (p+k)=zw0 b p
 | 0=>rfl
 | k+1=>by
  show zw0 b (p+k)++(if b.testBit (p+k) then _ else _)=_
  rw[h (p+k) (by omega),zw4 h k]; simp
def bef:List Int->List Int->Bool
 | [],[]=>false
 | [],_::_=>true
 | _::_,[]=>false
 | x::a,y::b=>if x=y then bef a b else decide (x < y)
def shB(a b:List Int):Bool:=decide (a.length < b.length) || (decide (a.length=b.length) && bef a b)
theorem zw5:∀A:List Int,bef A A=false
 | []=>rfl
 | x::A=>by show(if x=x then bef A A else _)=_; rw[if_pos rfl,zw5 A]
theorem zw6:∀{A B:List Int},bef A B=true->bef B A=false
 | [],[],h=>by cases h
 | [],_::_,_=>rfl
 | _::_,[],h=>by cases h
 | x::A,y::B,h=>by
  have h':(if x=y then bef A B else decide (x < y))=true:=h
  show(if y=x then bef B A else decide (y < x))=false
  by_cases hxy:x=y
  ·rw[if_pos hxy] at h'; rw[if_pos hxy.symm]; exact zw6 h'
  ·rw[if_neg hxy] at h'; rw[if_neg fun h=>hxy h.symm];have:=of_decide_eq_true h';exact decide_eq_false (by omega)
theorem zw7{A B:List Int}:shB A B=true↔A.length < B.length\/(A.length=B.length/\bef A B=true):=by
 unfold shB;rw[Bool.or_eq_true,Bool.and_eq_true,decide_eq_true_eq,decide_eq_true_eq]
theorem zw8{A B:List Int}(h:shB A B=true):shB B A=false:=by
 unfold shB at h ⊢;rw[Bool.or_eq_true,Bool.and_eq_true,decide_eq_true_eq,decide_eq_true_eq] at h
 rcases h with h | ⟨h1,h2⟩
 ·rw[decide_eq_false (by omega),decide_eq_false (by omega)]; rfl
 ·rw[decide_eq_false (by omega),zw6 h2]; simp
theorem zw9(x y:Int)(A B:List Int)(hxy:x < y):∀pre:List Int,bef (pre++x::A) (pre++y::B)=true
 | []=>by show(if x=y then _ else decide (x < y))=true; rw[if_neg (by omega),decide_eq_true hxy]
 | p::pre=>by show(if p=p then bef (pre++x::A) (pre++y::B) else _)=true; rw[if_pos rfl]; exact zw9 x y A B hxy pre
theorem zxa{α:Type}{R:α->α->Prop}(g:Nat->List α)(h1:∀x,(g x).Pairwise R)(h2:∀x y,x < y->∀a∈g x,∀b∈g y,R a b):∀e x,(zrx g e x).Pairwise R
 | 0,_=>.nil
 | e+1,x=>by
  show(g x++zrx g e (x+1)).Pairwise R
  rw[List.pairwise_append];refine⟨h1 x,zxa g h1 h2 e (x+1),fun a ha b hb=>?_⟩;obtain⟨j,h3,_,h4⟩:=(zvM g b e (x+1)).1 hb;exact h2 x j (by omega) a ha b h4
theorem zxb{n:Nat}:∀(d:Nat) (pre:List Int) (fr:Nat),(zry n d pre fr).Pairwise fun a b=>bef a b=true
 | 0,pre,fr=>List.pairwise_singleton _ _
 | d+1,pre,fr=>zxa _ (fun x=>zxb d _ _) (fun x y hxy a ha b hb=>by
  obtain⟨T,h1,_,_⟩:=zwX.1 ha;obtain⟨T',h2,_,_⟩:=zwX.1 hb;rw[h1,h2,List.append_assoc,List.append_assoc]
  exact zw9 _ _ _ _ (by omega) pre) _ _
theorem zxc(n:Nat):(zoj n).Pairwise fun a b=>shB a b=true:=
 zxa _ (fun s=>(zxb s [] 0).imp_of_mem fun {a b} ha hb hab=>by
  have h1:=zvV ha;have h2:=zvV hb;unfold shB
  rw[hab,decide_eq_true (show a.length=b.length by omega)]; simp) (fun s s' hs a ha b hb=>by
  have h1:=zvV ha;have h2:=zvV hb;unfold shB
  rw[decide_eq_true (by omega)]; rfl) _ _
theorem zxd{t:List Int->Bool}:∀{l:List (List Int)},l.Pairwise (fun a b=>shB a b=true)->∀{D D':List Int},l.find? t=some D->D'∈l->t D'=true->D'=D\/shB D D'=true
 | [],_,_,_,h,_,_=>by cases h
 | a::l,hp,D,D',h,hm,ht=>by
  rw[List.pairwise_cons] at hp;rw[List.find?_cons] at h
  cases hta:t a with
  | true=>
   rw[hta] at h;have:a=D:=oi h;subst this
   rcases List.mem_cons.1 hm with rfl | h1
   ·exact .inl rfl
   ·exact .inr (hp.1 _ h1)
  | false=>
   rw[hta] at h
   rcases List.mem_cons.1 hm with rfl | h1
   ·rw[hta] at ht; cases ht
   ·exact zxd hp.2 h h1 ht
theorem zxe{n:Nat}{t:List Int->Bool}(h:∃D,Inc n 0 D/\t D=true):Inc n 0 (zrz n t)/\t (zrz n t)=true/\∀D,Inc n 0 D->t D=true->D=zrz n t\/shB (zrz n t) D=true:=by
 obtain⟨D0,h1,h2⟩:=h;unfold zrz
 cases hf:(zoj n).find? t with
 | none=>exact absurd h2 (by have:=List.find?_eq_none.1 hf D0 (zwZ.2 h1); simpa using this)
 | some D=>exact⟨zwZ.1 (List.mem_of_find?_eq_some hf),List.find?_some hf,fun D' h3 h4=>zxd (zxc n) hf (zwZ.2 h3) h4⟩
theorem zxf:∀(n:Nat) (S:Nat->Bool),∃b,b < 2 ^ n/\∀q,q < n->b.testBit q=S q
 | 0,S=>⟨0,by decide,fun q hq=>by omega⟩
 | n+1,S=>by
  obtain⟨b,h1,h2⟩:=zxf n fun q=>S (q+1);refine⟨2 * b+(if S 0 then 1 else 0),?_,fun q hq=>?_⟩
  ·rw[Nat.pow_succ]; split <;> omega
  ·cases q with
   | zero=>
    rw[Nat.testBit_zero]
    cases S 0 with
    | true=>exact decide_eq_true (by simp only[if_true]; omega)
    | false=>exact decide_eq_false (by simp)
   | succ q=>
    rw[Nat.testBit_succ,<- h2 q (by omega)]
    congr 1
    split <;> omega
theorem zxg:∀{A B:List Int},A.Pairwise (· < ·)->B.Pairwise (· < ·)->(∀v,v∈A↔v∈B)->A=B
 | [],[],_,_,_=>rfl
 | [],b::B,_,_,h=>by have:=(h b).2 (List.mem_cons_self ..); cases this
 | a::A,[],_,_,h=>by have:=(h a).1 (List.mem_cons_self ..); cases this
 | a::A,b::B,hA,hB,h=>by
  rw[List.pairwise_cons] at hA hB
  have hab:a=b:=by
   rcases List.mem_cons.1 ((h a).1 (List.mem_cons_self ..)) with h1 | h1
   ·exact h1
   ·rcases List.mem_cons.1 ((h b).2 (List.mem_cons_self ..)) with h2 | h2
    ·exact h2.symm
    ·have:=hA.1 _ h2; have:=hB.1 _ h1; omega
  subst hab
  congr 1
  refine zxg hA.2 hB.2 fun v=>?_;have hv:=h v;rw[List.mem_cons,List.mem_cons] at hv
  constructor
  ·intro h1
   rcases hv.1 (.inr h1) with h2 | h2
   ·have:=hA.1 _ h1; omega
   ·exact h2
  ·intro h1
   rcases hv.2 (.inr h1) with h2 | h2
   ·have:=hB.1 _ h1; omega
   ·exact h2
theorem zxh{n b:Nat}(_hn:n<=16)(hb:b < 2 ^ n):Inc n 0 (zw1 b):=
 ⟨zw3 16,fun v hv=>by
  obtain⟨h1,h2,h3⟩:=zw2.1 hv;refine⟨by omega,?_⟩
  by_cases h4:v < n
  ·exact h4
  ·have:=Nat.testBit_lt_two_pow (Nat.lt_of_lt_of_le hb (Nat.pow_le_pow_right (by omega) (show n<=v.toNat by omega)))
   rw[this] at h3; cases h3⟩
theorem zxi{n b k:Nat}(hn:n<=16)(hk:k < n):inD (zw1 b) k=b.testBit k:=by
 unfold inD
 have:((k:Nat):Int)∈zw1 b↔b.testBit k=true:=by
  unfold zw1;rw[zw2];exact⟨fun h=>h.2.2,fun h=>⟨by omega,by omega,h⟩⟩
 cases hb:b.testBit k with
 | true=>exact decide_eq_true (this.2 hb)
 | false=>exact decide_eq_false fun h=>by rw[this.1 h] at hb; cases hb
theorem zxj{n:Nat}{D:List Int}(hn:n<=16)(hD:Inc n 0 D):∃b,b < 2 ^ n/\zw1 b=D:=by
 obtain⟨b,h1,h2⟩:=zxf n (inD D);refine⟨b,h1,zxg (zw3 16) hD.1 fun v=>?_⟩
 constructor
 ·intro hv;obtain⟨h3,h4⟩:=(zxh hn h1).2 v hv;obtain⟨_,_,h5⟩:=zw2.1 hv;rw[h2 _ (by omega)] at h5;have:=of_decide_eq_true h5
  rwa [show((v.toNat:Nat):Int)=v by omega] at this
 ·intro hv;have h3:=hD.2 v hv;refine zw2.2 ⟨by omega,by omega,?_⟩;rw[h2 _ (by omega)];exact decide_eq_true (by rw[show((v.toNat:Nat):Int)=v by omega]; exact hv)
theorem zxk{S β:Type}{n:Nat}(F:Nat->S->Int->Option β)(st:Nat->S){fin:Option β}(hstep:∀d k,k < n->F (d+1) (st k) (k:Int)=F d (st (k+1)) ((k:Int)+1))(hend:∀d,F (d+1) (st n) (n:Int)=fin) :
  ∀d k,k<=n->n - k < d->F d (st k) (k:Int)=fin
 | 0,k,_,h=>by omega
 | d+1,k,hk,h=>by
  by_cases hkn:k=n
  ·subst hkn; exact hend d
  ·rw[hstep d k (by omega),show(k:Int)+1=((k+1:Nat):Int) by omega];exact zxk F st hstep hend d (k+1) (by omega) (by omega)
def mk5(f:Nat->Int):P5:=⟨f 0,f 1,f 2,f 3,f 4⟩
def l5{α:Type}(f:Nat->α):List α:=[f 0,f 1,f 2,f 3,f 4]
theorem zxl{α:Type}{f:Nat->α}{k:Nat}(hk:k < 5):(l5 f)[k]? = some (f k):=by
 match k,hk with
 | 0,_=>rfl
 | 1,_=>rfl
 | 2,_=>rfl
 | 3,_=>rfl
 | 4,_=>rfl
theorem zxm{α:Type}{f:Nat->α}{k:Nat}(hk:k < 5):idx (l5 f) (k:Int)=some (f k):=zrS (zxl hk)
theorem zxn{α:Type}{f:Nat->α}{i:Int}(h0:0<=i)(h5:i < 5):idx (l5 f) i=some (f i.toNat):=by
 have:=zxm (f:=f) (k:=i.toNat) (by omega)
 rwa [show((i.toNat:Nat):Int)=i by omega] at this
theorem zxo{f g:Nat->Int}(h:mk5 f=mk5 g){k:Nat}(hk:k < 5):f k=g k:=by
 have h:=P5.mk.inj h
 match k,hk with
 | 0,_=>exact h.1
 | 1,_=>exact h.2.1
 | 2,_=>exact h.2.2.1
 | 3,_=>exact h.2.2.2.1
 | 4,_=>exact h.2.2.2.2
def upF{α:Type}(f:Nat->α)(k:Nat)(a:α):Nat->α:=fun j=>if j=k then a else f j
theorem zxp{α:Type}(f:Nat->α)(k:Nat)(a:α):upF f k a k=a:=if_pos rfl
theorem zxq{α:Type}(f:Nat->α){k j:Nat}(a:α)(h:j ≠ k):upF f k a j=f j:=if_neg h
theorem zxr{α:Type}(f:Nat->α)(k:Nat)(a:α)(j:Nat):sti (k:Int) j a (f j)=upF f k a j:=by
 unfold sti upF
 by_cases h:j=k
 ·rw[if_pos h,if_pos (by omega)]
 ·rw[if_neg h,if_neg (by omega)]
theorem zxs{α:Type}(f:Nat->α){i:Int}(hi:0<=i)(a:α)(j:Nat):sti i j a (f j)=upF f i.toNat a j:=by
 have:=zxr f i.toNat a j
 rwa [show((i.toNat:Nat):Int)=i by omega] at this
def RgV(r:Rg)(hi:Int):Prop:=0<=r.Lo/\r.Lo<=r.Hi/\r.Hi<=hi
def zgo(t:Ty):Prop:=(t.Kind=0/\(1<=t.Part/\t.Part<=100)/\t.Above=0/\t.Most=0/\t.Times=0)\/(t.Kind=1/\t.Part=0/\(0<=t.Above/\t.Above<=1000)/\(1<=t.Most/\t.Most<=1000)/\0<=t.Times/\t.Times<=3)
def zxt(t:Ty):Prop:=zgo t/\0<=t.Price/\t.Price<=1000
def zxu(ts:List Ty):Prop:=∀(i:Nat) (t:Ty),ts[i]? = some t->-1<=t.Of/\t.Of<=(i:Int) - 1
def zxv(p:Pg)(r:Rpt):Prop:=(0<=r.Treaty/\r.Treaty<=(p.Treaties.length:Int) - 1)/\RgV r.Paid 10000
structure zxw (p:Pg):Prop where
 ls:∀r∈p.Losses,RgV r 1000
 res:0<=p.Reserve/\p.Reserve<=10000
 ts:∀t∈p.Treaties,zxt t
 of':zxu p.Treaties
 rs:∀r∈p.Reports,zxv p r
def zxx(p:Pg):Prop:=4 < p.Losses.length\/5 < p.Treaties.length\/5 < p.Reports.length
def zxy:List Rg->Int
 | []=>1
 | r::l=>(r.Hi - r.Lo+1) * zxy l
open Classical in
def zxz(p:Pg):Int:=if zxx p then 3 else if zxw p then (if 1500 < zxy p.Losses then 3 else 0) else 1
structure VP (p:Pg):Prop extends zxw p where
 l4:p.Losses.length<=4
 t5:p.Treaties.length<=5
 r5:p.Reports.length<=5
 many:zxy p.Losses<=1500
theorem zxA{p:Pg}:zxz p=0↔VP p:=by
 unfold zxz
 by_cases h:zxx p
 ·rw[if_pos h]; exact⟨fun h=>by omega,fun h2=>by have:=h2.l4; have:=h2.t5; have:=h2.r5; unfold zxx at h; omega⟩
 ·rw[if_neg h];unfold zxx at h
  by_cases hf:zxw p
  ·rw[if_pos hf]
   by_cases hm:1500 < zxy p.Losses
   ·rw[if_pos hm]; exact⟨fun h=>by omega,fun h=>by have:=h.many; omega⟩
   ·rw[if_neg hm]; exact⟨fun _=>⟨hf,by omega,by omega,by omega,by omega⟩,fun _=>rfl⟩
  ·rw[if_neg hf]; exact⟨fun h=>by omega,fun h=>absurd ⟨h.ls,h.res,h.ts,h.of',h.rs⟩ hf⟩
theorem zxB{r:Rg}{n:Int}:Ev (zsD r n) (r.Lo<=n/\n<=r.Hi):=Ev.ite fun _=>Ev.dec Iff.rfl
theorem zxC{a b:Int}{r:Rg}:Ev (zsE { Lo:=a,Hi:=b } r) (a<=r.Lo/\r.Lo<=r.Hi/\r.Hi<=b):=Ev.ite fun _=>Ev.ite fun _=>Ev.dec Iff.rfl
theorem zxD{k:Kd}{t:Ty}:Ev (zsN k t) ((k.part.Lo<=t.Part/\t.Part<=k.part.Hi)/\(k.above.Lo<=t.Above/\t.Above<=k.above.Hi)/\(k.most.Lo<=t.Most/\t.Most<=k.most.Hi)/\k.times.Lo<=t.Times/\t.Times<=k.times.Hi):=
 zxB.and fun _=>zxB.and fun _=>zxB.and fun _=>zxB.ret
def zxE:K2:={ k0:={ part:={ Lo:=1,Hi:=100 },above:={ Lo:=0,Hi:=0 },most:={ Lo:=0,Hi:=0 },times:={ Lo:=0,Hi:=0 },takes:=(fun t a b=>zsK t a b) },k1:={ part:={ Lo:=0,Hi:=0 },above:={ Lo:=0,Hi:=1000 },most:={ Lo:=1,Hi:=1000 },times:={ Lo:=0,Hi:=3 },takes:=(fun t a b=>zsL t a b) } }
theorem zxF:zsM=some zxE:=rfl
theorem zxG{t:Ty}:Ev (zsO zxE t) (zxt t):=by
 unfold zsO
 show Ev ((zsD { Lo:=0,Hi:=1 } t.Kind).bind _) _
 refine(zxB.and (K:=zgo t/\0<=t.Price/\t.Price<=1000) fun hk=>?_).imp ?_
 ·by_cases h0:t.Kind=0
  ·rw[if_pos h0];refine(zxD.and fun _=>(show Ev (zsD { Lo:=0,Hi:=1000 } t.Price) _ from zxB).ret).imp ?_
   show((1<=t.Part/\t.Part<=100)/\(0<=t.Above/\t.Above<=0)/\(0<=t.Most/\t.Most<=0)/\0<=t.Times/\t.Times<=0)/\(0<=t.Price/\t.Price<=1000)↔_
   unfold zgo; omega
  ·have h1:t.Kind=1:=by
    have hk:0<=t.Kind/\t.Kind<=1:=hk
    omega
   rw[if_neg h0,if_pos h1];refine(zxD.and fun _=>(show Ev (zsD { Lo:=0,Hi:=1000 } t.Price) _ from zxB).ret).imp ?_
   show((0<=t.Part/\t.Part<=0)/\(0<=t.Above/\t.Above<=1000)/\(1<=t.Most/\t.Most<=1000)/\0<=t.Times/\t.Times<=3)/\(0<=t.Price/\t.Price<=1000)↔_
   unfold zgo; omega
 ·show((0<=t.Kind/\t.Kind<=1)/\zgo t/\0<=t.Price/\t.Price<=1000)↔zxt t
  unfold zxt zgo; omega
theorem gR{l:List Rg}{p:Rg->Option Bool}:∀{d:Nat} {x:Int},zsV l p d x=gIdx l p d x
 | 0,_=>rfl
 | d+1,x=>by unfold zsV gIdx; simp only[gR]
theorem gT{l:List Ty}{p:Ty->Option Bool}:∀{d:Nat} {x:Int},zs0 l p d x=gIdx l p d x
 | 0,_=>rfl
 | d+1,x=>by unfold zs0 gIdx; simp only[gT]
theorem gQ{l:List Rpt}{p:Rpt->Option Bool}:∀{d:Nat} {x:Int},zs5 l p d x=gIdx l p d x
 | 0,_=>rfl
 | d+1,x=>by unfold zs5 gIdx; simp only[gQ]
theorem gI{l:List Int}{p:Int->Option Bool}:∀{d:Nat} {x:Int},zta l p d x=gIdx l p d x
 | 0,_=>rfl
 | d+1,x=>by unfold zta gIdx; simp only[gI]
theorem zxH{p:Pg}{n:Int}(h:zr2 p.Treaties):Ev (zsQ p n) (0<=n/\n<=(p.Treaties.length:Int) - 1):=by
 unfold zsQ;unfold zr2 at h;refine Ev.gd (fI (by omega)) ?_;exact(show Ev (zsD { Lo:=0,Hi:=(p.Treaties.length:Int) - 1 } n) _ from zxB).ret
theorem zxI{p:Pg}{r:Rpt}(h:zr2 p.Treaties):Ev (zsR p r) (zxv p r):=(zxH h).and fun _=>(zxC (a:=0) (b:=10000)).ret
theorem zxJ{p:Pg}(h:zr2 p.Treaties):Ev (zsT p) (zxu p.Treaties):=by
 unfold zr2 at h;refine(Ev.loop (n:=p.Treaties.length) (F:=fun d x=>zsS p d x) (ok:=fun j=>∀t,p.Treaties[j]? = some t->-1<=t.Of/\t.Of<=(j:Int) - 1) (fin:=some true) (P:=True) (fun d k hk=>?_) (fun d=>?_) (by omega) (fun _=>Ev.tt trivial)).imp ?_
 ·have hg:=List.getElem?_eq_getElem hk
  show(_->zsS p (d+1) (k:Int)=_)/\(_->zsS p (d+1) (k:Int)=_)
  rw[zsS,if_pos (by omega),zrS hg,obs,zqs (fI (by omega))];exact(show Ev (zsD { Lo:=-1,Hi:=(k:Int) - 1 } (p.Treaties[k]).Of) (∀t,p.Treaties[k]? = some t->-1<=t.Of/\t.Of<=(k:Int) - 1) from zxB.imp ⟨fun h t ht=>by rw[hg] at ht; cases ht; exact h,fun h=>h _ hg⟩).step (by rw[if_pos rfl,zqs (fI (by omega))]) (by rw[if_neg (by decide)])
 ·show zsS p (d+1) _=_
  rw[zsS,if_neg (Int.lt_irrefl _)]
 ·exact⟨fun h i t ht=>h.1 i (List.getElem?_eq_some_iff.1 ht).1 t ht,fun h=>⟨fun j _ t ht=>h j t ht,trivial⟩⟩
theorem zxK{p:Pg}(h1:zr2 p.Losses)(h2:zr2 p.Treaties)(h3:zr2 p.Reports):Ev (ztg p) (zxw p):=by
 unfold ztg;rw[zxF,obs]
 show Ev ((zsY p.Losses fun a=>zsE { Lo:=0,Hi:=1000 } a).bind _) _
 refine((Ev.each (q:=fun r=>RgV r 1000) (fun a _=>zxC) h1.lt gR).and fun _=>(show Ev (zsD { Lo:=0,Hi:=10000 } p.Reserve) _ from zxB).and fun _=>(Ev.each (q:=zxt) (fun a _=>zxG) h2.lt gT).and fun _=>(zxJ h2).and fun _=>(Ev.each (q:=zxv p) (fun a _=>zxI h2) h3.lt gQ).ret).imp ?_;exact⟨fun⟨a,b,c,d,e⟩=>⟨a,b,c,d,e⟩,fun⟨a,b,c,d,e⟩=>⟨a,b,c,d,e⟩⟩
theorem zxL{p:Pg}:Ev (zsP p) (zxx p):=by
 unfold zsP zxx
 by_cases h:(4:Int) < p.Losses.length
 ·rw[if_pos h]; exact Ev.tt (by omega)
 ·rw[if_neg h]
  by_cases h2:(5:Int) < p.Treaties.length
  ·rw[if_pos h2]; exact Ev.tt (by omega)
  ·rw[if_neg h2]; exact Ev.dec (by omega)
theorem zxM{r:Rg}(h:RgV r 1000):zth r=some (r.Hi - r.Lo+1):=by
 unfold RgV at h;unfold zth;rw[zqs (fI (by omega)),zqs (fI (by omega))]
theorem zxN:∀{l:List Rg},(∀r∈l,RgV r 1000)->l.length<=4->1<=zxy l/\zxy l<=1001 ^ l.length
 | [],_,_=>⟨Int.le_refl _,Int.le_refl _⟩
 | r::l,h,h4=>by
  have h1:=h r (List.mem_cons_self ..);obtain⟨h2,h3⟩:=zxN (l:=l) (fun r hr=>h r (List.mem_cons_of_mem _ hr)) (by simp only[List.length_cons] at h4; omega);unfold RgV at h1
  show 1<=(r.Hi - r.Lo+1) * zxy l/\(r.Hi - r.Lo+1) * zxy l<=1001 ^ (l.length+1)
  have h5:1 * 1<=(r.Hi - r.Lo+1) * zxy l:=Int.mul_le_mul (by omega) h2 (by omega) (by omega);have h6:(r.Hi - r.Lo+1) * zxy l<=1001 * 1001 ^ l.length:=Int.mul_le_mul (by omega) h3 (by omega) (by omega);refine⟨by omega,?_⟩;rw[Int.pow_succ,Int.mul_comm ((1001:Int) ^ l.length)]; exact h6
theorem zxO{n:Nat}(h:n<=4):(1001:Int) ^ n<=1004006004001:=by
 match n,h with
 | 0,_=>decide
 | 1,_=>decide
 | 2,_=>decide
 | 3,_=>decide
 | 4,_=>decide
theorem zxP{l:List Rg}{k:Nat}{r:Rg}(h:l[k]? = some r):zxy (l.take (k+1))=zxy (l.take k) * (r.Hi - r.Lo+1):=by
 induction l generalizing k with
 | nil=>cases h
 | cons a l ih=>
  cases k with
  | zero=>cases h; show(r.Hi - r.Lo+1) * 1=1 * (r.Hi - r.Lo+1); rw[Int.one_mul,Int.mul_one]
  | succ k=>
   rw[List.take_succ_cons,List.take_succ_cons]
   show(a.Hi - a.Lo+1) * zxy (l.take (k+1))=(a.Hi - a.Lo+1) * zxy (l.take k) * _
   rw[ih h,Int.mul_assoc]
theorem zxQ{l:List Rg}(h:∀r∈l,RgV r 1000)(h4:l.length<=4)(k:Nat):1<=zxy (l.take k)/\zxy (l.take k)<=1004006004001:=by
 have h1:=zxN (l:=l.take k) (fun r hr=>h r (List.mem_of_mem_take hr)) (by rw[List.length_take]; omega);have h2:=zxO (n:=(l.take k).length) (by rw[List.length_take]; omega)
 omega
theorem zxR{l:List Rg}(h:∀r∈l,RgV r 1000)(h4:l.length<=4):ztj l=some (zxy l):=by
 unfold ztj;have key:=zxk (n:=l.length) (fun d s x=>zti l d s x) (fun k=>zxy (l.take k)) (fin:=some (zxy l)) (fun d k hk=>?_) (fun d=>?_) (l.length+1) 0 (by omega) (by omega)
 ·exact key
 ·have hg:=List.getElem?_eq_getElem hk;have hr:=h _ (List.getElem_mem hk);have hb:=zxQ h h4 k;have hb2:=zxQ h h4 (k+1);rw[zxP hg] at hb2
  show zti l (d+1) _ _=_
  rw[zti,if_pos (by omega),zrS hg,obs,zxM hr,obs,zqs (by omega),zqs (by unfold RgV at hr; omega),zqs (fI (by omega)),zqs (fI (by omega)),<- zxP hg]
 ·show zti l (d+1) _ _=_
  rw[zti,if_neg (by omega),List.take_length]
theorem zxS{p:Pg}(h4:p.Losses.length<=1000):ztl p=some p.Losses:=by
 unfold ztl;have key:=zxk (n:=p.Losses.length) (fun d s x=>ztk p d s x) (fun k=>p.Losses.take k) (fin:=some p.Losses) (fun d k hk=>?_) (fun d=>?_) (p.Losses.length+1) 0 (by omega) (by omega)
 ·exact key
 ·have hg:=List.getElem?_eq_getElem hk
  show ztk p (d+1) _ _=_
  rw[ztk,if_pos (by omega),zrS hg,obs,zqs (by rw[List.length_take]; omega),zqs (fI (by omega)),List.take_add_one,hg]; rfl
 ·show ztk p (d+1) _ _=_
  rw[ztk,if_neg (by omega),List.take_length]
theorem zxT{p:Pg}(h1:zr2 p.Losses)(h2:zr2 p.Treaties)(h3:zr2 p.Reports):ztm p=some (zxz p):=by
 unfold ztm zxz;refine zxL.pick (fun h=>?_) fun h=>?_
 ·rw[if_pos rfl,if_pos h]
 ·rw[if_neg (by decide),if_neg h];unfold zxx at h;refine(zxK h1 h2 h3).pick (fun h=>?_) fun h=>?_
  ·rw[if_pos rfl,if_pos h,zxS (by omega),obs,zxR h.ls (by omega),obs]
   split <;> rfl
  ·rw[if_neg (by decide),if_neg h]
theorem zxU{n lo hi:Int}:Ev (zsu n lo hi) (lo<=n/\n<=hi):=Ev.ite fun _=>Ev.dec Iff.rfl
theorem zxV{r:Rg}{a b:Int}:Ev (zsv r a b) (a<=r.Lo/\r.Lo<=r.Hi/\r.Hi<=b):=Ev.ite fun _=>Ev.ite fun _=>Ev.dec Iff.rfl
theorem zxW{t:Ty}{k:Nat}(hk:k<=1000):Ev (zsx t (k:Int)) (zxt t/\-1<=t.Of/\t.Of<=(k:Int) - 1):=by
 unfold zsx;refine(zxU.and (K:=(-1<=t.Of/\t.Of<=(k:Int) - 1)/\(0<=t.Times/\t.Times<=3)/\zgo t) fun _=>Ev.gd (fI (by omega)) (zxU.and fun _=>zxU.and fun _=>?_)).imp ?_
 ·by_cases h0:t.Kind=0
  ·rw[if_pos h0];refine(zxU.and fun _=>Ev.ite fun _=>Ev.ite fun _=>Ev.dec Iff.rfl).imp ?_;unfold zgo; omega
  ·rw[if_neg h0];refine(Ev.ite fun _=>Ev.ite fun _=>zxU.and fun _=>zxU.ret).imp ?_;unfold zgo; omega
 ·unfold zxt zgo; omega
theorem zxX{r:Rg}(h:RgV r 1000):zsw r=some (r.Hi - r.Lo+1):=by
 unfold RgV at h;unfold zsw;rw[zqs (fI (by omega)),zqs (fI (by omega))]
def zxY(l:List Rg):Nat->Int
 | 0=>1
 | k+1=>match l[k]? with
  | some r=>min 2000 (zxY l k * (r.Hi - r.Lo+1))
  | none=>zxY l k
theorem zxZ{l:List Rg}(h:∀r∈l,RgV r 1000)(h4:l.length<=4):∀k,k<=l.length->(1<=zxY l k/\zxY l k<=2000)/\(zxY l k=zxy (l.take k)\/(1500 < zxY l k/\1500 < zxy (l.take k)))
 | 0,_=>⟨by show(1:Int)<=1/\(1:Int)<=2000; omega,.inl rfl⟩
 | k+1,hk=>by
  obtain⟨h1,h2⟩:=zxZ h h4 k (by omega);have hg:=List.getElem?_eq_getElem (show k < l.length by omega);have hr:=h _ (List.getElem_mem (show k < l.length by omega));have hb:=zxQ h h4 (k+1);have hb0:=zxQ h h4 k;rw[zxP hg] at hb ⊢;unfold RgV at hr
  have e:zxY l (k+1)=min 2000 (zxY l k * ((l[k]'(by omega)).Hi - (l[k]'(by omega)).Lo+1)):=by
   show(match l[k]? with | some r=>min 2000 (zxY l k * (r.Hi - r.Lo+1)) | none=>zxY l k)=_
   rw[hg]
  rw[e];generalize hc:(l[k]'(by omega)).Hi - (l[k]'(by omega)).Lo+1=c at hb ⊢;have h5:zxY l k * 1<=zxY l k * c:=Int.mul_le_mul_of_nonneg_left (by omega) (by omega);have h6:zxy (l.take k) * 1<=zxy (l.take k) * c:=Int.mul_le_mul_of_nonneg_left (by omega) (by omega);refine⟨by omega,?_⟩
  rcases h2 with h2 | h2
  ·rw[h2] at h5 ⊢
   by_cases h7:zxy (l.take k) * c<=2000
   ·exact .inl (by omega)
   ·exact .inr (by omega)
  ·exact .inr (by omega)
theorem zx0{p:Pg}(h:∀r∈p.Losses,RgV r 1000)(h4:p.Losses.length<=4):zsz p=some (zxY p.Losses p.Losses.length):=by
 unfold zsz;have key:=zxk (n:=p.Losses.length) (fun d s x=>zsy p d s x) (fun k=>zxY p.Losses k) (fin:=some (zxY p.Losses p.Losses.length)) (fun d k hk=>?_) (fun d=>?_) 1000000 0 (by omega) (by omega)
 ·exact key
 ·have hg:=List.getElem?_eq_getElem hk;have hr:=h _ (List.getElem_mem hk);obtain⟨hb,_⟩:=zxZ h h4 k (by omega)
  have e:zxY p.Losses (k+1)=min 2000 (zxY p.Losses k * ((p.Losses[k]).Hi - (p.Losses[k]).Lo+1)):=by
   show(match p.Losses[k]? with | some r=>min 2000 (zxY p.Losses k * (r.Hi - r.Lo+1)) | none=>zxY p.Losses k)=_
   rw[hg]
  have hrr:=hr;unfold RgV at hrr;have h5:zxY p.Losses k * ((p.Losses[k]).Hi - (p.Losses[k]).Lo+1)<=2000 * 1001:=Int.mul_le_mul (by omega) (by omega) (by omega) (by omega);have h6:0<=zxY p.Losses k * ((p.Losses[k]).Hi - (p.Losses[k]).Lo+1):=Int.mul_nonneg (by omega) (by omega)
  show zsy p (d+1) _ _=_
  rw[zsy,if_pos (by omega),zrS hg,obs,zxX hr,obs,zqs (by omega),zqs (by omega),zqs (fI (by omega)),zqs (fI (by omega)),e]
 ·show zsy p (d+1) _ _=_
  rw[zsy,if_neg (by omega)]
theorem zx1{p:Pg}(h:VP p):zsz p=some (zxy p.Losses):=by
 rw[zx0 h.ls h.l4];have h1:=(zxZ h.ls h.l4 _ (Nat.le_refl _)).2;rw[List.take_length] at h1;have:=h.many
 congr 1
 omega
theorem zx2{p:Pg}(h1:p.Losses.length<=100)(h2:p.Treaties.length<=100)(h3:p.Reports.length<=100):zsC p=some (zxz p):=by
 unfold zsC zxz zxx
 by_cases c1:4 < p.Losses.length
 ·rw[if_pos (by omega),if_pos (.inl c1)]
 rw[if_neg (by omega)]
 by_cases c2:5 < p.Treaties.length
 ·rw[if_pos (by omega),if_pos (.inr (.inl c2))]
 rw[if_neg (by omega)]
 by_cases c3:5 < p.Reports.length
 ·rw[if_pos (by omega),if_pos (.inr (.inr c3))]
 rw[if_neg (by omega),if_neg (show ¬ (4 < p.Losses.length\/5 < p.Treaties.length\/5 < p.Reports.length) by omega)]
 refine zxU.pick (fun c5=>?_) fun c5=>by rw[if_neg (by decide),if_neg fun h=>c5 h.res]
 rw[if_pos rfl]
 have kL:=zr1 (l:=p.Losses) (F:=fun d x=>zsB p d 0 x) (ok:=fun r=>RgV r 1000) (bad:=some 1) (fin:=zsA p 1000000 0 0) (fun d k a hk=>by
  have hkl:=(List.getElem?_eq_some_iff.1 hk).1
  show(RgV a 1000->zsB p (d+1) 0 (k:Int)=_)/\_
  rw[zsB,if_pos (by omega),zrS hk,obs]
  exact Ev.step zxV (by rw[if_pos rfl,zqs (fI (by omega))]) (by rw[if_neg (by decide)])) (fun d=>by show zsB p (d+1) 0 _=_; rw[zsB,if_neg (Int.lt_irrefl _)]) (d:=1000000) (by omega)
 have kT:=zrW (n:=p.Treaties.length) (F:=fun d x=>zsA p d 0 x) (ok:=fun j=>∀t,p.Treaties[j]? = some t->zxt t/\-1<=t.Of/\t.Of<=(j:Int) - 1) (bad:=some 1) (fin:=prFault_L2 p 1000000 0) (fun d k hk=>by
  have hg:=List.getElem?_eq_getElem hk
  show(_->zsA p (d+1) 0 (k:Int)=_)/\(_->zsA p (d+1) 0 (k:Int)=_)
  rw[zsA,if_pos (by omega),zrS hg,obs]
  exact((zxW (t:=p.Treaties[k]) (k:=k) (by omega)).imp ⟨fun h t ht=>by rw[hg] at ht; cases ht; exact h,fun h=>h _ hg⟩).step (by rw[if_pos rfl,zqs (fI (by omega))]) (by rw[if_neg (by decide)])) (fun d=>by show zsA p (d+1) 0 _=_; rw[zsA,if_neg (Int.lt_irrefl _)]) (d:=1000000) (by omega)
 have kR:=zr1 (l:=p.Reports) (F:=fun d x=>prFault_L2 p d x) (ok:=zxv p) (bad:=some 1) (fin:=(zsz p).bind fun r=>if (1500:Int) < r then some 3 else some 0) (fun d k a hk=>by
  have hkl:=(List.getElem?_eq_some_iff.1 hk).1
  show(zxv p a->prFault_L2 p (d+1) (k:Int)=_)/\(¬ zxv p a->prFault_L2 p (d+1) (k:Int)=_)
  rw[prFault_L2,if_pos (by omega),zrS hk,obs,zqs (fI (by omega)),obs];refine⟨fun h=>?_,fun h=>?_⟩
  ·rw[zxU.some_of h.1,obs,if_pos rfl,zxV.some_of h.2,obs,if_pos rfl,zqs (fI (by omega))]
  ·refine zxU.pick (fun q1=>?_) fun q1=>by rw[if_neg (by decide)]
   rw[if_pos rfl]
   refine zxV.pick (fun q2=>absurd ⟨q1,q2⟩ h) fun q2=>by rw[if_neg (by decide)]) (fun d=>by show prFault_L2 p (d+1) _=_; rw[prFault_L2,if_neg (Int.lt_irrefl _)]) (d:=1000000) (by omega)
 by_cases c6:∀r∈p.Losses,RgV r 1000
 ·refine(kL.1 c6).trans ?_
  by_cases c7:∀j,j < p.Treaties.length->∀t,p.Treaties[j]? = some t->zxt t/\-1<=t.Of/\t.Of<=(j:Int) - 1
  ·refine(kT.1 c7).trans ?_
   by_cases c8:∀r∈p.Reports,zxv p r
   ·refine(kR.1 c8).trans ?_;rw[if_pos ⟨c6,c5,fun t ht=>by obtain⟨i,hi⟩:=List.mem_iff_getElem?.1 ht; exact(c7 i (List.getElem?_eq_some_iff.1 hi).1 t hi).1,fun i t ht=>(c7 i (List.getElem?_eq_some_iff.1 ht).1 t ht).2,c8⟩,zx0 c6 (by omega),obs];have h9:=(zxZ c6 (by omega) _ (Nat.le_refl _)).2;rw[List.take_length] at h9
    by_cases h10:1500 < zxy p.Losses
    ·rw[if_pos h10,if_pos (by omega)]
    ·rw[if_neg h10,if_neg (by omega)]
   ·refine(kR.2 c8).trans ?_;rw[if_neg fun h=>c8 h.rs]
  ·refine(kT.2 c7).trans ?_;rw[if_neg fun h:zxw p=>c7 fun j _ t ht=>⟨h.ts t (List.mem_of_getElem? ht),h.of' j t ht⟩]
 ·refine(kL.2 c6).trans ?_;rw[if_neg fun h=>c6 h.ls]
end
end Go.Proofs.Ytkcmdghjgoaggaa

namespace Go.Proofs.Ytkcmdghjgoaggaa
open _root_.Go.Proofs.Try
open Go.Abs
set_option maxRecDepth 100000
noncomputable section
theorem zx3{l:List Int}(h:l ≠ [])(hl:l.length<=1048577):zsH l=some (zr5 l):=by
 unfold zsH
 cases l with
 | nil=>exact absurd rfl h
 | cons x l=>
  rw[if_neg (by rw[List.length_cons]; omega),zrU rfl,obs];refine(zr4 (l:=x::l) (fun s a=>min s a) (fun d s k=>zsG (x::l) d s k) (fun s=>some s) (fun d k s a hk=>?_) (fun d s=>?_) _ 0 x (Nat.zero_le _) (by omega)).trans ?_
  ·have hkl:=(List.getElem?_eq_some_iff.1 hk).1
   show zsG (x::l) (d+1) s (k:Int)=_
   rw[zsG,if_pos (by omega),zrS hk,obs]
   by_cases hc:a < s
   ·rw[if_pos hc,zqs (fI (by omega)),Int.min_eq_right (by omega)]
   ·rw[if_neg hc,zqs (fI (by omega)),Int.min_eq_left (by omega)]
  ·show zsG (x::l) (d+1) s _=_
   rw[zsG,if_neg (Int.lt_irrefl _)]
  ·rw[List.drop_zero]
   show some (l.foldl min (min x x))=_
   rw[Int.min_self]; rfl
theorem zx4{l:List Int}(h:l ≠ [])(hl:l.length<=1048577):zsJ l=some (zr6 l):=by
 unfold zsJ
 cases l with
 | nil=>exact absurd rfl h
 | cons x l=>
  rw[if_neg (by rw[List.length_cons]; omega),zrU rfl,obs];refine(zr4 (l:=x::l) (fun s a=>max s a) (fun d s k=>zsI (x::l) d s k) (fun s=>some s) (fun d k s a hk=>?_) (fun d s=>?_) _ 1 x (by rw[List.length_cons]; omega) (by rw[List.length_cons]; omega)).trans ?_
  ·have hkl:=(List.getElem?_eq_some_iff.1 hk).1
   show zsI (x::l) (d+1) s (k:Int)=_
   rw[zsI,if_pos (by omega),zrS hk,obs,zqs (fI (by omega))]
  ·show zsI (x::l) (d+1) s _=_
   rw[zsI,if_neg (Int.lt_irrefl _)]
  ·rfl
def zx5(t:Ty):Int:=t.Most * (t.Times+1)
def zx6(t:Ty)(a b:Int):Int:=if t.Kind=0 then a * t.Part / 100 else min (min (max 0 (a - t.Above)) t.Most) (zx5 t - b)
theorem zx7{t:Ty}(ht:zgo t):0<=zx5 t/\zx5 t<=4000:=by
 unfold zx5
 rcases ht with ⟨_,_,_,h,_⟩ | ⟨_,_,_,h1,h2⟩
 ·rw[h,Int.zero_mul]; omega
 ·have:=Int.mul_le_mul (a:=t.Most) (b:=t.Times+1) (c:=1000) (d:=4) (by omega) (by omega) (by omega) (by omega);have:=Int.mul_nonneg (a:=t.Most) (b:=t.Times+1) (by omega) (by omega)
  omega
theorem zx8{t:Ty}{a:Int}(hp:1<=t.Part/\t.Part<=100)(ha:0<=a/\a<=100000):(0<=a * t.Part/\a * t.Part<=10000000)/\0<=a * t.Part / 100/\a * t.Part / 100<=a:=by
 have h1:=Int.mul_nonneg (a:=a) (b:=t.Part) (by omega) (by omega);have h2:=Int.mul_le_mul_of_nonneg_left (a:=t.Part) (b:=100) (c:=a) (by omega) (by omega)
 omega
theorem zx9{t:Ty}(ht:zgo t){a b:Int}(ha:0<=a/\a<=100000)(hb:t.Kind=1->b<=zx5 t):0<=zx6 t a b/\zx6 t a b<=a/\(t.Kind=1->b+zx6 t a b<=zx5 t):=by
 unfold zx6
 rcases ht with ⟨h0,hp,_⟩ | ⟨h0,_,h3,h4,h5⟩
 ·have h1:=zx8 hp ha;rw[if_pos h0]
  omega
 ·have hb:=hb h0;rw[if_neg (by omega)]
  omega
theorem zya{t:Ty}(hp:1<=t.Part/\t.Part<=100){a b:Int}(ha:0<=a/\a<=100000):zsK t a b=some (a * t.Part / 100):=by
 have h1:=zx8 hp ha;unfold zsK;rw[zqs (by omega),zqs (by omega),zqs (fI (by omega)),zqs (by omega),zqs (by omega),zqs (fI (by omega))]
theorem zyb{t:Ty}(ht:zgo t)(h1:t.Kind=1){a b:Int}(ha:0<=a/\a<=100000)(hb:-100000<=b/\b<=100000):zsL t a b=some (zx6 t a b):=by
 have hc:=zx7 ht;unfold zgo at ht;unfold zx5 at hc;unfold zsL zx6;rw[zqs (fI (by omega)),zqs (fI (by omega)),zqs (by omega),zqs (by omega),zqs (fI (by omega)),zqs (fI (by omega)),zx3 (by simp) (by simp),obs,if_neg (by omega)]
 rfl
structure DS where
 pays:Nat->Int
 keeps:Nat->Int
 soc:Int
def zyc(t:Ty)(k:Nat)(P:Nat->Int)(s:DS):DS:=
 if t.Of = -1 then ⟨upF s.pays k (zx6 t s.soc (P k)),upF s.keeps k (zx6 t s.soc (P k)),s.soc - zx6 t s.soc (P k)⟩
 else ⟨upF s.pays k (zx6 t (s.keeps t.Of.toNat) (P k)),upF (upF s.keeps t.Of.toNat (s.keeps t.Of.toNat - zx6 t (s.keeps t.Of.toNat) (P k))) k (zx6 t (s.keeps t.Of.toNat) (P k)),s.soc⟩
def dN(ts:List Ty)(P:Nat->Int)(x:Int):Nat->DS
 | 0=>⟨fun _=>0,fun _=>0,x⟩
 | k+1=>match ts[k]? with
  | some t=>zyc t k P (dN ts P x k)
  | none=>dN ts P x k
theorem zyd{ts:List Ty}{P:Nat->Int}{x:Int}{k:Nat}{t:Ty}(h:ts[k]? = some t):dN ts P x (k+1)=zyc t k P (dN ts P x k):=by
 show(match ts[k]? with | some t=>zyc t k P (dN ts P x k) | none=>dN ts P x k)=_
 rw[h]
def zye(ts:List Ty)(P:Nat->Int):Prop:=∀(j:Nat) (t:Ty),ts[j]? = some t->t.Kind=1->P j<=zx5 t
structure zyf (ts:List Ty):Prop where
 k:∀t∈ts,zgo t
 o:zxu ts
theorem VP.tsOk{p:Pg}(h:VP p):zyf p.Treaties:=⟨fun t ht=>(h.ts t ht).1,h.of'⟩
structure DI (ts:List Ty) (P:Nat->Int) (x:Int) (k:Nat) (s:DS):Prop where
 soc:0<=s.soc/\s.soc<=x
 pays:∀j,0<=s.pays j/\s.pays j<=x
 keeps:∀j,0<=s.keeps j/\s.keeps j<=x
 z:∀j,k<=j->s.pays j=0/\s.keeps j=0
 cap:zye ts fun j=>P j+s.pays j
theorem zyg{ts:List Ty}(hts:zyf ts){P:Nat->Int}(hP:zye ts P){x:Int}(hx:0<=x/\x<=100000):∀k,k<=ts.length->DI ts P x k (dN ts P x k)
 | 0,_=>⟨⟨hx.1,Int.le_refl _⟩,fun _=>⟨Int.le_refl _,hx.1⟩,fun _=>⟨Int.le_refl _,hx.1⟩,fun _ _=>⟨rfl,rfl⟩,fun j t ht h1=>by have:=hP j t ht h1; show P j+0<=_; omega⟩
 | k+1,hk=>by
  have ih:=zyg hts hP hx k (by omega);have hg:=List.getElem?_eq_getElem (show k < ts.length by omega);have hkd:=hts.k _ (List.getElem_mem (show k < ts.length by omega));have hof:=hts.o k _ hg;rw[zyd hg];generalize dN ts P x k=s at ih ⊢;generalize ts[k]'(by omega)=t at hg hkd hof;have hcp:t.Kind=1->P k<=zx5 t:=hP k t hg;unfold zyc
  by_cases h1:t.Of = -1
  ·rw[if_pos h1];have hs:=ih.soc;have hb:=zx9 hkd (a:=s.soc) (by omega) hcp;refine⟨by show 0<=s.soc - zx6 t s.soc (P k)/\s.soc - zx6 t s.soc (P k)<=x; omega,fun j=>?_,fun j=>?_,fun j hj=>?_,fun j t' ht' h'=>?_⟩
   ·show 0<=upF s.pays k _ j/\upF s.pays k _ j<=x
    by_cases hjk:j=k
    ·subst hjk; rw[zxp]; omega
    ·rw[zxq _ _ hjk]; exact ih.pays j
   ·show 0<=upF s.keeps k _ j/\upF s.keeps k _ j<=x
    by_cases hjk:j=k
    ·subst hjk; rw[zxp]; omega
    ·rw[zxq _ _ hjk]; exact ih.keeps j
   ·show upF s.pays k _ j=0/\upF s.keeps k _ j=0
    rw[zxq _ _ (by omega),zxq _ _ (by omega)]; exact ih.z j (by omega)
   ·show P j+upF s.pays k _ j<=_
    by_cases hjk:j=k
    ·subst hjk; rw[hg] at ht'; cases ht'; rw[zxp]; exact hb.2.2 h'
    ·rw[zxq _ _ hjk]; exact ih.cap j t' ht' h'
  ·rw[if_neg h1];have hs:=ih.soc;have hk':=ih.keeps t.Of.toNat;have hb:=zx9 hkd (a:=s.keeps t.Of.toNat) (by omega) hcp;refine⟨hs,fun j=>?_,fun j=>?_,fun j hj=>?_,fun j t' ht' h'=>?_⟩
   ·show 0<=upF s.pays k _ j/\upF s.pays k _ j<=x
    by_cases hjk:j=k
    ·subst hjk; rw[zxp]; omega
    ·rw[zxq _ _ hjk]; exact ih.pays j
   ·show 0<=upF (upF s.keeps _ _) k _ j/\upF (upF s.keeps _ _) k _ j<=x
    by_cases hjk:j=k
    ·subst hjk; rw[zxp]; omega
    ·rw[zxq _ _ hjk]
     by_cases hjo:j=t.Of.toNat
     ·subst hjo; rw[zxp]; omega
     ·rw[zxq _ _ hjo]; exact ih.keeps j
   ·show upF s.pays k _ j=0/\upF (upF s.keeps _ _) k _ j=0
    rw[zxq _ _ (by omega),zxq _ _ (by omega),zxq _ _ (by omega)]; exact ih.z j (by omega)
   ·show P j+upF s.pays k _ j<=_
    by_cases hjk:j=k
    ·subst hjk; rw[hg] at ht'; cases ht'; rw[zxp]; exact hb.2.2 h'
    ·rw[zxq _ _ hjk]; exact ih.cap j t' ht' h'
def ocN(s:DS):Oc:={ pays:=mk5 s.pays,keeps:=mk5 s.keeps,society:=s.soc }
def wkD(p:Pg):WkD:={ p:=p,kinds:=zxE,shared:=(),played:=() }
theorem zyh{p:Pg}(h:VP p){P:Nat->Int}(hP:zye p.Treaties P)(hb:∀j,0<=P j/\P j<=100000){x:Int}(hx:0<=x/\x<=1000):ztB (wkD p) { loss:=x,paid:=mk5 P }=some (ocN (dN p.Treaties P x p.Treaties.length)):=by
 have h5:=h.t5;unfold ztB
 show ztA (wkD p) _ (p.Treaties.length+1) _ _ _ _ _ _ _ _ _ _ x 0=_
 have key:=zxk (n:=p.Treaties.length) (fun d (s:DS) y=>ztA (wkD p) { loss:=x,paid:=mk5 P } d (s.pays 0) (s.pays 1) (s.pays 2) (s.pays 3) (s.pays 4) (s.keeps 0) (s.keeps 1) (s.keeps 2) (s.keeps 3) (s.keeps 4) s.soc y) (fun k=>dN p.Treaties P x k) (fin:=some (ocN (dN p.Treaties P x p.Treaties.length))) (fun d k hk=>?_) (fun d=>?_) (p.Treaties.length+1) 0 (by omega) (by omega)
 ·exact key
 ·have hg:=List.getElem?_eq_getElem hk;have hkd:=h.tsOk.k _ (List.getElem_mem hk);have hof:=h.of' k _ hg;have ih:=zyg h.tsOk hP (x:=x) (by omega) k (by omega);rw[zyd hg];generalize dN p.Treaties P x k=s at ih ⊢;rw[ztA,if_pos (show(k:Int) < ((wkD p).p.Treaties.length:Int) by show(k:Int) < (p.Treaties.length:Int); omega),show idx (wkD p).p.Treaties (k:Int)=_ from zrS hg,obs];generalize p.Treaties[k]=t at hg hkd hof;have hPk:idx (l5 P) (k:Int)=some (P k):=zxm (by omega);have hs:=ih.soc;have hbk:=hb k;have hcp:t.Kind=1->P k<=zx5 t:=hP k t hg;have hup:∀(f:Nat->Int) (a:Int) (j:Nat),sti (k:Int) j a (f j)=upF f k a j:=fun f a j=>zxr f k a j;unfold zyc
  by_cases h1:t.Of = -1
  ·have htk:=zx9 hkd (a:=s.soc) (by omega) hcp;rw[if_pos h1,if_pos h1]
   by_cases h0:t.Kind=0
   ·have e0:zx6 t s.soc (P k)=s.soc * t.Part / 100:=if_pos h0;rw[if_pos h0]
    show((idx (l5 P) (k:Int)).bind _)=_
    rw[hPk,obs,show(wkD p).kinds.k0.takes t s.soc (P k)=some (zx6 t s.soc (P k)) from (zya (b:=P k) (by unfold zgo at hkd; omega) (by omega)).trans (by rw[e0]),obs,zqs (fI (by omega)),zqs (by omega),zqs (by omega),zqs (fI (by omega))]
    simp only[hup]
   ·rw[if_neg h0,if_pos (show t.Kind=1 by unfold zgo at hkd; omega)]
    show((idx (l5 P) (k:Int)).bind _)=_
    rw[hPk,obs,show(wkD p).kinds.k1.takes t s.soc (P k)=some (zx6 t s.soc (P k)) from zyb hkd (by unfold zgo at hkd; omega) (by omega) (by omega),obs,zqs (fI (by omega)),zqs (by omega),zqs (by omega),zqs (fI (by omega))]
    simp only[hup]
  ·have ho:0<=t.Of/\t.Of < 5:=by omega
   have hk':=ih.keeps t.Of.toNat;have htk:=zx9 hkd (a:=s.keeps t.Of.toNat) (by omega) hcp;have hOk:idx (l5 s.keeps) t.Of=some (s.keeps t.Of.toNat):=zxn ho.1 ho.2;have huo:∀(f:Nat->Int) (a:Int) (j:Nat),sti t.Of j a (f j)=upF f t.Of.toNat a j:=fun f a j=>zxs f ho.1 a j;rw[if_neg h1,if_neg h1,zqs ho]
   by_cases h0:t.Kind=0
   ·have e0:zx6 t (s.keeps t.Of.toNat) (P k)=s.keeps t.Of.toNat * t.Part / 100:=if_pos h0;rw[if_pos h0]
    show((idx (l5 s.keeps) t.Of).bind _)=_
    rw[hOk,obs]
    show((idx (l5 P) (k:Int)).bind _)=_
    rw[hPk,obs,show(wkD p).kinds.k0.takes t (s.keeps t.Of.toNat) (P k)=some (zx6 t (s.keeps t.Of.toNat) (P k)) from (zya (b:=P k) (by unfold zgo at hkd; omega) (by omega)).trans (by rw[e0]),obs]
    show((idx (l5 s.keeps) t.Of).bind _)=_
    rw[hOk,obs,zqs (fI (by omega)),zqs (by omega),zqs (by omega),zqs (fI (by omega))]
    simp only[huo,hup]
   ·rw[if_neg h0,if_pos (show t.Kind=1 by unfold zgo at hkd; omega)]
    show((idx (l5 s.keeps) t.Of).bind _)=_
    rw[hOk,obs]
    show((idx (l5 P) (k:Int)).bind _)=_
    rw[hPk,obs,show(wkD p).kinds.k1.takes t (s.keeps t.Of.toNat) (P k)=some (zx6 t (s.keeps t.Of.toNat) (P k)) from zyb hkd (by unfold zgo at hkd; omega) (by omega) (by omega),obs]
    show((idx (l5 s.keeps) t.Of).bind _)=_
    rw[hOk,obs,zqs (fI (by omega)),zqs (by omega),zqs (by omega),zqs (fI (by omega))]
    simp only[huo,hup]
 ·rw[ztA,if_neg (show ¬ (p.Treaties.length:Int) < ((wkD p).p.Treaties.length:Int) by show ¬ (p.Treaties.length:Int) < (p.Treaties.length:Int); omega)]; rfl
def zyi(a b:DS):DS:=⟨fun j=>a.pays j+b.pays j,fun j=>a.keeps j+b.keeps j,a.soc+b.soc⟩
def zyj:DS:=⟨fun _=>0,fun _=>0,0⟩
def zyk(ts:List Ty)(s:DS)(x:Int):DS:=zyi s (dN ts s.pays x ts.length)
def zyl(ts:List Ty)(L:List Int):DS:=L.foldl (zyk ts) zyj
structure SI (ts:List Ty) (B:Int) (s:DS):Prop where
 soc:0<=s.soc/\s.soc<=B
 pays:∀j,0<=s.pays j/\s.pays j<=B
 keeps:∀j,0<=s.keeps j/\s.keeps j<=B
 z:∀j,ts.length<=j->s.pays j=0/\s.keeps j=0
 cap:zye ts s.pays
theorem zym{ts:List Ty}(h:zyf ts):zye ts fun _=>0:=fun _ t ht _=>(zx7 (h.k t (List.mem_of_getElem? ht))).1
theorem SI.zero{ts:List Ty}(h:zyf ts):SI ts 0 zyj:=⟨⟨Int.le_refl _,Int.le_refl _⟩,fun _=>⟨Int.le_refl _,Int.le_refl _⟩,fun _=>⟨Int.le_refl _,Int.le_refl _⟩,fun _ _=>⟨rfl,rfl⟩,zym h⟩
theorem SI.step{ts:List Ty}(hts:zyf ts){B:Int}{s:DS}(h:SI ts B s){x:Int}(hx:0<=x/\x<=100000):SI ts (B+x) (zyk ts s x):=by
 have hd:=zyg hts h.cap hx ts.length (Nat.le_refl _);refine⟨?_,fun j=>?_,fun j=>?_,fun j hj=>?_,hd.cap⟩
 ·have:=h.soc; have:=hd.soc; show 0<=s.soc+_/\s.soc+_<=_; omega
 ·have:=h.pays j; have:=hd.pays j; show 0<=s.pays j+_/\s.pays j+_<=_; omega
 ·have:=h.keeps j; have:=hd.keeps j; show 0<=s.keeps j+_/\s.keeps j+_<=_; omega
 ·have:=h.z j hj; have:=hd.z j hj; show s.pays j+_=0/\s.keeps j+_=0; omega
def zyn(L:List Int):Int:=L.foldl (· + ·) 0
theorem zyo(L:List Int):∀a,L.foldl (· + ·) a=a+zyn L:=by
 unfold zyn
 induction L with
 | nil=>intro a; show a=a+0; omega
 | cons x L ih=>intro a; show L.foldl _ (a+x)=a+L.foldl _ (0+x); rw[ih,ih (0+x)]; omega
theorem zyp(x:Int)(L:List Int):zyn (x::L)=x+zyn L:=by
 show L.foldl _ (0+x)=_
 rw[zyo]; omega
theorem zyq{ts:List Ty}(hts:zyf ts):∀{L:List Int},(∀x∈L,0<=x/\x<=100000)->∀{B:Int} {s:DS},SI ts B s->SI ts (B+zyn L) (L.foldl (zyk ts) s)
 | [],_,B,s,h=>by show SI ts (B+0) s; rw[Int.add_zero]; exact h
 | x::L,hL,B,s,h=>by
  rw[zyp,<- Int.add_assoc];exact zyq hts (fun y hy=>hL y (List.mem_cons_of_mem _ hy)) (h.step hts (hL x (List.mem_cons_self ..)))
theorem zyr{ts:List Ty}(hts:zyf ts){L:List Int}(hL:∀x∈L,0<=x/\x<=100000):SI ts (zyn L) (zyl ts L):=by
 have:=zyq hts hL (SI.zero hts)
 rwa [Int.zero_add] at this
theorem zys{L:List Int}(hL:∀x∈L,0<=x/\x<=1000):0<=zyn L/\zyn L<=1000 * L.length:=by
 induction L with
 | nil=>exact⟨Int.le_refl _,Int.le_refl _⟩
 | cons x L ih=>
  have h1:=hL x (List.mem_cons_self ..);have h2:=ih fun y hy=>hL y (List.mem_cons_of_mem _ hy);rw[zyp,List.length_cons]
  omega
theorem zyt{a b:DS}(ha:(∀j,-1000000<=a.pays j/\a.pays j<=1000000)/\(∀j,-1000000<=a.keeps j/\a.keeps j<=1000000)/\-1000000<=a.soc/\a.soc<=1000000)(hb:(∀j,-1000000<=b.pays j/\b.pays j<=1000000)/\(∀j,-1000000<=b.keeps j/\b.keeps j<=1000000)/\-1000000<=b.soc/\b.soc<=1000000):ztw (ocN a) (ocN b)=some (ocN (zyi a b)):=by
 obtain⟨a1,a2,a3⟩:=ha;obtain⟨b1,b2,b3⟩:=hb;unfold ztw
 let st:Nat->DS:=fun k=>⟨fun j=>if j < k then a.pays j+b.pays j else a.pays j,fun j=>if j < k then a.keeps j+b.keeps j else a.keeps j,a.soc⟩
 have key:=zxk (n:=5) (fun d (s:DS) y=>ztv (ocN b) d (s.pays 0) (s.pays 1) (s.pays 2) (s.pays 3) (s.pays 4) (s.keeps 0) (s.keeps 1) (s.keeps 2) (s.keeps 3) (s.keeps 4) s.soc y) st (fin:=some (ocN (zyi a b))) (fun d k hk=>?_) (fun d=>?_) 6 0 (by omega) (by omega)
 ·exact key
 ·have p1:=a1 k; have p2:=b1 k; have p3:=a2 k; have p4:=b2 k;have e1:(st k).pays k=a.pays k:=if_neg (by omega);have e2:(st k).keeps k=a.keeps k:=if_neg (by omega)
  have u1:∀j,sti (k:Int) j (a.pays k+b.pays k) ((st k).pays j)=(st (k+1)).pays j:=fun j=>by
   rw[zxr]
   show(if j=k then _ else (if j < k then a.pays j+b.pays j else a.pays j))=if j < k+1 then a.pays j+b.pays j else a.pays j
   by_cases h:j=k
   ·subst h; rw[if_pos rfl,if_pos (by omega)]
   ·by_cases h2:j < k
    ·rw[if_neg h,if_pos h2,if_pos (by omega)]
    ·rw[if_neg h,if_neg h2,if_neg (by omega)]
  have u2:∀j,sti (k:Int) j (a.keeps k+b.keeps k) ((st k).keeps j)=(st (k+1)).keeps j:=fun j=>by
   rw[zxr]
   show(if j=k then _ else (if j < k then a.keeps j+b.keeps j else a.keeps j))=if j < k+1 then a.keeps j+b.keeps j else a.keeps j
   by_cases h:j=k
   ·subst h; rw[if_pos rfl,if_pos (by omega)]
   ·by_cases h2:j < k
    ·rw[if_neg h,if_pos h2,if_pos (by omega)]
    ·rw[if_neg h,if_neg h2,if_neg (by omega)]
  rw[ztv,if_pos (by omega)]
  show((idx (l5 (st k).pays) (k:Int)).bind _)=_
  rw[zxm hk,obs]
  show((idx (l5 b.pays) (k:Int)).bind _)=_
  rw[zxm hk,obs,e1,zqs (fI (by omega)),zqs (by omega)]
  show((idx (l5 (st k).keeps) (k:Int)).bind _)=_
  rw[zxm hk,obs]
  show((idx (l5 b.keeps) (k:Int)).bind _)=_
  rw[zxm hk,obs,e2,zqs (fI (by omega)),zqs (by omega),zqs (fI (by omega)),u1 0,u1 1,u1 2,u1 3,u1 4,u2 0,u2 1,u2 2,u2 3,u2 4]
 ·rw[ztv,if_neg (by omega)]
  show gd (zl7 .i64 (a.soc+b.soc)) _=_
  rw[zqs (fI (by omega))]; rfl
def zyu(p:Pg)(M:Option (Mt->Option Oc)):Prop:=∃f,M=some f/\∀m o,f m=some o->ztB (wkD p) m=some o
theorem zyu.nil(p:Pg):zyu p (some fun _=>none):=⟨_,rfl,fun _ _ h=>by cases h⟩
def wkP(p:Pg)(M:Option (Mt->Option Oc)):WkP:={ p:=p,kinds:=zxE,shared:=M,played:=() }
open Classical in
theorem zyv{p:Pg}{M:Option (Mt->Option Oc)}(hM:zyu p M){m:Mt}{o:Oc}(hf:MK.fit m)(hd:ztB (wkD p) m=some o):∃M',ztC (wkP p M) m=some (o,M')/\zyu p M':=by
 obtain⟨f,rfl,hf2⟩:=hM;unfold ztC;rw[zqs hf]
 cases hfm:f m with
 | none=>
  refine⟨some fun j=>if j=m then some o else f j,?_,_,rfl,fun j o' h=>?_⟩
  ·rw[zqT (show zqK (wkP p (some f)).shared m=none from hfm),show ztB ({ p:=(wkP p (some f)).p,kinds:=(wkP p (some f)).kinds,shared:=(),played:=() }:WkD) m=some o from hd,obs,zqs hf]
   show(Option.bind (some _) _)=_
   rw[obs]
  ·by_cases hj:j=m
   ·rw[if_pos hj] at h; cases h; rw[hj]; exact hd
   ·rw[if_neg hj] at h; exact hf2 j o' h
 | some o'=>
  have:=hf2 m o' hfm;rw[hd] at this
  cases this
  exact⟨some f,by rw[zqU (show zqK (wkP p (some f)).shared m=some o from hfm)]; rfl,f,rfl,hf2⟩
theorem zyw{p:Pg}(h:VP p){L:List Int}(hL:∀x∈L,0<=x/\x<=1000)(hl:L.length<=4){w:WkP}(hw:w.p=p/\w.kinds=zxE):∀(d k:Nat) (s:DS) (M:Option (Mt->Option Oc)),k<=L.length->L.length - k < d->SI p.Treaties (1000 * k) s->zyu p M ->
  ∃M',ztD w L d (s.pays 0) (s.pays 1) (s.pays 2) (s.pays 3) (s.pays 4) (s.keeps 0) (s.keeps 1) (s.keeps 2) (s.keeps 3) (s.keeps 4) s.soc M (k:Int)=some (ocN ((L.drop k).foldl (zyk p.Treaties) s),M')/\zyu p M'
 | 0,_,_,_,_,hd,_,_=>by omega
 | d+1,k,s,M,hk,hd,hs,hM=>by
  rw[ztD]
  by_cases hkl:k < L.length
  ·have hg:=List.getElem?_eq_getElem hkl;have hx:=hL _ (List.getElem_mem hkl);have hp:=hs.pays;have hkp:=hs.keeps;have hso:=hs.soc
   have hb:∀j,0<=s.pays j/\s.pays j<=100000:=fun j=>by have:=hp j; omega
   have hdv:=zyh h hs.cap hb hx;have hdi:=zyg h.tsOk hs.cap (x:=L[k]) (by omega) p.Treaties.length (Nat.le_refl _);obtain⟨M',q1,q2⟩:=zyv hM (m:={ loss:=L[k],paid:=mk5 s.pays }) ⟨fI (by show _<=L[k]/\L[k] < _; omega),fI (by have:=hb 0; show _<=s.pays 0/\s.pays 0 < _; omega),fI (by have:=hb 1; show _<=s.pays 1/\s.pays 1 < _; omega),fI (by have:=hb 2; show _<=s.pays 2/\s.pays 2 < _; omega),fI (by have:=hb 3; show _<=s.pays 3/\s.pays 3 < _; omega),fI (by have:=hb 4; show _<=s.pays 4/\s.pays 4 < _; omega),trivial⟩ hdv;rw[if_pos (by omega),zrS hg,obs,hw.1,hw.2]
   show ∃M',((ztC (wkP p M) { loss:=L[k],paid:=mk5 s.pays }).bind _)=_/\_
   rw[q1,obs]
   show ∃M',((ztw (ocN s) (ocN (dN p.Treaties s.pays L[k] p.Treaties.length))).bind _)=_/\_
   rw[zyt ⟨fun j=>by have:=hp j; omega,fun j=>by have:=hkp j; omega,by omega⟩ ⟨fun j=>by have:=hdi.pays j; omega,fun j=>by have:=hdi.keeps j; omega,by have:=hdi.soc; omega⟩,obs,zqs (fI (by omega)),show(k:Int)+1=((k+1:Nat):Int) by omega,List.drop_eq_getElem_cons hkl];have hs':=hs.step h.tsOk (x:=L[k]) (by omega);refine zyw h hL hl hw d (k+1) (zyk p.Treaties s L[k]) M' (by omega) (by omega) ⟨?_,fun j=>?_,fun j=>?_,hs'.z,hs'.cap⟩ q2
   ·have:=hs'.soc; omega
   ·have:=hs'.pays j; omega
   ·have:=hs'.keeps j; omega
  ·rw[if_neg (by omega),List.drop_eq_nil_of_le (by omega)];exact⟨M,rfl,hM⟩
theorem zyx{p:Pg}(h:VP p){L:List Int}(hL:∀x∈L,0<=x/\x<=1000)(hl:L.length<=4){M:Option (Mt->Option Oc)}(hM:zyu p M):∃M',ztE (wkP p M) L=some (ocN (zyl p.Treaties L),M')/\zyu p M':=
 zyw h hL hl (w:=wkP p M) ⟨rfl,rfl⟩ (L.length+1) 0 zyj M (Nat.zero_le _) (by omega) (SI.zero h.tsOk) hM
end
end Go.Proofs.Ytkcmdghjgoaggaa

namespace Go.Proofs.Ytkcmdghjgoaggaa
open _root_.Go.Proofs.Try
open Go.Abs
set_option maxRecDepth 100000
noncomputable section
def inL:List Rg->List Int->Prop
 | [],[]=>True
 | r::rs,x::xs=>(r.Lo<=x/\x<=r.Hi)/\inL rs xs
 | _,_=>False
theorem zyy:∀{rs:List Rg} {xs:List Int},inL rs xs->xs.length=rs.length
 | [],[],_=>rfl
 | r::rs,x::xs,h=>by rw[List.length_cons,List.length_cons,zyy h.2]
 | [],x::xs,h=>h.elim
 | r::rs,[],h=>h.elim
theorem zyz:∀{rs:List Rg} {xs:List Int},inL rs xs->∀{i:Nat} {r:Rg} {x:Int},rs[i]? = some r->xs[i]? = some x->r.Lo<=x/\x<=r.Hi
 | [],[],_,_,_,_,h,_=>by cases h
 | r::rs,x::xs,h,0,_,_,h1,h2=>by cases h1; cases h2; exact h.1
 | r::rs,x::xs,h,i+1,_,_,h1,h2=>zyz h.2 (i:=i) h1 h2
 | [],x::xs,h,_,_,_,_,_=>h.elim
 | r::rs,[],h,_,_,_,_,_=>h.elim
theorem zyA:∀{rs:List Rg} {xs:List Int},xs.length=rs.length->(∀(i:Nat) (r:Rg) (x:Int),rs[i]? = some r->xs[i]? = some x->r.Lo<=x/\x<=r.Hi)->inL rs xs
 | [],[],_,_=>trivial
 | r::rs,x::xs,h,h2=>⟨h2 0 r x rfl rfl,zyA (by simpa using h) fun i r x h3 h4=>h2 (i+1) r x h3 h4⟩
 | [],x::xs,h,_=>by simp at h
 | r::rs,[],h,_=>by simp at h
theorem zyB{rs:List Rg}{xs:List Int}(h:inL rs xs)(hr:∀r∈rs,RgV r 1000):∀x∈xs,0<=x/\x<=1000:=fun x hx=>by
 obtain⟨i,hi⟩:=List.mem_iff_getElem?.1 hx;have hil:=(List.getElem?_eq_some_iff.1 hi).1;rw[zyy h] at hil;have hg:=List.getElem?_eq_getElem hil;have h1:=zyz h hg hi;have h2:=hr _ (List.getElem_mem hil);unfold RgV at h2
 omega
theorem zyC:∀{rs:List Rg} {pre D:List Int},D∈chW rs pre↔∃T,D=pre++T/\inL rs T
 | [],pre,D=>by
  show D∈[pre]↔_
  rw[List.mem_singleton]
  constructor
  ·rintro rfl; exact⟨[],by simp,trivial⟩
  ·rintro⟨T,h1,h2⟩
   cases T with
   | nil=>rw[h1,List.append_nil]
   | cons x T=>exact h2.elim
 | r::rs,pre,D=>by
  show D∈zrx (fun n=>chW rs (pre++[r.Lo+(n:Int)])) (szR r).toNat 0↔_
  rw[zvM];have hsz:szR r=r.Hi - r.Lo+1:=rfl
  constructor
  ·rintro⟨j,h1,h2,h3⟩
   obtain⟨T,h4,h5⟩:=zyC.1 h3;exact⟨(r.Lo+(j:Int))::T,by rw[h4]; simp,⟨by omega,h5⟩⟩
  ·rintro⟨T,h1,h2⟩
   cases T with
   | nil=>exact h2.elim
   | cons x T=>
    obtain⟨h3,h4⟩:=h2;refine⟨(x - r.Lo).toNat,Nat.zero_le _,by omega,zyC.2 ⟨T,?_,h4⟩⟩;rw[h1,show r.Lo+(((x - r.Lo).toNat:Nat):Int)=x by omega]; simp
theorem zyD{α:Type}{g:Nat->List α}{c:Nat}(h:∀x,(g x).length=c):∀e n,(zrx g e n).length=e * c
 | 0,_=>by show 0=_; omega
 | e+1,n=>by show(g n++zrx g e (n+1)).length=_; rw[List.length_append,h,zyD h e,Nat.succ_mul]; omega
theorem zyE:∀{rs:List Rg},(∀r∈rs,RgV r 1000)->∀{pre:List Int},((chW rs pre).length:Int)=zxy rs
 | [],_,_=>rfl
 | r::rs,h,pre=>by
  have h1:=h r (List.mem_cons_self ..);have ih:=fun {pre:List Int}=>zyE (rs:=rs) (fun r hr=>h r (List.mem_cons_of_mem _ hr)) (pre:=pre)
  show((zrx (fun n=>chW rs (pre++[r.Lo+(n:Int)])) (szR r).toNat 0).length:Int)=(r.Hi - r.Lo+1) * zxy rs
  have hc:∀x:Nat,((fun n:Nat=>chW rs (pre++[r.Lo+(n:Int)])) x).length=(chW rs []).length:=fun x=>by
   have e1:=ih (pre:=pre++[r.Lo+(x:Int)]);have e2:=ih (pre:=[])
   dsimp only; omega
  rw[zyD hc];have hsz:szR r=r.Hi - r.Lo+1:=rfl;unfold RgV at h1;rw[<- ih (pre:=[]),Int.natCast_mul,hsz,Int.toNat_of_nonneg (by omega)]
def zyF(p:Pg):List (List Int):=chW p.Losses []
theorem zyG{p:Pg}{L:List Int}:L∈zyF p↔inL p.Losses L:=by
 unfold zyF;rw[zyC];exact⟨fun⟨T,h1,h2⟩=>by rw[h1]; exact h2,fun h=>⟨L,rfl,h⟩⟩
theorem zyH{p:Pg}(h:VP p):(zyF p).length<=1500:=by
 have h1:=zyE h.ls (pre:=[]);have h2:=h.many;unfold zyF
 omega
theorem zyI{p:Pg}(h:VP p):ztM p=some (zyF p):=by
 have h4:=h.l4;unfold ztM;rw[zxS (by omega),obs];unfold ztL;rw[zqs ⟨by omega,fun r hr=>by have h1:=h.ls r hr; unfold RgV at h1; unfold okR; omega⟩,obs]; rfl
theorem zyJ{p:Pg}(h:VP p):∃L,inL p.Losses L:=by
 refine⟨p.Losses.map (·.Lo),zyA (by rw[List.length_map]) fun i r x h1 h2=>?_⟩;rw[List.getElem?_map,h1] at h2
 cases h2
 have:=h.ls r (List.mem_of_getElem? h1);unfold RgV at this
 show r.Lo<=r.Lo/\r.Lo<=r.Hi
 omega
def oc(p:Pg)(L:List Int):Oc:=ocN (zyl p.Treaties L)
open Classical in
def grp(p:Pg)(A:List (List Int))(k:P5):List Oc:=(A.map (oc p)).filter fun o=>decide (o.pays=k)
def plM(p:Pg)(A:List (List Int)):Option (P5->Option (List Oc)):=some fun k=>if grp p A k=[] then none else some (grp p A k)
open Classical in
theorem zyK(p:Pg)(A:List (List Int))(k:P5):(zqK (plM p A) k).getD []=grp p A k:=by
 show(if grp p A k=[] then none else some (grp p A k)).getD []=_
 by_cases h:grp p A k=[]
 ·rw[if_pos h,h]; rfl
 ·rw[if_neg h]; rfl
open Classical in
theorem zyL(p:Pg)(A:List (List Int))(L:List Int)(k:P5):grp p (A++[L]) k=if (oc p L).pays=k then grp p A k++[oc p L] else grp p A k:=by
 unfold grp;rw[List.map_append,List.filter_append]
 by_cases h:(oc p L).pays=k
 ·rw[if_pos h,List.map_cons,List.map_nil,List.filter_cons_of_pos (by simp[h])]; rfl
 ·rw[if_neg h,List.map_cons,List.map_nil,List.filter_cons_of_neg (by simp[h]),List.filter_nil,List.append_nil]
open Classical in
theorem zyM(p:Pg)(A:List (List Int))(L:List Int):zqL (plM p A) (oc p L).pays ((zqK (plM p A) (oc p L).pays).getD []++[oc p L])=some (plM p (A++[L])):=by
 rw[zyK]
 show some (some fun j=>if j=(oc p L).pays then _ else _)=some (some _)
 congr 2
 funext j
 rw[zyL]
 by_cases h:j=(oc p L).pays
 ·subst h;rw[if_pos rfl,if_pos rfl,if_neg (by simp)]
 ·rw[if_neg h,if_neg (Ne.symm h)]
def zyN(p:Pg)(A:List (List Int)):Wk:={ p:=p,kinds:=zxE,shared:=(),played:=plM p A }
theorem zyO{f:Nat->Int}(h:∀j,0<=f j/\f j<=100000):MK.fit (mk5 f):=
 ⟨fI (by have:=h 0; show _<=f 0/\f 0 < _; omega),fI (by have:=h 1; show _<=f 1/\f 1 < _; omega),fI (by have:=h 2; show _<=f 2/\f 2 < _; omega),fI (by have:=h 3; show _<=f 3/\f 3 < _; omega),fI (by have:=h 4; show _<=f 4/\f 4 < _; omega),trivial⟩
theorem zyP{p:Pg}(h:VP p){L:List Int}(hL:inL p.Losses L):SI p.Treaties (zyn L) (zyl p.Treaties L)/\0<=zyn L/\zyn L<=4000:=by
 have hb:=zyB hL h.ls;have h1:=zys hb;have h2:=zyy hL;have h4:=h.l4;exact⟨zyr h.tsOk fun x hx=>by have:=hb x hx; omega,by omega,by omega⟩
theorem zyQ{p:Pg}(h:VP p){L:List Int}(hL:inL p.Losses L):MK.fit (oc p L).pays:=by
 obtain⟨h1,h2,h3⟩:=zyP h hL
 exact zyO fun j=>by have:=h1.pays j; omega
theorem zyR{p:Pg}(h:VP p):∀(q A:List (List Int)) (M:Option (Mt->Option Oc)),(∀L∈q,inL p.Losses L)->A.length+q.length<=1500->zyu p M->ztO p zxE q M (plM p A)=some (zyN p (A++q))
 | [],A,M,_,_,_=>by rw[ztO,List.append_nil]; rfl
 | L::q,A,M,hq,hl,hM=>by
  have hL:=hq L (List.mem_cons_self ..);have h4:=h.l4;obtain⟨M',q1,q2⟩:=zyx h (zyB hL h.ls) (by rw[zyy hL]; omega) hM;rw[ztO]
  show((ztE (wkP p M) L).bind _)=_
  rw[q1,obs]
  show gd (MK.fit (oc p L).pays) _=_
  rw[zqs (zyQ h hL)]
  show gd (((zqK (plM p A) (oc p L).pays).getD []).length < 1048576) ((zqL (plM p A) (oc p L).pays ((zqK (plM p A) (oc p L).pays).getD []++[oc p L])).bind _)=_
  rw[zyM,obs,zqs ?_]
  ·show ztO p zxE q M' (plM p (A++[L]))=_
   rw[zyR h q (A++[L]) M' (fun L hL=>hq L (List.mem_cons_of_mem _ hL)) (by rw[List.length_append]; simp only[List.length_cons,List.length_nil] at hl ⊢; omega) q2,List.append_assoc]; rfl
  ·rw[zyK];have:(grp p A (oc p L).pays).length<=(A.map (oc p)).length:=List.length_filter_le _ _;rw[List.length_map] at this
   simp only[List.length_cons] at hl
   omega
theorem zyS(p:Pg):plM p []=some fun _=>none:=rfl
theorem zyT{p:Pg}(h:VP p):ztP p=some (zyN p (zyF p)):=by
 unfold ztP;rw[zxF,obs,zyI h,obs];have:=zyR h (zyF p) [] _ (fun L hL=>zyG.1 hL) (by have:=zyH h; simp only[List.length_nil]; omega) (zyu.nil p);rw[zyS,List.nil_append] at this;exact this
def agN(P:Nat->Int)(rs:List Rpt):Prop:=∀r∈rs,r.Paid.Lo<=P r.Treaty.toNat/\P r.Treaty.toNat<=r.Paid.Hi
def zyU(rs:List Rpt):Prop:=∀r∈rs,0<=r.Treaty/\r.Treaty < 5
theorem VP.rsOk{p:Pg}(h:VP p):zyU p.Reports:=fun r hr=>by have:=(h.rs r hr).1; have:=h.t5; omega
theorem zyV{P:Nat->Int}{rs:List Rpt}(hr:zyU rs)(hs:zr2 rs):Ev (ztz (mk5 P) rs) (agN P rs):=
 (show Ev (zs8 rs fun a=>zty a (mk5 P)) (agN P rs) from Ev.each (l:=rs) (p:=fun a=>zty a (mk5 P)) (q:=fun r=>r.Paid.Lo<=P r.Treaty.toNat/\P r.Treaty.toNat<=r.Paid.Hi) (fun r hm=>by
  show Ev ((idx (l5 P) r.Treaty).bind _) _
  rw[zxn (hr r hm).1 (hr r hm).2,obs]
  exact zxB.ret) hs.lt gQ).ret
open Classical in
theorem zyW{p:Pg}(h:VP p){A:List (List Int)}(hA:∀L∈A,inL p.Losses L)(ks:List P5):zrm (plM p A) ks↔ks.Nodup/\∀k,k∈ks↔∃L∈A,(oc p L).pays=k:=by
 have hm:∀k,(MK.fit k/\zqK (plM p A) k ≠ none)↔∃L∈A,(oc p L).pays=k:=fun k=>by
  show(MK.fit k/\(if grp p A k=[] then none else some (grp p A k)) ≠ none)↔_
  constructor
  ·rintro⟨_,h2⟩
   by_cases hg:grp p A k=[]
   ·rw[if_pos hg] at h2; exact absurd rfl h2
   ·obtain⟨o,ho⟩:=List.exists_mem_of_ne_nil _ hg;obtain⟨h3,h4⟩:=List.mem_filter.1 ho;obtain⟨L,h5,rfl⟩:=List.mem_map.1 h3;exact⟨L,h5,of_decide_eq_true h4⟩
  ·rintro⟨L,h1,rfl⟩
   refine⟨zyQ h (hA L h1),?_⟩;have hg:oc p L∈grp p A (oc p L).pays:=List.mem_filter.2 ⟨List.mem_map.2 ⟨L,h1,rfl⟩,decide_eq_true rfl⟩;rw[if_neg fun he=>by rw[he] at hg; cases hg];exact Option.some_ne_none _
 exact and_congr_right fun _=>forall_congr' fun k=>by rw[hm]
theorem zyX{α:Type}:∀L:List α,∃ks:List α,ks.Nodup/\∀k,k∈ks↔k∈L
 | []=>⟨[],List.nodup_nil,fun _=>Iff.rfl⟩
 | a::L=>by
  obtain⟨ks,h1,h2⟩:=zyX L
  by_cases h:a∈ks
  ·refine⟨ks,h1,fun k=>?_⟩;rw[h2,List.mem_cons];exact⟨.inr,fun hk=>hk.elim (fun he=>by rw[he]; exact(h2 a).1 h) id⟩
  ·exact⟨a::ks,List.nodup_cons.2 ⟨h,h1⟩,fun k=>by rw[List.mem_cons,List.mem_cons,h2]⟩
theorem zyY{p:Pg}(h:VP p){A:List (List Int)}(hA:∀L∈A,inL p.Losses L):∃ks,zrm (plM p A) ks:=by
 obtain⟨ks,h1,h2⟩:=zyX (A.map fun L=>(oc p L).pays);exact⟨ks,(zyW h hA ks).2 ⟨h1,fun k=>(h2 k).trans List.mem_map⟩⟩
def agK(k:P5)(rs:List Rpt):Prop:=∃P,k=mk5 P/\agN P rs
theorem zyZ{P:Nat->Int}{rs:List Rpt}(hr:zyU rs):agK (mk5 P) rs↔agN P rs:=by
 refine⟨fun⟨P',h1,h2⟩ r hm=>?_,fun h=>⟨P,rfl,h⟩⟩;have:=hr r hm;have e:=zxo h1 (k:=r.Treaty.toNat) (by omega);rw[e]; exact h2 r hm
theorem zy0(k:P5):∃f,k=mk5 f:=⟨fun j=>match j with | 0=>k.p0 | 1=>k.p1 | 2=>k.p2 | 3=>k.p3 | _=>k.p4,rfl⟩
theorem zy1{k:P5}{rs:List Rpt}(hr:zyU rs)(hs:zr2 rs):Ev (ztz k rs) (agK k rs):=by
 obtain⟨f,rfl⟩:=zy0 k;exact(zyV hr hs).imp (zyZ hr).symm
theorem zy2{w:Wk}{rs:List Rpt}(hr:zyU rs)(hs:zr2 rs):∀(d:Nat) (rem:List P5),rem.length < d->(∀k∈rem,zqK w.played k ≠ none)->Ev (pcanHold_L0 w rs d rem) (∃k∈rem,agK k rs)
 | 0,_,h,_=>by omega
 | d+1,rem,h,hm=>by
  by_cases hex:∃k∈rem,agK k rs
  ·refine⟨true,?_,⟨fun _=>hex,fun _=>rfl⟩⟩;unfold pcanHold_L0
   refine zrt (fun l1 a l2 hrr=>?_) fun hrr=>by subst hrr; obtain⟨k,hk,_⟩:=hex; cases hk
   subst hrr;obtain⟨v,hv⟩:=Option.ne_none_iff_exists'.1 (hm a (by simp));rw[hv,obs];refine(zy1 hr hs).pick (fun ha=>by rw[if_pos rfl]) fun ha=>?_;rw[if_neg (by decide)];refine(zy2 hr hs d (l1++l2) (by simp only[List.length_append,List.length_cons] at h ⊢; omega) fun k hk=>hm k ?_).some_of ?_
   ·rcases List.mem_append.1 hk with h | h
    ·exact List.mem_append_left _ h
    ·exact List.mem_append_right _ (List.mem_cons_of_mem _ h)
   ·obtain⟨k,hk,h2⟩:=hex;refine⟨k,?_,h2⟩
    rcases List.mem_append.1 hk with h | h
    ·exact List.mem_append_left _ h
    ·rcases List.mem_cons.1 h with h | h
     ·exact absurd (h ▸ h2) ha
     ·exact List.mem_append_right _ h
  ·refine⟨false,?_,⟨fun h=>(by cases h),fun h=>absurd h hex⟩⟩;unfold pcanHold_L0;refine zrt (fun l1 a l2 hrr=>?_) fun hrr=>rfl;subst hrr;obtain⟨v,hv⟩:=Option.ne_none_iff_exists'.1 (hm a (by simp));rw[hv,obs,(zy1 hr hs).some_not fun ha=>hex ⟨a,by simp,ha⟩,obs,if_neg (by decide)];refine(zy2 hr hs d (l1++l2) (by simp only[List.length_append,List.length_cons] at h ⊢; omega) fun k hk=>hm k ?_).some_not ?_
   ·rcases List.mem_append.1 hk with h | h
    ·exact List.mem_append_left _ h
    ·exact List.mem_append_right _ (List.mem_cons_of_mem _ h)
   ·rintro⟨k,hk,h2⟩
    refine hex ⟨k,?_,h2⟩
    rcases List.mem_append.1 hk with h | h
    ·exact List.mem_append_left _ h
    ·exact List.mem_append_right _ (List.mem_cons_of_mem _ h)
def zy3(p:Pg)(rs:List Rpt):Prop:=∃L,inL p.Losses L/\agN (zyl p.Treaties L).pays rs
theorem zy4{p:Pg}(h:VP p){rs:List Rpt}(hr:zyU rs)(hs:zr2 rs):Ev (ztQ (zyN p (zyF p)) rs) (zy3 p rs):=by
 have hA:∀L∈zyF p,inL p.Losses L:=fun L hL=>zyG.1 hL;obtain⟨ks0,h0⟩:=zyY h hA
 have key:∀ks,zrm (plM p (zyF p)) ks->Ev (pcanHold_L0 (zyN p (zyF p)) rs (ks.length+1) ks) (zy3 p rs):=fun ks hk=>by
  have h2:=((zyW h hA ks).1 hk).2;refine(zy2 hr hs _ ks (by omega) fun k hkk=>((hk.2 k).1 hkk).2).imp ⟨?_,?_⟩
  ·rintro⟨k,hk1,hk2⟩
   obtain⟨L,hL,rfl⟩:=(h2 k).1 hk1;exact⟨L,hA L hL,(zyZ hr).1 hk2⟩
  ·rintro⟨L,hL,h3⟩
   exact⟨_,(h2 _).2 ⟨L,zyG.2 hL,rfl⟩,(zyZ hr).2 h3⟩
 unfold ztQ
 by_cases hc:zy3 p rs
 ·exact⟨true,zrp h0 fun ks hk=>(key ks hk).some_of hc,⟨fun _=>hc,fun _=>rfl⟩⟩
 ·exact⟨false,zrp h0 fun ks hk=>(key ks hk).some_not hc,⟨fun h=>(by cases h),fun h=>absurd h hc⟩⟩
end
end Go.Proofs.Ytkcmdghjgoaggaa

namespace Go.Proofs.Ytkcmdghjgoaggaa
open _root_.Go.Proofs.Try
open Go.Abs
set_option maxRecDepth 100000
noncomputable section
def zy5(S:Int->Prop)(x:Int):Prop:=S x/\∀y,S y->x<=y
def zy6(S:Int->Prop)(x:Int):Prop:=S x/\∀y,S y->y<=x
theorem zy7{S:Int->Prop}{x y:Int}(h:zy5 S x)(h':zy5 S y):x=y:=Int.le_antisymm (h.2 _ h'.1) (h'.2 _ h.1)
theorem zy8{S:Int->Prop}{x y:Int}(h:zy6 S x)(h':zy6 S y):x=y:=Int.le_antisymm (h'.2 _ h.1) (h.2 _ h'.1)
theorem zy9{number:Oc->Option Int}{g:Oc->Int}{ws:List Oc}{y:List P5}{K:List Int->List P5->Option Rg}(hg:∀o∈ws,number o=some (g o)){acc:List Int}(hl:acc.length+ws.length<=1048576):ztR number ws y K (ws.length+1) acc 0=K (acc++ws.map g) y:=by
 have key:=zxk (n:=ws.length) (fun d (s:List Int) x=>ztR number ws y K d s x) (fun k=>acc++(ws.take k).map g) (fin:=K (acc++ws.map g) y) (fun d k hk=>?_) (fun d=>?_) (ws.length+1) 0 (by omega) (by omega)
 ·rw[List.take_zero,List.map_nil,List.append_nil] at key; exact key
 ·have hgt:=List.getElem?_eq_getElem hk;rw[ztR,if_pos (by omega),zrS hgt,obs,hg _ (List.getElem_mem hk),obs,zqs (by rw[List.length_append,List.length_map,List.length_take]; omega),zqs (fI (by omega)),List.take_add_one,hgt,List.map_append,<- List.append_assoc]; rfl
 ·rw[ztR,if_neg (by omega),List.take_length]
def tot(p:Pg)(A:List (List Int))(ks:List P5):Nat:=(ks.map fun k=>(grp p A k).length).sum
def zza(p:Pg)(A:List (List Int))(rs:List Rpt)(g:Oc->Int)(ks:List P5)(y:Int):Prop:=∃k∈ks,agK k rs/\∃o∈grp p A k,g o=y
theorem zzb{p:Pg}{A:List (List Int)}{w:Wk}{number:Oc->Option Int}{g:Oc->Int}{lo hi:Int}(hr:zyU w.p.Reports)(hs:zr2 w.p.Reports):∀(d:Nat) (rem:List P5) (acc:List Int),rem.length < d->acc.length+tot p A rem<=1048576->(∀k∈rem,zqK w.played k=some (grp p A k)/\∀o∈grp p A k,number o=some (g o)) ->
  zy5 (fun y=>y∈acc\/zza p A w.p.Reports g rem y) lo->zy6 (fun y=>y∈acc\/zza p A w.p.Reports g rem y) hi->pboundsW_L0 w number d acc rem=some { Lo:=lo,Hi:=hi }
 | 0,_,_,h,_,_,_,_=>by omega
 | d+1,rem,acc,h,hacc,hm,h1,h2=>by
  unfold pboundsW_L0;refine zrt (fun l1 a l2 hrr=>?_) fun hrr=>?_
  ·subst hrr
   have hsub:∀x,x∈l1++l2->x∈l1++a::l2:=fun x hx=>by
    rcases List.mem_append.1 hx with h | h
    ·exact List.mem_append_left _ h
    ·exact List.mem_append_right _ (List.mem_cons_of_mem _ h)
   have hspl:∀x,x∈l1++a::l2↔x=a\/x∈l1++l2:=fun x=>by simp only[List.mem_append,List.mem_cons]; constructor <;> (intro h; rcases h with h | h | h <;> simp[h])
   obtain⟨k1,k2⟩:=hm a (by simp)
   have hlen:(l1++l2).length+1=(l1++a::l2).length:=by simp only[List.length_append,List.length_cons]; omega
   have htot:tot p A (l1++a::l2)=(grp p A a).length+tot p A (l1++l2):=by unfold tot; simp only[List.map_append,List.map_cons,List.sum_append,List.sum_cons]; omega
   rw[k1,obs]
   by_cases ha:agK a w.p.Reports
   ·rw[(zy1 hr hs).some_of ha,obs,if_pos rfl,zy9 k2 (by omega)]
    have hiff:(fun y=>y∈acc++(grp p A a).map g\/zza p A w.p.Reports g (l1++l2) y)=fun y=>y∈acc\/zza p A w.p.Reports g (l1++a::l2) y:=funext fun y=>propext ⟨fun hy=>by
     rcases hy with hy | ⟨x,hx,hx2⟩
     ·rcases List.mem_append.1 hy with hy | hy
      ·exact .inl hy
      ·obtain⟨o,ho,hoy⟩:=List.mem_map.1 hy;exact .inr ⟨a,by simp,ha,o,ho,hoy⟩
     ·exact .inr ⟨x,hsub x hx,hx2⟩,fun hy=>by
     rcases hy with hy | ⟨x,hx,hx2,o,ho,hoy⟩
     ·exact .inl (List.mem_append_left _ hy)
     ·rcases (hspl x).1 hx with rfl | hx
      ·exact .inl (List.mem_append_right _ (List.mem_map.2 ⟨o,ho,hoy⟩))
      ·exact .inr ⟨x,hx,hx2,o,ho,hoy⟩⟩
    exact zzb hr hs d (l1++l2) _ (by omega) (by rw[List.length_append,List.length_map]; omega) (fun x hx=>hm x (hsub x hx)) (by rw[hiff]; exact h1) (by rw[hiff]; exact h2)
   ·rw[(zy1 hr hs).some_not ha,obs,if_neg (by decide)]
    have hiff:(fun y=>y∈acc\/zza p A w.p.Reports g (l1++l2) y)=fun y=>y∈acc\/zza p A w.p.Reports g (l1++a::l2) y:=funext fun y=>propext ⟨fun hy=>hy.imp id fun⟨x,hx,hx2⟩=>⟨x,hsub x hx,hx2⟩,fun hy=>by
     rcases hy with hy | ⟨x,hx,hx2,hx3⟩
     ·exact .inl hy
     ·rcases (hspl x).1 hx with rfl | hx
      ·exact absurd hx2 ha
      ·exact .inr ⟨x,hx,hx2,hx3⟩⟩
    exact zzb hr hs d (l1++l2) acc (by omega) (by omega) (fun x hx=>hm x (hsub x hx)) (by rw[hiff]; exact h1) (by rw[hiff]; exact h2)
  ·subst hrr;have hno:∀y,(y∈acc\/zza p A w.p.Reports g [] y)↔y∈acc:=fun y=>⟨fun h=>h.elim id (fun⟨x,hx,_⟩=>(by cases hx)),.inl⟩
   have hne:acc ≠ []:=fun he=>by have:=(hno _).1 h1.1; rw[he] at this; cases this
   have m1:=zr9 hne;have m2:=zsa hne;have e1:zr5 acc=lo:=zy7 ⟨(hno _).2 m1.1,fun y hy=>m1.2 y ((hno y).1 hy)⟩ h1;have e2:zr6 acc=hi:=zy8 ⟨(hno _).2 m2.1,fun y hy=>m2.2 y ((hno y).1 hy)⟩ h2;rw[zx3 hne (by omega),obs,zx4 hne (by omega),obs,e1,e2]
open Classical in
theorem zzc{p:Pg}{A:List (List Int)}{ks:List P5}(h:ks.Nodup):tot p A ks<=A.length:=by
 have key:∀(ks:List P5) (B:List Oc),ks.Nodup->(ks.map fun k=>(B.filter fun o=>decide (o.pays=k)).length).sum<=B.length:=by
  intro ks
  induction ks with
  | nil=>intro B _; exact Nat.zero_le _
  | cons k ks ih=>
   intro B hn;obtain⟨h1,h2⟩:=List.nodup_cons.1 hn
   have e1:∀k'∈ks,(B.filter fun o=>decide (o.pays=k')).length=((B.filter fun o=>!decide (o.pays=k)).filter fun o=>decide (o.pays=k')).length:=fun k' hk'=>by
    rw[List.filter_filter]
    congr 1
    refine List.filter_congr fun o _=>?_
    by_cases ho:o.pays=k'
    ·have:¬ o.pays=k:=fun h3=>h1 (h3 ▸ ho ▸ hk')
     simp[ho]
     intro h3; exact h1 (h3 ▸ hk')
    ·simp[ho]
   have e2:(ks.map fun k'=>(B.filter fun o=>decide (o.pays=k')).length)=ks.map fun k'=>((B.filter fun o=>!decide (o.pays=k)).filter fun o=>decide (o.pays=k')).length:=List.map_congr_left e1
   have e3:(B.filter fun o=>decide (o.pays=k)).length+(B.filter fun o=>!decide (o.pays=k)).length=B.length:=by
    clear e1 e2 ih
    induction B with
    | nil=>rfl
    | cons o B ihB=>
     by_cases ho:o.pays=k
     ·rw[List.filter_cons_of_pos (by simp[ho]),List.filter_cons_of_neg (by simp[ho])]; simp only[List.length_cons]; omega
     ·rw[List.filter_cons_of_neg (by simp[ho]),List.filter_cons_of_pos (by simp[ho])]; simp only[List.length_cons]; omega
   rw[List.map_cons,List.sum_cons,e2];have:=ih (B.filter fun o=>!decide (o.pays=k)) h2
   omega
 have:=key ks (A.map (oc p)) h;rw[List.length_map] at this;exact this
def IsB(S:List Int->Prop)(g:List Int->Int)(r:Rg):Prop:=(∃L,S L/\g L=r.Lo)/\(∃L,S L/\g L=r.Hi)/\∀L,S L->r.Lo<=g L/\g L<=r.Hi
theorem IsB.uniq{S:List Int->Prop}{g:List Int->Int}{r r':Rg}(h:IsB S g r)(h':IsB S g r'):r=r':=by
 obtain⟨⟨a,a1,a2⟩,⟨b,b1,b2⟩,c⟩:=h;obtain⟨⟨a',a1',a2'⟩,⟨b',b1',b2'⟩,c'⟩:=h';have q1:=c a' a1'; have q2:=c b' b1'; have q3:=c' a a1; have q4:=c' b b1
 cases r; cases r'
 simp only at *
 congr 1 <;> omega
theorem IsB.congr{S S':List Int->Prop}{g g':List Int->Int}{r:Rg}(h:IsB S g r)(hS:∀L,S L↔S' L)(hg:∀L,S' L->g L=g' L):IsB S' g' r:=by
 obtain⟨⟨a,a1,a2⟩,⟨b,b1,b2⟩,c⟩:=h;exact⟨⟨a,(hS a).1 a1,by rw[<- hg a ((hS a).1 a1)]; exact a2⟩,⟨b,(hS b).1 b1,by rw[<- hg b ((hS b).1 b1)]; exact b2⟩,fun L hL=>by rw[<- hg L hL]; exact c L ((hS L).2 hL)⟩
def TrS(p:Pg)(rs:List Rpt)(L:List Int):Prop:=inL p.Losses L/\agN (zyl p.Treaties L).pays rs
open Classical in
theorem zzd{p:Pg}(h:VP p){number:Oc->Option Int}{g:Oc->Int}(hg:∀L,inL p.Losses L->number (oc p L)=some (g (oc p L)))(hc:zy3 p p.Reports):∃r,ztS (zyN p (zyF p)) number=some r/\IsB (TrS p p.Reports) (fun L=>g (oc p L)) r:=by
 have hA:∀L∈zyF p,inL p.Losses L:=fun L hL=>zyG.1 hL;have h5:=h.r5;have hs:zr2 p.Reports:=zr3 h5 (by omega);obtain⟨ks0,h0⟩:=zyY h hA
 have hgrp:∀{k o},o∈grp p (zyF p) k->∃L,inL p.Losses L/\oc p L=o/\(oc p L).pays=k:=fun {k o} ho=>by
  obtain⟨h3,h4⟩:=List.mem_filter.1 ho;obtain⟨L,h5,rfl⟩:=List.mem_map.1 h3;exact⟨L,hA L h5,rfl,of_decide_eq_true h4⟩
 have hin:∀{L},inL p.Losses L->oc p L∈grp p (zyF p) (oc p L).pays:=fun {L} hL=>List.mem_filter.2 ⟨List.mem_map.2 ⟨L,zyG.2 hL,rfl⟩,decide_eq_true rfl⟩
 have hans:∀ks,zrm (plM p (zyF p)) ks->∀y,(y∈([]:List Int)\/zza p (zyF p) p.Reports g ks y)↔∃L,TrS p p.Reports L/\g (oc p L)=y:=fun ks hk y=>by
  have h2:=((zyW h hA ks).1 hk).2
  constructor
  ·rintro (h3 | ⟨k,hk1,hk2,o,ho,rfl⟩)
   ·cases h3
   ·obtain⟨L,hL,rfl,hk3⟩:=hgrp ho;subst hk3;exact⟨L,⟨hL,(zyZ h.rsOk).1 hk2⟩,rfl⟩
  ·rintro⟨L,⟨hL,ha⟩,rfl⟩
   exact .inr ⟨_,(h2 _).2 ⟨L,zyG.2 hL,rfl⟩,(zyZ h.rsOk).2 ha,_,hin hL,rfl⟩
 -- the zj2 and the zj3 one
 obtain⟨vs,hvs⟩:∃vs:List Int,∀y,y∈vs↔∃L,TrS p p.Reports L/\g (oc p L)=y:=by
  classical
  refine⟨((zyF p).filter fun L=>decide (agN (zyl p.Treaties L).pays p.Reports)).map fun L=>g (oc p L),fun y=>?_⟩;rw[List.mem_map]
  constructor
  ·rintro⟨L,hL,rfl⟩
   obtain⟨h3,h4⟩:=List.mem_filter.1 hL;exact⟨L,⟨hA L h3,of_decide_eq_true h4⟩,rfl⟩
  ·rintro⟨L,⟨h3,h4⟩,rfl⟩
   exact⟨L,List.mem_filter.2 ⟨zyG.2 h3,decide_eq_true h4⟩,rfl⟩
 have hne:vs ≠ []:=fun he=>by
  obtain⟨L,hL⟩:=hc;have:=(hvs _).2 ⟨L,hL,rfl⟩
  rw[he] at this; cases this
 have m1:=zr9 hne;have m2:=zsa hne;refine⟨{ Lo:=zr5 vs,Hi:=zr6 vs },?_,(hvs _).1 m1.1,(hvs _).1 m2.1,fun L hL=>⟨m1.2 _ ((hvs _).2 ⟨L,hL,rfl⟩),m2.2 _ ((hvs _).2 ⟨L,hL,rfl⟩)⟩⟩;unfold ztS;refine zrp h0 fun ks hk=>?_;have htl:=zzc (p:=p) (A:=zyF p) hk.1;have hlen:=zyH h;refine zzb (p:=p) (A:=zyF p) (w:=zyN p (zyF p)) (g:=g) h.rsOk hs _ ks [] (by omega) (by simp only[List.length_nil]; omega) (fun k hkk=>⟨?_,fun o ho=>?_⟩) ⟨(hans ks hk _).2 ((hvs _).1 m1.1),fun y hy=>m1.2 y ((hvs _).2 ((hans ks hk _).1 hy))⟩ ⟨(hans ks hk _).2 ((hvs _).1 m2.1),fun y hy=>m2.2 y ((hvs _).2 ((hans ks hk _).1 hy))⟩
 ·have h3:=((hk.2 k).1 hkk).2;have h4:(if grp p (zyF p) k=[] then none else some (grp p (zyF p) k)) ≠ none:=h3
  show(if grp p (zyF p) k=[] then none else some (grp p (zyF p) k))=_
  by_cases h5:grp p (zyF p) k=[]
  ·rw[if_pos h5] at h4; exact absurd rfl h4
  ·rw[if_neg h5]
 ·obtain⟨L,hL,rfl,_⟩:=hgrp ho;exact hg L hL
theorem zze{p:Pg}(h:VP p):zr2 p.Losses/\zr2 p.Treaties/\zr2 p.Reports:=⟨zr3 h.l4 (by omega),zr3 h.t5 (by omega),zr3 h.r5 (by omega)⟩
theorem zzf{p:Pg}(h:VP p):ztm p=some 0:=by
 obtain⟨h1,h2,h3⟩:=zze h;rw[zxT h1 h2 h3,zxA.2 h]
theorem zzg{p:Pg}{L:List Int}(h:VP p):Ev (zto p L) (inL p.Losses L):=by
 have h4:=h.l4;unfold zto
 by_cases hl:(L.length:Int)=p.Losses.length
 ·rw[if_pos hl];refine(Ev.loop (n:=p.Losses.length) (F:=fun d x=>ztn p L d x) (ok:=fun j=>∀r x,p.Losses[j]? = some r->L[j]? = some x->r.Lo<=x/\x<=r.Hi) (fin:=some true) (P:=True) (fun d k hk=>?_) (fun d=>?_) (by omega) (fun _=>Ev.tt trivial)).imp ?_
  ·have hg:=List.getElem?_eq_getElem hk;have hg2:=List.getElem?_eq_getElem (show k < L.length by omega)
   show(_->ztn p L (d+1) (k:Int)=_)/\(_->ztn p L (d+1) (k:Int)=_)
   rw[ztn,if_pos (by omega),zrS hg,obs,zrS hg2,obs];refine(zxB.imp ⟨fun h r x h1 h2=>?_,fun h=>h _ _ hg hg2⟩).step (by rw[if_pos rfl,zqs (fI (by omega))]) (by rw[if_neg (by decide)])
   rw[hg] at h1; rw[hg2] at h2; cases h1; cases h2; exact h
  ·show ztn p L (d+1) _=_
   rw[ztn,if_neg (Int.lt_irrefl _)]
  ·exact⟨fun h=>zyA (by omega) fun i r x h1 h2=>h.1 i (List.getElem?_eq_some_iff.1 h1).1 r x h1 h2,fun h=>⟨fun j _ r x h1 h2=>zyz h h1 h2,trivial⟩⟩
 ·rw[if_neg hl]; exact Ev.ff fun h=>hl (by rw[zyy h])
def lN(n:Nat)(f:Nat->Int):List Int:=(l5 f).take n
theorem zzh{n:Nat}(h:n<=5)(f:Nat->Int):(lN n f).length=n:=by unfold lN; rw[List.length_take]; show min n 5=n; omega
theorem zzi{p:Pg}(h:VP p){L:List Int}(hL:inL p.Losses L):ztN p L=some (lN p.Treaties.length (zyl p.Treaties L).pays,(zyl p.Treaties L).soc,0):=by
 have h4:=h.l4;have h5:=h.t5;obtain⟨M',q1,_⟩:=zyx h (zyB hL h.ls) (by rw[zyy hL]; omega) (zyu.nil p);unfold ztN;rw[zzf h,obs,if_pos rfl,(zzg h).some_of hL,obs,if_pos rfl,zxF,obs]
 show((ztE (wkP p _) L).bind _)=_
 rw[q1,obs,zqs (by omega),Int.toNat_natCast,show Int.toNat (0:Int)=0 from rfl,List.drop_zero]
 show((ztK (lN p.Treaties.length (zyl p.Treaties L).pays)).bind _)=_
 unfold ztK;rw[zqs (by rw[zzh h5]; simp only[List.length_nil]; omega)]
 rfl
def wk0:Wk:={ p:={ Losses:=[],Reserve:=0,Treaties:=[],Reports:=[] },kinds:={ k0:={ part:={ Lo:=0,Hi:=0 },above:={ Lo:=0,Hi:=0 },most:={ Lo:=0,Hi:=0 },times:={ Lo:=0,Hi:=0 },takes:=(fun _ _ _=>none) },k1:={ part:={ Lo:=0,Hi:=0 },above:={ Lo:=0,Hi:=0 },most:={ Lo:=0,Hi:=0 },times:={ Lo:=0,Hi:=0 },takes:=(fun _ _ _=>none) } },shared:=(),played:=none }
theorem zzj{p:Pg}(h:VP p)(hc:zy3 p p.Reports):ztT p=some (zyN p (zyF p),0):=by
 unfold ztT;rw[zzf h,obs,if_pos rfl,zyT h,obs]
 show((ztQ (zyN p (zyF p)) p.Reports).bind _)=_
 rw[(zy4 h h.rsOk (zze h).2.2).some_of hc]; rfl
theorem zzk{p:Pg}(h:VP p)(hc:¬ zy3 p p.Reports):ztT p=some (wk0,11):=by
 unfold ztT;rw[zzf h,obs,if_pos rfl,zyT h,obs]
 show((ztQ (zyN p (zyF p)) p.Reports).bind _)=_
 rw[(zy4 h h.rsOk (zze h).2.2).some_not hc]; rfl
structure zzl (p:Pg) (bs:List Bd):Prop where
 len:bs.length=p.Treaties.length
 at':∀(k:Nat) (b:Bd),bs[k]? = some b->IsB (TrS p p.Reports) (fun L=>(zyl p.Treaties L).pays k) b.Pays/\IsB (TrS p p.Reports) (fun L=>(zyl p.Treaties L).keeps k) b.Keeps
theorem zzl.uniq{p:Pg}{bs bs':List Bd}(h:zzl p bs)(h':zzl p bs'):bs=bs':=by
 refine List.ext_getElem? fun k=>?_
 cases hb:bs[k]? with
 | none=>
  rw[List.getElem?_eq_none_iff] at hb;rw[List.getElem?_eq_none (by rw[h'.len,<- h.len]; exact hb)]
 | some b=>
  have hk:=(List.getElem?_eq_some_iff.1 hb).1;have hb':=List.getElem?_eq_getElem (show k < bs'.length by rw[h'.len,<- h.len]; exact hk);rw[hb'];obtain⟨q1,q2⟩:=h.at' k b hb;obtain⟨q3,q4⟩:=h'.at' k _ hb';have e1:=q1.uniq q3;have e2:=q2.uniq q4;generalize bs'[k]'(by rw[h'.len,<- h.len]; exact hk)=b' at e1 e2
  cases b; cases b'
  simp only at e1 e2
  rw[e1,e2]
theorem zzm{p:Pg}(h:VP p)(hc:zy3 p p.Reports):∃bs,ztX p=some (bs,0)/\zzl p bs:=by
 have h5:=h.t5
 have hx:∀k:Nat,k < p.Treaties.length->∃b:Bd,(∀L,inL p.Losses L->True)/\ztS (zyN p (zyF p)) (fun a=>ztU a (k:Int))=some b.Pays/\ztS (zyN p (zyF p)) (fun a=>ztV a (k:Int))=some b.Keeps/\IsB (TrS p p.Reports) (fun L=>(zyl p.Treaties L).pays k) b.Pays/\IsB (TrS p p.Reports) (fun L=>(zyl p.Treaties L).keeps k) b.Keeps:=fun k hk=>by
  obtain⟨r1,a1,a2⟩:=zzd h (number:=fun a=>ztU a (k:Int)) (g:=fun o=>(idx ([o.pays.p0,o.pays.p1,o.pays.p2,o.pays.p3,o.pays.p4]:List Int) (k:Int)).getD 0) (fun L _=>by
   show((idx (l5 (zyl p.Treaties L).pays) (k:Int)).bind fun v=>some v)=some ((idx (l5 (zyl p.Treaties L).pays) (k:Int)).getD 0)
   rw[zxm (by omega)]; rfl) hc
  obtain⟨r2,b1,b2⟩:=zzd h (number:=fun a=>ztV a (k:Int)) (g:=fun o=>(idx ([o.keeps.p0,o.keeps.p1,o.keeps.p2,o.keeps.p3,o.keeps.p4]:List Int) (k:Int)).getD 0) (fun L _=>by
   show((idx (l5 (zyl p.Treaties L).keeps) (k:Int)).bind fun v=>some v)=some ((idx (l5 (zyl p.Treaties L).keeps) (k:Int)).getD 0)
   rw[zxm (by omega)]; rfl) hc
  refine⟨⟨r1,r2⟩,fun _ _=>trivial,a1,b1,a2.congr (fun _=>Iff.rfl) fun L _=>?_,b2.congr (fun _=>Iff.rfl) fun L _=>?_⟩
  ·show(idx (l5 (zyl p.Treaties L).pays) (k:Int)).getD 0=_
   rw[zxm (by omega)]; rfl
  ·show(idx (l5 (zyl p.Treaties L).keeps) (k:Int)).getD 0=_
   rw[zxm (by omega)]; rfl
 unfold ztX;rw[zzj h hc,obs,if_pos rfl]
 have key:∀(d k:Nat) (acc:List Bd),k<=p.Treaties.length->p.Treaties.length - k < d->acc.length=k->(∀(j:Nat) (b:Bd),acc[j]? = some b->IsB (TrS p p.Reports) (fun L=>(zyl p.Treaties L).pays j) b.Pays/\IsB (TrS p p.Reports) (fun L=>(zyl p.Treaties L).keeps j) b.Keeps) ->
   ∃bs,ztW p (zyN p (zyF p),0) d acc (k:Int)=some (bs,0)/\zzl p bs:=by
  intro d
  induction d with
  | zero=>intro k acc _ h _ _; omega
  | succ d ih=>
   intro k acc hk hd hl hacc;rw[ztW]
   by_cases hkl:k < p.Treaties.length
   ·obtain⟨b,_,b1,b2,b3,b4⟩:=hx k hkl;rw[if_pos (by omega)]
    show ∃bs,((ztS (zyN p (zyF p)) fun a=>ztU a (k:Int)).bind _)=_/\_
    rw[b1,obs]
    show ∃bs,((ztS (zyN p (zyF p)) fun a=>ztV a (k:Int)).bind _)=_/\_
    rw[b2,obs,zqs (by omega),zqs (fI (by omega)),show(k:Int)+1=((k+1:Nat):Int) by omega];refine ih (k+1) _ (by omega) (by omega) (by rw[List.length_append,hl]; rfl) fun j b' hb'=>?_
    by_cases hj:j < acc.length
    ·rw[List.getElem?_append_left hj] at hb'; exact hacc j b' hb'
    ·rw[List.getElem?_append_right (by omega)] at hb'
     have hj2:j=k:=by
      have:=(List.getElem?_eq_some_iff.1 hb').1
      simp only[List.length_cons,List.length_nil] at this
      omega
     subst hj2;rw[show j - acc.length=0 by omega] at hb'
     cases hb'
     exact⟨b3,b4⟩
   ·rw[if_neg (by omega)];exact⟨acc,rfl,by omega,hacc⟩
 exact key (p.Treaties.length+1) 0 [] (Nat.zero_le _) (by omega) rfl fun j b hb=>by cases hb
theorem zzn{p:Pg}(h:VP p)(hc:¬ zy3 p p.Reports):ztX p=some ([],11):=by
 unfold ztX;rw[zzk h hc,obs,if_neg (by decide)]
theorem zzo{p:Pg}(h:VP p)(hc:zy3 p p.Reports):∃r,ztY p=some (r,0)/\IsB (TrS p p.Reports) (fun L=>(zyl p.Treaties L).soc) r:=by
 obtain⟨r,a1,a2⟩:=zzd h (number:=fun a=>ztx a) (g:=fun o=>o.society) (fun L _=>rfl) hc;refine⟨r,?_,a2⟩;unfold ztY;rw[zzj h hc,obs,if_pos rfl]
 show((ztS (zyN p (zyF p)) fun a=>ztx a).bind _)=_
 rw[a1]; rfl
end
end Go.Proofs.Ytkcmdghjgoaggaa

