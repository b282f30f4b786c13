/- An evaluator of code, its soundness, and what functions of the program do. Condition: none; a lemma text. -/
import Derived.Test.YtkcmdghjgoaggaaGreatTbH

namespace Go.Proofs.YtkcmdghjgoaggaaGreat
open _root_.Go.Proofs.Tryz
open Go.Abs
set_option maxRecDepth 100000
noncomputable section
def zxk(f:M)(x:C)(g:Oc->Option (Int)):Prop:=∀(f' m:M) (a0:Oc) (r:Int) (Q:V->M->Prop),Sub f f'->Pre f' m->g a0=some r->(∀m',Ext m m'->Q (.c (.int .i64 r)) m')->zmx prog tbl [.agg 11 [(.int .i64 a0.pays.p0),(.int .i64 a0.pays.p1),(.int .i64 a0.pays.p2),(.int .i64 a0.pays.p3),(.int .i64 a0.pays.p4),(.int .i64 a0.keeps.p0),(.int .i64 a0.keeps.p1),(.int .i64 a0.keeps.p2),(.int .i64 a0.keeps.p3),(.int .i64 a0.keeps.p4),(.int .i64 a0.society)]] x m Q
theorem zxk.sub{f m:M}{x:C}{g:Oc->Option (Int)}(h:zxk f x g)(s:Sub f m):zxk m x g:=fun f' m' a0 r Q hs=>h f' m' a0 r Q (s.trans hs)
theorem zxl:KL prog 107 P5:=zqS (n:=5) (ks:=[.int .i64,.int .i64,.int .i64,.int .i64,.int .i64]) (by kernel_rfl) (by kernel_rfl) (cs:=fun k=>[.int .i64 k.p0,.int .i64 k.p1,.int .i64 k.p2,.int .i64 k.p3,.int .i64 k.p4]) (fun _=>rfl) fun a b fa fb=>⟨_,_,(zqR (zqO fa.1 fb.1) (zqR (zqO fa.2.1 fb.2.1) (zqR (zqO fa.2.2.1 fb.2.2.1) (zqR (zqO fa.2.2.2.1 fb.2.2.2.1) (zqR (zqO fa.2.2.2.2.1 fb.2.2.2.2.1) zqQ))))),⟨fun h=>by obtain⟨ap0,ap1,ap2,ap3,ap4⟩:=a; obtain⟨bp0,bp1,bp2,bp3,bp4⟩:=b; simp_all,fun h=>by subst h; exact⟨rfl,rfl,rfl,rfl,rfl,trivial⟩⟩⟩
theorem zxm:∀a b:P5,MK.enc a=MK.enc b->a=b:=fun a b h=>by
 obtain⟨ap0,ap1,ap2,ap3,ap4⟩:=a; obtain⟨bp0,bp1,bp2,bp3,bp4⟩:=b
 injection h with h1 h2
 simp only[List.cons.injEq,C.int.injEq,true_and,and_true] at h2
 simp_all
theorem zxn:TA prog 33 2:=⟨51,by kernel_rfl,by kernel_rfl,by kernel_rfl⟩
theorem zxo:TA prog 47 4:=⟨62,by kernel_rfl,by kernel_rfl,by kernel_rfl⟩
theorem zxp:TA prog 165 11:=⟨109,by kernel_rfl,by kernel_rfl,by kernel_rfl⟩
theorem zxq{p:Pg}{ca100 ca102 ca103:C}{m f:M}{Q:V->M->Prop}{rz:List (List Int)}(hS:Pre f m)(ha100:Sl f ca100 p.Losses)(ha102:Sl f ca102 p.Treaties)(ha103:Sl f ca103 p.Reports)(hp:zt9 p=some rz)(hq:∀m' f' c0,Grw m f m' f'->ItW prog tbl f' c0 rz->Q (.c c0) m'):Wc prog tbl 116 [.agg 4 [ca100,Il p.Reserve,ca102,ca103]] m Q:=by
 have y:=hS.st;obtain⟨z,_⟩:=zsm;refine zu2 ?_;unfold zt9 at hp;intro J g;obtain⟨a,d,A,h⟩:=y.blk g z 1;refine⟨_,_,_,_,h.bk.ra,?_⟩;obtain⟨i,j,hp⟩:=zqq hp;refine zwr (p:=p) d.pre ha100 ha102 ha103 j fun N B D n o=>?_;obtain⟨e,F⟩:=d.callG n a;refine⟨_,rfl,?_⟩;obtain⟨G,q,hp⟩:=zqq hp;refine zxg (l:=i) e.pre o q fun O r s t u=>?_;obtain⟨w,I⟩:=e.callG t a;refine⟨_,rfl,?_⟩;obtain rfl:=oi hp;exact hq _ r s w.grw u
theorem zxr{p:Pg}{losses:List Int}{ca100 ca102 ca103 ca200:C}{m f:M}{Q:V->M->Prop}{rz:List Int × Int × Int}(hS:Pre f m)(ha100:Sl f ca100 p.Losses)(ha102:Sl f ca102 p.Treaties)(ha103:Sl f ca103 p.Reports)(ha200:Sl f ca200 losses)(hp:zua p losses=some rz)(hq:∀m' f' c0,Grw m f m' f'->Sl f' c0 rz.1->Q (.tup [.c c0,.c (Il rz.2.1),.c (Il rz.2.2)]) m'):Wc prog tbl 15 [.agg 4 [ca100,Il p.Reserve,ca102,ca103],.c ca200] m Q:=by
 have S0:=hS.st;obtain⟨τ0,_⟩:=zsm;refine w15 ?_;unfold zua at hp;intro m0 aa;obtain⟨q,A,Mb,B⟩:=S0.blk aa τ0 1;refine⟨_,_,_,_,B.bk.ra,?_⟩;obtain⟨Nb,ba,hp⟩:=zqq hp;refine zws (p:=p) A.pre ha100 ha102 ha103 ba fun m6 ca=>?_;obtain⟨r,da⟩:=A.call ca q;have D:=B.k da;refine⟨_,rfl,?_⟩;refine zq1 hp (fun ea hp=>?_) fun ea hp=>?_
 ·obtain rfl:=oi hp;exact hq _ f .sl0 r.grw (Sl.nil _)
 refine⟨_,_,_,_,D.bk.ra,?_⟩;obtain⟨Ob,fa,hp⟩:=zqq hp;refine zwt (p:=p) (losses:=losses) r.pre ha100 ha102 ha103 ha200 fa fun Yb ga=>?_;obtain⟨F,ha⟩:=r.call ga q;have G:=D.k ha;refine⟨_,rfl,?_⟩;refine zq3 hp (fun ia hp=>?_) fun ia hp=>?_
 ·obtain rfl:=oi hp;exact hq _ f .sl0 F.grw (Sl.nil _)
 refine⟨_,_,_,_,G.bk.ra,?_⟩;refine w58 ?_;intro m0i221 ja;obtain⟨ka,la,ma,na⟩:=F.blk ja q 2;have oa:=G.k ma;intro m1i221 pa;obtain⟨qa,sa,I,ta⟩:=la.blk pa ka 3;have ua:=oa.k I;have va:=na.k I;intro m2i221 wa;obtain⟨J,N,s,z⟩:=sa.growK wa qa 4;have xa:=ua.k s;have O:=va.k s;have ya:=ta.k s;have za:=z 0 (by decide);have Aa:=z 1 (by decide);refine⟨_,_,_,_,O.bk.ra,?_⟩;obtain⟨d,Ba,hp⟩:=zqq hp;refine zv0 N.pre  Ba fun m8i221 Pb Ca Da Ea Fa Ga=>?_;obtain⟨Ha,e⟩:=N.callG Ea J;have Ia:=xa.k e;have P:=O.k e;have Ja:=ya.k e;have Ka:=za.k e;have La:=Aa.k e;refine⟨_,_,_,_,_,_,_,_,_,_,_,_,_,_,_,_,_,_,rfl,(by rw[show zaL cmC _=true from zoX (zqu ha100.noFn (zqu rfl (zqu ha102.noFn (zqu ha103.noFn zqv))))]; exact(P.bk.ra)),?_⟩;intro m27i221 Ma;obtain⟨Na,g,Oa⟩:=Rs.setM (K:=Mt) (V':=Oc) Ka Ha Ma;have Pa:=Ia.k g;have S:=P.k g;have Qa:=Ja.k g;have Ra:=La.k g;refine⟨(by rw[show zaL cmC _=true from zoX (zqu ha100.noFn (zqu rfl (zqu ha102.noFn (zqu ha103.noFn zqv))))]; exact(S.bk.ra)),?_⟩;intro m28i221 Sa;obtain⟨Ta,h,Ua⟩:=Rs.setS (K:=P5) (α:=Oc) Ra Na Sa;have Va:=Pa.k h;have Wa:=S.k h;have Xa:=Qa.k h;have Ya:=Oa.k h;refine⟨(by rw[show zaL cmC _=true from zoX (zqu ha100.noFn (zqu rfl (zqu ha102.noFn (zqu ha103.noFn zqv))))]; exact(Wa.bk.ra)),?_⟩;obtain⟨Za,ab,t,u,bb⟩:=Xa.sto Ta [ca100,Il p.Reserve,ca102,ca103,Il d.k0.part.Lo,Il d.k0.part.Hi,Il d.k0.above.Lo,Il d.k0.above.Hi,Il d.k0.most.Lo,Il d.k0.most.Hi,Il d.k0.times.Lo,Il d.k0.times.Hi,Ca,Il d.k1.part.Lo,Il d.k1.part.Hi,Il d.k1.above.Lo,Il d.k1.above.Hi,Il d.k1.most.Lo,Il d.k1.most.Hi,Il d.k1.times.Lo,Il d.k1.times.Hi,Da,(.map (m1i221.nxt+0)),(.map (m1i221.nxt+1))]
 have cb:=Va.k u;have T:=Ya.k u;have db:=Ua.k u;refine⟨Za,ab,?_⟩;refine⟨_,_,_,_,_,_,_,_,_,_,_,_,_,_,_,_,_,_,_,_,_,_,_,_,bb.bk.ra,_,_,_,_,_,_,_,_,_,_,_,_,_,_,_,_,_,_,_,_,_,_,_,_,rfl,?_⟩;obtain⟨a,eb,hp⟩:=zqq hp;refine zwE (w:=({ p:=p,kinds:=d,shared:=(some fun _=>none:Option (Mt->Option (Oc))),played:=() }:WkP)) (losses:=losses) t.pre (ha100.sub e.fs) (ha102.sub e.fs) (ha103.sub e.fs) Fa Ga (T.mc t) (show zrH _ _ _ from db.noFn) (ha200.sub e.fs) eb fun Zb fb Z=>?_;obtain⟨gb,hb,Qb⟩:=t.callM T fb Z;have ib:=cb.k hb;refine⟨_,_,_,_,_,_,_,_,_,_,_,rfl,?_⟩;intro ac jb;obtain⟨kb,mb,ob,pb⟩:=gb.blk jb J 6;have qb:=ib.k ob;obtain⟨rb,sb,tb,ub,vb⟩:=pb.sto mb [Il a.1.pays.p0,Il a.1.pays.p1,Il a.1.pays.p2,Il a.1.pays.p3,Il a.1.pays.p4,Il a.1.keeps.p0,Il a.1.keeps.p1,Il a.1.keeps.p2,Il a.1.keeps.p3,Il a.1.keeps.p4,Il a.1.society];have wb:=qb.k ub;refine⟨rb,sb,?_⟩;refine⟨trivial,trivial,_,wb.bk.rc rfl,ha102.isSl,?_⟩
 try rw[ha102.slLen]
 obtain⟨Rb,y,Sb,n⟩:=vb.freeze tb;obtain⟨Tb,hp⟩:=zqr hp;obtain⟨xb,yb,zb⟩:=Bk.arS (α:=Int) (o:=0) (l:=([a.1.pays.p0,a.1.pays.p1,a.1.pays.p2,a.1.pays.p3,a.1.pays.p4]:List Int)) (i:=Int.toNat (0:Int)) (j:=Int.toNat (p.Treaties.length:Int)) n rfl (Nat.le_of_ble_eq_true rfl) (Go.Abs.zrj _ ([a.1.pays.p0,a.1.pays.p1,a.1.pays.p2,a.1.pays.p3,a.1.pays.p4]:List Int)) (by omega) (by show Int.toNat (p.Treaties.length:Int)<=5; omega);refine⟨Int.toNat (0:Int),Int.toNat (p.Treaties.length:Int),rfl,(show(p.Treaties.length:Int)=((Int.toNat (p.Treaties.length:Int):Nat):Int) by omega),xb,yb,?_⟩;obtain⟨Ub,Ab,hp⟩:=zqq hp;refine zwI (l:=((([a.1.pays.p0,a.1.pays.p1,a.1.pays.p2,a.1.pays.p3,a.1.pays.p4]:List Int).take (Int.toNat (p.Treaties.length:Int))).drop (Int.toNat (0:Int)))) y.pre zb Ab fun bc Vb Bb Cb Db=>?_;obtain⟨Wb,Y,Eb,Fb⟩:=y.callO Cb Db kb 7;refine⟨_,rfl,trivial,_,(n.sub (Sub.trans Eb.fs Y.sub)).rc rfl,((n.sub y.sub).rc rfl),?_⟩;obtain⟨Gb,Hb,Xb,Ib⟩:=Fb.freeze Y;obtain rfl:=oi hp;exact hq _ Gb Bb Hb.grw Ib
theorem zxs{p:Pg}{ca100 ca102 ca103:C}{m f:M}{Q:V->M->Prop}{rz:Wk}(hS:Pre f m)(ha100:Sl f ca100 p.Losses)(ha102:Sl f ca102 p.Treaties)(ha103:Sl f ca103 p.Reports)(hp:zuc p=some rz)(hq:∀m' f' c0 c2 c3 c12 c21 c22 c23,Grw m f m' f'->Sl f' c0 rz.p.Losses->Sl f' c2 rz.p.Treaties->Sl f' c3 rz.p.Reports->zvv f' c12 rz.kinds.k0.takes->zvv f' c21 rz.kinds.k1.takes->zrH f' c22 rz.shared->MiS f' c23 rz.played->Q (.agg 24 [c0,Il rz.p.Reserve,c2,c3,Il rz.kinds.k0.part.Lo,Il rz.kinds.k0.part.Hi,Il rz.kinds.k0.above.Lo,Il rz.kinds.k0.above.Hi,Il rz.kinds.k0.most.Lo,Il rz.kinds.k0.most.Hi,Il rz.kinds.k0.times.Lo,Il rz.kinds.k0.times.Hi,c12,Il rz.kinds.k1.part.Lo,Il rz.kinds.k1.part.Hi,Il rz.kinds.k1.above.Lo,Il rz.kinds.k1.above.Hi,Il rz.kinds.k1.most.Lo,Il rz.kinds.k1.most.Hi,Il rz.kinds.k1.times.Lo,Il rz.kinds.k1.times.Hi,c21,c22,c23]) m'):Wc prog tbl 82 [.agg 4 [ca100,Il p.Reserve,ca102,ca103]] m Q:=by
 have S0:=hS.st;obtain⟨τ0,_⟩:=zsm;refine w82 ?_;unfold zuc at hp;intro m0 eb;obtain⟨fb,gb,Fe,hb⟩:=S0.blk eb τ0 1;intro m1 jb;obtain⟨kb,mb,ob,pb⟩:=gb.blk jb fb 2;have ma:=hb.k ob;refine⟨_,_,_,_,ma.bk.ra,?_⟩;refine w58 ?_;intro m0i364 qb;obtain⟨rb,sb,na,tb⟩:=mb.blk qb kb 3;have ub:=ma.k na;have vb:=pb.k na;intro m1i364 wb;obtain⟨xb,yb,ia,zb⟩:=sb.blk wb rb 4;have Ab:=ub.k ia;have Bb:=vb.k ia;have Cb:=tb.k ia;intro m2i364 Db;obtain⟨oa,pa,ga,la⟩:=yb.growK Db xb 5;have Eb:=Ab.k ga;have Fb:=Bb.k ga;have qa:=Cb.k ga;have Gb:=zb.k ga;have Hb:=la 0 (by decide);have Ib:=la 1 (by decide);refine⟨_,_,_,_,qa.bk.ra,?_⟩;obtain⟨c,Jb,hp⟩:=zqq hp;refine zv0 pa.pre  Jb fun m8i364 Ge h i Kb sa ta=>?_;obtain⟨Mb,g⟩:=pa.callG Kb oa;have Nb:=Eb.k g;have Ob:=Fb.k g;have ua:=qa.k g;have Pb:=Gb.k g;have Qb:=Hb.k g;have Rb:=Ib.k g;refine⟨_,_,_,_,_,_,_,_,_,_,_,_,_,_,_,_,_,_,rfl,(by rw[show zaL cmC _=true from zoX (zqu ha100.noFn (zqu rfl (zqu ha102.noFn (zqu ha103.noFn zqv))))]; exact(ua.bk.ra)),?_⟩;intro m27i364 Sb;obtain⟨Tb,Z,Ub⟩:=Rs.setM (K:=Mt) (V':=Oc) Qb Mb Sb;have Vb:=Nb.k Z;have Wb:=Ob.k Z;have va:=ua.k Z;have Xb:=Pb.k Z;have Yb:=Rb.k Z;refine⟨(by rw[show zaL cmC _=true from zoX (zqu ha100.noFn (zqu rfl (zqu ha102.noFn (zqu ha103.noFn zqv))))]; exact(va.bk.ra)),?_⟩;intro m28i364 Zb;obtain⟨ac,aa,bc⟩:=Rs.setS (K:=P5) (α:=Oc) Yb Tb Zb;have cc:=Vb.k aa;have dc:=Wb.k aa;have wa:=va.k aa;have ec:=Xb.k aa;have fc:=Ub.k aa;refine⟨(by rw[show zaL cmC _=true from zoX (zqu ha100.noFn (zqu rfl (zqu ha102.noFn (zqu ha103.noFn zqv))))]; exact(wa.bk.ra)),?_⟩
 obtain⟨ha,gc,hc,ba,xa⟩:=ec.sto ac [ca100,Il p.Reserve,ca102,ca103,Il c.k0.part.Lo,Il c.k0.part.Hi,Il c.k0.above.Lo,Il c.k0.above.Hi,Il c.k0.most.Lo,Il c.k0.most.Hi,Il c.k0.times.Lo,Il c.k0.times.Hi,h,Il c.k1.part.Lo,Il c.k1.part.Hi,Il c.k1.above.Lo,Il c.k1.above.Hi,Il c.k1.most.Lo,Il c.k1.most.Hi,Il c.k1.times.Lo,Il c.k1.times.Hi,i,(.map (m1i364.nxt+0)),(.map (m1i364.nxt+1))];have ic:=cc.k ba;have jc:=dc.k ba;have kc:=wa.k ba;have nc:=fc.k ba;have pc:=bc.k ba;refine⟨ha,gc,?_⟩;refine⟨_,_,_,_,_,_,_,_,_,_,_,_,_,_,_,_,_,_,_,_,_,_,_,_,xa.bk.ra,_,_,_,_,_,_,_,_,_,_,_,_,_,_,_,_,_,_,_,_,_,_,_,_,rfl,?_⟩;intro Re qc;obtain⟨ya,sc,J,tc⟩:=hc.blk qc oa 7;have uc:=ic.k J;have vc:=jc.k J;have wc:=kc.k J;have xc:=xa.k J;have yc:=nc.k J;have zc:=pc.k J;obtain⟨Ac,Bc,za,N,Cc⟩:=tc.sto sc [ca100,Il p.Reserve,ca102,ca103,Il c.k0.part.Lo,Il c.k0.part.Hi,Il c.k0.above.Lo,Il c.k0.above.Hi,Il c.k0.most.Lo,Il c.k0.most.Hi,Il c.k0.times.Lo,Il c.k0.times.Hi,h,Il c.k1.part.Lo,Il c.k1.part.Hi,Il c.k1.above.Lo,Il c.k1.above.Hi,Il c.k1.most.Lo,Il c.k1.most.Hi,Il c.k1.times.Lo,Il c.k1.times.Hi,i,(.map (m1i364.nxt+0)),(.map (m1i364.nxt+1))];have Aa:=uc.k N;have Dc:=vc.k N;have Ec:=wc.k N;have Fc:=xc.k N;have Gc:=yc.k N;have Hc:=zc.k N;refine⟨Ac,Bc,?_⟩;refine⟨_,_,_,_,Aa.bk.ra,?_⟩;obtain⟨He,Ic,hp⟩:=zqq hp;refine zxq (p:=p) za.pre (ha100.sub g.fs) (ha102.sub g.fs) (ha103.sub g.fs) Ic fun Se Ie Je Jc Kc=>?_;obtain⟨Nc,e⟩:=za.callG Jc ya;have Ba:=Aa.k e;have Ca:=Dc.k e;have Da:=Ec.k e;have Ea:=Fc.k e;have Fa:=Cc.k e;have Ga:=Gc.k e;have Ha:=Hc.k e
 refine⟨_,rfl,?_⟩;refine zrx (α:=List Int) Nc Kc (σ:=(Option (Mt->Option (Oc))) × (Option (P5->Option (List Oc))) × (Nat->Prop)) 8 (fun st bb=>(False\/(False\/(False\/(False\/(False\/(False\/(st.2.2 bb)))))))) (fun st gG gF gT gM=>(Lb gG gF gT gM 1 m.nxt 4 [ca100,Il p.Reserve,ca102,ca103])/\(Lb gG gF gT gM 2 m0.nxt 24 [.sl0,Il 0,.sl0,.sl0,Il 0,Il 0,Il 0,Il 0,Il 0,Il 0,Il 0,Il 0,C.nilFn,Il 0,Il 0,Il 0,Il 0,Il 0,Il 0,Il 0,Il 0,C.nilFn,C.map0,C.map0])/\(Lb gG gF gT gM 3 m1.nxt 4 [ca100,Il p.Reserve,ca102,ca103])/\(Lb gG gF gT gM 4 m0i364.nxt 24 [ca100,Il p.Reserve,ca102,ca103,Il c.k0.part.Lo,Il c.k0.part.Hi,Il c.k0.above.Lo,Il c.k0.above.Hi,Il c.k0.most.Lo,Il c.k0.most.Hi,Il c.k0.times.Lo,Il c.k0.times.Hi,h,Il c.k1.part.Lo,Il c.k1.part.Hi,Il c.k1.above.Lo,Il c.k1.above.Hi,Il c.k1.most.Lo,Il c.k1.most.Hi,Il c.k1.times.Lo,Il c.k1.times.Hi,i,(.map (m1i364.nxt+0)),(.map (m1i364.nxt+1))])/\(Lb gG gF gT gM 7 ha.nxt 24 [ca100,Il p.Reserve,ca102,ca103,Il c.k0.part.Lo,Il c.k0.part.Hi,Il c.k0.above.Lo,Il c.k0.above.Hi,Il c.k0.most.Lo,Il c.k0.most.Hi,Il c.k0.times.Lo,Il c.k0.times.Hi,h,Il c.k1.part.Lo,Il c.k1.part.Hi,Il c.k1.above.Lo,Il c.k1.above.Hi,Il c.k1.most.Lo,Il c.k1.most.Hi,Il c.k1.times.Lo,Il c.k1.times.Hi,i,(.map (m1i364.nxt+0)),(.map (m1i364.nxt+1))])/\(Mo gG gF gT gM 5 (.map (m1i364.nxt+0)) st.1)/\(MoS gG gF gT gM 6 (.map (m1i364.nxt+1)) st.2.1 st.2.2)) (fun rr_ st=>zub p c rr_ st.1 st.2.1=some rz) (fun ex st=>False) (fun st=>(Gux.and (Gux.lb Ba.bk.lt (by decide)) (Gux.and (Gux.lb Ca.bk.lt (by decide)) (Gux.and (Gux.lb Da.bk.lt (by decide)) (Gux.and (Gux.lb Ea.bk.lt (by decide)) (Gux.and (Gux.lb Fa.bk.lt (by decide)) (Gux.and (Gux.mo Ga.lt (by decide)) (Gux.moz Ha.lt (by decide))))))))) (st0:=((some fun _=>none:Option (Mt->Option (Oc))),(some fun _=>none:Option (P5->Option (List Oc))),(fun _=>False))) (τ:=ya) ⟨Ba,Ca,Da,Ea,Fa,Ga,Ha⟩ hp ?_ ?_ ?_ ?_
 ·intro Ia Pc st l n ca s Ke ze Ae Be _ _ Qc da hA Qa hp hrep Ce Ra Sa;obtain⟨Me,rfl,⟨Rc,_⟩⟩:=hrep;obtain⟨O,ea,ja⟩:=st;obtain⟨P,t,S,T,u,y,z⟩:=hA
  replace P:Lb s l n ca 1 m.nxt 4 [ca100,Il p.Reserve,ca102,ca103]:=P
  replace t:Lb s l n ca 2 m0.nxt 24 [.sl0,Il 0,.sl0,.sl0,Il 0,Il 0,Il 0,Il 0,Il 0,Il 0,Il 0,Il 0,C.nilFn,Il 0,Il 0,Il 0,Il 0,Il 0,Il 0,Il 0,Il 0,C.nilFn,C.map0,C.map0]:=t
  replace S:Lb s l n ca 3 m1.nxt 4 [ca100,Il p.Reserve,ca102,ca103]:=S
  replace T:Lb s l n ca 4 m0i364.nxt 24 [ca100,Il p.Reserve,ca102,ca103,Il c.k0.part.Lo,Il c.k0.part.Hi,Il c.k0.above.Lo,Il c.k0.above.Hi,Il c.k0.most.Lo,Il c.k0.most.Hi,Il c.k0.times.Lo,Il c.k0.times.Hi,h,Il c.k1.part.Lo,Il c.k1.part.Hi,Il c.k1.above.Lo,Il c.k1.above.Hi,Il c.k1.most.Lo,Il c.k1.most.Hi,Il c.k1.times.Lo,Il c.k1.times.Hi,i,(.map (m1i364.nxt+0)),(.map (m1i364.nxt+1))]:=T
  replace u:Lb s l n ca 7 ha.nxt 24 [ca100,Il p.Reserve,ca102,ca103,Il c.k0.part.Lo,Il c.k0.part.Hi,Il c.k0.above.Lo,Il c.k0.above.Hi,Il c.k0.most.Lo,Il c.k0.most.Hi,Il c.k0.times.Lo,Il c.k0.times.Hi,h,Il c.k1.part.Lo,Il c.k1.part.Hi,Il c.k1.above.Lo,Il c.k1.above.Hi,Il c.k1.most.Lo,Il c.k1.most.Hi,Il c.k1.times.Lo,Il c.k1.times.Hi,i,(.map (m1i364.nxt+0)),(.map (m1i364.nxt+1))]:=u
  replace y:Mo s l n ca 5 (.map (m1i364.nxt+0)) O:=y
  replace z:MoS s l n ca 6 (.map (m1i364.nxt+1)) ea ja:=z
  replace hp:zub p c (Ia::Pc) O ea=some rz:=hp
  rw[zub] at hp;refine⟨_,rfl,?_⟩;refine Ra _ _ _ _ Qc Qa fun Te Ne ka A Ta Ua=>?_;have Tc:=P.k A;have Uc:=t.k A;have Vc:=S.k A;have Xc:=T.k A;have Ja:=u.k A;have Ka:=y.k A;have La:=z.k A;refine⟨_,_,_,_,_,_,_,_,_,_,_,_,_,_,_,_,_,_,_,_,_,_,_,_,Ja.bk.ra,?_⟩;obtain⟨d,Yc,hp⟩:=zqq hp;refine zwE (w:=({ p:=p,kinds:=c,shared:=O,played:=() }:WkP)) (losses:=Ia) ka.pre (ha100.sub (Sub.trans (Sub.trans g.fs e.fs) da)) (ha102.sub (Sub.trans (Sub.trans g.fs e.fs) da)) (ha103.sub (Sub.trans (Sub.trans g.fs e.fs) da)) (sa.sub (Sub.trans e.fs da)) (ta.sub (Sub.trans e.fs da)) (Ka.mc ka) (show zrH _ _ _ from La.noFn) Rc Yc fun Ue Zc Va=>?_;obtain⟨ad,B,bd⟩:=ka.callM Ka Zc Va;have cd:=Tc.k B;have dd:=Uc.k B;have ed:=Vc.k B;have fd:=Xc.k B;have hd:=Ja.k B;have jd:=La.k B;have Wa:=Ta.k B;refine⟨_,_,_,_,_,_,_,_,_,_,_,rfl,?_⟩;intro Ve kd;obtain⟨ld,md,o,nd⟩:=ad.blk kd n 9;have od:=cd.k o;have pd:=dd.k o;have qd:=ed.k o;have sd:=fd.k o;have td:=hd.k o;have ud:=bd.k o;have vd:=jd.k o;have Xa:=Wa.k o;obtain⟨xd,yd,zd,q,Ma⟩:=nd.sto md [Il d.1.pays.p0,Il d.1.pays.p1,Il d.1.pays.p2,Il d.1.pays.p3,Il d.1.pays.p4,Il d.1.keeps.p0,Il d.1.keeps.p1,Il d.1.keeps.p2,Il d.1.keeps.p3,Il d.1.keeps.p4,Il d.1.society];have Ad:=od.k q;have Cd:=pd.k q;have Dd:=qd.k q;have Ed:=sd.k q;have Na:=td.k q;have Fd:=ud.k q;have Gd:=vd.k q;have Ya:=Xa.k q;refine⟨xd,yd,?_⟩;refine⟨trivial,_,Na.bk.rc rfl,trivial,_,_,_,_,_,Ma.bk.rp (k:=0) (j:=5) rfl (by omega),_,_,_,_,_,_,_,_,_,_,_,Ma.bk.ra,?_⟩;intro Oe Hd
  obtain⟨Pe,Id,r,Jd⟩:=zd.blk Hd ld 10;have Ld:=Ad.k r;have Md:=Cd.k r;have Nd:=Dd.k r;have Od:=Ed.k r;have Pd:=Na.k r;have Qd:=Fd.k r;have Rd:=Gd.k r;have Za:=Ya.k r;obtain⟨Sd,hp⟩:=zqr hp;obtain⟨Td,hp⟩:=zqr hp;obtain⟨Ud,Vd,hp⟩:=zqq hp;obtain⟨Wd,Oa,Xd,Yd,Zd,ae,Qe,be,ce,de,ee,fe,D,ge⟩:=MoS.opa zxp zxl Id Rd (k:=d.1.pays) Sd (a:=d.1) Jd rfl (show Rp.rep (α:=Oc) l _ d.1 from rfl) Td Vd (kv:=.agg 5 [Il d.1.pays.p0,Il d.1.pays.p1,Il d.1.pays.p2,Il d.1.pays.p3,Il d.1.pays.p4]) rfl;have he:=Ld.k D;have ie:=Md.k D;have je:=Nd.k D;have ke:=Od.k D;have me:=Pd.k D;have oe:=Qd.k D;have ab:=Za.k D;refine⟨Wd,Oa,Xd,ce,Yd,Zd,de,Oa,ae,rfl,ee,?_⟩;exact Sa .nrm (d.2,Ud,be) _ _ _ _ fe ⟨he,ie,je,ke,me,oe,ge⟩ ab Ua hp
 ·intro st F G I pe fa hA hp;obtain⟨O,ea,ja⟩:=st
  replace hp:zub p c [] O ea=some rz:=hp
  obtain⟨P,t,S,T,u,y,z⟩:=hA
  replace P:Lb (Fm.of m) F G I 1 m.nxt 4 [ca100,Il p.Reserve,ca102,ca103]:=P
  replace t:Lb (Fm.of m) F G I 2 m0.nxt 24 [.sl0,Il 0,.sl0,.sl0,Il 0,Il 0,Il 0,Il 0,Il 0,Il 0,Il 0,Il 0,C.nilFn,Il 0,Il 0,Il 0,Il 0,Il 0,Il 0,Il 0,Il 0,C.nilFn,C.map0,C.map0]:=t
  replace S:Lb (Fm.of m) F G I 3 m1.nxt 4 [ca100,Il p.Reserve,ca102,ca103]:=S
  replace T:Lb (Fm.of m) F G I 4 m0i364.nxt 24 [ca100,Il p.Reserve,ca102,ca103,Il c.k0.part.Lo,Il c.k0.part.Hi,Il c.k0.above.Lo,Il c.k0.above.Hi,Il c.k0.most.Lo,Il c.k0.most.Hi,Il c.k0.times.Lo,Il c.k0.times.Hi,h,Il c.k1.part.Lo,Il c.k1.part.Hi,Il c.k1.above.Lo,Il c.k1.above.Hi,Il c.k1.most.Lo,Il c.k1.most.Hi,Il c.k1.times.Lo,Il c.k1.times.Hi,i,(.map (m1i364.nxt+0)),(.map (m1i364.nxt+1))]:=T
  replace u:Lb (Fm.of m) F G I 7 ha.nxt 24 [ca100,Il p.Reserve,ca102,ca103,Il c.k0.part.Lo,Il c.k0.part.Hi,Il c.k0.above.Lo,Il c.k0.above.Hi,Il c.k0.most.Lo,Il c.k0.most.Hi,Il c.k0.times.Lo,Il c.k0.times.Hi,h,Il c.k1.part.Lo,Il c.k1.part.Hi,Il c.k1.above.Lo,Il c.k1.above.Hi,Il c.k1.most.Lo,Il c.k1.most.Hi,Il c.k1.times.Lo,Il c.k1.times.Hi,i,(.map (m1i364.nxt+0)),(.map (m1i364.nxt+1))]:=u
  replace y:Mo (Fm.of m) F G I 5 (.map (m1i364.nxt+0)) O:=y
  replace z:MoS (Fm.of m) F G I 6 (.map (m1i364.nxt+1)) ea ja:=z
  rw[zub] at hp;refine⟨_,_,_,_,_,_,_,_,_,_,_,_,_,_,_,_,_,_,_,_,_,_,_,_,u.bk.ra,?_⟩;obtain⟨qe,re,se,Pa,te⟩:=t.sto pe [ca100,Il p.Reserve,ca102,ca103,Il c.k0.part.Lo,Il c.k0.part.Hi,Il c.k0.above.Lo,Il c.k0.above.Hi,Il c.k0.most.Lo,Il c.k0.most.Hi,Il c.k0.times.Lo,Il c.k0.times.Hi,h,Il c.k1.part.Lo,Il c.k1.part.Hi,Il c.k1.above.Lo,Il c.k1.above.Hi,Il c.k1.most.Lo,Il c.k1.most.Hi,Il c.k1.times.Lo,Il c.k1.times.Hi,i,(.map (m1i364.nxt+0)),(.map (m1i364.nxt+1))];have ue:=y.k Pa;have ve:=z.k Pa;refine⟨qe,re,?_⟩;refine⟨_,_,_,_,_,_,_,_,_,_,_,_,_,_,_,_,_,_,_,_,_,_,_,_,te.bk.ra,?_⟩;obtain⟨we,xe,Y,cb⟩:=ve.freeze se;have ye:=ue.k Y;obtain rfl:=oi hp;exact hq _ we ca100 ca102 ca103 h i (.map (m1i364.nxt+0)) (.map (m1i364.nxt+1)) xe.grw (ha100.sub (Sub.trans (Sub.trans (Sub.trans g.fs e.fs) fa) Y.fs)) (ha102.sub (Sub.trans (Sub.trans (Sub.trans g.fs e.fs) fa) Y.fs)) (ha103.sub (Sub.trans (Sub.trans (Sub.trans g.fs e.fs) fa) Y.fs)) (sa.sub (Sub.trans (Sub.trans e.fs fa) Y.fs)) (ta.sub (Sub.trans (Sub.trans e.fs fa) Y.fs)) (show zrH _ _ _ from ye.mi.noFn) cb
 ·intro id st _ _ _ _ _ _ hn; first | exact hn.elim | (cases hn)
 ·intro st _ _ _ _ _ _ hn; first | exact hn.elim | (cases hn)
theorem zxt{w:Wk}{reports:List Rpt}{ca100 ca102 ca103 ca112 ca121 ca122 ca123 ca200:C}{m f:M}{Q:V->M->Prop}{rz:Bool}(hS:Pre f m)(_ha100:Sl f ca100 w.p.Losses)(_ha102:Sl f ca102 w.p.Treaties)(_ha103:Sl f ca103 w.p.Reports)(_ha112:zvv f ca112 w.kinds.k0.takes)(_ha121:zvv f ca121 w.kinds.k1.takes)(_ha122:zrH f ca122 w.shared)(ha123:MiS f ca123 w.played)(ha200:Sl f ca200 reports)(hp:zud w reports=some rz)(hq:∀m',Ext m m'->Q (.c (.bool rz)) m'):Wc prog tbl 84 [.agg 24 [ca100,Il w.p.Reserve,ca102,ca103,Il w.kinds.k0.part.Lo,Il w.kinds.k0.part.Hi,Il w.kinds.k0.above.Lo,Il w.kinds.k0.above.Hi,Il w.kinds.k0.most.Lo,Il w.kinds.k0.most.Hi,Il w.kinds.k0.times.Lo,Il w.kinds.k0.times.Hi,ca112,Il w.kinds.k1.part.Lo,Il w.kinds.k1.part.Hi,Il w.kinds.k1.above.Lo,Il w.kinds.k1.above.Hi,Il w.kinds.k1.most.Lo,Il w.kinds.k1.most.Hi,Il w.kinds.k1.times.Lo,Il w.kinds.k1.times.Hi,ca121,ca122,ca123],.c ca200] m Q:=by
 have S0:=hS.st;obtain⟨τ0,_⟩:=zsm;refine w84 ?_;unfold zud at hp;intro m0 T;obtain⟨Y,Z,La,q⟩:=S0.blk T τ0 1;refine⟨trivial,_,q.bk.rc rfl,?_⟩;obtain⟨Ga,aa,D,F,G⟩:=MiS.rng zxm Z ha123 Y 2;have hp:=zrp hp D;refine⟨aa,F,?_⟩;intro m3 ba;obtain⟨ca,da,ea,fa⟩:=G m3 ba;have e:=q.k ea;intro R4 Fa
 have hgo:∀(g:Nat) (b5:Bool) (h:List P5) (o:M) (d:Nat->Nat),St (Fm.of m) f f o->Lb (Fm.of m) f d o 1 m.nxt 24 [ca100,Il w.p.Reserve,ca102,ca103,Il w.kinds.k0.part.Lo,Il w.kinds.k0.part.Hi,Il w.kinds.k0.above.Lo,Il w.kinds.k0.above.Hi,Il w.kinds.k0.most.Lo,Il w.kinds.k0.most.Hi,Il w.kinds.k0.times.Lo,Il w.kinds.k0.times.Hi,ca112,Il w.kinds.k1.part.Lo,Il w.kinds.k1.part.Hi,Il w.kinds.k1.above.Lo,Il w.kinds.k1.above.Hi,Il w.kinds.k1.most.Lo,Il w.kinds.k1.most.Hi,Il w.kinds.k1.times.Lo,Il w.kinds.k1.times.Hi,ca121,ca122,ca123]->IrS (Fm.of m) f d o 2 m0.nxt ca123 w.played h->pcanHold_L0 w reports g h=some rz->R4 [.c (.bool b5)] o:=by
  intro g
  induction g with
  | zero=>intro b5 h o d j e r hp; cases hp
  | succ g ha=>
   intro b5 h o d j e r hp;refine Fa _ _ ?_;rw[pcanHold_L0] at hp;obtain⟨l7,I,J,N⟩:=r.next j;refine⟨l7,I,fun ia=>?_,fun u8 u9 Ta ja=>?_⟩
   ·have hp:=zrs (J ia) hp;obtain rfl:=oi hp;exact hq _ j.ext'
   obtain⟨ka,a,la,ma,Pa,O,Ha,P,s,Qa,t,na,u⟩:=N _ _ _ ja;have hp:=zrt O hp;obtain⟨oa,S,hp⟩:=zqq hp;obtain rfl:oa=ma:=oi (S.symm.trans P);generalize ka++la=Ra at hp u;have pa:=e.k na;refine⟨_,_,_,_,_,_,s,?_⟩;intro Ua qa;obtain⟨y,l,z,sa⟩:=t.blk qa d 3;have ta:=pa.k z;have ua:=u.k z t.sub l (by decide);obtain⟨va,wa,i,A,xa⟩:=sa.sto l [Il a.p0,Il a.p1,Il a.p2,Il a.p3,Il a.p4];have ya:=ta.k A;have za:=ua.k A l.sub i (by decide);refine⟨va,wa,?_⟩;refine⟨_,_,_,_,_,xa.bk.ra,?_⟩;obtain⟨Sa,Aa,hp⟩:=zqq hp;refine zwB (p:=a) (reports:=reports) i.pre ha200 Aa fun Va Ba=>?_;obtain⟨n,B⟩:=i.call Ba y;have Ca:=ya.k B;have Da:=za.k B i.sub n (by decide);refine⟨_,rfl,?_⟩;refine zq2 hp (fun Ea hp=>?_) fun Ea hp=>?_; rotate_left
   ·exact ha _ _ _ y n Ca Da hp
   obtain rfl:=oi hp;exact hq _ n.ext'
 exact hgo _ _ _ _ ca da e fa hp
theorem zxu{w:Wk}{number:Oc->Option (Int)}{ca100 ca102 ca103 ca112 ca121 ca122 ca123 ca200:C}{m f:M}{Q:V->M->Prop}{rz:Rg}(hS:Pre f m)(_ha100:Sl f ca100 w.p.Losses)(_ha102:Sl f ca102 w.p.Treaties)(ha103:Sl f ca103 w.p.Reports)(_ha112:zvv f ca112 w.kinds.k0.takes)(_ha121:zvv f ca121 w.kinds.k1.takes)(_ha122:zrH f ca122 w.shared)(ha123:MiS f ca123 w.played)(ha200:zxk f ca200 number)(hp:zuf w number=some rz)(hq:∀m',Ext m m'->Q (.agg 2 [Il rz.Lo,Il rz.Hi]) m'):Wc prog tbl 68 [.agg 24 [ca100,Il w.p.Reserve,ca102,ca103,Il w.kinds.k0.part.Lo,Il w.kinds.k0.part.Hi,Il w.kinds.k0.above.Lo,Il w.kinds.k0.above.Hi,Il w.kinds.k0.most.Lo,Il w.kinds.k0.most.Hi,Il w.kinds.k0.times.Lo,Il w.kinds.k0.times.Hi,ca112,Il w.kinds.k1.part.Lo,Il w.kinds.k1.part.Hi,Il w.kinds.k1.above.Lo,Il w.kinds.k1.above.Hi,Il w.kinds.k1.most.Lo,Il w.kinds.k1.most.Hi,Il w.kinds.k1.times.Lo,Il w.kinds.k1.times.Hi,ca121,ca122,ca123],.c ca200] m Q:=by
 have S0:=hS.st;obtain⟨τ0,_⟩:=zsm;refine w68 ?_;unfold zuf at hp;intro m0 Va;obtain⟨Wa,Xa,Xc,Ya⟩:=S0.blk Va τ0 1;intro m1 Za;obtain⟨ab,bb,cb,db⟩:=Xa.blk Za Wa 2;have qa:=Ya.k cb;refine⟨trivial,_,qa.bk.rc rfl,?_⟩;obtain⟨Rc,eb,Ja,Ka,La⟩:=MiS.rng zxm bb ha123 ab 3;have hp:=zrp hp Ja;refine⟨eb,Ka,?_⟩;intro m4 fb;obtain⟨gb,hb,sa,ib⟩:=La m4 fb;have D:=qa.k sa;have s:=db.k sa;intro R5 Kc
 have hgo:∀(t:Nat) (c6:C) (o:List Int) (F:List P5) (m7:M) (h:Nat->Nat),St (Fm.of m) f f m7->Lb (Fm.of m) f h m7 1 m.nxt 24 [ca100,Il w.p.Reserve,ca102,ca103,Il w.kinds.k0.part.Lo,Il w.kinds.k0.part.Hi,Il w.kinds.k0.above.Lo,Il w.kinds.k0.above.Hi,Il w.kinds.k0.most.Lo,Il w.kinds.k0.most.Hi,Il w.kinds.k0.times.Lo,Il w.kinds.k0.times.Hi,ca112,Il w.kinds.k1.part.Lo,Il w.kinds.k1.part.Hi,Il w.kinds.k1.above.Lo,Il w.kinds.k1.above.Hi,Il w.kinds.k1.most.Lo,Il w.kinds.k1.most.Hi,Il w.kinds.k1.times.Lo,Il w.kinds.k1.times.Hi,ca121,ca122,ca123]->Lb (Fm.of m) f h m7 2 m0.nxt 2 [Il 0,Il 0]->Ow (Fm.of m) f h m7 4 c6 o->IrS (Fm.of m) f h m7 3 m1.nxt ca123 w.played F->pboundsW_L0 w number t o F=some rz->R5 [.c c6] m7:=by
  intro t
  induction t with
  | zero=>intro c6 o F m7 h G D s d da hp; cases hp
  | succ t ta=>
   intro c6 o F m7 h G D s d da hp;refine Kc _ _ ?_;rw[pboundsW_L0] at hp;obtain⟨l8,Na,Oa,Pa⟩:=da.next G;refine⟨l8,Na,fun jb=>?_,fun fd hd Nc kb=>?_⟩
   ·have hp:=zrs (Oa jb) hp;obtain⟨bd,I,ua,va⟩:=d.freeze G;have mb:=s.k ua;have ob:=da.k ua G.sub I (by decide);obtain⟨pb,qb,hp⟩:=zqq hp;refine zvW (l:=o) I.pre va qb fun id rb=>?_;obtain⟨J,wa⟩:=I.call rb h;have sb:=mb.k wa;have tb:=ob.k wa I.sub J (by decide);refine⟨_,rfl,?_⟩;obtain⟨ub,vb,hp⟩:=zqq hp;refine zvX (l:=o) J.pre va vb fun jd wb=>?_;obtain⟨ea,xa⟩:=J.call wb h;have xb:=sb.k xa;have yb:=tb.k xa J.sub ea (by decide);refine⟨_,rfl,?_⟩;obtain⟨zb,Ab,ya,Bb,Cb⟩:=xb.sto ea [Il pb,Il ub];have cd:=yb.k Bb ea.sub ya (by decide);refine⟨zb,Ab,?_⟩;refine⟨_,_,Cb.bk.ra,?_⟩;obtain rfl:=oi hp;exact hq _ ya.ext'
   obtain⟨Db,e,Eb,Fb,dd,Qa,Tc,Ra,za,N,Aa,fa,Ba⟩:=Pa _ _ _ kb;have hp:=zrt Qa hp;obtain⟨Ca,Sa,hp⟩:=zqq hp;obtain rfl:Ca=Fb:=oi (Sa.symm.trans Ra);generalize Db++Eb=Da at hp Ba;have Gb:=D.k fa;have Hb:=s.k fa;have d:=d.k fa;refine⟨_,_,_,_,_,_,za,?_⟩;intro kd Ib;obtain⟨ga,ha,O,Jb⟩:=Aa.blk Ib h 5;have Kb:=Gb.k O;have Mb:=Hb.k O;have d:=d.k O;have Nb:=Ba.k O Aa.sub ha (by decide);obtain⟨Ob,Pb,P,S,Ea⟩:=Jb.sto ha [Il e.p0,Il e.p1,Il e.p2,Il e.p3,Il e.p4];have Fa:=Kb.k S;have Qb:=Mb.k S;have d:=d.k S;have Rb:=Nb.k S ha.sub P (by decide);refine⟨Ob,Pb,?_⟩;refine⟨_,_,_,_,_,Ea.bk.ra,trivial,trivial,_,Fa.bk.rc rfl,?_⟩;obtain⟨ed,Sb,hp⟩:=zqq hp;refine zwB (p:=e) (reports:=w.p.Reports) P.pre ha103 Sb fun ld Tb=>?_;obtain⟨ia,u⟩:=P.call Tb ga;have q:=Fa.k u;have r:=Qb.k u;have T:=Ea.k u;have d:=d.k u;have Ga:=Rb.k u P.sub ia (by decide);refine⟨_,rfl,?_⟩;refine zq3 hp (fun Ub hp=>?_) fun Ub hp=>?_
   ·exact ta _ _ _ _ ga ia q r d Ga hp
   refine⟨N.isSl,?_⟩;intro Pc Vb
   have hgo:∀(Y:Nat) (na:C) (oa:Int) (Z:List Int) (n:M) (i:Nat->Nat),St (Fm.of m) f f n->Lb (Fm.of m) f i n 1 m.nxt 24 [ca100,Il w.p.Reserve,ca102,ca103,Il w.kinds.k0.part.Lo,Il w.kinds.k0.part.Hi,Il w.kinds.k0.above.Lo,Il w.kinds.k0.above.Hi,Il w.kinds.k0.most.Lo,Il w.kinds.k0.most.Hi,Il w.kinds.k0.times.Lo,Il w.kinds.k0.times.Hi,ca112,Il w.kinds.k1.part.Lo,Il w.kinds.k1.part.Hi,Il w.kinds.k1.above.Lo,Il w.kinds.k1.above.Hi,Il w.kinds.k1.most.Lo,Il w.kinds.k1.most.Hi,Il w.kinds.k1.times.Lo,Il w.kinds.k1.times.Hi,ca121,ca122,ca123]->Lb (Fm.of m) f i n 2 m0.nxt 2 [Il 0,Il 0]->Lb (Fm.of m) f i n 5 Nc.nxt 5 [Il e.p0,Il e.p1,Il e.p2,Il e.p3,Il e.p4]->Ow (Fm.of m) f i n 4 na Z->IrS (Fm.of m) f i n 3 m1.nxt ca123 w.played Da->zue number Ca Da (pboundsW_L0 w number t) Y Z oa=some rz->Pc [.c na,.c (Il oa)] n:=by
    intro Y
    induction Y with
    | zero=>intro na oa Z n i y q r T j ja hp; cases hp
    | succ Y Ta=>
     intro na oa Z n i y q r T j ja hp;refine Vb _ _ _ ?_;rw[zue] at hp
     try rw[N.slLen]
     refine ifd hp (fun Wb hp=>?_) fun Wb hp=>?_; rotate_left
     ·exact ta _ _ _ _ i y q r j ja hp
     obtain⟨g,ka,hp⟩:=zqq hp;obtain⟨Qc,Ua,pa,ka⟩:=zqk ka;obtain⟨_,Xb⟩:=zsv N ka;refine⟨Qc,Ua,(by first|exact pa|(rw[N.slLen];exact pa)),_,_,_,_,_,_,_,_,_,_,_,(Xb _ y.sub).1,?_⟩;intro md Yb;obtain⟨Zb,la,z,ac⟩:=y.blk Yb i 6;have bc:=q.k z;have cc:=r.k z;have dc:=T.k z;have j:=j.k z;have ec:=ja.k z y.sub la (by decide);obtain⟨fc,gc,aa,A,hc⟩:=ac.sto la [Il g.pays.p0,Il g.pays.p1,Il g.pays.p2,Il g.pays.p3,Il g.pays.p4,Il g.keeps.p0,Il g.keeps.p1,Il g.keeps.p2,Il g.keeps.p3,Il g.keeps.p4,Il g.society];have ic:=bc.k A;have jc:=cc.k A;have kc:=dc.k A;have j:=j.k A;have nc:=ec.k A la.sub aa (by decide);refine⟨fc,gc,?_⟩;refine⟨_,_,_,_,_,_,_,_,_,_,_,hc.bk.ra,?_⟩;obtain⟨Ha,pc,hp⟩:=zqq hp;refine ha200 _ _ _ _ _ (Sub.refl _) aa.pre  pc fun nd qc=>?_;obtain⟨ma,B⟩:=aa.call qc Zb;have sc:=ic.k B;have tc:=jc.k B;have uc:=kc.k B;have j:=j.k B;have vc:=nc.k B aa.sub ma (by decide);refine⟨_,rfl,?_⟩;obtain⟨wc,hp⟩:=zqr hp;intro od xc;obtain⟨yc,zc,Ac,Bc,Ia,ba,Cc⟩:=j.app' zvB ma (a:=Ha) (show Rp.rep (α:=Int) f _ Ha from rfl) wc xc;have Dc:=sc.k ba;have Ec:=tc.k ba;have Fc:=uc.k ba;have Gc:=vc.k ba ma.sub Ia (by decide);refine⟨yc,zc,Bc,?_⟩;refine gdi hp fun Hc hp=>?_;exact Ta _ _ _ _ Ac Ia Dc Ec Fc Cc Gc hp
   exact hgo _ _ _ _ _ ga ia q r T d Ga hp
 exact hgo _ _ _ _ _ gb hb D s (Ow.nil _ _ _ _ _) ib hp
theorem zxv{p:Pg}{ca100 ca102 ca103:C}{m f:M}{Q:V->M->Prop}{rz:Wk × Int}(hS:Pre f m)(ha100:Sl f ca100 p.Losses)(ha102:Sl f ca102 p.Treaties)(ha103:Sl f ca103 p.Reports)(hp:zug p=some rz)(hq:∀m' f' c0 c2 c3 c12 c21 c22 c23,Grw m f m' f'->Sl f' c0 rz.1.p.Losses->Sl f' c2 rz.1.p.Treaties->Sl f' c3 rz.1.p.Reports->zvv f' c12 rz.1.kinds.k0.takes->zvv f' c21 rz.1.kinds.k1.takes->zrH f' c22 rz.1.shared->MiS f' c23 rz.1.played->Q (.tup [.agg 24 [c0,Il rz.1.p.Reserve,c2,c3,Il rz.1.kinds.k0.part.Lo,Il rz.1.kinds.k0.part.Hi,Il rz.1.kinds.k0.above.Lo,Il rz.1.kinds.k0.above.Hi,Il rz.1.kinds.k0.most.Lo,Il rz.1.kinds.k0.most.Hi,Il rz.1.kinds.k0.times.Lo,Il rz.1.kinds.k0.times.Hi,c12,Il rz.1.kinds.k1.part.Lo,Il rz.1.kinds.k1.part.Hi,Il rz.1.kinds.k1.above.Lo,Il rz.1.kinds.k1.above.Hi,Il rz.1.kinds.k1.most.Lo,Il rz.1.kinds.k1.most.Hi,Il rz.1.kinds.k1.times.Lo,Il rz.1.kinds.k1.times.Hi,c21,c22,c23],.c (Il rz.2)]) m'):Wc prog tbl 67 [.agg 4 [ca100,Il p.Reserve,ca102,ca103]] m Q:=by
 have S0:=hS.st;obtain⟨τ0,_⟩:=zsm;refine w67 ?_;unfold zug at hp;intro m0 ga;obtain⟨ha,ia,db,ja⟩:=S0.blk ga τ0 1;intro m1 ka;obtain⟨h,D,la,ma⟩:=ia.blk ka ha 2;have F:=ja.k la;refine⟨_,_,_,_,F.bk.ra,?_⟩;obtain⟨eb,na,hp⟩:=zqq hp;refine zws (p:=p) D.pre ha100 ha102 ha103 na fun m7 oa=>?_;obtain⟨i,G⟩:=D.call oa h;have pa:=F.k G;have I:=ma.k G;refine⟨_,rfl,?_⟩;refine zq1 hp (fun qa hp=>?_) fun qa hp=>?_
 ·obtain⟨sa,ta,ua,fb,va⟩:=I.sto i [.sl0,Il 0,.sl0,.sl0,Il 0,Il 0,Il 0,Il 0,Il 0,Il 0,Il 0,Il 0,C.nilFn,Il 0,Il 0,Il 0,Il 0,Il 0,Il 0,Il 0,Il 0,C.nilFn,C.map0,C.map0];refine⟨sa,ta,?_⟩;refine⟨_,_,_,_,_,_,_,_,_,_,_,_,_,_,_,_,_,_,_,_,_,_,_,_,va.bk.ra,?_⟩
  have Xa:zvv f .nilFn (fun _ _ _=>none):=by refine⟨rfl,?_⟩; intro j l _ _ _ n o _ _ d; exact absurd d (by intro e; cases e)
  have Ya:zvv f .nilFn (fun _ _ _=>none):=by refine⟨rfl,?_⟩; intro j l _ _ _ n o _ _ d; exact absurd d (by intro e; cases e)
  have ca:zvv f .nilFn (fun _ _ _=>none):=by refine⟨rfl,?_⟩; intro j l _ _ _ n o _ _ d; exact absurd d (by intro e; cases e)
  have da:zvv f .nilFn (fun _ _ _=>none):=by refine⟨rfl,?_⟩; intro j l _ _ _ n o _ _ d; exact absurd d (by intro e; cases e)
  obtain rfl:=oi hp;exact hq _ f .sl0 .sl0 .sl0 C.nilFn C.nilFn C.map0 C.map0 ua.grw (Sl.nil _) (Sl.nil _) (Sl.nil _) ca da (show zrH _ _ _ from rfl) (MiS.nil0 _)
 refine⟨_,_,_,_,pa.bk.ra,?_⟩;obtain⟨a,wa,hp⟩:=zqq hp;refine zxs (p:=p) i.pre ha100 ha102 ha103 wa fun jb g q r s t u y z xa J N A O P S T=>?_;obtain⟨ya,za⟩:=i.callG xa h;have Aa:=I.k za;refine⟨_,_,_,_,_,_,_,_,_,_,_,_,_,_,_,_,_,_,_,_,_,_,_,_,rfl,?_⟩;intro kb Ba;obtain⟨Ca,Da,Ea,Fa⟩:=ya.blk Ba h 3;have Ga:=Aa.k Ea;obtain⟨Ha,Ia,Y,Ja,B⟩:=Fa.sto Da [q,Il a.p.Reserve,r,s,Il a.kinds.k0.part.Lo,Il a.kinds.k0.part.Hi,Il a.kinds.k0.above.Lo,Il a.kinds.k0.above.Hi,Il a.kinds.k0.most.Lo,Il a.kinds.k0.most.Hi,Il a.kinds.k0.times.Lo,Il a.kinds.k0.times.Hi,t,Il a.kinds.k1.part.Lo,Il a.kinds.k1.part.Hi,Il a.kinds.k1.above.Lo,Il a.kinds.k1.above.Hi,Il a.kinds.k1.most.Lo,Il a.kinds.k1.most.Hi,Il a.kinds.k1.times.Lo,Il a.kinds.k1.times.Hi,u,y,z];have Ka:=Ga.k Ja;refine⟨Ha,Ia,?_⟩;refine⟨_,_,_,_,_,_,_,_,_,_,_,_,_,_,_,_,_,_,_,_,_,_,_,_,B.bk.ra,trivial,trivial,_,B.bk.rc rfl,?_⟩;obtain⟨gb,La,hp⟩:=zqq hp;refine zxt (w:=({ p:=a.p,kinds:=a.kinds,shared:=(),played:=a.played }:Wk)) (reports:=a.p.Reports) Y.pre J N A O P (show zrH _ _ _ from S.noFn) T A La fun mb Ma=>?_;obtain⟨Z,aa⟩:=Y.call Ma Ca;have ba:=Ka.k aa;have Na:=B.k aa;refine⟨_,rfl,?_⟩;refine zq3 hp (fun Oa hp=>?_) fun Oa hp=>?_; rotate_left
 ·refine⟨_,_,_,_,_,_,_,_,_,_,_,_,_,_,_,_,_,_,_,_,_,_,_,_,Na.bk.ra,?_⟩;obtain⟨Pa,Qa,Ra,hb,Sa⟩:=ba.sto Z [q,Il a.p.Reserve,r,s,Il a.kinds.k0.part.Lo,Il a.kinds.k0.part.Hi,Il a.kinds.k0.above.Lo,Il a.kinds.k0.above.Hi,Il a.kinds.k0.most.Lo,Il a.kinds.k0.most.Hi,Il a.kinds.k0.times.Lo,Il a.kinds.k0.times.Hi,t,Il a.kinds.k1.part.Lo,Il a.kinds.k1.part.Hi,Il a.kinds.k1.above.Lo,Il a.kinds.k1.above.Hi,Il a.kinds.k1.most.Lo,Il a.kinds.k1.most.Hi,Il a.kinds.k1.times.Lo,Il a.kinds.k1.times.Hi,u,y,z];refine⟨Pa,Qa,?_⟩;refine⟨_,_,_,_,_,_,_,_,_,_,_,_,_,_,_,_,_,_,_,_,_,_,_,_,Sa.bk.ra,?_⟩;obtain rfl:=oi hp;exact hq _ g q r s t u y z Ra.grw J N A O P (show zrH _ _ _ from S.noFn) T
 obtain⟨Ta,Ua,Va,ib,Wa⟩:=ba.sto Z [.sl0,Il 0,.sl0,.sl0,Il 0,Il 0,Il 0,Il 0,Il 0,Il 0,Il 0,Il 0,C.nilFn,Il 0,Il 0,Il 0,Il 0,Il 0,Il 0,Il 0,Il 0,C.nilFn,C.map0,C.map0];refine⟨Ta,Ua,?_⟩;refine⟨_,_,_,_,_,_,_,_,_,_,_,_,_,_,_,_,_,_,_,_,_,_,_,_,Wa.bk.ra,?_⟩
 have Za:zvv g .nilFn (fun _ _ _=>none):=by refine⟨rfl,?_⟩; intro j l _ _ _ n o _ _ d; exact absurd d (by intro e; cases e)
 have ab:zvv g .nilFn (fun _ _ _=>none):=by refine⟨rfl,?_⟩; intro j l _ _ _ n o _ _ d; exact absurd d (by intro e; cases e)
 have ea:zvv g .nilFn (fun _ _ _=>none):=by refine⟨rfl,?_⟩; intro j l _ _ _ n o _ _ d; exact absurd d (by intro e; cases e)
 have fa:zvv g .nilFn (fun _ _ _=>none):=by refine⟨rfl,?_⟩; intro j l _ _ _ n o _ _ d; exact absurd d (by intro e; cases e)
 obtain rfl:=oi hp;exact hq _ g .sl0 .sl0 .sl0 C.nilFn C.nilFn C.map0 C.map0 Va.grw (Sl.nil _) (Sl.nil _) (Sl.nil _) ea fa (show zrH _ _ _ from rfl) (MiS.nil0 _)
theorem zxw{o:Oc}{treaty:Int}{b0:Nat}{m f:M}{Q:V->M->Prop}{rz:Int}(hS:Pre f m)(hb0:Bk f b0 1 [Il treaty])(hp:zuh o treaty=some rz)(hq:∀m',Ext m m'->Q (.c (Il rz)) m'):Wc prog tbl 69 [.agg 11 [Il o.pays.p0,Il o.pays.p1,Il o.pays.p2,Il o.pays.p3,Il o.pays.p4,Il o.keeps.p0,Il o.keeps.p1,Il o.keeps.p2,Il o.keeps.p3,Il o.keeps.p4,Il o.society],.c (.ptr b0 0)] m Q:=by
 have j:=hS.st;obtain⟨n,_⟩:=zsm;refine c69 ?_;unfold zuh at hp;intro t h;obtain⟨p,d,q,i⟩:=j.blk h n 1;refine⟨_,(hb0.sub d.sub).rc rfl,trivial,trivial,?_⟩;obtain⟨r,a,hp⟩:=zqq hp;obtain⟨s,e,g,a⟩:=zqk a;refine⟨s,e,g,_,(i.bk.rc (zqX (l:=([o.pays.p0,o.pays.p1,o.pays.p2,o.pays.p3,o.pays.p4]:List Int)) (enc:=(C.int .i64)) 0 rfl a)),?_⟩;obtain rfl:=oi hp;exact hq _ d.ext'
theorem zxx{o:Oc}{treaty:Int}{b0:Nat}{m f:M}{Q:V->M->Prop}{rz:Int}(hS:Pre f m)(hb0:Bk f b0 1 [Il treaty])(hp:zui o treaty=some rz)(hq:∀m',Ext m m'->Q (.c (Il rz)) m'):Wc prog tbl 70 [.agg 11 [Il o.pays.p0,Il o.pays.p1,Il o.pays.p2,Il o.pays.p3,Il o.pays.p4,Il o.keeps.p0,Il o.keeps.p1,Il o.keeps.p2,Il o.keeps.p3,Il o.keeps.p4,Il o.society],.c (.ptr b0 0)] m Q:=by
 have j:=hS.st;obtain⟨n,_⟩:=zsm;refine c70 ?_;unfold zui at hp;intro t h;obtain⟨p,d,q,i⟩:=j.blk h n 1;refine⟨_,(hb0.sub d.sub).rc rfl,trivial,trivial,?_⟩;obtain⟨r,a,hp⟩:=zqq hp;obtain⟨s,e,g,a⟩:=zqk a;refine⟨s,e,g,_,(i.bk.rc (zqX (l:=([o.keeps.p0,o.keeps.p1,o.keeps.p2,o.keeps.p3,o.keeps.p4]:List Int)) (enc:=(C.int .i64)) 5 rfl a)),?_⟩;obtain rfl:=oi hp;exact hq _ d.ext'
theorem zxy{p:Pg}{ca100 ca102 ca103:C}{m f:M}{Q:V->M->Prop}{rz:List Bd × Int}(hS:Pre f m)(ha100:Sl f ca100 p.Losses)(ha102:Sl f ca102 p.Treaties)(ha103:Sl f ca103 p.Reports)(hp:zuk p=some rz)(hq:∀m' f' c0,Grw m f m' f'->Sl f' c0 rz.1->Q (.tup [.c c0,.c (Il rz.2)]) m'):Wc prog tbl 24 [.agg 4 [ca100,Il p.Reserve,ca102,ca103]] m Q:=by
 have S0:=hS.st;obtain⟨τ0,_⟩:=zsm;refine w24 ?_;unfold zuk at hp;intro m0 ya;obtain⟨ba,ca,Bb,da⟩:=S0.blk ya τ0 1;refine⟨_,_,_,_,da.bk.ra,?_⟩;obtain⟨d,za,hp⟩:=zqq hp;refine zxv (p:=p) ca.pre ha100 ha102 ha103 za fun m6 A ea fa ga ha ia ja ka Aa B D F G I J N=>?_;obtain⟨Ba,Ca⟩:=ca.callG Aa ba;have Da:=da.k Ca;refine⟨_,_,_,_,_,_,_,_,_,_,_,_,_,_,_,_,_,_,_,_,_,_,_,_,_,rfl,?_⟩;intro Gb Ea;obtain⟨Fa,Ga,Ha,Ia⟩:=Ba.blk Ea ba 2;have Ja:=Da.k Ha;obtain⟨Ka,La,la,Ma,q⟩:=Ia.sto Ga [ea,Il d.1.p.Reserve,fa,ga,Il d.1.kinds.k0.part.Lo,Il d.1.kinds.k0.part.Hi,Il d.1.kinds.k0.above.Lo,Il d.1.kinds.k0.above.Hi,Il d.1.kinds.k0.most.Lo,Il d.1.kinds.k0.most.Hi,Il d.1.kinds.k0.times.Lo,Il d.1.kinds.k0.times.Hi,ha,Il d.1.kinds.k1.part.Lo,Il d.1.kinds.k1.part.Hi,Il d.1.kinds.k1.above.Lo,Il d.1.kinds.k1.above.Hi,Il d.1.kinds.k1.most.Lo,Il d.1.kinds.k1.most.Hi,Il d.1.kinds.k1.times.Lo,Il d.1.kinds.k1.times.Hi,ia,ja,ka];have l:=Ja.k Ma;refine⟨Ka,La,?_⟩;refine zq1 hp (fun Na hp=>?_) fun Na hp=>?_
 ·obtain rfl:=oi hp;exact hq _ A .sl0 la.grw (Sl.nil _)
 refine⟨trivial,_,l.bk.rc rfl,ha102.isSl,?_⟩;intro Ab zb
 have hgo:∀(s:Nat) (Z:C) (n:Int) (t:List Bd) (o:M) (i:M) (j:Nat->Nat),St (Fm.of m) f i o->Sub A i->Lb (Fm.of m) i j o 1 m.nxt 4 [ca100,Il p.Reserve,ca102,ca103]->Lb (Fm.of m) i j o 2 m6.nxt 24 [ea,Il d.1.p.Reserve,fa,ga,Il d.1.kinds.k0.part.Lo,Il d.1.kinds.k0.part.Hi,Il d.1.kinds.k0.above.Lo,Il d.1.kinds.k0.above.Hi,Il d.1.kinds.k0.most.Lo,Il d.1.kinds.k0.most.Hi,Il d.1.kinds.k0.times.Lo,Il d.1.kinds.k0.times.Hi,ha,Il d.1.kinds.k1.part.Lo,Il d.1.kinds.k1.part.Hi,Il d.1.kinds.k1.above.Lo,Il d.1.kinds.k1.above.Hi,Il d.1.kinds.k1.most.Lo,Il d.1.kinds.k1.most.Hi,Il d.1.kinds.k1.times.Lo,Il d.1.kinds.k1.times.Hi,ia,ja,ka]->Ow (Fm.of m) i j o 3 Z t->zuj p d s t n=some rz->Ab [.c Z,.c (Il n)] o:=by
  intro s
  induction s with
  | zero=>intro Z n t o i j O e l q h hp; cases hp
  | succ s Oa=>
   intro Z n t o i j O e l q h hp;refine zb _ _ _ ?_;rw[zuj] at hp
   try rw[ha102.slLen]
   refine ifd hp (fun Pa hp=>?_) fun Pa hp=>?_; rotate_left
   ·obtain⟨Qa,Ra,Cb,Sa⟩:=h.freeze O;obtain rfl:=oi hp;exact hq _ Qa Z Ra.grw Sa
   intro Hb Ta;obtain⟨ma,Ua,P,Va⟩:=O.blk Ta j 4;have Wa:=l.k P;have Xa:=q.k P;have h:=h.k P;obtain⟨Ya,Za,ab,S,bb⟩:=Va.sto Ua [Il n];have cb:=Wa.k S;have na:=Xa.k S;have h:=h.k S;refine⟨Ya,Za,?_⟩;refine⟨_,_,_,_,_,_,_,_,_,_,_,_,_,_,_,_,_,_,_,_,_,_,_,_,na.bk.ra,?_⟩;obtain⟨u,oa,g,aa⟩:=bb.freeze ab;have db:=cb.k g;have pa:=na.k g;have h:=h.k g
   have wa:zxk u ((C.fn (Fn.func 69) [] [(W.c (C0.ptr o.nxt 0))])) (fun y=>zuh y n):=by
    intro f' m' y r Q hs hpre  hg hq;exact zxw hpre (aa.sub hs) hg hq
   obtain⟨qa,eb,hp⟩:=zqq hp;refine zxu (w:=({ p:=d.1.p,kinds:=d.1.kinds,shared:=(),played:=d.1.played }:Wk)) (number:=(fun y=>zuh y n)) oa.pre (B.sub (Sub.trans e g.fs)) (D.sub (Sub.trans e g.fs)) (F.sub (Sub.trans e g.fs)) (G.sub (Sub.trans e g.fs)) (I.sub (Sub.trans e g.fs)) (show zrH _ _ _ from J.noFn) (N.sub (Sub.trans e g.fs)) wa eb fun Ib fb=>?_;obtain⟨sa,T⟩:=oa.call fb ma;have gb:=db.k T;have ta:=pa.k T;have h:=h.k T;refine⟨_,_,rfl,_,_,_,_,_,_,_,_,_,_,_,_,_,_,_,_,_,_,_,_,_,_,_,_,ta.bk.ra,(by rw[show zaL cmC _=true from (zrO (zoW B.noFn) (zrO (zoW rfl) (zrO (zoW D.noFn) (zrO (zoW F.noFn) (zrO (zoW rfl) (zrO (zoW rfl) (zrO (zoW rfl) (zrO (zoW rfl) (zrO (zoW rfl) (zrO (zoW rfl) (zrO (zoW rfl) (zrO (zoW rfl) (zrO (zrM G.1) (zrO (zoW rfl) (zrO (zoW rfl) (zrO (zoW rfl) (zrO (zoW rfl) (zrO (zoW rfl) (zrO (zoW rfl) (zrO (zoW rfl) (zrO (zoW rfl) (zrO (zrM I.1) (zrO (zoW J.noFn) (zrO (zoW N.noFn) zrN))))))))))))))))))))))))]; exact(pa.bk.ra)),?_⟩
   have xa:zxk u ((C.fn (Fn.func 70) [] [(W.c (C0.ptr o.nxt 0))])) (fun z=>zui z n):=by
    intro f' m' z r Q hs hpre  hg hq;exact zxx hpre (aa.sub hs) hg hq
   obtain⟨ua,hb,hp⟩:=zqq hp;refine zxu (w:=({ p:=d.1.p,kinds:=d.1.kinds,shared:=(),played:=d.1.played }:Wk)) (number:=(fun z=>zui z n)) sa.pre (B.sub (Sub.trans e g.fs)) (D.sub (Sub.trans e g.fs)) (F.sub (Sub.trans e g.fs)) (G.sub (Sub.trans e g.fs)) (I.sub (Sub.trans e g.fs)) (show zrH _ _ _ from J.noFn) (N.sub (Sub.trans e g.fs)) xa hb fun Jb ib=>?_;obtain⟨jb,Y⟩:=sa.call ib ma;have kb:=gb.k Y;have mb:=ta.k Y;have h:=h.k Y;refine⟨_,_,rfl,?_⟩;obtain⟨ob,hp⟩:=zqr hp;intro Kb pb;obtain⟨qb,rb,sb,tb,ub,va,vb⟩:=h.app' zxo jb (a:=({ Pays:=qa,Keeps:=ua }:Bd)) (show Rp.rep (α:=Bd) u _ ({ Pays:=qa,Keeps:=ua }:Bd) from rfl) ob pb;have wb:=kb.k va;have xb:=mb.k va;refine⟨qb,rb,tb,?_⟩;refine gdi hp fun yb hp=>?_;exact Oa _ _ _ _ u sb ub (Sub.trans e g.fs) wb xb vb hp
 exact hgo _ _ _ _ _ A Fa la (Sub.refl _) l q (Ow.nil _ _ _ _ _) hp
theorem zxz{p:Pg}{ca100 ca102 ca103:C}{m f:M}{Q:V->M->Prop}{rz:Rg × Int}(hS:Pre f m)(ha100:Sl f ca100 p.Losses)(ha102:Sl f ca102 p.Treaties)(ha103:Sl f ca103 p.Reports)(hp:zul p=some rz)(hq:∀m',Ext m m'->Q (.tup [.agg 2 [Il rz.1.Lo,Il rz.1.Hi],.c (Il rz.2)]) m'):Wc prog tbl 25 [.agg 4 [ca100,Il p.Reserve,ca102,ca103]] m Q:=by
 have S0:=hS.st;obtain⟨τ0,_⟩:=zsm;refine w25 ?_;unfold zul at hp;intro m0 n;obtain⟨o,q,Fa,s⟩:=S0.blk n τ0 1;intro m1 t;obtain⟨g,h,u,y⟩:=q.blk t o 2;have z:=s.k u;refine⟨_,_,_,_,z.bk.ra,?_⟩;obtain⟨a,A,hp⟩:=zqq hp;refine zxv (p:=p) h.pre ha100 ha102 ha103 A fun m7 B D F G I J N O P S T Y Z aa ba ca=>?_;obtain⟨da,ea⟩:=h.callG P g;have fa:=y.k ea;refine⟨_,_,_,_,_,_,_,_,_,_,_,_,_,_,_,_,_,_,_,_,_,_,_,_,_,rfl,?_⟩;intro Ka ga;obtain⟨ha,ia,ja,ka⟩:=da.blk ga g 3;have la:=fa.k ja;obtain⟨ma,na,e,oa,pa⟩:=ka.sto ia [D,Il a.1.p.Reserve,F,G,Il a.1.kinds.k0.part.Lo,Il a.1.kinds.k0.part.Hi,Il a.1.kinds.k0.above.Lo,Il a.1.kinds.k0.above.Hi,Il a.1.kinds.k0.most.Lo,Il a.1.kinds.k0.most.Hi,Il a.1.kinds.k0.times.Lo,Il a.1.kinds.k0.times.Hi,I,Il a.1.kinds.k1.part.Lo,Il a.1.kinds.k1.part.Hi,Il a.1.kinds.k1.above.Lo,Il a.1.kinds.k1.above.Hi,Il a.1.kinds.k1.most.Lo,Il a.1.kinds.k1.most.Hi,Il a.1.kinds.k1.times.Lo,Il a.1.kinds.k1.times.Hi,J,N,O];have i:=la.k oa;refine⟨ma,na,?_⟩;refine zq1 hp (fun qa hp=>?_) fun qa hp=>?_
 ·obtain⟨sa,ta,ua,Ga,va⟩:=i.sto e [Il 0,Il 0];refine⟨sa,ta,?_⟩;refine⟨_,_,va.bk.ra,?_⟩;obtain rfl:=oi hp;exact hq _ ua.ext'
 refine⟨_,_,_,_,_,_,_,_,_,_,_,_,_,_,_,_,_,_,_,_,_,_,_,_,pa.bk.ra,?_⟩
 have l:zxk B ((C.fn (Fn.func 71) [] [])) (fun d=>ztU d):=by
  intro f' m' d r Q hs hpre  hg hq;exact zwz hpre  hg hq
 obtain⟨j,wa,hp⟩:=zqq hp;refine zxu (w:=({ p:=a.1.p,kinds:=a.1.kinds,shared:=(),played:=a.1.played }:Wk)) (number:=(fun d=>ztU d)) e.pre S T Y Z aa (show zrH _ _ _ from ba.noFn) ca l wa fun La xa=>?_;obtain⟨ya,za⟩:=e.call xa ha;have Aa:=i.k za;refine⟨_,_,rfl,?_⟩;obtain⟨Ba,Ca,Da,Ha,Ea⟩:=Aa.sto ya [Il j.Lo,Il j.Hi];refine⟨Ba,Ca,?_⟩;refine⟨_,_,Ea.bk.ra,?_⟩;obtain rfl:=oi hp;exact hq _ Da.ext'
theorem zxA{p:Pg}{set:List Int}{ca100 ca102 ca103 ca200:C}{m f:M}{Q:V->M->Prop}{rz:Rg}(hS:Pre f m)(ha100:Sl f ca100 p.Losses)(ha102:Sl f ca102 p.Treaties)(ha103:Sl f ca103 p.Reports)(ha200:Sl f ca200 set)(hp:zum p set=some rz)(hq:∀m',Ext m m'->Q (.agg 2 [Il rz.Lo,Il rz.Hi]) m'):Wc prog tbl 78 [.agg 4 [ca100,Il p.Reserve,ca102,ca103],.c ca200] m Q:=by
 have S0:=hS.st;obtain⟨τ0,_⟩:=zsm;refine w78 ?_;unfold zum at hp;intro m0 n;obtain⟨o,q,pa,s⟩:=S0.blk n τ0 1;intro m1 t;obtain⟨d,g,u,y⟩:=q.blk t o 2;have z:=s.k u;refine⟨_,_,_,_,z.bk.ra,?_⟩;obtain⟨A,B,hp⟩:=zqq hp;refine zwx (p:=p) (set:=set) g.pre ha100 ha102 ha103 ha200 B fun m7 qa sa ta ua D F G I=>?_;obtain⟨h,J⟩:=g.callG D d;have N:=y.k J;refine⟨_,_,_,_,rfl,?_⟩;obtain⟨e,O,hp⟩:=zqq hp;refine zxs (p:=A) h.pre F G I O fun Fa P va wa xa ya za Aa Ba S T Y Z aa ba ca da=>?_;obtain⟨i,ea⟩:=h.callG S d;have fa:=N.k ea;refine⟨_,_,_,_,_,_,_,_,_,_,_,_,_,_,_,_,_,_,_,_,_,_,_,_,rfl,?_⟩
 have l:zxk P ((C.fn (Fn.func 71) [] [])) (fun a=>ztU a):=by
  intro f' m' a r Q hs hpre  hg hq;exact zwz hpre  hg hq
 obtain⟨j,ga,hp⟩:=zqq hp;refine zxu (w:=({ p:=e.p,kinds:=e.kinds,shared:=(),played:=e.played }:Wk)) (number:=(fun a=>ztU a)) i.pre T Y Z aa ba (show zrH _ _ _ from ca.noFn) da l ga fun Ga ha=>?_;obtain⟨ia,ja⟩:=i.call ha d;have ka:=fa.k ja;refine⟨_,_,rfl,?_⟩;obtain⟨la,ma,na,Ca,oa⟩:=ka.sto ia [Il j.Lo,Il j.Hi];refine⟨la,ma,?_⟩;refine⟨_,_,oa.bk.ra,?_⟩;obtain rfl:=oi hp;exact hq _ na.ext'
theorem zxB{p:Pg}{set:List Int}{ca100 ca102 ca103 ca200:C}{m f:M}{Q:V->M->Prop}{rz:Bool}(hS:Pre f m)(ha100:Sl f ca100 p.Losses)(ha102:Sl f ca102 p.Treaties)(ha103:Sl f ca103 p.Reports)(ha200:Sl f ca200 set)(hp:zun p set=some rz)(hq:∀m',Ext m m'->Q (.c (.bool rz)) m'):Wc prog tbl 80 [.agg 4 [ca100,Il p.Reserve,ca102,ca103],.c ca200] m Q:=by
 have r:=hS.st;obtain⟨s,_⟩:=zsm;refine w80 ?_;unfold zun at hp;intro t e;obtain⟨g,d,o,a⟩:=r.blk e s 1;refine⟨_,_,_,_,a.bk.ra,?_⟩;obtain⟨q,h,hp⟩:=zqq hp;refine zxA (p:=p) (set:=set) d.pre ha100 ha102 ha103 ha200 h fun u i=>?_;obtain⟨j,l⟩:=d.call i g;have n:=a.k l;refine⟨_,_,rfl,trivial,_,n.bk.rc rfl,(a.bk.rc rfl),?_⟩;obtain rfl:=oi hp;exact hq _ j.ext'
theorem zxC{p:Pg}{set:List Int}{ca100 ca102 ca103 ca200:C}{m f:M}{Q:V->M->Prop}{rz:Rg × Int}(hS:Pre f m)(ha100:Sl f ca100 p.Losses)(ha102:Sl f ca102 p.Treaties)(ha103:Sl f ca103 p.Reports)(ha200:Sl f ca200 set)(hp:zuo p set=some rz)(hq:∀m',Ext m m'->Q (.tup [.agg 2 [Il rz.1.Lo,Il rz.1.Hi],.c (Il rz.2)]) m'):Wc prog tbl 30 [.agg 4 [ca100,Il p.Reserve,ca102,ca103],.c ca200] m Q:=by
 have S0:=hS.st;obtain⟨τ0,_⟩:=zsm;refine w30 ?_;unfold zuo at hp;intro m0 s;obtain⟨t,u,la,w⟩:=S0.blk s τ0 1;intro m1 y;obtain⟨a,g,z,A⟩:=u.blk y t 2;have h:=w.k z;refine⟨_,_,_,_,h.bk.ra,?_⟩;obtain⟨ma,B,hp⟩:=zqq hp;refine zws (p:=p) g.pre ha100 ha102 ha103 B fun m7 D=>?_;obtain⟨d,i⟩:=g.call D a;have j:=h.k i;have n:=A.k i;refine⟨_,rfl,?_⟩;refine zq1 hp (fun F hp=>?_) fun F hp=>?_
 ·obtain⟨G,I,J,na,N⟩:=n.sto d [Il 0,Il 0];refine⟨G,I,?_⟩;refine⟨_,_,N.bk.ra,?_⟩;obtain rfl:=oi hp;exact hq _ J.ext'
 refine⟨_,_,_,_,j.bk.ra,?_⟩;obtain⟨oa,O,hp⟩:=zqq hp;refine zwv (p:=p) (l:=set) d.pre ha100 ha102 ha103 ha200 O fun ua P=>?_;obtain⟨e,o⟩:=d.call P a;have S:=j.k o;have q:=n.k o;refine⟨_,rfl,?_⟩;refine zq3 hp (fun T hp=>?_) fun T hp=>?_
 ·obtain⟨Y,Z,aa,pa,ba⟩:=q.sto e [Il 0,Il 0];refine⟨Y,Z,?_⟩;refine⟨_,_,ba.bk.ra,?_⟩;obtain rfl:=oi hp;exact hq _ aa.ext'
 refine⟨_,_,_,_,S.bk.ra,?_⟩;obtain⟨r,ca,hp⟩:=zqq hp;refine zxA (p:=p) (set:=set) e.pre ha100 ha102 ha103 ha200 ca fun va da=>?_;obtain⟨ea,fa⟩:=e.call da a;have ga:=q.k fa;refine⟨_,_,rfl,?_⟩;obtain⟨ha,ia,ja,qa,ka⟩:=ga.sto ea [Il r.Lo,Il r.Hi];refine⟨ha,ia,?_⟩;refine⟨_,_,ka.bk.ra,?_⟩;obtain rfl:=oi hp;exact hq _ ja.ext'
theorem zxD{p:Pg}{ca100 ca102 ca103:C}{m f:M}{Q:V->M->Prop}{rz:List Int × Bool}(hS:Pre f m)(ha100:Sl f ca100 p.Losses)(ha102:Sl f ca102 p.Treaties)(ha103:Sl f ca103 p.Reports)(hp:zur p=some rz)(hq:∀m' f' c0,Grw m f m' f'->Sl f' c0 rz.1->Q (.tup [.c c0,.c (.bool rz.2)]) m'):Wc prog tbl 81 [.agg 4 [ca100,Il p.Reserve,ca102,ca103]] m Q:=by
 have S0:=hS.st;obtain⟨τ0,_⟩:=zsm;refine w81 ?_;unfold zur at hp;intro m0 sb;obtain⟨tb,ub,Fd,vb⟩:=S0.blk sb τ0 1;intro m1 xb;obtain⟨yb,zb,Ab,Bb⟩:=ub.blk xb tb 2;have Cb:=vb.k Ab;intro m2 Db;obtain⟨Eb,Fb,Fa,G⟩:=zb.blk Db yb 3;have P:=Cb.k Fa;have I:=Bb.k Fa;refine⟨trivial,_,P.bk.rc rfl,ha102.isSl,?_⟩;obtain⟨Ga,hp⟩:=zqr hp;refine⟨(by first|exact Ga|(rw[ha102.slLen];exact Ga)),?_⟩;intro R4 zd
 have hgo:∀(y:Nat) (x5:Int) (z:C) (S:List Int) (J:Bool) (m6:M) (s:M) (t:Nat->Nat),St (Fm.of m) f s m6->Sub f s->Lb (Fm.of m) s t m6 1 m.nxt 4 [ca100,Il p.Reserve,ca102,ca103]->Lb (Fm.of m) s t m6 2 m0.nxt 1 [z]->Lb (Fm.of m) s t m6 3 m1.nxt 1 [.bool J]->Ow (Fm.of m) s t m6 4 z S->zuq p y S J x5=some rz->R4 [.c (Il x5)] m6:=by
  intro y
  induction y with
  | zero=>intro x5 z S J m6 s t na d P I G o hp; cases hp
  | succ y yd=>
   intro x5 z S J m6 s t na d P I G o hp;refine zd _ _ ?_;rw[zuq] at hp
   try rw[ha102.slLen]
   refine ifd hp (fun Gb hp=>?_) fun Gb hp=>?_; rotate_left
   ·refine⟨_,I.bk.rc rfl,_,G.bk.rc rfl,?_⟩;obtain⟨Hb,Ib,Jb,Ha,Kb⟩:=I.sto na [z];have Ia:=G.k Ha;have o:=o.k Ha;refine⟨Hb,Ib,?_⟩;refine⟨(Ia.bk.rc rfl),?_⟩;obtain⟨Mb,Nb,Ob,Ja,Pb⟩:=Ia.sto Jb [.bool J];have Qb:=Kb.k Ja;have o:=o.k Ja;refine⟨Mb,Nb,?_⟩;refine⟨_,Qb.bk.rc rfl,_,Pb.bk.rc rfl,?_⟩;obtain⟨Rb,Sb,Gd,Tb⟩:=o.freeze Ob;obtain rfl:=oi hp;exact hq _ Rb z Sb.grw Tb
   try rw[ha102.slLen]
   obtain⟨Hd,Ub,hp⟩:=zqq hp;refine zxj (n:=(p.Treaties.length:Int)) (size:=x5) na.pre  Ub fun m8 Id Jd Vb Wb=>?_;obtain⟨Xb,e⟩:=na.callG Vb t;have Ka:=P.k e;have La:=I.k e;have Ma:=G.k e;have o:=o.k e;refine⟨_,rfl,?_⟩;refine zrx (α:=List Int) Xb Wb (σ:=(List Int) × C × Bool) 5 (fun st bb=>(False\/(False\/((zqW st.2.1 bb)\/False)))) (fun st gG gF gT gM=>(Lb gG gF gT gM 1 m.nxt 4 [ca100,Il p.Reserve,ca102,ca103])/\(Lb gG gF gT gM 2 m0.nxt 1 [st.2.1])/\(Ow gG gF gT gM 4 st.2.1 st.1)/\(Lb gG gF gT gM 3 m1.nxt 1 [.bool st.2.2])) (fun rr_ st=>zup p x5 (zuq p y) rr_ st.1 st.2.2=some rz) (fun ex st=>False) (fun st=>(Gux.and (Gux.lb Ka.bk.lt (by decide)) (Gux.and (Gux.lb La.bk.lt (by decide)) (Gux.and (Gux.ow (by decide)) (Gux.lb Ma.bk.lt (by decide)))))) (st0:=(S,z,J)) (τ:=t) ⟨Ka,La,o,Ma⟩ hp ?_ ?_ ?_ ?_
   ·intro A Yb st oa i Na pa Ld Ad Cd Dd _ _ Zb g hA fb hp hrep Ed gb u;obtain⟨Md,rfl,⟨N,_⟩⟩:=hrep;obtain⟨j,q,r⟩:=st;obtain⟨B,D,a,F⟩:=hA
    replace B:Lb pa oa i Na 1 m.nxt 4 [ca100,Il p.Reserve,ca102,ca103]:=B
    replace D:Lb pa oa i Na 2 m0.nxt 1 [q]:=D
    replace a:Ow pa oa i Na 4 q j:=a
    replace F:Lb pa oa i Na 3 m1.nxt 1 [.bool r]:=F
    replace hp:zup p x5 (zuq p y) (A::Yb) j r=some rz:=hp
    rw[zup] at hp;refine⟨_,rfl,?_⟩;refine gb _ _ _ _ Zb fb fun fe Nd Oa qa hb w=>?_;have Pa:=B.k qa;have ac:=D.k qa;have bc:=F.k qa;have a:=a.k qa;refine⟨_,_,_,_,Pa.bk.ra,?_⟩;have Od:=a;obtain⟨Pd,cc,hp⟩:=zqq hp;refine zwv (p:=p) (l:=A) Oa.pre (ha100.sub (Sub.trans (Sub.trans d e.fs) g)) (ha102.sub (Sub.trans (Sub.trans d e.fs) g)) (ha103.sub (Sub.trans (Sub.trans d e.fs) g)) N cc fun ge dc=>?_;obtain⟨T,Y⟩:=Oa.call dc i;have O:=Pa.k Y;have sa:=ac.k Y;have ta:=bc.k Y;have a:=a.k Y;have ua:=hb.k Y;refine⟨_,rfl,?_⟩;refine zq3 hp (fun ec hp=>?_) fun ec hp=>?_
    ·exact u .nrm (j,q,r) _ _ _ _ T ⟨O,sa,a,ta⟩ ua w hp
    refine⟨_,ta.bk.rc rfl,?_⟩;refine zq2 hp (fun fc hp=>?_) fun fc hp=>?_; rotate_left
    ·refine⟨_,_,_,_,O.bk.ra,?_⟩;have Qd:=a;obtain⟨Rd,gc,hp⟩:=zqq hp;refine zxB (p:=p) (set:=A) T.pre (ha100.sub (Sub.trans (Sub.trans d e.fs) g)) (ha102.sub (Sub.trans (Sub.trans d e.fs) g)) (ha103.sub (Sub.trans (Sub.trans d e.fs) g)) N gc fun he hc=>?_;obtain⟨va,Z⟩:=T.call hc i;have Qa:=O.k Z;have Ra:=sa.k Z;have Sa:=ta.k Z;have a:=a.k Z;have Ca:=ua.k Z;refine⟨_,rfl,?_⟩;refine zq2 hp (fun ic hp=>?_) fun ic hp=>?_; rotate_left
     ·exact u .nrm (j,q,r) _ _ _ _ va ⟨Qa,Ra,a,Sa⟩ Ca w hp
     obtain⟨jc,kc,hp⟩:=zqq hp;refine zwI (l:=A) va.pre N kc fun ie Sd Ta nc pc=>?_;obtain⟨Td,qc,aa,ba⟩:=va.callO nc pc i 4;have sc:=Qa.k aa;have tc:=Ra.k aa;have uc:=Sa.k aa;have a:=a.k aa;have ib:=Ca.k aa;refine⟨_,rfl,?_⟩;obtain⟨vc,wc,xc,ca,yc⟩:=tc.sto qc [Ta];have zc:=sc.k ca;have Ac:=uc.k ca;have a:=a.k ca;have ba:=ba.k ca;have jb:=ib.k ca;refine⟨vc,wc,?_⟩;obtain⟨Bc,Cc,Dc,da,Ec⟩:=Ac.sto xc [.bool true];have Fc:=zc.k da;have Gc:=yc.k da;have a:=a.k da;have ba:=ba.k da;have kb:=jb.k da;refine⟨Bc,Cc,?_⟩;exact u .nrm (jc,Ta,true) _ _ _ _ Dc ⟨Fc,Gc,ba,Ec⟩ kb w hp
    refine⟨_,_,_,_,O.bk.ra,?_⟩;have Ud:=a;obtain⟨Vd,Hc,hp⟩:=zqq hp;refine zww (p:=p) (set:=A) T.pre (ha100.sub (Sub.trans (Sub.trans d e.fs) g)) (ha102.sub (Sub.trans (Sub.trans d e.fs) g)) (ha103.sub (Sub.trans (Sub.trans d e.fs) g)) N Hc fun je Ic=>?_;obtain⟨Ua,ea⟩:=T.call Ic i;have Va:=O.k ea;have Wa:=sa.k ea;have Jc:=ta.k ea;have a:=a.k ea;have mb:=ua.k ea;refine⟨_,rfl,_,_,_,_,Va.bk.ra,(by rw[show zaL cmC _=true from zoX (zqu ha100.noFn (zqu rfl (zqu ha102.noFn (zqu ha103.noFn zqv))))]; exact(O.bk.ra)),_,Wa.bk.rc rfl,(by rw[show cmC _=true from zoW (a.noFn)]; exact(sa.bk.rc rfl)),?_⟩;have h:=a;obtain⟨Wd,Kc,wa,Nc⟩:=a.freeze Ua;obtain⟨Xd,Pc,hp⟩:=zqq hp;refine zww (p:=p) (set:=j) Kc.pre (ha100.sub (Sub.trans (Sub.trans (Sub.trans d e.fs) g) wa.fs)) (ha102.sub (Sub.trans (Sub.trans (Sub.trans d e.fs) g) wa.fs)) (ha103.sub (Sub.trans (Sub.trans (Sub.trans d e.fs) g) wa.fs)) Nc Pc fun ke Qc=>?_;obtain⟨xa,fa⟩:=Ua.call Qc i;have ya:=Va.k fa;have Xa:=Wa.k fa;have Ya:=Jc.k fa;have h:=h.k fa;have Da:=mb.k fa;refine⟨_,rfl,?_⟩;refine ifd hp (fun Rc hp=>?_) fun Rc hp=>?_
    ·exact u .nrm (j,q,r) _ _ _ _ xa ⟨ya,Xa,h,Ya⟩ Da w hp
    refine⟨_,_,_,_,ya.bk.ra,?_⟩;have Yd:=h;obtain⟨Zd,Tc,hp⟩:=zqq hp;refine zxB (p:=p) (set:=A) xa.pre (ha100.sub (Sub.trans (Sub.trans d e.fs) g)) (ha102.sub (Sub.trans (Sub.trans d e.fs) g)) (ha103.sub (Sub.trans (Sub.trans d e.fs) g)) N Tc fun me Uc=>?_;obtain⟨za,ga⟩:=xa.call Uc i;have Za:=ya.k ga;have ab:=Xa.k ga;have cb:=Ya.k ga;have h:=h.k ga;have Ea:=Da.k ga;refine⟨_,rfl,?_⟩;refine zq2 hp (fun Vc hp=>?_) fun Vc hp=>?_; rotate_left
    ·exact u .nrm (j,q,r) _ _ _ _ za ⟨Za,ab,h,cb⟩ Ea w hp
    obtain⟨Xc,Yc,hp⟩:=zqq hp;refine zwI (l:=A) za.pre N Yc fun oe ae db Zc ad=>?_;obtain⟨be,bd,ha,ia⟩:=za.callO Zc ad i 4;have cd:=Za.k ha;have dd:=ab.k ha;have ed:=cb.k ha;have h:=h.k ha;have ob:=Ea.k ha;refine⟨_,rfl,?_⟩;obtain⟨fd,hd,jd,ja,kd⟩:=dd.sto bd [db];have ld:=cd.k ja;have md:=ed.k ja;have h:=h.k ja;have ia:=ia.k ja;have pb:=ob.k ja;refine⟨fd,hd,?_⟩;obtain⟨nd,od,pd,ka,qd⟩:=md.sto jd [.bool true];have sd:=ld.k ka;have td:=kd.k ka;have h:=h.k ka;have ia:=ia.k ka;have qb:=pb.k ka;refine⟨nd,od,?_⟩;exact u .nrm (Xc,db,true) _ _ _ _ pd ⟨sd,td,ia,qd⟩ qb w hp
   ·intro st la ma eb ud vd hA hp;obtain⟨j,q,r⟩:=st
    replace hp:zup p x5 (zuq p y) [] j r=some rz:=hp
    obtain⟨B,D,a,F⟩:=hA
    replace B:Lb (Fm.of m) la ma eb 1 m.nxt 4 [ca100,Il p.Reserve,ca102,ca103]:=B
    replace D:Lb (Fm.of m) la ma eb 2 m0.nxt 1 [q]:=D
    replace a:Ow (Fm.of m) la ma eb 4 q j:=a
    replace F:Lb (Fm.of m) la ma eb 3 m1.nxt 1 [.bool r]:=F
    rw[zup] at hp;refine gdi hp fun xd hp=>?_;exact yd _ _ _ _ _ la ma ud (Sub.trans (Sub.trans d e.fs) vd) B D F a hp
   ·intro id st _ _ _ _ _ _ hn; first | exact hn.elim | (cases hn)
   ·intro st _ _ _ _ _ _ hn; first | exact hn.elim | (cases hn)
 exact hgo _ _ _ _ _ _ f Eb Fb (Sub.refl _) P I G (Ow.nil _ _ _ _ _) hp
theorem zxE{p:Pg}{ca100 ca102 ca103:C}{m f:M}{Q:V->M->Prop}{rz:List Int × Int × Int}(hS:Pre f m)(ha100:Sl f ca100 p.Losses)(ha102:Sl f ca102 p.Treaties)(ha103:Sl f ca103 p.Reports)(hp:zus p=some rz)(hq:∀m' f' c0,Grw m f m' f'->Sl f' c0 rz.1->Q (.tup [.c c0,.c (Il rz.2.1),.c (Il rz.2.2)]) m'):Wc prog tbl 35 [.agg 4 [ca100,Il p.Reserve,ca102,ca103]] m Q:=by
 have P:=hS.st;obtain⟨S,_⟩:=zsm;refine w35 ?_;unfold zus at hp;intro Z o;obtain⟨d,h,I,i⟩:=P.blk o S 1;refine⟨_,_,_,_,i.bk.ra,?_⟩;obtain⟨J,q,hp⟩:=zqq hp;refine zws (p:=p) h.pre ha100 ha102 ha103 q fun m6 r=>?_;obtain⟨e,s⟩:=h.call r d;have j:=i.k s;refine⟨_,rfl,?_⟩;refine zq1 hp (fun t hp=>?_) fun t hp=>?_
 ·obtain rfl:=oi hp;exact hq _ f .sl0 e.grw (Sl.nil _)
 refine⟨_,_,_,_,j.bk.ra,?_⟩;obtain⟨u,w,hp⟩:=zqq hp;refine zxD (p:=p) e.pre ha100 ha102 ha103 w fun T l y z n=>?_;obtain⟨g,a⟩:=e.callG z d;have A:=j.k a;refine⟨_,_,rfl,?_⟩;refine zq3 hp (fun B hp=>?_) fun B hp=>?_
 ·obtain rfl:=oi hp;exact hq _ l .sl0 g.grw (Sl.nil _)
 refine⟨_,_,_,_,A.bk.ra,?_⟩;obtain⟨N,D,hp⟩:=zqq hp;refine zww (p:=p) (set:=u.1) g.pre (ha100.sub a.fs) (ha102.sub a.fs) (ha103.sub a.fs) n D fun Y F=>?_;obtain⟨G,O⟩:=g.call F d;refine⟨_,rfl,?_⟩;obtain rfl:=oi hp;exact hq _ l y G.grw n
theorem zxF{p:Pg}{set:List Int}{price:Int}{ca100 ca102 ca103 ca200:C}{m f:M}{Q:V->M->Prop}{rz:Bool}(hS:Pre f m)(ha100:Sl f ca100 p.Losses)(ha102:Sl f ca102 p.Treaties)(ha103:Sl f ca103 p.Reports)(ha200:Sl f ca200 set)(hp:zut p set price=some rz)(hq:∀m',Ext m m'->Q (.c (.bool rz)) m'):Wc prog tbl 31 [.agg 4 [ca100,Il p.Reserve,ca102,ca103],.c ca200,.c (Il price)] m Q:=by
 have S0:=hS.st;obtain⟨τ0,_⟩:=zsm;refine w31 ?_;unfold zut at hp;intro m0 o;obtain⟨a,h,O,i⟩:=S0.blk o τ0 1;refine⟨_,_,_,_,i.bk.ra,?_⟩;obtain⟨P,q,hp⟩:=zqq hp;refine zws (p:=p) h.pre ha100 ha102 ha103 q fun m6 r=>?_;obtain⟨d,s⟩:=h.call r a;have j:=i.k s;refine⟨_,rfl,?_⟩;refine ifd hp (fun t hp=>?_) fun t hp=>?_; rotate_left
 ·obtain rfl:=oi hp;exact hq _ d.ext'
 refine⟨_,_,_,_,j.bk.ra,?_⟩;obtain⟨S,u,hp⟩:=zqq hp;refine zwv (p:=p) (l:=set) d.pre ha100 ha102 ha103 ha200 u fun ca w=>?_;obtain⟨e,y⟩:=d.call w a;have n:=j.k y;refine⟨_,rfl,?_⟩;refine zq2 hp (fun z hp=>?_) fun z hp=>?_; rotate_left
 ·obtain rfl:=oi hp;exact hq _ e.ext'
 refine⟨_,_,_,_,n.bk.ra,?_⟩;obtain⟨T,A,hp⟩:=zqq hp;refine zww (p:=p) (set:=set) e.pre ha100 ha102 ha103 ha200 A fun da B=>?_;obtain⟨g,D⟩:=e.call B a;have F:=n.k D;refine⟨_,rfl,?_⟩;refine ifd hp (fun G hp=>?_) fun G hp=>?_; rotate_left
 ·obtain rfl:=oi hp;exact hq _ g.ext'
 refine⟨_,_,_,_,F.bk.ra,?_⟩;obtain⟨Y,I,hp⟩:=zqq hp;refine zxB (p:=p) (set:=set) g.pre ha100 ha102 ha103 ha200 I fun ea J=>?_;obtain⟨N,Z⟩:=g.call J a;refine⟨_,rfl,?_⟩;obtain rfl:=oi hp;exact hq _ N.ext'
theorem zxG{n:Int}{w:Wk}{b0:Nat}{p:Pg}{b1:Nat}{cb000 cb002 cb003 cb012 cb021 cb022 cb023 cb100 cb102 cb103:C}{m f:M}{Q:V->M->Prop}{rz:Bool}(hS:Pre f m)(hb0:Bk f b0 24 [cb000,Il w.p.Reserve,cb002,cb003,Il w.kinds.k0.part.Lo,Il w.kinds.k0.part.Hi,Il w.kinds.k0.above.Lo,Il w.kinds.k0.above.Hi,Il w.kinds.k0.most.Lo,Il w.kinds.k0.most.Hi,Il w.kinds.k0.times.Lo,Il w.kinds.k0.times.Hi,cb012,Il w.kinds.k1.part.Lo,Il w.kinds.k1.part.Hi,Il w.kinds.k1.above.Lo,Il w.kinds.k1.above.Hi,Il w.kinds.k1.most.Lo,Il w.kinds.k1.most.Hi,Il w.kinds.k1.times.Lo,Il w.kinds.k1.times.Hi,cb021,cb022,cb023])(hb000:Sl f cb000 w.p.Losses)(hb002:Sl f cb002 w.p.Treaties)(hb003:Sl f cb003 w.p.Reports)(hb012:zvv f cb012 w.kinds.k0.takes)(hb021:zvv f cb021 w.kinds.k1.takes)(hb022:zrH f cb022 w.shared)(hb023:MiS f cb023 w.played)(hb1:Bk f b1 4 [cb100,Il p.Reserve,cb102,cb103])(_hb100:Sl f cb100 p.Losses)(_hb102:Sl f cb102 p.Treaties)(hb103:Sl f cb103 p.Reports)(hp:zuu n w p=some rz)(hq:∀m',Ext m m'->Q (.c (.bool rz)) m'):Wc prog tbl 83 [.c (Il n),.c (.ptr b0 0),.c (.ptr b1 0)] m Q:=by
 have a:=hS.st;obtain⟨u,_⟩:=zsm;refine c83 ?_;unfold zuu at hp;refine⟨_,_,_,_,_,_,_,_,_,_,_,_,_,_,_,_,_,_,_,_,_,_,_,_,(hb0.sub a.sub).ra,trivial,_,(hb1.sub a.sub).rc rfl,?_⟩;refine gdi hp fun d hp=>?_;obtain⟨r,hp⟩:=zqr hp;obtain⟨e,g,h⟩:=hb103.subC (i:=Int.toNat (0:Int)) (j:=Int.toNat (n+1)) (by omega) (by omega);refine⟨_,_,rfl,(show(n+1)=((Int.toNat (n+1):Nat):Int) by omega),e,g,?_⟩;obtain⟨s,l,hp⟩:=zqq hp;refine zxt (w:=({ p:=w.p,kinds:=w.kinds,shared:=(),played:=w.played }:Wk)) (reports:=((p.Reports.take (Int.toNat (n+1))).drop (Int.toNat (0:Int)))) a.pre hb000 hb002 hb003 hb012 hb021 (show zrH _ _ _ from hb022.noFn) hb023 h l fun y o=>?_;obtain⟨q,t⟩:=a.call o u;refine⟨_,rfl,?_⟩;obtain rfl:=oi hp;exact hq _ q.ext'
theorem zxH{n:Int}{p:Int->Option (Bool)}{ca200:C}{m f:M}{Q:V->M->Prop}{rz:Int}(hS:Pre f m)(ha200:zvz f ca200 p)(hp:zuw n p=some rz)(hq:∀m',Ext m m'->Q (.c (Il rz)) m'):Wc prog tbl 85 [.c (Il n),.c ca200] m Q:=by
 have G:=hS.st;obtain⟨I,_⟩:=zsm;refine w85 ?_;unfold zuw at hp;intro J B
 have hgo:∀(d:Nat) (i:Int) (j:Int) (l:M) (a:Nat->Nat),St (Fm.of m) f f l->zuv p d i j=some rz->J [.c (Il i),.c (Il j)] l:=by
  intro d
  induction d with
  | zero=>intro i j l a e hp; cases hp
  | succ d h=>
   intro i j l a e hp;refine B _ _ _ ?_;rw[zuv] at hp;refine ifd hp (fun o hp=>?_) fun o hp=>?_; rotate_left
   ·obtain rfl:=oi hp;exact hq _ e.ext'
   refine gdi hp fun q hp=>?_;refine gdi hp fun r hp=>?_;refine gdi hp fun s hp=>?_;refine gdi hp fun t hp=>?_;refine gdi hp fun u hp=>?_;obtain⟨D,w,hp⟩:=zqq hp;refine ha200 _ _ _ _ _ (Sub.refl _) e.pre  w fun N y=>?_;obtain⟨g,F⟩:=e.call y a;refine⟨_,rfl,?_⟩;refine zq3 hp (fun z hp=>?_) fun z hp=>?_; rotate_left
   ·exact h _ _ _ a g hp
   refine gdi hp fun A hp=>?_;exact h _ _ _ a g hp
 exact hgo _ _ _ _ I G hp
theorem zxI{p:Pg}{ca100 ca102 ca103:C}{m f:M}{Q:V->M->Prop}{rz:Int × Int}(hS:Pre f m)(ha100:Sl f ca100 p.Losses)(ha102:Sl f ca102 p.Treaties)(ha103:Sl f ca103 p.Reports)(hp:zux p=some rz)(hq:∀m',Ext m m'->Q (.tup [.c (Il rz.1),.c (Il rz.2)]) m'):Wc prog tbl 38 [.agg 4 [ca100,Il p.Reserve,ca102,ca103]] m Q:=by
 have S0:=hS.st;obtain⟨τ0,_⟩:=zsm;refine w38 ?_;unfold zux at hp;intro m0 A;obtain⟨i,q,Ca,s⟩:=S0.blk A τ0 1;refine⟨_,_,_,_,s.bk.ra,?_⟩;obtain⟨Da,B,hp⟩:=zqq hp;refine zws (p:=p) q.pre ha100 ha102 ha103 B fun m6 D=>?_;obtain⟨j,F⟩:=q.call D i;have t:=s.k F;refine⟨_,rfl,?_⟩;refine zq1 hp (fun G hp=>?_) fun G hp=>?_
 ·obtain rfl:=oi hp;exact hq _ j.ext'
 refine⟨_,_,_,_,t.bk.ra,?_⟩;obtain⟨a,I,hp⟩:=zqq hp;refine zxs (p:=p) j.pre ha100 ha102 ha103 I fun Ba Ea J N O P S T Y Z aa ba ca da ea fa ga=>?_;obtain⟨ha,g⟩:=j.callG Z i;have ia:=t.k g;refine⟨_,_,_,_,_,_,_,_,_,_,_,_,_,_,_,_,_,_,_,_,_,_,_,_,rfl,?_⟩;intro Ka ja;obtain⟨ka,la,ma,na⟩:=ha.blk ja i 2;have oa:=ia.k ma;obtain⟨pa,qa,sa,ta,ua⟩:=na.sto la [J,Il a.p.Reserve,N,O,Il a.kinds.k0.part.Lo,Il a.kinds.k0.part.Hi,Il a.kinds.k0.above.Lo,Il a.kinds.k0.above.Hi,Il a.kinds.k0.most.Lo,Il a.kinds.k0.most.Hi,Il a.kinds.k0.times.Lo,Il a.kinds.k0.times.Hi,P,Il a.kinds.k1.part.Lo,Il a.kinds.k1.part.Hi,Il a.kinds.k1.above.Lo,Il a.kinds.k1.above.Hi,Il a.kinds.k1.most.Lo,Il a.kinds.k1.most.Hi,Il a.kinds.k1.times.Lo,Il a.kinds.k1.times.Hi,S,T,Y];have u:=oa.k ta;refine⟨pa,qa,?_⟩;refine⟨trivial,_,u.bk.rc rfl,ha103.isSl,?_⟩
 try rw[ha103.slLen]
 obtain⟨Fa,va,d,y⟩:=ua.freeze sa;have wa:=u.k d;obtain⟨xa,w,e,o⟩:=wa.freeze va
 have z:zvz xa ((C.fn (Fn.func 83) [] [(W.c (C0.ptr Ba.nxt 0)),(W.c (C0.ptr m.nxt 0))])) (fun h=>zuu h a p):=by
  intro f' m' h r Q hs hpre  hg hq;exact zxG hpre ((y.sub e.fs).sub hs) ((aa.sub (Sub.trans d.fs e.fs)).sub hs) ((ba.sub (Sub.trans d.fs e.fs)).sub hs) ((ca.sub (Sub.trans d.fs e.fs)).sub hs) ((da.sub (Sub.trans d.fs e.fs)).sub hs) ((ea.sub (Sub.trans d.fs e.fs)).sub hs) ((fa.sub (Sub.trans d.fs e.fs)).sub hs) ((ga.sub (Sub.trans d.fs e.fs)).sub hs) (o.sub hs) ((ha100.sub (Sub.trans (Sub.trans g.fs d.fs) e.fs)).sub hs) ((ha102.sub (Sub.trans (Sub.trans g.fs d.fs) e.fs)).sub hs) ((ha103.sub (Sub.trans (Sub.trans g.fs d.fs) e.fs)).sub hs) hg hq
 obtain⟨Ga,ya,hp⟩:=zqq hp;refine zxH (n:=(p.Reports.length:Int)) (p:=(fun h=>zuu h a p)) w.pre z ya fun La za=>?_;obtain⟨l,Ha⟩:=w.call za ka;refine⟨_,rfl,trivial,_,(o.sub l.sub).rc rfl,ha103.isSl,?_⟩
 try rw[ha103.slLen]
 refine ifd hp (fun Aa hp=>?_) fun Aa hp=>?_
 ·obtain rfl:=oi hp;exact hq _ l.ext'
 obtain rfl:=oi hp;exact hq _ l.ext'
theorem zxJ{list:List Int}{w:Wk}{b0:Nat}{p:Pg}{b1:Nat}{ca100 cb000 cb002 cb003 cb012 cb021 cb022 cb023 cb100 cb102 cb103:C}{m f:M}{Q:V->M->Prop}{rz:Bool}(hS:Pre f m)(ha100:Sl f ca100 list)(hb0:Bk f b0 24 [cb000,Il w.p.Reserve,cb002,cb003,Il w.kinds.k0.part.Lo,Il w.kinds.k0.part.Hi,Il w.kinds.k0.above.Lo,Il w.kinds.k0.above.Hi,Il w.kinds.k0.most.Lo,Il w.kinds.k0.most.Hi,Il w.kinds.k0.times.Lo,Il w.kinds.k0.times.Hi,cb012,Il w.kinds.k1.part.Lo,Il w.kinds.k1.part.Hi,Il w.kinds.k1.above.Lo,Il w.kinds.k1.above.Hi,Il w.kinds.k1.most.Lo,Il w.kinds.k1.most.Hi,Il w.kinds.k1.times.Lo,Il w.kinds.k1.times.Hi,cb021,cb022,cb023])(hb000:Sl f cb000 w.p.Losses)(hb002:Sl f cb002 w.p.Treaties)(hb003:Sl f cb003 w.p.Reports)(hb012:zvv f cb012 w.kinds.k0.takes)(hb021:zvv f cb021 w.kinds.k1.takes)(hb022:zrH f cb022 w.shared)(hb023:MiS f cb023 w.played)(hb1:Bk f b1 4 [cb100,Il p.Reserve,cb102,cb103])(_hb100:Sl f cb100 p.Losses)(_hb102:Sl f cb102 p.Treaties)(hb103:Sl f cb103 p.Reports)(hp:zuy list w p=some rz)(hq:∀m',Ext m m'->Q (.c (.bool rz)) m'):Wc prog tbl 86 [.c ca100,.c (.ptr b0 0),.c (.ptr b1 0)] m Q:=by
 have e:=hS.st;obtain⟨r,_⟩:=zsm;refine c86 ?_;unfold zuy at hp;refine⟨_,_,_,_,_,_,_,_,_,_,_,_,_,_,_,_,_,_,_,_,_,_,_,_,(hb0.sub e.sub).ra,trivial,_,(hb1.sub e.sub).rc rfl,?_⟩;obtain⟨g,h,hp⟩:=zqq hp;refine zwH (l:=p.Reports) (out:=list) e.pre hb103 ha100 h fun z s t i j=>?_;obtain⟨d,a⟩:=e.callG i r;refine⟨_,rfl,(by rw[show zaL cmC _=true from (zrO (zoW hb000.noFn) (zrO (zoW rfl) (zrO (zoW hb002.noFn) (zrO (zoW hb003.noFn) (zrO (zoW rfl) (zrO (zoW rfl) (zrO (zoW rfl) (zrO (zoW rfl) (zrO (zoW rfl) (zrO (zoW rfl) (zrO (zoW rfl) (zrO (zoW rfl) (zrO (zrM hb012.1) (zrO (zoW rfl) (zrO (zoW rfl) (zrO (zoW rfl) (zrO (zoW rfl) (zrO (zoW rfl) (zrO (zoW rfl) (zrO (zoW rfl) (zrO (zoW rfl) (zrO (zrM hb021.1) (zrO (zoW hb022.noFn) (zrO (zoW hb023.noFn) zrN))))))))))))))))))))))))]; exact((hb0.sub (Sub.trans a.fs d.sub)).ra)),?_⟩;obtain⟨u,n,hp⟩:=zqq hp;refine zxt (w:=({ p:=w.p,kinds:=w.kinds,shared:=(),played:=w.played }:Wk)) (reports:=g) d.pre (hb000.sub a.fs) (hb002.sub a.fs) (hb003.sub a.fs) (hb012.sub a.fs) (hb021.sub a.fs) (show zrH _ _ _ from hb022.noFn) (hb023.sub a.fs) j n fun A o=>?_;obtain⟨q,y⟩:=d.call o r;refine⟨_,rfl,?_⟩;obtain rfl:=oi hp;exact hq _ q.ext'
theorem zxK{p:Pg}{ca100 ca102 ca103:C}{m f:M}{Q:V->M->Prop}{rz:List Int × Int}(hS:Pre f m)(ha100:Sl f ca100 p.Losses)(ha102:Sl f ca102 p.Treaties)(ha103:Sl f ca103 p.Reports)(hp:zuz p=some rz)(hq:∀m' f' c0,Grw m f m' f'->Sl f' c0 rz.1->Q (.tup [.c c0,.c (Il rz.2)]) m'):Wc prog tbl 39 [.agg 4 [ca100,Il p.Reserve,ca102,ca103]] m Q:=by
 have S0:=hS.st;obtain⟨τ0,_⟩:=zsm;refine w39 ?_;unfold zuz at hp;intro m0 z;obtain⟨i,l,Fa,o⟩:=S0.blk z τ0 1;refine⟨_,_,_,_,o.bk.ra,?_⟩;obtain⟨Ga,A,hp⟩:=zqq hp;refine zws (p:=p) l.pre ha100 ha102 ha103 A fun m6 B=>?_;obtain⟨j,D⟩:=l.call B i;have q:=o.k D;refine⟨_,rfl,?_⟩;refine zq1 hp (fun F hp=>?_) fun F hp=>?_
 ·obtain rfl:=oi hp;exact hq _ f .sl0 j.grw (Sl.nil _)
 refine⟨_,_,_,_,q.bk.ra,?_⟩;obtain⟨a,G,hp⟩:=zqq hp;refine zxs (p:=p) j.pre ha100 ha102 ha103 G fun Ea Ha I J N O P S T Y Z aa ba ca da ea fa=>?_;obtain⟨ga,g⟩:=j.callG Y i;have ha:=q.k g;refine⟨_,_,_,_,_,_,_,_,_,_,_,_,_,_,_,_,_,_,_,_,_,_,_,_,rfl,?_⟩;intro Oa ia;obtain⟨ja,ka,la,ma⟩:=ga.blk ia i 2;have na:=ha.k la;obtain⟨oa,pa,qa,sa,ta⟩:=ma.sto ka [I,Il a.p.Reserve,J,N,Il a.kinds.k0.part.Lo,Il a.kinds.k0.part.Hi,Il a.kinds.k0.above.Lo,Il a.kinds.k0.above.Hi,Il a.kinds.k0.most.Lo,Il a.kinds.k0.most.Hi,Il a.kinds.k0.times.Lo,Il a.kinds.k0.times.Hi,O,Il a.kinds.k1.part.Lo,Il a.kinds.k1.part.Hi,Il a.kinds.k1.above.Lo,Il a.kinds.k1.above.Hi,Il a.kinds.k1.most.Lo,Il a.kinds.k1.most.Hi,Il a.kinds.k1.times.Lo,Il a.kinds.k1.times.Hi,P,S,T];have s:=na.k sa;refine⟨oa,pa,?_⟩;refine⟨trivial,_,s.bk.rc rfl,ha103.isSl,?_⟩
 try rw[ha103.slLen]
 obtain⟨Ia,ua,d,u⟩:=ta.freeze qa;have va:=s.k d;obtain⟨wa,t,e,w⟩:=va.freeze ua
 have y:zwZ wa ((C.fn (Fn.func 86) [] [(W.c (C0.ptr Ea.nxt 0)),(W.c (C0.ptr m.nxt 0))])) (fun h=>zuy h a p):=by
  intro f' m' h Ja r Q hs hpre xa hg hq;exact zxJ hpre xa ((u.sub e.fs).sub hs) ((Z.sub (Sub.trans d.fs e.fs)).sub hs) ((aa.sub (Sub.trans d.fs e.fs)).sub hs) ((ba.sub (Sub.trans d.fs e.fs)).sub hs) ((ca.sub (Sub.trans d.fs e.fs)).sub hs) ((da.sub (Sub.trans d.fs e.fs)).sub hs) ((ea.sub (Sub.trans d.fs e.fs)).sub hs) ((fa.sub (Sub.trans d.fs e.fs)).sub hs) (w.sub hs) ((ha100.sub (Sub.trans (Sub.trans g.fs d.fs) e.fs)).sub hs) ((ha102.sub (Sub.trans (Sub.trans g.fs d.fs) e.fs)).sub hs) ((ha103.sub (Sub.trans (Sub.trans g.fs d.fs) e.fs)).sub hs) hg hq
 obtain⟨Ka,ya,hp⟩:=zqq hp;refine zw5 (n:=(p.Reports.length:Int)) (passes:=(fun h=>zuy h a p)) t.pre y ya fun Pa za Aa Ba Ca=>?_;obtain⟨Da,La⟩:=t.callG Ba ja;refine⟨_,rfl,?_⟩;obtain rfl:=oi hp;exact hq _ za Aa Da.grw Ca
theorem zxL{r:Rg}{m f:M}{Q:V->M->Prop}{rz:Rg}(hS:Pre f m)(hp:zuA r=some rz)(hq:∀m',Ext m m'->Q (.agg 2 [Il rz.Lo,Il rz.Hi]) m'):Wc prog tbl 29 [.agg 2 [Il r.Lo,Il r.Hi]] m Q:=by
 have w:=hS.st;obtain⟨y,_⟩:=zsm;refine w29 ?_;unfold zuA at hp;intro z c;obtain⟨d,e,s,g⟩:=w.blk c y 1;intro A h;obtain⟨t,i,j,l⟩:=e.blk h d 2;have a:=g.k j;refine⟨trivial,_,a.bk.rc rfl,trivial,_,a.bk.rc rfl,?_⟩;obtain⟨n,o,p,u,q⟩:=l.sto i [Il r.Lo,Il r.Hi];refine⟨n,o,?_⟩;refine⟨_,_,q.bk.ra,?_⟩;obtain rfl:=oi hp;exact hq _ p.ext'
theorem zxM{p:Pg}{ca100 ca102 ca103:C}{m f:M}{Q:V->M->Prop}{rz:Pg}(hS:Pre f m)(ha100:Sl f ca100 p.Losses)(ha102:Sl f ca102 p.Treaties)(ha103:Sl f ca103 p.Reports)(hp:zuE p=some rz)(hq:∀m' f' c0 c2 c3,Grw m f m' f'->Sl f' c0 rz.Losses->Sl f' c2 rz.Treaties->Sl f' c3 rz.Reports->Q (.agg 4 [c0,Il rz.Reserve,c2,c3]) m'):Wc prog tbl 16 [.agg 4 [ca100,Il p.Reserve,ca102,ca103]] m Q:=by
 have S0:=hS.st;obtain⟨τ0,_⟩:=zsm;refine w16 ?_;unfold zuE at hp;intro m0 ib;obtain⟨jb,kb,Id,mb⟩:=S0.blk ib τ0 1;intro m1 ob;obtain⟨pb,qb,rb,sb⟩:=kb.blk ob jb 2;have Na:=mb.k rb;refine⟨trivial,_,Na.bk.rc rfl,?_⟩;intro m3 tb;obtain⟨ub,vb,Oa,wb⟩:=qb.blk tb pb 3;have xb:=Na.k Oa;have yb:=sb.k Oa;obtain⟨zb,Ab,Bb,Pa,h⟩:=wb.sto vb [.sl0,Il p.Reserve,.sl0,.sl0];have g:=xb.k Pa;have i:=yb.k Pa;refine⟨zb,Ab,?_⟩;intro R5 Ad
 have hgo:∀(ja:Nat) (x6:Int) (l:C) (T:C) (Y:C) (z:List Rg) (Z:Int) (ka:List Ty) (la:List Rpt) (m7:M) (o:Nat->Nat),St (Fm.of m) f f m7->Lb (Fm.of m) f o m7 1 m.nxt 4 [ca100,Il p.Reserve,ca102,ca103]->Lb (Fm.of m) f o m7 2 m0.nxt 4 [.sl0,Il 0,.sl0,.sl0]->Lb (Fm.of m) f o m7 3 m1.nxt 4 [l,Il Z,T,Y]->Ow (Fm.of m) f o m7 4 l z->Ow (Fm.of m) f o m7 5 T ka->Ow (Fm.of m) f o m7 6 Y la->zuD p ja z Z ka la x6=some rz->R5 [.c (Il x6)] m7:=by
  intro ja
  induction ja with
  | zero=>intro x6 l T Y z Z ka la m7 o aa g i h d s t hp; cases hp
  | succ ja xd=>
   intro x6 l T Y z Z ka la m7 o aa g i h d s t hp;refine Ad _ _ ?_;rw[zuD] at hp;refine⟨trivial,_,g.bk.rc rfl,ha100.isSl,?_⟩
   try rw[ha100.slLen]
   refine ifd hp (fun Db hp=>?_) fun Db hp=>?_
   ·refine⟨trivial,_,h.bk.rc rfl,trivial,_,g.bk.rc rfl,?_⟩;obtain⟨Eb,va,hp⟩:=zqq hp;obtain⟨Cd,eb,Ja,va⟩:=zqk va;obtain⟨_,Fb⟩:=zso ha100 va;refine⟨Cd,eb,(by first|exact Ja|(rw[ha100.slLen];exact Ja)),_,_,(Fb _ aa.sub).1,?_⟩;obtain⟨Qa,Gb,hp⟩:=zqq hp;refine zxL (r:=Eb) aa.pre  Gb fun Qd Hb=>?_;obtain⟨Ib,B⟩:=aa.call Hb o;have Jb:=g.k B;have Kb:=i.k B;have wa:=h.k B;have d:=d.k B;have s:=s.k B;have t:=t.k B;refine⟨_,_,rfl,(by rw[show cmC _=true from zoW (d.noFn)]; exact(wa.bk.rc rfl)),?_⟩;obtain⟨Mb,hp⟩:=zqr hp;intro Rd Ra;refine⟨(by rw[show cmC _=true from zoW (d.noFn)]; exact(wa.bk.ext (Bk.new Ra).2).rc rfl),?_⟩;obtain⟨xa,Nb,Ob,Pb,Qb,ba,ya⟩:=d.app' zxn Ib (a:=Qa) (show Rp.rep (α:=Rg) f _ Qa from rfl) Mb Ra;have Rb:=Jb.k ba;have Sb:=Kb.k ba;have Tb:=wa.k ba;have s:=s.k ba;have t:=t.k ba;refine⟨xa,Nb,Pb,?_⟩;refine⟨trivial,?_⟩;obtain⟨Ub,Vb,Wb,ca,za⟩:=Tb.sto1 Qb 0 xa (by simp) rfl
    replace za:Lb _ _ _ _ _ _ _ [xa,Il Z,T,Y]:=za
    have Xb:=Rb.k ca;have Yb:=Sb.k ca;have s:=s.k ca;have t:=t.k ca;have ya:=ya.k ca;refine⟨Ub,Vb,?_⟩;refine gdi hp fun Zb hp=>?_;exact xd _ _ _ _ _ _ _ _ _ Ob Wb Xb Yb za ya s t hp
   intro Dd yd
   have hgo:∀(ma:Nat) (Sa:Int) (u:C) (da:C) (ea:Int) (D:List Ty) (na:List Rpt) (P:M) (q:Nat->Nat),St (Fm.of m) f f P->Lb (Fm.of m) f q P 1 m.nxt 4 [ca100,Il p.Reserve,ca102,ca103]->Lb (Fm.of m) f q P 2 m0.nxt 4 [.sl0,Il 0,.sl0,.sl0]->Lb (Fm.of m) f q P 3 m1.nxt 4 [l,Il ea,u,da]->Ow (Fm.of m) f q P 5 u D->Ow (Fm.of m) f q P 6 da na->Ow (Fm.of m) f q P 4 l z->zuC p z ma ea D na Sa=some rz->Dd [.c (Il Sa)] P:=by
    intro ma
    induction ma with
    | zero=>intro Sa u da ea D na P q oa g i h e n d hp; cases hp
    | succ ma ac=>
     intro Sa u da ea D na P q oa g i h e n d hp;refine yd _ _ ?_;rw[zuC] at hp;refine⟨trivial,_,g.bk.rc rfl,ha102.isSl,?_⟩
     try rw[ha102.slLen]
     refine ifd hp (fun bc hp=>?_) fun bc hp=>?_
     ·refine⟨trivial,_,g.bk.rc rfl,?_⟩;obtain⟨w,Aa,hp⟩:=zqq hp;obtain⟨Ed,fb,Ka,Aa⟩:=zqk Aa;obtain⟨_,cc⟩:=zsq ha102 Aa;refine⟨Ed,fb,(by first|exact Ka|(rw[ha102.slLen];exact Ka)),_,_,_,_,_,_,_,(cc _ oa.sub).1,?_⟩;intro Sd dc;obtain⟨Jd,ec,F,fc⟩:=oa.blk dc q 7;have gc:=g.k F;have hc:=i.k F;have ic:=h.k F;have d:=d.k F;have e:=e.k F;have n:=n.k F;obtain⟨jc,kc,nc,G,A⟩:=fc.sto ec [Il w.Kind,Il w.Part,Il w.Above,Il w.Most,Il w.Times,Il w.Price,Il w.Of];have pc:=gc.k G;have qc:=hc.k G;have Ta:=ic.k G;have d:=d.k G;have e:=e.k G;have n:=n.k G;refine⟨jc,kc,?_⟩;refine⟨trivial,_,Ta.bk.rc rfl,trivial,_,A.bk.rc rfl,trivial,_,A.bk.rc rfl,trivial,_,A.bk.rc rfl,trivial,_,A.bk.rc rfl,trivial,_,A.bk.rc rfl,trivial,_,A.bk.rc rfl,trivial,_,A.bk.rc rfl,?_⟩;obtain⟨sc,hp⟩:=zqr hp;intro Td tc;obtain⟨Ba,uc,vc,wc,xc,fa,Ca⟩:=e.app' zvC nc (a:=w) (show Rp.rep (α:=Ty) f _ w from rfl) sc tc;have yc:=pc.k fa;have zc:=qc.k fa;have Ac:=Ta.k fa;have d:=d.k fa;have n:=n.k fa;refine⟨Ba,uc,wc,?_⟩;refine⟨trivial,?_⟩;obtain⟨Bc,Cc,Dc,ga,Da⟩:=Ac.sto1 xc 2 Ba (by simp) rfl
      replace Da:Lb _ _ _ _ _ _ _ [l,Il ea,Ba,da]:=Da
      have Ec:=yc.k ga;have Fc:=zc.k ga;have d:=d.k ga;have n:=n.k ga;have Ca:=Ca.k ga;refine⟨Bc,Cc,?_⟩;refine gdi hp fun Gc hp=>?_;exact ac _ _ _ _ _ _ _ vc Dc Ec Fc Da Ca n d hp
     intro Fd zd
     have hgo:∀(pa:Nat) (Ua:Int) (I:C) (J:Int) (qa:List Rpt) (S:M) (y:Nat->Nat),St (Fm.of m) f f S->Lb (Fm.of m) f y S 1 m.nxt 4 [ca100,Il p.Reserve,ca102,ca103]->Lb (Fm.of m) f y S 2 m0.nxt 4 [.sl0,Il 0,.sl0,.sl0]->Lb (Fm.of m) f y S 3 m1.nxt 4 [l,Il J,u,I]->Ow (Fm.of m) f y S 6 I qa->Ow (Fm.of m) f y S 4 l z->Ow (Fm.of m) f y S 5 u D->zuB p z D pa J qa Ua=some rz->Fd [.c (Il Ua)] S:=by
      intro pa
      induction pa with
      | zero=>intro Ua I J qa S y N g i h j d e hp; cases hp
      | succ pa Hc=>
       intro Ua I J qa S y N g i h j d e hp;refine zd _ _ ?_;rw[zuB] at hp;refine⟨trivial,_,g.bk.rc rfl,ha103.isSl,?_⟩
       try rw[ha103.slLen]
       refine ifd hp (fun Ic hp=>?_) fun Ic hp=>?_; rotate_left
       ·refine⟨_,_,_,_,h.bk.ra,?_⟩;obtain⟨Jc,Kc,Nc,Ea,Pc⟩:=i.sto N [l,Il J,u,I];have d:=d.k Ea;have e:=e.k Ea;have j:=j.k Ea;refine⟨Jc,Kc,?_⟩;refine⟨_,_,_,_,Pc.bk.ra,?_⟩;obtain⟨Ld,Qc,Va,Rc⟩:=d.freeze Nc;have e:=e.k Va;have j:=j.k Va;obtain⟨Md,Tc,Wa,Uc⟩:=e.freeze Qc;have j:=j.k Wa;obtain⟨Vc,Xc,Xa,Yc⟩:=j.freeze Tc;obtain rfl:=oi hp;exact hq _ Vc l u I Xc.grw (Rc.sub (Sub.trans Wa.fs Xa.fs)) (Uc.sub Xa.fs) Yc
       refine⟨trivial,_,h.bk.rc rfl,trivial,_,g.bk.rc rfl,?_⟩;obtain⟨Ya,sa,hp⟩:=zqq hp;obtain⟨Gd,gb,La,sa⟩:=zqk sa;obtain⟨_,Za⟩:=zss ha103 sa;refine⟨Gd,gb,(by first|exact La|(rw[ha103.slLen];exact La)),(ha103.isPt sa _),_,((Za _ N.sub).2.1 0 _ rfl),trivial,_,g.bk.rc rfl,?_⟩;obtain⟨Zc,ta,hp⟩:=zqq hp;obtain⟨Hd,hb,Ma,ta⟩:=zqk ta;obtain⟨_,ad⟩:=zss ha103 ta;refine⟨Hd,hb,(by first|exact Ma|(rw[ha103.slLen];exact Ma)),(ha103.isPt ta _),_,_,((ad _ N.sub).2.2 1 2 (by omega) (by decide)),?_⟩;obtain⟨ab,bd,hp⟩:=zqq hp;refine zxL (r:=Zc.Paid) N.pre  bd fun Ud cd=>?_;obtain⟨bb,O⟩:=N.call cd y;have cb:=g.k O;have dd:=i.k O;have Fa:=h.k O;have d:=d.k O;have e:=e.k O;have j:=j.k O;refine⟨_,_,rfl,((Za _ bb.sub).2.1 0 _ rfl),(by rw[show cmC _=true from zoW (ha103.noFn)]; exact(cb.bk.rc rfl)),(by rw[show cmC _=true from zoW (j.noFn)]; exact(Fa.bk.rc rfl)),?_⟩;obtain⟨ed,hp⟩:=zqr hp;intro Vd db;refine⟨(by rw[show cmC _=true from zoW (j.noFn)]; exact(Fa.bk.ext (Bk.new db).2).rc rfl),?_⟩;obtain⟨Ga,fd,hd,id,jd,ha,Ha⟩:=j.app' zvD bb (a:=({ Treaty:=Ya.Treaty,Paid:=ab }:Rpt)) (show Rp.rep (α:=Rpt) f _ ({ Treaty:=Ya.Treaty,Paid:=ab }:Rpt) from rfl) ed db;have kd:=cb.k ha;have ld:=dd.k ha;have md:=Fa.k ha;have d:=d.k ha;have e:=e.k ha;refine⟨Ga,fd,id,?_⟩;refine⟨trivial,?_⟩;obtain⟨nd,od,pd,ia,Ia⟩:=md.sto1 jd 3 Ga (by simp) rfl
       replace Ia:Lb _ _ _ _ _ _ _ [l,Il J,u,Ga]:=Ia
       have qd:=kd.k ia;have sd:=ld.k ia;have d:=d.k ia;have e:=e.k ia;have Ha:=Ha.k ia;refine⟨nd,od,?_⟩;refine gdi hp fun td hp=>?_;exact Hc _ _ _ _ _ hd pd qd sd Ia Ha d e hp
     exact hgo _ _ _ _ _ _ q oa g i h n d e hp
   exact hgo _ _ _ _ _ _ _ _ o aa g i h s t d hp
 exact hgo _ _ _ _ _ _ _ _ _ _ ub Bb g i h (Ow.nil _ _ _ _ _) (Ow.nil _ _ _ _ _) (Ow.nil _ _ _ _ _) hp
theorem zxN{a:List Int}{b:List Int}{ca100 ca200:C}{m f:M}{Q:V->M->Prop}{rz:Bool}(hS:Pre f m)(ha100:Sl f ca100 a)(ha200:Sl f ca200 b)(hp:zuG a b=some rz)(hq:∀m',Ext m m'->Q (.c (.bool rz)) m'):Wc prog tbl 23 [.c ca100,.c ca200] m Q:=by
 have z:=hS.st;obtain⟨F,_⟩:=zsm;refine w23 ?_;unfold zuG at hp;refine⟨ha100.isSl,ha200.isSl,?_⟩
 try rw[ha100.slLen]
 try rw[ha200.slLen]
 refine zq1 hp (fun p hp=>?_) fun p hp=>?_
 ·obtain rfl:=oi hp;exact hq _ z.ext'
 intro G A
 have hgo:∀(e:Nat) (w:Bool) (q:Int) (r:M) (g:Nat->Nat),St (Fm.of m) f f r->zuF a b e q=some rz->G [.c (.bool w),.c (Il q)] r:=by
  intro e
  induction e with
  | zero=>intro w q r g d hp; cases hp
  | succ e y=>
   intro w q r g d hp;refine A _ _ _ ?_;rw[zuF] at hp;refine⟨ha100.isSl,?_⟩
   try rw[ha100.slLen]
   refine ifd hp (fun s hp=>?_) fun s hp=>?_; rotate_left
   ·obtain rfl:=oi hp;exact hq _ d.ext'
   obtain⟨B,h,hp⟩:=zqq hp;obtain⟨I,n,j,h⟩:=zqk h;refine⟨I,n,(by first|exact j|(rw[ha100.slLen];exact j)),_,(ha100.rdI h d.sub),?_⟩;obtain⟨D,i,hp⟩:=zqq hp;obtain⟨J,o,l,i⟩:=zqk i;refine⟨J,o,(by first|exact l|(rw[ha200.slLen];exact l)),_,(ha200.rdI i d.sub),?_⟩;refine zq1 hp (fun t hp=>?_) fun t hp=>?_
   ·obtain rfl:=oi hp;exact hq _ d.ext'
   refine gdi hp fun u hp=>?_;exact y _ _ _ g d hp
 exact hgo _ _ _ _ F z hp
theorem zxO{p:Pg}{ca100 ca102 ca103:C}{m f:M}{Q:V->M->Prop}{rz:Bool}(hS:Pre f m)(ha100:Sl f ca100 p.Losses)(ha102:Sl f ca102 p.Treaties)(ha103:Sl f ca103 p.Reports)(hp:zuH p=some rz)(hq:∀m',Ext m m'->Q (.c (.bool rz)) m'):Wc prog tbl 13 [.agg 4 [ca100,Il p.Reserve,ca102,ca103]] m Q:=by
 have D:=hS.st;obtain⟨F,_⟩:=zsm;refine w13 ?_;unfold zuH at hp;intro I h;obtain⟨g,a,y,d⟩:=D.blk h F 1;refine⟨trivial,_,d.bk.rc rfl,ha100.isSl,?_⟩
 try rw[ha100.slLen]
 refine ifd hp (fun i hp=>?_) fun i hp=>?_; rotate_left
 ·obtain rfl:=oi hp;exact hq _ a.ext'
 refine⟨trivial,_,d.bk.rc rfl,ha102.isSl,?_⟩
 try rw[ha102.slLen]
 refine ifd hp (fun j hp=>?_) fun j hp=>?_; rotate_left
 ·obtain rfl:=oi hp;exact hq _ a.ext'
 refine⟨trivial,_,d.bk.rc rfl,ha103.isSl,?_⟩
 try rw[ha103.slLen]
 refine ifd hp (fun l hp=>?_) fun l hp=>?_; rotate_left
 ·obtain rfl:=oi hp;exact hq _ a.ext'
 refine⟨_,_,_,_,d.bk.ra,?_⟩;obtain⟨z,n,hp⟩:=zqq hp;refine zvL (p:=p) a.pre ha100 ha102 ha103 n fun J o=>?_;obtain⟨e,q⟩:=a.call o g;have r:=d.k q;refine⟨_,rfl,?_⟩;refine zq1 hp (fun s hp=>?_) fun s hp=>?_
 ·obtain rfl:=oi hp;exact hq _ e.ext'
 refine⟨_,_,_,_,r.bk.ra,?_⟩;obtain⟨A,t,hp⟩:=zqq hp;refine zvK (p:=p) e.pre ha100 ha102 ha103 t fun G u=>?_;obtain⟨w,B⟩:=e.call u g;refine⟨_,rfl,?_⟩;obtain rfl:=oi hp;exact hq _ w.ext'
theorem zxP{low:Int}{high:Int}{m f:M}{Q:V->M->Prop}{rz:Rg}(hS:Pre f m)(hp:zuI low high=some rz)(hq:∀m',Ext m m'->Q (.agg 2 [Il rz.Lo,Il rz.Hi]) m'):Wc prog tbl 56 [.c (Il low),.c (Il high)] m Q:=by
 have p:=hS.st;obtain⟨q,_⟩:=zsm;refine w56 ?_;unfold zuI at hp;intro r a;obtain⟨l,d,n,e⟩:=p.blk a q 1;obtain⟨g,h,i,o,j⟩:=e.sto d [Il low,Il high];refine⟨g,h,?_⟩;refine⟨_,_,j.bk.ra,?_⟩;obtain rfl:=oi hp;exact hq _ i.ext'
theorem zxQ{reports:List Rpt}{ca100:C}{m f:M}{Q:V->M->Prop}{rz:Pg}(hS:Pre f m)(ha100:Sl f ca100 reports)(hp:zuJ reports=some rz)(hq:∀m' f' c0 c2 c3,Grw m f m' f'->Sl f' c0 rz.Losses->Sl f' c2 rz.Treaties->Sl f' c3 rz.Reports->Q (.agg 4 [c0,Il rz.Reserve,c2,c3]) m'):Wc prog tbl 53 [.c ca100] m Q:=by
 have S0:=hS.st;obtain⟨τ0,_⟩:=zsm;refine w53 ?_;unfold zuJ at hp;intro m0 t;obtain⟨e,h,qa,u⟩:=S0.blk t τ0 1;obtain⟨a,w,hp⟩:=zqq hp;refine zxP (low:=(100:Int)) (high:=(120:Int)) h.pre  w fun m2 y=>?_;obtain⟨i,z⟩:=h.call y e;have A:=u.k z;refine⟨_,_,rfl,?_⟩;obtain⟨d,B,hp⟩:=zqq hp;refine zxP (low:=(300:Int)) (high:=(300:Int)) i.pre  B fun m6 D=>?_;obtain⟨F,G⟩:=i.call D e;have I:=A.k G;refine⟨_,_,rfl,?_⟩;intro m9 J;obtain⟨N,O,P,S⟩:=F.blk J e 2;have T:=I.k P;intro va Y;obtain⟨sa,Z,j,aa⟩:=O.blk Y N 3;have ba:=T.k j;have ca:=S.k j;obtain⟨da,ea,fa,n,ga⟩:=ba.sto Z [(C.sl m6.nxt 0 2 0 (Option.some 2)),(Il (200:Int)),(C.sl m9.nxt 0 3 0 (Option.some 3)),ca100];have ha:=ca.k n;have ia:=aa.k n;refine⟨da,ea,?_⟩;refine⟨_,_,_,_,ga.bk.ra,?_⟩;obtain⟨o,ja,p,r⟩:=ha.freeze fa;have ka:=ia.k p;have la:Sl o (C.sl m6.nxt 0 2 0 (Option.some 2)) ([a,d]:List Rg):=Bk.sl (α:=Rg) (l:=([a,d]:List Rg)) r (show Cat (α:=Rg) o [Il a.Lo,Il a.Hi,Il d.Lo,Il d.Hi] ([a,d]:List Rg) from ⟨[Il a.Lo,Il a.Hi],_,rfl,rfl,⟨[Il d.Lo,Il d.Hi],_,rfl,rfl,rfl⟩⟩) rfl rfl _;obtain⟨g,ma,q,s⟩:=ka.freeze ja;have na:Sl g (C.sl m9.nxt 0 3 0 (Option.some 3)) ([({ Kind:=(0:Int),Part:=(25:Int),Above:=(0:Int),Most:=(0:Int),Times:=(0:Int),Price:=(50:Int),Of:=(-1:Int) }:Ty),({ Kind:=(1:Int),Part:=(0:Int),Above:=(50:Int),Most:=(100:Int),Times:=(0:Int),Price:=(30:Int),Of:=(-1:Int) }:Ty),({ Kind:=(1:Int),Part:=(0:Int),Above:=(20:Int),Most:=(40:Int),Times:=(1:Int),Price:=(5:Int),Of:=(0:Int) }:Ty)]:List Ty):=Bk.sl (α:=Ty) (l:=([({ Kind:=(0:Int),Part:=(25:Int),Above:=(0:Int),Most:=(0:Int),Times:=(0:Int),Price:=(50:Int),Of:=(-1:Int) }:Ty),({ Kind:=(1:Int),Part:=(0:Int),Above:=(50:Int),Most:=(100:Int),Times:=(0:Int),Price:=(30:Int),Of:=(-1:Int) }:Ty),({ Kind:=(1:Int),Part:=(0:Int),Above:=(20:Int),Most:=(40:Int),Times:=(1:Int),Price:=(5:Int),Of:=(0:Int) }:Ty)]:List Ty)) s (show Cat (α:=Ty) g [Il 0,(Il (25:Int)),Il 0,Il 0,Il 0,(Il (50:Int)),(Il (-1:Int)),(Il (1:Int)),Il 0,(Il (50:Int)),(Il (100:Int)),Il 0,(Il (30:Int)),(Il (-1:Int)),(Il (1:Int)),Il 0,(Il (20:Int)),(Il (40:Int)),(Il (1:Int)),(Il (5:Int)),Il 0] ([({ Kind:=(0:Int),Part:=(25:Int),Above:=(0:Int),Most:=(0:Int),Times:=(0:Int),Price:=(50:Int),Of:=(-1:Int) }:Ty),({ Kind:=(1:Int),Part:=(0:Int),Above:=(50:Int),Most:=(100:Int),Times:=(0:Int),Price:=(30:Int),Of:=(-1:Int) }:Ty),({ Kind:=(1:Int),Part:=(0:Int),Above:=(20:Int),Most:=(40:Int),Times:=(1:Int),Price:=(5:Int),Of:=(0:Int) }:Ty)]:List Ty) from ⟨[Il 0,(Il (25:Int)),Il 0,Il 0,Il 0,(Il (50:Int)),(Il (-1:Int))],_,rfl,rfl,⟨[(Il (1:Int)),Il 0,(Il (50:Int)),(Il (100:Int)),Il 0,(Il (30:Int)),(Il (-1:Int))],_,rfl,rfl,⟨[(Il (1:Int)),Il 0,(Il (20:Int)),(Il (40:Int)),(Il (1:Int)),(Il (5:Int)),Il 0],_,rfl,rfl,rfl⟩⟩⟩) rfl rfl _
 obtain rfl:=oi hp;exact hq _ g (C.sl m6.nxt 0 2 0 (Option.some 2)) (C.sl m9.nxt 0 3 0 (Option.some 3)) ca100 ma.grw (la.sub q.fs) na (ha100.sub (Sub.trans p.fs q.fs))
theorem zxR{m f:M}{Q:V->M->Prop}{rz:List Rpt}(hS:Pre f m)(hp:zuK=some rz)(hq:∀m' f' c0,Grw m f m' f'->Sl f' c0 rz->Q (.c c0) m'):Wc prog tbl 55 [] m Q:=by
 have y:=hS.st;obtain⟨w,_⟩:=zsm;refine w55 ?_;unfold zuK at hp;obtain⟨a,i,hp⟩:=zqq hp;refine zxP (low:=(103:Int)) (high:=(110:Int)) y.pre  i fun I j=>?_;obtain⟨g,A⟩:=y.call j w;refine⟨_,_,rfl,?_⟩;obtain⟨d,n,hp⟩:=zqq hp;refine zxP (low:=(45:Int)) (high:=(46:Int)) g.pre  n fun z o=>?_;obtain⟨p,B⟩:=g.call o w;refine⟨_,_,rfl,?_⟩;intro J q;obtain⟨D,r,F,s⟩:=p.blk q w 1;obtain⟨e,t,G,h⟩:=s.freeze r;have u:Sl e (C.sl z.nxt 0 2 0 (Option.some 2)) ([({ Treaty:=(0:Int),Paid:=a }:Rpt),({ Treaty:=(2:Int),Paid:=d }:Rpt)]:List Rpt):=Bk.sl (α:=Rpt) (l:=([({ Treaty:=(0:Int),Paid:=a }:Rpt),({ Treaty:=(2:Int),Paid:=d }:Rpt)]:List Rpt)) h (show Cat (α:=Rpt) e [Il 0,Il a.Lo,Il a.Hi,(Il (2:Int)),Il d.Lo,Il d.Hi] ([({ Treaty:=(0:Int),Paid:=a }:Rpt),({ Treaty:=(2:Int),Paid:=d }:Rpt)]:List Rpt) from ⟨[Il 0,Il a.Lo,Il a.Hi],_,rfl,rfl,⟨[(Il (2:Int)),Il d.Lo,Il d.Hi],_,rfl,rfl,rfl⟩⟩) rfl rfl _;obtain rfl:=oi hp;exact hq _ e (C.sl z.nxt 0 2 0 (Option.some 2)) t.grw u
theorem zxS{n:Int}{m f:M}{Q:V->M->Prop}{rz:Pg}(hS:Pre f m)(hp:zuL n=some rz)(hq:∀m' f' c0 c2 c3,Grw m f m' f'->Sl f' c0 rz.Losses->Sl f' c2 rz.Treaties->Sl f' c3 rz.Reports->Q (.agg 4 [c0,Il rz.Reserve,c2,c3]) m'):Wc prog tbl 54 [.c (Il n)] m Q:=by
 have S0:=hS.st;obtain⟨τ0,_⟩:=zsm;refine w54 ?_;unfold zuL at hp;intro m0 j;obtain⟨h,i,ga,l⟩:=S0.blk j τ0 1;obtain⟨o,p,hp⟩:=zqq hp;refine zxQ (reports:=[]) i.pre (Sl.nil _) p fun m2 q a d e r s t u=>?_;obtain⟨w,y⟩:=i.callG r h;have z:=l.k y;refine⟨_,_,_,_,rfl,?_⟩;intro m7 A;obtain⟨ha,B,D,F⟩:=w.blk A h 2;have G:=z.k D;obtain⟨I,J,N,O,P⟩:=F.sto B [a,Il o.Reserve,d,e];have S:=G.k O;refine⟨I,J,?_⟩;refine⟨trivial,?_⟩;obtain⟨T,Y,Z,aa,g⟩:=P.sto1 N 1 (Il n) (by simp) rfl
 replace g:Lb _ _ _ _ _ _ _ [a,Il n,d,e]:=g
 have ba:=S.k aa;refine⟨T,Y,?_⟩;refine⟨_,_,_,_,g.bk.ra,?_⟩;obtain⟨ca,da,ea,ia,fa⟩:=ba.sto Z [a,Il n,d,e];refine⟨ca,da,?_⟩;refine⟨_,_,_,_,fa.bk.ra,?_⟩;obtain rfl:=oi hp;exact hq _ q a d e ea.grw s t u
theorem zxT{m f:M}{Q:V->M->Prop}{rz:Bool}(hS:Pre f m)(hp:zuM=some rz)(hq:∀m',Ext m m'->Q (.c (.bool rz)) m'):Wc prog tbl 14 [] m Q:=by
 have S0:=hS.st;obtain⟨τ0,_⟩:=zsm;refine w14 ?_;unfold zuM at hp;obtain⟨cb,db,hp⟩:=zqq hp;refine zxQ (reports:=[]) S0.pre (Sl.nil _) db fun m1 Sf Tf Uf Vf eb fb gb hb=>?_;obtain⟨ib,Wf⟩:=S0.callG eb τ0;refine⟨_,_,_,_,rfl,?_⟩;intro m6 jb;obtain⟨z,kb,Xf,mb⟩:=ib.blk jb τ0 1;obtain⟨ea,fa,N,Va⟩:=mb.freeze kb;have ob:Sl ea (C.sl m1.nxt 0 2 0 (Option.some 2)) ([(100:Int),(300:Int)]:List Int):=Bk.sl (α:=Int) (l:=([(100:Int),(300:Int)]:List Int)) Va (show Cat (α:=Int) ea [(Il (100:Int)),(Il (300:Int))] ([(100:Int),(300:Int)]:List Int) from ⟨[(Il (100:Int))],_,rfl,rfl,⟨[(Il (300:Int))],_,rfl,rfl,rfl⟩⟩) rfl rfl _;obtain⟨pb,qb,hp⟩:=zqq hp;refine zxr (p:=cb) (losses:=([(100:Int),(300:Int)]:List Int)) fa.pre (fb.sub N.fs) (gb.sub N.fs) (hb.sub N.fs) ob qb fun m8 Yf Zf rb sb=>?_;obtain⟨ga,ag⟩:=fa.callG rb z;refine⟨_,_,_,rfl,?_⟩;obtain⟨tb,ub,hp⟩:=zqq hp;refine zxQ (reports:=[]) ga.pre (Sl.nil _) ub fun Ah bg cg dg eg vb wb xb yb=>?_;obtain⟨ha,zb⟩:=ga.callG vb z;refine⟨_,_,_,_,rfl,?_⟩;obtain⟨fg,Ab,hp⟩:=zqq hp;refine zxy (p:=tb) ha.pre wb xb yb Ab fun Bh gg hg Bb A=>?_;obtain⟨ia,Cb⟩:=ha.callG Bb z;refine⟨_,_,rfl,?_⟩;obtain⟨Db,Eb,hp⟩:=zqq hp;refine zxQ (reports:=[]) ia.pre (Sl.nil _) Eb fun Ch ig jg kg lg Fb Gb Hb Ib=>?_;obtain⟨ja,w⟩:=ia.callG Fb z;refine⟨_,_,_,_,rfl,?_⟩;obtain⟨ka,Jb,hp⟩:=zqq hp;refine zxz (p:=Db) ja.pre Gb Hb Ib Jb fun Dh Kb=>?_;obtain⟨Mb,mg⟩:=ja.call Kb z;refine⟨_,_,_,rfl,?_⟩;intro Eh Nb;obtain⟨la,Ob,ng,Pb⟩:=Mb.blk Nb z 2;obtain⟨Qb,Rb,ma,og,Sb⟩:=Pb.sto Ob [Il ka.1.Lo,Il ka.1.Hi]
 refine⟨Qb,Rb,?_⟩;obtain⟨Tb,Ub,hp⟩:=zqq hp;refine zxQ (reports:=[]) ma.pre (Sl.nil _) Ub fun Pf pg qg rg sg Vb Wb Xb Yb=>?_;obtain⟨Zb,t⟩:=ma.callG Vb la;have ac:=Sb.k t;refine⟨_,_,_,_,rfl,?_⟩;intro Fh bc;obtain⟨na,cc,dc,ec⟩:=Zb.blk bc la 3;have fc:=ac.k dc;obtain⟨oa,pa,e,Wa⟩:=ec.freeze cc;have gc:=fc.k e;have hc:Sl oa (C.sl Pf.nxt 0 1 0 (Option.some 1)) ([(1:Int)]:List Int):=Bk.sl (α:=Int) (l:=([(1:Int)]:List Int)) Wa (show Cat (α:=Int) oa [(Il (1:Int))] ([(1:Int)]:List Int) from ⟨[(Il (1:Int))],_,rfl,rfl,rfl⟩) rfl rfl _;obtain⟨qa,ic,hp⟩:=zqq hp;refine zxC (p:=Tb) (set:=([(1:Int)]:List Int)) pa.pre (Wb.sub e.fs) (Xb.sub e.fs) (Yb.sub e.fs) hc ic fun Gh jc=>?_;obtain⟨kc,nc⟩:=pa.call jc na;have pc:=gc.k nc;refine⟨_,_,_,rfl,?_⟩;intro Hh qc;obtain⟨q,sc,tc,uc⟩:=kc.blk qc na 4;have vc:=pc.k tc;obtain⟨wc,xc,sa,yc,zc⟩:=uc.sto sc [Il qa.1.Lo,Il qa.1.Hi];have Ac:=vc.k yc;refine⟨wc,xc,?_⟩;obtain⟨Bc,Cc,hp⟩:=zqq hp;refine zxS (n:=(300:Int)) sa.pre  Cc fun Ih tg ug vg xg Dc Ec Fc Gc=>?_;obtain⟨ta,r⟩:=sa.callG Dc q;have Hc:=Ac.k r;have Ic:=zc.k r;refine⟨_,_,_,_,rfl,?_⟩;obtain⟨ua,Jc,hp⟩:=zqq hp;refine zxE (p:=Bc) ta.pre Ec Fc Gc Jc fun Jh zg Ag Kc va=>?_;obtain⟨wa,s⟩:=ta.callG Kc q;have Nc:=Hc.k s;have Pc:=Ic.k s;refine⟨_,_,_,rfl,?_⟩;obtain⟨Qc,Rc,hp⟩:=zqq hp;refine zxR wa.pre  Rc fun Kh Bg Cg Tc Uc=>?_;obtain⟨xa,g⟩:=wa.callG Tc q;have Vc:=Nc.k g;have Xc:=Pc.k g;refine⟨_,rfl,?_⟩;obtain⟨Yc,Zc,hp⟩:=zqq hp;refine zxQ (reports:=Qc) xa.pre Uc Zc fun Lh Dg Eg Fg Gg ad bd cd dd=>?_
 obtain⟨ya,h⟩:=xa.callG ad q;have ed:=Vc.k h;have fd:=Xc.k h;refine⟨_,_,_,_,rfl,?_⟩;obtain⟨Hg,hd,hp⟩:=zqq hp;refine zxI (p:=Yc) ya.pre bd cd dd hd fun Mh id=>?_;obtain⟨za,Aa⟩:=ya.call id q;have jd:=ed.k Aa;have kd:=fd.k Aa;refine⟨_,_,rfl,?_⟩;obtain⟨ld,md,hp⟩:=zqq hp;refine zxR za.pre  md fun Nh Ig Jg nd od=>?_;obtain⟨Ba,i⟩:=za.callG nd q;have pd:=jd.k i;have qd:=kd.k i;refine⟨_,rfl,?_⟩;obtain⟨sd,td,hp⟩:=zqq hp;refine zxQ (reports:=ld) Ba.pre od td fun Oh Kg Lg Mg Ng ud vd xd yd=>?_;obtain⟨Ca,j⟩:=Ba.callG ud q;have zd:=pd.k j;have Ad:=qd.k j;refine⟨_,_,_,_,rfl,?_⟩;obtain⟨Cd,Dd,hp⟩:=zqq hp;refine zxK (p:=sd) Ca.pre vd xd yd Dd fun Qf Og Qg Ed Fd=>?_;obtain⟨Da,o⟩:=Ca.callG Ed q;have Gd:=zd.k o;have Hd:=Ad.k o;refine⟨_,_,rfl,?_⟩;refine ifd hp (fun Id hp=>?_) fun Id hp=>?_; rotate_left
 ·obtain rfl:=oi hp;exact hq _ Da.ext'
 intro Ph Jd;obtain⟨u,Ld,Ea,Md⟩:=Da.blk Jd q 5;have Nd:=Gd.k Ea;have Od:=Hd.k Ea;obtain⟨Fa,Ga,d,Xa⟩:=Md.freeze Ld;have Pd:=Nd.k d;have Qd:=Od.k d;have Rd:Sl Fa (C.sl Qf.nxt 0 3 0 (Option.some 3)) ([(100:Int),(100:Int),(45:Int)]:List Int):=Bk.sl (α:=Int) (l:=([(100:Int),(100:Int),(45:Int)]:List Int)) Xa (show Cat (α:=Int) Fa [(Il (100:Int)),(Il (100:Int)),(Il (45:Int))] ([(100:Int),(100:Int),(45:Int)]:List Int) from ⟨[(Il (100:Int))],_,rfl,rfl,⟨[(Il (100:Int))],_,rfl,rfl,⟨[(Il (45:Int))],_,rfl,rfl,rfl⟩⟩⟩) rfl rfl _;obtain⟨Sg,Sd,hp⟩:=zqq hp;refine zxN (a:=pb.1) (b:=([(100:Int),(100:Int),(45:Int)]:List Int)) Ga.pre (sb.sub (Sub.trans (Sub.trans (Sub.trans (Sub.trans (Sub.trans (Sub.trans (Sub.trans (Sub.trans (Sub.trans (Sub.trans (Sub.trans (Sub.trans zb.fs Cb.fs) w.fs) t.fs) e.fs) r.fs) s.fs) g.fs) h.fs) i.fs) j.fs) o.fs) d.fs)) Rd Sd fun Qh Td=>?_;obtain⟨y,Ha⟩:=Ga.call Td u;have Ud:=Pd.k Ha;have Vd:=Qd.k Ha;refine⟨_,rfl,?_⟩;refine zq2 hp (fun Wd hp=>?_) fun Wd hp=>?_; rotate_left
 ·obtain rfl:=oi hp;exact hq _ y.ext'
 refine ifd hp (fun Xd hp=>?_) fun Xd hp=>?_; rotate_left
 ·obtain rfl:=oi hp;exact hq _ y.ext'
 refine ifd hp (fun Yd hp=>?_) fun Yd hp=>?_; rotate_left
 ·obtain rfl:=oi hp;exact hq _ y.ext'
 refine⟨A.isSl,?_⟩
 try rw[A.slLen]
 refine ifd hp (fun Zd hp=>?_) fun Zd hp=>?_; rotate_left
 ·obtain rfl:=oi hp;exact hq _ y.ext'
 obtain⟨Tg,O,hp⟩:=zqq hp;obtain⟨Rf,Ya,ca,O⟩:=zqk O;obtain⟨_,P⟩:=zsu A O;refine⟨Rf,Ya,(by first|exact ca|(rw[A.slLen];exact ca)),_,_,_,_,(P _ (Sub.trans (Sub.trans (Sub.trans (Sub.trans (Sub.trans (Sub.trans (Sub.trans (Sub.trans (Sub.trans (Sub.trans (Sub.trans w.fs t.fs) e.fs) r.fs) s.fs) g.fs) h.fs) i.fs) j.fs) o.fs) d.fs) y.sub)).1,?_⟩;obtain⟨Ug,ae,hp⟩:=zqq hp;refine zxP (low:=(100:Int)) (high:=(105:Int)) y.pre  ae fun Rh be=>?_;obtain⟨S,Ia⟩:=y.call be u;have ce:=Ud.k Ia;have de:=Vd.k Ia;refine⟨_,_,rfl,(P _ (Sub.trans (Sub.trans (Sub.trans (Sub.trans (Sub.trans (Sub.trans (Sub.trans (Sub.trans (Sub.trans (Sub.trans (Sub.trans w.fs t.fs) e.fs) r.fs) s.fs) g.fs) h.fs) i.fs) j.fs) o.fs) d.fs) S.sub)).1,?_⟩;obtain⟨Vg,ee,hp⟩:=zqq hp;refine zxP (low:=(55:Int)) (high:=(55:Int)) S.pre  ee fun qh fe=>?_;obtain⟨B,Ja⟩:=S.call fe u;have ge:=ce.k Ja;have he:=de.k Ja;refine⟨_,_,rfl,(P _ (Sub.trans (Sub.trans (Sub.trans (Sub.trans (Sub.trans (Sub.trans (Sub.trans (Sub.trans (Sub.trans (Sub.trans (Sub.trans w.fs t.fs) e.fs) r.fs) s.fs) g.fs) h.fs) i.fs) j.fs) o.fs) d.fs) B.sub)).1,?_⟩;refine gdi hp fun ie hp=>?_;refine gdi hp fun je hp=>?_;refine gdi hp fun ke hp=>?_;refine gdi hp fun me hp=>?_;refine gdi hp fun oe hp=>?_;refine gdi hp fun pe hp=>?_;refine gdi hp fun qe hp=>?_;refine gdi hp fun re hp=>?_;refine zq2 hp (fun se hp=>?_) fun se hp=>?_; rotate_left
 ·obtain rfl:=oi hp;exact hq _ B.ext'
 obtain⟨Xg,T,hp⟩:=zqq hp;obtain⟨Kf,Za,da,T⟩:=zqk T;obtain⟨_,Y⟩:=zsu A T;refine⟨Kf,Za,(by first|exact da|(rw[A.slLen];exact da)),_,_,_,_,(Y _ (Sub.trans (Sub.trans (Sub.trans (Sub.trans (Sub.trans (Sub.trans (Sub.trans (Sub.trans (Sub.trans (Sub.trans (Sub.trans w.fs t.fs) e.fs) r.fs) s.fs) g.fs) h.fs) i.fs) j.fs) o.fs) d.fs) B.sub)).1,?_⟩;obtain⟨Zg,te,hp⟩:=zqq hp;refine zxP (low:=(45:Int)) (high:=(50:Int)) B.pre  te fun rh ue=>?_;obtain⟨Z,Ka⟩:=B.call ue u;have ve:=ge.k Ka;have we:=he.k Ka;refine⟨_,_,rfl,(Y _ (Sub.trans (Sub.trans (Sub.trans (Sub.trans (Sub.trans (Sub.trans (Sub.trans (Sub.trans (Sub.trans (Sub.trans (Sub.trans w.fs t.fs) e.fs) r.fs) s.fs) g.fs) h.fs) i.fs) j.fs) o.fs) d.fs) Z.sub)).1,?_⟩;obtain⟨ah,xe,hp⟩:=zqq hp;refine zxP (low:=(45:Int)) (high:=(50:Int)) Z.pre  xe fun th ye=>?_;obtain⟨D,La⟩:=Z.call ye u;have Ma:=ve.k La;have ze:=we.k La;refine⟨_,_,rfl,(Y _ (Sub.trans (Sub.trans (Sub.trans (Sub.trans (Sub.trans (Sub.trans (Sub.trans (Sub.trans (Sub.trans (Sub.trans (Sub.trans w.fs t.fs) e.fs) r.fs) s.fs) g.fs) h.fs) i.fs) j.fs) o.fs) d.fs) D.sub)).1,?_⟩;refine gdi hp fun Ae hp=>?_;refine gdi hp fun Be hp=>?_;refine gdi hp fun Ce hp=>?_;refine gdi hp fun De hp=>?_;refine gdi hp fun Ee hp=>?_;refine gdi hp fun Fe hp=>?_;refine gdi hp fun Ge hp=>?_;refine gdi hp fun He hp=>?_;refine zq2 hp (fun Ie hp=>?_) fun Ie hp=>?_; rotate_left
 ·obtain rfl:=oi hp;exact hq _ D.ext'
 refine ifd hp (fun Je hp=>?_) fun Je hp=>?_; rotate_left
 ·obtain rfl:=oi hp;exact hq _ D.ext'
 refine⟨_,_,Ma.bk.ra,?_⟩;obtain⟨bh,Ke,hp⟩:=zqq hp;refine zxP (low:=(200:Int)) (high:=(215:Int)) D.pre  Ke fun uh Me=>?_;obtain⟨G,Na⟩:=D.call Me u;have Ne:=Ma.k Na;have Oa:=ze.k Na;refine⟨_,_,rfl,(Ne.bk.ra),?_⟩;refine gdi hp fun Oe hp=>?_;refine gdi hp fun Pe hp=>?_;refine gdi hp fun Qe hp=>?_;refine gdi hp fun Re hp=>?_;refine zq2 hp (fun Se hp=>?_) fun Se hp=>?_; rotate_left
 ·obtain rfl:=oi hp;exact hq _ G.ext'
 refine ifd hp (fun Te hp=>?_) fun Te hp=>?_; rotate_left
 ·obtain rfl:=oi hp;exact hq _ G.ext'
 refine⟨_,_,Oa.bk.ra,?_⟩;obtain⟨ch,Ue,hp⟩:=zqq hp;refine zxP (low:=(300:Int)) (high:=(320:Int)) G.pre  Ue fun Lf Ve=>?_;obtain⟨aa,We⟩:=G.call Ve u;have Xe:=Oa.k We;refine⟨_,_,rfl,(Xe.bk.ra),?_⟩;refine gdi hp fun Ye hp=>?_;refine gdi hp fun Ze hp=>?_;refine gdi hp fun af hp=>?_;refine gdi hp fun bf hp=>?_;refine zq2 hp (fun cf hp=>?_) fun cf hp=>?_; rotate_left
 ·obtain rfl:=oi hp;exact hq _ aa.ext'
 refine ifd hp (fun df hp=>?_) fun df hp=>?_; rotate_left
 ·obtain rfl:=oi hp;exact hq _ aa.ext'
 intro vh ef;obtain⟨I,gf,dh,hf⟩:=aa.blk ef u 6;obtain⟨Pa,Qa,ba,ab⟩:=hf.freeze gf;have jf:Sl Pa (C.sl Lf.nxt 0 2 0 (Option.some 2)) ([(0:Int),(1:Int)]:List Int):=Bk.sl (α:=Int) (l:=([(0:Int),(1:Int)]:List Int)) ab (show Cat (α:=Int) Pa [Il 0,(Il (1:Int))] ([(0:Int),(1:Int)]:List Int) from ⟨[Il 0],_,rfl,rfl,⟨[(Il (1:Int))],_,rfl,rfl,rfl⟩⟩) rfl rfl _;obtain⟨eh,kf,hp⟩:=zqq hp;refine zxN (a:=ua.1) (b:=([(0:Int),(1:Int)]:List Int)) Qa.pre (va.sub (Sub.trans (Sub.trans (Sub.trans (Sub.trans (Sub.trans (Sub.trans g.fs h.fs) i.fs) j.fs) o.fs) d.fs) ba.fs)) jf kf fun wh lf=>?_;obtain⟨J,fh⟩:=Qa.call lf I;refine⟨_,rfl,?_⟩;refine zq2 hp (fun mf hp=>?_) fun mf hp=>?_; rotate_left
 ·obtain rfl:=oi hp;exact hq _ J.ext'
 refine ifd hp (fun nf hp=>?_) fun nf hp=>?_; rotate_left
 ·obtain rfl:=oi hp;exact hq _ J.ext'
 obtain⟨pf,qf,hp⟩:=zqq hp;refine zxS (n:=(300:Int)) J.pre  qf fun xh gh hh ih jh rf sf tf uf=>?_;obtain⟨Ra,Sa⟩:=J.callG rf I;refine⟨_,_,_,_,rfl,?_⟩;obtain⟨kh,vf,hp⟩:=zqq hp;refine zxF (p:=pf) (set:=ua.1) (price:=(80:Int)) Ra.pre sf tf uf (va.sub (Sub.trans (Sub.trans (Sub.trans (Sub.trans (Sub.trans (Sub.trans (Sub.trans g.fs h.fs) i.fs) j.fs) o.fs) d.fs) ba.fs) Sa.fs)) vf fun Mf wf=>?_;obtain⟨F,lh⟩:=Ra.call wf I;refine⟨_,rfl,?_⟩;refine zq2 hp (fun xf hp=>?_) fun xf hp=>?_; rotate_left
 ·obtain rfl:=oi hp;exact hq _ F.ext'
 refine ifd hp (fun yf hp=>?_) fun yf hp=>?_; rotate_left
 ·obtain rfl:=oi hp;exact hq _ F.ext'
 refine ifd hp (fun zf hp=>?_) fun zf hp=>?_; rotate_left
 ·obtain rfl:=oi hp;exact hq _ F.ext'
 refine ifd hp (fun Af hp=>?_) fun Af hp=>?_; rotate_left
 ·obtain rfl:=oi hp;exact hq _ F.ext'
 intro yh Bf;obtain⟨Cf,Df,mh,Ef⟩:=F.blk Bf I 7;obtain⟨Ta,Ua,Ff,bb⟩:=Ef.freeze Df;have Gf:Sl Ta (C.sl Mf.nxt 0 1 0 (Option.some 1)) ([(0:Int)]:List Int):=Bk.sl (α:=Int) (l:=([(0:Int)]:List Int)) bb (show Cat (α:=Int) Ta [Il 0] ([(0:Int)]:List Int) from ⟨[Il 0],_,rfl,rfl,rfl⟩) rfl rfl _;obtain⟨nh,Hf,hp⟩:=zqq hp;refine zxN (a:=Cd.1) (b:=([(0:Int)]:List Int)) Ua.pre (Fd.sub (Sub.trans (Sub.trans (Sub.trans d.fs ba.fs) Sa.fs) Ff.fs)) Gf Hf fun zh If=>?_;obtain⟨Jf,oh⟩:=Ua.call If Cf;refine⟨_,rfl,?_⟩;obtain rfl:=oi hp;exact hq _ Jf.ext'
theorem zxU{p:Pg}{ca100 ca102 ca103:C}{m f:M}{Q:V->M->Prop}{rz:Bool}(hS:Pre f m)(ha100:Sl f ca100 p.Losses)(ha102:Sl f ca102 p.Treaties)(ha103:Sl f ca103 p.Reports)(hp:zuN p=some rz)(hq:∀m',Ext m m'->Q (.c (.bool rz)) m'):Wc prog tbl 43 [.agg 4 [ca100,Il p.Reserve,ca102,ca103]] m Q:=by
 have z:=hS.st;obtain⟨A,_⟩:=zsm;refine w43 ?_;unfold zuN at hp;intro D h;obtain⟨d,e,t,g⟩:=z.blk h A 1;refine⟨_,_,_,_,g.bk.ra,?_⟩;obtain⟨u,i,hp⟩:=zqq hp;refine zxO (p:=p) e.pre ha100 ha102 ha103 i fun F j=>?_;obtain⟨a,l⟩:=e.call j d;have n:=g.k l;refine⟨_,rfl,?_⟩;refine zq2 hp (fun o hp=>?_) fun o hp=>?_; rotate_left
 ·obtain rfl:=oi hp;exact hq _ a.ext'
 refine⟨_,_,_,_,n.bk.ra,?_⟩;obtain⟨w,q,hp⟩:=zqq hp;refine zvL (p:=p) a.pre ha100 ha102 ha103 q fun B r=>?_;obtain⟨s,y⟩:=a.call r d;refine⟨_,rfl,?_⟩;obtain rfl:=oi hp;exact hq _ s.ext'
theorem zxV{p:Pg}{pays:List Int}{treaty:Int}{ca100 ca102 ca103 ca200:C}{m f:M}{Q:V->M->Prop}{rz:Int}(hS:Pre f m)(_ha100:Sl f ca100 p.Losses)(ha102:Sl f ca102 p.Treaties)(_ha103:Sl f ca103 p.Reports)(ha200:Sl f ca200 pays)(hp:zuP p pays treaty=some rz)(hq:∀m',Ext m m'->Q (.c (Il rz)) m'):Wc prog tbl 45 [.agg 4 [ca100,Il p.Reserve,ca102,ca103],.c ca200,.c (Il treaty)] m Q:=by
 have S0:=hS.st;obtain⟨τ0,_⟩:=zsm;refine w45 ?_;unfold zuP at hp;intro m0 y;obtain⟨z,q,T,a⟩:=S0.blk y τ0 1;obtain⟨Y,i,hp⟩:=zqq hp;obtain⟨n1,r,l,i⟩:=zqk i;refine⟨n1,r,(by first|exact l|(rw[ha200.slLen];exact l)),_,(ha200.rdI i q.sub),?_⟩;intro R3 P
 have hgo:∀(g:Nat) (A:Int) (B:Int) (s:M) (e:Nat->Nat),St (Fm.of m) f f s->Lb (Fm.of m) f e s 1 m.nxt 4 [ca100,Il p.Reserve,ca102,ca103]->zuO p pays treaty g A B=some rz->R3 [.c (Il A),.c (Il B)] s:=by
  intro g
  induction g with
  | zero=>intro A B s e d a hp; cases hp
  | succ g t=>
   intro A B s e d a hp;refine P _ _ _ ?_;rw[zuO] at hp;refine⟨trivial,_,a.bk.rc rfl,ha102.isSl,?_⟩
   try rw[ha102.slLen]
   refine ifd hp (fun D hp=>?_) fun D hp=>?_; rotate_left
   ·obtain rfl:=oi hp;exact hq _ d.ext'
   refine⟨ha200.isSl,?_⟩
   try rw[ha200.slLen]
   refine ifd hp (fun F hp=>?_) fun F hp=>?_; rotate_left
   ·obtain rfl:=oi hp;exact hq _ d.ext'
   refine⟨trivial,_,a.bk.rc rfl,?_⟩;obtain⟨Z,h,hp⟩:=zqq hp;obtain⟨n9,u,n,h⟩:=zqk h;obtain⟨_,G⟩:=zsq ha102 h;refine⟨n9,u,(by first|exact n|(rw[ha102.slLen];exact n)),(ha102.isPt h _),_,((G _ d.sub).2.1 6 _ rfl),?_⟩;refine ifd hp (fun I hp=>?_) fun I hp=>?_; rotate_left
   ·refine gdi hp fun J hp=>?_;exact t _ _ _ e d a hp
   obtain⟨aa,j,hp⟩:=zqq hp;obtain⟨S,w,o,j⟩:=zqk j;refine⟨S,w,(by first|exact o|(rw[ha200.slLen];exact o)),_,(ha200.rdI j d.sub),?_⟩;refine gdi hp fun N hp=>?_;refine gdi hp fun O hp=>?_;exact t _ _ _ e d a hp
 exact hgo _ _ _ _ z q a hp
theorem zxW{p:Pg}{which:Int}{ca100 ca102 ca103:C}{m f:M}{Q:V->M->Prop}{rz:Bool}(hS:Pre f m)(ha100:Sl f ca100 p.Losses)(ha102:Sl f ca102 p.Treaties)(ha103:Sl f ca103 p.Reports)(hp:zuS p which=some rz)(hq:∀m',Ext m m'->Q (.c (.bool rz)) m'):Wc prog tbl 9 [.agg 4 [ca100,Il p.Reserve,ca102,ca103],.c (.int .u8 which)] m Q:=by
 have S0:=hS.st;obtain⟨τ0,_⟩:=zsm;refine w9 ?_;unfold zuS at hp;intro m0 rb;obtain⟨q,Na,Hd,Oa⟩:=S0.blk rb τ0 1;refine⟨_,_,_,_,Oa.bk.ra,?_⟩;obtain⟨Id,sb,hp⟩:=zqq hp;refine zxU (p:=p) Na.pre ha100 ha102 ha103 sb fun m6 tb=>?_;obtain⟨B,ub⟩:=Na.call tb q;have aa:=Oa.k ub;refine⟨_,rfl,?_⟩;refine zq3 hp (fun vb hp=>?_) fun vb hp=>?_
 ·obtain⟨Jd,wb,hp⟩:=zqq hp;refine zxT B.pre  wb fun m9 xb=>?_;obtain⟨yb,Ld⟩:=B.call xb q;refine⟨_,rfl,?_⟩;obtain rfl:=oi hp;exact hq _ yb.ext'
 refine⟨trivial,_,aa.bk.rc rfl,ha102.isSl,?_⟩
 try rw[ha102.slLen]
 refine ifd hp (fun zb hp=>?_) fun zb hp=>?_
 ·obtain⟨Md,Ab,hp⟩:=zqq hp;refine zxT B.pre  Ab fun ke Bb=>?_;obtain⟨Cb,Nd⟩:=B.call Bb q;refine⟨_,rfl,?_⟩;obtain rfl:=oi hp;exact hq _ Cb.ext'
 refine⟨trivial,_,aa.bk.rc rfl,ha102.isSl,?_⟩;refine gdi hp fun Db hp=>?_;obtain⟨Pa,hp⟩:=zqr hp;refine⟨(by first|exact Pa|(rw[ha102.slLen];exact Pa)),?_⟩;obtain⟨Qa,hp⟩:=zqr hp;refine⟨(by first|exact Qa|(rw[ha102.slLen];exact Qa)),_,_,_,_,aa.bk.ra,?_⟩;obtain⟨Eb,Fb,hp⟩:=zqq hp;refine zxM (p:=p) B.pre ha100 ha102 ha103 Fb fun me Od Pd Qd Rd Gb Hb Ib Jb=>?_;obtain⟨Ra,h⟩:=B.callG Gb q;have Kb:=aa.k h;refine⟨_,_,_,_,rfl,?_⟩;obtain⟨Sa,Mb,hp⟩:=zqq hp;refine zxy (p:=Eb) Ra.pre Hb Ib Jb Mb fun oe Sd Td Nb g=>?_;obtain⟨Ta,i⟩:=Ra.callG Nb q;have Ua:=Kb.k i;refine⟨_,_,rfl,_,_,_,_,Ua.bk.ra,?_⟩;obtain⟨Ob,Pb,hp⟩:=zqq hp;refine zxM (p:=p) Ta.pre (ha100.sub (Sub.trans h.fs i.fs)) (ha102.sub (Sub.trans h.fs i.fs)) (ha103.sub (Sub.trans h.fs i.fs)) Pb fun pe Ud Vd Wd Xd Qb Rb Sb Tb=>?_;obtain⟨Va,d⟩:=Ta.callG Qb q;have Ub:=Ua.k d;refine⟨_,_,_,_,rfl,?_⟩;obtain⟨j,Vb,hp⟩:=zqq hp;refine zxz (p:=Ob) Va.pre Rb Sb Tb Vb fun sd Wb=>?_;obtain⟨Xb,Yb⟩:=Va.call Wb q;have Zb:=Ub.k Yb;refine⟨_,_,_,rfl,?_⟩;intro qe ac;obtain⟨oa,bc,cc,dc⟩:=Xb.blk ac q 2;have ec:=Zb.k cc;obtain⟨fc,gc,r,hc,ic⟩:=dc.sto bc [Il j.1.Lo,Il j.1.Hi];have pa:=ec.k hc;refine⟨fc,gc,?_⟩;refine zq1 hp (fun jc hp=>?_) fun jc hp=>?_
 ·refine ifd hp (fun kc hp=>?_) fun kc hp=>?_; rotate_left
  ·obtain rfl:=oi hp;exact hq _ r.ext'
  refine ifd hp (fun nc hp=>?_) fun nc hp=>?_; rotate_left
  ·obtain rfl:=oi hp;exact hq _ r.ext'
  obtain⟨Yd,pc,hp⟩:=zqq hp;refine zxT r.pre  pc fun re qc=>?_;obtain⟨sc,Zd⟩:=r.call qc oa;refine⟨_,rfl,?_⟩;obtain rfl:=oi hp;exact hq _ sc.ext'
 refine zq1 hp (fun tc hp=>?_) fun tc hp=>?_
 ·obtain rfl:=oi hp;exact hq _ r.ext'
 refine⟨g.isSl,trivial,_,pa.bk.rc rfl,ha102.isSl,?_⟩
 try rw[g.slLen]
 try rw[ha102.slLen]
 refine zq1 hp (fun uc hp=>?_) fun uc hp=>?_
 ·obtain rfl:=oi hp;exact hq _ r.ext'
 refine⟨_,_,_,_,pa.bk.ra,?_⟩;obtain⟨Wa,vc,hp⟩:=zqq hp;refine zvS (p:=p) r.pre (ha100.sub (Sub.trans (Sub.trans h.fs i.fs) d.fs)) (ha102.sub (Sub.trans (Sub.trans h.fs i.fs) d.fs)) (ha103.sub (Sub.trans (Sub.trans h.fs i.fs) d.fs)) vc fun se Xa ae wc ba=>?_;obtain⟨xc,e⟩:=r.callG wc oa;have D:=pa.k e;have ca:=ic.k e;refine⟨_,rfl,?_⟩;intro xd td
 have hgo:∀(O:Nat) (Ya:Int) (ya:Int) (na:M) (F:M) (o:Nat->Nat),St (Fm.of m) f F na->Sub Xa F->Lb (Fm.of m) F o na 1 m.nxt 4 [ca100,Il p.Reserve,ca102,ca103]->Lb (Fm.of m) F o na 2 sd.nxt 2 [Il j.1.Lo,Il j.1.Hi]->zuR p which Sa j Wa O Ya ya=some rz->xd [.c (Il Ya),.c (Il ya)] na:=by
  intro O
  induction O with
  | zero=>intro Ya ya na F o u a D ca hp; cases hp
  | succ O yc=>
   intro Ya ya na F o u a D ca hp;refine td _ _ _ ?_;rw[zuR] at hp;refine⟨ba.isSl,?_⟩
   try rw[ba.slLen]
   refine ifd hp (fun zc hp=>?_) fun zc hp=>?_; rotate_left
   ·refine ifd hp (fun Ac hp=>?_) fun Ac hp=>?_; rotate_left
    ·obtain rfl:=oi hp;exact hq _ u.ext'
    obtain⟨be,Bc,hp⟩:=zqq hp;refine zxT u.pre  Bc fun ie Cc=>?_;obtain⟨Dc,ce⟩:=u.call Cc o;refine⟨_,rfl,?_⟩;obtain rfl:=oi hp;exact hq _ Dc.ext'
   refine⟨_,_,_,_,D.bk.ra,?_⟩;obtain⟨Ec,qa,hp⟩:=zqq hp;obtain⟨yd,ob,za,qa⟩:=zqk qa;obtain⟨de,Za,ab⟩:=ba.rdS qa;refine⟨yd,ob,(by first|exact za|(rw[ba.slLen];exact za)),_,(Za _ (Sub.trans a u.sub)),_,_,_,_,D.bk.ra,?_⟩;obtain⟨Fc,Gc,hp⟩:=zqq hp;refine zvO (p:=p) u.pre (ha100.sub (Sub.trans (Sub.trans (Sub.trans (Sub.trans h.fs i.fs) d.fs) e.fs) a)) (ha102.sub (Sub.trans (Sub.trans (Sub.trans (Sub.trans h.fs i.fs) d.fs) e.fs) a)) (ha103.sub (Sub.trans (Sub.trans (Sub.trans (Sub.trans h.fs i.fs) d.fs) e.fs) a)) Gc fun te Hc=>?_;obtain⟨sa,bb⟩:=u.call Hc o;have cb:=D.k bb;have Ic:=ca.k bb;refine⟨_,rfl,(by rw[show cmC _=true from zoW (ab.noFn)]; exact(Za _ (Sub.trans a sa.sub))),(by rw[show zaL cmC _=true from zoX (zqu ha100.noFn (zqu rfl (zqu ha102.noFn (zqu ha103.noFn zqv))))]; exact(cb.bk.ra)),?_⟩;obtain⟨s,Jc,hp⟩:=zqq hp;refine zvP (p:=p) (losses:=Ec) (there:=Fc) sa.pre (ha100.sub (Sub.trans (Sub.trans (Sub.trans (Sub.trans h.fs i.fs) d.fs) e.fs) a)) (ha102.sub (Sub.trans (Sub.trans (Sub.trans (Sub.trans h.fs i.fs) d.fs) e.fs) a)) (ha103.sub (Sub.trans (Sub.trans (Sub.trans (Sub.trans h.fs i.fs) d.fs) e.fs) a)) (ab.sub a) Jc fun ue P ee Kc w=>?_;obtain⟨db,n⟩:=sa.callG Kc o;have eb:=cb.k n;have Nc:=Ic.k n;refine⟨_,_,rfl,_,_,_,_,eb.bk.ra,?_⟩
   try rw[ha102.slLen]
   obtain⟨y,Pc,hp⟩:=zqq hp;refine zxV (p:=p) (pays:=s.1) (treaty:=((zmc .i64 which) % (p.Treaties.length:Int))) db.pre (ha100.sub (Sub.trans (Sub.trans (Sub.trans (Sub.trans (Sub.trans h.fs i.fs) d.fs) e.fs) a) n.fs)) (ha102.sub (Sub.trans (Sub.trans (Sub.trans (Sub.trans (Sub.trans h.fs i.fs) d.fs) e.fs) a) n.fs)) (ha103.sub (Sub.trans (Sub.trans (Sub.trans (Sub.trans (Sub.trans h.fs i.fs) d.fs) e.fs) a) n.fs)) w Pc fun zd Qc=>?_;obtain⟨z,fb⟩:=db.call Qc o;have Rc:=eb.k fb;have ta:=Nc.k fb;refine⟨_,rfl,?_⟩;obtain⟨da,ea,hp⟩:=zqq hp;obtain⟨Ad,Aa,Ba,ea⟩:=zqk ea;refine⟨Ad,(by first|exact Aa|(rw[ha102.slLen];exact Aa)),(by first|exact Ba|(rw[w.slLen];exact Ba)),_,(w.rdI ea z.sub),?_⟩;obtain⟨fa,S,hp⟩:=zqq hp;obtain⟨Cd,Ca,Da,S⟩:=zqk S;obtain⟨_,gb⟩:=zsu g S;refine⟨Cd,(by first|exact Ca|(rw[ha102.slLen];exact Ca)),(by first|exact Da|(rw[g.slLen];exact Da)),(g.isPt S _),(g.isPt' S _ _),_,(by rw[zrF]; exact(gb _ (Sub.trans (Sub.trans (Sub.trans (Sub.trans d.fs e.fs) a) n.fs) z.sub)).2.1 0 _ rfl),?_⟩;obtain⟨ga,ha,hp⟩:=zqq hp;obtain⟨Dd,Ea,Fa,ha⟩:=zqk ha;refine⟨Dd,(by first|exact Ea|(rw[ha102.slLen];exact Ea)),(by first|exact Fa|(rw[w.slLen];exact Fa)),_,(w.rdI ha z.sub),?_⟩;obtain⟨ia,T,hp⟩:=zqq hp;obtain⟨Ed,Ga,Ha,T⟩:=zqk T;obtain⟨_,hb⟩:=zsu g T;refine⟨Ed,(by first|exact Ga|(rw[ha102.slLen];exact Ga)),(by first|exact Ha|(rw[g.slLen];exact Ha)),(g.isPt T _),(g.isPt' T _ _),_,(by rw[zrF]; exact(hb _ (Sub.trans (Sub.trans (Sub.trans (Sub.trans d.fs e.fs) a) n.fs) z.sub)).2.1 1 _ rfl),?_⟩
   obtain⟨ja,Y,hp⟩:=zqq hp;obtain⟨Fd,Ia,Ja,Y⟩:=zqk Y;obtain⟨_,ib⟩:=zsu g Y;refine⟨Fd,(by first|exact Ia|(rw[ha102.slLen];exact Ia)),(by first|exact Ja|(rw[g.slLen];exact Ja)),(g.isPt Y _),(g.isPt' Y _ _),_,(by rw[zrF]; exact(ib _ (Sub.trans (Sub.trans (Sub.trans (Sub.trans d.fs e.fs) a) n.fs) z.sub)).2.1 2 _ rfl),?_⟩;obtain⟨ka,Z,hp⟩:=zqq hp;obtain⟨Gd,Ka,La,Z⟩:=zqk Z;obtain⟨_,jb⟩:=zsu g Z;refine⟨Gd,(by first|exact Ka|(rw[ha102.slLen];exact Ka)),(by first|exact La|(rw[g.slLen];exact La)),(g.isPt Z _),(g.isPt' Z _ _),_,(by rw[zrF]; exact(jb _ (Sub.trans (Sub.trans (Sub.trans (Sub.trans d.fs e.fs) a) n.fs) z.sub)).2.1 3 _ rfl),trivial,_,ta.bk.rc rfl,trivial,_,ta.bk.rc rfl,?_⟩;intro je Tc;obtain⟨Uc,A,kb,Vc⟩:=z.blk Tc o 3;have Xc:=Rc.k kb;have ua:=ta.k kb;refine⟨(ua.bk.rc rfl),(ua.bk.rc rfl),(by rw[zrF]; exact(jb _ (Sub.trans (Sub.trans (Sub.trans (Sub.trans d.fs e.fs) a) n.fs) A.sub)).2.1 3 _ rfl),(by rw[zrF]; exact(ib _ (Sub.trans (Sub.trans (Sub.trans (Sub.trans d.fs e.fs) a) n.fs) A.sub)).2.1 2 _ rfl),(by rw[zrF]; exact(hb _ (Sub.trans (Sub.trans (Sub.trans (Sub.trans d.fs e.fs) a) n.fs) A.sub)).2.1 1 _ rfl),(w.rdI ha A.sub),(by rw[zrF]; exact(gb _ (Sub.trans (Sub.trans (Sub.trans (Sub.trans d.fs e.fs) a) n.fs) A.sub)).2.1 0 _ rfl),(w.rdI ea A.sub),?_⟩;obtain⟨Yc,Zc,ad,mb,G⟩:=Vc.sto A [(.bool (decide (da=fa.Pays.Lo))),(.bool (decide (ga=ia.Pays.Hi))),(.bool (decide (y=ja.Keeps.Lo))),(.bool (decide (y=ka.Keeps.Hi))),(.bool (decide (s.2=j.1.Lo))),(.bool (decide (s.2=j.1.Hi)))]
   have I:=Xc.k mb;have J:=ua.k mb;refine⟨Yc,Zc,?_⟩;intro ud bd
   have hgo:∀(la:Nat) (va:Int) (wa:Int) (N:M) (t:Nat->Nat),St (Fm.of m) f P N->Lb (Fm.of m) P t N 1 m.nxt 4 [ca100,Il p.Reserve,ca102,ca103]->Lb (Fm.of m) P t N 2 sd.nxt 2 [Il j.1.Lo,Il j.1.Hi]->Lb (Fm.of m) P t N 3 zd.nxt 6 [(.bool (decide (da=fa.Pays.Lo))),(.bool (decide (ga=ia.Pays.Hi))),(.bool (decide (y=ja.Keeps.Lo))),(.bool (decide (y=ka.Keeps.Hi))),(.bool (decide (s.2=j.1.Lo))),(.bool (decide (s.2=j.1.Hi)))]->zuQ j ya s y da fa ga ia ja ka (zuR p which Sa j Wa O) la va wa=some rz->ud [.c (Il va),.c (Il wa)] N:=by
    intro la
    induction la with
    | zero=>intro va wa N t ma I J G hp; cases hp
    | succ la Ma=>
     intro va wa N t ma I J G hp;refine bd _ _ _ ?_;rw[zuQ] at hp;refine ifd hp (fun cd hp=>?_) fun cd hp=>?_; rotate_left
     ·refine gdi hp fun dd hp=>?_;exact yc _ _ _ P t ma (Sub.trans a n.fs) I J hp
     refine⟨trivial,?_⟩;obtain⟨fe,xa,hp⟩:=zqq hp;obtain⟨vd,pb,qb,xa⟩:=zqk xa;refine⟨vd,pb,qb,_,(G.bk.rc (zqX (l:=([(decide (da=fa.Pays.Lo)),(decide (ga=ia.Pays.Hi)),(decide (y=ja.Keeps.Lo)),(decide (y=ka.Keeps.Hi)),(decide (s.2=j.1.Lo)),(decide (s.2=j.1.Hi))]:List Bool)) (enc:=C.bool) 0 rfl xa)),?_⟩;refine zq2 hp (fun ed hp=>?_) fun ed hp=>?_; rotate_left
     ·refine gdi hp fun fd hp=>?_;exact Ma _ _ _ t ma I J G hp
     refine gdi hp fun hd hp=>?_;refine gdi hp fun id hp=>?_;refine gdi hp fun jd hp=>?_;refine gdi hp fun kd hp=>?_;refine gdi hp fun ld hp=>?_;refine gdi hp fun md hp=>?_;refine gdi hp fun nd hp=>?_;refine gdi hp fun od hp=>?_;refine gdi hp fun pd hp=>?_;refine gdi hp fun qd hp=>?_;exact Ma _ _ _ t ma I J G hp
   exact hgo _ _ _ _ Uc ad I J G hp
 exact hgo _ _ _ _ Xa oa xc (Sub.refl _) D ca hp
def Inc(n fr:Nat)(T:List Int):Prop:=T.Pairwise (· < ·)/\∀v∈T,(fr:Int)<=v/\v < n
theorem Inc.cons{n fr:Nat}{x:Int}{T:List Int}:Inc n fr (x::T)↔((fr:Int)<=x/\x < n)/\Inc n (x+1).toNat T:=by
 unfold Inc;rw[List.pairwise_cons]
 constructor
 ·rintro⟨⟨h1,h2⟩,h3⟩
  have hx:=h3 x (List.mem_cons_self ..);exact⟨hx,h2,fun v hv=>by have:=h1 v hv; have:=h3 v (List.mem_cons_of_mem _ hv); omega⟩
 ·rintro⟨hx,h2,h3⟩
  refine⟨⟨fun v hv=>by have:=h3 v hv; omega,h2⟩,fun v hv=>?_⟩
  rcases List.mem_cons.1 hv with rfl | hv
  ·exact hx
  ·have:=h3 v hv; omega
theorem zxX{n:Nat}{D:List Int}:∀{d:Nat} {pre:List Int} {fr:Nat},D∈zrz n d pre fr↔∃T,D=pre++T/\T.length=d/\Inc n fr T
 | 0,pre,fr=>by
  show D∈[pre]↔_
  rw[List.mem_singleton]
  constructor
  ·rintro rfl; exact⟨[],by simp,rfl,.nil,fun v hv=>by cases hv⟩
  ·rintro⟨T,h1,h2,_⟩
   rw[List.eq_nil_of_length_eq_zero h2,List.append_nil] at h1; exact h1
 | d+1,pre,fr=>by
  show D∈zry (fun x=>zrz n d (pre++[(x:Int)]) (x+1)) (n - fr) fr↔_
  rw[zwO]
  constructor
  ·rintro⟨x,h1,h2,h3⟩
   obtain⟨T,h4,h5,h6⟩:=zxX.1 h3;refine⟨(x:Int)::T,by rw[h4]; simp,by simp[h5],Inc.cons.2 ⟨by omega,?_⟩⟩;rw[show((x:Int)+1).toNat=x+1 by omega]; exact h6
  ·rintro⟨T,h1,h2,h3⟩
   cases T with
   | nil=>simp at h2
   | cons v T=>
    obtain⟨h4,h5⟩:=Inc.cons.1 h3;refine⟨v.toNat,by omega,by omega,zxX.2 ⟨T,?_,by simpa using h2,?_⟩⟩
    ·rw[show((v.toNat:Nat):Int)=v by omega,h1]; simp
    ·rw[show v.toNat+1=(v+1).toNat by omega]; exact h5
theorem zxY{n:Nat}:∀{T:List Int} {fr:Nat},Inc n fr T->T.length<=n - fr
 | [],_,_=>Nat.zero_le _
 | v::T,fr,h=>by
  obtain⟨h1,h2⟩:=Inc.cons.1 h;have:=zxY h2
  simp only[List.length_cons]
  omega
theorem zxZ{n:Nat}{D:List Int}:D∈zoj n↔Inc n 0 D:=by
 unfold zoj;rw[zwO]
 constructor
 ·rintro⟨s,_,_,h⟩
  obtain⟨T,h1,_,h2⟩:=zxX.1 h;rw[h1]; exact h2
 ·intro h;have:=zxY h;exact⟨D.length,Nat.zero_le _,by omega,zxX.2 ⟨D,rfl,rfl,h⟩⟩
def inD(D:List Int)(j:Nat):Bool:=decide ((j:Int)∈D)
def zx0(b:Nat):Nat->List Int
 | 0=>[]
 | p+1=>zx0 b p++(if b.testBit p then [(p:Int)] else [])
def zx1(b:Nat):List Int:=zx0 b 16
theorem zx2{b:Nat}{v:Int}:∀{p:Nat},v∈zx0 b p↔0<=v/\v < p/\b.testBit v.toNat=true
 | 0=>⟨fun h=>(by cases h),fun h=>by omega⟩
 | p+1=>by
  show v∈zx0 b p++_↔_
  rw[List.mem_append,zx2]
  constructor
  ·rintro (h | h)
   ·exact⟨h.1,by omega,h.2.2⟩
   ·by_cases hb:b.testBit p=true
    ·rw[if_pos hb,List.mem_singleton] at h;subst h; exact⟨by omega,by omega,hb⟩
    ·rw[if_neg hb] at h; cases h
  ·rintro⟨h1,h2,h3⟩
   by_cases hv:v=(p:Int)
   ·subst hv;have h4:b.testBit p=true:=h3;rw[if_pos h4]; exact .inr (List.mem_singleton.2 rfl)
   ·exact .inl ⟨h1,by omega,h3⟩
theorem zx3{b:Nat}:∀p:Nat,(zx0 b p).Pairwise (· < ·)
 | 0=>.nil
 | p+1=>by
  show(zx0 b p++_).Pairwise _
  rw[List.pairwise_append];refine⟨zx3 p,?_,fun a ha c hc=>?_⟩
  ·split
   ·exact List.pairwise_singleton _ _
   ·exact .nil
  ·have:=zx2.1 ha
   split at hc
   ·rw[List.mem_singleton] at hc; omega
   ·cases hc
theorem zx4{b p:Nat}(h:∀q,p<=q->b.testBit q=false):∀k,zx0 b (p+k)=zx0 b p
 | 0=>rfl
 | k+1=>by
  show zx0 b (p+k)++(if b.testBit (p+k) then _ else _)=_
  rw[h (p+k) (by omega),zx4 h k]; simp
theorem zx5(b p:Nat):(b:Int) / 2 ^ p=((b / 2 ^ p:Nat):Int):=by simp
def bef:List Int->List Int->Bool
 | [],[]=>false
 | [],_::_=>true
 | _::_,[]=>false
 | x::a,y::b=>if x=y then bef a b else decide (x < y)
def shB(a b:List Int):Bool:=decide (a.length < b.length) || (decide (a.length=b.length) && bef a b)
theorem zx6:∀A:List Int,bef A A=false
 | []=>rfl
 | x::A=>by show(if x=x then bef A A else _)=_; rw[if_pos rfl,zx6 A]
theorem zx7:∀{A B:List Int},bef A B=true->bef B A=false
 | [],[],h=>by cases h
 | [],_::_,_=>rfl
 | _::_,[],h=>by cases h
 | x::A,y::B,h=>by
  have h':(if x=y then bef A B else decide (x < y))=true:=h
  show(if y=x then bef B A else decide (y < x))=false
  by_cases hxy:x=y
  ·rw[if_pos hxy] at h'; rw[if_pos hxy.symm]; exact zx7 h'
  ·rw[if_neg hxy] at h'; rw[if_neg fun h=>hxy h.symm];have:=of_decide_eq_true h';exact decide_eq_false (by omega)
theorem zx8{A B:List Int}(h:shB A B=true):shB B A=false:=by
 unfold shB at h ⊢;rw[Bool.or_eq_true,Bool.and_eq_true,decide_eq_true_eq,decide_eq_true_eq] at h
 rcases h with h | ⟨h1,h2⟩
 ·rw[decide_eq_false (by omega),decide_eq_false (by omega)]; rfl
 ·rw[decide_eq_false (by omega),zx7 h2]; simp
theorem zx9(x y:Int)(A B:List Int)(hxy:x < y):∀pre:List Int,bef (pre++x::A) (pre++y::B)=true
 | []=>by show(if x=y then _ else decide (x < y))=true; rw[if_neg (by omega),decide_eq_true hxy]
 | p::pre=>by show(if p=p then bef (pre++x::A) (pre++y::B) else _)=true; rw[if_pos rfl]; exact zx9 x y A B hxy pre
theorem zya{α:Type}{R:α->α->Prop}(g:Nat->List α)(h1:∀x,(g x).Pairwise R)(h2:∀x y,x < y->∀a∈g x,∀b∈g y,R a b):∀e x,(zry g e x).Pairwise R
 | 0,_=>.nil
 | e+1,x=>by
  show(g x++zry g e (x+1)).Pairwise R
  rw[List.pairwise_append];refine⟨h1 x,zya g h1 h2 e (x+1),fun a ha b hb=>?_⟩;obtain⟨j,h3,_,h4⟩:=(zwO g b e (x+1)).1 hb;exact h2 x j (by omega) a ha b h4
theorem zyb{n:Nat}:∀(d:Nat) (pre:List Int) (fr:Nat),(zrz n d pre fr).Pairwise fun a b=>bef a b=true
 | 0,pre,fr=>List.pairwise_singleton _ _
 | d+1,pre,fr=>zya _ (fun x=>zyb d _ _) (fun x y hxy a ha b hb=>by
  obtain⟨T,h1,_,_⟩:=zxX.1 ha;obtain⟨T',h2,_,_⟩:=zxX.1 hb;rw[h1,h2,List.append_assoc,List.append_assoc]
  exact zx9 _ _ _ _ (by omega) pre) _ _
theorem zyc(n:Nat):(zoj n).Pairwise fun a b=>shB a b=true:=
 zya _ (fun s=>(zyb s [] 0).imp_of_mem fun {a b} ha hb hab=>by
  have h1:=zwX ha;have h2:=zwX hb;unfold shB
  rw[hab,decide_eq_true (show a.length=b.length by omega)]; simp) (fun s s' hs a ha b hb=>by
  have h1:=zwX ha;have h2:=zwX hb;unfold shB
  rw[decide_eq_true (by omega)]; rfl) _ _
theorem zyd{t:List Int->Bool}:∀{l:List (List Int)},l.Pairwise (fun a b=>shB a b=true)->∀{D D':List Int},l.find? t=some D->D'∈l->t D'=true->D'=D\/shB D D'=true
 | [],_,_,_,h,_,_=>by cases h
 | a::l,hp,D,D',h,hm,ht=>by
  rw[List.pairwise_cons] at hp;rw[List.find?_cons] at h
  cases hta:t a with
  | true=>
   rw[hta] at h;have:a=D:=oi h;subst this
   rcases List.mem_cons.1 hm with rfl | h1
   ·exact .inl rfl
   ·exact .inr (hp.1 _ h1)
  | false=>
   rw[hta] at h
   rcases List.mem_cons.1 hm with rfl | h1
   ·rw[hta] at ht; cases ht
   ·exact zyd hp.2 h h1 ht
theorem zye{n:Nat}{t:List Int->Bool}(h:∃D,Inc n 0 D/\t D=true):Inc n 0 (zrA n t)/\t (zrA n t)=true/\∀D,Inc n 0 D->t D=true->D=zrA n t\/shB (zrA n t) D=true:=by
 obtain⟨D0,h1,h2⟩:=h;unfold zrA
 cases hf:(zoj n).find? t with
 | none=>exact absurd h2 (by have:=List.find?_eq_none.1 hf D0 (zxZ.2 h1); simpa using this)
 | some D=>exact⟨zxZ.1 (List.mem_of_find?_eq_some hf),List.find?_some hf,fun D' h3 h4=>zyd (zyc n) hf (zxZ.2 h3) h4⟩
theorem zyf:∀(n:Nat) (S:Nat->Bool),∃b,b < 2 ^ n/\∀q,q < n->b.testBit q=S q
 | 0,S=>⟨0,by decide,fun q hq=>by omega⟩
 | n+1,S=>by
  obtain⟨b,h1,h2⟩:=zyf n fun q=>S (q+1);refine⟨2 * b+(if S 0 then 1 else 0),?_,fun q hq=>?_⟩
  ·rw[Nat.pow_succ]; split <;> omega
  ·cases q with
   | zero=>
    rw[Nat.testBit_zero]
    cases S 0 with
    | true=>exact decide_eq_true (by simp only[if_true]; omega)
    | false=>exact decide_eq_false (by simp)
   | succ q=>
    rw[Nat.testBit_succ,<- h2 q (by omega)]
    congr 1
    split <;> omega
theorem zyg:∀{A B:List Int},A.Pairwise (· < ·)->B.Pairwise (· < ·)->(∀v,v∈A↔v∈B)->A=B
 | [],[],_,_,_=>rfl
 | [],b::B,_,_,h=>by have:=(h b).2 (List.mem_cons_self ..); cases this
 | a::A,[],_,_,h=>by have:=(h a).1 (List.mem_cons_self ..); cases this
 | a::A,b::B,hA,hB,h=>by
  rw[List.pairwise_cons] at hA hB
  have hab:a=b:=by
   rcases List.mem_cons.1 ((h a).1 (List.mem_cons_self ..)) with h1 | h1
   ·exact h1
   ·rcases List.mem_cons.1 ((h b).2 (List.mem_cons_self ..)) with h2 | h2
    ·exact h2.symm
    ·have:=hA.1 _ h2; have:=hB.1 _ h1; omega
  subst hab
  congr 1
  refine zyg hA.2 hB.2 fun v=>?_;have hv:=h v;rw[List.mem_cons,List.mem_cons] at hv
  constructor
  ·intro h1
   rcases hv.1 (.inr h1) with h2 | h2
   ·have:=hA.1 _ h1; omega
   ·exact h2
  ·intro h1
   rcases hv.2 (.inr h1) with h2 | h2
   ·have:=hB.1 _ h1; omega
   ·exact h2
theorem zyh{n b:Nat}(_hn:n<=16)(hb:b < 2 ^ n):Inc n 0 (zx1 b):=
 ⟨zx3 16,fun v hv=>by
  obtain⟨h1,h2,h3⟩:=zx2.1 hv;refine⟨by omega,?_⟩
  by_cases h4:v < n
  ·exact h4
  ·have:=Nat.testBit_lt_two_pow (Nat.lt_of_lt_of_le hb (Nat.pow_le_pow_right (by omega) (show n<=v.toNat by omega)))
   rw[this] at h3; cases h3⟩
theorem zyi{n b k:Nat}(hn:n<=16)(hk:k < n):inD (zx1 b) k=b.testBit k:=by
 unfold inD
 have:((k:Nat):Int)∈zx1 b↔b.testBit k=true:=by
  unfold zx1;rw[zx2];exact⟨fun h=>h.2.2,fun h=>⟨by omega,by omega,h⟩⟩
 cases hb:b.testBit k with
 | true=>exact decide_eq_true (this.2 hb)
 | false=>exact decide_eq_false fun h=>by rw[this.1 h] at hb; cases hb
theorem zyj{n:Nat}{D:List Int}(hn:n<=16)(hD:Inc n 0 D):∃b,b < 2 ^ n/\zx1 b=D:=by
 obtain⟨b,h1,h2⟩:=zyf n (inD D);refine⟨b,h1,zyg (zx3 16) hD.1 fun v=>?_⟩
 constructor
 ·intro hv;obtain⟨h3,h4⟩:=(zyh hn h1).2 v hv;obtain⟨_,_,h5⟩:=zx2.1 hv;rw[h2 _ (by omega)] at h5;have:=of_decide_eq_true h5
  rwa [show((v.toNat:Nat):Int)=v by omega] at this
 ·intro hv;have h3:=hD.2 v hv;refine zx2.2 ⟨by omega,by omega,?_⟩;rw[h2 _ (by omega)];exact decide_eq_true (by rw[show((v.toNat:Nat):Int)=v by omega]; exact hv)
theorem zyk{S β:Type}{n:Nat}(F:Nat->S->Int->Option β)(st:Nat->S){fin:Option β}(hstep:∀d k,k < n->F (d+1) (st k) (k:Int)=F d (st (k+1)) ((k:Int)+1))(hend:∀d,F (d+1) (st n) (n:Int)=fin) :
  ∀d k,k<=n->n - k < d->F d (st k) (k:Int)=fin
 | 0,k,_,h=>by omega
 | d+1,k,hk,h=>by
  by_cases hkn:k=n
  ·subst hkn; exact hend d
  ·rw[hstep d k (by omega),show(k:Int)+1=((k+1:Nat):Int) by omega];exact zyk F st hstep hend d (k+1) (by omega) (by omega)
def mk5(f:Nat->Int):P5:=⟨f 0,f 1,f 2,f 3,f 4⟩
def l5{α:Type}(f:Nat->α):List α:=[f 0,f 1,f 2,f 3,f 4]
theorem zyl{α:Type}{f:Nat->α}{k:Nat}(hk:k < 5):(l5 f)[k]? = some (f k):=by
 match k,hk with
 | 0,_=>rfl
 | 1,_=>rfl
 | 2,_=>rfl
 | 3,_=>rfl
 | 4,_=>rfl
theorem zym{α:Type}{f:Nat->α}{k:Nat}(hk:k < 5):idx (l5 f) (k:Int)=some (f k):=zrU (zyl hk)
theorem zyn{α:Type}{f:Nat->α}{i:Int}(h0:0<=i)(h5:i < 5):idx (l5 f) i=some (f i.toNat):=by
 have:=zym (f:=f) (k:=i.toNat) (by omega)
 rwa [show((i.toNat:Nat):Int)=i by omega] at this
theorem zyo{f g:Nat->Int}(h:mk5 f=mk5 g){k:Nat}(hk:k < 5):f k=g k:=by
 have h:=P5.mk.inj h
 match k,hk with
 | 0,_=>exact h.1
 | 1,_=>exact h.2.1
 | 2,_=>exact h.2.2.1
 | 3,_=>exact h.2.2.2.1
 | 4,_=>exact h.2.2.2.2
def upF{α:Type}(f:Nat->α)(k:Nat)(a:α):Nat->α:=fun j=>if j=k then a else f j
theorem zyp{α:Type}(f:Nat->α)(k:Nat)(a:α):upF f k a k=a:=if_pos rfl
theorem zyq{α:Type}(f:Nat->α){k j:Nat}(a:α)(h:j ≠ k):upF f k a j=f j:=if_neg h
theorem zyr{α:Type}(f:Nat->α)(k:Nat)(a:α)(j:Nat):sti (k:Int) j a (f j)=upF f k a j:=by
 unfold sti upF
 by_cases h:j=k
 ·rw[if_pos h,if_pos (by omega)]
 ·rw[if_neg h,if_neg (by omega)]
theorem zys{α:Type}(f:Nat->α){i:Int}(hi:0<=i)(a:α)(j:Nat):sti i j a (f j)=upF f i.toNat a j:=by
 have:=zyr f i.toNat a j
 rwa [show((i.toNat:Nat):Int)=i by omega] at this
def RgV(r:Rg)(hi:Int):Prop:=0<=r.Lo/\r.Lo<=r.Hi/\r.Hi<=hi
def zgo(t:Ty):Prop:=(t.Kind=0/\(1<=t.Part/\t.Part<=100)/\t.Above=0/\t.Most=0/\t.Times=0)\/(t.Kind=1/\t.Part=0/\(0<=t.Above/\t.Above<=1000)/\(1<=t.Most/\t.Most<=1000)/\0<=t.Times/\t.Times<=3)
def zyt(t:Ty):Prop:=zgo t/\0<=t.Price/\t.Price<=1000
def zyu(ts:List Ty):Prop:=∀(i:Nat) (t:Ty),ts[i]? = some t->-1<=t.Of/\t.Of<=(i:Int) - 1
def zyv(p:Pg)(r:Rpt):Prop:=(0<=r.Treaty/\r.Treaty<=(p.Treaties.length:Int) - 1)/\RgV r.Paid 10000
structure zyw (p:Pg):Prop where
 ls:∀r∈p.Losses,RgV r 1000
 res:0<=p.Reserve/\p.Reserve<=10000
 ts:∀t∈p.Treaties,zyt t
 of':zyu p.Treaties
 rs:∀r∈p.Reports,zyv p r
def zyx(p:Pg):Prop:=4 < p.Losses.length\/5 < p.Treaties.length\/5 < p.Reports.length
def zyy:List Rg->Int
 | []=>1
 | r::l=>(r.Hi - r.Lo+1) * zyy l
open Classical in
def zyz(p:Pg):Int:=if zyx p then 3 else if zyw p then (if 1500 < zyy p.Losses then 3 else 0) else 1
structure VP (p:Pg):Prop extends zyw p where
 l4:p.Losses.length<=4
 t5:p.Treaties.length<=5
 r5:p.Reports.length<=5
 many:zyy p.Losses<=1500
theorem zyA{p:Pg}:zyz p=0↔VP p:=by
 unfold zyz
 by_cases h:zyx p
 ·rw[if_pos h]; exact⟨fun h=>by omega,fun h2=>by have:=h2.l4; have:=h2.t5; have:=h2.r5; unfold zyx at h; omega⟩
 ·rw[if_neg h];unfold zyx at h
  by_cases hf:zyw p
  ·rw[if_pos hf]
   by_cases hm:1500 < zyy p.Losses
   ·rw[if_pos hm]; exact⟨fun h=>by omega,fun h=>by have:=h.many; omega⟩
   ·rw[if_neg hm]; exact⟨fun _=>⟨hf,by omega,by omega,by omega,by omega⟩,fun _=>rfl⟩
  ·rw[if_neg hf]; exact⟨fun h=>by omega,fun h=>absurd ⟨h.ls,h.res,h.ts,h.of',h.rs⟩ hf⟩
theorem zyB{r:Rg}{n:Int}:Ev (zs0 r n) (r.Lo<=n/\n<=r.Hi):=Ev.ite fun _=>Ev.dec Iff.rfl
theorem zyC{a b:Int}{r:Rg}:Ev (zs1 { Lo:=a,Hi:=b } r) (a<=r.Lo/\r.Lo<=r.Hi/\r.Hi<=b):=Ev.ite fun _=>Ev.ite fun _=>Ev.dec Iff.rfl
theorem zyD{k:Kd}{t:Ty}:Ev (zta k t) ((k.part.Lo<=t.Part/\t.Part<=k.part.Hi)/\(k.above.Lo<=t.Above/\t.Above<=k.above.Hi)/\(k.most.Lo<=t.Most/\t.Most<=k.most.Hi)/\k.times.Lo<=t.Times/\t.Times<=k.times.Hi):=
 zyB.and fun _=>zyB.and fun _=>zyB.and fun _=>zyB.ret
def zyE:K2:={ k0:={ part:={ Lo:=1,Hi:=100 },above:={ Lo:=0,Hi:=0 },most:={ Lo:=0,Hi:=0 },times:={ Lo:=0,Hi:=0 },takes:=(fun t a b=>zs7 t a b) },k1:={ part:={ Lo:=0,Hi:=0 },above:={ Lo:=0,Hi:=1000 },most:={ Lo:=1,Hi:=1000 },times:={ Lo:=0,Hi:=3 },takes:=(fun t a b=>zs8 t a b) } }
theorem zyF:zs9=some zyE:=rfl
theorem zyG{t:Ty}:Ev (ztb zyE t) (zyt t):=by
 unfold ztb
 show Ev ((zs0 { Lo:=0,Hi:=1 } t.Kind).bind _) _
 refine(zyB.and (K:=zgo t/\0<=t.Price/\t.Price<=1000) fun hk=>?_).imp ?_
 ·by_cases h0:t.Kind=0
  ·rw[if_pos h0];refine(zyD.and fun _=>(show Ev (zs0 { Lo:=0,Hi:=1000 } t.Price) _ from zyB).ret).imp ?_
   show((1<=t.Part/\t.Part<=100)/\(0<=t.Above/\t.Above<=0)/\(0<=t.Most/\t.Most<=0)/\0<=t.Times/\t.Times<=0)/\(0<=t.Price/\t.Price<=1000)↔_
   unfold zgo; omega
  ·have h1:t.Kind=1:=by
    have hk:0<=t.Kind/\t.Kind<=1:=hk
    omega
   rw[if_neg h0,if_pos h1];refine(zyD.and fun _=>(show Ev (zs0 { Lo:=0,Hi:=1000 } t.Price) _ from zyB).ret).imp ?_
   show((0<=t.Part/\t.Part<=0)/\(0<=t.Above/\t.Above<=1000)/\(1<=t.Most/\t.Most<=1000)/\0<=t.Times/\t.Times<=3)/\(0<=t.Price/\t.Price<=1000)↔_
   unfold zgo; omega
 ·show((0<=t.Kind/\t.Kind<=1)/\zgo t/\0<=t.Price/\t.Price<=1000)↔zyt t
  unfold zyt zgo; omega
theorem gR{l:List Rg}{p:Rg->Option Bool}:∀{d:Nat} {x:Int},zti l p d x=gIdx l p d x
 | 0,_=>rfl
 | d+1,x=>by unfold zti gIdx; simp only[gR]
theorem gT{l:List Ty}{p:Ty->Option Bool}:∀{d:Nat} {x:Int},ztn l p d x=gIdx l p d x
 | 0,_=>rfl
 | d+1,x=>by unfold ztn gIdx; simp only[gT]
theorem gQ{l:List Rpt}{p:Rpt->Option Bool}:∀{d:Nat} {x:Int},zts l p d x=gIdx l p d x
 | 0,_=>rfl
 | d+1,x=>by unfold zts gIdx; simp only[gQ]
theorem gI{l:List Int}{p:Int->Option Bool}:∀{d:Nat} {x:Int},ztx l p d x=gIdx l p d x
 | 0,_=>rfl
 | d+1,x=>by unfold ztx gIdx; simp only[gI]
theorem zyH{p:Pg}{n:Int}(h:zr4 p.Treaties):Ev (ztd p n) (0<=n/\n<=(p.Treaties.length:Int) - 1):=by
 unfold ztd;unfold zr4 at h;refine Ev.gd (fI (by omega)) ?_;exact(show Ev (zs0 { Lo:=0,Hi:=(p.Treaties.length:Int) - 1 } n) _ from zyB).ret
theorem zyI{p:Pg}{r:Rpt}(h:zr4 p.Treaties):Ev (zte p r) (zyv p r):=(zyH h).and fun _=>(zyC (a:=0) (b:=10000)).ret
theorem zyJ{p:Pg}(h:zr4 p.Treaties):Ev (ztg p) (zyu p.Treaties):=by
 unfold zr4 at h;refine(Ev.loop (n:=p.Treaties.length) (F:=fun d x=>ztf p d x) (ok:=fun j=>∀t,p.Treaties[j]? = some t->-1<=t.Of/\t.Of<=(j:Int) - 1) (fin:=some true) (P:=True) (fun d k hk=>?_) (fun d=>?_) (by omega) (fun _=>Ev.tt trivial)).imp ?_
 ·have hg:=List.getElem?_eq_getElem hk
  show(_->ztf p (d+1) (k:Int)=_)/\(_->ztf p (d+1) (k:Int)=_)
  rw[ztf,if_pos (by omega),zrU hg,obs,zqs (fI (by omega))];exact(show Ev (zs0 { Lo:=-1,Hi:=(k:Int) - 1 } (p.Treaties[k]).Of) (∀t,p.Treaties[k]? = some t->-1<=t.Of/\t.Of<=(k:Int) - 1) from zyB.imp ⟨fun h t ht=>by rw[hg] at ht; cases ht; exact h,fun h=>h _ hg⟩).step (by rw[if_pos rfl,zqs (fI (by omega))]) (by rw[if_neg (by decide)])
 ·show ztf p (d+1) _=_
  rw[ztf,if_neg (Int.lt_irrefl _)]
 ·exact⟨fun h i t ht=>h.1 i (List.getElem?_eq_some_iff.1 ht).1 t ht,fun h=>⟨fun j _ t ht=>h j t ht,trivial⟩⟩
theorem zyK{p:Pg}(h1:zr4 p.Losses)(h2:zr4 p.Treaties)(h3:zr4 p.Reports):Ev (ztD p) (zyw p):=by
 unfold ztD;rw[zyF,obs]
 show Ev ((ztl p.Losses fun a=>zs1 { Lo:=0,Hi:=1000 } a).bind _) _
 refine((Ev.each (q:=fun r=>RgV r 1000) (fun a _=>zyC) h1.lt gR).and fun _=>(show Ev (zs0 { Lo:=0,Hi:=10000 } p.Reserve) _ from zyB).and fun _=>(Ev.each (q:=zyt) (fun a _=>zyG) h2.lt gT).and fun _=>(zyJ h2).and fun _=>(Ev.each (q:=zyv p) (fun a _=>zyI h2) h3.lt gQ).ret).imp ?_;exact⟨fun⟨a,b,c,d,e⟩=>⟨a,b,c,d,e⟩,fun⟨a,b,c,d,e⟩=>⟨a,b,c,d,e⟩⟩
theorem zyL{p:Pg}:Ev (ztc p) (zyx p):=by
 unfold ztc zyx
 by_cases h:(4:Int) < p.Losses.length
 ·rw[if_pos h]; exact Ev.tt (by omega)
 ·rw[if_neg h]
  by_cases h2:(5:Int) < p.Treaties.length
  ·rw[if_pos h2]; exact Ev.tt (by omega)
  ·rw[if_neg h2]; exact Ev.dec (by omega)
theorem zyM{r:Rg}(h:RgV r 1000):ztE r=some (r.Hi - r.Lo+1):=by
 unfold RgV at h;unfold ztE;rw[zqs (fI (by omega)),zqs (fI (by omega))]
theorem zyN:∀{l:List Rg},(∀r∈l,RgV r 1000)->l.length<=4->1<=zyy l/\zyy l<=1001 ^ l.length
 | [],_,_=>⟨Int.le_refl _,Int.le_refl _⟩
 | r::l,h,h4=>by
  have h1:=h r (List.mem_cons_self ..);obtain⟨h2,h3⟩:=zyN (l:=l) (fun r hr=>h r (List.mem_cons_of_mem _ hr)) (by simp only[List.length_cons] at h4; omega);unfold RgV at h1
  show 1<=(r.Hi - r.Lo+1) * zyy l/\(r.Hi - r.Lo+1) * zyy l<=1001 ^ (l.length+1)
  have h5:1 * 1<=(r.Hi - r.Lo+1) * zyy l:=Int.mul_le_mul (by omega) h2 (by omega) (by omega);have h6:(r.Hi - r.Lo+1) * zyy l<=1001 * 1001 ^ l.length:=Int.mul_le_mul (by omega) h3 (by omega) (by omega);refine⟨by omega,?_⟩;rw[Int.pow_succ,Int.mul_comm ((1001:Int) ^ l.length)]; exact h6
theorem zyO{n:Nat}(h:n<=4):(1001:Int) ^ n<=1004006004001:=by
 match n,h with
 | 0,_=>decide
 | 1,_=>decide
 | 2,_=>decide
 | 3,_=>decide
 | 4,_=>decide
theorem zyP{l:List Rg}{k:Nat}{r:Rg}(h:l[k]? = some r):zyy (l.take (k+1))=zyy (l.take k) * (r.Hi - r.Lo+1):=by
 induction l generalizing k with
 | nil=>cases h
 | cons a l ih=>
  cases k with
  | zero=>cases h; show(r.Hi - r.Lo+1) * 1=1 * (r.Hi - r.Lo+1); rw[Int.one_mul,Int.mul_one]
  | succ k=>
   rw[List.take_succ_cons,List.take_succ_cons]
   show(a.Hi - a.Lo+1) * zyy (l.take (k+1))=(a.Hi - a.Lo+1) * zyy (l.take k) * _
   rw[ih h,Int.mul_assoc]
theorem zyQ{l:List Rg}(h:∀r∈l,RgV r 1000)(h4:l.length<=4)(k:Nat):1<=zyy (l.take k)/\zyy (l.take k)<=1004006004001:=by
 have h1:=zyN (l:=l.take k) (fun r hr=>h r (List.mem_of_mem_take hr)) (by rw[List.length_take]; omega);have h2:=zyO (n:=(l.take k).length) (by rw[List.length_take]; omega)
 omega
theorem zyR{l:List Rg}(h:∀r∈l,RgV r 1000)(h4:l.length<=4):ztG l=some (zyy l):=by
 unfold ztG;have key:=zyk (n:=l.length) (fun d s x=>ztF l d s x) (fun k=>zyy (l.take k)) (fin:=some (zyy l)) (fun d k hk=>?_) (fun d=>?_) (l.length+1) 0 (by omega) (by omega)
 ·exact key
 ·have hg:=List.getElem?_eq_getElem hk;have hr:=h _ (List.getElem_mem hk);have hb:=zyQ h h4 k;have hb2:=zyQ h h4 (k+1);rw[zyP hg] at hb2
  show ztF l (d+1) _ _=_
  rw[ztF,if_pos (by omega),zrU hg,obs,zyM hr,obs,zqs (by omega),zqs (by unfold RgV at hr; omega),zqs (fI (by omega)),zqs (fI (by omega)),<- zyP hg]
 ·show ztF l (d+1) _ _=_
  rw[ztF,if_neg (by omega),List.take_length]
theorem zyS{p:Pg}(h4:p.Losses.length<=1000):ztI p=some p.Losses:=by
 unfold ztI;have key:=zyk (n:=p.Losses.length) (fun d s x=>ztH p d s x) (fun k=>p.Losses.take k) (fin:=some p.Losses) (fun d k hk=>?_) (fun d=>?_) (p.Losses.length+1) 0 (by omega) (by omega)
 ·exact key
 ·have hg:=List.getElem?_eq_getElem hk
  show ztH p (d+1) _ _=_
  rw[ztH,if_pos (by omega),zrU hg,obs,zqs (by rw[List.length_take]; omega),zqs (fI (by omega)),List.take_add_one,hg]; rfl
 ·show ztH p (d+1) _ _=_
  rw[ztH,if_neg (by omega),List.take_length]
theorem zyT{p:Pg}(h1:zr4 p.Losses)(h2:zr4 p.Treaties)(h3:zr4 p.Reports):ztJ p=some (zyz p):=by
 unfold ztJ zyz;refine zyL.pick (fun h=>?_) fun h=>?_
 ·rw[if_pos rfl,if_pos h]
 ·rw[if_neg (by decide),if_neg h];unfold zyx at h;refine(zyK h1 h2 h3).pick (fun h=>?_) fun h=>?_
  ·rw[if_pos rfl,if_pos h,zyS (by omega),obs,zyR h.ls (by omega),obs]
   split <;> rfl
  ·rw[if_neg (by decide),if_neg h]
theorem zyU{n lo hi:Int}:Ev (zsw n lo hi) (lo<=n/\n<=hi):=Ev.ite fun _=>Ev.dec Iff.rfl
theorem zyV{r:Rg}{a b:Int}:Ev (zsx r a b) (a<=r.Lo/\r.Lo<=r.Hi/\r.Hi<=b):=Ev.ite fun _=>Ev.ite fun _=>Ev.dec Iff.rfl
theorem zyW{t:Ty}{k:Nat}(hk:k<=1000):Ev (zsz t (k:Int)) (zyt t/\-1<=t.Of/\t.Of<=(k:Int) - 1):=by
 unfold zsz;refine(zyU.and (K:=(-1<=t.Of/\t.Of<=(k:Int) - 1)/\(0<=t.Times/\t.Times<=3)/\zgo t) fun _=>Ev.gd (fI (by omega)) (zyU.and fun _=>zyU.and fun _=>?_)).imp ?_
 ·by_cases h0:t.Kind=0
  ·rw[if_pos h0];refine(zyU.and fun _=>Ev.ite fun _=>Ev.ite fun _=>Ev.dec Iff.rfl).imp ?_;unfold zgo; omega
  ·rw[if_neg h0];refine(Ev.ite fun _=>Ev.ite fun _=>zyU.and fun _=>zyU.ret).imp ?_;unfold zgo; omega
 ·unfold zyt zgo; omega
theorem zyX{r:Rg}(h:RgV r 1000):zsy r=some (r.Hi - r.Lo+1):=by
 unfold RgV at h;unfold zsy;rw[zqs (fI (by omega)),zqs (fI (by omega))]
def zyY(l:List Rg):Nat->Int
 | 0=>1
 | k+1=>match l[k]? with
  | some r=>min 2000 (zyY l k * (r.Hi - r.Lo+1))
  | none=>zyY l k
theorem zyZ{l:List Rg}(h:∀r∈l,RgV r 1000)(h4:l.length<=4):∀k,k<=l.length->(1<=zyY l k/\zyY l k<=2000)/\(zyY l k=zyy (l.take k)\/(1500 < zyY l k/\1500 < zyy (l.take k)))
 | 0,_=>⟨by show(1:Int)<=1/\(1:Int)<=2000; omega,.inl rfl⟩
 | k+1,hk=>by
  obtain⟨h1,h2⟩:=zyZ h h4 k (by omega);have hg:=List.getElem?_eq_getElem (show k < l.length by omega);have hr:=h _ (List.getElem_mem (show k < l.length by omega));have hb:=zyQ h h4 (k+1);have hb0:=zyQ h h4 k;rw[zyP hg] at hb ⊢;unfold RgV at hr
  have e:zyY l (k+1)=min 2000 (zyY l k * ((l[k]'(by omega)).Hi - (l[k]'(by omega)).Lo+1)):=by
   show(match l[k]? with | some r=>min 2000 (zyY l k * (r.Hi - r.Lo+1)) | none=>zyY l k)=_
   rw[hg]
  rw[e];generalize hc:(l[k]'(by omega)).Hi - (l[k]'(by omega)).Lo+1=c at hb ⊢;have h5:zyY l k * 1<=zyY l k * c:=Int.mul_le_mul_of_nonneg_left (by omega) (by omega);have h6:zyy (l.take k) * 1<=zyy (l.take k) * c:=Int.mul_le_mul_of_nonneg_left (by omega) (by omega);refine⟨by omega,?_⟩
  rcases h2 with h2 | h2
  ·rw[h2] at h5 ⊢
   by_cases h7:zyy (l.take k) * c<=2000
   ·exact .inl (by omega)
   ·exact .inr (by omega)
  ·exact .inr (by omega)
theorem zy0{p:Pg}(h:∀r∈p.Losses,RgV r 1000)(h4:p.Losses.length<=4):zsB p=some (zyY p.Losses p.Losses.length):=by
 unfold zsB;have key:=zyk (n:=p.Losses.length) (fun d s x=>zsA p d s x) (fun k=>zyY p.Losses k) (fin:=some (zyY p.Losses p.Losses.length)) (fun d k hk=>?_) (fun d=>?_) 1000000 0 (by omega) (by omega)
 ·exact key
 ·have hg:=List.getElem?_eq_getElem hk;have hr:=h _ (List.getElem_mem hk);obtain⟨hb,_⟩:=zyZ h h4 k (by omega)
  have e:zyY p.Losses (k+1)=min 2000 (zyY p.Losses k * ((p.Losses[k]).Hi - (p.Losses[k]).Lo+1)):=by
   show(match p.Losses[k]? with | some r=>min 2000 (zyY p.Losses k * (r.Hi - r.Lo+1)) | none=>zyY p.Losses k)=_
   rw[hg]
  have hrr:=hr;unfold RgV at hrr;have h5:zyY p.Losses k * ((p.Losses[k]).Hi - (p.Losses[k]).Lo+1)<=2000 * 1001:=Int.mul_le_mul (by omega) (by omega) (by omega) (by omega);have h6:0<=zyY p.Losses k * ((p.Losses[k]).Hi - (p.Losses[k]).Lo+1):=Int.mul_nonneg (by omega) (by omega)
  show zsA p (d+1) _ _=_
  rw[zsA,if_pos (by omega),zrU hg,obs,zyX hr,obs,zqs (by omega),zqs (by omega),zqs (fI (by omega)),zqs (fI (by omega)),e]
 ·show zsA p (d+1) _ _=_
  rw[zsA,if_neg (by omega)]
theorem zy1{p:Pg}(h:VP p):zsB p=some (zyy p.Losses):=by
 rw[zy0 h.ls h.l4];have h1:=(zyZ h.ls h.l4 _ (Nat.le_refl _)).2;rw[List.take_length] at h1;have:=h.many
 congr 1
 omega
theorem zy2{p:Pg}(h1:p.Losses.length<=100)(h2:p.Treaties.length<=100)(h3:p.Reports.length<=100):zsE p=some (zyz p):=by
 unfold zsE zyz zyx
 by_cases c1:4 < p.Losses.length
 ·rw[if_pos (by omega),if_pos (.inl c1)]
 rw[if_neg (by omega)]
 by_cases c2:5 < p.Treaties.length
 ·rw[if_pos (by omega),if_pos (.inr (.inl c2))]
 rw[if_neg (by omega)]
 by_cases c3:5 < p.Reports.length
 ·rw[if_pos (by omega),if_pos (.inr (.inr c3))]
 rw[if_neg (by omega),if_neg (show ¬ (4 < p.Losses.length\/5 < p.Treaties.length\/5 < p.Reports.length) by omega)]
 refine zyU.pick (fun c5=>?_) fun c5=>by rw[if_neg (by decide),if_neg fun h=>c5 h.res]
 rw[if_pos rfl]
 have kL:=zr3 (l:=p.Losses) (F:=fun d x=>zsD p d 0 x) (ok:=fun r=>RgV r 1000) (bad:=some 1) (fin:=zsC p 1000000 0 0) (fun d k a hk=>by
  have hkl:=(List.getElem?_eq_some_iff.1 hk).1
  show(RgV a 1000->zsD p (d+1) 0 (k:Int)=_)/\_
  rw[zsD,if_pos (by omega),zrU hk,obs]
  exact Ev.step zyV (by rw[if_pos rfl,zqs (fI (by omega))]) (by rw[if_neg (by decide)])) (fun d=>by show zsD p (d+1) 0 _=_; rw[zsD,if_neg (Int.lt_irrefl _)]) (d:=1000000) (by omega)
 have kT:=zrY (n:=p.Treaties.length) (F:=fun d x=>zsC p d 0 x) (ok:=fun j=>∀t,p.Treaties[j]? = some t->zyt t/\-1<=t.Of/\t.Of<=(j:Int) - 1) (bad:=some 1) (fin:=prFault_L2 p 1000000 0) (fun d k hk=>by
  have hg:=List.getElem?_eq_getElem hk
  show(_->zsC p (d+1) 0 (k:Int)=_)/\(_->zsC p (d+1) 0 (k:Int)=_)
  rw[zsC,if_pos (by omega),zrU hg,obs]
  exact((zyW (t:=p.Treaties[k]) (k:=k) (by omega)).imp ⟨fun h t ht=>by rw[hg] at ht; cases ht; exact h,fun h=>h _ hg⟩).step (by rw[if_pos rfl,zqs (fI (by omega))]) (by rw[if_neg (by decide)])) (fun d=>by show zsC p (d+1) 0 _=_; rw[zsC,if_neg (Int.lt_irrefl _)]) (d:=1000000) (by omega)
 have kR:=zr3 (l:=p.Reports) (F:=fun d x=>prFault_L2 p d x) (ok:=zyv p) (bad:=some 1) (fin:=(zsB p).bind fun r=>if (1500:Int) < r then some 3 else some 0) (fun d k a hk=>by
  have hkl:=(List.getElem?_eq_some_iff.1 hk).1
  show(zyv p a->prFault_L2 p (d+1) (k:Int)=_)/\(¬ zyv p a->prFault_L2 p (d+1) (k:Int)=_)
  rw[prFault_L2,if_pos (by omega),zrU hk,obs,zqs (fI (by omega)),obs];refine⟨fun h=>?_,fun h=>?_⟩
  ·rw[zyU.some_of h.1,obs,if_pos rfl,zyV.some_of h.2,obs,if_pos rfl,zqs (fI (by omega))]
  ·refine zyU.pick (fun q1=>?_) fun q1=>by rw[if_neg (by decide)]
   rw[if_pos rfl]
   refine zyV.pick (fun q2=>absurd ⟨q1,q2⟩ h) fun q2=>by rw[if_neg (by decide)]) (fun d=>by show prFault_L2 p (d+1) _=_; rw[prFault_L2,if_neg (Int.lt_irrefl _)]) (d:=1000000) (by omega)
 by_cases c6:∀r∈p.Losses,RgV r 1000
 ·refine(kL.1 c6).trans ?_
  by_cases c7:∀j,j < p.Treaties.length->∀t,p.Treaties[j]? = some t->zyt t/\-1<=t.Of/\t.Of<=(j:Int) - 1
  ·refine(kT.1 c7).trans ?_
   by_cases c8:∀r∈p.Reports,zyv p r
   ·refine(kR.1 c8).trans ?_;rw[if_pos ⟨c6,c5,fun t ht=>by obtain⟨i,hi⟩:=List.mem_iff_getElem?.1 ht; exact(c7 i (List.getElem?_eq_some_iff.1 hi).1 t hi).1,fun i t ht=>(c7 i (List.getElem?_eq_some_iff.1 ht).1 t ht).2,c8⟩,zy0 c6 (by omega),obs];have h9:=(zyZ c6 (by omega) _ (Nat.le_refl _)).2;rw[List.take_length] at h9
    by_cases h10:1500 < zyy p.Losses
    ·rw[if_pos h10,if_pos (by omega)]
    ·rw[if_neg h10,if_neg (by omega)]
   ·refine(kR.2 c8).trans ?_;rw[if_neg fun h=>c8 h.rs]
  ·refine(kT.2 c7).trans ?_;rw[if_neg fun h:zyw p=>c7 fun j _ t ht=>⟨h.ts t (List.mem_of_getElem? ht),h.of' j t ht⟩]
 ·refine(kL.2 c6).trans ?_;rw[if_neg fun h=>c6 h.ls]
end
end Go.Proofs.YtkcmdghjgoaggaaGreat

namespace Go.Proofs.YtkcmdghjgoaggaaGreat
open _root_.Go.Proofs.Tryz
open Go.Abs
set_option maxRecDepth 100000
noncomputable section
theorem zy3{l:List Int}(h:l ≠ [])(hl:l.length<=1048577):zs4 l=some (zr7 l):=by
 unfold zs4
 cases l with
 | nil=>exact absurd rfl h
 | cons x l=>
  rw[if_neg (by rw[List.length_cons]; omega),zrW rfl,obs];refine(zr6 (l:=x::l) (fun s a=>min s a) (fun d s k=>zs3 (x::l) d s k) (fun s=>some s) (fun d k s a hk=>?_) (fun d s=>?_) _ 0 x (Nat.zero_le _) (by omega)).trans ?_
  ·have hkl:=(List.getElem?_eq_some_iff.1 hk).1
   show zs3 (x::l) (d+1) s (k:Int)=_
   rw[zs3,if_pos (by omega),zrU hk,obs]
   by_cases hc:a < s
   ·rw[if_pos hc,zqs (fI (by omega)),Int.min_eq_right (by omega)]
   ·rw[if_neg hc,zqs (fI (by omega)),Int.min_eq_left (by omega)]
  ·show zs3 (x::l) (d+1) s _=_
   rw[zs3,if_neg (Int.lt_irrefl _)]
  ·rw[List.drop_zero]
   show some (l.foldl min (min x x))=_
   rw[Int.min_self]; rfl
theorem zy4{l:List Int}(h:l ≠ [])(hl:l.length<=1048577):zs6 l=some (zr8 l):=by
 unfold zs6
 cases l with
 | nil=>exact absurd rfl h
 | cons x l=>
  rw[if_neg (by rw[List.length_cons]; omega),zrW rfl,obs];refine(zr6 (l:=x::l) (fun s a=>max s a) (fun d s k=>zs5 (x::l) d s k) (fun s=>some s) (fun d k s a hk=>?_) (fun d s=>?_) _ 1 x (by rw[List.length_cons]; omega) (by rw[List.length_cons]; omega)).trans ?_
  ·have hkl:=(List.getElem?_eq_some_iff.1 hk).1
   show zs5 (x::l) (d+1) s (k:Int)=_
   rw[zs5,if_pos (by omega),zrU hk,obs,zqs (fI (by omega))]
  ·show zs5 (x::l) (d+1) s _=_
   rw[zs5,if_neg (Int.lt_irrefl _)]
  ·rfl
def zy5(t:Ty):Int:=t.Most * (t.Times+1)
def zy6(t:Ty)(a b:Int):Int:=if t.Kind=0 then a * t.Part / 100 else min (min (max 0 (a - t.Above)) t.Most) (zy5 t - b)
theorem zy7{t:Ty}(ht:zgo t):0<=zy5 t/\zy5 t<=4000:=by
 unfold zy5
 rcases ht with ⟨_,_,_,h,_⟩ | ⟨_,_,_,h1,h2⟩
 ·rw[h,Int.zero_mul]; omega
 ·have:=Int.mul_le_mul (a:=t.Most) (b:=t.Times+1) (c:=1000) (d:=4) (by omega) (by omega) (by omega) (by omega);have:=Int.mul_nonneg (a:=t.Most) (b:=t.Times+1) (by omega) (by omega)
  omega
theorem zy8{t:Ty}{a:Int}(hp:1<=t.Part/\t.Part<=100)(ha:0<=a/\a<=100000):(0<=a * t.Part/\a * t.Part<=10000000)/\0<=a * t.Part / 100/\a * t.Part / 100<=a:=by
 have h1:=Int.mul_nonneg (a:=a) (b:=t.Part) (by omega) (by omega);have h2:=Int.mul_le_mul_of_nonneg_left (a:=t.Part) (b:=100) (c:=a) (by omega) (by omega)
 omega
theorem zy9{t:Ty}(ht:zgo t){a b:Int}(ha:0<=a/\a<=100000)(hb:t.Kind=1->b<=zy5 t):0<=zy6 t a b/\zy6 t a b<=a/\(t.Kind=1->b+zy6 t a b<=zy5 t):=by
 unfold zy6
 rcases ht with ⟨h0,hp,_⟩ | ⟨h0,_,h3,h4,h5⟩
 ·have h1:=zy8 hp ha;rw[if_pos h0]
  omega
 ·have hb:=hb h0;rw[if_neg (by omega)]
  omega
theorem zza{t:Ty}(hp:1<=t.Part/\t.Part<=100){a b:Int}(ha:0<=a/\a<=100000):zs7 t a b=some (a * t.Part / 100):=by
 have h1:=zy8 hp ha;unfold zs7;rw[zqs (by omega),zqs (by omega),zqs (fI (by omega)),zqs (by omega),zqs (by omega),zqs (fI (by omega))]
theorem zzb{t:Ty}(ht:zgo t)(h1:t.Kind=1){a b:Int}(ha:0<=a/\a<=100000)(hb:-100000<=b/\b<=100000):zs8 t a b=some (zy6 t a b):=by
 have hc:=zy7 ht;unfold zgo at ht;unfold zy5 at hc;unfold zs8 zy6;rw[zqs (fI (by omega)),zqs (fI (by omega)),zqs (by omega),zqs (by omega),zqs (fI (by omega)),zqs (fI (by omega)),zy3 (by simp) (by simp),obs,if_neg (by omega)]
 rfl
theorem zzc{t:Ty}(ht:zgo t){a b:Int}(ha:0<=a/\a<=100000)(hb:-100000<=b/\b<=100000):zsH t a b=some (zy6 t a b):=by
 have hc:=zy7 ht;unfold zsH zy6
 by_cases h0:t.Kind=0
 ·have hp:1<=t.Part/\t.Part<=100:=by unfold zgo at ht; omega
  have h1:=zy8 hp ha;rw[if_pos h0,if_pos h0,zqs (by omega),zqs (by omega),zqs (fI (by omega)),zqs (by omega),zqs (by omega),zqs (fI (by omega))]
 ·unfold zgo at ht;unfold zy5 at hc;rw[if_neg h0,if_neg h0,zqs (fI (by omega)),zqs (fI (by omega)),zqs (by omega),zqs (by omega),zqs (fI (by omega)),zqs (fI (by omega))]
  rfl
structure DS where
 pays:Nat->Int
 keeps:Nat->Int
 soc:Int
def zzd(t:Ty)(k:Nat)(P:Nat->Int)(s:DS):DS:=
 if t.Of = -1 then ⟨upF s.pays k (zy6 t s.soc (P k)),upF s.keeps k (zy6 t s.soc (P k)),s.soc - zy6 t s.soc (P k)⟩
 else ⟨upF s.pays k (zy6 t (s.keeps t.Of.toNat) (P k)),upF (upF s.keeps t.Of.toNat (s.keeps t.Of.toNat - zy6 t (s.keeps t.Of.toNat) (P k))) k (zy6 t (s.keeps t.Of.toNat) (P k)),s.soc⟩
def dN(ts:List Ty)(P:Nat->Int)(x:Int):Nat->DS
 | 0=>⟨fun _=>0,fun _=>0,x⟩
 | k+1=>match ts[k]? with
  | some t=>zzd t k P (dN ts P x k)
  | none=>dN ts P x k
theorem zze{ts:List Ty}{P:Nat->Int}{x:Int}{k:Nat}{t:Ty}(h:ts[k]? = some t):dN ts P x (k+1)=zzd t k P (dN ts P x k):=by
 show(match ts[k]? with | some t=>zzd t k P (dN ts P x k) | none=>dN ts P x k)=_
 rw[h]
def zzf(ts:List Ty)(P:Nat->Int):Prop:=∀(j:Nat) (t:Ty),ts[j]? = some t->t.Kind=1->P j<=zy5 t
structure zzg (ts:List Ty):Prop where
 k:∀t∈ts,zgo t
 o:zyu ts
theorem VP.tsOk{p:Pg}(h:VP p):zzg p.Treaties:=⟨fun t ht=>(h.ts t ht).1,h.of'⟩
structure DI (ts:List Ty) (P:Nat->Int) (x:Int) (k:Nat) (s:DS):Prop where
 soc:0<=s.soc/\s.soc<=x
 pays:∀j,0<=s.pays j/\s.pays j<=x
 keeps:∀j,0<=s.keeps j/\s.keeps j<=x
 z:∀j,k<=j->s.pays j=0/\s.keeps j=0
 cap:zzf ts fun j=>P j+s.pays j
theorem zzh{ts:List Ty}(hts:zzg ts){P:Nat->Int}(hP:zzf ts P){x:Int}(hx:0<=x/\x<=100000):∀k,k<=ts.length->DI ts P x k (dN ts P x k)
 | 0,_=>⟨⟨hx.1,Int.le_refl _⟩,fun _=>⟨Int.le_refl _,hx.1⟩,fun _=>⟨Int.le_refl _,hx.1⟩,fun _ _=>⟨rfl,rfl⟩,fun j t ht h1=>by have:=hP j t ht h1; show P j+0<=_; omega⟩
 | k+1,hk=>by
  have ih:=zzh hts hP hx k (by omega);have hg:=List.getElem?_eq_getElem (show k < ts.length by omega);have hkd:=hts.k _ (List.getElem_mem (show k < ts.length by omega));have hof:=hts.o k _ hg;rw[zze hg];generalize dN ts P x k=s at ih ⊢;generalize ts[k]'(by omega)=t at hg hkd hof;have hcp:t.Kind=1->P k<=zy5 t:=hP k t hg;unfold zzd
  by_cases h1:t.Of = -1
  ·rw[if_pos h1];have hs:=ih.soc;have hb:=zy9 hkd (a:=s.soc) (by omega) hcp;refine⟨by show 0<=s.soc - zy6 t s.soc (P k)/\s.soc - zy6 t s.soc (P k)<=x; omega,fun j=>?_,fun j=>?_,fun j hj=>?_,fun j t' ht' h'=>?_⟩
   ·show 0<=upF s.pays k _ j/\upF s.pays k _ j<=x
    by_cases hjk:j=k
    ·subst hjk; rw[zyp]; omega
    ·rw[zyq _ _ hjk]; exact ih.pays j
   ·show 0<=upF s.keeps k _ j/\upF s.keeps k _ j<=x
    by_cases hjk:j=k
    ·subst hjk; rw[zyp]; omega
    ·rw[zyq _ _ hjk]; exact ih.keeps j
   ·show upF s.pays k _ j=0/\upF s.keeps k _ j=0
    rw[zyq _ _ (by omega),zyq _ _ (by omega)]; exact ih.z j (by omega)
   ·show P j+upF s.pays k _ j<=_
    by_cases hjk:j=k
    ·subst hjk; rw[hg] at ht'; cases ht'; rw[zyp]; exact hb.2.2 h'
    ·rw[zyq _ _ hjk]; exact ih.cap j t' ht' h'
  ·rw[if_neg h1];have hs:=ih.soc;have hk':=ih.keeps t.Of.toNat;have hb:=zy9 hkd (a:=s.keeps t.Of.toNat) (by omega) hcp;refine⟨hs,fun j=>?_,fun j=>?_,fun j hj=>?_,fun j t' ht' h'=>?_⟩
   ·show 0<=upF s.pays k _ j/\upF s.pays k _ j<=x
    by_cases hjk:j=k
    ·subst hjk; rw[zyp]; omega
    ·rw[zyq _ _ hjk]; exact ih.pays j
   ·show 0<=upF (upF s.keeps _ _) k _ j/\upF (upF s.keeps _ _) k _ j<=x
    by_cases hjk:j=k
    ·subst hjk; rw[zyp]; omega
    ·rw[zyq _ _ hjk]
     by_cases hjo:j=t.Of.toNat
     ·subst hjo; rw[zyp]; omega
     ·rw[zyq _ _ hjo]; exact ih.keeps j
   ·show upF s.pays k _ j=0/\upF (upF s.keeps _ _) k _ j=0
    rw[zyq _ _ (by omega),zyq _ _ (by omega),zyq _ _ (by omega)]; exact ih.z j (by omega)
   ·show P j+upF s.pays k _ j<=_
    by_cases hjk:j=k
    ·subst hjk; rw[hg] at ht'; cases ht'; rw[zyp]; exact hb.2.2 h'
    ·rw[zyq _ _ hjk]; exact ih.cap j t' ht' h'
def ocN(s:DS):Oc:={ pays:=mk5 s.pays,keeps:=mk5 s.keeps,society:=s.soc }
def wkD(p:Pg):WkD:={ p:=p,kinds:=zyE,shared:=(),played:=() }
theorem zzi{p:Pg}(h:VP p){P:Nat->Int}(hP:zzf p.Treaties P)(hb:∀j,0<=P j/\P j<=100000){x:Int}(hx:0<=x/\x<=1000):ztY (wkD p) { loss:=x,paid:=mk5 P }=some (ocN (dN p.Treaties P x p.Treaties.length)):=by
 have h5:=h.t5;unfold ztY
 show ztX (wkD p) _ (p.Treaties.length+1) _ _ _ _ _ _ _ _ _ _ x 0=_
 have key:=zyk (n:=p.Treaties.length) (fun d (s:DS) y=>ztX (wkD p) { loss:=x,paid:=mk5 P } d (s.pays 0) (s.pays 1) (s.pays 2) (s.pays 3) (s.pays 4) (s.keeps 0) (s.keeps 1) (s.keeps 2) (s.keeps 3) (s.keeps 4) s.soc y) (fun k=>dN p.Treaties P x k) (fin:=some (ocN (dN p.Treaties P x p.Treaties.length))) (fun d k hk=>?_) (fun d=>?_) (p.Treaties.length+1) 0 (by omega) (by omega)
 ·exact key
 ·have hg:=List.getElem?_eq_getElem hk;have hkd:=h.tsOk.k _ (List.getElem_mem hk);have hof:=h.of' k _ hg;have ih:=zzh h.tsOk hP (x:=x) (by omega) k (by omega);rw[zze hg];generalize dN p.Treaties P x k=s at ih ⊢;rw[ztX,if_pos (show(k:Int) < ((wkD p).p.Treaties.length:Int) by show(k:Int) < (p.Treaties.length:Int); omega),show idx (wkD p).p.Treaties (k:Int)=_ from zrU hg,obs];generalize p.Treaties[k]=t at hg hkd hof;have hPk:idx (l5 P) (k:Int)=some (P k):=zym (by omega);have hs:=ih.soc;have hbk:=hb k;have hcp:t.Kind=1->P k<=zy5 t:=hP k t hg;have hup:∀(f:Nat->Int) (a:Int) (j:Nat),sti (k:Int) j a (f j)=upF f k a j:=fun f a j=>zyr f k a j;unfold zzd
  by_cases h1:t.Of = -1
  ·have htk:=zy9 hkd (a:=s.soc) (by omega) hcp;rw[if_pos h1,if_pos h1]
   by_cases h0:t.Kind=0
   ·have e0:zy6 t s.soc (P k)=s.soc * t.Part / 100:=if_pos h0;rw[if_pos h0]
    show((idx (l5 P) (k:Int)).bind _)=_
    rw[hPk,obs,show(wkD p).kinds.k0.takes t s.soc (P k)=some (zy6 t s.soc (P k)) from (zza (b:=P k) (by unfold zgo at hkd; omega) (by omega)).trans (by rw[e0]),obs,zqs (fI (by omega)),zqs (by omega),zqs (by omega),zqs (fI (by omega))]
    simp only[hup]
   ·rw[if_neg h0,if_pos (show t.Kind=1 by unfold zgo at hkd; omega)]
    show((idx (l5 P) (k:Int)).bind _)=_
    rw[hPk,obs,show(wkD p).kinds.k1.takes t s.soc (P k)=some (zy6 t s.soc (P k)) from zzb hkd (by unfold zgo at hkd; omega) (by omega) (by omega),obs,zqs (fI (by omega)),zqs (by omega),zqs (by omega),zqs (fI (by omega))]
    simp only[hup]
  ·have ho:0<=t.Of/\t.Of < 5:=by omega
   have hk':=ih.keeps t.Of.toNat;have htk:=zy9 hkd (a:=s.keeps t.Of.toNat) (by omega) hcp;have hOk:idx (l5 s.keeps) t.Of=some (s.keeps t.Of.toNat):=zyn ho.1 ho.2;have huo:∀(f:Nat->Int) (a:Int) (j:Nat),sti t.Of j a (f j)=upF f t.Of.toNat a j:=fun f a j=>zys f ho.1 a j;rw[if_neg h1,if_neg h1,zqs ho]
   by_cases h0:t.Kind=0
   ·have e0:zy6 t (s.keeps t.Of.toNat) (P k)=s.keeps t.Of.toNat * t.Part / 100:=if_pos h0;rw[if_pos h0]
    show((idx (l5 s.keeps) t.Of).bind _)=_
    rw[hOk,obs]
    show((idx (l5 P) (k:Int)).bind _)=_
    rw[hPk,obs,show(wkD p).kinds.k0.takes t (s.keeps t.Of.toNat) (P k)=some (zy6 t (s.keeps t.Of.toNat) (P k)) from (zza (b:=P k) (by unfold zgo at hkd; omega) (by omega)).trans (by rw[e0]),obs]
    show((idx (l5 s.keeps) t.Of).bind _)=_
    rw[hOk,obs,zqs (fI (by omega)),zqs (by omega),zqs (by omega),zqs (fI (by omega))]
    simp only[huo,hup]
   ·rw[if_neg h0,if_pos (show t.Kind=1 by unfold zgo at hkd; omega)]
    show((idx (l5 s.keeps) t.Of).bind _)=_
    rw[hOk,obs]
    show((idx (l5 P) (k:Int)).bind _)=_
    rw[hPk,obs,show(wkD p).kinds.k1.takes t (s.keeps t.Of.toNat) (P k)=some (zy6 t (s.keeps t.Of.toNat) (P k)) from zzb hkd (by unfold zgo at hkd; omega) (by omega) (by omega),obs]
    show((idx (l5 s.keeps) t.Of).bind _)=_
    rw[hOk,obs,zqs (fI (by omega)),zqs (by omega),zqs (by omega),zqs (fI (by omega))]
    simp only[huo,hup]
 ·rw[ztX,if_neg (show ¬ (p.Treaties.length:Int) < ((wkD p).p.Treaties.length:Int) by show ¬ (p.Treaties.length:Int) < (p.Treaties.length:Int); omega)]; rfl
def zzj(a b:DS):DS:=⟨fun j=>a.pays j+b.pays j,fun j=>a.keeps j+b.keeps j,a.soc+b.soc⟩
def zzk:DS:=⟨fun _=>0,fun _=>0,0⟩
def zzl(ts:List Ty)(s:DS)(x:Int):DS:=zzj s (dN ts s.pays x ts.length)
def zzm(ts:List Ty)(L:List Int):DS:=L.foldl (zzl ts) zzk
structure SI (ts:List Ty) (B:Int) (s:DS):Prop where
 soc:0<=s.soc/\s.soc<=B
 pays:∀j,0<=s.pays j/\s.pays j<=B
 keeps:∀j,0<=s.keeps j/\s.keeps j<=B
 z:∀j,ts.length<=j->s.pays j=0/\s.keeps j=0
 cap:zzf ts s.pays
theorem zzn{ts:List Ty}(h:zzg ts):zzf ts fun _=>0:=fun _ t ht _=>(zy7 (h.k t (List.mem_of_getElem? ht))).1
theorem SI.zero{ts:List Ty}(h:zzg ts):SI ts 0 zzk:=⟨⟨Int.le_refl _,Int.le_refl _⟩,fun _=>⟨Int.le_refl _,Int.le_refl _⟩,fun _=>⟨Int.le_refl _,Int.le_refl _⟩,fun _ _=>⟨rfl,rfl⟩,zzn h⟩
theorem SI.step{ts:List Ty}(hts:zzg ts){B:Int}{s:DS}(h:SI ts B s){x:Int}(hx:0<=x/\x<=100000):SI ts (B+x) (zzl ts s x):=by
 have hd:=zzh hts h.cap hx ts.length (Nat.le_refl _);refine⟨?_,fun j=>?_,fun j=>?_,fun j hj=>?_,hd.cap⟩
 ·have:=h.soc; have:=hd.soc; show 0<=s.soc+_/\s.soc+_<=_; omega
 ·have:=h.pays j; have:=hd.pays j; show 0<=s.pays j+_/\s.pays j+_<=_; omega
 ·have:=h.keeps j; have:=hd.keeps j; show 0<=s.keeps j+_/\s.keeps j+_<=_; omega
 ·have:=h.z j hj; have:=hd.z j hj; show s.pays j+_=0/\s.keeps j+_=0; omega
def zzo(L:List Int):Int:=L.foldl (· + ·) 0
theorem zzp(L:List Int):∀a,L.foldl (· + ·) a=a+zzo L:=by
 unfold zzo
 induction L with
 | nil=>intro a; show a=a+0; omega
 | cons x L ih=>intro a; show L.foldl _ (a+x)=a+L.foldl _ (0+x); rw[ih,ih (0+x)]; omega
theorem zzq(x:Int)(L:List Int):zzo (x::L)=x+zzo L:=by
 show L.foldl _ (0+x)=_
 rw[zzp]; omega
theorem zzr{ts:List Ty}(hts:zzg ts):∀{L:List Int},(∀x∈L,0<=x/\x<=100000)->∀{B:Int} {s:DS},SI ts B s->SI ts (B+zzo L) (L.foldl (zzl ts) s)
 | [],_,B,s,h=>by show SI ts (B+0) s; rw[Int.add_zero]; exact h
 | x::L,hL,B,s,h=>by
  rw[zzq,<- Int.add_assoc];exact zzr hts (fun y hy=>hL y (List.mem_cons_of_mem _ hy)) (h.step hts (hL x (List.mem_cons_self ..)))
theorem zzs{ts:List Ty}(hts:zzg ts){L:List Int}(hL:∀x∈L,0<=x/\x<=100000):SI ts (zzo L) (zzm ts L):=by
 have:=zzr hts hL (SI.zero hts)
 rwa [Int.zero_add] at this
theorem zzt{L:List Int}(hL:∀x∈L,0<=x/\x<=1000):0<=zzo L/\zzo L<=1000 * L.length:=by
 induction L with
 | nil=>exact⟨Int.le_refl _,Int.le_refl _⟩
 | cons x L ih=>
  have h1:=hL x (List.mem_cons_self ..);have h2:=ih fun y hy=>hL y (List.mem_cons_of_mem _ hy);rw[zzq,List.length_cons]
  omega
theorem zzu{a b:DS}(ha:(∀j,-1000000<=a.pays j/\a.pays j<=1000000)/\(∀j,-1000000<=a.keeps j/\a.keeps j<=1000000)/\-1000000<=a.soc/\a.soc<=1000000)(hb:(∀j,-1000000<=b.pays j/\b.pays j<=1000000)/\(∀j,-1000000<=b.keeps j/\b.keeps j<=1000000)/\-1000000<=b.soc/\b.soc<=1000000):ztT (ocN a) (ocN b)=some (ocN (zzj a b)):=by
 obtain⟨a1,a2,a3⟩:=ha;obtain⟨b1,b2,b3⟩:=hb;unfold ztT
 let st:Nat->DS:=fun k=>⟨fun j=>if j < k then a.pays j+b.pays j else a.pays j,fun j=>if j < k then a.keeps j+b.keeps j else a.keeps j,a.soc⟩
 have key:=zyk (n:=5) (fun d (s:DS) y=>ztS (ocN b) d (s.pays 0) (s.pays 1) (s.pays 2) (s.pays 3) (s.pays 4) (s.keeps 0) (s.keeps 1) (s.keeps 2) (s.keeps 3) (s.keeps 4) s.soc y) st (fin:=some (ocN (zzj a b))) (fun d k hk=>?_) (fun d=>?_) 6 0 (by omega) (by omega)
 ·exact key
 ·have p1:=a1 k; have p2:=b1 k; have p3:=a2 k; have p4:=b2 k;have e1:(st k).pays k=a.pays k:=if_neg (by omega);have e2:(st k).keeps k=a.keeps k:=if_neg (by omega)
  have u1:∀j,sti (k:Int) j (a.pays k+b.pays k) ((st k).pays j)=(st (k+1)).pays j:=fun j=>by
   rw[zyr]
   show(if j=k then _ else (if j < k then a.pays j+b.pays j else a.pays j))=if j < k+1 then a.pays j+b.pays j else a.pays j
   by_cases h:j=k
   ·subst h; rw[if_pos rfl,if_pos (by omega)]
   ·by_cases h2:j < k
    ·rw[if_neg h,if_pos h2,if_pos (by omega)]
    ·rw[if_neg h,if_neg h2,if_neg (by omega)]
  have u2:∀j,sti (k:Int) j (a.keeps k+b.keeps k) ((st k).keeps j)=(st (k+1)).keeps j:=fun j=>by
   rw[zyr]
   show(if j=k then _ else (if j < k then a.keeps j+b.keeps j else a.keeps j))=if j < k+1 then a.keeps j+b.keeps j else a.keeps j
   by_cases h:j=k
   ·subst h; rw[if_pos rfl,if_pos (by omega)]
   ·by_cases h2:j < k
    ·rw[if_neg h,if_pos h2,if_pos (by omega)]
    ·rw[if_neg h,if_neg h2,if_neg (by omega)]
  rw[ztS,if_pos (by omega)]
  show((idx (l5 (st k).pays) (k:Int)).bind _)=_
  rw[zym hk,obs]
  show((idx (l5 b.pays) (k:Int)).bind _)=_
  rw[zym hk,obs,e1,zqs (fI (by omega)),zqs (by omega)]
  show((idx (l5 (st k).keeps) (k:Int)).bind _)=_
  rw[zym hk,obs]
  show((idx (l5 b.keeps) (k:Int)).bind _)=_
  rw[zym hk,obs,e2,zqs (fI (by omega)),zqs (by omega),zqs (fI (by omega)),u1 0,u1 1,u1 2,u1 3,u1 4,u2 0,u2 1,u2 2,u2 3,u2 4]
 ·rw[ztS,if_neg (by omega)]
  show gd (zl7 .i64 (a.soc+b.soc)) _=_
  rw[zqs (fI (by omega))]; rfl
def zzv(p:Pg)(M:Option (Mt->Option Oc)):Prop:=∃f,M=some f/\∀m o,f m=some o->ztY (wkD p) m=some o
theorem zzv.nil(p:Pg):zzv p (some fun _=>none):=⟨_,rfl,fun _ _ h=>by cases h⟩
def wkP(p:Pg)(M:Option (Mt->Option Oc)):WkP:={ p:=p,kinds:=zyE,shared:=M,played:=() }
open Classical in
theorem zzw{p:Pg}{M:Option (Mt->Option Oc)}(hM:zzv p M){m:Mt}{o:Oc}(hf:MK.fit m)(hd:ztY (wkD p) m=some o):∃M',ztZ (wkP p M) m=some (o,M')/\zzv p M':=by
 obtain⟨f,rfl,hf2⟩:=hM;unfold ztZ;rw[zqs hf]
 cases hfm:f m with
 | none=>
  refine⟨some fun j=>if j=m then some o else f j,?_,_,rfl,fun j o' h=>?_⟩
  ·rw[zqU (show zqL (wkP p (some f)).shared m=none from hfm),show ztY ({ p:=(wkP p (some f)).p,kinds:=(wkP p (some f)).kinds,shared:=(),played:=() }:WkD) m=some o from hd,obs,zqs hf]
   show(Option.bind (some _) _)=_
   rw[obs]
  ·by_cases hj:j=m
   ·rw[if_pos hj] at h; cases h; rw[hj]; exact hd
   ·rw[if_neg hj] at h; exact hf2 j o' h
 | some o'=>
  have:=hf2 m o' hfm;rw[hd] at this
  cases this
  exact⟨some f,by rw[zqV (show zqL (wkP p (some f)).shared m=some o from hfm)]; rfl,f,rfl,hf2⟩
theorem zzx{p:Pg}(h:VP p){L:List Int}(hL:∀x∈L,0<=x/\x<=1000)(hl:L.length<=4){w:WkP}(hw:w.p=p/\w.kinds=zyE):∀(d k:Nat) (s:DS) (M:Option (Mt->Option Oc)),k<=L.length->L.length - k < d->SI p.Treaties (1000 * k) s->zzv p M ->
  ∃M',zt0 w L d (s.pays 0) (s.pays 1) (s.pays 2) (s.pays 3) (s.pays 4) (s.keeps 0) (s.keeps 1) (s.keeps 2) (s.keeps 3) (s.keeps 4) s.soc M (k:Int)=some (ocN ((L.drop k).foldl (zzl p.Treaties) s),M')/\zzv p M'
 | 0,_,_,_,_,hd,_,_=>by omega
 | d+1,k,s,M,hk,hd,hs,hM=>by
  rw[zt0]
  by_cases hkl:k < L.length
  ·have hg:=List.getElem?_eq_getElem hkl;have hx:=hL _ (List.getElem_mem hkl);have hp:=hs.pays;have hkp:=hs.keeps;have hso:=hs.soc
   have hb:∀j,0<=s.pays j/\s.pays j<=100000:=fun j=>by have:=hp j; omega
   have hdv:=zzi h hs.cap hb hx;have hdi:=zzh h.tsOk hs.cap (x:=L[k]) (by omega) p.Treaties.length (Nat.le_refl _);obtain⟨M',q1,q2⟩:=zzw hM (m:={ loss:=L[k],paid:=mk5 s.pays }) ⟨fI (by show _<=L[k]/\L[k] < _; omega),fI (by have:=hb 0; show _<=s.pays 0/\s.pays 0 < _; omega),fI (by have:=hb 1; show _<=s.pays 1/\s.pays 1 < _; omega),fI (by have:=hb 2; show _<=s.pays 2/\s.pays 2 < _; omega),fI (by have:=hb 3; show _<=s.pays 3/\s.pays 3 < _; omega),fI (by have:=hb 4; show _<=s.pays 4/\s.pays 4 < _; omega),trivial⟩ hdv;rw[if_pos (by omega),zrU hg,obs,hw.1,hw.2]
   show ∃M',((ztZ (wkP p M) { loss:=L[k],paid:=mk5 s.pays }).bind _)=_/\_
   rw[q1,obs]
   show ∃M',((ztT (ocN s) (ocN (dN p.Treaties s.pays L[k] p.Treaties.length))).bind _)=_/\_
   rw[zzu ⟨fun j=>by have:=hp j; omega,fun j=>by have:=hkp j; omega,by omega⟩ ⟨fun j=>by have:=hdi.pays j; omega,fun j=>by have:=hdi.keeps j; omega,by have:=hdi.soc; omega⟩,obs,zqs (fI (by omega)),show(k:Int)+1=((k+1:Nat):Int) by omega,List.drop_eq_getElem_cons hkl];have hs':=hs.step h.tsOk (x:=L[k]) (by omega);refine zzx h hL hl hw d (k+1) (zzl p.Treaties s L[k]) M' (by omega) (by omega) ⟨?_,fun j=>?_,fun j=>?_,hs'.z,hs'.cap⟩ q2
   ·have:=hs'.soc; omega
   ·have:=hs'.pays j; omega
   ·have:=hs'.keeps j; omega
  ·rw[if_neg (by omega),List.drop_eq_nil_of_le (by omega)];exact⟨M,rfl,hM⟩
theorem zzy{p:Pg}(h:VP p){L:List Int}(hL:∀x∈L,0<=x/\x<=1000)(hl:L.length<=4){M:Option (Mt->Option Oc)}(hM:zzv p M):∃M',zt1 (wkP p M) L=some (ocN (zzm p.Treaties L),M')/\zzv p M':=
 zzx h hL hl (w:=wkP p M) ⟨rfl,rfl⟩ (L.length+1) 0 zzk M (Nat.zero_le _) (by omega) (SI.zero h.tsOk) hM
end
end Go.Proofs.YtkcmdghjgoaggaaGreat

namespace Go.Proofs.YtkcmdghjgoaggaaGreat
open _root_.Go.Proofs.Tryz
open Go.Abs
set_option maxRecDepth 100000
noncomputable section
def inL:List Rg->List Int->Prop
 | [],[]=>True
 | r::rs,x::xs=>(r.Lo<=x/\x<=r.Hi)/\inL rs xs
 | _,_=>False
theorem zzz:∀{rs:List Rg} {xs:List Int},inL rs xs->xs.length=rs.length
 | [],[],_=>rfl
 | r::rs,x::xs,h=>by rw[List.length_cons,List.length_cons,zzz h.2]
 | [],x::xs,h=>h.elim
 | r::rs,[],h=>h.elim
theorem zzA:∀{rs:List Rg} {xs:List Int},inL rs xs->∀{i:Nat} {r:Rg} {x:Int},rs[i]? = some r->xs[i]? = some x->r.Lo<=x/\x<=r.Hi
 | [],[],_,_,_,_,h,_=>by cases h
 | r::rs,x::xs,h,0,_,_,h1,h2=>by cases h1; cases h2; exact h.1
 | r::rs,x::xs,h,i+1,_,_,h1,h2=>zzA h.2 (i:=i) h1 h2
 | [],x::xs,h,_,_,_,_,_=>h.elim
 | r::rs,[],h,_,_,_,_,_=>h.elim
theorem zzB:∀{rs:List Rg} {xs:List Int},xs.length=rs.length->(∀(i:Nat) (r:Rg) (x:Int),rs[i]? = some r->xs[i]? = some x->r.Lo<=x/\x<=r.Hi)->inL rs xs
 | [],[],_,_=>trivial
 | r::rs,x::xs,h,h2=>⟨h2 0 r x rfl rfl,zzB (by simpa using h) fun i r x h3 h4=>h2 (i+1) r x h3 h4⟩
 | [],x::xs,h,_=>by simp at h
 | r::rs,[],h,_=>by simp at h
theorem zzC{rs:List Rg}{xs:List Int}(h:inL rs xs)(hr:∀r∈rs,RgV r 1000):∀x∈xs,0<=x/\x<=1000:=fun x hx=>by
 obtain⟨i,hi⟩:=List.mem_iff_getElem?.1 hx;have hil:=(List.getElem?_eq_some_iff.1 hi).1;rw[zzz h] at hil;have hg:=List.getElem?_eq_getElem hil;have h1:=zzA h hg hi;have h2:=hr _ (List.getElem_mem hil);unfold RgV at h2
 omega
theorem zzD:∀{rs:List Rg} {pre D:List Int},D∈chW rs pre↔∃T,D=pre++T/\inL rs T
 | [],pre,D=>by
  show D∈[pre]↔_
  rw[List.mem_singleton]
  constructor
  ·rintro rfl; exact⟨[],by simp,trivial⟩
  ·rintro⟨T,h1,h2⟩
   cases T with
   | nil=>rw[h1,List.append_nil]
   | cons x T=>exact h2.elim
 | r::rs,pre,D=>by
  show D∈zry (fun n=>chW rs (pre++[r.Lo+(n:Int)])) (szR r).toNat 0↔_
  rw[zwO];have hsz:szR r=r.Hi - r.Lo+1:=rfl
  constructor
  ·rintro⟨j,h1,h2,h3⟩
   obtain⟨T,h4,h5⟩:=zzD.1 h3;exact⟨(r.Lo+(j:Int))::T,by rw[h4]; simp,⟨by omega,h5⟩⟩
  ·rintro⟨T,h1,h2⟩
   cases T with
   | nil=>exact h2.elim
   | cons x T=>
    obtain⟨h3,h4⟩:=h2;refine⟨(x - r.Lo).toNat,Nat.zero_le _,by omega,zzD.2 ⟨T,?_,h4⟩⟩;rw[h1,show r.Lo+(((x - r.Lo).toNat:Nat):Int)=x by omega]; simp
theorem zzE{α:Type}{g:Nat->List α}{c:Nat}(h:∀x,(g x).length=c):∀e n,(zry g e n).length=e * c
 | 0,_=>by show 0=_; omega
 | e+1,n=>by show(g n++zry g e (n+1)).length=_; rw[List.length_append,h,zzE h e,Nat.succ_mul]; omega
theorem zzF:∀{rs:List Rg},(∀r∈rs,RgV r 1000)->∀{pre:List Int},((chW rs pre).length:Int)=zyy rs
 | [],_,_=>rfl
 | r::rs,h,pre=>by
  have h1:=h r (List.mem_cons_self ..);have ih:=fun {pre:List Int}=>zzF (rs:=rs) (fun r hr=>h r (List.mem_cons_of_mem _ hr)) (pre:=pre)
  show((zry (fun n=>chW rs (pre++[r.Lo+(n:Int)])) (szR r).toNat 0).length:Int)=(r.Hi - r.Lo+1) * zyy rs
  have hc:∀x:Nat,((fun n:Nat=>chW rs (pre++[r.Lo+(n:Int)])) x).length=(chW rs []).length:=fun x=>by
   have e1:=ih (pre:=pre++[r.Lo+(x:Int)]);have e2:=ih (pre:=[])
   dsimp only; omega
  rw[zzE hc];have hsz:szR r=r.Hi - r.Lo+1:=rfl;unfold RgV at h1;rw[<- ih (pre:=[]),Int.natCast_mul,hsz,Int.toNat_of_nonneg (by omega)]
def zzG(p:Pg):List (List Int):=chW p.Losses []
theorem zzH{p:Pg}{L:List Int}:L∈zzG p↔inL p.Losses L:=by
 unfold zzG;rw[zzD];exact⟨fun⟨T,h1,h2⟩=>by rw[h1]; exact h2,fun h=>⟨L,rfl,h⟩⟩
theorem zzI{p:Pg}(h:VP p):(zzG p).length<=1500:=by
 have h1:=zzF h.ls (pre:=[]);have h2:=h.many;unfold zzG
 omega
theorem zzJ{p:Pg}(h:VP p):zt9 p=some (zzG p):=by
 have h4:=h.l4;unfold zt9;rw[zyS (by omega),obs];unfold zt8;rw[zqs ⟨by omega,fun r hr=>by have h1:=h.ls r hr; unfold RgV at h1; unfold okR; omega⟩,obs]; rfl
theorem zzK{p:Pg}(h:VP p):∃L,inL p.Losses L:=by
 refine⟨p.Losses.map (·.Lo),zzB (by rw[List.length_map]) fun i r x h1 h2=>?_⟩;rw[List.getElem?_map,h1] at h2
 cases h2
 have:=h.ls r (List.mem_of_getElem? h1);unfold RgV at this
 show r.Lo<=r.Lo/\r.Lo<=r.Hi
 omega
def oc(p:Pg)(L:List Int):Oc:=ocN (zzm p.Treaties L)
open Classical in
def grp(p:Pg)(A:List (List Int))(k:P5):List Oc:=(A.map (oc p)).filter fun o=>decide (o.pays=k)
def plM(p:Pg)(A:List (List Int)):Option (P5->Option (List Oc)):=some fun k=>if grp p A k=[] then none else some (grp p A k)
open Classical in
theorem zzL(p:Pg)(A:List (List Int))(k:P5):(zqL (plM p A) k).getD []=grp p A k:=by
 show(if grp p A k=[] then none else some (grp p A k)).getD []=_
 by_cases h:grp p A k=[]
 ·rw[if_pos h,h]; rfl
 ·rw[if_neg h]; rfl
open Classical in
theorem zzM(p:Pg)(A:List (List Int))(L:List Int)(k:P5):grp p (A++[L]) k=if (oc p L).pays=k then grp p A k++[oc p L] else grp p A k:=by
 unfold grp;rw[List.map_append,List.filter_append]
 by_cases h:(oc p L).pays=k
 ·rw[if_pos h,List.map_cons,List.map_nil,List.filter_cons_of_pos (by simp[h])]; rfl
 ·rw[if_neg h,List.map_cons,List.map_nil,List.filter_cons_of_neg (by simp[h]),List.filter_nil,List.append_nil]
open Classical in
theorem zzN(p:Pg)(A:List (List Int))(L:List Int):zqM (plM p A) (oc p L).pays ((zqL (plM p A) (oc p L).pays).getD []++[oc p L])=some (plM p (A++[L])):=by
 rw[zzL]
 show some (some fun j=>if j=(oc p L).pays then _ else _)=some (some _)
 congr 2
 funext j
 rw[zzM]
 by_cases h:j=(oc p L).pays
 ·subst h;rw[if_pos rfl,if_pos rfl,if_neg (by simp)]
 ·rw[if_neg h,if_neg (Ne.symm h)]
def zzO(p:Pg)(A:List (List Int)):Wk:={ p:=p,kinds:=zyE,shared:=(),played:=plM p A }
theorem zzP{f:Nat->Int}(h:∀j,0<=f j/\f j<=100000):MK.fit (mk5 f):=
 ⟨fI (by have:=h 0; show _<=f 0/\f 0 < _; omega),fI (by have:=h 1; show _<=f 1/\f 1 < _; omega),fI (by have:=h 2; show _<=f 2/\f 2 < _; omega),fI (by have:=h 3; show _<=f 3/\f 3 < _; omega),fI (by have:=h 4; show _<=f 4/\f 4 < _; omega),trivial⟩
theorem zzQ{p:Pg}(h:VP p){L:List Int}(hL:inL p.Losses L):SI p.Treaties (zzo L) (zzm p.Treaties L)/\0<=zzo L/\zzo L<=4000:=by
 have hb:=zzC hL h.ls;have h1:=zzt hb;have h2:=zzz hL;have h4:=h.l4;exact⟨zzs h.tsOk fun x hx=>by have:=hb x hx; omega,by omega,by omega⟩
theorem zzR{p:Pg}(h:VP p){L:List Int}(hL:inL p.Losses L):MK.fit (oc p L).pays:=by
 obtain⟨h1,h2,h3⟩:=zzQ h hL
 exact zzP fun j=>by have:=h1.pays j; omega
theorem zzS{p:Pg}(h:VP p):∀(q A:List (List Int)) (M:Option (Mt->Option Oc)),(∀L∈q,inL p.Losses L)->A.length+q.length<=1500->zzv p M->zub p zyE q M (plM p A)=some (zzO p (A++q))
 | [],A,M,_,_,_=>by rw[zub,List.append_nil]; rfl
 | L::q,A,M,hq,hl,hM=>by
  have hL:=hq L (List.mem_cons_self ..);have h4:=h.l4;obtain⟨M',q1,q2⟩:=zzy h (zzC hL h.ls) (by rw[zzz hL]; omega) hM;rw[zub]
  show((zt1 (wkP p M) L).bind _)=_
  rw[q1,obs]
  show gd (MK.fit (oc p L).pays) _=_
  rw[zqs (zzR h hL)]
  show gd (((zqL (plM p A) (oc p L).pays).getD []).length < 1048576) ((zqM (plM p A) (oc p L).pays ((zqL (plM p A) (oc p L).pays).getD []++[oc p L])).bind _)=_
  rw[zzN,obs,zqs ?_]
  ·show zub p zyE q M' (plM p (A++[L]))=_
   rw[zzS h q (A++[L]) M' (fun L hL=>hq L (List.mem_cons_of_mem _ hL)) (by rw[List.length_append]; simp only[List.length_cons,List.length_nil] at hl ⊢; omega) q2,List.append_assoc]; rfl
  ·rw[zzL];have:(grp p A (oc p L).pays).length<=(A.map (oc p)).length:=List.length_filter_le _ _;rw[List.length_map] at this
   simp only[List.length_cons] at hl
   omega
theorem zzT(p:Pg):plM p []=some fun _=>none:=rfl
theorem zzU{p:Pg}(h:VP p):zuc p=some (zzO p (zzG p)):=by
 unfold zuc;rw[zyF,obs,zzJ h,obs];have:=zzS h (zzG p) [] _ (fun L hL=>zzH.1 hL) (by have:=zzI h; simp only[List.length_nil]; omega) (zzv.nil p);rw[zzT,List.nil_append] at this;exact this
def agN(P:Nat->Int)(rs:List Rpt):Prop:=∀r∈rs,r.Paid.Lo<=P r.Treaty.toNat/\P r.Treaty.toNat<=r.Paid.Hi
def zzV(rs:List Rpt):Prop:=∀r∈rs,0<=r.Treaty/\r.Treaty < 5
theorem VP.rsOk{p:Pg}(h:VP p):zzV p.Reports:=fun r hr=>by have:=(h.rs r hr).1; have:=h.t5; omega
theorem zzW{P:Nat->Int}{rs:List Rpt}(hr:zzV rs)(hs:zr4 rs):Ev (ztW (mk5 P) rs) (agN P rs):=
 (show Ev (ztv rs fun a=>ztV a (mk5 P)) (agN P rs) from Ev.each (l:=rs) (p:=fun a=>ztV a (mk5 P)) (q:=fun r=>r.Paid.Lo<=P r.Treaty.toNat/\P r.Treaty.toNat<=r.Paid.Hi) (fun r hm=>by
  show Ev ((idx (l5 P) r.Treaty).bind _) _
  rw[zyn (hr r hm).1 (hr r hm).2,obs]
  exact zyB.ret) hs.lt gQ).ret
open Classical in
theorem zzX{p:Pg}(h:VP p){A:List (List Int)}(hA:∀L∈A,inL p.Losses L)(ks:List P5):zrn (plM p A) ks↔ks.Nodup/\∀k,k∈ks↔∃L∈A,(oc p L).pays=k:=by
 have hm:∀k,(MK.fit k/\zqL (plM p A) k ≠ none)↔∃L∈A,(oc p L).pays=k:=fun k=>by
  show(MK.fit k/\(if grp p A k=[] then none else some (grp p A k)) ≠ none)↔_
  constructor
  ·rintro⟨_,h2⟩
   by_cases hg:grp p A k=[]
   ·rw[if_pos hg] at h2; exact absurd rfl h2
   ·obtain⟨o,ho⟩:=List.exists_mem_of_ne_nil _ hg;obtain⟨h3,h4⟩:=List.mem_filter.1 ho;obtain⟨L,h5,rfl⟩:=List.mem_map.1 h3;exact⟨L,h5,of_decide_eq_true h4⟩
  ·rintro⟨L,h1,rfl⟩
   refine⟨zzR h (hA L h1),?_⟩;have hg:oc p L∈grp p A (oc p L).pays:=List.mem_filter.2 ⟨List.mem_map.2 ⟨L,h1,rfl⟩,decide_eq_true rfl⟩;rw[if_neg fun he=>by rw[he] at hg; cases hg];exact Option.some_ne_none _
 exact and_congr_right fun _=>forall_congr' fun k=>by rw[hm]
theorem zzY{α:Type}:∀L:List α,∃ks:List α,ks.Nodup/\∀k,k∈ks↔k∈L
 | []=>⟨[],List.nodup_nil,fun _=>Iff.rfl⟩
 | a::L=>by
  obtain⟨ks,h1,h2⟩:=zzY L
  by_cases h:a∈ks
  ·refine⟨ks,h1,fun k=>?_⟩;rw[h2,List.mem_cons];exact⟨.inr,fun hk=>hk.elim (fun he=>by rw[he]; exact(h2 a).1 h) id⟩
  ·exact⟨a::ks,List.nodup_cons.2 ⟨h,h1⟩,fun k=>by rw[List.mem_cons,List.mem_cons,h2]⟩
theorem zzZ{p:Pg}(h:VP p){A:List (List Int)}(hA:∀L∈A,inL p.Losses L):∃ks,zrn (plM p A) ks:=by
 obtain⟨ks,h1,h2⟩:=zzY (A.map fun L=>(oc p L).pays);exact⟨ks,(zzX h hA ks).2 ⟨h1,fun k=>(h2 k).trans List.mem_map⟩⟩
def agK(k:P5)(rs:List Rpt):Prop:=∃P,k=mk5 P/\agN P rs
theorem zz0{P:Nat->Int}{rs:List Rpt}(hr:zzV rs):agK (mk5 P) rs↔agN P rs:=by
 refine⟨fun⟨P',h1,h2⟩ r hm=>?_,fun h=>⟨P,rfl,h⟩⟩;have:=hr r hm;have e:=zyo h1 (k:=r.Treaty.toNat) (by omega);rw[e]; exact h2 r hm
theorem zz1(k:P5):∃f,k=mk5 f:=⟨fun j=>match j with | 0=>k.p0 | 1=>k.p1 | 2=>k.p2 | 3=>k.p3 | _=>k.p4,rfl⟩
theorem zz2{k:P5}{rs:List Rpt}(hr:zzV rs)(hs:zr4 rs):Ev (ztW k rs) (agK k rs):=by
 obtain⟨f,rfl⟩:=zz1 k;exact(zzW hr hs).imp (zz0 hr).symm
theorem zz3{w:Wk}{rs:List Rpt}(hr:zzV rs)(hs:zr4 rs):∀(d:Nat) (rem:List P5),rem.length < d->(∀k∈rem,zqL w.played k ≠ none)->Ev (pcanHold_L0 w rs d rem) (∃k∈rem,agK k rs)
 | 0,_,h,_=>by omega
 | d+1,rem,h,hm=>by
  by_cases hex:∃k∈rem,agK k rs
  ·refine⟨true,?_,⟨fun _=>hex,fun _=>rfl⟩⟩;unfold pcanHold_L0
   refine zru (fun l1 a l2 hrr=>?_) fun hrr=>by subst hrr; obtain⟨k,hk,_⟩:=hex; cases hk
   subst hrr;obtain⟨v,hv⟩:=Option.ne_none_iff_exists'.1 (hm a (by simp));rw[hv,obs];refine(zz2 hr hs).pick (fun ha=>by rw[if_pos rfl]) fun ha=>?_;rw[if_neg (by decide)];refine(zz3 hr hs d (l1++l2) (by simp only[List.length_append,List.length_cons] at h ⊢; omega) fun k hk=>hm k ?_).some_of ?_
   ·rcases List.mem_append.1 hk with h | h
    ·exact List.mem_append_left _ h
    ·exact List.mem_append_right _ (List.mem_cons_of_mem _ h)
   ·obtain⟨k,hk,h2⟩:=hex;refine⟨k,?_,h2⟩
    rcases List.mem_append.1 hk with h | h
    ·exact List.mem_append_left _ h
    ·rcases List.mem_cons.1 h with h | h
     ·exact absurd (h ▸ h2) ha
     ·exact List.mem_append_right _ h
  ·refine⟨false,?_,⟨fun h=>(by cases h),fun h=>absurd h hex⟩⟩;unfold pcanHold_L0;refine zru (fun l1 a l2 hrr=>?_) fun hrr=>rfl;subst hrr;obtain⟨v,hv⟩:=Option.ne_none_iff_exists'.1 (hm a (by simp));rw[hv,obs,(zz2 hr hs).some_not fun ha=>hex ⟨a,by simp,ha⟩,obs,if_neg (by decide)];refine(zz3 hr hs d (l1++l2) (by simp only[List.length_append,List.length_cons] at h ⊢; omega) fun k hk=>hm k ?_).some_not ?_
   ·rcases List.mem_append.1 hk with h | h
    ·exact List.mem_append_left _ h
    ·exact List.mem_append_right _ (List.mem_cons_of_mem _ h)
   ·rintro⟨k,hk,h2⟩
    refine hex ⟨k,?_,h2⟩
    rcases List.mem_append.1 hk with h | h
    ·exact List.mem_append_left _ h
    ·exact List.mem_append_right _ (List.mem_cons_of_mem _ h)
def zz4(p:Pg)(rs:List Rpt):Prop:=∃L,inL p.Losses L/\agN (zzm p.Treaties L).pays rs
theorem zz5{p:Pg}(h:VP p){rs:List Rpt}(hr:zzV rs)(hs:zr4 rs):Ev (zud (zzO p (zzG p)) rs) (zz4 p rs):=by
 have hA:∀L∈zzG p,inL p.Losses L:=fun L hL=>zzH.1 hL;obtain⟨ks0,h0⟩:=zzZ h hA
 have key:∀ks,zrn (plM p (zzG p)) ks->Ev (pcanHold_L0 (zzO p (zzG p)) rs (ks.length+1) ks) (zz4 p rs):=fun ks hk=>by
  have h2:=((zzX h hA ks).1 hk).2;refine(zz3 hr hs _ ks (by omega) fun k hkk=>((hk.2 k).1 hkk).2).imp ⟨?_,?_⟩
  ·rintro⟨k,hk1,hk2⟩
   obtain⟨L,hL,rfl⟩:=(h2 k).1 hk1;exact⟨L,hA L hL,(zz0 hr).1 hk2⟩
  ·rintro⟨L,hL,h3⟩
   exact⟨_,(h2 _).2 ⟨L,zzH.2 hL,rfl⟩,(zz0 hr).2 h3⟩
 unfold zud
 by_cases hc:zz4 p rs
 ·exact⟨true,zrq h0 fun ks hk=>(key ks hk).some_of hc,⟨fun _=>hc,fun _=>rfl⟩⟩
 ·exact⟨false,zrq h0 fun ks hk=>(key ks hk).some_not hc,⟨fun h=>(by cases h),fun h=>absurd h hc⟩⟩
end
end Go.Proofs.YtkcmdghjgoaggaaGreat

namespace Go.Proofs.YtkcmdghjgoaggaaGreat
open _root_.Go.Proofs.Tryz
open Go.Abs
set_option maxRecDepth 100000
noncomputable section
def zz6(S:Int->Prop)(x:Int):Prop:=S x/\∀y,S y->x<=y
def zz7(S:Int->Prop)(x:Int):Prop:=S x/\∀y,S y->y<=x
theorem zz8{S:Int->Prop}{x y:Int}(h:zz6 S x)(h':zz6 S y):x=y:=Int.le_antisymm (h.2 _ h'.1) (h'.2 _ h.1)
theorem zz9{S:Int->Prop}{x y:Int}(h:zz7 S x)(h':zz7 S y):x=y:=Int.le_antisymm (h'.2 _ h.1) (h.2 _ h'.1)
theorem zAa{number:Oc->Option Int}{g:Oc->Int}{ws:List Oc}{y:List P5}{K:List Int->List P5->Option Rg}(hg:∀o∈ws,number o=some (g o)){acc:List Int}(hl:acc.length+ws.length<=1048576):zue number ws y K (ws.length+1) acc 0=K (acc++ws.map g) y:=by
 have key:=zyk (n:=ws.length) (fun d (s:List Int) x=>zue number ws y K d s x) (fun k=>acc++(ws.take k).map g) (fin:=K (acc++ws.map g) y) (fun d k hk=>?_) (fun d=>?_) (ws.length+1) 0 (by omega) (by omega)
 ·rw[List.take_zero,List.map_nil,List.append_nil] at key; exact key
 ·have hgt:=List.getElem?_eq_getElem hk;rw[zue,if_pos (by omega),zrU hgt,obs,hg _ (List.getElem_mem hk),obs,zqs (by rw[List.length_append,List.length_map,List.length_take]; omega),zqs (fI (by omega)),List.take_add_one,hgt,List.map_append,<- List.append_assoc]; rfl
 ·rw[zue,if_neg (by omega),List.take_length]
def tot(p:Pg)(A:List (List Int))(ks:List P5):Nat:=(ks.map fun k=>(grp p A k).length).sum
def zAb(p:Pg)(A:List (List Int))(rs:List Rpt)(g:Oc->Int)(ks:List P5)(y:Int):Prop:=∃k∈ks,agK k rs/\∃o∈grp p A k,g o=y
theorem zAc{p:Pg}{A:List (List Int)}{w:Wk}{number:Oc->Option Int}{g:Oc->Int}{lo hi:Int}(hr:zzV w.p.Reports)(hs:zr4 w.p.Reports):∀(d:Nat) (rem:List P5) (acc:List Int),rem.length < d->acc.length+tot p A rem<=1048576->(∀k∈rem,zqL w.played k=some (grp p A k)/\∀o∈grp p A k,number o=some (g o)) ->
  zz6 (fun y=>y∈acc\/zAb p A w.p.Reports g rem y) lo->zz7 (fun y=>y∈acc\/zAb p A w.p.Reports g rem y) hi->pboundsW_L0 w number d acc rem=some { Lo:=lo,Hi:=hi }
 | 0,_,_,h,_,_,_,_=>by omega
 | d+1,rem,acc,h,hacc,hm,h1,h2=>by
  unfold pboundsW_L0;refine zru (fun l1 a l2 hrr=>?_) fun hrr=>?_
  ·subst hrr
   have hsub:∀x,x∈l1++l2->x∈l1++a::l2:=fun x hx=>by
    rcases List.mem_append.1 hx with h | h
    ·exact List.mem_append_left _ h
    ·exact List.mem_append_right _ (List.mem_cons_of_mem _ h)
   have hspl:∀x,x∈l1++a::l2↔x=a\/x∈l1++l2:=fun x=>by simp only[List.mem_append,List.mem_cons]; constructor <;> (intro h; rcases h with h | h | h <;> simp[h])
   obtain⟨k1,k2⟩:=hm a (by simp)
   have hlen:(l1++l2).length+1=(l1++a::l2).length:=by simp only[List.length_append,List.length_cons]; omega
   have htot:tot p A (l1++a::l2)=(grp p A a).length+tot p A (l1++l2):=by unfold tot; simp only[List.map_append,List.map_cons,List.sum_append,List.sum_cons]; omega
   rw[k1,obs]
   by_cases ha:agK a w.p.Reports
   ·rw[(zz2 hr hs).some_of ha,obs,if_pos rfl,zAa k2 (by omega)]
    have hiff:(fun y=>y∈acc++(grp p A a).map g\/zAb p A w.p.Reports g (l1++l2) y)=fun y=>y∈acc\/zAb p A w.p.Reports g (l1++a::l2) y:=funext fun y=>propext ⟨fun hy=>by
     rcases hy with hy | ⟨x,hx,hx2⟩
     ·rcases List.mem_append.1 hy with hy | hy
      ·exact .inl hy
      ·obtain⟨o,ho,hoy⟩:=List.mem_map.1 hy;exact .inr ⟨a,by simp,ha,o,ho,hoy⟩
     ·exact .inr ⟨x,hsub x hx,hx2⟩,fun hy=>by
     rcases hy with hy | ⟨x,hx,hx2,o,ho,hoy⟩
     ·exact .inl (List.mem_append_left _ hy)
     ·rcases (hspl x).1 hx with rfl | hx
      ·exact .inl (List.mem_append_right _ (List.mem_map.2 ⟨o,ho,hoy⟩))
      ·exact .inr ⟨x,hx,hx2,o,ho,hoy⟩⟩
    exact zAc hr hs d (l1++l2) _ (by omega) (by rw[List.length_append,List.length_map]; omega) (fun x hx=>hm x (hsub x hx)) (by rw[hiff]; exact h1) (by rw[hiff]; exact h2)
   ·rw[(zz2 hr hs).some_not ha,obs,if_neg (by decide)]
    have hiff:(fun y=>y∈acc\/zAb p A w.p.Reports g (l1++l2) y)=fun y=>y∈acc\/zAb p A w.p.Reports g (l1++a::l2) y:=funext fun y=>propext ⟨fun hy=>hy.imp id fun⟨x,hx,hx2⟩=>⟨x,hsub x hx,hx2⟩,fun hy=>by
     rcases hy with hy | ⟨x,hx,hx2,hx3⟩
     ·exact .inl hy
     ·rcases (hspl x).1 hx with rfl | hx
      ·exact absurd hx2 ha
      ·exact .inr ⟨x,hx,hx2,hx3⟩⟩
    exact zAc hr hs d (l1++l2) acc (by omega) (by omega) (fun x hx=>hm x (hsub x hx)) (by rw[hiff]; exact h1) (by rw[hiff]; exact h2)
  ·subst hrr;have hno:∀y,(y∈acc\/zAb p A w.p.Reports g [] y)↔y∈acc:=fun y=>⟨fun h=>h.elim id (fun⟨x,hx,_⟩=>(by cases hx)),.inl⟩
   have hne:acc ≠ []:=fun he=>by have:=(hno _).1 h1.1; rw[he] at this; cases this
   have m1:=zsb hne;have m2:=zsc hne;have e1:zr7 acc=lo:=zz8 ⟨(hno _).2 m1.1,fun y hy=>m1.2 y ((hno y).1 hy)⟩ h1;have e2:zr8 acc=hi:=zz9 ⟨(hno _).2 m2.1,fun y hy=>m2.2 y ((hno y).1 hy)⟩ h2;rw[zy3 hne (by omega),obs,zy4 hne (by omega),obs,e1,e2]
open Classical in
theorem zAd{p:Pg}{A:List (List Int)}{ks:List P5}(h:ks.Nodup):tot p A ks<=A.length:=by
 have key:∀(ks:List P5) (B:List Oc),ks.Nodup->(ks.map fun k=>(B.filter fun o=>decide (o.pays=k)).length).sum<=B.length:=by
  intro ks
  induction ks with
  | nil=>intro B _; exact Nat.zero_le _
  | cons k ks ih=>
   intro B hn;obtain⟨h1,h2⟩:=List.nodup_cons.1 hn
   have e1:∀k'∈ks,(B.filter fun o=>decide (o.pays=k')).length=((B.filter fun o=>!decide (o.pays=k)).filter fun o=>decide (o.pays=k')).length:=fun k' hk'=>by
    rw[List.filter_filter]
    congr 1
    refine List.filter_congr fun o _=>?_
    by_cases ho:o.pays=k'
    ·have:¬ o.pays=k:=fun h3=>h1 (h3 ▸ ho ▸ hk')
     simp[ho]
     intro h3; exact h1 (h3 ▸ hk')
    ·simp[ho]
   have e2:(ks.map fun k'=>(B.filter fun o=>decide (o.pays=k')).length)=ks.map fun k'=>((B.filter fun o=>!decide (o.pays=k)).filter fun o=>decide (o.pays=k')).length:=List.map_congr_left e1
   have e3:(B.filter fun o=>decide (o.pays=k)).length+(B.filter fun o=>!decide (o.pays=k)).length=B.length:=by
    clear e1 e2 ih
    induction B with
    | nil=>rfl
    | cons o B ihB=>
     by_cases ho:o.pays=k
     ·rw[List.filter_cons_of_pos (by simp[ho]),List.filter_cons_of_neg (by simp[ho])]; simp only[List.length_cons]; omega
     ·rw[List.filter_cons_of_neg (by simp[ho]),List.filter_cons_of_pos (by simp[ho])]; simp only[List.length_cons]; omega
   rw[List.map_cons,List.sum_cons,e2];have:=ih (B.filter fun o=>!decide (o.pays=k)) h2
   omega
 have:=key ks (A.map (oc p)) h;rw[List.length_map] at this;exact this
def IsB(S:List Int->Prop)(g:List Int->Int)(r:Rg):Prop:=(∃L,S L/\g L=r.Lo)/\(∃L,S L/\g L=r.Hi)/\∀L,S L->r.Lo<=g L/\g L<=r.Hi
theorem IsB.uniq{S:List Int->Prop}{g:List Int->Int}{r r':Rg}(h:IsB S g r)(h':IsB S g r'):r=r':=by
 obtain⟨⟨a,a1,a2⟩,⟨b,b1,b2⟩,c⟩:=h;obtain⟨⟨a',a1',a2'⟩,⟨b',b1',b2'⟩,c'⟩:=h';have q1:=c a' a1'; have q2:=c b' b1'; have q3:=c' a a1; have q4:=c' b b1
 cases r; cases r'
 simp only at *
 congr 1 <;> omega
theorem IsB.congr{S S':List Int->Prop}{g g':List Int->Int}{r:Rg}(h:IsB S g r)(hS:∀L,S L↔S' L)(hg:∀L,S' L->g L=g' L):IsB S' g' r:=by
 obtain⟨⟨a,a1,a2⟩,⟨b,b1,b2⟩,c⟩:=h;exact⟨⟨a,(hS a).1 a1,by rw[<- hg a ((hS a).1 a1)]; exact a2⟩,⟨b,(hS b).1 b1,by rw[<- hg b ((hS b).1 b1)]; exact b2⟩,fun L hL=>by rw[<- hg L hL]; exact c L ((hS L).2 hL)⟩
def TrS(p:Pg)(rs:List Rpt)(L:List Int):Prop:=inL p.Losses L/\agN (zzm p.Treaties L).pays rs
open Classical in
theorem zAe{p:Pg}(h:VP p){number:Oc->Option Int}{g:Oc->Int}(hg:∀L,inL p.Losses L->number (oc p L)=some (g (oc p L)))(hc:zz4 p p.Reports):∃r,zuf (zzO p (zzG p)) number=some r/\IsB (TrS p p.Reports) (fun L=>g (oc p L)) r:=by
 have hA:∀L∈zzG p,inL p.Losses L:=fun L hL=>zzH.1 hL;have h5:=h.r5;have hs:zr4 p.Reports:=zr5 h5 (by omega);obtain⟨ks0,h0⟩:=zzZ h hA
 have hgrp:∀{k o},o∈grp p (zzG p) k->∃L,inL p.Losses L/\oc p L=o/\(oc p L).pays=k:=fun {k o} ho=>by
  obtain⟨h3,h4⟩:=List.mem_filter.1 ho;obtain⟨L,h5,rfl⟩:=List.mem_map.1 h3;exact⟨L,hA L h5,rfl,of_decide_eq_true h4⟩
 have hin:∀{L},inL p.Losses L->oc p L∈grp p (zzG p) (oc p L).pays:=fun {L} hL=>List.mem_filter.2 ⟨List.mem_map.2 ⟨L,zzH.2 hL,rfl⟩,decide_eq_true rfl⟩
 have hans:∀ks,zrn (plM p (zzG p)) ks->∀y,(y∈([]:List Int)\/zAb p (zzG p) p.Reports g ks y)↔∃L,TrS p p.Reports L/\g (oc p L)=y:=fun ks hk y=>by
  have h2:=((zzX h hA ks).1 hk).2
  constructor
  ·rintro (h3 | ⟨k,hk1,hk2,o,ho,rfl⟩)
   ·cases h3
   ·obtain⟨L,hL,rfl,hk3⟩:=hgrp ho;subst hk3;exact⟨L,⟨hL,(zz0 h.rsOk).1 hk2⟩,rfl⟩
  ·rintro⟨L,⟨hL,ha⟩,rfl⟩
   exact .inr ⟨_,(h2 _).2 ⟨L,zzH.2 hL,rfl⟩,(zz0 h.rsOk).2 ha,_,hin hL,rfl⟩
 -- the zj2 and the zj3 one
 obtain⟨vs,hvs⟩:∃vs:List Int,∀y,y∈vs↔∃L,TrS p p.Reports L/\g (oc p L)=y:=by
  classical
  refine⟨((zzG p).filter fun L=>decide (agN (zzm p.Treaties L).pays p.Reports)).map fun L=>g (oc p L),fun y=>?_⟩;rw[List.mem_map]
  constructor
  ·rintro⟨L,hL,rfl⟩
   obtain⟨h3,h4⟩:=List.mem_filter.1 hL;exact⟨L,⟨hA L h3,of_decide_eq_true h4⟩,rfl⟩
  ·rintro⟨L,⟨h3,h4⟩,rfl⟩
   exact⟨L,List.mem_filter.2 ⟨zzH.2 h3,decide_eq_true h4⟩,rfl⟩
 have hne:vs ≠ []:=fun he=>by
  obtain⟨L,hL⟩:=hc;have:=(hvs _).2 ⟨L,hL,rfl⟩
  rw[he] at this; cases this
 have m1:=zsb hne;have m2:=zsc hne;refine⟨{ Lo:=zr7 vs,Hi:=zr8 vs },?_,(hvs _).1 m1.1,(hvs _).1 m2.1,fun L hL=>⟨m1.2 _ ((hvs _).2 ⟨L,hL,rfl⟩),m2.2 _ ((hvs _).2 ⟨L,hL,rfl⟩)⟩⟩;unfold zuf;refine zrq h0 fun ks hk=>?_;have htl:=zAd (p:=p) (A:=zzG p) hk.1;have hlen:=zzI h;refine zAc (p:=p) (A:=zzG p) (w:=zzO p (zzG p)) (g:=g) h.rsOk hs _ ks [] (by omega) (by simp only[List.length_nil]; omega) (fun k hkk=>⟨?_,fun o ho=>?_⟩) ⟨(hans ks hk _).2 ((hvs _).1 m1.1),fun y hy=>m1.2 y ((hvs _).2 ((hans ks hk _).1 hy))⟩ ⟨(hans ks hk _).2 ((hvs _).1 m2.1),fun y hy=>m2.2 y ((hvs _).2 ((hans ks hk _).1 hy))⟩
 ·have h3:=((hk.2 k).1 hkk).2;have h4:(if grp p (zzG p) k=[] then none else some (grp p (zzG p) k)) ≠ none:=h3
  show(if grp p (zzG p) k=[] then none else some (grp p (zzG p) k))=_
  by_cases h5:grp p (zzG p) k=[]
  ·rw[if_pos h5] at h4; exact absurd rfl h4
  ·rw[if_neg h5]
 ·obtain⟨L,hL,rfl,_⟩:=hgrp ho;exact hg L hL
theorem zAf{p:Pg}(h:VP p):zr4 p.Losses/\zr4 p.Treaties/\zr4 p.Reports:=⟨zr5 h.l4 (by omega),zr5 h.t5 (by omega),zr5 h.r5 (by omega)⟩
theorem zAg{p:Pg}(h:VP p):ztJ p=some 0:=by
 obtain⟨h1,h2,h3⟩:=zAf h;rw[zyT h1 h2 h3,zyA.2 h]
theorem zAh{p:Pg}{L:List Int}(h:VP p):Ev (ztL p L) (inL p.Losses L):=by
 have h4:=h.l4;unfold ztL
 by_cases hl:(L.length:Int)=p.Losses.length
 ·rw[if_pos hl];refine(Ev.loop (n:=p.Losses.length) (F:=fun d x=>ztK p L d x) (ok:=fun j=>∀r x,p.Losses[j]? = some r->L[j]? = some x->r.Lo<=x/\x<=r.Hi) (fin:=some true) (P:=True) (fun d k hk=>?_) (fun d=>?_) (by omega) (fun _=>Ev.tt trivial)).imp ?_
  ·have hg:=List.getElem?_eq_getElem hk;have hg2:=List.getElem?_eq_getElem (show k < L.length by omega)
   show(_->ztK p L (d+1) (k:Int)=_)/\(_->ztK p L (d+1) (k:Int)=_)
   rw[ztK,if_pos (by omega),zrU hg,obs,zrU hg2,obs];refine(zyB.imp ⟨fun h r x h1 h2=>?_,fun h=>h _ _ hg hg2⟩).step (by rw[if_pos rfl,zqs (fI (by omega))]) (by rw[if_neg (by decide)])
   rw[hg] at h1; rw[hg2] at h2; cases h1; cases h2; exact h
  ·show ztK p L (d+1) _=_
   rw[ztK,if_neg (Int.lt_irrefl _)]
  ·exact⟨fun h=>zzB (by omega) fun i r x h1 h2=>h.1 i (List.getElem?_eq_some_iff.1 h1).1 r x h1 h2,fun h=>⟨fun j _ r x h1 h2=>zzA h h1 h2,trivial⟩⟩
 ·rw[if_neg hl]; exact Ev.ff fun h=>hl (by rw[zzz h])
def lN(n:Nat)(f:Nat->Int):List Int:=(l5 f).take n
theorem zAi{n:Nat}(h:n<=5)(f:Nat->Int):(lN n f).length=n:=by unfold lN; rw[List.length_take]; show min n 5=n; omega
theorem zAj{n:Nat}(h:n<=5)(f:Nat->Int){k:Nat}(hk:k < n):(lN n f)[k]? = some (f k):=by unfold lN; rw[List.getElem?_take,if_pos hk,zyl (by omega)]
theorem zAk{p:Pg}(h:VP p){L:List Int}(hL:inL p.Losses L):zua p L=some (lN p.Treaties.length (zzm p.Treaties L).pays,(zzm p.Treaties L).soc,0):=by
 have h4:=h.l4;have h5:=h.t5;obtain⟨M',q1,_⟩:=zzy h (zzC hL h.ls) (by rw[zzz hL]; omega) (zzv.nil p);unfold zua;rw[zAg h,obs,if_pos rfl,(zAh h).some_of hL,obs,if_pos rfl,zyF,obs]
 show((zt1 (wkP p _) L).bind _)=_
 rw[q1,obs,zqs (by omega),Int.toNat_natCast,show Int.toNat (0:Int)=0 from rfl,List.drop_zero]
 show((zt7 (lN p.Treaties.length (zzm p.Treaties L).pays)).bind _)=_
 unfold zt7;rw[zqs (by rw[zAi h5]; simp only[List.length_nil]; omega)]
 rfl
def wk0:Wk:={ p:={ Losses:=[],Reserve:=0,Treaties:=[],Reports:=[] },kinds:={ k0:={ part:={ Lo:=0,Hi:=0 },above:={ Lo:=0,Hi:=0 },most:={ Lo:=0,Hi:=0 },times:={ Lo:=0,Hi:=0 },takes:=(fun _ _ _=>none) },k1:={ part:={ Lo:=0,Hi:=0 },above:={ Lo:=0,Hi:=0 },most:={ Lo:=0,Hi:=0 },times:={ Lo:=0,Hi:=0 },takes:=(fun _ _ _=>none) } },shared:=(),played:=none }
theorem zAl{p:Pg}(h:VP p)(hc:zz4 p p.Reports):zug p=some (zzO p (zzG p),0):=by
 unfold zug;rw[zAg h,obs,if_pos rfl,zzU h,obs]
 show((zud (zzO p (zzG p)) p.Reports).bind _)=_
 rw[(zz5 h h.rsOk (zAf h).2.2).some_of hc]; rfl
theorem zAm{p:Pg}(h:VP p)(hc:¬ zz4 p p.Reports):zug p=some (wk0,11):=by
 unfold zug;rw[zAg h,obs,if_pos rfl,zzU h,obs]
 show((zud (zzO p (zzG p)) p.Reports).bind _)=_
 rw[(zz5 h h.rsOk (zAf h).2.2).some_not hc]; rfl
structure zAn (p:Pg) (bs:List Bd):Prop where
 len:bs.length=p.Treaties.length
 at':∀(k:Nat) (b:Bd),bs[k]? = some b->IsB (TrS p p.Reports) (fun L=>(zzm p.Treaties L).pays k) b.Pays/\IsB (TrS p p.Reports) (fun L=>(zzm p.Treaties L).keeps k) b.Keeps
theorem zAn.uniq{p:Pg}{bs bs':List Bd}(h:zAn p bs)(h':zAn p bs'):bs=bs':=by
 refine List.ext_getElem? fun k=>?_
 cases hb:bs[k]? with
 | none=>
  rw[List.getElem?_eq_none_iff] at hb;rw[List.getElem?_eq_none (by rw[h'.len,<- h.len]; exact hb)]
 | some b=>
  have hk:=(List.getElem?_eq_some_iff.1 hb).1;have hb':=List.getElem?_eq_getElem (show k < bs'.length by rw[h'.len,<- h.len]; exact hk);rw[hb'];obtain⟨q1,q2⟩:=h.at' k b hb;obtain⟨q3,q4⟩:=h'.at' k _ hb';have e1:=q1.uniq q3;have e2:=q2.uniq q4;generalize bs'[k]'(by rw[h'.len,<- h.len]; exact hk)=b' at e1 e2
  cases b; cases b'
  simp only at e1 e2
  rw[e1,e2]
theorem zAo{p:Pg}(h:VP p)(hc:zz4 p p.Reports):∃bs,zuk p=some (bs,0)/\zAn p bs:=by
 have h5:=h.t5
 have hx:∀k:Nat,k < p.Treaties.length->∃b:Bd,(∀L,inL p.Losses L->True)/\zuf (zzO p (zzG p)) (fun a=>zuh a (k:Int))=some b.Pays/\zuf (zzO p (zzG p)) (fun a=>zui a (k:Int))=some b.Keeps/\IsB (TrS p p.Reports) (fun L=>(zzm p.Treaties L).pays k) b.Pays/\IsB (TrS p p.Reports) (fun L=>(zzm p.Treaties L).keeps k) b.Keeps:=fun k hk=>by
  obtain⟨r1,a1,a2⟩:=zAe h (number:=fun a=>zuh a (k:Int)) (g:=fun o=>(idx ([o.pays.p0,o.pays.p1,o.pays.p2,o.pays.p3,o.pays.p4]:List Int) (k:Int)).getD 0) (fun L _=>by
   show((idx (l5 (zzm p.Treaties L).pays) (k:Int)).bind fun v=>some v)=some ((idx (l5 (zzm p.Treaties L).pays) (k:Int)).getD 0)
   rw[zym (by omega)]; rfl) hc
  obtain⟨r2,b1,b2⟩:=zAe h (number:=fun a=>zui a (k:Int)) (g:=fun o=>(idx ([o.keeps.p0,o.keeps.p1,o.keeps.p2,o.keeps.p3,o.keeps.p4]:List Int) (k:Int)).getD 0) (fun L _=>by
   show((idx (l5 (zzm p.Treaties L).keeps) (k:Int)).bind fun v=>some v)=some ((idx (l5 (zzm p.Treaties L).keeps) (k:Int)).getD 0)
   rw[zym (by omega)]; rfl) hc
  refine⟨⟨r1,r2⟩,fun _ _=>trivial,a1,b1,a2.congr (fun _=>Iff.rfl) fun L _=>?_,b2.congr (fun _=>Iff.rfl) fun L _=>?_⟩
  ·show(idx (l5 (zzm p.Treaties L).pays) (k:Int)).getD 0=_
   rw[zym (by omega)]; rfl
  ·show(idx (l5 (zzm p.Treaties L).keeps) (k:Int)).getD 0=_
   rw[zym (by omega)]; rfl
 unfold zuk;rw[zAl h hc,obs,if_pos rfl]
 have key:∀(d k:Nat) (acc:List Bd),k<=p.Treaties.length->p.Treaties.length - k < d->acc.length=k->(∀(j:Nat) (b:Bd),acc[j]? = some b->IsB (TrS p p.Reports) (fun L=>(zzm p.Treaties L).pays j) b.Pays/\IsB (TrS p p.Reports) (fun L=>(zzm p.Treaties L).keeps j) b.Keeps) ->
   ∃bs,zuj p (zzO p (zzG p),0) d acc (k:Int)=some (bs,0)/\zAn p bs:=by
  intro d
  induction d with
  | zero=>intro k acc _ h _ _; omega
  | succ d ih=>
   intro k acc hk hd hl hacc;rw[zuj]
   by_cases hkl:k < p.Treaties.length
   ·obtain⟨b,_,b1,b2,b3,b4⟩:=hx k hkl;rw[if_pos (by omega)]
    show ∃bs,((zuf (zzO p (zzG p)) fun a=>zuh a (k:Int)).bind _)=_/\_
    rw[b1,obs]
    show ∃bs,((zuf (zzO p (zzG p)) fun a=>zui a (k:Int)).bind _)=_/\_
    rw[b2,obs,zqs (by omega),zqs (fI (by omega)),show(k:Int)+1=((k+1:Nat):Int) by omega];refine ih (k+1) _ (by omega) (by omega) (by rw[List.length_append,hl]; rfl) fun j b' hb'=>?_
    by_cases hj:j < acc.length
    ·rw[List.getElem?_append_left hj] at hb'; exact hacc j b' hb'
    ·rw[List.getElem?_append_right (by omega)] at hb'
     have hj2:j=k:=by
      have:=(List.getElem?_eq_some_iff.1 hb').1
      simp only[List.length_cons,List.length_nil] at this
      omega
     subst hj2;rw[show j - acc.length=0 by omega] at hb'
     cases hb'
     exact⟨b3,b4⟩
   ·rw[if_neg (by omega)];exact⟨acc,rfl,by omega,hacc⟩
 exact key (p.Treaties.length+1) 0 [] (Nat.zero_le _) (by omega) rfl fun j b hb=>by cases hb
theorem zAp{p:Pg}(h:VP p)(hc:¬ zz4 p p.Reports):zuk p=some ([],11):=by
 unfold zuk;rw[zAm h hc,obs,if_neg (by decide)]
theorem zAq{p:Pg}(h:VP p)(hc:zz4 p p.Reports):∃r,zul p=some (r,0)/\IsB (TrS p p.Reports) (fun L=>(zzm p.Treaties L).soc) r:=by
 obtain⟨r,a1,a2⟩:=zAe h (number:=fun a=>ztU a) (g:=fun o=>o.society) (fun L _=>rfl) hc;refine⟨r,?_,a2⟩;unfold zul;rw[zAl h hc,obs,if_pos rfl]
 show((zuf (zzO p (zzG p)) fun a=>ztU a).bind _)=_
 rw[a1]; rfl
theorem zAr{p:Pg}(h:VP p)(hc:¬ zz4 p p.Reports):zul p=some ({ Lo:=0,Hi:=0 },11):=by
 unfold zul;rw[zAm h hc,obs,if_neg (by decide)]
end
end Go.Proofs.YtkcmdghjgoaggaaGreat

