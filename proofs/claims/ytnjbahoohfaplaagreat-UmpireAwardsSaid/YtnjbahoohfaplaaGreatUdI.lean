/- An evaluator of the code of a program, its soundness, what calls ask, memory, and what functions of the program do. Condition: none; a lemma text of this claim. -/
import Derived.Test.YtnjbahoohfaplaaGreatUdH

namespace Go.Proofs.YtnjbahoohfaplaaGreat
open _root_.Go.Proofs.Tryz
open Go.Abs
set_option maxRecDepth 100000
noncomputable section
def zwR(f:M)(x:C)(g:Tf->Option (Bool)):Prop:=∀(f' m:M) (a0:Tf) (c0 c1 c2:C) (r:Bool) (Q:V->M->Prop),Sub f f'->Pre f' m->Sl f' c0 a0.Weeks->Sl f' c1 a0.Counts->Sl f' c2 a0.Rates->g a0=some r->(∀m',Ext m m'->Q (.c (.bool r)) m')->zmq prog tbl [.agg 6 [(.int .i64 a0.From),.bool a0.Whole,(.int .i64 a0.Least),c0,c1,c2]] x m Q
theorem zwR.sub{f m:M}{x:C}{g:Tf->Option (Bool)}(h:zwR f x g)(s:Sub f m):zwR m x g:=fun f' m' a0 c0 c1 c2 r Q hs=>h f' m' a0 c0 c1 c2 r Q (s.trans hs)
def zwS(f:M)(x:C)(g:Clm->Option (Bool)):Prop:=∀(f' m:M) (a0:Clm) (r:Bool) (Q:V->M->Prop),Sub f f'->Pre f' m->g a0=some r->(∀m',Ext m m'->Q (.c (.bool r)) m')->zmq prog tbl [.agg 6 [(.int .i64 a0.Crop),(.int .i64 a0.Value),(.int .i64 a0.Day.Lo),(.int .i64 a0.Day.Hi),(.int .i64 a0.Count.Lo),(.int .i64 a0.Count.Hi)]] x m Q
theorem zwS.sub{f m:M}{x:C}{g:Clm->Option (Bool)}(h:zwS f x g)(s:Sub f m):zwS m x g:=fun f' m' a0 r Q hs=>h f' m' a0 r Q (s.trans hs)
def zwT(f:M)(x:C)(g:Int->Option (Bool)):Prop:=∀(f' m:M) (a0:Int) (r:Bool) (Q:V->M->Prop),Sub f f'->Pre f' m->g a0=some r->(∀m',Ext m m'->Q (.c (.bool r)) m')->zmq prog tbl [.c (.int .i64 a0)] x m Q
theorem zwT.sub{f m:M}{x:C}{g:Int->Option (Bool)}(h:zwT f x g)(s:Sub f m):zwT m x g:=fun f' m' a0 r Q hs=>h f' m' a0 r Q (s.trans hs)
def zwU(f:M)(x:C)(g:List Int->Option (Bool)):Prop:=∀(f' m:M) (a0:List Int) (c0:C) (r:Bool) (Q:V->M->Prop),Sub f f'->Pre f' m->Sl f' c0 a0->g a0=some r->(∀m',Ext m m'->Q (.c (.bool r)) m')->zmq prog tbl [.c c0] x m Q
theorem zwU.sub{f m:M}{x:C}{g:List Int->Option (Bool)}(h:zwU f x g)(s:Sub f m):zwU m x g:=fun f' m' a0 c0 r Q hs=>h f' m' a0 c0 r Q (s.trans hs)
def zwV(f:M)(x:C)(g:List (List Int)->Option (Bool)):Prop:=∀(f' m:M) (a0:List (List Int)) (c0:C) (r:Bool) (Q:V->M->Prop),Sub f f'->Pre f' m->Sl f' c0 a0->g a0=some r->(∀m',Ext m m'->Q (.c (.bool r)) m')->zmq prog tbl [.c c0] x m Q
theorem zwV.sub{f m:M}{x:C}{g:List (List Int)->Option (Bool)}(h:zwV f x g)(s:Sub f m):zwV m x g:=fun f' m' a0 c0 r Q hs=>h f' m' a0 c0 r Q (s.trans hs)
def zwW(f:M)(x:C)(g:Tf->Int->Option (Int)):Prop:=∀(f' m:M) (a0:Tf) (a1:Int) (c0 c1 c2:C) (r:Int) (Q:V->M->Prop),Sub f f'->Pre f' m->Sl f' c0 a0.Weeks->Sl f' c1 a0.Counts->Sl f' c2 a0.Rates->g a0 a1=some r->(∀m',Ext m m'->Q (.c (.int .i64 r)) m')->zmq prog tbl [.agg 6 [(.int .i64 a0.From),.bool a0.Whole,(.int .i64 a0.Least),c0,c1,c2],.c (.int .i64 a1)] x m Q
def zwX(f:M)(x:C)(g:Rg->Option (Bool)):Prop:=∀(f' m:M) (a0:Rg) (r:Bool) (Q:V->M->Prop),Sub f f'->Pre f' m->g a0=some r->(∀m',Ext m m'->Q (.c (.bool r)) m')->zmq prog tbl [.agg 2 [(.int .i64 a0.Lo),(.int .i64 a0.Hi)]] x m Q
theorem zwX.sub{f m:M}{x:C}{g:Rg->Option (Bool)}(h:zwX f x g)(s:Sub f m):zwX m x g:=fun f' m' a0 r Q hs=>h f' m' a0 r Q (s.trans hs)
def zwY(f:M)(x:C)(g:Fld->Option (Bool)):Prop:=∀(f' m:M) (a0:Fld) (r:Bool) (Q:V->M->Prop),Sub f f'->Pre f' m->g a0=some r->(∀m',Ext m m'->Q (.c (.bool r)) m')->zmq prog tbl [.agg 9 [(.int .i64 a0.Crop),(.int .i64 a0.Value),(.int .i64 a0.Near),(.int .i64 a0.First.Lo),(.int .i64 a0.First.Hi),(.int .i64 a0.Second.Lo),(.int .i64 a0.Second.Hi),(.int .i64 a0.Umpire.Lo),(.int .i64 a0.Umpire.Hi)]] x m Q
theorem zwY.sub{f m:M}{x:C}{g:Fld->Option (Bool)}(h:zwY f x g)(s:Sub f m):zwY m x g:=fun f' m' a0 r Q hs=>h f' m' a0 r Q (s.trans hs)
theorem zwZ:KL prog 97 Clm:=zqH (n:=6) (ks:=[.int .i64,.int .i64,.int .i64,.int .i64,.int .i64,.int .i64]) (by kernel_rfl) (by kernel_rfl) (cs:=fun k=>[.int .i64 k.Crop,.int .i64 k.Value,.int .i64 k.Day.Lo,.int .i64 k.Day.Hi,.int .i64 k.Count.Lo,.int .i64 k.Count.Hi]) (fun _=>rfl) fun a b fa fb=>⟨_,_,(zqG (zqC fa.1 fb.1) (zqG (zqC fa.2.1 fb.2.1) (zqG (zqC fa.2.2.1 fb.2.2.1) (zqG (zqC fa.2.2.2.1 fb.2.2.2.1) (zqG (zqC fa.2.2.2.2.1 fb.2.2.2.2.1) (zqG (zqC fa.2.2.2.2.2.1 fb.2.2.2.2.2.1) zqF)))))),⟨fun h=>by obtain⟨aCrop,aValue,⟨aDayLo,aDayHi⟩,⟨aCountLo,aCountHi⟩⟩:=a; obtain⟨bCrop,bValue,⟨bDayLo,bDayHi⟩,⟨bCountLo,bCountHi⟩⟩:=b; simp_all,fun h=>by subst h; exact⟨rfl,rfl,rfl,rfl,rfl,rfl,trivial⟩⟩⟩
theorem zw0:KL prog 158 Oc:=zqH (n:=2) (ks:=[.int .i64,.int .i64]) (by kernel_rfl) (by kernel_rfl) (cs:=fun k=>[.int .i64 k.pence,.int .i64 k.loser]) (fun _=>rfl) fun a b fa fb=>⟨_,_,(zqG (zqC fa.1 fb.1) (zqG (zqC fa.2.1 fb.2.1) zqF)),⟨fun h=>by obtain⟨apence,aloser⟩:=a; obtain⟨bpence,bloser⟩:=b; simp_all,fun h=>by subst h; exact⟨rfl,rfl,trivial⟩⟩⟩
theorem zw1:KL prog 183 Ht:=zqH (n:=3) (ks:=[.int .i64,.int .i64,.int .i64]) (by kernel_rfl) (by kernel_rfl) (cs:=fun k=>[.int .i64 k.Day,.int .i64 k.Count,.int .i64 k.crop]) (fun _=>rfl) fun a b fa fb=>⟨_,_,(zqG (zqC fa.1 fb.1) (zqG (zqC fa.2.1 fb.2.1) (zqG (zqC fa.2.2.1 fb.2.2.1) zqF))),⟨fun h=>by obtain⟨aDay,aCount,acrop⟩:=a; obtain⟨bDay,bCount,bcrop⟩:=b; simp_all,fun h=>by subst h; exact⟨rfl,rfl,rfl,trivial⟩⟩⟩
theorem zw2:zbb prog 125=some (List.replicate 101 .bool)/\za9 prog 125=true:=⟨by kernel_rfl,by kernel_rfl⟩
theorem zw3:TA prog 26 3:=⟨86,by kernel_rfl,by kernel_rfl,by kernel_rfl⟩
theorem zw4:TA prog 29 1:=⟨3,by kernel_rfl,by kernel_rfl,by kernel_rfl⟩
theorem zw5:TA prog 35 6:=⟨80,by kernel_rfl,by kernel_rfl,by kernel_rfl⟩
theorem zw6:TA prog 36 9:=⟨76,by kernel_rfl,by kernel_rfl,by kernel_rfl⟩
theorem zw7:TA prog 78 1:=⟨140,by kernel_rfl,by kernel_rfl,by kernel_rfl⟩
theorem zw8:TA prog 117 3:=⟨119,by kernel_rfl,by kernel_rfl,by kernel_rfl⟩
theorem zw9:TA prog 140 1:=⟨29,by kernel_rfl,by kernel_rfl,by kernel_rfl⟩
theorem zxa{n:Int}{low:Int}{high:Int}{m f:M}{Q:V->M->Prop}{rz:Bool}(hS:Pre f m)(hp:zrP n low high=some rz)(hq:∀m',Ext m m'->Q (.c (.bool rz)) m'):Wc prog tbl 48 [.c (Il n),.c (Il low),.c (Il high)] m Q:=by
 have b:=hS.st;obtain⟨d,_⟩:=zrD;refine w48 ?_;unfold zrP at hp;refine ifd hp (fun a hp=>?_) fun a hp=>?_
 ·obtain rfl:=oi hp;exact hq _ b.ext'
 obtain rfl:=oi hp;exact hq _ b.ext'
theorem zxb{l:List Int}{most:Int}{ca100:C}{m f:M}{Q:V->M->Prop}{rz:Bool}(hS:Pre f m)(ha100:Sl f ca100 l)(hp:zrQ l most=some rz)(hq:∀m',Ext m m'->Q (.c (.bool rz)) m'):Wc prog tbl 143 [.c ca100,.c (Il most)] m Q:=by
 have S0:=hS.st;obtain⟨τ0,_⟩:=zrD;refine zwo ?_;unfold zrQ at hp;intro R0 Y
 have hgo:∀(e:Nat) (A:Bool) (t:Int) (u:M) (d:Nat->Nat),St (Fm.of m) f f u->prRises_L0 l most e t=some rz->R0 [.c (.bool A),.c (Il t)] u:=by
  intro e
  induction e with
  | zero=>intro A t u d a hp; cases hp
  | succ e s=>
   intro A t u d a hp;refine Y _ _ _ ?_;rw[prRises_L0] at hp;refine⟨ha100.isSl,?_⟩
   try rw[ha100.slLen]
   refine ifd hp (fun B hp=>?_) fun B hp=>?_; rotate_left
   ·refine⟨ha100.isSl,?_⟩
    try rw[ha100.slLen]
    refine ifd hp (fun D hp=>?_) fun D hp=>?_; rotate_left
    ·obtain rfl:=oi hp;exact hq _ a.ext'
    obtain⟨ea,g,hp⟩:=zqd hp;obtain⟨Z,w,o,g⟩:=zp7 g;refine⟨Z,w,(by first|exact o|(rw[ha100.slLen];exact o)),_,(ha100.rdI g a.sub),?_⟩;obtain rfl:=oi hp;exact hq _ a.ext'
   obtain⟨F,h,hp⟩:=zqd hp;obtain⟨n4,x,p,h⟩:=zp7 h;refine⟨n4,x,(by first|exact p|(rw[ha100.slLen];exact p)),_,(ha100.rdI h a.sub),?_⟩;obtain⟨ga,G,hp⟩:=zqd hp;refine zxa (n:=F) (low:=(0:Int)) (high:=most) a.pre  G fun m7 I=>?_;obtain⟨b,ha⟩:=a.call I d;refine⟨_,rfl,?_⟩;refine zqT hp (fun J hp=>?_) fun J hp=>?_
   ·obtain rfl:=oi hp;exact hq _ b.ext'
   refine ifd hp (fun N hp=>?_) fun N hp=>?_; rotate_left
   ·refine gdi hp fun O hp=>?_;exact s _ _ _ d b hp
   obtain⟨ia,i,hp⟩:=zqd hp;obtain⟨n9,y,q,i⟩:=zp7 i;refine⟨n9,y,(by first|exact q|(rw[ha100.slLen];exact q)),_,(ha100.rdI i b.sub),?_⟩;refine gdi hp fun P hp=>?_;obtain⟨ka,j,hp⟩:=zqd hp;obtain⟨aa,z,r,j⟩:=zp7 j;refine⟨aa,z,(by first|exact r|(rw[ha100.slLen];exact r)),_,(ha100.rdI j b.sub),?_⟩;refine ifd hp (fun S hp=>?_) fun S hp=>?_
   ·obtain rfl:=oi hp;exact hq _ b.ext'
   refine gdi hp fun T hp=>?_;exact s _ _ _ d b hp
 exact hgo _ _ _ _ τ0 S0 hp
theorem zxc{t:Tf}{ca103 ca104 ca105:C}{m f:M}{Q:V->M->Prop}{rz:Bool}(hS:Pre f m)(ha103:Sl f ca103 t.Weeks)(ha104:Sl f ca104 t.Counts)(ha105:Sl f ca105 t.Rates)(hp:zrU t=some rz)(hq:∀m',Ext m m'->Q (.c (.bool rz)) m'):Wc prog tbl 113 [.agg 6 [Il t.From,.bool t.Whole,Il t.Least,ca103,ca104,ca105]] m Q:=by
 have S0:=hS.st;obtain⟨τ0,_⟩:=zrD;refine zwi ?_;unfold zrU at hp;intro m0 Ga;obtain⟨h,ha,Jb,ia⟩:=S0.blk Ga τ0 1;refine⟨trivial,_,ia.bk.rc rfl,?_⟩;obtain⟨Kb,Ha,hp⟩:=zqd hp;refine zxa (n:=t.From) (low:=(0:Int)) (high:=(120:Int)) ha.pre  Ha fun m3 Ia=>?_;obtain⟨z,Ja⟩:=ha.call Ia h;have ja:=ia.k Ja;refine⟨_,rfl,?_⟩;refine zqT hp (fun Ka hp=>?_) fun Ka hp=>?_
 ·obtain rfl:=oi hp;exact hq _ z.ext'
 refine⟨trivial,_,ja.bk.rc rfl,?_⟩;obtain⟨Mb,La,hp⟩:=zqd hp;refine zxa (n:=t.Least) (low:=(0:Int)) (high:=(100:Int)) z.pre  La fun m7 Ma=>?_;obtain⟨A,Na⟩:=z.call Ma h;have ka:=ja.k Na;refine⟨_,rfl,?_⟩;refine zqT hp (fun Oa hp=>?_) fun Oa hp=>?_
 ·obtain rfl:=oi hp;exact hq _ A.ext'
 refine⟨trivial,_,ka.bk.rc rfl,?_⟩;obtain⟨Nb,Pa,hp⟩:=zqd hp;refine zxb (l:=t.Weeks) (most:=(120:Int)) A.pre ha103 Pa fun bc Qa=>?_;obtain⟨B,Ra⟩:=A.call Qa h;have la:=ka.k Ra;refine⟨_,rfl,?_⟩;refine zqT hp (fun Sa hp=>?_) fun Sa hp=>?_
 ·obtain rfl:=oi hp;exact hq _ B.ext'
 refine⟨trivial,_,la.bk.rc rfl,?_⟩;obtain⟨Ob,Ta,hp⟩:=zqd hp;refine zxb (l:=t.Counts) (most:=(100:Int)) B.pre ha104 Ta fun cc Ua=>?_;obtain⟨i,Va⟩:=B.call Ua h;have a:=la.k Va;refine⟨_,rfl,?_⟩;refine zqT hp (fun Wa hp=>?_) fun Wa hp=>?_
 ·obtain rfl:=oi hp;exact hq _ i.ext'
 refine⟨trivial,_,a.bk.rc rfl,trivial,_,a.bk.rc rfl,ha104.isSl,?_⟩;obtain⟨ma,hp⟩:=zqe hp;refine⟨(by first|exact ma|(rw[ha104.slLen];exact ma)),?_⟩;obtain⟨Pb,D,hp⟩:=zqd hp;obtain⟨xb,P,S,D⟩:=zp7 D;refine⟨xb,(by first|exact P|(rw[ha104.slLen];exact P)),(by first|exact S|(rw[ha104.slLen];exact S)),_,(ha104.rdI D i.sub),?_⟩;refine zqR hp (fun Xa hp=>?_) fun Xa hp=>?_
 ·obtain rfl:=oi hp;exact hq _ i.ext'
 refine⟨trivial,_,a.bk.rc rfl,ha105.isSl,?_⟩
 try rw[ha105.slLen]
 refine ifd hp (fun Ya hp=>?_) fun Ya hp=>?_
 ·obtain rfl:=oi hp;exact hq _ i.ext'
 intro yb Za
 have hgo:∀(d:Nat) (T:Bool) (na:Bool) (oa:Bool) (j:Int) (u:M) (r:Nat->Nat),St (Fm.of m) f f u->Lb (Fm.of m) f r u 1 m.nxt 6 [Il t.From,.bool t.Whole,Il t.Least,ca103,ca104,ca105]->zrT t d T j=some rz->yb [.c (.bool T),.c (.bool na),.c (.bool oa),.c (Il j)] u:=by
  intro d
  induction d with
  | zero=>intro T na oa j u r o a hp; cases hp
  | succ d xa=>
   intro T na oa j u r o a hp;refine Za _ _ _ _ _ ?_;rw[zrT] at hp;refine⟨trivial,_,a.bk.rc rfl,ha105.isSl,?_⟩
   try rw[ha105.slLen]
   refine ifd hp (fun ab hp=>?_) fun ab hp=>?_; rotate_left
   ·obtain rfl:=oi hp;exact hq _ o.ext'
   refine⟨trivial,_,a.bk.rc rfl,?_⟩;obtain⟨Qb,F,hp⟩:=zqd hp;obtain⟨zb,ya,Y,F⟩:=zp7 F;obtain⟨Rb,bb,pa⟩:=ha105.rdS F;refine⟨zb,ya,(by first|exact Y|(rw[ha105.slLen];exact Y)),_,(bb _ o.sub),pa.isSl,trivial,_,a.bk.rc rfl,ha103.isSl,?_⟩
   try rw[pa.slLen]
   try rw[ha103.slLen]
   refine zqR hp (fun cb hp=>?_) fun cb hp=>?_
   ·obtain rfl:=oi hp;exact hq _ o.ext'
   intro Ab db
   have hgo:∀(p:Nat) (Z:Bool) (qa:Bool) (w:Int) (x:M) (q:Nat->Nat),St (Fm.of m) f f x->Lb (Fm.of m) f q x 1 m.nxt 6 [Il t.From,.bool t.Whole,Il t.Least,ca103,ca104,ca105]->zrS t j (zrT t d) p Z w=some rz->Ab [.c (.bool Z),.c (.bool qa),.c (Il w)] x:=by
    intro p
    induction p with
    | zero=>intro Z qa w x q e a hp; cases hp
    | succ p za=>
     intro Z qa w x q e a hp;refine db _ _ _ _ ?_;rw[zrS] at hp;refine⟨trivial,_,a.bk.rc rfl,ha103.isSl,?_⟩
     try rw[ha103.slLen]
     refine ifd hp (fun eb hp=>?_) fun eb hp=>?_; rotate_left
     ·refine gdi hp fun fb hp=>?_;exact xa _ _ _ _ _ q e a hp
     refine⟨trivial,_,a.bk.rc rfl,?_⟩;obtain⟨Sb,G,hp⟩:=zqd hp;obtain⟨Bb,Aa,aa,G⟩:=zp7 G;obtain⟨Tb,gb,sa⟩:=ha105.rdS G;refine⟨Bb,Aa,(by first|exact aa|(rw[ha105.slLen];exact aa)),_,(gb _ e.sub),?_⟩;obtain⟨Ub,I,hp⟩:=zqd hp;obtain⟨Cb,Ba,ba,I⟩:=zp7 I;obtain⟨Vb,hb,ta⟩:=sa.rdS I;refine⟨Cb,Ba,(by first|exact ba|(rw[sa.slLen];exact ba)),_,(hb _ e.sub),ta.isSl,trivial,_,a.bk.rc rfl,ha104.isSl,?_⟩
     try rw[ta.slLen]
     try rw[ha104.slLen]
     refine zqR hp (fun ib hp=>?_) fun ib hp=>?_
     ·obtain rfl:=oi hp;exact hq _ e.ext'
     intro Db jb
     have hgo:∀(s:Nat) (ca:Bool) (da:Int) (y:M) (g:Nat->Nat),St (Fm.of m) f f y->Lb (Fm.of m) f g y 1 m.nxt 6 [Il t.From,.bool t.Whole,Il t.Least,ca103,ca104,ca105]->zrR t j w (zrS t j (zrT t d) p) s ca da=some rz->Db [.c (.bool ca),.c (Il da)] y:=by
      intro s
      induction s with
      | zero=>intro ca da y g b a hp; cases hp
      | succ s Ca=>
       intro ca da y g b a hp;refine jb _ _ _ ?_;rw[zrR] at hp;refine⟨trivial,_,a.bk.rc rfl,ha104.isSl,?_⟩
       try rw[ha104.slLen]
       refine ifd hp (fun kb hp=>?_) fun kb hp=>?_; rotate_left
       ·refine gdi hp fun mb hp=>?_;exact za _ _ _ _ g b a hp
       refine⟨trivial,_,a.bk.rc rfl,?_⟩;obtain⟨Wb,J,hp⟩:=zqd hp;obtain⟨Eb,Da,ea,J⟩:=zp7 J;obtain⟨Xb,ob,ua⟩:=ha105.rdS J;refine⟨Eb,Da,(by first|exact ea|(rw[ha105.slLen];exact ea)),_,(ob _ b.sub),?_⟩;obtain⟨Yb,N,hp⟩:=zqd hp;obtain⟨Fb,Ea,fa,N⟩:=zp7 N;obtain⟨Zb,pb,va⟩:=ua.rdS N;refine⟨Fb,Ea,(by first|exact fa|(rw[ua.slLen];exact fa)),_,(pb _ b.sub),?_⟩;obtain⟨qb,O,hp⟩:=zqd hp;obtain⟨Gb,Fa,ga,O⟩:=zp7 O;refine⟨Gb,Fa,(by first|exact ga|(rw[va.slLen];exact ga)),_,(va.rdI O b.sub),?_⟩;obtain⟨ac,rb,hp⟩:=zqd hp;refine zxa (n:=qb) (low:=(0:Int)) (high:=(100:Int)) b.pre  rb fun dc sb=>?_;obtain⟨wa,tb⟩:=b.call sb g;have ub:=a.k tb;refine⟨_,rfl,?_⟩;refine zqT hp (fun vb hp=>?_) fun vb hp=>?_
       ·obtain rfl:=oi hp;exact hq _ wa.ext'
       refine gdi hp fun wb hp=>?_;exact Ca _ _ _ g wa ub hp
     exact hgo _ _ _ _ q e a hp
   exact hgo _ _ _ _ _ r o a hp
 exact hgo _ _ _ _ _ _ h i a hp
theorem zxd{l:List Tf}{ca100:C}{m f:M}{Q:V->M->Prop}{rz:Int}(hS:Pre f m)(ha100:Sl f ca100 l)(hp:zrX l=some rz)(hq:∀m',Ext m m'->Q (.c (Il rz)) m'):Wc prog tbl 88 [.c ca100] m Q:=by
 have S0:=hS.st;obtain⟨τ0,_⟩:=zrD;refine w88 ?_;unfold zrX at hp;refine⟨ha100.isSl,?_⟩
 try rw[ha100.slLen]
 refine ifd hp (fun ua hp=>?_) fun ua hp=>?_
 ·obtain rfl:=oi hp;exact hq _ S0.ext'
 intro R0 kb
 have hgo:∀(h:Nat) (x1:Int) (x2:Int) (m3:M) (i:Nat->Nat),St (Fm.of m) f f m3->zrW l h x1 x2=some rz->R0 [.c (Il x1),.c (Il x2)] m3:=by
  intro h
  induction h with
  | zero=>intro x1 x2 m3 i b hp; cases hp
  | succ h va=>
   intro x1 x2 m3 i b hp;refine kb _ _ _ ?_;rw[zrW] at hp;refine⟨ha100.isSl,?_⟩
   try rw[ha100.slLen]
   refine ifd hp (fun wa hp=>?_) fun wa hp=>?_
   ·obtain⟨yb,j,hp⟩:=zqd hp;obtain⟨n4,ia,A,j⟩:=zp7 j;obtain⟨Ab,Bb,Cb,xa,Z,Db,Eb⟩:=zrH ha100 j;refine⟨n4,ia,(by first|exact A|(rw[ha100.slLen];exact A)),(ha100.isPt j _),_,((xa _ b.sub).2.1 3 _ rfl),Z.isSl,?_⟩
    try rw[Z.slLen]
    refine ifd hp (fun ya hp=>?_) fun ya hp=>?_
    ·obtain rfl:=oi hp;exact hq _ b.ext'
    obtain⟨Fb,n,hp⟩:=zqd hp;obtain⟨n6,ja,B,n⟩:=zp7 n;obtain⟨Hb,Ib,Jb,za,Kb,aa,Mb⟩:=zrH ha100 n;refine⟨n6,ja,(by first|exact B|(rw[ha100.slLen];exact B)),(ha100.isPt n _),_,((za _ b.sub).2.1 4 _ rfl),aa.isSl,?_⟩
    try rw[aa.slLen]
    refine ifd hp (fun Aa hp=>?_) fun Aa hp=>?_
    ·obtain rfl:=oi hp;exact hq _ b.ext'
    obtain⟨Nb,o,hp⟩:=zqd hp;obtain⟨n8,ka,D,o⟩:=zp7 o;obtain⟨Pb,Qb,Rb,Ba,Sb,Tb,ba⟩:=zrH ha100 o;refine⟨n8,ka,(by first|exact D|(rw[ha100.slLen];exact D)),(ha100.isPt o _),_,((Ba _ b.sub).2.1 5 _ rfl),ba.isSl,?_⟩
    try rw[ba.slLen]
    refine ifd hp (fun Ca hp=>?_) fun Ca hp=>?_
    ·obtain rfl:=oi hp;exact hq _ b.ext'
    refine gdi hp fun Da hp=>?_;exact va _ _ _ i b hp
   intro mb Ea
   have hgo:∀(p:Nat) (ca:Int) (F:Int) (G:M) (d:Nat->Nat),St (Fm.of m) f f G->zrV l p F=some rz->mb [.c (Il ca),.c (Il F)] G:=by
    intro p
    induction p with
    | zero=>intro ca F G d e hp; cases hp
    | succ p g=>
     intro ca F G d e hp;refine Ea _ _ _ ?_;rw[zrV] at hp;refine⟨ha100.isSl,?_⟩
     try rw[ha100.slLen]
     refine ifd hp (fun Fa hp=>?_) fun Fa hp=>?_; rotate_left
     ·refine⟨ha100.isSl,?_⟩
      try rw[ha100.slLen]
      refine ifd hp (fun Ga hp=>?_) fun Ga hp=>?_
      ·obtain rfl:=oi hp;exact hq _ e.ext'
      obtain rfl:=oi hp;exact hq _ e.ext'
     obtain⟨Ha,z,hp⟩:=zqd hp;obtain⟨ob,la,I,z⟩:=zp7 z;obtain⟨Ub,Vb,Wb,Ia,Ja,Ka,La⟩:=zrH ha100 z;refine⟨ob,la,(by first|exact I|(rw[ha100.slLen];exact I)),_,_,_,_,_,_,(Ia _ e.sub).1,?_⟩;obtain⟨Xb,Ma,hp⟩:=zqd hp;refine zxc (t:=Ha) e.pre Ja Ka La Ma fun ad Na=>?_;obtain⟨a,Yb⟩:=e.call Na d;refine⟨_,rfl,?_⟩;refine zqT hp (fun Oa hp=>?_) fun Oa hp=>?_
     ·obtain rfl:=oi hp;exact hq _ a.ext'
     obtain⟨Zb,q,hp⟩:=zqd hp;obtain⟨pb,ma,J,q⟩:=zp7 q;obtain⟨ac,bc,cc,Pa,dc,ec,da⟩:=zrH ha100 q;refine⟨pb,ma,(by first|exact J|(rw[ha100.slLen];exact J)),(ha100.isPt q _),_,((Pa _ a.sub).2.1 5 _ rfl),da.isSl,?_⟩;obtain⟨fc,r,hp⟩:=zqd hp;obtain⟨qb,na,N,r⟩:=zp7 r;obtain⟨gc,hc,ic,Qa,jc,kc,ea⟩:=zrH ha100 r;refine⟨qb,na,(by first|exact N|(rw[ha100.slLen];exact N)),(ha100.isPt r _),_,((Qa _ a.sub).2.1 5 _ rfl),ea.isSl,?_⟩
     try rw[da.slLen]
     try rw[ea.slLen]
     refine zqR hp (fun Ra hp=>?_) fun Ra hp=>?_
     ·obtain rfl:=oi hp;exact hq _ a.ext'
     refine ifd hp (fun Sa hp=>?_) fun Sa hp=>?_; rotate_left
     ·refine ifd hp (fun Ta hp=>?_) fun Ta hp=>?_; rotate_left
      ·refine gdi hp fun Ua hp=>?_;exact g _ _ _ d a hp
      obtain⟨lc,s,hp⟩:=zqd hp;obtain⟨rb,oa,O,s⟩:=zp7 s;obtain⟨nc,oc,pc,Va,qc,sc,tc⟩:=zrH ha100 s;refine⟨rb,oa,(by first|exact O|(rw[ha100.slLen];exact O)),(ha100.isPt s _),_,((Va _ a.sub).2.1 0 _ rfl),?_⟩;refine gdi hp fun Wa hp=>?_;obtain⟨uc,u,hp⟩:=zqd hp;obtain⟨sb,pa,P,u⟩:=zp7 u;obtain⟨vc,wc,xc,Xa,yc,zc,Ac⟩:=zrH ha100 u;refine⟨sb,pa,(by first|exact P|(rw[ha100.slLen];exact P)),(ha100.isPt u _),_,((Xa _ a.sub).2.1 0 _ rfl),?_⟩;refine ifd hp (fun Ya hp=>?_) fun Ya hp=>?_
      ·obtain rfl:=oi hp;exact hq _ a.ext'
      refine gdi hp fun Za hp=>?_;exact g _ _ _ d a hp
     obtain⟨Bc,w,hp⟩:=zqd hp;obtain⟨tb,qa,S,w⟩:=zp7 w;obtain⟨Cc,Dc,Ec,ab,Fc,Gc,Hc⟩:=zrH ha100 w;refine⟨tb,qa,(by first|exact S|(rw[ha100.slLen];exact S)),(ha100.isPt w _),_,((ab _ a.sub).2.1 0 _ rfl),?_⟩;refine zqR hp (fun bb hp=>?_) fun bb hp=>?_
     ·obtain rfl:=oi hp;exact hq _ a.ext'
     refine ifd hp (fun cb hp=>?_) fun cb hp=>?_; rotate_left
     ·refine gdi hp fun db hp=>?_;exact g _ _ _ d a hp
     obtain⟨Ic,x,hp⟩:=zqd hp;obtain⟨ub,sa,T,x⟩:=zp7 x;obtain⟨Jc,Kc,Lc,eb,Nc,Pc,Qc⟩:=zrH ha100 x;refine⟨ub,sa,(by first|exact T|(rw[ha100.slLen];exact T)),(ha100.isPt x _),_,((eb _ a.sub).2.1 0 _ rfl),?_⟩;refine gdi hp fun fb hp=>?_;obtain⟨Rc,y,hp⟩:=zqd hp;obtain⟨vb,ta,Y,y⟩:=zp7 y;obtain⟨Tc,Uc,Vc,gb,Xc,Yc,Zc⟩:=zrH ha100 y;refine⟨vb,ta,(by first|exact Y|(rw[ha100.slLen];exact Y)),(ha100.isPt y _),_,((gb _ a.sub).2.1 0 _ rfl),?_⟩;refine ifd hp (fun hb hp=>?_) fun hb hp=>?_
     ·obtain rfl:=oi hp;exact hq _ a.ext'
     refine gdi hp fun ib hp=>?_;exact g _ _ _ d a hp
   exact hgo _ _ _ _ i b hp
 exact hgo _ _ _ _ τ0 S0 hp
theorem zxe{l:List Int}{n:Int}{ca100:C}{m f:M}{Q:V->M->Prop}{rz:Int}(hS:Pre f m)(ha100:Sl f ca100 l)(hp:zrZ l n=some rz)(hq:∀m',Ext m m'->Q (.c (Il rz)) m'):Wc prog tbl 171 [.c ca100,.c (Il n)] m Q:=by
 have w:=hS.st;obtain⟨x,_⟩:=zrD;refine zwu ?_;unfold zrZ at hp;intro y u
 have hgo:∀(b:Nat) (h:Int) (i:M) (d:Nat->Nat),St (Fm.of m) f f i->zrY l n b h=some rz->y [.c (Il h)] i:=by
  intro b
  induction b with
  | zero=>intro h i d a hp; cases hp
  | succ b o=>
   intro h i d a hp;refine u _ _ ?_;rw[zrY] at hp;obtain⟨p,hp⟩:=zqe hp;refine⟨p,ha100.isSl,?_⟩
   try rw[ha100.slLen]
   refine ifd hp (fun q hp=>?_) fun q hp=>?_; rotate_left
   ·obtain rfl:=oi hp;exact hq _ a.ext'
   refine gdi hp fun r hp=>?_;obtain⟨z,e,hp⟩:=zqd hp;obtain⟨A,j,g,e⟩:=zp7 e;refine⟨A,j,(by first|exact g|(rw[ha100.slLen];exact g)),_,(ha100.rdI e a.sub),?_⟩;refine ifd hp (fun s hp=>?_) fun s hp=>?_; rotate_left
   ·obtain rfl:=oi hp;exact hq _ a.ext'
   refine gdi hp fun t hp=>?_;exact o _ _ d a hp
 exact hgo _ _ _ x w hp
theorem zxf{l:List Tf}{day:Int}{ca100:C}{m f:M}{Q:V->M->Prop}{rz:Tf}(hS:Pre f m)(ha100:Sl f ca100 l)(hp:zr1 l day=some rz)(hq:∀m' f' c3 c4 c5,Grw m f m' f'->Sl f' c3 rz.Weeks->Sl f' c4 rz.Counts->Sl f' c5 rz.Rates->Q (.agg 6 [Il rz.From,.bool rz.Whole,Il rz.Least,c3,c4,c5]) m'):Wc prog tbl 155 [.c ca100,.c (Il day)] m Q:=by
 have S0:=hS.st;obtain⟨τ0,_⟩:=zrD;refine zvQ ?_;unfold zr1 at hp;intro m0 I;obtain⟨J,N,Ca,b⟩:=S0.blk I τ0 1;intro R1 ya
 have hgo:∀(h:Nat) (B:C) (D:Int) (d:List Int) (t:M) (e:Nat->Nat),St (Fm.of m) f f t->Lb (Fm.of m) f e t 1 m.nxt 6 [Il 0,.bool false,Il 0,.sl0,.sl0,.sl0]->Ow (Fm.of m) f e t 2 B d->zr0 l day h d D=some rz->R1 [.c B,.c (Il D)] t:=by
  intro h
  induction h with
  | zero=>intro B D d t e i b o hp; cases hp
  | succ h O=>
   intro B D d t e i b o hp;refine ya _ _ _ ?_;rw[zr0] at hp;refine⟨ha100.isSl,?_⟩
   try rw[ha100.slLen]
   refine ifd hp (fun P hp=>?_) fun P hp=>?_
   ·obtain⟨u,j,hp⟩:=zqd hp;obtain⟨n5,F,r,j⟩:=zp7 j;obtain⟨Fa,Ga,Ha,S,Ia,Ja,Ka⟩:=zrH ha100 j;refine⟨n5,F,(by first|exact r|(rw[ha100.slLen];exact r)),(ha100.isPt j _),_,((S _ i.sub).2.1 0 _ rfl),?_⟩;obtain⟨T,hp⟩:=zqe hp;intro m7 Y;obtain⟨Z,aa,ba,ca,da,ea,fa⟩:=o.app' zw4 i (a:=u.From) (show Rp.rep (α:=Int) f _ u.From from rfl) T Y;have ga:=b.k ea;refine⟨Z,aa,ca,?_⟩;refine gdi hp fun ha hp=>?_;exact O _ _ _ _ ba da ga fa hp
   obtain⟨ia,w,g,ja⟩:=o.freeze i;have ka:=b.k g;obtain⟨La,la,hp⟩:=zqd hp;refine zxe (l:=d) (n:=day) w.pre ja la fun Na ma=>?_;obtain⟨x,na⟩:=w.call ma e;have oa:=ka.k na;refine⟨_,rfl,?_⟩;obtain⟨p,q,hp⟩:=zqd hp;obtain⟨za,G,s,q⟩:=zp7 q;obtain⟨y,z,A,pa,qa,sa,ta⟩:=zrH ha100 q;refine⟨za,G,(by first|exact s|(rw[ha100.slLen];exact s)),_,_,_,_,_,_,(pa _ (Sub.trans g.fs x.sub)).1,?_⟩;obtain⟨ua,va,wa,Ma,xa⟩:=oa.sto x [Il p.From,.bool p.Whole,Il p.Least,y,z,A];refine⟨ua,va,?_⟩;refine⟨_,_,_,_,_,_,xa.bk.ra,?_⟩;obtain rfl:=oi hp;exact hq _ ia y z A wa.grw (qa.sub g.fs) (sa.sub g.fs) (ta.sub g.fs)
 exact hgo _ _ _ _ _ J N b (Ow.nil _ _ _ _ _) hp
theorem zxg{t:Tf}{crop:Int}{day:Int}{count:Int}{ca103 ca104 ca105:C}{m f:M}{Q:V->M->Prop}{rz:Int}(hS:Pre f m)(ha103:Sl f ca103 t.Weeks)(ha104:Sl f ca104 t.Counts)(ha105:Sl f ca105 t.Rates)(hp:zr2 t crop day count=some rz)(hq:∀m',Ext m m'->Q (.c (Il rz)) m'):Wc prog tbl 156 [.agg 6 [Il t.From,.bool t.Whole,Il t.Least,ca103,ca104,ca105],.c (Il crop),.c (Il day),.c (Il count)] m Q:=by
 have S0:=hS.st;obtain⟨τ0,_⟩:=zrD;refine zv8 ?_;unfold zr2 at hp;intro m0 Z;obtain⟨F,e,Fa,g⟩:=S0.blk Z τ0 1;refine⟨trivial,_,g.bk.rc rfl,?_⟩;obtain⟨Ga,h,hp⟩:=zqd hp;obtain⟨n2,J,w,h⟩:=zp7 h;obtain⟨Ia,G,i⟩:=ha105.rdS h;refine⟨n2,J,(by first|exact w|(rw[ha105.slLen];exact w)),_,(G _ e.sub),trivial,_,g.bk.rc rfl,?_⟩;obtain⟨Ja,aa,hp⟩:=zqd hp;refine zxe (l:=t.Weeks) (n:=day) e.pre ha103 aa fun m6 ba=>?_;obtain⟨d,ca⟩:=e.call ba F;have j:=g.k ca;refine⟨_,rfl,(by rw[show cmC _=true from zoM (i.noFn)]; exact(G _ d.sub)),(by rw[show cmC _=true from zoM (ha105.noFn)]; exact(j.bk.rc rfl)),?_⟩;obtain⟨Ka,o,hp⟩:=zqd hp;obtain⟨n8,N,x,o⟩:=zp7 o;obtain⟨Ma,da,b⟩:=i.rdS o;refine⟨n8,N,(by first|exact x|(rw[i.slLen];exact x)),_,(da _ d.sub),trivial,_,j.bk.rc rfl,?_⟩;obtain⟨Na,ea,hp⟩:=zqd hp;refine zxe (l:=t.Counts) (n:=count) d.pre ha104 ea fun Ta fa=>?_;obtain⟨a,ga⟩:=d.call fa F;have I:=j.k ga;refine⟨_,rfl,trivial,_,I.bk.rc rfl,?_⟩;obtain⟨Oa,p,hp⟩:=zqd hp;obtain⟨ya,O,y,p⟩:=zp7 p;refine⟨ya,O,(by first|exact y|(rw[ha104.slLen];exact y)),_,(ha104.rdI p a.sub),?_⟩;refine ifd hp (fun ha hp=>?_) fun ha hp=>?_
 ·obtain⟨Pa,q,hp⟩:=zqd hp;obtain⟨za,P,z,q⟩:=zp7 q;refine⟨za,P,(by first|exact z|(rw[b.slLen];exact z)),_,(b.rdI q a.sub),?_⟩;obtain rfl:=oi hp;exact hq _ a.ext'
 refine⟨trivial,_,I.bk.rc rfl,?_⟩;refine gdi hp fun ia hp=>?_;obtain⟨Qa,r,hp⟩:=zqd hp;obtain⟨Aa,S,A,r⟩:=zp7 r;refine⟨Aa,S,(by first|exact A|(rw[ha104.slLen];exact A)),_,(ha104.rdI r a.sub),?_⟩;obtain⟨Ra,s,hp⟩:=zqd hp;obtain⟨Ba,T,B,s⟩:=zp7 s;refine⟨Ba,T,(by first|exact B|(rw[b.slLen];exact B)),_,(b.rdI s a.sub),?_⟩;refine gdi hp fun ja hp=>?_;refine gdi hp fun ka hp=>?_;refine gdi hp fun la hp=>?_;refine gdi hp fun ma hp=>?_;refine gdi hp fun na hp=>?_;obtain⟨Sa,u,hp⟩:=zqd hp;obtain⟨Ca,Y,D,u⟩:=zp7 u;refine⟨Ca,Y,(by first|exact D|(rw[b.slLen];exact D)),_,(b.rdI u a.sub),?_⟩;refine gdi hp fun oa hp=>?_;refine gdi hp fun pa hp=>?_;refine gdi hp fun qa hp=>?_;refine gdi hp fun sa hp=>?_;refine gdi hp fun ta hp=>?_;refine gdi hp fun ua hp=>?_;refine gdi hp fun va hp=>?_;refine gdi hp fun wa hp=>?_;refine gdi hp fun xa hp=>?_;obtain rfl:=oi hp;exact hq _ a.ext'
theorem zxh{l:List Tf}{crop:Int}{day:Int}{count:Int}{ca100:C}{m f:M}{Q:V->M->Prop}{rz:Int}(hS:Pre f m)(ha100:Sl f ca100 l)(hp:zr3 l crop day count=some rz)(hq:∀m',Ext m m'->Q (.c (Il rz)) m'):Wc prog tbl 127 [.c ca100,.c (Il crop),.c (Il day),.c (Il count)] m Q:=by
 have N:=hS.st;obtain⟨O,_⟩:=zrD;refine zwD ?_;unfold zr3 at hp;obtain⟨a,h,hp⟩:=zqd hp;refine zxf (l:=l) (day:=day) N.pre ha100 h fun m1 P i j n o p q r=>?_;obtain⟨s,S⟩:=N.callG o O;refine⟨_,_,_,_,_,_,rfl,?_⟩;intro m8 u;obtain⟨w,x,T,y⟩:=s.blk u O 1;obtain⟨z,A,e,Y,g⟩:=y.sto x [Il a.From,.bool a.Whole,Il a.Least,i,j,n];refine⟨z,A,?_⟩;refine⟨_,_,_,_,_,_,g.bk.ra,?_⟩;obtain⟨Z,B,hp⟩:=zqd hp;refine zxg (t:=a) (crop:=crop) (day:=day) (count:=count) e.pre p q r B fun aa D=>?_;obtain⟨b,F⟩:=e.call D w;have d:=g.k F;refine⟨_,rfl,trivial,_,d.bk.rc rfl,?_⟩;refine ifd hp (fun G hp=>?_) fun G hp=>?_
 ·obtain rfl:=oi hp;exact hq _ b.ext'
 refine⟨trivial,_,d.bk.rc rfl,?_⟩;refine zqS hp (fun I hp=>?_) fun I hp=>?_
 ·obtain rfl:=oi hp;exact hq _ b.ext'
 refine⟨trivial,_,d.bk.rc rfl,?_⟩;refine gdi hp fun J hp=>?_;obtain rfl:=oi hp;exact hq _ b.ext'
theorem zxi{l:List Tf}{ca100:C}{m f:M}{Q:V->M->Prop}{rz:Int}(hS:Pre f m)(ha100:Sl f ca100 l)(hp:zr4 l=some rz)(hq:∀m',Ext m m'->Q (.c (Il rz)) m'):Wc prog tbl 89 [.c ca100] m Q:=by
 have h:=hS.st;obtain⟨s,_⟩:=zrD;refine w89 ?_;unfold zr4 at hp;obtain⟨i,a,hp⟩:=zqd hp;obtain⟨j,e,b,a⟩:=zp7 a;obtain⟨n,o,p,g,q,r,d⟩:=zrH ha100 a;refine⟨j,e,(by first|exact b|(rw[ha100.slLen];exact b)),(ha100.isPt a _),_,((g _ h.sub).2.1 5 _ rfl),d.isSl,?_⟩
 try rw[d.slLen]
 obtain rfl:=oi hp;exact hq _ h.ext'
theorem zxj{a:List Int}{b:List Int}{ca100 ca200:C}{m f:M}{Q:V->M->Prop}{rz:Bool}(hS:Pre f m)(ha100:Sl f ca100 a)(ha200:Sl f ca200 b)(hp:zr6 a b=some rz)(hq:∀m',Ext m m'->Q (.c (.bool rz)) m'):Wc prog tbl 67 [.c ca100,.c ca200] m Q:=by
 have J:=hS.st;obtain⟨N,_⟩:=zrD;refine w67 ?_;unfold zr6 at hp;intro O G
 have hgo:∀(e:Nat) (y:Bool) (r:Int) (s:M) (g:Nat->Nat),St (Fm.of m) f f s->zr5 a b e r=some rz->O [.c (.bool y),.c (Il r)] s:=by
  intro e
  induction e with
  | zero=>intro y r s g d hp; cases hp
  | succ e z=>
   intro y r s g d hp;refine G _ _ _ ?_;rw[zr5] at hp;refine⟨ha100.isSl,?_⟩
   try rw[ha100.slLen]
   refine ifd hp (fun A hp=>?_) fun A hp=>?_; rotate_left
   ·refine⟨ha100.isSl,ha200.isSl,?_⟩
    try rw[ha100.slLen]
    try rw[ha200.slLen]
    obtain rfl:=oi hp;exact hq _ d.ext'
   refine⟨ha200.isSl,?_⟩
   try rw[ha200.slLen]
   refine ifd hp (fun B hp=>?_) fun B hp=>?_; rotate_left
   ·refine⟨ha100.isSl,ha200.isSl,?_⟩
    try rw[ha100.slLen]
    try rw[ha200.slLen]
    obtain rfl:=oi hp;exact hq _ d.ext'
   obtain⟨P,h,hp⟩:=zqd hp;obtain⟨S,t,n,h⟩:=zp7 h;refine⟨S,t,(by first|exact n|(rw[ha100.slLen];exact n)),_,(ha100.rdI h d.sub),?_⟩;obtain⟨T,i,hp⟩:=zqd hp;obtain⟨Y,u,o,i⟩:=zp7 i;refine⟨Y,u,(by first|exact o|(rw[ha200.slLen];exact o)),_,(ha200.rdI i d.sub),?_⟩;refine zqR hp (fun D hp=>?_) fun D hp=>?_; rotate_left
   ·refine gdi hp fun F hp=>?_;exact z _ _ _ g d hp
   obtain⟨Z,j,hp⟩:=zqd hp;obtain⟨n8,w,p,j⟩:=zp7 j;refine⟨n8,w,(by first|exact p|(rw[ha100.slLen];exact p)),_,(ha100.rdI j d.sub),?_⟩;obtain⟨ba,l,hp⟩:=zqd hp;obtain⟨I,x,q,l⟩:=zp7 l;refine⟨I,x,(by first|exact q|(rw[ha200.slLen];exact q)),_,(ha200.rdI l d.sub),?_⟩;obtain rfl:=oi hp;exact hq _ d.ext'
 exact hgo _ _ _ _ N J hp
theorem zxk{a:List Int}{b:List Int}{ca100 ca200:C}{m f:M}{Q:V->M->Prop}{rz:Bool}(hS:Pre f m)(ha100:Sl f ca100 a)(ha200:Sl f ca200 b)(hp:zr7 a b=some rz)(hq:∀m',Ext m m'->Q (.c (.bool rz)) m'):Wc prog tbl 30 [.c ca100,.c ca200] m Q:=by
 have e:=hS.st;obtain⟨p,_⟩:=zrD;refine w30 ?_;unfold zr7 at hp;refine⟨ha100.isSl,ha200.isSl,?_⟩
 try rw[ha100.slLen]
 try rw[ha200.slLen]
 refine ifd hp (fun g hp=>?_) fun g hp=>?_; rotate_left
 ·obtain rfl:=oi hp;exact hq _ e.ext'
 obtain⟨q,h,hp⟩:=zqd hp;refine zxj (a:=a) (b:=b) e.pre ha100 ha200 h fun u i=>?_;obtain⟨d,r⟩:=e.call i p;refine⟨_,rfl,?_⟩;refine zqT hp (fun j hp=>?_) fun j hp=>?_; rotate_left
 ·obtain rfl:=oi hp;exact hq _ d.ext'
 obtain⟨s,l,hp⟩:=zqd hp;refine zxj (a:=b) (b:=a) d.pre ha200 ha100 l fun w n=>?_;obtain⟨o,t⟩:=d.call n p;refine⟨_,rfl,?_⟩;obtain rfl:=oi hp;exact hq _ o.ext'
theorem zxl{l:List Int}{ca100:C}{m f:M}{Q:V->M->Prop}{rz:List Int}(hS:Pre f m)(ha100:Sl f ca100 l)(hp:zr8 l=some rz)(hq:∀m' f' c0,Grw m f m' f'->Sl f' c0 rz->Q (.c c0) m'):Wc prog tbl 83 [.c ca100] m Q:=by
 have r:=hS.st;obtain⟨s,_⟩:=zrD;refine w83 ?_;unfold zr8 at hp;intro z b;obtain⟨t,d,u,e⟩:=Ow.lit0 (α:=Int) r s 1 b;obtain⟨g,hp⟩:=zqe hp;obtain⟨a,h,w,i,j,x,n⟩:=e.appL zw4 d ha100 g;refine⟨a,h,i,?_⟩;obtain⟨o,p,y,q⟩:=n.freeze j;obtain rfl:=oi hp;exact hq _ o a p.grw q
theorem zxm{l:List Tf}{ca100:C}{m f:M}{Q:V->M->Prop}{rz:Bool}(hS:Pre f m)(ha100:Sl f ca100 l)(hp:zsc l=some rz)(hq:∀m',Ext m m'->Q (.c (.bool rz)) m'):Wc prog tbl 53 [.c ca100] m Q:=by
 have S0:=hS.st;obtain⟨τ0,_⟩:=zrD;refine w53 ?_;unfold zsc at hp;refine⟨ha100.isSl,?_⟩
 try rw[ha100.slLen]
 refine ifd hp (fun Ga hp=>?_) fun Ga hp=>?_
 ·obtain rfl:=oi hp;exact hq _ S0.ext'
 intro R0 jb
 have hgo:∀(e:Nat) (b1:Bool) (b2:Bool) (b3:Bool) (w:Int) (m5:M) (x:Nat->Nat),St (Fm.of m) f f m5->zsb l e b1 w=some rz->R0 [.c (.bool b1),.c (.bool b2),.c (.bool b3),.c (Il w)] m5:=by
  intro e
  induction e with
  | zero=>intro b1 b2 b3 w m5 x a hp; cases hp
  | succ e Ja=>
   intro b1 b2 b3 w m5 x a hp;refine jb _ _ _ _ _ ?_;rw[zsb] at hp;refine⟨ha100.isSl,?_⟩
   try rw[ha100.slLen]
   refine ifd hp (fun Ka hp=>?_) fun Ka hp=>?_; rotate_left
   ·obtain rfl:=oi hp;exact hq _ a.ext'
   obtain⟨zb,h,hp⟩:=zqd hp;obtain⟨n6,ta,D,h⟩:=zp7 h;obtain⟨Bb,Cb,Db,La,ea,Eb,Fb⟩:=zrH ha100 h;refine⟨n6,ta,(by first|exact D|(rw[ha100.slLen];exact D)),(ha100.isPt h _),_,((La _ a.sub).2.1 3 _ rfl),ea.isSl,?_⟩
   try rw[ea.slLen]
   refine ifd hp (fun Ma hp=>?_) fun Ma hp=>?_
   ·obtain rfl:=oi hp;exact hq _ a.ext'
   obtain⟨Gb,i,hp⟩:=zqd hp;obtain⟨n8,ua,F,i⟩:=zp7 i;obtain⟨Ib,Jb,Kb,Na,Mb,fa,Nb⟩:=zrH ha100 i;refine⟨n8,ua,(by first|exact F|(rw[ha100.slLen];exact F)),(ha100.isPt i _),_,((Na _ a.sub).2.1 4 _ rfl),fa.isSl,?_⟩
   try rw[fa.slLen]
   refine ifd hp (fun Oa hp=>?_) fun Oa hp=>?_
   ·obtain rfl:=oi hp;exact hq _ a.ext'
   obtain⟨Ob,j,hp⟩:=zqd hp;obtain⟨kb,va,G,j⟩:=zp7 j;obtain⟨Pb,Qb,Rb,Pa,Sb,Tb,ga⟩:=zrH ha100 j;refine⟨kb,va,(by first|exact G|(rw[ha100.slLen];exact G)),(ha100.isPt j _),_,((Pa _ a.sub).2.1 5 _ rfl),ga.isSl,?_⟩
   try rw[ga.slLen]
   refine ifd hp (fun Qa hp=>?_) fun Qa hp=>?_
   ·obtain rfl:=oi hp;exact hq _ a.ext'
   intro mb Ra
   have hgo:∀(g:Nat) (I:Bool) (ha:Bool) (u:Int) (J:M) (n:Nat->Nat),St (Fm.of m) f f J->zsa l w (zsb l e) g I u=some rz->mb [.c (.bool I),.c (.bool ha),.c (Il u)] J:=by
    intro g
    induction g with
    | zero=>intro I ha u J n d hp; cases hp
    | succ g wa=>
     intro I ha u J n d hp;refine Ra _ _ _ _ ?_;rw[zsa] at hp;obtain⟨Ub,o,hp⟩:=zqd hp;obtain⟨ob,xa,N,o⟩:=zp7 o;obtain⟨Vb,Wb,Xb,Sa,Yb,Zb,ia⟩:=zrH ha100 o;refine⟨ob,xa,(by first|exact N|(rw[ha100.slLen];exact N)),(ha100.isPt o _),_,((Sa _ d.sub).2.1 5 _ rfl),ia.isSl,?_⟩
     try rw[ia.slLen]
     refine ifd hp (fun Ta hp=>?_) fun Ta hp=>?_; rotate_left
     ·refine gdi hp fun Ua hp=>?_;exact Ja _ _ _ _ _ n d hp
     obtain⟨ac,p,hp⟩:=zqd hp;obtain⟨pb,ya,O,p⟩:=zp7 p;obtain⟨bc,cc,dc,Va,ec,fc,ja⟩:=zrH ha100 p;refine⟨pb,ya,(by first|exact O|(rw[ha100.slLen];exact O)),(ha100.isPt p _),_,((Va _ d.sub).2.1 5 _ rfl),?_⟩;obtain⟨gc,y,hp⟩:=zqd hp;obtain⟨qb,za,P,y⟩:=zp7 y;obtain⟨hc,Wa,ka⟩:=ja.rdS y;refine⟨qb,za,(by first|exact P|(rw[ja.slLen];exact P)),_,(Wa _ d.sub),ka.isSl,?_⟩
     try rw[ka.slLen]
     refine ifd hp (fun Xa hp=>?_) fun Xa hp=>?_
     ·obtain rfl:=oi hp;exact hq _ d.ext'
     intro rb Ya
     have hgo:∀(q:Nat) (S:Bool) (T:Int) (Y:M) (r:Nat->Nat),St (Fm.of m) f f Y->zr9 l w u (zsa l w (zsb l e) g) q S T=some rz->rb [.c (.bool S),.c (Il T)] Y:=by
      intro q
      induction q with
      | zero=>intro S T Y r b hp; cases hp
      | succ q Aa=>
       intro S T Y r b hp;refine Ya _ _ _ ?_;rw[zr9] at hp;obtain⟨ic,s,hp⟩:=zqd hp;obtain⟨sb,Ba,Z,s⟩:=zp7 s;obtain⟨jc,kc,lc,Za,nc,oc,la⟩:=zrH ha100 s;refine⟨sb,Ba,(by first|exact Z|(rw[ha100.slLen];exact Z)),(ha100.isPt s _),_,((Za _ b.sub).2.1 5 _ rfl),?_⟩;obtain⟨pc,z,hp⟩:=zqd hp;obtain⟨tb,Ca,aa,z⟩:=zp7 z;obtain⟨qc,ab,ma⟩:=la.rdS z;refine⟨tb,Ca,(by first|exact aa|(rw[la.slLen];exact aa)),_,(ab _ b.sub),ma.isSl,?_⟩
       try rw[ma.slLen]
       refine ifd hp (fun bb hp=>?_) fun bb hp=>?_; rotate_left
       ·refine gdi hp fun cb hp=>?_;exact wa _ _ _ _ r b hp
       obtain⟨sc,t,hp⟩:=zqd hp;obtain⟨ub,Da,ba,t⟩:=zp7 t;obtain⟨tc,uc,vc,db,wc,xc,na⟩:=zrH ha100 t;refine⟨ub,Da,(by first|exact ba|(rw[ha100.slLen];exact ba)),(ha100.isPt t _),_,((db _ b.sub).2.1 5 _ rfl),?_⟩;obtain⟨yc,A,hp⟩:=zqd hp;obtain⟨vb,Ea,ca,A⟩:=zp7 A;obtain⟨zc,eb,oa⟩:=na.rdS A;refine⟨vb,Ea,(by first|exact ca|(rw[na.slLen];exact ca)),_,(eb _ b.sub),?_⟩;obtain⟨Ac,B,hp⟩:=zqd hp;obtain⟨wb,Fa,da,B⟩:=zp7 B;obtain⟨Bc,fb,pa⟩:=oa.rdS B;refine⟨wb,Fa,(by first|exact da|(rw[oa.slLen];exact da)),_,(fb _ b.sub),pa.isSl,?_⟩
       try rw[pa.slLen]
       refine ifd hp (fun gb hp=>?_) fun gb hp=>?_
       ·obtain rfl:=oi hp;exact hq _ b.ext'
       refine gdi hp fun hb hp=>?_;exact Aa _ _ _ r b hp
     exact hgo _ _ _ _ n d hp
   exact hgo _ _ _ _ _ x a hp
 exact hgo _ _ _ _ _ _ τ0 S0 hp
theorem zxn{l:List Tf}{ca100:C}{m f:M}{Q:V->M->Prop}{rz:List Tf}(hS:Pre f m)(ha100:Sl f ca100 l)(hp:zsg l=some rz)(hq:∀m' f' c0,Grw m f m' f'->Sl f' c0 rz->Q (.c c0) m'):Wc prog tbl 51 [.c ca100] m Q:=by
 have S0:=hS.st;obtain⟨τ0,_⟩:=zrD;refine w51 ?_;unfold zsg at hp;intro R0 jd
 have hgo:∀(A:Nat) (c1:C) (x2:Int) (t:List Tf) (m3:M) (P:M) (Z:Nat->Nat),St (Fm.of m) f P m3->Sub f P->Ow (Fm.of m) P Z m3 1 c1 t->zsf l A t x2=some rz->R0 [.c c1,.c (Il x2)] m3:=by
  intro A
  induction A with
  | zero=>intro c1 x2 t m3 P Z Ba b d hp; cases hp
  | succ A vc=>
   intro c1 x2 t m3 P Z Ba b d hp;refine jd _ _ _ ?_;rw[zsf] at hp;refine⟨ha100.isSl,?_⟩
   try rw[ha100.slLen]
   refine ifd hp (fun wc hp=>?_) fun wc hp=>?_; rotate_left
   ·obtain⟨jb,kb,vd,mb⟩:=d.freeze Ba;obtain rfl:=oi hp;exact hq _ jb c1 kb.grw mb
   intro m4 xc;obtain⟨Ca,x,yc,ob⟩:=Ba.growK xc Z 2;have d:=d.k yc;have zc:=ob 0 (by decide);obtain⟨Ac,aa,hp⟩:=zqd hp;obtain⟨n5,pb,Ia,aa⟩:=zp7 aa;obtain⟨Cd,Dd,Ed,ba,Fd,Gd,Hd⟩:=zrH ha100 aa;refine⟨n5,pb,(by first|exact Ia|(rw[ha100.slLen];exact Ia)),(ha100.isPt aa _),_,((ba _ (Sub.trans b x.sub)).2.1 0 _ rfl),?_⟩;obtain⟨Bc,ca,hp⟩:=zqd hp;obtain⟨n7,qb,Ja,ca⟩:=zp7 ca;obtain⟨Jd,Ld,Md,da,Nd,Od,Pd⟩:=zrH ha100 ca;refine⟨n7,qb,(by first|exact Ja|(rw[ha100.slLen];exact Ja)),(ha100.isPt ca _),_,((da _ (Sub.trans b x.sub)).2.1 1 _ rfl),?_⟩;obtain⟨Cc,ea,hp⟩:=zqd hp;obtain⟨n9,rb,Ka,ea⟩:=zp7 ea;obtain⟨Rd,Sd,Td,fa,Ud,Vd,Wd⟩:=zrH ha100 ea;refine⟨n9,rb,(by first|exact Ka|(rw[ha100.slLen];exact Ka)),(ha100.isPt ea _),_,((fa _ (Sub.trans b x.sub)).2.1 2 _ rfl),?_⟩;obtain⟨Dc,ga,hp⟩:=zqd hp;obtain⟨kd,sb,La,ga⟩:=zp7 ga;obtain⟨Xd,Yd,Zd,bb,cb,ae,be⟩:=zrH ha100 ga;refine⟨kd,sb,(by first|exact La|(rw[ha100.slLen];exact La)),(ha100.isPt ga _),_,((bb _ (Sub.trans b x.sub)).2.1 3 _ rfl),?_⟩;obtain⟨ha,Ec,hp⟩:=zqd hp;refine zxl (l:=Dc.Weeks) x.pre (cb.sub b) Ec fun He ce ia Fc Gc=>?_;obtain⟨B,e⟩:=x.callG Fc Ca;have Hc:=zc.k e;have d:=d.k e;refine⟨_,rfl,((fa _ (Sub.trans (Sub.trans b e.fs) B.sub)).2.1 2 _ rfl),((da _ (Sub.trans (Sub.trans b e.fs) B.sub)).2.1 1 _ rfl),((ba _ (Sub.trans (Sub.trans b e.fs) B.sub)).2.1 0 _ rfl),?_⟩;obtain⟨Ic,ja,hp⟩:=zqd hp;obtain⟨ld,tb,Ma,ja⟩:=zp7 ja;obtain⟨de,ee,fe,Da,ge,Ea,he⟩:=zrH ha100 ja;refine⟨ld,tb,(by first|exact Ma|(rw[ha100.slLen];exact Ma)),(ha100.isPt ja _),_,((Da _ (Sub.trans (Sub.trans b e.fs) B.sub)).2.1 4 _ rfl),(by rw[show cmC _=true from zoM (Ea.noFn)]; exact((Da _ (Sub.trans b x.sub)).2.1 4 _ rfl)),?_⟩
   obtain⟨ka,Jc,hp⟩:=zqd hp;refine zxl (l:=Ic.Counts) B.pre (Ea.sub (Sub.trans b e.fs)) Jc fun Ie db la Kc Lc=>?_;obtain⟨ma,g⟩:=B.callG Kc Ca;have Nc:=Hc.k g;have d:=d.k g;refine⟨_,rfl,((fa _ (Sub.trans (Sub.trans (Sub.trans b e.fs) g.fs) ma.sub)).2.1 2 _ rfl),((da _ (Sub.trans (Sub.trans (Sub.trans b e.fs) g.fs) ma.sub)).2.1 1 _ rfl),((ba _ (Sub.trans (Sub.trans (Sub.trans b e.fs) g.fs) ma.sub)).2.1 0 _ rfl),?_⟩;intro Je Pc;obtain⟨D,Qc,Rc⟩:=Nc.set ma Pc;have d:=d.k Qc;refine⟨(by rw[show cmC _=true from zoM (Ea.noFn)]; exact((Da _ (Sub.trans (Sub.trans (Sub.trans b e.fs) g.fs) D.sub)).2.1 4 _ rfl)),(by rw[show cmC _=true from zoM (cb.noFn)]; exact((bb _ (Sub.trans (Sub.trans (Sub.trans b e.fs) g.fs) D.sub)).2.1 3 _ rfl)),((fa _ (Sub.trans (Sub.trans (Sub.trans b e.fs) g.fs) D.sub)).2.1 2 _ rfl),((da _ (Sub.trans (Sub.trans (Sub.trans b e.fs) g.fs) D.sub)).2.1 1 _ rfl),((ba _ (Sub.trans (Sub.trans (Sub.trans b e.fs) g.fs) D.sub)).2.1 0 _ rfl),?_⟩;obtain⟨Tc,Uc,Vc,Xc,n⟩:=Rc.sto D [Il Ac.From,.bool Bc.Whole,Il Cc.Least,ia,la,.sl0];have d:=d.k Xc;refine⟨Tc,Uc,?_⟩;intro md Yc
   have hgo:∀(S:Nat) (xa:Int) (F:C) (o:Int) (p:Bool) (q:Int) (u:List (List (List Int))) (T:M) (r:M) (G:Nat->Nat),St (Fm.of m) f r T->Sub db r->Lb (Fm.of m) r G T 2 (m3.nxt+0) 6 [Il o,.bool p,Il q,ia,la,F]->Ow (Fm.of m) r G T 3 F u->Ow (Fm.of m) r G T 1 c1 t->zse l t x2 ha ka (zsf l A) S o p q u xa=some rz->md [.c (Il xa)] T:=by
    intro S
    induction S with
    | zero=>intro xa F o p q u T r G na h n i d hp; cases hp
    | succ S ub=>
     intro xa F o p q u T r G na h n i d hp;refine Yc _ _ ?_;rw[zse] at hp;obtain⟨ie,oa,hp⟩:=zqd hp;obtain⟨nd,vb,Na,oa⟩:=zp7 oa;obtain⟨je,ke,me,Zc,oe,pe,eb⟩:=zrH ha100 oa;refine⟨nd,vb,(by first|exact Na|(rw[ha100.slLen];exact Na)),(ha100.isPt oa _),_,((Zc _ (Sub.trans (Sub.trans (Sub.trans (Sub.trans b e.fs) g.fs) h) na.sub)).2.1 5 _ rfl),eb.isSl,?_⟩
     try rw[eb.slLen]
     refine ifd hp (fun ad hp=>?_) fun ad hp=>?_; rotate_left
     ·refine⟨_,_,_,_,_,_,n.bk.ra,?_⟩;obtain⟨Oa,wb,N,xb⟩:=i.freeze na;have d:=d.k N;obtain⟨yb,hp⟩:=zqe hp;intro Ke zb;obtain⟨Ab,Bb,Cb,Db,Eb,wd,Fb⟩:=d.app' zw5 wb (a:=({ From:=o,Whole:=p,Least:=q,Weeks:=ha,Counts:=ka,Rates:=u }:Tf)) (show Rp.rep (α:=Tf) Oa _ ({ From:=o,Whole:=p,Least:=q,Weeks:=ha,Counts:=ka,Rates:=u }:Tf) from ⟨_,_,_,rfl,(Gc.sub (Sub.trans (Sub.trans g.fs h) N.fs)),(Lc.sub (Sub.trans h N.fs)),xb⟩) yb zb;refine⟨Ab,Bb,Db,?_⟩;refine gdi hp fun Gb hp=>?_;exact vc _ _ _ _ Oa Cb Eb (Sub.trans (Sub.trans (Sub.trans (Sub.trans b e.fs) g.fs) h) N.fs) Fb hp
     intro od bd
     have hgo:∀(pa:Nat) (Pa:C) (Qa:Int) (I:List (List Int)) (J:M) (w:M) (y:Nat->Nat),St (Fm.of m) f w J->Sub r w->Lb (Fm.of m) w y J 2 (m3.nxt+0) 6 [Il o,.bool p,Il q,ia,la,F]->Ow (Fm.of m) w y J 4 Pa I->Ow (Fm.of m) w y J 1 c1 t->Ow (Fm.of m) w y J 3 F u->zsd l x2 o p q u xa (zse l t x2 ha ka (zsf l A) S) pa I Qa=some rz->od [.c Pa,.c (Il Qa)] J:=by
      intro pa
      induction pa with
      | zero=>intro Pa Qa I J w y s j n Y d i hp; cases hp
      | succ pa Hb=>
       intro Pa Qa I J w y s j n Y d i hp;refine bd _ _ _ ?_;rw[zsd] at hp;obtain⟨qe,qa,hp⟩:=zqd hp;obtain⟨pd,Ib,Ra,qa⟩:=zp7 qa;obtain⟨re,se,te,cd,ue,ve,fb⟩:=zrH ha100 qa;refine⟨pd,Ib,(by first|exact Ra|(rw[ha100.slLen];exact Ra)),(ha100.isPt qa _),_,((cd _ (Sub.trans (Sub.trans (Sub.trans (Sub.trans (Sub.trans b e.fs) g.fs) h) j) s.sub)).2.1 5 _ rfl),?_⟩;obtain⟨we,Fa,hp⟩:=zqd hp;obtain⟨qd,Jb,Sa,Fa⟩:=zp7 Fa;obtain⟨xe,dd,gb⟩:=fb.rdS Fa;refine⟨qd,Jb,(by first|exact Sa|(rw[fb.slLen];exact Sa)),_,(dd _ (Sub.trans (Sub.trans (Sub.trans (Sub.trans (Sub.trans b e.fs) g.fs) h) j) s.sub)),gb.isSl,?_⟩
       try rw[gb.slLen]
       refine ifd hp (fun ed hp=>?_) fun ed hp=>?_; rotate_left
       ·refine⟨trivial,_,n.bk.rc rfl,?_⟩;obtain⟨Ta,Kb,O,Mb⟩:=Y.freeze s;have Nb:=n.k O;have d:=d.k O;have i:=i.k O;obtain⟨Ob,hp⟩:=zqe hp;intro Me Pb;obtain⟨sa,Qb,Rb,Sb,Tb,Ua,ta⟩:=i.app' zw7 Kb (a:=I) (show Rp.rep (α:=List (List Int)) Ta _ I from ⟨_,rfl,Mb⟩) Ob Pb;have Ub:=Nb.k Ua;have d:=d.k Ua;refine⟨sa,Qb,Sb,?_⟩;refine⟨trivial,?_⟩;obtain⟨Vb,Wb,Xb,Va,ua⟩:=Ub.sto1 Tb 5 sa (by simp) rfl
        replace ua:Lb _ _ _ _ _ _ _ [Il o,.bool p,Il q,ia,la,sa]:=ua
        have d:=d.k Va;have ta:=ta.k Va;refine⟨Vb,Wb,?_⟩;refine gdi hp fun Yb hp=>?_;exact ub _ _ _ _ _ _ _ Ta Rb Xb (Sub.trans (Sub.trans h j) O.fs) ua ta d hp
       obtain⟨ye,va,hp⟩:=zqd hp;obtain⟨sd,Zb,Wa,va⟩:=zp7 va;obtain⟨ze,Ae,Be,fd,Ce,De,hb⟩:=zrH ha100 va;refine⟨sd,Zb,(by first|exact Wa|(rw[ha100.slLen];exact Wa)),(ha100.isPt va _),_,((fd _ (Sub.trans (Sub.trans (Sub.trans (Sub.trans (Sub.trans b e.fs) g.fs) h) j) s.sub)).2.1 5 _ rfl),?_⟩;obtain⟨Ee,Ga,hp⟩:=zqd hp;obtain⟨td,ac,Xa,Ga⟩:=zp7 Ga;obtain⟨Fe,hd,ib⟩:=hb.rdS Ga;refine⟨td,ac,(by first|exact Xa|(rw[hb.slLen];exact Xa)),_,(hd _ (Sub.trans (Sub.trans (Sub.trans (Sub.trans (Sub.trans b e.fs) g.fs) h) j) s.sub)),?_⟩;obtain⟨id,Ha,hp⟩:=zqd hp;obtain⟨ud,bc,Ya,Ha⟩:=zp7 Ha;obtain⟨Ge,cc,dc⟩:=ib.rdS Ha;refine⟨ud,bc,(by first|exact Ya|(rw[ib.slLen];exact Ya)),_,(cc _ (Sub.trans (Sub.trans (Sub.trans (Sub.trans (Sub.trans b e.fs) g.fs) h) j) s.sub)),?_⟩;obtain⟨Za,ec,hp⟩:=zqd hp;refine zxl (l:=id) s.pre (dc.sub (Sub.trans (Sub.trans (Sub.trans (Sub.trans b e.fs) g.fs) h) j)) ec fun Ne ab xd fc gc=>?_;obtain⟨hc,z⟩:=s.callG fc y;have ic:=n.k z;have d:=d.k z;have i:=i.k z;have Y:=Y.k z;refine⟨_,rfl,?_⟩;obtain⟨jc,hp⟩:=zqe hp;intro Oe kc;obtain⟨lc,nc,oc,pc,qc,wa,sc⟩:=Y.app' zw9 hc (a:=Za) (show Rp.rep (α:=List Int) ab _ Za from ⟨_,rfl,gc⟩) jc kc;have tc:=ic.k wa;have d:=d.k wa;have i:=i.k wa;refine⟨lc,nc,pc,?_⟩;refine gdi hp fun uc hp=>?_;exact Hb _ _ _ _ ab oc qc (Sub.trans j z.fs) tc sc d i hp
     exact hgo _ _ _ _ _ r G na (Sub.refl _) n (Ow.nil _ _ _ _ _) d i hp
   exact hgo _ _ _ _ _ _ _ _ db Ca Vc (Sub.refl _) n (Ow.nil _ _ _ _ _) d hp
 exact hgo _ _ _ _ _ f τ0 S0 (Sub.refl _) (Ow.nil _ _ _ _ _) hp
theorem zxo{r:Rg}{n:Int}{m f:M}{Q:V->M->Prop}{rz:Bool}(hS:Pre f m)(hp:zsh r n=some rz)(hq:∀m',Ext m m'->Q (.c (.bool rz)) m'):Wc prog tbl 109 [.agg 2 [Il r.Lo,Il r.Hi],.c (Il n)] m Q:=by
 have i:=hS.st;obtain⟨j,_⟩:=zrD;refine zwh ?_;unfold zsh at hp;intro l d;obtain⟨g,a,h,b⟩:=i.blk d j 1;refine⟨trivial,_,b.bk.rc rfl,?_⟩;refine ifd hp (fun e hp=>?_) fun e hp=>?_; rotate_left
 ·obtain rfl:=oi hp;exact hq _ a.ext'
 refine⟨trivial,_,b.bk.rc rfl,?_⟩;obtain rfl:=oi hp;exact hq _ a.ext'
theorem zxp{n:Int}{size:Int}{m f:M}{Q:V->M->Prop}{rz:Bool}(hS:Pre f m)(hp:zsi n size=some rz)(hq:∀m',Ext m m'->Q (.c (.bool rz)) m'):Wc prog tbl 158 [.c (Il n),.c (Il size)] m Q:=by
 have g:=hS.st;obtain⟨j,_⟩:=zrD;refine zwJ ?_;unfold zsi at hp;refine gdi hp fun a hp=>?_;obtain⟨h,b,hp⟩:=zqd hp;refine zxo (r:=({ Lo:=(0:Int),Hi:=(size - 1) }:Rg)) (n:=n) g.pre  b fun l d=>?_;obtain⟨e,i⟩:=g.call d j;refine⟨_,rfl,?_⟩;obtain rfl:=oi hp;exact hq _ e.ext'
theorem zxq{n:Int}{m f:M}{Q:V->M->Prop}{rz:Bool}(hS:Pre f m)(hp:zsj n=some rz)(hq:∀m',Ext m m'->Q (.c (.bool rz)) m'):Wc prog tbl 138 [.c (Il n)] m Q:=by
 have e:=hS.st;obtain⟨i,_⟩:=zrD;refine zv4 ?_;unfold zsj at hp;obtain⟨g,a,hp⟩:=zqd hp;refine zxo (r:=({ Lo:=(0:Int),Hi:=(120:Int) }:Rg)) (n:=n) e.pre  a fun j b=>?_;obtain⟨d,h⟩:=e.call b i;refine⟨_,rfl,?_⟩;obtain rfl:=oi hp;exact hq _ d.ext'
theorem zxr{n:Int}{m f:M}{Q:V->M->Prop}{rz:Bool}(hS:Pre f m)(hp:zsk n=some rz)(hq:∀m',Ext m m'->Q (.c (.bool rz)) m'):Wc prog tbl 139 [.c (Il n)] m Q:=by
 have e:=hS.st;obtain⟨i,_⟩:=zrD;refine zwn ?_;unfold zsk at hp;obtain⟨g,a,hp⟩:=zqd hp;refine zxo (r:=({ Lo:=(0:Int),Hi:=(100:Int) }:Rg)) (n:=n) e.pre  a fun j b=>?_;obtain⟨d,h⟩:=e.call b i;refine⟨_,rfl,?_⟩;obtain rfl:=oi hp;exact hq _ d.ext'
theorem zxs{n:Int}{m f:M}{Q:V->M->Prop}{rz:Bool}(hS:Pre f m)(hp:zsl n=some rz)(hq:∀m',Ext m m'->Q (.c (.bool rz)) m'):Wc prog tbl 147 [.c (Il n)] m Q:=by
 have e:=hS.st;obtain⟨i,_⟩:=zrD;refine zv6 ?_;unfold zsl at hp;obtain⟨g,a,hp⟩:=zqd hp;refine zxo (r:=({ Lo:=(0:Int),Hi:=(100:Int) }:Rg)) (n:=n) e.pre  a fun j b=>?_;obtain⟨d,h⟩:=e.call b i;refine⟨_,rfl,?_⟩;obtain rfl:=oi hp;exact hq _ d.ext'
theorem zxt{l:List Int}{ca100:C}{m f:M}{Q:V->M->Prop}{rz:Bool}(hS:Pre f m)(ha100:Sl f ca100 l)(hp:zsn l=some rz)(hq:∀m',Ext m m'->Q (.c (.bool rz)) m'):Wc prog tbl 118 [.c ca100] m Q:=by
 have N:=hS.st;obtain⟨O,_⟩:=zrD;refine zwB ?_;unfold zsn at hp;refine⟨ha100.isSl,?_⟩;intro P F
 have hgo:∀(b:Nat) (D:Bool) (s:Int) (t:M) (d:Nat->Nat),St (Fm.of m) f f t->zsm l b s=some rz->P [.c (.bool D),.c (Il s)] t:=by
  intro b
  induction b with
  | zero=>intro D s t d a hp; cases hp
  | succ b o=>
   intro D s t d a hp;refine F _ _ _ ?_;rw[zsm] at hp
   try rw[ha100.slLen]
   refine ifd hp (fun u hp=>?_) fun u hp=>?_; rotate_left
   ·refine⟨ha100.isSl,?_⟩
    try rw[ha100.slLen]
    refine ifd hp (fun w hp=>?_) fun w hp=>?_; rotate_left
    ·obtain rfl:=oi hp;exact hq _ a.ext'
    obtain⟨G,e,hp⟩:=zqd hp;obtain⟨S,p,i,e⟩:=zp7 e;refine⟨S,p,(by first|exact i|(rw[ha100.slLen];exact i)),_,(ha100.rdI e a.sub),?_⟩;obtain rfl:=oi hp;exact hq _ a.ext'
   obtain⟨I,g,hp⟩:=zqd hp;obtain⟨T,q,j,g⟩:=zp7 g;refine⟨T,q,(by first|exact j|(rw[ha100.slLen];exact j)),_,(ha100.rdI g a.sub),?_⟩;refine ifd hp (fun x hp=>?_) fun x hp=>?_; rotate_left
   ·refine gdi hp fun y hp=>?_;exact o _ _ _ d a hp
   refine gdi hp fun z hp=>?_;obtain⟨J,h,hp⟩:=zqd hp;obtain⟨Y,r,n,h⟩:=zp7 h;refine⟨Y,r,(by first|exact n|(rw[ha100.slLen];exact n)),_,(ha100.rdI h a.sub),?_⟩;refine ifd hp (fun A hp=>?_) fun A hp=>?_
   ·obtain rfl:=oi hp;exact hq _ a.ext'
   refine gdi hp fun B hp=>?_;exact o _ _ _ d a hp
 exact hgo _ _ _ _ O N hp
theorem zxu{l:List Tf}{ca100:C}{m f:M}{Q:V->M->Prop}{rz:List Int}(hS:Pre f m)(ha100:Sl f ca100 l)(hp:zsp l=some rz)(hq:∀m' f' c0,Grw m f m' f'->Sl f' c0 rz->Q (.c c0) m'):Wc prog tbl 119 [.c ca100] m Q:=by
 have S0:=hS.st;obtain⟨τ0,_⟩:=zrD;refine zvJ ?_;unfold zsp at hp;refine⟨ha100.isSl,?_⟩;intro R0 ga
 have hgo:∀(e:Nat) (o:C) (r:Int) (g:List Int) (p:M) (h:Nat->Nat),St (Fm.of m) f f p->Ow (Fm.of m) f h p 1 o g->zso l e g r=some rz->R0 [.c o,.c (Il r)] p:=by
  intro e
  induction e with
  | zero=>intro o r g p h i b hp; cases hp
  | succ e fa=>
   intro o r g p h i b hp;refine ga _ _ _ ?_;rw[zso] at hp
   try rw[ha100.slLen]
   refine ifd hp (fun s hp=>?_) fun s hp=>?_; rotate_left
   ·obtain⟨t,u,ha,w⟩:=b.freeze i;obtain rfl:=oi hp;exact hq _ t o u.grw w
   obtain⟨d,j,hp⟩:=zqd hp;obtain⟨n4,q,n,j⟩:=zp7 j;obtain⟨x,y,z,A,ia,ja,ka⟩:=zrH ha100 j;refine⟨n4,q,(by first|exact n|(rw[ha100.slLen];exact n)),_,_,_,_,_,_,(A _ i.sub).1,?_⟩;intro sa B;obtain⟨la,D,F,G⟩:=i.blk B h 2;have b:=b.k F;obtain⟨I,J,N,O,P⟩:=G.sto D [Il d.From,.bool d.Whole,Il d.Least,x,y,z];have b:=b.k O;refine⟨I,J,?_⟩;refine⟨trivial,_,P.bk.rc rfl,?_⟩;obtain⟨S,hp⟩:=zqe hp;intro ta T;obtain⟨Y,Z,aa,ba,ca,ma,da⟩:=b.app' zw4 N (a:=d.From) (show Rp.rep (α:=Int) f _ d.From from rfl) S T;refine⟨Y,Z,ba,?_⟩;refine gdi hp fun ea hp=>?_;exact fa _ _ _ _ aa ca da hp
 exact hgo _ _ _ _ _ τ0 S0 (Ow.nil _ _ _ _ _) hp
theorem zxv{l:List Tf}{t:Tf}{ca100 ca203 ca204 ca205:C}{m f:M}{Q:V->M->Prop}{rz:Bool}(hS:Pre f m)(ha100:Sl f ca100 l)(_ha203:Sl f ca203 t.Weeks)(_ha204:Sl f ca204 t.Counts)(ha205:Sl f ca205 t.Rates)(hp:zsq l t=some rz)(hq:∀m',Ext m m'->Q (.c (.bool rz)) m'):Wc prog tbl 120 [.c ca100,.agg 6 [Il t.From,.bool t.Whole,Il t.Least,ca203,ca204,ca205]] m Q:=by
 have x:=hS.st;obtain⟨y,_⟩:=zrD;refine zv1 ?_;unfold zsq at hp;intro A h;obtain⟨n,d,o,i⟩:=x.blk h y 1;refine⟨trivial,_,i.bk.rc rfl,ha205.isSl,?_⟩;obtain⟨p,a,hp⟩:=zqd hp;obtain⟨z,g,b,a⟩:=zp7 a;obtain⟨q,r,s,j,u,w,e⟩:=zrH ha100 a;refine⟨z,g,(by first|exact b|(rw[ha100.slLen];exact b)),(ha100.isPt a _),_,((j _ d.sub).2.1 5 _ rfl),e.isSl,?_⟩
 try rw[ha205.slLen]
 try rw[e.slLen]
 obtain rfl:=oi hp;exact hq _ d.ext'
theorem zxw{l:List Tf}{n:Int}{ca100:C}{m f:M}{Q:V->M->Prop}{rz:Bool}(hS:Pre f m)(ha100:Sl f ca100 l)(hp:zsr l n=some rz)(hq:∀m',Ext m m'->Q (.c (.bool rz)) m'):Wc prog tbl 136 [.c ca100,.c (Il n)] m Q:=by
 have p:=hS.st;obtain⟨y,_⟩:=zrD;refine zwE ?_;unfold zsr at hp;obtain⟨g,a,hp⟩:=zqd hp;obtain⟨z,e,b,a⟩:=zp7 a;obtain⟨q,r,s,h,t,u,d⟩:=zrH ha100 a;refine⟨z,e,(by first|exact b|(rw[ha100.slLen];exact b)),(ha100.isPt a _),_,((h _ p.sub).2.1 5 _ rfl),d.isSl,?_⟩
 try rw[d.slLen]
 obtain⟨w,i,hp⟩:=zqd hp;refine zxp (n:=n) (size:=(g.Rates.length:Int)) p.pre  i fun A j=>?_;obtain⟨o,x⟩:=p.call j y;refine⟨_,rfl,?_⟩;obtain rfl:=oi hp;exact hq _ o.ext'
theorem zxx{t:Tf}{ca103 ca104 ca105:C}{m f:M}{Q:V->M->Prop}{rz:Bool}(hS:Pre f m)(ha103:Sl f ca103 t.Weeks)(ha104:Sl f ca104 t.Counts)(ha105:Sl f ca105 t.Rates)(hp:zss t=some rz)(hq:∀m',Ext m m'->Q (.c (.bool rz)) m'):Wc prog tbl 115 [.agg 6 [Il t.From,.bool t.Whole,Il t.Least,ca103,ca104,ca105]] m Q:=by
 have j:=hS.st;obtain⟨l,_⟩:=zrD;refine zvI ?_;unfold zss at hp;intro n d;obtain⟨h,a,i,b⟩:=j.blk d l 1;refine⟨trivial,_,b.bk.rc rfl,ha103.isSl,?_⟩
 try rw[ha103.slLen]
 refine ifd hp (fun e hp=>?_) fun e hp=>?_
 ·obtain rfl:=oi hp;exact hq _ a.ext'
 refine⟨trivial,_,b.bk.rc rfl,ha104.isSl,?_⟩
 try rw[ha104.slLen]
 refine ifd hp (fun g hp=>?_) fun g hp=>?_
 ·obtain rfl:=oi hp;exact hq _ a.ext'
 refine⟨trivial,_,b.bk.rc rfl,ha105.isSl,?_⟩
 try rw[ha105.slLen]
 obtain rfl:=oi hp;exact hq _ a.ext'
theorem zxy{c:Clm}{t:Tr}{m f:M}{Q:V->M->Prop}{rz:Bool}(hS:Pre f m)(hp:zst c t=some rz)(hq:∀m',Ext m m'->Q (.c (.bool rz)) m'):Wc prog tbl 81 [.agg 6 [Il c.Crop,Il c.Value,Il c.Day.Lo,Il c.Day.Hi,Il c.Count.Lo,Il c.Count.Hi],.agg 2 [Il t.Day,Il t.Count]] m Q:=by
 have N:=hS.st;obtain⟨O,_⟩:=zrD;refine w81 ?_;unfold zst at hp;intro S i;obtain⟨l,o,F,p⟩:=N.blk i O 1;intro T q;obtain⟨b,d,s,e⟩:=o.blk q l 2;have g:=p.k s;refine⟨trivial,_,_,g.bk.rp (k:=2) (j:=2) rfl (by omega),trivial,_,e.bk.rc rfl,?_⟩;obtain⟨G,u,hp⟩:=zqd hp;refine zxo (r:=c.Day) (n:=t.Day) d.pre  u fun Y w=>?_;obtain⟨a,h⟩:=d.call w b;have x:=g.k h;have y:=e.k h;refine⟨_,rfl,?_⟩;refine zqS hp (fun z hp=>?_) fun z hp=>?_; rotate_left
 ·obtain rfl:=oi hp;exact hq _ a.ext'
 refine⟨trivial,_,_,x.bk.rp (k:=4) (j:=2) rfl (by omega),trivial,_,y.bk.rc rfl,?_⟩;obtain⟨I,A,hp⟩:=zqd hp;refine zxo (r:=c.Count) (n:=t.Count) a.pre  A fun P B=>?_;obtain⟨D,J⟩:=a.call B b;refine⟨_,rfl,?_⟩;obtain rfl:=oi hp;exact hq _ D.ext'
theorem zxz{x:Int}{m f:M}{Q:V->M->Prop}{rz:Bool}(hS:Pre f m)(hp:zsu x=some rz)(hq:∀m',Ext m m'->Q (.c (.bool rz)) m'):Wc prog tbl 184 [.c (Il x)] m Q:=by
 have a:=hS.st;obtain⟨b,_⟩:=zrD;refine zwe ?_;unfold zsu at hp;obtain rfl:=oi hp;exact hq _ a.ext'
theorem zxA{x:Int}{m f:M}{Q:V->M->Prop}{rz:Bool}(hS:Pre f m)(hp:zsv x=some rz)(hq:∀m',Ext m m'->Q (.c (.bool rz)) m'):Wc prog tbl 181 [.c (Il x)] m Q:=by
 have a:=hS.st;obtain⟨b,_⟩:=zrD;refine zwO ?_;unfold zsv at hp;obtain rfl:=oi hp;exact hq _ a.ext'
theorem zxB{x:Int}{y:Int}{m f:M}{Q:V->M->Prop}{rz:Bool}(hS:Pre f m)(hp:zsw x y=some rz)(hq:∀m',Ext m m'->Q (.c (.bool rz)) m'):Wc prog tbl 180 [.c (Il x),.c (Il y)] m Q:=by
 have l:=hS.st;obtain⟨n,_⟩:=zrD;refine zww ?_;unfold zsw at hp;obtain⟨o,d,hp⟩:=zqd hp;refine zxz (x:=x) l.pre  d fun s e=>?_;obtain⟨a,p⟩:=l.call e n;refine⟨_,rfl,?_⟩;refine zqS hp (fun g hp=>?_) fun g hp=>?_; rotate_left
 ·obtain rfl:=oi hp;exact hq _ a.ext'
 obtain⟨q,h,hp⟩:=zqd hp;refine zxz (x:=y) a.pre  h fun t i=>?_;obtain⟨b,r⟩:=a.call i n;refine⟨_,rfl,?_⟩;refine zqT hp (fun j hp=>?_) fun j hp=>?_
 ·obtain rfl:=oi hp;exact hq _ b.ext'
 obtain rfl:=oi hp;exact hq _ b.ext'
theorem zxC{l:List Int}{x:Int}{ca100:C}{m f:M}{Q:V->M->Prop}{rz:Int × Bool}(hS:Pre f m)(ha100:Sl f ca100 l)(hp:zsy l x=some rz)(hq:∀m',Ext m m'->Q (.tup [.c (Il rz.1),.c (.bool rz.2)]) m'):Wc prog tbl 172 [.c ca100,.c (Il x)] m Q:=by
 have S0:=hS.st;obtain⟨τ0,_⟩:=zrD;refine zwM ?_;unfold zsy at hp;refine⟨ha100.isSl,?_⟩;intro R0 ga
 try rw[ha100.slLen]
 have hgo:∀(d:Nat) (u:Int) (w:Int) (z:M) (b:Nat->Nat),St (Fm.of m) f f z->zsx l x d u w=some rz->R0 [.c (Il u),.c (Il w)] z:=by
  intro d
  induction d with
  | zero=>intro u w z b a hp; cases hp
  | succ d q=>
   intro u w z b a hp;refine ga _ _ _ ?_;rw[zsx] at hp;refine ifd hp (fun A hp=>?_) fun A hp=>?_
   ·refine gdi hp fun B hp=>?_;refine gdi hp fun D hp=>?_;refine gdi hp fun F hp=>?_;refine gdi hp fun G hp=>?_;refine gdi hp fun I hp=>?_;obtain⟨J,e,hp⟩:=zqd hp;obtain⟨n4,r,j,e⟩:=zp7 e;refine⟨n4,r,(by first|exact j|(rw[ha100.slLen];exact j)),_,(ha100.rdI e a.sub),?_⟩;obtain⟨ia,N,hp⟩:=zqd hp;refine zxB (x:=J) (y:=x) a.pre  N fun m7 O=>?_;obtain⟨p,ja⟩:=a.call O b;refine⟨_,rfl,?_⟩;refine zqS hp (fun P hp=>?_) fun P hp=>?_; rotate_left
    ·exact q _ _ _ b p hp
    refine gdi hp fun S hp=>?_;exact q _ _ _ b p hp
   try rw[ha100.slLen]
   refine ifd hp (fun T hp=>?_) fun T hp=>?_; rotate_left
   ·obtain rfl:=oi hp;exact hq _ a.ext'
   obtain⟨ka,g,hp⟩:=zqd hp;obtain⟨n9,s,n,g⟩:=zp7 g;refine⟨n9,s,(by first|exact n|(rw[ha100.slLen];exact n)),_,(ha100.rdI g a.sub),?_⟩;refine ifd hp (fun Y hp=>?_) fun Y hp=>?_
   ·obtain rfl:=oi hp;exact hq _ a.ext'
   obtain⟨Z,h,hp⟩:=zqd hp;obtain⟨ha,t,o,h⟩:=zp7 h;refine⟨ha,t,(by first|exact o|(rw[ha100.slLen];exact o)),_,(ha100.rdI h a.sub),?_⟩;obtain⟨la,aa,hp⟩:=zqd hp;refine zxA (x:=Z) a.pre  aa fun va ba=>?_;obtain⟨i,ma⟩:=a.call ba b;refine⟨_,rfl,?_⟩;refine zqS hp (fun ca hp=>?_) fun ca hp=>?_; rotate_left
   ·obtain rfl:=oi hp;exact hq _ i.ext'
   obtain⟨na,da,hp⟩:=zqd hp;refine zxA (x:=x) i.pre  da fun wa ea=>?_;obtain⟨fa,oa⟩:=i.call ea b;refine⟨_,rfl,?_⟩;obtain rfl:=oi hp;exact hq _ fa.ext'
 exact hgo _ _ _ _ τ0 S0 hp
theorem zxD{days:List Int}{day:Int}{ca100:C}{m f:M}{Q:V->M->Prop}{rz:Int}(hS:Pre f m)(ha100:Sl f ca100 days)(hp:zsz days day=some rz)(hq:∀m',Ext m m'->Q (.c (Il rz)) m'):Wc prog tbl 159 [.c ca100,.c (Il day)] m Q:=by
 have h:=hS.st;obtain⟨n,_⟩:=zrD;refine zvR ?_;unfold zsz at hp;refine gdi hp fun a hp=>?_;obtain⟨i,b,hp⟩:=zqd hp;refine zxC (l:=days) (x:=(day+1)) h.pre ha100 b fun o d=>?_;obtain⟨e,j⟩:=h.call d n;refine⟨_,_,rfl,?_⟩;refine gdi hp fun g hp=>?_;obtain rfl:=oi hp;exact hq _ e.ext'
theorem zxE{l:List Tf}{day:Int}{ca100:C}{m f:M}{Q:V->M->Prop}{rz:Tf}(hS:Pre f m)(ha100:Sl f ca100 l)(hp:zsA l day=some rz)(hq:∀m' f' c3 c4 c5,Grw m f m' f'->Sl f' c3 rz.Weeks->Sl f' c4 rz.Counts->Sl f' c5 rz.Rates->Q (.agg 6 [Il rz.From,.bool rz.Whole,Il rz.Least,c3,c4,c5]) m'):Wc prog tbl 140 [.c ca100,.c (Il day)] m Q:=by
 have S0:=hS.st;obtain⟨τ0,_⟩:=zrD;refine zwF ?_;unfold zsA at hp;intro m0 r;obtain⟨g,h,Y,s⟩:=S0.blk r τ0 1;obtain⟨t,u,hp⟩:=zqd hp;refine zxu (l:=l) h.pre ha100 u fun m2 w Z x y=>?_;obtain⟨i,a⟩:=h.callG x g;have z:=s.k a;refine⟨_,rfl,?_⟩;obtain⟨aa,A,hp⟩:=zqd hp;refine zxD (days:=t) (day:=day) i.pre y A fun m5 B=>?_;obtain⟨j,D⟩:=i.call B g;have F:=z.k D;refine⟨_,rfl,?_⟩;obtain⟨b,d,hp⟩:=zqd hp;obtain⟨n7,q,e,d⟩:=zp7 d;obtain⟨n,o,p,G,I,J,N⟩:=zrH ha100 d;refine⟨n7,q,(by first|exact e|(rw[ha100.slLen];exact e)),_,_,_,_,_,_,(G _ (Sub.trans a.fs j.sub)).1,?_⟩;obtain⟨O,P,S,ba,T⟩:=F.sto j [Il b.From,.bool b.Whole,Il b.Least,n,o,p];refine⟨O,P,?_⟩;refine⟨_,_,_,_,_,_,T.bk.ra,?_⟩;obtain rfl:=oi hp;exact hq _ w n o p S.grw (I.sub a.fs) (J.sub a.fs) (N.sub a.fs)
theorem zxF{t:Tf}{loss:Int}{ca103 ca104 ca105:C}{m f:M}{Q:V->M->Prop}{rz:Int}(hS:Pre f m)(_ha103:Sl f ca103 t.Weeks)(_ha104:Sl f ca104 t.Counts)(_ha105:Sl f ca105 t.Rates)(hp:zsB t loss=some rz)(hq:∀m',Ext m m'->Q (.c (Il rz)) m'):Wc prog tbl 173 [.agg 6 [Il t.From,.bool t.Whole,Il t.Least,ca103,ca104,ca105],.c (Il loss)] m Q:=by
 have h:=hS.st;obtain⟨i,_⟩:=zrD;refine zvU ?_;unfold zsB at hp;intro j a;obtain⟨d,b,e,g⟩:=h.blk a i 1;obtain rfl:=oi hp;exact hq _ b.ext'
theorem zxG{t:Tf}{loss:Int}{ca103 ca104 ca105:C}{m f:M}{Q:V->M->Prop}{rz:Int}(hS:Pre f m)(_ha103:Sl f ca103 t.Weeks)(_ha104:Sl f ca104 t.Counts)(_ha105:Sl f ca105 t.Rates)(hp:zsC t loss=some rz)(hq:∀m',Ext m m'->Q (.c (Il rz)) m'):Wc prog tbl 174 [.agg 6 [Il t.From,.bool t.Whole,Il t.Least,ca103,ca104,ca105],.c (Il loss)] m Q:=by
 have i:=hS.st;obtain⟨j,_⟩:=zrD;refine zwc ?_;unfold zsC at hp;intro l a;obtain⟨g,b,h,d⟩:=i.blk a j 1;refine⟨trivial,_,d.bk.rc rfl,?_⟩;refine gdi hp fun e hp=>?_;obtain rfl:=oi hp;exact hq _ b.ext'
theorem zxH{t:Tf}{h:Ht}{ca103 ca104 ca105:C}{m f:M}{Q:V->M->Prop}{rz:Int}(hS:Pre f m)(ha103:Sl f ca103 t.Weeks)(ha104:Sl f ca104 t.Counts)(ha105:Sl f ca105 t.Rates)(hp:zsD t h=some rz)(hq:∀m',Ext m m'->Q (.c (Il rz)) m'):Wc prog tbl 160 [.agg 6 [Il t.From,.bool t.Whole,Il t.Least,ca103,ca104,ca105],.agg 3 [Il h.Day,Il h.Count,Il h.crop]] m Q:=by
 have S0:=hS.st;obtain⟨τ0,_⟩:=zrD;refine zv9 ?_;unfold zsD at hp;intro m0 fa;obtain⟨ga,ha,Na,ia⟩:=S0.blk fa τ0 1;intro m1 ja;obtain⟨J,e,ka,g⟩:=ha.blk ja ga 2;have i:=ia.k ka;refine⟨trivial,_,i.bk.rc rfl,trivial,_,g.bk.rc rfl,?_⟩;obtain⟨Oa,j,hp⟩:=zqd hp;obtain⟨n4,Y,z,j⟩:=zp7 j;obtain⟨Pa,N,n⟩:=ha105.rdS j;refine⟨n4,Y,(by first|exact z|(rw[ha105.slLen];exact z)),_,(N _ e.sub),trivial,_,i.bk.rc rfl,trivial,trivial,_,g.bk.rc rfl,?_⟩;obtain⟨Qa,la,hp⟩:=zqd hp;refine zxD (days:=t.Weeks) (day:=h.Day) e.pre ha103 la fun m9 ma=>?_;obtain⟨d,O⟩:=e.call ma J;have o:=i.k O;have p:=g.k O;refine⟨_,rfl,(by rw[show cmC _=true from zoM (n.noFn)]; exact(N _ d.sub)),(p.bk.rc rfl),(by rw[show cmC _=true from zoM (ha105.noFn)]; exact(o.bk.rc rfl)),?_⟩;obtain⟨Ra,q,hp⟩:=zqd hp;obtain⟨Ha,Z,A,q⟩:=zp7 q;obtain⟨Sa,na,b⟩:=n.rdS q;refine⟨Ha,Z,(by first|exact A|(rw[n.slLen];exact A)),_,(na _ d.sub),trivial,_,o.bk.rc rfl,trivial,trivial,_,p.bk.rc rfl,?_⟩;obtain⟨Ta,oa,hp⟩:=zqd hp;refine zxC (l:=t.Counts) (x:=h.Count) d.pre ha104 oa fun cb pa=>?_;obtain⟨a,P⟩:=d.call pa J;have S:=o.k P;have T:=p.k P;refine⟨_,_,rfl,?_⟩;refine zqS hp (fun qa hp=>?_) fun qa hp=>?_
 ·obtain⟨Ua,r,hp⟩:=zqd hp;obtain⟨Ia,aa,B,r⟩:=zp7 r;refine⟨Ia,aa,(by first|exact B|(rw[b.slLen];exact B)),_,(b.rdI r a.sub),?_⟩;obtain rfl:=oi hp;exact hq _ a.ext'
 refine⟨trivial,_,S.bk.rc rfl,?_⟩;refine gdi hp fun sa hp=>?_;obtain⟨Va,s,hp⟩:=zqd hp;obtain⟨Ja,ba,D,s⟩:=zp7 s;refine⟨Ja,ba,(by first|exact D|(rw[ha104.slLen];exact D)),_,(ha104.rdI s a.sub),trivial,_,S.bk.rc rfl,?_⟩;obtain⟨Wa,u,hp⟩:=zqd hp;obtain⟨Ka,ca,F,u⟩:=zp7 u;refine⟨Ka,ca,(by first|exact F|(rw[ha104.slLen];exact F)),_,(ha104.rdI u a.sub),?_⟩;refine gdi hp fun ta hp=>?_;obtain⟨Xa,w,hp⟩:=zqd hp;obtain⟨La,da,G,w⟩:=zp7 w;refine⟨La,da,(by first|exact G|(rw[b.slLen];exact G)),_,(b.rdI w a.sub),trivial,trivial,_,T.bk.rc rfl,?_⟩;refine gdi hp fun ua hp=>?_;refine gdi hp fun va hp=>?_;refine gdi hp fun wa hp=>?_;refine gdi hp fun xa hp=>?_;obtain⟨Ya,y,hp⟩:=zqd hp;obtain⟨Ma,ea,I,y⟩:=zp7 y;refine⟨Ma,ea,(by first|exact I|(rw[b.slLen];exact I)),_,(b.rdI y a.sub),trivial,trivial,_,T.bk.rc rfl,?_⟩;refine gdi hp fun ya hp=>?_;refine gdi hp fun za hp=>?_;refine gdi hp fun Aa hp=>?_;refine gdi hp fun Ba hp=>?_;refine gdi hp fun Ca hp=>?_;refine gdi hp fun Da hp=>?_;refine gdi hp fun Ea hp=>?_;refine gdi hp fun Fa hp=>?_;refine gdi hp fun Ga hp=>?_;obtain rfl:=oi hp;exact hq _ a.ext'
theorem zxI{l:List Int}{ca100:C}{m f:M}{Q:V->M->Prop}{rz:Int}(hS:Pre f m)(ha100:Sl f ca100 l)(hp:zsF l=some rz)(hq:∀m',Ext m m'->Q (.c (Il rz)) m'):Wc prog tbl 101 [.c ca100] m Q:=by
 have y:=hS.st;obtain⟨D,_⟩:=zrD;refine zwx ?_;unfold zsF at hp;refine⟨ha100.isSl,?_⟩
 try rw[ha100.slLen]
 refine ifd hp (fun p hp=>?_) fun p hp=>?_
 ·obtain rfl:=oi hp;exact hq _ y.ext'
 obtain⟨A,e,hp⟩:=zqd hp;obtain⟨F,j,h,e⟩:=zp7 e;refine⟨F,j,(by first|exact h|(rw[ha100.slLen];exact h)),_,(ha100.rdI e y.sub),ha100.isSl,?_⟩;intro G z
 have hgo:∀(b:Nat) (q:Int) (r:Int) (s:M) (d:Nat->Nat),St (Fm.of m) f f s->zsE l b q r=some rz->G [.c (Il q),.c (Il r)] s:=by
  intro b
  induction b with
  | zero=>intro q r s d a hp; cases hp
  | succ b n=>
   intro q r s d a hp;refine z _ _ _ ?_;rw[zsE] at hp
   try rw[ha100.slLen]
   refine ifd hp (fun t hp=>?_) fun t hp=>?_; rotate_left
   ·obtain rfl:=oi hp;exact hq _ a.ext'
   obtain⟨B,g,hp⟩:=zqd hp;obtain⟨I,o,i,g⟩:=zp7 g;refine⟨I,o,(by first|exact i|(rw[ha100.slLen];exact i)),_,(ha100.rdI g a.sub),?_⟩;refine ifd hp (fun u hp=>?_) fun u hp=>?_
   ·refine gdi hp fun w hp=>?_;exact n _ _ _ d a hp
   refine gdi hp fun x hp=>?_;exact n _ _ _ d a hp
 exact hgo _ _ _ _ D y hp
theorem zxJ{l:List Int}{ca100:C}{m f:M}{Q:V->M->Prop}{rz:Int}(hS:Pre f m)(ha100:Sl f ca100 l)(hp:zsH l=some rz)(hq:∀m',Ext m m'->Q (.c (Il rz)) m'):Wc prog tbl 102 [.c ca100] m Q:=by
 have w:=hS.st;obtain⟨A,_⟩:=zrD;refine zvF ?_;unfold zsH at hp;refine⟨ha100.isSl,?_⟩
 try rw[ha100.slLen]
 refine ifd hp (fun o hp=>?_) fun o hp=>?_
 ·cases hp
 obtain⟨y,d,hp⟩:=zqd hp;obtain⟨B,j,h,d⟩:=zp7 d;refine⟨B,j,(by first|exact h|(rw[ha100.slLen];exact h)),_,(ha100.rdI d w.sub),?_⟩;intro D x
 have hgo:∀(a:Nat) (p:Int) (q:Int) (r:M) (e:Nat->Nat),St (Fm.of m) f f r->zsG l a p q=some rz->D [.c (Il p),.c (Il q)] r:=by
  intro a
  induction a with
  | zero=>intro p q r e b hp; cases hp
  | succ a u=>
   intro p q r e b hp;refine x _ _ _ ?_;rw[zsG] at hp;refine⟨ha100.isSl,?_⟩
   try rw[ha100.slLen]
   refine ifd hp (fun s hp=>?_) fun s hp=>?_; rotate_left
   ·obtain rfl:=oi hp;exact hq _ b.ext'
   obtain⟨z,g,hp⟩:=zqd hp;obtain⟨F,n,i,g⟩:=zp7 g;refine⟨F,n,(by first|exact i|(rw[ha100.slLen];exact i)),_,(ha100.rdI g b.sub),?_⟩;refine gdi hp fun t hp=>?_;exact u _ _ _ e b hp
 exact hgo _ _ _ _ A w hp
theorem zxK{x:Tf}{passes:Tf->Option (Bool)}{b0:Nat}{ca103 ca104 ca105 cb000:C}{m f:M}{Q:V->M->Prop}{rz:Bool}(hS:Pre f m)(ha103:Sl f ca103 x.Weeks)(ha104:Sl f ca104 x.Counts)(ha105:Sl f ca105 x.Rates)(hb0:Bk f b0 1 [cb000])(hb000:zwR f cb000 passes)(hp:zsI x passes=some rz)(hq:∀m',Ext m m'->Q (.c (.bool rz)) m'):Wc prog tbl 146 [.agg 6 [Il x.From,.bool x.Whole,Il x.Least,ca103,ca104,ca105],.c (.ptr b0 0)] m Q:=by
 have o:=hS.st;obtain⟨p,_⟩:=zrD;refine zvw ?_;unfold zsI at hp;intro q b;obtain⟨d,a,j,e⟩:=o.blk b p 1;refine⟨_,(hb0.sub a.sub).rc rfl,_,_,_,_,_,_,e.bk.ra,?_⟩;obtain⟨l,g,hp⟩:=zqd hp;refine hb000 _ _ _ _ _ _ _ _ (Sub.refl _) a.pre ha103 ha104 ha105 g fun r h=>?_;obtain⟨i,n⟩:=a.call h d;refine⟨_,rfl,?_⟩;obtain rfl:=oi hp;exact hq _ i.ext'
theorem zxL{l:List Tf}{p:Tf->Option (Bool)}{ca100 ca200:C}{m f:M}{Q:V->M->Prop}{rz:Int}(hS:Pre f m)(ha100:Sl f ca100 l)(ha200:zwR f ca200 p)(hp:zsK l p=some rz)(hq:∀m',Ext m m'->Q (.c (Il rz)) m'):Wc prog tbl 162 [.c ca100,.c ca200] m Q:=by
 have O:=hS.st;obtain⟨P,_⟩:=zrD;refine zwK ?_;unfold zsK at hp;refine⟨ha100.isSl,?_⟩;intro S B
 have hgo:∀(b:Nat) (z:Int) (j:Int) (n:M) (d:Nat->Nat),St (Fm.of m) f f n->zsJ l p b j=some rz->S [.c (Il z),.c (Il j)] n:=by
  intro b
  induction b with
  | zero=>intro z j n d a hp; cases hp
  | succ b A=>
   intro z j n d a hp;refine B _ _ _ ?_;rw[zsJ] at hp
   try rw[ha100.slLen]
   refine ifd hp (fun o hp=>?_) fun o hp=>?_; rotate_left
   ·obtain rfl:=oi hp;exact hq _ a.ext'
   obtain⟨D,e,hp⟩:=zqd hp;obtain⟨T,i,g,e⟩:=zp7 e;obtain⟨F,G,I,q,r,s,t⟩:=zrH ha100 e;refine⟨T,i,(by first|exact g|(rw[ha100.slLen];exact g)),_,_,_,_,_,_,(q _ a.sub).1,?_⟩;obtain⟨J,u,hp⟩:=zqd hp;refine ha200 _ _ _ _ _ _ _ _ (Sub.refl _) a.pre r s t u fun Y w=>?_;obtain⟨h,N⟩:=a.call w d;refine⟨_,rfl,?_⟩;refine zqS hp (fun x hp=>?_) fun x hp=>?_
   ·obtain rfl:=oi hp;exact hq _ h.ext'
   refine gdi hp fun y hp=>?_;exact A _ _ _ d h hp
 exact hgo _ _ _ _ P O hp
theorem zxM{l:List Tf}{p:Tf->Option (Bool)}{ca100 ca200:C}{m f:M}{Q:V->M->Prop}{rz:Bool}(hS:Pre f m)(ha100:Sl f ca100 l)(ha200:zwR f ca200 p)(hp:zsL l p=some rz)(hq:∀m',Ext m m'->Q (.c (.bool rz)) m'):Wc prog tbl 145 [.c ca100,.c ca200] m Q:=by
 have e:=hS.st;obtain⟨i,_⟩:=zrD;refine zvO ?_;unfold zsL at hp;obtain⟨g,a,hp⟩:=zqd hp;refine zxL (l:=l) (p:=p) e.pre ha100 ha200 a fun j b=>?_;obtain⟨d,h⟩:=e.call b i;refine⟨_,rfl,?_⟩;obtain rfl:=oi hp;exact hq _ d.ext'
theorem zxN{l:List Tf}{passes:Tf->Option (Bool)}{ca100 ca200:C}{m f:M}{Q:V->M->Prop}{rz:Bool}(hS:Pre f m)(ha100:Sl f ca100 l)(ha200:zwR f ca200 passes)(hp:zsM l passes=some rz)(hq:∀m',Ext m m'->Q (.c (.bool rz)) m'):Wc prog tbl 116 [.c ca100,.c ca200] m Q:=by
 have G:=hS.st;obtain⟨I,_⟩:=zrD;refine zv0 ?_;unfold zsM at hp;intro J h;obtain⟨i,j,y,n⟩:=G.blk h I 1;obtain⟨o,b,d,e⟩:=n.freeze j
 have g:zwR o ((C.fn (Fn.func 146) [] [(W.c (C0.ptr m.nxt 0))])) (fun a=>zsI a passes):=by
  intro f' m' a z A B r Q hs hpre q s t hg hq;exact zxK hpre q s t (e.sub hs) ((ha200.sub d.fs).sub hs) hg hq
 obtain⟨D,u,hp⟩:=zqd hp;refine zxM (l:=l) (p:=(fun a=>zsI a passes)) b.pre (ha100.sub d.fs) g u fun N w=>?_;obtain⟨x,F⟩:=b.call w i;refine⟨_,rfl,?_⟩;obtain rfl:=oi hp;exact hq _ x.ext'
theorem zxO{l:List Tf}{p:Tf->Option (Bool)}{ca100 ca200:C}{m f:M}{Q:V->M->Prop}{rz:Int}(hS:Pre f m)(ha100:Sl f ca100 l)(ha200:zwR f ca200 p)(hp:zsO l p=some rz)(hq:∀m',Ext m m'->Q (.c (Il rz)) m'):Wc prog tbl 144 [.c ca100,.c ca200] m Q:=by
 have O:=hS.st;obtain⟨P,_⟩:=zrD;refine zwG ?_;unfold zsO at hp;refine⟨ha100.isSl,?_⟩;intro S B
 have hgo:∀(b:Nat) (z:Int) (j:Int) (n:M) (d:Nat->Nat),St (Fm.of m) f f n->zsN l p b j=some rz->S [.c (Il z),.c (Il j)] n:=by
  intro b
  induction b with
  | zero=>intro z j n d a hp; cases hp
  | succ b A=>
   intro z j n d a hp;refine B _ _ _ ?_;rw[zsN] at hp
   try rw[ha100.slLen]
   refine ifd hp (fun o hp=>?_) fun o hp=>?_; rotate_left
   ·obtain rfl:=oi hp;exact hq _ a.ext'
   obtain⟨D,e,hp⟩:=zqd hp;obtain⟨T,i,g,e⟩:=zp7 e;obtain⟨F,G,I,q,r,s,t⟩:=zrH ha100 e;refine⟨T,i,(by first|exact g|(rw[ha100.slLen];exact g)),_,_,_,_,_,_,(q _ a.sub).1,?_⟩;obtain⟨J,u,hp⟩:=zqd hp;refine ha200 _ _ _ _ _ _ _ _ (Sub.refl _) a.pre r s t u fun Y w=>?_;obtain⟨h,N⟩:=a.call w d;refine⟨_,rfl,?_⟩;refine zqS hp (fun x hp=>?_) fun x hp=>?_
   ·obtain rfl:=oi hp;exact hq _ h.ext'
   refine gdi hp fun y hp=>?_;exact A _ _ _ d h hp
 exact hgo _ _ _ _ P O hp
theorem zxP{l:List Tf}{p:Tf->Option (Bool)}{ca100 ca200:C}{m f:M}{Q:V->M->Prop}{rz:Bool}(hS:Pre f m)(ha100:Sl f ca100 l)(ha200:zwR f ca200 p)(hp:zsP l p=some rz)(hq:∀m',Ext m m'->Q (.c (.bool rz)) m'):Wc prog tbl 114 [.c ca100,.c ca200] m Q:=by
 have e:=hS.st;obtain⟨i,_⟩:=zrD;refine zwA ?_;unfold zsP at hp;obtain⟨g,a,hp⟩:=zqd hp;refine zxO (l:=l) (p:=p) e.pre ha100 ha200 a fun j b=>?_;obtain⟨d,h⟩:=e.call b i;refine⟨_,rfl,?_⟩;obtain rfl:=oi hp;exact hq _ d.ext'
theorem zxQ{x:Clm}{passes:Clm->Option (Bool)}{b0:Nat}{cb000:C}{m f:M}{Q:V->M->Prop}{rz:Bool}(hS:Pre f m)(hb0:Bk f b0 1 [cb000])(hb000:zwS f cb000 passes)(hp:zsQ x passes=some rz)(hq:∀m',Ext m m'->Q (.c (.bool rz)) m'):Wc prog tbl 135 [.agg 6 [Il x.Crop,Il x.Value,Il x.Day.Lo,Il x.Day.Hi,Il x.Count.Lo,Il x.Count.Hi],.c (.ptr b0 0)] m Q:=by
 have o:=hS.st;obtain⟨p,_⟩:=zrD;refine zvx ?_;unfold zsQ at hp;intro q b;obtain⟨d,a,j,e⟩:=o.blk b p 1;refine⟨_,(hb0.sub a.sub).rc rfl,_,_,_,_,_,_,e.bk.ra,?_⟩;obtain⟨l,g,hp⟩:=zqd hp;refine hb000 _ _ _ _ _ (Sub.refl _) a.pre  g fun r h=>?_;obtain⟨i,n⟩:=a.call h d;refine⟨_,rfl,?_⟩;obtain rfl:=oi hp;exact hq _ i.ext'
theorem zxR{l:List Clm}{p:Clm->Option (Bool)}{ca100 ca200:C}{m f:M}{Q:V->M->Prop}{rz:Int}(hS:Pre f m)(ha100:Sl f ca100 l)(ha200:zwS f ca200 p)(hp:zsS l p=some rz)(hq:∀m',Ext m m'->Q (.c (Il rz)) m'):Wc prog tbl 157 [.c ca100,.c ca200] m Q:=by
 have D:=hS.st;obtain⟨F,_⟩:=zrD;refine zwr ?_;unfold zsS at hp;refine⟨ha100.isSl,?_⟩;intro G y
 have hgo:∀(b:Nat) (w:Int) (j:Int) (n:M) (d:Nat->Nat),St (Fm.of m) f f n->zsR l p b j=some rz->G [.c (Il w),.c (Il j)] n:=by
  intro b
  induction b with
  | zero=>intro w j n d a hp; cases hp
  | succ b x=>
   intro w j n d a hp;refine y _ _ _ ?_;rw[zsR] at hp
   try rw[ha100.slLen]
   refine ifd hp (fun o hp=>?_) fun o hp=>?_; rotate_left
   ·obtain rfl:=oi hp;exact hq _ a.ext'
   obtain⟨z,e,hp⟩:=zqd hp;obtain⟨I,i,g,e⟩:=zp7 e;obtain⟨_,q⟩:=zrI ha100 e;refine⟨I,i,(by first|exact g|(rw[ha100.slLen];exact g)),_,_,_,_,_,_,(q _ a.sub).1,?_⟩;obtain⟨A,r,hp⟩:=zqd hp;refine ha200 _ _ _ _ _ (Sub.refl _) a.pre  r fun J s=>?_;obtain⟨h,B⟩:=a.call s d;refine⟨_,rfl,?_⟩;refine zqS hp (fun t hp=>?_) fun t hp=>?_
   ·obtain rfl:=oi hp;exact hq _ h.ext'
   refine gdi hp fun u hp=>?_;exact x _ _ _ d h hp
 exact hgo _ _ _ _ F D hp
theorem zxS{l:List Clm}{p:Clm->Option (Bool)}{ca100 ca200:C}{m f:M}{Q:V->M->Prop}{rz:Bool}(hS:Pre f m)(ha100:Sl f ca100 l)(ha200:zwS f ca200 p)(hp:zsT l p=some rz)(hq:∀m',Ext m m'->Q (.c (.bool rz)) m'):Wc prog tbl 134 [.c ca100,.c ca200] m Q:=by
 have e:=hS.st;obtain⟨i,_⟩:=zrD;refine zwm ?_;unfold zsT at hp;obtain⟨g,a,hp⟩:=zqd hp;refine zxR (l:=l) (p:=p) e.pre ha100 ha200 a fun j b=>?_;obtain⟨d,h⟩:=e.call b i;refine⟨_,rfl,?_⟩;obtain rfl:=oi hp;exact hq _ d.ext'
theorem zxT{l:List Clm}{passes:Clm->Option (Bool)}{ca100 ca200:C}{m f:M}{Q:V->M->Prop}{rz:Bool}(hS:Pre f m)(ha100:Sl f ca100 l)(ha200:zwS f ca200 passes)(hp:zsU l passes=some rz)(hq:∀m',Ext m m'->Q (.c (.bool rz)) m'):Wc prog tbl 107 [.c ca100,.c ca200] m Q:=by
 have y:=hS.st;obtain⟨z,_⟩:=zrD;refine zvG ?_;unfold zsU at hp;intro A h;obtain⟨i,j,u,n⟩:=y.blk h z 1;obtain⟨o,b,d,e⟩:=n.freeze j
 have g:zwS o ((C.fn (Fn.func 135) [] [(W.c (C0.ptr m.nxt 0))])) (fun a=>zsQ a passes):=by
  intro f' m' a r Q hs hpre  hg hq;exact zxQ hpre (e.sub hs) ((ha200.sub d.fs).sub hs) hg hq
 obtain⟨w,q,hp⟩:=zqd hp;refine zxS (l:=l) (p:=(fun a=>zsQ a passes)) b.pre (ha100.sub d.fs) g q fun B s=>?_;obtain⟨t,x⟩:=b.call s i;refine⟨_,rfl,?_⟩;obtain rfl:=oi hp;exact hq _ t.ext'
theorem zxU{x:Int}{passes:Int->Option (Bool)}{b0:Nat}{cb000:C}{m f:M}{Q:V->M->Prop}{rz:Bool}(hS:Pre f m)(hb0:Bk f b0 1 [cb000])(hb000:zwT f cb000 passes)(hp:zsV x passes=some rz)(hq:∀m',Ext m m'->Q (.c (.bool rz)) m'):Wc prog tbl 164 [.c (Il x),.c (.ptr b0 0)] m Q:=by
 have e:=hS.st;obtain⟨i,_⟩:=zrD;refine zvy ?_;unfold zsV at hp;refine⟨_,(hb0.sub e.sub).rc rfl,?_⟩;obtain⟨g,a,hp⟩:=zqd hp;refine hb000 _ _ _ _ _ (Sub.refl _) e.pre  a fun j b=>?_;obtain⟨d,h⟩:=e.call b i;refine⟨_,rfl,?_⟩;obtain rfl:=oi hp;exact hq _ d.ext'
theorem zxV{l:List Int}{p:Int->Option (Bool)}{ca100 ca200:C}{m f:M}{Q:V->M->Prop}{rz:Int}(hS:Pre f m)(ha100:Sl f ca100 l)(ha200:zwT f ca200 p)(hp:zsX l p=some rz)(hq:∀m',Ext m m'->Q (.c (Il rz)) m'):Wc prog tbl 175 [.c ca100,.c ca200] m Q:=by
 have B:=hS.st;obtain⟨D,_⟩:=zrD;refine zwv ?_;unfold zsX at hp;refine⟨ha100.isSl,?_⟩;intro F x
 have hgo:∀(b:Nat) (u:Int) (j:Int) (n:M) (d:Nat->Nat),St (Fm.of m) f f n->zsW l p b j=some rz->F [.c (Il u),.c (Il j)] n:=by
  intro b
  induction b with
  | zero=>intro u j n d a hp; cases hp
  | succ b w=>
   intro u j n d a hp;refine x _ _ _ ?_;rw[zsW] at hp
   try rw[ha100.slLen]
   refine ifd hp (fun o hp=>?_) fun o hp=>?_; rotate_left
   ·obtain rfl:=oi hp;exact hq _ a.ext'
   obtain⟨y,e,hp⟩:=zqd hp;obtain⟨G,i,g,e⟩:=zp7 e;refine⟨G,i,(by first|exact g|(rw[ha100.slLen];exact g)),_,(ha100.rdI e a.sub),?_⟩;obtain⟨z,q,hp⟩:=zqd hp;refine ha200 _ _ _ _ _ (Sub.refl _) a.pre  q fun I r=>?_;obtain⟨h,A⟩:=a.call r d;refine⟨_,rfl,?_⟩;refine zqS hp (fun s hp=>?_) fun s hp=>?_
   ·obtain rfl:=oi hp;exact hq _ h.ext'
   refine gdi hp fun t hp=>?_;exact w _ _ _ d h hp
 exact hgo _ _ _ _ D B hp
theorem zxW{l:List Int}{p:Int->Option (Bool)}{ca100 ca200:C}{m f:M}{Q:V->M->Prop}{rz:Bool}(hS:Pre f m)(ha100:Sl f ca100 l)(ha200:zwT f ca200 p)(hp:zsY l p=some rz)(hq:∀m',Ext m m'->Q (.c (.bool rz)) m'):Wc prog tbl 163 [.c ca100,.c ca200] m Q:=by
 have e:=hS.st;obtain⟨i,_⟩:=zrD;refine zvS ?_;unfold zsY at hp;obtain⟨g,a,hp⟩:=zqd hp;refine zxV (l:=l) (p:=p) e.pre ha100 ha200 a fun j b=>?_;obtain⟨d,h⟩:=e.call b i;refine⟨_,rfl,?_⟩;obtain rfl:=oi hp;exact hq _ d.ext'
theorem zxX{l:List Int}{passes:Int->Option (Bool)}{ca100 ca200:C}{m f:M}{Q:V->M->Prop}{rz:Bool}(hS:Pre f m)(ha100:Sl f ca100 l)(ha200:zwT f ca200 passes)(hp:zsZ l passes=some rz)(hq:∀m',Ext m m'->Q (.c (.bool rz)) m'):Wc prog tbl 148 [.c ca100,.c ca200] m Q:=by
 have y:=hS.st;obtain⟨z,_⟩:=zrD;refine zwp ?_;unfold zsZ at hp;intro A h;obtain⟨i,j,u,n⟩:=y.blk h z 1;obtain⟨o,b,d,e⟩:=n.freeze j
 have g:zwT o ((C.fn (Fn.func 164) [] [(W.c (C0.ptr m.nxt 0))])) (fun a=>zsV a passes):=by
  intro f' m' a r Q hs hpre  hg hq;exact zxU hpre (e.sub hs) ((ha200.sub d.fs).sub hs) hg hq
 obtain⟨w,q,hp⟩:=zqd hp;refine zxW (l:=l) (p:=(fun a=>zsV a passes)) b.pre (ha100.sub d.fs) g q fun B s=>?_;obtain⟨t,x⟩:=b.call s i;refine⟨_,rfl,?_⟩;obtain rfl:=oi hp;exact hq _ t.ext'
theorem zxY{x:List Int}{passes:List Int->Option (Bool)}{b0:Nat}{ca100 cb000:C}{m f:M}{Q:V->M->Prop}{rz:Bool}(hS:Pre f m)(ha100:Sl f ca100 x)(hb0:Bk f b0 1 [cb000])(hb000:zwU f cb000 passes)(hp:zs0 x passes=some rz)(hq:∀m',Ext m m'->Q (.c (.bool rz)) m'):Wc prog tbl 178 [.c ca100,.c (.ptr b0 0)] m Q:=by
 have e:=hS.st;obtain⟨i,_⟩:=zrD;refine zvz ?_;unfold zs0 at hp;refine⟨_,(hb0.sub e.sub).rc rfl,?_⟩;obtain⟨g,a,hp⟩:=zqd hp;refine hb000 _ _ _ _ _ _ (Sub.refl _) e.pre ha100 a fun j b=>?_;obtain⟨d,h⟩:=e.call b i;refine⟨_,rfl,?_⟩;obtain rfl:=oi hp;exact hq _ d.ext'
theorem zxZ{l:List (List Int)}{p:List Int->Option (Bool)}{ca100 ca200:C}{m f:M}{Q:V->M->Prop}{rz:Int}(hS:Pre f m)(ha100:Sl f ca100 l)(ha200:zwU f ca200 p)(hp:zs2 l p=some rz)(hq:∀m',Ext m m'->Q (.c (Il rz)) m'):Wc prog tbl 182 [.c ca100,.c ca200] m Q:=by
 have G:=hS.st;obtain⟨I,_⟩:=zrD;refine zvW ?_;unfold zs2 at hp;refine⟨ha100.isSl,?_⟩;intro J z
 have hgo:∀(b:Nat) (x:Int) (j:Int) (n:M) (d:Nat->Nat),St (Fm.of m) f f n->zs1 l p b j=some rz->J [.c (Il x),.c (Il j)] n:=by
  intro b
  induction b with
  | zero=>intro x j n d a hp; cases hp
  | succ b y=>
   intro x j n d a hp;refine z _ _ _ ?_;rw[zs1] at hp
   try rw[ha100.slLen]
   refine ifd hp (fun o hp=>?_) fun o hp=>?_; rotate_left
   ·obtain rfl:=oi hp;exact hq _ a.ext'
   obtain⟨A,e,hp⟩:=zqd hp;obtain⟨N,i,g,e⟩:=zp7 e;obtain⟨B,q,r⟩:=ha100.rdS e;refine⟨N,i,(by first|exact g|(rw[ha100.slLen];exact g)),_,(q _ a.sub),?_⟩;obtain⟨D,s,hp⟩:=zqd hp;refine ha200 _ _ _ _ _ _ (Sub.refl _) a.pre r s fun O t=>?_;obtain⟨h,F⟩:=a.call t d;refine⟨_,rfl,?_⟩;refine zqS hp (fun u hp=>?_) fun u hp=>?_
   ·obtain rfl:=oi hp;exact hq _ h.ext'
   refine gdi hp fun w hp=>?_;exact y _ _ _ d h hp
 exact hgo _ _ _ _ I G hp
theorem zx0{l:List (List Int)}{p:List Int->Option (Bool)}{ca100 ca200:C}{m f:M}{Q:V->M->Prop}{rz:Bool}(hS:Pre f m)(ha100:Sl f ca100 l)(ha200:zwU f ca200 p)(hp:zs3 l p=some rz)(hq:∀m',Ext m m'->Q (.c (.bool rz)) m'):Wc prog tbl 177 [.c ca100,.c ca200] m Q:=by
 have e:=hS.st;obtain⟨i,_⟩:=zrD;refine zvV ?_;unfold zs3 at hp;obtain⟨g,a,hp⟩:=zqd hp;refine zxZ (l:=l) (p:=p) e.pre ha100 ha200 a fun j b=>?_;obtain⟨d,h⟩:=e.call b i;refine⟨_,rfl,?_⟩;obtain rfl:=oi hp;exact hq _ d.ext'
theorem zx1{l:List (List Int)}{passes:List Int->Option (Bool)}{ca100 ca200:C}{m f:M}{Q:V->M->Prop}{rz:Bool}(hS:Pre f m)(ha100:Sl f ca100 l)(ha200:zwU f ca200 passes)(hp:zs4 l passes=some rz)(hq:∀m',Ext m m'->Q (.c (.bool rz)) m'):Wc prog tbl 167 [.c ca100,.c ca200] m Q:=by
 have A:=hS.st;obtain⟨B,_⟩:=zrD;refine zwt ?_;unfold zs4 at hp;intro D h;obtain⟨i,j,w,n⟩:=A.blk h B 1;obtain⟨o,b,d,e⟩:=n.freeze j
 have g:zwU o ((C.fn (Fn.func 178) [] [(W.c (C0.ptr m.nxt 0))])) (fun a=>zs0 a passes):=by
  intro f' m' a x r Q hs hpre q hg hq;exact zxY hpre q (e.sub hs) ((ha200.sub d.fs).sub hs) hg hq
 obtain⟨y,s,hp⟩:=zqd hp;refine zx0 (l:=l) (p:=(fun a=>zs0 a passes)) b.pre (ha100.sub d.fs) g s fun F t=>?_;obtain⟨u,z⟩:=b.call t i;refine⟨_,rfl,?_⟩;obtain rfl:=oi hp;exact hq _ u.ext'
theorem zx2{x:List (List Int)}{passes:List (List Int)->Option (Bool)}{b0:Nat}{ca100 cb000:C}{m f:M}{Q:V->M->Prop}{rz:Bool}(hS:Pre f m)(ha100:Sl f ca100 x)(hb0:Bk f b0 1 [cb000])(hb000:zwV f cb000 passes)(hp:zs5 x passes=some rz)(hq:∀m',Ext m m'->Q (.c (.bool rz)) m'):Wc prog tbl 166 [.c ca100,.c (.ptr b0 0)] m Q:=by
 have e:=hS.st;obtain⟨i,_⟩:=zrD;refine zvA ?_;unfold zs5 at hp;refine⟨_,(hb0.sub e.sub).rc rfl,?_⟩;obtain⟨g,a,hp⟩:=zqd hp;refine hb000 _ _ _ _ _ _ (Sub.refl _) e.pre ha100 a fun j b=>?_;obtain⟨d,h⟩:=e.call b i;refine⟨_,rfl,?_⟩;obtain rfl:=oi hp;exact hq _ d.ext'
theorem zx3{l:List (List (List Int))}{p:List (List Int)->Option (Bool)}{ca100 ca200:C}{m f:M}{Q:V->M->Prop}{rz:Int}(hS:Pre f m)(ha100:Sl f ca100 l)(ha200:zwV f ca200 p)(hp:zs7 l p=some rz)(hq:∀m',Ext m m'->Q (.c (Il rz)) m'):Wc prog tbl 176 [.c ca100,.c ca200] m Q:=by
 have G:=hS.st;obtain⟨I,_⟩:=zrD;refine zwN ?_;unfold zs7 at hp;refine⟨ha100.isSl,?_⟩;intro J z
 have hgo:∀(b:Nat) (x:Int) (j:Int) (n:M) (d:Nat->Nat),St (Fm.of m) f f n->zs6 l p b j=some rz->J [.c (Il x),.c (Il j)] n:=by
  intro b
  induction b with
  | zero=>intro x j n d a hp; cases hp
  | succ b y=>
   intro x j n d a hp;refine z _ _ _ ?_;rw[zs6] at hp
   try rw[ha100.slLen]
   refine ifd hp (fun o hp=>?_) fun o hp=>?_; rotate_left
   ·obtain rfl:=oi hp;exact hq _ a.ext'
   obtain⟨A,e,hp⟩:=zqd hp;obtain⟨N,i,g,e⟩:=zp7 e;obtain⟨B,q,r⟩:=ha100.rdS e;refine⟨N,i,(by first|exact g|(rw[ha100.slLen];exact g)),_,(q _ a.sub),?_⟩;obtain⟨D,s,hp⟩:=zqd hp;refine ha200 _ _ _ _ _ _ (Sub.refl _) a.pre r s fun O t=>?_;obtain⟨h,F⟩:=a.call t d;refine⟨_,rfl,?_⟩;refine zqS hp (fun u hp=>?_) fun u hp=>?_
   ·obtain rfl:=oi hp;exact hq _ h.ext'
   refine gdi hp fun w hp=>?_;exact y _ _ _ d h hp
 exact hgo _ _ _ _ I G hp
theorem zx4{l:List (List (List Int))}{p:List (List Int)->Option (Bool)}{ca100 ca200:C}{m f:M}{Q:V->M->Prop}{rz:Bool}(hS:Pre f m)(ha100:Sl f ca100 l)(ha200:zwV f ca200 p)(hp:zs8 l p=some rz)(hq:∀m',Ext m m'->Q (.c (.bool rz)) m'):Wc prog tbl 165 [.c ca100,.c ca200] m Q:=by
 have e:=hS.st;obtain⟨i,_⟩:=zrD;refine zwa ?_;unfold zs8 at hp;obtain⟨g,a,hp⟩:=zqd hp;refine zx3 (l:=l) (p:=p) e.pre ha100 ha200 a fun j b=>?_;obtain⟨d,h⟩:=e.call b i;refine⟨_,rfl,?_⟩;obtain rfl:=oi hp;exact hq _ d.ext'
theorem zx5{l:List (List (List Int))}{passes:List (List Int)->Option (Bool)}{ca100 ca200:C}{m f:M}{Q:V->M->Prop}{rz:Bool}(hS:Pre f m)(ha100:Sl f ca100 l)(ha200:zwV f ca200 passes)(hp:zs9 l passes=some rz)(hq:∀m',Ext m m'->Q (.c (.bool rz)) m'):Wc prog tbl 149 [.c ca100,.c ca200] m Q:=by
 have A:=hS.st;obtain⟨B,_⟩:=zrD;refine zwH ?_;unfold zs9 at hp;intro D h;obtain⟨i,j,w,n⟩:=A.blk h B 1;obtain⟨o,b,d,e⟩:=n.freeze j
 have g:zwV o ((C.fn (Fn.func 166) [] [(W.c (C0.ptr m.nxt 0))])) (fun a=>zs5 a passes):=by
  intro f' m' a x r Q hs hpre q hg hq;exact zx2 hpre q (e.sub hs) ((ha200.sub d.fs).sub hs) hg hq
 obtain⟨y,s,hp⟩:=zqd hp;refine zx4 (l:=l) (p:=(fun a=>zs5 a passes)) b.pre (ha100.sub d.fs) g s fun F t=>?_;obtain⟨u,z⟩:=b.call t i;refine⟨_,rfl,?_⟩;obtain rfl:=oi hp;exact hq _ u.ext'
theorem zx6{r:Rg}{passes:Int->Option (Bool)}{ca200:C}{m f:M}{Q:V->M->Prop}{rz:Bool}(hS:Pre f m)(ha200:zwT f ca200 passes)(hp:zta r passes=some rz)(hq:∀m',Ext m m'->Q (.c (.bool rz)) m'):Wc prog tbl 137 [.agg 2 [Il r.Lo,Il r.Hi],.c ca200] m Q:=by
 have y:=hS.st;obtain⟨z,_⟩:=zrD;refine zvM ?_;unfold zta at hp;intro A g;obtain⟨e,b,t,a⟩:=y.blk g z 1;refine⟨trivial,_,a.bk.rc rfl,trivial,_,a.bk.rc rfl,?_⟩;refine ifd hp (fun h hp=>?_) fun h hp=>?_; rotate_left
 ·obtain rfl:=oi hp;exact hq _ b.ext'
 refine⟨trivial,_,a.bk.rc rfl,?_⟩;obtain⟨u,i,hp⟩:=zqd hp;refine ha200 _ _ _ _ _ (Sub.refl _) b.pre  i fun B j=>?_;obtain⟨d,l⟩:=b.call j e;have n:=a.k l;refine⟨_,rfl,?_⟩;refine zqS hp (fun o hp=>?_) fun o hp=>?_; rotate_left
 ·obtain rfl:=oi hp;exact hq _ d.ext'
 refine⟨trivial,_,n.bk.rc rfl,?_⟩;obtain⟨w,p,hp⟩:=zqd hp;refine ha200 _ _ _ _ _ (Sub.refl _) d.pre  p fun D q=>?_;obtain⟨s,x⟩:=d.call q e;refine⟨_,rfl,?_⟩;obtain rfl:=oi hp;exact hq _ s.ext'
theorem zx7{t:Tf}{rates:List Int}{ca103 ca104 ca105 ca200:C}{m f:M}{Q:V->M->Prop}{rz:Bool}(hS:Pre f m)(_ha103:Sl f ca103 t.Weeks)(ha104:Sl f ca104 t.Counts)(_ha105:Sl f ca105 t.Rates)(ha200:Sl f ca200 rates)(hp:ztb t rates=some rz)(hq:∀m',Ext m m'->Q (.c (.bool rz)) m'):Wc prog tbl 168 [.agg 6 [Il t.From,.bool t.Whole,Il t.Least,ca103,ca104,ca105],.c ca200] m Q:=by
 have u:=hS.st;obtain⟨w,_⟩:=zrD;refine zwL ?_;unfold ztb at hp;intro x e;obtain⟨g,b,p,h⟩:=u.blk e w 1;refine⟨ha200.isSl,trivial,_,h.bk.rc rfl,ha104.isSl,?_⟩
 try rw[ha200.slLen]
 try rw[ha104.slLen]
 refine ifd hp (fun i hp=>?_) fun i hp=>?_; rotate_left
 ·obtain rfl:=oi hp;exact hq _ b.ext'
 have d:zwT f ((C.fn (Fn.func 147) [] [])) (fun a=>zsl a):=by
  intro f' m' a r Q hs hpre  hg hq;exact zxs hpre  hg hq
 obtain⟨q,j,hp⟩:=zqd hp;refine zxX (l:=rates) (passes:=(fun a=>zsl a)) b.pre ha200 d j fun y n=>?_;obtain⟨o,s⟩:=b.call n g;refine⟨_,rfl,?_⟩;obtain rfl:=oi hp;exact hq _ o.ext'
theorem zx8{t:Tf}{weeks:List (List Int)}{ca103 ca104 ca105 ca200:C}{m f:M}{Q:V->M->Prop}{rz:Bool}(hS:Pre f m)(ha103:Sl f ca103 t.Weeks)(ha104:Sl f ca104 t.Counts)(ha105:Sl f ca105 t.Rates)(ha200:Sl f ca200 weeks)(hp:ztc t weeks=some rz)(hq:∀m',Ext m m'->Q (.c (.bool rz)) m'):Wc prog tbl 150 [.agg 6 [Il t.From,.bool t.Whole,Il t.Least,ca103,ca104,ca105],.c ca200] m Q:=by
 have A:=hS.st;obtain⟨B,_⟩:=zrD;refine zvP ?_;unfold ztc at hp;intro F g;obtain⟨h,b,w,d⟩:=A.blk g B 1;refine⟨ha200.isSl,trivial,_,d.bk.rc rfl,ha103.isSl,?_⟩
 try rw[ha200.slLen]
 try rw[ha103.slLen]
 refine ifd hp (fun i hp=>?_) fun i hp=>?_; rotate_left
 ·obtain rfl:=oi hp;exact hq _ b.ext'
 refine⟨_,_,_,_,_,_,d.bk.ra,?_⟩;obtain⟨q,s,u⟩:∃ws,zaE vW [.agg 6 [Il t.From,.bool t.Whole,Il t.Least,ca103,ca104,ca105]]=some ws/\zbZ wV ws=[.agg 6 [Il t.From,.bool t.Whole,Il t.Least,ca103,ca104,ca105]]:=(zqo (zqm (zqh rfl (zqh rfl (zqh rfl (zqh ha103.noFn (zqh ha104.noFn (zqh ha105.noFn zqi))))))) zqn);rw[s,zd3]
 have e:zwU f ((C.fn (Fn.func 168) q [])) (fun a=>ztb t a):=by
  intro f' m' a x r Q hs hpre j hg hq
  show Wc prog tbl 168 (appS (zbZ wV q) _) m' Q
  rw[u];exact zx7 hpre (ha103.sub hs) (ha104.sub hs) (ha105.sub hs) j hg hq
 obtain⟨y,n,hp⟩:=zqd hp;refine zx1 (l:=weeks) (passes:=(fun a=>ztb t a)) b.pre ha200 e n fun D o=>?_;obtain⟨p,z⟩:=b.call o h;refine⟨_,rfl,?_⟩;obtain rfl:=oi hp;exact hq _ p.ext'
theorem zx9{t:Tf}{ca103 ca104 ca105:C}{m f:M}{Q:V->M->Prop}{rz:Bool}(hS:Pre f m)(ha103:Sl f ca103 t.Weeks)(ha104:Sl f ca104 t.Counts)(ha105:Sl f ca105 t.Rates)(hp:ztd t=some rz)(hq:∀m',Ext m m'->Q (.c (.bool rz)) m'):Wc prog tbl 117 [.agg 6 [Il t.From,.bool t.Whole,Il t.Least,ca103,ca104,ca105]] m Q:=by
 have S0:=hS.st;obtain⟨τ0,_⟩:=zrD;refine zwj ?_;unfold ztd at hp;intro m0 G;obtain⟨a,u,wa,w⟩:=S0.blk G τ0 1;refine⟨trivial,_,w.bk.rc rfl,?_⟩;obtain⟨xa,I,hp⟩:=zqd hp;refine zxq (n:=t.From) u.pre  I fun m3 J=>?_;obtain⟨h,N⟩:=u.call J a;have x:=w.k N;refine⟨_,rfl,?_⟩;refine zqS hp (fun O hp=>?_) fun O hp=>?_; rotate_left
 ·obtain rfl:=oi hp;exact hq _ h.ext'
 refine⟨trivial,_,x.bk.rc rfl,?_⟩;obtain⟨ya,P,hp⟩:=zqd hp;refine zxs (n:=t.Least) h.pre  P fun m7 S=>?_;obtain⟨i,T⟩:=h.call S a;have y:=x.k T;refine⟨_,rfl,?_⟩;refine zqS hp (fun Y hp=>?_) fun Y hp=>?_; rotate_left
 ·obtain rfl:=oi hp;exact hq _ i.ext'
 refine⟨trivial,_,y.bk.rc rfl,?_⟩;obtain⟨za,Z,hp⟩:=zqd hp;refine zxt (l:=t.Weeks) i.pre ha103 Z fun Ia aa=>?_;obtain⟨j,ba⟩:=i.call aa a;have z:=y.k ba;refine⟨_,rfl,?_⟩;refine zqS hp (fun ca hp=>?_) fun ca hp=>?_; rotate_left
 ·obtain rfl:=oi hp;exact hq _ j.ext'
 refine⟨trivial,_,z.bk.rc rfl,?_⟩
 have D:zwT f ((C.fn (Fn.func 138) [] [])) (fun e=>zsj e):=by
  intro f' m' e r Q hs hpre  hg hq;exact zxq hpre  hg hq
 obtain⟨Aa,da,hp⟩:=zqd hp;refine zxX (l:=t.Weeks) (passes:=(fun e=>zsj e)) j.pre ha103 D da fun Ja ea=>?_;obtain⟨o,fa⟩:=j.call ea a;have A:=z.k fa;refine⟨_,rfl,?_⟩;refine zqS hp (fun ga hp=>?_) fun ga hp=>?_; rotate_left
 ·obtain rfl:=oi hp;exact hq _ o.ext'
 refine⟨trivial,_,A.bk.rc rfl,?_⟩;obtain⟨Ba,ha,hp⟩:=zqd hp;refine zxt (l:=t.Counts) o.pre ha104 ha fun Ka ia=>?_;obtain⟨b,ja⟩:=o.call ia a;have d:=A.k ja;refine⟨_,rfl,?_⟩;refine zqS hp (fun ka hp=>?_) fun ka hp=>?_; rotate_left
 ·obtain rfl:=oi hp;exact hq _ b.ext'
 refine⟨trivial,_,d.bk.rc rfl,trivial,_,d.bk.rc rfl,ha104.isSl,?_⟩;obtain⟨B,hp⟩:=zqe hp;refine⟨(by first|exact B|(rw[ha104.slLen];exact B)),?_⟩;obtain⟨Ca,p,hp⟩:=zqd hp;obtain⟨va,q,s,p⟩:=zp7 p;refine⟨va,(by first|exact q|(rw[ha104.slLen];exact q)),(by first|exact s|(rw[ha104.slLen];exact s)),_,(ha104.rdI p b.sub),?_⟩;refine ifd hp (fun la hp=>?_) fun la hp=>?_; rotate_left
 ·obtain rfl:=oi hp;exact hq _ b.ext'
 refine⟨trivial,_,d.bk.rc rfl,ha105.isSl,?_⟩
 try rw[ha105.slLen]
 refine ifd hp (fun ma hp=>?_) fun ma hp=>?_; rotate_left
 ·obtain rfl:=oi hp;exact hq _ b.ext'
 refine⟨trivial,_,d.bk.rc rfl,_,_,_,_,_,_,d.bk.ra,?_⟩;obtain⟨sa,ta,ua⟩:∃ws,zaE vW [.agg 6 [Il t.From,.bool t.Whole,Il t.Least,ca103,ca104,ca105]]=some ws/\zbZ wV ws=[.agg 6 [Il t.From,.bool t.Whole,Il t.Least,ca103,ca104,ca105]]:=(zqo (zqm (zqh rfl (zqh rfl (zqh rfl (zqh ha103.noFn (zqh ha104.noFn (zqh ha105.noFn zqi))))))) zqn);rw[ta,zd3]
 have F:zwV f ((C.fn (Fn.func 150) sa [])) (fun g=>ztc t g):=by
  intro f' m' g Da r Q hs hpre na hg hq
  show Wc prog tbl 150 (appS (zbZ wV sa) _) m' Q
  rw[ua];exact zx8 hpre (ha103.sub hs) (ha104.sub hs) (ha105.sub hs) na hg hq
 obtain⟨Ea,oa,hp⟩:=zqd hp;refine zx5 (l:=t.Rates) (passes:=(fun g=>ztc t g)) b.pre ha105 F oa fun La pa=>?_;obtain⟨qa,Fa⟩:=b.call pa a;refine⟨_,rfl,?_⟩;obtain rfl:=oi hp;exact hq _ qa.ext'
theorem zya{l:List Tf}{ca100:C}{m f:M}{Q:V->M->Prop}{rz:Bool}(hS:Pre f m)(ha100:Sl f ca100 l)(hp:zte l=some rz)(hq:∀m',Ext m m'->Q (.c (.bool rz)) m'):Wc prog tbl 91 [.c ca100] m Q:=by
 have o:=hS.st;obtain⟨x,_⟩:=zrD;refine w91 ?_;unfold zte at hp;refine⟨ha100.isSl,?_⟩
 try rw[ha100.slLen]
 refine ifd hp (fun d hp=>?_) fun d hp=>?_
 ·obtain rfl:=oi hp;exact hq _ o.ext'
 have b:zwR f ((C.fn (Fn.func 115) [] [])) (fun a=>zss a):=by
  intro f' m' a q s t r Q hs hpre e g h hg hq;exact zxx hpre e g h hg hq
 obtain⟨u,i,hp⟩:=zqd hp;refine zxP (l:=l) (p:=(fun a=>zss a)) o.pre ha100 b i fun y j=>?_;obtain⟨n,w⟩:=o.call j x;refine⟨_,rfl,?_⟩;obtain rfl:=oi hp;exact hq _ n.ext'
theorem zyb{l:List Tf}{ca100:C}{m f:M}{Q:V->M->Prop}{rz:Bool}(hS:Pre f m)(ha100:Sl f ca100 l)(hp:ztf l=some rz)(hq:∀m',Ext m m'->Q (.c (.bool rz)) m'):Wc prog tbl 92 [.c ca100] m Q:=by
 have S:=hS.st;obtain⟨n,_⟩:=zrD;refine w92 ?_;unfold ztf at hp
 have i:zwR f ((C.fn (Fn.func 117) [] [])) (fun a=>ztd a):=by
  intro f' m' a aa ba ca r Q hs hpre o p q hg hq;exact zx9 hpre o p q hg hq
 obtain⟨da,s,hp⟩:=zqd hp;refine zxN (l:=l) (passes:=(fun a=>ztd a)) S.pre ha100 i s fun m1 t=>?_;obtain⟨d,ea⟩:=S.call t n;refine⟨_,rfl,?_⟩;refine zqS hp (fun u hp=>?_) fun u hp=>?_; rotate_left
 ·obtain rfl:=oi hp;exact hq _ d.ext'
 obtain⟨w,x,hp⟩:=zqd hp;refine zxu (l:=l) d.pre ha100 x fun m4 y fa z A=>?_;obtain⟨g,h⟩:=d.callG z n;refine⟨_,rfl,?_⟩;obtain⟨ga,B,hp⟩:=zqd hp;refine zxt (l:=w) g.pre A B fun m7 D=>?_;obtain⟨e,ha⟩:=g.call D n;refine⟨_,rfl,?_⟩;refine zqS hp (fun F hp=>?_) fun F hp=>?_; rotate_left
 ·obtain rfl:=oi hp;exact hq _ e.ext'
 obtain⟨T,Y,Z⟩:∃ws,zaE vW [.c ca100]=some ws/\zbZ wV ws=[.c ca100]:=(zqo (zql ha100.noFn) zqn);rw[Y,zd3]
 have j:zwR y ((C.fn (Fn.func 120) T [])) (fun b=>zsq l b):=by
  intro f' m' b ia ja ka r Q hs hpre G I J hg hq
  show Wc prog tbl 120 (appS (zbZ wV T) _) m' Q
  rw[Z];exact zxv hpre ((ha100.sub h.fs).sub hs) G I J hg hq
 obtain⟨la,N,hp⟩:=zqd hp;refine zxN (l:=l) (passes:=(fun b=>zsq l b)) e.pre (ha100.sub h.fs) j N fun na O=>?_;obtain⟨P,ma⟩:=e.call O n;refine⟨_,rfl,?_⟩;obtain rfl:=oi hp;exact hq _ P.ext'
theorem zyc{l:List Tf}{c:Clm}{ca100:C}{m f:M}{Q:V->M->Prop}{rz:Bool}(hS:Pre f m)(ha100:Sl f ca100 l)(hp:ztg l c=some rz)(hq:∀m',Ext m m'->Q (.c (.bool rz)) m'):Wc prog tbl 108 [.c ca100,.agg 6 [Il c.Crop,Il c.Value,Il c.Day.Lo,Il c.Day.Hi,Il c.Count.Lo,Il c.Count.Hi]] m Q:=by
 have S0:=hS.st;obtain⟨τ0,_⟩:=zrD;refine zvY ?_;unfold ztg at hp;intro m0 w;obtain⟨a,o,aa,p⟩:=S0.blk w τ0 1;refine⟨trivial,_,p.bk.rc rfl,?_⟩;obtain⟨ba,x,hp⟩:=zqd hp;refine zxw (l:=l) (n:=c.Crop) o.pre ha100 x fun m3 y=>?_;obtain⟨g,z⟩:=o.call y a;have q:=p.k z;refine⟨_,rfl,?_⟩;refine zqS hp (fun A hp=>?_) fun A hp=>?_; rotate_left
 ·obtain rfl:=oi hp;exact hq _ g.ext'
 refine⟨trivial,_,q.bk.rc rfl,?_⟩;obtain⟨ca,B,hp⟩:=zqd hp;refine zxo (r:=({ Lo:=(0:Int),Hi:=(100000:Int) }:Rg)) (n:=c.Value) g.pre  B fun m7 D=>?_;obtain⟨h,F⟩:=g.call D a;have s:=q.k F;refine⟨_,rfl,?_⟩;refine zqS hp (fun G hp=>?_) fun G hp=>?_; rotate_left
 ·obtain rfl:=oi hp;exact hq _ h.ext'
 refine⟨trivial,_,_,s.bk.rp (k:=2) (j:=2) rfl (by omega),?_⟩
 have t:zwT f ((C.fn (Fn.func 138) [] [])) (fun b=>zsj b):=by
  intro f' m' b r Q hs hpre  hg hq;exact zxq hpre  hg hq
 obtain⟨da,I,hp⟩:=zqd hp;refine zx6 (r:=c.Day) (passes:=(fun b=>zsj b)) h.pre t I fun ia J=>?_;obtain⟨d,N⟩:=h.call J a;have i:=s.k N;refine⟨_,rfl,?_⟩;refine zqS hp (fun O hp=>?_) fun O hp=>?_; rotate_left
 ·obtain rfl:=oi hp;exact hq _ d.ext'
 refine⟨trivial,trivial,_,i.bk.rc rfl,trivial,trivial,_,i.bk.rc rfl,?_⟩;refine gdi hp fun P hp=>?_;refine ifd hp (fun S hp=>?_) fun S hp=>?_; rotate_left
 ·obtain rfl:=oi hp;exact hq _ d.ext'
 refine⟨trivial,_,_,i.bk.rp (k:=4) (j:=2) rfl (by omega),?_⟩
 have u:zwT f ((C.fn (Fn.func 139) [] [])) (fun e=>zsk e):=by
  intro f' m' e r Q hs hpre  hg hq;exact zxr hpre  hg hq
 obtain⟨ea,T,hp⟩:=zqd hp;refine zx6 (r:=c.Count) (passes:=(fun e=>zsk e)) d.pre u T fun ja Y=>?_;obtain⟨Z,fa⟩:=d.call Y a;refine⟨_,rfl,?_⟩;obtain rfl:=oi hp;exact hq _ Z.ext'
theorem zyd{l:List Tf}{ca100:C}{m f:M}{Q:V->M->Prop}{rz:Int}(hS:Pre f m)(ha100:Sl f ca100 l)(hp:zth l=some rz)(hq:∀m',Ext m m'->Q (.c (Il rz)) m'):Wc prog tbl 58 [.c ca100] m Q:=by
 have n:=hS.st;obtain⟨o,_⟩:=zrD;refine w58 ?_;unfold zth at hp;obtain⟨p,d,hp⟩:=zqd hp;refine zya (l:=l) n.pre ha100 d fun t e=>?_;obtain⟨a,q⟩:=n.call e o;refine⟨_,rfl,?_⟩;refine zqS hp (fun g hp=>?_) fun g hp=>?_
 ·obtain rfl:=oi hp;exact hq _ a.ext'
 obtain⟨r,h,hp⟩:=zqd hp;refine zyb (l:=l) a.pre ha100 h fun u i=>?_;obtain⟨b,s⟩:=a.call i o;refine⟨_,rfl,?_⟩;refine zqT hp (fun j hp=>?_) fun j hp=>?_
 ·obtain rfl:=oi hp;exact hq _ b.ext'
 obtain rfl:=oi hp;exact hq _ b.ext'
theorem zye{t:Tf}{ca103 ca104 ca105:C}{m f:M}{Q:V->M->Prop}{rz:Mnr}(hS:Pre f m)(_ha103:Sl f ca103 t.Weeks)(_ha104:Sl f ca104 t.Counts)(_ha105:Sl f ca105 t.Rates)(hp:zti t=some rz)(hq:∀m' f' c0,Grw m f m' f'->zwW f' c0 rz.paid->Q (.agg 1 [c0]) m'):Wc prog tbl 161 [.agg 6 [Il t.From,.bool t.Whole,Il t.Least,ca103,ca104,ca105]] m Q:=by
 have S0:=hS.st;obtain⟨τ0,_⟩:=zrD;refine zws ?_;unfold zti at hp;intro m0 j;obtain⟨l,n,S,o⟩:=S0.blk j τ0 1;intro m1 p;obtain⟨T,a,q,b⟩:=n.blk p l 2;have s:=o.k q;refine⟨trivial,_,s.bk.rc rfl,?_⟩;refine zqS hp (fun u hp=>?_) fun u hp=>?_
 ·obtain⟨w,x,y,Y,z⟩:=b.sto a [(C.fn (Fn.func 173) [] [])];refine⟨w,x,?_⟩;refine⟨_,z.bk.ra,?_⟩
  have h:zwW f ((C.fn (Fn.func 173) [] [])) (fun c d=>zsB c d):=by
   intro f' m' c d Z aa ba r Q hs hpre A B D hg hq;exact zxF hpre A B D hg hq
  obtain rfl:=oi hp;exact hq _ f (C.fn (Fn.func 173) [] []) y.grw h
 obtain⟨F,G,I,ca,J⟩:=b.sto a [(C.fn (Fn.func 174) [] [])];refine⟨F,G,?_⟩;refine⟨_,J.bk.ra,?_⟩
 have i:zwW f ((C.fn (Fn.func 174) [] [])) (fun e g=>zsC e g):=by
  intro f' m' e g da ea fa r Q hs hpre N O P hg hq;exact zxG hpre N O P hg hq
 obtain rfl:=oi hp;exact hq _ f (C.fn (Fn.func 174) [] []) I.grw i
theorem zyf{t:Tf}{h:Ht}{ca103 ca104 ca105:C}{m f:M}{Q:V->M->Prop}{rz:Int}(hS:Pre f m)(ha103:Sl f ca103 t.Weeks)(ha104:Sl f ca104 t.Counts)(ha105:Sl f ca105 t.Rates)(hp:ztj t h=some rz)(hq:∀m',Ext m m'->Q (.c (Il rz)) m'):Wc prog tbl 141 [.agg 6 [Il t.From,.bool t.Whole,Il t.Least,ca103,ca104,ca105],.agg 3 [Il h.Day,Il h.Count,Il h.crop]] m Q:=by
 have Z:=hS.st;obtain⟨τ0,_⟩:=zrD;refine zvN ?_;unfold ztj at hp;intro m0 l;obtain⟨n,o,J,p⟩:=Z.blk l τ0 1;intro m1 q;obtain⟨d,g,r,s⟩:=o.blk q n 2;have i:=p.k r;refine⟨_,_,_,_,_,_,i.bk.ra,_,_,_,s.bk.ra,?_⟩;obtain⟨N,u,hp⟩:=zqd hp;refine zxH (t:=t) (h:=h) g.pre ha103 ha104 ha105 u fun ba w=>?_;obtain⟨e,x⟩:=g.call w d;have a:=i.k x;refine⟨_,rfl,trivial,_,a.bk.rc rfl,?_⟩;refine ifd hp (fun y hp=>?_) fun y hp=>?_
 ·obtain rfl:=oi hp;exact hq _ e.ext'
 refine⟨_,_,_,_,_,_,a.bk.ra,?_⟩;obtain⟨O,z,hp⟩:=zqd hp;refine zye (t:=t) e.pre ha103 ha104 ha105 z fun ca P S A B=>?_;obtain⟨j,b⟩:=e.callG A d;have D:=a.k b;refine⟨_,rfl,_,_,_,_,_,_,D.bk.ra,(by rw[show zaL cmC _=true from zoN (zqh rfl (zqh rfl (zqh rfl (zqh ha103.noFn (zqh ha104.noFn (zqh ha105.noFn zqi))))))]; exact(a.bk.ra)),?_⟩;obtain⟨T,F,hp⟩:=zqd hp;refine B _ _ _ _ _ _ _ _ _ (Sub.refl _) j.pre (ha103.sub b.fs) (ha104.sub b.fs) (ha105.sub b.fs) F fun da G=>?_;obtain⟨I,Y⟩:=j.call G d;refine⟨_,rfl,?_⟩;obtain rfl:=oi hp;exact hq _ I.ext'
theorem zyg{l:List Tf}{ca100:C}{m f:M}{Q:V->M->Prop}{rz:Wk × Int}(hS:Pre f m)(ha100:Sl f ca100 l)(hp:ztk l=some rz)(hq:∀m' f' c0 c1,Grw m f m' f'->Sl f' c0 rz.1.tariffs->Mn m f' m' c1 rz.1.parts->Q (.tup [.agg 2 [c0,c1],.c (Il rz.2)]) m'):Wc prog tbl 106 [.c ca100] m Q:=by
 have S:=hS.st;obtain⟨T,_⟩:=zrD;refine zwy ?_;unfold ztk at hp;intro Y g;obtain⟨a,b,J,h⟩:=S.blk g T 1;obtain⟨N,i,hp⟩:=zqd hp;refine zyd (l:=l) b.pre ha100 i fun I j=>?_;obtain⟨d,n⟩:=b.call j a;have e:=h.k n;refine⟨_,rfl,?_⟩;refine zqR hp (fun o hp=>?_) fun o hp=>?_
 ·obtain⟨p,q,r,O,s⟩:=e.sto d [.sl0,C.map0];refine⟨p,q,?_⟩;refine⟨_,_,s.bk.ra,?_⟩;obtain rfl:=oi hp;exact hq _ f .sl0 .map0 r.grw (Sl.nil _) (Mo.nil _ _ a _ 0).mn
 intro Z t;obtain⟨P,u,w,x⟩:=Mo.new (K:=Ht) (V':=Int) d t a 2;have y:=e.k w;obtain⟨z,A,B,D,F⟩:=y.sto u [ca100,(.map I.nxt)];have G:=x.k D;refine⟨z,A,?_⟩;refine⟨_,_,F.bk.ra,?_⟩;obtain rfl:=oi hp;exact hq _ f ca100 (.map I.nxt) B.grw ha100 G.mn
theorem zyh{l:List Tf}{claims:List Clm}{ca100 ca200:C}{m f:M}{Q:V->M->Prop}{rz:Wk × Int}(hS:Pre f m)(ha100:Sl f ca100 l)(ha200:Sl f ca200 claims)(hp:ztl l claims=some rz)(hq:∀m' f' c0 c1,Grw m f m' f'->Sl f' c0 rz.1.tariffs->Mn m f' m' c1 rz.1.parts->Q (.tup [.agg 2 [c0,c1],.c (Il rz.2)]) m'):Wc prog tbl 80 [.c ca100,.c ca200] m Q:=by
 have S0:=hS.st;obtain⟨τ0,_⟩:=zrD;refine w80 ?_;unfold ztl at hp;intro m0 z;obtain⟨A,o,Ga,B⟩:=S0.blk z τ0 1;obtain⟨p,D,hp⟩:=zqd hp;refine zyg (l:=l) o.pre ha100 D fun m2 a b h F i G=>?_;obtain⟨I,J,q,N⟩:=o.callN F G A 2;have O:=B.k q;refine⟨_,_,_,rfl,?_⟩;intro m6 P;obtain⟨d,S,s,T⟩:=J.blk P I 3;have Y:=O.k s;have Z:=N.k s;obtain⟨aa,ba,e,t,u⟩:=T.sto S [b,h];have j:=Y.k t;have ca:=Z.k t;refine⟨aa,ba,?_⟩;refine zqR hp (fun da hp=>?_) fun da hp=>?_
 ·obtain⟨ea,fa,ga,Ha,ha⟩:=j.sto e [.sl0,C.map0];refine⟨ea,fa,?_⟩;refine⟨_,_,ha.bk.ra,?_⟩;obtain rfl:=oi hp;exact hq _ a .sl0 .map0 ga.grw (Sl.nil _) (Mo.nil _ _ d _ 0).mn
 refine⟨ha200.isSl,?_⟩
 try rw[ha200.slLen]
 refine ifd hp (fun ia hp=>?_) fun ia hp=>?_
 ·obtain⟨ja,ka,la,Ia,ma⟩:=j.sto e [.sl0,C.map0];refine⟨ja,ka,?_⟩;refine⟨_,_,ma.bk.ra,?_⟩;obtain rfl:=oi hp;exact hq _ a .sl0 .map0 la.grw (Sl.nil _) (Mo.nil _ _ d _ 0).mn
 refine⟨trivial,_,u.bk.rc rfl,?_⟩;obtain⟨Da,Ea,Fa⟩:∃ws,zaE vW [.c b]=some ws/\zbZ wV ws=[.c b]:=(zqo (zql i.noFn) zqn);rw[Ea,zd3]
 have y:zwS a ((C.fn (Fn.func 108) Da [])) (fun g=>ztg p.1.tariffs g):=by
  intro f' m' g r Q hs hpre  hg hq
  show Wc prog tbl 108 (appS (zbZ wV Da) _) m' Q
  rw[Fa];exact zyc hpre (i.sub hs) hg hq
 obtain⟨Ja,na,hp⟩:=zqd hp;refine zxT (l:=claims) (passes:=(fun g=>ztg p.1.tariffs g)) e.pre (ha200.sub q.fs) y na fun Na oa=>?_;obtain⟨w,n⟩:=e.call oa d;have x:=j.k n;have pa:=u.k n;have qa:=ca.k n;refine⟨_,rfl,?_⟩;refine zqT hp (fun sa hp=>?_) fun sa hp=>?_
 ·obtain⟨ta,ua,va,Ka,wa⟩:=x.sto w [.sl0,C.map0];refine⟨ta,ua,?_⟩;refine⟨_,_,wa.bk.ra,?_⟩;obtain rfl:=oi hp;exact hq _ a .sl0 .map0 va.grw (Sl.nil _) (Mo.nil _ _ d _ 0).mn
 refine⟨_,_,pa.bk.ra,?_⟩;obtain⟨xa,ya,za,Aa,Ba⟩:=x.sto w [b,h];have Ca:=qa.k Aa;refine⟨xa,ya,?_⟩;refine⟨_,_,Ba.bk.ra,?_⟩;obtain rfl:=oi hp;exact hq _ a b h za.grw i Ca.mn
theorem zyi{w:Wk}{h:Ht}{ca100 ca101:C}{m f:M}{Q:V->M->Prop}{rz:Int × Option (Ht->Option (Int))}(hS:Pre f m)(ha100:Sl f ca100 w.tariffs)(ha101:Mc f m ca101 w.parts)(hp:ztm w h=some rz)(hq:∀m',zqB ca101 m m'->Mi m' ca101 rz.2->Q (.c (Il rz.1)) m'):Wc prog tbl 110 [.agg 2 [ca100,ca101],.agg 3 [Il h.Day,Il h.Count,Il h.crop]] m Q:=by
 have S0:=hS.stM ha101;obtain⟨τ0,M0⟩:∃τ,Mo (Fm.mp m ca101) f τ m 1 ca101 w.parts:=⟨_,ha101.mo 1⟩;refine zwz ?_;unfold ztm at hp;intro m0 s;obtain⟨x,y,z,A⟩:=S0.blk s τ0 2;have B:=M0.k z;intro m1 D;obtain⟨n,b,o,a⟩:=y.blk D x 3;have d:=A.k o;have e:=B.k o;refine⟨trivial,_,d.bk.rc rfl,_,_,_,a.bk.ra,?_⟩;obtain⟨F,hp⟩:=zqe hp;refine⟨_,e.mi.lk zw1 (k:=h) F rfl,?_⟩
 cases j:(zqz w.parts h) with
 | none=>
  rw[zqJ j] at hp;refine⟨fun _=>?_,fun u hu=>(by cases hu)⟩;refine⟨trivial,_,d.bk.rc rfl,trivial,trivial,_,a.bk.rc rfl,?_⟩;obtain⟨G,I,hp⟩:=zqd hp;refine zxE (l:=w.tariffs) (day:=h.Day) b.pre ha100 I fun va ka la ma na J N O P=>?_;obtain⟨p,g⟩:=b.callG J n;have S:=d.k g;have q:=a.k g;have T:=e.k g;refine⟨_,_,_,_,_,_,rfl,_,_,_,q.bk.ra,(a.bk.ra),?_⟩;obtain⟨r,Y,hp⟩:=zqd hp;refine zyf (t:=G) (h:=h) p.pre N O P Y fun wa Z=>?_;obtain⟨aa,i⟩:=p.call Z n;have ba:=S.k i;have ca:=q.k i;have da:=T.k i;refine⟨_,rfl,trivial,_,ba.bk.rc rfl,_,_,_,ca.bk.ra,?_⟩;obtain⟨ea,hp⟩:=zqe hp;obtain⟨oa,fa,hp⟩:=zqd hp;obtain⟨ga,ha,ia,pa,ja⟩:=Mo.up zw1 aa da (k:=h) ea (v:=r) fa (kv:=.agg 3 [Il h.Day,Il h.Count,Il h.crop]) (yv:=.c (Il r)) rfl rfl;refine⟨ga,ha,?_⟩;obtain rfl:=oi hp;exact hq _ ia.extB ja.mi
 | some qa=>
  rw[zqK j] at hp;refine⟨fun h=>(by cases h),fun u hu=>?_⟩;obtain rfl:=oi hu;refine⟨_,rfl,?_⟩;obtain rfl:=oi hp;exact hq _ b.extB e.mi
theorem zyj{w:Wk}{c:Clm}{t:Tr}{ca100 ca101:C}{m f:M}{Q:V->M->Prop}{rz:Int × Option (Ht->Option (Int))}(hS:Pre f m)(ha100:Sl f ca100 w.tariffs)(ha101:Mc f m ca101 w.parts)(hp:ztn w c t=some rz)(hq:∀m',zqB ca101 m m'->Mi m' ca101 rz.2->Q (.c (Il rz.1)) m'):Wc prog tbl 82 [.agg 2 [ca100,ca101],.agg 6 [Il c.Crop,Il c.Value,Il c.Day.Lo,Il c.Day.Hi,Il c.Count.Lo,Il c.Count.Hi],.agg 2 [Il t.Day,Il t.Count]] m Q:=by
 have S0:=hS.stM ha101;obtain⟨τ0,M0⟩:∃τ,Mo (Fm.mp m ca101) f τ m 1 ca101 w.parts:=⟨_,ha101.mo 1⟩;refine w82 ?_;unfold ztn at hp;intro m0 j;obtain⟨l,n,o,p⟩:=S0.blk j τ0 2;have q:=M0.k o;intro m1 r;obtain⟨s,u,e,x⟩:=n.blk r l 3;have y:=p.k e;have z:=q.k e;intro m2 A;obtain⟨ba,a,b,B⟩:=u.blk A s 4;have D:=y.k b;have d:=x.k b;have g:=z.k b;refine⟨trivial,_,d.bk.rc rfl,_,_,D.bk.ra,_,_,B.bk.ra,trivial,_,d.bk.rc rfl,?_⟩;obtain⟨ca,F,hp⟩:=zqd hp;refine zyi (w:=w) (h:=({ Day:=t.Day,Count:=t.Count,crop:=c.Crop }:Ht)) a.pre ha100 (g.mc a) F fun ga G i=>?_;obtain⟨I,J,N⟩:=a.callM g G i;have O:=d.k J;refine⟨_,rfl,(O.bk.rc rfl),?_⟩;refine gdi hp fun P hp=>?_;refine gdi hp fun S hp=>?_;refine gdi hp fun T hp=>?_;refine gdi hp fun Y hp=>?_;refine gdi hp fun Z hp=>?_;refine gdi hp fun aa hp=>?_;obtain rfl:=oi hp;exact hq _ I.extB N.mi
theorem zyk{c:Clm}{b0:Nat}{m f:M}{F:Fm}{n0 ly:Nat}{xs:List (List V)}{I:Nat->(Nat->Prop)->M->Prop}{E:(Nat->Prop)->M->Prop}{S1:Nat->Prop}{Q:V->M->Prop}{rz:List Tr}{τ0:Nat->Nat}(hc:zp2 prog tbl n0 ly xs I E)(S0:St F f f m)(Y0:Yg n0 (YJ xs I rz) S1 F f τ0 m)(hb0:Bk f b0 6 [(.int .i64 c.Crop),(.int .i64 c.Value),(.int .i64 c.Day.Lo),(.int .i64 c.Day.Hi),(.int .i64 c.Count.Lo),(.int .i64 c.Count.Hi)])(hp:ztq c=some rz)(hq:∀v m' f' τ' S',St F f f' m'->(Yg n0 (YJ xs I ([]:List Tr)) S' F f' τ' m'\/Yg n0 E S' F f' τ' m')->Q v m'):Wc prog tbl 183 [.c (.fn (.yield ly) [] []),.c (.ptr b0 0)] m Q:=by
 refine zvB ?_;unfold ztq at hp;refine⟨trivial,trivial,_,(hb0.sub S0.sub).rc rfl,?_⟩;intro R1 hR1
 have hgo:∀(d2130:Nat) (x2:Int) (r2127:List Tr) (s2128:Nat->Prop) (m3:M) (τ2126:Nat->Nat),St F f f m3->Yg n0 (YJ xs I r2127) s2128 F f τ2126 m3->ztp c d2130 x2=some r2127->R1 [.c (.int .i64 x2)] m3:=by
  intro d2130
  induction d2130 with
  | zero=>intro x2 r2127 s2128 m3 τ2126 S2125 Y2129 hp; cases hp
  | succ d2130 ihR1=>
   intro x2 r2127 s2128 m3 τ2126 S2125 Y2129 hp;refine hR1 _ _ ?_;rw[ztp] at hp;refine⟨trivial,trivial,_,(hb0.sub S2125.sub).rc rfl,?_⟩;refine ifd hp (fun q2131 hp=>?_) fun q2131 hp=>?_; rotate_left
   ·obtain rfl:=oi hp;exact hq _ _ _ _ _ S2125 (.inl Y2129)
   refine⟨trivial,trivial,_,(hb0.sub S2125.sub).rc rfl,?_⟩;intro R6 hR6
   have hgo:∀(d2137:Nat) (x7:Int) (r2134:List Tr) (s2135:Nat->Prop) (m8:M) (τ2133:Nat->Nat),St F f f m8->Yg n0 (YJ xs I r2134) s2135 F f τ2133 m8->zto c x2 (ztp c d2130) d2137 x7=some r2134->R6 [.c (.int .i64 x7)] m8:=by
    intro d2137
    induction d2137 with
    | zero=>intro x7 r2134 s2135 m8 τ2133 S2132 Y2136 hp; cases hp
    | succ d2137 ihR6=>
     intro x7 r2134 s2135 m8 τ2133 S2132 Y2136 hp;refine hR6 _ _ ?_;rw[zto] at hp;refine⟨trivial,trivial,_,(hb0.sub S2132.sub).rc rfl,?_⟩;refine ifd hp (fun q2138 hp=>?_) fun q2138 hp=>?_; rotate_left
     ·obtain⟨g2153,hp⟩:=zqe hp;refine⟨g2153,?_⟩;exact ihR1 _ _ _ _ τ2133 S2132 Y2136 hp
     obtain⟨r2139,hp2141,hz2140⟩:=zqd hp
     clear hp
     obtain rfl:=oi hz2140;have hp:=hp2141
     show Wy prog tbl ly (IV.encs (({ Day:=x2,Count:=x7 }:Tr):Tr)) _ _
     refine Yg.yield hc S2132 Y2136 ?_ ?_
     ·intro m11 τ2142 s2146 S2143 k2144 Y2145;refine⟨_,rfl,?_⟩;refine zqW ?_;obtain⟨g2147,hp⟩:=zqe hp;refine⟨g2147,?_⟩;exact ihR6 _ _ _ _ τ2142 S2143 Y2145 hp
     ·intro m11 τ2148 s2152 S2149 k2150 Y2151;refine⟨_,rfl,?_⟩;refine zqX ?_;exact hq _ _ _ _ _ S2149 (.inr Y2151)
   exact hgo _ _ _ _ _ τ2126 S2125 Y2129 hp
 exact hgo _ _ _ _ _ τ0 S0 Y0 hp
theorem zyl{c:Clm}{m f:M}{Q:V->M->Prop}{rz:List Tr}(hS:Pre f m)(hp:ztr c=some rz)(hq:∀m' f' c0,Grw m f m' f'->It prog tbl f' c0 rz->Q (.c c0) m'):Wc prog tbl 179 [.agg 6 [Il c.Crop,Il c.Value,Il c.Day.Lo,Il c.Day.Hi,Il c.Count.Lo,Il c.Count.Hi]] m Q:=by
 have q:=hS.st;obtain⟨r,_⟩:=zrD;refine zwd ?_;unfold ztr at hp;intro s g;obtain⟨n,h,o,i⟩:=q.blk g r 1;obtain⟨b,a,p,d⟩:=i.freeze h;obtain⟨j,l,hp⟩:=zqd hp;have e:It prog tbl b ((C.fn (Fn.func 183) [] [(W.c (C0.ptr m.nxt 0))])) j:=zqZ a.fz a.fv fun t ly I E hc u w x y hS hY Q hq=>zyk hc hS hY d l hq;obtain rfl:=oi hp;exact hq _ b (C.fn (Fn.func 183) [] [(W.c (C0.ptr m.nxt 0))]) a.grw e
theorem zym{w:Wk}{c:Clm}{ca100 ca101:C}{m f:M}{Q:V->M->Prop}{rz:Rg × Option (Ht->Option (Int))}(hS:Pre f m)(ha100:Sl f ca100 w.tariffs)(ha101:Mc f m ca101 w.parts)(hp:ztt w c=some rz)(hq:∀m',zqB ca101 m m'->Mi m' ca101 rz.2->Q (.agg 2 [Il rz.1.Lo,Il rz.1.Hi]) m'):Wc prog tbl 169 [.agg 2 [ca100,ca101],.agg 6 [Il c.Crop,Il c.Value,Il c.Day.Lo,Il c.Day.Hi,Il c.Count.Lo,Il c.Count.Hi]] m Q:=by
 have S0:=hS.stM ha101;obtain⟨τ0,M0⟩:∃τ,Mo (Fm.mp m ca101) f τ m 1 ca101 w.parts:=⟨_,ha101.mo 1⟩;refine zvT ?_;unfold ztt at hp;intro m0 Ha;obtain⟨Ia,Ja,Ka,La⟩:=S0.blk Ha τ0 2;have Ma:=M0.k Ka;intro m1 Na;obtain⟨Oa,Pa,da,Qa⟩:=Ja.blk Na Ia 3;have Ra:=La.k da;have Sa:=Ma.k da;intro m2 Ta;obtain⟨Ua,Va,P,Wa⟩:=Pa.blk Ta Oa 4;have Xa:=Ra.k P;have Ya:=Qa.k P;have Za:=Sa.k P;intro m3 ab;obtain⟨ea,fa,G,cb⟩:=Va.blk ab Ua 5;have db:=Xa.k G;have ga:=Ya.k G;have eb:=Wa.k G;have fb:=Za.k G;refine⟨_,_,_,_,_,_,ga.bk.ra,?_⟩;obtain⟨Kc,gb,hp⟩:=zqd hp;refine zyl (c:=c) fa.pre  gb fun ad Lc Nc hb ib=>?_;obtain⟨jb,r⟩:=fa.callG hb ea;have ha:=db.k r;have ia:=ga.k r;have ja:=eb.k r;have ka:=cb.k r;have la:=fb.k r;refine⟨_,rfl,?_⟩;refine zqM (α:=Tr) jb ib (σ:=(List Int) × C × (Option (Ht->Option (Int)))) 6 (fun st bb=>(False\/(False\/(False\/(False\/((zqL st.2.1 bb)\/False)))))) (fun st gG gF gT gM=>(Lb gG gF gT gM 2 m.nxt 2 [ca100,ca101])/\(Lb gG gF gT gM 3 m0.nxt 6 [Il c.Crop,Il c.Value,Il c.Day.Lo,Il c.Day.Hi,Il c.Count.Lo,Il c.Count.Hi])/\(Lb gG gF gT gM 4 m1.nxt 2 [Il 0,Il 0])/\(Lb gG gF gT gM 5 m2.nxt 1 [st.2.1])/\(Ow gG gF gT gM 7 st.2.1 st.1)/\(Mo gG gF gT gM 1 ca101 st.2.2)) (fun rr_ st=>zts w c rr_ st.1 st.2.2=some rz) (fun ex st=>False) (fun st=>(Gud.and (Gud.lb ha.bk.lt (by decide)) (Gud.and (Gud.lb ia.bk.lt (by decide)) (Gud.and (Gud.lb ja.bk.lt (by decide)) (Gud.and (Gud.lb ka.bk.lt (by decide)) (Gud.and (Gud.ow (by decide)) (Gud.mo la.lt (by decide)))))))) (st0:=([],.sl0,w.parts)) (τ:=ea) ⟨ha,ia,ja,ka,(Ow.nil _ _ _ _ _),la⟩ hp ?_ ?_ ?_ ?_
 ·intro I kb st h i N s Pc Hc Ic Jc mb ob hA wa hp xa ya;obtain⟨d,F,u⟩:=st;obtain⟨x,y,j,e,b,n⟩:=hA
  replace x:Lb s h i N 2 m.nxt 2 [ca100,ca101]:=x
  replace y:Lb s h i N 3 m0.nxt 6 [Il c.Crop,Il c.Value,Il c.Day.Lo,Il c.Day.Hi,Il c.Count.Lo,Il c.Count.Hi]:=y
  replace j:Lb s h i N 4 m1.nxt 2 [Il 0,Il 0]:=j
  replace e:Lb s h i N 5 m2.nxt 1 [F]:=e
  replace b:Ow s h i N 7 F d:=b
  replace n:Mo s h i N 1 ca101 u:=n
  replace hp:zts w c (I::kb) d u=some rz:=hp
  rw[zts] at hp;refine⟨_,_,rfl,?_⟩;intro bd pb;obtain⟨Qc,qb,o,rb⟩:=mb.blk pb i 8;have sb:=x.k o;have tb:=y.k o;have ub:=j.k o;have vb:=e.k o;have wb:=n.k o;have b:=b.k o;have za:=wa.k o;obtain⟨xb,yb,zb,p,Ab⟩:=rb.sto qb [Il I.Day,Il I.Count];have Bb:=sb.k p;have Cb:=tb.k p;have Db:=ub.k p;have Eb:=vb.k p;have Fb:=wb.k p;have b:=b.k p;have Aa:=za.k p;refine⟨xb,yb,?_⟩;refine xa _ _ _ _ zb Aa fun cd Rc S q Ba Ca=>?_;have ma:=Bb.k q;have na:=Cb.k q;have Gb:=Db.k q;have oa:=Eb.k q;have Hb:=Ab.k q;have pa:=Fb.k q;have b:=b.k q;refine⟨_,oa.bk.rc rfl,_,_,ma.bk.ra,_,_,_,_,_,_,na.bk.ra,_,_,Hb.bk.ra,?_⟩;obtain⟨J,Ib,hp⟩:=zqd hp;refine zyj (w:=({ tariffs:=w.tariffs,parts:=u }:Wk)) (c:=c) (t:=I) S.pre (ha100.sub (Sub.trans r.fs ob)) (pa.mc S) Ib fun dd Jb Da=>?_;obtain⟨Kb,z,Mb⟩:=S.callM pa Jb Da;have Nb:=ma.k z;have Ob:=na.k z;have Pb:=Gb.k z;have T:=oa.k z;have b:=b.k z;have Ea:=Ba.k z;refine⟨_,rfl,(by rw[show cmC _=true from zoM (b.noFn)]; exact(T.bk.rc rfl)),?_⟩;obtain⟨Qb,hp⟩:=zqe hp;intro ed qa;refine⟨(by rw[show cmC _=true from zoM (b.noFn)]; exact(T.bk.ext (Bk.new qa).2).rc rfl),?_⟩;obtain⟨Y,Rb,Tc,Sb,Tb,A,Z⟩:=b.app' zw4 Kb (a:=J.1) (show Rp.rep (α:=Int) h _ J.1 from rfl) Qb qa;have Ub:=Nb.k A;have Vb:=Ob.k A;have Wb:=Pb.k A;have Xb:=T.k A;have Yb:=Mb.k A;have Fa:=Ea.k A;refine⟨Y,Rb,Sb,?_⟩;obtain⟨Zb,ac,bc,B,cc⟩:=Xb.sto Tb [Y];have dc:=Ub.k B;have ec:=Vb.k B;have fc:=Wb.k B;have gc:=Yb.k B;have Z:=Z.k B;have Ga:=Fa.k B;refine⟨Zb,ac,?_⟩;exact ya .nrm ((d++[J.1]),Y,J.2) _ _ _ _ bc ⟨dc,ec,fc,cc,Z,gc⟩ Ga Ca hp
 ·intro st D g O hc Uc hA hp;obtain⟨d,F,u⟩:=st
  replace hp:zts w c [] d u=some rz:=hp
  obtain⟨x,y,j,e,b,n⟩:=hA
  replace x:Lb (Fm.mp m ca101) D g O 2 m.nxt 2 [ca100,ca101]:=x
  replace y:Lb (Fm.mp m ca101) D g O 3 m0.nxt 6 [Il c.Crop,Il c.Value,Il c.Day.Lo,Il c.Day.Hi,Il c.Count.Lo,Il c.Count.Hi]:=y
  replace j:Lb (Fm.mp m ca101) D g O 4 m1.nxt 2 [Il 0,Il 0]:=j
  replace e:Lb (Fm.mp m ca101) D g O 5 m2.nxt 1 [F]:=e
  replace b:Ow (Fm.mp m ca101) D g O 7 F d:=b
  replace n:Mo (Fm.mp m ca101) D g O 1 ca101 u:=n
  rw[zts] at hp;refine⟨_,e.bk.rc rfl,?_⟩;obtain⟨Vc,sa,aa,ba⟩:=b.freeze hc;have ic:=j.k aa;have ta:=e.k aa;have jc:=n.k aa;obtain⟨kc,lc,hp⟩:=zqd hp;refine zxI (l:=d) sa.pre ba lc fun fd nc=>?_;obtain⟨ua,ca⟩:=sa.call nc g;have oc:=ic.k ca;have pc:=ta.k ca;have qc:=jc.k ca;refine⟨_,rfl,_,pc.bk.rc rfl,(by rw[show cmC _=true from zoM (ba.noFn)]; exact(ta.bk.rc rfl)),?_⟩;obtain⟨sc,tc,hp⟩:=zqd hp;refine zxJ (l:=d) ua.pre ba tc fun hd uc=>?_;obtain⟨vc,va⟩:=ua.call uc g;have wc:=oc.k va;have xc:=qc.k va;refine⟨_,rfl,?_⟩;obtain⟨yc,zc,Ac,Bc,Cc⟩:=wc.sto vc [Il kc,Il sc];have Dc:=xc.k Bc;refine⟨yc,zc,?_⟩;refine⟨_,_,Cc.bk.ra,?_⟩;obtain rfl:=oi hp;exact hq _ Ac.extB Dc.mi
 ·intro id st _ _ _ _ _ _ hn; first | exact hn.elim | (cases hn)
 ·intro st _ _ _ _ _ _ hn; first | exact hn.elim | (cases hn)
theorem zyn{l:List Tf}{c:Clm}{ca100:C}{m f:M}{Q:V->M->Prop}{rz:Rg × Int}(hS:Pre f m)(ha100:Sl f ca100 l)(hp:ztu l c=some rz)(hq:∀m',Ext m m'->Q (.tup [.agg 2 [Il rz.1.Lo,Il rz.1.Hi],.c (Il rz.2)]) m'):Wc prog tbl 152 [.c ca100,.agg 6 [Il c.Crop,Il c.Value,Il c.Day.Lo,Il c.Day.Hi,Il c.Count.Lo,Il c.Count.Hi]] m Q:=by
 have S0:=hS.st;obtain⟨τ0,_⟩:=zrD;refine zwq ?_;unfold ztu at hp;intro m0 t;obtain⟨u,x,Ka,y⟩:=S0.blk t τ0 1;intro m1 z;obtain⟨A,B,D,F⟩:=x.blk z u 2;have g:=y.k D;refine⟨_,_,_,_,_,_,g.bk.ra,?_⟩;intro m8 G;obtain⟨I,J,h,N⟩:=B.blk G A 3;have O:=g.k h;have P:=F.k h;obtain⟨i,j,b,r⟩:=N.freeze J;have S:=O.k b;have T:=P.k b;have Y:Sl i (C.sl m1.nxt 0 1 0 (Option.some 1)) ([c]:List Clm):=Bk.sl (α:=Clm) (l:=([c]:List Clm)) r (show Cat (α:=Clm) i [Il c.Crop,Il c.Value,Il c.Day.Lo,Il c.Day.Hi,Il c.Count.Lo,Il c.Count.Hi] ([c]:List Clm) from ⟨[Il c.Crop,Il c.Value,Il c.Day.Lo,Il c.Day.Hi,Il c.Count.Lo,Il c.Count.Hi],_,rfl,rfl,rfl⟩) rfl rfl _;obtain⟨Z,aa,hp⟩:=zqd hp;refine zyh (l:=l) (claims:=([c]:List Clm)) j.pre (ha100.sub b.fs) Y aa fun Ta La ba ca da ea fa=>?_;obtain⟨ga,ha,n,ia⟩:=j.callN da fa I 4;have ja:=S.k n;have ka:=T.k n;refine⟨_,_,_,rfl,?_⟩;intro Ua la;obtain⟨Ma,ma,d,na⟩:=ha.blk la ga 5;have oa:=ja.k d;have pa:=ka.k d;have qa:=ia.k d;obtain⟨sa,ta,a,e,ua⟩:=na.sto ma [ba,ca];have va:=oa.k e;have o:=pa.k e;have p:=qa.k e;refine⟨sa,ta,?_⟩;refine zqR hp (fun wa hp=>?_) fun wa hp=>?_
 ·obtain⟨xa,ya,za,Na,Aa⟩:=o.sto a [Il 0,Il 0];refine⟨xa,ya,?_⟩;refine⟨_,_,Aa.bk.ra,?_⟩;obtain rfl:=oi hp;exact hq _ za.ext'
 refine⟨_,_,ua.bk.ra,_,_,_,_,_,_,va.bk.ra,?_⟩;obtain⟨q,Ba,hp⟩:=zqd hp;refine zym (w:=Z.1) (c:=c) a.pre ea (p.mc a) Ba fun Va Ca s=>?_;obtain⟨Da,Ea,Oa⟩:=a.callM p Ca s;have Fa:=o.k Ea;refine⟨_,_,rfl,?_⟩;obtain⟨Ga,Ha,Ia,Pa,Ja⟩:=Fa.sto Da [Il q.1.Lo,Il q.1.Hi];refine⟨Ga,Ha,?_⟩;refine⟨_,_,Ja.bk.ra,?_⟩;obtain rfl:=oi hp;exact hq _ Ia.ext'
theorem zyo{l:List Tf}{c:Clm}{t:Tr}{ca100:C}{m f:M}{Q:V->M->Prop}{rz:Int × Int}(hS:Pre f m)(ha100:Sl f ca100 l)(hp:ztv l c t=some rz)(hq:∀m',Ext m m'->Q (.tup [.c (Il rz.1),.c (Il rz.2)]) m'):Wc prog tbl 50 [.c ca100,.agg 6 [Il c.Crop,Il c.Value,Il c.Day.Lo,Il c.Day.Hi,Il c.Count.Lo,Il c.Count.Hi],.agg 2 [Il t.Day,Il t.Count]] m Q:=by
 have S0:=hS.st;obtain⟨τ0,_⟩:=zrD;refine w50 ?_;unfold ztv at hp;intro m0 y;obtain⟨z,A,Ka,B⟩:=S0.blk y τ0 1;intro m1 D;obtain⟨F,G,I,J⟩:=A.blk D z 2;have i:=B.k I;refine⟨_,_,_,_,_,_,i.bk.ra,?_⟩;intro m8 N;obtain⟨O,P,j,S⟩:=G.blk N F 3;have T:=i.k j;have Y:=J.k j;obtain⟨n,o,d,u⟩:=S.freeze P;have Z:=T.k d;have aa:=Y.k d;have ba:Sl n (C.sl m1.nxt 0 1 0 (Option.some 1)) ([c]:List Clm):=Bk.sl (α:=Clm) (l:=([c]:List Clm)) u (show Cat (α:=Clm) n [Il c.Crop,Il c.Value,Il c.Day.Lo,Il c.Day.Hi,Il c.Count.Lo,Il c.Count.Hi] ([c]:List Clm) from ⟨[Il c.Crop,Il c.Value,Il c.Day.Lo,Il c.Day.Hi,Il c.Count.Lo,Il c.Count.Hi],_,rfl,rfl,rfl⟩) rfl rfl _;obtain⟨ca,da,hp⟩:=zqd hp;refine zyh (l:=l) (claims:=([c]:List Clm)) o.pre (ha100.sub d.fs) ba da fun Ta La ea fa ga ha ia=>?_;obtain⟨ja,ka,p,la⟩:=o.callN ga ia O 4;have ma:=Z.k p;have na:=aa.k p;refine⟨_,_,_,rfl,?_⟩;intro Ua oa;obtain⟨pa,qa,e,sa⟩:=ka.blk oa ja 5;have ta:=ma.k e;have ua:=na.k e;have va:=la.k e;obtain⟨wa,xa,g,h,ya⟩:=sa.sto qa [ea,fa];have q:=ta.k h;have r:=ua.k h;have za:=va.k h;refine⟨wa,xa,?_⟩;refine zqR hp (fun Aa hp=>?_) fun Aa hp=>?_
 ·obtain rfl:=oi hp;exact hq _ g.ext'
 refine⟨_,_,_,_,_,_,q.bk.ra,_,_,r.bk.ra,?_⟩;obtain⟨Ma,Ba,hp⟩:=zqd hp;refine zxy (c:=c) (t:=t) g.pre  Ba fun Va Ca=>?_;obtain⟨a,b⟩:=g.call Ca pa;have Da:=q.k b;have Ea:=r.k b;have Fa:=ya.k b;have s:=za.k b;refine⟨_,rfl,?_⟩;refine zqT hp (fun Ga hp=>?_) fun Ga hp=>?_
 ·obtain rfl:=oi hp;exact hq _ a.ext'
 refine⟨_,_,Fa.bk.ra,_,_,_,_,_,_,Da.bk.ra,_,_,Ea.bk.ra,?_⟩;obtain⟨Na,Ha,hp⟩:=zqd hp;refine zyj (w:=ca.1) (c:=c) (t:=t) a.pre ha (s.mc a) Ha fun Wa Ia x=>?_;obtain⟨Ja,Oa,Pa⟩:=a.callM s Ia x;refine⟨_,rfl,?_⟩;obtain rfl:=oi hp;exact hq _ Ja.ext'
theorem zyp{r:Rg}{n:Int}{m f:M}{Q:V->M->Prop}{rz:Bool}(hS:Pre f m)(hp:ztw r n=some rz)(hq:∀m',Ext m m'->Q (.c (.bool rz)) m'):Wc prog tbl 93 [.agg 2 [Il r.Lo,Il r.Hi],.c (Il n)] m Q:=by
 have i:=hS.st;obtain⟨j,_⟩:=zrD;refine w93 ?_;unfold ztw at hp;intro l d;obtain⟨g,a,h,b⟩:=i.blk d j 1;refine⟨trivial,_,b.bk.rc rfl,?_⟩;refine ifd hp (fun e hp=>?_) fun e hp=>?_; rotate_left
 ·obtain rfl:=oi hp;exact hq _ a.ext'
 refine⟨trivial,_,b.bk.rc rfl,?_⟩;obtain rfl:=oi hp;exact hq _ a.ext'
theorem zyq{n:Int}{m f:M}{Q:V->M->Prop}{rz:Bool}(hS:Pre f m)(hp:ztx n=some rz)(hq:∀m',Ext m m'->Q (.c (.bool rz)) m'):Wc prog tbl 124 [.c (Il n)] m Q:=by
 have e:=hS.st;obtain⟨i,_⟩:=zrD;refine zvK ?_;unfold ztx at hp;obtain⟨g,a,hp⟩:=zqd hp;refine zyp (r:=({ Lo:=(0:Int),Hi:=(100:Int) }:Rg)) (n:=n) e.pre  a fun j b=>?_;obtain⟨d,h⟩:=e.call b i;refine⟨_,rfl,?_⟩;obtain rfl:=oi hp;exact hq _ d.ext'
theorem zyr{r:Rg}{m f:M}{Q:V->M->Prop}{rz:Bool}(hS:Pre f m)(hp:zty r=some rz)(hq:∀m',Ext m m'->Q (.c (.bool rz)) m'):Wc prog tbl 126 [.agg 2 [Il r.Lo,Il r.Hi]] m Q:=by
 have D:=hS.st;obtain⟨F,_⟩:=zrD;refine zwl ?_;unfold zty at hp;intro G j;obtain⟨e,g,z,h⟩:=D.blk j F 1;refine⟨trivial,_,h.bk.rc rfl,?_⟩;obtain⟨A,l,hp⟩:=zqd hp;refine zyq (n:=r.Lo) g.pre  l fun I o=>?_;obtain⟨b,p⟩:=g.call o e;have i:=h.k p;refine⟨_,rfl,?_⟩;refine zqS hp (fun q hp=>?_) fun q hp=>?_; rotate_left
 ·obtain rfl:=oi hp;exact hq _ b.ext'
 refine⟨trivial,_,i.bk.rc rfl,?_⟩;obtain⟨B,s,hp⟩:=zqd hp;refine zyq (n:=r.Hi) b.pre  s fun J t=>?_;obtain⟨d,u⟩:=b.call t e;have a:=i.k u;refine⟨_,rfl,?_⟩;refine zqS hp (fun w hp=>?_) fun w hp=>?_; rotate_left
 ·obtain rfl:=oi hp;exact hq _ d.ext'
 refine⟨trivial,_,a.bk.rc rfl,trivial,_,a.bk.rc rfl,?_⟩;refine ifd hp (fun x hp=>?_) fun x hp=>?_; rotate_left
 ·obtain rfl:=oi hp;exact hq _ d.ext'
 refine⟨trivial,_,a.bk.rc rfl,trivial,_,a.bk.rc rfl,?_⟩;refine gdi hp fun y hp=>?_;obtain rfl:=oi hp;exact hq _ d.ext'
theorem zys{x:Rg}{passes:Rg->Option (Bool)}{b0:Nat}{cb000:C}{m f:M}{Q:V->M->Prop}{rz:Bool}(hS:Pre f m)(hb0:Bk f b0 1 [cb000])(hb000:zwX f cb000 passes)(hp:ztz x passes=some rz)(hq:∀m',Ext m m'->Q (.c (.bool rz)) m'):Wc prog tbl 154 [.agg 2 [Il x.Lo,Il x.Hi],.c (.ptr b0 0)] m Q:=by
 have o:=hS.st;obtain⟨p,_⟩:=zrD;refine zvC ?_;unfold ztz at hp;intro q b;obtain⟨d,a,j,e⟩:=o.blk b p 1;refine⟨_,(hb0.sub a.sub).rc rfl,_,_,e.bk.ra,?_⟩;obtain⟨l,g,hp⟩:=zqd hp;refine hb000 _ _ _ _ _ (Sub.refl _) a.pre  g fun r h=>?_;obtain⟨i,n⟩:=a.call h d;refine⟨_,rfl,?_⟩;obtain rfl:=oi hp;exact hq _ i.ext'
theorem zyt{l:List Rg}{p:Rg->Option (Bool)}{ca100 ca200:C}{m f:M}{Q:V->M->Prop}{rz:Int}(hS:Pre f m)(ha100:Sl f ca100 l)(ha200:zwX f ca200 p)(hp:ztB l p=some rz)(hq:∀m',Ext m m'->Q (.c (Il rz)) m'):Wc prog tbl 170 [.c ca100,.c ca200] m Q:=by
 have D:=hS.st;obtain⟨F,_⟩:=zrD;refine zwb ?_;unfold ztB at hp;refine⟨ha100.isSl,?_⟩;intro G y
 have hgo:∀(b:Nat) (w:Int) (j:Int) (n:M) (d:Nat->Nat),St (Fm.of m) f f n->ztA l p b j=some rz->G [.c (Il w),.c (Il j)] n:=by
  intro b
  induction b with
  | zero=>intro w j n d a hp; cases hp
  | succ b x=>
   intro w j n d a hp;refine y _ _ _ ?_;rw[ztA] at hp
   try rw[ha100.slLen]
   refine ifd hp (fun o hp=>?_) fun o hp=>?_; rotate_left
   ·obtain rfl:=oi hp;exact hq _ a.ext'
   obtain⟨z,e,hp⟩:=zqd hp;obtain⟨I,i,g,e⟩:=zp7 e;obtain⟨_,q⟩:=zrF ha100 e;refine⟨I,i,(by first|exact g|(rw[ha100.slLen];exact g)),_,_,(q _ a.sub).1,?_⟩;obtain⟨A,r,hp⟩:=zqd hp;refine ha200 _ _ _ _ _ (Sub.refl _) a.pre  r fun J s=>?_;obtain⟨h,B⟩:=a.call s d;refine⟨_,rfl,?_⟩;refine zqS hp (fun t hp=>?_) fun t hp=>?_
   ·obtain rfl:=oi hp;exact hq _ h.ext'
   refine gdi hp fun u hp=>?_;exact x _ _ _ d h hp
 exact hgo _ _ _ _ F D hp
theorem zyu{l:List Rg}{p:Rg->Option (Bool)}{ca100 ca200:C}{m f:M}{Q:V->M->Prop}{rz:Bool}(hS:Pre f m)(ha100:Sl f ca100 l)(ha200:zwX f ca200 p)(hp:ztC l p=some rz)(hq:∀m',Ext m m'->Q (.c (.bool rz)) m'):Wc prog tbl 153 [.c ca100,.c ca200] m Q:=by
 have e:=hS.st;obtain⟨i,_⟩:=zrD;refine zwI ?_;unfold ztC at hp;obtain⟨g,a,hp⟩:=zqd hp;refine zyt (l:=l) (p:=p) e.pre ha100 ha200 a fun j b=>?_;obtain⟨d,h⟩:=e.call b i;refine⟨_,rfl,?_⟩;obtain rfl:=oi hp;exact hq _ d.ext'
theorem zyv{l:List Rg}{passes:Rg->Option (Bool)}{ca100 ca200:C}{m f:M}{Q:V->M->Prop}{rz:Bool}(hS:Pre f m)(ha100:Sl f ca100 l)(ha200:zwX f ca200 passes)(hp:ztD l passes=some rz)(hq:∀m',Ext m m'->Q (.c (.bool rz)) m'):Wc prog tbl 125 [.c ca100,.c ca200] m Q:=by
 have y:=hS.st;obtain⟨z,_⟩:=zrD;refine zv2 ?_;unfold ztD at hp;intro A h;obtain⟨i,j,u,n⟩:=y.blk h z 1;obtain⟨o,b,d,e⟩:=n.freeze j
 have g:zwX o ((C.fn (Fn.func 154) [] [(W.c (C0.ptr m.nxt 0))])) (fun a=>ztz a passes):=by
  intro f' m' a r Q hs hpre  hg hq;exact zys hpre (e.sub hs) ((ha200.sub d.fs).sub hs) hg hq
 obtain⟨w,q,hp⟩:=zqd hp;refine zyu (l:=l) (p:=(fun a=>ztz a passes)) b.pre (ha100.sub d.fs) g q fun B s=>?_;obtain⟨t,x⟩:=b.call s i;refine⟨_,rfl,?_⟩;obtain rfl:=oi hp;exact hq _ t.ext'
theorem zyw{x:Fld}{passes:Fld->Option (Bool)}{b0:Nat}{cb000:C}{m f:M}{Q:V->M->Prop}{rz:Bool}(hS:Pre f m)(hb0:Bk f b0 1 [cb000])(hb000:zwY f cb000 passes)(hp:ztE x passes=some rz)(hq:∀m',Ext m m'->Q (.c (.bool rz)) m'):Wc prog tbl 122 [.agg 9 [Il x.Crop,Il x.Value,Il x.Near,Il x.First.Lo,Il x.First.Hi,Il x.Second.Lo,Il x.Second.Hi,Il x.Umpire.Lo,Il x.Umpire.Hi],.c (.ptr b0 0)] m Q:=by
 have o:=hS.st;obtain⟨p,_⟩:=zrD;refine zvD ?_;unfold ztE at hp;intro r b;obtain⟨d,a,j,e⟩:=o.blk b p 1;refine⟨_,(hb0.sub a.sub).rc rfl,_,_,_,_,_,_,_,_,_,e.bk.ra,?_⟩;obtain⟨l,g,hp⟩:=zqd hp;refine hb000 _ _ _ _ _ (Sub.refl _) a.pre  g fun q h=>?_;obtain⟨i,n⟩:=a.call h d;refine⟨_,rfl,?_⟩;obtain rfl:=oi hp;exact hq _ i.ext'
theorem zyx{l:List Fld}{p:Fld->Option (Bool)}{ca100 ca200:C}{m f:M}{Q:V->M->Prop}{rz:Int}(hS:Pre f m)(ha100:Sl f ca100 l)(ha200:zwY f ca200 p)(hp:ztG l p=some rz)(hq:∀m',Ext m m'->Q (.c (Il rz)) m'):Wc prog tbl 151 [.c ca100,.c ca200] m Q:=by
 have D:=hS.st;obtain⟨F,_⟩:=zrD;refine zv7 ?_;unfold ztG at hp;refine⟨ha100.isSl,?_⟩;intro G y
 have hgo:∀(b:Nat) (w:Int) (j:Int) (n:M) (d:Nat->Nat),St (Fm.of m) f f n->ztF l p b j=some rz->G [.c (Il w),.c (Il j)] n:=by
  intro b
  induction b with
  | zero=>intro w j n d a hp; cases hp
  | succ b x=>
   intro w j n d a hp;refine y _ _ _ ?_;rw[ztF] at hp
   try rw[ha100.slLen]
   refine ifd hp (fun o hp=>?_) fun o hp=>?_; rotate_left
   ·obtain rfl:=oi hp;exact hq _ a.ext'
   obtain⟨z,e,hp⟩:=zqd hp;obtain⟨I,i,g,e⟩:=zp7 e;obtain⟨_,q⟩:=zrK ha100 e;refine⟨I,i,(by first|exact g|(rw[ha100.slLen];exact g)),_,_,_,_,_,_,_,_,_,(q _ a.sub).1,?_⟩;obtain⟨A,r,hp⟩:=zqd hp;refine ha200 _ _ _ _ _ (Sub.refl _) a.pre  r fun J s=>?_;obtain⟨h,B⟩:=a.call s d;refine⟨_,rfl,?_⟩;refine zqS hp (fun t hp=>?_) fun t hp=>?_
   ·obtain rfl:=oi hp;exact hq _ h.ext'
   refine gdi hp fun u hp=>?_;exact x _ _ _ d h hp
 exact hgo _ _ _ _ F D hp
theorem zyy{l:List Fld}{p:Fld->Option (Bool)}{ca100 ca200:C}{m f:M}{Q:V->M->Prop}{rz:Bool}(hS:Pre f m)(ha100:Sl f ca100 l)(ha200:zwY f ca200 p)(hp:ztH l p=some rz)(hq:∀m',Ext m m'->Q (.c (.bool rz)) m'):Wc prog tbl 121 [.c ca100,.c ca200] m Q:=by
 have e:=hS.st;obtain⟨i,_⟩:=zrD;refine zwk ?_;unfold ztH at hp;obtain⟨g,a,hp⟩:=zqd hp;refine zyx (l:=l) (p:=p) e.pre ha100 ha200 a fun j b=>?_;obtain⟨d,h⟩:=e.call b i;refine⟨_,rfl,?_⟩;obtain rfl:=oi hp;exact hq _ d.ext'
theorem zyz{l:List Fld}{passes:Fld->Option (Bool)}{ca100 ca200:C}{m f:M}{Q:V->M->Prop}{rz:Bool}(hS:Pre f m)(ha100:Sl f ca100 l)(ha200:zwY f ca200 passes)(hp:ztI l passes=some rz)(hq:∀m',Ext m m'->Q (.c (.bool rz)) m'):Wc prog tbl 94 [.c ca100,.c ca200] m Q:=by
 have y:=hS.st;obtain⟨z,_⟩:=zrD;refine w94 ?_;unfold ztI at hp;intro A h;obtain⟨i,j,u,n⟩:=y.blk h z 1;obtain⟨o,b,d,e⟩:=n.freeze j
 have g:zwY o ((C.fn (Fn.func 122) [] [(W.c (C0.ptr m.nxt 0))])) (fun a=>ztE a passes):=by
  intro f' m' a r Q hs hpre  hg hq;exact zyw hpre (e.sub hs) ((ha200.sub d.fs).sub hs) hg hq
 obtain⟨w,q,hp⟩:=zqd hp;refine zyy (l:=l) (p:=(fun a=>ztE a passes)) b.pre (ha100.sub d.fs) g q fun B s=>?_;obtain⟨t,x⟩:=b.call s i;refine⟨_,rfl,?_⟩;obtain rfl:=oi hp;exact hq _ t.ext'
theorem zyA{f_:Fld}{t:Thr}{m f:M}{Q:V->M->Prop}{rz:Bool}(hS:Pre f m)(hp:ztJ f_ t=some rz)(hq:∀m',Ext m m'->Q (.c (.bool rz)) m'):Wc prog tbl 84 [.agg 9 [Il f_.Crop,Il f_.Value,Il f_.Near,Il f_.First.Lo,Il f_.First.Hi,Il f_.Second.Lo,Il f_.Second.Hi,Il f_.Umpire.Lo,Il f_.Umpire.Hi],.agg 3 [Il t.First,Il t.Second,Il t.Umpire]] m Q:=by
 have S0:=hS.st;obtain⟨τ0,_⟩:=zrD;refine w84 ?_;unfold ztJ at hp;intro m0 q;obtain⟨s,u,S,w⟩:=S0.blk q τ0 1;intro m1 x;obtain⟨a,e,y,g⟩:=u.blk x s 2;have h:=w.k y;refine⟨trivial,_,_,h.bk.rp (k:=3) (j:=2) rfl (by omega),trivial,_,g.bk.rc rfl,?_⟩;obtain⟨T,z,hp⟩:=zqd hp;refine zyp (r:=f_.First) (n:=t.First) e.pre  z fun m6 A=>?_;obtain⟨b,i⟩:=e.call A a;have l:=h.k i;have o:=g.k i;refine⟨_,rfl,?_⟩;refine zqS hp (fun B hp=>?_) fun B hp=>?_; rotate_left
 ·obtain rfl:=oi hp;exact hq _ b.ext'
 refine⟨trivial,_,_,l.bk.rp (k:=5) (j:=2) rfl (by omega),trivial,_,o.bk.rc rfl,?_⟩;obtain⟨Y,D,hp⟩:=zqd hp;refine zyp (r:=f_.Second) (n:=t.Second) b.pre  D fun da F=>?_;obtain⟨d,p⟩:=b.call F a;have G:=l.k p;have I:=o.k p;refine⟨_,rfl,?_⟩;refine zqS hp (fun J hp=>?_) fun J hp=>?_; rotate_left
 ·obtain rfl:=oi hp;exact hq _ d.ext'
 refine⟨trivial,_,_,G.bk.rp (k:=7) (j:=2) rfl (by omega),trivial,_,I.bk.rc rfl,?_⟩;obtain⟨Z,N,hp⟩:=zqd hp;refine zyp (r:=f_.Umpire) (n:=t.Umpire) d.pre  N fun ea O=>?_;obtain⟨P,aa⟩:=d.call O a;refine⟨_,rfl,?_⟩;obtain rfl:=oi hp;exact hq _ P.ext'
theorem zyB{a:Int}{b:Int}{m f:M}{Q:V->M->Prop}{rz:Int}(hS:Pre f m)(hp:ztK a b=some rz)(hq:∀m',Ext m m'->Q (.c (Il rz)) m'):Wc prog tbl 129 [.c (Il a),.c (Il b)] m Q:=by
 have e:=hS.st;obtain⟨g,_⟩:=zrD;refine zvL ?_;unfold ztK at hp;refine gdi hp fun d hp=>?_;obtain rfl:=oi hp;exact hq _ e.ext'
theorem zyC{f_:Fld}{t:Thr}{m f:M}{Q:V->M->Prop}{rz:Bool}(hS:Pre f m)(hp:ztL f_ t=some rz)(hq:∀m',Ext m m'->Q (.c (.bool rz)) m'):Wc prog tbl 99 [.agg 9 [Il f_.Crop,Il f_.Value,Il f_.Near,Il f_.First.Lo,Il f_.First.Hi,Il f_.Second.Lo,Il f_.Second.Hi,Il f_.Umpire.Lo,Il f_.Umpire.Hi],.agg 3 [Il t.First,Il t.Second,Il t.Umpire]] m Q:=by
 have z:=hS.st;obtain⟨A,_⟩:=zrD;refine w99 ?_;unfold ztL at hp;intro B h;obtain⟨i,j,x,l⟩:=z.blk h A 1;intro D n;obtain⟨o,d,p,e⟩:=j.blk n i 2;have g:=l.k p;refine⟨trivial,_,e.bk.rc rfl,trivial,_,e.bk.rc rfl,?_⟩;obtain⟨y,q,hp⟩:=zqd hp;refine zyB (a:=t.First) (b:=t.Second) d.pre  q fun F r=>?_;obtain⟨s,u⟩:=d.call r o;have w:=g.k u;refine⟨_,rfl,trivial,_,w.bk.rc rfl,(g.bk.rc rfl),?_⟩;obtain rfl:=oi hp;exact hq _ s.ext'
theorem zyD{f_:Fld}{t:Thr}{m f:M}{Q:V->M->Prop}{rz:Int}(hS:Pre f m)(hp:ztM f_ t=some rz)(hq:∀m',Ext m m'->Q (.c (Il rz)) m'):Wc prog tbl 85 [.agg 9 [Il f_.Crop,Il f_.Value,Il f_.Near,Il f_.First.Lo,Il f_.First.Hi,Il f_.Second.Lo,Il f_.Second.Hi,Il f_.Umpire.Lo,Il f_.Umpire.Hi],.agg 3 [Il t.First,Il t.Second,Il t.Umpire]] m Q:=by
 have D:=hS.st;obtain⟨F,_⟩:=zrD;refine w85 ?_;unfold ztM at hp;intro I g;obtain⟨h,i,A,j⟩:=D.blk g F 1;intro J l;obtain⟨n,b,o,d⟩:=i.blk l h 2;have p:=j.k o;refine⟨_,_,_,_,_,_,_,_,_,p.bk.ra,_,_,_,d.bk.ra,?_⟩;obtain⟨B,q,hp⟩:=zqd hp;refine zyC (f_:=f_) (t:=t) b.pre  q fun G r=>?_;obtain⟨e,s⟩:=b.call r n;have a:=d.k s;refine⟨_,rfl,?_⟩;refine zqT hp (fun u hp=>?_) fun u hp=>?_; rotate_left
 ·refine⟨trivial,_,a.bk.rc rfl,trivial,_,a.bk.rc rfl,trivial,_,a.bk.rc rfl,trivial,_,a.bk.rc rfl,trivial,_,a.bk.rc rfl,?_⟩;obtain rfl:=oi hp;exact hq _ e.ext'
 refine⟨trivial,_,a.bk.rc rfl,trivial,_,a.bk.rc rfl,?_⟩;refine gdi hp fun w hp=>?_;refine gdi hp fun x hp=>?_;refine gdi hp fun y hp=>?_;refine gdi hp fun z hp=>?_;obtain rfl:=oi hp;exact hq _ e.ext'
theorem zyE{f_:Fld}{t:Thr}{m f:M}{Q:V->M->Prop}{rz:Int}(hS:Pre f m)(hp:ztN f_ t=some rz)(hq:∀m',Ext m m'->Q (.c (Il rz)) m'):Wc prog tbl 112 [.agg 9 [Il f_.Crop,Il f_.Value,Il f_.Near,Il f_.First.Lo,Il f_.First.Hi,Il f_.Second.Lo,Il f_.Second.Hi,Il f_.Umpire.Lo,Il f_.Umpire.Hi],.agg 3 [Il t.First,Il t.Second,Il t.Umpire]] m Q:=by
 have S0:=hS.st;obtain⟨τ0,_⟩:=zrD;refine zvZ ?_;unfold ztN at hp;intro m0 w;obtain⟨x,y,da,z⟩:=S0.blk w τ0 1;intro m1 A;obtain⟨d,h,B,i⟩:=y.blk A x 2;have j:=z.k B;refine⟨_,_,_,_,_,_,_,_,_,j.bk.ra,_,_,_,i.bk.ra,?_⟩;obtain⟨l,D,hp⟩:=zqd hp;refine zyD (f_:=f_) (t:=t) h.pre  D fun ka F=>?_;obtain⟨n,o⟩:=h.call F d;have G:=j.k o;have g:=i.k o;refine⟨_,rfl,trivial,_,g.bk.rc rfl,?_⟩;obtain⟨ea,I,hp⟩:=zqd hp;refine zyB (a:=t.First) (b:=l) n.pre  I fun la J=>?_;obtain⟨p,q⟩:=n.call J d;have N:=G.k q;have r:=g.k q;refine⟨_,rfl,trivial,_,r.bk.rc rfl,(g.bk.rc rfl),?_⟩;obtain⟨fa,O,hp⟩:=zqd hp;refine zyB (a:=t.Second) (b:=l) p.pre  O fun ma P=>?_;obtain⟨s,u⟩:=p.call P d;have S:=N.k u;have T:=r.k u;refine⟨_,rfl,_,_,_,_,_,_,_,_,_,S.bk.ra,_,_,_,T.bk.ra,?_⟩;obtain⟨ga,Y,hp⟩:=zqd hp;refine zyC (f_:=f_) (t:=t) s.pre  Y fun na Z=>?_;obtain⟨e,ha⟩:=s.call Z d;refine⟨_,rfl,?_⟩;refine zqT hp (fun aa hp=>?_) fun aa hp=>?_
 ·obtain rfl:=oi hp;exact hq _ e.ext'
 refine ifd hp (fun ba hp=>?_) fun ba hp=>?_
 ·obtain rfl:=oi hp;exact hq _ e.ext'
 refine ifd hp (fun ca hp=>?_) fun ca hp=>?_
 ·obtain rfl:=oi hp;exact hq _ e.ext'
 obtain rfl:=oi hp;exact hq _ e.ext'
theorem zyF{f_:Fld}{b0:Nat}{m f:M}{F:Fm}{n0 ly:Nat}{xs:List (List V)}{I:Nat->(Nat->Prop)->M->Prop}{E:(Nat->Prop)->M->Prop}{S1:Nat->Prop}{Q:V->M->Prop}{rz:List Thr}{τ0:Nat->Nat}(hc:zp2 prog tbl n0 ly xs I E)(S0:St F f f m)(Y0:Yg n0 (YJ xs I rz) S1 F f τ0 m)(hb0:Bk f b0 9 [(.int .i64 f_.Crop),(.int .i64 f_.Value),(.int .i64 f_.Near),(.int .i64 f_.First.Lo),(.int .i64 f_.First.Hi),(.int .i64 f_.Second.Lo),(.int .i64 f_.Second.Hi),(.int .i64 f_.Umpire.Lo),(.int .i64 f_.Umpire.Hi)])(hp:ztR f_=some rz)(hq:∀v m' f' τ' S',St F f f' m'->(Yg n0 (YJ xs I ([]:List Thr)) S' F f' τ' m'\/Yg n0 E S' F f' τ' m')->Q v m'):Wc prog tbl 128 [.c (.fn (.yield ly) [] []),.c (.ptr b0 0)] m Q:=by
 refine zvE ?_;unfold ztR at hp;refine⟨trivial,trivial,_,(hb0.sub S0.sub).rc rfl,?_⟩;intro R1 hR1
 have hgo:∀(d2755:Nat) (x2:Int) (r2752:List Thr) (s2753:Nat->Prop) (m3:M) (τ2751:Nat->Nat),St F f f m3->Yg n0 (YJ xs I r2752) s2753 F f τ2751 m3->ztQ f_ d2755 x2=some r2752->R1 [.c (.int .i64 x2)] m3:=by
  intro d2755
  induction d2755 with
  | zero=>intro x2 r2752 s2753 m3 τ2751 S2750 Y2754 hp; cases hp
  | succ d2755 ihR1=>
   intro x2 r2752 s2753 m3 τ2751 S2750 Y2754 hp;refine hR1 _ _ ?_;rw[ztQ] at hp;refine⟨trivial,trivial,_,(hb0.sub S2750.sub).rc rfl,?_⟩;refine ifd hp (fun q2756 hp=>?_) fun q2756 hp=>?_; rotate_left
   ·obtain rfl:=oi hp;exact hq _ _ _ _ _ S2750 (.inl Y2754)
   refine⟨trivial,trivial,_,(hb0.sub S2750.sub).rc rfl,?_⟩;intro R6 hR6
   have hgo:∀(d2762:Nat) (x7:Int) (r2759:List Thr) (s2760:Nat->Prop) (m8:M) (τ2758:Nat->Nat),St F f f m8->Yg n0 (YJ xs I r2759) s2760 F f τ2758 m8->ztP f_ x2 (ztQ f_ d2755) d2762 x7=some r2759->R6 [.c (.int .i64 x7)] m8:=by
    intro d2762
    induction d2762 with
    | zero=>intro x7 r2759 s2760 m8 τ2758 S2757 Y2761 hp; cases hp
    | succ d2762 ihR6=>
     intro x7 r2759 s2760 m8 τ2758 S2757 Y2761 hp;refine hR6 _ _ ?_;rw[ztP] at hp;refine⟨trivial,trivial,_,(hb0.sub S2757.sub).rc rfl,?_⟩;refine ifd hp (fun q2763 hp=>?_) fun q2763 hp=>?_; rotate_left
     ·obtain⟨g2786,hp⟩:=zqe hp;refine⟨g2786,?_⟩;exact ihR1 _ _ _ _ τ2758 S2757 Y2761 hp
     refine⟨trivial,trivial,_,(hb0.sub S2757.sub).rc rfl,?_⟩;intro R11 hR11
     have hgo:∀(d2769:Nat) (x12:Int) (r2766:List Thr) (s2767:Nat->Prop) (m13:M) (τ2765:Nat->Nat),St F f f m13->Yg n0 (YJ xs I r2766) s2767 F f τ2765 m13->ztO f_ x2 x7 (ztP f_ x2 (ztQ f_ d2755) d2762) d2769 x12=some r2766->R11 [.c (.int .i64 x12)] m13:=by
      intro d2769
      induction d2769 with
      | zero=>intro x12 r2766 s2767 m13 τ2765 S2764 Y2768 hp; cases hp
      | succ d2769 ihR11=>
       intro x12 r2766 s2767 m13 τ2765 S2764 Y2768 hp;refine hR11 _ _ ?_;rw[ztO] at hp;refine⟨trivial,trivial,_,(hb0.sub S2764.sub).rc rfl,?_⟩;refine ifd hp (fun q2770 hp=>?_) fun q2770 hp=>?_; rotate_left
       ·obtain⟨g2785,hp⟩:=zqe hp;refine⟨g2785,?_⟩;exact ihR6 _ _ _ _ τ2765 S2764 Y2768 hp
       obtain⟨r2771,hp2773,hz2772⟩:=zqd hp
       clear hp
       obtain rfl:=oi hz2772;have hp:=hp2773
       show Wy prog tbl ly (IV.encs (({ First:=x2,Second:=x7,Umpire:=x12 }:Thr):Thr)) _ _
       refine Yg.yield hc S2764 Y2768 ?_ ?_
       ·intro m16 τ2774 s2778 S2775 k2776 Y2777;refine⟨_,rfl,?_⟩;refine zqW ?_;obtain⟨g2779,hp⟩:=zqe hp;refine⟨g2779,?_⟩;exact ihR11 _ _ _ _ τ2774 S2775 Y2777 hp
       ·intro m16 τ2780 s2784 S2781 k2782 Y2783;refine⟨_,rfl,?_⟩;refine zqX ?_;exact hq _ _ _ _ _ S2781 (.inr Y2783)
     exact hgo _ _ _ _ _ τ2758 S2757 Y2761 hp
   exact hgo _ _ _ _ _ τ2751 S2750 Y2754 hp
 exact hgo _ _ _ _ _ τ0 S0 Y0 hp
theorem zyG{f_:Fld}{m f:M}{Q:V->M->Prop}{rz:List Thr}(hS:Pre f m)(hp:ztS f_=some rz)(hq:∀m' f' c0,Grw m f m' f'->It prog tbl f' c0 rz->Q (.c c0) m'):Wc prog tbl 98 [.agg 9 [Il f_.Crop,Il f_.Value,Il f_.Near,Il f_.First.Lo,Il f_.First.Hi,Il f_.Second.Lo,Il f_.Second.Hi,Il f_.Umpire.Lo,Il f_.Umpire.Hi]] m Q:=by
 have q:=hS.st;obtain⟨r,_⟩:=zrD;refine w98 ?_;unfold ztS at hp;intro s g;obtain⟨n,h,o,i⟩:=q.blk g r 1;obtain⟨b,a,p,d⟩:=i.freeze h;obtain⟨j,l,hp⟩:=zqd hp;have e:It prog tbl b ((C.fn (Fn.func 128) [] [(W.c (C0.ptr m.nxt 0))])) j:=zqZ a.fz a.fv fun t ly I E hc u w x y hS hY Q hq=>zyF hc hS hY d l hq;obtain rfl:=oi hp;exact hq _ b (C.fn (Fn.func 128) [] [(W.c (C0.ptr m.nxt 0))]) a.grw e
theorem zyH{c:List Bool}{m f:M}{Q:V->M->Prop}{rz:List Int}(hS:Pre f m)(hp:ztU c=some rz)(hq:∀m' f' c0,Grw m f m' f'->Sl f' c0 rz->Q (.c c0) m'):Wc prog tbl 65 [.agg 101 (c.map C.bool)] m Q:=by
 have S0:=hS.st;obtain⟨τ0,_⟩:=zrD;refine w65 ?_;unfold ztU at hp;intro m0 t;obtain⟨u,w,fa,b⟩:=S0.blk t τ0 1;intro R1 ca
 have hgo:∀(e:Nat) (o:C) (l:Int) (g:List Int) (n:M) (d:Nat->Nat),St (Fm.of m) f f n->Lb (Fm.of m) f d n 1 m.nxt 101 (c.map C.bool)->Ow (Fm.of m) f d n 2 o g->ztT c e g l=some rz->R1 [.c o,.c (Il l)] n:=by
  intro e
  induction e with
  | zero=>intro o l g n d h b i hp; cases hp
  | succ e p=>
   intro o l g n d h b i hp;refine ca _ _ _ ?_;rw[ztT] at hp;refine ifd hp (fun x hp=>?_) fun x hp=>?_; rotate_left
   ·obtain⟨y,z,ga,A⟩:=i.freeze h;obtain rfl:=oi hp;exact hq _ y o z.grw A
   refine⟨trivial,?_⟩;obtain⟨B,hp⟩:=zqe hp;obtain⟨n5,q,r⟩:=zqO B;obtain⟨ha,j,hp⟩:=zqd hp;obtain⟨s,da,ea,j⟩:=zp7 j
   obtain rfl:s=(0+(n5 * 1)):=by omega
   refine⟨n5,q,r,_,(b.bk.rc (k:=(0+(n5 * 1))) (by rw[List.getElem?_map,j]; rfl)),?_⟩;refine zqS hp (fun D hp=>?_) fun D hp=>?_; rotate_left
   ·refine gdi hp fun F hp=>?_;exact p _ _ _ _ d h b i hp
   obtain⟨G,hp⟩:=zqe hp;intro m7 I;obtain⟨J,N,O,P,S,T,Y⟩:=i.app' zw4 h (a:=l) (show Rp.rep (α:=Int) f _ l from rfl) G I;have Z:=b.k T;refine⟨J,N,P,?_⟩;refine gdi hp fun aa hp=>?_;exact p _ _ _ _ O S Z Y hp
 exact hgo _ _ _ _ _ u w b (Ow.nil _ _ _ _ _) hp
theorem zyI{f_:Fld}{m f:M}{Q:V->M->Prop}{rz:List Bool}(hS:Pre f m)(hp:ztW f_=some rz)(hq:∀m',Ext m m'->Q (.agg 101 (rz.map C.bool)) m'):Wc prog tbl 64 [.agg 9 [Il f_.Crop,Il f_.Value,Il f_.Near,Il f_.First.Lo,Il f_.First.Hi,Il f_.Second.Lo,Il f_.Second.Hi,Il f_.Umpire.Lo,Il f_.Umpire.Hi]] m Q:=by
 have S0:=hS.st;obtain⟨τ0,_⟩:=zrD;refine w64 ?_;unfold ztW at hp;intro m0 ka;obtain⟨la,ma,tb,na⟩:=S0.blk ka τ0 1;intro m1 oa;obtain⟨pa,qa,sa,o⟩:=ma.blk oa la 2
 replace o:Lb _ _ _ _ _ _ _ ((List.replicate 101 false).map C.bool):=o
 have ta:=na.k sa;intro m2 ua;obtain⟨y,z,A,p⟩:=qa.blk ua pa 3
 replace p:Lb _ _ _ _ _ _ _ ((List.replicate 101 false).map C.bool):=p
 have B:=ta.k A;have va:=o.k A;refine⟨_,_,_,_,_,_,_,_,_,B.bk.ra,?_⟩;obtain⟨ub,wa,hp⟩:=zqd hp;refine zyG (f_:=f_) z.pre  wa fun Eb vb wb xa ya=>?_;obtain⟨za,q⟩:=z.callG xa y;have D:=B.k q;have F:=va.k q;have G:=p.k q;refine⟨_,rfl,?_⟩;refine zqM (α:=Thr) za ya (σ:=(List Bool)) 4 (fun st bb=>(False\/(False\/False))) (fun st gG gF gT gM=>(Lb gG gF gT gM 1 m.nxt 9 [Il f_.Crop,Il f_.Value,Il f_.Near,Il f_.First.Lo,Il f_.First.Hi,Il f_.Second.Lo,Il f_.Second.Hi,Il f_.Umpire.Lo,Il f_.Umpire.Hi])/\(Lb gG gF gT gM 2 m0.nxt 101 ((List.replicate 101 false).map C.bool))/\(Lb gG gF gT gM 3 m1.nxt 101 (st.map C.bool))) (fun rr_ st=>ztV f_ rr_ st=some rz) (fun ex st=>False) (fun st=>(Gud.and (Gud.lb D.bk.lt (by decide)) (Gud.and (Gud.lb F.bk.lt (by decide)) (Gud.lb G.bk.lt (by decide))))) (st0:=((List.replicate 101 false))) (τ:=y) ⟨D,F,G⟩ hp ?_ ?_ ?_ ?_
 ·intro e Aa a r g P s xb qb rb sb Ba yb hA S hp T Y;obtain⟨d,b,c⟩:=hA
  replace d:Lb s r g P 1 m.nxt 9 [Il f_.Crop,Il f_.Value,Il f_.Near,Il f_.First.Lo,Il f_.First.Hi,Il f_.Second.Lo,Il f_.Second.Hi,Il f_.Umpire.Lo,Il f_.Umpire.Hi]:=d
  replace b:Lb s r g P 2 m0.nxt 101 ((List.replicate 101 false).map C.bool):=b
  replace c:Lb s r g P 3 m1.nxt 101 (a.map C.bool):=c
  replace hp:ztV f_ (e::Aa) a=some rz:=hp
  rw[ztV] at hp;refine⟨_,_,_,rfl,?_⟩;intro Fb Ca;obtain⟨Da,Ea,h,Fa⟩:=Ba.blk Ca g 5;have Ga:=d.k h;have Ha:=b.k h;have Ia:=c.k h;have Z:=S.k h;obtain⟨Ja,Ka,La,j,Ma⟩:=Fa.sto Ea [Il e.First,Il e.Second,Il e.Umpire];have Na:=Ga.k j;have Oa:=Ha.k j;have Pa:=Ia.k j;have aa:=Z.k j;refine⟨Ja,Ka,?_⟩;refine T _ _ _ _ La aa fun Gb zb I l ba ca=>?_;have J:=Na.k l;have Qa:=Oa.k l;have Ra:=Pa.k l;have Sa:=Ma.k l;refine⟨_,_,_,_,_,_,_,_,_,J.bk.ra,_,_,_,Sa.bk.ra,?_⟩;obtain⟨N,Ta,hp⟩:=zqd hp;refine zyD (f_:=f_) (t:=e) I.pre  Ta fun Hb Ua=>?_;obtain⟨Va,n⟩:=I.call Ua Da;have Wa:=J.k n;have Xa:=Qa.k n;have Ya:=Ra.k n;have da:=ba.k n;refine⟨_,rfl,trivial,?_⟩;obtain⟨Za,hp⟩:=zqe hp;obtain⟨ea,fa,ga⟩:=zqO Za;refine⟨ea,fa,ga,?_⟩;obtain⟨ab,hp⟩:=zqe hp
  have ha:Int.toNat N=(0+(ea * 1)):=by omega
  obtain⟨cb,db,eb,u,O⟩:=Ya.stL Va ab (i:=(0+(ea * 1))) (by omega) true;rw[<- ha] at O;have fb:=Wa.k u;have gb:=Xa.k u;have ia:=da.k u;refine⟨cb,db,?_⟩;exact Y .nrm ((a.set (Int.toNat N) true)) _ _ _ _ eb ⟨fb,gb,O⟩ ia ca hp
 ·intro a w x ja hb Ab hA hp
  replace hp:ztV f_ [] a=some rz:=hp
  obtain⟨d,b,c⟩:=hA
  replace d:Lb (Fm.of m) w x ja 1 m.nxt 9 [Il f_.Crop,Il f_.Value,Il f_.Near,Il f_.First.Lo,Il f_.First.Hi,Il f_.Second.Lo,Il f_.Second.Hi,Il f_.Umpire.Lo,Il f_.Umpire.Hi]:=d
  replace b:Lb (Fm.of m) w x ja 2 m0.nxt 101 ((List.replicate 101 false).map C.bool):=b
  replace c:Lb (Fm.of m) w x ja 3 m1.nxt 101 (a.map C.bool):=c
  rw[ztV] at hp;refine⟨_,c.bk.ra,?_⟩;obtain⟨ib,jb,kb,Bb,mb⟩:=b.sto hb (a.map C.bool);refine⟨ib,jb,?_⟩;refine⟨_,mb.bk.ra,?_⟩;obtain rfl:=oi hp;exact hq _ kb.ext'
 ·intro id st _ _ _ _ _ _ hn; first | exact hn.elim | (cases hn)
 ·intro st _ _ _ _ _ _ hn; first | exact hn.elim | (cases hn)
theorem zyJ{f_:Fld}{m f:M}{Q:V->M->Prop}{rz:Int}(hS:Pre f m)(hp:ztY f_=some rz)(hq:∀m',Ext m m'->Q (.c (Il rz)) m'):Wc prog tbl 66 [.agg 9 [Il f_.Crop,Il f_.Value,Il f_.Near,Il f_.First.Lo,Il f_.First.Hi,Il f_.Second.Lo,Il f_.Second.Hi,Il f_.Umpire.Lo,Il f_.Umpire.Hi]] m Q:=by
 have S0:=hS.st;obtain⟨τ0,_⟩:=zrD;refine w66 ?_;unfold ztY at hp;intro m0 Aa;obtain⟨Ba,Ca,Kc,Da⟩:=S0.blk Aa τ0 1;intro m1 Ea;obtain⟨Fa,Ga,Ha,Ia⟩:=Ca.blk Ea Ba 2;have Ja:=Da.k Ha;intro m2 Ka;obtain⟨Z,La,aa,Ma⟩:=Ga.blk Ka Fa 3;have Na:=Ja.k aa;have Oa:=Ia.k aa;obtain⟨Pa,Qa,Ra,ba,Sa⟩:=Oa.sto La [.bool false];have Ta:=Na.k ba;have Ua:=Ma.k ba;refine⟨Pa,Qa,?_⟩;obtain⟨Va,Wa,ca,da,Xa⟩:=Ua.sto Ra [.bool false];have ea:=Ta.k da;have Ya:=Sa.k da;refine⟨Va,Wa,?_⟩;refine⟨_,_,_,_,_,_,_,_,_,ea.bk.ra,?_⟩;obtain⟨Lc,Za,hp⟩:=zqd hp;refine zyG (f_:=f_) ca.pre  Za fun Yc Nc Pc ab cb=>?_;obtain⟨db,z⟩:=ca.callG ab Z;have fa:=ea.k z;have ga:=Ya.k z;have ha:=Xa.k z;refine⟨_,rfl,?_⟩;refine zqM (α:=Thr) db cb (σ:=Bool × Bool) 4 (fun st bb=>(False\/(False\/False))) (fun st gG gF gT gM=>(Lb gG gF gT gM 1 m.nxt 9 [Il f_.Crop,Il f_.Value,Il f_.Near,Il f_.First.Lo,Il f_.First.Hi,Il f_.Second.Lo,Il f_.Second.Hi,Il f_.Umpire.Lo,Il f_.Umpire.Hi])/\(Lb gG gF gT gM 2 m0.nxt 1 [.bool st.1])/\(Lb gG gF gT gM 3 m1.nxt 1 [.bool st.2])) (fun rr_ st=>ztX f_ rr_ st.1 st.2=some rz) (fun ex st=>False) (fun st=>(Gud.and (Gud.lb fa.bk.lt (by decide)) (Gud.and (Gud.lb ga.bk.lt (by decide)) (Gud.lb ha.bk.lt (by decide))))) (st0:=(false,false)) (τ:=Z) ⟨fa,ga,ha⟩ hp ?_ ?_ ?_ ?_
 ·intro h eb st A q ka B Qc Hc Ic Jc fb Rc hA la hp ma i;obtain⟨j,l⟩:=st;obtain⟨e,b,d⟩:=hA
  replace e:Lb B A q ka 1 m.nxt 9 [Il f_.Crop,Il f_.Value,Il f_.Near,Il f_.First.Lo,Il f_.First.Hi,Il f_.Second.Lo,Il f_.Second.Hi,Il f_.Umpire.Lo,Il f_.Umpire.Hi]:=e
  replace b:Lb B A q ka 2 m0.nxt 1 [.bool j]:=b
  replace d:Lb B A q ka 3 m1.nxt 1 [.bool l]:=d
  replace hp:ztX f_ (h::eb) j l=some rz:=hp
  rw[ztX] at hp;refine⟨_,_,_,rfl,?_⟩;intro Zc gb;obtain⟨hb,ib,r,jb⟩:=fb.blk gb q 5;have kb:=e.k r;have mb:=b.k r;have ob:=d.k r;have na:=la.k r;obtain⟨pb,qb,rb,s,sb⟩:=jb.sto ib [Il h.First,Il h.Second,Il h.Umpire];have tb:=kb.k s;have ub:=mb.k s;have vb:=ob.k s;have oa:=na.k s;refine⟨pb,qb,?_⟩;refine ma _ _ _ _ rb oa fun ad Tc ia u pa n=>?_;have ja:=tb.k u;have wb:=ub.k u;have xb:=vb.k u;have yb:=sb.k u;refine⟨_,_,_,_,_,_,_,_,_,ja.bk.ra,_,_,_,yb.bk.ra,?_⟩;obtain⟨a,zb,hp⟩:=zqd hp;refine zyC (f_:=f_) (t:=h) ia.pre  zb fun bd Ab=>?_;obtain⟨w,x⟩:=ia.call Ab hb;have y:=ja.k x;have o:=wb.k x;have g:=xb.k x;have p:=pa.k x;refine⟨_,rfl,_,o.bk.rc rfl,?_⟩;refine zqS hp (fun Bb hp=>?_) fun Bb hp=>?_
  ·refine⟨_,g.bk.rc rfl,?_⟩;refine zqS hp (fun Cb hp=>?_) fun Cb hp=>?_
   ·obtain⟨Db,Eb,Fb,D,Gb⟩:=o.sto w [.bool true];have Hb:=y.k D;have Ib:=g.k D;have qa:=p.k D;refine⟨Db,Eb,?_⟩;obtain⟨Jb,Kb,Mb,F,Nb⟩:=Ib.sto Fb [.bool true];have Ob:=Hb.k F;have Pb:=Gb.k F;have sa:=qa.k F;refine⟨Jb,Kb,?_⟩;exact i .nrm (true,true) _ _ _ _ Mb ⟨Ob,Pb,Nb⟩ sa n hp
   obtain⟨Qb,Rb,Sb,G,Tb⟩:=o.sto w [.bool true];have Ub:=y.k G;have Vb:=g.k G;have ta:=p.k G;refine⟨Qb,Rb,?_⟩;obtain⟨Wb,Xb,Yb,I,Zb⟩:=Vb.sto Sb [(.bool (!a))];have ac:=Ub.k I;have bc:=Tb.k I;have ua:=ta.k I;refine⟨Wb,Xb,?_⟩;exact i .nrm (true,(!a)) _ _ _ _ Yb ⟨ac,bc,Zb⟩ ua n hp
  refine⟨_,g.bk.rc rfl,?_⟩;refine zqS hp (fun cc hp=>?_) fun cc hp=>?_
  ·obtain⟨dc,ec,fc,J,gc⟩:=o.sto w [.bool a];have hc:=y.k J;have ic:=g.k J;have va:=p.k J;refine⟨dc,ec,?_⟩;obtain⟨jc,kc,lc,N,nc⟩:=ic.sto fc [.bool true];have oc:=hc.k N;have pc:=gc.k N;have wa:=va.k N;refine⟨jc,kc,?_⟩;exact i .nrm (a,true) _ _ _ _ lc ⟨oc,pc,nc⟩ wa n hp
  obtain⟨qc,sc,tc,O,uc⟩:=o.sto w [.bool a];have vc:=y.k O;have wc:=g.k O;have xa:=p.k O;refine⟨qc,sc,?_⟩;obtain⟨xc,yc,zc,P,Ac⟩:=wc.sto tc [(.bool (!a))];have Bc:=vc.k P;have Cc:=uc.k P;have ya:=xa.k P;refine⟨xc,yc,?_⟩;exact i .nrm (a,(!a)) _ _ _ _ zc ⟨Bc,Cc,Ac⟩ ya n hp
 ·intro st S T za Y Uc hA hp;obtain⟨j,l⟩:=st
  replace hp:ztX f_ [] j l=some rz:=hp
  obtain⟨e,b,d⟩:=hA
  replace e:Lb (Fm.of m) S T za 1 m.nxt 9 [Il f_.Crop,Il f_.Value,Il f_.Near,Il f_.First.Lo,Il f_.First.Hi,Il f_.Second.Lo,Il f_.Second.Hi,Il f_.Umpire.Lo,Il f_.Umpire.Hi]:=e
  replace b:Lb (Fm.of m) S T za 2 m0.nxt 1 [.bool j]:=b
  replace d:Lb (Fm.of m) S T za 3 m1.nxt 1 [.bool l]:=d
  rw[ztX] at hp;refine⟨_,d.bk.rc rfl,?_⟩;refine zqT hp (fun Dc hp=>?_) fun Dc hp=>?_
  ·obtain rfl:=oi hp;exact hq _ Y.ext'
  refine⟨_,b.bk.rc rfl,?_⟩;refine zqT hp (fun Ec hp=>?_) fun Ec hp=>?_
  ·obtain rfl:=oi hp;exact hq _ Y.ext'
  obtain rfl:=oi hp;exact hq _ Y.ext'
 ·intro id st _ _ _ _ _ _ hn; first | exact hn.elim | (cases hn)
 ·intro st _ _ _ _ _ _ hn; first | exact hn.elim | (cases hn)
theorem zyK{c:Cse}{f_:Fld}{count:Int}{ca100 ca103:C}{m f:M}{Q:V->M->Prop}{rz:Clm}(hS:Pre f m)(_ha100:Sl f ca100 c.Tariffs)(_ha103:Sl f ca103 c.Fields)(hp:ztZ c f_ count=some rz)(hq:∀m',Ext m m'->Q (.agg 6 [Il rz.Crop,Il rz.Value,Il rz.Day.Lo,Il rz.Day.Hi,Il rz.Count.Lo,Il rz.Count.Hi]) m'):Wc prog tbl 142 [.agg 4 [ca100,Il c.Day,Il c.Fee,ca103],.agg 9 [Il f_.Crop,Il f_.Value,Il f_.Near,Il f_.First.Lo,Il f_.First.Hi,Il f_.Second.Lo,Il f_.Second.Hi,Il f_.Umpire.Lo,Il f_.Umpire.Hi],.c (Il count)] m Q:=by
 have D:=hS.st;obtain⟨F,_⟩:=zrD;refine zv5 ?_;unfold ztZ at hp;intro G e;obtain⟨g,h,z,i⟩:=D.blk e F 1;intro I j;obtain⟨l,n,o,p⟩:=h.blk j g 2;have q:=i.k o;intro J r;obtain⟨A,s,a,t⟩:=n.blk r l 3;have b:=q.k a;have d:=p.k a;refine⟨trivial,_,d.bk.rc rfl,trivial,_,d.bk.rc rfl,trivial,_,b.bk.rc rfl,trivial,_,b.bk.rc rfl,?_⟩;obtain⟨u,w,x,B,y⟩:=t.sto s [Il f_.Crop,Il f_.Value,Il c.Day,Il c.Day,Il count,Il count];refine⟨u,w,?_⟩;refine⟨_,_,_,_,_,_,y.bk.ra,?_⟩;obtain rfl:=oi hp;exact hq _ x.ext'
theorem zyL{c:Cse}{f_:Fld}{ca100 ca103:C}{m f:M}{Q:V->M->Prop}{rz:Bool}(hS:Pre f m)(ha100:Sl f ca100 c.Tariffs)(ha103:Sl f ca103 c.Fields)(hp:zt0 c f_=some rz)(hq:∀m',Ext m m'->Q (.c (.bool rz)) m'):Wc prog tbl 123 [.agg 4 [ca100,Il c.Day,Il c.Fee,ca103],.agg 9 [Il f_.Crop,Il f_.Value,Il f_.Near,Il f_.First.Lo,Il f_.First.Hi,Il f_.Second.Lo,Il f_.Second.Hi,Il f_.Umpire.Lo,Il f_.Umpire.Hi]] m Q:=by
 have S0:=hS.st;obtain⟨τ0,_⟩:=zrD;refine zwC ?_;unfold zt0 at hp;intro m0 s;obtain⟨t,u,ja,w⟩:=S0.blk s τ0 1;intro m1 x;obtain⟨y,z,A,B⟩:=u.blk x t 2;have D:=w.k A;intro m2 F;obtain⟨e,g,h,r⟩:=z.growK F y 3;have a:=D.k h;have i:=B.k h;have G:=r 0 (by decide);refine⟨trivial,_,a.bk.rc rfl,_,_,_,_,a.bk.ra,_,_,_,_,_,_,_,_,_,i.bk.ra,?_⟩;obtain⟨I,J,hp⟩:=zqd hp;refine zyK (c:=c) (f_:=f_) (count:=(0:Int)) g.pre ha100 ha103 J fun oa N=>?_;obtain⟨j,b⟩:=g.call N e;have n:=a.k b;have O:=i.k b;have P:=G.k b;refine⟨_,_,_,_,_,_,rfl,(by rw[show cmC _=true from zoM (ha100.noFn)]; exact(n.bk.rc rfl)),?_⟩;obtain⟨o,S,hp⟩:=zqd hp;refine zyn (l:=c.Tariffs) (c:=I) j.pre ha100 S fun pa T=>?_;obtain⟨Y,d⟩:=j.call T e;have Z:=n.k d;have aa:=O.k d;have ba:=P.k d;refine⟨_,_,_,rfl,?_⟩;intro qa ca;obtain⟨da,p,ea⟩:=ba.set Y ca;have q:=Z.k p;have fa:=aa.k p;refine⟨(fa.bk.ra),(by rw[show zaL cmC _=true from zoN (zqh ha100.noFn (zqh rfl (zqh rfl (zqh ha103.noFn zqi))))]; exact(q.bk.ra)),(by rw[show cmC _=true from zoM (ha100.noFn)]; exact(q.bk.rc rfl)),?_⟩;obtain⟨ga,ha,ia,ka,la⟩:=ea.sto da [Il o.1.Lo,Il o.1.Hi];refine⟨ga,ha,?_⟩;obtain rfl:=oi hp;exact hq _ ia.ext'
theorem zyM{c:Cse}{f_:Fld}{ca100 ca103:C}{m f:M}{Q:V->M->Prop}{rz:Bool}(hS:Pre f m)(ha100:Sl f ca100 c.Tariffs)(ha103:Sl f ca103 c.Fields)(hp:zt1 c f_=some rz)(hq:∀m',Ext m m'->Q (.c (.bool rz)) m'):Wc prog tbl 95 [.agg 4 [ca100,Il c.Day,Il c.Fee,ca103],.agg 9 [Il f_.Crop,Il f_.Value,Il f_.Near,Il f_.First.Lo,Il f_.First.Hi,Il f_.Second.Lo,Il f_.Second.Hi,Il f_.Umpire.Lo,Il f_.Umpire.Hi]] m Q:=by
 have S0:=hS.st;obtain⟨τ0,_⟩:=zrD;refine w95 ?_;unfold zt1 at hp;intro m0 w;obtain⟨x,y,ia,z⟩:=S0.blk w τ0 1;intro m1 A;obtain⟨B,D,F,a⟩:=y.blk A x 2;have G:=z.k F;refine⟨trivial,_,_,a.bk.rp (k:=3) (j:=2) rfl (by omega),trivial,_,_,a.bk.rp (k:=5) (j:=2) rfl (by omega),trivial,_,_,a.bk.rp (k:=7) (j:=2) rfl (by omega),?_⟩;intro m8 I;obtain⟨d,h,i,J⟩:=D.blk I B 3;have N:=G.k i;have o:=a.k i;refine⟨_,_,_,_,N.bk.ra,_,_,_,_,_,_,_,_,_,o.bk.ra,?_⟩;obtain⟨ja,O,hp⟩:=zqd hp;refine zyL (c:=c) (f_:=f_) h.pre ha100 ha103 O fun sa P=>?_;obtain⟨e,p⟩:=h.call P d;have S:=o.k p;have T:=J.k p;refine⟨_,rfl,?_⟩;refine zqS hp (fun Y hp=>?_) fun Y hp=>?_; rotate_left
 ·obtain rfl:=oi hp;exact hq _ e.ext'
 refine⟨trivial,_,S.bk.rc rfl,?_⟩;obtain⟨ka,Z,hp⟩:=zqd hp;refine zyq (n:=f_.Near) e.pre  Z fun ta aa=>?_;obtain⟨q,ba⟩:=e.call aa d;have ca:=T.k ba;refine⟨_,rfl,?_⟩;refine zqS hp (fun da hp=>?_) fun da hp=>?_; rotate_left
 ·obtain rfl:=oi hp;exact hq _ q.ext'
 obtain⟨g,s,la,t⟩:=ca.freeze q;have ea:Sl g (C.sl m1.nxt 0 3 0 (Option.some 3)) ([f_.First,f_.Second,f_.Umpire]:List Rg):=Bk.sl (α:=Rg) (l:=([f_.First,f_.Second,f_.Umpire]:List Rg)) t (show Cat (α:=Rg) g [Il f_.First.Lo,Il f_.First.Hi,Il f_.Second.Lo,Il f_.Second.Hi,Il f_.Umpire.Lo,Il f_.Umpire.Hi] ([f_.First,f_.Second,f_.Umpire]:List Rg) from ⟨[Il f_.First.Lo,Il f_.First.Hi],_,rfl,rfl,⟨[Il f_.Second.Lo,Il f_.Second.Hi],_,rfl,rfl,⟨[Il f_.Umpire.Lo,Il f_.Umpire.Hi],_,rfl,rfl,rfl⟩⟩⟩) rfl rfl _
 have u:zwX g ((C.fn (Fn.func 126) [] [])) (fun b=>zty b):=by
  intro f' m' b r Q hs hpre  hg hq;exact zyr hpre  hg hq
 obtain⟨ma,fa,hp⟩:=zqd hp;refine zyv (l:=([f_.First,f_.Second,f_.Umpire]:List Rg)) (passes:=(fun b=>zty b)) s.pre ea u fa fun ua ga=>?_;obtain⟨ha,na⟩:=s.call ga d;refine⟨_,rfl,?_⟩;obtain rfl:=oi hp;exact hq _ ha.ext'
theorem zyN{c:Cse}{ca100 ca103:C}{m f:M}{Q:V->M->Prop}{rz:Bool}(hS:Pre f m)(ha100:Sl f ca100 c.Tariffs)(ha103:Sl f ca103 c.Fields)(hp:zt2 c=some rz)(hq:∀m',Ext m m'->Q (.c (.bool rz)) m'):Wc prog tbl 59 [.agg 4 [ca100,Il c.Day,Il c.Fee,ca103]] m Q:=by
 have T:=hS.st;obtain⟨Y,_⟩:=zrD;refine w59 ?_;unfold zt2 at hp;intro m0 p;obtain⟨b,g,J,h⟩:=T.blk p Y 1;refine⟨trivial,_,h.bk.rc rfl,?_⟩;obtain⟨N,q,hp⟩:=zqd hp;refine zyp (r:=({ Lo:=(0:Int),Hi:=(120:Int) }:Rg)) (n:=c.Day) g.pre  q fun m3 s=>?_;obtain⟨d,t⟩:=g.call s b;have i:=h.k t;refine⟨_,rfl,?_⟩;refine zqS hp (fun u hp=>?_) fun u hp=>?_; rotate_left
 ·obtain rfl:=oi hp;exact hq _ d.ext'
 refine⟨trivial,_,i.bk.rc rfl,?_⟩;obtain⟨O,w,hp⟩:=zqd hp;refine zyp (r:=({ Lo:=(0:Int),Hi:=(10000:Int) }:Rg)) (n:=c.Fee) d.pre  w fun m7 x=>?_;obtain⟨e,y⟩:=d.call x b;have j:=i.k y;refine⟨_,rfl,?_⟩;refine zqS hp (fun z hp=>?_) fun z hp=>?_; rotate_left
 ·obtain rfl:=oi hp;exact hq _ e.ext'
 refine⟨trivial,_,j.bk.rc rfl,_,_,_,_,j.bk.ra,?_⟩;obtain⟨F,G,I⟩:∃ws,zaE vW [.agg 4 [ca100,Il c.Day,Il c.Fee,ca103]]=some ws/\zbZ wV ws=[.agg 4 [ca100,Il c.Day,Il c.Fee,ca103]]:=(zqo (zqm (zqh ha100.noFn (zqh rfl (zqh rfl (zqh ha103.noFn zqi))))) zqn);rw[G,zd3]
 have o:zwY f ((C.fn (Fn.func 95) F [])) (fun a=>zt1 c a):=by
  intro f' m' a r Q hs hpre  hg hq
  show Wc prog tbl 95 (appS (zbZ wV F) _) m' Q
  rw[I];exact zyM hpre (ha100.sub hs) (ha103.sub hs) hg hq
 obtain⟨P,A,hp⟩:=zqd hp;refine zyz (l:=c.Fields) (passes:=(fun a=>zt1 c a)) e.pre ha103 o A fun Z B=>?_;obtain⟨D,S⟩:=e.call B b;refine⟨_,rfl,?_⟩;obtain rfl:=oi hp;exact hq _ D.ext'
theorem zyO{c:Cse}{n:Int}{ca100 ca103:C}{m f:M}{Q:V->M->Prop}{rz:Bool}(hS:Pre f m)(_ha100:Sl f ca100 c.Tariffs)(ha103:Sl f ca103 c.Fields)(hp:zt3 c n=some rz)(hq:∀m',Ext m m'->Q (.c (.bool rz)) m'):Wc prog tbl 97 [.agg 4 [ca100,Il c.Day,Il c.Fee,ca103],.c (Il n)] m Q:=by
 have q:=hS.st;obtain⟨s,_⟩:=zrD;refine w97 ?_;unfold zt3 at hp;intro t d;obtain⟨e,a,l,g⟩:=q.blk d s 1;refine⟨trivial,_,g.bk.rc rfl,ha103.isSl,?_⟩;obtain⟨b,hp⟩:=zqe hp;refine⟨(by first|exact b|(rw[ha103.slLen];exact b)),?_⟩
 try rw[ha103.slLen]
 obtain⟨o,h,hp⟩:=zqd hp;refine zyp (r:=({ Lo:=(0:Int),Hi:=((c.Fields.length:Int) - (1:Int)) }:Rg)) (n:=n) a.pre  h fun u i=>?_;obtain⟨j,p⟩:=a.call i e;refine⟨_,rfl,?_⟩;obtain rfl:=oi hp;exact hq _ j.ext'
theorem zyP{c:Cse}{t:List Thr}{ca100 ca103 ca200:C}{m f:M}{Q:V->M->Prop}{rz:Bool}(hS:Pre f m)(_ha100:Sl f ca100 c.Tariffs)(ha103:Sl f ca103 c.Fields)(ha200:Sl f ca200 t)(hp:zt5 c t=some rz)(hq:∀m',Ext m m'->Q (.c (.bool rz)) m'):Wc prog tbl 55 [.agg 4 [ca100,Il c.Day,Il c.Fee,ca103],.c ca200] m Q:=by
 have S0:=hS.st;obtain⟨τ0,_⟩:=zrD;refine w55 ?_;unfold zt5 at hp;intro m0 w;obtain⟨x,o,ka,b⟩:=S0.blk w τ0 1;refine⟨ha200.isSl,trivial,_,b.bk.rc rfl,ha103.isSl,?_⟩
 try rw[ha200.slLen]
 try rw[ha103.slLen]
 refine zqR hp (fun y hp=>?_) fun y hp=>?_
 ·obtain rfl:=oi hp;exact hq _ o.ext'
 refine⟨trivial,_,b.bk.rc rfl,ha103.isSl,?_⟩;intro R3 ia
 have hgo:∀(d:Nat) (b4:Bool) (z:Int) (r:M) (e:Nat->Nat),St (Fm.of m) f f r->Lb (Fm.of m) f e r 1 m.nxt 4 [ca100,Il c.Day,Il c.Fee,ca103]->zt4 c t d z=some rz->R3 [.c (.bool b4),.c (Il z)] r:=by
  intro d
  induction d with
  | zero=>intro b4 z r e g b hp; cases hp
  | succ d ha=>
   intro b4 z r e g b hp;refine ia _ _ _ ?_;rw[zt4] at hp
   try rw[ha103.slLen]
   refine ifd hp (fun A hp=>?_) fun A hp=>?_; rotate_left
   ·obtain rfl:=oi hp;exact hq _ g.ext'
   obtain⟨a,h,hp⟩:=zqd hp;obtain⟨n7,s,l,h⟩:=zp7 h;obtain⟨_,B⟩:=zrK ha103 h;refine⟨n7,s,(by first|exact l|(rw[ha103.slLen];exact l)),_,_,_,_,_,_,_,_,_,(B _ g.sub).1,?_⟩;intro qa D;obtain⟨p,F,G,I⟩:=g.blk D e 2;have J:=b.k G;obtain⟨N,O,i,P,S⟩:=I.sto F [Il a.Crop,Il a.Value,Il a.Near,Il a.First.Lo,Il a.First.Hi,Il a.Second.Lo,Il a.Second.Hi,Il a.Umpire.Lo,Il a.Umpire.Hi];have T:=J.k P;refine⟨N,O,?_⟩;refine⟨_,_,_,_,_,_,_,_,_,S.bk.ra,?_⟩;obtain⟨Y,j,hp⟩:=zqd hp;obtain⟨ja,u,n,j⟩:=zp7 j;obtain⟨_,Z⟩:=zrM ha200 j;refine⟨ja,u,(by first|exact n|(rw[ha200.slLen];exact n)),_,_,_,(Z _ i.sub).1,?_⟩;obtain⟨la,aa,hp⟩:=zqd hp;refine zyA (f_:=a) (t:=Y) i.pre  aa fun sa ba=>?_;obtain⟨q,ca⟩:=i.call ba p;have da:=T.k ca;refine⟨_,rfl,?_⟩;refine zqT hp (fun ea hp=>?_) fun ea hp=>?_
   ·obtain rfl:=oi hp;exact hq _ q.ext'
   refine gdi hp fun fa hp=>?_;exact ha _ _ _ p q da hp
 exact hgo _ _ _ _ x o b hp
theorem zyQ{c:Cse}{ca100 ca103:C}{m f:M}{Q:V->M->Prop}{rz:Int}(hS:Pre f m)(ha100:Sl f ca100 c.Tariffs)(ha103:Sl f ca103 c.Fields)(hp:zt6 c=some rz)(hq:∀m',Ext m m'->Q (.c (Il rz)) m'):Wc prog tbl 23 [.agg 4 [ca100,Il c.Day,Il c.Fee,ca103]] m Q:=by
 have z:=hS.st;obtain⟨A,_⟩:=zrD;refine w23 ?_;unfold zt6 at hp;intro D i;obtain⟨b,d,u,e⟩:=z.blk i A 1;refine⟨trivial,_,e.bk.rc rfl,?_⟩;obtain⟨w,j,hp⟩:=zqd hp;refine zyd (l:=c.Tariffs) d.pre ha100 j fun F n=>?_;obtain⟨a,o⟩:=d.call n b;have g:=e.k o;refine⟨_,rfl,?_⟩;refine zqR hp (fun p hp=>?_) fun p hp=>?_
 ·obtain rfl:=oi hp;exact hq _ a.ext'
 refine⟨trivial,_,g.bk.rc rfl,ha103.isSl,?_⟩
 try rw[ha103.slLen]
 refine ifd hp (fun q hp=>?_) fun q hp=>?_
 ·obtain rfl:=oi hp;exact hq _ a.ext'
 refine⟨_,_,_,_,g.bk.ra,?_⟩;obtain⟨x,r,hp⟩:=zqd hp;refine zyN (c:=c) a.pre ha100 ha103 r fun B s=>?_;obtain⟨h,y⟩:=a.call s b;refine⟨_,rfl,?_⟩;refine zqT hp (fun t hp=>?_) fun t hp=>?_
 ·obtain rfl:=oi hp;exact hq _ h.ext'
 obtain rfl:=oi hp;exact hq _ h.ext'
theorem zyR{c:Cse}{ca100 ca103:C}{m f:M}{Q:V->M->Prop}{rz:UWk × Int}(hS:Pre f m)(ha100:Sl f ca100 c.Tariffs)(ha103:Sl f ca103 c.Fields)(hp:zt7 c=some rz)(hq:∀m' f' c0 c3 c4,Grw m f m' f'->Sl f' c0 rz.1.c.Tariffs->Sl f' c3 rz.1.c.Fields->Mn m f' m' c4 rz.1.payments->Q (.tup [.agg 5 [c0,Il rz.1.c.Day,Il rz.1.c.Fee,c3,c4],.c (Il rz.2)]) m'):Wc prog tbl 54 [.agg 4 [ca100,Il c.Day,Il c.Fee,ca103]] m Q:=by
 have S0:=hS.st;obtain⟨τ0,_⟩:=zrD;refine w54 ?_;unfold zt7 at hp;intro m0 i;obtain⟨j,l,Y,n⟩:=S0.blk i τ0 1;intro m1 o;obtain⟨a,b,p,q⟩:=l.blk o j 2;have d:=n.k p;refine⟨_,_,_,_,d.bk.ra,?_⟩;obtain⟨Z,r,hp⟩:=zqd hp;refine zyQ (c:=c) b.pre ha100 ha103 r fun T s=>?_;obtain⟨e,g⟩:=b.call s a;have t:=d.k g;have h:=q.k g;refine⟨_,rfl,?_⟩;refine zqR hp (fun u hp=>?_) fun u hp=>?_
 ·obtain⟨w,x,y,aa,z⟩:=h.sto e [.sl0,Il 0,Il 0,.sl0,C.map0];refine⟨w,x,?_⟩;refine⟨_,_,_,_,_,z.bk.ra,?_⟩;obtain rfl:=oi hp;exact hq _ f .sl0 .sl0 .map0 y.grw (Sl.nil _) (Sl.nil _) (Mo.nil _ _ a _ 0).mn
 refine⟨_,_,_,_,t.bk.ra,?_⟩;intro ea A;obtain⟨ba,B,D,F⟩:=Mo.new (K:=Clm) (V':=Int) e A a 3;have G:=h.k D;obtain⟨I,J,N,O,P⟩:=G.sto B [ca100,Il c.Day,Il c.Fee,ca103,(.map T.nxt)];have S:=F.k O;refine⟨I,J,?_⟩;refine⟨_,_,_,_,_,P.bk.ra,?_⟩;obtain rfl:=oi hp;exact hq _ f ca100 ca103 (.map T.nxt) N.grw ha100 ha103 S.mn
theorem zyS{c:Cse}{field:Int}{ca100 ca103:C}{m f:M}{Q:V->M->Prop}{rz:Fld × Int}(hS:Pre f m)(ha100:Sl f ca100 c.Tariffs)(ha103:Sl f ca103 c.Fields)(hp:zt8 c field=some rz)(hq:∀m',Ext m m'->Q (.tup [.agg 9 [Il rz.1.Crop,Il rz.1.Value,Il rz.1.Near,Il rz.1.First.Lo,Il rz.1.First.Hi,Il rz.1.Second.Lo,Il rz.1.Second.Hi,Il rz.1.Umpire.Lo,Il rz.1.Umpire.Hi],.c (Il rz.2)]) m'):Wc prog tbl 63 [.agg 4 [ca100,Il c.Day,Il c.Fee,ca103],.c (Il field)] m Q:=by
 have S0:=hS.st;obtain⟨τ0,_⟩:=zrD;refine w63 ?_;unfold zt8 at hp;intro m0 t;obtain⟨u,w,ia,x⟩:=S0.blk t τ0 1;intro m1 y;obtain⟨h,i,z,A⟩:=w.blk y u 2;have j:=x.k z;refine⟨_,_,_,_,j.bk.ra,?_⟩;obtain⟨ja,B,hp⟩:=zqd hp;refine zyQ (c:=c) i.pre ha100 ha103 B fun m7 D=>?_;obtain⟨b,l⟩:=i.call D h;have o:=j.k l;have p:=A.k l;refine⟨_,rfl,?_⟩;refine zqR hp (fun F hp=>?_) fun F hp=>?_
 ·obtain⟨G,I,J,ka,N⟩:=p.sto b [Il 0,Il 0,Il 0,Il 0,Il 0,Il 0,Il 0,Il 0,Il 0];refine⟨G,I,?_⟩;refine⟨_,_,_,_,_,_,_,_,_,N.bk.ra,?_⟩;obtain rfl:=oi hp;exact hq _ J.ext'
 refine⟨_,_,_,_,o.bk.ra,?_⟩;obtain⟨la,O,hp⟩:=zqd hp;refine zyO (c:=c) (n:=field) b.pre ha100 ha103 O fun qa P=>?_;obtain⟨d,q⟩:=b.call P h;have S:=o.k q;have r:=p.k q;refine⟨_,rfl,?_⟩;refine zqT hp (fun T hp=>?_) fun T hp=>?_
 ·obtain⟨Y,Z,aa,ma,ba⟩:=r.sto d [Il 0,Il 0,Il 0,Il 0,Il 0,Il 0,Il 0,Il 0,Il 0];refine⟨Y,Z,?_⟩;refine⟨_,_,_,_,_,_,_,_,_,ba.bk.ra,?_⟩;obtain rfl:=oi hp;exact hq _ aa.ext'
 refine⟨trivial,_,S.bk.rc rfl,?_⟩;obtain⟨a,e,hp⟩:=zqd hp;obtain⟨ha,s,g,e⟩:=zp7 e;obtain⟨_,ca⟩:=zrK ha103 e;refine⟨ha,s,(by first|exact g|(rw[ha103.slLen];exact g)),_,_,_,_,_,_,_,_,_,(ca _ d.sub).1,?_⟩;obtain⟨da,ea,fa,na,ga⟩:=r.sto d [Il a.Crop,Il a.Value,Il a.Near,Il a.First.Lo,Il a.First.Hi,Il a.Second.Lo,Il a.Second.Hi,Il a.Umpire.Lo,Il a.Umpire.Hi];refine⟨da,ea,?_⟩;refine⟨_,_,_,_,_,_,_,_,_,ga.bk.ra,?_⟩;obtain rfl:=oi hp;exact hq _ fa.ext'
theorem zyT{v:Ver}{o:Oc}{m f:M}{Q:V->M->Prop}{rz:Ver}(hS:Pre f m)(hp:zt9 v o=some rz)(hq:∀m',Ext m m'->Q (.agg 6 [Il rz.fee,Il rz.pence,Il rz.fields.f0,Il rz.fields.f1,Il rz.fields.f2,Il rz.fields.f3]) m'):Wc prog tbl 86 [.agg 6 [Il v.fee,Il v.pence,Il v.fields.f0,Il v.fields.f1,Il v.fields.f2,Il v.fields.f3],.agg 2 [Il o.pence,Il o.loser]] m Q:=by
 have S0:=hS.st;obtain⟨τ0,_⟩:=zrD;refine w86 ?_;unfold zt9 at hp;intro m0 r;obtain⟨s,t,ia,u⟩:=S0.blk r τ0 1;intro m1 w;obtain⟨x,y,z,A⟩:=t.blk w s 2;have B:=u.k z;intro m2 D;obtain⟨ja,F,h,G⟩:=y.blk D x 3;have i:=B.k h;have j:=A.k h;refine⟨trivial,_,i.bk.rc rfl,trivial,_,j.bk.rc rfl,?_⟩;obtain⟨I,hp⟩:=zqe hp;refine⟨I,trivial,?_⟩;obtain⟨J,N,O,n,b⟩:=i.sto1 F 1 (Il (v.pence+o.pence)) (by simp) rfl
 replace b:Lb _ _ _ _ _ _ _ [Il v.fee,(Il (v.pence+o.pence)),Il v.fields.f0,Il v.fields.f1,Il v.fields.f2,Il v.fields.f3]:=b
 have P:=j.k n;have S:=G.k n;refine⟨J,N,?_⟩;refine⟨trivial,_,P.bk.rc rfl,trivial,trivial,?_⟩;obtain⟨a,c,hp⟩:=zqd hp;obtain⟨n7,p,q,c⟩:=zp7 c;refine⟨n7,p,q,_,(b.bk.rc (zqN (l:=([v.fields.f0,v.fields.f1,v.fields.f2,v.fields.f3]:List Int)) (enc:=(C.int .i64)) 2 rfl c)),?_⟩;obtain⟨T,hp⟩:=zqe hp;refine⟨T,trivial,trivial,?_⟩;obtain⟨Y,hp⟩:=zqe hp;obtain⟨n9,e,g⟩:=zqO Y;refine⟨n9,e,g,?_⟩;obtain⟨Z,aa,ba,ca,d⟩:=b.sta O (pre:=[Il v.fee,(Il (v.pence+o.pence))]) (post:=[]) (l:=([v.fields.f0,v.fields.f1,v.fields.f2,v.fields.f3]:List Int)) (enc:=(C.int .i64)) rfl rfl e g ((a+1))
 replace d:Lb _ _ _ _ _ _ _ [Il v.fee,(Il (v.pence+o.pence)),(Il (sti o.loser 0 (a+1) v.fields.f0)),(Il (sti o.loser 1 (a+1) v.fields.f1)),(Il (sti o.loser 2 (a+1) v.fields.f2)),(Il (sti o.loser 3 (a+1) v.fields.f3))]:=d
 have da:=S.k ca;refine⟨Z,aa,?_⟩;refine⟨_,_,_,_,_,_,d.bk.ra,?_⟩;obtain⟨ea,fa,ga,ka,ha⟩:=da.sto ba [Il v.fee,(Il (v.pence+o.pence)),(Il (sti o.loser 0 (a+1) v.fields.f0)),(Il (sti o.loser 1 (a+1) v.fields.f1)),(Il (sti o.loser 2 (a+1) v.fields.f2)),(Il (sti o.loser 3 (a+1) v.fields.f3))];refine⟨ea,fa,?_⟩;refine⟨_,_,_,_,_,_,ha.bk.ra,?_⟩;obtain rfl:=oi hp;exact hq _ ga.ext'
theorem zyU{v:Ver}{m f:M}{Q:V->M->Prop}{rz:Bool}(hS:Pre f m)(hp:zua v=some rz)(hq:∀m',Ext m m'->Q (.c (.bool rz)) m'):Wc prog tbl 103 [.agg 6 [Il v.fee,Il v.pence,Il v.fields.f0,Il v.fields.f1,Il v.fields.f2,Il v.fields.f3]] m Q:=by
 have z:=hS.st;obtain⟨A,_⟩:=zrD;refine zvX ?_;unfold zua at hp;intro G p;obtain⟨t,q,u,a⟩:=z.blk p A 1;refine⟨trivial,trivial,?_⟩;obtain⟨w,b,hp⟩:=zqd hp;obtain⟨B,g,h,b⟩:=zp7 b;refine⟨B,g,h,_,(a.bk.rc (zqN (l:=([v.fields.f0,v.fields.f1,v.fields.f2,v.fields.f3]:List Int)) (enc:=(C.int .i64)) 2 rfl b)),trivial,trivial,?_⟩;obtain⟨x,d,hp⟩:=zqd hp;obtain⟨D,i,j,d⟩:=zp7 d;refine⟨D,i,j,_,(a.bk.rc (zqN (l:=([v.fields.f0,v.fields.f1,v.fields.f2,v.fields.f3]:List Int)) (enc:=(C.int .i64)) 2 rfl d)),?_⟩;obtain⟨r,hp⟩:=zqe hp;refine⟨r,trivial,trivial,?_⟩;obtain⟨y,e,hp⟩:=zqd hp;obtain⟨F,n,o,e⟩:=zp7 e;refine⟨F,n,o,_,(a.bk.rc (zqN (l:=([v.fields.f0,v.fields.f1,v.fields.f2,v.fields.f3]:List Int)) (enc:=(C.int .i64)) 2 rfl e)),?_⟩;refine gdi hp fun s hp=>?_;obtain rfl:=oi hp;exact hq _ q.ext'
theorem zyV{v:Ver}{m f:M}{Q:V->M->Prop}{rz:Int}(hS:Pre f m)(hp:zub v=some rz)(hq:∀m',Ext m m'->Q (.c (Il rz)) m'):Wc prog tbl 69 [.agg 6 [Il v.fee,Il v.pence,Il v.fields.f0,Il v.fields.f1,Il v.fields.f2,Il v.fields.f3]] m Q:=by
 have h:=hS.st;obtain⟨i,_⟩:=zrD;refine w69 ?_;unfold zub at hp;intro j a;obtain⟨e,b,g,d⟩:=h.blk a i 1;refine⟨trivial,_,d.bk.rc rfl,?_⟩;obtain rfl:=oi hp;exact hq _ b.ext'
theorem zyW{v:Ver}{m f:M}{Q:V->M->Prop}{rz:Int}(hS:Pre f m)(hp:zuc v=some rz)(hq:∀m',Ext m m'->Q (.c (Il rz)) m'):Wc prog tbl 70 [.agg 6 [Il v.fee,Il v.pence,Il v.fields.f0,Il v.fields.f1,Il v.fields.f2,Il v.fields.f3]] m Q:=by
 have J:=hS.st;obtain⟨N,_⟩:=zrD;refine w70 ?_;unfold zuc at hp;intro T p;obtain⟨q,h,D,a⟩:=J.blk p N 1;refine⟨trivial,trivial,?_⟩;obtain⟨F,d,hp⟩:=zqd hp;obtain⟨O,i,j,d⟩:=zp7 d;refine⟨O,i,j,_,(a.bk.rc (zqN (l:=([v.fields.f0,v.fields.f1,v.fields.f2,v.fields.f3]:List Int)) (enc:=(C.int .i64)) 2 rfl d)),trivial,trivial,?_⟩;obtain⟨G,e,hp⟩:=zqd hp;obtain⟨P,n,o,e⟩:=zp7 e;refine⟨P,n,o,_,(a.bk.rc (zqN (l:=([v.fields.f0,v.fields.f1,v.fields.f2,v.fields.f3]:List Int)) (enc:=(C.int .i64)) 2 rfl e)),_,_,_,_,_,_,a.bk.ra,?_⟩;obtain⟨I,r,hp⟩:=zqd hp;refine zyU (v:=v) h.pre  r fun S s=>?_;obtain⟨b,t⟩:=h.call s q;have g:=a.k t;refine⟨_,rfl,?_⟩;refine zqT hp (fun u hp=>?_) fun u hp=>?_
 ·obtain rfl:=oi hp;exact hq _ b.ext'
 refine ifd hp (fun w hp=>?_) fun w hp=>?_
 ·obtain rfl:=oi hp;exact hq _ b.ext'
 refine ifd hp (fun x hp=>?_) fun x hp=>?_
 ·refine⟨trivial,_,g.bk.rc rfl,?_⟩;obtain rfl:=oi hp;exact hq _ b.ext'
 refine⟨trivial,_,g.bk.rc rfl,trivial,_,g.bk.rc rfl,?_⟩;refine gdi hp fun y hp=>?_;refine gdi hp fun z hp=>?_;refine gdi hp fun A hp=>?_;refine gdi hp fun B hp=>?_;obtain rfl:=oi hp;exact hq _ b.ext'
theorem zyX{v:Ver}{m f:M}{Q:V->M->Prop}{rz:Int}(hS:Pre f m)(hp:zud v=some rz)(hq:∀m',Ext m m'->Q (.c (Il rz)) m'):Wc prog tbl 71 [.agg 6 [Il v.fee,Il v.pence,Il v.fields.f0,Il v.fields.f1,Il v.fields.f2,Il v.fields.f3]] m Q:=by
 have y:=hS.st;obtain⟨z,_⟩:=zrD;refine w71 ?_;unfold zud at hp;intro B h;obtain⟨d,e,u,g⟩:=y.blk h z 1;refine⟨_,_,_,_,_,_,g.bk.ra,?_⟩;obtain⟨w,i,hp⟩:=zqd hp;refine zyU (v:=v) e.pre  i fun D j=>?_;obtain⟨a,l⟩:=e.call j d;have b:=g.k l;refine⟨_,rfl,?_⟩;refine zqT hp (fun n hp=>?_) fun n hp=>?_
 ·obtain rfl:=oi hp;exact hq _ a.ext'
 refine⟨trivial,_,b.bk.rc rfl,_,_,_,_,_,_,b.bk.ra,?_⟩;obtain⟨x,o,hp⟩:=zqd hp;refine zyW (v:=v) a.pre  o fun A p=>?_;obtain⟨q,r⟩:=a.call p d;have s:=b.k r;refine⟨_,rfl,(s.bk.rc rfl),?_⟩;refine gdi hp fun t hp=>?_;obtain rfl:=oi hp;exact hq _ q.ext'
theorem zyY{v:Ver}{m f:M}{Q:V->M->Prop}{rz:Int}(hS:Pre f m)(hp:zue v=some rz)(hq:∀m',Ext m m'->Q (.c (Il rz)) m'):Wc prog tbl 72 [.agg 6 [Il v.fee,Il v.pence,Il v.fields.f0,Il v.fields.f1,Il v.fields.f2,Il v.fields.f3]] m Q:=by
 have w:=hS.st;obtain⟨x,_⟩:=zrD;refine w72 ?_;unfold zue at hp;intro z g;obtain⟨b,d,r,a⟩:=w.blk g x 1;refine⟨_,_,_,_,_,_,a.bk.ra,?_⟩;obtain⟨s,h,hp⟩:=zqd hp;refine zyV (v:=v) d.pre  h fun A i=>?_;obtain⟨e,j⟩:=d.call i b;have l:=a.k j;refine⟨_,rfl,_,_,_,_,_,_,l.bk.ra,(a.bk.ra),?_⟩;obtain⟨t,n,hp⟩:=zqd hp;refine zyW (v:=v) e.pre  n fun y o=>?_;obtain⟨p,u⟩:=e.call o b;refine⟨_,rfl,?_⟩;refine gdi hp fun q hp=>?_;obtain rfl:=oi hp;exact hq _ p.ext'
theorem zyZ{v:Ver}{m f:M}{Q:V->M->Prop}{rz:Int}(hS:Pre f m)(hp:zuf v=some rz)(hq:∀m',Ext m m'->Q (.c (Il rz)) m'):Wc prog tbl 73 [.agg 6 [Il v.fee,Il v.pence,Il v.fields.f0,Il v.fields.f1,Il v.fields.f2,Il v.fields.f3]] m Q:=by
 have w:=hS.st;obtain⟨x,_⟩:=zrD;refine w73 ?_;unfold zuf at hp;intro z g;obtain⟨b,d,r,a⟩:=w.blk g x 1;refine⟨_,_,_,_,_,_,a.bk.ra,?_⟩;obtain⟨s,h,hp⟩:=zqd hp;refine zyV (v:=v) d.pre  h fun A i=>?_;obtain⟨e,j⟩:=d.call i b;have l:=a.k j;refine⟨_,rfl,_,_,_,_,_,_,l.bk.ra,(a.bk.ra),?_⟩;obtain⟨t,n,hp⟩:=zqd hp;refine zyX (v:=v) e.pre  n fun y o=>?_;obtain⟨p,u⟩:=e.call o b;refine⟨_,rfl,?_⟩;refine gdi hp fun q hp=>?_;obtain rfl:=oi hp;exact hq _ p.ext'
theorem zy0{w:UWk}{f_:Fld}{count:Int}{ca100 ca103 ca104:C}{m f:M}{Q:V->M->Prop}{rz:Int × Option (Clm->Option (Int))}(hS:Pre f m)(ha100:Sl f ca100 w.c.Tariffs)(ha103:Sl f ca103 w.c.Fields)(ha104:Mc f m ca104 w.payments)(hp:zug w f_ count=some rz)(hq:∀m',zqB ca104 m m'->Mi m' ca104 rz.2->Q (.c (Il rz.1)) m'):Wc prog tbl 111 [.agg 5 [ca100,Il w.c.Day,Il w.c.Fee,ca103,ca104],.agg 9 [Il f_.Crop,Il f_.Value,Il f_.Near,Il f_.First.Lo,Il f_.First.Hi,Il f_.Second.Lo,Il f_.Second.Hi,Il f_.Umpire.Lo,Il f_.Umpire.Hi],.c (Il count)] m Q:=by
 have S0:=hS.stM ha104;obtain⟨τ0,M0⟩:∃τ,Mo (Fm.mp m ca104) f τ m 1 ca104 w.payments:=⟨_,ha104.mo 1⟩;refine zvH ?_;unfold zug at hp;intro m0 A;obtain⟨B,D,F,G⟩:=S0.blk A τ0 2;have I:=M0.k F;intro m1 J;obtain⟨o,p,q,N⟩:=D.blk J B 3;have r:=G.k q;have O:=I.k q;refine⟨trivial,_,_,_,_,r.bk.rp (k:=0) (j:=4) rfl (by omega),_,_,_,_,_,_,_,_,_,N.bk.ra,?_⟩;obtain⟨a,P,hp⟩:=zqd hp;refine zyK (c:=w.c) (f_:=f_) (count:=count) p.pre ha100 ha103 P fun Ca S=>?_;obtain⟨T,s⟩:=p.call S o;have Y:=r.k s;have Z:=O.k s;refine⟨_,_,_,_,_,_,rfl,?_⟩;intro Da aa;obtain⟨ba,ca,x,da⟩:=T.blk aa o 4;have ea:=Y.k x;have fa:=Z.k x;obtain⟨ga,ha,d,y,e⟩:=da.sto ca [Il a.Crop,Il a.Value,Il a.Day.Lo,Il a.Day.Hi,Il a.Count.Lo,Il a.Count.Hi];have b:=ea.k y;have g:=fa.k y;refine⟨ga,ha,?_⟩;refine⟨trivial,_,b.bk.rc rfl,_,_,_,_,_,_,e.bk.ra,?_⟩;obtain⟨ia,hp⟩:=zqe hp;refine⟨_,g.mi.lk zwZ (k:=a) ia rfl,?_⟩
 cases n:(zqz w.payments a) with
 | none=>
  rw[zqJ n] at hp;refine⟨fun _=>?_,fun u hu=>(by cases hu)⟩;refine⟨trivial,trivial,_,b.bk.rc rfl,_,_,_,_,_,_,e.bk.ra,trivial,trivial,_,b.bk.rc rfl,?_⟩;obtain⟨z,ja,hp⟩:=zqd hp;refine zyo (l:=w.c.Tariffs) (c:=a) (t:=({ Day:=w.c.Day,Count:=count }:Tr)) d.pre ha100 ja fun Ea ka=>?_;obtain⟨la,i⟩:=d.call ka ba;have ma:=b.k i;have na:=e.k i;have oa:=g.k i;refine⟨_,_,rfl,trivial,_,ma.bk.rc rfl,_,_,_,_,_,_,na.bk.ra,?_⟩;obtain⟨pa,hp⟩:=zqe hp;obtain⟨wa,qa,hp⟩:=zqd hp;obtain⟨sa,ta,ua,xa,va⟩:=Mo.up zwZ la oa (k:=a) pa (v:=z.1) qa (kv:=.agg 6 [Il a.Crop,Il a.Value,Il a.Day.Lo,Il a.Day.Hi,Il a.Count.Lo,Il a.Count.Hi]) (yv:=.c (Il z.1)) rfl rfl;refine⟨sa,ta,?_⟩;obtain rfl:=oi hp;exact hq _ ua.extB va.mi
 | some ya=>
  rw[zqK n] at hp;refine⟨fun h=>(by cases h),fun u hu=>?_⟩;obtain rfl:=oi hu;refine⟨_,rfl,?_⟩;obtain rfl:=oi hp;exact hq _ d.extB g.mi
theorem zy1{w:UWk}{f_:Fld}{t:Thr}{ca100 ca103 ca104:C}{m f:M}{Q:V->M->Prop}{rz:Oc × Option (Clm->Option (Int))}(hS:Pre f m)(ha100:Sl f ca100 w.c.Tariffs)(ha103:Sl f ca103 w.c.Fields)(ha104:Mc f m ca104 w.payments)(hp:zuh w f_ t=some rz)(hq:∀m',zqB ca104 m m'->Mi m' ca104 rz.2->Q (.agg 2 [Il rz.1.pence,Il rz.1.loser]) m'):Wc prog tbl 87 [.agg 5 [ca100,Il w.c.Day,Il w.c.Fee,ca103,ca104],.agg 9 [Il f_.Crop,Il f_.Value,Il f_.Near,Il f_.First.Lo,Il f_.First.Hi,Il f_.Second.Lo,Il f_.Second.Hi,Il f_.Umpire.Lo,Il f_.Umpire.Hi],.agg 3 [Il t.First,Il t.Second,Il t.Umpire]] m Q:=by
 have S0:=hS.stM ha104;obtain⟨τ0,M0⟩:∃τ,Mo (Fm.mp m ca104) f τ m 1 ca104 w.payments:=⟨_,ha104.mo 1⟩;refine w87 ?_;unfold zuh at hp;intro m0 y;obtain⟨z,A,B,D⟩:=S0.blk y τ0 2;have F:=M0.k B;intro m1 G;obtain⟨I,J,n,N⟩:=A.blk G z 3;have O:=D.k n;have P:=F.k n;intro m2 S;obtain⟨T,Y,e,Z⟩:=J.blk S I 4;have aa:=O.k e;have ba:=N.k e;have ca:=P.k e;intro m3 da;obtain⟨o,p,b,ea⟩:=Y.blk da T 5;have q:=aa.k b;have d:=ba.k b;have g:=Z.k b;have fa:=ca.k b;refine⟨_,_,_,_,_,q.bk.ra,_,_,_,_,_,_,_,_,_,d.bk.ra,_,_,_,_,_,_,_,_,_,d.bk.ra,_,_,_,g.bk.ra,?_⟩;obtain⟨ga,ha,hp⟩:=zqd hp;refine zyD (f_:=f_) (t:=t) p.pre  ha fun Ia ia=>?_;obtain⟨h,a⟩:=p.call ia o;have ja:=q.k a;have i:=d.k a;have r:=g.k a;have ka:=ea.k a;have j:=fa.k a;refine⟨_,rfl,(i.bk.ra),(by rw[show zaL cmC _=true from zoN (zqh ha100.noFn (zqh rfl (zqh rfl (zqh ha103.noFn (zqh j.mi.noFn zqi)))))]; exact(ja.bk.ra)),?_⟩;obtain⟨la,ma,hp⟩:=zqd hp;refine zy0 (w:=w) (f_:=f_) (count:=ga) h.pre ha100 ha103 (j.mc h) ma fun Ja na x=>?_;obtain⟨s,l,oa⟩:=h.callM j na x;have pa:=i.k l;have qa:=r.k l;have sa:=ka.k l;refine⟨_,rfl,_,_,_,_,_,_,_,_,_,pa.bk.ra,(i.bk.ra),(d.bk.ra),_,_,_,qa.bk.ra,(r.bk.ra),(g.bk.ra),?_⟩;obtain⟨ta,ua,hp⟩:=zqd hp;refine zyE (f_:=f_) (t:=t) s.pre  ua fun Ka va=>?_;obtain⟨wa,u⟩:=s.call va o;have xa:=sa.k u;have ya:=oa.k u;refine⟨_,rfl,?_⟩;obtain⟨za,Aa,Ba,Ca,Da⟩:=xa.sto wa [Il la.1,Il ta];have Ea:=ya.k Ca;refine⟨za,Aa,?_⟩;refine⟨_,_,Da.bk.ra,?_⟩;obtain rfl:=oi hp;exact hq _ Ba.extB Ea.mi
theorem zy2{w:UWk}{f_:Fld}{ca100 ca103 ca104:C}{m f:M}{Q:V->M->Prop}{rz:Option (Oc->Option (Bool)) × Option (Clm->Option (Int))}(hS:Pre f m)(ha100:Sl f ca100 w.c.Tariffs)(ha103:Sl f ca103 w.c.Fields)(ha104:Mc f m ca104 w.payments)(hp:zuj w f_=some rz)(hq:∀m' f' c0,zrp ca104 m f m' f'->Mn m f' m' c0 rz.1->Mi m' ca104 rz.2->Q (.c c0) m'):Wc prog tbl 131 [.agg 5 [ca100,Il w.c.Day,Il w.c.Fee,ca103,ca104],.agg 9 [Il f_.Crop,Il f_.Value,Il f_.Near,Il f_.First.Lo,Il f_.First.Hi,Il f_.Second.Lo,Il f_.Second.Hi,Il f_.Umpire.Lo,Il f_.Umpire.Hi]] m Q:=by
 have S0:=hS.stM ha104;obtain⟨τ0,M0⟩:∃τ,Mo (Fm.mp m ca104) f τ m 1 ca104 w.payments:=⟨_,ha104.mo 1⟩;refine zv3 ?_;unfold zuj at hp;intro m0 va;obtain⟨wa,xa,ya,za⟩:=S0.blk va τ0 2;have Aa:=M0.k ya;intro I Ba;obtain⟨Ca,Da,O,Ea⟩:=xa.blk Ba wa 3;have Fa:=za.k O;have Ga:=Aa.k O;intro m2 Ha;obtain⟨Ia,Ja,F,Ka⟩:=Mo.new (K:=Oc) (V':=Bool) Da Ha Ca 4;have La:=Fa.k F;have Ma:=Ea.k F;have Na:=Ga.k F;intro m3 Oa;obtain⟨P,Pa,A,Qa⟩:=Ja.blk Oa Ia 5;have Ra:=La.k A;have Sa:=Ma.k A;have Ta:=Na.k A;have Ua:=Ka.k A;obtain⟨Va,Wa,S,B,Xa⟩:=Qa.sto Pa [(.map I.nxt)];have Ya:=Ra.k B;have T:=Sa.k B;have Za:=Ta.k B;have ab:=Ua.k B;refine⟨Va,Wa,?_⟩;refine⟨_,_,_,_,_,_,_,_,_,T.bk.ra,?_⟩;obtain⟨bc,cb,hp⟩:=zqd hp;refine zyG (f_:=f_) S.pre  cb fun lc cc dc db eb=>?_;obtain⟨fb,b⟩:=S.callG db P;have Y:=Ya.k b;have Z:=T.k b;have aa:=Xa.k b;have ba:=Za.k b;have ca:=ab.k b;refine⟨_,rfl,?_⟩;refine zqM (α:=Thr) fb eb (σ:=(Option (Clm->Option (Int))) × (Option (Oc->Option (Bool)))) 6 (fun st bb=>(False\/(False\/(False\/(False\/False))))) (fun st gG gF gT gM=>(Lb gG gF gT gM 2 m.nxt 5 [ca100,Il w.c.Day,Il w.c.Fee,ca103,ca104])/\(Lb gG gF gT gM 3 m0.nxt 9 [Il f_.Crop,Il f_.Value,Il f_.Near,Il f_.First.Lo,Il f_.First.Hi,Il f_.Second.Lo,Il f_.Second.Hi,Il f_.Umpire.Lo,Il f_.Umpire.Hi])/\(Lb gG gF gT gM 5 m2.nxt 1 [(.map I.nxt)])/\(Mo gG gF gT gM 1 ca104 st.1)/\(Mo gG gF gT gM 4 (.map I.nxt) st.2)) (fun rr_ st=>zui w f_ rr_ st.1 st.2=some rz) (fun ex st=>False) (fun st=>(Gud.and (Gud.lb Y.bk.lt (by decide)) (Gud.and (Gud.lb Z.bk.lt (by decide)) (Gud.and (Gud.lb aa.bk.lt (by decide)) (Gud.and (Gud.mo ba.lt (by decide)) (Gud.mo ca.lt (by decide))))))) (st0:=(w.payments,(some fun _=>none:Option (Oc->Option (Bool))))) (τ:=P) ⟨Y,Z,aa,ba,ca⟩ hp ?_ ?_ ?_ ?_
 ·intro q gb st r g J s ec Yb Zb ac hb da hA ka hp la ma;obtain⟨h,u⟩:=st;obtain⟨i,j,d,a,e⟩:=hA
  replace i:Lb s r g J 2 m.nxt 5 [ca100,Il w.c.Day,Il w.c.Fee,ca103,ca104]:=i
  replace j:Lb s r g J 3 m0.nxt 9 [Il f_.Crop,Il f_.Value,Il f_.Near,Il f_.First.Lo,Il f_.First.Hi,Il f_.Second.Lo,Il f_.Second.Hi,Il f_.Umpire.Lo,Il f_.Umpire.Hi]:=j
  replace d:Lb s r g J 5 m2.nxt 1 [(.map I.nxt)]:=d
  replace a:Mo s r g J 1 ca104 h:=a
  replace e:Mo s r g J 4 (.map I.nxt) u:=e
  replace hp:zui w f_ (q::gb) h u=some rz:=hp
  rw[zui] at hp;refine⟨_,_,_,rfl,?_⟩;intro nc ib;obtain⟨fc,jb,l,kb⟩:=hb.blk ib g 7;have mb:=i.k l;have ob:=j.k l;have pb:=d.k l;have qb:=a.k l;have rb:=e.k l;have na:=ka.k l;obtain⟨sb,tb,ub,n,vb⟩:=kb.sto jb [Il q.First,Il q.Second,Il q.Umpire];have wb:=mb.k n;have xb:=ob.k n;have yb:=pb.k n;have zb:=qb.k n;have Ab:=rb.k n;have oa:=na.k n;refine⟨sb,tb,?_⟩;refine la _ _ _ _ ub oa fun oc gc G o pa qa=>?_;have ea:=wb.k o;have fa:=xb.k o;have ga:=yb.k o;have Bb:=vb.k o;have ha:=zb.k o;have Cb:=Ab.k o;refine⟨_,ga.bk.rc rfl,_,_,_,_,_,ea.bk.ra,_,_,_,_,_,_,_,_,_,fa.bk.ra,_,_,_,Bb.bk.ra,?_⟩;obtain⟨D,Db,hp⟩:=zqd hp;refine zy1 (w:=({ c:=w.c,payments:=h }:UWk)) (f_:=f_) (t:=q) G.pre (ha100.sub (Sub.trans b.fs da)) (ha103.sub (Sub.trans b.fs da)) (ha.mc G) Db fun pc Eb sa=>?_;obtain⟨Fb,x,Gb⟩:=G.callM ha Eb sa;have Hb:=ea.k x;have Ib:=fa.k x;have ia:=ga.k x;have ja:=Cb.k x;have ta:=pa.k x;refine⟨_,_,rfl,(by rw[show cmC _=true from zoM (ja.mi.noFn)]; exact(ia.bk.rc rfl)),?_⟩;obtain⟨Jb,hp⟩:=zqe hp;obtain⟨Kb,Mb,hp⟩:=zqd hp;obtain⟨Nb,Ob,Pb,y,Qb⟩:=Mo.up zw0 Fb ja (k:=D.1) Jb (v:=true) Mb (kv:=.agg 2 [Il D.1.pence,Il D.1.loser]) (yv:=.c (.bool true)) rfl rfl;have Rb:=Hb.k y;have Sb:=Ib.k y;have Tb:=ia.k y;have Ub:=Gb.k y;have ua:=ta.k y;refine⟨Nb,Ob,?_⟩;exact ma .nrm (D.2,Kb) _ _ _ _ Pb ⟨Rb,Sb,Tb,Ub,Qb⟩ ua qa hp
 ·intro st p z N Vb hc hA hp;obtain⟨h,u⟩:=st
  replace hp:zui w f_ [] h u=some rz:=hp
  obtain⟨i,j,d,a,e⟩:=hA
  replace i:Lb (Fm.mp m ca104) p z N 2 m.nxt 5 [ca100,Il w.c.Day,Il w.c.Fee,ca103,ca104]:=i
  replace j:Lb (Fm.mp m ca104) p z N 3 m0.nxt 9 [Il f_.Crop,Il f_.Value,Il f_.Near,Il f_.First.Lo,Il f_.First.Hi,Il f_.Second.Lo,Il f_.Second.Hi,Il f_.Umpire.Lo,Il f_.Umpire.Hi]:=j
  replace d:Lb (Fm.mp m ca104) p z N 5 m2.nxt 1 [(.map I.nxt)]:=d
  replace a:Mo (Fm.mp m ca104) p z N 1 ca104 h:=a
  replace e:Mo (Fm.mp m ca104) p z N 4 (.map I.nxt) u:=e
  rw[zui] at hp;refine⟨_,d.bk.rc rfl,?_⟩;obtain rfl:=oi hp;exact hq _ p (.map I.nxt) (Vb.grwM a) (e.mnp a (by decide)) a.mi
 ·intro id st _ _ _ _ _ _ hn; first | exact hn.elim | (cases hn)
 ·intro st _ _ _ _ _ _ hn; first | exact hn.elim | (cases hn)
theorem zy3{w:UWk}{t:List Thr}{ca100 ca103 ca104 ca200:C}{m f:M}{Q:V->M->Prop}{rz:Res × Option (Clm->Option (Int))}(hS:Pre f m)(ha100:Sl f ca100 w.c.Tariffs)(ha103:Sl f ca103 w.c.Fields)(ha104:Mc f m ca104 w.payments)(ha200:Sl f ca200 t)(hp:zul w t=some rz)(hq:∀m' f' c0,zrp ca104 m f m' f'->Sl f' c0 rz.1.Counts->Mi m' ca104 rz.2->Q (.agg 4 [c0,Il rz.1.Award,Il rz.1.Farmer,Il rz.1.Society]) m'):Wc prog tbl 56 [.agg 5 [ca100,Il w.c.Day,Il w.c.Fee,ca103,ca104],.c ca200] m Q:=by
 have S0:=hS.stM ha104;obtain⟨τ0,M0⟩:∃τ,Mo (Fm.mp m ca104) f τ m 1 ca104 w.payments:=⟨_,ha104.mo 1⟩;refine w56 ?_;unfold zul at hp;intro m0 Ya;obtain⟨Za,ab,bb,cb⟩:=S0.blk Ya τ0 2;have db:=M0.k bb;intro m1 eb;obtain⟨fb,gb,Ea,hb⟩:=ab.blk eb Za 3;have ib:=cb.k Ea;have jb:=db.k Ea;intro m2 kb;obtain⟨mb,ob,ka,pb⟩:=gb.blk kb fb 4;have Fa:=ib.k ka;have qb:=hb.k ka;have rb:=jb.k ka;refine⟨trivial,trivial,_,Fa.bk.rc rfl,?_⟩;intro m4 sb;obtain⟨tb,ub,ca,vb⟩:=ob.blk sb mb 5;have wb:=Fa.k ca;have xb:=qb.k ca;have yb:=pb.k ca;have zb:=rb.k ca;obtain⟨Ab,Bb,Cb,da,i⟩:=vb.sto ub [Il w.c.Fee,Il 0,Il 0,Il 0,Il 0,Il 0];have G:=wb.k da;have I:=xb.k da;have J:=yb.k da;have N:=zb.k da;refine⟨Ab,Bb,?_⟩;refine⟨trivial,trivial,_,G.bk.rc rfl,ha103.isSl,?_⟩;intro R7 Wd
 have hgo:∀(ea:Nat) (x8:Int) (g:C) (fa:List Int) (O:Int) (x:Int) (s:Int) (j:Int) (l:Int) (n:Int) (p:Int) (q:Int) (r:Int) (P:Option (Clm->Option (Int))) (m9:M) (d:Nat->Nat),St (Fm.mp m ca104) f f m9->Lb (Fm.mp m ca104) f d m9 2 m.nxt 5 [ca100,Il w.c.Day,Il w.c.Fee,ca103,ca104]->Lb (Fm.mp m ca104) f d m9 3 m0.nxt 4 [.sl0,Il 0,Il 0,Il 0]->Lb (Fm.mp m ca104) f d m9 4 m1.nxt 4 [g,Il O,Il x,Il s]->Lb (Fm.mp m ca104) f d m9 5 m2.nxt 6 [Il j,Il l,Il n,Il p,Il q,Il r]->Ow (Fm.mp m ca104) f d m9 6 g fa->Mo (Fm.mp m ca104) f d m9 1 ca104 P->zuk w t ea fa O x s j l n p q r P x8=some rz->R7 [.c (Il x8)] m9:=by
  intro ea
  induction ea with
  | zero=>intro x8 g fa O x s j l n p q r P m9 d S G I J i b N hp; cases hp
  | succ ea Sd=>
   intro x8 g fa O x s j l n p q r P m9 d S G I J i b N hp;refine Wd _ _ ?_;rw[zuk] at hp
   try rw[ha103.slLen]
   refine ifd hp (fun Eb hp=>?_) fun Eb hp=>?_; rotate_left
   ·refine⟨_,_,_,_,_,_,i.bk.ra,?_⟩;obtain⟨T,Fb,hp⟩:=zqd hp;refine zyV (v:=({ fee:=j,pence:=l,fields:=({ f0:=n,f1:=p,f2:=q,f3:=r }:Sd4) }:Ver)) S.pre  Fb fun ie Gb=>?_;obtain⟨Ga,Y⟩:=S.call Gb d;have Hb:=I.k Y;have Ib:=J.k Y;have la:=i.k Y;have Jb:=N.k Y;have b:=b.k Y;refine⟨_,rfl,_,_,_,_,_,_,la.bk.ra,(i.bk.ra),?_⟩;obtain⟨ga,Kb,hp⟩:=zqd hp;refine zyW (v:=({ fee:=j,pence:=l,fields:=({ f0:=n,f1:=p,f2:=q,f3:=r }:Sd4) }:Ver)) Ga.pre  Kb fun je Mb=>?_;obtain⟨Ha,Z⟩:=Ga.call Mb d;have Nb:=Hb.k Z;have Ob:=Ib.k Z;have Pb:=la.k Z;have Qb:=Jb.k Z;have b:=b.k Z;refine⟨_,rfl,_,_,_,_,_,_,Pb.bk.ra,(la.bk.ra),(i.bk.ra),?_⟩;obtain⟨ma,Rb,hp⟩:=zqd hp;refine zyX (v:=({ fee:=j,pence:=l,fields:=({ f0:=n,f1:=p,f2:=q,f3:=r }:Sd4) }:Ver)) Ha.pre  Rb fun he Sb=>?_;obtain⟨Tb,ha⟩:=Ha.call Sb d;have Ub:=Nb.k ha;have Vb:=Ob.k ha;have Wb:=Qb.k ha;have b:=b.k ha;refine⟨_,rfl,trivial,?_⟩;obtain⟨Xb,Yb,Zb,na,oa⟩:=Vb.sto1 Tb 1 (Il T) (by simp) rfl
    replace oa:Lb _ _ _ _ _ _ _ [g,Il T,Il x,Il s]:=oa
    have ac:=Ub.k na;have bc:=Wb.k na;have b:=b.k na;refine⟨Xb,Yb,?_⟩;refine⟨trivial,?_⟩;obtain⟨cc,dc,ec,pa,qa⟩:=oa.sto1 Zb 2 (Il ga) (by simp) rfl
    replace qa:Lb _ _ _ _ _ _ _ [g,Il T,Il ga,Il s]:=qa
    have fc:=ac.k pa;have gc:=bc.k pa;have b:=b.k pa;refine⟨cc,dc,?_⟩;refine⟨trivial,?_⟩;obtain⟨hc,ic,jc,sa,ta⟩:=qa.sto1 ec 3 (Il ma) (by simp) rfl
    replace ta:Lb _ _ _ _ _ _ _ [g,Il T,Il ga,Il ma]:=ta
    have kc:=fc.k sa;have lc:=gc.k sa;have b:=b.k sa;refine⟨hc,ic,?_⟩;refine⟨_,_,_,_,ta.bk.ra,?_⟩;obtain⟨nc,oc,pc,Ia,qc⟩:=kc.sto jc [g,Il T,Il ga,Il ma];have sc:=lc.k Ia;have b:=b.k Ia;refine⟨nc,oc,?_⟩;refine⟨_,_,_,_,qc.bk.ra,?_⟩;obtain⟨tc,uc,vc,wc⟩:=b.freeze pc;have Ja:=sc.k vc;obtain rfl:=oi hp;exact hq _ tc g (uc.grwM Ja) wc Ja.mi
   obtain⟨e,ua,hp⟩:=zqd hp;obtain⟨Xd,Ua,Ba,ua⟩:=zp7 ua;obtain⟨_,xc⟩:=zrK ha103 ua;refine⟨Xd,Ua,(by first|exact Ba|(rw[ha103.slLen];exact Ba)),_,_,_,_,_,_,_,_,_,(xc _ S.sub).1,?_⟩;intro ke yc;obtain⟨zc,Ac,y,Bc⟩:=S.blk yc d 7;have Cc:=G.k y;have Dc:=I.k y;have Ec:=J.k y;have Fc:=i.k y;have Gc:=N.k y;have b:=b.k y;obtain⟨Hc,Ic,va,z,Ka⟩:=Bc.sto Ac [Il e.Crop,Il e.Value,Il e.Near,Il e.First.Lo,Il e.First.Hi,Il e.Second.Lo,Il e.Second.Hi,Il e.Umpire.Lo,Il e.Umpire.Hi];have Jc:=Cc.k z;have Kc:=Dc.k z;have La:=Ec.k z;have Lc:=Fc.k z;have Nc:=Gc.k z;have b:=b.k z;refine⟨Hc,Ic,?_⟩;refine⟨trivial,_,La.bk.rc rfl,_,_,_,_,_,_,_,_,_,Ka.bk.ra,?_⟩;obtain⟨Pc,wa,hp⟩:=zqd hp;obtain⟨Yd,Va,Ca,wa⟩:=zp7 wa;obtain⟨_,Qc⟩:=zrM ha200 wa;refine⟨Yd,Va,(by first|exact Ca|(rw[ha200.slLen];exact Ca)),_,_,_,(Qc _ va.sub).1,?_⟩;obtain⟨Ma,Rc,hp⟩:=zqd hp;refine zyD (f_:=e) (t:=Pc) va.pre  Rc fun me Tc=>?_;obtain⟨Uc,u⟩:=va.call Tc zc;have Vc:=Jc.k u;have Xc:=Kc.k u;have xa:=La.k u;have Yc:=Lc.k u;have Zc:=Ka.k u;have ad:=Nc.k u;have b:=b.k u;refine⟨_,rfl,(by rw[show cmC _=true from zoM (b.noFn)]; exact(xa.bk.rc rfl)),?_⟩;obtain⟨bd,hp⟩:=zqe hp;intro oe Na;refine⟨(by rw[show cmC _=true from zoM (b.noFn)]; exact(xa.bk.ext (Bk.new Na).2).rc rfl),?_⟩;obtain⟨ya,cd,Oa,dd,ed,A,h⟩:=b.app' zw4 Uc (a:=Ma) (show Rp.rep (α:=Int) f _ Ma from rfl) bd Na;have fd:=Vc.k A;have hd:=Xc.k A;have id:=xa.k A;have jd:=Yc.k A;have kd:=Zc.k A;have ld:=ad.k A;refine⟨ya,cd,dd,?_⟩;refine⟨trivial,?_⟩
   obtain⟨md,nd,ia,B,za⟩:=id.sto1 ed 0 ya (by simp) rfl
   replace za:Lb _ _ _ _ _ _ _ [ya,Il O,Il x,Il s]:=za
   have Pa:=fd.k B;have od:=hd.k B;have Qa:=jd.k B;have pd:=kd.k B;have Ra:=ld.k B;have h:=h.k B;refine⟨md,nd,?_⟩;refine⟨_,_,_,_,_,_,Qa.bk.ra,_,_,_,_,_,Pa.bk.ra,_,_,_,_,_,_,_,_,_,pd.bk.ra,?_⟩;obtain⟨qd,Aa,hp⟩:=zqd hp;obtain⟨Zd,Wa,Da,Aa⟩:=zp7 Aa;obtain⟨_,sd⟩:=zrM ha200 Aa;refine⟨Zd,Wa,(by first|exact Da|(rw[ha200.slLen];exact Da)),_,_,_,(sd _ ia.sub).1,?_⟩;obtain⟨td,ud,hp⟩:=zqd hp;refine zy1 (w:=({ c:=w.c,payments:=P }:UWk)) (f_:=e) (t:=qd) ia.pre ha100 ha103 (Ra.mc ia) ud fun pe vd Xa=>?_;obtain⟨Sa,aa,wd⟩:=ia.callM Ra vd Xa;have xd:=Pa.k aa;have yd:=od.k aa;have zd:=za.k aa;have Ta:=Qa.k aa;have h:=h.k aa;refine⟨_,_,rfl,(Ta.bk.ra),?_⟩;obtain⟨D,Ad,hp⟩:=zqd hp;refine zyT (v:=({ fee:=j,pence:=l,fields:=({ f0:=n,f1:=p,f2:=q,f3:=r }:Sd4) }:Ver)) (o:=td.1) Sa.pre  Ad fun qe Bd=>?_;obtain⟨Cd,F⟩:=Sa.call Bd Oa;have Dd:=xd.k F;have Ed:=yd.k F;have Fd:=zd.k F;have Gd:=Ta.k F;have Hd:=wd.k F;have h:=h.k F;refine⟨_,_,_,_,_,_,rfl,?_⟩;obtain⟨Id,Jd,Ld,ba,Md⟩:=Gd.sto Cd [Il D.fee,Il D.pence,Il D.fields.f0,Il D.fields.f1,Il D.fields.f2,Il D.fields.f3];have Nd:=Dd.k ba;have Od:=Ed.k ba;have Pd:=Fd.k ba;have Qd:=Hd.k ba;have h:=h.k ba;refine⟨Id,Jd,?_⟩;refine gdi hp fun Rd hp=>?_;exact Sd _ _ _ _ _ _ _ _ _ _ _ _ _ _ Oa Ld Nd Od Pd Md h Qd hp
 exact hgo _ _ _ _ _ _ _ _ _ _ _ _ _ _ _ tb Cb G I J i (Ow.nil _ _ _ _ _) N hp
theorem zy4{w:UWk}{f_:Fld}{could:List Bool}{pence:Int}{ca100 ca103 ca104:C}{m f:M}{Q:V->M->Prop}{rz:List Bool × Option (Clm->Option (Int))}(hS:Pre f m)(ha100:Sl f ca100 w.c.Tariffs)(ha103:Sl f ca103 w.c.Fields)(ha104:Mc f m ca104 w.payments)(hp:zun w f_ could pence=some rz)(hq:∀m',zqB ca104 m m'->Mi m' ca104 rz.2->Q (.agg 101 (rz.1.map C.bool)) m'):Wc prog tbl 133 [.agg 5 [ca100,Il w.c.Day,Il w.c.Fee,ca103,ca104],.agg 9 [Il f_.Crop,Il f_.Value,Il f_.Near,Il f_.First.Lo,Il f_.First.Hi,Il f_.Second.Lo,Il f_.Second.Hi,Il f_.Umpire.Lo,Il f_.Umpire.Hi],.agg 101 (could.map C.bool),.c (Il pence)] m Q:=by
 have S0:=hS.stM ha104;obtain⟨τ0,M0⟩:∃τ,Mo (Fm.mp m ca104) f τ m 1 ca104 w.payments:=⟨_,ha104.mo 1⟩;refine zwQ ?_;unfold zun at hp;intro m0 aa;obtain⟨ba,ca,da,ea⟩:=S0.blk aa τ0 2;have fa:=M0.k da;intro m1 ga;obtain⟨ha,ia,D,ja⟩:=ca.blk ga ba 3;have ka:=ea.k D;have la:=fa.k D;intro m2 ma;obtain⟨na,oa,y,pa⟩:=ia.blk ma ha 4;have qa:=ka.k y;have sa:=ja.k y;have ta:=la.k y;intro m3 ua;obtain⟨F,G,r,z⟩:=oa.blk ua na 5
 replace z:Lb _ _ _ _ _ _ _ ((List.replicate 101 false).map C.bool):=z
 have va:=qa.k r;have wa:=sa.k r;have I:=pa.k r;have xa:=ta.k r;refine⟨_,I.bk.ra,?_⟩;obtain⟨ya,za,hp⟩:=zqd hp;refine zyH (c:=could) G.pre  za fun m6 d gb Aa s=>?_;obtain⟨Ba,b⟩:=G.callG Aa F;have h:=va.k b;have j:=wa.k b;have l:=I.k b;have n:=z.k b;have e:=xa.k b;refine⟨_,rfl,s.isSl,?_⟩;intro R8 eb
 have hgo:∀(t:Nat) (x9:Int) (o:List Bool) (p:Option (Clm->Option (Int))) (q:M) (a:Nat->Nat),St (Fm.mp m ca104) f d q->Lb (Fm.mp m ca104) d a q 2 m.nxt 5 [ca100,Il w.c.Day,Il w.c.Fee,ca103,ca104]->Lb (Fm.mp m ca104) d a q 3 m0.nxt 9 [Il f_.Crop,Il f_.Value,Il f_.Near,Il f_.First.Lo,Il f_.First.Hi,Il f_.Second.Lo,Il f_.Second.Hi,Il f_.Umpire.Lo,Il f_.Umpire.Hi]->Lb (Fm.mp m ca104) d a q 4 m1.nxt 101 (o.map C.bool)->Lb (Fm.mp m ca104) d a q 5 m2.nxt 101 ((List.replicate 101 false).map C.bool)->Mo (Fm.mp m ca104) d a q 1 ca104 p->zum w f_ pence ya t o p x9=some rz->R8 [.c (Il x9)] q:=by
  intro t
  induction t with
  | zero=>intro x9 o p q a g h j l n e hp; cases hp
  | succ t db=>
   intro x9 o p q a g h j l n e hp;refine eb _ _ ?_;rw[zum] at hp
   try rw[s.slLen]
   refine ifd hp (fun Da hp=>?_) fun Da hp=>?_; rotate_left
   ·refine⟨_,l.bk.ra,?_⟩;obtain⟨Ea,Fa,Ga,Ha,Ia⟩:=n.sto g (o.map C.bool);have Ja:=e.k Ha;refine⟨Ea,Fa,?_⟩;refine⟨_,Ia.bk.ra,?_⟩;obtain rfl:=oi hp;exact hq _ Ga.extB Ja.mi
   obtain⟨J,A,hp⟩:=zqd hp;obtain⟨fb,O,B,A⟩:=zp7 A;refine⟨fb,O,(by first|exact B|(rw[s.slLen];exact B)),_,(s.rdI A g.sub),_,_,_,_,_,h.bk.ra,_,_,_,_,_,_,_,_,_,j.bk.ra,?_⟩;obtain⟨Ka,La,hp⟩:=zqd hp;refine zy0 (w:=({ c:=w.c,payments:=p }:UWk)) (f_:=f_) (count:=J) g.pre (ha100.sub b.fs) (ha103.sub b.fs) (e.mc g) La fun qb Ma P=>?_;obtain⟨Na,u,Oa⟩:=g.callM e Ma P;have Pa:=h.k u;have Qa:=j.k u;have Ra:=l.k u;have Sa:=n.k u;refine⟨_,rfl,trivial,?_⟩;obtain⟨Ta,hp⟩:=zqe hp;obtain⟨S,T,Y⟩:=zqO Ta;refine⟨S,T,Y,?_⟩;obtain⟨Ua,hp⟩:=zqe hp
   have Z:Int.toNat J=(0+(S * 1)):=by omega
   obtain⟨Va,Wa,Xa,x,N⟩:=Ra.stL Na Ua (i:=(0+(S * 1))) (by omega) ((decide (Ka.1=pence)));rw[<- Z] at N;have Ya:=Pa.k x;have Za:=Qa.k x;have ab:=Sa.k x;have bb:=Oa.k x;refine⟨Va,Wa,?_⟩;refine gdi hp fun cb hp=>?_;exact db _ _ _ _ a Xa Ya Za N ab bb hp
 exact hgo _ _ _ _ _ F Ba h j l n e hp
theorem zy5{w:UWk}{f_:Fld}{t:Thr}{ca100 ca103 ca104:C}{m f:M}{Q:V->M->Prop}{rz:Bool × Option (Clm->Option (Int))}(hS:Pre f m)(ha100:Sl f ca100 w.c.Tariffs)(ha103:Sl f ca103 w.c.Fields)(ha104:Mc f m ca104 w.payments)(hp:zuo w f_ t=some rz)(hq:∀m',zqB ca104 m m'->Mi m' ca104 rz.2->Q (.c (.bool rz.1)) m'):Wc prog tbl 104 [.agg 5 [ca100,Il w.c.Day,Il w.c.Fee,ca103,ca104],.agg 9 [Il f_.Crop,Il f_.Value,Il f_.Near,Il f_.First.Lo,Il f_.First.Hi,Il f_.Second.Lo,Il f_.Second.Hi,Il f_.Umpire.Lo,Il f_.Umpire.Hi],.agg 3 [Il t.First,Il t.Second,Il t.Umpire]] m Q:=by
 have S0:=hS.stM ha104;obtain⟨τ0,M0⟩:∃τ,Mo (Fm.mp m ca104) f τ m 1 ca104 w.payments:=⟨_,ha104.mo 1⟩;refine zwP ?_;unfold zuo at hp;intro m0 Z;obtain⟨aa,ba,ca,da⟩:=S0.blk Z τ0 2;have ea:=M0.k ca;intro m1 fa;obtain⟨ga,ha,z,ia⟩:=ba.blk fa aa 3;have ja:=da.k z;have ka:=ea.k z;intro m2 la;obtain⟨e,A,g,B⟩:=ha.blk la ga 4;have D:=ja.k g;have h:=ia.k g;have ma:=ka.k g;refine⟨_,_,_,_,_,D.bk.ra,_,_,_,_,_,_,_,_,_,h.bk.ra,_,_,_,_,_,_,_,_,_,h.bk.ra,_,_,_,B.bk.ra,?_⟩;obtain⟨na,oa,hp⟩:=zqd hp;refine zyD (f_:=f_) (t:=t) A.pre  oa fun hb pa=>?_;obtain⟨i,b⟩:=A.call pa e;have F:=D.k b;have G:=h.k b;have qa:=B.k b;have j:=ma.k b;refine⟨_,rfl,(G.bk.ra),(by rw[show zaL cmC _=true from zoN (zqh ha100.noFn (zqh rfl (zqh rfl (zqh ha103.noFn (zqh j.mi.noFn zqi)))))]; exact(F.bk.ra)),?_⟩;obtain⟨I,sa,hp⟩:=zqd hp;refine zy0 (w:=w) (f_:=f_) (count:=na) i.pre ha100 ha103 (j.mc i) sa fun ib ta T=>?_;obtain⟨ua,l,va⟩:=i.callM j ta T;have wa:=F.k l;have xa:=G.k l;have a:=qa.k l;refine⟨_,rfl,trivial,_,a.bk.rc rfl,trivial,_,a.bk.rc rfl,trivial,_,a.bk.rc rfl,trivial,_,a.bk.rc rfl,trivial,?_⟩;obtain⟨ya,za,Aa,n,o⟩:=xa.stoP ua 3 [Il t.First,Il t.First] (Nat.le_of_ble_eq_true rfl) rfl
 replace o:Lb _ _ _ _ _ _ _ [Il f_.Crop,Il f_.Value,Il f_.Near,Il t.First,Il t.First,Il f_.Second.Lo,Il f_.Second.Hi,Il f_.Umpire.Lo,Il f_.Umpire.Hi]:=o
 have Ba:=wa.k n;have J:=a.k n;have Ca:=va.k n;refine⟨ya,za,?_⟩;refine⟨(J.bk.rc rfl),(J.bk.rc rfl),trivial,?_⟩;obtain⟨Da,Ea,N,O,d⟩:=o.stoP Aa 5 [Il t.Second,Il t.Second] (Nat.le_of_ble_eq_true rfl) rfl
 replace d:Lb _ _ _ _ _ _ _ [Il f_.Crop,Il f_.Value,Il f_.Near,Il t.First,Il t.First,Il t.Second,Il t.Second,Il f_.Umpire.Lo,Il f_.Umpire.Hi]:=d
 have Fa:=Ba.k O;have Ga:=Ca.k O;refine⟨Da,Ea,?_⟩;refine⟨_,_,_,_,_,_,_,_,_,d.bk.ra,?_⟩;obtain⟨p,Ha,hp⟩:=zqd hp;refine zyI (f_:=({ Crop:=f_.Crop,Value:=f_.Value,Near:=f_.Near,First:=({ Lo:=t.First,Hi:=t.First }:Rg),Second:=({ Lo:=t.Second,Hi:=t.Second }:Rg),Umpire:=f_.Umpire }:Fld)) N.pre  Ha fun jb Ia=>?_;obtain⟨Ja,q⟩:=N.call Ia e;have Ka:=Fa.k q;have La:=d.k q;have Ma:=Ga.k q;refine⟨_,rfl,?_⟩;intro kb Na;obtain⟨db,Oa,r,s⟩:=Ja.blk Na e 5
 replace s:Lb _ _ _ _ _ _ _ ((List.replicate 101 false).map C.bool):=s
 have Pa:=Ka.k r;have Qa:=La.k r;have Ra:=Ma.k r;obtain⟨Sa,Ta,u,x,y⟩:=s.sto Oa (p.map C.bool);have Ua:=Pa.k x;have Va:=Qa.k x;have P:=Ra.k x;refine⟨Sa,Ta,?_⟩;refine⟨_,_,_,_,_,Ua.bk.ra,_,_,_,_,_,_,_,_,_,Va.bk.ra,_,y.bk.ra,?_⟩;obtain⟨Wa,Xa,hp⟩:=zqd hp;refine zy4 (w:=({ c:=w.c,payments:=I.2 }:UWk)) (f_:=({ Crop:=f_.Crop,Value:=f_.Value,Near:=f_.Near,First:=({ Lo:=t.First,Hi:=t.First }:Rg),Second:=({ Lo:=t.Second,Hi:=t.Second }:Rg),Umpire:=f_.Umpire }:Fld)) (could:=p) (pence:=I.1) u.pre ha100 ha103 (P.mc u) Xa fun mb Ya Y=>?_;obtain⟨Za,ab,bb⟩:=u.callM P Ya Y;have cb:=y.k ab;refine⟨_,rfl,_,cb.bk.ra,(by rw[show zaL cmC _=true from zrq _]; exact(y.bk.ra)),?_⟩;obtain⟨S,hp⟩:=zqe hp;refine⟨(decide (Wa.1=p)),(zrs zw2.1 zw2.2 S.1 S.2),?_⟩;obtain rfl:=oi hp;exact hq _ Za.extB bb.mi
theorem zy6{w:UWk}{ca100 ca103 ca104:C}{m f:M}{Q:V->M->Prop}{rz:List Int × Option (Clm->Option (Int))}(hS:Pre f m)(ha100:Sl f ca100 w.c.Tariffs)(ha103:Sl f ca103 w.c.Fields)(ha104:Mc f m ca104 w.payments)(hp:zus w=some rz)(hq:∀m' f' c0,zrp ca104 m f m' f'->Sl f' c0 rz.1->Mi m' ca104 rz.2->Q (.c c0) m'):Wc prog tbl 74 [.agg 5 [ca100,Il w.c.Day,Il w.c.Fee,ca103,ca104]] m Q:=by
 have S0:=hS.stM ha104;obtain⟨τ0,M0⟩:∃τ,Mo (Fm.mp m ca104) f τ m 1 ca104 w.payments:=⟨_,ha104.mo 1⟩;refine w74 ?_;unfold zus at hp;intro m0 gb;obtain⟨hb,ib,jb,kb⟩:=S0.blk gb τ0 2;have mb:=M0.k jb;intro m1 ob;obtain⟨pb,qb,Aa,aa⟩:=ib.blk ob hb 3;have ba:=kb.k Aa;have ca:=mb.k Aa;refine⟨trivial,trivial,_,ba.bk.rc rfl,ha103.isSl,?_⟩;intro R3 jd
 have hgo:∀(o:Nat) (O:Int) (P:C) (da:List Int) (ea:Option (Clm->Option (Int))) (m5:M) (u:M) (y:Nat->Nat),St (Fm.mp m ca104) f u m5->Sub f u->Lb (Fm.mp m ca104) u y m5 2 m.nxt 5 [ca100,Il w.c.Day,Il w.c.Fee,ca103,ca104]->Lb (Fm.mp m ca104) u y m5 3 m0.nxt 1 [P]->Ow (Fm.mp m ca104) u y m5 4 P da->Mo (Fm.mp m ca104) u y m5 1 ca104 ea->zur w o da ea O=some rz->R3 [.c (Il O)] m5:=by
  intro o
  induction o with
  | zero=>intro O P da ea m5 u y ka x ba aa e ca hp; cases hp
  | succ o Va=>
   intro O P da ea m5 u y ka x ba aa e ca hp;refine jd _ _ ?_;rw[zur] at hp
   try rw[ha103.slLen]
   refine ifd hp (fun rb hp=>?_) fun rb hp=>?_; rotate_left
   ·refine⟨_,aa.bk.rc rfl,?_⟩;obtain⟨sb,tb,ub,vb⟩:=e.freeze ka;have Ba:=ca.k ub;obtain rfl:=oi hp;exact hq _ sb P (tb.grwM Ba) vb Ba.mi
   obtain⟨b,pa,hp⟩:=zqd hp;obtain⟨n6,Wa,wa,pa⟩:=zp7 pa;obtain⟨_,wb⟩:=zrK ha103 pa;refine⟨n6,Wa,(by first|exact wa|(rw[ha103.slLen];exact wa)),_,_,_,_,_,_,_,_,_,(wb _ (Sub.trans x ka.sub)).1,?_⟩;intro Ca xb;obtain⟨yb,zb,la,Ab⟩:=ka.blk xb y 5;have Bb:=ba.k la;have Cb:=aa.k la;have Db:=ca.k la;have e:=e.k la;intro Ad Eb;obtain⟨Da,Fb,fa,Gb⟩:=zb.blk Eb yb 6;have Hb:=Bb.k fa;have Ib:=Cb.k fa;have Jb:=Ab.k fa;have Kb:=Db.k fa;have e:=e.k fa;obtain⟨Mb,Nb,Ob,ga,Pb⟩:=Jb.sto Fb [Il O];have Qb:=Hb.k ga;have Rb:=Ib.k ga;have Sb:=Gb.k ga;have Tb:=Kb.k ga;have e:=e.k ga;refine⟨Mb,Nb,?_⟩;obtain⟨Ub,Vb,Ea,ha,Fa⟩:=Sb.sto Ob [Il b.Crop,Il b.Value,Il b.Near,Il b.First.Lo,Il b.First.Hi,Il b.Second.Lo,Il b.Second.Hi,Il b.Umpire.Lo,Il b.Umpire.Hi];have Wb:=Qb.k ha;have Xb:=Rb.k ha;have Yb:=Pb.k ha;have Zb:=Tb.k ha;have e:=e.k ha;refine⟨Ub,Vb,?_⟩;refine⟨_,_,_,_,_,_,_,_,_,Fa.bk.ra,?_⟩;obtain⟨nd,ac,hp⟩:=zqd hp;refine zyG (f_:=b) Ea.pre  ac fun Bd od pd bc cc=>?_;obtain⟨dc,l⟩:=Ea.callG bc Da;have Ga:=Wb.k l;have Ha:=Xb.k l;have Ia:=Yb.k l;have Ja:=Fa.k l;have Ka:=Zb.k l;have e:=e.k l;refine⟨_,rfl,?_⟩
   refine zqM (α:=Thr) dc cc (σ:=(List Int) × C × (Option (Clm->Option (Int)))) 7 (fun st bb=>(False\/(False\/((zqL st.2.1 bb)\/(False\/(False\/False)))))) (fun st gG gF gT gM=>(Lb gG gF gT gM 2 m.nxt 5 [ca100,Il w.c.Day,Il w.c.Fee,ca103,ca104])/\(Lb gG gF gT gM 3 m0.nxt 1 [st.2.1])/\(Ow gG gF gT gM 4 st.2.1 st.1)/\(Lb gG gF gT gM 5 m5.nxt 1 [Il O])/\(Lb gG gF gT gM 6 Ca.nxt 9 [Il b.Crop,Il b.Value,Il b.Near,Il b.First.Lo,Il b.First.Hi,Il b.Second.Lo,Il b.Second.Hi,Il b.Umpire.Lo,Il b.Umpire.Hi])/\(Mo gG gF gT gM 1 ca104 st.2.2)) (fun rr_ st=>zuq w O b (zur w o) rr_ st.1 st.2.2=some rz) (fun ex st=>(match ex with | .exit i=>i=1/\zup O (zur w o) st.1 st.2.2=some rz | _=>False)) (fun st=>(Gud.and (Gud.lb Ga.bk.lt (by decide)) (Gud.and (Gud.lb Ha.bk.lt (by decide)) (Gud.and (Gud.ow (by decide)) (Gud.and (Gud.lb Ia.bk.lt (by decide)) (Gud.and (Gud.lb Ja.bk.lt (by decide)) (Gud.mo Ka.lt (by decide)))))))) (st0:=(da,P,ea)) (τ:=Da) ⟨Ga,Ha,e,Ia,Ja,Ka⟩ hp ?_ ?_ ?_ ?_
   ·intro ia ec st z A ma S qd kd ld md fc La hA Xa hp Ya xa;obtain⟨n,p,q⟩:=st;obtain⟨g,h,d,r,s,j⟩:=hA
    replace g:Lb S z A ma 2 m.nxt 5 [ca100,Il w.c.Day,Il w.c.Fee,ca103,ca104]:=g
    replace h:Lb S z A ma 3 m0.nxt 1 [p]:=h
    replace d:Ow S z A ma 4 p n:=d
    replace r:Lb S z A ma 5 m5.nxt 1 [Il O]:=r
    replace s:Lb S z A ma 6 Ca.nxt 9 [Il b.Crop,Il b.Value,Il b.Near,Il b.First.Lo,Il b.First.Hi,Il b.Second.Lo,Il b.Second.Hi,Il b.Umpire.Lo,Il b.Umpire.Hi]:=s
    replace j:Mo S z A ma 1 ca104 q:=j
    replace hp:zuq w O b (zur w o) (ia::ec) n q=some rz:=hp
    rw[zuq] at hp;refine⟨_,_,_,rfl,?_⟩;intro Cd gc;obtain⟨sd,hc,B,ic⟩:=fc.blk gc A 8;have jc:=g.k B;have kc:=h.k B;have lc:=r.k B;have nc:=s.k B;have oc:=j.k B;have d:=d.k B;have Za:=Xa.k B;obtain⟨pc,qc,sc,D,tc⟩:=ic.sto hc [Il ia.First,Il ia.Second,Il ia.Umpire];have uc:=jc.k D;have vc:=kc.k D;have wc:=lc.k D;have xc:=nc.k D;have yc:=oc.k D;have d:=d.k D;have ab:=Za.k D;refine⟨pc,qc,?_⟩;refine Ya _ _ _ _ sc ab fun Dd td qa F cb ya=>?_;have Ma:=uc.k F;have zc:=vc.k F;have Ac:=wc.k F;have Na:=xc.k F;have Bc:=tc.k F;have Oa:=yc.k F;have d:=d.k F;refine⟨_,_,_,_,_,Ma.bk.ra,_,_,_,_,_,_,_,_,_,Na.bk.ra,_,_,_,Bc.bk.ra,?_⟩;obtain⟨Pa,Cc,hp⟩:=zqd hp;refine zy5 (w:=({ c:=w.c,payments:=q }:UWk)) (f_:=b) (t:=ia) qa.pre (ha100.sub (Sub.trans (Sub.trans x l.fs) La)) (ha103.sub (Sub.trans (Sub.trans x l.fs) La)) (Oa.mc qa) Cc fun Ed Dc db=>?_;obtain⟨Qa,T,Ra⟩:=qa.callM Oa Dc db;have Sa:=Ma.k T;have sa:=zc.k T;have ta:=Ac.k T;have Ta:=Na.k T;have d:=d.k T;have za:=cb.k T;refine⟨_,rfl,?_⟩;refine zqS hp (fun Ec hp=>?_) fun Ec hp=>?_; rotate_left
    ·exact xa .nrm (n,p,Pa.2) _ _ _ _ Qa ⟨Sa,sa,d,ta,Ta,Ra⟩ za ya hp
    refine⟨_,sa.bk.rc rfl,_,ta.bk.rc rfl,?_⟩;obtain⟨Fc,hp⟩:=zqe hp;intro Fd Gc;obtain⟨ua,Hc,ud,Ic,Jc,Y,va⟩:=d.app' zw4 Qa (a:=O) (show Rp.rep (α:=Int) z _ O from rfl) Fc Gc;have Kc:=Sa.k Y;have Lc:=sa.k Y;have Nc:=ta.k Y;have Pc:=Ta.k Y;have Qc:=Ra.k Y;have eb:=za.k Y;refine⟨ua,Hc,Ic,?_⟩;obtain⟨Rc,Tc,Uc,Z,Vc⟩:=Lc.sto Jc [ua];have Xc:=Kc.k Z;have Yc:=Nc.k Z;have Zc:=Pc.k Z;have ad:=Qc.k Z;have va:=va.k Z;have fb:=eb.k Z;refine⟨Rc,Tc,?_⟩;exact xa (.exit 1) ((n++[O]),ua,Pa.2) _ _ _ _ Uc ⟨Xc,Vc,va,Yc,Zc,ad⟩ fb ya ⟨rfl,hp⟩
   ·intro st G I na bd cd hA hp;obtain⟨n,p,q⟩:=st
    replace hp:zuq w O b (zur w o) [] n q=some rz:=hp
    obtain⟨g,h,d,r,s,j⟩:=hA
    replace g:Lb (Fm.mp m ca104) G I na 2 m.nxt 5 [ca100,Il w.c.Day,Il w.c.Fee,ca103,ca104]:=g
    replace h:Lb (Fm.mp m ca104) G I na 3 m0.nxt 1 [p]:=h
    replace d:Ow (Fm.mp m ca104) G I na 4 p n:=d
    replace r:Lb (Fm.mp m ca104) G I na 5 m5.nxt 1 [Il O]:=r
    replace s:Lb (Fm.mp m ca104) G I na 6 Ca.nxt 9 [Il b.Crop,Il b.Value,Il b.Near,Il b.First.Lo,Il b.First.Hi,Il b.Second.Lo,Il b.Second.Hi,Il b.Umpire.Lo,Il b.Umpire.Hi]:=s
    replace j:Mo (Fm.mp m ca104) G I na 1 ca104 q:=j
    rw[zuq] at hp;refine gdi hp fun dd hp=>?_;exact Va _ _ _ _ _ G I bd (Sub.trans (Sub.trans x l.fs) cd) g h d j hp
   ·intro id st J N oa ed fd hA hn;obtain⟨n,p,q⟩:=st;obtain⟨hid,hp⟩:=hn;subst hid;refine zqY ?_
    replace hp:zup O (zur w o) n q=some rz:=hp
    unfold zup at hp;obtain⟨g,h,d,r,s,j⟩:=hA
    replace g:Lb (Fm.mp m ca104) J N oa 2 m.nxt 5 [ca100,Il w.c.Day,Il w.c.Fee,ca103,ca104]:=g
    replace h:Lb (Fm.mp m ca104) J N oa 3 m0.nxt 1 [p]:=h
    replace d:Ow (Fm.mp m ca104) J N oa 4 p n:=d
    replace r:Lb (Fm.mp m ca104) J N oa 5 m5.nxt 1 [Il O]:=r
    replace s:Lb (Fm.mp m ca104) J N oa 6 Ca.nxt 9 [Il b.Crop,Il b.Value,Il b.Near,Il b.First.Lo,Il b.First.Hi,Il b.Second.Lo,Il b.Second.Hi,Il b.Umpire.Lo,Il b.Umpire.Hi]:=s
    replace j:Mo (Fm.mp m ca104) J N oa 1 ca104 q:=j
    refine gdi hp fun hd hp=>?_;exact Va _ _ _ _ _ J N ed (Sub.trans (Sub.trans x l.fs) fd) g h d j hp
   ·intro st _ _ _ _ _ _ hn; first | exact hn.elim | (cases hn)
 exact hgo _ _ _ _ _ _ f pb qb (Sub.refl _) ba aa (Ow.nil _ _ _ _ _) ca hp
theorem zy7{c:Cse}{t:List Thr}{ca100 ca103 ca200:C}{m f:M}{Q:V->M->Prop}{rz:Res × Int}(hS:Pre f m)(ha100:Sl f ca100 c.Tariffs)(ha103:Sl f ca103 c.Fields)(ha200:Sl f ca200 t)(hp:zut c t=some rz)(hq:∀m' f' c0,Grw m f m' f'->Sl f' c0 rz.1.Counts->Q (.tup [.agg 4 [c0,Il rz.1.Award,Il rz.1.Farmer,Il rz.1.Society],.c (Il rz.2)]) m'):Wc prog tbl 18 [.agg 4 [ca100,Il c.Day,Il c.Fee,ca103],.c ca200] m Q:=by
 have S0:=hS.st;obtain⟨τ0,_⟩:=zrD;refine w18 ?_;unfold zut at hp;intro m0 A;obtain⟨B,D,Na,F⟩:=S0.blk A τ0 1;intro m1 G;obtain⟨I,i,J,N⟩:=D.blk G B 2;have O:=F.k J;refine⟨_,_,_,_,O.bk.ra,?_⟩;obtain⟨a,P,hp⟩:=zqd hp;refine zyR (c:=c) i.pre ha100 ha103 P fun m7 l S T Y Z n o aa=>?_;obtain⟨ba,ca,d,da⟩:=i.callN Z aa I 3;have ea:=N.k d;refine⟨_,_,_,_,_,_,rfl,?_⟩;intro Va fa;obtain⟨ga,ha,p,ia⟩:=ca.blk fa ba 4;have ja:=ea.k p;have ka:=da.k p;obtain⟨la,ma,e,q,r⟩:=ia.sto ha [S,Il a.1.c.Day,Il a.1.c.Fee,T,Y];have s:=ja.k q;have na:=ka.k q;refine⟨la,ma,?_⟩;refine zqR hp (fun oa hp=>?_) fun oa hp=>?_
 ·obtain⟨pa,qa,sa,Oa,ta⟩:=s.sto e [.sl0,Il 0,Il 0,Il 0];refine⟨pa,qa,?_⟩;refine⟨_,_,_,_,ta.bk.ra,?_⟩;obtain rfl:=oi hp;exact hq _ l .sl0 sa.grw (Sl.nil _)
 refine⟨trivial,_,_,_,_,r.bk.rp (k:=0) (j:=4) rfl (by omega),?_⟩;obtain⟨Pa,ua,hp⟩:=zqd hp;refine zyP (c:=a.1.c) (t:=t) e.pre n o (ha200.sub d.fs) ua fun Wa va=>?_;obtain⟨b,g⟩:=e.call va ga;have u:=s.k g;have wa:=r.k g;have x:=na.k g;refine⟨_,rfl,?_⟩;refine zqT hp (fun xa hp=>?_) fun xa hp=>?_
 ·obtain⟨ya,za,Aa,Qa,Ba⟩:=u.sto b [.sl0,Il 0,Il 0,Il 0];refine⟨ya,za,?_⟩;refine⟨_,_,_,_,Ba.bk.ra,?_⟩;obtain rfl:=oi hp;exact hq _ l .sl0 Aa.grw (Sl.nil _)
 refine⟨_,_,_,_,_,wa.bk.ra,?_⟩;obtain⟨h,Ca,hp⟩:=zqd hp;refine zy3 (w:=a.1) (t:=t) b.pre n o (x.mc b) (ha200.sub d.fs) Ca fun Xa Da y Ea Fa z=>?_;obtain⟨Ga,Ha,Ra⟩:=b.callGM x Ea z;have Ia:=u.k Ha;refine⟨_,_,_,_,rfl,?_⟩;obtain⟨Ja,Ka,La,Sa,Ma⟩:=Ia.sto Ga [y,Il h.1.Award,Il h.1.Farmer,Il h.1.Society];refine⟨Ja,Ka,?_⟩;refine⟨_,_,_,_,Ma.bk.ra,?_⟩;obtain rfl:=oi hp;exact hq _ Da y La.grw Fa
theorem zy8{c:Cse}{field:Int}{ca100 ca103:C}{m f:M}{Q:V->M->Prop}{rz:List Int × Int}(hS:Pre f m)(ha100:Sl f ca100 c.Tariffs)(ha103:Sl f ca103 c.Fields)(hp:zuu c field=some rz)(hq:∀m' f' c0,Grw m f m' f'->Sl f' c0 rz.1->Q (.tup [.c c0,.c (Il rz.2)]) m'):Wc prog tbl 27 [.agg 4 [ca100,Il c.Day,Il c.Fee,ca103],.c (Il field)] m Q:=by
 have Z:=hS.st;obtain⟨τ0,_⟩:=zrD;refine w27 ?_;unfold zuu at hp;intro m0 i;obtain⟨d,e,J,j⟩:=Z.blk i τ0 1;refine⟨_,_,_,_,j.bk.ra,?_⟩;obtain⟨a,l,hp⟩:=zqd hp;refine zyS (c:=c) (field:=field) e.pre ha100 ha103 l fun m6 n=>?_;obtain⟨o,N⟩:=e.call n d;refine⟨_,_,_,_,_,_,_,_,_,_,rfl,?_⟩;intro ba p;obtain⟨g,q,O,r⟩:=o.blk p d 2;obtain⟨s,t,b,P,u⟩:=r.sto q [Il a.1.Crop,Il a.1.Value,Il a.1.Near,Il a.1.First.Lo,Il a.1.First.Hi,Il a.1.Second.Lo,Il a.1.Second.Hi,Il a.1.Umpire.Lo,Il a.1.Umpire.Hi];refine⟨s,t,?_⟩;refine zqR hp (fun w hp=>?_) fun w hp=>?_
 ·obtain rfl:=oi hp;exact hq _ f .sl0 b.grw (Sl.nil _)
 refine⟨_,_,_,_,_,_,_,_,_,u.bk.ra,?_⟩;obtain⟨x,y,hp⟩:=zqd hp;refine zyI (f_:=a.1) b.pre  y fun ca z=>?_;obtain⟨h,S⟩:=b.call z g;refine⟨_,rfl,?_⟩;obtain⟨T,A,hp⟩:=zqd hp;refine zyH (c:=x) h.pre  A fun da B D F G=>?_;obtain⟨I,Y⟩:=h.callG F g;refine⟨_,rfl,?_⟩;obtain rfl:=oi hp;exact hq _ B D I.grw G
theorem zy9{c:Cse}{field:Int}{ca100 ca103:C}{m f:M}{Q:V->M->Prop}{rz:Int × Int}(hS:Pre f m)(ha100:Sl f ca100 c.Tariffs)(ha103:Sl f ca103 c.Fields)(hp:zuv c field=some rz)(hq:∀m',Ext m m'->Q (.tup [.c (Il rz.1),.c (Il rz.2)]) m'):Wc prog tbl 28 [.agg 4 [ca100,Il c.Day,Il c.Fee,ca103],.c (Il field)] m Q:=by
 have I:=hS.st;obtain⟨J,_⟩:=zrD;refine w28 ?_;unfold zuv at hp;intro P g;obtain⟨d,e,z,h⟩:=I.blk g J 1;refine⟨_,_,_,_,h.bk.ra,?_⟩;obtain⟨a,i,hp⟩:=zqd hp;refine zyS (c:=c) (field:=field) e.pre ha100 ha103 i fun S j=>?_;obtain⟨l,A⟩:=e.call j d;refine⟨_,_,_,_,_,_,_,_,_,_,rfl,?_⟩;intro N n;obtain⟨o,p,B,q⟩:=l.blk n d 2;obtain⟨r,s,b,D,t⟩:=q.sto p [Il a.1.Crop,Il a.1.Value,Il a.1.Near,Il a.1.First.Lo,Il a.1.First.Hi,Il a.1.Second.Lo,Il a.1.Second.Hi,Il a.1.Umpire.Lo,Il a.1.Umpire.Hi];refine⟨r,s,?_⟩;refine zqR hp (fun u hp=>?_) fun u hp=>?_
 ·obtain rfl:=oi hp;exact hq _ b.ext'
 refine⟨_,_,_,_,_,_,_,_,_,t.bk.ra,?_⟩;obtain⟨F,w,hp⟩:=zqd hp;refine zyJ (f_:=a.1) b.pre  w fun O x=>?_;obtain⟨y,G⟩:=b.call x o;refine⟨_,rfl,?_⟩;obtain rfl:=oi hp;exact hq _ y.ext'
theorem zza{c:Cse}{ca100 ca103:C}{m f:M}{Q:V->M->Prop}{rz:List Int × Int}(hS:Pre f m)(ha100:Sl f ca100 c.Tariffs)(ha103:Sl f ca103 c.Fields)(hp:zuw c=some rz)(hq:∀m' f' c0,Grw m f m' f'->Sl f' c0 rz.1->Q (.tup [.c c0,.c (Il rz.2)]) m'):Wc prog tbl 36 [.agg 4 [ca100,Il c.Day,Il c.Fee,ca103]] m Q:=by
 have S0:=hS.st;obtain⟨τ0,_⟩:=zrD;refine w36 ?_;unfold zuw at hp;intro m0 h;obtain⟨i,d,ca,j⟩:=S0.blk h τ0 1;refine⟨_,_,_,_,j.bk.ra,?_⟩;obtain⟨b,l,hp⟩:=zqd hp;refine zyR (c:=c) d.pre ha100 ha103 l fun m6 n o p q r s t u=>?_;obtain⟨x,y,da,z⟩:=d.callN r u i 2;refine⟨_,_,_,_,_,_,rfl,?_⟩;intro ka A;obtain⟨ea,B,D,F⟩:=y.blk A x 3;have G:=z.k D;obtain⟨I,J,a,N,O⟩:=F.sto B [o,Il b.1.c.Day,Il b.1.c.Fee,p,q];have e:=G.k N;refine⟨I,J,?_⟩;refine zqR hp (fun P hp=>?_) fun P hp=>?_
 ·obtain rfl:=oi hp;exact hq _ n .sl0 a.grw (Sl.nil _)
 refine⟨_,_,_,_,_,O.bk.ra,?_⟩;obtain⟨fa,S,hp⟩:=zqd hp;refine zy6 (w:=b.1) a.pre s t (e.mc a) S fun la T Y Z aa g=>?_;obtain⟨ba,ga,ha⟩:=a.callGM e Z g;refine⟨_,rfl,?_⟩;obtain rfl:=oi hp;exact hq _ T Y ba.grw aa
theorem zzb{r:Rg}{m f:M}{Q:V->M->Prop}{rz:Bool}(hS:Pre f m)(hp:zux r=some rz)(hq:∀m',Ext m m'->Q (.c (.bool rz)) m'):Wc prog tbl 90 [.agg 2 [Il r.Lo,Il r.Hi]] m Q:=by
 have n:=hS.st;obtain⟨o,_⟩:=zrD;refine w90 ?_;unfold zux at hp;intro p d;obtain⟨j,b,l,a⟩:=n.blk d o 1;refine⟨trivial,_,a.bk.rc rfl,?_⟩;refine ifd hp (fun e hp=>?_) fun e hp=>?_; rotate_left
 ·obtain rfl:=oi hp;exact hq _ b.ext'
 refine⟨trivial,_,a.bk.rc rfl,trivial,_,a.bk.rc rfl,?_⟩;refine ifd hp (fun g hp=>?_) fun g hp=>?_; rotate_left
 ·obtain rfl:=oi hp;exact hq _ b.ext'
 refine⟨trivial,_,a.bk.rc rfl,?_⟩;refine ifd hp (fun h hp=>?_) fun h hp=>?_; rotate_left
 ·obtain rfl:=oi hp;exact hq _ b.ext'
 refine⟨trivial,_,a.bk.rc rfl,trivial,_,a.bk.rc rfl,?_⟩;refine gdi hp fun i hp=>?_;obtain rfl:=oi hp;exact hq _ b.ext'
theorem zzc{c:Cse}{ca100 ca103:C}{m f:M}{Q:V->M->Prop}{rz:Int}(hS:Pre f m)(ha100:Sl f ca100 c.Tariffs)(ha103:Sl f ca103 c.Fields)(hp:zuz c=some rz)(hq:∀m',Ext m m'->Q (.c (Il rz)) m'):Wc prog tbl 57 [.agg 4 [ca100,Il c.Day,Il c.Fee,ca103]] m Q:=by
 have S0:=hS.st;obtain⟨τ0,_⟩:=zrD;refine w57 ?_;unfold zuz at hp;intro m0 ka;obtain⟨e,B,vb,D⟩:=S0.blk ka τ0 1;refine⟨trivial,_,D.bk.rc rfl,?_⟩;obtain⟨wb,la,hp⟩:=zqd hp;refine zxd (l:=c.Tariffs) B.pre ha100 la fun m3 ma=>?_;obtain⟨g,na⟩:=B.call ma e;have p:=D.k na;refine⟨_,rfl,?_⟩;refine zqR hp (fun oa hp=>?_) fun oa hp=>?_
 ·obtain rfl:=oi hp;exact hq _ g.ext'
 refine⟨trivial,_,p.bk.rc rfl,ha103.isSl,?_⟩
 try rw[ha103.slLen]
 refine ifd hp (fun pa hp=>?_) fun pa hp=>?_
 ·obtain rfl:=oi hp;exact hq _ g.ext'
 refine⟨trivial,_,p.bk.rc rfl,?_⟩;obtain⟨xb,qa,hp⟩:=zqd hp;refine zxa (n:=c.Day) (low:=(0:Int)) (high:=(120:Int)) g.pre  qa fun m8 sa=>?_;obtain⟨q,ta⟩:=g.call sa e;have F:=p.k ta;refine⟨_,rfl,?_⟩;refine zqT hp (fun ua hp=>?_) fun ua hp=>?_
 ·obtain rfl:=oi hp;exact hq _ q.ext'
 refine⟨trivial,_,F.bk.rc rfl,?_⟩;obtain⟨yb,va,hp⟩:=zqd hp;refine zxa (n:=c.Fee) (low:=(0:Int)) (high:=(10000:Int)) q.pre  va fun Hb wa=>?_;obtain⟨G,xa⟩:=q.call wa e;have d:=F.k xa;refine⟨_,rfl,?_⟩;refine zqT hp (fun ya hp=>?_) fun ya hp=>?_
 ·obtain rfl:=oi hp;exact hq _ G.ext'
 intro tb sb
 have hgo:∀(h:Nat) (ia:Int) (I:Int) (z:M) (i:Nat->Nat),St (Fm.of m) f f z->Lb (Fm.of m) f i z 1 m.nxt 4 [ca100,Il c.Day,Il c.Fee,ca103]->zuy c h I=some rz->tb [.c (Il ia),.c (Il I)] z:=by
  intro h
  induction h with
  | zero=>intro ia I z i o d hp; cases hp
  | succ h za=>
   intro ia I z i o d hp;refine sb _ _ _ ?_;rw[zuy] at hp;refine⟨trivial,_,d.bk.rc rfl,ha103.isSl,?_⟩
   try rw[ha103.slLen]
   refine ifd hp (fun Aa hp=>?_) fun Aa hp=>?_; rotate_left
   ·obtain rfl:=oi hp;exact hq _ o.ext'
   refine⟨trivial,_,d.bk.rc rfl,?_⟩;obtain⟨a,s,hp⟩:=zqd hp;obtain⟨ub,ja,A,s⟩:=zp7 s;obtain⟨_,Ba⟩:=zrK ha103 s;refine⟨ub,ja,(by first|exact A|(rw[ha103.slLen];exact A)),_,_,_,_,_,_,_,_,_,(Ba _ o.sub).1,?_⟩;intro Ib Ca;obtain⟨b,Da,Ea,Fa⟩:=o.blk Ca i 2;have Ga:=d.k Ea;obtain⟨Ha,Ia,J,Ja,N⟩:=Fa.sto Da [Il a.Crop,Il a.Value,Il a.Near,Il a.First.Lo,Il a.First.Hi,Il a.Second.Lo,Il a.Second.Hi,Il a.Umpire.Lo,Il a.Umpire.Hi];have O:=Ga.k Ja;refine⟨Ha,Ia,?_⟩;refine⟨trivial,_,N.bk.rc rfl,trivial,_,O.bk.rc rfl,?_⟩;obtain⟨Ka,La,hp⟩:=zqd hp;refine zxi (l:=c.Tariffs) J.pre ha100 La fun Jb Ma=>?_;obtain⟨P,S⟩:=J.call Ma b;have Na:=O.k S;have T:=N.k S;refine⟨_,rfl,(T.bk.rc rfl),?_⟩;refine gdi hp fun Oa hp=>?_;obtain⟨zb,Pa,hp⟩:=zqd hp;refine zxa (n:=a.Crop) (low:=(0:Int)) (high:=(Ka - (1:Int))) P.pre  Pa fun Kb Qa=>?_;obtain⟨t,Y⟩:=P.call Qa b;have Ra:=Na.k Y;have Z:=T.k Y;refine⟨_,rfl,?_⟩;refine zqT hp (fun Sa hp=>?_) fun Sa hp=>?_
   ·obtain rfl:=oi hp;exact hq _ t.ext'
   refine⟨trivial,_,Z.bk.rc rfl,?_⟩;obtain⟨Ab,Ta,hp⟩:=zqd hp;refine zxa (n:=a.Value) (low:=(0:Int)) (high:=(100000:Int)) t.pre  Ta fun Mb Ua=>?_;obtain⟨u,aa⟩:=t.call Ua b;have Va:=Ra.k aa;have ba:=Z.k aa;refine⟨_,rfl,?_⟩;refine zqT hp (fun Wa hp=>?_) fun Wa hp=>?_
   ·obtain rfl:=oi hp;exact hq _ u.ext'
   refine⟨trivial,_,ba.bk.rc rfl,?_⟩;obtain⟨Bb,Xa,hp⟩:=zqd hp;refine zxa (n:=a.Near) (low:=(0:Int)) (high:=(100:Int)) u.pre  Xa fun Nb Ya=>?_;obtain⟨w,ca⟩:=u.call Ya b;have Za:=Va.k ca;have da:=ba.k ca;refine⟨_,rfl,?_⟩;refine zqT hp (fun ab hp=>?_) fun ab hp=>?_
   ·obtain rfl:=oi hp;exact hq _ w.ext'
   refine⟨trivial,_,_,da.bk.rp (k:=3) (j:=2) rfl (by omega),?_⟩;obtain⟨Cb,bb,hp⟩:=zqd hp;refine zzb (r:=a.First) w.pre  bb fun Ob cb=>?_;obtain⟨x,ea⟩:=w.call cb b;have db:=Za.k ea;have fa:=da.k ea;refine⟨_,rfl,?_⟩;refine zqT hp (fun eb hp=>?_) fun eb hp=>?_
   ·obtain rfl:=oi hp;exact hq _ x.ext'
   refine⟨trivial,_,_,fa.bk.rp (k:=5) (j:=2) rfl (by omega),?_⟩;obtain⟨Db,fb,hp⟩:=zqd hp;refine zzb (r:=a.Second) x.pre  fb fun Pb gb=>?_;obtain⟨y,ga⟩:=x.call gb b;have hb:=db.k ga;have ib:=fa.k ga;refine⟨_,rfl,?_⟩;refine zqT hp (fun jb hp=>?_) fun jb hp=>?_
   ·obtain rfl:=oi hp;exact hq _ y.ext'
   refine⟨trivial,_,_,ib.bk.rp (k:=7) (j:=2) rfl (by omega),?_⟩;obtain⟨Eb,kb,hp⟩:=zqd hp;refine zzb (r:=a.Umpire) y.pre  kb fun Qb mb=>?_;obtain⟨ha,ob⟩:=y.call mb b;have pb:=hb.k ob;refine⟨_,rfl,?_⟩;refine zqT hp (fun qb hp=>?_) fun qb hp=>?_
   ·obtain rfl:=oi hp;exact hq _ ha.ext'
   refine gdi hp fun rb hp=>?_;exact za _ _ _ b ha pb hp
 exact hgo _ _ _ _ e G d hp
theorem zzd{a:Int}{b:Int}{m f:M}{Q:V->M->Prop}{rz:Int}(hS:Pre f m)(hp:zuA a b=some rz)(hq:∀m',Ext m m'->Q (.c (Il rz)) m'):Wc prog tbl 79 [.c (Il a),.c (Il b)] m Q:=by
 have h:=hS.st;obtain⟨i,_⟩:=zrD;refine w79 ?_;unfold zuA at hp;refine ifd hp (fun d hp=>?_) fun d hp=>?_
 ·refine gdi hp fun e hp=>?_;obtain rfl:=oi hp;exact hq _ h.ext'
 refine gdi hp fun g hp=>?_;obtain rfl:=oi hp;exact hq _ h.ext'
theorem zze{f_:Fld}{x:Thr}{m f:M}{Q:V->M->Prop}{rz:Bool}(hS:Pre f m)(hp:zuB f_ x=some rz)(hq:∀m',Ext m m'->Q (.c (.bool rz)) m'):Wc prog tbl 46 [.agg 9 [Il f_.Crop,Il f_.Value,Il f_.Near,Il f_.First.Lo,Il f_.First.Hi,Il f_.Second.Lo,Il f_.Second.Hi,Il f_.Umpire.Lo,Il f_.Umpire.Hi],.agg 3 [Il x.First,Il x.Second,Il x.Umpire]] m Q:=by
 have z:=hS.st;obtain⟨A,_⟩:=zrD;refine w46 ?_;unfold zuB at hp;intro B h;obtain⟨i,j,w,l⟩:=z.blk h A 1;intro D n;obtain⟨o,d,p,e⟩:=j.blk n i 2;have g:=l.k p;refine⟨trivial,_,e.bk.rc rfl,trivial,_,e.bk.rc rfl,?_⟩;obtain⟨y,q,hp⟩:=zqd hp;refine zzd (a:=x.First) (b:=x.Second) d.pre  q fun F r=>?_;obtain⟨s,t⟩:=d.call r o;have u:=g.k t;refine⟨_,rfl,trivial,_,u.bk.rc rfl,(g.bk.rc rfl),?_⟩;obtain rfl:=oi hp;exact hq _ s.ext'
theorem zzf{f_:Fld}{x:Thr}{m f:M}{Q:V->M->Prop}{rz:Int}(hS:Pre f m)(hp:zuC f_ x=some rz)(hq:∀m',Ext m m'->Q (.c (Il rz)) m'):Wc prog tbl 61 [.agg 9 [Il f_.Crop,Il f_.Value,Il f_.Near,Il f_.First.Lo,Il f_.First.Hi,Il f_.Second.Lo,Il f_.Second.Hi,Il f_.Umpire.Lo,Il f_.Umpire.Hi],.agg 3 [Il x.First,Il x.Second,Il x.Umpire]] m Q:=by
 have O:=hS.st;obtain⟨P,_⟩:=zrD;refine w61 ?_;unfold zuC at hp;intro T g;obtain⟨h,i,J,j⟩:=O.blk g P 1;intro Y l;obtain⟨n,d,o,e⟩:=i.blk l h 2;have p:=j.k o;refine⟨_,_,_,_,_,_,_,_,_,p.bk.ra,_,_,_,e.bk.ra,?_⟩;obtain⟨N,q,hp⟩:=zqd hp;refine zze (f_:=f_) (x:=x) d.pre  q fun S r=>?_;obtain⟨b,s⟩:=d.call r n;have a:=e.k s;refine⟨_,rfl,?_⟩;refine zqT hp (fun t hp=>?_) fun t hp=>?_
 ·refine⟨trivial,_,a.bk.rc rfl,trivial,_,a.bk.rc rfl,?_⟩;refine gdi hp fun u hp=>?_;refine gdi hp fun w hp=>?_;refine gdi hp fun y hp=>?_;refine gdi hp fun z hp=>?_;obtain rfl:=oi hp;exact hq _ b.ext'
 refine⟨trivial,_,a.bk.rc rfl,trivial,_,a.bk.rc rfl,?_⟩;refine ifd hp (fun A hp=>?_) fun A hp=>?_; rotate_left
 ·refine⟨trivial,_,a.bk.rc rfl,trivial,_,a.bk.rc rfl,?_⟩;refine ifd hp (fun B hp=>?_) fun B hp=>?_; rotate_left
  ·refine⟨trivial,_,a.bk.rc rfl,?_⟩;obtain rfl:=oi hp;exact hq _ b.ext'
  refine⟨trivial,_,a.bk.rc rfl,trivial,_,a.bk.rc rfl,?_⟩;refine ifd hp (fun D hp=>?_) fun D hp=>?_
  ·refine⟨trivial,_,a.bk.rc rfl,trivial,_,a.bk.rc rfl,?_⟩;obtain rfl:=oi hp;exact hq _ b.ext'
  refine⟨trivial,_,a.bk.rc rfl,?_⟩;obtain rfl:=oi hp;exact hq _ b.ext'
 refine⟨trivial,_,a.bk.rc rfl,trivial,_,a.bk.rc rfl,?_⟩;refine ifd hp (fun F hp=>?_) fun F hp=>?_
 ·refine⟨trivial,_,a.bk.rc rfl,trivial,_,a.bk.rc rfl,?_⟩;obtain rfl:=oi hp;exact hq _ b.ext'
 refine⟨trivial,_,a.bk.rc rfl,trivial,_,a.bk.rc rfl,?_⟩;refine ifd hp (fun G hp=>?_) fun G hp=>?_; rotate_left
 ·refine⟨trivial,_,a.bk.rc rfl,?_⟩;obtain rfl:=oi hp;exact hq _ b.ext'
 refine⟨trivial,_,a.bk.rc rfl,trivial,_,a.bk.rc rfl,?_⟩;refine ifd hp (fun I hp=>?_) fun I hp=>?_
 ·refine⟨trivial,_,a.bk.rc rfl,trivial,_,a.bk.rc rfl,?_⟩;obtain rfl:=oi hp;exact hq _ b.ext'
 refine⟨trivial,_,a.bk.rc rfl,?_⟩;obtain rfl:=oi hp;exact hq _ b.ext'
theorem zzg{c:Cse}{f_:Fld}{count:Int}{ca100 ca103:C}{m f:M}{Q:V->M->Prop}{rz:Int}(hS:Pre f m)(ha100:Sl f ca100 c.Tariffs)(_ha103:Sl f ca103 c.Fields)(hp:zuD c f_ count=some rz)(hq:∀m',Ext m m'->Q (.c (Il rz)) m'):Wc prog tbl 96 [.agg 4 [ca100,Il c.Day,Il c.Fee,ca103],.agg 9 [Il f_.Crop,Il f_.Value,Il f_.Near,Il f_.First.Lo,Il f_.First.Hi,Il f_.Second.Lo,Il f_.Second.Hi,Il f_.Umpire.Lo,Il f_.Umpire.Hi],.c (Il count)] m Q:=by
 have F:=hS.st;obtain⟨G,_⟩:=zrD;refine w96 ?_;unfold zuD at hp;intro I e;obtain⟨g,h,B,i⟩:=F.blk e G 1;intro J j;obtain⟨n,b,o,a⟩:=h.blk j g 2;have d:=i.k o;refine⟨trivial,_,a.bk.rc rfl,trivial,_,d.bk.rc rfl,trivial,_,a.bk.rc rfl,trivial,_,d.bk.rc rfl,?_⟩;obtain⟨D,p,hp⟩:=zqd hp;refine zxh (l:=c.Tariffs) (crop:=f_.Crop) (day:=c.Day) (count:=count) b.pre ha100 p fun N q=>?_;obtain⟨r,s⟩:=b.call q n;have t:=a.k s;refine⟨_,rfl,(t.bk.rc rfl),?_⟩;refine gdi hp fun u hp=>?_;refine gdi hp fun w hp=>?_;refine gdi hp fun x hp=>?_;refine gdi hp fun y hp=>?_;refine gdi hp fun z hp=>?_;refine gdi hp fun A hp=>?_;obtain rfl:=oi hp;exact hq _ r.ext'
theorem zzh{c:Cse}{f_:Fld}{x:Thr}{ca100 ca103:C}{m f:M}{Q:V->M->Prop}{rz:OcR}(hS:Pre f m)(ha100:Sl f ca100 c.Tariffs)(ha103:Sl f ca103 c.Fields)(hp:zuE c f_ x=some rz)(hq:∀m',Ext m m'->Q (.agg 3 [Il rz.Pay,.bool rz.Called,Il rz.Lost]) m'):Wc prog tbl 60 [.agg 4 [ca100,Il c.Day,Il c.Fee,ca103],.agg 9 [Il f_.Crop,Il f_.Value,Il f_.Near,Il f_.First.Lo,Il f_.First.Hi,Il f_.Second.Lo,Il f_.Second.Hi,Il f_.Umpire.Lo,Il f_.Umpire.Hi],.agg 3 [Il x.First,Il x.Second,Il x.Umpire]] m Q:=by
 have S0:=hS.st;obtain⟨τ0,_⟩:=zrD;refine w60 ?_;unfold zuE at hp;intro m0 Aa;obtain⟨Ba,Ca,Gc,Da⟩:=S0.blk Aa τ0 1;intro m1 Ea;obtain⟨Fa,Ga,Ha,Ia⟩:=Ca.blk Ea Ba 2;have Ja:=Da.k Ha;intro m2 Ka;obtain⟨La,Ma,O,Na⟩:=Ga.blk Ka Fa 3;have Oa:=Ja.k O;have Pa:=Ia.k O;intro m3 Qa;obtain⟨P,S,t,Ra⟩:=Ma.blk Qa La 4;have Sa:=Oa.k t;have T:=Pa.k t;have Y:=Na.k t;refine⟨_,_,_,_,_,_,_,_,_,T.bk.ra,_,_,_,Y.bk.ra,?_⟩;obtain⟨h,Ta,hp⟩:=zqd hp;refine zzf (f_:=f_) (x:=x) S.pre  Ta fun Zc Ua=>?_;obtain⟨Va,l⟩:=S.call Ua P;have Wa:=Sa.k l;have Xa:=T.k l;have Ya:=Y.k l;have Za:=Ra.k l;refine⟨_,rfl,?_⟩;intro ad ab;obtain⟨g,Z,n,za⟩:=Va.growK ab P 5;have aa:=Wa.k n;have u:=Xa.k n;have ba:=Ya.k n;have bb:=Za.k n;have cb:=za 0 (by decide);refine⟨_,_,_,_,aa.bk.ra,_,_,_,_,_,_,_,_,_,u.bk.ra,?_⟩;obtain⟨d,db,hp⟩:=zqd hp;refine zzg (c:=c) (f_:=f_) (count:=h) Z.pre ha100 ha103 db fun bd eb=>?_;obtain⟨ca,i⟩:=Z.call eb g;have fb:=aa.k i;have da:=u.k i;have ea:=ba.k i;have gb:=bb.k i;have hb:=cb.k i;refine⟨_,rfl,_,_,_,_,_,_,_,_,_,da.bk.ra,(u.bk.ra),_,_,_,ea.bk.ra,(ba.bk.ra),?_⟩;obtain⟨e,ib,hp⟩:=zqd hp;refine zze (f_:=f_) (x:=x) ca.pre  ib fun cd jb=>?_;obtain⟨kb,j⟩:=ca.call jb g;have mb:=fb.k j;have ob:=da.k j;have pb:=ea.k j;have qb:=gb.k j;have rb:=hb.k j;refine⟨_,rfl,?_⟩;intro dd sb;obtain⟨tb,o,ub⟩:=rb.set kb sb;have vb:=mb.k o;have fa:=ob.k o;have ga:=pb.k o;have wb:=qb.k o;refine⟨(ga.bk.ra),(fa.bk.ra),(fa.bk.ra),(by rw[show zaL cmC _=true from zoN (zqh ha100.noFn (zqh rfl (zqh rfl (zqh ha103.noFn zqi))))]; exact(vb.bk.ra)),?_⟩
 obtain⟨xb,yb,w,ha,p⟩:=ub.sto tb [Il d,.bool e,Il 0];have y:=ga.k ha;have ia:=wb.k ha;refine⟨xb,yb,?_⟩;refine⟨trivial,_,p.bk.rc rfl,?_⟩;refine zqS hp (fun q hp=>?_) fun q hp=>?_; rotate_left
 ·refine⟨trivial,_,p.bk.rc rfl,?_⟩;refine zqV q ?_;refine⟨_,_,_,p.bk.ra,?_⟩;obtain⟨zb,Ab,Bb,Hc,Cb⟩:=ia.sto w [Il d,.bool e,Il 0];refine⟨zb,Ab,?_⟩;refine⟨_,_,_,Cb.bk.ra,?_⟩;obtain rfl:=oi hp;exact hq _ Bb.ext'
 refine⟨trivial,_,y.bk.rc rfl,?_⟩;obtain⟨Ic,Db,hp⟩:=zqd hp;refine zzd (a:=x.First) (b:=h) w.pre  Db fun ed Eb=>?_;obtain⟨ja,z⟩:=w.call Eb g;have ka:=y.k z;have Fb:=ia.k z;have Gb:=p.k z;refine⟨_,rfl,trivial,_,ka.bk.rc rfl,(y.bk.rc rfl),?_⟩;obtain⟨Jc,Hb,hp⟩:=zqd hp;refine zzd (a:=x.Second) (b:=h) ja.pre  Hb fun fd Ib=>?_;obtain⟨A,B⟩:=ja.call Ib g;have r:=ka.k B;have la:=Fb.k B;have D:=Gb.k B;refine⟨_,rfl,?_⟩;refine ifd hp (fun Jb hp=>?_) fun Jb hp=>?_; rotate_left
 ·refine⟨trivial,_,D.bk.rc rfl,?_⟩;refine zqU q ?_;refine⟨trivial,_,r.bk.rc rfl,?_⟩;obtain⟨Kc,Kb,hp⟩:=zqd hp;refine zzd (a:=x.Second) (b:=h) A.pre  Kb fun hd Mb=>?_;obtain⟨ma,F⟩:=A.call Mb g;have Nb:=r.k F;have Ob:=la.k F;have Pb:=D.k F;refine⟨_,rfl,trivial,_,Nb.bk.rc rfl,(r.bk.rc rfl),?_⟩;obtain⟨Lc,Qb,hp⟩:=zqd hp;refine zzd (a:=x.First) (b:=h) ma.pre  Qb fun Yc Rb=>?_;obtain⟨na,oa⟩:=ma.call Rb g;have pa:=Ob.k oa;have qa:=Pb.k oa;refine⟨_,rfl,?_⟩;refine ifd hp (fun Sb hp=>?_) fun Sb hp=>?_; rotate_left
  ·refine⟨_,_,_,qa.bk.ra,?_⟩;obtain⟨Tb,Ub,Vb,Nc,Wb⟩:=pa.sto na [Il d,.bool e,Il 0];refine⟨Tb,Ub,?_⟩;refine⟨_,_,_,Wb.bk.ra,?_⟩;obtain rfl:=oi hp;exact hq _ Vb.ext'
  refine⟨trivial,?_⟩;obtain⟨Xb,Yb,Zb,ac,G⟩:=qa.sto1 na 2 (Il (-1:Int)) (by simp) rfl
  replace G:Lb _ _ _ _ _ _ _ [Il d,.bool e,(Il (-1:Int))]:=G
  have bc:=pa.k ac;refine⟨Xb,Yb,?_⟩;refine⟨_,_,_,G.bk.ra,?_⟩;obtain⟨cc,dc,ec,Pc,fc⟩:=bc.sto Zb [Il d,.bool e,(Il (-1:Int))];refine⟨cc,dc,?_⟩;refine⟨_,_,_,fc.bk.ra,?_⟩;obtain rfl:=oi hp;exact hq _ ec.ext'
 refine⟨trivial,?_⟩;obtain⟨gc,hc,sa,ta,s⟩:=D.sto1 A 2 (Il (1:Int)) (by simp) rfl
 replace s:Lb _ _ _ _ _ _ _ [Il d,.bool e,(Il (1:Int))]:=s
 have I:=r.k ta;have ic:=la.k ta;refine⟨gc,hc,?_⟩;refine⟨trivial,_,s.bk.rc rfl,?_⟩;refine zqU q ?_;refine⟨trivial,_,I.bk.rc rfl,?_⟩;obtain⟨Qc,jc,hp⟩:=zqd hp;refine zzd (a:=x.Second) (b:=h) sa.pre  jc fun id kc=>?_;obtain⟨ua,J⟩:=sa.call kc g;have lc:=I.k J;have nc:=ic.k J;have oc:=s.k J;refine⟨_,rfl,trivial,_,lc.bk.rc rfl,(I.bk.rc rfl),?_⟩;obtain⟨Rc,pc,hp⟩:=zqd hp;refine zzd (a:=x.First) (b:=h) ua.pre  pc fun jd qc=>?_;obtain⟨va,wa⟩:=ua.call qc g;have xa:=nc.k wa;have ya:=oc.k wa;refine⟨_,rfl,?_⟩;refine ifd hp (fun sc hp=>?_) fun sc hp=>?_; rotate_left
 ·refine⟨_,_,_,ya.bk.ra,?_⟩;obtain⟨tc,uc,vc,Tc,wc⟩:=xa.sto va [Il d,.bool e,(Il (1:Int))];refine⟨tc,uc,?_⟩;refine⟨_,_,_,wc.bk.ra,?_⟩;obtain rfl:=oi hp;exact hq _ vc.ext'
 refine⟨trivial,?_⟩;obtain⟨xc,yc,zc,Ac,N⟩:=ya.sto1 va 2 (Il (-1:Int)) (by simp) rfl
 replace N:Lb _ _ _ _ _ _ _ [Il d,.bool e,(Il (-1:Int))]:=N
 have Bc:=xa.k Ac;refine⟨xc,yc,?_⟩;refine⟨_,_,_,N.bk.ra,?_⟩;obtain⟨Cc,Dc,Ec,Uc,Fc⟩:=Bc.sto zc [Il d,.bool e,(Il (-1:Int))];refine⟨Cc,Dc,?_⟩;refine⟨_,_,_,Fc.bk.ra,?_⟩;obtain rfl:=oi hp;exact hq _ Ec.ext'
theorem zzi{c:Cse}{l:List OcR}{ca100 ca103 ca200:C}{m f:M}{Q:V->M->Prop}{rz:Res}(hS:Pre f m)(_ha100:Sl f ca100 c.Tariffs)(_ha103:Sl f ca103 c.Fields)(ha200:Sl f ca200 l)(hp:zuG c l=some rz)(hq:∀m' f' c0,Grw m f m' f'->Sl f' c0 rz.Counts->Q (.agg 4 [c0,Il rz.Award,Il rz.Farmer,Il rz.Society]) m'):Wc prog tbl 62 [.agg 4 [ca100,Il c.Day,Il c.Fee,ca103],.c ca200] m Q:=by
 have S0:=hS.st;obtain⟨τ0,_⟩:=zrD;refine w62 ?_;unfold zuG at hp;intro m0 ba;obtain⟨ca,da,Cb,ea⟩:=S0.blk ba τ0 1;intro m1 fa;obtain⟨ga,ha,ia,ja⟩:=da.blk fa ca 2;have ka:=ea.k ia;intro m2 la;obtain⟨ma,na,G,b⟩:=ha.blk la ga 3;have e:=ka.k G;have g:=ja.k G;intro R3 yb
 have hgo:∀(o:Nat) (b4:Bool) (x5:Int) (x6:Int) (a:Int) (d:Int) (h:Int) (F:M) (i:Nat->Nat),St (Fm.of m) f f F->Lb (Fm.of m) f i F 1 m.nxt 4 [ca100,Il c.Day,Il c.Fee,ca103]->Lb (Fm.of m) f i F 2 m0.nxt 4 [.sl0,Il 0,Il 0,Il 0]->Lb (Fm.of m) f i F 3 m1.nxt 4 [.sl0,Il a,Il d,Il h]->zuF c l o a d h b4 x5 x6=some rz->R3 [.c (.bool b4),.c (Il x5),.c (Il x6)] F:=by
  intro o
  induction o with
  | zero=>intro b4 x5 x6 a d h F i j e g b hp; cases hp
  | succ o S=>
   intro b4 x5 x6 a d h F i j e g b hp;refine yb _ _ _ _ ?_;rw[zuF] at hp;refine⟨ha200.isSl,?_⟩
   try rw[ha200.slLen]
   refine ifd hp (fun sa hp=>?_) fun sa hp=>?_
   ·refine⟨trivial,_,b.bk.rc rfl,?_⟩;obtain⟨I,p,hp⟩:=zqd hp;obtain⟨n9,T,z,p⟩:=zp7 p;obtain⟨_,ta⟩:=zrO ha200 p;refine⟨n9,T,(by first|exact z|(rw[ha200.slLen];exact z)),(ha200.isPt p _),_,((ta _ j.sub).2.1 0 _ rfl),?_⟩;obtain⟨ua,hp⟩:=zqe hp;refine⟨ua,trivial,?_⟩;obtain⟨va,wa,n,J,q⟩:=b.sto1 j 1 (Il (a+I.Pay)) (by simp) rfl
    replace q:Lb _ _ _ _ _ _ _ [.sl0,(Il (a+I.Pay)),Il d,Il h]:=q
    have N:=e.k J;have O:=g.k J;refine⟨va,wa,?_⟩;refine zqS hp (fun xa hp=>?_) fun xa hp=>?_
    ·obtain⟨Db,r,hp⟩:=zqd hp;obtain⟨zb,Y,A,r⟩:=zp7 r;obtain⟨_,ya⟩:=zrO ha200 r;refine⟨zb,Y,(by first|exact A|(rw[ha200.slLen];exact A)),(ha200.isPt r _),_,((ya _ n.sub).2.1 2 _ rfl),?_⟩;refine gdi hp fun za hp=>?_;refine gdi hp fun Aa hp=>?_;exact S _ _ _ _ _ _ _ i n N O q hp
    obtain⟨Eb,s,hp⟩:=zqd hp;obtain⟨Ab,Z,B,s⟩:=zp7 s;obtain⟨_,Ba⟩:=zrO ha200 s;refine⟨Ab,Z,(by first|exact B|(rw[ha200.slLen];exact B)),(ha200.isPt s _),_,((Ba _ n.sub).2.1 1 _ rfl),?_⟩;obtain⟨Fb,t,hp⟩:=zqd hp;obtain⟨Bb,aa,D,t⟩:=zp7 t;obtain⟨_,Ca⟩:=zrO ha200 t;refine⟨Bb,aa,(by first|exact D|(rw[ha200.slLen];exact D)),(ha200.isPt t _),_,((Ca _ n.sub).2.1 2 _ rfl),?_⟩;refine gdi hp fun Da hp=>?_;refine gdi hp fun Ea hp=>?_;exact S _ _ _ _ _ _ _ i n N O q hp
   refine zqT hp (fun Fa hp=>?_) fun Fa hp=>?_
   ·refine⟨_,_,_,_,b.bk.ra,?_⟩;obtain⟨Ga,Ha,Ia,Gb,Ja⟩:=g.sto j [.sl0,Il a,Il d,Il h];refine⟨Ga,Ha,?_⟩;refine⟨_,_,_,_,Ja.bk.ra,?_⟩;obtain rfl:=oi hp;exact hq _ f .sl0 Ia.grw (Sl.nil _)
   refine ifd hp (fun Ka hp=>?_) fun Ka hp=>?_
   ·refine⟨trivial,_,e.bk.rc rfl,trivial,?_⟩;obtain⟨La,Ma,Na,Oa,w⟩:=b.sto1 j 2 (Il c.Fee) (by simp) rfl
    replace w:Lb _ _ _ _ _ _ _ [.sl0,Il a,Il c.Fee,Il h]:=w
    have Pa:=g.k Oa;refine⟨La,Ma,?_⟩;refine⟨_,_,_,_,w.bk.ra,?_⟩;obtain⟨Qa,Ra,Sa,Hb,Ta⟩:=Pa.sto Na [.sl0,Il a,Il c.Fee,Il h];refine⟨Qa,Ra,?_⟩;refine⟨_,_,_,_,Ta.bk.ra,?_⟩;obtain rfl:=oi hp;exact hq _ f .sl0 Sa.grw (Sl.nil _)
   refine ifd hp (fun Ua hp=>?_) fun Ua hp=>?_
   ·refine⟨trivial,_,e.bk.rc rfl,trivial,?_⟩;obtain⟨Va,Wa,Xa,Ya,x⟩:=b.sto1 j 3 (Il c.Fee) (by simp) rfl
    replace x:Lb _ _ _ _ _ _ _ [.sl0,Il a,Il d,Il c.Fee]:=x
    have Za:=g.k Ya;refine⟨Va,Wa,?_⟩;refine⟨_,_,_,_,x.bk.ra,?_⟩;obtain⟨ab,bb,cb,Ib,db⟩:=Za.sto Xa [.sl0,Il a,Il d,Il c.Fee];refine⟨ab,bb,?_⟩;refine⟨_,_,_,_,db.bk.ra,?_⟩;obtain rfl:=oi hp;exact hq _ f .sl0 cb.grw (Sl.nil _)
   refine⟨trivial,_,e.bk.rc rfl,?_⟩;refine gdi hp fun eb hp=>?_;refine gdi hp fun fb hp=>?_;obtain⟨gb,hp⟩:=zqe hp;refine⟨gb,trivial,?_⟩;obtain⟨hb,ib,jb,P,u⟩:=b.sto1 j 3 (Il (c.Fee / (2:Int))) (by simp) rfl
   replace u:Lb _ _ _ _ _ _ _ [.sl0,Il a,Il d,(Il (c.Fee / (2:Int)))]:=u
   have kb:=e.k P;have mb:=g.k P;refine⟨hb,ib,?_⟩;refine⟨trivial,_,kb.bk.rc rfl,trivial,_,u.bk.rc rfl,?_⟩;obtain⟨ob,hp⟩:=zqe hp;refine⟨ob,trivial,?_⟩;obtain⟨pb,qb,rb,sb,y⟩:=u.sto1 jb 2 (Il (c.Fee - (c.Fee / (2:Int)))) (by simp) rfl
   replace y:Lb _ _ _ _ _ _ _ [.sl0,Il a,(Il (c.Fee - (c.Fee / (2:Int)))),(Il (c.Fee / (2:Int)))]:=y
   have tb:=mb.k sb;refine⟨pb,qb,?_⟩;refine⟨_,_,_,_,y.bk.ra,?_⟩;obtain⟨ub,vb,wb,Jb,xb⟩:=tb.sto rb [.sl0,Il a,(Il (c.Fee - (c.Fee / (2:Int)))),(Il (c.Fee / (2:Int)))];refine⟨ub,vb,?_⟩;refine⟨_,_,_,_,xb.bk.ra,?_⟩;obtain rfl:=oi hp;exact hq _ f .sl0 wb.grw (Sl.nil _)
 exact hgo _ _ _ _ _ _ _ _ ma na e g b hp
theorem zzj{f_:Fld}{m f:M}{Q:V->M->Prop}{rz:List Thr}(hS:Pre f m)(hp:zuM f_=some rz)(hq:∀m' f' c0,Grw m f m' f'->Sl f' c0 rz->Q (.c c0) m'):Wc prog tbl 49 [.agg 9 [Il f_.Crop,Il f_.Value,Il f_.Near,Il f_.First.Lo,Il f_.First.Hi,Il f_.Second.Lo,Il f_.Second.Hi,Il f_.Umpire.Lo,Il f_.Umpire.Hi]] m Q:=by
 have S0:=hS.st;obtain⟨τ0,_⟩:=zrD;refine w49 ?_;unfold zuM at hp;intro m0 G;obtain⟨I,J,va,b⟩:=S0.blk G τ0 1;refine⟨trivial,trivial,_,b.bk.rc rfl,?_⟩;intro R2 sa
 have hgo:∀(d:Nat) (F:C) (t:Int) (j:List Thr) (D:M) (g:Nat->Nat),St (Fm.of m) f f D->Lb (Fm.of m) f g D 1 m.nxt 9 [Il f_.Crop,Il f_.Value,Il f_.Near,Il f_.First.Lo,Il f_.First.Hi,Il f_.Second.Lo,Il f_.Second.Hi,Il f_.Umpire.Lo,Il f_.Umpire.Hi]->Ow (Fm.of m) f g D 2 F j->zuL f_ d j t=some rz->R2 [.c F,.c (Il t)] D:=by
  intro d
  induction d with
  | zero=>intro F t j D g u b w hp; cases hp
  | succ d oa=>
   intro F t j D g u b w hp;refine sa _ _ _ ?_;rw[zuL] at hp;refine⟨trivial,trivial,_,b.bk.rc rfl,?_⟩;refine ifd hp (fun N hp=>?_) fun N hp=>?_; rotate_left
   ·obtain⟨O,P,wa,S⟩:=w.freeze u;obtain rfl:=oi hp;exact hq _ O F P.grw S
   refine⟨trivial,trivial,_,b.bk.rc rfl,?_⟩;intro R8 ta
   have hgo:∀(h:Nat) (T:C) (p:Int) (l:List Thr) (q:M) (e:Nat->Nat),St (Fm.of m) f f q->Lb (Fm.of m) f e q 1 m.nxt 9 [Il f_.Crop,Il f_.Value,Il f_.Near,Il f_.First.Lo,Il f_.First.Hi,Il f_.Second.Lo,Il f_.Second.Hi,Il f_.Umpire.Lo,Il f_.Umpire.Hi]->Ow (Fm.of m) f e q 2 T l->zuK f_ t (zuL f_ d) h l p=some rz->R8 [.c T,.c (Il p)] q:=by
    intro h
    induction h with
    | zero=>intro T p l q e x b y hp; cases hp
    | succ h pa=>
     intro T p l q e x b y hp;refine ta _ _ _ ?_;rw[zuK] at hp;refine⟨trivial,trivial,_,b.bk.rc rfl,?_⟩;refine ifd hp (fun Y hp=>?_) fun Y hp=>?_; rotate_left
     ·refine gdi hp fun Z hp=>?_;exact oa _ _ _ _ e x b y hp
     refine⟨trivial,trivial,_,b.bk.rc rfl,?_⟩;intro ua qa
     have hgo:∀(n:Nat) (B:C) (r:Int) (o:List Thr) (s:M) (i:Nat->Nat),St (Fm.of m) f f s->Lb (Fm.of m) f i s 1 m.nxt 9 [Il f_.Crop,Il f_.Value,Il f_.Near,Il f_.First.Lo,Il f_.First.Hi,Il f_.Second.Lo,Il f_.Second.Hi,Il f_.Umpire.Lo,Il f_.Umpire.Hi]->Ow (Fm.of m) f i s 2 B o->zuJ f_ t p (zuK f_ t (zuL f_ d) h) n o r=some rz->ua [.c B,.c (Il r)] s:=by
      intro n
      induction n with
      | zero=>intro B r o s i z b A hp; cases hp
      | succ n aa=>
       intro B r o s i z b A hp;refine qa _ _ _ ?_;rw[zuJ] at hp;refine⟨trivial,trivial,_,b.bk.rc rfl,?_⟩;refine ifd hp (fun ba hp=>?_) fun ba hp=>?_; rotate_left
       ·refine gdi hp fun ca hp=>?_;exact pa _ _ _ _ i z b A hp
       obtain⟨da,hp⟩:=zqe hp;intro Ba ea;obtain⟨fa,ga,ha,ia,ja,ka,la⟩:=A.app' zw3 z (a:=({ First:=t,Second:=p,Umpire:=r }:Thr)) (show Rp.rep (α:=Thr) f _ ({ First:=t,Second:=p,Umpire:=r }:Thr) from rfl) da ea;have ma:=b.k ka;refine⟨fa,ga,ia,?_⟩;refine gdi hp fun na hp=>?_;exact aa _ _ _ _ ha ja ma la hp
     exact hgo _ _ _ _ _ e x b y hp
   exact hgo _ _ _ _ _ g u b w hp
 exact hgo _ _ _ _ _ I J b (Ow.nil _ _ _ _ _) hp
theorem zzk{r:Rg}{n:Int}{m f:M}{Q:V->M->Prop}{rz:Rg}(hS:Pre f m)(hp:zuN r n=some rz)(hq:∀m',Ext m m'->Q (.agg 2 [Il rz.Lo,Il rz.Hi]) m'):Wc prog tbl 76 [.agg 2 [Il r.Lo,Il r.Hi],.c (Il n)] m Q:=by
 have x:=hS.st;obtain⟨y,_⟩:=zrD;refine w76 ?_;unfold zuN at hp;intro z b;obtain⟨d,e,t,g⟩:=x.blk b y 1;intro A h;obtain⟨u,i,j,l⟩:=e.blk h d 2;have a:=g.k j;refine⟨trivial,_,a.bk.rc rfl,trivial,_,a.bk.rc rfl,?_⟩;obtain⟨o,p,q,w,s⟩:=l.sto i [(Il (min r.Lo n)),(Il (max r.Hi n))];refine⟨o,p,?_⟩;refine⟨_,_,s.bk.ra,?_⟩;obtain rfl:=oi hp;exact hq _ q.ext'
theorem zzl{c:Cse}{f_:Fld}{ca100 ca103:C}{m f:M}{Q:V->M->Prop}{rz:Bool}(hS:Pre f m)(ha100:Sl f ca100 c.Tariffs)(ha103:Sl f ca103 c.Fields)(hp:zuQ c f_=some rz)(hq:∀m',Ext m m'->Q (.c (.bool rz)) m'):Wc prog tbl 77 [.agg 4 [ca100,Il c.Day,Il c.Fee,ca103],.agg 9 [Il f_.Crop,Il f_.Value,Il f_.Near,Il f_.First.Lo,Il f_.First.Hi,Il f_.Second.Lo,Il f_.Second.Hi,Il f_.Umpire.Lo,Il f_.Umpire.Hi]] m Q:=by
 have S0:=hS.st;obtain⟨τ0,_⟩:=zrD;refine w77 ?_;unfold zuQ at hp;intro m0 na;obtain⟨oa,pa,gb,qa⟩:=S0.blk na τ0 1;intro m1 sa;obtain⟨P,S,ta,T⟩:=pa.blk sa oa 2;have ua:=qa.k ta;refine⟨_,_,_,_,_,_,_,_,_,T.bk.ra,?_⟩;obtain⟨u,va,hp⟩:=zqd hp;refine zzj (f_:=f_) S.pre  va fun sb h hb wa a=>?_;obtain⟨xa,i⟩:=S.callG wa P;have b:=ua.k i;have d:=T.k i;refine⟨_,rfl,?_⟩;intro Ya Va
 have hgo:∀(j:Nat) (Y:Bool) (D:Int) (s:M) (l:Nat->Nat),St (Fm.of m) f h s->Lb (Fm.of m) h l s 1 m.nxt 4 [ca100,Il c.Day,Il c.Fee,ca103]->Lb (Fm.of m) h l s 2 m0.nxt 9 [Il f_.Crop,Il f_.Value,Il f_.Near,Il f_.First.Lo,Il f_.First.Hi,Il f_.Second.Lo,Il f_.Second.Hi,Il f_.Umpire.Lo,Il f_.Umpire.Hi]->zuP c f_ u j Y D=some rz->Ya [.c (.bool Y),.c (Il D)] s:=by
  intro j
  induction j with
  | zero=>intro Y D s l w b d hp; cases hp
  | succ j ya=>
   intro Y D s l w b d hp;refine Va _ _ _ ?_;rw[zuP] at hp;refine⟨a.isSl,?_⟩
   try rw[a.slLen]
   refine ifd hp (fun za hp=>?_) fun za hp=>?_; rotate_left
   ·obtain rfl:=oi hp;exact hq _ w.ext'
   intro Za Wa
   have hgo:∀(n:Nat) (Z:Bool) (aa:Int) (t:M) (g:Nat->Nat),St (Fm.of m) f h t->Lb (Fm.of m) h g t 1 m.nxt 4 [ca100,Il c.Day,Il c.Fee,ca103]->Lb (Fm.of m) h g t 2 m0.nxt 9 [Il f_.Crop,Il f_.Value,Il f_.Near,Il f_.First.Lo,Il f_.First.Hi,Il f_.Second.Lo,Il f_.Second.Hi,Il f_.Umpire.Lo,Il f_.Umpire.Hi]->zuO c f_ u D (zuP c f_ u j) n Z aa=some rz->Za [.c (.bool Z),.c (Il aa)] t:=by
    intro n
    induction n with
    | zero=>intro Z aa t g e b d hp; cases hp
    | succ n y=>
     intro Z aa t g e b d hp;refine Wa _ _ _ ?_;rw[zuO] at hp;refine⟨a.isSl,?_⟩
     try rw[a.slLen]
     refine ifd hp (fun Aa hp=>?_) fun Aa hp=>?_; rotate_left
     ·refine gdi hp fun Ba hp=>?_;exact ya _ _ _ g e b d hp
     obtain⟨ib,o,hp⟩:=zqd hp;obtain⟨ab,ha,F,o⟩:=zp7 o;obtain⟨_,Ca⟩:=zrM a o;refine⟨ab,ha,(by first|exact F|(rw[a.slLen];exact F)),(a.isPt o _),_,((Ca _ e.sub).2.1 0 _ rfl),?_⟩;obtain⟨jb,p,hp⟩:=zqd hp;obtain⟨bb,ia,G,p⟩:=zp7 p;obtain⟨_,Da⟩:=zrM a p;refine⟨bb,ia,(by first|exact G|(rw[a.slLen];exact G)),(a.isPt p _),_,((Da _ e.sub).2.1 0 _ rfl),?_⟩;refine ifd hp (fun Ea hp=>?_) fun Ea hp=>?_; rotate_left
     ·refine gdi hp fun Fa hp=>?_;exact y _ _ _ g e b d hp
     obtain⟨kb,q,hp⟩:=zqd hp;obtain⟨cb,ja,I,q⟩:=zp7 q;obtain⟨_,Ga⟩:=zrM a q;refine⟨cb,ja,(by first|exact I|(rw[a.slLen];exact I)),(a.isPt q _),_,((Ga _ e.sub).2.1 1 _ rfl),?_⟩;obtain⟨mb,r,hp⟩:=zqd hp;obtain⟨db,ka,J,r⟩:=zp7 r;obtain⟨_,Ha⟩:=zrM a r;refine⟨db,ka,(by first|exact J|(rw[a.slLen];exact J)),(a.isPt r _),_,((Ha _ e.sub).2.1 1 _ rfl),?_⟩;refine ifd hp (fun Ia hp=>?_) fun Ia hp=>?_; rotate_left
     ·refine gdi hp fun Ja hp=>?_;exact y _ _ _ g e b d hp
     refine⟨_,_,_,_,b.bk.ra,_,_,_,_,_,_,_,_,_,d.bk.ra,?_⟩;obtain⟨Ka,z,hp⟩:=zqd hp;obtain⟨eb,la,N,z⟩:=zp7 z;obtain⟨_,La⟩:=zrM a z;refine⟨eb,la,(by first|exact N|(rw[a.slLen];exact N)),_,_,_,(La _ e.sub).1,?_⟩;obtain⟨ob,Ma,hp⟩:=zqd hp;refine zzh (c:=c) (f_:=f_) (x:=Ka) e.pre (ha100.sub i.fs) (ha103.sub i.fs) Ma fun tb Na=>?_;obtain⟨A,ba⟩:=e.call Na g;have ca:=b.k ba;have da:=d.k ba;refine⟨_,_,_,rfl,_,_,_,_,ca.bk.ra,(by rw[show zaL cmC _=true from zoN (zqh ha100.noFn (zqh rfl (zqh rfl (zqh ha103.noFn zqi))))]; exact(b.bk.ra)),_,_,_,_,_,_,_,_,_,da.bk.ra,(d.bk.ra),?_⟩;obtain⟨Oa,B,hp⟩:=zqd hp;obtain⟨fb,ma,O,B⟩:=zp7 B;obtain⟨_,ea⟩:=zrM a B;refine⟨fb,ma,(by first|exact O|(rw[a.slLen];exact O)),_,_,_,(ea _ A.sub).1,(ea _ e.sub).1,?_⟩;obtain⟨pb,Pa,hp⟩:=zqd hp;refine zzh (c:=c) (f_:=f_) (x:=Oa) A.pre (ha100.sub i.fs) (ha103.sub i.fs) Pa fun ub Qa=>?_;obtain⟨fa,ga⟩:=A.call Qa g;have Ra:=ca.k ga;have Sa:=da.k ga;refine⟨_,_,_,rfl,?_⟩;refine zqR hp (fun Ta hp=>?_) fun Ta hp=>?_
     ·obtain rfl:=oi hp;exact hq _ fa.ext'
     refine gdi hp fun Ua hp=>?_;exact y _ _ _ g fa Ra Sa hp
   exact hgo _ _ _ _ l w b d hp
 exact hgo _ _ _ _ P xa b d hp
theorem zzm{c:Cse}{ca100 ca103:C}{m f:M}{Q:V->M->Prop}{rz:List Int}(hS:Pre f m)(ha100:Sl f ca100 c.Tariffs)(ha103:Sl f ca103 c.Fields)(hp:zuS c=some rz)(hq:∀m' f' c0,Grw m f m' f'->Sl f' c0 rz->Q (.c c0) m'):Wc prog tbl 39 [.agg 4 [ca100,Il c.Day,Il c.Fee,ca103]] m Q:=by
 have S0:=hS.st;obtain⟨τ0,_⟩:=zrD;refine w39 ?_;unfold zuS at hp;intro m0 w;obtain⟨x,y,ia,b⟩:=S0.blk w τ0 1;intro R1 ga
 have hgo:∀(h:Nat) (s:C) (q:Int) (i:List Int) (r:M) (d:Nat->Nat),St (Fm.of m) f f r->Lb (Fm.of m) f d r 1 m.nxt 4 [ca100,Il c.Day,Il c.Fee,ca103]->Ow (Fm.of m) f d r 2 s i->zuR c h i q=some rz->R1 [.c s,.c (Il q)] r:=by
  intro h
  induction h with
  | zero=>intro s q i r d g b e hp; cases hp
  | succ h t=>
   intro s q i r d g b e hp;refine ga _ _ _ ?_;rw[zuR] at hp;refine⟨trivial,_,b.bk.rc rfl,ha103.isSl,?_⟩
   try rw[ha103.slLen]
   refine ifd hp (fun z hp=>?_) fun z hp=>?_; rotate_left
   ·obtain⟨A,B,ja,D⟩:=e.freeze g;obtain rfl:=oi hp;exact hq _ A s B.grw D
   refine⟨_,_,_,_,b.bk.ra,trivial,_,b.bk.rc rfl,?_⟩;obtain⟨F,j,hp⟩:=zqd hp;obtain⟨ha,u,l,j⟩:=zp7 j;obtain⟨_,G⟩:=zrK ha103 j;refine⟨ha,u,(by first|exact l|(rw[ha103.slLen];exact l)),_,_,_,_,_,_,_,_,_,(G _ g.sub).1,?_⟩;obtain⟨ka,I,hp⟩:=zqd hp;refine zzl (c:=c) (f_:=F) g.pre ha100 ha103 I fun oa J=>?_;obtain⟨n,o⟩:=g.call J d;have p:=b.k o;have e:=e.k o;refine⟨_,rfl,?_⟩;refine zqS hp (fun N hp=>?_) fun N hp=>?_; rotate_left
   ·refine gdi hp fun O hp=>?_;exact t _ _ _ _ d n p e hp
   obtain⟨P,hp⟩:=zqe hp;intro pa S;obtain⟨T,Y,Z,aa,ba,ca,da⟩:=e.app' zw4 n (a:=q) (show Rp.rep (α:=Int) f _ q from rfl) P S;have ea:=p.k ca;refine⟨T,Y,aa,?_⟩;refine gdi hp fun fa hp=>?_;exact t _ _ _ _ Z ba ea da hp
 exact hgo _ _ _ _ _ x y b (Ow.nil _ _ _ _ _) hp
theorem zzn{r:Rg}{m f:M}{Q:V->M->Prop}{rz:Rg}(hS:Pre f m)(hp:zuT r=some rz)(hq:∀m',Ext m m'->Q (.agg 2 [Il rz.Lo,Il rz.Hi]) m'):Wc prog tbl 38 [.agg 2 [Il r.Lo,Il r.Hi]] m Q:=by
 have u:=hS.st;obtain⟨w,_⟩:=zrD;refine w38 ?_;unfold zuT at hp;intro x b;obtain⟨c,d,q,e⟩:=u.blk b w 1;intro y g;obtain⟨s,h,i,j⟩:=d.blk g c 2;have a:=e.k i;refine⟨trivial,_,a.bk.rc rfl,trivial,_,a.bk.rc rfl,?_⟩;obtain⟨l,n,o,t,p⟩:=j.sto h [Il r.Lo,Il r.Hi];refine⟨l,n,?_⟩;refine⟨_,_,p.bk.ra,?_⟩;obtain rfl:=oi hp;exact hq _ o.ext'
theorem zzo{c:Cse}{ca100 ca103:C}{m f:M}{Q:V->M->Prop}{rz:Cse}(hS:Pre f m)(ha100:Sl f ca100 c.Tariffs)(ha103:Sl f ca103 c.Fields)(hp:zuV c=some rz)(hq:∀m' f' c0 c3,Grw m f m' f'->Sl f' c0 rz.Tariffs->Sl f' c3 rz.Fields->Q (.agg 4 [c0,Il rz.Day,Il rz.Fee,c3]) m'):Wc prog tbl 19 [.agg 4 [ca100,Il c.Day,Il c.Fee,ca103]] m Q:=by
 have S0:=hS.st;obtain⟨τ0,_⟩:=zrD;refine w19 ?_;unfold zuV at hp;intro m0 za;obtain⟨Aa,Ba,dc,Ca⟩:=S0.blk za τ0 1;intro m1 Da;obtain⟨Ea,Fa,Ga,Ha⟩:=Ba.blk Da Aa 2;have Ia:=Ca.k Ga;intro m2 Ja;obtain⟨ga,ha,ia,xa⟩:=Fa.growK Ja Ea 3;have B:=Ia.k ia;have Ka:=Ha.k ia;have La:=xa 0 (by decide);refine⟨trivial,_,B.bk.rc rfl,?_⟩;obtain⟨Ma,Na,hp⟩:=zqd hp;refine zxn (l:=c.Tariffs) ha.pre ha100 Na fun m5 h s Oa Pa=>?_;obtain⟨Qa,D⟩:=ha.callG Oa ga;have P:=B.k D;have Ra:=Ka.k D;have Sa:=La.k D;refine⟨_,rfl,trivial,_,P.bk.rc rfl,(B.bk.rc rfl),trivial,_,P.bk.rc rfl,(B.bk.rc rfl),?_⟩;intro m9 Ta;obtain⟨Ua,ja,Va⟩:=Sa.set Qa Ta;have F:=P.k ja;have Wa:=Ra.k ja;refine⟨(F.bk.rc rfl),(F.bk.rc rfl),(by rw[show cmC _=true from zoM (ha100.noFn)]; exact(F.bk.rc rfl)),?_⟩;obtain⟨Xa,Ya,Za,ka,t⟩:=Va.sto Ua [s,Il c.Day,Il c.Fee,.sl0];have i:=F.k ka;have u:=Wa.k ka;refine⟨Xa,Ya,?_⟩;intro bc ac
 have hgo:∀(G:Nat) (la:Int) (n:C) (o:Int) (p:Int) (I:List Fld) (A:M) (e:Nat->Nat),St (Fm.of m) f h A->Lb (Fm.of m) h e A 1 m.nxt 4 [ca100,Il c.Day,Il c.Fee,ca103]->Lb (Fm.of m) h e A 2 m0.nxt 4 [.sl0,Il 0,Il 0,.sl0]->Lb (Fm.of m) h e A 3 (m1.nxt+0) 4 [s,Il o,Il p,n]->Ow (Fm.of m) h e A 4 n I->zuU c Ma G o p I la=some rz->bc [.c (Il la)] A:=by
  intro G
  induction G with
  | zero=>intro la n o p I A e J i u t b hp; cases hp
  | succ G ab=>
   intro la n o p I A e J i u t b hp;refine ac _ _ ?_;rw[zuU] at hp;refine⟨trivial,_,i.bk.rc rfl,ha103.isSl,?_⟩
   try rw[ha103.slLen]
   refine ifd hp (fun bb hp=>?_) fun bb hp=>?_; rotate_left
   ·refine⟨_,_,_,_,t.bk.ra,?_⟩;obtain⟨cb,db,eb,fb,gb⟩:=u.sto J [s,Il o,Il p,n];have b:=b.k fb;refine⟨cb,db,?_⟩;refine⟨_,_,_,_,gb.bk.ra,?_⟩;obtain⟨hb,ib,jb,kb⟩:=b.freeze eb;obtain rfl:=oi hp;exact hq _ hb s n ib.grw (Pa.sub jb.fs) kb
   refine⟨trivial,_,i.bk.rc rfl,?_⟩;obtain⟨d,S,hp⟩:=zqd hp;obtain⟨cc,ya,fa,S⟩:=zp7 S;obtain⟨_,mb⟩:=zrK ha103 S;refine⟨cc,ya,(by first|exact fa|(rw[ha103.slLen];exact fa)),_,_,_,_,_,_,_,_,_,(mb _ (Sub.trans D.fs J.sub)).1,?_⟩;intro ic ob;obtain⟨T,pb,N,qb⟩:=J.blk ob e 5;have rb:=i.k N;have sb:=u.k N;have tb:=t.k N;have b:=b.k N;obtain⟨ub,vb,ma,O,g⟩:=qb.sto pb [Il d.Crop,Il d.Value,Il d.Near,Il d.First.Lo,Il d.First.Hi,Il d.Second.Lo,Il d.Second.Hi,Il d.Umpire.Lo,Il d.Umpire.Hi];have wb:=rb.k O;have xb:=sb.k O;have na:=tb.k O;have b:=b.k O;refine⟨ub,vb,?_⟩;refine⟨trivial,_,na.bk.rc rfl,trivial,_,g.bk.rc rfl,trivial,_,g.bk.rc rfl,trivial,_,g.bk.rc rfl,trivial,_,_,g.bk.rp (k:=3) (j:=2) rfl (by omega),?_⟩;obtain⟨oa,yb,hp⟩:=zqd hp;refine zzn (r:=d.First) ma.pre  yb fun jc zb=>?_;obtain⟨pa,w⟩:=ma.call zb T;have Ab:=wb.k w;have Bb:=xb.k w;have qa:=na.k w;have q:=g.k w;have b:=b.k w;refine⟨_,_,rfl,(q.bk.rc rfl),(q.bk.rc rfl),(q.bk.rc rfl),(by rw[show cmC _=true from zoM (b.noFn)]; exact(qa.bk.rc rfl)),trivial,_,_,q.bk.rp (k:=5) (j:=2) rfl (by omega),(g.bk.rp (k:=5) (j:=2) rfl (by omega)),?_⟩;obtain⟨sa,Cb,hp⟩:=zqd hp;refine zzn (r:=d.Second) pa.pre  Cb fun kc Db=>?_;obtain⟨ta,x⟩:=pa.call Db T;have Eb:=Ab.k x;have Fb:=Bb.k x;have ua:=qa.k x;have y:=q.k x;have b:=b.k x;refine⟨_,_,rfl,(y.bk.rc rfl),(y.bk.rc rfl),(y.bk.rc rfl),(by rw[show cmC _=true from zoM (b.noFn)]; exact(ua.bk.rc rfl)),trivial,_,_,y.bk.rp (k:=7) (j:=2) rfl (by omega),(q.bk.rp (k:=7) (j:=2) rfl (by omega)),(g.bk.rp (k:=7) (j:=2) rfl (by omega)),?_⟩
   obtain⟨va,Gb,hp⟩:=zqd hp;refine zzn (r:=d.Umpire) ta.pre  Gb fun lc Hb=>?_;obtain⟨Ib,z⟩:=ta.call Hb T;have Jb:=Eb.k z;have Kb:=Fb.k z;have Y:=ua.k z;have Z:=y.k z;have b:=b.k z;refine⟨_,_,rfl,(Z.bk.rc rfl),(Z.bk.rc rfl),(Z.bk.rc rfl),(by rw[show cmC _=true from zoM (b.noFn)]; exact(Y.bk.rc rfl)),?_⟩;obtain⟨Mb,hp⟩:=zqe hp;intro nc wa;refine⟨(by rw[show cmC _=true from zoM (b.noFn)]; exact(Y.bk.ext (Bk.new wa).2).rc rfl),?_⟩;obtain⟨aa,Nb,Ob,Pb,Qb,ba,ca⟩:=b.app' zw6 Ib (a:=({ Crop:=d.Crop,Value:=d.Value,Near:=d.Near,First:=oa,Second:=sa,Umpire:=va }:Fld)) (show Rp.rep (α:=Fld) h _ ({ Crop:=d.Crop,Value:=d.Value,Near:=d.Near,First:=oa,Second:=sa,Umpire:=va }:Fld) from rfl) Mb wa;have Rb:=Jb.k ba;have Sb:=Kb.k ba;have Tb:=Y.k ba;refine⟨aa,Nb,Pb,?_⟩;refine⟨trivial,?_⟩;obtain⟨Ub,Vb,Wb,da,ea⟩:=Tb.sto1 Qb 3 aa (by simp) rfl
   replace ea:Lb _ _ _ _ _ _ _ [s,Il o,Il p,aa]:=ea
   have Xb:=Rb.k da;have Yb:=Sb.k da;have ca:=ca.k da;refine⟨Ub,Vb,?_⟩;refine gdi hp fun Zb hp=>?_;exact ab _ _ _ _ _ _ Ob Wb Xb Yb ea ca hp
 exact hgo _ _ _ _ _ _ _ ga Za i u t (Ow.nil _ _ _ _ _) hp
theorem zzp{c:Cse}{ca100 ca103:C}{m f:M}{Q:V->M->Prop}{rz:Bool}(hS:Pre f m)(ha100:Sl f ca100 c.Tariffs)(ha103:Sl f ca103 c.Fields)(hp:zuW c=some rz)(hq:∀m',Ext m m'->Q (.c (.bool rz)) m'):Wc prog tbl 16 [.agg 4 [ca100,Il c.Day,Il c.Fee,ca103]] m Q:=by
 have r:=hS.st;obtain⟨s,_⟩:=zrD;refine w16 ?_;unfold zuW at hp;intro t e;obtain⟨g,a,p,b⟩:=r.blk e s 1;refine⟨trivial,_,b.bk.rc rfl,?_⟩;obtain⟨q,h,hp⟩:=zqd hp;refine zxm (l:=c.Tariffs) a.pre ha100 h fun u i=>?_;obtain⟨d,j⟩:=a.call i g;have n:=b.k j;refine⟨_,rfl,?_⟩;refine zqS hp (fun o hp=>?_) fun o hp=>?_; rotate_left
 ·obtain rfl:=oi hp;exact hq _ d.ext'
 refine⟨trivial,_,n.bk.rc rfl,ha103.isSl,?_⟩
 try rw[ha103.slLen]
 obtain rfl:=oi hp;exact hq _ d.ext'
theorem zzq{c:Cse}{ca100 ca103:C}{m f:M}{Q:V->M->Prop}{rz:Int}(hS:Pre f m)(ha100:Sl f ca100 c.Tariffs)(ha103:Sl f ca103 c.Fields)(hp:zuX c=some rz)(hq:∀m',Ext m m'->Q (.c (Il rz)) m'):Wc prog tbl 22 [.agg 4 [ca100,Il c.Day,Il c.Fee,ca103]] m Q:=by
 have o:=hS.st;obtain⟨p,_⟩:=zrD;refine w22 ?_;unfold zuX at hp;intro q b;obtain⟨d,a,j,e⟩:=o.blk b p 1;refine⟨_,_,_,_,e.bk.ra,?_⟩;obtain⟨l,g,hp⟩:=zqd hp;refine zzc (c:=c) a.pre ha100 ha103 g fun r h=>?_;obtain⟨i,n⟩:=a.call h d;refine⟨_,rfl,?_⟩;obtain rfl:=oi hp;exact hq _ i.ext'
theorem zzr{a:Res}{b:Res}{ca100 ca200:C}{m f:M}{Q:V->M->Prop}{rz:Bool}(hS:Pre f m)(ha100:Sl f ca100 a.Counts)(ha200:Sl f ca200 b.Counts)(hp:zuY a b=some rz)(hq:∀m',Ext m m'->Q (.c (.bool rz)) m'):Wc prog tbl 25 [.agg 4 [ca100,Il a.Award,Il a.Farmer,Il a.Society],.agg 4 [ca200,Il b.Award,Il b.Farmer,Il b.Society]] m Q:=by
 have D:=hS.st;obtain⟨F,_⟩:=zrD;refine w25 ?_;unfold zuY at hp;intro G n;obtain⟨o,p,A,q⟩:=D.blk n F 1;intro I r;obtain⟨s,h,t,i⟩:=p.blk r o 2;have j:=q.k t;refine⟨trivial,_,j.bk.rc rfl,trivial,_,i.bk.rc rfl,?_⟩;obtain⟨B,u,hp⟩:=zqd hp;refine zxk (a:=a.Counts) (b:=b.Counts) h.pre ha100 ha200 u fun J w=>?_;obtain⟨d,l⟩:=h.call w s;have e:=j.k l;have g:=i.k l;refine⟨_,rfl,?_⟩;refine zqS hp (fun x hp=>?_) fun x hp=>?_; rotate_left
 ·obtain rfl:=oi hp;exact hq _ d.ext'
 refine⟨trivial,_,e.bk.rc rfl,trivial,_,g.bk.rc rfl,?_⟩;refine ifd hp (fun y hp=>?_) fun y hp=>?_; rotate_left
 ·obtain rfl:=oi hp;exact hq _ d.ext'
 refine⟨trivial,_,e.bk.rc rfl,trivial,_,g.bk.rc rfl,?_⟩;refine ifd hp (fun z hp=>?_) fun z hp=>?_; rotate_left
 ·obtain rfl:=oi hp;exact hq _ d.ext'
 refine⟨trivial,_,e.bk.rc rfl,trivial,_,g.bk.rc rfl,?_⟩;obtain rfl:=oi hp;exact hq _ d.ext'
theorem zzs{low:Int}{high:Int}{m f:M}{Q:V->M->Prop}{rz:Rg}(hS:Pre f m)(hp:zuZ low high=some rz)(hq:∀m',Ext m m'->Q (.agg 2 [Il rz.Lo,Il rz.Hi]) m'):Wc prog tbl 42 [.c (Il low),.c (Il high)] m Q:=by
 have o:=hS.st;obtain⟨p,_⟩:=zrD;refine w42 ?_;unfold zuZ at hp;intro q a;obtain⟨j,b,l,d⟩:=o.blk a p 1;obtain⟨e,g,h,n,i⟩:=d.sto b [Il low,Il high];refine⟨e,g,?_⟩;refine⟨_,_,i.bk.ra,?_⟩;obtain rfl:=oi hp;exact hq _ h.ext'
theorem zzt{m f:M}{Q:V->M->Prop}{rz:Cse}(hS:Pre f m)(hp:zu0=some rz)(hq:∀m' f' c0 c3,Grw m f m' f'->Sl f' c0 rz.Tariffs->Sl f' c3 rz.Fields->Q (.agg 4 [c0,Il rz.Day,Il rz.Fee,c3]) m'):Wc prog tbl 40 [] m Q:=by
 have S0:=hS.st;obtain⟨τ0,_⟩:=zrD;refine w40 ?_;unfold zu0 at hp;intro m0 ja;obtain⟨ka,la,Fd,ma⟩:=S0.blk ja τ0 1;intro m1 na;obtain⟨oa,pa,qa,sa⟩:=la.blk na ka 2;have ta:=ma.k qa;intro m2 ua;obtain⟨va,wa,J,xa⟩:=pa.blk ua oa 3;have ya:=ta.k J;have za:=sa.k J;intro m3 Aa;obtain⟨Ba,Ca,G,Da⟩:=wa.blk Aa va 4;have Ea:=ya.k G;have Fa:=za.k G;have Ga:=xa.k G;intro m4 Ha;obtain⟨Ia,Ja,F,Ka⟩:=Ca.blk Ha Ba 5;have La:=Ea.k F;have Ma:=Fa.k F;have Na:=Ga.k F;have Oa:=Da.k F;intro m5 Pa;obtain⟨Qa,Ra,D,Sa⟩:=Ja.blk Pa Ia 6;have Ta:=La.k D;have Ua:=Ma.k D;have Va:=Na.k D;have Wa:=Oa.k D;have Xa:=Ka.k D;intro m6 Ya;obtain⟨b,N,u,Za⟩:=Ra.blk Ya Qa 7;have ab:=Ta.k u;have bb:=Ua.k u;have cb:=Va.k u;have db:=Wa.k u;have eb:=Xa.k u;have fb:=Sa.k u;obtain⟨c,gb,hp⟩:=zqd hp;refine zzs (low:=(40:Int)) (high:=(41:Int)) N.pre  gb fun m8 hb=>?_;obtain⟨O,d⟩:=N.call hb b;have ib:=ab.k d;have jb:=bb.k d;have kb:=cb.k d;have mb:=db.k d;have ob:=eb.k d;have pb:=fb.k d;have qb:=Za.k d;refine⟨_,_,rfl,?_⟩;obtain⟨e,rb,hp⟩:=zqd hp;refine zzs (low:=(30:Int)) (high:=(30:Int)) O.pre  rb fun Nd sb=>?_;obtain⟨P,g⟩:=O.call sb b;have tb:=ib.k g;have ub:=jb.k g;have vb:=kb.k g;have wb:=mb.k g;have xb:=ob.k g;have yb:=pb.k g;have zb:=qb.k g;refine⟨_,_,rfl,?_⟩;obtain⟨h,Ab,hp⟩:=zqd hp;refine zzs (low:=(33:Int)) (high:=(36:Int)) P.pre  Ab fun Od Bb=>?_;obtain⟨S,i⟩:=P.call Bb b;have Cb:=tb.k i;have Db:=ub.k i;have Eb:=vb.k i;have Fb:=wb.k i;have Gb:=xb.k i;have Hb:=yb.k i;have Ib:=zb.k i;refine⟨_,_,rfl,?_⟩
 obtain⟨j,Jb,hp⟩:=zqd hp;refine zzs (low:=(20:Int)) (high:=(20:Int)) S.pre  Jb fun Pd Kb=>?_;obtain⟨T,n⟩:=S.call Kb b;have Mb:=Cb.k n;have Nb:=Db.k n;have Ob:=Eb.k n;have Pb:=Fb.k n;have Qb:=Gb.k n;have Rb:=Hb.k n;have Sb:=Ib.k n;refine⟨_,_,rfl,?_⟩;obtain⟨o,Tb,hp⟩:=zqd hp;refine zzs (low:=(17:Int)) (high:=(18:Int)) T.pre  Tb fun Qd Ub=>?_;obtain⟨Y,p⟩:=T.call Ub b;have Vb:=Mb.k p;have Wb:=Nb.k p;have Xb:=Ob.k p;have Yb:=Pb.k p;have Zb:=Qb.k p;have ac:=Rb.k p;have bc:=Sb.k p;refine⟨_,_,rfl,?_⟩;obtain⟨q,cc,hp⟩:=zqd hp;refine zzs (low:=(0:Int)) (high:=(4:Int)) Y.pre  cc fun ba dc=>?_;obtain⟨ec,r⟩:=Y.call dc b;have fc:=Vb.k r;have gc:=Wb.k r;have hc:=Xb.k r;have ic:=Yb.k r;have jc:=Zb.k r;have kc:=ac.k r;have lc:=bc.k r;refine⟨_,_,rfl,?_⟩;intro Rd nc;obtain⟨Gd,oc,s,pc⟩:=ec.blk nc b 8;have qc:=fc.k s;have sc:=gc.k s;have tc:=hc.k s;have uc:=ic.k s;have vc:=jc.k s;have wc:=kc.k s;have xc:=lc.k s;obtain⟨yc,zc,Ac,t,Bc⟩:=qc.sto oc [(C.sl m5.nxt 0 1 0 (Option.some 1)),(Il (10:Int)),(Il (31:Int)),(C.sl ba.nxt 0 2 0 (Option.some 2))];have Cc:=sc.k t;have Dc:=tc.k t;have Ec:=uc.k t;have Fc:=vc.k t;have Gc:=wc.k t;have Hc:=xc.k t;have Ic:=pc.k t;refine⟨yc,zc,?_⟩;refine⟨_,_,_,_,Bc.bk.ra,?_⟩;obtain⟨Hd,Jc,w,ca⟩:=Hc.freeze Ac;have Kc:=Cc.k w;have Lc:=Dc.k w;have Nc:=Ec.k w;have Pc:=Fc.k w;have Qc:=Gc.k w;have Rc:=Ic.k w;obtain⟨Z,Tc,x,da⟩:=Kc.freeze Jc;have Uc:=Lc.k x;have Vc:=Nc.k x;have Xc:=Pc.k x;have Yc:=Qc.k x;have Zc:=Rc.k x;have ad:Sl Z (C.sl m0.nxt 0 1 0 (Option.some 1)) ([(0:Int)]:List Int):=Bk.sl (α:=Int) (l:=([(0:Int)]:List Int)) da (show Cat (α:=Int) Z [Il 0] ([(0:Int)]:List Int) from ⟨[Il 0],_,rfl,rfl,rfl⟩) rfl rfl _
 obtain⟨aa,bd,y,ea⟩:=Uc.freeze Tc;have cd:=Vc.k y;have dd:=Xc.k y;have ed:=Yc.k y;have fd:=Zc.k y;have hd:Sl aa (C.sl m1.nxt 0 2 0 (Option.some 2)) ([(0:Int),(100:Int)]:List Int):=Bk.sl (α:=Int) (l:=([(0:Int),(100:Int)]:List Int)) ea (show Cat (α:=Int) aa [Il 0,(Il (100:Int))] ([(0:Int),(100:Int)]:List Int) from ⟨[Il 0],_,rfl,rfl,⟨[(Il (100:Int))],_,rfl,rfl,rfl⟩⟩) rfl rfl _;obtain⟨Id,id,z,fa⟩:=ed.freeze bd;have jd:=cd.k z;have kd:=dd.k z;have ld:=fd.k z;obtain⟨Jd,md,A,ga⟩:=kd.freeze id;have nd:=jd.k A;have od:=ld.k A;obtain⟨a,pd,B,ha⟩:=nd.freeze md;have qd:=od.k B;have sd:Sl a (C.sl m2.nxt 0 2 0 (Option.some 2)) ([(0:Int),(100:Int)]:List Int):=Bk.sl (α:=Int) (l:=([(0:Int),(100:Int)]:List Int)) ha (show Cat (α:=Int) a [Il 0,(Il (100:Int))] ([(0:Int),(100:Int)]:List Int) from ⟨[Il 0],_,rfl,rfl,⟨[(Il (100:Int))],_,rfl,rfl,rfl⟩⟩) rfl rfl _;have td:Sl a (C.sl m3.nxt 0 1 0 (Option.some 1)) ([([(0:Int),(100:Int)]:List Int)]:List (List Int)):=Bk.sl (α:=List Int) (l:=([([(0:Int),(100:Int)]:List Int)]:List (List Int))) (ga.sub B.fs) (show Cat (α:=List Int) a [(C.sl m2.nxt 0 2 0 (Option.some 2))] ([([(0:Int),(100:Int)]:List Int)]:List (List Int)) from ⟨[(C.sl m2.nxt 0 2 0 (Option.some 2))],_,rfl,⟨_,rfl,sd⟩,rfl⟩) rfl rfl _;have ud:Sl a (C.sl m4.nxt 0 1 0 (Option.some 1)) ([([([(0:Int),(100:Int)]:List Int)]:List (List Int))]:List (List (List Int))):=Bk.sl (α:=List (List Int)) (l:=([([([(0:Int),(100:Int)]:List Int)]:List (List Int))]:List (List (List Int)))) (fa.sub (Sub.trans A.fs B.fs)) (show Cat (α:=List (List Int)) a [(C.sl m3.nxt 0 1 0 (Option.some 1))] ([([([(0:Int),(100:Int)]:List Int)]:List (List Int))]:List (List (List Int))) from ⟨[(C.sl m3.nxt 0 1 0 (Option.some 1))],_,rfl,⟨_,rfl,td⟩,rfl⟩) rfl rfl _
 have vd:Sl a (C.sl m5.nxt 0 1 0 (Option.some 1)) ([({ From:=(0:Int),Whole:=true,Least:=(0:Int),Weeks:=([(0:Int)]:List Int),Counts:=([(0:Int),(100:Int)]:List Int),Rates:=([([([(0:Int),(100:Int)]:List Int)]:List (List Int))]:List (List (List Int))) }:Tf)]:List Tf):=Bk.sl (α:=Tf) (l:=([({ From:=(0:Int),Whole:=true,Least:=(0:Int),Weeks:=([(0:Int)]:List Int),Counts:=([(0:Int),(100:Int)]:List Int),Rates:=([([([(0:Int),(100:Int)]:List Int)]:List (List Int))]:List (List (List Int))) }:Tf)]:List Tf)) (ca.sub (Sub.trans (Sub.trans (Sub.trans (Sub.trans x.fs y.fs) z.fs) A.fs) B.fs)) (show Cat (α:=Tf) a [Il 0,.bool true,Il 0,(C.sl m0.nxt 0 1 0 (Option.some 1)),(C.sl m1.nxt 0 2 0 (Option.some 2)),(C.sl m4.nxt 0 1 0 (Option.some 1))] ([({ From:=(0:Int),Whole:=true,Least:=(0:Int),Weeks:=([(0:Int)]:List Int),Counts:=([(0:Int),(100:Int)]:List Int),Rates:=([([([(0:Int),(100:Int)]:List Int)]:List (List Int))]:List (List (List Int))) }:Tf)]:List Tf) from ⟨[Il 0,.bool true,Il 0,(C.sl m0.nxt 0 1 0 (Option.some 1)),(C.sl m1.nxt 0 2 0 (Option.some 2)),(C.sl m4.nxt 0 1 0 (Option.some 1))],_,rfl,⟨_,_,_,rfl,(ad.sub (Sub.trans (Sub.trans (Sub.trans y.fs z.fs) A.fs) B.fs)),(hd.sub (Sub.trans (Sub.trans z.fs A.fs) B.fs)),ud⟩,rfl⟩) rfl rfl _;obtain⟨I,wd,xd,ia⟩:=qd.freeze pd;have yd:Sl I (C.sl ba.nxt 0 2 0 (Option.some 2)) ([({ Crop:=(0:Int),Value:=(1000:Int),Near:=(4:Int),First:=c,Second:=e,Umpire:=h }:Fld),({ Crop:=(0:Int),Value:=(200:Int),Near:=(4:Int),First:=j,Second:=o,Umpire:=q }:Fld)]:List Fld):=Bk.sl (α:=Fld) (l:=([({ Crop:=(0:Int),Value:=(1000:Int),Near:=(4:Int),First:=c,Second:=e,Umpire:=h }:Fld),({ Crop:=(0:Int),Value:=(200:Int),Near:=(4:Int),First:=j,Second:=o,Umpire:=q }:Fld)]:List Fld)) ia (show Cat (α:=Fld) I [Il 0,(Il (1000:Int)),(Il (4:Int)),Il c.Lo,Il c.Hi,Il e.Lo,Il e.Hi,Il h.Lo,Il h.Hi,Il 0,(Il (200:Int)),(Il (4:Int)),Il j.Lo,Il j.Hi,Il o.Lo,Il o.Hi,Il q.Lo,Il q.Hi] ([({ Crop:=(0:Int),Value:=(1000:Int),Near:=(4:Int),First:=c,Second:=e,Umpire:=h }:Fld),({ Crop:=(0:Int),Value:=(200:Int),Near:=(4:Int),First:=j,Second:=o,Umpire:=q }:Fld)]:List Fld) from ⟨[Il 0,(Il (1000:Int)),(Il (4:Int)),Il c.Lo,Il c.Hi,Il e.Lo,Il e.Hi,Il h.Lo,Il h.Hi],_,rfl,rfl,⟨[Il 0,(Il (200:Int)),(Il (4:Int)),Il j.Lo,Il j.Hi,Il o.Lo,Il o.Hi,Il q.Lo,Il q.Hi],_,rfl,rfl,rfl⟩⟩) rfl rfl _
 obtain rfl:=oi hp;exact hq _ I (C.sl m5.nxt 0 1 0 (Option.some 1)) (C.sl ba.nxt 0 2 0 (Option.some 2)) wd.grw (vd.sub xd.fs) yd
theorem zzu{first:Int}{u:Int}{second:Int}{m f:M}{Q:V->M->Prop}{rz:List Thr}(hS:Pre f m)(hp:zu1 first u second=some rz)(hq:∀m' f' c0,Grw m f m' f'->Sl f' c0 rz->Q (.c c0) m'):Wc prog tbl 41 [.c (Il first),.c (Il u),.c (Il second)] m Q:=by
 have p:=hS.st;obtain⟨q,_⟩:=zrD;refine w41 ?_;unfold zu1 at hp;intro r d;obtain⟨j,e,n,g⟩:=p.blk d q 1;obtain⟨a,h,o,b⟩:=g.freeze e;have i:Sl a (C.sl m.nxt 0 2 0 (Option.some 2)) ([({ First:=first,Second:=(30:Int),Umpire:=u }:Thr),({ First:=(20:Int),Second:=second,Umpire:=(0:Int) }:Thr)]:List Thr):=Bk.sl (α:=Thr) (l:=([({ First:=first,Second:=(30:Int),Umpire:=u }:Thr),({ First:=(20:Int),Second:=second,Umpire:=(0:Int) }:Thr)]:List Thr)) b (show Cat (α:=Thr) a [Il first,(Il (30:Int)),Il u,(Il (20:Int)),Il second,Il 0] ([({ First:=first,Second:=(30:Int),Umpire:=u }:Thr),({ First:=(20:Int),Second:=second,Umpire:=(0:Int) }:Thr)]:List Thr) from ⟨[Il first,(Il (30:Int)),Il u],_,rfl,rfl,⟨[(Il (20:Int)),Il second,Il 0],_,rfl,rfl,rfl⟩⟩) rfl rfl _;obtain rfl:=oi hp;exact hq _ a (C.sl m.nxt 0 2 0 (Option.some 2)) h.grw i
end
end Go.Proofs.YtnjbahoohfaplaaGreat

