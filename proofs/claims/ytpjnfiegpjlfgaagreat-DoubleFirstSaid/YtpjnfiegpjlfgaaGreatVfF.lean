/- An evaluator of code, its soundness, and what functions of the program do. Condition: none; a lemma text. -/
import Derived.Test.YtpjnfiegpjlfgaaGreatVfE

namespace Go.Abs
set_option maxRecDepth 100000
noncomputable section
variable {P:Program}
structure Sub (f m:M):Prop where
 nxt:f.nxt<=m.nxt
 vw:m.vw=f.vw
 g:∀b,b < f.nxt->(f.g b ≠ none\/f.vw b ≠ none)->m.g b=f.g b
theorem Sub.refl(m:M):Sub m m:=⟨yac _,rfl,fun _ _ _=>rfl⟩
theorem Sub.trans{a b c:M}(h:Sub a b)(h':Sub b c):Sub a c:=⟨yad h.nxt h'.nxt,h'.vw.trans h.vw,fun x hx hn=>by
 have h1:=h.g x hx hn;rw[<- h1]
 exact h'.g x (yaf hx h.nxt) (by rw[h1,h.vw]; exact hn)⟩
theorem Sub.of_ext{m m':M}(h:Ext m m'):Sub m m':=⟨h.nxt,h.vw,fun b hb _=>h.g b hb⟩
structure zp9 (f m:M):Prop where
 nxt:f.nxt<=m.nxt
 vw:∀b,b < f.nxt->m.vw b=f.vw b
 g:∀b,b < f.nxt->(f.g b ≠ none\/f.vw b ≠ none)->m.g b=f.g b
theorem Sub.v{f m:M}(h:Sub f m):zp9 f m:=⟨h.nxt,fun b _=>by rw[h.vw],h.g⟩
theorem zp9.refl(m:M):zp9 m m:=(Sub.refl m).v
theorem zp9.trans{a b c:M}(h:zp9 a b)(h':zp9 b c):zp9 a c:=⟨yad h.nxt h'.nxt,fun x hx=>(h'.vw x (yaf hx h.nxt)).trans (h.vw x hx),fun x hx hn=>by
 have h1:=h.g x hx hn;rw[<- h1]
 exact h'.g x (yaf hx h.nxt) (by rw[h1,h.vw x hx]; exact hn)⟩
theorem Seg.to'{m m':M}{b o:Nat}{vs:List C}(h:Seg m b o vs)(hg:m'.g b=m.g b)(hv:m'.vw b=m.vw b):Seg m' b o vs:=by
 unfold Seg;rw[hg,hv];exact h
theorem Seg.subv{f m:M}{b o:Nat}{vs:List C}(h:Seg f b o vs)(hb:b < f.nxt)(s:zp9 f m):Seg m b o vs:=by
 refine h.to' ?_ (s.vw b hb)
 rcases h with ⟨n,ws,op,h1,_⟩ | ⟨h1,q,h2,_⟩
 ·exact s.g b hb (.inl (by rw[h1]; exact yaI _))
 ·exact s.g b hb (.inr (by rw[h2]; exact yaI _))
theorem Ls.subv{f m:M}{k n:Nat}{x:C}{vs:List C}(h:Ls f k x vs n)(s:zp9 f m):Ls m k x vs n:=by
 refine⟨h.len,?_⟩
 rcases h.val with h1 | ⟨b,o,t,c,h1,h2,h3⟩
 ·exact .inl h1
 ·exact .inr ⟨b,o,t,c,h1,yaf h2 s.nxt,fun h0=>(h3 h0).subv h2 s⟩
theorem Ls.sub{f m:M}{k n:Nat}{x:C}{vs:List C}(h:Ls f k x vs n)(s:Sub f m):Ls m k x vs n:=h.subv s.v
class Rp (α:Type) where
  k:Nat
  pos:0 < k
  rep:M->List C->α->Prop
  len:∀{m:M} {cs:List C} {a:α},rep m cs a->cs.length=k
  subv:∀{f m:M} {cs:List C} {a:α},rep f cs a->zp9 f m->rep m cs a
theorem Rp.sub{α:Type}[Rp α]{f m:M}{cs:List C}{a:α}(h:Rp.rep f cs a)(s:Sub f m):Rp.rep m cs a:=Rp.subv h s.v
def Cat{α:Type}[Rp α](f:M):List C->List α->Prop
 | vs,[]=>vs=[]
 | vs,a::l=>∃c r,vs=c++r/\Rp.rep f c a/\Cat f r l
variable {α β:Type} [Rp α] [Rp β]
theorem Cat.subv{f m:M}(s:zp9 f m):∀{l:List α} {vs:List C},Cat f vs l->Cat m vs l
 | [],_,h=>h
 | _::_,_,⟨c,r,h1,h2,h3⟩=>⟨c,r,h1,Rp.subv h2 s,Cat.subv s h3⟩
theorem Cat.sub{f m:M}(s:Sub f m){l:List α}{vs:List C}(h:Cat f vs l):Cat m vs l:=Cat.subv s.v h
theorem Cat.len{f:M}:∀{l:List α} {vs:List C},Cat f vs l->l.length * Rp.k α=vs.length
 | [],_,h=>by have h:_=[]:=h; rw[h]; simp
 | _::l,_,⟨c,r,h1,h2,h3⟩=>by rw[h1,yai,Rp.len h2,<- Cat.len h3,yaE,yaV,ybq,ybm]
theorem Cat.app{f:M}:∀{l l':List α} {vs a:List C},Cat f vs l->Cat f a l'->Cat f (vs++a) (l++l')
 | [],_,_,_,h,h'=>by have h:_=[]:=h; rw[h]; exact h'
 | _::_,_,_,_,⟨c,r,h1,h2,h3⟩,h'=>⟨c,r++_,by rw[h1,yav],h2,Cat.app h3 h'⟩
theorem Cat.one{f:M}{cs:List C}{a:α}(h:Rp.rep f cs a):Cat f cs [a]:=⟨cs,[],by simp,h,rfl⟩
theorem Cat.at{f:M}:∀{l:List α} {vs:List C},Cat f vs l->∀{n:Nat} {a:α},l[n]? = some a->n * Rp.k α+Rp.k α<=vs.length/\Rp.rep f ((vs.drop (n * Rp.k α)).take (Rp.k α)) a
 | [],_,_,n,a,hn=>by simp at hn
 | x::l,_,⟨c,r,h1,h2,h3⟩,0,a,hn=>by
  have:x=a:=by simpa using hn
  subst this;have hl:=Rp.len h2;refine⟨by rw[h1,yai]; omega,?_⟩;rw[yaN,yau,h1,ybo (by omega),yaw (by omega)]; exact h2
 | x::l,_,⟨c,r,h1,h2,h3⟩,n+1,a,hn=>by
  have hl:=Rp.len h2;obtain⟨q1,q2⟩:=Cat.at h3 (n:=n) (a:=a) (by simpa using hn);refine⟨by rw[h1,List.length_append,Nat.add_mul,Nat.one_mul]; omega,?_⟩;rw[h1,yaV,ybq,show n * Rp.k α+Rp.k α=c.length+n * Rp.k α by omega,<- yaz,ybe rfl]; exact q2
def zqa(x:C)(k n:Nat):Prop:=(x=.sl0/\n=0)\/(∃b o s c,x=.sl b o n s (some c)/\n<=c)\/∃b o,x=.sl b o n k none
def Sl(f:M)(x:C)(l:List α):Prop:=∃vs,Ls f (Rp.k α) x vs l.length/\Cat f vs l/\zqa x (Rp.k α) l.length
theorem Sl.subv{f m:M}{x:C}{l:List α}(h:Sl f x l)(s:zp9 f m):Sl m x l:=h.elim fun vs h=>⟨vs,h.1.subv s,Cat.subv s h.2.1,h.2.2⟩
theorem Sl.sub{f m:M}{x:C}{l:List α}(h:Sl f x l)(s:Sub f m):Sl m x l:=h.subv s.v
theorem Sl.slLen{f:M}{x:C}{l:List α}(h:Sl f x l):slLen x=l.length:=h.elim fun _ h=>h.1.slLen
theorem Sl.isSl{f:M}{x:C}{l:List α}(h:Sl f x l):isSl x:=h.elim fun _ h=>h.1.isSl
theorem Sl.noFn{f:M}{x:C}{l:List α}(h:Sl f x l):znS x=true:=h.elim fun _ h=>h.1.noFn
theorem Sl.nil(f:M):Sl f .sl0 ([]:List α):=⟨[],Ls.nil f _,rfl,.inl ⟨rfl,rfl⟩⟩
instance:Rp Int:=⟨1,by omega,fun _ cs a=>cs=[.int .i64 a],fun h=>by rw[h]; rfl,fun h _=>h⟩
instance:Rp Bool:=⟨1,by omega,fun _ cs a=>cs=[.bool a],fun h=>by rw[h]; rfl,fun h _=>h⟩
instance:Rp (List α):=⟨1,by omega,fun f cs a=>∃c,cs=[c]/\Sl f c a,fun⟨_,h,_⟩=>by rw[h]; rfl,fun⟨c,h,h2⟩ s=>⟨c,h,h2.subv s⟩⟩
def idx{α:Type}(l:List α)(i:Int):Option α:=if 0<=i then l[i.toNat]? else none
theorem zqb{α:Type}{l:List α}{i:Int}{a:α}(h:idx l i=some a):∃n:Nat,i=(n:Int)/\n < l.length/\l[n]? = some a:=by
 unfold idx at h
 by_cases h0:0<=i
 ·rw[yab h0] at h;exact⟨i.toNat,by omega,(yah.1 h).1,h⟩
 ·rw[yaa h0] at h; cases h
theorem zqc{α:Type}(l:List α)(n:Nat):idx l (n:Int)=l[n]?:=by unfold idx; rw[yab (yaT n)]; rfl
structure Fm where
 m:M
 B:Nat->Prop
def Fm.of(m:M):Fm:=⟨m,fun _=>False⟩
structure zqd (F:Fm) (m:M):Prop where
 nxt:F.m.nxt<=m.nxt
 g:∀b,b < F.m.nxt->¬ F.B b->m.g b=F.m.g b
 vw:m.vw=F.m.vw
theorem zqd.trans{F:Fm}{m m':M}(h:zqd F m)(e:Ext m m'):zqd F m':=⟨yad h.nxt e.nxt,fun b hb hB=>(e.g b (yaf hb h.nxt)).trans (h.g b hb hB),e.vw.trans h.vw⟩
structure St (F:Fm) (f0 f m:M):Prop where
 ext:zqd F m
 sub:Sub f m
 fz:∀b,f.nxt<=b->f.g b=none
 fv:∀b,f.nxt<=b->f.vw b=none
 v0:∀b,F.m.nxt<=b\/F.B b->f.vw b=none
 fs:Sub f0 f
 old:∀b,b < F.m.nxt->¬ F.B b->f.g b=f0.g b
structure Pre (f m:M):Prop where
 sub:Sub f m
 fz:∀b,f.nxt<=b->f.g b=none
 fv:∀b,f.nxt<=b->f.vw b=none
theorem Pre.stB{f m:M}(h:Pre f m)(B:Nat->Prop)(hB:∀b,B b->f.vw b=none):St ⟨m,B⟩ f f m:=⟨⟨yac _,fun _ _ _=>rfl,rfl⟩,h.sub,h.fz,h.fv,fun b hb=>hb.elim (fun hb=>h.fv b (yad h.sub.nxt hb)) (hB b),.refl f,fun _ _ _=>rfl⟩
theorem Pre.st{f m:M}(h:Pre f m):St (Fm.of m) f f m:=h.stB _ fun _ h=>h.elim
theorem St.ext'{m0 f0 f m:M}(h:St (Fm.of m0) f0 f m):Ext m0 m:=⟨h.ext.nxt,fun b hb=>h.ext.g b hb fun h=>h,h.ext.vw⟩
theorem St.pre{F:Fm}{f0 f m:M}(h:St F f0 f m):Pre f m:=⟨h.sub,h.fz,h.fv⟩
structure Grw (m f m' f':M):Prop where
 ext:Ext m m'
 fsub:Sub f f'
 pre:Pre f' m'
 old:∀b,b < m.nxt->f'.g b=f.g b
theorem St.grw{m0 f0 f m:M}(h:St (Fm.of m0) f0 f m):Grw m0 f0 m f:=⟨h.ext',h.fs,h.pre,fun b hb=>h.old b hb fun h=>h⟩
structure Kp (τ:Nat->Nat) (f m:M) (τ':Nat->Nat) (f' m':M) (X:List Nat):Prop where
 nxt:m.nxt<=m'.nxt
 tg:∀b,b < m.nxt->τ' b=τ b
 g:∀b,b < m.nxt->τ b ∉ X->m'.g b=m.g b
 fg:∀b,b < m.nxt->τ b ∉ X->f'.g b=f.g b
 fs:Sub f f'
 vw:m'.vw=m.vw
structure Lb (F:Fm) (f:M) (τ:Nat->Nat) (m:M) (t b n:Nat) (vs:List C):Prop where
 bk:Bk m b n vs
 new:F.m.nxt<=b\/F.B b
 nf:f.g b=none
 tg:τ b=t
theorem Lb.k{F:Fm}{f f' m m':M}{τ τ':Nat->Nat}{t b n:Nat}{vs:List C}{X:List Nat}(h:Lb F f τ m t b n vs)(k:Kp τ f m τ' f' m' X)(hx:t ∉ X:=by decide):Lb F f' τ' m' t b n vs:=by
 have hx:τ b ∉ X:=by rw[h.tg]; exact hx
 exact⟨⟨(k.g b h.bk.lt hx).trans h.bk.g,yaf h.bk.lt k.nxt⟩,h.new,(k.fg b h.bk.lt hx).trans h.nf,(k.tg b h.bk.lt).trans h.tg⟩
def zqe(τ:Nat->Nat)(b t:Nat):Nat->Nat:=fun j=>if j=b then t else τ j
theorem St.new{F:Fm}{f0 f m m':M}(s:St F f0 f m){o:AO}(h:m'=m.new o)(τ:Nat->Nat)(t:Nat):St F f0 f m'/\Kp τ f m (zqe τ m.nxt t) f m' []:=by
 subst h;refine⟨⟨s.ext.trans (.new m o),s.sub.trans (.of_ext (.new m o)),s.fz,s.fv,s.v0,s.fs,s.old⟩,⟨ya4 _,fun b hb=>yaa (by omega),fun b hb _=>by rw[M.g_new,yaa (by omega)],fun _ _ _=>rfl,.refl f,rfl⟩⟩
theorem St.blk{F:Fm}{f0 f m m':M}(s:St F f0 f m){n:Nat}{vs:List C}(h:m'=m.new (.cells n vs false))(τ:Nat->Nat)(t:Nat):∃τ',St F f0 f m'/\Kp τ f m τ' f m' []/\Lb F f τ' m' t m.nxt n vs:=by
 obtain⟨h1,h2⟩:=s.new h τ t;exact⟨_,h1,h2,⟨(Bk.new h).1,.inl s.ext.nxt,s.fz _ s.sub.nxt,yab rfl⟩⟩
theorem St.call{F:Fm}{f0 f m m':M}(s:St F f0 f m)(e:Ext m m')(τ:Nat->Nat):St F f0 f m'/\Kp τ f m τ f m' []:=
 ⟨⟨s.ext.trans e,s.sub.trans (.of_ext e),s.fz,s.fv,s.v0,s.fs,s.old⟩,⟨e.nxt,fun _ _=>rfl,fun b hb _=>e.g b hb,fun _ _ _=>rfl,.refl f,e.vw⟩⟩
theorem St.callG{F:Fm}{f0 f m m' f':M}(s:St F f0 f m)(g:Grw m f m' f')(τ:Nat->Nat):St F f0 f' m'/\Kp τ f m τ f' m' []:=
 ⟨⟨s.ext.trans g.ext,g.pre.sub,g.pre.fz,g.pre.fv,fun b hb=>by rw[g.fsub.vw]; exact s.v0 b hb,s.fs.trans g.fsub,fun b hb hB=>(g.old b (yaf hb s.ext.nxt)).trans (s.old b hb hB)⟩,⟨g.ext.nxt,fun _ _=>rfl,fun b hb _=>g.ext.g b hb,fun b hb _=>g.old b hb,g.fsub,g.ext.vw⟩⟩
theorem zqf{f m m':M}(hs:Sub f m)(hn:m.nxt<=m'.nxt)(hv:m'.vw=m.vw){X:Nat->Prop}(hX:∀b,X b->f.g b=none/\f.vw b=none)(hg:∀b',b' < m.nxt->¬ X b'->m'.g b'=m.g b'):Sub f m':=by
 refine⟨yad hs.nxt hn,hv.trans hs.vw,fun b' a hd=>?_⟩;rw[hg b' (yaf a hs.nxt) fun h=>hd.elim (fun h2=>h2 (hX _ h).1) fun h2=>h2 (hX _ h).2];exact hs.g b' a hd
theorem St.chg{F:Fm}{f0 f m m':M}(s:St F f0 f m){X:Nat->Prop}(hX:∀b,X b->(F.m.nxt<=b\/F.B b)/\f.g b=none)(hn:m.nxt<=m'.nxt)(hv:m'.vw=m.vw)(hg:∀b',b' < m.nxt->¬ X b'->m'.g b'=m.g b'):St F f0 f m':=
  ⟨⟨yad s.ext.nxt hn,fun b hb hB=>(hg b (yaf hb s.ext.nxt) fun h=>(hX b h).1.elim (fun h=>by omega) hB).trans (s.ext.g b hb hB),hv.trans s.ext.vw⟩,
    zqf s.sub hn hv (fun b h=>⟨(hX b h).2,s.v0 b (hX b h).1⟩) hg,s.fz,s.fv,s.v0,s.fs,s.old⟩
theorem St.st1{F:Fm}{f0 f m m':M}(s:St F f0 f m){τ:Nat->Nat}{t b n:Nat}{vs ws:List C}(h:Lb F f τ m t b n vs)(hb:Bk m' b n ws)(h1:St1 m m' b):St F f0 f m'/\Kp τ f m τ f m' [t]/\Lb F f τ m' t b n ws:=
  ⟨s.chg (X:=fun b'=>b'=b) (fun b' h'=>by subst h'; exact⟨h.new,h.nf⟩) (by rw[h1.nxt]; exact yac _) h1.vw fun b' _ a=>h1.g b' a,
    ⟨by rw[h1.nxt]; exact yac _,fun _ _=>rfl,fun b' _ hx=>h1.g b' fun he=>hx (by rw[he,h.tg]; exact yae ..),fun _ _ _=>rfl,.refl f,h1.vw⟩,⟨hb,h.new,h.nf,h.tg⟩⟩
theorem Lb.sto{F:Fm}{f0 f m:M}{τ:Nat->Nat}{t b n:Nat}{vs:List C}(h:Lb F f τ m t b n vs)(s:St F f0 f m)(ws:List C):∃m',stC m (.ptr b 0) n ws=some m'/\St F f0 f m'/\Kp τ f m τ f m' [t]/\Lb F f τ m' t b n ws:=by
 obtain⟨m',h1,h2,h3⟩:=h.bk.sto ws;exact⟨m',h1,s.st1 h h2 h3⟩
theorem Lb.sto1{F:Fm}{f0 f m:M}{τ:Nat->Nat}{t b n:Nat}{vs:List C}(h:Lb F f τ m t b n vs)(s:St F f0 f m)(k:Nat)(c:C)(hk:k < vs.length)(hn:vs.length=n):∃m',stC m (.ptr b k) 1 [c]=some m'/\St F f0 f m'/\Kp τ f m τ f m' [t]/\Lb F f τ m' t b n (vs.set k c):=by
 obtain⟨m',h1,h2,h3⟩:=h.bk.sto1 k c hk hn;exact⟨m',h1,s.st1 h h2 h3⟩
theorem Bk.stoP0{m:M}{b n:Nat}{vs:List C}(h:Bk m b n vs)(new:List C)(k:Nat)(hk:k+new.length<=vs.length)(hn:new.length ≠ n):∃m',stC m (.ptr b k) new.length new=some m'/\Bk m' b n (vs.take k++new++vs.drop (k+new.length))/\St1 m m' b:=by
 refine⟨m.set b (.cells n (vs.take k++new++vs.drop (k+new.length)) false),?_,h.set _,.of_set rfl⟩
 show(match m.g b with
  | some (.cells n' vs opn)=>ifB (Nat.beq n' new.length) (ifB (Nat.beq k 0) (some (m.set b (.cells n' new opn))) none) (zaa (zaH k new vs) none fun a=>some (m.set b (.cells n' a opn)))
  | _=>none)=_
 rw[h.g]
 show ifB (Nat.beq n new.length) _ (zaa (zaH k new vs) none fun a=>some (m.set b (.cells n a false)))=_
 have hb:Nat.beq n new.length=false:=by
  cases hq:Nat.beq n new.length with
  | true=>exact absurd (yan hq).symm hn
  | false=>rfl
 rw[hb,zd1,zpG new k vs hk,zd3]
theorem Lb.stoP{F:Fm}{f0 f m:M}{τ:Nat->Nat}{t b n:Nat}{vs:List C}(h:Lb F f τ m t b n vs)(s:St F f0 f m)(k:Nat)(new:List C)(hk:k+new.length<=vs.length)(hn:Nat.beq new.length n=false):∃m',stC m (.ptr b k) new.length new=some m'/\St F f0 f m'/\Kp τ f m τ f m' [t]/\Lb F f τ m' t b n (vs.take k++new++vs.drop (k+new.length)):=by
 obtain⟨m',h1,h2,h3⟩:=h.bk.stoP0 new k hk (fun he=>by rw[he,yar] at hn; cases hn);exact⟨m',h1,s.st1 h h2 h3⟩
structure Ow (F:Fm) (f:M) (τ:Nat->Nat) (m:M) (t:Nat) (x:C) (l:List α):Prop where
 own:∃vs,zpZ m (Rp.k α) x vs l.length/\Cat f vs l
 nw:∀b o n s d,x=.sl b o n s d->(F.m.nxt<=b\/F.B b)/\f.g b=none/\τ b=t
theorem Ow.nil(F:Fm)(f:M)(τ:Nat->Nat)(m:M)(t:Nat):Ow F f τ m t .sl0 ([]:List α):=⟨⟨[],zpZ.nil' m _,rfl⟩,fun _ _ _ _ _ h=>by cases h⟩
theorem Ow.lt{F:Fm}{f m:M}{τ:Nat->Nat}{t:Nat}{x:C}{l:List α}(h:Ow F f τ m t x l){b o n s:Nat}{d:Option Nat}(hx:x=.sl b o n s d):b < m.nxt:=h.own.elim fun _ h=>h.1.lt hx
theorem Ow.k{F:Fm}{f f' m m':M}{τ τ':Nat->Nat}{t:Nat}{x:C}{l:List α}{X:List Nat}(h:Ow F f τ m t x l)(k:Kp τ f m τ' f' m' X)(hx:t ∉ X:=by decide):Ow F f' τ' m' t x l:=by
 have a:∀b o n s d,x=.sl b o n s d->τ b ∉ X:=fun b o n s d he=>by rw[(h.nw b o n s d he).2.2]; exact hx
 obtain⟨vs,h1,h2⟩:=h.own;refine⟨⟨vs,h1.to k.nxt fun b hb he=>?_,h2.sub k.fs⟩,fun b o n s d he=>?_⟩
 ·obtain⟨s,d,he⟩:=he;exact k.g b hb (a _ _ _ _ _ he)
 ·obtain⟨q1,q2,q3⟩:=h.nw b o n s d he;have i:=h.lt he;exact⟨q1,(k.fg b i (a _ _ _ _ _ he)).trans q2,(k.tg b i).trans q3⟩
theorem Ow.slLen{F:Fm}{f m:M}{τ:Nat->Nat}{t:Nat}{x:C}{l:List α}(h:Ow F f τ m t x l):slLen x=l.length:=h.own.elim fun _ h=>h.1.ls.slLen
theorem Ow.isSl{F:Fm}{f m:M}{τ:Nat->Nat}{t:Nat}{x:C}{l:List α}(h:Ow F f τ m t x l):isSl x:=h.own.elim fun _ h=>h.1.ls.isSl
theorem Ow.noFn{F:Fm}{f m:M}{τ:Nat->Nat}{t:Nat}{x:C}{l:List α}(h:Ow F f τ m t x l):znS x=true:=h.own.elim fun _ h=>h.1.ls.noFn
theorem zqg{x:C}{b:Nat}(h:slB x=some b):∃o n s,x=.sl b o n s none:=by
 cases x with
 | sl b' o n s d=>
  cases d with
  | none=>have h:some b'=some b:=h; cases h; exact⟨o,n,s,rfl⟩
  | some d=>cases h
 | _=>cases h
theorem Ow.appSB{T el:Nat}(ht:tk P T=.sl el)(i:zct P el=true)(hk:P.cellsOf el=Rp.k α){F:Fm}{f0 f m m1:M}(s:St F f0 f m){τ:Nat->Nat}{t:Nat}{x y:C}{l l2:List α}(h:Ow F f τ m t x l)(e:Ext m m1){ws:List C}(hy:Ls m1 (Rp.k α) y ws l2.length)(hc:Cat f ws l2)(hj:0 < l2.length)(a:(l.length+l2.length) * P.bytesOf el<=140737488355328) :
  ∃c m2 τ',ApR P T m1 x y c m2/\St F f0 f m2/\Kp τ f m τ' f m2 [t]/\Ow F f τ' m2 t c (l++l2):=by
 obtain⟨vs,h1,h2⟩:=h.own;obtain⟨m2,q1,q2,q3,q4,q5⟩:=zp0 ht i hk (h1.ext e) hy hj Rp.pos a
 have hg:∀b,b < m.nxt->slB x ≠ some b->m2.g b=m.g b:=fun b hb hx=>by
  have:=e.nxt;rw[q5 b (by omega) hx]; exact e.g b hb
 have hn:m.nxt<=m2.nxt:=by have:=e.nxt; omega
 refine⟨_,m2,zqe τ m1.nxt t,q1,s.chg (X:=fun b=>slB x=some b) (fun b hb=>?_) hn (q4.trans e.vw) hg,⟨hn,fun b hb=>yaa (by have:=e.nxt; omega),fun b hb hx=>hg b hb fun he=>?_,fun _ _ _=>rfl,.refl f,q4.trans e.vw⟩,⟨⟨_,by rw[yai]; exact q2,h2.app hc⟩,fun b o n s' d he=>?_⟩⟩
 ·obtain⟨o,n,s',he⟩:=zqg hb;exact⟨(h.nw _ _ _ _ _ he).1,(h.nw _ _ _ _ _ he).2.1⟩
 ·obtain⟨o,n,s',he⟩:=zqg he;exact hx (by rw[(h.nw _ _ _ _ _ he).2.2]; exact yae ..)
 ·cases he
  have h9:m.nxt<=m1.nxt:=e.nxt;exact⟨.inl (yad s.ext.nxt h9),s.fz _ (yad s.sub.nxt h9),yab rfl⟩
theorem Ow.appS{T el:Nat}(ht:tk P T=.sl el)(a:zct P el=true)(hk:P.cellsOf el=Rp.k α){F:Fm}{f0 f m m1:M}(s:St F f0 f m){τ:Nat->Nat}{t:Nat}{x y:C}{l l2:List α}(h:Ow F f τ m t x l)(e:Ext m m1){ws:List C}(hy:Ls m1 (Rp.k α) y ws l2.length)(hc:Cat f ws l2)(hj:0 < l2.length)(i:l.length+l2.length<=1048576) :
  ∃c m2 τ',ApR P T m1 x y c m2/\St F f0 f m2/\Kp τ f m τ' f m2 [t]/\Ow F f τ' m2 t c (l++l2):=
 h.appSB ht a hk s e hy hc hj (zp1 a i)
theorem Ow.app{T el:Nat}(ht:tk P T=.sl el)(i:zct P el=true)(hk:P.cellsOf el=Rp.k α){F:Fm}{f0 f m m1:M}(s:St F f0 f m){τ:Nat->Nat}{t:Nat}{x:C}{l:List α}(h:Ow F f τ m t x l){cs:List C}{a:α}(hr:Rp.rep f cs a)(q:l.length < 1048576)(e:m1=m.new (.cells (Rp.k α) cs false)) :
  ∃c m2 τ',ApR P T m1 x (.sl m.nxt 0 1 0 (some 1)) c m2/\St F f0 f m2/\Kp τ f m τ' f m2 [t]/\Ow F f τ' m2 t c (l++[a]):=by
 obtain⟨b1,x1⟩:=Bk.new e;exact h.appS (P:=P) ht i hk s x1 (Ls.one b1.g (Rp.len hr) b1.lt 0 (some 1)) (Cat.one hr) (by simp) (by show l.length+1<=_; omega)
theorem Ow.freeze{F:Fm}{f0 f m:M}(s:St F f0 f m){τ:Nat->Nat}{t:Nat}{x:C}{l:List α}(h:Ow F f τ m t x l):∃f',St F f0 f' m/\Kp τ f m τ f' m [t]/\Sl f' x l:=by
 obtain⟨vs,h1,h2⟩:=h.own
 have hq:∀{b n k:Nat} {c:Option Nat} {op:Bool},x=.sl b 0 n k c->m.g b=some (.cells (n * Rp.k α) vs op)->b < m.nxt->n=l.length->zqa x (Rp.k α) l.length->∃f',St F f0 f' m/\Kp τ f m τ f' m [t]/\Sl f' x l:=by
  intro b n k c op hx hg hb q w;obtain⟨w1,w2,w3⟩:=h.nw _ _ _ _ _ hx
  let f':M:={ nxt:=m.nxt,g:=fun j=>if j=b then m.g b else f.g j,vw:=f.vw }
  have a:∀j,j ≠ b->f'.g j=f.g j:=fun j hj=>yaa hj;have u:f'.g b=m.g b:=yab rfl
  have i:Sub f f':=⟨s.sub.nxt,rfl,fun j hj hd=>a j fun he=>by
   subst he
   exact hd.elim (fun h=>h w2) fun h=>h (s.v0 _ w1)⟩
  refine⟨f',⟨s.ext,⟨yac _,s.sub.vw,fun j hj hd=>?_⟩,fun j hj=>?_,fun j hj=>?_,s.v0,s.fs.trans i,fun j hj hB=>(a j fun he=>by subst he; exact w1.elim (fun h=>by omega) hB).trans (s.old j hj hB)⟩,⟨yac _,fun _ _=>rfl,fun _ _ _=>rfl,fun j hj hx=>a j fun he=>hx (by rw[he,w3]; exact yae ..),i,rfl⟩,vs,⟨h1.len,.inr ⟨b,0,k,c,by rw[hx,q],hb,fun _=>.inl ⟨_,vs,op,u.trans hg,?_,?_,?_⟩⟩⟩,h2.sub i,w⟩
  ·by_cases he:j=b
   ·rw[he,u]
   ·rw[a j he] at hd ⊢
    by_cases y:j < f.nxt
    ·exact s.sub.g j y hd
    ·exact(hd.elim (fun h=>h (s.fz j (by omega))) fun h=>h (s.fv j (by omega))).elim
  ·have h9:m.nxt<=j:=hj;rw[a j (by omega)];exact s.fz j (yad s.sub.nxt h9)
  ·have h9:m.nxt<=j:=hj;exact s.fv j (yad s.sub.nxt h9)
  ·have:=h1.len; rw[q]; omega
  ·have:=h1.len; rw[q]; omega
  ·rw[yau,yaw (yac _)]
 cases h1.own with
 | nil h3 h4=>
  have:l=[]:=yaW h3;subst this;exact⟨f,s,⟨yac _,fun _ _=>rfl,fun _ _ _=>rfl,fun _ _ _=>rfl,.refl f,rfl⟩,Sl.nil f⟩
 | grown b hg hb=>exact hq rfl hg hb rfl (.inr (.inr ⟨b,0,rfl⟩))
 | lit b hg hb=>exact hq rfl hg hb rfl (.inr (.inl ⟨b,0,0,_,rfl,yac _⟩))
theorem Sl.rd1{f:M}{x:C}{l:List α}(h:Sl f x l)(hk:Rp.k α=1){n:Nat}{a:α}(hi:l[n]? = some a) :
  ∃c,(∀m,Sub f m->ldC m (zl4 x (n * 1))=some c)/\Rp.rep f [c] a:=by
 obtain⟨vs,h4,h5,i⟩:=h;obtain⟨h6,h7⟩:=h5.at hi;rw[hk] at h6 h7
 have hl:n * 1 < vs.length:=by omega
 have hd:(vs.drop (n * 1)).take 1=[vs[n * 1]]:=by rw[yat hl]; rfl
 rw[hd] at h7;exact⟨_,fun m s=>(h4.sub s).rd (yak hl),h7⟩
theorem Sl.rdI{f:M}{x:C}{l:List Int}(h:Sl f x l){n:Nat}{a:Int}(hi:l[n]? = some a){m:M}(s:Sub f m):ldC m (zl4 x (n * 1))=some (.int .i64 a):=by
 obtain⟨c,h3,h4⟩:=h.rd1 rfl hi;have h4:[c]=[.int .i64 a]:=h4
 cases h4
 exact h3 m s
theorem Sl.isPt{f:M}{x:C}{l:List α}(h:Sl f x l){n:Nat}{a:α}(hi:l[n]? = some a)(i:Nat):isPt (zl4 x i):=by
 obtain⟨vs,h4,h5,q⟩:=h;exact h4.isPt (by have:=(yah.1 hi).1; omega) i
theorem Sl.isPt'{f:M}{x:C}{l:List α}(h:Sl f x l){n:Nat}{a:α}(hi:l[n]? = some a)(i j:Nat):Go.Abs.isPt (zl3 (zl4 x i) j):=by
 obtain⟨vs,h4,h5,q⟩:=h
 have hn:l.length ≠ 0:=by have:=(yah.1 hi).1; omega
 rw[h4.add hn];exact h4.isPt hn _
theorem Sl.rdP{f:M}{x:C}{l:List α}(h:Sl f x l){n:Nat}{a:α}(hi:l[n]? = some a):∃cs,(∀m,Sub f m->ldA m (zl4 x (n * Rp.k α)) (Rp.k α)=some cs/\(∀j c,cs[j]? = some c->ldC m (zl3 (zl4 x (n * Rp.k α)) j)=some c)/\∀j i,0 < i->j+i<=Rp.k α->ldA m (zl3 (zl4 x (n * Rp.k α)) j) i=some ((cs.drop j).take i))/\Rp.rep f cs a:=by
 obtain⟨vs,h4,h5,u⟩:=h;obtain⟨h6,h7⟩:=h5.at hi
 have hn:l.length ≠ 0:=by have:=(yah.1 hi).1; omega
 refine⟨_,fun m s=>⟨(h4.sub s).rds Rp.pos h6,fun j c hj=>?_,fun j i q w=>?_⟩,h7⟩
 ·rw[h4.add hn];refine(h4.sub s).rd ?_;rw[ya0] at hj
  split at hj
  ·rw[ybj] at hj; exact hj
  ·cases hj
 ·rw[h4.add hn,(h4.sub s).rds q (by omega),<- yaz,ya6,yaH,yaS (by omega)]
theorem zqh{α β:Type}{o:Option α}{k:α->Option β}{r:β}(h:o.bind k=some r):∃a,o=some a/\k a=some r:=by
 cases o with
 | none=>cases h
 | some a=>exact⟨a,rfl,h⟩
open Classical in
def gd{α:Type}(p:Prop)(x:Option α):Option α:=if p then x else none
theorem zqi{α:Type}{p:Prop}{x:Option α}{r:α}(h:gd p x=some r):p/\x=some r:=by
 unfold gd at h
 by_cases hp:p
 ·rw[yab hp] at h; exact⟨hp,h⟩
 ·rw[yaa hp] at h; cases h
theorem zqj{α:Type}{p:Prop}{x:Option α}(h:p):gd p x=x:=yab h
def TA(P:Program)(t k:Nat):Prop:=∃el,tk P t=.sl el/\zct P el=true/\P.cellsOf el=k
theorem Ow.app'{T:Nat}(ht:TA P T (Rp.k α)){F:Fm}{f0 f m m1:M}(s:St F f0 f m){τ:Nat->Nat}{t:Nat}{x:C}{l:List α}(h:Ow F f τ m t x l){cs:List C}{a:α}(hr:Rp.rep f cs a)(i:l.length < 1048576)(e:m1=m.new (.cells (Rp.k α) cs false)) :
  ∃c m2 τ',ApR P T m1 x (.sl m.nxt 0 1 0 (some 1)) c m2/\St F f0 f m2/\Kp τ f m τ' f m2 [t]/\Ow F f τ' m2 t c (l++[a]):=by
 obtain⟨el,h1,h2,h3⟩:=ht;exact h.app (P:=P) h1 h2 h3 s hr i e
theorem Kp.old{τ τ':Nat->Nat}{f f' m m' g:M}{X:List Nat}(k:Kp τ f m τ' f' m' X):Kp τ g m τ' g m' X:=⟨k.nxt,k.tg,k.g,fun _ _ _=>rfl,.refl g,k.vw⟩
theorem Ow.lit0{F:Fm}{f0 f m m1:M}(s:St F f0 f m)(τ:Nat->Nat)(t:Nat)(e:m1=m.new (.cells 0 [] false)):∃τ',St F f0 f m1/\Kp τ f m τ' f m1 []/\Ow F f τ' m1 t (.sl m.nxt 0 0 0 (some 0)) ([]:List α):=by
 obtain⟨τ',h1,h2,h3⟩:=s.blk e τ t;refine⟨τ',h1,h2,⟨[],⟨by simp,.lit _ ?_ h3.bk.lt⟩,rfl⟩,fun b o n s d he=>by cases he; exact⟨h3.new,h3.nf,h3.tg⟩⟩;have:=h3.bk.g
 show m1.g m.nxt=some (.cells (0 * Rp.k α) [] false)
 rw[yaN]; exact this
theorem Cat.set{f:M}:∀{l:List α} {vs:List C},Cat f vs l->∀{n:Nat} {a:α} {E:List C},n < l.length->Rp.rep f E a->Cat f (vs.take (n * Rp.k α)++E++vs.drop (n * Rp.k α+Rp.k α)) (l.set n a)
 | [],_,_,n,_,_,hn,_=>by simp at hn
 | x::l,vs,⟨c,r,h1,h2,h3⟩,0,a,E,_,hE=>by
  have hl:=Rp.len h2;refine⟨E,r,?_,hE,h3⟩;rw[yaN,yay,ya1,yaQ,h1,ybe hl]
 | x::l,vs,⟨c,r,h1,h2,h3⟩,n+1,a,E,hn,hE=>by
  have hl:=Rp.len h2;have ih:=Cat.set h3 (n:=n) (a:=a) (E:=E) (by simpa using hn) hE;refine⟨c,_,?_,h2,ih⟩;rw[h1,show(n+1) * Rp.k α=c.length+n * Rp.k α by rw[Nat.add_mul,Nat.one_mul]; omega,List.take_length_add_append,show c.length+n * Rp.k α+Rp.k α=c.length+(n * Rp.k α+Rp.k α) by omega,List.drop_length_add_append,List.append_assoc,List.append_assoc,List.append_assoc]
theorem zqk{m:M}{b n:Nat}{vs:List C}{op:Bool}(hg:m.g b=some (.cells n vs op))(hl:vs.length=n){o:Nat}{new:List C}(ho:o+new.length<=n):stC m (.ptr b o) new.length new=some (m.set b (.cells n (vs.take o++new++vs.drop (o+new.length)) op)):=by
 show(match m.g b with
  | some (.cells n' vs opn)=>ifB (Nat.beq n' new.length) (ifB (Nat.beq o 0) (some (m.set b (.cells n' new opn))) none) (zaa (zaH o new vs) none fun a=>some (m.set b (.cells n' a opn)))
  | _=>none)=_
 rw[hg]
 show ifB (Nat.beq n new.length) _ (zaa (zaH o new vs) none fun a=>some (m.set b (.cells n a op)))=_
 by_cases hn:n=new.length
 ·have h0:o=0:=by omega
  subst h0;rw[hn,yar,zd0]
  show some (m.set b (.cells new.length new op))=_
  rw[ya1,yaQ,yax (by omega),yaK]
 ·have hb:Nat.beq n new.length=false:=by
   cases hq:Nat.beq n new.length with
   | true=>exact absurd (yan hq) hn
   | false=>rfl
  rw[hb,zd1,zpG new o vs (by omega),zd3]
theorem Ow.setP{F:Fm}{f0 f m:M}(s:St F f0 f m){τ:Nat->Nat}{t:Nat}{x:C}{l:List α}(h:Ow F f τ m t x l){n:Nat}{a a':α}(hi:l[n]? = some a)(E:List C)(hE:∀cs,Rp.rep f cs a->cs=E)(j:Nat)(new:List C)(hj:j+new.length<=Rp.k α)(ha:Rp.rep f (E.take j++new++E.drop (j+new.length)) a') :
  ∃m',stC m (zl3 (zl4 x (n * Rp.k α)) j) new.length new=some m'/\St F f0 f m'/\Kp τ f m τ f m' [t]/\Ow F f τ m' t x (l.set n a'):=by
 obtain⟨vs,h1,h2⟩:=h.own;have hn:=(yah.1 hi).1;obtain⟨c1,c2⟩:=h2.at hi;have w:=hE _ c2;have hk:=Rp.len c2;rw[w] at hk;have D:=h1.len
 have key:∀{b k:Nat} {c:Option Nat} {op:Bool},x=.sl b 0 l.length k c->m.g b=some (.cells (l.length * Rp.k α) vs op)->(∀m' q,m'.g b=some (.cells (l.length * Rp.k α) q op)->m'.nxt=m.nxt->zpY m' (Rp.k α) q l.length x)->∃m',stC m (zl3 (zl4 x (n * Rp.k α)) j) new.length new=some m'/\St F f0 f m'/\Kp τ f m τ f m' [t]/\Ow F f τ m' t x (l.set n a'):=by
  intro b k c op hx hg G;obtain⟨w1,w2,w3⟩:=h.nw _ _ _ _ _ hx;have N:=h.lt hx;have y:=zqk hg (by omega) (o:=n * Rp.k α+j) (new:=new) (by omega)
  have e:vs.take (n * Rp.k α+j)++new++vs.drop (n * Rp.k α+j+new.length)=vs.take (n * Rp.k α)++(E.take j++new++E.drop (j+new.length))++vs.drop (n * Rp.k α+Rp.k α):=by
   rw[<- w,yaH,yaS (by omega),yb8,ya6,yaz]
   have e2:vs.drop (n * Rp.k α+j+new.length)=(vs.drop (n * Rp.k α+(j+new.length))).take (Rp.k α - (j+new.length))++vs.drop (n * Rp.k α+Rp.k α):=by
    rw[show n * Rp.k α+j+new.length=n * Rp.k α+(j+new.length) by omega]
    conv=>lhs; rw[<- yco (Rp.k α - (j+new.length)) (vs.drop (n * Rp.k α+(j+new.length)))]
    rw[yaz,show n * Rp.k α+(j+new.length)+(Rp.k α - (j+new.length))=n * Rp.k α+Rp.k α by omega]
   rw[e2]
   simp only[List.append_assoc]
  rw[e] at y
  have A:∀o b',b' ≠ b->(m.set b o).g b'=m.g b':=fun o b' i=>by rw[M.g_set,yaa i]
  refine⟨m.set b (.cells (l.length * Rp.k α) (vs.take (n * Rp.k α)++(E.take j++new++E.drop (j+new.length))++vs.drop (n * Rp.k α+Rp.k α)) op),?_,s.chg (X:=fun b'=>b'=b) (fun b' i=>by subst i; exact⟨w1,w2⟩) (yac _) rfl (fun b' _ i=>A _ b' i),⟨yac _,fun _ _=>rfl,fun b' _ I=>A _ b' fun he=>I (by rw[he,w3]; exact yae ..),fun _ _ _=>rfl,.refl f,rfl⟩,⟨_,⟨?_,?_⟩,h2.set hn ha⟩,h.nw⟩
  ·rw[hx]
   show stC m (.ptr b (0+n * Rp.k α+j)) _ _=_
   rw[yay]; exact y
  ·rw[yaC,D,yai,yai,yai,yai,yap,yap,yaM,yaM]
   omega
  ·rw[yaC];exact G _ _ (by rw[M.g_set,yab rfl]) rfl
 cases h1.own with
 | nil h3 h4=>omega
 | grown b hg hb=>exact key rfl hg fun m' q u J=>.grown b u (by omega)
 | lit b hg hb=>exact key rfl hg fun m' q u J=>.lit b u (by omega)
theorem Ow.ptr{F:Fm}{f m:M}{τ:Nat->Nat}{t:Nat}{x:C}{l:List α}(h:Ow F f τ m t x l){n:Nat}{a:α}(hi:l[n]? = some a):∃b,∀i,zl4 x i=.ptr b (0+i):=by
 obtain⟨vs,h1,h2⟩:=h.own;have hn:=(yah.1 hi).1
 cases h1.own with
 | nil h3 h4=>omega
 | grown b hg hb=>exact⟨b,fun _=>rfl⟩
 | lit b hg hb=>exact⟨b,fun _=>rfl⟩
theorem Ow.add0{F:Fm}{f m:M}{τ:Nat->Nat}{t:Nat}{x:C}{l:List α}(h:Ow F f τ m t x l){n:Nat}{a:α}(hi:l[n]? = some a)(i:Nat):zl3 (zl4 x i) 0=zl4 x i:=by
 obtain⟨b,e⟩:=h.ptr hi; rw[e]; rfl
theorem Ow.appL{T:Nat}(ht:TA P T (Rp.k α)){F:Fm}{f0 f m:M}(s:St F f0 f m){τ:Nat->Nat}{t:Nat}{x y:C}{l l2:List α}(h:Ow F f τ m t x l)(hy:Sl f y l2)(a:l.length+l2.length<=1048576) :
  ∃c m2 τ',ApR P T m x y c m2/\St F f0 f m2/\Kp τ f m τ' f m2 [t]/\Ow F f τ' m2 t c (l++l2):=by
 obtain⟨el,h1,h2,h3⟩:=ht;obtain⟨ws,q1,q2,_⟩:=hy
 by_cases hj:0 < l2.length
 ·exact h.appS (P:=P) h1 h2 h3 s (.refl m) (q1.sub s.sub) q2 hj a
 ·have i:l2=[]:=yaW (by omega);subst i;have hw:ws=[]:=q2;subst hw;obtain⟨vs,o1,o2⟩:=h.own;refine⟨x,m,τ,zp3 h1 h2 h3 o1 (q1.sub s.sub),s,⟨yac _,fun _ _=>rfl,fun _ _ _=>rfl,fun _ _ _=>rfl,.refl f,rfl⟩,by rw[yaK]; exact h⟩
theorem zql{c:C}{l:List C}(h:znS c=true)(h2:zaL znS l=true):zaL znS (c::l)=true:=by
 show ifB (znS c) (zaL znS l) false=true
 rw[h,h2]; rfl
theorem zqm:zaL znS ([]:List C)=true:=rfl
theorem zqn{c:C}(h:znS c=true):∃x,cC0 c=some x/\c0C x=c:=by
 cases c with
 | fn f a b=>cases h
 | ptr0=>exact⟨_,rfl,rfl⟩
 | sl b o n s c=>exact⟨_,rfl,rfl⟩
 | map r=>exact⟨_,rfl,rfl⟩
 | ptr b o=>exact⟨_,rfl,rfl⟩
 | _=>first | exact⟨_,rfl,rfl⟩ | cases h
theorem zqo:∀{l:List C},zaL znS l=true->∃xs,zaE cC0 l=some xs/\zbZ c0C xs=l
 | [],_=>⟨[],rfl,rfl⟩
 | c::l,h=>by
  have h:ifB (znS c) (zaL znS l) false=true:=h
  cases hc:znS c with
  | false=>rw[hc] at h; cases h
  | true=>
   rw[hc] at h;obtain⟨x,h1,h2⟩:=zqn hc;obtain⟨xs,h3,h4⟩:=zqo h;refine⟨x::xs,?_,?_⟩
   ·show zaa (cC0 c) none (fun y=>zaa (zaE cC0 l) none fun ys=>some (y::ys))=_
    rw[h1,h3]; rfl
   ·show c0C x::zbZ c0C xs=_
    rw[h2,h4]
theorem zqp{n:Nat}{l:List C}(h:zaL znS l=true):∃w,vW (.agg n l)=some w/\wV w=.agg n l:=by
 obtain⟨xs,h1,h2⟩:=zqo h;refine⟨.agg n xs,?_,?_⟩
 ·show zaa (zaE cC0 l) none (fun xs=>some (W.agg n xs))=_
  rw[h1]; rfl
 ·show V.agg n (zbZ c0C xs)=_
  rw[h2]
theorem zqq:∃ws,zaE vW []=some ws/\zbZ wV ws=[]:=⟨[],rfl,rfl⟩
theorem zqr{v:V}{l:List V}(h:∃w,vW v=some w/\wV w=v)(h2:∃ws,zaE vW l=some ws/\zbZ wV ws=l):∃ws,zaE vW (v::l)=some ws/\zbZ wV ws=v::l:=by
 obtain⟨w,h3,h4⟩:=h;obtain⟨ws,h5,h6⟩:=h2;refine⟨w::ws,?_,?_⟩
 ·show zaa (vW v) none (fun y=>zaa (zaE vW l) none fun ys=>some (y::ys))=_
  rw[h3,h5]; rfl
 ·show wV w::zbZ wV ws=_
  rw[h4,h6]
theorem Bk.sub{f m:M}{b n:Nat}{vs:List C}(h:Bk f b n vs)(s:Sub f m):Bk m b n vs:=
 ⟨(s.g b h.lt (.inl (by rw[h.g]; exact yaI _))).trans h.g,yaf h.lt s.nxt⟩
theorem Lb.freeze{F:Fm}{f0 f m:M}{τ:Nat->Nat}{t b n:Nat}{vs:List C}(h:Lb F f τ m t b n vs)(s:St F f0 f m):∃f',St F f0 f' m/\Kp τ f m τ f' m [t]/\Bk f' b n vs:=by
 let f':M:={ nxt:=m.nxt,g:=fun j=>if j=b then m.g b else f.g j,vw:=f.vw }
 have a:∀j,j ≠ b->f'.g j=f.g j:=fun j hj=>yaa hj;have q:f'.g b=m.g b:=yab rfl
 have i:Sub f f':=⟨s.sub.nxt,rfl,fun j hj hd=>a j fun he=>by
  subst he
  exact hd.elim (fun h'=>h' h.nf) fun h'=>h' (s.v0 _ h.new)⟩
 have w:=h.bk.lt;have u:=h.new;refine⟨f',⟨s.ext,⟨yac _,s.sub.vw,fun j hj hd=>?_⟩,fun j hj=>?_,fun j hj=>?_,s.v0,s.fs.trans i,fun j hj hB=>(a j fun he=>by subst he; exact u.elim (fun h=>by omega) hB).trans (s.old j hj hB)⟩,⟨yac _,fun _ _=>rfl,fun _ _ _=>rfl,fun j hj hx=>a j fun he=>hx (by rw[he,h.tg]; exact yae ..),i,rfl⟩,q.trans h.bk.g,w⟩
 ·by_cases he:j=b
  ·rw[he,q]
  ·rw[a j he] at hd ⊢
   by_cases y:j < f.nxt
   ·exact s.sub.g j y hd
   ·exact(hd.elim (fun h=>h (s.fz j (by omega))) fun h=>h (s.fv j (by omega))).elim
 ·have h9:m.nxt<=j:=hj;rw[a j (by omega)];exact s.fz j (yad s.sub.nxt h9)
 ·have h9:m.nxt<=j:=hj;exact s.fv j (yad s.sub.nxt h9)
theorem Bk.sl{f:M}{b N n:Nat}{vs:List C}{l:List α}(h:Bk f b N vs)(hc:Cat f vs l)(hn:l.length=n)(hN:vs.length=N)(k:Nat):Sl f (.sl b 0 n k (some n)) l:=by
 have h3:=hc.len;refine⟨vs,⟨h3,.inr ⟨b,0,k,some n,by rw[hn],h.lt,fun _=>.inl ⟨N,vs,false,h.g,hN,by omega,by rw[yau,yaw (yac _)]⟩⟩⟩,hc,.inr (.inl ⟨b,0,k,n,by rw[hn],by omega⟩)⟩
structure Rs (F:Fm) (f:M) (τ:Nat->Nat) (m:M) (t b:Nat):Prop where
 new:F.m.nxt<=b\/F.B b
 nf:f.g b=none
 tg:τ b=t
 lt:b < m.nxt
theorem Rs.k{F:Fm}{f f' m m':M}{τ τ':Nat->Nat}{t b:Nat}{X:List Nat}(h:Rs F f τ m t b)(k:Kp τ f m τ' f' m' X)(hx:t ∉ X:=by decide):Rs F f' τ' m' t b:=by
 have hx:τ b ∉ X:=by rw[h.tg]; exact hx
 exact⟨h.new,(k.fg b h.lt hx).trans h.nf,(k.tg b h.lt).trans h.tg,yaf h.lt k.nxt⟩
theorem St.grow{F:Fm}{f0 f m m':M}(s:St F f0 f m){k:Nat}(h:m'=zn3 m k)(τ:Nat->Nat):St F f0 f m'/\Kp τ f m τ f m' []:=by
 subst h;have hn:m.nxt<=(zn3 m k).nxt:=ybI _ _;exact⟨s.chg (X:=fun _=>False) (fun _ h=>h.elim) hn rfl fun _ _ _=>rfl,⟨hn,fun _ _=>rfl,fun _ _ _=>rfl,fun _ _ _=>rfl,.refl f,rfl⟩⟩
theorem Rs.set{F:Fm}{f0 f m m':M}{τ:Nat->Nat}{t b n:Nat}{vs:List C}(h:Rs F f τ m t b)(s:St F f0 f m)(e:m'=m.set b (.cells n vs false)):St F f0 f m'/\Kp τ f m τ f m' [t]/\Lb F f τ m' t b n vs:=by
  have h1:St1 m m' b:=.of_set e
  refine⟨s.chg (X:=fun b'=>b'=b) (fun b' h'=>by subst h'; exact⟨h.new,h.nf⟩) (by rw[h1.nxt]; exact yac _) h1.vw fun b' _ a=>h1.g b' a,
    ⟨by rw[h1.nxt]; exact yac _,fun _ _=>rfl,fun b' _ hx=>h1.g b' fun he=>hx (by rw[he,h.tg]; exact yae ..),fun _ _ _=>rfl,.refl f,h1.vw⟩,⟨⟨?_,by rw[h1.nxt]; exact h.lt⟩,h.new,h.nf,h.tg⟩⟩
  rw[e,M.g_set,yab rfl]
theorem St.growK{F:Fm}{f0 f m m':M}(s:St F f0 f m){k:Nat}(h:m'=zn3 m k)(τ:Nat->Nat)(t:Nat):∃τ',St F f0 f m'/\Kp τ f m τ' f m' []/\∀i,i < k->Rs F f τ' m' (t+i) (m.nxt+i):=by
 obtain⟨h1,h2⟩:=s.grow h τ;refine⟨fun b=>if m.nxt<=b then t+(b - m.nxt) else τ b,h1,⟨h2.nxt,fun b hb=>yaa (by omega),h2.g,h2.fg,h2.fs,h2.vw⟩,fun i hi=>⟨.inl (yad s.ext.nxt (ybI _ _)),s.fz _ (yad s.sub.nxt (ybI _ _)),?_,?_⟩⟩
 ·show(if m.nxt<=m.nxt+i then t+(m.nxt+i - m.nxt) else _)=_
  rw[yab (by omega)]; omega
 ·subst h
  show m.nxt+i < m.nxt+k
  omega
theorem Seg.part{m:M}{b o:Nat}{vs:List C}(h:Seg m b o vs){a l:Nat}(u:a+l<=vs.length):Seg m b (o+a) ((vs.drop a).take l):=by
 have i:((vs.drop a).take l).length=l:=by rw[yap,yaM]; omega
 have key:∀(w:List C) (p n:Nat),a+l<=n->(((w.drop p).take n).drop a).take l=(w.drop (p+a)).take l:=fun w p n hn=>by rw[ya6,yaH,yaz,yaS (by omega)]
 have s:∀(w:List C) (p:Nat),(w.drop p).take vs.length=vs->(w.drop (p+a)).take l=(vs.drop a).take l:=fun w p hw=>by
  have:=key w p vs.length u;rw[hw] at this;exact this.symm
 rcases h with ⟨n,ws,op,h1,h2,h3,h4⟩ | ⟨h1,q,h2,h3,h4,h5⟩
 ·exact .inl ⟨n,ws,op,h1,h2,by rw[i]; omega,by rw[i]; exact s ws o h4⟩
 ·refine .inr ⟨h1,q,h2,by omega,by rw[i]; omega,?_⟩;rw[i,show o+a - q.1=(o - q.1)+a by omega];exact s q.2 _ h5
theorem Cat.part{f:M}:∀{l:List α} {vs:List C},Cat f vs l->∀(i:Nat),Cat f (vs.drop (i * Rp.k α)) (l.drop i)/\Cat f (vs.take (i * Rp.k α)) (l.take i)
 | [],_,h,i=>by have h:_=[]:=h; rw[h]; simp[Cat]
 | a::l,_,h,0=>by rw[yaN,yau,ya1,yau,ya1]; exact⟨h,rfl⟩
 | a::l,_,⟨c,r,h1,h2,h3⟩,i+1=>by
  have hl:=Rp.len h2;obtain⟨q1,q2⟩:=Cat.part h3 i;rw[h1,yaV,ybq,show i * Rp.k α+Rp.k α=c.length+i * Rp.k α by omega,<- yaz,ybe rfl,List.take_length_add_append];exact⟨q1,c,_,rfl,h2,q2⟩
theorem Sl.subC{f:M}{x:C}{l:List α}(h:Sl f x l){i j:Nat}(w:i<=j)(hj:j<=l.length):∃c,Go.Abs.subC (Rp.k α) x i j=some c/\Sl f c ((l.take j).drop i):=by
 obtain⟨vs,h4,h5,h6⟩:=h;have hl:=h4.len;have hk:=Rp.pos (α:=α)
 have e1:i * Rp.k α+(j - i) * Rp.k α=j * Rp.k α:=by rw[<- yaV]; congr 1; omega
 have e2:j * Rp.k α<=l.length * Rp.k α:=yaO _ hj
 have y:Cat f ((vs.drop (i * Rp.k α)).take ((j - i) * Rp.k α)) ((l.take j).drop i):=by
  have q:=((h5.part j).2.part i).1;rw[ya6] at q
  rwa [show j * Rp.k α - i * Rp.k α=(j - i) * Rp.k α by omega] at q
 have a:((l.take j).drop i).length=j - i:=by rw[yaM,yap]; omega
 have A:(j - i) * Rp.k α=((vs.drop (i * Rp.k α)).take ((j - i) * Rp.k α)).length:=by rw[yap,yaM]; omega
 have mk:∀b o' s' c',b < f.nxt->(j - i ≠ 0->Seg f b o' ((vs.drop (i * Rp.k α)).take ((j - i) * Rp.k α)))->zqa (.sl b o' (j - i) s' c') (Rp.k α) (j - i)->Sl f (.sl b o' (j - i) s' c') ((l.take j).drop i):=fun b o' s' c' hb hs D=>
  ⟨_,⟨by rw[a]; exact A,.inr ⟨b,o',s',c',by rw[a],hb,fun h0=>hs (by rw[a] at h0; exact h0)⟩⟩,y,by rw[a]; exact D⟩
 rcases h6 with ⟨rfl,h0⟩ | ⟨b,o,s,c,rfl,hc⟩ | ⟨b,o,rfl⟩
 ·have:j=0:=by omega
  have:i=0:=by omega
  subst_vars
  exact⟨.sl0,rfl,by simpa using Sl.nil f⟩
 ·obtain⟨hb,u⟩:b < f.nxt/\(l.length ≠ 0->Seg f b o vs):=by
   rcases h4.val with ⟨h0,_⟩ | ⟨b',o',s',c',h0,h3,h4⟩
   ·cases h0
   ·cases h0; exact⟨h3,h4⟩
  refine⟨.sl b (ifB (Nat.beq c i) o (Nat.add o (Nat.mul i (Rp.k α)))) (Nat.sub j i) 0 (some (Nat.sub c i)),?_,?_⟩
  ·show ifB (Nat.ble i j) (ifB (Nat.ble j c) _ none) none=_
   rw[yao w,yao (show j<=c by omega)]; rfl
  ·refine mk _ _ _ _ hb (fun F=>?_) (.inr (.inl ⟨_,_,_,_,rfl,by show j - i<=c - i; omega⟩))
   have G:Nat.beq c i=false:=by
    cases hq:Nat.beq c i with
    | true=>have:=yan hq; omega
    | false=>rfl
   rw[G];exact(u (by omega)).part (yad (ybO e1) (yad e2 (ybO hl)))
 ·obtain⟨hb,u⟩:b < f.nxt/\(l.length ≠ 0->Seg f b o vs):=by
   rcases h4.val with ⟨h0,_⟩ | ⟨b',o',s',c',h0,h3,h4⟩
   ·cases h0
   ·cases h0; exact⟨h3,h4⟩
  refine⟨.sl b (Nat.add o (Nat.mul i (Rp.k α))) (Nat.sub j i) (Rp.k α) none,?_,?_⟩
  ·show ifB (Nat.ble i j) (ifB (Nat.ble j l.length) (ifB (Nat.beq (Rp.k α) (Rp.k α)) _ none) none) none=_
   rw[yao w,yao hj,yar]; rfl
  ·exact mk _ _ _ _ hb (fun F=>(u (by omega)).part (yad (ybO e1) (yad e2 (ybO hl)))) (.inr (.inr ⟨_,_,rfl⟩))
end
end Go.Abs

namespace Go.Abs
noncomputable section
inductive X where
 | int (k:IntKind) (n:Int) | bool (b:Bool) | str (s:ByteArray) | nilS | sl (a:Addr) (cap:Nat) (els:List (List C))
theorem zqs{k:IntKind}{n:Int}(h:(Lit.int k n).wf=true):zl2 k n:=by
 simp only[Lit.wf,Bool.and_eq_true,decide_eq_true_eq] at h
 obtain⟨h1,h2⟩:=h
 cases k <;> simp only[IntKind.min,IntKind.max,IntKind.signed,IntKind.bits] at h1 h2 <;> simp only[zl2] <;> simp at h1 h2 <;> omega
section
variable {H:Type} {enc:TypeId × Value->H} {P:Program} {W:World} {held:Bool}
theorem cells?_at{a:Addr}{k:Nat}{cs:List Value}(h:W.cells? 0 a k=some cs):cs.length=k/\∀j,j < k->W.cell? (a.add j)=cs[j]?:=by
 unfold World.cells? at h;rw[yab (yam _)] at h;refine⟨by simpa using mapM_some_length h,fun j hj=>mapM_some_get h j j (by simp[hj])⟩
theorem zqt(b o i j:Nat):((⟨b,o,none⟩:Addr).add i).add j=⟨b,o+i+j,none⟩:=by rw[zeG,zeG]
end
end
end Go.Abs

namespace Go.Abs
noncomputable section
theorem zqu{P:Program}(hP:zgB P){T:List (Nat × Bool)}(hT:zlh P T){f:FuncId}{args:List V}{m:M}{Q:V->M->Prop}(h:Wc P T f args m Q){e:Env}{w:World}(hr:HR e (toH m) w){args':Array Value}(ha:zen (VR e) args args'.toList)(n:Nat) :
  CallsIn Fence.wide n P f args' w fun en w'=>∃v v' e' m',en=.returned v'/\zeB e (toH m) w e' (toH m') w'/\VR e' v v'/\Q v m':=by
 obtain⟨k,h0⟩:=h;have hs:=(zlK hP hT k).call f args e3 (toH m) e w args' hr ha (zlU h0);refine(hs.2 n).mono fun en w' hp=>?_;obtain⟨u,v',tm',e',h',q1,q2,q3,q4,q5⟩:=hp;obtain⟨m',rfl,hq⟩:=zlV h0 q2;exact⟨_,v',e',m',q1,q3,q5,hq⟩
end
end Go.Abs

namespace Go.Abs
set_option maxRecDepth 100000
noncomputable section
open Classical
variable {P:Program} {kt:TypeId} {κ:Type} {enc:κ->U}
structure zqv (P:Program) (kt:TypeId) (enc:κ->U):Prop where
 plain:∃ks,zbb P kt=some ks
 eq:∀a b:κ,eqV P kt (uV (enc a)) (uV (enc b))=some (decide (a=b))
def zqw(enc:κ->U)(es:List E):Prop:=∀e∈es,∃a,e.k=enc a
def look(enc:κ->U)(es:List E)(a:κ):Option U:=
 match es with
 | []=>none
 | e::es=>if e.k=enc a then some e.v else look enc es a
theorem zqv.inj(h:zqv P kt enc){a b:κ}(he:enc a=enc b):a=b:=by
 have h1:=h.eq a b;rw[he,h.eq b b] at h1
 simpa using h1
theorem zqx(u:U):vU (uV u)=some u:=by cases u <;> rfl
theorem zqy(h:zqv P kt enc)(a:κ):∀{es:List E} (i:Nat),zqw enc es->∃r,zcd P kt (uV (enc a)) es i=some r/\zaa r none (fun q=>some q.2)=look enc es a /\
  ∀yu:U,∀clock:Nat,zqw enc (zaa r (appS es [{ k:=enc a,v:=yu,born:=clock }]) fun q=>zce (enc a) yu es (q.1 - i)) /\
   (∀b,look enc (zaa r (appS es [{ k:=enc a,v:=yu,born:=clock }]) fun q=>zce (enc a) yu es (q.1 - i)) b=if b=a then some yu else look enc es b)/\(∀q,r=some q->i<=q.1)
 | [],i,_=>by
  refine⟨none,rfl,rfl,fun yu clock=>⟨?_,fun b=>?_,fun q hq=>by cases hq⟩⟩
  ·intro e he
   have:e={ k:=enc a,v:=yu,born:=clock }:=by simpa [appS,zaa] using he
   exact⟨a,by rw[this]⟩
  ·show look enc [_] b=_
   unfold look
   by_cases hb:b=a
   ·rw[yab hb,yab (by rw[hb])]
   ·rw[yaa hb,yaa fun he=>hb (h.inj he).symm]; rfl
 | e::es,i,hk=>by
  obtain⟨a',s⟩:=hk e (yae ..);have D:zqw enc es:=fun e he=>hk e (yag _ he);obtain⟨r,hr,hl,hu⟩:=zqy h a (i+1) D;have he:zcd P kt (uV (enc a)) (e::es) i=zaa (eqV P kt (uV (enc a)) (uV e.k)) none fun b=>ifB b (some (some (i,e.v))) (zcd P kt (uV (enc a)) es (i+1)):=rfl;rw[s,h.eq] at he
  by_cases u:a=a'
  ·have w:zcd P kt (uV (enc a)) (e::es) i=some (some (i,e.v)):=by rw[he,decide_eq_true u]; rfl
   refine⟨_,w,?_,fun yu clock=>⟨?_,fun b=>?_,fun q hq=>?_⟩⟩
   ·show some e.v=if e.k=enc a then some e.v else look enc es a
    rw[yab (by rw[s,u])]
   ·show zqw enc (zce (enc a) yu (e::es) (i - i))
    rw[ybn];intro e' y
    rcases yal.1 y with rfl | h2
    ·exact⟨a,rfl⟩
    ·exact D _ h2
   ·show look enc (zce (enc a) yu (e::es) (i - i)) b=_
    rw[ybn]
    show(if enc a=enc b then some yu else look enc es b)=if b=a then some yu else if e.k=enc b then some e.v else look enc es b
    by_cases hb:b=a
    ·rw[yab hb,yab (by rw[hb])]
    ·rw[yaa hb,yaa fun he=>hb (h.inj he).symm,yaa fun he=>hb (by rw[s] at he; rw[u]; exact(h.inj he).symm)]
   ·cases hq; exact yac _
  ·have w:zcd P kt (uV (enc a)) (e::es) i=some r:=by rw[he,decide_eq_false u]; exact hr
   refine⟨r,w,?_,fun yu clock=>?_⟩
   ·rw[hl]
    show look enc es a=if e.k=enc a then some e.v else look enc es a
    rw[yaa fun h2=>u (by rw[s] at h2; exact(h.inj h2).symm)]
   ·obtain⟨u1,u2,u3⟩:=hu yu clock
    have A:(zaa r (appS (e::es) [{ k:=enc a,v:=yu,born:=clock }]) fun q=>zce (enc a) yu (e::es) (q.1 - i))=e::(zaa r (appS es [{ k:=enc a,v:=yu,born:=clock }]) fun q=>zce (enc a) yu es (q.1 - (i+1))):=by
     cases r with
     | none=>
      show zaD e _=_
      exact zeo e _
     | some q=>
      have:=u3 q rfl
      show zce (enc a) yu (e::es) (q.1 - i)=e::zce (enc a) yu es (q.1 - (i+1))
      rw[show q.1 - i=(q.1 - (i+1))+1 by omega]
      show zaD e _=_
      exact zeo e _
    rw[A];refine⟨fun e' y=>?_,fun b=>?_,fun q hq=>by have:=u3 q hq; omega⟩
    ·rcases yal.1 y with rfl | h2
     ·exact⟨a',s⟩
     ·exact u1 _ h2
    ·show(if e.k=enc b then some e.v else look enc _ b)=if b=a then some yu else if e.k=enc b then some e.v else look enc es b
     rw[u2]
     by_cases h3:e.k=enc b
     ·rw[yab h3,yab h3,yaa fun h4=>u (by rw[h4,s] at h3; exact(h.inj h3).symm)]
     ·rw[yaa h3,yaa h3]
def zqz(es:List E)(clock:Nat):Prop:=(∀p∈es.map fun e=>(e.k,e.born),p.2 < clock)/\(es.map fun e=>(e.k,e.born)).Pairwise fun p q=>p.2 ≠ q.2/\p.1 ≠ q.1
theorem zqA(h:zqv P kt enc)(a:κ):∀{es:List E} (i:Nat),zqw enc es->∀{r:Option (Nat × U)},zcd P kt (uV (enc a)) es i=some r ->
  (∀q,r=some q->i<=q.1/\∀yu,(zce (enc a) yu es (q.1 - i)).map (fun e=>(e.k,e.born))=es.map fun e=>(e.k,e.born))/\(r=none->∀e∈es,e.k ≠ enc a)
 | [],i,_,r,hr=>by cases hr; exact⟨(fun _ h=>by cases h),fun _ e he=>(by cases he)⟩
 | e::es,i,hk,r,hr=>by
  obtain⟨a',u⟩:=hk e (yae ..);have y:zqw enc es:=fun e he=>hk e (yag _ he);have he:zcd P kt (uV (enc a)) (e::es) i=zaa (eqV P kt (uV (enc a)) (uV e.k)) none fun b=>ifB b (some (some (i,e.v))) (zcd P kt (uV (enc a)) es (i+1)):=rfl;rw[u,h.eq,hr] at he
  by_cases s:a=a'
  ·rw[decide_eq_true s] at he;have w:r=some (i,e.v):=oi he;subst w;refine⟨fun q hq=>?_,fun h=>by cases h⟩
   cases hq
   refine⟨yac _,fun yu=>?_⟩;rw[ybn]
   show(enc a,e.born)::_=(e.k,e.born)::_
   rw[u,s]
  ·rw[decide_eq_false s] at he;have w:zcd P kt (uV (enc a)) es (i+1)=some r:=he.symm;obtain⟨q1,q2⟩:=zqA h a (i+1) y w;refine⟨fun q hq=>?_,fun hn e' A=>?_⟩
   ·obtain⟨q3,q4⟩:=q1 q hq;refine⟨by omega,fun yu=>?_⟩;rw[show q.1 - i=(q.1 - (i+1))+1 by omega]
    show(zaD e (zce (enc a) yu es (q.1 - (i+1)))).map _=_
    rw[zeo,yaX,q4,yaX]
   ·rcases yal.1 A with rfl | h2
    ·rw[u]; exact fun hc=>s (h.inj hc).symm
    ·exact q2 hn _ h2
theorem zqz.set{es a:List E}{clock:Nat}(h:zqz es clock)(he:a.map (fun e=>(e.k,e.born))=es.map fun e=>(e.k,e.born)):zqz a clock:=by unfold zqz; rw[he]; exact h
theorem zqz.app{es:List E}{clock:Nat}(h:zqz es clock){k v:U}(hk:∀e∈es,e.k ≠ k):zqz (appS es [{ k:=k,v:=v,born:=clock }]) (clock+1):=by
 unfold zqz;rw[zep,ybk,yaX,List.map_nil];refine⟨fun p hp=>?_,?_⟩
 ·rcases yaL.1 hp with hp | hp
  ·have:=h.1 p hp; omega
  ·rw[yaP.1 hp]; exact ybd _
 ·rw[List.pairwise_append];refine⟨h.2,List.pairwise_singleton _ _,fun p hp q hq=>?_⟩;rw[yaP.1 hq];have h1:=h.1 p hp;obtain⟨e,he,rfl⟩:=yaq.1 hp;exact⟨Nat.ne_of_lt h1,hk e he⟩
structure Mp (enc:κ->U) (m:M) (b:Nat) (f:κ->Option U):Prop where
 ex:∃es clock,m.g b=some (.map es clock)/\zqw enc es/\(∀a,look enc es a=f a)/\zqz es clock
 lt:b < m.nxt
theorem Mp.new{m m0:M}(h:m0=m.new (.map [] 0)):Mp enc m0 m.nxt (fun _=>none)/\Ext m m0:=by
 subst h;exact⟨⟨⟨[],0,by rw[M.g_new,yab rfl],fun e he=>(by cases he),fun _=>rfl,⟨fun _ h=>(by cases h),.nil⟩⟩,by rw[M.nxt_new]; omega⟩,Ext.new m _⟩
theorem Mp.ext{m m':M}{b:Nat}{f:κ->Option U}(h:Mp enc m b f)(e:Ext m m'):Mp enc m' b f:=by
 obtain⟨es,clock,h1,h2⟩:=h.ex;exact⟨⟨es,clock,(e.g b h.lt).trans h1,h2⟩,yaf h.lt e.nxt⟩
theorem Mp.lk(hK:zqv P kt enc){m:M}{b:Nat}{f:κ->Option U}(h:Mp enc m b f)(a:κ){k:V}(hk:k=uV (enc a)):lkM P kt m (.map b) k=some (f a):=by
 subst hk;obtain⟨es,clock,h1,h2,h3,_⟩:=h.ex;obtain⟨ks,hp⟩:=hK.plain;obtain⟨r,hr,hl,_⟩:=zqy hK a 0 h2;unfold lkM;rw[hp,zd3,hK.eq,zd3,<- h3 a,<- hl]
 simp only[h1]
 rw[hr]; rfl
theorem Mp.up(hK:zqv P kt enc){m:M}{b:Nat}{f:κ->Option U}(h:Mp enc m b f)(a:κ)(y:U){k yv:V}(hk:k=uV (enc a))(hy:yv=uV y) :
  ∃o,upM P kt m (.map b) k yv=some (m.set b o)/\Mp enc (m.set b o) b (fun b=>if b=a then some y else f b):=by
 subst hk hy;obtain⟨es,clock,h1,h2,h3,h4⟩:=h.ex;obtain⟨ks,hp⟩:=hK.plain;obtain⟨r,hr,_,hu⟩:=zqy hK a 0 h2;obtain⟨k1,k2⟩:=zqA hK a 0 h2 hr;obtain⟨u1,u2,_⟩:=hu y clock;unfold upM;rw[hp,zd3]
 simp only[h1]
 rw[zqx,zd3,zqx,zd3,hK.eq,zd3,hr,zd3]
 cases r with
 | none=>exact⟨_,rfl,⟨_,_,(by rw[M.g_set,yab rfl]; rfl),u1,fun b=>by rw[u2,h3],h4.app (k2 rfl)⟩,h.lt⟩
 | some q=>exact⟨_,rfl,⟨_,_,(by rw[M.g_set,yab rfl]; rfl),u1,fun b=>by have:=u2 b; rw[h3] at this; exact this,h4.set ((k1 q rfl).2 y)⟩,h.lt⟩
end
end Go.Abs

namespace Go.Abs
set_option maxRecDepth 100000
noncomputable section
open Classical
variable {P:Program}
class MK (K:Type) where
  enc:K->U
  fit:K->Prop
class MV (V:Type) where
  enc:V->U
instance:MV Int:=⟨fun a=>.c (.int .i64 a)⟩
instance:MV Bool:=⟨fun a=>.c (.bool a)⟩
def zqB(K:Type)[MK K](k:{k:K // MK.fit k}):U:=MK.enc k.1
def KL(P:Program)(kt:TypeId)(K:Type)[MK K]:Prop:=zqv P kt (zqB K)
variable {K V':Type} [MK K] [MV V']
def Mi(m:M)(c:C)(M:Option (K->Option V')):Prop:=
 match M with
 | none=>c=.map0
 | some f=>∃b,c=.map b/\Mp (zqB K) m b (fun k=>(f k.1).map MV.enc)
def zqC(M:Option (K->Option V'))(k:K):Option V':=M.bind fun f=>f k
def zqD(M:Option (K->Option V'))(k:K)(v:V'):Option (Option (K->Option V')):=M.map fun f=>some fun j=>if j=k then some v else f j
structure Mo (F:Fm) (f:M) (τ:Nat->Nat) (m:M) (t:Nat) (c:C) (M:Option (K->Option V')):Prop where
 mi:Mi m c M
 own:∀b,c=.map b->(F.m.nxt<=b\/F.B b)/\f.g b=none/\τ b=t/\b < m.nxt
theorem Mp.to{κ:Type}{enc:κ->U}{m m':M}{b:Nat}{f:κ->Option U}(h:Mp enc m b f)(hn:m.nxt<=m'.nxt)(hg:m'.g b=m.g b):Mp enc m' b f:=by
 obtain⟨es,clock,h1,h2⟩:=h.ex;exact⟨⟨es,clock,hg.trans h1,h2⟩,yaf h.lt hn⟩
theorem Mi.to{m m':M}{c:C}{M:Option (K->Option V')}(h:Mi m c M)(hn:m.nxt<=m'.nxt)(hg:∀b,c=.map b->m'.g b=m.g b):Mi m' c M:=by
 cases M with
 | none=>exact h
 | some f=>
  obtain⟨b,h1,h2⟩:=h;exact⟨b,h1,h2.to hn (hg b h1)⟩
theorem Mo.k{F:Fm}{f f' m m':M}{τ τ':Nat->Nat}{t:Nat}{c:C}{M:Option (K->Option V')}{X:List Nat}(h:Mo F f τ m t c M)(k:Kp τ f m τ' f' m' X)(hx:t ∉ X:=by decide):Mo F f' τ' m' t c M:=by
 have hX:∀b,c=.map b->τ b ∉ X:=fun b hb=>by rw[(h.own b hb).2.2.1]; exact hx
 refine⟨h.mi.to k.nxt fun b hb=>k.g b (h.own b hb).2.2.2 (hX b hb),fun b hb=>?_⟩;obtain⟨q1,q2,q3,q4⟩:=h.own b hb;exact⟨q1,(k.fg b q4 (hX b hb)).trans q2,(k.tg b q4).trans q3,yaf q4 k.nxt⟩
theorem Mo.new{F:Fm}{f0 f m m':M}(s:St F f0 f m)(h:m'=m.new (.map [] 0))(τ:Nat->Nat)(t:Nat):∃τ',St F f0 f m'/\Kp τ f m τ' f m' []/\Mo F f τ' m' t (.map m.nxt) (some fun _=>none:Option (K->Option V')):=by
 obtain⟨h1,h2⟩:=s.new h τ t;refine⟨_,h1,h2,⟨m.nxt,rfl,(Mp.new (enc:=zqB K) h).1⟩,fun b hb=>?_⟩
 cases hb
 exact⟨.inl s.ext.nxt,s.fz _ s.sub.nxt,yab rfl,by rw[h,M.nxt_new]; omega⟩
theorem Mo.nil(F:Fm)(f:M)(τ:Nat->Nat)(m:M)(t:Nat):Mo F f τ m t .map0 (none:Option (K->Option V')):=⟨rfl,fun b hb=>by cases hb⟩
theorem Mi.lk{kt:TypeId}(hK:KL P kt K){m:M}{c:C}{M:Option (K->Option V')}(h:Mi m c M){k:K}(hf:MK.fit k){kv:V}(hk:kv=uV (MK.enc k)):lkM P kt m c kv=some ((zqC M k).map MV.enc):=by
 cases M with
 | none=>
  have h:c=.map0:=h;subst h hk;obtain⟨ks,hp⟩:=zqv.plain hK;unfold lkM;rw[hp,zd3,show eqV P kt (uV (MK.enc k)) (uV (MK.enc k))=_ from hK.eq ⟨k,hf⟩ ⟨k,hf⟩,zd3]
  rfl
 | some f=>
  obtain⟨b,rfl,h2⟩:=h;exact h2.lk hK ⟨k,hf⟩ hk
theorem Mo.up{kt:TypeId}(hK:KL P kt K){F:Fm}{f0 f m:M}(s:St F f0 f m){τ:Nat->Nat}{t:Nat}{c:C}{M M':Option (K->Option V')}(h:Mo F f τ m t c M){k:K}(hf:MK.fit k){v:V'}(hM:zqD M k v=some M'){kv yv:V}(hk:kv=uV (MK.enc k))(hy:yv=uV (MV.enc v)) :
  ∃m',upM P kt m c kv yv=some m'/\St F f0 f m'/\Kp τ f m τ f m' [t]/\Mo F f τ m' t c M':=by
 cases M with
 | none=>cases hM
 | some g=>
  cases hM
  obtain⟨b,rfl,h2⟩:=h.mi;obtain⟨q1,q2,q3,q4⟩:=h.own b rfl;obtain⟨o,h3,h4⟩:=h2.up hK ⟨k,hf⟩ (MV.enc v) hk hy
  have q:∀b',b' ≠ b->(m.set b o).g b'=m.g b':=fun b' a=>by rw[M.g_set,yaa a]
  refine⟨_,h3,s.chg (X:=fun b'=>b'=b) (fun b' a=>by subst a; exact⟨q1,q2⟩) (yac _) rfl fun b' _ a=>q b' a,⟨yac _,fun _ _=>rfl,fun b' _ hx=>q b' fun he=>hx (by rw[he,q3]; exact yae ..),fun _ _ _=>rfl,.refl f,rfl⟩,⟨b,rfl,?_⟩,fun b' a=>by cases a; exact⟨q1,q2,q3,q4⟩⟩
  have e:(fun b':{k:K // MK.fit k}=>@ite (Option U) (b'=⟨k,hf⟩) (propDecidable (b'=⟨k,hf⟩)) (some (MV.enc v)) ((g b'.1).map MV.enc))=fun k'=>Option.map MV.enc (if k'.1=k then some v else g k'.1):=by
   funext k'
   by_cases i:k'.1=k
   ·rw[yab (Subtype.ext i),yab i]; rfl
   ·rw[yaa fun h=>i (congrArg Subtype.val h),yaa i]
  exact e ▸ h4
theorem Mi.noFn{m:M}{c:C}{M:Option (K->Option V')}(h:Mi m c M):znS c=true:=by
 cases M with
 | none=>have h:c=.map0:=h; subst h; rfl
 | some f=>obtain⟨b,rfl,_⟩:=h; rfl
theorem zqE{k:IntKind}{a b:Int}(ha:zl2 k a)(hb:zl2 k b):eqK (.int k) (.int k a) (.int k b)=some (decide (a=b)):=by
 cases k <;> (show ifB (Go.Abs.fits _ a) (ifB (Go.Abs.fits _ b) (some (zaT a b)) none) none=_; rw[zmL ha,zmL hb,zga]; rfl)
theorem zqF{p q:Prop}[Decidable p][Decidable q][Decidable (p/\q)]:ifB (decide p) (decide q) false=decide (p/\q):=by
 by_cases hp:p <;> by_cases hq:q <;> simp[hp,hq,ifB]
theorem zqG:zby [] [] []=some (decide True):=by rw[decide_eq_true trivial]; rfl
theorem zqH{k:CK}{ks:List CK}{x y:C}{xs ys:List C}{p q:Prop}[Decidable p][Decidable q](h:eqK k x y=some (decide p))(h2:zby ks xs ys=some (decide q)):zby (k::ks) (x::xs) (y::ys)=some (decide (p/\q)):=by
 show zaa (eqK k x y) none (fun b=>zaa (zby ks xs ys) none fun r=>some (ifB b r false))=_
 rw[h,h2,zd3,zd3,zqF]
theorem zqI{kt n:Nat}{ks:List CK}(q:zbb P kt=some ks)(s:za9 P kt=true){cs:K->List C}(i:∀k,MK.enc k=.agg n (cs k))(h:∀a b:K,MK.fit a->MK.fit b->∃(p:Prop) (_:Decidable p),zby ks (cs a) (cs b)=some (decide p)/\(p↔a=b)):KL P kt K:=by
 refine⟨⟨_,q⟩,fun a b=>?_⟩;obtain⟨a,fa⟩:=a;obtain⟨b,fb⟩:=b;obtain⟨p,_,h1,h2⟩:=h a b fa fb
 have ea:uV (zqB K ⟨a,fa⟩)=.agg n (cs a):=by show uV (MK.enc a)=_; rw[i]; rfl
 have eb:uV (zqB K ⟨b,fb⟩)=.agg n (cs b):=by show uV (MK.enc b)=_; rw[i]; rfl
 rw[ea,eb];unfold eqV;rw[q,zd3]
 show zaa (ifB (za9 P kt) (some (cs a)) none) none (fun xs=>zaa (ifB (za9 P kt) (some (cs b)) none) none fun ys=>zby ks xs ys)=_
 rw[s]
 show zby ks (cs a) (cs b)=_
 rw[h1];exact congrArg some (decide_eq_decide.2 ⟨fun h=>Subtype.ext (h2.1 h),fun h=>h2.2 (congrArg Subtype.val h)⟩)
def zqJ{α β:Type}(o:Option α)(a:Option β)(f:α->Option β):Option β:=match o with | none=>a | some v=>f v
theorem zqK{α β:Type}{o:Option α}{a:Option β}{f:α->Option β}(h:o=none):zqJ o a f=a:=by rw[h]; rfl
theorem zqL{α β:Type}{o:Option α}{a:Option β}{f:α->Option β}{v:α}(h:o=some v):zqJ o a f=f v:=by rw[h]; rfl
end
end Go.Abs

namespace Go.Abs
set_option maxRecDepth 100000
noncomputable section
variable {P:Program} {T:List (Nat × Bool)}
class IV (α:Type) where
  encs:α->List V
instance {α:Type} [MV α]:IV α:=⟨fun a=>[uV (MV.enc a)]⟩
instance {α β:Type} [MV α] [MV β]:IV (α × β):=⟨fun a=>[uV (MV.enc a.1),uV (MV.enc a.2)]⟩
variable {α:Type} [IV α]
def It(P:Program)(T:List (Nat × Bool))(f:M)(x:C)(l:List α):Prop:=
 ∃g a b D R,x=.fn (.func g) a b/\zp8 P T x (l.map IV.encs) D R/\(∀m,Sub f m->R m)/\∀b,D b->b < f.nxt/\(f.g b ≠ none\/f.vw b ≠ none)
theorem It.sub{f m:M}{x:C}{l:List α}(h:It P T f x l)(s:Sub f m):It P T m x l:=by
 obtain⟨g,a,b,D,R,h1,h2,h3,h4⟩:=h;refine⟨g,a,b,D,R,h1,h2,fun m' hs=>h3 m' (s.trans hs),fun b hb=>?_⟩;obtain⟨q1,q2⟩:=h4 b hb;exact⟨yaf q1 s.nxt,by rw[s.g b q1 q2,s.vw]; exact q2⟩
def zqM(x:C)(b:Nat):Prop:=∃o n s d,x=.sl b o n s d
structure Gud (n0 tR:Nat) (Z:Nat->Prop) (A:Fm->M->(Nat->Nat)->M->Prop):Prop where
 loc:∀G f τ m m',A G f τ m->m.nxt<=m'.nxt->m'.vw=m.vw->(∀b,b < n0\/Z b->m'.g b=m.g b)->A G f τ m'
 tg:∀G f τ τ' m,A G f τ m->(∀b,b < n0\/Z b->τ' b=τ b)->A G f τ' m
 fr:∀G G' f τ m,A G f τ m->(∀b,b < n0\/Z b->b < m.nxt->f.g b=none->τ b ≠ tR->(G.m.nxt<=b\/G.B b)->(G'.m.nxt<=b\/G'.B b))->A G' f τ m
 z:∀G f τ m,A G f τ m->∀b,Z b->b < m.nxt/\f.g b=none/\τ b ≠ tR/\(G.m.nxt<=b\/G.B b)
namespace Gud
variable {n0 tR:Nat} {Z Z':Nat->Prop} {A A':Fm->M->(Nat->Nat)->M->Prop}
theorem and(h:Gud n0 tR Z A)(h':Gud n0 tR Z' A'):Gud n0 tR (fun b=>Z b\/Z' b) (fun G f τ m=>A G f τ m/\A' G f τ m):=
  ⟨fun G f τ m m' q hn hv hg=>⟨h.loc G f τ m m' q.1 hn hv fun b hb=>hg b (hb.imp id .inl),h'.loc G f τ m m' q.2 hn hv fun b hb=>hg b (hb.imp id .inr)⟩,
   fun G f τ τ' m q hg=>⟨h.tg G f τ τ' m q.1 fun b hb=>hg b (hb.imp id .inl),h'.tg G f τ τ' m q.2 fun b hb=>hg b (hb.imp id .inr)⟩,
   fun G G' f τ m q hg=>⟨h.fr G G' f τ m q.1 fun b hb=>hg b (hb.imp id .inl),h'.fr G G' f τ m q.2 fun b hb=>hg b (hb.imp id .inr)⟩,
   fun G f τ m q b hb=>hb.elim (h.z G f τ m q.1 b) (h'.z G f τ m q.2 b)⟩
theorem lb{t b n:Nat}{vs:List C}(hb:b < n0)(ht:t ≠ tR):Gud n0 tR (fun _=>False) (fun G f τ m=>Lb G f τ m t b n vs):=
  ⟨fun G f τ m m' q hn hv hg=>⟨⟨(hg b (.inl hb)).trans q.bk.g,yaf q.bk.lt hn⟩,q.new,q.nf,q.tg⟩,
   fun G f τ τ' m q hg=>⟨q.bk,q.new,q.nf,(hg b (.inl hb)).trans q.tg⟩,
   fun G G' f τ m q hg=>⟨q.bk,hg b (.inl hb) q.bk.lt q.nf (by rw[q.tg]; exact ht) q.new,q.nf,q.tg⟩,
   fun _ _ _ _ _ _ h=>h.elim⟩
theorem mo{K V':Type}[MK K][MV V']{t:Nat}{c:C}{M:Option (K->Option V')}(hb:∀b,c=.map b->b < n0)(ht:t ≠ tR):Gud n0 tR (fun _=>False) (fun G f τ m=>Mo G f τ m t c M):=
  ⟨fun G f τ m m' q hn hv hg=>⟨q.mi.to hn fun b hc=>hg b (.inl (hb b hc)),fun b hc=>by
    obtain⟨q1,q2,q3,q4⟩:=q.own b hc
    exact⟨q1,q2,q3,yaf q4 hn⟩⟩,
   fun G f τ τ' m q hg=>⟨q.mi,fun b hc=>by
    obtain⟨q1,q2,q3,q4⟩:=q.own b hc
    exact⟨q1,q2,(hg b (.inl (hb b hc))).trans q3,q4⟩⟩,
   fun G G' f τ m q hg=>⟨q.mi,fun b hc=>by
    obtain⟨q1,q2,q3,q4⟩:=q.own b hc
    exact⟨hg b (.inl (hb b hc)) q4 q2 (by rw[q3]; exact ht) q1,q2,q3,q4⟩⟩,
   fun _ _ _ _ _ _ h=>h.elim⟩
end Gud
theorem Mo.lt{K V':Type}[MK K][MV V']{F:Fm}{f m:M}{τ:Nat->Nat}{t:Nat}{c:C}{M:Option (K->Option V')}(h:Mo F f τ m t c M):∀b,c=.map b->b < m.nxt:=fun b hb=>(h.own b hb).2.2.2
structure Rk (F:Fm) (f:M) (τ:Nat->Nat) (m:M) (t b:Nat) (o:Option AO):Prop where
 g:m.g b=o
 new:F.m.nxt<=b\/F.B b
 nf:f.g b=none
 tg:τ b=t
 lt:b < m.nxt
theorem Rk.k{F:Fm}{f f' m m':M}{τ τ':Nat->Nat}{t b:Nat}{o:Option AO}{X:List Nat}(h:Rk F f τ m t b o)(k:Kp τ f m τ' f' m' X)(hx:t ∉ X:=by decide):Rk F f' τ' m' t b o:=by
 have hx:τ b ∉ X:=by rw[h.tg]; exact hx
 exact⟨(k.g b h.lt hx).trans h.g,h.new,(k.fg b h.lt hx).trans h.nf,(k.tg b h.lt).trans h.tg,yaf h.lt k.nxt⟩
end
end Go.Abs

namespace Go.Abs
set_option maxRecDepth 100000
noncomputable section
variable {P:Program} {T:List (Nat × Bool)} {α:Type} [IV α]
def YJ(xs:List (List V))(I:Nat->(Nat->Prop)->M->Prop)(zk8:List α):(Nat->Prop)->M->Prop:=fun S m=>∃i,i<=xs.length/\I i S m/\xs.drop i=zk8.map IV.encs
structure Yg (n0:Nat) (J:(Nat->Prop)->M->Prop) (S:Nat->Prop) (F:Fm) (f:M) (τ:Nat->Nat) (m:M):Prop where
 j:J S m
 loc:zp6 n0 J
 own:∀b,S b->τ b=0/\(F.m.nxt<=b\/F.B b)/\f.g b=none
 low:∀b,b < n0->τ b=0
 n:n0<=m.nxt
theorem Yg.k{n0:Nat}{J:(Nat->Prop)->M->Prop}{S:Nat->Prop}{F:Fm}{f f' m m':M}{τ τ':Nat->Nat}{X:List Nat}(h:Yg n0 J S F f τ m)(k:Kp τ f m τ' f' m' X)(hx:0 ∉ X:=by decide):Yg n0 J S F f' τ' m':=by
 have a:=h.loc.lt S m h.j
 have hS:∀b,S b->τ b ∉ X:=fun b hb=>by rw[(h.own b hb).1]; exact hx
 refine⟨h.loc.st S m m' h.j k.nxt k.vw (fun b hb=>k.g b (a b hb) (hS b hb)) fun b hb=>k.g b (yaf hb h.n) (by rw[h.low b hb]; exact hx),h.loc,fun b hb=>?_,fun b hb=>(k.tg b (yaf hb h.n)).trans (h.low b hb),yad h.n k.nxt⟩;obtain⟨q1,q2,q3⟩:=h.own b hb;exact⟨(k.tg b (a b hb)).trans q1,q2,(k.fg b (a b hb) (hS b hb)).trans q3⟩
theorem Gud.yg{n0 n1 tR:Nat}{J:(Nat->Prop)->M->Prop}{S:Nat->Prop}(hn:n0<=n1)(ht:0 ≠ tR):Gud n1 tR S (fun G f τ m=>Yg n0 J S G f τ m):=
  ⟨fun G f τ m m' q a hv hg=>⟨q.loc.st S m m' q.j a hv (fun b hb=>hg b (.inr hb)) fun b hb=>hg b (.inl (yaf hb hn)),q.loc,q.own,q.low,yad q.n a⟩,
   fun G f τ τ' m q hg=>⟨q.j,q.loc,fun b hb=>by
    obtain⟨q1,q2,q3⟩:=q.own b hb
    exact⟨(hg b (.inr hb)).trans q1,q2,q3⟩,fun b hb=>(hg b (.inl (yaf hb hn))).trans (q.low b hb),q.n⟩,
   fun G G' f τ m q hg=>⟨q.j,q.loc,fun b hb=>by
    obtain⟨q1,q2,q3⟩:=q.own b hb
    exact⟨q1,hg b (.inr hb) (q.loc.lt S m q.j b hb) q3 (by rw[q1]; exact ht) q2,q3⟩,q.low,q.n⟩,
   fun G f τ m q b hb=>by
    obtain⟨q1,q2,q3⟩:=q.own b hb
    exact⟨q.loc.lt S m q.j b hb,q3,by rw[q1]; exact ht,q2⟩⟩
theorem YJ.local{n0 ly:Nat}{xs:List (List V)}{I:Nat->(Nat->Prop)->M->Prop}{E:(Nat->Prop)->M->Prop}(hc:zp7 P T n0 ly xs I E)(zk8:List α):zp6 n0 (YJ xs I zk8):=
 ⟨fun S m m' ⟨i,h1,h2,h3⟩ hn hv hs hl=>⟨i,h1,(hc.li i).st S m m' h2 hn hv hs hl,h3⟩,fun S m ⟨i,_,h2,_⟩=>(hc.li i).lt S m h2⟩
theorem Yg.yield{n0 ly:Nat}{xs:List (List V)}{I:Nat->(Nat->Prop)->M->Prop}{E:(Nat->Prop)->M->Prop}(hc:zp7 P T n0 ly xs I E){S:Nat->Prop}{F:Fm}{f0 f m:M}{τ:Nat->Nat}(s:St F f0 f m){a:α}{r:List α}(h:Yg n0 (YJ xs I (a::r)) S F f τ m){Q:V->M->Prop}
  (hT:∀m' τ' S',St F f0 f m'->Kp τ f m τ' f m' [0]->Yg n0 (YJ xs I r) S' F f τ' m'->Q (.c (.bool true)) m')
  (hF:∀m' τ' S',St F f0 f m'->Kp τ f m τ' f m' [0]->Yg n0 E S' F f τ' m'->Q (.c (.bool false)) m'):Wy P T ly (IV.encs a) m Q:=by
 obtain⟨i,hi,hI,hd⟩:=h.j
 have hx:xs[i]? = some (IV.encs a):=by
  have:=congrArg (fun l=>l[0]?) hd
  simpa using this
 have A:=h.loc.lt S m h.j;have D:=(yah.1 hx).1
 have hdr:xs.drop (i+1)=r.map IV.encs:=by
  rw[<- yaz,hd]; rfl
 have u:∀{S':Nat->Prop} {m':M},Chg S m m'->St F f0 f m':=fun q=>s.chg (X:=S) (fun b hb=>(h.own b hb).2) q.nxt q.vw q.g
 have w:∀{m':M},Chg S m m'->Kp τ f m (fun b=>if b < m.nxt then τ b else 0) f m' [0]:=fun q=>
  ⟨q.nxt,fun b hb=>yab hb,fun b hb hx=>q.g b hb fun G=>hx (by rw[(h.own b G).1]; exact yae ..),fun _ _ _=>rfl,.refl f,q.vw⟩
 have y:∀{J:(Nat->Prop)->M->Prop} {S':Nat->Prop} {m':M},zp6 n0 J->J S' m'->Own S m S'->Chg S m m'->Yg n0 J S' F f (fun b=>if b < m.nxt then τ b else 0) m':=fun {J S' m'} hl hj ho q=>by
  refine⟨hj,hl,fun b hb=>?_,fun b hb=>?_,yad h.n q.nxt⟩
  ·rcases ho b hb with h1 | h1
   ·obtain⟨q1,q2,q3⟩:=h.own b h1;exact⟨(yab (A b h1)).trans q1,q2,q3⟩
   ·exact⟨yaa (by omega),.inl (yad s.ext.nxt h1),s.fz b (yad s.sub.nxt h1)⟩
  ·have:=h.n;exact(yab (by omega)).trans (h.low b hb)
 exact hc.yield i _ S m hx hI Q (fun S' m' ho q N=>hT m' _ S' (u (S':=S') q) (w q) (y (YJ.local hc r) ⟨i+1,D,N,hdr⟩ ho q)) fun S' m' ho q hE=>hF m' _ S' (u (S':=S') q) (w q) (y hc.le hE ho q)
theorem zqN{α:Type}{vs:List C}{l:List α}{enc:α->C}(k:Nat)(hv:(vs.drop k).take l.length=l.map enc){i:Nat}{a:α}(hi:l[i]? = some a):vs[k+i * 1]? = some (enc a):=by
 have hl:=(yah.1 hi).1
 have h1:((vs.drop k).take l.length)[i]? = some (enc a):=by rw[hv,ybM,hi]; rfl
 rw[ya0,yab hl,ybj] at h1;rw[ybB]; exact h1
theorem zqO{x:Int}{N:Int}(h:0<=x/\x < N):∃n:Nat,x=(n:Int)/\n < N.toNat:=⟨x.toNat,by omega,by omega⟩
def sti{α:Type}(x:Int)(j:Nat)(v e:α):α:=if x=(j:Int) then v else e
def zqP{α:Type}(x:Int)(v:α):Nat->List α->List α
 | _,[]=>[]
 | j,a::l=>sti x j v a::zqP x v (j+1) l
theorem zqQ{α:Type}(v:α):∀(l:List α) (j n:Nat),zqP ((j+n:Nat):Int) v j l=l.set n v
 | [],_,_=>rfl
 | a::l,j,0=>by
  show sti _ j v a::zqP _ v (j+1) l=v::l
  have hs:∀(l:List α) (i:Nat),j < i->zqP ((j+0:Nat):Int) v i l=l:=by
   intro l
   induction l with
   | nil=>intro i _; rfl
   | cons b l ih=>
    intro i hi
    show sti _ i v b::zqP _ v (i+1) l=b::l
    rw[ih (i+1) (by omega)];unfold sti;rw[yaa (by omega)]
  rw[hs l (j+1) (by omega)];unfold sti;rw[yab (by omega)]
 | a::l,j,n+1=>by
  show sti _ j v a::zqP _ v (j+1) l=a::l.set n v
  have e:((j+(n+1):Nat):Int)=((j+1+n:Nat):Int):=by omega
  rw[e,zqQ v l (j+1) n];unfold sti;rw[yaa (by omega)]
theorem Lb.sta{F:Fm}{f0 f m:M}{τ:Nat->Nat}{t b N:Nat}{vs:List C}(h:Lb F f τ m t b N vs)(s:St F f0 f m){pre post:List C}{β:Type}{l:List β}{enc:β->C}(hv:vs=pre++(l.map enc++post))(hN:vs.length=N){x:Int}{n:Nat}(hx:x=(n:Int))(hn:n < l.length)(v:β) :
  ∃m',stC m (.ptr b (pre.length+n * 1)) 1 [enc v]=some m'/\St F f0 f m'/\Kp τ f m τ f m' [t]/\Lb F f τ m' t b N (pre++((zqP x v 0 l).map enc++post)):=by
 have a:vs.length=pre.length+(l.length+post.length):=by rw[hv,yai,yai,yas]
 obtain⟨m',h1,h2,h3,h4⟩:=h.sto1 s (pre.length+n * 1) (enc v) (by omega) hN;refine⟨m',h1,h2,h3,?_⟩
 have e:vs.set (pre.length+n * 1) (enc v)=pre++((zqP x v 0 l).map enc++post):=by
  have hs:=zqQ v l 0 n;rw[yay] at hs;rw[hv,hx,hs,ybP _ _ (by omega),List.set_append_left _ _ (by rw[yas]; omega),show pre.length+n * 1 - pre.length=n by omega,List.map_set]
 rw[<- e]; exact h4
theorem ifd{α:Type}{p:Prop}{i1 i2:Decidable p}{A B:Prop}{a b:Option α}{r:α}(hp:(@ite _ p i1 a b)=some r)(hA:p->a=some r->A)(hB:¬ p->b=some r->B):ifB (@decide p i2) A B:=by
 by_cases h:p
 ·rw[yab h] at hp;rw[show @decide p i2=true from decide_eq_true h]; exact hA h hp
 ·rw[yaa h] at hp;rw[show @decide p i2=false from decide_eq_false h]; exact hB h hp
theorem zqR{α:Type}{p:Prop}{i1 i2:Decidable p}{A B:Prop}{a b:Option α}{r:α}(hp:(@ite _ p i1 b a)=some r)(hA:¬ p->a=some r->A)(hB:p->b=some r->B):ifB (!@decide p i2) A B:=by
 by_cases h:p
 ·rw[yab h] at hp;rw[show @decide p i2=true from decide_eq_true h]; exact hB h hp
 ·rw[yaa h] at hp;rw[show @decide p i2=false from decide_eq_false h]; exact hA h hp
theorem zqS{α:Type}{x:Bool}{A B:Prop}{a b:Option α}{r:α}(hp:(if x=true then a else b)=some r)(hA:x=true->a=some r->A)(hB:x=false->b=some r->B):ifB x A B:=by
 cases x
 ·exact hB rfl hp
 ·exact hA rfl hp
theorem zqT{α:Type}{x:Bool}{A B:Prop}{a b:Option α}{r:α}(hp:(if x=true then b else a)=some r)(hA:x=false->a=some r->A)(hB:x=true->b=some r->B):ifB (!x) A B:=by
 cases x
 ·exact hA rfl hp
 ·exact hB rfl hp
theorem zqU{A B:Prop}(h:B):ifB false A B:=h
theorem zqV{A B:Prop}(h:A):ifB true A B:=h
end
end Go.Abs

namespace Go.Abs
set_option maxRecDepth 100000
noncomputable section
variable {P:Program} {T:List (Nat × Bool)}
section
variable {K V':Type} [MK K] [MV V']
theorem Mi.subv{f m:M}{c:C}{M:Option (K->Option V')}(h:Mi f c M)(s:zp9 f m):Mi m c M:=by
 cases M with
 | none=>exact h
 | some g=>
  obtain⟨b,h1,h2⟩:=h;refine⟨b,h1,h2.to s.nxt (s.g b h2.lt (.inl ?_))⟩;obtain⟨es,cl,h3,_⟩:=h2.ex;rw[h3]; exact yaI _
theorem Mi.sub{f m:M}{c:C}{M:Option (K->Option V')}(h:Mi f c M)(s:Sub f m):Mi m c M:=h.subv s.v
theorem Mo.freeze{F:Fm}{f0 f m:M}{τ:Nat->Nat}{t:Nat}{c:C}{M:Option (K->Option V')}(h:Mo F f τ m t c M)(s:St F f0 f m):∃f',St F f0 f' m/\Kp τ f m τ f' m [t]/\Mi f' c M:=by
 cases M with
 | none=>
  have h1:c=.map0:=h.mi;subst h1;exact⟨f,s,⟨yac _,fun _ _=>rfl,fun _ _ _=>rfl,fun _ _ _=>rfl,.refl f,rfl⟩,rfl⟩
 | some g=>
  obtain⟨b,rfl,h2⟩:=h.mi;obtain⟨i,w,y,A⟩:=h.own b rfl
  let f':Go.Abs.M:={ nxt:=m.nxt,g:=fun j=>if j=b then m.g b else f.g j,vw:=f.vw }
  have a:∀j,j ≠ b->f'.g j=f.g j:=fun j hj=>yaa hj;have u:f'.g b=m.g b:=yab rfl
  have q:Sub f f':=⟨s.sub.nxt,rfl,fun j hj hd=>a j fun he=>by
   subst he
   exact hd.elim (fun h'=>h' w) fun h'=>h' (s.v0 _ i)⟩
  refine⟨f',⟨s.ext,⟨yac _,s.sub.vw,fun j hj hd=>?_⟩,fun j hj=>?_,fun j hj=>?_,s.v0,s.fs.trans q,fun j hj hB=>(a j fun he=>by subst he; exact i.elim (fun h=>by omega) hB).trans (s.old j hj hB)⟩,⟨yac _,fun _ _=>rfl,fun _ _ _=>rfl,fun j hj hx=>a j fun he=>hx (by rw[he,y]; exact yae ..),q,rfl⟩,b,rfl,?_⟩
  ·by_cases he:j=b
   ·rw[he,u]
   ·rw[a j he] at hd ⊢
    by_cases D:j < f.nxt
    ·exact s.sub.g j D hd
    ·exact(hd.elim (fun h=>h (s.fz j (by omega))) fun h=>h (s.fv j (by omega))).elim
  ·have h9:m.nxt<=j:=hj;rw[a j (by omega)];exact s.fz j (yad s.sub.nxt h9)
  ·have h9:m.nxt<=j:=hj;exact s.fv j (yad s.sub.nxt h9)
  ·obtain⟨es,cl,h3,h4⟩:=h2.ex;exact⟨⟨es,cl,u.trans h3,h4⟩,A⟩
end
instance:MK Int:=⟨fun a=>.c (.int .i64 a),fun a=>zl2 .i64 a⟩
theorem Gud.rk{n0 tR t b:Nat}{o:Option AO}(hb:b < n0)(ht:t ≠ tR):Gud n0 tR (fun _=>False) (fun G f τ m=>Rk G f τ m t b o):=
  ⟨fun G f τ m m' q hn hv hg=>⟨(hg b (.inl hb)).trans q.g,q.new,q.nf,q.tg,yaf q.lt hn⟩,
   fun G f τ τ' m q hg=>⟨q.g,q.new,q.nf,(hg b (.inl hb)).trans q.tg,q.lt⟩,
   fun G G' f τ m q hg=>⟨q.g,hg b (.inl hb) q.lt q.nf (by rw[q.tg]; exact ht) q.new,q.nf,q.tg,q.lt⟩,
   fun _ _ _ _ _ _ h=>h.elim⟩
end
end Go.Abs

namespace Go.Abs
set_option maxRecDepth 100000
noncomputable section
variable {α:Type} [Rp α]
structure On (m f' m':M) (c:C) (l:List α):Prop where
 own:∃vs,zpZ m' (Rp.k α) c vs l.length/\Cat f' vs l
 nw:∀b o n s d,c=.sl b o n s d->m.nxt<=b/\f'.g b=none
theorem Ow.on{m0 f m:M}{τ:Nat->Nat}{t:Nat}{x:C}{l:List α}(h:Ow (Fm.of m0) f τ m t x l):On m0 f m x l:=
 ⟨h.own,fun b o n s d he=>⟨(h.nw b o n s d he).1.elim id fun h=>h.elim,(h.nw b o n s d he).2.1⟩⟩
theorem St.callO{F:Fm}{f0 f m m' f':M}(s:St F f0 f m)(g:Grw m f m' f'){c:C}{l:List α}(h:On m f' m' c l)(τ:Nat->Nat)(t:Nat):∃τ',St F f0 f' m'/\Kp τ f m τ' f' m' []/\Ow F f' τ' m' t c l:=by
 obtain⟨h1,h2⟩:=s.callG g τ;refine⟨fun b=>if m.nxt<=b then t else τ b,h1,⟨h2.nxt,fun b hb=>yaa (by omega),h2.g,h2.fg,h2.fs,h2.vw⟩,h.own,fun b o n s' d he=>?_⟩;obtain⟨q1,q2⟩:=h.nw b o n s' d he;exact⟨.inl (yad s.ext.nxt q1),q2,yab q1⟩
end
end Go.Abs

namespace Go.Abs
noncomputable section
variable {P:Program} {T:List (Nat × Bool)}
structure zqW (P:Program) (T:List (Nat × Bool)) (n0 l:Nat) (Vs:Nat->List V->M->Prop) (I:Nat->(Nat->Prop)->M->Prop) (E:(Nat->Prop)->M->Prop):Prop where
 li:∀i,zp6 n0 (I i)
 le:zp6 n0 E
 yield:∀i x S m,Vs i x m->I i S m->∀Q:V->M->Prop,(∀S' m',Own S m S'->Chg S m m'->I (i+1) S' m'->Q (.c (.bool true)) m')->(∀S' m',Own S m S'->Chg S m m'->E S' m'->Q (.c (.bool false)) m')->Wy P T l x m Q
structure zqX (P:Program) (T:List (Nat × Bool)) (x:C) (len:Nat) (Vs:Nat->Nat->List V->M->Prop) (D:Nat->Prop) (R:M->Prop):Prop where
 st:∀m m',R m->m.nxt<=m'.nxt->m'.vw=m.vw->(∀b,D b->m'.g b=m.g b)->R m'
 lt:∀m,R m->∀b,D b->b < m.nxt
 run:∀n0 l I E S m,zqW P T n0 l (Vs m.nxt) I E->n0<=m.nxt->I 0 S m->R m->(∀b,S b->¬ D b)->∀Q:V->M->Prop,(∀v S' m',Own S m S'->Chg S m m'->I len S' m'\/E S' m'->Q v m')->zmr P T [.c (.fn (.yield l) [] [])] x m Q
theorem zqY{g:FuncId}{a b:List W}{len:Nat}{Vs:Nat->Nat->List V->M->Prop}{D:Nat->Prop}{R:M->Prop}(hi:zqX P T (.fn (.func g) a b) len Vs D R){m:M}(hR:R m){round:zox}{after:zor}
  (J:Nat->(Nat->Prop)->M->Prop) (X:Ex->(Nat->Prop)->M->Prop) (hJ:∀i,zp6 m.nxt (J i)) (hX:∀ex,zp6 m.nxt (X ex)) {S0:Nat->Prop} (h0:J 0 S0 m) (hS0:∀b,S0 b->¬ D b)
  (hround:∀ i x S m1 (B:M->Prop) (enter:M->(M->Prop)->Prop) (K:Ex->M->Prop),Vs (m.nxt+1) i x m1->J i S m1->m.nxt < m1.nxt->¬ S m.nxt->Own S0 m S ->
   (∀m2 k,m2.g m.nxt=m1.g m.nxt->(∀m3,m3.nxt=m2.nxt->m3.vw=m2.vw->(∀b,b ≠ m.nxt->m3.g b=m2.g b)->(∀m4:M,m4.g m.nxt=m3.g m.nxt->B m4)->k m3)->enter m2 k) ->
   (∀ex S' m4,B m4->m1.nxt<=m4.nxt->m4.vw=m1.vw->(∀b,b < m1.nxt->¬ S b->b ≠ m.nxt->m4.g b=m1.g b)->Own S m1 S'->(match ex with | .nrm=>J (i+1) S' m4 | .val _=>False | ex=>X ex S' m4)->K ex m4)->round x m1 enter K)
  (hend:∀S' m5,Own S0 m S'->m.nxt < m5.nxt->m5.vw=m.vw->(∀b,b < m.nxt->¬ S0 b->m5.g b=m.g b)->J len S' m5->after.nrm m5)
  (hexit:∀id S' m5,Own S0 m S'->m.nxt < m5.nxt->m5.vw=m.vw->(∀b,b < m.nxt->¬ S0 b->m5.g b=m.g b)->X (.exit id) S' m5->zos id m5 after.exits)
  (hret:∀S' m5,Own S0 m S'->m.nxt < m5.nxt->m5.vw=m.vw->(∀b,b < m.nxt->¬ S0 b->m5.g b=m.g b)->X .ret S' m5->after.ret m5) :
  zoB P T (.fn (.func g) a b) m round after:=by
 intro mk hy;have hlt0:=(hJ 0).lt _ _ h0
 -- the client: the record of the loop is its own, too
 let I:Nat->(Nat->Prop)->M->Prop:=fun i S m1=>∃SJ,(∀b,S b↔SJ b\/b=m.nxt)/\¬ SJ m.nxt/\m1.g m.nxt=some (mk .ready none)/\J i SJ m1/\m.nxt < m1.nxt/\Own S0 m SJ
 let E:(Nat->Prop)->M->Prop:=fun S m1=>∃SJ,(∀b,S b↔SJ b\/b=m.nxt)/\¬ SJ m.nxt/\m.nxt < m1.nxt/\Own S0 m SJ/\((∃id,m1.g m.nxt=some (mk .done (some (.exit id)))/\X (.exit id) SJ m1)\/(m1.g m.nxt=some (mk .done (some .ret))/\X .ret SJ m1))
 have hc:zqW P T m.nxt m.nxt (Vs (m.nxt+1)) I E:=by
  refine⟨fun i=>⟨fun S m1 m2 h hn hw hs h0'=>?_,fun S m1 h b hb=>?_⟩,⟨fun S m1 m2 h hn hw hs h0'=>?_,fun S m1 h b hb=>?_⟩,fun i x S m1 hx h Q hT hF=>?_⟩
  ·obtain⟨SJ,q1,q2,q3,q4,q5,q6⟩:=h;exact⟨SJ,q1,q2,by rw[hs _ ((q1 _).2 (.inr rfl))]; exact q3,(hJ i).st _ _ _ q4 hn hw (fun b hb=>hs b ((q1 b).2 (.inl hb))) h0',by omega,q6⟩
  ·obtain⟨SJ,q1,q2,q3,q4,q5,q6⟩:=h
   rcases (q1 b).1 hb with hb | hb
   ·exact(hJ i).lt _ _ q4 b hb
   ·omega
  ·obtain⟨SJ,q1,q2,q5,q6,q7⟩:=h;refine⟨SJ,q1,q2,by omega,q6,?_⟩;have hl:m2.g m.nxt=m1.g m.nxt:=hs _ ((q1 _).2 (.inr rfl))
   rcases q7 with ⟨id,q8,q9⟩ | ⟨q8,q9⟩
   ·exact .inl ⟨id,by rw[hl]; exact q8,(hX _).st _ _ _ q9 hn hw (fun b hb=>hs b ((q1 b).2 (.inl hb))) h0'⟩
   ·exact .inr ⟨by rw[hl]; exact q8,(hX _).st _ _ _ q9 hn hw (fun b hb=>hs b ((q1 b).2 (.inl hb))) h0'⟩
  ·obtain⟨SJ,q1,q2,q5,q6,q7⟩:=h
   rcases (q1 b).1 hb with hb | hb
   ·rcases q7 with ⟨id,q8,q9⟩ | ⟨q8,q9⟩
    ·exact(hX _).lt _ _ q9 b hb
    ·exact(hX _).lt _ _ q9 b hb
   ·omega
  ·obtain⟨SJ,q1,q2,q3,q4,q5,q6⟩:=h;refine hy x m1 Q q3 (hround i x SJ m1 (fun m4=>m4.g m.nxt=some (mk .busy none)) _ _ hx q4 q5 q2 q6 (fun m2 k hm2 hk=>⟨by rw[hm2]; exact q3,hk _ (M.nxt_set ..) rfl (fun b hb=>by rw[M.g_set,yaa hb]) fun m4 hm4=>by rw[hm4,M.g_set,yab rfl]⟩) fun ex S' m4 hB hn hvw hfr hown hres=>?_)
   have hS'l:¬ S' m.nxt:=fun h=>by
    rcases hown _ h with h | h
    ·exact q2 h
    ·omega
   have hown2:Own S m1 (fun b=>S' b\/b=m.nxt):=fun b hb=>by
    rcases hb with hb | hb
    ·exact(hown b hb).imp (fun h=>(q1 b).2 (.inl h)) id
    ·exact .inl ((q1 b).2 (.inr hb))
   have hown3:Own S0 m S':=fun b hb=>by
    rcases hown b hb with h | h
    ·exact q6 b h
    ·exact .inr (by omega)
   have hchg:∀o,Chg S m1 (m4.set m.nxt o):=fun o=>⟨hn,fun b hb hSb=>by
    have hbl:b ≠ m.nxt:=fun h=>hSb ((q1 b).2 (.inr h));rw[M.g_set,yaa hbl]
    exact hfr b hb (fun h=>hSb ((q1 b).2 (.inl h))) hbl,hvw⟩
   have hset:∀o b,S' b->(m4.set m.nxt o).g b=m4.g b:=fun o b hb=>by
    rw[M.g_set,yaa fun h=>hS'l (by rw[<- h]; exact hb)]
   have hlow:∀o b,b < m.nxt->(m4.set m.nxt o).g b=m4.g b:=fun o b hb=>by rw[M.g_set,yaa (by omega)]
   refine⟨⟨_,_,hB⟩,?_⟩
   cases ex with
   | nrm=>exact hT _ _ hown2 (hchg _) ⟨S',fun b=>Iff.rfl,hS'l,by rw[M.g_set,yab rfl],(hJ _).st _ _ _ hres (yac _) rfl (hset _) (hlow _),by show m.nxt < m4.nxt; omega,hown3⟩
   | exit id=>exact hF _ _ hown2 (hchg _) ⟨S',fun b=>Iff.rfl,hS'l,by show m.nxt < m4.nxt; omega,hown3,.inl ⟨id,by rw[M.g_set,yab rfl],(hX _).st _ _ _ hres (yac _) rfl (hset _) (hlow _)⟩⟩
   | ret=>exact hF _ _ hown2 (hchg _) ⟨S',fun b=>Iff.rfl,hS'l,by show m.nxt < m4.nxt; omega,hown3,.inr ⟨by rw[M.g_set,yab rfl],(hX _).st _ _ _ hres (yac _) rfl (hset _) (hlow _)⟩⟩
   | val v=>exact hres.elim
 have hDlt:=hi.lt _ hR
 have hRn:R (m.new (mk .ready none)):=hi.st _ _ hR (ya4 _) rfl fun b hb=>by rw[M.g_new,yaa (by have:=hDlt b hb; omega)]
 have hI0:I 0 (fun b=>S0 b\/b=m.nxt) (m.new (mk .ready none)):=⟨S0,fun b=>Iff.rfl,fun h=>by have:=hlt0 _ h; omega,by rw[M.g_new,yab rfl],(hJ 0).st _ _ _ h0 (ya4 _) rfl (fun b hb=>by rw[M.g_new,yaa (by have:=hlt0 b hb; omega)]) (fun b hb=>by rw[M.g_new,yaa (by omega)]),ybd _,fun b hb=>.inl hb⟩;refine hi.run m.nxt m.nxt I E _ (m.new (mk .ready none)) hc (ya4 _) hI0 hRn (fun b hb hD=>?_) _ fun v S' m5 hown hchg hfin=>?_
 ·rcases hb with hb | hb
  ·exact hS0 b hb hD
  ·have:=hDlt b hD; omega
 ·have hvw5:(m5.del m.nxt).vw=m.vw:=hchg.vw
  have hfr:∀b,b < m.nxt->¬ S0 b->(m5.del m.nxt).g b=m.g b:=fun b hb hS=>by
   rw[M.g_del,yaa (by omega),hchg.g b (by show b < m.nxt+1; omega) (fun h=>h.elim hS fun h=>by omega),M.g_new,yaa (by omega)]
  have hlowd:∀b,b < m.nxt->(m5.del m.nxt).g b=m5.g b:=fun b hb=>by rw[M.g_del,yaa (by omega)]
  have hdel:∀SJ:Nat->Prop,¬ SJ m.nxt->∀b,SJ b->(m5.del m.nxt).g b=m5.g b:=fun SJ hl b hb=>by rw[M.g_del,yaa fun h=>hl (by rw[<- h]; exact hb)]
  rcases hfin with ⟨SJ,q1,q2,q3,q4,q5,q6⟩ | ⟨SJ,q1,q2,q5,q6,q7⟩
  ·exact⟨_,_,q3,(fun h=>by cases h),hend SJ _ q6 q5 hvw5 hfr ((hJ _).st _ _ _ q4 (yac _) rfl (hdel SJ q2) hlowd)⟩
  ·rcases q7 with ⟨id,q8,q9⟩ | ⟨q8,q9⟩
   ·exact⟨_,_,q8,(fun h=>by cases h),hexit id SJ _ q6 q5 hvw5 hfr ((hX _).st _ _ _ q9 (yac _) rfl (hdel SJ q2) hlowd)⟩
   ·exact⟨_,_,q8,(fun h=>by cases h),hret SJ _ q6 q5 hvw5 hfr ((hX _).st _ _ _ q9 (yac _) rfl (hdel SJ q2) hlowd)⟩
end
end Go.Abs

namespace Go.Abs
set_option maxRecDepth 100000
noncomputable section
section
variable {P:Program} {T:List (Nat × Bool)}
structure zqZ (P:Program) (T:List (Nat × Bool)) (n0 l:Nat) (Vs:Nat->List V->(Nat->Prop)->M->Prop) (I:Nat->(Nat->Prop)->M->Prop) (E:(Nat->Prop)->M->Prop):Prop where
 li:∀i,zp6 n0 (I i)
 le:zp6 n0 E
 yield:∀i x S m,Vs i x S m->I i S m->∀Q:V->M->Prop,(∀S' m',Own S m S'->Chg S m m'->I (i+1) S' m'->Q (.c (.bool true)) m')->(∀S' m',Own S m S'->Chg S m m'->E S' m'->Q (.c (.bool false)) m')->Wy P T l x m Q
structure zq0 (P:Program) (T:List (Nat × Bool)) (x:C) (len:Nat) (Vs:Nat->Nat->List V->(Nat->Prop)->M->Prop) (D:Nat->Prop) (R:M->Prop):Prop where
 st:∀m m',R m->m.nxt<=m'.nxt->m'.vw=m.vw->(∀b,D b->m'.g b=m.g b)->R m'
 lt:∀m,R m->∀b,D b->b < m.nxt
 run:∀n0 l I E S m,zqZ P T n0 l (Vs m.nxt) I E->n0<=m.nxt->I 0 S m->R m->(∀b,S b->¬ D b)->∀Q:V->M->Prop,(∀v S' m',Own S m S'->Chg S m m'->I len S' m'\/E S' m'->Q v m')->zmr P T [.c (.fn (.yield l) [] [])] x m Q
theorem zq1{g:FuncId}{a b:List W}{len:Nat}{Vs:Nat->Nat->List V->(Nat->Prop)->M->Prop}{D:Nat->Prop}{R:M->Prop}(hi:zq0 P T (.fn (.func g) a b) len Vs D R){m:M}(hR:R m){round:zox}{after:zor}
  (J:Nat->(Nat->Prop)->M->Prop) (X:Ex->(Nat->Prop)->M->Prop) (hJ:∀i,zp6 m.nxt (J i)) (hX:∀ex,zp6 m.nxt (X ex)) {S0:Nat->Prop} (h0:J 0 S0 m) (hS0:∀b,S0 b->¬ D b)
  (hround:∀ i x S m1 (B:M->Prop) (enter:M->(M->Prop)->Prop) (K:Ex->M->Prop),Vs (m.nxt+1) i x (fun b=>S b\/b=m.nxt) m1->J i S m1->m.nxt < m1.nxt->¬ S m.nxt->Own S0 m S ->
   (∀m2 k,m2.g m.nxt=m1.g m.nxt->(∀m3,m3.nxt=m2.nxt->m3.vw=m2.vw->(∀b,b ≠ m.nxt->m3.g b=m2.g b)->(∀m4:M,m4.g m.nxt=m3.g m.nxt->B m4)->k m3)->enter m2 k) ->
   (∀ex S' m4,B m4->m1.nxt<=m4.nxt->m4.vw=m1.vw->(∀b,b < m1.nxt->¬ S b->b ≠ m.nxt->m4.g b=m1.g b)->Own S m1 S'->(match ex with | .nrm=>J (i+1) S' m4 | .val _=>False | ex=>X ex S' m4)->K ex m4)->round x m1 enter K)
  (hend:∀S' m5,Own S0 m S'->m.nxt < m5.nxt->m5.vw=m.vw->(∀b,b < m.nxt->¬ S0 b->m5.g b=m.g b)->J len S' m5->after.nrm m5)
  (hexit:∀id S' m5,Own S0 m S'->m.nxt < m5.nxt->m5.vw=m.vw->(∀b,b < m.nxt->¬ S0 b->m5.g b=m.g b)->X (.exit id) S' m5->zos id m5 after.exits)
  (hret:∀S' m5,Own S0 m S'->m.nxt < m5.nxt->m5.vw=m.vw->(∀b,b < m.nxt->¬ S0 b->m5.g b=m.g b)->X .ret S' m5->after.ret m5) :
  zoB P T (.fn (.func g) a b) m round after:=by
 intro mk hy;have hlt0:=(hJ 0).lt _ _ h0
 -- the client: the record of the loop is its own, too
 let I:Nat->(Nat->Prop)->M->Prop:=fun i S m1=>∃SJ,(∀b,S b↔SJ b\/b=m.nxt)/\¬ SJ m.nxt/\m1.g m.nxt=some (mk .ready none)/\J i SJ m1/\m.nxt < m1.nxt/\Own S0 m SJ
 let E:(Nat->Prop)->M->Prop:=fun S m1=>∃SJ,(∀b,S b↔SJ b\/b=m.nxt)/\¬ SJ m.nxt/\m.nxt < m1.nxt/\Own S0 m SJ/\((∃id,m1.g m.nxt=some (mk .done (some (.exit id)))/\X (.exit id) SJ m1)\/(m1.g m.nxt=some (mk .done (some .ret))/\X .ret SJ m1))
 have hc:zqZ P T m.nxt m.nxt (Vs (m.nxt+1)) I E:=by
  refine⟨fun i=>⟨fun S m1 m2 h hn hw hs h0'=>?_,fun S m1 h b hb=>?_⟩,⟨fun S m1 m2 h hn hw hs h0'=>?_,fun S m1 h b hb=>?_⟩,fun i x S m1 hx h Q hT hF=>?_⟩
  ·obtain⟨SJ,q1,q2,q3,q4,q5,q6⟩:=h;exact⟨SJ,q1,q2,by rw[hs _ ((q1 _).2 (.inr rfl))]; exact q3,(hJ i).st _ _ _ q4 hn hw (fun b hb=>hs b ((q1 b).2 (.inl hb))) h0',by omega,q6⟩
  ·obtain⟨SJ,q1,q2,q3,q4,q5,q6⟩:=h
   rcases (q1 b).1 hb with hb | hb
   ·exact(hJ i).lt _ _ q4 b hb
   ·omega
  ·obtain⟨SJ,q1,q2,q5,q6,q7⟩:=h;refine⟨SJ,q1,q2,by omega,q6,?_⟩;have hl:m2.g m.nxt=m1.g m.nxt:=hs _ ((q1 _).2 (.inr rfl))
   rcases q7 with ⟨id,q8,q9⟩ | ⟨q8,q9⟩
   ·exact .inl ⟨id,by rw[hl]; exact q8,(hX _).st _ _ _ q9 hn hw (fun b hb=>hs b ((q1 b).2 (.inl hb))) h0'⟩
   ·exact .inr ⟨by rw[hl]; exact q8,(hX _).st _ _ _ q9 hn hw (fun b hb=>hs b ((q1 b).2 (.inl hb))) h0'⟩
  ·obtain⟨SJ,q1,q2,q5,q6,q7⟩:=h
   rcases (q1 b).1 hb with hb | hb
   ·rcases q7 with ⟨id,q8,q9⟩ | ⟨q8,q9⟩
    ·exact(hX _).lt _ _ q9 b hb
    ·exact(hX _).lt _ _ q9 b hb
   ·omega
  ·obtain⟨SJ,q1,q2,q3,q4,q5,q6⟩:=h;refine hy x m1 Q q3 (hround i x SJ m1 (fun m4=>m4.g m.nxt=some (mk .busy none)) _ _ (by rw[<- show S=(fun b=>SJ b\/b=m.nxt) from funext fun b=>propext (q1 b)]; exact hx) q4 q5 q2 q6 (fun m2 k hm2 hk=>⟨by rw[hm2]; exact q3,hk _ (M.nxt_set ..) rfl (fun b hb=>by rw[M.g_set,yaa hb]) fun m4 hm4=>by rw[hm4,M.g_set,yab rfl]⟩) fun ex S' m4 hB hn hvw hfr hown hres=>?_)
   have hS'l:¬ S' m.nxt:=fun h=>by
    rcases hown _ h with h | h
    ·exact q2 h
    ·omega
   have hown2:Own S m1 (fun b=>S' b\/b=m.nxt):=fun b hb=>by
    rcases hb with hb | hb
    ·exact(hown b hb).imp (fun h=>(q1 b).2 (.inl h)) id
    ·exact .inl ((q1 b).2 (.inr hb))
   have hown3:Own S0 m S':=fun b hb=>by
    rcases hown b hb with h | h
    ·exact q6 b h
    ·exact .inr (by omega)
   have hchg:∀o,Chg S m1 (m4.set m.nxt o):=fun o=>⟨hn,fun b hb hSb=>by
    have hbl:b ≠ m.nxt:=fun h=>hSb ((q1 b).2 (.inr h));rw[M.g_set,yaa hbl]
    exact hfr b hb (fun h=>hSb ((q1 b).2 (.inl h))) hbl,hvw⟩
   have hset:∀o b,S' b->(m4.set m.nxt o).g b=m4.g b:=fun o b hb=>by
    rw[M.g_set,yaa fun h=>hS'l (by rw[<- h]; exact hb)]
   have hlow:∀o b,b < m.nxt->(m4.set m.nxt o).g b=m4.g b:=fun o b hb=>by rw[M.g_set,yaa (by omega)]
   refine⟨⟨_,_,hB⟩,?_⟩
   cases ex with
   | nrm=>exact hT _ _ hown2 (hchg _) ⟨S',fun b=>Iff.rfl,hS'l,by rw[M.g_set,yab rfl],(hJ _).st _ _ _ hres (yac _) rfl (hset _) (hlow _),by show m.nxt < m4.nxt; omega,hown3⟩
   | exit id=>exact hF _ _ hown2 (hchg _) ⟨S',fun b=>Iff.rfl,hS'l,by show m.nxt < m4.nxt; omega,hown3,.inl ⟨id,by rw[M.g_set,yab rfl],(hX _).st _ _ _ hres (yac _) rfl (hset _) (hlow _)⟩⟩
   | ret=>exact hF _ _ hown2 (hchg _) ⟨S',fun b=>Iff.rfl,hS'l,by show m.nxt < m4.nxt; omega,hown3,.inr ⟨by rw[M.g_set,yab rfl],(hX _).st _ _ _ hres (yac _) rfl (hset _) (hlow _)⟩⟩
   | val v=>exact hres.elim
 have hDlt:=hi.lt _ hR
 have hRn:R (m.new (mk .ready none)):=hi.st _ _ hR (ya4 _) rfl fun b hb=>by rw[M.g_new,yaa (by have:=hDlt b hb; omega)]
 have hI0:I 0 (fun b=>S0 b\/b=m.nxt) (m.new (mk .ready none)):=⟨S0,fun b=>Iff.rfl,fun h=>by have:=hlt0 _ h; omega,by rw[M.g_new,yab rfl],(hJ 0).st _ _ _ h0 (ya4 _) rfl (fun b hb=>by rw[M.g_new,yaa (by have:=hlt0 b hb; omega)]) (fun b hb=>by rw[M.g_new,yaa (by omega)]),ybd _,fun b hb=>.inl hb⟩;refine hi.run m.nxt m.nxt I E _ (m.new (mk .ready none)) hc (ya4 _) hI0 hRn (fun b hb hD=>?_) _ fun v S' m5 hown hchg hfin=>?_
 ·rcases hb with hb | hb
  ·exact hS0 b hb hD
  ·have:=hDlt b hD; omega
 ·have hvw5:(m5.del m.nxt).vw=m.vw:=hchg.vw
  have hfr:∀b,b < m.nxt->¬ S0 b->(m5.del m.nxt).g b=m.g b:=fun b hb hS=>by
   rw[M.g_del,yaa (by omega),hchg.g b (by show b < m.nxt+1; omega) (fun h=>h.elim hS fun h=>by omega),M.g_new,yaa (by omega)]
  have hlowd:∀b,b < m.nxt->(m5.del m.nxt).g b=m5.g b:=fun b hb=>by rw[M.g_del,yaa (by omega)]
  have hdel:∀SJ:Nat->Prop,¬ SJ m.nxt->∀b,SJ b->(m5.del m.nxt).g b=m5.g b:=fun SJ hl b hb=>by rw[M.g_del,yaa fun h=>hl (by rw[<- h]; exact hb)]
  rcases hfin with ⟨SJ,q1,q2,q3,q4,q5,q6⟩ | ⟨SJ,q1,q2,q5,q6,q7⟩
  ·exact⟨_,_,q3,(fun h=>by cases h),hend SJ _ q6 q5 hvw5 hfr ((hJ _).st _ _ _ q4 (yac _) rfl (hdel SJ q2) hlowd)⟩
  ·rcases q7 with ⟨id,q8,q9⟩ | ⟨q8,q9⟩
   ·exact⟨_,_,q8,(fun h=>by cases h),hexit id SJ _ q6 q5 hvw5 hfr ((hX _).st _ _ _ q9 (yac _) rfl (hdel SJ q2) hlowd)⟩
   ·exact⟨_,_,q8,(fun h=>by cases h),hret SJ _ q6 q5 hvw5 hfr ((hX _).st _ _ _ q9 (yac _) rfl (hdel SJ q2) hlowd)⟩
end
end
end Go.Abs

namespace Go.Abs
set_option maxRecDepth 100000
noncomputable section
class Flat (α:Type) [Rp α]:Prop where
  fl:∀(f f':M) (cs:List C) (a:α),Rp.rep f cs a->Rp.rep f' cs a
instance:Flat Int:=⟨fun _ _ _ _ h=>h⟩
instance:Flat Bool:=⟨fun _ _ _ _ h=>h⟩
theorem Cat.flat{α:Type}[Rp α][Flat α]{f f':M}:∀{l:List α} {vs:List C},Cat f vs l->Cat f' vs l
 | [],_,h=>h
 | _::_,_,⟨c,r,h1,h2,h3⟩=>⟨c,r,h1,Flat.fl f f' _ _ h2,Cat.flat h3⟩
def SlX{α:Type}[Rp α](m:M)(X:Nat->Prop)(c:C)(l:List α):Prop:=Sl m c l/\∀b o n s d,c=.sl b o n s d->X b
theorem SlX.mv{α:Type}[Rp α][Flat α]{m f:M}{X:Nat->Prop}{c:C}{l:List α}(h:SlX m X c l)(hn:m.nxt<=f.nxt)(hv:f.vw=m.vw)(hg:∀b,X b->f.g b=m.g b):SlX f X c l:=by
 obtain⟨⟨vs,h1,h2,h3⟩,h4⟩:=h;exact⟨⟨vs,h1.to hn (fun b _ ⟨o,s,d,he⟩=>hg b (h4 _ _ _ _ _ he)) hv,h2.flat,h3⟩,h4⟩
class IM (α:Type) where
  rep:M->(Nat->Prop)->α->List V->Prop
  mv:∀{m f:M} {X:Nat->Prop} {a:α} {x:List V},rep m X a x->m.nxt<=f.nxt->f.vw=m.vw->(∀b,X b->f.g b=m.g b)->rep f X a x
instance {α:Type} [Rp α] [Flat α]:IM (List α):=⟨fun m X a x=>∃c,x=[.c c]/\SlX m X c a,fun⟨c,h1,h2⟩ hn hv hg=>⟨c,h1,h2.mv hn hv hg⟩⟩
variable {P:Program} {T:List (Nat × Bool)} {α:Type} [IM α]
def VsW(l:List α)(n i:Nat)(x:List V)(S:Nat->Prop)(m:M):Prop:=∃a X,l[i]? = some a/\IM.rep m X a x/\∀b,X b->n<=b/\¬ S b/\b < m.nxt
def ItW(P:Program)(T:List (Nat × Bool))(f:M)(x:C)(l:List α):Prop:=
 ∃g a b D R,x=.fn (.func g) a b/\zq0 P T x l.length (VsW l) D R/\(∀m,Sub f m->R m)/\∀b,D b->b < f.nxt/\(f.g b ≠ none\/f.vw b ≠ none)
theorem ItW.sub{f m:M}{x:C}{l:List α}(h:ItW P T f x l)(s:Sub f m):ItW P T m x l:=by
 obtain⟨g,a,b,D,R,h1,h2,h3,h4⟩:=h;refine⟨g,a,b,D,R,h1,h2,fun m' hs=>h3 m' (s.trans hs),fun b hb=>?_⟩;obtain⟨q1,q2⟩:=h4 b hb;exact⟨yaf q1 s.nxt,by rw[s.g b q1 q2,s.vw]; exact q2⟩
structure Gux (n0 tR:Nat) (Z:Nat->Prop) (A:Fm->M->(Nat->Nat)->M->Prop):Prop extends Gud n0 tR Z A where
 up:∀G f f' τ m,A G f τ m->Sub f f'->(∀b,b < n0\/Z b->f.g b=none->f'.g b=none)->A G f' τ m
 lw:∀G f f' τ m,A G f τ m->f'.nxt=f.nxt->f'.vw=f.vw->(∀b,f'.g b=none\/f'.g b=f.g b)->A G f' τ m
theorem lw0{f f':M}{b:Nat}(h:f'.g b=none\/f'.g b=f.g b)(hn:f.g b=none):f'.g b=none:=h.elim id fun e=>e.trans hn
namespace Gux
variable {n0 tR:Nat} {Z Z':Nat->Prop} {A A':Fm->M->(Nat->Nat)->M->Prop}
theorem and(h:Gux n0 tR Z A)(h':Gux n0 tR Z' A'):Gux n0 tR (fun b=>Z b\/Z' b) (fun G f τ m=>A G f τ m/\A' G f τ m):=
  ⟨h.toGud.and h'.toGud,fun _ _ _ _ _ q hs hg=>⟨h.up _ _ _ _ _ q.1 hs fun b hb=>hg b (hb.imp id .inl),h'.up _ _ _ _ _ q.2 hs fun b hb=>hg b (hb.imp id .inr)⟩,
   fun _ _ _ _ _ q hn hv hg=>⟨h.lw _ _ _ _ _ q.1 hn hv hg,h'.lw _ _ _ _ _ q.2 hn hv hg⟩⟩
theorem lb{t b n:Nat}{vs:List C}(hb:b < n0)(ht:t ≠ tR):Gux n0 tR (fun _=>False) (fun G f τ m=>Lb G f τ m t b n vs):=
 ⟨Gud.lb hb ht,fun _ _ _ _ _ q _ hg=>⟨q.bk,q.new,hg b (.inl hb) q.nf,q.tg⟩,fun _ _ _ _ _ q _ _ hg=>⟨q.bk,q.new,lw0 (hg b) q.nf,q.tg⟩⟩
theorem mo{K V':Type}[MK K][MV V']{t:Nat}{c:C}{M:Option (K->Option V')}(hb:∀b,c=.map b->b < n0)(ht:t ≠ tR):Gux n0 tR (fun _=>False) (fun G f τ m=>Mo G f τ m t c M):=
  ⟨Gud.mo hb ht,fun _ _ _ _ _ q _ hg=>⟨q.mi,fun b hc=>by
    obtain⟨q1,q2,q3,q4⟩:=q.own b hc
    exact⟨q1,hg b (.inl (hb b hc)) q2,q3,q4⟩⟩,
   fun _ _ _ _ _ q _ _ hg=>⟨q.mi,fun b hc=>by
    obtain⟨q1,q2,q3,q4⟩:=q.own b hc
    exact⟨q1,lw0 (hg b) q2,q3,q4⟩⟩⟩
theorem rk{t b:Nat}{o:Option AO}(hb:b < n0)(ht:t ≠ tR):Gux n0 tR (fun _=>False) (fun G f τ m=>Rk G f τ m t b o):=
 ⟨Gud.rk hb ht,fun _ _ _ _ _ q _ hg=>⟨q.g,q.new,hg b (.inl hb) q.nf,q.tg,q.lt⟩,fun _ _ _ _ _ q _ _ hg=>⟨q.g,q.new,lw0 (hg b) q.nf,q.tg,q.lt⟩⟩
theorem yg{n1:Nat}{J:(Nat->Prop)->M->Prop}{S:Nat->Prop}(hn:n1<=n0)(ht:0 ≠ tR):Gux n0 tR S (fun G f τ m=>Yg n1 J S G f τ m):=
  ⟨Gud.yg hn ht,fun _ _ _ _ _ q _ hg=>⟨q.j,q.loc,fun b hb=>by
    obtain⟨q1,q2,q3⟩:=q.own b hb
    exact⟨q1,q2,hg b (.inr hb) q3⟩,q.low,q.n⟩,
   fun _ _ _ _ _ q _ _ hg=>⟨q.j,q.loc,fun b hb=>by
    obtain⟨q1,q2,q3⟩:=q.own b hb
    exact⟨q1,q2,lw0 (hg b) q3⟩,q.low,q.n⟩⟩
end Gux
end
end Go.Abs

namespace Go.Abs
set_option maxRecDepth 100000
noncomputable section
structure zq2 (B:Nat->Prop) (m m':M):Prop where
 nxt:m.nxt<=m'.nxt
 g:∀b,b < m.nxt->¬ B b->m'.g b=m.g b
 vw:m'.vw=m.vw
theorem St.extX{m0 f0 f m:M}{B:Nat->Prop}(h:St ⟨m0,B⟩ f0 f m):zq2 B m0 m:=⟨h.ext.nxt,h.ext.g,h.ext.vw⟩
def isB(b:Nat):Nat->Prop:=fun b'=>b'=b
theorem St.callX{F:Fm}{f0 f m m':M}(s:St F f0 f m){τ:Nat->Nat}{t:Nat}{B:Nat->Prop}(hB:∀b,B b->(F.m.nxt<=b\/F.B b)/\f.g b=none/\τ b=t)(e:zq2 B m m'):St F f0 f m'/\Kp τ f m τ f m' [t]:=
 ⟨s.chg (X:=B) (fun b hb=>⟨(hB b hb).1,(hB b hb).2.1⟩) e.nxt e.vw e.g,⟨e.nxt,fun _ _=>rfl,fun b hb hx=>e.g b hb fun hc=>hx (by rw[(hB b hc).2.2]; exact yae ..),fun _ _ _=>rfl,.refl f,e.vw⟩⟩
structure Lc (f m:M) (b n:Nat) (vs:List C):Prop where
 bk:Bk m b n vs
 nf:f.g b=none
 nv:f.vw b=none
theorem Pre.stL{f m:M}(h:Pre f m){b n:Nat}{vs:List C}(hc:Lc f m b n vs):St ⟨m,isB b⟩ f f m:=h.stB _ fun b' hb=>by cases hb; exact hc.nv
theorem Lc.lb{f m:M}{b n:Nat}{vs:List C}(hc:Lc f m b n vs)(t:Nat):Lb ⟨m,isB b⟩ f (fun _=>t) m t b n vs:=⟨hc.bk,.inr rfl,hc.nf,rfl⟩
theorem Lb.lc{F:Fm}{f0 f m:M}{τ:Nat->Nat}{t b n:Nat}{vs:List C}(h:Lb F f τ m t b n vs)(s:St F f0 f m):Lc f m b n vs:=⟨h.bk,h.nf,s.v0 b h.new⟩
theorem Lb.callX{F:Fm}{f0 f m m':M}{τ:Nat->Nat}{t b n:Nat}{vs ws:List C}(h:Lb F f τ m t b n vs)(s:St F f0 f m)(e:zq2 (isB b) m m')(h':Bk m' b n ws):St F f0 f m'/\Kp τ f m τ f m' [t]/\Lb F f τ m' t b n ws:=by
 obtain⟨h1,h2⟩:=s.callX (τ:=τ) (t:=t) (fun b' hb=>by cases hb; exact⟨h.new,h.nf,h.tg⟩) e;exact⟨h1,h2,h',h.new,h.nf,h.tg⟩
variable {P:Program} {α:Type} [Rp α]
structure Wr (m0 m:M) (k:Nat) (x:C) (vs:List C) (n:Nat):Prop where
 len:n * k=vs.length
 val:(x=.sl0/\n=0)\/∃b o s d N ws op,x=.sl b o n s d/\b < m0.nxt/\b < m.nxt/\m0.g b=some (.cells N ws op)/\ws.length=N/\o+n * k<=N/\m.g b=some (.cells N (ws.take o++vs++ws.drop (o+n * k)) op)
theorem Wr.ls{m0 m:M}{k n:Nat}{x:C}{vs:List C}(h:Wr m0 m k x vs n):Ls m k x vs n:=by
 have hl:=h.len;refine⟨hl,?_⟩
 rcases h.val with h1 | ⟨b,o,s,d,N,ws,op,h1,_,h3,_,h5,h6,h7⟩
 ·exact .inl h1
 ·refine .inr ⟨b,o,s,d,h1,h3,fun _=>.inl ⟨N,_,op,h7,?_,by omega,?_⟩⟩
  ·simp only[List.length_append,List.length_take,List.length_drop]; omega
  ·rw[yav,ybe (by rw[yap]; omega),ybr rfl]
theorem Wr.to{m0 m m':M}{k n:Nat}{x:C}{vs:List C}(h:Wr m0 m k x vs n)(hn:m.nxt<=m'.nxt)(hg:∀b,zqM x b->m'.g b=m.g b):Wr m0 m' k x vs n:=by
 refine⟨h.len,?_⟩
 rcases h.val with h1 | ⟨b,o,s,d,N,ws,op,h1,h2,h3,h4,h5,h6,h7⟩
 ·exact .inl h1
 ·exact .inr ⟨b,o,s,d,N,ws,op,h1,h2,yaf h3 hn,h4,h5,h6,(hg b ⟨_,_,_,_,h1⟩).trans h7⟩
theorem Wr.lt{m0 m:M}{k n:Nat}{x:C}{vs:List C}(h:Wr m0 m k x vs n){b:Nat}(hb:zqM x b):b < m.nxt:=by
 obtain⟨o',n',s',d',hb⟩:=hb
 rcases h.val with ⟨h1,_⟩ | ⟨b',o,s,d,N,ws,op,h1,_,h3,_⟩
 ·rw[h1] at hb; cases hb
 ·rw[h1] at hb; cases hb; exact h3
theorem Wr.trans{m0 m m':M}{k n n':Nat}{x:C}{vs i:List C}(h:Wr m0 m k x vs n)(h':Wr m m' k x i n'):Wr m0 m' k x i n':=by
 have hl:=h.len;have q:=h'.len;refine⟨h'.len,?_⟩
 rcases h'.val with h1 | ⟨b,o,s,d,N,ws,op,h1,h2,h3,h4,h5,h6,h7⟩
 ·exact .inl h1
 ·rcases h.val with ⟨q1,_⟩ | ⟨b1,o1,s1,d1,N1,a,op1,q1,q2,q3,q4,q5,q6,q7⟩
  ·rw[q1] at h1; cases h1
  ·rw[q1] at h1; cases h1
   rw[q7] at h4; cases h4
   refine .inr ⟨_,_,_,_,_,a,_,q1,q2,h3,q4,q5,q6,?_⟩;rw[h7]
   have e1:(a.take o++vs++a.drop (o+n * k)).take o=a.take o:=by
    rw[yav,ybr (by rw[yap]; omega)]
   have e2:(a.take o++vs++a.drop (o+n * k)).drop (o+n * k)=a.drop (o+n * k):=by
    rw[ybe (by rw[yai,yap]; omega)]
   rw[e1,e2]
theorem Wr.refl{m0 m:M}{k n:Nat}{x:C}{vs:List C}(h:Wr m0 m k x vs n):Wr m m k x vs n:=by
 have hl:=h.len;refine⟨h.len,?_⟩
 rcases h.val with h1 | ⟨b,o,s,d,N,ws,op,h1,h2,h3,h4,h5,h6,h7⟩
 ·exact .inl h1
 ·refine .inr ⟨b,o,s,d,N,_,op,h1,h3,h3,h7,?_,h6,?_⟩
  ·simp only[List.length_append,List.length_take,List.length_drop]; omega
  ·rw[h7]
   congr 2
   rw[ybe (by rw[yai,yap]; omega)]
   congr 1
   rw[yav,ybr (by rw[yap]; omega)]
theorem zpZ.wr{m:M}{k n:Nat}{x:C}{vs:List C}(h:zpZ m k x vs n):Wr m m k x vs n:=by
 have hl:=h.len;refine⟨hl,?_⟩
 cases h.own with
 | nil h1 h2=>exact .inl ⟨rfl,h1⟩
 | grown b hg hb=>exact .inr ⟨b,0,k,none,_,vs,_,rfl,hb,hb,hg,hl.symm,by omega,by rw[hg,ya1,yaQ,yax (by omega),yaK]⟩
 | lit b hg hb=>exact .inr ⟨b,0,0,some n,_,vs,_,rfl,hb,hb,hg,hl.symm,by omega,by rw[hg,ya1,yaQ,yax (by omega),yaK]⟩
structure Wg (f m:M) (x:C) (l:List α):Prop where
 own:∃vs,Wr m m (Rp.k α) x vs l.length/\Cat f vs l
 nw:∀b,zqM x b->f.g b=none/\f.vw b=none
def Wn(m m':M)(x:C)(l:List α):Prop:=∃vs,Wr m m' (Rp.k α) x vs l.length/\Cat m' vs l
structure Wo (F:Fm) (f:M) (τ:Nat->Nat) (m:M) (t:Nat) (x:C) (l:List α):Prop where
 own:∃vs,Wr F.m m (Rp.k α) x vs l.length/\Cat f vs l
 nw:∀b o n s d,x=.sl b o n s d->(F.m.nxt<=b\/F.B b)/\f.g b=none/\τ b=t
theorem Pre.stW{f m:M}(h:Pre f m){x:C}{l:List α}(hc:Wg f m x l):St ⟨m,zqM x⟩ f f m:=h.stB _ fun b' hb=>(hc.nw b' hb).2
theorem Wg.wo{f m:M}{x:C}{l:List α}(hc:Wg f m x l)(t:Nat):Wo ⟨m,zqM x⟩ f (fun _=>t) m t x l:=⟨hc.own,fun b o n s d he=>⟨.inr ⟨_,_,_,_,he⟩,(hc.nw b ⟨_,_,_,_,he⟩).1,rfl⟩⟩
theorem Ow.wg{F:Fm}{f0 f m:M}{τ:Nat->Nat}{t:Nat}{x:C}{l:List α}(h:Ow F f τ m t x l)(s:St F f0 f m):Wg f m x l:=by
 obtain⟨vs,h1,h2⟩:=h.own;exact⟨⟨vs,h1.wr,h2⟩,fun b ⟨o,n,s',d,he⟩=>⟨(h.nw b o n s' d he).2.1,s.v0 b (h.nw b o n s' d he).1⟩⟩
theorem Wo.wg{F:Fm}{f0 f m:M}{τ:Nat->Nat}{t:Nat}{x:C}{l:List α}(h:Wo F f τ m t x l)(s:St F f0 f m):Wg f m x l:=by
 obtain⟨vs,h1,h2⟩:=h.own;exact⟨⟨vs,h1.refl,h2⟩,fun b ⟨o,n,s',d,he⟩=>⟨(h.nw b o n s' d he).2.1,s.v0 b (h.nw b o n s' d he).1⟩⟩
theorem Wo.callX[Flat α]{F:Fm}{f0 f m m':M}{τ:Nat->Nat}{t:Nat}{x:C}{l l':List α}(h:Wo F f τ m t x l)(s:St F f0 f m)(e:zq2 (zqM x) m m')(w:Wn m m' x l'):St F f0 f m'/\Kp τ f m τ f m' [t]/\Wo F f τ m' t x l':=by
 obtain⟨h1,h2⟩:=s.callX (τ:=τ) (t:=t) (fun b ⟨o,n,s',d,he⟩=>h.nw b o n s' d he) e;obtain⟨vs,q1,q2⟩:=h.own;obtain⟨a,q3,q4⟩:=w;exact⟨h1,h2,⟨a,q1.trans q3,q4.flat⟩,h.nw⟩
theorem Wo.wn[Flat α]{m0 f m:M}{B:Nat->Prop}{τ:Nat->Nat}{t:Nat}{x:C}{l:List α}(h:Wo ⟨m0,B⟩ f τ m t x l):Wn m0 m x l:=by
 obtain⟨vs,q1,q2⟩:=h.own;exact⟨vs,q1,q2.flat⟩
theorem Wo.blk{F:Fm}{f m:M}{τ:Nat->Nat}{t:Nat}{x:C}{l:List α}(h:Wo F f τ m t x l){b o n s:Nat}{d:Option Nat}(hx:x=.sl b o n s d):b < m.nxt:=h.own.elim fun _ h=>h.1.lt ⟨_,_,_,_,hx⟩
theorem Wo.k{F:Fm}{f f' m m':M}{τ τ':Nat->Nat}{t:Nat}{x:C}{l:List α}{X:List Nat}(h:Wo F f τ m t x l)(k:Kp τ f m τ' f' m' X)(hx:t ∉ X:=by decide):Wo F f' τ' m' t x l:=by
 have a:∀b o n s d,x=.sl b o n s d->τ b ∉ X:=fun b o n s d he=>by rw[(h.nw b o n s d he).2.2]; exact hx
 obtain⟨vs,h1,h2⟩:=h.own;refine⟨⟨vs,h1.to k.nxt fun b ⟨o,n,s,d,he⟩=>k.g b (h.blk he) (a _ _ _ _ _ he),h2.sub k.fs⟩,fun b o n s d he=>?_⟩;obtain⟨q1,q2,q3⟩:=h.nw b o n s d he;have i:=h.blk he;exact⟨q1,(k.fg b i (a _ _ _ _ _ he)).trans q2,(k.tg b i).trans q3⟩
theorem Wo.slLen{F:Fm}{f m:M}{τ:Nat->Nat}{t:Nat}{x:C}{l:List α}(h:Wo F f τ m t x l):slLen x=l.length:=h.own.elim fun _ h=>h.1.ls.slLen
theorem Wo.isSl{F:Fm}{f m:M}{τ:Nat->Nat}{t:Nat}{x:C}{l:List α}(h:Wo F f τ m t x l):isSl x:=h.own.elim fun _ h=>h.1.ls.isSl
theorem Wo.ptr{F:Fm}{f m:M}{τ:Nat->Nat}{t:Nat}{x:C}{l:List α}(h:Wo F f τ m t x l){n:Nat}{a:α}(hi:l[n]? = some a):∃b o,∀i,zl4 x i=.ptr b (o+i):=by
 obtain⟨vs,h1,h2⟩:=h.own;have hn:=(yah.1 hi).1;obtain⟨b,o,q,_⟩:=h1.ls.at (by omega);exact⟨b,o,q⟩
theorem Wo.add0{F:Fm}{f m:M}{τ:Nat->Nat}{t:Nat}{x:C}{l:List α}(h:Wo F f τ m t x l){n:Nat}{a:α}(hi:l[n]? = some a)(i:Nat):zl3 (zl4 x i) 0=zl4 x i:=by
 obtain⟨b,o,e⟩:=h.ptr hi; rw[e]; rfl
theorem Ls.rdP{m f:M}{x:C}{l:List α}{vs:List C}(h4:Ls m (Rp.k α) x vs l.length)(h5:Cat f vs l){n:Nat}{a:α}(hi:l[n]? = some a):∃cs,(ldA m (zl4 x (n * Rp.k α)) (Rp.k α)=some cs/\(∀j c,cs[j]? = some c->ldC m (zl3 (zl4 x (n * Rp.k α)) j)=some c)/\∀j i,0 < i->j+i<=Rp.k α->ldA m (zl3 (zl4 x (n * Rp.k α)) j) i=some ((cs.drop j).take i))/\Rp.rep f cs a:=by
 obtain⟨h6,h7⟩:=h5.at hi
 have hn:l.length ≠ 0:=by have:=(yah.1 hi).1; omega
 refine⟨_,⟨h4.rds Rp.pos h6,fun j c hj=>?_,fun j i h q=>?_⟩,h7⟩
 ·rw[h4.add hn];refine h4.rd ?_;rw[ya0] at hj
  split at hj
  ·rw[ybj] at hj; exact hj
  ·cases hj
 ·rw[h4.add hn,h4.rds h (by omega),<- yaz,ya6,yaH,yaS (by omega)]
theorem Wo.rdP{F:Fm}{f m:M}{τ:Nat->Nat}{t:Nat}{x:C}{l:List α}(h:Wo F f τ m t x l){n:Nat}{a:α}(hi:l[n]? = some a):∃cs,(ldA m (zl4 x (n * Rp.k α)) (Rp.k α)=some cs/\(∀j c,cs[j]? = some c->ldC m (zl3 (zl4 x (n * Rp.k α)) j)=some c)/\∀j i,0 < i->j+i<=Rp.k α->ldA m (zl3 (zl4 x (n * Rp.k α)) j) i=some ((cs.drop j).take i))/\Rp.rep f cs a:=by
 obtain⟨vs,h1,h5⟩:=h.own;exact h1.ls.rdP h5 hi
theorem Wo.setP{F:Fm}{f0 f m:M}{τ:Nat->Nat}{t:Nat}{x:C}{l:List α}(h:Wo F f τ m t x l)(s:St F f0 f m){n:Nat}{a a':α}(hi:l[n]? = some a)(E:List C)(hE:∀cs,Rp.rep f cs a->cs=E)(j:Nat)(new:List C)(hj:j+new.length<=Rp.k α)(ha:Rp.rep f (E.take j++new++E.drop (j+new.length)) a') :
  ∃m',stC m (zl3 (zl4 x (n * Rp.k α)) j) new.length new=some m'/\St F f0 f m'/\Kp τ f m τ f m' [t]/\Wo F f τ m' t x (l.set n a'):=by
 obtain⟨vs,h1,h2⟩:=h.own;have hn:=(yah.1 hi).1;obtain⟨c1,c2⟩:=h2.at hi;have u:=hE _ c2;have hk:=Rp.len c2;rw[u] at hk;have D:=h1.len
 rcases h1.val with ⟨_,h0⟩ | ⟨b,o,s',d,N,ws,op,hx,q2,q3,q4,q5,q6,q7⟩
 ·omega
 ·obtain⟨w1,w2,w3⟩:=h.nw _ _ _ _ _ hx
  have I:n * Rp.k α+Rp.k α<=l.length * Rp.k α:=by rw[<- ya7]; exact yaO _ hn
  have q:(ws.take o).length=o:=by rw[yap]; omega
  have w:=zqk q7 (by simp only[List.length_append,List.length_take,List.length_drop]; omega) (o:=o+(n * Rp.k α+j)) (new:=new) (by omega)
  have e0:(ws.take o++vs++ws.drop (o+l.length * Rp.k α)).take (o+(n * Rp.k α+j))=ws.take o++vs.take (n * Rp.k α+j):=by
   rw[yav,ybZ,q,yaw (by rw[q]; omega),show o+(n * Rp.k α+j) - o=n * Rp.k α+j by omega,ybo (by omega)]
  have e1:(ws.take o++vs++ws.drop (o+l.length * Rp.k α)).drop (o+(n * Rp.k α+j)+new.length)=vs.drop (n * Rp.k α+j+new.length)++ws.drop (o+l.length * Rp.k α):=by
   rw[yav,yb9,q,yax (by rw[q]; omega),yaQ,show o+(n * Rp.k α+j)+new.length - o=n * Rp.k α+j+new.length by omega,ycp (by omega)]
  have e:vs.take (n * Rp.k α+j)++new++vs.drop (n * Rp.k α+j+new.length)=vs.take (n * Rp.k α)++(E.take j++new++E.drop (j+new.length))++vs.drop (n * Rp.k α+Rp.k α):=by
   rw[<- u,yaH,yaS (by omega),yb8,ya6,yaz]
   have e2:vs.drop (n * Rp.k α+j+new.length)=(vs.drop (n * Rp.k α+(j+new.length))).take (Rp.k α - (j+new.length))++vs.drop (n * Rp.k α+Rp.k α):=by
    rw[show n * Rp.k α+j+new.length=n * Rp.k α+(j+new.length) by omega]
    conv=>lhs; rw[<- yco (Rp.k α - (j+new.length)) (vs.drop (n * Rp.k α+(j+new.length)))]
    rw[yaz,show n * Rp.k α+(j+new.length)+(Rp.k α - (j+new.length))=n * Rp.k α+Rp.k α by omega]
   rw[e2]
   simp only[List.append_assoc]
  have e3:∀A B X Y:List C,A++B++X++(Y++ws.drop (o+l.length * Rp.k α))=A++(B++X++Y)++ws.drop (o+l.length * Rp.k α):=fun A B X Y=>by simp only[List.append_assoc]
  rw[e0,e1,e3,e] at w
  have y:∀o b',b' ≠ b->(m.set b o).g b'=m.g b':=fun o b' i=>by rw[M.g_set,yaa i]
  refine⟨m.set b (.cells N (ws.take o++(vs.take (n * Rp.k α)++(E.take j++new++E.drop (j+new.length))++vs.drop (n * Rp.k α+Rp.k α))++ws.drop (o+l.length * Rp.k α)) op),?_,s.chg (X:=fun b'=>b'=b) (fun b' i=>by subst i; exact⟨w1,w2⟩) (yac _) rfl (fun b' _ i=>y _ b' i),⟨yac _,fun _ _=>rfl,fun b' _ G=>y _ b' fun he=>G (by rw[he,w3]; exact yae ..),fun _ _ _=>rfl,.refl f,rfl⟩,⟨_,⟨?_,.inr ⟨b,o,s',d,N,ws,op,by rw[yaC]; exact hx,q2,q3,q4,q5,by rw[yaC]; exact q6,by rw[M.g_set,yab rfl,yaC]⟩⟩,h2.set hn ha⟩,h.nw⟩
  ·rw[hx]
   show stC m (.ptr b (o+n * Rp.k α+j)) _ _=_
   rw[ybN]; exact w
  ·rw[yaC,D,yai,yai,yai,yai,yap,yap,yaM,yaM]
   omega
end
end Go.Abs

namespace Go.Abs
set_option maxRecDepth 100000
noncomputable section
variable {P:Program} {α:Type}
section
variable {enc:α->List C} {k:Nat}
theorem zq3(hk:∀a,(enc a).length=k):∀l:List α,(l.flatMap enc).length=l.length * k
 | []=>by simp
 | a::l=>by rw[ybC,yai,hk,zq3 hk l,yaE,ya7,ybm]
theorem zq4(hk:∀a,(enc a).length=k):∀(l:List α) (n:Nat),(l.flatMap enc).drop (n * k)=(l.drop n).flatMap enc
 | _,0=>by simp
 | [],n+1=>by simp
 | a::l,n+1=>by
  rw[ybC,ya7,ybm,<- yaz,ybe (hk a),zq4 hk l n,List.drop_succ_cons]
theorem zq5(hk:∀a,(enc a).length=k){l:List α}{n:Nat}{a:α}(h:l[n]? = some a):((l.flatMap enc).drop (n * k)).take k=enc a:=by
 obtain⟨hn,he⟩:=yah.1 h;rw[zq4 hk,yat hn,ybC,ybr (hk _),he]
theorem zq6(hk:∀a,(enc a).length=k){l:List α}{n:Nat}{a:α}(h:l[n]? = some a){j:Nat}{c:C}(hj:(enc a)[j]? = some c):(l.flatMap enc)[n * k+j]? = some c:=by
 have i:j < k:=by rw[<- hk a]; exact(yah.1 hj).1
 rw[<- ybj,<- hj,<- zq5 hk h,ya0,yab i]
theorem zq7(hk:∀a,(enc a).length=k){l:List α}{n:Nat}{a a':α}(h:l[n]? = some a)(j:Nat)(new:List C)(hj:j+new.length<=k)(ha:(enc a).take j++new++(enc a).drop (j+new.length)=enc a') :
  (l.flatMap enc).take (n * k+j)++new++(l.flatMap enc).drop (n * k+j+new.length)=(l.set n a').flatMap enc:=by
 obtain⟨hn,he⟩:=yah.1 h
 have e1:l=l.take n++a::l.drop (n+1):=by
  conv=>lhs; rw[<- yco n l,yat hn,he]
 have hl:(l.take n).length=n:=by rw[yap]; omega
 have hp:((l.take n).flatMap enc).length=n * k:=by rw[zq3 hk,hl]
 have e2:l.set n a'=l.take n++a'::l.drop (n+1):=by
  rw[ycv,yab hn]
 have i:=hk a
 have e3:l.flatMap enc=(l.take n).flatMap enc++(enc a++(l.drop (n+1)).flatMap enc):=by
  conv=>lhs; rw[e1,List.flatMap_append,ybC]
 rw[e2,List.flatMap_append,ybC,<- ha,e3];rw[ybZ,hp,yaw (by omega),show n * k+j - n * k=j by omega,ybo (by omega)];rw[show n * k+j+new.length=n * k+(j+new.length) by omega,yb9,hp,yax (by omega),yaQ,show n * k+(j+new.length) - n * k=j+new.length by omega,ycp (by omega)]
 simp only[List.append_assoc]
theorem Bk.rs{m:M}{b N:Nat}{l:List α}(h:Bk m b N (l.flatMap enc))(hk:∀a,(enc a).length=k)(hN:l.length * k=N){n:Nat}{a:α}(hi:l[n]? = some a):ldA m (.ptr b (0+n * k)) k=some (enc a):=by
 obtain⟨hn,_⟩:=yah.1 hi
 have h1:n * k+k<=l.length * k:=by rw[<- ya7]; exact yaO _ hn
 rw[h.rp (k:=0+n * k) (j:=k) (by rw[zq3 hk,hN]) (by omega),yay,zq5 hk hi]
theorem Bk.rs1{m:M}{b N:Nat}{l:List α}(h:Bk m b N (l.flatMap enc))(hk:∀a,(enc a).length=k){n:Nat}{a:α}(hi:l[n]? = some a){j o:Nat}{c:C}(hj:(enc a)[j]? = some c)(ho:o=n * k+j):ldC m (.ptr b o)=some c:=by
 subst ho; exact h.rc (zq6 hk hi hj)
theorem Lb.stS{F:Fm}{f0 f m:M}{τ:Nat->Nat}{t b N:Nat}{l:List α}(h:Lb F f τ m t b N (l.flatMap enc))(s:St F f0 f m)(hk:∀a,(enc a).length=k)(hN:l.length * k=N){n:Nat}{a a':α}(hi:l[n]? = some a)(j:Nat)(new:List C)(hj:j+new.length<=k)(ha:(enc a).take j++new++(enc a).drop (j+new.length)=enc a'){o:Nat}(ho:o=n * k+j)(i:Nat.beq new.length N=false) :
  ∃m',stC m (.ptr b o) new.length new=some m'/\St F f0 f m'/\Kp τ f m τ f m' [t]/\Lb F f τ m' t b N ((l.set n a').flatMap enc):=by
 subst ho;obtain⟨hn,_⟩:=yah.1 hi
 have h1:n * k+k<=l.length * k:=by rw[<- ya7]; exact yaO _ hn
 obtain⟨m',q1,q2,q3,q4⟩:=h.stoP s (n * k+j) new (by rw[zq3 hk]; omega) i;rw[zq7 hk hi j new hj ha] at q4;exact⟨m',q1,q2,q3,q4⟩
end
theorem zq8{k N b o i j:Nat}(a:i<=j)(hj:j<=N):arC k N (.ptr b o) i j=some (.sl b (ifB (Nat.beq N i) o (o+i * k)) (j - i) 0 (some (N - i))):=by
 show ifB (Nat.ble i j) (ifB (Nat.ble j N) _ none) none=_
 rw[yao a,yao hj]; rfl
section
variable [Rp α]
theorem Bk.arS{f:M}{b N o:Nat}{vs:List C}{l:List α}(h:Bk f b N vs)(hN:vs.length=N)(q:o+l.length * Rp.k α<=N)(hc:Cat f ((vs.drop o).take (l.length * Rp.k α)) l){i j:Nat}(a:i<=j)(hj:j<=l.length) :
  ∃c,arC (Rp.k α) l.length (.ptr b o) i j=some c/\Sl f c ((l.take j).drop i):=by
 have hs:Sl f (.sl b o l.length 0 (some l.length)) l:=⟨_,⟨hc.len,.inr ⟨b,o,0,some l.length,rfl,h.lt,fun _=>.inl ⟨N,vs,false,h.g,hN,by rw[<- hc.len]; exact q,by rw[<- hc.len]⟩⟩⟩,hc,.inr (.inl ⟨b,o,0,l.length,rfl,yac _⟩)⟩;obtain⟨c,h1,h2⟩:=hs.subC a hj;refine⟨c,?_,h2⟩;rw[zq8 a hj,<- h1]
 show _=ifB (Nat.ble i j) (ifB (Nat.ble j l.length) _ none) none
 rw[yao a,yao hj]; rfl
end
def TC(P:Program)(t k:Nat):Prop:=∃el,tk P t=.sl el/\zba P el=true/\P.cellsOf el=k
theorem zq9{t k:Nat}(ht:TC P t k){m:M}{b N o dn sn x:Nat}{y:Option Nat}{vs ws:List C}{s:C}(hb:Bk m b N vs)(hN:vs.length=N)(hs:Ls m k s ws sn)(T:0 < sn)(ho:o+dn * k<=N) :
  ∃m',CpR P t m (.sl b o dn x y) s ((min sn dn:Nat):Int) m'/\Bk m' b N (vs.take o++ws.take (min sn dn * k)++vs.drop (o+min sn dn * k))/\St1 m m' b:=by
 obtain⟨el,h1,h2,h3⟩:=ht;have hl:=hs.len;refine⟨m.set b (.cells N (vs.take o++ws.take (min sn dn * k)++vs.drop (o+min sn dn * k)) false),?_,hb.set _,.of_set rfl⟩
 show za6 (tk P t) none _=_
 rw[h1]
 show ifB (zba P el) (vSl (.c s) none (some (R.val (.c (.int .i64 (.ofNat 0))) (toH m))) fun sb so u _ _=>zaa (zcq (toH m) (P.cellsOf el) sb so (ifB (Nat.ble u dn) u dn)) none fun q=>zaa (zbg (toH m) b o (Nat.mul q.1 (P.cellsOf el)) q.2) none fun h'=>some (R.val (.c (.int .i64 (.ofNat q.1))) h')) none=_
 rw[h2,zd0,h3]
 rcases hs.val with ⟨rfl,rfl⟩ | ⟨sb,so,s',c',rfl,Y,F⟩
 ·omega
 ·show zaa (zcq (toH m) k sb so (ifB (Nat.ble sn dn) sn dn)) none _=_
  have G:ifB (Nat.ble sn dn) sn dn=min sn dn:=by
   by_cases h:sn<=dn
   ·rw[yao h,zd0,yaS h]
   ·have:Nat.ble sn dn=false:=by
     cases hq:Nat.ble sn dn with
     | true=>exact absurd (yaj hq) h
     | false=>rfl
    rw[this,zd1,Nat.min_eq_right (by omega)]
  rw[G];have w:min sn dn<=sn:=Nat.min_le_left ..;have A:min sn dn<=dn:=Nat.min_le_right ..;generalize hq:min sn dn=q at w A
  have Z:q * k<=ws.length:=by rw[<- hl]; exact yaO _ w
  have aa:q * k<=dn * k:=yaO _ A
  show zaa (zaa (rdA (toH m) sb so (Nat.mul q k)) none fun l=>some (q,l)) none _=_
  have J:rdA (toH m) sb so (Nat.mul q k)=some (ws.take (q * k)):=by
   ·have:=(F (by omega)).rds (i:=0) (j:=q * k) (by omega);rw[yau] at this;exact this
  rw[J,zd3,zd3]
  have D:(ws.take (q * k)).length=q * k:=by rw[yap]; omega
  have O:stC m (.ptr b o) (q * k) (ws.take (q * k))=some (m.set b (.cells N (vs.take o++ws.take (q * k)++vs.drop (o+q * k)) false)):=by
   have:=zqk hb.g hN (o:=o) (new:=ws.take (q * k)) (by rw[D]; omega);rw[D] at this;exact this
  have I:zbg (toH m) b o (Nat.mul q k) (ws.take (q * k))=some (toH (m.set b (.cells N (vs.take o++ws.take (q * k)++vs.drop (o+q * k)) false))):=by
   have h9:stC m (.ptr b o) (q * k) (ws.take (q * k))=_:=O;unfold stC at h9
   simp only[hb.g] at h9
   show za2 (toH m) b none (fun n Q opn=>ifB (Nat.beq n (Nat.mul q k)) (ifB (Nat.beq o 0) (some (za0 (toH m) b (.cells n (ws.take (q * k)) opn))) none) (zaa (zaH o (ws.take (q * k)) Q) none fun a=>some (za0 (toH m) b (.cells n a opn))))=_
   rw[zmW hb.g]
   simp only[zlN]
   have e:∀(c:Bool) (x:Option M) (y:Option (List C)),(ifB c (zaa x none fun z=>some (toH z)) (zaa y none fun a=>some (toH (m.set b (.cells N a false)))))=zaa (ifB c x (zaa y none fun a=>some (m.set b (.cells N a false)))) none fun z=>some (toH z):=by
    intro c x y
    cases c <;> cases x <;> cases y <;> rfl
   have e2:ifB (Nat.beq o 0) (some (toH (m.set b (.cells N (ws.take (q * k)) false)))) none=zaa (ifB (Nat.beq o 0) (some (m.set b (.cells N (ws.take (q * k)) false))) none) none fun z=>some (toH z):=by
    cases Nat.beq o 0 <;> rfl
   rw[e2,e];have S:Nat.mul q k=q * k:=rfl;rw[S,h9]; rfl
  rw[I,zd3]
  rfl
theorem Lb.cpy{t k:Nat}(ht:TC P t k){F:Fm}{f0 f m:M}{τ:Nat->Nat}{tg b N:Nat}{vs:List C}(h:Lb F f τ m tg b N vs)(s:St F f0 f m){o dn sn x:Nat}{y:Option Nat}{ws:List C}{c:C}(hN:vs.length=N)(hs:Ls m k c ws sn)(a:0 < sn)(ho:o+dn * k<=N) :
  ∃m',CpR P t m (.sl b o dn x y) c ((min sn dn:Nat):Int) m'/\St F f0 f m'/\Kp τ f m τ f m' [tg]/\Lb F f τ m' tg b N (vs.take o++ws.take (min sn dn * k)++vs.drop (o+min sn dn * k)):=by
 obtain⟨m',h1,h2,h3⟩:=zq9 ht h.bk hN hs a ho;exact⟨m',h1,s.st1 h h2 h3⟩
theorem Bk.whole{m:M}{b N k n x:Nat}{vs:List C}(h:Bk m b N vs)(hN:vs.length=N)(hn:n * k=N):Ls m k (.sl b 0 n x (some n)) vs n:=
 ⟨by omega,.inr ⟨b,0,x,some n,rfl,h.lt,fun _=>.inl ⟨N,vs,false,h.g,hN,by omega,by rw[yau,yaw (by omega)]⟩⟩⟩
theorem zra{k n b o:Nat}(hn:0 < n):arC k n (.ptr b o) 0 n=some (.sl b (o+0) n 0 (some n)):=by
 rw[zq8 (yam _) (yac _)]
 have:Nat.beq n 0=false:=by
  cases n with
  | zero=>omega
  | succ n=>rfl
 rw[this,zd1,yaN]; rfl
theorem Lb.cpA{t k:Nat}(ht:TC P t k){F:Fm}{f0 f m:M}{τ:Nat->Nat}{tg b N:Nat}{vs:List C}(h:Lb F f τ m tg b N vs)(s:St F f0 f m){b':Nat}{ws:List C}(h':Bk m b' N ws)(hN:vs.length=N)(a:ws.length=N){n:Nat}(i:0 < n)(hn:n * k=N) :
  ∃m',CpR P t m (.sl b (0+0) n 0 (some n)) (.sl b' (0+0) n 0 (some n)) (n:Int) m'/\St F f0 f m'/\Kp τ f m τ f m' [tg]/\Lb F f τ m' tg b N ws:=by
 obtain⟨m',h1,h2,h3,h4⟩:=h.cpy ht s (o:=0) (dn:=n) (x:=0) (y:=some n) hN (h'.whole (x:=0) a hn) i (by omega);rw[Nat.min_self] at h1 h4;rw[hn,ya1,yaQ,yaw (by omega),yax (by omega),yaK] at h4;exact⟨m',h1,h2,h3,h4⟩
theorem zrb(l:List Int)(a b c:Int):(zp4 l).take (min l.length 3)++[C.int .i64 a,.int .i64 b,.int .i64 c].drop (min l.length 3)=[C.int .i64 (l.getD 0 a),.int .i64 (l.getD 1 b),.int .i64 (l.getD 2 c)]:=by
 rcases l with _ | ⟨x,_ | ⟨y,_ | ⟨z,l⟩⟩⟩
 ·rfl
 ·rfl
 ·rfl
 ·have:min (x::y::z::l).length 3=3:=by simp only[List.length_cons]; omega
  rw[this]; rfl
theorem Lb.cp3{T:Nat}(ht:TC P T 1){F:Fm}{f0 f m:M}{τ:Nat->Nat}{tg b N:Nat}{pre post:List C}{x y z:Int}(h:Lb F f τ m tg b N (pre++([.int .i64 x,.int .i64 y,.int .i64 z]++post)))(s:St F f0 f m)(hN:pre.length+(3+post.length)=N){c:C}{l:List Int}(hs:Sl f c l)(h0:0 < l.length){o:Nat}(ho:o=pre.length) :
  ∃m' q,CpR P T m (.sl b (o+0) 3 0 (some 3)) c q m'/\St F f0 f m'/\Kp τ f m τ f m' [tg]/\Lb F f τ m' tg b N (pre++([.int .i64 (l.getD 0 x),.int .i64 (l.getD 1 y),.int .i64 (l.getD 2 z)]++post)):=by
 subst ho;obtain⟨ws,q1,q2,q3⟩:=hs
 have hw:ws=zp4 l:=by
  have:∀(l:List Int) (ws:List C),Cat f ws l->ws=zp4 l:=by
   intro l
   induction l with
   | nil=>intro ws h; exact h
   | cons a l ih=>
    intro ws ⟨c,r,h1,h2,h3⟩;have h2:c=[.int .i64 a]:=h2;rw[h1,h2,ih r h3]; rfl
  exact this l ws q2
 subst hw;obtain⟨m',h1,h2,h3,h4⟩:=h.cpy ht s (o:=pre.length+0) (dn:=3) (x:=0) (y:=some 3) (by simp only[List.length_append,List.length_cons,List.length_nil]; omega) (q1.sub s.sub) h0 (by omega);refine⟨m',_,h1,h2,h3,?_⟩
 have hq:min l.length 3 * 1<=3:=by omega
 rw[ybQ,ybr rfl,yb9,yax (by omega),yaQ,yca,ycp (by simpa using hq),ybB] at h4;have e:=zrb l x y z;rw[yav,<- yav ((zp4 l).take _),e] at h4;exact h4
theorem zrc{β:Type}[Rp β]{f:M}{z:List C}{a:β}(h:Rp.rep f z a):∀n:Nat,Cat f (zaJ z n) (List.replicate n a)
 | 0=>rfl
 | n+1=>⟨z,zaJ z n,zep ..,h,zrc h n⟩
theorem Lb.mkS{β:Type}[Rp β]{F:Fm}{f m:M}{τ:Nat->Nat}{t b n k:Nat}{z:List C}{a:β}(h:Lb F f τ m t b (n * Rp.k β) (zaJ z n))(hr:Rp.rep f z a)(hk:k=n):Ow F f τ m t (.sl b 0 n 0 (some n)) (List.replicate k a):=by
 subst hk;have hc:=zrc hr k;refine⟨⟨zaJ z k,?_,hc⟩,fun b o n s d he=>by cases he; exact⟨h.new,h.nf,h.tg⟩⟩;rw[ybs];exact⟨by rw[<- hc.len,ybs],.lit b h.bk.g h.bk.lt⟩
structure Oq {β:Type} [Rp β] (F:Fm) (f:M) (τ:Nat->Nat) (m:M) (t:Nat) (x:C) (l:List β) (cap:Nat):Prop where
 own:∃b vs junk,x=.sl b 0 l.length 0 (some cap)/\b < m.nxt/\m.g b=some (.cells (cap * Rp.k β) (vs++junk) false)/\Cat f vs l/\(vs++junk).length=cap * Rp.k β/\l.length<=cap/\(F.m.nxt<=b\/F.B b)/\f.g b=none/\τ b=t
section
variable {β:Type} [Rp β] {F:Fm} {f0 f m:M} {τ:Nat->Nat} {t cap:Nat} {x:C} {l:List β}
theorem Lb.mkQ{b n k:Nat}{z:List C}{a:β}(h:Lb F f τ m t b (n * Rp.k β) (zaJ z n))(hr:Rp.rep f z a)(hk:k=n):Oq F f τ m t (.sl b 0 0 0 (some n)) ([]:List β) k:=by
 subst hk;have hc:=zrc hr k;exact⟨b,[],zaJ z k,rfl,h.bk.lt,h.bk.g,rfl,by rw[yaQ,<- hc.len,ybs],yam _,h.new,h.nf,h.tg⟩
theorem Oq.k{f' m':M}{τ':Nat->Nat}{X:List Nat}(h:Oq F f τ m t x l cap)(k:Kp τ f m τ' f' m' X)(hx:t ∉ X:=by decide):Oq F f' τ' m' t x l cap:=by
 obtain⟨b,vs,junk,h1,h2,h3,h4,h5,h6,h7,h8,h9⟩:=h.own
 have hx:τ b ∉ X:=by rw[h9]; exact hx
 exact⟨b,vs,junk,h1,yaf h2 k.nxt,(k.g b h2 hx).trans h3,h4.sub k.fs,h5,h6,h7,(k.fg b h2 hx).trans h8,(k.tg b h2).trans h9⟩
theorem Oq.slLen(h:Oq F f τ m t x l cap):slLen x=l.length:=by obtain⟨b,vs,junk,rfl,_⟩:=h.own; rfl
theorem Oq.wg(h:Oq F f τ m t x l cap)(s:St F f0 f m):Wg f m x l:=by
 obtain⟨b,vs,junk,h1,h2,h3,h4,h5,h6,h7,h8,h9⟩:=h.own;have hl:=h4.len;refine⟨⟨vs,⟨hl,.inr ⟨b,0,0,some cap,_,vs++junk,false,h1,h2,h2,h3,h5,?_,?_⟩⟩,h4⟩,fun b' ⟨o,n,s',d,he⟩=>?_⟩
 ·have:=yaO (Rp.k β) h6; omega
 ·rw[h3,ya1,yaQ,yay,ybe hl.symm]
 ·rw[h1] at he; cases he
  exact⟨h8,s.v0 _ h7⟩
theorem Oq.callX[Flat β]{m':M}{l':List β}(h:Oq F f τ m t x l cap)(s:St F f0 f m)(e:zq2 (zqM x) m m')(w:Wn m m' x l'):St F f0 f m'/\Kp τ f m τ f m' [t]/\Oq F f τ m' t x l' cap:=by
 obtain⟨b,vs,junk,h1,h2,h3,h4,h5,h6,h7,h8,h9⟩:=h.own;obtain⟨k1,k2⟩:=s.callX (τ:=τ) (t:=t) (fun b' ⟨o,n,s',d,he⟩=>by rw[h1] at he; cases he; exact⟨h7,h8,h9⟩) e;obtain⟨i,q1,q2⟩:=w;have hl:=h4.len;have q:=q2.len;refine⟨k1,k2,?_⟩
 rcases q1.val with ⟨r1,_⟩ | ⟨b',o,s',d,N,ws,op,r1,r2,r3,r4,r5,r6,r7⟩
 ·rw[h1] at r1; cases r1
 ·rw[h1] at r1
  have a:l.length=l'.length:=by injection r1
  have hb:b=b':=by injection r1
  have ho:0=o:=by injection r1
  subst hb ho
  rw[h3] at r4; cases r4
  refine⟨b,i,junk,by rw[h1,a],r3,?_,q2.flat,?_,by omega,h7,h8,h9⟩
  ·rw[r7,ya1,yaQ,yay,<- a,ybe hl.symm]
  ·rw[yai] at h5 ⊢;rw[<- q,<- a,hl]; exact h5
theorem Oq.app'{T:Nat}(ht:TA P T (Rp.k β)){m1:M}(s:St F f0 f m)(h:Oq F f τ m t x l cap){cs:List C}{a:β}(hr:Rp.rep f cs a)(q:l.length < cap/\cap<=4096)(e:m1=m.new (.cells (Rp.k β) cs false)) :
  ∃c m2 τ',ApR P T m1 x (.sl m.nxt 0 1 0 (some 1)) c m2/\St F f0 f m2/\Kp τ f m τ' f m2 [t]/\Oq F f τ' m2 t c (l++[a]) cap:=by
 obtain⟨el,ht,u,hk⟩:=ht;obtain⟨b,vs,junk,h1,h2,h3,h4,h5,h6,h7,h8,h9⟩:=h.own;obtain⟨b1,x1⟩:=Bk.new e;have hl:=h4.len;have w:=Rp.len hr
 have Q:m1.nxt=m.nxt+1:=by rw[e]; rfl
 have D:Ls m1 (Rp.k β) (.sl m.nxt 0 1 0 (some 1)) cs 1:=Ls.one b1.g w b1.lt 0 (some 1)
 have O:l.length * Rp.k β+Rp.k β<=cap * Rp.k β:=by rw[<- ya7]; exact yaO _ q.1
 have G:m1.g b=some (.cells (cap * Rp.k β) (vs++junk) false):=(x1.g b h2).trans h3;have y:St F f0 f m1/\Kp τ f m (zqe τ m.nxt t) f m1 []:=s.new e τ t;refine⟨.sl b 0 (l.length+1) 0 (some cap),m1.set b (.cells (cap * Rp.k β) (vs++cs++junk.drop (Rp.k β)) false),zqe τ m.nxt t,?_,y.1.chg (X:=fun b'=>b'=b) (fun b' i=>by subst i; exact⟨h7,h8⟩) (yac _) rfl (fun b' _ i=>by rw[M.g_set,yaa i]),⟨by show m.nxt<=m1.nxt; omega,y.2.tg,fun b' i I=>?_,fun _ _ _=>rfl,.refl f,x1.vw⟩,⟨b,vs++cs,junk.drop (Rp.k β),by rw[yai]; rfl,by show b < m1.nxt; omega,by rw[M.g_set,yab rfl],h4.app (Cat.one hr),?_,by rw[yai]; exact q.1,h7,h8,?_⟩⟩
 ·show za6 (tk P T) none _=_
  rw[ht]
  show ifB (zct P el) (zaa (zcr (toH m1) (P.cellsOf el) (.c (.sl m.nxt 0 1 0 (some 1)))) none _) none=_
  have A:(l.length+1) * P.bytesOf el<=140737488355328:=zp1 u (by omega);rw[u,zd0,hk,D.src,zd3]
  show ifB (Nat.ble (Nat.mul 1 (P.bytesOf el)) 140737488355328) _ none=_
  rw[yao (show Nat.mul 1 (P.bytesOf el)<=140737488355328 from yad (yaO _ (Nat.le_add_left 1 l.length)) A),zd0,h1]
  show ifB (Nat.ble (Nat.mul (Nat.add l.length 1) (P.bytesOf el)) 140737488355328) (za2 (toH m1) b none fun bn J opn=>ifB (Nat.ble (Nat.add l.length 1) cap)
   (zaa (zaH (Nat.add 0 (Nat.mul l.length (P.cellsOf el))) cs J) none fun N=>some (R.val (.c (.sl b 0 (Nat.add l.length 1) 0 (some cap))) (za0 (toH m1) b (.cells bn N opn)))) _) none=_
  rw[yao (show Nat.mul (Nat.add l.length 1) (P.bytesOf el)<=140737488355328 from A),zd0,zmW G,hk,yao (show Nat.add l.length 1<=cap from q.1),zd0]
  have e0:Nat.add 0 (Nat.mul l.length (Rp.k β))=vs.length:=by show 0+l.length * Rp.k β=_; omega
  rw[e0,zpG cs vs.length (vs++junk) (by omega),zd3,zlN]
  have e1:(vs++junk).take vs.length++cs++(vs++junk).drop (vs.length+cs.length)=vs++cs++junk.drop (Rp.k β):=by
   rw[ybr rfl,yb9,yax (by omega),yaQ,yca,w]
  rw[e1]
 ·rw[M.g_set,yaa fun hb=>I (by rw[hb,h9]; exact yae ..)];exact x1.g b' i
 ·rw[yai] at h5
  simp only[List.length_append,List.length_drop]
  omega
 ·show zqe τ m.nxt t b=t
  unfold zqe;rw[yaa (by omega)]; exact h9
theorem Oq.freeze(h:Oq F f τ m t x l cap)(s:St F f0 f m):∃f',St F f0 f' m/\Kp τ f m τ f' m [t]/\Sl f' x l:=by
 obtain⟨b,vs,junk,h1,h2,h3,h4,h5,h6,h7,h8,h9⟩:=h.own;have hl:=h4.len;obtain⟨f',q1,q2,q3⟩:=Lb.freeze (b:=b) (n:=cap * Rp.k β) (vs:=vs++junk) (t:=t) ⟨⟨h3,h2⟩,h7,h8,h9⟩ s;refine⟨f',q1,q2,vs,⟨hl,.inr ⟨b,0,0,some cap,h1,q3.lt,fun _=>.inl ⟨_,vs++junk,false,q3.g,h5,?_,?_⟩⟩⟩,h4.sub q2.fs,.inr (.inl ⟨b,0,0,cap,h1,h6⟩)⟩
 ·rw[yai] at h5; omega
 ·rw[yau,ybr rfl]
end
end
end Go.Abs

namespace Go.Abs
set_option maxRecDepth 100000
noncomputable section
section
variable {P:Program} {T:List (Nat × Bool)}
theorem zrd{α:Type}[IM α]{g:FuncId}{b:List W}{f:M}(i:∀b,f.nxt<=b->f.g b=none)(q:∀b,f.nxt<=b->f.vw b=none){l:List α}
  (a:∀ (n0 ly:Nat) (I:Nat->(Nat->Prop)->M->Prop) (E:(Nat->Prop)->M->Prop) (S:Nat->Prop) (m:M),zqZ P T n0 ly (VsW l m.nxt) I E->n0<=m.nxt->I 0 S m->Pre f m->(∀ b,S b->f.g b=none/\f.vw b=none)->∀ Q:V->M->Prop,
   (∀v S' m',Own S m S'->Chg S m m'->I l.length S' m'\/E S' m'->Q v m')->Wc P T g (appS [.c (.fn (.yield ly) [] [])] (zbZ wV b)) m Q):ItW P T f (.fn (.func g) [] b) l:=by
 refine⟨g,[],b,fun b=>b < f.nxt/\(f.g b ≠ none\/f.vw b ≠ none),fun m=>Sub f m,rfl,⟨fun m m' hs hn hv hd=>⟨yad hs.nxt hn,hv.trans hs.vw,fun b hb hx=>(hd b ⟨hb,hx⟩).trans (hs.g b hb hx)⟩,fun m hs b hb=>yaf hb.1 hs.nxt,fun n0 ly I E S m hc hn hI hR s Q hQ=>?_⟩,fun m h=>h,fun b h=>h⟩
 have u:∀b,S b->f.g b=none/\f.vw b=none:=fun b hb=>by
  rcases yaA b f.nxt with h | h
  ·have h9:=s b hb
   constructor
   ·cases hg:f.g b with
    | none=>rfl
    | some o=>exact absurd ⟨h,.inl (by rw[hg]; exact yaI _)⟩ h9
   ·cases hg:f.vw b with
    | none=>rfl
    | some o=>exact absurd ⟨h,.inr (by rw[hg]; exact yaI _)⟩ h9
  ·exact⟨i b h,q b h⟩
 exact a n0 ly I E S m hc hn hI ⟨hR,i,q⟩ u Q hQ
theorem zre(f:M):∀L:List Int,Cat f (zp4 L) L
 | []=>rfl
 | a::L=>⟨[.int .i64 a],zp4 L,rfl,rfl,zre f L⟩
def Wl(m:M)(x:C)(L:List Int):Prop:=(x=.sl0/\L=[])\/∃b N vs,x=.sl b 0 L.length 1 none/\b < m.nxt/\m.g b=some (.cells N vs true)/\vs.length=N/\L.length<=N/\vs.take L.length=zp4 L
theorem Wl.nil(m:M):Wl m .sl0 []:=.inl ⟨rfl,rfl⟩
theorem Wl.lt{m:M}{x:C}{L:List Int}(h:Wl m x L){b:Nat}(hb:zqM x b):b < m.nxt:=by
 obtain⟨o,n,s,d,hb⟩:=hb
 rcases h with ⟨h,_⟩ | ⟨b',N,vs,h1,h2,_⟩
 ·rw[h] at hb; cases hb
 ·rw[h1] at hb; cases hb; exact h2
theorem Wl.len{m:M}{x:C}{L:List Int}(h:Wl m x L):slLen x=L.length:=by
 rcases h with ⟨h,h'⟩ | ⟨b',N,vs,h1,_⟩
 ·rw[h,h']; rfl
 ·rw[h1]; rfl
theorem Wl.sl{m:M}{x:C}{L:List Int}(h:Wl m x L):SlX m (zqM x) x L:=by
 refine⟨⟨zp4 L,?_,zre m L,?_⟩,fun b o n s d he=>⟨_,_,_,_,he⟩⟩
 ·refine⟨by rw[zp5]; exact ybB _,?_⟩
  rcases h with ⟨h,h'⟩ | ⟨b',N,vs,h1,h2,h3,h4,h5,h6⟩
  ·exact .inl ⟨h,congrArg List.length h'⟩
  ·exact .inr ⟨b',0,1,none,h1,h2,fun _=>.inl ⟨N,vs,true,h3,h4,by rw[zp5]; omega,by rw[yau,zp5]; exact h6⟩⟩
 ·rcases h with ⟨h,h'⟩ | ⟨b',N,vs,h1,_⟩
  ·exact .inl ⟨h,by rw[h']; rfl⟩
  ·exact .inr (.inr ⟨b',0,h1⟩)
theorem Wl.cut{m:M}{x:C}{L:List Int}{v:Int}(h:Wl m x (L++[v])):∃c,subC 1 x 0 L.length=some c/\Wl m c L/\∀b,zqM c b->zqM x b:=by
 rcases h with ⟨_,h'⟩ | ⟨b,N,vs,h1,h2,h3,h4,h5,h6⟩
 ·simp at h'
 ·rw[yai] at h1 h5 h6;have h7:[v].length=1:=rfl;refine⟨.sl b 0 L.length 1 none,?_,.inr ⟨b,N,vs,rfl,h2,h3,h4,by omega,?_⟩,fun b' ⟨o,n,s,d,he⟩=>by cases he; exact⟨_,_,_,_,h1⟩⟩
  ·subst h1
   show ifB (Nat.ble 0 L.length) (ifB (Nat.ble L.length (L.length + [v].length)) (ifB (Nat.beq 1 1) (some (C.sl b (Nat.add 0 (Nat.mul 0 1)) (Nat.sub L.length 0) 1 none)) none) none) none=_
   rw[yao (yam _),yao (by omega)]
   rfl
  ·have h8:=congrArg (List.take L.length) h6;rw[yaH,yaS (by omega)] at h8;rw[h8];unfold zp4;rw[ybk,ybo (by rw[yas]; omega),yaw (by rw[yas]; omega)]
end
end
end Go.Abs

namespace Go.Abs
set_option maxRecDepth 100000
noncomputable section
open Classical
variable {P:Program} {κ:Type} {enc:κ->U}
def zrf(_enc:κ->U)(f:κ->Option U)(ks:List κ):Prop:=ks.Nodup/\∀a,a∈ks↔f a ≠ none
structure ItR (enc:κ->U) (m:M) (i b:Nat) (f:κ->Option U) (rem:List κ):Prop where
 ex:∃es clock seen,m.g i=some (.iter (some b) clock seen clock)/\m.g b=some (.map es clock)/\zqw enc es/\(∀a,look enc es a=f a)/\zqz es clock /\
  (zaN (fun e:E=>ifB (zaK e.born seen) false true) es).map (·.k)=rem.map enc/\∀s∈seen,s < clock
 ne:i ≠ b
theorem zrg{es:List E}(h:zqw enc es):∃ks:List κ,es.map (·.k)=ks.map enc:=by
 induction es with
 | nil=>exact⟨[],rfl⟩
 | cons e es ih=>
  obtain⟨a,ha⟩:=h e (yae ..);obtain⟨ks,i⟩:=ih fun e he=>h e (yag _ he);exact⟨a::ks,by rw[yaX,yaX,i,ha]⟩
theorem zrh{es:List E}{a:κ}:look enc es a ≠ none↔∃e∈es,e.k=enc a:=by
 induction es with
 | nil=>exact⟨fun h=>absurd rfl h,fun⟨e,he,_⟩=>by cases he⟩
 | cons e es ih=>
  show(if e.k=enc a then some e.v else look enc es a) ≠ none↔_
  by_cases h:e.k=enc a
  ·rw[yab h]; exact⟨fun _=>⟨e,yae ..,h⟩,fun _=>by simp⟩
  ·rw[yaa h,ih];exact⟨fun⟨e',h1,h2⟩=>⟨e',yag _ h1,h2⟩,fun⟨e',h1,h2⟩=>⟨e',(yal.1 h1).resolve_left fun hc=>h (hc ▸ h2),h2⟩⟩
theorem Mp.range{m:M}{b:Nat}{f:κ->Option U}(i:∀a a':κ,enc a=enc a'->a=a')(h:Mp enc m b f):∃ks o,zrf enc f ks/\zl9 m (.map b)=some o/\∀m',m'=m.new o->ItR enc m' m.nxt b f ks:=by
 obtain⟨es,clock,h1,h2,h3,h4⟩:=h.ex;obtain⟨ks,hk⟩:=zrg h2
 refine⟨ks,.iter (some b) clock [] clock,⟨?_,fun a=>?_⟩,by show(match m.g b with | some (.map _ clock)=>some (AO.iter (some b) clock [] clock) | _=>none)=_; rw[h1],fun m' e=>?_⟩
 ·have hp:(es.map (·.k)).Pairwise (· ≠ ·):=by
   have:=h4.2;rw[ybR] at this ⊢;exact this.imp fun h=>h.2
  rw[hk,ybR] at hp;exact hp.imp fun h hc=>h (by rw[hc])
 ·rw[<- h3 a,zrh]
  constructor
  ·intro ha
   have:enc a∈es.map (·.k):=by rw[hk]; exact List.mem_map_of_mem ha
   obtain⟨e,he,hq⟩:=yaq.1 this;exact⟨e,he,hq⟩
  ·rintro⟨e,he,hq⟩
   have:enc a∈ks.map enc:=by rw[<- hk,<- hq]; exact List.mem_map_of_mem he
   obtain⟨a',q,u⟩:=yaq.1 this;rw[<- i _ _ u]; exact q
 ·subst e;have w:=h.lt;refine⟨⟨es,clock,[],by rw[M.g_new,yab rfl],by rw[M.g_new,yaa (by omega)]; exact h1,h2,h3,h4,?_,fun s hs=>by cases hs⟩,by omega⟩;rw[zhp,show es.filter (fun e:E=>ifB (zaK e.born []) false true)=es from ycb.2 (fun e _=>rfl)];exact hk
theorem ItR.next{m:M}{i b:Nat}{f:κ->Option U}{rem:List κ}(h:ItR enc m i b f rem):∃l,nxM m (.ptr i 0)=some l/\(l=[]↔rem=[]) /\
  ∀k y m',InL k y m' l->∃l1 a l2 o,rem=l1++a::l2/\k=enc a/\f a=some y/\m'=m.set i o/\enM m' (.ptr i 0)=some (enc a,y)/\ItR enc m' i b f (l1++l2):=by
 obtain⟨⟨es,clock,seen,h1,h2,h3,h4,h5,h6,h8⟩,h7⟩:=h;have hborn:∀e∈es,e.born < clock:=fun e he=>h5.1 (e.k,e.born) (yaq.2 ⟨e,he,rfl⟩)
 have hst:(zab seen true fun _ _=>zab es true fun _ _=>zaM (fun e:E=>ltN e.born clock) es)=true:=by
  cases seen with
  | nil=>rfl
  | cons s seen=>
   cases es with
   | nil=>rfl
   | cons e es=>
    show zaM _ (e::es)=true
    rw[zho,yb2,show ltN e.born clock=true by rw[zgb]; exact decide_eq_true (hborn e (yae ..))]; rfl
 have hany:zaM (fun e:E=>ifB (zaK e.born seen) false (ifB (ltN e.born clock) false true)) es=false:=by
  rw[zho,List.any_eq_false];intro e he;rw[show ltN e.born clock=true by rw[zgb]; exact decide_eq_true (hborn e he)]
  cases zaK e.born seen <;> simp[ifB]
 refine⟨zbZ (fun e:E=>((e.k,e.v),m.set i (.iter (some b) clock (e.born::seen) clock))) (zaN (fun e:E=>ifB (zaK e.born seen) false true) es),?_,?_,fun k y m' hl=>?_⟩
 ·show ifB (Nat.beq 0 0) (match m.g i with
   | some (.iter none _ _ _)=>some []
   | some (.iter (some r) since seen last)=>match m.g r with
    | some (.map es clock)=>ifB (zab seen true fun _ _=>zab es true fun _ _=>zaM (fun e:E=>ltN e.born last) es)
      (ifB (zaM (fun e:E=>ifB (zaK e.born seen) false (ifB (ltN e.born since) false true)) es) none
       (some (zbZ (fun e:E=>((e.k,e.v),m.set i (.iter (some r) since (e.born::seen) clock))) (zaN (fun e:E=>ifB (zaK e.born seen) false true) es)))) none
    | _=>none
   | _=>none) none=_
  rw[yar,zd0,h1]
  simp only[h2]
  rw[hst,zd0,hany,zd1]
 ·rw[zns,ycq]
  constructor
  ·intro hq; rw[hq] at h6; exact ycq.1 h6.symm
  ·intro hq; rw[hq] at h6; exact ycq.1 h6
 ·unfold InL at hl;rw[zns] at hl;obtain⟨e,he,hq⟩:=yaq.1 hl;obtain⟨rfl,rfl⟩:=Prod.mk.inj (Prod.mk.inj hq).1;have hm':m.set i (.iter (some b) clock (e.born::seen) clock)=m':=(Prod.mk.inj hq).2;subst hm';obtain⟨L1,L2,hL⟩:=List.append_of_mem he;rw[zhp] at hL h6 he;have hmem:=(ybA.1 he).1
  -- the keys around it
  rw[hL,ybk,yaX] at h6;obtain⟨l1,r1,hr,hl1,hr1⟩:=List.map_eq_append_iff.1 h6.symm;obtain⟨a,l2,rfl,ha,hl2⟩:=List.map_eq_cons_iff.1 hr1
  have hpw:es.Pairwise fun e e'=>e.born ≠ e'.born/\e.k ≠ e'.k:=by
   have:=h5.2
   rwa [ybR] at this
  have hlook:look enc es a=some e.v:=by
   have:∀q:List E,q.Pairwise (fun e e'=>e.born ≠ e'.born/\e.k ≠ e'.k)->e∈q->look enc q a=some e.v:=by
    intro q
    induction q with
    | nil=>intro _ h; cases h
    | cons x q ih=>
     intro hp hx
     show(if x.k=enc a then some x.v else look enc q a)=_
     rcases yal.1 hx with rfl | hx
     ·rw[yab ha.symm]
     ·rw[yaa fun hc=>((ybD.1 hp).1 e hx).2 (by rw[hc,ha]),ih (ybD.1 hp).2 hx]
   exact this es hpw hmem
  have hg:∀c,c ≠ i->(m.set i (.iter (some b) clock (e.born::seen) clock)).g c=m.g c:=fun c hc=>by rw[M.g_set,yaa hc]
  refine⟨l1,a,l2,_,hr,ha.symm,by rw[<- h4]; exact hlook,rfl,?_,⟨es,clock,e.born::seen,by rw[M.g_set,yab rfl],by rw[hg b (Ne.symm h7)]; exact h2,h3,h4,h5,?_,fun s hs=>?_⟩,h7⟩
  ·show ifB (Nat.beq 0 0) (match (m.set i (.iter (some b) clock (e.born::seen) clock)).g i with
    | some (.iter (some r) _ (stamp::_) last)=>match (m.set i (.iter (some b) clock (e.born::seen) clock)).g r with
     | some (.map es clock)=>ifB (Nat.beq clock last) (zma stamp es) none
     | _=>none
    | _=>none) none=_
   rw[yar,zd0,M.g_set,yab rfl]
   simp only[hg b (Ne.symm h7),h2]
   rw[yar,zd0]
   have:∀q:List E,q.Pairwise (fun e e'=>e.born ≠ e'.born/\e.k ≠ e'.k)->e∈q->zma e.born q=some (e.k,e.v):=by
    intro q
    induction q with
    | nil=>intro _ h; cases h
    | cons x q ih=>
     intro hp hx
     show ifB (Nat.beq x.born e.born) (some (x.k,x.v)) (zma e.born q)=_
     rcases yal.1 hx with rfl | hx
     ·rw[yar]; rfl
     ·have hne:=((ybD.1 hp).1 e hx).1
      cases hb:Nat.beq x.born e.born with
      | true=>exact absurd (yan hb) hne
      | false=>exact ih (ybD.1 hp).2 hx
   rw[this es hpw hmem,ha]
  ·-- what is left
   have hsplit:es.filter (fun x:E=>ifB (zaK x.born (e.born::seen)) false true)=L1++L2:=by
    have hff:es.filter (fun x:E=>ifB (zaK x.born (e.born::seen)) false true)=(es.filter fun x:E=>ifB (zaK x.born seen) false true).filter fun x=>!(decide (x.born=e.born)):=by
     rw[List.filter_filter]
     congr 1
     funext x
     have hh:zaK x.born (e.born::seen)=(decide (x.born=e.born) || zaK x.born seen):=by
      rw[zhn,zhn,List.contains_cons]
      congr 1
     rw[hh]
     cases decide (x.born=e.born) <;> cases zaK x.born seen <;> rfl
    rw[hff,hL,ycr,ycj]
    have hpf:(L1++e::L2).Pairwise fun e e'=>e.born ≠ e'.born:=by
     rw[<- hL]; exact(hpw.filter _).imp fun h=>h.1
    obtain⟨p1,p2,p3⟩:=List.pairwise_append.1 hpf
    have f1:L1.filter (fun x=>!(decide (x.born=e.born)))=L1:=ycb.2 fun x hx=>by
     have:=p3 x hx e (yae ..)
     simp[this]
    have f2:L2.filter (fun x=>!(decide (x.born=e.born)))=L2:=ycb.2 fun x hx=>by
     have:=(ybD.1 p2).1 x hx
     simp[Ne.symm this]
    rw[f1,f2]
    simp
   rw[zhp,hsplit,ybk,ybk,hl1,hl2]
  ·rcases yal.1 hs with rfl | hs
   ·exact hborn e hmem
   ·exact h8 s hs
theorem ItR.to{m m':M}{i b:Nat}{f:κ->Option U}{rem:List κ}(h:ItR enc m i b f rem)(hi:m'.g i=m.g i)(hb:m'.g b=m.g b):ItR enc m' i b f rem:=by
 obtain⟨⟨es,clock,seen,h1,h2,h3⟩,h7⟩:=h;exact⟨⟨es,clock,seen,hi.trans h1,hb.trans h2,h3⟩,h7⟩
end
end Go.Abs

namespace Go.Abs
set_option maxRecDepth 100000
noncomputable section
section
variable {K V' R:Type} [MK K] [MV V']
def zri(M:Option (K->Option V'))(ks:List K):Prop:=ks.Nodup/\∀k,k∈ks↔MK.fit k/\zqC M k ≠ none
open Classical in
def zrj(M:Option (K->Option V'))(g:List K->Option R):Option R:=if h:∃r,∀ks,zri M ks->g ks=some r then some (Classical.choose h) else none
omit [MV V'] in
theorem zrk{M:Option (K->Option V')}{g:List K->Option R}{r:R}(h:zrj M g=some r){ks:List K}(hk:zri M ks):g ks=some r:=by
 unfold zrj at h
 split at h
 ·next h1=>cases h; exact Classical.choose_spec h1 ks hk
 ·cases h
omit [MV V'] in
theorem zrl{M:Option (K->Option V')}{g:List K->Option R}{r:R}{a:List K}(h0:zri M a)(h:∀ks,zri M ks->g ks=some r):zrj M g=some r:=by
 unfold zrj;rw[dif_pos ⟨r,h⟩];have:=Classical.choose_spec (⟨r,h⟩:∃r,∀ks,zri M ks->g ks=some r) a h0;rw[h a h0] at this; exact this.symm
open Classical in
def zrm{K R:Type}(rem:List K)(g:K->List K->Option R)(e:Option R):Option R:=if rem=[] then e else if h:∃r,∀l1 a l2,rem=l1++a::l2->g a (l1++l2)=some r then some (Classical.choose h) else none
theorem zrn{K R:Type}{rem:List K}{g:K->List K->Option R}{e:Option R}{r:R}(hr:rem=[])(h:zrm rem g e=some r):e=some r:=by
 unfold zrm at h; rw[yab hr] at h; exact h
theorem zro{K R:Type}{rem l1 l2:List K}{a:K}{g:K->List K->Option R}{e:Option R}{r:R}(hr:rem=l1++a::l2)(h:zrm rem g e=some r):g a (l1++l2)=some r:=by
 unfold zrm at h;rw[yaa (by rw[hr]; simp)] at h
 split at h
 ·next h1=>cases h; exact Classical.choose_spec h1 l1 a l2 hr
 ·cases h
theorem zrp{K R:Type}{rem:List K}{g:K->List K->Option R}{e:Option R}{r:R}(h:∀l1 a l2,rem=l1++a::l2->g a (l1++l2)=some r)(he:rem=[]->e=some r):zrm rem g e=some r:=by
 unfold zrm
 by_cases hr:rem=[]
 ·rw[yab hr]; exact he hr
 ·rw[yaa hr,dif_pos ⟨r,h⟩]
  obtain⟨a,l,rfl⟩:∃a l,rem=a::l:=by
   cases rem with
   | nil=>exact absurd rfl hr
   | cons a l=>exact⟨a,l,rfl⟩
  have h1:=Classical.choose_spec (⟨r,h⟩:∃r,∀l1 b l2,a::l=l1++b::l2->g b (l1++l2)=some r) [] a l rfl;rw[h [] a l rfl] at h1; exact h1.symm
structure Ir (F:Fm) (f:M) (τ:Nat->Nat) (m:M) (t i:Nat) (c:C) (M:Option (K->Option V')) (rem:List K):Prop where
 it:(M=none/\rem=[]/\m.g i=some (.iter none 0 [] 0))\/∃b g,∃rem':List {k:K // MK.fit k},c=.map b/\M=some g/\f.g b ≠ none/\b < f.nxt/\ItR (zqB K) m i b (fun k=>(g k.1).map MV.enc) rem'/\rem=rem'.map (·.1)/\∀k∈rem',g k.1 ≠ none
 new:F.m.nxt<=i\/F.B i
 nf:f.g i=none
 tg:τ i=t
 lt:i < m.nxt
theorem Ir.k{F F0:Fm}{f f' f0 m m':M}{τ τ':Nat->Nat}{t i:Nat}{c:C}{M:Option (K->Option V')}{rem:List K}{X:List Nat}(h:Ir F f τ m t i c M rem)(k:Kp τ f m τ' f' m' X)(s:Sub f m)(s':St F0 f0 f' m')(hx:t ∉ X:=by decide):Ir F f' τ' m' t i c M rem:=by
 have hx:τ i ∉ X:=by rw[h.tg]; exact hx
 have hi:=k.g i h.lt hx;refine⟨?_,h.new,(k.fg i h.lt hx).trans h.nf,(k.tg i h.lt).trans h.tg,yaf h.lt k.nxt⟩
 rcases h.it with ⟨q1,q2,q3⟩ | ⟨b,g,a,q1,q2,q3,q4,q5,q6⟩
 ·exact .inl ⟨q1,q2,hi.trans q3⟩
 ·have e1:=k.fs.g b q4 (.inl q3);have e2:=s'.sub.g b (yaf q4 k.fs.nxt) (.inl (by rw[e1]; exact q3));have e3:=s.g b q4 (.inl q3);exact .inr ⟨b,g,a,q1,q2,by rw[e1]; exact q3,yaf q4 k.fs.nxt,q5.to hi (by rw[e2,e1,e3]),q6⟩
theorem Mi.rng(u:∀a b:K,MK.enc a=MK.enc b->a=b){F:Fm}{f0 f m:M}(s:St F f0 f m){c:C}{M:Option (K->Option V')}(h:Mi f c M)(τ:Nat->Nat)(t:Nat) :
  ∃ks y,zri M ks/\zl9 m c=some y/\∀m',m'=m.new y->∃τ',St F f0 f m'/\Kp τ f m τ' f m' []/\Ir F f τ' m' t m.nxt c M ks:=by
 cases M with
 | none=>
  have h:c=.map0:=h;subst h;refine⟨[],_,⟨ycs,fun k=>Iff.intro (fun h=>nomatch h) fun h=>absurd rfl h.2⟩,rfl,fun m' e=>?_⟩;obtain⟨h1,h2⟩:=s.new e τ t;exact⟨_,h1,h2,.inl ⟨rfl,rfl,by rw[e,M.g_new,yab rfl]⟩,.inl s.ext.nxt,s.fz _ s.sub.nxt,yab rfl,by rw[e]; exact ybd _⟩
 | some g=>
  obtain⟨b,rfl,h2⟩:=h
  have q:f.g b ≠ none:=by
   obtain⟨es,cl,h3,_⟩:=h2.ex;rw[h3]; exact yaI _
  have w:Mp (zqB K) m b fun k=>(g k.1).map MV.enc:=h2.to s.sub.nxt (s.sub.g b h2.lt (.inl q));obtain⟨ks,o,q1,q2,q3⟩:=w.range fun a a' he=>Subtype.ext (u _ _ he)
  have i:∀k:{k:K // MK.fit k},k∈ks↔g k.1 ≠ none:=fun k=>by
   rw[q1.2 k]
   show(g k.1).map MV.enc ≠ none↔_
   cases hgk:g k.1 with
   | none=>exact⟨fun h=>absurd rfl h,fun h=>absurd rfl h⟩
   | some v=>exact⟨fun _=>yaI _,fun _=>yaI _⟩
  refine⟨ks.map (·.1),o,⟨?_,fun k=>?_⟩,q2,fun m' e=>?_⟩
  ·have:=q1.1;rw[ycw] at this ⊢;rw[ybR];exact this.imp fun h hc=>h (Subtype.ext hc)
  ·constructor
   ·intro hk;obtain⟨a,ha,rfl⟩:=yaq.1 hk;exact⟨a.2,(i a).1 ha⟩
   ·intro hk;exact yaq.2 ⟨⟨k,hk.1⟩,(i _).2 hk.2,rfl⟩
  ·obtain⟨h1,h3⟩:=s.new e τ t;exact⟨_,h1,h3,.inr ⟨b,g,ks,rfl,rfl,q,h2.lt,q3 m' e,rfl,fun k hk=>(i k).1 hk⟩,.inl s.ext.nxt,s.fz _ s.sub.nxt,yab rfl,by rw[e]; exact ybd _⟩
theorem Ir.next{F:Fm}{f0 f m:M}{τ:Nat->Nat}{t i:Nat}{c:C}{M:Option (K->Option V')}{rem:List K}(h:Ir F f τ m t i c M rem)(s:St F f0 f m) :
  ∃l,nxM m (.ptr i 0)=some l/\(l=[]->rem=[])/\∀u y m',InL u y m' l->∃l1 a l2 v,rem=l1++a::l2/\MK.fit a/\zqC M a=some v/\enM m' (.ptr i 0)=some (MK.enc a,MV.enc v)/\St F f0 f m'/\Kp τ f m τ f m' [t]/\Ir F f τ m' t i c M (l1++l2):=by
 rcases h.it with ⟨q1,q2,q3⟩ | ⟨b,g,A,rfl,rfl,q3,q4,q5,rfl,q7⟩
 ·refine⟨[],?_,fun _=>q2,fun u y m' hl=>by cases hl⟩;unfold nxM
  simp only[q3]
  rfl
 ·obtain⟨l,h1,h2,h3⟩:=q5.next;refine⟨l,h1,fun hl=>by rw[h2.1 hl]; rfl,fun u y m' hl=>?_⟩;obtain⟨l1,a,l2,o,r1,r2,r3,rfl,r5,r6⟩:=h3 u y m' hl
  obtain⟨v,hv⟩:∃v,g a.1=some v:=by
   cases hg:g a.1 with
   | none=>exact absurd hg (q7 a (by rw[r1]; simp))
   | some v=>exact⟨v,rfl⟩
  have hy:y=MV.enc v:=by
   have:(g a.1).map MV.enc=some y:=r3;rw[hv] at this; exact(oi this).symm
  have w:∀b',b' ≠ i->(m.set i o).g b'=m.g b':=fun b' q=>by rw[M.g_set,yaa q]
  refine⟨l1.map (·.1),a.1,l2.map (·.1),v,by rw[r1,ybk,yaX],a.2,hv,by rw[r5,hy]; rfl,s.chg (X:=fun b'=>b'=i) (fun b' q=>by subst q; exact⟨h.new,h.nf⟩) (yac _) rfl (fun b' _ q=>w b' q),⟨yac _,fun _ _=>rfl,fun b' _ hx=>w b' fun he=>hx (by rw[he,h.tg]; exact yae ..),fun _ _ _=>rfl,.refl f,rfl⟩,⟨.inr ⟨b,g,l1++l2,rfl,rfl,q3,q4,r6,by rw[ybk],fun k hk=>q7 k ?_⟩,h.new,h.nf,h.tg,h.lt⟩⟩;rw[r1]
  rcases yaL.1 hk with hk | hk
  ·exact yaR _ hk
  ·exact yaZ _ (yag _ hk)
end
section
open Classical
end
section
variable {K V':Type} [MK K] [MV V']
open Classical in
def zrq(M:Option (K->Option V')):Nat:=if h:∃ks,zri M ks then (Classical.choose h).length else 0
omit [MV V'] in
theorem zrr{M:Option (K->Option V')}{ks:List K}(h:zri M ks):zrq M=ks.length:=by
 unfold zrq;rw[dif_pos ⟨ks,h⟩];have h2:=Classical.choose_spec (⟨ks,h⟩:∃ks,zri M ks);exact((List.perm_ext_iff_of_nodup h2.1 h.1).2 fun a=>(h2.2 a).trans (h.2 a).symm).length_eq
theorem Mi.len(s:∀a b:K,MK.enc a=MK.enc b->a=b){m:M}{c:C}{M:Option (K->Option V')}(h:Mi m c M):lnM m c=some (zrq M):=by
 cases M with
 | none=>
  have h:c=.map0:=h;subst h;rw[zrr (ks:=[]) ⟨ycs,fun k=>Iff.intro (fun h=>nomatch h) fun h=>absurd rfl h.2⟩]; rfl
 | some g=>
  obtain⟨b,rfl,h2⟩:=h;obtain⟨ks,o,q1,q2,q3⟩:=h2.range fun a a' he=>Subtype.ext (s _ _ he);obtain⟨es,clock,h3,h4,h5,h6⟩:=h2.ex
  have i:∀k:{k:K // MK.fit k},k∈ks↔g k.1 ≠ none:=fun k=>by
   rw[q1.2 k]
   show(g k.1).map MV.enc ≠ none↔_
   cases hgk:g k.1 with
   | none=>exact⟨fun h=>absurd rfl h,fun h=>absurd rfl h⟩
   | some v=>exact⟨fun _=>yaI _,fun _=>yaI _⟩
  have hk:zri (some g) (ks.map (·.1)):=by
   refine⟨?_,fun k=>?_⟩
   ·have:=q1.1;rw[ycw] at this ⊢;rw[ybR];exact this.imp fun h hc=>h (Subtype.ext hc)
   ·constructor
    ·intro hk;obtain⟨a,ha,rfl⟩:=yaq.1 hk;exact⟨a.2,(i a).1 ha⟩
    ·intro hk;exact yaq.2 ⟨⟨k,hk.1⟩,(i _).2 hk.2,rfl⟩
  rw[zrr hk,yas]
  have u:es.length=ks.length:=by
   obtain⟨⟨w,y,seen,r1,r2,r3,r4,r5,r6,r7⟩,r8⟩:=q3 (m.new o) rfl
   have hb:(m.new o).g b=m.g b:=by rw[M.g_new,yaa (by have:=h2.lt; omega)]
   rw[hb,h3] at r2
   cases r2
   have q:seen=[]:=by
    have hr:zl9 m (.map b)=some (.iter (some b) clock [] clock):=by show(match m.g b with | some (.map _ clock)=>some (AO.iter (some b) clock [] clock) | _=>none)=_; rw[h3]
    rw[hr] at q2; cases q2
    rw[M.g_new,yab rfl] at r1
    cases r1; rfl
   subst q;rw[zhp,show es.filter (fun e:E=>ifB (zaK e.born []) false true)=es from ycb.2 (fun e _=>rfl)] at r6;have:=congrArg List.length r6;rw[yas,yas] at this;exact this
  rw[<- u]
  show(match m.g b with | some (.map es _)=>some es.length | _=>none)=_
  rw[h3]
end
section
variable {P:Program} {T:List (Nat × Bool)} {α:Type} [IM α]
def Xt(n:Nat)(τ:Nat->Nat)(m:M)(c:C):Prop:=∀b o k s d,c=.sl b o k s d->n<=b/\τ b ≠ 0/\b < m.nxt
theorem Xt.k{n:Nat}{τ τ':Nat->Nat}{f f' m m':M}{c:C}{X:List Nat}(h:Xt n τ m c)(k:Kp τ f m τ' f' m' X):Xt n τ' m' c:=fun b o n' s d he=>by
 obtain⟨h1,h2,h3⟩:=h b o n' s d he;exact⟨h1,by rw[k.tg b h3]; exact h2,yaf h3 k.nxt⟩
theorem Xt.sub{n:Nat}{τ:Nat->Nat}{m:M}{c c':C}{k i j:Nat}(h:Xt n τ m c)(hs:subC k c i j=some c'):Xt n τ m c':=fun b o n' s d he=>by
 subst he
 cases c with
 | sl b1 o1 n1 s1 d1=>
  have hb:b1=b:=by
   cases d1 with
   | none=>
    have hs:ifB (Nat.ble i j) (ifB (Nat.ble j n1) (ifB (Nat.beq s1 k) (some (C.sl b1 (Nat.add o1 (Nat.mul i s1)) (Nat.sub j i) s1 none)) none) none) none=some (.sl b o n' s d):=hs
    cases h1:Nat.ble i j <;> rw[h1] at hs <;> first | (cases hs; done) | skip
    cases h2:Nat.ble j n1 <;> rw[h2] at hs <;> first | (cases hs; done) | skip
    cases h3:Nat.beq s1 k <;> rw[h3] at hs <;> first | (cases hs; done) | skip
    injection hs with hs; injection hs
   | some d1=>
    have hs:ifB (Nat.ble i j) (ifB (Nat.ble j d1) (some (C.sl b1 (ifB (Nat.beq d1 i) o1 (Nat.add o1 (Nat.mul i k))) (Nat.sub j i) 0 (some (Nat.sub d1 i)))) none) none=some (.sl b o n' s d):=hs
    cases h1:Nat.ble i j <;> rw[h1] at hs <;> first | (cases hs; done) | skip
    cases h2:Nat.ble j d1 <;> rw[h2] at hs <;> first | (cases hs; done) | skip
    injection hs with hs; injection hs
  exact hb ▸ h b1 o1 n1 s1 d1 rfl
 | sl0=>
  have hs:ifB (Nat.beq i 0) (ifB (Nat.beq j 0) (some C.sl0) none) none=some (.sl b o n' s d):=hs
  cases h1:Nat.beq i 0 <;> rw[h1] at hs <;> first | (cases hs; done) | skip
  cases h2:Nat.beq j 0 <;> rw[h2] at hs <;> cases hs
 | _=>cases hs
theorem Xt.x{n:Nat}{τ:Nat->Nat}{m:M}{c:C}{X:Nat->Prop}(h:Xt n τ m c)(hX:∀b,n<=b->τ b ≠ 0->b < m.nxt->X b):∀b o k s d,c=.sl b o k s d->X b:=fun b o k s d he=>by
 obtain⟨h1,h2,h3⟩:=h b o k s d he;exact hX b h1 h2 h3
theorem Gux.xt{n0 tR n:Nat}{c:C}(hb:∀b o k s d,c=.sl b o k s d->b < n0):Gux n0 tR (fun _=>False) (fun _ _ τ m=>Xt n τ m c):=
 ⟨⟨fun _ _ _ _ _ q hn _ _=>fun b o k s d he=>by
   obtain⟨h1,h2,h3⟩:=q b o k s d he
   exact⟨h1,h2,yaf h3 hn⟩,
  fun _ _ _ _ _ q hg=>fun b o k s d he=>by
   obtain⟨h1,h2,h3⟩:=q b o k s d he
   exact⟨h1,by rw[hg b (.inl (hb b o k s d he))]; exact h2,h3⟩,
  fun _ _ _ _ _ q _=>q,fun _ _ _ _ _ _ h=>h.elim⟩,fun _ _ _ _ _ q _ _=>q,fun _ _ _ _ _ q _ _ _=>q⟩
theorem Xt.b{n:Nat}{τ:Nat->Nat}{m:M}{c:C}(h:Xt n τ m c):∀b o k s d,c=.sl b o k s d->b < m.nxt:=fun b o k s d he=>(h b o k s d he).2.2
def YJW(l:List α)(I:Nat->(Nat->Prop)->M->Prop)(zk8:List α):(Nat->Prop)->M->Prop:=fun S m=>∃i,i<=l.length/\I i S m/\l.drop i=zk8
theorem YJW.local{n0 ly n:Nat}{l:List α}{I:Nat->(Nat->Prop)->M->Prop}{E:(Nat->Prop)->M->Prop}(hc:zqZ P T n0 ly (VsW l n) I E)(zk8:List α):zp6 n0 (YJW l I zk8):=
 ⟨fun S m m' ⟨i,h1,h2,h3⟩ hn hv hs hl=>⟨i,h1,(hc.li i).st S m m' h2 hn hv hs hl,h3⟩,fun S m ⟨i,_,h2,_⟩=>(hc.li i).lt S m h2⟩
def YDW(l:List α)(I:Nat->(Nat->Prop)->M->Prop)(E:(Nat->Prop)->M->Prop)(d:Bool)(zk8:List α):(Nat->Prop)->M->Prop:=match d with | true=>E | false=>YJW l I zk8
theorem Yg.yieldW{n0 ly n:Nat}{l:List α}{I:Nat->(Nat->Prop)->M->Prop}{E:(Nat->Prop)->M->Prop}(hc:zqZ P T n0 ly (VsW l n) I E){S:Nat->Prop}{F:Fm}{f0 f m:M}{τ:Nat->Nat}(s:St F f0 f m){a:α}{r:List α}(h:Yg n0 (YJW l I (a::r)) S F f τ m){x:List V}
  (hx:∀X:Nat->Prop,(∀b,n<=b->τ b ≠ 0->b < m.nxt->X b)->IM.rep m X a x) {Q:V->M->Prop}
  (hT:∀m' τ' S',St F f0 f m'->Kp τ f m τ' f m' [0]->Yg n0 (YJW l I r) S' F f τ' m'->Q (.c (.bool true)) m')
  (hF:∀m' τ' S',St F f0 f m'->Kp τ f m τ' f m' [0]->Yg n0 E S' F f τ' m'->Q (.c (.bool false)) m'):Wy P T ly x m Q:=by
 obtain⟨i,hi,hI,hd⟩:=h.j
 have u:l[i]? = some a:=by
  have:=congrArg (fun l=>l[0]?) hd
  simpa using this
 have D:=h.loc.lt S m h.j;have G:=(yah.1 u).1
 have hdr:l.drop (i+1)=r:=by
  rw[<- yaz,hd]; rfl
 have w:∀{S':Nat->Prop} {m':M},Chg S m m'->St F f0 f m':=fun q=>s.chg (X:=S) (fun b hb=>(h.own b hb).2) q.nxt q.vw q.g
 have y:∀{m':M},Chg S m m'->Kp τ f m (fun b=>if b < m.nxt then τ b else 0) f m' [0]:=fun q=>
  ⟨q.nxt,fun b hb=>yab hb,fun b hb hx=>q.g b hb fun N=>hx (by rw[(h.own b N).1]; exact yae ..),fun _ _ _=>rfl,.refl f,q.vw⟩
 have A:∀{J:(Nat->Prop)->M->Prop} {S':Nat->Prop} {m':M},zp6 n0 J->J S' m'->Own S m S'->Chg S m m'->Yg n0 J S' F f (fun b=>if b < m.nxt then τ b else 0) m':=fun {J S' m'} hl hj ho q=>by
  refine⟨hj,hl,fun b hb=>?_,fun b hb=>?_,yad h.n q.nxt⟩
  ·rcases ho b hb with h1 | h1
   ·obtain⟨q1,q2,q3⟩:=h.own b h1;exact⟨(yab (D b h1)).trans q1,q2,q3⟩
   ·exact⟨yaa (by omega),.inl (yad s.ext.nxt h1),s.fz b (yad s.sub.nxt h1)⟩
  ·have:=h.n;exact(yab (by omega)).trans (h.low b hb)
 exact hc.yield i _ S m ⟨a,fun b=>n<=b/\¬ S b/\b < m.nxt,u,hx _ (fun b h1 h2 h3=>⟨h1,fun hS=>h2 (h.own b hS).1,h3⟩),fun b hb=>hb⟩ hI Q (fun S' m' ho q O=>hT m' _ S' (w (S':=S') q) (y q) (A (YJW.local hc r) ⟨i+1,G,O,hdr⟩ ho q)) fun S' m' ho q hE=>hF m' _ S' (w (S':=S') q) (y q) (A hc.le hE ho q)
theorem zrs{g:FuncId}{b:List W}{f:M}(s:∀b,f.nxt<=b->f.g b=none)(a:∀b,f.nxt<=b->f.vw b=none){l:List α}
  (q:∀ n0 ly I E (m1:M) (F1:Fm),zqZ P T n0 ly (VsW l F1.m.nxt) I E->∀ (S:Nat->Prop) (τ:Nat->Nat),St F1 f f m1->Yg n0 (YJW l I l) S F1 f τ m1->∀ Q:V->M->Prop,
   (∀v m' f' τ' S',St F1 f f' m'->(Yg n0 (YJW l I ([]:List α)) S' F1 f' τ' m'\/Yg n0 E S' F1 f' τ' m')->Q v m')->Wc P T g (appS [.c (.fn (.yield ly) [] [])] (zbZ wV b)) m1 Q):ItW P T f (.fn (.func g) [] b) l:=by
 refine zrd s a fun n0 ly I E S m hc hn hI hP u Q hQ=>?_;have y:St ⟨m,S⟩ f f m:=⟨⟨yac _,fun _ _ _=>rfl,rfl⟩,hP.sub,s,a,fun b hb=>hb.elim (fun h=>a b (yad hP.sub.nxt h)) fun h=>(u b h).2,.refl f,fun _ _ _=>rfl⟩;have A:Yg n0 (YJW l I l) S ⟨m,S⟩ f (fun _=>0) m:=⟨⟨0,yam _,hI,yau⟩,YJW.local hc l,fun b hb=>⟨rfl,.inr hb,(u b hb).1⟩,fun _ _=>rfl,hn⟩;refine q n0 ly I E m ⟨m,S⟩ hc S _ y A Q fun v m' f' τ' S' hs hy=>?_;refine hQ v S' m' (fun b hb=>?_) ⟨hs.ext.nxt,hs.ext.g,hs.ext.vw⟩ ?_
 ·have w:m.nxt<=b\/S b:=hy.elim (fun h=>(h.own b hb).2.1) fun h=>(h.own b hb).2.1;exact w.elim .inr .inl
 ·rcases hy with h | h
  ·obtain⟨i,h1,h2,h3⟩:=h.j
   have:i=l.length:=by
    have:=congrArg List.length h3;rw[yaM] at this
    simp only[List.length_nil] at this
    omega
   rw[this] at h2; exact .inl h2
  ·exact .inr h.j
open Classical in
theorem zrt{F:Fm}{f0 f m:M}(s:St F f0 f m){x:C}{l:List α}(hi:ItW P T f x l){round:zox}{after:zor}{σ:Type}(tR:Nat)(Z:σ->Nat->Prop)(A:σ->Fm->M->(Nat->Nat)->M->Prop)
  (nx:List α->σ->Prop) (ne:Ex->σ->Prop) (hG:∀st,Gux m.nxt tR (Z st) (A st)) {st0:σ} {τ:Nat->Nat} (h0:A st0 F f τ m) (hn0:nx l st0)
  (hround:∀ (a:α) (zk8:List α) (st:σ) (f1:M) (τ1:Nat->Nat) (m1:M) (F1:Fm) (o1:Option AO) (Ok:Option AO->Prop) (enter:M->(M->Prop)->Prop) (K:Ex->M->Prop) (X:Nat->Prop) (xv:List V),
   St F1 f1 f1 m1->Sub f f1->A st F1 f1 τ1 m1->Rk F1 f1 τ1 m1 tR m.nxt o1->nx (a::zk8) st->IM.rep f1 X a xv->(∀b,X b->m.nxt < b/\τ1 b ≠ 0/\b < m1.nxt) ->
   (∀fx τx mx k,St F1 f1 fx mx->Rk F1 fx τx mx tR m.nxt o1->(∀m3 o3,St F1 f1 fx m3->Kp τx fx mx τx fx m3 [tR]->Rk F1 fx τx m3 tR m.nxt o3->Ok o3->k m3)->enter mx k) ->
   (∀ex st' fx τx mx o3,St F1 f1 fx mx->A st' F1 fx τx mx->Rk F1 fx τx mx tR m.nxt o3->Ok o3->(match ex with | .nrm=>nx zk8 st' | .val _=>False | ex=>ne ex st')->K ex mx) ->
   round xv m1 enter K)
  (hnrm:∀st f1 τ1 m1,St F f0 f1 m1->Sub f f1->A st F f1 τ1 m1->nx [] st->after.nrm m1)
  (hexit:∀id st f1 τ1 m1,St F f0 f1 m1->Sub f f1->A st F f1 τ1 m1->ne (.exit id) st->zos id m1 after.exits)
  (hret:∀st f1 τ1 m1,St F f0 f1 m1->Sub f f1->A st F f1 τ1 m1->ne .ret st->after.ret m1):zoB P T x m round after:=by
 obtain⟨g,a,b,D,R,rfl,hit,hR,hD⟩:=hi
 let own:Nat->Prop:=fun b=>f.g b=none/\(F.m.nxt<=b\/F.B b)
 let Inv:(σ->Prop)->(Nat->Prop)->M->Prop:=fun q S m1=>∃st f1 τ1,St F f0 f1 m1/\Sub f f1/\A st F f1 τ1 m1/\q st/\f1.g m.nxt=none/\(∀b,Z st b->b ≠ m.nxt)/\m.nxt<=m1.nxt/\∀b,S b↔(b < m.nxt/\own b)\/(m.nxt < b/\(Z st b\/f1.g b ≠ none))
 have hvw:∀{f1:M},Sub f f1->∀b,m.nxt<=b->f1.vw b=none:=fun hs b hb=>by rw[hs.vw]; exact s.fv b (yad s.sub.nxt hb)
 have hown:∀{f1:M} {b:Nat},Sub f f1->f1.g b=none->(F.m.nxt<=b\/F.B b)->own b:=fun {f1 b} hs hg hn=>by
  refine⟨?_,hn⟩
  cases hfb:f.g b with
  | none=>rfl
  | some o=>
   have hb:b < f.nxt:=by
    rcases yaA b f.nxt with h | h
    ·exact h
    ·rw[s.fz b h] at hfb; cases hfb
   have:=hs.g b hb (.inl (by rw[hfb]; exact yaI _))
   rw[hg,hfb] at this; cases this
 have hfl:∀{f1 m1:M} {b:Nat},St F f0 f1 m1->f1.g b ≠ none->b < m1.nxt:=fun {f1 m1 b} h1 hb=>by
  rcases yaA b f1.nxt with h | h
  ·exact yaf h h1.sub.nxt
  ·exact absurd (h1.fz b h) hb
 have hFn:F.m.nxt<=m.nxt:=s.ext.nxt
 have hlocal:∀q,zp6 m.nxt (Inv q):=fun q=>by
  refine⟨fun S m1 m2 ⟨st,f1,τ1,h1,h2,h3,h4,h5,h6,h8,h7⟩ hn hv hs hlow=>?_,fun S m1 ⟨st,f1,τ1,h1,h2,h3,h4,h5,h6,h8,h7⟩ b hb=>?_⟩
  ·refine⟨st,f1,τ1,⟨⟨yad h1.ext.nxt hn,fun b hb hB=>?_,hv.trans h1.ext.vw⟩,⟨yad h1.sub.nxt hn,hv.trans h1.sub.vw,fun b hb hd=>?_⟩,h1.fz,h1.fv,h1.v0,h1.fs,h1.old⟩,h2,(hG st).loc _ _ _ _ _ h3 hn hv fun b hb=>?_,h4,h5,h6,yad h8 hn,h7⟩
   ·rw[hlow b (yaf hb hFn)]; exact h1.ext.g b hb hB
   ·rcases yaA b m.nxt with hbm | hbm
    ·rw[hlow b hbm]; exact h1.sub.g b hb hd
    ·have hd':=hd.elim id fun h=>absurd (hvw h2 b hbm) h;have hne:b ≠ m.nxt:=fun h=>hd' (by rw[h]; exact h5);rw[hs b ((h7 b).2 (.inr ⟨by omega,.inr hd'⟩))]; exact h1.sub.g b hb hd
   ·rcases hb with hb | hb
    ·exact hlow b hb
    ·rcases yaA b m.nxt with hbm | hbm
     ·exact hlow b hbm
     ·have hne:=h6 b hb;exact hs b ((h7 b).2 (.inr ⟨by omega,.inl hb⟩))
  ·rcases (h7 b).1 hb with ⟨hb,_⟩ | ⟨_,hb⟩
   ·exact yaf hb h8
   ·rcases hb with hb | hb
    ·exact((hG st).z _ _ _ _ h3 b hb).1
    ·exact hfl h1 hb
 have hz0:∀b,Z st0 b->b < m.nxt:=fun b hb=>((hG st0).z _ _ _ _ h0 b hb).1;have hf0:f.g m.nxt=none:=s.fz _ s.sub.nxt
 refine zq1 hit (hR m s.sub) (J:=fun i=>Inv (nx (l.drop i))) (X:=fun ex=>Inv (match ex with | .val _=>fun _=>False | ex=>ne ex)) (fun i=>hlocal _) (fun ex=>hlocal _) (S0:=fun b=>b < m.nxt/\own b)
  ⟨st0,f,τ,s,.refl f,h0,hn0,hf0,fun b hb=>Nat.ne_of_lt (hz0 b hb),yac _,fun b=>⟨.inl,fun h=>h.elim id fun⟨h1,h2⟩=>(h2.elim (fun h2=>absurd (hz0 b h2) (by omega)) fun h2=>absurd (hfl s h2) (by omega))⟩⟩
  (fun b ⟨hb,ho⟩ hDb=>?_) ?_ ?_ ?_ ?_
 ·obtain⟨q1,q2⟩:=hD b hDb;exact q2.elim (fun h=>h ho.1) fun h=>h (s.v0 b ho.2)
 ·intro i xv S m1 Bm enter K ⟨av,X,hli,hrep,hX⟩ ⟨st,f1,τ1,h1,h2,h3,h4,h5,h6,h8,h7⟩ hlt hSl hwn henter hK;have hil:=(yah.1 hli).1
  have hdrop:l.drop i=av::l.drop (i+1):=by
   rw[yat hil]
   congr 1
   rw[yak hil] at hli;exact oi hli
  rw[hdrop] at h4
  have hF1:∀b,(b < m.nxt\/Z st b)->b < m1.nxt->f1.g b=none->(F.m.nxt<=b\/F.B b)->S b:=fun b hb hbl hg hn=>by
   rcases yaA b m.nxt with hbm | hbm
   ·exact(h7 b).2 (.inl ⟨hbm,hown h2 hg hn⟩)
   ·rcases hb with hb | hb
    ·omega
    ·have:=h6 b hb;exact(h7 b).2 (.inr ⟨by omega,.inl hb⟩)
  have hSnew:∀b,S b->F.m.nxt<=b\/F.B b:=fun b hb=>by
   rcases (h7 b).1 hb with ⟨_,hb⟩ | ⟨hb,_⟩
   ·exact hb.2
   ·exact .inl (by omega)
  have hback:∀b,(m1.nxt<=b\/(S b\/b=m.nxt))->F.m.nxt<=b\/F.B b:=fun b hb=>by
   rcases hb with hb | hb | hb
   ·exact .inl (by omega)
   ·exact hSnew b hb
   ·exact .inl (by omega)
  have hnoS:∀b,b < F.m.nxt->¬ F.B b->¬ (S b\/b=m.nxt):=fun b hb hB h=>by
   rcases hback b (.inr h) with h9 | h9
   ·omega
   ·exact hB h9
  -- what is handed out lies there for good, for a while
  have hXn:∀b,X b->m.nxt < b/\b < m1.nxt/\¬ S b/\b ≠ m.nxt/\f1.g b=none/\¬ Z st b:=fun b hb=>by
   obtain⟨q1,q2,q3⟩:=hX b hb;have q1':m.nxt < b:=q1;have q4:¬ S b:=fun h=>q2 (.inl h);refine⟨q1',q3,q4,by omega,?_,fun h=>q4 ((h7 b).2 (.inr ⟨q1',.inl h⟩))⟩
   cases hg:f1.g b with
   | none=>rfl
   | some o=>exact absurd ((h7 b).2 (.inr ⟨q1',.inr (by rw[hg]; exact yaI _)⟩)) q4
  let f2:M:={ nxt:=m1.nxt,g:=fun b=>if X b then m1.g b else f1.g b,vw:=f1.vw }
  have hf2:∀b,¬ X b->f2.g b=f1.g b:=fun b hb=>yaa hb;have hf2X:∀b,X b->f2.g b=m1.g b:=fun b hb=>yab hb;have hs12:Sub f1 f2:=⟨h1.sub.nxt,rfl,fun b _ hd=>hf2 b fun hb=>hd.elim (fun h=>h (hXn b hb).2.2.2.2.1) fun h=>h (hvw h2 b (ybK (hXn b hb).1))⟩
  have hs2m:Sub f2 m1:=⟨yac _,h1.sub.vw,fun b hb hd=>by
   by_cases hx:X b
   ·exact(hf2X b hx).symm
   ·rw[hf2 b hx] at hd ⊢
    rcases yaA b f1.nxt with h9 | h9
    ·exact h1.sub.g b h9 hd
    ·exact(hd.elim (fun h=>h (h1.fz b h9)) fun h=>h (h1.fv b h9)).elim⟩
  have hf2z:∀b,f2.nxt<=b->f2.g b=none:=fun b hb=>by
   have hb:m1.nxt<=b:=hb;rw[hf2 b fun h=>by have:=(hXn b h).2.1; omega];exact h1.fz b (yad h1.sub.nxt hb)
  have hS1:St ⟨m1,fun b=>S b\/b=m.nxt⟩ f2 f2 m1:=⟨⟨yac _,fun _ _ _=>rfl,rfl⟩,hs2m,hf2z,fun b hb=>h1.fv b (yad h1.sub.nxt hb),fun b hb=>h1.v0 b (hback b hb),.refl f2,fun _ _ _=>rfl⟩
  let τX:Nat->Nat:=fun b=>if X b then 1 else zqe τ1 m.nxt tR b
  have hτX:∀b,X b->τX b=1:=fun b hb=>yab hb;have hτN:∀b,¬ X b->τX b=zqe τ1 m.nxt tR b:=fun b hb=>yaa hb
  have htag:∀b,b < m.nxt\/Z st b->τX b=τ1 b:=fun b hb=>by
   rw[hτN b fun hx=>by
    have h8:=hXn b hx
    rcases hb with h9 | h9
    ·omega
    ·exact h8.2.2.2.2.2 h9]
   exact yaa (hb.elim (fun h=>by omega) (h6 b))
  have hA1:=(hG st).up _ _ _ _ _ ((hG st).fr F ⟨m1,fun b=>S b\/b=m.nxt⟩ f1 _ m1 ((hG st).tg _ _ _ _ _ h3 htag) fun b hb hbl hg _ hn=>.inr (.inl (hF1 b hb hbl hg hn))) hs12 fun b hb hg=>by
   have hnx:¬ X b:=fun hx=>by
    have h8:=hXn b hx
    rcases hb with h9 | h9
    ·omega
    ·exact h8.2.2.2.2.2 h9
   rw[hf2 b hnx]; exact hg
  have hrep2:IM.rep f2 X av xv:=IM.mv hrep (yac _) h1.sub.vw.symm hf2X
  have hh5:f2.g m.nxt=none:=by rw[hf2 _ fun hx=>by have:=(hXn _ hx).1; omega]; exact h5
  refine hround av (l.drop (i+1)) st f2 τX m1 ⟨m1,fun b=>S b\/b=m.nxt⟩ (m1.g m.nxt) (fun o=>∀m4:M,m4.g m.nxt=o->Bm m4) enter K X xv hS1 (h2.trans hs12) hA1 ⟨rfl,.inr (.inr rfl),hh5,(hτN _ fun hx=>by have:=(hXn _ hx).1; omega).trans (yab rfl),hlt⟩ h4 hrep2 (fun b hb=>⟨(hXn b hb).1,by rw[hτX b hb]; omega,(hXn b hb).2.1⟩) (fun fx τx mx k hS hRk hk=>?_) fun ex st' fx τx mx o3 hS hA hRk hOk hne=>?_
  ·refine henter mx k hRk.g fun m3 hn hv hg hB=>?_
   exact hk m3 (m3.g m.nxt) (hS.chg (X:=fun b=>b=m.nxt) (fun b hb=>by subst hb; exact⟨.inr (.inr rfl),hRk.nf⟩) (by rw[hn]; exact yac _) hv fun b _ hne=>hg b hne)
    ⟨by rw[hn]; exact yac _,fun _ _=>rfl,fun b _ hx=>hg b fun he=>hx (by rw[he,hRk.tg]; exact yae ..),fun _ _ _=>rfl,.refl fx,hv⟩
    ⟨rfl,hRk.new,hRk.nf,hRk.tg,by rw[hn]; exact hRk.lt⟩ hB
  ·have hext:∀b,b < m1.nxt->¬ S b->b ≠ m.nxt->mx.g b=m1.g b:=fun b hb hSb hbn=>hS.ext.g b hb fun h=>h.elim hSb hbn
   have hlow:∀b,b < F.m.nxt->¬ F.B b->b < m1.nxt/\¬ S b/\b ≠ m.nxt:=fun b hb hB=>by
    have h9:=hnoS b hb hB;exact⟨by omega,fun h=>h9 (.inl h),fun h=>h9 (.inr h)⟩
   let fy:M:={ nxt:=fx.nxt,g:=fun b=>if X b then none else fx.g b,vw:=fx.vw }
   have hfy:∀b,¬ X b->fy.g b=fx.g b:=fun b hb=>yaa hb;have hfyX:∀b,X b->fy.g b=none:=fun b hb=>yab hb
   have hfyO:∀b,fy.g b=none\/fy.g b=fx.g b:=fun b=>by
    by_cases hx:X b
    ·exact .inl (hfyX b hx)
    ·exact .inr (hfy b hx)
   have hA:=(hG st').lw _ _ fy _ _ hA rfl rfl hfyO
   have hRkf:fy.g m.nxt=none:=by rw[hfy _ fun hx=>by have:=(hXn _ hx).1; omega]; exact hRk.nf
   have hzx:=(hG st').z _ _ _ _ hA
   have hold1:∀b,b < m1.nxt->¬ (S b\/b=m.nxt)->fy.g b=f1.g b:=fun b hb hB=>by
    by_cases hx:X b
    ·rw[hfyX b hx,(hXn b hx).2.2.2.2.1]
    ·rw[hfy b hx,hS.old b hb hB,hf2 b hx]
   have hfx:∀b,fy.g b ≠ none->b < m1.nxt->f1.g b ≠ none\/(S b\/b=m.nxt):=fun b hg hb=>by
    by_cases hB:S b\/b=m.nxt
    ·exact .inr hB
    ·rw[hold1 b hb hB] at hg; exact .inl hg
   have hflx:∀b,fy.g b ≠ none->b < mx.nxt:=fun b hb=>by
    rcases yaA b fx.nxt with h | h
    ·exact yaf h hS.sub.nxt
    ·exact absurd ((hfyO b).elim id fun e=>e.trans (hS.fz b h)) hb
   have hsyx:Sub fy mx:=⟨hS.sub.nxt,hS.sub.vw,fun b hb hd=>by
    by_cases hx:X b
    ·refine(hd.elim (fun h=>h (hfyX b hx)) fun h=>h ?_).elim
     show fx.vw b=none
     rw[hS.fs.vw];exact hvw h2 b (ybK (hXn b hx).1)
    ·rw[hfy b hx] at hd ⊢; exact hS.sub.g b hb hd⟩
   have hs1y:Sub f1 fy:=⟨yad hs12.nxt hS.fs.nxt,hS.fs.vw,fun b hb hd=>by
    have hx:¬ X b:=fun hx=>hd.elim (fun h=>h (hXn b hx).2.2.2.2.1) fun h=>h (hvw h2 b (ybK (hXn b hx).1));rw[hfy b hx,<- hf2 b hx]
    exact hS.fs.g b (yaf hb hs12.nxt) (by rw[hf2 b hx]; exact hd)⟩
   have hSt:St F f0 fy mx:=⟨⟨yad h1.ext.nxt hS.ext.nxt,fun b hb hB=>by
     obtain⟨q1,q2,q3⟩:=hlow b hb hB
     rw[hext b q1 q2 q3]; exact h1.ext.g b hb hB,hS.ext.vw.trans h1.ext.vw⟩,hsyx,fun b hb=>(hfyO b).elim id fun e=>e.trans (hS.fz b hb),hS.fv,fun b hb=>by show fx.vw b=none; rw[hS.fs.vw]; exact h1.v0 b hb,h1.fs.trans hs1y,fun b hb hB=>by
     obtain⟨q1,q2,q3⟩:=hlow b hb hB
     rw[hold1 b q1 fun h=>h.elim q2 q3]; exact h1.old b hb hB⟩
   have hInv:∀q:σ->Prop,q st'->Inv q (fun b=>(b < m.nxt/\own b)\/(m.nxt < b/\(Z st' b\/fy.g b ≠ none))) mx:=fun q hq=>
    ⟨st',fy,τx,hSt,h2.trans hs1y,(hG st').fr _ _ _ _ _ hA fun b _ _ _ _ hn=>hback b hn,hq,hRkf,fun b hb he=>by
     have:=(hzx b hb).2.2.1
     rw[he,hRk.tg] at this; exact this rfl,yad h8 hS.ext.nxt,fun b=>Iff.rfl⟩
   refine hK ex (S':=fun b=>(b < m.nxt/\own b)\/(m.nxt < b/\(Z st' b\/fy.g b ≠ none))) mx (hOk mx hRk.g) hS.ext.nxt hS.ext.vw hext (fun b hb=>?_) ?_
   ·rcases hb with hb | ⟨hb,hb2⟩
    ·exact .inl ((h7 b).2 (.inl hb))
    ·rcases hb2 with hb2 | hb2
     ·rcases (hzx b hb2).2.2.2 with h9 | h9 | h9
      ·exact .inr h9
      ·exact .inl h9
      ·omega
     ·rcases yaA b m1.nxt with h9 | h9
      ·rcases hfx b hb2 h9 with h10 | h10 | h10
       ·exact .inl ((h7 b).2 (.inr ⟨hb,.inr h10⟩))
       ·exact .inl h10
       ·omega
      ·exact .inr h9
   ·cases ex with
    | nrm=>exact hInv _ hne
    | exit id=>exact hInv _ hne
    | ret=>exact hInv _ hne
    | val v=>exact hne
 ·intro S' m5 _ _ _ _ ⟨st,f1,τ1,h1,h2,h3,h4,_⟩;rw[yct] at h4;exact hnrm st f1 τ1 m5 h1 h2 h3 h4
 ·intro id S' m5 _ _ _ _ ⟨st,f1,τ1,h1,h2,h3,h4,_⟩;exact hexit id st f1 τ1 m5 h1 h2 h3 h4
 ·intro S' m5 _ _ _ _ ⟨st,f1,τ1,h1,h2,h3,h4,_⟩;exact hret st f1 τ1 m5 h1 h2 h3 h4
end
end
end Go.Abs

namespace Go.Proofs.YtpjnfiegpjlfgaaGreat
open _root_.Go.Proofs.Tryz
open Go.Abs
set_option maxRecDepth 100000
noncomputable section
def zru{α:Type}(g:Nat->List α):Nat->Nat->List α
 | 0,_=>[]
 | e+1,n=>g n++zru g e (n+1)
def zrv(n:Nat):Nat->List Int->Nat->List (List Int)
 | 0,pre,_=>[pre]
 | d+1,pre,fr=>zru (fun x=>zrv n d (pre++[(x:Int)]) (x+1)) (n - fr) fr
def zoa(n:Nat):List (List Int):=zru (fun s=>zrv n s [] 0) (n+1) 0
def zrw(n:Nat)(t:List Int->Bool):List Int:=((zoa n).find? t).getD []
def zrx(n:Int)(p:List Int->Option Bool):Option (List Int):=gd (0<=n/\n<=100/\∀L∈zoa n.toNat,(p L).isSome=true) (some (zrw n.toNat fun L=>(p L).getD false))
end
end Go.Proofs.YtpjnfiegpjlfgaaGreat

namespace Go.Abs
noncomputable section
theorem zry{α:Type}[Rp α]{f:M}{x:C}{l:List α}(h:Sl f x l)(hn:zl5 x=true):l=[]:=by
 have h1:=h.slLen;have h2:=h.isSl
 cases x <;> first | (cases hn; done) | (cases h2; done) | exact yaW h1.symm
theorem zrz{α:Type}[Rp α]{f:M}{x:C}{l:List α}{t:TypeId}(h:Sl f x l):okN (.sl t) x:=by
 have h2:=h.isSl
 cases x <;> first | trivial | (cases h2; done)
end
end Go.Abs

namespace Go.Abs
set_option maxRecDepth 100000
noncomputable section
theorem zrA(c:C)(a b:Nat):zl3 (zl3 c a) b=zl3 c (a+b):=by
 cases c <;> first | rfl | (show C.ptr _ _=C.ptr _ _; rw[ybN])
variable {K V':Type} [MK K] [MV V']
end
end Go.Abs

namespace Go.Abs
set_option maxRecDepth 100000
noncomputable section
theorem fI{n:Int}(h:-9223372036854775808<=n/\n < 9223372036854775808):zl2 .i64 n:=h
theorem fI'{n:Int}(h:zl2 .i64 n):-9223372036854775808<=n/\n < 9223372036854775808:=h
theorem wz{k:IntKind}{n:Int}(h:zl2 k n):zl7 k n=n:=by unfold zl7; rw[zmL h]; rfl
theorem zrB{α:Type}{l:List α}{k:Nat}{a:α}(h:l[k]? = some a):idx l (k:Int)=some a:=by rw[zqc]; exact h
theorem zrC{α:Type}{l:List α}{a:α}(h:l[0]? = some a):idx l (0:Int)=some a:=zrB (k:=0) h
def Ev(o:Option Bool)(P:Prop):Prop:=∃b,o=some b/\(b=true↔P)
namespace Ev
variable {o k:Option Bool} {P K:Prop}
theorem mk'{b:Bool}(h:b=true↔P):Ev (some b) P:=⟨b,rfl,h⟩
theorem dec{p:Prop}[Decidable p](h:p↔P):Ev (some (decide p)) P:=⟨_,rfl,decide_eq_true_iff.trans h⟩
theorem ff(h:¬ P):Ev (some false) P:=⟨false,rfl,⟨fun h=>(by cases h),fun h'=>absurd h' h⟩⟩
theorem tt(h:P):Ev (some true) P:=⟨true,rfl,⟨fun _=>h,fun _=>rfl⟩⟩
theorem imp(h:Ev o P)(hp:P↔K):Ev o K:=by obtain⟨b,h1,h2⟩:=h; exact⟨b,h1,h2.trans hp⟩
theorem ret(h:Ev o P):Ev (o.bind fun r=>some r) P:=by obtain⟨b,h1,h2⟩:=h; exact⟨b,by rw[h1]; rfl,h2⟩
theorem and(h:Ev o P)(hk:P->Ev k K):Ev (o.bind fun r=>if r=true then k else some false) (P/\K):=by
 obtain⟨b,h1,h2⟩:=h;rw[h1,ybt]
 cases b with
 | true=>
  rw[yab rfl];have hp:=h2.1 rfl;exact(hk hp).imp ⟨fun h=>⟨hp,h⟩,fun h=>h.2⟩
 | false=>rw[yaa (by simp)]; exact ff fun h=>by have:=h2.2 h.1; cases this
theorem ite{p:Prop}[Decidable p](hk:p->Ev k K):Ev (if p then k else some false) (p/\K):=by
 by_cases hp:p
 ·rw[yab hp]; exact(hk hp).imp ⟨fun h=>⟨hp,h⟩,fun h=>h.2⟩
 ·rw[yaa hp]; exact ff fun h=>hp h.1
theorem itn{p:Prop}[Decidable p](hk:¬ p->Ev k K):Ev (if p then some false else k) (¬ p/\K):=by
 by_cases hp:p
 ·rw[yab hp]; exact ff fun h=>h.1 hp
 ·rw[yaa hp]; exact(hk hp).imp ⟨fun h=>⟨hp,h⟩,fun h=>h.2⟩
theorem gd{p:Prop}(hp:p)(h:Ev o P):Ev (Go.Abs.gd p o) P:=by rw[zqj hp]; exact h
theorem bind{α:Type}{x:Option α}{a:α}{f:α->Option Bool}(hx:x=some a)(h:Ev (f a) P):Ev (x.bind f) P:=by rw[hx,ybt]; exact h
theorem neg(h:Ev o P):Ev (o.bind fun r=>some (!r)) (¬ P):=by
 obtain⟨b,h1,h2⟩:=h;refine⟨!b,by rw[h1]; rfl,?_⟩
 cases b with
 | true=>exact⟨fun h=>(by cases h),fun h=>absurd (h2.1 rfl) h⟩
 | false=>exact⟨fun _ hp=>(by have:=h2.2 hp; cases this),fun _=>rfl⟩
theorem pick{α:Type}{f:Bool->Option α}{r:α}(h:Ev o P)(ht:P->f true=some r)(hf:¬ P->f false=some r):o.bind f=some r:=by
 obtain⟨b,h1,h2⟩:=h;rw[h1,ybt]
 cases b with
 | true=>exact ht (h2.1 rfl)
 | false=>exact hf fun hp=>by have:=h2.2 hp; cases this
theorem some_of(h:Ev o P)(hp:P):o=some true:=by obtain⟨b,h1,h2⟩:=h; rw[h1,h2.2 hp]
theorem some_not(h:Ev o P)(hp:¬ P):o=some false:=by
 obtain⟨b,h1,h2⟩:=h
 cases b with
 | true=>exact absurd (h2.1 rfl) hp
 | false=>exact h1
end Ev
open Classical in
theorem zrD{β:Type}(n:Nat)(F:Nat->Int->Option β)(ok:Nat->Prop)(bad fin:Option β)
  (a:∀d k,k < n->F (d+1) (k:Int)=if ok k then F d ((k:Int)+1) else bad) (i:∀d,F (d+1) (n:Int)=fin) :
  ∀d k,k<=n->n - k < d->F d (k:Int)=if (∀j,k<=j->j < n->ok j) then fin else bad
 | 0,k,_,h=>by omega
 | d+1,k,hk,h=>by
  by_cases q:k=n
  ·subst q;rw[i,yab fun j h1 h2=>by omega]
  ·rw[a d k (by omega)]
   by_cases ho:ok k
   ·rw[yab ho,show(k:Int)+1=((k+1:Nat):Int) by omega,zrD n F ok bad fin a i d (k+1) (by omega) (by omega)]
    by_cases ha:∀j,k+1<=j->j < n->ok j
    ·rw[yab ha,yab fun j h1 h2=>by
      rcases Nat.eq_or_lt_of_le h1 with h3 | h3
      ·subst h3; exact ho
      ·exact ha j h3 h2]
    ·rw[yaa ha,yaa fun h'=>ha fun j h1 h2=>h' j (by omega) h2]
   ·rw[yaa ho,yaa fun h'=>ho (h' k (yac _) (by omega))]
theorem zrE{β:Type}{n:Nat}{F:Nat->Int->Option β}{ok:Nat->Prop}{bad fin:Option β}
  (a:∀d k,k < n->(ok k->F (d+1) (k:Int)=F d ((k:Int)+1))/\(¬ ok k->F (d+1) (k:Int)=bad)) (i:∀d,F (d+1) (n:Int)=fin) {d:Nat} (hd:n < d) :
  ((∀j,j < n->ok j)->F d 0=fin)/\(¬ (∀j,j < n->ok j)->F d 0=bad):=by
 have h:=zrD n F ok bad fin (fun d k hk=>by
  by_cases ho:ok k
  ·rw[yab ho]; exact(a d k hk).1 ho
  ·rw[yaa ho]; exact(a d k hk).2 ho) i d 0 (yam _) (by omega)
 have h:F d 0=_:=h;refine⟨fun ha=>?_,fun ha=>?_⟩
 ·rw[h,yab fun j _=>ha j]
 ·rw[h,yaa fun h'=>ha fun j=>h' j (yam _)]
theorem Ev.loop{n:Nat}{F:Nat->Int->Option Bool}{ok:Nat->Prop}{fin:Option Bool}{P:Prop}
  (a:∀d k,k < n->(ok k->F (d+1) (k:Int)=F d ((k:Int)+1))/\(¬ ok k->F (d+1) (k:Int)=some false)) (i:∀d,F (d+1) (n:Int)=fin) {d:Nat} (hd:n < d)
  (hf:(∀j,j < n->ok j)->Ev fin P):Ev (F d 0) ((∀j,j < n->ok j)/\P):=by
 obtain⟨h1,h2⟩:=zrE a i hd
 by_cases ha:∀j,j < n->ok j
 ·rw[h1 ha]; exact(hf ha).imp ⟨fun h=>⟨ha,h⟩,fun h=>h.2⟩
 ·rw[h2 ha]; exact Ev.ff fun h=>ha h.1
theorem zrF{α γ β:Type}(l:List α)(g:α->γ)(F:Nat->List γ->Int->Option β)(fin:List γ->Option β)
  (i:∀d (k:Nat) acc a,l[k]? = some a->acc.length=k->F (d+1) acc (k:Int)=F d (acc++[g a]) ((k:Int)+1)) (q:∀d acc,F (d+1) acc (l.length:Int)=fin acc) :
  ∀d (k:Nat) acc,k<=l.length->l.length - k < d->acc=(l.take k).map g->F d acc (k:Int)=fin (l.map g)
 | 0,k,_,_,h,_=>by omega
 | d+1,k,acc,hk,h,ha=>by
  by_cases u:k=l.length
  ·subst u;rw[q,ha,ybc]
  ·have w:k < l.length:=by omega
   have s:=yak w;rw[i d k acc _ s (by rw[ha,yas,yap]; omega),show(k:Int)+1=((k+1:Nat):Int) by omega];exact zrF l g F fin i q d (k+1) _ (by omega) (by omega) (by rw[ha,ybx,s,ybk]; rfl)
theorem zrG{α γ β:Type}{l:List α}(g:α->γ){F:Nat->List γ->Int->Option β}(fin:List γ->Option β)
  (h:∀d (k:Nat) acc a,l[k]? = some a->acc.length=k->F (d+1) acc (k:Int)=F d (acc++[g a]) ((k:Int)+1)) (i:∀d acc,F (d+1) acc (l.length:Int)=fin acc) {d:Nat} (hd:l.length < d):F d [] 0=fin (l.map g):=
 zrF l g F fin h i d 0 [] (yam _) (by omega) (by simp)
def gIdx{α:Type}(l:List α)(p:α->Option Bool):Nat->Int->Option Int
 | 0,_=>none
 | d+1,x=>if x < (l.length:Int) then ((idx l x).bind fun v=>(p v).bind fun r=>if r=true then some x else gd (zl2 .i64 (x+(1:Int))) (gIdx l p d (x+(1:Int)))) else some (-1:Int)
theorem zrH{α:Type}{l:List α}{p:α->Option Bool}{q:α->Prop}(hp:∀a∈l,Ev (p a) (q a))(hl:l.length < 4611686018427387904) :
  ∀d (k:Nat),k<=l.length->l.length - k < d->∃r,gIdx l p d (k:Int)=some r/\(0<=r↔∃a∈l.drop k,q a)
 | 0,_,_,h=>by omega
 | d+1,k,hk,h=>by
  unfold gIdx
  by_cases u:k=l.length
  ·subst u;rw[yaa (yaJ _)];exact⟨_,rfl,by simp⟩
  ·have i:k < l.length:=by omega
   have s:=yak i;rw[yab (by omega),zrB s,ybt];have hd:=yat i;obtain⟨b,h1,h2⟩:=hp _ (ya9 i);rw[h1,ybt]
   cases b with
   | true=>rw[yab rfl]; exact⟨_,rfl,⟨fun _=>⟨_,by rw[hd]; exact yae ..,h2.1 rfl⟩,fun _=>by omega⟩⟩
   | false=>
    rw[yaa (by simp),zqj (fI (by omega)),show(k:Int)+1=((k+1:Nat):Int) by omega];obtain⟨r,h3,h4⟩:=zrH hp hl d (k+1) (by omega) (by omega);refine⟨r,h3,h4.trans ⟨fun⟨a,ha,hq⟩=>⟨a,by rw[hd]; exact yag _ ha,hq⟩,fun⟨a,ha,hq⟩=>?_⟩⟩;rw[hd] at ha
    rcases yal.1 ha with rfl | ha
    ·have:=h2.2 hq; cases this
    ·exact⟨a,ha,hq⟩
theorem Ev.contains{α:Type}{l:List α}{p:α->Option Bool}{q:α->Prop}(hp:∀a∈l,Ev (p a) (q a))(hl:l.length < 4611686018427387904){o:Option Int}(ho:o=gIdx l p (l.length+1) (0:Int)) :
  Ev (o.bind fun r=>some (decide ((0:Int)<=r))) (∃a∈l,q a):=by
 obtain⟨r,h1,h2⟩:=zrH hp hl (l.length+1) 0 (yam _) (by omega);have h1:gIdx l p (l.length+1) 0=some r:=h1;rw[ho,h1,ybt];exact Ev.dec (by rw[h2,yau])
theorem Ev.each{α:Type}{l:List α}{p:α->Option Bool}{q:α->Prop}(hp:∀a∈l,Ev (p a) (q a))(hl:l.length < 4611686018427387904){o:Option Int}(ho:o=gIdx l (fun a=>(p a).bind fun r=>some (!r)) (l.length+1) (0:Int)) :
  Ev ((o.bind fun r=>some (decide ((0:Int)<=r))).bind fun r=>some (!r)) (∀a∈l,q a):=
 ((Ev.contains (q:=fun a=>¬ q a) (fun a ha=>(hp a ha).neg) hl ho).neg).imp (by
  constructor
  ·intro h a ha; exact Classical.byContradiction fun hq=>h ⟨a,ha,hq⟩
  ·rintro h ⟨a,ha,hq⟩; exact hq (h a ha))
end
end Go.Abs

namespace Go.Abs
set_option maxRecDepth 100000
noncomputable section
theorem zrI{α:Type}{l:List α}{P:α->Prop}:(∀j,j < l.length->∀a,l[j]? = some a->P a)↔∀a∈l,P a:=
 ⟨fun h a ha=>by
  obtain⟨i,hi⟩:=List.mem_iff_getElem?.1 ha
  exact h i (yah.1 hi).1 a hi,fun h j _ a ha=>h a (ybE ha)⟩
theorem zrJ{α β:Type}{l:List α}{F:Nat->Int->Option β}{ok:α->Prop}{bad fin:Option β}
  (i:∀d (k:Nat) a,l[k]? = some a->(ok a->F (d+1) (k:Int)=F d ((k:Int)+1))/\(¬ ok a->F (d+1) (k:Int)=bad)) (q:∀d,F (d+1) (l.length:Int)=fin) {d:Nat} (hd:l.length < d) :
  ((∀a∈l,ok a)->F d 0=fin)/\(¬ (∀a∈l,ok a)->F d 0=bad):=by
 have key:=zrE (n:=l.length) (F:=F) (ok:=fun j=>∀a,l[j]? = some a->ok a) (bad:=bad) (fin:=fin) (fun d k hk=>by
  have hg:=yak hk;obtain⟨h1,h2⟩:=i d k _ hg
  exact⟨fun h=>h1 (h _ hg),fun h=>h2 fun h'=>h fun a ha=>by rw[hg] at ha; cases ha; exact h'⟩) q hd
 rw[zrI (P:=ok)] at key;exact key
theorem Ev.step{o:Option Bool}{P:Prop}(h:Ev o P){β:Type}{A B:Option β}{f:Bool->Option β}(ht:f true=A)(hf:f false=B):(P->o.bind f=A)/\(¬ P->o.bind f=B):=by
 obtain⟨b,h1,h2⟩:=h;rw[h1,ybt]
 cases b with
 | true=>exact⟨fun _=>ht,fun hn=>absurd (h2.1 rfl) hn⟩
 | false=>exact⟨fun hp=>(by have:=h2.2 hp; cases this),fun _=>hf⟩
theorem Ev.eqd{o:Option Bool}{P:Prop}[Decidable P](h:Ev o P):o=some (decide P):=by
 by_cases hp:P
 ·rw[h.some_of hp,decide_eq_true hp]
 ·rw[h.some_not hp,decide_eq_false hp]
def zrK{α:Type}(l:List α):Prop:=l.length<=1048576
theorem zrK.lt{α:Type}{l:List α}(h:zrK l):l.length < 4611686018427387904:=by unfold zrK at h; omega
theorem zrL{α:Type}{l:List α}{n:Nat}(h:l.length<=n)(hn:n<=1048576):zrK l:=yad h hn
theorem zrM{α β S:Type}{l:List α}(f:S->α->S)(F:Nat->S->Int->Option β)(fin:S->Option β)
  (i:∀d (k:Nat) s a,l[k]? = some a->F (d+1) s (k:Int)=F d (f s a) ((k:Int)+1)) (q:∀d s,F (d+1) s (l.length:Int)=fin s) :
  ∀d (k:Nat) s,k<=l.length->l.length - k < d->F d s (k:Int)=fin ((l.drop k).foldl f s)
 | 0,k,_,_,h=>by omega
 | d+1,k,s,hk,h=>by
  by_cases w:k=l.length
  ·subst w;rw[q,yct]; rfl
  ·have u:k < l.length:=by omega
   rw[i d k s _ (yak u),show(k:Int)+1=((k+1:Nat):Int) by omega,zrM f F fin i q d (k+1) _ (by omega) (by omega),yat u]; rfl
def zrN:List Int->Int | []=>0 | x::l=>l.foldl min x
def zrO:List Int->Int | []=>0 | x::l=>l.foldl max x
theorem zrP:∀(l:List Int) (x:Int),(l.foldl min x=x\/l.foldl min x∈l)/\l.foldl min x<=x/\∀y∈l,l.foldl min x<=y
 | [],x=>⟨.inl rfl,ybf _,by simp⟩
 | a::l,x=>by
  obtain⟨h1,h2,h3⟩:=zrP l (min x a);refine⟨?_,?_,?_⟩
  ·show l.foldl min (min x a)=x\/l.foldl min (min x a)∈a::l
   rcases h1 with h1 | h1
   ·rw[h1]
    rcases Int.le_total x a with h | h
    ·rw[ybS h]; exact .inl rfl
    ·rw[ybT h]; exact .inr (yae ..)
   ·exact .inr (yag _ h1)
  ·show l.foldl min (min x a)<=x; omega
  ·intro y hy
   show l.foldl min (min x a)<=y
   rcases yal.1 hy with rfl | hy
   ·omega
   ·exact h3 y hy
theorem zrQ:∀(l:List Int) (x:Int),(l.foldl max x=x\/l.foldl max x∈l)/\x<=l.foldl max x/\∀y∈l,y<=l.foldl max x
 | [],x=>⟨.inl rfl,ybf _,by simp⟩
 | a::l,x=>by
  obtain⟨h1,h2,h3⟩:=zrQ l (max x a);refine⟨?_,?_,?_⟩
  ·show l.foldl max (max x a)=x\/l.foldl max (max x a)∈a::l
   rcases h1 with h1 | h1
   ·rw[h1]
    rcases Int.le_total x a with h | h
    ·rw[Int.max_eq_right h]; exact .inr (yae ..)
    ·rw[Int.max_eq_left h]; exact .inl rfl
   ·exact .inr (yag _ h1)
  ·show x<=l.foldl max (max x a); omega
  ·intro y hy
   show y<=l.foldl max (max x a)
   rcases yal.1 hy with rfl | hy
   ·omega
   ·exact h3 y hy
theorem zrR{l:List Int}(h:l ≠ []):zrN l∈l/\∀y∈l,zrN l<=y:=by
 cases l with
 | nil=>exact absurd rfl h
 | cons x l=>
  obtain⟨h1,h2,h3⟩:=zrP l x;refine⟨?_,fun y hy=>?_⟩
  ·show l.foldl min x∈_
   rcases h1 with h1 | h1
   ·rw[h1]; exact yae ..
   ·exact yag _ h1
  ·rcases yal.1 hy with rfl | hy
   ·exact h2
   ·exact h3 y hy
theorem zrS{l:List Int}(h:l ≠ []):zrO l∈l/\∀y∈l,y<=zrO l:=by
 cases l with
 | nil=>exact absurd rfl h
 | cons x l=>
  obtain⟨h1,h2,h3⟩:=zrQ l x;refine⟨?_,fun y hy=>?_⟩
  ·show l.foldl max x∈_
   rcases h1 with h1 | h1
   ·rw[h1]; exact yae ..
   ·exact yag _ h1
  ·rcases yal.1 hy with rfl | hy
   ·exact h2
   ·exact h3 y hy
def segI(lo:Int):Nat->List Int
 | 0=>[]
 | n+1=>lo::segI (lo+1) n
theorem zrT{x:Int}:∀{n:Nat} {lo:Int},x∈segI lo n↔lo<=x/\x < lo+n
 | 0,lo=>by simp[segI]
 | n+1,lo=>by
  unfold segI;rw[yal,zrT]; omega
theorem zrU:∀{n:Nat} {lo:Int},(segI lo n).length=n
 | 0,_=>rfl
 | n+1,lo=>by unfold segI; rw[yaE,zrU]
theorem zrV{n:Nat}:∀{lo:Int} {k:Nat},k < n->(segI lo n)[k]? = some (lo+k):=by
 induction n with
 | zero=>intro lo k h; omega
 | succ n ih=>
  intro lo k h
  cases k with
  | zero=>unfold segI; simp
  | succ k=>unfold segI; rw[List.getElem?_cons_succ,ih (by omega)]; congr 1; omega
structure Lay (W:World) (e:Env) (m:M):Prop where
 hr:HR e (toH m) W
 g:∀b,m.g b=none
 vz:∀b,m.nxt<=b->m.vw b=none
 base:e.base=W.heap
theorem Lay.nil(W:World):Lay W { ρ:=fun _=>none,sz:=fun _=>0,es:=fun _=>0,base:=W.heap } { nxt:=0,g:=fun _=>none,vw:=fun _=>none }:=
 ⟨⟨fun _ _=>rfl,fun b o h=>(by cases h),fun b b' o o' c h=>(by cases h),yac _,fun b o c h=>(by cases h),fun c cs t fr h=>h,fun b q h=>(by cases h)⟩,fun _=>rfl,fun _ _=>rfl,rfl⟩
theorem Lay.pre{W:World}{e:Env}{m:M}(h:Lay W e m):Pre m m:=⟨.refl m,fun b _=>h.g b,h.vz⟩
theorem Lay.view{W:World}{e:Env}{m:M}(h:Lay W e m){cb:Nat}(q:Option (Nat × List C))(hq:∀q',q=some q'->∃c t fr,W.heap[cb]? = some (.cells c t fr)/\q'.1+q'.2.length<=c.size/\zen (CR e) q'.2 ((c.toList.drop q'.1).take q'.2.length)) :
  ∃e' m',e.le e'/\zp9 m m'/\Lay W e' m'/\m'.nxt=m.nxt+1/\e'.ρ m.nxt=some cb/\m'.vw m.nxt=q:=by
 let e':Env:={ ρ:=fun j=>if j=m.nxt then some cb else e.ρ j,sz:=e.sz,es:=e.es,base:=e.base }
 let m':M:={ nxt:=m.nxt+1,g:=m.g,vw:=fun j=>if j=m.nxt then q else m.vw j }
 have a:e.ρ m.nxt=none:=h.hr.fresh _ (yac m.nxt)
 have i:e.le e':=⟨fun k c hk=>by
  show(if k=m.nxt then some cb else e.ρ k)=some c
  rw[yaa fun u=>by rw[u,a] at hk; cases hk]; exact hk,fun _ _ _=>rfl,fun _ _ _=>rfl,rfl⟩
 refine⟨e',m',i,⟨ya4 _,fun b hb=>yaa (by omega),fun _ _ _=>rfl⟩,⟨⟨fun b hb=>?_,fun b o hb=>?_,fun b b' o o' c hb=>?_,?_⟩,h.g,fun b hb=>?_,h.base⟩,rfl,yab rfl,yab rfl⟩
 ·have hb:m.nxt+1<=b:=hb
  show(if b=m.nxt then some cb else e.ρ b)=none
  rw[yaa (by omega)];exact h.hr.fresh b (show m.nxt<=b by omega)
 ·have:m.g b=some o:=hb
  rw[h.g b] at this; cases this
 ·have:m.g b=some o:=hb
  rw[h.g b] at this; cases this
 ·refine⟨h.hr.vws.lim,fun b o c hb=>?_,h.hr.vws.kept,fun b q' hb=>?_⟩
  ·have:m.g b=some o:=hb
   rw[h.g b] at this; cases this
  ·have hb:(if b=m.nxt then q else m.vw b)=some q':=hb
   by_cases s:b=m.nxt
   ·subst s;rw[yab rfl] at hb;obtain⟨c,t,fr,h1,h2,h3⟩:=hq q' hb;exact⟨cb,c,t,fr,yab rfl,by show e.base[cb]? = _; rw[h.base]; exact h1,h2,h3.mono fun _ _=>CR.mono i⟩
   ·rw[yaa s] at hb;exact(h.hr.vws.view b q' hb).mono i
 ·have hb:m.nxt+1<=b:=hb
  show(if b=m.nxt then q else m.vw b)=none
  rw[yaa (by omega)];exact h.vz b (by omega)
def zrW(P:Program)(t:TypeId)(α:Type)[Rp α](ok:α->Prop):Prop:=
 ∀(H:Type) (enc:TypeId × Value->H) (W:World) (held:Bool) (n:Nat) (cs:List Value) (x:DataW H × List MemPlace),DataW.trod enc P W 0 (fun _=>true) held n t cs=some x ->
  ∀(e:Env) (m:M),Lay W e m->∃e' m' vs a,e.le e'/\zp9 m m'/\Lay W e' m'/\zen (CR e') vs cs/\Rp.rep m' vs a/\ok a
variable {P:Program} {α β:Type} [Rp α] [Rp β]
theorem zrX{t:TypeId}(hu:P.underlying t=some (.int .i64)):zrW P t Int (zl2 .i64):=fun H enc W held n cs x hx e m hl=>by
 obtain⟨i,rfl,_,hw⟩:=DataW.trod_int hu hx;exact⟨e,m,[.int .i64 i],i,.refl _,.refl _,hl,.cons rfl .nil,rfl,zqs hw⟩
theorem zrY{t:TypeId}{ok:α->Prop}(h:zrW P t α ok){H:Type}{enc:TypeId × Value->H}{W:World}{held:Bool}{n b o:Nat}{c:Array Value}{tt:TypeId}{fr:Nat × Nat}(hb:W.heap[b]? = some (Obj.cells c tt fr)) :
  ∀(len:Nat),(∀i,i < len->∃cs x,W.cells? 0 ((⟨b,o,none⟩:Addr).add (i * Rp.k α)) (Rp.k α)=some cs/\DataW.trod enc P W 0 (fun _=>true) held n t cs=some x)->∀(e:Env) (m:M),Lay W e m ->
   ∃e' m' vs l,e.le e'/\zp9 m m'/\Lay W e' m'/\zen (CR e') vs ((c.toList.drop o).take (len * Rp.k α))/\Cat m' vs l/\l.length=len/\(∀a∈l,ok a)/\vs.length=len * Rp.k α/\(0 < len->o+len * Rp.k α<=c.size)
 | 0,_,e,m,hl=>⟨e,m,[],([]:List α),.refl _,.refl _,hl,by simp; exact .nil,rfl,rfl,by simp,by simp,fun h=>by omega⟩
 | len+1,hh,e,m,hl=>by
  obtain⟨e1,m1,vs,l,q1,q2,q3,q4,q5,q6,q7,q8,q9⟩:=zrY h hb len (fun i hi=>hh i (by omega)) e m hl;obtain⟨cs,x,r1,r2⟩:=hh len (by omega);obtain⟨e2,m2,ws,a,s1,s2,s3,s4,s5,s6⟩:=h H enc W held n cs x r2 e1 m1 q3;obtain⟨l1,l2⟩:=cells?_at r1;have hk:=Rp.pos (α:=α)
  have q:∀j,j < Rp.k α->c[o+len * Rp.k α+j]? = cs[j]?:=fun j hj=>by
   rw[<- l2 j hj,zqt,cell_of_row W b _ c tt fr hb]
  have s:cs=(c.toList.drop (o+len * Rp.k α)).take (Rp.k α):=by
   apply ycf
   intro j;rw[ya0]
   split
   ·rename_i hj
    rw[ybj,<- q j hj]; simp
   ·rw[ybw (by omega)]
  refine⟨e2,m2,vs++ws,l++[a],q1.trans s1,q2.trans s2,s3,?_,(Cat.subv s2 q5).app (Cat.one s5),by simp[q6],fun b hb=>?_,?_,fun _=>?_⟩
  ·rw[yaV,ybq,yb8,yaz];exact(q4.mono fun _ _=>CR.mono s1).app (by rw[<- s]; exact s4)
  ·rcases yaL.1 hb with hb | hb
   ·exact q7 b hb
   ·rw[yaP.1 hb]; exact s6
  ·rw[yai,q8,Rp.len s5,yaV,ybq]
  ·have:=q (Rp.k α - 1) (by omega);rw[yak (by omega)] at this;have:=(yaG.1 this).1;rw[yaV,ybq]; omega
theorem zrZ{t e:TypeId}{ok:α->Prop}(hu:P.underlying t=some (.slice e))(hk:P.cellsOf e=Rp.k α)(h:zrW P e α ok):zrW P t (List α) (fun l=>l.length<=maxLen/\∀a∈l,ok a):=fun H enc W held n cs x hx en m hl=>by
 rcases DataW.trod_slice hu hx with ⟨rfl,_⟩ | ⟨a,len,cap,elems,zk8,m',rfl,rfl,_,_,I,J,Z,N,G,_⟩
 ·exact⟨en,m,[.sl0],([]:List α),.refl _,.refl _,hl,.cons rfl .nil,⟨_,rfl,Sl.nil m⟩,yam _,by simp⟩
 ·obtain⟨aa,A⟩:=G rfl;rw[hk] at N A;have O:=Rp.pos (α:=α)
  have D:∀i,i < cap->∃cs y,W.cells? 0 (a.add (i * Rp.k α)) (Rp.k α)=some cs/\DataW.trod enc P W 0 (fun _=>true) held m' e cs=some y:=fun i hi=>by
   have:∃y,(W.cells? 0 (a.add (i * Rp.k α)) (Rp.k α)).bind (DataW.trod enc P W 0 (fun _=>true) held m' e)=some y:=by
    by_cases Q:i < len
    ·have:=N i Q;rw[yak (by omega)] at this;exact⟨_,this⟩
    ·have:=A (i - len) (by omega);rw[yak (by omega),show len+(i - len)=i by omega] at this;exact⟨_,this⟩
   obtain⟨y,hy⟩:=this
   cases hc:W.cells? 0 (a.add (i * Rp.k α)) (Rp.k α) with
   | none=>rw[hc] at hy; cases hy
   | some cs=>rw[hc] at hy; exact⟨cs,y,rfl,hy⟩
  by_cases S:cap=0
  ·have u:len=0:=by omega
   subst u;obtain⟨e',m2,q1,q2,q3,q4,q5,q6⟩:=hl.view (cb:=a.block) none (fun q h=>by cases h);refine⟨e',m2,[.sl m.nxt a.off 0 0 (some cap)],([]:List α),q1,q2,q3,.cons ⟨a.block,a.spot,q5,rfl,yam _,J,.inr S⟩ .nil,⟨_,rfl,[],⟨by simp,.inr ⟨m.nxt,a.off,0,some cap,rfl,by omega,fun h=>absurd rfl h⟩⟩,rfl,.inr (.inl ⟨_,_,_,_,rfl,yam _⟩)⟩,yam _,by simp⟩
  ·have F:∃v,W.cell? a=some v:=by
    obtain⟨cs,y,h4,_⟩:=D 0 (by omega);obtain⟨l1,l2⟩:=cells?_at h4;have:=l2 0 O;rw[yak (by omega),yaN] at this;exact⟨_,this⟩
   obtain⟨v,hv⟩:=F;unfold World.cell? at hv
   cases hb:W.heap[a.block]? with
   | none=>rw[hb] at hv; cases hv
   | some ob=>
    rw[hb] at hv
    cases ob with
    | cells c tt fr=>
     have T:a.spot=none:=by
      cases hq:a.spot with
      | none=>rfl
      | some z=>rw[hq] at hv; cases hv
     obtain⟨b,o,sp⟩:=a;have:sp=none:=T;subst this
     obtain⟨e1,m1,vs,l,q1,q2,q3,q4,q5,q6,q7,q8,q9⟩:=zrY h (o:=o) hb len (fun i hi=>by
      obtain⟨cs,y,h4,h5⟩:=D i (by omega)
      exact⟨cs,y,h4,h5⟩) en m hl
     obtain⟨e',m2,r1,r2,r3,r4,r5,r6⟩:=q3.view (cb:=b) (if len=0 then none else some (o,vs)) (fun q' w=>by
      by_cases u:len=0
      ·rw[yab u] at w; cases w
      ·rw[yaa u] at w
       cases w
       refine⟨c,tt,fr,hb,?_,by rw[q8]; exact q4⟩
       show o+vs.length<=c.size
       rw[q8]; exact q9 (by omega))
     have s:l.length=len:=q6;refine⟨e',m2,[.sl m1.nxt o len 0 (some cap)],l,q1.trans r1,q2.trans r2,r3,.cons ⟨b,none,r5,rfl,I,J,.inl rfl⟩ .nil,⟨_,rfl,vs,⟨by rw[q8,s],.inr ⟨m1.nxt,o,0,some cap,by rw[s],by omega,fun Y=>.inr ⟨r3.g _,(o,vs),?_,yac _,?_,?_⟩⟩⟩,Cat.subv r2 q5,.inr (.inl ⟨_,_,_,_,by rw[s],by rw[s]; exact I⟩)⟩,?_,q7⟩
     ·rw[r6,yaa (by rw[<- s]; exact Y)]
     ·show o - o+vs.length<=vs.length
      omega
     ·show(vs.drop (o - o)).take vs.length=vs
      rw[ybn,yau,yaw (yac _)]
     ·rw[s]; omega
    | _=>cases hv
def zr0(P:Program)(t:TypeId):Array Field:=match P.underlying t with | some (.struct fs)=>fs | _=>#[]
def zr1(P:Program)(fs:List (TypeId × Nat))(o:Nat)(n:Nat)(R:M->List C->Prop):Prop:=
 ∀(H:Type) (enc:TypeId × Value->H) (W:World) (held:Bool) (fu:Nat) (cs:List Value),(∀f∈fs,∃x,DataW.trod enc P W 0 (fun _=>true) held fu f.1 ((cs.drop f.2).take (P.cellsOf f.1))=some x) ->
  ∀(e:Env) (m:M),Lay W e m->∃e' m' vs,e.le e'/\zp9 m m'/\Lay W e' m'/\zen (CR e') vs ((cs.drop o).take n)/\R m' vs
theorem zr2{o:Nat}:zr1 P [] o 0 (fun _ vs=>vs=[]):=fun H enc W held fu cs _ e m hl=>⟨e,m,[],.refl _,.refl _,hl,by simp; exact .nil,rfl⟩
theorem zr3{ft:TypeId}{fs:List (TypeId × Nat)}{o n k:Nat}{ok:α->Prop}{R:M->List C->Prop}(h:zrW P ft α ok)(hk:P.cellsOf ft=k)(_hk':Rp.k α=k)(h2:zr1 P fs (o+k) n R) :
  zr1 P ((ft,o)::fs) o (k+n) (fun m vs=>∃a c r m0,vs=c++r/\Rp.rep m c (a:α)/\ok a/\zp9 m0 m/\R m r):=fun H enc W held fu cs hf e m hl=>by
 obtain⟨x,hx⟩:=hf (ft,o) (yae ..);obtain⟨e1,m1,c,a,q1,q2,q3,q4,q5,q6⟩:=h H enc W held fu _ x hx e m hl;obtain⟨e2,m2,r,s1,s2,s3,s4,s5⟩:=h2 H enc W held fu cs (fun g hg=>hf g (yag _ hg)) e1 m1 q3;refine⟨e2,m2,c++r,q1.trans s1,q2.trans s2,s3,?_,a,c,r,m1,rfl,Rp.subv q5 s2,q6,s2,s5⟩;rw[show P.cellsOf ((ft,o):TypeId × Nat).1=k from hk] at q4;rw[yb8,yaz];exact(q4.mono fun _ _=>CR.mono s1).app s4
theorem zr4{t:TypeId}{fs:List (TypeId × Nat)}{n:Nat}{R:M->List C->Prop}{ok:β->Prop}(hu:P.underlying t=some (.struct (zr0 P t)))(q:(zr0 P t).toList.map (fun f=>(f.type,f.offset))=fs)(h:zr1 P fs 0 n R)(hn:P.cellsOf t=n)(hR:∀m vs,R m vs->∃b:β,Rp.rep m vs b/\ok b):zrW P t β ok:=fun H enc W held nn cs x hx e m hl=>by
 obtain⟨ys,m',rfl,_,y,s,hf⟩:=DataW.trod_struct hu hx
 obtain⟨e',m2,vs,q1,q2,q3,q4,q5⟩:=h H enc W held m' cs (fun g hg=>by
  rw[<- q] at hg;obtain⟨f,u,rfl⟩:=yaq.1 hg;obtain⟨i,hi⟩:=List.mem_iff_getElem?.1 u
  have a:(zr0 P t)[i]? = some f:=by simpa using hi
  have h3:=hf i f a
  have w:i < ys.length:=by rw[s]; exact(yaG.1 a).1
  rw[yak w] at h3
  exact⟨_,h3⟩) e m hl
 obtain⟨b,r1,r2⟩:=hR _ _ q5;refine⟨e',m2,vs,b,q1,q2,q3,?_,r1,r2⟩;rw[yau,yaw (by omega)] at q4;exact q4
theorem Lay.below{W W':World}{e:Env}{m:M}(h:Lay W e m){e':Env}{h':H}(hs:zeB e (toH m) W e' h' W'):RowKit.Below W.heap.size W W':=
 ⟨hs.os,hs.tape,hs.output,hs.size,fun k hk=>hs.keep k hk fun b o hb=>by
  have hb:m.g b=some o:=hb
  rw[h.g b] at hb; cases hb⟩
theorem Lay.kept{W W':World}{e:Env}{m:M}(h:Lay W e m){e':Env}{h':H}(hs:zeB e (toH m) W e' h' W')(may:MemPlace->Prop):W.keptBut W' may:=by
 refine⟨hs.os,hs.output,fun i hi=>?_⟩
 rw[hs.keep i hi (fun b o hb=>by
  have hb:m.g b=some o:=hb
  rw[h.g b] at hb; cases hb)]
 cases W.heap[i]? with
 | none=>rfl
 | some o=>cases o <;> first | exact⟨rfl,rfl,rfl,fun _ _=>rfl⟩ | exact Or.inr ⟨rfl,rfl⟩ | rfl
end
end Go.Abs

