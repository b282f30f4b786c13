/- An evaluator of code, its soundness, and what functions of the program do. Condition: none; a lemma text. -/
import Derived.Test.YtdedachmfbiekaaTaE

namespace Go.Abs
set_option maxRecDepth 100000
noncomputable section
variable {P:Program}
structure Sub (f m:M):Prop where
 nxt:f.nxt<=m.nxt
 vw:m.vw=f.vw
 g:∀b,b < f.nxt->(f.g b ≠ none\/f.vw b ≠ none)->m.g b=f.g b
theorem Sub.refl(m:M):Sub m m:=⟨Nat.le_refl _,rfl,fun _ _ _=>rfl⟩
theorem Sub.trans{a b c:M}(h:Sub a b)(h':Sub b c):Sub a c:=⟨Nat.le_trans h.nxt h'.nxt,h'.vw.trans h.vw,fun x hx hn=>by
 have h1:=h.g x hx hn;rw[<- h1]
 exact h'.g x (Nat.lt_of_lt_of_le hx h.nxt) (by rw[h1,h.vw]; exact hn)⟩
theorem Sub.of_ext{m m':M}(h:Ext m m'):Sub m m':=⟨h.nxt,h.vw,fun b hb _=>h.g b hb⟩
structure zrt (f m:M):Prop where
 nxt:f.nxt<=m.nxt
 vw:∀b,b < f.nxt->m.vw b=f.vw b
 g:∀b,b < f.nxt->(f.g b ≠ none\/f.vw b ≠ none)->m.g b=f.g b
theorem Sub.v{f m:M}(h:Sub f m):zrt f m:=⟨h.nxt,fun b _=>by rw[h.vw],h.g⟩
theorem zrt.refl(m:M):zrt m m:=(Sub.refl m).v
theorem zrt.trans{a b c:M}(h:zrt a b)(h':zrt b c):zrt a c:=⟨Nat.le_trans h.nxt h'.nxt,fun x hx=>(h'.vw x (Nat.lt_of_lt_of_le hx h.nxt)).trans (h.vw x hx),fun x hx hn=>by
 have h1:=h.g x hx hn;rw[<- h1]
 exact h'.g x (Nat.lt_of_lt_of_le hx h.nxt) (by rw[h1,h.vw x hx]; exact hn)⟩
theorem Seg.to'{m m':M}{b o:Nat}{vs:List C}(h:Seg m b o vs)(hg:m'.g b=m.g b)(hv:m'.vw b=m.vw b):Seg m' b o vs:=by
 unfold Seg;rw[hg,hv];exact h
theorem Seg.subv{f m:M}{b o:Nat}{vs:List C}(h:Seg f b o vs)(hb:b < f.nxt)(s:zrt f m):Seg m b o vs:=by
 refine h.to' ?_ (s.vw b hb)
 rcases h with ⟨n,ws,op,h1,_⟩ | ⟨h1,q,h2,_⟩
 ·exact s.g b hb (.inl (by rw[h1]; exact Option.some_ne_none _))
 ·exact s.g b hb (.inr (by rw[h2]; exact Option.some_ne_none _))
theorem Ls.subv{f m:M}{k n:Nat}{x:C}{vs:List C}(h:Ls f k x vs n)(s:zrt f m):Ls m k x vs n:=by
 refine⟨h.len,?_⟩
 rcases h.val with h1 | ⟨b,o,t,c,h1,h2,h3⟩
 ·exact .inl h1
 ·exact .inr ⟨b,o,t,c,h1,Nat.lt_of_lt_of_le h2 s.nxt,fun h0=>(h3 h0).subv h2 s⟩
theorem Ls.sub{f m:M}{k n:Nat}{x:C}{vs:List C}(h:Ls f k x vs n)(s:Sub f m):Ls m k x vs n:=h.subv s.v
class Rp (α:Type) where
  k:Nat
  pos:0 < k
  rep:M->List C->α->Prop
  len:∀{m:M} {cs:List C} {a:α},rep m cs a->cs.length=k
  subv:∀{f m:M} {cs:List C} {a:α},rep f cs a->zrt f m->rep m cs a
theorem Rp.sub{α:Type}[Rp α]{f m:M}{cs:List C}{a:α}(h:Rp.rep f cs a)(s:Sub f m):Rp.rep m cs a:=Rp.subv h s.v
def Cat{α:Type}[Rp α](f:M):List C->List α->Prop
 | vs,[]=>vs=[]
 | vs,a::l=>∃c r,vs=c++r/\Rp.rep f c a/\Cat f r l
variable {α β:Type} [Rp α] [Rp β]
theorem Cat.subv{f m:M}(s:zrt f m):∀{l:List α} {vs:List C},Cat f vs l->Cat m vs l
 | [],_,h=>h
 | _::_,_,⟨c,r,h1,h2,h3⟩=>⟨c,r,h1,Rp.subv h2 s,Cat.subv s h3⟩
theorem Cat.sub{f m:M}(s:Sub f m){l:List α}{vs:List C}(h:Cat f vs l):Cat m vs l:=Cat.subv s.v h
theorem Cat.len{f:M}:∀{l:List α} {vs:List C},Cat f vs l->l.length * Rp.k α=vs.length
 | [],_,h=>by have h:_=[]:=h; rw[h]; simp
 | _::l,_,⟨c,r,h1,h2,h3⟩=>by rw[h1,List.length_append,Rp.len h2,<- Cat.len h3,List.length_cons,Nat.add_mul,Nat.one_mul,Nat.add_comm]
theorem Cat.app{f:M}:∀{l l':List α} {vs vs':List C},Cat f vs l->Cat f vs' l'->Cat f (vs++vs') (l++l')
 | [],_,_,_,h,h'=>by have h:_=[]:=h; rw[h]; exact h'
 | _::_,_,_,_,⟨c,r,h1,h2,h3⟩,h'=>⟨c,r++_,by rw[h1,List.append_assoc],h2,Cat.app h3 h'⟩
theorem Cat.one{f:M}{cs:List C}{a:α}(h:Rp.rep f cs a):Cat f cs [a]:=⟨cs,[],by simp,h,rfl⟩
theorem Cat.at{f:M}:∀{l:List α} {vs:List C},Cat f vs l->∀{n:Nat} {a:α},l[n]? = some a->n * Rp.k α+Rp.k α<=vs.length/\Rp.rep f ((vs.drop (n * Rp.k α)).take (Rp.k α)) a
 | [],_,_,n,a,hn=>by simp at hn
 | x::l,_,⟨c,r,h1,h2,h3⟩,0,a,hn=>by
  have:x=a:=by simpa using hn
  subst this;have hl:=Rp.len h2;refine⟨by rw[h1,List.length_append]; omega,?_⟩;rw[Nat.zero_mul,List.drop_zero,h1,List.take_append_of_le_length (by omega),List.take_of_length_le (by omega)]; exact h2
 | x::l,_,⟨c,r,h1,h2,h3⟩,n+1,a,hn=>by
  have hl:=Rp.len h2;obtain⟨q1,q2⟩:=Cat.at h3 (n:=n) (a:=a) (by simpa using hn);refine⟨by rw[h1,List.length_append,Nat.add_mul,Nat.one_mul]; omega,?_⟩;rw[h1,Nat.add_mul,Nat.one_mul,show n * Rp.k α+Rp.k α=c.length+n * Rp.k α by omega,<- List.drop_drop,List.drop_left' rfl]; exact q2
def zru(x:C)(k n:Nat):Prop:=(x=.sl0/\n=0)\/(∃b o s c,x=.sl b o n s (some c)/\n<=c)\/∃b o,x=.sl b o n k none
def Sl(f:M)(x:C)(l:List α):Prop:=∃vs,Ls f (Rp.k α) x vs l.length/\Cat f vs l/\zru x (Rp.k α) l.length
theorem Sl.subv{f m:M}{x:C}{l:List α}(h:Sl f x l)(s:zrt f m):Sl m x l:=h.elim fun vs h=>⟨vs,h.1.subv s,Cat.subv s h.2.1,h.2.2⟩
theorem Sl.sub{f m:M}{x:C}{l:List α}(h:Sl f x l)(s:Sub f m):Sl m x l:=h.subv s.v
theorem Sl.slLen{f:M}{x:C}{l:List α}(h:Sl f x l):slLen x=l.length:=h.elim fun _ h=>h.1.slLen
theorem Sl.isSl{f:M}{x:C}{l:List α}(h:Sl f x l):isSl x:=h.elim fun _ h=>h.1.isSl
theorem Sl.noFn{f:M}{x:C}{l:List α}(h:Sl f x l):zpd x=true:=h.elim fun _ h=>h.1.noFn
theorem Sl.nil(f:M):Sl f .sl0 ([]:List α):=⟨[],Ls.nil f _,rfl,.inl ⟨rfl,rfl⟩⟩
instance:Rp Int:=⟨1,by omega,fun _ cs a=>cs=[.int .i64 a],fun h=>by rw[h]; rfl,fun h _=>h⟩
instance:Rp Bool:=⟨1,by omega,fun _ cs a=>cs=[.bool a],fun h=>by rw[h]; rfl,fun h _=>h⟩
instance:Rp (List α):=⟨1,by omega,fun f cs a=>∃c,cs=[c]/\Sl f c a,fun⟨_,h,_⟩=>by rw[h]; rfl,fun⟨c,h,h2⟩ s=>⟨c,h,h2.subv s⟩⟩
def idx{α:Type}(l:List α)(i:Int):Option α:=if 0<=i then l[i.toNat]? else none
theorem zrv{α:Type}{l:List α}{i:Int}{a:α}(h:idx l i=some a):∃n:Nat,i=(n:Int)/\n < l.length/\l[n]? = some a:=by
 unfold idx at h
 by_cases h0:0<=i
 ·rw[if_pos h0] at h;exact⟨i.toNat,by omega,(List.getElem?_eq_some_iff.1 h).1,h⟩
 ·rw[if_neg h0] at h; cases h
theorem zrw{α:Type}(l:List α)(n:Nat):idx l (n:Int)=l[n]?:=by unfold idx; rw[if_pos (Int.natCast_nonneg n)]; rfl
structure Fm where
 m:M
 B:Nat->Prop
def Fm.of(m:M):Fm:=⟨m,fun _=>False⟩
structure zrx (F:Fm) (m:M):Prop where
 nxt:F.m.nxt<=m.nxt
 g:∀b,b < F.m.nxt->¬ F.B b->m.g b=F.m.g b
 vw:m.vw=F.m.vw
theorem zrx.trans{F:Fm}{m m':M}(h:zrx F m)(e:Ext m m'):zrx F m':=⟨Nat.le_trans h.nxt e.nxt,fun b hb hB=>(e.g b (Nat.lt_of_lt_of_le hb h.nxt)).trans (h.g b hb hB),e.vw.trans h.vw⟩
structure St (F:Fm) (f0 f m:M):Prop where
 ext:zrx F m
 sub:Sub f m
 fz:∀b,f.nxt<=b->f.g b=none
 fv:∀b,f.nxt<=b->f.vw b=none
 v0:∀b,F.m.nxt<=b\/F.B b->f.vw b=none
 fs:Sub f0 f
 old:∀b,b < F.m.nxt->¬ F.B b->f.g b=f0.g b
structure Pre (f m:M):Prop where
 sub:Sub f m
 fz:∀b,f.nxt<=b->f.g b=none
 fv:∀b,f.nxt<=b->f.vw b=none
theorem Pre.stB{f m:M}(h:Pre f m)(B:Nat->Prop)(hB:∀b,B b->f.vw b=none):St ⟨m,B⟩ f f m:=⟨⟨Nat.le_refl _,fun _ _ _=>rfl,rfl⟩,h.sub,h.fz,h.fv,fun b hb=>hb.elim (fun hb=>h.fv b (Nat.le_trans h.sub.nxt hb)) (hB b),.refl f,fun _ _ _=>rfl⟩
theorem Pre.st{f m:M}(h:Pre f m):St (Fm.of m) f f m:=h.stB _ fun _ h=>h.elim
theorem St.ext'{m0 f0 f m:M}(h:St (Fm.of m0) f0 f m):Ext m0 m:=⟨h.ext.nxt,fun b hb=>h.ext.g b hb fun h=>h,h.ext.vw⟩
theorem St.pre{F:Fm}{f0 f m:M}(h:St F f0 f m):Pre f m:=⟨h.sub,h.fz,h.fv⟩
structure Grw (m f m' f':M):Prop where
 ext:Ext m m'
 fsub:Sub f f'
 pre:Pre f' m'
 old:∀b,b < m.nxt->f'.g b=f.g b
theorem St.grw{m0 f0 f m:M}(h:St (Fm.of m0) f0 f m):Grw m0 f0 m f:=⟨h.ext',h.fs,h.pre,fun b hb=>h.old b hb fun h=>h⟩
structure Kp (τ:Nat->Nat) (f m:M) (τ':Nat->Nat) (f' m':M) (X:List Nat):Prop where
 nxt:m.nxt<=m'.nxt
 tg:∀b,b < m.nxt->τ' b=τ b
 g:∀b,b < m.nxt->τ b ∉ X->m'.g b=m.g b
 fg:∀b,b < m.nxt->τ b ∉ X->f'.g b=f.g b
 fs:Sub f f'
 vw:m'.vw=m.vw
structure Lb (F:Fm) (f:M) (τ:Nat->Nat) (m:M) (t b n:Nat) (vs:List C):Prop where
 bk:Bk m b n vs
 new:F.m.nxt<=b\/F.B b
 nf:f.g b=none
 tg:τ b=t
theorem Lb.k{F:Fm}{f f' m m':M}{τ τ':Nat->Nat}{t b n:Nat}{vs:List C}{X:List Nat}(h:Lb F f τ m t b n vs)(k:Kp τ f m τ' f' m' X)(hx:t ∉ X:=by decide):Lb F f' τ' m' t b n vs:=by
 have hx:τ b ∉ X:=by rw[h.tg]; exact hx
 exact⟨⟨(k.g b h.bk.lt hx).trans h.bk.g,Nat.lt_of_lt_of_le h.bk.lt k.nxt⟩,h.new,(k.fg b h.bk.lt hx).trans h.nf,(k.tg b h.bk.lt).trans h.tg⟩
def zry(τ:Nat->Nat)(b t:Nat):Nat->Nat:=fun j=>if j=b then t else τ j
theorem St.new{F:Fm}{f0 f m m':M}(s:St F f0 f m){o:AO}(h:m'=m.new o)(τ:Nat->Nat)(t:Nat):St F f0 f m'/\Kp τ f m (zry τ m.nxt t) f m' []:=by
 subst h;refine⟨⟨s.ext.trans (.new m o),s.sub.trans (.of_ext (.new m o)),s.fz,s.fv,s.v0,s.fs,s.old⟩,⟨Nat.le_succ _,fun b hb=>if_neg (by omega),fun b hb _=>by rw[M.g_new,if_neg (by omega)],fun _ _ _=>rfl,.refl f,rfl⟩⟩
theorem St.blk{F:Fm}{f0 f m m':M}(s:St F f0 f m){n:Nat}{vs:List C}(h:m'=m.new (.cells n vs false))(τ:Nat->Nat)(t:Nat):∃τ',St F f0 f m'/\Kp τ f m τ' f m' []/\Lb F f τ' m' t m.nxt n vs:=by
 obtain⟨h1,h2⟩:=s.new h τ t;exact⟨_,h1,h2,⟨(Bk.new h).1,.inl s.ext.nxt,s.fz _ s.sub.nxt,if_pos rfl⟩⟩
theorem St.call{F:Fm}{f0 f m m':M}(s:St F f0 f m)(e:Ext m m')(τ:Nat->Nat):St F f0 f m'/\Kp τ f m τ f m' []:=
 ⟨⟨s.ext.trans e,s.sub.trans (.of_ext e),s.fz,s.fv,s.v0,s.fs,s.old⟩,⟨e.nxt,fun _ _=>rfl,fun b hb _=>e.g b hb,fun _ _ _=>rfl,.refl f,e.vw⟩⟩
theorem St.callG{F:Fm}{f0 f m m' f':M}(s:St F f0 f m)(g:Grw m f m' f')(τ:Nat->Nat):St F f0 f' m'/\Kp τ f m τ f' m' []:=
 ⟨⟨s.ext.trans g.ext,g.pre.sub,g.pre.fz,g.pre.fv,fun b hb=>by rw[g.fsub.vw]; exact s.v0 b hb,s.fs.trans g.fsub,fun b hb hB=>(g.old b (Nat.lt_of_lt_of_le hb s.ext.nxt)).trans (s.old b hb hB)⟩,⟨g.ext.nxt,fun _ _=>rfl,fun b hb _=>g.ext.g b hb,fun b hb _=>g.old b hb,g.fsub,g.ext.vw⟩⟩
theorem zrz{f m m':M}(hs:Sub f m)(hn:m.nxt<=m'.nxt)(hv:m'.vw=m.vw){X:Nat->Prop}(hX:∀b,X b->f.g b=none/\f.vw b=none)(hg:∀b',b' < m.nxt->¬ X b'->m'.g b'=m.g b'):Sub f m':=by
 refine⟨Nat.le_trans hs.nxt hn,hv.trans hs.vw,fun b' hb' hd=>?_⟩;rw[hg b' (Nat.lt_of_lt_of_le hb' hs.nxt) fun h=>hd.elim (fun h2=>h2 (hX _ h).1) fun h2=>h2 (hX _ h).2];exact hs.g b' hb' hd
theorem St.chg{F:Fm}{f0 f m m':M}(s:St F f0 f m){X:Nat->Prop}(hX:∀b,X b->(F.m.nxt<=b\/F.B b)/\f.g b=none)(hn:m.nxt<=m'.nxt)(hv:m'.vw=m.vw)(hg:∀b',b' < m.nxt->¬ X b'->m'.g b'=m.g b'):St F f0 f m':=
  ⟨⟨Nat.le_trans s.ext.nxt hn,fun b hb hB=>(hg b (Nat.lt_of_lt_of_le hb s.ext.nxt) fun h=>(hX b h).1.elim (fun h=>by omega) hB).trans (s.ext.g b hb hB),hv.trans s.ext.vw⟩,
    zrz s.sub hn hv (fun b h=>⟨(hX b h).2,s.v0 b (hX b h).1⟩) hg,s.fz,s.fv,s.v0,s.fs,s.old⟩
theorem St.st1{F:Fm}{f0 f m m':M}(s:St F f0 f m){τ:Nat->Nat}{t b n:Nat}{vs ws:List C}(h:Lb F f τ m t b n vs)(hb:Bk m' b n ws)(h1:St1 m m' b):St F f0 f m'/\Kp τ f m τ f m' [t]/\Lb F f τ m' t b n ws:=
  ⟨s.chg (X:=fun b'=>b'=b) (fun b' h'=>by subst h'; exact⟨h.new,h.nf⟩) (by rw[h1.nxt]; exact Nat.le_refl _) h1.vw fun b' _ hne=>h1.g b' hne,
    ⟨by rw[h1.nxt]; exact Nat.le_refl _,fun _ _=>rfl,fun b' _ hx=>h1.g b' fun he=>hx (by rw[he,h.tg]; exact List.mem_cons_self ..),fun _ _ _=>rfl,.refl f,h1.vw⟩,⟨hb,h.new,h.nf,h.tg⟩⟩
theorem Lb.sto{F:Fm}{f0 f m:M}{τ:Nat->Nat}{t b n:Nat}{vs:List C}(h:Lb F f τ m t b n vs)(s:St F f0 f m)(ws:List C):∃m',stC m (.ptr b 0) n ws=some m'/\St F f0 f m'/\Kp τ f m τ f m' [t]/\Lb F f τ m' t b n ws:=by
 obtain⟨m',h1,h2,h3⟩:=h.bk.sto ws;exact⟨m',h1,s.st1 h h2 h3⟩
theorem Lb.sto1{F:Fm}{f0 f m:M}{τ:Nat->Nat}{t b n:Nat}{vs:List C}(h:Lb F f τ m t b n vs)(s:St F f0 f m)(k:Nat)(c:C)(hk:k < vs.length)(hn:vs.length=n):∃m',stC m (.ptr b k) 1 [c]=some m'/\St F f0 f m'/\Kp τ f m τ f m' [t]/\Lb F f τ m' t b n (vs.set k c):=by
 obtain⟨m',h1,h2,h3⟩:=h.bk.sto1 k c hk hn;exact⟨m',h1,s.st1 h h2 h3⟩
theorem Bk.stoP0{m:M}{b n:Nat}{vs:List C}(h:Bk m b n vs)(new:List C)(k:Nat)(hk:k+new.length<=vs.length)(hn:new.length ≠ n):∃m',stC m (.ptr b k) new.length new=some m'/\Bk m' b n (vs.take k++new++vs.drop (k+new.length))/\St1 m m' b:=by
 refine⟨m.set b (.cells n (vs.take k++new++vs.drop (k+new.length)) false),?_,h.set _,.of_set rfl⟩
 show(match m.g b with
  | some (.cells n' vs opn)=>ifB (Nat.beq n' new.length) (ifB (Nat.beq k 0) (some (m.set b (.cells n' new opn))) none) (zaa (zaH k new vs) none fun vs'=>some (m.set b (.cells n' vs' opn)))
  | _=>none)=_
 rw[h.g]
 show ifB (Nat.beq n new.length) _ (zaa (zaH k new vs) none fun vs'=>some (m.set b (.cells n vs' false)))=_
 have hb:Nat.beq n new.length=false:=by
  cases hq:Nat.beq n new.length with
  | true=>exact absurd (Nat.eq_of_beq_eq_true hq).symm hn
  | false=>rfl
 rw[hb,zd4,zq2 new k vs hk,zd6]
theorem Lb.stoP{F:Fm}{f0 f m:M}{τ:Nat->Nat}{t b n:Nat}{vs:List C}(h:Lb F f τ m t b n vs)(s:St F f0 f m)(k:Nat)(new:List C)(hk:k+new.length<=vs.length)(hn:Nat.beq new.length n=false):∃m',stC m (.ptr b k) new.length new=some m'/\St F f0 f m'/\Kp τ f m τ f m' [t]/\Lb F f τ m' t b n (vs.take k++new++vs.drop (k+new.length)):=by
 obtain⟨m',h1,h2,h3⟩:=h.bk.stoP0 new k hk (fun he=>by rw[he,Nat.beq_refl] at hn; cases hn);exact⟨m',h1,s.st1 h h2 h3⟩
structure Ow (F:Fm) (f:M) (τ:Nat->Nat) (m:M) (t:Nat) (x:C) (l:List α):Prop where
 own:∃vs,zrj m (Rp.k α) x vs l.length/\Cat f vs l
 nw:∀b o n s d,x=.sl b o n s d->(F.m.nxt<=b\/F.B b)/\f.g b=none/\τ b=t
theorem Ow.nil(F:Fm)(f:M)(τ:Nat->Nat)(m:M)(t:Nat):Ow F f τ m t .sl0 ([]:List α):=⟨⟨[],zrj.nil' m _,rfl⟩,fun _ _ _ _ _ h=>by cases h⟩
theorem Ow.lt{F:Fm}{f m:M}{τ:Nat->Nat}{t:Nat}{x:C}{l:List α}(h:Ow F f τ m t x l){b o n s:Nat}{d:Option Nat}(hx:x=.sl b o n s d):b < m.nxt:=h.own.elim fun _ h=>h.1.lt hx
theorem Ow.k{F:Fm}{f f' m m':M}{τ τ':Nat->Nat}{t:Nat}{x:C}{l:List α}{X:List Nat}(h:Ow F f τ m t x l)(k:Kp τ f m τ' f' m' X)(hx:t ∉ X:=by decide):Ow F f' τ' m' t x l:=by
 have hx':∀b o n s d,x=.sl b o n s d->τ b ∉ X:=fun b o n s d he=>by rw[(h.nw b o n s d he).2.2]; exact hx
 obtain⟨vs,h1,h2⟩:=h.own;refine⟨⟨vs,h1.to k.nxt fun b hb he=>?_,h2.sub k.fs⟩,fun b o n s d he=>?_⟩
 ·obtain⟨s,d,he⟩:=he;exact k.g b hb (hx' _ _ _ _ _ he)
 ·obtain⟨q1,q2,q3⟩:=h.nw b o n s d he;have hlt:=h.lt he;exact⟨q1,(k.fg b hlt (hx' _ _ _ _ _ he)).trans q2,(k.tg b hlt).trans q3⟩
theorem Ow.slLen{F:Fm}{f m:M}{τ:Nat->Nat}{t:Nat}{x:C}{l:List α}(h:Ow F f τ m t x l):slLen x=l.length:=h.own.elim fun _ h=>h.1.ls.slLen
theorem Ow.noFn{F:Fm}{f m:M}{τ:Nat->Nat}{t:Nat}{x:C}{l:List α}(h:Ow F f τ m t x l):zpd x=true:=h.own.elim fun _ h=>h.1.ls.noFn
theorem zrA{x:C}{b:Nat}(h:slB x=some b):∃o n s,x=.sl b o n s none:=by
 cases x with
 | sl b' o n s d=>
  cases d with
  | none=>have h:some b'=some b:=h; cases h; exact⟨o,n,s,rfl⟩
  | some d=>cases h
 | _=>cases h
theorem Ow.appSB{T el:Nat}(ht:tk P T=.sl el)(hgr:zcw P el=true)(hk:P.cellsOf el=Rp.k α){F:Fm}{f0 f m m1:M}(s:St F f0 f m){τ:Nat->Nat}{t:Nat}{x y:C}{l l2:List α}(h:Ow F f τ m t x l)(e:Ext m m1){ws:List C}(hy:Ls m1 (Rp.k α) y ws l2.length)(hc:Cat f ws l2)(hj:0 < l2.length)(hlen:(l.length+l2.length) * P.bytesOf el<=140737488355328) :
  ∃c m2 τ',ApR P T m1 x y c m2/\St F f0 f m2/\Kp τ f m τ' f m2 [t]/\Ow F f τ' m2 t c (l++l2):=by
 obtain⟨vs,h1,h2⟩:=h.own;obtain⟨m2,q1,q2,q3,q4,q5⟩:=zrk ht hgr hk (h1.ext e) hy hj Rp.pos hlen
 have hg:∀b,b < m.nxt->slB x ≠ some b->m2.g b=m.g b:=fun b hb hx=>by
  have:=e.nxt;rw[q5 b (by omega) hx]; exact e.g b hb
 have hn:m.nxt<=m2.nxt:=by have:=e.nxt; omega
 refine⟨_,m2,zry τ m1.nxt t,q1,s.chg (X:=fun b=>slB x=some b) (fun b hb=>?_) hn (q4.trans e.vw) hg,⟨hn,fun b hb=>if_neg (by have:=e.nxt; omega),fun b hb hx=>hg b hb fun he=>?_,fun _ _ _=>rfl,.refl f,q4.trans e.vw⟩,⟨⟨_,by rw[List.length_append]; exact q2,h2.app hc⟩,fun b o n s' d he=>?_⟩⟩
 ·obtain⟨o,n,s',he⟩:=zrA hb;exact⟨(h.nw _ _ _ _ _ he).1,(h.nw _ _ _ _ _ he).2.1⟩
 ·obtain⟨o,n,s',he⟩:=zrA he;exact hx (by rw[(h.nw _ _ _ _ _ he).2.2]; exact List.mem_cons_self ..)
 ·cases he
  have h9:m.nxt<=m1.nxt:=e.nxt;exact⟨.inl (Nat.le_trans s.ext.nxt h9),s.fz _ (Nat.le_trans s.sub.nxt h9),if_pos rfl⟩
theorem Ow.appS{T el:Nat}(ht:tk P T=.sl el)(hgr:zcw P el=true)(hk:P.cellsOf el=Rp.k α){F:Fm}{f0 f m m1:M}(s:St F f0 f m){τ:Nat->Nat}{t:Nat}{x y:C}{l l2:List α}(h:Ow F f τ m t x l)(e:Ext m m1){ws:List C}(hy:Ls m1 (Rp.k α) y ws l2.length)(hc:Cat f ws l2)(hj:0 < l2.length)(hlen:l.length+l2.length<=1048576) :
  ∃c m2 τ',ApR P T m1 x y c m2/\St F f0 f m2/\Kp τ f m τ' f m2 [t]/\Ow F f τ' m2 t c (l++l2):=
 h.appSB ht hgr hk s e hy hc hj (zrl hgr hlen)
theorem Ow.app{T el:Nat}(ht:tk P T=.sl el)(hgr:zcw P el=true)(hk:P.cellsOf el=Rp.k α){F:Fm}{f0 f m m1:M}(s:St F f0 f m){τ:Nat->Nat}{t:Nat}{x:C}{l:List α}(h:Ow F f τ m t x l){cs:List C}{a:α}(hr:Rp.rep f cs a)(hlen:l.length < 1048576)(e:m1=m.new (.cells (Rp.k α) cs false)) :
  ∃c m2 τ',ApR P T m1 x (.sl m.nxt 0 1 0 (some 1)) c m2/\St F f0 f m2/\Kp τ f m τ' f m2 [t]/\Ow F f τ' m2 t c (l++[a]):=by
 obtain⟨b1,x1⟩:=Bk.new e;exact h.appS (P:=P) ht hgr hk s x1 (Ls.one b1.g (Rp.len hr) b1.lt 0 (some 1)) (Cat.one hr) (by simp) (by show l.length+1<=_; omega)
theorem Ow.freeze{F:Fm}{f0 f m:M}(s:St F f0 f m){τ:Nat->Nat}{t:Nat}{x:C}{l:List α}(h:Ow F f τ m t x l):∃f',St F f0 f' m/\Kp τ f m τ f' m [t]/\Sl f' x l:=by
 obtain⟨vs,h1,h2⟩:=h.own
 have hq:∀{b n k:Nat} {c:Option Nat} {op:Bool},x=.sl b 0 n k c->m.g b=some (.cells (n * Rp.k α) vs op)->b < m.nxt->n=l.length->zru x (Rp.k α) l.length->∃f',St F f0 f' m/\Kp τ f m τ f' m [t]/\Sl f' x l:=by
  intro b n k c op hx hg hb hnl hok;obtain⟨w1,w2,w3⟩:=h.nw _ _ _ _ _ hx
  let f':M:={ nxt:=m.nxt,g:=fun j=>if j=b then m.g b else f.g j,vw:=f.vw }
  have hf':∀j,j ≠ b->f'.g j=f.g j:=fun j hj=>if_neg hj;have hfb:f'.g b=m.g b:=if_pos rfl
  have hsub:Sub f f':=⟨s.sub.nxt,rfl,fun j hj hd=>hf' j fun he=>by
   subst he
   exact hd.elim (fun h=>h w2) fun h=>h (s.v0 _ w1)⟩
  refine⟨f',⟨s.ext,⟨Nat.le_refl _,s.sub.vw,fun j hj hd=>?_⟩,fun j hj=>?_,fun j hj=>?_,s.v0,s.fs.trans hsub,fun j hj hB=>(hf' j fun he=>by subst he; exact w1.elim (fun h=>by omega) hB).trans (s.old j hj hB)⟩,⟨Nat.le_refl _,fun _ _=>rfl,fun _ _ _=>rfl,fun j hj hx=>hf' j fun he=>hx (by rw[he,w3]; exact List.mem_cons_self ..),hsub,rfl⟩,vs,⟨h1.len,.inr ⟨b,0,k,c,by rw[hx,hnl],hb,fun _=>.inl ⟨_,vs,op,hfb.trans hg,?_,?_,?_⟩⟩⟩,h2.sub hsub,hok⟩
  ·by_cases he:j=b
   ·rw[he,hfb]
   ·rw[hf' j he] at hd ⊢
    by_cases hjf:j < f.nxt
    ·exact s.sub.g j hjf hd
    ·exact(hd.elim (fun h=>h (s.fz j (by omega))) fun h=>h (s.fv j (by omega))).elim
  ·have h9:m.nxt<=j:=hj;rw[hf' j (by omega)];exact s.fz j (Nat.le_trans s.sub.nxt h9)
  ·have h9:m.nxt<=j:=hj;exact s.fv j (Nat.le_trans s.sub.nxt h9)
  ·have:=h1.len; rw[hnl]; omega
  ·have:=h1.len; rw[hnl]; omega
  ·rw[List.drop_zero,List.take_of_length_le (Nat.le_refl _)]
 cases h1.own with
 | nil h3 h4=>
  have:l=[]:=List.eq_nil_of_length_eq_zero h3;subst this;exact⟨f,s,⟨Nat.le_refl _,fun _ _=>rfl,fun _ _ _=>rfl,fun _ _ _=>rfl,.refl f,rfl⟩,Sl.nil f⟩
 | grown b hg hb=>exact hq rfl hg hb rfl (.inr (.inr ⟨b,0,rfl⟩))
 | lit b hg hb=>exact hq rfl hg hb rfl (.inr (.inl ⟨b,0,0,_,rfl,Nat.le_refl _⟩))
theorem Sl.rd1{f:M}{x:C}{l:List α}(h:Sl f x l)(hk:Rp.k α=1){n:Nat}{a:α}(hi:l[n]? = some a) :
  ∃c,(∀m,Sub f m->ldC m (znl x (n * 1))=some c)/\Rp.rep f [c] a:=by
 obtain⟨vs,h4,h5,h5k⟩:=h;obtain⟨h6,h7⟩:=h5.at hi;rw[hk] at h6 h7
 have hl:n * 1 < vs.length:=by omega
 have hd:(vs.drop (n * 1)).take 1=[vs[n * 1]]:=by rw[List.drop_eq_getElem_cons hl]; rfl
 rw[hd] at h7;exact⟨_,fun m s=>(h4.sub s).rd (List.getElem?_eq_getElem hl),h7⟩
theorem Sl.rdI{f:M}{x:C}{l:List Int}(h:Sl f x l){n:Nat}{a:Int}(hi:l[n]? = some a){m:M}(s:Sub f m):ldC m (znl x (n * 1))=some (.int .i64 a):=by
 obtain⟨c,h3,h4⟩:=h.rd1 rfl hi;have h4:[c]=[.int .i64 a]:=h4
 cases h4
 exact h3 m s
theorem Sl.rdS{f:M}{x:C}{l:List (List α)}(h:Sl f x l){n:Nat}{a:List α}(hi:l[n]? = some a):∃c,(∀m,Sub f m->ldC m (znl x (n * 1))=some c)/\Sl f c a:=by
 obtain⟨c,h3,c',h4,h5⟩:=h.rd1 rfl hi
 cases h4
 exact⟨c,h3,h5⟩
theorem Sl.isPt{f:M}{x:C}{l:List α}(h:Sl f x l){n:Nat}{a:α}(hi:l[n]? = some a)(i:Nat):isPt (znl x i):=by
 obtain⟨vs,h4,h5,h5k⟩:=h;exact h4.isPt (by have:=(List.getElem?_eq_some_iff.1 hi).1; omega) i
theorem Sl.rdP{f:M}{x:C}{l:List α}(h:Sl f x l){n:Nat}{a:α}(hi:l[n]? = some a):∃cs,(∀m,Sub f m->ldA m (znl x (n * Rp.k α)) (Rp.k α)=some cs/\(∀j c,cs[j]? = some c->ldC m (znk (znl x (n * Rp.k α)) j)=some c)/\∀j i,0 < i->j+i<=Rp.k α->ldA m (znk (znl x (n * Rp.k α)) j) i=some ((cs.drop j).take i))/\Rp.rep f cs a:=by
 obtain⟨vs,h4,h5,h5k⟩:=h;obtain⟨h6,h7⟩:=h5.at hi
 have hn:l.length ≠ 0:=by have:=(List.getElem?_eq_some_iff.1 hi).1; omega
 refine⟨_,fun m s=>⟨(h4.sub s).rds Rp.pos h6,fun j c hj=>?_,fun j i hi0 hji=>?_⟩,h7⟩
 ·rw[h4.add hn];refine(h4.sub s).rd ?_;rw[List.getElem?_take] at hj
  split at hj
  ·rw[List.getElem?_drop] at hj; exact hj
  ·cases hj
 ·rw[h4.add hn,(h4.sub s).rds hi0 (by omega),<- List.drop_drop,List.drop_take,List.take_take,Nat.min_eq_left (by omega)]
theorem zrB{α β:Type}{o:Option α}{k:α->Option β}{r:β}(h:o.bind k=some r):∃a,o=some a/\k a=some r:=by
 cases o with
 | none=>cases h
 | some a=>exact⟨a,rfl,h⟩
open Classical in
def gd{α:Type}(p:Prop)(x:Option α):Option α:=if p then x else none
theorem zrC{α:Type}{p:Prop}{x:Option α}{r:α}(h:gd p x=some r):p/\x=some r:=by
 unfold gd at h
 by_cases hp:p
 ·rw[if_pos hp] at h; exact⟨hp,h⟩
 ·rw[if_neg hp] at h; cases h
theorem zrD{α:Type}{p:Prop}{x:Option α}(h:p):gd p x=x:=if_pos h
def TA(P:Program)(t k:Nat):Prop:=∃el,tk P t=.sl el/\zcw P el=true/\P.cellsOf el=k
theorem Ow.app'{T:Nat}(ht:TA P T (Rp.k α)){F:Fm}{f0 f m m1:M}(s:St F f0 f m){τ:Nat->Nat}{t:Nat}{x:C}{l:List α}(h:Ow F f τ m t x l){cs:List C}{a:α}(hr:Rp.rep f cs a)(hlen:l.length < 1048576)(e:m1=m.new (.cells (Rp.k α) cs false)) :
  ∃c m2 τ',ApR P T m1 x (.sl m.nxt 0 1 0 (some 1)) c m2/\St F f0 f m2/\Kp τ f m τ' f m2 [t]/\Ow F f τ' m2 t c (l++[a]):=by
 obtain⟨el,h1,h2,h3⟩:=ht;exact h.app (P:=P) h1 h2 h3 s hr hlen e
theorem Kp.old{τ τ':Nat->Nat}{f f' m m' g:M}{X:List Nat}(k:Kp τ f m τ' f' m' X):Kp τ g m τ' g m' X:=⟨k.nxt,k.tg,k.g,fun _ _ _=>rfl,.refl g,k.vw⟩
theorem St.forget{F:Fm}{f0 f f1 m m0:M}(s:St F f0 f1 m)(s0:St F f0 f m0)(h:Sub f f1):St F f0 f m:=⟨s.ext,h.trans s.sub,s0.fz,s0.fv,s0.v0,s0.fs,s0.old⟩
theorem Lb.forget{F:Fm}{f0 f f1 m m0:M}{τ:Nat->Nat}{t b n:Nat}{vs:List C}(h:Lb F f1 τ m t b n vs)(s0:St F f0 f m0)(hs:Sub f f1):Lb F f τ m t b n vs:=by
 refine⟨h.bk,h.new,?_,h.tg⟩
 cases hg:f.g b with
 | none=>rfl
 | some o=>
  have hb:b < f.nxt:=by
   rcases Nat.lt_or_ge b f.nxt with h9 | h9
   ·exact h9
   ·rw[s0.fz b h9] at hg; cases hg
  have:=hs.g b hb (.inl (by rw[hg]; exact Option.some_ne_none _))
  rw[h.nf,hg] at this; cases this
theorem Ow.lit0{F:Fm}{f0 f m m1:M}(s:St F f0 f m)(τ:Nat->Nat)(t:Nat)(e:m1=m.new (.cells 0 [] false)):∃τ',St F f0 f m1/\Kp τ f m τ' f m1 []/\Ow F f τ' m1 t (.sl m.nxt 0 0 0 (some 0)) ([]:List α):=by
 obtain⟨τ',h1,h2,h3⟩:=s.blk e τ t;refine⟨τ',h1,h2,⟨[],⟨by simp,.lit _ ?_ h3.bk.lt⟩,rfl⟩,fun b o n s d he=>by cases he; exact⟨h3.new,h3.nf,h3.tg⟩⟩;have:=h3.bk.g
 show m1.g m.nxt=some (.cells (0 * Rp.k α) [] false)
 rw[Nat.zero_mul]; exact this
theorem Cat.set{f:M}:∀{l:List α} {vs:List C},Cat f vs l->∀{n:Nat} {a:α} {E:List C},n < l.length->Rp.rep f E a->Cat f (vs.take (n * Rp.k α)++E++vs.drop (n * Rp.k α+Rp.k α)) (l.set n a)
 | [],_,_,n,_,_,hn,_=>by simp at hn
 | x::l,vs,⟨c,r,h1,h2,h3⟩,0,a,E,_,hE=>by
  have hl:=Rp.len h2;refine⟨E,r,?_,hE,h3⟩;rw[Nat.zero_mul,Nat.zero_add,List.take_zero,List.nil_append,h1,List.drop_left' hl]
 | x::l,vs,⟨c,r,h1,h2,h3⟩,n+1,a,E,hn,hE=>by
  have hl:=Rp.len h2;have ih:=Cat.set h3 (n:=n) (a:=a) (E:=E) (by simpa using hn) hE;refine⟨c,_,?_,h2,ih⟩;rw[h1,show(n+1) * Rp.k α=c.length+n * Rp.k α by rw[Nat.add_mul,Nat.one_mul]; omega,List.take_length_add_append,show c.length+n * Rp.k α+Rp.k α=c.length+(n * Rp.k α+Rp.k α) by omega,List.drop_length_add_append,List.append_assoc,List.append_assoc,List.append_assoc]
theorem Ow.ptr{F:Fm}{f m:M}{τ:Nat->Nat}{t:Nat}{x:C}{l:List α}(h:Ow F f τ m t x l){n:Nat}{a:α}(hi:l[n]? = some a):∃b,∀i,znl x i=.ptr b (0+i):=by
 obtain⟨vs,h1,h2⟩:=h.own;have hn:=(List.getElem?_eq_some_iff.1 hi).1
 cases h1.own with
 | nil h3 h4=>omega
 | grown b hg hb=>exact⟨b,fun _=>rfl⟩
 | lit b hg hb=>exact⟨b,fun _=>rfl⟩
theorem Ow.appL{T:Nat}(ht:TA P T (Rp.k α)){F:Fm}{f0 f m:M}(s:St F f0 f m){τ:Nat->Nat}{t:Nat}{x y:C}{l l2:List α}(h:Ow F f τ m t x l)(hy:Sl f y l2)(hlen:l.length+l2.length<=1048576) :
  ∃c m2 τ',ApR P T m x y c m2/\St F f0 f m2/\Kp τ f m τ' f m2 [t]/\Ow F f τ' m2 t c (l++l2):=by
 obtain⟨el,h1,h2,h3⟩:=ht;obtain⟨ws,q1,q2,_⟩:=hy
 by_cases hj:0 < l2.length
 ·exact h.appS (P:=P) h1 h2 h3 s (.refl m) (q1.sub s.sub) q2 hj hlen
 ·have hl2:l2=[]:=List.eq_nil_of_length_eq_zero (by omega);subst hl2;have hw:ws=[]:=q2;subst hw;obtain⟨vs,o1,o2⟩:=h.own;refine⟨x,m,τ,zrm h1 h2 h3 o1 (q1.sub s.sub),s,⟨Nat.le_refl _,fun _ _=>rfl,fun _ _ _=>rfl,fun _ _ _=>rfl,.refl f,rfl⟩,by rw[List.append_nil]; exact h⟩
theorem zrE{c:C}{l:List C}(h:zpd c=true)(h2:zaL zpd l=true):zaL zpd (c::l)=true:=by
 show ifB (zpd c) (zaL zpd l) false=true
 rw[h,h2]; rfl
theorem zrF:zaL zpd ([]:List C)=true:=rfl
theorem zrG{c:C}(h:zpd c=true):∃x,cC0 c=some x/\c0C x=c:=by
 cases c with
 | fn f a b=>cases h
 | ptr0=>exact⟨_,rfl,rfl⟩
 | sl b o n s c=>exact⟨_,rfl,rfl⟩
 | map r=>exact⟨_,rfl,rfl⟩
 | ptr b o=>exact⟨_,rfl,rfl⟩
 | _=>first | exact⟨_,rfl,rfl⟩ | cases h
theorem zrH:∀{l:List C},zaL zpd l=true->∃xs,zaE cC0 l=some xs/\zbZ c0C xs=l
 | [],_=>⟨[],rfl,rfl⟩
 | c::l,h=>by
  have h:ifB (zpd c) (zaL zpd l) false=true:=h
  cases hc:zpd c with
  | false=>rw[hc] at h; cases h
  | true=>
   rw[hc] at h;obtain⟨x,h1,h2⟩:=zrG hc;obtain⟨xs,h3,h4⟩:=zrH h;refine⟨x::xs,?_,?_⟩
   ·show zaa (cC0 c) none (fun y=>zaa (zaE cC0 l) none fun ys=>some (y::ys))=_
    rw[h1,h3]; rfl
   ·show c0C x::zbZ c0C xs=_
    rw[h2,h4]
theorem zrI{c:C}(h:zpd c=true):∃w,vW (.c c)=some w/\wV w=.c c:=by
 obtain⟨x,h1,h2⟩:=zrG h;refine⟨.c x,?_,?_⟩
 ·show zaa (cC0 c) none (fun x=>some (W.c x))=_
  rw[h1]; rfl
 ·show V.c (c0C x)=_
  rw[h2]
theorem zrJ{n:Nat}{l:List C}(h:zaL zpd l=true):∃w,vW (.agg n l)=some w/\wV w=.agg n l:=by
 obtain⟨xs,h1,h2⟩:=zrH h;refine⟨.agg n xs,?_,?_⟩
 ·show zaa (zaE cC0 l) none (fun xs=>some (W.agg n xs))=_
  rw[h1]; rfl
 ·show V.agg n (zbZ c0C xs)=_
  rw[h2]
theorem zrK:∃ws,zaE vW []=some ws/\zbZ wV ws=[]:=⟨[],rfl,rfl⟩
theorem zrL{v:V}{l:List V}(h:∃w,vW v=some w/\wV w=v)(h2:∃ws,zaE vW l=some ws/\zbZ wV ws=l):∃ws,zaE vW (v::l)=some ws/\zbZ wV ws=v::l:=by
 obtain⟨w,h3,h4⟩:=h;obtain⟨ws,h5,h6⟩:=h2;refine⟨w::ws,?_,?_⟩
 ·show zaa (vW v) none (fun y=>zaa (zaE vW l) none fun ys=>some (y::ys))=_
  rw[h3,h5]; rfl
 ·show wV w::zbZ wV ws=_
  rw[h4,h6]
theorem Bk.sub{f m:M}{b n:Nat}{vs:List C}(h:Bk f b n vs)(s:Sub f m):Bk m b n vs:=
 ⟨(s.g b h.lt (.inl (by rw[h.g]; exact Option.some_ne_none _))).trans h.g,Nat.lt_of_lt_of_le h.lt s.nxt⟩
theorem Lb.freeze{F:Fm}{f0 f m:M}{τ:Nat->Nat}{t b n:Nat}{vs:List C}(h:Lb F f τ m t b n vs)(s:St F f0 f m):∃f',St F f0 f' m/\Kp τ f m τ f' m [t]/\Bk f' b n vs:=by
 let f':M:={ nxt:=m.nxt,g:=fun j=>if j=b then m.g b else f.g j,vw:=f.vw }
 have hf':∀j,j ≠ b->f'.g j=f.g j:=fun j hj=>if_neg hj;have hfb:f'.g b=m.g b:=if_pos rfl
 have hsub:Sub f f':=⟨s.sub.nxt,rfl,fun j hj hd=>hf' j fun he=>by
  subst he
  exact hd.elim (fun h'=>h' h.nf) fun h'=>h' (s.v0 _ h.new)⟩
 have hbm:=h.bk.lt;have hnew:=h.new;refine⟨f',⟨s.ext,⟨Nat.le_refl _,s.sub.vw,fun j hj hd=>?_⟩,fun j hj=>?_,fun j hj=>?_,s.v0,s.fs.trans hsub,fun j hj hB=>(hf' j fun he=>by subst he; exact hnew.elim (fun h=>by omega) hB).trans (s.old j hj hB)⟩,⟨Nat.le_refl _,fun _ _=>rfl,fun _ _ _=>rfl,fun j hj hx=>hf' j fun he=>hx (by rw[he,h.tg]; exact List.mem_cons_self ..),hsub,rfl⟩,hfb.trans h.bk.g,hbm⟩
 ·by_cases he:j=b
  ·rw[he,hfb]
  ·rw[hf' j he] at hd ⊢
   by_cases hjf:j < f.nxt
   ·exact s.sub.g j hjf hd
   ·exact(hd.elim (fun h=>h (s.fz j (by omega))) fun h=>h (s.fv j (by omega))).elim
 ·have h9:m.nxt<=j:=hj;rw[hf' j (by omega)];exact s.fz j (Nat.le_trans s.sub.nxt h9)
 ·have h9:m.nxt<=j:=hj;exact s.fv j (Nat.le_trans s.sub.nxt h9)
theorem Bk.sl{f:M}{b N n:Nat}{vs:List C}{l:List α}(h:Bk f b N vs)(hc:Cat f vs l)(hn:l.length=n)(hN:vs.length=N)(k:Nat):Sl f (.sl b 0 n k (some n)) l:=by
 have h3:=hc.len;refine⟨vs,⟨h3,.inr ⟨b,0,k,some n,by rw[hn],h.lt,fun _=>.inl ⟨N,vs,false,h.g,hN,by omega,by rw[List.drop_zero,List.take_of_length_le (Nat.le_refl _)]⟩⟩⟩,hc,.inr (.inl ⟨b,0,k,n,by rw[hn],by omega⟩)⟩
structure Rs (F:Fm) (f:M) (τ:Nat->Nat) (m:M) (t b:Nat):Prop where
 new:F.m.nxt<=b\/F.B b
 nf:f.g b=none
 tg:τ b=t
 lt:b < m.nxt
theorem Rs.k{F:Fm}{f f' m m':M}{τ τ':Nat->Nat}{t b:Nat}{X:List Nat}(h:Rs F f τ m t b)(k:Kp τ f m τ' f' m' X)(hx:t ∉ X:=by decide):Rs F f' τ' m' t b:=by
 have hx:τ b ∉ X:=by rw[h.tg]; exact hx
 exact⟨h.new,(k.fg b h.lt hx).trans h.nf,(k.tg b h.lt).trans h.tg,Nat.lt_of_lt_of_le h.lt k.nxt⟩
theorem Rs.forget{F:Fm}{f0 f f1 m m0:M}{τ:Nat->Nat}{t b:Nat}(h:Rs F f1 τ m t b)(s0:St F f0 f m0)(hs:Sub f f1):Rs F f τ m t b:=by
 refine⟨h.new,?_,h.tg,h.lt⟩
 cases hg:f.g b with
 | none=>rfl
 | some o=>
  have hb:b < f.nxt:=by
   rcases Nat.lt_or_ge b f.nxt with h9 | h9
   ·exact h9
   ·rw[s0.fz b h9] at hg; cases hg
  have:=hs.g b hb (.inl (by rw[hg]; exact Option.some_ne_none _))
  rw[h.nf,hg] at this; cases this
theorem St.grow{F:Fm}{f0 f m m':M}(s:St F f0 f m){k:Nat}(h:m'=zpo m k)(τ:Nat->Nat):St F f0 f m'/\Kp τ f m τ f m' []:=by
 subst h;have hn:m.nxt<=(zpo m k).nxt:=Nat.le_add_right _ _;exact⟨s.chg (X:=fun _=>False) (fun _ h=>h.elim) hn rfl fun _ _ _=>rfl,⟨hn,fun _ _=>rfl,fun _ _ _=>rfl,fun _ _ _=>rfl,.refl f,rfl⟩⟩
theorem Rs.set{F:Fm}{f0 f m m':M}{τ:Nat->Nat}{t b n:Nat}{vs:List C}(h:Rs F f τ m t b)(s:St F f0 f m)(e:m'=m.set b (.cells n vs false)):St F f0 f m'/\Kp τ f m τ f m' [t]/\Lb F f τ m' t b n vs:=by
  have h1:St1 m m' b:=.of_set e
  refine⟨s.chg (X:=fun b'=>b'=b) (fun b' h'=>by subst h'; exact⟨h.new,h.nf⟩) (by rw[h1.nxt]; exact Nat.le_refl _) h1.vw fun b' _ hne=>h1.g b' hne,
    ⟨by rw[h1.nxt]; exact Nat.le_refl _,fun _ _=>rfl,fun b' _ hx=>h1.g b' fun he=>hx (by rw[he,h.tg]; exact List.mem_cons_self ..),fun _ _ _=>rfl,.refl f,h1.vw⟩,⟨⟨?_,by rw[h1.nxt]; exact h.lt⟩,h.new,h.nf,h.tg⟩⟩
  rw[e,M.g_set,if_pos rfl]
theorem St.growK{F:Fm}{f0 f m m':M}(s:St F f0 f m){k:Nat}(h:m'=zpo m k)(τ:Nat->Nat)(t:Nat):∃τ',St F f0 f m'/\Kp τ f m τ' f m' []/\∀i,i < k->Rs F f τ' m' (t+i) (m.nxt+i):=by
 obtain⟨h1,h2⟩:=s.grow h τ;refine⟨fun b=>if m.nxt<=b then t+(b - m.nxt) else τ b,h1,⟨h2.nxt,fun b hb=>if_neg (by omega),h2.g,h2.fg,h2.fs,h2.vw⟩,fun i hi=>⟨.inl (Nat.le_trans s.ext.nxt (Nat.le_add_right _ _)),s.fz _ (Nat.le_trans s.sub.nxt (Nat.le_add_right _ _)),?_,?_⟩⟩
 ·show(if m.nxt<=m.nxt+i then t+(m.nxt+i - m.nxt) else _)=_
  rw[if_pos (by omega)]; omega
 ·subst h
  show m.nxt+i < m.nxt+k
  omega
theorem Seg.part{m:M}{b o:Nat}{vs:List C}(h:Seg m b o vs){a l:Nat}(hal:a+l<=vs.length):Seg m b (o+a) ((vs.drop a).take l):=by
 have hlen:((vs.drop a).take l).length=l:=by rw[List.length_take,List.length_drop]; omega
 have key:∀(w:List C) (p n:Nat),a+l<=n->(((w.drop p).take n).drop a).take l=(w.drop (p+a)).take l:=fun w p n hn=>by rw[List.drop_take,List.take_take,List.drop_drop,Nat.min_eq_left (by omega)]
 have hsub:∀(w:List C) (p:Nat),(w.drop p).take vs.length=vs->(w.drop (p+a)).take l=(vs.drop a).take l:=fun w p hw=>by
  have:=key w p vs.length hal;rw[hw] at this;exact this.symm
 rcases h with ⟨n,ws,op,h1,h2,h3,h4⟩ | ⟨h1,q,h2,h3,h4,h5⟩
 ·exact .inl ⟨n,ws,op,h1,h2,by rw[hlen]; omega,by rw[hlen]; exact hsub ws o h4⟩
 ·refine .inr ⟨h1,q,h2,by omega,by rw[hlen]; omega,?_⟩;rw[hlen,show o+a - q.1=(o - q.1)+a by omega];exact hsub q.2 _ h5
theorem Cat.part{f:M}:∀{l:List α} {vs:List C},Cat f vs l->∀(i:Nat),Cat f (vs.drop (i * Rp.k α)) (l.drop i)/\Cat f (vs.take (i * Rp.k α)) (l.take i)
 | [],_,h,i=>by have h:_=[]:=h; rw[h]; simp[Cat]
 | a::l,_,h,0=>by rw[Nat.zero_mul,List.drop_zero,List.take_zero,List.drop_zero,List.take_zero]; exact⟨h,rfl⟩
 | a::l,_,⟨c,r,h1,h2,h3⟩,i+1=>by
  have hl:=Rp.len h2;obtain⟨q1,q2⟩:=Cat.part h3 i;rw[h1,Nat.add_mul,Nat.one_mul,show i * Rp.k α+Rp.k α=c.length+i * Rp.k α by omega,<- List.drop_drop,List.drop_left' rfl,List.take_length_add_append];exact⟨q1,c,_,rfl,h2,q2⟩
theorem Sl.subC{f:M}{x:C}{l:List α}(h:Sl f x l){i j:Nat}(hij:i<=j)(hj:j<=l.length):∃c,Go.Abs.subC (Rp.k α) x i j=some c/\Sl f c ((l.take j).drop i):=by
 obtain⟨vs,h4,h5,h6⟩:=h;have hl:=h4.len;have hk:=Rp.pos (α:=α)
 have e1:i * Rp.k α+(j - i) * Rp.k α=j * Rp.k α:=by rw[<- Nat.add_mul]; congr 1; omega
 have e2:j * Rp.k α<=l.length * Rp.k α:=Nat.mul_le_mul_right _ hj
 have hcat:Cat f ((vs.drop (i * Rp.k α)).take ((j - i) * Rp.k α)) ((l.take j).drop i):=by
  have q:=((h5.part j).2.part i).1;rw[List.drop_take] at q
  rwa [show j * Rp.k α - i * Rp.k α=(j - i) * Rp.k α by omega] at q
 have hlen:((l.take j).drop i).length=j - i:=by rw[List.length_drop,List.length_take]; omega
 have hvl:(j - i) * Rp.k α=((vs.drop (i * Rp.k α)).take ((j - i) * Rp.k α)).length:=by rw[List.length_take,List.length_drop]; omega
 have mk:∀b o' s' c',b < f.nxt->(j - i ≠ 0->Seg f b o' ((vs.drop (i * Rp.k α)).take ((j - i) * Rp.k α)))->zru (.sl b o' (j - i) s' c') (Rp.k α) (j - i)->Sl f (.sl b o' (j - i) s' c') ((l.take j).drop i):=fun b o' s' c' hb hs hok=>
  ⟨_,⟨by rw[hlen]; exact hvl,.inr ⟨b,o',s',c',by rw[hlen],hb,fun h0=>hs (by rw[hlen] at h0; exact h0)⟩⟩,hcat,by rw[hlen]; exact hok⟩
 rcases h6 with ⟨rfl,h0⟩ | ⟨b,o,s,c,rfl,hc⟩ | ⟨b,o,rfl⟩
 ·have:j=0:=by omega
  have:i=0:=by omega
  subst_vars
  exact⟨.sl0,rfl,by simpa using Sl.nil f⟩
 ·obtain⟨hb,hseg⟩:b < f.nxt/\(l.length ≠ 0->Seg f b o vs):=by
   rcases h4.val with ⟨h0,_⟩ | ⟨b',o',s',c',h0,h3,h4⟩
   ·cases h0
   ·cases h0; exact⟨h3,h4⟩
  refine⟨.sl b (ifB (Nat.beq c i) o (Nat.add o (Nat.mul i (Rp.k α)))) (Nat.sub j i) 0 (some (Nat.sub c i)),?_,?_⟩
  ·show ifB (Nat.ble i j) (ifB (Nat.ble j c) _ none) none=_
   rw[Nat.ble_eq_true_of_le hij,Nat.ble_eq_true_of_le (show j<=c by omega)]; rfl
  ·refine mk _ _ _ _ hb (fun hne=>?_) (.inr (.inl ⟨_,_,_,_,rfl,by show j - i<=c - i; omega⟩))
   have hci:Nat.beq c i=false:=by
    cases hq:Nat.beq c i with
    | true=>have:=Nat.eq_of_beq_eq_true hq; omega
    | false=>rfl
   rw[hci];exact(hseg (by omega)).part (Nat.le_trans (Nat.le_of_eq e1) (Nat.le_trans e2 (Nat.le_of_eq hl)))
 ·obtain⟨hb,hseg⟩:b < f.nxt/\(l.length ≠ 0->Seg f b o vs):=by
   rcases h4.val with ⟨h0,_⟩ | ⟨b',o',s',c',h0,h3,h4⟩
   ·cases h0
   ·cases h0; exact⟨h3,h4⟩
  refine⟨.sl b (Nat.add o (Nat.mul i (Rp.k α))) (Nat.sub j i) (Rp.k α) none,?_,?_⟩
  ·show ifB (Nat.ble i j) (ifB (Nat.ble j l.length) (ifB (Nat.beq (Rp.k α) (Rp.k α)) _ none) none) none=_
   rw[Nat.ble_eq_true_of_le hij,Nat.ble_eq_true_of_le hj,Nat.beq_refl]; rfl
  ·exact mk _ _ _ _ hb (fun hne=>(hseg (by omega)).part (Nat.le_trans (Nat.le_of_eq e1) (Nat.le_trans e2 (Nat.le_of_eq hl)))) (.inr (.inr ⟨_,_,rfl⟩))
end
end Go.Abs

namespace Go.Abs
noncomputable section
inductive X where
 | int (k:IntKind) (n:Int) | bool (b:Bool) | str (s:ByteArray) | nilS | sl (a:Addr) (cap:Nat) (els:List (List C))
theorem zrM{k:IntKind}{n:Int}(h:(Lit.int k n).wf=true):znj k n:=by
 simp only[Lit.wf,Bool.and_eq_true,decide_eq_true_eq] at h
 obtain⟨h1,h2⟩:=h
 cases k <;> simp only[IntKind.min,IntKind.max,IntKind.signed,IntKind.bits] at h1 h2 <;> simp only[znj] <;> simp at h1 h2 <;> omega
section
variable {H:Type} {enc:TypeId × Value->H} {P:Program} {W:World} {held:Bool}
theorem cells?_at{a:Addr}{k:Nat}{cs:List Value}(h:W.cells? 0 a k=some cs):cs.length=k/\∀j,j < k->W.cell? (a.add j)=cs[j]?:=by
 unfold World.cells? at h;rw[if_pos (Nat.zero_le _)] at h;refine⟨by simpa using mapM_some_length h,fun j hj=>mapM_some_get h j j (by simp[hj])⟩
theorem zrN(b o i j:Nat):((⟨b,o,none⟩:Addr).add i).add j=⟨b,o+i+j,none⟩:=by rw[zeJ,zeJ]
end
end
end Go.Abs

namespace Go.Abs
noncomputable section
theorem zrO{P:Program}(hP:zgE P){T:List (Nat × Bool)}(hT:zlB P T){f:FuncId}{args:List V}{m:M}{Q:V->M->Prop}(h:Wc P T f args m Q){e:Env}{w:World}(hr:HR e (toH m) w){args':Array Value}(ha:zeq (VR e) args args'.toList)(n:Nat) :
  CallsIn Fence.wide n P f args' w fun en w'=>∃v v' e' m',en=.returned v'/\zeE e (toH m) w e' (toH m') w'/\VR e' v v'/\Q v m':=by
 obtain⟨k,h0⟩:=h;have hs:=(zm1 hP hT k).call f args e3 (toH m) e w args' hr ha (znb h0);refine(hs.2 n).mono fun en w' hp=>?_;obtain⟨u,v',tm',e',h',q1,q2,q3,q4,q5⟩:=hp;obtain⟨m',rfl,hq⟩:=znc h0 q2;exact⟨_,v',e',m',q1,q3,q5,hq⟩
end
end Go.Abs

namespace Go.Abs
set_option maxRecDepth 100000
noncomputable section
open Classical
variable {P:Program} {kt:TypeId} {κ:Type} {enc:κ->U}
structure zrP (P:Program) (kt:TypeId) (enc:κ->U):Prop where
 plain:∃ks,zbb P kt=some ks
 eq:∀a b:κ,eqV P kt (uV (enc a)) (uV (enc b))=some (decide (a=b))
def zrQ(enc:κ->U)(es:List E):Prop:=∀e∈es,∃a,e.k=enc a
def look(enc:κ->U)(es:List E)(a:κ):Option U:=
 match es with
 | []=>none
 | e::es=>if e.k=enc a then some e.v else look enc es a
theorem zrP.inj(h:zrP P kt enc){a b:κ}(he:enc a=enc b):a=b:=by
 have h1:=h.eq a b;rw[he,h.eq b b] at h1
 simpa using h1
theorem zrR(u:U):vU (uV u)=some u:=by cases u <;> rfl
theorem zrS(h:zrP P kt enc)(a:κ):∀{es:List E} (i:Nat),zrQ enc es->∃r,zcd P kt (uV (enc a)) es i=some r/\zaa r none (fun q=>some q.2)=look enc es a /\
  ∀yu:U,∀clock:Nat,zrQ enc (zaa r (appS es [{ k:=enc a,v:=yu,born:=clock }]) fun q=>zce (enc a) yu es (q.1 - i)) /\
   (∀b,look enc (zaa r (appS es [{ k:=enc a,v:=yu,born:=clock }]) fun q=>zce (enc a) yu es (q.1 - i)) b=if b=a then some yu else look enc es b)/\(∀q,r=some q->i<=q.1)
 | [],i,_=>by
  refine⟨none,rfl,rfl,fun yu clock=>⟨?_,fun b=>?_,fun q hq=>by cases hq⟩⟩
  ·intro e he
   have:e={ k:=enc a,v:=yu,born:=clock }:=by simpa [appS,zaa] using he
   exact⟨a,by rw[this]⟩
  ·show look enc [_] b=_
   unfold look
   by_cases hb:b=a
   ·rw[if_pos hb,if_pos (by rw[hb])]
   ·rw[if_neg hb,if_neg fun he=>hb (h.inj he).symm]; rfl
 | e::es,i,hk=>by
  obtain⟨a',ha'⟩:=hk e (List.mem_cons_self ..);have hk':zrQ enc es:=fun e he=>hk e (List.mem_cons_of_mem _ he);obtain⟨r,hr,hl,hu⟩:=zrS h a (i+1) hk';have he:zcd P kt (uV (enc a)) (e::es) i=zaa (eqV P kt (uV (enc a)) (uV e.k)) none fun b=>ifB b (some (some (i,e.v))) (zcd P kt (uV (enc a)) es (i+1)):=rfl;rw[ha',h.eq] at he
  by_cases haa:a=a'
  ·have he2:zcd P kt (uV (enc a)) (e::es) i=some (some (i,e.v)):=by rw[he,decide_eq_true haa]; rfl
   refine⟨_,he2,?_,fun yu clock=>⟨?_,fun b=>?_,fun q hq=>?_⟩⟩
   ·show some e.v=if e.k=enc a then some e.v else look enc es a
    rw[if_pos (by rw[ha',haa])]
   ·show zrQ enc (zce (enc a) yu (e::es) (i - i))
    rw[Nat.sub_self];intro e' he'
    rcases List.mem_cons.1 he' with rfl | h2
    ·exact⟨a,rfl⟩
    ·exact hk' _ h2
   ·show look enc (zce (enc a) yu (e::es) (i - i)) b=_
    rw[Nat.sub_self]
    show(if enc a=enc b then some yu else look enc es b)=if b=a then some yu else if e.k=enc b then some e.v else look enc es b
    by_cases hb:b=a
    ·rw[if_pos hb,if_pos (by rw[hb])]
    ·rw[if_neg hb,if_neg fun he=>hb (h.inj he).symm,if_neg fun he=>hb (by rw[ha'] at he; rw[haa]; exact(h.inj he).symm)]
   ·cases hq; exact Nat.le_refl _
  ·have he2:zcd P kt (uV (enc a)) (e::es) i=some r:=by rw[he,decide_eq_false haa]; exact hr
   refine⟨r,he2,?_,fun yu clock=>?_⟩
   ·rw[hl]
    show look enc es a=if e.k=enc a then some e.v else look enc es a
    rw[if_neg fun h2=>haa (by rw[ha'] at h2; exact(h.inj h2).symm)]
   ·obtain⟨u1,u2,u3⟩:=hu yu clock
    have hcons:(zaa r (appS (e::es) [{ k:=enc a,v:=yu,born:=clock }]) fun q=>zce (enc a) yu (e::es) (q.1 - i))=e::(zaa r (appS es [{ k:=enc a,v:=yu,born:=clock }]) fun q=>zce (enc a) yu es (q.1 - (i+1))):=by
     cases r with
     | none=>
      show zaD e _=_
      exact zer e _
     | some q=>
      have:=u3 q rfl
      show zce (enc a) yu (e::es) (q.1 - i)=e::zce (enc a) yu es (q.1 - (i+1))
      rw[show q.1 - i=(q.1 - (i+1))+1 by omega]
      show zaD e _=_
      exact zer e _
    rw[hcons];refine⟨fun e' he'=>?_,fun b=>?_,fun q hq=>by have:=u3 q hq; omega⟩
    ·rcases List.mem_cons.1 he' with rfl | h2
     ·exact⟨a',ha'⟩
     ·exact u1 _ h2
    ·show(if e.k=enc b then some e.v else look enc _ b)=if b=a then some yu else if e.k=enc b then some e.v else look enc es b
     rw[u2]
     by_cases h3:e.k=enc b
     ·rw[if_pos h3,if_pos h3,if_neg fun h4=>haa (by rw[h4,ha'] at h3; exact(h.inj h3).symm)]
     ·rw[if_neg h3,if_neg h3]
def zrT(es:List E)(clock:Nat):Prop:=(∀p∈es.map fun e=>(e.k,e.born),p.2 < clock)/\(es.map fun e=>(e.k,e.born)).Pairwise fun p q=>p.2 ≠ q.2/\p.1 ≠ q.1
theorem zrU(h:zrP P kt enc)(a:κ):∀{es:List E} (i:Nat),zrQ enc es->∀{r:Option (Nat × U)},zcd P kt (uV (enc a)) es i=some r ->
  (∀q,r=some q->i<=q.1/\∀yu,(zce (enc a) yu es (q.1 - i)).map (fun e=>(e.k,e.born))=es.map fun e=>(e.k,e.born))/\(r=none->∀e∈es,e.k ≠ enc a)
 | [],i,_,r,hr=>by cases hr; exact⟨(fun _ h=>by cases h),fun _ e he=>(by cases he)⟩
 | e::es,i,hk,r,hr=>by
  obtain⟨a',ha'⟩:=hk e (List.mem_cons_self ..);have hk':zrQ enc es:=fun e he=>hk e (List.mem_cons_of_mem _ he);have he:zcd P kt (uV (enc a)) (e::es) i=zaa (eqV P kt (uV (enc a)) (uV e.k)) none fun b=>ifB b (some (some (i,e.v))) (zcd P kt (uV (enc a)) es (i+1)):=rfl;rw[ha',h.eq,hr] at he
  by_cases haa:a=a'
  ·rw[decide_eq_true haa] at he;have he2:r=some (i,e.v):=oi he;subst he2;refine⟨fun q hq=>?_,fun h=>by cases h⟩
   cases hq
   refine⟨Nat.le_refl _,fun yu=>?_⟩;rw[Nat.sub_self]
   show(enc a,e.born)::_=(e.k,e.born)::_
   rw[ha',haa]
  ·rw[decide_eq_false haa] at he;have he2:zcd P kt (uV (enc a)) es (i+1)=some r:=he.symm;obtain⟨q1,q2⟩:=zrU h a (i+1) hk' he2;refine⟨fun q hq=>?_,fun hn e' he'=>?_⟩
   ·obtain⟨q3,q4⟩:=q1 q hq;refine⟨by omega,fun yu=>?_⟩;rw[show q.1 - i=(q.1 - (i+1))+1 by omega]
    show(zaD e (zce (enc a) yu es (q.1 - (i+1)))).map _=_
    rw[zer,List.map_cons,q4,List.map_cons]
   ·rcases List.mem_cons.1 he' with rfl | h2
    ·rw[ha']; exact fun hc=>haa (h.inj hc).symm
    ·exact q2 hn _ h2
theorem zrT.set{es es':List E}{clock:Nat}(h:zrT es clock)(he:es'.map (fun e=>(e.k,e.born))=es.map fun e=>(e.k,e.born)):zrT es' clock:=by unfold zrT; rw[he]; exact h
theorem zrT.app{es:List E}{clock:Nat}(h:zrT es clock){k v:U}(hk:∀e∈es,e.k ≠ k):zrT (appS es [{ k:=k,v:=v,born:=clock }]) (clock+1):=by
 unfold zrT;rw[zes,List.map_append,List.map_cons,List.map_nil];refine⟨fun p hp=>?_,?_⟩
 ·rcases List.mem_append.1 hp with hp | hp
  ·have:=h.1 p hp; omega
  ·rw[List.mem_singleton.1 hp]; exact Nat.lt_succ_self _
 ·rw[List.pairwise_append];refine⟨h.2,List.pairwise_singleton _ _,fun p hp q hq=>?_⟩;rw[List.mem_singleton.1 hq];have h1:=h.1 p hp;obtain⟨e,he,rfl⟩:=List.mem_map.1 hp;exact⟨Nat.ne_of_lt h1,hk e he⟩
structure Mp (enc:κ->U) (m:M) (b:Nat) (f:κ->Option U):Prop where
 ex:∃es clock,m.g b=some (.map es clock)/\zrQ enc es/\(∀a,look enc es a=f a)/\zrT es clock
 lt:b < m.nxt
theorem Mp.new{m m0:M}(h:m0=m.new (.map [] 0)):Mp enc m0 m.nxt (fun _=>none)/\Ext m m0:=by
 subst h;exact⟨⟨⟨[],0,by rw[M.g_new,if_pos rfl],fun e he=>(by cases he),fun _=>rfl,⟨fun _ h=>(by cases h),.nil⟩⟩,by rw[M.nxt_new]; omega⟩,Ext.new m _⟩
theorem Mp.ext{m m':M}{b:Nat}{f:κ->Option U}(h:Mp enc m b f)(e:Ext m m'):Mp enc m' b f:=by
 obtain⟨es,clock,h1,h2⟩:=h.ex;exact⟨⟨es,clock,(e.g b h.lt).trans h1,h2⟩,Nat.lt_of_lt_of_le h.lt e.nxt⟩
theorem Mp.lk(hK:zrP P kt enc){m:M}{b:Nat}{f:κ->Option U}(h:Mp enc m b f)(a:κ){k:V}(hk:k=uV (enc a)):lkM P kt m (.map b) k=some (f a):=by
 subst hk;obtain⟨es,clock,h1,h2,h3,_⟩:=h.ex;obtain⟨ks,hp⟩:=hK.plain;obtain⟨r,hr,hl,_⟩:=zrS hK a 0 h2;unfold lkM;rw[hp,zd6,hK.eq,zd6,<- h3 a,<- hl]
 simp only[h1]
 rw[hr]; rfl
theorem Mp.up(hK:zrP P kt enc){m:M}{b:Nat}{f:κ->Option U}(h:Mp enc m b f)(a:κ)(y:U){k yv:V}(hk:k=uV (enc a))(hy:yv=uV y) :
  ∃o,upM P kt m (.map b) k yv=some (m.set b o)/\Mp enc (m.set b o) b (fun b=>if b=a then some y else f b):=by
 subst hk hy;obtain⟨es,clock,h1,h2,h3,h4⟩:=h.ex;obtain⟨ks,hp⟩:=hK.plain;obtain⟨r,hr,_,hu⟩:=zrS hK a 0 h2;obtain⟨k1,k2⟩:=zrU hK a 0 h2 hr;obtain⟨u1,u2,_⟩:=hu y clock;unfold upM;rw[hp,zd6]
 simp only[h1]
 rw[zrR,zd6,zrR,zd6,hK.eq,zd6,hr,zd6]
 cases r with
 | none=>exact⟨_,rfl,⟨_,_,(by rw[M.g_set,if_pos rfl]; rfl),u1,fun b=>by rw[u2,h3],h4.app (k2 rfl)⟩,h.lt⟩
 | some q=>exact⟨_,rfl,⟨_,_,(by rw[M.g_set,if_pos rfl]; rfl),u1,fun b=>by have:=u2 b; rw[h3] at this; exact this,h4.set ((k1 q rfl).2 y)⟩,h.lt⟩
end
end Go.Abs

namespace Go.Abs
set_option maxRecDepth 100000
noncomputable section
open Classical
variable {P:Program}
class MK (K:Type) where
  enc:K->U
  fit:K->Prop
class MV (V:Type) where
  enc:V->U
instance:MV Int:=⟨fun a=>.c (.int .i64 a)⟩
instance:MV Bool:=⟨fun a=>.c (.bool a)⟩
def zrV(K:Type)[MK K](k:{k:K // MK.fit k}):U:=MK.enc k.1
def KL(P:Program)(kt:TypeId)(K:Type)[MK K]:Prop:=zrP P kt (zrV K)
variable {K V':Type} [MK K] [MV V']
def Mi(m:M)(c:C)(M:Option (K->Option V')):Prop:=
 match M with
 | none=>c=.map0
 | some f=>∃b,c=.map b/\Mp (zrV K) m b (fun k=>(f k.1).map MV.enc)
def zrW(M:Option (K->Option V'))(k:K):Option V':=M.bind fun f=>f k
def zrX(M:Option (K->Option V'))(k:K)(v:V'):Option (Option (K->Option V')):=M.map fun f=>some fun j=>if j=k then some v else f j
structure Mo (F:Fm) (f:M) (τ:Nat->Nat) (m:M) (t:Nat) (c:C) (M:Option (K->Option V')):Prop where
 mi:Mi m c M
 own:∀b,c=.map b->(F.m.nxt<=b\/F.B b)/\f.g b=none/\τ b=t/\b < m.nxt
theorem Mp.to{κ:Type}{enc:κ->U}{m m':M}{b:Nat}{f:κ->Option U}(h:Mp enc m b f)(hn:m.nxt<=m'.nxt)(hg:m'.g b=m.g b):Mp enc m' b f:=by
 obtain⟨es,clock,h1,h2⟩:=h.ex;exact⟨⟨es,clock,hg.trans h1,h2⟩,Nat.lt_of_lt_of_le h.lt hn⟩
theorem Mi.to{m m':M}{c:C}{M:Option (K->Option V')}(h:Mi m c M)(hn:m.nxt<=m'.nxt)(hg:∀b,c=.map b->m'.g b=m.g b):Mi m' c M:=by
 cases M with
 | none=>exact h
 | some f=>
  obtain⟨b,h1,h2⟩:=h;exact⟨b,h1,h2.to hn (hg b h1)⟩
theorem Mo.k{F:Fm}{f f' m m':M}{τ τ':Nat->Nat}{t:Nat}{c:C}{M:Option (K->Option V')}{X:List Nat}(h:Mo F f τ m t c M)(k:Kp τ f m τ' f' m' X)(hx:t ∉ X:=by decide):Mo F f' τ' m' t c M:=by
 have hX:∀b,c=.map b->τ b ∉ X:=fun b hb=>by rw[(h.own b hb).2.2.1]; exact hx
 refine⟨h.mi.to k.nxt fun b hb=>k.g b (h.own b hb).2.2.2 (hX b hb),fun b hb=>?_⟩;obtain⟨q1,q2,q3,q4⟩:=h.own b hb;exact⟨q1,(k.fg b q4 (hX b hb)).trans q2,(k.tg b q4).trans q3,Nat.lt_of_lt_of_le q4 k.nxt⟩
theorem Mo.new{F:Fm}{f0 f m m':M}(s:St F f0 f m)(h:m'=m.new (.map [] 0))(τ:Nat->Nat)(t:Nat):∃τ',St F f0 f m'/\Kp τ f m τ' f m' []/\Mo F f τ' m' t (.map m.nxt) (some fun _=>none:Option (K->Option V')):=by
 obtain⟨h1,h2⟩:=s.new h τ t;refine⟨_,h1,h2,⟨m.nxt,rfl,(Mp.new (enc:=zrV K) h).1⟩,fun b hb=>?_⟩
 cases hb
 exact⟨.inl s.ext.nxt,s.fz _ s.sub.nxt,if_pos rfl,by rw[h,M.nxt_new]; omega⟩
theorem Mo.nil(F:Fm)(f:M)(τ:Nat->Nat)(m:M)(t:Nat):Mo F f τ m t .map0 (none:Option (K->Option V')):=⟨rfl,fun b hb=>by cases hb⟩
theorem Mi.lk{kt:TypeId}(hK:KL P kt K){m:M}{c:C}{M:Option (K->Option V')}(h:Mi m c M){k:K}(hf:MK.fit k){kv:V}(hk:kv=uV (MK.enc k)):lkM P kt m c kv=some ((zrW M k).map MV.enc):=by
 cases M with
 | none=>
  have h:c=.map0:=h;subst h hk;obtain⟨ks,hp⟩:=zrP.plain hK;unfold lkM;rw[hp,zd6,show eqV P kt (uV (MK.enc k)) (uV (MK.enc k))=_ from hK.eq ⟨k,hf⟩ ⟨k,hf⟩,zd6]
  rfl
 | some f=>
  obtain⟨b,rfl,h2⟩:=h;exact h2.lk hK ⟨k,hf⟩ hk
theorem Mo.up{kt:TypeId}(hK:KL P kt K){F:Fm}{f0 f m:M}(s:St F f0 f m){τ:Nat->Nat}{t:Nat}{c:C}{M M':Option (K->Option V')}(h:Mo F f τ m t c M){k:K}(hf:MK.fit k){v:V'}(hM:zrX M k v=some M'){kv yv:V}(hk:kv=uV (MK.enc k))(hy:yv=uV (MV.enc v)) :
  ∃m',upM P kt m c kv yv=some m'/\St F f0 f m'/\Kp τ f m τ f m' [t]/\Mo F f τ m' t c M':=by
 cases M with
 | none=>cases hM
 | some g=>
  cases hM
  obtain⟨b,rfl,h2⟩:=h.mi;obtain⟨q1,q2,q3,q4⟩:=h.own b rfl;obtain⟨o,h3,h4⟩:=h2.up hK ⟨k,hf⟩ (MV.enc v) hk hy
  have hne:∀b',b' ≠ b->(m.set b o).g b'=m.g b':=fun b' hb'=>by rw[M.g_set,if_neg hb']
  refine⟨_,h3,s.chg (X:=fun b'=>b'=b) (fun b' hb'=>by subst hb'; exact⟨q1,q2⟩) (Nat.le_refl _) rfl fun b' _ hb'=>hne b' hb',⟨Nat.le_refl _,fun _ _=>rfl,fun b' _ hx=>hne b' fun he=>hx (by rw[he,q3]; exact List.mem_cons_self ..),fun _ _ _=>rfl,.refl f,rfl⟩,⟨b,rfl,?_⟩,fun b' hb'=>by cases hb'; exact⟨q1,q2,q3,q4⟩⟩
  have e:(fun b':{k:K // MK.fit k}=>@ite (Option U) (b'=⟨k,hf⟩) (propDecidable (b'=⟨k,hf⟩)) (some (MV.enc v)) ((g b'.1).map MV.enc))=fun k'=>Option.map MV.enc (if k'.1=k then some v else g k'.1):=by
   funext k'
   by_cases hkk:k'.1=k
   ·rw[if_pos (Subtype.ext hkk),if_pos hkk]; rfl
   ·rw[if_neg fun h=>hkk (congrArg Subtype.val h),if_neg hkk]
  exact e ▸ h4
theorem Mi.noFn{m:M}{c:C}{M:Option (K->Option V')}(h:Mi m c M):zpd c=true:=by
 cases M with
 | none=>have h:c=.map0:=h; subst h; rfl
 | some f=>obtain⟨b,rfl,_⟩:=h; rfl
structure zrY (c:C) (m m':M):Prop where
 nxt:m.nxt<=m'.nxt
 g:∀b,b < m.nxt->c ≠ .map b->m'.g b=m.g b
 vw:m'.vw=m.vw
structure Mc (f m:M) (c:C) (M:Option (K->Option V')):Prop where
 mi:Mi m c M
 own:∀b,c=.map b->f.g b=none/\f.vw b=none/\b < m.nxt
structure Mn (m f' m':M) (c:C) (M:Option (K->Option V')):Prop where
 mi:Mi m' c M
 own:∀b,c=.map b->f'.g b=none/\m.nxt<=b/\b < m'.nxt
def Fm.mp(m:M)(c:C):Fm:=⟨m,fun b=>c=.map b⟩
theorem Pre.stM{f m:M}(h:Pre f m){c:C}{M:Option (K->Option V')}(hc:Mc f m c M):St (Fm.mp m c) f f m:=h.stB _ fun b hb=>(hc.own b hb).2.1
theorem Mc.mo{f m:M}{c:C}{M:Option (K->Option V')}(hc:Mc f m c M)(t:Nat):Mo (Fm.mp m c) f (fun _=>t) m t c M:=⟨hc.mi,fun b hb=>⟨.inr hb,(hc.own b hb).1,rfl,(hc.own b hb).2.2⟩⟩
theorem St.extB{m0 f0 f m:M}{c:C}(h:St (Fm.mp m0 c) f0 f m):zrY c m0 m:=⟨h.ext.nxt,fun b hb hne=>h.ext.g b hb hne,h.ext.vw⟩
theorem Mo.mc{F:Fm}{f0 f m:M}(s:St F f0 f m){τ:Nat->Nat}{t:Nat}{c:C}{M:Option (K->Option V')}(h:Mo F f τ m t c M):Mc f m c M:=⟨h.mi,fun b hb=>⟨(h.own b hb).2.1,s.v0 b (h.own b hb).1,(h.own b hb).2.2.2⟩⟩
theorem St.callM{F:Fm}{f0 f m m':M}(s:St F f0 f m){τ:Nat->Nat}{t:Nat}{c:C}{M M':Option (K->Option V')}(h:Mo F f τ m t c M)(e:zrY c m m')(h':Mi m' c M'):St F f0 f m'/\Kp τ f m τ f m' [t]/\Mo F f τ m' t c M':=by
 refine⟨s.chg (X:=fun b=>c=.map b) (fun b hb=>⟨(h.own b hb).1,(h.own b hb).2.1⟩) e.nxt e.vw e.g,⟨e.nxt,fun _ _=>rfl,fun b hb hx=>e.g b hb fun hc=>hx (by rw[(h.own b hc).2.2.1]; exact List.mem_cons_self ..),fun _ _ _=>rfl,.refl f,e.vw⟩,h',fun b hb=>?_⟩;obtain⟨q1,q2,q3,q4⟩:=h.own b hb;exact⟨q1,q2,q3,Nat.lt_of_lt_of_le q4 e.nxt⟩
theorem St.callN{F:Fm}{f0 f m m' f':M}(s:St F f0 f m)(g:Grw m f m' f'){c:C}{M:Option (K->Option V')}(h:Mn m f' m' c M)(τ:Nat->Nat)(t:Nat):∃τ',St F f0 f' m'/\Kp τ f m τ' f' m' []/\Mo F f' τ' m' t c M:=by
 obtain⟨h1,h2⟩:=s.callG g τ;refine⟨fun b=>if m.nxt<=b then t else τ b,h1,⟨h2.nxt,fun b hb=>if_neg (by omega),h2.g,h2.fg,h2.fs,h2.vw⟩,h.mi,fun b hb=>?_⟩;obtain⟨q1,q2,q3⟩:=h.own b hb;exact⟨.inl (Nat.le_trans s.ext.nxt q2),q1,if_pos q2,q3⟩
theorem Mo.mn{m0 f m:M}{τ:Nat->Nat}{t:Nat}{c:C}{M:Option (K->Option V')}(h:Mo (Fm.of m0) f τ m t c M):Mn m0 f m c M:=⟨h.mi,fun b hb=>⟨(h.own b hb).2.1,(h.own b hb).1.elim id fun h=>h.elim,(h.own b hb).2.2.2⟩⟩
theorem zrZ{k:IntKind}{a b:Int}(ha:znj k a)(hb:znj k b):eqK (.int k) (.int k a) (.int k b)=some (decide (a=b)):=by
 cases k <;> (show ifB (Go.Abs.fits _ a) (ifB (Go.Abs.fits _ b) (some (zaT a b)) none) none=_; rw[zn3 ha,zn3 hb,zgd]; rfl)
theorem zr0{p q:Prop}[Decidable p][Decidable q][Decidable (p/\q)]:ifB (decide p) (decide q) false=decide (p/\q):=by
 by_cases hp:p <;> by_cases hq:q <;> simp[hp,hq,ifB]
theorem zr1:zby [] [] []=some (decide True):=by rw[decide_eq_true trivial]; rfl
theorem zr2{k:CK}{ks:List CK}{x y:C}{xs ys:List C}{p q:Prop}[Decidable p][Decidable q](h:eqK k x y=some (decide p))(h2:zby ks xs ys=some (decide q)):zby (k::ks) (x::xs) (y::ys)=some (decide (p/\q)):=by
 show zaa (eqK k x y) none (fun b=>zaa (zby ks xs ys) none fun r=>some (ifB b r false))=_
 rw[h,h2,zd6,zd6,zr0]
theorem zr3{kt n:Nat}{ks:List CK}(hpl:zbb P kt=some ks)(hag:za9 P kt=true){cs:K->List C}(henc:∀k,MK.enc k=.agg n (cs k))(h:∀a b:K,MK.fit a->MK.fit b->∃(p:Prop) (_:Decidable p),zby ks (cs a) (cs b)=some (decide p)/\(p↔a=b)):KL P kt K:=by
 refine⟨⟨_,hpl⟩,fun a b=>?_⟩;obtain⟨a,fa⟩:=a;obtain⟨b,fb⟩:=b;obtain⟨p,_,h1,h2⟩:=h a b fa fb
 have ea:uV (zrV K ⟨a,fa⟩)=.agg n (cs a):=by show uV (MK.enc a)=_; rw[henc]; rfl
 have eb:uV (zrV K ⟨b,fb⟩)=.agg n (cs b):=by show uV (MK.enc b)=_; rw[henc]; rfl
 rw[ea,eb];unfold eqV;rw[hpl,zd6]
 show zaa (ifB (za9 P kt) (some (cs a)) none) none (fun xs=>zaa (ifB (za9 P kt) (some (cs b)) none) none fun ys=>zby ks xs ys)=_
 rw[hag]
 show zby ks (cs a) (cs b)=_
 rw[h1];exact congrArg some (decide_eq_decide.2 ⟨fun h=>Subtype.ext (h2.1 h),fun h=>h2.2 (congrArg Subtype.val h)⟩)
def zr4{α β:Type}(o:Option α)(a:Option β)(f:α->Option β):Option β:=match o with | none=>a | some v=>f v
theorem zr5{α β:Type}{o:Option α}{a:Option β}{f:α->Option β}(h:o=none):zr4 o a f=a:=by rw[h]; rfl
theorem zr6{α β:Type}{o:Option α}{a:Option β}{f:α->Option β}{v:α}(h:o=some v):zr4 o a f=f v:=by rw[h]; rfl
end
end Go.Abs

namespace Go.Abs
set_option maxRecDepth 100000
noncomputable section
variable {P:Program} {T:List (Nat × Bool)}
class IV (α:Type) where
  encs:α->List V
instance {α:Type} [MV α]:IV α:=⟨fun a=>[uV (MV.enc a)]⟩
instance {α β:Type} [MV α] [MV β]:IV (α × β):=⟨fun a=>[uV (MV.enc a.1),uV (MV.enc a.2)]⟩
variable {α:Type} [IV α]
def It(P:Program)(T:List (Nat × Bool))(f:M)(x:C)(l:List α):Prop:=
 ∃g a b D R,x=.fn (.func g) a b/\zrr P T x (l.map IV.encs) D R/\(∀m,Sub f m->R m)/\∀b,D b->b < f.nxt/\(f.g b ≠ none\/f.vw b ≠ none)
theorem It.sub{f m:M}{x:C}{l:List α}(h:It P T f x l)(s:Sub f m):It P T m x l:=by
 obtain⟨g,a,b,D,R,h1,h2,h3,h4⟩:=h;refine⟨g,a,b,D,R,h1,h2,fun m' hs=>h3 m' (s.trans hs),fun b hb=>?_⟩;obtain⟨q1,q2⟩:=h4 b hb;exact⟨Nat.lt_of_lt_of_le q1 s.nxt,by rw[s.g b q1 q2,s.vw]; exact q2⟩
def zr7(x:C)(b:Nat):Prop:=∃o n s d,x=.sl b o n s d
structure Gud (n0 tR:Nat) (Z:Nat->Prop) (A:Fm->M->(Nat->Nat)->M->Prop):Prop where
 loc:∀G f τ m m',A G f τ m->m.nxt<=m'.nxt->m'.vw=m.vw->(∀b,b < n0\/Z b->m'.g b=m.g b)->A G f τ m'
 tg:∀G f τ τ' m,A G f τ m->(∀b,b < n0\/Z b->τ' b=τ b)->A G f τ' m
 fr:∀G G' f τ m,A G f τ m->(∀b,b < n0\/Z b->b < m.nxt->f.g b=none->τ b ≠ tR->(G.m.nxt<=b\/G.B b)->(G'.m.nxt<=b\/G'.B b))->A G' f τ m
 z:∀G f τ m,A G f τ m->∀b,Z b->b < m.nxt/\f.g b=none/\τ b ≠ tR/\(G.m.nxt<=b\/G.B b)
namespace Gud
variable {n0 tR:Nat} {Z Z':Nat->Prop} {A A':Fm->M->(Nat->Nat)->M->Prop}
theorem and(h:Gud n0 tR Z A)(h':Gud n0 tR Z' A'):Gud n0 tR (fun b=>Z b\/Z' b) (fun G f τ m=>A G f τ m/\A' G f τ m):=
  ⟨fun G f τ m m' q hn hv hg=>⟨h.loc G f τ m m' q.1 hn hv fun b hb=>hg b (hb.imp id .inl),h'.loc G f τ m m' q.2 hn hv fun b hb=>hg b (hb.imp id .inr)⟩,
   fun G f τ τ' m q hg=>⟨h.tg G f τ τ' m q.1 fun b hb=>hg b (hb.imp id .inl),h'.tg G f τ τ' m q.2 fun b hb=>hg b (hb.imp id .inr)⟩,
   fun G G' f τ m q hg=>⟨h.fr G G' f τ m q.1 fun b hb=>hg b (hb.imp id .inl),h'.fr G G' f τ m q.2 fun b hb=>hg b (hb.imp id .inr)⟩,
   fun G f τ m q b hb=>hb.elim (h.z G f τ m q.1 b) (h'.z G f τ m q.2 b)⟩
theorem lb{t b n:Nat}{vs:List C}(hb:b < n0)(ht:t ≠ tR):Gud n0 tR (fun _=>False) (fun G f τ m=>Lb G f τ m t b n vs):=
  ⟨fun G f τ m m' q hn hv hg=>⟨⟨(hg b (.inl hb)).trans q.bk.g,Nat.lt_of_lt_of_le q.bk.lt hn⟩,q.new,q.nf,q.tg⟩,
   fun G f τ τ' m q hg=>⟨q.bk,q.new,q.nf,(hg b (.inl hb)).trans q.tg⟩,
   fun G G' f τ m q hg=>⟨q.bk,hg b (.inl hb) q.bk.lt q.nf (by rw[q.tg]; exact ht) q.new,q.nf,q.tg⟩,
   fun _ _ _ _ _ _ h=>h.elim⟩
theorem ow{β:Type}[Rp β]{t:Nat}{x:C}{l:List β}(ht:t ≠ tR):Gud n0 tR (zr7 x) (fun G f τ m=>Ow G f τ m t x l):=
  ⟨fun G f τ m m' q hn hv hg=>by
    obtain⟨vs,h1,h2⟩:=q.own
    exact⟨⟨vs,h1.to hn fun b hb he=>by obtain⟨s,d,he⟩:=he; exact hg b (.inr ⟨_,_,s,d,he⟩),h2⟩,q.nw⟩,
   fun G f τ τ' m q hg=>⟨q.own,fun b o n s d he=>by
    obtain⟨q1,q2,q3⟩:=q.nw b o n s d he
    exact⟨q1,q2,(hg b (.inr ⟨_,_,_,_,he⟩)).trans q3⟩⟩,
   fun G G' f τ m q hg=>⟨q.own,fun b o n s d he=>by
    obtain⟨q1,q2,q3⟩:=q.nw b o n s d he
    exact⟨hg b (.inr ⟨_,_,_,_,he⟩) (q.lt he) q2 (by rw[q3]; exact ht) q1,q2,q3⟩⟩,
   fun G f τ m q b hb=>by
    obtain⟨o,n,s,d,he⟩:=hb;obtain⟨q1,q2,q3⟩:=q.nw b o n s d he
    exact⟨q.lt he,q2,by rw[q3]; exact ht,q1⟩⟩
theorem mo{K V':Type}[MK K][MV V']{t:Nat}{c:C}{M:Option (K->Option V')}(hb:∀b,c=.map b->b < n0)(ht:t ≠ tR):Gud n0 tR (fun _=>False) (fun G f τ m=>Mo G f τ m t c M):=
  ⟨fun G f τ m m' q hn hv hg=>⟨q.mi.to hn fun b hc=>hg b (.inl (hb b hc)),fun b hc=>by
    obtain⟨q1,q2,q3,q4⟩:=q.own b hc
    exact⟨q1,q2,q3,Nat.lt_of_lt_of_le q4 hn⟩⟩,
   fun G f τ τ' m q hg=>⟨q.mi,fun b hc=>by
    obtain⟨q1,q2,q3,q4⟩:=q.own b hc
    exact⟨q1,q2,(hg b (.inl (hb b hc))).trans q3,q4⟩⟩,
   fun G G' f τ m q hg=>⟨q.mi,fun b hc=>by
    obtain⟨q1,q2,q3,q4⟩:=q.own b hc
    exact⟨hg b (.inl (hb b hc)) q4 q2 (by rw[q3]; exact ht) q1,q2,q3,q4⟩⟩,
   fun _ _ _ _ _ _ h=>h.elim⟩
end Gud
theorem Mo.lt{K V':Type}[MK K][MV V']{F:Fm}{f m:M}{τ:Nat->Nat}{t:Nat}{c:C}{M:Option (K->Option V')}(h:Mo F f τ m t c M):∀b,c=.map b->b < m.nxt:=fun b hb=>(h.own b hb).2.2.2
structure Rk (F:Fm) (f:M) (τ:Nat->Nat) (m:M) (t b:Nat) (o:Option AO):Prop where
 g:m.g b=o
 new:F.m.nxt<=b\/F.B b
 nf:f.g b=none
 tg:τ b=t
 lt:b < m.nxt
theorem Rk.k{F:Fm}{f f' m m':M}{τ τ':Nat->Nat}{t b:Nat}{o:Option AO}{X:List Nat}(h:Rk F f τ m t b o)(k:Kp τ f m τ' f' m' X)(hx:t ∉ X:=by decide):Rk F f' τ' m' t b o:=by
 have hx:τ b ∉ X:=by rw[h.tg]; exact hx
 exact⟨(k.g b h.lt hx).trans h.g,h.new,(k.fg b h.lt hx).trans h.nf,(k.tg b h.lt).trans h.tg,Nat.lt_of_lt_of_le h.lt k.nxt⟩
theorem zr8{F:Fm}{f0 f m:M}(s:St F f0 f m){x:C}{l:List α}(hi:It P T f x l){round:zpS}{after:zpM}{σ:Type}(tR:Nat)(Z:σ->Nat->Prop)(A:σ->Fm->M->(Nat->Nat)->M->Prop)
  (nx:List α->σ->Prop) (ne:Ex->σ->Prop) (hG:∀st,Gud m.nxt tR (Z st) (A st)) {st0:σ} {τ:Nat->Nat} (h0:A st0 F f τ m) (hn0:nx l st0)
  (hround:∀ (a:α) (rest:List α) (st:σ) (f1:M) (τ1:Nat->Nat) (m1:M) (F1:Fm) (o1:Option AO) (Ok:Option AO->Prop) (enter:M->(M->Prop)->Prop) (K:Ex->M->Prop),
   St F1 f1 f1 m1->Sub f f1->A st F1 f1 τ1 m1->Rk F1 f1 τ1 m1 tR m.nxt o1->nx (a::rest) st ->
   (∀fx τx mx k,St F1 f1 fx mx->Rk F1 fx τx mx tR m.nxt o1->(∀m3 o3,St F1 f1 fx m3->Kp τx fx mx τx fx m3 [tR]->Rk F1 fx τx m3 tR m.nxt o3->Ok o3->k m3)->enter mx k) ->
   (∀ex st' fx τx mx o3,St F1 f1 fx mx->A st' F1 fx τx mx->Rk F1 fx τx mx tR m.nxt o3->Ok o3->(match ex with | .nrm=>nx rest st' | .val _=>False | ex=>ne ex st')->K ex mx) ->
   round (IV.encs a) m1 enter K)
  (hnrm:∀st f1 τ1 m1,St F f0 f1 m1->Sub f f1->A st F f1 τ1 m1->nx [] st->after.nrm m1)
  (hexit:∀id st f1 τ1 m1,St F f0 f1 m1->Sub f f1->A st F f1 τ1 m1->ne (.exit id) st->zpN id m1 after.exits)
  (hret:∀st f1 τ1 m1,St F f0 f1 m1->Sub f f1->A st F f1 τ1 m1->ne .ret st->after.ret m1):zpW P T x m round after:=by
 obtain⟨g,a,b,D,R,rfl,hit,hR,hD⟩:=hi
 let own:Nat->Prop:=fun b=>f.g b=none/\(F.m.nxt<=b\/F.B b)
 let Inv:(σ->Prop)->(Nat->Prop)->M->Prop:=fun q S m1=>∃st f1 τ1,St F f0 f1 m1/\Sub f f1/\A st F f1 τ1 m1/\q st/\f1.g m.nxt=none/\(∀b,Z st b->b ≠ m.nxt)/\m.nxt<=m1.nxt/\∀b,S b↔(b < m.nxt/\own b)\/(m.nxt < b/\(Z st b\/f1.g b ≠ none))
 have hvw:∀{f1:M},Sub f f1->∀b,m.nxt<=b->f1.vw b=none:=fun hs b hb=>by rw[hs.vw]; exact s.fv b (Nat.le_trans s.sub.nxt hb)
 have hown:∀{f1:M} {b:Nat},Sub f f1->f1.g b=none->(F.m.nxt<=b\/F.B b)->own b:=fun {f1 b} hs hg hn=>by
  refine⟨?_,hn⟩
  cases hfb:f.g b with
  | none=>rfl
  | some o=>
   have hb:b < f.nxt:=by
    rcases Nat.lt_or_ge b f.nxt with h | h
    ·exact h
    ·rw[s.fz b h] at hfb; cases hfb
   have:=hs.g b hb (.inl (by rw[hfb]; exact Option.some_ne_none _))
   rw[hg,hfb] at this; cases this
 have hfl:∀{f1 m1:M} {b:Nat},St F f0 f1 m1->f1.g b ≠ none->b < m1.nxt:=fun {f1 m1 b} h1 hb=>by
  rcases Nat.lt_or_ge b f1.nxt with h | h
  ·exact Nat.lt_of_lt_of_le h h1.sub.nxt
  ·exact absurd (h1.fz b h) hb
 have hFn:F.m.nxt<=m.nxt:=s.ext.nxt
 have hlocal:∀q,zrp m.nxt (Inv q):=fun q=>by
  refine⟨fun S m1 m2 ⟨st,f1,τ1,h1,h2,h3,h4,h5,h6,h8,h7⟩ hn hv hs hlow=>?_,fun S m1 ⟨st,f1,τ1,h1,h2,h3,h4,h5,h6,h8,h7⟩ b hb=>?_⟩
  ·refine⟨st,f1,τ1,⟨⟨Nat.le_trans h1.ext.nxt hn,fun b hb hB=>?_,hv.trans h1.ext.vw⟩,⟨Nat.le_trans h1.sub.nxt hn,hv.trans h1.sub.vw,fun b hb hd=>?_⟩,h1.fz,h1.fv,h1.v0,h1.fs,h1.old⟩,h2,(hG st).loc _ _ _ _ _ h3 hn hv fun b hb=>?_,h4,h5,h6,Nat.le_trans h8 hn,h7⟩
   ·rw[hlow b (Nat.lt_of_lt_of_le hb hFn)]; exact h1.ext.g b hb hB
   ·rcases Nat.lt_or_ge b m.nxt with hbm | hbm
    ·rw[hlow b hbm]; exact h1.sub.g b hb hd
    ·have hd':=hd.elim id fun h=>absurd (hvw h2 b hbm) h;have hne:b ≠ m.nxt:=fun h=>hd' (by rw[h]; exact h5);rw[hs b ((h7 b).2 (.inr ⟨by omega,.inr hd'⟩))]; exact h1.sub.g b hb hd
   ·rcases hb with hb | hb
    ·exact hlow b hb
    ·rcases Nat.lt_or_ge b m.nxt with hbm | hbm
     ·exact hlow b hbm
     ·have hne:=h6 b hb;exact hs b ((h7 b).2 (.inr ⟨by omega,.inl hb⟩))
  ·rcases (h7 b).1 hb with ⟨hb,_⟩ | ⟨_,hb⟩
   ·exact Nat.lt_of_lt_of_le hb h8
   ·rcases hb with hb | hb
    ·exact((hG st).z _ _ _ _ h3 b hb).1
    ·exact hfl h1 hb
 have hz0:∀b,Z st0 b->b < m.nxt:=fun b hb=>((hG st0).z _ _ _ _ h0 b hb).1;have hf0:f.g m.nxt=none:=s.fz _ s.sub.nxt
 refine zrs hit (hR m s.sub) (J:=fun i=>Inv (nx (l.drop i))) (X:=fun ex=>Inv (match ex with | .val _=>fun _=>False | ex=>ne ex)) (fun i=>hlocal _) (fun ex=>hlocal _) (S0:=fun b=>b < m.nxt/\own b)
  ⟨st0,f,τ,s,.refl f,h0,hn0,hf0,fun b hb=>Nat.ne_of_lt (hz0 b hb),Nat.le_refl _,fun b=>⟨.inl,fun h=>h.elim id fun⟨h1,h2⟩=>(h2.elim (fun h2=>absurd (hz0 b h2) (by omega)) fun h2=>absurd (hfl s h2) (by omega))⟩⟩
  (fun b ⟨hb,ho⟩ hDb=>?_) ?_ ?_ ?_ ?_
 ·obtain⟨q1,q2⟩:=hD b hDb;exact q2.elim (fun h=>h ho.1) fun h=>h (s.v0 b ho.2)
 ·intro i xv S m1 Bm enter K hxv ⟨st,f1,τ1,h1,h2,h3,h4,h5,h6,h8,h7⟩ hlt hSl hwn henter hK;rw[List.getElem?_map] at hxv
  cases hli:l[i]? with
  | none=>rw[hli] at hxv; cases hxv
  | some av=>
  rw[hli] at hxv
  cases hxv
  have hil:=(List.getElem?_eq_some_iff.1 hli).1
  have hdrop:l.drop i=av::l.drop (i+1):=by
   rw[List.drop_eq_getElem_cons hil]
   congr 1
   rw[List.getElem?_eq_getElem hil] at hli;exact oi hli
  rw[hdrop] at h4
  have hF1:∀b,(b < m.nxt\/Z st b)->b < m1.nxt->f1.g b=none->(F.m.nxt<=b\/F.B b)->S b:=fun b hb hbl hg hn=>by
   rcases Nat.lt_or_ge b m.nxt with hbm | hbm
   ·exact(h7 b).2 (.inl ⟨hbm,hown h2 hg hn⟩)
   ·rcases hb with hb | hb
    ·omega
    ·have:=h6 b hb;exact(h7 b).2 (.inr ⟨by omega,.inl hb⟩)
  have hSnew:∀b,S b->F.m.nxt<=b\/F.B b:=fun b hb=>by
   rcases (h7 b).1 hb with ⟨_,hb⟩ | ⟨hb,_⟩
   ·exact hb.2
   ·exact .inl (by omega)
  have hback:∀b,(m1.nxt<=b\/(S b\/b=m.nxt))->F.m.nxt<=b\/F.B b:=fun b hb=>by
   rcases hb with hb | hb | hb
   ·exact .inl (by omega)
   ·exact hSnew b hb
   ·exact .inl (by omega)
  have hnoS:∀b,b < F.m.nxt->¬ F.B b->¬ (S b\/b=m.nxt):=fun b hb hB h=>by
   rcases hback b (.inr h) with h9 | h9
   ·omega
   ·exact hB h9
  have hS1:St ⟨m1,fun b=>S b\/b=m.nxt⟩ f1 f1 m1:=⟨⟨Nat.le_refl _,fun _ _ _=>rfl,rfl⟩,h1.sub,h1.fz,h1.fv,fun b hb=>h1.v0 b (hback b hb),.refl f1,fun _ _ _=>rfl⟩;have htag:∀b,b < m.nxt\/Z st b->zry τ1 m.nxt tR b=τ1 b:=fun b hb=>if_neg (hb.elim (fun h=>by omega) (h6 b));have hA1:=(hG st).fr F ⟨m1,fun b=>S b\/b=m.nxt⟩ f1 _ m1 ((hG st).tg _ _ _ _ _ h3 htag) fun b hb hbl hg _ hn=>.inr (.inl (hF1 b hb hbl hg hn));refine hround av (l.drop (i+1)) st f1 _ m1 ⟨m1,fun b=>S b\/b=m.nxt⟩ (m1.g m.nxt) (fun o=>∀m4:M,m4.g m.nxt=o->Bm m4) enter K hS1 h2 hA1 ⟨rfl,.inr (.inr rfl),h5,if_pos rfl,hlt⟩ h4 (fun fx τx mx k hS hRk hk=>?_) fun ex st' fx τx mx o3 hS hA hRk hOk hne=>?_
  ·refine henter mx k hRk.g fun m3 hn hv hg hB=>?_
   exact hk m3 (m3.g m.nxt) (hS.chg (X:=fun b=>b=m.nxt) (fun b hb=>by subst hb; exact⟨.inr (.inr rfl),hRk.nf⟩) (by rw[hn]; exact Nat.le_refl _) hv fun b _ hne=>hg b hne)
    ⟨by rw[hn]; exact Nat.le_refl _,fun _ _=>rfl,fun b _ hx=>hg b fun he=>hx (by rw[he,hRk.tg]; exact List.mem_cons_self ..),fun _ _ _=>rfl,.refl fx,hv⟩
    ⟨rfl,hRk.new,hRk.nf,hRk.tg,by rw[hn]; exact hRk.lt⟩ hB
  ·have hext:∀b,b < m1.nxt->¬ S b->b ≠ m.nxt->mx.g b=m1.g b:=fun b hb hSb hbn=>hS.ext.g b hb fun h=>h.elim hSb hbn
   have hlow:∀b,b < F.m.nxt->¬ F.B b->b < m1.nxt/\¬ S b/\b ≠ m.nxt:=fun b hb hB=>by
    have h9:=hnoS b hb hB;exact⟨by omega,fun h=>h9 (.inl h),fun h=>h9 (.inr h)⟩
   have hzx:=(hG st').z _ _ _ _ hA
   have hfx:∀b,fx.g b ≠ none->b < m1.nxt->f1.g b ≠ none\/(S b\/b=m.nxt):=fun b hg hb=>by
    by_cases hB:S b\/b=m.nxt
    ·exact .inr hB
    ·rw[hS.old b hb hB] at hg; exact .inl hg
   have hflx:∀b,fx.g b ≠ none->b < mx.nxt:=fun b hb=>by
    rcases Nat.lt_or_ge b fx.nxt with h | h
    ·exact Nat.lt_of_lt_of_le h hS.sub.nxt
    ·exact absurd (hS.fz b h) hb
   have hSt:St F f0 fx mx:=⟨⟨Nat.le_trans h1.ext.nxt hS.ext.nxt,fun b hb hB=>by
     obtain⟨q1,q2,q3⟩:=hlow b hb hB
     rw[hext b q1 q2 q3]; exact h1.ext.g b hb hB,hS.ext.vw.trans h1.ext.vw⟩,hS.sub,hS.fz,hS.fv,fun b hb=>by rw[hS.fs.vw]; exact h1.v0 b hb,h1.fs.trans hS.fs,fun b hb hB=>by
     obtain⟨q1,q2,q3⟩:=hlow b hb hB
     rw[hS.old b q1 fun h=>h.elim q2 q3]; exact h1.old b hb hB⟩
   have hInv:∀q:σ->Prop,q st'->Inv q (fun b=>(b < m.nxt/\own b)\/(m.nxt < b/\(Z st' b\/fx.g b ≠ none))) mx:=fun q hq=>
    ⟨st',fx,τx,hSt,h2.trans hS.fs,(hG st').fr _ _ _ _ _ hA fun b _ _ _ _ hn=>hback b hn,hq,hRk.nf,fun b hb he=>by
     have:=(hzx b hb).2.2.1
     rw[he,hRk.tg] at this; exact this rfl,Nat.le_trans h8 hS.ext.nxt,fun b=>Iff.rfl⟩
   refine hK ex (S':=fun b=>(b < m.nxt/\own b)\/(m.nxt < b/\(Z st' b\/fx.g b ≠ none))) mx (hOk mx hRk.g) hS.ext.nxt hS.ext.vw hext (fun b hb=>?_) ?_
   ·rcases hb with hb | ⟨hb,hb2⟩
    ·exact .inl ((h7 b).2 (.inl hb))
    ·rcases hb2 with hb2 | hb2
     ·rcases (hzx b hb2).2.2.2 with h9 | h9 | h9
      ·exact .inr h9
      ·exact .inl h9
      ·omega
     ·rcases Nat.lt_or_ge b m1.nxt with h9 | h9
      ·rcases hfx b hb2 h9 with h10 | h10 | h10
       ·exact .inl ((h7 b).2 (.inr ⟨hb,.inr h10⟩))
       ·exact .inl h10
       ·omega
      ·exact .inr h9
   ·cases ex with
    | nrm=>exact hInv _ hne
    | exit id=>exact hInv _ hne
    | ret=>exact hInv _ hne
    | val v=>exact hne
 ·intro S' m5 _ _ _ _ ⟨st,f1,τ1,h1,h2,h3,h4,_⟩;rw[List.length_map,List.drop_length] at h4;exact hnrm st f1 τ1 m5 h1 h2 h3 h4
 ·intro id S' m5 _ _ _ _ ⟨st,f1,τ1,h1,h2,h3,h4,_⟩;exact hexit id st f1 τ1 m5 h1 h2 h3 h4
 ·intro S' m5 _ _ _ _ ⟨st,f1,τ1,h1,h2,h3,h4,_⟩;exact hret st f1 τ1 m5 h1 h2 h3 h4
end
end Go.Abs

namespace Go.Abs
set_option maxRecDepth 100000
noncomputable section
variable {P:Program} {T:List (Nat × Bool)} {α:Type} [IV α]
def YJ(xs:List (List V))(I:Nat->(Nat->Prop)->M->Prop)(rest:List α):(Nat->Prop)->M->Prop:=fun S m=>∃i,i<=xs.length/\I i S m/\xs.drop i=rest.map IV.encs
structure Yg (n0:Nat) (J:(Nat->Prop)->M->Prop) (S:Nat->Prop) (F:Fm) (f:M) (τ:Nat->Nat) (m:M):Prop where
 j:J S m
 loc:zrp n0 J
 own:∀b,S b->τ b=0/\(F.m.nxt<=b\/F.B b)/\f.g b=none
 low:∀b,b < n0->τ b=0
 n:n0<=m.nxt
theorem Yg.k{n0:Nat}{J:(Nat->Prop)->M->Prop}{S:Nat->Prop}{F:Fm}{f f' m m':M}{τ τ':Nat->Nat}{X:List Nat}(h:Yg n0 J S F f τ m)(k:Kp τ f m τ' f' m' X)(hx:0 ∉ X:=by decide):Yg n0 J S F f' τ' m':=by
 have hlt:=h.loc.lt S m h.j
 have hS:∀b,S b->τ b ∉ X:=fun b hb=>by rw[(h.own b hb).1]; exact hx
 refine⟨h.loc.st S m m' h.j k.nxt k.vw (fun b hb=>k.g b (hlt b hb) (hS b hb)) fun b hb=>k.g b (Nat.lt_of_lt_of_le hb h.n) (by rw[h.low b hb]; exact hx),h.loc,fun b hb=>?_,fun b hb=>(k.tg b (Nat.lt_of_lt_of_le hb h.n)).trans (h.low b hb),Nat.le_trans h.n k.nxt⟩;obtain⟨q1,q2,q3⟩:=h.own b hb;exact⟨(k.tg b (hlt b hb)).trans q1,q2,(k.fg b (hlt b hb) (hS b hb)).trans q3⟩
theorem YJ.local{n0 ly:Nat}{xs:List (List V)}{I:Nat->(Nat->Prop)->M->Prop}{E:(Nat->Prop)->M->Prop}(hc:zrq P T n0 ly xs I E)(rest:List α):zrp n0 (YJ xs I rest):=
 ⟨fun S m m' ⟨i,h1,h2,h3⟩ hn hv hs hl=>⟨i,h1,(hc.li i).st S m m' h2 hn hv hs hl,h3⟩,fun S m ⟨i,_,h2,_⟩=>(hc.li i).lt S m h2⟩
theorem Yg.yield{n0 ly:Nat}{xs:List (List V)}{I:Nat->(Nat->Prop)->M->Prop}{E:(Nat->Prop)->M->Prop}(hc:zrq P T n0 ly xs I E){S:Nat->Prop}{F:Fm}{f0 f m:M}{τ:Nat->Nat}(s:St F f0 f m){a:α}{r:List α}(h:Yg n0 (YJ xs I (a::r)) S F f τ m){Q:V->M->Prop}
  (hT:∀m' τ' S',St F f0 f m'->Kp τ f m τ' f m' [0]->Yg n0 (YJ xs I r) S' F f τ' m'->Q (.c (.bool true)) m')
  (hF:∀m' τ' S',St F f0 f m'->Kp τ f m τ' f m' [0]->Yg n0 E S' F f τ' m'->Q (.c (.bool false)) m'):Wy P T ly (IV.encs a) m Q:=by
 obtain⟨i,hi,hI,hd⟩:=h.j
 have hx:xs[i]? = some (IV.encs a):=by
  have:=congrArg (fun l=>l[0]?) hd
  simpa using this
 have hlt:=h.loc.lt S m h.j;have hil:=(List.getElem?_eq_some_iff.1 hx).1
 have hdr:xs.drop (i+1)=r.map IV.encs:=by
  rw[<- List.drop_drop,hd]; rfl
 have hst:∀{S':Nat->Prop} {m':M},Chg S m m'->St F f0 f m':=fun hch=>s.chg (X:=S) (fun b hb=>(h.own b hb).2) hch.nxt hch.vw hch.g
 have hkp:∀{m':M},Chg S m m'->Kp τ f m (fun b=>if b < m.nxt then τ b else 0) f m' [0]:=fun hch=>
  ⟨hch.nxt,fun b hb=>if_pos hb,fun b hb hx=>hch.g b hb fun hSb=>hx (by rw[(h.own b hSb).1]; exact List.mem_cons_self ..),fun _ _ _=>rfl,.refl f,hch.vw⟩
 have hyg:∀{J:(Nat->Prop)->M->Prop} {S':Nat->Prop} {m':M},zrp n0 J->J S' m'->Own S m S'->Chg S m m'->Yg n0 J S' F f (fun b=>if b < m.nxt then τ b else 0) m':=fun {J S' m'} hl hj ho hch=>by
  refine⟨hj,hl,fun b hb=>?_,fun b hb=>?_,Nat.le_trans h.n hch.nxt⟩
  ·rcases ho b hb with h1 | h1
   ·obtain⟨q1,q2,q3⟩:=h.own b h1;exact⟨(if_pos (hlt b h1)).trans q1,q2,q3⟩
   ·exact⟨if_neg (by omega),.inl (Nat.le_trans s.ext.nxt h1),s.fz b (Nat.le_trans s.sub.nxt h1)⟩
  ·have:=h.n;exact(if_pos (by omega)).trans (h.low b hb)
 exact hc.yield i _ S m hx hI Q (fun S' m' ho hch hI'=>hT m' _ S' (hst (S':=S') hch) (hkp hch) (hyg (YJ.local hc r) ⟨i+1,hil,hI',hdr⟩ ho hch)) fun S' m' ho hch hE=>hF m' _ S' (hst (S':=S') hch) (hkp hch) (hyg hc.le hE ho hch)
theorem ifd{α:Type}{p:Prop}{i1 i2:Decidable p}{A B:Prop}{a b:Option α}{r:α}(hp:(@ite _ p i1 a b)=some r)(hA:p->a=some r->A)(hB:¬ p->b=some r->B):ifB (@decide p i2) A B:=by
 by_cases h:p
 ·rw[if_pos h] at hp;rw[show @decide p i2=true from decide_eq_true h]; exact hA h hp
 ·rw[if_neg h] at hp;rw[show @decide p i2=false from decide_eq_false h]; exact hB h hp
theorem zr9{α:Type}{p:Prop}{i1 i2:Decidable p}{A B:Prop}{a b:Option α}{r:α}(hp:(@ite _ p i1 b a)=some r)(hA:¬ p->a=some r->A)(hB:p->b=some r->B):ifB (!@decide p i2) A B:=by
 by_cases h:p
 ·rw[if_pos h] at hp;rw[show @decide p i2=true from decide_eq_true h]; exact hB h hp
 ·rw[if_neg h] at hp;rw[show @decide p i2=false from decide_eq_false h]; exact hA h hp
theorem zsa{α:Type}{x:Bool}{A B:Prop}{a b:Option α}{r:α}(hp:(if x=true then a else b)=some r)(hA:x=true->a=some r->A)(hB:x=false->b=some r->B):ifB x A B:=by
 cases x
 ·exact hB rfl hp
 ·exact hA rfl hp
theorem zsb{α:Type}{x:Bool}{A B:Prop}{a b:Option α}{r:α}(hp:(if x=true then b else a)=some r)(hA:x=false->a=some r->A)(hB:x=true->b=some r->B):ifB (!x) A B:=by
 cases x
 ·exact hA rfl hp
 ·exact hB rfl hp
theorem zsc{p:Prop}{i:Decidable p}{A B:Prop}(q:p)(h:A):ifB (@decide p i) A B:=by rw[show @decide p i=true from decide_eq_true q]; exact h
theorem zsd{p:Prop}{i:Decidable p}{A B:Prop}(q:¬ p)(h:B):ifB (@decide p i) A B:=by rw[show @decide p i=false from decide_eq_false q]; exact h
theorem zse{p:Prop}{i:Decidable p}{A B:Prop}(q:p)(h:B):ifB (!@decide p i) A B:=by rw[show @decide p i=true from decide_eq_true q]; exact h
theorem zsf{p:Prop}{i:Decidable p}{A B:Prop}(q:¬ p)(h:A):ifB (!@decide p i) A B:=by rw[show @decide p i=false from decide_eq_false q]; exact h
theorem zsg{A B:Prop}(h:B):ifB false A B:=h
theorem zsh{A B:Prop}(h:A):ifB true A B:=h
theorem zsi{g:FuncId}{b:List W}{f:M}(hfz:∀b,f.nxt<=b->f.g b=none)(hfv:∀b,f.nxt<=b->f.vw b=none){l:List α}
  (hcode:∀ n0 ly I E,zrq P T n0 ly (l.map IV.encs) I E->∀ (m1:M) (F1:Fm) (S:Nat->Prop) (τ:Nat->Nat),St F1 f f m1->Yg n0 (YJ (l.map IV.encs) I l) S F1 f τ m1->∀ Q:V->M->Prop,
   (∀v m' f' τ' S',St F1 f f' m'->(Yg n0 (YJ (l.map IV.encs) I ([]:List α)) S' F1 f' τ' m'\/Yg n0 E S' F1 f' τ' m')->Q v m')->Wc P T g (appS [.c (.fn (.yield ly) [] [])] (zbZ wV b)) m1 Q):It P T f (.fn (.func g) [] b) l:=by
 refine⟨g,[],b,fun b=>b < f.nxt/\(f.g b ≠ none\/f.vw b ≠ none),fun m=>Sub f m,rfl,⟨fun m m' hs hn hv hd=>⟨Nat.le_trans hs.nxt hn,hv.trans hs.vw,fun b hb hx=>(hd b ⟨hb,hx⟩).trans (hs.g b hb hx)⟩,fun m hs b hb=>Nat.lt_of_lt_of_le hb.1 hs.nxt,fun n0 ly I E hc S m hn hI hR hSD Q hQ=>?_⟩,fun m h=>h,fun b h=>h⟩
 have hSf:∀b,S b->f.g b=none/\f.vw b=none:=fun b hb=>by
  rcases Nat.lt_or_ge b f.nxt with h | h
  ·have h9:=hSD b hb
   constructor
   ·cases hg:f.g b with
    | none=>rfl
    | some o=>exact absurd ⟨h,.inl (by rw[hg]; exact Option.some_ne_none _)⟩ h9
   ·cases hg:f.vw b with
    | none=>rfl
    | some o=>exact absurd ⟨h,.inr (by rw[hg]; exact Option.some_ne_none _)⟩ h9
  ·exact⟨hfz b h,hfv b h⟩
 have hst:St ⟨m,S⟩ f f m:=⟨⟨Nat.le_refl _,fun _ _ _=>rfl,rfl⟩,hR,hfz,hfv,fun b hb=>hb.elim (fun h=>hfv b (Nat.le_trans hR.nxt h)) fun h=>(hSf b h).2,.refl f,fun _ _ _=>rfl⟩;have hyg:Yg n0 (YJ (l.map IV.encs) I l) S ⟨m,S⟩ f (fun _=>0) m:=⟨⟨0,Nat.zero_le _,hI,by rw[List.drop_zero]⟩,YJ.local hc l,fun b hb=>⟨rfl,.inr hb,(hSf b hb).1⟩,fun _ _=>rfl,hn⟩;refine hcode n0 ly I E hc m ⟨m,S⟩ S _ hst hyg Q fun v m' f' τ' S' hs hy=>?_;refine hQ v S' m' (fun b hb=>?_) ⟨hs.ext.nxt,hs.ext.g,hs.ext.vw⟩ ?_
 ·have hnew:m.nxt<=b\/S b:=hy.elim (fun h=>(h.own b hb).2.1) fun h=>(h.own b hb).2.1;exact hnew.elim .inr .inl
 ·rcases hy with h | h
  ·obtain⟨i,h1,h2,h3⟩:=h.j
   have:i=(l.map (IV.encs (α:=α))).length:=by
    have:=congrArg List.length h3;rw[List.length_drop] at this
    simp only[List.length_map,List.map_nil,List.length_nil] at this h1 ⊢
    omega
   rw[this] at h2; exact .inl h2
  ·exact .inr h.j
end
end Go.Abs

namespace Go.Abs
set_option maxRecDepth 100000
noncomputable section
variable {P:Program} {T:List (Nat × Bool)}
section
variable {K V':Type} [MK K] [MV V']
theorem Mi.subv{f m:M}{c:C}{M:Option (K->Option V')}(h:Mi f c M)(s:zrt f m):Mi m c M:=by
 cases M with
 | none=>exact h
 | some g=>
  obtain⟨b,h1,h2⟩:=h;refine⟨b,h1,h2.to s.nxt (s.g b h2.lt (.inl ?_))⟩;obtain⟨es,cl,h3,_⟩:=h2.ex;rw[h3]; exact Option.some_ne_none _
theorem Mi.sub{f m:M}{c:C}{M:Option (K->Option V')}(h:Mi f c M)(s:Sub f m):Mi m c M:=h.subv s.v
end
instance:MK Int:=⟨fun a=>.c (.int .i64 a),fun a=>znj .i64 a⟩
end
end Go.Abs

namespace Go.Abs
set_option maxRecDepth 100000
noncomputable section
section
variable {P:Program} {T:List (Nat × Bool)}
structure zsj (P:Program) (T:List (Nat × Bool)) (n0 l:Nat) (Vs:Nat->List V->(Nat->Prop)->M->Prop) (I:Nat->(Nat->Prop)->M->Prop) (E:(Nat->Prop)->M->Prop):Prop where
 li:∀i,zrp n0 (I i)
 le:zrp n0 E
 yield:∀i x S m,Vs i x S m->I i S m->∀Q:V->M->Prop,(∀S' m',Own S m S'->Chg S m m'->I (i+1) S' m'->Q (.c (.bool true)) m')->(∀S' m',Own S m S'->Chg S m m'->E S' m'->Q (.c (.bool false)) m')->Wy P T l x m Q
structure zsk (P:Program) (T:List (Nat × Bool)) (x:C) (len:Nat) (Vs:Nat->Nat->List V->(Nat->Prop)->M->Prop) (D:Nat->Prop) (R:M->Prop):Prop where
 st:∀m m',R m->m.nxt<=m'.nxt->m'.vw=m.vw->(∀b,D b->m'.g b=m.g b)->R m'
 lt:∀m,R m->∀b,D b->b < m.nxt
 run:∀n0 l I E S m,zsj P T n0 l (Vs m.nxt) I E->n0<=m.nxt->I 0 S m->R m->(∀b,S b->¬ D b)->∀Q:V->M->Prop,(∀v S' m',Own S m S'->Chg S m m'->I len S' m'\/E S' m'->Q v m')->znJ P T [.c (.fn (.yield l) [] [])] x m Q
end
end
end Go.Abs

namespace Go.Abs
set_option maxRecDepth 100000
noncomputable section
class Flat (α:Type) [Rp α]:Prop where
  fl:∀(f f':M) (cs:List C) (a:α),Rp.rep f cs a->Rp.rep f' cs a
instance:Flat Int:=⟨fun _ _ _ _ h=>h⟩
instance:Flat Bool:=⟨fun _ _ _ _ h=>h⟩
theorem Cat.flat{α:Type}[Rp α][Flat α]{f f':M}:∀{l:List α} {vs:List C},Cat f vs l->Cat f' vs l
 | [],_,h=>h
 | _::_,_,⟨c,r,h1,h2,h3⟩=>⟨c,r,h1,Flat.fl f f' _ _ h2,Cat.flat h3⟩
def SlX{α:Type}[Rp α](m:M)(X:Nat->Prop)(c:C)(l:List α):Prop:=Sl m c l/\∀b o n s d,c=.sl b o n s d->X b
theorem SlX.mv{α:Type}[Rp α][Flat α]{m f:M}{X:Nat->Prop}{c:C}{l:List α}(h:SlX m X c l)(hn:m.nxt<=f.nxt)(hv:f.vw=m.vw)(hg:∀b,X b->f.g b=m.g b):SlX f X c l:=by
 obtain⟨⟨vs,h1,h2,h3⟩,h4⟩:=h;exact⟨⟨vs,h1.to hn (fun b _ ⟨o,s,d,he⟩=>hg b (h4 _ _ _ _ _ he)) hv,h2.flat,h3⟩,h4⟩
class IM (α:Type) where
  rep:M->(Nat->Prop)->α->List V->Prop
  mv:∀{m f:M} {X:Nat->Prop} {a:α} {x:List V},rep m X a x->m.nxt<=f.nxt->f.vw=m.vw->(∀b,X b->f.g b=m.g b)->rep f X a x
instance {α:Type} [Rp α] [Flat α]:IM (List α):=⟨fun m X a x=>∃c,x=[.c c]/\SlX m X c a,fun⟨c,h1,h2⟩ hn hv hg=>⟨c,h1,h2.mv hn hv hg⟩⟩
variable {P:Program} {T:List (Nat × Bool)} {α:Type} [IM α]
def VsW(l:List α)(n i:Nat)(x:List V)(S:Nat->Prop)(m:M):Prop:=∃a X,l[i]? = some a/\IM.rep m X a x/\∀b,X b->n<=b/\¬ S b/\b < m.nxt
def ItW(P:Program)(T:List (Nat × Bool))(f:M)(x:C)(l:List α):Prop:=
 ∃g a b D R,x=.fn (.func g) a b/\zsk P T x l.length (VsW l) D R/\(∀m,Sub f m->R m)/\∀b,D b->b < f.nxt/\(f.g b ≠ none\/f.vw b ≠ none)
theorem ItW.sub{f m:M}{x:C}{l:List α}(h:ItW P T f x l)(s:Sub f m):ItW P T m x l:=by
 obtain⟨g,a,b,D,R,h1,h2,h3,h4⟩:=h;refine⟨g,a,b,D,R,h1,h2,fun m' hs=>h3 m' (s.trans hs),fun b hb=>?_⟩;obtain⟨q1,q2⟩:=h4 b hb;exact⟨Nat.lt_of_lt_of_le q1 s.nxt,by rw[s.g b q1 q2,s.vw]; exact q2⟩
namespace Gux
variable {n0 tR:Nat} {Z Z':Nat->Prop} {A A':Fm->M->(Nat->Nat)->M->Prop}
end Gux
end
end Go.Abs

namespace Go.Abs
set_option maxRecDepth 100000
noncomputable section
variable {P:Program} {α:Type} [Rp α]
structure Wr (m0 m:M) (k:Nat) (x:C) (vs:List C) (n:Nat):Prop where
 len:n * k=vs.length
 val:(x=.sl0/\n=0)\/∃b o s d N ws op,x=.sl b o n s d/\b < m0.nxt/\b < m.nxt/\m0.g b=some (.cells N ws op)/\ws.length=N/\o+n * k<=N/\m.g b=some (.cells N (ws.take o++vs++ws.drop (o+n * k)) op)
theorem Wr.ls{m0 m:M}{k n:Nat}{x:C}{vs:List C}(h:Wr m0 m k x vs n):Ls m k x vs n:=by
 have hl:=h.len;refine⟨hl,?_⟩
 rcases h.val with h1 | ⟨b,o,s,d,N,ws,op,h1,_,h3,_,h5,h6,h7⟩
 ·exact .inl h1
 ·refine .inr ⟨b,o,s,d,h1,h3,fun _=>.inl ⟨N,_,op,h7,?_,by omega,?_⟩⟩
  ·simp only[List.length_append,List.length_take,List.length_drop]; omega
  ·rw[List.append_assoc,List.drop_left' (by rw[List.length_take]; omega),List.take_left' rfl]
theorem Wr.to{m0 m m':M}{k n:Nat}{x:C}{vs:List C}(h:Wr m0 m k x vs n)(hn:m.nxt<=m'.nxt)(hg:∀b,zr7 x b->m'.g b=m.g b):Wr m0 m' k x vs n:=by
 refine⟨h.len,?_⟩
 rcases h.val with h1 | ⟨b,o,s,d,N,ws,op,h1,h2,h3,h4,h5,h6,h7⟩
 ·exact .inl h1
 ·exact .inr ⟨b,o,s,d,N,ws,op,h1,h2,Nat.lt_of_lt_of_le h3 hn,h4,h5,h6,(hg b ⟨_,_,_,_,h1⟩).trans h7⟩
theorem Wr.lt{m0 m:M}{k n:Nat}{x:C}{vs:List C}(h:Wr m0 m k x vs n){b:Nat}(hb:zr7 x b):b < m.nxt:=by
 obtain⟨o',n',s',d',hb⟩:=hb
 rcases h.val with ⟨h1,_⟩ | ⟨b',o,s,d,N,ws,op,h1,_,h3,_⟩
 ·rw[h1] at hb; cases hb
 ·rw[h1] at hb; cases hb; exact h3
theorem Wr.trans{m0 m m':M}{k n n':Nat}{x:C}{vs vs':List C}(h:Wr m0 m k x vs n)(h':Wr m m' k x vs' n'):Wr m0 m' k x vs' n':=by
 have hl:=h.len;have hl':=h'.len;refine⟨h'.len,?_⟩
 rcases h'.val with h1 | ⟨b,o,s,d,N,ws,op,h1,h2,h3,h4,h5,h6,h7⟩
 ·exact .inl h1
 ·rcases h.val with ⟨q1,_⟩ | ⟨b1,o1,s1,d1,N1,ws1,op1,q1,q2,q3,q4,q5,q6,q7⟩
  ·rw[q1] at h1; cases h1
  ·rw[q1] at h1; cases h1
   rw[q7] at h4; cases h4
   refine .inr ⟨_,_,_,_,_,ws1,_,q1,q2,h3,q4,q5,q6,?_⟩;rw[h7]
   have e1:(ws1.take o++vs++ws1.drop (o+n * k)).take o=ws1.take o:=by
    rw[List.append_assoc,List.take_left' (by rw[List.length_take]; omega)]
   have e2:(ws1.take o++vs++ws1.drop (o+n * k)).drop (o+n * k)=ws1.drop (o+n * k):=by
    rw[List.drop_left' (by rw[List.length_append,List.length_take]; omega)]
   rw[e1,e2]
theorem Wr.refl{m0 m:M}{k n:Nat}{x:C}{vs:List C}(h:Wr m0 m k x vs n):Wr m m k x vs n:=by
 have hl:=h.len;refine⟨h.len,?_⟩
 rcases h.val with h1 | ⟨b,o,s,d,N,ws,op,h1,h2,h3,h4,h5,h6,h7⟩
 ·exact .inl h1
 ·refine .inr ⟨b,o,s,d,N,_,op,h1,h3,h3,h7,?_,h6,?_⟩
  ·simp only[List.length_append,List.length_take,List.length_drop]; omega
  ·rw[h7]
   congr 2
   rw[List.drop_left' (by rw[List.length_append,List.length_take]; omega)]
   congr 1
   rw[List.append_assoc,List.take_left' (by rw[List.length_take]; omega)]
structure Wo (F:Fm) (f:M) (τ:Nat->Nat) (m:M) (t:Nat) (x:C) (l:List α):Prop where
 own:∃vs,Wr F.m m (Rp.k α) x vs l.length/\Cat f vs l
 nw:∀b o n s d,x=.sl b o n s d->(F.m.nxt<=b\/F.B b)/\f.g b=none/\τ b=t
theorem Wo.blk{F:Fm}{f m:M}{τ:Nat->Nat}{t:Nat}{x:C}{l:List α}(h:Wo F f τ m t x l){b o n s:Nat}{d:Option Nat}(hx:x=.sl b o n s d):b < m.nxt:=h.own.elim fun _ h=>h.1.lt ⟨_,_,_,_,hx⟩
theorem Wo.k{F:Fm}{f f' m m':M}{τ τ':Nat->Nat}{t:Nat}{x:C}{l:List α}{X:List Nat}(h:Wo F f τ m t x l)(k:Kp τ f m τ' f' m' X)(hx:t ∉ X:=by decide):Wo F f' τ' m' t x l:=by
 have hx':∀b o n s d,x=.sl b o n s d->τ b ∉ X:=fun b o n s d he=>by rw[(h.nw b o n s d he).2.2]; exact hx
 obtain⟨vs,h1,h2⟩:=h.own;refine⟨⟨vs,h1.to k.nxt fun b ⟨o,n,s,d,he⟩=>k.g b (h.blk he) (hx' _ _ _ _ _ he),h2.sub k.fs⟩,fun b o n s d he=>?_⟩;obtain⟨q1,q2,q3⟩:=h.nw b o n s d he;have hlt:=h.blk he;exact⟨q1,(k.fg b hlt (hx' _ _ _ _ _ he)).trans q2,(k.tg b hlt).trans q3⟩
theorem Wo.slLen{F:Fm}{f m:M}{τ:Nat->Nat}{t:Nat}{x:C}{l:List α}(h:Wo F f τ m t x l):slLen x=l.length:=h.own.elim fun _ h=>h.1.ls.slLen
theorem Wo.ptr{F:Fm}{f m:M}{τ:Nat->Nat}{t:Nat}{x:C}{l:List α}(h:Wo F f τ m t x l){n:Nat}{a:α}(hi:l[n]? = some a):∃b o,∀i,znl x i=.ptr b (o+i):=by
 obtain⟨vs,h1,h2⟩:=h.own;have hn:=(List.getElem?_eq_some_iff.1 hi).1;obtain⟨b,o,q,_⟩:=h1.ls.at (by omega);exact⟨b,o,q⟩
end
end Go.Abs

namespace Go.Abs
set_option maxRecDepth 100000
noncomputable section
variable {P:Program} {α:Type}
section
variable {enc:α->List C} {k:Nat}
end
section
variable [Rp α]
end
structure Oq {β:Type} [Rp β] (F:Fm) (f:M) (τ:Nat->Nat) (m:M) (t:Nat) (x:C) (l:List β) (cap:Nat):Prop where
 own:∃b vs junk,x=.sl b 0 l.length 0 (some cap)/\b < m.nxt/\m.g b=some (.cells (cap * Rp.k β) (vs++junk) false)/\Cat f vs l/\(vs++junk).length=cap * Rp.k β/\l.length<=cap/\(F.m.nxt<=b\/F.B b)/\f.g b=none/\τ b=t
section
variable {β:Type} [Rp β] {F:Fm} {f0 f m:M} {τ:Nat->Nat} {t cap:Nat} {x:C} {l:List β}
theorem Oq.k{f' m':M}{τ':Nat->Nat}{X:List Nat}(h:Oq F f τ m t x l cap)(k:Kp τ f m τ' f' m' X)(hx:t ∉ X:=by decide):Oq F f' τ' m' t x l cap:=by
 obtain⟨b,vs,junk,h1,h2,h3,h4,h5,h6,h7,h8,h9⟩:=h.own
 have hx:τ b ∉ X:=by rw[h9]; exact hx
 exact⟨b,vs,junk,h1,Nat.lt_of_lt_of_le h2 k.nxt,(k.g b h2 hx).trans h3,h4.sub k.fs,h5,h6,h7,(k.fg b h2 hx).trans h8,(k.tg b h2).trans h9⟩
theorem Oq.slLen(h:Oq F f τ m t x l cap):slLen x=l.length:=by obtain⟨b,vs,junk,rfl,_⟩:=h.own; rfl
end
end
end Go.Abs

namespace Go.Abs
set_option maxRecDepth 100000
noncomputable section
section
variable {P:Program} {T:List (Nat × Bool)}
theorem zsl(f:M):∀L:List Int,Cat f (zrn L) L
 | []=>rfl
 | a::L=>⟨[.int .i64 a],zrn L,rfl,rfl,zsl f L⟩
def Wl(m:M)(x:C)(L:List Int):Prop:=(x=.sl0/\L=[])\/∃b N vs,x=.sl b 0 L.length 1 none/\b < m.nxt/\m.g b=some (.cells N vs true)/\vs.length=N/\L.length<=N/\vs.take L.length=zrn L
theorem Wl.nil(m:M):Wl m .sl0 []:=.inl ⟨rfl,rfl⟩
theorem Wl.to{m m':M}{x:C}{L:List Int}(h:Wl m x L)(hn:m.nxt<=m'.nxt)(hg:∀b,zr7 x b->m'.g b=m.g b):Wl m' x L:=by
 rcases h with h | ⟨b,N,vs,h1,h2,h3,h4⟩
 ·exact .inl h
 ·exact .inr ⟨b,N,vs,h1,Nat.lt_of_lt_of_le h2 hn,by rw[hg b ⟨_,_,_,_,h1⟩]; exact h3,h4⟩
theorem Wl.lt{m:M}{x:C}{L:List Int}(h:Wl m x L){b:Nat}(hb:zr7 x b):b < m.nxt:=by
 obtain⟨o,n,s,d,hb⟩:=hb
 rcases h with ⟨h,_⟩ | ⟨b',N,vs,h1,h2,_⟩
 ·rw[h] at hb; cases hb
 ·rw[h1] at hb; cases hb; exact h2
theorem Wl.len{m:M}{x:C}{L:List Int}(h:Wl m x L):slLen x=L.length:=by
 rcases h with ⟨h,h'⟩ | ⟨b',N,vs,h1,_⟩
 ·rw[h,h']; rfl
 ·rw[h1]; rfl
theorem Wl.sl{m:M}{x:C}{L:List Int}(h:Wl m x L):SlX m (zr7 x) x L:=by
 refine⟨⟨zrn L,?_,zsl m L,?_⟩,fun b o n s d he=>⟨_,_,_,_,he⟩⟩
 ·refine⟨by rw[zro]; exact Nat.mul_one _,?_⟩
  rcases h with ⟨h,h'⟩ | ⟨b',N,vs,h1,h2,h3,h4,h5,h6⟩
  ·exact .inl ⟨h,congrArg List.length h'⟩
  ·exact .inr ⟨b',0,1,none,h1,h2,fun _=>.inl ⟨N,vs,true,h3,h4,by rw[zro]; omega,by rw[List.drop_zero,zro]; exact h6⟩⟩
 ·rcases h with ⟨h,h'⟩ | ⟨b',N,vs,h1,_⟩
  ·exact .inl ⟨h,by rw[h']; rfl⟩
  ·exact .inr (.inr ⟨b',0,h1⟩)
theorem Wl.cut{m:M}{x:C}{L:List Int}{v:Int}(h:Wl m x (L++[v])):∃c,subC 1 x 0 L.length=some c/\Wl m c L/\∀b,zr7 c b->zr7 x b:=by
 rcases h with ⟨_,h'⟩ | ⟨b,N,vs,h1,h2,h3,h4,h5,h6⟩
 ·simp at h'
 ·rw[List.length_append] at h1 h5 h6;have h7:[v].length=1:=rfl;refine⟨.sl b 0 L.length 1 none,?_,.inr ⟨b,N,vs,rfl,h2,h3,h4,by omega,?_⟩,fun b' ⟨o,n,s,d,he⟩=>by cases he; exact⟨_,_,_,_,h1⟩⟩
  ·subst h1
   show ifB (Nat.ble 0 L.length) (ifB (Nat.ble L.length (L.length + [v].length)) (ifB (Nat.beq 1 1) (some (C.sl b (Nat.add 0 (Nat.mul 0 1)) (Nat.sub L.length 0) 1 none)) none) none) none=_
   rw[Nat.ble_eq_true_of_le (Nat.zero_le _),Nat.ble_eq_true_of_le (by omega)]
   rfl
  ·have h8:=congrArg (List.take L.length) h6;rw[List.take_take,Nat.min_eq_left (by omega)] at h8;rw[h8];unfold zrn;rw[List.map_append,List.take_append_of_le_length (by rw[List.length_map]; omega),List.take_of_length_le (by rw[List.length_map]; omega)]
end
end
end Go.Abs

namespace Go.Abs
set_option maxRecDepth 100000
noncomputable section
open Classical
variable {P:Program} {κ:Type} {enc:κ->U}
def zsm(_enc:κ->U)(f:κ->Option U)(ks:List κ):Prop:=ks.Nodup/\∀a,a∈ks↔f a ≠ none
structure ItR (enc:κ->U) (m:M) (i b:Nat) (f:κ->Option U) (rem:List κ):Prop where
 ex:∃es clock seen,m.g i=some (.iter (some b) clock seen clock)/\m.g b=some (.map es clock)/\zrQ enc es/\(∀a,look enc es a=f a)/\zrT es clock /\
  (zaN (fun e:E=>ifB (zaK e.born seen) false true) es).map (·.k)=rem.map enc/\∀s∈seen,s < clock
 ne:i ≠ b
theorem zsn{es:List E}(h:zrQ enc es):∃ks:List κ,es.map (·.k)=ks.map enc:=by
 induction es with
 | nil=>exact⟨[],rfl⟩
 | cons e es ih=>
  obtain⟨a,ha⟩:=h e (List.mem_cons_self ..);obtain⟨ks,hks⟩:=ih fun e he=>h e (List.mem_cons_of_mem _ he);exact⟨a::ks,by rw[List.map_cons,List.map_cons,hks,ha]⟩
theorem zso{es:List E}{a:κ}:look enc es a ≠ none↔∃e∈es,e.k=enc a:=by
 induction es with
 | nil=>exact⟨fun h=>absurd rfl h,fun⟨e,he,_⟩=>by cases he⟩
 | cons e es ih=>
  show(if e.k=enc a then some e.v else look enc es a) ≠ none↔_
  by_cases h:e.k=enc a
  ·rw[if_pos h]; exact⟨fun _=>⟨e,List.mem_cons_self ..,h⟩,fun _=>by simp⟩
  ·rw[if_neg h,ih];exact⟨fun⟨e',h1,h2⟩=>⟨e',List.mem_cons_of_mem _ h1,h2⟩,fun⟨e',h1,h2⟩=>⟨e',(List.mem_cons.1 h1).resolve_left fun hc=>h (hc ▸ h2),h2⟩⟩
theorem Mp.range{m:M}{b:Nat}{f:κ->Option U}(hinj:∀a a':κ,enc a=enc a'->a=a')(h:Mp enc m b f):∃ks o,zsm enc f ks/\znr m (.map b)=some o/\∀m',m'=m.new o->ItR enc m' m.nxt b f ks:=by
 obtain⟨es,clock,h1,h2,h3,h4⟩:=h.ex;obtain⟨ks,hk⟩:=zsn h2
 refine⟨ks,.iter (some b) clock [] clock,⟨?_,fun a=>?_⟩,by show(match m.g b with | some (.map _ clock)=>some (AO.iter (some b) clock [] clock) | _=>none)=_; rw[h1],fun m' e=>?_⟩
 ·have hp:(es.map (·.k)).Pairwise (· ≠ ·):=by
   have:=h4.2;rw[List.pairwise_map] at this ⊢;exact this.imp fun h=>h.2
  rw[hk,List.pairwise_map] at hp;exact hp.imp fun h hc=>h (by rw[hc])
 ·rw[<- h3 a,zso]
  constructor
  ·intro ha
   have:enc a∈es.map (·.k):=by rw[hk]; exact List.mem_map_of_mem ha
   obtain⟨e,he,hq⟩:=List.mem_map.1 this;exact⟨e,he,hq⟩
  ·rintro⟨e,he,hq⟩
   have:enc a∈ks.map enc:=by rw[<- hk,<- hq]; exact List.mem_map_of_mem he
   obtain⟨a',ha',hq'⟩:=List.mem_map.1 this;rw[<- hinj _ _ hq']; exact ha'
 ·subst e;have hlt:=h.lt;refine⟨⟨es,clock,[],by rw[M.g_new,if_pos rfl],by rw[M.g_new,if_neg (by omega)]; exact h1,h2,h3,h4,?_,fun s hs=>by cases hs⟩,by omega⟩;rw[zhv,show es.filter (fun e:E=>ifB (zaK e.born []) false true)=es from List.filter_eq_self.2 (fun e _=>rfl)];exact hk
theorem ItR.next{m:M}{i b:Nat}{f:κ->Option U}{rem:List κ}(h:ItR enc m i b f rem):∃l,nxM m (.ptr i 0)=some l/\(l=[]↔rem=[]) /\
  ∀k y m',InL k y m' l->∃l1 a l2 o,rem=l1++a::l2/\k=enc a/\f a=some y/\m'=m.set i o/\enM m' (.ptr i 0)=some (enc a,y)/\ItR enc m' i b f (l1++l2):=by
 obtain⟨⟨es,clock,seen,h1,h2,h3,h4,h5,h6,h8⟩,h7⟩:=h;have hborn:∀e∈es,e.born < clock:=fun e he=>h5.1 (e.k,e.born) (List.mem_map.2 ⟨e,he,rfl⟩)
 have hst:(zab seen true fun _ _=>zab es true fun _ _=>zaM (fun e:E=>ltN e.born clock) es)=true:=by
  cases seen with
  | nil=>rfl
  | cons s seen=>
   cases es with
   | nil=>rfl
   | cons e es=>
    show zaM _ (e::es)=true
    rw[zhu,List.any_cons,show ltN e.born clock=true by rw[zge]; exact decide_eq_true (hborn e (List.mem_cons_self ..))]; rfl
 have hany:zaM (fun e:E=>ifB (zaK e.born seen) false (ifB (ltN e.born clock) false true)) es=false:=by
  rw[zhu,List.any_eq_false];intro e he;rw[show ltN e.born clock=true by rw[zge]; exact decide_eq_true (hborn e he)]
  cases zaK e.born seen <;> simp[ifB]
 refine⟨zbZ (fun e:E=>((e.k,e.v),m.set i (.iter (some b) clock (e.born::seen) clock))) (zaN (fun e:E=>ifB (zaK e.born seen) false true) es),?_,?_,fun k y m' hl=>?_⟩
 ·show ifB (Nat.beq 0 0) (match m.g i with
   | some (.iter none _ _ _)=>some []
   | some (.iter (some r) since seen last)=>match m.g r with
    | some (.map es clock)=>ifB (zab seen true fun _ _=>zab es true fun _ _=>zaM (fun e:E=>ltN e.born last) es)
      (ifB (zaM (fun e:E=>ifB (zaK e.born seen) false (ifB (ltN e.born since) false true)) es) none
       (some (zbZ (fun e:E=>((e.k,e.v),m.set i (.iter (some r) since (e.born::seen) clock))) (zaN (fun e:E=>ifB (zaK e.born seen) false true) es)))) none
    | _=>none
   | _=>none) none=_
  rw[Nat.beq_refl,zd3,h1]
  simp only[h2]
  rw[hst,zd3,hany,zd4]
 ·rw[zoN,List.map_eq_nil_iff]
  constructor
  ·intro hq; rw[hq] at h6; exact List.map_eq_nil_iff.1 h6.symm
  ·intro hq; rw[hq] at h6; exact List.map_eq_nil_iff.1 h6
 ·unfold InL at hl;rw[zoN] at hl;obtain⟨e,he,hq⟩:=List.mem_map.1 hl;obtain⟨rfl,rfl⟩:=Prod.mk.inj (Prod.mk.inj hq).1;have hm':m.set i (.iter (some b) clock (e.born::seen) clock)=m':=(Prod.mk.inj hq).2;subst hm';obtain⟨L1,L2,hL⟩:=List.append_of_mem he;rw[zhv] at hL h6 he;have hmem:=(List.mem_filter.1 he).1;rw[hL,List.map_append,List.map_cons] at h6;obtain⟨l1,r1,hr,hl1,hr1⟩:=List.map_eq_append_iff.1 h6.symm;obtain⟨a,l2,rfl,ha,hl2⟩:=List.map_eq_cons_iff.1 hr1
  have hpw:es.Pairwise fun e e'=>e.born ≠ e'.born/\e.k ≠ e'.k:=by
   have:=h5.2
   rwa [List.pairwise_map] at this
  have hlook:look enc es a=some e.v:=by
   have:∀q:List E,q.Pairwise (fun e e'=>e.born ≠ e'.born/\e.k ≠ e'.k)->e∈q->look enc q a=some e.v:=by
    intro q
    induction q with
    | nil=>intro _ h; cases h
    | cons x q ih=>
     intro hp hx
     show(if x.k=enc a then some x.v else look enc q a)=_
     rcases List.mem_cons.1 hx with rfl | hx
     ·rw[if_pos ha.symm]
     ·rw[if_neg fun hc=>((List.pairwise_cons.1 hp).1 e hx).2 (by rw[hc,ha]),ih (List.pairwise_cons.1 hp).2 hx]
   exact this es hpw hmem
  have hg:∀c,c ≠ i->(m.set i (.iter (some b) clock (e.born::seen) clock)).g c=m.g c:=fun c hc=>by rw[M.g_set,if_neg hc]
  refine⟨l1,a,l2,_,hr,ha.symm,by rw[<- h4]; exact hlook,rfl,?_,⟨es,clock,e.born::seen,by rw[M.g_set,if_pos rfl],by rw[hg b (Ne.symm h7)]; exact h2,h3,h4,h5,?_,fun s hs=>?_⟩,h7⟩
  ·show ifB (Nat.beq 0 0) (match (m.set i (.iter (some b) clock (e.born::seen) clock)).g i with
    | some (.iter (some r) _ (stamp::_) last)=>match (m.set i (.iter (some b) clock (e.born::seen) clock)).g r with
     | some (.map es clock)=>ifB (Nat.beq clock last) (zns stamp es) none
     | _=>none
    | _=>none) none=_
   rw[Nat.beq_refl,zd3,M.g_set,if_pos rfl]
   simp only[hg b (Ne.symm h7),h2]
   rw[Nat.beq_refl,zd3]
   have:∀q:List E,q.Pairwise (fun e e'=>e.born ≠ e'.born/\e.k ≠ e'.k)->e∈q->zns e.born q=some (e.k,e.v):=by
    intro q
    induction q with
    | nil=>intro _ h; cases h
    | cons x q ih=>
     intro hp hx
     show ifB (Nat.beq x.born e.born) (some (x.k,x.v)) (zns e.born q)=_
     rcases List.mem_cons.1 hx with rfl | hx
     ·rw[Nat.beq_refl]; rfl
     ·have hne:=((List.pairwise_cons.1 hp).1 e hx).1
      cases hb:Nat.beq x.born e.born with
      | true=>exact absurd (Nat.eq_of_beq_eq_true hb) hne
      | false=>exact ih (List.pairwise_cons.1 hp).2 hx
   rw[this es hpw hmem,ha]
  ·-- what is left
   have hsplit:es.filter (fun x:E=>ifB (zaK x.born (e.born::seen)) false true)=L1++L2:=by
    have hff:es.filter (fun x:E=>ifB (zaK x.born (e.born::seen)) false true)=(es.filter fun x:E=>ifB (zaK x.born seen) false true).filter fun x=>!(decide (x.born=e.born)):=by
     rw[List.filter_filter]
     congr 1
     funext x
     have hh:zaK x.born (e.born::seen)=(decide (x.born=e.born) || zaK x.born seen):=by
      rw[zht,zht,List.contains_cons]
      congr 1
     rw[hh]
     cases decide (x.born=e.born) <;> cases zaK x.born seen <;> rfl
    rw[hff,hL,List.filter_append,List.filter_cons]
    have hpf:(L1++e::L2).Pairwise fun e e'=>e.born ≠ e'.born:=by
     rw[<- hL]; exact(hpw.filter _).imp fun h=>h.1
    obtain⟨p1,p2,p3⟩:=List.pairwise_append.1 hpf
    have f1:L1.filter (fun x=>!(decide (x.born=e.born)))=L1:=List.filter_eq_self.2 fun x hx=>by
     have:=p3 x hx e (List.mem_cons_self ..)
     simp[this]
    have f2:L2.filter (fun x=>!(decide (x.born=e.born)))=L2:=List.filter_eq_self.2 fun x hx=>by
     have:=(List.pairwise_cons.1 p2).1 x hx
     simp[Ne.symm this]
    rw[f1,f2]
    simp
   rw[zhv,hsplit,List.map_append,List.map_append,hl1,hl2]
  ·rcases List.mem_cons.1 hs with rfl | hs
   ·exact hborn e hmem
   ·exact h8 s hs
theorem ItR.to{m m':M}{i b:Nat}{f:κ->Option U}{rem:List κ}(h:ItR enc m i b f rem)(hi:m'.g i=m.g i)(hb:m'.g b=m.g b):ItR enc m' i b f rem:=by
 obtain⟨⟨es,clock,seen,h1,h2,h3⟩,h7⟩:=h;exact⟨⟨es,clock,seen,hi.trans h1,hb.trans h2,h3⟩,h7⟩
end
end Go.Abs

namespace Go.Abs
set_option maxRecDepth 100000
noncomputable section
section
variable {K V' R:Type} [MK K] [MV V']
def zsp(M:Option (K->Option V'))(ks:List K):Prop:=ks.Nodup/\∀k,k∈ks↔MK.fit k/\zrW M k ≠ none
structure Ir (F:Fm) (f:M) (τ:Nat->Nat) (m:M) (t i:Nat) (c:C) (M:Option (K->Option V')) (rem:List K):Prop where
 it:(M=none/\rem=[]/\m.g i=some (.iter none 0 [] 0))\/∃b g,∃rem':List {k:K // MK.fit k},c=.map b/\M=some g/\f.g b ≠ none/\b < f.nxt/\ItR (zrV K) m i b (fun k=>(g k.1).map MV.enc) rem'/\rem=rem'.map (·.1)/\∀k∈rem',g k.1 ≠ none
 new:F.m.nxt<=i\/F.B i
 nf:f.g i=none
 tg:τ i=t
 lt:i < m.nxt
theorem Ir.k{F F0:Fm}{f f' f0 m m':M}{τ τ':Nat->Nat}{t i:Nat}{c:C}{M:Option (K->Option V')}{rem:List K}{X:List Nat}(h:Ir F f τ m t i c M rem)(k:Kp τ f m τ' f' m' X)(s:Sub f m)(s':St F0 f0 f' m')(hx:t ∉ X:=by decide):Ir F f' τ' m' t i c M rem:=by
 have hx:τ i ∉ X:=by rw[h.tg]; exact hx
 have hi:=k.g i h.lt hx;refine⟨?_,h.new,(k.fg i h.lt hx).trans h.nf,(k.tg i h.lt).trans h.tg,Nat.lt_of_lt_of_le h.lt k.nxt⟩
 rcases h.it with ⟨q1,q2,q3⟩ | ⟨b,g,rem',q1,q2,q3,q4,q5,q6⟩
 ·exact .inl ⟨q1,q2,hi.trans q3⟩
 ·have e1:=k.fs.g b q4 (.inl q3);have e2:=s'.sub.g b (Nat.lt_of_lt_of_le q4 k.fs.nxt) (.inl (by rw[e1]; exact q3));have e3:=s.g b q4 (.inl q3);exact .inr ⟨b,g,rem',q1,q2,by rw[e1]; exact q3,Nat.lt_of_lt_of_le q4 k.fs.nxt,q5.to hi (by rw[e2,e1,e3]),q6⟩
theorem Ir.next{F:Fm}{f0 f m:M}{τ:Nat->Nat}{t i:Nat}{c:C}{M:Option (K->Option V')}{rem:List K}(h:Ir F f τ m t i c M rem)(s:St F f0 f m) :
  ∃l,nxM m (.ptr i 0)=some l/\(l=[]->rem=[])/\∀u y m',InL u y m' l->∃l1 a l2 v,rem=l1++a::l2/\MK.fit a/\zrW M a=some v/\enM m' (.ptr i 0)=some (MK.enc a,MV.enc v)/\St F f0 f m'/\Kp τ f m τ f m' [t]/\Ir F f τ m' t i c M (l1++l2):=by
 rcases h.it with ⟨q1,q2,q3⟩ | ⟨b,g,rem',rfl,rfl,q3,q4,q5,rfl,q7⟩
 ·refine⟨[],?_,fun _=>q2,fun u y m' hl=>by cases hl⟩;unfold nxM
  simp only[q3]
  rfl
 ·obtain⟨l,h1,h2,h3⟩:=q5.next;refine⟨l,h1,fun hl=>by rw[h2.1 hl]; rfl,fun u y m' hl=>?_⟩;obtain⟨l1,a,l2,o,r1,r2,r3,rfl,r5,r6⟩:=h3 u y m' hl
  obtain⟨v,hv⟩:∃v,g a.1=some v:=by
   cases hg:g a.1 with
   | none=>exact absurd hg (q7 a (by rw[r1]; simp))
   | some v=>exact⟨v,rfl⟩
  have hy:y=MV.enc v:=by
   have:(g a.1).map MV.enc=some y:=r3;rw[hv] at this; exact(oi this).symm
  have hne:∀b',b' ≠ i->(m.set i o).g b'=m.g b':=fun b' hb'=>by rw[M.g_set,if_neg hb']
  refine⟨l1.map (·.1),a.1,l2.map (·.1),v,by rw[r1,List.map_append,List.map_cons],a.2,hv,by rw[r5,hy]; rfl,s.chg (X:=fun b'=>b'=i) (fun b' hb'=>by subst hb'; exact⟨h.new,h.nf⟩) (Nat.le_refl _) rfl (fun b' _ hb'=>hne b' hb'),⟨Nat.le_refl _,fun _ _=>rfl,fun b' _ hx=>hne b' fun he=>hx (by rw[he,h.tg]; exact List.mem_cons_self ..),fun _ _ _=>rfl,.refl f,rfl⟩,⟨.inr ⟨b,g,l1++l2,rfl,rfl,q3,q4,r6,by rw[List.map_append],fun k hk=>q7 k ?_⟩,h.new,h.nf,h.tg,h.lt⟩⟩;rw[r1]
  rcases List.mem_append.1 hk with hk | hk
  ·exact List.mem_append_left _ hk
  ·exact List.mem_append_right _ (List.mem_cons_of_mem _ hk)
end
section
open Classical
end
section
variable {K V':Type} [MK K] [MV V']
open Classical in
def zsq(M:Option (K->Option V')):Nat:=if h:∃ks,zsp M ks then (Classical.choose h).length else 0
omit [MV V'] in
theorem zsr{M:Option (K->Option V')}{ks:List K}(h:zsp M ks):zsq M=ks.length:=by
 unfold zsq;rw[dif_pos ⟨ks,h⟩];have h2:=Classical.choose_spec (⟨ks,h⟩:∃ks,zsp M ks);exact((List.perm_ext_iff_of_nodup h2.1 h.1).2 fun a=>(h2.2 a).trans (h.2 a).symm).length_eq
theorem Mi.len(hinj:∀a b:K,MK.enc a=MK.enc b->a=b){m:M}{c:C}{M:Option (K->Option V')}(h:Mi m c M):lnM m c=some (zsq M):=by
 cases M with
 | none=>
  have h:c=.map0:=h;subst h;rw[zsr (ks:=[]) ⟨List.nodup_nil,fun k=>Iff.intro (fun h=>nomatch h) fun h=>absurd rfl h.2⟩]; rfl
 | some g=>
  obtain⟨b,rfl,h2⟩:=h;obtain⟨ks,o,q1,q2,q3⟩:=h2.range fun a a' he=>Subtype.ext (hinj _ _ he);obtain⟨es,clock,h3,h4,h5,h6⟩:=h2.ex
  have hmem:∀k:{k:K // MK.fit k},k∈ks↔g k.1 ≠ none:=fun k=>by
   rw[q1.2 k]
   show(g k.1).map MV.enc ≠ none↔_
   cases hgk:g k.1 with
   | none=>exact⟨fun h=>absurd rfl h,fun h=>absurd rfl h⟩
   | some v=>exact⟨fun _=>Option.some_ne_none _,fun _=>Option.some_ne_none _⟩
  have hk:zsp (some g) (ks.map (·.1)):=by
   refine⟨?_,fun k=>?_⟩
   ·have:=q1.1;rw[List.nodup_iff_pairwise_ne] at this ⊢;rw[List.pairwise_map];exact this.imp fun h hc=>h (Subtype.ext hc)
   ·constructor
    ·intro hk;obtain⟨a,ha,rfl⟩:=List.mem_map.1 hk;exact⟨a.2,(hmem a).1 ha⟩
    ·intro hk;exact List.mem_map.2 ⟨⟨k,hk.1⟩,(hmem _).2 hk.2,rfl⟩
  rw[zsr hk,List.length_map]
  have hes:es.length=ks.length:=by
   obtain⟨⟨es',cl',seen,r1,r2,r3,r4,r5,r6,r7⟩,r8⟩:=q3 (m.new o) rfl
   have hb:(m.new o).g b=m.g b:=by rw[M.g_new,if_neg (by have:=h2.lt; omega)]
   rw[hb,h3] at r2
   cases r2
   have hseen:seen=[]:=by
    have hr:znr m (.map b)=some (.iter (some b) clock [] clock):=by show(match m.g b with | some (.map _ clock)=>some (AO.iter (some b) clock [] clock) | _=>none)=_; rw[h3]
    rw[hr] at q2; cases q2
    rw[M.g_new,if_pos rfl] at r1
    cases r1; rfl
   subst hseen;rw[zhv,show es.filter (fun e:E=>ifB (zaK e.born []) false true)=es from List.filter_eq_self.2 (fun e _=>rfl)] at r6;have:=congrArg List.length r6;rw[List.length_map,List.length_map] at this;exact this
  rw[<- hes]
  show(match m.g b with | some (.map es _)=>some es.length | _=>none)=_
  rw[h3]
end
section
variable {P:Program} {T:List (Nat × Bool)} {α:Type} [IM α]
def Xt(n:Nat)(τ:Nat->Nat)(m:M)(c:C):Prop:=∀b o k s d,c=.sl b o k s d->n<=b/\τ b ≠ 0/\b < m.nxt
theorem Xt.k{n:Nat}{τ τ':Nat->Nat}{f f' m m':M}{c:C}{X:List Nat}(h:Xt n τ m c)(k:Kp τ f m τ' f' m' X):Xt n τ' m' c:=fun b o n' s d he=>by
 obtain⟨h1,h2,h3⟩:=h b o n' s d he;exact⟨h1,by rw[k.tg b h3]; exact h2,Nat.lt_of_lt_of_le h3 k.nxt⟩
theorem Xt.sub{n:Nat}{τ:Nat->Nat}{m:M}{c c':C}{k i j:Nat}(h:Xt n τ m c)(hs:subC k c i j=some c'):Xt n τ m c':=fun b o n' s d he=>by
 subst he
 cases c with
 | sl b1 o1 n1 s1 d1=>
  have hb:b1=b:=by
   cases d1 with
   | none=>
    have hs:ifB (Nat.ble i j) (ifB (Nat.ble j n1) (ifB (Nat.beq s1 k) (some (C.sl b1 (Nat.add o1 (Nat.mul i s1)) (Nat.sub j i) s1 none)) none) none) none=some (.sl b o n' s d):=hs
    cases h1:Nat.ble i j <;> rw[h1] at hs <;> first | (cases hs; done) | skip
    cases h2:Nat.ble j n1 <;> rw[h2] at hs <;> first | (cases hs; done) | skip
    cases h3:Nat.beq s1 k <;> rw[h3] at hs <;> first | (cases hs; done) | skip
    injection hs with hs; injection hs
   | some d1=>
    have hs:ifB (Nat.ble i j) (ifB (Nat.ble j d1) (some (C.sl b1 (ifB (Nat.beq d1 i) o1 (Nat.add o1 (Nat.mul i k))) (Nat.sub j i) 0 (some (Nat.sub d1 i)))) none) none=some (.sl b o n' s d):=hs
    cases h1:Nat.ble i j <;> rw[h1] at hs <;> first | (cases hs; done) | skip
    cases h2:Nat.ble j d1 <;> rw[h2] at hs <;> first | (cases hs; done) | skip
    injection hs with hs; injection hs
  exact hb ▸ h b1 o1 n1 s1 d1 rfl
 | sl0=>
  have hs:ifB (Nat.beq i 0) (ifB (Nat.beq j 0) (some C.sl0) none) none=some (.sl b o n' s d):=hs
  cases h1:Nat.beq i 0 <;> rw[h1] at hs <;> first | (cases hs; done) | skip
  cases h2:Nat.beq j 0 <;> rw[h2] at hs <;> cases hs
 | _=>cases hs
theorem Xt.x{n:Nat}{τ:Nat->Nat}{m:M}{c:C}{X:Nat->Prop}(h:Xt n τ m c)(hX:∀b,n<=b->τ b ≠ 0->b < m.nxt->X b):∀b o k s d,c=.sl b o k s d->X b:=fun b o k s d he=>by
 obtain⟨h1,h2,h3⟩:=h b o k s d he;exact hX b h1 h2 h3
theorem Xt.b{n:Nat}{τ:Nat->Nat}{m:M}{c:C}(h:Xt n τ m c):∀b o k s d,c=.sl b o k s d->b < m.nxt:=fun b o k s d he=>(h b o k s d he).2.2
end
end
end Go.Abs

namespace Go.Abs
set_option maxRecDepth 100000
noncomputable section
theorem fI{n:Int}(h:-9223372036854775808<=n/\n < 9223372036854775808):znj .i64 n:=h
theorem fU8{n:Int}(h:znj .u8 n):0<=n/\n < 256:=h
theorem zss{n:Int}(h:znj .u16 n):0<=n/\n < 65536:=h
theorem wz{k:IntKind}{n:Int}(h:znj k n):zno k n=n:=by unfold zno; rw[zn3 h]; rfl
theorem zst{α:Type}{l:List α}{k:Nat}{a:α}(h:l[k]? = some a):idx l (k:Int)=some a:=by rw[zrw]; exact h
theorem zsu{α:Type}{l:List α}{i:Int}{k:Nat}(hi:i=(k:Int))(h:k < l.length):idx l i=some l[k]:=by subst hi; rw[zrw,List.getElem?_eq_getElem h]
theorem zsv{α:Type}{l:List α}{k:Nat}{a:α}(hk:0 < k)(h:l[k - 1]? = some a):idx l ((k:Int) - 1)=some a:=by rw[show(k:Int) - 1=((k - 1:Nat):Int) by omega]; exact zst h
theorem zsw{α:Type}{l:List α}{a:α}(h:l[0]? = some a):idx l (0:Int)=some a:=zst (k:=0) h
def Ev(o:Option Bool)(P:Prop):Prop:=∃b,o=some b/\(b=true↔P)
namespace Ev
variable {o k:Option Bool} {P K:Prop}
theorem dec{p:Prop}[Decidable p](h:p↔P):Ev (some (decide p)) P:=⟨_,rfl,decide_eq_true_iff.trans h⟩
theorem ff(h:¬ P):Ev (some false) P:=⟨false,rfl,⟨fun h=>(by cases h),fun h'=>absurd h' h⟩⟩
theorem tt(h:P):Ev (some true) P:=⟨true,rfl,⟨fun _=>h,fun _=>rfl⟩⟩
theorem imp(h:Ev o P)(hp:P↔K):Ev o K:=by obtain⟨b,h1,h2⟩:=h; exact⟨b,h1,h2.trans hp⟩
theorem ret(h:Ev o P):Ev (o.bind fun r=>some r) P:=by obtain⟨b,h1,h2⟩:=h; exact⟨b,by rw[h1]; rfl,h2⟩
theorem and(h:Ev o P)(hk:P->Ev k K):Ev (o.bind fun r=>if r=true then k else some false) (P/\K):=by
 obtain⟨b,h1,h2⟩:=h;rw[h1,Option.bind_some]
 cases b with
 | true=>
  rw[if_pos rfl];have hp:=h2.1 rfl;exact(hk hp).imp ⟨fun h=>⟨hp,h⟩,fun h=>h.2⟩
 | false=>rw[if_neg (by simp)]; exact ff fun h=>by have:=h2.2 h.1; cases this
theorem ite{p:Prop}[Decidable p](hk:p->Ev k K):Ev (if p then k else some false) (p/\K):=by
 by_cases hp:p
 ·rw[if_pos hp]; exact(hk hp).imp ⟨fun h=>⟨hp,h⟩,fun h=>h.2⟩
 ·rw[if_neg hp]; exact ff fun h=>hp h.1
theorem itn{p:Prop}[Decidable p](hk:¬ p->Ev k K):Ev (if p then some false else k) (¬ p/\K):=by
 by_cases hp:p
 ·rw[if_pos hp]; exact ff fun h=>h.1 hp
 ·rw[if_neg hp]; exact(hk hp).imp ⟨fun h=>⟨hp,h⟩,fun h=>h.2⟩
theorem gd{p:Prop}(hp:p)(h:Ev o P):Ev (Go.Abs.gd p o) P:=by rw[zrD hp]; exact h
theorem bind{α:Type}{x:Option α}{a:α}{f:α->Option Bool}(hx:x=some a)(h:Ev (f a) P):Ev (x.bind f) P:=by rw[hx,Option.bind_some]; exact h
theorem neg(h:Ev o P):Ev (o.bind fun r=>some (!r)) (¬ P):=by
 obtain⟨b,h1,h2⟩:=h;refine⟨!b,by rw[h1]; rfl,?_⟩
 cases b with
 | true=>exact⟨fun h=>(by cases h),fun h=>absurd (h2.1 rfl) h⟩
 | false=>exact⟨fun _ hp=>(by have:=h2.2 hp; cases this),fun _=>rfl⟩
theorem pick{α:Type}{f:Bool->Option α}{r:α}(h:Ev o P)(ht:P->f true=some r)(hf:¬ P->f false=some r):o.bind f=some r:=by
 obtain⟨b,h1,h2⟩:=h;rw[h1,Option.bind_some]
 cases b with
 | true=>exact ht (h2.1 rfl)
 | false=>exact hf fun hp=>by have:=h2.2 hp; cases this
theorem some_of(h:Ev o P)(hp:P):o=some true:=by obtain⟨b,h1,h2⟩:=h; rw[h1,h2.2 hp]
theorem some_not(h:Ev o P)(hp:¬ P):o=some false:=by
 obtain⟨b,h1,h2⟩:=h
 cases b with
 | true=>exact absurd (h2.1 rfl) hp
 | false=>exact h1
end Ev
open Classical in
theorem zsx{β:Type}(n:Nat)(F:Nat->Int->Option β)(ok:Nat->Prop)(bad fin:Option β)
  (hstep:∀d k,k < n->F (d+1) (k:Int)=if ok k then F d ((k:Int)+1) else bad) (hend:∀d,F (d+1) (n:Int)=fin) :
  ∀d k,k<=n->n - k < d->F d (k:Int)=if (∀j,k<=j->j < n->ok j) then fin else bad
 | 0,k,_,h=>by omega
 | d+1,k,hk,h=>by
  by_cases hkn:k=n
  ·subst hkn;rw[hend,if_pos fun j h1 h2=>by omega]
  ·rw[hstep d k (by omega)]
   by_cases ho:ok k
   ·rw[if_pos ho,show(k:Int)+1=((k+1:Nat):Int) by omega,zsx n F ok bad fin hstep hend d (k+1) (by omega) (by omega)]
    by_cases ha:∀j,k+1<=j->j < n->ok j
    ·rw[if_pos ha,if_pos fun j h1 h2=>by
      rcases Nat.eq_or_lt_of_le h1 with h3 | h3
      ·subst h3; exact ho
      ·exact ha j h3 h2]
    ·rw[if_neg ha,if_neg fun h'=>ha fun j h1 h2=>h' j (by omega) h2]
   ·rw[if_neg ho,if_neg fun h'=>ho (h' k (Nat.le_refl _) (by omega))]
theorem zsy{β:Type}{n:Nat}{F:Nat->Int->Option β}{ok:Nat->Prop}{bad fin:Option β}
  (hstep:∀d k,k < n->(ok k->F (d+1) (k:Int)=F d ((k:Int)+1))/\(¬ ok k->F (d+1) (k:Int)=bad)) (hend:∀d,F (d+1) (n:Int)=fin) {d:Nat} (hd:n < d) :
  ((∀j,j < n->ok j)->F d 0=fin)/\(¬ (∀j,j < n->ok j)->F d 0=bad):=by
 have h:=zsx n F ok bad fin (fun d k hk=>by
  by_cases ho:ok k
  ·rw[if_pos ho]; exact(hstep d k hk).1 ho
  ·rw[if_neg ho]; exact(hstep d k hk).2 ho) hend d 0 (Nat.zero_le _) (by omega)
 have h:F d 0=_:=h;refine⟨fun ha=>?_,fun ha=>?_⟩
 ·rw[h,if_pos fun j _=>ha j]
 ·rw[h,if_neg fun h'=>ha fun j=>h' j (Nat.zero_le _)]
theorem Ev.loop{n:Nat}{F:Nat->Int->Option Bool}{ok:Nat->Prop}{fin:Option Bool}{P:Prop}
  (hstep:∀d k,k < n->(ok k->F (d+1) (k:Int)=F d ((k:Int)+1))/\(¬ ok k->F (d+1) (k:Int)=some false)) (hend:∀d,F (d+1) (n:Int)=fin) {d:Nat} (hd:n < d)
  (hf:(∀j,j < n->ok j)->Ev fin P):Ev (F d 0) ((∀j,j < n->ok j)/\P):=by
 obtain⟨h1,h2⟩:=zsy hstep hend hd
 by_cases ha:∀j,j < n->ok j
 ·rw[h1 ha]; exact(hf ha).imp ⟨fun h=>⟨ha,h⟩,fun h=>h.2⟩
 ·rw[h2 ha]; exact Ev.ff fun h=>ha h.1
theorem zsz{α γ β:Type}(l:List α)(g:α->γ)(F:Nat->List γ->Int->Option β)(fin:List γ->Option β)
  (hstep:∀d (k:Nat) acc a,l[k]? = some a->acc.length=k->F (d+1) acc (k:Int)=F d (acc++[g a]) ((k:Int)+1)) (hend:∀d acc,F (d+1) acc (l.length:Int)=fin acc) :
  ∀d (k:Nat) acc,k<=l.length->l.length - k < d->acc=(l.take k).map g->F d acc (k:Int)=fin (l.map g)
 | 0,k,_,_,h,_=>by omega
 | d+1,k,acc,hk,h,ha=>by
  by_cases hkn:k=l.length
  ·subst hkn;rw[hend,ha,List.take_length]
  ·have hlt:k < l.length:=by omega
   have hget:=List.getElem?_eq_getElem hlt;rw[hstep d k acc _ hget (by rw[ha,List.length_map,List.length_take]; omega),show(k:Int)+1=((k+1:Nat):Int) by omega];exact zsz l g F fin hstep hend d (k+1) _ (by omega) (by omega) (by rw[ha,List.take_add_one,hget,List.map_append]; rfl)
theorem zsA{α γ β:Type}{l:List α}(g:α->γ){F:Nat->List γ->Int->Option β}(fin:List γ->Option β)
  (hstep:∀d (k:Nat) acc a,l[k]? = some a->acc.length=k->F (d+1) acc (k:Int)=F d (acc++[g a]) ((k:Int)+1)) (hend:∀d acc,F (d+1) acc (l.length:Int)=fin acc) {d:Nat} (hd:l.length < d):F d [] 0=fin (l.map g):=
 zsz l g F fin hstep hend d 0 [] (Nat.zero_le _) (by omega) (by simp)
def gIdx{α:Type}(l:List α)(p:α->Option Bool):Nat->Int->Option Int
 | 0,_=>none
 | d+1,x=>if x < (l.length:Int) then ((idx l x).bind fun v=>(p v).bind fun r=>if r=true then some x else gd (znj .i64 (x+(1:Int))) (gIdx l p d (x+(1:Int)))) else some (-1:Int)
theorem zsB{α:Type}{l:List α}{p:α->Option Bool}{q:α->Prop}(hp:∀a∈l,Ev (p a) (q a))(hl:l.length < 4611686018427387904) :
  ∀d (k:Nat),k<=l.length->l.length - k < d->∃r,gIdx l p d (k:Int)=some r/\(0<=r↔∃a∈l.drop k,q a)
 | 0,_,_,h=>by omega
 | d+1,k,hk,h=>by
  unfold gIdx
  by_cases hkn:k=l.length
  ·subst hkn;rw[if_neg (Int.lt_irrefl _)];exact⟨_,rfl,by simp⟩
  ·have hlt:k < l.length:=by omega
   have hget:=List.getElem?_eq_getElem hlt;rw[if_pos (by omega),zst hget,Option.bind_some];have hd:=List.drop_eq_getElem_cons hlt;obtain⟨b,h1,h2⟩:=hp _ (List.getElem_mem hlt);rw[h1,Option.bind_some]
   cases b with
   | true=>rw[if_pos rfl]; exact⟨_,rfl,⟨fun _=>⟨_,by rw[hd]; exact List.mem_cons_self ..,h2.1 rfl⟩,fun _=>by omega⟩⟩
   | false=>
    rw[if_neg (by simp),zrD (fI (by omega)),show(k:Int)+1=((k+1:Nat):Int) by omega];obtain⟨r,h3,h4⟩:=zsB hp hl d (k+1) (by omega) (by omega);refine⟨r,h3,h4.trans ⟨fun⟨a,ha,hq⟩=>⟨a,by rw[hd]; exact List.mem_cons_of_mem _ ha,hq⟩,fun⟨a,ha,hq⟩=>?_⟩⟩;rw[hd] at ha
    rcases List.mem_cons.1 ha with rfl | ha
    ·have:=h2.2 hq; cases this
    ·exact⟨a,ha,hq⟩
theorem Ev.contains{α:Type}{l:List α}{p:α->Option Bool}{q:α->Prop}(hp:∀a∈l,Ev (p a) (q a))(hl:l.length < 4611686018427387904){o:Option Int}(ho:o=gIdx l p (l.length+1) (0:Int)) :
  Ev (o.bind fun r=>some (decide ((0:Int)<=r))) (∃a∈l,q a):=by
 obtain⟨r,h1,h2⟩:=zsB hp hl (l.length+1) 0 (Nat.zero_le _) (by omega);have h1:gIdx l p (l.length+1) 0=some r:=h1;rw[ho,h1,Option.bind_some];exact Ev.dec (by rw[h2,List.drop_zero])
theorem Ev.each{α:Type}{l:List α}{p:α->Option Bool}{q:α->Prop}(hp:∀a∈l,Ev (p a) (q a))(hl:l.length < 4611686018427387904){o:Option Int}(ho:o=gIdx l (fun a=>(p a).bind fun r=>some (!r)) (l.length+1) (0:Int)) :
  Ev ((o.bind fun r=>some (decide ((0:Int)<=r))).bind fun r=>some (!r)) (∀a∈l,q a):=
 ((Ev.contains (q:=fun a=>¬ q a) (fun a ha=>(hp a ha).neg) hl ho).neg).imp (by
  constructor
  ·intro h a ha; exact Classical.byContradiction fun hq=>h ⟨a,ha,hq⟩
  ·rintro h ⟨a,ha,hq⟩; exact hq (h a ha))
end
end Go.Abs

namespace Go.Abs
set_option maxRecDepth 100000
noncomputable section
structure Lay (W:World) (e:Env) (m:M):Prop where
 hr:HR e (toH m) W
 g:∀b,m.g b=none
 vz:∀b,m.nxt<=b->m.vw b=none
 base:e.base=W.heap
theorem Lay.nil(W:World):Lay W { ρ:=fun _=>none,sz:=fun _=>0,es:=fun _=>0,base:=W.heap } { nxt:=0,g:=fun _=>none,vw:=fun _=>none }:=
 ⟨⟨fun _ _=>rfl,fun b o h=>(by cases h),fun b b' o o' c h=>(by cases h),Nat.le_refl _,fun b o c h=>(by cases h),fun c cs t fr h=>h,fun b q h=>(by cases h)⟩,fun _=>rfl,fun _ _=>rfl,rfl⟩
theorem Lay.pre{W:World}{e:Env}{m:M}(h:Lay W e m):Pre m m:=⟨.refl m,fun b _=>h.g b,h.vz⟩
theorem Lay.view{W:World}{e:Env}{m:M}(h:Lay W e m){cb:Nat}(q:Option (Nat × List C))(hq:∀q',q=some q'->∃c t fr,W.heap[cb]? = some (.cells c t fr)/\q'.1+q'.2.length<=c.size/\zeq (CR e) q'.2 ((c.toList.drop q'.1).take q'.2.length)) :
  ∃e' m',e.le e'/\zrt m m'/\Lay W e' m'/\m'.nxt=m.nxt+1/\e'.ρ m.nxt=some cb/\m'.vw m.nxt=q:=by
 let e':Env:={ ρ:=fun j=>if j=m.nxt then some cb else e.ρ j,sz:=e.sz,es:=e.es,base:=e.base }
 let m':M:={ nxt:=m.nxt+1,g:=m.g,vw:=fun j=>if j=m.nxt then q else m.vw j }
 have hfresh:e.ρ m.nxt=none:=h.hr.fresh _ (Nat.le_refl m.nxt)
 have hle:e.le e':=⟨fun k c hk=>by
  show(if k=m.nxt then some cb else e.ρ k)=some c
  rw[if_neg fun hkn=>by rw[hkn,hfresh] at hk; cases hk]; exact hk,fun _ _ _=>rfl,fun _ _ _=>rfl,rfl⟩
 refine⟨e',m',hle,⟨Nat.le_succ _,fun b hb=>if_neg (by omega),fun _ _ _=>rfl⟩,⟨⟨fun b hb=>?_,fun b o hb=>?_,fun b b' o o' c hb=>?_,?_⟩,h.g,fun b hb=>?_,h.base⟩,rfl,if_pos rfl,if_pos rfl⟩
 ·have hb:m.nxt+1<=b:=hb
  show(if b=m.nxt then some cb else e.ρ b)=none
  rw[if_neg (by omega)];exact h.hr.fresh b (show m.nxt<=b by omega)
 ·have:m.g b=some o:=hb
  rw[h.g b] at this; cases this
 ·have:m.g b=some o:=hb
  rw[h.g b] at this; cases this
 ·refine⟨h.hr.vws.lim,fun b o c hb=>?_,h.hr.vws.kept,fun b q' hb=>?_⟩
  ·have:m.g b=some o:=hb
   rw[h.g b] at this; cases this
  ·have hb:(if b=m.nxt then q else m.vw b)=some q':=hb
   by_cases hbn:b=m.nxt
   ·subst hbn;rw[if_pos rfl] at hb;obtain⟨c,t,fr,h1,h2,h3⟩:=hq q' hb;exact⟨cb,c,t,fr,if_pos rfl,by show e.base[cb]? = _; rw[h.base]; exact h1,h2,h3.mono fun _ _=>CR.mono hle⟩
   ·rw[if_neg hbn] at hb;exact(h.hr.vws.view b q' hb).mono hle
 ·have hb:m.nxt+1<=b:=hb
  show(if b=m.nxt then q else m.vw b)=none
  rw[if_neg (by omega)];exact h.vz b (by omega)
def zsC(P:Program)(t:TypeId)(α:Type)[Rp α](ok:α->Prop):Prop:=
 ∀(H:Type) (enc:TypeId × Value->H) (W:World) (held:Bool) (n:Nat) (cs:List Value) (x:DataW H × List MemPlace),DataW.trod enc P W 0 (fun _=>true) held n t cs=some x ->
  ∀(e:Env) (m:M),Lay W e m->∃e' m' vs a,e.le e'/\zrt m m'/\Lay W e' m'/\zeq (CR e') vs cs/\Rp.rep m' vs a/\ok a
variable {P:Program} {α β:Type} [Rp α] [Rp β]
theorem zsD{t:TypeId}(hu:P.underlying t=some (.int .i64)):zsC P t Int (znj .i64):=fun H enc W held n cs x hx e m hl=>by
 obtain⟨i,rfl,_,hw⟩:=DataW.trod_int hu hx;exact⟨e,m,[.int .i64 i],i,.refl _,.refl _,hl,.cons rfl .nil,rfl,zrM hw⟩
theorem zsE{t:TypeId}(hu:P.underlying t=some .bool):zsC P t Bool (fun _=>True):=fun H enc W held n cs x hx e m hl=>by
 obtain⟨b,rfl,_⟩:=DataW.trod_bool hu hx;exact⟨e,m,[.bool b],b,.refl _,.refl _,hl,.cons rfl .nil,rfl,trivial⟩
theorem zsF{t:TypeId}{ok:α->Prop}(h:zsC P t α ok){H:Type}{enc:TypeId × Value->H}{W:World}{held:Bool}{n b o:Nat}{c:Array Value}{tt:TypeId}{fr:Nat × Nat}(hb:W.heap[b]? = some (Obj.cells c tt fr)) :
  ∀(len:Nat),(∀i,i < len->∃cs x,W.cells? 0 ((⟨b,o,none⟩:Addr).add (i * Rp.k α)) (Rp.k α)=some cs/\DataW.trod enc P W 0 (fun _=>true) held n t cs=some x)->∀(e:Env) (m:M),Lay W e m ->
   ∃e' m' vs l,e.le e'/\zrt m m'/\Lay W e' m'/\zeq (CR e') vs ((c.toList.drop o).take (len * Rp.k α))/\Cat m' vs l/\l.length=len/\(∀a∈l,ok a)/\vs.length=len * Rp.k α/\(0 < len->o+len * Rp.k α<=c.size)
 | 0,_,e,m,hl=>⟨e,m,[],([]:List α),.refl _,.refl _,hl,by simp; exact .nil,rfl,rfl,by simp,by simp,fun h=>by omega⟩
 | len+1,hh,e,m,hl=>by
  obtain⟨e1,m1,vs,l,q1,q2,q3,q4,q5,q6,q7,q8,q9⟩:=zsF h hb len (fun i hi=>hh i (by omega)) e m hl;obtain⟨cs,x,r1,r2⟩:=hh len (by omega);obtain⟨e2,m2,ws,a,s1,s2,s3,s4,s5,s6⟩:=h H enc W held n cs x r2 e1 m1 q3;obtain⟨l1,l2⟩:=cells?_at r1;have hk:=Rp.pos (α:=α)
  have hcell:∀j,j < Rp.k α->c[o+len * Rp.k α+j]? = cs[j]?:=fun j hj=>by
   rw[<- l2 j hj,zrN,cell_of_row W b _ c tt fr hb]
  have hseg:cs=(c.toList.drop (o+len * Rp.k α)).take (Rp.k α):=by
   apply List.ext_getElem?
   intro j;rw[List.getElem?_take]
   split
   ·rename_i hj
    rw[List.getElem?_drop,<- hcell j hj]; simp
   ·rw[List.getElem?_eq_none (by omega)]
  refine⟨e2,m2,vs++ws,l++[a],q1.trans s1,q2.trans s2,s3,?_,(Cat.subv s2 q5).app (Cat.one s5),by simp[q6],fun b hb=>?_,?_,fun _=>?_⟩
  ·rw[Nat.add_mul,Nat.one_mul,List.take_add,List.drop_drop];exact(q4.mono fun _ _=>CR.mono s1).app (by rw[<- hseg]; exact s4)
  ·rcases List.mem_append.1 hb with hb | hb
   ·exact q7 b hb
   ·rw[List.mem_singleton.1 hb]; exact s6
  ·rw[List.length_append,q8,Rp.len s5,Nat.add_mul,Nat.one_mul]
  ·have:=hcell (Rp.k α - 1) (by omega);rw[List.getElem?_eq_getElem (by omega)] at this;have:=(Array.getElem?_eq_some_iff.1 this).1;rw[Nat.add_mul,Nat.one_mul]; omega
theorem zsG{t e:TypeId}{ok:α->Prop}(hu:P.underlying t=some (.slice e))(hk:P.cellsOf e=Rp.k α)(h:zsC P e α ok):zsC P t (List α) (fun l=>l.length<=maxLen/\∀a∈l,ok a):=fun H enc W held n cs x hx en m hl=>by
 rcases DataW.trod_slice hu hx with ⟨rfl,_⟩ | ⟨a,len,cap,elems,rest,m',rfl,rfl,_,_,hlc,hcm,hel,hat,hrest,_⟩
 ·exact⟨en,m,[.sl0],([]:List α),.refl _,.refl _,hl,.cons rfl .nil,⟨_,rfl,Sl.nil m⟩,Nat.zero_le _,by simp⟩
 ·obtain⟨hrl,hrat⟩:=hrest rfl;rw[hk] at hat hrat;have hpos:=Rp.pos (α:=α)
  have hany:∀i,i < cap->∃cs y,W.cells? 0 (a.add (i * Rp.k α)) (Rp.k α)=some cs/\DataW.trod enc P W 0 (fun _=>true) held m' e cs=some y:=fun i hi=>by
   have:∃y,(W.cells? 0 (a.add (i * Rp.k α)) (Rp.k α)).bind (DataW.trod enc P W 0 (fun _=>true) held m' e)=some y:=by
    by_cases hil:i < len
    ·have:=hat i hil;rw[List.getElem?_eq_getElem (by omega)] at this;exact⟨_,this⟩
    ·have:=hrat (i - len) (by omega);rw[List.getElem?_eq_getElem (by omega),show len+(i - len)=i by omega] at this;exact⟨_,this⟩
   obtain⟨y,hy⟩:=this
   cases hc:W.cells? 0 (a.add (i * Rp.k α)) (Rp.k α) with
   | none=>rw[hc] at hy; cases hy
   | some cs=>rw[hc] at hy; exact⟨cs,y,rfl,hy⟩
  by_cases hc0:cap=0
  ·have hl0:len=0:=by omega
   subst hl0;obtain⟨e',m2,q1,q2,q3,q4,q5,q6⟩:=hl.view (cb:=a.block) none (fun q h=>by cases h);refine⟨e',m2,[.sl m.nxt a.off 0 0 (some cap)],([]:List α),q1,q2,q3,.cons ⟨a.block,a.spot,q5,rfl,Nat.zero_le _,hcm,.inr hc0⟩ .nil,⟨_,rfl,[],⟨by simp,.inr ⟨m.nxt,a.off,0,some cap,rfl,by omega,fun h=>absurd rfl h⟩⟩,rfl,.inr (.inl ⟨_,_,_,_,rfl,Nat.zero_le _⟩)⟩,Nat.zero_le _,by simp⟩
  ·have hfirst:∃v,W.cell? a=some v:=by
    obtain⟨cs,y,h4,_⟩:=hany 0 (by omega);obtain⟨l1,l2⟩:=cells?_at h4;have:=l2 0 hpos;rw[List.getElem?_eq_getElem (by omega),Nat.zero_mul] at this;exact⟨_,this⟩
   obtain⟨v,hv⟩:=hfirst;unfold World.cell? at hv
   cases hb:W.heap[a.block]? with
   | none=>rw[hb] at hv; cases hv
   | some ob=>
    rw[hb] at hv
    cases ob with
    | cells c tt fr=>
     have hsp:a.spot=none:=by
      cases hq:a.spot with
      | none=>rfl
      | some z=>rw[hq] at hv; cases hv
     obtain⟨b,o,sp⟩:=a;have:sp=none:=hsp;subst this
     obtain⟨e1,m1,vs,l,q1,q2,q3,q4,q5,q6,q7,q8,q9⟩:=zsF h (o:=o) hb len (fun i hi=>by
      obtain⟨cs,y,h4,h5⟩:=hany i (by omega)
      exact⟨cs,y,h4,h5⟩) en m hl
     obtain⟨e',m2,r1,r2,r3,r4,r5,r6⟩:=q3.view (cb:=b) (if len=0 then none else some (o,vs)) (fun q' hq'=>by
      by_cases hl0:len=0
      ·rw[if_pos hl0] at hq'; cases hq'
      ·rw[if_neg hl0] at hq'
       cases hq'
       refine⟨c,tt,fr,hb,?_,by rw[q8]; exact q4⟩
       show o+vs.length<=c.size
       rw[q8]; exact q9 (by omega))
     have hll:l.length=len:=q6;refine⟨e',m2,[.sl m1.nxt o len 0 (some cap)],l,q1.trans r1,q2.trans r2,r3,.cons ⟨b,none,r5,rfl,hlc,hcm,.inl rfl⟩ .nil,⟨_,rfl,vs,⟨by rw[q8,hll],.inr ⟨m1.nxt,o,0,some cap,by rw[hll],by omega,fun hne=>.inr ⟨r3.g _,(o,vs),?_,Nat.le_refl _,?_,?_⟩⟩⟩,Cat.subv r2 q5,.inr (.inl ⟨_,_,_,_,by rw[hll],by rw[hll]; exact hlc⟩)⟩,?_,q7⟩
     ·rw[r6,if_neg (by rw[<- hll]; exact hne)]
     ·show o - o+vs.length<=vs.length
      omega
     ·show(vs.drop (o - o)).take vs.length=vs
      rw[Nat.sub_self,List.drop_zero,List.take_of_length_le (Nat.le_refl _)]
     ·rw[hll]; omega
    | _=>cases hv
def zsH(P:Program)(t:TypeId):Array Field:=match P.underlying t with | some (.struct fs)=>fs | _=>#[]
def zsI(P:Program)(fs:List (TypeId × Nat))(o:Nat)(n:Nat)(R:M->List C->Prop):Prop:=
 ∀(H:Type) (enc:TypeId × Value->H) (W:World) (held:Bool) (fu:Nat) (cs:List Value),(∀f∈fs,∃x,DataW.trod enc P W 0 (fun _=>true) held fu f.1 ((cs.drop f.2).take (P.cellsOf f.1))=some x) ->
  ∀(e:Env) (m:M),Lay W e m->∃e' m' vs,e.le e'/\zrt m m'/\Lay W e' m'/\zeq (CR e') vs ((cs.drop o).take n)/\R m' vs
theorem zsJ{o:Nat}:zsI P [] o 0 (fun _ vs=>vs=[]):=fun H enc W held fu cs _ e m hl=>⟨e,m,[],.refl _,.refl _,hl,by simp; exact .nil,rfl⟩
theorem zsK{ft:TypeId}{fs:List (TypeId × Nat)}{o n k:Nat}{ok:α->Prop}{R:M->List C->Prop}(h:zsC P ft α ok)(hk:P.cellsOf ft=k)(_hk':Rp.k α=k)(h2:zsI P fs (o+k) n R) :
  zsI P ((ft,o)::fs) o (k+n) (fun m vs=>∃a c r m0,vs=c++r/\Rp.rep m c (a:α)/\ok a/\zrt m0 m/\R m r):=fun H enc W held fu cs hf e m hl=>by
 obtain⟨x,hx⟩:=hf (ft,o) (List.mem_cons_self ..);obtain⟨e1,m1,c,a,q1,q2,q3,q4,q5,q6⟩:=h H enc W held fu _ x hx e m hl;obtain⟨e2,m2,r,s1,s2,s3,s4,s5⟩:=h2 H enc W held fu cs (fun g hg=>hf g (List.mem_cons_of_mem _ hg)) e1 m1 q3;refine⟨e2,m2,c++r,q1.trans s1,q2.trans s2,s3,?_,a,c,r,m1,rfl,Rp.subv q5 s2,q6,s2,s5⟩;rw[show P.cellsOf ((ft,o):TypeId × Nat).1=k from hk] at q4;rw[List.take_add,List.drop_drop];exact(q4.mono fun _ _=>CR.mono s1).app s4
theorem zsL{t:TypeId}{fs:List (TypeId × Nat)}{n:Nat}{R:M->List C->Prop}{ok:β->Prop}(hu:P.underlying t=some (.struct (zsH P t)))(hfs:(zsH P t).toList.map (fun f=>(f.type,f.offset))=fs)(h:zsI P fs 0 n R)(hn:P.cellsOf t=n)(hR:∀m vs,R m vs->∃b:β,Rp.rep m vs b/\ok b):zsC P t β ok:=fun H enc W held nn cs x hx e m hl=>by
 obtain⟨ys,m',rfl,_,hl',hyl,hf⟩:=DataW.trod_struct hu hx
 obtain⟨e',m2,vs,q1,q2,q3,q4,q5⟩:=h H enc W held m' cs (fun g hg=>by
  rw[<- hfs] at hg;obtain⟨f,hf',rfl⟩:=List.mem_map.1 hg;obtain⟨i,hi⟩:=List.mem_iff_getElem?.1 hf'
  have hi':(zsH P t)[i]? = some f:=by simpa using hi
  have h3:=hf i f hi'
  have hlt:i < ys.length:=by rw[hyl]; exact(Array.getElem?_eq_some_iff.1 hi').1
  rw[List.getElem?_eq_getElem hlt] at h3
  exact⟨_,h3⟩) e m hl
 obtain⟨b,r1,r2⟩:=hR _ _ q5;refine⟨e',m2,vs,b,q1,q2,q3,?_,r1,r2⟩;rw[List.drop_zero,List.take_of_length_le (by omega)] at q4;exact q4
theorem Lay.below{W W':World}{e:Env}{m:M}(h:Lay W e m){e':Env}{h':H}(hs:zeE e (toH m) W e' h' W'):RowKit.Below W.heap.size W W':=
 ⟨hs.os,hs.tape,hs.output,hs.size,fun k hk=>hs.keep k hk fun b o hb=>by
  have hb:m.g b=some o:=hb
  rw[h.g b] at hb; cases hb⟩
theorem Lay.kept{W W':World}{e:Env}{m:M}(h:Lay W e m){e':Env}{h':H}(hs:zeE e (toH m) W e' h' W')(may:MemPlace->Prop):W.keptBut W' may:=by
 refine⟨hs.os,hs.output,fun i hi=>?_⟩
 rw[hs.keep i hi (fun b o hb=>by
  have hb:m.g b=some o:=hb
  rw[h.g b] at hb; cases hb)]
 cases W.heap[i]? with
 | none=>rfl
 | some o=>cases o <;> first | exact⟨rfl,rfl,rfl,fun _ _=>rfl⟩ | exact Or.inr ⟨rfl,rfl⟩ | rfl
end
end Go.Abs

namespace Go.Abs
section
open Go.ChangeShapes Go.RowKit
variable {H:Type} {enc:TypeId × Value->H} {P:Program} {w:World} {base:Nat} {spare:Nat->Bool} {held:Bool}
theorem zsM{t0 t1 t2 t3 t4:TypeId}{args:Array Value}{ds:List (DataW H)}{ps:List MemPlace}(h:DataW.TrodAll enc P w base spare held [t0,t1,t2,t3,t4] args.toList ds ps) :
  ∃v0 v1 v2 v3 v4 d0 d1 d2 d3 d4 p0 p1 p2 p3 p4,args = #[v0,v1,v2,v3,v4]/\ds=[d0,d1,d2,d3,d4]/\ps=p0++p1++p2++p3++p4/\DataW.Trod enc P w base spare held t0 v0 d0 p0/\DataW.Trod enc P w base spare held t1 v1 d1 p1/\DataW.Trod enc P w base spare held t2 v2 d2 p2/\DataW.Trod enc P w base spare held t3 v3 d3 p3/\DataW.Trod enc P w base spare held t4 v4 d4 p4:=by
 obtain⟨v0,vs,d0,e0,p0,q0,hargs,rfl,rfl,h0,r0⟩:=trodAll_cons h;obtain⟨v1,vs1,d1,e1,p1,q1,rfl,rfl,rfl,h1,r1⟩:=trodAll_cons r0;obtain⟨v2,vs2,d2,e2,p2,q2,rfl,rfl,rfl,h2,r2⟩:=trodAll_cons r1;obtain⟨v3,vs3,d3,e3,p3,q3,rfl,rfl,rfl,h3,r3⟩:=trodAll_cons r2;obtain⟨v4,vs4,d4,e4,p4,q4,rfl,rfl,rfl,h4,r4⟩:=trodAll_cons r3;obtain⟨rfl,rfl,rfl⟩:=trodAll_nil r4;exact⟨v0,v1,v2,v3,v4,d0,d1,d2,d3,d4,p0,p1,p2,p3,p4,by cases args; simp_all,rfl,by simp,h0,h1,h2,h3,h4⟩
theorem zsN{t0 t1 t2 t3 t4:TypeId}{v0 v1 v2 v3 v4:Value}{d0 d1 d2 d3 d4:DataW H}{p0 p1 p2 p3 p4:List MemPlace}(h0:DataW.Trod enc P w base spare held t0 v0 d0 p0)(h1:DataW.Trod enc P w base spare held t1 v1 d1 p1)
  (h2:DataW.Trod enc P w base spare held t2 v2 d2 p2) (h3:DataW.Trod enc P w base spare held t3 v3 d3 p3) (h4:DataW.Trod enc P w base spare held t4 v4 d4 p4):DataW.TrodAll enc P w base spare held [t0,t1,t2,t3,t4] [v0,v1,v2,v3,v4] [d0,d1,d2,d3,d4] (p0++(p1++(p2++(p3++p4)))):=
 ⟨p0,p1++(p2++(p3++p4)),h0,trodAll_mk4 h1 h2 h3 h4,rfl⟩
end
end Go.Abs

