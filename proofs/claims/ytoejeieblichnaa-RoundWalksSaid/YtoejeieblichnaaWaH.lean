/- An evaluator of the code of a program, its soundness, what calls ask, memory, and what functions of the program do. Condition: none; a lemma text of this claim. -/
import Derived.Test.YtoejeieblichnaaWaG

namespace Go.Proofs.Ytoejeieblichnaa
open _root_.Go.Proofs.Try
open Go.Abs
set_option maxRecDepth 100000
noncomputable section
theorem s_rRest_F : ∀ (d_ : Nat) (r : Rnd) (p : Pt) (left : Int) (ca105 : C) (m f : M) (Q : V → M → Prop) (rz : Int), Pre f m → Sl f ca105 r.Farms → prRest_F d_ r p left = some rz → (∀ m', Ext m m' → Q (.c (Il rz)) m') → Wc prog tbl 64 [.agg 6 [(Il r.Adjusters), (Il r.Last), (Il r.Miles), (Il r.Home.X), (Il r.Home.Y), ca105], .agg 2 [(Il p.X), (Il p.Y)], .c (Il left)] m Q := by
 intro d_
 induction d_ with
 | zero => intro r p left ca105 m f Q rz hS d hp; cases hp
 | succ d_ ih =>
 intro r p left ca105 m f Q rz hS d hp hq
 have S0 := hS.st
 obtain ⟨τ0, _⟩ : ∃ τ : Nat → Nat, True := ⟨fun _ => 0, trivial⟩
 refine w64 ?_
 rw [prRest_F] at hp
 intro m0 N
 obtain ⟨O, P, Ra, S⟩ := S0.blk N τ0 1
 intro m1 T
 obtain ⟨A, t, Z, h⟩ := P.blk T O 2
 have e := S.k Z
 refine ifd hp (fun aa hp => ?_) fun aa hp => ?_
 ·refine ⟨_, _, h.bk.ra, trivial, _, _, e.bk.rp (k := 3) (j := 2) rfl (by omega), ?_⟩
  obtain ⟨Sa, ba, hp⟩ := bsome hp
  refine s_rDistance (a := p) (b := r.Home) t.pre  ba fun m7 ca => ?_
  obtain ⟨da, Ta⟩ := t.call ca A
  refine ⟨_, rfl, ?_⟩
  obtain rfl := Option.some.inj hp
  exact hq _ da.ext'
 intro R9 La
 have hgo : ∀ (n : Nat) (x : Int) (s : Int) (l : M) (g : Nat → Nat), St (Fm.of m) f f l → Lb (Fm.of m) f g l 1 m.nxt 6 [(Il r.Adjusters), (Il r.Last), (Il r.Miles), (Il r.Home.X), (Il r.Home.Y), ca105] → Lb (Fm.of m) f g l 2 m0.nxt 2 [(Il p.X), (Il p.Y)] → prRest_L0 (prRest_F d_) r p left n x s = some rz → R9 [.c (Il x), .c (Il s)] l := by
  intro n
  induction n with
  | zero => intro x s l g i e h hp; cases hp
  | succ n B =>
   intro x s l g i e h hp
   refine La _ _ _ ?_
   rw [prRest_L0] at hp
   refine ⟨trivial, _, e.bk.rc rfl, d.isSl, ?_⟩
   try rw [d.slLen]
   refine ifd hp (fun ea hp => ?_) fun ea hp => ?_; rotate_left
   ·obtain rfl := Option.some.inj hp
    exact hq _ i.ext'
   refine gdi hp fun fa hp => ?_
   refine gdi hp fun ga hp => ?_
   refine gdi hp fun ha hp => ?_
   refine gdi hp fun ia hp => ?_
   refine gdi hp fun ja hp => ?_
   refine gdi hp fun ka hp => ?_
   refine gdi hp fun la hp => ?_
   refine ifd hp (fun ma hp => ?_) fun ma hp => ?_; rotate_left
   ·refine gdi hp fun na hp => ?_
    exact B _ _ _ g i e h hp
   refine ⟨_, _, h.bk.ra, trivial, _, e.bk.rc rfl, ?_⟩
   obtain ⟨oa, o, hp⟩ := bsome hp
   obtain ⟨Ma, I, y, o⟩ := idx_some o
   obtain ⟨_, pa⟩ := rd_Frm d o
   refine ⟨Ma, I, (by first | exact y | (rw [d.slLen]; exact y)), (d.isPt o _), _, _, ((pa _ i.sub).2.2 0 2 (by omega) (by decide)), ?_⟩
   obtain ⟨Va, qa, hp⟩ := bsome hp
   refine s_rDistance (a := p) (b := oa.At) i.pre  qa fun Xa sa => ?_
   obtain ⟨u, D⟩ := i.call sa g
   have w := e.k D
   have ta := h.k D
   refine ⟨_, rfl, _, _, _, _, _, _, w.bk.ra, (by rw [show allS cmC _ = true from cmL_of (nf_cons rfl (nf_cons rfl (nf_cons rfl (nf_cons rfl (nf_cons rfl (nf_cons d.noFn nf_nil))))))]; exact (e.bk.ra)), trivial, _, w.bk.rc rfl, (by rw [show cmC _ = true from cmC_of (d.noFn)]; exact (e.bk.rc rfl)), ?_⟩
   obtain ⟨ua, q, hp⟩ := bsome hp
   obtain ⟨Na, J, z, q⟩ := idx_some q
   obtain ⟨_, F⟩ := rd_Frm d q
   refine ⟨Na, J, (by first | exact z | (rw [d.slLen]; exact z)), (d.isPt q _), _, _, ((F _ u.sub).2.2 0 2 (by omega) (by decide)), ((F _ i.sub).2.2 0 2 (by omega) (by decide)), ?_⟩
   refine gdi hp fun va hp => ?_
   refine gdi hp fun wa hp => ?_
   refine gdi hp fun xa hp => ?_
   refine gdi hp fun ya hp => ?_
   refine gdi hp fun za hp => ?_
   refine gdi hp fun Aa hp => ?_
   refine gdi hp fun Ba hp => ?_
   refine gdi hp fun Ca hp => ?_
   refine gdi hp fun Da hp => ?_
   obtain ⟨Wa, Ea, hp⟩ := bsome hp
   refine ih r ua.At (((Nat.xor (Int.toNat left) (Nat.land (Int.toNat left) (Int.toNat ((1 : Int) * ((2 : Int) ^ (Int.toNat (wrapZ .u64 s))))))) : Nat) : Int) _ _ _ _ _ u.pre d Ea fun Ya Fa => ?_
   obtain ⟨Ga, G⟩ := u.call Fa g
   have Ha := w.k G
   have Ia := ta.k G
   refine ⟨_, rfl, ?_⟩
   refine gdi hp fun Ja hp => ?_
   refine gdi hp fun Ka hp => ?_
   exact B _ _ _ g Ga Ha Ia hp
 exact hgo _ _ _ _ A t e h hp
theorem s_rRest {r : Rnd} {p : Pt} {left : Int} {ca105 : C} {m f : M} {Q : V → M → Prop} {rz : Int} (hS : Pre f m) (ha105 : Sl f ca105 r.Farms) (hp : prRest r p left = some rz) (hq : ∀ m', Ext m m' → Q (.c (Il rz)) m') : Wc prog tbl 64 [.agg 6 [(Il r.Adjusters), (Il r.Last), (Il r.Miles), (Il r.Home.X), (Il r.Home.Y), ca105], .agg 2 [(Il p.X), (Il p.Y)], .c (Il left)] m Q := s_rRest_F _ r p left ca105 m f Q rz hS ha105 hp hq
theorem s_rShortest {r : Rnd} {bits : Int} {ca105 : C} {m f : M} {Q : V → M → Prop} {rz : Int} (hS : Pre f m) (ha105 : Sl f ca105 r.Farms) (hp : prShortest r bits = some rz) (hq : ∀ m', Ext m m' → Q (.c (Il rz)) m') : Wc prog tbl 23 [.agg 6 [(Il r.Adjusters), (Il r.Last), (Il r.Miles), (Il r.Home.X), (Il r.Home.Y), ca105], .c (Il bits)] m Q := by
 have l := hS.st
 obtain ⟨n, _⟩ : ∃ τ : Nat → Nat, True := ⟨fun _ => 0, trivial⟩
 refine w23 ?_
 unfold prShortest at hp
 intro u d
 obtain ⟨e, a, o, b⟩ := l.blk d n 1
 refine ⟨_, _, _, _, _, _, b.bk.ra, trivial, _, _, b.bk.rp (k := 3) (j := 2) rfl (by omega), ?_⟩
 obtain ⟨q, g, hp⟩ := bsome hp
 refine s_rRest (r := r) (p := r.Home) (left := bits) a.pre ha105 g fun t h => ?_
 obtain ⟨i, s⟩ := a.call h e
 refine ⟨_, rfl, ?_⟩
 obtain rfl := Option.some.inj hp
 exact hq _ i.ext'
theorem s_RoundWalks {r : Rnd} {l : List Int} {ca105 ca200 : C} {m f : M} {Q : V → M → Prop} {rz : Bool} (hS : Pre f m) (ha105 : Sl f ca105 r.Farms) (ha200 : Sl f ca200 l) (hp : pRoundWalks r l = some rz) (hq : ∀ m', Ext m m' → Q (.c (.bool rz)) m') : Wc prog tbl 3 [.agg 6 [(Il r.Adjusters), (Il r.Last), (Il r.Miles), (Il r.Home.X), (Il r.Home.Y), ca105], .c ca200] m Q := by
 have S0 := hS.st
 obtain ⟨τ0, _⟩ : ∃ τ : Nat → Nat, True := ⟨fun _ => 0, trivial⟩
 refine w3 ?_
 unfold pRoundWalks at hp
 intro m0 ua
 obtain ⟨b, p, Cc, J⟩ := S0.blk ua τ0 1
 refine ⟨trivial, _, J.bk.rc rfl, ha105.isSl, ?_⟩
 try rw [ha105.slLen]
 refine ifd hp (fun va hp => ?_) fun va hp => ?_
 ·obtain ⟨Dc, wa, hp⟩ := bsome hp
  refine s_awake p.pre  wa fun m3 xa => ?_
  obtain ⟨ya, Ec⟩ := p.call xa b
  refine ⟨_, rfl, ?_⟩
  obtain rfl := Option.some.inj hp
  exact hq _ ya.ext'
 refine ⟨ha200.isSl, ?_⟩
 try rw [ha200.slLen]
 refine ifd hp (fun za hp => ?_) fun za hp => ?_
 ·obtain ⟨Fc, Aa, hp⟩ := bsome hp
  refine s_awake p.pre  Aa fun m6 Ba => ?_
  obtain ⟨Ca, Gc⟩ := p.call Ba b
  refine ⟨_, rfl, ?_⟩
  obtain rfl := Option.some.inj hp
  exact hq _ Ca.ext'
 refine ⟨_, _, _, _, _, _, J.bk.ra, ?_⟩
 obtain ⟨Da, Ea, hp⟩ := bsome hp
 refine s_lRound (r := r) p.pre ha105 Ea fun nd Hc Ic Fa Ga => ?_
 obtain ⟨da, d⟩ := p.callG Fa b
 have Ha := J.k d
 refine ⟨_, _, _, _, _, _, rfl, ?_⟩
 obtain ⟨Ia, Ja, hp⟩ := bsome hp
 refine s_lList (l := l) da.pre (ha200.sub d.fs) Ja fun od Jc Kc Ka La => ?_
 obtain ⟨ea, e⟩ := da.callG Ka b
 have Ma := Ha.k e
 refine ⟨_, rfl, ?_⟩
 obtain ⟨y, Na, hp⟩ := bsome hp
 refine s_Walk (r := Da) (farms := Ia) ea.pre (Ga.sub e.fs) La Na fun pd Lc Nc Oa a => ?_
 obtain ⟨fa, h⟩ := ea.callG Oa b
 have ga := Ma.k h
 refine ⟨_, _, _, rfl, _, _, _, _, _, _, ga.bk.ra, ?_⟩
 obtain ⟨Oc, Pa, hp⟩ := bsome hp
 refine s_lFault (r := r) fa.pre (ha105.sub (Sub.trans (Sub.trans d.fs e.fs) h.fs)) Pa fun qd Qa => ?_
 obtain ⟨ha, Ra⟩ := fa.call Qa b
 have ia := ga.k Ra
 refine ⟨_, rfl, _, _, _, _, _, _, ia.bk.ra, ?_⟩
 obtain ⟨Sa, Ta, hp⟩ := bsome hp
 refine s_lRound (r := r) ha.pre (ha105.sub (Sub.trans (Sub.trans d.fs e.fs) h.fs)) Ta fun sd z Pc Ua Va => ?_
 obtain ⟨ja, g⟩ := ha.callG Ua b
 have Wa := ia.k g
 refine ⟨_, _, _, _, _, _, rfl, ?_⟩
 obtain ⟨Qc, Xa, hp⟩ := bsome hp
 refine s_check (r := Sa) ja.pre Va Xa fun td Ya => ?_
 obtain ⟨n, Za⟩ := ja.call Ya b
 have ka := Wa.k Za
 refine ⟨_, rfl, ?_⟩
 refine ifnd hp (fun ab hp => ?_) fun ab hp => ?_
 ·obtain rfl := Option.some.inj hp
  exact hq _ n.ext'
 refine ifd hp (fun N hp => ?_) fun N hp => ?_; rotate_left
 ·refine ifnkf N ?_
  refine ifd hp (fun bb hp => ?_) fun bb hp => ?_; rotate_left
  ·obtain rfl := Option.some.inj hp
   exact hq _ n.ext'
  refine ⟨a.isSl, ?_⟩
  try rw [a.slLen]
  refine ifd hp (fun cb hp => ?_) fun cb hp => ?_; rotate_left
  ·obtain rfl := Option.some.inj hp
   exact hq _ n.ext'
  refine ifd hp (fun db hp => ?_) fun db hp => ?_; rotate_left
  ·obtain rfl := Option.some.inj hp
   exact hq _ n.ext'
  obtain ⟨Rc, eb, hp⟩ := bsome hp
  refine s_awake n.pre  eb fun Tc fb => ?_
  obtain ⟨gb, Uc⟩ := n.call fb b
  refine ⟨_, rfl, ?_⟩
  obtain rfl := Option.some.inj hp
  exact hq _ gb.ext'
 refine ⟨_, _, _, _, _, _, ka.bk.ra, ?_⟩
 obtain ⟨Vc, hb, hp⟩ := bsome hp
 refine s_rDifferent (r := r) (l := l) n.pre (ha105.sub (Sub.trans (Sub.trans (Sub.trans d.fs e.fs) h.fs) g.fs)) (ha200.sub (Sub.trans (Sub.trans (Sub.trans d.fs e.fs) h.fs) g.fs)) hb fun ud ib => ?_
 obtain ⟨q, jb⟩ := n.call ib b
 have o := ka.k jb
 refine ⟨_, rfl, ?_⟩
 refine ifnb hp (fun kb hp => ?_) fun kb hp => ?_
 ·refine ifd hp (fun mb hp => ?_) fun mb hp => ?_; rotate_left
  ·obtain rfl := Option.some.inj hp
   exact hq _ q.ext'
  refine ⟨a.isSl, ?_⟩
  try rw [a.slLen]
  refine ifd hp (fun ob hp => ?_) fun ob hp => ?_; rotate_left
  ·obtain rfl := Option.some.inj hp
   exact hq _ q.ext'
  refine ifd hp (fun pb hp => ?_) fun pb hp => ?_; rotate_left
  ·obtain rfl := Option.some.inj hp
   exact hq _ q.ext'
  obtain ⟨Xc, qb, hp⟩ := bsome hp
  refine s_awake q.pre  qb fun vd rb => ?_
  obtain ⟨sb, Yc⟩ := q.call rb b
  refine ⟨_, rfl, ?_⟩
  obtain rfl := Option.some.inj hp
  exact hq _ sb.ext'
 intro yc tb
 have hgo : ∀ (A : Nat) (x : Int) (aa : Int) (I : M) (i : Nat → Nat), St (Fm.of m) f z I → Lb (Fm.of m) z i I 1 m.nxt 6 [(Il r.Adjusters), (Il r.Last), (Il r.Miles), (Il r.Home.X), (Il r.Home.Y), ca105] → pRoundWalks_L0 r l y A x aa = some rz → yc [.c (Il x), .c (Il aa)] I := by
  intro A
  induction A with
  | zero => intro x aa I i t o hp; cases hp
  | succ A pa =>
   intro x aa I i t o hp
   refine tb _ _ _ ?_
   rw [pRoundWalks_L0] at hp
   refine ⟨ha200.isSl, ?_⟩
   try rw [ha200.slLen]
   refine ifd hp (fun ub hp => ?_) fun ub hp => ?_
   ·obtain ⟨Zc, O, hp⟩ := bsome hp
    obtain ⟨zc, qa, ba, O⟩ := idx_some O
    refine ⟨zc, qa, (by first | exact ba | (rw [ha200.slLen]; exact ba)), _, (ha200.rdI O (Sub.trans (Sub.trans (Sub.trans (Sub.trans d.fs e.fs) h.fs) g.fs) t.sub)), ?_⟩
    refine gdi hp fun vb hp => ?_
    refine gdi hp fun wb hp => ?_
    refine gdi hp fun xb hp => ?_
    refine gdi hp fun yb hp => ?_
    refine gdi hp fun zb hp => ?_
    refine gdi hp fun Ab hp => ?_
    refine gdi hp fun Bb hp => ?_
    refine gdi hp fun Cb hp => ?_
    refine gdi hp fun Db hp => ?_
    refine gdi hp fun Eb hp => ?_
    exact pa _ _ _ i t o hp
   refine ⟨_, _, _, _, _, _, o.bk.ra, ?_⟩
   obtain ⟨ad, Fb, hp⟩ := bsome hp
   refine s_rShortest (r := r) (bits := x) t.pre (ha105.sub (Sub.trans (Sub.trans (Sub.trans d.fs e.fs) h.fs) g.fs)) Fb fun wd Gb => ?_
   obtain ⟨j, Hb⟩ := t.call Gb i
   have P := o.k Hb
   refine ⟨_, rfl, trivial, _, P.bk.rc rfl, (o.bk.rc rfl), ?_⟩
   refine ifd hp (fun Ib hp => ?_) fun Ib hp => ?_
   ·refine ifd hp (fun Jb hp => ?_) fun Jb hp => ?_; rotate_left
    ·obtain rfl := Option.some.inj hp
     exact hq _ j.ext'
    refine ⟨a.isSl, ?_⟩
    try rw [a.slLen]
    refine ifd hp (fun Kb hp => ?_) fun Kb hp => ?_; rotate_left
    ·obtain rfl := Option.some.inj hp
     exact hq _ j.ext'
    refine ifd hp (fun Mb hp => ?_) fun Mb hp => ?_; rotate_left
    ·obtain rfl := Option.some.inj hp
     exact hq _ j.ext'
    obtain ⟨bd, Nb, hp⟩ := bsome hp
    refine s_awake j.pre  Nb fun xd Ob => ?_
    obtain ⟨Qb, cd⟩ := j.call Ob i
    refine ⟨_, rfl, ?_⟩
    obtain rfl := Option.some.inj hp
    exact hq _ Qb.ext'
   refine ifnkt N ?_
   refine ifnd hp (fun Rb hp => ?_) fun Rb hp => ?_
   ·obtain rfl := Option.some.inj hp
    exact hq _ j.ext'
   refine ⟨a.isSl, ha200.isSl, ?_⟩
   try rw [a.slLen]
   try rw [ha200.slLen]
   refine ifnd hp (fun Sb hp => ?_) fun Sb hp => ?_
   ·obtain rfl := Option.some.inj hp
    exact hq _ j.ext'
   refine ⟨_, _, _, _, _, _, P.bk.ra, ?_⟩
   obtain ⟨dd, Tb, hp⟩ := bsome hp
   refine s_rDifferent (r := r) (l := y.1) j.pre (ha105.sub (Sub.trans (Sub.trans (Sub.trans d.fs e.fs) h.fs) g.fs)) (a.sub g.fs) Tb fun yd Ub => ?_
   obtain ⟨S, Vb⟩ := j.call Ub i
   have la := P.k Vb
   refine ⟨_, rfl, ?_⟩
   refine ifnb hp (fun Wb hp => ?_) fun Wb hp => ?_
   ·obtain rfl := Option.some.inj hp
    exact hq _ S.ext'
   refine ⟨_, _, _, _, _, _, la.bk.ra, ?_⟩
   obtain ⟨ed, Xb, hp⟩ := bsome hp
   refine s_rLength (r := r) (l := y.1) S.pre (ha105.sub (Sub.trans (Sub.trans (Sub.trans d.fs e.fs) h.fs) g.fs)) (a.sub g.fs) Xb fun fd Yb => ?_
   obtain ⟨T, Zb⟩ := S.call Yb i
   have ma := la.k Zb
   refine ⟨_, rfl, ?_⟩
   refine ifnd hp (fun ac hp => ?_) fun ac hp => ?_
   ·obtain rfl := Option.some.inj hp
    exact hq _ T.ext'
   refine ⟨_, _, _, _, _, _, ma.bk.ra, ?_⟩
   obtain ⟨hd, bc, hp⟩ := bsome hp
   refine s_rShortest (r := r) (bits := x) T.pre (ha105.sub (Sub.trans (Sub.trans (Sub.trans d.fs e.fs) h.fs) g.fs)) bc fun id cc => ?_
   obtain ⟨na, dc⟩ := T.call cc i
   have B := ma.k dc
   refine ⟨_, rfl, ?_⟩
   refine ifnd hp (fun ec hp => ?_) fun ec hp => ?_
   ·obtain rfl := Option.some.inj hp
    exact hq _ na.ext'
   intro fc sa
   have hgo : ∀ (D : Nat) (F : Int) (G : Int) (u : M) (w : Nat → Nat), St (Fm.of m) f z u → Lb (Fm.of m) z w u 1 m.nxt 6 [(Il r.Adjusters), (Il r.Last), (Il r.Miles), (Il r.Home.X), (Il r.Home.Y), ca105] → pRoundWalks_L1 y D F G = some rz → fc [.c (Il F), .c (Il G)] u := by
    intro D
    induction D with
    | zero => intro F G u w s B hp; cases hp
    | succ D oa =>
     intro F G u w s B hp
     refine sa _ _ _ ?_
     rw [pRoundWalks_L1] at hp
     refine ⟨a.isSl, ?_⟩
     try rw [a.slLen]
     refine ifd hp (fun gc hp => ?_) fun gc hp => ?_; rotate_left
     ·refine ifd hp (fun hc hp => ?_) fun hc hp => ?_; rotate_left
      ·obtain rfl := Option.some.inj hp
       exact hq _ s.ext'
      obtain ⟨jd, ic, hp⟩ := bsome hp
      refine s_awake s.pre  ic fun kd jc => ?_
      obtain ⟨kc, ld⟩ := s.call jc w
      refine ⟨_, rfl, ?_⟩
      obtain rfl := Option.some.inj hp
      exact hq _ kc.ext'
     obtain ⟨md, Z, hp⟩ := bsome hp
     obtain ⟨lc, ta, ca, Z⟩ := idx_some Z
     refine ⟨lc, ta, (by first | exact ca | (rw [a.slLen]; exact ca)), _, (a.rdI Z (Sub.trans g.fs s.sub)), ?_⟩
     refine gdi hp fun nc hp => ?_
     refine gdi hp fun oc hp => ?_
     refine gdi hp fun pc hp => ?_
     refine gdi hp fun qc hp => ?_
     refine gdi hp fun sc hp => ?_
     refine gdi hp fun tc hp => ?_
     refine gdi hp fun uc hp => ?_
     refine gdi hp fun vc hp => ?_
     refine gdi hp fun wc hp => ?_
     refine gdi hp fun xc hp => ?_
     exact oa _ _ _ w s B hp
   exact hgo _ _ _ _ i na B hp
 exact hgo _ _ _ _ b q o hp
theorem s_RoundLengths {r : Rnd} {bits : Int} {part : Int} {ca105 : C} {m f : M} {Q : V → M → Prop} {rz : Bool} (hS : Pre f m) (ha105 : Sl f ca105 r.Farms) (hp : pRoundLengths r bits part = some rz) (hq : ∀ m', Ext m m' → Q (.c (.bool rz)) m') : Wc prog tbl 9 [.agg 6 [(Il r.Adjusters), (Il r.Last), (Il r.Miles), (Il r.Home.X), (Il r.Home.Y), ca105], .c (.int .u8 bits), .c (.int .u8 part)] m Q := by
 have S0 := hS.st
 obtain ⟨τ0, _⟩ : ∃ τ : Nat → Nat, True := ⟨fun _ => 0, trivial⟩
 refine w9 ?_
 unfold pRoundLengths at hp
 intro m0 Ia
 obtain ⟨d, B, Nc, N⟩ := S0.blk Ia τ0 1
 refine ⟨trivial, _, N.bk.rc rfl, ha105.isSl, ?_⟩
 try rw [ha105.slLen]
 refine ifd hp (fun Ja hp => ?_) fun Ja hp => ?_
 ·obtain ⟨Oc, Ka, hp⟩ := bsome hp
  refine s_awake B.pre  Ka fun m3 La => ?_
  obtain ⟨Ma, Pc⟩ := B.call La d
  refine ⟨_, rfl, ?_⟩
  obtain rfl := Option.some.inj hp
  exact hq _ Ma.ext'
 refine ⟨_, _, _, _, _, _, N.bk.ra, ?_⟩
 obtain ⟨Qc, Na, hp⟩ := bsome hp
 refine s_rFault (r := r) B.pre ha105 Na fun Gd Oa => ?_
 obtain ⟨D, Pa⟩ := B.call Oa d
 have O := N.k Pa
 refine ⟨_, rfl, ?_⟩
 refine ifnd hp (fun Qa hp => ?_) fun Qa hp => ?_
 ·obtain ⟨Rc, Ra, hp⟩ := bsome hp
  refine s_awake D.pre  Ra fun Hd Sa => ?_
  obtain ⟨Ta, Tc⟩ := D.call Sa d
  refine ⟨_, rfl, ?_⟩
  obtain rfl := Option.some.inj hp
  exact hq _ Ta.ext'
 refine ⟨_, _, _, _, _, _, O.bk.ra, ?_⟩
 obtain ⟨Ua, Va, hp⟩ := bsome hp
 refine s_lSet (r := r) (bits := bits) D.pre ha105 Va fun Id Uc Vc Wa P => ?_
 obtain ⟨ja, o⟩ := D.callG Wa d
 have ka := O.k o
 refine ⟨_, rfl, _, _, _, _, _, _, ka.bk.ra, (by rw [show allS cmC _ = true from cmL_of (nf_cons rfl (nf_cons rfl (nf_cons rfl (nf_cons rfl (nf_cons rfl (nf_cons ha105.noFn nf_nil))))))]; exact (O.bk.ra)), ?_⟩
 refine gdi hp fun Xa hp => ?_
 refine gdi hp fun Ya hp => ?_
 refine gdi hp fun Za hp => ?_
 refine gdi hp fun ab hp => ?_
 refine gdi hp fun bb hp => ?_
 obtain ⟨cb, db, hp⟩ := bsome hp
 refine s_lSet (r := r) (bits := (((Nat.land (Int.toNat bits) (Int.toNat part)) : Nat) : Int)) ja.pre (ha105.sub o.fs) db fun Jd Xc Yc eb fb => ?_
 obtain ⟨la, p⟩ := ja.callG eb d
 have ma := ka.k p
 refine ⟨_, rfl, _, _, _, _, _, _, ma.bk.ra, ?_⟩
 obtain ⟨gb, hb, hp⟩ := bsome hp
 refine s_lRound (r := r) la.pre (ha105.sub (Sub.trans o.fs p.fs)) hb fun Ld Zc ad ib jb => ?_
 obtain ⟨na, q⟩ := la.callG ib d
 have kb := ma.k q
 refine ⟨_, _, _, _, _, _, rfl, ?_⟩
 obtain ⟨mb, ob, hp⟩ := bsome hp
 refine s_lList (l := Ua) na.pre (P.sub (Sub.trans p.fs q.fs)) ob fun Md bd cd pb qb => ?_
 obtain ⟨oa, s⟩ := na.callG pb d
 have rb := kb.k s
 refine ⟨_, rfl, ?_⟩
 obtain ⟨S, sb, hp⟩ := bsome hp
 refine s_Walk (r := gb) (farms := mb) oa.pre (jb.sub s.fs) qb sb fun Nd dd ed tb e => ?_
 obtain ⟨pa, t⟩ := oa.callG tb d
 have qa := rb.k t
 refine ⟨_, _, _, rfl, _, _, _, _, _, _, qa.bk.ra, ?_⟩
 obtain ⟨ub, vb, hp⟩ := bsome hp
 refine s_lRound (r := r) pa.pre (ha105.sub (Sub.trans (Sub.trans (Sub.trans (Sub.trans o.fs p.fs) q.fs) s.fs) t.fs)) vb fun Pd fd hd wb xb => ?_
 obtain ⟨sa, h⟩ := pa.callG wb d
 have yb := qa.k h
 refine ⟨_, _, _, _, _, _, rfl, ?_⟩
 obtain ⟨zb, Ab, hp⟩ := bsome hp
 refine s_lList (l := cb) sa.pre (fb.sub (Sub.trans (Sub.trans (Sub.trans q.fs s.fs) t.fs) h.fs)) Ab fun Qd id jd Bb Cb => ?_
 obtain ⟨ta, i⟩ := sa.callG Bb d
 have Db := yb.k i
 refine ⟨_, rfl, ?_⟩
 obtain ⟨kd, Eb, hp⟩ := bsome hp
 refine s_Walk (r := ub) (farms := zb) ta.pre (xb.sub i.fs) Cb Eb fun Rd F ld Fb md => ?_
 obtain ⟨g, n⟩ := ta.callG Fb d
 have ua := Db.k n
 refine ⟨_, _, _, rfl, ?_⟩
 refine ifnd hp (fun Gb hp => ?_) fun Gb hp => ?_
 ·refine ifd hp (fun Hb hp => ?_) fun Hb hp => ?_; rotate_left
  ·obtain rfl := Option.some.inj hp
   exact hq _ g.ext'
  refine ifd hp (fun Ib hp => ?_) fun Ib hp => ?_
  ·obtain ⟨nd, Jb, hp⟩ := bsome hp
   refine s_awake g.pre  Jb fun Sd Kb => ?_
   obtain ⟨Mb, od⟩ := g.call Kb d
   refine ⟨_, rfl, ?_⟩
   obtain rfl := Option.some.inj hp
   exact hq _ Mb.ext'
  refine ifd hp (fun Nb hp => ?_) fun Nb hp => ?_; rotate_left
  ·obtain rfl := Option.some.inj hp
   exact hq _ g.ext'
  obtain ⟨pd, Ob, hp⟩ := bsome hp
  refine s_awake g.pre  Ob fun Td Qb => ?_
  obtain ⟨Rb, qd⟩ := g.call Qb d
  refine ⟨_, rfl, ?_⟩
  obtain rfl := Option.some.inj hp
  exact hq _ Rb.ext'
 refine ifnd hp (fun Sb hp => ?_) fun Sb hp => ?_
 ·obtain rfl := Option.some.inj hp
  exact hq _ g.ext'
 refine ifd hp (fun Tb hp => ?_) fun Tb hp => ?_
 ·obtain rfl := Option.some.inj hp
  exact hq _ g.ext'
 refine ⟨e.isSl, P.isSl, ?_⟩
 try rw [e.slLen]
 try rw [P.slLen]
 refine ifnd hp (fun Ub hp => ?_) fun Ub hp => ?_
 ·obtain rfl := Option.some.inj hp
  exact hq _ g.ext'
 refine ⟨_, _, _, _, _, _, ua.bk.ra, ?_⟩
 obtain ⟨sd, Vb, hp⟩ := bsome hp
 refine s_rDifferent (r := r) (l := S.1) g.pre (ha105.sub (Sub.trans (Sub.trans (Sub.trans (Sub.trans (Sub.trans (Sub.trans (Sub.trans o.fs p.fs) q.fs) s.fs) t.fs) h.fs) i.fs) n.fs)) (e.sub (Sub.trans (Sub.trans h.fs i.fs) n.fs)) Vb fun Ud Wb => ?_
 obtain ⟨T, Xb⟩ := g.call Wb d
 have u := ua.k Xb
 refine ⟨_, rfl, ?_⟩
 refine ifnb hp (fun Yb hp => ?_) fun Yb hp => ?_
 ·obtain rfl := Option.some.inj hp
  exact hq _ T.ext'
 refine ⟨trivial, _, u.bk.rc rfl, ?_⟩
 refine ifd hp (fun Zb hp => ?_) fun Zb hp => ?_
 ·obtain rfl := Option.some.inj hp
  exact hq _ T.ext'
 refine ⟨e.isSl, ?_⟩
 obtain ⟨va, hp⟩ := gd_some hp
 refine ⟨(by first | exact va | (rw [e.slLen]; exact va)), ?_⟩
 intro Jc ac
 try rw [e.slLen]
 have hgo : ∀ (G : Nat) (ea : C) (wa : Bool) (fa : Int) (x : List Int) (A : M) (w : Nat → Nat), St (Fm.of m) f F A → Lb (Fm.of m) F w A 1 m.nxt 6 [(Il r.Adjusters), (Il r.Last), (Il r.Miles), (Il r.Home.X), (Il r.Home.Y), ca105] → Ow (Fm.of m) F w A 2 ea x → pRoundLengths_L0 r S G x fa = some rz → Jc [.c ea, .c (.bool wa), .c (Il fa)] A := by
  intro G
  induction G with
  | zero => intro ea wa fa x A w y u z hp; cases hp
  | succ G Ea =>
   intro ea wa fa x A w y u z hp
   refine ac _ _ _ _ ?_
   rw [pRoundLengths_L0] at hp
   refine ifd hp (fun bc hp => ?_) fun bc hp => ?_; rotate_left
   ·refine ⟨_, _, _, _, _, _, u.bk.ra, ?_⟩
    obtain ⟨td, cc, hp⟩ := bsome hp
    refine s_rLength (r := r) (l := S.1) y.pre (ha105.sub (Sub.trans (Sub.trans (Sub.trans (Sub.trans (Sub.trans (Sub.trans (Sub.trans o.fs p.fs) q.fs) s.fs) t.fs) h.fs) i.fs) n.fs)) (e.sub (Sub.trans (Sub.trans h.fs i.fs) n.fs)) cc fun ud dc => ?_
    obtain ⟨xa, ya⟩ := y.call dc w
    have ec := u.k ya
    have z := z.k ya
    refine ⟨_, rfl, ?_⟩
    refine ifd hp (fun fc hp => ?_) fun fc hp => ?_; rotate_left
    ·obtain rfl := Option.some.inj hp
     exact hq _ xa.ext'
    refine ⟨_, _, _, _, _, _, ec.bk.ra, ?_⟩
    obtain ⟨vd, za, gc, hc⟩ := z.freeze xa
    obtain ⟨wd, ic, hp⟩ := bsome hp
    refine s_rLength (r := r) (l := x) za.pre (ha105.sub (Sub.trans (Sub.trans (Sub.trans (Sub.trans (Sub.trans (Sub.trans (Sub.trans (Sub.trans o.fs p.fs) q.fs) s.fs) t.fs) h.fs) i.fs) n.fs) gc.fs)) hc ic fun xd jc => ?_
    obtain ⟨Z, yd⟩ := za.call jc w
    refine ⟨_, rfl, ?_⟩
    refine ifd hp (fun kc hp => ?_) fun kc hp => ?_; rotate_left
    ·obtain rfl := Option.some.inj hp
     exact hq _ Z.ext'
    obtain ⟨zd, lc, hp⟩ := bsome hp
    refine s_awake Z.pre  lc fun Ad nc => ?_
    obtain ⟨oc, Bd⟩ := Z.call nc w
    refine ⟨_, rfl, ?_⟩
    obtain rfl := Option.some.inj hp
    exact hq _ oc.ext'
   obtain ⟨Aa, aa, hp⟩ := bsome hp
   obtain ⟨pc, Fa, ga, aa⟩ := idx_some aa
   refine ⟨pc, Fa, (by first | exact ga | (rw [e.slLen]; exact ga)), _, (e.rdI aa (Sub.trans (Sub.trans (Sub.trans h.fs i.fs) n.fs) y.sub)), ?_⟩
   obtain ⟨qc, hp⟩ := gd_some hp
   intro Cd sc
   obtain ⟨tc, uc, Ba, vc, I, wc, ba⟩ := z.app' ta27 y (a := Aa) (show Rp.rep (α := Int) F _ Aa from rfl) qc sc
   have ca := u.k wc
   refine ⟨tc, uc, vc, ?_⟩
   refine ⟨trivial, _, _, ca.bk.rp (k := 3) (j := 2) rfl (by omega), trivial, _, ca.bk.rc rfl, ?_⟩
   obtain ⟨Dd, da, hp⟩ := bsome hp
   obtain ⟨xc, Ga, ha, da⟩ := idx_some da
   refine ⟨xc, Ga, (by first | exact ha | (rw [e.slLen]; exact ha)), _, (e.rdI da (Sub.trans (Sub.trans (Sub.trans h.fs i.fs) n.fs) I.sub)), ?_⟩
   obtain ⟨yc, J, hp⟩ := bsome hp
   obtain ⟨zc, Ha, ia, J⟩ := idx_some J
   obtain ⟨_, Ac⟩ := rd_Frm ha105 J
   refine ⟨zc, Ha, (by first | exact ia | (rw [ha105.slLen]; exact ia)), (ha105.isPt J _), _, _, ((Ac _ (Sub.trans (Sub.trans (Sub.trans (Sub.trans (Sub.trans (Sub.trans (Sub.trans (Sub.trans o.fs p.fs) q.fs) s.fs) t.fs) h.fs) i.fs) n.fs) I.sub)).2.2 0 2 (by omega) (by decide)), ?_⟩
   obtain ⟨Ed, Bc, hp⟩ := bsome hp
   refine s_rDistance (a := r.Home) (b := yc.At) I.pre  Bc fun Fd Cc => ?_
   obtain ⟨Ca, Da⟩ := I.call Cc Ba
   have Dc := ca.k Da
   have ba := ba.k Da
   refine ⟨_, rfl, ?_⟩
   refine gdi hp fun Ec hp => ?_
   refine gdi hp fun Fc hp => ?_
   refine gdi hp fun Gc hp => ?_
   refine ifd hp (fun Hc hp => ?_) fun Hc hp => ?_
   ·obtain rfl := Option.some.inj hp
    exact hq _ Ca.ext'
   refine gdi hp fun Ic hp => ?_
   exact Ea _ _ _ _ _ Ba Ca Dc ba hp
 exact hgo _ _ _ _ _ _ d T u (Ow.nil _ _ _ _ _) hp
end
end Go.Proofs.Ytoejeieblichnaa

namespace Go.Proofs.Ytoejeieblichnaa
open _root_.Go.Proofs.Try
open Go.Abs Go.Abs.Rnd
set_option maxRecDepth 100000
noncomputable section
theorem aw : (pawake.bind fun r => some r) = some true := rfl
theorem wu {n : Nat} (h : n ≤ 64) : wrapZ .u64 (n : Int) = (n : Int) := wz (show (0 : Int) ≤ n ∧ (n : Int) < 18446744073709551616 by omega)
theorem pow5 {i : Nat} (h : i ≤ 5) : 2 ^ i ≤ 32 := Nat.le_trans (Nat.pow_le_pow_right (by omega) h) (by decide)
def ptOk (p : Pt) : Prop := (0 ≤ p.X ∧ p.X ≤ 9) ∧ 0 ≤ p.Y ∧ p.Y ≤ 9
def frOk (r : Rnd) (q : Frm) : Prop := ptOk q.At ∧ (0 ≤ q.Days.Lo ∧ q.Days.Lo ≤ q.Days.Hi) ∧ q.Days.Hi ≤ r.Last
def ManyR (r : Rnd) : Prop := 3 < r.Adjusters ∨ 5 < r.Last ∨ 30 < r.Miles ∨ 5 < r.Farms.length
structure VRn0 (r : Rnd) : Prop where
 adj : 1 ≤ r.Adjusters
 last : 0 ≤ r.Last
 miles : 0 ≤ r.Miles
 home : ptOk r.Home
 farms : ∀ q ∈ r.Farms, frOk r q
open Classical in
def faultR (r : Rnd) : Int := if ManyR r then 3 else if VRn0 r then 0 else 1
structure VRn (r : Rnd) : Prop extends VRn0 r where
 many : ¬ ManyR r
theorem fault_zero {r : Rnd} : faultR r = 0 ↔ VRn r := by
 unfold faultR
 split
 ·rename_i h; exact ⟨fun h => by omega, fun h' => absurd h h'.many⟩
 ·rename_i h
  split
  ·rename_i h2; exact ⟨fun _ => ⟨h2, h⟩, fun _ => rfl⟩
  ·rename_i h2; exact ⟨fun h => by omega, fun h' => absurd h'.toVRn0 h2⟩
theorem not_many {r : Rnd} (h : ¬ ManyR r) : r.Adjusters ≤ 3 ∧ r.Last ≤ 5 ∧ r.Miles ≤ 30 ∧ r.Farms.length ≤ 5 := by
 unfold ManyR at h; omega
theorem ptOk.ok {p : Pt} (h : ptOk p) : okP p := by unfold ptOk at h; unfold okP; omega
theorem VRn.ok {r : Rnd} (h : VRn r) : okW r := ⟨(not_many h.many).2.2.2, h.home.ok, fun q hq => (h.farms q hq).1.ok⟩
theorem In_ev {n lo hi : Int} : Ev (prIn n lo hi) (lo ≤ n ∧ n ≤ hi) := Ev.ite fun _ => Ev.dec Iff.rfl
theorem has_ev {r : Rg} {n : Int} : Ev (phas r n) (r.Lo ≤ n ∧ n ≤ r.Hi) := Ev.ite fun _ => Ev.dec Iff.rfl
theorem isPoint_ev {p : Pt} : Ev (prIsPoint p) (ptOk p) := Ev.and In_ev fun _ => In_ev.ret
theorem pvalid_ev {p : Pt} : Ev (ppvalid p) (ptOk p) := Ev.and has_ev fun _ => has_ev.ret
theorem hasDay_ev {r : Rnd} {n : Int} : Ev (phasDay r n) (0 ≤ n ∧ n ≤ r.Last) := has_ev.ret
theorem hasFarm_ev {r : Rnd} {n : Int} (h : r.Farms.length ≤ 1000) : Ev (phasFarm r n) (0 ≤ n ∧ n < (r.Farms.length : Int)) := (Ev.gd (fI (by omega)) has_ev.ret).imp (by show 0 ≤ n ∧ n ≤ (r.Farms.length : Int) - 1 ↔ _; omega)
theorem validFarm_ev {r : Rnd} {q : Frm} : Ev (pvalidFarm r q) (frOk r q) :=
 (Ev.and pvalid_ev fun _ => Ev.ite fun _ => Ev.and hasDay_ev fun _ => hasDay_ev.ret).imp ⟨fun ⟨a, b, c, d⟩ => ⟨a, ⟨c.1, b⟩, d.2⟩, fun ⟨a, b, c⟩ => ⟨a, b.2, ⟨b.1, Int.le_trans b.2 c⟩, Int.le_trans b.1 b.2, c⟩⟩
theorem tooMuch_ev {r : Rnd} : Ev (ptooMuch r) (ManyR r) := by
 unfold ptooMuch ManyR
 by_cases h1 : (3 : Int) < r.Adjusters
 ·rw [if_pos h1]; exact Ev.tt (.inl h1)
 rw [if_neg h1]
 by_cases h2 : (5 : Int) < r.Last
 ·rw [if_pos h2]; exact Ev.tt (.inr (.inl h2))
 rw [if_neg h2]
 by_cases h3 : (30 : Int) < r.Miles
 ·rw [if_pos h3]; exact Ev.tt (.inr (.inr (.inl h3)))
 rw [if_neg h3]; exact Ev.dec (by omega)
theorem gF {l : List Frm} {p : Frm → Option Bool} : ∀ {d : Nat} {x : Int}, pindexF_L0 l p d x = gIdx l p d x
 | 0, _ => rfl
 | d + 1, x => by unfold pindexF_L0 gIdx; simp only [gF (d := d)]
theorem eachF_ev {l : List Frm} {p : Frm → Option Bool} {q : Frm → Prop} (hp : ∀ a ∈ l, Ev (p a) (q a)) (hl : shrt l) : Ev (peachF l p) (∀ a ∈ l, q a) := Ev.each hp hl.lt gF
theorem valid_ev {r : Rnd} (h : ¬ ManyR r) : Ev (pvalid r) (VRn0 r) := by
 obtain ⟨h1, h2, h3, h4⟩ := not_many h
 refine (Ev.ite fun _ => Ev.ite fun _ => Ev.ite fun _ => Ev.and pvalid_ev fun _ => (eachF_ev (q := frOk r) (fun q _ => validFarm_ev) (fewS h4 (by omega))).ret).imp ?_
 exact ⟨fun ⟨a, b, c, d, e⟩ => ⟨a, b, c, d, e⟩, fun q => ⟨q.adj, q.last, q.miles, q.home, q.farms⟩⟩
theorem check_eq {r : Rnd} : pcheck r = some (faultR r) := by
 unfold pcheck faultR
 refine tooMuch_ev.pick (fun h => ?_) fun h => ?_
 ·rw [if_pos rfl, if_pos h]
 ·rw [if_neg (by simp), if_neg h]
  refine (valid_ev h).pick (fun hv => ?_) fun hv => ?_
  ·rw [if_pos rfl, if_pos hv]
  ·rw [if_neg (by simp), if_neg hv]
theorem fault_L0 {r : Rnd} (h : ¬ ManyR r) : ((∀ q ∈ r.Farms, frOk r q) → prFault_L0 r 1000000 0 = some 0) ∧ (¬ (∀ q ∈ r.Farms, frOk r q) → prFault_L0 r 1000000 0 = some 1) := by
 obtain ⟨h1, h2, h3, h4⟩ := not_many h
 refine loop_each (l := r.Farms) (F := fun d y => prFault_L0 r d y) (fun d k c hg => ?_) (fun d => by rw [prFault_L0, if_neg (Int.lt_irrefl _)]) (by omega)
 have hk := (List.getElem?_eq_some_iff.1 hg).1
 rw [prFault_L0, if_pos (by omega), idx_at hg, obs]
 unfold frOk
 by_cases q1 : ptOk c.At
 ·rw [isPoint_ev.some_of q1, obs, if_pos rfl]
  by_cases q2 : 0 ≤ c.Days.Lo ∧ c.Days.Lo ≤ c.Days.Hi
  ·rw [In_ev.some_of q2, obs, if_pos rfl]
   by_cases q3 : r.Last < c.Days.Hi
   ·rw [if_pos q3]; exact ⟨fun q => by omega, fun _ => rfl⟩
   ·rw [if_neg q3, gd_pos (fI (by omega))]; exact ⟨fun _ => rfl, fun q => absurd ⟨q1, q2, by omega⟩ q⟩
  ·rw [In_ev.some_not q2, obs, if_neg (by simp)]; exact ⟨fun q => absurd q.2.1 q2, fun _ => rfl⟩
 ·rw [isPoint_ev.some_not q1, obs, if_neg (by simp)]; exact ⟨fun q => absurd q.1 q1, fun _ => rfl⟩
theorem rFault_eq {r : Rnd} : prFault r = some (faultR r) := by
 unfold prFault faultR
 by_cases hm : ManyR r
 ·rw [if_pos hm]
  unfold ManyR at hm
  by_cases h1 : (3 : Int) < r.Adjusters
  ·rw [if_pos h1]
  rw [if_neg h1]
  by_cases h2 : (5 : Int) < r.Last
  ·rw [if_pos h2]
  rw [if_neg h2]
  by_cases h3 : (30 : Int) < r.Miles
  ·rw [if_pos h3]
  rw [if_neg h3, if_pos (by omega)]
 obtain ⟨h1, h2, h3, h4⟩ := not_many hm
 rw [if_neg hm, if_neg (by omega), if_neg (by omega), if_neg (by omega), if_neg (by omega)]
 by_cases q1 : r.Adjusters < 1
 ·rw [if_pos q1, if_neg fun hv => by have := hv.adj; omega]
 rw [if_neg q1]
 by_cases q2 : r.Last < 0
 ·rw [if_pos q2, if_neg fun hv => by have := hv.last; omega]
 rw [if_neg q2]
 by_cases q3 : r.Miles < 0
 ·rw [if_pos q3, if_neg fun hv => by have := hv.miles; omega]
 rw [if_neg q3]
 by_cases q4 : ptOk r.Home
 ·rw [isPoint_ev.some_of q4, obs, if_pos rfl]
  obtain ⟨f1, f2⟩ := fault_L0 hm
  by_cases q5 : ∀ q ∈ r.Farms, frOk r q
  ·rw [f1 q5, if_pos ⟨by omega, by omega, by omega, q4, q5⟩]
  ·rw [f2 q5, if_neg fun hv => q5 hv.farms]
 ·rw [isPoint_ev.some_not q4, obs, if_neg (by simp), if_neg fun hv => q4 hv.home]
theorem lFault_eq {r : Rnd} : plFault r = some (faultR r) := by unfold plFault; rw [rFault_eq]; rfl
theorem lRound_eq {r : Rnd} (h : r.Farms.length ≤ 7) : plRound r = some r := by
 have k1 := loopApp0 (l := r.Farms) (F := fun d acc x => plRound_L0 r d r.Adjusters r.Last r.Miles r.Home.X r.Home.Y acc x) (fun c : Frm => c) (fun acc => some ({ r with Farms := acc } : Rnd)) (fun d k acc a ha hac => by
  have hk := (List.getElem?_eq_some_iff.1 ha).1
  show plRound_L0 r (d + 1) _ _ _ _ _ _ _ = _
  rw [plRound_L0, if_pos (by omega), idx_at ha, obs, gd_pos (by omega), gd_pos (fI (by omega))]) (fun d acc => by show plRound_L0 r (d + 1) _ _ _ _ _ _ _ = _; rw [plRound_L0, if_neg (Int.lt_irrefl _)]) (d := 1000000) (by omega)
 unfold plRound
 refine k1.trans ?_
 rw [List.map_id']
theorem lList_eq {l : List Int} (h : l.length ≤ 100) : plList l = some l := by
 unfold plList
 rw [gd_pos (by show 0 + l.length ≤ 1048576; omega)]; rfl
theorem rDist_eq {p q : Pt} (hp : okP p) (hq : okP q) : prDistance p q = some (dsP p q) := dist_eq hp hq
theorem mtP : Mt dsP := ⟨fun a b => by unfold dsP; omega, fun a b => by unfold dsP; omega, fun a b c => by unfold dsP; omega, fun a => by unfold dsP; omega⟩
def posR (r : Rnd) (i : Nat) : Pt := match r.Farms[i]? with | some q => q.At | none => ⟨0, 0⟩
theorem posR_ok {r : Rnd} (h : okW r) (i : Nat) : okP (posR r i) := by
 unfold posR
 cases hq : r.Farms[i]? with
 | none => exact ⟨⟨by decide, by decide⟩, by decide, by decide⟩
 | some q => exact h.2.2 q (List.mem_of_getElem? hq)
def SS (s : Set5) (i : Nat) : Bool := ((sB s)[i]?).getD false
theorem SS_iff {s : Set5} {i : Nat} : SS s i = true ↔ (sB s)[i]? = some true := by
 unfold SS
 cases h : (sB s)[i]? with
 | none => simp
 | some v => simp
theorem SS_wo {s : Set5} {i : Nat} (hi : i < 5) (j : Nat) : SS (woS s (i : Int)) j = Rnd.delS (SS s) i j := by
 obtain ⟨a, b, c, d, e⟩ := s
 match j with
 | 0 | 1 | 2 | 3 | 4 =>
  match i, hi with
  | 0, _ | 1, _ | 2, _ | 3, _ | 4, _ => simp [SS, sB, woS, sti, Rnd.delS]
 | j + 5 => simp [SS, sB, Rnd.delS]
theorem emS_iff {s : Set5} : emS s = true ↔ ∀ i, SS s i = false := by
 obtain ⟨a, b, c, d, e⟩ := s
 constructor
 ·intro h i
  simp only [emS, Bool.and_eq_true, beq_iff_eq] at h
  obtain ⟨rfl, rfl, rfl, rfl, rfl⟩ := h
  match i with
  | 0 | 1 | 2 | 3 | 4 => rfl
  | j + 5 => simp [SS, sB]
 ·intro h
  have h0 := h 0; have h1 := h 1; have h2 := h 2; have h3 := h 3; have h4 := h 4
  simp only [SS, sB] at h0 h1 h2 h3 h4
  simp only [emS, Bool.and_eq_true, beq_iff_eq]
  exact ⟨h0, h1, h2, h3, h4⟩
theorem mem_rs {α : Type} (g : Nat → List α) (a : α) : ∀ (e n : Nat), a ∈ rests g e n ↔ ∃ j, n ≤ j ∧ j < n + e ∧ a ∈ g j
 | 0, n => ⟨fun h => (by cases h), fun ⟨j, h1, h2, _⟩ => by omega⟩
 | e + 1, n => by
  show a ∈ g n ++ rests g e (n + 1) ↔ _
  rw [List.mem_append, mem_rs g a e (n + 1)]
  constructor
  ·rintro (h | ⟨j, h1, h2, h3⟩)
   ·exact ⟨n, Nat.le_refl _, by omega, h⟩
   ·exact ⟨j, by omega, by omega, h3⟩
  ·rintro ⟨j, h1, h2, h3⟩
   by_cases hj : j = n
   ·subst hj; exact .inl h3
   ·exact .inr ⟨j, by omega, by omega, h3⟩
def wI (w : List Nat) : List Int := w.map fun (i : Nat) => (i : Int)
def InR (r : Rnd) (S : Nat → Bool) : Prop := ∀ i, S i = true → i < r.Farms.length
theorem mem_walks {r : Rnd} (hok : okW r) : ∀ (d : Nat) (p : Pt) (s : Set5) (pre : List Int) (ln : Int), caS s < d → InR r (SS s) → ∀ x, x ∈ walksL r.Home r.Farms d p s pre ln ↔ ∃ w, Od r.Farms.length (SS s) w ∧ x = (pre ++ wI w, ln + pl dsP (posR r) r.Home p w)
 | 0, _, _, _, _, h, _ => by omega
 | d + 1, p, s, pre, ln, h, hS => fun x => by
  unfold walksL
  by_cases he : emS s = true
  ·rw [if_pos he]
   have hz := emS_iff.1 he
   constructor
   ·intro hx
    exact ⟨[], (Od.nil_iff fun i _ => hz i).2 rfl, by rw [List.mem_singleton.1 hx]; show _ = (pre ++ [], _); rw [List.append_nil]; rfl⟩
   ·rintro ⟨w, hw, rfl⟩
    rw [(Od.nil_iff fun i _ => hz i).1 hw]
    show (pre ++ [], ln + dsP p r.Home) ∈ _
    rw [List.append_nil]
    exact List.mem_singleton.2 rfl
  ·rw [if_neg he, mem_rs]
   have hstep : ∀ j, j < r.Farms.length → SS s j = true → ∀ x, (x ∈ walksL r.Home r.Farms d (posR r j) (woS s (j : Int)) (pre ++ [(j : Int)]) (ln + dsP p (posR r j)) ↔ ∃ w, Od r.Farms.length (Rnd.delS (SS s) j) w ∧ x = (pre ++ wI (j :: w), ln + pl dsP (posR r) r.Home p (j :: w))) := fun j hj hs x => by
    have hj5 : j < 5 := by have := hok.1; omega
    have hca := caS_wo (SS_iff.1 hs)
    have hf : SS (woS s (j : Int)) = Rnd.delS (SS s) j := funext (SS_wo hj5)
    rw [mem_walks hok d (posR r j) (woS s (j : Int)) _ _ (by omega) (fun i hi => by rw [hf] at hi; exact hS i (delS_iff.1 hi).1) x, hf]
    refine exists_congr fun w => and_congr Iff.rfl ?_
    rw [List.append_assoc]
    show x = (pre ++ ([(j : Int)] ++ wI w), ln + dsP p (posR r j) + _) ↔ x = (pre ++ ((j : Int) :: wI w), ln + (dsP p (posR r j) + _))
    rw [Int.add_assoc]; rfl
   constructor
   ·rintro ⟨j, _, h2, h3⟩
    have hj : j < r.Farms.length := by omega
    have hq := List.getElem?_eq_getElem hj
    simp only [hq] at h3
    by_cases hs : (sB s)[j]? = some true
    ·rw [if_pos hs] at h3
     have hp : posR r j = (r.Farms[j]).At := by unfold posR; rw [hq]
     rw [← hp] at h3
     obtain ⟨w, w1, w2⟩ := (hstep j hj (SS_iff.2 hs) x).1 h3
     exact ⟨j :: w, Od.cons_iff.2 ⟨⟨hj, SS_iff.2 hs⟩, w1⟩, w2⟩
    ·rw [if_neg hs] at h3; cases h3
   ·rintro ⟨w, hw, hx⟩
    cases w with
    | nil =>
     refine absurd (emS_iff.2 fun i => ?_) he
     cases hs : SS s i with
     | false => rfl
     | true => exact absurd ((hw.2 i).2 ⟨hS i hs, hs⟩) (by simp)
    | cons j w =>
     obtain ⟨⟨hj, hs⟩, h1⟩ := Od.cons_iff.1 hw
     have hq := List.getElem?_eq_getElem hj
     have hp : posR r j = (r.Farms[j]).At := by unfold posR; rw [hq]
     refine ⟨j, Nat.zero_le _, by omega, ?_⟩
     simp only [hq]
     rw [if_pos (SS_iff.1 hs), ← hp]
     exact (hstep j hj hs x).2 ⟨w, h1, hx⟩
def lnA (r : Rnd) (p : Pt) (S : Nat → Bool) : Int := minL ((wks dsP (posR r) r.Home r.Farms.length (r.Farms.length + 1) p S [] 0).map Prod.snd)
theorem lnA_ln {r : Rnd} {p : Pt} {S : Nat → Bool} : Ln dsP (posR r) r.Home r.Farms.length p S (lnA r p S) := by
 have hm : ∀ x, x ∈ (wks dsP (posR r) r.Home r.Farms.length (r.Farms.length + 1) p S [] 0).map Prod.snd ↔ ∃ w, Od r.Farms.length S w ∧ pl dsP (posR r) r.Home p w = x := fun x => by
  have hc := cnt_le (S := S) (n := r.Farms.length)
  rw [List.mem_map]
  constructor
  ·rintro ⟨y, hy, rfl⟩
   obtain ⟨w, h1, rfl⟩ := (mem_wks _ _ _ _ _ (by omega) y).1 hy
   exact ⟨w, h1, (Int.zero_add _).symm⟩
  ·rintro ⟨w, h1, rfl⟩
   exact ⟨([] ++ w, 0 + pl dsP (posR r) r.Home p w), (mem_wks _ _ _ _ _ (by omega) _).2 ⟨w, h1, rfl⟩, Int.zero_add _⟩
 obtain ⟨w, hw⟩ := Od.ex r.Farms.length S
 obtain ⟨h1, h2⟩ := minL_mem (l := (wks dsP (posR r) r.Home r.Farms.length (r.Farms.length + 1) p S [] 0).map Prod.snd) fun h => by
  have := (hm _).2 ⟨w, hw, rfl⟩
  rw [h] at this; cases this
 exact ⟨(hm _).1 h1, fun w hw => h2 _ ((hm _).2 ⟨w, hw, rfl⟩)⟩
theorem pl_bd {r : Rnd} (hok : okW r) : ∀ (w : List Nat) (p : Pt), okP p → 0 ≤ pl dsP (posR r) r.Home p w ∧ pl dsP (posR r) r.Home p w ≤ 2000 * ((w.length : Int) + 1)
 | [], p, hp => by
  have := dsP_bd hp hok.2.1
  show 0 ≤ dsP p r.Home ∧ dsP p r.Home ≤ 2000 * (0 + 1)
  omega
 | i :: w, p, hp => by
  have h1 := dsP_bd hp (posR_ok hok i)
  have h2 := pl_bd hok w (posR r i) (posR_ok hok i)
  show 0 ≤ dsP p (posR r i) + _ ∧ dsP p (posR r i) + _ ≤ 2000 * (((w.length + 1 : Nat) : Int) + 1)
  omega
theorem Od.len {n : Nat} {S : Nat → Bool} {w : List Nat} (h : Od n S w) : w.length ≤ n := by
 have h2 : w ⊆ List.range n := fun i hi => List.mem_range.2 ((h.2 i).1 hi).1
 have := h.1.length_le_of_subset h2
 rw [List.length_range] at this
 exact this
theorem lnA_bd {r : Rnd} (hok : okW r) {p : Pt} (hp : okP p) {S : Nat → Bool} : 0 ≤ lnA r p S ∧ lnA r p S ≤ 12000 := by
 obtain ⟨⟨w, h1, h2⟩, _⟩ := lnA_ln (r := r) (p := p) (S := S)
 have := pl_bd hok w p hp
 have := Od.len h1
 have := hok.1
 omega
end
end Go.Proofs.Ytoejeieblichnaa

namespace Go.Proofs.Ytoejeieblichnaa
open _root_.Go.Proofs.Try
open Go.Abs Go.Abs.Rnd
set_option maxRecDepth 100000
noncomputable section
def setL (L : List Int) : Set5 := ⟨decide ((0 : Int) ∈ L), decide ((1 : Int) ∈ L), decide ((2 : Int) ∈ L), decide ((3 : Int) ∈ L), decide ((4 : Int) ∈ L)⟩
def noS : Set5 := ⟨false, false, false, false, false⟩
theorem SS_setL {L : List Int} {i : Nat} : SS (setL L) i = true ↔ i < 5 ∧ (i : Int) ∈ L := by
 match i with
 | 0 | 1 | 2 | 3 | 4 => simp [SS, sB, setL]
 | j + 5 => simp [SS, sB, setL]; omega
theorem idx_set {L : List Int} {x : Int} (h : 0 ≤ x ∧ x < 5) : idx ([(setL L).c0, (setL L).c1, (setL L).c2, (setL L).c3, (setL L).c4] : List Bool) x = some (decide (x ∈ L)) := by
 have : x = 0 ∨ x = 1 ∨ x = 2 ∨ x = 3 ∨ x = 4 := by omega
 rcases this with rfl | rfl | rfl | rfl | rfl <;> rfl
theorem sti_set {L : List Int} {x : Int} (i : Nat) : sti x i true (decide ((i : Int) ∈ L)) = decide ((i : Int) ∈ L ++ [x]) := by
 unfold sti
 by_cases h : x = (i : Int)
 ·rw [if_pos h]; simp [h]
 ·rw [if_neg h]
  have : ((i : Int) ∈ L ++ [x]) ↔ (i : Int) ∈ L := by simp; exact fun h' => absurd h'.symm h
  exact decide_eq_decide.2 this.symm
def dAt (r : Rnd) (l : List Int) (j : Nat) : Prop := ∀ x, l[j]? = some x → (0 ≤ x ∧ x < (r.Farms.length : Int)) ∧ x ∉ l.take j
def DiffR (r : Rnd) (l : List Int) : Prop := ∀ j, dAt r l j
theorem from_step {P : Nat → Prop} {k : Nat} (h : P k) : (∀ j, k ≤ j → P j) ↔ ∀ j, k + 1 ≤ j → P j :=
 ⟨fun q j hj => q j (by omega), fun q j hj => by
  rcases Nat.eq_or_lt_of_le hj with he | he
  ·exact he ▸ h
  ·exact q j he⟩
theorem dAt_k {r : Rnd} {l : List Int} {k : Nat} {x : Int} (hg : l[k]? = some x) : dAt r l k ↔ (0 ≤ x ∧ x < (r.Farms.length : Int)) ∧ x ∉ l.take k :=
 ⟨fun h => h x hg, fun h y hy => by rw [hg] at hy; cases hy; exact h⟩
theorem dAt_end {r : Rnd} {l : List Int} {j : Nat} (h : l.length ≤ j) : dAt r l j := fun x hx => by rw [List.getElem?_eq_none h] at hx; cases hx
theorem take_snoc {l : List Int} {k : Nat} {x : Int} (hg : l[k]? = some x) : l.take (k + 1) = l.take k ++ [x] := by rw [List.take_add_one, hg]; rfl
open Classical in
theorem setOf_go {r : Rnd} {l : List Int} (hn : r.Farms.length ≤ 5) (hl : l.length ≤ 100) : ∀ (d k : Nat), k ≤ l.length → l.length - k < d →
  psetOf_L0 r l d (setL (l.take k)).c0 (setL (l.take k)).c1 (setL (l.take k)).c2 (setL (l.take k)).c3 (setL (l.take k)).c4 (k : Int) = if (∀ j, k ≤ j → dAt r l j) then some (setL l, true) else some (noS, false)
 | 0, _, _, h => by omega
 | d + 1, k, hk, h => by
  rw [psetOf_L0]
  by_cases hkl : k = l.length
  ·subst hkl
   rw [if_neg (Int.lt_irrefl _), if_pos fun j hj => dAt_end hj, List.take_length]
  ·have hlt : k < l.length := by omega
   have hg := List.getElem?_eq_getElem hlt
   have hs := take_snoc hg
   generalize l[k] = x at hg hs
   rw [if_pos (by omega), idx_at hg, obs]
   by_cases hx : 0 ≤ x ∧ x < (r.Farms.length : Int)
   ·rw [(hasFarm_ev (by omega)).some_of hx, obs, if_pos rfl, idx_set (by omega), obs]
    by_cases hm : x ∈ l.take k
    ·rw [decide_eq_true hm, if_pos rfl, if_neg fun h' => ((dAt_k hg).1 (h' k (Nat.le_refl _))).2 hm]; rfl
    ·have hat : dAt r l k := (dAt_k hg).2 ⟨hx, hm⟩
     have ih := setOf_go hn hl d (k + 1) (by omega) (by omega)
     rw [decide_eq_false hm, if_neg (by simp), gd_pos (by omega), gd_pos (fI (by omega)), show (k : Int) + 1 = ((k + 1 : Nat) : Int) by omega]
     rw [hs] at ih
     have e0 := sti_set (L := l.take k) (x := x) 0
     have e1 := sti_set (L := l.take k) (x := x) 1
     have e2 := sti_set (L := l.take k) (x := x) 2
     have e3 := sti_set (L := l.take k) (x := x) 3
     have e4 := sti_set (L := l.take k) (x := x) 4
     have e : psetOf_L0 r l d (sti x 0 true (setL (l.take k)).c0) (sti x 1 true (setL (l.take k)).c1) (sti x 2 true (setL (l.take k)).c2) (sti x 3 true (setL (l.take k)).c3) (sti x 4 true (setL (l.take k)).c4) ((k + 1 : Nat) : Int) = psetOf_L0 r l d (setL (l.take k ++ [x])).c0 (setL (l.take k ++ [x])).c1 (setL (l.take k ++ [x])).c2 (setL (l.take k ++ [x])).c3 (setL (l.take k ++ [x])).c4 ((k + 1 : Nat) : Int) := by
      rw [show sti x 0 true (setL (l.take k)).c0 = (setL (l.take k ++ [x])).c0 from e0, show sti x 1 true (setL (l.take k)).c1 = (setL (l.take k ++ [x])).c1 from e1, show sti x 2 true (setL (l.take k)).c2 = (setL (l.take k ++ [x])).c2 from e2, show sti x 3 true (setL (l.take k)).c3 = (setL (l.take k ++ [x])).c3 from e3, show sti x 4 true (setL (l.take k)).c4 = (setL (l.take k ++ [x])).c4 from e4]
     rw [e, ih]
     simp only [from_step (P := dAt r l) hat]
   ·rw [(hasFarm_ev (by omega)).some_not hx, obs, if_neg (by simp), if_neg fun h' => hx ((dAt_k hg).1 (h' k (Nat.le_refl _))).1]; rfl
open Classical in
theorem setOf_eq {r : Rnd} {l : List Int} (hn : r.Farms.length ≤ 5) (hl : l.length ≤ 100) : psetOf r l = if DiffR r l then some (setL l, true) else some (noS, false) := by
 have h := setOf_go hn hl (l.length + 1) 0 (Nat.zero_le _) (by omega)
 refine Eq.trans (show _ = _ from h) ?_
 have : (∀ j, 0 ≤ j → dAt r l j) ↔ DiffR r l := ⟨fun h j => h j (Nat.zero_le _), fun h j _ => h j⟩
 simp only [this]
def MaskOf (b : Nat) (L : List Int) : Prop := b < 32 ∧ ∀ j, j < 5 → b.testBit j = decide ((j : Int) ∈ L)
theorem div_c (b i : Nat) : (b : Int) / 2 ^ (Int.toNat (i : Int)) = ((b / 2 ^ i : Nat) : Int) := by rw [Int.toNat_natCast]; simp
theorem pow_c (i : Nat) : (1 : Int) * 2 ^ (Int.toNat (i : Int)) = ((2 ^ i : Nat) : Int) := by rw [Int.toNat_natCast, Int.one_mul, Int.natCast_pow]; rfl
theorem bit_c {b i : Nat} : b / 2 ^ i % 2 = 1 ↔ b.testBit i = true := by rw [Nat.testBit_eq_decide_div_mod_eq, decide_eq_true_iff]
theorem mask_or {b i : Nat} {L : List Int} (h : MaskOf b L) (hi : i < 5) : MaskOf (Nat.lor b (2 ^ i)) (L ++ [(i : Int)]) := by
 refine ⟨?_, fun j hj => ?_⟩
 ·have : b ||| 2 ^ i < 2 ^ 5 := Nat.or_lt_two_pow h.1 (Nat.pow_lt_pow_right (by omega) hi)
  exact this
 ·show (b ||| 2 ^ i).testBit j = _
  rw [Nat.testBit_or, h.2 j hj, Nat.testBit_two_pow]
  by_cases hij : i = j
  ·subst hij; simp
  ·have : ((j : Int) ∈ L ++ [(i : Int)]) ↔ (j : Int) ∈ L := by simp; omega
   rw [decide_eq_false hij, Bool.or_false]
   exact decide_eq_decide.2 this.symm
def bS (b : Nat) (i : Nat) : Bool := b.testBit i
theorem clr_bS (b i : Nat) : bS (Nat.xor b (Nat.land b (2 ^ i))) = Rnd.delS (bS b) i := by
 funext j
 show (b ^^^ (b &&& 2 ^ i)).testBit j = (b.testBit j && !decide (j = i))
 rw [Nat.testBit_xor, Nat.testBit_and, Nat.testBit_two_pow]
 by_cases hij : i = j
 ·subst hij; cases b.testBit i <;> simp
 ·rw [decide_eq_false hij, decide_eq_false (fun h => hij h.symm)]; cases b.testBit j <;> rfl
theorem clr_lt {b i n : Nat} (hb : b < 2 ^ n) : Nat.xor b (Nat.land b (2 ^ i)) < 2 ^ n := by
 have h1 : b &&& 2 ^ i < 2 ^ n := Nat.lt_of_le_of_lt Nat.and_le_left hb
 exact Nat.xor_lt_two_pow hb h1
open Classical in
theorem diff_go {r : Rnd} {l : List Int} (hn : r.Farms.length ≤ 5) (hl : l.length ≤ 100) : ∀ (d k b : Nat), k ≤ l.length → l.length - k < d → MaskOf b (l.take k) →
  prDifferent_L0 r l d (b : Int) (k : Int) = some (decide (∀ j, k ≤ j → dAt r l j))
 | 0, _, _, _, h, _ => by omega
 | d + 1, k, b, hk, h, hb => by
  rw [prDifferent_L0]
  by_cases hkl : k = l.length
  ·subst hkl
   rw [if_neg (Int.lt_irrefl _), decide_eq_true fun j hj => dAt_end hj]
  ·have hlt : k < l.length := by omega
   have hg := List.getElem?_eq_getElem hlt
   have hs := take_snoc hg
   generalize l[k] = x at hg hs
   rw [if_pos (by omega), idx_at hg, obs, gd_pos (fI (by omega))]
   by_cases hx : 0 ≤ x ∧ x < (r.Farms.length : Int)
   ·obtain ⟨i, rfl⟩ : ∃ i : Nat, x = (i : Int) := ⟨x.toNat, by omega⟩
    have hi : i < 5 := by omega
    have hbl := hb.1
    have hdl : b / 2 ^ i ≤ b := Nat.div_le_self _ _
    have hbt : (b / 2 ^ i % 2 = 1) ↔ (i : Int) ∈ l.take k := by rw [bit_c, hb.2 i hi, decide_eq_true_iff]
    have hp := pow5 (show i ≤ 5 by omega)
    have ho := (mask_or hb hi)
    rw [In_ev.some_of (show 0 ≤ (i : Int) ∧ (i : Int) ≤ (r.Farms.length : Int) - 1 by omega), obs, if_pos rfl, obs, wu (by omega), div_c]
    generalize b / 2 ^ i = q at hdl hbt ⊢
    rw [gd_pos (by omega), gd_pos (by omega), gd_pos (by omega), gd_pos (fI (by omega)), gd_pos (by omega), gd_pos (by omega), gd_pos (fI (by omega))]
    by_cases hm : (i : Int) ∈ l.take k
    ·have := hbt.2 hm
     rw [if_pos (by omega), decide_eq_false fun h' => ((dAt_k hg).1 (h' k (Nat.le_refl _))).2 hm]
    ·have : ¬ q % 2 = 1 := fun h9 => hm (hbt.1 h9)
     have hat : dAt r l k := (dAt_k hg).2 ⟨hx, hm⟩
     have ih := diff_go hn hl d (k + 1) (Nat.lor b (2 ^ i)) (by omega) (by omega) (by rw [hs]; exact ho)
     have hol := ho.1
     rw [if_neg (by omega), obs, wu (by omega), pow_c, Int.toNat_natCast, Int.toNat_natCast]
     generalize Nat.lor b (2 ^ i) = c at ih hol ⊢
     generalize 2 ^ i = P at hp ⊢
     rw [gd_pos (by omega), gd_pos (by omega), gd_pos (by omega), gd_pos (fI (by omega)), gd_pos (by omega), gd_pos (by omega), gd_pos (fI (by omega)), gd_pos (fI (by omega)), gd_pos (fI (by omega)), gd_pos (fI (by omega)), show (k : Int) + 1 = ((k + 1 : Nat) : Int) by omega, ih]
     exact congrArg some (decide_eq_decide.2 (from_step (P := dAt r l) hat).symm)
   ·rw [In_ev.some_not (show ¬ (0 ≤ x ∧ x ≤ (r.Farms.length : Int) - 1) by omega), obs, if_neg (by simp), decide_eq_false fun h' => hx ((dAt_k hg).1 (h' k (Nat.le_refl _))).1]
open Classical in
theorem diff_eq {r : Rnd} {l : List Int} (hn : r.Farms.length ≤ 5) (hl : l.length ≤ 100) : prDifferent r l = some (decide (DiffR r l)) := by
 have h := diff_go hn hl (l.length + 1) 0 0 (Nat.zero_le _) (by omega) ⟨by omega, fun j _ => by simp⟩
 refine Eq.trans (show _ = _ from h) (congrArg some (decide_eq_decide.2 ⟨fun h j => h j (Nat.zero_le _), fun h j _ => h j⟩))
theorem length_go {r : Rnd} (hok : okW r) {w : List Nat} (hw : ∀ i ∈ w, i < r.Farms.length) (hwl : w.length ≤ 100) : ∀ (d k : Nat) (p : Pt) (ln : Int), k ≤ w.length → w.length - k < d → okP p → 0 ≤ ln → ln ≤ 2000 * (k : Int) →
  prLength_L0 r (wI w) d p.X p.Y ln (k : Int) = some (ln + pl dsP (posR r) r.Home p (w.drop k))
 | 0, _, _, _, _, h, _, _, _ => by omega
 | d + 1, k, p, ln, hk, h, hp, h0, h1 => by
  have hwi : (wI w).length = w.length := by unfold wI; rw [List.length_map]
  rw [prLength_L0, hwi]
  by_cases hkl : k = w.length
  ·subst hkl
   have hd := dsP_bd hp hok.2.1
   rw [if_neg (Int.lt_irrefl _), show ({ X := p.X, Y := p.Y } : Pt) = p from rfl, rDist_eq hp hok.2.1, obs, gd_pos (fI (by omega)), List.drop_length]; rfl
  ·have hlt : k < w.length := by omega
   have hg := List.getElem?_eq_getElem hlt
   have hi := hw _ (List.getElem_mem hlt)
   rw [List.drop_eq_getElem_cons hlt]
   generalize w[k] = i at hg hi
   have hgi : (wI w)[k]? = some (i : Int) := by unfold wI; rw [List.getElem?_map, hg]; rfl
   have hq := List.getElem?_eq_getElem hi
   have hpos : posR r i = (r.Farms[i]).At := by unfold posR; rw [hq]
   have hqo := posR_ok hok i
   have hd := dsP_bd hp hqo
   rw [if_pos (by omega), idx_at hgi, obs, idx_at hq, obs, ← hpos, show ({ X := p.X, Y := p.Y } : Pt) = p from rfl, rDist_eq hp hqo, obs, gd_pos (fI (by omega)), obs, idx_at hq, obs, ← hpos, gd_pos (fI (by omega)), show (k : Int) + 1 = ((k + 1 : Nat) : Int) by omega, length_go hok hw hwl d (k + 1) (posR r i) _ (by omega) (by omega) hqo (by omega) (by omega)]
   show some (ln + dsP p (posR r i) + _) = some (ln + (dsP p (posR r i) + _))
   rw [Int.add_assoc]
theorem length_eq {r : Rnd} (hok : okW r) {w : List Nat} (hw : ∀ i ∈ w, i < r.Farms.length) (hwl : w.length ≤ 100) : prLength r (wI w) = some (pl dsP (posR r) r.Home r.Home w) := by
 have h := length_go hok hw hwl (w.length + 1) 0 r.Home 0 (Nat.zero_le _) (by omega) hok.2.1 (Int.le_refl _) (by show (0 : Int) ≤ 2000 * 0; omega)
 unfold prLength
 rw [show (wI w).length = w.length by unfold wI; rw [List.length_map]]
 refine Eq.trans (show _ = _ from h) ?_
 rw [Int.zero_add, List.drop_zero]
theorem bit_of_ne {b n : Nat} (hb : b < 2 ^ n) (h0 : b ≠ 0) : ∃ i, i < n ∧ b.testBit i = true := by
 obtain ⟨i, hi⟩ := Nat.exists_testBit_of_ne_zero h0
 refine ⟨i, Nat.not_le.1 fun hle => ?_, hi⟩
 rw [Nat.testBit_lt_two_pow (Nat.lt_of_lt_of_le hb (Nat.pow_le_pow_right (by omega) hle))] at hi
 cases hi
theorem rest_eq {r : Rnd} (hok : okW r) : ∀ (d b : Nat) (p : Pt), b < 2 ^ r.Farms.length → okP p → cntS r.Farms.length (bS b) < d → prRest_F d r p (b : Int) = some (lnA r p (bS b))
 | 0, _, _, _, _, h => by omega
 | d + 1, b, p, hb, hp, hc => by
  rw [prRest_F]
  by_cases h0 : b = 0
  ·subst h0
   rw [if_pos (by omega), rDist_eq hp hok.2.1, obs]
   refine congrArg some ?_
   have hz : ∀ i, i < r.Farms.length → bS 0 i = false := fun i _ => Nat.zero_testBit i
   refine (show Ln dsP (posR r) r.Home r.Farms.length p (bS 0) (dsP p r.Home) from ⟨⟨[], (Od.nil_iff hz).2 rfl, rfl⟩, fun w hw => ?_⟩).uniq lnA_ln
   rw [(Od.nil_iff hz).1 hw]; exact Int.le_refl _
  ·rw [if_neg (by omega)]
   obtain ⟨i0, hi0, hb0⟩ := bit_of_ne hb h0
   have h32 : b < 32 := Nat.lt_of_lt_of_le hb (pow5 hok.1)
   let v : Nat → Int := fun i => dsP p (posR r i) + lnA r (posR r i) (Rnd.delS (bS b) i)
   have hvb : ∀ i, 0 ≤ v i ∧ v i ≤ 14000 := fun i => by
    have h1 := dsP_bd hp (posR_ok hok i)
    have h2 := lnA_bd hok (posR_ok hok i) (S := Rnd.delS (bS b) i)
    show 0 ≤ dsP p (posR r i) + _ ∧ dsP p (posR r i) + _ ≤ 14000
    omega
   have key : ∀ (e k : Nat) (B : Int), k ≤ r.Farms.length → r.Farms.length - k < e → ((B = 1073741824 ∧ ∀ i, i < k → bS b i = false) ∨ ∃ i, i < k ∧ bS b i = true ∧ B = v i ∧ ∀ j, j < k → bS b j = true → B ≤ v j) → prRest_L0 (prRest_F d) r p (b : Int) e B (k : Int) = some (lnA r p (bS b)) := by
    intro e
    induction e with
    | zero => intro k B _ h; omega
    | succ e ih =>
     intro k B hk he hB
     rw [prRest_L0]
     by_cases hkn : k = r.Farms.length
     ·subst hkn
      rw [if_neg (Int.lt_irrefl _)]
      refine congrArg some ?_
      rcases hB with ⟨_, h9⟩ | ⟨i, h1, h2, rfl, h3⟩
      ·have := h9 i0 hi0
       rw [show bS b i0 = true from hb0] at this; cases this
      ·have hl := lnA_ln (r := r) (p := posR r i) (S := Rnd.delS (bS b) i)
       obtain ⟨⟨w, w1, w2⟩, _⟩ := hl
       refine (show Ln dsP (posR r) r.Home r.Farms.length p (bS b) (v i) from ⟨⟨i :: w, Od.cons_iff.2 ⟨⟨h1, h2⟩, w1⟩, ?_⟩, fun w' hw' => ?_⟩).uniq lnA_ln
       ·show dsP p (posR r i) + _ = _
        rw [w2]
       ·cases w' with
        | nil => exact absurd ((hw'.2 i).2 ⟨h1, h2⟩) (by simp)
        | cons j w' =>
         obtain ⟨⟨q1, q2⟩, q3⟩ := Od.cons_iff.1 hw'
         have h5 := h3 j q1 q2
         have h6 := (lnA_ln (r := r) (p := posR r j) (S := Rnd.delS (bS b) j)).2 w' q3
         show v i ≤ dsP p (posR r j) + pl dsP (posR r) r.Home (posR r j) w'
         have h7 : v j = dsP p (posR r j) + lnA r (posR r j) (Rnd.delS (bS b) j) := rfl
         omega
     ·have hlt : k < r.Farms.length := by omega
      have hk5 : k < 5 := by have := hok.1; omega
      have hq := List.getElem?_eq_getElem hlt
      have hpos : posR r k = (r.Farms[k]).At := by unfold posR; rw [hq]
      have hdl : b / 2 ^ k ≤ b := Nat.div_le_self _ _
      have hbt : (b / 2 ^ k % 2 = 1) ↔ bS b k = true := bit_c
      have hpw := pow5 (show k ≤ 5 by omega)
      rw [if_pos (by omega), wu (by omega), div_c]
      generalize b / 2 ^ k = q at hdl hbt ⊢
      rw [gd_pos (by omega), gd_pos (by omega), gd_pos (by omega), gd_pos (fI (by omega)), gd_pos (by omega), gd_pos (by omega), gd_pos (fI (by omega))]
      by_cases hs : bS b k = true
      ·have h1 := hbt.2 hs
       have hqo := posR_ok hok k
       have hcl := clr_lt (i := k) hb
       have hc32 : Nat.xor b (Nat.land b (2 ^ k)) < 32 := Nat.lt_of_lt_of_le hcl (pow5 hok.1)
       have hcn := cnt_del (n := r.Farms.length) hlt hs
       have hr := rest_eq hok d (Nat.xor b (Nat.land b (2 ^ k))) (posR r k) hcl hqo (by rw [clr_bS]; omega)
       rw [clr_bS] at hr
       have hd := dsP_bd hp hqo
       have hl := lnA_bd hok hqo (S := Rnd.delS (bS b) k)
       have hvk : v k = dsP p (posR r k) + lnA r (posR r k) (Rnd.delS (bS b) k) := rfl
       rw [if_pos (by omega), idx_at hq, obs, ← hpos, rDist_eq hp hqo, obs, obs, pow_c, Int.toNat_natCast, Int.toNat_natCast]
       generalize Nat.xor b (Nat.land b (2 ^ k)) = c at hr hc32 ⊢
       generalize 2 ^ k = P at hpw ⊢
       rw [gd_pos (by omega), gd_pos (by omega), gd_pos (by omega), gd_pos (fI (by omega)), gd_pos (by omega), gd_pos (by omega), gd_pos (fI (by omega)), gd_pos (fI (by omega)), gd_pos (fI (by omega)), ← hpos, hr, obs, gd_pos (fI (by omega)), gd_pos (fI (by omega)), show (k : Int) + 1 = ((k + 1 : Nat) : Int) by omega, ← hvk]
       refine ih (k + 1) _ (by omega) (by omega) (.inr ?_)
       rcases hB with ⟨rfl, h9⟩ | ⟨i, i1, i2, i3, i4⟩
       ·have := hvb k
        exact ⟨k, by omega, hs, by omega, fun j hj hjs => by
         rcases Nat.lt_or_ge j k with h8 | h8
         ·rw [h9 j h8] at hjs; cases hjs
         ·have : j = k := by omega
          subst this; omega⟩
       ·by_cases hle : B ≤ v k
        ·exact ⟨i, by omega, i2, by omega, fun j hj hjs => by
          rcases Nat.lt_or_ge j k with h8 | h8
          ·have := i4 j h8 hjs; omega
          ·have : j = k := by omega
           subst this; omega⟩
        ·exact ⟨k, by omega, hs, by omega, fun j hj hjs => by
          rcases Nat.lt_or_ge j k with h8 | h8
          ·have := i4 j h8 hjs; omega
          ·have : j = k := by omega
           subst this; omega⟩
      ·have h1 : ¬ q % 2 = 1 := fun h => hs (hbt.1 h)
       rw [if_neg (by omega), gd_pos (fI (by omega)), show (k : Int) + 1 = ((k + 1 : Nat) : Int) by omega]
       refine ih (k + 1) B (by omega) (by omega) ?_
       rcases hB with ⟨h9, h8⟩ | ⟨i, i1, i2, i3, i4⟩
       ·refine .inl ⟨h9, fun j hj => ?_⟩
        rcases Nat.lt_or_ge j k with h7 | h7
        ·exact h8 j h7
        ·have : j = k := by omega
         subst this; simpa using hs
       ·refine .inr ⟨i, by omega, i2, i3, fun j hj hjs => ?_⟩
        rcases Nat.lt_or_ge j k with h7 | h7
        ·exact i4 j h7 hjs
        ·have : j = k := by omega
         subst this; exact absurd hjs hs
   exact key 1000000 0 1073741824 (Nat.zero_le _) (by have := hok.1; omega) (.inl ⟨rfl, fun i hi => by omega⟩)
theorem shortest_eq {r : Rnd} (hok : okW r) {b : Nat} (hb : b < 2 ^ r.Farms.length) : prShortest r (b : Int) = some (lnA r r.Home (bS b)) := by
 unfold prShortest prRest
 rw [rest_eq hok 8 b r.Home hb hok.2.1 (by have := cnt_le (S := bS b) (n := r.Farms.length); have := hok.1; omega), obs]
end
end Go.Proofs.Ytoejeieblichnaa

namespace Go.Proofs.Ytoejeieblichnaa
open _root_.Go.Proofs.Try
open Go.Abs Go.Abs.Rnd
set_option maxRecDepth 100000
noncomputable section
theorem minimum_eq {l : List Int} (h : l ≠ []) (hl : shrt l) : pminimum l = some (minL l) := by
 have hl := hl.lt
 cases l with
 | nil => exact absurd rfl h
 | cons x l =>
  unfold pminimum
  rw [if_neg (by simp; omega), idx_zero rfl, obs]
  have key := loopFold (l := x :: l) (fun s a => min s a) (fun d s k => pminimum_L0 (x :: l) d s k) some (fun d k s a ha => by
   have hk := (List.getElem?_eq_some_iff.1 ha).1
   rw [pminimum_L0, if_pos (by omega), idx_at ha, obs]
   by_cases hc : a < s
   ·rw [if_pos hc, gd_pos (fI (by omega)), Int.min_eq_right (by omega)]
   ·rw [if_neg hc, gd_pos (fI (by omega)), Int.min_eq_left (by omega)]) (fun d s => by rw [pminimum_L0, if_neg (Int.lt_irrefl _)]) ((x :: l).length + 1) 0 x (Nat.zero_le _) (by omega)
  refine key.trans ?_
  rw [List.drop_zero]
  show some (l.foldl min (min x x)) = _
  rw [Int.min_self]; rfl
theorem rests_len {α : Type} {g : Nat → List α} {c : Nat} (h : ∀ j, (g j).length ≤ c) : ∀ e n, (rests g e n).length ≤ e * c
 | 0, _ => by show 0 ≤ _; omega
 | e + 1, n => by
  show (g n ++ rests g e (n + 1)).length ≤ _
  rw [List.length_append, Nat.add_mul, Nat.one_mul]
  have := h n; have := rests_len h e (n + 1); omega
theorem walks_len {r : Rnd} (hok : okW r) : ∀ (d : Nat) (p : Pt) (s : Set5) (pre : List Int) (ln : Int), (walksL r.Home r.Farms d p s pre ln).length ≤ 5 ^ d
 | 0, _, _, _, _ => by show 0 ≤ _; omega
 | d + 1, p, s, pre, ln => by
  unfold walksL
  have h5 : 0 < 5 ^ d := Nat.pow_pos (by omega)
  split
  ·show 1 ≤ _; rw [Nat.pow_succ]; omega
  ·refine Nat.le_trans (rests_len (c := 5 ^ d) (fun j => ?_) _ _) ?_
   ·cases r.Farms[j]? with
    | none => exact Nat.zero_le _
    | some q =>
     dsimp only
     split
     ·exact walks_len hok d _ _ _ _
     ·exact Nat.zero_le _
   ·rw [Nat.pow_succ, Nat.mul_comm]; exact Nat.mul_le_mul_left _ hok.1
theorem caS_le {s : Set5} : caS s ≤ 5 := List.count_le_length
def wkR (r : Rnd) (s : Set5) : List (List Int × Int) := walksL r.Home r.Farms 6 r.Home s [] 0
theorem walks_eq {r : Rnd} (hok : okW r) {s : Set5} : pwalks r s = some (wkR r s) := by unfold pwalks; rw [gd_pos hok]; rfl
theorem mem_wkR {r : Rnd} (hok : okW r) {s : Set5} (hs : InR r (SS s)) {x : List Int × Int} : x ∈ wkR r s ↔ ∃ w, Od r.Farms.length (SS s) w ∧ x = (wI w, pl dsP (posR r) r.Home r.Home w) := by
 have h := mem_walks hok 6 r.Home s [] 0 (by have := caS_le (s := s); omega) hs x
 refine h.trans (exists_congr fun w => and_congr Iff.rfl ?_)
 rw [Int.zero_add]; rfl
def lenR (r : Rnd) (s : Set5) : Int := lnA r r.Home (SS s)
theorem wkR_ne {r : Rnd} (hok : okW r) {s : Set5} (hs : InR r (SS s)) : wkR r s ≠ [] := by
 obtain ⟨w, hw⟩ := Od.ex r.Farms.length (SS s)
 intro h
 have := (mem_wkR hok hs).2 ⟨w, hw, rfl⟩
 rw [h] at this; cases this
theorem min_wkR {r : Rnd} (hok : okW r) {s : Set5} (hs : InR r (SS s)) : minL ((wkR r s).map Prod.snd) = lenR r s := by
 have hne : (wkR r s).map Prod.snd ≠ [] := fun h => wkR_ne hok hs (List.map_eq_nil_iff.1 h)
 obtain ⟨h1, h2⟩ := minL_mem hne
 refine (show Ln dsP (posR r) r.Home r.Farms.length r.Home (SS s) _ from ⟨?_, fun w hw => h2 _ ?_⟩).uniq lnA_ln
 ·obtain ⟨x, hx, hxe⟩ := List.mem_map.1 h1
  obtain ⟨w, w1, w2⟩ := (mem_wkR hok hs).1 hx
  exact ⟨w, w1, by rw [← hxe, w2]⟩
 ·exact List.mem_map.2 ⟨(wI w, _), (mem_wkR hok hs).2 ⟨w, hw, rfl⟩, rfl⟩
def MemoR (r : Rnd) (M : Option (Set5 → Option Int)) : Prop := ∃ f, M = some f ∧ ∀ s v, f s = some v → v = lenR r s
theorem length_L0 {w : Wk} {s : Set5} : ∀ (l : List (List Int × Int)) (acc : List Int), acc.length + l.length ≤ 1048576 → plength_L0 w s l acc = plength_L0 w s [] (acc ++ l.map Prod.snd)
 | [], acc, _ => by rw [List.map_nil, List.append_nil]
 | a :: l, acc, h => by
  simp only [List.length_cons] at h
  rw [show plength_L0 w s (a :: l) acc = gd (acc.length < 1048576) (plength_L0 w s l (acc ++ [a.2])) from rfl, gd_pos (by omega), length_L0 l _ (by rw [List.length_append]; simp only [List.length_cons, List.length_nil]; omega), List.append_assoc]; rfl
theorem length_ok {w : Wk} (hok : okW w.r) (hM : MemoR w.r w.lengths) {s : Set5} (hs : InR w.r (SS s)) : ∃ M, plength w s = some (lenR w.r s, M) ∧ MemoR w.r M := by
 obtain ⟨f, hf, hM⟩ := hM
 have hfit : MK.fit s := trivial
 unfold plength
 rw [gd_pos hfit, hf]
 cases hq : f s with
 | some v => exact ⟨some f, by rw [mcase_some (v := v) (show mget (some f) s = some v from hq), ← hM s v hq], f, rfl, hM⟩
 | none =>
  rw [mcase_none (show mget (some f) s = none from hq), walks_eq hok, obs]
  have hl := walks_len hok 6 w.r.Home s [] 0
  have hl' : (wkR w.r s).length ≤ 5 ^ 6 := hl
  have h56 : (5 : Nat) ^ 6 = 15625 := rfl
  have hne : [] ++ (wkR w.r s).map Prod.snd ≠ [] := fun h => wkR_ne hok hs (List.map_eq_nil_iff.1 h)
  rw [length_L0 _ _ (by show 0 + _ ≤ _; omega)]
  show ∃ M, ((pminimum ([] ++ (wkR w.r s).map Prod.snd)).bind fun r => gd (MK.fit s) ((mset w.lengths s r).bind fun w' => some (r, w'))) = _ ∧ _
  rw [minimum_eq hne (by unfold shrt; rw [List.nil_append, List.length_map]; omega), obs, gd_pos hfit, hf, List.nil_append, min_wkR hok hs]
  refine ⟨_, rfl, _, rfl, fun s' v hv => ?_⟩
  by_cases he : s' = s
  ·rw [if_pos he] at hv; cases hv; rw [he]
  ·rw [if_neg he] at hv; exact hM s' v hv
theorem canWalk_ok {w : Wk} (hok : okW w.r) (hM : MemoR w.r w.lengths) {s : Set5} (hs : InR w.r (SS s)) : ∃ M, pcanWalk w s = some (decide (lenR w.r s ≤ w.r.Miles), M) ∧ MemoR w.r M := by
 obtain ⟨M, h1, h2⟩ := length_ok hok hM hs
 exact ⟨M, by unfold pcanWalk; rw [h1]; rfl, h2⟩
theorem shortest_L0 {q : Int × Option (Set5 → Option Int)} : ∀ (l : List (List Int × Int)) (acc : List Int), (∀ x ∈ l, x.1.length ≤ 100) → (∃ x ∈ l, x.2 = q.1) → ∃ x ∈ l, x.2 = q.1 ∧ pshortestWalk_L0 q l acc = some ((x.1, q.1), q.2)
 | [], _, _, h => by obtain ⟨x, hx, _⟩ := h; cases hx
 | a :: l, acc, hl, h => by
  by_cases ha : a.2 = q.1
  ·refine ⟨a, List.mem_cons_self .., ha, ?_⟩
   have h1 := hl a (List.mem_cons_self ..)
   rw [show pshortestWalk_L0 q (a :: l) acc = (if a.2 = q.1 then ((pclone a.1).bind fun r => pshortestWalk_L0_xexit0 q r) else pshortestWalk_L0 q l acc) from rfl, if_pos ha]
   unfold pclone
   rw [gd_pos (by show 0 + _ ≤ _; omega)]; rfl
  ·obtain ⟨x, hx, h2, h3⟩ := shortest_L0 l acc (fun y hy => hl y (List.mem_cons_of_mem _ hy)) (by
    obtain ⟨x, hx, hq⟩ := h
    rcases List.mem_cons.1 hx with rfl | hx
    ·exact absurd hq ha
    ·exact ⟨x, hx, hq⟩)
   refine ⟨x, List.mem_cons_of_mem _ hx, h2, ?_⟩
   rw [show pshortestWalk_L0 q (a :: l) acc = (if a.2 = q.1 then ((pclone a.1).bind fun r => pshortestWalk_L0_xexit0 q r) else pshortestWalk_L0 q l acc) from rfl, if_neg ha]
   exact h3
theorem wI_len {w : List Nat} : (wI w).length = w.length := by unfold wI; rw [List.length_map]
theorem shortestWalk_ok {w : Wk} (hok : okW w.r) (hM : MemoR w.r w.lengths) {s : Set5} (hs : InR w.r (SS s)) : ∃ M v, pshortestWalk w s = some ((wI v, lenR w.r s), M) ∧ MemoR w.r M ∧ Od w.r.Farms.length (SS s) v ∧ pl dsP (posR w.r) w.r.Home w.r.Home v = lenR w.r s := by
 obtain ⟨M, h1, h2⟩ := length_ok hok hM hs
 obtain ⟨⟨v, v1, v2⟩, _⟩ := lnA_ln (r := w.r) (p := w.r.Home) (S := SS s)
 obtain ⟨x, hx, hx2, hx3⟩ := shortest_L0 (q := (lenR w.r s, M)) (wkR w.r s) [] (fun x hx => by
  obtain ⟨u, u1, rfl⟩ := (mem_wkR hok hs).1 hx
  have := Od.len u1; have := hok.1
  show (wI u).length ≤ 100
  rw [wI_len]; omega) ⟨_, (mem_wkR hok hs).2 ⟨v, v1, rfl⟩, v2⟩
 obtain ⟨u, u1, rfl⟩ := (mem_wkR hok hs).1 hx
 refine ⟨M, u, ?_, h2, u1, hx2⟩
 unfold pshortestWalk
 rw [h1, obs, walks_eq hok, obs]
 exact hx3
def upS (k : Nat) : Set5 := ⟨decide (0 < k), decide (1 < k), decide (2 < k), decide (3 < k), decide (4 < k)⟩
theorem sti_up (k i : Nat) : sti (k : Int) i true (decide (i < k)) = decide (i < k + 1) := by
 unfold sti
 by_cases h : (k : Int) = (i : Int)
 ·rw [if_pos h, decide_eq_true (by omega)]
 ·rw [if_neg h]; exact decide_eq_decide.2 (by omega)
theorem open_go {r : Rnd} (hn : r.Farms.length ≤ 5) : ∀ (d k : Nat), k ≤ r.Farms.length → r.Farms.length - k < d →
  popen_L0 r d r.Adjusters r.Last r.Miles r.Home.X r.Home.Y (upS k).c0 (upS k).c1 (upS k).c2 (upS k).c3 (upS k).c4 (k : Int) = some (⟨r, upS r.Farms.length, some fun _ => none⟩, 0)
 | 0, _, _, h => by omega
 | d + 1, k, hk, h => by
  rw [popen_L0]
  by_cases hkl : k = r.Farms.length
  ·subst hkl
   rw [if_neg (Int.lt_irrefl _)]
  ·rw [if_pos (by omega), gd_pos (by omega), gd_pos (fI (by omega)), show (k : Int) + 1 = ((k + 1 : Nat) : Int) by omega]
   have ih := open_go hn d (k + 1) (by omega) (by omega)
   rw [show sti (k : Int) 0 true (upS k).c0 = (upS (k + 1)).c0 from sti_up k 0, show sti (k : Int) 1 true (upS k).c1 = (upS (k + 1)).c1 from sti_up k 1, show sti (k : Int) 2 true (upS k).c2 = (upS (k + 1)).c2 from sti_up k 2, show sti (k : Int) 3 true (upS k).c3 = (upS (k + 1)).c3 from sti_up k 3, show sti (k : Int) 4 true (upS k).c4 = (upS (k + 1)).c4 from sti_up k 4]
   exact ih
theorem open_ok {r : Rnd} (h : VRn r) : popen r = some (⟨r, upS r.Farms.length, some fun _ => none⟩, 0) := by
 unfold popen
 rw [check_eq, fault_zero.2 h, obs, if_pos rfl]
 exact open_go (not_many h.many).2.2.2 (r.Farms.length + 1) 0 (Nat.zero_le _) (by omega)
theorem open_no {r : Rnd} (h : ¬ VRn r) : ∃ w, popen r = some (w, faultR r) ∧ faultR r ≠ 0 := by
 have h0 : faultR r ≠ 0 := fun h' => h (fault_zero.1 h')
 unfold popen
 rw [check_eq, obs, if_neg h0]
 exact ⟨_, rfl, h0⟩
theorem memo0 (r : Rnd) : MemoR r (some fun _ => none) := ⟨_, rfl, fun s v hv => by cases hv⟩
theorem InR_setL {r : Rnd} {l : List Int} (h : DiffR r l) : InR r (SS (setL l)) := fun i hi => by
 obtain ⟨j, hj⟩ := List.mem_iff_getElem?.1 (SS_setL.1 hi).2
 have := (h j _ hj).1
 omega
theorem Walk_no {r : Rnd} {l : List Int} (h : ¬ VRn r) : pWalk r l = some ([], 0, faultR r) := by
 obtain ⟨w, h1, h2⟩ := open_no h
 unfold pWalk
 rw [h1, obs, if_neg h2]
theorem Walk_diff {r : Rnd} {l : List Int} (h : VRn r) (hl : l.length ≤ 100) (hd : ¬ DiffR r l) : pWalk r l = some ([], 0, 2) := by
 unfold pWalk
 rw [open_ok h, obs, if_pos rfl, setOf_eq (not_many h.many).2.2.2 hl, if_neg hd, obs, if_neg (by simp)]
theorem Walk_short {r : Rnd} {l : List Int} (h : VRn r) (hl : l.length ≤ 100) (hd : DiffR r l) (hm : r.Miles < lenR r (setL l)) : pWalk r l = some ([], 0, 10) := by
 obtain ⟨M, h1, h2⟩ := canWalk_ok (w := ⟨r, upS r.Farms.length, some fun _ => none⟩) h.ok (memo0 r) (InR_setL hd)
 unfold pWalk
 rw [open_ok h, obs, if_pos rfl, setOf_eq (not_many h.many).2.2.2 hl, if_pos hd, obs, if_pos rfl, h1, obs, if_neg (by simp; exact hm)]
theorem Walk_ok {r : Rnd} {l : List Int} (h : VRn r) (hl : l.length ≤ 100) (hd : DiffR r l) (hm : ¬ r.Miles < lenR r (setL l)) : ∃ v, pWalk r l = some (wI v, lenR r (setL l), 0) ∧ Od r.Farms.length (SS (setL l)) v ∧ pl dsP (posR r) r.Home r.Home v = lenR r (setL l) := by
 obtain ⟨M, h1, h2⟩ := canWalk_ok (w := ⟨r, upS r.Farms.length, some fun _ => none⟩) h.ok (memo0 r) (InR_setL hd)
 obtain ⟨M', v, h3, h4, h5, h6⟩ := shortestWalk_ok (w := ⟨r, upS r.Farms.length, M⟩) h.ok h2 (InR_setL hd)
 refine ⟨v, ?_, h5, h6⟩
 unfold pWalk
 rw [open_ok h, obs, if_pos rfl, setOf_eq (not_many h.many).2.2.2 hl, if_pos hd, obs, if_pos rfl, h1, obs, if_pos (by simp; exact Int.not_lt.1 hm), h3, obs]
end
end Go.Proofs.Ytoejeieblichnaa

namespace Go.Proofs.Ytoejeieblichnaa
open _root_.Go.Proofs.Try
open Go.Abs
set_option maxRecDepth 100000
noncomputable section
theorem _root_.Go.Abs.Chg.trans {S S1 : Nat → Prop} {T : Nat → Prop} {m m1 m2 : M} (h1 : Chg (fun b => S b ∨ T b) m m1) (h2 : Chg (fun b => S1 b ∨ T b) m1 m2) (ho : Own S m S1) : Chg (fun b => S b ∨ T b) m m2 :=
 ⟨Nat.le_trans h1.nxt h2.nxt, fun b hb hS => by
  rw [h2.g b (Nat.lt_of_lt_of_le hb h1.nxt) fun h => h.elim (fun h3 => (ho b h3).elim (fun h4 => hS (.inl h4)) fun h4 => by omega) fun h3 => hS (.inr h3)]
  exact h1.g b hb hS, h2.vw.trans h1.vw⟩
theorem _root_.Go.Abs.Own.refl (S : Nat → Prop) (m : M) : Own S m S := fun _ hb => .inl hb
theorem _root_.Go.Abs.Own.trans {S S1 S2 : Nat → Prop} {m m1 : M} (h1 : Own S m S1) (h2 : Own S1 m1 S2) (hn : m.nxt ≤ m1.nxt) : Own S m S2 := fun b hb => (h2 b hb).elim (h1 b) fun h => .inr (by omega)
def hdr (bl size : Nat) : C := .sl bl 0 size 0 (some size)
def flC (b k h2 b2 cv : Nat) : C := .fn (.func 110) [] [.c (.ptr b 0), .c (.ptr k 0), .c (.ptr h2 0), .c (.ptr b2 0), .c (.ptr cv 0)]
structure SlF (n size b b2 l k h2 bl cv : Nat) (S : Nat → Prop) (m : M) (P : List Int) : Prop where
 bb : Bk m b 1 [.int .i64 (size : Int)]
 nn : Bk m b2 1 [.int .i64 (n : Int)]
 kk : Bk m k 1 [.fn (.yield l) [] []]
 hh : Bk m h2 1 [hdr bl size]
 ll : Bk m bl size (ints P)
 cc : Bk m cv 1 [flC b k h2 b2 cv]
 ss : ∀ b', S b' → b' ≠ b ∧ b' ≠ b2 ∧ b' ≠ k ∧ b' ≠ h2 ∧ b' ≠ bl ∧ b' ≠ cv
 ne : b ≠ bl ∧ b2 ≠ bl ∧ k ≠ bl ∧ h2 ≠ bl ∧ cv ≠ bl
variable {n size b b2 l k h2 bl cv : Nat}
theorem SlF.to {S S' : Nat → Prop} {m m' : M} {P : List Int} (h : SlF n size b b2 l k h2 bl cv S m P) (hn : Chg S m m') (ho : Own S m S') : SlF n size b b2 l k h2 bl cv S' m' P := by
 have tr : ∀ {b' j : Nat} {vs : List C}, Bk m b' j vs → ¬ S b' → Bk m' b' j vs := fun hb hS => ⟨(hn.g _ hb.lt hS).trans hb.g, Nat.lt_of_lt_of_le hb.lt hn.nxt⟩
 refine ⟨tr h.bb fun h1 => (h.ss _ h1).1 rfl, tr h.nn fun h1 => (h.ss _ h1).2.1 rfl, tr h.kk fun h1 => (h.ss _ h1).2.2.1 rfl, tr h.hh fun h1 => (h.ss _ h1).2.2.2.1 rfl, tr h.ll fun h1 => (h.ss _ h1).2.2.2.2.1 rfl, tr h.cc fun h1 => (h.ss _ h1).2.2.2.2.2 rfl, fun b' hb => ?_, h.ne⟩
 rcases ho b' hb with h1 | h1
 ·exact h.ss b' h1
 ·have := h.bb.lt; have := h.nn.lt; have := h.kk.lt; have := h.hh.lt; have := h.ll.lt; have := h.cc.lt
  omega
theorem SlF.li {S : Nat → Prop} {m : M} {P : List Int} (h : SlF n size b b2 l k h2 bl cv S m P) (hP : P.length = size) : Li m (hdr bl size) P := by
 refine ⟨by rw [ints_len]; omega, .inr ⟨bl, 0, 0, some size, by rw [hP]; rfl, h.ll.lt, fun _ => .inl ⟨size, ints P, false, h.ll.g, by rw [ints_len]; exact hP, by rw [ints_len]; omega, by rw [List.drop_zero, List.take_length]⟩⟩⟩
end
end Go.Proofs.Ytoejeieblichnaa

namespace Go.Proofs.Ytoejeieblichnaa
open _root_.Go.Proofs.Try
open Go.Abs
set_option maxRecDepth 100000
noncomputable section
def Inc (n fr : Nat) (T : List Int) : Prop := T.Pairwise (· < ·) ∧ ∀ v ∈ T, (fr : Int) ≤ v ∧ v < n
theorem Inc.cons {n fr : Nat} {x : Int} {T : List Int} : Inc n fr (x :: T) ↔ ((fr : Int) ≤ x ∧ x < n) ∧ Inc n (x + 1).toNat T := by
 unfold Inc
 rw [List.pairwise_cons]
 constructor
 ·rintro ⟨⟨h1, h2⟩, h3⟩
  have hx := h3 x (List.mem_cons_self ..)
  exact ⟨hx, h2, fun v hv => by have := h1 v hv; have := h3 v (List.mem_cons_of_mem _ hv); omega⟩
 ·rintro ⟨hx, h2, h3⟩
  refine ⟨⟨fun v hv => by have := h3 v hv; omega, h2⟩, fun v hv => ?_⟩
  rcases List.mem_cons.1 hv with rfl | hv
  ·exact hx
  ·have := h3 v hv; omega
def bitsF (b : Nat) : Nat → List Int
 | 0 => []
 | p + 1 => bitsF b p ++ (if b.testBit p then [(p : Int)] else [])
def bitsL (b : Nat) : List Int := bitsF b 16
theorem mem_bitsF {b : Nat} {v : Int} : ∀ {p : Nat}, v ∈ bitsF b p ↔ 0 ≤ v ∧ v < p ∧ b.testBit v.toNat = true
 | 0 => ⟨fun h => (by cases h), fun h => by omega⟩
 | p + 1 => by
  show v ∈ bitsF b p ++ _ ↔ _
  rw [List.mem_append, mem_bitsF]
  constructor
  ·rintro (h | h)
   ·exact ⟨h.1, by omega, h.2.2⟩
   ·by_cases hb : b.testBit p = true
    ·rw [if_pos hb, List.mem_singleton] at h
     subst h; exact ⟨by omega, by omega, hb⟩
    ·rw [if_neg hb] at h; cases h
  ·rintro ⟨h1, h2, h3⟩
   by_cases hv : v = (p : Int)
   ·subst hv
    have h4 : b.testBit p = true := h3
    rw [if_pos h4]; exact .inr (List.mem_singleton.2 rfl)
   ·exact .inl ⟨h1, by omega, h3⟩
theorem sorted_bitsF {b : Nat} : ∀ p : Nat, (bitsF b p).Pairwise (· < ·)
 | 0 => .nil
 | p + 1 => by
  show (bitsF b p ++ _).Pairwise _
  rw [List.pairwise_append]
  refine ⟨sorted_bitsF p, ?_, fun a ha c hc => ?_⟩
  ·split
   ·exact List.pairwise_singleton _ _
   ·exact .nil
  ·have := mem_bitsF.1 ha
   split at hc
   ·rw [List.mem_singleton] at hc; omega
   ·cases hc
theorem bitsF_more {b p : Nat} (h : ∀ q, p ≤ q → b.testBit q = false) : ∀ k, bitsF b (p + k) = bitsF b p
 | 0 => rfl
 | k + 1 => by
  show bitsF b (p + k) ++ (if b.testBit (p + k) then _ else _) = _
  rw [h (p + k) (by omega), bitsF_more h k]; simp
theorem lenF {b : Nat} : ∀ p, (bitsF b p).length ≤ p
 | 0 => Nat.le_refl _
 | p + 1 => by
  show (bitsF b p ++ _).length ≤ _
  rw [List.length_append]
  have := lenF (b := b) p
  split <;> simp <;> omega
theorem bit_zero {b p q : Nat} (h : b / 2 ^ p = 0) (hq : p ≤ q) : b.testBit q = false := by
 have h1 : b < 2 ^ p := by
  rcases Nat.lt_or_ge b (2 ^ p) with h2 | h2
  ·exact h2
  ·have := Nat.div_pos h2 (Nat.two_pow_pos p); omega
 exact Nat.testBit_lt_two_pow (Nat.lt_of_lt_of_le h1 (Nat.pow_le_pow_right (by omega) hq))
end
end Go.Proofs.Ytoejeieblichnaa

namespace Go.Proofs.Ytoejeieblichnaa
open _root_.Go.Proofs.Try
open Go.Abs Go.Abs.Rnd
set_option maxRecDepth 100000
noncomputable section
theorem rBits_go {b : Nat} (hb : b < 65536) : ∀ (d p : Nat) (acc : List Int), p ≤ 16 → 16 - p < d → acc = bitsF b p → prBits_L0 (b : Int) d acc (p : Int) = some (bitsL b)
 | 0, _, _, _, h, _ => by omega
 | d + 1, p, acc, hp, h, ha => by
  have hle : b / 2 ^ p ≤ b := Nat.div_le_self _ _
  rw [prBits_L0, wu (show p ≤ 64 by omega)]
  have hq : (b : Int) / 2 ^ ((p : Int)).toNat = ((b / 2 ^ p : Nat) : Int) := by rw [Int.toNat_natCast]; simp
  rw [hq]
  clear hq
  have hl := lenF (b := b) p
  have hbit : b.testBit p = decide (b / 2 ^ p % 2 = 1) := Nat.testBit_eq_decide_div_mod_eq ..
  have h16 : p = 16 → b / 2 ^ p = 0 := fun he => by subst he; exact Nat.div_eq_of_lt (by omega)
  have h0' : b / 2 ^ p = 0 → bitsF b p = bitsL b := fun h9 => by
   have := bitsF_more (b := b) (p := p) (fun q hq => bit_zero h9 hq) (16 - p)
   rw [show p + (16 - p) = 16 by omega] at this
   exact this.symm
  generalize b / 2 ^ p = q at hle hbit h16 h0' ⊢
  rw [gd_pos (by omega), gd_pos (by omega), gd_pos (by omega), gd_pos (fI (by omega))]
  by_cases h0 : 0 < q
  ·have hp16 : p < 16 := by
    rcases Nat.lt_or_ge p 16 with h1 | h1
    ·exact h1
    ·have := h16 (by omega); omega
   rw [if_pos (by omega), gd_pos (by omega), gd_pos (by omega), gd_pos (by omega), gd_pos (fI (by omega)), gd_pos (by omega), gd_pos (by omega), gd_pos (fI (by omega))]
   by_cases h1 : q % 2 = 1
   ·rw [if_pos (by omega), gd_pos (show acc.length < 1048576 by rw [ha]; omega), gd_pos (fI (by omega)), show (p : Int) + 1 = ((p + 1 : Nat) : Int) by omega]
    refine rBits_go hb d (p + 1) _ (by omega) (by omega) ?_
    show _ = bitsF b p ++ (if b.testBit p then [(p : Int)] else [])
    rw [ha, hbit, h1]; rfl
   ·rw [if_neg (by omega), gd_pos (fI (by omega)), show (p : Int) + 1 = ((p + 1 : Nat) : Int) by omega]
    refine rBits_go hb d (p + 1) _ (by omega) (by omega) ?_
    show _ = bitsF b p ++ (if b.testBit p then [(p : Int)] else [])
    rw [ha, hbit, decide_eq_false h1]; simp
  ·rw [if_neg (by omega), ha]
   exact congrArg some (h0' (by omega))
theorem rBits_eq {b : Nat} (hb : b < 65536) : prBits (b : Int) = some (bitsL b) := rBits_go hb 1000000 0 [] (Nat.zero_le _) (by omega) rfl
theorem diff_nodup {r : Rnd} {l : List Int} (h : DiffR r l) : l.Nodup := List.pairwise_iff_getElem.2 fun i j hi hj hij he => by
 have h1 := (h j _ (List.getElem?_eq_getElem hj)).2
 rw [← he] at h1
 exact h1 (List.mem_take_iff_getElem.2 ⟨i, by omega, rfl⟩)
theorem nodup_diff {r : Rnd} {l : List Int} (h : l.Nodup) (hr : ∀ x ∈ l, 0 ≤ x ∧ x < (r.Farms.length : Int)) : DiffR r l := fun j x hx => by
 refine ⟨hr x (List.mem_of_getElem? hx), fun hm => ?_⟩
 obtain ⟨i, hi, he⟩ := List.mem_take_iff_getElem.1 hm
 obtain ⟨hj, hx⟩ := List.getElem?_eq_some_iff.1 hx
 exact List.pairwise_iff_getElem.1 h i j (by omega) hj (by omega) (he.trans hx.symm)
theorem wI_nodup {v : List Nat} (h : v.Nodup) : (wI v).Nodup := by
 unfold wI
 exact List.pairwise_map.2 (h.imp fun hne he => hne (Int.ofNat.inj he))
theorem mem_wI {v : List Nat} {x : Int} : x ∈ wI v ↔ ∃ i, i ∈ v ∧ (i : Int) = x := by unfold wI; exact List.mem_map
theorem od_diff {r : Rnd} {S : Nat → Bool} {v : List Nat} (h : Od r.Farms.length S v) : DiffR r (wI v) := nodup_diff (wI_nodup h.1) fun x hx => by
 obtain ⟨i, hi, rfl⟩ := mem_wI.1 hx
 have := (h.2 i).1 hi
 omega
theorem od_len {r : Rnd} {l : List Int} {v : List Nat} (hd : DiffR r l) (hn : r.Farms.length ≤ 5) (h : Od r.Farms.length (SS (setL l)) v) : (wI v).length = l.length := by
 refine ((List.perm_ext_iff_of_nodup (wI_nodup h.1) (diff_nodup hd)).2 fun x => ?_).length_eq
 rw [mem_wI]
 constructor
 ·rintro ⟨i, hi, rfl⟩
  exact (SS_setL.1 ((h.2 i).1 hi).2).2
 ·intro hx
  obtain ⟨j, hj⟩ := List.mem_iff_getElem?.1 hx
  have h1 := (hd j x hj).1
  refine ⟨x.toNat, (h.2 _).2 ⟨by omega, SS_setL.2 ⟨by omega, ?_⟩⟩, by omega⟩
  rw [show ((x.toNat : Nat) : Int) = x by omega]; exact hx
theorem lnA_congr {r : Rnd} {p : Pt} {S T : Nat → Bool} (h : ∀ i, i < r.Farms.length → S i = T i) : lnA r p S = lnA r p T := (lnA_ln.congr h).uniq lnA_ln
theorem lt_of_bits {b n : Nat} (h : ∀ j, n ≤ j → b.testBit j = false) : b < 2 ^ n := Nat.lt_pow_two_of_testBit b h
theorem mask_len {r : Rnd} {l : List Int} {b : Nat} (hn : r.Farms.length ≤ 5) (hd : DiffR r l) (hb : MaskOf b l) : b < 2 ^ r.Farms.length ∧ lnA r r.Home (bS b) = lenR r (setL l) := by
 refine ⟨lt_of_bits fun j hj => ?_, lnA_congr fun i hi => ?_⟩
 ·rcases Nat.lt_or_ge j 5 with h5 | h5
  ·rw [hb.2 j h5]
   refine decide_eq_false fun hm => ?_
   obtain ⟨k, hk⟩ := List.mem_iff_getElem?.1 hm
   have := (hd k _ hk).1; omega
  ·exact Nat.testBit_lt_two_pow (Nat.lt_of_lt_of_le hb.1 (Nat.pow_le_pow_right (n := 2) (by omega) h5))
 ·rw [Bool.eq_iff_iff, SS_setL]
  show b.testBit i = true ↔ _
  rw [hb.2 i (by omega), decide_eq_true_iff]
  exact ⟨fun h => ⟨by omega, h⟩, fun h => h.2⟩
theorem L1_go {R : List Int × Int × Int} {v : List Nat} (hR : R.1 = wI v) (hv : ∀ i ∈ v, i < 5) (hl : v.length ≤ 100) : ∀ (d k c : Nat), k ≤ v.length → v.length - k < d → c < 32 → (∀ i, bS c i = true → i ∈ v.drop k) → pRoundWalks_L1 R d (c : Int) (k : Int) = some true
 | 0, _, _, _, h, _, _ => by omega
 | d + 1, k, c, hk, h, hc, hb => by
  rw [pRoundWalks_L1, hR, wI_len]
  by_cases hkl : k = v.length
  ·subst hkl
   have h0 : c = 0 := Nat.eq_of_testBit_eq fun i => by
    rw [Nat.zero_testBit]
    cases hi : c.testBit i with
    | false => rfl
    | true => have := hb i hi; rw [List.drop_length] at this; cases this
   subst h0
   rw [if_neg (Int.lt_irrefl _), if_pos (by omega), aw]
  ·have hlt : k < v.length := by omega
   have hg := List.getElem?_eq_getElem hlt
   have hi5 := hv _ (List.getElem_mem hlt)
   have hdr := List.drop_eq_getElem_cons hlt
   generalize v[k] = i at hg hi5 hdr
   have hgi : (wI v)[k]? = some (i : Int) := by unfold wI; rw [List.getElem?_map, hg]; rfl
   have hcl := clr_lt (i := i) (n := 5) hc
   have ih := L1_go hR hv hl d (k + 1) (Nat.xor c (Nat.land c (2 ^ i))) (by omega) (by omega) hcl fun j hj => by
    rw [clr_bS] at hj
    obtain ⟨j1, j2⟩ := delS_iff.1 hj
    have := hb j j1
    rw [hdr] at this
    exact (List.mem_cons.1 this).resolve_left j2
   have hp := pow5 (show i ≤ 5 by omega)
   have hcl32 : Nat.xor c (Nat.land c (2 ^ i)) < 32 := hcl
   rw [if_pos (by omega), idx_at hgi, obs, wu (by omega), pow_c, Int.toNat_natCast, Int.toNat_natCast]
   generalize Nat.xor c (Nat.land c (2 ^ i)) = c' at ih hcl32 ⊢
   generalize 2 ^ i = P at hp ⊢
   rw [gd_pos (by omega), gd_pos (by omega), gd_pos (by omega), gd_pos (fI (by omega)), gd_pos (by omega), gd_pos (by omega), gd_pos (fI (by omega)), gd_pos (fI (by omega)), gd_pos (fI (by omega)), gd_pos (fI (by omega)), show (k : Int) + 1 = ((k + 1 : Nat) : Int) by omega]
   exact ih
theorem L0_go {r : Rnd} {l : List Int} {R : List Int × Int × Int} (hn : r.Farms.length ≤ 5) (hd : DiffR r l) (hl : l.length ≤ 100) (hend : ∀ d b, MaskOf b l → pRoundWalks_L0 r l R (d + 1) (b : Int) (l.length : Int) = some true) : ∀ (d k b : Nat), k ≤ l.length → l.length - k < d → MaskOf b (l.take k) → pRoundWalks_L0 r l R d (b : Int) (k : Int) = some true
 | 0, _, _, _, h, _ => by omega
 | d + 1, k, b, hk, h, hb => by
  by_cases hkl : k = l.length
  ·subst hkl
   rw [List.take_length] at hb
   exact hend d b hb
  ·have hlt : k < l.length := by omega
   have hg := List.getElem?_eq_getElem hlt
   have hs := take_snoc hg
   have hx := (hd k _ hg).1
   rw [pRoundWalks_L0]
   generalize l[k] = x at hg hs hx
   obtain ⟨i, rfl⟩ : ∃ i : Nat, x = (i : Int) := ⟨x.toNat, by omega⟩
   have hi : i < 5 := by omega
   have hp := pow5 (show i ≤ 5 by omega)
   have ho := mask_or hb hi
   have ih := L0_go hn hd hl hend d (k + 1) (Nat.lor b (2 ^ i)) (by omega) (by omega) (by rw [hs]; exact ho)
   have hol := ho.1
   have hbl := hb.1
   rw [if_pos (by omega), idx_at hg, obs, wu (by omega), pow_c, Int.toNat_natCast, Int.toNat_natCast]
   generalize Nat.lor b (2 ^ i) = c at ih hol ⊢
   generalize 2 ^ i = P at hp ⊢
   rw [gd_pos (by omega), gd_pos (by omega), gd_pos (by omega), gd_pos (fI (by omega)), gd_pos (by omega), gd_pos (by omega), gd_pos (fI (by omega)), gd_pos (fI (by omega)), gd_pos (fI (by omega)), gd_pos (fI (by omega)), show (k : Int) + 1 = ((k + 1 : Nat) : Int) by omega]
   exact ih
theorem mask0 : MaskOf 0 [] := ⟨by omega, fun j _ => by simp⟩
open Classical in
theorem m_RoundWalks {r : Rnd} {l : List Int} (_hr : ok_Rnd r) (_hl : l.length ≤ maxLen ∧ ∀ a0 ∈ l, fitsP .i64 a0) : pRoundWalks r l = some true := by
 unfold pRoundWalks
 by_cases h7 : (7 : Int) < (r.Farms.length : Int)
 ·rw [if_pos h7, aw]
 rw [if_neg h7]
 by_cases h9 : (9 : Int) < (l.length : Int)
 ·rw [if_pos h9, aw]
 have hl : l.length ≤ 100 := by omega
 rw [if_neg h9, lRound_eq (by omega), obs, lList_eq hl, obs]
 by_cases hv : VRn r
 ·have h0 := fault_zero.2 hv
  have hn := (not_many hv.many).2.2.2
  have hd0 := diff_eq hn hl
  by_cases hd : DiffR r l
  ·rw [decide_eq_true hd] at hd0
   by_cases hm : r.Miles < lenR r (setL l)
   ·rw [Walk_short hv hl hd hm, obs, lFault_eq, obs, obs, check_eq, obs, if_pos rfl, if_pos h0, hd0, obs, if_pos rfl]
    refine L0_go hn hd hl (fun d b hb => ?_) (l.length + 1) 0 0 (Nat.zero_le _) (by omega) mask0
    obtain ⟨m1, m2⟩ := mask_len hn hd hb
    rw [pRoundWalks_L0, if_neg (Int.lt_irrefl _), shortest_eq hv.ok m1, obs, m2, if_pos hm, if_pos rfl]; rfl
   ·obtain ⟨v, w1, w2, w3⟩ := Walk_ok hv hl hd hm
    have hvl := Od.len w2
    have hdv := diff_eq (r := r) (l := wI v) hn (by rw [wI_len]; omega)
    rw [decide_eq_true (od_diff w2)] at hdv
    have hlv := length_eq hv.ok (fun i hi => ((w2.2 i).1 hi).1) (w := v) (by omega)
    rw [w1, obs, lFault_eq, obs, obs, check_eq, obs, if_pos rfl, if_pos h0, hd0, obs, if_pos rfl]
    refine L0_go hn hd hl (fun d b hb => ?_) (l.length + 1) 0 0 (Nat.zero_le _) (by omega) mask0
    obtain ⟨m1, m2⟩ := mask_len hn hd hb
    have hol := od_len hd hn w2
    rw [pRoundWalks_L0, if_neg (Int.lt_irrefl _), shortest_eq hv.ok m1, obs, m2, if_neg hm, if_pos rfl]
    dsimp only
    rw [if_pos (by omega), hdv, obs, if_pos rfl, hlv, obs, w3, if_pos rfl, obs, if_pos rfl]
    refine L1_go rfl (fun i hi => by have := ((w2.2 i).1 hi).1; omega) (by omega) ((wI v).length + 1) 0 b (Nat.zero_le _) (by rw [wI_len]; omega) hb.1 fun i hi => ?_
    rw [List.drop_zero]
    have hi5 : i < 5 := Nat.not_le.1 fun hle => by
     have : b.testBit i = false := Nat.testBit_lt_two_pow (Nat.lt_of_lt_of_le hb.1 (Nat.pow_le_pow_right (n := 2) (by omega) hle))
     rw [show b.testBit i = true from hi] at this; cases this
    have hmem : (i : Int) ∈ l := by
     have := hb.2 i hi5
     rw [show b.testBit i = true from hi] at this
     exact of_decide_eq_true this.symm
    obtain ⟨k, hk⟩ := List.mem_iff_getElem?.1 hmem
    have := (hd k _ hk).1
    exact (w2.2 i).2 ⟨by omega, SS_setL.2 ⟨hi5, hmem⟩⟩
  ·rw [decide_eq_false hd] at hd0
   rw [Walk_diff hv hl hd, obs, lFault_eq, obs, obs, check_eq, obs, if_pos rfl, if_pos h0, hd0, obs, if_neg (by simp), if_pos rfl]; rfl
 ·have h0 : ¬ faultR r = 0 := fun h => hv (fault_zero.1 h)
  rw [Walk_no hv, obs, lFault_eq, obs, obs, check_eq, obs, if_pos rfl, if_neg h0, if_pos rfl]; rfl
end
end Go.Proofs.Ytoejeieblichnaa

namespace Go.Proofs.Ytoejeieblichnaa
open _root_.Go.Proofs.Try
open Go.Abs Go.Abs.Rnd
set_option maxRecDepth 100000
noncomputable section
theorem all_eq {r : Rnd} (hn : r.Farms.length ≤ 5) : prAll r = some ((2 ^ r.Farms.length - 1 : Nat) : Int) := by
 have hp := pow5 hn
 have h0 := Nat.two_pow_pos r.Farms.length
 unfold prAll
 rw [wu (by omega), pow_c, gd_pos (by omega), gd_pos (by omega), gd_pos (by omega), gd_pos (fI (by omega)), gd_pos (fI (by omega))]
 congr 1; omega
theorem and_all {b n j : Nat} : (Nat.land b (2 ^ n - 1)).testBit j = (b.testBit j && decide (j < n)) := by
 show (b &&& (2 ^ n - 1)).testBit j = _
 rw [Nat.testBit_and, Nat.testBit_two_pow_sub_one]
theorem set_eq {r : Rnd} (hn : r.Farms.length ≤ 5) {b : Nat} (hb : b < 256) : plSet r (b : Int) = some (bitsL (Nat.land b (2 ^ r.Farms.length - 1))) := by
 have hp := pow5 hn
 have h0 := Nat.two_pow_pos r.Farms.length
 have hle : Nat.land b (2 ^ r.Farms.length - 1) ≤ b := Nat.and_le_left
 have hw : wrapZ .i64 (b : Int) = (b : Int) := wz (fI (by omega))
 unfold plSet
 rw [all_eq hn, obs, hw, Int.toNat_natCast, Int.toNat_natCast]
 have hA : 2 ^ r.Farms.length - 1 ≤ 31 := by omega
 generalize 2 ^ r.Farms.length - 1 = A at hle hA ⊢
 rw [gd_pos (by omega), gd_pos (by omega), gd_pos (fI (by omega)), gd_pos (fI (by omega)), gd_pos (fI (by omega)), rBits_eq (by omega)]; rfl
theorem mem_bits {b : Nat} {v : Int} : v ∈ bitsL b ↔ 0 ≤ v ∧ v < 16 ∧ b.testBit v.toNat = true := mem_bitsF
theorem diff_bits {r : Rnd} (hn : r.Farms.length ≤ 5) {b : Nat} (hb : ∀ j, b.testBit j = true → j < r.Farms.length) : DiffR r (bitsL b) :=
 nodup_diff ((sorted_bitsF 16).imp fun h => Int.ne_of_lt h) fun x hx => by
  obtain ⟨h1, h2, h3⟩ := mem_bits.1 hx
  have := hb _ h3; omega
theorem SS_bits {b i : Nat} : SS (setL (bitsL b)) i = true ↔ i < 5 ∧ b.testBit i = true := by
 rw [SS_setL, mem_bits, Int.toNat_natCast]
 exact ⟨fun h => ⟨h.1, h.2.2.2⟩, fun h => ⟨h.1, by omega, by omega, h.2⟩⟩
theorem bits_len {b : Nat} : (bitsL b).length ≤ 16 := lenF 16
theorem back_go {r : Rnd} (hok : okW r) {v : List Nat} (hv : ∀ i ∈ v, i < r.Farms.length) (hl : v.length ≤ 100) {L : Int} (hL : pl dsP (posR r) r.Home r.Home v = L) : ∀ (d k : Nat), k ≤ v.length → k < d →
  pRoundLengths_L0 r (wI v, L, 0) d (wI (v.drop k)).reverse ((k : Int) - 1) = some true
 | 0, _, _, h => by omega
 | d + 1, k, hk, h => by
  rw [pRoundLengths_L0]
  cases k with
  | zero =>
   have hr : (wI (v.drop 0)).reverse = wI v.reverse := by rw [List.drop_zero]; unfold wI; rw [List.map_reverse]
   have hb := length_eq hok (w := v.reverse) (fun i hi => hv i (List.mem_reverse.1 hi)) (by rw [List.length_reverse]; exact hl)
   rw [pl_rev mtP, hL] at hb
   rw [if_neg (by omega), hr, length_eq hok hv hl, obs, hL, if_pos rfl, hb, obs, if_pos rfl, aw]
  | succ j =>
   have hlt : j < v.length := by omega
   have hg := List.getElem?_eq_getElem hlt
   have hdr := List.drop_eq_getElem_cons hlt
   have hm := List.getElem_mem hlt
   have ih := back_go hok hv hl hL d j (by omega) (by omega)
   rw [hdr] at ih
   generalize v[j] = i at hg hdr hm ih
   have hi := hv i hm
   have hgi : (wI v)[j]? = some (i : Int) := by unfold wI; rw [List.getElem?_map, hg]; rfl
   have hq := List.getElem?_eq_getElem hi
   have hpos : posR r i = (r.Farms[i]).At := by unfold posR; rw [hq]
   have hqo := posR_ok hok i
   have hd := dsP_bd hok.2.1 hqo
   have h2 := pl_twice (pos := posR r) mtP v r.Home r.Home i hm
   rw [mtP.sy (posR r i) r.Home, hL] at h2
   have hal : ((wI (v.drop (j + 1))).reverse).length ≤ 100 := by rw [List.length_reverse, wI_len, List.length_drop]; omega
   have hj : ((j + 1 : Nat) : Int) - 1 = (j : Int) := by omega
   have hacc : (wI (v.drop (j + 1))).reverse ++ [(i : Int)] = (wI (i :: v.drop (j + 1))).reverse := by
    show _ = ((i : Int) :: wI (v.drop (j + 1))).reverse
    rw [List.reverse_cons]
   rw [hj, if_pos (by omega), idx_at hgi, obs, gd_pos (by omega), obs, idx_at hq, obs, ← hpos, rDist_eq hok.2.1 hqo, obs, gd_pos (by omega), gd_pos (by omega), gd_pos (fI (by omega))]
   dsimp only
   rw [if_neg (by omega), gd_pos (fI (by omega)), hacc]
   exact ih
open Classical in
theorem m_RoundLengths {r : Rnd} {bits part : Int} (_hr : ok_Rnd r) (hb : fitsP .u8 bits) (hpt : fitsP .u8 part) : pRoundLengths r bits part = some true := by
 unfold pRoundLengths
 by_cases h7 : (7 : Int) < (r.Farms.length : Int)
 ·rw [if_pos h7, aw]
 rw [if_neg h7, rFault_eq, obs]
 by_cases hv : VRn r
 ·have hn := (not_many hv.many).2.2.2
  have u1 := fU8 hb
  have u2 := fU8 hpt
  obtain ⟨b, rfl⟩ : ∃ b : Nat, bits = (b : Int) := ⟨bits.toNat, by omega⟩
  obtain ⟨p, rfl⟩ : ∃ p : Nat, part = (p : Int) := ⟨part.toNat, by omega⟩
  have hle : Nat.land b p ≤ b := Nat.and_le_left
  have ec := set_eq (r := r) hn (b := b) (by omega)
  have ec' := set_eq (r := r) hn (b := Nat.land b p) (by omega)
  have tb : ∀ {c j : Nat}, (Nat.land c (2 ^ r.Farms.length - 1)).testBit j = true ↔ c.testBit j = true ∧ j < r.Farms.length := fun {c j} => by rw [and_all, Bool.and_eq_true, decide_eq_true_iff]
  have d1 := diff_bits (r := r) hn (b := Nat.land b (2 ^ r.Farms.length - 1)) fun j hj => (tb.1 hj).2
  have d2 := diff_bits (r := r) hn (b := Nat.land (Nat.land b p) (2 ^ r.Farms.length - 1)) fun j hj => (tb.1 hj).2
  have hmono : lenR r (setL (bitsL (Nat.land (Nat.land b p) (2 ^ r.Farms.length - 1)))) ≤ lenR r (setL (bitsL (Nat.land b (2 ^ r.Farms.length - 1)))) := lnA_ln.mono mtP lnA_ln fun i _ hi => by
   obtain ⟨q1, q2⟩ := SS_bits.1 hi
   obtain ⟨q3, q4⟩ := tb.1 q2
   refine SS_bits.2 ⟨q1, tb.2 ⟨?_, q4⟩⟩
   have : (b &&& p).testBit i = true := q3
   rw [Nat.testBit_and, Bool.and_eq_true] at this
   exact this.1
  have l1 := bits_len (b := Nat.land b (2 ^ r.Farms.length - 1))
  have l2 := bits_len (b := Nat.land (Nat.land b p) (2 ^ r.Farms.length - 1))
  rw [if_pos (fault_zero.2 hv), ec, obs, gd_pos (by omega), gd_pos (by omega), gd_pos hb, gd_pos hpt, Int.toNat_natCast, Int.toNat_natCast, gd_pos (show fitsP .u8 ((Nat.land b p : Nat) : Int) from (show (0 : Int) ≤ (Nat.land b p : Nat) ∧ ((Nat.land b p : Nat) : Int) < 256 by omega)), ec', obs]
  generalize bitsL (Nat.land b (2 ^ r.Farms.length - 1)) = A at d1 hmono l1 ⊢
  generalize bitsL (Nat.land (Nat.land b p) (2 ^ r.Farms.length - 1)) = B at d2 hmono l2 ⊢
  rw [lRound_eq (by omega), obs, lList_eq (by omega), obs]
  by_cases hm : r.Miles < lenR r (setL A)
  ·rw [Walk_short hv (by omega) d1 hm, obs, obs, lList_eq (by omega), obs]
   by_cases hm2 : r.Miles < lenR r (setL B)
   ·rw [Walk_short hv (by omega) d2 hm2, obs]; rfl
   ·obtain ⟨v, w1, _⟩ := Walk_ok hv (by omega) d2 hm2
    rw [w1, obs]; rfl
  ·obtain ⟨v, w1, w2, w3⟩ := Walk_ok hv (by omega) d1 hm
   obtain ⟨u, y1, _⟩ := Walk_ok hv (by omega) d2 (show ¬ r.Miles < lenR r (setL B) by omega)
   have hvl := Od.len w2
   have hvi : ∀ i ∈ v, i < r.Farms.length := fun i hi => ((w2.2 i).1 hi).1
   have hdv := diff_eq (r := r) (l := wI v) hn (by rw [wI_len]; omega)
   rw [decide_eq_true (od_diff w2)] at hdv
   have hol := od_len d1 hn w2
   have hwl := wI_len (w := v)
   have hgo := back_go hv.ok hvi (by omega) w3 1000000 v.length (Nat.le_refl _) (by omega)
   rw [List.drop_length] at hgo
   rw [w1, obs, obs, lList_eq (by omega), obs, y1, obs]
   dsimp only
   rw [if_pos rfl, if_pos rfl, if_neg (by omega), if_pos (by omega), hdv, obs, if_pos rfl, if_neg hm, gd_pos (fI (by omega)), hwl]
   exact hgo
 ·rw [if_neg fun h => hv (fault_zero.1 h), aw]
end
end Go.Proofs.Ytoejeieblichnaa

