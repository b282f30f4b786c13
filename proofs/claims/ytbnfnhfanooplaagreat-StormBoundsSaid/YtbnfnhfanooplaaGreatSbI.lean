/- An evaluator of the code of a program, its soundness, what calls ask, memory, and what functions of the program do. Condition: none; a lemma text of this claim. -/
import Derived.Test.YtbnfnhfanooplaaGreatSbH

namespace Go.Proofs.YtbnfnhfanooplaaGreat
open _root_.Go.Proofs.Tryz
open Go.Abs
set_option maxRecDepth 100000
noncomputable section
def Fv_Crd_Bool (f : M) (x : C) (g : Crd → Option (Bool)) : Prop := ∀ (f' m : M) (a0 : Crd) (r : Bool) (Q : V → M → Prop), Sub f f' → Pre f' m → g a0 = some r → (∀ m', Ext m m' → Q (.c (.bool r)) m') → callP prog tbl [.agg 7 [(.int .i64 a0.X.Lo), (.int .i64 a0.X.Hi), (.int .i64 a0.Y.Lo), (.int .i64 a0.Y.Hi), (.bool a0.Hail), (.int .i64 a0.Size.Lo), (.int .i64 a0.Size.Hi)]] x m Q
theorem Fv_Crd_Bool.sub {f m : M} {x : C} {g : Crd → Option (Bool)} (h : Fv_Crd_Bool f x g) (s : Sub f m) : Fv_Crd_Bool m x g := fun f' m' a0 r Q hs => h f' m' a0 r Q (s.trans hs)
def Fv_Rct_Bool (f : M) (x : C) (g : Rct → Option (Bool)) : Prop := ∀ (f' m : M) (a0 : Rct) (r : Bool) (Q : V → M → Prop), Sub f f' → Pre f' m → g a0 = some r → (∀ m', Ext m m' → Q (.c (.bool r)) m') → callP prog tbl [.agg 4 [(.int .i64 a0.X.Lo), (.int .i64 a0.X.Hi), (.int .i64 a0.Y.Lo), (.int .i64 a0.Y.Hi)]] x m Q
theorem Fv_Rct_Bool.sub {f m : M} {x : C} {g : Rct → Option (Bool)} (h : Fv_Rct_Bool f x g) (s : Sub f m) : Fv_Rct_Bool m x g := fun f' m' a0 r Q hs => h f' m' a0 r Q (s.trans hs)
def Fv_Trh_Int (f : M) (x : C) (g : Trh → Option (Int)) : Prop := ∀ (f' m : M) (a0 : Trh) (r : Int) (Q : V → M → Prop), Sub f f' → Pre f' m → g a0 = some r → (∀ m', Ext m m' → Q (.c (.int .i64 r)) m') → callP prog tbl [.agg 4 [(.int .i64 a0.A), (.int .i64 a0.B), (.int .i64 a0.Half), (.int .i64 a0.Peak)]] x m Q
theorem Fv_Trh_Int.sub {f m : M} {x : C} {g : Trh → Option (Int)} (h : Fv_Trh_Int f x g) (s : Sub f m) : Fv_Trh_Int m x g := fun f' m' a0 r Q hs => h f' m' a0 r Q (s.trans hs)
theorem kl40 : KL prog 40 Trh := kl_agg (n := 4) (ks := [.int .i64, .int .i64, .int .i64, .int .i64]) (by kernel_rfl) (by kernel_rfl) (cs := fun k => [.int .i64 k.A, .int .i64 k.B, .int .i64 k.Half, .int .i64 k.Peak]) (fun _ => rfl) fun a b fa fb => ⟨_, _, (eqKs_cons (eqK_i fa.1 fb.1) (eqKs_cons (eqK_i fa.2.1 fb.2.1) (eqKs_cons (eqK_i fa.2.2.1 fb.2.2.1) (eqKs_cons (eqK_i fa.2.2.2.1 fb.2.2.2.1) eqKs_nil)))), ⟨fun h => by obtain ⟨aA, aB, aHalf, aPeak⟩ := a; obtain ⟨bA, bB, bHalf, bPeak⟩ := b; simp_all, fun h => by subst h; exact ⟨rfl, rfl, rfl, rfl, trivial⟩⟩⟩
theorem ta32 : TA prog 32 7 := ⟨78, by kernel_rfl, by kernel_rfl, by kernel_rfl⟩
theorem ta46 : TA prog 46 4 := ⟨28, by kernel_rfl, by kernel_rfl, by kernel_rfl⟩
theorem ta62 : TA prog 62 1 := ⟨3, by kernel_rfl, by kernel_rfl, by kernel_rfl⟩
theorem s_awake {m f : M} {Q : V → M → Prop} {rz : Bool} (_hS : Pre f m) (hp : pawake = some rz) (hq : ∀ m', Ext m m' → Q (.c (.bool rz)) m') : Wc prog tbl 5 [] m Q := by
 obtain rfl := Option.some.inj hp
 exact call_known (show findT tbl 5 = some true from rfl) (hq _ (.refl m))
theorem s_rIn {n : Int} {low : Int} {high : Int} {m f : M} {Q : V → M → Prop} {rz : Bool} (hS : Pre f m)  (hp : prIn n low high = some rz) (hq : ∀ m', Ext m m' → Q (.c (.bool rz)) m') : Wc prog tbl 43 [.c (Il n), .c (Il low), .c (Il high)] m Q := by
 have b := hS.st
 obtain ⟨d, _⟩ : ∃ τ : Nat → Nat, True := ⟨fun _ => 0, trivial⟩
 refine w43 ?_
 unfold prIn at hp
 refine ifd hp (fun a hp => ?_) fun a hp => ?_
 ·obtain rfl := Option.some.inj hp
  exact hq _ b.ext'
 obtain rfl := Option.some.inj hp
 exact hq _ b.ext'
theorem s_rWithin {r : Rg} {low : Int} {high : Int} {m f : M} {Q : V → M → Prop} {rz : Bool} (hS : Pre f m)  (hp : prWithin r low high = some rz) (hq : ∀ m', Ext m m' → Q (.c (.bool rz)) m') : Wc prog tbl 44 [.agg 2 [(Il r.Lo), (Il r.Hi)], .c (Il low), .c (Il high)] m Q := by
 have h := hS.st
 obtain ⟨i, _⟩ : ∃ τ : Nat → Nat, True := ⟨fun _ => 0, trivial⟩
 refine w44 ?_
 unfold prWithin at hp
 intro n d
 obtain ⟨j, b, l, a⟩ := h.blk d i 1
 refine ⟨trivial, _, a.bk.rc rfl, ?_⟩
 refine ifd hp (fun e hp => ?_) fun e hp => ?_; rotate_left
 ·obtain rfl := Option.some.inj hp
  exact hq _ b.ext'
 refine ⟨trivial, _, a.bk.rc rfl, trivial, _, a.bk.rc rfl, ?_⟩
 refine ifd hp (fun g hp => ?_) fun g hp => ?_; rotate_left
 ·obtain rfl := Option.some.inj hp
  exact hq _ b.ext'
 refine ⟨trivial, _, a.bk.rc rfl, ?_⟩
 obtain rfl := Option.some.inj hp
 exact hq _ b.ext'
theorem s_rCount {r : Rg} {m f : M} {Q : V → M → Prop} {rz : Int} (hS : Pre f m)  (hp : prCount r = some rz) (hq : ∀ m', Ext m m' → Q (.c (Il rz)) m') : Wc prog tbl 50 [.agg 2 [(Il r.Lo), (Il r.Hi)]] m Q := by
 have h := hS.st
 obtain ⟨i, _⟩ : ∃ τ : Nat → Nat, True := ⟨fun _ => 0, trivial⟩
 refine w50 ?_
 unfold prCount at hp
 intro n b
 obtain ⟨j, d, l, a⟩ := h.blk b i 1
 refine ⟨trivial, _, a.bk.rc rfl, trivial, _, a.bk.rc rfl, ?_⟩
 refine gdi hp fun e hp => ?_
 refine gdi hp fun g hp => ?_
 obtain rfl := Option.some.inj hp
 exact hq _ d.ext'
theorem s_rIsRect {s : Stm} {r : Rct} {ca111 : C} {m f : M} {Q : V → M → Prop} {rz : Bool} (hS : Pre f m) (_ha111 : Sl f ca111 s.Cards) (hp : prIsRect s r = some rz) (hq : ∀ m', Ext m m' → Q (.c (.bool rz)) m') : Wc prog tbl 75 [.agg 12 [(Il s.Wide), (Il s.High), (Il s.Fall), (Il s.A.Lo), (Il s.A.Hi), (Il s.B.Lo), (Il s.B.Hi), (Il s.Half.Lo), (Il s.Half.Hi), (Il s.Peak.Lo), (Il s.Peak.Hi), ca111], .agg 4 [(Il r.X.Lo), (Il r.X.Hi), (Il r.Y.Lo), (Il r.Y.Hi)]] m Q := by
 have N := hS.st
 obtain ⟨O, _⟩ : ∃ τ : Nat → Nat, True := ⟨fun _ => 0, trivial⟩
 refine w75 ?_
 unfold prIsRect at hp
 intro m0 i
 obtain ⟨l, n, P, o⟩ := N.blk i O 1
 intro m1 p
 obtain ⟨b, d, q, e⟩ := n.blk p l 2
 have g := o.k q
 refine ⟨trivial, _, _, e.bk.rp (k := 0) (j := 2) rfl (by omega), trivial, _, g.bk.rc rfl, ?_⟩
 refine gdi hp fun t hp => ?_
 obtain ⟨S, u, hp⟩ := bsome hp
 refine s_rWithin (r := r.X) (low := (0 : Int)) (high := (s.Wide - (1 : Int))) d.pre  u fun m6 x => ?_
 obtain ⟨a, h⟩ := d.call x b
 have y := g.k h
 have z := e.k h
 refine ⟨_, rfl, ?_⟩
 refine ifbb hp (fun D hp => ?_) fun D hp => ?_; rotate_left
 ·obtain rfl := Option.some.inj hp
  exact hq _ a.ext'
 refine ⟨trivial, _, _, z.bk.rp (k := 2) (j := 2) rfl (by omega), trivial, _, y.bk.rc rfl, ?_⟩
 refine gdi hp fun F hp => ?_
 obtain ⟨T, G, hp⟩ := bsome hp
 refine s_rWithin (r := r.Y) (low := (0 : Int)) (high := (s.High - (1 : Int))) a.pre  G fun aa I => ?_
 obtain ⟨J, Z⟩ := a.call I b
 refine ⟨_, rfl, ?_⟩
 obtain rfl := Option.some.inj hp
 exact hq _ J.ext'
theorem s_rIsCard {s : Stm} {c : Crd} {ca111 : C} {m f : M} {Q : V → M → Prop} {rz : Bool} (hS : Pre f m) (ha111 : Sl f ca111 s.Cards) (hp : prIsCard s c = some rz) (hq : ∀ m', Ext m m' → Q (.c (.bool rz)) m') : Wc prog tbl 45 [.agg 12 [(Il s.Wide), (Il s.High), (Il s.Fall), (Il s.A.Lo), (Il s.A.Hi), (Il s.B.Lo), (Il s.B.Hi), (Il s.Half.Lo), (Il s.Half.Hi), (Il s.Peak.Lo), (Il s.Peak.Hi), ca111], .agg 7 [(Il c.X.Lo), (Il c.X.Hi), (Il c.Y.Lo), (Il c.Y.Hi), (.bool c.Hail), (Il c.Size.Lo), (Il c.Size.Hi)]] m Q := by
 have Z := hS.st
 obtain ⟨τ0, _⟩ : ∃ τ : Nat → Nat, True := ⟨fun _ => 0, trivial⟩
 refine w45 ?_
 unfold prIsCard at hp
 intro m0 l
 obtain ⟨n, o, ba, p⟩ := Z.blk l τ0 1
 intro m1 q
 obtain ⟨e, g, t, a⟩ := o.blk q n 2
 have u := p.k t
 refine ⟨_, _, _, _, _, _, _, _, _, _, _, _, u.bk.ra, trivial, _, _, a.bk.rp (k := 0) (j := 2) rfl (by omega), trivial, _, _, a.bk.rp (k := 2) (j := 2) rfl (by omega), ?_⟩
 obtain ⟨ca, x, hp⟩ := bsome hp
 refine s_rIsRect (s := s) (r := ({ X := c.X, Y := c.Y } : Rct)) g.pre ha111 x fun ea y => ?_
 obtain ⟨b, z⟩ := g.call y e
 have h := a.k z
 refine ⟨_, rfl, ?_⟩
 refine ifnb hp (fun D hp => ?_) fun D hp => ?_
 ·obtain rfl := Option.some.inj hp
  exact hq _ b.ext'
 refine ⟨trivial, _, _, h.bk.rp (k := 5) (j := 2) rfl (by omega), ?_⟩
 obtain ⟨da, F, hp⟩ := bsome hp
 refine s_rWithin (r := c.Size) (low := (0 : Int)) (high := (9 : Int)) b.pre  F fun fa G => ?_
 obtain ⟨d, I⟩ := b.call G e
 have i := h.k I
 refine ⟨_, rfl, ?_⟩
 refine ifnb hp (fun J hp => ?_) fun J hp => ?_
 ·obtain rfl := Option.some.inj hp
  exact hq _ d.ext'
 refine ⟨trivial, _, i.bk.rc rfl, ?_⟩
 refine ifbb hp (fun N hp => ?_) fun N hp => ?_
 ·obtain rfl := Option.some.inj hp
  exact hq _ d.ext'
 refine ⟨trivial, _, _, i.bk.rp (k := 5) (j := 2) rfl (by omega), ?_⟩
 refine gdi hp fun O hp => ?_
 refine gdi hp fun P hp => ?_
 refine gdi hp fun S hp => ?_
 refine gdi hp fun T hp => ?_
 obtain rfl := Option.some.inj hp
 exact hq _ d.ext'
theorem s_rMany {s : Stm} {ca111 : C} {m f : M} {Q : V → M → Prop} {rz : Int} (hS : Pre f m) (_ha111 : Sl f ca111 s.Cards) (hp : prMany s = some rz) (hq : ∀ m', Ext m m' → Q (.c (Il rz)) m') : Wc prog tbl 18 [.agg 12 [(Il s.Wide), (Il s.High), (Il s.Fall), (Il s.A.Lo), (Il s.A.Hi), (Il s.B.Lo), (Il s.B.Hi), (Il s.Half.Lo), (Il s.Half.Hi), (Il s.Peak.Lo), (Il s.Peak.Hi), ca111]] m Q := by
 have S0 := hS.st
 obtain ⟨τ0, _⟩ : ∃ τ : Nat → Nat, True := ⟨fun _ => 0, trivial⟩
 refine w18 ?_
 unfold prMany at hp
 intro m0 n
 obtain ⟨b, g, ea, a⟩ := S0.blk n τ0 1
 refine ⟨trivial, _, _, a.bk.rp (k := 3) (j := 2) rfl (by omega), ?_⟩
 obtain ⟨fa, o, hp⟩ := bsome hp
 refine s_rCount (r := s.A) g.pre  o fun m4 p => ?_
 obtain ⟨h, q⟩ := g.call p b
 have d := a.k q
 refine ⟨_, rfl, trivial, _, _, d.bk.rp (k := 5) (j := 2) rfl (by omega), (a.bk.rp (k := 5) (j := 2) rfl (by omega)), ?_⟩
 obtain ⟨ga, t, hp⟩ := bsome hp
 refine s_rCount (r := s.B) h.pre  t fun m9 u => ?_
 obtain ⟨i, x⟩ := h.call u b
 have e := d.k x
 refine ⟨_, rfl, ?_⟩
 refine gdi hp fun y hp => ?_
 refine gdi hp fun z hp => ?_
 obtain ⟨D, hp⟩ := gd_some hp
 refine ⟨D, trivial, _, _, e.bk.rp (k := 7) (j := 2) rfl (by omega), (d.bk.rp (k := 7) (j := 2) rfl (by omega)), (a.bk.rp (k := 7) (j := 2) rfl (by omega)), ?_⟩
 obtain ⟨ha, F, hp⟩ := bsome hp
 refine s_rCount (r := s.Half) i.pre  F fun ka G => ?_
 obtain ⟨l, I⟩ := i.call G b
 have J := e.k I
 refine ⟨_, rfl, ?_⟩
 refine gdi hp fun N hp => ?_
 refine gdi hp fun O hp => ?_
 obtain ⟨P, hp⟩ := gd_some hp
 refine ⟨P, trivial, _, _, J.bk.rp (k := 9) (j := 2) rfl (by omega), (e.bk.rp (k := 9) (j := 2) rfl (by omega)), (d.bk.rp (k := 9) (j := 2) rfl (by omega)), (a.bk.rp (k := 9) (j := 2) rfl (by omega)), ?_⟩
 obtain ⟨ia, S, hp⟩ := bsome hp
 refine s_rCount (r := s.Peak) l.pre  S fun la T => ?_
 obtain ⟨Y, ja⟩ := l.call T b
 refine ⟨_, rfl, ?_⟩
 refine gdi hp fun Z hp => ?_
 refine gdi hp fun aa hp => ?_
 refine gdi hp fun ba hp => ?_
 obtain rfl := Option.some.inj hp
 exact hq _ Y.ext'
theorem s_rFault {s : Stm} {ca111 : C} {m f : M} {Q : V → M → Prop} {rz : Int} (hS : Pre f m) (ha111 : Sl f ca111 s.Cards) (hp : prFault s = some rz) (hq : ∀ m', Ext m m' → Q (.c (Il rz)) m') : Wc prog tbl 12 [.agg 12 [(Il s.Wide), (Il s.High), (Il s.Fall), (Il s.A.Lo), (Il s.A.Hi), (Il s.B.Lo), (Il s.B.Hi), (Il s.Half.Lo), (Il s.Half.Hi), (Il s.Peak.Lo), (Il s.Peak.Hi), ca111]] m Q := by
 have S0 := hS.st
 obtain ⟨τ0, _⟩ : ∃ τ : Nat → Nat, True := ⟨fun _ => 0, trivial⟩
 refine w12 ?_
 unfold prFault at hp
 intro m0 T
 obtain ⟨e, b, Ra, d⟩ := S0.blk T τ0 1
 refine ⟨trivial, _, d.bk.rc rfl, ?_⟩
 refine ifd hp (fun Y hp => ?_) fun Y hp => ?_
 ·obtain rfl := Option.some.inj hp
  exact hq _ b.ext'
 refine ⟨trivial, _, d.bk.rc rfl, ?_⟩
 refine ifd hp (fun Z hp => ?_) fun Z hp => ?_
 ·obtain rfl := Option.some.inj hp
  exact hq _ b.ext'
 refine ⟨trivial, _, d.bk.rc rfl, ha111.isSl, ?_⟩
 try rw [ha111.slLen]
 refine ifd hp (fun aa hp => ?_) fun aa hp => ?_
 ·obtain rfl := Option.some.inj hp
  exact hq _ b.ext'
 refine ⟨trivial, _, d.bk.rc rfl, ?_⟩
 refine ifd hp (fun ba hp => ?_) fun ba hp => ?_
 ·obtain rfl := Option.some.inj hp
  exact hq _ b.ext'
 refine ⟨trivial, _, d.bk.rc rfl, ?_⟩
 refine ifd hp (fun ca hp => ?_) fun ca hp => ?_
 ·obtain rfl := Option.some.inj hp
  exact hq _ b.ext'
 refine ⟨trivial, _, d.bk.rc rfl, ?_⟩
 obtain ⟨Sa, da, hp⟩ := bsome hp
 refine s_rIn (n := s.Fall) (low := (0 : Int)) (high := (4 : Int)) b.pre  da fun m8 ea => ?_
 obtain ⟨o, fa⟩ := b.call ea e
 have p := d.k fa
 refine ⟨_, rfl, ?_⟩
 refine ifnb hp (fun ga hp => ?_) fun ga hp => ?_
 ·obtain rfl := Option.some.inj hp
  exact hq _ o.ext'
 refine ⟨trivial, _, _, p.bk.rp (k := 3) (j := 2) rfl (by omega), trivial, _, p.bk.rc rfl, ?_⟩
 refine gdi hp fun ha hp => ?_
 obtain ⟨Ta, ia, hp⟩ := bsome hp
 refine s_rWithin (r := s.A) (low := (0 : Int)) (high := (s.High - (1 : Int))) o.pre  ia fun ab ja => ?_
 obtain ⟨q, ka⟩ := o.call ja e
 have t := p.k ka
 refine ⟨_, rfl, ?_⟩
 refine ifnb hp (fun la hp => ?_) fun la hp => ?_
 ·obtain rfl := Option.some.inj hp
  exact hq _ q.ext'
 refine ⟨trivial, _, _, t.bk.rp (k := 5) (j := 2) rfl (by omega), trivial, _, t.bk.rc rfl, ?_⟩
 refine gdi hp fun ma hp => ?_
 obtain ⟨Ua, na, hp⟩ := bsome hp
 refine s_rWithin (r := s.B) (low := (0 : Int)) (high := (s.High - (1 : Int))) q.pre  na fun bb oa => ?_
 obtain ⟨u, pa⟩ := q.call oa e
 have F := t.k pa
 refine ⟨_, rfl, ?_⟩
 refine ifnb hp (fun qa hp => ?_) fun qa hp => ?_
 ·obtain rfl := Option.some.inj hp
  exact hq _ u.ext'
 refine ⟨trivial, _, _, F.bk.rp (k := 7) (j := 2) rfl (by omega), ?_⟩
 obtain ⟨Va, sa, hp⟩ := bsome hp
 refine s_rWithin (r := s.Half) (low := (0 : Int)) (high := (3 : Int)) u.pre  sa fun cb ta => ?_
 obtain ⟨x, ua⟩ := u.call ta e
 have G := F.k ua
 refine ⟨_, rfl, ?_⟩
 refine ifnb hp (fun va hp => ?_) fun va hp => ?_
 ·obtain rfl := Option.some.inj hp
  exact hq _ x.ext'
 refine ⟨trivial, _, _, G.bk.rp (k := 9) (j := 2) rfl (by omega), ?_⟩
 obtain ⟨Wa, wa, hp⟩ := bsome hp
 refine s_rWithin (r := s.Peak) (low := (1 : Int)) (high := (9 : Int)) x.pre  wa fun db xa => ?_
 obtain ⟨I, ya⟩ := x.call xa e
 have a := G.k ya
 refine ⟨_, rfl, ?_⟩
 refine ifnb hp (fun za hp => ?_) fun za hp => ?_
 ·obtain rfl := Option.some.inj hp
  exact hq _ I.ext'
 intro Na Aa
 have hgo : ∀ (i : Nat) (J : Int) (z : Int) (l : M) (g : Nat → Nat), St (Fm.of m) f f l → Lb (Fm.of m) f g l 1 m.nxt 12 [(Il s.Wide), (Il s.High), (Il s.Fall), (Il s.A.Lo), (Il s.A.Hi), (Il s.B.Lo), (Il s.B.Hi), (Il s.Half.Lo), (Il s.Half.Hi), (Il s.Peak.Lo), (Il s.Peak.Hi), ca111] → prFault_L0 s i z = some rz → Na [.c (Il J), .c (Il z)] l := by
  intro i
  induction i with
  | zero => intro J z l g h a hp; cases hp
  | succ i P =>
   intro J z l g h a hp
   refine Aa _ _ _ ?_
   rw [prFault_L0] at hp
   refine ⟨trivial, _, a.bk.rc rfl, ha111.isSl, ?_⟩
   try rw [ha111.slLen]
   refine ifd hp (fun Ba hp => ?_) fun Ba hp => ?_; rotate_left
   ·refine ⟨_, _, _, _, _, _, _, _, _, _, _, _, a.bk.ra, ?_⟩
    obtain ⟨Xa, Ca, hp⟩ := bsome hp
    refine s_rMany (s := s) h.pre ha111 Ca fun eb Da => ?_
    obtain ⟨N, Ya⟩ := h.call Da g
    refine ⟨_, rfl, ?_⟩
    refine ifd hp (fun Ea hp => ?_) fun Ea hp => ?_
    ·obtain rfl := Option.some.inj hp
     exact hq _ N.ext'
    obtain rfl := Option.some.inj hp
    exact hq _ N.ext'
   refine ⟨_, _, _, _, _, _, _, _, _, _, _, _, a.bk.ra, trivial, _, a.bk.rc rfl, ?_⟩
   obtain ⟨Fa, y, hp⟩ := bsome hp
   obtain ⟨Oa, S, D, y⟩ := idx_some y
   obtain ⟨_, Ga⟩ := rd_Crd ha111 y
   refine ⟨Oa, S, (by first | exact D | (rw [ha111.slLen]; exact D)), _, _, _, _, _, _, _, (Ga _ h.sub).1, ?_⟩
   obtain ⟨Za, Ha, hp⟩ := bsome hp
   refine s_rIsCard (s := s) (c := Fa) h.pre ha111 Ha fun fb Ia => ?_
   obtain ⟨O, Ja⟩ := h.call Ia g
   have Ka := a.k Ja
   refine ⟨_, rfl, ?_⟩
   refine ifnb hp (fun La hp => ?_) fun La hp => ?_
   ·obtain rfl := Option.some.inj hp
    exact hq _ O.ext'
   refine gdi hp fun Ma hp => ?_
   exact P _ _ _ g O Ka hp
 exact hgo _ _ _ _ e I a hp
theorem s_rNth {s : Stm} {n : Int} {ca111 : C} {m f : M} {Q : V → M → Prop} {rz : Trh} (hS : Pre f m) (_ha111 : Sl f ca111 s.Cards) (hp : prNth s n = some rz) (hq : ∀ m', Ext m m' → Q (.agg 4 [(Il rz.A), (Il rz.B), (Il rz.Half), (Il rz.Peak)]) m') : Wc prog tbl 80 [.agg 12 [(Il s.Wide), (Il s.High), (Il s.Fall), (Il s.A.Lo), (Il s.A.Hi), (Il s.B.Lo), (Il s.B.Hi), (Il s.Half.Lo), (Il s.Half.Hi), (Il s.Peak.Lo), (Il s.Peak.Hi), ca111], .c (Il n)] m Q := by
 have S0 := hS.st
 obtain ⟨τ0, _⟩ : ∃ τ : Nat → Nat, True := ⟨fun _ => 0, trivial⟩
 refine w80 ?_
 unfold prNth at hp
 intro m0 ia
 obtain ⟨ja, ka, Rb, la⟩ := S0.blk ia τ0 1
 intro m1 ma
 obtain ⟨na, oa, pa, qa⟩ := ka.blk ma ja 2
 have sa := la.k pa
 intro m2 ta
 obtain ⟨d, P, S, ua⟩ := oa.blk ta na 3
 have h := sa.k S
 have va := qa.k S
 refine ⟨trivial, trivial, _, h.bk.rc rfl, trivial, _, _, h.bk.rp (k := 3) (j := 2) rfl (by omega), ?_⟩
 obtain ⟨e, wa, hp⟩ := bsome hp
 refine s_rCount (r := s.A) P.pre  wa fun m7 xa => ?_
 obtain ⟨T, p⟩ := P.call xa d
 have q := h.k p
 have ya := va.k p
 have za := ua.k p
 refine ⟨_, rfl, (q.bk.rc rfl), ?_⟩
 refine gdi hp fun Aa hp => ?_
 refine gdi hp fun Ba hp => ?_
 refine gdi hp fun Ca hp => ?_
 obtain ⟨Da, hp⟩ := gd_some hp
 refine ⟨Da, trivial, _, _, q.bk.rp (k := 3) (j := 2) rfl (by omega), (h.bk.rp (k := 3) (j := 2) rfl (by omega)), ?_⟩
 obtain ⟨a, Ea, hp⟩ := bsome hp
 refine s_rCount (r := s.A) T.pre  Ea fun Tb Fa => ?_
 obtain ⟨Ga, t⟩ := T.call Fa d
 have Y := q.k t
 have Ha := ya.k t
 have Ia := za.k t
 refine ⟨_, rfl, (Y.bk.rc rfl), ?_⟩
 refine gdi hp fun Ja hp => ?_
 refine gdi hp fun Ka hp => ?_
 obtain ⟨La, hp⟩ := gd_some hp
 refine ⟨La, trivial, ?_⟩
 obtain ⟨Ma, Na, Z, aa, u⟩ := Ia.sto1 Ga 0 (Il (s.A.Lo + (n % e))) (by simp) rfl
 replace u : Lb _ _ _ _ _ _ _ [(Il (s.A.Lo + (n % e))), (Il 0), (Il 0), (Il 0)] := u
 have i := Y.k aa
 have Oa := Ha.k aa
 refine ⟨Ma, Na, ?_⟩
 refine ⟨trivial, trivial, _, i.bk.rc rfl, trivial, _, _, i.bk.rp (k := 5) (j := 2) rfl (by omega), ?_⟩
 obtain ⟨g, Pa, hp⟩ := bsome hp
 refine s_rCount (r := s.B) Z.pre  Pa fun Ub Qa => ?_
 obtain ⟨ba, x⟩ := Z.call Qa d
 have y := i.k x
 have Ra := Oa.k x
 have Sa := u.k x
 refine ⟨_, rfl, (y.bk.rc rfl), ?_⟩
 refine gdi hp fun Ta hp => ?_
 refine gdi hp fun Ua hp => ?_
 refine gdi hp fun Va hp => ?_
 obtain ⟨Wa, hp⟩ := gd_some hp
 refine ⟨Wa, trivial, _, _, y.bk.rp (k := 5) (j := 2) rfl (by omega), (i.bk.rp (k := 5) (j := 2) rfl (by omega)), ?_⟩
 obtain ⟨b, Xa, hp⟩ := bsome hp
 refine s_rCount (r := s.B) ba.pre  Xa fun Vb Ya => ?_
 obtain ⟨Za, z⟩ := ba.call Ya d
 have ca := y.k z
 have ab := Ra.k z
 have bb := Sa.k z
 refine ⟨_, rfl, (ca.bk.rc rfl), ?_⟩
 refine gdi hp fun cb hp => ?_
 refine gdi hp fun db hp => ?_
 obtain ⟨eb, hp⟩ := gd_some hp
 refine ⟨eb, trivial, ?_⟩
 obtain ⟨fb, gb, da, ea, D⟩ := bb.sto1 Za 1 (Il (s.B.Lo + ((n / a) % g))) (by simp) rfl
 replace D : Lb _ _ _ _ _ _ _ [(Il (s.A.Lo + (n % e))), (Il (s.B.Lo + ((n / a) % g))), (Il 0), (Il 0)] := D
 have l := ca.k ea
 have hb := ab.k ea
 refine ⟨fb, gb, ?_⟩
 refine ⟨trivial, trivial, _, l.bk.rc rfl, trivial, _, _, l.bk.rp (k := 7) (j := 2) rfl (by omega), ?_⟩
 obtain ⟨o, ib, hp⟩ := bsome hp
 refine s_rCount (r := s.Half) da.pre  ib fun Wb jb => ?_
 obtain ⟨fa, F⟩ := da.call jb d
 have G := l.k F
 have kb := hb.k F
 have mb := D.k F
 refine ⟨_, rfl, (G.bk.rc rfl), ?_⟩
 refine gdi hp fun nb hp => ?_
 refine gdi hp fun ob hp => ?_
 refine gdi hp fun pb hp => ?_
 obtain ⟨qb, hp⟩ := gd_some hp
 refine ⟨qb, trivial, _, _, G.bk.rp (k := 7) (j := 2) rfl (by omega), (l.bk.rp (k := 7) (j := 2) rfl (by omega)), ?_⟩
 obtain ⟨I, rb, hp⟩ := bsome hp
 refine s_rCount (r := s.Half) fa.pre  rb fun Xb sb => ?_
 obtain ⟨tb, J⟩ := fa.call sb d
 have ga := G.k J
 have ub := kb.k J
 have vb := mb.k J
 refine ⟨_, rfl, (ga.bk.rc rfl), ?_⟩
 refine gdi hp fun wb hp => ?_
 refine gdi hp fun xb hp => ?_
 obtain ⟨yb, hp⟩ := gd_some hp
 refine ⟨yb, trivial, ?_⟩
 obtain ⟨zb, Ab, Bb, ha, N⟩ := vb.sto1 tb 2 (Il (s.Half.Lo + (((n / a) / b) % o))) (by simp) rfl
 replace N : Lb _ _ _ _ _ _ _ [(Il (s.A.Lo + (n % e))), (Il (s.B.Lo + ((n / a) % g))), (Il (s.Half.Lo + (((n / a) / b) % o))), (Il 0)] := N
 have Cb := ga.k ha
 have Db := ub.k ha
 refine ⟨zb, Ab, ?_⟩
 refine ⟨trivial, trivial, _, Cb.bk.rc rfl, ?_⟩
 obtain ⟨Eb, hp⟩ := gd_some hp
 refine ⟨Eb, trivial, ?_⟩
 obtain ⟨Fb, Gb, Hb, Ib, O⟩ := N.sto1 Bb 3 (Il (s.Peak.Lo + (((n / a) / b) / I))) (by simp) rfl
 replace O : Lb _ _ _ _ _ _ _ [(Il (s.A.Lo + (n % e))), (Il (s.B.Lo + ((n / a) % g))), (Il (s.Half.Lo + (((n / a) / b) % o))), (Il (s.Peak.Lo + (((n / a) / b) / I)))] := O
 have Jb := Db.k Ib
 refine ⟨Fb, Gb, ?_⟩
 refine ⟨_, _, _, _, O.bk.ra, ?_⟩
 obtain ⟨Kb, Mb, Nb, Sb, Ob⟩ := Jb.sto Hb [(Il (s.A.Lo + (n % e))), (Il (s.B.Lo + ((n / a) % g))), (Il (s.Half.Lo + (((n / a) / b) % o))), (Il (s.Peak.Lo + (((n / a) / b) / I)))]
 refine ⟨Kb, Mb, ?_⟩
 refine ⟨_, _, _, _, Ob.bk.ra, ?_⟩
 obtain rfl := Option.some.inj hp
 exact hq _ Nb.ext'
theorem s_rDistance {s : Stm} {t : Trh} {x : Int} {y : Int} {ca111 : C} {m f : M} {Q : V → M → Prop} {rz : Int} (hS : Pre f m) (_ha111 : Sl f ca111 s.Cards) (hp : prDistance s t x y = some rz) (hq : ∀ m', Ext m m' → Q (.c (Il rz)) m') : Wc prog tbl 96 [.agg 12 [(Il s.Wide), (Il s.High), (Il s.Fall), (Il s.A.Lo), (Il s.A.Hi), (Il s.B.Lo), (Il s.B.Hi), (Il s.Half.Lo), (Il s.Half.Hi), (Il s.Peak.Lo), (Il s.Peak.Hi), ca111], .agg 4 [(Il t.A), (Il t.B), (Il t.Half), (Il t.Peak)], .c (Il x), .c (Il y)] m Q := by
 have S := hS.st
 obtain ⟨T, _⟩ : ∃ τ : Nat → Nat, True := ⟨fun _ => 0, trivial⟩
 refine w96 ?_
 unfold prDistance at hp
 intro m0 d
 obtain ⟨e, g, Y, h⟩ := S.blk d T 1
 intro m1 i
 obtain ⟨Z, a, j, b⟩ := g.blk i e 2
 have l := h.k j
 refine ⟨trivial, _, l.bk.rc rfl, ?_⟩
 refine gdi hp fun n hp => ?_
 refine gdi hp fun o hp => ?_
 refine gdi hp fun p hp => ?_
 obtain ⟨q, hp⟩ := gd_some hp
 refine ⟨q, trivial, _, b.bk.rc rfl, ?_⟩
 refine gdi hp fun r hp => ?_
 refine gdi hp fun u hp => ?_
 refine gdi hp fun z hp => ?_
 refine gdi hp fun D hp => ?_
 obtain ⟨F, hp⟩ := gd_some hp
 refine ⟨F, trivial, _, b.bk.rc rfl, ?_⟩
 refine gdi hp fun G hp => ?_
 refine gdi hp fun I hp => ?_
 refine gdi hp fun J hp => ?_
 refine gdi hp fun N hp => ?_
 refine ifd hp (fun O hp => ?_) fun O hp => ?_; rotate_left
 ·obtain rfl := Option.some.inj hp
  exact hq _ a.ext'
 refine gdi hp fun P hp => ?_
 obtain rfl := Option.some.inj hp
 exact hq _ a.ext'
theorem s_rHit {s : Stm} {t : Trh} {x : Int} {y : Int} {ca111 : C} {m f : M} {Q : V → M → Prop} {rz : Bool} (hS : Pre f m) (ha111 : Sl f ca111 s.Cards) (hp : prHit s t x y = some rz) (hq : ∀ m', Ext m m' → Q (.c (.bool rz)) m') : Wc prog tbl 76 [.agg 12 [(Il s.Wide), (Il s.High), (Il s.Fall), (Il s.A.Lo), (Il s.A.Hi), (Il s.B.Lo), (Il s.B.Hi), (Il s.Half.Lo), (Il s.Half.Hi), (Il s.Peak.Lo), (Il s.Peak.Hi), ca111], .agg 4 [(Il t.A), (Il t.B), (Il t.Half), (Il t.Peak)], .c (Il x), .c (Il y)] m Q := by
 have J := hS.st
 obtain ⟨N, _⟩ : ∃ τ : Nat → Nat, True := ⟨fun _ => 0, trivial⟩
 refine w76 ?_
 unfold prHit at hp
 intro T g
 obtain ⟨h, i, O, j⟩ := J.blk g N 1
 intro Y l
 obtain ⟨n, d, o, a⟩ := i.blk l h 2
 have b := j.k o
 refine ⟨_, _, _, _, _, _, _, _, _, _, _, _, b.bk.ra, _, _, _, _, a.bk.ra, ?_⟩
 obtain ⟨P, p, hp⟩ := bsome hp
 refine s_rDistance (s := s) (t := t) (x := x) (y := y) d.pre ha111 p fun S q => ?_
 obtain ⟨r, e⟩ := d.call q n
 have u := b.k e
 have z := a.k e
 refine ⟨_, rfl, trivial, _, u.bk.rc rfl, (b.bk.rc rfl), ?_⟩
 obtain ⟨D, hp⟩ := gd_some hp
 refine ⟨D, trivial, _, z.bk.rc rfl, (a.bk.rc rfl), ?_⟩
 refine gdi hp fun F hp => ?_
 refine gdi hp fun G hp => ?_
 refine gdi hp fun I hp => ?_
 obtain rfl := Option.some.inj hp
 exact hq _ r.ext'
theorem s_rSize {s : Stm} {t : Trh} {x : Int} {y : Int} {ca111 : C} {m f : M} {Q : V → M → Prop} {rz : Int} (hS : Pre f m) (ha111 : Sl f ca111 s.Cards) (hp : prSize s t x y = some rz) (hq : ∀ m', Ext m m' → Q (.c (Il rz)) m') : Wc prog tbl 77 [.agg 12 [(Il s.Wide), (Il s.High), (Il s.Fall), (Il s.A.Lo), (Il s.A.Hi), (Il s.B.Lo), (Il s.B.Hi), (Il s.Half.Lo), (Il s.Half.Hi), (Il s.Peak.Lo), (Il s.Peak.Hi), ca111], .agg 4 [(Il t.A), (Il t.B), (Il t.Half), (Il t.Peak)], .c (Il x), .c (Il y)] m Q := by
 have S0 := hS.st
 obtain ⟨τ0, _⟩ : ∃ τ : Nat → Nat, True := ⟨fun _ => 0, trivial⟩
 refine w77 ?_
 unfold prSize at hp
 intro m0 o
 obtain ⟨p, q, fa, r⟩ := S0.blk o τ0 1
 intro m1 u
 obtain ⟨e, g, z, h⟩ := q.blk u p 2
 have i := r.k z
 refine ⟨_, _, _, _, _, _, _, _, _, _, _, _, i.bk.ra, _, _, _, _, h.bk.ra, ?_⟩
 obtain ⟨ga, D, hp⟩ := bsome hp
 refine s_rHit (s := s) (t := t) (x := x) (y := y) g.pre ha111 D fun ia F => ?_
 obtain ⟨b, j⟩ := g.call F e
 have a := i.k j
 have d := h.k j
 refine ⟨_, rfl, ?_⟩
 refine ifnb hp (fun G hp => ?_) fun G hp => ?_
 ·obtain rfl := Option.some.inj hp
  exact hq _ b.ext'
 refine ⟨trivial, _, d.bk.rc rfl, trivial, _, a.bk.rc rfl, _, _, _, _, _, _, _, _, _, _, _, _, a.bk.ra, _, _, _, _, d.bk.ra, ?_⟩
 obtain ⟨ha, I, hp⟩ := bsome hp
 refine s_rDistance (s := s) (t := t) (x := x) (y := y) b.pre ha111 I fun ja J => ?_
 obtain ⟨N, l⟩ := b.call J e
 have n := a.k l
 have O := d.k l
 refine ⟨_, rfl, (n.bk.rc rfl), (O.bk.rc rfl), trivial, _, n.bk.rc rfl, (a.bk.rc rfl), ?_⟩
 refine gdi hp fun P hp => ?_
 refine gdi hp fun S hp => ?_
 refine gdi hp fun T hp => ?_
 refine gdi hp fun Y hp => ?_
 refine gdi hp fun Z hp => ?_
 refine gdi hp fun aa hp => ?_
 refine gdi hp fun ba hp => ?_
 refine gdi hp fun ca hp => ?_
 obtain rfl := Option.some.inj hp
 exact hq _ N.ext'
theorem s_rRight {s : Stm} {t : Trh} {c : Crd} {ca111 : C} {m f : M} {Q : V → M → Prop} {rz : Bool} (hS : Pre f m) (ha111 : Sl f ca111 s.Cards) (hp : prRight s t c = some rz) (hq : ∀ m', Ext m m' → Q (.c (.bool rz)) m') : Wc prog tbl 46 [.agg 12 [(Il s.Wide), (Il s.High), (Il s.Fall), (Il s.A.Lo), (Il s.A.Hi), (Il s.B.Lo), (Il s.B.Hi), (Il s.Half.Lo), (Il s.Half.Hi), (Il s.Peak.Lo), (Il s.Peak.Hi), ca111], .agg 4 [(Il t.A), (Il t.B), (Il t.Half), (Il t.Peak)], .agg 7 [(Il c.X.Lo), (Il c.X.Hi), (Il c.Y.Lo), (Il c.Y.Hi), (.bool c.Hail), (Il c.Size.Lo), (Il c.Size.Hi)]] m Q := by
 have S0 := hS.st
 obtain ⟨τ0, _⟩ : ∃ τ : Nat → Nat, True := ⟨fun _ => 0, trivial⟩
 refine w46 ?_
 unfold prRight at hp
 intro m0 ga
 obtain ⟨ha, ia, cb, ja⟩ := S0.blk ga τ0 1
 intro m1 ka
 obtain ⟨la, ma, na, oa⟩ := ia.blk ka ha 2
 have pa := ja.k na
 intro m2 qa
 obtain ⟨sa, ta, Z, a⟩ := ma.blk qa la 3
 have d := pa.k Z
 have e := oa.k Z
 refine ⟨trivial, trivial, _, a.bk.rc rfl, ?_⟩
 intro R4 Ya
 have hgo : ∀ (i : Nat) (b5 : Bool) (b6 : Bool) (u : Int) (z : M) (g : Nat → Nat), St (Fm.of m) f f z → Lb (Fm.of m) f g z 1 m.nxt 12 [(Il s.Wide), (Il s.High), (Il s.Fall), (Il s.A.Lo), (Il s.A.Hi), (Il s.B.Lo), (Il s.B.Hi), (Il s.Half.Lo), (Il s.Half.Hi), (Il s.Peak.Lo), (Il s.Peak.Hi), ca111] → Lb (Fm.of m) f g z 2 m0.nxt 4 [(Il t.A), (Il t.B), (Il t.Half), (Il t.Peak)] → Lb (Fm.of m) f g z 3 m1.nxt 7 [(Il c.X.Lo), (Il c.X.Hi), (Il c.Y.Lo), (Il c.Y.Hi), (.bool c.Hail), (Il c.Size.Lo), (Il c.Size.Hi)] → prRight_L0 s t c i b5 u = some rz → R4 [.c (.bool b5), .c (.bool b6), .c (Il u)] z := by
  intro i
  induction i with
  | zero => intro b5 b6 u z g D d e a hp; cases hp
  | succ i va =>
   intro b5 b6 u z g D d e a hp
   refine Ya _ _ _ _ ?_
   rw [prRight_L0] at hp
   refine ⟨trivial, trivial, _, a.bk.rc rfl, ?_⟩
   refine ifd hp (fun wa hp => ?_) fun wa hp => ?_; rotate_left
   ·obtain rfl := Option.some.inj hp
    exact hq _ D.ext'
   refine ⟨trivial, trivial, _, a.bk.rc rfl, ?_⟩
   intro Za xa
   have hgo : ∀ (p : Nat) (T : Bool) (aa : Bool) (j : Int) (l : M) (b : Nat → Nat), St (Fm.of m) f f l → Lb (Fm.of m) f b l 1 m.nxt 12 [(Il s.Wide), (Il s.High), (Il s.Fall), (Il s.A.Lo), (Il s.A.Hi), (Il s.B.Lo), (Il s.B.Hi), (Il s.Half.Lo), (Il s.Half.Hi), (Il s.Peak.Lo), (Il s.Peak.Hi), ca111] → Lb (Fm.of m) f b l 2 m0.nxt 4 [(Il t.A), (Il t.B), (Il t.Half), (Il t.Peak)] → Lb (Fm.of m) f b l 3 m1.nxt 7 [(Il c.X.Lo), (Il c.X.Hi), (Il c.Y.Lo), (Il c.Y.Hi), (.bool c.Hail), (Il c.Size.Lo), (Il c.Size.Hi)] → prRight_L1 s t c u (prRight_L0 s t c i) p T j = some rz → Za [.c (.bool T), .c (.bool aa), .c (Il j)] l := by
    intro p
    induction p with
    | zero => intro T aa j l b h d e a hp; cases hp
    | succ p q =>
     intro T aa j l b h d e a hp
     refine xa _ _ _ _ ?_
     rw [prRight_L1] at hp
     refine ⟨trivial, trivial, _, a.bk.rc rfl, ?_⟩
     refine ifd hp (fun ya hp => ?_) fun ya hp => ?_; rotate_left
     ·refine gdi hp fun za hp => ?_
      exact va _ _ _ _ b h d e a hp
     refine ⟨trivial, _, a.bk.rc rfl, ?_⟩
     refine ifbb hp (fun r hp => ?_) fun r hp => ?_; rotate_left
     ·refine ⟨trivial, _, a.bk.rc rfl, ?_⟩
      refine ifnbkf r ?_
      refine ⟨_, _, _, _, _, _, _, _, _, _, _, _, d.bk.ra, _, _, _, _, e.bk.ra, ?_⟩
      obtain ⟨eb, Aa, hp⟩ := bsome hp
      refine s_rHit (s := s) (t := t) (x := u) (y := j) h.pre ha111 Aa fun fb Ba => ?_
      obtain ⟨ba, F⟩ := h.call Ba b
      have Ca := d.k F
      have Da := e.k F
      have Ea := a.k F
      refine ⟨_, rfl, ?_⟩
      refine ifnb hp (fun Fa hp => ?_) fun Fa hp => ?_
      ·obtain rfl := Option.some.inj hp
       exact hq _ ba.ext'
      refine gdi hp fun Ga hp => ?_
      exact q _ _ _ _ b ba Ca Da Ea hp
     refine ⟨_, _, _, _, _, _, _, _, _, _, _, _, d.bk.ra, _, _, _, _, e.bk.ra, ?_⟩
     obtain ⟨gb, Ha, hp⟩ := bsome hp
     refine s_rHit (s := s) (t := t) (x := u) (y := j) h.pre ha111 Ha fun ib Ia => ?_
     obtain ⟨G, I⟩ := h.call Ia b
     have J := d.k I
     have N := e.k I
     have o := a.k I
     refine ⟨_, rfl, ?_⟩
     refine ifbb hp (fun Ja hp => ?_) fun Ja hp => ?_; rotate_left
     ·refine ⟨trivial, _, o.bk.rc rfl, ?_⟩
      refine ifnbkt r ?_
      refine gdi hp fun Ka hp => ?_
      exact q _ _ _ _ b G J N o hp
     refine ⟨_, _, _, _, _, _, _, _, _, _, _, _, J.bk.ra, _, _, _, _, N.bk.ra, ?_⟩
     obtain ⟨La, Ma, hp⟩ := bsome hp
     refine s_rSize (s := s) (t := t) (x := u) (y := j) G.pre ha111 Ma fun jb Na => ?_
     obtain ⟨ca, O⟩ := G.call Na b
     have Oa := J.k O
     have Pa := N.k O
     have P := o.k O
     refine ⟨_, rfl, trivial, trivial, _, P.bk.rc rfl, (o.bk.rc rfl), trivial, trivial, _, P.bk.rc rfl, (o.bk.rc rfl), ?_⟩
     obtain ⟨hb, Qa, hp⟩ := bsome hp
     refine s_rIn (n := La) (low := c.Size.Lo) (high := c.Size.Hi) ca.pre  Qa fun kb Ra => ?_
     obtain ⟨da, S⟩ := ca.call Ra b
     have Sa := Oa.k S
     have Ta := Pa.k S
     have ea := P.k S
     refine ⟨_, rfl, ?_⟩
     refine ifbb hp (fun Ua hp => ?_) fun Ua hp => ?_
     ·obtain rfl := Option.some.inj hp
      exact hq _ da.ext'
     refine ⟨trivial, _, ea.bk.rc rfl, ?_⟩
     refine ifnbkt r ?_
     refine gdi hp fun Va hp => ?_
     exact q _ _ _ _ b da Sa Ta ea hp
   exact hgo _ _ _ _ _ g D d e a hp
 exact hgo _ _ _ _ _ sa ta d e a hp
theorem s_rAll {s : Stm} {ca111 : C} {m f : M} {Q : V → M → Prop} {rz : List Int} (hS : Pre f m) (ha111 : Sl f ca111 s.Cards) (hp : prAll s = some rz) (hq : ∀ m' f' c0, Grw m f m' f' → Sl f' c0 rz → Q (.c c0) m') : Wc prog tbl 78 [.agg 12 [(Il s.Wide), (Il s.High), (Il s.Fall), (Il s.A.Lo), (Il s.A.Hi), (Il s.B.Lo), (Il s.B.Hi), (Il s.Half.Lo), (Il s.Half.Hi), (Il s.Peak.Lo), (Il s.Peak.Hi), ca111]] m Q := by
 have S0 := hS.st
 obtain ⟨τ0, _⟩ : ∃ τ : Nat → Nat, True := ⟨fun _ => 0, trivial⟩
 refine w78 ?_
 unfold prAll at hp
 intro m0 ba
 obtain ⟨ca, da, Wa, i⟩ := S0.blk ba τ0 1
 intro R1 Ra
 have hgo : ∀ (j : Nat) (G : C) (I : Int) (g : List Int) (J : M) (h : Nat → Nat), St (Fm.of m) f f J → Lb (Fm.of m) f h J 1 m.nxt 12 [(Il s.Wide), (Il s.High), (Il s.Fall), (Il s.A.Lo), (Il s.A.Hi), (Il s.B.Lo), (Il s.B.Hi), (Il s.Half.Lo), (Il s.Half.Hi), (Il s.Peak.Lo), (Il s.Peak.Hi), ca111] → Ow (Fm.of m) f h J 2 G g → prAll_L0 s j g I = some rz → R1 [.c G, .c (Il I)] J := by
  intro j
  induction j with
  | zero => intro G I g J h r i b hp; cases hp
  | succ j ea =>
   intro G I g J h r i b hp
   refine Ra _ _ _ ?_
   rw [prAll_L0] at hp
   refine ⟨_, _, _, _, _, _, _, _, _, _, _, _, i.bk.ra, ?_⟩
   obtain ⟨Ya, fa, hp⟩ := bsome hp
   refine s_rMany (s := s) r.pre ha111 fa fun bb ga => ?_
   obtain ⟨N, O⟩ := r.call ga h
   have d := i.k O
   have b := b.k O
   refine ⟨_, rfl, ?_⟩
   refine ifd hp (fun ha hp => ?_) fun ha hp => ?_; rotate_left
   ·obtain ⟨ia, ja, Za, ka⟩ := b.freeze N
    obtain rfl := Option.some.inj hp
    exact hq _ ia G ja.grw ka
   intro Sa la
   have hgo : ∀ (q : Nat) (o : Int) (z : Int) (p : M) (e : Nat → Nat), St (Fm.of m) f f p → Lb (Fm.of m) f e p 1 m.nxt 12 [(Il s.Wide), (Il s.High), (Il s.Fall), (Il s.A.Lo), (Il s.A.Hi), (Il s.B.Lo), (Il s.B.Hi), (Il s.Half.Lo), (Il s.Half.Hi), (Il s.Peak.Lo), (Il s.Peak.Hi), ca111] → Ow (Fm.of m) f e p 2 G g → prAll_L1 s g I (prAll_L0 s j) q o z = some rz → Sa [.c (Il o), .c (Il z)] p := by
    intro q
    induction q with
    | zero => intro o z p e l d b hp; cases hp
    | succ q D =>
     intro o z p e l d b hp
     refine la _ _ _ ?_
     rw [prAll_L1] at hp
     refine ⟨trivial, _, d.bk.rc rfl, ha111.isSl, ?_⟩
     try rw [ha111.slLen]
     refine ifd hp (fun ma hp => ?_) fun ma hp => ?_; rotate_left
     ·obtain ⟨na, hp⟩ := gd_some hp
      intro cb oa
      obtain ⟨pa, qa, sa, ta, ua, va, wa⟩ := b.app' ta62 l (a := o) (show Rp.rep (α := Int) f _ o from rfl) na oa
      have xa := d.k va
      refine ⟨pa, qa, ta, ?_⟩
      refine gdi hp fun ya hp => ?_
      exact ea _ _ _ _ sa ua xa wa hp
     refine ⟨_, _, _, _, _, _, _, _, _, _, _, _, d.bk.ra, _, _, _, _, _, _, _, _, _, _, _, _, d.bk.ra, ?_⟩
     obtain ⟨za, Aa, hp⟩ := bsome hp
     refine s_rNth (s := s) (n := I) l.pre ha111 Aa fun db Ba => ?_
     obtain ⟨u, P⟩ := l.call Ba e
     have x := d.k P
     have b := b.k P
     refine ⟨_, _, _, _, rfl, (by rw [show allS cmC _ = true from cmL_of (nf_cons rfl (nf_cons rfl (nf_cons rfl (nf_cons rfl (nf_cons rfl (nf_cons rfl (nf_cons rfl (nf_cons rfl (nf_cons rfl (nf_cons rfl (nf_cons rfl (nf_cons ha111.noFn nf_nil))))))))))))]; exact (x.bk.ra)), trivial, _, x.bk.rc rfl, (by rw [show cmC _ = true from cmC_of (ha111.noFn)]; exact (d.bk.rc rfl)), ?_⟩
     obtain ⟨Ca, y, hp⟩ := bsome hp
     obtain ⟨Ta, aa, F, y⟩ := idx_some y
     obtain ⟨_, S⟩ := rd_Crd ha111 y
     refine ⟨Ta, aa, (by first | exact F | (rw [ha111.slLen]; exact F)), _, _, _, _, _, _, _, (S _ u.sub).1, (S _ l.sub).1, ?_⟩
     obtain ⟨ab, Da, hp⟩ := bsome hp
     refine s_rRight (s := s) (t := za) (c := Ca) u.pre ha111 Da fun eb Ea => ?_
     obtain ⟨T, Y⟩ := u.call Ea e
     have Z := x.k Y
     have b := b.k Y
     refine ⟨_, rfl, ?_⟩
     refine ifbb hp (fun Fa hp => ?_) fun Fa hp => ?_; rotate_left
     ·refine gdi hp fun Ga hp => ?_
      exact D _ _ _ e T Z b hp
     refine gdi hp fun Ha hp => ?_
     refine gdi hp fun Ia hp => ?_
     refine gdi hp fun Ja hp => ?_
     refine gdi hp fun Ka hp => ?_
     refine gdi hp fun La hp => ?_
     refine gdi hp fun Ma hp => ?_
     refine gdi hp fun Na hp => ?_
     refine gdi hp fun Oa hp => ?_
     refine gdi hp fun Pa hp => ?_
     refine gdi hp fun Qa hp => ?_
     exact D _ _ _ e T Z b hp
   exact hgo _ _ _ _ h N d b hp
 exact hgo _ _ _ _ _ ca da i (Ow.nil _ _ _ _ _) hp
theorem s_rEvery {s : Stm} {ca111 : C} {m f : M} {Q : V → M → Prop} {rz : Int} (hS : Pre f m) (ha111 : Sl f ca111 s.Cards) (hp : prEvery s = some rz) (hq : ∀ m', Ext m m' → Q (.c (Il rz)) m') : Wc prog tbl 79 [.agg 12 [(Il s.Wide), (Il s.High), (Il s.Fall), (Il s.A.Lo), (Il s.A.Hi), (Il s.B.Lo), (Il s.B.Hi), (Il s.Half.Lo), (Il s.Half.Hi), (Il s.Peak.Lo), (Il s.Peak.Hi), ca111]] m Q := by
 have l := hS.st
 obtain ⟨n, _⟩ : ∃ τ : Nat → Nat, True := ⟨fun _ => 0, trivial⟩
 refine w79 ?_
 unfold prEvery at hp
 intro q g
 obtain ⟨o, h, p, i⟩ := l.blk g n 1
 refine ⟨trivial, _, i.bk.rc rfl, ha111.isSl, ?_⟩
 refine gdi hp fun j hp => ?_
 obtain ⟨a, hp⟩ := gd_some hp
 refine ⟨(by first | exact a | (rw [ha111.slLen]; exact a)), ?_⟩
 obtain ⟨b, hp⟩ := gd_some hp
 refine ⟨(by first | exact b | (rw [ha111.slLen]; exact b)), ?_⟩
 obtain ⟨d, hp⟩ := gd_some hp
 refine ⟨(by first | exact d | (rw [ha111.slLen]; exact d)), ?_⟩
 obtain ⟨e, hp⟩ := gd_some hp
 refine ⟨(by first | exact e | (rw [ha111.slLen]; exact e)), ?_⟩
 try rw [ha111.slLen]
 obtain rfl := Option.some.inj hp
 exact hq _ h.ext'
theorem s_rTruths {s : Stm} {ca111 : C} {m f : M} {Q : V → M → Prop} {rz : List Trh} (hS : Pre f m) (ha111 : Sl f ca111 s.Cards) (hp : prTruths s = some rz) (hq : ∀ m' f' c0, Grw m f m' f' → Sl f' c0 rz → Q (.c c0) m') : Wc prog tbl 47 [.agg 12 [(Il s.Wide), (Il s.High), (Il s.Fall), (Il s.A.Lo), (Il s.A.Hi), (Il s.B.Lo), (Il s.B.Hi), (Il s.Half.Lo), (Il s.Half.Hi), (Il s.Peak.Lo), (Il s.Peak.Hi), ca111]] m Q := by
 have S0 := hS.st
 obtain ⟨τ0, _⟩ : ∃ τ : Nat → Nat, True := ⟨fun _ => 0, trivial⟩
 refine w47 ?_
 unfold prTruths at hp
 intro m0 P
 obtain ⟨D, F, Da, G⟩ := S0.blk P τ0 1
 refine ⟨_, _, _, _, _, _, _, _, _, _, _, _, G.bk.ra, ?_⟩
 obtain ⟨S, T, hp⟩ := bsome hp
 refine s_rAll (s := s) F.pre ha111 T fun Ia j Ea Y e => ?_
 obtain ⟨Z, u⟩ := F.callG Y D
 have g := G.k u
 refine ⟨_, rfl, ?_⟩
 intro za aa
 have hgo : ∀ (l : Nat) (r : C) (t : Int) (o : List Trh) (i : M) (d : Nat → Nat), St (Fm.of m) f j i → Lb (Fm.of m) j d i 1 m.nxt 12 [(Il s.Wide), (Il s.High), (Il s.Fall), (Il s.A.Lo), (Il s.A.Hi), (Il s.B.Lo), (Il s.B.Hi), (Il s.Half.Lo), (Il s.Half.Hi), (Il s.Peak.Lo), (Il s.Peak.Hi), ca111] → Ow (Fm.of m) j d i 2 r o → prTruths_L0 s S l o t = some rz → za [.c r, .c (Il t)] i := by
  intro l
  induction l with
  | zero => intro r t o i d h g b hp; cases hp
  | succ l y =>
   intro r t o i d h g b hp
   refine aa _ _ _ ?_
   rw [prTruths_L0] at hp
   refine ⟨e.isSl, ?_⟩
   try rw [e.slLen]
   refine ifd hp (fun ba hp => ?_) fun ba hp => ?_; rotate_left
   ·obtain ⟨ca, da, Fa, ea⟩ := b.freeze h
    obtain rfl := Option.some.inj hp
    exact hq _ ca r da.grw ea
   obtain ⟨Ga, p, hp⟩ := bsome hp
   obtain ⟨Aa, O, z, p⟩ := idx_some p
   refine ⟨Aa, O, (by first | exact z | (rw [e.slLen]; exact z)), _, (e.rdI p h.sub), _, _, _, _, _, _, _, _, _, _, _, _, g.bk.ra, ?_⟩
   obtain ⟨Ha, fa, hp⟩ := bsome hp
   refine s_rEvery (s := s) h.pre (ha111.sub u.fs) fa fun Ja ga => ?_
   obtain ⟨q, I⟩ := h.call ga d
   have x := g.k I
   have b := b.k I
   refine ⟨_, rfl, (e.rdI p q.sub), ?_⟩
   refine ifd hp (fun ha hp => ?_) fun ha hp => ?_; rotate_left
   ·refine gdi hp fun ia hp => ?_
    exact y _ _ _ _ d q x b hp
   refine ⟨_, _, _, _, _, _, _, _, _, _, _, _, x.bk.ra, ?_⟩
   obtain ⟨J, ja, hp⟩ := bsome hp
   refine s_rNth (s := s) (n := t) q.pre (ha111.sub u.fs) ja fun Ka ka => ?_
   obtain ⟨la, N⟩ := q.call ka d
   have ma := x.k N
   have b := b.k N
   refine ⟨_, _, _, _, rfl, ?_⟩
   obtain ⟨na, hp⟩ := gd_some hp
   intro La oa
   obtain ⟨pa, qa, sa, ta, ua, va, wa⟩ := b.app' ta46 la (a := J) (show Rp.rep (α := Trh) j _ J from rfl) na oa
   have xa := ma.k va
   refine ⟨pa, qa, ta, ?_⟩
   refine gdi hp fun ya hp => ?_
   exact y _ _ _ _ sa ua xa wa hp
 exact hgo _ _ _ _ _ D Z g (Ow.nil _ _ _ _ _) hp
theorem s_rIsTruth {s : Stm} {t : Trh} {ca111 : C} {m f : M} {Q : V → M → Prop} {rz : Bool} (hS : Pre f m) (ha111 : Sl f ca111 s.Cards) (hp : prIsTruth s t = some rz) (hq : ∀ m', Ext m m' → Q (.c (.bool rz)) m') : Wc prog tbl 13 [.agg 12 [(Il s.Wide), (Il s.High), (Il s.Fall), (Il s.A.Lo), (Il s.A.Hi), (Il s.B.Lo), (Il s.B.Hi), (Il s.Half.Lo), (Il s.Half.Hi), (Il s.Peak.Lo), (Il s.Peak.Hi), ca111], .agg 4 [(Il t.A), (Il t.B), (Il t.Half), (Il t.Peak)]] m Q := by
 have S0 := hS.st
 obtain ⟨τ0, _⟩ : ∃ τ : Nat → Nat, True := ⟨fun _ => 0, trivial⟩
 refine w13 ?_
 unfold prIsTruth at hp
 intro m0 da
 obtain ⟨ea, fa, La, ga⟩ := S0.blk da τ0 1
 intro m1 ha
 obtain ⟨d, D, ia, F⟩ := fa.blk ha ea 2
 have j := ga.k ia
 refine ⟨trivial, _, F.bk.rc rfl, trivial, trivial, _, j.bk.rc rfl, trivial, trivial, _, j.bk.rc rfl, ?_⟩
 obtain ⟨Ma, ja, hp⟩ := bsome hp
 refine s_rIn (n := t.A) (low := s.A.Lo) (high := s.A.Hi) D.pre  ja fun m6 ka => ?_
 obtain ⟨l, G⟩ := D.call ka d
 have o := j.k G
 have I := F.k G
 refine ⟨_, rfl, ?_⟩
 refine ifnb hp (fun la hp => ?_) fun la hp => ?_
 ·obtain rfl := Option.some.inj hp
  exact hq _ l.ext'
 refine ⟨trivial, _, I.bk.rc rfl, trivial, trivial, _, o.bk.rc rfl, trivial, trivial, _, o.bk.rc rfl, ?_⟩
 obtain ⟨Na, ma, hp⟩ := bsome hp
 refine s_rIn (n := t.B) (low := s.B.Lo) (high := s.B.Hi) l.pre  ma fun Ra na => ?_
 obtain ⟨p, J⟩ := l.call na d
 have q := o.k J
 have N := I.k J
 refine ⟨_, rfl, ?_⟩
 refine ifnb hp (fun oa hp => ?_) fun oa hp => ?_
 ·obtain rfl := Option.some.inj hp
  exact hq _ p.ext'
 refine ⟨trivial, _, N.bk.rc rfl, trivial, trivial, _, q.bk.rc rfl, trivial, trivial, _, q.bk.rc rfl, ?_⟩
 obtain ⟨Oa, pa, hp⟩ := bsome hp
 refine s_rIn (n := t.Half) (low := s.Half.Lo) (high := s.Half.Hi) p.pre  pa fun Sa qa => ?_
 obtain ⟨r, O⟩ := p.call qa d
 have u := q.k O
 have P := N.k O
 refine ⟨_, rfl, ?_⟩
 refine ifnb hp (fun sa hp => ?_) fun sa hp => ?_
 ·obtain rfl := Option.some.inj hp
  exact hq _ r.ext'
 refine ⟨trivial, _, P.bk.rc rfl, trivial, trivial, _, u.bk.rc rfl, trivial, trivial, _, u.bk.rc rfl, ?_⟩
 obtain ⟨Pa, ta, hp⟩ := bsome hp
 refine s_rIn (n := t.Peak) (low := s.Peak.Lo) (high := s.Peak.Hi) r.pre  ta fun Ta ua => ?_
 obtain ⟨S, T⟩ := r.call ua d
 have a := u.k T
 have e := P.k T
 refine ⟨_, rfl, ?_⟩
 refine ifnb hp (fun va hp => ?_) fun va hp => ?_
 ·obtain rfl := Option.some.inj hp
  exact hq _ S.ext'
 intro Ga wa
 have hgo : ∀ (i : Nat) (Y : Bool) (y : Int) (h : M) (b : Nat → Nat), St (Fm.of m) f f h → Lb (Fm.of m) f b h 1 m.nxt 12 [(Il s.Wide), (Il s.High), (Il s.Fall), (Il s.A.Lo), (Il s.A.Hi), (Il s.B.Lo), (Il s.B.Hi), (Il s.Half.Lo), (Il s.Half.Hi), (Il s.Peak.Lo), (Il s.Peak.Hi), ca111] → Lb (Fm.of m) f b h 2 m0.nxt 4 [(Il t.A), (Il t.B), (Il t.Half), (Il t.Peak)] → prIsTruth_L0 s t i y = some rz → Ga [.c (.bool Y), .c (Il y)] h := by
  intro i
  induction i with
  | zero => intro Y y h b g a e hp; cases hp
  | succ i ba =>
   intro Y y h b g a e hp
   refine wa _ _ _ ?_
   rw [prIsTruth_L0] at hp
   refine ⟨trivial, _, a.bk.rc rfl, ha111.isSl, ?_⟩
   try rw [ha111.slLen]
   refine ifd hp (fun xa hp => ?_) fun xa hp => ?_; rotate_left
   ·obtain rfl := Option.some.inj hp
    exact hq _ g.ext'
   refine ⟨_, _, _, _, _, _, _, _, _, _, _, _, a.bk.ra, _, _, _, _, e.bk.ra, trivial, _, a.bk.rc rfl, ?_⟩
   obtain ⟨ya, x, hp⟩ := bsome hp
   obtain ⟨Ha, ca, z, x⟩ := idx_some x
   obtain ⟨_, za⟩ := rd_Crd ha111 x
   refine ⟨Ha, ca, (by first | exact z | (rw [ha111.slLen]; exact z)), _, _, _, _, _, _, _, (za _ g.sub).1, ?_⟩
   obtain ⟨Qa, Aa, hp⟩ := bsome hp
   refine s_rRight (s := s) (t := t) (c := ya) g.pre ha111 Aa fun Ua Ba => ?_
   obtain ⟨Z, aa⟩ := g.call Ba b
   have Ca := a.k aa
   have Da := e.k aa
   refine ⟨_, rfl, ?_⟩
   refine ifnb hp (fun Ea hp => ?_) fun Ea hp => ?_
   ·obtain rfl := Option.some.inj hp
    exact hq _ Z.ext'
   refine gdi hp fun Fa hp => ?_
   exact ba _ _ _ b Z Ca Da hp
 exact hgo _ _ _ _ d S a e hp
theorem s_rWider {r : Rg} {n : Int} {m f : M} {Q : V → M → Prop} {rz : Rg} (hS : Pre f m)  (hp : prWider r n = some rz) (hq : ∀ m', Ext m m' → Q (.agg 2 [(Il rz.Lo), (Il rz.Hi)]) m') : Wc prog tbl 49 [.agg 2 [(Il r.Lo), (Il r.Hi)], .c (Il n)] m Q := by
 have t := hS.st
 obtain ⟨u, _⟩ : ∃ τ : Nat → Nat, True := ⟨fun _ => 0, trivial⟩
 refine w49 ?_
 unfold prWider at hp
 intro A b
 obtain ⟨d, e, x, g⟩ := t.blk b u 1
 intro B h
 obtain ⟨y, i, j, l⟩ := e.blk h d 2
 have a := g.k j
 refine ⟨trivial, _, a.bk.rc rfl, trivial, _, a.bk.rc rfl, ?_⟩
 obtain ⟨o, p, q, z, s⟩ := l.sto i [(Il (min r.Lo n)), (Il (max r.Hi n))]
 refine ⟨o, p, ?_⟩
 refine ⟨_, _, s.bk.ra, ?_⟩
 obtain rfl := Option.some.inj hp
 exact hq _ q.ext'
theorem s_rEmpty  {m f : M} {Q : V → M → Prop} {rz : Rg} (hS : Pre f m)  (hp : prEmpty = some rz) (hq : ∀ m', Ext m m' → Q (.agg 2 [(Il rz.Lo), (Il rz.Hi)]) m') : Wc prog tbl 48 [] m Q := by
 have i := hS.st
 obtain ⟨j, _⟩ : ∃ τ : Nat → Nat, True := ⟨fun _ => 0, trivial⟩
 refine w48 ?_
 unfold prEmpty at hp
 intro p a
 obtain ⟨l, b, n, c⟩ := i.blk a j 1
 obtain ⟨d, e, g, o, h⟩ := c.sto b [(Il (1099511627776 : Int)), (Il (-1099511627776 : Int))]
 refine ⟨d, e, ?_⟩
 refine ⟨_, _, h.bk.ra, ?_⟩
 obtain rfl := Option.some.inj hp
 exact hq _ g.ext'
theorem s_lTo {r : Rg} {m f : M} {Q : V → M → Prop} {rz : Rg} (hS : Pre f m)  (hp : plTo r = some rz) (hq : ∀ m', Ext m m' → Q (.agg 2 [(Il rz.Lo), (Il rz.Hi)]) m') : Wc prog tbl 36 [.agg 2 [(Il r.Lo), (Il r.Hi)]] m Q := by
 have q := hS.st
 obtain ⟨s, _⟩ : ∃ τ : Nat → Nat, True := ⟨fun _ => 0, trivial⟩
 refine w36 ?_
 unfold plTo at hp
 intro y b
 obtain ⟨c, d, t, e⟩ := q.blk b s 1
 intro z g
 obtain ⟨u, h, i, j⟩ := d.blk g c 2
 have a := e.k i
 refine ⟨trivial, _, a.bk.rc rfl, trivial, _, a.bk.rc rfl, ?_⟩
 obtain ⟨l, n, o, x, p⟩ := j.sto h [(Il r.Lo), (Il r.Hi)]
 refine ⟨l, n, ?_⟩
 refine ⟨_, _, p.bk.ra, ?_⟩
 obtain rfl := Option.some.inj hp
 exact hq _ o.ext'
theorem s_lStorm {s : Stm} {ca111 : C} {m f : M} {Q : V → M → Prop} {rz : Stm} (hS : Pre f m) (ha111 : Sl f ca111 s.Cards) (hp : plStorm s = some rz) (hq : ∀ m' f' c11, Grw m f m' f' → Sl f' c11 rz.Cards → Q (.agg 12 [(Il rz.Wide), (Il rz.High), (Il rz.Fall), (Il rz.A.Lo), (Il rz.A.Hi), (Il rz.B.Lo), (Il rz.B.Hi), (Il rz.Half.Lo), (Il rz.Half.Hi), (Il rz.Peak.Lo), (Il rz.Peak.Hi), c11]) m') : Wc prog tbl 7 [.agg 12 [(Il s.Wide), (Il s.High), (Il s.Fall), (Il s.A.Lo), (Il s.A.Hi), (Il s.B.Lo), (Il s.B.Hi), (Il s.Half.Lo), (Il s.Half.Hi), (Il s.Peak.Lo), (Il s.Peak.Hi), ca111]] m Q := by
 have S0 := hS.st
 obtain ⟨τ0, _⟩ : ∃ τ : Nat → Nat, True := ⟨fun _ => 0, trivial⟩
 refine w7 ?_
 unfold plStorm at hp
 intro m0 xc
 obtain ⟨yc, zc, Qc, Ac⟩ := S0.blk xc τ0 1
 intro m1 Bc
 obtain ⟨Cc, Dc, Ec, Fc⟩ := zc.blk Bc yc 2
 have Gc := Ac.k Ec
 intro m2 Hc
 obtain ⟨ia, Sa, Ta, Va⟩ := Dc.growK Hc Cc 3
 have e := Gc.k Ta
 have Wa := Fc.k Ta
 have Xa := Va 0 (by decide)
 refine ⟨trivial, _, e.bk.rc rfl, trivial, _, e.bk.rc rfl, trivial, _, e.bk.rc rfl, trivial, _, _, e.bk.rp (k := 3) (j := 2) rfl (by omega), ?_⟩
 obtain ⟨ya, Ya, hp⟩ := bsome hp
 refine s_lTo (r := s.A) Sa.pre  Ya fun m9 Za => ?_
 obtain ⟨za, ja⟩ := Sa.call Za ia
 have h := e.k ja
 have ab := Wa.k ja
 have bb := Xa.k ja
 refine ⟨_, _, rfl, (h.bk.rc rfl), (h.bk.rc rfl), (h.bk.rc rfl), trivial, _, _, h.bk.rp (k := 5) (j := 2) rfl (by omega), (e.bk.rp (k := 5) (j := 2) rfl (by omega)), ?_⟩
 obtain ⟨Aa, cb, hp⟩ := bsome hp
 refine s_lTo (r := s.B) za.pre  cb fun Tc db => ?_
 obtain ⟨Ba, ka⟩ := za.call db ia
 have l := h.k ka
 have eb := ab.k ka
 have fb := bb.k ka
 refine ⟨_, _, rfl, (l.bk.rc rfl), (l.bk.rc rfl), (l.bk.rc rfl), trivial, _, _, l.bk.rp (k := 7) (j := 2) rfl (by omega), (h.bk.rp (k := 7) (j := 2) rfl (by omega)), (e.bk.rp (k := 7) (j := 2) rfl (by omega)), ?_⟩
 obtain ⟨Ca, gb, hp⟩ := bsome hp
 refine s_lTo (r := s.Half) Ba.pre  gb fun Uc hb => ?_
 obtain ⟨Da, la⟩ := Ba.call hb ia
 have J := l.k la
 have ib := eb.k la
 have jb := fb.k la
 refine ⟨_, _, rfl, (J.bk.rc rfl), (J.bk.rc rfl), (J.bk.rc rfl), trivial, _, _, J.bk.rp (k := 9) (j := 2) rfl (by omega), (l.bk.rp (k := 9) (j := 2) rfl (by omega)), (h.bk.rp (k := 9) (j := 2) rfl (by omega)), (e.bk.rp (k := 9) (j := 2) rfl (by omega)), ?_⟩
 obtain ⟨Ea, kb, hp⟩ := bsome hp
 refine s_lTo (r := s.Peak) Da.pre  kb fun Vc mb => ?_
 obtain ⟨nb, ma⟩ := Da.call mb ia
 have ba := J.k ma
 have ob := ib.k ma
 have pb := jb.k ma
 refine ⟨_, _, rfl, (ba.bk.rc rfl), (ba.bk.rc rfl), (ba.bk.rc rfl), ?_⟩
 intro Xc qb
 obtain ⟨rb, Fa, sb⟩ := pb.set nb qb
 have g := ba.k Fa
 have tb := ob.k Fa
 refine ⟨(g.bk.rp (k := 9) (j := 2) rfl (by omega)), (g.bk.rp (k := 7) (j := 2) rfl (by omega)), (g.bk.rp (k := 5) (j := 2) rfl (by omega)), (g.bk.rp (k := 3) (j := 2) rfl (by omega)), (g.bk.rc rfl), (g.bk.rc rfl), (g.bk.rc rfl), ?_⟩
 obtain ⟨ub, vb, wb, Ga, N⟩ := sb.sto rb [(Il s.Wide), (Il s.High), (Il s.Fall), (Il ya.Lo), (Il ya.Hi), (Il Aa.Lo), (Il Aa.Hi), (Il Ca.Lo), (Il Ca.Hi), (Il Ea.Lo), (Il Ea.Hi), .sl0]
 have n := g.k Ga
 have O := tb.k Ga
 refine ⟨ub, vb, ?_⟩
 intro Jc Ic
 have hgo : ∀ (ca : Nat) (Ha : Int) (o : C) (p : Int) (q : Int) (t : Int) (u : Int) (x : Int) (y : Int) (z : Int) (D : Int) (F : Int) (G : Int) (I : Int) (da : List Crd) (aa : M) (i : Nat → Nat), St (Fm.of m) f f aa → Lb (Fm.of m) f i aa 1 m.nxt 12 [(Il s.Wide), (Il s.High), (Il s.Fall), (Il s.A.Lo), (Il s.A.Hi), (Il s.B.Lo), (Il s.B.Hi), (Il s.Half.Lo), (Il s.Half.Hi), (Il s.Peak.Lo), (Il s.Peak.Hi), ca111] → Lb (Fm.of m) f i aa 2 m0.nxt 12 [(Il 0), (Il 0), (Il 0), (Il 0), (Il 0), (Il 0), (Il 0), (Il 0), (Il 0), (Il 0), (Il 0), .sl0] → Lb (Fm.of m) f i aa 3 (m1.nxt + 0) 12 [(Il p), (Il q), (Il t), (Il u), (Il x), (Il y), (Il z), (Il D), (Il F), (Il G), (Il I), o] → Ow (Fm.of m) f i aa 4 o da → plStorm_L0 s ca p q t u x y z D F G I da Ha = some rz → Jc [.c (Il Ha)] aa := by
  intro ca
  induction ca with
  | zero => intro Ha o p q t u x y z D F G I da aa i ea n O N b hp; cases hp
  | succ ca xb =>
   intro Ha o p q t u x y z D F G I da aa i ea n O N b hp
   refine Ic _ _ ?_
   rw [plStorm_L0] at hp
   refine ⟨trivial, _, n.bk.rc rfl, ha111.isSl, ?_⟩
   try rw [ha111.slLen]
   refine ifd hp (fun yb hp => ?_) fun yb hp => ?_; rotate_left
   ·refine ⟨_, _, _, _, _, _, _, _, _, _, _, _, N.bk.ra, ?_⟩
    obtain ⟨zb, Ab, Bb, Cb, Db⟩ := O.sto ea [(Il p), (Il q), (Il t), (Il u), (Il x), (Il y), (Il z), (Il D), (Il F), (Il G), (Il I), o]
    have b := b.k Cb
    refine ⟨zb, Ab, ?_⟩
    refine ⟨_, _, _, _, _, _, _, _, _, _, _, _, Db.bk.ra, ?_⟩
    obtain ⟨Eb, Fb, Lc, Gb⟩ := b.freeze Bb
    obtain rfl := Option.some.inj hp
    exact hq _ Eb o Fb.grw Gb
   refine ⟨trivial, _, n.bk.rc rfl, ?_⟩
   obtain ⟨d, na, hp⟩ := bsome hp
   obtain ⟨Kc, Ua, xa, na⟩ := idx_some na
   obtain ⟨_, Hb⟩ := rd_Crd ha111 na
   refine ⟨Kc, Ua, (by first | exact xa | (rw [ha111.slLen]; exact xa)), _, _, _, _, _, _, _, (Hb _ ea.sub).1, ?_⟩
   intro Yc Ib
   obtain ⟨oa, Jb, fa, Kb⟩ := ea.blk Ib i 5
   have Mb := n.k fa
   have Nb := O.k fa
   have Ob := N.k fa
   have b := b.k fa
   obtain ⟨Pb, Qb, Ia, ga, P⟩ := Kb.sto Jb [(Il d.X.Lo), (Il d.X.Hi), (Il d.Y.Lo), (Il d.Y.Hi), (.bool d.Hail), (Il d.Size.Lo), (Il d.Size.Hi)]
   have Rb := Mb.k ga
   have Sb := Nb.k ga
   have Ja := Ob.k ga
   have b := b.k ga
   refine ⟨Pb, Qb, ?_⟩
   refine ⟨trivial, _, Ja.bk.rc rfl, trivial, _, _, P.bk.rp (k := 0) (j := 2) rfl (by omega), ?_⟩
   obtain ⟨Ka, Tb, hp⟩ := bsome hp
   refine s_lTo (r := d.X) Ia.pre  Tb fun Zc Ub => ?_
   obtain ⟨La, S⟩ := Ia.call Ub oa
   have Vb := Rb.k S
   have Wb := Sb.k S
   have Ma := Ja.k S
   have ha := P.k S
   have b := b.k S
   refine ⟨_, _, rfl, (by rw [show cmC _ = true from cmC_of (b.noFn)]; exact (Ma.bk.rc rfl)), trivial, _, _, ha.bk.rp (k := 2) (j := 2) rfl (by omega), (P.bk.rp (k := 2) (j := 2) rfl (by omega)), ?_⟩
   obtain ⟨Na, Xb, hp⟩ := bsome hp
   refine s_lTo (r := d.Y) La.pre  Xb fun ad Yb => ?_
   obtain ⟨Oa, T⟩ := La.call Yb oa
   have Zb := Vb.k T
   have ac := Wb.k T
   have Pa := Ma.k T
   have pa := ha.k T
   have b := b.k T
   refine ⟨_, _, rfl, (by rw [show cmC _ = true from cmC_of (b.noFn)]; exact (Pa.bk.rc rfl)), trivial, _, pa.bk.rc rfl, (ha.bk.rc rfl), (P.bk.rc rfl), trivial, _, _, pa.bk.rp (k := 5) (j := 2) rfl (by omega), (ha.bk.rp (k := 5) (j := 2) rfl (by omega)), (P.bk.rp (k := 5) (j := 2) rfl (by omega)), ?_⟩
   obtain ⟨Qa, bc, hp⟩ := bsome hp
   refine s_lTo (r := d.Size) Oa.pre  bc fun bd cc => ?_
   obtain ⟨dc, Z⟩ := Oa.call cc oa
   have ec := Zb.k Z
   have fc := ac.k Z
   have qa := Pa.k Z
   have gc := pa.k Z
   have b := b.k Z
   refine ⟨_, _, rfl, (gc.bk.rc rfl), (by rw [show cmC _ = true from cmC_of (b.noFn)]; exact (qa.bk.rc rfl)), ?_⟩
   obtain ⟨hc, hp⟩ := gd_some hp
   intro cd Ra
   refine ⟨(by rw [show cmC _ = true from cmC_of (b.noFn)]; exact (qa.bk.ext (Bk.new Ra).2).rc rfl), ?_⟩
   obtain ⟨sa, ic, jc, kc, lc, ta, ua⟩ := b.app' ta32 dc (a := ({ X := Ka, Y := Na, Hail := d.Hail, Size := Qa } : Crd)) (show Rp.rep (α := Crd) f _ ({ X := Ka, Y := Na, Hail := d.Hail, Size := Qa } : Crd) from rfl) hc Ra
   have nc := ec.k ta
   have oc := fc.k ta
   have pc := qa.k ta
   refine ⟨sa, ic, kc, ?_⟩
   refine ⟨trivial, ?_⟩
   obtain ⟨qc, sc, tc, va, wa⟩ := pc.sto1 lc 11 sa (by simp) rfl
   replace wa : Lb _ _ _ _ _ _ _ [(Il p), (Il q), (Il t), (Il u), (Il x), (Il y), (Il z), (Il D), (Il F), (Il G), (Il I), sa] := wa
   have uc := nc.k va
   have vc := oc.k va
   have ua := ua.k va
   refine ⟨qc, sc, ?_⟩
   refine gdi hp fun wc hp => ?_
   exact xb _ _ _ _ _ _ _ _ _ _ _ _ _ _ _ jc tc uc vc wa ua hp
 exact hgo _ _ _ _ _ _ _ _ _ _ _ _ _ _ _ _ ia wb n O N (Ow.nil _ _ _ _ _) hp
theorem s_lTruth {t : Trh} {m f : M} {Q : V → M → Prop} {rz : Trh} (hS : Pre f m)  (hp : plTruth t = some rz) (hq : ∀ m', Ext m m' → Q (.agg 4 [(Il rz.A), (Il rz.B), (Il rz.Half), (Il rz.Peak)]) m') : Wc prog tbl 9 [.agg 4 [(Il t.A), (Il t.B), (Il t.Half), (Il t.Peak)]] m Q := by
 have u := hS.st
 obtain ⟨x, _⟩ : ∃ τ : Nat → Nat, True := ⟨fun _ => 0, trivial⟩
 refine w9 ?_
 unfold plTruth at hp
 intro y b
 obtain ⟨c, d, q, e⟩ := u.blk b x 1
 intro z g
 obtain ⟨r, h, i, j⟩ := d.blk g c 2
 have a := e.k i
 refine ⟨trivial, _, a.bk.rc rfl, trivial, _, a.bk.rc rfl, trivial, _, a.bk.rc rfl, trivial, _, a.bk.rc rfl, ?_⟩
 obtain ⟨l, n, o, s, p⟩ := j.sto h [(Il t.A), (Il t.B), (Il t.Half), (Il t.Peak)]
 refine ⟨l, n, ?_⟩
 refine ⟨_, _, _, _, p.bk.ra, ?_⟩
 obtain rfl := Option.some.inj hp
 exact hq _ o.ext'
theorem s_lThin {s : Stm} {ca111 : C} {m f : M} {Q : V → M → Prop} {rz : Bool} (hS : Pre f m) (ha111 : Sl f ca111 s.Cards) (hp : plThin s = some rz) (hq : ∀ m', Ext m m' → Q (.c (.bool rz)) m') : Wc prog tbl 4 [.agg 12 [(Il s.Wide), (Il s.High), (Il s.Fall), (Il s.A.Lo), (Il s.A.Hi), (Il s.B.Lo), (Il s.B.Hi), (Il s.Half.Lo), (Il s.Half.Hi), (Il s.Peak.Lo), (Il s.Peak.Hi), ca111]] m Q := by
 have z := hS.st
 obtain ⟨D, _⟩ : ∃ τ : Nat → Nat, True := ⟨fun _ => 0, trivial⟩
 refine w4 ?_
 unfold plThin at hp
 intro I g
 obtain ⟨e, a, t, b⟩ := z.blk g D 1
 refine ⟨trivial, _, b.bk.rc rfl, ha111.isSl, ?_⟩
 try rw [ha111.slLen]
 refine ifd hp (fun h hp => ?_) fun h hp => ?_; rotate_left
 ·obtain rfl := Option.some.inj hp
  exact hq _ a.ext'
 refine ⟨_, _, _, _, _, _, _, _, _, _, _, _, b.bk.ra, ?_⟩
 obtain ⟨u, i, hp⟩ := bsome hp
 refine s_rFault (s := s) a.pre ha111 i fun F j => ?_
 obtain ⟨d, l⟩ := a.call j e
 have n := b.k l
 refine ⟨_, rfl, ?_⟩
 refine ifnd hp (fun o hp => ?_) fun o hp => ?_
 ·obtain rfl := Option.some.inj hp
  exact hq _ d.ext'
 refine ⟨_, _, _, _, _, _, _, _, _, _, _, _, n.bk.ra, ?_⟩
 obtain ⟨x, p, hp⟩ := bsome hp
 refine s_rMany (s := s) d.pre ha111 p fun G q => ?_
 obtain ⟨r, y⟩ := d.call q e
 refine ⟨_, rfl, ?_⟩
 obtain rfl := Option.some.inj hp
 exact hq _ r.ext'
theorem s_lFault {s : Stm} {ca111 : C} {m f : M} {Q : V → M → Prop} {rz : Int} (hS : Pre f m) (ha111 : Sl f ca111 s.Cards) (hp : plFault s = some rz) (hq : ∀ m', Ext m m' → Q (.c (Il rz)) m') : Wc prog tbl 11 [.agg 12 [(Il s.Wide), (Il s.High), (Il s.Fall), (Il s.A.Lo), (Il s.A.Hi), (Il s.B.Lo), (Il s.B.Hi), (Il s.Half.Lo), (Il s.Half.Hi), (Il s.Peak.Lo), (Il s.Peak.Hi), ca111]] m Q := by
 have o := hS.st
 obtain ⟨p, _⟩ : ∃ τ : Nat → Nat, True := ⟨fun _ => 0, trivial⟩
 refine w11 ?_
 unfold plFault at hp
 intro r b
 obtain ⟨d, a, j, e⟩ := o.blk b p 1
 refine ⟨_, _, _, _, _, _, _, _, _, _, _, _, e.bk.ra, ?_⟩
 obtain ⟨l, g, hp⟩ := bsome hp
 refine s_rFault (s := s) a.pre ha111 g fun q h => ?_
 obtain ⟨i, n⟩ := a.call h d
 refine ⟨_, rfl, ?_⟩
 obtain rfl := Option.some.inj hp
 exact hq _ i.ext'
theorem s_lSure {s : Stm} {ca111 : C} {m f : M} {Q : V → M → Prop} {rz : List Trh × Int} (hS : Pre f m) (ha111 : Sl f ca111 s.Cards) (hp : plSure s = some rz) (hq : ∀ m' f' c0, Grw m f m' f' → Sl f' c0 rz.1 → Q (.tup [.c c0, .c (Il rz.2)]) m') : Wc prog tbl 14 [.agg 12 [(Il s.Wide), (Il s.High), (Il s.Fall), (Il s.A.Lo), (Il s.A.Hi), (Il s.B.Lo), (Il s.B.Hi), (Il s.Half.Lo), (Il s.Half.Hi), (Il s.Peak.Lo), (Il s.Peak.Hi), ca111]] m Q := by
 have G := hS.st
 obtain ⟨I, _⟩ : ∃ τ : Nat → Nat, True := ⟨fun _ => 0, trivial⟩
 refine w14 ?_
 unfold plSure at hp
 intro O j
 obtain ⟨d, e, y, g⟩ := G.blk j I 1
 refine ⟨_, _, _, _, _, _, _, _, _, _, _, _, g.bk.ra, ?_⟩
 obtain ⟨z, l, hp⟩ := bsome hp
 refine s_lFault (s := s) e.pre ha111 l fun J n => ?_
 obtain ⟨a, o⟩ := e.call n d
 have p := g.k o
 refine ⟨_, rfl, ?_⟩
 refine ifnd hp (fun q hp => ?_) fun q hp => ?_
 ·obtain rfl := Option.some.inj hp
  exact hq _ f .sl0 a.grw (Sl.nil _)
 refine ⟨_, _, _, _, _, _, _, _, _, _, _, _, p.bk.ra, ?_⟩
 obtain ⟨D, r, hp⟩ := bsome hp
 refine s_rTruths (s := s) a.pre ha111 r fun N h t u b => ?_
 obtain ⟨i, F⟩ := a.callG u d
 refine ⟨_, rfl, b.isSl, ?_⟩
 try rw [b.slLen]
 refine ifd hp (fun x hp => ?_) fun x hp => ?_
 ·obtain rfl := Option.some.inj hp
  exact hq _ h .sl0 i.grw (Sl.nil _)
 obtain rfl := Option.some.inj hp
 exact hq _ h t i.grw b
theorem s_has {r : Rg} {n : Int} {m f : M} {Q : V → M → Prop} {rz : Bool} (hS : Pre f m)  (hp : phas r n = some rz) (hq : ∀ m', Ext m m' → Q (.c (.bool rz)) m') : Wc prog tbl 69 [.agg 2 [(Il r.Lo), (Il r.Hi)], .c (Il n)] m Q := by
 have i := hS.st
 obtain ⟨j, _⟩ : ∃ τ : Nat → Nat, True := ⟨fun _ => 0, trivial⟩
 refine w69 ?_
 unfold phas at hp
 intro l d
 obtain ⟨g, a, h, b⟩ := i.blk d j 1
 refine ⟨trivial, _, b.bk.rc rfl, ?_⟩
 refine ifd hp (fun e hp => ?_) fun e hp => ?_; rotate_left
 ·obtain rfl := Option.some.inj hp
  exact hq _ a.ext'
 refine ⟨trivial, _, b.bk.rc rfl, ?_⟩
 obtain rfl := Option.some.inj hp
 exact hq _ a.ext'
theorem s_count {r : Rg} {m f : M} {Q : V → M → Prop} {rz : Int} (hS : Pre f m)  (hp : pcount r = some rz) (hq : ∀ m', Ext m m' → Q (.c (Il rz)) m') : Wc prog tbl 74 [.agg 2 [(Il r.Lo), (Il r.Hi)]] m Q := by
 have j := hS.st
 obtain ⟨l, _⟩ : ∃ τ : Nat → Nat, True := ⟨fun _ => 0, trivial⟩
 refine w74 ?_
 unfold pcount at hp
 intro n b
 obtain ⟨h, d, i, a⟩ := j.blk b l 1
 refine ⟨trivial, _, a.bk.rc rfl, trivial, _, a.bk.rc rfl, ?_⟩
 refine gdi hp fun e hp => ?_
 refine gdi hp fun g hp => ?_
 obtain rfl := Option.some.inj hp
 exact hq _ d.ext'
theorem s_within {r : Rg} {low : Int} {high : Int} {m f : M} {Q : V → M → Prop} {rz : Bool} (hS : Pre f m)  (hp : pwithin r low high = some rz) (hq : ∀ m', Ext m m' → Q (.c (.bool rz)) m') : Wc prog tbl 71 [.agg 2 [(Il r.Lo), (Il r.Hi)], .c (Il low), .c (Il high)] m Q := by
 have j := hS.st
 obtain ⟨l, _⟩ : ∃ τ : Nat → Nat, True := ⟨fun _ => 0, trivial⟩
 refine w71 ?_
 unfold pwithin at hp
 intro n d
 obtain ⟨h, b, i, a⟩ := j.blk d l 1
 refine ⟨trivial, _, a.bk.rc rfl, ?_⟩
 refine ifd hp (fun e hp => ?_) fun e hp => ?_; rotate_left
 ·obtain rfl := Option.some.inj hp
  exact hq _ b.ext'
 refine ⟨trivial, _, a.bk.rc rfl, trivial, _, a.bk.rc rfl, ?_⟩
 refine ifd hp (fun g hp => ?_) fun g hp => ?_; rotate_left
 ·obtain rfl := Option.some.inj hp
  exact hq _ b.ext'
 refine ⟨trivial, _, a.bk.rc rfl, ?_⟩
 obtain rfl := Option.some.inj hp
 exact hq _ b.ext'
theorem s_rect {c : Crd} {m f : M} {Q : V → M → Prop} {rz : Rct} (hS : Pre f m)  (hp : prect c = some rz) (hq : ∀ m', Ext m m' → Q (.agg 4 [(Il rz.X.Lo), (Il rz.X.Hi), (Il rz.Y.Lo), (Il rz.Y.Hi)]) m') : Wc prog tbl 93 [.agg 7 [(Il c.X.Lo), (Il c.X.Hi), (Il c.Y.Lo), (Il c.Y.Hi), (.bool c.Hail), (Il c.Size.Lo), (Il c.Size.Hi)]] m Q := by
 have x := hS.st
 obtain ⟨y, _⟩ : ∃ τ : Nat → Nat, True := ⟨fun _ => 0, trivial⟩
 refine w93 ?_
 unfold prect at hp
 intro z b
 obtain ⟨d, e, s, g⟩ := x.blk b y 1
 intro A h
 obtain ⟨t, i, l, n⟩ := e.blk h d 2
 have a := g.k l
 refine ⟨trivial, _, _, a.bk.rp (k := 0) (j := 2) rfl (by omega), trivial, _, _, a.bk.rp (k := 2) (j := 2) rfl (by omega), ?_⟩
 obtain ⟨o, p, q, u, r⟩ := n.sto i [(Il c.X.Lo), (Il c.X.Hi), (Il c.Y.Lo), (Il c.Y.Hi)]
 refine ⟨o, p, ?_⟩
 refine ⟨_, _, _, _, r.bk.ra, ?_⟩
 obtain rfl := Option.some.inj hp
 exact hq _ q.ext'
theorem s_tooMany {s : Stm} {ca111 : C} {m f : M} {Q : V → M → Prop} {rz : Bool} (hS : Pre f m) (ha111 : Sl f ca111 s.Cards) (hp : ptooMany s = some rz) (hq : ∀ m', Ext m m' → Q (.c (.bool rz)) m') : Wc prog tbl 40 [.agg 12 [(Il s.Wide), (Il s.High), (Il s.Fall), (Il s.A.Lo), (Il s.A.Hi), (Il s.B.Lo), (Il s.B.Hi), (Il s.Half.Lo), (Il s.Half.Hi), (Il s.Peak.Lo), (Il s.Peak.Hi), ca111]] m Q := by
 have j := hS.st
 obtain ⟨l, _⟩ : ∃ τ : Nat → Nat, True := ⟨fun _ => 0, trivial⟩
 refine w40 ?_
 unfold ptooMany at hp
 intro n d
 obtain ⟨h, a, i, b⟩ := j.blk d l 1
 refine ⟨trivial, _, b.bk.rc rfl, ?_⟩
 refine ifd hp (fun e hp => ?_) fun e hp => ?_
 ·obtain rfl := Option.some.inj hp
  exact hq _ a.ext'
 refine ⟨trivial, _, b.bk.rc rfl, ?_⟩
 refine ifd hp (fun g hp => ?_) fun g hp => ?_
 ·obtain rfl := Option.some.inj hp
  exact hq _ a.ext'
 refine ⟨trivial, _, b.bk.rc rfl, ha111.isSl, ?_⟩
 try rw [ha111.slLen]
 obtain rfl := Option.some.inj hp
 exact hq _ a.ext'
theorem s_hasRect {s : Stm} {r : Rct} {ca111 : C} {m f : M} {Q : V → M → Prop} {rz : Bool} (hS : Pre f m) (_ha111 : Sl f ca111 s.Cards) (hp : phasRect s r = some rz) (hq : ∀ m', Ext m m' → Q (.c (.bool rz)) m') : Wc prog tbl 65 [.agg 12 [(Il s.Wide), (Il s.High), (Il s.Fall), (Il s.A.Lo), (Il s.A.Hi), (Il s.B.Lo), (Il s.B.Hi), (Il s.Half.Lo), (Il s.Half.Hi), (Il s.Peak.Lo), (Il s.Peak.Hi), ca111], .agg 4 [(Il r.X.Lo), (Il r.X.Hi), (Il r.Y.Lo), (Il r.Y.Hi)]] m Q := by
 have T := hS.st
 obtain ⟨Z, _⟩ : ∃ τ : Nat → Nat, True := ⟨fun _ => 0, trivial⟩
 refine w65 ?_
 unfold phasRect at hp
 intro m0 i
 obtain ⟨l, n, N, o⟩ := T.blk i Z 1
 intro m1 p
 obtain ⟨b, d, q, e⟩ := n.blk p l 2
 have g := o.k q
 refine ⟨trivial, _, _, e.bk.rp (k := 0) (j := 2) rfl (by omega), trivial, _, g.bk.rc rfl, ?_⟩
 refine gdi hp fun t hp => ?_
 obtain ⟨O, u, hp⟩ := bsome hp
 refine s_within (r := r.X) (low := (0 : Int)) (high := (s.Wide - (1 : Int))) d.pre  u fun m6 x => ?_
 obtain ⟨a, h⟩ := d.call x b
 have y := g.k h
 have z := e.k h
 refine ⟨_, rfl, ?_⟩
 refine ifbb hp (fun D hp => ?_) fun D hp => ?_; rotate_left
 ·obtain rfl := Option.some.inj hp
  exact hq _ a.ext'
 refine ⟨trivial, _, _, z.bk.rp (k := 2) (j := 2) rfl (by omega), trivial, _, y.bk.rc rfl, ?_⟩
 refine gdi hp fun F hp => ?_
 obtain ⟨P, G, hp⟩ := bsome hp
 refine s_within (r := r.Y) (low := (0 : Int)) (high := (s.High - (1 : Int))) a.pre  G fun aa I => ?_
 obtain ⟨J, S⟩ := a.call I b
 refine ⟨_, rfl, ?_⟩
 obtain rfl := Option.some.inj hp
 exact hq _ J.ext'
theorem s_validCard {w : Wk} {c : Crd} {ca111 ca112 : C} {m f : M} {Q : V → M → Prop} {rz : Bool} (hS : Pre f m) (ha111 : Sl f ca111 w.s.Cards) (_ha112 : Mi f ca112 w.right) (hp : pvalidCard w c = some rz) (hq : ∀ m', Ext m m' → Q (.c (.bool rz)) m') : Wc prog tbl 73 [.agg 13 [(Il w.s.Wide), (Il w.s.High), (Il w.s.Fall), (Il w.s.A.Lo), (Il w.s.A.Hi), (Il w.s.B.Lo), (Il w.s.B.Hi), (Il w.s.Half.Lo), (Il w.s.Half.Hi), (Il w.s.Peak.Lo), (Il w.s.Peak.Hi), ca111, ca112], .agg 7 [(Il c.X.Lo), (Il c.X.Hi), (Il c.Y.Lo), (Il c.Y.Hi), (.bool c.Hail), (Il c.Size.Lo), (Il c.Size.Hi)]] m Q := by
 have S0 := hS.st
 obtain ⟨τ0, _⟩ : ∃ τ : Nat → Nat, True := ⟨fun _ => 0, trivial⟩
 refine w73 ?_
 unfold pvalidCard at hp
 intro m0 p
 obtain ⟨q, t, ga, u⟩ := S0.blk p τ0 1
 intro m1 x
 obtain ⟨a, e, y, g⟩ := t.blk x q 2
 have h := u.k y
 refine ⟨trivial, _, _, _, _, _, _, _, _, _, _, _, _, h.bk.rp (k := 0) (j := 12) rfl (by omega), _, _, _, _, _, _, _, g.bk.ra, ?_⟩
 obtain ⟨z, D, hp⟩ := bsome hp
 refine s_rect (c := c) e.pre  D fun la F => ?_
 obtain ⟨i, l⟩ := e.call F a
 have G := h.k l
 have I := g.k l
 refine ⟨_, _, _, _, rfl, (by rw [show allS cmC _ = true from cmL_of (nf_cons rfl (nf_cons rfl (nf_cons rfl (nf_cons rfl (nf_cons rfl (nf_cons rfl (nf_cons rfl (nf_cons rfl (nf_cons rfl (nf_cons rfl (nf_cons rfl (nf_cons ha111.noFn nf_nil))))))))))))]; exact (G.bk.rp (k := 0) (j := 12) rfl (by omega))), ?_⟩
 obtain ⟨ha, J, hp⟩ := bsome hp
 refine s_hasRect (s := w.s) (r := z) i.pre ha111 J fun ma N => ?_
 obtain ⟨b, O⟩ := i.call N a
 have n := I.k O
 refine ⟨_, rfl, ?_⟩
 refine ifnb hp (fun P hp => ?_) fun P hp => ?_
 ·obtain rfl := Option.some.inj hp
  exact hq _ b.ext'
 refine ⟨trivial, _, _, n.bk.rp (k := 5) (j := 2) rfl (by omega), ?_⟩
 obtain ⟨ia, S, hp⟩ := bsome hp
 refine s_within (r := c.Size) (low := (0 : Int)) (high := (9 : Int)) b.pre  S fun na T => ?_
 obtain ⟨d, Z⟩ := b.call T a
 have o := n.k Z
 refine ⟨_, rfl, ?_⟩
 refine ifnb hp (fun aa hp => ?_) fun aa hp => ?_
 ·obtain rfl := Option.some.inj hp
  exact hq _ d.ext'
 refine ⟨trivial, _, o.bk.rc rfl, ?_⟩
 refine ifbb hp (fun ba hp => ?_) fun ba hp => ?_
 ·obtain rfl := Option.some.inj hp
  exact hq _ d.ext'
 refine ⟨trivial, _, _, o.bk.rp (k := 5) (j := 2) rfl (by omega), ?_⟩
 refine gdi hp fun ca hp => ?_
 refine gdi hp fun da hp => ?_
 refine gdi hp fun ea hp => ?_
 refine gdi hp fun fa hp => ?_
 obtain rfl := Option.some.inj hp
 exact hq _ d.ext'
theorem s_eachC1 {x : Crd} {passes : Crd → Option (Bool)} {b0 : Nat} {cb000 : C} {m f : M} {Q : V → M → Prop} {rz : Bool} (hS : Pre f m) (hb0 : Bk f b0 1 [cb000]) (hb000 : Fv_Crd_Bool f cb000 passes) (hp : peachC1 x passes = some rz) (hq : ∀ m', Ext m m' → Q (.c (.bool rz)) m') : Wc prog tbl 95 [.agg 7 [(Il x.X.Lo), (Il x.X.Hi), (Il x.Y.Lo), (Il x.Y.Hi), (.bool x.Hail), (Il x.Size.Lo), (Il x.Size.Hi)], .c (.ptr b0 0)] m Q := by
 have o := hS.st
 obtain ⟨p, _⟩ : ∃ τ : Nat → Nat, True := ⟨fun _ => 0, trivial⟩
 refine c95 ?_
 unfold peachC1 at hp
 intro r b
 obtain ⟨d, a, j, e⟩ := o.blk b p 1
 refine ⟨_, (hb0.sub a.sub).rc rfl, _, _, _, _, _, _, _, e.bk.ra, ?_⟩
 obtain ⟨l, g, hp⟩ := bsome hp
 refine hb000 _ _ _ _ _ (Sub.refl _) a.pre  g fun q h => ?_
 obtain ⟨i, n⟩ := a.call h d
 refine ⟨_, rfl, ?_⟩
 obtain rfl := Option.some.inj hp
 exact hq _ i.ext'
theorem s_indexC {l : List Crd} {p : Crd → Option (Bool)} {ca100 ca200 : C} {m f : M} {Q : V → M → Prop} {rz : Int} (hS : Pre f m) (ha100 : Sl f ca100 l) (ha200 : Fv_Crd_Bool f ca200 p) (hp : pindexC l p = some rz) (hq : ∀ m', Ext m m' → Q (.c (Il rz)) m') : Wc prog tbl 102 [.c ca100, .c ca200] m Q := by
 have F := hS.st
 obtain ⟨G, _⟩ : ∃ τ : Nat → Nat, True := ⟨fun _ => 0, trivial⟩
 refine w102 ?_
 unfold pindexC at hp
 refine ⟨ha100.isSl, ?_⟩
 intro I z
 have hgo : ∀ (b : Nat) (x : Int) (j : Int) (n : M) (d : Nat → Nat), St (Fm.of m) f f n → pindexC_L0 l p b j = some rz → I [.c (Il x), .c (Il j)] n := by
  intro b
  induction b with
  | zero => intro x j n d a hp; cases hp
  | succ b y =>
   intro x j n d a hp
   refine z _ _ _ ?_
   rw [pindexC_L0] at hp
   try rw [ha100.slLen]
   refine ifd hp (fun o hp => ?_) fun o hp => ?_; rotate_left
   ·obtain rfl := Option.some.inj hp
    exact hq _ a.ext'
   obtain ⟨A, e, hp⟩ := bsome hp
   obtain ⟨J, i, g, e⟩ := idx_some e
   obtain ⟨_, q⟩ := rd_Crd ha100 e
   refine ⟨J, i, (by first | exact g | (rw [ha100.slLen]; exact g)), _, _, _, _, _, _, _, (q _ a.sub).1, ?_⟩
   obtain ⟨B, r, hp⟩ := bsome hp
   refine ha200 _ _ _ _ _ (Sub.refl _) a.pre  r fun N s => ?_
   obtain ⟨h, D⟩ := a.call s d
   refine ⟨_, rfl, ?_⟩
   refine ifbb hp (fun t hp => ?_) fun t hp => ?_
   ·obtain rfl := Option.some.inj hp
    exact hq _ h.ext'
   refine gdi hp fun u hp => ?_
   exact y _ _ _ d h hp
 exact hgo _ _ _ _ G F hp
theorem s_containsC {l : List Crd} {p : Crd → Option (Bool)} {ca100 ca200 : C} {m f : M} {Q : V → M → Prop} {rz : Bool} (hS : Pre f m) (ha100 : Sl f ca100 l) (ha200 : Fv_Crd_Bool f ca200 p) (hp : pcontainsC l p = some rz) (hq : ∀ m', Ext m m' → Q (.c (.bool rz)) m') : Wc prog tbl 94 [.c ca100, .c ca200] m Q := by
 have e := hS.st
 obtain ⟨i, _⟩ : ∃ τ : Nat → Nat, True := ⟨fun _ => 0, trivial⟩
 refine w94 ?_
 unfold pcontainsC at hp
 obtain ⟨g, a, hp⟩ := bsome hp
 refine s_indexC (l := l) (p := p) e.pre ha100 ha200 a fun j b => ?_
 obtain ⟨d, h⟩ := e.call b i
 refine ⟨_, rfl, ?_⟩
 obtain rfl := Option.some.inj hp
 exact hq _ d.ext'
theorem s_eachC {l : List Crd} {passes : Crd → Option (Bool)} {ca100 ca200 : C} {m f : M} {Q : V → M → Prop} {rz : Bool} (hS : Pre f m) (ha100 : Sl f ca100 l) (ha200 : Fv_Crd_Bool f ca200 passes) (hp : peachC l passes = some rz) (hq : ∀ m', Ext m m' → Q (.c (.bool rz)) m') : Wc prog tbl 72 [.c ca100, .c ca200] m Q := by
 have z := hS.st
 obtain ⟨A, _⟩ : ∃ τ : Nat → Nat, True := ⟨fun _ => 0, trivial⟩
 refine w72 ?_
 unfold peachC at hp
 intro B h
 obtain ⟨i, j, u, n⟩ := z.blk h A 1
 obtain ⟨o, b, d, e⟩ := n.freeze j
 have g : Fv_Crd_Bool o ((C.fn (Fn.func 95) [] [(W.c (C0.ptr m.nxt 0))])) (fun a => peachC1 a passes) := by
  intro f' m' a r Q hs hpre  hg hq
  exact s_eachC1 hpre (e.sub hs) ((ha200.sub d.fs).sub hs) hg hq
 obtain ⟨x, q, hp⟩ := bsome hp
 refine s_containsC (l := l) (p := (fun a => peachC1 a passes)) b.pre (ha100.sub d.fs) g q fun D s => ?_
 obtain ⟨t, y⟩ := b.call s i
 refine ⟨_, rfl, ?_⟩
 obtain rfl := Option.some.inj hp
 exact hq _ t.ext'
theorem s_eachR1 {x : Rct} {passes : Rct → Option (Bool)} {b0 : Nat} {cb000 : C} {m f : M} {Q : V → M → Prop} {rz : Bool} (hS : Pre f m) (hb0 : Bk f b0 1 [cb000]) (hb000 : Fv_Rct_Bool f cb000 passes) (hp : peachR1 x passes = some rz) (hq : ∀ m', Ext m m' → Q (.c (.bool rz)) m') : Wc prog tbl 91 [.agg 4 [(Il x.X.Lo), (Il x.X.Hi), (Il x.Y.Lo), (Il x.Y.Hi)], .c (.ptr b0 0)] m Q := by
 have o := hS.st
 obtain ⟨p, _⟩ : ∃ τ : Nat → Nat, True := ⟨fun _ => 0, trivial⟩
 refine c91 ?_
 unfold peachR1 at hp
 intro q b
 obtain ⟨d, a, j, e⟩ := o.blk b p 1
 refine ⟨_, (hb0.sub a.sub).rc rfl, _, _, _, _, e.bk.ra, ?_⟩
 obtain ⟨l, g, hp⟩ := bsome hp
 refine hb000 _ _ _ _ _ (Sub.refl _) a.pre  g fun r h => ?_
 obtain ⟨i, n⟩ := a.call h d
 refine ⟨_, rfl, ?_⟩
 obtain rfl := Option.some.inj hp
 exact hq _ i.ext'
theorem s_indexR {l : List Rct} {p : Rct → Option (Bool)} {ca100 ca200 : C} {m f : M} {Q : V → M → Prop} {rz : Int} (hS : Pre f m) (ha100 : Sl f ca100 l) (ha200 : Fv_Rct_Bool f ca200 p) (hp : pindexR l p = some rz) (hq : ∀ m', Ext m m' → Q (.c (Il rz)) m') : Wc prog tbl 101 [.c ca100, .c ca200] m Q := by
 have F := hS.st
 obtain ⟨G, _⟩ : ∃ τ : Nat → Nat, True := ⟨fun _ => 0, trivial⟩
 refine w101 ?_
 unfold pindexR at hp
 refine ⟨ha100.isSl, ?_⟩
 intro I z
 have hgo : ∀ (b : Nat) (x : Int) (j : Int) (n : M) (d : Nat → Nat), St (Fm.of m) f f n → pindexR_L0 l p b j = some rz → I [.c (Il x), .c (Il j)] n := by
  intro b
  induction b with
  | zero => intro x j n d a hp; cases hp
  | succ b y =>
   intro x j n d a hp
   refine z _ _ _ ?_
   rw [pindexR_L0] at hp
   try rw [ha100.slLen]
   refine ifd hp (fun o hp => ?_) fun o hp => ?_; rotate_left
   ·obtain rfl := Option.some.inj hp
    exact hq _ a.ext'
   obtain ⟨A, e, hp⟩ := bsome hp
   obtain ⟨J, i, g, e⟩ := idx_some e
   obtain ⟨_, q⟩ := rd_Rct ha100 e
   refine ⟨J, i, (by first | exact g | (rw [ha100.slLen]; exact g)), _, _, _, _, (q _ a.sub).1, ?_⟩
   obtain ⟨B, r, hp⟩ := bsome hp
   refine ha200 _ _ _ _ _ (Sub.refl _) a.pre  r fun N s => ?_
   obtain ⟨h, D⟩ := a.call s d
   refine ⟨_, rfl, ?_⟩
   refine ifbb hp (fun t hp => ?_) fun t hp => ?_
   ·obtain rfl := Option.some.inj hp
    exact hq _ h.ext'
   refine gdi hp fun u hp => ?_
   exact y _ _ _ d h hp
 exact hgo _ _ _ _ G F hp
theorem s_containsR {l : List Rct} {p : Rct → Option (Bool)} {ca100 ca200 : C} {m f : M} {Q : V → M → Prop} {rz : Bool} (hS : Pre f m) (ha100 : Sl f ca100 l) (ha200 : Fv_Rct_Bool f ca200 p) (hp : pcontainsR l p = some rz) (hq : ∀ m', Ext m m' → Q (.c (.bool rz)) m') : Wc prog tbl 90 [.c ca100, .c ca200] m Q := by
 have e := hS.st
 obtain ⟨i, _⟩ : ∃ τ : Nat → Nat, True := ⟨fun _ => 0, trivial⟩
 refine w90 ?_
 unfold pcontainsR at hp
 obtain ⟨g, a, hp⟩ := bsome hp
 refine s_indexR (l := l) (p := p) e.pre ha100 ha200 a fun j b => ?_
 obtain ⟨d, h⟩ := e.call b i
 refine ⟨_, rfl, ?_⟩
 obtain rfl := Option.some.inj hp
 exact hq _ d.ext'
theorem s_eachR {l : List Rct} {passes : Rct → Option (Bool)} {ca100 ca200 : C} {m f : M} {Q : V → M → Prop} {rz : Bool} (hS : Pre f m) (ha100 : Sl f ca100 l) (ha200 : Fv_Rct_Bool f ca200 passes) (hp : peachR l passes = some rz) (hq : ∀ m', Ext m m' → Q (.c (.bool rz)) m') : Wc prog tbl 64 [.c ca100, .c ca200] m Q := by
 have z := hS.st
 obtain ⟨A, _⟩ : ∃ τ : Nat → Nat, True := ⟨fun _ => 0, trivial⟩
 refine w64 ?_
 unfold peachR at hp
 intro B h
 obtain ⟨i, j, u, n⟩ := z.blk h A 1
 obtain ⟨o, b, d, e⟩ := n.freeze j
 have g : Fv_Rct_Bool o ((C.fn (Fn.func 91) [] [(W.c (C0.ptr m.nxt 0))])) (fun a => peachR1 a passes) := by
  intro f' m' a r Q hs hpre  hg hq
  exact s_eachR1 hpre (e.sub hs) ((ha200.sub d.fs).sub hs) hg hq
 obtain ⟨x, q, hp⟩ := bsome hp
 refine s_containsR (l := l) (p := (fun a => peachR1 a passes)) b.pre (ha100.sub d.fs) g q fun D s => ?_
 obtain ⟨t, y⟩ := b.call s i
 refine ⟨_, rfl, ?_⟩
 obtain rfl := Option.some.inj hp
 exact hq _ t.ext'
theorem s_valid {w : Wk} {ca111 ca112 : C} {m f : M} {Q : V → M → Prop} {rz : Bool} (hS : Pre f m) (ha111 : Sl f ca111 w.s.Cards) (ha112 : Mi f ca112 w.right) (hp : pvalid w = some rz) (hq : ∀ m', Ext m m' → Q (.c (.bool rz)) m') : Wc prog tbl 41 [.agg 13 [(Il w.s.Wide), (Il w.s.High), (Il w.s.Fall), (Il w.s.A.Lo), (Il w.s.A.Hi), (Il w.s.B.Lo), (Il w.s.B.Hi), (Il w.s.Half.Lo), (Il w.s.Half.Hi), (Il w.s.Peak.Lo), (Il w.s.Peak.Hi), ca111, ca112]] m Q := by
 have S0 := hS.st
 obtain ⟨τ0, _⟩ : ∃ τ : Nat → Nat, True := ⟨fun _ => 0, trivial⟩
 refine w41 ?_
 unfold pvalid at hp
 intro m0 x
 obtain ⟨d, b, oa, a⟩ := S0.blk x τ0 1
 refine ⟨trivial, trivial, _, a.bk.rc rfl, ?_⟩
 refine ifd hp (fun y hp => ?_) fun y hp => ?_; rotate_left
 ·obtain rfl := Option.some.inj hp
  exact hq _ b.ext'
 refine ⟨trivial, trivial, _, a.bk.rc rfl, ?_⟩
 refine ifd hp (fun z hp => ?_) fun z hp => ?_; rotate_left
 ·obtain rfl := Option.some.inj hp
  exact hq _ b.ext'
 refine ⟨trivial, trivial, _, a.bk.rc rfl, ?_⟩
 refine ifd hp (fun D hp => ?_) fun D hp => ?_; rotate_left
 ·obtain rfl := Option.some.inj hp
  exact hq _ b.ext'
 refine ⟨trivial, trivial, _, a.bk.rc rfl, ?_⟩
 refine ifd hp (fun F hp => ?_) fun F hp => ?_; rotate_left
 ·obtain rfl := Option.some.inj hp
  exact hq _ b.ext'
 refine ⟨trivial, trivial, _, _, a.bk.rp (k := 3) (j := 2) rfl (by omega), trivial, trivial, _, a.bk.rc rfl, ?_⟩
 refine gdi hp fun G hp => ?_
 obtain ⟨pa, I, hp⟩ := bsome hp
 refine s_within (r := w.s.A) (low := (0 : Int)) (high := (w.s.High - (1 : Int))) b.pre  I fun m9 J => ?_
 obtain ⟨g, N⟩ := b.call J d
 have h := a.k N
 refine ⟨_, rfl, ?_⟩
 refine ifbb hp (fun O hp => ?_) fun O hp => ?_; rotate_left
 ·obtain rfl := Option.some.inj hp
  exact hq _ g.ext'
 refine ⟨trivial, trivial, _, _, h.bk.rp (k := 5) (j := 2) rfl (by omega), trivial, trivial, _, h.bk.rc rfl, ?_⟩
 refine gdi hp fun P hp => ?_
 obtain ⟨qa, S, hp⟩ := bsome hp
 refine s_within (r := w.s.B) (low := (0 : Int)) (high := (w.s.High - (1 : Int))) g.pre  S fun ya T => ?_
 obtain ⟨i, Y⟩ := g.call T d
 have p := h.k Y
 refine ⟨_, rfl, ?_⟩
 refine ifbb hp (fun Z hp => ?_) fun Z hp => ?_; rotate_left
 ·obtain rfl := Option.some.inj hp
  exact hq _ i.ext'
 refine ⟨trivial, trivial, _, _, p.bk.rp (k := 7) (j := 2) rfl (by omega), ?_⟩
 obtain ⟨sa, aa, hp⟩ := bsome hp
 refine s_within (r := w.s.Half) (low := (0 : Int)) (high := (3 : Int)) i.pre  aa fun za ba => ?_
 obtain ⟨n, ca⟩ := i.call ba d
 have q := p.k ca
 refine ⟨_, rfl, ?_⟩
 refine ifbb hp (fun da hp => ?_) fun da hp => ?_; rotate_left
 ·obtain rfl := Option.some.inj hp
  exact hq _ n.ext'
 refine ⟨trivial, trivial, _, _, q.bk.rp (k := 9) (j := 2) rfl (by omega), ?_⟩
 obtain ⟨ta, ea, hp⟩ := bsome hp
 refine s_within (r := w.s.Peak) (low := (1 : Int)) (high := (9 : Int)) n.pre  ea fun Aa fa => ?_
 obtain ⟨o, ga⟩ := n.call fa d
 have t := q.k ga
 refine ⟨_, rfl, ?_⟩
 refine ifbb hp (fun ha hp => ?_) fun ha hp => ?_; rotate_left
 ·obtain rfl := Option.some.inj hp
  exact hq _ o.ext'
 refine ⟨trivial, trivial, _, t.bk.rc rfl, _, _, _, _, _, _, _, _, _, _, _, _, _, t.bk.ra, ?_⟩
 obtain ⟨la, ma, na⟩ : ∃ ws, mapO vW [.agg 13 [(Il w.s.Wide), (Il w.s.High), (Il w.s.Fall), (Il w.s.A.Lo), (Il w.s.A.Hi), (Il w.s.B.Lo), (Il w.s.B.Hi), (Il w.s.Half.Lo), (Il w.s.Half.Hi), (Il w.s.Peak.Lo), (Il w.s.Peak.Hi), ca111, ca112]] = some ws ∧ mapS wV ws = [.agg 13 [(Il w.s.Wide), (Il w.s.High), (Il w.s.Fall), (Il w.s.A.Lo), (Il w.s.A.Hi), (Il w.s.B.Lo), (Il w.s.B.Hi), (Il w.s.Half.Lo), (Il w.s.Half.Hi), (Il w.s.Peak.Lo), (Il w.s.Peak.Hi), ca111, ca112]] := (vWs_cons (vW_agg (nf_cons rfl (nf_cons rfl (nf_cons rfl (nf_cons rfl (nf_cons rfl (nf_cons rfl (nf_cons rfl (nf_cons rfl (nf_cons rfl (nf_cons rfl (nf_cons rfl (nf_cons ha111.noFn (nf_cons ha112.noFn nf_nil)))))))))))))) vWs_nil)
 rw [ma, optB_some]
 have u : Fv_Crd_Bool f ((C.fn (Fn.func 73) la [])) (fun e => pvalidCard w e) := by
  intro f' m' e r Q hs hpre  hg hq
  show Wc prog tbl 73 (appS (mapS wV la) _) m' Q
  rw [na]
  exact s_validCard hpre (ha111.sub hs) (ha112.sub hs) hg hq
 obtain ⟨ua, ia, hp⟩ := bsome hp
 refine s_eachC (l := w.s.Cards) (passes := (fun e => pvalidCard w e)) o.pre ha111 u ia fun Ba ja => ?_
 obtain ⟨ka, va⟩ := o.call ja d
 refine ⟨_, rfl, ?_⟩
 obtain rfl := Option.some.inj hp
 exact hq _ ka.ext'
theorem s_inAll {s : Stm} {ca111 : C} {m f : M} {Q : V → M → Prop} {rz : Int} (hS : Pre f m) (_ha111 : Sl f ca111 s.Cards) (hp : pinAll s = some rz) (hq : ∀ m', Ext m m' → Q (.c (Il rz)) m') : Wc prog tbl 42 [.agg 12 [(Il s.Wide), (Il s.High), (Il s.Fall), (Il s.A.Lo), (Il s.A.Hi), (Il s.B.Lo), (Il s.B.Hi), (Il s.Half.Lo), (Il s.Half.Hi), (Il s.Peak.Lo), (Il s.Peak.Hi), ca111]] m Q := by
 have S0 := hS.st
 obtain ⟨τ0, _⟩ : ∃ τ : Nat → Nat, True := ⟨fun _ => 0, trivial⟩
 refine w42 ?_
 unfold pinAll at hp
 intro m0 n
 obtain ⟨b, g, ca, a⟩ := S0.blk n τ0 1
 refine ⟨trivial, _, _, a.bk.rp (k := 3) (j := 2) rfl (by omega), ?_⟩
 obtain ⟨da, o, hp⟩ := bsome hp
 refine s_count (r := s.A) g.pre  o fun m4 p => ?_
 obtain ⟨h, q⟩ := g.call p b
 have d := a.k q
 refine ⟨_, rfl, trivial, _, _, d.bk.rp (k := 5) (j := 2) rfl (by omega), (a.bk.rp (k := 5) (j := 2) rfl (by omega)), ?_⟩
 obtain ⟨ea, t, hp⟩ := bsome hp
 refine s_count (r := s.B) h.pre  t fun m9 u => ?_
 obtain ⟨i, x⟩ := h.call u b
 have e := d.k x
 refine ⟨_, rfl, ?_⟩
 refine gdi hp fun y hp => ?_
 refine gdi hp fun z hp => ?_
 obtain ⟨D, hp⟩ := gd_some hp
 refine ⟨D, trivial, _, _, e.bk.rp (k := 7) (j := 2) rfl (by omega), (d.bk.rp (k := 7) (j := 2) rfl (by omega)), (a.bk.rp (k := 7) (j := 2) rfl (by omega)), ?_⟩
 obtain ⟨fa, F, hp⟩ := bsome hp
 refine s_count (r := s.Half) i.pre  F fun ka G => ?_
 obtain ⟨l, I⟩ := i.call G b
 have J := e.k I
 refine ⟨_, rfl, ?_⟩
 refine gdi hp fun N hp => ?_
 refine gdi hp fun O hp => ?_
 obtain ⟨P, hp⟩ := gd_some hp
 refine ⟨P, trivial, _, _, J.bk.rp (k := 9) (j := 2) rfl (by omega), (e.bk.rp (k := 9) (j := 2) rfl (by omega)), (d.bk.rp (k := 9) (j := 2) rfl (by omega)), (a.bk.rp (k := 9) (j := 2) rfl (by omega)), ?_⟩
 obtain ⟨ga, S, hp⟩ := bsome hp
 refine s_count (r := s.Peak) l.pre  S fun la T => ?_
 obtain ⟨Y, ha⟩ := l.call T b
 refine ⟨_, rfl, ?_⟩
 refine gdi hp fun Z hp => ?_
 refine gdi hp fun aa hp => ?_
 refine gdi hp fun ba hp => ?_
 obtain rfl := Option.some.inj hp
 exact hq _ Y.ext'
theorem s_isChoice {s : Stm} {t : Trh} {ca111 : C} {m f : M} {Q : V → M → Prop} {rz : Bool} (hS : Pre f m) (_ha111 : Sl f ca111 s.Cards) (hp : pisChoice s t = some rz) (hq : ∀ m', Ext m m' → Q (.c (.bool rz)) m') : Wc prog tbl 37 [.agg 12 [(Il s.Wide), (Il s.High), (Il s.Fall), (Il s.A.Lo), (Il s.A.Hi), (Il s.B.Lo), (Il s.B.Hi), (Il s.Half.Lo), (Il s.Half.Hi), (Il s.Peak.Lo), (Il s.Peak.Hi), ca111], .agg 4 [(Il t.A), (Il t.B), (Il t.Half), (Il t.Peak)]] m Q := by
 have S0 := hS.st
 obtain ⟨τ0, _⟩ : ∃ τ : Nat → Nat, True := ⟨fun _ => 0, trivial⟩
 refine w37 ?_
 unfold pisChoice at hp
 intro m0 z
 obtain ⟨D, F, ha, G⟩ := S0.blk z τ0 1
 intro m1 I
 obtain ⟨a, g, J, h⟩ := F.blk I D 2
 have i := G.k J
 refine ⟨trivial, _, _, i.bk.rp (k := 3) (j := 2) rfl (by omega), trivial, _, h.bk.rc rfl, ?_⟩
 obtain ⟨ia, N, hp⟩ := bsome hp
 refine s_has (r := s.A) (n := t.A) g.pre  N fun m6 O => ?_
 obtain ⟨b, l⟩ := g.call O a
 have o := i.k l
 have p := h.k l
 refine ⟨_, rfl, ?_⟩
 refine ifbb hp (fun P hp => ?_) fun P hp => ?_; rotate_left
 ·obtain rfl := Option.some.inj hp
  exact hq _ b.ext'
 refine ⟨trivial, _, _, o.bk.rp (k := 5) (j := 2) rfl (by omega), trivial, _, p.bk.rc rfl, ?_⟩
 obtain ⟨ja, S, hp⟩ := bsome hp
 refine s_has (r := s.B) (n := t.B) b.pre  S fun pa T => ?_
 obtain ⟨d, q⟩ := b.call T a
 have u := o.k q
 have x := p.k q
 refine ⟨_, rfl, ?_⟩
 refine ifbb hp (fun Y hp => ?_) fun Y hp => ?_; rotate_left
 ·obtain rfl := Option.some.inj hp
  exact hq _ d.ext'
 refine ⟨trivial, _, _, u.bk.rp (k := 7) (j := 2) rfl (by omega), trivial, _, x.bk.rc rfl, ?_⟩
 obtain ⟨ka, Z, hp⟩ := bsome hp
 refine s_has (r := s.Half) (n := t.Half) d.pre  Z fun qa aa => ?_
 obtain ⟨e, y⟩ := d.call aa a
 have ba := u.k y
 have ca := x.k y
 refine ⟨_, rfl, ?_⟩
 refine ifbb hp (fun da hp => ?_) fun da hp => ?_; rotate_left
 ·obtain rfl := Option.some.inj hp
  exact hq _ e.ext'
 refine ⟨trivial, _, _, ba.bk.rp (k := 9) (j := 2) rfl (by omega), trivial, _, ca.bk.rc rfl, ?_⟩
 obtain ⟨la, ea, hp⟩ := bsome hp
 refine s_has (r := s.Peak) (n := t.Peak) e.pre  ea fun sa fa => ?_
 obtain ⟨ga, ma⟩ := e.call fa a
 refine ⟨_, rfl, ?_⟩
 obtain rfl := Option.some.inj hp
 exact hq _ ga.ext'
theorem s_check {s : Stm} {ca111 : C} {m f : M} {Q : V → M → Prop} {rz : Int} (hS : Pre f m) (ha111 : Sl f ca111 s.Cards) (hp : pcheck s = some rz) (hq : ∀ m', Ext m m' → Q (.c (Il rz)) m') : Wc prog tbl 10 [.agg 12 [(Il s.Wide), (Il s.High), (Il s.Fall), (Il s.A.Lo), (Il s.A.Hi), (Il s.B.Lo), (Il s.B.Hi), (Il s.Half.Lo), (Il s.Half.Hi), (Il s.Peak.Lo), (Il s.Peak.Hi), ca111]] m Q := by
 have O := hS.st
 obtain ⟨P, _⟩ : ∃ τ : Nat → Nat, True := ⟨fun _ => 0, trivial⟩
 refine w10 ?_
 unfold pcheck at hp
 intro Z j
 obtain ⟨a, e, F, g⟩ := O.blk j P 1
 refine ⟨_, _, _, _, _, _, _, _, _, _, _, _, g.bk.ra, ?_⟩
 obtain ⟨G, l, hp⟩ := bsome hp
 refine s_tooMany (s := s) e.pre ha111 l fun S n => ?_
 obtain ⟨b, o⟩ := e.call n a
 have h := g.k o
 refine ⟨_, rfl, ?_⟩
 refine ifbb hp (fun p hp => ?_) fun p hp => ?_
 ·obtain rfl := Option.some.inj hp
  exact hq _ b.ext'
 refine ⟨_, _, _, _, _, _, _, _, _, _, _, _, h.bk.ra, ?_⟩
 obtain ⟨I, q, hp⟩ := bsome hp
 refine s_valid (w := ({ s := s, right := none } : Wk)) b.pre ha111 (show Mi _ .map0 none from rfl) q fun T r => ?_
 obtain ⟨d, t⟩ := b.call r a
 have u := h.k t
 refine ⟨_, rfl, ?_⟩
 refine ifnb hp (fun x hp => ?_) fun x hp => ?_
 ·obtain rfl := Option.some.inj hp
  exact hq _ d.ext'
 refine ⟨_, _, _, _, _, _, _, _, _, _, _, _, u.bk.ra, ?_⟩
 obtain ⟨J, y, hp⟩ := bsome hp
 refine s_inAll (s := s) d.pre ha111 y fun Y z => ?_
 obtain ⟨i, N⟩ := d.call z a
 refine ⟨_, rfl, ?_⟩
 refine ifd hp (fun D hp => ?_) fun D hp => ?_
 ·obtain rfl := Option.some.inj hp
  exact hq _ i.ext'
 obtain rfl := Option.some.inj hp
 exact hq _ i.ext'
theorem s_distance {s : Stm} {t : Trh} {x : Int} {y : Int} {ca111 : C} {m f : M} {Q : V → M → Prop} {rz : Int} (hS : Pre f m) (_ha111 : Sl f ca111 s.Cards) (hp : pdistance s t x y = some rz) (hq : ∀ m', Ext m m' → Q (.c (Il rz)) m') : Wc prog tbl 83 [.agg 12 [(Il s.Wide), (Il s.High), (Il s.Fall), (Il s.A.Lo), (Il s.A.Hi), (Il s.B.Lo), (Il s.B.Hi), (Il s.Half.Lo), (Il s.Half.Hi), (Il s.Peak.Lo), (Il s.Peak.Hi), ca111], .agg 4 [(Il t.A), (Il t.B), (Il t.Half), (Il t.Peak)], .c (Il x), .c (Il y)] m Q := by
 have T := hS.st
 obtain ⟨Y, _⟩ : ∃ τ : Nat → Nat, True := ⟨fun _ => 0, trivial⟩
 refine w83 ?_
 unfold pdistance at hp
 intro Z b
 obtain ⟨d, e, P, g⟩ := T.blk b Y 1
 intro m1 h
 obtain ⟨S, i, j, a⟩ := e.blk h d 2
 have l := g.k j
 refine ⟨trivial, _, l.bk.rc rfl, ?_⟩
 refine gdi hp fun n hp => ?_
 refine gdi hp fun o hp => ?_
 refine gdi hp fun p hp => ?_
 obtain ⟨q, hp⟩ := gd_some hp
 refine ⟨q, trivial, _, a.bk.rc rfl, ?_⟩
 refine gdi hp fun r hp => ?_
 refine gdi hp fun u hp => ?_
 refine gdi hp fun z hp => ?_
 obtain ⟨D, hp⟩ := gd_some hp
 refine ⟨D, trivial, _, a.bk.rc rfl, ?_⟩
 refine gdi hp fun F hp => ?_
 refine gdi hp fun G hp => ?_
 refine gdi hp fun I hp => ?_
 refine gdi hp fun J hp => ?_
 refine gdi hp fun N hp => ?_
 refine gdi hp fun O hp => ?_
 obtain rfl := Option.some.inj hp
 exact hq _ i.ext'
theorem s_hits {s : Stm} {t : Trh} {x : Int} {y : Int} {ca111 : C} {m f : M} {Q : V → M → Prop} {rz : Bool} (hS : Pre f m) (ha111 : Sl f ca111 s.Cards) (hp : phits s t x y = some rz) (hq : ∀ m', Ext m m' → Q (.c (.bool rz)) m') : Wc prog tbl 82 [.agg 12 [(Il s.Wide), (Il s.High), (Il s.Fall), (Il s.A.Lo), (Il s.A.Hi), (Il s.B.Lo), (Il s.B.Hi), (Il s.Half.Lo), (Il s.Half.Hi), (Il s.Peak.Lo), (Il s.Peak.Hi), ca111], .agg 4 [(Il t.A), (Il t.B), (Il t.Half), (Il t.Peak)], .c (Il x), .c (Il y)] m Q := by
 have O := hS.st
 obtain ⟨P, _⟩ : ∃ τ : Nat → Nat, True := ⟨fun _ => 0, trivial⟩
 refine w82 ?_
 unfold phits at hp
 intro T g
 obtain ⟨h, i, J, j⟩ := O.blk g P 1
 intro Y l
 obtain ⟨n, d, o, a⟩ := i.blk l h 2
 have b := j.k o
 refine ⟨_, _, _, _, _, _, _, _, _, _, _, _, b.bk.ra, _, _, _, _, a.bk.ra, ?_⟩
 obtain ⟨N, p, hp⟩ := bsome hp
 refine s_distance (s := s) (t := t) (x := x) (y := y) d.pre ha111 p fun S q => ?_
 obtain ⟨r, e⟩ := d.call q n
 have u := b.k e
 have z := a.k e
 refine ⟨_, rfl, trivial, _, u.bk.rc rfl, (b.bk.rc rfl), ?_⟩
 obtain ⟨D, hp⟩ := gd_some hp
 refine ⟨D, trivial, _, z.bk.rc rfl, (a.bk.rc rfl), ?_⟩
 refine gdi hp fun F hp => ?_
 refine gdi hp fun G hp => ?_
 refine gdi hp fun I hp => ?_
 obtain rfl := Option.some.inj hp
 exact hq _ r.ext'
theorem s_size {s : Stm} {t : Trh} {x : Int} {y : Int} {ca111 : C} {m f : M} {Q : V → M → Prop} {rz : Int} (hS : Pre f m) (ha111 : Sl f ca111 s.Cards) (hp : psize s t x y = some rz) (hq : ∀ m', Ext m m' → Q (.c (Il rz)) m') : Wc prog tbl 53 [.agg 12 [(Il s.Wide), (Il s.High), (Il s.Fall), (Il s.A.Lo), (Il s.A.Hi), (Il s.B.Lo), (Il s.B.Hi), (Il s.Half.Lo), (Il s.Half.Hi), (Il s.Peak.Lo), (Il s.Peak.Hi), ca111], .agg 4 [(Il t.A), (Il t.B), (Il t.Half), (Il t.Peak)], .c (Il x), .c (Il y)] m Q := by
 have S0 := hS.st
 obtain ⟨τ0, _⟩ : ∃ τ : Nat → Nat, True := ⟨fun _ => 0, trivial⟩
 refine w53 ?_
 unfold psize at hp
 intro m0 o
 obtain ⟨p, q, da, r⟩ := S0.blk o τ0 1
 intro m1 u
 obtain ⟨e, g, z, h⟩ := q.blk u p 2
 have i := r.k z
 refine ⟨_, _, _, _, _, _, _, _, _, _, _, _, i.bk.ra, _, _, _, _, h.bk.ra, ?_⟩
 obtain ⟨ea, D, hp⟩ := bsome hp
 refine s_hits (s := s) (t := t) (x := x) (y := y) g.pre ha111 D fun ia F => ?_
 obtain ⟨b, j⟩ := g.call F e
 have a := i.k j
 have d := h.k j
 refine ⟨_, rfl, ?_⟩
 refine ifnb hp (fun G hp => ?_) fun G hp => ?_
 ·obtain rfl := Option.some.inj hp
  exact hq _ b.ext'
 refine ⟨trivial, _, d.bk.rc rfl, trivial, _, a.bk.rc rfl, _, _, _, _, _, _, _, _, _, _, _, _, a.bk.ra, _, _, _, _, d.bk.ra, ?_⟩
 obtain ⟨fa, I, hp⟩ := bsome hp
 refine s_distance (s := s) (t := t) (x := x) (y := y) b.pre ha111 I fun ja J => ?_
 obtain ⟨N, l⟩ := b.call J e
 have n := a.k l
 have O := d.k l
 refine ⟨_, rfl, (n.bk.rc rfl), (O.bk.rc rfl), trivial, _, n.bk.rc rfl, (a.bk.rc rfl), ?_⟩
 refine gdi hp fun P hp => ?_
 refine gdi hp fun S hp => ?_
 refine gdi hp fun T hp => ?_
 refine gdi hp fun Y hp => ?_
 refine gdi hp fun Z hp => ?_
 refine gdi hp fun aa hp => ?_
 refine gdi hp fun ba hp => ?_
 refine gdi hp fun ca hp => ?_
 obtain rfl := Option.some.inj hp
 exact hq _ N.ext'
theorem s_numbersI {r : Rg} {b0 : Nat} {m f : M} {F : Fm} {n0 ly : Nat} {xs : List (List V)} {I : Nat → (Nat → Prop) → M → Prop} {E : (Nat → Prop) → M → Prop} {S1 : Nat → Prop} {Q : V → M → Prop} {rz : List Int} {τ0 : Nat → Nat} (hc : Client prog tbl n0 ly xs I E) (S0 : St F f f m) (Y0 : Yg n0 (YJ xs I rz) S1 F f τ0 m) (hb0 : Bk f b0 2 [(.int .i64 r.Lo), (.int .i64 r.Hi)]) (hp : pnumbersI r = some rz) (hq : ∀ v m' f' τ' S', St F f f' m' → (Yg n0 (YJ xs I ([] : List Int)) S' F f' τ' m' ∨ Yg n0 E S' F f' τ' m') → Q v m') : Wc prog tbl 100 [.c (.fn (.yield ly) [] []), .c (.ptr b0 0)] m Q := by
 refine c100 ?_
 unfold pnumbersI at hp
 refine ⟨_, _, (hb0.sub S0.sub).ra, ?_⟩
 obtain ⟨r1654, g1655, hp⟩ := bsome hp
 refine s_count (r := r) S0.pre  g1655 fun m3 e1658 => ?_
 obtain ⟨S1656, k1657⟩ := S0.call e1658 τ0
 have Y1659 := Y0.k k1657 (by decide)
 refine ⟨_, rfl, ?_⟩
 intro R5 hR5
 have hgo : ∀ (d1665 : Nat) (x6 : Int) (r1662 : List Int) (s1663 : Nat → Prop) (m7 : M) (τ1661 : Nat → Nat), St F f f m7 → Yg n0 (YJ xs I r1662) s1663 F f τ1661 m7 → pnumbersI_L0 r r1654 d1665 x6 = some r1662 → R5 [.c (.int .i64 x6)] m7 := by
  intro d1665
  induction d1665 with
  | zero => intro x6 r1662 s1663 m7 τ1661 S1660 Y1664 hp; cases hp
  | succ d1665 ihR5 =>
   intro x6 r1662 s1663 m7 τ1661 S1660 Y1664 hp
   refine hR5 _ _ ?_
   rw [pnumbersI_L0] at hp
   refine ifd hp (fun q1666 hp => ?_) fun q1666 hp => ?_; rotate_left
   ·obtain rfl := Option.some.inj hp
    exact hq _ _ _ _ _ S1660 (.inl Y1664)
   refine ⟨trivial, _, (hb0.sub S1660.sub).rc rfl, ?_⟩
   obtain ⟨g1667, hp⟩ := gd_some hp
   refine ⟨g1667, ?_⟩
   obtain ⟨r1668, hp1670, hz1669⟩ := bsome hp
   clear hp
   obtain rfl := Option.some.inj hz1669
   have hp := hp1670
   show Wy prog tbl ly (IV.encs ((r.Lo + x6) : Int)) _ _
   refine Yg.yield hc S1660 Y1664 ?_ ?_
   ·intro m10 τ1671 s1675 S1672 k1673 Y1674
    refine ⟨_, rfl, ?_⟩
    refine ifB_f' ?_
    obtain ⟨g1676, hp⟩ := gd_some hp
    refine ⟨g1676, ?_⟩
    exact ihR5 _ _ _ _ τ1671 S1672 Y1674 hp
   ·intro m10 τ1677 s1681 S1678 k1679 Y1680
    refine ⟨_, rfl, ?_⟩
    refine ifB_t' ?_
    exact hq _ _ _ _ _ S1678 (.inr Y1680)
 exact hgo _ _ _ _ _ τ0 S1656 Y1659 hp
theorem s_numbers {r : Rg} {m f : M} {Q : V → M → Prop} {rz : List Int} (hS : Pre f m)  (hp : pnumbers r = some rz) (hq : ∀ m' f' c0, Grw m f m' f' → It prog tbl f' c0 rz → Q (.c c0) m') : Wc prog tbl 89 [.agg 2 [(Il r.Lo), (Il r.Hi)]] m Q := by
 have q := hS.st
 obtain ⟨s, _⟩ : ∃ τ : Nat → Nat, True := ⟨fun _ => 0, trivial⟩
 refine w89 ?_
 unfold pnumbers at hp
 intro t g
 obtain ⟨n, h, o, i⟩ := q.blk g s 1
 obtain ⟨b, a, p, d⟩ := i.freeze h
 obtain ⟨j, l, hp⟩ := bsome hp
 have e : It prog tbl b ((C.fn (Fn.func 100) [] [(W.c (C0.ptr m.nxt 0))])) j := it_of a.fz a.fv fun u ly I E hc x y z A hS hY Q hq => s_numbersI hc hS hY d l hq
 obtain rfl := Option.some.inj hp
 exact hq _ b (C.fn (Fn.func 100) [] [(W.c (C0.ptr m.nxt 0))]) a.grw e
theorem s_placesI {r : Rct} {b0 : Nat} {m f : M} {F : Fm} {n0 ly : Nat} {xs : List (List V)} {I : Nat → (Nat → Prop) → M → Prop} {E : (Nat → Prop) → M → Prop} {S1 : Nat → Prop} {Q : V → M → Prop} {rz : List (Int × Int)} {τ0 : Nat → Nat} (hc : Client prog tbl n0 ly xs I E) (S0 : St F f f m) (Y0 : Yg n0 (YJ xs I rz) S1 F f τ0 m) (hb0 : Bk f b0 4 [(.int .i64 r.X.Lo), (.int .i64 r.X.Hi), (.int .i64 r.Y.Lo), (.int .i64 r.Y.Hi)]) (hp : pplacesI r = some rz) (hq : ∀ v m' f' τ' S', St F f f' m' → (Yg n0 (YJ xs I ([] : List (Int × Int))) S' F f' τ' m' ∨ Yg n0 E S' F f' τ' m') → Q v m') : Wc prog tbl 88 [.c (.fn (.yield ly) [] []), .c (.ptr b0 0)] m Q := by
 refine c88 ?_
 unfold pplacesI at hp
 intro m0 e1694
 obtain ⟨τ1697, S1695, k1696, L1698⟩ := S0.blk e1694 τ0 1
 have Y1699 := Y0.k k1696 (by decide)
 refine ⟨trivial, _, _, (hb0.sub S1695.sub).rp (k := 0) (j := 2) rfl (by omega), ?_⟩
 obtain ⟨r1700, g1701, hp⟩ := bsome hp
 refine s_numbers (r := r.X) S1695.pre  g1701 fun m4 f1705 c1706 e1704 h1707 => ?_
 obtain ⟨S1702, k1703⟩ := S1695.callG e1704 τ1697
 have L1708 := L1698.k k1703 (by decide)
 have Y1709 := Y1699.k k1703 (by decide)
 refine ⟨_, rfl, ?_⟩
 refine range_st (α := Int) S1702 h1707 (σ := (List (Int × Int)) × (Nat → Prop) × Bool) 2 (fun st bb => (False ∨ (st.2.1 bb))) (fun st gG gF gT gM => (Lb gG gF gT gM 1 m.nxt 1 [(.fn (.yield ly) [] [])]) ∧ (Yg n0 (YD xs I E st.2.2 st.1) st.2.1 gG gF gT gM)) (fun rr_ st => st.2.2 = false ∧ pplacesI_L0 r rr_ = some st.1) (fun ex st => (match ex with | .ret => st.2.2 = true ∨ (st.2.2 = false ∧ (0 : Nat) = 0 ∧ pplacesI_L0_xret = some st.1) | _ => False)) (fun st => (Gud.and (Gud.lb L1708.bk.lt (by decide)) (Gud.yg Y1709.n (by decide)))) (st0 := (rz, S1, false)) (τ := τ1697) ⟨L1708, Y1709⟩ ⟨rfl, hp⟩ ?_ ?_ ?_ ?_
 ·intro a1719 q1720 st f1721 τ1722 m7 F1723 o1724 Ok1725 en1726 Kn1727 S1728 s1729 hA rk1730 hp he1731 hk1732
  obtain ⟨r1711, s1712, d1713⟩ := st
  obtain ⟨hdd, hp⟩ := hp
  replace hdd : d1713 = false := hdd
  subst hdd
  obtain ⟨L1710, Y1714⟩ := hA
  replace L1710 : Lb F1723 f1721 τ1722 m7 1 m.nxt 1 [(.fn (.yield ly) [] [])] := L1710
  replace Y1714 : Yg n0 (YJ xs I r1711) s1712 F1723 f1721 τ1722 m7 := Y1714
  replace hp : pplacesI_L0 r (a1719 :: q1720) = some r1711 := hp
  rw [pplacesI_L0] at hp
  refine ⟨_, rfl, ?_⟩
  intro m11 e1733
  obtain ⟨τ1736, S1734, k1735, L1737⟩ := S1728.blk e1733 τ1722 3
  have L1738 := L1710.k k1735 (by decide)
  have Y1739 := Y1714.k k1735 (by decide)
  have rk1740 := rk1730.k k1735 (by decide)
  obtain ⟨m1744, e1743, S1741, k1742, L1745⟩ := L1737.sto S1734 [(.int .i64 a1719)]
  have L1746 := L1738.k k1742 (by decide)
  have Y1747 := Y1739.k k1742 (by decide)
  have rk1748 := rk1740.k k1742 (by decide)
  refine ⟨m1744, e1743, ?_⟩
  refine he1731 _ _ _ _ S1741 rk1748 fun m13 o1752 S1749 k1750 rk1751 hO1753 => ?_
  have L1754 := L1746.k k1750 (by decide)
  have L1755 := L1745.k k1750 (by decide)
  have Y1756 := Y1747.k k1750 (by decide)
  refine ⟨trivial, _, _, (hb0.sub (Sub.trans (Sub.trans k1703.fs s1729) S1749.sub)).rp (k := 2) (j := 2) rfl (by omega), ?_⟩
  obtain ⟨r1757, g1758, hp⟩ := bsome hp
  refine s_numbers (r := r.Y) S1749.pre  g1758 fun m17 f1762 c1763 e1761 h1764 => ?_
  obtain ⟨S1759, k1760⟩ := S1749.callG e1761 τ1736
  have L1765 := L1754.k k1760 (by decide)
  have L1766 := L1755.k k1760 (by decide)
  have Y1767 := Y1756.k k1760 (by decide)
  have rk1768 := rk1751.k k1760 (by decide)
  refine ⟨_, rfl, ?_⟩
  refine range_st (α := Int) S1759 h1764 (σ := (List (Int × Int)) × (Nat → Prop) × Bool) 4 (fun st bb => (False ∨ (False ∨ ((st.2.1 bb) ∨ False)))) (fun st gG gF gT gM => (Lb gG gF gT gM 1 m.nxt 1 [(.fn (.yield ly) [] [])]) ∧ (Lb gG gF gT gM 3 m7.nxt 1 [(.int .i64 a1719)]) ∧ (Yg n0 (YD xs I E st.2.2 st.1) st.2.1 gG gF gT gM) ∧ (Rk gG gF gT gM 2 (m4).nxt o1752)) (fun rr_ st => st.2.2 = false ∧ pplacesI_L1 a1719 ((pplacesI_L0 r q1720)) rr_ = some st.1) (fun ex st => (match ex with | .ret => st.2.2 = true ∨ (st.2.2 = false ∧ (0 : Nat) = 0 ∧ pplacesI_L1_xret = some st.1) | _ => False)) (fun st => (Gud.and (Gud.lb L1765.bk.lt (by decide)) (Gud.and (Gud.lb L1766.bk.lt (by decide)) (Gud.and (Gud.yg Y1767.n (by decide)) (Gud.rk rk1768.lt (by decide)))))) (st0 := (r1711, s1712, false)) (τ := τ1736) ⟨L1765, L1766, Y1767, rk1768⟩ ⟨rfl, hp⟩ ?_ ?_ ?_ ?_
  ·intro a1780 q1781 st f1782 τ1783 m20 F1784 o1785 Ok1786 en1787 Kn1788 S1789 s1790 hA rk1791 hp he1792 hk1793
   obtain ⟨r1771, s1772, d1773⟩ := st
   obtain ⟨hdd, hp⟩ := hp
   replace hdd : d1773 = false := hdd
   subst hdd
   obtain ⟨L1769, L1770, Y1774, rk1775⟩ := hA
   replace L1769 : Lb F1784 f1782 τ1783 m20 1 m.nxt 1 [(.fn (.yield ly) [] [])] := L1769
   replace L1770 : Lb F1784 f1782 τ1783 m20 3 m7.nxt 1 [(.int .i64 a1719)] := L1770
   replace Y1774 : Yg n0 (YJ xs I r1771) s1772 F1784 f1782 τ1783 m20 := Y1774
   replace rk1775 : Rk F1784 f1782 τ1783 m20 2 (m4).nxt o1752 := rk1775
   replace hp : pplacesI_L1 a1719 ((pplacesI_L0 r q1720)) (a1780 :: q1781) = some r1771 := hp
   rw [pplacesI_L1] at hp
   refine ⟨_, rfl, ?_⟩
   refine he1792 _ _ _ _ S1789 rk1791 fun m24 o1797 S1794 k1795 rk1796 hO1798 => ?_
   have L1799 := L1769.k k1795 (by decide)
   have L1800 := L1770.k k1795 (by decide)
   have Y1801 := Y1774.k k1795 (by decide)
   have rk1802 := rk1775.k k1795 (by decide)
   refine ⟨_, L1799.bk.rc rfl, _, L1800.bk.rc rfl, ?_⟩
   obtain ⟨r1803, hp1805, hz1804⟩ := bsome hp
   clear hp
   obtain rfl := Option.some.inj hz1804
   have hp := hp1805
   show Wy prog tbl ly (IV.encs ((a1719, a1780) : Int × Int)) _ _
   refine Yg.yield hc S1794 Y1801 ?_ ?_
   ·intro m28 τ1806 s1810 S1807 k1808 Y1809
    have L1811 := L1799.k k1808 (by decide)
    have L1812 := L1800.k k1808 (by decide)
    have rk1813 := rk1796.k k1808 (by decide)
    have rk1814 := rk1802.k k1808 (by decide)
    refine ⟨_, rfl, ?_⟩
    refine ifB_f' ?_
    exact hk1793 .nrm (r1803, s1810, false) _ _ _ _ S1807 ⟨L1811, L1812, Y1809, rk1814⟩ rk1813 hO1798 ⟨rfl, hp⟩
   ·intro m28 τ1815 s1819 S1816 k1817 Y1818
    have L1820 := L1799.k k1817 (by decide)
    have L1821 := L1800.k k1817 (by decide)
    have rk1822 := rk1796.k k1817 (by decide)
    have rk1823 := rk1802.k k1817 (by decide)
    refine ⟨_, rfl, ?_⟩
    refine ifB_t' ?_
    exact hk1793 .ret ([], s1819, true) _ _ _ _ S1816 ⟨L1820, L1821, Y1818, rk1823⟩ rk1822 hO1798 (.inl rfl)
  ·intro st f1824 τ1826 m30 S1827 s1825 hA hp
   obtain ⟨r1771, s1772, d1773⟩ := st
   obtain ⟨hdd, hp⟩ := hp
   replace hdd : d1773 = false := hdd
   subst hdd
   replace hp : pplacesI_L1 a1719 ((pplacesI_L0 r q1720)) [] = some r1771 := hp
   obtain ⟨L1769, L1770, Y1774, rk1775⟩ := hA
   replace L1769 : Lb F1723 f1824 τ1826 m30 1 m.nxt 1 [(.fn (.yield ly) [] [])] := L1769
   replace L1770 : Lb F1723 f1824 τ1826 m30 3 m7.nxt 1 [(.int .i64 a1719)] := L1770
   replace Y1774 : Yg n0 (YJ xs I r1771) s1772 F1723 f1824 τ1826 m30 := Y1774
   replace rk1775 : Rk F1723 f1824 τ1826 m30 2 (m4).nxt o1752 := rk1775
   rw [pplacesI_L1] at hp
   exact hk1732 .nrm (r1771, s1772, false) _ _ _ _ S1827 ⟨L1769, Y1774⟩ rk1775 hO1753 ⟨rfl, hp⟩
  ·intro id st _ _ _ _ _ _ hn; first | exact hn.elim | (cases hn)
  ·intro st f1776 τ1778 m31 S1779 s1777 hA hn
   obtain ⟨r1771, s1772, d1773⟩ := st
   rcases hn with hd | ⟨hd, hid, hp⟩
   ·replace hd : d1773 = true := hd
    subst hd
    obtain ⟨L1769, L1770, Y1774, rk1775⟩ := hA
    replace L1769 : Lb F1723 f1776 τ1778 m31 1 m.nxt 1 [(.fn (.yield ly) [] [])] := L1769
    replace L1770 : Lb F1723 f1776 τ1778 m31 3 m7.nxt 1 [(.int .i64 a1719)] := L1770
    replace Y1774 : Yg n0 E s1772 F1723 f1776 τ1778 m31 := Y1774
    replace rk1775 : Rk F1723 f1776 τ1778 m31 2 (m4).nxt o1752 := rk1775
    exact hk1732 .ret ([], s1772, true) _ _ _ _ S1779 ⟨L1769, Y1774⟩ rk1775 hO1753 (.inl rfl)
   replace hd : d1773 = false := hd
   subst hd
   replace hp : pplacesI_L1_xret = some r1771 := hp
   unfold pplacesI_L1_xret at hp
   obtain ⟨L1769, L1770, Y1774, rk1775⟩ := hA
   replace L1769 : Lb F1723 f1776 τ1778 m31 1 m.nxt 1 [(.fn (.yield ly) [] [])] := L1769
   replace L1770 : Lb F1723 f1776 τ1778 m31 3 m7.nxt 1 [(.int .i64 a1719)] := L1770
   replace Y1774 : Yg n0 (YJ xs I r1771) s1772 F1723 f1776 τ1778 m31 := Y1774
   replace rk1775 : Rk F1723 f1776 τ1778 m31 2 (m4).nxt o1752 := rk1775
   exact hk1732 .ret (r1771, s1772, false) _ _ _ _ S1779 ⟨L1769, Y1774⟩ rk1775 hO1753 (.inr ⟨rfl, rfl, hp⟩)
 ·intro st f1828 τ1830 m32 S1831 s1829 hA hp
  obtain ⟨r1711, s1712, d1713⟩ := st
  obtain ⟨hdd, hp⟩ := hp
  replace hdd : d1713 = false := hdd
  subst hdd
  replace hp : pplacesI_L0 r [] = some r1711 := hp
  obtain ⟨L1710, Y1714⟩ := hA
  replace L1710 : Lb F f1828 τ1830 m32 1 m.nxt 1 [(.fn (.yield ly) [] [])] := L1710
  replace Y1714 : Yg n0 (YJ xs I r1711) s1712 F f1828 τ1830 m32 := Y1714
  rw [pplacesI_L0] at hp
  obtain rfl := Option.some.inj hp
  exact hq _ _ _ _ _ S1831 (.inl Y1714)
 ·intro id st _ _ _ _ _ _ hn; first | exact hn.elim | (cases hn)
 ·intro st f1715 τ1717 m33 S1718 s1716 hA hn
  obtain ⟨r1711, s1712, d1713⟩ := st
  rcases hn with hd | ⟨hd, hid, hp⟩
  ·replace hd : d1713 = true := hd
   subst hd
   obtain ⟨L1710, Y1714⟩ := hA
   replace L1710 : Lb F f1715 τ1717 m33 1 m.nxt 1 [(.fn (.yield ly) [] [])] := L1710
   replace Y1714 : Yg n0 E s1712 F f1715 τ1717 m33 := Y1714
   exact hq _ _ _ _ _ S1718 (.inr Y1714)
  replace hd : d1713 = false := hd
  subst hd
  replace hp : pplacesI_L0_xret = some r1711 := hp
  unfold pplacesI_L0_xret at hp
  obtain ⟨L1710, Y1714⟩ := hA
  replace L1710 : Lb F f1715 τ1717 m33 1 m.nxt 1 [(.fn (.yield ly) [] [])] := L1710
  replace Y1714 : Yg n0 (YJ xs I r1711) s1712 F f1715 τ1717 m33 := Y1714
  obtain rfl := Option.some.inj hp
  exact hq _ _ _ _ _ S1718 (.inl Y1714)
theorem s_places {r : Rct} {m f : M} {Q : V → M → Prop} {rz : List (Int × Int)} (hS : Pre f m)  (hp : pplaces r = some rz) (hq : ∀ m' f' c0, Grw m f m' f' → It prog tbl f' c0 rz → Q (.c c0) m') : Wc prog tbl 63 [.agg 4 [(Il r.X.Lo), (Il r.X.Hi), (Il r.Y.Lo), (Il r.Y.Hi)]] m Q := by
 have q := hS.st
 obtain ⟨s, _⟩ : ∃ τ : Nat → Nat, True := ⟨fun _ => 0, trivial⟩
 refine w63 ?_
 unfold pplaces at hp
 intro t g
 obtain ⟨n, h, o, i⟩ := q.blk g s 1
 obtain ⟨b, a, p, d⟩ := i.freeze h
 obtain ⟨j, l, hp⟩ := bsome hp
 have e : It prog tbl b ((C.fn (Fn.func 88) [] [(W.c (C0.ptr m.nxt 0))])) j := it_of a.fz a.fv fun u ly I E hc x y z A hS hY Q hq => s_placesI hc hS hY d l hq
 obtain rfl := Option.some.inj hp
 exact hq _ b (C.fn (Fn.func 88) [] [(W.c (C0.ptr m.nxt 0))]) a.grw e
theorem s_isRight {s : Stm} {c : Crd} {t : Trh} {ca111 : C} {m f : M} {Q : V → M → Prop} {rz : Bool} (hS : Pre f m) (ha111 : Sl f ca111 s.Cards) (hp : pisRight s c t = some rz) (hq : ∀ m', Ext m m' → Q (.c (.bool rz)) m') : Wc prog tbl 70 [.agg 12 [(Il s.Wide), (Il s.High), (Il s.Fall), (Il s.A.Lo), (Il s.A.Hi), (Il s.B.Lo), (Il s.B.Hi), (Il s.Half.Lo), (Il s.Half.Hi), (Il s.Peak.Lo), (Il s.Peak.Hi), ca111], .agg 7 [(Il c.X.Lo), (Il c.X.Hi), (Il c.Y.Lo), (Il c.Y.Hi), (.bool c.Hail), (Il c.Size.Lo), (Il c.Size.Hi)], .agg 4 [(Il t.A), (Il t.B), (Il t.Half), (Il t.Peak)]] m Q := by
 have S0 := hS.st
 obtain ⟨τ0, _⟩ : ∃ τ : Nat → Nat, True := ⟨fun _ => 0, trivial⟩
 refine w70 ?_
 unfold pisRight at hp
 intro m0 La
 obtain ⟨Ma, Na, ac, Oa⟩ := S0.blk La τ0 1
 intro m1 Qa
 obtain ⟨Ra, Sa, Ta, Ua⟩ := Na.blk Qa Ma 2
 have Va := Oa.k Ta
 intro m2 Xa
 obtain ⟨Ya, Za, ga, ab⟩ := Sa.blk Xa Ra 3
 have cb := Va.k ga
 have db := Ua.k ga
 intro m3 eb
 obtain ⟨Z, ha, aa, fb⟩ := Za.blk eb Ya 4
 have gb := cb.k aa
 have ia := db.k aa
 have hb := ab.k aa
 refine ⟨_, _, _, _, _, _, _, ia.bk.ra, ?_⟩
 obtain ⟨ib, jb, hp⟩ := bsome hp
 refine s_rect (c := c) ha.pre  jb fun oc kb => ?_
 obtain ⟨ja, u⟩ := ha.call kb Z
 have mb := gb.k u
 have nb := ia.k u
 have ob := hb.k u
 have pb := fb.k u
 refine ⟨_, _, _, _, rfl, ?_⟩
 obtain ⟨bc, qb, hp⟩ := bsome hp
 refine s_places (r := ib) ja.pre  qb fun pc cc dc rb sb => ?_
 obtain ⟨tb, i⟩ := ja.callG rb Z
 have ka := mb.k i
 have la := nb.k i
 have ma := ob.k i
 have na := pb.k i
 refine ⟨_, rfl, ?_⟩
 refine range_st (α := Int × Int) tb sb (σ := Bool) 5 (fun st bb => (False ∨ (False ∨ (False ∨ False)))) (fun st gG gF gT gM => (Lb gG gF gT gM 1 m.nxt 12 [(Il s.Wide), (Il s.High), (Il s.Fall), (Il s.A.Lo), (Il s.A.Hi), (Il s.B.Lo), (Il s.B.Hi), (Il s.Half.Lo), (Il s.Half.Hi), (Il s.Peak.Lo), (Il s.Peak.Hi), ca111]) ∧ (Lb gG gF gT gM 2 m0.nxt 7 [(Il c.X.Lo), (Il c.X.Hi), (Il c.Y.Lo), (Il c.Y.Hi), (.bool c.Hail), (Il c.Size.Lo), (Il c.Size.Hi)]) ∧ (Lb gG gF gT gM 3 m1.nxt 4 [(Il t.A), (Il t.B), (Il t.Half), (Il t.Peak)]) ∧ (Lb gG gF gT gM 4 m2.nxt 1 [(.bool st)])) (fun rr_ st => pisRight_L0 s c t rr_ st = some rz) (fun ex st => (match ex with | .ret => (0 : Nat) = 0 ∧ pisRight_L0_xret st = some rz | _ => False)) (fun st => (Gud.and (Gud.lb ka.bk.lt (by decide)) (Gud.and (Gud.lb la.bk.lt (by decide)) (Gud.and (Gud.lb ma.bk.lt (by decide)) (Gud.lb na.bk.lt (by decide)))))) (st0 := (false)) (τ := Z) ⟨ka, la, ma, na⟩ hp ?_ ?_ ?_ ?_
 ·intro l ub b z h oa D ec Xb Yb Zb vb pa hA Fa hp Ga S
  obtain ⟨d, e, g, a⟩ := hA
  replace d : Lb D z h oa 1 m.nxt 12 [(Il s.Wide), (Il s.High), (Il s.Fall), (Il s.A.Lo), (Il s.A.Hi), (Il s.B.Lo), (Il s.B.Hi), (Il s.Half.Lo), (Il s.Half.Hi), (Il s.Peak.Lo), (Il s.Peak.Hi), ca111] := d
  replace e : Lb D z h oa 2 m0.nxt 7 [(Il c.X.Lo), (Il c.X.Hi), (Il c.Y.Lo), (Il c.Y.Hi), (.bool c.Hail), (Il c.Size.Lo), (Il c.Size.Hi)] := e
  replace g : Lb D z h oa 3 m1.nxt 4 [(Il t.A), (Il t.B), (Il t.Half), (Il t.Peak)] := g
  replace a : Lb D z h oa 4 m2.nxt 1 [(.bool b)] := a
  replace hp : pisRight_L0 s c t (l :: ub) b = some rz := hp
  rw [pisRight_L0] at hp
  refine ⟨_, _, rfl, ?_⟩
  refine Ga _ _ _ _ vb Fa fun qc fc qa F Ha T => ?_
  have sa := d.k F
  have ta := e.k F
  have ua := g.k F
  have wb := a.k F
  refine ⟨_, _, _, _, _, _, _, _, _, _, _, _, sa.bk.ra, _, _, _, _, ua.bk.ra, ?_⟩
  obtain ⟨gc, xb, hp⟩ := bsome hp
  refine s_hits (s := s) (t := t) (x := l.1) (y := l.2) qa.pre (ha111.sub (Sub.trans i.fs pa)) xb fun sc yb => ?_
  obtain ⟨ba, o⟩ := qa.call yb h
  have ca := sa.k o
  have G := ta.k o
  have da := ua.k o
  have va := wb.k o
  have ea := Ha.k o
  refine ⟨_, rfl, trivial, _, G.bk.rc rfl, (ta.bk.rc rfl), ?_⟩
  refine ifbb hp (fun zb hp => ?_) fun zb hp => ?_; rotate_left
  ·exact S .nrm (b) _ _ _ _ ba ⟨ca, G, da, va⟩ ea T hp
  refine ⟨trivial, _, _, G.bk.rp (k := 5) (j := 2) rfl (by omega), _, _, _, _, _, _, _, _, _, _, _, _, ca.bk.ra, _, _, _, _, da.bk.ra, ?_⟩
  obtain ⟨Ab, Bb, hp⟩ := bsome hp
  refine s_size (s := s) (t := t) (x := l.1) (y := l.2) ba.pre (ha111.sub (Sub.trans i.fs pa)) Bb fun tc Cb => ?_
  obtain ⟨wa, p⟩ := ba.call Cb h
  have Db := ca.k p
  have xa := G.k p
  have Eb := da.k p
  have Fb := va.k p
  have Ia := ea.k p
  refine ⟨_, rfl, (xa.bk.rp (k := 5) (j := 2) rfl (by omega)), ?_⟩
  obtain ⟨hc, Gb, hp⟩ := bsome hp
  refine s_has (r := c.Size) (n := Ab) wa.pre  Gb fun uc Hb => ?_
  obtain ⟨ya, q⟩ := wa.call Hb h
  have za := Db.k q
  have Aa := xa.k q
  have Ba := Eb.k q
  have Ca := Fb.k q
  have fa := Ia.k q
  refine ⟨_, rfl, ?_⟩
  refine ifbb hp (fun Ib hp => ?_) fun Ib hp => ?_; rotate_left
  ·exact S .nrm (b) _ _ _ _ ya ⟨za, Aa, Ba, Ca⟩ fa T hp
  obtain ⟨Jb, Kb, Mb, I, Nb⟩ := Ca.sto ya [(.bool true)]
  have Ob := za.k I
  have Pb := Aa.k I
  have Qb := Ba.k I
  have Ja := fa.k I
  refine ⟨Jb, Kb, ?_⟩
  exact S .ret (true) _ _ _ _ Mb ⟨Ob, Pb, Qb, Nb⟩ Ja T ⟨rfl, hp⟩
 ·intro b J N Da Rb ic hA hp
  replace hp : pisRight_L0 s c t [] b = some rz := hp
  obtain ⟨d, e, g, a⟩ := hA
  replace d : Lb (Fm.of m) J N Da 1 m.nxt 12 [(Il s.Wide), (Il s.High), (Il s.Fall), (Il s.A.Lo), (Il s.A.Hi), (Il s.B.Lo), (Il s.B.Hi), (Il s.Half.Lo), (Il s.Half.Hi), (Il s.Peak.Lo), (Il s.Peak.Hi), ca111] := d
  replace e : Lb (Fm.of m) J N Da 2 m0.nxt 7 [(Il c.X.Lo), (Il c.X.Hi), (Il c.Y.Lo), (Il c.Y.Hi), (.bool c.Hail), (Il c.Size.Lo), (Il c.Size.Hi)] := e
  replace g : Lb (Fm.of m) J N Da 3 m1.nxt 4 [(Il t.A), (Il t.B), (Il t.Half), (Il t.Peak)] := g
  replace a : Lb (Fm.of m) J N Da 4 m2.nxt 1 [(.bool b)] := a
  rw [pisRight_L0] at hp
  obtain ⟨Sb, Tb, Ub, jc, Vb⟩ := a.sto Rb [(.bool false)]
  refine ⟨Sb, Tb, ?_⟩
  refine ⟨_, Vb.bk.rc rfl, ?_⟩
  obtain rfl := Option.some.inj hp
  exact hq _ Ub.ext'
 ·intro id st _ _ _ _ _ _ hn; first | exact hn.elim | (cases hn)
 ·intro b O P Ea Wb kc hA hn
  obtain ⟨hid, hp⟩ := hn
  replace hp : pisRight_L0_xret b = some rz := hp
  unfold pisRight_L0_xret at hp
  obtain ⟨d, e, g, a⟩ := hA
  replace d : Lb (Fm.of m) O P Ea 1 m.nxt 12 [(Il s.Wide), (Il s.High), (Il s.Fall), (Il s.A.Lo), (Il s.A.Hi), (Il s.B.Lo), (Il s.B.Hi), (Il s.Half.Lo), (Il s.Half.Hi), (Il s.Peak.Lo), (Il s.Peak.Hi), ca111] := d
  replace e : Lb (Fm.of m) O P Ea 2 m0.nxt 7 [(Il c.X.Lo), (Il c.X.Hi), (Il c.Y.Lo), (Il c.Y.Hi), (.bool c.Hail), (Il c.Size.Lo), (Il c.Size.Hi)] := e
  replace g : Lb (Fm.of m) O P Ea 3 m1.nxt 4 [(Il t.A), (Il t.B), (Il t.Half), (Il t.Peak)] := g
  replace a : Lb (Fm.of m) O P Ea 4 m2.nxt 1 [(.bool b)] := a
  refine ⟨_, a.bk.rc rfl, ?_⟩
  obtain rfl := Option.some.inj hp
  exact hq _ Wb.ext'
theorem s_upTo {last : Int} {m f : M} {Q : V → M → Prop} {rz : Cds} (hS : Pre f m)  (hp : pupTo last = some rz) (hq : ∀ m', Ext m m' → Q (.agg 6 [(.bool rz.c0), (.bool rz.c1), (.bool rz.c2), (.bool rz.c3), (.bool rz.c4), (.bool rz.c5)]) m') : Wc prog tbl 56 [.c (Il last)] m Q := by
 have S0 := hS.st
 obtain ⟨τ0, _⟩ : ∃ τ : Nat → Nat, True := ⟨fun _ => 0, trivial⟩
 refine w56 ?_
 unfold pupTo at hp
 intro m0 x
 obtain ⟨y, z, ga, A⟩ := S0.blk x τ0 1
 intro m1 B
 obtain ⟨D, F, G, i⟩ := z.blk B y 2
 have j := A.k G
 refine gdi hp fun I hp => ?_
 intro R2 fa
 have hgo : ∀ (o : Nat) (p : Int) (a : Bool) (b : Bool) (d : Bool) (e : Bool) (g : Bool) (h : Bool) (u : M) (n : Nat → Nat), St (Fm.of m) f f u → Lb (Fm.of m) f n u 1 m.nxt 6 [(.bool false), (.bool false), (.bool false), (.bool false), (.bool false), (.bool false)] → Lb (Fm.of m) f n u 2 m0.nxt 6 [(.bool a), (.bool b), (.bool d), (.bool e), (.bool g), (.bool h)] → pupTo_L0 last o a b d e g h p = some rz → R2 [.c (Il p)] u := by
  intro o
  induction o with
  | zero => intro p a b d e g h u n q j i hp; cases hp
  | succ o ea =>
   intro p a b d e g h u n q j i hp
   refine fa _ _ ?_
   rw [pupTo_L0] at hp
   refine ifd hp (fun J hp => ?_) fun J hp => ?_; rotate_left
   ·refine ⟨_, _, _, _, _, _, i.bk.ra, ?_⟩
    obtain ⟨N, O, P, ha, S⟩ := j.sto q [(.bool a), (.bool b), (.bool d), (.bool e), (.bool g), (.bool h)]
    refine ⟨N, O, ?_⟩
    refine ⟨_, _, _, _, _, _, S.bk.ra, ?_⟩
    obtain rfl := Option.some.inj hp
    exact hq _ P.ext'
   refine ⟨trivial, ?_⟩
   obtain ⟨T, hp⟩ := gd_some hp
   obtain ⟨n5, s, t⟩ := arr_no T
   refine ⟨n5, s, t, ?_⟩
   obtain ⟨Y, Z, aa, ba, r⟩ := i.sta q (pre := []) (post := []) (l := ([a, b, d, e, g, h] : List Bool)) (enc := C.bool) rfl rfl s t true
   replace r : Lb _ _ _ _ _ _ _ [(.bool (sti p 0 true a)), (.bool (sti p 1 true b)), (.bool (sti p 2 true d)), (.bool (sti p 3 true e)), (.bool (sti p 4 true g)), (.bool (sti p 5 true h))] := r
   have ca := j.k ba
   refine ⟨Y, Z, ?_⟩
   refine gdi hp fun da hp => ?_
   exact ea _ _ _ _ _ _ _ _ n aa ca r hp
 exact hgo _ _ _ _ _ _ _ _ _ D F j i hp
theorem s_among {c : Cds} {these : Cds} {m f : M} {Q : V → M → Prop} {rz : Cds} (hS : Pre f m)  (hp : pamong c these = some rz) (hq : ∀ m', Ext m m' → Q (.agg 6 [(.bool rz.c0), (.bool rz.c1), (.bool rz.c2), (.bool rz.c3), (.bool rz.c4), (.bool rz.c5)]) m') : Wc prog tbl 85 [.agg 6 [(.bool c.c0), (.bool c.c1), (.bool c.c2), (.bool c.c3), (.bool c.c4), (.bool c.c5)], .agg 6 [(.bool these.c0), (.bool these.c1), (.bool these.c2), (.bool these.c3), (.bool these.c4), (.bool these.c5)]] m Q := by
 have S0 := hS.st
 obtain ⟨τ0, _⟩ : ∃ τ : Nat → Nat, True := ⟨fun _ => 0, trivial⟩
 refine w85 ?_
 unfold pamong at hp
 intro m0 Y
 obtain ⟨Z, aa, Ja, ba⟩ := S0.blk Y τ0 1
 intro m1 ca
 obtain ⟨da, ea, fa, ga⟩ := aa.blk ca Z 2
 have ha := ba.k fa
 intro m2 ia
 obtain ⟨ja, ka, G, o⟩ := ea.blk ia da 3
 have p := ha.k G
 have i := ga.k G
 intro R3 Ga
 have hgo : ∀ (r : Nat) (q : Int) (a : Bool) (b : Bool) (d : Bool) (e : Bool) (g : Bool) (h : Bool) (F : M) (j : Nat → Nat), St (Fm.of m) f f F → Lb (Fm.of m) f j F 1 m.nxt 6 [(.bool c.c0), (.bool c.c1), (.bool c.c2), (.bool c.c3), (.bool c.c4), (.bool c.c5)] → Lb (Fm.of m) f j F 2 m0.nxt 6 [(.bool a), (.bool b), (.bool d), (.bool e), (.bool g), (.bool h)] → Lb (Fm.of m) f j F 3 m1.nxt 6 [(.bool false), (.bool false), (.bool false), (.bool false), (.bool false), (.bool false)] → pamong_L0 c r a b d e g h q = some rz → R3 [.c (Il q)] F := by
  intro r
  induction r with
  | zero => intro q a b d e g h F j s p i o hp; cases hp
  | succ r N =>
   intro q a b d e g h F j s p i o hp
   refine Ga _ _ ?_
   rw [pamong_L0] at hp
   refine ifd hp (fun la hp => ?_) fun la hp => ?_; rotate_left
   ·refine ⟨_, _, _, _, _, _, i.bk.ra, ?_⟩
    obtain ⟨ma, na, oa, Ka, pa⟩ := o.sto s [(.bool a), (.bool b), (.bool d), (.bool e), (.bool g), (.bool h)]
    refine ⟨ma, na, ?_⟩
    refine ⟨_, _, _, _, _, _, pa.bk.ra, ?_⟩
    obtain rfl := Option.some.inj hp
    exact hq _ oa.ext'
   refine ⟨trivial, ?_⟩
   obtain ⟨La, t, hp⟩ := bsome hp
   obtain ⟨n6, O, P, t⟩ := idx_some t
   refine ⟨n6, O, P, _, (i.bk.rc (arr_at (l := ([a, b, d, e, g, h] : List Bool)) (enc := C.bool) 0 rfl t)), ?_⟩
   refine ifbb hp (fun qa hp => ?_) fun qa hp => ?_; rotate_left
   ·refine ⟨trivial, ?_⟩
    obtain ⟨sa, hp⟩ := gd_some hp
    obtain ⟨Ha, z, A⟩ := arr_no sa
    refine ⟨Ha, z, A, ?_⟩
    obtain ⟨ta, ua, va, I, u⟩ := i.sta s (pre := []) (post := []) (l := ([a, b, d, e, g, h] : List Bool)) (enc := C.bool) rfl rfl z A false
    replace u : Lb _ _ _ _ _ _ _ [(.bool (sti q 0 false a)), (.bool (sti q 1 false b)), (.bool (sti q 2 false d)), (.bool (sti q 3 false e)), (.bool (sti q 4 false g)), (.bool (sti q 5 false h))] := u
    have wa := p.k I
    have xa := o.k I
    refine ⟨ta, ua, ?_⟩
    refine gdi hp fun ya hp => ?_
    exact N _ _ _ _ _ _ _ _ j va wa u xa hp
   refine ⟨trivial, ?_⟩
   obtain ⟨n, x, hp⟩ := bsome hp
   obtain ⟨n8, S, T, x⟩ := idx_some x
   refine ⟨n8, S, T, _, (p.bk.rc (arr_at (l := ([c.c0, c.c1, c.c2, c.c3, c.c4, c.c5] : List Bool)) (enc := C.bool) 0 rfl x)), trivial, ?_⟩
   obtain ⟨za, hp⟩ := gd_some hp
   obtain ⟨Ia, B, D⟩ := arr_no za
   refine ⟨Ia, B, D, ?_⟩
   obtain ⟨Aa, Ba, Ca, J, y⟩ := i.sta s (pre := []) (post := []) (l := ([a, b, d, e, g, h] : List Bool)) (enc := C.bool) rfl rfl B D n
   replace y : Lb _ _ _ _ _ _ _ [(.bool (sti q 0 n a)), (.bool (sti q 1 n b)), (.bool (sti q 2 n d)), (.bool (sti q 3 n e)), (.bool (sti q 4 n g)), (.bool (sti q 5 n h))] := y
   have Da := p.k J
   have Ea := o.k J
   refine ⟨Aa, Ba, ?_⟩
   refine gdi hp fun Fa hp => ?_
   exact N _ _ _ _ _ _ _ _ j Ca Da y Ea hp
 exact hgo _ _ _ _ _ _ _ _ _ ja ka p i o hp
theorem s_rightCards {w : Wk} {t : Trh} {ca111 ca112 : C} {m f : M} {Q : V → M → Prop} {rz : Cds} (hS : Pre f m) (ha111 : Sl f ca111 w.s.Cards) (_ha112 : Mi f ca112 w.right) (hp : prightCards w t = some rz) (hq : ∀ m', Ext m m' → Q (.agg 6 [(.bool rz.c0), (.bool rz.c1), (.bool rz.c2), (.bool rz.c3), (.bool rz.c4), (.bool rz.c5)]) m') : Wc prog tbl 38 [.agg 13 [(Il w.s.Wide), (Il w.s.High), (Il w.s.Fall), (Il w.s.A.Lo), (Il w.s.A.Hi), (Il w.s.B.Lo), (Il w.s.B.Hi), (Il w.s.Half.Lo), (Il w.s.Half.Hi), (Il w.s.Peak.Lo), (Il w.s.Peak.Hi), ca111, ca112], .agg 4 [(Il t.A), (Il t.B), (Il t.Half), (Il t.Peak)]] m Q := by
 have S0 := hS.st
 obtain ⟨τ0, _⟩ : ∃ τ : Nat → Nat, True := ⟨fun _ => 0, trivial⟩
 refine w38 ?_
 unfold prightCards at hp
 intro m0 ga
 obtain ⟨ha, ia, kb, ja⟩ := S0.blk ga τ0 1
 intro m1 ka
 obtain ⟨la, ma, na, oa⟩ := ia.blk ka ha 2
 have pa := ja.k na
 intro m2 qa
 obtain ⟨sa, ta, aa, ua⟩ := ma.blk qa la 3
 have va := pa.k aa
 have wa := oa.k aa
 intro m3 xa
 obtain ⟨ya, za, I, p⟩ := ta.blk xa sa 4
 have q := va.k I
 have u := wa.k I
 have r := ua.k I
 refine ⟨trivial, trivial, _, q.bk.rc rfl, ha111.isSl, ?_⟩
 intro R5 ib
 have hgo : ∀ (x : Nat) (G : Int) (b : Bool) (d : Bool) (e : Bool) (g : Bool) (h : Bool) (i : Bool) (P : M) (n : Nat → Nat), St (Fm.of m) f f P → Lb (Fm.of m) f n P 1 m.nxt 13 [(Il w.s.Wide), (Il w.s.High), (Il w.s.Fall), (Il w.s.A.Lo), (Il w.s.A.Hi), (Il w.s.B.Lo), (Il w.s.B.Hi), (Il w.s.Half.Lo), (Il w.s.Half.Hi), (Il w.s.Peak.Lo), (Il w.s.Peak.Hi), ca111, ca112] → Lb (Fm.of m) f n P 2 m0.nxt 4 [(Il t.A), (Il t.B), (Il t.Half), (Il t.Peak)] → Lb (Fm.of m) f n P 3 m1.nxt 6 [(.bool false), (.bool false), (.bool false), (.bool false), (.bool false), (.bool false)] → Lb (Fm.of m) f n P 4 m2.nxt 6 [(.bool b), (.bool d), (.bool e), (.bool g), (.bool h), (.bool i)] → prightCards_L0 w t x b d e g h i G = some rz → R5 [.c (Il G)] P := by
  intro x
  induction x with
  | zero => intro G b d e g h i P n y q u r p hp; cases hp
  | succ x hb =>
   intro G b d e g h i P n y q u r p hp
   refine ib _ _ ?_
   rw [prightCards_L0] at hp
   try rw [ha111.slLen]
   refine ifd hp (fun Aa hp => ?_) fun Aa hp => ?_; rotate_left
   ·refine ⟨_, _, _, _, _, _, p.bk.ra, ?_⟩
    obtain ⟨Ba, Ca, Da, mb, Ea⟩ := r.sto y [(.bool b), (.bool d), (.bool e), (.bool g), (.bool h), (.bool i)]
    refine ⟨Ba, Ca, ?_⟩
    refine ⟨_, _, _, _, _, _, Ea.bk.ra, ?_⟩
    obtain rfl := Option.some.inj hp
    exact hq _ Da.ext'
   obtain ⟨a, J, hp⟩ := bsome hp
   obtain ⟨n8, fa, S, J⟩ := idx_some J
   obtain ⟨_, Fa⟩ := rd_Crd ha111 J
   refine ⟨n8, fa, (by first | exact S | (rw [ha111.slLen]; exact S)), _, _, _, _, _, _, _, (Fa _ y.sub).1, ?_⟩
   intro ub Ga
   obtain ⟨ba, Ha, z, Ia⟩ := y.blk Ga n 5
   have Ja := q.k z
   have Ka := u.k z
   have La := r.k z
   have Ma := p.k z
   obtain ⟨Na, Oa, ca, D, Pa⟩ := Ia.sto Ha [(Il a.X.Lo), (Il a.X.Hi), (Il a.Y.Lo), (Il a.Y.Hi), (.bool a.Hail), (Il a.Size.Lo), (Il a.Size.Hi)]
   have da := Ja.k D
   have ea := Ka.k D
   have Qa := La.k D
   have Ra := Ma.k D
   refine ⟨Na, Oa, ?_⟩
   refine ⟨trivial, _, _, _, _, _, _, _, _, _, _, _, _, da.bk.rp (k := 0) (j := 12) rfl (by omega), _, _, _, _, _, _, _, Pa.bk.ra, _, _, _, _, ea.bk.ra, ?_⟩
   obtain ⟨o, Sa, hp⟩ := bsome hp
   refine s_isRight (s := w.s) (c := a) (t := t) ca.pre ha111 Sa fun vb Ta => ?_
   obtain ⟨Ua, F⟩ := ca.call Ta ba
   have Va := da.k F
   have Wa := ea.k F
   have Xa := Qa.k F
   have Ya := Ra.k F
   refine ⟨_, rfl, trivial, ?_⟩
   obtain ⟨Za, hp⟩ := gd_some hp
   obtain ⟨jb, T, Z⟩ := arr_no Za
   refine ⟨jb, T, Z, ?_⟩
   obtain ⟨ab, bb, cb, N, O⟩ := Ya.sta Ua (pre := []) (post := []) (l := ([b, d, e, g, h, i] : List Bool)) (enc := C.bool) rfl rfl T Z o
   replace O : Lb _ _ _ _ _ _ _ [(.bool (sti G 0 o b)), (.bool (sti G 1 o d)), (.bool (sti G 2 o e)), (.bool (sti G 3 o g)), (.bool (sti G 4 o h)), (.bool (sti G 5 o i))] := O
   have db := Va.k N
   have eb := Wa.k N
   have fb := Xa.k N
   refine ⟨ab, bb, ?_⟩
   refine gdi hp fun gb hp => ?_
   exact hb _ _ _ _ _ _ _ _ ba cb db eb fb O hp
 exact hgo _ _ _ _ _ _ _ _ _ ya za q u r p hp
theorem s_allCards {w : Wk} {ca111 ca112 : C} {m f : M} {Q : V → M → Prop} {rz : Cds} (hS : Pre f m) (ha111 : Sl f ca111 w.s.Cards) (_ha112 : Mi f ca112 w.right) (hp : pallCards w = some rz) (hq : ∀ m', Ext m m' → Q (.agg 6 [(.bool rz.c0), (.bool rz.c1), (.bool rz.c2), (.bool rz.c3), (.bool rz.c4), (.bool rz.c5)]) m') : Wc prog tbl 39 [.agg 13 [(Il w.s.Wide), (Il w.s.High), (Il w.s.Fall), (Il w.s.A.Lo), (Il w.s.A.Hi), (Il w.s.B.Lo), (Il w.s.B.Hi), (Il w.s.Half.Lo), (Il w.s.Half.Hi), (Il w.s.Peak.Lo), (Il w.s.Peak.Hi), ca111, ca112]] m Q := by
 have I := hS.st
 obtain ⟨J, _⟩ : ∃ τ : Nat → Nat, True := ⟨fun _ => 0, trivial⟩
 refine w39 ?_
 unfold pallCards at hp
 intro N d
 obtain ⟨e, g, F, h⟩ := I.blk d J 1
 intro O i
 obtain ⟨j, b, l, n⟩ := g.blk i e 2
 have o := h.k l
 refine ⟨trivial, trivial, _, o.bk.rc rfl, ha111.isSl, ?_⟩
 obtain ⟨c, hp⟩ := gd_some hp
 refine ⟨(by first | exact c | (rw [ha111.slLen]; exact c)), ?_⟩
 try rw [ha111.slLen]
 obtain ⟨a, p, hp⟩ := bsome hp
 refine s_upTo (last := ((w.s.Cards.length : Int) - (1 : Int))) b.pre  p fun P q => ?_
 obtain ⟨r, t⟩ := b.call q j
 have u := n.k t
 refine ⟨_, _, _, _, _, _, rfl, ?_⟩
 obtain ⟨x, y, z, G, D⟩ := u.sto r [(.bool a.c0), (.bool a.c1), (.bool a.c2), (.bool a.c3), (.bool a.c4), (.bool a.c5)]
 refine ⟨x, y, ?_⟩
 refine ⟨_, _, _, _, _, _, D.bk.ra, ?_⟩
 obtain rfl := Option.some.inj hp
 exact hq _ z.ext'
set_option maxHeartbeats 4000000 in
theorem s_choicesI {s : Stm} {b0 : Nat} {cb011 : C} {m f : M} {F : Fm} {n0 ly : Nat} {xs : List (List V)} {I : Nat → (Nat → Prop) → M → Prop} {E : (Nat → Prop) → M → Prop} {S1 : Nat → Prop} {Q : V → M → Prop} {rz : List Trh} {τ0 : Nat → Nat} (hc : Client prog tbl n0 ly xs I E) (S0 : St F f f m) (Y0 : Yg n0 (YJ xs I rz) S1 F f τ0 m) (hb0 : Bk f b0 12 [(.int .i64 s.Wide), (.int .i64 s.High), (.int .i64 s.Fall), (.int .i64 s.A.Lo), (.int .i64 s.A.Hi), (.int .i64 s.B.Lo), (.int .i64 s.B.Hi), (.int .i64 s.Half.Lo), (.int .i64 s.Half.Hi), (.int .i64 s.Peak.Lo), (.int .i64 s.Peak.Hi), cb011]) (hb011 : Sl f cb011 s.Cards) (hp : pchoicesI s = some rz) (hq : ∀ v m' f' τ' S', St F f f' m' → (Yg n0 (YJ xs I ([] : List Trh)) S' F f' τ' m' ∨ Yg n0 E S' F f' τ' m') → Q v m') : Wc prog tbl 97 [.c (.fn (.yield ly) [] []), .c (.ptr b0 0)] m Q := by
 refine c97 ?_
 unfold pchoicesI at hp
 intro m0 e2317
 obtain ⟨τ2320, S2318, k2319, L2321⟩ := S0.blk e2317 τ0 1
 have Y2322 := Y0.k k2319 (by decide)
 refine ⟨trivial, _, _, (hb0.sub S2318.sub).rp (k := 3) (j := 2) rfl (by omega), ?_⟩
 obtain ⟨r2323, g2324, hp⟩ := bsome hp
 refine s_numbers (r := s.A) S2318.pre  g2324 fun m4 f2328 c2329 e2327 h2330 => ?_
 obtain ⟨S2325, k2326⟩ := S2318.callG e2327 τ2320
 have L2331 := L2321.k k2326 (by decide)
 have Y2332 := Y2322.k k2326 (by decide)
 refine ⟨_, rfl, ?_⟩
 refine range_st (α := Int) S2325 h2330 (σ := (List Trh) × (Nat → Prop) × Bool) 2 (fun st bb => (False ∨ (st.2.1 bb))) (fun st gG gF gT gM => (Lb gG gF gT gM 1 m.nxt 1 [(.fn (.yield ly) [] [])]) ∧ (Yg n0 (YD xs I E st.2.2 st.1) st.2.1 gG gF gT gM)) (fun rr_ st => st.2.2 = false ∧ pchoicesI_L0 s rr_ = some st.1) (fun ex st => (match ex with | .ret => st.2.2 = true ∨ (st.2.2 = false ∧ (0 : Nat) = 0 ∧ pchoicesI_L0_xret = some st.1) | _ => False)) (fun st => (Gud.and (Gud.lb L2331.bk.lt (by decide)) (Gud.yg Y2332.n (by decide)))) (st0 := (rz, S1, false)) (τ := τ2320) ⟨L2331, Y2332⟩ ⟨rfl, hp⟩ ?_ ?_ ?_ ?_
 ·intro a2342 q2343 st f2344 τ2345 m7 F2346 o2347 Ok2348 en2349 Kn2350 S2351 s2352 hA rk2353 hp he2354 hk2355
  obtain ⟨r2334, s2335, d2336⟩ := st
  obtain ⟨hdd, hp⟩ := hp
  replace hdd : d2336 = false := hdd
  subst hdd
  obtain ⟨L2333, Y2337⟩ := hA
  replace L2333 : Lb F2346 f2344 τ2345 m7 1 m.nxt 1 [(.fn (.yield ly) [] [])] := L2333
  replace Y2337 : Yg n0 (YJ xs I r2334) s2335 F2346 f2344 τ2345 m7 := Y2337
  replace hp : pchoicesI_L0 s (a2342 :: q2343) = some r2334 := hp
  rw [pchoicesI_L0] at hp
  refine ⟨_, rfl, ?_⟩
  intro m11 e2356
  obtain ⟨τ2359, S2357, k2358, L2360⟩ := S2351.blk e2356 τ2345 3
  have L2361 := L2333.k k2358 (by decide)
  have Y2362 := Y2337.k k2358 (by decide)
  have rk2363 := rk2353.k k2358 (by decide)
  obtain ⟨m2367, e2366, S2364, k2365, L2368⟩ := L2360.sto S2357 [(.int .i64 a2342)]
  have L2369 := L2361.k k2365 (by decide)
  have Y2370 := Y2362.k k2365 (by decide)
  have rk2371 := rk2363.k k2365 (by decide)
  refine ⟨m2367, e2366, ?_⟩
  refine he2354 _ _ _ _ S2364 rk2371 fun m13 o2375 S2372 k2373 rk2374 hO2376 => ?_
  have L2377 := L2369.k k2373 (by decide)
  have L2378 := L2368.k k2373 (by decide)
  have Y2379 := Y2370.k k2373 (by decide)
  refine ⟨trivial, _, _, (hb0.sub (Sub.trans (Sub.trans k2326.fs s2352) S2372.sub)).rp (k := 5) (j := 2) rfl (by omega), ?_⟩
  obtain ⟨r2380, g2381, hp⟩ := bsome hp
  refine s_numbers (r := s.B) S2372.pre  g2381 fun m17 f2385 c2386 e2384 h2387 => ?_
  obtain ⟨S2382, k2383⟩ := S2372.callG e2384 τ2359
  have L2388 := L2377.k k2383 (by decide)
  have L2389 := L2378.k k2383 (by decide)
  have Y2390 := Y2379.k k2383 (by decide)
  have rk2391 := rk2374.k k2383 (by decide)
  refine ⟨_, rfl, ?_⟩
  refine range_st (α := Int) S2382 h2387 (σ := (List Trh) × (Nat → Prop) × Bool) 4 (fun st bb => (False ∨ (False ∨ ((st.2.1 bb) ∨ False)))) (fun st gG gF gT gM => (Lb gG gF gT gM 1 m.nxt 1 [(.fn (.yield ly) [] [])]) ∧ (Lb gG gF gT gM 3 m7.nxt 1 [(.int .i64 a2342)]) ∧ (Yg n0 (YD xs I E st.2.2 st.1) st.2.1 gG gF gT gM) ∧ (Rk gG gF gT gM 2 (m4).nxt o2375)) (fun rr_ st => st.2.2 = false ∧ pchoicesI_L1 s a2342 ((pchoicesI_L0 s q2343)) rr_ = some st.1) (fun ex st => (match ex with | .ret => st.2.2 = true ∨ (st.2.2 = false ∧ (0 : Nat) = 0 ∧ pchoicesI_L1_xret = some st.1) | _ => False)) (fun st => (Gud.and (Gud.lb L2388.bk.lt (by decide)) (Gud.and (Gud.lb L2389.bk.lt (by decide)) (Gud.and (Gud.yg Y2390.n (by decide)) (Gud.rk rk2391.lt (by decide)))))) (st0 := (r2334, s2335, false)) (τ := τ2359) ⟨L2388, L2389, Y2390, rk2391⟩ ⟨rfl, hp⟩ ?_ ?_ ?_ ?_
  ·intro a2403 q2404 st f2405 τ2406 m20 F2407 o2408 Ok2409 en2410 Kn2411 S2412 s2413 hA rk2414 hp he2415 hk2416
   obtain ⟨r2394, s2395, d2396⟩ := st
   obtain ⟨hdd, hp⟩ := hp
   replace hdd : d2396 = false := hdd
   subst hdd
   obtain ⟨L2392, L2393, Y2397, rk2398⟩ := hA
   replace L2392 : Lb F2407 f2405 τ2406 m20 1 m.nxt 1 [(.fn (.yield ly) [] [])] := L2392
   replace L2393 : Lb F2407 f2405 τ2406 m20 3 m7.nxt 1 [(.int .i64 a2342)] := L2393
   replace Y2397 : Yg n0 (YJ xs I r2394) s2395 F2407 f2405 τ2406 m20 := Y2397
   replace rk2398 : Rk F2407 f2405 τ2406 m20 2 (m4).nxt o2375 := rk2398
   replace hp : pchoicesI_L1 s a2342 ((pchoicesI_L0 s q2343)) (a2403 :: q2404) = some r2394 := hp
   rw [pchoicesI_L1] at hp
   refine ⟨_, rfl, ?_⟩
   intro m24 e2417
   obtain ⟨τ2420, S2418, k2419, L2421⟩ := S2412.blk e2417 τ2406 5
   have L2422 := L2392.k k2419 (by decide)
   have L2423 := L2393.k k2419 (by decide)
   have Y2424 := Y2397.k k2419 (by decide)
   have rk2425 := rk2414.k k2419 (by decide)
   have rk2426 := rk2398.k k2419 (by decide)
   obtain ⟨m2430, e2429, S2427, k2428, L2431⟩ := L2421.sto S2418 [(.int .i64 a2403)]
   have L2432 := L2422.k k2428 (by decide)
   have L2433 := L2423.k k2428 (by decide)
   have Y2434 := Y2424.k k2428 (by decide)
   have rk2435 := rk2425.k k2428 (by decide)
   have rk2436 := rk2426.k k2428 (by decide)
   refine ⟨m2430, e2429, ?_⟩
   refine he2415 _ _ _ _ S2427 rk2435 fun m26 o2440 S2437 k2438 rk2439 hO2441 => ?_
   have L2442 := L2432.k k2438 (by decide)
   have L2443 := L2433.k k2438 (by decide)
   have L2444 := L2431.k k2438 (by decide)
   have Y2445 := Y2434.k k2438 (by decide)
   have rk2446 := rk2436.k k2438 (by decide)
   refine ⟨trivial, _, _, (hb0.sub (Sub.trans (Sub.trans (Sub.trans (Sub.trans k2326.fs s2352) k2383.fs) s2413) S2437.sub)).rp (k := 7) (j := 2) rfl (by omega), ?_⟩
   obtain ⟨r2447, g2448, hp⟩ := bsome hp
   refine s_numbers (r := s.Half) S2437.pre  g2448 fun m30 f2452 c2453 e2451 h2454 => ?_
   obtain ⟨S2449, k2450⟩ := S2437.callG e2451 τ2420
   have L2455 := L2442.k k2450 (by decide)
   have L2456 := L2443.k k2450 (by decide)
   have L2457 := L2444.k k2450 (by decide)
   have Y2458 := Y2445.k k2450 (by decide)
   have rk2459 := rk2439.k k2450 (by decide)
   have rk2460 := rk2446.k k2450 (by decide)
   refine ⟨_, rfl, ?_⟩
   refine range_st (α := Int) S2449 h2454 (σ := (List Trh) × (Nat → Prop) × Bool) 6 (fun st bb => (False ∨ (False ∨ (False ∨ ((st.2.1 bb) ∨ (False ∨ False)))))) (fun st gG gF gT gM => (Lb gG gF gT gM 1 m.nxt 1 [(.fn (.yield ly) [] [])]) ∧ (Lb gG gF gT gM 3 m7.nxt 1 [(.int .i64 a2342)]) ∧ (Lb gG gF gT gM 5 m20.nxt 1 [(.int .i64 a2403)]) ∧ (Yg n0 (YD xs I E st.2.2 st.1) st.2.1 gG gF gT gM) ∧ (Rk gG gF gT gM 2 (m4).nxt o2375) ∧ (Rk gG gF gT gM 4 (m17).nxt o2440)) (fun rr_ st => st.2.2 = false ∧ pchoicesI_L2 s a2342 a2403 ((pchoicesI_L1 s a2342 ((pchoicesI_L0 s q2343)) q2404)) rr_ = some st.1) (fun ex st => (match ex with | .ret => st.2.2 = true ∨ (st.2.2 = false ∧ (0 : Nat) = 0 ∧ pchoicesI_L2_xret = some st.1) | _ => False)) (fun st => (Gud.and (Gud.lb L2455.bk.lt (by decide)) (Gud.and (Gud.lb L2456.bk.lt (by decide)) (Gud.and (Gud.lb L2457.bk.lt (by decide)) (Gud.and (Gud.yg Y2458.n (by decide)) (Gud.and (Gud.rk rk2460.lt (by decide)) (Gud.rk rk2459.lt (by decide)))))))) (st0 := (r2394, s2395, false)) (τ := τ2420) ⟨L2455, L2456, L2457, Y2458, rk2460, rk2459⟩ ⟨rfl, hp⟩ ?_ ?_ ?_ ?_
   ·intro a2474 q2475 st f2476 τ2477 m33 F2478 o2479 Ok2480 en2481 Kn2482 S2483 s2484 hA rk2485 hp he2486 hk2487
    obtain ⟨r2464, s2465, d2466⟩ := st
    obtain ⟨hdd, hp⟩ := hp
    replace hdd : d2466 = false := hdd
    subst hdd
    obtain ⟨L2461, L2462, L2463, Y2467, rk2468, rk2469⟩ := hA
    replace L2461 : Lb F2478 f2476 τ2477 m33 1 m.nxt 1 [(.fn (.yield ly) [] [])] := L2461
    replace L2462 : Lb F2478 f2476 τ2477 m33 3 m7.nxt 1 [(.int .i64 a2342)] := L2462
    replace L2463 : Lb F2478 f2476 τ2477 m33 5 m20.nxt 1 [(.int .i64 a2403)] := L2463
    replace Y2467 : Yg n0 (YJ xs I r2464) s2465 F2478 f2476 τ2477 m33 := Y2467
    replace rk2468 : Rk F2478 f2476 τ2477 m33 2 (m4).nxt o2375 := rk2468
    replace rk2469 : Rk F2478 f2476 τ2477 m33 4 (m17).nxt o2440 := rk2469
    replace hp : pchoicesI_L2 s a2342 a2403 ((pchoicesI_L1 s a2342 ((pchoicesI_L0 s q2343)) q2404)) (a2474 :: q2475) = some r2464 := hp
    rw [pchoicesI_L2] at hp
    refine ⟨_, rfl, ?_⟩
    intro m37 e2488
    obtain ⟨τ2491, S2489, k2490, L2492⟩ := S2483.blk e2488 τ2477 7
    have L2493 := L2461.k k2490 (by decide)
    have L2494 := L2462.k k2490 (by decide)
    have L2495 := L2463.k k2490 (by decide)
    have Y2496 := Y2467.k k2490 (by decide)
    have rk2497 := rk2485.k k2490 (by decide)
    have rk2498 := rk2468.k k2490 (by decide)
    have rk2499 := rk2469.k k2490 (by decide)
    obtain ⟨m2503, e2502, S2500, k2501, L2504⟩ := L2492.sto S2489 [(.int .i64 a2474)]
    have L2505 := L2493.k k2501 (by decide)
    have L2506 := L2494.k k2501 (by decide)
    have L2507 := L2495.k k2501 (by decide)
    have Y2508 := Y2496.k k2501 (by decide)
    have rk2509 := rk2497.k k2501 (by decide)
    have rk2510 := rk2498.k k2501 (by decide)
    have rk2511 := rk2499.k k2501 (by decide)
    refine ⟨m2503, e2502, ?_⟩
    refine he2486 _ _ _ _ S2500 rk2509 fun m39 o2515 S2512 k2513 rk2514 hO2516 => ?_
    have L2517 := L2505.k k2513 (by decide)
    have L2518 := L2506.k k2513 (by decide)
    have L2519 := L2507.k k2513 (by decide)
    have L2520 := L2504.k k2513 (by decide)
    have Y2521 := Y2508.k k2513 (by decide)
    have rk2522 := rk2510.k k2513 (by decide)
    have rk2523 := rk2511.k k2513 (by decide)
    refine ⟨trivial, _, _, (hb0.sub (Sub.trans (Sub.trans (Sub.trans (Sub.trans (Sub.trans (Sub.trans k2326.fs s2352) k2383.fs) s2413) k2450.fs) s2484) S2512.sub)).rp (k := 9) (j := 2) rfl (by omega), ?_⟩
    obtain ⟨r2524, g2525, hp⟩ := bsome hp
    refine s_numbers (r := s.Peak) S2512.pre  g2525 fun m43 f2529 c2530 e2528 h2531 => ?_
    obtain ⟨S2526, k2527⟩ := S2512.callG e2528 τ2491
    have L2532 := L2517.k k2527 (by decide)
    have L2533 := L2518.k k2527 (by decide)
    have L2534 := L2519.k k2527 (by decide)
    have L2535 := L2520.k k2527 (by decide)
    have Y2536 := Y2521.k k2527 (by decide)
    have rk2537 := rk2514.k k2527 (by decide)
    have rk2538 := rk2522.k k2527 (by decide)
    have rk2539 := rk2523.k k2527 (by decide)
    refine ⟨_, rfl, ?_⟩
    refine range_st (α := Int) S2526 h2531 (σ := (List Trh) × (Nat → Prop) × Bool) 8 (fun st bb => (False ∨ (False ∨ (False ∨ (False ∨ ((st.2.1 bb) ∨ (False ∨ (False ∨ False)))))))) (fun st gG gF gT gM => (Lb gG gF gT gM 1 m.nxt 1 [(.fn (.yield ly) [] [])]) ∧ (Lb gG gF gT gM 3 m7.nxt 1 [(.int .i64 a2342)]) ∧ (Lb gG gF gT gM 5 m20.nxt 1 [(.int .i64 a2403)]) ∧ (Lb gG gF gT gM 7 m33.nxt 1 [(.int .i64 a2474)]) ∧ (Yg n0 (YD xs I E st.2.2 st.1) st.2.1 gG gF gT gM) ∧ (Rk gG gF gT gM 2 (m4).nxt o2375) ∧ (Rk gG gF gT gM 4 (m17).nxt o2440) ∧ (Rk gG gF gT gM 6 (m30).nxt o2515)) (fun rr_ st => st.2.2 = false ∧ pchoicesI_L3 a2342 a2403 a2474 ((pchoicesI_L2 s a2342 a2403 ((pchoicesI_L1 s a2342 ((pchoicesI_L0 s q2343)) q2404)) q2475)) rr_ = some st.1) (fun ex st => (match ex with | .ret => st.2.2 = true ∨ (st.2.2 = false ∧ (0 : Nat) = 0 ∧ pchoicesI_L3_xret = some st.1) | _ => False)) (fun st => (Gud.and (Gud.lb L2532.bk.lt (by decide)) (Gud.and (Gud.lb L2533.bk.lt (by decide)) (Gud.and (Gud.lb L2534.bk.lt (by decide)) (Gud.and (Gud.lb L2535.bk.lt (by decide)) (Gud.and (Gud.yg Y2536.n (by decide)) (Gud.and (Gud.rk rk2538.lt (by decide)) (Gud.and (Gud.rk rk2539.lt (by decide)) (Gud.rk rk2537.lt (by decide)))))))))) (st0 := (r2464, s2465, false)) (τ := τ2491) ⟨L2532, L2533, L2534, L2535, Y2536, rk2538, rk2539, rk2537⟩ ⟨rfl, hp⟩ ?_ ?_ ?_ ?_
    ·intro a2555 q2556 st f2557 τ2558 m46 F2559 o2560 Ok2561 en2562 Kn2563 S2564 s2565 hA rk2566 hp he2567 hk2568
     obtain ⟨r2544, s2545, d2546⟩ := st
     obtain ⟨hdd, hp⟩ := hp
     replace hdd : d2546 = false := hdd
     subst hdd
     obtain ⟨L2540, L2541, L2542, L2543, Y2547, rk2548, rk2549, rk2550⟩ := hA
     replace L2540 : Lb F2559 f2557 τ2558 m46 1 m.nxt 1 [(.fn (.yield ly) [] [])] := L2540
     replace L2541 : Lb F2559 f2557 τ2558 m46 3 m7.nxt 1 [(.int .i64 a2342)] := L2541
     replace L2542 : Lb F2559 f2557 τ2558 m46 5 m20.nxt 1 [(.int .i64 a2403)] := L2542
     replace L2543 : Lb F2559 f2557 τ2558 m46 7 m33.nxt 1 [(.int .i64 a2474)] := L2543
     replace Y2547 : Yg n0 (YJ xs I r2544) s2545 F2559 f2557 τ2558 m46 := Y2547
     replace rk2548 : Rk F2559 f2557 τ2558 m46 2 (m4).nxt o2375 := rk2548
     replace rk2549 : Rk F2559 f2557 τ2558 m46 4 (m17).nxt o2440 := rk2549
     replace rk2550 : Rk F2559 f2557 τ2558 m46 6 (m30).nxt o2515 := rk2550
     replace hp : pchoicesI_L3 a2342 a2403 a2474 ((pchoicesI_L2 s a2342 a2403 ((pchoicesI_L1 s a2342 ((pchoicesI_L0 s q2343)) q2404)) q2475)) (a2555 :: q2556) = some r2544 := hp
     rw [pchoicesI_L3] at hp
     refine ⟨_, rfl, ?_⟩
     refine he2567 _ _ _ _ S2564 rk2566 fun m50 o2572 S2569 k2570 rk2571 hO2573 => ?_
     have L2574 := L2540.k k2570 (by decide)
     have L2575 := L2541.k k2570 (by decide)
     have L2576 := L2542.k k2570 (by decide)
     have L2577 := L2543.k k2570 (by decide)
     have Y2578 := Y2547.k k2570 (by decide)
     have rk2579 := rk2548.k k2570 (by decide)
     have rk2580 := rk2549.k k2570 (by decide)
     have rk2581 := rk2550.k k2570 (by decide)
     refine ⟨_, L2574.bk.rc rfl, _, L2575.bk.rc rfl, _, L2576.bk.rc rfl, _, L2577.bk.rc rfl, ?_⟩
     obtain ⟨r2582, hp2584, hz2583⟩ := bsome hp
     clear hp
     obtain rfl := Option.some.inj hz2583
     have hp := hp2584
     show Wy prog tbl ly (IV.encs (({ A := a2342, B := a2403, Half := a2474, Peak := a2555 } : Trh) : Trh)) _ _
     refine Yg.yield hc S2569 Y2578 ?_ ?_
     ·intro m56 τ2585 s2589 S2586 k2587 Y2588
      have L2590 := L2574.k k2587 (by decide)
      have L2591 := L2575.k k2587 (by decide)
      have L2592 := L2576.k k2587 (by decide)
      have L2593 := L2577.k k2587 (by decide)
      have rk2594 := rk2571.k k2587 (by decide)
      have rk2595 := rk2579.k k2587 (by decide)
      have rk2596 := rk2580.k k2587 (by decide)
      have rk2597 := rk2581.k k2587 (by decide)
      refine ⟨_, rfl, ?_⟩
      refine ifB_f' ?_
      exact hk2568 .nrm (r2582, s2589, false) _ _ _ _ S2586 ⟨L2590, L2591, L2592, L2593, Y2588, rk2595, rk2596, rk2597⟩ rk2594 hO2573 ⟨rfl, hp⟩
     ·intro m56 τ2598 s2602 S2599 k2600 Y2601
      have L2603 := L2574.k k2600 (by decide)
      have L2604 := L2575.k k2600 (by decide)
      have L2605 := L2576.k k2600 (by decide)
      have L2606 := L2577.k k2600 (by decide)
      have rk2607 := rk2571.k k2600 (by decide)
      have rk2608 := rk2579.k k2600 (by decide)
      have rk2609 := rk2580.k k2600 (by decide)
      have rk2610 := rk2581.k k2600 (by decide)
      refine ⟨_, rfl, ?_⟩
      refine ifB_t' ?_
      exact hk2568 .ret ([], s2602, true) _ _ _ _ S2599 ⟨L2603, L2604, L2605, L2606, Y2601, rk2608, rk2609, rk2610⟩ rk2607 hO2573 (.inl rfl)
    ·intro st f2611 τ2613 m58 S2614 s2612 hA hp
     obtain ⟨r2544, s2545, d2546⟩ := st
     obtain ⟨hdd, hp⟩ := hp
     replace hdd : d2546 = false := hdd
     subst hdd
     replace hp : pchoicesI_L3 a2342 a2403 a2474 ((pchoicesI_L2 s a2342 a2403 ((pchoicesI_L1 s a2342 ((pchoicesI_L0 s q2343)) q2404)) q2475)) [] = some r2544 := hp
     obtain ⟨L2540, L2541, L2542, L2543, Y2547, rk2548, rk2549, rk2550⟩ := hA
     replace L2540 : Lb F2478 f2611 τ2613 m58 1 m.nxt 1 [(.fn (.yield ly) [] [])] := L2540
     replace L2541 : Lb F2478 f2611 τ2613 m58 3 m7.nxt 1 [(.int .i64 a2342)] := L2541
     replace L2542 : Lb F2478 f2611 τ2613 m58 5 m20.nxt 1 [(.int .i64 a2403)] := L2542
     replace L2543 : Lb F2478 f2611 τ2613 m58 7 m33.nxt 1 [(.int .i64 a2474)] := L2543
     replace Y2547 : Yg n0 (YJ xs I r2544) s2545 F2478 f2611 τ2613 m58 := Y2547
     replace rk2548 : Rk F2478 f2611 τ2613 m58 2 (m4).nxt o2375 := rk2548
     replace rk2549 : Rk F2478 f2611 τ2613 m58 4 (m17).nxt o2440 := rk2549
     replace rk2550 : Rk F2478 f2611 τ2613 m58 6 (m30).nxt o2515 := rk2550
     rw [pchoicesI_L3] at hp
     exact hk2487 .nrm (r2544, s2545, false) _ _ _ _ S2614 ⟨L2540, L2541, L2542, Y2547, rk2548, rk2549⟩ rk2550 hO2516 ⟨rfl, hp⟩
    ·intro id st _ _ _ _ _ _ hn; first | exact hn.elim | (cases hn)
    ·intro st f2551 τ2553 m59 S2554 s2552 hA hn
     obtain ⟨r2544, s2545, d2546⟩ := st
     rcases hn with hd | ⟨hd, hid, hp⟩
     ·replace hd : d2546 = true := hd
      subst hd
      obtain ⟨L2540, L2541, L2542, L2543, Y2547, rk2548, rk2549, rk2550⟩ := hA
      replace L2540 : Lb F2478 f2551 τ2553 m59 1 m.nxt 1 [(.fn (.yield ly) [] [])] := L2540
      replace L2541 : Lb F2478 f2551 τ2553 m59 3 m7.nxt 1 [(.int .i64 a2342)] := L2541
      replace L2542 : Lb F2478 f2551 τ2553 m59 5 m20.nxt 1 [(.int .i64 a2403)] := L2542
      replace L2543 : Lb F2478 f2551 τ2553 m59 7 m33.nxt 1 [(.int .i64 a2474)] := L2543
      replace Y2547 : Yg n0 E s2545 F2478 f2551 τ2553 m59 := Y2547
      replace rk2548 : Rk F2478 f2551 τ2553 m59 2 (m4).nxt o2375 := rk2548
      replace rk2549 : Rk F2478 f2551 τ2553 m59 4 (m17).nxt o2440 := rk2549
      replace rk2550 : Rk F2478 f2551 τ2553 m59 6 (m30).nxt o2515 := rk2550
      exact hk2487 .ret ([], s2545, true) _ _ _ _ S2554 ⟨L2540, L2541, L2542, Y2547, rk2548, rk2549⟩ rk2550 hO2516 (.inl rfl)
     replace hd : d2546 = false := hd
     subst hd
     replace hp : pchoicesI_L3_xret = some r2544 := hp
     unfold pchoicesI_L3_xret at hp
     obtain ⟨L2540, L2541, L2542, L2543, Y2547, rk2548, rk2549, rk2550⟩ := hA
     replace L2540 : Lb F2478 f2551 τ2553 m59 1 m.nxt 1 [(.fn (.yield ly) [] [])] := L2540
     replace L2541 : Lb F2478 f2551 τ2553 m59 3 m7.nxt 1 [(.int .i64 a2342)] := L2541
     replace L2542 : Lb F2478 f2551 τ2553 m59 5 m20.nxt 1 [(.int .i64 a2403)] := L2542
     replace L2543 : Lb F2478 f2551 τ2553 m59 7 m33.nxt 1 [(.int .i64 a2474)] := L2543
     replace Y2547 : Yg n0 (YJ xs I r2544) s2545 F2478 f2551 τ2553 m59 := Y2547
     replace rk2548 : Rk F2478 f2551 τ2553 m59 2 (m4).nxt o2375 := rk2548
     replace rk2549 : Rk F2478 f2551 τ2553 m59 4 (m17).nxt o2440 := rk2549
     replace rk2550 : Rk F2478 f2551 τ2553 m59 6 (m30).nxt o2515 := rk2550
     exact hk2487 .ret (r2544, s2545, false) _ _ _ _ S2554 ⟨L2540, L2541, L2542, Y2547, rk2548, rk2549⟩ rk2550 hO2516 (.inr ⟨rfl, rfl, hp⟩)
   ·intro st f2615 τ2617 m60 S2618 s2616 hA hp
    obtain ⟨r2464, s2465, d2466⟩ := st
    obtain ⟨hdd, hp⟩ := hp
    replace hdd : d2466 = false := hdd
    subst hdd
    replace hp : pchoicesI_L2 s a2342 a2403 ((pchoicesI_L1 s a2342 ((pchoicesI_L0 s q2343)) q2404)) [] = some r2464 := hp
    obtain ⟨L2461, L2462, L2463, Y2467, rk2468, rk2469⟩ := hA
    replace L2461 : Lb F2407 f2615 τ2617 m60 1 m.nxt 1 [(.fn (.yield ly) [] [])] := L2461
    replace L2462 : Lb F2407 f2615 τ2617 m60 3 m7.nxt 1 [(.int .i64 a2342)] := L2462
    replace L2463 : Lb F2407 f2615 τ2617 m60 5 m20.nxt 1 [(.int .i64 a2403)] := L2463
    replace Y2467 : Yg n0 (YJ xs I r2464) s2465 F2407 f2615 τ2617 m60 := Y2467
    replace rk2468 : Rk F2407 f2615 τ2617 m60 2 (m4).nxt o2375 := rk2468
    replace rk2469 : Rk F2407 f2615 τ2617 m60 4 (m17).nxt o2440 := rk2469
    rw [pchoicesI_L2] at hp
    exact hk2416 .nrm (r2464, s2465, false) _ _ _ _ S2618 ⟨L2461, L2462, Y2467, rk2468⟩ rk2469 hO2441 ⟨rfl, hp⟩
   ·intro id st _ _ _ _ _ _ hn; first | exact hn.elim | (cases hn)
   ·intro st f2470 τ2472 m61 S2473 s2471 hA hn
    obtain ⟨r2464, s2465, d2466⟩ := st
    rcases hn with hd | ⟨hd, hid, hp⟩
    ·replace hd : d2466 = true := hd
     subst hd
     obtain ⟨L2461, L2462, L2463, Y2467, rk2468, rk2469⟩ := hA
     replace L2461 : Lb F2407 f2470 τ2472 m61 1 m.nxt 1 [(.fn (.yield ly) [] [])] := L2461
     replace L2462 : Lb F2407 f2470 τ2472 m61 3 m7.nxt 1 [(.int .i64 a2342)] := L2462
     replace L2463 : Lb F2407 f2470 τ2472 m61 5 m20.nxt 1 [(.int .i64 a2403)] := L2463
     replace Y2467 : Yg n0 E s2465 F2407 f2470 τ2472 m61 := Y2467
     replace rk2468 : Rk F2407 f2470 τ2472 m61 2 (m4).nxt o2375 := rk2468
     replace rk2469 : Rk F2407 f2470 τ2472 m61 4 (m17).nxt o2440 := rk2469
     exact hk2416 .ret ([], s2465, true) _ _ _ _ S2473 ⟨L2461, L2462, Y2467, rk2468⟩ rk2469 hO2441 (.inl rfl)
    replace hd : d2466 = false := hd
    subst hd
    replace hp : pchoicesI_L2_xret = some r2464 := hp
    unfold pchoicesI_L2_xret at hp
    obtain ⟨L2461, L2462, L2463, Y2467, rk2468, rk2469⟩ := hA
    replace L2461 : Lb F2407 f2470 τ2472 m61 1 m.nxt 1 [(.fn (.yield ly) [] [])] := L2461
    replace L2462 : Lb F2407 f2470 τ2472 m61 3 m7.nxt 1 [(.int .i64 a2342)] := L2462
    replace L2463 : Lb F2407 f2470 τ2472 m61 5 m20.nxt 1 [(.int .i64 a2403)] := L2463
    replace Y2467 : Yg n0 (YJ xs I r2464) s2465 F2407 f2470 τ2472 m61 := Y2467
    replace rk2468 : Rk F2407 f2470 τ2472 m61 2 (m4).nxt o2375 := rk2468
    replace rk2469 : Rk F2407 f2470 τ2472 m61 4 (m17).nxt o2440 := rk2469
    exact hk2416 .ret (r2464, s2465, false) _ _ _ _ S2473 ⟨L2461, L2462, Y2467, rk2468⟩ rk2469 hO2441 (.inr ⟨rfl, rfl, hp⟩)
  ·intro st f2619 τ2621 m62 S2622 s2620 hA hp
   obtain ⟨r2394, s2395, d2396⟩ := st
   obtain ⟨hdd, hp⟩ := hp
   replace hdd : d2396 = false := hdd
   subst hdd
   replace hp : pchoicesI_L1 s a2342 ((pchoicesI_L0 s q2343)) [] = some r2394 := hp
   obtain ⟨L2392, L2393, Y2397, rk2398⟩ := hA
   replace L2392 : Lb F2346 f2619 τ2621 m62 1 m.nxt 1 [(.fn (.yield ly) [] [])] := L2392
   replace L2393 : Lb F2346 f2619 τ2621 m62 3 m7.nxt 1 [(.int .i64 a2342)] := L2393
   replace Y2397 : Yg n0 (YJ xs I r2394) s2395 F2346 f2619 τ2621 m62 := Y2397
   replace rk2398 : Rk F2346 f2619 τ2621 m62 2 (m4).nxt o2375 := rk2398
   rw [pchoicesI_L1] at hp
   exact hk2355 .nrm (r2394, s2395, false) _ _ _ _ S2622 ⟨L2392, Y2397⟩ rk2398 hO2376 ⟨rfl, hp⟩
  ·intro id st _ _ _ _ _ _ hn; first | exact hn.elim | (cases hn)
  ·intro st f2399 τ2401 m63 S2402 s2400 hA hn
   obtain ⟨r2394, s2395, d2396⟩ := st
   rcases hn with hd | ⟨hd, hid, hp⟩
   ·replace hd : d2396 = true := hd
    subst hd
    obtain ⟨L2392, L2393, Y2397, rk2398⟩ := hA
    replace L2392 : Lb F2346 f2399 τ2401 m63 1 m.nxt 1 [(.fn (.yield ly) [] [])] := L2392
    replace L2393 : Lb F2346 f2399 τ2401 m63 3 m7.nxt 1 [(.int .i64 a2342)] := L2393
    replace Y2397 : Yg n0 E s2395 F2346 f2399 τ2401 m63 := Y2397
    replace rk2398 : Rk F2346 f2399 τ2401 m63 2 (m4).nxt o2375 := rk2398
    exact hk2355 .ret ([], s2395, true) _ _ _ _ S2402 ⟨L2392, Y2397⟩ rk2398 hO2376 (.inl rfl)
   replace hd : d2396 = false := hd
   subst hd
   replace hp : pchoicesI_L1_xret = some r2394 := hp
   unfold pchoicesI_L1_xret at hp
   obtain ⟨L2392, L2393, Y2397, rk2398⟩ := hA
   replace L2392 : Lb F2346 f2399 τ2401 m63 1 m.nxt 1 [(.fn (.yield ly) [] [])] := L2392
   replace L2393 : Lb F2346 f2399 τ2401 m63 3 m7.nxt 1 [(.int .i64 a2342)] := L2393
   replace Y2397 : Yg n0 (YJ xs I r2394) s2395 F2346 f2399 τ2401 m63 := Y2397
   replace rk2398 : Rk F2346 f2399 τ2401 m63 2 (m4).nxt o2375 := rk2398
   exact hk2355 .ret (r2394, s2395, false) _ _ _ _ S2402 ⟨L2392, Y2397⟩ rk2398 hO2376 (.inr ⟨rfl, rfl, hp⟩)
 ·intro st f2623 τ2625 m64 S2626 s2624 hA hp
  obtain ⟨r2334, s2335, d2336⟩ := st
  obtain ⟨hdd, hp⟩ := hp
  replace hdd : d2336 = false := hdd
  subst hdd
  replace hp : pchoicesI_L0 s [] = some r2334 := hp
  obtain ⟨L2333, Y2337⟩ := hA
  replace L2333 : Lb F f2623 τ2625 m64 1 m.nxt 1 [(.fn (.yield ly) [] [])] := L2333
  replace Y2337 : Yg n0 (YJ xs I r2334) s2335 F f2623 τ2625 m64 := Y2337
  rw [pchoicesI_L0] at hp
  obtain rfl := Option.some.inj hp
  exact hq _ _ _ _ _ S2626 (.inl Y2337)
 ·intro id st _ _ _ _ _ _ hn; first | exact hn.elim | (cases hn)
 ·intro st f2338 τ2340 m65 S2341 s2339 hA hn
  obtain ⟨r2334, s2335, d2336⟩ := st
  rcases hn with hd | ⟨hd, hid, hp⟩
  ·replace hd : d2336 = true := hd
   subst hd
   obtain ⟨L2333, Y2337⟩ := hA
   replace L2333 : Lb F f2338 τ2340 m65 1 m.nxt 1 [(.fn (.yield ly) [] [])] := L2333
   replace Y2337 : Yg n0 E s2335 F f2338 τ2340 m65 := Y2337
   exact hq _ _ _ _ _ S2341 (.inr Y2337)
  replace hd : d2336 = false := hd
  subst hd
  replace hp : pchoicesI_L0_xret = some r2334 := hp
  unfold pchoicesI_L0_xret at hp
  obtain ⟨L2333, Y2337⟩ := hA
  replace L2333 : Lb F f2338 τ2340 m65 1 m.nxt 1 [(.fn (.yield ly) [] [])] := L2333
  replace Y2337 : Yg n0 (YJ xs I r2334) s2335 F f2338 τ2340 m65 := Y2337
  obtain rfl := Option.some.inj hp
  exact hq _ _ _ _ _ S2341 (.inl Y2337)
theorem s_choices {s : Stm} {ca111 : C} {m f : M} {Q : V → M → Prop} {rz : List Trh} (hS : Pre f m) (ha111 : Sl f ca111 s.Cards) (hp : pchoices s = some rz) (hq : ∀ m' f' c0, Grw m f m' f' → It prog tbl f' c0 rz → Q (.c c0) m') : Wc prog tbl 84 [.agg 12 [(Il s.Wide), (Il s.High), (Il s.Fall), (Il s.A.Lo), (Il s.A.Hi), (Il s.B.Lo), (Il s.B.Hi), (Il s.Half.Lo), (Il s.Half.Hi), (Il s.Peak.Lo), (Il s.Peak.Hi), ca111]] m Q := by
 have q := hS.st
 obtain ⟨r, _⟩ : ∃ τ : Nat → Nat, True := ⟨fun _ => 0, trivial⟩
 refine w84 ?_
 unfold pchoices at hp
 intro t g
 obtain ⟨o, h, p, i⟩ := q.blk g r 1
 obtain ⟨b, a, j, d⟩ := i.freeze h
 obtain ⟨l, n, hp⟩ := bsome hp
 have e : It prog tbl b ((C.fn (Fn.func 97) [] [(W.c (C0.ptr m.nxt 0))])) l := it_of a.fz a.fv fun u ly I E hc x y z D hS hY Q hq => s_choicesI hc hS hY d (ha111.sub j.fs) n hq
 obtain rfl := Option.some.inj hp
 exact hq _ b (C.fn (Fn.func 97) [] [(W.c (C0.ptr m.nxt 0))]) a.grw e
theorem s_open {s : Stm} {ca111 : C} {m f : M} {Q : V → M → Prop} {rz : Wk} (hS : Pre f m) (ha111 : Sl f ca111 s.Cards) (hp : popen s = some rz) (hq : ∀ m' f' c11 c12, Grw m f m' f' → Sl f' c11 rz.s.Cards → Mi f' c12 rz.right → Q (.agg 13 [(Il rz.s.Wide), (Il rz.s.High), (Il rz.s.Fall), (Il rz.s.A.Lo), (Il rz.s.A.Hi), (Il rz.s.B.Lo), (Il rz.s.B.Hi), (Il rz.s.Half.Lo), (Il rz.s.Half.Hi), (Il rz.s.Peak.Lo), (Il rz.s.Peak.Hi), c11, c12]) m') : Wc prog tbl 54 [.agg 12 [(Il s.Wide), (Il s.High), (Il s.Fall), (Il s.A.Lo), (Il s.A.Hi), (Il s.B.Lo), (Il s.B.Hi), (Il s.Half.Lo), (Il s.Half.Hi), (Il s.Peak.Lo), (Il s.Peak.Hi), ca111]] m Q := by
 have S0 := hS.st
 obtain ⟨τ0, _⟩ : ∃ τ : Nat → Nat, True := ⟨fun _ => 0, trivial⟩
 refine w54 ?_
 unfold popen at hp
 intro m0 va
 obtain ⟨wa, xa, ec, ya⟩ := S0.blk va τ0 1
 intro D za
 obtain ⟨Aa, Ba, Ca, Da⟩ := xa.blk za wa 2
 have N := ya.k Ca
 refine ⟨_, _, _, _, _, _, _, _, _, _, _, _, N.bk.ra, ?_⟩
 intro ia Ea
 obtain ⟨Fa, Ga, O, Ha⟩ := Mo.new (K := Trh) (V' := Cds) Ba Ea Aa 3
 have Ia := N.k O
 have Ja := Da.k O
 intro oc Ka
 obtain ⟨P, La, F, Ma⟩ := Ga.blk Ka Fa 4
 have Na := Ia.k F
 have Oa := Ja.k F
 have Pa := Ha.k F
 obtain ⟨Qa, Ra, S, G, T⟩ := Ma.sto La [(Il s.Wide), (Il s.High), (Il s.Fall), (Il s.A.Lo), (Il s.A.Hi), (Il s.B.Lo), (Il s.B.Hi), (Il s.Half.Lo), (Il s.Half.Hi), (Il s.Peak.Lo), (Il s.Peak.Hi), ca111, (.map D.nxt)]
 have Sa := Na.k G
 have Ta := Oa.k G
 have Ua := Pa.k G
 refine ⟨Qa, Ra, ?_⟩
 refine ⟨trivial, _, _, _, _, _, _, _, _, _, _, _, _, T.bk.rp (k := 0) (j := 12) rfl (by omega), ?_⟩
 obtain ⟨fc, Va, hp⟩ := bsome hp
 refine s_choices (s := s) S.pre ha111 Va fun pc gc hc Wa Xa => ?_
 obtain ⟨Ya, g⟩ := S.callG Wa P
 have Y := Sa.k g
 have Z := Ta.k g
 have aa := T.k g
 have ba := Ua.k g
 refine ⟨_, rfl, ?_⟩
 refine range_st (α := Trh) Ya Xa (σ := (Option (Trh → Option (Cds)))) 5 (fun st bb => (False ∨ (False ∨ (False ∨ False)))) (fun st gG gF gT gM => (Lb gG gF gT gM 1 m.nxt 12 [(Il s.Wide), (Il s.High), (Il s.Fall), (Il s.A.Lo), (Il s.A.Hi), (Il s.B.Lo), (Il s.B.Hi), (Il s.Half.Lo), (Il s.Half.Hi), (Il s.Peak.Lo), (Il s.Peak.Hi), ca111]) ∧ (Lb gG gF gT gM 2 m0.nxt 13 [(Il 0), (Il 0), (Il 0), (Il 0), (Il 0), (Il 0), (Il 0), (Il 0), (Il 0), (Il 0), (Il 0), .sl0, C.map0]) ∧ (Lb gG gF gT gM 4 ia.nxt 13 [(Il s.Wide), (Il s.High), (Il s.Fall), (Il s.A.Lo), (Il s.A.Hi), (Il s.B.Lo), (Il s.B.Hi), (Il s.Half.Lo), (Il s.Half.Hi), (Il s.Peak.Lo), (Il s.Peak.Hi), ca111, (.map D.nxt)]) ∧ (Mo gG gF gT gM 3 (.map D.nxt) st)) (fun rr_ st => popen_L0 s rr_ st = some rz) (fun ex st => False) (fun st => (Gud.and (Gud.lb Y.bk.lt (by decide)) (Gud.and (Gud.lb Z.bk.lt (by decide)) (Gud.and (Gud.lb aa.bk.lt (by decide)) (Gud.mo ba.lt (by decide)))))) (st0 := ((some fun _ => none : Option (Trh → Option (Cds))))) (τ := P) ⟨Y, Z, aa, ba⟩ hp ?_ ?_ ?_ ?_
 ·intro a Za h r n ca u ic bc cc dc ab cb hA ja hp ka la
  obtain ⟨i, b, c, d⟩ := hA
  replace i : Lb u r n ca 1 m.nxt 12 [(Il s.Wide), (Il s.High), (Il s.Fall), (Il s.A.Lo), (Il s.A.Hi), (Il s.B.Lo), (Il s.B.Hi), (Il s.Half.Lo), (Il s.Half.Hi), (Il s.Peak.Lo), (Il s.Peak.Hi), ca111] := i
  replace b : Lb u r n ca 2 m0.nxt 13 [(Il 0), (Il 0), (Il 0), (Il 0), (Il 0), (Il 0), (Il 0), (Il 0), (Il 0), (Il 0), (Il 0), .sl0, C.map0] := b
  replace c : Lb u r n ca 4 ia.nxt 13 [(Il s.Wide), (Il s.High), (Il s.Fall), (Il s.A.Lo), (Il s.A.Hi), (Il s.B.Lo), (Il s.B.Hi), (Il s.Half.Lo), (Il s.Half.Hi), (Il s.Peak.Lo), (Il s.Peak.Hi), ca111, (.map D.nxt)] := c
  replace d : Mo u r n ca 3 (.map D.nxt) h := d
  replace hp : popen_L0 s (a :: Za) h = some rz := hp
  rw [popen_L0] at hp
  refine ⟨_, _, _, _, rfl, ?_⟩
  intro qc db
  obtain ⟨eb, fb, o, gb⟩ := ab.blk db n 6
  have hb := i.k o
  have ib := b.k o
  have jb := c.k o
  have kb := d.k o
  have ma := ja.k o
  obtain ⟨mb, nb, ob, p, pb⟩ := gb.sto fb [(Il a.A), (Il a.B), (Il a.Half), (Il a.Peak)]
  have qb := hb.k p
  have rb := ib.k p
  have sb := jb.k p
  have tb := kb.k p
  have na := ma.k p
  refine ⟨mb, nb, ?_⟩
  refine ka _ _ _ _ ob na fun sc jc da q oa pa => ?_
  have ub := qb.k q
  have vb := rb.k q
  have I := sb.k q
  have J := pb.k q
  have ea := tb.k q
  refine ⟨trivial, _, I.bk.rc rfl, _, _, _, _, J.bk.ra, _, _, _, _, _, _, _, _, _, _, _, _, _, I.bk.ra, _, _, _, _, J.bk.ra, ?_⟩
  obtain ⟨kc, wb, xb, qa⟩ := ea.freeze da
  obtain ⟨e, yb, hp⟩ := bsome hp
  refine s_rightCards (w := ({ s := s, right := h } : Wk)) (t := a) wb.pre (ha111.sub (Sub.trans (Sub.trans g.fs cb) xb.fs)) qa yb fun tc zb => ?_
  obtain ⟨Ab, l⟩ := da.call zb eb
  have Bb := ub.k l
  have Cb := vb.k l
  have fa := I.k l
  have Db := J.k l
  have ga := ea.k l
  have sa := oa.k l
  refine ⟨_, _, _, _, _, _, rfl, (Db.bk.ra), (by rw [show cmC _ = true from cmC_of (ga.mi.noFn)]; exact (fa.bk.rc rfl)), ?_⟩
  obtain ⟨Eb, hp⟩ := gd_some hp
  obtain ⟨Fb, Gb, hp⟩ := bsome hp
  obtain ⟨Hb, Ib, Jb, x, Kb⟩ := Mo.up kl40 Ab ga (k := a) Eb (v := e) Gb (kv := .agg 4 [(Il a.A), (Il a.B), (Il a.Half), (Il a.Peak)]) (yv := .agg 6 [(.bool e.c0), (.bool e.c1), (.bool e.c2), (.bool e.c3), (.bool e.c4), (.bool e.c5)]) rfl rfl
  have Mb := Bb.k x
  have Nb := Cb.k x
  have Ob := fa.k x
  have ta := sa.k x
  refine ⟨Hb, Ib, ?_⟩
  exact la .nrm (Fb) _ _ _ _ Jb ⟨Mb, Nb, Ob, Kb⟩ ta pa hp
 ·intro h y z ha Pb Qb hA hp
  replace hp : popen_L0 s [] h = some rz := hp
  obtain ⟨i, b, c, d⟩ := hA
  replace i : Lb (Fm.of m) y z ha 1 m.nxt 12 [(Il s.Wide), (Il s.High), (Il s.Fall), (Il s.A.Lo), (Il s.A.Hi), (Il s.B.Lo), (Il s.B.Hi), (Il s.Half.Lo), (Il s.Half.Hi), (Il s.Peak.Lo), (Il s.Peak.Hi), ca111] := i
  replace b : Lb (Fm.of m) y z ha 2 m0.nxt 13 [(Il 0), (Il 0), (Il 0), (Il 0), (Il 0), (Il 0), (Il 0), (Il 0), (Il 0), (Il 0), (Il 0), .sl0, C.map0] := b
  replace c : Lb (Fm.of m) y z ha 4 ia.nxt 13 [(Il s.Wide), (Il s.High), (Il s.Fall), (Il s.A.Lo), (Il s.A.Hi), (Il s.B.Lo), (Il s.B.Hi), (Il s.Half.Lo), (Il s.Half.Hi), (Il s.Peak.Lo), (Il s.Peak.Hi), ca111, (.map D.nxt)] := c
  replace d : Mo (Fm.of m) y z ha 3 (.map D.nxt) h := d
  rw [popen_L0] at hp
  refine ⟨_, _, _, _, _, _, _, _, _, _, _, _, _, c.bk.ra, ?_⟩
  obtain ⟨Rb, Sb, Tb, Ub, Vb⟩ := b.sto Pb [(Il s.Wide), (Il s.High), (Il s.Fall), (Il s.A.Lo), (Il s.A.Hi), (Il s.B.Lo), (Il s.B.Hi), (Il s.Half.Lo), (Il s.Half.Hi), (Il s.Peak.Lo), (Il s.Peak.Hi), ca111, (.map D.nxt)]
  have Wb := d.k Ub
  refine ⟨Rb, Sb, ?_⟩
  refine ⟨_, _, _, _, _, _, _, _, _, _, _, _, _, Vb.bk.ra, ?_⟩
  obtain ⟨Xb, Yb, Zb, ua⟩ := Wb.freeze Tb
  obtain rfl := Option.some.inj hp
  exact hq _ Xb ca111 (.map D.nxt) Yb.grw (ha111.sub (Sub.trans (Sub.trans g.fs Qb) Zb.fs)) ua
 ·intro id st _ _ _ _ _ _ hn; first | exact hn.elim | (cases hn)
 ·intro st _ _ _ _ _ _ hn; first | exact hn.elim | (cases hn)
theorem s_truthsI {w : Wk} {b0 : Nat} {cb011 cb012 : C} {m f : M} {F : Fm} {n0 ly : Nat} {xs : List (List V)} {I : Nat → (Nat → Prop) → M → Prop} {E : (Nat → Prop) → M → Prop} {S1 : Nat → Prop} {Q : V → M → Prop} {rz : List Trh} {τ0 : Nat → Nat} (hc : Client prog tbl n0 ly xs I E) (S0 : St F f f m) (Y0 : Yg n0 (YJ xs I rz) S1 F f τ0 m) (hb0 : Bk f b0 13 [(.int .i64 w.s.Wide), (.int .i64 w.s.High), (.int .i64 w.s.Fall), (.int .i64 w.s.A.Lo), (.int .i64 w.s.A.Hi), (.int .i64 w.s.B.Lo), (.int .i64 w.s.B.Hi), (.int .i64 w.s.Half.Lo), (.int .i64 w.s.Half.Hi), (.int .i64 w.s.Peak.Lo), (.int .i64 w.s.Peak.Hi), cb011, cb012]) (hb011 : Sl f cb011 w.s.Cards) (hb012 : Mi f cb012 w.right) (hp : ptruthsI w = some rz) (hq : ∀ v m' f' τ' S', St F f f' m' → (Yg n0 (YJ xs I ([] : List Trh)) S' F f' τ' m' ∨ Yg n0 E S' F f' τ' m') → Q v m') : Wc prog tbl 92 [.c (.fn (.yield ly) [] []), .c (.ptr b0 0)] m Q := by
 refine c92 ?_
 unfold ptruthsI at hp
 intro m0 e2786
 obtain ⟨τ2789, S2787, k2788, L2790⟩ := S0.blk e2786 τ0 1
 have Y2791 := Y0.k k2788 (by decide)
 refine ⟨_, _, _, _, _, _, _, _, _, _, _, _, _, (hb0.sub S2787.sub).ra, ?_⟩
 obtain ⟨r2792, g2793, hp⟩ := bsome hp
 refine s_allCards (w := w) S2787.pre hb011 hb012 g2793 fun m15 e2796 => ?_
 obtain ⟨S2794, k2795⟩ := S2787.call e2796 τ2789
 have L2797 := L2790.k k2795 (by decide)
 have Y2798 := Y2791.k k2795 (by decide)
 refine ⟨_, _, _, _, _, _, rfl, ?_⟩
 intro m22 e2799
 obtain ⟨τ2802, S2800, k2801, L2803⟩ := S2794.blk e2799 τ2789 2
 have L2804 := L2797.k k2801 (by decide)
 have Y2805 := Y2798.k k2801 (by decide)
 obtain ⟨m2809, e2808, S2806, k2807, L2810⟩ := L2803.sto S2800 [(.bool r2792.c0), (.bool r2792.c1), (.bool r2792.c2), (.bool r2792.c3), (.bool r2792.c4), (.bool r2792.c5)]
 have L2811 := L2804.k k2807 (by decide)
 have Y2812 := Y2805.k k2807 (by decide)
 refine ⟨m2809, e2808, ?_⟩
 refine ⟨trivial, _, _, _, _, _, _, _, _, _, _, _, _, (hb0.sub S2806.sub).rp (k := 0) (j := 12) rfl (by omega), ?_⟩
 obtain ⟨r2813, g2814, hp⟩ := bsome hp
 refine s_choices (s := w.s) S2806.pre hb011 g2814 fun m37 f2818 c2819 e2817 h2820 => ?_
 obtain ⟨S2815, k2816⟩ := S2806.callG e2817 τ2802
 have L2821 := L2811.k k2816 (by decide)
 have L2822 := L2810.k k2816 (by decide)
 have Y2823 := Y2812.k k2816 (by decide)
 refine ⟨_, rfl, ?_⟩
 refine range_st (α := Trh) S2815 h2820 (σ := (List Trh) × (Nat → Prop) × Bool) 3 (fun st bb => (False ∨ (False ∨ (st.2.1 bb)))) (fun st gG gF gT gM => (Lb gG gF gT gM 1 m.nxt 1 [(.fn (.yield ly) [] [])]) ∧ (Lb gG gF gT gM 2 m15.nxt 6 [(.bool r2792.c0), (.bool r2792.c1), (.bool r2792.c2), (.bool r2792.c3), (.bool r2792.c4), (.bool r2792.c5)]) ∧ (Yg n0 (YD xs I E st.2.2 st.1) st.2.1 gG gF gT gM)) (fun rr_ st => st.2.2 = false ∧ ptruthsI_L0 w r2792 rr_ = some st.1) (fun ex st => (match ex with | .ret => st.2.2 = true ∨ (st.2.2 = false ∧ (0 : Nat) = 0 ∧ ptruthsI_L0_xret = some st.1) | _ => False)) (fun st => (Gud.and (Gud.lb L2821.bk.lt (by decide)) (Gud.and (Gud.lb L2822.bk.lt (by decide)) (Gud.yg Y2823.n (by decide))))) (st0 := (rz, S1, false)) (τ := τ2802) ⟨L2821, L2822, Y2823⟩ ⟨rfl, hp⟩ ?_ ?_ ?_ ?_
 ·intro a2834 q2835 st f2836 τ2837 m40 F2838 o2839 Ok2840 en2841 Kn2842 S2843 s2844 hA rk2845 hp he2846 hk2847
  obtain ⟨r2826, s2827, d2828⟩ := st
  obtain ⟨hdd, hp⟩ := hp
  replace hdd : d2828 = false := hdd
  subst hdd
  obtain ⟨L2824, L2825, Y2829⟩ := hA
  replace L2824 : Lb F2838 f2836 τ2837 m40 1 m.nxt 1 [(.fn (.yield ly) [] [])] := L2824
  replace L2825 : Lb F2838 f2836 τ2837 m40 2 m15.nxt 6 [(.bool r2792.c0), (.bool r2792.c1), (.bool r2792.c2), (.bool r2792.c3), (.bool r2792.c4), (.bool r2792.c5)] := L2825
  replace Y2829 : Yg n0 (YJ xs I r2826) s2827 F2838 f2836 τ2837 m40 := Y2829
  replace hp : ptruthsI_L0 w r2792 (a2834 :: q2835) = some r2826 := hp
  rw [ptruthsI_L0] at hp
  refine ⟨_, _, _, _, rfl, ?_⟩
  intro m47 e2848
  obtain ⟨τ2851, S2849, k2850, L2852⟩ := S2843.blk e2848 τ2837 4
  have L2853 := L2824.k k2850 (by decide)
  have L2854 := L2825.k k2850 (by decide)
  have Y2855 := Y2829.k k2850 (by decide)
  have rk2856 := rk2845.k k2850 (by decide)
  obtain ⟨m2860, e2859, S2857, k2858, L2861⟩ := L2852.sto S2849 [(.int .i64 a2834.A), (.int .i64 a2834.B), (.int .i64 a2834.Half), (.int .i64 a2834.Peak)]
  have L2862 := L2853.k k2858 (by decide)
  have L2863 := L2854.k k2858 (by decide)
  have Y2864 := Y2855.k k2858 (by decide)
  have rk2865 := rk2856.k k2858 (by decide)
  refine ⟨m2860, e2859, ?_⟩
  refine he2846 _ _ _ _ S2857 rk2865 fun m49 o2869 S2866 k2867 rk2868 hO2870 => ?_
  have L2871 := L2862.k k2867 (by decide)
  have L2872 := L2863.k k2867 (by decide)
  have L2873 := L2861.k k2867 (by decide)
  have Y2874 := Y2864.k k2867 (by decide)
  refine ⟨trivial, _, (hb0.sub (Sub.trans (Sub.trans k2816.fs s2844) S2866.sub)).rc rfl, _, _, _, _, L2873.bk.ra, ?_⟩
  obtain ⟨g2875, hp⟩ := gd_some hp
  refine ⟨_, (Mi.sub (hb012.sub (Sub.trans k2816.fs s2844)) S2866.sub).mi.lk kl40 (k := a2834) g2875 rfl, ?_⟩
  cases hv2876 : (mget w.right a2834) with
  | none =>
   rw [mcase_none hv2876] at hp
   refine ⟨fun _ => ?_, fun u hu => (by cases hu)⟩
   refine ⟨_, _, _, _, _, _, L2872.bk.ra, ?_⟩
   refine ifbb hp (fun q2878 hp => ?_) fun q2878 hp => ?_; rotate_left
   ·exact hk2847 .nrm (r2826, s2827, false) _ _ _ _ S2866 ⟨L2871, L2872, Y2874⟩ rk2868 hO2870 ⟨rfl, hp⟩
   refine ⟨_, L2871.bk.rc rfl, _, _, _, _, L2873.bk.ra, ?_⟩
   obtain ⟨r2879, hp2881, hz2880⟩ := bsome hp
   clear hp
   obtain rfl := Option.some.inj hz2880
   have hp := hp2881
   show Wy prog tbl ly (IV.encs (a2834 : Trh)) _ _
   refine Yg.yield hc S2866 Y2874 ?_ ?_
   ·intro m68 τ2882 s2886 S2883 k2884 Y2885
    have L2887 := L2871.k k2884 (by decide)
    have L2888 := L2872.k k2884 (by decide)
    have L2889 := L2873.k k2884 (by decide)
    have rk2890 := rk2868.k k2884 (by decide)
    refine ⟨_, rfl, ?_⟩
    refine ifB_f' ?_
    exact hk2847 .nrm (r2879, s2886, false) _ _ _ _ S2883 ⟨L2887, L2888, Y2885⟩ rk2890 hO2870 ⟨rfl, hp⟩
   ·intro m68 τ2891 s2895 S2892 k2893 Y2894
    have L2896 := L2871.k k2893 (by decide)
    have L2897 := L2872.k k2893 (by decide)
    have L2898 := L2873.k k2893 (by decide)
    have rk2899 := rk2868.k k2893 (by decide)
    refine ⟨_, rfl, ?_⟩
    refine ifB_t' ?_
    exact hk2847 .ret ([], s2895, true) _ _ _ _ S2892 ⟨L2896, L2897, Y2894⟩ rk2899 hO2870 (.inl rfl)
  | some w2877 =>
   rw [mcase_some hv2876] at hp
   refine ⟨fun h => (by cases h), fun u hu => ?_⟩
   obtain rfl := Option.some.inj hu
   refine ⟨_, _, _, _, _, _, rfl, _, _, _, _, _, _, L2872.bk.ra, ?_⟩
   refine ifbb hp (fun q2900 hp => ?_) fun q2900 hp => ?_; rotate_left
   ·exact hk2847 .nrm (r2826, s2827, false) _ _ _ _ S2866 ⟨L2871, L2872, Y2874⟩ rk2868 hO2870 ⟨rfl, hp⟩
   refine ⟨_, L2871.bk.rc rfl, _, _, _, _, L2873.bk.ra, ?_⟩
   obtain ⟨r2901, hp2903, hz2902⟩ := bsome hp
   clear hp
   obtain rfl := Option.some.inj hz2902
   have hp := hp2903
   show Wy prog tbl ly (IV.encs (a2834 : Trh)) _ _
   refine Yg.yield hc S2866 Y2874 ?_ ?_
   ·intro m89 τ2904 s2908 S2905 k2906 Y2907
    have L2909 := L2871.k k2906 (by decide)
    have L2910 := L2872.k k2906 (by decide)
    have L2911 := L2873.k k2906 (by decide)
    have rk2912 := rk2868.k k2906 (by decide)
    refine ⟨_, rfl, ?_⟩
    refine ifB_f' ?_
    exact hk2847 .nrm (r2901, s2908, false) _ _ _ _ S2905 ⟨L2909, L2910, Y2907⟩ rk2912 hO2870 ⟨rfl, hp⟩
   ·intro m89 τ2913 s2917 S2914 k2915 Y2916
    have L2918 := L2871.k k2915 (by decide)
    have L2919 := L2872.k k2915 (by decide)
    have L2920 := L2873.k k2915 (by decide)
    have rk2921 := rk2868.k k2915 (by decide)
    refine ⟨_, rfl, ?_⟩
    refine ifB_t' ?_
    exact hk2847 .ret ([], s2917, true) _ _ _ _ S2914 ⟨L2918, L2919, Y2916⟩ rk2921 hO2870 (.inl rfl)
 ·intro st f2922 τ2924 m91 S2925 s2923 hA hp
  obtain ⟨r2826, s2827, d2828⟩ := st
  obtain ⟨hdd, hp⟩ := hp
  replace hdd : d2828 = false := hdd
  subst hdd
  replace hp : ptruthsI_L0 w r2792 [] = some r2826 := hp
  obtain ⟨L2824, L2825, Y2829⟩ := hA
  replace L2824 : Lb F f2922 τ2924 m91 1 m.nxt 1 [(.fn (.yield ly) [] [])] := L2824
  replace L2825 : Lb F f2922 τ2924 m91 2 m15.nxt 6 [(.bool r2792.c0), (.bool r2792.c1), (.bool r2792.c2), (.bool r2792.c3), (.bool r2792.c4), (.bool r2792.c5)] := L2825
  replace Y2829 : Yg n0 (YJ xs I r2826) s2827 F f2922 τ2924 m91 := Y2829
  rw [ptruthsI_L0] at hp
  obtain rfl := Option.some.inj hp
  exact hq _ _ _ _ _ S2925 (.inl Y2829)
 ·intro id st _ _ _ _ _ _ hn; first | exact hn.elim | (cases hn)
 ·intro st f2830 τ2832 m92 S2833 s2831 hA hn
  obtain ⟨r2826, s2827, d2828⟩ := st
  rcases hn with hd | ⟨hd, hid, hp⟩
  ·replace hd : d2828 = true := hd
   subst hd
   obtain ⟨L2824, L2825, Y2829⟩ := hA
   replace L2824 : Lb F f2830 τ2832 m92 1 m.nxt 1 [(.fn (.yield ly) [] [])] := L2824
   replace L2825 : Lb F f2830 τ2832 m92 2 m15.nxt 6 [(.bool r2792.c0), (.bool r2792.c1), (.bool r2792.c2), (.bool r2792.c3), (.bool r2792.c4), (.bool r2792.c5)] := L2825
   replace Y2829 : Yg n0 E s2827 F f2830 τ2832 m92 := Y2829
   exact hq _ _ _ _ _ S2833 (.inr Y2829)
  replace hd : d2828 = false := hd
  subst hd
  replace hp : ptruthsI_L0_xret = some r2826 := hp
  unfold ptruthsI_L0_xret at hp
  obtain ⟨L2824, L2825, Y2829⟩ := hA
  replace L2824 : Lb F f2830 τ2832 m92 1 m.nxt 1 [(.fn (.yield ly) [] [])] := L2824
  replace L2825 : Lb F f2830 τ2832 m92 2 m15.nxt 6 [(.bool r2792.c0), (.bool r2792.c1), (.bool r2792.c2), (.bool r2792.c3), (.bool r2792.c4), (.bool r2792.c5)] := L2825
  replace Y2829 : Yg n0 (YJ xs I r2826) s2827 F f2830 τ2832 m92 := Y2829
  obtain rfl := Option.some.inj hp
  exact hq _ _ _ _ _ S2833 (.inl Y2829)
theorem s_truths {w : Wk} {ca111 ca112 : C} {m f : M} {Q : V → M → Prop} {rz : List Trh} (hS : Pre f m) (ha111 : Sl f ca111 w.s.Cards) (ha112 : Mi f ca112 w.right) (hp : ptruths w = some rz) (hq : ∀ m' f' c0, Grw m f m' f' → It prog tbl f' c0 rz → Q (.c c0) m') : Wc prog tbl 66 [.agg 13 [(Il w.s.Wide), (Il w.s.High), (Il w.s.Fall), (Il w.s.A.Lo), (Il w.s.A.Hi), (Il w.s.B.Lo), (Il w.s.B.Hi), (Il w.s.Half.Lo), (Il w.s.Half.Hi), (Il w.s.Peak.Lo), (Il w.s.Peak.Hi), ca111, ca112]] m Q := by
 have q := hS.st
 obtain ⟨r, _⟩ : ∃ τ : Nat → Nat, True := ⟨fun _ => 0, trivial⟩
 refine w66 ?_
 unfold ptruths at hp
 intro t h
 obtain ⟨o, i, p, j⟩ := q.blk h r 1
 obtain ⟨b, a, d, e⟩ := j.freeze i
 obtain ⟨l, n, hp⟩ := bsome hp
 have g : It prog tbl b ((C.fn (Fn.func 92) [] [(W.c (C0.ptr m.nxt 0))])) l := it_of a.fz a.fv fun u ly I E hc x y z D hS hY Q hq => s_truthsI hc hS hY e (ha111.sub d.fs) (ha112.sub d.fs) n hq
 obtain rfl := Option.some.inj hp
 exact hq _ b (C.fn (Fn.func 92) [] [(W.c (C0.ptr m.nxt 0))]) a.grw g
theorem s_canHold {w : Wk} {these : Cds} {ca111 ca112 : C} {m f : M} {Q : V → M → Prop} {rz : Bool} (hS : Pre f m) (ha111 : Sl f ca111 w.s.Cards) (ha112 : Mi f ca112 w.right) (hp : pcanHold w these = some rz) (hq : ∀ m', Ext m m' → Q (.c (.bool rz)) m') : Wc prog tbl 55 [.agg 13 [(Il w.s.Wide), (Il w.s.High), (Il w.s.Fall), (Il w.s.A.Lo), (Il w.s.A.Hi), (Il w.s.B.Lo), (Il w.s.B.Hi), (Il w.s.Half.Lo), (Il w.s.Half.Hi), (Il w.s.Peak.Lo), (Il w.s.Peak.Hi), ca111, ca112], .agg 6 [(.bool these.c0), (.bool these.c1), (.bool these.c2), (.bool these.c3), (.bool these.c4), (.bool these.c5)]] m Q := by
 have S0 := hS.st
 obtain ⟨τ0, _⟩ : ∃ τ : Nat → Nat, True := ⟨fun _ => 0, trivial⟩
 refine w55 ?_
 unfold pcanHold at hp
 intro m0 Da
 obtain ⟨Ea, Fa, Sb, Ga⟩ := S0.blk Da τ0 1
 intro m1 Ia
 obtain ⟨Ja, Ka, La, Ma⟩ := Fa.blk Ia Ea 2
 have Na := Ga.k La
 intro m2 Oa
 obtain ⟨da, ea, fa, Pa⟩ := Ka.blk Oa Ja 3
 have ga := Na.k fa
 have Qa := Ma.k fa
 refine ⟨trivial, _, _, _, _, _, _, _, _, _, _, _, _, ga.bk.rp (k := 0) (j := 12) rfl (by omega), ?_⟩
 obtain ⟨Tb, Ra, hp⟩ := bsome hp
 refine s_choices (s := w.s) ea.pre ha111 Ra fun fc Ub Vb Sa Ta => ?_
 obtain ⟨Ua, p⟩ := ea.callG Sa da
 have ha := ga.k p
 have ia := Qa.k p
 have ja := Pa.k p
 refine ⟨_, rfl, ?_⟩
 refine range_st (α := Trh) Ua Ta (σ := Bool) 4 (fun st bb => (False ∨ (False ∨ False))) (fun st gG gF gT gM => (Lb gG gF gT gM 1 m.nxt 13 [(Il w.s.Wide), (Il w.s.High), (Il w.s.Fall), (Il w.s.A.Lo), (Il w.s.A.Hi), (Il w.s.B.Lo), (Il w.s.B.Hi), (Il w.s.Half.Lo), (Il w.s.Half.Hi), (Il w.s.Peak.Lo), (Il w.s.Peak.Hi), ca111, ca112]) ∧ (Lb gG gF gT gM 2 m0.nxt 6 [(.bool these.c0), (.bool these.c1), (.bool these.c2), (.bool these.c3), (.bool these.c4), (.bool these.c5)]) ∧ (Lb gG gF gT gM 3 m1.nxt 1 [(.bool st)])) (fun rr_ st => pcanHold_L0 w these rr_ st = some rz) (fun ex st => (match ex with | .ret => (0 : Nat) = 0 ∧ pcanHold_L0_xret st = some rz | _ => False)) (fun st => (Gud.and (Gud.lb ha.bk.lt (by decide)) (Gud.and (Gud.lb ia.bk.lt (by decide)) (Gud.lb ja.bk.lt (by decide))))) (st0 := (false)) (τ := da) ⟨ha, ia, ja⟩ hp ?_ ?_ ?_ ?_
 ·intro g Va b D q ta F Wb Pb Qb Rb Wa Xa hA ua hp va l
  obtain ⟨d, e, a⟩ := hA
  replace d : Lb F D q ta 1 m.nxt 13 [(Il w.s.Wide), (Il w.s.High), (Il w.s.Fall), (Il w.s.A.Lo), (Il w.s.A.Hi), (Il w.s.B.Lo), (Il w.s.B.Hi), (Il w.s.Half.Lo), (Il w.s.Half.Hi), (Il w.s.Peak.Lo), (Il w.s.Peak.Hi), ca111, ca112] := d
  replace e : Lb F D q ta 2 m0.nxt 6 [(.bool these.c0), (.bool these.c1), (.bool these.c2), (.bool these.c3), (.bool these.c4), (.bool these.c5)] := e
  replace a : Lb F D q ta 3 m1.nxt 1 [(.bool b)] := a
  replace hp : pcanHold_L0 w these (g :: Va) b = some rz := hp
  rw [pcanHold_L0] at hp
  refine ⟨_, _, _, _, rfl, ?_⟩
  intro gc Ya
  obtain ⟨ka, Za, r, ab⟩ := Wa.blk Ya q 5
  have cb := d.k r
  have db := e.k r
  have eb := a.k r
  have wa := ua.k r
  obtain ⟨fb, gb, hb, t, ib⟩ := ab.sto Za [(Il g.A), (Il g.B), (Il g.Half), (Il g.Peak)]
  have jb := cb.k t
  have kb := db.k t
  have mb := eb.k t
  have xa := wa.k t
  refine ⟨fb, gb, ?_⟩
  refine va _ _ _ _ hb xa fun hc Xb n x Z o => ?_
  have G := jb.k x
  have i := kb.k x
  have la := mb.k x
  have nb := ib.k x
  refine ⟨trivial, _, G.bk.rc rfl, _, _, _, _, nb.bk.ra, ?_⟩
  obtain ⟨ob, hp⟩ := gd_some hp
  refine ⟨_, (Mi.sub (ha112.sub (Sub.trans p.fs Xa)) n.sub).mi.lk kl40 (k := g) ob rfl, ?_⟩
  cases aa : (mget w.right g) with
  | none =>
   rw [mcase_none aa] at hp
   refine ⟨fun _ => ?_, fun u hu => (by cases hu)⟩
   refine ⟨_, _, _, _, _, _, i.bk.ra, ?_⟩
   obtain ⟨Yb, pb, hp⟩ := bsome hp
   refine s_among (c := ({ c0 := false, c1 := false, c2 := false, c3 := false, c4 := false, c5 := false } : Cds)) (these := these) n.pre  pb fun ic qb => ?_
   obtain ⟨ma, y⟩ := n.call qb ka
   have na := G.k y
   have I := i.k y
   have oa := la.k y
   have ba := Z.k y
   refine ⟨_, _, _, _, _, _, rfl, _, _, _, _, _, _, I.bk.ra, (i.bk.ra), ?_⟩
   refine ifbb hp (fun rb hp => ?_) fun rb hp => ?_; rotate_left
   ·exact l .nrm (b) _ _ _ _ ma ⟨na, I, oa⟩ ba o hp
   obtain ⟨sb, tb, ub, J, vb⟩ := oa.sto ma [(.bool true)]
   have wb := na.k J
   have xb := I.k J
   have ya := ba.k J
   refine ⟨sb, tb, ?_⟩
   exact l .ret (true) _ _ _ _ ub ⟨wb, xb, vb⟩ ya o ⟨rfl, hp⟩
  | some yb =>
   rw [mcase_some aa] at hp
   refine ⟨fun h => (by cases h), fun u hu => ?_⟩
   obtain rfl := Option.some.inj hu
   refine ⟨_, _, _, _, _, _, rfl, _, _, _, _, _, _, i.bk.ra, ?_⟩
   obtain ⟨Zb, zb, hp⟩ := bsome hp
   refine s_among (c := yb) (these := these) n.pre  zb fun jc Ab => ?_
   obtain ⟨pa, z⟩ := n.call Ab ka
   have qa := G.k z
   have N := i.k z
   have sa := la.k z
   have ca := Z.k z
   refine ⟨_, _, _, _, _, _, rfl, _, _, _, _, _, _, N.bk.ra, (i.bk.ra), ?_⟩
   refine ifbb hp (fun Bb hp => ?_) fun Bb hp => ?_; rotate_left
   ·exact l .nrm (b) _ _ _ _ pa ⟨qa, N, sa⟩ ca o hp
   obtain ⟨Cb, Db, Eb, O, Fb⟩ := sa.sto pa [(.bool true)]
   have Gb := qa.k O
   have Hb := N.k O
   have za := ca.k O
   refine ⟨Cb, Db, ?_⟩
   exact l .ret (true) _ _ _ _ Eb ⟨Gb, Hb, Fb⟩ za o ⟨rfl, hp⟩
 ·intro b P S Aa Ib ac hA hp
  replace hp : pcanHold_L0 w these [] b = some rz := hp
  obtain ⟨d, e, a⟩ := hA
  replace d : Lb (Fm.of m) P S Aa 1 m.nxt 13 [(Il w.s.Wide), (Il w.s.High), (Il w.s.Fall), (Il w.s.A.Lo), (Il w.s.A.Hi), (Il w.s.B.Lo), (Il w.s.B.Hi), (Il w.s.Half.Lo), (Il w.s.Half.Hi), (Il w.s.Peak.Lo), (Il w.s.Peak.Hi), ca111, ca112] := d
  replace e : Lb (Fm.of m) P S Aa 2 m0.nxt 6 [(.bool these.c0), (.bool these.c1), (.bool these.c2), (.bool these.c3), (.bool these.c4), (.bool these.c5)] := e
  replace a : Lb (Fm.of m) P S Aa 3 m1.nxt 1 [(.bool b)] := a
  rw [pcanHold_L0] at hp
  obtain ⟨Jb, Kb, Mb, bc, Nb⟩ := a.sto Ib [(.bool false)]
  refine ⟨Jb, Kb, ?_⟩
  refine ⟨_, Nb.bk.rc rfl, ?_⟩
  obtain rfl := Option.some.inj hp
  exact hq _ Mb.ext'
 ·intro id st _ _ _ _ _ _ hn; first | exact hn.elim | (cases hn)
 ·intro b T Y Ba Ob cc hA hn
  obtain ⟨hid, hp⟩ := hn
  replace hp : pcanHold_L0_xret b = some rz := hp
  unfold pcanHold_L0_xret at hp
  obtain ⟨d, e, a⟩ := hA
  replace d : Lb (Fm.of m) T Y Ba 1 m.nxt 13 [(Il w.s.Wide), (Il w.s.High), (Il w.s.Fall), (Il w.s.A.Lo), (Il w.s.A.Hi), (Il w.s.B.Lo), (Il w.s.B.Hi), (Il w.s.Half.Lo), (Il w.s.Half.Hi), (Il w.s.Peak.Lo), (Il w.s.Peak.Hi), ca111, ca112] := d
  replace e : Lb (Fm.of m) T Y Ba 2 m0.nxt 6 [(.bool these.c0), (.bool these.c1), (.bool these.c2), (.bool these.c3), (.bool these.c4), (.bool these.c5)] := e
  replace a : Lb (Fm.of m) T Y Ba 3 m1.nxt 1 [(.bool b)] := a
  refine ⟨_, a.bk.rc rfl, ?_⟩
  obtain rfl := Option.some.inj hp
  exact hq _ Ob.ext'
theorem s_hasTruth {w : Wk} {ca111 ca112 : C} {m f : M} {Q : V → M → Prop} {rz : Bool} (hS : Pre f m) (ha111 : Sl f ca111 w.s.Cards) (ha112 : Mi f ca112 w.right) (hp : phasTruth w = some rz) (hq : ∀ m', Ext m m' → Q (.c (.bool rz)) m') : Wc prog tbl 59 [.agg 13 [(Il w.s.Wide), (Il w.s.High), (Il w.s.Fall), (Il w.s.A.Lo), (Il w.s.A.Hi), (Il w.s.B.Lo), (Il w.s.B.Hi), (Il w.s.Half.Lo), (Il w.s.Half.Hi), (Il w.s.Peak.Lo), (Il w.s.Peak.Hi), ca111, ca112]] m Q := by
 have x := hS.st
 obtain ⟨y, _⟩ : ∃ τ : Nat → Nat, True := ⟨fun _ => 0, trivial⟩
 refine w59 ?_
 unfold phasTruth at hp
 intro F g
 obtain ⟨b, d, r, a⟩ := x.blk g y 1
 refine ⟨_, _, _, _, _, _, _, _, _, _, _, _, _, a.bk.ra, _, _, _, _, _, _, _, _, _, _, _, _, _, a.bk.ra, ?_⟩
 obtain ⟨h, i, hp⟩ := bsome hp
 refine s_allCards (w := w) d.pre ha111 ha112 i fun z j => ?_
 obtain ⟨e, l⟩ := d.call j b
 have n := a.k l
 refine ⟨_, _, _, _, _, _, rfl, (by rw [show allS cmC _ = true from cmL_of (nf_cons rfl (nf_cons rfl (nf_cons rfl (nf_cons rfl (nf_cons rfl (nf_cons rfl (nf_cons rfl (nf_cons rfl (nf_cons rfl (nf_cons rfl (nf_cons rfl (nf_cons ha111.noFn (nf_cons ha112.noFn nf_nil)))))))))))))]; exact (n.bk.ra)), ?_⟩
 obtain ⟨t, o, hp⟩ := bsome hp
 refine s_canHold (w := w) (these := h) e.pre ha111 ha112 o fun D p => ?_
 obtain ⟨q, u⟩ := e.call p b
 refine ⟨_, rfl, ?_⟩
 obtain rfl := Option.some.inj hp
 exact hq _ q.ext'
theorem s_openTrue {s : Stm} {asked : List Rct} {ca111 ca200 : C} {m f : M} {Q : V → M → Prop} {rz : Wk × Int} (hS : Pre f m) (ha111 : Sl f ca111 s.Cards) (ha200 : Sl f ca200 asked) (hp : popenTrue s asked = some rz) (hq : ∀ m' f' c11 c12, Grw m f m' f' → Sl f' c11 rz.1.s.Cards → Mi f' c12 rz.1.right → Q (.tup [.agg 13 [(Il rz.1.s.Wide), (Il rz.1.s.High), (Il rz.1.s.Fall), (Il rz.1.s.A.Lo), (Il rz.1.s.A.Hi), (Il rz.1.s.B.Lo), (Il rz.1.s.B.Hi), (Il rz.1.s.Half.Lo), (Il rz.1.s.Half.Hi), (Il rz.1.s.Peak.Lo), (Il rz.1.s.Peak.Hi), c11, c12], .c (Il rz.2)]) m') : Wc prog tbl 29 [.agg 12 [(Il s.Wide), (Il s.High), (Il s.Fall), (Il s.A.Lo), (Il s.A.Hi), (Il s.B.Lo), (Il s.B.Hi), (Il s.Half.Lo), (Il s.Half.Hi), (Il s.Peak.Lo), (Il s.Peak.Hi), ca111], .c ca200] m Q := by
 have S0 := hS.st
 obtain ⟨τ0, _⟩ : ∃ τ : Nat → Nat, True := ⟨fun _ => 0, trivial⟩
 refine w29 ?_
 unfold popenTrue at hp
 intro m0 O
 obtain ⟨P, S, Va, T⟩ := S0.blk O τ0 1
 intro m1 Y
 obtain ⟨b, j, Z, aa⟩ := S.blk Y P 2
 have n := T.k Z
 refine ⟨_, _, _, _, _, _, _, _, _, _, _, _, n.bk.ra, ?_⟩
 obtain ⟨Wa, ba, hp⟩ := bsome hp
 refine s_check (s := s) j.pre ha111 ba fun gb ca => ?_
 obtain ⟨e, o⟩ := j.call ca b
 have p := n.k o
 have q := aa.k o
 refine ⟨_, rfl, ?_⟩
 refine ifnd hp (fun da hp => ?_) fun da hp => ?_
 ·obtain ⟨ea, fa, ga, Xa, ha⟩ := q.sto e [(Il 0), (Il 0), (Il 0), (Il 0), (Il 0), (Il 0), (Il 0), (Il 0), (Il 0), (Il 0), (Il 0), .sl0, C.map0]
  refine ⟨ea, fa, ?_⟩
  refine ⟨_, _, _, _, _, _, _, _, _, _, _, _, _, ha.bk.ra, ?_⟩
  obtain rfl := Option.some.inj hp
  exact hq _ f .sl0 C.map0 ga.grw (Sl.nil _) (show Mi _ .map0 none from rfl)
 refine ⟨_, _, _, _, _, _, _, _, _, _, _, _, p.bk.ra, ?_⟩
 obtain ⟨Sa, Ta, Ua⟩ : ∃ ws, mapO vW [.agg 12 [(Il s.Wide), (Il s.High), (Il s.Fall), (Il s.A.Lo), (Il s.A.Hi), (Il s.B.Lo), (Il s.B.Hi), (Il s.Half.Lo), (Il s.Half.Hi), (Il s.Peak.Lo), (Il s.Peak.Hi), ca111]] = some ws ∧ mapS wV ws = [.agg 12 [(Il s.Wide), (Il s.High), (Il s.Fall), (Il s.A.Lo), (Il s.A.Hi), (Il s.B.Lo), (Il s.B.Hi), (Il s.Half.Lo), (Il s.Half.Hi), (Il s.Peak.Lo), (Il s.Peak.Hi), ca111]] := (vWs_cons (vW_agg (nf_cons rfl (nf_cons rfl (nf_cons rfl (nf_cons rfl (nf_cons rfl (nf_cons rfl (nf_cons rfl (nf_cons rfl (nf_cons rfl (nf_cons rfl (nf_cons rfl (nf_cons ha111.noFn nf_nil))))))))))))) vWs_nil)
 rw [Ta, optB_some]
 have N : Fv_Rct_Bool f ((C.fn (Fn.func 65) Sa [])) (fun d => phasRect s d) := by
  intro f' m' d r Q hs hpre  hg hq
  show Wc prog tbl 65 (appS (mapS wV Sa) _) m' Q
  rw [Ua]
  exact s_hasRect hpre (ha111.sub hs) hg hq
 obtain ⟨Ya, ia, hp⟩ := bsome hp
 refine s_eachR (l := asked) (passes := (fun d => phasRect s d)) e.pre ha200 N ia fun hb ja => ?_
 obtain ⟨g, t⟩ := e.call ja b
 have ka := p.k t
 have u := q.k t
 refine ⟨_, rfl, ?_⟩
 refine ifnb hp (fun la hp => ?_) fun la hp => ?_
 ·obtain ⟨ma, na, oa, Za, pa⟩ := u.sto g [(Il 0), (Il 0), (Il 0), (Il 0), (Il 0), (Il 0), (Il 0), (Il 0), (Il 0), (Il 0), (Il 0), .sl0, C.map0]
  refine ⟨ma, na, ?_⟩
  refine ⟨_, _, _, _, _, _, _, _, _, _, _, _, _, pa.bk.ra, ?_⟩
  obtain rfl := Option.some.inj hp
  exact hq _ f .sl0 C.map0 oa.grw (Sl.nil _) (show Mi _ .map0 none from rfl)
 refine ⟨_, _, _, _, _, _, _, _, _, _, _, _, ka.bk.ra, ?_⟩
 obtain ⟨a, qa, hp⟩ := bsome hp
 refine s_open (s := s) g.pre ha111 qa fun ib x h i sa y z => ?_
 obtain ⟨ta, ua⟩ := g.callG sa b
 have va := u.k ua
 refine ⟨_, _, _, _, _, _, _, _, _, _, _, _, _, rfl, ?_⟩
 intro jb wa
 obtain ⟨xa, ya, za, Aa⟩ := ta.blk wa b 3
 have Ba := va.k za
 obtain ⟨Ca, Da, D, Ea, F⟩ := Aa.sto ya [(Il a.s.Wide), (Il a.s.High), (Il a.s.Fall), (Il a.s.A.Lo), (Il a.s.A.Hi), (Il a.s.B.Lo), (Il a.s.B.Hi), (Il a.s.Half.Lo), (Il a.s.Half.Hi), (Il a.s.Peak.Lo), (Il a.s.Peak.Hi), h, i]
 have Fa := Ba.k Ea
 refine ⟨Ca, Da, ?_⟩
 refine ⟨_, _, _, _, _, _, _, _, _, _, _, _, _, F.bk.ra, ?_⟩
 obtain ⟨ab, Ga, hp⟩ := bsome hp
 refine s_hasTruth (w := a) D.pre y z Ga fun fb Ha => ?_
 obtain ⟨G, I⟩ := D.call Ha xa
 have J := Fa.k I
 have Ia := F.k I
 refine ⟨_, rfl, ?_⟩
 refine ifnb hp (fun Ja hp => ?_) fun Ja hp => ?_
 ·obtain ⟨Ka, La, Ma, bb, Na⟩ := J.sto G [(Il 0), (Il 0), (Il 0), (Il 0), (Il 0), (Il 0), (Il 0), (Il 0), (Il 0), (Il 0), (Il 0), .sl0, C.map0]
  refine ⟨Ka, La, ?_⟩
  refine ⟨_, _, _, _, _, _, _, _, _, _, _, _, _, Na.bk.ra, ?_⟩
  obtain rfl := Option.some.inj hp
  exact hq _ x .sl0 C.map0 Ma.grw (Sl.nil _) (show Mi _ .map0 none from rfl)
 refine ⟨_, _, _, _, _, _, _, _, _, _, _, _, _, Ia.bk.ra, ?_⟩
 obtain ⟨Oa, Pa, Qa, cb, Ra⟩ := J.sto G [(Il a.s.Wide), (Il a.s.High), (Il a.s.Fall), (Il a.s.A.Lo), (Il a.s.A.Hi), (Il a.s.B.Lo), (Il a.s.B.Hi), (Il a.s.Half.Lo), (Il a.s.Half.Hi), (Il a.s.Peak.Lo), (Il a.s.Peak.Hi), h, i]
 refine ⟨Oa, Pa, ?_⟩
 refine ⟨_, _, _, _, _, _, _, _, _, _, _, _, _, Ra.bk.ra, ?_⟩
 obtain rfl := Option.some.inj hp
 exact hq _ x h i Qa.grw y z
theorem s_minimum {l : List Int} {ca100 : C} {m f : M} {Q : V → M → Prop} {rz : Int} (hS : Pre f m) (ha100 : Sl f ca100 l) (hp : pminimum l = some rz) (hq : ∀ m', Ext m m' → Q (.c (Il rz)) m') : Wc prog tbl 67 [.c ca100] m Q := by
 have z := hS.st
 obtain ⟨F, _⟩ : ∃ τ : Nat → Nat, True := ⟨fun _ => 0, trivial⟩
 refine w67 ?_
 unfold pminimum at hp
 refine ⟨ha100.isSl, ?_⟩
 try rw [ha100.slLen]
 refine ifd hp (fun p hp => ?_) fun p hp => ?_
 ·obtain rfl := Option.some.inj hp
  exact hq _ z.ext'
 obtain ⟨B, e, hp⟩ := bsome hp
 obtain ⟨G, j, h, e⟩ := idx_some e
 refine ⟨G, j, (by first | exact h | (rw [ha100.slLen]; exact h)), _, (ha100.rdI e z.sub), ha100.isSl, ?_⟩
 intro I A
 have hgo : ∀ (b : Nat) (q : Int) (r : Int) (s : M) (d : Nat → Nat), St (Fm.of m) f f s → pminimum_L0 l b q r = some rz → I [.c (Il q), .c (Il r)] s := by
  intro b
  induction b with
  | zero => intro q r s d a hp; cases hp
  | succ b n =>
   intro q r s d a hp
   refine A _ _ _ ?_
   rw [pminimum_L0] at hp
   try rw [ha100.slLen]
   refine ifd hp (fun t hp => ?_) fun t hp => ?_; rotate_left
   ·obtain rfl := Option.some.inj hp
    exact hq _ a.ext'
   obtain ⟨D, g, hp⟩ := bsome hp
   obtain ⟨J, o, i, g⟩ := idx_some g
   refine ⟨J, o, (by first | exact i | (rw [ha100.slLen]; exact i)), _, (ha100.rdI g a.sub), ?_⟩
   refine ifd hp (fun u hp => ?_) fun u hp => ?_
   ·refine gdi hp fun x hp => ?_
    exact n _ _ _ d a hp
   refine gdi hp fun y hp => ?_
   exact n _ _ _ d a hp
 exact hgo _ _ _ _ F z hp
theorem s_sMax {l : List Int} {ca100 : C} {m f : M} {Q : V → M → Prop} {rz : Int} (hS : Pre f m) (ha100 : Sl f ca100 l) (hp : psMax l = some rz) (hq : ∀ m', Ext m m' → Q (.c (Il rz)) m') : Wc prog tbl 68 [.c ca100] m Q := by
 have x := hS.st
 obtain ⟨B, _⟩ : ∃ τ : Nat → Nat, True := ⟨fun _ => 0, trivial⟩
 refine w68 ?_
 unfold psMax at hp
 refine ⟨ha100.isSl, ?_⟩
 try rw [ha100.slLen]
 refine ifd hp (fun o hp => ?_) fun o hp => ?_
 ·cases hp
 obtain ⟨z, d, hp⟩ := bsome hp
 obtain ⟨D, j, h, d⟩ := idx_some d
 refine ⟨D, j, (by first | exact h | (rw [ha100.slLen]; exact h)), _, (ha100.rdI d x.sub), ?_⟩
 intro F y
 have hgo : ∀ (a : Nat) (p : Int) (q : Int) (r : M) (e : Nat → Nat), St (Fm.of m) f f r → psMax_L0 l a p q = some rz → F [.c (Il p), .c (Il q)] r := by
  intro a
  induction a with
  | zero => intro p q r e b hp; cases hp
  | succ a u =>
   intro p q r e b hp
   refine y _ _ _ ?_
   rw [psMax_L0] at hp
   refine ⟨ha100.isSl, ?_⟩
   try rw [ha100.slLen]
   refine ifd hp (fun s hp => ?_) fun s hp => ?_; rotate_left
   ·obtain rfl := Option.some.inj hp
    exact hq _ b.ext'
   obtain ⟨A, g, hp⟩ := bsome hp
   obtain ⟨G, n, i, g⟩ := idx_some g
   refine ⟨G, n, (by first | exact i | (rw [ha100.slLen]; exact i)), _, (ha100.rdI g b.sub), ?_⟩
   refine gdi hp fun t hp => ?_
   exact u _ _ _ e b hp
 exact hgo _ _ _ _ B x hp
theorem s_span {w : Wk} {number : Trh → Option (Int)} {ca111 ca112 ca200 : C} {m f : M} {Q : V → M → Prop} {rz : Rg} (hS : Pre f m) (ha111 : Sl f ca111 w.s.Cards) (ha112 : Mi f ca112 w.right) (ha200 : Fv_Trh_Int f ca200 number) (hp : pspan w number = some rz) (hq : ∀ m', Ext m m' → Q (.agg 2 [(Il rz.Lo), (Il rz.Hi)]) m') : Wc prog tbl 30 [.agg 13 [(Il w.s.Wide), (Il w.s.High), (Il w.s.Fall), (Il w.s.A.Lo), (Il w.s.A.Hi), (Il w.s.B.Lo), (Il w.s.B.Hi), (Il w.s.Half.Lo), (Il w.s.Half.Hi), (Il w.s.Peak.Lo), (Il w.s.Peak.Hi), ca111, ca112], .c ca200] m Q := by
 have S0 := hS.st
 obtain ⟨τ0, _⟩ : ∃ τ : Nat → Nat, True := ⟨fun _ => 0, trivial⟩
 refine w30 ?_
 unfold pspan at hp
 intro m0 Ba
 obtain ⟨Ca, Da, sc, Ea⟩ := S0.blk Ba τ0 1
 intro m1 Fa
 obtain ⟨Ga, Ha, Ia, Ja⟩ := Da.blk Fa Ca 2
 have Ka := Ea.k Ia
 intro m2 La
 obtain ⟨Ma, Na, Z, Oa⟩ := Ha.blk La Ga 3
 have Pa := Ka.k Z
 have Qa := Ja.k Z
 intro m3 Ra
 obtain ⟨aa, ba, I, Sa⟩ := Na.blk Ra Ma 4
 have ca := Pa.k I
 have Ta := Qa.k I
 have Ua := Oa.k I
 refine ⟨_, _, _, _, _, _, _, _, _, _, _, _, _, ca.bk.ra, ?_⟩
 obtain ⟨tc, Va, hp⟩ := bsome hp
 refine s_truths (w := w) ba.pre ha111 ha112 Va fun Ec uc vc Wa Xa => ?_
 obtain ⟨Ya, u⟩ := ba.callG Wa aa
 have da := ca.k u
 have ea := Ta.k u
 have fa := Ua.k u
 have ga := Sa.k u
 refine ⟨_, rfl, ?_⟩
 refine range_st (α := Trh) Ya Xa (σ := (List Int) × C) 5 (fun st bb => (False ∨ (False ∨ (False ∨ (False ∨ (ownBlk st.2 bb)))))) (fun st gG gF gT gM => (Lb gG gF gT gM 1 m.nxt 13 [(Il w.s.Wide), (Il w.s.High), (Il w.s.Fall), (Il w.s.A.Lo), (Il w.s.A.Hi), (Il w.s.B.Lo), (Il w.s.B.Hi), (Il w.s.Half.Lo), (Il w.s.Half.Hi), (Il w.s.Peak.Lo), (Il w.s.Peak.Hi), ca111, ca112]) ∧ (Lb gG gF gT gM 2 m0.nxt 1 [ca200]) ∧ (Lb gG gF gT gM 3 m1.nxt 2 [(Il 0), (Il 0)]) ∧ (Lb gG gF gT gM 4 m2.nxt 1 [st.2]) ∧ (Ow gG gF gT gM 6 st.2 st.1)) (fun rr_ st => pspan_L0 number rr_ st.1 = some rz) (fun ex st => False) (fun st => (Gud.and (Gud.lb da.bk.lt (by decide)) (Gud.and (Gud.lb ea.bk.lt (by decide)) (Gud.and (Gud.lb fa.bk.lt (by decide)) (Gud.and (Gud.lb ga.bk.lt (by decide)) (Gud.ow (by decide))))))) (st0 := ([], .sl0)) (τ := aa) ⟨da, ea, fa, ga, (Ow.nil _ _ _ _ _)⟩ hp ?_ ?_ ?_ ?_
 ·intro x Za st i j T y wc oc pc qc ab cb hA qa hp sa ta
  obtain ⟨d, z⟩ := st
  obtain ⟨n, o, g, e, b⟩ := hA
  replace n : Lb y i j T 1 m.nxt 13 [(Il w.s.Wide), (Il w.s.High), (Il w.s.Fall), (Il w.s.A.Lo), (Il w.s.A.Hi), (Il w.s.B.Lo), (Il w.s.B.Hi), (Il w.s.Half.Lo), (Il w.s.Half.Hi), (Il w.s.Peak.Lo), (Il w.s.Peak.Hi), ca111, ca112] := n
  replace o : Lb y i j T 2 m0.nxt 1 [ca200] := o
  replace g : Lb y i j T 3 m1.nxt 2 [(Il 0), (Il 0)] := g
  replace e : Lb y i j T 4 m2.nxt 1 [z] := e
  replace b : Ow y i j T 6 z d := b
  replace hp : pspan_L0 number (x :: Za) d = some rz := hp
  rw [pspan_L0] at hp
  refine ⟨_, _, _, _, rfl, ?_⟩
  intro Fc db
  obtain ⟨eb, fb, p, gb⟩ := ab.blk db j 7
  have hb := n.k p
  have ib := o.k p
  have jb := g.k p
  have kb := e.k p
  have b := b.k p
  have ua := qa.k p
  obtain ⟨mb, nb, ob, q, pb⟩ := gb.sto fb [(Il x.A), (Il x.B), (Il x.Half), (Il x.Peak)]
  have qb := hb.k q
  have rb := ib.k q
  have sb := jb.k q
  have tb := kb.k q
  have b := b.k q
  have va := ua.k q
  refine ⟨mb, nb, ?_⟩
  refine sa _ _ _ _ ob va fun Gc xc ha r wa xa => ?_
  have ub := qb.k r
  have ia := rb.k r
  have vb := sb.k r
  have ja := tb.k r
  have wb := pb.k r
  have b := b.k r
  refine ⟨_, ja.bk.rc rfl, _, ia.bk.rc rfl, _, _, _, _, wb.bk.ra, ?_⟩
  obtain ⟨J, xb, hp⟩ := bsome hp
  refine (ha200.sub (Sub.trans u.fs cb)) _ _ _ _ _ (Sub.refl _) ha.pre  xb fun Hc yb => ?_
  obtain ⟨zb, t⟩ := ha.call yb eb
  have Ab := ub.k t
  have Bb := ia.k t
  have Cb := vb.k t
  have N := ja.k t
  have b := b.k t
  have ya := wa.k t
  refine ⟨_, rfl, (by rw [show cmC _ = true from cmC_of (b.noFn)]; exact (N.bk.rc rfl)), ?_⟩
  obtain ⟨Db, hp⟩ := gd_some hp
  intro Ic ka
  refine ⟨(by rw [show cmC _ = true from cmC_of (b.noFn)]; exact (N.bk.ext (Bk.new ka).2).rc rfl), ?_⟩
  obtain ⟨O, Eb, yc, Fb, Gb, D, P⟩ := b.app' ta62 zb (a := J) (show Rp.rep (α := Int) i _ J from rfl) Db ka
  have Hb := Ab.k D
  have Ib := Bb.k D
  have Jb := Cb.k D
  have Kb := N.k D
  have za := ya.k D
  refine ⟨O, Eb, Fb, ?_⟩
  obtain ⟨Mb, Nb, Ob, F, Pb⟩ := Kb.sto Gb [O]
  have Qb := Hb.k F
  have Rb := Ib.k F
  have Sb := Jb.k F
  have P := P.k F
  have Aa := za.k F
  refine ⟨Mb, Nb, ?_⟩
  exact ta .nrm ((d ++ [J]), O) _ _ _ _ Ob ⟨Qb, Rb, Sb, Pb, P⟩ Aa xa hp
 ·intro st G h Y Tb zc hA hp
  obtain ⟨d, z⟩ := st
  replace hp : pspan_L0 number [] d = some rz := hp
  obtain ⟨n, o, g, e, b⟩ := hA
  replace n : Lb (Fm.of m) G h Y 1 m.nxt 13 [(Il w.s.Wide), (Il w.s.High), (Il w.s.Fall), (Il w.s.A.Lo), (Il w.s.A.Hi), (Il w.s.B.Lo), (Il w.s.B.Hi), (Il w.s.Half.Lo), (Il w.s.Half.Hi), (Il w.s.Peak.Lo), (Il w.s.Peak.Hi), ca111, ca112] := n
  replace o : Lb (Fm.of m) G h Y 2 m0.nxt 1 [ca200] := o
  replace g : Lb (Fm.of m) G h Y 3 m1.nxt 2 [(Il 0), (Il 0)] := g
  replace e : Lb (Fm.of m) G h Y 4 m2.nxt 1 [z] := e
  replace b : Ow (Fm.of m) G h Y 6 z d := b
  rw [pspan_L0] at hp
  refine ⟨_, e.bk.rc rfl, ?_⟩
  obtain ⟨Ac, la, ma, S⟩ := b.freeze Tb
  have Ub := g.k ma
  have na := e.k ma
  obtain ⟨Vb, Wb, hp⟩ := bsome hp
  refine s_minimum (l := d) la.pre S Wb fun Jc Xb => ?_
  obtain ⟨oa, pa⟩ := la.call Xb h
  have Yb := Ub.k pa
  have Zb := na.k pa
  refine ⟨_, rfl, _, Zb.bk.rc rfl, (by rw [show cmC _ = true from cmC_of (S.noFn)]; exact (na.bk.rc rfl)), ?_⟩
  obtain ⟨ac, bc, hp⟩ := bsome hp
  refine s_sMax (l := d) oa.pre S bc fun Kc cc => ?_
  obtain ⟨dc, ec⟩ := oa.call cc h
  have fc := Yb.k ec
  refine ⟨_, rfl, ?_⟩
  obtain ⟨gc, hc, ic, Bc, jc⟩ := fc.sto dc [(Il Vb), (Il ac)]
  refine ⟨gc, hc, ?_⟩
  refine ⟨_, _, jc.bk.ra, ?_⟩
  obtain rfl := Option.some.inj hp
  exact hq _ ic.ext'
 ·intro id st _ _ _ _ _ _ hn; first | exact hn.elim | (cases hn)
 ·intro st _ _ _ _ _ _ hn; first | exact hn.elim | (cases hn)
theorem s_bA {t : Trh} {m f : M} {Q : V → M → Prop} {rz : Int} (hS : Pre f m)  (hp : pbA t = some rz) (hq : ∀ m', Ext m m' → Q (.c (Il rz)) m') : Wc prog tbl 31 [.agg 4 [(Il t.A), (Il t.B), (Il t.Half), (Il t.Peak)]] m Q := by
 have h := hS.st
 obtain ⟨i, _⟩ : ∃ τ : Nat → Nat, True := ⟨fun _ => 0, trivial⟩
 refine w31 ?_
 unfold pbA at hp
 intro j a
 obtain ⟨e, b, g, d⟩ := h.blk a i 1
 refine ⟨trivial, _, d.bk.rc rfl, ?_⟩
 obtain rfl := Option.some.inj hp
 exact hq _ b.ext'
theorem s_bB {t : Trh} {m f : M} {Q : V → M → Prop} {rz : Int} (hS : Pre f m)  (hp : pbB t = some rz) (hq : ∀ m', Ext m m' → Q (.c (Il rz)) m') : Wc prog tbl 32 [.agg 4 [(Il t.A), (Il t.B), (Il t.Half), (Il t.Peak)]] m Q := by
 have h := hS.st
 obtain ⟨i, _⟩ : ∃ τ : Nat → Nat, True := ⟨fun _ => 0, trivial⟩
 refine w32 ?_
 unfold pbB at hp
 intro j a
 obtain ⟨e, b, g, d⟩ := h.blk a i 1
 refine ⟨trivial, _, d.bk.rc rfl, ?_⟩
 obtain rfl := Option.some.inj hp
 exact hq _ b.ext'
theorem s_bHalf {t : Trh} {m f : M} {Q : V → M → Prop} {rz : Int} (hS : Pre f m)  (hp : pbHalf t = some rz) (hq : ∀ m', Ext m m' → Q (.c (Il rz)) m') : Wc prog tbl 33 [.agg 4 [(Il t.A), (Il t.B), (Il t.Half), (Il t.Peak)]] m Q := by
 have h := hS.st
 obtain ⟨i, _⟩ : ∃ τ : Nat → Nat, True := ⟨fun _ => 0, trivial⟩
 refine w33 ?_
 unfold pbHalf at hp
 intro j a
 obtain ⟨e, b, g, d⟩ := h.blk a i 1
 refine ⟨trivial, _, d.bk.rc rfl, ?_⟩
 obtain rfl := Option.some.inj hp
 exact hq _ b.ext'
theorem s_bPeak {t : Trh} {m f : M} {Q : V → M → Prop} {rz : Int} (hS : Pre f m)  (hp : pbPeak t = some rz) (hq : ∀ m', Ext m m' → Q (.c (Il rz)) m') : Wc prog tbl 34 [.agg 4 [(Il t.A), (Il t.B), (Il t.Half), (Il t.Peak)]] m Q := by
 have h := hS.st
 obtain ⟨i, _⟩ : ∃ τ : Nat → Nat, True := ⟨fun _ => 0, trivial⟩
 refine w34 ?_
 unfold pbPeak at hp
 intro j a
 obtain ⟨e, b, g, d⟩ := h.blk a i 1
 refine ⟨trivial, _, d.bk.rc rfl, ?_⟩
 obtain rfl := Option.some.inj hp
 exact hq _ b.ext'
theorem s_cloneC {s : List Crd} {ca100 : C} {m f : M} {Q : V → M → Prop} {rz : List Crd} (hS : Pre f m) (ha100 : Sl f ca100 s) (hp : pcloneC s = some rz) (hq : ∀ m' f' c0, Grw m f m' f' → Sl f' c0 rz → Q (.c c0) m') : Wc prog tbl 35 [.c ca100] m Q := by
 have r := hS.st
 obtain ⟨A, _⟩ : ∃ τ : Nat → Nat, True := ⟨fun _ => 0, trivial⟩
 refine w35 ?_
 unfold pcloneC at hp
 refine ⟨(okN_sl ha100), (okN_sl ha100), trivial, (Bool.or_true _), ?_⟩
 cases b : isNilC ca100 with
 | true =>
  refine ifB_t' ?_
  obtain rfl := sl_nil_of ha100 b
  obtain ⟨_, hp⟩ := gd_some hp
  obtain rfl := Option.some.inj hp
  exact hq _ _ .sl0 r.grw (Sl.nil _)
 | false =>
  refine ifB_f' ?_
  intro B d
  obtain ⟨t, e, u, g⟩ := Ow.lit0 (α := Crd) r A 1 d
  obtain ⟨h, hp⟩ := gd_some hp
  obtain ⟨a, i, x, j, l, y, n⟩ := g.appL ta32 e ha100 h
  refine ⟨a, i, j, ?_⟩
  obtain ⟨o, p, z, q⟩ := n.freeze l
  obtain rfl := Option.some.inj hp
  exact hq _ o a p.grw q
theorem s_Bounds {s : Stm} {ca111 : C} {m f : M} {Q : V → M → Prop} {rz : Stm × Int} (hS : Pre f m) (ha111 : Sl f ca111 s.Cards) (hp : pBounds s = some rz) (hq : ∀ m' f' c11, Grw m f m' f' → Sl f' c11 rz.1.Cards → Q (.tup [.agg 12 [(Il rz.1.Wide), (Il rz.1.High), (Il rz.1.Fall), (Il rz.1.A.Lo), (Il rz.1.A.Hi), (Il rz.1.B.Lo), (Il rz.1.B.Hi), (Il rz.1.Half.Lo), (Il rz.1.Half.Hi), (Il rz.1.Peak.Lo), (Il rz.1.Peak.Hi), c11], .c (Il rz.2)]) m') : Wc prog tbl 6 [.agg 12 [(Il s.Wide), (Il s.High), (Il s.Fall), (Il s.A.Lo), (Il s.A.Hi), (Il s.B.Lo), (Il s.B.Hi), (Il s.Half.Lo), (Il s.Half.Hi), (Il s.Peak.Lo), (Il s.Peak.Hi), ca111]] m Q := by
 have S0 := hS.st
 obtain ⟨τ0, _⟩ : ∃ τ : Nat → Nat, True := ⟨fun _ => 0, trivial⟩
 refine w6 ?_
 unfold pBounds at hp
 intro m0 qa
 obtain ⟨sa, ta, Vb, ua⟩ := S0.blk qa τ0 1
 intro m1 va
 obtain ⟨O, P, wa, xa⟩ := ta.blk va sa 2
 have S := ua.k wa
 refine ⟨_, _, _, _, _, _, _, _, _, _, _, _, S.bk.ra, ?_⟩
 obtain ⟨a, ya, hp⟩ := bsome hp
 refine s_openTrue (s := s) (asked := []) P.pre ha111 (Sl.nil _) ya fun dc h za Aa Ba j l => ?_
 obtain ⟨Ca, x⟩ := P.callG Ba O
 have Da := S.k x
 have Ea := xa.k x
 refine ⟨_, _, _, _, _, _, _, _, _, _, _, _, _, _, rfl, ?_⟩
 intro ec Fa
 obtain ⟨i, Ga, T, Ha⟩ := Ca.blk Fa O 3
 have Ia := Da.k T
 have Ja := Ea.k T
 obtain ⟨Ka, La, y, Y, Z⟩ := Ha.sto Ga [(Il a.1.s.Wide), (Il a.1.s.High), (Il a.1.s.Fall), (Il a.1.s.A.Lo), (Il a.1.s.A.Hi), (Il a.1.s.B.Lo), (Il a.1.s.B.Hi), (Il a.1.s.Half.Lo), (Il a.1.s.Half.Hi), (Il a.1.s.Peak.Lo), (Il a.1.s.Peak.Hi), za, Aa]
 have Ma := Ia.k Y
 have aa := Ja.k Y
 refine ⟨Ka, La, ?_⟩
 refine ifnd hp (fun Na hp => ?_) fun Na hp => ?_
 ·obtain ⟨Oa, Pa, Qa, Wb, Ra⟩ := aa.sto y [(Il 0), (Il 0), (Il 0), (Il 0), (Il 0), (Il 0), (Il 0), (Il 0), (Il 0), (Il 0), (Il 0), .sl0]
  refine ⟨Oa, Pa, ?_⟩
  refine ⟨_, _, _, _, _, _, _, _, _, _, _, _, Ra.bk.ra, ?_⟩
  obtain rfl := Option.some.inj hp
  exact hq _ h .sl0 Qa.grw (Sl.nil _)
 refine ⟨_, _, _, _, _, _, _, _, _, _, _, _, _, Z.bk.ra, ?_⟩
 have ma : Fv_Trh_Int h ((C.fn (Fn.func 31) [] [])) (fun n => pbA n) := by
  intro f' m' n r Q hs hpre  hg hq
  exact s_bA hpre  hg hq
 obtain ⟨b, Sa, hp⟩ := bsome hp
 refine s_span (w := a.1) (number := (fun n => pbA n)) y.pre j l ma Sa fun fc Ta => ?_
 obtain ⟨Ua, z⟩ := y.call Ta i
 have Va := Ma.k z
 have Wa := aa.k z
 have Xa := Z.k z
 refine ⟨_, _, rfl, trivial, ?_⟩
 obtain ⟨Ya, Za, ba, ca, D⟩ := Va.stoP Ua 3 [(Il b.Lo), (Il b.Hi)] (Nat.le_of_ble_eq_true rfl) rfl
 replace D : Lb _ _ _ _ _ _ _ [(Il s.Wide), (Il s.High), (Il s.Fall), (Il b.Lo), (Il b.Hi), (Il s.B.Lo), (Il s.B.Hi), (Il s.Half.Lo), (Il s.Half.Hi), (Il s.Peak.Lo), (Il s.Peak.Hi), ca111] := D
 have ab := Wa.k ca
 have da := Xa.k ca
 refine ⟨Ya, Za, ?_⟩
 refine ⟨_, _, _, _, _, _, _, _, _, _, _, _, _, da.bk.ra, ?_⟩
 have na : Fv_Trh_Int h ((C.fn (Fn.func 32) [] [])) (fun o => pbB o) := by
  intro f' m' o r Q hs hpre  hg hq
  exact s_bB hpre  hg hq
 obtain ⟨d, bb, hp⟩ := bsome hp
 refine s_span (w := a.1) (number := (fun o => pbB o)) ba.pre j l na bb fun gc cb => ?_
 obtain ⟨db, F⟩ := ba.call cb i
 have eb := D.k F
 have fb := ab.k F
 have gb := da.k F
 refine ⟨_, _, rfl, trivial, ?_⟩
 obtain ⟨hb, ib, ea, fa, G⟩ := eb.stoP db 5 [(Il d.Lo), (Il d.Hi)] (Nat.le_of_ble_eq_true rfl) rfl
 replace G : Lb _ _ _ _ _ _ _ [(Il s.Wide), (Il s.High), (Il s.Fall), (Il b.Lo), (Il b.Hi), (Il d.Lo), (Il d.Hi), (Il s.Half.Lo), (Il s.Half.Hi), (Il s.Peak.Lo), (Il s.Peak.Hi), ca111] := G
 have jb := fb.k fa
 have ga := gb.k fa
 refine ⟨hb, ib, ?_⟩
 refine ⟨_, _, _, _, _, _, _, _, _, _, _, _, _, ga.bk.ra, ?_⟩
 have oa : Fv_Trh_Int h ((C.fn (Fn.func 33) [] [])) (fun p => pbHalf p) := by
  intro f' m' p r Q hs hpre  hg hq
  exact s_bHalf hpre  hg hq
 obtain ⟨e, kb, hp⟩ := bsome hp
 refine s_span (w := a.1) (number := (fun p => pbHalf p)) ea.pre j l oa kb fun hc mb => ?_
 obtain ⟨nb, I⟩ := ea.call mb i
 have ob := G.k I
 have pb := jb.k I
 have qb := ga.k I
 refine ⟨_, _, rfl, trivial, ?_⟩
 obtain ⟨rb, sb, ha, ia, J⟩ := ob.stoP nb 7 [(Il e.Lo), (Il e.Hi)] (Nat.le_of_ble_eq_true rfl) rfl
 replace J : Lb _ _ _ _ _ _ _ [(Il s.Wide), (Il s.High), (Il s.Fall), (Il b.Lo), (Il b.Hi), (Il d.Lo), (Il d.Hi), (Il e.Lo), (Il e.Hi), (Il s.Peak.Lo), (Il s.Peak.Hi), ca111] := J
 have tb := pb.k ia
 have ub := qb.k ia
 refine ⟨rb, sb, ?_⟩
 refine ⟨_, _, _, _, _, _, _, _, _, _, _, _, _, ub.bk.ra, ?_⟩
 have pa : Fv_Trh_Int h ((C.fn (Fn.func 34) [] [])) (fun q => pbPeak q) := by
  intro f' m' q r Q hs hpre  hg hq
  exact s_bPeak hpre  hg hq
 obtain ⟨g, vb, hp⟩ := bsome hp
 refine s_span (w := a.1) (number := (fun q => pbPeak q)) ha.pre j l pa vb fun bc wb => ?_
 obtain ⟨xb, ja⟩ := ha.call wb i
 have yb := J.k ja
 have zb := tb.k ja
 refine ⟨_, _, rfl, trivial, ?_⟩
 obtain ⟨Ab, Bb, ka, Cb, t⟩ := yb.stoP xb 9 [(Il g.Lo), (Il g.Hi)] (Nat.le_of_ble_eq_true rfl) rfl
 replace t : Lb _ _ _ _ _ _ _ [(Il s.Wide), (Il s.High), (Il s.Fall), (Il b.Lo), (Il b.Hi), (Il d.Lo), (Il d.Hi), (Il e.Lo), (Il e.Hi), (Il g.Lo), (Il g.Hi), ca111] := t
 have Db := zb.k Cb
 refine ⟨Ab, Bb, ?_⟩
 refine ⟨trivial, _, t.bk.rc rfl, ?_⟩
 obtain ⟨Xb, Eb, hp⟩ := bsome hp
 refine s_cloneC (s := s.Cards) ka.pre (ha111.sub x.fs) Eb fun cc Fb u Gb Hb => ?_
 obtain ⟨Ib, la⟩ := ka.callG Gb i
 have Jb := t.k la
 have Kb := Db.k la
 refine ⟨_, rfl, trivial, ?_⟩
 obtain ⟨Mb, Nb, Ob, Pb, N⟩ := Jb.sto1 Ib 11 u (by simp) rfl
 replace N : Lb _ _ _ _ _ _ _ [(Il s.Wide), (Il s.High), (Il s.Fall), (Il b.Lo), (Il b.Hi), (Il d.Lo), (Il d.Hi), (Il e.Lo), (Il e.Hi), (Il g.Lo), (Il g.Hi), u] := N
 have Qb := Kb.k Pb
 refine ⟨Mb, Nb, ?_⟩
 refine ⟨_, _, _, _, _, _, _, _, _, _, _, _, N.bk.ra, ?_⟩
 obtain ⟨Rb, Sb, Tb, Yb, Ub⟩ := Qb.sto Ob [(Il s.Wide), (Il s.High), (Il s.Fall), (Il b.Lo), (Il b.Hi), (Il d.Lo), (Il d.Hi), (Il e.Lo), (Il e.Hi), (Il g.Lo), (Il g.Hi), u]
 refine ⟨Rb, Sb, ?_⟩
 refine ⟨_, _, _, _, _, _, _, _, _, _, _, _, Ub.bk.ra, ?_⟩
 obtain rfl := Option.some.inj hp
 exact hq _ Fb u Tb.grw Hb
theorem s_ProveTruth {s : Stm} {t : Trh} {ca111 : C} {m f : M} {Q : V → M → Prop} {rz : Bool} (hS : Pre f m) (ha111 : Sl f ca111 s.Cards) (hp : pProveTruth s t = some rz) (hq : ∀ m', Ext m m' → Q (.c (.bool rz)) m') : Wc prog tbl 8 [.agg 12 [(Il s.Wide), (Il s.High), (Il s.Fall), (Il s.A.Lo), (Il s.A.Hi), (Il s.B.Lo), (Il s.B.Hi), (Il s.Half.Lo), (Il s.Half.Hi), (Il s.Peak.Lo), (Il s.Peak.Hi), ca111], .agg 4 [(Il t.A), (Il t.B), (Il t.Half), (Il t.Peak)]] m Q := by
 have S0 := hS.st
 obtain ⟨τ0, _⟩ : ∃ τ : Nat → Nat, True := ⟨fun _ => 0, trivial⟩
 refine w8 ?_
 unfold pProveTruth at hp
 intro m0 u
 obtain ⟨x, y, pa, z⟩ := S0.blk u τ0 1
 intro m1 D
 obtain ⟨e, g, F, G⟩ := y.blk D x 2
 have h := z.k F
 refine ⟨_, _, _, _, _, _, _, _, _, _, _, _, h.bk.ra, ?_⟩
 obtain ⟨qa, I, hp⟩ := bsome hp
 refine s_check (s := s) g.pre ha111 I fun ya J => ?_
 obtain ⟨i, l⟩ := g.call J e
 have N := h.k l
 have O := G.k l
 refine ⟨_, rfl, ?_⟩
 refine ifnd hp (fun P hp => ?_) fun P hp => ?_
 ·obtain rfl := Option.some.inj hp
  exact hq _ i.ext'
 refine ⟨_, _, _, _, _, _, _, _, _, _, _, _, N.bk.ra, ?_⟩
 intro za S
 obtain ⟨a, T, Y, Z⟩ := i.blk S e 3
 have aa := O.k Y
 obtain ⟨ba, ca, n, da, o⟩ := Z.sto T [(Il s.Wide), (Il s.High), (Il s.Fall), (Il s.A.Lo), (Il s.A.Hi), (Il s.B.Lo), (Il s.B.Hi), (Il s.Half.Lo), (Il s.Half.Hi), (Il s.Peak.Lo), (Il s.Peak.Hi), ca111, C.map0]
 have p := aa.k da
 refine ⟨ba, ca, ?_⟩
 refine ⟨trivial, _, _, _, _, _, _, _, _, _, _, _, _, o.bk.rp (k := 0) (j := 12) rfl (by omega), _, _, _, _, p.bk.ra, ?_⟩
 obtain ⟨sa, ea, hp⟩ := bsome hp
 refine s_isChoice (s := s) (t := t) n.pre ha111 ea fun Aa fa => ?_
 obtain ⟨b, q⟩ := n.call fa a
 have ga := p.k q
 have d := o.k q
 refine ⟨_, rfl, ?_⟩
 refine ifbb hp (fun ha hp => ?_) fun ha hp => ?_; rotate_left
 ·obtain rfl := Option.some.inj hp
  exact hq _ b.ext'
 refine ⟨_, _, _, _, _, _, _, _, _, _, _, _, _, d.bk.ra, _, _, _, _, ga.bk.ra, ?_⟩
 obtain ⟨ta, ia, hp⟩ := bsome hp
 refine s_rightCards (w := ({ s := s, right := none } : Wk)) (t := t) b.pre ha111 (show Mi _ .map0 none from rfl) ia fun Ba ja => ?_
 obtain ⟨r, ka⟩ := b.call ja a
 have la := d.k ka
 refine ⟨_, _, _, _, _, _, rfl, _, _, _, _, _, _, _, _, _, _, _, _, _, la.bk.ra, (by rw [show allS cmC _ = true from cmL_of (nf_cons rfl (nf_cons rfl (nf_cons rfl (nf_cons rfl (nf_cons rfl (nf_cons rfl (nf_cons rfl (nf_cons rfl (nf_cons rfl (nf_cons rfl (nf_cons rfl (nf_cons ha111.noFn (nf_cons rfl nf_nil)))))))))))))]; exact (d.bk.ra)), ?_⟩
 obtain ⟨ua, ma, hp⟩ := bsome hp
 refine s_allCards (w := ({ s := s, right := none } : Wk)) r.pre ha111 (show Mi _ .map0 none from rfl) ma fun Ca na => ?_
 obtain ⟨oa, va⟩ := r.call na a
 refine ⟨_, _, _, _, _, _, rfl, ?_⟩
 obtain rfl := Option.some.inj hp
 exact hq _ oa.ext'
theorem s_lSame {a : Stm} {s : Stm} {ca111 ca211 : C} {m f : M} {Q : V → M → Prop} {rz : Bool} (hS : Pre f m) (ha111 : Sl f ca111 a.Cards) (ha211 : Sl f ca211 s.Cards) (hp : plSame a s = some rz) (hq : ∀ m', Ext m m' → Q (.c (.bool rz)) m') : Wc prog tbl 17 [.agg 12 [(Il a.Wide), (Il a.High), (Il a.Fall), (Il a.A.Lo), (Il a.A.Hi), (Il a.B.Lo), (Il a.B.Hi), (Il a.Half.Lo), (Il a.Half.Hi), (Il a.Peak.Lo), (Il a.Peak.Hi), ca111], .agg 12 [(Il s.Wide), (Il s.High), (Il s.Fall), (Il s.A.Lo), (Il s.A.Hi), (Il s.B.Lo), (Il s.B.Hi), (Il s.Half.Lo), (Il s.Half.Hi), (Il s.Peak.Lo), (Il s.Peak.Hi), ca211]] m Q := by
 have S0 := hS.st
 obtain ⟨τ0, _⟩ : ∃ τ : Nat → Nat, True := ⟨fun _ => 0, trivial⟩
 refine w17 ?_
 unfold plSame at hp
 intro m0 T
 obtain ⟨Y, Z, ob, aa⟩ := S0.blk T τ0 1
 intro m1 ba
 obtain ⟨z, D, ca, F⟩ := Z.blk ba Y 2
 have da := aa.k ca
 refine ⟨_, _, _, _, _, _, _, _, _, _, _, _, F.bk.ra, ?_⟩
 obtain ⟨b, ea, hp⟩ := bsome hp
 refine s_lStorm (s := s) D.pre ha211 ea fun jb l G fa n => ?_
 obtain ⟨ga, r⟩ := D.callG fa z
 have ha := da.k r
 have ia := F.k r
 refine ⟨_, _, _, _, _, _, _, _, _, _, _, _, rfl, ?_⟩
 intro ub ja
 obtain ⟨ka, la, I, ma⟩ := ga.blk ja z 3
 have na := ha.k I
 have oa := ia.k I
 obtain ⟨pa, qa, g, J, e⟩ := ma.sto la [(Il b.Wide), (Il b.High), (Il b.Fall), (Il b.A.Lo), (Il b.A.Hi), (Il b.B.Lo), (Il b.B.Hi), (Il b.Half.Lo), (Il b.Half.Hi), (Il b.Peak.Lo), (Il b.Peak.Hi), G]
 have d := na.k J
 have o := oa.k J
 refine ⟨pa, qa, ?_⟩
 refine ⟨trivial, _, d.bk.rc rfl, trivial, _, e.bk.rc rfl, ?_⟩
 refine ifnd hp (fun sa hp => ?_) fun sa hp => ?_
 ·obtain rfl := Option.some.inj hp
  exact hq _ g.ext'
 refine ⟨trivial, _, d.bk.rc rfl, trivial, _, e.bk.rc rfl, ?_⟩
 refine ifnd hp (fun ta hp => ?_) fun ta hp => ?_
 ·obtain rfl := Option.some.inj hp
  exact hq _ g.ext'
 refine ⟨trivial, _, d.bk.rc rfl, trivial, _, e.bk.rc rfl, ?_⟩
 refine ifnd hp (fun ua hp => ?_) fun ua hp => ?_
 ·obtain rfl := Option.some.inj hp
  exact hq _ g.ext'
 refine ⟨trivial, _, _, d.bk.rp (k := 3) (j := 2) rfl (by omega), trivial, _, _, e.bk.rp (k := 3) (j := 2) rfl (by omega), ?_⟩
 refine gdi hp fun va hp => ?_
 refine gdi hp fun wa hp => ?_
 refine gdi hp fun xa hp => ?_
 refine gdi hp fun ya hp => ?_
 refine ifnb hp (fun za hp => ?_) fun za hp => ?_
 ·obtain rfl := Option.some.inj hp
  exact hq _ g.ext'
 refine ⟨trivial, _, _, d.bk.rp (k := 5) (j := 2) rfl (by omega), trivial, _, _, e.bk.rp (k := 5) (j := 2) rfl (by omega), ?_⟩
 refine gdi hp fun Aa hp => ?_
 refine gdi hp fun Ba hp => ?_
 refine gdi hp fun Ca hp => ?_
 refine gdi hp fun Da hp => ?_
 refine ifnb hp (fun Ea hp => ?_) fun Ea hp => ?_
 ·obtain rfl := Option.some.inj hp
  exact hq _ g.ext'
 refine ⟨trivial, _, _, d.bk.rp (k := 7) (j := 2) rfl (by omega), trivial, _, _, e.bk.rp (k := 7) (j := 2) rfl (by omega), ?_⟩
 refine gdi hp fun Fa hp => ?_
 refine gdi hp fun Ga hp => ?_
 refine gdi hp fun Ha hp => ?_
 refine gdi hp fun Ia hp => ?_
 refine ifnb hp (fun Ja hp => ?_) fun Ja hp => ?_
 ·obtain rfl := Option.some.inj hp
  exact hq _ g.ext'
 refine ⟨trivial, _, _, d.bk.rp (k := 9) (j := 2) rfl (by omega), trivial, _, _, e.bk.rp (k := 9) (j := 2) rfl (by omega), ?_⟩
 refine gdi hp fun Ka hp => ?_
 refine gdi hp fun La hp => ?_
 refine gdi hp fun Ma hp => ?_
 refine gdi hp fun Na hp => ?_
 refine ifnb hp (fun Oa hp => ?_) fun Oa hp => ?_
 ·obtain rfl := Option.some.inj hp
  exact hq _ g.ext'
 refine ⟨trivial, _, d.bk.rc rfl, ha111.isSl, trivial, _, e.bk.rc rfl, n.isSl, ?_⟩
 try rw [ha111.slLen]
 try rw [n.slLen]
 refine ifnd hp (fun Pa hp => ?_) fun Pa hp => ?_
 ·obtain rfl := Option.some.inj hp
  exact hq _ g.ext'
 intro kb ib
 have hgo : ∀ (p : Nat) (O : Bool) (N : Int) (q : M) (h : Nat → Nat), St (Fm.of m) f l q → Lb (Fm.of m) l h q 1 m.nxt 12 [(Il a.Wide), (Il a.High), (Il a.Fall), (Il a.A.Lo), (Il a.A.Hi), (Il a.B.Lo), (Il a.B.Hi), (Il a.Half.Lo), (Il a.Half.Hi), (Il a.Peak.Lo), (Il a.Peak.Hi), ca111] → Lb (Fm.of m) l h q 2 m0.nxt 12 [(Il s.Wide), (Il s.High), (Il s.Fall), (Il s.A.Lo), (Il s.A.Hi), (Il s.B.Lo), (Il s.B.Hi), (Il s.Half.Lo), (Il s.Half.Hi), (Il s.Peak.Lo), (Il s.Peak.Hi), ca211] → Lb (Fm.of m) l h q 3 jb.nxt 12 [(Il b.Wide), (Il b.High), (Il b.Fall), (Il b.A.Lo), (Il b.A.Hi), (Il b.B.Lo), (Il b.B.Hi), (Il b.Half.Lo), (Il b.Half.Hi), (Il b.Peak.Lo), (Il b.Peak.Hi), G] → plSame_L0 a b p N = some rz → kb [.c (.bool O), .c (Il N)] q := by
  intro p
  induction p with
  | zero => intro O N q h i d o e hp; cases hp
  | succ p Qa =>
   intro O N q h i d o e hp
   refine ib _ _ _ ?_
   rw [plSame_L0] at hp
   refine ⟨trivial, _, d.bk.rc rfl, ha111.isSl, ?_⟩
   try rw [ha111.slLen]
   refine ifd hp (fun Ra hp => ?_) fun Ra hp => ?_; rotate_left
   ·obtain rfl := Option.some.inj hp
    exact hq _ i.ext'
   refine ⟨trivial, _, d.bk.rc rfl, ?_⟩
   obtain ⟨pb, t, hp⟩ := bsome hp
   obtain ⟨mb, P, x, t⟩ := idx_some t
   obtain ⟨_, Sa⟩ := rd_Crd ha111 t
   refine ⟨mb, P, (by first | exact x | (rw [ha111.slLen]; exact x)), _, _, _, _, _, _, _, (Sa _ (Sub.trans r.fs i.sub)).1, trivial, _, e.bk.rc rfl, ?_⟩
   obtain ⟨qb, u, hp⟩ := bsome hp
   obtain ⟨nb, S, y, u⟩ := idx_some u
   obtain ⟨_, Ta⟩ := rd_Crd n u
   refine ⟨nb, S, (by first | exact y | (rw [n.slLen]; exact y)), _, _, _, _, _, _, _, (Ta _ i.sub).1, ?_⟩
   refine gdi hp fun Ua hp => ?_
   refine gdi hp fun Va hp => ?_
   refine gdi hp fun Wa hp => ?_
   refine gdi hp fun Xa hp => ?_
   refine gdi hp fun Ya hp => ?_
   refine gdi hp fun Za hp => ?_
   refine gdi hp fun ab hp => ?_
   refine gdi hp fun bb hp => ?_
   refine gdi hp fun cb hp => ?_
   refine gdi hp fun db hp => ?_
   refine gdi hp fun eb hp => ?_
   refine gdi hp fun fb hp => ?_
   refine ifnb hp (fun gb hp => ?_) fun gb hp => ?_
   ·obtain rfl := Option.some.inj hp
    exact hq _ i.ext'
   refine gdi hp fun hb hp => ?_
   exact Qa _ _ _ h i d o e hp
 exact hgo _ _ _ _ ka g d o e hp
theorem s_lEmpty {a : Stm} {ca111 : C} {m f : M} {Q : V → M → Prop} {rz : Bool} (hS : Pre f m) (ha111 : Sl f ca111 a.Cards) (hp : plEmpty a = some rz) (hq : ∀ m', Ext m m' → Q (.c (.bool rz)) m') : Wc prog tbl 15 [.agg 12 [(Il a.Wide), (Il a.High), (Il a.Fall), (Il a.A.Lo), (Il a.A.Hi), (Il a.B.Lo), (Il a.B.Hi), (Il a.Half.Lo), (Il a.Half.Hi), (Il a.Peak.Lo), (Il a.Peak.Hi), ca111]] m Q := by
 have q := hS.st
 obtain ⟨r, _⟩ : ∃ τ : Nat → Nat, True := ⟨fun _ => 0, trivial⟩
 refine w15 ?_
 unfold plEmpty at hp
 intro u e
 obtain ⟨g, b, n, d⟩ := q.blk e r 1
 refine ⟨trivial, _, d.bk.rc rfl, ha111.isSl, ?_⟩
 try rw [ha111.slLen]
 refine ifd hp (fun h hp => ?_) fun h hp => ?_; rotate_left
 ·obtain rfl := Option.some.inj hp
  exact hq _ b.ext'
 refine ⟨_, _, _, _, _, _, _, _, _, _, _, _, d.bk.ra, ?_⟩
 obtain ⟨o, i, hp⟩ := bsome hp
 refine s_lSame (a := a) (s := ({ Wide := (0 : Int), High := (0 : Int), Fall := (0 : Int), A := ({ Lo := (0 : Int), Hi := (0 : Int) } : Rg), B := ({ Lo := (0 : Int), Hi := (0 : Int) } : Rg), Half := ({ Lo := (0 : Int), Hi := (0 : Int) } : Rg), Peak := ({ Lo := (0 : Int), Hi := (0 : Int) } : Rg), Cards := [] } : Stm)) b.pre ha111 (Sl.nil _) i fun t j => ?_
 obtain ⟨l, p⟩ := b.call j g
 refine ⟨_, rfl, ?_⟩
 obtain rfl := Option.some.inj hp
 exact hq _ l.ext'
theorem s_rBounds {l : List Trh} {ca100 : C} {m f : M} {Q : V → M → Prop} {rz : Rg × Rg × Rg × Rg} (hS : Pre f m) (ha100 : Sl f ca100 l) (hp : prBounds l = some rz) (hq : ∀ m', Ext m m' → Q (.tup [.agg 2 [(Il rz.1.Lo), (Il rz.1.Hi)], .agg 2 [(Il rz.2.1.Lo), (Il rz.2.1.Hi)], .agg 2 [(Il rz.2.2.1.Lo), (Il rz.2.2.1.Hi)], .agg 2 [(Il rz.2.2.2.Lo), (Il rz.2.2.2.Hi)]]) m') : Wc prog tbl 16 [.c ca100] m Q := by
 have S0 := hS.st
 obtain ⟨τ0, _⟩ : ∃ τ : Nat → Nat, True := ⟨fun _ => 0, trivial⟩
 refine w16 ?_
 unfold prBounds at hp
 intro m0 hb
 obtain ⟨ib, jb, mg, kb⟩ := S0.blk hb τ0 1
 intro m1 mb
 obtain ⟨nb, ob, pb, qb⟩ := jb.blk mb ib 2
 have rb := kb.k pb
 intro m2 sb
 obtain ⟨tb, ub, Fa, vb⟩ := ob.blk sb nb 3
 have wb := rb.k Fa
 have xb := qb.k Fa
 intro m3 yb
 obtain ⟨ba, Ga, xa, zb⟩ := ub.blk yb tb 4
 have Ab := wb.k xa
 have Bb := xb.k xa
 have Cb := vb.k xa
 obtain ⟨Ha, Db, hp⟩ := bsome hp
 refine s_rEmpty Ga.pre  Db fun m5 Eb => ?_
 obtain ⟨Ia, ja⟩ := Ga.call Eb ba
 have Fb := Ab.k ja
 have Gb := Bb.k ja
 have Hb := Cb.k ja
 have Ib := zb.k ja
 refine ⟨_, _, rfl, ?_⟩
 obtain ⟨Ja, Jb, hp⟩ := bsome hp
 refine s_rEmpty Ia.pre  Jb fun m9 Kb => ?_
 obtain ⟨Ka, ka⟩ := Ia.call Kb ba
 have Mb := Fb.k ka
 have Nb := Gb.k ka
 have Ob := Hb.k ka
 have Pb := Ib.k ka
 refine ⟨_, _, rfl, ?_⟩
 obtain ⟨La, Qb, hp⟩ := bsome hp
 refine s_rEmpty Ka.pre  Qb fun sg Rb => ?_
 obtain ⟨Ma, la⟩ := Ka.call Rb ba
 have Sb := Mb.k la
 have Tb := Nb.k la
 have Ub := Ob.k la
 have Vb := Pb.k la
 refine ⟨_, _, rfl, ?_⟩
 obtain ⟨Na, Wb, hp⟩ := bsome hp
 refine s_rEmpty Ma.pre  Wb fun dg Xb => ?_
 obtain ⟨Yb, ma⟩ := Ma.call Xb ba
 have Zb := Sb.k ma
 have ac := Tb.k ma
 have bc := Ub.k ma
 have cc := Vb.k ma
 refine ⟨_, _, rfl, ?_⟩
 intro eg dc
 obtain ⟨ec, fc, na, gc⟩ := Yb.blk dc ba 5
 have hc := Zb.k na
 have ic := ac.k na
 have jc := bc.k na
 have kc := cc.k na
 intro fg lc
 obtain ⟨nc, oc, ca, pc⟩ := fc.blk lc ec 6
 have qc := hc.k ca
 have sc := ic.k ca
 have tc := jc.k ca
 have uc := kc.k ca
 have vc := gc.k ca
 intro gg wc
 obtain ⟨xc, yc, G, zc⟩ := oc.blk wc nc 7
 have Ac := qc.k G
 have Bc := sc.k G
 have Cc := tc.k G
 have Dc := uc.k G
 have Ec := vc.k G
 have Fc := pc.k G
 intro tg Gc
 obtain ⟨Hc, Ic, i, Jc⟩ := yc.blk Gc xc 8
 have Kc := Ac.k i
 have Lc := Bc.k i
 have Nc := Cc.k i
 have Oc := Dc.k i
 have Pc := Ec.k i
 have Qc := Fc.k i
 have Rc := zc.k i
 obtain ⟨Tc, Uc, Vc, j, Xc⟩ := Pc.sto Ic [(Il Ha.Lo), (Il Ha.Hi)]
 have Yc := Kc.k j
 have Zc := Lc.k j
 have ad := Nc.k j
 have bd := Oc.k j
 have cd := Qc.k j
 have dd := Rc.k j
 have ed := Jc.k j
 refine ⟨Tc, Uc, ?_⟩
 obtain ⟨fd, hd, id, o, jd⟩ := cd.sto Vc [(Il Ja.Lo), (Il Ja.Hi)]
 have kd := Yc.k o
 have ld := Zc.k o
 have md := ad.k o
 have nd := bd.k o
 have od := Xc.k o
 have pd := dd.k o
 have qd := ed.k o
 refine ⟨fd, hd, ?_⟩
 obtain ⟨sd, td, ud, p, vd⟩ := pd.sto id [(Il La.Lo), (Il La.Hi)]
 have wd := kd.k p
 have xd := ld.k p
 have yd := md.k p
 have zd := nd.k p
 have Ad := od.k p
 have Bd := jd.k p
 have Cd := qd.k p
 refine ⟨sd, td, ?_⟩
 obtain ⟨Dd, Ed, Fd, q, s⟩ := Cd.sto ud [(Il Na.Lo), (Il Na.Hi)]
 have da := wd.k q
 have ea := xd.k q
 have fa := yd.k q
 have ga := zd.k q
 have I := Ad.k q
 have t := Bd.k q
 have u := vd.k q
 refine ⟨Dd, Ed, ?_⟩
 intro hg cg
 have hgo : ∀ (oa : Nat) (Oa : Int) (J : Int) (N : Int) (O : Int) (P : Int) (S : Int) (T : Int) (Y : Int) (Z : Int) (F : M) (a : Nat → Nat), St (Fm.of m) f f F → Lb (Fm.of m) f a F 1 m.nxt 2 [(Il 0), (Il 0)] → Lb (Fm.of m) f a F 2 m0.nxt 2 [(Il 0), (Il 0)] → Lb (Fm.of m) f a F 3 m1.nxt 2 [(Il 0), (Il 0)] → Lb (Fm.of m) f a F 4 m2.nxt 2 [(Il 0), (Il 0)] → Lb (Fm.of m) f a F 5 dg.nxt 2 [(Il J), (Il N)] → Lb (Fm.of m) f a F 6 eg.nxt 2 [(Il O), (Il P)] → Lb (Fm.of m) f a F 7 fg.nxt 2 [(Il S), (Il T)] → Lb (Fm.of m) f a F 8 gg.nxt 2 [(Il Y), (Il Z)] → prBounds_L0 l oa J N O P S T Y Z Oa = some rz → hg [.c (Il Oa)] F := by
  intro oa
  induction oa with
  | zero => intro Oa J N O P S T Y Z F a b da ea fa ga I t u s hp; cases hp
  | succ oa Gd =>
   intro Oa J N O P S T Y Z F a b da ea fa ga I t u s hp
   refine cg _ _ ?_
   rw [prBounds_L0] at hp
   refine ⟨ha100.isSl, ?_⟩
   try rw [ha100.slLen]
   refine ifd hp (fun Hd hp => ?_) fun Hd hp => ?_; rotate_left
   ·refine ⟨_, _, I.bk.ra, _, _, t.bk.ra, _, _, u.bk.ra, _, _, s.bk.ra, ?_⟩
    obtain ⟨Id, Jd, Ld, aa, Md⟩ := da.sto b [(Il J), (Il N)]
    have Nd := ea.k aa
    have Od := fa.k aa
    have Pd := ga.k aa
    have Qd := t.k aa
    have Pa := u.k aa
    have Qa := s.k aa
    refine ⟨Id, Jd, ?_⟩
    refine ⟨(Qa.bk.ra), (Pa.bk.ra), (Qd.bk.ra), ?_⟩
    obtain ⟨Rd, Sd, Td, ha, Ud⟩ := Nd.sto Ld [(Il O), (Il P)]
    have Vd := Md.k ha
    have Wd := Od.k ha
    have Xd := Pd.k ha
    have Yd := Pa.k ha
    have Ra := Qa.k ha
    refine ⟨Rd, Sd, ?_⟩
    refine ⟨(Ra.bk.ra), (Yd.bk.ra), ?_⟩
    obtain ⟨Zd, ae, be, pa, ce⟩ := Wd.sto Td [(Il S), (Il T)]
    have de := Vd.k pa
    have ee := Ud.k pa
    have fe := Xd.k pa
    have ge := Ra.k pa
    refine ⟨Zd, ae, ?_⟩
    refine ⟨(ge.bk.ra), ?_⟩
    obtain ⟨he, ie, je, ya, ke⟩ := fe.sto be [(Il Y), (Il Z)]
    have me := de.k ya
    have oe := ee.k ya
    have pe := ce.k ya
    refine ⟨he, ie, ?_⟩
    refine ⟨_, _, me.bk.ra, _, _, oe.bk.ra, _, _, pe.bk.ra, _, _, ke.bk.ra, ?_⟩
    obtain rfl := Option.some.inj hp
    exact hq _ je.ext'
   refine ⟨_, _, I.bk.ra, ?_⟩
   obtain ⟨qe, qa, hp⟩ := bsome hp
   obtain ⟨ig, db, Ba, qa⟩ := idx_some qa
   obtain ⟨_, re⟩ := rd_Trh ha100 qa
   refine ⟨ig, db, (by first | exact Ba | (rw [ha100.slLen]; exact Ba)), (ha100.isPt qa _), _, ((re _ b.sub).2.1 0 _ rfl), ?_⟩
   obtain ⟨Sa, se, hp⟩ := bsome hp
   refine s_rWider (r := ({ Lo := J, Hi := N } : Rg)) (n := qe.A) b.pre  se fun ug te => ?_
   obtain ⟨ia, d⟩ := b.call te a
   have ue := da.k d
   have ve := ea.k d
   have we := fa.k d
   have xe := ga.k d
   have ye := I.k d
   have Ta := t.k d
   have Ua := u.k d
   have Va := s.k d
   refine ⟨_, _, rfl, _, _, Ta.bk.ra, (t.bk.ra), ?_⟩
   obtain ⟨ze, sa, hp⟩ := bsome hp
   obtain ⟨jg, eb, Ca, sa⟩ := idx_some sa
   obtain ⟨_, Wa⟩ := rd_Trh ha100 sa
   refine ⟨jg, eb, (by first | exact Ca | (rw [ha100.slLen]; exact Ca)), (ha100.isPt sa _), _, ((Wa _ ia.sub).2.1 1 _ rfl), ((Wa _ b.sub).2.1 1 _ rfl), ?_⟩
   obtain ⟨Xa, Ae, hp⟩ := bsome hp
   refine s_rWider (r := ({ Lo := O, Hi := P } : Rg)) (n := ze.B) ia.pre  Ae fun vg Be => ?_
   obtain ⟨ta, e⟩ := ia.call Be a
   have Ce := ue.k e
   have De := ve.k e
   have Ee := we.k e
   have Fe := xe.k e
   have Ge := ye.k e
   have He := Ta.k e
   have Ya := Ua.k e
   have Za := Va.k e
   refine ⟨_, _, rfl, _, _, Ya.bk.ra, (Ua.bk.ra), (u.bk.ra), ?_⟩
   obtain ⟨Ie, ua, hp⟩ := bsome hp
   obtain ⟨kg, fb, Da, ua⟩ := idx_some ua
   obtain ⟨_, za⟩ := rd_Trh ha100 ua
   refine ⟨kg, fb, (by first | exact Da | (rw [ha100.slLen]; exact Da)), (ha100.isPt ua _), _, ((za _ ta.sub).2.1 2 _ rfl), ((za _ ia.sub).2.1 2 _ rfl), ((za _ b.sub).2.1 2 _ rfl), ?_⟩
   obtain ⟨ab, Je, hp⟩ := bsome hp
   refine s_rWider (r := ({ Lo := S, Hi := T } : Rg)) (n := Ie.Half) ta.pre  Je fun wg Ke => ?_
   obtain ⟨Aa, g⟩ := ta.call Ke a
   have Me := Ce.k g
   have Ne := De.k g
   have Oe := Ee.k g
   have Pe := Fe.k g
   have Qe := Ge.k g
   have Re := He.k g
   have Se := Ya.k g
   have bb := Za.k g
   refine ⟨_, _, rfl, _, _, bb.bk.ra, (Za.bk.ra), (Va.bk.ra), (s.bk.ra), ?_⟩
   obtain ⟨Te, va, hp⟩ := bsome hp
   obtain ⟨lg, gb, Ea, va⟩ := idx_some va
   obtain ⟨_, wa⟩ := rd_Trh ha100 va
   refine ⟨lg, gb, (by first | exact Ea | (rw [ha100.slLen]; exact Ea)), (ha100.isPt va _), _, ((wa _ Aa.sub).2.1 3 _ rfl), ((wa _ ta.sub).2.1 3 _ rfl), ((wa _ ia.sub).2.1 3 _ rfl), ((wa _ b.sub).2.1 3 _ rfl), ?_⟩
   obtain ⟨cb, Ue, hp⟩ := bsome hp
   refine s_rWider (r := ({ Lo := Y, Hi := Z } : Rg)) (n := Te.Peak) Aa.pre  Ue fun xg Ve => ?_
   obtain ⟨We, h⟩ := Aa.call Ve a
   have Xe := Me.k h
   have Ye := Ne.k h
   have Ze := Oe.k h
   have af := Pe.k h
   have bf := Qe.k h
   have cf := Re.k h
   have df := Se.k h
   have ef := bb.k h
   refine ⟨_, _, rfl, ?_⟩
   obtain ⟨gf, hf, jf, x, kf⟩ := bf.sto We [(Il Sa.Lo), (Il Sa.Hi)]
   have lf := Xe.k x
   have mf := Ye.k x
   have nf := Ze.k x
   have pf := af.k x
   have qf := cf.k x
   have rf := df.k x
   have sf := ef.k x
   refine ⟨gf, hf, ?_⟩
   obtain ⟨tf, uf, vf, y, wf⟩ := qf.sto jf [(Il Xa.Lo), (Il Xa.Hi)]
   have xf := lf.k y
   have yf := mf.k y
   have zf := nf.k y
   have Af := pf.k y
   have Bf := kf.k y
   have Cf := rf.k y
   have Df := sf.k y
   refine ⟨tf, uf, ?_⟩
   obtain ⟨Ef, Ff, Gf, z, Hf⟩ := Cf.sto vf [(Il ab.Lo), (Il ab.Hi)]
   have If := xf.k z
   have Jf := yf.k z
   have Kf := zf.k z
   have Lf := Af.k z
   have Mf := Bf.k z
   have Nf := wf.k z
   have Pf := Df.k z
   refine ⟨Ef, Ff, ?_⟩
   obtain ⟨Qf, Rf, Sf, D, Tf⟩ := Pf.sto Gf [(Il cb.Lo), (Il cb.Hi)]
   have Uf := If.k D
   have Vf := Jf.k D
   have Wf := Kf.k D
   have Xf := Lf.k D
   have Yf := Mf.k D
   have Zf := Nf.k D
   have ag := Hf.k D
   refine ⟨Qf, Rf, ?_⟩
   refine gdi hp fun bg hp => ?_
   exact Gd _ _ _ _ _ _ _ _ _ _ a Sf Uf Vf Wf Xf Yf Zf ag Tf hp
 exact hgo _ _ _ _ _ _ _ _ _ _ _ Hc Fd da ea fa ga I t u s hp
theorem s_StormBounds {s : Stm} {t : Trh} {ca111 : C} {m f : M} {Q : V → M → Prop} {rz : Bool} (hS : Pre f m) (ha111 : Sl f ca111 s.Cards) (hp : pStormBounds s t = some rz) (hq : ∀ m', Ext m m' → Q (.c (.bool rz)) m') : Wc prog tbl 3 [.agg 12 [(Il s.Wide), (Il s.High), (Il s.Fall), (Il s.A.Lo), (Il s.A.Hi), (Il s.B.Lo), (Il s.B.Hi), (Il s.Half.Lo), (Il s.Half.Hi), (Il s.Peak.Lo), (Il s.Peak.Hi), ca111], .agg 4 [(Il t.A), (Il t.B), (Il t.Half), (Il t.Peak)]] m Q := by
 have S0 := hS.st
 obtain ⟨τ0, _⟩ : ∃ τ : Nat → Nat, True := ⟨fun _ => 0, trivial⟩
 refine w3 ?_
 unfold pStormBounds at hp
 intro m0 Qa
 obtain ⟨Ra, Sa, Ce, Ta⟩ := S0.blk Qa τ0 1
 intro m1 Ua
 obtain ⟨o, na, Va, Wa⟩ := Sa.blk Ua Ra 2
 have oa := Ta.k Va
 refine ⟨_, _, _, _, _, _, _, _, _, _, _, _, oa.bk.ra, ?_⟩
 obtain ⟨De, Xa, hp⟩ := bsome hp
 refine s_lThin (s := s) na.pre ha111 Xa fun Mf Ya => ?_
 obtain ⟨u, pa⟩ := na.call Ya o
 have qa := oa.k pa
 have Za := Wa.k pa
 refine ⟨_, rfl, ?_⟩
 refine ifnb hp (fun ab hp => ?_) fun ab hp => ?_
 ·obtain ⟨Ee, bb, hp⟩ := bsome hp
  refine s_awake u.pre  bb fun Nf cb => ?_
  obtain ⟨db, Fe⟩ := u.call cb o
  refine ⟨_, rfl, ?_⟩
  obtain rfl := Option.some.inj hp
  exact hq _ db.ext'
 refine ⟨_, _, _, _, _, _, _, _, _, _, _, _, qa.bk.ra, ?_⟩
 obtain ⟨eb, fb, hp⟩ := bsome hp
 refine s_lStorm (s := s) u.pre ha111 fb fun Pf Ge He gb hb => ?_
 obtain ⟨sa, j⟩ := u.callG gb o
 have ib := qa.k j
 have jb := Za.k j
 refine ⟨_, _, _, _, _, _, _, _, _, _, _, _, rfl, ?_⟩
 obtain ⟨g, kb, hp⟩ := bsome hp
 refine s_Bounds (s := eb) sa.pre hb kb fun Qf Ie mb nb x => ?_
 obtain ⟨ob, n⟩ := sa.callG nb o
 have pb := ib.k n
 have qb := jb.k n
 refine ⟨_, _, _, _, _, _, _, _, _, _, _, _, _, rfl, ?_⟩
 intro Rf rb
 obtain ⟨e, sb, ta, tb⟩ := ob.blk rb o 3
 have ub := pb.k ta
 have vb := qb.k ta
 obtain ⟨wb, xb, ua, va, yb⟩ := tb.sto sb [(Il g.1.Wide), (Il g.1.High), (Il g.1.Fall), (Il g.1.A.Lo), (Il g.1.A.Hi), (Il g.1.B.Lo), (Il g.1.B.Hi), (Il g.1.Half.Lo), (Il g.1.Half.Hi), (Il g.1.Peak.Lo), (Il g.1.Peak.Hi), mb]
 have wa := ub.k va
 have xa := vb.k va
 refine ⟨wb, xb, ?_⟩
 refine ⟨_, _, _, _, _, _, _, _, _, _, _, _, wa.bk.ra, ?_⟩
 obtain ⟨zb, Ab, hp⟩ := bsome hp
 refine s_lStorm (s := s) ua.pre (ha111.sub (Sub.trans j.fs n.fs)) Ab fun Sf Je Ke Bb Cb => ?_
 obtain ⟨ya, h⟩ := ua.callG Bb e
 have Db := wa.k h
 have za := xa.k h
 have Eb := yb.k h
 refine ⟨_, _, _, _, _, _, _, _, _, _, _, _, rfl, _, _, _, _, za.bk.ra, (xa.bk.ra), ?_⟩
 obtain ⟨Fb, Gb, hp⟩ := bsome hp
 refine s_lTruth (t := t) ya.pre  Gb fun Tf Hb => ?_
 obtain ⟨Aa, F⟩ := ya.call Hb e
 have Ib := Db.k F
 have Jb := za.k F
 have Kb := Eb.k F
 refine ⟨_, _, _, _, rfl, ?_⟩
 obtain ⟨Me, Mb, hp⟩ := bsome hp
 refine s_ProveTruth (s := zb) (t := Fb) Aa.pre Cb Mb fun sf Nb => ?_
 obtain ⟨Ba, G⟩ := Aa.call Nb e
 have I := Ib.k G
 have Ob := Jb.k G
 have Pb := Kb.k G
 refine ⟨_, rfl, _, _, _, _, _, _, _, _, _, _, _, _, I.bk.ra, ?_⟩
 obtain ⟨Qb, Rb, hp⟩ := bsome hp
 refine s_lStorm (s := s) Ba.pre (ha111.sub (Sub.trans (Sub.trans j.fs n.fs) h.fs)) Rb fun tf Ne Oe Sb Tb => ?_
 obtain ⟨Ca, i⟩ := Ba.callG Sb e
 have Da := I.k i
 have Ub := Ob.k i
 have Vb := Pb.k i
 refine ⟨_, _, _, _, _, _, _, _, _, _, _, _, rfl, ?_⟩
 obtain ⟨Pe, Wb, hp⟩ := bsome hp
 refine s_check (s := Qb) Ca.pre Tb Wb fun uf Xb => ?_
 obtain ⟨Ea, J⟩ := Ca.call Xb e
 have Fa := Da.k J
 have Yb := Ub.k J
 have Zb := Vb.k J
 refine ⟨_, rfl, _, _, _, _, _, _, _, _, _, _, _, _, Fa.bk.ra, (by rw [show allS cmC _ = true from cmL_of (nf_cons rfl (nf_cons rfl (nf_cons rfl (nf_cons rfl (nf_cons rfl (nf_cons rfl (nf_cons rfl (nf_cons rfl (nf_cons rfl (nf_cons rfl (nf_cons rfl (nf_cons ha111.noFn nf_nil))))))))))))]; exact (Da.bk.ra)), (by rw [show allS cmC _ = true from cmL_of (nf_cons rfl (nf_cons rfl (nf_cons rfl (nf_cons rfl (nf_cons rfl (nf_cons rfl (nf_cons rfl (nf_cons rfl (nf_cons rfl (nf_cons rfl (nf_cons rfl (nf_cons ha111.noFn nf_nil))))))))))))]; exact (I.bk.ra)), ?_⟩
 obtain ⟨Qe, ac, hp⟩ := bsome hp
 refine s_lFault (s := s) Ea.pre (ha111.sub (Sub.trans (Sub.trans (Sub.trans j.fs n.fs) h.fs) i.fs)) ac fun vf bc => ?_
 obtain ⟨N, O⟩ := Ea.call bc e
 have Ga := Fa.k O
 have cc := Yb.k O
 have dc := Zb.k O
 refine ⟨_, rfl, ?_⟩
 refine ifnd hp (fun ec hp => ?_) fun ec hp => ?_
 ·obtain rfl := Option.some.inj hp
  exact hq _ N.ext'
 refine ⟨_, _, _, _, _, _, _, _, _, _, _, _, Ga.bk.ra, ?_⟩
 obtain ⟨Re, fc, hp⟩ := bsome hp
 refine s_rFault (s := s) N.pre (ha111.sub (Sub.trans (Sub.trans (Sub.trans j.fs n.fs) h.fs) i.fs)) fc fun wf gc => ?_
 obtain ⟨p, P⟩ := N.call gc e
 have y := Ga.k P
 have hc := cc.k P
 have Ha := dc.k P
 refine ⟨_, rfl, ?_⟩
 refine ifd hp (fun ic hp => ?_) fun ic hp => ?_; rotate_left
 ·refine ifnb hp (fun jc hp => ?_) fun jc hp => ?_
  ·obtain rfl := Option.some.inj hp
   exact hq _ p.ext'
  refine ⟨_, _, _, _, _, _, _, _, _, _, _, _, y.bk.ra, ?_⟩
  obtain ⟨kc, lc, hp⟩ := bsome hp
  refine s_lSure (s := s) p.pre (ha111.sub (Sub.trans (Sub.trans (Sub.trans j.fs n.fs) h.fs) i.fs)) lc fun xf Se Te nc oc => ?_
  obtain ⟨z, q⟩ := p.callG nc e
  have pc := y.k q
  have Ia := Ha.k q
  refine ⟨_, _, rfl, ?_⟩
  refine ifnd hp (fun qc hp => ?_) fun qc hp => ?_
  ·refine ifd hp (fun sc hp => ?_) fun sc hp => ?_; rotate_left
   ·obtain rfl := Option.some.inj hp
    exact hq _ z.ext'
   refine ⟨_, _, _, _, _, _, _, _, _, _, _, _, Ia.bk.ra, ?_⟩
   obtain ⟨Ue, tc, hp⟩ := bsome hp
   refine s_lEmpty (a := g.1) z.pre (x.sub (Sub.trans (Sub.trans h.fs i.fs) q.fs)) tc fun yf uc => ?_
   obtain ⟨S, Ve⟩ := z.call uc e
   refine ⟨_, rfl, ?_⟩
   refine ifbb hp (fun vc hp => ?_) fun vc hp => ?_; rotate_left
   ·obtain rfl := Option.some.inj hp
    exact hq _ S.ext'
   obtain ⟨We, wc, hp⟩ := bsome hp
   refine s_awake S.pre  wc fun zf xc => ?_
   obtain ⟨yc, Xe⟩ := S.call xc e
   refine ⟨_, rfl, ?_⟩
   obtain rfl := Option.some.inj hp
   exact hq _ yc.ext'
  refine ⟨_, _, _, _, _, _, _, _, _, _, _, _, pc.bk.ra, ?_⟩
  intro Af zc
  obtain ⟨T, Ac, Bc, Cc⟩ := z.blk zc e 5
  have Dc := Ia.k Bc
  obtain ⟨Ec, Fc, Ja, Gc, Hc⟩ := Cc.sto Ac [(Il s.Wide), (Il s.High), (Il s.Fall), (Il s.A.Lo), (Il s.A.Hi), (Il s.B.Lo), (Il s.B.Hi), (Il s.Half.Lo), (Il s.Half.Hi), (Il s.Peak.Lo), (Il s.Peak.Hi), ca111]
  have Ic := Dc.k Gc
  refine ⟨Ec, Fc, ?_⟩
  obtain ⟨b, Jc, hp⟩ := bsome hp
  refine s_rBounds (l := kc.1) Ja.pre oc Jc fun Bf Kc => ?_
  obtain ⟨Lc, Ka⟩ := Ja.call Kc T
  have Nc := Ic.k Ka
  have Oc := Hc.k Ka
  refine ⟨_, _, _, _, _, _, _, _, rfl, trivial, ?_⟩
  obtain ⟨Pc, Qc, Rc, Tc, Y⟩ := Oc.stoP Lc 3 [(Il b.1.Lo), (Il b.1.Hi)] (Nat.le_of_ble_eq_true rfl) rfl
  replace Y : Lb _ _ _ _ _ _ _ [(Il s.Wide), (Il s.High), (Il s.Fall), (Il b.1.Lo), (Il b.1.Hi), (Il s.B.Lo), (Il s.B.Hi), (Il s.Half.Lo), (Il s.Half.Hi), (Il s.Peak.Lo), (Il s.Peak.Hi), ca111] := Y
  have Uc := Nc.k Tc
  refine ⟨Pc, Qc, ?_⟩
  refine ⟨trivial, ?_⟩
  obtain ⟨Vc, Xc, Yc, Zc, Z⟩ := Y.stoP Rc 5 [(Il b.2.1.Lo), (Il b.2.1.Hi)] (Nat.le_of_ble_eq_true rfl) rfl
  replace Z : Lb _ _ _ _ _ _ _ [(Il s.Wide), (Il s.High), (Il s.Fall), (Il b.1.Lo), (Il b.1.Hi), (Il b.2.1.Lo), (Il b.2.1.Hi), (Il s.Half.Lo), (Il s.Half.Hi), (Il s.Peak.Lo), (Il s.Peak.Hi), ca111] := Z
  have ad := Uc.k Zc
  refine ⟨Vc, Xc, ?_⟩
  refine ⟨trivial, ?_⟩
  obtain ⟨bd, cd, dd, ed, aa⟩ := Z.stoP Yc 7 [(Il b.2.2.1.Lo), (Il b.2.2.1.Hi)] (Nat.le_of_ble_eq_true rfl) rfl
  replace aa : Lb _ _ _ _ _ _ _ [(Il s.Wide), (Il s.High), (Il s.Fall), (Il b.1.Lo), (Il b.1.Hi), (Il b.2.1.Lo), (Il b.2.1.Hi), (Il b.2.2.1.Lo), (Il b.2.2.1.Hi), (Il s.Peak.Lo), (Il s.Peak.Hi), ca111] := aa
  have fd := ad.k ed
  refine ⟨bd, cd, ?_⟩
  refine ⟨trivial, ?_⟩
  obtain ⟨hd, id, ba, jd, ca⟩ := aa.stoP dd 9 [(Il b.2.2.2.Lo), (Il b.2.2.2.Hi)] (Nat.le_of_ble_eq_true rfl) rfl
  replace ca : Lb _ _ _ _ _ _ _ [(Il s.Wide), (Il s.High), (Il s.Fall), (Il b.1.Lo), (Il b.1.Hi), (Il b.2.1.Lo), (Il b.2.1.Hi), (Il b.2.2.1.Lo), (Il b.2.2.1.Hi), (Il b.2.2.2.Lo), (Il b.2.2.2.Hi), ca111] := ca
  have kd := fd.k jd
  refine ⟨hd, id, ?_⟩
  refine ifd hp (fun ld hp => ?_) fun ld hp => ?_; rotate_left
  ·obtain rfl := Option.some.inj hp
   exact hq _ ba.ext'
  refine ⟨_, _, _, _, _, _, _, _, _, _, _, _, kd.bk.ra, _, _, _, _, _, _, _, _, _, _, _, _, ca.bk.ra, ?_⟩
  obtain ⟨Ye, md, hp⟩ := bsome hp
  refine s_lSame (a := g.1) (s := ({ Wide := s.Wide, High := s.High, Fall := s.Fall, A := b.1, B := b.2.1, Half := b.2.2.1, Peak := b.2.2.2, Cards := s.Cards } : Stm)) ba.pre (x.sub (Sub.trans (Sub.trans h.fs i.fs) q.fs)) (ha111.sub (Sub.trans (Sub.trans (Sub.trans (Sub.trans j.fs n.fs) h.fs) i.fs) q.fs)) md fun Cf nd => ?_
  obtain ⟨da, Ze⟩ := ba.call nd T
  refine ⟨_, rfl, ?_⟩
  refine ifbb hp (fun od hp => ?_) fun od hp => ?_; rotate_left
  ·obtain rfl := Option.some.inj hp
   exact hq _ da.ext'
  obtain ⟨af, pd, hp⟩ := bsome hp
  refine s_awake da.pre  pd fun Df qd => ?_
  obtain ⟨sd, bf⟩ := da.call qd T
  refine ⟨_, rfl, ?_⟩
  obtain rfl := Option.some.inj hp
  exact hq _ sd.ext'
 refine ⟨_, _, _, _, _, _, _, _, _, _, _, _, y.bk.ra, _, _, _, _, hc.bk.ra, ?_⟩
 obtain ⟨cf, td, hp⟩ := bsome hp
 refine s_rIsTruth (s := s) (t := t) p.pre (ha111.sub (Sub.trans (Sub.trans (Sub.trans j.fs n.fs) h.fs) i.fs)) td fun Ef ud => ?_
 obtain ⟨ea, La⟩ := p.call ud e
 have Ma := y.k La
 have vd := Ha.k La
 refine ⟨_, rfl, ?_⟩
 refine ifnb hp (fun wd hp => ?_) fun wd hp => ?_
 ·obtain rfl := Option.some.inj hp
  exact hq _ ea.ext'
 refine ⟨_, _, _, _, _, _, _, _, _, _, _, _, Ma.bk.ra, ?_⟩
 obtain ⟨xd, yd, hp⟩ := bsome hp
 refine s_lSure (s := s) ea.pre (ha111.sub (Sub.trans (Sub.trans (Sub.trans j.fs n.fs) h.fs) i.fs)) yd fun Ff df ef zd Ad => ?_
 obtain ⟨D, r⟩ := ea.callG zd e
 have Bd := Ma.k r
 have Na := vd.k r
 refine ⟨_, _, rfl, ?_⟩
 refine ifnd hp (fun Cd hp => ?_) fun Cd hp => ?_
 ·refine ifd hp (fun Dd hp => ?_) fun Dd hp => ?_; rotate_left
  ·obtain rfl := Option.some.inj hp
   exact hq _ D.ext'
  refine ⟨_, _, _, _, _, _, _, _, _, _, _, _, Na.bk.ra, ?_⟩
  obtain ⟨gf, Ed, hp⟩ := bsome hp
  refine s_lEmpty (a := g.1) D.pre (x.sub (Sub.trans (Sub.trans h.fs i.fs) r.fs)) Ed fun Gf Fd => ?_
  obtain ⟨fa, hf⟩ := D.call Fd e
  refine ⟨_, rfl, ?_⟩
  refine ifbb hp (fun Gd hp => ?_) fun Gd hp => ?_; rotate_left
  ·obtain rfl := Option.some.inj hp
   exact hq _ fa.ext'
  obtain ⟨jf, Hd, hp⟩ := bsome hp
  refine s_awake fa.pre  Hd fun Hf Id => ?_
  obtain ⟨Jd, kf⟩ := fa.call Id e
  refine ⟨_, rfl, ?_⟩
  obtain rfl := Option.some.inj hp
  exact hq _ Jd.ext'
 refine ⟨_, _, _, _, _, _, _, _, _, _, _, _, Bd.bk.ra, ?_⟩
 intro If Ld
 obtain ⟨ga, Md, Nd, Od⟩ := D.blk Ld e 4
 have Pd := Na.k Nd
 obtain ⟨Qd, Rd, Oa, Sd, Td⟩ := Od.sto Md [(Il s.Wide), (Il s.High), (Il s.Fall), (Il s.A.Lo), (Il s.A.Hi), (Il s.B.Lo), (Il s.B.Hi), (Il s.Half.Lo), (Il s.Half.Hi), (Il s.Peak.Lo), (Il s.Peak.Hi), ca111]
 have Ud := Pd.k Sd
 refine ⟨Qd, Rd, ?_⟩
 obtain ⟨d, Vd, hp⟩ := bsome hp
 refine s_rBounds (l := xd.1) Oa.pre Ad Vd fun Jf Wd => ?_
 obtain ⟨Xd, Pa⟩ := Oa.call Wd ga
 have Yd := Ud.k Pa
 have Zd := Td.k Pa
 refine ⟨_, _, _, _, _, _, _, _, rfl, trivial, ?_⟩
 obtain ⟨ae, be, ce, de, ha⟩ := Zd.stoP Xd 3 [(Il d.1.Lo), (Il d.1.Hi)] (Nat.le_of_ble_eq_true rfl) rfl
 replace ha : Lb _ _ _ _ _ _ _ [(Il s.Wide), (Il s.High), (Il s.Fall), (Il d.1.Lo), (Il d.1.Hi), (Il s.B.Lo), (Il s.B.Hi), (Il s.Half.Lo), (Il s.Half.Hi), (Il s.Peak.Lo), (Il s.Peak.Hi), ca111] := ha
 have ee := Yd.k de
 refine ⟨ae, be, ?_⟩
 refine ⟨trivial, ?_⟩
 obtain ⟨fe, ge, he, ie, ia⟩ := ha.stoP ce 5 [(Il d.2.1.Lo), (Il d.2.1.Hi)] (Nat.le_of_ble_eq_true rfl) rfl
 replace ia : Lb _ _ _ _ _ _ _ [(Il s.Wide), (Il s.High), (Il s.Fall), (Il d.1.Lo), (Il d.1.Hi), (Il d.2.1.Lo), (Il d.2.1.Hi), (Il s.Half.Lo), (Il s.Half.Hi), (Il s.Peak.Lo), (Il s.Peak.Hi), ca111] := ia
 have je := ee.k ie
 refine ⟨fe, ge, ?_⟩
 refine ⟨trivial, ?_⟩
 obtain ⟨ke, me, oe, pe, ja⟩ := ia.stoP he 7 [(Il d.2.2.1.Lo), (Il d.2.2.1.Hi)] (Nat.le_of_ble_eq_true rfl) rfl
 replace ja : Lb _ _ _ _ _ _ _ [(Il s.Wide), (Il s.High), (Il s.Fall), (Il d.1.Lo), (Il d.1.Hi), (Il d.2.1.Lo), (Il d.2.1.Hi), (Il d.2.2.1.Lo), (Il d.2.2.1.Hi), (Il s.Peak.Lo), (Il s.Peak.Hi), ca111] := ja
 have qe := je.k pe
 refine ⟨ke, me, ?_⟩
 refine ⟨trivial, ?_⟩
 obtain ⟨re, se, ka, te, la⟩ := ja.stoP oe 9 [(Il d.2.2.2.Lo), (Il d.2.2.2.Hi)] (Nat.le_of_ble_eq_true rfl) rfl
 replace la : Lb _ _ _ _ _ _ _ [(Il s.Wide), (Il s.High), (Il s.Fall), (Il d.1.Lo), (Il d.1.Hi), (Il d.2.1.Lo), (Il d.2.1.Hi), (Il d.2.2.1.Lo), (Il d.2.2.1.Hi), (Il d.2.2.2.Lo), (Il d.2.2.2.Hi), ca111] := la
 have ue := qe.k te
 refine ⟨re, se, ?_⟩
 refine ifd hp (fun ve hp => ?_) fun ve hp => ?_; rotate_left
 ·obtain rfl := Option.some.inj hp
  exact hq _ ka.ext'
 refine ⟨_, _, _, _, _, _, _, _, _, _, _, _, ue.bk.ra, _, _, _, _, _, _, _, _, _, _, _, _, la.bk.ra, ?_⟩
 obtain ⟨lf, we, hp⟩ := bsome hp
 refine s_lSame (a := g.1) (s := ({ Wide := s.Wide, High := s.High, Fall := s.Fall, A := d.1, B := d.2.1, Half := d.2.2.1, Peak := d.2.2.2, Cards := s.Cards } : Stm)) ka.pre (x.sub (Sub.trans (Sub.trans h.fs i.fs) r.fs)) (ha111.sub (Sub.trans (Sub.trans (Sub.trans (Sub.trans j.fs n.fs) h.fs) i.fs) r.fs)) we fun Kf xe => ?_
 obtain ⟨ma, mf⟩ := ka.call xe ga
 refine ⟨_, rfl, ?_⟩
 refine ifbb hp (fun ye hp => ?_) fun ye hp => ?_; rotate_left
 ·obtain rfl := Option.some.inj hp
  exact hq _ ma.ext'
 obtain ⟨nf, ze, hp⟩ := bsome hp
 refine s_awake ma.pre  ze fun Lf Ae => ?_
 obtain ⟨Be, pf⟩ := ma.call Ae ga
 refine ⟨_, rfl, ?_⟩
 obtain rfl := Option.some.inj hp
 exact hq _ Be.ext'
end
end Go.Proofs.YtbnfnhfanooplaaGreat

