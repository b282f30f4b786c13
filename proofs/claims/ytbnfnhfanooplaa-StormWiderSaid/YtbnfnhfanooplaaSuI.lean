/- An evaluator of the code of a program, its soundness, what calls ask, memory, and what functions of the program do. Condition: none; a lemma text of this claim. -/
import Derived.Test.YtbnfnhfanooplaaSuH

namespace Go.Proofs.Ytbnfnhfanooplaa
open _root_.Go.Proofs.Try
open Go.Abs
set_option maxRecDepth 100000
noncomputable section
def Fv_Crd_Bool (f : M) (x : C) (g : Crd → Option (Bool)) : Prop := ∀ (f' m : M) (a0 : Crd) (r : Bool) (Q : V → M → Prop), Sub f f' → Pre f' m → g a0 = some r → (∀ m', Ext m m' → Q (.c (.bool r)) m') → callP prog tbl [.agg 7 [(.int .i64 a0.X.Lo), (.int .i64 a0.X.Hi), (.int .i64 a0.Y.Lo), (.int .i64 a0.Y.Hi), (.bool a0.Hail), (.int .i64 a0.Size.Lo), (.int .i64 a0.Size.Hi)]] x m Q
theorem Fv_Crd_Bool.sub {f m : M} {x : C} {g : Crd → Option (Bool)} (h : Fv_Crd_Bool f x g) (s : Sub f m) : Fv_Crd_Bool m x g := fun f' m' a0 r Q hs => h f' m' a0 r Q (s.trans hs)
def Fv_Rct_Bool (f : M) (x : C) (g : Rct → Option (Bool)) : Prop := ∀ (f' m : M) (a0 : Rct) (r : Bool) (Q : V → M → Prop), Sub f f' → Pre f' m → g a0 = some r → (∀ m', Ext m m' → Q (.c (.bool r)) m') → callP prog tbl [.agg 4 [(.int .i64 a0.X.Lo), (.int .i64 a0.X.Hi), (.int .i64 a0.Y.Lo), (.int .i64 a0.Y.Hi)]] x m Q
theorem Fv_Rct_Bool.sub {f m : M} {x : C} {g : Rct → Option (Bool)} (h : Fv_Rct_Bool f x g) (s : Sub f m) : Fv_Rct_Bool m x g := fun f' m' a0 r Q hs => h f' m' a0 r Q (s.trans hs)
def Fv_Trh_Int (f : M) (x : C) (g : Trh → Option (Int)) : Prop := ∀ (f' m : M) (a0 : Trh) (r : Int) (Q : V → M → Prop), Sub f f' → Pre f' m → g a0 = some r → (∀ m', Ext m m' → Q (.c (.int .i64 r)) m') → callP prog tbl [.agg 4 [(.int .i64 a0.A), (.int .i64 a0.B), (.int .i64 a0.Half), (.int .i64 a0.Peak)]] x m Q
theorem Fv_Trh_Int.sub {f m : M} {x : C} {g : Trh → Option (Int)} (h : Fv_Trh_Int f x g) (s : Sub f m) : Fv_Trh_Int m x g := fun f' m' a0 r Q hs => h f' m' a0 r Q (s.trans hs)
def Fv_Wk_LInt_Bool (f : M) (x : C) (g : Wk → List Int → Option (Bool)) : Prop := ∀ (f' m : M) (a0 : Wk) (a1 : List Int) (c0 c1 c2 : C) (r : Bool) (Q : V → M → Prop), Sub f f' → Pre f' m → Sl f' c0 a0.s.Cards → Mi f' c1 a0.right → Sl f' c2 a1 → g a0 a1 = some r → (∀ m', Ext m m' → Q (.c (.bool r)) m') → callP prog tbl [.agg 13 [(.int .i64 a0.s.Wide), (.int .i64 a0.s.High), (.int .i64 a0.s.Fall), (.int .i64 a0.s.A.Lo), (.int .i64 a0.s.A.Hi), (.int .i64 a0.s.B.Lo), (.int .i64 a0.s.B.Hi), (.int .i64 a0.s.Half.Lo), (.int .i64 a0.s.Half.Hi), (.int .i64 a0.s.Peak.Lo), (.int .i64 a0.s.Peak.Hi), c0, c1], .c c2] x m Q
theorem Fv_Wk_LInt_Bool.sub {f m : M} {x : C} {g : Wk → List Int → Option (Bool)} (h : Fv_Wk_LInt_Bool f x g) (s : Sub f m) : Fv_Wk_LInt_Bool m x g := fun f' m' a0 a1 c0 c1 c2 r Q hs => h f' m' a0 a1 c0 c1 c2 r Q (s.trans hs)
theorem kl43 : KL prog 43 Trh := kl_agg (n := 4) (ks := [.int .i64, .int .i64, .int .i64, .int .i64]) (by kernel_rfl) (by kernel_rfl) (cs := fun k => [.int .i64 k.A, .int .i64 k.B, .int .i64 k.Half, .int .i64 k.Peak]) (fun _ => rfl) fun a b fa fb => ⟨_, _, (eqKs_cons (eqK_i fa.1 fb.1) (eqKs_cons (eqK_i fa.2.1 fb.2.1) (eqKs_cons (eqK_i fa.2.2.1 fb.2.2.1) (eqKs_cons (eqK_i fa.2.2.2.1 fb.2.2.2.1) eqKs_nil)))), ⟨fun h => by obtain ⟨aA, aB, aHalf, aPeak⟩ := a; obtain ⟨bA, bB, bHalf, bPeak⟩ := b; simp_all, fun h => by subst h; exact ⟨rfl, rfl, rfl, rfl, trivial⟩⟩⟩
theorem rdo_Crd {F : Fm} {f m : M} {τ : Nat → Nat} {t : Nat} {x : C} {l : List Crd} (h : Ow F f τ m t x l) {n : Nat} {a : Crd} (hi : l[n]? = some a) : ldA m (slAt x (n * 7)) 7 = some [.int .i64 a.X.Lo, .int .i64 a.X.Hi, .int .i64 a.Y.Lo, .int .i64 a.Y.Hi, .bool a.Hail, .int .i64 a.Size.Lo, .int .i64 a.Size.Hi] ∧ (∀ j c, ([.int .i64 a.X.Lo, .int .i64 a.X.Hi, .int .i64 a.Y.Lo, .int .i64 a.Y.Hi, .bool a.Hail, .int .i64 a.Size.Lo, .int .i64 a.Size.Hi] : List C)[j]? = some c → ldC m (ptAdd (slAt x (n * 7)) j) = some c) ∧ ∀ j i, 0 < i → j + i ≤ 7 → ldA m (ptAdd (slAt x (n * 7)) j) i = some ((([.int .i64 a.X.Lo, .int .i64 a.X.Hi, .int .i64 a.Y.Lo, .int .i64 a.Y.Hi, .bool a.Hail, .int .i64 a.Size.Lo, .int .i64 a.Size.Hi] : List C).drop j).take i) := by
 obtain ⟨cs, q1, q2⟩ := h.rdP hi
 have q2 : cs = _ := q2
 subst q2
 exact q1
theorem ta24 : TA prog 24 7 := ⟨97, by kernel_rfl, by kernel_rfl, by kernel_rfl⟩
theorem ta35 : TA prog 35 7 := ⟨85, by kernel_rfl, by kernel_rfl, by kernel_rfl⟩
theorem ta69 : TA prog 69 1 := ⟨3, by kernel_rfl, by kernel_rfl, by kernel_rfl⟩
theorem s_awake {m f : M} {Q : V → M → Prop} {rz : Bool} (_hS : Pre f m) (hp : pawake = some rz) (hq : ∀ m', Ext m m' → Q (.c (.bool rz)) m') : Wc prog tbl 17 [] m Q := by
 obtain rfl := Option.some.inj hp
 exact call_known (show findT tbl 17 = some true from rfl) (hq _ (.refl m))
theorem s_rIn {n : Int} {low : Int} {high : Int} {m f : M} {Q : V → M → Prop} {rz : Bool} (hS : Pre f m)  (hp : prIn n low high = some rz) (hq : ∀ m', Ext m m' → Q (.c (.bool rz)) m') : Wc prog tbl 31 [.c (Il n), .c (Il low), .c (Il high)] m Q := by
 have b := hS.st
 obtain ⟨d, _⟩ : ∃ τ : Nat → Nat, True := ⟨fun _ => 0, trivial⟩
 refine w31 ?_
 unfold prIn at hp
 refine ifd hp (fun a hp => ?_) fun a hp => ?_
 ·obtain rfl := Option.some.inj hp
  exact hq _ b.ext'
 obtain rfl := Option.some.inj hp
 exact hq _ b.ext'
theorem s_rWithin {r : Rg} {low : Int} {high : Int} {m f : M} {Q : V → M → Prop} {rz : Bool} (hS : Pre f m)  (hp : prWithin r low high = some rz) (hq : ∀ m', Ext m m' → Q (.c (.bool rz)) m') : Wc prog tbl 70 [.agg 2 [(Il r.Lo), (Il r.Hi)], .c (Il low), .c (Il high)] m Q := by
 have h := hS.st
 obtain ⟨i, _⟩ : ∃ τ : Nat → Nat, True := ⟨fun _ => 0, trivial⟩
 refine w70 ?_
 unfold prWithin at hp
 intro n d
 obtain ⟨j, b, l, a⟩ := h.blk d i 1
 refine ⟨trivial, _, a.bk.rc rfl, ?_⟩
 refine ifd hp (fun e hp => ?_) fun e hp => ?_; rotate_left
 ·obtain rfl := Option.some.inj hp
  exact hq _ b.ext'
 refine ⟨trivial, _, a.bk.rc rfl, trivial, _, a.bk.rc rfl, ?_⟩
 refine ifd hp (fun g hp => ?_) fun g hp => ?_; rotate_left
 ·obtain rfl := Option.some.inj hp
  exact hq _ b.ext'
 refine ⟨trivial, _, a.bk.rc rfl, ?_⟩
 obtain rfl := Option.some.inj hp
 exact hq _ b.ext'
theorem s_rCount {r : Rg} {m f : M} {Q : V → M → Prop} {rz : Int} (hS : Pre f m)  (hp : prCount r = some rz) (hq : ∀ m', Ext m m' → Q (.c (Il rz)) m') : Wc prog tbl 62 [.agg 2 [(Il r.Lo), (Il r.Hi)]] m Q := by
 have h := hS.st
 obtain ⟨i, _⟩ : ∃ τ : Nat → Nat, True := ⟨fun _ => 0, trivial⟩
 refine w62 ?_
 unfold prCount at hp
 intro n b
 obtain ⟨j, d, l, a⟩ := h.blk b i 1
 refine ⟨trivial, _, a.bk.rc rfl, trivial, _, a.bk.rc rfl, ?_⟩
 refine gdi hp fun e hp => ?_
 refine gdi hp fun g hp => ?_
 obtain rfl := Option.some.inj hp
 exact hq _ d.ext'
theorem s_rIsRect {s : Stm} {r : Rct} {ca111 : C} {m f : M} {Q : V → M → Prop} {rz : Bool} (hS : Pre f m) (_ha111 : Sl f ca111 s.Cards) (hp : prIsRect s r = some rz) (hq : ∀ m', Ext m m' → Q (.c (.bool rz)) m') : Wc prog tbl 24 [.agg 12 [(Il s.Wide), (Il s.High), (Il s.Fall), (Il s.A.Lo), (Il s.A.Hi), (Il s.B.Lo), (Il s.B.Hi), (Il s.Half.Lo), (Il s.Half.Hi), (Il s.Peak.Lo), (Il s.Peak.Hi), ca111], .agg 4 [(Il r.X.Lo), (Il r.X.Hi), (Il r.Y.Lo), (Il r.Y.Hi)]] m Q := by
 have N := hS.st
 obtain ⟨O, _⟩ : ∃ τ : Nat → Nat, True := ⟨fun _ => 0, trivial⟩
 refine w24 ?_
 unfold prIsRect at hp
 intro m0 i
 obtain ⟨l, n, P, o⟩ := N.blk i O 1
 intro m1 p
 obtain ⟨b, d, q, e⟩ := n.blk p l 2
 have g := o.k q
 refine ⟨trivial, _, _, e.bk.rp (k := 0) (j := 2) rfl (by omega), trivial, _, g.bk.rc rfl, ?_⟩
 refine gdi hp fun t hp => ?_
 obtain ⟨S, u, hp⟩ := bsome hp
 refine s_rWithin (r := r.X) (low := (0 : Int)) (high := (s.Wide - (1 : Int))) d.pre  u fun m6 x => ?_
 obtain ⟨a, h⟩ := d.call x b
 have y := g.k h
 have z := e.k h
 refine ⟨_, rfl, ?_⟩
 refine ifbb hp (fun D hp => ?_) fun D hp => ?_; rotate_left
 ·obtain rfl := Option.some.inj hp
  exact hq _ a.ext'
 refine ⟨trivial, _, _, z.bk.rp (k := 2) (j := 2) rfl (by omega), trivial, _, y.bk.rc rfl, ?_⟩
 refine gdi hp fun F hp => ?_
 obtain ⟨T, G, hp⟩ := bsome hp
 refine s_rWithin (r := r.Y) (low := (0 : Int)) (high := (s.High - (1 : Int))) a.pre  G fun aa I => ?_
 obtain ⟨J, Z⟩ := a.call I b
 refine ⟨_, rfl, ?_⟩
 obtain rfl := Option.some.inj hp
 exact hq _ J.ext'
theorem s_rIsCard {s : Stm} {c : Crd} {ca111 : C} {m f : M} {Q : V → M → Prop} {rz : Bool} (hS : Pre f m) (ha111 : Sl f ca111 s.Cards) (hp : prIsCard s c = some rz) (hq : ∀ m', Ext m m' → Q (.c (.bool rz)) m') : Wc prog tbl 105 [.agg 12 [(Il s.Wide), (Il s.High), (Il s.Fall), (Il s.A.Lo), (Il s.A.Hi), (Il s.B.Lo), (Il s.B.Hi), (Il s.Half.Lo), (Il s.Half.Hi), (Il s.Peak.Lo), (Il s.Peak.Hi), ca111], .agg 7 [(Il c.X.Lo), (Il c.X.Hi), (Il c.Y.Lo), (Il c.Y.Hi), (.bool c.Hail), (Il c.Size.Lo), (Il c.Size.Hi)]] m Q := by
 have Z := hS.st
 obtain ⟨τ0, _⟩ : ∃ τ : Nat → Nat, True := ⟨fun _ => 0, trivial⟩
 refine w105 ?_
 unfold prIsCard at hp
 intro m0 l
 obtain ⟨n, o, ba, p⟩ := Z.blk l τ0 1
 intro m1 q
 obtain ⟨e, g, t, a⟩ := o.blk q n 2
 have u := p.k t
 refine ⟨_, _, _, _, _, _, _, _, _, _, _, _, u.bk.ra, trivial, _, _, a.bk.rp (k := 0) (j := 2) rfl (by omega), trivial, _, _, a.bk.rp (k := 2) (j := 2) rfl (by omega), ?_⟩
 obtain ⟨ca, x, hp⟩ := bsome hp
 refine s_rIsRect (s := s) (r := ({ X := c.X, Y := c.Y } : Rct)) g.pre ha111 x fun ea y => ?_
 obtain ⟨b, z⟩ := g.call y e
 have h := a.k z
 refine ⟨_, rfl, ?_⟩
 refine ifnb hp (fun D hp => ?_) fun D hp => ?_
 ·obtain rfl := Option.some.inj hp
  exact hq _ b.ext'
 refine ⟨trivial, _, _, h.bk.rp (k := 5) (j := 2) rfl (by omega), ?_⟩
 obtain ⟨da, F, hp⟩ := bsome hp
 refine s_rWithin (r := c.Size) (low := (0 : Int)) (high := (9 : Int)) b.pre  F fun fa G => ?_
 obtain ⟨d, I⟩ := b.call G e
 have i := h.k I
 refine ⟨_, rfl, ?_⟩
 refine ifnb hp (fun J hp => ?_) fun J hp => ?_
 ·obtain rfl := Option.some.inj hp
  exact hq _ d.ext'
 refine ⟨trivial, _, i.bk.rc rfl, ?_⟩
 refine ifbb hp (fun N hp => ?_) fun N hp => ?_
 ·obtain rfl := Option.some.inj hp
  exact hq _ d.ext'
 refine ⟨trivial, _, _, i.bk.rp (k := 5) (j := 2) rfl (by omega), ?_⟩
 refine gdi hp fun O hp => ?_
 refine gdi hp fun P hp => ?_
 refine gdi hp fun S hp => ?_
 refine gdi hp fun T hp => ?_
 obtain rfl := Option.some.inj hp
 exact hq _ d.ext'
theorem s_rMany {s : Stm} {ca111 : C} {m f : M} {Q : V → M → Prop} {rz : Int} (hS : Pre f m) (_ha111 : Sl f ca111 s.Cards) (hp : prMany s = some rz) (hq : ∀ m', Ext m m' → Q (.c (Il rz)) m') : Wc prog tbl 67 [.agg 12 [(Il s.Wide), (Il s.High), (Il s.Fall), (Il s.A.Lo), (Il s.A.Hi), (Il s.B.Lo), (Il s.B.Hi), (Il s.Half.Lo), (Il s.Half.Hi), (Il s.Peak.Lo), (Il s.Peak.Hi), ca111]] m Q := by
 have S0 := hS.st
 obtain ⟨τ0, _⟩ : ∃ τ : Nat → Nat, True := ⟨fun _ => 0, trivial⟩
 refine w67 ?_
 unfold prMany at hp
 intro m0 n
 obtain ⟨b, g, ea, a⟩ := S0.blk n τ0 1
 refine ⟨trivial, _, _, a.bk.rp (k := 3) (j := 2) rfl (by omega), ?_⟩
 obtain ⟨fa, o, hp⟩ := bsome hp
 refine s_rCount (r := s.A) g.pre  o fun m4 p => ?_
 obtain ⟨h, q⟩ := g.call p b
 have d := a.k q
 refine ⟨_, rfl, trivial, _, _, d.bk.rp (k := 5) (j := 2) rfl (by omega), (a.bk.rp (k := 5) (j := 2) rfl (by omega)), ?_⟩
 obtain ⟨ga, t, hp⟩ := bsome hp
 refine s_rCount (r := s.B) h.pre  t fun m9 u => ?_
 obtain ⟨i, x⟩ := h.call u b
 have e := d.k x
 refine ⟨_, rfl, ?_⟩
 refine gdi hp fun y hp => ?_
 refine gdi hp fun z hp => ?_
 obtain ⟨D, hp⟩ := gd_some hp
 refine ⟨D, trivial, _, _, e.bk.rp (k := 7) (j := 2) rfl (by omega), (d.bk.rp (k := 7) (j := 2) rfl (by omega)), (a.bk.rp (k := 7) (j := 2) rfl (by omega)), ?_⟩
 obtain ⟨ha, F, hp⟩ := bsome hp
 refine s_rCount (r := s.Half) i.pre  F fun ka G => ?_
 obtain ⟨l, I⟩ := i.call G b
 have J := e.k I
 refine ⟨_, rfl, ?_⟩
 refine gdi hp fun N hp => ?_
 refine gdi hp fun O hp => ?_
 obtain ⟨P, hp⟩ := gd_some hp
 refine ⟨P, trivial, _, _, J.bk.rp (k := 9) (j := 2) rfl (by omega), (e.bk.rp (k := 9) (j := 2) rfl (by omega)), (d.bk.rp (k := 9) (j := 2) rfl (by omega)), (a.bk.rp (k := 9) (j := 2) rfl (by omega)), ?_⟩
 obtain ⟨ia, S, hp⟩ := bsome hp
 refine s_rCount (r := s.Peak) l.pre  S fun la T => ?_
 obtain ⟨Y, ja⟩ := l.call T b
 refine ⟨_, rfl, ?_⟩
 refine gdi hp fun Z hp => ?_
 refine gdi hp fun aa hp => ?_
 refine gdi hp fun ba hp => ?_
 obtain rfl := Option.some.inj hp
 exact hq _ Y.ext'
theorem s_rFault {s : Stm} {ca111 : C} {m f : M} {Q : V → M → Prop} {rz : Int} (hS : Pre f m) (ha111 : Sl f ca111 s.Cards) (hp : prFault s = some rz) (hq : ∀ m', Ext m m' → Q (.c (Il rz)) m') : Wc prog tbl 66 [.agg 12 [(Il s.Wide), (Il s.High), (Il s.Fall), (Il s.A.Lo), (Il s.A.Hi), (Il s.B.Lo), (Il s.B.Hi), (Il s.Half.Lo), (Il s.Half.Hi), (Il s.Peak.Lo), (Il s.Peak.Hi), ca111]] m Q := by
 have S0 := hS.st
 obtain ⟨τ0, _⟩ : ∃ τ : Nat → Nat, True := ⟨fun _ => 0, trivial⟩
 refine w66 ?_
 unfold prFault at hp
 intro m0 T
 obtain ⟨e, b, Ra, d⟩ := S0.blk T τ0 1
 refine ⟨trivial, _, d.bk.rc rfl, ?_⟩
 refine ifd hp (fun Y hp => ?_) fun Y hp => ?_
 ·obtain rfl := Option.some.inj hp
  exact hq _ b.ext'
 refine ⟨trivial, _, d.bk.rc rfl, ?_⟩
 refine ifd hp (fun Z hp => ?_) fun Z hp => ?_
 ·obtain rfl := Option.some.inj hp
  exact hq _ b.ext'
 refine ⟨trivial, _, d.bk.rc rfl, ha111.isSl, ?_⟩
 try rw [ha111.slLen]
 refine ifd hp (fun aa hp => ?_) fun aa hp => ?_
 ·obtain rfl := Option.some.inj hp
  exact hq _ b.ext'
 refine ⟨trivial, _, d.bk.rc rfl, ?_⟩
 refine ifd hp (fun ba hp => ?_) fun ba hp => ?_
 ·obtain rfl := Option.some.inj hp
  exact hq _ b.ext'
 refine ⟨trivial, _, d.bk.rc rfl, ?_⟩
 refine ifd hp (fun ca hp => ?_) fun ca hp => ?_
 ·obtain rfl := Option.some.inj hp
  exact hq _ b.ext'
 refine ⟨trivial, _, d.bk.rc rfl, ?_⟩
 obtain ⟨Sa, da, hp⟩ := bsome hp
 refine s_rIn (n := s.Fall) (low := (0 : Int)) (high := (4 : Int)) b.pre  da fun m8 ea => ?_
 obtain ⟨o, fa⟩ := b.call ea e
 have p := d.k fa
 refine ⟨_, rfl, ?_⟩
 refine ifnb hp (fun ga hp => ?_) fun ga hp => ?_
 ·obtain rfl := Option.some.inj hp
  exact hq _ o.ext'
 refine ⟨trivial, _, _, p.bk.rp (k := 3) (j := 2) rfl (by omega), trivial, _, p.bk.rc rfl, ?_⟩
 refine gdi hp fun ha hp => ?_
 obtain ⟨Ta, ia, hp⟩ := bsome hp
 refine s_rWithin (r := s.A) (low := (0 : Int)) (high := (s.High - (1 : Int))) o.pre  ia fun ab ja => ?_
 obtain ⟨q, ka⟩ := o.call ja e
 have t := p.k ka
 refine ⟨_, rfl, ?_⟩
 refine ifnb hp (fun la hp => ?_) fun la hp => ?_
 ·obtain rfl := Option.some.inj hp
  exact hq _ q.ext'
 refine ⟨trivial, _, _, t.bk.rp (k := 5) (j := 2) rfl (by omega), trivial, _, t.bk.rc rfl, ?_⟩
 refine gdi hp fun ma hp => ?_
 obtain ⟨Ua, na, hp⟩ := bsome hp
 refine s_rWithin (r := s.B) (low := (0 : Int)) (high := (s.High - (1 : Int))) q.pre  na fun bb oa => ?_
 obtain ⟨u, pa⟩ := q.call oa e
 have F := t.k pa
 refine ⟨_, rfl, ?_⟩
 refine ifnb hp (fun qa hp => ?_) fun qa hp => ?_
 ·obtain rfl := Option.some.inj hp
  exact hq _ u.ext'
 refine ⟨trivial, _, _, F.bk.rp (k := 7) (j := 2) rfl (by omega), ?_⟩
 obtain ⟨Va, sa, hp⟩ := bsome hp
 refine s_rWithin (r := s.Half) (low := (0 : Int)) (high := (3 : Int)) u.pre  sa fun cb ta => ?_
 obtain ⟨x, ua⟩ := u.call ta e
 have G := F.k ua
 refine ⟨_, rfl, ?_⟩
 refine ifnb hp (fun va hp => ?_) fun va hp => ?_
 ·obtain rfl := Option.some.inj hp
  exact hq _ x.ext'
 refine ⟨trivial, _, _, G.bk.rp (k := 9) (j := 2) rfl (by omega), ?_⟩
 obtain ⟨Wa, wa, hp⟩ := bsome hp
 refine s_rWithin (r := s.Peak) (low := (1 : Int)) (high := (9 : Int)) x.pre  wa fun db xa => ?_
 obtain ⟨I, ya⟩ := x.call xa e
 have a := G.k ya
 refine ⟨_, rfl, ?_⟩
 refine ifnb hp (fun za hp => ?_) fun za hp => ?_
 ·obtain rfl := Option.some.inj hp
  exact hq _ I.ext'
 intro Na Aa
 have hgo : ∀ (i : Nat) (J : Int) (z : Int) (l : M) (g : Nat → Nat), St (Fm.of m) f f l → Lb (Fm.of m) f g l 1 m.nxt 12 [(Il s.Wide), (Il s.High), (Il s.Fall), (Il s.A.Lo), (Il s.A.Hi), (Il s.B.Lo), (Il s.B.Hi), (Il s.Half.Lo), (Il s.Half.Hi), (Il s.Peak.Lo), (Il s.Peak.Hi), ca111] → prFault_L0 s i z = some rz → Na [.c (Il J), .c (Il z)] l := by
  intro i
  induction i with
  | zero => intro J z l g h a hp; cases hp
  | succ i P =>
   intro J z l g h a hp
   refine Aa _ _ _ ?_
   rw [prFault_L0] at hp
   refine ⟨trivial, _, a.bk.rc rfl, ha111.isSl, ?_⟩
   try rw [ha111.slLen]
   refine ifd hp (fun Ba hp => ?_) fun Ba hp => ?_; rotate_left
   ·refine ⟨_, _, _, _, _, _, _, _, _, _, _, _, a.bk.ra, ?_⟩
    obtain ⟨Xa, Ca, hp⟩ := bsome hp
    refine s_rMany (s := s) h.pre ha111 Ca fun eb Da => ?_
    obtain ⟨N, Ya⟩ := h.call Da g
    refine ⟨_, rfl, ?_⟩
    refine ifd hp (fun Ea hp => ?_) fun Ea hp => ?_
    ·obtain rfl := Option.some.inj hp
     exact hq _ N.ext'
    obtain rfl := Option.some.inj hp
    exact hq _ N.ext'
   refine ⟨_, _, _, _, _, _, _, _, _, _, _, _, a.bk.ra, trivial, _, a.bk.rc rfl, ?_⟩
   obtain ⟨Fa, y, hp⟩ := bsome hp
   obtain ⟨Oa, S, D, y⟩ := idx_some y
   obtain ⟨_, Ga⟩ := rd_Crd ha111 y
   refine ⟨Oa, S, (by first | exact D | (rw [ha111.slLen]; exact D)), _, _, _, _, _, _, _, (Ga _ h.sub).1, ?_⟩
   obtain ⟨Za, Ha, hp⟩ := bsome hp
   refine s_rIsCard (s := s) (c := Fa) h.pre ha111 Ha fun fb Ia => ?_
   obtain ⟨O, Ja⟩ := h.call Ia g
   have Ka := a.k Ja
   refine ⟨_, rfl, ?_⟩
   refine ifnb hp (fun La hp => ?_) fun La hp => ?_
   ·obtain rfl := Option.some.inj hp
    exact hq _ O.ext'
   refine gdi hp fun Ma hp => ?_
   exact P _ _ _ g O Ka hp
 exact hgo _ _ _ _ e I a hp
theorem s_lTo {r : Rg} {m f : M} {Q : V → M → Prop} {rz : Rg} (hS : Pre f m)  (hp : plTo r = some rz) (hq : ∀ m', Ext m m' → Q (.agg 2 [(Il rz.Lo), (Il rz.Hi)]) m') : Wc prog tbl 32 [.agg 2 [(Il r.Lo), (Il r.Hi)]] m Q := by
 have u := hS.st
 obtain ⟨x, _⟩ : ∃ τ : Nat → Nat, True := ⟨fun _ => 0, trivial⟩
 refine w32 ?_
 unfold plTo at hp
 intro y b
 obtain ⟨c, d, q, e⟩ := u.blk b x 1
 intro z g
 obtain ⟨s, h, i, j⟩ := d.blk g c 2
 have a := e.k i
 refine ⟨trivial, _, a.bk.rc rfl, trivial, _, a.bk.rc rfl, ?_⟩
 obtain ⟨l, n, o, t, p⟩ := j.sto h [(Il r.Lo), (Il r.Hi)]
 refine ⟨l, n, ?_⟩
 refine ⟨_, _, p.bk.ra, ?_⟩
 obtain rfl := Option.some.inj hp
 exact hq _ o.ext'
theorem s_lStorm {s : Stm} {ca111 : C} {m f : M} {Q : V → M → Prop} {rz : Stm} (hS : Pre f m) (ha111 : Sl f ca111 s.Cards) (hp : plStorm s = some rz) (hq : ∀ m' f' c11, Grw m f m' f' → Sl f' c11 rz.Cards → Q (.agg 12 [(Il rz.Wide), (Il rz.High), (Il rz.Fall), (Il rz.A.Lo), (Il rz.A.Hi), (Il rz.B.Lo), (Il rz.B.Hi), (Il rz.Half.Lo), (Il rz.Half.Hi), (Il rz.Peak.Lo), (Il rz.Peak.Hi), c11]) m') : Wc prog tbl 19 [.agg 12 [(Il s.Wide), (Il s.High), (Il s.Fall), (Il s.A.Lo), (Il s.A.Hi), (Il s.B.Lo), (Il s.B.Hi), (Il s.Half.Lo), (Il s.Half.Hi), (Il s.Peak.Lo), (Il s.Peak.Hi), ca111]] m Q := by
 have S0 := hS.st
 obtain ⟨τ0, _⟩ : ∃ τ : Nat → Nat, True := ⟨fun _ => 0, trivial⟩
 refine w19 ?_
 unfold plStorm at hp
 intro m0 Wa
 obtain ⟨Xa, Ya, Lc, Za⟩ := S0.blk Wa τ0 1
 intro m1 ab
 obtain ⟨bb, cb, db, eb⟩ := Ya.blk ab Xa 2
 have fb := Za.k db
 intro m2 gb
 obtain ⟨J, ya, za, Ua⟩ := cb.growK gb bb 3
 have e := fb.k za
 have hb := eb.k za
 have ib := Ua 0 (by decide)
 refine ⟨trivial, _, e.bk.rc rfl, trivial, _, e.bk.rc rfl, trivial, _, e.bk.rc rfl, trivial, _, _, e.bk.rp (k := 3) (j := 2) rfl (by omega), ?_⟩
 obtain ⟨Aa, jb, hp⟩ := bsome hp
 refine s_lTo (r := s.A) ya.pre  jb fun m9 kb => ?_
 obtain ⟨Ba, ja⟩ := ya.call kb J
 have h := e.k ja
 have mb := hb.k ja
 have nb := ib.k ja
 refine ⟨_, _, rfl, (h.bk.rc rfl), (h.bk.rc rfl), (h.bk.rc rfl), trivial, _, _, h.bk.rp (k := 5) (j := 2) rfl (by omega), (e.bk.rp (k := 5) (j := 2) rfl (by omega)), ?_⟩
 obtain ⟨Ca, ob, hp⟩ := bsome hp
 refine s_lTo (r := s.B) Ba.pre  ob fun Tc pb => ?_
 obtain ⟨Da, ka⟩ := Ba.call pb J
 have l := h.k ka
 have qb := mb.k ka
 have rb := nb.k ka
 refine ⟨_, _, rfl, (l.bk.rc rfl), (l.bk.rc rfl), (l.bk.rc rfl), trivial, _, _, l.bk.rp (k := 7) (j := 2) rfl (by omega), (h.bk.rp (k := 7) (j := 2) rfl (by omega)), (e.bk.rp (k := 7) (j := 2) rfl (by omega)), ?_⟩
 obtain ⟨Ea, sb, hp⟩ := bsome hp
 refine s_lTo (r := s.Half) Da.pre  sb fun Uc tb => ?_
 obtain ⟨Fa, la⟩ := Da.call tb J
 have N := l.k la
 have ub := qb.k la
 have vb := rb.k la
 refine ⟨_, _, rfl, (N.bk.rc rfl), (N.bk.rc rfl), (N.bk.rc rfl), trivial, _, _, N.bk.rp (k := 9) (j := 2) rfl (by omega), (l.bk.rp (k := 9) (j := 2) rfl (by omega)), (h.bk.rp (k := 9) (j := 2) rfl (by omega)), (e.bk.rp (k := 9) (j := 2) rfl (by omega)), ?_⟩
 obtain ⟨Ga, wb, hp⟩ := bsome hp
 refine s_lTo (r := s.Peak) Fa.pre  wb fun Vc xb => ?_
 obtain ⟨yb, ma⟩ := Fa.call xb J
 have ca := N.k ma
 have zb := ub.k ma
 have Ab := vb.k ma
 refine ⟨_, _, rfl, (ca.bk.rc rfl), (ca.bk.rc rfl), (ca.bk.rc rfl), ?_⟩
 intro Xc Bb
 obtain ⟨Cb, Ha, Db⟩ := Ab.set yb Bb
 have g := ca.k Ha
 have Eb := zb.k Ha
 refine ⟨(g.bk.rp (k := 9) (j := 2) rfl (by omega)), (g.bk.rp (k := 7) (j := 2) rfl (by omega)), (g.bk.rp (k := 5) (j := 2) rfl (by omega)), (g.bk.rp (k := 3) (j := 2) rfl (by omega)), (g.bk.rc rfl), (g.bk.rc rfl), (g.bk.rc rfl), ?_⟩
 obtain ⟨Fb, Gb, Hb, Ia, O⟩ := Db.sto Cb [(Il s.Wide), (Il s.High), (Il s.Fall), (Il Aa.Lo), (Il Aa.Hi), (Il Ca.Lo), (Il Ca.Hi), (Il Ea.Lo), (Il Ea.Hi), (Il Ga.Lo), (Il Ga.Hi), .sl0]
 have n := g.k Ia
 have P := Eb.k Ia
 refine ⟨Fb, Gb, ?_⟩
 intro Jc Ic
 have hgo : ∀ (da : Nat) (Ja : Int) (o : C) (p : Int) (q : Int) (t : Int) (u : Int) (x : Int) (y : Int) (z : Int) (D : Int) (F : Int) (G : Int) (I : Int) (ea : List Crd) (ba : M) (i : Nat → Nat), St (Fm.of m) f f ba → Lb (Fm.of m) f i ba 1 m.nxt 12 [(Il s.Wide), (Il s.High), (Il s.Fall), (Il s.A.Lo), (Il s.A.Hi), (Il s.B.Lo), (Il s.B.Hi), (Il s.Half.Lo), (Il s.Half.Hi), (Il s.Peak.Lo), (Il s.Peak.Hi), ca111] → Lb (Fm.of m) f i ba 2 m0.nxt 12 [(Il 0), (Il 0), (Il 0), (Il 0), (Il 0), (Il 0), (Il 0), (Il 0), (Il 0), (Il 0), (Il 0), .sl0] → Lb (Fm.of m) f i ba 3 (m1.nxt + 0) 12 [(Il p), (Il q), (Il t), (Il u), (Il x), (Il y), (Il z), (Il D), (Il F), (Il G), (Il I), o] → Ow (Fm.of m) f i ba 4 o ea → plStorm_L0 s da p q t u x y z D F G I ea Ja = some rz → Jc [.c (Il Ja)] ba := by
  intro da
  induction da with
  | zero => intro Ja o p q t u x y z D F G I ea ba i fa n P O b hp; cases hp
  | succ da Ib =>
   intro Ja o p q t u x y z D F G I ea ba i fa n P O b hp
   refine Ic _ _ ?_
   rw [plStorm_L0] at hp
   refine ⟨trivial, _, n.bk.rc rfl, ha111.isSl, ?_⟩
   try rw [ha111.slLen]
   refine ifd hp (fun Jb hp => ?_) fun Jb hp => ?_; rotate_left
   ·refine ⟨_, _, _, _, _, _, _, _, _, _, _, _, O.bk.ra, ?_⟩
    obtain ⟨Kb, Mb, Nb, Ob, Pb⟩ := P.sto fa [(Il p), (Il q), (Il t), (Il u), (Il x), (Il y), (Il z), (Il D), (Il F), (Il G), (Il I), o]
    have b := b.k Ob
    refine ⟨Kb, Mb, ?_⟩
    refine ⟨_, _, _, _, _, _, _, _, _, _, _, _, Pb.bk.ra, ?_⟩
    obtain ⟨Qb, Rb, Nc, Sb⟩ := b.freeze Nb
    obtain rfl := Option.some.inj hp
    exact hq _ Qb o Rb.grw Sb
   refine ⟨trivial, _, n.bk.rc rfl, ?_⟩
   obtain ⟨d, na, hp⟩ := bsome hp
   obtain ⟨Kc, Va, xa, na⟩ := idx_some na
   obtain ⟨_, Tb⟩ := rd_Crd ha111 na
   refine ⟨Kc, Va, (by first | exact xa | (rw [ha111.slLen]; exact xa)), _, _, _, _, _, _, _, (Tb _ fa.sub).1, ?_⟩
   intro Yc Ub
   obtain ⟨oa, Vb, ga, Wb⟩ := fa.blk Ub i 5
   have Xb := n.k ga
   have Yb := P.k ga
   have Zb := O.k ga
   have b := b.k ga
   obtain ⟨ac, bc, Ka, ha, S⟩ := Wb.sto Vb [(Il d.X.Lo), (Il d.X.Hi), (Il d.Y.Lo), (Il d.Y.Hi), (.bool d.Hail), (Il d.Size.Lo), (Il d.Size.Hi)]
   have cc := Xb.k ha
   have dc := Yb.k ha
   have La := Zb.k ha
   have b := b.k ha
   refine ⟨ac, bc, ?_⟩
   refine ⟨trivial, _, La.bk.rc rfl, trivial, _, _, S.bk.rp (k := 0) (j := 2) rfl (by omega), ?_⟩
   obtain ⟨Ma, ec, hp⟩ := bsome hp
   refine s_lTo (r := d.X) Ka.pre  ec fun Zc fc => ?_
   obtain ⟨Na, T⟩ := Ka.call fc oa
   have gc := cc.k T
   have hc := dc.k T
   have Oa := La.k T
   have ia := S.k T
   have b := b.k T
   refine ⟨_, _, rfl, (by rw [show cmC _ = true from cmC_of (b.noFn)]; exact (Oa.bk.rc rfl)), trivial, _, _, ia.bk.rp (k := 2) (j := 2) rfl (by omega), (S.bk.rp (k := 2) (j := 2) rfl (by omega)), ?_⟩
   obtain ⟨Pa, ic, hp⟩ := bsome hp
   refine s_lTo (r := d.Y) Na.pre  ic fun ad jc => ?_
   obtain ⟨Qa, Z⟩ := Na.call jc oa
   have kc := gc.k Z
   have lc := hc.k Z
   have Ra := Oa.k Z
   have pa := ia.k Z
   have b := b.k Z
   refine ⟨_, _, rfl, (by rw [show cmC _ = true from cmC_of (b.noFn)]; exact (Ra.bk.rc rfl)), trivial, _, pa.bk.rc rfl, (ia.bk.rc rfl), (S.bk.rc rfl), trivial, _, _, pa.bk.rp (k := 5) (j := 2) rfl (by omega), (ia.bk.rp (k := 5) (j := 2) rfl (by omega)), (S.bk.rp (k := 5) (j := 2) rfl (by omega)), ?_⟩
   obtain ⟨Sa, nc, hp⟩ := bsome hp
   refine s_lTo (r := d.Size) Qa.pre  nc fun bd oc => ?_
   obtain ⟨pc, aa⟩ := Qa.call oc oa
   have qc := kc.k aa
   have sc := lc.k aa
   have qa := Ra.k aa
   have tc := pa.k aa
   have b := b.k aa
   refine ⟨_, _, rfl, (tc.bk.rc rfl), (by rw [show cmC _ = true from cmC_of (b.noFn)]; exact (qa.bk.rc rfl)), ?_⟩
   obtain ⟨uc, hp⟩ := gd_some hp
   intro cd Ta
   refine ⟨(by rw [show cmC _ = true from cmC_of (b.noFn)]; exact (qa.bk.ext (Bk.new Ta).2).rc rfl), ?_⟩
   obtain ⟨sa, vc, wc, xc, yc, ta, ua⟩ := b.app' ta35 pc (a := ({ X := Ma, Y := Pa, Hail := d.Hail, Size := Sa } : Crd)) (show Rp.rep (α := Crd) f _ ({ X := Ma, Y := Pa, Hail := d.Hail, Size := Sa } : Crd) from rfl) uc Ta
   have zc := qc.k ta
   have Ac := sc.k ta
   have Bc := qa.k ta
   refine ⟨sa, vc, xc, ?_⟩
   refine ⟨trivial, ?_⟩
   obtain ⟨Cc, Dc, Ec, va, wa⟩ := Bc.sto1 yc 11 sa (by simp) rfl
   replace wa : Lb _ _ _ _ _ _ _ [(Il p), (Il q), (Il t), (Il u), (Il x), (Il y), (Il z), (Il D), (Il F), (Il G), (Il I), sa] := wa
   have Fc := zc.k va
   have Gc := Ac.k va
   have ua := ua.k va
   refine ⟨Cc, Dc, ?_⟩
   refine gdi hp fun Hc hp => ?_
   exact Ib _ _ _ _ _ _ _ _ _ _ _ _ _ _ _ wc Ec Fc Gc wa ua hp
 exact hgo _ _ _ _ _ _ _ _ _ _ _ _ _ _ _ _ J Hb n P O (Ow.nil _ _ _ _ _) hp
theorem s_lRect {r : Rct} {m f : M} {Q : V → M → Prop} {rz : Rct} (hS : Pre f m)  (hp : plRect r = some rz) (hq : ∀ m', Ext m m' → Q (.agg 4 [(Il rz.X.Lo), (Il rz.X.Hi), (Il rz.Y.Lo), (Il rz.Y.Hi)]) m') : Wc prog tbl 20 [.agg 4 [(Il r.X.Lo), (Il r.X.Hi), (Il r.Y.Lo), (Il r.Y.Hi)]] m Q := by
 have S := hS.st
 obtain ⟨T, _⟩ : ∃ τ : Nat → Nat, True := ⟨fun _ => 0, trivial⟩
 refine w20 ?_
 unfold plRect at hp
 intro m0 i
 obtain ⟨l, n, O, o⟩ := S.blk i T 1
 intro m1 p
 obtain ⟨b, c, q, s⟩ := n.blk p l 2
 have a := o.k q
 refine ⟨trivial, _, _, a.bk.rp (k := 0) (j := 2) rfl (by omega), ?_⟩
 obtain ⟨d, t, hp⟩ := bsome hp
 refine s_lTo (r := r.X) c.pre  t fun m5 u => ?_
 obtain ⟨e, g⟩ := c.call u b
 have x := a.k g
 have y := s.k g
 refine ⟨_, _, rfl, trivial, _, _, x.bk.rp (k := 2) (j := 2) rfl (by omega), (a.bk.rp (k := 2) (j := 2) rfl (by omega)), ?_⟩
 obtain ⟨h, z, hp⟩ := bsome hp
 refine s_lTo (r := r.Y) e.pre  z fun Z A => ?_
 obtain ⟨B, D⟩ := e.call A b
 have F := y.k D
 refine ⟨_, _, rfl, ?_⟩
 obtain ⟨G, I, J, P, N⟩ := F.sto B [(Il d.Lo), (Il d.Hi), (Il h.Lo), (Il h.Hi)]
 refine ⟨G, I, ?_⟩
 refine ⟨_, _, _, _, N.bk.ra, ?_⟩
 obtain rfl := Option.some.inj hp
 exact hq _ J.ext'
theorem s_lThin {s : Stm} {ca111 : C} {m f : M} {Q : V → M → Prop} {rz : Bool} (hS : Pre f m) (ha111 : Sl f ca111 s.Cards) (hp : plThin s = some rz) (hq : ∀ m', Ext m m' → Q (.c (.bool rz)) m') : Wc prog tbl 16 [.agg 12 [(Il s.Wide), (Il s.High), (Il s.Fall), (Il s.A.Lo), (Il s.A.Hi), (Il s.B.Lo), (Il s.B.Hi), (Il s.Half.Lo), (Il s.Half.Hi), (Il s.Peak.Lo), (Il s.Peak.Hi), ca111]] m Q := by
 have z := hS.st
 obtain ⟨D, _⟩ : ∃ τ : Nat → Nat, True := ⟨fun _ => 0, trivial⟩
 refine w16 ?_
 unfold plThin at hp
 intro I g
 obtain ⟨e, a, t, b⟩ := z.blk g D 1
 refine ⟨trivial, _, b.bk.rc rfl, ha111.isSl, ?_⟩
 try rw [ha111.slLen]
 refine ifd hp (fun h hp => ?_) fun h hp => ?_; rotate_left
 ·obtain rfl := Option.some.inj hp
  exact hq _ a.ext'
 refine ⟨_, _, _, _, _, _, _, _, _, _, _, _, b.bk.ra, ?_⟩
 obtain ⟨u, i, hp⟩ := bsome hp
 refine s_rFault (s := s) a.pre ha111 i fun F j => ?_
 obtain ⟨d, l⟩ := a.call j e
 have n := b.k l
 refine ⟨_, rfl, ?_⟩
 refine ifnd hp (fun o hp => ?_) fun o hp => ?_
 ·obtain rfl := Option.some.inj hp
  exact hq _ d.ext'
 refine ⟨_, _, _, _, _, _, _, _, _, _, _, _, n.bk.ra, ?_⟩
 obtain ⟨x, p, hp⟩ := bsome hp
 refine s_rMany (s := s) d.pre ha111 p fun G q => ?_
 obtain ⟨r, y⟩ := d.call q e
 refine ⟨_, rfl, ?_⟩
 obtain rfl := Option.some.inj hp
 exact hq _ r.ext'
theorem s_lReady {s : Stm} {ca111 : C} {m f : M} {Q : V → M → Prop} {rz : Bool} (hS : Pre f m) (ha111 : Sl f ca111 s.Cards) (hp : plReady s = some rz) (hq : ∀ m', Ext m m' → Q (.c (.bool rz)) m') : Wc prog tbl 49 [.agg 12 [(Il s.Wide), (Il s.High), (Il s.Fall), (Il s.A.Lo), (Il s.A.Hi), (Il s.B.Lo), (Il s.B.Hi), (Il s.Half.Lo), (Il s.Half.Hi), (Il s.Peak.Lo), (Il s.Peak.Hi), ca111]] m Q := by
 have y := hS.st
 obtain ⟨z, _⟩ : ∃ τ : Nat → Nat, True := ⟨fun _ => 0, trivial⟩
 refine w49 ?_
 unfold plReady at hp
 intro G g
 obtain ⟨b, d, r, e⟩ := y.blk g z 1
 refine ⟨_, _, _, _, _, _, _, _, _, _, _, _, e.bk.ra, ?_⟩
 obtain ⟨t, h, hp⟩ := bsome hp
 refine s_lThin (s := s) d.pre ha111 h fun D i => ?_
 obtain ⟨a, j⟩ := d.call i b
 have l := e.k j
 refine ⟨_, rfl, ?_⟩
 refine ifbb hp (fun n hp => ?_) fun n hp => ?_; rotate_left
 ·obtain rfl := Option.some.inj hp
  exact hq _ a.ext'
 refine ⟨_, _, _, _, _, _, _, _, _, _, _, _, l.bk.ra, ?_⟩
 obtain ⟨u, o, hp⟩ := bsome hp
 refine s_rFault (s := s) a.pre ha111 o fun F p => ?_
 obtain ⟨q, x⟩ := a.call p b
 refine ⟨_, rfl, ?_⟩
 obtain rfl := Option.some.inj hp
 exact hq _ q.ext'
theorem s_lBox {s : Stm} {w : Int} {ca111 : C} {m f : M} {Q : V → M → Prop} {rz : Rct} (hS : Pre f m) (_ha111 : Sl f ca111 s.Cards) (hp : plBox s w = some rz) (hq : ∀ m', Ext m m' → Q (.agg 4 [(Il rz.X.Lo), (Il rz.X.Hi), (Il rz.Y.Lo), (Il rz.Y.Hi)]) m') : Wc prog tbl 51 [.agg 12 [(Il s.Wide), (Il s.High), (Il s.Fall), (Il s.A.Lo), (Il s.A.Hi), (Il s.B.Lo), (Il s.B.Hi), (Il s.Half.Lo), (Il s.Half.Hi), (Il s.Peak.Lo), (Il s.Peak.Hi), ca111], .c (.int .u16 w)] m Q := by
 have S0 := hS.st
 obtain ⟨τ0, _⟩ : ∃ τ : Nat → Nat, True := ⟨fun _ => 0, trivial⟩
 refine w51 ?_
 unfold plBox at hp
 intro m0 b
 obtain ⟨d, e, ia, g⟩ := S0.blk b τ0 1
 intro m1 h
 obtain ⟨ja, i, j, l⟩ := e.blk h d 2
 have a := g.k j
 refine ⟨trivial, _, a.bk.rc rfl, ?_⟩
 refine gdi hp fun n hp => ?_
 refine gdi hp fun o hp => ?_
 refine gdi hp fun p hp => ?_
 refine gdi hp fun q hp => ?_
 refine gdi hp fun r hp => ?_
 obtain ⟨t, hp⟩ := gd_some hp
 refine ⟨t, trivial, _, a.bk.rc rfl, ?_⟩
 refine gdi hp fun u hp => ?_
 refine gdi hp fun x hp => ?_
 obtain ⟨y, hp⟩ := gd_some hp
 refine ⟨y, trivial, _, a.bk.rc rfl, ?_⟩
 refine gdi hp fun z hp => ?_
 refine gdi hp fun D hp => ?_
 refine gdi hp fun F hp => ?_
 refine gdi hp fun G hp => ?_
 refine gdi hp fun I hp => ?_
 refine gdi hp fun J hp => ?_
 refine gdi hp fun N hp => ?_
 obtain ⟨O, hp⟩ := gd_some hp
 refine ⟨O, trivial, _, a.bk.rc rfl, ?_⟩
 refine gdi hp fun P hp => ?_
 refine gdi hp fun S hp => ?_
 refine gdi hp fun T hp => ?_
 refine gdi hp fun Z hp => ?_
 refine gdi hp fun aa hp => ?_
 refine gdi hp fun ba hp => ?_
 refine gdi hp fun ca hp => ?_
 refine gdi hp fun da hp => ?_
 obtain ⟨ea, fa, ga, ka, ha⟩ := l.sto i [(Il ((wrapZ .i64 w) % s.Wide)), (Il (min (s.Wide - (1 : Int)) (((wrapZ .i64 w) % s.Wide) + (((wrapZ .i64 w) / (256 : Int)) % (4 : Int))))), (Il (((wrapZ .i64 w) / (16 : Int)) % s.High)), (Il (min (s.High - (1 : Int)) ((((wrapZ .i64 w) / (16 : Int)) % s.High) + (((wrapZ .i64 w) / (1024 : Int)) % (4 : Int)))))]
 refine ⟨ea, fa, ?_⟩
 refine ⟨_, _, _, _, ha.bk.ra, ?_⟩
 obtain rfl := Option.some.inj hp
 exact hq _ ga.ext'
theorem s_lInside {a : Rg} {b : Rg} {m f : M} {Q : V → M → Prop} {rz : Bool} (hS : Pre f m)  (hp : plInside a b = some rz) (hq : ∀ m', Ext m m' → Q (.c (.bool rz)) m') : Wc prog tbl 56 [.agg 2 [(Il a.Lo), (Il a.Hi)], .agg 2 [(Il b.Lo), (Il b.Hi)]] m Q := by
 have s := hS.st
 obtain ⟨t, _⟩ : ∃ τ : Nat → Nat, True := ⟨fun _ => 0, trivial⟩
 refine w56 ?_
 unfold plInside at hp
 intro u h
 obtain ⟨i, j, q, l⟩ := s.blk h t 1
 intro x n
 obtain ⟨r, d, o, e⟩ := j.blk n i 2
 have g := l.k o
 refine ⟨trivial, _, g.bk.rc rfl, trivial, _, e.bk.rc rfl, ?_⟩
 refine ifd hp (fun p hp => ?_) fun p hp => ?_; rotate_left
 ·obtain rfl := Option.some.inj hp
  exact hq _ d.ext'
 refine ⟨trivial, _, g.bk.rc rfl, trivial, _, e.bk.rc rfl, ?_⟩
 obtain rfl := Option.some.inj hp
 exact hq _ d.ext'
theorem s_lNarrower {a : Stm} {b : Stm} {ca111 ca211 : C} {m f : M} {Q : V → M → Prop} {rz : Bool} (hS : Pre f m) (_ha111 : Sl f ca111 a.Cards) (_ha211 : Sl f ca211 b.Cards) (hp : plNarrower a b = some rz) (hq : ∀ m', Ext m m' → Q (.c (.bool rz)) m') : Wc prog tbl 55 [.agg 12 [(Il a.Wide), (Il a.High), (Il a.Fall), (Il a.A.Lo), (Il a.A.Hi), (Il a.B.Lo), (Il a.B.Hi), (Il a.Half.Lo), (Il a.Half.Hi), (Il a.Peak.Lo), (Il a.Peak.Hi), ca111], .agg 12 [(Il b.Wide), (Il b.High), (Il b.Fall), (Il b.A.Lo), (Il b.A.Hi), (Il b.B.Lo), (Il b.B.Hi), (Il b.Half.Lo), (Il b.Half.Hi), (Il b.Peak.Lo), (Il b.Peak.Hi), ca211]] m Q := by
 have S0 := hS.st
 obtain ⟨τ0, _⟩ : ∃ τ : Nat → Nat, True := ⟨fun _ => 0, trivial⟩
 refine w55 ?_
 unfold plNarrower at hp
 intro m0 x
 obtain ⟨y, z, fa, D⟩ := S0.blk x τ0 1
 intro m1 F
 obtain ⟨d, i, G, l⟩ := z.blk F y 2
 have n := D.k G
 refine ⟨trivial, _, _, n.bk.rp (k := 3) (j := 2) rfl (by omega), trivial, _, _, l.bk.rp (k := 3) (j := 2) rfl (by omega), ?_⟩
 obtain ⟨ga, I, hp⟩ := bsome hp
 refine s_lInside (a := a.A) (b := b.A) i.pre  I fun m7 J => ?_
 obtain ⟨e, o⟩ := i.call J d
 have p := n.k o
 have q := l.k o
 refine ⟨_, rfl, ?_⟩
 refine ifbb hp (fun N hp => ?_) fun N hp => ?_; rotate_left
 ·obtain rfl := Option.some.inj hp
  exact hq _ e.ext'
 refine ⟨trivial, _, _, p.bk.rp (k := 5) (j := 2) rfl (by omega), trivial, _, _, q.bk.rp (k := 5) (j := 2) rfl (by omega), ?_⟩
 obtain ⟨ha, O, hp⟩ := bsome hp
 refine s_lInside (a := a.B) (b := b.B) e.pre  O fun na P => ?_
 obtain ⟨g, r⟩ := e.call P d
 have s := p.k r
 have t := q.k r
 refine ⟨_, rfl, ?_⟩
 refine ifbb hp (fun S hp => ?_) fun S hp => ?_; rotate_left
 ·obtain rfl := Option.some.inj hp
  exact hq _ g.ext'
 refine ⟨trivial, _, _, s.bk.rp (k := 7) (j := 2) rfl (by omega), trivial, _, _, t.bk.rp (k := 7) (j := 2) rfl (by omega), ?_⟩
 obtain ⟨ia, T, hp⟩ := bsome hp
 refine s_lInside (a := a.Half) (b := b.Half) g.pre  T fun oa Y => ?_
 obtain ⟨h, u⟩ := g.call Y d
 have Z := s.k u
 have aa := t.k u
 refine ⟨_, rfl, ?_⟩
 refine ifbb hp (fun ba hp => ?_) fun ba hp => ?_; rotate_left
 ·obtain rfl := Option.some.inj hp
  exact hq _ h.ext'
 refine ⟨trivial, _, _, Z.bk.rp (k := 9) (j := 2) rfl (by omega), trivial, _, _, aa.bk.rp (k := 9) (j := 2) rfl (by omega), ?_⟩
 obtain ⟨ja, ca, hp⟩ := bsome hp
 refine s_lInside (a := a.Peak) (b := b.Peak) h.pre  ca fun pa da => ?_
 obtain ⟨ea, ka⟩ := h.call da d
 refine ⟨_, rfl, ?_⟩
 obtain rfl := Option.some.inj hp
 exact hq _ ea.ext'
theorem s_has {r : Rg} {n : Int} {m f : M} {Q : V → M → Prop} {rz : Bool} (hS : Pre f m)  (hp : phas r n = some rz) (hq : ∀ m', Ext m m' → Q (.c (.bool rz)) m') : Wc prog tbl 120 [.agg 2 [(Il r.Lo), (Il r.Hi)], .c (Il n)] m Q := by
 have i := hS.st
 obtain ⟨j, _⟩ : ∃ τ : Nat → Nat, True := ⟨fun _ => 0, trivial⟩
 refine w120 ?_
 unfold phas at hp
 intro l d
 obtain ⟨g, a, h, b⟩ := i.blk d j 1
 refine ⟨trivial, _, b.bk.rc rfl, ?_⟩
 refine ifd hp (fun e hp => ?_) fun e hp => ?_; rotate_left
 ·obtain rfl := Option.some.inj hp
  exact hq _ a.ext'
 refine ⟨trivial, _, b.bk.rc rfl, ?_⟩
 obtain rfl := Option.some.inj hp
 exact hq _ a.ext'
theorem s_count {r : Rg} {m f : M} {Q : V → M → Prop} {rz : Int} (hS : Pre f m)  (hp : pcount r = some rz) (hq : ∀ m', Ext m m' → Q (.c (Il rz)) m') : Wc prog tbl 125 [.agg 2 [(Il r.Lo), (Il r.Hi)]] m Q := by
 have j := hS.st
 obtain ⟨l, _⟩ : ∃ τ : Nat → Nat, True := ⟨fun _ => 0, trivial⟩
 refine w125 ?_
 unfold pcount at hp
 intro n b
 obtain ⟨h, d, i, a⟩ := j.blk b l 1
 refine ⟨trivial, _, a.bk.rc rfl, trivial, _, a.bk.rc rfl, ?_⟩
 refine gdi hp fun e hp => ?_
 refine gdi hp fun g hp => ?_
 obtain rfl := Option.some.inj hp
 exact hq _ d.ext'
theorem s_within {r : Rg} {low : Int} {high : Int} {m f : M} {Q : V → M → Prop} {rz : Bool} (hS : Pre f m)  (hp : pwithin r low high = some rz) (hq : ∀ m', Ext m m' → Q (.c (.bool rz)) m') : Wc prog tbl 122 [.agg 2 [(Il r.Lo), (Il r.Hi)], .c (Il low), .c (Il high)] m Q := by
 have j := hS.st
 obtain ⟨l, _⟩ : ∃ τ : Nat → Nat, True := ⟨fun _ => 0, trivial⟩
 refine w122 ?_
 unfold pwithin at hp
 intro n d
 obtain ⟨h, b, i, a⟩ := j.blk d l 1
 refine ⟨trivial, _, a.bk.rc rfl, ?_⟩
 refine ifd hp (fun e hp => ?_) fun e hp => ?_; rotate_left
 ·obtain rfl := Option.some.inj hp
  exact hq _ b.ext'
 refine ⟨trivial, _, a.bk.rc rfl, trivial, _, a.bk.rc rfl, ?_⟩
 refine ifd hp (fun g hp => ?_) fun g hp => ?_; rotate_left
 ·obtain rfl := Option.some.inj hp
  exact hq _ b.ext'
 refine ⟨trivial, _, a.bk.rc rfl, ?_⟩
 obtain rfl := Option.some.inj hp
 exact hq _ b.ext'
theorem s_rect {c : Crd} {m f : M} {Q : V → M → Prop} {rz : Rct} (hS : Pre f m)  (hp : prect c = some rz) (hq : ∀ m', Ext m m' → Q (.agg 4 [(Il rz.X.Lo), (Il rz.X.Hi), (Il rz.Y.Lo), (Il rz.Y.Hi)]) m') : Wc prog tbl 133 [.agg 7 [(Il c.X.Lo), (Il c.X.Hi), (Il c.Y.Lo), (Il c.Y.Hi), (.bool c.Hail), (Il c.Size.Lo), (Il c.Size.Hi)]] m Q := by
 have x := hS.st
 obtain ⟨y, _⟩ : ∃ τ : Nat → Nat, True := ⟨fun _ => 0, trivial⟩
 refine w133 ?_
 unfold prect at hp
 intro z b
 obtain ⟨d, e, s, g⟩ := x.blk b y 1
 intro A h
 obtain ⟨t, i, l, n⟩ := e.blk h d 2
 have a := g.k l
 refine ⟨trivial, _, _, a.bk.rp (k := 0) (j := 2) rfl (by omega), trivial, _, _, a.bk.rp (k := 2) (j := 2) rfl (by omega), ?_⟩
 obtain ⟨o, p, q, u, r⟩ := n.sto i [(Il c.X.Lo), (Il c.X.Hi), (Il c.Y.Lo), (Il c.Y.Hi)]
 refine ⟨o, p, ?_⟩
 refine ⟨_, _, _, _, r.bk.ra, ?_⟩
 obtain rfl := Option.some.inj hp
 exact hq _ q.ext'
theorem s_tooMany {s : Stm} {ca111 : C} {m f : M} {Q : V → M → Prop} {rz : Bool} (hS : Pre f m) (ha111 : Sl f ca111 s.Cards) (hp : ptooMany s = some rz) (hq : ∀ m', Ext m m' → Q (.c (.bool rz)) m') : Wc prog tbl 98 [.agg 12 [(Il s.Wide), (Il s.High), (Il s.Fall), (Il s.A.Lo), (Il s.A.Hi), (Il s.B.Lo), (Il s.B.Hi), (Il s.Half.Lo), (Il s.Half.Hi), (Il s.Peak.Lo), (Il s.Peak.Hi), ca111]] m Q := by
 have j := hS.st
 obtain ⟨l, _⟩ : ∃ τ : Nat → Nat, True := ⟨fun _ => 0, trivial⟩
 refine w98 ?_
 unfold ptooMany at hp
 intro n d
 obtain ⟨h, a, i, b⟩ := j.blk d l 1
 refine ⟨trivial, _, b.bk.rc rfl, ?_⟩
 refine ifd hp (fun e hp => ?_) fun e hp => ?_
 ·obtain rfl := Option.some.inj hp
  exact hq _ a.ext'
 refine ⟨trivial, _, b.bk.rc rfl, ?_⟩
 refine ifd hp (fun g hp => ?_) fun g hp => ?_
 ·obtain rfl := Option.some.inj hp
  exact hq _ a.ext'
 refine ⟨trivial, _, b.bk.rc rfl, ha111.isSl, ?_⟩
 try rw [ha111.slLen]
 obtain rfl := Option.some.inj hp
 exact hq _ a.ext'
theorem s_hasRect {s : Stm} {r : Rct} {ca111 : C} {m f : M} {Q : V → M → Prop} {rz : Bool} (hS : Pre f m) (_ha111 : Sl f ca111 s.Cards) (hp : phasRect s r = some rz) (hq : ∀ m', Ext m m' → Q (.c (.bool rz)) m') : Wc prog tbl 107 [.agg 12 [(Il s.Wide), (Il s.High), (Il s.Fall), (Il s.A.Lo), (Il s.A.Hi), (Il s.B.Lo), (Il s.B.Hi), (Il s.Half.Lo), (Il s.Half.Hi), (Il s.Peak.Lo), (Il s.Peak.Hi), ca111], .agg 4 [(Il r.X.Lo), (Il r.X.Hi), (Il r.Y.Lo), (Il r.Y.Hi)]] m Q := by
 have T := hS.st
 obtain ⟨Z, _⟩ : ∃ τ : Nat → Nat, True := ⟨fun _ => 0, trivial⟩
 refine w107 ?_
 unfold phasRect at hp
 intro m0 i
 obtain ⟨l, n, N, o⟩ := T.blk i Z 1
 intro m1 p
 obtain ⟨b, d, q, e⟩ := n.blk p l 2
 have g := o.k q
 refine ⟨trivial, _, _, e.bk.rp (k := 0) (j := 2) rfl (by omega), trivial, _, g.bk.rc rfl, ?_⟩
 refine gdi hp fun t hp => ?_
 obtain ⟨O, u, hp⟩ := bsome hp
 refine s_within (r := r.X) (low := (0 : Int)) (high := (s.Wide - (1 : Int))) d.pre  u fun m6 x => ?_
 obtain ⟨a, h⟩ := d.call x b
 have y := g.k h
 have z := e.k h
 refine ⟨_, rfl, ?_⟩
 refine ifbb hp (fun D hp => ?_) fun D hp => ?_; rotate_left
 ·obtain rfl := Option.some.inj hp
  exact hq _ a.ext'
 refine ⟨trivial, _, _, z.bk.rp (k := 2) (j := 2) rfl (by omega), trivial, _, y.bk.rc rfl, ?_⟩
 refine gdi hp fun F hp => ?_
 obtain ⟨P, G, hp⟩ := bsome hp
 refine s_within (r := r.Y) (low := (0 : Int)) (high := (s.High - (1 : Int))) a.pre  G fun aa I => ?_
 obtain ⟨J, S⟩ := a.call I b
 refine ⟨_, rfl, ?_⟩
 obtain rfl := Option.some.inj hp
 exact hq _ J.ext'
theorem s_validCard {w : Wk} {c : Crd} {ca111 ca112 : C} {m f : M} {Q : V → M → Prop} {rz : Bool} (hS : Pre f m) (ha111 : Sl f ca111 w.s.Cards) (_ha112 : Mi f ca112 w.right) (hp : pvalidCard w c = some rz) (hq : ∀ m', Ext m m' → Q (.c (.bool rz)) m') : Wc prog tbl 124 [.agg 13 [(Il w.s.Wide), (Il w.s.High), (Il w.s.Fall), (Il w.s.A.Lo), (Il w.s.A.Hi), (Il w.s.B.Lo), (Il w.s.B.Hi), (Il w.s.Half.Lo), (Il w.s.Half.Hi), (Il w.s.Peak.Lo), (Il w.s.Peak.Hi), ca111, ca112], .agg 7 [(Il c.X.Lo), (Il c.X.Hi), (Il c.Y.Lo), (Il c.Y.Hi), (.bool c.Hail), (Il c.Size.Lo), (Il c.Size.Hi)]] m Q := by
 have S0 := hS.st
 obtain ⟨τ0, _⟩ : ∃ τ : Nat → Nat, True := ⟨fun _ => 0, trivial⟩
 refine w124 ?_
 unfold pvalidCard at hp
 intro m0 p
 obtain ⟨q, t, ga, u⟩ := S0.blk p τ0 1
 intro m1 x
 obtain ⟨a, e, y, g⟩ := t.blk x q 2
 have h := u.k y
 refine ⟨trivial, _, _, _, _, _, _, _, _, _, _, _, _, h.bk.rp (k := 0) (j := 12) rfl (by omega), _, _, _, _, _, _, _, g.bk.ra, ?_⟩
 obtain ⟨z, D, hp⟩ := bsome hp
 refine s_rect (c := c) e.pre  D fun la F => ?_
 obtain ⟨i, l⟩ := e.call F a
 have G := h.k l
 have I := g.k l
 refine ⟨_, _, _, _, rfl, (by rw [show allS cmC _ = true from cmL_of (nf_cons rfl (nf_cons rfl (nf_cons rfl (nf_cons rfl (nf_cons rfl (nf_cons rfl (nf_cons rfl (nf_cons rfl (nf_cons rfl (nf_cons rfl (nf_cons rfl (nf_cons ha111.noFn nf_nil))))))))))))]; exact (G.bk.rp (k := 0) (j := 12) rfl (by omega))), ?_⟩
 obtain ⟨ha, J, hp⟩ := bsome hp
 refine s_hasRect (s := w.s) (r := z) i.pre ha111 J fun ma N => ?_
 obtain ⟨b, O⟩ := i.call N a
 have n := I.k O
 refine ⟨_, rfl, ?_⟩
 refine ifnb hp (fun P hp => ?_) fun P hp => ?_
 ·obtain rfl := Option.some.inj hp
  exact hq _ b.ext'
 refine ⟨trivial, _, _, n.bk.rp (k := 5) (j := 2) rfl (by omega), ?_⟩
 obtain ⟨ia, S, hp⟩ := bsome hp
 refine s_within (r := c.Size) (low := (0 : Int)) (high := (9 : Int)) b.pre  S fun na T => ?_
 obtain ⟨d, Z⟩ := b.call T a
 have o := n.k Z
 refine ⟨_, rfl, ?_⟩
 refine ifnb hp (fun aa hp => ?_) fun aa hp => ?_
 ·obtain rfl := Option.some.inj hp
  exact hq _ d.ext'
 refine ⟨trivial, _, o.bk.rc rfl, ?_⟩
 refine ifbb hp (fun ba hp => ?_) fun ba hp => ?_
 ·obtain rfl := Option.some.inj hp
  exact hq _ d.ext'
 refine ⟨trivial, _, _, o.bk.rp (k := 5) (j := 2) rfl (by omega), ?_⟩
 refine gdi hp fun ca hp => ?_
 refine gdi hp fun da hp => ?_
 refine gdi hp fun ea hp => ?_
 refine gdi hp fun fa hp => ?_
 obtain rfl := Option.some.inj hp
 exact hq _ d.ext'
theorem s_eachC1 {x : Crd} {passes : Crd → Option (Bool)} {b0 : Nat} {cb000 : C} {m f : M} {Q : V → M → Prop} {rz : Bool} (hS : Pre f m) (hb0 : Bk f b0 1 [cb000]) (hb000 : Fv_Crd_Bool f cb000 passes) (hp : peachC1 x passes = some rz) (hq : ∀ m', Ext m m' → Q (.c (.bool rz)) m') : Wc prog tbl 135 [.agg 7 [(Il x.X.Lo), (Il x.X.Hi), (Il x.Y.Lo), (Il x.Y.Hi), (.bool x.Hail), (Il x.Size.Lo), (Il x.Size.Hi)], .c (.ptr b0 0)] m Q := by
 have o := hS.st
 obtain ⟨p, _⟩ : ∃ τ : Nat → Nat, True := ⟨fun _ => 0, trivial⟩
 refine c135 ?_
 unfold peachC1 at hp
 intro r b
 obtain ⟨d, a, j, e⟩ := o.blk b p 1
 refine ⟨_, (hb0.sub a.sub).rc rfl, _, _, _, _, _, _, _, e.bk.ra, ?_⟩
 obtain ⟨l, g, hp⟩ := bsome hp
 refine hb000 _ _ _ _ _ (Sub.refl _) a.pre  g fun q h => ?_
 obtain ⟨i, n⟩ := a.call h d
 refine ⟨_, rfl, ?_⟩
 obtain rfl := Option.some.inj hp
 exact hq _ i.ext'
theorem s_indexC {l : List Crd} {p : Crd → Option (Bool)} {ca100 ca200 : C} {m f : M} {Q : V → M → Prop} {rz : Int} (hS : Pre f m) (ha100 : Sl f ca100 l) (ha200 : Fv_Crd_Bool f ca200 p) (hp : pindexC l p = some rz) (hq : ∀ m', Ext m m' → Q (.c (Il rz)) m') : Wc prog tbl 139 [.c ca100, .c ca200] m Q := by
 have F := hS.st
 obtain ⟨G, _⟩ : ∃ τ : Nat → Nat, True := ⟨fun _ => 0, trivial⟩
 refine w139 ?_
 unfold pindexC at hp
 refine ⟨ha100.isSl, ?_⟩
 intro I z
 have hgo : ∀ (b : Nat) (x : Int) (j : Int) (n : M) (d : Nat → Nat), St (Fm.of m) f f n → pindexC_L0 l p b j = some rz → I [.c (Il x), .c (Il j)] n := by
  intro b
  induction b with
  | zero => intro x j n d a hp; cases hp
  | succ b y =>
   intro x j n d a hp
   refine z _ _ _ ?_
   rw [pindexC_L0] at hp
   try rw [ha100.slLen]
   refine ifd hp (fun o hp => ?_) fun o hp => ?_; rotate_left
   ·obtain rfl := Option.some.inj hp
    exact hq _ a.ext'
   obtain ⟨A, e, hp⟩ := bsome hp
   obtain ⟨J, i, g, e⟩ := idx_some e
   obtain ⟨_, q⟩ := rd_Crd ha100 e
   refine ⟨J, i, (by first | exact g | (rw [ha100.slLen]; exact g)), _, _, _, _, _, _, _, (q _ a.sub).1, ?_⟩
   obtain ⟨B, r, hp⟩ := bsome hp
   refine ha200 _ _ _ _ _ (Sub.refl _) a.pre  r fun N s => ?_
   obtain ⟨h, D⟩ := a.call s d
   refine ⟨_, rfl, ?_⟩
   refine ifbb hp (fun t hp => ?_) fun t hp => ?_
   ·obtain rfl := Option.some.inj hp
    exact hq _ h.ext'
   refine gdi hp fun u hp => ?_
   exact y _ _ _ d h hp
 exact hgo _ _ _ _ G F hp
theorem s_containsC {l : List Crd} {p : Crd → Option (Bool)} {ca100 ca200 : C} {m f : M} {Q : V → M → Prop} {rz : Bool} (hS : Pre f m) (ha100 : Sl f ca100 l) (ha200 : Fv_Crd_Bool f ca200 p) (hp : pcontainsC l p = some rz) (hq : ∀ m', Ext m m' → Q (.c (.bool rz)) m') : Wc prog tbl 134 [.c ca100, .c ca200] m Q := by
 have e := hS.st
 obtain ⟨i, _⟩ : ∃ τ : Nat → Nat, True := ⟨fun _ => 0, trivial⟩
 refine w134 ?_
 unfold pcontainsC at hp
 obtain ⟨g, a, hp⟩ := bsome hp
 refine s_indexC (l := l) (p := p) e.pre ha100 ha200 a fun j b => ?_
 obtain ⟨d, h⟩ := e.call b i
 refine ⟨_, rfl, ?_⟩
 obtain rfl := Option.some.inj hp
 exact hq _ d.ext'
theorem s_eachC {l : List Crd} {passes : Crd → Option (Bool)} {ca100 ca200 : C} {m f : M} {Q : V → M → Prop} {rz : Bool} (hS : Pre f m) (ha100 : Sl f ca100 l) (ha200 : Fv_Crd_Bool f ca200 passes) (hp : peachC l passes = some rz) (hq : ∀ m', Ext m m' → Q (.c (.bool rz)) m') : Wc prog tbl 123 [.c ca100, .c ca200] m Q := by
 have z := hS.st
 obtain ⟨A, _⟩ : ∃ τ : Nat → Nat, True := ⟨fun _ => 0, trivial⟩
 refine w123 ?_
 unfold peachC at hp
 intro B h
 obtain ⟨i, j, u, n⟩ := z.blk h A 1
 obtain ⟨o, b, d, e⟩ := n.freeze j
 have g : Fv_Crd_Bool o ((C.fn (Fn.func 135) [] [(W.c (C0.ptr m.nxt 0))])) (fun a => peachC1 a passes) := by
  intro f' m' a r Q hs hpre  hg hq
  exact s_eachC1 hpre (e.sub hs) ((ha200.sub d.fs).sub hs) hg hq
 obtain ⟨x, q, hp⟩ := bsome hp
 refine s_containsC (l := l) (p := (fun a => peachC1 a passes)) b.pre (ha100.sub d.fs) g q fun D s => ?_
 obtain ⟨t, y⟩ := b.call s i
 refine ⟨_, rfl, ?_⟩
 obtain rfl := Option.some.inj hp
 exact hq _ t.ext'
theorem s_eachR1 {x : Rct} {passes : Rct → Option (Bool)} {b0 : Nat} {cb000 : C} {m f : M} {Q : V → M → Prop} {rz : Bool} (hS : Pre f m) (hb0 : Bk f b0 1 [cb000]) (hb000 : Fv_Rct_Bool f cb000 passes) (hp : peachR1 x passes = some rz) (hq : ∀ m', Ext m m' → Q (.c (.bool rz)) m') : Wc prog tbl 127 [.agg 4 [(Il x.X.Lo), (Il x.X.Hi), (Il x.Y.Lo), (Il x.Y.Hi)], .c (.ptr b0 0)] m Q := by
 have o := hS.st
 obtain ⟨p, _⟩ : ∃ τ : Nat → Nat, True := ⟨fun _ => 0, trivial⟩
 refine c127 ?_
 unfold peachR1 at hp
 intro q b
 obtain ⟨d, a, j, e⟩ := o.blk b p 1
 refine ⟨_, (hb0.sub a.sub).rc rfl, _, _, _, _, e.bk.ra, ?_⟩
 obtain ⟨l, g, hp⟩ := bsome hp
 refine hb000 _ _ _ _ _ (Sub.refl _) a.pre  g fun r h => ?_
 obtain ⟨i, n⟩ := a.call h d
 refine ⟨_, rfl, ?_⟩
 obtain rfl := Option.some.inj hp
 exact hq _ i.ext'
theorem s_indexR {l : List Rct} {p : Rct → Option (Bool)} {ca100 ca200 : C} {m f : M} {Q : V → M → Prop} {rz : Int} (hS : Pre f m) (ha100 : Sl f ca100 l) (ha200 : Fv_Rct_Bool f ca200 p) (hp : pindexR l p = some rz) (hq : ∀ m', Ext m m' → Q (.c (Il rz)) m') : Wc prog tbl 136 [.c ca100, .c ca200] m Q := by
 have F := hS.st
 obtain ⟨G, _⟩ : ∃ τ : Nat → Nat, True := ⟨fun _ => 0, trivial⟩
 refine w136 ?_
 unfold pindexR at hp
 refine ⟨ha100.isSl, ?_⟩
 intro I z
 have hgo : ∀ (b : Nat) (x : Int) (j : Int) (n : M) (d : Nat → Nat), St (Fm.of m) f f n → pindexR_L0 l p b j = some rz → I [.c (Il x), .c (Il j)] n := by
  intro b
  induction b with
  | zero => intro x j n d a hp; cases hp
  | succ b y =>
   intro x j n d a hp
   refine z _ _ _ ?_
   rw [pindexR_L0] at hp
   try rw [ha100.slLen]
   refine ifd hp (fun o hp => ?_) fun o hp => ?_; rotate_left
   ·obtain rfl := Option.some.inj hp
    exact hq _ a.ext'
   obtain ⟨A, e, hp⟩ := bsome hp
   obtain ⟨J, i, g, e⟩ := idx_some e
   obtain ⟨_, q⟩ := rd_Rct ha100 e
   refine ⟨J, i, (by first | exact g | (rw [ha100.slLen]; exact g)), _, _, _, _, (q _ a.sub).1, ?_⟩
   obtain ⟨B, r, hp⟩ := bsome hp
   refine ha200 _ _ _ _ _ (Sub.refl _) a.pre  r fun N s => ?_
   obtain ⟨h, D⟩ := a.call s d
   refine ⟨_, rfl, ?_⟩
   refine ifbb hp (fun t hp => ?_) fun t hp => ?_
   ·obtain rfl := Option.some.inj hp
    exact hq _ h.ext'
   refine gdi hp fun u hp => ?_
   exact y _ _ _ d h hp
 exact hgo _ _ _ _ G F hp
theorem s_containsR {l : List Rct} {p : Rct → Option (Bool)} {ca100 ca200 : C} {m f : M} {Q : V → M → Prop} {rz : Bool} (hS : Pre f m) (ha100 : Sl f ca100 l) (ha200 : Fv_Rct_Bool f ca200 p) (hp : pcontainsR l p = some rz) (hq : ∀ m', Ext m m' → Q (.c (.bool rz)) m') : Wc prog tbl 126 [.c ca100, .c ca200] m Q := by
 have e := hS.st
 obtain ⟨i, _⟩ : ∃ τ : Nat → Nat, True := ⟨fun _ => 0, trivial⟩
 refine w126 ?_
 unfold pcontainsR at hp
 obtain ⟨g, a, hp⟩ := bsome hp
 refine s_indexR (l := l) (p := p) e.pre ha100 ha200 a fun j b => ?_
 obtain ⟨d, h⟩ := e.call b i
 refine ⟨_, rfl, ?_⟩
 obtain rfl := Option.some.inj hp
 exact hq _ d.ext'
theorem s_eachR {l : List Rct} {passes : Rct → Option (Bool)} {ca100 ca200 : C} {m f : M} {Q : V → M → Prop} {rz : Bool} (hS : Pre f m) (ha100 : Sl f ca100 l) (ha200 : Fv_Rct_Bool f ca200 passes) (hp : peachR l passes = some rz) (hq : ∀ m', Ext m m' → Q (.c (.bool rz)) m') : Wc prog tbl 106 [.c ca100, .c ca200] m Q := by
 have z := hS.st
 obtain ⟨A, _⟩ : ∃ τ : Nat → Nat, True := ⟨fun _ => 0, trivial⟩
 refine w106 ?_
 unfold peachR at hp
 intro B h
 obtain ⟨i, j, u, n⟩ := z.blk h A 1
 obtain ⟨o, b, d, e⟩ := n.freeze j
 have g : Fv_Rct_Bool o ((C.fn (Fn.func 127) [] [(W.c (C0.ptr m.nxt 0))])) (fun a => peachR1 a passes) := by
  intro f' m' a r Q hs hpre  hg hq
  exact s_eachR1 hpre (e.sub hs) ((ha200.sub d.fs).sub hs) hg hq
 obtain ⟨x, q, hp⟩ := bsome hp
 refine s_containsR (l := l) (p := (fun a => peachR1 a passes)) b.pre (ha100.sub d.fs) g q fun D s => ?_
 obtain ⟨t, y⟩ := b.call s i
 refine ⟨_, rfl, ?_⟩
 obtain rfl := Option.some.inj hp
 exact hq _ t.ext'
theorem s_valid {w : Wk} {ca111 ca112 : C} {m f : M} {Q : V → M → Prop} {rz : Bool} (hS : Pre f m) (ha111 : Sl f ca111 w.s.Cards) (ha112 : Mi f ca112 w.right) (hp : pvalid w = some rz) (hq : ∀ m', Ext m m' → Q (.c (.bool rz)) m') : Wc prog tbl 99 [.agg 13 [(Il w.s.Wide), (Il w.s.High), (Il w.s.Fall), (Il w.s.A.Lo), (Il w.s.A.Hi), (Il w.s.B.Lo), (Il w.s.B.Hi), (Il w.s.Half.Lo), (Il w.s.Half.Hi), (Il w.s.Peak.Lo), (Il w.s.Peak.Hi), ca111, ca112]] m Q := by
 have S0 := hS.st
 obtain ⟨τ0, _⟩ : ∃ τ : Nat → Nat, True := ⟨fun _ => 0, trivial⟩
 refine w99 ?_
 unfold pvalid at hp
 intro m0 x
 obtain ⟨d, b, oa, a⟩ := S0.blk x τ0 1
 refine ⟨trivial, trivial, _, a.bk.rc rfl, ?_⟩
 refine ifd hp (fun y hp => ?_) fun y hp => ?_; rotate_left
 ·obtain rfl := Option.some.inj hp
  exact hq _ b.ext'
 refine ⟨trivial, trivial, _, a.bk.rc rfl, ?_⟩
 refine ifd hp (fun z hp => ?_) fun z hp => ?_; rotate_left
 ·obtain rfl := Option.some.inj hp
  exact hq _ b.ext'
 refine ⟨trivial, trivial, _, a.bk.rc rfl, ?_⟩
 refine ifd hp (fun D hp => ?_) fun D hp => ?_; rotate_left
 ·obtain rfl := Option.some.inj hp
  exact hq _ b.ext'
 refine ⟨trivial, trivial, _, a.bk.rc rfl, ?_⟩
 refine ifd hp (fun F hp => ?_) fun F hp => ?_; rotate_left
 ·obtain rfl := Option.some.inj hp
  exact hq _ b.ext'
 refine ⟨trivial, trivial, _, _, a.bk.rp (k := 3) (j := 2) rfl (by omega), trivial, trivial, _, a.bk.rc rfl, ?_⟩
 refine gdi hp fun G hp => ?_
 obtain ⟨pa, I, hp⟩ := bsome hp
 refine s_within (r := w.s.A) (low := (0 : Int)) (high := (w.s.High - (1 : Int))) b.pre  I fun m9 J => ?_
 obtain ⟨g, N⟩ := b.call J d
 have h := a.k N
 refine ⟨_, rfl, ?_⟩
 refine ifbb hp (fun O hp => ?_) fun O hp => ?_; rotate_left
 ·obtain rfl := Option.some.inj hp
  exact hq _ g.ext'
 refine ⟨trivial, trivial, _, _, h.bk.rp (k := 5) (j := 2) rfl (by omega), trivial, trivial, _, h.bk.rc rfl, ?_⟩
 refine gdi hp fun P hp => ?_
 obtain ⟨qa, S, hp⟩ := bsome hp
 refine s_within (r := w.s.B) (low := (0 : Int)) (high := (w.s.High - (1 : Int))) g.pre  S fun ya T => ?_
 obtain ⟨i, Y⟩ := g.call T d
 have p := h.k Y
 refine ⟨_, rfl, ?_⟩
 refine ifbb hp (fun Z hp => ?_) fun Z hp => ?_; rotate_left
 ·obtain rfl := Option.some.inj hp
  exact hq _ i.ext'
 refine ⟨trivial, trivial, _, _, p.bk.rp (k := 7) (j := 2) rfl (by omega), ?_⟩
 obtain ⟨sa, aa, hp⟩ := bsome hp
 refine s_within (r := w.s.Half) (low := (0 : Int)) (high := (3 : Int)) i.pre  aa fun za ba => ?_
 obtain ⟨n, ca⟩ := i.call ba d
 have q := p.k ca
 refine ⟨_, rfl, ?_⟩
 refine ifbb hp (fun da hp => ?_) fun da hp => ?_; rotate_left
 ·obtain rfl := Option.some.inj hp
  exact hq _ n.ext'
 refine ⟨trivial, trivial, _, _, q.bk.rp (k := 9) (j := 2) rfl (by omega), ?_⟩
 obtain ⟨ta, ea, hp⟩ := bsome hp
 refine s_within (r := w.s.Peak) (low := (1 : Int)) (high := (9 : Int)) n.pre  ea fun Aa fa => ?_
 obtain ⟨o, ga⟩ := n.call fa d
 have t := q.k ga
 refine ⟨_, rfl, ?_⟩
 refine ifbb hp (fun ha hp => ?_) fun ha hp => ?_; rotate_left
 ·obtain rfl := Option.some.inj hp
  exact hq _ o.ext'
 refine ⟨trivial, trivial, _, t.bk.rc rfl, _, _, _, _, _, _, _, _, _, _, _, _, _, t.bk.ra, ?_⟩
 obtain ⟨la, ma, na⟩ : ∃ ws, mapO vW [.agg 13 [(Il w.s.Wide), (Il w.s.High), (Il w.s.Fall), (Il w.s.A.Lo), (Il w.s.A.Hi), (Il w.s.B.Lo), (Il w.s.B.Hi), (Il w.s.Half.Lo), (Il w.s.Half.Hi), (Il w.s.Peak.Lo), (Il w.s.Peak.Hi), ca111, ca112]] = some ws ∧ mapS wV ws = [.agg 13 [(Il w.s.Wide), (Il w.s.High), (Il w.s.Fall), (Il w.s.A.Lo), (Il w.s.A.Hi), (Il w.s.B.Lo), (Il w.s.B.Hi), (Il w.s.Half.Lo), (Il w.s.Half.Hi), (Il w.s.Peak.Lo), (Il w.s.Peak.Hi), ca111, ca112]] := (vWs_cons (vW_agg (nf_cons rfl (nf_cons rfl (nf_cons rfl (nf_cons rfl (nf_cons rfl (nf_cons rfl (nf_cons rfl (nf_cons rfl (nf_cons rfl (nf_cons rfl (nf_cons rfl (nf_cons ha111.noFn (nf_cons ha112.noFn nf_nil)))))))))))))) vWs_nil)
 rw [ma, optB_some]
 have u : Fv_Crd_Bool f ((C.fn (Fn.func 124) la [])) (fun e => pvalidCard w e) := by
  intro f' m' e r Q hs hpre  hg hq
  show Wc prog tbl 124 (appS (mapS wV la) _) m' Q
  rw [na]
  exact s_validCard hpre (ha111.sub hs) (ha112.sub hs) hg hq
 obtain ⟨ua, ia, hp⟩ := bsome hp
 refine s_eachC (l := w.s.Cards) (passes := (fun e => pvalidCard w e)) o.pre ha111 u ia fun Ba ja => ?_
 obtain ⟨ka, va⟩ := o.call ja d
 refine ⟨_, rfl, ?_⟩
 obtain rfl := Option.some.inj hp
 exact hq _ ka.ext'
theorem s_inAll {s : Stm} {ca111 : C} {m f : M} {Q : V → M → Prop} {rz : Int} (hS : Pre f m) (_ha111 : Sl f ca111 s.Cards) (hp : pinAll s = some rz) (hq : ∀ m', Ext m m' → Q (.c (Il rz)) m') : Wc prog tbl 100 [.agg 12 [(Il s.Wide), (Il s.High), (Il s.Fall), (Il s.A.Lo), (Il s.A.Hi), (Il s.B.Lo), (Il s.B.Hi), (Il s.Half.Lo), (Il s.Half.Hi), (Il s.Peak.Lo), (Il s.Peak.Hi), ca111]] m Q := by
 have S0 := hS.st
 obtain ⟨τ0, _⟩ : ∃ τ : Nat → Nat, True := ⟨fun _ => 0, trivial⟩
 refine w100 ?_
 unfold pinAll at hp
 intro m0 n
 obtain ⟨b, g, ca, a⟩ := S0.blk n τ0 1
 refine ⟨trivial, _, _, a.bk.rp (k := 3) (j := 2) rfl (by omega), ?_⟩
 obtain ⟨da, o, hp⟩ := bsome hp
 refine s_count (r := s.A) g.pre  o fun m4 p => ?_
 obtain ⟨h, q⟩ := g.call p b
 have d := a.k q
 refine ⟨_, rfl, trivial, _, _, d.bk.rp (k := 5) (j := 2) rfl (by omega), (a.bk.rp (k := 5) (j := 2) rfl (by omega)), ?_⟩
 obtain ⟨ea, t, hp⟩ := bsome hp
 refine s_count (r := s.B) h.pre  t fun m9 u => ?_
 obtain ⟨i, x⟩ := h.call u b
 have e := d.k x
 refine ⟨_, rfl, ?_⟩
 refine gdi hp fun y hp => ?_
 refine gdi hp fun z hp => ?_
 obtain ⟨D, hp⟩ := gd_some hp
 refine ⟨D, trivial, _, _, e.bk.rp (k := 7) (j := 2) rfl (by omega), (d.bk.rp (k := 7) (j := 2) rfl (by omega)), (a.bk.rp (k := 7) (j := 2) rfl (by omega)), ?_⟩
 obtain ⟨fa, F, hp⟩ := bsome hp
 refine s_count (r := s.Half) i.pre  F fun ka G => ?_
 obtain ⟨l, I⟩ := i.call G b
 have J := e.k I
 refine ⟨_, rfl, ?_⟩
 refine gdi hp fun N hp => ?_
 refine gdi hp fun O hp => ?_
 obtain ⟨P, hp⟩ := gd_some hp
 refine ⟨P, trivial, _, _, J.bk.rp (k := 9) (j := 2) rfl (by omega), (e.bk.rp (k := 9) (j := 2) rfl (by omega)), (d.bk.rp (k := 9) (j := 2) rfl (by omega)), (a.bk.rp (k := 9) (j := 2) rfl (by omega)), ?_⟩
 obtain ⟨ga, S, hp⟩ := bsome hp
 refine s_count (r := s.Peak) l.pre  S fun la T => ?_
 obtain ⟨Y, ha⟩ := l.call T b
 refine ⟨_, rfl, ?_⟩
 refine gdi hp fun Z hp => ?_
 refine gdi hp fun aa hp => ?_
 refine gdi hp fun ba hp => ?_
 obtain rfl := Option.some.inj hp
 exact hq _ Y.ext'
theorem s_check {s : Stm} {ca111 : C} {m f : M} {Q : V → M → Prop} {rz : Int} (hS : Pre f m) (ha111 : Sl f ca111 s.Cards) (hp : pcheck s = some rz) (hq : ∀ m', Ext m m' → Q (.c (Il rz)) m') : Wc prog tbl 48 [.agg 12 [(Il s.Wide), (Il s.High), (Il s.Fall), (Il s.A.Lo), (Il s.A.Hi), (Il s.B.Lo), (Il s.B.Hi), (Il s.Half.Lo), (Il s.Half.Hi), (Il s.Peak.Lo), (Il s.Peak.Hi), ca111]] m Q := by
 have O := hS.st
 obtain ⟨P, _⟩ : ∃ τ : Nat → Nat, True := ⟨fun _ => 0, trivial⟩
 refine w48 ?_
 unfold pcheck at hp
 intro Z j
 obtain ⟨a, e, F, g⟩ := O.blk j P 1
 refine ⟨_, _, _, _, _, _, _, _, _, _, _, _, g.bk.ra, ?_⟩
 obtain ⟨G, l, hp⟩ := bsome hp
 refine s_tooMany (s := s) e.pre ha111 l fun S n => ?_
 obtain ⟨b, o⟩ := e.call n a
 have h := g.k o
 refine ⟨_, rfl, ?_⟩
 refine ifbb hp (fun p hp => ?_) fun p hp => ?_
 ·obtain rfl := Option.some.inj hp
  exact hq _ b.ext'
 refine ⟨_, _, _, _, _, _, _, _, _, _, _, _, h.bk.ra, ?_⟩
 obtain ⟨I, q, hp⟩ := bsome hp
 refine s_valid (w := ({ s := s, right := none } : Wk)) b.pre ha111 (show Mi _ .map0 none from rfl) q fun T r => ?_
 obtain ⟨d, t⟩ := b.call r a
 have u := h.k t
 refine ⟨_, rfl, ?_⟩
 refine ifnb hp (fun x hp => ?_) fun x hp => ?_
 ·obtain rfl := Option.some.inj hp
  exact hq _ d.ext'
 refine ⟨_, _, _, _, _, _, _, _, _, _, _, _, u.bk.ra, ?_⟩
 obtain ⟨J, y, hp⟩ := bsome hp
 refine s_inAll (s := s) d.pre ha111 y fun Y z => ?_
 obtain ⟨i, N⟩ := d.call z a
 refine ⟨_, rfl, ?_⟩
 refine ifd hp (fun D hp => ?_) fun D hp => ?_
 ·obtain rfl := Option.some.inj hp
  exact hq _ i.ext'
 obtain rfl := Option.some.inj hp
 exact hq _ i.ext'
theorem s_distance {s : Stm} {t : Trh} {x : Int} {y : Int} {ca111 : C} {m f : M} {Q : V → M → Prop} {rz : Int} (hS : Pre f m) (_ha111 : Sl f ca111 s.Cards) (hp : pdistance s t x y = some rz) (hq : ∀ m', Ext m m' → Q (.c (Il rz)) m') : Wc prog tbl 113 [.agg 12 [(Il s.Wide), (Il s.High), (Il s.Fall), (Il s.A.Lo), (Il s.A.Hi), (Il s.B.Lo), (Il s.B.Hi), (Il s.Half.Lo), (Il s.Half.Hi), (Il s.Peak.Lo), (Il s.Peak.Hi), ca111], .agg 4 [(Il t.A), (Il t.B), (Il t.Half), (Il t.Peak)], .c (Il x), .c (Il y)] m Q := by
 have T := hS.st
 obtain ⟨Y, _⟩ : ∃ τ : Nat → Nat, True := ⟨fun _ => 0, trivial⟩
 refine w113 ?_
 unfold pdistance at hp
 intro Z b
 obtain ⟨d, e, P, g⟩ := T.blk b Y 1
 intro m1 h
 obtain ⟨S, i, j, a⟩ := e.blk h d 2
 have l := g.k j
 refine ⟨trivial, _, l.bk.rc rfl, ?_⟩
 refine gdi hp fun n hp => ?_
 refine gdi hp fun o hp => ?_
 refine gdi hp fun p hp => ?_
 obtain ⟨q, hp⟩ := gd_some hp
 refine ⟨q, trivial, _, a.bk.rc rfl, ?_⟩
 refine gdi hp fun r hp => ?_
 refine gdi hp fun u hp => ?_
 refine gdi hp fun z hp => ?_
 obtain ⟨D, hp⟩ := gd_some hp
 refine ⟨D, trivial, _, a.bk.rc rfl, ?_⟩
 refine gdi hp fun F hp => ?_
 refine gdi hp fun G hp => ?_
 refine gdi hp fun I hp => ?_
 refine gdi hp fun J hp => ?_
 refine gdi hp fun N hp => ?_
 refine gdi hp fun O hp => ?_
 obtain rfl := Option.some.inj hp
 exact hq _ i.ext'
theorem s_hits {s : Stm} {t : Trh} {x : Int} {y : Int} {ca111 : C} {m f : M} {Q : V → M → Prop} {rz : Bool} (hS : Pre f m) (ha111 : Sl f ca111 s.Cards) (hp : phits s t x y = some rz) (hq : ∀ m', Ext m m' → Q (.c (.bool rz)) m') : Wc prog tbl 112 [.agg 12 [(Il s.Wide), (Il s.High), (Il s.Fall), (Il s.A.Lo), (Il s.A.Hi), (Il s.B.Lo), (Il s.B.Hi), (Il s.Half.Lo), (Il s.Half.Hi), (Il s.Peak.Lo), (Il s.Peak.Hi), ca111], .agg 4 [(Il t.A), (Il t.B), (Il t.Half), (Il t.Peak)], .c (Il x), .c (Il y)] m Q := by
 have O := hS.st
 obtain ⟨P, _⟩ : ∃ τ : Nat → Nat, True := ⟨fun _ => 0, trivial⟩
 refine w112 ?_
 unfold phits at hp
 intro T g
 obtain ⟨h, i, J, j⟩ := O.blk g P 1
 intro Y l
 obtain ⟨n, d, o, a⟩ := i.blk l h 2
 have b := j.k o
 refine ⟨_, _, _, _, _, _, _, _, _, _, _, _, b.bk.ra, _, _, _, _, a.bk.ra, ?_⟩
 obtain ⟨N, p, hp⟩ := bsome hp
 refine s_distance (s := s) (t := t) (x := x) (y := y) d.pre ha111 p fun S q => ?_
 obtain ⟨r, e⟩ := d.call q n
 have u := b.k e
 have z := a.k e
 refine ⟨_, rfl, trivial, _, u.bk.rc rfl, (b.bk.rc rfl), ?_⟩
 obtain ⟨D, hp⟩ := gd_some hp
 refine ⟨D, trivial, _, z.bk.rc rfl, (a.bk.rc rfl), ?_⟩
 refine gdi hp fun F hp => ?_
 refine gdi hp fun G hp => ?_
 refine gdi hp fun I hp => ?_
 obtain rfl := Option.some.inj hp
 exact hq _ r.ext'
theorem s_size {s : Stm} {t : Trh} {x : Int} {y : Int} {ca111 : C} {m f : M} {Q : V → M → Prop} {rz : Int} (hS : Pre f m) (ha111 : Sl f ca111 s.Cards) (hp : psize s t x y = some rz) (hq : ∀ m', Ext m m' → Q (.c (Il rz)) m') : Wc prog tbl 75 [.agg 12 [(Il s.Wide), (Il s.High), (Il s.Fall), (Il s.A.Lo), (Il s.A.Hi), (Il s.B.Lo), (Il s.B.Hi), (Il s.Half.Lo), (Il s.Half.Hi), (Il s.Peak.Lo), (Il s.Peak.Hi), ca111], .agg 4 [(Il t.A), (Il t.B), (Il t.Half), (Il t.Peak)], .c (Il x), .c (Il y)] m Q := by
 have S0 := hS.st
 obtain ⟨τ0, _⟩ : ∃ τ : Nat → Nat, True := ⟨fun _ => 0, trivial⟩
 refine w75 ?_
 unfold psize at hp
 intro m0 o
 obtain ⟨p, q, da, r⟩ := S0.blk o τ0 1
 intro m1 u
 obtain ⟨e, g, z, h⟩ := q.blk u p 2
 have i := r.k z
 refine ⟨_, _, _, _, _, _, _, _, _, _, _, _, i.bk.ra, _, _, _, _, h.bk.ra, ?_⟩
 obtain ⟨ea, D, hp⟩ := bsome hp
 refine s_hits (s := s) (t := t) (x := x) (y := y) g.pre ha111 D fun ia F => ?_
 obtain ⟨b, j⟩ := g.call F e
 have a := i.k j
 have d := h.k j
 refine ⟨_, rfl, ?_⟩
 refine ifnb hp (fun G hp => ?_) fun G hp => ?_
 ·obtain rfl := Option.some.inj hp
  exact hq _ b.ext'
 refine ⟨trivial, _, d.bk.rc rfl, trivial, _, a.bk.rc rfl, _, _, _, _, _, _, _, _, _, _, _, _, a.bk.ra, _, _, _, _, d.bk.ra, ?_⟩
 obtain ⟨fa, I, hp⟩ := bsome hp
 refine s_distance (s := s) (t := t) (x := x) (y := y) b.pre ha111 I fun ja J => ?_
 obtain ⟨N, l⟩ := b.call J e
 have n := a.k l
 have O := d.k l
 refine ⟨_, rfl, (n.bk.rc rfl), (O.bk.rc rfl), trivial, _, n.bk.rc rfl, (a.bk.rc rfl), ?_⟩
 refine gdi hp fun P hp => ?_
 refine gdi hp fun S hp => ?_
 refine gdi hp fun T hp => ?_
 refine gdi hp fun Y hp => ?_
 refine gdi hp fun Z hp => ?_
 refine gdi hp fun aa hp => ?_
 refine gdi hp fun ba hp => ?_
 refine gdi hp fun ca hp => ?_
 obtain rfl := Option.some.inj hp
 exact hq _ N.ext'
theorem s_numbersI {r : Rg} {b0 : Nat} {m f : M} {F : Fm} {n0 ly : Nat} {xs : List (List V)} {I : Nat → (Nat → Prop) → M → Prop} {E : (Nat → Prop) → M → Prop} {S1 : Nat → Prop} {Q : V → M → Prop} {rz : List Int} {τ0 : Nat → Nat} (hc : Client prog tbl n0 ly xs I E) (S0 : St F f f m) (Y0 : Yg n0 (YJ xs I rz) S1 F f τ0 m) (hb0 : Bk f b0 2 [(.int .i64 r.Lo), (.int .i64 r.Hi)]) (hp : pnumbersI r = some rz) (hq : ∀ v m' f' τ' S', St F f f' m' → (Yg n0 (YJ xs I ([] : List Int)) S' F f' τ' m' ∨ Yg n0 E S' F f' τ' m') → Q v m') : Wc prog tbl 129 [.c (.fn (.yield ly) [] []), .c (.ptr b0 0)] m Q := by
 refine c129 ?_
 unfold pnumbersI at hp
 refine ⟨_, _, (hb0.sub S0.sub).ra, ?_⟩
 obtain ⟨r2718, g2719, hp⟩ := bsome hp
 refine s_count (r := r) S0.pre  g2719 fun m3 e2722 => ?_
 obtain ⟨S2720, k2721⟩ := S0.call e2722 τ0
 have Y2723 := Y0.k k2721 (by decide)
 refine ⟨_, rfl, ?_⟩
 intro R5 hR5
 have hgo : ∀ (d2729 : Nat) (x6 : Int) (r2726 : List Int) (s2727 : Nat → Prop) (m7 : M) (τ2725 : Nat → Nat), St F f f m7 → Yg n0 (YJ xs I r2726) s2727 F f τ2725 m7 → pnumbersI_L0 r r2718 d2729 x6 = some r2726 → R5 [.c (.int .i64 x6)] m7 := by
  intro d2729
  induction d2729 with
  | zero => intro x6 r2726 s2727 m7 τ2725 S2724 Y2728 hp; cases hp
  | succ d2729 ihR5 =>
   intro x6 r2726 s2727 m7 τ2725 S2724 Y2728 hp
   refine hR5 _ _ ?_
   rw [pnumbersI_L0] at hp
   refine ifd hp (fun q2730 hp => ?_) fun q2730 hp => ?_; rotate_left
   ·obtain rfl := Option.some.inj hp
    exact hq _ _ _ _ _ S2724 (.inl Y2728)
   refine ⟨trivial, _, (hb0.sub S2724.sub).rc rfl, ?_⟩
   obtain ⟨g2731, hp⟩ := gd_some hp
   refine ⟨g2731, ?_⟩
   obtain ⟨r2732, hp2734, hz2733⟩ := bsome hp
   clear hp
   obtain rfl := Option.some.inj hz2733
   have hp := hp2734
   show Wy prog tbl ly (IV.encs ((r.Lo + x6) : Int)) _ _
   refine Yg.yield hc S2724 Y2728 ?_ ?_
   ·intro m10 τ2735 s2739 S2736 k2737 Y2738
    refine ⟨_, rfl, ?_⟩
    refine ifB_f' ?_
    obtain ⟨g2740, hp⟩ := gd_some hp
    refine ⟨g2740, ?_⟩
    exact ihR5 _ _ _ _ τ2735 S2736 Y2738 hp
   ·intro m10 τ2741 s2745 S2742 k2743 Y2744
    refine ⟨_, rfl, ?_⟩
    refine ifB_t' ?_
    exact hq _ _ _ _ _ S2742 (.inr Y2744)
 exact hgo _ _ _ _ _ τ0 S2720 Y2723 hp
theorem s_numbers {r : Rg} {m f : M} {Q : V → M → Prop} {rz : List Int} (hS : Pre f m)  (hp : pnumbers r = some rz) (hq : ∀ m' f' c0, Grw m f m' f' → It prog tbl f' c0 rz → Q (.c c0) m') : Wc prog tbl 115 [.agg 2 [(Il r.Lo), (Il r.Hi)]] m Q := by
 have q := hS.st
 obtain ⟨s, _⟩ : ∃ τ : Nat → Nat, True := ⟨fun _ => 0, trivial⟩
 refine w115 ?_
 unfold pnumbers at hp
 intro t g
 obtain ⟨n, h, o, i⟩ := q.blk g s 1
 obtain ⟨b, a, p, d⟩ := i.freeze h
 obtain ⟨j, l, hp⟩ := bsome hp
 have e : It prog tbl b ((C.fn (Fn.func 129) [] [(W.c (C0.ptr m.nxt 0))])) j := it_of a.fz a.fv fun u ly I E hc x y z A hS hY Q hq => s_numbersI hc hS hY d l hq
 obtain rfl := Option.some.inj hp
 exact hq _ b (C.fn (Fn.func 129) [] [(W.c (C0.ptr m.nxt 0))]) a.grw e
theorem s_placesI {r : Rct} {b0 : Nat} {m f : M} {F : Fm} {n0 ly : Nat} {xs : List (List V)} {I : Nat → (Nat → Prop) → M → Prop} {E : (Nat → Prop) → M → Prop} {S1 : Nat → Prop} {Q : V → M → Prop} {rz : List (Int × Int)} {τ0 : Nat → Nat} (hc : Client prog tbl n0 ly xs I E) (S0 : St F f f m) (Y0 : Yg n0 (YJ xs I rz) S1 F f τ0 m) (hb0 : Bk f b0 4 [(.int .i64 r.X.Lo), (.int .i64 r.X.Hi), (.int .i64 r.Y.Lo), (.int .i64 r.Y.Hi)]) (hp : pplacesI r = some rz) (hq : ∀ v m' f' τ' S', St F f f' m' → (Yg n0 (YJ xs I ([] : List (Int × Int))) S' F f' τ' m' ∨ Yg n0 E S' F f' τ' m') → Q v m') : Wc prog tbl 114 [.c (.fn (.yield ly) [] []), .c (.ptr b0 0)] m Q := by
 refine c114 ?_
 unfold pplacesI at hp
 intro m0 e2758
 obtain ⟨τ2761, S2759, k2760, L2762⟩ := S0.blk e2758 τ0 1
 have Y2763 := Y0.k k2760 (by decide)
 refine ⟨trivial, _, _, (hb0.sub S2759.sub).rp (k := 0) (j := 2) rfl (by omega), ?_⟩
 obtain ⟨r2764, g2765, hp⟩ := bsome hp
 refine s_numbers (r := r.X) S2759.pre  g2765 fun m4 f2769 c2770 e2768 h2771 => ?_
 obtain ⟨S2766, k2767⟩ := S2759.callG e2768 τ2761
 have L2772 := L2762.k k2767 (by decide)
 have Y2773 := Y2763.k k2767 (by decide)
 refine ⟨_, rfl, ?_⟩
 refine range_st (α := Int) S2766 h2771 (σ := (List (Int × Int)) × (Nat → Prop) × Bool) 2 (fun st bb => (False ∨ (st.2.1 bb))) (fun st gG gF gT gM => (Lb gG gF gT gM 1 m.nxt 1 [(.fn (.yield ly) [] [])]) ∧ (Yg n0 (YD xs I E st.2.2 st.1) st.2.1 gG gF gT gM)) (fun rr_ st => st.2.2 = false ∧ pplacesI_L0 r rr_ = some st.1) (fun ex st => (match ex with | .ret => st.2.2 = true ∨ (st.2.2 = false ∧ (0 : Nat) = 0 ∧ pplacesI_L0_xret = some st.1) | _ => False)) (fun st => (Gud.and (Gud.lb L2772.bk.lt (by decide)) (Gud.yg Y2773.n (by decide)))) (st0 := (rz, S1, false)) (τ := τ2761) ⟨L2772, Y2773⟩ ⟨rfl, hp⟩ ?_ ?_ ?_ ?_
 ·intro a2783 q2784 st f2785 τ2786 m7 F2787 o2788 Ok2789 en2790 Kn2791 S2792 s2793 hA rk2794 hp he2795 hk2796
  obtain ⟨r2775, s2776, d2777⟩ := st
  obtain ⟨hdd, hp⟩ := hp
  replace hdd : d2777 = false := hdd
  subst hdd
  obtain ⟨L2774, Y2778⟩ := hA
  replace L2774 : Lb F2787 f2785 τ2786 m7 1 m.nxt 1 [(.fn (.yield ly) [] [])] := L2774
  replace Y2778 : Yg n0 (YJ xs I r2775) s2776 F2787 f2785 τ2786 m7 := Y2778
  replace hp : pplacesI_L0 r (a2783 :: q2784) = some r2775 := hp
  rw [pplacesI_L0] at hp
  refine ⟨_, rfl, ?_⟩
  intro m11 e2797
  obtain ⟨τ2800, S2798, k2799, L2801⟩ := S2792.blk e2797 τ2786 3
  have L2802 := L2774.k k2799 (by decide)
  have Y2803 := Y2778.k k2799 (by decide)
  have rk2804 := rk2794.k k2799 (by decide)
  obtain ⟨m2808, e2807, S2805, k2806, L2809⟩ := L2801.sto S2798 [(.int .i64 a2783)]
  have L2810 := L2802.k k2806 (by decide)
  have Y2811 := Y2803.k k2806 (by decide)
  have rk2812 := rk2804.k k2806 (by decide)
  refine ⟨m2808, e2807, ?_⟩
  refine he2795 _ _ _ _ S2805 rk2812 fun m13 o2816 S2813 k2814 rk2815 hO2817 => ?_
  have L2818 := L2810.k k2814 (by decide)
  have L2819 := L2809.k k2814 (by decide)
  have Y2820 := Y2811.k k2814 (by decide)
  refine ⟨trivial, _, _, (hb0.sub (Sub.trans (Sub.trans k2767.fs s2793) S2813.sub)).rp (k := 2) (j := 2) rfl (by omega), ?_⟩
  obtain ⟨r2821, g2822, hp⟩ := bsome hp
  refine s_numbers (r := r.Y) S2813.pre  g2822 fun m17 f2826 c2827 e2825 h2828 => ?_
  obtain ⟨S2823, k2824⟩ := S2813.callG e2825 τ2800
  have L2829 := L2818.k k2824 (by decide)
  have L2830 := L2819.k k2824 (by decide)
  have Y2831 := Y2820.k k2824 (by decide)
  have rk2832 := rk2815.k k2824 (by decide)
  refine ⟨_, rfl, ?_⟩
  refine range_st (α := Int) S2823 h2828 (σ := (List (Int × Int)) × (Nat → Prop) × Bool) 4 (fun st bb => (False ∨ (False ∨ ((st.2.1 bb) ∨ False)))) (fun st gG gF gT gM => (Lb gG gF gT gM 1 m.nxt 1 [(.fn (.yield ly) [] [])]) ∧ (Lb gG gF gT gM 3 m7.nxt 1 [(.int .i64 a2783)]) ∧ (Yg n0 (YD xs I E st.2.2 st.1) st.2.1 gG gF gT gM) ∧ (Rk gG gF gT gM 2 (m4).nxt o2816)) (fun rr_ st => st.2.2 = false ∧ pplacesI_L1 a2783 ((pplacesI_L0 r q2784)) rr_ = some st.1) (fun ex st => (match ex with | .ret => st.2.2 = true ∨ (st.2.2 = false ∧ (0 : Nat) = 0 ∧ pplacesI_L1_xret = some st.1) | _ => False)) (fun st => (Gud.and (Gud.lb L2829.bk.lt (by decide)) (Gud.and (Gud.lb L2830.bk.lt (by decide)) (Gud.and (Gud.yg Y2831.n (by decide)) (Gud.rk rk2832.lt (by decide)))))) (st0 := (r2775, s2776, false)) (τ := τ2800) ⟨L2829, L2830, Y2831, rk2832⟩ ⟨rfl, hp⟩ ?_ ?_ ?_ ?_
  ·intro a2844 q2845 st f2846 τ2847 m20 F2848 o2849 Ok2850 en2851 Kn2852 S2853 s2854 hA rk2855 hp he2856 hk2857
   obtain ⟨r2835, s2836, d2837⟩ := st
   obtain ⟨hdd, hp⟩ := hp
   replace hdd : d2837 = false := hdd
   subst hdd
   obtain ⟨L2833, L2834, Y2838, rk2839⟩ := hA
   replace L2833 : Lb F2848 f2846 τ2847 m20 1 m.nxt 1 [(.fn (.yield ly) [] [])] := L2833
   replace L2834 : Lb F2848 f2846 τ2847 m20 3 m7.nxt 1 [(.int .i64 a2783)] := L2834
   replace Y2838 : Yg n0 (YJ xs I r2835) s2836 F2848 f2846 τ2847 m20 := Y2838
   replace rk2839 : Rk F2848 f2846 τ2847 m20 2 (m4).nxt o2816 := rk2839
   replace hp : pplacesI_L1 a2783 ((pplacesI_L0 r q2784)) (a2844 :: q2845) = some r2835 := hp
   rw [pplacesI_L1] at hp
   refine ⟨_, rfl, ?_⟩
   refine he2856 _ _ _ _ S2853 rk2855 fun m24 o2861 S2858 k2859 rk2860 hO2862 => ?_
   have L2863 := L2833.k k2859 (by decide)
   have L2864 := L2834.k k2859 (by decide)
   have Y2865 := Y2838.k k2859 (by decide)
   have rk2866 := rk2839.k k2859 (by decide)
   refine ⟨_, L2863.bk.rc rfl, _, L2864.bk.rc rfl, ?_⟩
   obtain ⟨r2867, hp2869, hz2868⟩ := bsome hp
   clear hp
   obtain rfl := Option.some.inj hz2868
   have hp := hp2869
   show Wy prog tbl ly (IV.encs ((a2783, a2844) : Int × Int)) _ _
   refine Yg.yield hc S2858 Y2865 ?_ ?_
   ·intro m28 τ2870 s2874 S2871 k2872 Y2873
    have L2875 := L2863.k k2872 (by decide)
    have L2876 := L2864.k k2872 (by decide)
    have rk2877 := rk2860.k k2872 (by decide)
    have rk2878 := rk2866.k k2872 (by decide)
    refine ⟨_, rfl, ?_⟩
    refine ifB_f' ?_
    exact hk2857 .nrm (r2867, s2874, false) _ _ _ _ S2871 ⟨L2875, L2876, Y2873, rk2878⟩ rk2877 hO2862 ⟨rfl, hp⟩
   ·intro m28 τ2879 s2883 S2880 k2881 Y2882
    have L2884 := L2863.k k2881 (by decide)
    have L2885 := L2864.k k2881 (by decide)
    have rk2886 := rk2860.k k2881 (by decide)
    have rk2887 := rk2866.k k2881 (by decide)
    refine ⟨_, rfl, ?_⟩
    refine ifB_t' ?_
    exact hk2857 .ret ([], s2883, true) _ _ _ _ S2880 ⟨L2884, L2885, Y2882, rk2887⟩ rk2886 hO2862 (.inl rfl)
  ·intro st f2888 τ2890 m30 S2891 s2889 hA hp
   obtain ⟨r2835, s2836, d2837⟩ := st
   obtain ⟨hdd, hp⟩ := hp
   replace hdd : d2837 = false := hdd
   subst hdd
   replace hp : pplacesI_L1 a2783 ((pplacesI_L0 r q2784)) [] = some r2835 := hp
   obtain ⟨L2833, L2834, Y2838, rk2839⟩ := hA
   replace L2833 : Lb F2787 f2888 τ2890 m30 1 m.nxt 1 [(.fn (.yield ly) [] [])] := L2833
   replace L2834 : Lb F2787 f2888 τ2890 m30 3 m7.nxt 1 [(.int .i64 a2783)] := L2834
   replace Y2838 : Yg n0 (YJ xs I r2835) s2836 F2787 f2888 τ2890 m30 := Y2838
   replace rk2839 : Rk F2787 f2888 τ2890 m30 2 (m4).nxt o2816 := rk2839
   rw [pplacesI_L1] at hp
   exact hk2796 .nrm (r2835, s2836, false) _ _ _ _ S2891 ⟨L2833, Y2838⟩ rk2839 hO2817 ⟨rfl, hp⟩
  ·intro id st _ _ _ _ _ _ hn; first | exact hn.elim | (cases hn)
  ·intro st f2840 τ2842 m31 S2843 s2841 hA hn
   obtain ⟨r2835, s2836, d2837⟩ := st
   rcases hn with hd | ⟨hd, hid, hp⟩
   ·replace hd : d2837 = true := hd
    subst hd
    obtain ⟨L2833, L2834, Y2838, rk2839⟩ := hA
    replace L2833 : Lb F2787 f2840 τ2842 m31 1 m.nxt 1 [(.fn (.yield ly) [] [])] := L2833
    replace L2834 : Lb F2787 f2840 τ2842 m31 3 m7.nxt 1 [(.int .i64 a2783)] := L2834
    replace Y2838 : Yg n0 E s2836 F2787 f2840 τ2842 m31 := Y2838
    replace rk2839 : Rk F2787 f2840 τ2842 m31 2 (m4).nxt o2816 := rk2839
    exact hk2796 .ret ([], s2836, true) _ _ _ _ S2843 ⟨L2833, Y2838⟩ rk2839 hO2817 (.inl rfl)
   replace hd : d2837 = false := hd
   subst hd
   replace hp : pplacesI_L1_xret = some r2835 := hp
   unfold pplacesI_L1_xret at hp
   obtain ⟨L2833, L2834, Y2838, rk2839⟩ := hA
   replace L2833 : Lb F2787 f2840 τ2842 m31 1 m.nxt 1 [(.fn (.yield ly) [] [])] := L2833
   replace L2834 : Lb F2787 f2840 τ2842 m31 3 m7.nxt 1 [(.int .i64 a2783)] := L2834
   replace Y2838 : Yg n0 (YJ xs I r2835) s2836 F2787 f2840 τ2842 m31 := Y2838
   replace rk2839 : Rk F2787 f2840 τ2842 m31 2 (m4).nxt o2816 := rk2839
   exact hk2796 .ret (r2835, s2836, false) _ _ _ _ S2843 ⟨L2833, Y2838⟩ rk2839 hO2817 (.inr ⟨rfl, rfl, hp⟩)
 ·intro st f2892 τ2894 m32 S2895 s2893 hA hp
  obtain ⟨r2775, s2776, d2777⟩ := st
  obtain ⟨hdd, hp⟩ := hp
  replace hdd : d2777 = false := hdd
  subst hdd
  replace hp : pplacesI_L0 r [] = some r2775 := hp
  obtain ⟨L2774, Y2778⟩ := hA
  replace L2774 : Lb F f2892 τ2894 m32 1 m.nxt 1 [(.fn (.yield ly) [] [])] := L2774
  replace Y2778 : Yg n0 (YJ xs I r2775) s2776 F f2892 τ2894 m32 := Y2778
  rw [pplacesI_L0] at hp
  obtain rfl := Option.some.inj hp
  exact hq _ _ _ _ _ S2895 (.inl Y2778)
 ·intro id st _ _ _ _ _ _ hn; first | exact hn.elim | (cases hn)
 ·intro st f2779 τ2781 m33 S2782 s2780 hA hn
  obtain ⟨r2775, s2776, d2777⟩ := st
  rcases hn with hd | ⟨hd, hid, hp⟩
  ·replace hd : d2777 = true := hd
   subst hd
   obtain ⟨L2774, Y2778⟩ := hA
   replace L2774 : Lb F f2779 τ2781 m33 1 m.nxt 1 [(.fn (.yield ly) [] [])] := L2774
   replace Y2778 : Yg n0 E s2776 F f2779 τ2781 m33 := Y2778
   exact hq _ _ _ _ _ S2782 (.inr Y2778)
  replace hd : d2777 = false := hd
  subst hd
  replace hp : pplacesI_L0_xret = some r2775 := hp
  unfold pplacesI_L0_xret at hp
  obtain ⟨L2774, Y2778⟩ := hA
  replace L2774 : Lb F f2779 τ2781 m33 1 m.nxt 1 [(.fn (.yield ly) [] [])] := L2774
  replace Y2778 : Yg n0 (YJ xs I r2775) s2776 F f2779 τ2781 m33 := Y2778
  obtain rfl := Option.some.inj hp
  exact hq _ _ _ _ _ S2782 (.inl Y2778)
theorem s_places {r : Rct} {m f : M} {Q : V → M → Prop} {rz : List (Int × Int)} (hS : Pre f m)  (hp : pplaces r = some rz) (hq : ∀ m' f' c0, Grw m f m' f' → It prog tbl f' c0 rz → Q (.c c0) m') : Wc prog tbl 78 [.agg 4 [(Il r.X.Lo), (Il r.X.Hi), (Il r.Y.Lo), (Il r.Y.Hi)]] m Q := by
 have q := hS.st
 obtain ⟨s, _⟩ : ∃ τ : Nat → Nat, True := ⟨fun _ => 0, trivial⟩
 refine w78 ?_
 unfold pplaces at hp
 intro t g
 obtain ⟨n, h, o, i⟩ := q.blk g s 1
 obtain ⟨b, a, p, d⟩ := i.freeze h
 obtain ⟨j, l, hp⟩ := bsome hp
 have e : It prog tbl b ((C.fn (Fn.func 114) [] [(W.c (C0.ptr m.nxt 0))])) j := it_of a.fz a.fv fun u ly I E hc x y z A hS hY Q hq => s_placesI hc hS hY d l hq
 obtain rfl := Option.some.inj hp
 exact hq _ b (C.fn (Fn.func 114) [] [(W.c (C0.ptr m.nxt 0))]) a.grw e
theorem s_isRight {s : Stm} {c : Crd} {t : Trh} {ca111 : C} {m f : M} {Q : V → M → Prop} {rz : Bool} (hS : Pre f m) (ha111 : Sl f ca111 s.Cards) (hp : pisRight s c t = some rz) (hq : ∀ m', Ext m m' → Q (.c (.bool rz)) m') : Wc prog tbl 121 [.agg 12 [(Il s.Wide), (Il s.High), (Il s.Fall), (Il s.A.Lo), (Il s.A.Hi), (Il s.B.Lo), (Il s.B.Hi), (Il s.Half.Lo), (Il s.Half.Hi), (Il s.Peak.Lo), (Il s.Peak.Hi), ca111], .agg 7 [(Il c.X.Lo), (Il c.X.Hi), (Il c.Y.Lo), (Il c.Y.Hi), (.bool c.Hail), (Il c.Size.Lo), (Il c.Size.Hi)], .agg 4 [(Il t.A), (Il t.B), (Il t.Half), (Il t.Peak)]] m Q := by
 have S0 := hS.st
 obtain ⟨τ0, _⟩ : ∃ τ : Nat → Nat, True := ⟨fun _ => 0, trivial⟩
 refine w121 ?_
 unfold pisRight at hp
 intro m0 La
 obtain ⟨Ma, Na, ac, Oa⟩ := S0.blk La τ0 1
 intro m1 Qa
 obtain ⟨Ra, Sa, Ta, Ua⟩ := Na.blk Qa Ma 2
 have Va := Oa.k Ta
 intro m2 Xa
 obtain ⟨Ya, Za, ga, ab⟩ := Sa.blk Xa Ra 3
 have cb := Va.k ga
 have db := Ua.k ga
 intro m3 eb
 obtain ⟨Z, ha, aa, fb⟩ := Za.blk eb Ya 4
 have gb := cb.k aa
 have ia := db.k aa
 have hb := ab.k aa
 refine ⟨_, _, _, _, _, _, _, ia.bk.ra, ?_⟩
 obtain ⟨ib, jb, hp⟩ := bsome hp
 refine s_rect (c := c) ha.pre  jb fun oc kb => ?_
 obtain ⟨ja, u⟩ := ha.call kb Z
 have mb := gb.k u
 have nb := ia.k u
 have ob := hb.k u
 have pb := fb.k u
 refine ⟨_, _, _, _, rfl, ?_⟩
 obtain ⟨bc, qb, hp⟩ := bsome hp
 refine s_places (r := ib) ja.pre  qb fun pc cc dc rb sb => ?_
 obtain ⟨tb, i⟩ := ja.callG rb Z
 have ka := mb.k i
 have la := nb.k i
 have ma := ob.k i
 have na := pb.k i
 refine ⟨_, rfl, ?_⟩
 refine range_st (α := Int × Int) tb sb (σ := Bool) 5 (fun st bb => (False ∨ (False ∨ (False ∨ False)))) (fun st gG gF gT gM => (Lb gG gF gT gM 1 m.nxt 12 [(Il s.Wide), (Il s.High), (Il s.Fall), (Il s.A.Lo), (Il s.A.Hi), (Il s.B.Lo), (Il s.B.Hi), (Il s.Half.Lo), (Il s.Half.Hi), (Il s.Peak.Lo), (Il s.Peak.Hi), ca111]) ∧ (Lb gG gF gT gM 2 m0.nxt 7 [(Il c.X.Lo), (Il c.X.Hi), (Il c.Y.Lo), (Il c.Y.Hi), (.bool c.Hail), (Il c.Size.Lo), (Il c.Size.Hi)]) ∧ (Lb gG gF gT gM 3 m1.nxt 4 [(Il t.A), (Il t.B), (Il t.Half), (Il t.Peak)]) ∧ (Lb gG gF gT gM 4 m2.nxt 1 [(.bool st)])) (fun rr_ st => pisRight_L0 s c t rr_ st = some rz) (fun ex st => (match ex with | .ret => (0 : Nat) = 0 ∧ pisRight_L0_xret st = some rz | _ => False)) (fun st => (Gud.and (Gud.lb ka.bk.lt (by decide)) (Gud.and (Gud.lb la.bk.lt (by decide)) (Gud.and (Gud.lb ma.bk.lt (by decide)) (Gud.lb na.bk.lt (by decide)))))) (st0 := (false)) (τ := Z) ⟨ka, la, ma, na⟩ hp ?_ ?_ ?_ ?_
 ·intro l ub b z h oa D ec Xb Yb Zb vb pa hA Fa hp Ga S
  obtain ⟨d, e, g, a⟩ := hA
  replace d : Lb D z h oa 1 m.nxt 12 [(Il s.Wide), (Il s.High), (Il s.Fall), (Il s.A.Lo), (Il s.A.Hi), (Il s.B.Lo), (Il s.B.Hi), (Il s.Half.Lo), (Il s.Half.Hi), (Il s.Peak.Lo), (Il s.Peak.Hi), ca111] := d
  replace e : Lb D z h oa 2 m0.nxt 7 [(Il c.X.Lo), (Il c.X.Hi), (Il c.Y.Lo), (Il c.Y.Hi), (.bool c.Hail), (Il c.Size.Lo), (Il c.Size.Hi)] := e
  replace g : Lb D z h oa 3 m1.nxt 4 [(Il t.A), (Il t.B), (Il t.Half), (Il t.Peak)] := g
  replace a : Lb D z h oa 4 m2.nxt 1 [(.bool b)] := a
  replace hp : pisRight_L0 s c t (l :: ub) b = some rz := hp
  rw [pisRight_L0] at hp
  refine ⟨_, _, rfl, ?_⟩
  refine Ga _ _ _ _ vb Fa fun qc fc qa F Ha T => ?_
  have sa := d.k F
  have ta := e.k F
  have ua := g.k F
  have wb := a.k F
  refine ⟨_, _, _, _, _, _, _, _, _, _, _, _, sa.bk.ra, _, _, _, _, ua.bk.ra, ?_⟩
  obtain ⟨gc, xb, hp⟩ := bsome hp
  refine s_hits (s := s) (t := t) (x := l.1) (y := l.2) qa.pre (ha111.sub (Sub.trans i.fs pa)) xb fun sc yb => ?_
  obtain ⟨ba, o⟩ := qa.call yb h
  have ca := sa.k o
  have G := ta.k o
  have da := ua.k o
  have va := wb.k o
  have ea := Ha.k o
  refine ⟨_, rfl, trivial, _, G.bk.rc rfl, (ta.bk.rc rfl), ?_⟩
  refine ifbb hp (fun zb hp => ?_) fun zb hp => ?_; rotate_left
  ·exact S .nrm (b) _ _ _ _ ba ⟨ca, G, da, va⟩ ea T hp
  refine ⟨trivial, _, _, G.bk.rp (k := 5) (j := 2) rfl (by omega), _, _, _, _, _, _, _, _, _, _, _, _, ca.bk.ra, _, _, _, _, da.bk.ra, ?_⟩
  obtain ⟨Ab, Bb, hp⟩ := bsome hp
  refine s_size (s := s) (t := t) (x := l.1) (y := l.2) ba.pre (ha111.sub (Sub.trans i.fs pa)) Bb fun tc Cb => ?_
  obtain ⟨wa, p⟩ := ba.call Cb h
  have Db := ca.k p
  have xa := G.k p
  have Eb := da.k p
  have Fb := va.k p
  have Ia := ea.k p
  refine ⟨_, rfl, (xa.bk.rp (k := 5) (j := 2) rfl (by omega)), ?_⟩
  obtain ⟨hc, Gb, hp⟩ := bsome hp
  refine s_has (r := c.Size) (n := Ab) wa.pre  Gb fun uc Hb => ?_
  obtain ⟨ya, q⟩ := wa.call Hb h
  have za := Db.k q
  have Aa := xa.k q
  have Ba := Eb.k q
  have Ca := Fb.k q
  have fa := Ia.k q
  refine ⟨_, rfl, ?_⟩
  refine ifbb hp (fun Ib hp => ?_) fun Ib hp => ?_; rotate_left
  ·exact S .nrm (b) _ _ _ _ ya ⟨za, Aa, Ba, Ca⟩ fa T hp
  obtain ⟨Jb, Kb, Mb, I, Nb⟩ := Ca.sto ya [(.bool true)]
  have Ob := za.k I
  have Pb := Aa.k I
  have Qb := Ba.k I
  have Ja := fa.k I
  refine ⟨Jb, Kb, ?_⟩
  exact S .ret (true) _ _ _ _ Mb ⟨Ob, Pb, Qb, Nb⟩ Ja T ⟨rfl, hp⟩
 ·intro b J N Da Rb ic hA hp
  replace hp : pisRight_L0 s c t [] b = some rz := hp
  obtain ⟨d, e, g, a⟩ := hA
  replace d : Lb (Fm.of m) J N Da 1 m.nxt 12 [(Il s.Wide), (Il s.High), (Il s.Fall), (Il s.A.Lo), (Il s.A.Hi), (Il s.B.Lo), (Il s.B.Hi), (Il s.Half.Lo), (Il s.Half.Hi), (Il s.Peak.Lo), (Il s.Peak.Hi), ca111] := d
  replace e : Lb (Fm.of m) J N Da 2 m0.nxt 7 [(Il c.X.Lo), (Il c.X.Hi), (Il c.Y.Lo), (Il c.Y.Hi), (.bool c.Hail), (Il c.Size.Lo), (Il c.Size.Hi)] := e
  replace g : Lb (Fm.of m) J N Da 3 m1.nxt 4 [(Il t.A), (Il t.B), (Il t.Half), (Il t.Peak)] := g
  replace a : Lb (Fm.of m) J N Da 4 m2.nxt 1 [(.bool b)] := a
  rw [pisRight_L0] at hp
  obtain ⟨Sb, Tb, Ub, jc, Vb⟩ := a.sto Rb [(.bool false)]
  refine ⟨Sb, Tb, ?_⟩
  refine ⟨_, Vb.bk.rc rfl, ?_⟩
  obtain rfl := Option.some.inj hp
  exact hq _ Ub.ext'
 ·intro id st _ _ _ _ _ _ hn; first | exact hn.elim | (cases hn)
 ·intro b O P Ea Wb kc hA hn
  obtain ⟨hid, hp⟩ := hn
  replace hp : pisRight_L0_xret b = some rz := hp
  unfold pisRight_L0_xret at hp
  obtain ⟨d, e, g, a⟩ := hA
  replace d : Lb (Fm.of m) O P Ea 1 m.nxt 12 [(Il s.Wide), (Il s.High), (Il s.Fall), (Il s.A.Lo), (Il s.A.Hi), (Il s.B.Lo), (Il s.B.Hi), (Il s.Half.Lo), (Il s.Half.Hi), (Il s.Peak.Lo), (Il s.Peak.Hi), ca111] := d
  replace e : Lb (Fm.of m) O P Ea 2 m0.nxt 7 [(Il c.X.Lo), (Il c.X.Hi), (Il c.Y.Lo), (Il c.Y.Hi), (.bool c.Hail), (Il c.Size.Lo), (Il c.Size.Hi)] := e
  replace g : Lb (Fm.of m) O P Ea 3 m1.nxt 4 [(Il t.A), (Il t.B), (Il t.Half), (Il t.Peak)] := g
  replace a : Lb (Fm.of m) O P Ea 4 m2.nxt 1 [(.bool b)] := a
  refine ⟨_, a.bk.rc rfl, ?_⟩
  obtain rfl := Option.some.inj hp
  exact hq _ Wb.ext'
theorem s_reaches {s : Stm} {t : Trh} {r : Rct} {inn : Bool} {ca111 : C} {m f : M} {Q : V → M → Prop} {rz : Bool} (hS : Pre f m) (ha111 : Sl f ca111 s.Cards) (hp : preaches s t r inn = some rz) (hq : ∀ m', Ext m m' → Q (.c (.bool rz)) m') : Wc prog tbl 109 [.agg 12 [(Il s.Wide), (Il s.High), (Il s.Fall), (Il s.A.Lo), (Il s.A.Hi), (Il s.B.Lo), (Il s.B.Hi), (Il s.Half.Lo), (Il s.Half.Hi), (Il s.Peak.Lo), (Il s.Peak.Hi), ca111], .agg 4 [(Il t.A), (Il t.B), (Il t.Half), (Il t.Peak)], .agg 4 [(Il r.X.Lo), (Il r.X.Hi), (Il r.Y.Lo), (Il r.Y.Hi)], .c (.bool inn)] m Q := by
 have S0 := hS.st
 obtain ⟨τ0, _⟩ : ∃ τ : Nat → Nat, True := ⟨fun _ => 0, trivial⟩
 refine w109 ?_
 unfold preaches at hp
 intro m0 za
 obtain ⟨Aa, Ba, Jb, Ca⟩ := S0.blk za τ0 1
 intro m1 Ea
 obtain ⟨Fa, Ga, Ha, Ia⟩ := Ba.blk Ea Aa 2
 have Ja := Ca.k Ha
 intro m2 La
 obtain ⟨Ma, Na, ba, Oa⟩ := Ga.blk La Fa 3
 have Pa := Ja.k ba
 have Qa := Ia.k ba
 intro m3 Sa
 obtain ⟨Ta, Ua, I, Va⟩ := Na.blk Sa Ma 4
 have Wa := Pa.k I
 have Xa := Qa.k I
 have Ya := Oa.k I
 intro m4 Za
 obtain ⟨ca, da, G, ab⟩ := Ua.blk Za Ta 5
 have cb := Wa.k G
 have db := Xa.k G
 have ea := Ya.k G
 have eb := Va.k G
 refine ⟨_, _, _, _, ea.bk.ra, ?_⟩
 obtain ⟨Kb, fb, hp⟩ := bsome hp
 refine s_places (r := r) da.pre  fb fun Wb Mb Nb gb hb => ?_
 obtain ⟨ib, i⟩ := da.callG gb ca
 have fa := cb.k i
 have ga := db.k i
 have ha := ea.k i
 have ia := eb.k i
 have ja := ab.k i
 refine ⟨_, rfl, ?_⟩
 refine range_st (α := Int × Int) ib hb (σ := Bool) 6 (fun st bb => (False ∨ (False ∨ (False ∨ (False ∨ False))))) (fun st gG gF gT gM => (Lb gG gF gT gM 1 m.nxt 12 [(Il s.Wide), (Il s.High), (Il s.Fall), (Il s.A.Lo), (Il s.A.Hi), (Il s.B.Lo), (Il s.B.Hi), (Il s.Half.Lo), (Il s.Half.Hi), (Il s.Peak.Lo), (Il s.Peak.Hi), ca111]) ∧ (Lb gG gF gT gM 2 m0.nxt 4 [(Il t.A), (Il t.B), (Il t.Half), (Il t.Peak)]) ∧ (Lb gG gF gT gM 3 m1.nxt 4 [(Il r.X.Lo), (Il r.X.Hi), (Il r.Y.Lo), (Il r.Y.Hi)]) ∧ (Lb gG gF gT gM 4 m2.nxt 1 [(.bool inn)]) ∧ (Lb gG gF gT gM 5 m3.nxt 1 [(.bool st)])) (fun rr_ st => preaches_L0 s t inn rr_ st = some rz) (fun ex st => (match ex with | .ret => (0 : Nat) = 0 ∧ preaches_L0_xret st = some rz | _ => False)) (fun st => (Gud.and (Gud.lb fa.bk.lt (by decide)) (Gud.and (Gud.lb ga.bk.lt (by decide)) (Gud.and (Gud.lb ha.bk.lt (by decide)) (Gud.and (Gud.lb ia.bk.lt (by decide)) (Gud.lb ja.bk.lt (by decide))))))) (st0 := (false)) (τ := ca) ⟨fa, ga, ha, ia, ja⟩ hp ?_ ?_ ?_ ?_
 ·intro J jb b n j O o Ob Gb Hb Ib kb mb hA ua hp va P
  obtain ⟨d, e, g, h, a⟩ := hA
  replace d : Lb o n j O 1 m.nxt 12 [(Il s.Wide), (Il s.High), (Il s.Fall), (Il s.A.Lo), (Il s.A.Hi), (Il s.B.Lo), (Il s.B.Hi), (Il s.Half.Lo), (Il s.Half.Hi), (Il s.Peak.Lo), (Il s.Peak.Hi), ca111] := d
  replace e : Lb o n j O 2 m0.nxt 4 [(Il t.A), (Il t.B), (Il t.Half), (Il t.Peak)] := e
  replace g : Lb o n j O 3 m1.nxt 4 [(Il r.X.Lo), (Il r.X.Hi), (Il r.Y.Lo), (Il r.Y.Hi)] := g
  replace h : Lb o n j O 4 m2.nxt 1 [(.bool inn)] := h
  replace a : Lb o n j O 5 m3.nxt 1 [(.bool b)] := a
  replace hp : preaches_L0 s t inn (J :: jb) b = some rz := hp
  rw [preaches_L0] at hp
  refine ⟨_, _, rfl, ?_⟩
  refine va _ _ _ _ kb ua fun Xb Pb ka p wa S => ?_
  have la := d.k p
  have ma := e.k p
  have nb := g.k p
  have na := h.k p
  have ob := a.k p
  refine ⟨_, _, _, _, _, _, _, _, _, _, _, _, la.bk.ra, _, _, _, _, ma.bk.ra, ?_⟩
  obtain ⟨Qb, pb, hp⟩ := bsome hp
  refine s_hits (s := s) (t := t) (x := J.1) (y := J.2) ka.pre (ha111.sub (Sub.trans i.fs mb)) pb fun Yb qb => ?_
  obtain ⟨oa, l⟩ := ka.call qb j
  have pa := la.k l
  have qa := ma.k l
  have sa := nb.k l
  have N := na.k l
  have ta := ob.k l
  have T := wa.k l
  refine ⟨_, rfl, _, N.bk.rc rfl, (na.bk.rc rfl), ?_⟩
  refine ifbb hp (fun rb hp => ?_) fun rb hp => ?_; rotate_left
  ·exact P .nrm (b) _ _ _ _ oa ⟨pa, qa, sa, N, ta⟩ T S hp
  obtain ⟨sb, tb, ub, q, vb⟩ := ta.sto oa [(.bool true)]
  have wb := pa.k q
  have xb := qa.k q
  have yb := sa.k q
  have zb := N.k q
  have xa := T.k q
  refine ⟨sb, tb, ?_⟩
  exact P .ret (true) _ _ _ _ ub ⟨wb, xb, yb, zb, vb⟩ xa S ⟨rfl, hp⟩
 ·intro b u z Z Ab Rb hA hp
  replace hp : preaches_L0 s t inn [] b = some rz := hp
  obtain ⟨d, e, g, h, a⟩ := hA
  replace d : Lb (Fm.of m) u z Z 1 m.nxt 12 [(Il s.Wide), (Il s.High), (Il s.Fall), (Il s.A.Lo), (Il s.A.Hi), (Il s.B.Lo), (Il s.B.Hi), (Il s.Half.Lo), (Il s.Half.Hi), (Il s.Peak.Lo), (Il s.Peak.Hi), ca111] := d
  replace e : Lb (Fm.of m) u z Z 2 m0.nxt 4 [(Il t.A), (Il t.B), (Il t.Half), (Il t.Peak)] := e
  replace g : Lb (Fm.of m) u z Z 3 m1.nxt 4 [(Il r.X.Lo), (Il r.X.Hi), (Il r.Y.Lo), (Il r.Y.Hi)] := g
  replace h : Lb (Fm.of m) u z Z 4 m2.nxt 1 [(.bool inn)] := h
  replace a : Lb (Fm.of m) u z Z 5 m3.nxt 1 [(.bool b)] := a
  rw [preaches_L0] at hp
  obtain ⟨Bb, Cb, Db, Sb, Eb⟩ := a.sto Ab [(.bool false)]
  refine ⟨Bb, Cb, ?_⟩
  refine ⟨_, Eb.bk.rc rfl, ?_⟩
  obtain rfl := Option.some.inj hp
  exact hq _ Db.ext'
 ·intro id st _ _ _ _ _ _ hn; first | exact hn.elim | (cases hn)
 ·intro b D F aa Fb Tb hA hn
  obtain ⟨hid, hp⟩ := hn
  replace hp : preaches_L0_xret b = some rz := hp
  unfold preaches_L0_xret at hp
  obtain ⟨d, e, g, h, a⟩ := hA
  replace d : Lb (Fm.of m) D F aa 1 m.nxt 12 [(Il s.Wide), (Il s.High), (Il s.Fall), (Il s.A.Lo), (Il s.A.Hi), (Il s.B.Lo), (Il s.B.Hi), (Il s.Half.Lo), (Il s.Half.Hi), (Il s.Peak.Lo), (Il s.Peak.Hi), ca111] := d
  replace e : Lb (Fm.of m) D F aa 2 m0.nxt 4 [(Il t.A), (Il t.B), (Il t.Half), (Il t.Peak)] := e
  replace g : Lb (Fm.of m) D F aa 3 m1.nxt 4 [(Il r.X.Lo), (Il r.X.Hi), (Il r.Y.Lo), (Il r.Y.Hi)] := g
  replace h : Lb (Fm.of m) D F aa 4 m2.nxt 1 [(.bool inn)] := h
  replace a : Lb (Fm.of m) D F aa 5 m3.nxt 1 [(.bool b)] := a
  refine ⟨_, a.bk.rc rfl, ?_⟩
  obtain rfl := Option.some.inj hp
  exact hq _ Fb.ext'
theorem s_upTo {last : Int} {m f : M} {Q : V → M → Prop} {rz : Cds} (hS : Pre f m)  (hp : pupTo last = some rz) (hq : ∀ m', Ext m m' → Q (.agg 6 [(.bool rz.c0), (.bool rz.c1), (.bool rz.c2), (.bool rz.c3), (.bool rz.c4), (.bool rz.c5)]) m') : Wc prog tbl 83 [.c (Il last)] m Q := by
 have S0 := hS.st
 obtain ⟨τ0, _⟩ : ∃ τ : Nat → Nat, True := ⟨fun _ => 0, trivial⟩
 refine w83 ?_
 unfold pupTo at hp
 intro m0 x
 obtain ⟨y, z, ga, A⟩ := S0.blk x τ0 1
 intro m1 B
 obtain ⟨D, F, G, i⟩ := z.blk B y 2
 have j := A.k G
 refine gdi hp fun I hp => ?_
 intro R2 fa
 have hgo : ∀ (o : Nat) (p : Int) (a : Bool) (b : Bool) (d : Bool) (e : Bool) (g : Bool) (h : Bool) (u : M) (n : Nat → Nat), St (Fm.of m) f f u → Lb (Fm.of m) f n u 1 m.nxt 6 [(.bool false), (.bool false), (.bool false), (.bool false), (.bool false), (.bool false)] → Lb (Fm.of m) f n u 2 m0.nxt 6 [(.bool a), (.bool b), (.bool d), (.bool e), (.bool g), (.bool h)] → pupTo_L0 last o a b d e g h p = some rz → R2 [.c (Il p)] u := by
  intro o
  induction o with
  | zero => intro p a b d e g h u n q j i hp; cases hp
  | succ o ea =>
   intro p a b d e g h u n q j i hp
   refine fa _ _ ?_
   rw [pupTo_L0] at hp
   refine ifd hp (fun J hp => ?_) fun J hp => ?_; rotate_left
   ·refine ⟨_, _, _, _, _, _, i.bk.ra, ?_⟩
    obtain ⟨N, O, P, ha, S⟩ := j.sto q [(.bool a), (.bool b), (.bool d), (.bool e), (.bool g), (.bool h)]
    refine ⟨N, O, ?_⟩
    refine ⟨_, _, _, _, _, _, S.bk.ra, ?_⟩
    obtain rfl := Option.some.inj hp
    exact hq _ P.ext'
   refine ⟨trivial, ?_⟩
   obtain ⟨T, hp⟩ := gd_some hp
   obtain ⟨n5, s, t⟩ := arr_no T
   refine ⟨n5, s, t, ?_⟩
   obtain ⟨Y, Z, aa, ba, r⟩ := i.sta q (pre := []) (post := []) (l := ([a, b, d, e, g, h] : List Bool)) (enc := C.bool) rfl rfl s t true
   replace r : Lb _ _ _ _ _ _ _ [(.bool (sti p 0 true a)), (.bool (sti p 1 true b)), (.bool (sti p 2 true d)), (.bool (sti p 3 true e)), (.bool (sti p 4 true g)), (.bool (sti p 5 true h))] := r
   have ca := j.k ba
   refine ⟨Y, Z, ?_⟩
   refine gdi hp fun da hp => ?_
   exact ea _ _ _ _ _ _ _ _ n aa ca r hp
 exact hgo _ _ _ _ _ _ _ _ _ D F j i hp
theorem s_among {c : Cds} {these : Cds} {m f : M} {Q : V → M → Prop} {rz : Cds} (hS : Pre f m)  (hp : pamong c these = some rz) (hq : ∀ m', Ext m m' → Q (.agg 6 [(.bool rz.c0), (.bool rz.c1), (.bool rz.c2), (.bool rz.c3), (.bool rz.c4), (.bool rz.c5)]) m') : Wc prog tbl 117 [.agg 6 [(.bool c.c0), (.bool c.c1), (.bool c.c2), (.bool c.c3), (.bool c.c4), (.bool c.c5)], .agg 6 [(.bool these.c0), (.bool these.c1), (.bool these.c2), (.bool these.c3), (.bool these.c4), (.bool these.c5)]] m Q := by
 have S0 := hS.st
 obtain ⟨τ0, _⟩ : ∃ τ : Nat → Nat, True := ⟨fun _ => 0, trivial⟩
 refine w117 ?_
 unfold pamong at hp
 intro m0 Y
 obtain ⟨Z, aa, Ja, ba⟩ := S0.blk Y τ0 1
 intro m1 ca
 obtain ⟨da, ea, fa, ga⟩ := aa.blk ca Z 2
 have ha := ba.k fa
 intro m2 ia
 obtain ⟨ja, ka, G, o⟩ := ea.blk ia da 3
 have p := ha.k G
 have i := ga.k G
 intro R3 Ga
 have hgo : ∀ (r : Nat) (q : Int) (a : Bool) (b : Bool) (d : Bool) (e : Bool) (g : Bool) (h : Bool) (F : M) (j : Nat → Nat), St (Fm.of m) f f F → Lb (Fm.of m) f j F 1 m.nxt 6 [(.bool c.c0), (.bool c.c1), (.bool c.c2), (.bool c.c3), (.bool c.c4), (.bool c.c5)] → Lb (Fm.of m) f j F 2 m0.nxt 6 [(.bool a), (.bool b), (.bool d), (.bool e), (.bool g), (.bool h)] → Lb (Fm.of m) f j F 3 m1.nxt 6 [(.bool false), (.bool false), (.bool false), (.bool false), (.bool false), (.bool false)] → pamong_L0 c r a b d e g h q = some rz → R3 [.c (Il q)] F := by
  intro r
  induction r with
  | zero => intro q a b d e g h F j s p i o hp; cases hp
  | succ r N =>
   intro q a b d e g h F j s p i o hp
   refine Ga _ _ ?_
   rw [pamong_L0] at hp
   refine ifd hp (fun la hp => ?_) fun la hp => ?_; rotate_left
   ·refine ⟨_, _, _, _, _, _, i.bk.ra, ?_⟩
    obtain ⟨ma, na, oa, Ka, pa⟩ := o.sto s [(.bool a), (.bool b), (.bool d), (.bool e), (.bool g), (.bool h)]
    refine ⟨ma, na, ?_⟩
    refine ⟨_, _, _, _, _, _, pa.bk.ra, ?_⟩
    obtain rfl := Option.some.inj hp
    exact hq _ oa.ext'
   refine ⟨trivial, ?_⟩
   obtain ⟨La, t, hp⟩ := bsome hp
   obtain ⟨n6, O, P, t⟩ := idx_some t
   refine ⟨n6, O, P, _, (i.bk.rc (arr_at (l := ([a, b, d, e, g, h] : List Bool)) (enc := C.bool) 0 rfl t)), ?_⟩
   refine ifbb hp (fun qa hp => ?_) fun qa hp => ?_; rotate_left
   ·refine ⟨trivial, ?_⟩
    obtain ⟨sa, hp⟩ := gd_some hp
    obtain ⟨Ha, z, A⟩ := arr_no sa
    refine ⟨Ha, z, A, ?_⟩
    obtain ⟨ta, ua, va, I, u⟩ := i.sta s (pre := []) (post := []) (l := ([a, b, d, e, g, h] : List Bool)) (enc := C.bool) rfl rfl z A false
    replace u : Lb _ _ _ _ _ _ _ [(.bool (sti q 0 false a)), (.bool (sti q 1 false b)), (.bool (sti q 2 false d)), (.bool (sti q 3 false e)), (.bool (sti q 4 false g)), (.bool (sti q 5 false h))] := u
    have wa := p.k I
    have xa := o.k I
    refine ⟨ta, ua, ?_⟩
    refine gdi hp fun ya hp => ?_
    exact N _ _ _ _ _ _ _ _ j va wa u xa hp
   refine ⟨trivial, ?_⟩
   obtain ⟨n, x, hp⟩ := bsome hp
   obtain ⟨n8, S, T, x⟩ := idx_some x
   refine ⟨n8, S, T, _, (p.bk.rc (arr_at (l := ([c.c0, c.c1, c.c2, c.c3, c.c4, c.c5] : List Bool)) (enc := C.bool) 0 rfl x)), trivial, ?_⟩
   obtain ⟨za, hp⟩ := gd_some hp
   obtain ⟨Ia, B, D⟩ := arr_no za
   refine ⟨Ia, B, D, ?_⟩
   obtain ⟨Aa, Ba, Ca, J, y⟩ := i.sta s (pre := []) (post := []) (l := ([a, b, d, e, g, h] : List Bool)) (enc := C.bool) rfl rfl B D n
   replace y : Lb _ _ _ _ _ _ _ [(.bool (sti q 0 n a)), (.bool (sti q 1 n b)), (.bool (sti q 2 n d)), (.bool (sti q 3 n e)), (.bool (sti q 4 n g)), (.bool (sti q 5 n h))] := y
   have Da := p.k J
   have Ea := o.k J
   refine ⟨Aa, Ba, ?_⟩
   refine gdi hp fun Fa hp => ?_
   exact N _ _ _ _ _ _ _ _ j Ca Da y Ea hp
 exact hgo _ _ _ _ _ _ _ _ _ ja ka p i o hp
theorem s_rightCards {w : Wk} {t : Trh} {ca111 ca112 : C} {m f : M} {Q : V → M → Prop} {rz : Cds} (hS : Pre f m) (ha111 : Sl f ca111 w.s.Cards) (_ha112 : Mi f ca112 w.right) (hp : prightCards w t = some rz) (hq : ∀ m', Ext m m' → Q (.agg 6 [(.bool rz.c0), (.bool rz.c1), (.bool rz.c2), (.bool rz.c3), (.bool rz.c4), (.bool rz.c5)]) m') : Wc prog tbl 91 [.agg 13 [(Il w.s.Wide), (Il w.s.High), (Il w.s.Fall), (Il w.s.A.Lo), (Il w.s.A.Hi), (Il w.s.B.Lo), (Il w.s.B.Hi), (Il w.s.Half.Lo), (Il w.s.Half.Hi), (Il w.s.Peak.Lo), (Il w.s.Peak.Hi), ca111, ca112], .agg 4 [(Il t.A), (Il t.B), (Il t.Half), (Il t.Peak)]] m Q := by
 have S0 := hS.st
 obtain ⟨τ0, _⟩ : ∃ τ : Nat → Nat, True := ⟨fun _ => 0, trivial⟩
 refine w91 ?_
 unfold prightCards at hp
 intro m0 ga
 obtain ⟨ha, ia, kb, ja⟩ := S0.blk ga τ0 1
 intro m1 ka
 obtain ⟨la, ma, na, oa⟩ := ia.blk ka ha 2
 have pa := ja.k na
 intro m2 qa
 obtain ⟨sa, ta, aa, ua⟩ := ma.blk qa la 3
 have va := pa.k aa
 have wa := oa.k aa
 intro m3 xa
 obtain ⟨ya, za, I, p⟩ := ta.blk xa sa 4
 have q := va.k I
 have u := wa.k I
 have r := ua.k I
 refine ⟨trivial, trivial, _, q.bk.rc rfl, ha111.isSl, ?_⟩
 intro R5 ib
 have hgo : ∀ (x : Nat) (G : Int) (b : Bool) (d : Bool) (e : Bool) (g : Bool) (h : Bool) (i : Bool) (P : M) (n : Nat → Nat), St (Fm.of m) f f P → Lb (Fm.of m) f n P 1 m.nxt 13 [(Il w.s.Wide), (Il w.s.High), (Il w.s.Fall), (Il w.s.A.Lo), (Il w.s.A.Hi), (Il w.s.B.Lo), (Il w.s.B.Hi), (Il w.s.Half.Lo), (Il w.s.Half.Hi), (Il w.s.Peak.Lo), (Il w.s.Peak.Hi), ca111, ca112] → Lb (Fm.of m) f n P 2 m0.nxt 4 [(Il t.A), (Il t.B), (Il t.Half), (Il t.Peak)] → Lb (Fm.of m) f n P 3 m1.nxt 6 [(.bool false), (.bool false), (.bool false), (.bool false), (.bool false), (.bool false)] → Lb (Fm.of m) f n P 4 m2.nxt 6 [(.bool b), (.bool d), (.bool e), (.bool g), (.bool h), (.bool i)] → prightCards_L0 w t x b d e g h i G = some rz → R5 [.c (Il G)] P := by
  intro x
  induction x with
  | zero => intro G b d e g h i P n y q u r p hp; cases hp
  | succ x hb =>
   intro G b d e g h i P n y q u r p hp
   refine ib _ _ ?_
   rw [prightCards_L0] at hp
   try rw [ha111.slLen]
   refine ifd hp (fun Aa hp => ?_) fun Aa hp => ?_; rotate_left
   ·refine ⟨_, _, _, _, _, _, p.bk.ra, ?_⟩
    obtain ⟨Ba, Ca, Da, mb, Ea⟩ := r.sto y [(.bool b), (.bool d), (.bool e), (.bool g), (.bool h), (.bool i)]
    refine ⟨Ba, Ca, ?_⟩
    refine ⟨_, _, _, _, _, _, Ea.bk.ra, ?_⟩
    obtain rfl := Option.some.inj hp
    exact hq _ Da.ext'
   obtain ⟨a, J, hp⟩ := bsome hp
   obtain ⟨n8, fa, S, J⟩ := idx_some J
   obtain ⟨_, Fa⟩ := rd_Crd ha111 J
   refine ⟨n8, fa, (by first | exact S | (rw [ha111.slLen]; exact S)), _, _, _, _, _, _, _, (Fa _ y.sub).1, ?_⟩
   intro ub Ga
   obtain ⟨ba, Ha, z, Ia⟩ := y.blk Ga n 5
   have Ja := q.k z
   have Ka := u.k z
   have La := r.k z
   have Ma := p.k z
   obtain ⟨Na, Oa, ca, D, Pa⟩ := Ia.sto Ha [(Il a.X.Lo), (Il a.X.Hi), (Il a.Y.Lo), (Il a.Y.Hi), (.bool a.Hail), (Il a.Size.Lo), (Il a.Size.Hi)]
   have da := Ja.k D
   have ea := Ka.k D
   have Qa := La.k D
   have Ra := Ma.k D
   refine ⟨Na, Oa, ?_⟩
   refine ⟨trivial, _, _, _, _, _, _, _, _, _, _, _, _, da.bk.rp (k := 0) (j := 12) rfl (by omega), _, _, _, _, _, _, _, Pa.bk.ra, _, _, _, _, ea.bk.ra, ?_⟩
   obtain ⟨o, Sa, hp⟩ := bsome hp
   refine s_isRight (s := w.s) (c := a) (t := t) ca.pre ha111 Sa fun vb Ta => ?_
   obtain ⟨Ua, F⟩ := ca.call Ta ba
   have Va := da.k F
   have Wa := ea.k F
   have Xa := Qa.k F
   have Ya := Ra.k F
   refine ⟨_, rfl, trivial, ?_⟩
   obtain ⟨Za, hp⟩ := gd_some hp
   obtain ⟨jb, T, Z⟩ := arr_no Za
   refine ⟨jb, T, Z, ?_⟩
   obtain ⟨ab, bb, cb, N, O⟩ := Ya.sta Ua (pre := []) (post := []) (l := ([b, d, e, g, h, i] : List Bool)) (enc := C.bool) rfl rfl T Z o
   replace O : Lb _ _ _ _ _ _ _ [(.bool (sti G 0 o b)), (.bool (sti G 1 o d)), (.bool (sti G 2 o e)), (.bool (sti G 3 o g)), (.bool (sti G 4 o h)), (.bool (sti G 5 o i))] := O
   have db := Va.k N
   have eb := Wa.k N
   have fb := Xa.k N
   refine ⟨ab, bb, ?_⟩
   refine gdi hp fun gb hp => ?_
   exact hb _ _ _ _ _ _ _ _ ba cb db eb fb O hp
 exact hgo _ _ _ _ _ _ _ _ _ ya za q u r p hp
theorem s_allCards {w : Wk} {ca111 ca112 : C} {m f : M} {Q : V → M → Prop} {rz : Cds} (hS : Pre f m) (ha111 : Sl f ca111 w.s.Cards) (_ha112 : Mi f ca112 w.right) (hp : pallCards w = some rz) (hq : ∀ m', Ext m m' → Q (.agg 6 [(.bool rz.c0), (.bool rz.c1), (.bool rz.c2), (.bool rz.c3), (.bool rz.c4), (.bool rz.c5)]) m') : Wc prog tbl 92 [.agg 13 [(Il w.s.Wide), (Il w.s.High), (Il w.s.Fall), (Il w.s.A.Lo), (Il w.s.A.Hi), (Il w.s.B.Lo), (Il w.s.B.Hi), (Il w.s.Half.Lo), (Il w.s.Half.Hi), (Il w.s.Peak.Lo), (Il w.s.Peak.Hi), ca111, ca112]] m Q := by
 have I := hS.st
 obtain ⟨J, _⟩ : ∃ τ : Nat → Nat, True := ⟨fun _ => 0, trivial⟩
 refine w92 ?_
 unfold pallCards at hp
 intro N d
 obtain ⟨e, g, F, h⟩ := I.blk d J 1
 intro O i
 obtain ⟨j, b, l, n⟩ := g.blk i e 2
 have o := h.k l
 refine ⟨trivial, trivial, _, o.bk.rc rfl, ha111.isSl, ?_⟩
 obtain ⟨c, hp⟩ := gd_some hp
 refine ⟨(by first | exact c | (rw [ha111.slLen]; exact c)), ?_⟩
 try rw [ha111.slLen]
 obtain ⟨a, p, hp⟩ := bsome hp
 refine s_upTo (last := ((w.s.Cards.length : Int) - (1 : Int))) b.pre  p fun P q => ?_
 obtain ⟨r, t⟩ := b.call q j
 have u := n.k t
 refine ⟨_, _, _, _, _, _, rfl, ?_⟩
 obtain ⟨x, y, z, G, D⟩ := u.sto r [(.bool a.c0), (.bool a.c1), (.bool a.c2), (.bool a.c3), (.bool a.c4), (.bool a.c5)]
 refine ⟨x, y, ?_⟩
 refine ⟨_, _, _, _, _, _, D.bk.ra, ?_⟩
 obtain rfl := Option.some.inj hp
 exact hq _ z.ext'
set_option maxHeartbeats 4000000 in
theorem s_choicesI {s : Stm} {b0 : Nat} {cb011 : C} {m f : M} {F : Fm} {n0 ly : Nat} {xs : List (List V)} {I : Nat → (Nat → Prop) → M → Prop} {E : (Nat → Prop) → M → Prop} {S1 : Nat → Prop} {Q : V → M → Prop} {rz : List Trh} {τ0 : Nat → Nat} (hc : Client prog tbl n0 ly xs I E) (S0 : St F f f m) (Y0 : Yg n0 (YJ xs I rz) S1 F f τ0 m) (hb0 : Bk f b0 12 [(.int .i64 s.Wide), (.int .i64 s.High), (.int .i64 s.Fall), (.int .i64 s.A.Lo), (.int .i64 s.A.Hi), (.int .i64 s.B.Lo), (.int .i64 s.B.Hi), (.int .i64 s.Half.Lo), (.int .i64 s.Half.Hi), (.int .i64 s.Peak.Lo), (.int .i64 s.Peak.Hi), cb011]) (hb011 : Sl f cb011 s.Cards) (hp : pchoicesI s = some rz) (hq : ∀ v m' f' τ' S', St F f f' m' → (Yg n0 (YJ xs I ([] : List Trh)) S' F f' τ' m' ∨ Yg n0 E S' F f' τ' m') → Q v m') : Wc prog tbl 130 [.c (.fn (.yield ly) [] []), .c (.ptr b0 0)] m Q := by
 refine c130 ?_
 unfold pchoicesI at hp
 intro m0 e3381
 obtain ⟨τ3384, S3382, k3383, L3385⟩ := S0.blk e3381 τ0 1
 have Y3386 := Y0.k k3383 (by decide)
 refine ⟨trivial, _, _, (hb0.sub S3382.sub).rp (k := 3) (j := 2) rfl (by omega), ?_⟩
 obtain ⟨r3387, g3388, hp⟩ := bsome hp
 refine s_numbers (r := s.A) S3382.pre  g3388 fun m4 f3392 c3393 e3391 h3394 => ?_
 obtain ⟨S3389, k3390⟩ := S3382.callG e3391 τ3384
 have L3395 := L3385.k k3390 (by decide)
 have Y3396 := Y3386.k k3390 (by decide)
 refine ⟨_, rfl, ?_⟩
 refine range_st (α := Int) S3389 h3394 (σ := (List Trh) × (Nat → Prop) × Bool) 2 (fun st bb => (False ∨ (st.2.1 bb))) (fun st gG gF gT gM => (Lb gG gF gT gM 1 m.nxt 1 [(.fn (.yield ly) [] [])]) ∧ (Yg n0 (YD xs I E st.2.2 st.1) st.2.1 gG gF gT gM)) (fun rr_ st => st.2.2 = false ∧ pchoicesI_L0 s rr_ = some st.1) (fun ex st => (match ex with | .ret => st.2.2 = true ∨ (st.2.2 = false ∧ (0 : Nat) = 0 ∧ pchoicesI_L0_xret = some st.1) | _ => False)) (fun st => (Gud.and (Gud.lb L3395.bk.lt (by decide)) (Gud.yg Y3396.n (by decide)))) (st0 := (rz, S1, false)) (τ := τ3384) ⟨L3395, Y3396⟩ ⟨rfl, hp⟩ ?_ ?_ ?_ ?_
 ·intro a3406 q3407 st f3408 τ3409 m7 F3410 o3411 Ok3412 en3413 Kn3414 S3415 s3416 hA rk3417 hp he3418 hk3419
  obtain ⟨r3398, s3399, d3400⟩ := st
  obtain ⟨hdd, hp⟩ := hp
  replace hdd : d3400 = false := hdd
  subst hdd
  obtain ⟨L3397, Y3401⟩ := hA
  replace L3397 : Lb F3410 f3408 τ3409 m7 1 m.nxt 1 [(.fn (.yield ly) [] [])] := L3397
  replace Y3401 : Yg n0 (YJ xs I r3398) s3399 F3410 f3408 τ3409 m7 := Y3401
  replace hp : pchoicesI_L0 s (a3406 :: q3407) = some r3398 := hp
  rw [pchoicesI_L0] at hp
  refine ⟨_, rfl, ?_⟩
  intro m11 e3420
  obtain ⟨τ3423, S3421, k3422, L3424⟩ := S3415.blk e3420 τ3409 3
  have L3425 := L3397.k k3422 (by decide)
  have Y3426 := Y3401.k k3422 (by decide)
  have rk3427 := rk3417.k k3422 (by decide)
  obtain ⟨m3431, e3430, S3428, k3429, L3432⟩ := L3424.sto S3421 [(.int .i64 a3406)]
  have L3433 := L3425.k k3429 (by decide)
  have Y3434 := Y3426.k k3429 (by decide)
  have rk3435 := rk3427.k k3429 (by decide)
  refine ⟨m3431, e3430, ?_⟩
  refine he3418 _ _ _ _ S3428 rk3435 fun m13 o3439 S3436 k3437 rk3438 hO3440 => ?_
  have L3441 := L3433.k k3437 (by decide)
  have L3442 := L3432.k k3437 (by decide)
  have Y3443 := Y3434.k k3437 (by decide)
  refine ⟨trivial, _, _, (hb0.sub (Sub.trans (Sub.trans k3390.fs s3416) S3436.sub)).rp (k := 5) (j := 2) rfl (by omega), ?_⟩
  obtain ⟨r3444, g3445, hp⟩ := bsome hp
  refine s_numbers (r := s.B) S3436.pre  g3445 fun m17 f3449 c3450 e3448 h3451 => ?_
  obtain ⟨S3446, k3447⟩ := S3436.callG e3448 τ3423
  have L3452 := L3441.k k3447 (by decide)
  have L3453 := L3442.k k3447 (by decide)
  have Y3454 := Y3443.k k3447 (by decide)
  have rk3455 := rk3438.k k3447 (by decide)
  refine ⟨_, rfl, ?_⟩
  refine range_st (α := Int) S3446 h3451 (σ := (List Trh) × (Nat → Prop) × Bool) 4 (fun st bb => (False ∨ (False ∨ ((st.2.1 bb) ∨ False)))) (fun st gG gF gT gM => (Lb gG gF gT gM 1 m.nxt 1 [(.fn (.yield ly) [] [])]) ∧ (Lb gG gF gT gM 3 m7.nxt 1 [(.int .i64 a3406)]) ∧ (Yg n0 (YD xs I E st.2.2 st.1) st.2.1 gG gF gT gM) ∧ (Rk gG gF gT gM 2 (m4).nxt o3439)) (fun rr_ st => st.2.2 = false ∧ pchoicesI_L1 s a3406 ((pchoicesI_L0 s q3407)) rr_ = some st.1) (fun ex st => (match ex with | .ret => st.2.2 = true ∨ (st.2.2 = false ∧ (0 : Nat) = 0 ∧ pchoicesI_L1_xret = some st.1) | _ => False)) (fun st => (Gud.and (Gud.lb L3452.bk.lt (by decide)) (Gud.and (Gud.lb L3453.bk.lt (by decide)) (Gud.and (Gud.yg Y3454.n (by decide)) (Gud.rk rk3455.lt (by decide)))))) (st0 := (r3398, s3399, false)) (τ := τ3423) ⟨L3452, L3453, Y3454, rk3455⟩ ⟨rfl, hp⟩ ?_ ?_ ?_ ?_
  ·intro a3467 q3468 st f3469 τ3470 m20 F3471 o3472 Ok3473 en3474 Kn3475 S3476 s3477 hA rk3478 hp he3479 hk3480
   obtain ⟨r3458, s3459, d3460⟩ := st
   obtain ⟨hdd, hp⟩ := hp
   replace hdd : d3460 = false := hdd
   subst hdd
   obtain ⟨L3456, L3457, Y3461, rk3462⟩ := hA
   replace L3456 : Lb F3471 f3469 τ3470 m20 1 m.nxt 1 [(.fn (.yield ly) [] [])] := L3456
   replace L3457 : Lb F3471 f3469 τ3470 m20 3 m7.nxt 1 [(.int .i64 a3406)] := L3457
   replace Y3461 : Yg n0 (YJ xs I r3458) s3459 F3471 f3469 τ3470 m20 := Y3461
   replace rk3462 : Rk F3471 f3469 τ3470 m20 2 (m4).nxt o3439 := rk3462
   replace hp : pchoicesI_L1 s a3406 ((pchoicesI_L0 s q3407)) (a3467 :: q3468) = some r3458 := hp
   rw [pchoicesI_L1] at hp
   refine ⟨_, rfl, ?_⟩
   intro m24 e3481
   obtain ⟨τ3484, S3482, k3483, L3485⟩ := S3476.blk e3481 τ3470 5
   have L3486 := L3456.k k3483 (by decide)
   have L3487 := L3457.k k3483 (by decide)
   have Y3488 := Y3461.k k3483 (by decide)
   have rk3489 := rk3478.k k3483 (by decide)
   have rk3490 := rk3462.k k3483 (by decide)
   obtain ⟨m3494, e3493, S3491, k3492, L3495⟩ := L3485.sto S3482 [(.int .i64 a3467)]
   have L3496 := L3486.k k3492 (by decide)
   have L3497 := L3487.k k3492 (by decide)
   have Y3498 := Y3488.k k3492 (by decide)
   have rk3499 := rk3489.k k3492 (by decide)
   have rk3500 := rk3490.k k3492 (by decide)
   refine ⟨m3494, e3493, ?_⟩
   refine he3479 _ _ _ _ S3491 rk3499 fun m26 o3504 S3501 k3502 rk3503 hO3505 => ?_
   have L3506 := L3496.k k3502 (by decide)
   have L3507 := L3497.k k3502 (by decide)
   have L3508 := L3495.k k3502 (by decide)
   have Y3509 := Y3498.k k3502 (by decide)
   have rk3510 := rk3500.k k3502 (by decide)
   refine ⟨trivial, _, _, (hb0.sub (Sub.trans (Sub.trans (Sub.trans (Sub.trans k3390.fs s3416) k3447.fs) s3477) S3501.sub)).rp (k := 7) (j := 2) rfl (by omega), ?_⟩
   obtain ⟨r3511, g3512, hp⟩ := bsome hp
   refine s_numbers (r := s.Half) S3501.pre  g3512 fun m30 f3516 c3517 e3515 h3518 => ?_
   obtain ⟨S3513, k3514⟩ := S3501.callG e3515 τ3484
   have L3519 := L3506.k k3514 (by decide)
   have L3520 := L3507.k k3514 (by decide)
   have L3521 := L3508.k k3514 (by decide)
   have Y3522 := Y3509.k k3514 (by decide)
   have rk3523 := rk3503.k k3514 (by decide)
   have rk3524 := rk3510.k k3514 (by decide)
   refine ⟨_, rfl, ?_⟩
   refine range_st (α := Int) S3513 h3518 (σ := (List Trh) × (Nat → Prop) × Bool) 6 (fun st bb => (False ∨ (False ∨ (False ∨ ((st.2.1 bb) ∨ (False ∨ False)))))) (fun st gG gF gT gM => (Lb gG gF gT gM 1 m.nxt 1 [(.fn (.yield ly) [] [])]) ∧ (Lb gG gF gT gM 3 m7.nxt 1 [(.int .i64 a3406)]) ∧ (Lb gG gF gT gM 5 m20.nxt 1 [(.int .i64 a3467)]) ∧ (Yg n0 (YD xs I E st.2.2 st.1) st.2.1 gG gF gT gM) ∧ (Rk gG gF gT gM 2 (m4).nxt o3439) ∧ (Rk gG gF gT gM 4 (m17).nxt o3504)) (fun rr_ st => st.2.2 = false ∧ pchoicesI_L2 s a3406 a3467 ((pchoicesI_L1 s a3406 ((pchoicesI_L0 s q3407)) q3468)) rr_ = some st.1) (fun ex st => (match ex with | .ret => st.2.2 = true ∨ (st.2.2 = false ∧ (0 : Nat) = 0 ∧ pchoicesI_L2_xret = some st.1) | _ => False)) (fun st => (Gud.and (Gud.lb L3519.bk.lt (by decide)) (Gud.and (Gud.lb L3520.bk.lt (by decide)) (Gud.and (Gud.lb L3521.bk.lt (by decide)) (Gud.and (Gud.yg Y3522.n (by decide)) (Gud.and (Gud.rk rk3524.lt (by decide)) (Gud.rk rk3523.lt (by decide)))))))) (st0 := (r3458, s3459, false)) (τ := τ3484) ⟨L3519, L3520, L3521, Y3522, rk3524, rk3523⟩ ⟨rfl, hp⟩ ?_ ?_ ?_ ?_
   ·intro a3538 q3539 st f3540 τ3541 m33 F3542 o3543 Ok3544 en3545 Kn3546 S3547 s3548 hA rk3549 hp he3550 hk3551
    obtain ⟨r3528, s3529, d3530⟩ := st
    obtain ⟨hdd, hp⟩ := hp
    replace hdd : d3530 = false := hdd
    subst hdd
    obtain ⟨L3525, L3526, L3527, Y3531, rk3532, rk3533⟩ := hA
    replace L3525 : Lb F3542 f3540 τ3541 m33 1 m.nxt 1 [(.fn (.yield ly) [] [])] := L3525
    replace L3526 : Lb F3542 f3540 τ3541 m33 3 m7.nxt 1 [(.int .i64 a3406)] := L3526
    replace L3527 : Lb F3542 f3540 τ3541 m33 5 m20.nxt 1 [(.int .i64 a3467)] := L3527
    replace Y3531 : Yg n0 (YJ xs I r3528) s3529 F3542 f3540 τ3541 m33 := Y3531
    replace rk3532 : Rk F3542 f3540 τ3541 m33 2 (m4).nxt o3439 := rk3532
    replace rk3533 : Rk F3542 f3540 τ3541 m33 4 (m17).nxt o3504 := rk3533
    replace hp : pchoicesI_L2 s a3406 a3467 ((pchoicesI_L1 s a3406 ((pchoicesI_L0 s q3407)) q3468)) (a3538 :: q3539) = some r3528 := hp
    rw [pchoicesI_L2] at hp
    refine ⟨_, rfl, ?_⟩
    intro m37 e3552
    obtain ⟨τ3555, S3553, k3554, L3556⟩ := S3547.blk e3552 τ3541 7
    have L3557 := L3525.k k3554 (by decide)
    have L3558 := L3526.k k3554 (by decide)
    have L3559 := L3527.k k3554 (by decide)
    have Y3560 := Y3531.k k3554 (by decide)
    have rk3561 := rk3549.k k3554 (by decide)
    have rk3562 := rk3532.k k3554 (by decide)
    have rk3563 := rk3533.k k3554 (by decide)
    obtain ⟨m3567, e3566, S3564, k3565, L3568⟩ := L3556.sto S3553 [(.int .i64 a3538)]
    have L3569 := L3557.k k3565 (by decide)
    have L3570 := L3558.k k3565 (by decide)
    have L3571 := L3559.k k3565 (by decide)
    have Y3572 := Y3560.k k3565 (by decide)
    have rk3573 := rk3561.k k3565 (by decide)
    have rk3574 := rk3562.k k3565 (by decide)
    have rk3575 := rk3563.k k3565 (by decide)
    refine ⟨m3567, e3566, ?_⟩
    refine he3550 _ _ _ _ S3564 rk3573 fun m39 o3579 S3576 k3577 rk3578 hO3580 => ?_
    have L3581 := L3569.k k3577 (by decide)
    have L3582 := L3570.k k3577 (by decide)
    have L3583 := L3571.k k3577 (by decide)
    have L3584 := L3568.k k3577 (by decide)
    have Y3585 := Y3572.k k3577 (by decide)
    have rk3586 := rk3574.k k3577 (by decide)
    have rk3587 := rk3575.k k3577 (by decide)
    refine ⟨trivial, _, _, (hb0.sub (Sub.trans (Sub.trans (Sub.trans (Sub.trans (Sub.trans (Sub.trans k3390.fs s3416) k3447.fs) s3477) k3514.fs) s3548) S3576.sub)).rp (k := 9) (j := 2) rfl (by omega), ?_⟩
    obtain ⟨r3588, g3589, hp⟩ := bsome hp
    refine s_numbers (r := s.Peak) S3576.pre  g3589 fun m43 f3593 c3594 e3592 h3595 => ?_
    obtain ⟨S3590, k3591⟩ := S3576.callG e3592 τ3555
    have L3596 := L3581.k k3591 (by decide)
    have L3597 := L3582.k k3591 (by decide)
    have L3598 := L3583.k k3591 (by decide)
    have L3599 := L3584.k k3591 (by decide)
    have Y3600 := Y3585.k k3591 (by decide)
    have rk3601 := rk3578.k k3591 (by decide)
    have rk3602 := rk3586.k k3591 (by decide)
    have rk3603 := rk3587.k k3591 (by decide)
    refine ⟨_, rfl, ?_⟩
    refine range_st (α := Int) S3590 h3595 (σ := (List Trh) × (Nat → Prop) × Bool) 8 (fun st bb => (False ∨ (False ∨ (False ∨ (False ∨ ((st.2.1 bb) ∨ (False ∨ (False ∨ False)))))))) (fun st gG gF gT gM => (Lb gG gF gT gM 1 m.nxt 1 [(.fn (.yield ly) [] [])]) ∧ (Lb gG gF gT gM 3 m7.nxt 1 [(.int .i64 a3406)]) ∧ (Lb gG gF gT gM 5 m20.nxt 1 [(.int .i64 a3467)]) ∧ (Lb gG gF gT gM 7 m33.nxt 1 [(.int .i64 a3538)]) ∧ (Yg n0 (YD xs I E st.2.2 st.1) st.2.1 gG gF gT gM) ∧ (Rk gG gF gT gM 2 (m4).nxt o3439) ∧ (Rk gG gF gT gM 4 (m17).nxt o3504) ∧ (Rk gG gF gT gM 6 (m30).nxt o3579)) (fun rr_ st => st.2.2 = false ∧ pchoicesI_L3 a3406 a3467 a3538 ((pchoicesI_L2 s a3406 a3467 ((pchoicesI_L1 s a3406 ((pchoicesI_L0 s q3407)) q3468)) q3539)) rr_ = some st.1) (fun ex st => (match ex with | .ret => st.2.2 = true ∨ (st.2.2 = false ∧ (0 : Nat) = 0 ∧ pchoicesI_L3_xret = some st.1) | _ => False)) (fun st => (Gud.and (Gud.lb L3596.bk.lt (by decide)) (Gud.and (Gud.lb L3597.bk.lt (by decide)) (Gud.and (Gud.lb L3598.bk.lt (by decide)) (Gud.and (Gud.lb L3599.bk.lt (by decide)) (Gud.and (Gud.yg Y3600.n (by decide)) (Gud.and (Gud.rk rk3602.lt (by decide)) (Gud.and (Gud.rk rk3603.lt (by decide)) (Gud.rk rk3601.lt (by decide)))))))))) (st0 := (r3528, s3529, false)) (τ := τ3555) ⟨L3596, L3597, L3598, L3599, Y3600, rk3602, rk3603, rk3601⟩ ⟨rfl, hp⟩ ?_ ?_ ?_ ?_
    ·intro a3619 q3620 st f3621 τ3622 m46 F3623 o3624 Ok3625 en3626 Kn3627 S3628 s3629 hA rk3630 hp he3631 hk3632
     obtain ⟨r3608, s3609, d3610⟩ := st
     obtain ⟨hdd, hp⟩ := hp
     replace hdd : d3610 = false := hdd
     subst hdd
     obtain ⟨L3604, L3605, L3606, L3607, Y3611, rk3612, rk3613, rk3614⟩ := hA
     replace L3604 : Lb F3623 f3621 τ3622 m46 1 m.nxt 1 [(.fn (.yield ly) [] [])] := L3604
     replace L3605 : Lb F3623 f3621 τ3622 m46 3 m7.nxt 1 [(.int .i64 a3406)] := L3605
     replace L3606 : Lb F3623 f3621 τ3622 m46 5 m20.nxt 1 [(.int .i64 a3467)] := L3606
     replace L3607 : Lb F3623 f3621 τ3622 m46 7 m33.nxt 1 [(.int .i64 a3538)] := L3607
     replace Y3611 : Yg n0 (YJ xs I r3608) s3609 F3623 f3621 τ3622 m46 := Y3611
     replace rk3612 : Rk F3623 f3621 τ3622 m46 2 (m4).nxt o3439 := rk3612
     replace rk3613 : Rk F3623 f3621 τ3622 m46 4 (m17).nxt o3504 := rk3613
     replace rk3614 : Rk F3623 f3621 τ3622 m46 6 (m30).nxt o3579 := rk3614
     replace hp : pchoicesI_L3 a3406 a3467 a3538 ((pchoicesI_L2 s a3406 a3467 ((pchoicesI_L1 s a3406 ((pchoicesI_L0 s q3407)) q3468)) q3539)) (a3619 :: q3620) = some r3608 := hp
     rw [pchoicesI_L3] at hp
     refine ⟨_, rfl, ?_⟩
     refine he3631 _ _ _ _ S3628 rk3630 fun m50 o3636 S3633 k3634 rk3635 hO3637 => ?_
     have L3638 := L3604.k k3634 (by decide)
     have L3639 := L3605.k k3634 (by decide)
     have L3640 := L3606.k k3634 (by decide)
     have L3641 := L3607.k k3634 (by decide)
     have Y3642 := Y3611.k k3634 (by decide)
     have rk3643 := rk3612.k k3634 (by decide)
     have rk3644 := rk3613.k k3634 (by decide)
     have rk3645 := rk3614.k k3634 (by decide)
     refine ⟨_, L3638.bk.rc rfl, _, L3639.bk.rc rfl, _, L3640.bk.rc rfl, _, L3641.bk.rc rfl, ?_⟩
     obtain ⟨r3646, hp3648, hz3647⟩ := bsome hp
     clear hp
     obtain rfl := Option.some.inj hz3647
     have hp := hp3648
     show Wy prog tbl ly (IV.encs (({ A := a3406, B := a3467, Half := a3538, Peak := a3619 } : Trh) : Trh)) _ _
     refine Yg.yield hc S3633 Y3642 ?_ ?_
     ·intro m56 τ3649 s3653 S3650 k3651 Y3652
      have L3654 := L3638.k k3651 (by decide)
      have L3655 := L3639.k k3651 (by decide)
      have L3656 := L3640.k k3651 (by decide)
      have L3657 := L3641.k k3651 (by decide)
      have rk3658 := rk3635.k k3651 (by decide)
      have rk3659 := rk3643.k k3651 (by decide)
      have rk3660 := rk3644.k k3651 (by decide)
      have rk3661 := rk3645.k k3651 (by decide)
      refine ⟨_, rfl, ?_⟩
      refine ifB_f' ?_
      exact hk3632 .nrm (r3646, s3653, false) _ _ _ _ S3650 ⟨L3654, L3655, L3656, L3657, Y3652, rk3659, rk3660, rk3661⟩ rk3658 hO3637 ⟨rfl, hp⟩
     ·intro m56 τ3662 s3666 S3663 k3664 Y3665
      have L3667 := L3638.k k3664 (by decide)
      have L3668 := L3639.k k3664 (by decide)
      have L3669 := L3640.k k3664 (by decide)
      have L3670 := L3641.k k3664 (by decide)
      have rk3671 := rk3635.k k3664 (by decide)
      have rk3672 := rk3643.k k3664 (by decide)
      have rk3673 := rk3644.k k3664 (by decide)
      have rk3674 := rk3645.k k3664 (by decide)
      refine ⟨_, rfl, ?_⟩
      refine ifB_t' ?_
      exact hk3632 .ret ([], s3666, true) _ _ _ _ S3663 ⟨L3667, L3668, L3669, L3670, Y3665, rk3672, rk3673, rk3674⟩ rk3671 hO3637 (.inl rfl)
    ·intro st f3675 τ3677 m58 S3678 s3676 hA hp
     obtain ⟨r3608, s3609, d3610⟩ := st
     obtain ⟨hdd, hp⟩ := hp
     replace hdd : d3610 = false := hdd
     subst hdd
     replace hp : pchoicesI_L3 a3406 a3467 a3538 ((pchoicesI_L2 s a3406 a3467 ((pchoicesI_L1 s a3406 ((pchoicesI_L0 s q3407)) q3468)) q3539)) [] = some r3608 := hp
     obtain ⟨L3604, L3605, L3606, L3607, Y3611, rk3612, rk3613, rk3614⟩ := hA
     replace L3604 : Lb F3542 f3675 τ3677 m58 1 m.nxt 1 [(.fn (.yield ly) [] [])] := L3604
     replace L3605 : Lb F3542 f3675 τ3677 m58 3 m7.nxt 1 [(.int .i64 a3406)] := L3605
     replace L3606 : Lb F3542 f3675 τ3677 m58 5 m20.nxt 1 [(.int .i64 a3467)] := L3606
     replace L3607 : Lb F3542 f3675 τ3677 m58 7 m33.nxt 1 [(.int .i64 a3538)] := L3607
     replace Y3611 : Yg n0 (YJ xs I r3608) s3609 F3542 f3675 τ3677 m58 := Y3611
     replace rk3612 : Rk F3542 f3675 τ3677 m58 2 (m4).nxt o3439 := rk3612
     replace rk3613 : Rk F3542 f3675 τ3677 m58 4 (m17).nxt o3504 := rk3613
     replace rk3614 : Rk F3542 f3675 τ3677 m58 6 (m30).nxt o3579 := rk3614
     rw [pchoicesI_L3] at hp
     exact hk3551 .nrm (r3608, s3609, false) _ _ _ _ S3678 ⟨L3604, L3605, L3606, Y3611, rk3612, rk3613⟩ rk3614 hO3580 ⟨rfl, hp⟩
    ·intro id st _ _ _ _ _ _ hn; first | exact hn.elim | (cases hn)
    ·intro st f3615 τ3617 m59 S3618 s3616 hA hn
     obtain ⟨r3608, s3609, d3610⟩ := st
     rcases hn with hd | ⟨hd, hid, hp⟩
     ·replace hd : d3610 = true := hd
      subst hd
      obtain ⟨L3604, L3605, L3606, L3607, Y3611, rk3612, rk3613, rk3614⟩ := hA
      replace L3604 : Lb F3542 f3615 τ3617 m59 1 m.nxt 1 [(.fn (.yield ly) [] [])] := L3604
      replace L3605 : Lb F3542 f3615 τ3617 m59 3 m7.nxt 1 [(.int .i64 a3406)] := L3605
      replace L3606 : Lb F3542 f3615 τ3617 m59 5 m20.nxt 1 [(.int .i64 a3467)] := L3606
      replace L3607 : Lb F3542 f3615 τ3617 m59 7 m33.nxt 1 [(.int .i64 a3538)] := L3607
      replace Y3611 : Yg n0 E s3609 F3542 f3615 τ3617 m59 := Y3611
      replace rk3612 : Rk F3542 f3615 τ3617 m59 2 (m4).nxt o3439 := rk3612
      replace rk3613 : Rk F3542 f3615 τ3617 m59 4 (m17).nxt o3504 := rk3613
      replace rk3614 : Rk F3542 f3615 τ3617 m59 6 (m30).nxt o3579 := rk3614
      exact hk3551 .ret ([], s3609, true) _ _ _ _ S3618 ⟨L3604, L3605, L3606, Y3611, rk3612, rk3613⟩ rk3614 hO3580 (.inl rfl)
     replace hd : d3610 = false := hd
     subst hd
     replace hp : pchoicesI_L3_xret = some r3608 := hp
     unfold pchoicesI_L3_xret at hp
     obtain ⟨L3604, L3605, L3606, L3607, Y3611, rk3612, rk3613, rk3614⟩ := hA
     replace L3604 : Lb F3542 f3615 τ3617 m59 1 m.nxt 1 [(.fn (.yield ly) [] [])] := L3604
     replace L3605 : Lb F3542 f3615 τ3617 m59 3 m7.nxt 1 [(.int .i64 a3406)] := L3605
     replace L3606 : Lb F3542 f3615 τ3617 m59 5 m20.nxt 1 [(.int .i64 a3467)] := L3606
     replace L3607 : Lb F3542 f3615 τ3617 m59 7 m33.nxt 1 [(.int .i64 a3538)] := L3607
     replace Y3611 : Yg n0 (YJ xs I r3608) s3609 F3542 f3615 τ3617 m59 := Y3611
     replace rk3612 : Rk F3542 f3615 τ3617 m59 2 (m4).nxt o3439 := rk3612
     replace rk3613 : Rk F3542 f3615 τ3617 m59 4 (m17).nxt o3504 := rk3613
     replace rk3614 : Rk F3542 f3615 τ3617 m59 6 (m30).nxt o3579 := rk3614
     exact hk3551 .ret (r3608, s3609, false) _ _ _ _ S3618 ⟨L3604, L3605, L3606, Y3611, rk3612, rk3613⟩ rk3614 hO3580 (.inr ⟨rfl, rfl, hp⟩)
   ·intro st f3679 τ3681 m60 S3682 s3680 hA hp
    obtain ⟨r3528, s3529, d3530⟩ := st
    obtain ⟨hdd, hp⟩ := hp
    replace hdd : d3530 = false := hdd
    subst hdd
    replace hp : pchoicesI_L2 s a3406 a3467 ((pchoicesI_L1 s a3406 ((pchoicesI_L0 s q3407)) q3468)) [] = some r3528 := hp
    obtain ⟨L3525, L3526, L3527, Y3531, rk3532, rk3533⟩ := hA
    replace L3525 : Lb F3471 f3679 τ3681 m60 1 m.nxt 1 [(.fn (.yield ly) [] [])] := L3525
    replace L3526 : Lb F3471 f3679 τ3681 m60 3 m7.nxt 1 [(.int .i64 a3406)] := L3526
    replace L3527 : Lb F3471 f3679 τ3681 m60 5 m20.nxt 1 [(.int .i64 a3467)] := L3527
    replace Y3531 : Yg n0 (YJ xs I r3528) s3529 F3471 f3679 τ3681 m60 := Y3531
    replace rk3532 : Rk F3471 f3679 τ3681 m60 2 (m4).nxt o3439 := rk3532
    replace rk3533 : Rk F3471 f3679 τ3681 m60 4 (m17).nxt o3504 := rk3533
    rw [pchoicesI_L2] at hp
    exact hk3480 .nrm (r3528, s3529, false) _ _ _ _ S3682 ⟨L3525, L3526, Y3531, rk3532⟩ rk3533 hO3505 ⟨rfl, hp⟩
   ·intro id st _ _ _ _ _ _ hn; first | exact hn.elim | (cases hn)
   ·intro st f3534 τ3536 m61 S3537 s3535 hA hn
    obtain ⟨r3528, s3529, d3530⟩ := st
    rcases hn with hd | ⟨hd, hid, hp⟩
    ·replace hd : d3530 = true := hd
     subst hd
     obtain ⟨L3525, L3526, L3527, Y3531, rk3532, rk3533⟩ := hA
     replace L3525 : Lb F3471 f3534 τ3536 m61 1 m.nxt 1 [(.fn (.yield ly) [] [])] := L3525
     replace L3526 : Lb F3471 f3534 τ3536 m61 3 m7.nxt 1 [(.int .i64 a3406)] := L3526
     replace L3527 : Lb F3471 f3534 τ3536 m61 5 m20.nxt 1 [(.int .i64 a3467)] := L3527
     replace Y3531 : Yg n0 E s3529 F3471 f3534 τ3536 m61 := Y3531
     replace rk3532 : Rk F3471 f3534 τ3536 m61 2 (m4).nxt o3439 := rk3532
     replace rk3533 : Rk F3471 f3534 τ3536 m61 4 (m17).nxt o3504 := rk3533
     exact hk3480 .ret ([], s3529, true) _ _ _ _ S3537 ⟨L3525, L3526, Y3531, rk3532⟩ rk3533 hO3505 (.inl rfl)
    replace hd : d3530 = false := hd
    subst hd
    replace hp : pchoicesI_L2_xret = some r3528 := hp
    unfold pchoicesI_L2_xret at hp
    obtain ⟨L3525, L3526, L3527, Y3531, rk3532, rk3533⟩ := hA
    replace L3525 : Lb F3471 f3534 τ3536 m61 1 m.nxt 1 [(.fn (.yield ly) [] [])] := L3525
    replace L3526 : Lb F3471 f3534 τ3536 m61 3 m7.nxt 1 [(.int .i64 a3406)] := L3526
    replace L3527 : Lb F3471 f3534 τ3536 m61 5 m20.nxt 1 [(.int .i64 a3467)] := L3527
    replace Y3531 : Yg n0 (YJ xs I r3528) s3529 F3471 f3534 τ3536 m61 := Y3531
    replace rk3532 : Rk F3471 f3534 τ3536 m61 2 (m4).nxt o3439 := rk3532
    replace rk3533 : Rk F3471 f3534 τ3536 m61 4 (m17).nxt o3504 := rk3533
    exact hk3480 .ret (r3528, s3529, false) _ _ _ _ S3537 ⟨L3525, L3526, Y3531, rk3532⟩ rk3533 hO3505 (.inr ⟨rfl, rfl, hp⟩)
  ·intro st f3683 τ3685 m62 S3686 s3684 hA hp
   obtain ⟨r3458, s3459, d3460⟩ := st
   obtain ⟨hdd, hp⟩ := hp
   replace hdd : d3460 = false := hdd
   subst hdd
   replace hp : pchoicesI_L1 s a3406 ((pchoicesI_L0 s q3407)) [] = some r3458 := hp
   obtain ⟨L3456, L3457, Y3461, rk3462⟩ := hA
   replace L3456 : Lb F3410 f3683 τ3685 m62 1 m.nxt 1 [(.fn (.yield ly) [] [])] := L3456
   replace L3457 : Lb F3410 f3683 τ3685 m62 3 m7.nxt 1 [(.int .i64 a3406)] := L3457
   replace Y3461 : Yg n0 (YJ xs I r3458) s3459 F3410 f3683 τ3685 m62 := Y3461
   replace rk3462 : Rk F3410 f3683 τ3685 m62 2 (m4).nxt o3439 := rk3462
   rw [pchoicesI_L1] at hp
   exact hk3419 .nrm (r3458, s3459, false) _ _ _ _ S3686 ⟨L3456, Y3461⟩ rk3462 hO3440 ⟨rfl, hp⟩
  ·intro id st _ _ _ _ _ _ hn; first | exact hn.elim | (cases hn)
  ·intro st f3463 τ3465 m63 S3466 s3464 hA hn
   obtain ⟨r3458, s3459, d3460⟩ := st
   rcases hn with hd | ⟨hd, hid, hp⟩
   ·replace hd : d3460 = true := hd
    subst hd
    obtain ⟨L3456, L3457, Y3461, rk3462⟩ := hA
    replace L3456 : Lb F3410 f3463 τ3465 m63 1 m.nxt 1 [(.fn (.yield ly) [] [])] := L3456
    replace L3457 : Lb F3410 f3463 τ3465 m63 3 m7.nxt 1 [(.int .i64 a3406)] := L3457
    replace Y3461 : Yg n0 E s3459 F3410 f3463 τ3465 m63 := Y3461
    replace rk3462 : Rk F3410 f3463 τ3465 m63 2 (m4).nxt o3439 := rk3462
    exact hk3419 .ret ([], s3459, true) _ _ _ _ S3466 ⟨L3456, Y3461⟩ rk3462 hO3440 (.inl rfl)
   replace hd : d3460 = false := hd
   subst hd
   replace hp : pchoicesI_L1_xret = some r3458 := hp
   unfold pchoicesI_L1_xret at hp
   obtain ⟨L3456, L3457, Y3461, rk3462⟩ := hA
   replace L3456 : Lb F3410 f3463 τ3465 m63 1 m.nxt 1 [(.fn (.yield ly) [] [])] := L3456
   replace L3457 : Lb F3410 f3463 τ3465 m63 3 m7.nxt 1 [(.int .i64 a3406)] := L3457
   replace Y3461 : Yg n0 (YJ xs I r3458) s3459 F3410 f3463 τ3465 m63 := Y3461
   replace rk3462 : Rk F3410 f3463 τ3465 m63 2 (m4).nxt o3439 := rk3462
   exact hk3419 .ret (r3458, s3459, false) _ _ _ _ S3466 ⟨L3456, Y3461⟩ rk3462 hO3440 (.inr ⟨rfl, rfl, hp⟩)
 ·intro st f3687 τ3689 m64 S3690 s3688 hA hp
  obtain ⟨r3398, s3399, d3400⟩ := st
  obtain ⟨hdd, hp⟩ := hp
  replace hdd : d3400 = false := hdd
  subst hdd
  replace hp : pchoicesI_L0 s [] = some r3398 := hp
  obtain ⟨L3397, Y3401⟩ := hA
  replace L3397 : Lb F f3687 τ3689 m64 1 m.nxt 1 [(.fn (.yield ly) [] [])] := L3397
  replace Y3401 : Yg n0 (YJ xs I r3398) s3399 F f3687 τ3689 m64 := Y3401
  rw [pchoicesI_L0] at hp
  obtain rfl := Option.some.inj hp
  exact hq _ _ _ _ _ S3690 (.inl Y3401)
 ·intro id st _ _ _ _ _ _ hn; first | exact hn.elim | (cases hn)
 ·intro st f3402 τ3404 m65 S3405 s3403 hA hn
  obtain ⟨r3398, s3399, d3400⟩ := st
  rcases hn with hd | ⟨hd, hid, hp⟩
  ·replace hd : d3400 = true := hd
   subst hd
   obtain ⟨L3397, Y3401⟩ := hA
   replace L3397 : Lb F f3402 τ3404 m65 1 m.nxt 1 [(.fn (.yield ly) [] [])] := L3397
   replace Y3401 : Yg n0 E s3399 F f3402 τ3404 m65 := Y3401
   exact hq _ _ _ _ _ S3405 (.inr Y3401)
  replace hd : d3400 = false := hd
  subst hd
  replace hp : pchoicesI_L0_xret = some r3398 := hp
  unfold pchoicesI_L0_xret at hp
  obtain ⟨L3397, Y3401⟩ := hA
  replace L3397 : Lb F f3402 τ3404 m65 1 m.nxt 1 [(.fn (.yield ly) [] [])] := L3397
  replace Y3401 : Yg n0 (YJ xs I r3398) s3399 F f3402 τ3404 m65 := Y3401
  obtain rfl := Option.some.inj hp
  exact hq _ _ _ _ _ S3405 (.inl Y3401)
theorem s_choices {s : Stm} {ca111 : C} {m f : M} {Q : V → M → Prop} {rz : List Trh} (hS : Pre f m) (ha111 : Sl f ca111 s.Cards) (hp : pchoices s = some rz) (hq : ∀ m' f' c0, Grw m f m' f' → It prog tbl f' c0 rz → Q (.c c0) m') : Wc prog tbl 116 [.agg 12 [(Il s.Wide), (Il s.High), (Il s.Fall), (Il s.A.Lo), (Il s.A.Hi), (Il s.B.Lo), (Il s.B.Hi), (Il s.Half.Lo), (Il s.Half.Hi), (Il s.Peak.Lo), (Il s.Peak.Hi), ca111]] m Q := by
 have q := hS.st
 obtain ⟨r, _⟩ : ∃ τ : Nat → Nat, True := ⟨fun _ => 0, trivial⟩
 refine w116 ?_
 unfold pchoices at hp
 intro t g
 obtain ⟨o, h, p, i⟩ := q.blk g r 1
 obtain ⟨b, a, j, d⟩ := i.freeze h
 obtain ⟨l, n, hp⟩ := bsome hp
 have e : It prog tbl b ((C.fn (Fn.func 130) [] [(W.c (C0.ptr m.nxt 0))])) l := it_of a.fz a.fv fun u ly I E hc x y z D hS hY Q hq => s_choicesI hc hS hY d (ha111.sub j.fs) n hq
 obtain rfl := Option.some.inj hp
 exact hq _ b (C.fn (Fn.func 130) [] [(W.c (C0.ptr m.nxt 0))]) a.grw e
theorem s_open {s : Stm} {ca111 : C} {m f : M} {Q : V → M → Prop} {rz : Wk} (hS : Pre f m) (ha111 : Sl f ca111 s.Cards) (hp : popen s = some rz) (hq : ∀ m' f' c11 c12, Grw m f m' f' → Sl f' c11 rz.s.Cards → Mi f' c12 rz.right → Q (.agg 13 [(Il rz.s.Wide), (Il rz.s.High), (Il rz.s.Fall), (Il rz.s.A.Lo), (Il rz.s.A.Hi), (Il rz.s.B.Lo), (Il rz.s.B.Hi), (Il rz.s.Half.Lo), (Il rz.s.Half.Hi), (Il rz.s.Peak.Lo), (Il rz.s.Peak.Hi), c11, c12]) m') : Wc prog tbl 81 [.agg 12 [(Il s.Wide), (Il s.High), (Il s.Fall), (Il s.A.Lo), (Il s.A.Hi), (Il s.B.Lo), (Il s.B.Hi), (Il s.Half.Lo), (Il s.Half.Hi), (Il s.Peak.Lo), (Il s.Peak.Hi), ca111]] m Q := by
 have S0 := hS.st
 obtain ⟨τ0, _⟩ : ∃ τ : Nat → Nat, True := ⟨fun _ => 0, trivial⟩
 refine w81 ?_
 unfold popen at hp
 intro m0 va
 obtain ⟨wa, xa, ec, ya⟩ := S0.blk va τ0 1
 intro D za
 obtain ⟨Aa, Ba, Ca, Da⟩ := xa.blk za wa 2
 have N := ya.k Ca
 refine ⟨_, _, _, _, _, _, _, _, _, _, _, _, N.bk.ra, ?_⟩
 intro ia Ea
 obtain ⟨Fa, Ga, O, Ha⟩ := Mo.new (K := Trh) (V' := Cds) Ba Ea Aa 3
 have Ia := N.k O
 have Ja := Da.k O
 intro oc Ka
 obtain ⟨P, La, F, Ma⟩ := Ga.blk Ka Fa 4
 have Na := Ia.k F
 have Oa := Ja.k F
 have Pa := Ha.k F
 obtain ⟨Qa, Ra, S, G, T⟩ := Ma.sto La [(Il s.Wide), (Il s.High), (Il s.Fall), (Il s.A.Lo), (Il s.A.Hi), (Il s.B.Lo), (Il s.B.Hi), (Il s.Half.Lo), (Il s.Half.Hi), (Il s.Peak.Lo), (Il s.Peak.Hi), ca111, (.map D.nxt)]
 have Sa := Na.k G
 have Ta := Oa.k G
 have Ua := Pa.k G
 refine ⟨Qa, Ra, ?_⟩
 refine ⟨trivial, _, _, _, _, _, _, _, _, _, _, _, _, T.bk.rp (k := 0) (j := 12) rfl (by omega), ?_⟩
 obtain ⟨fc, Va, hp⟩ := bsome hp
 refine s_choices (s := s) S.pre ha111 Va fun pc gc hc Wa Xa => ?_
 obtain ⟨Ya, g⟩ := S.callG Wa P
 have Y := Sa.k g
 have Z := Ta.k g
 have aa := T.k g
 have ba := Ua.k g
 refine ⟨_, rfl, ?_⟩
 refine range_st (α := Trh) Ya Xa (σ := (Option (Trh → Option (Cds)))) 5 (fun st bb => (False ∨ (False ∨ (False ∨ False)))) (fun st gG gF gT gM => (Lb gG gF gT gM 1 m.nxt 12 [(Il s.Wide), (Il s.High), (Il s.Fall), (Il s.A.Lo), (Il s.A.Hi), (Il s.B.Lo), (Il s.B.Hi), (Il s.Half.Lo), (Il s.Half.Hi), (Il s.Peak.Lo), (Il s.Peak.Hi), ca111]) ∧ (Lb gG gF gT gM 2 m0.nxt 13 [(Il 0), (Il 0), (Il 0), (Il 0), (Il 0), (Il 0), (Il 0), (Il 0), (Il 0), (Il 0), (Il 0), .sl0, C.map0]) ∧ (Lb gG gF gT gM 4 ia.nxt 13 [(Il s.Wide), (Il s.High), (Il s.Fall), (Il s.A.Lo), (Il s.A.Hi), (Il s.B.Lo), (Il s.B.Hi), (Il s.Half.Lo), (Il s.Half.Hi), (Il s.Peak.Lo), (Il s.Peak.Hi), ca111, (.map D.nxt)]) ∧ (Mo gG gF gT gM 3 (.map D.nxt) st)) (fun rr_ st => popen_L0 s rr_ st = some rz) (fun ex st => False) (fun st => (Gud.and (Gud.lb Y.bk.lt (by decide)) (Gud.and (Gud.lb Z.bk.lt (by decide)) (Gud.and (Gud.lb aa.bk.lt (by decide)) (Gud.mo ba.lt (by decide)))))) (st0 := ((some fun _ => none : Option (Trh → Option (Cds))))) (τ := P) ⟨Y, Z, aa, ba⟩ hp ?_ ?_ ?_ ?_
 ·intro a Za h r n ca u ic bc cc dc ab cb hA ja hp ka la
  obtain ⟨i, b, c, d⟩ := hA
  replace i : Lb u r n ca 1 m.nxt 12 [(Il s.Wide), (Il s.High), (Il s.Fall), (Il s.A.Lo), (Il s.A.Hi), (Il s.B.Lo), (Il s.B.Hi), (Il s.Half.Lo), (Il s.Half.Hi), (Il s.Peak.Lo), (Il s.Peak.Hi), ca111] := i
  replace b : Lb u r n ca 2 m0.nxt 13 [(Il 0), (Il 0), (Il 0), (Il 0), (Il 0), (Il 0), (Il 0), (Il 0), (Il 0), (Il 0), (Il 0), .sl0, C.map0] := b
  replace c : Lb u r n ca 4 ia.nxt 13 [(Il s.Wide), (Il s.High), (Il s.Fall), (Il s.A.Lo), (Il s.A.Hi), (Il s.B.Lo), (Il s.B.Hi), (Il s.Half.Lo), (Il s.Half.Hi), (Il s.Peak.Lo), (Il s.Peak.Hi), ca111, (.map D.nxt)] := c
  replace d : Mo u r n ca 3 (.map D.nxt) h := d
  replace hp : popen_L0 s (a :: Za) h = some rz := hp
  rw [popen_L0] at hp
  refine ⟨_, _, _, _, rfl, ?_⟩
  intro qc db
  obtain ⟨eb, fb, o, gb⟩ := ab.blk db n 6
  have hb := i.k o
  have ib := b.k o
  have jb := c.k o
  have kb := d.k o
  have ma := ja.k o
  obtain ⟨mb, nb, ob, p, pb⟩ := gb.sto fb [(Il a.A), (Il a.B), (Il a.Half), (Il a.Peak)]
  have qb := hb.k p
  have rb := ib.k p
  have sb := jb.k p
  have tb := kb.k p
  have na := ma.k p
  refine ⟨mb, nb, ?_⟩
  refine ka _ _ _ _ ob na fun sc jc da q oa pa => ?_
  have ub := qb.k q
  have vb := rb.k q
  have I := sb.k q
  have J := pb.k q
  have ea := tb.k q
  refine ⟨trivial, _, I.bk.rc rfl, _, _, _, _, J.bk.ra, _, _, _, _, _, _, _, _, _, _, _, _, _, I.bk.ra, _, _, _, _, J.bk.ra, ?_⟩
  obtain ⟨kc, wb, xb, qa⟩ := ea.freeze da
  obtain ⟨e, yb, hp⟩ := bsome hp
  refine s_rightCards (w := ({ s := s, right := h } : Wk)) (t := a) wb.pre (ha111.sub (Sub.trans (Sub.trans g.fs cb) xb.fs)) qa yb fun tc zb => ?_
  obtain ⟨Ab, l⟩ := da.call zb eb
  have Bb := ub.k l
  have Cb := vb.k l
  have fa := I.k l
  have Db := J.k l
  have ga := ea.k l
  have sa := oa.k l
  refine ⟨_, _, _, _, _, _, rfl, (Db.bk.ra), (by rw [show cmC _ = true from cmC_of (ga.mi.noFn)]; exact (fa.bk.rc rfl)), ?_⟩
  obtain ⟨Eb, hp⟩ := gd_some hp
  obtain ⟨Fb, Gb, hp⟩ := bsome hp
  obtain ⟨Hb, Ib, Jb, x, Kb⟩ := Mo.up kl43 Ab ga (k := a) Eb (v := e) Gb (kv := .agg 4 [(Il a.A), (Il a.B), (Il a.Half), (Il a.Peak)]) (yv := .agg 6 [(.bool e.c0), (.bool e.c1), (.bool e.c2), (.bool e.c3), (.bool e.c4), (.bool e.c5)]) rfl rfl
  have Mb := Bb.k x
  have Nb := Cb.k x
  have Ob := fa.k x
  have ta := sa.k x
  refine ⟨Hb, Ib, ?_⟩
  exact la .nrm (Fb) _ _ _ _ Jb ⟨Mb, Nb, Ob, Kb⟩ ta pa hp
 ·intro h y z ha Pb Qb hA hp
  replace hp : popen_L0 s [] h = some rz := hp
  obtain ⟨i, b, c, d⟩ := hA
  replace i : Lb (Fm.of m) y z ha 1 m.nxt 12 [(Il s.Wide), (Il s.High), (Il s.Fall), (Il s.A.Lo), (Il s.A.Hi), (Il s.B.Lo), (Il s.B.Hi), (Il s.Half.Lo), (Il s.Half.Hi), (Il s.Peak.Lo), (Il s.Peak.Hi), ca111] := i
  replace b : Lb (Fm.of m) y z ha 2 m0.nxt 13 [(Il 0), (Il 0), (Il 0), (Il 0), (Il 0), (Il 0), (Il 0), (Il 0), (Il 0), (Il 0), (Il 0), .sl0, C.map0] := b
  replace c : Lb (Fm.of m) y z ha 4 ia.nxt 13 [(Il s.Wide), (Il s.High), (Il s.Fall), (Il s.A.Lo), (Il s.A.Hi), (Il s.B.Lo), (Il s.B.Hi), (Il s.Half.Lo), (Il s.Half.Hi), (Il s.Peak.Lo), (Il s.Peak.Hi), ca111, (.map D.nxt)] := c
  replace d : Mo (Fm.of m) y z ha 3 (.map D.nxt) h := d
  rw [popen_L0] at hp
  refine ⟨_, _, _, _, _, _, _, _, _, _, _, _, _, c.bk.ra, ?_⟩
  obtain ⟨Rb, Sb, Tb, Ub, Vb⟩ := b.sto Pb [(Il s.Wide), (Il s.High), (Il s.Fall), (Il s.A.Lo), (Il s.A.Hi), (Il s.B.Lo), (Il s.B.Hi), (Il s.Half.Lo), (Il s.Half.Hi), (Il s.Peak.Lo), (Il s.Peak.Hi), ca111, (.map D.nxt)]
  have Wb := d.k Ub
  refine ⟨Rb, Sb, ?_⟩
  refine ⟨_, _, _, _, _, _, _, _, _, _, _, _, _, Vb.bk.ra, ?_⟩
  obtain ⟨Xb, Yb, Zb, ua⟩ := Wb.freeze Tb
  obtain rfl := Option.some.inj hp
  exact hq _ Xb ca111 (.map D.nxt) Yb.grw (ha111.sub (Sub.trans (Sub.trans g.fs Qb) Zb.fs)) ua
 ·intro id st _ _ _ _ _ _ hn; first | exact hn.elim | (cases hn)
 ·intro st _ _ _ _ _ _ hn; first | exact hn.elim | (cases hn)
theorem s_truthsI {w : Wk} {b0 : Nat} {cb011 cb012 : C} {m f : M} {F : Fm} {n0 ly : Nat} {xs : List (List V)} {I : Nat → (Nat → Prop) → M → Prop} {E : (Nat → Prop) → M → Prop} {S1 : Nat → Prop} {Q : V → M → Prop} {rz : List Trh} {τ0 : Nat → Nat} (hc : Client prog tbl n0 ly xs I E) (S0 : St F f f m) (Y0 : Yg n0 (YJ xs I rz) S1 F f τ0 m) (hb0 : Bk f b0 13 [(.int .i64 w.s.Wide), (.int .i64 w.s.High), (.int .i64 w.s.Fall), (.int .i64 w.s.A.Lo), (.int .i64 w.s.A.Hi), (.int .i64 w.s.B.Lo), (.int .i64 w.s.B.Hi), (.int .i64 w.s.Half.Lo), (.int .i64 w.s.Half.Hi), (.int .i64 w.s.Peak.Lo), (.int .i64 w.s.Peak.Hi), cb011, cb012]) (hb011 : Sl f cb011 w.s.Cards) (hb012 : Mi f cb012 w.right) (hp : ptruthsI w = some rz) (hq : ∀ v m' f' τ' S', St F f f' m' → (Yg n0 (YJ xs I ([] : List Trh)) S' F f' τ' m' ∨ Yg n0 E S' F f' τ' m') → Q v m') : Wc prog tbl 128 [.c (.fn (.yield ly) [] []), .c (.ptr b0 0)] m Q := by
 refine c128 ?_
 unfold ptruthsI at hp
 intro m0 e3850
 obtain ⟨τ3853, S3851, k3852, L3854⟩ := S0.blk e3850 τ0 1
 have Y3855 := Y0.k k3852 (by decide)
 refine ⟨_, _, _, _, _, _, _, _, _, _, _, _, _, (hb0.sub S3851.sub).ra, ?_⟩
 obtain ⟨r3856, g3857, hp⟩ := bsome hp
 refine s_allCards (w := w) S3851.pre hb011 hb012 g3857 fun m15 e3860 => ?_
 obtain ⟨S3858, k3859⟩ := S3851.call e3860 τ3853
 have L3861 := L3854.k k3859 (by decide)
 have Y3862 := Y3855.k k3859 (by decide)
 refine ⟨_, _, _, _, _, _, rfl, ?_⟩
 intro m22 e3863
 obtain ⟨τ3866, S3864, k3865, L3867⟩ := S3858.blk e3863 τ3853 2
 have L3868 := L3861.k k3865 (by decide)
 have Y3869 := Y3862.k k3865 (by decide)
 obtain ⟨m3873, e3872, S3870, k3871, L3874⟩ := L3867.sto S3864 [(.bool r3856.c0), (.bool r3856.c1), (.bool r3856.c2), (.bool r3856.c3), (.bool r3856.c4), (.bool r3856.c5)]
 have L3875 := L3868.k k3871 (by decide)
 have Y3876 := Y3869.k k3871 (by decide)
 refine ⟨m3873, e3872, ?_⟩
 refine ⟨trivial, _, _, _, _, _, _, _, _, _, _, _, _, (hb0.sub S3870.sub).rp (k := 0) (j := 12) rfl (by omega), ?_⟩
 obtain ⟨r3877, g3878, hp⟩ := bsome hp
 refine s_choices (s := w.s) S3870.pre hb011 g3878 fun m37 f3882 c3883 e3881 h3884 => ?_
 obtain ⟨S3879, k3880⟩ := S3870.callG e3881 τ3866
 have L3885 := L3875.k k3880 (by decide)
 have L3886 := L3874.k k3880 (by decide)
 have Y3887 := Y3876.k k3880 (by decide)
 refine ⟨_, rfl, ?_⟩
 refine range_st (α := Trh) S3879 h3884 (σ := (List Trh) × (Nat → Prop) × Bool) 3 (fun st bb => (False ∨ (False ∨ (st.2.1 bb)))) (fun st gG gF gT gM => (Lb gG gF gT gM 1 m.nxt 1 [(.fn (.yield ly) [] [])]) ∧ (Lb gG gF gT gM 2 m15.nxt 6 [(.bool r3856.c0), (.bool r3856.c1), (.bool r3856.c2), (.bool r3856.c3), (.bool r3856.c4), (.bool r3856.c5)]) ∧ (Yg n0 (YD xs I E st.2.2 st.1) st.2.1 gG gF gT gM)) (fun rr_ st => st.2.2 = false ∧ ptruthsI_L0 w r3856 rr_ = some st.1) (fun ex st => (match ex with | .ret => st.2.2 = true ∨ (st.2.2 = false ∧ (0 : Nat) = 0 ∧ ptruthsI_L0_xret = some st.1) | _ => False)) (fun st => (Gud.and (Gud.lb L3885.bk.lt (by decide)) (Gud.and (Gud.lb L3886.bk.lt (by decide)) (Gud.yg Y3887.n (by decide))))) (st0 := (rz, S1, false)) (τ := τ3866) ⟨L3885, L3886, Y3887⟩ ⟨rfl, hp⟩ ?_ ?_ ?_ ?_
 ·intro a3898 q3899 st f3900 τ3901 m40 F3902 o3903 Ok3904 en3905 Kn3906 S3907 s3908 hA rk3909 hp he3910 hk3911
  obtain ⟨r3890, s3891, d3892⟩ := st
  obtain ⟨hdd, hp⟩ := hp
  replace hdd : d3892 = false := hdd
  subst hdd
  obtain ⟨L3888, L3889, Y3893⟩ := hA
  replace L3888 : Lb F3902 f3900 τ3901 m40 1 m.nxt 1 [(.fn (.yield ly) [] [])] := L3888
  replace L3889 : Lb F3902 f3900 τ3901 m40 2 m15.nxt 6 [(.bool r3856.c0), (.bool r3856.c1), (.bool r3856.c2), (.bool r3856.c3), (.bool r3856.c4), (.bool r3856.c5)] := L3889
  replace Y3893 : Yg n0 (YJ xs I r3890) s3891 F3902 f3900 τ3901 m40 := Y3893
  replace hp : ptruthsI_L0 w r3856 (a3898 :: q3899) = some r3890 := hp
  rw [ptruthsI_L0] at hp
  refine ⟨_, _, _, _, rfl, ?_⟩
  intro m47 e3912
  obtain ⟨τ3915, S3913, k3914, L3916⟩ := S3907.blk e3912 τ3901 4
  have L3917 := L3888.k k3914 (by decide)
  have L3918 := L3889.k k3914 (by decide)
  have Y3919 := Y3893.k k3914 (by decide)
  have rk3920 := rk3909.k k3914 (by decide)
  obtain ⟨m3924, e3923, S3921, k3922, L3925⟩ := L3916.sto S3913 [(.int .i64 a3898.A), (.int .i64 a3898.B), (.int .i64 a3898.Half), (.int .i64 a3898.Peak)]
  have L3926 := L3917.k k3922 (by decide)
  have L3927 := L3918.k k3922 (by decide)
  have Y3928 := Y3919.k k3922 (by decide)
  have rk3929 := rk3920.k k3922 (by decide)
  refine ⟨m3924, e3923, ?_⟩
  refine he3910 _ _ _ _ S3921 rk3929 fun m49 o3933 S3930 k3931 rk3932 hO3934 => ?_
  have L3935 := L3926.k k3931 (by decide)
  have L3936 := L3927.k k3931 (by decide)
  have L3937 := L3925.k k3931 (by decide)
  have Y3938 := Y3928.k k3931 (by decide)
  refine ⟨trivial, _, (hb0.sub (Sub.trans (Sub.trans k3880.fs s3908) S3930.sub)).rc rfl, _, _, _, _, L3937.bk.ra, ?_⟩
  obtain ⟨g3939, hp⟩ := gd_some hp
  refine ⟨_, (Mi.sub (hb012.sub (Sub.trans k3880.fs s3908)) S3930.sub).mi.lk kl43 (k := a3898) g3939 rfl, ?_⟩
  cases hv3940 : (mget w.right a3898) with
  | none =>
   rw [mcase_none hv3940] at hp
   refine ⟨fun _ => ?_, fun u hu => (by cases hu)⟩
   refine ⟨_, _, _, _, _, _, L3936.bk.ra, ?_⟩
   refine ifbb hp (fun q3942 hp => ?_) fun q3942 hp => ?_; rotate_left
   ·exact hk3911 .nrm (r3890, s3891, false) _ _ _ _ S3930 ⟨L3935, L3936, Y3938⟩ rk3932 hO3934 ⟨rfl, hp⟩
   refine ⟨_, L3935.bk.rc rfl, _, _, _, _, L3937.bk.ra, ?_⟩
   obtain ⟨r3943, hp3945, hz3944⟩ := bsome hp
   clear hp
   obtain rfl := Option.some.inj hz3944
   have hp := hp3945
   show Wy prog tbl ly (IV.encs (a3898 : Trh)) _ _
   refine Yg.yield hc S3930 Y3938 ?_ ?_
   ·intro m68 τ3946 s3950 S3947 k3948 Y3949
    have L3951 := L3935.k k3948 (by decide)
    have L3952 := L3936.k k3948 (by decide)
    have L3953 := L3937.k k3948 (by decide)
    have rk3954 := rk3932.k k3948 (by decide)
    refine ⟨_, rfl, ?_⟩
    refine ifB_f' ?_
    exact hk3911 .nrm (r3943, s3950, false) _ _ _ _ S3947 ⟨L3951, L3952, Y3949⟩ rk3954 hO3934 ⟨rfl, hp⟩
   ·intro m68 τ3955 s3959 S3956 k3957 Y3958
    have L3960 := L3935.k k3957 (by decide)
    have L3961 := L3936.k k3957 (by decide)
    have L3962 := L3937.k k3957 (by decide)
    have rk3963 := rk3932.k k3957 (by decide)
    refine ⟨_, rfl, ?_⟩
    refine ifB_t' ?_
    exact hk3911 .ret ([], s3959, true) _ _ _ _ S3956 ⟨L3960, L3961, Y3958⟩ rk3963 hO3934 (.inl rfl)
  | some w3941 =>
   rw [mcase_some hv3940] at hp
   refine ⟨fun h => (by cases h), fun u hu => ?_⟩
   obtain rfl := Option.some.inj hu
   refine ⟨_, _, _, _, _, _, rfl, _, _, _, _, _, _, L3936.bk.ra, ?_⟩
   refine ifbb hp (fun q3964 hp => ?_) fun q3964 hp => ?_; rotate_left
   ·exact hk3911 .nrm (r3890, s3891, false) _ _ _ _ S3930 ⟨L3935, L3936, Y3938⟩ rk3932 hO3934 ⟨rfl, hp⟩
   refine ⟨_, L3935.bk.rc rfl, _, _, _, _, L3937.bk.ra, ?_⟩
   obtain ⟨r3965, hp3967, hz3966⟩ := bsome hp
   clear hp
   obtain rfl := Option.some.inj hz3966
   have hp := hp3967
   show Wy prog tbl ly (IV.encs (a3898 : Trh)) _ _
   refine Yg.yield hc S3930 Y3938 ?_ ?_
   ·intro m89 τ3968 s3972 S3969 k3970 Y3971
    have L3973 := L3935.k k3970 (by decide)
    have L3974 := L3936.k k3970 (by decide)
    have L3975 := L3937.k k3970 (by decide)
    have rk3976 := rk3932.k k3970 (by decide)
    refine ⟨_, rfl, ?_⟩
    refine ifB_f' ?_
    exact hk3911 .nrm (r3965, s3972, false) _ _ _ _ S3969 ⟨L3973, L3974, Y3971⟩ rk3976 hO3934 ⟨rfl, hp⟩
   ·intro m89 τ3977 s3981 S3978 k3979 Y3980
    have L3982 := L3935.k k3979 (by decide)
    have L3983 := L3936.k k3979 (by decide)
    have L3984 := L3937.k k3979 (by decide)
    have rk3985 := rk3932.k k3979 (by decide)
    refine ⟨_, rfl, ?_⟩
    refine ifB_t' ?_
    exact hk3911 .ret ([], s3981, true) _ _ _ _ S3978 ⟨L3982, L3983, Y3980⟩ rk3985 hO3934 (.inl rfl)
 ·intro st f3986 τ3988 m91 S3989 s3987 hA hp
  obtain ⟨r3890, s3891, d3892⟩ := st
  obtain ⟨hdd, hp⟩ := hp
  replace hdd : d3892 = false := hdd
  subst hdd
  replace hp : ptruthsI_L0 w r3856 [] = some r3890 := hp
  obtain ⟨L3888, L3889, Y3893⟩ := hA
  replace L3888 : Lb F f3986 τ3988 m91 1 m.nxt 1 [(.fn (.yield ly) [] [])] := L3888
  replace L3889 : Lb F f3986 τ3988 m91 2 m15.nxt 6 [(.bool r3856.c0), (.bool r3856.c1), (.bool r3856.c2), (.bool r3856.c3), (.bool r3856.c4), (.bool r3856.c5)] := L3889
  replace Y3893 : Yg n0 (YJ xs I r3890) s3891 F f3986 τ3988 m91 := Y3893
  rw [ptruthsI_L0] at hp
  obtain rfl := Option.some.inj hp
  exact hq _ _ _ _ _ S3989 (.inl Y3893)
 ·intro id st _ _ _ _ _ _ hn; first | exact hn.elim | (cases hn)
 ·intro st f3894 τ3896 m92 S3897 s3895 hA hn
  obtain ⟨r3890, s3891, d3892⟩ := st
  rcases hn with hd | ⟨hd, hid, hp⟩
  ·replace hd : d3892 = true := hd
   subst hd
   obtain ⟨L3888, L3889, Y3893⟩ := hA
   replace L3888 : Lb F f3894 τ3896 m92 1 m.nxt 1 [(.fn (.yield ly) [] [])] := L3888
   replace L3889 : Lb F f3894 τ3896 m92 2 m15.nxt 6 [(.bool r3856.c0), (.bool r3856.c1), (.bool r3856.c2), (.bool r3856.c3), (.bool r3856.c4), (.bool r3856.c5)] := L3889
   replace Y3893 : Yg n0 E s3891 F f3894 τ3896 m92 := Y3893
   exact hq _ _ _ _ _ S3897 (.inr Y3893)
  replace hd : d3892 = false := hd
  subst hd
  replace hp : ptruthsI_L0_xret = some r3890 := hp
  unfold ptruthsI_L0_xret at hp
  obtain ⟨L3888, L3889, Y3893⟩ := hA
  replace L3888 : Lb F f3894 τ3896 m92 1 m.nxt 1 [(.fn (.yield ly) [] [])] := L3888
  replace L3889 : Lb F f3894 τ3896 m92 2 m15.nxt 6 [(.bool r3856.c0), (.bool r3856.c1), (.bool r3856.c2), (.bool r3856.c3), (.bool r3856.c4), (.bool r3856.c5)] := L3889
  replace Y3893 : Yg n0 (YJ xs I r3890) s3891 F f3894 τ3896 m92 := Y3893
  obtain rfl := Option.some.inj hp
  exact hq _ _ _ _ _ S3897 (.inl Y3893)
theorem s_truths {w : Wk} {ca111 ca112 : C} {m f : M} {Q : V → M → Prop} {rz : List Trh} (hS : Pre f m) (ha111 : Sl f ca111 w.s.Cards) (ha112 : Mi f ca112 w.right) (hp : ptruths w = some rz) (hq : ∀ m' f' c0, Grw m f m' f' → It prog tbl f' c0 rz → Q (.c c0) m') : Wc prog tbl 108 [.agg 13 [(Il w.s.Wide), (Il w.s.High), (Il w.s.Fall), (Il w.s.A.Lo), (Il w.s.A.Hi), (Il w.s.B.Lo), (Il w.s.B.Hi), (Il w.s.Half.Lo), (Il w.s.Half.Hi), (Il w.s.Peak.Lo), (Il w.s.Peak.Hi), ca111, ca112]] m Q := by
 have q := hS.st
 obtain ⟨r, _⟩ : ∃ τ : Nat → Nat, True := ⟨fun _ => 0, trivial⟩
 refine w108 ?_
 unfold ptruths at hp
 intro t h
 obtain ⟨o, i, p, j⟩ := q.blk h r 1
 obtain ⟨b, a, d, e⟩ := j.freeze i
 obtain ⟨l, n, hp⟩ := bsome hp
 have g : It prog tbl b ((C.fn (Fn.func 128) [] [(W.c (C0.ptr m.nxt 0))])) l := it_of a.fz a.fv fun u ly I E hc x y z D hS hY Q hq => s_truthsI hc hS hY e (ha111.sub d.fs) (ha112.sub d.fs) n hq
 obtain rfl := Option.some.inj hp
 exact hq _ b (C.fn (Fn.func 128) [] [(W.c (C0.ptr m.nxt 0))]) a.grw g
theorem s_canHold {w : Wk} {these : Cds} {ca111 ca112 : C} {m f : M} {Q : V → M → Prop} {rz : Bool} (hS : Pre f m) (ha111 : Sl f ca111 w.s.Cards) (ha112 : Mi f ca112 w.right) (hp : pcanHold w these = some rz) (hq : ∀ m', Ext m m' → Q (.c (.bool rz)) m') : Wc prog tbl 82 [.agg 13 [(Il w.s.Wide), (Il w.s.High), (Il w.s.Fall), (Il w.s.A.Lo), (Il w.s.A.Hi), (Il w.s.B.Lo), (Il w.s.B.Hi), (Il w.s.Half.Lo), (Il w.s.Half.Hi), (Il w.s.Peak.Lo), (Il w.s.Peak.Hi), ca111, ca112], .agg 6 [(.bool these.c0), (.bool these.c1), (.bool these.c2), (.bool these.c3), (.bool these.c4), (.bool these.c5)]] m Q := by
 have S0 := hS.st
 obtain ⟨τ0, _⟩ : ∃ τ : Nat → Nat, True := ⟨fun _ => 0, trivial⟩
 refine w82 ?_
 unfold pcanHold at hp
 intro m0 Da
 obtain ⟨Ea, Fa, Sb, Ga⟩ := S0.blk Da τ0 1
 intro m1 Ia
 obtain ⟨Ja, Ka, La, Ma⟩ := Fa.blk Ia Ea 2
 have Na := Ga.k La
 intro m2 Oa
 obtain ⟨da, ea, fa, Pa⟩ := Ka.blk Oa Ja 3
 have ga := Na.k fa
 have Qa := Ma.k fa
 refine ⟨trivial, _, _, _, _, _, _, _, _, _, _, _, _, ga.bk.rp (k := 0) (j := 12) rfl (by omega), ?_⟩
 obtain ⟨Tb, Ra, hp⟩ := bsome hp
 refine s_choices (s := w.s) ea.pre ha111 Ra fun fc Ub Vb Sa Ta => ?_
 obtain ⟨Ua, p⟩ := ea.callG Sa da
 have ha := ga.k p
 have ia := Qa.k p
 have ja := Pa.k p
 refine ⟨_, rfl, ?_⟩
 refine range_st (α := Trh) Ua Ta (σ := Bool) 4 (fun st bb => (False ∨ (False ∨ False))) (fun st gG gF gT gM => (Lb gG gF gT gM 1 m.nxt 13 [(Il w.s.Wide), (Il w.s.High), (Il w.s.Fall), (Il w.s.A.Lo), (Il w.s.A.Hi), (Il w.s.B.Lo), (Il w.s.B.Hi), (Il w.s.Half.Lo), (Il w.s.Half.Hi), (Il w.s.Peak.Lo), (Il w.s.Peak.Hi), ca111, ca112]) ∧ (Lb gG gF gT gM 2 m0.nxt 6 [(.bool these.c0), (.bool these.c1), (.bool these.c2), (.bool these.c3), (.bool these.c4), (.bool these.c5)]) ∧ (Lb gG gF gT gM 3 m1.nxt 1 [(.bool st)])) (fun rr_ st => pcanHold_L0 w these rr_ st = some rz) (fun ex st => (match ex with | .ret => (0 : Nat) = 0 ∧ pcanHold_L0_xret st = some rz | _ => False)) (fun st => (Gud.and (Gud.lb ha.bk.lt (by decide)) (Gud.and (Gud.lb ia.bk.lt (by decide)) (Gud.lb ja.bk.lt (by decide))))) (st0 := (false)) (τ := da) ⟨ha, ia, ja⟩ hp ?_ ?_ ?_ ?_
 ·intro g Va b D q ta F Wb Pb Qb Rb Wa Xa hA ua hp va l
  obtain ⟨d, e, a⟩ := hA
  replace d : Lb F D q ta 1 m.nxt 13 [(Il w.s.Wide), (Il w.s.High), (Il w.s.Fall), (Il w.s.A.Lo), (Il w.s.A.Hi), (Il w.s.B.Lo), (Il w.s.B.Hi), (Il w.s.Half.Lo), (Il w.s.Half.Hi), (Il w.s.Peak.Lo), (Il w.s.Peak.Hi), ca111, ca112] := d
  replace e : Lb F D q ta 2 m0.nxt 6 [(.bool these.c0), (.bool these.c1), (.bool these.c2), (.bool these.c3), (.bool these.c4), (.bool these.c5)] := e
  replace a : Lb F D q ta 3 m1.nxt 1 [(.bool b)] := a
  replace hp : pcanHold_L0 w these (g :: Va) b = some rz := hp
  rw [pcanHold_L0] at hp
  refine ⟨_, _, _, _, rfl, ?_⟩
  intro gc Ya
  obtain ⟨ka, Za, r, ab⟩ := Wa.blk Ya q 5
  have cb := d.k r
  have db := e.k r
  have eb := a.k r
  have wa := ua.k r
  obtain ⟨fb, gb, hb, t, ib⟩ := ab.sto Za [(Il g.A), (Il g.B), (Il g.Half), (Il g.Peak)]
  have jb := cb.k t
  have kb := db.k t
  have mb := eb.k t
  have xa := wa.k t
  refine ⟨fb, gb, ?_⟩
  refine va _ _ _ _ hb xa fun hc Xb n x Z o => ?_
  have G := jb.k x
  have i := kb.k x
  have la := mb.k x
  have nb := ib.k x
  refine ⟨trivial, _, G.bk.rc rfl, _, _, _, _, nb.bk.ra, ?_⟩
  obtain ⟨ob, hp⟩ := gd_some hp
  refine ⟨_, (Mi.sub (ha112.sub (Sub.trans p.fs Xa)) n.sub).mi.lk kl43 (k := g) ob rfl, ?_⟩
  cases aa : (mget w.right g) with
  | none =>
   rw [mcase_none aa] at hp
   refine ⟨fun _ => ?_, fun u hu => (by cases hu)⟩
   refine ⟨_, _, _, _, _, _, i.bk.ra, ?_⟩
   obtain ⟨Yb, pb, hp⟩ := bsome hp
   refine s_among (c := ({ c0 := false, c1 := false, c2 := false, c3 := false, c4 := false, c5 := false } : Cds)) (these := these) n.pre  pb fun ic qb => ?_
   obtain ⟨ma, y⟩ := n.call qb ka
   have na := G.k y
   have I := i.k y
   have oa := la.k y
   have ba := Z.k y
   refine ⟨_, _, _, _, _, _, rfl, _, _, _, _, _, _, I.bk.ra, (i.bk.ra), ?_⟩
   refine ifbb hp (fun rb hp => ?_) fun rb hp => ?_; rotate_left
   ·exact l .nrm (b) _ _ _ _ ma ⟨na, I, oa⟩ ba o hp
   obtain ⟨sb, tb, ub, J, vb⟩ := oa.sto ma [(.bool true)]
   have wb := na.k J
   have xb := I.k J
   have ya := ba.k J
   refine ⟨sb, tb, ?_⟩
   exact l .ret (true) _ _ _ _ ub ⟨wb, xb, vb⟩ ya o ⟨rfl, hp⟩
  | some yb =>
   rw [mcase_some aa] at hp
   refine ⟨fun h => (by cases h), fun u hu => ?_⟩
   obtain rfl := Option.some.inj hu
   refine ⟨_, _, _, _, _, _, rfl, _, _, _, _, _, _, i.bk.ra, ?_⟩
   obtain ⟨Zb, zb, hp⟩ := bsome hp
   refine s_among (c := yb) (these := these) n.pre  zb fun jc Ab => ?_
   obtain ⟨pa, z⟩ := n.call Ab ka
   have qa := G.k z
   have N := i.k z
   have sa := la.k z
   have ca := Z.k z
   refine ⟨_, _, _, _, _, _, rfl, _, _, _, _, _, _, N.bk.ra, (i.bk.ra), ?_⟩
   refine ifbb hp (fun Bb hp => ?_) fun Bb hp => ?_; rotate_left
   ·exact l .nrm (b) _ _ _ _ pa ⟨qa, N, sa⟩ ca o hp
   obtain ⟨Cb, Db, Eb, O, Fb⟩ := sa.sto pa [(.bool true)]
   have Gb := qa.k O
   have Hb := N.k O
   have za := ca.k O
   refine ⟨Cb, Db, ?_⟩
   exact l .ret (true) _ _ _ _ Eb ⟨Gb, Hb, Fb⟩ za o ⟨rfl, hp⟩
 ·intro b P S Aa Ib ac hA hp
  replace hp : pcanHold_L0 w these [] b = some rz := hp
  obtain ⟨d, e, a⟩ := hA
  replace d : Lb (Fm.of m) P S Aa 1 m.nxt 13 [(Il w.s.Wide), (Il w.s.High), (Il w.s.Fall), (Il w.s.A.Lo), (Il w.s.A.Hi), (Il w.s.B.Lo), (Il w.s.B.Hi), (Il w.s.Half.Lo), (Il w.s.Half.Hi), (Il w.s.Peak.Lo), (Il w.s.Peak.Hi), ca111, ca112] := d
  replace e : Lb (Fm.of m) P S Aa 2 m0.nxt 6 [(.bool these.c0), (.bool these.c1), (.bool these.c2), (.bool these.c3), (.bool these.c4), (.bool these.c5)] := e
  replace a : Lb (Fm.of m) P S Aa 3 m1.nxt 1 [(.bool b)] := a
  rw [pcanHold_L0] at hp
  obtain ⟨Jb, Kb, Mb, bc, Nb⟩ := a.sto Ib [(.bool false)]
  refine ⟨Jb, Kb, ?_⟩
  refine ⟨_, Nb.bk.rc rfl, ?_⟩
  obtain rfl := Option.some.inj hp
  exact hq _ Mb.ext'
 ·intro id st _ _ _ _ _ _ hn; first | exact hn.elim | (cases hn)
 ·intro b T Y Ba Ob cc hA hn
  obtain ⟨hid, hp⟩ := hn
  replace hp : pcanHold_L0_xret b = some rz := hp
  unfold pcanHold_L0_xret at hp
  obtain ⟨d, e, a⟩ := hA
  replace d : Lb (Fm.of m) T Y Ba 1 m.nxt 13 [(Il w.s.Wide), (Il w.s.High), (Il w.s.Fall), (Il w.s.A.Lo), (Il w.s.A.Hi), (Il w.s.B.Lo), (Il w.s.B.Hi), (Il w.s.Half.Lo), (Il w.s.Half.Hi), (Il w.s.Peak.Lo), (Il w.s.Peak.Hi), ca111, ca112] := d
  replace e : Lb (Fm.of m) T Y Ba 2 m0.nxt 6 [(.bool these.c0), (.bool these.c1), (.bool these.c2), (.bool these.c3), (.bool these.c4), (.bool these.c5)] := e
  replace a : Lb (Fm.of m) T Y Ba 3 m1.nxt 1 [(.bool b)] := a
  refine ⟨_, a.bk.rc rfl, ?_⟩
  obtain rfl := Option.some.inj hp
  exact hq _ Ob.ext'
theorem s_hasTruth {w : Wk} {ca111 ca112 : C} {m f : M} {Q : V → M → Prop} {rz : Bool} (hS : Pre f m) (ha111 : Sl f ca111 w.s.Cards) (ha112 : Mi f ca112 w.right) (hp : phasTruth w = some rz) (hq : ∀ m', Ext m m' → Q (.c (.bool rz)) m') : Wc prog tbl 86 [.agg 13 [(Il w.s.Wide), (Il w.s.High), (Il w.s.Fall), (Il w.s.A.Lo), (Il w.s.A.Hi), (Il w.s.B.Lo), (Il w.s.B.Hi), (Il w.s.Half.Lo), (Il w.s.Half.Hi), (Il w.s.Peak.Lo), (Il w.s.Peak.Hi), ca111, ca112]] m Q := by
 have x := hS.st
 obtain ⟨y, _⟩ : ∃ τ : Nat → Nat, True := ⟨fun _ => 0, trivial⟩
 refine w86 ?_
 unfold phasTruth at hp
 intro F g
 obtain ⟨b, d, r, a⟩ := x.blk g y 1
 refine ⟨_, _, _, _, _, _, _, _, _, _, _, _, _, a.bk.ra, _, _, _, _, _, _, _, _, _, _, _, _, _, a.bk.ra, ?_⟩
 obtain ⟨h, i, hp⟩ := bsome hp
 refine s_allCards (w := w) d.pre ha111 ha112 i fun z j => ?_
 obtain ⟨e, l⟩ := d.call j b
 have n := a.k l
 refine ⟨_, _, _, _, _, _, rfl, (by rw [show allS cmC _ = true from cmL_of (nf_cons rfl (nf_cons rfl (nf_cons rfl (nf_cons rfl (nf_cons rfl (nf_cons rfl (nf_cons rfl (nf_cons rfl (nf_cons rfl (nf_cons rfl (nf_cons rfl (nf_cons ha111.noFn (nf_cons ha112.noFn nf_nil)))))))))))))]; exact (n.bk.ra)), ?_⟩
 obtain ⟨t, o, hp⟩ := bsome hp
 refine s_canHold (w := w) (these := h) e.pre ha111 ha112 o fun D p => ?_
 obtain ⟨q, u⟩ := e.call p b
 refine ⟨_, rfl, ?_⟩
 obtain rfl := Option.some.inj hp
 exact hq _ q.ext'
theorem s_openTrue {s : Stm} {asked : List Rct} {ca111 ca200 : C} {m f : M} {Q : V → M → Prop} {rz : Wk × Int} (hS : Pre f m) (ha111 : Sl f ca111 s.Cards) (ha200 : Sl f ca200 asked) (hp : popenTrue s asked = some rz) (hq : ∀ m' f' c11 c12, Grw m f m' f' → Sl f' c11 rz.1.s.Cards → Mi f' c12 rz.1.right → Q (.tup [.agg 13 [(Il rz.1.s.Wide), (Il rz.1.s.High), (Il rz.1.s.Fall), (Il rz.1.s.A.Lo), (Il rz.1.s.A.Hi), (Il rz.1.s.B.Lo), (Il rz.1.s.B.Hi), (Il rz.1.s.Half.Lo), (Il rz.1.s.Half.Hi), (Il rz.1.s.Peak.Lo), (Il rz.1.s.Peak.Hi), c11, c12], .c (Il rz.2)]) m') : Wc prog tbl 68 [.agg 12 [(Il s.Wide), (Il s.High), (Il s.Fall), (Il s.A.Lo), (Il s.A.Hi), (Il s.B.Lo), (Il s.B.Hi), (Il s.Half.Lo), (Il s.Half.Hi), (Il s.Peak.Lo), (Il s.Peak.Hi), ca111], .c ca200] m Q := by
 have S0 := hS.st
 obtain ⟨τ0, _⟩ : ∃ τ : Nat → Nat, True := ⟨fun _ => 0, trivial⟩
 refine w68 ?_
 unfold popenTrue at hp
 intro m0 O
 obtain ⟨P, S, Va, T⟩ := S0.blk O τ0 1
 intro m1 Y
 obtain ⟨b, j, Z, aa⟩ := S.blk Y P 2
 have n := T.k Z
 refine ⟨_, _, _, _, _, _, _, _, _, _, _, _, n.bk.ra, ?_⟩
 obtain ⟨Wa, ba, hp⟩ := bsome hp
 refine s_check (s := s) j.pre ha111 ba fun gb ca => ?_
 obtain ⟨e, o⟩ := j.call ca b
 have p := n.k o
 have q := aa.k o
 refine ⟨_, rfl, ?_⟩
 refine ifnd hp (fun da hp => ?_) fun da hp => ?_
 ·obtain ⟨ea, fa, ga, Xa, ha⟩ := q.sto e [(Il 0), (Il 0), (Il 0), (Il 0), (Il 0), (Il 0), (Il 0), (Il 0), (Il 0), (Il 0), (Il 0), .sl0, C.map0]
  refine ⟨ea, fa, ?_⟩
  refine ⟨_, _, _, _, _, _, _, _, _, _, _, _, _, ha.bk.ra, ?_⟩
  obtain rfl := Option.some.inj hp
  exact hq _ f .sl0 C.map0 ga.grw (Sl.nil _) (show Mi _ .map0 none from rfl)
 refine ⟨_, _, _, _, _, _, _, _, _, _, _, _, p.bk.ra, ?_⟩
 obtain ⟨Sa, Ta, Ua⟩ : ∃ ws, mapO vW [.agg 12 [(Il s.Wide), (Il s.High), (Il s.Fall), (Il s.A.Lo), (Il s.A.Hi), (Il s.B.Lo), (Il s.B.Hi), (Il s.Half.Lo), (Il s.Half.Hi), (Il s.Peak.Lo), (Il s.Peak.Hi), ca111]] = some ws ∧ mapS wV ws = [.agg 12 [(Il s.Wide), (Il s.High), (Il s.Fall), (Il s.A.Lo), (Il s.A.Hi), (Il s.B.Lo), (Il s.B.Hi), (Il s.Half.Lo), (Il s.Half.Hi), (Il s.Peak.Lo), (Il s.Peak.Hi), ca111]] := (vWs_cons (vW_agg (nf_cons rfl (nf_cons rfl (nf_cons rfl (nf_cons rfl (nf_cons rfl (nf_cons rfl (nf_cons rfl (nf_cons rfl (nf_cons rfl (nf_cons rfl (nf_cons rfl (nf_cons ha111.noFn nf_nil))))))))))))) vWs_nil)
 rw [Ta, optB_some]
 have N : Fv_Rct_Bool f ((C.fn (Fn.func 107) Sa [])) (fun d => phasRect s d) := by
  intro f' m' d r Q hs hpre  hg hq
  show Wc prog tbl 107 (appS (mapS wV Sa) _) m' Q
  rw [Ua]
  exact s_hasRect hpre (ha111.sub hs) hg hq
 obtain ⟨Ya, ia, hp⟩ := bsome hp
 refine s_eachR (l := asked) (passes := (fun d => phasRect s d)) e.pre ha200 N ia fun hb ja => ?_
 obtain ⟨g, t⟩ := e.call ja b
 have ka := p.k t
 have u := q.k t
 refine ⟨_, rfl, ?_⟩
 refine ifnb hp (fun la hp => ?_) fun la hp => ?_
 ·obtain ⟨ma, na, oa, Za, pa⟩ := u.sto g [(Il 0), (Il 0), (Il 0), (Il 0), (Il 0), (Il 0), (Il 0), (Il 0), (Il 0), (Il 0), (Il 0), .sl0, C.map0]
  refine ⟨ma, na, ?_⟩
  refine ⟨_, _, _, _, _, _, _, _, _, _, _, _, _, pa.bk.ra, ?_⟩
  obtain rfl := Option.some.inj hp
  exact hq _ f .sl0 C.map0 oa.grw (Sl.nil _) (show Mi _ .map0 none from rfl)
 refine ⟨_, _, _, _, _, _, _, _, _, _, _, _, ka.bk.ra, ?_⟩
 obtain ⟨a, qa, hp⟩ := bsome hp
 refine s_open (s := s) g.pre ha111 qa fun ib x h i sa y z => ?_
 obtain ⟨ta, ua⟩ := g.callG sa b
 have va := u.k ua
 refine ⟨_, _, _, _, _, _, _, _, _, _, _, _, _, rfl, ?_⟩
 intro jb wa
 obtain ⟨xa, ya, za, Aa⟩ := ta.blk wa b 3
 have Ba := va.k za
 obtain ⟨Ca, Da, D, Ea, F⟩ := Aa.sto ya [(Il a.s.Wide), (Il a.s.High), (Il a.s.Fall), (Il a.s.A.Lo), (Il a.s.A.Hi), (Il a.s.B.Lo), (Il a.s.B.Hi), (Il a.s.Half.Lo), (Il a.s.Half.Hi), (Il a.s.Peak.Lo), (Il a.s.Peak.Hi), h, i]
 have Fa := Ba.k Ea
 refine ⟨Ca, Da, ?_⟩
 refine ⟨_, _, _, _, _, _, _, _, _, _, _, _, _, F.bk.ra, ?_⟩
 obtain ⟨ab, Ga, hp⟩ := bsome hp
 refine s_hasTruth (w := a) D.pre y z Ga fun fb Ha => ?_
 obtain ⟨G, I⟩ := D.call Ha xa
 have J := Fa.k I
 have Ia := F.k I
 refine ⟨_, rfl, ?_⟩
 refine ifnb hp (fun Ja hp => ?_) fun Ja hp => ?_
 ·obtain ⟨Ka, La, Ma, bb, Na⟩ := J.sto G [(Il 0), (Il 0), (Il 0), (Il 0), (Il 0), (Il 0), (Il 0), (Il 0), (Il 0), (Il 0), (Il 0), .sl0, C.map0]
  refine ⟨Ka, La, ?_⟩
  refine ⟨_, _, _, _, _, _, _, _, _, _, _, _, _, Na.bk.ra, ?_⟩
  obtain rfl := Option.some.inj hp
  exact hq _ x .sl0 C.map0 Ma.grw (Sl.nil _) (show Mi _ .map0 none from rfl)
 refine ⟨_, _, _, _, _, _, _, _, _, _, _, _, _, Ia.bk.ra, ?_⟩
 obtain ⟨Oa, Pa, Qa, cb, Ra⟩ := J.sto G [(Il a.s.Wide), (Il a.s.High), (Il a.s.Fall), (Il a.s.A.Lo), (Il a.s.A.Hi), (Il a.s.B.Lo), (Il a.s.B.Hi), (Il a.s.Half.Lo), (Il a.s.Half.Hi), (Il a.s.Peak.Lo), (Il a.s.Peak.Hi), h, i]
 refine ⟨Oa, Pa, ?_⟩
 refine ⟨_, _, _, _, _, _, _, _, _, _, _, _, _, Ra.bk.ra, ?_⟩
 obtain rfl := Option.some.inj hp
 exact hq _ x h i Qa.grw y z
theorem s_minimum {l : List Int} {ca100 : C} {m f : M} {Q : V → M → Prop} {rz : Int} (hS : Pre f m) (ha100 : Sl f ca100 l) (hp : pminimum l = some rz) (hq : ∀ m', Ext m m' → Q (.c (Il rz)) m') : Wc prog tbl 110 [.c ca100] m Q := by
 have z := hS.st
 obtain ⟨F, _⟩ : ∃ τ : Nat → Nat, True := ⟨fun _ => 0, trivial⟩
 refine w110 ?_
 unfold pminimum at hp
 refine ⟨ha100.isSl, ?_⟩
 try rw [ha100.slLen]
 refine ifd hp (fun p hp => ?_) fun p hp => ?_
 ·obtain rfl := Option.some.inj hp
  exact hq _ z.ext'
 obtain ⟨B, e, hp⟩ := bsome hp
 obtain ⟨G, j, h, e⟩ := idx_some e
 refine ⟨G, j, (by first | exact h | (rw [ha100.slLen]; exact h)), _, (ha100.rdI e z.sub), ha100.isSl, ?_⟩
 intro I A
 have hgo : ∀ (b : Nat) (q : Int) (r : Int) (s : M) (d : Nat → Nat), St (Fm.of m) f f s → pminimum_L0 l b q r = some rz → I [.c (Il q), .c (Il r)] s := by
  intro b
  induction b with
  | zero => intro q r s d a hp; cases hp
  | succ b n =>
   intro q r s d a hp
   refine A _ _ _ ?_
   rw [pminimum_L0] at hp
   try rw [ha100.slLen]
   refine ifd hp (fun t hp => ?_) fun t hp => ?_; rotate_left
   ·obtain rfl := Option.some.inj hp
    exact hq _ a.ext'
   obtain ⟨D, g, hp⟩ := bsome hp
   obtain ⟨J, o, i, g⟩ := idx_some g
   refine ⟨J, o, (by first | exact i | (rw [ha100.slLen]; exact i)), _, (ha100.rdI g a.sub), ?_⟩
   refine ifd hp (fun u hp => ?_) fun u hp => ?_
   ·refine gdi hp fun x hp => ?_
    exact n _ _ _ d a hp
   refine gdi hp fun y hp => ?_
   exact n _ _ _ d a hp
 exact hgo _ _ _ _ F z hp
theorem s_sMax {l : List Int} {ca100 : C} {m f : M} {Q : V → M → Prop} {rz : Int} (hS : Pre f m) (ha100 : Sl f ca100 l) (hp : psMax l = some rz) (hq : ∀ m', Ext m m' → Q (.c (Il rz)) m') : Wc prog tbl 111 [.c ca100] m Q := by
 have x := hS.st
 obtain ⟨B, _⟩ : ∃ τ : Nat → Nat, True := ⟨fun _ => 0, trivial⟩
 refine w111 ?_
 unfold psMax at hp
 refine ⟨ha100.isSl, ?_⟩
 try rw [ha100.slLen]
 refine ifd hp (fun o hp => ?_) fun o hp => ?_
 ·cases hp
 obtain ⟨z, d, hp⟩ := bsome hp
 obtain ⟨D, j, h, d⟩ := idx_some d
 refine ⟨D, j, (by first | exact h | (rw [ha100.slLen]; exact h)), _, (ha100.rdI d x.sub), ?_⟩
 intro F y
 have hgo : ∀ (a : Nat) (p : Int) (q : Int) (r : M) (e : Nat → Nat), St (Fm.of m) f f r → psMax_L0 l a p q = some rz → F [.c (Il p), .c (Il q)] r := by
  intro a
  induction a with
  | zero => intro p q r e b hp; cases hp
  | succ a u =>
   intro p q r e b hp
   refine y _ _ _ ?_
   rw [psMax_L0] at hp
   refine ⟨ha100.isSl, ?_⟩
   try rw [ha100.slLen]
   refine ifd hp (fun s hp => ?_) fun s hp => ?_; rotate_left
   ·obtain rfl := Option.some.inj hp
    exact hq _ b.ext'
   obtain ⟨A, g, hp⟩ := bsome hp
   obtain ⟨G, n, i, g⟩ := idx_some g
   refine ⟨G, n, (by first | exact i | (rw [ha100.slLen]; exact i)), _, (ha100.rdI g b.sub), ?_⟩
   refine gdi hp fun t hp => ?_
   exact u _ _ _ e b hp
 exact hgo _ _ _ _ B x hp
theorem s_span {w : Wk} {number : Trh → Option (Int)} {ca111 ca112 ca200 : C} {m f : M} {Q : V → M → Prop} {rz : Rg} (hS : Pre f m) (ha111 : Sl f ca111 w.s.Cards) (ha112 : Mi f ca112 w.right) (ha200 : Fv_Trh_Int f ca200 number) (hp : pspan w number = some rz) (hq : ∀ m', Ext m m' → Q (.agg 2 [(Il rz.Lo), (Il rz.Hi)]) m') : Wc prog tbl 73 [.agg 13 [(Il w.s.Wide), (Il w.s.High), (Il w.s.Fall), (Il w.s.A.Lo), (Il w.s.A.Hi), (Il w.s.B.Lo), (Il w.s.B.Hi), (Il w.s.Half.Lo), (Il w.s.Half.Hi), (Il w.s.Peak.Lo), (Il w.s.Peak.Hi), ca111, ca112], .c ca200] m Q := by
 have S0 := hS.st
 obtain ⟨τ0, _⟩ : ∃ τ : Nat → Nat, True := ⟨fun _ => 0, trivial⟩
 refine w73 ?_
 unfold pspan at hp
 intro m0 Ba
 obtain ⟨Ca, Da, sc, Ea⟩ := S0.blk Ba τ0 1
 intro m1 Fa
 obtain ⟨Ga, Ha, Ia, Ja⟩ := Da.blk Fa Ca 2
 have Ka := Ea.k Ia
 intro m2 La
 obtain ⟨Ma, Na, Z, Oa⟩ := Ha.blk La Ga 3
 have Pa := Ka.k Z
 have Qa := Ja.k Z
 intro m3 Ra
 obtain ⟨aa, ba, I, Sa⟩ := Na.blk Ra Ma 4
 have ca := Pa.k I
 have Ta := Qa.k I
 have Ua := Oa.k I
 refine ⟨_, _, _, _, _, _, _, _, _, _, _, _, _, ca.bk.ra, ?_⟩
 obtain ⟨tc, Va, hp⟩ := bsome hp
 refine s_truths (w := w) ba.pre ha111 ha112 Va fun Ec uc vc Wa Xa => ?_
 obtain ⟨Ya, u⟩ := ba.callG Wa aa
 have da := ca.k u
 have ea := Ta.k u
 have fa := Ua.k u
 have ga := Sa.k u
 refine ⟨_, rfl, ?_⟩
 refine range_st (α := Trh) Ya Xa (σ := (List Int) × C) 5 (fun st bb => (False ∨ (False ∨ (False ∨ (False ∨ (ownBlk st.2 bb)))))) (fun st gG gF gT gM => (Lb gG gF gT gM 1 m.nxt 13 [(Il w.s.Wide), (Il w.s.High), (Il w.s.Fall), (Il w.s.A.Lo), (Il w.s.A.Hi), (Il w.s.B.Lo), (Il w.s.B.Hi), (Il w.s.Half.Lo), (Il w.s.Half.Hi), (Il w.s.Peak.Lo), (Il w.s.Peak.Hi), ca111, ca112]) ∧ (Lb gG gF gT gM 2 m0.nxt 1 [ca200]) ∧ (Lb gG gF gT gM 3 m1.nxt 2 [(Il 0), (Il 0)]) ∧ (Lb gG gF gT gM 4 m2.nxt 1 [st.2]) ∧ (Ow gG gF gT gM 6 st.2 st.1)) (fun rr_ st => pspan_L0 number rr_ st.1 = some rz) (fun ex st => False) (fun st => (Gud.and (Gud.lb da.bk.lt (by decide)) (Gud.and (Gud.lb ea.bk.lt (by decide)) (Gud.and (Gud.lb fa.bk.lt (by decide)) (Gud.and (Gud.lb ga.bk.lt (by decide)) (Gud.ow (by decide))))))) (st0 := ([], .sl0)) (τ := aa) ⟨da, ea, fa, ga, (Ow.nil _ _ _ _ _)⟩ hp ?_ ?_ ?_ ?_
 ·intro x Za st i j T y wc oc pc qc ab cb hA qa hp sa ta
  obtain ⟨d, z⟩ := st
  obtain ⟨n, o, g, e, b⟩ := hA
  replace n : Lb y i j T 1 m.nxt 13 [(Il w.s.Wide), (Il w.s.High), (Il w.s.Fall), (Il w.s.A.Lo), (Il w.s.A.Hi), (Il w.s.B.Lo), (Il w.s.B.Hi), (Il w.s.Half.Lo), (Il w.s.Half.Hi), (Il w.s.Peak.Lo), (Il w.s.Peak.Hi), ca111, ca112] := n
  replace o : Lb y i j T 2 m0.nxt 1 [ca200] := o
  replace g : Lb y i j T 3 m1.nxt 2 [(Il 0), (Il 0)] := g
  replace e : Lb y i j T 4 m2.nxt 1 [z] := e
  replace b : Ow y i j T 6 z d := b
  replace hp : pspan_L0 number (x :: Za) d = some rz := hp
  rw [pspan_L0] at hp
  refine ⟨_, _, _, _, rfl, ?_⟩
  intro Fc db
  obtain ⟨eb, fb, p, gb⟩ := ab.blk db j 7
  have hb := n.k p
  have ib := o.k p
  have jb := g.k p
  have kb := e.k p
  have b := b.k p
  have ua := qa.k p
  obtain ⟨mb, nb, ob, q, pb⟩ := gb.sto fb [(Il x.A), (Il x.B), (Il x.Half), (Il x.Peak)]
  have qb := hb.k q
  have rb := ib.k q
  have sb := jb.k q
  have tb := kb.k q
  have b := b.k q
  have va := ua.k q
  refine ⟨mb, nb, ?_⟩
  refine sa _ _ _ _ ob va fun Gc xc ha r wa xa => ?_
  have ub := qb.k r
  have ia := rb.k r
  have vb := sb.k r
  have ja := tb.k r
  have wb := pb.k r
  have b := b.k r
  refine ⟨_, ja.bk.rc rfl, _, ia.bk.rc rfl, _, _, _, _, wb.bk.ra, ?_⟩
  obtain ⟨J, xb, hp⟩ := bsome hp
  refine (ha200.sub (Sub.trans u.fs cb)) _ _ _ _ _ (Sub.refl _) ha.pre  xb fun Hc yb => ?_
  obtain ⟨zb, t⟩ := ha.call yb eb
  have Ab := ub.k t
  have Bb := ia.k t
  have Cb := vb.k t
  have N := ja.k t
  have b := b.k t
  have ya := wa.k t
  refine ⟨_, rfl, (by rw [show cmC _ = true from cmC_of (b.noFn)]; exact (N.bk.rc rfl)), ?_⟩
  obtain ⟨Db, hp⟩ := gd_some hp
  intro Ic ka
  refine ⟨(by rw [show cmC _ = true from cmC_of (b.noFn)]; exact (N.bk.ext (Bk.new ka).2).rc rfl), ?_⟩
  obtain ⟨O, Eb, yc, Fb, Gb, D, P⟩ := b.app' ta69 zb (a := J) (show Rp.rep (α := Int) i _ J from rfl) Db ka
  have Hb := Ab.k D
  have Ib := Bb.k D
  have Jb := Cb.k D
  have Kb := N.k D
  have za := ya.k D
  refine ⟨O, Eb, Fb, ?_⟩
  obtain ⟨Mb, Nb, Ob, F, Pb⟩ := Kb.sto Gb [O]
  have Qb := Hb.k F
  have Rb := Ib.k F
  have Sb := Jb.k F
  have P := P.k F
  have Aa := za.k F
  refine ⟨Mb, Nb, ?_⟩
  exact ta .nrm ((d ++ [J]), O) _ _ _ _ Ob ⟨Qb, Rb, Sb, Pb, P⟩ Aa xa hp
 ·intro st G h Y Tb zc hA hp
  obtain ⟨d, z⟩ := st
  replace hp : pspan_L0 number [] d = some rz := hp
  obtain ⟨n, o, g, e, b⟩ := hA
  replace n : Lb (Fm.of m) G h Y 1 m.nxt 13 [(Il w.s.Wide), (Il w.s.High), (Il w.s.Fall), (Il w.s.A.Lo), (Il w.s.A.Hi), (Il w.s.B.Lo), (Il w.s.B.Hi), (Il w.s.Half.Lo), (Il w.s.Half.Hi), (Il w.s.Peak.Lo), (Il w.s.Peak.Hi), ca111, ca112] := n
  replace o : Lb (Fm.of m) G h Y 2 m0.nxt 1 [ca200] := o
  replace g : Lb (Fm.of m) G h Y 3 m1.nxt 2 [(Il 0), (Il 0)] := g
  replace e : Lb (Fm.of m) G h Y 4 m2.nxt 1 [z] := e
  replace b : Ow (Fm.of m) G h Y 6 z d := b
  rw [pspan_L0] at hp
  refine ⟨_, e.bk.rc rfl, ?_⟩
  obtain ⟨Ac, la, ma, S⟩ := b.freeze Tb
  have Ub := g.k ma
  have na := e.k ma
  obtain ⟨Vb, Wb, hp⟩ := bsome hp
  refine s_minimum (l := d) la.pre S Wb fun Jc Xb => ?_
  obtain ⟨oa, pa⟩ := la.call Xb h
  have Yb := Ub.k pa
  have Zb := na.k pa
  refine ⟨_, rfl, _, Zb.bk.rc rfl, (by rw [show cmC _ = true from cmC_of (S.noFn)]; exact (na.bk.rc rfl)), ?_⟩
  obtain ⟨ac, bc, hp⟩ := bsome hp
  refine s_sMax (l := d) oa.pre S bc fun Kc cc => ?_
  obtain ⟨dc, ec⟩ := oa.call cc h
  have fc := Yb.k ec
  refine ⟨_, rfl, ?_⟩
  obtain ⟨gc, hc, ic, Bc, jc⟩ := fc.sto dc [(Il Vb), (Il ac)]
  refine ⟨gc, hc, ?_⟩
  refine ⟨_, _, jc.bk.ra, ?_⟩
  obtain rfl := Option.some.inj hp
  exact hq _ ic.ext'
 ·intro id st _ _ _ _ _ _ hn; first | exact hn.elim | (cases hn)
 ·intro st _ _ _ _ _ _ hn; first | exact hn.elim | (cases hn)
theorem s_witness {w : Wk} {r : Rct} {inn : Bool} {ca111 ca112 : C} {m f : M} {Q : V → M → Prop} {rz : Trh × Bool} (hS : Pre f m) (ha111 : Sl f ca111 w.s.Cards) (ha112 : Mi f ca112 w.right) (hp : pwitness w r inn = some rz) (hq : ∀ m', Ext m m' → Q (.tup [.agg 4 [(Il rz.1.A), (Il rz.1.B), (Il rz.1.Half), (Il rz.1.Peak)], .c (.bool rz.2)]) m') : Wc prog tbl 69 [.agg 13 [(Il w.s.Wide), (Il w.s.High), (Il w.s.Fall), (Il w.s.A.Lo), (Il w.s.A.Hi), (Il w.s.B.Lo), (Il w.s.B.Hi), (Il w.s.Half.Lo), (Il w.s.Half.Hi), (Il w.s.Peak.Lo), (Il w.s.Peak.Hi), ca111, ca112], .agg 4 [(Il r.X.Lo), (Il r.X.Hi), (Il r.Y.Lo), (Il r.Y.Hi)], .c (.bool inn)] m Q := by
 have S0 := hS.st
 obtain ⟨τ0, _⟩ : ∃ τ : Nat → Nat, True := ⟨fun _ => 0, trivial⟩
 refine w69 ?_
 unfold pwitness at hp
 intro m0 Ja
 obtain ⟨Ka, La, Fc, Ma⟩ := S0.blk Ja τ0 1
 intro m1 Oa
 obtain ⟨Pa, Qa, Ra, Sa⟩ := La.blk Oa Ka 2
 have Ta := Ma.k Ra
 intro m2 Va
 obtain ⟨Wa, Xa, ga, Ya⟩ := Qa.blk Va Pa 3
 have Za := Ta.k ga
 have ab := Sa.k ga
 intro m3 db
 obtain ⟨eb, fb, Z, gb⟩ := Xa.blk db Wa 4
 have hb := Za.k Z
 have ib := ab.k Z
 have jb := Ya.k Z
 intro m4 kb
 obtain ⟨ha, ia, T, mb⟩ := fb.blk kb eb 5
 have ja := hb.k T
 have nb := ib.k T
 have ob := jb.k T
 have pb := gb.k T
 refine ⟨_, _, _, _, _, _, _, _, _, _, _, _, _, ja.bk.ra, ?_⟩
 obtain ⟨Gc, qb, hp⟩ := bsome hp
 refine s_truths (w := w) ia.pre ha111 ha112 qb fun Rc Hc Ic rb sb => ?_
 obtain ⟨tb, u⟩ := ia.callG rb ha
 have ka := ja.k u
 have la := nb.k u
 have ma := ob.k u
 have na := pb.k u
 have oa := mb.k u
 refine ⟨_, rfl, ?_⟩
 refine range_st (α := Trh) tb sb (σ := Int × Int × Int × Int × Bool) 6 (fun st bb => (False ∨ (False ∨ (False ∨ (False ∨ False))))) (fun st gG gF gT gM => (Lb gG gF gT gM 1 m.nxt 13 [(Il w.s.Wide), (Il w.s.High), (Il w.s.Fall), (Il w.s.A.Lo), (Il w.s.A.Hi), (Il w.s.B.Lo), (Il w.s.B.Hi), (Il w.s.Half.Lo), (Il w.s.Half.Hi), (Il w.s.Peak.Lo), (Il w.s.Peak.Hi), ca111, ca112]) ∧ (Lb gG gF gT gM 2 m0.nxt 4 [(Il r.X.Lo), (Il r.X.Hi), (Il r.Y.Lo), (Il r.Y.Hi)]) ∧ (Lb gG gF gT gM 3 m1.nxt 1 [(.bool inn)]) ∧ (Lb gG gF gT gM 4 m2.nxt 4 [(Il st.1), (Il st.2.1), (Il st.2.2.1), (Il st.2.2.2.1)]) ∧ (Lb gG gF gT gM 5 m3.nxt 1 [(.bool st.2.2.2.2)])) (fun rr_ st => pwitness_L0 w r inn rr_ st.1 st.2.1 st.2.2.1 st.2.2.2.1 st.2.2.2.2 = some rz) (fun ex st => (match ex with | .ret => (0 : Nat) = 0 ∧ pwitness_L0_xret st.1 st.2.1 st.2.2.1 st.2.2.2.1 st.2.2.2.2 = some rz | _ => False)) (fun st => (Gud.and (Gud.lb ka.bk.lt (by decide)) (Gud.and (Gud.lb la.bk.lt (by decide)) (Gud.and (Gud.lb ma.bk.lt (by decide)) (Gud.and (Gud.lb na.bk.lt (by decide)) (Gud.lb oa.bk.lt (by decide))))))) (st0 := ((0 : Int), (0 : Int), (0 : Int), (0 : Int), false)) (τ := ha) ⟨ka, la, ma, na, oa⟩ hp ?_ ?_ ?_ ?_
 ·intro a ub st F x aa G Jc Cc Dc Ec vb wb hA Ba hp Ca ba
  obtain ⟨e, g, h, i, l⟩ := st
  obtain ⟨n, o, p, b, d⟩ := hA
  replace n : Lb G F x aa 1 m.nxt 13 [(Il w.s.Wide), (Il w.s.High), (Il w.s.Fall), (Il w.s.A.Lo), (Il w.s.A.Hi), (Il w.s.B.Lo), (Il w.s.B.Hi), (Il w.s.Half.Lo), (Il w.s.Half.Hi), (Il w.s.Peak.Lo), (Il w.s.Peak.Hi), ca111, ca112] := n
  replace o : Lb G F x aa 2 m0.nxt 4 [(Il r.X.Lo), (Il r.X.Hi), (Il r.Y.Lo), (Il r.Y.Hi)] := o
  replace p : Lb G F x aa 3 m1.nxt 1 [(.bool inn)] := p
  replace b : Lb G F x aa 4 m2.nxt 4 [(Il e), (Il g), (Il h), (Il i)] := b
  replace d : Lb G F x aa 5 m3.nxt 1 [(.bool l)] := d
  replace hp : pwitness_L0 w r inn (a :: ub) e g h i l = some rz := hp
  rw [pwitness_L0] at hp
  refine ⟨_, _, _, _, rfl, ?_⟩
  intro Tc xb
  obtain ⟨yb, zb, y, Ab⟩ := vb.blk xb x 7
  have Bb := n.k y
  have Cb := o.k y
  have Db := p.k y
  have Eb := b.k y
  have Fb := d.k y
  have Da := Ba.k y
  obtain ⟨Gb, Hb, Ib, z, Jb⟩ := Ab.sto zb [(Il a.A), (Il a.B), (Il a.Half), (Il a.Peak)]
  have Kb := Bb.k z
  have Mb := Cb.k z
  have Nb := Db.k z
  have Ob := Eb.k z
  have Pb := Fb.k z
  have Ea := Da.k z
  refine ⟨Gb, Hb, ?_⟩
  refine Ca _ _ _ _ Ib Ea fun Uc Kc pa D Fa ca => ?_
  have qa := Kb.k D
  have sa := Mb.k D
  have ta := Nb.k D
  have Qb := Ob.k D
  have Rb := Pb.k D
  have ua := Jb.k D
  refine ⟨trivial, _, _, _, _, _, _, _, _, _, _, _, _, qa.bk.rp (k := 0) (j := 12) rfl (by omega), _, _, _, _, ua.bk.ra, _, _, _, _, sa.bk.ra, _, ta.bk.rc rfl, ?_⟩
  obtain ⟨Lc, Sb, hp⟩ := bsome hp
  refine s_reaches (s := w.s) (t := a) (r := r) (inn := inn) pa.pre (ha111.sub (Sub.trans u.fs wb)) Sb fun Vc Tb => ?_
  obtain ⟨va, q⟩ := pa.call Tb yb
  have wa := qa.k q
  have xa := sa.k q
  have ya := ta.k q
  have za := Qb.k q
  have Aa := Rb.k q
  have Ub := ua.k q
  have da := Fa.k q
  refine ⟨_, rfl, ?_⟩
  refine ifbb hp (fun Vb hp => ?_) fun Vb hp => ?_; rotate_left
  ·exact ba .nrm (e, g, h, i, l) _ _ _ _ va ⟨wa, xa, ya, za, Aa⟩ da ca hp
  refine ⟨_, _, _, _, Ub.bk.ra, ?_⟩
  obtain ⟨Wb, Xb, Yb, I, Zb⟩ := za.sto va [(Il a.A), (Il a.B), (Il a.Half), (Il a.Peak)]
  have ac := wa.k I
  have bc := xa.k I
  have cc := ya.k I
  have dc := Aa.k I
  have Ga := da.k I
  refine ⟨Wb, Xb, ?_⟩
  obtain ⟨ec, fc, gc, J, hc⟩ := dc.sto Yb [(.bool true)]
  have ic := ac.k J
  have jc := bc.k J
  have kc := cc.k J
  have lc := Zb.k J
  have Ha := Ga.k J
  refine ⟨ec, fc, ?_⟩
  exact ba .ret (a.A, a.B, a.Half, a.Peak, true) _ _ _ _ gc ⟨ic, jc, kc, lc, hc⟩ Ha ca ⟨rfl, hp⟩
 ·intro st N O ea nc Nc hA hp
  obtain ⟨e, g, h, i, l⟩ := st
  replace hp : pwitness_L0 w r inn [] e g h i l = some rz := hp
  obtain ⟨n, o, p, b, d⟩ := hA
  replace n : Lb (Fm.of m) N O ea 1 m.nxt 13 [(Il w.s.Wide), (Il w.s.High), (Il w.s.Fall), (Il w.s.A.Lo), (Il w.s.A.Hi), (Il w.s.B.Lo), (Il w.s.B.Hi), (Il w.s.Half.Lo), (Il w.s.Half.Hi), (Il w.s.Peak.Lo), (Il w.s.Peak.Hi), ca111, ca112] := n
  replace o : Lb (Fm.of m) N O ea 2 m0.nxt 4 [(Il r.X.Lo), (Il r.X.Hi), (Il r.Y.Lo), (Il r.Y.Hi)] := o
  replace p : Lb (Fm.of m) N O ea 3 m1.nxt 1 [(.bool inn)] := p
  replace b : Lb (Fm.of m) N O ea 4 m2.nxt 4 [(Il e), (Il g), (Il h), (Il i)] := b
  replace d : Lb (Fm.of m) N O ea 5 m3.nxt 1 [(.bool l)] := d
  rw [pwitness_L0] at hp
  obtain ⟨oc, pc, qc, sc, tc⟩ := b.sto nc [(Il 0), (Il 0), (Il 0), (Il 0)]
  have uc := d.k sc
  refine ⟨oc, pc, ?_⟩
  obtain ⟨vc, wc, xc, yc, zc⟩ := uc.sto qc [(.bool false)]
  have Ac := tc.k yc
  refine ⟨vc, wc, ?_⟩
  refine ⟨_, _, _, _, Ac.bk.ra, _, zc.bk.rc rfl, ?_⟩
  obtain rfl := Option.some.inj hp
  exact hq _ xc.ext'
 ·intro id st _ _ _ _ _ _ hn; first | exact hn.elim | (cases hn)
 ·intro st P S fa Bc Oc hA hn
  obtain ⟨e, g, h, i, l⟩ := st
  obtain ⟨hid, hp⟩ := hn
  replace hp : pwitness_L0_xret e g h i l = some rz := hp
  unfold pwitness_L0_xret at hp
  obtain ⟨n, o, p, b, d⟩ := hA
  replace n : Lb (Fm.of m) P S fa 1 m.nxt 13 [(Il w.s.Wide), (Il w.s.High), (Il w.s.Fall), (Il w.s.A.Lo), (Il w.s.A.Hi), (Il w.s.B.Lo), (Il w.s.B.Hi), (Il w.s.Half.Lo), (Il w.s.Half.Hi), (Il w.s.Peak.Lo), (Il w.s.Peak.Hi), ca111, ca112] := n
  replace o : Lb (Fm.of m) P S fa 2 m0.nxt 4 [(Il r.X.Lo), (Il r.X.Hi), (Il r.Y.Lo), (Il r.Y.Hi)] := o
  replace p : Lb (Fm.of m) P S fa 3 m1.nxt 1 [(.bool inn)] := p
  replace b : Lb (Fm.of m) P S fa 4 m2.nxt 4 [(Il e), (Il g), (Il h), (Il i)] := b
  replace d : Lb (Fm.of m) P S fa 5 m3.nxt 1 [(.bool l)] := d
  refine ⟨_, _, _, _, b.bk.ra, _, d.bk.rc rfl, ?_⟩
  obtain rfl := Option.some.inj hp
  exact hq _ Bc.ext'
theorem s_bA {t : Trh} {m f : M} {Q : V → M → Prop} {rz : Int} (hS : Pre f m)  (hp : pbA t = some rz) (hq : ∀ m', Ext m m' → Q (.c (Il rz)) m') : Wc prog tbl 93 [.agg 4 [(Il t.A), (Il t.B), (Il t.Half), (Il t.Peak)]] m Q := by
 have h := hS.st
 obtain ⟨i, _⟩ : ∃ τ : Nat → Nat, True := ⟨fun _ => 0, trivial⟩
 refine w93 ?_
 unfold pbA at hp
 intro j a
 obtain ⟨e, b, g, d⟩ := h.blk a i 1
 refine ⟨trivial, _, d.bk.rc rfl, ?_⟩
 obtain rfl := Option.some.inj hp
 exact hq _ b.ext'
theorem s_bB {t : Trh} {m f : M} {Q : V → M → Prop} {rz : Int} (hS : Pre f m)  (hp : pbB t = some rz) (hq : ∀ m', Ext m m' → Q (.c (Il rz)) m') : Wc prog tbl 94 [.agg 4 [(Il t.A), (Il t.B), (Il t.Half), (Il t.Peak)]] m Q := by
 have h := hS.st
 obtain ⟨i, _⟩ : ∃ τ : Nat → Nat, True := ⟨fun _ => 0, trivial⟩
 refine w94 ?_
 unfold pbB at hp
 intro j a
 obtain ⟨e, b, g, d⟩ := h.blk a i 1
 refine ⟨trivial, _, d.bk.rc rfl, ?_⟩
 obtain rfl := Option.some.inj hp
 exact hq _ b.ext'
theorem s_bHalf {t : Trh} {m f : M} {Q : V → M → Prop} {rz : Int} (hS : Pre f m)  (hp : pbHalf t = some rz) (hq : ∀ m', Ext m m' → Q (.c (Il rz)) m') : Wc prog tbl 95 [.agg 4 [(Il t.A), (Il t.B), (Il t.Half), (Il t.Peak)]] m Q := by
 have h := hS.st
 obtain ⟨i, _⟩ : ∃ τ : Nat → Nat, True := ⟨fun _ => 0, trivial⟩
 refine w95 ?_
 unfold pbHalf at hp
 intro j a
 obtain ⟨e, b, g, d⟩ := h.blk a i 1
 refine ⟨trivial, _, d.bk.rc rfl, ?_⟩
 obtain rfl := Option.some.inj hp
 exact hq _ b.ext'
theorem s_bPeak {t : Trh} {m f : M} {Q : V → M → Prop} {rz : Int} (hS : Pre f m)  (hp : pbPeak t = some rz) (hq : ∀ m', Ext m m' → Q (.c (Il rz)) m') : Wc prog tbl 96 [.agg 4 [(Il t.A), (Il t.B), (Il t.Half), (Il t.Peak)]] m Q := by
 have h := hS.st
 obtain ⟨i, _⟩ : ∃ τ : Nat → Nat, True := ⟨fun _ => 0, trivial⟩
 refine w96 ?_
 unfold pbPeak at hp
 intro j a
 obtain ⟨e, b, g, d⟩ := h.blk a i 1
 refine ⟨trivial, _, d.bk.rc rfl, ?_⟩
 obtain rfl := Option.some.inj hp
 exact hq _ b.ext'
theorem s_cloneC {s : List Crd} {ca100 : C} {m f : M} {Q : V → M → Prop} {rz : List Crd} (hS : Pre f m) (ha100 : Sl f ca100 s) (hp : pcloneC s = some rz) (hq : ∀ m' f' c0, Grw m f m' f' → Sl f' c0 rz → Q (.c c0) m') : Wc prog tbl 97 [.c ca100] m Q := by
 have r := hS.st
 obtain ⟨A, _⟩ : ∃ τ : Nat → Nat, True := ⟨fun _ => 0, trivial⟩
 refine w97 ?_
 unfold pcloneC at hp
 refine ⟨(okN_sl ha100), (okN_sl ha100), trivial, (Bool.or_true _), ?_⟩
 cases b : isNilC ca100 with
 | true =>
  refine ifB_t' ?_
  obtain rfl := sl_nil_of ha100 b
  obtain ⟨_, hp⟩ := gd_some hp
  obtain rfl := Option.some.inj hp
  exact hq _ _ .sl0 r.grw (Sl.nil _)
 | false =>
  refine ifB_f' ?_
  intro B d
  obtain ⟨t, e, u, g⟩ := Ow.lit0 (α := Crd) r A 1 d
  obtain ⟨h, hp⟩ := gd_some hp
  obtain ⟨a, i, x, j, l, y, n⟩ := g.appL ta35 e ha100 h
  refine ⟨a, i, j, ?_⟩
  obtain ⟨o, p, z, q⟩ := n.freeze l
  obtain rfl := Option.some.inj hp
  exact hq _ o a p.grw q
theorem s_Bounds {s : Stm} {ca111 : C} {m f : M} {Q : V → M → Prop} {rz : Stm × Int} (hS : Pre f m) (ha111 : Sl f ca111 s.Cards) (hp : pBounds s = some rz) (hq : ∀ m' f' c11, Grw m f m' f' → Sl f' c11 rz.1.Cards → Q (.tup [.agg 12 [(Il rz.1.Wide), (Il rz.1.High), (Il rz.1.Fall), (Il rz.1.A.Lo), (Il rz.1.A.Hi), (Il rz.1.B.Lo), (Il rz.1.B.Hi), (Il rz.1.Half.Lo), (Il rz.1.Half.Hi), (Il rz.1.Peak.Lo), (Il rz.1.Peak.Hi), c11], .c (Il rz.2)]) m') : Wc prog tbl 47 [.agg 12 [(Il s.Wide), (Il s.High), (Il s.Fall), (Il s.A.Lo), (Il s.A.Hi), (Il s.B.Lo), (Il s.B.Hi), (Il s.Half.Lo), (Il s.Half.Hi), (Il s.Peak.Lo), (Il s.Peak.Hi), ca111]] m Q := by
 have S0 := hS.st
 obtain ⟨τ0, _⟩ : ∃ τ : Nat → Nat, True := ⟨fun _ => 0, trivial⟩
 refine w47 ?_
 unfold pBounds at hp
 intro m0 qa
 obtain ⟨sa, ta, Vb, ua⟩ := S0.blk qa τ0 1
 intro m1 va
 obtain ⟨O, P, wa, xa⟩ := ta.blk va sa 2
 have S := ua.k wa
 refine ⟨_, _, _, _, _, _, _, _, _, _, _, _, S.bk.ra, ?_⟩
 obtain ⟨a, ya, hp⟩ := bsome hp
 refine s_openTrue (s := s) (asked := []) P.pre ha111 (Sl.nil _) ya fun dc h za Aa Ba j l => ?_
 obtain ⟨Ca, x⟩ := P.callG Ba O
 have Da := S.k x
 have Ea := xa.k x
 refine ⟨_, _, _, _, _, _, _, _, _, _, _, _, _, _, rfl, ?_⟩
 intro ec Fa
 obtain ⟨i, Ga, T, Ha⟩ := Ca.blk Fa O 3
 have Ia := Da.k T
 have Ja := Ea.k T
 obtain ⟨Ka, La, y, Y, Z⟩ := Ha.sto Ga [(Il a.1.s.Wide), (Il a.1.s.High), (Il a.1.s.Fall), (Il a.1.s.A.Lo), (Il a.1.s.A.Hi), (Il a.1.s.B.Lo), (Il a.1.s.B.Hi), (Il a.1.s.Half.Lo), (Il a.1.s.Half.Hi), (Il a.1.s.Peak.Lo), (Il a.1.s.Peak.Hi), za, Aa]
 have Ma := Ia.k Y
 have aa := Ja.k Y
 refine ⟨Ka, La, ?_⟩
 refine ifnd hp (fun Na hp => ?_) fun Na hp => ?_
 ·obtain ⟨Oa, Pa, Qa, Wb, Ra⟩ := aa.sto y [(Il 0), (Il 0), (Il 0), (Il 0), (Il 0), (Il 0), (Il 0), (Il 0), (Il 0), (Il 0), (Il 0), .sl0]
  refine ⟨Oa, Pa, ?_⟩
  refine ⟨_, _, _, _, _, _, _, _, _, _, _, _, Ra.bk.ra, ?_⟩
  obtain rfl := Option.some.inj hp
  exact hq _ h .sl0 Qa.grw (Sl.nil _)
 refine ⟨_, _, _, _, _, _, _, _, _, _, _, _, _, Z.bk.ra, ?_⟩
 have ma : Fv_Trh_Int h ((C.fn (Fn.func 93) [] [])) (fun n => pbA n) := by
  intro f' m' n r Q hs hpre  hg hq
  exact s_bA hpre  hg hq
 obtain ⟨b, Sa, hp⟩ := bsome hp
 refine s_span (w := a.1) (number := (fun n => pbA n)) y.pre j l ma Sa fun fc Ta => ?_
 obtain ⟨Ua, z⟩ := y.call Ta i
 have Va := Ma.k z
 have Wa := aa.k z
 have Xa := Z.k z
 refine ⟨_, _, rfl, trivial, ?_⟩
 obtain ⟨Ya, Za, ba, ca, D⟩ := Va.stoP Ua 3 [(Il b.Lo), (Il b.Hi)] (Nat.le_of_ble_eq_true rfl) rfl
 replace D : Lb _ _ _ _ _ _ _ [(Il s.Wide), (Il s.High), (Il s.Fall), (Il b.Lo), (Il b.Hi), (Il s.B.Lo), (Il s.B.Hi), (Il s.Half.Lo), (Il s.Half.Hi), (Il s.Peak.Lo), (Il s.Peak.Hi), ca111] := D
 have ab := Wa.k ca
 have da := Xa.k ca
 refine ⟨Ya, Za, ?_⟩
 refine ⟨_, _, _, _, _, _, _, _, _, _, _, _, _, da.bk.ra, ?_⟩
 have na : Fv_Trh_Int h ((C.fn (Fn.func 94) [] [])) (fun o => pbB o) := by
  intro f' m' o r Q hs hpre  hg hq
  exact s_bB hpre  hg hq
 obtain ⟨d, bb, hp⟩ := bsome hp
 refine s_span (w := a.1) (number := (fun o => pbB o)) ba.pre j l na bb fun gc cb => ?_
 obtain ⟨db, F⟩ := ba.call cb i
 have eb := D.k F
 have fb := ab.k F
 have gb := da.k F
 refine ⟨_, _, rfl, trivial, ?_⟩
 obtain ⟨hb, ib, ea, fa, G⟩ := eb.stoP db 5 [(Il d.Lo), (Il d.Hi)] (Nat.le_of_ble_eq_true rfl) rfl
 replace G : Lb _ _ _ _ _ _ _ [(Il s.Wide), (Il s.High), (Il s.Fall), (Il b.Lo), (Il b.Hi), (Il d.Lo), (Il d.Hi), (Il s.Half.Lo), (Il s.Half.Hi), (Il s.Peak.Lo), (Il s.Peak.Hi), ca111] := G
 have jb := fb.k fa
 have ga := gb.k fa
 refine ⟨hb, ib, ?_⟩
 refine ⟨_, _, _, _, _, _, _, _, _, _, _, _, _, ga.bk.ra, ?_⟩
 have oa : Fv_Trh_Int h ((C.fn (Fn.func 95) [] [])) (fun p => pbHalf p) := by
  intro f' m' p r Q hs hpre  hg hq
  exact s_bHalf hpre  hg hq
 obtain ⟨e, kb, hp⟩ := bsome hp
 refine s_span (w := a.1) (number := (fun p => pbHalf p)) ea.pre j l oa kb fun hc mb => ?_
 obtain ⟨nb, I⟩ := ea.call mb i
 have ob := G.k I
 have pb := jb.k I
 have qb := ga.k I
 refine ⟨_, _, rfl, trivial, ?_⟩
 obtain ⟨rb, sb, ha, ia, J⟩ := ob.stoP nb 7 [(Il e.Lo), (Il e.Hi)] (Nat.le_of_ble_eq_true rfl) rfl
 replace J : Lb _ _ _ _ _ _ _ [(Il s.Wide), (Il s.High), (Il s.Fall), (Il b.Lo), (Il b.Hi), (Il d.Lo), (Il d.Hi), (Il e.Lo), (Il e.Hi), (Il s.Peak.Lo), (Il s.Peak.Hi), ca111] := J
 have tb := pb.k ia
 have ub := qb.k ia
 refine ⟨rb, sb, ?_⟩
 refine ⟨_, _, _, _, _, _, _, _, _, _, _, _, _, ub.bk.ra, ?_⟩
 have pa : Fv_Trh_Int h ((C.fn (Fn.func 96) [] [])) (fun q => pbPeak q) := by
  intro f' m' q r Q hs hpre  hg hq
  exact s_bPeak hpre  hg hq
 obtain ⟨g, vb, hp⟩ := bsome hp
 refine s_span (w := a.1) (number := (fun q => pbPeak q)) ha.pre j l pa vb fun bc wb => ?_
 obtain ⟨xb, ja⟩ := ha.call wb i
 have yb := J.k ja
 have zb := tb.k ja
 refine ⟨_, _, rfl, trivial, ?_⟩
 obtain ⟨Ab, Bb, ka, Cb, t⟩ := yb.stoP xb 9 [(Il g.Lo), (Il g.Hi)] (Nat.le_of_ble_eq_true rfl) rfl
 replace t : Lb _ _ _ _ _ _ _ [(Il s.Wide), (Il s.High), (Il s.Fall), (Il b.Lo), (Il b.Hi), (Il d.Lo), (Il d.Hi), (Il e.Lo), (Il e.Hi), (Il g.Lo), (Il g.Hi), ca111] := t
 have Db := zb.k Cb
 refine ⟨Ab, Bb, ?_⟩
 refine ⟨trivial, _, t.bk.rc rfl, ?_⟩
 obtain ⟨Xb, Eb, hp⟩ := bsome hp
 refine s_cloneC (s := s.Cards) ka.pre (ha111.sub x.fs) Eb fun cc Fb u Gb Hb => ?_
 obtain ⟨Ib, la⟩ := ka.callG Gb i
 have Jb := t.k la
 have Kb := Db.k la
 refine ⟨_, rfl, trivial, ?_⟩
 obtain ⟨Mb, Nb, Ob, Pb, N⟩ := Jb.sto1 Ib 11 u (by simp) rfl
 replace N : Lb _ _ _ _ _ _ _ [(Il s.Wide), (Il s.High), (Il s.Fall), (Il b.Lo), (Il b.Hi), (Il d.Lo), (Il d.Hi), (Il e.Lo), (Il e.Hi), (Il g.Lo), (Il g.Hi), u] := N
 have Qb := Kb.k Pb
 refine ⟨Mb, Nb, ?_⟩
 refine ⟨_, _, _, _, _, _, _, _, _, _, _, _, N.bk.ra, ?_⟩
 obtain ⟨Rb, Sb, Tb, Yb, Ub⟩ := Qb.sto Ob [(Il s.Wide), (Il s.High), (Il s.Fall), (Il b.Lo), (Il b.Hi), (Il d.Lo), (Il d.Hi), (Il e.Lo), (Il e.Hi), (Il g.Lo), (Il g.Hi), u]
 refine ⟨Rb, Sb, ?_⟩
 refine ⟨_, _, _, _, _, _, _, _, _, _, _, _, Ub.bk.ra, ?_⟩
 obtain rfl := Option.some.inj hp
 exact hq _ Fb u Tb.grw Hb
theorem s_Verdict {s : Stm} {r : Rct} {ca111 : C} {m f : M} {Q : V → M → Prop} {rz : Int × Int} (hS : Pre f m) (ha111 : Sl f ca111 s.Cards) (hp : pVerdict s r = some rz) (hq : ∀ m', Ext m m' → Q (.tup [.c (Il rz.1), .c (Il rz.2)]) m') : Wc prog tbl 18 [.agg 12 [(Il s.Wide), (Il s.High), (Il s.Fall), (Il s.A.Lo), (Il s.A.Hi), (Il s.B.Lo), (Il s.B.Hi), (Il s.Half.Lo), (Il s.Half.Hi), (Il s.Peak.Lo), (Il s.Peak.Hi), ca111], .agg 4 [(Il r.X.Lo), (Il r.X.Hi), (Il r.Y.Lo), (Il r.Y.Hi)]] m Q := by
 have S0 := hS.st
 obtain ⟨τ0, _⟩ : ∃ τ : Nat → Nat, True := ⟨fun _ => 0, trivial⟩
 refine w18 ?_
 unfold pVerdict at hp
 intro m0 I
 obtain ⟨J, N, Ya, O⟩ := S0.blk I τ0 1
 intro m1 P
 obtain ⟨S, T, Z, h⟩ := N.blk P J 2
 have aa := O.k Z
 refine ⟨_, _, _, _, _, _, _, _, _, _, _, _, aa.bk.ra, _, _, _, _, h.bk.ra, ?_⟩
 intro jb ba
 obtain ⟨i, ca, da, ea⟩ := T.blk ba S 3
 have fa := h.k da
 obtain ⟨ga, j, n, G⟩ := ea.freeze ca
 have ha := fa.k n
 have ia : Sl ga (C.sl m1.nxt 0 1 0 (Option.some 1)) ([r] : List Rct) := Bk.sl (l := ([r] : List Rct)) G (⟨[(Il r.X.Lo), (Il r.X.Hi), (Il r.Y.Lo), (Il r.Y.Hi)], _, rfl, rfl, rfl⟩) rfl rfl _
 obtain ⟨a, ja, hp⟩ := bsome hp
 refine s_openTrue (s := s) (asked := ([r] : List Rct)) j.pre (ha111.sub n.fs) ia ja fun kb Za ka la ma o p => ?_
 obtain ⟨na, oa⟩ := j.callG ma i
 have pa := ha.k oa
 refine ⟨_, _, _, _, _, _, _, _, _, _, _, _, _, _, rfl, ?_⟩
 intro mb qa
 obtain ⟨q, sa, ta, ua⟩ := na.blk qa i 4
 have va := pa.k ta
 obtain ⟨wa, xa, e, ya, t⟩ := ua.sto sa [(Il a.1.s.Wide), (Il a.1.s.High), (Il a.1.s.Fall), (Il a.1.s.A.Lo), (Il a.1.s.A.Hi), (Il a.1.s.B.Lo), (Il a.1.s.B.Hi), (Il a.1.s.Half.Lo), (Il a.1.s.Half.Hi), (Il a.1.s.Peak.Lo), (Il a.1.s.Peak.Hi), ka, la]
 have u := va.k ya
 refine ⟨wa, xa, ?_⟩
 refine ifnd hp (fun za hp => ?_) fun za hp => ?_
 ·obtain rfl := Option.some.inj hp
  exact hq _ e.ext'
 refine ⟨_, _, _, _, _, _, _, _, _, _, _, _, _, t.bk.ra, _, _, _, _, u.bk.ra, ?_⟩
 obtain ⟨b, Aa, hp⟩ := bsome hp
 refine s_witness (w := a.1) (r := r) (inn := false) e.pre o p Aa fun nb Ba => ?_
 obtain ⟨Ca, x⟩ := e.call Ba q
 have Da := u.k x
 have Ea := t.k x
 refine ⟨_, _, _, _, _, rfl, ?_⟩
 intro ob Fa
 obtain ⟨y, Ga, z, Ha⟩ := Ca.blk Fa q 5
 have Ia := Da.k z
 have Ja := Ea.k z
 obtain ⟨Ka, La, g, D, ab⟩ := Ha.sto Ga [(Il b.1.A), (Il b.1.B), (Il b.1.Half), (Il b.1.Peak)]
 have Ma := Ia.k D
 have Na := Ja.k D
 refine ⟨Ka, La, ?_⟩
 refine ifnb hp (fun Oa hp => ?_) fun Oa hp => ?_
 ·obtain rfl := Option.some.inj hp
  exact hq _ g.ext'
 refine ⟨_, _, _, _, _, _, _, _, _, _, _, _, _, Na.bk.ra, _, _, _, _, Ma.bk.ra, ?_⟩
 obtain ⟨d, Pa, hp⟩ := bsome hp
 refine s_witness (w := a.1) (r := r) (inn := true) g.pre o p Pa fun pb Qa => ?_
 obtain ⟨Ra, bb⟩ := g.call Qa y
 refine ⟨_, _, _, _, _, rfl, ?_⟩
 intro qb Sa
 obtain ⟨cb, Ta, db, Ua⟩ := Ra.blk Sa y 6
 obtain ⟨Va, Wa, F, eb, fb⟩ := Ua.sto Ta [(Il d.1.A), (Il d.1.B), (Il d.1.Half), (Il d.1.Peak)]
 refine ⟨Va, Wa, ?_⟩
 refine ifnb hp (fun Xa hp => ?_) fun Xa hp => ?_
 ·obtain rfl := Option.some.inj hp
  exact hq _ F.ext'
 obtain rfl := Option.some.inj hp
 exact hq _ F.ext'
theorem s_canLeave {w : Wk} {list : List Int} {ca111 ca112 ca200 : C} {m f : M} {Q : V → M → Prop} {rz : Bool} (hS : Pre f m) (ha111 : Sl f ca111 w.s.Cards) (ha112 : Mi f ca112 w.right) (ha200 : Sl f ca200 list) (hp : pcanLeave w list = some rz) (hq : ∀ m', Ext m m' → Q (.c (.bool rz)) m') : Wc prog tbl 85 [.agg 13 [(Il w.s.Wide), (Il w.s.High), (Il w.s.Fall), (Il w.s.A.Lo), (Il w.s.A.Hi), (Il w.s.B.Lo), (Il w.s.B.Hi), (Il w.s.Half.Lo), (Il w.s.Half.Hi), (Il w.s.Peak.Lo), (Il w.s.Peak.Hi), ca111, ca112], .c ca200] m Q := by
 have S0 := hS.st
 obtain ⟨τ0, _⟩ : ∃ τ : Nat → Nat, True := ⟨fun _ => 0, trivial⟩
 refine w85 ?_
 unfold pcanLeave at hp
 intro m0 O
 obtain ⟨F, G, Ca, I⟩ := S0.blk O τ0 1
 refine ⟨_, _, _, _, _, _, _, _, _, _, _, _, _, I.bk.ra, ?_⟩
 obtain ⟨i, P, hp⟩ := bsome hp
 refine s_allCards (w := w) G.pre ha111 ha112 P fun ya S => ?_
 obtain ⟨T, Y⟩ := G.call S F
 have Z := I.k Y
 refine ⟨_, _, _, _, _, _, rfl, ?_⟩
 intro Ha aa
 obtain ⟨ba, ca, da, ea⟩ := T.blk aa F 2
 have fa := Z.k da
 obtain ⟨ga, ha, ia, ja, o⟩ := ea.sto ca [(.bool i.c0), (.bool i.c1), (.bool i.c2), (.bool i.c3), (.bool i.c4), (.bool i.c5)]
 have p := fa.k ja
 refine ⟨ga, ha, ?_⟩
 refine ⟨ha200.isSl, ?_⟩
 intro za xa
 have hgo : ∀ (r : Nat) (J : Int) (a : Bool) (b : Bool) (d : Bool) (e : Bool) (g : Bool) (h : Bool) (t : M) (j : Nat → Nat), St (Fm.of m) f f t → Lb (Fm.of m) f j t 1 m.nxt 13 [(Il w.s.Wide), (Il w.s.High), (Il w.s.Fall), (Il w.s.A.Lo), (Il w.s.A.Hi), (Il w.s.B.Lo), (Il w.s.B.Hi), (Il w.s.Half.Lo), (Il w.s.Half.Hi), (Il w.s.Peak.Lo), (Il w.s.Peak.Hi), ca111, ca112] → Lb (Fm.of m) f j t 2 ya.nxt 6 [(.bool a), (.bool b), (.bool d), (.bool e), (.bool g), (.bool h)] → pcanLeave_L0 w list r a b d e g h J = some rz → za [.c (Il J)] t := by
  intro r
  induction r with
  | zero => intro J a b d e g h t j q p o hp; cases hp
  | succ r ka =>
   intro J a b d e g h t j q p o hp
   refine xa _ _ ?_
   rw [pcanLeave_L0] at hp
   try rw [ha200.slLen]
   refine ifd hp (fun la hp => ?_) fun la hp => ?_; rotate_left
   ·refine ⟨_, _, _, _, _, _, _, _, _, _, _, _, _, p.bk.ra, _, _, _, _, _, _, o.bk.ra, ?_⟩
    obtain ⟨Da, ma, hp⟩ := bsome hp
    refine s_canHold (w := w) (these := ({ c0 := a, c1 := b, c2 := d, c3 := e, c4 := g, c5 := h } : Cds)) q.pre ha111 ha112 ma fun Ia na => ?_
    obtain ⟨oa, Ea⟩ := q.call na j
    refine ⟨_, rfl, ?_⟩
    obtain rfl := Option.some.inj hp
    exact hq _ oa.ext'
   obtain ⟨n, u, hp⟩ := bsome hp
   obtain ⟨Aa, N, y, u⟩ := idx_some u
   refine ⟨Aa, N, (by first | exact y | (rw [ha200.slLen]; exact y)), _, (ha200.rdI u q.sub), trivial, ?_⟩
   obtain ⟨pa, hp⟩ := gd_some hp
   obtain ⟨Ba, z, D⟩ := arr_no pa
   refine ⟨Ba, z, D, ?_⟩
   obtain ⟨qa, sa, ta, ua, x⟩ := o.sta q (pre := []) (post := []) (l := ([a, b, d, e, g, h] : List Bool)) (enc := C.bool) rfl rfl z D false
   replace x : Lb _ _ _ _ _ _ _ [(.bool (sti n 0 false a)), (.bool (sti n 1 false b)), (.bool (sti n 2 false d)), (.bool (sti n 3 false e)), (.bool (sti n 4 false g)), (.bool (sti n 5 false h))] := x
   have va := p.k ua
   refine ⟨qa, sa, ?_⟩
   refine gdi hp fun wa hp => ?_
   exact ka _ _ _ _ _ _ _ _ j ta va x hp
 exact hgo _ _ _ _ _ _ _ _ _ ba ia p o hp
theorem s_shortest1 {list : List Int} {q : Qst} {b0 : Nat} {w : Wk} {b1 : Nat} {ca100 cb000 cb111 cb112 : C} {m f : M} {Q : V → M → Prop} {rz : Bool} (hS : Pre f m) (ha100 : Sl f ca100 list) (hb0 : Bk f b0 1 [cb000]) (hb000 : Fv_Wk_LInt_Bool f cb000 q.must) (hb1 : Bk f b1 13 [(Il w.s.Wide), (Il w.s.High), (Il w.s.Fall), (Il w.s.A.Lo), (Il w.s.A.Hi), (Il w.s.B.Lo), (Il w.s.B.Hi), (Il w.s.Half.Lo), (Il w.s.Half.Hi), (Il w.s.Peak.Lo), (Il w.s.Peak.Hi), cb111, cb112]) (hb111 : Sl f cb111 w.s.Cards) (hb112 : Mi f cb112 w.right) (hp : pshortest1 list q w = some rz) (hq : ∀ m', Ext m m' → Q (.c (.bool rz)) m') : Wc prog tbl 119 [.c ca100, .c (.ptr b0 0), .c (.ptr b1 0)] m Q := by
 have a := hS.st
 obtain ⟨i, _⟩ : ∃ τ : Nat → Nat, True := ⟨fun _ => 0, trivial⟩
 refine c119 ?_
 unfold pshortest1 at hp
 refine ⟨trivial, _, (hb0.sub a.sub).rc rfl, _, _, _, _, _, _, _, _, _, _, _, _, _, (hb1.sub a.sub).ra, ?_⟩
 obtain ⟨g, b, hp⟩ := bsome hp
 refine hb000 _ _ _ _ _ _ _ _ _ (Sub.refl _) a.pre hb111 hb112 ha100 b fun j d => ?_
 obtain ⟨e, h⟩ := a.call d i
 refine ⟨_, rfl, ?_⟩
 obtain rfl := Option.some.inj hp
 exact hq _ e.ext'
theorem s_shortestX {w : Wk} {q : Qst} {ca111 ca112 ca200 : C} {m f : M} {Q : V → M → Prop} {rz : List Int} (hS : Pre f m) (ha111 : Sl f ca111 w.s.Cards) (ha112 : Mi f ca112 w.right) (ha200 : Fv_Wk_LInt_Bool f ca200 q.must) (hp : pshortestX w q = some rz) (hq : ∀ m' f' c0, Grw m f m' f' → Sl f' c0 rz → Q (.c c0) m') : Wc prog tbl 84 [.agg 13 [(Il w.s.Wide), (Il w.s.High), (Il w.s.Fall), (Il w.s.A.Lo), (Il w.s.A.Hi), (Il w.s.B.Lo), (Il w.s.B.Hi), (Il w.s.Half.Lo), (Il w.s.Half.Hi), (Il w.s.Peak.Lo), (Il w.s.Peak.Hi), ca111, ca112], .agg 1 [ca200]] m Q := by
 have S0 := hS.st
 obtain ⟨τ0, _⟩ : ∃ τ : Nat → Nat, True := ⟨fun _ => 0, trivial⟩
 refine w84 ?_
 unfold pshortestX at hp
 intro m0 l
 obtain ⟨o, p, Z, t⟩ := S0.blk l τ0 1
 intro m1 u
 obtain ⟨x, y, z, D⟩ := p.blk u o 2
 have e := t.k z
 refine ⟨trivial, trivial, _, e.bk.rc rfl, ha111.isSl, ?_⟩
 try rw [ha111.slLen]
 obtain ⟨aa, F, a, h⟩ := D.freeze y
 have G := e.k a
 obtain ⟨I, g, b, i⟩ := G.freeze F
 have j : Fv_LInt_Bool I ((C.fn (Fn.func 119) [] [(W.c (C0.ptr m0.nxt 0)), (W.c (C0.ptr m.nxt 0))])) (fun d => pshortest1 d q w) := by
  intro f' m' d ba r Q hs hpre J hg hq
  exact s_shortest1 hpre J ((h.sub b.fs).sub hs) ((ha200.sub (Sub.trans a.fs b.fs)).sub hs) (i.sub hs) ((ha111.sub (Sub.trans a.fs b.fs)).sub hs) ((ha112.sub (Sub.trans a.fs b.fs)).sub hs) hg hq
 obtain ⟨ca, N, hp⟩ := bsome hp
 refine s_shortest (n := (w.s.Cards.length : Int)) (passes := (fun d => pshortest1 d q w)) g.pre j N fun m4 O P S T => ?_
 obtain ⟨Y, da⟩ := g.callG S x
 refine ⟨_, rfl, ?_⟩
 obtain rfl := Option.some.inj hp
 exact hq _ O P Y.grw T
theorem s_Leave {s : Stm} {ca111 : C} {m f : M} {Q : V → M → Prop} {rz : List Int × Int} (hS : Pre f m) (ha111 : Sl f ca111 s.Cards) (hp : pLeave s = some rz) (hq : ∀ m' f' c0, Grw m f m' f' → Sl f' c0 rz.1 → Q (.tup [.c c0, .c (Il rz.2)]) m') : Wc prog tbl 36 [.agg 12 [(Il s.Wide), (Il s.High), (Il s.Fall), (Il s.A.Lo), (Il s.A.Hi), (Il s.B.Lo), (Il s.B.Hi), (Il s.Half.Lo), (Il s.Half.Hi), (Il s.Peak.Lo), (Il s.Peak.Hi), ca111]] m Q := by
 have S0 := hS.st
 obtain ⟨τ0, _⟩ : ∃ τ : Nat → Nat, True := ⟨fun _ => 0, trivial⟩
 refine w36 ?_
 unfold pLeave at hp
 intro m0 l
 obtain ⟨d, g, aa, h⟩ := S0.blk l τ0 1
 refine ⟨_, _, _, _, _, _, _, _, _, _, _, _, h.bk.ra, ?_⟩
 obtain ⟨ba, n, hp⟩ := bsome hp
 refine s_check (s := s) g.pre ha111 n fun ma o => ?_
 obtain ⟨e, p⟩ := g.call o d
 have t := h.k p
 refine ⟨_, rfl, ?_⟩
 refine ifnd hp (fun u hp => ?_) fun u hp => ?_
 ·obtain rfl := Option.some.inj hp
  exact hq _ f .sl0 e.grw (Sl.nil _)
 refine ⟨_, _, _, _, _, _, _, _, _, _, _, _, t.bk.ra, ?_⟩
 obtain ⟨x, y, hp⟩ := bsome hp
 refine s_open (s := s) e.pre ha111 y fun na z ca da D F G => ?_
 obtain ⟨i, ea⟩ := e.callG D d
 refine ⟨_, _, _, _, _, _, _, _, _, _, _, _, _, rfl, ?_⟩
 have j : Fv_Wk_LInt_Bool z ((C.fn (Fn.func 85) [] [])) (fun a b => pcanLeave a b) := by
  intro f' m' a b fa ga ha r Q hs hpre I J N hg hq
  exact s_canLeave hpre I J N hg hq
 obtain ⟨ia, O, hp⟩ := bsome hp
 refine s_shortestX (w := x) (q := ({ must := (fun a b => pcanLeave a b) } : Qst)) i.pre F G j O fun oa P S T Y => ?_
 obtain ⟨Z, ja⟩ := i.callG T d
 refine ⟨_, rfl, ?_⟩
 obtain rfl := Option.some.inj hp
 exact hq _ P S Z.grw Y
set_option maxHeartbeats 4000000 in
theorem s_StormWider {s : Stm} {which : Int} {inc : Int} {whr : Int} {ca111 : C} {m f : M} {Q : V → M → Prop} {rz : Bool} (hS : Pre f m) (ha111 : Sl f ca111 s.Cards) (hp : pStormWider s which inc whr = some rz) (hq : ∀ m', Ext m m' → Q (.c (.bool rz)) m') : Wc prog tbl 9 [.agg 12 [(Il s.Wide), (Il s.High), (Il s.Fall), (Il s.A.Lo), (Il s.A.Hi), (Il s.B.Lo), (Il s.B.Hi), (Il s.Half.Lo), (Il s.Half.Hi), (Il s.Peak.Lo), (Il s.Peak.Hi), ca111], .c (.int .u8 which), .c (.int .u8 inc), .c (.int .u16 whr)] m Q := by
 have S0 := hS.st
 obtain ⟨τ0, _⟩ : ∃ τ : Nat → Nat, True := ⟨fun _ => 0, trivial⟩
 refine w9 ?_
 unfold pStormWider at hp
 intro m0 sg
 obtain ⟨jc, Xc, zy, Yc⟩ := S0.blk sg τ0 1
 refine ⟨_, _, _, _, _, _, _, _, _, _, _, _, Yc.bk.ra, ?_⟩
 obtain ⟨Ay, tg, hp⟩ := bsome hp
 refine s_lReady (s := s) Xc.pre ha111 tg fun pE ug => ?_
 obtain ⟨kc, vg⟩ := Xc.call ug jc
 have Zc := Yc.k vg
 refine ⟨_, rfl, ?_⟩
 refine ifnb hp (fun wg hp => ?_) fun wg hp => ?_
 ·obtain ⟨By, xg, hp⟩ := bsome hp
  refine s_awake kc.pre  xg fun qE zg => ?_
  obtain ⟨Ag, Cy⟩ := kc.call zg jc
  refine ⟨_, rfl, ?_⟩
  obtain rfl := Option.some.inj hp
  exact hq _ Ag.ext'
 refine ⟨_, _, _, _, _, _, _, _, _, _, _, _, Zc.bk.ra, ?_⟩
 intro rE Bg
 obtain ⟨Cg, Dg, Eg, Fg⟩ := kc.blk Bg jc 2
 have Gg := Zc.k Eg
 obtain ⟨Hg, Ig, Jg, Kg, Lg⟩ := Fg.sto Dg [(Il s.Wide), (Il s.High), (Il s.Fall), (Il s.A.Lo), (Il s.A.Hi), (Il s.B.Lo), (Il s.B.Hi), (Il s.Half.Lo), (Il s.Half.Hi), (Il s.Peak.Lo), (Il s.Peak.Hi), ca111]
 have Mg := Gg.k Kg
 refine ⟨Hg, Ig, ?_⟩
 intro sE Ng
 obtain ⟨Dy, Og, ad, Pg⟩ := Jg.blk Ng Cg 3
 have bd := Mg.k ad
 have Qg := Lg.k ad
 refine ⟨trivial, _, bd.bk.rc rfl, ?_⟩
 have Sg := Lb.ow0 (α := Crd) Pg
 obtain ⟨Tg, hp⟩ := gd_some hp
 obtain ⟨Wa, Ug, i, Vg, Wg, cd, e⟩ := Sg.appL ta24 Og ha111 Tg
 have Xg := bd.k cd
 have Zg := Qg.k cd
 refine ⟨Wa, Ug, Vg, ?_⟩
 refine ⟨trivial, ?_⟩
 obtain ⟨ah, bh, sb, dd, O⟩ := Zg.sto1 Wg 11 Wa (by simp) rfl
 replace O : Lb _ _ _ _ _ _ _ [(Il s.Wide), (Il s.High), (Il s.Fall), (Il s.A.Lo), (Il s.A.Hi), (Il s.B.Lo), (Il s.B.Hi), (Il s.Half.Lo), (Il s.Half.Hi), (Il s.Peak.Lo), (Il s.Peak.Hi), Wa] := O
 have j := Xg.k dd
 have e := e.k dd
 refine ⟨ah, bh, ?_⟩
 refine gdi hp fun ch hp => ?_
 refine gdi hp fun dh hp => ?_
 refine gdi hp fun eh hp => ?_
 refine gdi hp fun fh hp => ?_
 refine gdi hp fun gh hp => ?_
 refine gdi hp fun hh hp => ?_
 refine gdi hp fun ih hp => ?_
 refine gdi hp fun jh hp => ?_
 refine gdi hp fun kh hp => ?_
 refine gdi hp fun lh hp => ?_
 refine gdi hp fun mh hp => ?_
 refine gdi hp fun nh hp => ?_
 refine ifd hp (fun oh hp => ?_) fun oh hp => ?_
 ·refine ⟨trivial, trivial, _, j.bk.rc rfl, ?_⟩
  obtain ⟨ph, hp⟩ := gd_some hp
  refine ⟨ph, trivial, _, j.bk.rc rfl, ?_⟩
  obtain ⟨qh, hp⟩ := gd_some hp
  refine ⟨qh, trivial, trivial, _, j.bk.rc rfl, ?_⟩
  obtain ⟨rh, hp⟩ := gd_some hp
  refine ⟨rh, trivial, ?_⟩
  obtain ⟨th, uh, vh, ed, Ab⟩ := O.stoP sb 3 [(Il (max (0 : Int) (s.A.Lo - ((wrapZ .i64 inc) % (2 : Int))))), (Il (min (s.High - (1 : Int)) (s.A.Hi + (((wrapZ .i64 inc) / (2 : Int)) % (2 : Int)))))] (Nat.le_of_ble_eq_true rfl) rfl
  replace Ab : Lb _ _ _ _ _ _ _ [(Il s.Wide), (Il s.High), (Il s.Fall), (Il (max (0 : Int) (s.A.Lo - ((wrapZ .i64 inc) % (2 : Int))))), (Il (min (s.High - (1 : Int)) (s.A.Hi + (((wrapZ .i64 inc) / (2 : Int)) % (2 : Int))))), (Il s.B.Lo), (Il s.B.Hi), (Il s.Half.Lo), (Il s.Half.Hi), (Il s.Peak.Lo), (Il s.Peak.Hi), Wa] := Ab
  have wh := j.k ed
  have e := e.k ed
  refine ⟨th, uh, ?_⟩
  refine ⟨_, _, _, _, _, _, _, _, _, _, _, _, Ab.bk.ra, ?_⟩
  obtain ⟨Ey, fd, Xa, Bb⟩ := e.freeze vh
  have xh := wh.k Xa
  have yh := Ab.k Xa
  obtain ⟨Fy, zh, hp⟩ := bsome hp
  refine s_lReady (s := ({ Wide := s.Wide, High := s.High, Fall := s.Fall, A := ({ Lo := (max (0 : Int) (s.A.Lo - ((wrapZ .i64 inc) % (2 : Int)))), Hi := (min (s.High - (1 : Int)) (s.A.Hi + (((wrapZ .i64 inc) / (2 : Int)) % (2 : Int)))) } : Rg), B := s.B, Half := s.Half, Peak := s.Peak, Cards := ([] ++ s.Cards) } : Stm)) fd.pre Bb zh fun tE Ah => ?_
  obtain ⟨Cb, hd⟩ := fd.call Ah i
  have id := xh.k hd
  have Bh := yh.k hd
  refine ⟨_, rfl, ?_⟩
  refine ifnb hp (fun Ch hp => ?_) fun Ch hp => ?_
  ·obtain ⟨Gy, Dh, hp⟩ := bsome hp
   refine s_awake Cb.pre  Dh fun uE Eh => ?_
   obtain ⟨Fh, Hy⟩ := Cb.call Eh i
   refine ⟨_, rfl, ?_⟩
   obtain rfl := Option.some.inj hp
   exact hq _ Fh.ext'
  refine ⟨_, _, _, _, _, _, _, _, _, _, _, _, id.bk.ra, ?_⟩
  obtain ⟨Ya, Gh, hp⟩ := bsome hp
  refine s_lBox (s := s) (w := whr) Cb.pre (ha111.sub Xa.fs) Gh fun vE Hh => ?_
  obtain ⟨Ih, jd⟩ := Cb.call Hh i
  have Jh := id.k jd
  have Kh := Bh.k jd
  refine ⟨_, _, _, _, rfl, ?_⟩
  intro wE Lh
  obtain ⟨qa, Mh, kd, Nh⟩ := Ih.blk Lh i 4
  have Oh := Jh.k kd
  have Ph := Kh.k kd
  obtain ⟨Qh, Rh, ld, md, Sh⟩ := Nh.sto Mh [(Il Ya.X.Lo), (Il Ya.X.Hi), (Il Ya.Y.Lo), (Il Ya.Y.Hi)]
  have nd := Oh.k md
  have Th := Ph.k md
  refine ⟨Qh, Rh, ?_⟩
  refine ⟨_, _, _, _, _, _, _, _, _, _, _, _, nd.bk.ra, ?_⟩
  obtain ⟨Uh, Vh, hp⟩ := bsome hp
  refine s_lStorm (s := s) ld.pre (ha111.sub Xa.fs) Vh fun xE Iy Jy Wh Xh => ?_
  obtain ⟨od, P⟩ := ld.callG Wh qa
  have Yh := nd.k P
  have Zh := Th.k P
  have ai := Sh.k P
  refine ⟨_, _, _, _, _, _, _, _, _, _, _, _, rfl, ?_⟩
  obtain ⟨Ky, bi, hp⟩ := bsome hp
  refine s_Leave (s := Uh) od.pre Xh bi fun oD Ly My ci pd => ?_
  obtain ⟨qd, S⟩ := od.callG ci qa
  have di := Yh.k S
  have sd := Zh.k S
  have ei := ai.k S
  refine ⟨_, _, rfl, _, _, _, _, _, _, _, _, _, _, _, _, sd.bk.ra, ?_⟩
  obtain ⟨fi, gi, hp⟩ := bsome hp
  refine s_lStorm (s := ({ Wide := s.Wide, High := s.High, Fall := s.Fall, A := ({ Lo := (max (0 : Int) (s.A.Lo - ((wrapZ .i64 inc) % (2 : Int)))), Hi := (min (s.High - (1 : Int)) (s.A.Hi + (((wrapZ .i64 inc) / (2 : Int)) % (2 : Int)))) } : Rg), B := s.B, Half := s.Half, Peak := s.Peak, Cards := ([] ++ s.Cards) } : Stm)) qd.pre (Bb.sub (Sub.trans P.fs S.fs)) gi fun pD Ny Oy hi ii => ?_
  obtain ⟨td, sa⟩ := qd.callG hi qa
  have ji := di.k sa
  have ki := sd.k sa
  have ni := ei.k sa
  refine ⟨_, _, _, _, _, _, _, _, _, _, _, _, rfl, ?_⟩
  obtain ⟨Py, oi, hp⟩ := bsome hp
  refine s_Leave (s := fi) td.pre ii oi fun qD Qy Ry pi ud => ?_
  obtain ⟨vd, ta⟩ := td.callG pi qa
  have wd := ji.k ta
  have qi := ki.k ta
  have ri := ni.k ta
  refine ⟨_, _, rfl, _, _, _, _, _, _, _, _, _, _, _, _, wd.bk.ra, ?_⟩
  obtain ⟨si, ti, hp⟩ := bsome hp
  refine s_lStorm (s := s) vd.pre (ha111.sub (Sub.trans (Sub.trans (Sub.trans (Sub.trans Xa.fs P.fs) S.fs) sa.fs) ta.fs)) ti fun rD Sy Ty ui vi => ?_
  obtain ⟨xd, Za⟩ := vd.callG ui qa
  have wi := wd.k Za
  have xi := qi.k Za
  have yi := ri.k Za
  refine ⟨_, _, _, _, _, _, _, _, _, _, _, _, rfl, ?_⟩
  obtain ⟨l, zi, hp⟩ := bsome hp
  refine s_Bounds (s := si) xd.pre vi zi fun sD Uy Ai Bi Ci => ?_
  obtain ⟨Di, ab⟩ := xd.callG Bi qa
  have Ei := wi.k ab
  have Fi := xi.k ab
  have Gi := yi.k ab
  refine ⟨_, _, _, _, _, _, _, _, _, _, _, _, _, rfl, ?_⟩
  intro tD Ii
  obtain ⟨lc, Ji, nc, Ki⟩ := Di.blk Ii qa 5
  have Ni := Ei.k nc
  have Oi := Fi.k nc
  have Pi := Gi.k nc
  obtain ⟨Qi, Ri, yd, oc, Si⟩ := Ki.sto Ji [(Il l.1.Wide), (Il l.1.High), (Il l.1.Fall), (Il l.1.A.Lo), (Il l.1.A.Hi), (Il l.1.B.Lo), (Il l.1.B.Hi), (Il l.1.Half.Lo), (Il l.1.Half.Hi), (Il l.1.Peak.Lo), (Il l.1.Peak.Hi), Ai]
  have Ti := Ni.k oc
  have zd := Oi.k oc
  have Ui := Pi.k oc
  refine ⟨Qi, Ri, ?_⟩
  refine ⟨_, _, _, _, _, _, _, _, _, _, _, _, zd.bk.ra, ?_⟩
  obtain ⟨Vi, Xi, hp⟩ := bsome hp
  refine s_lStorm (s := ({ Wide := s.Wide, High := s.High, Fall := s.Fall, A := ({ Lo := (max (0 : Int) (s.A.Lo - ((wrapZ .i64 inc) % (2 : Int)))), Hi := (min (s.High - (1 : Int)) (s.A.Hi + (((wrapZ .i64 inc) / (2 : Int)) % (2 : Int)))) } : Rg), B := s.B, Half := s.Half, Peak := s.Peak, Cards := ([] ++ s.Cards) } : Stm)) yd.pre (Bb.sub (Sub.trans (Sub.trans (Sub.trans (Sub.trans (Sub.trans P.fs S.fs) sa.fs) ta.fs) Za.fs) ab.fs)) Xi fun uD Vy Xy Yi Zi => ?_
  obtain ⟨Ad, ua⟩ := yd.callG Yi lc
  have aj := Ti.k ua
  have bj := zd.k ua
  have cj := Ui.k ua
  have dj := Si.k ua
  refine ⟨_, _, _, _, _, _, _, _, _, _, _, _, rfl, ?_⟩
  obtain ⟨n, ej, hp⟩ := bsome hp
  refine s_Bounds (s := Vi) Ad.pre Zi ej fun vD Yy fj gj hj => ?_
  obtain ⟨ij, va⟩ := Ad.callG gj lc
  have jj := aj.k va
  have kj := bj.k va
  have lj := cj.k va
  have mj := dj.k va
  refine ⟨_, _, _, _, _, _, _, _, _, _, _, _, _, rfl, ?_⟩
  intro wD nj
  obtain ⟨F, oj, Db, pj⟩ := ij.blk nj lc 6
  have qj := jj.k Db
  have rj := kj.k Db
  have sj := lj.k Db
  have tj := mj.k Db
  obtain ⟨uj, vj, T, Eb, wj⟩ := pj.sto oj [(Il n.1.Wide), (Il n.1.High), (Il n.1.Fall), (Il n.1.A.Lo), (Il n.1.A.Hi), (Il n.1.B.Lo), (Il n.1.B.Hi), (Il n.1.Half.Lo), (Il n.1.Half.Hi), (Il n.1.Peak.Lo), (Il n.1.Peak.Hi), fj]
  have xj := qj.k Eb
  have yj := rj.k Eb
  have Bd := sj.k Eb
  have zj := tj.k Eb
  refine ⟨uj, vj, ?_⟩
  refine ifnd hp (fun Aj hp => ?_) fun Aj hp => ?_
  ·obtain rfl := Option.some.inj hp
   exact hq _ T.ext'
  refine ifnd hp (fun Bj hp => ?_) fun Bj hp => ?_
  ·obtain rfl := Option.some.inj hp
   exact hq _ T.ext'
  refine ⟨ud.isSl, pd.isSl, ?_⟩
  try rw [pd.slLen]
  try rw [ud.slLen]
  refine ifd hp (fun Cj hp => ?_) fun Cj hp => ?_
  ·obtain rfl := Option.some.inj hp
   exact hq _ T.ext'
  refine ifnd hp (fun pc hp => ?_) fun pc hp => ?_
  ·refine ifnd hp (fun Dj hp => ?_) fun Dj hp => ?_
   ·obtain rfl := Option.some.inj hp
    exact hq _ T.ext'
   refine ifnkf pc ?_
   obtain ⟨Zy, Ej, hp⟩ := bsome hp
   refine s_awake T.pre  Ej fun xD Fj => ?_
   obtain ⟨Gj, az⟩ := T.call Fj F
   refine ⟨_, rfl, ?_⟩
   obtain rfl := Option.some.inj hp
   exact hq _ Gj.ext'
  refine ifnkt pc ?_
  refine ⟨_, _, _, _, _, _, _, _, _, _, _, _, xj.bk.ra, ?_⟩
  obtain ⟨Hj, Ij, hp⟩ := bsome hp
  refine s_lStorm (s := s) T.pre (ha111.sub (Sub.trans (Sub.trans (Sub.trans (Sub.trans (Sub.trans (Sub.trans (Sub.trans (Sub.trans Xa.fs P.fs) S.fs) sa.fs) ta.fs) Za.fs) ab.fs) ua.fs) va.fs)) Ij fun yD bz cz Jj Kj => ?_
  obtain ⟨Cd, wa⟩ := T.callG Jj F
  have Lj := yj.k wa
  have Dd := Bd.k wa
  have Mj := zj.k wa
  have Nj := wj.k wa
  refine ⟨_, _, _, _, _, _, _, _, _, _, _, _, rfl, _, _, _, _, Dd.bk.ra, (Bd.bk.ra), ?_⟩
  obtain ⟨Oj, Pj, hp⟩ := bsome hp
  refine s_lRect (r := Ya) Cd.pre  Pj fun zD Qj => ?_
  obtain ⟨Ed, Fb⟩ := Cd.call Qj F
  have Rj := Lj.k Fb
  have Sj := Dd.k Fb
  have Tj := Mj.k Fb
  have Uj := Nj.k Fb
  refine ⟨_, _, _, _, rfl, ?_⟩
  obtain ⟨dz, Vj, hp⟩ := bsome hp
  refine s_Verdict (s := Hj) (r := Oj) Ed.pre Kj Vj fun AD Wj => ?_
  obtain ⟨Fd, Gb⟩ := Ed.call Wj F
  have Xj := Rj.k Gb
  have Gd := Sj.k Gb
  have Yj := Tj.k Gb
  have Zj := Uj.k Gb
  refine ⟨_, _, rfl, _, _, _, _, _, _, _, _, _, _, _, _, Xj.bk.ra, ?_⟩
  obtain ⟨ak, ck, hp⟩ := bsome hp
  refine s_lStorm (s := ({ Wide := s.Wide, High := s.High, Fall := s.Fall, A := ({ Lo := (max (0 : Int) (s.A.Lo - ((wrapZ .i64 inc) % (2 : Int)))), Hi := (min (s.High - (1 : Int)) (s.A.Hi + (((wrapZ .i64 inc) / (2 : Int)) % (2 : Int)))) } : Rg), B := s.B, Half := s.Half, Peak := s.Peak, Cards := ([] ++ s.Cards) } : Stm)) Fd.pre (Bb.sub (Sub.trans (Sub.trans (Sub.trans (Sub.trans (Sub.trans (Sub.trans (Sub.trans (Sub.trans P.fs S.fs) sa.fs) ta.fs) Za.fs) ab.fs) ua.fs) va.fs) wa.fs)) ck fun BD ez fz dk ek => ?_
  obtain ⟨Hd, tb⟩ := Fd.callG dk F
  have fk := Gd.k tb
  have gk := Yj.k tb
  have hk := Zj.k tb
  refine ⟨_, _, _, _, _, _, _, _, _, _, _, _, rfl, _, _, _, _, fk.bk.ra, (Gd.bk.ra), ?_⟩
  obtain ⟨ik, jk, hp⟩ := bsome hp
  refine s_lRect (r := Ya) Hd.pre  jk fun CD kk => ?_
  obtain ⟨Id, Jd⟩ := Hd.call kk F
  have mk := gk.k Jd
  have nk := hk.k Jd
  refine ⟨_, _, _, _, rfl, ?_⟩
  obtain ⟨gz, ok, hp⟩ := bsome hp
  refine s_Verdict (s := ak) (r := ik) Id.pre ek ok fun DD pk => ?_
  obtain ⟨qc, Ld⟩ := Id.call pk F
  have qk := mk.k Ld
  have sk := nk.k Ld
  refine ⟨_, _, rfl, ?_⟩
  refine ifd hp (fun uk hp => ?_) fun uk hp => ?_; rotate_left
  ·obtain rfl := Option.some.inj hp
   exact hq _ qc.ext'
  refine ⟨_, _, _, _, _, _, _, _, _, _, _, _, qk.bk.ra, _, _, _, _, _, _, _, _, _, _, _, _, sk.bk.ra, ?_⟩
  obtain ⟨hz, vk, hp⟩ := bsome hp
  refine s_lNarrower (a := l.1) (b := n.1) qc.pre (Ci.sub (Sub.trans (Sub.trans (Sub.trans ua.fs va.fs) wa.fs) tb.fs)) (hj.sub (Sub.trans wa.fs tb.fs)) vk fun ED wk => ?_
  obtain ⟨Z, iz⟩ := qc.call wk F
  refine ⟨_, rfl, ?_⟩
  refine ifbb hp (fun xk hp => ?_) fun xk hp => ?_; rotate_left
  ·obtain rfl := Option.some.inj hp
   exact hq _ Z.ext'
  refine ifd hp (fun yk hp => ?_) fun yk hp => ?_; rotate_left
  ·obtain rfl := Option.some.inj hp
   exact hq _ Z.ext'
  refine ifd hp (fun zk hp => ?_) fun zk hp => ?_; rotate_left
  ·obtain rfl := Option.some.inj hp
   exact hq _ Z.ext'
  refine ifd hp (fun Ak hp => ?_) fun Ak hp => ?_
  ·obtain ⟨jz, Ck, hp⟩ := bsome hp
   refine s_awake Z.pre  Ck fun FD Dk => ?_
   obtain ⟨Ek, kz⟩ := Z.call Dk F
   refine ⟨_, rfl, ?_⟩
   obtain rfl := Option.some.inj hp
   exact hq _ Ek.ext'
  refine ifd hp (fun Fk hp => ?_) fun Fk hp => ?_; rotate_left
  ·obtain rfl := Option.some.inj hp
   exact hq _ Z.ext'
  obtain ⟨lz, Gk, hp⟩ := bsome hp
  refine s_awake Z.pre  Gk fun GD Hk => ?_
  obtain ⟨Ik, mz⟩ := Z.call Hk F
  refine ⟨_, rfl, ?_⟩
  obtain rfl := Option.some.inj hp
  exact hq _ Ik.ext'
 refine ifd hp (fun Jk hp => ?_) fun Jk hp => ?_
 ·refine ⟨trivial, trivial, _, j.bk.rc rfl, ?_⟩
  obtain ⟨Kk, hp⟩ := gd_some hp
  refine ⟨Kk, trivial, trivial, _, j.bk.rc rfl, ?_⟩
  obtain ⟨Lk, hp⟩ := gd_some hp
  refine ⟨Lk, trivial, ?_⟩
  obtain ⟨Mk, Nk, Ok, Md, Hb⟩ := O.stoP sb 7 [(Il (max (0 : Int) (s.Half.Lo - ((wrapZ .i64 inc) % (2 : Int))))), (Il (min (3 : Int) (s.Half.Hi + (((wrapZ .i64 inc) / (2 : Int)) % (2 : Int)))))] (Nat.le_of_ble_eq_true rfl) rfl
  replace Hb : Lb _ _ _ _ _ _ _ [(Il s.Wide), (Il s.High), (Il s.Fall), (Il s.A.Lo), (Il s.A.Hi), (Il s.B.Lo), (Il s.B.Hi), (Il (max (0 : Int) (s.Half.Lo - ((wrapZ .i64 inc) % (2 : Int))))), (Il (min (3 : Int) (s.Half.Hi + (((wrapZ .i64 inc) / (2 : Int)) % (2 : Int))))), (Il s.Peak.Lo), (Il s.Peak.Hi), Wa] := Hb
  have Qk := j.k Md
  have e := e.k Md
  refine ⟨Mk, Nk, ?_⟩
  refine ⟨_, _, _, _, _, _, _, _, _, _, _, _, Hb.bk.ra, ?_⟩
  obtain ⟨nz, Nd, bb, Ib⟩ := e.freeze Ok
  have Sk := Qk.k bb
  have Tk := Hb.k bb
  obtain ⟨oz, Uk, hp⟩ := bsome hp
  refine s_lReady (s := ({ Wide := s.Wide, High := s.High, Fall := s.Fall, A := s.A, B := s.B, Half := ({ Lo := (max (0 : Int) (s.Half.Lo - ((wrapZ .i64 inc) % (2 : Int)))), Hi := (min (3 : Int) (s.Half.Hi + (((wrapZ .i64 inc) / (2 : Int)) % (2 : Int)))) } : Rg), Peak := s.Peak, Cards := ([] ++ s.Cards) } : Stm)) Nd.pre Ib Uk fun HD Vk => ?_
  obtain ⟨Jb, Od⟩ := Nd.call Vk i
  have Pd := Sk.k Od
  have Xk := Tk.k Od
  refine ⟨_, rfl, ?_⟩
  refine ifnb hp (fun Yk hp => ?_) fun Yk hp => ?_
  ·obtain ⟨pz, Zk, hp⟩ := bsome hp
   refine s_awake Jb.pre  Zk fun ID al => ?_
   obtain ⟨bl, qz⟩ := Jb.call al i
   refine ⟨_, rfl, ?_⟩
   obtain rfl := Option.some.inj hp
   exact hq _ bl.ext'
  refine ⟨_, _, _, _, _, _, _, _, _, _, _, _, Pd.bk.ra, ?_⟩
  obtain ⟨cb, cl, hp⟩ := bsome hp
  refine s_lBox (s := s) (w := whr) Jb.pre (ha111.sub bb.fs) cl fun JD dl => ?_
  obtain ⟨el, Qd⟩ := Jb.call dl i
  have fl := Pd.k Qd
  have gl := Xk.k Qd
  refine ⟨_, _, _, _, rfl, ?_⟩
  intro KD hl
  obtain ⟨xa, il, Rd, jl⟩ := el.blk hl i 7
  have kl := fl.k Rd
  have ll := gl.k Rd
  obtain ⟨ml, nl, Sd, Td, ol⟩ := jl.sto il [(Il cb.X.Lo), (Il cb.X.Hi), (Il cb.Y.Lo), (Il cb.Y.Hi)]
  have Ud := kl.k Td
  have pl := ll.k Td
  refine ⟨ml, nl, ?_⟩
  refine ⟨_, _, _, _, _, _, _, _, _, _, _, _, Ud.bk.ra, ?_⟩
  obtain ⟨ql, rl, hp⟩ := bsome hp
  refine s_lStorm (s := s) Sd.pre (ha111.sub bb.fs) rl fun LD sz tz tl ul => ?_
  obtain ⟨Vd, aa⟩ := Sd.callG tl xa
  have vl := Ud.k aa
  have wl := pl.k aa
  have xl := ol.k aa
  refine ⟨_, _, _, _, _, _, _, _, _, _, _, _, rfl, ?_⟩
  obtain ⟨uz, yl, hp⟩ := bsome hp
  refine s_Leave (s := ql) Vd.pre ul yl fun MD vz xz zl Wd => ?_
  obtain ⟨Xd, ba⟩ := Vd.callG zl xa
  have Al := vl.k ba
  have Yd := wl.k ba
  have Bl := xl.k ba
  refine ⟨_, _, rfl, _, _, _, _, _, _, _, _, _, _, _, _, Yd.bk.ra, ?_⟩
  obtain ⟨Cl, Dl, hp⟩ := bsome hp
  refine s_lStorm (s := ({ Wide := s.Wide, High := s.High, Fall := s.Fall, A := s.A, B := s.B, Half := ({ Lo := (max (0 : Int) (s.Half.Lo - ((wrapZ .i64 inc) % (2 : Int)))), Hi := (min (3 : Int) (s.Half.Hi + (((wrapZ .i64 inc) / (2 : Int)) % (2 : Int)))) } : Rg), Peak := s.Peak, Cards := ([] ++ s.Cards) } : Stm)) Xd.pre (Ib.sub (Sub.trans aa.fs ba.fs)) Dl fun ND yz zz El Fl => ?_
  obtain ⟨Zd, ya⟩ := Xd.callG El xa
  have Gl := Al.k ya
  have Hl := Yd.k ya
  have Jl := Bl.k ya
  refine ⟨_, _, _, _, _, _, _, _, _, _, _, _, rfl, ?_⟩
  obtain ⟨Az, Kl, hp⟩ := bsome hp
  refine s_Leave (s := Cl) Zd.pre Fl Kl fun OD Bz Cz Ll ae => ?_
  obtain ⟨be, za⟩ := Zd.callG Ll xa
  have ce := Gl.k za
  have Ml := Hl.k za
  have Nl := Jl.k za
  refine ⟨_, _, rfl, _, _, _, _, _, _, _, _, _, _, _, _, ce.bk.ra, ?_⟩
  obtain ⟨Ol, Pl, hp⟩ := bsome hp
  refine s_lStorm (s := s) be.pre (ha111.sub (Sub.trans (Sub.trans (Sub.trans (Sub.trans bb.fs aa.fs) ba.fs) ya.fs) za.fs)) Pl fun PD Dz Ez Ql Rl => ?_
  obtain ⟨de, db⟩ := be.callG Ql xa
  have Tl := ce.k db
  have Ul := Ml.k db
  have Vl := Nl.k db
  refine ⟨_, _, _, _, _, _, _, _, _, _, _, _, rfl, ?_⟩
  obtain ⟨o, Wl, hp⟩ := bsome hp
  refine s_Bounds (s := Ol) de.pre Rl Wl fun QD Fz Xl Yl Zl => ?_
  obtain ⟨am, eb⟩ := de.callG Yl xa
  have bm := Tl.k eb
  have cm := Ul.k eb
  have dm := Vl.k eb
  refine ⟨_, _, _, _, _, _, _, _, _, _, _, _, _, rfl, ?_⟩
  intro RD em
  obtain ⟨sc, fm, tc, gm⟩ := am.blk em xa 8
  have hm := bm.k tc
  have im := cm.k tc
  have jm := dm.k tc
  obtain ⟨km, lm, ee, uc, mm⟩ := gm.sto fm [(Il o.1.Wide), (Il o.1.High), (Il o.1.Fall), (Il o.1.A.Lo), (Il o.1.A.Hi), (Il o.1.B.Lo), (Il o.1.B.Hi), (Il o.1.Half.Lo), (Il o.1.Half.Hi), (Il o.1.Peak.Lo), (Il o.1.Peak.Hi), Xl]
  have nm := hm.k uc
  have fe := im.k uc
  have om := jm.k uc
  refine ⟨km, lm, ?_⟩
  refine ⟨_, _, _, _, _, _, _, _, _, _, _, _, fe.bk.ra, ?_⟩
  obtain ⟨pm, qm, hp⟩ := bsome hp
  refine s_lStorm (s := ({ Wide := s.Wide, High := s.High, Fall := s.Fall, A := s.A, B := s.B, Half := ({ Lo := (max (0 : Int) (s.Half.Lo - ((wrapZ .i64 inc) % (2 : Int)))), Hi := (min (3 : Int) (s.Half.Hi + (((wrapZ .i64 inc) / (2 : Int)) % (2 : Int)))) } : Rg), Peak := s.Peak, Cards := ([] ++ s.Cards) } : Stm)) ee.pre (Ib.sub (Sub.trans (Sub.trans (Sub.trans (Sub.trans (Sub.trans aa.fs ba.fs) ya.fs) za.fs) db.fs) eb.fs)) qm fun SD Gz Hz rm sm => ?_
  obtain ⟨ge, Aa⟩ := ee.callG rm sc
  have tm := nm.k Aa
  have um := fe.k Aa
  have vm := om.k Aa
  have wm := mm.k Aa
  refine ⟨_, _, _, _, _, _, _, _, _, _, _, _, rfl, ?_⟩
  obtain ⟨p, xm, hp⟩ := bsome hp
  refine s_Bounds (s := pm) ge.pre sm xm fun TD Iz ym zm Am => ?_
  obtain ⟨Bm, Ba⟩ := ge.callG zm sc
  have Cm := tm.k Ba
  have Dm := um.k Ba
  have Em := vm.k Ba
  have Gm := wm.k Ba
  refine ⟨_, _, _, _, _, _, _, _, _, _, _, _, _, rfl, ?_⟩
  intro UD Hm
  obtain ⟨G, Im, Kb, Jm⟩ := Bm.blk Hm sc 9
  have Km := Cm.k Kb
  have Lm := Dm.k Kb
  have Mm := Em.k Kb
  have Nm := Gm.k Kb
  obtain ⟨Om, Pm, ca, Mb, Qm⟩ := Jm.sto Im [(Il p.1.Wide), (Il p.1.High), (Il p.1.Fall), (Il p.1.A.Lo), (Il p.1.A.Hi), (Il p.1.B.Lo), (Il p.1.B.Hi), (Il p.1.Half.Lo), (Il p.1.Half.Hi), (Il p.1.Peak.Lo), (Il p.1.Peak.Hi), ym]
  have Rm := Km.k Mb
  have Sm := Lm.k Mb
  have he := Mm.k Mb
  have Tm := Nm.k Mb
  refine ⟨Om, Pm, ?_⟩
  refine ifnd hp (fun Um hp => ?_) fun Um hp => ?_
  ·obtain rfl := Option.some.inj hp
   exact hq _ ca.ext'
  refine ifnd hp (fun Vm hp => ?_) fun Vm hp => ?_
  ·obtain rfl := Option.some.inj hp
   exact hq _ ca.ext'
  refine ⟨ae.isSl, Wd.isSl, ?_⟩
  try rw [Wd.slLen]
  try rw [ae.slLen]
  refine ifd hp (fun Wm hp => ?_) fun Wm hp => ?_
  ·obtain rfl := Option.some.inj hp
   exact hq _ ca.ext'
  refine ifnd hp (fun vc hp => ?_) fun vc hp => ?_
  ·refine ifnd hp (fun Xm hp => ?_) fun Xm hp => ?_
   ·obtain rfl := Option.some.inj hp
    exact hq _ ca.ext'
   refine ifnkf vc ?_
   obtain ⟨Jz, Ym, hp⟩ := bsome hp
   refine s_awake ca.pre  Ym fun VD Zm => ?_
   obtain ⟨an, Kz⟩ := ca.call Zm G
   refine ⟨_, rfl, ?_⟩
   obtain rfl := Option.some.inj hp
   exact hq _ an.ext'
  refine ifnkt vc ?_
  refine ⟨_, _, _, _, _, _, _, _, _, _, _, _, Rm.bk.ra, ?_⟩
  obtain ⟨bn, cn, hp⟩ := bsome hp
  refine s_lStorm (s := s) ca.pre (ha111.sub (Sub.trans (Sub.trans (Sub.trans (Sub.trans (Sub.trans (Sub.trans (Sub.trans (Sub.trans bb.fs aa.fs) ba.fs) ya.fs) za.fs) db.fs) eb.fs) Aa.fs) Ba.fs)) cn fun WD Lz Mz dn en => ?_
  obtain ⟨ie, Ca⟩ := ca.callG dn G
  have fn := Sm.k Ca
  have je := he.k Ca
  have gn := Tm.k Ca
  have hn := Qm.k Ca
  refine ⟨_, _, _, _, _, _, _, _, _, _, _, _, rfl, _, _, _, _, je.bk.ra, (he.bk.ra), ?_⟩
  obtain ⟨jn, kn, hp⟩ := bsome hp
  refine s_lRect (r := cb) ie.pre  kn fun XD ln => ?_
  obtain ⟨ke, Nb⟩ := ie.call ln G
  have nn := fn.k Nb
  have pn := je.k Nb
  have qn := gn.k Nb
  have rn := hn.k Nb
  refine ⟨_, _, _, _, rfl, ?_⟩
  obtain ⟨Nz, sn, hp⟩ := bsome hp
  refine s_Verdict (s := bn) (r := jn) ke.pre en sn fun ZD tn => ?_
  obtain ⟨me, Ob⟩ := ke.call tn G
  have un := nn.k Ob
  have oe := pn.k Ob
  have vn := qn.k Ob
  have wn := rn.k Ob
  refine ⟨_, _, rfl, _, _, _, _, _, _, _, _, _, _, _, _, un.bk.ra, ?_⟩
  obtain ⟨xn, yn, hp⟩ := bsome hp
  refine s_lStorm (s := ({ Wide := s.Wide, High := s.High, Fall := s.Fall, A := s.A, B := s.B, Half := ({ Lo := (max (0 : Int) (s.Half.Lo - ((wrapZ .i64 inc) % (2 : Int)))), Hi := (min (3 : Int) (s.Half.Hi + (((wrapZ .i64 inc) / (2 : Int)) % (2 : Int)))) } : Rg), Peak := s.Peak, Cards := ([] ++ s.Cards) } : Stm)) me.pre (Ib.sub (Sub.trans (Sub.trans (Sub.trans (Sub.trans (Sub.trans (Sub.trans (Sub.trans (Sub.trans aa.fs ba.fs) ya.fs) za.fs) db.fs) eb.fs) Aa.fs) Ba.fs) Ca.fs)) yn fun aE Oz Pz zn An => ?_
  obtain ⟨pe, ub⟩ := me.callG zn G
  have Bn := oe.k ub
  have Cn := vn.k ub
  have Dn := wn.k ub
  refine ⟨_, _, _, _, _, _, _, _, _, _, _, _, rfl, _, _, _, _, Bn.bk.ra, (oe.bk.ra), ?_⟩
  obtain ⟨En, Fn, hp⟩ := bsome hp
  refine s_lRect (r := cb) pe.pre  Fn fun bE Gn => ?_
  obtain ⟨qe, re⟩ := pe.call Gn G
  have Hn := Cn.k re
  have In := Dn.k re
  refine ⟨_, _, _, _, rfl, ?_⟩
  obtain ⟨Qz, Jn, hp⟩ := bsome hp
  refine s_Verdict (s := xn) (r := En) qe.pre An Jn fun cE Kn => ?_
  obtain ⟨wc, se⟩ := qe.call Kn G
  have Ln := Hn.k se
  have Nn := In.k se
  refine ⟨_, _, rfl, ?_⟩
  refine ifd hp (fun On hp => ?_) fun On hp => ?_; rotate_left
  ·obtain rfl := Option.some.inj hp
   exact hq _ wc.ext'
  refine ⟨_, _, _, _, _, _, _, _, _, _, _, _, Ln.bk.ra, _, _, _, _, _, _, _, _, _, _, _, _, Nn.bk.ra, ?_⟩
  obtain ⟨Rz, Pn, hp⟩ := bsome hp
  refine s_lNarrower (a := o.1) (b := p.1) wc.pre (Zl.sub (Sub.trans (Sub.trans (Sub.trans Aa.fs Ba.fs) Ca.fs) ub.fs)) (Am.sub (Sub.trans Ca.fs ub.fs)) Pn fun dE Qn => ?_
  obtain ⟨da, Sz⟩ := wc.call Qn G
  refine ⟨_, rfl, ?_⟩
  refine ifbb hp (fun Rn hp => ?_) fun Rn hp => ?_; rotate_left
  ·obtain rfl := Option.some.inj hp
   exact hq _ da.ext'
  refine ifd hp (fun Sn hp => ?_) fun Sn hp => ?_; rotate_left
  ·obtain rfl := Option.some.inj hp
   exact hq _ da.ext'
  refine ifd hp (fun Tn hp => ?_) fun Tn hp => ?_; rotate_left
  ·obtain rfl := Option.some.inj hp
   exact hq _ da.ext'
  refine ifd hp (fun Un hp => ?_) fun Un hp => ?_
  ·obtain ⟨Tz, Vn, hp⟩ := bsome hp
   refine s_awake da.pre  Vn fun eE Wn => ?_
   obtain ⟨Xn, Uz⟩ := da.call Wn G
   refine ⟨_, rfl, ?_⟩
   obtain rfl := Option.some.inj hp
   exact hq _ Xn.ext'
  refine ifd hp (fun Yn hp => ?_) fun Yn hp => ?_; rotate_left
  ·obtain rfl := Option.some.inj hp
   exact hq _ da.ext'
  obtain ⟨Vz, Zn, hp⟩ := bsome hp
  refine s_awake da.pre  Zn fun fE ao => ?_
  obtain ⟨bo, Wz⟩ := da.call ao G
  refine ⟨_, rfl, ?_⟩
  obtain rfl := Option.some.inj hp
  exact hq _ bo.ext'
 refine ifd hp (fun co hp => ?_) fun co hp => ?_
 ·refine ⟨trivial, trivial, _, j.bk.rc rfl, ?_⟩
  obtain ⟨eo, hp⟩ := gd_some hp
  refine ⟨eo, trivial, trivial, _, j.bk.rc rfl, ?_⟩
  obtain ⟨fo, hp⟩ := gd_some hp
  refine ⟨fo, trivial, ?_⟩
  obtain ⟨go, ho, io, te, Pb⟩ := O.stoP sb 9 [(Il (max (1 : Int) (s.Peak.Lo - ((wrapZ .i64 inc) % (2 : Int))))), (Il (min (9 : Int) (s.Peak.Hi + (((wrapZ .i64 inc) / (2 : Int)) % (2 : Int)))))] (Nat.le_of_ble_eq_true rfl) rfl
  replace Pb : Lb _ _ _ _ _ _ _ [(Il s.Wide), (Il s.High), (Il s.Fall), (Il s.A.Lo), (Il s.A.Hi), (Il s.B.Lo), (Il s.B.Hi), (Il s.Half.Lo), (Il s.Half.Hi), (Il (max (1 : Int) (s.Peak.Lo - ((wrapZ .i64 inc) % (2 : Int))))), (Il (min (9 : Int) (s.Peak.Hi + (((wrapZ .i64 inc) / (2 : Int)) % (2 : Int))))), Wa] := Pb
  have jo := j.k te
  have e := e.k te
  refine ⟨go, ho, ?_⟩
  refine ⟨_, _, _, _, _, _, _, _, _, _, _, _, Pb.bk.ra, ?_⟩
  obtain ⟨Xz, ue, fb, Qb⟩ := e.freeze io
  have ko := jo.k fb
  have lo := Pb.k fb
  obtain ⟨Yz, oo, hp⟩ := bsome hp
  refine s_lReady (s := ({ Wide := s.Wide, High := s.High, Fall := s.Fall, A := s.A, B := s.B, Half := s.Half, Peak := ({ Lo := (max (1 : Int) (s.Peak.Lo - ((wrapZ .i64 inc) % (2 : Int)))), Hi := (min (9 : Int) (s.Peak.Hi + (((wrapZ .i64 inc) / (2 : Int)) % (2 : Int)))) } : Rg), Cards := ([] ++ s.Cards) } : Stm)) ue.pre Qb oo fun gE po => ?_
  obtain ⟨Rb, ve⟩ := ue.call po i
  have we := ko.k ve
  have qo := lo.k ve
  refine ⟨_, rfl, ?_⟩
  refine ifnb hp (fun ro hp => ?_) fun ro hp => ?_
  ·obtain ⟨Zz, so, hp⟩ := bsome hp
   refine s_awake Rb.pre  so fun hE uo => ?_
   obtain ⟨wo, aA⟩ := Rb.call uo i
   refine ⟨_, rfl, ?_⟩
   obtain rfl := Option.some.inj hp
   exact hq _ wo.ext'
  refine ⟨_, _, _, _, _, _, _, _, _, _, _, _, we.bk.ra, ?_⟩
  obtain ⟨gb, xo, hp⟩ := bsome hp
  refine s_lBox (s := s) (w := whr) Rb.pre (ha111.sub fb.fs) xo fun iE yo => ?_
  obtain ⟨zo, xe⟩ := Rb.call yo i
  have Ao := we.k xe
  have Bo := qo.k xe
  refine ⟨_, _, _, _, rfl, ?_⟩
  intro jE Co
  obtain ⟨Da, Do, ye, Eo⟩ := zo.blk Co i 10
  have Fo := Ao.k ye
  have Go := Bo.k ye
  obtain ⟨Ho, Io, ze, Ae, Jo⟩ := Eo.sto Do [(Il gb.X.Lo), (Il gb.X.Hi), (Il gb.Y.Lo), (Il gb.Y.Hi)]
  have Be := Fo.k Ae
  have Ko := Go.k Ae
  refine ⟨Ho, Io, ?_⟩
  refine ⟨_, _, _, _, _, _, _, _, _, _, _, _, Be.bk.ra, ?_⟩
  obtain ⟨No, Oo, hp⟩ := bsome hp
  refine s_lStorm (s := s) ze.pre (ha111.sub fb.fs) Oo fun kE bA cA Po Qo => ?_
  obtain ⟨Ce, ea⟩ := ze.callG Po Da
  have Ro := Be.k ea
  have So := Ko.k ea
  have To := Jo.k ea
  refine ⟨_, _, _, _, _, _, _, _, _, _, _, _, rfl, ?_⟩
  obtain ⟨dA, Uo, hp⟩ := bsome hp
  refine s_Leave (s := No) Ce.pre Qo Uo fun lE eA fA Vo De => ?_
  obtain ⟨Ee, fa⟩ := Ce.callG Vo Da
  have Wo := Ro.k fa
  have Fe := So.k fa
  have Xo := To.k fa
  refine ⟨_, _, rfl, _, _, _, _, _, _, _, _, _, _, _, _, Fe.bk.ra, ?_⟩
  obtain ⟨Yo, Zo, hp⟩ := bsome hp
  refine s_lStorm (s := ({ Wide := s.Wide, High := s.High, Fall := s.Fall, A := s.A, B := s.B, Half := s.Half, Peak := ({ Lo := (max (1 : Int) (s.Peak.Lo - ((wrapZ .i64 inc) % (2 : Int)))), Hi := (min (9 : Int) (s.Peak.Hi + (((wrapZ .i64 inc) / (2 : Int)) % (2 : Int)))) } : Rg), Cards := ([] ++ s.Cards) } : Stm)) Ee.pre (Qb.sub (Sub.trans ea.fs fa.fs)) Zo fun mE gA hA ap bp => ?_
  obtain ⟨Ge, Ea⟩ := Ee.callG ap Da
  have cp := Wo.k Ea
  have dp := Fe.k Ea
  have ep := Xo.k Ea
  refine ⟨_, _, _, _, _, _, _, _, _, _, _, _, rfl, ?_⟩
  obtain ⟨iA, fp, hp⟩ := bsome hp
  refine s_Leave (s := Yo) Ge.pre bp fp fun nE jA kA gp He => ?_
  obtain ⟨Ie, Fa⟩ := Ge.callG gp Da
  have Je := cp.k Fa
  have ip := dp.k Fa
  have jp := ep.k Fa
  refine ⟨_, _, rfl, _, _, _, _, _, _, _, _, _, _, _, _, Je.bk.ra, ?_⟩
  obtain ⟨kp, lp, hp⟩ := bsome hp
  refine s_lStorm (s := s) Ie.pre (ha111.sub (Sub.trans (Sub.trans (Sub.trans (Sub.trans fb.fs ea.fs) fa.fs) Ea.fs) Fa.fs)) lp fun oE lA mA np op => ?_
  obtain ⟨Ke, hb⟩ := Ie.callG np Da
  have pp := Je.k hb
  have qp := ip.k hb
  have sp := jp.k hb
  refine ⟨_, _, _, _, _, _, _, _, _, _, _, _, rfl, ?_⟩
  obtain ⟨q, tp, hp⟩ := bsome hp
  refine s_Bounds (s := kp) Ke.pre op tp fun nA oA vp wp xp => ?_
  obtain ⟨yp, ib⟩ := Ke.callG wp Da
  have zp := pp.k ib
  have Ap := qp.k ib
  have Bp := sp.k ib
  refine ⟨_, _, _, _, _, _, _, _, _, _, _, _, _, rfl, ?_⟩
  intro pA Cp
  obtain ⟨xc, Dp, yc, Ep⟩ := yp.blk Cp Da 11
  have Fp := zp.k yc
  have Gp := Ap.k yc
  have Hp := Bp.k yc
  obtain ⟨Ip, Jp, Me, zc, Lp⟩ := Ep.sto Dp [(Il q.1.Wide), (Il q.1.High), (Il q.1.Fall), (Il q.1.A.Lo), (Il q.1.A.Hi), (Il q.1.B.Lo), (Il q.1.B.Hi), (Il q.1.Half.Lo), (Il q.1.Half.Hi), (Il q.1.Peak.Lo), (Il q.1.Peak.Hi), vp]
  have Np := Fp.k zc
  have Ne := Gp.k zc
  have Op := Hp.k zc
  refine ⟨Ip, Jp, ?_⟩
  refine ⟨_, _, _, _, _, _, _, _, _, _, _, _, Ne.bk.ra, ?_⟩
  obtain ⟨Pp, Qp, hp⟩ := bsome hp
  refine s_lStorm (s := ({ Wide := s.Wide, High := s.High, Fall := s.Fall, A := s.A, B := s.B, Half := s.Half, Peak := ({ Lo := (max (1 : Int) (s.Peak.Lo - ((wrapZ .i64 inc) % (2 : Int)))), Hi := (min (9 : Int) (s.Peak.Hi + (((wrapZ .i64 inc) / (2 : Int)) % (2 : Int)))) } : Rg), Cards := ([] ++ s.Cards) } : Stm)) Me.pre (Qb.sub (Sub.trans (Sub.trans (Sub.trans (Sub.trans (Sub.trans ea.fs fa.fs) Ea.fs) Fa.fs) hb.fs) ib.fs)) Qp fun qA rA sA Rp Sp => ?_
  obtain ⟨Oe, Ga⟩ := Me.callG Rp xc
  have Tp := Np.k Ga
  have Up := Ne.k Ga
  have Vp := Op.k Ga
  have Wp := Lp.k Ga
  refine ⟨_, _, _, _, _, _, _, _, _, _, _, _, rfl, ?_⟩
  obtain ⟨t, Xp, hp⟩ := bsome hp
  refine s_Bounds (s := Pp) Oe.pre Sp Xp fun tA uA Yp Zp aq => ?_
  obtain ⟨bq, Ha⟩ := Oe.callG Zp xc
  have cq := Tp.k Ha
  have dq := Up.k Ha
  have eq := Vp.k Ha
  have fq := Wp.k Ha
  refine ⟨_, _, _, _, _, _, _, _, _, _, _, _, _, rfl, ?_⟩
  intro vA gq
  obtain ⟨I, iq, Sb, jq⟩ := bq.blk gq xc 12
  have kq := cq.k Sb
  have lq := dq.k Sb
  have mq := eq.k Sb
  have nq := fq.k Sb
  obtain ⟨oq, pq, ga, Tb, qq⟩ := jq.sto iq [(Il t.1.Wide), (Il t.1.High), (Il t.1.Fall), (Il t.1.A.Lo), (Il t.1.A.Hi), (Il t.1.B.Lo), (Il t.1.B.Hi), (Il t.1.Half.Lo), (Il t.1.Half.Hi), (Il t.1.Peak.Lo), (Il t.1.Peak.Hi), Yp]
  have rq := kq.k Tb
  have sq := lq.k Tb
  have Pe := mq.k Tb
  have tq := nq.k Tb
  refine ⟨oq, pq, ?_⟩
  refine ifnd hp (fun uq hp => ?_) fun uq hp => ?_
  ·obtain rfl := Option.some.inj hp
   exact hq _ ga.ext'
  refine ifnd hp (fun vq hp => ?_) fun vq hp => ?_
  ·obtain rfl := Option.some.inj hp
   exact hq _ ga.ext'
  refine ⟨He.isSl, De.isSl, ?_⟩
  try rw [De.slLen]
  try rw [He.slLen]
  refine ifd hp (fun wq hp => ?_) fun wq hp => ?_
  ·obtain rfl := Option.some.inj hp
   exact hq _ ga.ext'
  refine ifnd hp (fun Ac hp => ?_) fun Ac hp => ?_
  ·refine ifnd hp (fun xq hp => ?_) fun xq hp => ?_
   ·obtain rfl := Option.some.inj hp
    exact hq _ ga.ext'
   refine ifnkf Ac ?_
   obtain ⟨wA, yq, hp⟩ := bsome hp
   refine s_awake ga.pre  yq fun xA zq => ?_
   obtain ⟨Aq, yA⟩ := ga.call zq I
   refine ⟨_, rfl, ?_⟩
   obtain rfl := Option.some.inj hp
   exact hq _ Aq.ext'
  refine ifnkt Ac ?_
  refine ⟨_, _, _, _, _, _, _, _, _, _, _, _, rq.bk.ra, ?_⟩
  obtain ⟨Bq, Cq, hp⟩ := bsome hp
  refine s_lStorm (s := s) ga.pre (ha111.sub (Sub.trans (Sub.trans (Sub.trans (Sub.trans (Sub.trans (Sub.trans (Sub.trans (Sub.trans fb.fs ea.fs) fa.fs) Ea.fs) Fa.fs) hb.fs) ib.fs) Ga.fs) Ha.fs)) Cq fun zA AA BA Dq Eq => ?_
  obtain ⟨Qe, Ia⟩ := ga.callG Dq I
  have Fq := sq.k Ia
  have Re := Pe.k Ia
  have Gq := tq.k Ia
  have Hq := qq.k Ia
  refine ⟨_, _, _, _, _, _, _, _, _, _, _, _, rfl, _, _, _, _, Re.bk.ra, (Pe.bk.ra), ?_⟩
  obtain ⟨Iq, Jq, hp⟩ := bsome hp
  refine s_lRect (r := gb) Qe.pre  Jq fun CA Kq => ?_
  obtain ⟨Se, Ub⟩ := Qe.call Kq I
  have Lq := Fq.k Ub
  have Mq := Re.k Ub
  have Nq := Gq.k Ub
  have Oq := Hq.k Ub
  refine ⟨_, _, _, _, rfl, ?_⟩
  obtain ⟨DA, Pq, hp⟩ := bsome hp
  refine s_Verdict (s := Bq) (r := Iq) Se.pre Eq Pq fun EA Qq => ?_
  obtain ⟨Te, Vb⟩ := Se.call Qq I
  have Rq := Lq.k Vb
  have Ue := Mq.k Vb
  have Sq := Nq.k Vb
  have Tq := Oq.k Vb
  refine ⟨_, _, rfl, _, _, _, _, _, _, _, _, _, _, _, _, Rq.bk.ra, ?_⟩
  obtain ⟨Uq, Vq, hp⟩ := bsome hp
  refine s_lStorm (s := ({ Wide := s.Wide, High := s.High, Fall := s.Fall, A := s.A, B := s.B, Half := s.Half, Peak := ({ Lo := (max (1 : Int) (s.Peak.Lo - ((wrapZ .i64 inc) % (2 : Int)))), Hi := (min (9 : Int) (s.Peak.Hi + (((wrapZ .i64 inc) / (2 : Int)) % (2 : Int)))) } : Rg), Cards := ([] ++ s.Cards) } : Stm)) Te.pre (Qb.sub (Sub.trans (Sub.trans (Sub.trans (Sub.trans (Sub.trans (Sub.trans (Sub.trans (Sub.trans ea.fs fa.fs) Ea.fs) Fa.fs) hb.fs) ib.fs) Ga.fs) Ha.fs) Ia.fs)) Vq fun FA GA HA Wq Xq => ?_
  obtain ⟨Ve, vb⟩ := Te.callG Wq I
  have Yq := Ue.k vb
  have Zq := Sq.k vb
  have ar := Tq.k vb
  refine ⟨_, _, _, _, _, _, _, _, _, _, _, _, rfl, _, _, _, _, Yq.bk.ra, (Ue.bk.ra), ?_⟩
  obtain ⟨br, cr, hp⟩ := bsome hp
  refine s_lRect (r := gb) Ve.pre  cr fun IA dr => ?_
  obtain ⟨We, Xe⟩ := Ve.call dr I
  have er := Zq.k Xe
  have fr := ar.k Xe
  refine ⟨_, _, _, _, rfl, ?_⟩
  obtain ⟨JA, hr, hp⟩ := bsome hp
  refine s_Verdict (s := Uq) (r := br) We.pre Xq hr fun KA ir => ?_
  obtain ⟨Bc, Ye⟩ := We.call ir I
  have jr := er.k Ye
  have kr := fr.k Ye
  refine ⟨_, _, rfl, ?_⟩
  refine ifd hp (fun lr hp => ?_) fun lr hp => ?_; rotate_left
  ·obtain rfl := Option.some.inj hp
   exact hq _ Bc.ext'
  refine ⟨_, _, _, _, _, _, _, _, _, _, _, _, jr.bk.ra, _, _, _, _, _, _, _, _, _, _, _, _, kr.bk.ra, ?_⟩
  obtain ⟨LA, mr, hp⟩ := bsome hp
  refine s_lNarrower (a := q.1) (b := t.1) Bc.pre (xp.sub (Sub.trans (Sub.trans (Sub.trans Ga.fs Ha.fs) Ia.fs) vb.fs)) (aq.sub (Sub.trans Ia.fs vb.fs)) mr fun MA nr => ?_
  obtain ⟨ha, NA⟩ := Bc.call nr I
  refine ⟨_, rfl, ?_⟩
  refine ifbb hp (fun pr hp => ?_) fun pr hp => ?_; rotate_left
  ·obtain rfl := Option.some.inj hp
   exact hq _ ha.ext'
  refine ifd hp (fun qr hp => ?_) fun qr hp => ?_; rotate_left
  ·obtain rfl := Option.some.inj hp
   exact hq _ ha.ext'
  refine ifd hp (fun rr hp => ?_) fun rr hp => ?_; rotate_left
  ·obtain rfl := Option.some.inj hp
   exact hq _ ha.ext'
  refine ifd hp (fun sr hp => ?_) fun sr hp => ?_
  ·obtain ⟨OA, tr, hp⟩ := bsome hp
   refine s_awake ha.pre  tr fun PA ur => ?_
   obtain ⟨vr, QA⟩ := ha.call ur I
   refine ⟨_, rfl, ?_⟩
   obtain rfl := Option.some.inj hp
   exact hq _ vr.ext'
  refine ifd hp (fun wr hp => ?_) fun wr hp => ?_; rotate_left
  ·obtain rfl := Option.some.inj hp
   exact hq _ ha.ext'
  obtain ⟨RA, xr, hp⟩ := bsome hp
  refine s_awake ha.pre  xr fun SA yr => ?_
  obtain ⟨zr, UA⟩ := ha.call yr I
  refine ⟨_, rfl, ?_⟩
  obtain rfl := Option.some.inj hp
  exact hq _ zr.ext'
 refine ⟨trivial, _, j.bk.rc rfl, ha111.isSl, ?_⟩
 try rw [ha111.slLen]
 refine ifd hp (fun Ar hp => ?_) fun Ar hp => ?_; rotate_left
 ·refine ⟨_, _, _, _, _, _, _, _, _, _, _, _, O.bk.ra, ?_⟩
  obtain ⟨VA, Ze, jb, Wb⟩ := e.freeze sb
  have Br := j.k jb
  have Cr := O.k jb
  obtain ⟨WA, Dr, hp⟩ := bsome hp
  refine s_lReady (s := ({ Wide := s.Wide, High := s.High, Fall := s.Fall, A := s.A, B := s.B, Half := s.Half, Peak := s.Peak, Cards := ([] ++ s.Cards) } : Stm)) Ze.pre Wb Dr fun XA Er => ?_
  obtain ⟨Xb, af⟩ := Ze.call Er i
  have bf := Br.k af
  have Gr := Cr.k af
  refine ⟨_, rfl, ?_⟩
  refine ifnb hp (fun Hr hp => ?_) fun Hr hp => ?_
  ·obtain ⟨YA, Ir, hp⟩ := bsome hp
   refine s_awake Xb.pre  Ir fun ZA Jr => ?_
   obtain ⟨Kr, aB⟩ := Xb.call Jr i
   refine ⟨_, rfl, ?_⟩
   obtain rfl := Option.some.inj hp
   exact hq _ Kr.ext'
  refine ⟨_, _, _, _, _, _, _, _, _, _, _, _, bf.bk.ra, ?_⟩
  obtain ⟨kb, Lr, hp⟩ := bsome hp
  refine s_lBox (s := s) (w := whr) Xb.pre (ha111.sub jb.fs) Lr fun bB Mr => ?_
  obtain ⟨Nr, cf⟩ := Xb.call Mr i
  have Or := bf.k cf
  have Pr := Gr.k cf
  refine ⟨_, _, _, _, rfl, ?_⟩
  intro cB Qr
  obtain ⟨Ja, Rr, df, Sr⟩ := Nr.blk Qr i 16
  have Tr := Or.k df
  have Ur := Pr.k df
  obtain ⟨Vr, Wr, ef, gf, Xr⟩ := Sr.sto Rr [(Il kb.X.Lo), (Il kb.X.Hi), (Il kb.Y.Lo), (Il kb.Y.Hi)]
  have hf := Tr.k gf
  have Yr := Ur.k gf
  refine ⟨Vr, Wr, ?_⟩
  refine ⟨_, _, _, _, _, _, _, _, _, _, _, _, hf.bk.ra, ?_⟩
  obtain ⟨Zr, bs, hp⟩ := bsome hp
  refine s_lStorm (s := s) ef.pre (ha111.sub jb.fs) bs fun dB eB fB cs ds => ?_
  obtain ⟨jf, ia⟩ := ef.callG cs Ja
  have es := hf.k ia
  have gs := Yr.k ia
  have hs := Xr.k ia
  refine ⟨_, _, _, _, _, _, _, _, _, _, _, _, rfl, ?_⟩
  obtain ⟨gB, js, hp⟩ := bsome hp
  refine s_Leave (s := Zr) jf.pre ds js fun hB iB jB ks kf => ?_
  obtain ⟨lf, ja⟩ := jf.callG ks Ja
  have ms := es.k ja
  have mf := gs.k ja
  have ns := hs.k ja
  refine ⟨_, _, rfl, _, _, _, _, _, _, _, _, _, _, _, _, mf.bk.ra, ?_⟩
  obtain ⟨os, ps, hp⟩ := bsome hp
  refine s_lStorm (s := ({ Wide := s.Wide, High := s.High, Fall := s.Fall, A := s.A, B := s.B, Half := s.Half, Peak := s.Peak, Cards := ([] ++ s.Cards) } : Stm)) lf.pre (Wb.sub (Sub.trans ia.fs ja.fs)) ps fun kB lB mB qs rs => ?_
  obtain ⟨nf, Ka⟩ := lf.callG qs Ja
  have ss := ms.k Ka
  have us := mf.k Ka
  have vs := ns.k Ka
  refine ⟨_, _, _, _, _, _, _, _, _, _, _, _, rfl, ?_⟩
  obtain ⟨nB, xs, hp⟩ := bsome hp
  refine s_Leave (s := os) nf.pre rs xs fun oB pB qB ys pf => ?_
  obtain ⟨qf, La⟩ := nf.callG ys Ja
  have rf := ss.k La
  have zs := us.k La
  have As := vs.k La
  refine ⟨_, _, rfl, _, _, _, _, _, _, _, _, _, _, _, _, rf.bk.ra, ?_⟩
  obtain ⟨Bs, Cs, hp⟩ := bsome hp
  refine s_lStorm (s := s) qf.pre (ha111.sub (Sub.trans (Sub.trans (Sub.trans (Sub.trans jb.fs ia.fs) ja.fs) Ka.fs) La.fs)) Cs fun rB sB tB Ds Es => ?_
  obtain ⟨sf, mb⟩ := qf.callG Ds Ja
  have Fs := rf.k mb
  have Gs := zs.k mb
  have Hs := As.k mb
  refine ⟨_, _, _, _, _, _, _, _, _, _, _, _, rfl, ?_⟩
  obtain ⟨u, Is, hp⟩ := bsome hp
  refine s_Bounds (s := Bs) sf.pre Es Is fun uB wB Js Ks Ms => ?_
  obtain ⟨Ns, nb⟩ := sf.callG Ks Ja
  have Os := Fs.k nb
  have Ps := Gs.k nb
  have Qs := Hs.k nb
  refine ⟨_, _, _, _, _, _, _, _, _, _, _, _, _, rfl, ?_⟩
  intro xB Ss
  obtain ⟨Cc, Ts, Dc, Us⟩ := Ns.blk Ss Ja 17
  have Vs := Os.k Dc
  have Ws := Ps.k Dc
  have Xs := Qs.k Dc
  obtain ⟨Ys, Zs, tf, Ec, bt⟩ := Us.sto Ts [(Il u.1.Wide), (Il u.1.High), (Il u.1.Fall), (Il u.1.A.Lo), (Il u.1.A.Hi), (Il u.1.B.Lo), (Il u.1.B.Hi), (Il u.1.Half.Lo), (Il u.1.Half.Hi), (Il u.1.Peak.Lo), (Il u.1.Peak.Hi), Js]
  have ct := Vs.k Ec
  have uf := Ws.k Ec
  have dt := Xs.k Ec
  refine ⟨Ys, Zs, ?_⟩
  refine ⟨_, _, _, _, _, _, _, _, _, _, _, _, uf.bk.ra, ?_⟩
  obtain ⟨et, ft, hp⟩ := bsome hp
  refine s_lStorm (s := ({ Wide := s.Wide, High := s.High, Fall := s.Fall, A := s.A, B := s.B, Half := s.Half, Peak := s.Peak, Cards := ([] ++ s.Cards) } : Stm)) tf.pre (Wb.sub (Sub.trans (Sub.trans (Sub.trans (Sub.trans (Sub.trans ia.fs ja.fs) Ka.fs) La.fs) mb.fs) nb.fs)) ft fun yB zB AB gt ht => ?_
  obtain ⟨vf, Ma⟩ := tf.callG gt Cc
  have it := ct.k Ma
  have jt := uf.k Ma
  have kt := dt.k Ma
  have mt := bt.k Ma
  refine ⟨_, _, _, _, _, _, _, _, _, _, _, _, rfl, ?_⟩
  obtain ⟨x, nt, hp⟩ := bsome hp
  refine s_Bounds (s := et) vf.pre ht nt fun BB CB ot pt qt => ?_
  obtain ⟨rt, Na⟩ := vf.callG pt Cc
  have ut := it.k Na
  have vt := jt.k Na
  have wt := kt.k Na
  have xt := mt.k Na
  refine ⟨_, _, _, _, _, _, _, _, _, _, _, _, _, rfl, ?_⟩
  intro DB yt
  obtain ⟨J, zt, Yb, At⟩ := rt.blk yt Cc 18
  have Bt := ut.k Yb
  have Ct := vt.k Yb
  have Dt := wt.k Yb
  have Et := xt.k Yb
  obtain ⟨Ft, Gt, ka, Zb, Ht⟩ := At.sto zt [(Il x.1.Wide), (Il x.1.High), (Il x.1.Fall), (Il x.1.A.Lo), (Il x.1.A.Hi), (Il x.1.B.Lo), (Il x.1.B.Hi), (Il x.1.Half.Lo), (Il x.1.Half.Hi), (Il x.1.Peak.Lo), (Il x.1.Peak.Hi), ot]
  have Jt := Bt.k Zb
  have Kt := Ct.k Zb
  have wf := Dt.k Zb
  have Lt := Et.k Zb
  refine ⟨Ft, Gt, ?_⟩
  refine ifnd hp (fun Mt hp => ?_) fun Mt hp => ?_
  ·obtain rfl := Option.some.inj hp
   exact hq _ ka.ext'
  refine ifnd hp (fun Nt hp => ?_) fun Nt hp => ?_
  ·obtain rfl := Option.some.inj hp
   exact hq _ ka.ext'
  refine ⟨pf.isSl, kf.isSl, ?_⟩
  try rw [kf.slLen]
  try rw [pf.slLen]
  refine ifd hp (fun Ot hp => ?_) fun Ot hp => ?_
  ·obtain rfl := Option.some.inj hp
   exact hq _ ka.ext'
  refine ifnd hp (fun Fc hp => ?_) fun Fc hp => ?_
  ·refine ifnd hp (fun Pt hp => ?_) fun Pt hp => ?_
   ·obtain rfl := Option.some.inj hp
    exact hq _ ka.ext'
   refine ifnkf Fc ?_
   obtain ⟨EB, Qt, hp⟩ := bsome hp
   refine s_awake ka.pre  Qt fun FB Rt => ?_
   obtain ⟨Tt, GB⟩ := ka.call Rt J
   refine ⟨_, rfl, ?_⟩
   obtain rfl := Option.some.inj hp
   exact hq _ Tt.ext'
  refine ifnkt Fc ?_
  refine ⟨_, _, _, _, _, _, _, _, _, _, _, _, Jt.bk.ra, ?_⟩
  obtain ⟨Ut, Vt, hp⟩ := bsome hp
  refine s_lStorm (s := s) ka.pre (ha111.sub (Sub.trans (Sub.trans (Sub.trans (Sub.trans (Sub.trans (Sub.trans (Sub.trans (Sub.trans jb.fs ia.fs) ja.fs) Ka.fs) La.fs) mb.fs) nb.fs) Ma.fs) Na.fs)) Vt fun HB IB JB Xt Yt => ?_
  obtain ⟨xf, Oa⟩ := ka.callG Xt J
  have Zt := Kt.k Oa
  have yf := wf.k Oa
  have au := Lt.k Oa
  have bu := Ht.k Oa
  refine ⟨_, _, _, _, _, _, _, _, _, _, _, _, rfl, _, _, _, _, yf.bk.ra, (wf.bk.ra), ?_⟩
  obtain ⟨cu, du, hp⟩ := bsome hp
  refine s_lRect (r := kb) xf.pre  du fun KB eu => ?_
  obtain ⟨zf, ac⟩ := xf.call eu J
  have fu := Zt.k ac
  have gu := yf.k ac
  have hu := au.k ac
  have iu := bu.k ac
  refine ⟨_, _, _, _, rfl, ?_⟩
  obtain ⟨LB, ju, hp⟩ := bsome hp
  refine s_Verdict (s := Ut) (r := cu) zf.pre Yt ju fun MB ku => ?_
  obtain ⟨Af, bc⟩ := zf.call ku J
  have lu := fu.k bc
  have Bf := gu.k bc
  have mu := hu.k bc
  have nu := iu.k bc
  refine ⟨_, _, rfl, _, _, _, _, _, _, _, _, _, _, _, _, lu.bk.ra, ?_⟩
  obtain ⟨ou, pu, hp⟩ := bsome hp
  refine s_lStorm (s := ({ Wide := s.Wide, High := s.High, Fall := s.Fall, A := s.A, B := s.B, Half := s.Half, Peak := s.Peak, Cards := ([] ++ s.Cards) } : Stm)) Af.pre (Wb.sub (Sub.trans (Sub.trans (Sub.trans (Sub.trans (Sub.trans (Sub.trans (Sub.trans (Sub.trans ia.fs ja.fs) Ka.fs) La.fs) mb.fs) nb.fs) Ma.fs) Na.fs) Oa.fs)) pu fun NB OB PB qu ru => ?_
  obtain ⟨Cf, wb⟩ := Af.callG qu J
  have su := Bf.k wb
  have tu := mu.k wb
  have uu := nu.k wb
  refine ⟨_, _, _, _, _, _, _, _, _, _, _, _, rfl, _, _, _, _, su.bk.ra, (Bf.bk.ra), ?_⟩
  obtain ⟨vu, xu, hp⟩ := bsome hp
  refine s_lRect (r := kb) Cf.pre  xu fun QB yu => ?_
  obtain ⟨Df, Ef⟩ := Cf.call yu J
  have zu := tu.k Ef
  have Au := uu.k Ef
  refine ⟨_, _, _, _, rfl, ?_⟩
  obtain ⟨RB, Bu, hp⟩ := bsome hp
  refine s_Verdict (s := ou) (r := vu) Df.pre ru Bu fun UB Cu => ?_
  obtain ⟨Gc, Ff⟩ := Df.call Cu J
  have Du := zu.k Ff
  have Eu := Au.k Ff
  refine ⟨_, _, rfl, ?_⟩
  refine ifd hp (fun Fu hp => ?_) fun Fu hp => ?_; rotate_left
  ·obtain rfl := Option.some.inj hp
   exact hq _ Gc.ext'
  refine ⟨_, _, _, _, _, _, _, _, _, _, _, _, Du.bk.ra, _, _, _, _, _, _, _, _, _, _, _, _, Eu.bk.ra, ?_⟩
  obtain ⟨VB, Gu, hp⟩ := bsome hp
  refine s_lNarrower (a := u.1) (b := x.1) Gc.pre (Ms.sub (Sub.trans (Sub.trans (Sub.trans Ma.fs Na.fs) Oa.fs) wb.fs)) (qt.sub (Sub.trans Oa.fs wb.fs)) Gu fun WB Hu => ?_
  obtain ⟨la, XB⟩ := Gc.call Hu J
  refine ⟨_, rfl, ?_⟩
  refine ifbb hp (fun Iu hp => ?_) fun Iu hp => ?_; rotate_left
  ·obtain rfl := Option.some.inj hp
   exact hq _ la.ext'
  refine ifd hp (fun Ju hp => ?_) fun Ju hp => ?_; rotate_left
  ·obtain rfl := Option.some.inj hp
   exact hq _ la.ext'
  refine ifd hp (fun Ku hp => ?_) fun Ku hp => ?_; rotate_left
  ·obtain rfl := Option.some.inj hp
   exact hq _ la.ext'
  refine ifd hp (fun Lu hp => ?_) fun Lu hp => ?_
  ·obtain ⟨YB, Mu, hp⟩ := bsome hp
   refine s_awake la.pre  Mu fun ZB Nu => ?_
   obtain ⟨Ou, aC⟩ := la.call Nu J
   refine ⟨_, rfl, ?_⟩
   obtain rfl := Option.some.inj hp
   exact hq _ Ou.ext'
  refine ifd hp (fun Pu hp => ?_) fun Pu hp => ?_; rotate_left
  ·obtain rfl := Option.some.inj hp
   exact hq _ la.ext'
  obtain ⟨bC, Qu, hp⟩ := bsome hp
  refine s_awake la.pre  Qu fun cC Ru => ?_
  obtain ⟨Su, dC⟩ := la.call Ru J
  refine ⟨_, rfl, ?_⟩
  obtain rfl := Option.some.inj hp
  exact hq _ Su.ext'
 refine ⟨trivial, _, O.bk.rc rfl, ?_⟩
 refine gdi hp fun Tu hp => ?_
 refine gdi hp fun Uu hp => ?_
 refine gdi hp fun Vu hp => ?_
 refine gdi hp fun Wu hp => ?_
 obtain ⟨Gf, hp⟩ := gd_some hp
 refine ⟨(by first | exact Gf | (rw [ha111.slLen]; exact Gf)), ?_⟩
 obtain ⟨Hf, hp⟩ := gd_some hp
 refine ⟨(by first | exact Hf | (rw [ha111.slLen]; exact Hf)), ?_⟩
 obtain ⟨d, g, hp⟩ := bsome hp
 obtain ⟨Pa, xb, Nc, g⟩ := idx_some g
 refine ⟨Pa, (by first | exact xb | (rw [ha111.slLen]; exact xb)), (by first | exact Nc | (rw [e.slLen]; exact Nc)), (e.okNil g _), (e.isPt g _), (e.isPt' g _ _), _, (by rw [e.add2 g]; exact (rdo_Crd e g).2.1 0 _ rfl), ?_⟩
 obtain ⟨Xu, hp⟩ := gd_some hp
 refine ⟨Xu, trivial, _, j.bk.rc rfl, ?_⟩
 obtain ⟨Yu, hp⟩ := gd_some hp
 refine ⟨Yu, (e.okNil g _), (e.isPt g _), (e.isPt' g _ _), _, (by rw [e.add2 g]; exact (rdo_Crd e g).2.1 1 _ rfl), ?_⟩
 obtain ⟨Zu, hp⟩ := gd_some hp
 refine ⟨Zu, (e.okNil g _), (e.isPt g _), (e.isPt' g _ _), _, (by rw [e.add2 g]; exact (rdo_Crd e g).2.1 2 _ rfl), ?_⟩
 obtain ⟨av, hp⟩ := gd_some hp
 refine ⟨av, trivial, _, j.bk.rc rfl, ?_⟩
 obtain ⟨bv, hp⟩ := gd_some hp
 refine ⟨bv, (e.okNil g _), (e.isPt g _), (e.isPt' g _ _), _, (by rw [e.add2 g]; exact (rdo_Crd e g).2.1 3 _ rfl), ?_⟩
 obtain ⟨cv, hp⟩ := gd_some hp
 refine ⟨cv, (e.okNil g _), (e.isPt g _), ?_⟩
 obtain ⟨dv, fv, gv, If, cc⟩ := e.setP sb (a' := ({ X := ({ Lo := (max (0 : Int) (d.X.Lo - ((wrapZ .i64 inc) % (2 : Int)))), Hi := (min (s.Wide - (1 : Int)) (d.X.Hi + (((wrapZ .i64 inc) / (2 : Int)) % (2 : Int)))) } : Rg), Y := d.Y, Hail := d.Hail, Size := d.Size } : Crd)) g [(Il d.X.Lo), (Il d.X.Hi), (Il d.Y.Lo), (Il d.Y.Hi), (.bool d.Hail), (Il d.Size.Lo), (Il d.Size.Hi)] (fun _ h => h) 0 [(Il (max (0 : Int) (d.X.Lo - ((wrapZ .i64 inc) % (2 : Int))))), (Il (min (s.Wide - (1 : Int)) (d.X.Hi + (((wrapZ .i64 inc) / (2 : Int)) % (2 : Int)))))] (Nat.le_of_ble_eq_true rfl) rfl
 have Oc : Int.toNat (((wrapZ .i64 which) / (4 : Int)) % (s.Cards.length : Int)) = Pa := by rw [xb]; rfl
 rw [← Oc] at cc
 have Pc := xb
 have yb : (([] ++ s.Cards).set (Int.toNat (((wrapZ .i64 which) / (4 : Int)) % (s.Cards.length : Int))) ({ X := ({ Lo := (max (0 : Int) (d.X.Lo - ((wrapZ .i64 inc) % (2 : Int)))), Hi := (min (s.Wide - (1 : Int)) (d.X.Hi + (((wrapZ .i64 inc) / (2 : Int)) % (2 : Int)))) } : Rg), Y := d.Y, Hail := d.Hail, Size := d.Size } : Crd))[Pa]? = some ({ X := ({ Lo := (max (0 : Int) (d.X.Lo - ((wrapZ .i64 inc) % (2 : Int)))), Hi := (min (s.Wide - (1 : Int)) (d.X.Hi + (((wrapZ .i64 inc) / (2 : Int)) % (2 : Int)))) } : Rg), Y := d.Y, Hail := d.Hail, Size := d.Size } : Crd) := (congrArg (fun z => (([] ++ s.Cards).set z ({ X := ({ Lo := (max (0 : Int) (d.X.Lo - ((wrapZ .i64 inc) % (2 : Int)))), Hi := (min (s.Wide - (1 : Int)) (d.X.Hi + (((wrapZ .i64 inc) / (2 : Int)) % (2 : Int)))) } : Rg), Y := d.Y, Hail := d.Hail, Size := d.Size } : Crd))[Pa]?) Oc).trans (List.getElem?_set_self (List.getElem?_eq_some_iff.1 g).1)
 have wy := (List.getElem?_eq_some_iff.1 yb).1
 have Jf := j.k If
 have hv := O.k If
 refine ⟨dv, fv, ?_⟩
 refine ⟨(Jf.bk.rc rfl), (cc.okNil yb _), (cc.isPt yb _), ?_⟩
 obtain ⟨iv, jv, kv, Kf, Lf⟩ := cc.setP gv (a' := ({ X := ({ Lo := (max (0 : Int) (d.X.Lo - ((wrapZ .i64 inc) % (2 : Int)))), Hi := (min (s.Wide - (1 : Int)) (d.X.Hi + (((wrapZ .i64 inc) / (2 : Int)) % (2 : Int)))) } : Rg), Y := ({ Lo := (max (0 : Int) (d.Y.Lo - (((wrapZ .i64 inc) / (2 : Int)) % (2 : Int)))), Hi := (min (s.High - (1 : Int)) (d.Y.Hi + ((wrapZ .i64 inc) % (2 : Int)))) } : Rg), Hail := d.Hail, Size := d.Size } : Crd)) yb [(Il (max (0 : Int) (d.X.Lo - ((wrapZ .i64 inc) % (2 : Int))))), (Il (min (s.Wide - (1 : Int)) (d.X.Hi + (((wrapZ .i64 inc) / (2 : Int)) % (2 : Int))))), (Il d.Y.Lo), (Il d.Y.Hi), (.bool d.Hail), (Il d.Size.Lo), (Il d.Size.Hi)] (fun _ h => h) 2 [(Il (max (0 : Int) (d.Y.Lo - (((wrapZ .i64 inc) / (2 : Int)) % (2 : Int))))), (Il (min (s.High - (1 : Int)) (d.Y.Hi + ((wrapZ .i64 inc) % (2 : Int)))))] (Nat.le_of_ble_eq_true rfl) rfl
 have Qc : Int.toNat (((wrapZ .i64 which) / (4 : Int)) % (s.Cards.length : Int)) = Pa := by rw [Pc]; rfl
 rw [← Qc] at Lf
 have xy := Pc
 have lv : ((([] ++ s.Cards).set (Int.toNat (((wrapZ .i64 which) / (4 : Int)) % (s.Cards.length : Int))) ({ X := ({ Lo := (max (0 : Int) (d.X.Lo - ((wrapZ .i64 inc) % (2 : Int)))), Hi := (min (s.Wide - (1 : Int)) (d.X.Hi + (((wrapZ .i64 inc) / (2 : Int)) % (2 : Int)))) } : Rg), Y := d.Y, Hail := d.Hail, Size := d.Size } : Crd)).set (Int.toNat (((wrapZ .i64 which) / (4 : Int)) % (s.Cards.length : Int))) ({ X := ({ Lo := (max (0 : Int) (d.X.Lo - ((wrapZ .i64 inc) % (2 : Int)))), Hi := (min (s.Wide - (1 : Int)) (d.X.Hi + (((wrapZ .i64 inc) / (2 : Int)) % (2 : Int)))) } : Rg), Y := ({ Lo := (max (0 : Int) (d.Y.Lo - (((wrapZ .i64 inc) / (2 : Int)) % (2 : Int)))), Hi := (min (s.High - (1 : Int)) (d.Y.Hi + ((wrapZ .i64 inc) % (2 : Int)))) } : Rg), Hail := d.Hail, Size := d.Size } : Crd))[Pa]? = some ({ X := ({ Lo := (max (0 : Int) (d.X.Lo - ((wrapZ .i64 inc) % (2 : Int)))), Hi := (min (s.Wide - (1 : Int)) (d.X.Hi + (((wrapZ .i64 inc) / (2 : Int)) % (2 : Int)))) } : Rg), Y := ({ Lo := (max (0 : Int) (d.Y.Lo - (((wrapZ .i64 inc) / (2 : Int)) % (2 : Int)))), Hi := (min (s.High - (1 : Int)) (d.Y.Hi + ((wrapZ .i64 inc) % (2 : Int)))) } : Rg), Hail := d.Hail, Size := d.Size } : Crd) := (congrArg (fun z => ((([] ++ s.Cards).set (Int.toNat (((wrapZ .i64 which) / (4 : Int)) % (s.Cards.length : Int))) ({ X := ({ Lo := (max (0 : Int) (d.X.Lo - ((wrapZ .i64 inc) % (2 : Int)))), Hi := (min (s.Wide - (1 : Int)) (d.X.Hi + (((wrapZ .i64 inc) / (2 : Int)) % (2 : Int)))) } : Rg), Y := d.Y, Hail := d.Hail, Size := d.Size } : Crd)).set z ({ X := ({ Lo := (max (0 : Int) (d.X.Lo - ((wrapZ .i64 inc) % (2 : Int)))), Hi := (min (s.Wide - (1 : Int)) (d.X.Hi + (((wrapZ .i64 inc) / (2 : Int)) % (2 : Int)))) } : Rg), Y := ({ Lo := (max (0 : Int) (d.Y.Lo - (((wrapZ .i64 inc) / (2 : Int)) % (2 : Int)))), Hi := (min (s.High - (1 : Int)) (d.Y.Hi + ((wrapZ .i64 inc) % (2 : Int)))) } : Rg), Hail := d.Hail, Size := d.Size } : Crd))[Pa]?) Qc).trans (List.getElem?_set_self (List.getElem?_eq_some_iff.1 yb).1)
 have yy := (List.getElem?_eq_some_iff.1 lv).1
 have mv := Jf.k Kf
 have Mf := hv.k Kf
 refine ⟨iv, jv, ?_⟩
 refine ⟨_, _, _, _, _, _, _, _, _, _, _, _, Mf.bk.ra, ?_⟩
 obtain ⟨eC, Nf, ob, dc⟩ := Lf.freeze kv
 have nv := mv.k ob
 have ov := Mf.k ob
 obtain ⟨fC, pv, hp⟩ := bsome hp
 have Rc := @s_lReady ({ Wide := s.Wide, High := s.High, Fall := s.Fall, A := s.A, B := s.B, Half := s.Half, Peak := s.Peak, Cards := ((([] ++ s.Cards).set (Int.toNat (((wrapZ .i64 which) / (4 : Int)) % (s.Cards.length : Int))) ({ X := ({ Lo := (max (0 : Int) (d.X.Lo - ((wrapZ .i64 inc) % (2 : Int)))), Hi := (min (s.Wide - (1 : Int)) (d.X.Hi + (((wrapZ .i64 inc) / (2 : Int)) % (2 : Int)))) } : Rg), Y := d.Y, Hail := d.Hail, Size := d.Size } : Crd)).set (Int.toNat (((wrapZ .i64 which) / (4 : Int)) % (s.Cards.length : Int))) ({ X := ({ Lo := (max (0 : Int) (d.X.Lo - ((wrapZ .i64 inc) % (2 : Int)))), Hi := (min (s.Wide - (1 : Int)) (d.X.Hi + (((wrapZ .i64 inc) / (2 : Int)) % (2 : Int)))) } : Rg), Y := ({ Lo := (max (0 : Int) (d.Y.Lo - (((wrapZ .i64 inc) / (2 : Int)) % (2 : Int)))), Hi := (min (s.High - (1 : Int)) (d.Y.Hi + ((wrapZ .i64 inc) % (2 : Int)))) } : Rg), Hail := d.Hail, Size := d.Size } : Crd)) } : Stm)
 dsimp only at Rc
 refine Rc Nf.pre dc pv fun hC qv => ?_
 obtain ⟨ec, Pf⟩ := Nf.call qv i
 have Qf := nv.k Pf
 have rv := ov.k Pf
 refine ⟨_, rfl, ?_⟩
 refine ifnb hp (fun sv hp => ?_) fun sv hp => ?_
 ·obtain ⟨iC, tv, hp⟩ := bsome hp
  refine s_awake ec.pre  tv fun jC uv => ?_
  obtain ⟨vv, kC⟩ := ec.call uv i
  refine ⟨_, rfl, ?_⟩
  obtain rfl := Option.some.inj hp
  exact hq _ vv.ext'
 refine ⟨_, _, _, _, _, _, _, _, _, _, _, _, Qf.bk.ra, ?_⟩
 obtain ⟨pb, wv, hp⟩ := bsome hp
 refine s_lBox (s := s) (w := whr) ec.pre (ha111.sub ob.fs) wv fun lC xv => ?_
 obtain ⟨yv, Rf⟩ := ec.call xv i
 have zv := Qf.k Rf
 have Av := rv.k Rf
 refine ⟨_, _, _, _, rfl, ?_⟩
 intro mC Bv
 obtain ⟨Qa, Cv, Sf, Dv⟩ := yv.blk Bv i 13
 have Fv := zv.k Sf
 have Gv := Av.k Sf
 obtain ⟨Hv, Iv, Tf, Uf, Jv⟩ := Dv.sto Cv [(Il pb.X.Lo), (Il pb.X.Hi), (Il pb.Y.Lo), (Il pb.Y.Hi)]
 have Vf := Fv.k Uf
 have Kv := Gv.k Uf
 refine ⟨Hv, Iv, ?_⟩
 refine ⟨_, _, _, _, _, _, _, _, _, _, _, _, Vf.bk.ra, ?_⟩
 obtain ⟨Lv, Mv, hp⟩ := bsome hp
 refine s_lStorm (s := s) Tf.pre (ha111.sub ob.fs) Mv fun nC oC pC Nv Ov => ?_
 obtain ⟨Wf, ma⟩ := Tf.callG Nv Qa
 have Pv := Vf.k ma
 have Qv := Kv.k ma
 have Rv := Jv.k ma
 refine ⟨_, _, _, _, _, _, _, _, _, _, _, _, rfl, ?_⟩
 obtain ⟨qC, Sv, hp⟩ := bsome hp
 refine s_Leave (s := Lv) Wf.pre Ov Sv fun rC sC tC Tv Xf => ?_
 obtain ⟨Yf, na⟩ := Wf.callG Tv Qa
 have Uv := Pv.k na
 have Zf := Qv.k na
 have Vv := Rv.k na
 refine ⟨_, _, rfl, _, _, _, _, _, _, _, _, _, _, _, _, Zf.bk.ra, ?_⟩
 obtain ⟨Wv, Xv, hp⟩ := bsome hp
 have Tc := @s_lStorm ({ Wide := s.Wide, High := s.High, Fall := s.Fall, A := s.A, B := s.B, Half := s.Half, Peak := s.Peak, Cards := ((([] ++ s.Cards).set (Int.toNat (((wrapZ .i64 which) / (4 : Int)) % (s.Cards.length : Int))) ({ X := ({ Lo := (max (0 : Int) (d.X.Lo - ((wrapZ .i64 inc) % (2 : Int)))), Hi := (min (s.Wide - (1 : Int)) (d.X.Hi + (((wrapZ .i64 inc) / (2 : Int)) % (2 : Int)))) } : Rg), Y := d.Y, Hail := d.Hail, Size := d.Size } : Crd)).set (Int.toNat (((wrapZ .i64 which) / (4 : Int)) % (s.Cards.length : Int))) ({ X := ({ Lo := (max (0 : Int) (d.X.Lo - ((wrapZ .i64 inc) % (2 : Int)))), Hi := (min (s.Wide - (1 : Int)) (d.X.Hi + (((wrapZ .i64 inc) / (2 : Int)) % (2 : Int)))) } : Rg), Y := ({ Lo := (max (0 : Int) (d.Y.Lo - (((wrapZ .i64 inc) / (2 : Int)) % (2 : Int)))), Hi := (min (s.High - (1 : Int)) (d.Y.Hi + ((wrapZ .i64 inc) % (2 : Int)))) } : Rg), Hail := d.Hail, Size := d.Size } : Crd)) } : Stm)
 dsimp only at Tc
 refine Tc Yf.pre (dc.sub (Sub.trans ma.fs na.fs)) Xv fun uC vC xC Yv Zv => ?_
 obtain ⟨ag, Ra⟩ := Yf.callG Yv Qa
 have bw := Uv.k Ra
 have cw := Zf.k Ra
 have dw := Vv.k Ra
 refine ⟨_, _, _, _, _, _, _, _, _, _, _, _, rfl, ?_⟩
 obtain ⟨yC, ew, hp⟩ := bsome hp
 refine s_Leave (s := Wv) ag.pre Zv ew fun zC AC BC fw bg => ?_
 obtain ⟨cg, Sa⟩ := ag.callG fw Qa
 have dg := bw.k Sa
 have gw := cw.k Sa
 have hw := dw.k Sa
 refine ⟨_, _, rfl, _, _, _, _, _, _, _, _, _, _, _, _, dg.bk.ra, ?_⟩
 obtain ⟨iw, jw, hp⟩ := bsome hp
 refine s_lStorm (s := s) cg.pre (ha111.sub (Sub.trans (Sub.trans (Sub.trans (Sub.trans ob.fs ma.fs) na.fs) Ra.fs) Sa.fs)) jw fun CC DC EC kw lw => ?_
 obtain ⟨eg, qb⟩ := cg.callG kw Qa
 have mw := dg.k qb
 have nw := gw.k qb
 have pw := hw.k qb
 refine ⟨_, _, _, _, _, _, _, _, _, _, _, _, rfl, ?_⟩
 obtain ⟨y, qw, hp⟩ := bsome hp
 refine s_Bounds (s := iw) eg.pre lw qw fun FC GC sw tw uw => ?_
 obtain ⟨vw, rb⟩ := eg.callG tw Qa
 have ww := mw.k rb
 have xw := nw.k rb
 have yw := pw.k rb
 refine ⟨_, _, _, _, _, _, _, _, _, _, _, _, _, rfl, ?_⟩
 intro HC zw
 obtain ⟨Hc, Aw, Ic, Bw⟩ := vw.blk zw Qa 14
 have Cw := ww.k Ic
 have Dw := xw.k Ic
 have Ew := yw.k Ic
 obtain ⟨Fw, Gw, fg, Jc, Hw⟩ := Bw.sto Aw [(Il y.1.Wide), (Il y.1.High), (Il y.1.Fall), (Il y.1.A.Lo), (Il y.1.A.Hi), (Il y.1.B.Lo), (Il y.1.B.Hi), (Il y.1.Half.Lo), (Il y.1.Half.Hi), (Il y.1.Peak.Lo), (Il y.1.Peak.Hi), sw]
 have Iw := Cw.k Jc
 have gg := Dw.k Jc
 have Jw := Ew.k Jc
 refine ⟨Fw, Gw, ?_⟩
 refine ⟨_, _, _, _, _, _, _, _, _, _, _, _, gg.bk.ra, ?_⟩
 obtain ⟨Kw, Lw, hp⟩ := bsome hp
 have Uc := @s_lStorm ({ Wide := s.Wide, High := s.High, Fall := s.Fall, A := s.A, B := s.B, Half := s.Half, Peak := s.Peak, Cards := ((([] ++ s.Cards).set (Int.toNat (((wrapZ .i64 which) / (4 : Int)) % (s.Cards.length : Int))) ({ X := ({ Lo := (max (0 : Int) (d.X.Lo - ((wrapZ .i64 inc) % (2 : Int)))), Hi := (min (s.Wide - (1 : Int)) (d.X.Hi + (((wrapZ .i64 inc) / (2 : Int)) % (2 : Int)))) } : Rg), Y := d.Y, Hail := d.Hail, Size := d.Size } : Crd)).set (Int.toNat (((wrapZ .i64 which) / (4 : Int)) % (s.Cards.length : Int))) ({ X := ({ Lo := (max (0 : Int) (d.X.Lo - ((wrapZ .i64 inc) % (2 : Int)))), Hi := (min (s.Wide - (1 : Int)) (d.X.Hi + (((wrapZ .i64 inc) / (2 : Int)) % (2 : Int)))) } : Rg), Y := ({ Lo := (max (0 : Int) (d.Y.Lo - (((wrapZ .i64 inc) / (2 : Int)) % (2 : Int)))), Hi := (min (s.High - (1 : Int)) (d.Y.Hi + ((wrapZ .i64 inc) % (2 : Int)))) } : Rg), Hail := d.Hail, Size := d.Size } : Crd)) } : Stm)
 dsimp only at Uc
 refine Uc fg.pre (dc.sub (Sub.trans (Sub.trans (Sub.trans (Sub.trans (Sub.trans ma.fs na.fs) Ra.fs) Sa.fs) qb.fs) rb.fs)) Lw fun IC JC KC Mw Nw => ?_
 obtain ⟨hg, Ta⟩ := fg.callG Mw Hc
 have Pw := Iw.k Ta
 have Qw := gg.k Ta
 have Rw := Jw.k Ta
 have Sw := Hw.k Ta
 refine ⟨_, _, _, _, _, _, _, _, _, _, _, _, rfl, ?_⟩
 obtain ⟨D, Tw, hp⟩ := bsome hp
 refine s_Bounds (s := Kw) hg.pre Nw Tw fun LC MC Uw Vw Ww => ?_
 obtain ⟨Xw, Ua⟩ := hg.callG Vw Hc
 have Yw := Pw.k Ua
 have Zw := Qw.k Ua
 have ax := Rw.k Ua
 have bx := Sw.k Ua
 refine ⟨_, _, _, _, _, _, _, _, _, _, _, _, _, rfl, ?_⟩
 intro NC cx
 obtain ⟨N, dx, fc, ex⟩ := Xw.blk cx Hc 15
 have fx := Yw.k fc
 have gx := Zw.k fc
 have hx := ax.k fc
 have jx := bx.k fc
 obtain ⟨kx, lx, oa, gc, mx⟩ := ex.sto dx [(Il D.1.Wide), (Il D.1.High), (Il D.1.Fall), (Il D.1.A.Lo), (Il D.1.A.Hi), (Il D.1.B.Lo), (Il D.1.B.Hi), (Il D.1.Half.Lo), (Il D.1.Half.Hi), (Il D.1.Peak.Lo), (Il D.1.Peak.Hi), Uw]
 have nx := fx.k gc
 have ox := gx.k gc
 have ig := hx.k gc
 have px := jx.k gc
 refine ⟨kx, lx, ?_⟩
 refine ifnd hp (fun qx hp => ?_) fun qx hp => ?_
 ·obtain rfl := Option.some.inj hp
  exact hq _ oa.ext'
 refine ifnd hp (fun rx hp => ?_) fun rx hp => ?_
 ·obtain rfl := Option.some.inj hp
  exact hq _ oa.ext'
 refine ⟨bg.isSl, Xf.isSl, ?_⟩
 try rw [Xf.slLen]
 try rw [bg.slLen]
 refine ifd hp (fun sx hp => ?_) fun sx hp => ?_
 ·obtain rfl := Option.some.inj hp
  exact hq _ oa.ext'
 refine ifnd hp (fun Kc hp => ?_) fun Kc hp => ?_
 ·refine ifnd hp (fun tx hp => ?_) fun tx hp => ?_
  ·obtain rfl := Option.some.inj hp
   exact hq _ oa.ext'
  refine ifnkf Kc ?_
  obtain ⟨OC, ux, hp⟩ := bsome hp
  refine s_awake oa.pre  ux fun PC vx => ?_
  obtain ⟨wx, QC⟩ := oa.call vx N
  refine ⟨_, rfl, ?_⟩
  obtain rfl := Option.some.inj hp
  exact hq _ wx.ext'
 refine ifnkt Kc ?_
 refine ⟨_, _, _, _, _, _, _, _, _, _, _, _, nx.bk.ra, ?_⟩
 obtain ⟨xx, yx, hp⟩ := bsome hp
 refine s_lStorm (s := s) oa.pre (ha111.sub (Sub.trans (Sub.trans (Sub.trans (Sub.trans (Sub.trans (Sub.trans (Sub.trans (Sub.trans ob.fs ma.fs) na.fs) Ra.fs) Sa.fs) qb.fs) rb.fs) Ta.fs) Ua.fs)) yx fun RC SC TC zx Ax => ?_
 obtain ⟨jg, Va⟩ := oa.callG zx N
 have Bx := ox.k Va
 have kg := ig.k Va
 have Cx := px.k Va
 have Dx := mx.k Va
 refine ⟨_, _, _, _, _, _, _, _, _, _, _, _, rfl, _, _, _, _, kg.bk.ra, (ig.bk.ra), ?_⟩
 obtain ⟨Fx, Gx, hp⟩ := bsome hp
 refine s_lRect (r := pb) jg.pre  Gx fun UC Hx => ?_
 obtain ⟨lg, hc⟩ := jg.call Hx N
 have Ix := Bx.k hc
 have Jx := kg.k hc
 have Kx := Cx.k hc
 have Lx := Dx.k hc
 refine ⟨_, _, _, _, rfl, ?_⟩
 obtain ⟨VC, Mx, hp⟩ := bsome hp
 refine s_Verdict (s := xx) (r := Fx) lg.pre Ax Mx fun WC Nx => ?_
 obtain ⟨mg, ic⟩ := lg.call Nx N
 have Ox := Ix.k ic
 have ng := Jx.k ic
 have Px := Kx.k ic
 have Qx := Lx.k ic
 refine ⟨_, _, rfl, _, _, _, _, _, _, _, _, _, _, _, _, Ox.bk.ra, ?_⟩
 obtain ⟨Rx, Sx, hp⟩ := bsome hp
 have Vc := @s_lStorm ({ Wide := s.Wide, High := s.High, Fall := s.Fall, A := s.A, B := s.B, Half := s.Half, Peak := s.Peak, Cards := ((([] ++ s.Cards).set (Int.toNat (((wrapZ .i64 which) / (4 : Int)) % (s.Cards.length : Int))) ({ X := ({ Lo := (max (0 : Int) (d.X.Lo - ((wrapZ .i64 inc) % (2 : Int)))), Hi := (min (s.Wide - (1 : Int)) (d.X.Hi + (((wrapZ .i64 inc) / (2 : Int)) % (2 : Int)))) } : Rg), Y := d.Y, Hail := d.Hail, Size := d.Size } : Crd)).set (Int.toNat (((wrapZ .i64 which) / (4 : Int)) % (s.Cards.length : Int))) ({ X := ({ Lo := (max (0 : Int) (d.X.Lo - ((wrapZ .i64 inc) % (2 : Int)))), Hi := (min (s.Wide - (1 : Int)) (d.X.Hi + (((wrapZ .i64 inc) / (2 : Int)) % (2 : Int)))) } : Rg), Y := ({ Lo := (max (0 : Int) (d.Y.Lo - (((wrapZ .i64 inc) / (2 : Int)) % (2 : Int)))), Hi := (min (s.High - (1 : Int)) (d.Y.Hi + ((wrapZ .i64 inc) % (2 : Int)))) } : Rg), Hail := d.Hail, Size := d.Size } : Crd)) } : Stm)
 dsimp only at Vc
 refine Vc mg.pre (dc.sub (Sub.trans (Sub.trans (Sub.trans (Sub.trans (Sub.trans (Sub.trans (Sub.trans (Sub.trans ma.fs na.fs) Ra.fs) Sa.fs) qb.fs) rb.fs) Ta.fs) Ua.fs) Va.fs)) Sx fun XC YC ZC Tx Ux => ?_
 obtain ⟨og, zb⟩ := mg.callG Tx N
 have Vx := ng.k zb
 have Wx := Px.k zb
 have Xx := Qx.k zb
 refine ⟨_, _, _, _, _, _, _, _, _, _, _, _, rfl, _, _, _, _, Vx.bk.ra, (ng.bk.ra), ?_⟩
 obtain ⟨Yx, Zx, hp⟩ := bsome hp
 refine s_lRect (r := pb) og.pre  Zx fun aD ay => ?_
 obtain ⟨pg, qg⟩ := og.call ay N
 have cy := Wx.k qg
 have dy := Xx.k qg
 refine ⟨_, _, _, _, rfl, ?_⟩
 obtain ⟨bD, ey, hp⟩ := bsome hp
 refine s_Verdict (s := Rx) (r := Yx) pg.pre Ux ey fun cD fy => ?_
 obtain ⟨Lc, rg⟩ := pg.call fy N
 have gy := cy.k rg
 have hy := dy.k rg
 refine ⟨_, _, rfl, ?_⟩
 refine ifd hp (fun iy hp => ?_) fun iy hp => ?_; rotate_left
 ·obtain rfl := Option.some.inj hp
  exact hq _ Lc.ext'
 refine ⟨_, _, _, _, _, _, _, _, _, _, _, _, gy.bk.ra, _, _, _, _, _, _, _, _, _, _, _, _, hy.bk.ra, ?_⟩
 obtain ⟨dD, jy, hp⟩ := bsome hp
 refine s_lNarrower (a := y.1) (b := D.1) Lc.pre (uw.sub (Sub.trans (Sub.trans (Sub.trans Ta.fs Ua.fs) Va.fs) zb.fs)) (Ww.sub (Sub.trans Va.fs zb.fs)) jy fun eD ky => ?_
 obtain ⟨pa, fD⟩ := Lc.call ky N
 refine ⟨_, rfl, ?_⟩
 refine ifbb hp (fun ly hp => ?_) fun ly hp => ?_; rotate_left
 ·obtain rfl := Option.some.inj hp
  exact hq _ pa.ext'
 refine ifd hp (fun my hp => ?_) fun my hp => ?_; rotate_left
 ·obtain rfl := Option.some.inj hp
  exact hq _ pa.ext'
 refine ifd hp (fun ny hp => ?_) fun ny hp => ?_; rotate_left
 ·obtain rfl := Option.some.inj hp
  exact hq _ pa.ext'
 refine ifd hp (fun oy hp => ?_) fun oy hp => ?_
 ·obtain ⟨gD, py, hp⟩ := bsome hp
  refine s_awake pa.pre  py fun hD qy => ?_
  obtain ⟨ry, iD⟩ := pa.call qy N
  refine ⟨_, rfl, ?_⟩
  obtain rfl := Option.some.inj hp
  exact hq _ ry.ext'
 refine ifd hp (fun sy hp => ?_) fun sy hp => ?_; rotate_left
 ·obtain rfl := Option.some.inj hp
  exact hq _ pa.ext'
 obtain ⟨jD, ty, hp⟩ := bsome hp
 refine s_awake pa.pre  ty fun kD uy => ?_
 obtain ⟨vy, lD⟩ := pa.call uy N
 refine ⟨_, rfl, ?_⟩
 obtain rfl := Option.some.inj hp
 exact hq _ vy.ext'
end
end Go.Proofs.Ytbnfnhfanooplaa

