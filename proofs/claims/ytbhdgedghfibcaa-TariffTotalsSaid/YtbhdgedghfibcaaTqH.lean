/- An evaluator of the code of a program, its soundness, what calls ask, memory, and what functions of the program do. Condition: none; a lemma text of this claim. -/
import Derived.Test.YtbhdgedghfibcaaTqG

namespace Go.Proofs.Ytbhdgedghfibcaa
open _root_.Go.Proofs.Try
open Go.Abs
set_option maxRecDepth 100000
noncomputable section
def Fv_Tf_Bool (f : M) (x : C) (g : Tf → Option (Bool)) : Prop := ∀ (f' m : M) (a0 : Tf) (c0 c1 c2 : C) (r : Bool) (Q : V → M → Prop), Sub f f' → Pre f' m → Sl f' c0 a0.Weeks → Sl f' c1 a0.Counts → Sl f' c2 a0.Rates → g a0 = some r → (∀ m', Ext m m' → Q (.c (.bool r)) m') → callP prog tbl [.agg 6 [(.int .i64 a0.From), (.bool a0.Whole), (.int .i64 a0.Least), c0, c1, c2]] x m Q
theorem Fv_Tf_Bool.sub {f m : M} {x : C} {g : Tf → Option (Bool)} (h : Fv_Tf_Bool f x g) (s : Sub f m) : Fv_Tf_Bool m x g := fun f' m' a0 c0 c1 c2 r Q hs => h f' m' a0 c0 c1 c2 r Q (s.trans hs)
def Fv_Clm_Bool (f : M) (x : C) (g : Clm → Option (Bool)) : Prop := ∀ (f' m : M) (a0 : Clm) (r : Bool) (Q : V → M → Prop), Sub f f' → Pre f' m → g a0 = some r → (∀ m', Ext m m' → Q (.c (.bool r)) m') → callP prog tbl [.agg 6 [(.int .i64 a0.Crop), (.int .i64 a0.Value), (.int .i64 a0.Day.Lo), (.int .i64 a0.Day.Hi), (.int .i64 a0.Count.Lo), (.int .i64 a0.Count.Hi)]] x m Q
theorem Fv_Clm_Bool.sub {f m : M} {x : C} {g : Clm → Option (Bool)} (h : Fv_Clm_Bool f x g) (s : Sub f m) : Fv_Clm_Bool m x g := fun f' m' a0 r Q hs => h f' m' a0 r Q (s.trans hs)
def Fv_Int_Bool (f : M) (x : C) (g : Int → Option (Bool)) : Prop := ∀ (f' m : M) (a0 : Int) (r : Bool) (Q : V → M → Prop), Sub f f' → Pre f' m → g a0 = some r → (∀ m', Ext m m' → Q (.c (.bool r)) m') → callP prog tbl [.c (.int .i64 a0)] x m Q
theorem Fv_Int_Bool.sub {f m : M} {x : C} {g : Int → Option (Bool)} (h : Fv_Int_Bool f x g) (s : Sub f m) : Fv_Int_Bool m x g := fun f' m' a0 r Q hs => h f' m' a0 r Q (s.trans hs)
def Fv_LInt_Bool (f : M) (x : C) (g : List Int → Option (Bool)) : Prop := ∀ (f' m : M) (a0 : List Int) (c0 : C) (r : Bool) (Q : V → M → Prop), Sub f f' → Pre f' m → Sl f' c0 a0 → g a0 = some r → (∀ m', Ext m m' → Q (.c (.bool r)) m') → callP prog tbl [.c c0] x m Q
theorem Fv_LInt_Bool.sub {f m : M} {x : C} {g : List Int → Option (Bool)} (h : Fv_LInt_Bool f x g) (s : Sub f m) : Fv_LInt_Bool m x g := fun f' m' a0 c0 r Q hs => h f' m' a0 c0 r Q (s.trans hs)
def Fv_LLInt_Bool (f : M) (x : C) (g : List (List Int) → Option (Bool)) : Prop := ∀ (f' m : M) (a0 : List (List Int)) (c0 : C) (r : Bool) (Q : V → M → Prop), Sub f f' → Pre f' m → Sl f' c0 a0 → g a0 = some r → (∀ m', Ext m m' → Q (.c (.bool r)) m') → callP prog tbl [.c c0] x m Q
theorem Fv_LLInt_Bool.sub {f m : M} {x : C} {g : List (List Int) → Option (Bool)} (h : Fv_LLInt_Bool f x g) (s : Sub f m) : Fv_LLInt_Bool m x g := fun f' m' a0 c0 r Q hs => h f' m' a0 c0 r Q (s.trans hs)
def Fv_Tf_Int_Int (f : M) (x : C) (g : Tf → Int → Option (Int)) : Prop := ∀ (f' m : M) (a0 : Tf) (a1 : Int) (c0 c1 c2 : C) (r : Int) (Q : V → M → Prop), Sub f f' → Pre f' m → Sl f' c0 a0.Weeks → Sl f' c1 a0.Counts → Sl f' c2 a0.Rates → g a0 a1 = some r → (∀ m', Ext m m' → Q (.c (.int .i64 r)) m') → callP prog tbl [.agg 6 [(.int .i64 a0.From), (.bool a0.Whole), (.int .i64 a0.Least), c0, c1, c2], .c (.int .i64 a1)] x m Q
theorem kl103 : KL prog 103 Ht := kl_agg (n := 3) (ks := [.int .i64, .int .i64, .int .i64]) (by kernel_rfl) (by kernel_rfl) (cs := fun k => [.int .i64 k.Day, .int .i64 k.Count, .int .i64 k.crop]) (fun _ => rfl) fun a b fa fb => ⟨_, _, (eqKs_cons (eqK_i fa.1 fb.1) (eqKs_cons (eqK_i fa.2.1 fb.2.1) (eqKs_cons (eqK_i fa.2.2.1 fb.2.2.1) eqKs_nil))), ⟨fun h => by obtain ⟨aDay, aCount, acrop⟩ := a; obtain ⟨bDay, bCount, bcrop⟩ := b; simp_all, fun h => by subst h; exact ⟨rfl, rfl, rfl, trivial⟩⟩⟩
theorem ta28 : TA prog 28 6 := ⟨76, by kernel_rfl, by kernel_rfl, by kernel_rfl⟩
theorem ta67 : TA prog 67 6 := ⟨45, by kernel_rfl, by kernel_rfl, by kernel_rfl⟩
theorem ta73 : TA prog 73 1 := ⟨3, by kernel_rfl, by kernel_rfl, by kernel_rfl⟩
theorem ta74 : TA prog 74 1 := ⟨77, by kernel_rfl, by kernel_rfl, by kernel_rfl⟩
theorem ta77 : TA prog 77 1 := ⟨73, by kernel_rfl, by kernel_rfl, by kernel_rfl⟩
theorem s_awake {m f : M} {Q : V → M → Prop} {rz : Bool} (hS : Pre f m) (hp : pawake = some rz) (hq : ∀ m', Ext m m' → Q (.c (.bool rz)) m') : Wc prog tbl 17 [] m Q := by
 obtain rfl := Option.some.inj hp
 exact call_known (show findT tbl 17 = some true from rfl) (hq _ (.refl m))
theorem s_rIn {n : Int} {low : Int} {high : Int} {m f : M} {Q : V → M → Prop} {rz : Bool} (hS : Pre f m)  (hp : prIn n low high = some rz) (hq : ∀ m', Ext m m' → Q (.c (.bool rz)) m') : Wc prog tbl 22 [.c (Il n), .c (Il low), .c (Il high)] m Q := by
 have a := hS.st
 obtain ⟨d, _⟩ : ∃ τ : Nat → Nat, True := ⟨fun _ => 0, trivial⟩
 refine w22 ?_
 unfold prIn at hp
 refine ifd hp (fun b hp => ?_) fun b hp => ?_
 ·obtain rfl := Option.some.inj hp
  exact hq _ a.ext'
 obtain rfl := Option.some.inj hp
 exact hq _ a.ext'
theorem s_rRises {l : List Int} {most : Int} {ca100 : C} {m f : M} {Q : V → M → Prop} {rz : Bool} (hS : Pre f m) (ha100 : Sl f ca100 l) (hp : prRises l most = some rz) (hq : ∀ m', Ext m m' → Q (.c (.bool rz)) m') : Wc prog tbl 101 [.c ca100, .c (Il most)] m Q := by
 have Y := hS.st
 obtain ⟨Z, _⟩ : ∃ τ : Nat → Nat, True := ⟨fun _ => 0, trivial⟩
 refine w101 ?_
 unfold prRises at hp
 intro R0 A
 have hgo : ∀ (q : Nat) (u : Bool) (r : Int) (s : M) (d : Nat → Nat), St (Fm.of m) f f s → prRises_L0 l most q r = some rz → R0 [.c (.bool u), .c (Il r)] s := by
  intro q
  induction q with
  | zero => intro u r s d b hp; cases hp
  | succ q e =>
   intro u r s d b hp
   refine A _ _ _ ?_
   rw [prRises_L0] at hp
   refine ⟨ha100.isSl, ?_⟩
   try rw [ha100.slLen]
   refine ifd hp (fun q5 hp => ?_) fun q5 hp => ?_; rotate_left
   ·refine ⟨ha100.isSl, ?_⟩
    try rw [ha100.slLen]
    refine ifd hp (fun B hp => ?_) fun B hp => ?_; rotate_left
    ·obtain rfl := Option.some.inj hp
     exact hq _ b.ext'
    obtain ⟨ga, g, hp⟩ := bsome hp
    obtain ⟨D, w, h, g⟩ := idx_some g
    refine ⟨D, w, (by first | exact h | (rw [ha100.slLen]; exact h)), _, (ha100.rdI g b.sub), ?_⟩
    obtain rfl := Option.some.inj hp
    exact hq _ b.ext'
   obtain ⟨x6, x, hp⟩ := bsome hp
   obtain ⟨n4, F, t, x⟩ := idx_some x
   refine ⟨n4, F, (by first | exact t | (rw [ha100.slLen]; exact t)), _, (ha100.rdI x b.sub), ?_⟩
   obtain ⟨r8, g9, hp⟩ := bsome hp
   refine s_rIn (n := x6) (low := (0 : Int)) (high := most) b.pre  g9 fun m7 G => ?_
   obtain ⟨a, ha⟩ := b.call G d
   refine ⟨_, rfl, ?_⟩
   refine ifnb hp (fun I hp => ?_) fun I hp => ?_
   ·obtain rfl := Option.some.inj hp
    exact hq _ a.ext'
   refine ifd hp (fun J hp => ?_) fun J hp => ?_; rotate_left
   ·refine gdi hp fun N hp => ?_
    exact e _ _ _ d a hp
   obtain ⟨ia, i, hp⟩ := bsome hp
   obtain ⟨n9, y, j, i⟩ := idx_some i
   refine ⟨n9, y, (by first | exact j | (rw [ha100.slLen]; exact j)), _, (ha100.rdI i a.sub), ?_⟩
   refine gdi hp fun O hp => ?_
   obtain ⟨ja, o, hp⟩ := bsome hp
   obtain ⟨P, z, p, o⟩ := idx_some o
   refine ⟨P, z, (by first | exact p | (rw [ha100.slLen]; exact p)), _, (ha100.rdI o a.sub), ?_⟩
   refine ifd hp (fun S hp => ?_) fun S hp => ?_
   ·obtain rfl := Option.some.inj hp
    exact hq _ a.ext'
   refine gdi hp fun T hp => ?_
   exact e _ _ _ d a hp
 exact hgo _ _ _ _ Z Y hp
theorem s_rIsTariff {t : Tf} {ca103 ca104 ca105 : C} {m f : M} {Q : V → M → Prop} {rz : Bool} (hS : Pre f m) (ha103 : Sl f ca103 t.Weeks) (ha104 : Sl f ca104 t.Counts) (ha105 : Sl f ca105 t.Rates) (hp : prIsTariff t = some rz) (hq : ∀ m', Ext m m' → Q (.c (.bool rz)) m') : Wc prog tbl 81 [.agg 6 [(Il t.From), (.bool t.Whole), (Il t.Least), ca103, ca104, ca105]] m Q := by
 have S0 := hS.st
 obtain ⟨τ0, _⟩ : ∃ τ : Nat → Nat, True := ⟨fun _ => 0, trivial⟩
 refine w81 ?_
 unfold prIsTariff at hp
 intro m0 Ta
 obtain ⟨i, qa, Kb, sa⟩ := S0.blk Ta τ0 1
 refine ⟨trivial, _, sa.bk.rc rfl, ?_⟩
 obtain ⟨Mb, Ua, hp⟩ := bsome hp
 refine s_rIn (n := t.From) (low := (0 : Int)) (high := (120 : Int)) qa.pre  Ua fun m3 Va => ?_
 obtain ⟨I, Wa⟩ := qa.call Va i
 have ta := sa.k Wa
 refine ⟨_, rfl, ?_⟩
 refine ifnb hp (fun Xa hp => ?_) fun Xa hp => ?_
 ·obtain rfl := Option.some.inj hp
  exact hq _ I.ext'
 refine ⟨trivial, _, ta.bk.rc rfl, ?_⟩
 obtain ⟨Nb, Ya, hp⟩ := bsome hp
 refine s_rIn (n := t.Least) (low := (0 : Int)) (high := (100 : Int)) I.pre  Ya fun m7 Za => ?_
 obtain ⟨J, ab⟩ := I.call Za i
 have ua := ta.k ab
 refine ⟨_, rfl, ?_⟩
 refine ifnb hp (fun bb hp => ?_) fun bb hp => ?_
 ·obtain rfl := Option.some.inj hp
  exact hq _ J.ext'
 refine ⟨trivial, _, ua.bk.rc rfl, ?_⟩
 obtain ⟨Ob, cb, hp⟩ := bsome hp
 refine s_rRises (l := t.Weeks) (most := (120 : Int)) J.pre ha103 cb fun Pb db => ?_
 obtain ⟨N, eb⟩ := J.call db i
 have va := ua.k eb
 refine ⟨_, rfl, ?_⟩
 refine ifnb hp (fun fb hp => ?_) fun fb hp => ?_
 ·obtain rfl := Option.some.inj hp
  exact hq _ N.ext'
 refine ⟨trivial, _, va.bk.rc rfl, ?_⟩
 obtain ⟨Qb, gb, hp⟩ := bsome hp
 refine s_rRises (l := t.Counts) (most := (100 : Int)) N.pre ha104 gb fun Rb hb => ?_
 obtain ⟨j, ib⟩ := N.call hb i
 have a := va.k ib
 refine ⟨_, rfl, ?_⟩
 refine ifnb hp (fun jb hp => ?_) fun jb hp => ?_
 ·obtain rfl := Option.some.inj hp
  exact hq _ j.ext'
 refine ⟨trivial, _, a.bk.rc rfl, trivial, _, a.bk.rc rfl, ha104.isSl, ?_⟩
 obtain ⟨wa, hp⟩ := gd_some hp
 refine ⟨(by first | exact wa | (rw [ha104.slLen]; exact wa)), ?_⟩
 obtain ⟨Sb, O, hp⟩ := bsome hp
 obtain ⟨kb, P, S, O⟩ := idx_some O
 refine ⟨kb, (by first | exact P | (rw [ha104.slLen]; exact P)), (by first | exact S | (rw [ha104.slLen]; exact S)), _, (ha104.rdI O j.sub), ?_⟩
 refine ifnd hp (fun mb hp => ?_) fun mb hp => ?_
 ·obtain rfl := Option.some.inj hp
  exact hq _ j.ext'
 refine ⟨trivial, _, a.bk.rc rfl, ha105.isSl, ?_⟩
 try rw [ha105.slLen]
 refine ifd hp (fun nb hp => ?_) fun nb hp => ?_
 ·obtain rfl := Option.some.inj hp
  exact hq _ j.ext'
 intro ob Ba
 have hgo : ∀ (e : Nat) (y : Bool) (T : Bool) (Y : Bool) (b : Int) (o : M) (z : Nat → Nat), St (Fm.of m) f f o → Lb (Fm.of m) f z o 1 m.nxt 6 [(Il t.From), (.bool t.Whole), (Il t.Least), ca103, ca104, ca105] → prIsTariff_L0 t e y b = some rz → ob [.c (.bool y), .c (.bool T), .c (.bool Y), .c (Il b)] o := by
  intro e
  induction e with
  | zero => intro y T Y b o z p a hp; cases hp
  | succ e ma =>
   intro y T Y b o z p a hp
   refine Ba _ _ _ _ _ ?_
   rw [prIsTariff_L0] at hp
   refine ⟨trivial, _, a.bk.rc rfl, ha105.isSl, ?_⟩
   try rw [ha105.slLen]
   refine ifd hp (fun pb hp => ?_) fun pb hp => ?_; rotate_left
   ·obtain rfl := Option.some.inj hp
    exact hq _ p.ext'
   refine ⟨trivial, _, a.bk.rc rfl, ?_⟩
   obtain ⟨Tb, Z, hp⟩ := bsome hp
   obtain ⟨qb, Ca, aa, Z⟩ := idx_some Z
   obtain ⟨c70, rb, xa⟩ := ha105.rdS Z
   refine ⟨qb, Ca, (by first | exact aa | (rw [ha105.slLen]; exact aa)), _, (rb _ p.sub), xa.isSl, trivial, _, a.bk.rc rfl, ha103.isSl, ?_⟩
   try rw [xa.slLen]
   try rw [ha103.slLen]
   refine ifnd hp (fun sb hp => ?_) fun sb hp => ?_
   ·obtain rfl := Option.some.inj hp
    exact hq _ p.ext'
   intro tb Da
   have hgo : ∀ (q : Nat) (A : Bool) (ba : Bool) (r : Int) (s : M) (u : Nat → Nat), St (Fm.of m) f f s → Lb (Fm.of m) f u s 1 m.nxt 6 [(Il t.From), (.bool t.Whole), (Il t.Least), ca103, ca104, ca105] → prIsTariff_L1 t b (prIsTariff_L0 t e) q A r = some rz → tb [.c (.bool A), .c (.bool ba), .c (Il r)] s := by
    intro q
    induction q with
    | zero => intro A ba r s u g a hp; cases hp
    | succ q na =>
     intro A ba r s u g a hp
     refine Da _ _ _ _ ?_
     rw [prIsTariff_L1] at hp
     refine ⟨trivial, _, a.bk.rc rfl, ha103.isSl, ?_⟩
     try rw [ha103.slLen]
     refine ifd hp (fun ub hp => ?_) fun ub hp => ?_; rotate_left
     ·refine gdi hp fun Ea hp => ?_
      exact ma _ _ _ _ _ u g a hp
     refine ⟨trivial, _, a.bk.rc rfl, ?_⟩
     obtain ⟨Ub, ca, hp⟩ := bsome hp
     obtain ⟨vb, Fa, da, ca⟩ := idx_some ca
     obtain ⟨Vb, wb, ya⟩ := ha105.rdS ca
     refine ⟨vb, Fa, (by first | exact da | (rw [ha105.slLen]; exact da)), _, (wb _ g.sub), ?_⟩
     obtain ⟨Wb, ea, hp⟩ := bsome hp
     obtain ⟨xb, Ga, fa, ea⟩ := idx_some ea
     obtain ⟨Xb, yb, za⟩ := ya.rdS ea
     refine ⟨xb, Ga, (by first | exact fa | (rw [ya.slLen]; exact fa)), _, (yb _ g.sub), za.isSl, trivial, _, a.bk.rc rfl, ha104.isSl, ?_⟩
     try rw [za.slLen]
     try rw [ha104.slLen]
     refine ifnd hp (fun zb hp => ?_) fun zb hp => ?_
     ·obtain rfl := Option.some.inj hp
      exact hq _ g.ext'
     intro Ab Ha
     have hgo : ∀ (B : Nat) (D : Bool) (F : Int) (w : M) (h : Nat → Nat), St (Fm.of m) f f w → Lb (Fm.of m) f h w 1 m.nxt 6 [(Il t.From), (.bool t.Whole), (Il t.Least), ca103, ca104, ca105] → prIsTariff_L2 t b r (prIsTariff_L1 t b (prIsTariff_L0 t e) q) B D F = some rz → Ab [.c (.bool D), .c (Il F)] w := by
      intro B
      induction B with
      | zero => intro D F w h d a hp; cases hp
      | succ B oa =>
       intro D F w h d a hp
       refine Ha _ _ _ ?_
       rw [prIsTariff_L2] at hp
       refine ⟨trivial, _, a.bk.rc rfl, ha104.isSl, ?_⟩
       try rw [ha104.slLen]
       refine ifd hp (fun Bb hp => ?_) fun Bb hp => ?_; rotate_left
       ·refine gdi hp fun Ia hp => ?_
        exact na _ _ _ _ h d a hp
       refine ⟨trivial, _, a.bk.rc rfl, ?_⟩
       obtain ⟨Yb, ga, hp⟩ := bsome hp
       obtain ⟨Cb, Ja, ha, ga⟩ := idx_some ga
       obtain ⟨Zb, Db, Aa⟩ := ha105.rdS ga
       refine ⟨Cb, Ja, (by first | exact ha | (rw [ha105.slLen]; exact ha)), _, (Db _ d.sub), ?_⟩
       obtain ⟨ac, ia, hp⟩ := bsome hp
       obtain ⟨Eb, Ka, ja, ia⟩ := idx_some ia
       obtain ⟨Ib, La, ka⟩ := Aa.rdS ia
       refine ⟨Eb, Ka, (by first | exact ja | (rw [Aa.slLen]; exact ja)), _, (La _ d.sub), ?_⟩
       obtain ⟨Ma, x, hp⟩ := bsome hp
       obtain ⟨Fb, pa, G, x⟩ := idx_some x
       refine ⟨Fb, pa, (by first | exact G | (rw [ka.slLen]; exact G)), _, (ka.rdI x d.sub), ?_⟩
       obtain ⟨Jb, Na, hp⟩ := bsome hp
       refine s_rIn (n := Ma) (low := (0 : Int)) (high := (100 : Int)) d.pre  Na fun bc Oa => ?_
       obtain ⟨la, Pa⟩ := d.call Oa h
       have Qa := a.k Pa
       refine ⟨_, rfl, ?_⟩
       refine ifnb hp (fun Ra hp => ?_) fun Ra hp => ?_
       ·obtain rfl := Option.some.inj hp
        exact hq _ la.ext'
       refine gdi hp fun Sa hp => ?_
       exact oa _ _ _ h la Qa hp
     exact hgo _ _ _ _ u g a hp
   exact hgo _ _ _ _ _ z p a hp
 exact hgo _ _ _ _ _ _ i j a hp
theorem s_rFault {l : List Tf} {ca100 : C} {m f : M} {Q : V → M → Prop} {rz : Int} (hS : Pre f m) (ha100 : Sl f ca100 l) (hp : prFault l = some rz) (hq : ∀ m', Ext m m' → Q (.c (Il rz)) m') : Wc prog tbl 59 [.c ca100] m Q := by
 have S0 := hS.st
 obtain ⟨τ0, _⟩ : ∃ τ : Nat → Nat, True := ⟨fun _ => 0, trivial⟩
 refine w59 ?_
 unfold prFault at hp
 refine ⟨ha100.isSl, ?_⟩
 try rw [ha100.slLen]
 refine ifd hp (fun ua hp => ?_) fun ua hp => ?_
 ·obtain rfl := Option.some.inj hp
  exact hq _ S0.ext'
 intro R0 kb
 have hgo : ∀ (h : Nat) (x1 : Int) (x2 : Int) (m3 : M) (i : Nat → Nat), St (Fm.of m) f f m3 → prFault_L0 l h x1 x2 = some rz → R0 [.c (Il x1), .c (Il x2)] m3 := by
  intro h
  induction h with
  | zero => intro x1 x2 m3 i b hp; cases hp
  | succ h va =>
   intro x1 x2 m3 i b hp
   refine kb _ _ _ ?_
   rw [prFault_L0] at hp
   refine ⟨ha100.isSl, ?_⟩
   try rw [ha100.slLen]
   refine ifd hp (fun wa hp => ?_) fun wa hp => ?_
   ·obtain ⟨xb, j, hp⟩ := bsome hp
    obtain ⟨n4, ia, A, j⟩ := idx_some j
    obtain ⟨zb, Ab, Bb, xa, Z, Cb, Db⟩ := rd_Tf ha100 j
    refine ⟨n4, ia, (by first | exact A | (rw [ha100.slLen]; exact A)), (ha100.isPt j _), _, ((xa _ b.sub).2.1 3 _ rfl), Z.isSl, ?_⟩
    try rw [Z.slLen]
    refine ifd hp (fun ya hp => ?_) fun ya hp => ?_
    ·obtain rfl := Option.some.inj hp
     exact hq _ b.ext'
    obtain ⟨Eb, n, hp⟩ := bsome hp
    obtain ⟨n6, ja, B, n⟩ := idx_some n
    obtain ⟨Gb, c134, Hb, za, Ib, aa, Jb⟩ := rd_Tf ha100 n
    refine ⟨n6, ja, (by first | exact B | (rw [ha100.slLen]; exact B)), (ha100.isPt n _), _, ((za _ b.sub).2.1 4 _ rfl), aa.isSl, ?_⟩
    try rw [aa.slLen]
    refine ifd hp (fun Aa hp => ?_) fun Aa hp => ?_
    ·obtain rfl := Option.some.inj hp
     exact hq _ b.ext'
    obtain ⟨Kb, o, hp⟩ := bsome hp
    obtain ⟨n8, ka, D, o⟩ := idx_some o
    obtain ⟨Nb, Ob, Pb, Ba, Qb, Rb, ba⟩ := rd_Tf ha100 o
    refine ⟨n8, ka, (by first | exact D | (rw [ha100.slLen]; exact D)), (ha100.isPt o _), _, ((Ba _ b.sub).2.1 5 _ rfl), ba.isSl, ?_⟩
    try rw [ba.slLen]
    refine ifd hp (fun Ca hp => ?_) fun Ca hp => ?_
    ·obtain rfl := Option.some.inj hp
     exact hq _ b.ext'
    refine gdi hp fun Da hp => ?_
    exact va _ _ _ i b hp
   intro mb Ea
   have hgo : ∀ (p : Nat) (ca : Int) (F : Int) (G : M) (d : Nat → Nat), St (Fm.of m) f f G → prFault_L1 l p F = some rz → mb [.c (Il ca), .c (Il F)] G := by
    intro p
    induction p with
    | zero => intro ca F G d e hp; cases hp
    | succ p g =>
     intro ca F G d e hp
     refine Ea _ _ _ ?_
     rw [prFault_L1] at hp
     refine ⟨ha100.isSl, ?_⟩
     try rw [ha100.slLen]
     refine ifd hp (fun Fa hp => ?_) fun Fa hp => ?_; rotate_left
     ·refine ⟨ha100.isSl, ?_⟩
      try rw [ha100.slLen]
      refine ifd hp (fun Ga hp => ?_) fun Ga hp => ?_
      ·obtain rfl := Option.some.inj hp
       exact hq _ e.ext'
      obtain rfl := Option.some.inj hp
      exact hq _ e.ext'
     obtain ⟨Ha, z, hp⟩ := bsome hp
     obtain ⟨nb, la, I, z⟩ := idx_some z
     obtain ⟨Sb, Tb, Ub, Ia, Ja, Ka, La⟩ := rd_Tf ha100 z
     refine ⟨nb, la, (by first | exact I | (rw [ha100.slLen]; exact I)), _, _, _, _, _, _, (Ia _ e.sub).1, ?_⟩
     obtain ⟨Vb, Ma, hp⟩ := bsome hp
     refine s_rIsTariff (t := Ha) e.pre Ja Ka La Ma fun Xc Na => ?_
     obtain ⟨a, Wb⟩ := e.call Na d
     refine ⟨_, rfl, ?_⟩
     refine ifnb hp (fun Oa hp => ?_) fun Oa hp => ?_
     ·obtain rfl := Option.some.inj hp
      exact hq _ a.ext'
     obtain ⟨Xb, q, hp⟩ := bsome hp
     obtain ⟨ob, ma, J, q⟩ := idx_some q
     obtain ⟨Yb, Zb, ac, Pa, bc, cc, da⟩ := rd_Tf ha100 q
     refine ⟨ob, ma, (by first | exact J | (rw [ha100.slLen]; exact J)), (ha100.isPt q _), _, ((Pa _ a.sub).2.1 5 _ rfl), da.isSl, ?_⟩
     obtain ⟨dc, r, hp⟩ := bsome hp
     obtain ⟨pb, na, N, r⟩ := idx_some r
     obtain ⟨ec, fc, gc, Qa, hc, ic, ea⟩ := rd_Tf ha100 r
     refine ⟨pb, na, (by first | exact N | (rw [ha100.slLen]; exact N)), (ha100.isPt r _), _, ((Qa _ a.sub).2.1 5 _ rfl), ea.isSl, ?_⟩
     try rw [da.slLen]
     try rw [ea.slLen]
     refine ifnd hp (fun Ra hp => ?_) fun Ra hp => ?_
     ·obtain rfl := Option.some.inj hp
      exact hq _ a.ext'
     refine ifd hp (fun Sa hp => ?_) fun Sa hp => ?_; rotate_left
     ·refine ifd hp (fun Ta hp => ?_) fun Ta hp => ?_; rotate_left
      ·refine gdi hp fun Ua hp => ?_
       exact g _ _ _ d a hp
      obtain ⟨jc, s, hp⟩ := bsome hp
      obtain ⟨qb, oa, O, s⟩ := idx_some s
      obtain ⟨kc, lc, nc, Va, oc, pc, qc⟩ := rd_Tf ha100 s
      refine ⟨qb, oa, (by first | exact O | (rw [ha100.slLen]; exact O)), (ha100.isPt s _), _, ((Va _ a.sub).2.1 0 _ rfl), ?_⟩
      refine gdi hp fun Wa hp => ?_
      obtain ⟨sc, u, hp⟩ := bsome hp
      obtain ⟨rb, pa, P, u⟩ := idx_some u
      obtain ⟨tc, uc, vc, Xa, wc, xc, yc⟩ := rd_Tf ha100 u
      refine ⟨rb, pa, (by first | exact P | (rw [ha100.slLen]; exact P)), (ha100.isPt u _), _, ((Xa _ a.sub).2.1 0 _ rfl), ?_⟩
      refine ifd hp (fun Ya hp => ?_) fun Ya hp => ?_
      ·obtain rfl := Option.some.inj hp
       exact hq _ a.ext'
      refine gdi hp fun Za hp => ?_
      exact g _ _ _ d a hp
     obtain ⟨zc, w, hp⟩ := bsome hp
     obtain ⟨sb, qa, S, w⟩ := idx_some w
     obtain ⟨Ac, Bc, Cc, ab, Dc, Ec, Fc⟩ := rd_Tf ha100 w
     refine ⟨sb, qa, (by first | exact S | (rw [ha100.slLen]; exact S)), (ha100.isPt w _), _, ((ab _ a.sub).2.1 0 _ rfl), ?_⟩
     refine ifnd hp (fun bb hp => ?_) fun bb hp => ?_
     ·obtain rfl := Option.some.inj hp
      exact hq _ a.ext'
     refine ifd hp (fun cb hp => ?_) fun cb hp => ?_; rotate_left
     ·refine gdi hp fun db hp => ?_
      exact g _ _ _ d a hp
     obtain ⟨Gc, x, hp⟩ := bsome hp
     obtain ⟨tb, sa, T, x⟩ := idx_some x
     obtain ⟨Hc, Ic, Jc, eb, Kc, Lc, Nc⟩ := rd_Tf ha100 x
     refine ⟨tb, sa, (by first | exact T | (rw [ha100.slLen]; exact T)), (ha100.isPt x _), _, ((eb _ a.sub).2.1 0 _ rfl), ?_⟩
     refine gdi hp fun fb hp => ?_
     obtain ⟨Oc, y, hp⟩ := bsome hp
     obtain ⟨ub, ta, Y, y⟩ := idx_some y
     obtain ⟨Pc, Qc, Rc, gb, Tc, Uc, Vc⟩ := rd_Tf ha100 y
     refine ⟨ub, ta, (by first | exact Y | (rw [ha100.slLen]; exact Y)), (ha100.isPt y _), _, ((gb _ a.sub).2.1 0 _ rfl), ?_⟩
     refine ifd hp (fun hb hp => ?_) fun hb hp => ?_
     ·obtain rfl := Option.some.inj hp
      exact hq _ a.ext'
     refine gdi hp fun ib hp => ?_
     exact g _ _ _ d a hp
   exact hgo _ _ _ _ i b hp
 exact hgo _ _ _ _ τ0 S0 hp
theorem s_rLast {l : List Int} {n : Int} {ca100 : C} {m f : M} {Q : V → M → Prop} {rz : Int} (hS : Pre f m) (ha100 : Sl f ca100 l) (hp : prLast l n = some rz) (hq : ∀ m', Ext m m' → Q (.c (Il rz)) m') : Wc prog tbl 52 [.c ca100, .c (Il n)] m Q := by
 have w := hS.st
 obtain ⟨x, _⟩ : ∃ τ : Nat → Nat, True := ⟨fun _ => 0, trivial⟩
 refine w52 ?_
 unfold prLast at hp
 intro y u
 have hgo : ∀ (b : Nat) (h : Int) (i : M) (d : Nat → Nat), St (Fm.of m) f f i → prLast_L0 l n b h = some rz → y [.c (Il h)] i := by
  intro b
  induction b with
  | zero => intro h i d a hp; cases hp
  | succ b o =>
   intro h i d a hp
   refine u _ _ ?_
   rw [prLast_L0] at hp
   obtain ⟨p, hp⟩ := gd_some hp
   refine ⟨p, ha100.isSl, ?_⟩
   try rw [ha100.slLen]
   refine ifd hp (fun q hp => ?_) fun q hp => ?_; rotate_left
   ·obtain rfl := Option.some.inj hp
    exact hq _ a.ext'
   refine gdi hp fun r hp => ?_
   obtain ⟨z, e, hp⟩ := bsome hp
   obtain ⟨A, j, g, e⟩ := idx_some e
   refine ⟨A, j, (by first | exact g | (rw [ha100.slLen]; exact g)), _, (ha100.rdI e a.sub), ?_⟩
   refine ifd hp (fun s hp => ?_) fun s hp => ?_; rotate_left
   ·obtain rfl := Option.some.inj hp
    exact hq _ a.ext'
   refine gdi hp fun t hp => ?_
   exact o _ _ d a hp
 exact hgo _ _ _ x w hp
theorem s_rOf {l : List Tf} {day : Int} {ca100 : C} {m f : M} {Q : V → M → Prop} {rz : Tf} (hS : Pre f m) (ha100 : Sl f ca100 l) (hp : prOf l day = some rz) (hq : ∀ m' f' c3 c4 c5, Grw m f m' f' → Sl f' c3 rz.Weeks → Sl f' c4 rz.Counts → Sl f' c5 rz.Rates → Q (.agg 6 [(Il rz.From), (.bool rz.Whole), (Il rz.Least), c3, c4, c5]) m') : Wc prog tbl 50 [.c ca100, .c (Il day)] m Q := by
 have S0 := hS.st
 obtain ⟨τ0, _⟩ : ∃ τ : Nat → Nat, True := ⟨fun _ => 0, trivial⟩
 refine w50 ?_
 unfold prOf at hp
 intro m0 I
 obtain ⟨J, N, Ca, b⟩ := S0.blk I τ0 1
 intro R1 ya
 have hgo : ∀ (h : Nat) (B : C) (D : Int) (d : List Int) (t : M) (e : Nat → Nat), St (Fm.of m) f f t → Lb (Fm.of m) f e t 1 m.nxt 6 [(Il 0), (.bool false), (Il 0), .sl0, .sl0, .sl0] → Ow (Fm.of m) f e t 2 B d → prOf_L0 l day h d D = some rz → R1 [.c B, .c (Il D)] t := by
  intro h
  induction h with
  | zero => intro B D d t e i b o hp; cases hp
  | succ h O =>
   intro B D d t e i b o hp
   refine ya _ _ _ ?_
   rw [prOf_L0] at hp
   refine ⟨ha100.isSl, ?_⟩
   try rw [ha100.slLen]
   refine ifd hp (fun P hp => ?_) fun P hp => ?_
   ·obtain ⟨u, j, hp⟩ := bsome hp
    obtain ⟨n5, F, r, j⟩ := idx_some j
    obtain ⟨Fa, Ga, Ha, S, Ia, Ja, Ka⟩ := rd_Tf ha100 j
    refine ⟨n5, F, (by first | exact r | (rw [ha100.slLen]; exact r)), (ha100.isPt j _), _, ((S _ i.sub).2.1 0 _ rfl), ?_⟩
    obtain ⟨T, hp⟩ := gd_some hp
    intro m7 Y
    obtain ⟨Z, aa, ba, ca, da, ea, fa⟩ := o.app' ta73 i (a := u.From) (show Rp.rep (α := Int) f _ u.From from rfl) T Y
    have ga := b.k ea
    refine ⟨Z, aa, ca, ?_⟩
    refine gdi hp fun ha hp => ?_
    exact O _ _ _ _ ba da ga fa hp
   obtain ⟨ia, w, g, ja⟩ := o.freeze i
   have ka := b.k g
   obtain ⟨La, la, hp⟩ := bsome hp
   refine s_rLast (l := d) (n := day) w.pre ja la fun Na ma => ?_
   obtain ⟨x, na⟩ := w.call ma e
   have oa := ka.k na
   refine ⟨_, rfl, ?_⟩
   obtain ⟨p, q, hp⟩ := bsome hp
   obtain ⟨za, G, s, q⟩ := idx_some q
   obtain ⟨y, z, A, pa, qa, sa, ta⟩ := rd_Tf ha100 q
   refine ⟨za, G, (by first | exact s | (rw [ha100.slLen]; exact s)), _, _, _, _, _, _, (pa _ (Sub.trans g.fs x.sub)).1, ?_⟩
   obtain ⟨ua, va, wa, Ma, xa⟩ := oa.sto x [(Il p.From), (.bool p.Whole), (Il p.Least), y, z, A]
   refine ⟨ua, va, ?_⟩
   refine ⟨_, _, _, _, _, _, xa.bk.ra, ?_⟩
   obtain rfl := Option.some.inj hp
   exact hq _ ia y z A wa.grw (qa.sub g.fs) (sa.sub g.fs) (ta.sub g.fs)
 exact hgo _ _ _ _ _ J N b (Ow.nil _ _ _ _ _) hp
theorem s_rLoss {t : Tf} {crop : Int} {day : Int} {count : Int} {ca103 ca104 ca105 : C} {m f : M} {Q : V → M → Prop} {rz : Int} (hS : Pre f m) (ha103 : Sl f ca103 t.Weeks) (ha104 : Sl f ca104 t.Counts) (ha105 : Sl f ca105 t.Rates) (hp : prLoss t crop day count = some rz) (hq : ∀ m', Ext m m' → Q (.c (Il rz)) m') : Wc prog tbl 62 [.agg 6 [(Il t.From), (.bool t.Whole), (Il t.Least), ca103, ca104, ca105], .c (Il crop), .c (Il day), .c (Il count)] m Q := by
 have S0 := hS.st
 obtain ⟨τ0, _⟩ : ∃ τ : Nat → Nat, True := ⟨fun _ => 0, trivial⟩
 refine w62 ?_
 unfold prLoss at hp
 intro m0 Z
 obtain ⟨F, e, Fa, g⟩ := S0.blk Z τ0 1
 refine ⟨trivial, _, g.bk.rc rfl, ?_⟩
 obtain ⟨Ga, h, hp⟩ := bsome hp
 obtain ⟨n2, J, w, h⟩ := idx_some h
 obtain ⟨Ia, G, i⟩ := ha105.rdS h
 refine ⟨n2, J, (by first | exact w | (rw [ha105.slLen]; exact w)), _, (G _ e.sub), trivial, _, g.bk.rc rfl, ?_⟩
 obtain ⟨Ja, aa, hp⟩ := bsome hp
 refine s_rLast (l := t.Weeks) (n := day) e.pre ha103 aa fun m6 ba => ?_
 obtain ⟨d, ca⟩ := e.call ba F
 have j := g.k ca
 refine ⟨_, rfl, (by rw [show noFnC _ = true from i.noFn]; exact (G _ d.sub)), (by rw [show noFnC _ = true from ha105.noFn]; exact (j.bk.rc rfl)), ?_⟩
 obtain ⟨Ka, o, hp⟩ := bsome hp
 obtain ⟨n8, N, x, o⟩ := idx_some o
 obtain ⟨Ma, da, b⟩ := i.rdS o
 refine ⟨n8, N, (by first | exact x | (rw [i.slLen]; exact x)), _, (da _ d.sub), trivial, _, j.bk.rc rfl, ?_⟩
 obtain ⟨Na, ea, hp⟩ := bsome hp
 refine s_rLast (l := t.Counts) (n := count) d.pre ha104 ea fun Ta fa => ?_
 obtain ⟨a, ga⟩ := d.call fa F
 have I := j.k ga
 refine ⟨_, rfl, trivial, _, I.bk.rc rfl, ?_⟩
 obtain ⟨Oa, p, hp⟩ := bsome hp
 obtain ⟨ya, O, y, p⟩ := idx_some p
 refine ⟨ya, O, (by first | exact y | (rw [ha104.slLen]; exact y)), _, (ha104.rdI p a.sub), ?_⟩
 refine ifd hp (fun ha hp => ?_) fun ha hp => ?_
 ·obtain ⟨Pa, q, hp⟩ := bsome hp
  obtain ⟨za, P, z, q⟩ := idx_some q
  refine ⟨za, P, (by first | exact z | (rw [b.slLen]; exact z)), _, (b.rdI q a.sub), ?_⟩
  obtain rfl := Option.some.inj hp
  exact hq _ a.ext'
 refine ⟨trivial, _, I.bk.rc rfl, ?_⟩
 refine gdi hp fun ia hp => ?_
 obtain ⟨Qa, r, hp⟩ := bsome hp
 obtain ⟨Aa, S, A, r⟩ := idx_some r
 refine ⟨Aa, S, (by first | exact A | (rw [ha104.slLen]; exact A)), _, (ha104.rdI r a.sub), ?_⟩
 obtain ⟨Ra, s, hp⟩ := bsome hp
 obtain ⟨Ba, T, B, s⟩ := idx_some s
 refine ⟨Ba, T, (by first | exact B | (rw [b.slLen]; exact B)), _, (b.rdI s a.sub), ?_⟩
 refine gdi hp fun ja hp => ?_
 refine gdi hp fun ka hp => ?_
 refine gdi hp fun la hp => ?_
 refine gdi hp fun ma hp => ?_
 refine gdi hp fun na hp => ?_
 obtain ⟨Sa, u, hp⟩ := bsome hp
 obtain ⟨Ca, Y, D, u⟩ := idx_some u
 refine ⟨Ca, Y, (by first | exact D | (rw [b.slLen]; exact D)), _, (b.rdI u a.sub), ?_⟩
 refine gdi hp fun oa hp => ?_
 refine gdi hp fun pa hp => ?_
 refine gdi hp fun qa hp => ?_
 refine gdi hp fun sa hp => ?_
 refine gdi hp fun ta hp => ?_
 refine gdi hp fun ua hp => ?_
 refine gdi hp fun va hp => ?_
 refine gdi hp fun wa hp => ?_
 refine gdi hp fun xa hp => ?_
 obtain rfl := Option.some.inj hp
 exact hq _ a.ext'
theorem s_rPart {l : List Tf} {crop : Int} {day : Int} {count : Int} {ca100 : C} {m f : M} {Q : V → M → Prop} {rz : Int} (hS : Pre f m) (ha100 : Sl f ca100 l) (hp : prPart l crop day count = some rz) (hq : ∀ m', Ext m m' → Q (.c (Il rz)) m') : Wc prog tbl 24 [.c ca100, .c (Il crop), .c (Il day), .c (Il count)] m Q := by
 have N := hS.st
 obtain ⟨O, _⟩ : ∃ τ : Nat → Nat, True := ⟨fun _ => 0, trivial⟩
 refine w24 ?_
 unfold prPart at hp
 obtain ⟨a, h, hp⟩ := bsome hp
 refine s_rOf (l := l) (day := day) N.pre ha100 h fun m1 P i j n o p q r => ?_
 obtain ⟨s, S⟩ := N.callG o O
 refine ⟨_, _, _, _, _, _, rfl, ?_⟩
 intro m8 u
 obtain ⟨w, x, T, y⟩ := s.blk u O 1
 obtain ⟨z, A, e, Y, g⟩ := y.sto x [(Il a.From), (.bool a.Whole), (Il a.Least), i, j, n]
 refine ⟨z, A, ?_⟩
 refine ⟨_, _, _, _, _, _, g.bk.ra, ?_⟩
 obtain ⟨Z, B, hp⟩ := bsome hp
 refine s_rLoss (t := a) (crop := crop) (day := day) (count := count) e.pre p q r B fun aa D => ?_
 obtain ⟨b, F⟩ := e.call D w
 have d := g.k F
 refine ⟨_, rfl, trivial, _, d.bk.rc rfl, ?_⟩
 refine ifd hp (fun G hp => ?_) fun G hp => ?_
 ·obtain rfl := Option.some.inj hp
  exact hq _ b.ext'
 refine ⟨trivial, _, d.bk.rc rfl, ?_⟩
 refine ifbb hp (fun I hp => ?_) fun I hp => ?_
 ·obtain rfl := Option.some.inj hp
  exact hq _ b.ext'
 refine ⟨trivial, _, d.bk.rc rfl, ?_⟩
 refine gdi hp fun J hp => ?_
 obtain rfl := Option.some.inj hp
 exact hq _ b.ext'
theorem s_rCrops {l : List Tf} {ca100 : C} {m f : M} {Q : V → M → Prop} {rz : Int} (hS : Pre f m) (ha100 : Sl f ca100 l) (hp : prCrops l = some rz) (hq : ∀ m', Ext m m' → Q (.c (Il rz)) m') : Wc prog tbl 23 [.c ca100] m Q := by
 have h := hS.st
 obtain ⟨s, _⟩ : ∃ τ : Nat → Nat, True := ⟨fun _ => 0, trivial⟩
 refine w23 ?_
 unfold prCrops at hp
 obtain ⟨i, a, hp⟩ := bsome hp
 obtain ⟨j, e, b, a⟩ := idx_some a
 obtain ⟨n, o, p, g, q, r, d⟩ := rd_Tf ha100 a
 refine ⟨j, e, (by first | exact b | (rw [ha100.slLen]; exact b)), (ha100.isPt a _), _, ((g _ h.sub).2.1 5 _ rfl), d.isSl, ?_⟩
 try rw [d.slLen]
 obtain rfl := Option.some.inj hp
 exact hq _ h.ext'
theorem s_rIsClaim {l : List Tf} {c : Clm} {ca100 : C} {m f : M} {Q : V → M → Prop} {rz : Bool} (hS : Pre f m) (ha100 : Sl f ca100 l) (hp : prIsClaim l c = some rz) (hq : ∀ m', Ext m m' → Q (.c (.bool rz)) m') : Wc prog tbl 66 [.c ca100, .agg 6 [(Il c.Crop), (Il c.Value), (Il c.Day.Lo), (Il c.Day.Hi), (Il c.Count.Lo), (Il c.Count.Hi)]] m Q := by
 have T := hS.st
 obtain ⟨Y, _⟩ : ∃ τ : Nat → Nat, True := ⟨fun _ => 0, trivial⟩
 refine w66 ?_
 unfold prIsClaim at hp
 intro m0 p
 obtain ⟨d, g, Z, h⟩ := T.blk p Y 1
 refine ⟨trivial, _, h.bk.rc rfl, ?_⟩
 obtain ⟨q, r, hp⟩ := bsome hp
 refine s_rCrops (l := l) g.pre ha100 r fun m3 s => ?_
 obtain ⟨i, t⟩ := g.call s d
 have j := h.k t
 refine ⟨_, rfl, (j.bk.rc rfl), ?_⟩
 refine gdi hp fun u hp => ?_
 obtain ⟨aa, w, hp⟩ := bsome hp
 refine s_rIn (n := c.Crop) (low := (0 : Int)) (high := (q - 1)) i.pre  w fun m6 x => ?_
 obtain ⟨e, y⟩ := i.call x d
 have o := j.k y
 refine ⟨_, rfl, ?_⟩
 refine ifbb hp (fun z hp => ?_) fun z hp => ?_; rotate_left
 ·obtain rfl := Option.some.inj hp
  exact hq _ e.ext'
 refine ⟨trivial, _, o.bk.rc rfl, ?_⟩
 obtain ⟨ba, A, hp⟩ := bsome hp
 refine s_rIn (n := c.Value) (low := (0 : Int)) (high := (100000 : Int)) e.pre  A fun ca B => ?_
 obtain ⟨b, D⟩ := e.call B d
 have a := o.k D
 refine ⟨_, rfl, ?_⟩
 refine ifbb hp (fun F hp => ?_) fun F hp => ?_; rotate_left
 ·obtain rfl := Option.some.inj hp
  exact hq _ b.ext'
 refine ⟨trivial, trivial, _, a.bk.rc rfl, ?_⟩
 refine ifd hp (fun G hp => ?_) fun G hp => ?_; rotate_left
 ·obtain rfl := Option.some.inj hp
  exact hq _ b.ext'
 refine ⟨trivial, trivial, _, a.bk.rc rfl, trivial, trivial, _, a.bk.rc rfl, ?_⟩
 refine ifd hp (fun I hp => ?_) fun I hp => ?_; rotate_left
 ·obtain rfl := Option.some.inj hp
  exact hq _ b.ext'
 refine ⟨trivial, trivial, _, a.bk.rc rfl, ?_⟩
 refine ifd hp (fun J hp => ?_) fun J hp => ?_; rotate_left
 ·obtain rfl := Option.some.inj hp
  exact hq _ b.ext'
 refine ⟨trivial, trivial, _, a.bk.rc rfl, trivial, trivial, _, a.bk.rc rfl, ?_⟩
 refine gdi hp fun N hp => ?_
 refine ifd hp (fun O hp => ?_) fun O hp => ?_; rotate_left
 ·obtain rfl := Option.some.inj hp
  exact hq _ b.ext'
 refine ⟨trivial, trivial, _, a.bk.rc rfl, ?_⟩
 refine ifd hp (fun P hp => ?_) fun P hp => ?_; rotate_left
 ·obtain rfl := Option.some.inj hp
  exact hq _ b.ext'
 refine ⟨trivial, trivial, _, a.bk.rc rfl, trivial, trivial, _, a.bk.rc rfl, ?_⟩
 refine ifd hp (fun S hp => ?_) fun S hp => ?_; rotate_left
 ·obtain rfl := Option.some.inj hp
  exact hq _ b.ext'
 refine ⟨trivial, trivial, _, a.bk.rc rfl, ?_⟩
 obtain rfl := Option.some.inj hp
 exact hq _ b.ext'
theorem s_rPay {l : List Tf} {c : Clm} {t : Tr} {ca100 : C} {m f : M} {Q : V → M → Prop} {rz : Int} (hS : Pre f m) (ha100 : Sl f ca100 l) (hp : prPay l c t = some rz) (hq : ∀ m', Ext m m' → Q (.c (Il rz)) m') : Wc prog tbl 31 [.c ca100, .agg 6 [(Il c.Crop), (Il c.Value), (Il c.Day.Lo), (Il c.Day.Hi), (Il c.Count.Lo), (Il c.Count.Hi)], .agg 2 [(Il t.Day), (Il t.Count)]] m Q := by
 have D := hS.st
 obtain ⟨F, _⟩ : ∃ τ : Nat → Nat, True := ⟨fun _ => 0, trivial⟩
 refine w31 ?_
 unfold prPay at hp
 intro J e
 obtain ⟨g, h, G, i⟩ := D.blk e F 1
 intro N j
 obtain ⟨n, b, o, d⟩ := h.blk j g 2
 have a := i.k o
 refine ⟨trivial, _, a.bk.rc rfl, trivial, _, a.bk.rc rfl, trivial, _, d.bk.rc rfl, trivial, _, d.bk.rc rfl, ?_⟩
 obtain ⟨I, p, hp⟩ := bsome hp
 refine s_rPart (l := l) (crop := c.Crop) (day := t.Day) (count := t.Count) b.pre ha100 p fun O q => ?_
 obtain ⟨r, s⟩ := b.call q n
 have u := a.k s
 refine ⟨_, rfl, (u.bk.rc rfl), ?_⟩
 refine gdi hp fun w hp => ?_
 refine gdi hp fun x hp => ?_
 refine gdi hp fun y hp => ?_
 refine gdi hp fun z hp => ?_
 refine gdi hp fun A hp => ?_
 refine gdi hp fun B hp => ?_
 obtain rfl := Option.some.inj hp
 exact hq _ r.ext'
theorem s_rBounds {l : List Tf} {c : Clm} {ca100 : C} {m f : M} {Q : V → M → Prop} {rz : Rg × Tr × Tr} (hS : Pre f m) (ha100 : Sl f ca100 l) (hp : prBounds l c = some rz) (hq : ∀ m', Ext m m' → Q (.tup [.agg 2 [(Il rz.1.Lo), (Il rz.1.Hi)], .agg 2 [(Il rz.2.1.Day), (Il rz.2.1.Count)], .agg 2 [(Il rz.2.2.Day), (Il rz.2.2.Count)]]) m') : Wc prog tbl 35 [.c ca100, .agg 6 [(Il c.Crop), (Il c.Value), (Il c.Day.Lo), (Il c.Day.Hi), (Il c.Count.Lo), (Il c.Count.Hi)]] m Q := by
 have S0 := hS.st
 obtain ⟨τ0, _⟩ : ∃ τ : Nat → Nat, True := ⟨fun _ => 0, trivial⟩
 refine w35 ?_
 unfold prBounds at hp
 intro m0 Ta
 obtain ⟨Ua, Va, je, Wa⟩ := S0.blk Ta τ0 1
 intro m1 Xa
 obtain ⟨Ya, Za, ab, bb⟩ := Va.blk Xa Ua 2
 have cb := Wa.k ab
 intro m2 db
 obtain ⟨eb, fb, Ea, gb⟩ := Za.blk db Ya 3
 have hb := cb.k Ea
 have ib := bb.k Ea
 intro m3 jb
 obtain ⟨kb, mb, na, nb⟩ := fb.blk jb eb 4
 have ob := hb.k na
 have pb := ib.k na
 have qb := gb.k na
 intro m4 rb
 obtain ⟨sb, tb, ea, ub⟩ := mb.blk rb kb 5
 have vb := ob.k ea
 have wb := pb.k ea
 have xb := qb.k ea
 have yb := nb.k ea
 obtain ⟨oa, zb, Ab, fa, Bb⟩ := ub.sto tb [(Il (1099511627776 : Int)), (Il (-1 : Int))]
 have Cb := vb.k fa
 have Db := wb.k fa
 have Eb := xb.k fa
 have Fb := yb.k fa
 refine ⟨oa, zb, ?_⟩
 intro m6 Gb
 obtain ⟨Hb, Ib, J, Jb⟩ := Ab.blk Gb sb 6
 have Kb := Cb.k J
 have Mb := Db.k J
 have Nb := Eb.k J
 have Ob := Fb.k J
 have Pb := Bb.k J
 intro m7 Qb
 obtain ⟨Rb, Sb, D, d⟩ := Ib.blk Qb Hb 7
 have a := Kb.k D
 have h := Mb.k D
 have i := Nb.k D
 have j := Ob.k D
 have n := Pb.k D
 have e := Jb.k D
 refine ⟨trivial, trivial, _, a.bk.rc rfl, ?_⟩
 intro R9 fe
 have hgo : ∀ (N : Nat) (r : Int) (O : Int) (P : Int) (S : Int) (T : Int) (Y : Int) (Z : Int) (o : M) (g : Nat → Nat), St (Fm.of m) f f o → Lb (Fm.of m) f g o 1 m.nxt 6 [(Il c.Crop), (Il c.Value), (Il c.Day.Lo), (Il c.Day.Hi), (Il c.Count.Lo), (Il c.Count.Hi)] → Lb (Fm.of m) f g o 2 m0.nxt 2 [(Il 0), (Il 0)] → Lb (Fm.of m) f g o 3 m1.nxt 2 [(Il 0), (Il 0)] → Lb (Fm.of m) f g o 4 m2.nxt 2 [(Il 0), (Il 0)] → Lb (Fm.of m) f g o 5 m3.nxt 2 [(Il O), (Il P)] → Lb (Fm.of m) f g o 6 oa.nxt 2 [(Il S), (Il T)] → Lb (Fm.of m) f g o 7 m6.nxt 2 [(Il Y), (Il Z)] → prBounds_L0 l c N O P S T Y Z r = some rz → R9 [.c (Il r)] o := by
  intro N
  induction N with
  | zero => intro r O P S T Y Z o g pa a h i j n e d hp; cases hp
  | succ N Tb =>
   intro r O P S T Y Z o g pa a h i j n e d hp
   refine fe _ _ ?_
   rw [prBounds_L0] at hp
   refine ⟨trivial, trivial, _, a.bk.rc rfl, ?_⟩
   refine ifd hp (fun Ub hp => ?_) fun Ub hp => ?_; rotate_left
   ·refine ⟨_, _, n.bk.ra, _, _, e.bk.ra, _, _, d.bk.ra, ?_⟩
    obtain ⟨Vb, Wb, Xb, ga, Yb⟩ := h.sto pa [(Il O), (Il P)]
    have Zb := i.k ga
    have ac := j.k ga
    have bc := e.k ga
    have Fa := d.k ga
    refine ⟨Vb, Wb, ?_⟩
    refine ⟨(Fa.bk.ra), (bc.bk.ra), ?_⟩
    obtain ⟨cc, dc, ec, qa, fc⟩ := Zb.sto Xb [(Il S), (Il T)]
    have gc := Yb.k qa
    have hc := ac.k qa
    have ic := Fa.k qa
    refine ⟨cc, dc, ?_⟩
    refine ⟨(ic.bk.ra), ?_⟩
    obtain ⟨jc, kc, lc, Ga, nc⟩ := hc.sto ec [(Il Y), (Il Z)]
    have oc := gc.k Ga
    have pc := fc.k Ga
    refine ⟨jc, kc, ?_⟩
    refine ⟨_, _, oc.bk.ra, _, _, pc.bk.ra, _, _, nc.bk.ra, ?_⟩
    obtain rfl := Option.some.inj hp
    exact hq _ lc.ext'
   refine ⟨trivial, trivial, _, a.bk.rc rfl, ?_⟩
   intro ge qc
   have hgo : ∀ (ha : Nat) (B : Int) (aa : Int) (ba : Int) (ia : Int) (ja : Int) (ka : Int) (la : Int) (p : M) (b : Nat → Nat), St (Fm.of m) f f p → Lb (Fm.of m) f b p 1 m.nxt 6 [(Il c.Crop), (Il c.Value), (Il c.Day.Lo), (Il c.Day.Hi), (Il c.Count.Lo), (Il c.Count.Hi)] → Lb (Fm.of m) f b p 2 m0.nxt 2 [(Il 0), (Il 0)] → Lb (Fm.of m) f b p 3 m1.nxt 2 [(Il 0), (Il 0)] → Lb (Fm.of m) f b p 4 m2.nxt 2 [(Il 0), (Il 0)] → Lb (Fm.of m) f b p 5 m3.nxt 2 [(Il aa), (Il ba)] → Lb (Fm.of m) f b p 6 oa.nxt 2 [(Il ia), (Il ja)] → Lb (Fm.of m) f b p 7 m6.nxt 2 [(Il ka), (Il la)] → prBounds_L1 l c r (prBounds_L0 l c N) ha aa ba ia ja ka la B = some rz → ge [.c (Il B)] p := by
    intro ha
    induction ha with
    | zero => intro B aa ba ia ja ka la p b sa a h i j n e d hp; cases hp
    | succ ha I =>
     intro B aa ba ia ja ka la p b sa a h i j n e d hp
     refine qc _ _ ?_
     rw [prBounds_L1] at hp
     refine ⟨trivial, trivial, _, a.bk.rc rfl, ?_⟩
     refine ifd hp (fun sc hp => ?_) fun sc hp => ?_; rotate_left
     ·refine gdi hp fun tc hp => ?_
      exact Tb _ _ _ _ _ _ _ _ b sa a h i j n e d hp
     intro me uc
     obtain ⟨ca, vc, s, wc⟩ := sa.blk uc b 8
     have xc := a.k s
     have yc := h.k s
     have zc := i.k s
     have Ac := j.k s
     have Bc := n.k s
     have Cc := e.k s
     have Dc := d.k s
     obtain ⟨Ec, Fc, Ha, u, Ia⟩ := wc.sto vc [(Il r), (Il B)]
     have Ja := xc.k u
     have Gc := yc.k u
     have Hc := zc.k u
     have Ic := Ac.k u
     have Jc := Bc.k u
     have Kc := Cc.k u
     have Lc := Dc.k u
     refine ⟨Ec, Fc, ?_⟩
     refine ⟨_, _, _, _, _, _, Ja.bk.ra, _, _, Ia.bk.ra, ?_⟩
     obtain ⟨w, Nc, hp⟩ := bsome hp
     refine s_rPay (l := l) (c := c) (t := ({ Day := r, Count := B } : Tr)) Ha.pre ha100 Nc fun oe Oc => ?_
     obtain ⟨ta, q⟩ := Ha.call Oc ca
     have ua := Ja.k q
     have va := Gc.k q
     have wa := Hc.k q
     have xa := Ic.k q
     have da := Jc.k q
     have ya := Kc.k q
     have za := Lc.k q
     have ma := Ia.k q
     refine ⟨_, rfl, trivial, _, da.bk.rc rfl, ?_⟩
     refine ifd hp (fun Pc hp => ?_) fun Pc hp => ?_; rotate_left
     ·refine ⟨trivial, _, da.bk.rc rfl, ?_⟩
      refine ifd hp (fun Qc hp => ?_) fun Qc hp => ?_; rotate_left
      ·refine gdi hp fun Rc hp => ?_
       exact I _ _ _ _ _ _ _ _ ca ta ua va wa xa da ya za hp
      refine ⟨_, _, ma.bk.ra, trivial, ?_⟩
      obtain ⟨Tc, Uc, Vc, x, Aa⟩ := da.sto1 ta 1 (Il w) (by simp) rfl
      replace Aa : Lb _ _ _ _ _ _ _ [(Il aa), (Il w)] := Aa
      have Xc := ua.k x
      have Yc := va.k x
      have Zc := wa.k x
      have ad := xa.k x
      have bd := ya.k x
      have cd := za.k x
      have dd := ma.k x
      refine ⟨Tc, Uc, ?_⟩
      refine ⟨(dd.bk.ra), ?_⟩
      obtain ⟨ed, fd, hd, F, id⟩ := cd.sto Vc [(Il r), (Il B)]
      have jd := Xc.k F
      have kd := Yc.k F
      have ld := Zc.k F
      have md := ad.k F
      have nd := Aa.k F
      have od := bd.k F
      refine ⟨ed, fd, ?_⟩
      refine gdi hp fun pd hp => ?_
      exact I _ _ _ _ _ _ _ _ ca hd jd kd ld md nd od id hp
     refine ⟨_, _, ma.bk.ra, trivial, ?_⟩
     obtain ⟨qd, sd, td, y, Ba⟩ := da.sto1 ta 0 (Il w) (by simp) rfl
     replace Ba : Lb _ _ _ _ _ _ _ [(Il w), (Il ba)] := Ba
     have ud := ua.k y
     have vd := va.k y
     have wd := wa.k y
     have xd := xa.k y
     have yd := ya.k y
     have zd := za.k y
     have Ka := ma.k y
     refine ⟨qd, sd, ?_⟩
     refine ⟨(Ka.bk.ra), ?_⟩
     obtain ⟨Ad, Bd, La, z, Ma⟩ := yd.sto td [(Il r), (Il B)]
     have Na := ud.k z
     have Oa := vd.k z
     have Pa := wd.k z
     have Qa := xd.k z
     have Ca := Ba.k z
     have Ra := zd.k z
     have Sa := Ka.k z
     refine ⟨Ad, Bd, ?_⟩
     refine ⟨trivial, _, Ca.bk.rc rfl, ?_⟩
     refine ifd hp (fun Cd hp => ?_) fun Cd hp => ?_; rotate_left
     ·refine gdi hp fun Dd hp => ?_
      exact I _ _ _ _ _ _ _ _ ca La Na Oa Pa Qa Ca Ma Ra hp
     refine ⟨_, _, Sa.bk.ra, trivial, ?_⟩
     obtain ⟨Ed, Fd, Gd, A, Da⟩ := Ca.sto1 La 1 (Il w) (by simp) rfl
     replace Da : Lb _ _ _ _ _ _ _ [(Il w), (Il w)] := Da
     have Hd := Na.k A
     have Id := Oa.k A
     have Jd := Pa.k A
     have Ld := Qa.k A
     have Md := Ma.k A
     have Nd := Ra.k A
     have Od := Sa.k A
     refine ⟨Ed, Fd, ?_⟩
     refine ⟨(Od.bk.ra), ?_⟩
     obtain ⟨Pd, Qd, Rd, G, Sd⟩ := Nd.sto Gd [(Il r), (Il B)]
     have Td := Hd.k G
     have Ud := Id.k G
     have Vd := Jd.k G
     have Wd := Ld.k G
     have Xd := Da.k G
     have Yd := Md.k G
     refine ⟨Pd, Qd, ?_⟩
     refine gdi hp fun Zd hp => ?_
     exact I _ _ _ _ _ _ _ _ ca Rd Td Ud Vd Wd Xd Yd Sd hp
   exact hgo _ _ _ _ _ _ _ _ _ g pa a h i j n e d hp
 exact hgo _ _ _ _ _ _ _ _ _ Rb Sb a h i j n e d hp
theorem s_rLeast {l : List Tf} {crop : Int} {day : Int} {ca100 : C} {m f : M} {Q : V → M → Prop} {rz : Int} (hS : Pre f m) (ha100 : Sl f ca100 l) (hp : prLeast l crop day = some rz) (hq : ∀ m', Ext m m' → Q (.c (Il rz)) m') : Wc prog tbl 41 [.c ca100, .c (Il crop), .c (Il day)] m Q := by
 have t := hS.st
 obtain ⟨u, _⟩ : ∃ τ : Nat → Nat, True := ⟨fun _ => 0, trivial⟩
 refine w41 ?_
 unfold prLeast at hp
 intro w s
 have hgo : ∀ (a : Nat) (i : Int) (e : Int) (h : M) (b : Nat → Nat), St (Fm.of m) f f h → prLeast_L0 l crop day a e = some rz → w [.c (Il i), .c (Il e)] h := by
  intro a
  induction a with
  | zero => intro i e h b d hp; cases hp
  | succ a j =>
   intro i e h b d hp
   refine s _ _ _ ?_
   rw [prLeast_L0] at hp
   refine ifd hp (fun n hp => ?_) fun n hp => ?_; rotate_left
   ·obtain rfl := Option.some.inj hp
    exact hq _ d.ext'
   obtain ⟨x, o, hp⟩ := bsome hp
   refine s_rPart (l := l) (crop := crop) (day := day) (count := e) d.pre ha100 o fun z p => ?_
   obtain ⟨g, y⟩ := d.call p b
   refine ⟨_, rfl, ?_⟩
   refine ifd hp (fun q hp => ?_) fun q hp => ?_
   ·obtain rfl := Option.some.inj hp
    exact hq _ g.ext'
   refine gdi hp fun r hp => ?_
   exact j _ _ _ b g hp
 exact hgo _ _ _ _ u t hp
theorem s_lTo {r : Rg} {m f : M} {Q : V → M → Prop} {rz : Rg} (hS : Pre f m)  (hp : plTo r = some rz) (hq : ∀ m', Ext m m' → Q (.agg 2 [(Il rz.Lo), (Il rz.Hi)]) m') : Wc prog tbl 36 [.agg 2 [(Il r.Lo), (Il r.Hi)]] m Q := by
 have q := hS.st
 obtain ⟨s, _⟩ : ∃ τ : Nat → Nat, True := ⟨fun _ => 0, trivial⟩
 refine w36 ?_
 unfold plTo at hp
 intro x b
 obtain ⟨c, d, t, e⟩ := q.blk b s 1
 intro y g
 obtain ⟨u, h, i, j⟩ := d.blk g c 2
 have a := e.k i
 refine ⟨trivial, _, a.bk.rc rfl, trivial, _, a.bk.rc rfl, ?_⟩
 obtain ⟨l, n, o, w, p⟩ := j.sto h [(Il r.Lo), (Il r.Hi)]
 refine ⟨l, n, ?_⟩
 refine ⟨_, _, p.bk.ra, ?_⟩
 obtain rfl := Option.some.inj hp
 exact hq _ o.ext'
theorem s_lClaim {c : Clm} {m f : M} {Q : V → M → Prop} {rz : Clm} (hS : Pre f m)  (hp : plClaim c = some rz) (hq : ∀ m', Ext m m' → Q (.agg 6 [(Il rz.Crop), (Il rz.Value), (Il rz.Day.Lo), (Il rz.Day.Hi), (Il rz.Count.Lo), (Il rz.Count.Hi)]) m') : Wc prog tbl 26 [.agg 6 [(Il c.Crop), (Il c.Value), (Il c.Day.Lo), (Il c.Day.Hi), (Il c.Count.Lo), (Il c.Count.Hi)]] m Q := by
 have P := hS.st
 obtain ⟨S, _⟩ : ∃ τ : Nat → Nat, True := ⟨fun _ => 0, trivial⟩
 refine w26 ?_
 unfold plClaim at hp
 intro m0 p
 obtain ⟨q, s, T, t⟩ := P.blk p S 1
 intro m1 u
 obtain ⟨d, e, w, x⟩ := s.blk u q 2
 have a := t.k w
 refine ⟨trivial, _, a.bk.rc rfl, trivial, _, a.bk.rc rfl, trivial, _, _, a.bk.rp (k := 2) (j := 2) rfl (by omega), ?_⟩
 obtain ⟨g, y, hp⟩ := bsome hp
 refine s_lTo (r := c.Day) e.pre  y fun m7 z => ?_
 obtain ⟨h, i⟩ := e.call z d
 have b := a.k i
 have A := x.k i
 refine ⟨_, _, rfl, (b.bk.rc rfl), (b.bk.rc rfl), trivial, _, _, b.bk.rp (k := 4) (j := 2) rfl (by omega), (a.bk.rp (k := 4) (j := 2) rfl (by omega)), ?_⟩
 obtain ⟨l, B, hp⟩ := bsome hp
 refine s_lTo (r := c.Count) h.pre  B fun Z D => ?_
 obtain ⟨F, n⟩ := h.call D d
 have o := b.k n
 have G := A.k n
 refine ⟨_, _, rfl, (o.bk.rc rfl), (o.bk.rc rfl), ?_⟩
 obtain ⟨I, J, N, Y, O⟩ := G.sto F [(Il c.Crop), (Il c.Value), (Il g.Lo), (Il g.Hi), (Il l.Lo), (Il l.Hi)]
 refine ⟨I, J, ?_⟩
 refine ⟨_, _, _, _, _, _, O.bk.ra, ?_⟩
 obtain rfl := Option.some.inj hp
 exact hq _ N.ext'
theorem s_lList {l : List Int} {ca100 : C} {m f : M} {Q : V → M → Prop} {rz : List Int} (hS : Pre f m) (ha100 : Sl f ca100 l) (hp : plList l = some rz) (hq : ∀ m' f' c0, Grw m f m' f' → Sl f' c0 rz → Q (.c c0) m') : Wc prog tbl 58 [.c ca100] m Q := by
 have r := hS.st
 obtain ⟨s, _⟩ : ∃ τ : Nat → Nat, True := ⟨fun _ => 0, trivial⟩
 refine w58 ?_
 unfold plList at hp
 intro z b
 obtain ⟨t, d, u, e⟩ := Ow.lit0 (α := Int) r s 1 b
 obtain ⟨g, hp⟩ := gd_some hp
 obtain ⟨a, h, w, i, j, x, n⟩ := e.appL ta73 d ha100 g
 refine ⟨a, h, i, ?_⟩
 obtain ⟨o, p, y, q⟩ := n.freeze j
 obtain rfl := Option.some.inj hp
 exact hq _ o a p.grw q
theorem s_lClaims {l : List Clm} {ca100 : C} {m f : M} {Q : V → M → Prop} {rz : List Clm} (hS : Pre f m) (ha100 : Sl f ca100 l) (hp : plClaims l = some rz) (hq : ∀ m' f' c0, Grw m f m' f' → Sl f' c0 rz → Q (.c c0) m') : Wc prog tbl 40 [.c ca100] m Q := by
 have S0 := hS.st
 obtain ⟨τ0, _⟩ : ∃ τ : Nat → Nat, True := ⟨fun _ => 0, trivial⟩
 refine w40 ?_
 unfold plClaims at hp
 intro R0 Z
 have hgo : ∀ (e : Nat) (n : C) (q : Int) (g : List Clm) (o : M) (h : Nat → Nat), St (Fm.of m) f f o → Ow (Fm.of m) f h o 1 n g → plClaims_L0 l e g q = some rz → R0 [.c n, .c (Il q)] o := by
  intro e
  induction e with
  | zero => intro n q g o h b d hp; cases hp
  | succ e s =>
   intro n q g o h b d hp
   refine Z _ _ _ ?_
   rw [plClaims_L0] at hp
   refine ⟨ha100.isSl, ?_⟩
   try rw [ha100.slLen]
   refine ifd hp (fun t hp => ?_) fun t hp => ?_; rotate_left
   ·obtain ⟨u, w, da, x⟩ := d.freeze b
    obtain rfl := Option.some.inj hp
    exact hq _ u n w.grw x
   obtain ⟨y, i, hp⟩ := bsome hp
   obtain ⟨n4, r, j, i⟩ := idx_some i
   obtain ⟨_, z⟩ := rd_Clm ha100 i
   refine ⟨n4, r, (by first | exact j | (rw [ha100.slLen]; exact j)), _, _, _, _, _, _, (z _ b.sub).1, ?_⟩
   obtain ⟨p, A, hp⟩ := bsome hp
   refine s_lClaim (c := y) b.pre  A fun ga B => ?_
   obtain ⟨D, F⟩ := b.call B h
   have d := d.k F
   refine ⟨_, _, _, _, _, _, rfl, ?_⟩
   obtain ⟨G, hp⟩ := gd_some hp
   intro ha I
   obtain ⟨J, N, O, P, S, fa, T⟩ := d.app' ta67 D (a := p) (show Rp.rep (α := Clm) f _ p from rfl) G I
   refine ⟨J, N, P, ?_⟩
   refine gdi hp fun Y hp => ?_
   exact s _ _ _ _ O S T hp
 exact hgo _ _ _ _ _ τ0 S0 (Ow.nil _ _ _ _ _) hp
theorem s_lThin {l : List Tf} {ca100 : C} {m f : M} {Q : V → M → Prop} {rz : Bool} (hS : Pre f m) (ha100 : Sl f ca100 l) (hp : plThin l = some rz) (hq : ∀ m', Ext m m' → Q (.c (.bool rz)) m') : Wc prog tbl 16 [.c ca100] m Q := by
 have S0 := hS.st
 obtain ⟨τ0, _⟩ : ∃ τ : Nat → Nat, True := ⟨fun _ => 0, trivial⟩
 refine w16 ?_
 unfold plThin at hp
 refine ⟨ha100.isSl, ?_⟩
 try rw [ha100.slLen]
 refine ifd hp (fun Ga hp => ?_) fun Ga hp => ?_
 ·obtain rfl := Option.some.inj hp
  exact hq _ S0.ext'
 intro R0 jb
 have hgo : ∀ (e : Nat) (b1 : Bool) (b2 : Bool) (b3 : Bool) (w : Int) (m5 : M) (x : Nat → Nat), St (Fm.of m) f f m5 → plThin_L0 l e b1 w = some rz → R0 [.c (.bool b1), .c (.bool b2), .c (.bool b3), .c (Il w)] m5 := by
  intro e
  induction e with
  | zero => intro b1 b2 b3 w m5 x a hp; cases hp
  | succ e Ja =>
   intro b1 b2 b3 w m5 x a hp
   refine jb _ _ _ _ _ ?_
   rw [plThin_L0] at hp
   refine ⟨ha100.isSl, ?_⟩
   try rw [ha100.slLen]
   refine ifd hp (fun Ka hp => ?_) fun Ka hp => ?_; rotate_left
   ·obtain rfl := Option.some.inj hp
    exact hq _ a.ext'
   obtain ⟨yb, h, hp⟩ := bsome hp
   obtain ⟨n6, ta, D, h⟩ := idx_some h
   obtain ⟨Ab, Bb, Cb, La, ea, Db, Eb⟩ := rd_Tf ha100 h
   refine ⟨n6, ta, (by first | exact D | (rw [ha100.slLen]; exact D)), (ha100.isPt h _), _, ((La _ a.sub).2.1 3 _ rfl), ea.isSl, ?_⟩
   try rw [ea.slLen]
   refine ifd hp (fun Ma hp => ?_) fun Ma hp => ?_
   ·obtain rfl := Option.some.inj hp
    exact hq _ a.ext'
   obtain ⟨Fb, i, hp⟩ := bsome hp
   obtain ⟨n8, ua, F, i⟩ := idx_some i
   obtain ⟨Hb, Ib, Jb, Na, Kb, fa, Mb⟩ := rd_Tf ha100 i
   refine ⟨n8, ua, (by first | exact F | (rw [ha100.slLen]; exact F)), (ha100.isPt i _), _, ((Na _ a.sub).2.1 4 _ rfl), fa.isSl, ?_⟩
   try rw [fa.slLen]
   refine ifd hp (fun Oa hp => ?_) fun Oa hp => ?_
   ·obtain rfl := Option.some.inj hp
    exact hq _ a.ext'
   obtain ⟨Nb, j, hp⟩ := bsome hp
   obtain ⟨kb, va, G, j⟩ := idx_some j
   obtain ⟨Ob, Pb, Qb, Pa, Rb, Sb, ga⟩ := rd_Tf ha100 j
   refine ⟨kb, va, (by first | exact G | (rw [ha100.slLen]; exact G)), (ha100.isPt j _), _, ((Pa _ a.sub).2.1 5 _ rfl), ga.isSl, ?_⟩
   try rw [ga.slLen]
   refine ifd hp (fun Qa hp => ?_) fun Qa hp => ?_
   ·obtain rfl := Option.some.inj hp
    exact hq _ a.ext'
   intro mb Ra
   have hgo : ∀ (g : Nat) (I : Bool) (ha : Bool) (u : Int) (J : M) (n : Nat → Nat), St (Fm.of m) f f J → plThin_L1 l w (plThin_L0 l e) g I u = some rz → mb [.c (.bool I), .c (.bool ha), .c (Il u)] J := by
    intro g
    induction g with
    | zero => intro I ha u J n d hp; cases hp
    | succ g wa =>
     intro I ha u J n d hp
     refine Ra _ _ _ _ ?_
     rw [plThin_L1] at hp
     obtain ⟨Tb, o, hp⟩ := bsome hp
     obtain ⟨nb, xa, N, o⟩ := idx_some o
     obtain ⟨Ub, Vb, Wb, Sa, Xb, Yb, ia⟩ := rd_Tf ha100 o
     refine ⟨nb, xa, (by first | exact N | (rw [ha100.slLen]; exact N)), (ha100.isPt o _), _, ((Sa _ d.sub).2.1 5 _ rfl), ia.isSl, ?_⟩
     try rw [ia.slLen]
     refine ifd hp (fun Ta hp => ?_) fun Ta hp => ?_; rotate_left
     ·refine gdi hp fun Ua hp => ?_
      exact Ja _ _ _ _ _ n d hp
     obtain ⟨Zb, p, hp⟩ := bsome hp
     obtain ⟨ob, ya, O, p⟩ := idx_some p
     obtain ⟨ac, bc, cc, Va, dc, ec, ja⟩ := rd_Tf ha100 p
     refine ⟨ob, ya, (by first | exact O | (rw [ha100.slLen]; exact O)), (ha100.isPt p _), _, ((Va _ d.sub).2.1 5 _ rfl), ?_⟩
     obtain ⟨fc, y, hp⟩ := bsome hp
     obtain ⟨pb, za, P, y⟩ := idx_some y
     obtain ⟨gc, Wa, ka⟩ := ja.rdS y
     refine ⟨pb, za, (by first | exact P | (rw [ja.slLen]; exact P)), _, (Wa _ d.sub), ka.isSl, ?_⟩
     try rw [ka.slLen]
     refine ifd hp (fun Xa hp => ?_) fun Xa hp => ?_
     ·obtain rfl := Option.some.inj hp
      exact hq _ d.ext'
     intro qb Ya
     have hgo : ∀ (q : Nat) (S : Bool) (T : Int) (Y : M) (r : Nat → Nat), St (Fm.of m) f f Y → plThin_L2 l w u (plThin_L1 l w (plThin_L0 l e) g) q S T = some rz → qb [.c (.bool S), .c (Il T)] Y := by
      intro q
      induction q with
      | zero => intro S T Y r b hp; cases hp
      | succ q Aa =>
       intro S T Y r b hp
       refine Ya _ _ _ ?_
       rw [plThin_L2] at hp
       obtain ⟨hc, s, hp⟩ := bsome hp
       obtain ⟨rb, Ba, Z, s⟩ := idx_some s
       obtain ⟨ic, jc, kc, Za, lc, nc, la⟩ := rd_Tf ha100 s
       refine ⟨rb, Ba, (by first | exact Z | (rw [ha100.slLen]; exact Z)), (ha100.isPt s _), _, ((Za _ b.sub).2.1 5 _ rfl), ?_⟩
       obtain ⟨oc, z, hp⟩ := bsome hp
       obtain ⟨sb, Ca, aa, z⟩ := idx_some z
       obtain ⟨pc, ab, ma⟩ := la.rdS z
       refine ⟨sb, Ca, (by first | exact aa | (rw [la.slLen]; exact aa)), _, (ab _ b.sub), ma.isSl, ?_⟩
       try rw [ma.slLen]
       refine ifd hp (fun bb hp => ?_) fun bb hp => ?_; rotate_left
       ·refine gdi hp fun cb hp => ?_
        exact wa _ _ _ _ r b hp
       obtain ⟨qc, t, hp⟩ := bsome hp
       obtain ⟨tb, Da, ba, t⟩ := idx_some t
       obtain ⟨sc, tc, uc, db, vc, wc, na⟩ := rd_Tf ha100 t
       refine ⟨tb, Da, (by first | exact ba | (rw [ha100.slLen]; exact ba)), (ha100.isPt t _), _, ((db _ b.sub).2.1 5 _ rfl), ?_⟩
       obtain ⟨xc, A, hp⟩ := bsome hp
       obtain ⟨ub, Ea, ca, A⟩ := idx_some A
       obtain ⟨yc, eb, oa⟩ := na.rdS A
       refine ⟨ub, Ea, (by first | exact ca | (rw [na.slLen]; exact ca)), _, (eb _ b.sub), ?_⟩
       obtain ⟨zc, B, hp⟩ := bsome hp
       obtain ⟨vb, Fa, da, B⟩ := idx_some B
       obtain ⟨Ac, fb, pa⟩ := oa.rdS B
       refine ⟨vb, Fa, (by first | exact da | (rw [oa.slLen]; exact da)), _, (fb _ b.sub), pa.isSl, ?_⟩
       try rw [pa.slLen]
       refine ifd hp (fun gb hp => ?_) fun gb hp => ?_
       ·obtain rfl := Option.some.inj hp
        exact hq _ b.ext'
       refine gdi hp fun hb hp => ?_
       exact Aa _ _ _ r b hp
     exact hgo _ _ _ _ n d hp
   exact hgo _ _ _ _ _ x a hp
 exact hgo _ _ _ _ _ _ τ0 S0 hp
theorem s_lFault {l : List Tf} {ca100 : C} {m f : M} {Q : V → M → Prop} {rz : Int} (hS : Pre f m) (ha100 : Sl f ca100 l) (hp : plFault l = some rz) (hq : ∀ m', Ext m m' → Q (.c (Il rz)) m') : Wc prog tbl 20 [.c ca100] m Q := by
 have e := hS.st
 obtain ⟨g, _⟩ : ∃ τ : Nat → Nat, True := ⟨fun _ => 0, trivial⟩
 refine w20 ?_
 unfold plFault at hp
 obtain ⟨h, a, hp⟩ := bsome hp
 refine s_rFault (l := l) e.pre ha100 a fun j b => ?_
 obtain ⟨d, i⟩ := e.call b g
 refine ⟨_, rfl, ?_⟩
 obtain rfl := Option.some.inj hp
 exact hq _ d.ext'
theorem s_lClaimed {l : List Tf} {c : Clm} {ca100 : C} {m f : M} {Q : V → M → Prop} {rz : Int} (hS : Pre f m) (ha100 : Sl f ca100 l) (hp : plClaimed l c = some rz) (hq : ∀ m', Ext m m' → Q (.c (Il rz)) m') : Wc prog tbl 29 [.c ca100, .agg 6 [(Il c.Crop), (Il c.Value), (Il c.Day.Lo), (Il c.Day.Hi), (Il c.Count.Lo), (Il c.Count.Hi)]] m Q := by
 have x := hS.st
 obtain ⟨y, _⟩ : ∃ τ : Nat → Nat, True := ⟨fun _ => 0, trivial⟩
 refine w29 ?_
 unfold plClaimed at hp
 intro B s
 obtain ⟨b, e, z, g⟩ := x.blk s y 1
 obtain ⟨t, h, hp⟩ := bsome hp
 refine s_lFault (l := l) e.pre ha100 h fun D i => ?_
 obtain ⟨a, j⟩ := e.call i b
 have n := g.k j
 refine ⟨_, rfl, ?_⟩
 refine ifnd hp (fun o hp => ?_) fun o hp => ?_
 ·obtain rfl := Option.some.inj hp
  exact hq _ a.ext'
 refine ⟨_, _, _, _, _, _, n.bk.ra, ?_⟩
 obtain ⟨u, p, hp⟩ := bsome hp
 refine s_rIsClaim (l := l) (c := c) a.pre ha100 p fun A q => ?_
 obtain ⟨d, w⟩ := a.call q b
 refine ⟨_, rfl, ?_⟩
 refine ifnb hp (fun r hp => ?_) fun r hp => ?_
 ·obtain rfl := Option.some.inj hp
  exact hq _ d.ext'
 obtain rfl := Option.some.inj hp
 exact hq _ d.ext'
theorem s_has {r : Rg} {n : Int} {m f : M} {Q : V → M → Prop} {rz : Bool} (hS : Pre f m)  (hp : phas r n = some rz) (hq : ∀ m', Ext m m' → Q (.c (.bool rz)) m') : Wc prog tbl 78 [.agg 2 [(Il r.Lo), (Il r.Hi)], .c (Il n)] m Q := by
 have i := hS.st
 obtain ⟨j, _⟩ : ∃ τ : Nat → Nat, True := ⟨fun _ => 0, trivial⟩
 refine w78 ?_
 unfold phas at hp
 intro l d
 obtain ⟨g, a, h, b⟩ := i.blk d j 1
 refine ⟨trivial, _, b.bk.rc rfl, ?_⟩
 refine ifd hp (fun e hp => ?_) fun e hp => ?_; rotate_left
 ·obtain rfl := Option.some.inj hp
  exact hq _ a.ext'
 refine ⟨trivial, _, b.bk.rc rfl, ?_⟩
 obtain rfl := Option.some.inj hp
 exact hq _ a.ext'
theorem s_isIndex {n : Int} {size : Int} {m f : M} {Q : V → M → Prop} {rz : Bool} (hS : Pre f m)  (hp : pisIndex n size = some rz) (hq : ∀ m', Ext m m' → Q (.c (.bool rz)) m') : Wc prog tbl 77 [.c (Il n), .c (Il size)] m Q := by
 have g := hS.st
 obtain ⟨j, _⟩ : ∃ τ : Nat → Nat, True := ⟨fun _ => 0, trivial⟩
 refine w77 ?_
 unfold pisIndex at hp
 refine gdi hp fun a hp => ?_
 obtain ⟨h, b, hp⟩ := bsome hp
 refine s_has (r := ({ Lo := (0 : Int), Hi := (size - 1) } : Rg)) (n := n) g.pre  b fun l d => ?_
 obtain ⟨e, i⟩ := g.call d j
 refine ⟨_, rfl, ?_⟩
 obtain rfl := Option.some.inj hp
 exact hq _ e.ext'
theorem s_isDay {n : Int} {m f : M} {Q : V → M → Prop} {rz : Bool} (hS : Pre f m)  (hp : pisDay n = some rz) (hq : ∀ m', Ext m m' → Q (.c (.bool rz)) m') : Wc prog tbl 55 [.c (Il n)] m Q := by
 have e := hS.st
 obtain ⟨i, _⟩ : ∃ τ : Nat → Nat, True := ⟨fun _ => 0, trivial⟩
 refine w55 ?_
 unfold pisDay at hp
 obtain ⟨g, a, hp⟩ := bsome hp
 refine s_has (r := ({ Lo := (0 : Int), Hi := (120 : Int) } : Rg)) (n := n) e.pre  a fun j b => ?_
 obtain ⟨d, h⟩ := e.call b i
 refine ⟨_, rfl, ?_⟩
 obtain rfl := Option.some.inj hp
 exact hq _ d.ext'
theorem s_isCount {n : Int} {m f : M} {Q : V → M → Prop} {rz : Bool} (hS : Pre f m)  (hp : pisCount n = some rz) (hq : ∀ m', Ext m m' → Q (.c (.bool rz)) m') : Wc prog tbl 56 [.c (Il n)] m Q := by
 have e := hS.st
 obtain ⟨i, _⟩ : ∃ τ : Nat → Nat, True := ⟨fun _ => 0, trivial⟩
 refine w56 ?_
 unfold pisCount at hp
 obtain ⟨g, a, hp⟩ := bsome hp
 refine s_has (r := ({ Lo := (0 : Int), Hi := (100 : Int) } : Rg)) (n := n) e.pre  a fun j b => ?_
 obtain ⟨d, h⟩ := e.call b i
 refine ⟨_, rfl, ?_⟩
 obtain rfl := Option.some.inj hp
 exact hq _ d.ext'
theorem s_isHundredths {n : Int} {m f : M} {Q : V → M → Prop} {rz : Bool} (hS : Pre f m)  (hp : pisHundredths n = some rz) (hq : ∀ m', Ext m m' → Q (.c (.bool rz)) m') : Wc prog tbl 105 [.c (Il n)] m Q := by
 have e := hS.st
 obtain ⟨i, _⟩ : ∃ τ : Nat → Nat, True := ⟨fun _ => 0, trivial⟩
 refine w105 ?_
 unfold pisHundredths at hp
 obtain ⟨g, a, hp⟩ := bsome hp
 refine s_has (r := ({ Lo := (0 : Int), Hi := (100 : Int) } : Rg)) (n := n) e.pre  a fun j b => ?_
 obtain ⟨d, h⟩ := e.call b i
 refine ⟨_, rfl, ?_⟩
 obtain rfl := Option.some.inj hp
 exact hq _ d.ext'
theorem s_rises {l : List Int} {ca100 : C} {m f : M} {Q : V → M → Prop} {rz : Bool} (hS : Pre f m) (ha100 : Sl f ca100 l) (hp : prises l = some rz) (hq : ∀ m', Ext m m' → Q (.c (.bool rz)) m') : Wc prog tbl 86 [.c ca100] m Q := by
 have N := hS.st
 obtain ⟨O, _⟩ : ∃ τ : Nat → Nat, True := ⟨fun _ => 0, trivial⟩
 refine w86 ?_
 unfold prises at hp
 refine ⟨ha100.isSl, ?_⟩
 intro P F
 have hgo : ∀ (b : Nat) (D : Bool) (s : Int) (t : M) (d : Nat → Nat), St (Fm.of m) f f t → prises_L0 l b s = some rz → P [.c (.bool D), .c (Il s)] t := by
  intro b
  induction b with
  | zero => intro D s t d a hp; cases hp
  | succ b o =>
   intro D s t d a hp
   refine F _ _ _ ?_
   rw [prises_L0] at hp
   try rw [ha100.slLen]
   refine ifd hp (fun u hp => ?_) fun u hp => ?_; rotate_left
   ·refine ⟨ha100.isSl, ?_⟩
    try rw [ha100.slLen]
    refine ifd hp (fun w hp => ?_) fun w hp => ?_; rotate_left
    ·obtain rfl := Option.some.inj hp
     exact hq _ a.ext'
    obtain ⟨G, e, hp⟩ := bsome hp
    obtain ⟨S, p, i, e⟩ := idx_some e
    refine ⟨S, p, (by first | exact i | (rw [ha100.slLen]; exact i)), _, (ha100.rdI e a.sub), ?_⟩
    obtain rfl := Option.some.inj hp
    exact hq _ a.ext'
   obtain ⟨I, g, hp⟩ := bsome hp
   obtain ⟨T, q, j, g⟩ := idx_some g
   refine ⟨T, q, (by first | exact j | (rw [ha100.slLen]; exact j)), _, (ha100.rdI g a.sub), ?_⟩
   refine ifd hp (fun x hp => ?_) fun x hp => ?_; rotate_left
   ·refine gdi hp fun y hp => ?_
    exact o _ _ _ d a hp
   refine gdi hp fun z hp => ?_
   obtain ⟨J, h, hp⟩ := bsome hp
   obtain ⟨Y, r, n, h⟩ := idx_some h
   refine ⟨Y, r, (by first | exact n | (rw [ha100.slLen]; exact n)), _, (ha100.rdI h a.sub), ?_⟩
   refine ifd hp (fun A hp => ?_) fun A hp => ?_
   ·obtain rfl := Option.some.inj hp
    exact hq _ a.ext'
   refine gdi hp fun B hp => ?_
   exact o _ _ _ d a hp
 exact hgo _ _ _ _ O N hp
theorem s_froms {l : List Tf} {ca100 : C} {m f : M} {Q : V → M → Prop} {rz : List Int} (hS : Pre f m) (ha100 : Sl f ca100 l) (hp : pfroms l = some rz) (hq : ∀ m' f' c0, Grw m f m' f' → Sl f' c0 rz → Q (.c c0) m') : Wc prog tbl 87 [.c ca100] m Q := by
 have S0 := hS.st
 obtain ⟨τ0, _⟩ : ∃ τ : Nat → Nat, True := ⟨fun _ => 0, trivial⟩
 refine w87 ?_
 unfold pfroms at hp
 refine ⟨ha100.isSl, ?_⟩
 intro R0 ga
 have hgo : ∀ (e : Nat) (o : C) (r : Int) (g : List Int) (p : M) (h : Nat → Nat), St (Fm.of m) f f p → Ow (Fm.of m) f h p 1 o g → pfroms_L0 l e g r = some rz → R0 [.c o, .c (Il r)] p := by
  intro e
  induction e with
  | zero => intro o r g p h i b hp; cases hp
  | succ e fa =>
   intro o r g p h i b hp
   refine ga _ _ _ ?_
   rw [pfroms_L0] at hp
   try rw [ha100.slLen]
   refine ifd hp (fun s hp => ?_) fun s hp => ?_; rotate_left
   ·obtain ⟨t, u, ha, w⟩ := b.freeze i
    obtain rfl := Option.some.inj hp
    exact hq _ t o u.grw w
   obtain ⟨d, j, hp⟩ := bsome hp
   obtain ⟨n4, q, n, j⟩ := idx_some j
   obtain ⟨x, y, z, A, ia, ja, ka⟩ := rd_Tf ha100 j
   refine ⟨n4, q, (by first | exact n | (rw [ha100.slLen]; exact n)), _, _, _, _, _, _, (A _ i.sub).1, ?_⟩
   intro sa B
   obtain ⟨la, D, F, G⟩ := i.blk B h 2
   have b := b.k F
   obtain ⟨I, J, N, O, P⟩ := G.sto D [(Il d.From), (.bool d.Whole), (Il d.Least), x, y, z]
   have b := b.k O
   refine ⟨I, J, ?_⟩
   refine ⟨trivial, _, P.bk.rc rfl, ?_⟩
   obtain ⟨S, hp⟩ := gd_some hp
   intro ta T
   obtain ⟨Y, Z, aa, ba, ca, ma, da⟩ := b.app' ta73 N (a := d.From) (show Rp.rep (α := Int) f _ d.From from rfl) S T
   refine ⟨Y, Z, ba, ?_⟩
   refine gdi hp fun ea hp => ?_
   exact fa _ _ _ _ aa ca da hp
 exact hgo _ _ _ _ _ τ0 S0 (Ow.nil _ _ _ _ _) hp
theorem s_sameCrops {l : List Tf} {t : Tf} {ca100 ca203 ca204 ca205 : C} {m f : M} {Q : V → M → Prop} {rz : Bool} (hS : Pre f m) (ha100 : Sl f ca100 l) (ha203 : Sl f ca203 t.Weeks) (ha204 : Sl f ca204 t.Counts) (ha205 : Sl f ca205 t.Rates) (hp : psameCrops l t = some rz) (hq : ∀ m', Ext m m' → Q (.c (.bool rz)) m') : Wc prog tbl 88 [.c ca100, .agg 6 [(Il t.From), (.bool t.Whole), (Il t.Least), ca203, ca204, ca205]] m Q := by
 have x := hS.st
 obtain ⟨y, _⟩ : ∃ τ : Nat → Nat, True := ⟨fun _ => 0, trivial⟩
 refine w88 ?_
 unfold psameCrops at hp
 intro A h
 obtain ⟨n, d, o, i⟩ := x.blk h y 1
 refine ⟨trivial, _, i.bk.rc rfl, ha205.isSl, ?_⟩
 obtain ⟨p, a, hp⟩ := bsome hp
 obtain ⟨z, g, b, a⟩ := idx_some a
 obtain ⟨q, r, s, j, u, w, e⟩ := rd_Tf ha100 a
 refine ⟨z, g, (by first | exact b | (rw [ha100.slLen]; exact b)), (ha100.isPt a _), _, ((j _ d.sub).2.1 5 _ rfl), e.isSl, ?_⟩
 try rw [ha205.slLen]
 try rw [e.slLen]
 obtain rfl := Option.some.inj hp
 exact hq _ d.ext'
theorem s_hasCrop {l : List Tf} {n : Int} {ca100 : C} {m f : M} {Q : V → M → Prop} {rz : Bool} (hS : Pre f m) (ha100 : Sl f ca100 l) (hp : phasCrop l n = some rz) (hq : ∀ m', Ext m m' → Q (.c (.bool rz)) m') : Wc prog tbl 54 [.c ca100, .c (Il n)] m Q := by
 have p := hS.st
 obtain ⟨y, _⟩ : ∃ τ : Nat → Nat, True := ⟨fun _ => 0, trivial⟩
 refine w54 ?_
 unfold phasCrop at hp
 obtain ⟨g, a, hp⟩ := bsome hp
 obtain ⟨z, e, b, a⟩ := idx_some a
 obtain ⟨q, r, s, h, t, u, d⟩ := rd_Tf ha100 a
 refine ⟨z, e, (by first | exact b | (rw [ha100.slLen]; exact b)), (ha100.isPt a _), _, ((h _ p.sub).2.1 5 _ rfl), d.isSl, ?_⟩
 try rw [d.slLen]
 obtain ⟨w, i, hp⟩ := bsome hp
 refine s_isIndex (n := n) (size := (g.Rates.length : Int)) p.pre  i fun A j => ?_
 obtain ⟨o, x⟩ := p.call j y
 refine ⟨_, rfl, ?_⟩
 obtain rfl := Option.some.inj hp
 exact hq _ o.ext'
theorem s_tfTooMany {t : Tf} {ca103 ca104 ca105 : C} {m f : M} {Q : V → M → Prop} {rz : Bool} (hS : Pre f m) (ha103 : Sl f ca103 t.Weeks) (ha104 : Sl f ca104 t.Counts) (ha105 : Sl f ca105 t.Rates) (hp : ptfTooMany t = some rz) (hq : ∀ m', Ext m m' → Q (.c (.bool rz)) m') : Wc prog tbl 83 [.agg 6 [(Il t.From), (.bool t.Whole), (Il t.Least), ca103, ca104, ca105]] m Q := by
 have j := hS.st
 obtain ⟨l, _⟩ : ∃ τ : Nat → Nat, True := ⟨fun _ => 0, trivial⟩
 refine w83 ?_
 unfold ptfTooMany at hp
 intro n d
 obtain ⟨h, a, i, b⟩ := j.blk d l 1
 refine ⟨trivial, _, b.bk.rc rfl, ha103.isSl, ?_⟩
 try rw [ha103.slLen]
 refine ifd hp (fun e hp => ?_) fun e hp => ?_
 ·obtain rfl := Option.some.inj hp
  exact hq _ a.ext'
 refine ⟨trivial, _, b.bk.rc rfl, ha104.isSl, ?_⟩
 try rw [ha104.slLen]
 refine ifd hp (fun g hp => ?_) fun g hp => ?_
 ·obtain rfl := Option.some.inj hp
  exact hq _ a.ext'
 refine ⟨trivial, _, b.bk.rc rfl, ha105.isSl, ?_⟩
 try rw [ha105.slLen]
 obtain rfl := Option.some.inj hp
 exact hq _ a.ext'
theorem s_isNaN {x : Int} {m f : M} {Q : V → M → Prop} {rz : Bool} (hS : Pre f m)  (hp : pisNaN x = some rz) (hq : ∀ m', Ext m m' → Q (.c (.bool rz)) m') : Wc prog tbl 95 [.c (Il x)] m Q := by
 have a := hS.st
 obtain ⟨b, _⟩ : ∃ τ : Nat → Nat, True := ⟨fun _ => 0, trivial⟩
 refine w95 ?_
 unfold pisNaN at hp
 obtain rfl := Option.some.inj hp
 exact hq _ a.ext'
theorem s_sNaN {x : Int} {m f : M} {Q : V → M → Prop} {rz : Bool} (hS : Pre f m)  (hp : psNaN x = some rz) (hq : ∀ m', Ext m m' → Q (.c (.bool rz)) m') : Wc prog tbl 130 [.c (Il x)] m Q := by
 have a := hS.st
 obtain ⟨b, _⟩ : ∃ τ : Nat → Nat, True := ⟨fun _ => 0, trivial⟩
 refine w130 ?_
 unfold psNaN at hp
 obtain rfl := Option.some.inj hp
 exact hq _ a.ext'
theorem s_less {x : Int} {y : Int} {m f : M} {Q : V → M → Prop} {rz : Bool} (hS : Pre f m)  (hp : pless x y = some rz) (hq : ∀ m', Ext m m' → Q (.c (.bool rz)) m') : Wc prog tbl 129 [.c (Il x), .c (Il y)] m Q := by
 have l := hS.st
 obtain ⟨n, _⟩ : ∃ τ : Nat → Nat, True := ⟨fun _ => 0, trivial⟩
 refine w129 ?_
 unfold pless at hp
 obtain ⟨o, d, hp⟩ := bsome hp
 refine s_isNaN (x := x) l.pre  d fun s e => ?_
 obtain ⟨a, p⟩ := l.call e n
 refine ⟨_, rfl, ?_⟩
 refine ifbb hp (fun g hp => ?_) fun g hp => ?_; rotate_left
 ·obtain rfl := Option.some.inj hp
  exact hq _ a.ext'
 obtain ⟨q, h, hp⟩ := bsome hp
 refine s_isNaN (x := y) a.pre  h fun t i => ?_
 obtain ⟨b, r⟩ := a.call i n
 refine ⟨_, rfl, ?_⟩
 refine ifnb hp (fun j hp => ?_) fun j hp => ?_
 ·obtain rfl := Option.some.inj hp
  exact hq _ b.ext'
 obtain rfl := Option.some.inj hp
 exact hq _ b.ext'
theorem s_bsearch {l : List Int} {x : Int} {ca100 : C} {m f : M} {Q : V → M → Prop} {rz : Int × Bool} (hS : Pre f m) (ha100 : Sl f ca100 l) (hp : pbsearch l x = some rz) (hq : ∀ m', Ext m m' → Q (.tup [.c (Il rz.1), .c (.bool rz.2)]) m') : Wc prog tbl 116 [.c ca100, .c (Il x)] m Q := by
 have S0 := hS.st
 obtain ⟨τ0, _⟩ : ∃ τ : Nat → Nat, True := ⟨fun _ => 0, trivial⟩
 refine w116 ?_
 unfold pbsearch at hp
 refine ⟨ha100.isSl, ?_⟩
 intro R0 ga
 try rw [ha100.slLen]
 have hgo : ∀ (d : Nat) (u : Int) (w : Int) (z : M) (b : Nat → Nat), St (Fm.of m) f f z → pbsearch_L0 l x d u w = some rz → R0 [.c (Il u), .c (Il w)] z := by
  intro d
  induction d with
  | zero => intro u w z b a hp; cases hp
  | succ d q =>
   intro u w z b a hp
   refine ga _ _ _ ?_
   rw [pbsearch_L0] at hp
   refine ifd hp (fun A hp => ?_) fun A hp => ?_
   ·refine gdi hp fun B hp => ?_
    refine gdi hp fun D hp => ?_
    refine gdi hp fun F hp => ?_
    refine gdi hp fun G hp => ?_
    refine gdi hp fun I hp => ?_
    obtain ⟨J, e, hp⟩ := bsome hp
    obtain ⟨n4, r, j, e⟩ := idx_some e
    refine ⟨n4, r, (by first | exact j | (rw [ha100.slLen]; exact j)), _, (ha100.rdI e a.sub), ?_⟩
    obtain ⟨ia, N, hp⟩ := bsome hp
    refine s_less (x := J) (y := x) a.pre  N fun m7 O => ?_
    obtain ⟨p, ja⟩ := a.call O b
    refine ⟨_, rfl, ?_⟩
    refine ifbb hp (fun P hp => ?_) fun P hp => ?_; rotate_left
    ·exact q _ _ _ b p hp
    refine gdi hp fun S hp => ?_
    exact q _ _ _ b p hp
   try rw [ha100.slLen]
   refine ifd hp (fun T hp => ?_) fun T hp => ?_; rotate_left
   ·obtain rfl := Option.some.inj hp
    exact hq _ a.ext'
   obtain ⟨ka, g, hp⟩ := bsome hp
   obtain ⟨n9, s, n, g⟩ := idx_some g
   refine ⟨n9, s, (by first | exact n | (rw [ha100.slLen]; exact n)), _, (ha100.rdI g a.sub), ?_⟩
   refine ifd hp (fun Y hp => ?_) fun Y hp => ?_
   ·obtain rfl := Option.some.inj hp
    exact hq _ a.ext'
   obtain ⟨Z, h, hp⟩ := bsome hp
   obtain ⟨ha, t, o, h⟩ := idx_some h
   refine ⟨ha, t, (by first | exact o | (rw [ha100.slLen]; exact o)), _, (ha100.rdI h a.sub), ?_⟩
   obtain ⟨la, aa, hp⟩ := bsome hp
   refine s_sNaN (x := Z) a.pre  aa fun va ba => ?_
   obtain ⟨i, ma⟩ := a.call ba b
   refine ⟨_, rfl, ?_⟩
   refine ifbb hp (fun ca hp => ?_) fun ca hp => ?_; rotate_left
   ·obtain rfl := Option.some.inj hp
    exact hq _ i.ext'
   obtain ⟨na, da, hp⟩ := bsome hp
   refine s_sNaN (x := x) i.pre  da fun wa ea => ?_
   obtain ⟨fa, oa⟩ := i.call ea b
   refine ⟨_, rfl, ?_⟩
   obtain rfl := Option.some.inj hp
   exact hq _ fa.ext'
 exact hgo _ _ _ _ τ0 S0 hp
theorem s_last {days : List Int} {day : Int} {ca100 : C} {m f : M} {Q : V → M → Prop} {rz : Int} (hS : Pre f m) (ha100 : Sl f ca100 days) (hp : plast days day = some rz) (hq : ∀ m', Ext m m' → Q (.c (Il rz)) m') : Wc prog tbl 98 [.c ca100, .c (Il day)] m Q := by
 have h := hS.st
 obtain ⟨n, _⟩ : ∃ τ : Nat → Nat, True := ⟨fun _ => 0, trivial⟩
 refine w98 ?_
 unfold plast at hp
 refine gdi hp fun a hp => ?_
 obtain ⟨i, b, hp⟩ := bsome hp
 refine s_bsearch (l := days) (x := (day + 1)) h.pre ha100 b fun o d => ?_
 obtain ⟨e, j⟩ := h.call d n
 refine ⟨_, _, rfl, ?_⟩
 refine gdi hp fun g hp => ?_
 obtain rfl := Option.some.inj hp
 exact hq _ e.ext'
theorem s_tfOf {l : List Tf} {day : Int} {ca100 : C} {m f : M} {Q : V → M → Prop} {rz : Tf} (hS : Pre f m) (ha100 : Sl f ca100 l) (hp : ptfOf l day = some rz) (hq : ∀ m' f' c3 c4 c5, Grw m f m' f' → Sl f' c3 rz.Weeks → Sl f' c4 rz.Counts → Sl f' c5 rz.Rates → Q (.agg 6 [(Il rz.From), (.bool rz.Whole), (Il rz.Least), c3, c4, c5]) m') : Wc prog tbl 79 [.c ca100, .c (Il day)] m Q := by
 have S0 := hS.st
 obtain ⟨τ0, _⟩ : ∃ τ : Nat → Nat, True := ⟨fun _ => 0, trivial⟩
 refine w79 ?_
 unfold ptfOf at hp
 intro m0 r
 obtain ⟨g, h, Y, s⟩ := S0.blk r τ0 1
 obtain ⟨t, u, hp⟩ := bsome hp
 refine s_froms (l := l) h.pre ha100 u fun m2 w Z x y => ?_
 obtain ⟨i, a⟩ := h.callG x g
 have z := s.k a
 refine ⟨_, rfl, ?_⟩
 obtain ⟨aa, A, hp⟩ := bsome hp
 refine s_last (days := t) (day := day) i.pre y A fun m5 B => ?_
 obtain ⟨j, D⟩ := i.call B g
 have F := z.k D
 refine ⟨_, rfl, ?_⟩
 obtain ⟨b, d, hp⟩ := bsome hp
 obtain ⟨n7, q, e, d⟩ := idx_some d
 obtain ⟨n, o, p, G, I, J, N⟩ := rd_Tf ha100 d
 refine ⟨n7, q, (by first | exact e | (rw [ha100.slLen]; exact e)), _, _, _, _, _, _, (G _ (Sub.trans a.fs j.sub)).1, ?_⟩
 obtain ⟨O, P, S, ba, T⟩ := F.sto j [(Il b.From), (.bool b.Whole), (Il b.Least), n, o, p]
 refine ⟨O, P, ?_⟩
 refine ⟨_, _, _, _, _, _, T.bk.ra, ?_⟩
 obtain rfl := Option.some.inj hp
 exact hq _ w n o p S.grw (I.sub a.fs) (J.sub a.fs) (N.sub a.fs)
theorem s_whole {t : Tf} {loss : Int} {ca103 ca104 ca105 : C} {m f : M} {Q : V → M → Prop} {rz : Int} (hS : Pre f m) (ha103 : Sl f ca103 t.Weeks) (ha104 : Sl f ca104 t.Counts) (ha105 : Sl f ca105 t.Rates) (hp : pwhole t loss = some rz) (hq : ∀ m', Ext m m' → Q (.c (Il rz)) m') : Wc prog tbl 117 [.agg 6 [(Il t.From), (.bool t.Whole), (Il t.Least), ca103, ca104, ca105], .c (Il loss)] m Q := by
 have h := hS.st
 obtain ⟨i, _⟩ : ∃ τ : Nat → Nat, True := ⟨fun _ => 0, trivial⟩
 refine w117 ?_
 unfold pwhole at hp
 intro j a
 obtain ⟨d, b, e, g⟩ := h.blk a i 1
 obtain rfl := Option.some.inj hp
 exact hq _ b.ext'
theorem s_aboveLeast {t : Tf} {loss : Int} {ca103 ca104 ca105 : C} {m f : M} {Q : V → M → Prop} {rz : Int} (hS : Pre f m) (ha103 : Sl f ca103 t.Weeks) (ha104 : Sl f ca104 t.Counts) (ha105 : Sl f ca105 t.Rates) (hp : paboveLeast t loss = some rz) (hq : ∀ m', Ext m m' → Q (.c (Il rz)) m') : Wc prog tbl 118 [.agg 6 [(Il t.From), (.bool t.Whole), (Il t.Least), ca103, ca104, ca105], .c (Il loss)] m Q := by
 have i := hS.st
 obtain ⟨j, _⟩ : ∃ τ : Nat → Nat, True := ⟨fun _ => 0, trivial⟩
 refine w118 ?_
 unfold paboveLeast at hp
 intro l a
 obtain ⟨g, b, h, d⟩ := i.blk a j 1
 refine ⟨trivial, _, d.bk.rc rfl, ?_⟩
 refine gdi hp fun e hp => ?_
 obtain rfl := Option.some.inj hp
 exact hq _ b.ext'
theorem s_loss {t : Tf} {h : Ht} {ca103 ca104 ca105 : C} {m f : M} {Q : V → M → Prop} {rz : Int} (hS : Pre f m) (ha103 : Sl f ca103 t.Weeks) (ha104 : Sl f ca104 t.Counts) (ha105 : Sl f ca105 t.Rates) (hp : ploss t h = some rz) (hq : ∀ m', Ext m m' → Q (.c (Il rz)) m') : Wc prog tbl 99 [.agg 6 [(Il t.From), (.bool t.Whole), (Il t.Least), ca103, ca104, ca105], .agg 3 [(Il h.Day), (Il h.Count), (Il h.crop)]] m Q := by
 have S0 := hS.st
 obtain ⟨τ0, _⟩ : ∃ τ : Nat → Nat, True := ⟨fun _ => 0, trivial⟩
 refine w99 ?_
 unfold ploss at hp
 intro m0 fa
 obtain ⟨ga, ha, Na, ia⟩ := S0.blk fa τ0 1
 intro m1 ja
 obtain ⟨J, e, ka, g⟩ := ha.blk ja ga 2
 have i := ia.k ka
 refine ⟨trivial, _, i.bk.rc rfl, trivial, _, g.bk.rc rfl, ?_⟩
 obtain ⟨Oa, j, hp⟩ := bsome hp
 obtain ⟨n4, Y, z, j⟩ := idx_some j
 obtain ⟨Pa, N, n⟩ := ha105.rdS j
 refine ⟨n4, Y, (by first | exact z | (rw [ha105.slLen]; exact z)), _, (N _ e.sub), trivial, _, i.bk.rc rfl, trivial, trivial, _, g.bk.rc rfl, ?_⟩
 obtain ⟨Qa, la, hp⟩ := bsome hp
 refine s_last (days := t.Weeks) (day := h.Day) e.pre ha103 la fun m9 ma => ?_
 obtain ⟨d, O⟩ := e.call ma J
 have o := i.k O
 have p := g.k O
 refine ⟨_, rfl, (by rw [show noFnC _ = true from n.noFn]; exact (N _ d.sub)), (p.bk.rc rfl), (by rw [show noFnC _ = true from ha105.noFn]; exact (o.bk.rc rfl)), ?_⟩
 obtain ⟨Ra, q, hp⟩ := bsome hp
 obtain ⟨Ha, Z, A, q⟩ := idx_some q
 obtain ⟨Sa, na, b⟩ := n.rdS q
 refine ⟨Ha, Z, (by first | exact A | (rw [n.slLen]; exact A)), _, (na _ d.sub), trivial, _, o.bk.rc rfl, trivial, trivial, _, p.bk.rc rfl, ?_⟩
 obtain ⟨Ta, oa, hp⟩ := bsome hp
 refine s_bsearch (l := t.Counts) (x := h.Count) d.pre ha104 oa fun cb pa => ?_
 obtain ⟨a, P⟩ := d.call pa J
 have S := o.k P
 have T := p.k P
 refine ⟨_, _, rfl, ?_⟩
 refine ifbb hp (fun qa hp => ?_) fun qa hp => ?_
 ·obtain ⟨Ua, r, hp⟩ := bsome hp
  obtain ⟨Ia, aa, B, r⟩ := idx_some r
  refine ⟨Ia, aa, (by first | exact B | (rw [b.slLen]; exact B)), _, (b.rdI r a.sub), ?_⟩
  obtain rfl := Option.some.inj hp
  exact hq _ a.ext'
 refine ⟨trivial, _, S.bk.rc rfl, ?_⟩
 refine gdi hp fun sa hp => ?_
 obtain ⟨Va, s, hp⟩ := bsome hp
 obtain ⟨Ja, ba, D, s⟩ := idx_some s
 refine ⟨Ja, ba, (by first | exact D | (rw [ha104.slLen]; exact D)), _, (ha104.rdI s a.sub), trivial, _, S.bk.rc rfl, ?_⟩
 obtain ⟨Wa, u, hp⟩ := bsome hp
 obtain ⟨Ka, ca, F, u⟩ := idx_some u
 refine ⟨Ka, ca, (by first | exact F | (rw [ha104.slLen]; exact F)), _, (ha104.rdI u a.sub), ?_⟩
 refine gdi hp fun ta hp => ?_
 obtain ⟨Xa, w, hp⟩ := bsome hp
 obtain ⟨La, da, G, w⟩ := idx_some w
 refine ⟨La, da, (by first | exact G | (rw [b.slLen]; exact G)), _, (b.rdI w a.sub), trivial, trivial, _, T.bk.rc rfl, ?_⟩
 refine gdi hp fun ua hp => ?_
 refine gdi hp fun va hp => ?_
 refine gdi hp fun wa hp => ?_
 refine gdi hp fun xa hp => ?_
 obtain ⟨Ya, y, hp⟩ := bsome hp
 obtain ⟨Ma, ea, I, y⟩ := idx_some y
 refine ⟨Ma, ea, (by first | exact I | (rw [b.slLen]; exact I)), _, (b.rdI y a.sub), trivial, trivial, _, T.bk.rc rfl, ?_⟩
 refine gdi hp fun ya hp => ?_
 refine gdi hp fun za hp => ?_
 refine gdi hp fun Aa hp => ?_
 refine gdi hp fun Ba hp => ?_
 refine gdi hp fun Ca hp => ?_
 refine gdi hp fun Da hp => ?_
 refine gdi hp fun Ea hp => ?_
 refine gdi hp fun Fa hp => ?_
 refine gdi hp fun Ga hp => ?_
 obtain rfl := Option.some.inj hp
 exact hq _ a.ext'
theorem s_minimum {l : List Int} {ca100 : C} {m f : M} {Q : V → M → Prop} {rz : Int} (hS : Pre f m) (ha100 : Sl f ca100 l) (hp : pminimum l = some rz) (hq : ∀ m', Ext m m' → Q (.c (Il rz)) m') : Wc prog tbl 91 [.c ca100] m Q := by
 have y := hS.st
 obtain ⟨D, _⟩ : ∃ τ : Nat → Nat, True := ⟨fun _ => 0, trivial⟩
 refine w91 ?_
 unfold pminimum at hp
 refine ⟨ha100.isSl, ?_⟩
 try rw [ha100.slLen]
 refine ifd hp (fun p hp => ?_) fun p hp => ?_
 ·obtain rfl := Option.some.inj hp
  exact hq _ y.ext'
 obtain ⟨A, e, hp⟩ := bsome hp
 obtain ⟨F, j, h, e⟩ := idx_some e
 refine ⟨F, j, (by first | exact h | (rw [ha100.slLen]; exact h)), _, (ha100.rdI e y.sub), ha100.isSl, ?_⟩
 intro G z
 have hgo : ∀ (b : Nat) (q : Int) (r : Int) (s : M) (d : Nat → Nat), St (Fm.of m) f f s → pminimum_L0 l b q r = some rz → G [.c (Il q), .c (Il r)] s := by
  intro b
  induction b with
  | zero => intro q r s d a hp; cases hp
  | succ b n =>
   intro q r s d a hp
   refine z _ _ _ ?_
   rw [pminimum_L0] at hp
   try rw [ha100.slLen]
   refine ifd hp (fun t hp => ?_) fun t hp => ?_; rotate_left
   ·obtain rfl := Option.some.inj hp
    exact hq _ a.ext'
   obtain ⟨B, g, hp⟩ := bsome hp
   obtain ⟨I, o, i, g⟩ := idx_some g
   refine ⟨I, o, (by first | exact i | (rw [ha100.slLen]; exact i)), _, (ha100.rdI g a.sub), ?_⟩
   refine ifd hp (fun u hp => ?_) fun u hp => ?_
   ·refine gdi hp fun w hp => ?_
    exact n _ _ _ d a hp
   refine gdi hp fun x hp => ?_
   exact n _ _ _ d a hp
 exact hgo _ _ _ _ D y hp
theorem s_sMax {l : List Int} {ca100 : C} {m f : M} {Q : V → M → Prop} {rz : Int} (hS : Pre f m) (ha100 : Sl f ca100 l) (hp : psMax l = some rz) (hq : ∀ m', Ext m m' → Q (.c (Il rz)) m') : Wc prog tbl 92 [.c ca100] m Q := by
 have w := hS.st
 obtain ⟨A, _⟩ : ∃ τ : Nat → Nat, True := ⟨fun _ => 0, trivial⟩
 refine w92 ?_
 unfold psMax at hp
 refine ⟨ha100.isSl, ?_⟩
 try rw [ha100.slLen]
 refine ifd hp (fun o hp => ?_) fun o hp => ?_
 ·cases hp
 obtain ⟨y, d, hp⟩ := bsome hp
 obtain ⟨B, j, h, d⟩ := idx_some d
 refine ⟨B, j, (by first | exact h | (rw [ha100.slLen]; exact h)), _, (ha100.rdI d w.sub), ?_⟩
 intro D x
 have hgo : ∀ (a : Nat) (p : Int) (q : Int) (r : M) (e : Nat → Nat), St (Fm.of m) f f r → psMax_L0 l a p q = some rz → D [.c (Il p), .c (Il q)] r := by
  intro a
  induction a with
  | zero => intro p q r e b hp; cases hp
  | succ a u =>
   intro p q r e b hp
   refine x _ _ _ ?_
   rw [psMax_L0] at hp
   refine ⟨ha100.isSl, ?_⟩
   try rw [ha100.slLen]
   refine ifd hp (fun s hp => ?_) fun s hp => ?_; rotate_left
   ·obtain rfl := Option.some.inj hp
    exact hq _ b.ext'
   obtain ⟨z, g, hp⟩ := bsome hp
   obtain ⟨F, n, i, g⟩ := idx_some g
   refine ⟨F, n, (by first | exact i | (rw [ha100.slLen]; exact i)), _, (ha100.rdI g b.sub), ?_⟩
   refine gdi hp fun t hp => ?_
   exact u _ _ _ e b hp
 exact hgo _ _ _ _ A w hp
theorem s_eachTf1 {x : Tf} {passes : Tf → Option (Bool)} {b0 : Nat} {ca103 ca104 ca105 cb000 : C} {m f : M} {Q : V → M → Prop} {rz : Bool} (hS : Pre f m) (ha103 : Sl f ca103 x.Weeks) (ha104 : Sl f ca104 x.Counts) (ha105 : Sl f ca105 x.Rates) (hb0 : Bk f b0 1 [cb000]) (hb000 : Fv_Tf_Bool f cb000 passes) (hp : peachTf1 x passes = some rz) (hq : ∀ m', Ext m m' → Q (.c (.bool rz)) m') : Wc prog tbl 104 [.agg 6 [(Il x.From), (.bool x.Whole), (Il x.Least), ca103, ca104, ca105], .c (.ptr b0 0)] m Q := by
 have o := hS.st
 obtain ⟨p, _⟩ : ∃ τ : Nat → Nat, True := ⟨fun _ => 0, trivial⟩
 refine c104 ?_
 unfold peachTf1 at hp
 intro q b
 obtain ⟨d, a, j, e⟩ := o.blk b p 1
 refine ⟨_, (hb0.sub a.sub).rc rfl, _, _, _, _, _, _, e.bk.ra, ?_⟩
 obtain ⟨l, g, hp⟩ := bsome hp
 refine hb000 _ _ _ _ _ _ _ _ (Sub.refl _) a.pre ha103 ha104 ha105 g fun r h => ?_
 obtain ⟨i, n⟩ := a.call h d
 refine ⟨_, rfl, ?_⟩
 obtain rfl := Option.some.inj hp
 exact hq _ i.ext'
theorem s_indexTf {l : List Tf} {p : Tf → Option (Bool)} {ca100 ca200 : C} {m f : M} {Q : V → M → Prop} {rz : Int} (hS : Pre f m) (ha100 : Sl f ca100 l) (ha200 : Fv_Tf_Bool f ca200 p) (hp : pindexTf l p = some rz) (hq : ∀ m', Ext m m' → Q (.c (Il rz)) m') : Wc prog tbl 119 [.c ca100, .c ca200] m Q := by
 have O := hS.st
 obtain ⟨P, _⟩ : ∃ τ : Nat → Nat, True := ⟨fun _ => 0, trivial⟩
 refine w119 ?_
 unfold pindexTf at hp
 refine ⟨ha100.isSl, ?_⟩
 intro S B
 have hgo : ∀ (b : Nat) (z : Int) (j : Int) (n : M) (d : Nat → Nat), St (Fm.of m) f f n → pindexTf_L0 l p b j = some rz → S [.c (Il z), .c (Il j)] n := by
  intro b
  induction b with
  | zero => intro z j n d a hp; cases hp
  | succ b A =>
   intro z j n d a hp
   refine B _ _ _ ?_
   rw [pindexTf_L0] at hp
   try rw [ha100.slLen]
   refine ifd hp (fun o hp => ?_) fun o hp => ?_; rotate_left
   ·obtain rfl := Option.some.inj hp
    exact hq _ a.ext'
   obtain ⟨D, e, hp⟩ := bsome hp
   obtain ⟨T, i, g, e⟩ := idx_some e
   obtain ⟨F, G, I, q, r, s, t⟩ := rd_Tf ha100 e
   refine ⟨T, i, (by first | exact g | (rw [ha100.slLen]; exact g)), _, _, _, _, _, _, (q _ a.sub).1, ?_⟩
   obtain ⟨J, u, hp⟩ := bsome hp
   refine ha200 _ _ _ _ _ _ _ _ (Sub.refl _) a.pre r s t u fun Y w => ?_
   obtain ⟨h, N⟩ := a.call w d
   refine ⟨_, rfl, ?_⟩
   refine ifbb hp (fun x hp => ?_) fun x hp => ?_
   ·obtain rfl := Option.some.inj hp
    exact hq _ h.ext'
   refine gdi hp fun y hp => ?_
   exact A _ _ _ d h hp
 exact hgo _ _ _ _ P O hp
theorem s_containsTf {l : List Tf} {p : Tf → Option (Bool)} {ca100 ca200 : C} {m f : M} {Q : V → M → Prop} {rz : Bool} (hS : Pre f m) (ha100 : Sl f ca100 l) (ha200 : Fv_Tf_Bool f ca200 p) (hp : pcontainsTf l p = some rz) (hq : ∀ m', Ext m m' → Q (.c (.bool rz)) m') : Wc prog tbl 103 [.c ca100, .c ca200] m Q := by
 have e := hS.st
 obtain ⟨i, _⟩ : ∃ τ : Nat → Nat, True := ⟨fun _ => 0, trivial⟩
 refine w103 ?_
 unfold pcontainsTf at hp
 obtain ⟨g, a, hp⟩ := bsome hp
 refine s_indexTf (l := l) (p := p) e.pre ha100 ha200 a fun j b => ?_
 obtain ⟨d, h⟩ := e.call b i
 refine ⟨_, rfl, ?_⟩
 obtain rfl := Option.some.inj hp
 exact hq _ d.ext'
theorem s_eachTf {l : List Tf} {passes : Tf → Option (Bool)} {ca100 ca200 : C} {m f : M} {Q : V → M → Prop} {rz : Bool} (hS : Pre f m) (ha100 : Sl f ca100 l) (ha200 : Fv_Tf_Bool f ca200 passes) (hp : peachTf l passes = some rz) (hq : ∀ m', Ext m m' → Q (.c (.bool rz)) m') : Wc prog tbl 84 [.c ca100, .c ca200] m Q := by
 have G := hS.st
 obtain ⟨I, _⟩ : ∃ τ : Nat → Nat, True := ⟨fun _ => 0, trivial⟩
 refine w84 ?_
 unfold peachTf at hp
 intro J h
 obtain ⟨i, j, y, n⟩ := G.blk h I 1
 obtain ⟨o, b, d, e⟩ := n.freeze j
 have g : Fv_Tf_Bool o ((C.fn (Fn.func 104) [] [(W.c (C0.ptr m.nxt 0))])) (fun a => peachTf1 a passes) := by
  intro f' m' a z A B r Q hs hpre q s t hg hq
  exact s_eachTf1 hpre q s t (e.sub hs) ((ha200.sub d.fs).sub hs) hg hq
 obtain ⟨D, u, hp⟩ := bsome hp
 refine s_containsTf (l := l) (p := (fun a => peachTf1 a passes)) b.pre (ha100.sub d.fs) g u fun N w => ?_
 obtain ⟨x, F⟩ := b.call w i
 refine ⟨_, rfl, ?_⟩
 obtain rfl := Option.some.inj hp
 exact hq _ x.ext'
theorem s_indexTfs {l : List Tf} {p : Tf → Option (Bool)} {ca100 ca200 : C} {m f : M} {Q : V → M → Prop} {rz : Int} (hS : Pre f m) (ha100 : Sl f ca100 l) (ha200 : Fv_Tf_Bool f ca200 p) (hp : pindexTfs l p = some rz) (hq : ∀ m', Ext m m' → Q (.c (Il rz)) m') : Wc prog tbl 102 [.c ca100, .c ca200] m Q := by
 have O := hS.st
 obtain ⟨P, _⟩ : ∃ τ : Nat → Nat, True := ⟨fun _ => 0, trivial⟩
 refine w102 ?_
 unfold pindexTfs at hp
 refine ⟨ha100.isSl, ?_⟩
 intro S B
 have hgo : ∀ (b : Nat) (z : Int) (j : Int) (n : M) (d : Nat → Nat), St (Fm.of m) f f n → pindexTfs_L0 l p b j = some rz → S [.c (Il z), .c (Il j)] n := by
  intro b
  induction b with
  | zero => intro z j n d a hp; cases hp
  | succ b A =>
   intro z j n d a hp
   refine B _ _ _ ?_
   rw [pindexTfs_L0] at hp
   try rw [ha100.slLen]
   refine ifd hp (fun o hp => ?_) fun o hp => ?_; rotate_left
   ·obtain rfl := Option.some.inj hp
    exact hq _ a.ext'
   obtain ⟨D, e, hp⟩ := bsome hp
   obtain ⟨T, i, g, e⟩ := idx_some e
   obtain ⟨F, G, I, q, r, s, t⟩ := rd_Tf ha100 e
   refine ⟨T, i, (by first | exact g | (rw [ha100.slLen]; exact g)), _, _, _, _, _, _, (q _ a.sub).1, ?_⟩
   obtain ⟨J, u, hp⟩ := bsome hp
   refine ha200 _ _ _ _ _ _ _ _ (Sub.refl _) a.pre r s t u fun Y w => ?_
   obtain ⟨h, N⟩ := a.call w d
   refine ⟨_, rfl, ?_⟩
   refine ifbb hp (fun x hp => ?_) fun x hp => ?_
   ·obtain rfl := Option.some.inj hp
    exact hq _ h.ext'
   refine gdi hp fun y hp => ?_
   exact A _ _ _ d h hp
 exact hgo _ _ _ _ P O hp
theorem s_containsTfs {l : List Tf} {p : Tf → Option (Bool)} {ca100 ca200 : C} {m f : M} {Q : V → M → Prop} {rz : Bool} (hS : Pre f m) (ha100 : Sl f ca100 l) (ha200 : Fv_Tf_Bool f ca200 p) (hp : pcontainsTfs l p = some rz) (hq : ∀ m', Ext m m' → Q (.c (.bool rz)) m') : Wc prog tbl 82 [.c ca100, .c ca200] m Q := by
 have e := hS.st
 obtain ⟨i, _⟩ : ∃ τ : Nat → Nat, True := ⟨fun _ => 0, trivial⟩
 refine w82 ?_
 unfold pcontainsTfs at hp
 obtain ⟨g, a, hp⟩ := bsome hp
 refine s_indexTfs (l := l) (p := p) e.pre ha100 ha200 a fun j b => ?_
 obtain ⟨d, h⟩ := e.call b i
 refine ⟨_, rfl, ?_⟩
 obtain rfl := Option.some.inj hp
 exact hq _ d.ext'
theorem s_eachCl1 {x : Clm} {passes : Clm → Option (Bool)} {b0 : Nat} {cb000 : C} {m f : M} {Q : V → M → Prop} {rz : Bool} (hS : Pre f m) (hb0 : Bk f b0 1 [cb000]) (hb000 : Fv_Clm_Bool f cb000 passes) (hp : peachCl1 x passes = some rz) (hq : ∀ m', Ext m m' → Q (.c (.bool rz)) m') : Wc prog tbl 110 [.agg 6 [(Il x.Crop), (Il x.Value), (Il x.Day.Lo), (Il x.Day.Hi), (Il x.Count.Lo), (Il x.Count.Hi)], .c (.ptr b0 0)] m Q := by
 have o := hS.st
 obtain ⟨p, _⟩ : ∃ τ : Nat → Nat, True := ⟨fun _ => 0, trivial⟩
 refine c110 ?_
 unfold peachCl1 at hp
 intro q b
 obtain ⟨d, a, j, e⟩ := o.blk b p 1
 refine ⟨_, (hb0.sub a.sub).rc rfl, _, _, _, _, _, _, e.bk.ra, ?_⟩
 obtain ⟨l, g, hp⟩ := bsome hp
 refine hb000 _ _ _ _ _ (Sub.refl _) a.pre  g fun r h => ?_
 obtain ⟨i, n⟩ := a.call h d
 refine ⟨_, rfl, ?_⟩
 obtain rfl := Option.some.inj hp
 exact hq _ i.ext'
theorem s_indexCl {l : List Clm} {p : Clm → Option (Bool)} {ca100 ca200 : C} {m f : M} {Q : V → M → Prop} {rz : Int} (hS : Pre f m) (ha100 : Sl f ca100 l) (ha200 : Fv_Clm_Bool f ca200 p) (hp : pindexCl l p = some rz) (hq : ∀ m', Ext m m' → Q (.c (Il rz)) m') : Wc prog tbl 126 [.c ca100, .c ca200] m Q := by
 have D := hS.st
 obtain ⟨F, _⟩ : ∃ τ : Nat → Nat, True := ⟨fun _ => 0, trivial⟩
 refine w126 ?_
 unfold pindexCl at hp
 refine ⟨ha100.isSl, ?_⟩
 intro G y
 have hgo : ∀ (b : Nat) (w : Int) (j : Int) (n : M) (d : Nat → Nat), St (Fm.of m) f f n → pindexCl_L0 l p b j = some rz → G [.c (Il w), .c (Il j)] n := by
  intro b
  induction b with
  | zero => intro w j n d a hp; cases hp
  | succ b x =>
   intro w j n d a hp
   refine y _ _ _ ?_
   rw [pindexCl_L0] at hp
   try rw [ha100.slLen]
   refine ifd hp (fun o hp => ?_) fun o hp => ?_; rotate_left
   ·obtain rfl := Option.some.inj hp
    exact hq _ a.ext'
   obtain ⟨z, e, hp⟩ := bsome hp
   obtain ⟨I, i, g, e⟩ := idx_some e
   obtain ⟨_, q⟩ := rd_Clm ha100 e
   refine ⟨I, i, (by first | exact g | (rw [ha100.slLen]; exact g)), _, _, _, _, _, _, (q _ a.sub).1, ?_⟩
   obtain ⟨A, r, hp⟩ := bsome hp
   refine ha200 _ _ _ _ _ (Sub.refl _) a.pre  r fun J s => ?_
   obtain ⟨h, B⟩ := a.call s d
   refine ⟨_, rfl, ?_⟩
   refine ifbb hp (fun t hp => ?_) fun t hp => ?_
   ·obtain rfl := Option.some.inj hp
    exact hq _ h.ext'
   refine gdi hp fun u hp => ?_
   exact x _ _ _ d h hp
 exact hgo _ _ _ _ F D hp
theorem s_containsCl {l : List Clm} {p : Clm → Option (Bool)} {ca100 ca200 : C} {m f : M} {Q : V → M → Prop} {rz : Bool} (hS : Pre f m) (ha100 : Sl f ca100 l) (ha200 : Fv_Clm_Bool f ca200 p) (hp : pcontainsCl l p = some rz) (hq : ∀ m', Ext m m' → Q (.c (.bool rz)) m') : Wc prog tbl 109 [.c ca100, .c ca200] m Q := by
 have e := hS.st
 obtain ⟨i, _⟩ : ∃ τ : Nat → Nat, True := ⟨fun _ => 0, trivial⟩
 refine w109 ?_
 unfold pcontainsCl at hp
 obtain ⟨g, a, hp⟩ := bsome hp
 refine s_indexCl (l := l) (p := p) e.pre ha100 ha200 a fun j b => ?_
 obtain ⟨d, h⟩ := e.call b i
 refine ⟨_, rfl, ?_⟩
 obtain rfl := Option.some.inj hp
 exact hq _ d.ext'
theorem s_eachCl {l : List Clm} {passes : Clm → Option (Bool)} {ca100 ca200 : C} {m f : M} {Q : V → M → Prop} {rz : Bool} (hS : Pre f m) (ha100 : Sl f ca100 l) (ha200 : Fv_Clm_Bool f ca200 passes) (hp : peachCl l passes = some rz) (hq : ∀ m', Ext m m' → Q (.c (.bool rz)) m') : Wc prog tbl 89 [.c ca100, .c ca200] m Q := by
 have y := hS.st
 obtain ⟨z, _⟩ : ∃ τ : Nat → Nat, True := ⟨fun _ => 0, trivial⟩
 refine w89 ?_
 unfold peachCl at hp
 intro A h
 obtain ⟨i, j, u, n⟩ := y.blk h z 1
 obtain ⟨o, b, d, e⟩ := n.freeze j
 have g : Fv_Clm_Bool o ((C.fn (Fn.func 110) [] [(W.c (C0.ptr m.nxt 0))])) (fun a => peachCl1 a passes) := by
  intro f' m' a r Q hs hpre  hg hq
  exact s_eachCl1 hpre (e.sub hs) ((ha200.sub d.fs).sub hs) hg hq
 obtain ⟨w, q, hp⟩ := bsome hp
 refine s_containsCl (l := l) (p := (fun a => peachCl1 a passes)) b.pre (ha100.sub d.fs) g q fun B s => ?_
 obtain ⟨t, x⟩ := b.call s i
 refine ⟨_, rfl, ?_⟩
 obtain rfl := Option.some.inj hp
 exact hq _ t.ext'
theorem s_eachI1 {x : Int} {passes : Int → Option (Bool)} {b0 : Nat} {cb000 : C} {m f : M} {Q : V → M → Prop} {rz : Bool} (hS : Pre f m) (hb0 : Bk f b0 1 [cb000]) (hb000 : Fv_Int_Bool f cb000 passes) (hp : peachI1 x passes = some rz) (hq : ∀ m', Ext m m' → Q (.c (.bool rz)) m') : Wc prog tbl 121 [.c (Il x), .c (.ptr b0 0)] m Q := by
 have e := hS.st
 obtain ⟨i, _⟩ : ∃ τ : Nat → Nat, True := ⟨fun _ => 0, trivial⟩
 refine c121 ?_
 unfold peachI1 at hp
 refine ⟨_, (hb0.sub e.sub).rc rfl, ?_⟩
 obtain ⟨g, a, hp⟩ := bsome hp
 refine hb000 _ _ _ _ _ (Sub.refl _) e.pre  a fun j b => ?_
 obtain ⟨d, h⟩ := e.call b i
 refine ⟨_, rfl, ?_⟩
 obtain rfl := Option.some.inj hp
 exact hq _ d.ext'
theorem s_indexI {l : List Int} {p : Int → Option (Bool)} {ca100 ca200 : C} {m f : M} {Q : V → M → Prop} {rz : Int} (hS : Pre f m) (ha100 : Sl f ca100 l) (ha200 : Fv_Int_Bool f ca200 p) (hp : pindexI l p = some rz) (hq : ∀ m', Ext m m' → Q (.c (Il rz)) m') : Wc prog tbl 131 [.c ca100, .c ca200] m Q := by
 have B := hS.st
 obtain ⟨D, _⟩ : ∃ τ : Nat → Nat, True := ⟨fun _ => 0, trivial⟩
 refine w131 ?_
 unfold pindexI at hp
 refine ⟨ha100.isSl, ?_⟩
 intro F x
 have hgo : ∀ (b : Nat) (u : Int) (j : Int) (n : M) (d : Nat → Nat), St (Fm.of m) f f n → pindexI_L0 l p b j = some rz → F [.c (Il u), .c (Il j)] n := by
  intro b
  induction b with
  | zero => intro u j n d a hp; cases hp
  | succ b w =>
   intro u j n d a hp
   refine x _ _ _ ?_
   rw [pindexI_L0] at hp
   try rw [ha100.slLen]
   refine ifd hp (fun o hp => ?_) fun o hp => ?_; rotate_left
   ·obtain rfl := Option.some.inj hp
    exact hq _ a.ext'
   obtain ⟨y, e, hp⟩ := bsome hp
   obtain ⟨G, i, g, e⟩ := idx_some e
   refine ⟨G, i, (by first | exact g | (rw [ha100.slLen]; exact g)), _, (ha100.rdI e a.sub), ?_⟩
   obtain ⟨z, q, hp⟩ := bsome hp
   refine ha200 _ _ _ _ _ (Sub.refl _) a.pre  q fun I r => ?_
   obtain ⟨h, A⟩ := a.call r d
   refine ⟨_, rfl, ?_⟩
   refine ifbb hp (fun s hp => ?_) fun s hp => ?_
   ·obtain rfl := Option.some.inj hp
    exact hq _ h.ext'
   refine gdi hp fun t hp => ?_
   exact w _ _ _ d h hp
 exact hgo _ _ _ _ D B hp
theorem s_containsI {l : List Int} {p : Int → Option (Bool)} {ca100 ca200 : C} {m f : M} {Q : V → M → Prop} {rz : Bool} (hS : Pre f m) (ha100 : Sl f ca100 l) (ha200 : Fv_Int_Bool f ca200 p) (hp : pcontainsI l p = some rz) (hq : ∀ m', Ext m m' → Q (.c (.bool rz)) m') : Wc prog tbl 120 [.c ca100, .c ca200] m Q := by
 have e := hS.st
 obtain ⟨i, _⟩ : ∃ τ : Nat → Nat, True := ⟨fun _ => 0, trivial⟩
 refine w120 ?_
 unfold pcontainsI at hp
 obtain ⟨g, a, hp⟩ := bsome hp
 refine s_indexI (l := l) (p := p) e.pre ha100 ha200 a fun j b => ?_
 obtain ⟨d, h⟩ := e.call b i
 refine ⟨_, rfl, ?_⟩
 obtain rfl := Option.some.inj hp
 exact hq _ d.ext'
theorem s_eachI {l : List Int} {passes : Int → Option (Bool)} {ca100 ca200 : C} {m f : M} {Q : V → M → Prop} {rz : Bool} (hS : Pre f m) (ha100 : Sl f ca100 l) (ha200 : Fv_Int_Bool f ca200 passes) (hp : peachI l passes = some rz) (hq : ∀ m', Ext m m' → Q (.c (.bool rz)) m') : Wc prog tbl 106 [.c ca100, .c ca200] m Q := by
 have y := hS.st
 obtain ⟨z, _⟩ : ∃ τ : Nat → Nat, True := ⟨fun _ => 0, trivial⟩
 refine w106 ?_
 unfold peachI at hp
 intro A h
 obtain ⟨i, j, u, n⟩ := y.blk h z 1
 obtain ⟨o, b, d, e⟩ := n.freeze j
 have g : Fv_Int_Bool o ((C.fn (Fn.func 121) [] [(W.c (C0.ptr m.nxt 0))])) (fun a => peachI1 a passes) := by
  intro f' m' a r Q hs hpre  hg hq
  exact s_eachI1 hpre (e.sub hs) ((ha200.sub d.fs).sub hs) hg hq
 obtain ⟨w, q, hp⟩ := bsome hp
 refine s_containsI (l := l) (p := (fun a => peachI1 a passes)) b.pre (ha100.sub d.fs) g q fun B s => ?_
 obtain ⟨t, x⟩ := b.call s i
 refine ⟨_, rfl, ?_⟩
 obtain rfl := Option.some.inj hp
 exact hq _ t.ext'
theorem s_eachL1 {x : List Int} {passes : List Int → Option (Bool)} {b0 : Nat} {ca100 cb000 : C} {m f : M} {Q : V → M → Prop} {rz : Bool} (hS : Pre f m) (ha100 : Sl f ca100 x) (hb0 : Bk f b0 1 [cb000]) (hb000 : Fv_LInt_Bool f cb000 passes) (hp : peachL1 x passes = some rz) (hq : ∀ m', Ext m m' → Q (.c (.bool rz)) m') : Wc prog tbl 134 [.c ca100, .c (.ptr b0 0)] m Q := by
 have e := hS.st
 obtain ⟨i, _⟩ : ∃ τ : Nat → Nat, True := ⟨fun _ => 0, trivial⟩
 refine c134 ?_
 unfold peachL1 at hp
 refine ⟨_, (hb0.sub e.sub).rc rfl, ?_⟩
 obtain ⟨g, a, hp⟩ := bsome hp
 refine hb000 _ _ _ _ _ _ (Sub.refl _) e.pre ha100 a fun j b => ?_
 obtain ⟨d, h⟩ := e.call b i
 refine ⟨_, rfl, ?_⟩
 obtain rfl := Option.some.inj hp
 exact hq _ d.ext'
theorem s_indexL {l : List (List Int)} {p : List Int → Option (Bool)} {ca100 ca200 : C} {m f : M} {Q : V → M → Prop} {rz : Int} (hS : Pre f m) (ha100 : Sl f ca100 l) (ha200 : Fv_LInt_Bool f ca200 p) (hp : pindexL l p = some rz) (hq : ∀ m', Ext m m' → Q (.c (Il rz)) m') : Wc prog tbl 135 [.c ca100, .c ca200] m Q := by
 have G := hS.st
 obtain ⟨I, _⟩ : ∃ τ : Nat → Nat, True := ⟨fun _ => 0, trivial⟩
 refine w135 ?_
 unfold pindexL at hp
 refine ⟨ha100.isSl, ?_⟩
 intro J z
 have hgo : ∀ (b : Nat) (x : Int) (j : Int) (n : M) (d : Nat → Nat), St (Fm.of m) f f n → pindexL_L0 l p b j = some rz → J [.c (Il x), .c (Il j)] n := by
  intro b
  induction b with
  | zero => intro x j n d a hp; cases hp
  | succ b y =>
   intro x j n d a hp
   refine z _ _ _ ?_
   rw [pindexL_L0] at hp
   try rw [ha100.slLen]
   refine ifd hp (fun o hp => ?_) fun o hp => ?_; rotate_left
   ·obtain rfl := Option.some.inj hp
    exact hq _ a.ext'
   obtain ⟨A, e, hp⟩ := bsome hp
   obtain ⟨N, i, g, e⟩ := idx_some e
   obtain ⟨B, q, r⟩ := ha100.rdS e
   refine ⟨N, i, (by first | exact g | (rw [ha100.slLen]; exact g)), _, (q _ a.sub), ?_⟩
   obtain ⟨D, s, hp⟩ := bsome hp
   refine ha200 _ _ _ _ _ _ (Sub.refl _) a.pre r s fun O t => ?_
   obtain ⟨h, F⟩ := a.call t d
   refine ⟨_, rfl, ?_⟩
   refine ifbb hp (fun u hp => ?_) fun u hp => ?_
   ·obtain rfl := Option.some.inj hp
    exact hq _ h.ext'
   refine gdi hp fun w hp => ?_
   exact y _ _ _ d h hp
 exact hgo _ _ _ _ I G hp
theorem s_containsL {l : List (List Int)} {p : List Int → Option (Bool)} {ca100 ca200 : C} {m f : M} {Q : V → M → Prop} {rz : Bool} (hS : Pre f m) (ha100 : Sl f ca100 l) (ha200 : Fv_LInt_Bool f ca200 p) (hp : pcontainsL l p = some rz) (hq : ∀ m', Ext m m' → Q (.c (.bool rz)) m') : Wc prog tbl 133 [.c ca100, .c ca200] m Q := by
 have e := hS.st
 obtain ⟨i, _⟩ : ∃ τ : Nat → Nat, True := ⟨fun _ => 0, trivial⟩
 refine w133 ?_
 unfold pcontainsL at hp
 obtain ⟨g, a, hp⟩ := bsome hp
 refine s_indexL (l := l) (p := p) e.pre ha100 ha200 a fun j b => ?_
 obtain ⟨d, h⟩ := e.call b i
 refine ⟨_, rfl, ?_⟩
 obtain rfl := Option.some.inj hp
 exact hq _ d.ext'
theorem s_eachL {l : List (List Int)} {passes : List Int → Option (Bool)} {ca100 ca200 : C} {m f : M} {Q : V → M → Prop} {rz : Bool} (hS : Pre f m) (ha100 : Sl f ca100 l) (ha200 : Fv_LInt_Bool f ca200 passes) (hp : peachL l passes = some rz) (hq : ∀ m', Ext m m' → Q (.c (.bool rz)) m') : Wc prog tbl 124 [.c ca100, .c ca200] m Q := by
 have A := hS.st
 obtain ⟨B, _⟩ : ∃ τ : Nat → Nat, True := ⟨fun _ => 0, trivial⟩
 refine w124 ?_
 unfold peachL at hp
 intro D h
 obtain ⟨i, j, w, n⟩ := A.blk h B 1
 obtain ⟨o, b, d, e⟩ := n.freeze j
 have g : Fv_LInt_Bool o ((C.fn (Fn.func 134) [] [(W.c (C0.ptr m.nxt 0))])) (fun a => peachL1 a passes) := by
  intro f' m' a x r Q hs hpre q hg hq
  exact s_eachL1 hpre q (e.sub hs) ((ha200.sub d.fs).sub hs) hg hq
 obtain ⟨y, s, hp⟩ := bsome hp
 refine s_containsL (l := l) (p := (fun a => peachL1 a passes)) b.pre (ha100.sub d.fs) g s fun F t => ?_
 obtain ⟨u, z⟩ := b.call t i
 refine ⟨_, rfl, ?_⟩
 obtain rfl := Option.some.inj hp
 exact hq _ u.ext'
theorem s_eachLL1 {x : List (List Int)} {passes : List (List Int) → Option (Bool)} {b0 : Nat} {ca100 cb000 : C} {m f : M} {Q : V → M → Prop} {rz : Bool} (hS : Pre f m) (ha100 : Sl f ca100 x) (hb0 : Bk f b0 1 [cb000]) (hb000 : Fv_LLInt_Bool f cb000 passes) (hp : peachLL1 x passes = some rz) (hq : ∀ m', Ext m m' → Q (.c (.bool rz)) m') : Wc prog tbl 123 [.c ca100, .c (.ptr b0 0)] m Q := by
 have e := hS.st
 obtain ⟨i, _⟩ : ∃ τ : Nat → Nat, True := ⟨fun _ => 0, trivial⟩
 refine c123 ?_
 unfold peachLL1 at hp
 refine ⟨_, (hb0.sub e.sub).rc rfl, ?_⟩
 obtain ⟨g, a, hp⟩ := bsome hp
 refine hb000 _ _ _ _ _ _ (Sub.refl _) e.pre ha100 a fun j b => ?_
 obtain ⟨d, h⟩ := e.call b i
 refine ⟨_, rfl, ?_⟩
 obtain rfl := Option.some.inj hp
 exact hq _ d.ext'
theorem s_indexLL {l : List (List (List Int))} {p : List (List Int) → Option (Bool)} {ca100 ca200 : C} {m f : M} {Q : V → M → Prop} {rz : Int} (hS : Pre f m) (ha100 : Sl f ca100 l) (ha200 : Fv_LLInt_Bool f ca200 p) (hp : pindexLL l p = some rz) (hq : ∀ m', Ext m m' → Q (.c (Il rz)) m') : Wc prog tbl 132 [.c ca100, .c ca200] m Q := by
 have G := hS.st
 obtain ⟨I, _⟩ : ∃ τ : Nat → Nat, True := ⟨fun _ => 0, trivial⟩
 refine w132 ?_
 unfold pindexLL at hp
 refine ⟨ha100.isSl, ?_⟩
 intro J z
 have hgo : ∀ (b : Nat) (x : Int) (j : Int) (n : M) (d : Nat → Nat), St (Fm.of m) f f n → pindexLL_L0 l p b j = some rz → J [.c (Il x), .c (Il j)] n := by
  intro b
  induction b with
  | zero => intro x j n d a hp; cases hp
  | succ b y =>
   intro x j n d a hp
   refine z _ _ _ ?_
   rw [pindexLL_L0] at hp
   try rw [ha100.slLen]
   refine ifd hp (fun o hp => ?_) fun o hp => ?_; rotate_left
   ·obtain rfl := Option.some.inj hp
    exact hq _ a.ext'
   obtain ⟨A, e, hp⟩ := bsome hp
   obtain ⟨N, i, g, e⟩ := idx_some e
   obtain ⟨B, q, r⟩ := ha100.rdS e
   refine ⟨N, i, (by first | exact g | (rw [ha100.slLen]; exact g)), _, (q _ a.sub), ?_⟩
   obtain ⟨D, s, hp⟩ := bsome hp
   refine ha200 _ _ _ _ _ _ (Sub.refl _) a.pre r s fun O t => ?_
   obtain ⟨h, F⟩ := a.call t d
   refine ⟨_, rfl, ?_⟩
   refine ifbb hp (fun u hp => ?_) fun u hp => ?_
   ·obtain rfl := Option.some.inj hp
    exact hq _ h.ext'
   refine gdi hp fun w hp => ?_
   exact y _ _ _ d h hp
 exact hgo _ _ _ _ I G hp
theorem s_containsLL {l : List (List (List Int))} {p : List (List Int) → Option (Bool)} {ca100 ca200 : C} {m f : M} {Q : V → M → Prop} {rz : Bool} (hS : Pre f m) (ha100 : Sl f ca100 l) (ha200 : Fv_LLInt_Bool f ca200 p) (hp : pcontainsLL l p = some rz) (hq : ∀ m', Ext m m' → Q (.c (.bool rz)) m') : Wc prog tbl 122 [.c ca100, .c ca200] m Q := by
 have e := hS.st
 obtain ⟨i, _⟩ : ∃ τ : Nat → Nat, True := ⟨fun _ => 0, trivial⟩
 refine w122 ?_
 unfold pcontainsLL at hp
 obtain ⟨g, a, hp⟩ := bsome hp
 refine s_indexLL (l := l) (p := p) e.pre ha100 ha200 a fun j b => ?_
 obtain ⟨d, h⟩ := e.call b i
 refine ⟨_, rfl, ?_⟩
 obtain rfl := Option.some.inj hp
 exact hq _ d.ext'
theorem s_eachLL {l : List (List (List Int))} {passes : List (List Int) → Option (Bool)} {ca100 ca200 : C} {m f : M} {Q : V → M → Prop} {rz : Bool} (hS : Pre f m) (ha100 : Sl f ca100 l) (ha200 : Fv_LLInt_Bool f ca200 passes) (hp : peachLL l passes = some rz) (hq : ∀ m', Ext m m' → Q (.c (.bool rz)) m') : Wc prog tbl 107 [.c ca100, .c ca200] m Q := by
 have A := hS.st
 obtain ⟨B, _⟩ : ∃ τ : Nat → Nat, True := ⟨fun _ => 0, trivial⟩
 refine w107 ?_
 unfold peachLL at hp
 intro D h
 obtain ⟨i, j, w, n⟩ := A.blk h B 1
 obtain ⟨o, b, d, e⟩ := n.freeze j
 have g : Fv_LLInt_Bool o ((C.fn (Fn.func 123) [] [(W.c (C0.ptr m.nxt 0))])) (fun a => peachLL1 a passes) := by
  intro f' m' a x r Q hs hpre q hg hq
  exact s_eachLL1 hpre q (e.sub hs) ((ha200.sub d.fs).sub hs) hg hq
 obtain ⟨y, s, hp⟩ := bsome hp
 refine s_containsLL (l := l) (p := (fun a => peachLL1 a passes)) b.pre (ha100.sub d.fs) g s fun F t => ?_
 obtain ⟨u, z⟩ := b.call t i
 refine ⟨_, rfl, ?_⟩
 obtain rfl := Option.some.inj hp
 exact hq _ u.ext'
theorem s_within {r : Rg} {passes : Int → Option (Bool)} {ca200 : C} {m f : M} {Q : V → M → Prop} {rz : Bool} (hS : Pre f m) (ha200 : Fv_Int_Bool f ca200 passes) (hp : pwithin r passes = some rz) (hq : ∀ m', Ext m m' → Q (.c (.bool rz)) m') : Wc prog tbl 111 [.agg 2 [(Il r.Lo), (Il r.Hi)], .c ca200] m Q := by
 have y := hS.st
 obtain ⟨z, _⟩ : ∃ τ : Nat → Nat, True := ⟨fun _ => 0, trivial⟩
 refine w111 ?_
 unfold pwithin at hp
 intro A g
 obtain ⟨e, b, t, a⟩ := y.blk g z 1
 refine ⟨trivial, _, a.bk.rc rfl, trivial, _, a.bk.rc rfl, ?_⟩
 refine ifd hp (fun h hp => ?_) fun h hp => ?_; rotate_left
 ·obtain rfl := Option.some.inj hp
  exact hq _ b.ext'
 refine ⟨trivial, _, a.bk.rc rfl, ?_⟩
 obtain ⟨u, i, hp⟩ := bsome hp
 refine ha200 _ _ _ _ _ (Sub.refl _) b.pre  i fun B j => ?_
 obtain ⟨d, l⟩ := b.call j e
 have n := a.k l
 refine ⟨_, rfl, ?_⟩
 refine ifbb hp (fun o hp => ?_) fun o hp => ?_; rotate_left
 ·obtain rfl := Option.some.inj hp
  exact hq _ d.ext'
 refine ⟨trivial, _, n.bk.rc rfl, ?_⟩
 obtain ⟨w, p, hp⟩ := bsome hp
 refine ha200 _ _ _ _ _ (Sub.refl _) d.pre  p fun D q => ?_
 obtain ⟨s, x⟩ := d.call q e
 refine ⟨_, rfl, ?_⟩
 obtain rfl := Option.some.inj hp
 exact hq _ s.ext'
theorem s_validWeek {t : Tf} {rates : List Int} {ca103 ca104 ca105 ca200 : C} {m f : M} {Q : V → M → Prop} {rz : Bool} (hS : Pre f m) (ha103 : Sl f ca103 t.Weeks) (ha104 : Sl f ca104 t.Counts) (ha105 : Sl f ca105 t.Rates) (ha200 : Sl f ca200 rates) (hp : pvalidWeek t rates = some rz) (hq : ∀ m', Ext m m' → Q (.c (.bool rz)) m') : Wc prog tbl 125 [.agg 6 [(Il t.From), (.bool t.Whole), (Il t.Least), ca103, ca104, ca105], .c ca200] m Q := by
 have u := hS.st
 obtain ⟨w, _⟩ : ∃ τ : Nat → Nat, True := ⟨fun _ => 0, trivial⟩
 refine w125 ?_
 unfold pvalidWeek at hp
 intro x e
 obtain ⟨g, b, p, h⟩ := u.blk e w 1
 refine ⟨ha200.isSl, trivial, _, h.bk.rc rfl, ha104.isSl, ?_⟩
 try rw [ha200.slLen]
 try rw [ha104.slLen]
 refine ifd hp (fun i hp => ?_) fun i hp => ?_; rotate_left
 ·obtain rfl := Option.some.inj hp
  exact hq _ b.ext'
 have d : Fv_Int_Bool f ((C.fn (Fn.func 105) [] [])) (fun a => pisHundredths a) := by
  intro f' m' a r Q hs hpre  hg hq
  exact s_isHundredths hpre  hg hq
 obtain ⟨q, j, hp⟩ := bsome hp
 refine s_eachI (l := rates) (passes := (fun a => pisHundredths a)) b.pre ha200 d j fun y n => ?_
 obtain ⟨o, s⟩ := b.call n g
 refine ⟨_, rfl, ?_⟩
 obtain rfl := Option.some.inj hp
 exact hq _ o.ext'
theorem s_validCrop {t : Tf} {weeks : List (List Int)} {ca103 ca104 ca105 ca200 : C} {m f : M} {Q : V → M → Prop} {rz : Bool} (hS : Pre f m) (ha103 : Sl f ca103 t.Weeks) (ha104 : Sl f ca104 t.Counts) (ha105 : Sl f ca105 t.Rates) (ha200 : Sl f ca200 weeks) (hp : pvalidCrop t weeks = some rz) (hq : ∀ m', Ext m m' → Q (.c (.bool rz)) m') : Wc prog tbl 108 [.agg 6 [(Il t.From), (.bool t.Whole), (Il t.Least), ca103, ca104, ca105], .c ca200] m Q := by
 have A := hS.st
 obtain ⟨B, _⟩ : ∃ τ : Nat → Nat, True := ⟨fun _ => 0, trivial⟩
 refine w108 ?_
 unfold pvalidCrop at hp
 intro F g
 obtain ⟨h, b, w, d⟩ := A.blk g B 1
 refine ⟨ha200.isSl, trivial, _, d.bk.rc rfl, ha103.isSl, ?_⟩
 try rw [ha200.slLen]
 try rw [ha103.slLen]
 refine ifd hp (fun i hp => ?_) fun i hp => ?_; rotate_left
 ·obtain rfl := Option.some.inj hp
  exact hq _ b.ext'
 refine ⟨_, _, _, _, _, _, d.bk.ra, ?_⟩
 obtain ⟨q, s, u⟩ : ∃ ws, mapO vW [.agg 6 [(Il t.From), (.bool t.Whole), (Il t.Least), ca103, ca104, ca105]] = some ws ∧ mapS wV ws = [.agg 6 [(Il t.From), (.bool t.Whole), (Il t.Least), ca103, ca104, ca105]] := (vWs_cons (vW_agg (nf_cons rfl (nf_cons rfl (nf_cons rfl (nf_cons ha103.noFn (nf_cons ha104.noFn (nf_cons ha105.noFn nf_nil))))))) vWs_nil)
 rw [s, optB_some]
 have e : Fv_LInt_Bool f ((C.fn (Fn.func 125) q [])) (fun a => pvalidWeek t a) := by
  intro f' m' a x r Q hs hpre j hg hq
  show Wc prog tbl 125 (appS (mapS wV q) _) m' Q
  rw [u]
  exact s_validWeek hpre (ha103.sub hs) (ha104.sub hs) (ha105.sub hs) j hg hq
 obtain ⟨y, n, hp⟩ := bsome hp
 refine s_eachL (l := weeks) (passes := (fun a => pvalidWeek t a)) b.pre ha200 e n fun D o => ?_
 obtain ⟨p, z⟩ := b.call o h
 refine ⟨_, rfl, ?_⟩
 obtain rfl := Option.some.inj hp
 exact hq _ p.ext'
theorem s_tfValid {t : Tf} {ca103 ca104 ca105 : C} {m f : M} {Q : V → M → Prop} {rz : Bool} (hS : Pre f m) (ha103 : Sl f ca103 t.Weeks) (ha104 : Sl f ca104 t.Counts) (ha105 : Sl f ca105 t.Rates) (hp : ptfValid t = some rz) (hq : ∀ m', Ext m m' → Q (.c (.bool rz)) m') : Wc prog tbl 85 [.agg 6 [(Il t.From), (.bool t.Whole), (Il t.Least), ca103, ca104, ca105]] m Q := by
 have S0 := hS.st
 obtain ⟨τ0, _⟩ : ∃ τ : Nat → Nat, True := ⟨fun _ => 0, trivial⟩
 refine w85 ?_
 unfold ptfValid at hp
 intro m0 G
 obtain ⟨a, u, wa, w⟩ := S0.blk G τ0 1
 refine ⟨trivial, _, w.bk.rc rfl, ?_⟩
 obtain ⟨xa, I, hp⟩ := bsome hp
 refine s_isDay (n := t.From) u.pre  I fun m3 J => ?_
 obtain ⟨h, N⟩ := u.call J a
 have x := w.k N
 refine ⟨_, rfl, ?_⟩
 refine ifbb hp (fun O hp => ?_) fun O hp => ?_; rotate_left
 ·obtain rfl := Option.some.inj hp
  exact hq _ h.ext'
 refine ⟨trivial, _, x.bk.rc rfl, ?_⟩
 obtain ⟨ya, P, hp⟩ := bsome hp
 refine s_isHundredths (n := t.Least) h.pre  P fun m7 S => ?_
 obtain ⟨i, T⟩ := h.call S a
 have y := x.k T
 refine ⟨_, rfl, ?_⟩
 refine ifbb hp (fun Y hp => ?_) fun Y hp => ?_; rotate_left
 ·obtain rfl := Option.some.inj hp
  exact hq _ i.ext'
 refine ⟨trivial, _, y.bk.rc rfl, ?_⟩
 obtain ⟨za, Z, hp⟩ := bsome hp
 refine s_rises (l := t.Weeks) i.pre ha103 Z fun Ia aa => ?_
 obtain ⟨j, ba⟩ := i.call aa a
 have z := y.k ba
 refine ⟨_, rfl, ?_⟩
 refine ifbb hp (fun ca hp => ?_) fun ca hp => ?_; rotate_left
 ·obtain rfl := Option.some.inj hp
  exact hq _ j.ext'
 refine ⟨trivial, _, z.bk.rc rfl, ?_⟩
 have D : Fv_Int_Bool f ((C.fn (Fn.func 55) [] [])) (fun e => pisDay e) := by
  intro f' m' e r Q hs hpre  hg hq
  exact s_isDay hpre  hg hq
 obtain ⟨Aa, da, hp⟩ := bsome hp
 refine s_eachI (l := t.Weeks) (passes := (fun e => pisDay e)) j.pre ha103 D da fun Ja ea => ?_
 obtain ⟨o, fa⟩ := j.call ea a
 have A := z.k fa
 refine ⟨_, rfl, ?_⟩
 refine ifbb hp (fun ga hp => ?_) fun ga hp => ?_; rotate_left
 ·obtain rfl := Option.some.inj hp
  exact hq _ o.ext'
 refine ⟨trivial, _, A.bk.rc rfl, ?_⟩
 obtain ⟨Ba, ha, hp⟩ := bsome hp
 refine s_rises (l := t.Counts) o.pre ha104 ha fun Ka ia => ?_
 obtain ⟨b, ja⟩ := o.call ia a
 have d := A.k ja
 refine ⟨_, rfl, ?_⟩
 refine ifbb hp (fun ka hp => ?_) fun ka hp => ?_; rotate_left
 ·obtain rfl := Option.some.inj hp
  exact hq _ b.ext'
 refine ⟨trivial, _, d.bk.rc rfl, trivial, _, d.bk.rc rfl, ha104.isSl, ?_⟩
 obtain ⟨B, hp⟩ := gd_some hp
 refine ⟨(by first | exact B | (rw [ha104.slLen]; exact B)), ?_⟩
 obtain ⟨Ca, p, hp⟩ := bsome hp
 obtain ⟨va, q, s, p⟩ := idx_some p
 refine ⟨va, (by first | exact q | (rw [ha104.slLen]; exact q)), (by first | exact s | (rw [ha104.slLen]; exact s)), _, (ha104.rdI p b.sub), ?_⟩
 refine ifd hp (fun la hp => ?_) fun la hp => ?_; rotate_left
 ·obtain rfl := Option.some.inj hp
  exact hq _ b.ext'
 refine ⟨trivial, _, d.bk.rc rfl, ha105.isSl, ?_⟩
 try rw [ha105.slLen]
 refine ifd hp (fun ma hp => ?_) fun ma hp => ?_; rotate_left
 ·obtain rfl := Option.some.inj hp
  exact hq _ b.ext'
 refine ⟨trivial, _, d.bk.rc rfl, _, _, _, _, _, _, d.bk.ra, ?_⟩
 obtain ⟨sa, ta, ua⟩ : ∃ ws, mapO vW [.agg 6 [(Il t.From), (.bool t.Whole), (Il t.Least), ca103, ca104, ca105]] = some ws ∧ mapS wV ws = [.agg 6 [(Il t.From), (.bool t.Whole), (Il t.Least), ca103, ca104, ca105]] := (vWs_cons (vW_agg (nf_cons rfl (nf_cons rfl (nf_cons rfl (nf_cons ha103.noFn (nf_cons ha104.noFn (nf_cons ha105.noFn nf_nil))))))) vWs_nil)
 rw [ta, optB_some]
 have F : Fv_LLInt_Bool f ((C.fn (Fn.func 108) sa [])) (fun g => pvalidCrop t g) := by
  intro f' m' g Da r Q hs hpre na hg hq
  show Wc prog tbl 108 (appS (mapS wV sa) _) m' Q
  rw [ua]
  exact s_validCrop hpre (ha103.sub hs) (ha104.sub hs) (ha105.sub hs) na hg hq
 obtain ⟨Ea, oa, hp⟩ := bsome hp
 refine s_eachLL (l := t.Rates) (passes := (fun g => pvalidCrop t g)) b.pre ha105 F oa fun La pa => ?_
 obtain ⟨qa, Fa⟩ := b.call pa a
 refine ⟨_, rfl, ?_⟩
 obtain rfl := Option.some.inj hp
 exact hq _ qa.ext'
theorem s_tooMany {l : List Tf} {ca100 : C} {m f : M} {Q : V → M → Prop} {rz : Bool} (hS : Pre f m) (ha100 : Sl f ca100 l) (hp : ptooMany l = some rz) (hq : ∀ m', Ext m m' → Q (.c (.bool rz)) m') : Wc prog tbl 60 [.c ca100] m Q := by
 have o := hS.st
 obtain ⟨x, _⟩ : ∃ τ : Nat → Nat, True := ⟨fun _ => 0, trivial⟩
 refine w60 ?_
 unfold ptooMany at hp
 refine ⟨ha100.isSl, ?_⟩
 try rw [ha100.slLen]
 refine ifd hp (fun d hp => ?_) fun d hp => ?_
 ·obtain rfl := Option.some.inj hp
  exact hq _ o.ext'
 have b : Fv_Tf_Bool f ((C.fn (Fn.func 83) [] [])) (fun a => ptfTooMany a) := by
  intro f' m' a q s t r Q hs hpre e g h hg hq
  exact s_tfTooMany hpre e g h hg hq
 obtain ⟨u, i, hp⟩ := bsome hp
 refine s_containsTfs (l := l) (p := (fun a => ptfTooMany a)) o.pre ha100 b i fun y j => ?_
 obtain ⟨n, w⟩ := o.call j x
 refine ⟨_, rfl, ?_⟩
 obtain rfl := Option.some.inj hp
 exact hq _ n.ext'
theorem s_tfsValid {l : List Tf} {ca100 : C} {m f : M} {Q : V → M → Prop} {rz : Bool} (hS : Pre f m) (ha100 : Sl f ca100 l) (hp : ptfsValid l = some rz) (hq : ∀ m', Ext m m' → Q (.c (.bool rz)) m') : Wc prog tbl 61 [.c ca100] m Q := by
 have S := hS.st
 obtain ⟨n, _⟩ : ∃ τ : Nat → Nat, True := ⟨fun _ => 0, trivial⟩
 refine w61 ?_
 unfold ptfsValid at hp
 have i : Fv_Tf_Bool f ((C.fn (Fn.func 85) [] [])) (fun a => ptfValid a) := by
  intro f' m' a aa ba ca r Q hs hpre o p q hg hq
  exact s_tfValid hpre o p q hg hq
 obtain ⟨da, s, hp⟩ := bsome hp
 refine s_eachTf (l := l) (passes := (fun a => ptfValid a)) S.pre ha100 i s fun m1 t => ?_
 obtain ⟨d, ea⟩ := S.call t n
 refine ⟨_, rfl, ?_⟩
 refine ifbb hp (fun u hp => ?_) fun u hp => ?_; rotate_left
 ·obtain rfl := Option.some.inj hp
  exact hq _ d.ext'
 obtain ⟨w, x, hp⟩ := bsome hp
 refine s_froms (l := l) d.pre ha100 x fun m4 y fa z A => ?_
 obtain ⟨g, h⟩ := d.callG z n
 refine ⟨_, rfl, ?_⟩
 obtain ⟨ga, B, hp⟩ := bsome hp
 refine s_rises (l := w) g.pre A B fun m7 D => ?_
 obtain ⟨e, ha⟩ := g.call D n
 refine ⟨_, rfl, ?_⟩
 refine ifbb hp (fun F hp => ?_) fun F hp => ?_; rotate_left
 ·obtain rfl := Option.some.inj hp
  exact hq _ e.ext'
 obtain ⟨T, Y, Z⟩ : ∃ ws, mapO vW [.c ca100] = some ws ∧ mapS wV ws = [.c ca100] := (vWs_cons (vW_c ha100.noFn) vWs_nil)
 rw [Y, optB_some]
 have j : Fv_Tf_Bool y ((C.fn (Fn.func 88) T [])) (fun b => psameCrops l b) := by
  intro f' m' b ia ja ka r Q hs hpre G I J hg hq
  show Wc prog tbl 88 (appS (mapS wV T) _) m' Q
  rw [Z]
  exact s_sameCrops hpre ((ha100.sub h.fs).sub hs) G I J hg hq
 obtain ⟨la, N, hp⟩ := bsome hp
 refine s_eachTf (l := l) (passes := (fun b => psameCrops l b)) e.pre (ha100.sub h.fs) j N fun na O => ?_
 obtain ⟨P, ma⟩ := e.call O n
 refine ⟨_, rfl, ?_⟩
 obtain rfl := Option.some.inj hp
 exact hq _ P.ext'
theorem s_validClaim {l : List Tf} {c : Clm} {ca100 : C} {m f : M} {Q : V → M → Prop} {rz : Bool} (hS : Pre f m) (ha100 : Sl f ca100 l) (hp : pvalidClaim l c = some rz) (hq : ∀ m', Ext m m' → Q (.c (.bool rz)) m') : Wc prog tbl 90 [.c ca100, .agg 6 [(Il c.Crop), (Il c.Value), (Il c.Day.Lo), (Il c.Day.Hi), (Il c.Count.Lo), (Il c.Count.Hi)]] m Q := by
 have S0 := hS.st
 obtain ⟨τ0, _⟩ : ∃ τ : Nat → Nat, True := ⟨fun _ => 0, trivial⟩
 refine w90 ?_
 unfold pvalidClaim at hp
 intro m0 w
 obtain ⟨a, o, aa, p⟩ := S0.blk w τ0 1
 refine ⟨trivial, _, p.bk.rc rfl, ?_⟩
 obtain ⟨ba, x, hp⟩ := bsome hp
 refine s_hasCrop (l := l) (n := c.Crop) o.pre ha100 x fun m3 y => ?_
 obtain ⟨g, z⟩ := o.call y a
 have q := p.k z
 refine ⟨_, rfl, ?_⟩
 refine ifbb hp (fun A hp => ?_) fun A hp => ?_; rotate_left
 ·obtain rfl := Option.some.inj hp
  exact hq _ g.ext'
 refine ⟨trivial, _, q.bk.rc rfl, ?_⟩
 obtain ⟨ca, B, hp⟩ := bsome hp
 refine s_has (r := ({ Lo := (0 : Int), Hi := (100000 : Int) } : Rg)) (n := c.Value) g.pre  B fun m7 D => ?_
 obtain ⟨h, F⟩ := g.call D a
 have s := q.k F
 refine ⟨_, rfl, ?_⟩
 refine ifbb hp (fun G hp => ?_) fun G hp => ?_; rotate_left
 ·obtain rfl := Option.some.inj hp
  exact hq _ h.ext'
 refine ⟨trivial, _, _, s.bk.rp (k := 2) (j := 2) rfl (by omega), ?_⟩
 have t : Fv_Int_Bool f ((C.fn (Fn.func 55) [] [])) (fun b => pisDay b) := by
  intro f' m' b r Q hs hpre  hg hq
  exact s_isDay hpre  hg hq
 obtain ⟨da, I, hp⟩ := bsome hp
 refine s_within (r := c.Day) (passes := (fun b => pisDay b)) h.pre t I fun ia J => ?_
 obtain ⟨d, N⟩ := h.call J a
 have i := s.k N
 refine ⟨_, rfl, ?_⟩
 refine ifbb hp (fun O hp => ?_) fun O hp => ?_; rotate_left
 ·obtain rfl := Option.some.inj hp
  exact hq _ d.ext'
 refine ⟨trivial, trivial, _, i.bk.rc rfl, trivial, trivial, _, i.bk.rc rfl, ?_⟩
 refine gdi hp fun P hp => ?_
 refine ifd hp (fun S hp => ?_) fun S hp => ?_; rotate_left
 ·obtain rfl := Option.some.inj hp
  exact hq _ d.ext'
 refine ⟨trivial, _, _, i.bk.rp (k := 4) (j := 2) rfl (by omega), ?_⟩
 have u : Fv_Int_Bool f ((C.fn (Fn.func 56) [] [])) (fun e => pisCount e) := by
  intro f' m' e r Q hs hpre  hg hq
  exact s_isCount hpre  hg hq
 obtain ⟨ea, T, hp⟩ := bsome hp
 refine s_within (r := c.Count) (passes := (fun e => pisCount e)) d.pre u T fun ja Y => ?_
 obtain ⟨Z, fa⟩ := d.call Y a
 refine ⟨_, rfl, ?_⟩
 obtain rfl := Option.some.inj hp
 exact hq _ Z.ext'
theorem s_check {l : List Tf} {ca100 : C} {m f : M} {Q : V → M → Prop} {rz : Int} (hS : Pre f m) (ha100 : Sl f ca100 l) (hp : pcheck l = some rz) (hq : ∀ m', Ext m m' → Q (.c (Il rz)) m') : Wc prog tbl 21 [.c ca100] m Q := by
 have n := hS.st
 obtain ⟨o, _⟩ : ∃ τ : Nat → Nat, True := ⟨fun _ => 0, trivial⟩
 refine w21 ?_
 unfold pcheck at hp
 obtain ⟨p, d, hp⟩ := bsome hp
 refine s_tooMany (l := l) n.pre ha100 d fun t e => ?_
 obtain ⟨a, q⟩ := n.call e o
 refine ⟨_, rfl, ?_⟩
 refine ifbb hp (fun g hp => ?_) fun g hp => ?_
 ·obtain rfl := Option.some.inj hp
  exact hq _ a.ext'
 obtain ⟨r, h, hp⟩ := bsome hp
 refine s_tfsValid (l := l) a.pre ha100 h fun u i => ?_
 obtain ⟨b, s⟩ := a.call i o
 refine ⟨_, rfl, ?_⟩
 refine ifnb hp (fun j hp => ?_) fun j hp => ?_
 ·obtain rfl := Option.some.inj hp
  exact hq _ b.ext'
 obtain rfl := Option.some.inj hp
 exact hq _ b.ext'
theorem s_manner {t : Tf} {ca103 ca104 ca105 : C} {m f : M} {Q : V → M → Prop} {rz : Mnr} (hS : Pre f m) (ha103 : Sl f ca103 t.Weeks) (ha104 : Sl f ca104 t.Counts) (ha105 : Sl f ca105 t.Rates) (hp : pmanner t = some rz) (hq : ∀ m' f' c0, Grw m f m' f' → Fv_Tf_Int_Int f' c0 rz.paid → Q (.agg 1 [c0]) m') : Wc prog tbl 100 [.agg 6 [(Il t.From), (.bool t.Whole), (Il t.Least), ca103, ca104, ca105]] m Q := by
 have S0 := hS.st
 obtain ⟨τ0, _⟩ : ∃ τ : Nat → Nat, True := ⟨fun _ => 0, trivial⟩
 refine w100 ?_
 unfold pmanner at hp
 intro m0 j
 obtain ⟨l, n, S, o⟩ := S0.blk j τ0 1
 intro m1 p
 obtain ⟨T, a, q, b⟩ := n.blk p l 2
 have s := o.k q
 refine ⟨trivial, _, s.bk.rc rfl, ?_⟩
 refine ifbb hp (fun u hp => ?_) fun u hp => ?_
 ·obtain ⟨w, x, y, Y, z⟩ := b.sto a [(C.fn (Fn.func 117) [] [])]
  refine ⟨w, x, ?_⟩
  refine ⟨_, z.bk.ra, ?_⟩
  have h : Fv_Tf_Int_Int f ((C.fn (Fn.func 117) [] [])) (fun c d => pwhole c d) := by
   intro f' m' c d Z aa ba r Q hs hpre A B D hg hq
   exact s_whole hpre A B D hg hq
  obtain rfl := Option.some.inj hp
  exact hq _ f (C.fn (Fn.func 117) [] []) y.grw h
 obtain ⟨F, G, I, ca, J⟩ := b.sto a [(C.fn (Fn.func 118) [] [])]
 refine ⟨F, G, ?_⟩
 refine ⟨_, J.bk.ra, ?_⟩
 have i : Fv_Tf_Int_Int f ((C.fn (Fn.func 118) [] [])) (fun e g => paboveLeast e g) := by
  intro f' m' e g da ea fa r Q hs hpre N O P hg hq
  exact s_aboveLeast hpre N O P hg hq
 obtain rfl := Option.some.inj hp
 exact hq _ f (C.fn (Fn.func 118) [] []) I.grw i
theorem s_tfPart {t : Tf} {h : Ht} {ca103 ca104 ca105 : C} {m f : M} {Q : V → M → Prop} {rz : Int} (hS : Pre f m) (ha103 : Sl f ca103 t.Weeks) (ha104 : Sl f ca104 t.Counts) (ha105 : Sl f ca105 t.Rates) (hp : ptfPart t h = some rz) (hq : ∀ m', Ext m m' → Q (.c (Il rz)) m') : Wc prog tbl 80 [.agg 6 [(Il t.From), (.bool t.Whole), (Il t.Least), ca103, ca104, ca105], .agg 3 [(Il h.Day), (Il h.Count), (Il h.crop)]] m Q := by
 have Z := hS.st
 obtain ⟨τ0, _⟩ : ∃ τ : Nat → Nat, True := ⟨fun _ => 0, trivial⟩
 refine w80 ?_
 unfold ptfPart at hp
 intro m0 l
 obtain ⟨n, o, J, p⟩ := Z.blk l τ0 1
 intro m1 q
 obtain ⟨d, g, r, s⟩ := o.blk q n 2
 have i := p.k r
 refine ⟨_, _, _, _, _, _, i.bk.ra, _, _, _, s.bk.ra, ?_⟩
 obtain ⟨N, u, hp⟩ := bsome hp
 refine s_loss (t := t) (h := h) g.pre ha103 ha104 ha105 u fun ba w => ?_
 obtain ⟨e, x⟩ := g.call w d
 have a := i.k x
 refine ⟨_, rfl, trivial, _, a.bk.rc rfl, ?_⟩
 refine ifd hp (fun y hp => ?_) fun y hp => ?_
 ·obtain rfl := Option.some.inj hp
  exact hq _ e.ext'
 refine ⟨_, _, _, _, _, _, a.bk.ra, ?_⟩
 obtain ⟨O, z, hp⟩ := bsome hp
 refine s_manner (t := t) e.pre ha103 ha104 ha105 z fun ca P S A B => ?_
 obtain ⟨j, b⟩ := e.callG A d
 have D := a.k b
 refine ⟨_, rfl, _, _, _, _, _, _, D.bk.ra, (by rw [show allS noFnC _ = true from (nf_cons rfl (nf_cons rfl (nf_cons rfl (nf_cons ha103.noFn (nf_cons ha104.noFn (nf_cons ha105.noFn nf_nil))))))]; exact (a.bk.ra)), ?_⟩
 obtain ⟨T, F, hp⟩ := bsome hp
 refine B _ _ _ _ _ _ _ _ _ (Sub.refl _) j.pre (ha103.sub b.fs) (ha104.sub b.fs) (ha105.sub b.fs) F fun da G => ?_
 obtain ⟨I, Y⟩ := j.call G d
 refine ⟨_, rfl, ?_⟩
 obtain rfl := Option.some.inj hp
 exact hq _ I.ext'
theorem s_open {l : List Tf} {ca100 : C} {m f : M} {Q : V → M → Prop} {rz : Wk × Int} (hS : Pre f m) (ha100 : Sl f ca100 l) (hp : popen l = some rz) (hq : ∀ m' f' c0 c1, Grw m f m' f' → Sl f' c0 rz.1.tariffs → Mn m f' m' c1 rz.1.parts → Q (.tup [.agg 2 [c0, c1], .c (Il rz.2)]) m') : Wc prog tbl 53 [.c ca100] m Q := by
 have S := hS.st
 obtain ⟨T, _⟩ : ∃ τ : Nat → Nat, True := ⟨fun _ => 0, trivial⟩
 refine w53 ?_
 unfold popen at hp
 intro Y g
 obtain ⟨a, b, J, h⟩ := S.blk g T 1
 obtain ⟨N, i, hp⟩ := bsome hp
 refine s_check (l := l) b.pre ha100 i fun I j => ?_
 obtain ⟨d, n⟩ := b.call j a
 have e := h.k n
 refine ⟨_, rfl, ?_⟩
 refine ifnd hp (fun o hp => ?_) fun o hp => ?_
 ·obtain ⟨p, q, r, O, s⟩ := e.sto d [.sl0, C.map0]
  refine ⟨p, q, ?_⟩
  refine ⟨_, _, s.bk.ra, ?_⟩
  obtain rfl := Option.some.inj hp
  exact hq _ f .sl0 .map0 r.grw (Sl.nil _) (Mo.nil _ _ a _ 0).mn
 intro Z t
 obtain ⟨P, u, w, x⟩ := Mo.new (K := Ht) (V' := Int) d t a 2
 have y := e.k w
 obtain ⟨z, A, B, D, F⟩ := y.sto u [ca100, (.map I.nxt)]
 have G := x.k D
 refine ⟨z, A, ?_⟩
 refine ⟨_, _, F.bk.ra, ?_⟩
 obtain rfl := Option.some.inj hp
 exact hq _ f ca100 (.map I.nxt) B.grw ha100 G.mn
theorem s_openFor {l : List Tf} {claims : List Clm} {ca100 ca200 : C} {m f : M} {Q : V → M → Prop} {rz : Wk × Int} (hS : Pre f m) (ha100 : Sl f ca100 l) (ha200 : Sl f ca200 claims) (hp : popenFor l claims = some rz) (hq : ∀ m' f' c0 c1, Grw m f m' f' → Sl f' c0 rz.1.tariffs → Mn m f' m' c1 rz.1.parts → Q (.tup [.agg 2 [c0, c1], .c (Il rz.2)]) m') : Wc prog tbl 63 [.c ca100, .c ca200] m Q := by
 have S0 := hS.st
 obtain ⟨τ0, _⟩ : ∃ τ : Nat → Nat, True := ⟨fun _ => 0, trivial⟩
 refine w63 ?_
 unfold popenFor at hp
 intro m0 z
 obtain ⟨A, o, Ga, B⟩ := S0.blk z τ0 1
 obtain ⟨p, D, hp⟩ := bsome hp
 refine s_open (l := l) o.pre ha100 D fun m2 a b h F i G => ?_
 obtain ⟨I, J, q, N⟩ := o.callN F G A 2
 have O := B.k q
 refine ⟨_, _, _, rfl, ?_⟩
 intro m6 P
 obtain ⟨d, S, s, T⟩ := J.blk P I 3
 have Y := O.k s
 have Z := N.k s
 obtain ⟨aa, ba, e, t, u⟩ := T.sto S [b, h]
 have j := Y.k t
 have ca := Z.k t
 refine ⟨aa, ba, ?_⟩
 refine ifnd hp (fun da hp => ?_) fun da hp => ?_
 ·obtain ⟨ea, fa, ga, Ha, ha⟩ := j.sto e [.sl0, C.map0]
  refine ⟨ea, fa, ?_⟩
  refine ⟨_, _, ha.bk.ra, ?_⟩
  obtain rfl := Option.some.inj hp
  exact hq _ a .sl0 .map0 ga.grw (Sl.nil _) (Mo.nil _ _ d _ 0).mn
 refine ⟨ha200.isSl, ?_⟩
 try rw [ha200.slLen]
 refine ifd hp (fun ia hp => ?_) fun ia hp => ?_
 ·obtain ⟨ja, ka, la, Ia, ma⟩ := j.sto e [.sl0, C.map0]
  refine ⟨ja, ka, ?_⟩
  refine ⟨_, _, ma.bk.ra, ?_⟩
  obtain rfl := Option.some.inj hp
  exact hq _ a .sl0 .map0 la.grw (Sl.nil _) (Mo.nil _ _ d _ 0).mn
 refine ⟨trivial, _, u.bk.rc rfl, ?_⟩
 obtain ⟨Da, Ea, Fa⟩ : ∃ ws, mapO vW [.c b] = some ws ∧ mapS wV ws = [.c b] := (vWs_cons (vW_c i.noFn) vWs_nil)
 rw [Ea, optB_some]
 have y : Fv_Clm_Bool a ((C.fn (Fn.func 90) Da [])) (fun g => pvalidClaim p.1.tariffs g) := by
  intro f' m' g r Q hs hpre  hg hq
  show Wc prog tbl 90 (appS (mapS wV Da) _) m' Q
  rw [Fa]
  exact s_validClaim hpre (i.sub hs) hg hq
 obtain ⟨Ja, na, hp⟩ := bsome hp
 refine s_eachCl (l := claims) (passes := (fun g => pvalidClaim p.1.tariffs g)) e.pre (ha200.sub q.fs) y na fun Na oa => ?_
 obtain ⟨w, n⟩ := e.call oa d
 have x := j.k n
 have pa := u.k n
 have qa := ca.k n
 refine ⟨_, rfl, ?_⟩
 refine ifnb hp (fun sa hp => ?_) fun sa hp => ?_
 ·obtain ⟨ta, ua, va, Ka, wa⟩ := x.sto w [.sl0, C.map0]
  refine ⟨ta, ua, ?_⟩
  refine ⟨_, _, wa.bk.ra, ?_⟩
  obtain rfl := Option.some.inj hp
  exact hq _ a .sl0 .map0 va.grw (Sl.nil _) (Mo.nil _ _ d _ 0).mn
 refine ⟨_, _, pa.bk.ra, ?_⟩
 obtain ⟨xa, ya, za, Aa, Ba⟩ := x.sto w [b, h]
 have Ca := qa.k Aa
 refine ⟨xa, ya, ?_⟩
 refine ⟨_, _, Ba.bk.ra, ?_⟩
 obtain rfl := Option.some.inj hp
 exact hq _ a b h za.grw i Ca.mn
theorem s_part {w : Wk} {h : Ht} {ca100 ca101 : C} {m f : M} {Q : V → M → Prop} {rz : Int × Option (Ht → Option (Int))} (hS : Pre f m) (ha100 : Sl f ca100 w.tariffs) (ha101 : Mc f m ca101 w.parts) (hp : ppart w h = some rz) (hq : ∀ m', ExtB ca101 m m' → Mi m' ca101 rz.2 → Q (.c (Il rz.1)) m') : Wc prog tbl 57 [.agg 2 [ca100, ca101], .agg 3 [(Il h.Day), (Il h.Count), (Il h.crop)]] m Q := by
 have S0 := hS.stM ha101
 obtain ⟨τ0, M0⟩ : ∃ τ, Mo (Fm.mp m ca101) f τ m 1 ca101 w.parts := ⟨_, ha101.mo 1⟩
 refine w57 ?_
 unfold ppart at hp
 intro m0 s
 obtain ⟨x, y, z, A⟩ := S0.blk s τ0 2
 have B := M0.k z
 intro m1 D
 obtain ⟨n, b, o, a⟩ := y.blk D x 3
 have d := A.k o
 have e := B.k o
 refine ⟨trivial, _, d.bk.rc rfl, _, _, _, a.bk.ra, ?_⟩
 obtain ⟨F, hp⟩ := gd_some hp
 refine ⟨_, e.mi.lk kl103 (k := h) F rfl, ?_⟩
 cases j : (mget w.parts h) with
 | none =>
  rw [mcase_none j] at hp
  refine ⟨fun _ => ?_, fun u hu => (by cases hu)⟩
  refine ⟨trivial, _, d.bk.rc rfl, trivial, trivial, _, a.bk.rc rfl, ?_⟩
  obtain ⟨G, I, hp⟩ := bsome hp
  refine s_tfOf (l := w.tariffs) (day := h.Day) b.pre ha100 I fun va ka la ma na J N O P => ?_
  obtain ⟨p, g⟩ := b.callG J n
  have S := d.k g
  have q := a.k g
  have T := e.k g
  refine ⟨_, _, _, _, _, _, rfl, _, _, _, q.bk.ra, (a.bk.ra), ?_⟩
  obtain ⟨r, Y, hp⟩ := bsome hp
  refine s_tfPart (t := G) (h := h) p.pre N O P Y fun wa Z => ?_
  obtain ⟨aa, i⟩ := p.call Z n
  have ba := S.k i
  have ca := q.k i
  have da := T.k i
  refine ⟨_, rfl, trivial, _, ba.bk.rc rfl, _, _, _, ca.bk.ra, ?_⟩
  obtain ⟨ea, hp⟩ := gd_some hp
  obtain ⟨oa, fa, hp⟩ := bsome hp
  obtain ⟨ga, ha, ia, pa, ja⟩ := Mo.up kl103 aa da (k := h) ea (v := r) fa (kv := .agg 3 [(Il h.Day), (Il h.Count), (Il h.crop)]) (yv := .c (Il r)) rfl rfl
  refine ⟨ga, ha, ?_⟩
  obtain rfl := Option.some.inj hp
  exact hq _ ia.extB ja.mi
 | some qa =>
  rw [mcase_some j] at hp
  refine ⟨fun h => (by cases h), fun u hu => ?_⟩
  obtain rfl := Option.some.inj hu
  refine ⟨_, rfl, ?_⟩
  obtain rfl := Option.some.inj hp
  exact hq _ b.extB e.mi
theorem s_payment {w : Wk} {c : Clm} {t : Tr} {ca100 ca101 : C} {m f : M} {Q : V → M → Prop} {rz : Int × Option (Ht → Option (Int))} (hS : Pre f m) (ha100 : Sl f ca100 w.tariffs) (ha101 : Mc f m ca101 w.parts) (hp : ppayment w c t = some rz) (hq : ∀ m', ExtB ca101 m m' → Mi m' ca101 rz.2 → Q (.c (Il rz.1)) m') : Wc prog tbl 65 [.agg 2 [ca100, ca101], .agg 6 [(Il c.Crop), (Il c.Value), (Il c.Day.Lo), (Il c.Day.Hi), (Il c.Count.Lo), (Il c.Count.Hi)], .agg 2 [(Il t.Day), (Il t.Count)]] m Q := by
 have S0 := hS.stM ha101
 obtain ⟨τ0, M0⟩ : ∃ τ, Mo (Fm.mp m ca101) f τ m 1 ca101 w.parts := ⟨_, ha101.mo 1⟩
 refine w65 ?_
 unfold ppayment at hp
 intro m0 j
 obtain ⟨l, n, o, p⟩ := S0.blk j τ0 2
 have q := M0.k o
 intro m1 r
 obtain ⟨s, u, e, x⟩ := n.blk r l 3
 have y := p.k e
 have z := q.k e
 intro m2 A
 obtain ⟨ba, a, b, B⟩ := u.blk A s 4
 have D := y.k b
 have d := x.k b
 have g := z.k b
 refine ⟨trivial, _, d.bk.rc rfl, _, _, D.bk.ra, _, _, B.bk.ra, trivial, _, d.bk.rc rfl, ?_⟩
 obtain ⟨ca, F, hp⟩ := bsome hp
 refine s_part (w := w) (h := ({ Day := t.Day, Count := t.Count, crop := c.Crop } : Ht)) a.pre ha100 (g.mc a) F fun ga G i => ?_
 obtain ⟨I, J, N⟩ := a.callM g G i
 have O := d.k J
 refine ⟨_, rfl, (O.bk.rc rfl), ?_⟩
 refine gdi hp fun P hp => ?_
 refine gdi hp fun S hp => ?_
 refine gdi hp fun T hp => ?_
 refine gdi hp fun Y hp => ?_
 refine gdi hp fun Z hp => ?_
 refine gdi hp fun aa hp => ?_
 obtain rfl := Option.some.inj hp
 exact hq _ I.extB N.mi
theorem s_truthsI {c : Clm} {b0 : Nat} {m f : M} {F : Fm} {n0 ly : Nat} {xs : List (List V)} {I : Nat → (Nat → Prop) → M → Prop} {E : (Nat → Prop) → M → Prop} {S1 : Nat → Prop} {Q : V → M → Prop} {rz : List Tr} {τ0 : Nat → Nat} (hc : Client prog tbl n0 ly xs I E) (S0 : St F f f m) (Y0 : Yg n0 (YJ xs I rz) S1 F f τ0 m) (hb0 : Bk f b0 6 [(.int .i64 c.Crop), (.int .i64 c.Value), (.int .i64 c.Day.Lo), (.int .i64 c.Day.Hi), (.int .i64 c.Count.Lo), (.int .i64 c.Count.Hi)]) (hp : ptruthsI c = some rz) (hq : ∀ v m' f' τ' S', St F f f' m' → (Yg n0 (YJ xs I ([] : List Tr)) S' F f' τ' m' ∨ Yg n0 E S' F f' τ' m') → Q v m') : Wc prog tbl 94 [.c (.fn (.yield ly) [] []), .c (.ptr b0 0)] m Q := by
 refine c94 ?_
 unfold ptruthsI at hp
 refine ⟨trivial, trivial, _, (hb0.sub S0.sub).rc rfl, ?_⟩
 intro R1 hR1
 have hgo : ∀ (d2189 : Nat) (x2 : Int) (r2186 : List Tr) (s2187 : Nat → Prop) (m3 : M) (τ2185 : Nat → Nat), St F f f m3 → Yg n0 (YJ xs I r2186) s2187 F f τ2185 m3 → ptruthsI_L0 c d2189 x2 = some r2186 → R1 [.c (.int .i64 x2)] m3 := by
  intro d2189
  induction d2189 with
  | zero => intro x2 r2186 s2187 m3 τ2185 S2184 Y2188 hp; cases hp
  | succ d2189 ihR1 =>
   intro x2 r2186 s2187 m3 τ2185 S2184 Y2188 hp
   refine hR1 _ _ ?_
   rw [ptruthsI_L0] at hp
   refine ⟨trivial, trivial, _, (hb0.sub S2184.sub).rc rfl, ?_⟩
   refine ifd hp (fun q2190 hp => ?_) fun q2190 hp => ?_; rotate_left
   ·obtain rfl := Option.some.inj hp
    exact hq _ _ _ _ _ S2184 (.inl Y2188)
   refine ⟨trivial, trivial, _, (hb0.sub S2184.sub).rc rfl, ?_⟩
   intro R6 hR6
   have hgo : ∀ (d2196 : Nat) (x7 : Int) (r2193 : List Tr) (s2194 : Nat → Prop) (m8 : M) (τ2192 : Nat → Nat), St F f f m8 → Yg n0 (YJ xs I r2193) s2194 F f τ2192 m8 → ptruthsI_L1 c x2 (ptruthsI_L0 c d2189) d2196 x7 = some r2193 → R6 [.c (.int .i64 x7)] m8 := by
    intro d2196
    induction d2196 with
    | zero => intro x7 r2193 s2194 m8 τ2192 S2191 Y2195 hp; cases hp
    | succ d2196 ihR6 =>
     intro x7 r2193 s2194 m8 τ2192 S2191 Y2195 hp
     refine hR6 _ _ ?_
     rw [ptruthsI_L1] at hp
     refine ⟨trivial, trivial, _, (hb0.sub S2191.sub).rc rfl, ?_⟩
     refine ifd hp (fun q2197 hp => ?_) fun q2197 hp => ?_; rotate_left
     ·obtain ⟨g2212, hp⟩ := gd_some hp
      refine ⟨g2212, ?_⟩
      exact ihR1 _ _ _ _ τ2192 S2191 Y2195 hp
     obtain ⟨r2198, hp2200, hz2199⟩ := bsome hp
     clear hp
     obtain rfl := Option.some.inj hz2199
     have hp := hp2200
     show Wy prog tbl ly (IV.encs (({ Day := x2, Count := x7 } : Tr) : Tr)) _ _
     refine Yg.yield hc S2191 Y2195 ?_ ?_
     ·intro m11 τ2201 s2205 S2202 k2203 Y2204
      refine ⟨_, rfl, ?_⟩
      refine ifB_f' ?_
      obtain ⟨g2206, hp⟩ := gd_some hp
      refine ⟨g2206, ?_⟩
      exact ihR6 _ _ _ _ τ2201 S2202 Y2204 hp
     ·intro m11 τ2207 s2211 S2208 k2209 Y2210
      refine ⟨_, rfl, ?_⟩
      refine ifB_t' ?_
      exact hq _ _ _ _ _ S2208 (.inr Y2210)
   exact hgo _ _ _ _ _ τ2185 S2184 Y2188 hp
 exact hgo _ _ _ _ _ τ0 S0 Y0 hp
theorem s_truths {c : Clm} {m f : M} {Q : V → M → Prop} {rz : List Tr} (hS : Pre f m)  (hp : ptruths c = some rz) (hq : ∀ m' f' c0, Grw m f m' f' → It prog tbl f' c0 rz → Q (.c c0) m') : Wc prog tbl 69 [.agg 6 [(Il c.Crop), (Il c.Value), (Il c.Day.Lo), (Il c.Day.Hi), (Il c.Count.Lo), (Il c.Count.Hi)]] m Q := by
 have q := hS.st
 obtain ⟨r, _⟩ : ∃ τ : Nat → Nat, True := ⟨fun _ => 0, trivial⟩
 refine w69 ?_
 unfold ptruths at hp
 intro s g
 obtain ⟨n, h, o, i⟩ := q.blk g r 1
 obtain ⟨b, a, p, d⟩ := i.freeze h
 obtain ⟨j, l, hp⟩ := bsome hp
 have e : It prog tbl b ((C.fn (Fn.func 94) [] [(W.c (C0.ptr m.nxt 0))])) j := it_of a.fz a.fv fun t ly I E hc u w x y hS hY Q hq => s_truthsI hc hS hY d l hq
 obtain rfl := Option.some.inj hp
 exact hq _ b (C.fn (Fn.func 94) [] [(W.c (C0.ptr m.nxt 0))]) a.grw e
theorem s_bounds {w : Wk} {c : Clm} {ca100 ca101 : C} {m f : M} {Q : V → M → Prop} {rz : Rg × Option (Ht → Option (Int))} (hS : Pre f m) (ha100 : Sl f ca100 w.tariffs) (ha101 : Mc f m ca101 w.parts) (hp : pbounds w c = some rz) (hq : ∀ m', ExtB ca101 m m' → Mi m' ca101 rz.2 → Q (.agg 2 [(Il rz.1.Lo), (Il rz.1.Hi)]) m') : Wc prog tbl 67 [.agg 2 [ca100, ca101], .agg 6 [(Il c.Crop), (Il c.Value), (Il c.Day.Lo), (Il c.Day.Hi), (Il c.Count.Lo), (Il c.Count.Hi)]] m Q := by
 have S0 := hS.stM ha101
 obtain ⟨τ0, M0⟩ : ∃ τ, Mo (Fm.mp m ca101) f τ m 1 ca101 w.parts := ⟨_, ha101.mo 1⟩
 refine w67 ?_
 unfold pbounds at hp
 intro m0 Ha
 obtain ⟨Ia, Ja, Ka, La⟩ := S0.blk Ha τ0 2
 have Ma := M0.k Ka
 intro m1 Na
 obtain ⟨Oa, Pa, da, Qa⟩ := Ja.blk Na Ia 3
 have Ra := La.k da
 have Sa := Ma.k da
 intro m2 Ta
 obtain ⟨Ua, Va, P, Wa⟩ := Pa.blk Ta Oa 4
 have Xa := Ra.k P
 have Ya := Qa.k P
 have Za := Sa.k P
 intro m3 ab
 obtain ⟨ea, fa, G, cb⟩ := Va.blk ab Ua 5
 have db := Xa.k G
 have ga := Ya.k G
 have eb := Wa.k G
 have fb := Za.k G
 refine ⟨_, _, _, _, _, _, ga.bk.ra, ?_⟩
 obtain ⟨Jc, gb, hp⟩ := bsome hp
 refine s_truths (c := c) fa.pre  gb fun Yc Kc Lc hb ib => ?_
 obtain ⟨jb, r⟩ := fa.callG hb ea
 have ha := db.k r
 have ia := ga.k r
 have ja := eb.k r
 have ka := cb.k r
 have la := fb.k r
 refine ⟨_, rfl, ?_⟩
 refine range_st (α := Tr) jb ib (σ := (List Int) × C × (Option (Ht → Option (Int)))) 6 (fun st bb => (False ∨ (False ∨ (False ∨ (False ∨ ((ownBlk st.2.1 bb) ∨ False)))))) (fun st gG gF gT gM => (Lb gG gF gT gM 2 m.nxt 2 [ca100, ca101]) ∧ (Lb gG gF gT gM 3 m0.nxt 6 [(Il c.Crop), (Il c.Value), (Il c.Day.Lo), (Il c.Day.Hi), (Il c.Count.Lo), (Il c.Count.Hi)]) ∧ (Lb gG gF gT gM 4 m1.nxt 2 [(Il 0), (Il 0)]) ∧ (Lb gG gF gT gM 5 m2.nxt 1 [st.2.1]) ∧ (Ow gG gF gT gM 7 st.2.1 st.1) ∧ (Mo gG gF gT gM 1 ca101 st.2.2)) (fun rr_ st => pbounds_L0 w c rr_ st.1 st.2.2 = some rz) (fun ex st => False) (fun st => (Gud.and (Gud.lb ha.bk.lt (by decide)) (Gud.and (Gud.lb ia.bk.lt (by decide)) (Gud.and (Gud.lb ja.bk.lt (by decide)) (Gud.and (Gud.lb ka.bk.lt (by decide)) (Gud.and (Gud.ow (by decide)) (Gud.mo la.lt (by decide)))))))) (st0 := ([], .sl0, w.parts)) (τ := ea) ⟨ha, ia, ja, ka, (Ow.nil _ _ _ _ _), la⟩ hp ?_ ?_ ?_ ?_
 ·intro I kb st h i N s Nc Gc Hc Ic mb nb hA wa hp xa ya
  obtain ⟨d, F, u⟩ := st
  obtain ⟨x, y, j, e, b, n⟩ := hA
  replace x : Lb s h i N 2 m.nxt 2 [ca100, ca101] := x
  replace y : Lb s h i N 3 m0.nxt 6 [(Il c.Crop), (Il c.Value), (Il c.Day.Lo), (Il c.Day.Hi), (Il c.Count.Lo), (Il c.Count.Hi)] := y
  replace j : Lb s h i N 4 m1.nxt 2 [(Il 0), (Il 0)] := j
  replace e : Lb s h i N 5 m2.nxt 1 [F] := e
  replace b : Ow s h i N 7 F d := b
  replace n : Mo s h i N 1 ca101 u := n
  replace hp : pbounds_L0 w c (I :: kb) d u = some rz := hp
  rw [pbounds_L0] at hp
  refine ⟨_, _, rfl, ?_⟩
  intro Zc ob
  obtain ⟨Oc, pb, o, qb⟩ := mb.blk ob i 8
  have rb := x.k o
  have sb := y.k o
  have tb := j.k o
  have ub := e.k o
  have vb := n.k o
  have b := b.k o
  have za := wa.k o
  obtain ⟨wb, xb, yb, p, zb⟩ := qb.sto pb [(Il I.Day), (Il I.Count)]
  have Ab := rb.k p
  have Bb := sb.k p
  have Cb := tb.k p
  have Db := ub.k p
  have Eb := vb.k p
  have b := b.k p
  have Aa := za.k p
  refine ⟨wb, xb, ?_⟩
  refine xa _ _ _ _ yb Aa fun ad Pc S q Ba Ca => ?_
  have ma := Ab.k q
  have na := Bb.k q
  have Fb := Cb.k q
  have oa := Db.k q
  have Gb := zb.k q
  have pa := Eb.k q
  have b := b.k q
  refine ⟨_, oa.bk.rc rfl, _, _, ma.bk.ra, _, _, _, _, _, _, na.bk.ra, _, _, Gb.bk.ra, ?_⟩
  obtain ⟨J, Hb, hp⟩ := bsome hp
  refine s_payment (w := ({ tariffs := w.tariffs, parts := u } : Wk)) (c := c) (t := I) S.pre (ha100.sub (Sub.trans r.fs nb)) (pa.mc S) Hb fun bd Ib Da => ?_
  obtain ⟨Jb, z, Kb⟩ := S.callM pa Ib Da
  have Mb := ma.k z
  have Nb := na.k z
  have Ob := Fb.k z
  have T := oa.k z
  have b := b.k z
  have Ea := Ba.k z
  refine ⟨_, rfl, (by rw [show noFnC _ = true from b.noFn]; exact (T.bk.rc rfl)), ?_⟩
  obtain ⟨Pb, hp⟩ := gd_some hp
  intro cd qa
  refine ⟨(by rw [show noFnC _ = true from b.noFn]; exact (T.bk.ext (Bk.new qa).2).rc rfl), ?_⟩
  obtain ⟨Y, Qb, Qc, Rb, Sb, A, Z⟩ := b.app' ta73 Jb (a := J.1) (show Rp.rep (α := Int) h _ J.1 from rfl) Pb qa
  have Tb := Mb.k A
  have Ub := Nb.k A
  have Vb := Ob.k A
  have Wb := T.k A
  have Xb := Kb.k A
  have Fa := Ea.k A
  refine ⟨Y, Qb, Rb, ?_⟩
  obtain ⟨Yb, Zb, ac, B, bc⟩ := Wb.sto Sb [Y]
  have cc := Tb.k B
  have dc := Ub.k B
  have ec := Vb.k B
  have fc := Xb.k B
  have Z := Z.k B
  have Ga := Fa.k B
  refine ⟨Yb, Zb, ?_⟩
  exact ya .nrm ((d ++ [J.1]), Y, J.2) _ _ _ _ ac ⟨cc, dc, ec, bc, Z, fc⟩ Ga Ca hp
 ·intro st D g O gc Rc hA hp
  obtain ⟨d, F, u⟩ := st
  replace hp : pbounds_L0 w c [] d u = some rz := hp
  obtain ⟨x, y, j, e, b, n⟩ := hA
  replace x : Lb (Fm.mp m ca101) D g O 2 m.nxt 2 [ca100, ca101] := x
  replace y : Lb (Fm.mp m ca101) D g O 3 m0.nxt 6 [(Il c.Crop), (Il c.Value), (Il c.Day.Lo), (Il c.Day.Hi), (Il c.Count.Lo), (Il c.Count.Hi)] := y
  replace j : Lb (Fm.mp m ca101) D g O 4 m1.nxt 2 [(Il 0), (Il 0)] := j
  replace e : Lb (Fm.mp m ca101) D g O 5 m2.nxt 1 [F] := e
  replace b : Ow (Fm.mp m ca101) D g O 7 F d := b
  replace n : Mo (Fm.mp m ca101) D g O 1 ca101 u := n
  rw [pbounds_L0] at hp
  refine ⟨_, e.bk.rc rfl, ?_⟩
  obtain ⟨Tc, sa, aa, ba⟩ := b.freeze gc
  have hc := j.k aa
  have ta := e.k aa
  have ic := n.k aa
  obtain ⟨jc, kc, hp⟩ := bsome hp
  refine s_minimum (l := d) sa.pre ba kc fun dd lc => ?_
  obtain ⟨ua, ca⟩ := sa.call lc g
  have nc := hc.k ca
  have oc := ta.k ca
  have pc := ic.k ca
  refine ⟨_, rfl, _, oc.bk.rc rfl, (by rw [show noFnC _ = true from ba.noFn]; exact (ta.bk.rc rfl)), ?_⟩
  obtain ⟨qc, sc, hp⟩ := bsome hp
  refine s_sMax (l := d) ua.pre ba sc fun ed tc => ?_
  obtain ⟨uc, va⟩ := ua.call tc g
  have vc := nc.k va
  have wc := pc.k va
  refine ⟨_, rfl, ?_⟩
  obtain ⟨xc, yc, zc, Ac, Bc⟩ := vc.sto uc [(Il jc), (Il qc)]
  have Cc := wc.k Ac
  refine ⟨xc, yc, ?_⟩
  refine ⟨_, _, Bc.bk.ra, ?_⟩
  obtain rfl := Option.some.inj hp
  exact hq _ zc.extB Cc.mi
 ·intro id st _ _ _ _ _ _ hn; first | exact hn.elim | (cases hn)
 ·intro st _ _ _ _ _ _ hn; first | exact hn.elim | (cases hn)
theorem s_Total {l : List Tf} {claims : List Clm} {ca100 ca200 : C} {m f : M} {Q : V → M → Prop} {rz : Rg × Int} (hS : Pre f m) (ha100 : Sl f ca100 l) (ha200 : Sl f ca200 claims) (hp : pTotal l claims = some rz) (hq : ∀ m', Ext m m' → Q (.tup [.agg 2 [(Il rz.1.Lo), (Il rz.1.Hi)], .c (Il rz.2)]) m') : Wc prog tbl 39 [.c ca100, .c ca200] m Q := by
 have S0 := hS.st
 obtain ⟨τ0, _⟩ : ∃ τ : Nat → Nat, True := ⟨fun _ => 0, trivial⟩
 refine w39 ?_
 unfold pTotal at hp
 intro m0 la
 obtain ⟨ma, P, Yb, na⟩ := S0.blk la τ0 1
 obtain ⟨S, oa, hp⟩ := bsome hp
 refine s_openFor (l := l) (claims := claims) P.pre ha100 ha200 oa fun m2 h T B pa qa sa => ?_
 obtain ⟨ta, ua, Y, va⟩ := P.callN pa sa ma 2
 have wa := na.k Y
 refine ⟨_, _, _, rfl, ?_⟩
 intro m6 xa
 obtain ⟨ya, za, Z, Aa⟩ := ua.blk xa ta 3
 have Ba := wa.k Z
 have Ca := va.k Z
 obtain ⟨aa, Da, ba, ca, Ea⟩ := Aa.sto za [T, B]
 have da := Ba.k ca
 have Fa := Ca.k ca
 refine ⟨aa, Da, ?_⟩
 refine ifnd hp (fun Ga hp => ?_) fun Ga hp => ?_
 ·obtain ⟨Ha, Ia, Ja, Zb, Ka⟩ := da.sto ba [(Il 0), (Il 0)]
  refine ⟨Ha, Ia, ?_⟩
  refine ⟨_, _, Ka.bk.ra, ?_⟩
  obtain rfl := Option.some.inj hp
  exact hq _ Ja.ext'
 intro ec La
 obtain ⟨Ma, Na, D, i⟩ := ba.blk La ya 4
 have j := da.k D
 have p := Ea.k D
 have q := Fa.k D
 refine ⟨ha200.isSl, ?_⟩
 intro Wb Vb
 have hgo : ∀ (r : Nat) (ea : Int) (a : Int) (b : Int) (n : Option (Ht → Option (Int))) (o : M) (d : Nat → Nat), St (Fm.of m) f h o → Lb (Fm.of m) h d o 1 m.nxt 2 [(Il 0), (Il 0)] → Lb (Fm.of m) h d o 3 m2.nxt 2 [T, B] → Lb (Fm.of m) h d o 4 aa.nxt 2 [(Il a), (Il b)] → Mo (Fm.of m) h d o 2 B n → pTotal_L0 claims S r a b n ea = some rz → Wb [.c (Il ea)] o := by
  intro r
  induction r with
  | zero => intro ea a b n o d s j p i q hp; cases hp
  | succ r Oa =>
   intro ea a b n o d s j p i q hp
   refine Vb _ _ ?_
   rw [pTotal_L0] at hp
   try rw [ha200.slLen]
   refine ifd hp (fun Pa hp => ?_) fun Pa hp => ?_; rotate_left
   ·refine ⟨_, _, i.bk.ra, ?_⟩
    obtain ⟨Qa, Ra, Sa, ac, Ta⟩ := j.sto s [(Il a), (Il b)]
    refine ⟨Qa, Ra, ?_⟩
    refine ⟨_, _, Ta.bk.ra, ?_⟩
    obtain rfl := Option.some.inj hp
    exact hq _ Sa.ext'
   obtain ⟨e, F, hp⟩ := bsome hp
   obtain ⟨Xb, ja, O, F⟩ := idx_some F
   obtain ⟨_, Ua⟩ := rd_Clm ha200 F
   refine ⟨Xb, ja, (by first | exact O | (rw [ha200.slLen]; exact O)), _, _, _, _, _, _, (Ua _ (Sub.trans Y.fs s.sub)).1, ?_⟩
   intro fc Va
   obtain ⟨Wa, Xa, t, Ya⟩ := s.blk Va d 5
   have Za := j.k t
   have ab := p.k t
   have bb := i.k t
   have cb := q.k t
   obtain ⟨db, eb, G, u, fb⟩ := Ya.sto Xa [(Il e.Crop), (Il e.Value), (Il e.Day.Lo), (Il e.Day.Hi), (Il e.Count.Lo), (Il e.Count.Hi)]
   have gb := Za.k u
   have fa := ab.k u
   have hb := bb.k u
   have ga := cb.k u
   refine ⟨db, eb, ?_⟩
   refine ⟨_, _, fa.bk.ra, _, _, _, _, _, _, fb.bk.ra, ?_⟩
   obtain ⟨g, ib, hp⟩ := bsome hp
   refine s_bounds (w := ({ tariffs := S.1.tariffs, parts := n } : Wk)) (c := e) G.pre qa (ga.mc G) ib fun gc jb ka => ?_
   obtain ⟨kb, I, mb⟩ := G.callM ga jb ka
   have nb := gb.k I
   have ob := fa.k I
   have pb := hb.k I
   refine ⟨_, _, rfl, ?_⟩
   intro hc qb
   obtain ⟨rb, sb, x, tb⟩ := kb.blk qb Wa 6
   have ub := nb.k x
   have vb := ob.k x
   have wb := pb.k x
   have xb := mb.k x
   obtain ⟨yb, zb, Ab, y, ha⟩ := tb.sto sb [(Il g.1.Lo), (Il g.1.Hi)]
   have Bb := ub.k y
   have Cb := vb.k y
   have ia := wb.k y
   have Db := xb.k y
   refine ⟨yb, zb, ?_⟩
   refine ⟨trivial, _, ia.bk.rc rfl, trivial, _, ha.bk.rc rfl, ?_⟩
   obtain ⟨Eb, hp⟩ := gd_some hp
   refine ⟨Eb, trivial, ?_⟩
   obtain ⟨Fb, Gb, Hb, z, A⟩ := ia.sto1 Ab 0 (Il (a + g.1.Lo)) (by simp) rfl
   replace A : Lb _ _ _ _ _ _ _ [(Il (a + g.1.Lo)), (Il b)] := A
   have Ib := Bb.k z
   have Jb := Cb.k z
   have Kb := ha.k z
   have Mb := Db.k z
   refine ⟨Fb, Gb, ?_⟩
   refine ⟨trivial, _, A.bk.rc rfl, trivial, _, Kb.bk.rc rfl, ?_⟩
   obtain ⟨Nb, hp⟩ := gd_some hp
   refine ⟨Nb, trivial, ?_⟩
   obtain ⟨Ob, Pb, Qb, J, N⟩ := A.sto1 Hb 1 (Il (b + g.1.Hi)) (by simp) rfl
   replace N : Lb _ _ _ _ _ _ _ [(Il (a + g.1.Lo)), (Il (b + g.1.Hi))] := N
   have Rb := Ib.k J
   have Sb := Jb.k J
   have Tb := Mb.k J
   refine ⟨Ob, Pb, ?_⟩
   refine gdi hp fun Ub hp => ?_
   exact Oa _ _ _ _ _ rb Qb Rb Sb N Tb hp
 exact hgo _ _ _ _ _ _ Ma Na j p i q hp
theorem s_Least {l : List Tf} {crop : Int} {day : Int} {ca100 : C} {m f : M} {Q : V → M → Prop} {rz : Int × Int} (hS : Pre f m) (ha100 : Sl f ca100 l) (hp : pLeast l crop day = some rz) (hq : ∀ m', Ext m m' → Q (.tup [.c (Il rz.1), .c (Il rz.2)]) m') : Wc prog tbl 38 [.c ca100, .c (Il crop), .c (Il day)] m Q := by
 have S0 := hS.st
 obtain ⟨τ0, _⟩ : ∃ τ : Nat → Nat, True := ⟨fun _ => 0, trivial⟩
 refine w38 ?_
 unfold pLeast at hp
 obtain ⟨o, N, hp⟩ := bsome hp
 refine s_open (l := l) S0.pre ha100 N fun m1 p x q O y P => ?_
 obtain ⟨S, T, Ea, Y⟩ := S0.callN O P τ0 1
 refine ⟨_, _, _, rfl, ?_⟩
 intro m5 Z
 obtain ⟨r, aa, ba, ca⟩ := T.blk Z S 2
 have da := Y.k ba
 obtain ⟨ea, fa, s, ga, z⟩ := ca.sto aa [x, q]
 have ha := da.k ga
 refine ⟨ea, fa, ?_⟩
 refine ifnd hp (fun ia hp => ?_) fun ia hp => ?_
 ·obtain rfl := Option.some.inj hp
  exact hq _ s.ext'
 refine ⟨trivial, _, z.bk.rc rfl, ?_⟩
 obtain ⟨Fa, ja, hp⟩ := bsome hp
 refine s_hasCrop (l := o.1.tariffs) (n := crop) s.pre y ja fun m9 ka => ?_
 obtain ⟨t, A⟩ := s.call ka r
 have la := z.k A
 have ma := ha.k A
 refine ⟨_, rfl, ?_⟩
 refine ifnb hp (fun na hp => ?_) fun na hp => ?_
 ·obtain rfl := Option.some.inj hp
  exact hq _ t.ext'
 obtain ⟨Ga, oa, hp⟩ := bsome hp
 refine s_isDay (n := day) t.pre  oa fun Ka pa => ?_
 obtain ⟨B, D⟩ := t.call pa r
 have a := la.k D
 have b := ma.k D
 refine ⟨_, rfl, ?_⟩
 refine ifnb hp (fun qa hp => ?_) fun qa hp => ?_
 ·obtain rfl := Option.some.inj hp
  exact hq _ B.ext'
 intro Da Ba
 have hgo : ∀ (i : Nat) (G : Int) (I : Int) (u : Int) (d : Option (Ht → Option (Int))) (j : M) (e : Nat → Nat), St (Fm.of m) f p j → Lb (Fm.of m) p e j 2 m1.nxt 2 [x, q] → Mo (Fm.of m) p e j 1 q d → pLeast_L0 crop day o i d u = some rz → Da [.c (Il G), .c (Il I), .c (Il u)] j := by
  intro i
  induction i with
  | zero => intro G I u d j e g a b hp; cases hp
  | succ i sa =>
   intro G I u d j e g a b hp
   refine Ba _ _ _ _ ?_
   rw [pLeast_L0] at hp
   refine ifd hp (fun ta hp => ?_) fun ta hp => ?_; rotate_left
   ·obtain rfl := Option.some.inj hp
    exact hq _ g.ext'
   refine ⟨_, _, a.bk.ra, ?_⟩
   obtain ⟨Ha, ua, hp⟩ := bsome hp
   refine s_part (w := ({ tariffs := o.1.tariffs, parts := d } : Wk)) (h := ({ Day := day, Count := u, crop := crop } : Ht)) g.pre y (b.mc g) ua fun La va J => ?_
   obtain ⟨F, wa, xa⟩ := g.callM b va J
   have ya := a.k wa
   refine ⟨_, rfl, ?_⟩
   refine ifd hp (fun za hp => ?_) fun za hp => ?_
   ·obtain rfl := Option.some.inj hp
    exact hq _ F.ext'
   refine gdi hp fun Aa hp => ?_
   exact sa _ _ _ _ _ e F ya xa hp
 exact hgo _ _ _ _ _ _ r B a b hp
theorem s_lTariffs {l : List Tf} {ca100 : C} {m f : M} {Q : V → M → Prop} {rz : List Tf} (hS : Pre f m) (ha100 : Sl f ca100 l) (hp : plTariffs l = some rz) (hq : ∀ m' f' c0, Grw m f m' f' → Sl f' c0 rz → Q (.c c0) m') : Wc prog tbl 19 [.c ca100] m Q := by
 have S0 := hS.st
 obtain ⟨τ0, _⟩ : ∃ τ : Nat → Nat, True := ⟨fun _ => 0, trivial⟩
 refine w19 ?_
 unfold plTariffs at hp
 intro R0 hd
 have hgo : ∀ (z : Nat) (c1 : C) (x2 : Int) (t : List Tf) (m3 : M) (I : M) (S : Nat → Nat), St (Fm.of m) f I m3 → Sub f I → Ow (Fm.of m) I S m3 1 c1 t → plTariffs_L0 l z t x2 = some rz → R0 [.c c1, .c (Il x2)] m3 := by
  intro z
  induction z with
  | zero => intro c1 x2 t m3 I S ta b d hp; cases hp
  | succ z dd =>
   intro c1 x2 t m3 I S ta b d hp
   refine hd _ _ _ ?_
   rw [plTariffs_L0] at hp
   refine ⟨ha100.isSl, ?_⟩
   try rw [ha100.slLen]
   refine ifd hp (fun wb hp => ?_) fun wb hp => ?_; rotate_left
   ·obtain ⟨xb, yb, td, zb⟩ := d.freeze ta
    obtain rfl := Option.some.inj hp
    exact hq _ xb c1 yb.grw zb
   intro m4 Ab
   obtain ⟨ua, x, Bb, jb⟩ := ta.growK Ab S 2
   have d := d.k Bb
   have Cb := jb 0 (by decide)
   obtain ⟨Db, T, hp⟩ := bsome hp
   obtain ⟨n5, kb, Ea, T⟩ := idx_some T
   obtain ⟨ud, vd, wd, Y, xd, yd, zd⟩ := rd_Tf ha100 T
   refine ⟨n5, kb, (by first | exact Ea | (rw [ha100.slLen]; exact Ea)), (ha100.isPt T _), _, ((Y _ (Sub.trans b x.sub)).2.1 0 _ rfl), ?_⟩
   obtain ⟨Eb, Z, hp⟩ := bsome hp
   obtain ⟨n7, mb, Fa, Z⟩ := idx_some Z
   obtain ⟨Ad, Bd, Cd, aa, Dd, Ed, Fd⟩ := rd_Tf ha100 Z
   refine ⟨n7, mb, (by first | exact Fa | (rw [ha100.slLen]; exact Fa)), (ha100.isPt Z _), _, ((aa _ (Sub.trans b x.sub)).2.1 1 _ rfl), ?_⟩
   obtain ⟨Fb, ba, hp⟩ := bsome hp
   obtain ⟨n9, nb, Ga, ba⟩ := idx_some ba
   obtain ⟨Gd, Hd, Id, ca, Jd, Ld, Md⟩ := rd_Tf ha100 ba
   refine ⟨n9, nb, (by first | exact Ga | (rw [ha100.slLen]; exact Ga)), (ha100.isPt ba _), _, ((ca _ (Sub.trans b x.sub)).2.1 2 _ rfl), ?_⟩
   obtain ⟨Gb, da, hp⟩ := bsome hp
   obtain ⟨id, ob, Ha, da⟩ := idx_some da
   obtain ⟨Nd, Od, Pd, Ta, Ua, Qd, Rd⟩ := rd_Tf ha100 da
   refine ⟨id, ob, (by first | exact Ha | (rw [ha100.slLen]; exact Ha)), (ha100.isPt da _), _, ((Ta _ (Sub.trans b x.sub)).2.1 3 _ rfl), ?_⟩
   obtain ⟨ea, Hb, hp⟩ := bsome hp
   refine s_lList (l := Gb.Weeks) x.pre (Ua.sub b) Hb fun Fe Sd fa Ib Jb => ?_
   obtain ⟨A, e⟩ := x.callG Ib ua
   have Kb := Cb.k e
   have d := d.k e
   refine ⟨_, rfl, ((ca _ (Sub.trans (Sub.trans b e.fs) A.sub)).2.1 2 _ rfl), ((aa _ (Sub.trans (Sub.trans b e.fs) A.sub)).2.1 1 _ rfl), ((Y _ (Sub.trans (Sub.trans b e.fs) A.sub)).2.1 0 _ rfl), ?_⟩
   obtain ⟨Mb, ga, hp⟩ := bsome hp
   obtain ⟨jd, pb, Ia, ga⟩ := idx_some ga
   obtain ⟨Td, Ud, Vd, va, Wd, wa, Xd⟩ := rd_Tf ha100 ga
   refine ⟨jd, pb, (by first | exact Ia | (rw [ha100.slLen]; exact Ia)), (ha100.isPt ga _), _, ((va _ (Sub.trans (Sub.trans b e.fs) A.sub)).2.1 4 _ rfl), (by rw [show noFnC _ = true from wa.noFn]; exact ((va _ (Sub.trans b x.sub)).2.1 4 _ rfl)), ?_⟩
   obtain ⟨ha, Nb, hp⟩ := bsome hp
   refine s_lList (l := Mb.Counts) A.pre (wa.sub (Sub.trans b e.fs)) Nb fun Ge Va ia Ob Pb => ?_
   obtain ⟨ja, g⟩ := A.callG Ob ua
   have Qb := Kb.k g
   have d := d.k g
   refine ⟨_, rfl, ((ca _ (Sub.trans (Sub.trans (Sub.trans b e.fs) g.fs) ja.sub)).2.1 2 _ rfl), ((aa _ (Sub.trans (Sub.trans (Sub.trans b e.fs) g.fs) ja.sub)).2.1 1 _ rfl), ((Y _ (Sub.trans (Sub.trans (Sub.trans b e.fs) g.fs) ja.sub)).2.1 0 _ rfl), ?_⟩
   intro He Rb
   obtain ⟨B, Sb, Tb⟩ := Qb.set ja Rb
   have d := d.k Sb
   refine ⟨(by rw [show noFnC _ = true from wa.noFn]; exact ((va _ (Sub.trans (Sub.trans (Sub.trans b e.fs) g.fs) B.sub)).2.1 4 _ rfl)), (by rw [show noFnC _ = true from Ua.noFn]; exact ((Ta _ (Sub.trans (Sub.trans (Sub.trans b e.fs) g.fs) B.sub)).2.1 3 _ rfl)), ((ca _ (Sub.trans (Sub.trans (Sub.trans b e.fs) g.fs) B.sub)).2.1 2 _ rfl), ((aa _ (Sub.trans (Sub.trans (Sub.trans b e.fs) g.fs) B.sub)).2.1 1 _ rfl), ((Y _ (Sub.trans (Sub.trans (Sub.trans b e.fs) g.fs) B.sub)).2.1 0 _ rfl), ?_⟩
   obtain ⟨Ub, Vb, Wb, Xb, n⟩ := Tb.sto B [(Il Db.From), (.bool Eb.Whole), (Il Fb.Least), fa, ia, .sl0]
   have d := d.k Xb
   refine ⟨Ub, Vb, ?_⟩
   intro kd ed
   have hgo : ∀ (J : Nat) (Ja : Int) (D : C) (o : Int) (p : Bool) (q : Int) (u : List (List (List Int))) (sa : M) (r : M) (F : Nat → Nat), St (Fm.of m) f r sa → Sub Va r → Lb (Fm.of m) r F sa 2 (m3.nxt + 0) 6 [(Il o), (.bool p), (Il q), fa, ia, D] → Ow (Fm.of m) r F sa 3 D u → Ow (Fm.of m) r F sa 1 c1 t → plTariffs_L1 l t x2 ea ha (plTariffs_L0 l z) J o p q u Ja = some rz → kd [.c (Il Ja)] sa := by
    intro J
    induction J with
    | zero => intro Ja D o p q u sa r F ka h n i d hp; cases hp
    | succ J Yb =>
     intro Ja D o p q u sa r F ka h n i d hp
     refine ed _ _ ?_
     rw [plTariffs_L1] at hp
     obtain ⟨Yd, la, hp⟩ := bsome hp
     obtain ⟨ld, qb, Ka, la⟩ := idx_some la
     obtain ⟨Zd, ae, be, Zb, ce, de, Wa⟩ := rd_Tf ha100 la
     refine ⟨ld, qb, (by first | exact Ka | (rw [ha100.slLen]; exact Ka)), (ha100.isPt la _), _, ((Zb _ (Sub.trans (Sub.trans (Sub.trans (Sub.trans b e.fs) g.fs) h) ka.sub)).2.1 5 _ rfl), Wa.isSl, ?_⟩
     try rw [Wa.slLen]
     refine ifd hp (fun ac hp => ?_) fun ac hp => ?_; rotate_left
     ·refine ⟨_, _, _, _, _, _, n.bk.ra, ?_⟩
      obtain ⟨Xa, bc, ma, cc⟩ := i.freeze ka
      have d := d.k ma
      obtain ⟨dc, hp⟩ := gd_some hp
      intro Ie ec
      obtain ⟨fc, gc, hc, ic, jc, ee, kc⟩ := d.app' ta28 bc (a := ({ From := o, Whole := p, Least := q, Weeks := ea, Counts := ha, Rates := u } : Tf)) (show Rp.rep (α := Tf) Xa _ ({ From := o, Whole := p, Least := q, Weeks := ea, Counts := ha, Rates := u } : Tf) from ⟨_, _, _, rfl, (Jb.sub (Sub.trans (Sub.trans g.fs h) ma.fs)), (Pb.sub (Sub.trans h ma.fs)), cc⟩) dc ec
      refine ⟨fc, gc, ic, ?_⟩
      refine gdi hp fun lc hp => ?_
      exact dd _ _ _ _ Xa hc jc (Sub.trans (Sub.trans (Sub.trans (Sub.trans b e.fs) g.fs) h) ma.fs) kc hp
     intro md fd
     have hgo : ∀ (na : Nat) (Ya : C) (Za : Int) (G : List (List Int)) (P : M) (w : M) (y : Nat → Nat), St (Fm.of m) f w P → Sub r w → Lb (Fm.of m) w y P 2 (m3.nxt + 0) 6 [(Il o), (.bool p), (Il q), fa, ia, D] → Ow (Fm.of m) w y P 4 Ya G → Ow (Fm.of m) w y P 1 c1 t → Ow (Fm.of m) w y P 3 D u → plTariffs_L2 l x2 o p q u Ja (plTariffs_L1 l t x2 ea ha (plTariffs_L0 l z) J) na G Za = some rz → md [.c Ya, .c (Il Za)] P := by
      intro na
      induction na with
      | zero => intro Ya Za G P w y s j n N d i hp; cases hp
      | succ na nc =>
       intro Ya Za G P w y s j n N d i hp
       refine fd _ _ _ ?_
       rw [plTariffs_L2] at hp
       obtain ⟨fe, oa, hp⟩ := bsome hp
       obtain ⟨nd, rb, La, oa⟩ := idx_some oa
       obtain ⟨ge, he, ie, oc, je, ke, ab⟩ := rd_Tf ha100 oa
       refine ⟨nd, rb, (by first | exact La | (rw [ha100.slLen]; exact La)), (ha100.isPt oa _), _, ((oc _ (Sub.trans (Sub.trans (Sub.trans (Sub.trans (Sub.trans b e.fs) g.fs) h) j) s.sub)).2.1 5 _ rfl), ?_⟩
       obtain ⟨me, xa, hp⟩ := bsome hp
       obtain ⟨od, sb, Ma, xa⟩ := idx_some xa
       obtain ⟨oe, pc, bb⟩ := ab.rdS xa
       refine ⟨od, sb, (by first | exact Ma | (rw [ab.slLen]; exact Ma)), _, (pc _ (Sub.trans (Sub.trans (Sub.trans (Sub.trans (Sub.trans b e.fs) g.fs) h) j) s.sub)), bb.isSl, ?_⟩
       try rw [bb.slLen]
       refine ifd hp (fun qc hp => ?_) fun qc hp => ?_; rotate_left
       ·refine ⟨trivial, _, n.bk.rc rfl, ?_⟩
        obtain ⟨cb, sc, pa, tc⟩ := N.freeze s
        have uc := n.k pa
        have d := d.k pa
        have i := i.k pa
        obtain ⟨vc, hp⟩ := gd_some hp
        intro Je wc
        obtain ⟨ya, xc, yc, zc, Ac, db, za⟩ := i.app' ta74 sc (a := G) (show Rp.rep (α := List (List Int)) cb _ G from ⟨_, rfl, tc⟩) vc wc
        have Bc := uc.k db
        have d := d.k db
        refine ⟨ya, xc, zc, ?_⟩
        refine ⟨trivial, ?_⟩
        obtain ⟨Cc, Dc, Ec, eb, Aa⟩ := Bc.sto1 Ac 5 ya (by simp) rfl
        replace Aa : Lb _ _ _ _ _ _ _ [(Il o), (.bool p), (Il q), fa, ia, ya] := Aa
        have d := d.k eb
        have za := za.k eb
        refine ⟨Cc, Dc, ?_⟩
        refine gdi hp fun Fc hp => ?_
        exact Yb _ _ _ _ _ _ _ cb yc Ec (Sub.trans (Sub.trans h j) pa.fs) Aa za d hp
       obtain ⟨pe, qa, hp⟩ := bsome hp
       obtain ⟨pd, tb, Na, qa⟩ := idx_some qa
       obtain ⟨qe, re, se, Gc, te, ue, fb⟩ := rd_Tf ha100 qa
       refine ⟨pd, tb, (by first | exact Na | (rw [ha100.slLen]; exact Na)), (ha100.isPt qa _), _, ((Gc _ (Sub.trans (Sub.trans (Sub.trans (Sub.trans (Sub.trans b e.fs) g.fs) h) j) s.sub)).2.1 5 _ rfl), ?_⟩
       obtain ⟨ve, Ba, hp⟩ := bsome hp
       obtain ⟨qd, ub, Oa, Ba⟩ := idx_some Ba
       obtain ⟨we, Hc, gb⟩ := fb.rdS Ba
       refine ⟨qd, ub, (by first | exact Oa | (rw [fb.slLen]; exact Oa)), _, (Hc _ (Sub.trans (Sub.trans (Sub.trans (Sub.trans (Sub.trans b e.fs) g.fs) h) j) s.sub)), ?_⟩
       obtain ⟨Ic, Ca, hp⟩ := bsome hp
       obtain ⟨sd, vb, Pa, Ca⟩ := idx_some Ca
       obtain ⟨xe, Jc, Kc⟩ := gb.rdS Ca
       refine ⟨sd, vb, (by first | exact Pa | (rw [gb.slLen]; exact Pa)), _, (Jc _ (Sub.trans (Sub.trans (Sub.trans (Sub.trans (Sub.trans b e.fs) g.fs) h) j) s.sub)), ?_⟩
       obtain ⟨hb, Lc, hp⟩ := bsome hp
       refine s_lList (l := Ic) s.pre (Kc.sub (Sub.trans (Sub.trans (Sub.trans (Sub.trans b e.fs) g.fs) h) j)) Lc fun Ke ib ye Nc Oc => ?_
       obtain ⟨Pc, O⟩ := s.callG Nc y
       have Qc := n.k O
       have d := d.k O
       have i := i.k O
       have N := N.k O
       refine ⟨_, rfl, ?_⟩
       obtain ⟨Rc, hp⟩ := gd_some hp
       intro Me Tc
       obtain ⟨Uc, Vc, Xc, Yc, Zc, Da, ad⟩ := N.app' ta77 Pc (a := hb) (show Rp.rep (α := List Int) ib _ hb from ⟨_, rfl, Oc⟩) Rc Tc
       have bd := Qc.k Da
       have d := d.k Da
       have i := i.k Da
       refine ⟨Uc, Vc, Yc, ?_⟩
       refine gdi hp fun cd hp => ?_
       exact nc _ _ _ _ ib Xc Zc (Sub.trans j O.fs) bd ad d i hp
     exact hgo _ _ _ _ _ r F ka (Sub.refl _) n (Ow.nil _ _ _ _ _) d i hp
   exact hgo _ _ _ _ _ _ _ _ Va ua Wb (Sub.refl _) n (Ow.nil _ _ _ _ _) d hp
 exact hgo _ _ _ _ _ f τ0 S0 (Sub.refl _) (Ow.nil _ _ _ _ _) hp
end
end Go.Proofs.Ytbhdgedghfibcaa

