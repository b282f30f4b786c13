/- An evaluator of the code of a program, its soundness, what calls ask, memory, and what functions of the program do. Condition: none; a lemma text of this claim. -/
import Derived.Test.YtbhdgedghfibcaaGreatMbF

namespace Go.Proofs.YtbhdgedghfibcaaGreat
open _root_.Go.Proofs.Tryz
open Go.Abs
set_option maxRecDepth 100000
noncomputable section
def Fv_Tf_Bool (f : M) (x : C) (g : Tf → Option (Bool)) : Prop := ∀ (f' m : M) (a0 : Tf) (c0 c1 c2 : C) (r : Bool) (Q : V → M → Prop), Sub f f' → Pre f' m → Sl f' c0 a0.Weeks → Sl f' c1 a0.Counts → Sl f' c2 a0.Rates → g a0 = some r → (∀ m', Ext m m' → Q (.c (.bool r)) m') → callP prog tbl [.agg 6 [(.int .i64 a0.From), (.bool a0.Whole), (.int .i64 a0.Least), c0, c1, c2]] x m Q
theorem Fv_Tf_Bool.sub {f m : M} {x : C} {g : Tf → Option (Bool)} (h : Fv_Tf_Bool f x g) (s : Sub f m) : Fv_Tf_Bool m x g := fun f' m' a0 c0 c1 c2 r Q hs => h f' m' a0 c0 c1 c2 r Q (s.trans hs)
def Fv_Clm_Bool (f : M) (x : C) (g : Clm → Option (Bool)) : Prop := ∀ (f' m : M) (a0 : Clm) (r : Bool) (Q : V → M → Prop), Sub f f' → Pre f' m → g a0 = some r → (∀ m', Ext m m' → Q (.c (.bool r)) m') → callP prog tbl [.agg 6 [(.int .i64 a0.Crop), (.int .i64 a0.Value), (.int .i64 a0.Day.Lo), (.int .i64 a0.Day.Hi), (.int .i64 a0.Count.Lo), (.int .i64 a0.Count.Hi)]] x m Q
theorem Fv_Clm_Bool.sub {f m : M} {x : C} {g : Clm → Option (Bool)} (h : Fv_Clm_Bool f x g) (s : Sub f m) : Fv_Clm_Bool m x g := fun f' m' a0 r Q hs => h f' m' a0 r Q (s.trans hs)
def Fv_Int_Bool (f : M) (x : C) (g : Int → Option (Bool)) : Prop := ∀ (f' m : M) (a0 : Int) (r : Bool) (Q : V → M → Prop), Sub f f' → Pre f' m → g a0 = some r → (∀ m', Ext m m' → Q (.c (.bool r)) m') → callP prog tbl [.c (.int .i64 a0)] x m Q
theorem Fv_Int_Bool.sub {f m : M} {x : C} {g : Int → Option (Bool)} (h : Fv_Int_Bool f x g) (s : Sub f m) : Fv_Int_Bool m x g := fun f' m' a0 r Q hs => h f' m' a0 r Q (s.trans hs)
def Fv_LInt_Bool (f : M) (x : C) (g : List Int → Option (Bool)) : Prop := ∀ (f' m : M) (a0 : List Int) (c0 : C) (r : Bool) (Q : V → M → Prop), Sub f f' → Pre f' m → Sl f' c0 a0 → g a0 = some r → (∀ m', Ext m m' → Q (.c (.bool r)) m') → callP prog tbl [.c c0] x m Q
theorem Fv_LInt_Bool.sub {f m : M} {x : C} {g : List Int → Option (Bool)} (h : Fv_LInt_Bool f x g) (s : Sub f m) : Fv_LInt_Bool m x g := fun f' m' a0 c0 r Q hs => h f' m' a0 c0 r Q (s.trans hs)
def Fv_LLInt_Bool (f : M) (x : C) (g : List (List Int) → Option (Bool)) : Prop := ∀ (f' m : M) (a0 : List (List Int)) (c0 : C) (r : Bool) (Q : V → M → Prop), Sub f f' → Pre f' m → Sl f' c0 a0 → g a0 = some r → (∀ m', Ext m m' → Q (.c (.bool r)) m') → callP prog tbl [.c c0] x m Q
theorem Fv_LLInt_Bool.sub {f m : M} {x : C} {g : List (List Int) → Option (Bool)} (h : Fv_LLInt_Bool f x g) (s : Sub f m) : Fv_LLInt_Bool m x g := fun f' m' a0 c0 r Q hs => h f' m' a0 c0 r Q (s.trans hs)
def Fv_Tf_Int_Int (f : M) (x : C) (g : Tf → Int → Option (Int)) : Prop := ∀ (f' m : M) (a0 : Tf) (a1 : Int) (c0 c1 c2 : C) (r : Int) (Q : V → M → Prop), Sub f f' → Pre f' m → Sl f' c0 a0.Weeks → Sl f' c1 a0.Counts → Sl f' c2 a0.Rates → g a0 a1 = some r → (∀ m', Ext m m' → Q (.c (.int .i64 r)) m') → callP prog tbl [.agg 6 [(.int .i64 a0.From), (.bool a0.Whole), (.int .i64 a0.Least), c0, c1, c2], .c (.int .i64 a1)] x m Q
theorem Fv_Tf_Int_Int.sub {f m : M} {x : C} {g : Tf → Int → Option (Int)} (h : Fv_Tf_Int_Int f x g) (s : Sub f m) : Fv_Tf_Int_Int m x g := fun f' m' a0 a1 c0 c1 c2 r Q hs => h f' m' a0 a1 c0 c1 c2 r Q (s.trans hs)
def Fw_Tr_Tr_Int (mc : C) (f : M) (x : C) (g : Tr → Tr → (Option (Ht → Option (Int))) → Option (Int × Option (Ht → Option (Int)))) : Prop := ∀ (f' m : M) (a0 : Tr) (a1 : Tr) (M0 : Option (Ht → Option (Int))) (r : Int × Option (Ht → Option (Int))) (Q : V → M → Prop), Sub f f' → Pre f' m → Mc f' m mc M0 → g a0 a1 M0 = some r → (∀ m', ExtB mc m m' → Mi m' mc r.2 → Q (.c (.int .i64 r.1)) m') → callP prog tbl [.agg 2 [(.int .i64 a0.Day), (.int .i64 a0.Count)], .agg 2 [(.int .i64 a1.Day), (.int .i64 a1.Count)]] x m Q
theorem Fw_Tr_Tr_Int.sub {mc : C} {f m : M} {x : C} {g : Tr → Tr → (Option (Ht → Option (Int))) → Option (Int × Option (Ht → Option (Int)))} (h : Fw_Tr_Tr_Int mc f x g) (s : Sub f m) : Fw_Tr_Tr_Int mc m x g := fun f' m' a0 a1 M0 r Q hs => h f' m' a0 a1 M0 r Q (s.trans hs)
theorem ta25 : TA prog 25 1 := ⟨3, by kernel_rfl, by kernel_rfl, by kernel_rfl⟩
theorem ta29 : TA prog 29 6 := ⟨69, by kernel_rfl, by kernel_rfl, by kernel_rfl⟩
theorem ta34 : TA prog 34 1 := ⟨39, by kernel_rfl, by kernel_rfl, by kernel_rfl⟩
theorem ta39 : TA prog 39 1 := ⟨25, by kernel_rfl, by kernel_rfl, by kernel_rfl⟩
theorem s_awake {m f : M} {Q : V → M → Prop} {rz : Bool} (hS : Pre f m) (hp : pawake = some rz) (hq : ∀ m', Ext m m' → Q (.c (.bool rz)) m') : Wc prog tbl 6 [] m Q := by
  obtain rfl := Option.some.inj hp
  exact call_known (show findT tbl 6 = some true from rfl) (hq _ (.refl m))
theorem s_rIn {n : Int} {low : Int} {high : Int} {m f : M} {Q : V → M → Prop} {rz : Bool} (hS : Pre f m)  (hp : prIn n low high = some rz) (hq : ∀ m', Ext m m' → Q (.c (.bool rz)) m') : Wc prog tbl 10 [.c (.int .i64 n), .c (.int .i64 low), .c (.int .i64 high)] m Q := by
  have S0 := hS.st
  obtain ⟨τ0, _⟩ : ∃ τ : Nat → Nat, True := ⟨fun _ => 0, trivial⟩
  refine w10 ?_
  unfold prIn at hp
  refine ifd hp (fun q1 hp => ?_) fun q1 hp => ?_
  · obtain rfl := Option.some.inj hp
    exact hq _ S0.ext'
  obtain rfl := Option.some.inj hp
  exact hq _ S0.ext'
theorem s_rRises {l : List Int} {most : Int} {ca100 : C} {m f : M} {Q : V → M → Prop} {rz : Bool} (hS : Pre f m) (ha100 : Sl f ca100 l) (hp : prRises l most = some rz) (hq : ∀ m', Ext m m' → Q (.c (.bool rz)) m') : Wc prog tbl 66 [.c ca100, .c (.int .i64 most)] m Q := by
  have S0 := hS.st
  obtain ⟨τ0, _⟩ : ∃ τ : Nat → Nat, True := ⟨fun _ => 0, trivial⟩
  refine w66 ?_
  unfold prRises at hp
  intro R0 hR0
  have hgo : ∀ (d4 : Nat) (b1 : Bool) (x2 : Int) (m3 : M) (τ3 : Nat → Nat), St (Fm.of m) f f m3 → prRises_L0 l most d4 x2 = some rz → R0 [.c (.bool b1), .c (.int .i64 x2)] m3 := by
    intro d4
    induction d4 with
    | zero => intro b1 x2 m3 τ3 S2 hp; cases hp
    | succ d4 ihR0 =>
      intro b1 x2 m3 τ3 S2 hp
      refine hR0 _ _ _ ?_
      rw [prRises_L0] at hp
      refine ⟨ha100.isSl, ?_⟩
      try rw [ha100.slLen]
      refine ifd hp (fun q5 hp => ?_) fun q5 hp => ?_; rotate_left
      · refine ⟨ha100.isSl, ?_⟩
        try rw [ha100.slLen]
        refine ifd hp (fun q23 hp => ?_) fun q23 hp => ?_; rotate_left
        · obtain rfl := Option.some.inj hp
          exact hq _ S2.ext'
        obtain ⟨x24, g25, hp⟩ := bsome hp
        obtain ⟨n13, g25i, g25l, g25⟩ := idx_some g25
        refine ⟨n13, g25i, (by first | exact g25l | (rw [ha100.slLen]; exact g25l)), _, (ha100.rdI g25 S2.sub), ?_⟩
        obtain rfl := Option.some.inj hp
        exact hq _ S2.ext'
      obtain ⟨x6, g7, hp⟩ := bsome hp
      obtain ⟨n4, g7i, g7l, g7⟩ := idx_some g7
      refine ⟨n4, g7i, (by first | exact g7l | (rw [ha100.slLen]; exact g7l)), _, (ha100.rdI g7 S2.sub), ?_⟩
      obtain ⟨r8, g9, hp⟩ := bsome hp
      refine s_rIn (n := x6) (low := (0 : Int)) (high := most) S2.pre  g9 fun m7 e12 => ?_
      obtain ⟨S10, k11⟩ := S2.call e12 τ3
      refine ⟨_, rfl, ?_⟩
      refine ifnb hp (fun q13 hp => ?_) fun q13 hp => ?_
      · obtain rfl := Option.some.inj hp
        exact hq _ S10.ext'
      refine ifd hp (fun q14 hp => ?_) fun q14 hp => ?_; rotate_left
      · obtain ⟨g22, hp⟩ := gd_some hp
        refine ⟨g22, ?_⟩
        exact ihR0 _ _ _ τ3 S10 hp
      obtain ⟨x15, g16, hp⟩ := bsome hp
      obtain ⟨n9, g16i, g16l, g16⟩ := idx_some g16
      refine ⟨n9, g16i, (by first | exact g16l | (rw [ha100.slLen]; exact g16l)), _, (ha100.rdI g16 S10.sub), ?_⟩
      obtain ⟨g17, hp⟩ := gd_some hp
      refine ⟨g17, ?_⟩
      obtain ⟨x18, g19, hp⟩ := bsome hp
      obtain ⟨n11, g19i, g19l, g19⟩ := idx_some g19
      refine ⟨n11, g19i, (by first | exact g19l | (rw [ha100.slLen]; exact g19l)), _, (ha100.rdI g19 S10.sub), ?_⟩
      refine ifd hp (fun q20 hp => ?_) fun q20 hp => ?_
      · obtain rfl := Option.some.inj hp
        exact hq _ S10.ext'
      obtain ⟨g21, hp⟩ := gd_some hp
      refine ⟨g21, ?_⟩
      exact ihR0 _ _ _ τ3 S10 hp
  exact hgo _ _ _ _ τ0 S0 hp
theorem s_rIsTariff {t : Tf} {ca103 ca104 ca105 : C} {m f : M} {Q : V → M → Prop} {rz : Bool} (hS : Pre f m) (ha103 : Sl f ca103 t.Weeks) (ha104 : Sl f ca104 t.Counts) (ha105 : Sl f ca105 t.Rates) (hp : prIsTariff t = some rz) (hq : ∀ m', Ext m m' → Q (.c (.bool rz)) m') : Wc prog tbl 49 [.agg 6 [(.int .i64 t.From), (.bool t.Whole), (.int .i64 t.Least), ca103, ca104, ca105]] m Q := by
  have S0 := hS.st
  obtain ⟨τ0, _⟩ : ∃ τ : Nat → Nat, True := ⟨fun _ => 0, trivial⟩
  refine w49 ?_
  unfold prIsTariff at hp
  intro m0 e26
  obtain ⟨τ29, S27, k28, L30⟩ := S0.blk e26 τ0 1
  refine ⟨trivial, _, L30.bk.rc rfl, ?_⟩
  obtain ⟨r31, g32, hp⟩ := bsome hp
  refine s_rIn (n := t.From) (low := (0 : Int)) (high := (120 : Int)) S27.pre  g32 fun m3 e35 => ?_
  obtain ⟨S33, k34⟩ := S27.call e35 τ29
  have L36 := L30.k k34 (by decide)
  refine ⟨_, rfl, ?_⟩
  refine ifnb hp (fun q37 hp => ?_) fun q37 hp => ?_
  · obtain rfl := Option.some.inj hp
    exact hq _ S33.ext'
  refine ⟨trivial, _, L36.bk.rc rfl, ?_⟩
  obtain ⟨r38, g39, hp⟩ := bsome hp
  refine s_rIn (n := t.Least) (low := (0 : Int)) (high := (100 : Int)) S33.pre  g39 fun m7 e42 => ?_
  obtain ⟨S40, k41⟩ := S33.call e42 τ29
  have L43 := L36.k k41 (by decide)
  refine ⟨_, rfl, ?_⟩
  refine ifnb hp (fun q44 hp => ?_) fun q44 hp => ?_
  · obtain rfl := Option.some.inj hp
    exact hq _ S40.ext'
  refine ⟨trivial, _, L43.bk.rc rfl, ?_⟩
  obtain ⟨r45, g46, hp⟩ := bsome hp
  refine s_rRises (l := t.Weeks) (most := (120 : Int)) S40.pre ha103 g46 fun m11 e49 => ?_
  obtain ⟨S47, k48⟩ := S40.call e49 τ29
  have L50 := L43.k k48 (by decide)
  refine ⟨_, rfl, ?_⟩
  refine ifnb hp (fun q51 hp => ?_) fun q51 hp => ?_
  · obtain rfl := Option.some.inj hp
    exact hq _ S47.ext'
  refine ⟨trivial, _, L50.bk.rc rfl, ?_⟩
  obtain ⟨r52, g53, hp⟩ := bsome hp
  refine s_rRises (l := t.Counts) (most := (100 : Int)) S47.pre ha104 g53 fun m15 e56 => ?_
  obtain ⟨S54, k55⟩ := S47.call e56 τ29
  have L57 := L50.k k55 (by decide)
  refine ⟨_, rfl, ?_⟩
  refine ifnb hp (fun q58 hp => ?_) fun q58 hp => ?_
  · obtain rfl := Option.some.inj hp
    exact hq _ S54.ext'
  refine ⟨trivial, _, L57.bk.rc rfl, trivial, _, L57.bk.rc rfl, ha104.isSl, ?_⟩
  obtain ⟨g59, hp⟩ := gd_some hp
  refine ⟨(by first | exact g59 | (rw [ha104.slLen]; exact g59)), ?_⟩
  obtain ⟨x60, g61, hp⟩ := bsome hp
  obtain ⟨n19, g61i, g61l, g61⟩ := idx_some g61
  refine ⟨n19, (by first | exact g61i | (rw [ha104.slLen]; exact g61i)), (by first | exact g61l | (rw [ha104.slLen]; exact g61l)), _, (ha104.rdI g61 S54.sub), ?_⟩
  refine ifnd hp (fun q62 hp => ?_) fun q62 hp => ?_
  · obtain rfl := Option.some.inj hp
    exact hq _ S54.ext'
  refine ⟨trivial, _, L57.bk.rc rfl, ha105.isSl, ?_⟩
  try rw [ha105.slLen]
  refine ifd hp (fun q63 hp => ?_) fun q63 hp => ?_
  · obtain rfl := Option.some.inj hp
    exact hq _ S54.ext'
  intro R22 hR22
  have hgo : ∀ (d66 : Nat) (b23 : Bool) (b24 : Bool) (b25 : Bool) (x26 : Int) (m27 : M) (τ65 : Nat → Nat), St (Fm.of m) f f m27 → Lb (Fm.of m) f τ65 m27 1 m.nxt 6 [(.int .i64 t.From), (.bool t.Whole), (.int .i64 t.Least), ca103, ca104, ca105] → prIsTariff_L0 t d66 b23 x26 = some rz → R22 [.c (.bool b23), .c (.bool b24), .c (.bool b25), .c (.int .i64 x26)] m27 := by
    intro d66
    induction d66 with
    | zero => intro b23 b24 b25 x26 m27 τ65 S64 L57 hp; cases hp
    | succ d66 ihR22 =>
      intro b23 b24 b25 x26 m27 τ65 S64 L57 hp
      refine hR22 _ _ _ _ _ ?_
      rw [prIsTariff_L0] at hp
      refine ⟨trivial, _, L57.bk.rc rfl, ha105.isSl, ?_⟩
      try rw [ha105.slLen]
      refine ifd hp (fun q67 hp => ?_) fun q67 hp => ?_; rotate_left
      · obtain rfl := Option.some.inj hp
        exact hq _ S64.ext'
      refine ⟨trivial, _, L57.bk.rc rfl, ?_⟩
      obtain ⟨v68, g69, hp⟩ := bsome hp
      obtain ⟨n30, g69i, g69l, g69⟩ := idx_some g69
      obtain ⟨c70, r71, h72⟩ := ha105.rdS g69
      refine ⟨n30, g69i, (by first | exact g69l | (rw [ha105.slLen]; exact g69l)), _, (r71 _ S64.sub), h72.isSl, trivial, _, L57.bk.rc rfl, ha103.isSl, ?_⟩
      try rw [h72.slLen]
      try rw [ha103.slLen]
      refine ifnd hp (fun q73 hp => ?_) fun q73 hp => ?_
      · obtain rfl := Option.some.inj hp
        exact hq _ S64.ext'
      intro R33 hR33
      have hgo : ∀ (d76 : Nat) (b34 : Bool) (b35 : Bool) (x36 : Int) (m37 : M) (τ75 : Nat → Nat), St (Fm.of m) f f m37 → Lb (Fm.of m) f τ75 m37 1 m.nxt 6 [(.int .i64 t.From), (.bool t.Whole), (.int .i64 t.Least), ca103, ca104, ca105] → prIsTariff_L1 t x26 (prIsTariff_L0 t d66) d76 b34 x36 = some rz → R33 [.c (.bool b34), .c (.bool b35), .c (.int .i64 x36)] m37 := by
        intro d76
        induction d76 with
        | zero => intro b34 b35 x36 m37 τ75 S74 L57 hp; cases hp
        | succ d76 ihR33 =>
          intro b34 b35 x36 m37 τ75 S74 L57 hp
          refine hR33 _ _ _ _ ?_
          rw [prIsTariff_L1] at hp
          refine ⟨trivial, _, L57.bk.rc rfl, ha103.isSl, ?_⟩
          try rw [ha103.slLen]
          refine ifd hp (fun q77 hp => ?_) fun q77 hp => ?_; rotate_left
          · obtain ⟨g114, hp⟩ := gd_some hp
            refine ⟨g114, ?_⟩
            exact ihR22 _ _ _ _ _ τ75 S74 L57 hp
          refine ⟨trivial, _, L57.bk.rc rfl, ?_⟩
          obtain ⟨v78, g79, hp⟩ := bsome hp
          obtain ⟨n40, g79i, g79l, g79⟩ := idx_some g79
          obtain ⟨c80, r81, h82⟩ := ha105.rdS g79
          refine ⟨n40, g79i, (by first | exact g79l | (rw [ha105.slLen]; exact g79l)), _, (r81 _ S74.sub), ?_⟩
          obtain ⟨v83, g84, hp⟩ := bsome hp
          obtain ⟨n42, g84i, g84l, g84⟩ := idx_some g84
          obtain ⟨c85, r86, h87⟩ := h82.rdS g84
          refine ⟨n42, g84i, (by first | exact g84l | (rw [h82.slLen]; exact g84l)), _, (r86 _ S74.sub), h87.isSl, trivial, _, L57.bk.rc rfl, ha104.isSl, ?_⟩
          try rw [h87.slLen]
          try rw [ha104.slLen]
          refine ifnd hp (fun q88 hp => ?_) fun q88 hp => ?_
          · obtain rfl := Option.some.inj hp
            exact hq _ S74.ext'
          intro R45 hR45
          have hgo : ∀ (d91 : Nat) (b46 : Bool) (x47 : Int) (m48 : M) (τ90 : Nat → Nat), St (Fm.of m) f f m48 → Lb (Fm.of m) f τ90 m48 1 m.nxt 6 [(.int .i64 t.From), (.bool t.Whole), (.int .i64 t.Least), ca103, ca104, ca105] → prIsTariff_L2 t x26 x36 (prIsTariff_L1 t x26 (prIsTariff_L0 t d66) d76) d91 b46 x47 = some rz → R45 [.c (.bool b46), .c (.int .i64 x47)] m48 := by
            intro d91
            induction d91 with
            | zero => intro b46 x47 m48 τ90 S89 L57 hp; cases hp
            | succ d91 ihR45 =>
              intro b46 x47 m48 τ90 S89 L57 hp
              refine hR45 _ _ _ ?_
              rw [prIsTariff_L2] at hp
              refine ⟨trivial, _, L57.bk.rc rfl, ha104.isSl, ?_⟩
              try rw [ha104.slLen]
              refine ifd hp (fun q92 hp => ?_) fun q92 hp => ?_; rotate_left
              · obtain ⟨g113, hp⟩ := gd_some hp
                refine ⟨g113, ?_⟩
                exact ihR33 _ _ _ _ τ90 S89 L57 hp
              refine ⟨trivial, _, L57.bk.rc rfl, ?_⟩
              obtain ⟨v93, g94, hp⟩ := bsome hp
              obtain ⟨n51, g94i, g94l, g94⟩ := idx_some g94
              obtain ⟨c95, r96, h97⟩ := ha105.rdS g94
              refine ⟨n51, g94i, (by first | exact g94l | (rw [ha105.slLen]; exact g94l)), _, (r96 _ S89.sub), ?_⟩
              obtain ⟨v98, g99, hp⟩ := bsome hp
              obtain ⟨n53, g99i, g99l, g99⟩ := idx_some g99
              obtain ⟨c100, r101, h102⟩ := h97.rdS g99
              refine ⟨n53, g99i, (by first | exact g99l | (rw [h97.slLen]; exact g99l)), _, (r101 _ S89.sub), ?_⟩
              obtain ⟨x103, g104, hp⟩ := bsome hp
              obtain ⟨n55, g104i, g104l, g104⟩ := idx_some g104
              refine ⟨n55, g104i, (by first | exact g104l | (rw [h102.slLen]; exact g104l)), _, (h102.rdI g104 S89.sub), ?_⟩
              obtain ⟨r105, g106, hp⟩ := bsome hp
              refine s_rIn (n := x103) (low := (0 : Int)) (high := (100 : Int)) S89.pre  g106 fun m58 e109 => ?_
              obtain ⟨S107, k108⟩ := S89.call e109 τ90
              have L110 := L57.k k108 (by decide)
              refine ⟨_, rfl, ?_⟩
              refine ifnb hp (fun q111 hp => ?_) fun q111 hp => ?_
              · obtain rfl := Option.some.inj hp
                exact hq _ S107.ext'
              obtain ⟨g112, hp⟩ := gd_some hp
              refine ⟨g112, ?_⟩
              exact ihR45 _ _ _ τ90 S107 L110 hp
          exact hgo _ _ _ _ τ75 S74 L57 hp
      exact hgo _ _ _ _ _ τ65 S64 L57 hp
  exact hgo _ _ _ _ _ _ τ29 S54 L57 hp
theorem s_rFault {l : List Tf} {ca100 : C} {m f : M} {Q : V → M → Prop} {rz : Int} (hS : Pre f m) (ha100 : Sl f ca100 l) (hp : prFault l = some rz) (hq : ∀ m', Ext m m' → Q (.c (.int .i64 rz)) m') : Wc prog tbl 30 [.c ca100] m Q := by
  have S0 := hS.st
  obtain ⟨τ0, _⟩ : ∃ τ : Nat → Nat, True := ⟨fun _ => 0, trivial⟩
  refine w30 ?_
  unfold prFault at hp
  refine ⟨ha100.isSl, ?_⟩
  try rw [ha100.slLen]
  refine ifd hp (fun q115 hp => ?_) fun q115 hp => ?_
  · obtain rfl := Option.some.inj hp
    exact hq _ S0.ext'
  intro R0 hR0
  have hgo : ∀ (d118 : Nat) (x1 : Int) (x2 : Int) (m3 : M) (τ117 : Nat → Nat), St (Fm.of m) f f m3 → prFault_L0 l d118 x1 x2 = some rz → R0 [.c (.int .i64 x1), .c (.int .i64 x2)] m3 := by
    intro d118
    induction d118 with
    | zero => intro x1 x2 m3 τ117 S116 hp; cases hp
    | succ d118 ihR0 =>
      intro x1 x2 m3 τ117 S116 hp
      refine hR0 _ _ _ ?_
      rw [prFault_L0] at hp
      refine ⟨ha100.isSl, ?_⟩
      try rw [ha100.slLen]
      refine ifd hp (fun q119 hp => ?_) fun q119 hp => ?_
      · obtain ⟨v120, g121, hp⟩ := bsome hp
        obtain ⟨n4, g121i, g121l, g121⟩ := idx_some g121
        obtain ⟨c122, c124, c126, r128, h123, h125, h127⟩ := rd_Tf ha100 g121
        refine ⟨n4, g121i, (by first | exact g121l | (rw [ha100.slLen]; exact g121l)), (ha100.isPt g121 _), _, ((r128 _ S116.sub).2.1 3 _ rfl), h123.isSl, ?_⟩
        try rw [h123.slLen]
        refine ifd hp (fun q129 hp => ?_) fun q129 hp => ?_
        · obtain rfl := Option.some.inj hp
          exact hq _ S116.ext'
        obtain ⟨v130, g131, hp⟩ := bsome hp
        obtain ⟨n6, g131i, g131l, g131⟩ := idx_some g131
        obtain ⟨c132, c134, c136, r138, h133, h135, h137⟩ := rd_Tf ha100 g131
        refine ⟨n6, g131i, (by first | exact g131l | (rw [ha100.slLen]; exact g131l)), (ha100.isPt g131 _), _, ((r138 _ S116.sub).2.1 4 _ rfl), h135.isSl, ?_⟩
        try rw [h135.slLen]
        refine ifd hp (fun q139 hp => ?_) fun q139 hp => ?_
        · obtain rfl := Option.some.inj hp
          exact hq _ S116.ext'
        obtain ⟨v140, g141, hp⟩ := bsome hp
        obtain ⟨n8, g141i, g141l, g141⟩ := idx_some g141
        obtain ⟨c142, c144, c146, r148, h143, h145, h147⟩ := rd_Tf ha100 g141
        refine ⟨n8, g141i, (by first | exact g141l | (rw [ha100.slLen]; exact g141l)), (ha100.isPt g141 _), _, ((r148 _ S116.sub).2.1 5 _ rfl), h147.isSl, ?_⟩
        try rw [h147.slLen]
        refine ifd hp (fun q149 hp => ?_) fun q149 hp => ?_
        · obtain rfl := Option.some.inj hp
          exact hq _ S116.ext'
        obtain ⟨g150, hp⟩ := gd_some hp
        refine ⟨g150, ?_⟩
        exact ihR0 _ _ _ τ117 S116 hp
      intro R10 hR10
      have hgo : ∀ (d153 : Nat) (x11 : Int) (x12 : Int) (m13 : M) (τ152 : Nat → Nat), St (Fm.of m) f f m13 → prFault_L1 l d153 x12 = some rz → R10 [.c (.int .i64 x11), .c (.int .i64 x12)] m13 := by
        intro d153
        induction d153 with
        | zero => intro x11 x12 m13 τ152 S151 hp; cases hp
        | succ d153 ihR10 =>
          intro x11 x12 m13 τ152 S151 hp
          refine hR10 _ _ _ ?_
          rw [prFault_L1] at hp
          refine ⟨ha100.isSl, ?_⟩
          try rw [ha100.slLen]
          refine ifd hp (fun q154 hp => ?_) fun q154 hp => ?_; rotate_left
          · refine ⟨ha100.isSl, ?_⟩
            try rw [ha100.slLen]
            refine ifd hp (fun q246 hp => ?_) fun q246 hp => ?_
            · obtain rfl := Option.some.inj hp
              exact hq _ S151.ext'
            obtain rfl := Option.some.inj hp
            exact hq _ S151.ext'
          obtain ⟨v155, g156, hp⟩ := bsome hp
          obtain ⟨n14, g156i, g156l, g156⟩ := idx_some g156
          obtain ⟨c157, c159, c161, r163, h158, h160, h162⟩ := rd_Tf ha100 g156
          refine ⟨n14, g156i, (by first | exact g156l | (rw [ha100.slLen]; exact g156l)), _, _, _, _, _, _, (r163 _ S151.sub).1, ?_⟩
          obtain ⟨r164, g165, hp⟩ := bsome hp
          refine s_rIsTariff (t := v155) S151.pre h158 h160 h162 g165 fun m22 e168 => ?_
          obtain ⟨S166, k167⟩ := S151.call e168 τ152
          refine ⟨_, rfl, ?_⟩
          refine ifnb hp (fun q169 hp => ?_) fun q169 hp => ?_
          · obtain rfl := Option.some.inj hp
            exact hq _ S166.ext'
          obtain ⟨v170, g171, hp⟩ := bsome hp
          obtain ⟨n24, g171i, g171l, g171⟩ := idx_some g171
          obtain ⟨c172, c174, c176, r178, h173, h175, h177⟩ := rd_Tf ha100 g171
          refine ⟨n24, g171i, (by first | exact g171l | (rw [ha100.slLen]; exact g171l)), (ha100.isPt g171 _), _, ((r178 _ S166.sub).2.1 5 _ rfl), h177.isSl, ?_⟩
          obtain ⟨v179, g180, hp⟩ := bsome hp
          obtain ⟨n26, g180i, g180l, g180⟩ := idx_some g180
          obtain ⟨c181, c183, c185, r187, h182, h184, h186⟩ := rd_Tf ha100 g180
          refine ⟨n26, g180i, (by first | exact g180l | (rw [ha100.slLen]; exact g180l)), (ha100.isPt g180 _), _, ((r187 _ S166.sub).2.1 5 _ rfl), h186.isSl, ?_⟩
          try rw [h177.slLen]
          try rw [h186.slLen]
          refine ifnd hp (fun q188 hp => ?_) fun q188 hp => ?_
          · obtain rfl := Option.some.inj hp
            exact hq _ S166.ext'
          refine ifd hp (fun q189 hp => ?_) fun q189 hp => ?_; rotate_left
          · refine ifd hp (fun q223 hp => ?_) fun q223 hp => ?_; rotate_left
            · obtain ⟨g245, hp⟩ := gd_some hp
              refine ⟨g245, ?_⟩
              exact ihR10 _ _ _ τ152 S166 hp
            obtain ⟨v224, g225, hp⟩ := bsome hp
            obtain ⟨n34, g225i, g225l, g225⟩ := idx_some g225
            obtain ⟨c226, c228, c230, r232, h227, h229, h231⟩ := rd_Tf ha100 g225
            refine ⟨n34, g225i, (by first | exact g225l | (rw [ha100.slLen]; exact g225l)), (ha100.isPt g225 _), _, ((r232 _ S166.sub).2.1 0 _ rfl), ?_⟩
            obtain ⟨g233, hp⟩ := gd_some hp
            refine ⟨g233, ?_⟩
            obtain ⟨v234, g235, hp⟩ := bsome hp
            obtain ⟨n36, g235i, g235l, g235⟩ := idx_some g235
            obtain ⟨c236, c238, c240, r242, h237, h239, h241⟩ := rd_Tf ha100 g235
            refine ⟨n36, g235i, (by first | exact g235l | (rw [ha100.slLen]; exact g235l)), (ha100.isPt g235 _), _, ((r242 _ S166.sub).2.1 0 _ rfl), ?_⟩
            refine ifd hp (fun q243 hp => ?_) fun q243 hp => ?_
            · obtain rfl := Option.some.inj hp
              exact hq _ S166.ext'
            obtain ⟨g244, hp⟩ := gd_some hp
            refine ⟨g244, ?_⟩
            exact ihR10 _ _ _ τ152 S166 hp
          obtain ⟨v190, g191, hp⟩ := bsome hp
          obtain ⟨n28, g191i, g191l, g191⟩ := idx_some g191
          obtain ⟨c192, c194, c196, r198, h193, h195, h197⟩ := rd_Tf ha100 g191
          refine ⟨n28, g191i, (by first | exact g191l | (rw [ha100.slLen]; exact g191l)), (ha100.isPt g191 _), _, ((r198 _ S166.sub).2.1 0 _ rfl), ?_⟩
          refine ifnd hp (fun q199 hp => ?_) fun q199 hp => ?_
          · obtain rfl := Option.some.inj hp
            exact hq _ S166.ext'
          refine ifd hp (fun q200 hp => ?_) fun q200 hp => ?_; rotate_left
          · obtain ⟨g222, hp⟩ := gd_some hp
            refine ⟨g222, ?_⟩
            exact ihR10 _ _ _ τ152 S166 hp
          obtain ⟨v201, g202, hp⟩ := bsome hp
          obtain ⟨n30, g202i, g202l, g202⟩ := idx_some g202
          obtain ⟨c203, c205, c207, r209, h204, h206, h208⟩ := rd_Tf ha100 g202
          refine ⟨n30, g202i, (by first | exact g202l | (rw [ha100.slLen]; exact g202l)), (ha100.isPt g202 _), _, ((r209 _ S166.sub).2.1 0 _ rfl), ?_⟩
          obtain ⟨g210, hp⟩ := gd_some hp
          refine ⟨g210, ?_⟩
          obtain ⟨v211, g212, hp⟩ := bsome hp
          obtain ⟨n32, g212i, g212l, g212⟩ := idx_some g212
          obtain ⟨c213, c215, c217, r219, h214, h216, h218⟩ := rd_Tf ha100 g212
          refine ⟨n32, g212i, (by first | exact g212l | (rw [ha100.slLen]; exact g212l)), (ha100.isPt g212 _), _, ((r219 _ S166.sub).2.1 0 _ rfl), ?_⟩
          refine ifd hp (fun q220 hp => ?_) fun q220 hp => ?_
          · obtain rfl := Option.some.inj hp
            exact hq _ S166.ext'
          obtain ⟨g221, hp⟩ := gd_some hp
          refine ⟨g221, ?_⟩
          exact ihR10 _ _ _ τ152 S166 hp
      exact hgo _ _ _ _ τ117 S116 hp
  exact hgo _ _ _ _ τ0 S0 hp
theorem s_rCrops {l : List Tf} {ca100 : C} {m f : M} {Q : V → M → Prop} {rz : Int} (hS : Pre f m) (ha100 : Sl f ca100 l) (hp : prCrops l = some rz) (hq : ∀ m', Ext m m' → Q (.c (.int .i64 rz)) m') : Wc prog tbl 11 [.c ca100] m Q := by
  have S0 := hS.st
  obtain ⟨τ0, _⟩ : ∃ τ : Nat → Nat, True := ⟨fun _ => 0, trivial⟩
  refine w11 ?_
  unfold prCrops at hp
  obtain ⟨v247, g248, hp⟩ := bsome hp
  obtain ⟨n0, g248i, g248l, g248⟩ := idx_some g248
  obtain ⟨c249, c251, c253, r255, h250, h252, h254⟩ := rd_Tf ha100 g248
  refine ⟨n0, g248i, (by first | exact g248l | (rw [ha100.slLen]; exact g248l)), (ha100.isPt g248 _), _, ((r255 _ S0.sub).2.1 5 _ rfl), h254.isSl, ?_⟩
  try rw [h254.slLen]
  obtain rfl := Option.some.inj hp
  exact hq _ S0.ext'
theorem s_rRise {l : List Int} {out : Int} {ca100 : C} {m f : M} {Q : V → M → Prop} {rz : Bool} (hS : Pre f m) (ha100 : Sl f ca100 l) (hp : prRise l out = some rz) (hq : ∀ m', Ext m m' → Q (.c (.bool rz)) m') : Wc prog tbl 15 [.c ca100, .c (.int .i64 out)] m Q := by
  have S0 := hS.st
  obtain ⟨τ0, _⟩ : ∃ τ : Nat → Nat, True := ⟨fun _ => 0, trivial⟩
  refine w15 ?_
  unfold prRise at hp
  intro R0 hR0
  have hgo : ∀ (d258 : Nat) (b1 : Bool) (x2 : Int) (m3 : M) (τ257 : Nat → Nat), St (Fm.of m) f f m3 → prRise_L0 l out d258 b1 x2 = some rz → R0 [.c (.bool b1), .c (.int .i64 x2)] m3 := by
    intro d258
    induction d258 with
    | zero => intro b1 x2 m3 τ257 S256 hp; cases hp
    | succ d258 ihR0 =>
      intro b1 x2 m3 τ257 S256 hp
      refine hR0 _ _ _ ?_
      rw [prRise_L0] at hp
      refine ⟨ha100.isSl, ?_⟩
      try rw [ha100.slLen]
      refine ifd hp (fun q259 hp => ?_) fun q259 hp => ?_; rotate_left
      · obtain rfl := Option.some.inj hp
        exact hq _ S256.ext'
      obtain ⟨g260, hp⟩ := gd_some hp
      refine ⟨g260, ?_⟩
      intro R4 hR4
      have hgo : ∀ (d263 : Nat) (b5 : Bool) (x6 : Int) (m7 : M) (τ262 : Nat → Nat), St (Fm.of m) f f m7 → prRise_L1 l out x2 (prRise_L0 l out d258) d263 b5 x6 = some rz → R4 [.c (.bool b5), .c (.int .i64 x6)] m7 := by
        intro d263
        induction d263 with
        | zero => intro b5 x6 m7 τ262 S261 hp; cases hp
        | succ d263 ihR4 =>
          intro b5 x6 m7 τ262 S261 hp
          refine hR4 _ _ _ ?_
          rw [prRise_L1] at hp
          refine ⟨ha100.isSl, ?_⟩
          try rw [ha100.slLen]
          refine ifd hp (fun q264 hp => ?_) fun q264 hp => ?_; rotate_left
          · obtain ⟨g289, hp⟩ := gd_some hp
            refine ⟨g289, ?_⟩
            exact ihR0 _ _ _ τ262 S261 hp
          obtain ⟨g265, hp⟩ := gd_some hp
          refine ⟨g265, ?_⟩
          obtain ⟨g266, hp⟩ := gd_some hp
          refine ⟨g266, ?_⟩
          obtain ⟨g267, hp⟩ := gd_some hp
          refine ⟨g267, ?_⟩
          obtain ⟨g268, hp⟩ := gd_some hp
          refine ⟨g268, ?_⟩
          obtain ⟨g269, hp⟩ := gd_some hp
          refine ⟨g269, ?_⟩
          obtain ⟨g270, hp⟩ := gd_some hp
          refine ⟨g270, ?_⟩
          obtain ⟨g271, hp⟩ := gd_some hp
          refine ⟨g271, ?_⟩
          refine ifd hp (fun q272 hp => ?_) fun q272 hp => ?_; rotate_left
          · obtain ⟨g288, hp⟩ := gd_some hp
            refine ⟨g288, ?_⟩
            exact ihR4 _ _ _ τ262 S261 hp
          obtain ⟨g273, hp⟩ := gd_some hp
          refine ⟨g273, ?_⟩
          obtain ⟨g274, hp⟩ := gd_some hp
          refine ⟨g274, ?_⟩
          obtain ⟨g275, hp⟩ := gd_some hp
          refine ⟨g275, ?_⟩
          obtain ⟨g276, hp⟩ := gd_some hp
          refine ⟨g276, ?_⟩
          obtain ⟨g277, hp⟩ := gd_some hp
          refine ⟨g277, ?_⟩
          obtain ⟨g278, hp⟩ := gd_some hp
          refine ⟨g278, ?_⟩
          obtain ⟨g279, hp⟩ := gd_some hp
          refine ⟨g279, ?_⟩
          refine ifd hp (fun q280 hp => ?_) fun q280 hp => ?_; rotate_left
          · obtain ⟨g287, hp⟩ := gd_some hp
            refine ⟨g287, ?_⟩
            exact ihR4 _ _ _ τ262 S261 hp
          obtain ⟨x281, g282, hp⟩ := bsome hp
          obtain ⟨n8, g282i, g282l, g282⟩ := idx_some g282
          refine ⟨n8, g282i, (by first | exact g282l | (rw [ha100.slLen]; exact g282l)), _, (ha100.rdI g282 S261.sub), ?_⟩
          obtain ⟨x283, g284, hp⟩ := bsome hp
          obtain ⟨n10, g284i, g284l, g284⟩ := idx_some g284
          refine ⟨n10, g284i, (by first | exact g284l | (rw [ha100.slLen]; exact g284l)), _, (ha100.rdI g284 S261.sub), ?_⟩
          refine ifd hp (fun q285 hp => ?_) fun q285 hp => ?_
          · obtain rfl := Option.some.inj hp
            exact hq _ S261.ext'
          obtain ⟨g286, hp⟩ := gd_some hp
          refine ⟨g286, ?_⟩
          exact ihR4 _ _ _ τ262 S261 hp
      exact hgo _ _ _ _ τ257 S256 hp
  exact hgo _ _ _ _ τ0 S0 hp
theorem s_lList {l : List Int} {ca100 : C} {m f : M} {Q : V → M → Prop} {rz : List Int} (hS : Pre f m) (ha100 : Sl f ca100 l) (hp : plList l = some rz) (hq : ∀ m' f' c0, Grw m f m' f' → Sl f' c0 rz → Q (.c c0) m') : Wc prog tbl 29 [.c ca100] m Q := by
  have S0 := hS.st
  obtain ⟨τ0, _⟩ : ∃ τ : Nat → Nat, True := ⟨fun _ => 0, trivial⟩
  refine w29 ?_
  unfold plList at hp
  intro m0 e290
  obtain ⟨τ293, S291, k292, o294⟩ := Ow.lit0 (α := Int) S0 τ0 1 e290
  obtain ⟨g302, hp⟩ := gd_some hp
  obtain ⟨c298, m299, τ297, a300, S295, k296, o301⟩ := o294.appL ta25 S291 ha100 g302
  refine ⟨c298, m299, a300, ?_⟩
  obtain ⟨f303, S304, k305, h306⟩ := o301.freeze S295
  obtain rfl := Option.some.inj hp
  exact hq _ f303 c298 S304.grw h306
theorem s_lThin {l : List Tf} {ca100 : C} {m f : M} {Q : V → M → Prop} {rz : Bool} (hS : Pre f m) (ha100 : Sl f ca100 l) (hp : plThin l = some rz) (hq : ∀ m', Ext m m' → Q (.c (.bool rz)) m') : Wc prog tbl 5 [.c ca100] m Q := by
  have S0 := hS.st
  obtain ⟨τ0, _⟩ : ∃ τ : Nat → Nat, True := ⟨fun _ => 0, trivial⟩
  refine w5 ?_
  unfold plThin at hp
  refine ⟨ha100.isSl, ?_⟩
  try rw [ha100.slLen]
  refine ifd hp (fun q307 hp => ?_) fun q307 hp => ?_
  · obtain rfl := Option.some.inj hp
    exact hq _ S0.ext'
  intro R0 hR0
  have hgo : ∀ (d310 : Nat) (b1 : Bool) (b2 : Bool) (b3 : Bool) (x4 : Int) (m5 : M) (τ309 : Nat → Nat), St (Fm.of m) f f m5 → plThin_L0 l d310 b1 x4 = some rz → R0 [.c (.bool b1), .c (.bool b2), .c (.bool b3), .c (.int .i64 x4)] m5 := by
    intro d310
    induction d310 with
    | zero => intro b1 b2 b3 x4 m5 τ309 S308 hp; cases hp
    | succ d310 ihR0 =>
      intro b1 b2 b3 x4 m5 τ309 S308 hp
      refine hR0 _ _ _ _ _ ?_
      rw [plThin_L0] at hp
      refine ⟨ha100.isSl, ?_⟩
      try rw [ha100.slLen]
      refine ifd hp (fun q311 hp => ?_) fun q311 hp => ?_; rotate_left
      · obtain rfl := Option.some.inj hp
        exact hq _ S308.ext'
      obtain ⟨v312, g313, hp⟩ := bsome hp
      obtain ⟨n6, g313i, g313l, g313⟩ := idx_some g313
      obtain ⟨c314, c316, c318, r320, h315, h317, h319⟩ := rd_Tf ha100 g313
      refine ⟨n6, g313i, (by first | exact g313l | (rw [ha100.slLen]; exact g313l)), (ha100.isPt g313 _), _, ((r320 _ S308.sub).2.1 3 _ rfl), h315.isSl, ?_⟩
      try rw [h315.slLen]
      refine ifd hp (fun q321 hp => ?_) fun q321 hp => ?_
      · obtain rfl := Option.some.inj hp
        exact hq _ S308.ext'
      obtain ⟨v322, g323, hp⟩ := bsome hp
      obtain ⟨n8, g323i, g323l, g323⟩ := idx_some g323
      obtain ⟨c324, c326, c328, r330, h325, h327, h329⟩ := rd_Tf ha100 g323
      refine ⟨n8, g323i, (by first | exact g323l | (rw [ha100.slLen]; exact g323l)), (ha100.isPt g323 _), _, ((r330 _ S308.sub).2.1 4 _ rfl), h327.isSl, ?_⟩
      try rw [h327.slLen]
      refine ifd hp (fun q331 hp => ?_) fun q331 hp => ?_
      · obtain rfl := Option.some.inj hp
        exact hq _ S308.ext'
      obtain ⟨v332, g333, hp⟩ := bsome hp
      obtain ⟨n10, g333i, g333l, g333⟩ := idx_some g333
      obtain ⟨c334, c336, c338, r340, h335, h337, h339⟩ := rd_Tf ha100 g333
      refine ⟨n10, g333i, (by first | exact g333l | (rw [ha100.slLen]; exact g333l)), (ha100.isPt g333 _), _, ((r340 _ S308.sub).2.1 5 _ rfl), h339.isSl, ?_⟩
      try rw [h339.slLen]
      refine ifd hp (fun q341 hp => ?_) fun q341 hp => ?_
      · obtain rfl := Option.some.inj hp
        exact hq _ S308.ext'
      intro R12 hR12
      have hgo : ∀ (d344 : Nat) (b13 : Bool) (b14 : Bool) (x15 : Int) (m16 : M) (τ343 : Nat → Nat), St (Fm.of m) f f m16 → plThin_L1 l x4 (plThin_L0 l d310) d344 b13 x15 = some rz → R12 [.c (.bool b13), .c (.bool b14), .c (.int .i64 x15)] m16 := by
        intro d344
        induction d344 with
        | zero => intro b13 b14 x15 m16 τ343 S342 hp; cases hp
        | succ d344 ihR12 =>
          intro b13 b14 x15 m16 τ343 S342 hp
          refine hR12 _ _ _ _ ?_
          rw [plThin_L1] at hp
          obtain ⟨v345, g346, hp⟩ := bsome hp
          obtain ⟨n17, g346i, g346l, g346⟩ := idx_some g346
          obtain ⟨c347, c349, c351, r353, h348, h350, h352⟩ := rd_Tf ha100 g346
          refine ⟨n17, g346i, (by first | exact g346l | (rw [ha100.slLen]; exact g346l)), (ha100.isPt g346 _), _, ((r353 _ S342.sub).2.1 5 _ rfl), h352.isSl, ?_⟩
          try rw [h352.slLen]
          refine ifd hp (fun q354 hp => ?_) fun q354 hp => ?_; rotate_left
          · obtain ⟨g410, hp⟩ := gd_some hp
            refine ⟨g410, ?_⟩
            exact ihR0 _ _ _ _ _ τ343 S342 hp
          obtain ⟨v355, g356, hp⟩ := bsome hp
          obtain ⟨n19, g356i, g356l, g356⟩ := idx_some g356
          obtain ⟨c357, c359, c361, r363, h358, h360, h362⟩ := rd_Tf ha100 g356
          refine ⟨n19, g356i, (by first | exact g356l | (rw [ha100.slLen]; exact g356l)), (ha100.isPt g356 _), _, ((r363 _ S342.sub).2.1 5 _ rfl), ?_⟩
          obtain ⟨v364, g365, hp⟩ := bsome hp
          obtain ⟨n21, g365i, g365l, g365⟩ := idx_some g365
          obtain ⟨c366, r367, h368⟩ := h362.rdS g365
          refine ⟨n21, g365i, (by first | exact g365l | (rw [h362.slLen]; exact g365l)), _, (r367 _ S342.sub), h368.isSl, ?_⟩
          try rw [h368.slLen]
          refine ifd hp (fun q369 hp => ?_) fun q369 hp => ?_
          · obtain rfl := Option.some.inj hp
            exact hq _ S342.ext'
          intro R23 hR23
          have hgo : ∀ (d372 : Nat) (b24 : Bool) (x25 : Int) (m26 : M) (τ371 : Nat → Nat), St (Fm.of m) f f m26 → plThin_L2 l x4 x15 (plThin_L1 l x4 (plThin_L0 l d310) d344) d372 b24 x25 = some rz → R23 [.c (.bool b24), .c (.int .i64 x25)] m26 := by
            intro d372
            induction d372 with
            | zero => intro b24 x25 m26 τ371 S370 hp; cases hp
            | succ d372 ihR23 =>
              intro b24 x25 m26 τ371 S370 hp
              refine hR23 _ _ _ ?_
              rw [plThin_L2] at hp
              obtain ⟨v373, g374, hp⟩ := bsome hp
              obtain ⟨n27, g374i, g374l, g374⟩ := idx_some g374
              obtain ⟨c375, c377, c379, r381, h376, h378, h380⟩ := rd_Tf ha100 g374
              refine ⟨n27, g374i, (by first | exact g374l | (rw [ha100.slLen]; exact g374l)), (ha100.isPt g374 _), _, ((r381 _ S370.sub).2.1 5 _ rfl), ?_⟩
              obtain ⟨v382, g383, hp⟩ := bsome hp
              obtain ⟨n29, g383i, g383l, g383⟩ := idx_some g383
              obtain ⟨c384, r385, h386⟩ := h380.rdS g383
              refine ⟨n29, g383i, (by first | exact g383l | (rw [h380.slLen]; exact g383l)), _, (r385 _ S370.sub), h386.isSl, ?_⟩
              try rw [h386.slLen]
              refine ifd hp (fun q387 hp => ?_) fun q387 hp => ?_; rotate_left
              · obtain ⟨g409, hp⟩ := gd_some hp
                refine ⟨g409, ?_⟩
                exact ihR12 _ _ _ _ τ371 S370 hp
              obtain ⟨v388, g389, hp⟩ := bsome hp
              obtain ⟨n31, g389i, g389l, g389⟩ := idx_some g389
              obtain ⟨c390, c392, c394, r396, h391, h393, h395⟩ := rd_Tf ha100 g389
              refine ⟨n31, g389i, (by first | exact g389l | (rw [ha100.slLen]; exact g389l)), (ha100.isPt g389 _), _, ((r396 _ S370.sub).2.1 5 _ rfl), ?_⟩
              obtain ⟨v397, g398, hp⟩ := bsome hp
              obtain ⟨n33, g398i, g398l, g398⟩ := idx_some g398
              obtain ⟨c399, r400, h401⟩ := h395.rdS g398
              refine ⟨n33, g398i, (by first | exact g398l | (rw [h395.slLen]; exact g398l)), _, (r400 _ S370.sub), ?_⟩
              obtain ⟨v402, g403, hp⟩ := bsome hp
              obtain ⟨n35, g403i, g403l, g403⟩ := idx_some g403
              obtain ⟨c404, r405, h406⟩ := h401.rdS g403
              refine ⟨n35, g403i, (by first | exact g403l | (rw [h401.slLen]; exact g403l)), _, (r405 _ S370.sub), h406.isSl, ?_⟩
              try rw [h406.slLen]
              refine ifd hp (fun q407 hp => ?_) fun q407 hp => ?_
              · obtain rfl := Option.some.inj hp
                exact hq _ S370.ext'
              obtain ⟨g408, hp⟩ := gd_some hp
              refine ⟨g408, ?_⟩
              exact ihR23 _ _ _ τ371 S370 hp
          exact hgo _ _ _ _ τ343 S342 hp
      exact hgo _ _ _ _ _ τ309 S308 hp
  exact hgo _ _ _ _ _ _ τ0 S0 hp
theorem s_lFault {l : List Tf} {ca100 : C} {m f : M} {Q : V → M → Prop} {rz : Int} (hS : Pre f m) (ha100 : Sl f ca100 l) (hp : plFault l = some rz) (hq : ∀ m', Ext m m' → Q (.c (.int .i64 rz)) m') : Wc prog tbl 9 [.c ca100] m Q := by
  have S0 := hS.st
  obtain ⟨τ0, _⟩ : ∃ τ : Nat → Nat, True := ⟨fun _ => 0, trivial⟩
  refine w9 ?_
  unfold plFault at hp
  obtain ⟨r411, g412, hp⟩ := bsome hp
  refine s_rFault (l := l) S0.pre ha100 g412 fun m1 e415 => ?_
  obtain ⟨S413, k414⟩ := S0.call e415 τ0
  refine ⟨_, rfl, ?_⟩
  obtain rfl := Option.some.inj hp
  exact hq _ S413.ext'
theorem s_lReady {l : List Tf} {ca100 : C} {m f : M} {Q : V → M → Prop} {rz : Bool} (hS : Pre f m) (ha100 : Sl f ca100 l) (hp : plReady l = some rz) (hq : ∀ m', Ext m m' → Q (.c (.bool rz)) m') : Wc prog tbl 14 [.c ca100] m Q := by
  have S0 := hS.st
  obtain ⟨τ0, _⟩ : ∃ τ : Nat → Nat, True := ⟨fun _ => 0, trivial⟩
  refine w14 ?_
  unfold plReady at hp
  obtain ⟨r416, g417, hp⟩ := bsome hp
  refine s_lThin (l := l) S0.pre ha100 g417 fun m1 e420 => ?_
  obtain ⟨S418, k419⟩ := S0.call e420 τ0
  refine ⟨_, rfl, ?_⟩
  refine ifbb hp (fun q421 hp => ?_) fun q421 hp => ?_; rotate_left
  · obtain rfl := Option.some.inj hp
    exact hq _ S418.ext'
  obtain ⟨r422, g423, hp⟩ := bsome hp
  refine s_lFault (l := l) S418.pre ha100 g423 fun m4 e426 => ?_
  obtain ⟨S424, k425⟩ := S418.call e426 τ0
  refine ⟨_, rfl, ?_⟩
  obtain rfl := Option.some.inj hp
  exact hq _ S424.ext'
theorem s_has {r : Rg} {n : Int} {m f : M} {Q : V → M → Prop} {rz : Bool} (hS : Pre f m)  (hp : phas r n = some rz) (hq : ∀ m', Ext m m' → Q (.c (.bool rz)) m') : Wc prog tbl 50 [.agg 2 [(.int .i64 r.Lo), (.int .i64 r.Hi)], .c (.int .i64 n)] m Q := by
  have S0 := hS.st
  obtain ⟨τ0, _⟩ : ∃ τ : Nat → Nat, True := ⟨fun _ => 0, trivial⟩
  refine w50 ?_
  unfold phas at hp
  intro m0 e437
  obtain ⟨τ440, S438, k439, L441⟩ := S0.blk e437 τ0 1
  refine ⟨trivial, _, L441.bk.rc rfl, ?_⟩
  refine ifd hp (fun q442 hp => ?_) fun q442 hp => ?_; rotate_left
  · obtain rfl := Option.some.inj hp
    exact hq _ S438.ext'
  refine ⟨trivial, _, L441.bk.rc rfl, ?_⟩
  obtain rfl := Option.some.inj hp
  exact hq _ S438.ext'
theorem s_isIndex {n : Int} {size : Int} {m f : M} {Q : V → M → Prop} {rz : Bool} (hS : Pre f m)  (hp : pisIndex n size = some rz) (hq : ∀ m', Ext m m' → Q (.c (.bool rz)) m') : Wc prog tbl 46 [.c (.int .i64 n), .c (.int .i64 size)] m Q := by
  have S0 := hS.st
  obtain ⟨τ0, _⟩ : ∃ τ : Nat → Nat, True := ⟨fun _ => 0, trivial⟩
  refine w46 ?_
  unfold pisIndex at hp
  obtain ⟨g443, hp⟩ := gd_some hp
  refine ⟨g443, ?_⟩
  obtain ⟨r444, g445, hp⟩ := bsome hp
  refine s_has (r := ({ Lo := (0 : Int), Hi := (size - (1 : Int)) } : Rg)) (n := n) S0.pre  g445 fun m1 e448 => ?_
  obtain ⟨S446, k447⟩ := S0.call e448 τ0
  refine ⟨_, rfl, ?_⟩
  obtain rfl := Option.some.inj hp
  exact hq _ S446.ext'
theorem s_isDay {n : Int} {m f : M} {Q : V → M → Prop} {rz : Bool} (hS : Pre f m)  (hp : pisDay n = some rz) (hq : ∀ m', Ext m m' → Q (.c (.bool rz)) m') : Wc prog tbl 33 [.c (.int .i64 n)] m Q := by
  have S0 := hS.st
  obtain ⟨τ0, _⟩ : ∃ τ : Nat → Nat, True := ⟨fun _ => 0, trivial⟩
  refine w33 ?_
  unfold pisDay at hp
  obtain ⟨r449, g450, hp⟩ := bsome hp
  refine s_has (r := ({ Lo := (0 : Int), Hi := (120 : Int) } : Rg)) (n := n) S0.pre  g450 fun m1 e453 => ?_
  obtain ⟨S451, k452⟩ := S0.call e453 τ0
  refine ⟨_, rfl, ?_⟩
  obtain rfl := Option.some.inj hp
  exact hq _ S451.ext'
theorem s_isHundredths {n : Int} {m f : M} {Q : V → M → Prop} {rz : Bool} (hS : Pre f m)  (hp : pisHundredths n = some rz) (hq : ∀ m', Ext m m' → Q (.c (.bool rz)) m') : Wc prog tbl 89 [.c (.int .i64 n)] m Q := by
  have S0 := hS.st
  obtain ⟨τ0, _⟩ : ∃ τ : Nat → Nat, True := ⟨fun _ => 0, trivial⟩
  refine w89 ?_
  unfold pisHundredths at hp
  obtain ⟨r459, g460, hp⟩ := bsome hp
  refine s_has (r := ({ Lo := (0 : Int), Hi := (100 : Int) } : Rg)) (n := n) S0.pre  g460 fun m1 e463 => ?_
  obtain ⟨S461, k462⟩ := S0.call e463 τ0
  refine ⟨_, rfl, ?_⟩
  obtain rfl := Option.some.inj hp
  exact hq _ S461.ext'
theorem s_rises {l : List Int} {ca100 : C} {m f : M} {Q : V → M → Prop} {rz : Bool} (hS : Pre f m) (ha100 : Sl f ca100 l) (hp : prises l = some rz) (hq : ∀ m', Ext m m' → Q (.c (.bool rz)) m') : Wc prog tbl 78 [.c ca100] m Q := by
  have S0 := hS.st
  obtain ⟨τ0, _⟩ : ∃ τ : Nat → Nat, True := ⟨fun _ => 0, trivial⟩
  refine w78 ?_
  unfold prises at hp
  refine ⟨ha100.isSl, ?_⟩
  intro R0 hR0
  have hgo : ∀ (d466 : Nat) (b1 : Bool) (x2 : Int) (m3 : M) (τ465 : Nat → Nat), St (Fm.of m) f f m3 → prises_L0 l d466 x2 = some rz → R0 [.c (.bool b1), .c (.int .i64 x2)] m3 := by
    intro d466
    induction d466 with
    | zero => intro b1 x2 m3 τ465 S464 hp; cases hp
    | succ d466 ihR0 =>
      intro b1 x2 m3 τ465 S464 hp
      refine hR0 _ _ _ ?_
      rw [prises_L0] at hp
      try rw [ha100.slLen]
      refine ifd hp (fun q467 hp => ?_) fun q467 hp => ?_; rotate_left
      · refine ⟨ha100.isSl, ?_⟩
        try rw [ha100.slLen]
        refine ifd hp (fun q477 hp => ?_) fun q477 hp => ?_; rotate_left
        · obtain rfl := Option.some.inj hp
          exact hq _ S464.ext'
        obtain ⟨x478, g479, hp⟩ := bsome hp
        obtain ⟨n8, g479i, g479l, g479⟩ := idx_some g479
        refine ⟨n8, g479i, (by first | exact g479l | (rw [ha100.slLen]; exact g479l)), _, (ha100.rdI g479 S464.sub), ?_⟩
        obtain rfl := Option.some.inj hp
        exact hq _ S464.ext'
      obtain ⟨x468, g469, hp⟩ := bsome hp
      obtain ⟨n4, g469i, g469l, g469⟩ := idx_some g469
      refine ⟨n4, g469i, (by first | exact g469l | (rw [ha100.slLen]; exact g469l)), _, (ha100.rdI g469 S464.sub), ?_⟩
      refine ifd hp (fun q470 hp => ?_) fun q470 hp => ?_; rotate_left
      · obtain ⟨g476, hp⟩ := gd_some hp
        refine ⟨g476, ?_⟩
        exact ihR0 _ _ _ τ465 S464 hp
      obtain ⟨g471, hp⟩ := gd_some hp
      refine ⟨g471, ?_⟩
      obtain ⟨x472, g473, hp⟩ := bsome hp
      obtain ⟨n6, g473i, g473l, g473⟩ := idx_some g473
      refine ⟨n6, g473i, (by first | exact g473l | (rw [ha100.slLen]; exact g473l)), _, (ha100.rdI g473 S464.sub), ?_⟩
      refine ifd hp (fun q474 hp => ?_) fun q474 hp => ?_
      · obtain rfl := Option.some.inj hp
        exact hq _ S464.ext'
      obtain ⟨g475, hp⟩ := gd_some hp
      refine ⟨g475, ?_⟩
      exact ihR0 _ _ _ τ465 S464 hp
  exact hgo _ _ _ _ τ0 S0 hp
theorem s_froms {l : List Tf} {ca100 : C} {m f : M} {Q : V → M → Prop} {rz : List Int} (hS : Pre f m) (ha100 : Sl f ca100 l) (hp : pfroms l = some rz) (hq : ∀ m' f' c0, Grw m f m' f' → Sl f' c0 rz → Q (.c c0) m') : Wc prog tbl 68 [.c ca100] m Q := by
  have S0 := hS.st
  obtain ⟨τ0, _⟩ : ∃ τ : Nat → Nat, True := ⟨fun _ => 0, trivial⟩
  refine w68 ?_
  unfold pfroms at hp
  refine ⟨ha100.isSl, ?_⟩
  intro R0 hR0
  have hgo : ∀ (d484 : Nat) (c1 : C) (x2 : Int) (l482 : List Int) (m3 : M) (τ481 : Nat → Nat), St (Fm.of m) f f m3 → Ow (Fm.of m) f τ481 m3 1 c1 l482 → pfroms_L0 l d484 l482 x2 = some rz → R0 [.c c1, .c (.int .i64 x2)] m3 := by
    intro d484
    induction d484 with
    | zero => intro c1 x2 l482 m3 τ481 S480 o483 hp; cases hp
    | succ d484 ihR0 =>
      intro c1 x2 l482 m3 τ481 S480 o483 hp
      refine hR0 _ _ _ ?_
      rw [pfroms_L0] at hp
      try rw [ha100.slLen]
      refine ifd hp (fun q485 hp => ?_) fun q485 hp => ?_; rotate_left
      · obtain ⟨f516, S517, k518, h519⟩ := o483.freeze S480
        obtain rfl := Option.some.inj hp
        exact hq _ f516 c1 S517.grw h519
      obtain ⟨v486, g487, hp⟩ := bsome hp
      obtain ⟨n4, g487i, g487l, g487⟩ := idx_some g487
      obtain ⟨c488, c490, c492, r494, h489, h491, h493⟩ := rd_Tf ha100 g487
      refine ⟨n4, g487i, (by first | exact g487l | (rw [ha100.slLen]; exact g487l)), _, _, _, _, _, _, (r494 _ S480.sub).1, ?_⟩
      intro m11 e495
      obtain ⟨τ498, S496, k497, L499⟩ := S480.blk e495 τ481 2
      have o483 := o483.k k497 (by decide)
      obtain ⟨m503, e502, S500, k501, L504⟩ := L499.sto S496 [(.int .i64 v486.From), (.bool v486.Whole), (.int .i64 v486.Least), c488, c490, c492]
      have o483 := o483.k k501 (by decide)
      refine ⟨m503, e502, ?_⟩
      refine ⟨trivial, _, L504.bk.rc rfl, ?_⟩
      obtain ⟨g513, hp⟩ := gd_some hp
      intro m14 e505
      obtain ⟨c509, m510, τ508, a511, S506, k507, o512⟩ := o483.app' ta25 S500 (a := v486.From) (show Rp.rep (α := Int) f _ v486.From from rfl) g513 e505
      have L514 := L504.k k507 (by decide)
      refine ⟨c509, m510, a511, ?_⟩
      obtain ⟨g515, hp⟩ := gd_some hp
      refine ⟨g515, ?_⟩
      exact ihR0 _ _ _ _ τ508 S506 o512 hp
  exact hgo _ _ _ _ _ τ0 S0 (Ow.nil _ _ _ _ _) hp
theorem s_sameCrops {l : List Tf} {t : Tf} {ca100 ca203 ca204 ca205 : C} {m f : M} {Q : V → M → Prop} {rz : Bool} (hS : Pre f m) (ha100 : Sl f ca100 l) (ha203 : Sl f ca203 t.Weeks) (ha204 : Sl f ca204 t.Counts) (ha205 : Sl f ca205 t.Rates) (hp : psameCrops l t = some rz) (hq : ∀ m', Ext m m' → Q (.c (.bool rz)) m') : Wc prog tbl 79 [.c ca100, .agg 6 [(.int .i64 t.From), (.bool t.Whole), (.int .i64 t.Least), ca203, ca204, ca205]] m Q := by
  have S0 := hS.st
  obtain ⟨τ0, _⟩ : ∃ τ : Nat → Nat, True := ⟨fun _ => 0, trivial⟩
  refine w79 ?_
  unfold psameCrops at hp
  intro m0 e520
  obtain ⟨τ523, S521, k522, L524⟩ := S0.blk e520 τ0 1
  refine ⟨trivial, _, L524.bk.rc rfl, ha205.isSl, ?_⟩
  obtain ⟨v525, g526, hp⟩ := bsome hp
  obtain ⟨n2, g526i, g526l, g526⟩ := idx_some g526
  obtain ⟨c527, c529, c531, r533, h528, h530, h532⟩ := rd_Tf ha100 g526
  refine ⟨n2, g526i, (by first | exact g526l | (rw [ha100.slLen]; exact g526l)), (ha100.isPt g526 _), _, ((r533 _ S521.sub).2.1 5 _ rfl), h532.isSl, ?_⟩
  try rw [ha205.slLen]
  try rw [h532.slLen]
  obtain rfl := Option.some.inj hp
  exact hq _ S521.ext'
theorem s_hasCrop {l : List Tf} {n : Int} {ca100 : C} {m f : M} {Q : V → M → Prop} {rz : Bool} (hS : Pre f m) (ha100 : Sl f ca100 l) (hp : phasCrop l n = some rz) (hq : ∀ m', Ext m m' → Q (.c (.bool rz)) m') : Wc prog tbl 32 [.c ca100, .c (.int .i64 n)] m Q := by
  have S0 := hS.st
  obtain ⟨τ0, _⟩ : ∃ τ : Nat → Nat, True := ⟨fun _ => 0, trivial⟩
  refine w32 ?_
  unfold phasCrop at hp
  obtain ⟨v534, g535, hp⟩ := bsome hp
  obtain ⟨n0, g535i, g535l, g535⟩ := idx_some g535
  obtain ⟨c536, c538, c540, r542, h537, h539, h541⟩ := rd_Tf ha100 g535
  refine ⟨n0, g535i, (by first | exact g535l | (rw [ha100.slLen]; exact g535l)), (ha100.isPt g535 _), _, ((r542 _ S0.sub).2.1 5 _ rfl), h541.isSl, ?_⟩
  try rw [h541.slLen]
  obtain ⟨r543, g544, hp⟩ := bsome hp
  refine s_isIndex (n := n) (size := (v534.Rates.length : Int)) S0.pre  g544 fun m3 e547 => ?_
  obtain ⟨S545, k546⟩ := S0.call e547 τ0
  refine ⟨_, rfl, ?_⟩
  obtain rfl := Option.some.inj hp
  exact hq _ S545.ext'
theorem s_tfTooMany {t : Tf} {ca103 ca104 ca105 : C} {m f : M} {Q : V → M → Prop} {rz : Bool} (hS : Pre f m) (ha103 : Sl f ca103 t.Weeks) (ha104 : Sl f ca104 t.Counts) (ha105 : Sl f ca105 t.Rates) (hp : ptfTooMany t = some rz) (hq : ∀ m', Ext m m' → Q (.c (.bool rz)) m') : Wc prog tbl 75 [.agg 6 [(.int .i64 t.From), (.bool t.Whole), (.int .i64 t.Least), ca103, ca104, ca105]] m Q := by
  have S0 := hS.st
  obtain ⟨τ0, _⟩ : ∃ τ : Nat → Nat, True := ⟨fun _ => 0, trivial⟩
  refine w75 ?_
  unfold ptfTooMany at hp
  intro m0 e548
  obtain ⟨τ551, S549, k550, L552⟩ := S0.blk e548 τ0 1
  refine ⟨trivial, _, L552.bk.rc rfl, ha103.isSl, ?_⟩
  try rw [ha103.slLen]
  refine ifd hp (fun q553 hp => ?_) fun q553 hp => ?_
  · obtain rfl := Option.some.inj hp
    exact hq _ S549.ext'
  refine ⟨trivial, _, L552.bk.rc rfl, ha104.isSl, ?_⟩
  try rw [ha104.slLen]
  refine ifd hp (fun q554 hp => ?_) fun q554 hp => ?_
  · obtain rfl := Option.some.inj hp
    exact hq _ S549.ext'
  refine ⟨trivial, _, L552.bk.rc rfl, ha105.isSl, ?_⟩
  try rw [ha105.slLen]
  obtain rfl := Option.some.inj hp
  exact hq _ S549.ext'
theorem s_eachTf1 {x : Tf} {passes : Tf → Option (Bool)} {b0 : Nat} {ca103 ca104 ca105 cb000 : C} {m f : M} {Q : V → M → Prop} {rz : Bool} (hS : Pre f m) (ha103 : Sl f ca103 x.Weeks) (ha104 : Sl f ca104 x.Counts) (ha105 : Sl f ca105 x.Rates) (hb0 : Bk f b0 1 [cb000]) (hb000 : Fv_Tf_Bool f cb000 passes) (hp : peachTf1 x passes = some rz) (hq : ∀ m', Ext m m' → Q (.c (.bool rz)) m') : Wc prog tbl 88 [.agg 6 [(.int .i64 x.From), (.bool x.Whole), (.int .i64 x.Least), ca103, ca104, ca105], .c (.ptr b0 0)] m Q := by
  have S0 := hS.st
  obtain ⟨τ0, _⟩ : ∃ τ : Nat → Nat, True := ⟨fun _ => 0, trivial⟩
  refine c88 ?_
  unfold peachTf1 at hp
  intro m0 e752
  obtain ⟨τ755, S753, k754, L756⟩ := S0.blk e752 τ0 1
  refine ⟨_, (hb0.sub S753.sub).rc rfl, _, _, _, _, _, _, L756.bk.ra, ?_⟩
  obtain ⟨r757, g758, hp⟩ := bsome hp
  refine hb000 _ _ _ _ _ _ _ _ (Sub.refl _) S753.pre ha103 ha104 ha105 g758 fun m9 e761 => ?_
  obtain ⟨S759, k760⟩ := S753.call e761 τ755
  have L762 := L756.k k760 (by decide)
  refine ⟨_, rfl, ?_⟩
  obtain rfl := Option.some.inj hp
  exact hq _ S759.ext'
theorem s_indexTf {l : List Tf} {p : Tf → Option (Bool)} {ca100 ca200 : C} {m f : M} {Q : V → M → Prop} {rz : Int} (hS : Pre f m) (ha100 : Sl f ca100 l) (ha200 : Fv_Tf_Bool f ca200 p) (hp : pindexTf l p = some rz) (hq : ∀ m', Ext m m' → Q (.c (.int .i64 rz)) m') : Wc prog tbl 95 [.c ca100, .c ca200] m Q := by
  have S0 := hS.st
  obtain ⟨τ0, _⟩ : ∃ τ : Nat → Nat, True := ⟨fun _ => 0, trivial⟩
  refine w95 ?_
  unfold pindexTf at hp
  refine ⟨ha100.isSl, ?_⟩
  intro R0 hR0
  have hgo : ∀ (d765 : Nat) (x1 : Int) (x2 : Int) (m3 : M) (τ764 : Nat → Nat), St (Fm.of m) f f m3 → pindexTf_L0 l p d765 x2 = some rz → R0 [.c (.int .i64 x1), .c (.int .i64 x2)] m3 := by
    intro d765
    induction d765 with
    | zero => intro x1 x2 m3 τ764 S763 hp; cases hp
    | succ d765 ihR0 =>
      intro x1 x2 m3 τ764 S763 hp
      refine hR0 _ _ _ ?_
      rw [pindexTf_L0] at hp
      try rw [ha100.slLen]
      refine ifd hp (fun q766 hp => ?_) fun q766 hp => ?_; rotate_left
      · obtain rfl := Option.some.inj hp
        exact hq _ S763.ext'
      obtain ⟨v767, g768, hp⟩ := bsome hp
      obtain ⟨n4, g768i, g768l, g768⟩ := idx_some g768
      obtain ⟨c769, c771, c773, r775, h770, h772, h774⟩ := rd_Tf ha100 g768
      refine ⟨n4, g768i, (by first | exact g768l | (rw [ha100.slLen]; exact g768l)), _, _, _, _, _, _, (r775 _ S763.sub).1, ?_⟩
      obtain ⟨r776, g777, hp⟩ := bsome hp
      refine ha200 _ _ _ _ _ _ _ _ (Sub.refl _) S763.pre h770 h772 h774 g777 fun m12 e780 => ?_
      obtain ⟨S778, k779⟩ := S763.call e780 τ764
      refine ⟨_, rfl, ?_⟩
      refine ifbb hp (fun q781 hp => ?_) fun q781 hp => ?_
      · obtain rfl := Option.some.inj hp
        exact hq _ S778.ext'
      obtain ⟨g782, hp⟩ := gd_some hp
      refine ⟨g782, ?_⟩
      exact ihR0 _ _ _ τ764 S778 hp
  exact hgo _ _ _ _ τ0 S0 hp
theorem s_containsTf {l : List Tf} {p : Tf → Option (Bool)} {ca100 ca200 : C} {m f : M} {Q : V → M → Prop} {rz : Bool} (hS : Pre f m) (ha100 : Sl f ca100 l) (ha200 : Fv_Tf_Bool f ca200 p) (hp : pcontainsTf l p = some rz) (hq : ∀ m', Ext m m' → Q (.c (.bool rz)) m') : Wc prog tbl 87 [.c ca100, .c ca200] m Q := by
  have S0 := hS.st
  obtain ⟨τ0, _⟩ : ∃ τ : Nat → Nat, True := ⟨fun _ => 0, trivial⟩
  refine w87 ?_
  unfold pcontainsTf at hp
  obtain ⟨r783, g784, hp⟩ := bsome hp
  refine s_indexTf (l := l) (p := p) S0.pre ha100 ha200 g784 fun m1 e787 => ?_
  obtain ⟨S785, k786⟩ := S0.call e787 τ0
  refine ⟨_, rfl, ?_⟩
  obtain rfl := Option.some.inj hp
  exact hq _ S785.ext'
theorem s_eachTf {l : List Tf} {passes : Tf → Option (Bool)} {ca100 ca200 : C} {m f : M} {Q : V → M → Prop} {rz : Bool} (hS : Pre f m) (ha100 : Sl f ca100 l) (ha200 : Fv_Tf_Bool f ca200 passes) (hp : peachTf l passes = some rz) (hq : ∀ m', Ext m m' → Q (.c (.bool rz)) m') : Wc prog tbl 76 [.c ca100, .c ca200] m Q := by
  have S0 := hS.st
  obtain ⟨τ0, _⟩ : ∃ τ : Nat → Nat, True := ⟨fun _ => 0, trivial⟩
  refine w76 ?_
  unfold peachTf at hp
  intro m0 e788
  obtain ⟨τ791, S789, k790, L792⟩ := S0.blk e788 τ0 1
  obtain ⟨f793, S794, k795, hb796⟩ := L792.freeze S789
  have hF804 : Fv_Tf_Bool f793 ((C.fn (Fn.func 88) [] [(W.c (C0.ptr m.nxt 0))])) (fun a797 => peachTf1 a797 passes) := by
    intro f' m' a797 c798 c800 c802 r Q hs hpre h799 h801 h803 hg hq
    exact s_eachTf1 hpre h799 h801 h803 (hb796.sub hs) ((ha200.sub k795.fs).sub hs) hg hq
  obtain ⟨r805, g806, hp⟩ := bsome hp
  refine s_containsTf (l := l) (p := (fun a797 => peachTf1 a797 passes)) S794.pre (ha100.sub k795.fs) hF804 g806 fun m2 e809 => ?_
  obtain ⟨S807, k808⟩ := S794.call e809 τ791
  refine ⟨_, rfl, ?_⟩
  obtain rfl := Option.some.inj hp
  exact hq _ S807.ext'
theorem s_indexTfs {l : List Tf} {p : Tf → Option (Bool)} {ca100 ca200 : C} {m f : M} {Q : V → M → Prop} {rz : Int} (hS : Pre f m) (ha100 : Sl f ca100 l) (ha200 : Fv_Tf_Bool f ca200 p) (hp : pindexTfs l p = some rz) (hq : ∀ m', Ext m m' → Q (.c (.int .i64 rz)) m') : Wc prog tbl 86 [.c ca100, .c ca200] m Q := by
  have S0 := hS.st
  obtain ⟨τ0, _⟩ : ∃ τ : Nat → Nat, True := ⟨fun _ => 0, trivial⟩
  refine w86 ?_
  unfold pindexTfs at hp
  refine ⟨ha100.isSl, ?_⟩
  intro R0 hR0
  have hgo : ∀ (d812 : Nat) (x1 : Int) (x2 : Int) (m3 : M) (τ811 : Nat → Nat), St (Fm.of m) f f m3 → pindexTfs_L0 l p d812 x2 = some rz → R0 [.c (.int .i64 x1), .c (.int .i64 x2)] m3 := by
    intro d812
    induction d812 with
    | zero => intro x1 x2 m3 τ811 S810 hp; cases hp
    | succ d812 ihR0 =>
      intro x1 x2 m3 τ811 S810 hp
      refine hR0 _ _ _ ?_
      rw [pindexTfs_L0] at hp
      try rw [ha100.slLen]
      refine ifd hp (fun q813 hp => ?_) fun q813 hp => ?_; rotate_left
      · obtain rfl := Option.some.inj hp
        exact hq _ S810.ext'
      obtain ⟨v814, g815, hp⟩ := bsome hp
      obtain ⟨n4, g815i, g815l, g815⟩ := idx_some g815
      obtain ⟨c816, c818, c820, r822, h817, h819, h821⟩ := rd_Tf ha100 g815
      refine ⟨n4, g815i, (by first | exact g815l | (rw [ha100.slLen]; exact g815l)), _, _, _, _, _, _, (r822 _ S810.sub).1, ?_⟩
      obtain ⟨r823, g824, hp⟩ := bsome hp
      refine ha200 _ _ _ _ _ _ _ _ (Sub.refl _) S810.pre h817 h819 h821 g824 fun m12 e827 => ?_
      obtain ⟨S825, k826⟩ := S810.call e827 τ811
      refine ⟨_, rfl, ?_⟩
      refine ifbb hp (fun q828 hp => ?_) fun q828 hp => ?_
      · obtain rfl := Option.some.inj hp
        exact hq _ S825.ext'
      obtain ⟨g829, hp⟩ := gd_some hp
      refine ⟨g829, ?_⟩
      exact ihR0 _ _ _ τ811 S825 hp
  exact hgo _ _ _ _ τ0 S0 hp
theorem s_containsTfs {l : List Tf} {p : Tf → Option (Bool)} {ca100 ca200 : C} {m f : M} {Q : V → M → Prop} {rz : Bool} (hS : Pre f m) (ha100 : Sl f ca100 l) (ha200 : Fv_Tf_Bool f ca200 p) (hp : pcontainsTfs l p = some rz) (hq : ∀ m', Ext m m' → Q (.c (.bool rz)) m') : Wc prog tbl 74 [.c ca100, .c ca200] m Q := by
  have S0 := hS.st
  obtain ⟨τ0, _⟩ : ∃ τ : Nat → Nat, True := ⟨fun _ => 0, trivial⟩
  refine w74 ?_
  unfold pcontainsTfs at hp
  obtain ⟨r830, g831, hp⟩ := bsome hp
  refine s_indexTfs (l := l) (p := p) S0.pre ha100 ha200 g831 fun m1 e834 => ?_
  obtain ⟨S832, k833⟩ := S0.call e834 τ0
  refine ⟨_, rfl, ?_⟩
  obtain rfl := Option.some.inj hp
  exact hq _ S832.ext'
theorem s_eachI1 {x : Int} {passes : Int → Option (Bool)} {b0 : Nat} {cb000 : C} {m f : M} {Q : V → M → Prop} {rz : Bool} (hS : Pre f m) (hb0 : Bk f b0 1 [cb000]) (hb000 : Fv_Int_Bool f cb000 passes) (hp : peachI1 x passes = some rz) (hq : ∀ m', Ext m m' → Q (.c (.bool rz)) m') : Wc prog tbl 97 [.c (.int .i64 x), .c (.ptr b0 0)] m Q := by
  have S0 := hS.st
  obtain ⟨τ0, _⟩ : ∃ τ : Nat → Nat, True := ⟨fun _ => 0, trivial⟩
  refine c97 ?_
  unfold peachI1 at hp
  refine ⟨_, (hb0.sub S0.sub).rc rfl, ?_⟩
  obtain ⟨r881, g882, hp⟩ := bsome hp
  refine hb000 _ _ _ _ _ (Sub.refl _) S0.pre  g882 fun m2 e885 => ?_
  obtain ⟨S883, k884⟩ := S0.call e885 τ0
  refine ⟨_, rfl, ?_⟩
  obtain rfl := Option.some.inj hp
  exact hq _ S883.ext'
theorem s_indexI {l : List Int} {p : Int → Option (Bool)} {ca100 ca200 : C} {m f : M} {Q : V → M → Prop} {rz : Int} (hS : Pre f m) (ha100 : Sl f ca100 l) (ha200 : Fv_Int_Bool f ca200 p) (hp : pindexI l p = some rz) (hq : ∀ m', Ext m m' → Q (.c (.int .i64 rz)) m') : Wc prog tbl 102 [.c ca100, .c ca200] m Q := by
  have S0 := hS.st
  obtain ⟨τ0, _⟩ : ∃ τ : Nat → Nat, True := ⟨fun _ => 0, trivial⟩
  refine w102 ?_
  unfold pindexI at hp
  refine ⟨ha100.isSl, ?_⟩
  intro R0 hR0
  have hgo : ∀ (d888 : Nat) (x1 : Int) (x2 : Int) (m3 : M) (τ887 : Nat → Nat), St (Fm.of m) f f m3 → pindexI_L0 l p d888 x2 = some rz → R0 [.c (.int .i64 x1), .c (.int .i64 x2)] m3 := by
    intro d888
    induction d888 with
    | zero => intro x1 x2 m3 τ887 S886 hp; cases hp
    | succ d888 ihR0 =>
      intro x1 x2 m3 τ887 S886 hp
      refine hR0 _ _ _ ?_
      rw [pindexI_L0] at hp
      try rw [ha100.slLen]
      refine ifd hp (fun q889 hp => ?_) fun q889 hp => ?_; rotate_left
      · obtain rfl := Option.some.inj hp
        exact hq _ S886.ext'
      obtain ⟨x890, g891, hp⟩ := bsome hp
      obtain ⟨n4, g891i, g891l, g891⟩ := idx_some g891
      refine ⟨n4, g891i, (by first | exact g891l | (rw [ha100.slLen]; exact g891l)), _, (ha100.rdI g891 S886.sub), ?_⟩
      obtain ⟨r892, g893, hp⟩ := bsome hp
      refine ha200 _ _ _ _ _ (Sub.refl _) S886.pre  g893 fun m7 e896 => ?_
      obtain ⟨S894, k895⟩ := S886.call e896 τ887
      refine ⟨_, rfl, ?_⟩
      refine ifbb hp (fun q897 hp => ?_) fun q897 hp => ?_
      · obtain rfl := Option.some.inj hp
        exact hq _ S894.ext'
      obtain ⟨g898, hp⟩ := gd_some hp
      refine ⟨g898, ?_⟩
      exact ihR0 _ _ _ τ887 S894 hp
  exact hgo _ _ _ _ τ0 S0 hp
theorem s_containsI {l : List Int} {p : Int → Option (Bool)} {ca100 ca200 : C} {m f : M} {Q : V → M → Prop} {rz : Bool} (hS : Pre f m) (ha100 : Sl f ca100 l) (ha200 : Fv_Int_Bool f ca200 p) (hp : pcontainsI l p = some rz) (hq : ∀ m', Ext m m' → Q (.c (.bool rz)) m') : Wc prog tbl 96 [.c ca100, .c ca200] m Q := by
  have S0 := hS.st
  obtain ⟨τ0, _⟩ : ∃ τ : Nat → Nat, True := ⟨fun _ => 0, trivial⟩
  refine w96 ?_
  unfold pcontainsI at hp
  obtain ⟨r899, g900, hp⟩ := bsome hp
  refine s_indexI (l := l) (p := p) S0.pre ha100 ha200 g900 fun m1 e903 => ?_
  obtain ⟨S901, k902⟩ := S0.call e903 τ0
  refine ⟨_, rfl, ?_⟩
  obtain rfl := Option.some.inj hp
  exact hq _ S901.ext'
theorem s_eachI {l : List Int} {passes : Int → Option (Bool)} {ca100 ca200 : C} {m f : M} {Q : V → M → Prop} {rz : Bool} (hS : Pre f m) (ha100 : Sl f ca100 l) (ha200 : Fv_Int_Bool f ca200 passes) (hp : peachI l passes = some rz) (hq : ∀ m', Ext m m' → Q (.c (.bool rz)) m') : Wc prog tbl 90 [.c ca100, .c ca200] m Q := by
  have S0 := hS.st
  obtain ⟨τ0, _⟩ : ∃ τ : Nat → Nat, True := ⟨fun _ => 0, trivial⟩
  refine w90 ?_
  unfold peachI at hp
  intro m0 e904
  obtain ⟨τ907, S905, k906, L908⟩ := S0.blk e904 τ0 1
  obtain ⟨f909, S910, k911, hb912⟩ := L908.freeze S905
  have hF914 : Fv_Int_Bool f909 ((C.fn (Fn.func 97) [] [(W.c (C0.ptr m.nxt 0))])) (fun a913 => peachI1 a913 passes) := by
    intro f' m' a913 r Q hs hpre  hg hq
    exact s_eachI1 hpre (hb912.sub hs) ((ha200.sub k911.fs).sub hs) hg hq
  obtain ⟨r915, g916, hp⟩ := bsome hp
  refine s_containsI (l := l) (p := (fun a913 => peachI1 a913 passes)) S910.pre (ha100.sub k911.fs) hF914 g916 fun m2 e919 => ?_
  obtain ⟨S917, k918⟩ := S910.call e919 τ907
  refine ⟨_, rfl, ?_⟩
  obtain rfl := Option.some.inj hp
  exact hq _ S917.ext'
theorem s_eachL1 {x : List Int} {passes : List Int → Option (Bool)} {b0 : Nat} {ca100 cb000 : C} {m f : M} {Q : V → M → Prop} {rz : Bool} (hS : Pre f m) (ha100 : Sl f ca100 x) (hb0 : Bk f b0 1 [cb000]) (hb000 : Fv_LInt_Bool f cb000 passes) (hp : peachL1 x passes = some rz) (hq : ∀ m', Ext m m' → Q (.c (.bool rz)) m') : Wc prog tbl 105 [.c ca100, .c (.ptr b0 0)] m Q := by
  have S0 := hS.st
  obtain ⟨τ0, _⟩ : ∃ τ : Nat → Nat, True := ⟨fun _ => 0, trivial⟩
  refine c105 ?_
  unfold peachL1 at hp
  refine ⟨_, (hb0.sub S0.sub).rc rfl, ?_⟩
  obtain ⟨r920, g921, hp⟩ := bsome hp
  refine hb000 _ _ _ _ _ _ (Sub.refl _) S0.pre ha100 g921 fun m2 e924 => ?_
  obtain ⟨S922, k923⟩ := S0.call e924 τ0
  refine ⟨_, rfl, ?_⟩
  obtain rfl := Option.some.inj hp
  exact hq _ S922.ext'
theorem s_indexL {l : List (List Int)} {p : List Int → Option (Bool)} {ca100 ca200 : C} {m f : M} {Q : V → M → Prop} {rz : Int} (hS : Pre f m) (ha100 : Sl f ca100 l) (ha200 : Fv_LInt_Bool f ca200 p) (hp : pindexL l p = some rz) (hq : ∀ m', Ext m m' → Q (.c (.int .i64 rz)) m') : Wc prog tbl 106 [.c ca100, .c ca200] m Q := by
  have S0 := hS.st
  obtain ⟨τ0, _⟩ : ∃ τ : Nat → Nat, True := ⟨fun _ => 0, trivial⟩
  refine w106 ?_
  unfold pindexL at hp
  refine ⟨ha100.isSl, ?_⟩
  intro R0 hR0
  have hgo : ∀ (d927 : Nat) (x1 : Int) (x2 : Int) (m3 : M) (τ926 : Nat → Nat), St (Fm.of m) f f m3 → pindexL_L0 l p d927 x2 = some rz → R0 [.c (.int .i64 x1), .c (.int .i64 x2)] m3 := by
    intro d927
    induction d927 with
    | zero => intro x1 x2 m3 τ926 S925 hp; cases hp
    | succ d927 ihR0 =>
      intro x1 x2 m3 τ926 S925 hp
      refine hR0 _ _ _ ?_
      rw [pindexL_L0] at hp
      try rw [ha100.slLen]
      refine ifd hp (fun q928 hp => ?_) fun q928 hp => ?_; rotate_left
      · obtain rfl := Option.some.inj hp
        exact hq _ S925.ext'
      obtain ⟨v929, g930, hp⟩ := bsome hp
      obtain ⟨n4, g930i, g930l, g930⟩ := idx_some g930
      obtain ⟨c931, r932, h933⟩ := ha100.rdS g930
      refine ⟨n4, g930i, (by first | exact g930l | (rw [ha100.slLen]; exact g930l)), _, (r932 _ S925.sub), ?_⟩
      obtain ⟨r934, g935, hp⟩ := bsome hp
      refine ha200 _ _ _ _ _ _ (Sub.refl _) S925.pre h933 g935 fun m7 e938 => ?_
      obtain ⟨S936, k937⟩ := S925.call e938 τ926
      refine ⟨_, rfl, ?_⟩
      refine ifbb hp (fun q939 hp => ?_) fun q939 hp => ?_
      · obtain rfl := Option.some.inj hp
        exact hq _ S936.ext'
      obtain ⟨g940, hp⟩ := gd_some hp
      refine ⟨g940, ?_⟩
      exact ihR0 _ _ _ τ926 S936 hp
  exact hgo _ _ _ _ τ0 S0 hp
theorem s_containsL {l : List (List Int)} {p : List Int → Option (Bool)} {ca100 ca200 : C} {m f : M} {Q : V → M → Prop} {rz : Bool} (hS : Pre f m) (ha100 : Sl f ca100 l) (ha200 : Fv_LInt_Bool f ca200 p) (hp : pcontainsL l p = some rz) (hq : ∀ m', Ext m m' → Q (.c (.bool rz)) m') : Wc prog tbl 104 [.c ca100, .c ca200] m Q := by
  have S0 := hS.st
  obtain ⟨τ0, _⟩ : ∃ τ : Nat → Nat, True := ⟨fun _ => 0, trivial⟩
  refine w104 ?_
  unfold pcontainsL at hp
  obtain ⟨r941, g942, hp⟩ := bsome hp
  refine s_indexL (l := l) (p := p) S0.pre ha100 ha200 g942 fun m1 e945 => ?_
  obtain ⟨S943, k944⟩ := S0.call e945 τ0
  refine ⟨_, rfl, ?_⟩
  obtain rfl := Option.some.inj hp
  exact hq _ S943.ext'
theorem s_eachL {l : List (List Int)} {passes : List Int → Option (Bool)} {ca100 ca200 : C} {m f : M} {Q : V → M → Prop} {rz : Bool} (hS : Pre f m) (ha100 : Sl f ca100 l) (ha200 : Fv_LInt_Bool f ca200 passes) (hp : peachL l passes = some rz) (hq : ∀ m', Ext m m' → Q (.c (.bool rz)) m') : Wc prog tbl 100 [.c ca100, .c ca200] m Q := by
  have S0 := hS.st
  obtain ⟨τ0, _⟩ : ∃ τ : Nat → Nat, True := ⟨fun _ => 0, trivial⟩
  refine w100 ?_
  unfold peachL at hp
  intro m0 e946
  obtain ⟨τ949, S947, k948, L950⟩ := S0.blk e946 τ0 1
  obtain ⟨f951, S952, k953, hb954⟩ := L950.freeze S947
  have hF958 : Fv_LInt_Bool f951 ((C.fn (Fn.func 105) [] [(W.c (C0.ptr m.nxt 0))])) (fun a955 => peachL1 a955 passes) := by
    intro f' m' a955 c956 r Q hs hpre h957 hg hq
    exact s_eachL1 hpre h957 (hb954.sub hs) ((ha200.sub k953.fs).sub hs) hg hq
  obtain ⟨r959, g960, hp⟩ := bsome hp
  refine s_containsL (l := l) (p := (fun a955 => peachL1 a955 passes)) S952.pre (ha100.sub k953.fs) hF958 g960 fun m2 e963 => ?_
  obtain ⟨S961, k962⟩ := S952.call e963 τ949
  refine ⟨_, rfl, ?_⟩
  obtain rfl := Option.some.inj hp
  exact hq _ S961.ext'
theorem s_eachLL1 {x : List (List Int)} {passes : List (List Int) → Option (Bool)} {b0 : Nat} {ca100 cb000 : C} {m f : M} {Q : V → M → Prop} {rz : Bool} (hS : Pre f m) (ha100 : Sl f ca100 x) (hb0 : Bk f b0 1 [cb000]) (hb000 : Fv_LLInt_Bool f cb000 passes) (hp : peachLL1 x passes = some rz) (hq : ∀ m', Ext m m' → Q (.c (.bool rz)) m') : Wc prog tbl 99 [.c ca100, .c (.ptr b0 0)] m Q := by
  have S0 := hS.st
  obtain ⟨τ0, _⟩ : ∃ τ : Nat → Nat, True := ⟨fun _ => 0, trivial⟩
  refine c99 ?_
  unfold peachLL1 at hp
  refine ⟨_, (hb0.sub S0.sub).rc rfl, ?_⟩
  obtain ⟨r964, g965, hp⟩ := bsome hp
  refine hb000 _ _ _ _ _ _ (Sub.refl _) S0.pre ha100 g965 fun m2 e968 => ?_
  obtain ⟨S966, k967⟩ := S0.call e968 τ0
  refine ⟨_, rfl, ?_⟩
  obtain rfl := Option.some.inj hp
  exact hq _ S966.ext'
theorem s_indexLL {l : List (List (List Int))} {p : List (List Int) → Option (Bool)} {ca100 ca200 : C} {m f : M} {Q : V → M → Prop} {rz : Int} (hS : Pre f m) (ha100 : Sl f ca100 l) (ha200 : Fv_LLInt_Bool f ca200 p) (hp : pindexLL l p = some rz) (hq : ∀ m', Ext m m' → Q (.c (.int .i64 rz)) m') : Wc prog tbl 103 [.c ca100, .c ca200] m Q := by
  have S0 := hS.st
  obtain ⟨τ0, _⟩ : ∃ τ : Nat → Nat, True := ⟨fun _ => 0, trivial⟩
  refine w103 ?_
  unfold pindexLL at hp
  refine ⟨ha100.isSl, ?_⟩
  intro R0 hR0
  have hgo : ∀ (d971 : Nat) (x1 : Int) (x2 : Int) (m3 : M) (τ970 : Nat → Nat), St (Fm.of m) f f m3 → pindexLL_L0 l p d971 x2 = some rz → R0 [.c (.int .i64 x1), .c (.int .i64 x2)] m3 := by
    intro d971
    induction d971 with
    | zero => intro x1 x2 m3 τ970 S969 hp; cases hp
    | succ d971 ihR0 =>
      intro x1 x2 m3 τ970 S969 hp
      refine hR0 _ _ _ ?_
      rw [pindexLL_L0] at hp
      try rw [ha100.slLen]
      refine ifd hp (fun q972 hp => ?_) fun q972 hp => ?_; rotate_left
      · obtain rfl := Option.some.inj hp
        exact hq _ S969.ext'
      obtain ⟨v973, g974, hp⟩ := bsome hp
      obtain ⟨n4, g974i, g974l, g974⟩ := idx_some g974
      obtain ⟨c975, r976, h977⟩ := ha100.rdS g974
      refine ⟨n4, g974i, (by first | exact g974l | (rw [ha100.slLen]; exact g974l)), _, (r976 _ S969.sub), ?_⟩
      obtain ⟨r978, g979, hp⟩ := bsome hp
      refine ha200 _ _ _ _ _ _ (Sub.refl _) S969.pre h977 g979 fun m7 e982 => ?_
      obtain ⟨S980, k981⟩ := S969.call e982 τ970
      refine ⟨_, rfl, ?_⟩
      refine ifbb hp (fun q983 hp => ?_) fun q983 hp => ?_
      · obtain rfl := Option.some.inj hp
        exact hq _ S980.ext'
      obtain ⟨g984, hp⟩ := gd_some hp
      refine ⟨g984, ?_⟩
      exact ihR0 _ _ _ τ970 S980 hp
  exact hgo _ _ _ _ τ0 S0 hp
theorem s_containsLL {l : List (List (List Int))} {p : List (List Int) → Option (Bool)} {ca100 ca200 : C} {m f : M} {Q : V → M → Prop} {rz : Bool} (hS : Pre f m) (ha100 : Sl f ca100 l) (ha200 : Fv_LLInt_Bool f ca200 p) (hp : pcontainsLL l p = some rz) (hq : ∀ m', Ext m m' → Q (.c (.bool rz)) m') : Wc prog tbl 98 [.c ca100, .c ca200] m Q := by
  have S0 := hS.st
  obtain ⟨τ0, _⟩ : ∃ τ : Nat → Nat, True := ⟨fun _ => 0, trivial⟩
  refine w98 ?_
  unfold pcontainsLL at hp
  obtain ⟨r985, g986, hp⟩ := bsome hp
  refine s_indexLL (l := l) (p := p) S0.pre ha100 ha200 g986 fun m1 e989 => ?_
  obtain ⟨S987, k988⟩ := S0.call e989 τ0
  refine ⟨_, rfl, ?_⟩
  obtain rfl := Option.some.inj hp
  exact hq _ S987.ext'
theorem s_eachLL {l : List (List (List Int))} {passes : List (List Int) → Option (Bool)} {ca100 ca200 : C} {m f : M} {Q : V → M → Prop} {rz : Bool} (hS : Pre f m) (ha100 : Sl f ca100 l) (ha200 : Fv_LLInt_Bool f ca200 passes) (hp : peachLL l passes = some rz) (hq : ∀ m', Ext m m' → Q (.c (.bool rz)) m') : Wc prog tbl 91 [.c ca100, .c ca200] m Q := by
  have S0 := hS.st
  obtain ⟨τ0, _⟩ : ∃ τ : Nat → Nat, True := ⟨fun _ => 0, trivial⟩
  refine w91 ?_
  unfold peachLL at hp
  intro m0 e990
  obtain ⟨τ993, S991, k992, L994⟩ := S0.blk e990 τ0 1
  obtain ⟨f995, S996, k997, hb998⟩ := L994.freeze S991
  have hF1002 : Fv_LLInt_Bool f995 ((C.fn (Fn.func 99) [] [(W.c (C0.ptr m.nxt 0))])) (fun a999 => peachLL1 a999 passes) := by
    intro f' m' a999 c1000 r Q hs hpre h1001 hg hq
    exact s_eachLL1 hpre h1001 (hb998.sub hs) ((ha200.sub k997.fs).sub hs) hg hq
  obtain ⟨r1003, g1004, hp⟩ := bsome hp
  refine s_containsLL (l := l) (p := (fun a999 => peachLL1 a999 passes)) S996.pre (ha100.sub k997.fs) hF1002 g1004 fun m2 e1007 => ?_
  obtain ⟨S1005, k1006⟩ := S996.call e1007 τ993
  refine ⟨_, rfl, ?_⟩
  obtain rfl := Option.some.inj hp
  exact hq _ S1005.ext'
theorem s_validWeek {t : Tf} {rates : List Int} {ca103 ca104 ca105 ca200 : C} {m f : M} {Q : V → M → Prop} {rz : Bool} (hS : Pre f m) (ha103 : Sl f ca103 t.Weeks) (ha104 : Sl f ca104 t.Counts) (ha105 : Sl f ca105 t.Rates) (ha200 : Sl f ca200 rates) (hp : pvalidWeek t rates = some rz) (hq : ∀ m', Ext m m' → Q (.c (.bool rz)) m') : Wc prog tbl 101 [.agg 6 [(.int .i64 t.From), (.bool t.Whole), (.int .i64 t.Least), ca103, ca104, ca105], .c ca200] m Q := by
  have S0 := hS.st
  obtain ⟨τ0, _⟩ : ∃ τ : Nat → Nat, True := ⟨fun _ => 0, trivial⟩
  refine w101 ?_
  unfold pvalidWeek at hp
  intro m0 e1027
  obtain ⟨τ1030, S1028, k1029, L1031⟩ := S0.blk e1027 τ0 1
  refine ⟨ha200.isSl, trivial, _, L1031.bk.rc rfl, ha104.isSl, ?_⟩
  try rw [ha200.slLen]
  try rw [ha104.slLen]
  refine ifd hp (fun q1032 hp => ?_) fun q1032 hp => ?_; rotate_left
  · obtain rfl := Option.some.inj hp
    exact hq _ S1028.ext'
  have hF1034 : Fv_Int_Bool f ((C.fn (Fn.func 89) [] [])) (fun a1033 => pisHundredths a1033) := by
    intro f' m' a1033 r Q hs hpre  hg hq
    exact s_isHundredths hpre  hg hq
  obtain ⟨r1035, g1036, hp⟩ := bsome hp
  refine s_eachI (l := rates) (passes := (fun a1033 => pisHundredths a1033)) S1028.pre ha200 hF1034 g1036 fun m3 e1039 => ?_
  obtain ⟨S1037, k1038⟩ := S1028.call e1039 τ1030
  have L1040 := L1031.k k1038 (by decide)
  refine ⟨_, rfl, ?_⟩
  obtain rfl := Option.some.inj hp
  exact hq _ S1037.ext'
theorem s_validCrop {t : Tf} {weeks : List (List Int)} {ca103 ca104 ca105 ca200 : C} {m f : M} {Q : V → M → Prop} {rz : Bool} (hS : Pre f m) (ha103 : Sl f ca103 t.Weeks) (ha104 : Sl f ca104 t.Counts) (ha105 : Sl f ca105 t.Rates) (ha200 : Sl f ca200 weeks) (hp : pvalidCrop t weeks = some rz) (hq : ∀ m', Ext m m' → Q (.c (.bool rz)) m') : Wc prog tbl 92 [.agg 6 [(.int .i64 t.From), (.bool t.Whole), (.int .i64 t.Least), ca103, ca104, ca105], .c ca200] m Q := by
  have S0 := hS.st
  obtain ⟨τ0, _⟩ : ∃ τ : Nat → Nat, True := ⟨fun _ => 0, trivial⟩
  refine w92 ?_
  unfold pvalidCrop at hp
  intro m0 e1041
  obtain ⟨τ1044, S1042, k1043, L1045⟩ := S0.blk e1041 τ0 1
  refine ⟨ha200.isSl, trivial, _, L1045.bk.rc rfl, ha103.isSl, ?_⟩
  try rw [ha200.slLen]
  try rw [ha103.slLen]
  refine ifd hp (fun q1046 hp => ?_) fun q1046 hp => ?_; rotate_left
  · obtain rfl := Option.some.inj hp
    exact hq _ S1042.ext'
  refine ⟨_, _, _, _, _, _, L1045.bk.ra, ?_⟩
  obtain ⟨l8, wl8, el8⟩ : ∃ ws, mapO vW [.agg 6 [(.int .i64 t.From), (.bool t.Whole), (.int .i64 t.Least), ca103, ca104, ca105]] = some ws ∧ mapS wV ws = [.agg 6 [(.int .i64 t.From), (.bool t.Whole), (.int .i64 t.Least), ca103, ca104, ca105]] := (vWs_cons (vW_agg (nf_cons rfl (nf_cons rfl (nf_cons rfl (nf_cons ha103.noFn (nf_cons ha104.noFn (nf_cons ha105.noFn nf_nil))))))) vWs_nil)
  rw [wl8, optB_some]
  have hF1050 : Fv_LInt_Bool f ((C.fn (Fn.func 101) l8 [])) (fun a1047 => pvalidWeek t a1047) := by
    intro f' m' a1047 c1048 r Q hs hpre h1049 hg hq
    show Wc prog tbl 101 (appS (mapS wV l8) _) m' Q
    rw [el8]
    exact s_validWeek hpre (ha103.sub hs) (ha104.sub hs) (ha105.sub hs) h1049 hg hq
  obtain ⟨r1051, g1052, hp⟩ := bsome hp
  refine s_eachL (l := weeks) (passes := (fun a1047 => pvalidWeek t a1047)) S1042.pre ha200 hF1050 g1052 fun m10 e1055 => ?_
  obtain ⟨S1053, k1054⟩ := S1042.call e1055 τ1044
  have L1056 := L1045.k k1054 (by decide)
  refine ⟨_, rfl, ?_⟩
  obtain rfl := Option.some.inj hp
  exact hq _ S1053.ext'
theorem s_tfValid {t : Tf} {ca103 ca104 ca105 : C} {m f : M} {Q : V → M → Prop} {rz : Bool} (hS : Pre f m) (ha103 : Sl f ca103 t.Weeks) (ha104 : Sl f ca104 t.Counts) (ha105 : Sl f ca105 t.Rates) (hp : ptfValid t = some rz) (hq : ∀ m', Ext m m' → Q (.c (.bool rz)) m') : Wc prog tbl 77 [.agg 6 [(.int .i64 t.From), (.bool t.Whole), (.int .i64 t.Least), ca103, ca104, ca105]] m Q := by
  have S0 := hS.st
  obtain ⟨τ0, _⟩ : ∃ τ : Nat → Nat, True := ⟨fun _ => 0, trivial⟩
  refine w77 ?_
  unfold ptfValid at hp
  intro m0 e1057
  obtain ⟨τ1060, S1058, k1059, L1061⟩ := S0.blk e1057 τ0 1
  refine ⟨trivial, _, L1061.bk.rc rfl, ?_⟩
  obtain ⟨r1062, g1063, hp⟩ := bsome hp
  refine s_isDay (n := t.From) S1058.pre  g1063 fun m3 e1066 => ?_
  obtain ⟨S1064, k1065⟩ := S1058.call e1066 τ1060
  have L1067 := L1061.k k1065 (by decide)
  refine ⟨_, rfl, ?_⟩
  refine ifbb hp (fun q1068 hp => ?_) fun q1068 hp => ?_; rotate_left
  · obtain rfl := Option.some.inj hp
    exact hq _ S1064.ext'
  refine ⟨trivial, _, L1067.bk.rc rfl, ?_⟩
  obtain ⟨r1069, g1070, hp⟩ := bsome hp
  refine s_isHundredths (n := t.Least) S1064.pre  g1070 fun m7 e1073 => ?_
  obtain ⟨S1071, k1072⟩ := S1064.call e1073 τ1060
  have L1074 := L1067.k k1072 (by decide)
  refine ⟨_, rfl, ?_⟩
  refine ifbb hp (fun q1075 hp => ?_) fun q1075 hp => ?_; rotate_left
  · obtain rfl := Option.some.inj hp
    exact hq _ S1071.ext'
  refine ⟨trivial, _, L1074.bk.rc rfl, ?_⟩
  obtain ⟨r1076, g1077, hp⟩ := bsome hp
  refine s_rises (l := t.Weeks) S1071.pre ha103 g1077 fun m11 e1080 => ?_
  obtain ⟨S1078, k1079⟩ := S1071.call e1080 τ1060
  have L1081 := L1074.k k1079 (by decide)
  refine ⟨_, rfl, ?_⟩
  refine ifbb hp (fun q1082 hp => ?_) fun q1082 hp => ?_; rotate_left
  · obtain rfl := Option.some.inj hp
    exact hq _ S1078.ext'
  refine ⟨trivial, _, L1081.bk.rc rfl, ?_⟩
  have hF1084 : Fv_Int_Bool f ((C.fn (Fn.func 33) [] [])) (fun a1083 => pisDay a1083) := by
    intro f' m' a1083 r Q hs hpre  hg hq
    exact s_isDay hpre  hg hq
  obtain ⟨r1085, g1086, hp⟩ := bsome hp
  refine s_eachI (l := t.Weeks) (passes := (fun a1083 => pisDay a1083)) S1078.pre ha103 hF1084 g1086 fun m15 e1089 => ?_
  obtain ⟨S1087, k1088⟩ := S1078.call e1089 τ1060
  have L1090 := L1081.k k1088 (by decide)
  refine ⟨_, rfl, ?_⟩
  refine ifbb hp (fun q1091 hp => ?_) fun q1091 hp => ?_; rotate_left
  · obtain rfl := Option.some.inj hp
    exact hq _ S1087.ext'
  refine ⟨trivial, _, L1090.bk.rc rfl, ?_⟩
  obtain ⟨r1092, g1093, hp⟩ := bsome hp
  refine s_rises (l := t.Counts) S1087.pre ha104 g1093 fun m19 e1096 => ?_
  obtain ⟨S1094, k1095⟩ := S1087.call e1096 τ1060
  have L1097 := L1090.k k1095 (by decide)
  refine ⟨_, rfl, ?_⟩
  refine ifbb hp (fun q1098 hp => ?_) fun q1098 hp => ?_; rotate_left
  · obtain rfl := Option.some.inj hp
    exact hq _ S1094.ext'
  refine ⟨trivial, _, L1097.bk.rc rfl, trivial, _, L1097.bk.rc rfl, ha104.isSl, ?_⟩
  obtain ⟨g1099, hp⟩ := gd_some hp
  refine ⟨(by first | exact g1099 | (rw [ha104.slLen]; exact g1099)), ?_⟩
  obtain ⟨x1100, g1101, hp⟩ := bsome hp
  obtain ⟨n23, g1101i, g1101l, g1101⟩ := idx_some g1101
  refine ⟨n23, (by first | exact g1101i | (rw [ha104.slLen]; exact g1101i)), (by first | exact g1101l | (rw [ha104.slLen]; exact g1101l)), _, (ha104.rdI g1101 S1094.sub), ?_⟩
  refine ifd hp (fun q1102 hp => ?_) fun q1102 hp => ?_; rotate_left
  · obtain rfl := Option.some.inj hp
    exact hq _ S1094.ext'
  refine ⟨trivial, _, L1097.bk.rc rfl, ha105.isSl, ?_⟩
  try rw [ha105.slLen]
  refine ifd hp (fun q1103 hp => ?_) fun q1103 hp => ?_; rotate_left
  · obtain rfl := Option.some.inj hp
    exact hq _ S1094.ext'
  refine ⟨trivial, _, L1097.bk.rc rfl, _, _, _, _, _, _, L1097.bk.ra, ?_⟩
  obtain ⟨l33, wl33, el33⟩ : ∃ ws, mapO vW [.agg 6 [(.int .i64 t.From), (.bool t.Whole), (.int .i64 t.Least), ca103, ca104, ca105]] = some ws ∧ mapS wV ws = [.agg 6 [(.int .i64 t.From), (.bool t.Whole), (.int .i64 t.Least), ca103, ca104, ca105]] := (vWs_cons (vW_agg (nf_cons rfl (nf_cons rfl (nf_cons rfl (nf_cons ha103.noFn (nf_cons ha104.noFn (nf_cons ha105.noFn nf_nil))))))) vWs_nil)
  rw [wl33, optB_some]
  have hF1107 : Fv_LLInt_Bool f ((C.fn (Fn.func 92) l33 [])) (fun a1104 => pvalidCrop t a1104) := by
    intro f' m' a1104 c1105 r Q hs hpre h1106 hg hq
    show Wc prog tbl 92 (appS (mapS wV l33) _) m' Q
    rw [el33]
    exact s_validCrop hpre (ha103.sub hs) (ha104.sub hs) (ha105.sub hs) h1106 hg hq
  obtain ⟨r1108, g1109, hp⟩ := bsome hp
  refine s_eachLL (l := t.Rates) (passes := (fun a1104 => pvalidCrop t a1104)) S1094.pre ha105 hF1107 g1109 fun m35 e1112 => ?_
  obtain ⟨S1110, k1111⟩ := S1094.call e1112 τ1060
  have L1113 := L1097.k k1111 (by decide)
  refine ⟨_, rfl, ?_⟩
  obtain rfl := Option.some.inj hp
  exact hq _ S1110.ext'
theorem s_tooMany {l : List Tf} {ca100 : C} {m f : M} {Q : V → M → Prop} {rz : Bool} (hS : Pre f m) (ha100 : Sl f ca100 l) (hp : ptooMany l = some rz) (hq : ∀ m', Ext m m' → Q (.c (.bool rz)) m') : Wc prog tbl 60 [.c ca100] m Q := by
  have S0 := hS.st
  obtain ⟨τ0, _⟩ : ∃ τ : Nat → Nat, True := ⟨fun _ => 0, trivial⟩
  refine w60 ?_
  unfold ptooMany at hp
  refine ⟨ha100.isSl, ?_⟩
  try rw [ha100.slLen]
  refine ifd hp (fun q1114 hp => ?_) fun q1114 hp => ?_
  · obtain rfl := Option.some.inj hp
    exact hq _ S0.ext'
  have hF1122 : Fv_Tf_Bool f ((C.fn (Fn.func 75) [] [])) (fun a1115 => ptfTooMany a1115) := by
    intro f' m' a1115 c1116 c1118 c1120 r Q hs hpre h1117 h1119 h1121 hg hq
    exact s_tfTooMany hpre h1117 h1119 h1121 hg hq
  obtain ⟨r1123, g1124, hp⟩ := bsome hp
  refine s_containsTfs (l := l) (p := (fun a1115 => ptfTooMany a1115)) S0.pre ha100 hF1122 g1124 fun m1 e1127 => ?_
  obtain ⟨S1125, k1126⟩ := S0.call e1127 τ0
  refine ⟨_, rfl, ?_⟩
  obtain rfl := Option.some.inj hp
  exact hq _ S1125.ext'
theorem s_tfsValid {l : List Tf} {ca100 : C} {m f : M} {Q : V → M → Prop} {rz : Bool} (hS : Pre f m) (ha100 : Sl f ca100 l) (hp : ptfsValid l = some rz) (hq : ∀ m', Ext m m' → Q (.c (.bool rz)) m') : Wc prog tbl 61 [.c ca100] m Q := by
  have S0 := hS.st
  obtain ⟨τ0, _⟩ : ∃ τ : Nat → Nat, True := ⟨fun _ => 0, trivial⟩
  refine w61 ?_
  unfold ptfsValid at hp
  have hF1135 : Fv_Tf_Bool f ((C.fn (Fn.func 77) [] [])) (fun a1128 => ptfValid a1128) := by
    intro f' m' a1128 c1129 c1131 c1133 r Q hs hpre h1130 h1132 h1134 hg hq
    exact s_tfValid hpre h1130 h1132 h1134 hg hq
  obtain ⟨r1136, g1137, hp⟩ := bsome hp
  refine s_eachTf (l := l) (passes := (fun a1128 => ptfValid a1128)) S0.pre ha100 hF1135 g1137 fun m1 e1140 => ?_
  obtain ⟨S1138, k1139⟩ := S0.call e1140 τ0
  refine ⟨_, rfl, ?_⟩
  refine ifbb hp (fun q1141 hp => ?_) fun q1141 hp => ?_; rotate_left
  · obtain rfl := Option.some.inj hp
    exact hq _ S1138.ext'
  obtain ⟨r1142, g1143, hp⟩ := bsome hp
  refine s_froms (l := l) S1138.pre ha100 g1143 fun m4 f1147 c1148 e1146 h1149 => ?_
  obtain ⟨S1144, k1145⟩ := S1138.callG e1146 τ0
  refine ⟨_, rfl, ?_⟩
  obtain ⟨r1150, g1151, hp⟩ := bsome hp
  refine s_rises (l := r1142) S1144.pre h1149 g1151 fun m7 e1154 => ?_
  obtain ⟨S1152, k1153⟩ := S1144.call e1154 τ0
  refine ⟨_, rfl, ?_⟩
  refine ifbb hp (fun q1155 hp => ?_) fun q1155 hp => ?_; rotate_left
  · obtain rfl := Option.some.inj hp
    exact hq _ S1152.ext'
  obtain ⟨l9, wl9, el9⟩ : ∃ ws, mapO vW [.c ca100] = some ws ∧ mapS wV ws = [.c ca100] := (vWs_cons (vW_c ha100.noFn) vWs_nil)
  rw [wl9, optB_some]
  have hF1163 : Fv_Tf_Bool f1147 ((C.fn (Fn.func 79) l9 [])) (fun a1156 => psameCrops l a1156) := by
    intro f' m' a1156 c1157 c1159 c1161 r Q hs hpre h1158 h1160 h1162 hg hq
    show Wc prog tbl 79 (appS (mapS wV l9) _) m' Q
    rw [el9]
    exact s_sameCrops hpre ((ha100.sub k1145.fs).sub hs) h1158 h1160 h1162 hg hq
  obtain ⟨r1164, g1165, hp⟩ := bsome hp
  refine s_eachTf (l := l) (passes := (fun a1156 => psameCrops l a1156)) S1152.pre (ha100.sub k1145.fs) hF1163 g1165 fun m11 e1168 => ?_
  obtain ⟨S1166, k1167⟩ := S1152.call e1168 τ0
  refine ⟨_, rfl, ?_⟩
  obtain rfl := Option.some.inj hp
  exact hq _ S1166.ext'
theorem s_check {l : List Tf} {ca100 : C} {m f : M} {Q : V → M → Prop} {rz : Int} (hS : Pre f m) (ha100 : Sl f ca100 l) (hp : pcheck l = some rz) (hq : ∀ m', Ext m m' → Q (.c (.int .i64 rz)) m') : Wc prog tbl 45 [.c ca100] m Q := by
  have S0 := hS.st
  obtain ⟨τ0, _⟩ : ∃ τ : Nat → Nat, True := ⟨fun _ => 0, trivial⟩
  refine w45 ?_
  unfold pcheck at hp
  obtain ⟨r1207, g1208, hp⟩ := bsome hp
  refine s_tooMany (l := l) S0.pre ha100 g1208 fun m1 e1211 => ?_
  obtain ⟨S1209, k1210⟩ := S0.call e1211 τ0
  refine ⟨_, rfl, ?_⟩
  refine ifbb hp (fun q1212 hp => ?_) fun q1212 hp => ?_
  · obtain rfl := Option.some.inj hp
    exact hq _ S1209.ext'
  obtain ⟨r1213, g1214, hp⟩ := bsome hp
  refine s_tfsValid (l := l) S1209.pre ha100 g1214 fun m4 e1217 => ?_
  obtain ⟨S1215, k1216⟩ := S1209.call e1217 τ0
  refine ⟨_, rfl, ?_⟩
  refine ifnb hp (fun q1218 hp => ?_) fun q1218 hp => ?_
  · obtain rfl := Option.some.inj hp
    exact hq _ S1215.ext'
  obtain rfl := Option.some.inj hp
  exact hq _ S1215.ext'
theorem s_hasRates {l : List Tf} {which : Int} {crop : Int} {week : Int} {ca100 : C} {m f : M} {Q : V → M → Prop} {rz : Bool} (hS : Pre f m) (ha100 : Sl f ca100 l) (hp : phasRates l which crop week = some rz) (hq : ∀ m', Ext m m' → Q (.c (.bool rz)) m') : Wc prog tbl 27 [.c ca100, .c (.int .i64 which), .c (.int .i64 crop), .c (.int .i64 week)] m Q := by
  have S0 := hS.st
  obtain ⟨τ0, _⟩ : ∃ τ : Nat → Nat, True := ⟨fun _ => 0, trivial⟩
  refine w27 ?_
  unfold phasRates at hp
  refine ⟨ha100.isSl, ?_⟩
  try rw [ha100.slLen]
  obtain ⟨r1219, g1220, hp⟩ := bsome hp
  refine s_isIndex (n := which) (size := (l.length : Int)) S0.pre  g1220 fun m1 e1223 => ?_
  obtain ⟨S1221, k1222⟩ := S0.call e1223 τ0
  refine ⟨_, rfl, ?_⟩
  refine ifbb hp (fun q1224 hp => ?_) fun q1224 hp => ?_; rotate_left
  · obtain rfl := Option.some.inj hp
    exact hq _ S1221.ext'
  obtain ⟨r1225, g1226, hp⟩ := bsome hp
  refine s_hasCrop (l := l) (n := crop) S1221.pre ha100 g1226 fun m4 e1229 => ?_
  obtain ⟨S1227, k1228⟩ := S1221.call e1229 τ0
  refine ⟨_, rfl, ?_⟩
  refine ifbb hp (fun q1230 hp => ?_) fun q1230 hp => ?_; rotate_left
  · obtain rfl := Option.some.inj hp
    exact hq _ S1227.ext'
  obtain ⟨v1231, g1232, hp⟩ := bsome hp
  obtain ⟨n6, g1232i, g1232l, g1232⟩ := idx_some g1232
  obtain ⟨c1233, c1235, c1237, r1239, h1234, h1236, h1238⟩ := rd_Tf ha100 g1232
  refine ⟨n6, g1232i, (by first | exact g1232l | (rw [ha100.slLen]; exact g1232l)), (ha100.isPt g1232 _), _, ((r1239 _ S1227.sub).2.1 3 _ rfl), h1234.isSl, ?_⟩
  try rw [h1234.slLen]
  obtain ⟨r1240, g1241, hp⟩ := bsome hp
  refine s_isIndex (n := week) (size := (v1231.Weeks.length : Int)) S1227.pre  g1241 fun m9 e1244 => ?_
  obtain ⟨S1242, k1243⟩ := S1227.call e1244 τ0
  refine ⟨_, rfl, ?_⟩
  obtain rfl := Option.some.inj hp
  exact hq _ S1242.ext'
theorem s_open {l : List Tf} {ca100 : C} {m f : M} {Q : V → M → Prop} {rz : Wk × Int} (hS : Pre f m) (ha100 : Sl f ca100 l) (hp : popen l = some rz) (hq : ∀ m' f' c0 c1, Grw m f m' f' → Sl f' c0 rz.1.tariffs → Mn m f' m' c1 rz.1.parts → Q (.tup [.agg 2 [c0, c1], .c (.int .i64 rz.2)]) m') : Wc prog tbl 26 [.c ca100] m Q := by
  have S0 := hS.st
  obtain ⟨τ0, _⟩ : ∃ τ : Nat → Nat, True := ⟨fun _ => 0, trivial⟩
  refine w26 ?_
  unfold popen at hp
  intro m0 e1323
  obtain ⟨τ1326, S1324, k1325, L1327⟩ := S0.blk e1323 τ0 1
  obtain ⟨r1328, g1329, hp⟩ := bsome hp
  refine s_check (l := l) S1324.pre ha100 g1329 fun m2 e1332 => ?_
  obtain ⟨S1330, k1331⟩ := S1324.call e1332 τ1326
  have L1333 := L1327.k k1331 (by decide)
  refine ⟨_, rfl, ?_⟩
  refine ifnd hp (fun q1334 hp => ?_) fun q1334 hp => ?_
  · obtain ⟨m1338, e1337, S1335, k1336, L1339⟩ := L1333.sto S1330 [.sl0, C.map0]
    refine ⟨m1338, e1337, ?_⟩
    refine ⟨_, _, L1339.bk.ra, ?_⟩
    obtain rfl := Option.some.inj hp
    exact hq _ f .sl0 .map0 S1335.grw (Sl.nil _) (Mo.nil _ _ τ1326 _ 0).mn
  intro m7 e1340
  obtain ⟨τ1343, S1341, k1342, M1344⟩ := Mo.new (K := Ht) (V' := Int) S1330 e1340 τ1326 2
  have L1345 := L1333.k k1342 (by decide)
  obtain ⟨m1349, e1348, S1346, k1347, L1350⟩ := L1345.sto S1341 [ca100, (.map m2.nxt)]
  have M1351 := M1344.k k1347 (by decide)
  refine ⟨m1349, e1348, ?_⟩
  refine ⟨_, _, L1350.bk.ra, ?_⟩
  obtain rfl := Option.some.inj hp
  exact hq _ f ca100 (.map m2.nxt) S1346.grw ha100 M1351.mn
theorem s_lTariffs {l : List Tf} {ca100 : C} {m f : M} {Q : V → M → Prop} {rz : List Tf} (hS : Pre f m) (ha100 : Sl f ca100 l) (hp : plTariffs l = some rz) (hq : ∀ m' f' c0, Grw m f m' f' → Sl f' c0 rz → Q (.c c0) m') : Wc prog tbl 8 [.c ca100] m Q := by
  have S0 := hS.st
  obtain ⟨τ0, _⟩ : ∃ τ : Nat → Nat, True := ⟨fun _ => 0, trivial⟩
  refine w8 ?_
  unfold plTariffs at hp
  intro R0 hR0
  have hgo : ∀ (d2356 : Nat) (c1 : C) (x2 : Int) (l2354 : List Tf) (m3 : M) (f2353 : M) (τ2352 : Nat → Nat), St (Fm.of m) f f2353 m3 → Sub f f2353 → Ow (Fm.of m) f2353 τ2352 m3 1 c1 l2354 → plTariffs_L0 l d2356 l2354 x2 = some rz → R0 [.c c1, .c (.int .i64 x2)] m3 := by
    intro d2356
    induction d2356 with
    | zero => intro c1 x2 l2354 m3 f2353 τ2352 S2351 f2353s o2355 hp; cases hp
    | succ d2356 ihR0 =>
      intro c1 x2 l2354 m3 f2353 τ2352 S2351 f2353s o2355 hp
      refine hR0 _ _ _ ?_
      rw [plTariffs_L0] at hp
      refine ⟨ha100.isSl, ?_⟩
      try rw [ha100.slLen]
      refine ifd hp (fun q2357 hp => ?_) fun q2357 hp => ?_; rotate_left
      · obtain ⟨f2556, S2557, k2558, h2559⟩ := o2355.freeze S2351
        obtain rfl := Option.some.inj hp
        exact hq _ f2556 c1 S2557.grw h2559
      intro m4 e2358
      obtain ⟨τ2361, S2359, k2360, hz2362⟩ := S2351.growK e2358 τ2352 2
      have o2355 := o2355.k k2360 (by decide)
      have Z2363 := hz2362 0 (by decide)
      obtain ⟨v2364, g2365, hp⟩ := bsome hp
      obtain ⟨n5, g2365i, g2365l, g2365⟩ := idx_some g2365
      obtain ⟨c2366, c2368, c2370, r2372, h2367, h2369, h2371⟩ := rd_Tf ha100 g2365
      refine ⟨n5, g2365i, (by first | exact g2365l | (rw [ha100.slLen]; exact g2365l)), (ha100.isPt g2365 _), _, ((r2372 _ (Sub.trans f2353s S2359.sub)).2.1 0 _ rfl), ?_⟩
      obtain ⟨v2373, g2374, hp⟩ := bsome hp
      obtain ⟨n7, g2374i, g2374l, g2374⟩ := idx_some g2374
      obtain ⟨c2375, c2377, c2379, r2381, h2376, h2378, h2380⟩ := rd_Tf ha100 g2374
      refine ⟨n7, g2374i, (by first | exact g2374l | (rw [ha100.slLen]; exact g2374l)), (ha100.isPt g2374 _), _, ((r2381 _ (Sub.trans f2353s S2359.sub)).2.1 1 _ rfl), ?_⟩
      obtain ⟨v2382, g2383, hp⟩ := bsome hp
      obtain ⟨n9, g2383i, g2383l, g2383⟩ := idx_some g2383
      obtain ⟨c2384, c2386, c2388, r2390, h2385, h2387, h2389⟩ := rd_Tf ha100 g2383
      refine ⟨n9, g2383i, (by first | exact g2383l | (rw [ha100.slLen]; exact g2383l)), (ha100.isPt g2383 _), _, ((r2390 _ (Sub.trans f2353s S2359.sub)).2.1 2 _ rfl), ?_⟩
      obtain ⟨v2391, g2392, hp⟩ := bsome hp
      obtain ⟨n11, g2392i, g2392l, g2392⟩ := idx_some g2392
      obtain ⟨c2393, c2395, c2397, r2399, h2394, h2396, h2398⟩ := rd_Tf ha100 g2392
      refine ⟨n11, g2392i, (by first | exact g2392l | (rw [ha100.slLen]; exact g2392l)), (ha100.isPt g2392 _), _, ((r2399 _ (Sub.trans f2353s S2359.sub)).2.1 3 _ rfl), ?_⟩
      obtain ⟨r2400, g2401, hp⟩ := bsome hp
      refine s_lList (l := v2391.Weeks) S2359.pre (h2394.sub f2353s) g2401 fun m14 f2405 c2406 e2404 h2407 => ?_
      obtain ⟨S2402, k2403⟩ := S2359.callG e2404 τ2361
      have Z2408 := Z2363.k k2403 (by decide)
      have o2355 := o2355.k k2403 (by decide)
      refine ⟨_, rfl, ((r2390 _ (Sub.trans (Sub.trans f2353s k2403.fs) S2402.sub)).2.1 2 _ rfl), ((r2381 _ (Sub.trans (Sub.trans f2353s k2403.fs) S2402.sub)).2.1 1 _ rfl), ((r2372 _ (Sub.trans (Sub.trans f2353s k2403.fs) S2402.sub)).2.1 0 _ rfl), ?_⟩
      obtain ⟨v2409, g2410, hp⟩ := bsome hp
      obtain ⟨n16, g2410i, g2410l, g2410⟩ := idx_some g2410
      obtain ⟨c2411, c2413, c2415, r2417, h2412, h2414, h2416⟩ := rd_Tf ha100 g2410
      refine ⟨n16, g2410i, (by first | exact g2410l | (rw [ha100.slLen]; exact g2410l)), (ha100.isPt g2410 _), _, ((r2417 _ (Sub.trans (Sub.trans f2353s k2403.fs) S2402.sub)).2.1 4 _ rfl), (by rw [show noFnC _ = true from h2414.noFn]; exact ((r2417 _ (Sub.trans f2353s S2359.sub)).2.1 4 _ rfl)), ?_⟩
      obtain ⟨r2418, g2419, hp⟩ := bsome hp
      refine s_lList (l := v2409.Counts) S2402.pre (h2414.sub (Sub.trans f2353s k2403.fs)) g2419 fun m19 f2423 c2424 e2422 h2425 => ?_
      obtain ⟨S2420, k2421⟩ := S2402.callG e2422 τ2361
      have Z2426 := Z2408.k k2421 (by decide)
      have o2355 := o2355.k k2421 (by decide)
      refine ⟨_, rfl, ((r2390 _ (Sub.trans (Sub.trans (Sub.trans f2353s k2403.fs) k2421.fs) S2420.sub)).2.1 2 _ rfl), ((r2381 _ (Sub.trans (Sub.trans (Sub.trans f2353s k2403.fs) k2421.fs) S2420.sub)).2.1 1 _ rfl), ((r2372 _ (Sub.trans (Sub.trans (Sub.trans f2353s k2403.fs) k2421.fs) S2420.sub)).2.1 0 _ rfl), ?_⟩
      intro m21 e2427
      obtain ⟨S2428, k2429, L2430⟩ := Z2426.set S2420 e2427
      have o2355 := o2355.k k2429 (by decide)
      refine ⟨(by rw [show noFnC _ = true from h2414.noFn]; exact ((r2417 _ (Sub.trans (Sub.trans (Sub.trans f2353s k2403.fs) k2421.fs) S2428.sub)).2.1 4 _ rfl)), (by rw [show noFnC _ = true from h2394.noFn]; exact ((r2399 _ (Sub.trans (Sub.trans (Sub.trans f2353s k2403.fs) k2421.fs) S2428.sub)).2.1 3 _ rfl)), ((r2390 _ (Sub.trans (Sub.trans (Sub.trans f2353s k2403.fs) k2421.fs) S2428.sub)).2.1 2 _ rfl), ((r2381 _ (Sub.trans (Sub.trans (Sub.trans f2353s k2403.fs) k2421.fs) S2428.sub)).2.1 1 _ rfl), ((r2372 _ (Sub.trans (Sub.trans (Sub.trans f2353s k2403.fs) k2421.fs) S2428.sub)).2.1 0 _ rfl), ?_⟩
      obtain ⟨m2434, e2433, S2431, k2432, L2435⟩ := L2430.sto S2428 [(.int .i64 v2364.From), (.bool v2373.Whole), (.int .i64 v2382.Least), c2406, c2424, .sl0]
      have o2355 := o2355.k k2432 (by decide)
      refine ⟨m2434, e2433, ?_⟩
      intro R23 hR23
      have hgo : ∀ (d2445 : Nat) (x24 : Int) (c2443 : C) (y2439 : Int) (y2440 : Bool) (y2441 : Int) (y2442 : List (List (List Int))) (m25 : M) (f2438 : M) (τ2437 : Nat → Nat), St (Fm.of m) f f2438 m25 → Sub f2423 f2438 → Lb (Fm.of m) f2438 τ2437 m25 2 (m3.nxt + 0) 6 [(.int .i64 y2439), (.bool y2440), (.int .i64 y2441), c2406, c2424, c2443] → Ow (Fm.of m) f2438 τ2437 m25 3 c2443 y2442 → Ow (Fm.of m) f2438 τ2437 m25 1 c1 l2354 → plTariffs_L1 l l2354 x2 r2400 r2418 (plTariffs_L0 l d2356) d2445 y2439 y2440 y2441 y2442 x24 = some rz → R23 [.c (.int .i64 x24)] m25 := by
        intro d2445
        induction d2445 with
        | zero => intro x24 c2443 y2439 y2440 y2441 y2442 m25 f2438 τ2437 S2436 f2438s L2435 o2444 o2355 hp; cases hp
        | succ d2445 ihR23 =>
          intro x24 c2443 y2439 y2440 y2441 y2442 m25 f2438 τ2437 S2436 f2438s L2435 o2444 o2355 hp
          refine hR23 _ _ ?_
          rw [plTariffs_L1] at hp
          obtain ⟨v2446, g2447, hp⟩ := bsome hp
          obtain ⟨n26, g2447i, g2447l, g2447⟩ := idx_some g2447
          obtain ⟨c2448, c2450, c2452, r2454, h2449, h2451, h2453⟩ := rd_Tf ha100 g2447
          refine ⟨n26, g2447i, (by first | exact g2447l | (rw [ha100.slLen]; exact g2447l)), (ha100.isPt g2447 _), _, ((r2454 _ (Sub.trans (Sub.trans (Sub.trans (Sub.trans f2353s k2403.fs) k2421.fs) f2438s) S2436.sub)).2.1 5 _ rfl), h2453.isSl, ?_⟩
          try rw [h2453.slLen]
          refine ifd hp (fun q2455 hp => ?_) fun q2455 hp => ?_; rotate_left
          · refine ⟨_, _, _, _, _, _, L2435.bk.ra, ?_⟩
            obtain ⟨f2539, S2540, k2541, h2542⟩ := o2444.freeze S2436
            have L2543 := L2435.k k2541 (by decide)
            have o2355 := o2355.k k2541 (by decide)
            obtain ⟨g2552, hp⟩ := gd_some hp
            intro m59 e2544
            obtain ⟨c2548, m2549, τ2547, a2550, S2545, k2546, o2551⟩ := o2355.app' ta29 S2540 (a := ({ From := y2439, Whole := y2440, Least := y2441, Weeks := r2400, Counts := r2418, Rates := y2442 } : Tf)) (show Rp.rep (α := Tf) f2539 _ ({ From := y2439, Whole := y2440, Least := y2441, Weeks := r2400, Counts := r2418, Rates := y2442 } : Tf) from ⟨_, _, _, rfl, (h2407.sub (Sub.trans (Sub.trans k2421.fs f2438s) k2541.fs)), (h2425.sub (Sub.trans f2438s k2541.fs)), h2542⟩) g2552 e2544
            have L2553 := L2543.k k2546 (by decide)
            have o2554 := o2444.k k2546.old (by decide)
            refine ⟨c2548, m2549, a2550, ?_⟩
            obtain ⟨g2555, hp⟩ := gd_some hp
            refine ⟨g2555, ?_⟩
            exact ihR0 _ _ _ _ f2539 τ2547 S2545 (Sub.trans (Sub.trans (Sub.trans (Sub.trans f2353s k2403.fs) k2421.fs) f2438s) k2541.fs) o2551 hp
          intro R28 hR28
          have hgo : ∀ (d2461 : Nat) (c29 : C) (x30 : Int) (l2459 : List (List Int)) (m31 : M) (f2458 : M) (τ2457 : Nat → Nat), St (Fm.of m) f f2458 m31 → Sub f2438 f2458 → Lb (Fm.of m) f2458 τ2457 m31 2 (m3.nxt + 0) 6 [(.int .i64 y2439), (.bool y2440), (.int .i64 y2441), c2406, c2424, c2443] → Ow (Fm.of m) f2458 τ2457 m31 4 c29 l2459 → Ow (Fm.of m) f2458 τ2457 m31 1 c1 l2354 → Ow (Fm.of m) f2458 τ2457 m31 3 c2443 y2442 → plTariffs_L2 l x2 y2439 y2440 y2441 y2442 x24 (plTariffs_L1 l l2354 x2 r2400 r2418 (plTariffs_L0 l d2356) d2445) d2461 l2459 x30 = some rz → R28 [.c c29, .c (.int .i64 x30)] m31 := by
            intro d2461
            induction d2461 with
            | zero => intro c29 x30 l2459 m31 f2458 τ2457 S2456 f2458s L2435 o2460 o2355 o2444 hp; cases hp
            | succ d2461 ihR28 =>
              intro c29 x30 l2459 m31 f2458 τ2457 S2456 f2458s L2435 o2460 o2355 o2444 hp
              refine hR28 _ _ _ ?_
              rw [plTariffs_L2] at hp
              obtain ⟨v2462, g2463, hp⟩ := bsome hp
              obtain ⟨n32, g2463i, g2463l, g2463⟩ := idx_some g2463
              obtain ⟨c2464, c2466, c2468, r2470, h2465, h2467, h2469⟩ := rd_Tf ha100 g2463
              refine ⟨n32, g2463i, (by first | exact g2463l | (rw [ha100.slLen]; exact g2463l)), (ha100.isPt g2463 _), _, ((r2470 _ (Sub.trans (Sub.trans (Sub.trans (Sub.trans (Sub.trans f2353s k2403.fs) k2421.fs) f2438s) f2458s) S2456.sub)).2.1 5 _ rfl), ?_⟩
              obtain ⟨v2471, g2472, hp⟩ := bsome hp
              obtain ⟨n34, g2472i, g2472l, g2472⟩ := idx_some g2472
              obtain ⟨c2473, r2474, h2475⟩ := h2469.rdS g2472
              refine ⟨n34, g2472i, (by first | exact g2472l | (rw [h2469.slLen]; exact g2472l)), _, (r2474 _ (Sub.trans (Sub.trans (Sub.trans (Sub.trans (Sub.trans f2353s k2403.fs) k2421.fs) f2438s) f2458s) S2456.sub)), h2475.isSl, ?_⟩
              try rw [h2475.slLen]
              refine ifd hp (fun q2476 hp => ?_) fun q2476 hp => ?_; rotate_left
              · refine ⟨trivial, _, L2435.bk.rc rfl, ?_⟩
                obtain ⟨f2516, S2517, k2518, h2519⟩ := o2460.freeze S2456
                have L2520 := L2435.k k2518 (by decide)
                have o2355 := o2355.k k2518 (by decide)
                have o2444 := o2444.k k2518 (by decide)
                obtain ⟨g2529, hp⟩ := gd_some hp
                intro m49 e2521
                obtain ⟨c2525, m2526, τ2524, a2527, S2522, k2523, o2528⟩ := o2444.app' ta34 S2517 (a := l2459) (show Rp.rep (α := List (List Int)) f2516 _ l2459 from ⟨_, rfl, h2519⟩) g2529 e2521
                have L2530 := L2520.k k2523 (by decide)
                have o2355 := o2355.k k2523 (by decide)
                have o2531 := o2460.k k2523.old (by decide)
                refine ⟨c2525, m2526, a2527, ?_⟩
                refine ⟨trivial, ?_⟩
                obtain ⟨m2535, e2534, S2532, k2533, L2536⟩ := L2530.sto1 S2522 5 c2525 (by simp) rfl
                replace L2536 : Lb _ _ _ _ _ _ _ [(.int .i64 y2439), (.bool y2440), (.int .i64 y2441), c2406, c2424, c2525] := L2536
                have o2355 := o2355.k k2533 (by decide)
                have o2528 := o2528.k k2533 (by decide)
                have o2537 := o2531.k k2533.old (by decide)
                refine ⟨m2535, e2534, ?_⟩
                obtain ⟨g2538, hp⟩ := gd_some hp
                refine ⟨g2538, ?_⟩
                exact ihR23 _ _ _ _ _ _ _ f2516 τ2524 S2532 (Sub.trans (Sub.trans f2438s f2458s) k2518.fs) L2536 o2528 o2355 hp
              obtain ⟨v2477, g2478, hp⟩ := bsome hp
              obtain ⟨n36, g2478i, g2478l, g2478⟩ := idx_some g2478
              obtain ⟨c2479, c2481, c2483, r2485, h2480, h2482, h2484⟩ := rd_Tf ha100 g2478
              refine ⟨n36, g2478i, (by first | exact g2478l | (rw [ha100.slLen]; exact g2478l)), (ha100.isPt g2478 _), _, ((r2485 _ (Sub.trans (Sub.trans (Sub.trans (Sub.trans (Sub.trans f2353s k2403.fs) k2421.fs) f2438s) f2458s) S2456.sub)).2.1 5 _ rfl), ?_⟩
              obtain ⟨v2486, g2487, hp⟩ := bsome hp
              obtain ⟨n38, g2487i, g2487l, g2487⟩ := idx_some g2487
              obtain ⟨c2488, r2489, h2490⟩ := h2484.rdS g2487
              refine ⟨n38, g2487i, (by first | exact g2487l | (rw [h2484.slLen]; exact g2487l)), _, (r2489 _ (Sub.trans (Sub.trans (Sub.trans (Sub.trans (Sub.trans f2353s k2403.fs) k2421.fs) f2438s) f2458s) S2456.sub)), ?_⟩
              obtain ⟨v2491, g2492, hp⟩ := bsome hp
              obtain ⟨n40, g2492i, g2492l, g2492⟩ := idx_some g2492
              obtain ⟨c2493, r2494, h2495⟩ := h2490.rdS g2492
              refine ⟨n40, g2492i, (by first | exact g2492l | (rw [h2490.slLen]; exact g2492l)), _, (r2494 _ (Sub.trans (Sub.trans (Sub.trans (Sub.trans (Sub.trans f2353s k2403.fs) k2421.fs) f2438s) f2458s) S2456.sub)), ?_⟩
              obtain ⟨r2496, g2497, hp⟩ := bsome hp
              refine s_lList (l := v2491) S2456.pre (h2495.sub (Sub.trans (Sub.trans (Sub.trans (Sub.trans f2353s k2403.fs) k2421.fs) f2438s) f2458s)) g2497 fun m43 f2501 c2502 e2500 h2503 => ?_
              obtain ⟨S2498, k2499⟩ := S2456.callG e2500 τ2457
              have L2504 := L2435.k k2499 (by decide)
              have o2355 := o2355.k k2499 (by decide)
              have o2444 := o2444.k k2499 (by decide)
              have o2460 := o2460.k k2499 (by decide)
              refine ⟨_, rfl, ?_⟩
              obtain ⟨g2513, hp⟩ := gd_some hp
              intro m45 e2505
              obtain ⟨c2509, m2510, τ2508, a2511, S2506, k2507, o2512⟩ := o2460.app' ta39 S2498 (a := r2496) (show Rp.rep (α := List Int) f2501 _ r2496 from ⟨_, rfl, h2503⟩) g2513 e2505
              have L2514 := L2504.k k2507 (by decide)
              have o2355 := o2355.k k2507 (by decide)
              have o2444 := o2444.k k2507 (by decide)
              refine ⟨c2509, m2510, a2511, ?_⟩
              obtain ⟨g2515, hp⟩ := gd_some hp
              refine ⟨g2515, ?_⟩
              exact ihR28 _ _ _ _ f2501 τ2508 S2506 (Sub.trans f2458s k2499.fs) L2514 o2512 o2355 o2444 hp
          exact hgo _ _ _ _ _ f2438 τ2437 S2436 (Sub.refl _) L2435 (Ow.nil _ _ _ _ _) o2355 o2444 hp
      exact hgo _ _ _ _ _ _ _ _ f2423 τ2361 S2431 (Sub.refl _) L2435 (Ow.nil _ _ _ _ _) o2355 hp
  exact hgo _ _ _ _ _ f τ0 S0 (Sub.refl _) (Ow.nil _ _ _ _ _) hp
theorem s_without {r : List Int} {list : List Int} {ca100 ca200 : C} {m f : M} {Q : V → M → Prop} {rz : Fl} (hS : Pre f m) (ha100 : Sl f ca100 r) (ha200 : Sl f ca200 list) (hp : pwithout r list = some rz) (hq : ∀ m', Ext m m' → Q (.agg 5 [(.bool rz.a0), (.bool rz.a1), (.bool rz.a2), (.bool rz.a3), (.bool rz.a4)]) m') : Wc prog tbl 64 [.c ca100, .c ca200] m Q := by
  have S0 := hS.st
  obtain ⟨τ0, _⟩ : ∃ τ : Nat → Nat, True := ⟨fun _ => 0, trivial⟩
  refine w64 ?_
  unfold pwithout at hp
  intro m0 e2560
  obtain ⟨τ2563, S2561, k2562, L2564⟩ := S0.blk e2560 τ0 1
  intro m1 e2565
  obtain ⟨τ2568, S2566, k2567, L2569⟩ := S2561.blk e2565 τ2563 2
  have L2570 := L2564.k k2567 (by decide)
  refine ⟨ha100.isSl, ?_⟩
  intro R2 hR2
  have hgo : ∀ (d2578 : Nat) (x3 : Int) (y2573 : Bool) (y2574 : Bool) (y2575 : Bool) (y2576 : Bool) (y2577 : Bool) (m4 : M) (τ2572 : Nat → Nat), St (Fm.of m) f f m4 → Lb (Fm.of m) f τ2572 m4 1 m.nxt 5 [(.bool false), (.bool false), (.bool false), (.bool false), (.bool false)] → Lb (Fm.of m) f τ2572 m4 2 m0.nxt 5 [(.bool y2573), (.bool y2574), (.bool y2575), (.bool y2576), (.bool y2577)] → pwithout_L0 r list d2578 y2573 y2574 y2575 y2576 y2577 x3 = some rz → R2 [.c (.int .i64 x3)] m4 := by
    intro d2578
    induction d2578 with
    | zero => intro x3 y2573 y2574 y2575 y2576 y2577 m4 τ2572 S2571 L2570 L2569 hp; cases hp
    | succ d2578 ihR2 =>
      intro x3 y2573 y2574 y2575 y2576 y2577 m4 τ2572 S2571 L2570 L2569 hp
      refine hR2 _ _ ?_
      rw [pwithout_L0] at hp
      try rw [ha100.slLen]
      refine ifd hp (fun q2579 hp => ?_) fun q2579 hp => ?_
      · refine ⟨trivial, ?_⟩
        obtain ⟨g2580, hp⟩ := gd_some hp
        obtain ⟨n5, g2580i, g2580l⟩ := arr_no g2580
        refine ⟨n5, g2580i, g2580l, ?_⟩
        obtain ⟨m2584, e2583, S2581, k2582, L2585⟩ := L2569.sta S2571 (pre := []) (post := []) (l := ([y2573, y2574, y2575, y2576, y2577] : List Bool)) (enc := C.bool) rfl rfl g2580i g2580l true
        replace L2585 : Lb _ _ _ _ _ _ _ [(.bool (sti x3 0 true y2573)), (.bool (sti x3 1 true y2574)), (.bool (sti x3 2 true y2575)), (.bool (sti x3 3 true y2576)), (.bool (sti x3 4 true y2577))] := L2585
        have L2586 := L2570.k k2582 (by decide)
        refine ⟨m2584, e2583, ?_⟩
        obtain ⟨g2587, hp⟩ := gd_some hp
        refine ⟨g2587, ?_⟩
        exact ihR2 _ _ _ _ _ _ _ τ2572 S2581 L2586 L2585 hp
      refine ⟨ha200.isSl, ?_⟩
      intro R7 hR7
      have hgo : ∀ (d2595 : Nat) (x8 : Int) (y2590 : Bool) (y2591 : Bool) (y2592 : Bool) (y2593 : Bool) (y2594 : Bool) (m9 : M) (τ2589 : Nat → Nat), St (Fm.of m) f f m9 → Lb (Fm.of m) f τ2589 m9 1 m.nxt 5 [(.bool false), (.bool false), (.bool false), (.bool false), (.bool false)] → Lb (Fm.of m) f τ2589 m9 2 m0.nxt 5 [(.bool y2590), (.bool y2591), (.bool y2592), (.bool y2593), (.bool y2594)] → pwithout_L1 list d2595 y2590 y2591 y2592 y2593 y2594 x8 = some rz → R7 [.c (.int .i64 x8)] m9 := by
        intro d2595
        induction d2595 with
        | zero => intro x8 y2590 y2591 y2592 y2593 y2594 m9 τ2589 S2588 L2570 L2569 hp; cases hp
        | succ d2595 ihR7 =>
          intro x8 y2590 y2591 y2592 y2593 y2594 m9 τ2589 S2588 L2570 L2569 hp
          refine hR7 _ _ ?_
          rw [pwithout_L1] at hp
          try rw [ha200.slLen]
          refine ifd hp (fun q2596 hp => ?_) fun q2596 hp => ?_; rotate_left
          · refine ⟨_, _, _, _, _, L2569.bk.ra, ?_⟩
            obtain ⟨m2610, e2609, S2607, k2608, L2611⟩ := L2570.sto S2588 [(.bool y2590), (.bool y2591), (.bool y2592), (.bool y2593), (.bool y2594)]
            have L2612 := L2569.k k2608 (by decide)
            refine ⟨m2610, e2609, ?_⟩
            refine ⟨_, _, _, _, _, L2611.bk.ra, ?_⟩
            obtain rfl := Option.some.inj hp
            exact hq _ S2607.ext'
          obtain ⟨x2597, g2598, hp⟩ := bsome hp
          obtain ⟨n10, g2598i, g2598l, g2598⟩ := idx_some g2598
          refine ⟨n10, g2598i, (by first | exact g2598l | (rw [ha200.slLen]; exact g2598l)), _, (ha200.rdI g2598 S2588.sub), trivial, ?_⟩
          obtain ⟨g2599, hp⟩ := gd_some hp
          obtain ⟨n12, g2599i, g2599l⟩ := arr_no g2599
          refine ⟨n12, g2599i, g2599l, ?_⟩
          obtain ⟨m2603, e2602, S2600, k2601, L2604⟩ := L2569.sta S2588 (pre := []) (post := []) (l := ([y2590, y2591, y2592, y2593, y2594] : List Bool)) (enc := C.bool) rfl rfl g2599i g2599l false
          replace L2604 : Lb _ _ _ _ _ _ _ [(.bool (sti x2597 0 false y2590)), (.bool (sti x2597 1 false y2591)), (.bool (sti x2597 2 false y2592)), (.bool (sti x2597 3 false y2593)), (.bool (sti x2597 4 false y2594))] := L2604
          have L2605 := L2570.k k2601 (by decide)
          refine ⟨m2603, e2602, ?_⟩
          obtain ⟨g2606, hp⟩ := gd_some hp
          refine ⟨g2606, ?_⟩
          exact ihR7 _ _ _ _ _ _ _ τ2589 S2600 L2605 L2604 hp
      exact hgo _ _ _ _ _ _ _ _ τ2572 S2571 L2570 L2569 hp
  exact hgo _ _ _ _ _ _ _ _ τ2568 S2566 L2570 L2569 hp
theorem s_rising {r : List Int} {kept : Fl} {ca100 : C} {m f : M} {Q : V → M → Prop} {rz : Fl} (hS : Pre f m) (ha100 : Sl f ca100 r) (hp : prising r kept = some rz) (hq : ∀ m', Ext m m' → Q (.agg 5 [(.bool rz.a0), (.bool rz.a1), (.bool rz.a2), (.bool rz.a3), (.bool rz.a4)]) m') : Wc prog tbl 65 [.c ca100, .agg 5 [(.bool kept.a0), (.bool kept.a1), (.bool kept.a2), (.bool kept.a3), (.bool kept.a4)]] m Q := by
  have S0 := hS.st
  obtain ⟨τ0, _⟩ : ∃ τ : Nat → Nat, True := ⟨fun _ => 0, trivial⟩
  refine w65 ?_
  unfold prising at hp
  intro m0 e2613
  obtain ⟨τ2616, S2614, k2615, L2617⟩ := S0.blk e2613 τ0 1
  intro m1 e2618
  obtain ⟨τ2621, S2619, k2620, L2622⟩ := S2614.blk e2618 τ2616 2
  have L2623 := L2617.k k2620 (by decide)
  refine ⟨ha100.isSl, ?_⟩
  intro R2 hR2
  have hgo : ∀ (d2631 : Nat) (x3 : Int) (x4 : Int) (y2626 : Bool) (y2627 : Bool) (y2628 : Bool) (y2629 : Bool) (y2630 : Bool) (m5 : M) (τ2625 : Nat → Nat), St (Fm.of m) f f m5 → Lb (Fm.of m) f τ2625 m5 1 m.nxt 5 [(.bool y2626), (.bool y2627), (.bool y2628), (.bool y2629), (.bool y2630)] → Lb (Fm.of m) f τ2625 m5 2 m0.nxt 5 [(.bool false), (.bool false), (.bool false), (.bool false), (.bool false)] → prising_L0 r d2631 y2626 y2627 y2628 y2629 y2630 x3 x4 = some rz → R2 [.c (.int .i64 x3), .c (.int .i64 x4)] m5 := by
    intro d2631
    induction d2631 with
    | zero => intro x3 x4 y2626 y2627 y2628 y2629 y2630 m5 τ2625 S2624 L2623 L2622 hp; cases hp
    | succ d2631 ihR2 =>
      intro x3 x4 y2626 y2627 y2628 y2629 y2630 m5 τ2625 S2624 L2623 L2622 hp
      refine hR2 _ _ _ ?_
      rw [prising_L0] at hp
      try rw [ha100.slLen]
      refine ifd hp (fun q2632 hp => ?_) fun q2632 hp => ?_; rotate_left
      · refine ⟨_, _, _, _, _, L2623.bk.ra, ?_⟩
        obtain ⟨m2650, e2649, S2647, k2648, L2651⟩ := L2622.sto S2624 [(.bool y2626), (.bool y2627), (.bool y2628), (.bool y2629), (.bool y2630)]
        have L2652 := L2623.k k2648 (by decide)
        refine ⟨m2650, e2649, ?_⟩
        refine ⟨_, _, _, _, _, L2651.bk.ra, ?_⟩
        obtain rfl := Option.some.inj hp
        exact hq _ S2647.ext'
      obtain ⟨x2633, g2634, hp⟩ := bsome hp
      obtain ⟨n6, g2634i, g2634l, g2634⟩ := idx_some g2634
      refine ⟨n6, g2634i, (by first | exact g2634l | (rw [ha100.slLen]; exact g2634l)), _, (ha100.rdI g2634 S2624.sub), trivial, ?_⟩
      obtain ⟨v2636, g2635, hp⟩ := bsome hp
      obtain ⟨n8, g2635i, g2635l, g2635⟩ := idx_some g2635
      refine ⟨n8, g2635i, g2635l, _, (L2623.bk.rc (arr_at (l := ([y2626, y2627, y2628, y2629, y2630] : List Bool)) (enc := C.bool) 0 rfl g2635)), ?_⟩
      refine ifbb hp (fun q2637 hp => ?_) fun q2637 hp => ?_; rotate_left
      · obtain ⟨g2646, hp⟩ := gd_some hp
        refine ⟨g2646, ?_⟩
        exact ihR2 _ _ _ _ _ _ _ _ τ2625 S2624 L2623 L2622 hp
      refine ⟨trivial, ?_⟩
      obtain ⟨g2638, hp⟩ := gd_some hp
      obtain ⟨n10, g2638i, g2638l⟩ := arr_no g2638
      refine ⟨n10, g2638i, g2638l, ?_⟩
      obtain ⟨m2642, e2641, S2639, k2640, L2643⟩ := L2623.sta S2624 (pre := []) (post := []) (l := ([y2626, y2627, y2628, y2629, y2630] : List Bool)) (enc := C.bool) rfl rfl g2638i g2638l ((decide (x3 ≤ x2633)))
      replace L2643 : Lb _ _ _ _ _ _ _ [(.bool (sti x4 0 (decide (x3 ≤ x2633)) y2626)), (.bool (sti x4 1 (decide (x3 ≤ x2633)) y2627)), (.bool (sti x4 2 (decide (x3 ≤ x2633)) y2628)), (.bool (sti x4 3 (decide (x3 ≤ x2633)) y2629)), (.bool (sti x4 4 (decide (x3 ≤ x2633)) y2630))] := L2643
      have L2644 := L2622.k k2640 (by decide)
      refine ⟨m2642, e2641, ?_⟩
      obtain ⟨g2645, hp⟩ := gd_some hp
      refine ⟨g2645, ?_⟩
      exact ihR2 _ _ _ _ _ _ _ _ τ2625 S2639 L2643 L2644 hp
  exact hgo _ _ _ _ _ _ _ _ _ τ2621 S2619 L2623 L2622 hp
theorem s_canBe {r : List Int} {list : List Int} {ca100 ca200 : C} {m f : M} {Q : V → M → Prop} {rz : Bool} (hS : Pre f m) (ha100 : Sl f ca100 r) (ha200 : Sl f ca200 list) (hp : pcanBe r list = some rz) (hq : ∀ m', Ext m m' → Q (.c (.bool rz)) m') : Wc prog tbl 48 [.c ca100, .c ca200] m Q := by
  have S0 := hS.st
  obtain ⟨τ0, _⟩ : ∃ τ : Nat → Nat, True := ⟨fun _ => 0, trivial⟩
  refine w48 ?_
  unfold pcanBe at hp
  obtain ⟨r2653, g2654, hp⟩ := bsome hp
  refine s_without (r := r) (list := list) S0.pre ha100 ha200 g2654 fun m1 e2657 => ?_
  obtain ⟨S2655, k2656⟩ := S0.call e2657 τ0
  refine ⟨_, _, _, _, _, rfl, ?_⟩
  intro m7 e2658
  obtain ⟨τ2661, S2659, k2660, L2662⟩ := S2655.blk e2658 τ0 1
  obtain ⟨m2666, e2665, S2663, k2664, L2667⟩ := L2662.sto S2659 [(.bool r2653.a0), (.bool r2653.a1), (.bool r2653.a2), (.bool r2653.a3), (.bool r2653.a4)]
  refine ⟨m2666, e2665, ?_⟩
  refine ⟨_, _, _, _, _, L2667.bk.ra, ?_⟩
  obtain ⟨r2668, g2669, hp⟩ := bsome hp
  refine s_rising (r := r) (kept := r2653) S2663.pre ha100 g2669 fun m15 e2672 => ?_
  obtain ⟨S2670, k2671⟩ := S2663.call e2672 τ2661
  have L2673 := L2667.k k2671 (by decide)
  refine ⟨_, _, _, _, _, rfl, _, _, _, _, _, L2673.bk.ra, (L2667.bk.ra), ?_⟩
  obtain rfl := Option.some.inj hp
  exact hq _ S2670.ext'
theorem s_rBits {bits : Int} {m f : M} {Q : V → M → Prop} {rz : List Int} (hS : Pre f m)  (hp : prBits bits = some rz) (hq : ∀ m' f' c0, Grw m f m' f' → Sl f' c0 rz → Q (.c c0) m') : Wc prog tbl 17 [.c (.int .i64 bits)] m Q := by
  have S0 := hS.st
  obtain ⟨τ0, _⟩ : ∃ τ : Nat → Nat, True := ⟨fun _ => 0, trivial⟩
  refine w17 ?_
  unfold prBits at hp
  intro R0 hR0
  have hgo : ∀ (d2678 : Nat) (c1 : C) (x2 : Int) (l2676 : List Int) (m3 : M) (τ2675 : Nat → Nat), St (Fm.of m) f f m3 → Ow (Fm.of m) f τ2675 m3 1 c1 l2676 → prBits_L0 bits d2678 l2676 x2 = some rz → R0 [.c c1, .c (.int .i64 x2)] m3 := by
    intro d2678
    induction d2678 with
    | zero => intro c1 x2 l2676 m3 τ2675 S2674 o2677 hp; cases hp
    | succ d2678 ihR0 =>
      intro c1 x2 l2676 m3 τ2675 S2674 o2677 hp
      refine hR0 _ _ _ ?_
      rw [prBits_L0] at hp
      obtain ⟨g2679, hp⟩ := gd_some hp
      refine ⟨g2679, ?_⟩
      obtain ⟨g2680, hp⟩ := gd_some hp
      refine ⟨g2680, ?_⟩
      obtain ⟨g2681, hp⟩ := gd_some hp
      refine ⟨g2681, ?_⟩
      obtain ⟨g2682, hp⟩ := gd_some hp
      refine ⟨g2682, ?_⟩
      refine ifd hp (fun q2683 hp => ?_) fun q2683 hp => ?_; rotate_left
      · obtain ⟨f2703, S2704, k2705, h2706⟩ := o2677.freeze S2674
        obtain rfl := Option.some.inj hp
        exact hq _ f2703 c1 S2704.grw h2706
      obtain ⟨g2684, hp⟩ := gd_some hp
      refine ⟨g2684, ?_⟩
      obtain ⟨g2685, hp⟩ := gd_some hp
      refine ⟨g2685, ?_⟩
      obtain ⟨g2686, hp⟩ := gd_some hp
      refine ⟨g2686, ?_⟩
      obtain ⟨g2687, hp⟩ := gd_some hp
      refine ⟨g2687, ?_⟩
      obtain ⟨g2688, hp⟩ := gd_some hp
      refine ⟨g2688, ?_⟩
      obtain ⟨g2689, hp⟩ := gd_some hp
      refine ⟨g2689, ?_⟩
      obtain ⟨g2690, hp⟩ := gd_some hp
      refine ⟨g2690, ?_⟩
      refine ifd hp (fun q2691 hp => ?_) fun q2691 hp => ?_; rotate_left
      · obtain ⟨g2702, hp⟩ := gd_some hp
        refine ⟨g2702, ?_⟩
        exact ihR0 _ _ _ _ τ2675 S2674 o2677 hp
      obtain ⟨g2700, hp⟩ := gd_some hp
      intro m4 e2692
      obtain ⟨c2696, m2697, τ2695, a2698, S2693, k2694, o2699⟩ := o2677.app' ta25 S2674 (a := x2) (show Rp.rep (α := Int) f _ x2 from rfl) g2700 e2692
      refine ⟨c2696, m2697, a2698, ?_⟩
      obtain ⟨g2701, hp⟩ := gd_some hp
      refine ⟨g2701, ?_⟩
      exact ihR0 _ _ _ _ τ2695 S2693 o2699 hp
  exact hgo _ _ _ _ _ τ0 S0 (Ow.nil _ _ _ _ _) hp
theorem s_rBefore {a : List Int} {b : List Int} {ca100 ca200 : C} {m f : M} {Q : V → M → Prop} {rz : Bool} (hS : Pre f m) (ha100 : Sl f ca100 a) (ha200 : Sl f ca200 b) (hp : prBefore a b = some rz) (hq : ∀ m', Ext m m' → Q (.c (.bool rz)) m') : Wc prog tbl 31 [.c ca100, .c ca200] m Q := by
  have S0 := hS.st
  obtain ⟨τ0, _⟩ : ∃ τ : Nat → Nat, True := ⟨fun _ => 0, trivial⟩
  refine w31 ?_
  unfold prBefore at hp
  intro R0 hR0
  have hgo : ∀ (d2709 : Nat) (b1 : Bool) (x2 : Int) (m3 : M) (τ2708 : Nat → Nat), St (Fm.of m) f f m3 → prBefore_L0 a b d2709 x2 = some rz → R0 [.c (.bool b1), .c (.int .i64 x2)] m3 := by
    intro d2709
    induction d2709 with
    | zero => intro b1 x2 m3 τ2708 S2707 hp; cases hp
    | succ d2709 ihR0 =>
      intro b1 x2 m3 τ2708 S2707 hp
      refine hR0 _ _ _ ?_
      rw [prBefore_L0] at hp
      refine ⟨ha100.isSl, ?_⟩
      try rw [ha100.slLen]
      refine ifd hp (fun q2710 hp => ?_) fun q2710 hp => ?_; rotate_left
      · refine ⟨ha100.isSl, ha200.isSl, ?_⟩
        try rw [ha100.slLen]
        try rw [ha200.slLen]
        obtain rfl := Option.some.inj hp
        exact hq _ S2707.ext'
      refine ⟨ha200.isSl, ?_⟩
      try rw [ha200.slLen]
      refine ifd hp (fun q2711 hp => ?_) fun q2711 hp => ?_; rotate_left
      · refine ⟨ha100.isSl, ha200.isSl, ?_⟩
        try rw [ha100.slLen]
        try rw [ha200.slLen]
        obtain rfl := Option.some.inj hp
        exact hq _ S2707.ext'
      obtain ⟨x2712, g2713, hp⟩ := bsome hp
      obtain ⟨n4, g2713i, g2713l, g2713⟩ := idx_some g2713
      refine ⟨n4, g2713i, (by first | exact g2713l | (rw [ha100.slLen]; exact g2713l)), _, (ha100.rdI g2713 S2707.sub), ?_⟩
      obtain ⟨x2714, g2715, hp⟩ := bsome hp
      obtain ⟨n6, g2715i, g2715l, g2715⟩ := idx_some g2715
      refine ⟨n6, g2715i, (by first | exact g2715l | (rw [ha200.slLen]; exact g2715l)), _, (ha200.rdI g2715 S2707.sub), ?_⟩
      refine ifnd hp (fun q2716 hp => ?_) fun q2716 hp => ?_; rotate_left
      · obtain ⟨g2721, hp⟩ := gd_some hp
        refine ⟨g2721, ?_⟩
        exact ihR0 _ _ _ τ2708 S2707 hp
      obtain ⟨x2717, g2718, hp⟩ := bsome hp
      obtain ⟨n8, g2718i, g2718l, g2718⟩ := idx_some g2718
      refine ⟨n8, g2718i, (by first | exact g2718l | (rw [ha100.slLen]; exact g2718l)), _, (ha100.rdI g2718 S2707.sub), ?_⟩
      obtain ⟨x2719, g2720, hp⟩ := bsome hp
      obtain ⟨n10, g2720i, g2720l, g2720⟩ := idx_some g2720
      refine ⟨n10, g2720i, (by first | exact g2720l | (rw [ha200.slLen]; exact g2720l)), _, (ha200.rdI g2720 S2707.sub), ?_⟩
      obtain rfl := Option.some.inj hp
      exact hq _ S2707.ext'
  exact hgo _ _ _ _ τ0 S0 hp
theorem s_rShorter {a : List Int} {b : List Int} {ca100 ca200 : C} {m f : M} {Q : V → M → Prop} {rz : Bool} (hS : Pre f m) (ha100 : Sl f ca100 a) (ha200 : Sl f ca200 b) (hp : prShorter a b = some rz) (hq : ∀ m', Ext m m' → Q (.c (.bool rz)) m') : Wc prog tbl 16 [.c ca100, .c ca200] m Q := by
  have S0 := hS.st
  obtain ⟨τ0, _⟩ : ∃ τ : Nat → Nat, True := ⟨fun _ => 0, trivial⟩
  refine w16 ?_
  unfold prShorter at hp
  refine ⟨ha100.isSl, ha200.isSl, ?_⟩
  try rw [ha100.slLen]
  try rw [ha200.slLen]
  refine ifd hp (fun q2722 hp => ?_) fun q2722 hp => ?_
  · obtain rfl := Option.some.inj hp
    exact hq _ S0.ext'
  refine ⟨ha100.isSl, ha200.isSl, ?_⟩
  try rw [ha100.slLen]
  try rw [ha200.slLen]
  refine ifd hp (fun q2723 hp => ?_) fun q2723 hp => ?_; rotate_left
  · obtain rfl := Option.some.inj hp
    exact hq _ S0.ext'
  obtain ⟨r2724, g2725, hp⟩ := bsome hp
  refine s_rBefore (a := a) (b := b) S0.pre ha100 ha200 g2725 fun m1 e2728 => ?_
  obtain ⟨S2726, k2727⟩ := S0.call e2728 τ0
  refine ⟨_, rfl, ?_⟩
  obtain rfl := Option.some.inj hp
  exact hq _ S2726.ext'
end
end Go.Proofs.YtbhdgedghfibcaaGreat

namespace Go.Proofs.YtbhdgedghfibcaaGreat
open _root_.Go.Proofs.Tryz
open Go.Abs
set_option maxRecDepth 100000
noncomputable section
theorem cat_ints {f : M} : ∀ (l : List Int), Cat f (ints l) l
  | [] => rfl
  | a :: l => ⟨[.int .i64 a], ints l, rfl, rfl, cat_ints l⟩
/-- memory, as what lies there for good -/
def asM (m : M) : M := { nxt := m.nxt, g := fun b => if b < m.nxt then m.g b else none, vw := m.vw }
theorem asM_sub (m : M) : Sub (asM m) m := ⟨Nat.le_refl _, rfl, fun b hb _ => (if_pos hb).symm⟩
theorem asM_of {f m m' : M} (h : Sub f m) (e : Ext m m') : Sub f (asM m') := ⟨Nat.le_trans h.nxt e.nxt, e.vw.trans h.vw, fun b hb hd => by
  have := Nat.lt_of_lt_of_le hb h.nxt
  have := e.nxt
  show (if b < m'.nxt then m'.g b else none) = _
  rw [if_pos (by omega), e.g b (by omega)]
  exact h.g b hb hd⟩
theorem asM_pre {f m m' : M} (h : Pre f m) (e : Ext m m') : Pre (asM m') m' := ⟨asM_sub m', fun b hb => if_neg (by have hb : m'.nxt ≤ b := hb; omega), fun b hb => by
  have hb : m'.nxt ≤ b := hb
  show m'.vw b = none
  rw [e.vw, h.sub.vw]
  exact h.fv b (Nat.le_trans h.sub.nxt (Nat.le_trans e.nxt hb))⟩
theorem sl_of {m : M} {z : C} {L : List Int} (h : Li m z L) (hok : slOk z 1 L.length) : Sl (asM m) z L := by
  refine ⟨ints L, ⟨h.len, ?_⟩, cat_ints L, hok⟩
  rcases h.val with h1 | ⟨b, o, t, c, h1, h2, h3⟩
  · exact .inl h1
  · refine .inr ⟨b, o, t, c, h1, h2, fun h0 => (h3 h0).to' ?_ rfl⟩
    exact if_pos h2
/-- what lay there for good, and what is new -/
def grM (f m m' : M) : M := { nxt := m'.nxt, g := fun b => if b < m.nxt then f.g b else if b < m'.nxt then m'.g b else none, vw := f.vw }
theorem grM_pre {f m m' : M} (h : Pre f m) (e : Ext m m') : Pre (grM f m m') m' := by
  have hn := h.sub.nxt
  have he := e.nxt
  refine ⟨⟨Nat.le_refl _, by show m'.vw = f.vw; rw [e.vw, h.sub.vw], fun b hb hd => ?_⟩, fun b hb => ?_, fun b hb => h.fv b (by have hb : m'.nxt ≤ b := hb; omega)⟩
  · show m'.g b = (if b < m.nxt then f.g b else if b < m'.nxt then m'.g b else none)
    have hb : b < m'.nxt := hb
    by_cases hbm : b < m.nxt
    · rw [if_pos hbm]
      have hd : (if b < m.nxt then f.g b else if b < m'.nxt then m'.g b else none) ≠ none ∨ f.vw b ≠ none := hd
      rw [if_pos hbm] at hd
      have hbf : b < f.nxt := by
        rcases Nat.lt_or_ge b f.nxt with h1 | h1
        · exact h1
        · exact (hd.elim (fun h2 => h2 (h.fz b h1)) fun h2 => h2 (h.fv b h1)).elim
      rw [e.g b hbm]; exact h.sub.g b hbf hd
    · rw [if_neg hbm, if_pos hb]
  · have hb : m'.nxt ≤ b := hb
    show (if b < m.nxt then f.g b else if b < m'.nxt then m'.g b else none) = none
    rw [if_neg (by omega), if_neg (by omega)]
theorem s_shortest {n : Int} {passes : List Int → Option Bool} {c2 : C} {m f : M} {Q : V → M → Prop} {rz : List Int} (hS : Pre f m) (hF : Fv_LInt_Bool f c2 passes) (hp : pshortest n passes = some rz) (hq : ∀ m' f' c0, Grw m f m' f' → Sl f' c0 rz → Q (.c c0) m') : Wc prog tbl 47 [.c (.int .i64 n), .c c2] m Q := by
  obtain ⟨⟨h1, h2, h3⟩, hp⟩ := gd_some hp
  obtain rfl := Option.some.inj hp
  have hn : n = ((n.toNat : Nat) : Int) := by omega
  rw [hn]
  refine sShort (n := n.toNat) (t := fun L => (passes L).getD false) (by omega) (fun m' z L e hz hok hL Q' hQ' => ?_) fun z m' e hz hok hfr => ?_
  · have hs := h3 L hL
    cases hpl : passes L with
    | none => rw [hpl] at hs; cases hs
    | some b =>
      refine hF (asM m') m' L z b Q' (asM_of hS.sub e) (asM_pre hS e) (sl_of hz hok) hpl fun m'' e' => ?_
      have h7 : Q' (V.c (C.bool ((passes L).getD false))) m'' := hQ' m'' e'
      rw [hpl] at h7
      exact h7
  · refine hq m' (grM f m m') z ⟨e, ⟨Nat.le_trans hS.sub.nxt e.nxt, rfl, fun b hb _ => if_pos (Nat.lt_of_lt_of_le hb hS.sub.nxt)⟩, grM_pre hS e, fun b hb => if_pos hb⟩ ?_
    refine ⟨ints _, ⟨hz.len, ?_⟩, cat_ints _, hok⟩
    rcases hz.val with h4 | ⟨b, o, t, c, h4, h5, h6⟩
    · exact .inl h4
    · refine .inr ⟨b, o, t, c, h4, h5, fun h0 => (h6 h0).to' ?_ ?_⟩
      · have h7 := hfr _ _ _ _ _ h4
        show (if b < m.nxt then f.g b else if b < m'.nxt then m'.g b else none) = _
        rw [if_neg (by omega), if_pos h5]
      · show f.vw b = m'.vw b
        rw [e.vw, hS.sub.vw]
end
end Go.Proofs.YtbhdgedghfibcaaGreat

namespace Go.Proofs.YtbhdgedghfibcaaGreat
open _root_.Go.Proofs.Tryz
open Go.Abs
set_option maxRecDepth 100000
noncomputable section
theorem s_misprints {r : List Int} {ca100 : C} {m f : M} {Q : V → M → Prop} {rz : List Int} (hS : Pre f m) (ha100 : Sl f ca100 r) (hp : pmisprints r = some rz) (hq : ∀ m' f' c0, Grw m f m' f' → Sl f' c0 rz → Q (.c c0) m') : Wc prog tbl 28 [.c ca100] m Q := by
  have S0 := hS.st
  obtain ⟨τ0, _⟩ : ∃ τ : Nat → Nat, True := ⟨fun _ => 0, trivial⟩
  refine w28 ?_
  unfold pmisprints at hp
  refine ⟨ha100.isSl, ?_⟩
  obtain ⟨l0, wl0, el0⟩ : ∃ ws, mapO vW [.c ca100] = some ws ∧ mapS wV ws = [.c ca100] := (vWs_cons (vW_c ha100.noFn) vWs_nil)
  rw [wl0, optB_some]
  try rw [ha100.slLen]
  have hF4 : Fv_LInt_Bool f ((C.fn (Fn.func 48) l0 [])) (fun a1 => pcanBe r a1) := by
    intro f' m' a1 c2 r Q hs hpre h3 hg hq
    show Wc prog tbl 48 (appS (mapS wV l0) _) m' Q
    rw [el0]
    exact s_canBe hpre (ha100.sub hs) h3 hg hq
  obtain ⟨r5, g6, hp⟩ := bsome hp
  refine s_shortest (n := (r.length : Int)) (passes := (fun a1 => pcanBe r a1)) S0.pre hF4 g6 fun m2 f10 c11 e9 h12 => ?_
  obtain ⟨S7, k8⟩ := S0.callG e9 τ0
  refine ⟨_, rfl, ?_⟩
  obtain rfl := Option.some.inj hp
  exact hq _ f10 c11 S7.grw h12
theorem s_Misprints {l : List Tf} {which : Int} {crop : Int} {week : Int} {ca100 : C} {m f : M} {Q : V → M → Prop} {rz : List Int × Int} (hS : Pre f m) (ha100 : Sl f ca100 l) (hp : pMisprints l which crop week = some rz) (hq : ∀ m' f' c0, Grw m f m' f' → Sl f' c0 rz.1 → Q (.tup [.c c0, .c (.int .i64 rz.2)]) m') : Wc prog tbl 7 [.c ca100, .c (.int .i64 which), .c (.int .i64 crop), .c (.int .i64 week)] m Q := by
  have S0 := hS.st
  obtain ⟨τ0, _⟩ : ∃ τ : Nat → Nat, True := ⟨fun _ => 0, trivial⟩
  refine w7 ?_
  unfold pMisprints at hp
  obtain ⟨r13, g14, hp⟩ := bsome hp
  refine s_open (l := l) S0.pre ha100 g14 fun m1 f18 c19 c21 e17 h20 h22 => ?_
  obtain ⟨τ23, S15, k16, M24⟩ := S0.callN e17 h22 τ0 1
  refine ⟨_, _, _, rfl, ?_⟩
  intro m5 e25
  obtain ⟨τ28, S26, k27, L29⟩ := S15.blk e25 τ23 2
  have M30 := M24.k k27 (by decide)
  obtain ⟨m34, e33, S31, k32, L35⟩ := L29.sto S26 [c19, c21]
  have M36 := M30.k k32 (by decide)
  refine ⟨m34, e33, ?_⟩
  refine ifnd hp (fun q37 hp => ?_) fun q37 hp => ?_
  · obtain rfl := Option.some.inj hp
    exact hq _ f18 .sl0 S31.grw (Sl.nil _)
  refine ⟨trivial, _, L35.bk.rc rfl, ?_⟩
  obtain ⟨r38, g39, hp⟩ := bsome hp
  refine s_hasRates (l := r13.1.tariffs) (which := which) (crop := crop) (week := week) S31.pre h20 g39 fun m9 e42 => ?_
  obtain ⟨S40, k41⟩ := S31.call e42 τ28
  have L43 := L35.k k41 (by decide)
  have M44 := M36.k k41 (by decide)
  refine ⟨_, rfl, ?_⟩
  refine ifnb hp (fun q45 hp => ?_) fun q45 hp => ?_
  · obtain rfl := Option.some.inj hp
    exact hq _ f18 .sl0 S40.grw (Sl.nil _)
  obtain ⟨v46, g47, hp⟩ := bsome hp
  obtain ⟨n11, g47i, g47l, g47⟩ := idx_some g47
  obtain ⟨c48, c50, c52, r54, h49, h51, h53⟩ := rd_Tf ha100 g47
  refine ⟨n11, g47i, (by first | exact g47l | (rw [ha100.slLen]; exact g47l)), (ha100.isPt g47 _), _, ((r54 _ (Sub.trans k16.fs S40.sub)).2.1 5 _ rfl), ?_⟩
  obtain ⟨v55, g56, hp⟩ := bsome hp
  obtain ⟨n13, g56i, g56l, g56⟩ := idx_some g56
  obtain ⟨c57, r58, h59⟩ := h53.rdS g56
  refine ⟨n13, g56i, (by first | exact g56l | (rw [h53.slLen]; exact g56l)), _, (r58 _ (Sub.trans k16.fs S40.sub)), ?_⟩
  obtain ⟨v60, g61, hp⟩ := bsome hp
  obtain ⟨n15, g61i, g61l, g61⟩ := idx_some g61
  obtain ⟨c62, r63, h64⟩ := h59.rdS g61
  refine ⟨n15, g61i, (by first | exact g61l | (rw [h59.slLen]; exact g61l)), _, (r63 _ (Sub.trans k16.fs S40.sub)), ?_⟩
  obtain ⟨r65, g66, hp⟩ := bsome hp
  refine s_misprints (r := v60) S40.pre (h64.sub k16.fs) g66 fun m18 f70 c71 e69 h72 => ?_
  obtain ⟨S67, k68⟩ := S40.callG e69 τ28
  have L73 := L43.k k68 (by decide)
  have M74 := M44.k k68 (by decide)
  refine ⟨_, rfl, ?_⟩
  obtain rfl := Option.some.inj hp
  exact hq _ f70 c71 S67.grw h72
theorem s_TariffRising {l : List Tf} {which : Int} {crop : Int} {week : Int} {bits : Int} {ca100 : C} {m f : M} {Q : V → M → Prop} {rz : Bool} (hS : Pre f m) (ha100 : Sl f ca100 l) (hp : pTariffRising l which crop week bits = some rz) (hq : ∀ m', Ext m m' → Q (.c (.bool rz)) m') : Wc prog tbl 4 [.c ca100, .c (.int .u8 which), .c (.int .u8 crop), .c (.int .u8 week), .c (.int .u8 bits)] m Q := by
  have S0 := hS.st
  obtain ⟨τ0, _⟩ : ∃ τ : Nat → Nat, True := ⟨fun _ => 0, trivial⟩
  refine w4 ?_
  unfold pTariffRising at hp
  obtain ⟨r210, g211, hp⟩ := bsome hp
  refine s_lReady (l := l) S0.pre ha100 g211 fun m1 e214 => ?_
  obtain ⟨S212, k213⟩ := S0.call e214 τ0
  refine ⟨_, rfl, ?_⟩
  refine ifnb hp (fun q215 hp => ?_) fun q215 hp => ?_
  · obtain ⟨r216, g217, hp⟩ := bsome hp
    refine s_awake S212.pre  g217 fun m4 e220 => ?_
    obtain ⟨S218, k219⟩ := S212.call e220 τ0
    refine ⟨_, rfl, ?_⟩
    obtain rfl := Option.some.inj hp
    exact hq _ S218.ext'
  refine ⟨ha100.isSl, ?_⟩
  obtain ⟨g221, hp⟩ := gd_some hp
  refine ⟨g221, ?_⟩
  obtain ⟨g222, hp⟩ := gd_some hp
  refine ⟨(by first | exact g222 | (rw [ha100.slLen]; exact g222)), ?_⟩
  obtain ⟨g223, hp⟩ := gd_some hp
  refine ⟨(by first | exact g223 | (rw [ha100.slLen]; exact g223)), ?_⟩
  obtain ⟨r224, g225, hp⟩ := bsome hp
  refine s_rCrops (l := l) S212.pre ha100 g225 fun m7 e228 => ?_
  obtain ⟨S226, k227⟩ := S212.call e228 τ0
  refine ⟨_, rfl, ⟨ha100.isSl, rfl⟩, ?_⟩
  obtain ⟨g229, hp⟩ := gd_some hp
  refine ⟨g229, ?_⟩
  obtain ⟨g230, hp⟩ := gd_some hp
  refine ⟨g230, ?_⟩
  obtain ⟨g231, hp⟩ := gd_some hp
  refine ⟨g231, ?_⟩
  obtain ⟨v232, g233, hp⟩ := bsome hp
  obtain ⟨n9, g233i, g233l, g233⟩ := idx_some g233
  obtain ⟨c234, c236, c238, r240, h235, h237, h239⟩ := rd_Tf ha100 g233
  refine ⟨n9, (by first | exact g233i | (rw [ha100.slLen]; exact g233i)), (by first | exact g233l | (rw [ha100.slLen]; exact g233l)), (ha100.isPt g233 _), _, ((r240 _ S226.sub).2.1 3 _ rfl), h235.isSl, ?_⟩
  obtain ⟨g241, hp⟩ := gd_some hp
  refine ⟨g241, ?_⟩
  obtain ⟨g242, hp⟩ := gd_some hp
  refine ⟨(by first | exact g242 | (rw [h235.slLen]; exact g242)), ?_⟩
  obtain ⟨g243, hp⟩ := gd_some hp
  refine ⟨(by first | exact g243 | (rw [h235.slLen]; exact g243)), ?_⟩
  obtain ⟨v244, g245, hp⟩ := bsome hp
  obtain ⟨n11, g245i, g245l, g245⟩ := idx_some g245
  obtain ⟨c246, c248, c250, r252, h247, h249, h251⟩ := rd_Tf ha100 g245
  refine ⟨n11, (by first | exact g245i | (rw [ha100.slLen]; exact g245i)), (by first | exact g245l | (rw [ha100.slLen]; exact g245l)), (ha100.isPt g245 _), _, ((r252 _ S226.sub).2.1 5 _ rfl), ?_⟩
  obtain ⟨v253, g254, hp⟩ := bsome hp
  obtain ⟨n13, g254i, g254l, g254⟩ := idx_some g254
  obtain ⟨c255, r256, h257⟩ := h251.rdS g254
  refine ⟨n13, g254i, (by first | exact g254l | (rw [h251.slLen]; exact g254l)), _, (r256 _ S226.sub), ?_⟩
  obtain ⟨v258, g259, hp⟩ := bsome hp
  obtain ⟨n15, g259i, g259l, g259⟩ := idx_some g259
  obtain ⟨c260, r261, h262⟩ := h257.rdS g259
  refine ⟨n15, (by first | exact g259i | (rw [h235.slLen]; exact g259i)), (by first | exact g259l | (rw [h257.slLen]; exact g259l)), _, (r261 _ S226.sub), ?_⟩
  obtain ⟨r263, g264, hp⟩ := bsome hp
  refine s_lTariffs (l := l) S226.pre ha100 g264 fun m18 f268 c269 e267 h270 => ?_
  obtain ⟨S265, k266⟩ := S226.callG e267 τ0
  refine ⟨_, rfl, ?_⟩
  try rw [ha100.slLen]
  try rw [h235.slLen]
  obtain ⟨r271, g272, hp⟩ := bsome hp
  refine s_Misprints (l := r263) (which := ((wrapZ .i64 which) % (l.length : Int))) (crop := ((wrapZ .i64 crop) % r224)) (week := ((wrapZ .i64 week) % (v232.Weeks.length : Int))) S265.pre h270 g272 fun m21 f276 c277 e275 h278 => ?_
  obtain ⟨S273, k274⟩ := S265.callG e275 τ0
  refine ⟨_, _, rfl, ?_⟩
  refine ifnd hp (fun q279 hp => ?_) fun q279 hp => ?_
  · obtain rfl := Option.some.inj hp
    exact hq _ S273.ext'
  intro R24 hR24
  have hgo : ∀ (d283 : Nat) (b25 : Bool) (x26 : Int) (x27 : Int) (m28 : M) (f282 : M) (τ281 : Nat → Nat), St (Fm.of m) f f282 m28 → Sub f276 f282 → pTariffRising_L0 bits v258 r271 d283 x26 x27 = some rz → R24 [.c (.bool b25), .c (.int .i64 x26), .c (.int .i64 x27)] m28 := by
    intro d283
    induction d283 with
    | zero => intro b25 x26 x27 m28 f282 τ281 S280 f282s hp; cases hp
    | succ d283 ihR24 =>
      intro b25 x26 x27 m28 f282 τ281 S280 f282s hp
      refine hR24 _ _ _ _ ?_
      rw [pTariffRising_L0] at hp
      refine ⟨h278.isSl, ?_⟩
      try rw [h278.slLen]
      refine ifd hp (fun q284 hp => ?_) fun q284 hp => ?_; rotate_left
      · refine ⟨h262.isSl, ?_⟩
        obtain ⟨g325, hp⟩ := gd_some hp
        refine ⟨g325, ?_⟩
        obtain ⟨g326, hp⟩ := gd_some hp
        refine ⟨(by first | exact g326 | (rw [h262.slLen]; exact g326)), ?_⟩
        obtain ⟨g327, hp⟩ := gd_some hp
        refine ⟨(by first | exact g327 | (rw [h262.slLen]; exact g327)), ?_⟩
        obtain ⟨g328, hp⟩ := gd_some hp
        refine ⟨(by first | exact g328 | (rw [h262.slLen]; exact g328)), ?_⟩
        obtain ⟨g329, hp⟩ := gd_some hp
        refine ⟨g329, ?_⟩
        obtain ⟨g330, hp⟩ := gd_some hp
        refine ⟨(by first | exact g330 | (rw [h262.slLen]; exact g330)), ?_⟩
        obtain ⟨g331, hp⟩ := gd_some hp
        refine ⟨(by first | exact g331 | (rw [h262.slLen]; exact g331)), ?_⟩
        obtain ⟨r332, g333, hp⟩ := bsome hp
        refine s_rRise (l := v258) (out := x26) S280.pre (h262.sub (Sub.trans (Sub.trans k266.fs k274.fs) f282s)) g333 fun m43 e336 => ?_
        obtain ⟨S334, k335⟩ := S280.call e336 τ281
        refine ⟨_, rfl, ?_⟩
        refine ifbb hp (fun q337 hp => ?_) fun q337 hp => ?_; rotate_left
        · obtain rfl := Option.some.inj hp
          exact hq _ S334.ext'
        try rw [h262.slLen]
        obtain ⟨r338, g339, hp⟩ := bsome hp
        refine s_rRise (l := v258) (out := ((wrapZ .i64 bits) % ((1 : Int) * ((2 : Int) ^ (Int.toNat (wrapZ .u64 (v258.length : Int))))))) S334.pre (h262.sub (Sub.trans (Sub.trans k266.fs k274.fs) f282s)) g339 fun m46 e342 => ?_
        obtain ⟨S340, k341⟩ := S334.call e342 τ281
        refine ⟨_, rfl, ?_⟩
        refine ifbb hp (fun q343 hp => ?_) fun q343 hp => ?_; rotate_left
        · refine ⟨h278.isSl, ?_⟩
          obtain ⟨r369, g370, hp⟩ := bsome hp
          refine s_rRise (l := v258) (out := (0 : Int)) S340.pre (h262.sub (Sub.trans (Sub.trans k266.fs k274.fs) f282s)) g370 fun m61 e373 => ?_
          obtain ⟨S371, k372⟩ := S340.call e373 τ281
          refine ⟨_, rfl, ?_⟩
          try rw [h278.slLen]
          refine ifbb hp (fun q374 hp => ?_) fun q374 hp => ?_; rotate_left
          · obtain rfl := Option.some.inj hp
            exact hq _ S371.ext'
          obtain ⟨r375, g376, hp⟩ := bsome hp
          refine s_awake S371.pre  g376 fun m64 e379 => ?_
          obtain ⟨S377, k378⟩ := S371.call e379 τ281
          refine ⟨_, rfl, ?_⟩
          obtain rfl := Option.some.inj hp
          exact hq _ S377.ext'
        try rw [h262.slLen]
        obtain ⟨r344, g345, hp⟩ := bsome hp
        refine s_rBits (bits := ((wrapZ .i64 bits) % ((1 : Int) * ((2 : Int) ^ (Int.toNat (wrapZ .u64 (v258.length : Int))))))) S340.pre  g345 fun m49 f349 c350 e348 h351 => ?_
        obtain ⟨S346, k347⟩ := S340.callG e348 τ281
        refine ⟨_, rfl, ?_⟩
        obtain ⟨r352, g353, hp⟩ := bsome hp
        refine s_rShorter (a := r344) (b := r271.1) S346.pre h351 (h278.sub (Sub.trans f282s k347.fs)) g353 fun m52 e356 => ?_
        obtain ⟨S354, k355⟩ := S346.call e356 τ281
        refine ⟨_, rfl, ?_⟩
        refine ifnb hp (fun q357 hp => ?_) fun q357 hp => ?_; rotate_left
        · obtain rfl := Option.some.inj hp
          exact hq _ S354.ext'
        refine ⟨h278.isSl, ?_⟩
        obtain ⟨r358, g359, hp⟩ := bsome hp
        refine s_rRise (l := v258) (out := (0 : Int)) S354.pre (h262.sub (Sub.trans (Sub.trans (Sub.trans k266.fs k274.fs) f282s) k347.fs)) g359 fun m55 e362 => ?_
        obtain ⟨S360, k361⟩ := S354.call e362 τ281
        refine ⟨_, rfl, ?_⟩
        try rw [h278.slLen]
        refine ifbb hp (fun q363 hp => ?_) fun q363 hp => ?_; rotate_left
        · obtain rfl := Option.some.inj hp
          exact hq _ S360.ext'
        obtain ⟨r364, g365, hp⟩ := bsome hp
        refine s_awake S360.pre  g365 fun m58 e368 => ?_
        obtain ⟨S366, k367⟩ := S360.call e368 τ281
        refine ⟨_, rfl, ?_⟩
        obtain rfl := Option.some.inj hp
        exact hq _ S366.ext'
      obtain ⟨x285, g286, hp⟩ := bsome hp
      obtain ⟨n29, g286i, g286l, g286⟩ := idx_some g286
      refine ⟨n29, g286i, (by first | exact g286l | (rw [h278.slLen]; exact g286l)), _, (h278.rdI g286 (Sub.trans f282s S280.sub)), h262.isSl, ?_⟩
      obtain ⟨g287, hp⟩ := gd_some hp
      refine ⟨(by first | exact g287 | (rw [h262.slLen]; exact g287)), ?_⟩
      try rw [h262.slLen]
      obtain ⟨r288, g289, hp⟩ := bsome hp
      refine s_rIn (n := x285) (low := (0 : Int)) (high := ((v258.length : Int) - (1 : Int))) S280.pre  g289 fun m32 e292 => ?_
      obtain ⟨S290, k291⟩ := S280.call e292 τ281
      refine ⟨_, rfl, ?_⟩
      refine ifnb hp (fun q293 hp => ?_) fun q293 hp => ?_
      · obtain rfl := Option.some.inj hp
        exact hq _ S290.ext'
      refine ifd hp (fun q294 hp => ?_) fun q294 hp => ?_; rotate_left
      · obtain ⟨x313, g314, hp⟩ := bsome hp
        obtain ⟨n40, g314i, g314l, g314⟩ := idx_some g314
        refine ⟨n40, g314i, (by first | exact g314l | (rw [h278.slLen]; exact g314l)), _, (h278.rdI g314 (Sub.trans f282s S290.sub)), ?_⟩
        obtain ⟨g315, hp⟩ := gd_some hp
        refine ⟨g315, ?_⟩
        obtain ⟨g316, hp⟩ := gd_some hp
        refine ⟨g316, ?_⟩
        obtain ⟨g317, hp⟩ := gd_some hp
        refine ⟨g317, ?_⟩
        obtain ⟨g318, hp⟩ := gd_some hp
        refine ⟨g318, ?_⟩
        obtain ⟨g319, hp⟩ := gd_some hp
        refine ⟨g319, ?_⟩
        obtain ⟨g320, hp⟩ := gd_some hp
        refine ⟨g320, ?_⟩
        obtain ⟨g321, hp⟩ := gd_some hp
        refine ⟨g321, ?_⟩
        obtain ⟨g322, hp⟩ := gd_some hp
        refine ⟨g322, ?_⟩
        obtain ⟨g323, hp⟩ := gd_some hp
        refine ⟨g323, ?_⟩
        obtain ⟨g324, hp⟩ := gd_some hp
        refine ⟨g324, ?_⟩
        exact ihR24 _ _ _ _ f282 τ281 S290 f282s hp
      obtain ⟨x295, g296, hp⟩ := bsome hp
      obtain ⟨n34, g296i, g296l, g296⟩ := idx_some g296
      refine ⟨n34, g296i, (by first | exact g296l | (rw [h278.slLen]; exact g296l)), _, (h278.rdI g296 (Sub.trans f282s S290.sub)), ?_⟩
      obtain ⟨g297, hp⟩ := gd_some hp
      refine ⟨g297, ?_⟩
      obtain ⟨x298, g299, hp⟩ := bsome hp
      obtain ⟨n36, g299i, g299l, g299⟩ := idx_some g299
      refine ⟨n36, g299i, (by first | exact g299l | (rw [h278.slLen]; exact g299l)), _, (h278.rdI g299 (Sub.trans f282s S290.sub)), ?_⟩
      refine ifd hp (fun q300 hp => ?_) fun q300 hp => ?_
      · obtain rfl := Option.some.inj hp
        exact hq _ S290.ext'
      obtain ⟨x301, g302, hp⟩ := bsome hp
      obtain ⟨n38, g302i, g302l, g302⟩ := idx_some g302
      refine ⟨n38, g302i, (by first | exact g302l | (rw [h278.slLen]; exact g302l)), _, (h278.rdI g302 (Sub.trans f282s S290.sub)), ?_⟩
      obtain ⟨g303, hp⟩ := gd_some hp
      refine ⟨g303, ?_⟩
      obtain ⟨g304, hp⟩ := gd_some hp
      refine ⟨g304, ?_⟩
      obtain ⟨g305, hp⟩ := gd_some hp
      refine ⟨g305, ?_⟩
      obtain ⟨g306, hp⟩ := gd_some hp
      refine ⟨g306, ?_⟩
      obtain ⟨g307, hp⟩ := gd_some hp
      refine ⟨g307, ?_⟩
      obtain ⟨g308, hp⟩ := gd_some hp
      refine ⟨g308, ?_⟩
      obtain ⟨g309, hp⟩ := gd_some hp
      refine ⟨g309, ?_⟩
      obtain ⟨g310, hp⟩ := gd_some hp
      refine ⟨g310, ?_⟩
      obtain ⟨g311, hp⟩ := gd_some hp
      refine ⟨g311, ?_⟩
      obtain ⟨g312, hp⟩ := gd_some hp
      refine ⟨g312, ?_⟩
      exact ihR24 _ _ _ _ f282 τ281 S290 f282s hp
  exact hgo _ _ _ _ _ f276 τ0 S273 (Sub.refl _) hp
end
end Go.Proofs.YtbhdgedghfibcaaGreat

namespace Go.Proofs.YtbhdgedghfibcaaGreat
open _root_.Go.Proofs.Tryz
open Go.Abs
set_option maxRecDepth 100000
noncomputable section
def Inc (n fr : Nat) (T : List Int) : Prop := T.Pairwise (· < ·) ∧ ∀ v ∈ T, (fr : Int) ≤ v ∧ v < n
theorem Inc.cons {n fr : Nat} {x : Int} {T : List Int} : Inc n fr (x :: T) ↔ ((fr : Int) ≤ x ∧ x < n) ∧ Inc n (x + 1).toNat T := by
  unfold Inc
  rw [List.pairwise_cons]
  constructor
  · rintro ⟨⟨h1, h2⟩, h3⟩
    have hx := h3 x (List.mem_cons_self ..)
    exact ⟨hx, h2, fun v hv => by have := h1 v hv; have := h3 v (List.mem_cons_of_mem _ hv); omega⟩
  · rintro ⟨hx, h2, h3⟩
    refine ⟨⟨fun v hv => by have := h3 v hv; omega, h2⟩, fun v hv => ?_⟩
    rcases List.mem_cons.1 hv with rfl | hv
    · exact hx
    · have := h3 v hv; omega
theorem mem_combs {n : Nat} {D : List Int} : ∀ {d : Nat} {pre : List Int} {fr : Nat}, D ∈ combs n d pre fr ↔ ∃ T, D = pre ++ T ∧ T.length = d ∧ Inc n fr T
  | 0, pre, fr => by
    show D ∈ [pre] ↔ _
    rw [List.mem_singleton]
    constructor
    · rintro rfl; exact ⟨[], by simp, rfl, .nil, fun v hv => by cases hv⟩
    · rintro ⟨T, h1, h2, _⟩
      rw [List.eq_nil_of_length_eq_zero h2, List.append_nil] at h1; exact h1
  | d + 1, pre, fr => by
    show D ∈ rests (fun x => combs n d (pre ++ [(x : Int)]) (x + 1)) (n - fr) fr ↔ _
    rw [mem_rests]
    constructor
    · rintro ⟨x, h1, h2, h3⟩
      obtain ⟨T, h4, h5, h6⟩ := mem_combs.1 h3
      refine ⟨(x : Int) :: T, by rw [h4]; simp, by simp [h5], Inc.cons.2 ⟨by omega, ?_⟩⟩
      rw [show ((x : Int) + 1).toNat = x + 1 by omega]; exact h6
    · rintro ⟨T, h1, h2, h3⟩
      cases T with
      | nil => simp at h2
      | cons v T =>
        obtain ⟨h4, h5⟩ := Inc.cons.1 h3
        refine ⟨v.toNat, by omega, by omega, mem_combs.2 ⟨T, ?_, by simpa using h2, ?_⟩⟩
        · rw [show ((v.toNat : Nat) : Int) = v by omega, h1]; simp
        · rw [show v.toNat + 1 = (v + 1).toNat by omega]; exact h5
theorem inc_len {n : Nat} : ∀ {T : List Int} {fr : Nat}, Inc n fr T → T.length ≤ n - fr
  | [], _, _ => Nat.zero_le _
  | v :: T, fr, h => by
    obtain ⟨h1, h2⟩ := Inc.cons.1 h
    have := inc_len h2
    simp only [List.length_cons]
    omega
theorem mem_allL {n : Nat} {D : List Int} : D ∈ allL n ↔ Inc n 0 D := by
  unfold allL
  rw [mem_rests]
  constructor
  · rintro ⟨s, _, _, h⟩
    obtain ⟨T, h1, _, h2⟩ := mem_combs.1 h
    rw [h1]; exact h2
  · intro h
    have := inc_len h
    exact ⟨D.length, Nat.zero_le _, by omega, mem_combs.2 ⟨D, rfl, rfl, h⟩⟩
def bitI (out : Int) (k : Nat) : Bool := decide (out / 2 ^ k % 2 ≠ 0)
def inD (D : List Int) (j : Nat) : Bool := decide ((j : Int) ∈ D)
def bitsF (b : Nat) : Nat → List Int
  | 0 => []
  | p + 1 => bitsF b p ++ (if b.testBit p then [(p : Int)] else [])
def bitsL (b : Nat) : List Int := bitsF b 16
theorem mem_bitsF {b : Nat} {v : Int} : ∀ {p : Nat}, v ∈ bitsF b p ↔ 0 ≤ v ∧ v < p ∧ b.testBit v.toNat = true
  | 0 => ⟨fun h => (by cases h), fun h => by omega⟩
  | p + 1 => by
    show v ∈ bitsF b p ++ _ ↔ _
    rw [List.mem_append, mem_bitsF]
    constructor
    · rintro (h | h)
      · exact ⟨h.1, by omega, h.2.2⟩
      · by_cases hb : b.testBit p = true
        · rw [if_pos hb, List.mem_singleton] at h
          subst h; exact ⟨by omega, by omega, hb⟩
        · rw [if_neg hb] at h; cases h
    · rintro ⟨h1, h2, h3⟩
      by_cases hv : v = (p : Int)
      · subst hv
        have h4 : b.testBit p = true := h3
        rw [if_pos h4]; exact .inr (List.mem_singleton.2 rfl)
      · exact .inl ⟨h1, by omega, h3⟩
theorem sorted_bitsF {b : Nat} : ∀ p : Nat, (bitsF b p).Pairwise (· < ·)
  | 0 => .nil
  | p + 1 => by
    show (bitsF b p ++ _).Pairwise _
    rw [List.pairwise_append]
    refine ⟨sorted_bitsF p, ?_, fun a ha c hc => ?_⟩
    · split
      · exact List.pairwise_singleton _ _
      · exact .nil
    · have := mem_bitsF.1 ha
      split at hc
      · rw [List.mem_singleton] at hc; omega
      · cases hc
theorem bitsF_more {b p : Nat} (h : ∀ q, p ≤ q → b.testBit q = false) : ∀ k, bitsF b (p + k) = bitsF b p
  | 0 => rfl
  | k + 1 => by
    show bitsF b (p + k) ++ (if b.testBit (p + k) then _ else _) = _
    rw [h (p + k) (by omega), bitsF_more h k]; simp
theorem lenF {b : Nat} : ∀ p, (bitsF b p).length ≤ p
  | 0 => Nat.le_refl _
  | p + 1 => by
    show (bitsF b p ++ _).length ≤ _
    rw [List.length_append]
    have := lenF (b := b) p
    split <;> simp <;> omega
theorem div_cast (b p : Nat) : (b : Int) / 2 ^ p = ((b / 2 ^ p : Nat) : Int) := by simp
theorem bit_zero {b p q : Nat} (h : b / 2 ^ p = 0) (hq : p ≤ q) : b.testBit q = false := by
  have h1 : b < 2 ^ p := by
    rcases Nat.lt_or_ge b (2 ^ p) with h2 | h2
    · exact h2
    · have := Nat.div_pos h2 (Nat.two_pow_pos p); omega
  exact Nat.testBit_lt_two_pow (Nat.lt_of_lt_of_le h1 (Nat.pow_le_pow_right (by omega) hq))
theorem bitI_eq (b k : Nat) : bitI (b : Int) k = b.testBit k := by
  unfold bitI
  rw [div_cast, Nat.testBit_eq_decide_div_mod_eq]
  exact decide_eq_decide.2 (by omega)
/-- Bits -/
def bef : List Int → List Int → Bool
  | [], [] => false
  | [], _ :: _ => true
  | _ :: _, [] => false
  | x :: a, y :: b => if x = y then bef a b else decide (x < y)
def shB (a b : List Int) : Bool := decide (a.length < b.length) || (decide (a.length = b.length) && bef a b)
/-- Shorter -/
theorem bef_irr : ∀ A : List Int, bef A A = false
  | [] => rfl
  | x :: A => by show (if x = x then bef A A else _) = _; rw [if_pos rfl, bef_irr A]
theorem bef_asym : ∀ {A B : List Int}, bef A B = true → bef B A = false
  | [], [], h => by cases h
  | [], _ :: _, _ => rfl
  | _ :: _, [], h => by cases h
  | x :: A, y :: B, h => by
    have h' : (if x = y then bef A B else decide (x < y)) = true := h
    show (if y = x then bef B A else decide (y < x)) = false
    by_cases hxy : x = y
    · rw [if_pos hxy] at h'; rw [if_pos hxy.symm]; exact bef_asym h'
    · rw [if_neg hxy] at h'; rw [if_neg fun h => hxy h.symm]
      have := of_decide_eq_true h'
      exact decide_eq_false (by omega)
theorem shB_iff {A B : List Int} : shB A B = true ↔ A.length < B.length ∨ (A.length = B.length ∧ bef A B = true) := by
  unfold shB
  rw [Bool.or_eq_true, Bool.and_eq_true, decide_eq_true_eq, decide_eq_true_eq]
theorem shB_irr (A : List Int) : shB A A = false := by unfold shB; rw [decide_eq_false (by omega), bef_irr]; simp
theorem shB_asym {A B : List Int} (h : shB A B = true) : shB B A = false := by
  unfold shB at h ⊢
  rw [Bool.or_eq_true, Bool.and_eq_true, decide_eq_true_eq, decide_eq_true_eq] at h
  rcases h with h | ⟨h1, h2⟩
  · rw [decide_eq_false (by omega), decide_eq_false (by omega)]; rfl
  · rw [decide_eq_false (by omega), bef_asym h2]; simp
theorem bef_app (x y : Int) (A B : List Int) (hxy : x < y) : ∀ pre : List Int, bef (pre ++ x :: A) (pre ++ y :: B) = true
  | [] => by show (if x = y then _ else decide (x < y)) = true; rw [if_neg (by omega), decide_eq_true hxy]
  | p :: pre => by show (if p = p then bef (pre ++ x :: A) (pre ++ y :: B) else _) = true; rw [if_pos rfl]; exact bef_app x y A B hxy pre
theorem rests_pairwise {α : Type} {R : α → α → Prop} (g : Nat → List α) (h1 : ∀ x, (g x).Pairwise R) (h2 : ∀ x y, x < y → ∀ a ∈ g x, ∀ b ∈ g y, R a b) : ∀ e x, (rests g e x).Pairwise R
  | 0, _ => .nil
  | e + 1, x => by
    show (g x ++ rests g e (x + 1)).Pairwise R
    rw [List.pairwise_append]
    refine ⟨h1 x, rests_pairwise g h1 h2 e (x + 1), fun a ha b hb => ?_⟩
    obtain ⟨j, h3, _, h4⟩ := (mem_rests g b e (x + 1)).1 hb
    exact h2 x j (by omega) a ha b h4
theorem combs_pairwise {n : Nat} : ∀ (d : Nat) (pre : List Int) (fr : Nat), (combs n d pre fr).Pairwise fun a b => bef a b = true
  | 0, pre, fr => List.pairwise_singleton _ _
  | d + 1, pre, fr => rests_pairwise _ (fun x => combs_pairwise d _ _) (fun x y hxy a ha b hb => by
    obtain ⟨T, h1, _, _⟩ := mem_combs.1 ha
    obtain ⟨T', h2, _, _⟩ := mem_combs.1 hb
    rw [h1, h2, List.append_assoc, List.append_assoc]
    exact bef_app _ _ _ _ (by omega) pre) _ _
theorem allL_pairwise (n : Nat) : (allL n).Pairwise fun a b => shB a b = true :=
  rests_pairwise _ (fun s => (combs_pairwise s [] 0).imp_of_mem fun {a b} ha hb hab => by
    have h1 := combs_len ha
    have h2 := combs_len hb
    unfold shB
    rw [hab, decide_eq_true (show a.length = b.length by omega)]; simp) (fun s s' hs a ha b hb => by
    have h1 := combs_len ha
    have h2 := combs_len hb
    unfold shB
    rw [decide_eq_true (by omega)]; rfl) _ _
theorem find_min {t : List Int → Bool} : ∀ {l : List (List Int)}, l.Pairwise (fun a b => shB a b = true) → ∀ {D D' : List Int}, l.find? t = some D → D' ∈ l → t D' = true → D' = D ∨ shB D D' = true
  | [], _, _, _, h, _, _ => by cases h
  | a :: l, hp, D, D', h, hm, ht => by
    rw [List.pairwise_cons] at hp
    rw [List.find?_cons] at h
    cases hta : t a with
    | true =>
      rw [hta] at h
      have : a = D := Option.some.inj h
      subst this
      rcases List.mem_cons.1 hm with rfl | h1
      · exact .inl rfl
      · exact .inr (hp.1 _ h1)
    | false =>
      rw [hta] at h
      rcases List.mem_cons.1 hm with rfl | h1
      · rw [hta] at ht; cases ht
      · exact find_min hp.2 h h1 ht
/-- the shortest list that passes -/
theorem shortL_spec {n : Nat} {t : List Int → Bool} (h : ∃ D, Inc n 0 D ∧ t D = true) : Inc n 0 (shortL n t) ∧ t (shortL n t) = true ∧ ∀ D, Inc n 0 D → t D = true → D = shortL n t ∨ shB (shortL n t) D = true := by
  obtain ⟨D0, h1, h2⟩ := h
  unfold shortL
  cases hf : (allL n).find? t with
  | none => exact absurd h2 (by have := List.find?_eq_none.1 hf D0 (mem_allL.2 h1); simpa using this)
  | some D => exact ⟨mem_allL.1 (List.mem_of_find?_eq_some hf), List.find?_some hf, fun D' h3 h4 => find_min (allL_pairwise n) hf (mem_allL.2 h3) h4⟩
theorem bits_inc {n b : Nat} (hn : n ≤ 16) (hb : b < 2 ^ n) : Inc n 0 (bitsL b) :=
  ⟨sorted_bitsF 16, fun v hv => by
    obtain ⟨h1, h2, h3⟩ := mem_bitsF.1 hv
    refine ⟨by omega, ?_⟩
    by_cases h4 : v < n
    · exact h4
    · have := Nat.testBit_lt_two_pow (Nat.lt_of_lt_of_le hb (Nat.pow_le_pow_right (by omega) (show n ≤ v.toNat by omega)))
      rw [this] at h3; cases h3⟩
theorem inD_bits {n b k : Nat} (hn : n ≤ 16) (hk : k < n) : inD (bitsL b) k = b.testBit k := by
  unfold inD
  have : ((k : Nat) : Int) ∈ bitsL b ↔ b.testBit k = true := by
    unfold bitsL
    rw [mem_bitsF]
    exact ⟨fun h => h.2.2, fun h => ⟨by omega, by omega, h⟩⟩
  cases hb : b.testBit k with
  | true => exact decide_eq_true (this.2 hb)
  | false => exact decide_eq_false fun h => by rw [this.1 h] at hb; cases hb
end
end Go.Proofs.YtbhdgedghfibcaaGreat

namespace Go.Proofs.YtbhdgedghfibcaaGreat
open _root_.Go.Proofs.Tryz
open Go.Abs
set_option maxRecDepth 100000
noncomputable section
/-- the index of the last number of a list that is at most n -/
def lastN : List Int → Int → Nat
  | x :: y :: l, n => if y ≤ n then lastN (y :: l) n + 1 else 0
  | _, _ => 0
theorem lastN_lt : ∀ (l : List Int) (n : Int), l ≠ [] → lastN l n < l.length
  | [], _, h => absurd rfl h
  | [_], _, _ => by simp [lastN]
  | x :: y :: l, n, _ => by
    unfold lastN
    split
    · have := lastN_lt (y :: l) n (by simp)
      simp only [List.length_cons] at this ⊢; omega
    · simp
/-- only one is so -/
theorem pw_lt {l : List Int} (hp : l.Pairwise (· < ·)) {i j : Nat} {x y : Int} (hx : l[i]? = some x) (hy : l[j]? = some y) (hij : i < j) : x < y := by
  obtain ⟨h1, h2⟩ := List.getElem?_eq_some_iff.1 hx
  obtain ⟨h3, h4⟩ := List.getElem?_eq_some_iff.1 hy
  rw [← h2, ← h4]
  exact List.pairwise_iff_getElem.1 hp i j h1 h3 hij
end
end Go.Proofs.YtbhdgedghfibcaaGreat

namespace Go.Proofs.YtbhdgedghfibcaaGreat
open _root_.Go.Proofs.Tryz
open Go.Abs
set_option maxRecDepth 100000
noncomputable section
/-- the number i of a list, or 0 -/
def nth (l : List Int) (i : Nat) : Int := l.getD i 0
theorem nth_of {l : List Int} {i : Nat} {x : Int} (h : l[i]? = some x) : nth l i = x := by
  unfold nth; rw [List.getD_eq_getElem?_getD, h]; rfl
theorem nth_some {l : List Int} {i : Nat} (h : i < l.length) : l[i]? = some (nth l i) := by
  rw [List.getElem?_eq_getElem h, nth_of (List.getElem?_eq_getElem h)]
/-- counts that are so, and rates -/
structure Cnt (counts : List Int) : Prop where
  pw : counts.Pairwise (· < ·)
  hd : counts.head? = some 0
  lst : counts.getLast? = some 100
structure Rts (counts rates : List Int) : Prop extends Cnt counts where
  len : rates.length = counts.length
  rng : ∀ r ∈ rates, 0 ≤ r ∧ r ≤ 100
variable {cs rs : List Int}
theorem Cnt.ne (h : Cnt cs) : cs ≠ [] := fun e => by have := h.hd; rw [e] at this; cases this
theorem Cnt.h0 (h : Cnt cs) {n : Int} (hn : 0 ≤ n) : ∀ x, cs.head? = some x → x ≤ n := fun x hx => by
  have := h.hd; rw [this] at hx; cases hx; exact hn
theorem Cnt.lt (h : Cnt cs) (n : Int) : lastN cs n < cs.length := lastN_lt cs n h.ne
theorem Rts.at (h : Rts cs rs) {i : Nat} (hi : i < cs.length) : 0 ≤ nth rs i ∧ nth rs i ≤ 100 := by
  have : i < rs.length := by rw [h.len]; exact hi
  exact h.rng _ (List.mem_of_getElem? (nth_some this))
end
end Go.Proofs.YtbhdgedghfibcaaGreat

namespace Go.Proofs.YtbhdgedghfibcaaGreat
open _root_.Go.Proofs.Tryz
open Go.Abs
set_option maxRecDepth 100000
noncomputable section
structure VT (t : Tf) : Prop where
  frm : 0 ≤ t.From ∧ t.From ≤ 120
  lst : 0 ≤ t.Least ∧ t.Least ≤ 100
  wks : t.Weeks.Pairwise (· < ·) ∧ t.Weeks.head? = some 0 ∧ ∀ x ∈ t.Weeks, 0 ≤ x ∧ x ≤ 120
  cts : t.Counts.Pairwise (· < ·) ∧ t.Counts.head? = some 0 ∧ ∀ x ∈ t.Counts, 0 ≤ x ∧ x ≤ 100
  c100 : t.Counts.getLast? = some 100
  rne : t.Rates ≠ []
  rts : ∀ c ∈ t.Rates, c.length = t.Weeks.length ∧ ∀ w ∈ c, w.length = t.Counts.length ∧ ∀ r ∈ w, 0 ≤ r ∧ r ≤ 100
def cropsN (l : List Tf) : Nat := match l with | [] => 0 | t :: _ => t.Rates.length
structure VL (l : List Tf) : Prop where
  ne : l ≠ []
  vt : ∀ t ∈ l, VT t
  pw : (l.map (·.From)).Pairwise (· < ·)
  hd : (l.map (·.From)).head? = some 0
  crp : ∀ t ∈ l, t.Rates.length = cropsN l
def tooManyN (t : Tf) : Prop := 4 < t.Weeks.length ∨ 5 < t.Counts.length ∨ 3 < t.Rates.length
def ManyN (l : List Tf) : Prop := 3 < l.length ∨ ∃ t ∈ l, tooManyN t
open Classical in
def faultN (l : List Tf) : Int := if ManyN l then 3 else if VL l then 0 else 1
theorem faultN_zero {l : List Tf} : faultN l = 0 ↔ ¬ ManyN l ∧ VL l := by
  unfold faultN
  split
  · rename_i h; exact ⟨fun h => by omega, fun h' => absurd h h'.1⟩
  · rename_i h
    split
    · rename_i h2; exact ⟨fun _ => ⟨h, h2⟩, fun _ => rfl⟩
    · rename_i h2; exact ⟨fun h => by omega, fun h' => absurd h'.2 h2⟩
/-- the rates of a crop and a day -/
def ratesN (t : Tf) (crop day : Int) : List Int := (t.Rates.getD crop.toNat []).getD (lastN t.Weeks day) []
instance : Inhabited Tf := ⟨⟨0, false, 0, [], [], []⟩⟩
def ofN (l : List Tf) (day : Int) : Tf := l.getD (lastN (l.map (·.From)) day) default
theorem VT.wlt {t : Tf} (h : VT t) (d : Int) : lastN t.Weeks d < t.Weeks.length := lastN_lt _ _ fun e => by have := h.wks.2.1; rw [e] at this; cases this
theorem VT.cnt {t : Tf} (h : VT t) : Cnt t.Counts := ⟨h.cts.1, h.cts.2.1, h.c100⟩
theorem VT.rates {t : Tf} (h : VT t) {crop : Int} (h0 : 0 ≤ crop) (h1 : crop < t.Rates.length) (day : Int) :
    ∃ wks, t.Rates[crop.toNat]? = some wks ∧ wks[lastN t.Weeks day]? = some (ratesN t crop day) ∧ Rts t.Counts (ratesN t crop day) := by
  have hc : crop.toNat < t.Rates.length := by omega
  have e1 := List.getElem?_eq_getElem hc
  obtain ⟨q1, q2⟩ := h.rts _ (List.getElem_mem hc)
  have hw : lastN t.Weeks day < t.Rates[crop.toNat].length := by rw [q1]; exact h.wlt day
  have e2 := List.getElem?_eq_getElem hw
  have e3 : ratesN t crop day = t.Rates[crop.toNat][lastN t.Weeks day] := by
    have e4 : t.Rates.getD crop.toNat [] = t.Rates[crop.toNat] := by rw [List.getD_eq_getElem?_getD, e1]; rfl
    unfold ratesN
    rw [e4, List.getD_eq_getElem?_getD, e2, Option.getD_some]
  obtain ⟨q3, q4⟩ := q2 _ (List.getElem_mem hw)
  refine ⟨_, e1, by rw [e2, e3], ⟨h.cnt, by rw [e3]; exact q3, by rw [e3]; exact q4⟩⟩
theorem VL.of {l : List Tf} (h : VL l) (day : Int) : l[lastN (l.map (·.From)) day]? = some (ofN l day) ∧ ofN l day ∈ l := by
  have hl := lastN_lt (l.map (·.From)) day fun e => h.ne (List.map_eq_nil_iff.1 e)
  rw [List.length_map] at hl
  have e : l[lastN (l.map (·.From)) day]? = some (ofN l day) := by
    unfold ofN
    rw [List.getD_eq_getElem?_getD, List.getElem?_eq_getElem hl, Option.getD_some]
  exact ⟨e, List.mem_of_getElem? e⟩
theorem VL.vof {l : List Tf} (h : VL l) (day : Int) : VT (ofN l day) := h.vt _ (h.of day).2
theorem VL.cof {l : List Tf} (h : VL l) (day : Int) : (ofN l day).Rates.length = cropsN l := h.crp _ (h.of day).2
theorem VL.rts {l : List Tf} (h : VL l) {crop : Int} (h0 : 0 ≤ crop) (h1 : crop < cropsN l) (day : Int) : Rts (ofN l day).Counts (ratesN (ofN l day) crop day) := by
  obtain ⟨_, _, _, q⟩ := (h.vof day).rates h0 (by rw [h.cof]; exact h1) day
  exact q
end
end Go.Proofs.YtbhdgedghfibcaaGreat

namespace Go.Proofs.YtbhdgedghfibcaaGreat
open _root_.Go.Proofs.Tryz
open Go.Abs
set_option maxRecDepth 100000
noncomputable section
/-- another Least, or Whole -/
structure Same (t u : Tf) : Prop where
  frm : u.From = t.From
  wks : u.Weeks = t.Weeks
  cts : u.Counts = t.Counts
  rts : u.Rates = t.Rates
theorem VT.same {t u : Tf} (h : VT t) (s : Same t u) (hl : 0 ≤ u.Least ∧ u.Least ≤ 100) : VT u :=
  ⟨by rw [s.frm]; exact h.frm, hl, by rw [s.wks]; exact h.wks, by rw [s.cts]; exact h.cts, by rw [s.cts]; exact h.c100, by rw [s.rts]; exact h.rne, by rw [s.rts, s.wks, s.cts]; exact h.rts⟩
theorem crops_map {f : Tf → Tf} {l : List Tf} (hs : ∀ t ∈ l, Same t (f t)) : cropsN (l.map f) = cropsN l := by
  cases l with
  | nil => rfl
  | cons t l => show (f t).Rates.length = t.Rates.length; rw [(hs t (List.mem_cons_self ..)).rts]
theorem from_map {f : Tf → Tf} {l : List Tf} (hs : ∀ t ∈ l, Same t (f t)) : (l.map f).map (·.From) = l.map (·.From) := by
  rw [List.map_map]
  exact List.map_congr_left fun t ht => (hs t ht).frm
theorem VL.map {f : Tf → Tf} {l : List Tf} (h : VL l) (hs : ∀ t ∈ l, Same t (f t)) (hl : ∀ t ∈ l, 0 ≤ (f t).Least ∧ (f t).Least ≤ 100) : VL (l.map f) := by
  have hf := from_map hs
  refine ⟨fun e => h.ne (List.map_eq_nil_iff.1 e), fun u hu => ?_, by rw [hf]; exact h.pw, by rw [hf]; exact h.hd, fun u hu => ?_⟩
  · obtain ⟨t, ht, rfl⟩ := List.mem_map.1 hu
    exact (h.vt t ht).same (hs t ht) (hl t ht)
  · obtain ⟨t, ht, rfl⟩ := List.mem_map.1 hu
    rw [crops_map hs, (hs t ht).rts]
    exact h.crp t ht
end
end Go.Proofs.YtbhdgedghfibcaaGreat

namespace Go.Proofs.YtbhdgedghfibcaaGreat
open _root_.Go.Proofs.Tryz
open Go.Abs
set_option maxRecDepth 100000
noncomputable section
theorem In_ev {n lo hi : Int} : Ev (prIn n lo hi) (lo ≤ n ∧ n ≤ hi) := Ev.ite fun _ => Ev.dec Iff.rfl
theorem has_ev {r : Rg} {n : Int} : Ev (phas r n) (r.Lo ≤ n ∧ n ≤ r.Hi) := Ev.ite fun _ => Ev.dec Iff.rfl
theorem isDay_ev {n : Int} : Ev (pisDay n) (0 ≤ n ∧ n ≤ 120) := has_ev.ret
theorem isHundredths_ev {n : Int} : Ev (pisHundredths n) (0 ≤ n ∧ n ≤ 100) := has_ev.ret
theorem isIndex_ev {n s : Int} (hs : 0 ≤ s ∧ s ≤ 4611686018427387904) : Ev (pisIndex n s) (0 ≤ n ∧ n < s) := Ev.gd (fI (by omega)) (has_ev.ret.imp (by show 0 ≤ n ∧ n ≤ s - 1 ↔ _; omega))
/-- lists that are not too long -/
def shrt {α : Type} (l : List α) : Prop := l.length ≤ 1048576
theorem shrt.lt {α : Type} {l : List α} (h : shrt l) : l.length < 4611686018427387904 := by unfold shrt at h; omega
theorem nth_at {l : List Int} {k : Nat} (h : k < l.length) : idx l (k : Int) = some (nth l k) := idx_at (nth_some h)
theorem nth_pred {l : List Int} {k : Nat} (h0 : 0 < k) (h : k - 1 < l.length) : idx l ((k : Int) - 1) = some (nth l (k - 1)) := idx_pred h0 (nth_some h)
theorem pw_steps : ∀ {l : List Int}, (∀ j, 0 < j → j < l.length → nth l (j - 1) < nth l j) → l.Pairwise (· < ·)
  | [], _ => .nil
  | [a], _ => List.pairwise_singleton _ _
  | a :: b :: l, h => by
    have h1 : (b :: l).Pairwise (· < ·) := pw_steps fun j h0 hj => by
      have := h (j + 1) (by omega) (by simp at hj ⊢; omega)
      obtain ⟨i, rfl⟩ : ∃ i, j = i + 1 := ⟨j - 1, by omega⟩
      exact this
    have h2 : a < b := h 1 (by omega) (by simp)
    refine List.pairwise_cons.2 ⟨fun x hx => ?_, h1⟩
    rcases List.mem_cons.1 hx with rfl | hx
    · exact h2
    · exact Int.lt_trans h2 ((List.pairwise_cons.1 h1).1 x hx)
theorem pw_steps_iff {l : List Int} : (∀ j, 0 < j → j < l.length → nth l (j - 1) < nth l j) ↔ l.Pairwise (· < ·) :=
  ⟨pw_steps, fun h j h0 hj => pw_lt h (nth_some (by omega)) (nth_some hj) (by omega)⟩
theorem rises_ev {l : List Int} (hl : shrt l) : Ev (prises l) (l.Pairwise (· < ·) ∧ l.head? = some 0) := by
  have hl := hl.lt
  have key : Ev (prises_L0 l (l.length + 1) 0) ((∀ j, j < l.length → (0 < j → nth l (j - 1) < nth l j)) ∧ l.head? = some 0) := by
    refine Ev.loop (F := prises_L0 l) (fin := if (0 : Int) < (l.length : Int) then ((idx l (0 : Int)).bind fun x => some (decide (x = (0 : Int)))) else some false) (fun d k hk => ?_) (fun d => ?_) (by omega) fun _ => ?_
    · rw [prises_L0, if_pos (by omega), nth_at hk, Option.bind_some]
      by_cases h0 : 0 < k
      · rw [if_pos (show (0 : Int) < k by omega), gd_pos (fI (by omega)), nth_pred h0 (by omega), Option.bind_some, gd_pos (fI (by omega))]
        refine ⟨fun h => ?_, fun h => ?_⟩
        · rw [if_neg (by have := h h0; omega)]
        · rw [if_pos (by
            rcases Int.lt_or_le (nth l (k - 1)) (nth l k) with h1 | h1
            · exact absurd (fun _ => h1) h
            · exact h1)]
      · rw [if_neg (show ¬ (0 : Int) < k by omega), gd_pos (fI (by omega))]
        exact ⟨fun _ => rfl, fun h => absurd (fun h' => absurd h' h0) h⟩
    · rw [prises_L0, if_neg (Int.lt_irrefl _)]
    · cases l with
      | nil => exact Ev.ff (by simp)
      | cons a l => rw [if_pos (by simp)]; exact Ev.bind (idx_zero rfl) (Ev.dec (by simp))
  exact key.imp (and_congr ⟨fun h => pw_steps fun j h0 hj => h j hj h0, fun h j hj h0 => pw_steps_iff.2 h j h0 hj⟩ Iff.rfl)
theorem rRises_ev {l : List Int} {most : Int} (hl : shrt l) : Ev (prRises l most) ((l.Pairwise (· < ·) ∧ l.head? = some 0) ∧ ∀ x ∈ l, 0 ≤ x ∧ x ≤ most) := by
  have hl := hl.lt
  have key : Ev (prRises_L0 l most (l.length + 1) 0) ((∀ j, j < l.length → ((0 ≤ nth l j ∧ nth l j ≤ most) ∧ (0 < j → nth l (j - 1) < nth l j))) ∧ l.head? = some 0) := by
    refine Ev.loop (F := prRises_L0 l most) (fin := if (0 : Int) < (l.length : Int) then ((idx l (0 : Int)).bind fun x => some (decide (x = (0 : Int)))) else some false) (fun d k hk => ?_) (fun d => ?_) (by omega) fun _ => ?_
    · rw [prRises_L0, if_pos (by omega), nth_at hk, Option.bind_some]
      obtain ⟨b, h1, h2⟩ := In_ev (n := nth l k) (lo := 0) (hi := most)
      rw [h1, Option.bind_some]
      cases b with
      | false =>
        rw [if_neg (by simp)]
        exact ⟨fun h => (by have := h2.2 h.1; cases this), fun _ => rfl⟩
      | true =>
        have h3 := h2.1 rfl
        rw [if_pos rfl]
        by_cases h0 : 0 < k
        · rw [if_pos (show (0 : Int) < k by omega), Option.bind_some, gd_pos (fI (by omega)), nth_pred h0 (by omega), Option.bind_some, gd_pos (fI (by omega))]
          refine ⟨fun h => ?_, fun h => ?_⟩
          · rw [if_neg (by have := h.2 h0; omega)]
          · rw [if_pos (by
              rcases Int.lt_or_le (nth l (k - 1)) (nth l k) with h1 | h1
              · exact absurd ⟨h3, fun _ => h1⟩ h
              · exact h1)]
        · rw [if_neg (show ¬ (0 : Int) < k by omega), gd_pos (fI (by omega))]
          exact ⟨fun _ => rfl, fun h => absurd ⟨h3, fun h' => absurd h' h0⟩ h⟩
    · rw [prRises_L0, if_neg (Int.lt_irrefl _)]
    · cases l with
      | nil => exact Ev.ff (by simp)
      | cons a l => rw [if_pos (by simp)]; exact Ev.bind (idx_zero rfl) (Ev.dec (by simp))
  refine key.imp ⟨fun ⟨h1, h2⟩ => ⟨⟨pw_steps fun j h0 hj => (h1 j hj).2 h0, h2⟩, fun x hx => ?_⟩, fun ⟨⟨h1, h2⟩, h3⟩ => ⟨fun j hj => ⟨h3 _ (List.mem_of_getElem? (nth_some hj)), fun h0 => pw_steps_iff.2 h1 j h0 hj⟩, h2⟩⟩
  obtain ⟨i, hi⟩ := List.mem_iff_getElem?.1 hx
  rw [← nth_of hi]
  exact (h1 i (List.getElem?_eq_some_iff.1 hi).1).1
theorem gTf {l : List Tf} {p : Tf → Option Bool} : ∀ {d : Nat} {x : Int}, pindexTf_L0 l p d x = gIdx l p d x
  | 0, _ => rfl
  | d + 1, x => by unfold pindexTf_L0 gIdx; simp only [gTf (d := d)]
theorem gTfs {l : List Tf} {p : Tf → Option Bool} : ∀ {d : Nat} {x : Int}, pindexTfs_L0 l p d x = gIdx l p d x
  | 0, _ => rfl
  | d + 1, x => by unfold pindexTfs_L0 gIdx; simp only [gTfs (d := d)]
theorem gI {l : List Int} {p : Int → Option Bool} : ∀ {d : Nat} {x : Int}, pindexI_L0 l p d x = gIdx l p d x
  | 0, _ => rfl
  | d + 1, x => by unfold pindexI_L0 gIdx; simp only [gI (d := d)]
theorem gL {l : List (List Int)} {p : List Int → Option Bool} : ∀ {d : Nat} {x : Int}, pindexL_L0 l p d x = gIdx l p d x
  | 0, _ => rfl
  | d + 1, x => by unfold pindexL_L0 gIdx; simp only [gL (d := d)]
theorem gLL {l : List (List (List Int))} {p : List (List Int) → Option Bool} : ∀ {d : Nat} {x : Int}, pindexLL_L0 l p d x = gIdx l p d x
  | 0, _ => rfl
  | d + 1, x => by unfold pindexLL_L0 gIdx; simp only [gLL (d := d)]
theorem eachTf_ev {l : List Tf} {p : Tf → Option Bool} {q : Tf → Prop} (hp : ∀ a ∈ l, Ev (p a) (q a)) (hl : shrt l) : Ev (peachTf l p) (∀ a ∈ l, q a) := Ev.each hp hl.lt gTf
theorem eachI_ev {l : List Int} {p : Int → Option Bool} {q : Int → Prop} (hp : ∀ a ∈ l, Ev (p a) (q a)) (hl : shrt l) : Ev (peachI l p) (∀ a ∈ l, q a) := Ev.each hp hl.lt gI
theorem eachL_ev {l : List (List Int)} {p : List Int → Option Bool} {q : List Int → Prop} (hp : ∀ a ∈ l, Ev (p a) (q a)) (hl : shrt l) : Ev (peachL l p) (∀ a ∈ l, q a) := Ev.each hp hl.lt gL
theorem eachLL_ev {l : List (List (List Int))} {p : List (List Int) → Option Bool} {q : List (List Int) → Prop} (hp : ∀ a ∈ l, Ev (p a) (q a)) (hl : shrt l) : Ev (peachLL l p) (∀ a ∈ l, q a) := Ev.each hp hl.lt gLL
theorem containsTfs_ev {l : List Tf} {p : Tf → Option Bool} {q : Tf → Prop} (hp : ∀ a ∈ l, Ev (p a) (q a)) (hl : shrt l) : Ev (pcontainsTfs l p) (∃ a ∈ l, q a) := Ev.contains hp hl.lt gTfs
end
end Go.Proofs.YtbhdgedghfibcaaGreat

namespace Go.Proofs.YtbhdgedghfibcaaGreat
open _root_.Go.Proofs.Tryz
open Go.Abs
set_option maxRecDepth 100000
noncomputable section
theorem last_at {l : List Int} (h : l ≠ []) : ∃ x, idx l ((l.length : Int) - 1) = some x ∧ l.getLast? = some x := by
  have hl : 0 < l.length := List.length_pos_iff.2 h
  refine ⟨l[l.length - 1], idx_get (by omega) (by omega), ?_⟩
  rw [List.getLast?_eq_getElem?, List.getElem?_eq_getElem]
theorem few {t : Tf} (h : ¬ tooManyN t) : t.Weeks.length ≤ 4 ∧ t.Counts.length ≤ 5 ∧ t.Rates.length ≤ 3 := by unfold tooManyN at h; omega
theorem fewS {α : Type} {l : List α} {n : Nat} (h : l.length ≤ n) (hn : n ≤ 1048576) : shrt l := Nat.le_trans h hn
theorem ne_of_head {l : List Int} {x : Int} (h : l.head? = some x) : l ≠ [] := fun e => by rw [e] at h; cases h
theorem validWeek_ev {t : Tf} (h : ¬ tooManyN t) {w : List Int} : Ev (pvalidWeek t w) (w.length = t.Counts.length ∧ ∀ r ∈ w, 0 ≤ r ∧ r ≤ 100) := by
  have hf := few h
  exact (Ev.ite fun hl => (eachI_ev (q := fun r => 0 ≤ r ∧ r ≤ 100) (fun _ _ => isHundredths_ev) (fewS (n := 5) (by omega) (by omega))).ret).imp (and_congr Int.ofNat_inj Iff.rfl)
theorem validCrop_ev {t : Tf} (h : ¬ tooManyN t) {c : List (List Int)} : Ev (pvalidCrop t c) (c.length = t.Weeks.length ∧ ∀ w ∈ c, w.length = t.Counts.length ∧ ∀ r ∈ w, 0 ≤ r ∧ r ≤ 100) := by
  have hf := few h
  exact (Ev.ite fun hl => (eachL_ev (fun _ _ => validWeek_ev h) (fewS (n := 4) (by omega) (by omega))).ret).imp (and_congr Int.ofNat_inj Iff.rfl)
theorem VT_iff {t : Tf} : VT t ↔ ((0 ≤ t.From ∧ t.From ≤ 120) ∧ (0 ≤ t.Least ∧ t.Least ≤ 100) ∧ (t.Weeks.Pairwise (· < ·) ∧ t.Weeks.head? = some 0) ∧ (∀ x ∈ t.Weeks, 0 ≤ x ∧ x ≤ 120) ∧ (t.Counts.Pairwise (· < ·) ∧ t.Counts.head? = some 0) ∧ t.Counts.getLast? = some 100 ∧ t.Rates ≠ [] ∧ ∀ c ∈ t.Rates, c.length = t.Weeks.length ∧ ∀ w ∈ c, w.length = t.Counts.length ∧ ∀ r ∈ w, 0 ≤ r ∧ r ≤ 100) := by
  constructor
  · intro h; exact ⟨h.frm, h.lst, ⟨h.wks.1, h.wks.2.1⟩, h.wks.2.2, ⟨h.cts.1, h.cts.2.1⟩, h.c100, h.rne, h.rts⟩
  · rintro ⟨h1, h2, h3, h4, h5, h6, h7, h8⟩
    refine ⟨h1, h2, ⟨h3.1, h3.2, h4⟩, ⟨h5.1, h5.2, fun x hx => ?_⟩, h6, h7, h8⟩
    obtain ⟨i, hi⟩ := List.mem_iff_getElem?.1 hx
    have hil := (List.getElem?_eq_some_iff.1 hi).1
    have h0 : t.Counts[0]? = some 0 := by rw [← h5.2]; cases t.Counts <;> rfl
    have hl : t.Counts[t.Counts.length - 1]? = some 100 := by rw [← h6, List.getLast?_eq_getElem?]
    constructor
    · rcases Nat.eq_zero_or_pos i with h9 | h9
      · subst h9; rw [h0] at hi; cases hi; exact Int.le_refl _
      · exact Int.le_of_lt (pw_lt h5.1 h0 hi h9)
    · rcases Nat.lt_or_ge i (t.Counts.length - 1) with h9 | h9
      · exact Int.le_of_lt (pw_lt h5.1 hi hl h9)
      · rw [show i = t.Counts.length - 1 by omega, hl] at hi; cases hi; exact Int.le_refl _
theorem tfValid_ev {t : Tf} (h : ¬ tooManyN t) : Ev (ptfValid t) (VT t) := by
  have hf := few h
  have hw : shrt t.Weeks := fewS (n := 4) (by omega) (by omega)
  have hc : shrt t.Counts := fewS (n := 5) (by omega) (by omega)
  have hr : shrt t.Rates := fewS (n := 3) (by omega) (by omega)
  refine Ev.imp (Ev.and isDay_ev fun _ => Ev.and isHundredths_ev fun _ => Ev.and (rises_ev hw) fun _ => Ev.and (eachI_ev (q := fun r => 0 ≤ r ∧ r ≤ 120) (fun _ _ => isDay_ev) hw) fun _ => Ev.and (K := t.Counts.getLast? = some 100 ∧ t.Rates ≠ [] ∧ ∀ c ∈ t.Rates, c.length = t.Weeks.length ∧ ∀ w ∈ c, w.length = t.Counts.length ∧ ∀ r ∈ w, 0 ≤ r ∧ r ≤ 100) (rises_ev hc) fun hr2 => ?_) VT_iff.symm
  obtain ⟨x, hx, hx2⟩ := last_at (ne_of_head hr2.2)
  refine Ev.gd (fI (by omega)) (Ev.bind hx (Ev.imp (Ev.ite fun _ => Ev.ite fun _ => (eachLL_ev (fun _ _ => validCrop_ev h) hr).ret) ?_))
  rw [hx2]
  refine and_congr ⟨fun h => by rw [h], fun h => Option.some.inj h⟩ (and_congr ?_ Iff.rfl)
  rw [← List.length_pos_iff]; omega
theorem rT_L2 {t : Tf} {c w : Nat} {wks : List (List Int)} {rs : List Int} (hc : t.Rates[c]? = some wks) (hw : wks[w]? = some rs) (hl : rs.length = t.Counts.length) (h5 : t.Counts.length ≤ 5) (hw4 : w ≤ 4) {K : Bool → Int → Option Bool} {b : Bool} :
    ((∀ r ∈ rs, 0 ≤ r ∧ r ≤ 100) → prIsTariff_L2 t (c : Int) (w : Int) K 1000000 b 0 = K b ((w : Int) + 1)) ∧ (¬ (∀ r ∈ rs, 0 ≤ r ∧ r ≤ 100) → prIsTariff_L2 t (c : Int) (w : Int) K 1000000 b 0 = some false) := by
  have key := loopAll_tt (n := rs.length) (F := fun d x => prIsTariff_L2 t (c : Int) (w : Int) K d b x) (ok := fun j => 0 ≤ nth rs j ∧ nth rs j ≤ 100) (bad := some false) (fin := K b ((w : Int) + 1)) (fun d k hk => by
    rw [prIsTariff_L2, if_pos (by omega), idx_at hc, Option.bind_some, idx_at hw, Option.bind_some, nth_at hk, Option.bind_some]
    obtain ⟨b', h1, h2⟩ := In_ev (n := nth rs k) (lo := 0) (hi := 100)
    rw [h1, Option.bind_some]
    cases b' with
    | true => rw [if_pos rfl, gd_pos (fI (by omega))]; exact ⟨fun _ => rfl, fun h => absurd (h2.1 rfl) h⟩
    | false => rw [if_neg (by simp)]; exact ⟨fun h => (by have := h2.2 h; cases this), fun _ => rfl⟩) (fun d => by rw [prIsTariff_L2, if_neg (by omega), gd_pos (fI (by omega))]) (d := 1000000) (by omega)
  have hiff : (∀ j, j < rs.length → 0 ≤ nth rs j ∧ nth rs j ≤ 100) ↔ ∀ r ∈ rs, 0 ≤ r ∧ r ≤ 100 := ⟨fun h r hr => by
    obtain ⟨i, hi⟩ := List.mem_iff_getElem?.1 hr
    rw [← nth_of hi]; exact h i (List.getElem?_eq_some_iff.1 hi).1, fun h j hj => h _ (List.mem_of_getElem? (nth_some hj))⟩
  rw [hiff] at key
  exact key
def wkOk (t : Tf) (rs : List Int) : Prop := rs.length = t.Counts.length ∧ ∀ r ∈ rs, 0 ≤ r ∧ r ≤ 100
theorem mem_iff_nat {α : Type} {l : List α} {P : α → Prop} : (∀ j, j < l.length → ∀ a, l[j]? = some a → P a) ↔ ∀ a ∈ l, P a :=
  ⟨fun h a ha => by
    obtain ⟨i, hi⟩ := List.mem_iff_getElem?.1 ha
    exact h i (List.getElem?_eq_some_iff.1 hi).1 a hi, fun h j _ a ha => h a (List.mem_of_getElem? ha)⟩
theorem rT_L1 {t : Tf} (h : ¬ tooManyN t) {c : Nat} {wks : List (List Int)} (hc : t.Rates[c]? = some wks) (hl : wks.length = t.Weeks.length) {K : Bool → Int → Option Bool} {b : Bool} :
    ((∀ w ∈ wks, wkOk t w) → prIsTariff_L1 t (c : Int) K 1000000 b 0 = K b ((c : Int) + 1)) ∧ (¬ (∀ w ∈ wks, wkOk t w) → prIsTariff_L1 t (c : Int) K 1000000 b 0 = some false) := by
  have hf := few h
  have hcl : c < t.Rates.length := (List.getElem?_eq_some_iff.1 hc).1
  have key := loopAll_tt (n := wks.length) (F := fun d x => prIsTariff_L1 t (c : Int) K d b x) (ok := fun j => ∀ rs, wks[j]? = some rs → wkOk t rs) (bad := some false) (fin := K b ((c : Int) + 1)) (fun d k hk => by
    have hw := List.getElem?_eq_getElem hk
    rw [prIsTariff_L1, if_pos (by omega), idx_at hc, Option.bind_some, idx_at hw, Option.bind_some]
    by_cases hlen : wks[k].length = t.Counts.length
    · rw [if_pos (by omega)]
      obtain ⟨q1, q2⟩ := rT_L2 (t := t) (b := b) (K := prIsTariff_L1 t (c : Int) K d) hc hw hlen hf.2.1 (by omega)
      exact ⟨fun hok => q1 (hok _ hw).2, fun hok => q2 fun h' => hok fun rs hrs => by rw [hw] at hrs; cases hrs; exact ⟨hlen, h'⟩⟩
    · rw [if_neg (by omega)]
      exact ⟨fun hok => absurd (hok _ hw).1 hlen, fun _ => rfl⟩) (fun d => by rw [prIsTariff_L1, if_neg (by omega), gd_pos (fI (by omega))]) (d := 1000000) (by omega)
  rw [mem_iff_nat (P := wkOk t)] at key
  exact key
theorem rT_L0 {t : Tf} (h : ¬ tooManyN t) : Ev (prIsTariff_L0 t 1000000 false 0) (∀ c ∈ t.Rates, c.length = t.Weeks.length ∧ ∀ w ∈ c, wkOk t w) := by
  have hf := few h
  have key := Ev.loop (n := t.Rates.length) (F := fun d x => prIsTariff_L0 t d false x) (ok := fun j => ∀ c, t.Rates[j]? = some c → c.length = t.Weeks.length ∧ ∀ w ∈ c, wkOk t w) (fin := some true) (P := True) (fun d k hk => by
    have hc := List.getElem?_eq_getElem hk
    rw [prIsTariff_L0, if_pos (by omega), idx_at hc, Option.bind_some]
    by_cases hlen : t.Rates[k].length = t.Weeks.length
    · rw [if_pos (by omega)]
      obtain ⟨q1, q2⟩ := rT_L1 h (b := false) (K := prIsTariff_L0 t d) hc hlen
      exact ⟨fun hok => q1 (hok _ hc).2, fun hok => q2 fun h' => hok fun rs hrs => by rw [hc] at hrs; cases hrs; exact ⟨hlen, h'⟩⟩
    · rw [if_neg (by omega)]
      exact ⟨fun hok => absurd (hok _ hc).1 hlen, fun _ => rfl⟩) (fun d => by rw [prIsTariff_L0, if_neg (Int.lt_irrefl _)]) (d := 1000000) (by omega) fun _ => Ev.tt trivial
  refine key.imp ⟨fun h => mem_iff_nat.1 h.1, fun h => ⟨mem_iff_nat.2 h, trivial⟩⟩
theorem rIsTariff_ev {t : Tf} (h : ¬ tooManyN t) : Ev (prIsTariff t) (VT t) := by
  have hf := few h
  have hw : shrt t.Weeks := fewS (n := 4) (by omega) (by omega)
  have hc : shrt t.Counts := fewS (n := 5) (by omega) (by omega)
  refine Ev.imp (Ev.and In_ev fun _ => Ev.and In_ev fun _ => Ev.and (rRises_ev hw) fun _ => Ev.and (K := t.Counts.getLast? = some 100 ∧ t.Rates ≠ [] ∧ ∀ c ∈ t.Rates, c.length = t.Weeks.length ∧ ∀ w ∈ c, wkOk t w) (rRises_ev hc) fun hr2 => ?_) ?_
  · obtain ⟨x, hx, hx2⟩ := last_at (ne_of_head hr2.1.2)
    refine Ev.gd (fI (by omega)) (Ev.bind hx (Ev.imp (Ev.ite fun _ => Ev.itn fun _ => rT_L0 h) ?_))
    rw [hx2]
    refine and_congr ⟨fun h => by rw [h], fun h => Option.some.inj h⟩ (and_congr ?_ Iff.rfl)
    rw [← List.length_pos_iff]; omega
  · refine ⟨fun ⟨h1, h2, h3, h4, h5, h6, h7⟩ => ⟨h1, h2, ⟨h3.1.1, h3.1.2, h3.2⟩, ⟨h4.1.1, h4.1.2, h4.2⟩, h5, h6, h7⟩, fun h => ⟨h.frm, h.lst, ⟨⟨h.wks.1, h.wks.2.1⟩, h.wks.2.2⟩, ⟨⟨h.cts.1, h.cts.2.1⟩, h.cts.2.2⟩, h.c100, h.rne, h.rts⟩⟩
end
end Go.Proofs.YtbhdgedghfibcaaGreat

namespace Go.Proofs.YtbhdgedghfibcaaGreat
open _root_.Go.Proofs.Tryz
open Go.Abs
set_option maxRecDepth 100000
noncomputable section
theorem tfTooMany_ev {t : Tf} : Ev (ptfTooMany t) (tooManyN t) := by
  unfold ptfTooMany tooManyN
  by_cases h1 : (4 : Int) < (t.Weeks.length : Int)
  · rw [if_pos h1]; exact Ev.tt (.inl (by omega))
  · rw [if_neg h1]
    by_cases h2 : (5 : Int) < (t.Counts.length : Int)
    · rw [if_pos h2]; exact Ev.tt (.inr (.inl (by omega)))
    · rw [if_neg h2]; exact Ev.dec (by omega)
theorem tooMany_ev {l : List Tf} : Ev (ptooMany l) (ManyN l) := by
  unfold ptooMany ManyN
  by_cases h1 : (3 : Int) < (l.length : Int)
  · rw [if_pos h1]; exact Ev.tt (.inl (by omega))
  · rw [if_neg h1]
    exact (containsTfs_ev (fun _ _ => tfTooMany_ev) (fewS (n := 3) (by omega) (by omega))).ret.imp ⟨fun h => .inr h, fun h => h.elim (fun h => by omega) id⟩
theorem froms_eq {l : List Tf} (hl : shrt l) : pfroms l = some (l.map (·.From)) := by
  unfold shrt at hl
  exact loopApp0 (l := l) (F := pfroms_L0 l) (fun t : Tf => t.From) some (fun d k acc a ha hac => by
    have hk := (List.getElem?_eq_some_iff.1 ha).1
    rw [pfroms_L0, if_pos (by omega), idx_at ha, Option.bind_some, gd_pos (show acc.length < 1048576 by omega), gd_pos (fI (by omega))]) (fun d acc => by rw [pfroms_L0, if_neg (Int.lt_irrefl _)]) (by omega)
theorem head_zero {l : List Tf} (h : l ≠ []) : ∃ t, l[0]? = some t ∧ cropsN l = t.Rates.length := by
  cases l with
  | nil => exact absurd rfl h
  | cons t l => exact ⟨t, rfl, rfl⟩
theorem sameCrops_ev {l : List Tf} (h : l ≠ []) {t : Tf} : Ev (psameCrops l t) (t.Rates.length = cropsN l) := by
  obtain ⟨u, h1, h2⟩ := head_zero h
  exact Ev.bind (idx_zero h1) (Ev.dec (by rw [h2]; exact Int.ofNat_inj))
theorem not_many {l : List Tf} (h : ¬ ManyN l) : l.length ≤ 3 ∧ ∀ t ∈ l, ¬ tooManyN t := by
  unfold ManyN at h
  exact ⟨by rcases Nat.lt_or_ge 3 l.length with h1 | h1; exact absurd (.inl h1) h; exact h1, fun t ht h1 => h (.inr ⟨t, ht, h1⟩)⟩
theorem tfsValid_ev {l : List Tf} (h : ¬ ManyN l) : Ev (ptfsValid l) (VL l) := by
  obtain ⟨h3, ht⟩ := not_many h
  have hs : shrt l := fewS h3 (by omega)
  have key : Ev (ptfsValid l) ((∀ t ∈ l, VT t) ∧ ((l.map (·.From)).Pairwise (· < ·) ∧ (l.map (·.From)).head? = some 0) ∧ ∀ t ∈ l, t.Rates.length = cropsN l) := by
    refine Ev.and (eachTf_ev (fun t h' => tfValid_ev (ht t h')) hs) fun _ => Ev.bind (froms_eq hs) (Ev.and (rises_ev (by unfold shrt; rw [List.length_map]; exact hs)) fun hr => (eachTf_ev (fun t _ => sameCrops_ev (fun e => by rw [e] at hr; cases hr.2)) hs).ret)
  exact key.imp ⟨fun ⟨h1, h2, h4⟩ => ⟨fun e => (by rw [e] at h2; cases h2.2), h1, h2.1, h2.2, h4⟩, fun h => ⟨h.vt, ⟨h.pw, h.hd⟩, h.crp⟩⟩
theorem check_eq {l : List Tf} : pcheck l = some (faultN l) := by
  unfold pcheck
  refine tooMany_ev.pick (fun h => ?_) fun h => ?_
  · rw [if_pos rfl]; unfold faultN; rw [if_pos h]
  · rw [if_neg (by simp)]
    refine (tfsValid_ev h).pick (fun hv => ?_) fun hv => ?_
    · rw [if_pos rfl]; unfold faultN; rw [if_neg h, if_pos hv]
    · rw [if_neg (by simp)]; unfold faultN; rw [if_neg h, if_neg hv]
def okAt (l : List Tf) (j : Nat) (t : Tf) : Prop := VT t ∧ t.Rates.length = cropsN l ∧ (j = 0 → t.From = 0) ∧ (0 < j → ∀ u, l[j - 1]? = some u → u.From < t.From)
theorem fault_L1 {l : List Tf} (h : ¬ ManyN l) (hne : l ≠ []) : ((∀ j, j < l.length → ∀ t, l[j]? = some t → okAt l j t) → prFault_L1 l (l.length + 1) 0 = some 0) ∧ (¬ (∀ j, j < l.length → ∀ t, l[j]? = some t → okAt l j t) → prFault_L1 l (l.length + 1) 0 = some 1) := by
  obtain ⟨h3, ht⟩ := not_many h
  obtain ⟨u0, hu0, hcr⟩ := head_zero hne
  refine loopAll_tt (F := prFault_L1 l) (fun d k hk => ?_) (fun d => by rw [prFault_L1, if_neg (Int.lt_irrefl _), if_neg (by have := List.length_pos_iff.2 hne; omega)]) (Nat.lt_succ_self _)
  have hg := List.getElem?_eq_getElem hk
  generalize l[k] = t at hg
  have hT := rIsTariff_ev (ht t (List.mem_of_getElem? hg))
  have hgo : ∀ {P : Prop}, (∀ t', l[k]? = some t' → P) → P := fun f => f _ hg
  rw [prFault_L1, if_pos (by omega), idx_at hg, Option.bind_some]
  have hone : ∀ {P : Tf → Prop}, (∀ t', l[k]? = some t' → P t') ↔ P t := ⟨fun f => f _ hg, fun f t' ht' => by rw [hg] at ht'; cases ht'; exact f⟩
  rw [hone]
  have done : ∀ {o : Option Int}, (VT t → t.Rates.length = cropsN l → (k = 0 → t.From = 0) → (0 < k → ∀ u, l[k - 1]? = some u → u.From < t.From) → o = prFault_L1 l d ((k : Int) + 1)) → (¬ okAt l k t → o = some 1) → (okAt l k t → o = prFault_L1 l d ((k : Int) + 1)) ∧ (¬ okAt l k t → o = some 1) := fun a b => ⟨fun h => a h.1 h.2.1 h.2.2.1 h.2.2.2, b⟩
  obtain ⟨b, hb, hb2⟩ := hT
  rw [hb, Option.bind_some]
  cases b with
  | false => rw [if_neg (by simp)]; exact ⟨fun h => (by have := hb2.2 h.1; cases this), fun _ => rfl⟩
  | true =>
    have hv := hb2.1 rfl
    rw [if_pos rfl, Option.bind_some, idx_zero hu0, Option.bind_some]
    by_cases hr : t.Rates.length = u0.Rates.length
    · rw [if_pos (by omega)]
      have hr' : t.Rates.length = cropsN l := by omega
      by_cases h0 : k = 0
      · rw [if_pos (by omega), Option.bind_some]
        by_cases hf : t.From = 0
        · rw [if_pos hf, if_neg (by omega), gd_pos (fI (by omega))]
          exact ⟨fun _ => rfl, fun hn => absurd ⟨hv, hr', fun _ => hf, fun h' => by omega⟩ hn⟩
        · rw [if_neg hf]
          exact ⟨fun h' => absurd (h'.2.2.1 h0) hf, fun _ => rfl⟩
      · rw [if_neg (by omega), if_pos (by omega), Option.bind_some, gd_pos (fI (by omega))]
        have hp : k - 1 < l.length := by omega
        have hgp := List.getElem?_eq_getElem hp
        generalize l[k - 1] = u at hgp
        rw [idx_pred (by omega) hgp, Option.bind_some]
        by_cases hle : t.From ≤ u.From
        · rw [if_pos hle]
          exact ⟨fun h' => by have := h'.2.2.2 (by omega) u hgp; omega, fun _ => rfl⟩
        · rw [if_neg hle, gd_pos (fI (by omega))]
          exact ⟨fun _ => rfl, fun hn => absurd ⟨hv, hr', fun h' => absurd h' h0, fun _ u' hu' => by rw [hgp] at hu'; cases hu'; omega⟩ hn⟩
    · rw [if_neg (by omega)]
      exact ⟨fun h' => by have := h'.2.1; omega, fun _ => rfl⟩
theorem okAt_iff {l : List Tf} (hne : l ≠ []) : (∀ j, j < l.length → ∀ t, l[j]? = some t → okAt l j t) ↔ VL l := by
  have hm : ∀ j t, l[j]? = some t → nth (l.map (·.From)) j = t.From := fun j t h => nth_of (by rw [List.getElem?_map, h]; rfl)
  constructor
  · intro h
    refine ⟨hne, fun t ht => ?_, pw_steps fun j h0 hj => ?_, ?_, fun t ht => ?_⟩
    · obtain ⟨i, hi⟩ := List.mem_iff_getElem?.1 ht
      exact (h i (List.getElem?_eq_some_iff.1 hi).1 t hi).1
    · rw [List.length_map] at hj
      have h1 := List.getElem?_eq_getElem hj
      have h2 := List.getElem?_eq_getElem (show j - 1 < l.length by omega)
      rw [hm _ _ h1, hm _ _ h2]
      exact (h j hj _ h1).2.2.2 h0 _ h2
    · obtain ⟨t, h1, _⟩ := head_zero hne
      have := (h 0 (List.getElem?_eq_some_iff.1 h1).1 t h1).2.2.1 rfl
      cases l with
      | nil => cases h1
      | cons a l => cases h1; simp [this]
    · obtain ⟨i, hi⟩ := List.mem_iff_getElem?.1 ht
      exact (h i (List.getElem?_eq_some_iff.1 hi).1 t hi).2.1
  · intro h j hj t ht
    refine ⟨h.vt t (List.mem_of_getElem? ht), h.crp t (List.mem_of_getElem? ht), fun h0 => ?_, fun h0 u hu => ?_⟩
    · subst h0
      have := h.hd
      cases l with
      | nil => cases ht
      | cons a l => cases ht; simpa using this
    · have := pw_steps_iff.2 h.pw j h0 (by rw [List.length_map]; exact hj)
      rwa [hm _ _ ht, hm _ _ hu] at this
theorem rFault_eq {l : List Tf} : prFault l = some (faultN l) := by
  unfold prFault
  by_cases h1 : (3 : Int) < (l.length : Int)
  · rw [if_pos h1]; unfold faultN; rw [if_pos (.inl (by omega))]
  · rw [if_neg h1]
    have key := loopAll_tt (n := l.length) (F := fun d x => prFault_L0 l d 0 x) (ok := fun j => ∀ t, l[j]? = some t → ¬ tooManyN t) (bad := some 3) (fin := prFault_L1 l (l.length + 1) 0) (fun d k hk => by
      have hg := List.getElem?_eq_getElem hk
      generalize l[k] = t at hg
      have hone : (∀ t', l[k]? = some t' → ¬ tooManyN t') ↔ ¬ tooManyN t := ⟨fun f => f _ hg, fun f t' ht' => by rw [hg] at ht'; cases ht'; exact f⟩
      rw [hone, prFault_L0, if_pos (by omega), idx_at hg, Option.bind_some]
      unfold tooManyN
      by_cases h4 : (4 : Int) < (t.Weeks.length : Int)
      · rw [if_pos h4]; exact ⟨fun h => by omega, fun _ => rfl⟩
      · rw [if_neg h4, Option.bind_some]
        by_cases h5 : (5 : Int) < (t.Counts.length : Int)
        · rw [if_pos h5]; exact ⟨fun h => by omega, fun _ => rfl⟩
        · rw [if_neg h5, Option.bind_some]
          by_cases h6 : (3 : Int) < (t.Rates.length : Int)
          · rw [if_pos h6]; exact ⟨fun h => by omega, fun _ => rfl⟩
          · rw [if_neg h6, gd_pos (fI (by omega))]; exact ⟨fun _ => rfl, fun h => by omega⟩) (fun d => by rw [prFault_L0, if_neg (Int.lt_irrefl _)]) (d := l.length + 1) (by omega)
    rw [mem_iff_nat (P := fun t => ¬ tooManyN t)] at key
    by_cases hm : ManyN l
    · unfold faultN
      rw [if_pos hm]
      refine key.2 fun hh => ?_
      rcases hm with hm | ⟨t, ht, hm⟩
      · omega
      · exact hh t ht hm
    · refine (key.1 (not_many hm).2).trans ?_
      unfold faultN
      rw [if_neg hm]
      by_cases hne : l = []
      · subst hne
        rw [if_neg fun h => h.ne rfl]
        rfl
      · obtain ⟨q1, q2⟩ := fault_L1 hm hne
        rw [okAt_iff hne] at q1 q2
        by_cases hv : VL l
        · rw [if_pos hv, q1 hv]
        · rw [if_neg hv, q2 hv]
theorem lFault_eq {l : List Tf} : plFault l = some (faultN l) := by unfold plFault; rw [rFault_eq]; rfl
end
end Go.Proofs.YtbhdgedghfibcaaGreat

namespace Go.Proofs.YtbhdgedghfibcaaGreat
open _root_.Go.Proofs.Tryz
open Go.Abs
set_option maxRecDepth 100000
noncomputable section
structure ThinT (t : Tf) : Prop where
  w : t.Weeks.length ≤ 7
  c : t.Counts.length ≤ 7
  r : t.Rates.length ≤ 5
  rr : ∀ c ∈ t.Rates, c.length ≤ 7 ∧ ∀ w ∈ c, w.length ≤ 7
def ThinN (l : List Tf) : Prop := l.length ≤ 5 ∧ ∀ t ∈ l, ThinT t
theorem hone {α : Type} {l : List α} {k : Nat} {a : α} (h : l[k]? = some a) {P : α → Prop} : (∀ x, l[k]? = some x → P x) ↔ P a := ⟨fun f => f _ h, fun f x hx => by rw [h] at hx; cases hx; exact f⟩
theorem thin_L2 {l : List Tf} {i c : Nat} {t : Tf} {wks : List (List Int)} (hi : l[i]? = some t) (hc : t.Rates[c]? = some wks) (h7 : wks.length ≤ 7) (h5 : c < 5) {K : Bool → Int → Option Bool} {b : Bool} :
    ((∀ w ∈ wks, w.length ≤ 7) → plThin_L2 l (i : Int) (c : Int) K 1000000 b 0 = K b ((c : Int) + 1)) ∧ (¬ (∀ w ∈ wks, w.length ≤ 7) → plThin_L2 l (i : Int) (c : Int) K 1000000 b 0 = some false) := by
  have key := loopAll_tt (n := wks.length) (F := fun d x => plThin_L2 l (i : Int) (c : Int) K d b x) (ok := fun j => ∀ w, wks[j]? = some w → w.length ≤ 7) (bad := some false) (fin := K b ((c : Int) + 1)) (fun d k hk => by
    have hg := List.getElem?_eq_getElem hk
    generalize wks[k] = w at hg
    rw [hone hg (P := fun w => w.length ≤ 7), plThin_L2, idx_at hi, Option.bind_some, idx_at hc, Option.bind_some, if_pos (by omega), Option.bind_some, idx_at hc, Option.bind_some, idx_at hg, Option.bind_some]
    by_cases h : (7 : Int) < (w.length : Int)
    · rw [if_pos h]; exact ⟨fun h => by omega, fun _ => rfl⟩
    · rw [if_neg h, gd_pos (fI (by omega))]; exact ⟨fun _ => rfl, fun h => by omega⟩) (fun d => by rw [plThin_L2, idx_at hi, Option.bind_some, idx_at hc, Option.bind_some, if_neg (Int.lt_irrefl _), gd_pos (fI (by omega))]) (d := 1000000) (by omega)
  rw [mem_iff_nat (l := wks) (P := fun w : List Int => w.length ≤ 7)] at key
  exact key
theorem thin_L1 {l : List Tf} {i : Nat} {t : Tf} (hi : l[i]? = some t) (h5 : t.Rates.length ≤ 5) (hi5 : i < 5) {K : Bool → Int → Option Bool} {b : Bool} :
    ((∀ c ∈ t.Rates, c.length ≤ 7 ∧ ∀ w ∈ c, w.length ≤ 7) → plThin_L1 l (i : Int) K 1000000 b 0 = K b ((i : Int) + 1)) ∧ (¬ (∀ c ∈ t.Rates, c.length ≤ 7 ∧ ∀ w ∈ c, w.length ≤ 7) → plThin_L1 l (i : Int) K 1000000 b 0 = some false) := by
  have key := loopAll_tt (n := t.Rates.length) (F := fun d x => plThin_L1 l (i : Int) K d b x) (ok := fun j => ∀ c, t.Rates[j]? = some c → c.length ≤ 7 ∧ ∀ w ∈ c, w.length ≤ 7) (bad := some false) (fin := K b ((i : Int) + 1)) (fun d k hk => by
    have hg := List.getElem?_eq_getElem hk
    generalize t.Rates[k] = c at hg
    rw [hone hg (P := fun c => c.length ≤ 7 ∧ ∀ w ∈ c, w.length ≤ 7), plThin_L1, idx_at hi, Option.bind_some, if_pos (by omega), Option.bind_some, idx_at hg, Option.bind_some]
    by_cases h : (7 : Int) < (c.length : Int)
    · rw [if_pos h]; exact ⟨fun h => by omega, fun _ => rfl⟩
    · rw [if_neg h]
      obtain ⟨q1, q2⟩ := thin_L2 (K := plThin_L1 l (i : Int) K d) (b := b) hi hg (by omega) (by omega)
      exact ⟨fun h' => q1 h'.2, fun h' => q2 fun h2 => h' ⟨by omega, h2⟩⟩) (fun d => by rw [plThin_L1, idx_at hi, Option.bind_some, if_neg (Int.lt_irrefl _), gd_pos (fI (by omega))]) (d := 1000000) (by omega)
  rw [mem_iff_nat (l := t.Rates) (P := fun c : List (List Int) => c.length ≤ 7 ∧ ∀ w ∈ c, w.length ≤ 7)] at key
  exact key
theorem thin_ev {l : List Tf} : Ev (plThin l) (ThinN l) := by
  unfold plThin ThinN
  refine (Ev.itn (p := (5 : Int) < (l.length : Int)) (K := ∀ t ∈ l, ThinT t) fun h5 => ?_).imp (and_congr (by omega) Iff.rfl)
  have key := Ev.loop (n := l.length) (F := fun d x => plThin_L0 l d false x) (ok := fun j => ∀ t, l[j]? = some t → ThinT t) (fin := some true) (P := True) (fun d k hk => by
    have hg := List.getElem?_eq_getElem hk
    generalize l[k] = t at hg
    rw [hone hg (P := ThinT), plThin_L0, if_pos (by omega), idx_at hg, Option.bind_some]
    by_cases h1 : (7 : Int) < (t.Weeks.length : Int)
    · rw [if_pos h1]; exact ⟨fun h => by have := h.w; omega, fun _ => rfl⟩
    · rw [if_neg h1, Option.bind_some]
      by_cases h2 : (7 : Int) < (t.Counts.length : Int)
      · rw [if_pos h2]; exact ⟨fun h => by have := h.c; omega, fun _ => rfl⟩
      · rw [if_neg h2, Option.bind_some]
        by_cases h3 : (5 : Int) < (t.Rates.length : Int)
        · rw [if_pos h3]; exact ⟨fun h => by have := h.r; omega, fun _ => rfl⟩
        · rw [if_neg h3]
          obtain ⟨q1, q2⟩ := thin_L1 (K := plThin_L0 l d) (b := false) hg (by omega) (by omega)
          exact ⟨fun h => q1 h.rr, fun h => q2 fun h' => h ⟨by omega, by omega, by omega, h'⟩⟩) (fun d => by rw [plThin_L0, if_neg (Int.lt_irrefl _)]) (d := l.length + 1) (by omega) fun _ => Ev.tt trivial
  exact key.imp ⟨fun h => mem_iff_nat.1 h.1, fun h => ⟨mem_iff_nat.2 h, trivial⟩⟩
theorem list_eq {l : List Int} (h : l.length ≤ 1048576) : plList l = some l := by unfold plList; rw [gd_pos (by simp; omega)]; simp
theorem tar_L2 {l : List Tf} {i c : Nat} {t : Tf} {wks : List (List Int)} (hi : l[i]? = some t) (hc : t.Rates[c]? = some wks) (h7 : wks.length ≤ 7) (hw : ∀ w ∈ wks, w.length ≤ 7) (h5 : c < 5) {a1 : Int} {a2 : Bool} {a3 : Int} {a4 : List (List (List Int))} (h4 : a4.length < 5) {K : Int → Bool → Int → List (List (List Int)) → Int → Option (List Tf)} :
    plTariffs_L2 l (i : Int) a1 a2 a3 a4 (c : Int) K 1000000 [] 0 = K a1 a2 a3 (a4 ++ [wks]) ((c : Int) + 1) := by
  have key := loopApp0 (l := wks) (fun w => w) (F := fun d acc x => plTariffs_L2 l (i : Int) a1 a2 a3 a4 (c : Int) K d acc x) (fun acc => K a1 a2 a3 (a4 ++ [acc]) ((c : Int) + 1)) (fun d k acc a ha hac => by
    have hk := (List.getElem?_eq_some_iff.1 ha).1
    have hs := hw a (List.mem_of_getElem? ha)
    rw [plTariffs_L2, idx_at hi, Option.bind_some, idx_at hc, Option.bind_some, if_pos (by omega), Option.bind_some, idx_at hc, Option.bind_some, idx_at ha, Option.bind_some, list_eq (by omega), Option.bind_some, gd_pos (show acc.length < 1048576 by omega), gd_pos (fI (by omega))]) (fun d acc => by
    rw [plTariffs_L2, idx_at hi, Option.bind_some, idx_at hc, Option.bind_some, if_neg (Int.lt_irrefl _), gd_pos (show a4.length < 1048576 by omega), gd_pos (fI (by omega))]) (d := 1000000) (by omega)
  rw [List.map_id'] at key
  exact key
theorem tar_L1 {l out : List Tf} {i : Nat} {t : Tf} (hi : l[i]? = some t) (ht : ThinT t) (hi5 : i < 5) (ho : out.length < 5) {r1 r2 : List Int} {a1 : Int} {a2 : Bool} {a3 : Int} {K : List Tf → Int → Option (List Tf)} :
    plTariffs_L1 l out (i : Int) r1 r2 K 1000000 a1 a2 a3 [] 0 = K (out ++ [⟨a1, a2, a3, r1, r2, t.Rates⟩]) ((i : Int) + 1) := by
  have hr := ht.r
  have key := loopApp0 (l := t.Rates) (fun w => w) (F := fun d acc x => plTariffs_L1 l out (i : Int) r1 r2 K d a1 a2 a3 acc x) (fun acc => K (out ++ [⟨a1, a2, a3, r1, r2, acc⟩]) ((i : Int) + 1)) (fun d k acc a ha hac => by
    have hk := (List.getElem?_eq_some_iff.1 ha).1
    obtain ⟨q1, q2⟩ := ht.rr a (List.mem_of_getElem? ha)
    rw [plTariffs_L1, idx_at hi, Option.bind_some, if_pos (by omega), tar_L2 hi ha q1 q2 (by omega) (by omega)]) (fun d acc => by
    rw [plTariffs_L1, idx_at hi, Option.bind_some, if_neg (Int.lt_irrefl _), gd_pos (show out.length < 1048576 by omega), gd_pos (fI (by omega))]) (d := 1000000) (by omega)
  rw [List.map_id'] at key
  exact key
theorem lTariffs_eq {l : List Tf} (h : ThinN l) : plTariffs l = some l := by
  obtain ⟨h5, ht⟩ := h
  have key := loopApp0 (l := l) (fun w => w) (F := plTariffs_L0 l) some (fun d k acc a ha hac => by
    have hk := (List.getElem?_eq_some_iff.1 ha).1
    have hT := ht a (List.mem_of_getElem? ha)
    have h1 := hT.w
    have h2 := hT.c
    rw [plTariffs_L0, if_pos (by omega), idx_at ha]
    simp only [Option.bind_some]
    rw [list_eq (by omega), Option.bind_some, list_eq (by omega), Option.bind_some, tar_L1 ha hT (by omega) (by omega)]) (fun d acc => by rw [plTariffs_L0, if_neg (Int.lt_irrefl _)]) (d := l.length + 1) (by omega)
  rw [List.map_id'] at key
  exact key
theorem ready_ev {l : List Tf} : Ev (plReady l) (ThinN l ∧ faultN l = 0) := Ev.and thin_ev fun _ => Ev.bind lFault_eq (Ev.dec Iff.rfl)
theorem rCrops_eq {l : List Tf} (h : l ≠ []) : prCrops l = some (cropsN l : Int) := by
  obtain ⟨t, h1, h2⟩ := head_zero h
  unfold prCrops; rw [idx_zero h1, Option.bind_some, h2]
end
end Go.Proofs.YtbhdgedghfibcaaGreat

namespace Go.Proofs.YtbhdgedghfibcaaGreat
open _root_.Go.Proofs.Tryz
open Go.Abs
set_option maxRecDepth 100000
noncomputable section
theorem crops_rng {l : List Tf} (hf : faultN l = 0) : 0 < cropsN l ∧ cropsN l ≤ 3 := by
  obtain ⟨hm, hv⟩ := faultN_zero.1 hf
  obtain ⟨h3, ht⟩ := not_many hm
  obtain ⟨t, h1, h2⟩ := head_zero hv.ne
  have hmem := List.mem_of_getElem? h1
  have := few (ht t hmem)
  have := List.length_pos_iff.2 (hv.vt t hmem).rne
  omega
theorem open_ok {l : List Tf} (hf : faultN l = 0) : popen l = some (⟨l, some fun _ => none⟩, 0) := by unfold popen; rw [check_eq, Option.bind_some, if_pos hf]
theorem hasCrop_ev {l : List Tf} (hf : faultN l = 0) {n : Int} : Ev (phasCrop l n) (0 ≤ n ∧ n < cropsN l) := by
  obtain ⟨hm, hv⟩ := faultN_zero.1 hf
  obtain ⟨t, h1, h2⟩ := head_zero hv.ne
  have := crops_rng hf
  refine Ev.bind (idx_zero h1) ?_
  rw [← h2]
  exact (isIndex_ev (by omega)).ret
theorem aw : pawake = some true := rfl
def OkL (l : List Tf) : Prop := l.length ≤ maxLen ∧ ∀ a ∈ l, ok_Tf a
def clearN (out : Int) (i : Nat) : Prop := out / ((2 : Int) ^ i) % 2 = 0
theorem shr_rng {out : Int} (h : 0 ≤ out) (i : Nat) : 0 ≤ out / ((2 : Int) ^ i) ∧ out / ((2 : Int) ^ i) ≤ out := by
  have hp : (0 : Int) < (2 : Int) ^ i := Int.pow_pos (by omega)
  exact ⟨Int.ediv_nonneg h (Int.le_of_lt hp), Int.ediv_le_self _ h⟩
theorem fU {n : Int} (h : 0 ≤ n ∧ n < 18446744073709551616) : fitsP .u64 n := h
open Classical in
theorem rRise_L1 {l : List Int} {out : Int} (ho : 0 ≤ out ∧ out < 1000000000) (hl : l.length ≤ 60) {i : Nat} (hi : i < l.length) {K : Bool → Int → Option Bool} {b : Bool} :
    prRise_L1 l out (i : Int) K (((l.length : Int) - ((i : Int) + 1)).toNat + 1) b ((i : Int) + 1) = if (∀ k, i + 1 ≤ k → k < l.length → (clearN out i → clearN out k → nth l i ≤ nth l k)) then K b ((i : Int) + 1) else some false := by
  have hw : ∀ k : Nat, k ≤ 60 → wrapZ .u64 (k : Int) = (k : Int) := fun k hk => wz (fU (by omega))
  have key := loopAll l.length (fun d x => prRise_L1 l out (i : Int) K d b x) (fun k => clearN out i → clearN out k → nth l i ≤ nth l k) (some false) (K b ((i : Int) + 1)) (fun d k hk => by
    have s1 := shr_rng ho.1 i
    have s2 := shr_rng ho.1 k
    have m1 := Int.emod_nonneg (out / (2 : Int) ^ i) (show (2 : Int) ≠ 0 by omega)
    have m2 := Int.emod_nonneg (out / (2 : Int) ^ k) (show (2 : Int) ≠ 0 by omega)
    have m3 := Int.emod_lt_of_pos (out / (2 : Int) ^ i) (show (0 : Int) < 2 by omega)
    have m4 := Int.emod_lt_of_pos (out / (2 : Int) ^ k) (show (0 : Int) < 2 by omega)
    rw [prRise_L1, if_pos (by omega), hw i (by omega), hw k (by omega)]
    simp only [Int.toNat_natCast]
    rw [gd_pos ho.1, gd_pos (by omega), gd_pos (by omega), gd_pos (fI (by omega)), gd_pos s1.1, gd_pos (by omega), gd_pos (fI (by omega))]
    unfold clearN
    by_cases c1 : out / (2 : Int) ^ i % 2 = 0
    · rw [if_pos c1, gd_pos ho.1, gd_pos (by omega), gd_pos (by omega), gd_pos (fI (by omega)), gd_pos s2.1, gd_pos (by omega), gd_pos (fI (by omega))]
      by_cases c2 : out / (2 : Int) ^ k % 2 = 0
      · rw [if_pos c2, nth_at hk, Option.bind_some, nth_at hi, Option.bind_some]
        by_cases c3 : nth l k < nth l i
        · rw [if_pos c3, if_neg fun h => by have := h c1 c2; omega]
        · rw [if_neg c3, gd_pos (fI (by omega)), if_pos fun _ _ => by omega]
      · rw [if_neg c2, gd_pos (fI (by omega)), if_pos fun _ h => absurd h c2]
    · rw [if_neg c1, gd_pos (fI (by omega)), if_pos fun h _ => absurd h c1]) (fun d => by rw [prRise_L1, if_neg (Int.lt_irrefl _), gd_pos (fI (by omega))]) (((l.length : Int) - ((i : Int) + 1)).toNat + 1) (i + 1) (by omega) (by omega)
  exact key
theorem rRise_ev {l : List Int} {out : Int} (ho : 0 ≤ out ∧ out < 1000000000) (hl : l.length ≤ 60) : Ev (prRise l out) (∀ i k, i < k → k < l.length → clearN out i → clearN out k → nth l i ≤ nth l k) := by
  have key := Ev.loop (n := l.length) (F := fun d x => prRise_L0 l out d false x) (ok := fun i => ∀ k, i + 1 ≤ k → k < l.length → (clearN out i → clearN out k → nth l i ≤ nth l k)) (fin := some true) (P := True) (fun d k hk => by
    rw [prRise_L0, if_pos (by omega), gd_pos (fI (by omega)), rRise_L1 ho hl hk]
    exact ⟨fun h => if_pos h, fun h => if_neg h⟩) (fun d => by rw [prRise_L0, if_neg (Int.lt_irrefl _)]) (d := l.length + 1) (by omega) fun _ => Ev.tt trivial
  exact key.imp ⟨fun h i k h1 h2 => h.1 i (by omega) k (by omega) h2, fun h => ⟨fun i hi k h1 h2 => h i k (by omega) h2, trivial⟩⟩
end
end Go.Proofs.YtbhdgedghfibcaaGreat

namespace Go.Proofs.YtbhdgedghfibcaaGreat
open _root_.Go.Proofs.Tryz
open Go.Abs
set_option maxRecDepth 100000
noncomputable section
def toFl (ys : List Bool) : Fl := ⟨ys.getD 0 false, ys.getD 1 false, ys.getD 2 false, ys.getD 3 false, ys.getD 4 false⟩
theorem sti_getD {ys : List Bool} {x : Int} {n j : Nat} {v : Bool} (hx : x = (n : Int)) (hn : n < ys.length) : sti x j v (ys.getD j false) = (ys.set n v).getD j false := by
  unfold sti
  rw [List.getD_eq_getElem?_getD, List.getD_eq_getElem?_getD, List.getElem?_set]
  by_cases h : n = j
  · subst h
    rw [if_pos hx, if_pos rfl, if_pos hn]; rfl
  · rw [if_neg (by omega), if_neg h]
theorem five {ys : List Bool} (h : ys.length = 5) : ys = [ys.getD 0 false, ys.getD 1 false, ys.getD 2 false, ys.getD 3 false, ys.getD 4 false] := by
  match ys, h with
  | [a, b, c, d, e], _ => rfl
theorem idx5 {ys : List Bool} (h : ys.length = 5) {k : Nat} (hk : k < 5) : idx ([ys.getD 0 false, ys.getD 1 false, ys.getD 2 false, ys.getD 3 false, ys.getD 4 false] : List Bool) (k : Int) = some (ys.getD k false) := by
  rw [← five h]
  rw [idx_nat, List.getElem?_eq_getElem (by omega), List.getD_eq_getElem?_getD, List.getElem?_eq_getElem (by omega)]; rfl
theorem without_L1 {list : List Int} (hl : list.length ≤ 5) (hr : ∀ x ∈ list, 0 ≤ x ∧ x < 5) : ∀ (d k : Nat) (ys : List Bool), ys.length = 5 → k ≤ list.length → list.length - k < d →
    pwithout_L1 list d (ys.getD 0 false) (ys.getD 1 false) (ys.getD 2 false) (ys.getD 3 false) (ys.getD 4 false) (k : Int) = some (toFl ((list.drop k).foldl (fun ys x => ys.set x.toNat false) ys))
  | 0, _, _, _, _, h => by omega
  | d + 1, k, ys, h5, hk, h => by
    by_cases hkn : k = list.length
    · subst hkn
      rw [pwithout_L1, if_neg (Int.lt_irrefl _), List.drop_length]; rfl
    · have hlt : k < list.length := by omega
      have hx := hr _ (List.getElem_mem hlt)
      have hn : list[k] = ((list[k].toNat : Nat) : Int) := by omega
      rw [pwithout_L1, if_pos (by omega), idx_at (List.getElem?_eq_getElem hlt), Option.bind_some, gd_pos hx, gd_pos (fI (by omega)), sti_getD hn (by omega), sti_getD hn (by omega), sti_getD hn (by omega), sti_getD hn (by omega), sti_getD hn (by omega), show (k : Int) + 1 = ((k + 1 : Nat) : Int) by omega, without_L1 hl hr d (k + 1) _ (by rw [List.length_set]; exact h5) (by omega) (by omega), List.drop_eq_getElem_cons hlt]; rfl
theorem without_L0 {r list : List Int} (hn : r.length ≤ 5) (hl : list.length ≤ 5) (hr : ∀ x ∈ list, 0 ≤ x ∧ x < 5) : ∀ (d k : Nat) (ys : List Bool), ys.length = 5 → k ≤ r.length → r.length - k < d →
    pwithout_L0 r list d (ys.getD 0 false) (ys.getD 1 false) (ys.getD 2 false) (ys.getD 3 false) (ys.getD 4 false) (k : Int) = some (toFl (list.foldl (fun ys x => ys.set x.toNat false) ((List.range' k (r.length - k)).foldl (fun ys i => ys.set i true) ys)))
  | 0, _, _, _, _, h => by omega
  | d + 1, k, ys, h5, hk, h => by
    by_cases hkn : k = r.length
    · subst hkn
      rw [pwithout_L0, if_neg (Int.lt_irrefl _), Nat.sub_self]
      have := without_L1 hl hr (list.length + 1) 0 ys h5 (Nat.zero_le _) (by omega)
      rw [List.drop_zero] at this
      exact this
    · have hlt : k < r.length := by omega
      rw [pwithout_L0, if_pos (by omega), gd_pos (by omega), gd_pos (fI (by omega)), sti_getD rfl (by omega), sti_getD rfl (by omega), sti_getD rfl (by omega), sti_getD rfl (by omega), sti_getD rfl (by omega), show (k : Int) + 1 = ((k + 1 : Nat) : Int) by omega, without_L0 hn hl hr d (k + 1) _ (by rw [List.length_set]; exact h5) (by omega) (by omega), show r.length - k = (r.length - (k + 1)) + 1 by omega, List.range'_succ]; rfl
/-- the flags of what is kept -/
def keptL (n : Nat) (list : List Int) : List Bool := list.foldl (fun ys x => ys.set x.toNat false) ((List.range' 0 n).foldl (fun ys i => ys.set i true) [false, false, false, false, false])
theorem foldl_set_len {α : Type} (f : α → Nat) (v : Bool) : ∀ (l : List α) (ys : List Bool), (l.foldl (fun ys x => ys.set (f x) v) ys).length = ys.length
  | [], _ => rfl
  | a :: l, ys => by show (l.foldl _ (ys.set (f a) v)).length = _; rw [foldl_set_len f v l, List.length_set]
theorem foldl_set_get {α : Type} (f : α → Nat) (v : Bool) {j : Nat} : ∀ (l : List α) (ys : List Bool), j < ys.length → ((l.foldl (fun ys x => ys.set (f x) v) ys).getD j false = if (∃ x ∈ l, f x = j) then v else ys.getD j false)
  | [], ys, _ => by rw [if_neg (by simp)]; rfl
  | a :: l, ys, hj => by
    show (l.foldl _ (ys.set (f a) v)).getD j false = _
    rw [foldl_set_get f v l _ (by rw [List.length_set]; exact hj)]
    by_cases h1 : ∃ x ∈ l, f x = j
    · obtain ⟨x, hx, he⟩ := h1
      rw [if_pos ⟨x, hx, he⟩, if_pos ⟨x, List.mem_cons_of_mem _ hx, he⟩]
    · rw [if_neg h1, List.getD_eq_getElem?_getD, List.getElem?_set]
      by_cases h2 : f a = j
      · rw [if_pos h2, if_pos (show f a < ys.length by omega), if_pos ⟨a, List.mem_cons_self .., h2⟩]; rfl
      · rw [if_neg h2, if_neg, List.getD_eq_getElem?_getD]
        rintro ⟨x, hx, he⟩
        rcases List.mem_cons.1 hx with rfl | hx
        · exact h2 he
        · exact h1 ⟨x, hx, he⟩
theorem kept_len {n : Nat} {list : List Int} : (keptL n list).length = 5 := by
  unfold keptL
  rw [foldl_set_len (fun x : Int => x.toNat), foldl_set_len (fun i : Nat => i)]; rfl
theorem kept_get {n : Nat} (hn : n ≤ 5) {list : List Int} (hI : Inc n 0 list) {j : Nat} (hj : j < n) : (keptL n list).getD j false = !inD list j := by
  unfold keptL inD
  rw [foldl_set_get (fun x : Int => x.toNat) false _ _ (by rw [foldl_set_len (fun i : Nat => i)]; show j < 5; omega), foldl_set_get (fun i : Nat => i) true _ _ (by show j < 5; omega)]
  by_cases h : ((j : Nat) : Int) ∈ list
  · rw [if_pos ⟨_, h, by omega⟩, decide_eq_true h]; rfl
  · rw [if_neg, decide_eq_false h, if_pos ⟨j, by rw [List.mem_range']; exact ⟨j, by omega, by omega⟩, rfl⟩]; rfl
    rintro ⟨x, hx, he⟩
    have := hI.2 x hx
    exact h (by rw [show ((j : Nat) : Int) = x by omega]; exact hx)
theorem without_eq {r list : List Int} (hn : r.length ≤ 5) (hI : Inc r.length 0 list) : pwithout r list = some (toFl (keptL r.length list)) := by
  have hl := inc_len hI
  have key := without_L0 hn (show list.length ≤ 5 by omega) (fun x hx => by have := hI.2 x hx; omega) (r.length + 1) 0 [false, false, false, false, false] rfl (Nat.zero_le _) (by omega)
  rw [Nat.sub_zero] at key
  exact key
def riseF : List Int → Nat → Int → List Bool → List Bool
  | [], _, _, ys => ys
  | a :: rs, i, b, ys => if ys.getD i false = true then riseF rs (i + 1) a (ys.set i (decide (b ≤ a))) else riseF rs (i + 1) b ys
def RiseL : List Int → Nat → Int → List Bool → Prop
  | [], _, _, _ => True
  | a :: rs, i, b, ys => if ys.getD i false = true then b ≤ a ∧ RiseL rs (i + 1) a ys else RiseL rs (i + 1) b ys
theorem riseF_len : ∀ (rs : List Int) (i : Nat) (b : Int) (ys : List Bool), (riseF rs i b ys).length = ys.length
  | [], _, _, _ => rfl
  | a :: rs, i, b, ys => by
    unfold riseF
    split
    · rw [riseF_len rs, List.length_set]
    · exact riseF_len rs _ _ _
theorem riseF_low : ∀ (rs : List Int) (i : Nat) (b : Int) (ys : List Bool) (j : Nat), j < i → (riseF rs i b ys).getD j false = ys.getD j false
  | [], _, _, _, _, _ => rfl
  | a :: rs, i, b, ys, j, hj => by
    unfold riseF
    split
    · rw [riseF_low rs _ _ _ j (by omega), List.getD_eq_getElem?_getD, List.getElem?_set, if_neg (by omega), List.getD_eq_getElem?_getD]
    · exact riseF_low rs _ _ _ j (by omega)
theorem riseF_iff : ∀ (rs : List Int) (i : Nat) (b : Int) (ys : List Bool), i + rs.length ≤ ys.length → (riseF rs i b ys = ys ↔ RiseL rs i b ys)
  | [], _, _, _, _ => ⟨fun _ => trivial, fun _ => rfl⟩
  | a :: rs, i, b, ys, h => by
    rw [List.length_cons] at h
    unfold riseF RiseL
    by_cases hk : ys.getD i false = true
    · rw [if_pos hk, if_pos hk]
      have hi : i < ys.length := by omega
      by_cases hb : b ≤ a
      · have hs : ys.set i (decide (b ≤ a)) = ys := by
          rw [decide_eq_true hb]
          apply List.ext_getElem?
          intro j
          rw [List.getElem?_set]
          by_cases hij : i = j
          · subst hij
            rw [if_pos rfl, if_pos hi, List.getElem?_eq_getElem hi]
            rw [List.getD_eq_getElem?_getD, List.getElem?_eq_getElem hi] at hk
            exact congrArg some hk.symm
          · rw [if_neg hij]
        rw [hs, riseF_iff rs (i + 1) a ys (by omega)]
        exact ⟨fun h' => ⟨hb, h'⟩, fun h' => h'.2⟩
      · refine ⟨fun h' => ?_, fun h' => absurd h'.1 hb⟩
        have h2 := riseF_low rs (i + 1) a (ys.set i (decide (b ≤ a))) i (by omega)
        rw [h', hk, List.getD_eq_getElem?_getD, List.getElem?_set, if_pos rfl, if_pos hi, decide_eq_false hb] at h2
        cases h2
    · rw [if_neg hk, if_neg hk]
      exact riseF_iff rs (i + 1) b ys (by omega)
theorem rising_L0 {r : List Int} (hn : r.length ≤ 5) : ∀ (d k : Nat) (b : Int) (ys : List Bool), ys.length = 5 → k ≤ r.length → r.length - k < d →
    prising_L0 r d (ys.getD 0 false) (ys.getD 1 false) (ys.getD 2 false) (ys.getD 3 false) (ys.getD 4 false) b (k : Int) = some (toFl (riseF (r.drop k) k b ys))
  | 0, _, _, _, _, _, h => by omega
  | d + 1, k, b, ys, h5, hk, h => by
    by_cases hkn : k = r.length
    · subst hkn
      rw [prising_L0, if_neg (Int.lt_irrefl _), List.drop_length]; rfl
    · have hlt : k < r.length := by omega
      rw [prising_L0, if_pos (by omega), idx_at (List.getElem?_eq_getElem hlt), Option.bind_some, idx5 h5 (by omega), Option.bind_some, List.drop_eq_getElem_cons hlt]
      unfold riseF
      by_cases hb : ys.getD k false = true
      · rw [if_pos hb, if_pos hb, gd_pos (by omega), gd_pos (fI (by omega)), sti_getD rfl (by omega), sti_getD rfl (by omega), sti_getD rfl (by omega), sti_getD rfl (by omega), sti_getD rfl (by omega), show (k : Int) + 1 = ((k + 1 : Nat) : Int) by omega, rising_L0 hn d (k + 1) _ _ (by rw [List.length_set]; exact h5) (by omega) (by omega)]
      · rw [if_neg hb, if_neg hb, gd_pos (fI (by omega)), show (k : Int) + 1 = ((k + 1 : Nat) : Int) by omega, rising_L0 hn d (k + 1) _ _ h5 (by omega) (by omega)]
theorem rising_eq {r : List Int} (hn : r.length ≤ 5) {ys : List Bool} (h5 : ys.length = 5) : prising r (toFl ys) = some (toFl (riseF r 0 0 ys)) := by
  have key := rising_L0 hn (r.length + 1) 0 0 ys h5 (Nat.zero_le _) (by omega)
  rw [List.drop_zero] at key
  exact key
/-- the rates rise, but for S -/
def RS (r : List Int) (S : Nat → Bool) : Prop := ∀ i k, i < k → k < r.length → S i = false → S k = false → nth r i ≤ nth r k
theorem riseL_iff : ∀ (rs : List Int) (i : Nat) (b : Int) (ys : List Bool), RiseL rs i b ys ↔ (∀ j, j < rs.length → ys.getD (i + j) false = true → b ≤ nth rs j) ∧ ∀ j k, j < k → k < rs.length → ys.getD (i + j) false = true → ys.getD (i + k) false = true → nth rs j ≤ nth rs k
  | [], _, _, _ => ⟨fun _ => ⟨fun j h => by simp at h, fun j k _ h => by simp at h⟩, fun _ => trivial⟩
  | a :: rs, i, b, ys => by
    unfold RiseL
    have e : ∀ j, i + (j + 1) = i + 1 + j := fun j => by omega
    have n0 : nth (a :: rs) 0 = a := rfl
    have ns : ∀ j, nth (a :: rs) (j + 1) = nth rs j := fun j => rfl
    by_cases hk : ys.getD i false = true
    · rw [if_pos hk, riseL_iff rs (i + 1) a ys]
      constructor
      · rintro ⟨h1, h2, h3⟩
        refine ⟨fun j hj hjk => ?_, fun j k hjk hkl hj hk' => ?_⟩
        · cases j with
          | zero => exact h1
          | succ j => rw [e] at hjk; have := h2 j (by simp at hj; omega) hjk; rw [ns]; omega
        · cases k with
          | zero => omega
          | succ k =>
            rw [e] at hk'
            cases j with
            | zero => rw [n0, ns]; exact h2 k (by simp at hkl; omega) hk'
            | succ j => rw [e] at hj; rw [ns, ns]; exact h3 j k (by omega) (by simp at hkl; omega) hj hk'
      · rintro ⟨h1, h2⟩
        refine ⟨h1 0 (by simp) hk, fun j hj hjk => ?_, fun j k hjk hkl hj hk' => ?_⟩
        · have := h2 0 (j + 1) (by omega) (by simp; omega) hk (by rw [e]; exact hjk)
          rwa [n0, ns] at this
        · have := h2 (j + 1) (k + 1) (by omega) (by simp; omega) (by rw [e]; exact hj) (by rw [e]; exact hk')
          rwa [ns, ns] at this
    · rw [if_neg hk, riseL_iff rs (i + 1) b ys]
      constructor
      · rintro ⟨h2, h3⟩
        refine ⟨fun j hj hjk => ?_, fun j k hjk hkl hj hk' => ?_⟩
        · cases j with
          | zero => exact absurd hjk hk
          | succ j => rw [e] at hjk; rw [ns]; exact h2 j (by simp at hj; omega) hjk
        · cases k with
          | zero => omega
          | succ k =>
            rw [e] at hk'
            cases j with
            | zero => exact absurd hj hk
            | succ j => rw [e] at hj; rw [ns, ns]; exact h3 j k (by omega) (by simp at hkl; omega) hj hk'
      · rintro ⟨h1, h2⟩
        refine ⟨fun j hj hjk => ?_, fun j k hjk hkl hj hk' => ?_⟩
        · have := h1 (j + 1) (by simp; omega) (by rw [e]; exact hjk)
          rwa [ns] at this
        · have := h2 (j + 1) (k + 1) (by omega) (by simp; omega) (by rw [e]; exact hj) (by rw [e]; exact hk')
          rwa [ns, ns] at this
theorem toFl_inj {a b : List Bool} (ha : a.length = 5) (hb : b.length = 5) : ((toFl a).a0 == (toFl b).a0 && ((toFl a).a1 == (toFl b).a1 && ((toFl a).a2 == (toFl b).a2 && ((toFl a).a3 == (toFl b).a3 && (toFl a).a4 == (toFl b).a4)))) = true ↔ a = b := by
  match a, b, ha, hb with
  | [a0, a1, a2, a3, a4], [b0, b1, b2, b3, b4], _, _ => simp [toFl]
theorem canBe_ev {r list : List Int} (hn : r.length ≤ 5) (hr : ∀ x ∈ r, 0 ≤ x) (hI : Inc r.length 0 list) : Ev (pcanBe r list) (RS r (inD list)) := by
  unfold pcanBe
  rw [without_eq hn hI, Option.bind_some, rising_eq hn kept_len, Option.bind_some]
  refine Ev.mk' ((toFl_inj (by rw [riseF_len]; exact kept_len) kept_len).trans ?_)
  rw [riseF_iff r 0 0 _ (by rw [kept_len]; omega), riseL_iff]
  have hg : ∀ j, j < r.length → ((keptL r.length list).getD (0 + j) false = true ↔ inD list j = false) := fun j hj => by
    rw [Nat.zero_add, kept_get hn hI hj]
    cases inD list j <;> simp
  constructor
  · rintro ⟨_, h⟩ i k hik hk hi hk'
    exact h i k hik hk ((hg i (by omega)).2 hi) ((hg k hk).2 hk')
  · intro h
    exact ⟨fun j hj _ => hr _ (List.mem_of_getElem? (nth_some hj)), fun j k hjk hk hj hk' => h j k hjk hk ((hg j (by omega)).1 hj) ((hg k hk).1 hk')⟩
end
end Go.Proofs.YtbhdgedghfibcaaGreat

namespace Go.Proofs.YtbhdgedghfibcaaGreat
open _root_.Go.Proofs.Tryz
open Go.Abs
set_option maxRecDepth 100000
noncomputable section
theorem wu {n : Nat} (h : n ≤ 64) : wrapZ .u64 (n : Int) = (n : Int) := wz (fU (by omega))
theorem rBits_go {b : Nat} (hb : b < 65536) : ∀ (d p : Nat) (acc : List Int), p ≤ 16 → 16 - p < d → acc = bitsF b p → prBits_L0 (b : Int) d acc (p : Int) = some (bitsL b)
  | 0, _, _, _, h, _ => by omega
  | d + 1, p, acc, hp, h, ha => by
    have hle : b / 2 ^ p ≤ b := Nat.div_le_self _ _
    rw [prBits_L0, wu (show p ≤ 64 by omega)]
    have hq : (b : Int) / 2 ^ ((p : Int)).toNat = ((b / 2 ^ p : Nat) : Int) := by rw [Int.toNat_natCast]; simp
    rw [hq]
    clear hq
    have hl := lenF (b := b) p
    have hbit : b.testBit p = decide (b / 2 ^ p % 2 = 1) := Nat.testBit_eq_decide_div_mod_eq ..
    have h16 : p = 16 → b / 2 ^ p = 0 := fun he => by subst he; exact Nat.div_eq_of_lt (by omega)
    have h0' : b / 2 ^ p = 0 → bitsF b p = bitsL b := fun h9 => by
      have := bitsF_more (b := b) (p := p) (fun q hq => bit_zero h9 hq) (16 - p)
      rw [show p + (16 - p) = 16 by omega] at this
      exact this.symm
    generalize b / 2 ^ p = q at hle hbit h16 h0' ⊢
    rw [gd_pos (by omega), gd_pos (by omega), gd_pos (by omega), gd_pos (fI (by omega))]
    by_cases h0 : 0 < q
    · have hp16 : p < 16 := by
        rcases Nat.lt_or_ge p 16 with h1 | h1
        · exact h1
        · have := h16 (by omega); omega
      rw [if_pos (by omega), gd_pos (by omega), gd_pos (by omega), gd_pos (by omega), gd_pos (fI (by omega)), gd_pos (by omega), gd_pos (by omega), gd_pos (fI (by omega))]
      by_cases h1 : q % 2 = 1
      · rw [if_pos (by omega), gd_pos (show acc.length < 1048576 by rw [ha]; omega), gd_pos (fI (by omega)), show (p : Int) + 1 = ((p + 1 : Nat) : Int) by omega]
        refine rBits_go hb d (p + 1) _ (by omega) (by omega) ?_
        show _ = bitsF b p ++ (if b.testBit p then [(p : Int)] else [])
        rw [ha, hbit, h1]; rfl
      · rw [if_neg (by omega), gd_pos (fI (by omega)), show (p : Int) + 1 = ((p + 1 : Nat) : Int) by omega]
        refine rBits_go hb d (p + 1) _ (by omega) (by omega) ?_
        show _ = bitsF b p ++ (if b.testBit p then [(p : Int)] else [])
        rw [ha, hbit, decide_eq_false h1]; simp
    · rw [if_neg (by omega), ha]
      exact congrArg some (h0' (by omega))
theorem rBits_eq {b : Nat} (hb : b < 65536) : prBits (b : Int) = some (bitsL b) := rBits_go hb 1000000 0 [] (Nat.zero_le _) (by omega) rfl
theorem rBefore_go {a b : List Int} (hl : a.length ≤ 1000) : ∀ (d k : Nat), k ≤ a.length → a.length - k < d → prBefore_L0 a b d (k : Int) = some (bef (a.drop k) (b.drop k))
  | 0, _, _, h => by omega
  | d + 1, k, hk, h => by
    rw [prBefore_L0]
    by_cases hka : k < a.length
    · rw [if_pos (by omega)]
      have da := List.drop_eq_getElem_cons hka
      have ga := List.getElem?_eq_getElem hka
      by_cases hkb : k < b.length
      · have db := List.drop_eq_getElem_cons hkb
        have gb := List.getElem?_eq_getElem hkb
        rw [if_pos (by omega), idx_at ga, Option.bind_some, idx_at gb, Option.bind_some, da, db]
        unfold bef
        by_cases he : a[k] = b[k]
        · rw [if_pos he, if_pos he, gd_pos (fI (by omega)), show (k : Int) + 1 = ((k + 1 : Nat) : Int) by omega]
          exact rBefore_go hl d (k + 1) (by omega) (by omega)
        · rw [if_neg he, if_neg he, Option.bind_some, Option.bind_some]
      · rw [if_neg (by omega), da, List.drop_eq_nil_of_le (show b.length ≤ k by omega), decide_eq_false (by omega)]; rfl
    · rw [if_neg (by omega), List.drop_eq_nil_of_le (show a.length ≤ k by omega)]
      by_cases hkb : k < b.length
      · rw [List.drop_eq_getElem_cons hkb, decide_eq_true (by omega)]; rfl
      · rw [List.drop_eq_nil_of_le (show b.length ≤ k by omega), decide_eq_false (by omega)]; rfl
theorem rBefore_eq {a b : List Int} (hl : a.length ≤ 1000) : prBefore a b = some (bef a b) := rBefore_go hl (a.length + 1) 0 (Nat.zero_le _) (by omega)
theorem rShorter_eq {a b : List Int} (hl : a.length ≤ 1000) : prShorter a b = some (shB a b) := by
  unfold prShorter shB
  by_cases h1 : a.length < b.length
  · rw [if_pos (by omega), decide_eq_true h1]; rfl
  · rw [if_neg (by omega), decide_eq_false h1]
    by_cases h2 : a.length = b.length
    · rw [if_pos (by omega), rBefore_eq hl, decide_eq_true h2]; simp
    · rw [if_neg (by omega), decide_eq_false h2]; simp
structure MinR (r M : List Int) : Prop where
  inc : Inc r.length 0 M
  rs : RS r (inD M)
  min : ∀ D, Inc r.length 0 D → RS r (inD D) → D = M ∨ shB M D = true
def allI (n : Nat) : List Int := (List.range n).map fun j => ((j : Nat) : Int)
theorem all_inc (n : Nat) : Inc n 0 (allI n) := by
  refine ⟨?_, fun v hv => ?_⟩
  · unfold allI
    rw [List.pairwise_map]
    exact List.pairwise_lt_range.imp fun h => by omega
  · obtain ⟨j, hj, rfl⟩ := List.mem_map.1 hv
    have := List.mem_range.1 hj
    omega
theorem all_in {n j : Nat} (h : j < n) : inD (allI n) j = true := decide_eq_true (List.mem_map.2 ⟨j, List.mem_range.2 h, rfl⟩)
theorem all_rs (r : List Int) : RS r (inD (allI r.length)) := fun i k hik hk hi _ => by
  rw [all_in (show i < r.length by omega)] at hi; cases hi
theorem RS.congr {r : List Int} {S S' : Nat → Bool} (h : ∀ j, j < r.length → S j = S' j) : RS r S ↔ RS r S' :=
  ⟨fun f i k hik hk hi hk' => f i k hik hk (by rw [h i (by omega)]; exact hi) (by rw [h k hk]; exact hk'), fun f i k hik hk hi hk' => f i k hik hk (by rw [← h i (by omega)]; exact hi) (by rw [← h k hk]; exact hk')⟩
theorem misprints_eq {r : List Int} (hn : r.length ≤ 5) (hr : ∀ x ∈ r, 0 ≤ x) : ∃ M, pmisprints r = some M ∧ MinR r M := by
  have ht : ∀ D, Inc r.length 0 D → ((pcanBe r D).getD false = true ↔ RS r (inD D)) := fun D hD => by
    obtain ⟨b, h1, h2⟩ := canBe_ev hn hr hD
    rw [h1]; exact h2
  obtain ⟨s1, s2, s3⟩ := shortL_spec (n := r.length) (t := fun L => (pcanBe r L).getD false) ⟨allI r.length, all_inc _, (ht _ (all_inc _)).2 (all_rs r)⟩
  refine ⟨shortL r.length fun L => (pcanBe r L).getD false, ?_, s1, (ht _ s1).1 s2, fun D hD hD2 => s3 D hD ((ht D hD).2 hD2)⟩
  unfold pmisprints pshortest
  rw [gd_pos ⟨by omega, by omega, fun L hL => by
    obtain ⟨b, h1, _⟩ := canBe_ev hn hr (mem_allL.1 hL)
    show (pcanBe r L).isSome = true
    rw [h1]; rfl⟩, Option.bind_some, Int.toNat_natCast]
theorem bitS {b j : Nat} : clearN (b : Int) j ↔ b.testBit j = false := by
  rw [← bitI_eq]
  unfold clearN bitI
  simp
theorem rRiseB {r : List Int} (hn : r.length ≤ 5) {b : Nat} (hb : b < 65536) : Ev (prRise r (b : Int)) (RS r fun j => b.testBit j) :=
  (rRise_ev (by omega) (by omega)).imp ⟨fun h i k hik hk hi hk' => h i k hik hk (bitS.2 hi) (bitS.2 hk'), fun h i k hik hk hi hk' => h i k hik hk (bitS.1 hi) (bitS.1 hk')⟩
theorem rs_bits {r : List Int} (hn : r.length ≤ 5) {b : Nat} : RS r (inD (bitsL b)) ↔ RS r fun j => b.testBit j := RS.congr fun j hj => inD_bits (n := r.length) (by omega) hj
theorem pow5 {n : Nat} (hn : n ≤ 5) : 2 ^ n ≤ 32 ∧ 1 ≤ 2 ^ n := ⟨Nat.pow_le_pow_right (n := 2) (by omega) hn, Nat.one_le_two_pow⟩
theorem one_shl {n : Nat} (hn : n ≤ 5) : (1 : Int) * (2 : Int) ^ n = ((2 ^ n : Nat) : Int) := by rw [Int.one_mul]; simp
theorem len_bits {b : Nat} : (bitsL b).length ≤ 16 := lenF 16
/-- the rates with these numbers -/
theorem at_rates {l : List Tf} (hf : faultN l = 0) {which crop week : Int} (hw : 0 ≤ which ∧ which < l.length) (hc : 0 ≤ crop ∧ crop < cropsN l) {t : Tf} (ht : l[which.toNat]? = some t) (hk : 0 ≤ week ∧ week < t.Weeks.length) :
    ∃ wks r, idx t.Rates crop = some wks ∧ idx wks week = some r ∧ r.length ≤ 5 ∧ ∀ x ∈ r, 0 ≤ x := by
  obtain ⟨hm, hv⟩ := faultN_zero.1 hf
  have hmem := List.mem_of_getElem? ht
  have hfew := few ((not_many hm).2 t hmem)
  have hT := hv.vt t hmem
  have hcr := hv.crp t hmem
  have h1 : crop.toNat < t.Rates.length := by omega
  obtain ⟨q1, q2⟩ := hT.rts _ (List.getElem_mem h1)
  have h2 : week.toNat < t.Rates[crop.toNat].length := by omega
  obtain ⟨q3, q4⟩ := q2 _ (List.getElem_mem h2)
  exact ⟨_, _, idx_get (by omega) h1, idx_get (by omega) h2, by omega, fun x hx => (q4 x hx).1⟩
theorem idx_of {α : Type} {l : List α} {i : Int} (h : 0 ≤ i ∧ i < l.length) : ∃ t, idx l i = some t ∧ l[i.toNat]? = some t := ⟨_, idx_get (by omega) (show i.toNat < l.length by omega), List.getElem?_eq_getElem _⟩
def InM (l : List Tf) (which crop week : Int) : Prop := (0 ≤ which ∧ which < l.length) ∧ (0 ≤ crop ∧ crop < cropsN l) ∧ ∀ t, l[which.toNat]? = some t → 0 ≤ week ∧ week < t.Weeks.length
theorem hasRates_ev {l : List Tf} (hf : faultN l = 0) {which crop week : Int} : Ev (phasRates l which crop week) (InM l which crop week) := by
  have hl := (not_many (faultN_zero.1 hf).1)
  refine Ev.imp (P := (0 ≤ which ∧ which < l.length) ∧ (0 ≤ crop ∧ crop < cropsN l) ∧ ∀ t, l[which.toNat]? = some t → 0 ≤ week ∧ week < t.Weeks.length) (Ev.and (isIndex_ev (by omega)) fun hw => Ev.and (hasCrop_ev hf) fun _ => ?_) Iff.rfl
  obtain ⟨t, h1, h2⟩ := idx_of hw
  have hfew := few (hl.2 t (List.mem_of_getElem? h2))
  exact Ev.bind h1 ((isIndex_ev (by omega)).ret.imp ⟨fun h t' ht' => by rw [h2] at ht'; cases ht'; exact h, fun h => h t h2⟩)
theorem Misprints_ok {l : List Tf} (hf : faultN l = 0) {a b c : Int} (h : InM l a b c) : ∃ t wks r M, idx l a = some t ∧ l[a.toNat]? = some t ∧ idx t.Rates b = some wks ∧ idx wks c = some r ∧ r.length ≤ 5 ∧ pMisprints l a b c = some (M, 0) ∧ MinR r M := by
  obtain ⟨t, h1, h2⟩ := idx_of h.1
  obtain ⟨wks, r, h3, h4, h5, h6⟩ := at_rates hf h.1 h.2.1 h2 (h.2.2 t h2)
  obtain ⟨M, h7, h8⟩ := misprints_eq h5 h6
  refine ⟨t, wks, r, M, h1, h2, h3, h4, h5, ?_, h8⟩
  unfold pMisprints
  rw [open_ok hf, Option.bind_some, if_pos rfl, (hasRates_ev hf).some_of h, Option.bind_some, if_pos rfl, h1, Option.bind_some, h3, Option.bind_some, h4, Option.bind_some, h7, Option.bind_some]
end
end Go.Proofs.YtbhdgedghfibcaaGreat

