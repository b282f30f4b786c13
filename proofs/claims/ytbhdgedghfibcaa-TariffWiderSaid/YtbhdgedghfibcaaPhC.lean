/- What functions of the program ask and do. Condition: none; a lemma text of this claim. -/
import Derived.Test.YtbhdgedghfibcaaPhB

namespace Go.Proofs.Ytbhdgedghfibcaa
open _root_.Go.Proofs.Try
open Go.Abs
set_option maxRecDepth 100000
noncomputable section
def Fv_Tf_Bool (f : M) (x : C) (g : Tf → Option (Bool)) : Prop := ∀ (f' m : M) (a0 : Tf) (c0 c1 c2 : C) (r : Bool) (Q : V → M → Prop), Sub f f' → Pre f' m → Sl f' c0 a0.Weeks → Sl f' c1 a0.Counts → Sl f' c2 a0.Rates → g a0 = some r → (∀ m', Ext m m' → Q (.c (.bool r)) m') → callP prog tbl [.agg 6 [(.int .i64 a0.From), (.bool a0.Whole), (.int .i64 a0.Least), c0, c1, c2]] x m Q
theorem Fv_Tf_Bool.sub {f m : M} {x : C} {g : Tf → Option (Bool)} (h : Fv_Tf_Bool f x g) (s : Sub f m) : Fv_Tf_Bool m x g := fun f' m' a0 c0 c1 c2 r Q hs => h f' m' a0 c0 c1 c2 r Q (s.trans hs)
def Fv_Clm_Bool (f : M) (x : C) (g : Clm → Option (Bool)) : Prop := ∀ (f' m : M) (a0 : Clm) (r : Bool) (Q : V → M → Prop), Sub f f' → Pre f' m → g a0 = some r → (∀ m', Ext m m' → Q (.c (.bool r)) m') → callP prog tbl [.agg 6 [(.int .i64 a0.Crop), (.int .i64 a0.Value), (.int .i64 a0.Day.Lo), (.int .i64 a0.Day.Hi), (.int .i64 a0.Count.Lo), (.int .i64 a0.Count.Hi)]] x m Q
theorem Fv_Clm_Bool.sub {f m : M} {x : C} {g : Clm → Option (Bool)} (h : Fv_Clm_Bool f x g) (s : Sub f m) : Fv_Clm_Bool m x g := fun f' m' a0 r Q hs => h f' m' a0 r Q (s.trans hs)
def Fv_Int_Bool (f : M) (x : C) (g : Int → Option (Bool)) : Prop := ∀ (f' m : M) (a0 : Int) (r : Bool) (Q : V → M → Prop), Sub f f' → Pre f' m → g a0 = some r → (∀ m', Ext m m' → Q (.c (.bool r)) m') → callP prog tbl [.c (.int .i64 a0)] x m Q
theorem Fv_Int_Bool.sub {f m : M} {x : C} {g : Int → Option (Bool)} (h : Fv_Int_Bool f x g) (s : Sub f m) : Fv_Int_Bool m x g := fun f' m' a0 r Q hs => h f' m' a0 r Q (s.trans hs)
def Fv_LInt_Bool (f : M) (x : C) (g : List Int → Option (Bool)) : Prop := ∀ (f' m : M) (a0 : List Int) (c0 : C) (r : Bool) (Q : V → M → Prop), Sub f f' → Pre f' m → Sl f' c0 a0 → g a0 = some r → (∀ m', Ext m m' → Q (.c (.bool r)) m') → callP prog tbl [.c c0] x m Q
theorem Fv_LInt_Bool.sub {f m : M} {x : C} {g : List Int → Option (Bool)} (h : Fv_LInt_Bool f x g) (s : Sub f m) : Fv_LInt_Bool m x g := fun f' m' a0 c0 r Q hs => h f' m' a0 c0 r Q (s.trans hs)
def Fv_LLInt_Bool (f : M) (x : C) (g : List (List Int) → Option (Bool)) : Prop := ∀ (f' m : M) (a0 : List (List Int)) (c0 : C) (r : Bool) (Q : V → M → Prop), Sub f f' → Pre f' m → Sl f' c0 a0 → g a0 = some r → (∀ m', Ext m m' → Q (.c (.bool r)) m') → callP prog tbl [.c c0] x m Q
theorem Fv_LLInt_Bool.sub {f m : M} {x : C} {g : List (List Int) → Option (Bool)} (h : Fv_LLInt_Bool f x g) (s : Sub f m) : Fv_LLInt_Bool m x g := fun f' m' a0 c0 r Q hs => h f' m' a0 c0 r Q (s.trans hs)
def Fv_Tf_Int_Int (f : M) (x : C) (g : Tf → Int → Option (Int)) : Prop := ∀ (f' m : M) (a0 : Tf) (a1 : Int) (c0 c1 c2 : C) (r : Int) (Q : V → M → Prop), Sub f f' → Pre f' m → Sl f' c0 a0.Weeks → Sl f' c1 a0.Counts → Sl f' c2 a0.Rates → g a0 a1 = some r → (∀ m', Ext m m' → Q (.c (.int .i64 r)) m') → callP prog tbl [.agg 6 [(.int .i64 a0.From), (.bool a0.Whole), (.int .i64 a0.Least), c0, c1, c2], .c (.int .i64 a1)] x m Q
theorem Fv_Tf_Int_Int.sub {f m : M} {x : C} {g : Tf → Int → Option (Int)} (h : Fv_Tf_Int_Int f x g) (s : Sub f m) : Fv_Tf_Int_Int m x g := fun f' m' a0 a1 c0 c1 c2 r Q hs => h f' m' a0 a1 c0 c1 c2 r Q (s.trans hs)
theorem kl103 : KL prog 103 Ht := kl_agg (n := 3) (ks := [.int .i64, .int .i64, .int .i64]) (by kernel_rfl) (by kernel_rfl) (cs := fun k => [.int .i64 k.Day, .int .i64 k.Count, .int .i64 k.crop]) (fun _ => rfl) fun a b fa fb => ⟨_, _, (eqKs_cons (eqK_i fa.1 fb.1) (eqKs_cons (eqK_i fa.2.1 fb.2.1) (eqKs_cons (eqK_i fa.2.2.1 fb.2.2.1) eqKs_nil))), ⟨fun h => by cases a; cases b; simp_all, fun h => by subst h; exact ⟨rfl, rfl, rfl, trivial⟩⟩⟩
theorem ta28 : TA prog 28 6 := ⟨76, by kernel_rfl, by kernel_rfl, by kernel_rfl⟩
theorem ta73 : TA prog 73 1 := ⟨3, by kernel_rfl, by kernel_rfl, by kernel_rfl⟩
theorem ta74 : TA prog 74 1 := ⟨77, by kernel_rfl, by kernel_rfl, by kernel_rfl⟩
theorem ta77 : TA prog 77 1 := ⟨73, by kernel_rfl, by kernel_rfl, by kernel_rfl⟩
theorem s_awake {m f : M} {Q : V → M → Prop} {rz : Bool} (hS : Pre f m) (hp : pawake = some rz) (hq : ∀ m', Ext m m' → Q (.c (.bool rz)) m') : Wc prog tbl 17 [] m Q := by
  obtain rfl := Option.some.inj hp
  exact call_known (show findT tbl 17 = some true from rfl) (hq _ (.refl m))
theorem s_rIn {n : Int} {low : Int} {high : Int} {m f : M} {Q : V → M → Prop} {rz : Bool} (hS : Pre f m)  (hp : prIn n low high = some rz) (hq : ∀ m', Ext m m' → Q (.c (.bool rz)) m') : Wc prog tbl 22 [.c (.int .i64 n), .c (.int .i64 low), .c (.int .i64 high)] m Q := by
  have S0 := hS.st
  obtain ⟨τ0, _⟩ : ∃ τ : Nat → Nat, True := ⟨fun _ => 0, trivial⟩
  refine w22 ?_
  unfold prIn at hp
  rw [ifB_dec]
  refine ⟨fun q1 => ?_, fun q1 => ?_⟩
  · skip
    rw [if_pos q1] at hp
    obtain rfl := Option.some.inj hp
    exact hq _ S0.ext'
  · skip
    rw [if_neg q1] at hp
    obtain rfl := Option.some.inj hp
    exact hq _ S0.ext'
theorem s_rRises {l : List Int} {most : Int} {ca100 : C} {m f : M} {Q : V → M → Prop} {rz : Bool} (hS : Pre f m) (ha100 : Sl f ca100 l) (hp : prRises l most = some rz) (hq : ∀ m', Ext m m' → Q (.c (.bool rz)) m') : Wc prog tbl 101 [.c ca100, .c (.int .i64 most)] m Q := by
  have S0 := hS.st
  obtain ⟨τ0, _⟩ : ∃ τ : Nat → Nat, True := ⟨fun _ => 0, trivial⟩
  refine w101 ?_
  unfold prRises at hp
  intro R0 hR0
  have hgo : ∀ (d4 : Nat) (b1 : Bool) (x2 : Int) (m3 : M) (τ3 : Nat → Nat), St (Fm.of m) f f m3 → prRises_L0 l most d4 x2 = some rz → R0 [.c (.bool b1), .c (.int .i64 x2)] m3 := by
    intro d4
    induction d4 with
    | zero => intro b1 x2 m3 τ3 S2 hp; cases hp
    | succ d4 ihR0 =>
      intro b1 x2 m3 τ3 S2 hp
      refine hR0 _ _ _ ?_
      rw [prRises_L0] at hp
      refine ⟨ha100.isSl, ?_⟩
      try rw [ha100.slLen]
      rw [ifB_dec]
      refine ⟨fun q5 => ?_, fun q5 => ?_⟩
      · skip
        rw [if_pos q5] at hp
        obtain ⟨x6, g7, hp⟩ := bsome hp
        obtain ⟨n4, g7i, g7l, g7⟩ := idx_some g7
        refine ⟨n4, g7i, (by first | exact g7l | (rw [ha100.slLen]; exact g7l)), _, (ha100.rdI g7 S2.sub), ?_⟩
        obtain ⟨r8, g9, hp⟩ := bsome hp
        refine s_rIn (n := x6) (low := (0 : Int)) (high := most) S2.pre  g9 fun m7 e12 => ?_
        obtain ⟨S10, k11⟩ := S2.call e12 τ3
        refine ⟨_, rfl, ?_⟩
        rw [ifB_iff]
        refine ⟨fun q13 => ?_, fun q13 => ?_⟩
        · skip
          rw [bif_neg (nb_f q13)] at hp
          obtain rfl := Option.some.inj hp
          exact hq _ S10.ext'
        · skip
          rw [if_pos (nb_t q13)] at hp
          rw [ifB_dec]
          refine ⟨fun q14 => ?_, fun q14 => ?_⟩
          · skip
            rw [if_pos q14] at hp
            obtain ⟨x15, g16, hp⟩ := bsome hp
            obtain ⟨n9, g16i, g16l, g16⟩ := idx_some g16
            refine ⟨n9, g16i, (by first | exact g16l | (rw [ha100.slLen]; exact g16l)), _, (ha100.rdI g16 S10.sub), ?_⟩
            obtain ⟨g17, hp⟩ := gd_some hp
            refine ⟨g17, ?_⟩
            obtain ⟨x18, g19, hp⟩ := bsome hp
            obtain ⟨n11, g19i, g19l, g19⟩ := idx_some g19
            refine ⟨n11, g19i, (by first | exact g19l | (rw [ha100.slLen]; exact g19l)), _, (ha100.rdI g19 S10.sub), ?_⟩
            rw [ifB_dec]
            refine ⟨fun q20 => ?_, fun q20 => ?_⟩
            · skip
              rw [if_pos q20] at hp
              obtain rfl := Option.some.inj hp
              exact hq _ S10.ext'
            · skip
              rw [if_neg q20] at hp
              obtain ⟨g21, hp⟩ := gd_some hp
              refine ⟨g21, ?_⟩
              exact ihR0 _ _ _ τ3 S10 hp
          · skip
            rw [if_neg q14] at hp
            obtain ⟨g22, hp⟩ := gd_some hp
            refine ⟨g22, ?_⟩
            exact ihR0 _ _ _ τ3 S10 hp
      · skip
        rw [if_neg q5] at hp
        refine ⟨ha100.isSl, ?_⟩
        try rw [ha100.slLen]
        rw [ifB_dec]
        refine ⟨fun q23 => ?_, fun q23 => ?_⟩
        · skip
          rw [if_pos q23] at hp
          obtain ⟨x24, g25, hp⟩ := bsome hp
          obtain ⟨n13, g25i, g25l, g25⟩ := idx_some g25
          refine ⟨n13, g25i, (by first | exact g25l | (rw [ha100.slLen]; exact g25l)), _, (ha100.rdI g25 S2.sub), ?_⟩
          obtain rfl := Option.some.inj hp
          exact hq _ S2.ext'
        · skip
          rw [if_neg q23] at hp
          obtain rfl := Option.some.inj hp
          exact hq _ S2.ext'
  exact hgo _ _ _ _ τ0 S0 hp
theorem s_rIsTariff {t : Tf} {ca103 ca104 ca105 : C} {m f : M} {Q : V → M → Prop} {rz : Bool} (hS : Pre f m) (ha103 : Sl f ca103 t.Weeks) (ha104 : Sl f ca104 t.Counts) (ha105 : Sl f ca105 t.Rates) (hp : prIsTariff t = some rz) (hq : ∀ m', Ext m m' → Q (.c (.bool rz)) m') : Wc prog tbl 81 [.agg 6 [(.int .i64 t.From), (.bool t.Whole), (.int .i64 t.Least), ca103, ca104, ca105]] m Q := by
  have S0 := hS.st
  obtain ⟨τ0, _⟩ : ∃ τ : Nat → Nat, True := ⟨fun _ => 0, trivial⟩
  refine w81 ?_
  unfold prIsTariff at hp
  intro m0 e26
  obtain ⟨τ29, S27, k28, L30⟩ := S0.blk e26 τ0 1
  refine ⟨trivial, _, L30.bk.rc rfl, ?_⟩
  obtain ⟨r31, g32, hp⟩ := bsome hp
  refine s_rIn (n := t.From) (low := (0 : Int)) (high := (120 : Int)) S27.pre  g32 fun m3 e35 => ?_
  obtain ⟨S33, k34⟩ := S27.call e35 τ29
  have L36 := L30.k k34 (by decide)
  refine ⟨_, rfl, ?_⟩
  rw [ifB_iff]
  refine ⟨fun q37 => ?_, fun q37 => ?_⟩
  · skip
    rw [bif_neg (nb_f q37)] at hp
    obtain rfl := Option.some.inj hp
    exact hq _ S33.ext'
  · skip
    rw [if_pos (nb_t q37)] at hp
    refine ⟨trivial, _, L36.bk.rc rfl, ?_⟩
    obtain ⟨r38, g39, hp⟩ := bsome hp
    refine s_rIn (n := t.Least) (low := (0 : Int)) (high := (100 : Int)) S33.pre  g39 fun m7 e42 => ?_
    obtain ⟨S40, k41⟩ := S33.call e42 τ29
    have L43 := L36.k k41 (by decide)
    refine ⟨_, rfl, ?_⟩
    rw [ifB_iff]
    refine ⟨fun q44 => ?_, fun q44 => ?_⟩
    · skip
      rw [bif_neg (nb_f q44)] at hp
      obtain rfl := Option.some.inj hp
      exact hq _ S40.ext'
    · skip
      rw [if_pos (nb_t q44)] at hp
      refine ⟨trivial, _, L43.bk.rc rfl, ?_⟩
      obtain ⟨r45, g46, hp⟩ := bsome hp
      refine s_rRises (l := t.Weeks) (most := (120 : Int)) S40.pre ha103 g46 fun m11 e49 => ?_
      obtain ⟨S47, k48⟩ := S40.call e49 τ29
      have L50 := L43.k k48 (by decide)
      refine ⟨_, rfl, ?_⟩
      rw [ifB_iff]
      refine ⟨fun q51 => ?_, fun q51 => ?_⟩
      · skip
        rw [bif_neg (nb_f q51)] at hp
        obtain rfl := Option.some.inj hp
        exact hq _ S47.ext'
      · skip
        rw [if_pos (nb_t q51)] at hp
        refine ⟨trivial, _, L50.bk.rc rfl, ?_⟩
        obtain ⟨r52, g53, hp⟩ := bsome hp
        refine s_rRises (l := t.Counts) (most := (100 : Int)) S47.pre ha104 g53 fun m15 e56 => ?_
        obtain ⟨S54, k55⟩ := S47.call e56 τ29
        have L57 := L50.k k55 (by decide)
        refine ⟨_, rfl, ?_⟩
        rw [ifB_iff]
        refine ⟨fun q58 => ?_, fun q58 => ?_⟩
        · skip
          rw [bif_neg (nb_f q58)] at hp
          obtain rfl := Option.some.inj hp
          exact hq _ S54.ext'
        · skip
          rw [if_pos (nb_t q58)] at hp
          refine ⟨trivial, _, L57.bk.rc rfl, trivial, _, L57.bk.rc rfl, ha104.isSl, ?_⟩
          obtain ⟨g59, hp⟩ := gd_some hp
          refine ⟨(by first | exact g59 | (rw [ha104.slLen]; exact g59)), ?_⟩
          obtain ⟨x60, g61, hp⟩ := bsome hp
          obtain ⟨n19, g61i, g61l, g61⟩ := idx_some g61
          refine ⟨n19, (by first | exact g61i | (rw [ha104.slLen]; exact g61i)), (by first | exact g61l | (rw [ha104.slLen]; exact g61l)), _, (ha104.rdI g61 S54.sub), ?_⟩
          rw [ifB_ndec]
          refine ⟨fun q62 => ?_, fun q62 => ?_⟩
          · skip
            rw [if_neg q62] at hp
            obtain rfl := Option.some.inj hp
            exact hq _ S54.ext'
          · skip
            rw [if_pos q62] at hp
            refine ⟨trivial, _, L57.bk.rc rfl, ha105.isSl, ?_⟩
            try rw [ha105.slLen]
            rw [ifB_dec]
            refine ⟨fun q63 => ?_, fun q63 => ?_⟩
            · skip
              rw [if_pos q63] at hp
              obtain rfl := Option.some.inj hp
              exact hq _ S54.ext'
            · skip
              rw [if_neg q63] at hp
              intro R22 hR22
              have hgo : ∀ (d66 : Nat) (b23 : Bool) (b24 : Bool) (b25 : Bool) (x26 : Int) (m27 : M) (τ65 : Nat → Nat), St (Fm.of m) f f m27 → Lb (Fm.of m) f τ65 m27 1 m.nxt 6 [(.int .i64 t.From), (.bool t.Whole), (.int .i64 t.Least), ca103, ca104, ca105] → prIsTariff_L0 t d66 b23 x26 = some rz → R22 [.c (.bool b23), .c (.bool b24), .c (.bool b25), .c (.int .i64 x26)] m27 := by
                intro d66
                induction d66 with
                | zero => intro b23 b24 b25 x26 m27 τ65 S64 L57 hp; cases hp
                | succ d66 ihR22 =>
                  intro b23 b24 b25 x26 m27 τ65 S64 L57 hp
                  refine hR22 _ _ _ _ _ ?_
                  rw [prIsTariff_L0] at hp
                  refine ⟨trivial, _, L57.bk.rc rfl, ha105.isSl, ?_⟩
                  try rw [ha105.slLen]
                  rw [ifB_dec]
                  refine ⟨fun q67 => ?_, fun q67 => ?_⟩
                  · skip
                    rw [if_pos q67] at hp
                    refine ⟨trivial, _, L57.bk.rc rfl, ?_⟩
                    obtain ⟨v68, g69, hp⟩ := bsome hp
                    obtain ⟨n30, g69i, g69l, g69⟩ := idx_some g69
                    obtain ⟨c70, r71, h72⟩ := ha105.rdS g69
                    refine ⟨n30, g69i, (by first | exact g69l | (rw [ha105.slLen]; exact g69l)), _, (r71 _ S64.sub), h72.isSl, trivial, _, L57.bk.rc rfl, ha103.isSl, ?_⟩
                    try rw [h72.slLen]
                    try rw [ha103.slLen]
                    rw [ifB_ndec]
                    refine ⟨fun q73 => ?_, fun q73 => ?_⟩
                    · skip
                      rw [if_neg q73] at hp
                      obtain rfl := Option.some.inj hp
                      exact hq _ S64.ext'
                    · skip
                      rw [if_pos q73] at hp
                      intro R33 hR33
                      have hgo : ∀ (d76 : Nat) (b34 : Bool) (b35 : Bool) (x36 : Int) (m37 : M) (τ75 : Nat → Nat), St (Fm.of m) f f m37 → Lb (Fm.of m) f τ75 m37 1 m.nxt 6 [(.int .i64 t.From), (.bool t.Whole), (.int .i64 t.Least), ca103, ca104, ca105] → prIsTariff_L1 t x26 (prIsTariff_L0 t d66) d76 b34 x36 = some rz → R33 [.c (.bool b34), .c (.bool b35), .c (.int .i64 x36)] m37 := by
                        intro d76
                        induction d76 with
                        | zero => intro b34 b35 x36 m37 τ75 S74 L57 hp; cases hp
                        | succ d76 ihR33 =>
                          intro b34 b35 x36 m37 τ75 S74 L57 hp
                          refine hR33 _ _ _ _ ?_
                          rw [prIsTariff_L1] at hp
                          refine ⟨trivial, _, L57.bk.rc rfl, ha103.isSl, ?_⟩
                          try rw [ha103.slLen]
                          rw [ifB_dec]
                          refine ⟨fun q77 => ?_, fun q77 => ?_⟩
                          · skip
                            rw [if_pos q77] at hp
                            refine ⟨trivial, _, L57.bk.rc rfl, ?_⟩
                            obtain ⟨v78, g79, hp⟩ := bsome hp
                            obtain ⟨n40, g79i, g79l, g79⟩ := idx_some g79
                            obtain ⟨c80, r81, h82⟩ := ha105.rdS g79
                            refine ⟨n40, g79i, (by first | exact g79l | (rw [ha105.slLen]; exact g79l)), _, (r81 _ S74.sub), ?_⟩
                            obtain ⟨v83, g84, hp⟩ := bsome hp
                            obtain ⟨n42, g84i, g84l, g84⟩ := idx_some g84
                            obtain ⟨c85, r86, h87⟩ := h82.rdS g84
                            refine ⟨n42, g84i, (by first | exact g84l | (rw [h82.slLen]; exact g84l)), _, (r86 _ S74.sub), h87.isSl, trivial, _, L57.bk.rc rfl, ha104.isSl, ?_⟩
                            try rw [h87.slLen]
                            try rw [ha104.slLen]
                            rw [ifB_ndec]
                            refine ⟨fun q88 => ?_, fun q88 => ?_⟩
                            · skip
                              rw [if_neg q88] at hp
                              obtain rfl := Option.some.inj hp
                              exact hq _ S74.ext'
                            · skip
                              rw [if_pos q88] at hp
                              intro R45 hR45
                              have hgo : ∀ (d91 : Nat) (b46 : Bool) (x47 : Int) (m48 : M) (τ90 : Nat → Nat), St (Fm.of m) f f m48 → Lb (Fm.of m) f τ90 m48 1 m.nxt 6 [(.int .i64 t.From), (.bool t.Whole), (.int .i64 t.Least), ca103, ca104, ca105] → prIsTariff_L2 t x26 x36 (prIsTariff_L1 t x26 (prIsTariff_L0 t d66) d76) d91 b46 x47 = some rz → R45 [.c (.bool b46), .c (.int .i64 x47)] m48 := by
                                intro d91
                                induction d91 with
                                | zero => intro b46 x47 m48 τ90 S89 L57 hp; cases hp
                                | succ d91 ihR45 =>
                                  intro b46 x47 m48 τ90 S89 L57 hp
                                  refine hR45 _ _ _ ?_
                                  rw [prIsTariff_L2] at hp
                                  refine ⟨trivial, _, L57.bk.rc rfl, ha104.isSl, ?_⟩
                                  try rw [ha104.slLen]
                                  rw [ifB_dec]
                                  refine ⟨fun q92 => ?_, fun q92 => ?_⟩
                                  · skip
                                    rw [if_pos q92] at hp
                                    refine ⟨trivial, _, L57.bk.rc rfl, ?_⟩
                                    obtain ⟨v93, g94, hp⟩ := bsome hp
                                    obtain ⟨n51, g94i, g94l, g94⟩ := idx_some g94
                                    obtain ⟨c95, r96, h97⟩ := ha105.rdS g94
                                    refine ⟨n51, g94i, (by first | exact g94l | (rw [ha105.slLen]; exact g94l)), _, (r96 _ S89.sub), ?_⟩
                                    obtain ⟨v98, g99, hp⟩ := bsome hp
                                    obtain ⟨n53, g99i, g99l, g99⟩ := idx_some g99
                                    obtain ⟨c100, r101, h102⟩ := h97.rdS g99
                                    refine ⟨n53, g99i, (by first | exact g99l | (rw [h97.slLen]; exact g99l)), _, (r101 _ S89.sub), ?_⟩
                                    obtain ⟨x103, g104, hp⟩ := bsome hp
                                    obtain ⟨n55, g104i, g104l, g104⟩ := idx_some g104
                                    refine ⟨n55, g104i, (by first | exact g104l | (rw [h102.slLen]; exact g104l)), _, (h102.rdI g104 S89.sub), ?_⟩
                                    obtain ⟨r105, g106, hp⟩ := bsome hp
                                    refine s_rIn (n := x103) (low := (0 : Int)) (high := (100 : Int)) S89.pre  g106 fun m58 e109 => ?_
                                    obtain ⟨S107, k108⟩ := S89.call e109 τ90
                                    have L110 := L57.k k108 (by decide)
                                    refine ⟨_, rfl, ?_⟩
                                    rw [ifB_iff]
                                    refine ⟨fun q111 => ?_, fun q111 => ?_⟩
                                    · skip
                                      rw [bif_neg (nb_f q111)] at hp
                                      obtain rfl := Option.some.inj hp
                                      exact hq _ S107.ext'
                                    · skip
                                      rw [if_pos (nb_t q111)] at hp
                                      obtain ⟨g112, hp⟩ := gd_some hp
                                      refine ⟨g112, ?_⟩
                                      exact ihR45 _ _ _ τ90 S107 L110 hp
                                  · skip
                                    rw [if_neg q92] at hp
                                    obtain ⟨g113, hp⟩ := gd_some hp
                                    refine ⟨g113, ?_⟩
                                    exact ihR33 _ _ _ _ τ90 S89 L57 hp
                              exact hgo _ _ _ _ τ75 S74 L57 hp
                          · skip
                            rw [if_neg q77] at hp
                            obtain ⟨g114, hp⟩ := gd_some hp
                            refine ⟨g114, ?_⟩
                            exact ihR22 _ _ _ _ _ τ75 S74 L57 hp
                      exact hgo _ _ _ _ _ τ65 S64 L57 hp
                  · skip
                    rw [if_neg q67] at hp
                    obtain rfl := Option.some.inj hp
                    exact hq _ S64.ext'
              exact hgo _ _ _ _ _ _ τ29 S54 L57 hp
theorem s_rFault {l : List Tf} {ca100 : C} {m f : M} {Q : V → M → Prop} {rz : Int} (hS : Pre f m) (ha100 : Sl f ca100 l) (hp : prFault l = some rz) (hq : ∀ m', Ext m m' → Q (.c (.int .i64 rz)) m') : Wc prog tbl 59 [.c ca100] m Q := by
  have S0 := hS.st
  obtain ⟨τ0, _⟩ : ∃ τ : Nat → Nat, True := ⟨fun _ => 0, trivial⟩
  refine w59 ?_
  unfold prFault at hp
  refine ⟨ha100.isSl, ?_⟩
  try rw [ha100.slLen]
  rw [ifB_dec]
  refine ⟨fun q115 => ?_, fun q115 => ?_⟩
  · skip
    rw [if_pos q115] at hp
    obtain rfl := Option.some.inj hp
    exact hq _ S0.ext'
  · skip
    rw [if_neg q115] at hp
    intro R0 hR0
    have hgo : ∀ (d118 : Nat) (x1 : Int) (x2 : Int) (m3 : M) (τ117 : Nat → Nat), St (Fm.of m) f f m3 → prFault_L0 l d118 x1 x2 = some rz → R0 [.c (.int .i64 x1), .c (.int .i64 x2)] m3 := by
      intro d118
      induction d118 with
      | zero => intro x1 x2 m3 τ117 S116 hp; cases hp
      | succ d118 ihR0 =>
        intro x1 x2 m3 τ117 S116 hp
        refine hR0 _ _ _ ?_
        rw [prFault_L0] at hp
        refine ⟨ha100.isSl, ?_⟩
        try rw [ha100.slLen]
        rw [ifB_dec]
        refine ⟨fun q119 => ?_, fun q119 => ?_⟩
        · skip
          rw [if_pos q119] at hp
          obtain ⟨v120, g121, hp⟩ := bsome hp
          obtain ⟨n4, g121i, g121l, g121⟩ := idx_some g121
          obtain ⟨c122, c124, c126, r128, h123, h125, h127⟩ := rd_Tf ha100 g121
          refine ⟨n4, g121i, (by first | exact g121l | (rw [ha100.slLen]; exact g121l)), (ha100.isPt g121 _), _, ((r128 _ S116.sub).2.1 3 _ rfl), h123.isSl, ?_⟩
          try rw [h123.slLen]
          rw [ifB_dec]
          refine ⟨fun q129 => ?_, fun q129 => ?_⟩
          · skip
            rw [if_pos q129] at hp
            obtain rfl := Option.some.inj hp
            exact hq _ S116.ext'
          · skip
            rw [if_neg q129] at hp
            obtain ⟨v130, g131, hp⟩ := bsome hp
            obtain ⟨n6, g131i, g131l, g131⟩ := idx_some g131
            obtain ⟨c132, c134, c136, r138, h133, h135, h137⟩ := rd_Tf ha100 g131
            refine ⟨n6, g131i, (by first | exact g131l | (rw [ha100.slLen]; exact g131l)), (ha100.isPt g131 _), _, ((r138 _ S116.sub).2.1 4 _ rfl), h135.isSl, ?_⟩
            try rw [h135.slLen]
            rw [ifB_dec]
            refine ⟨fun q139 => ?_, fun q139 => ?_⟩
            · skip
              rw [if_pos q139] at hp
              obtain rfl := Option.some.inj hp
              exact hq _ S116.ext'
            · skip
              rw [if_neg q139] at hp
              obtain ⟨v140, g141, hp⟩ := bsome hp
              obtain ⟨n8, g141i, g141l, g141⟩ := idx_some g141
              obtain ⟨c142, c144, c146, r148, h143, h145, h147⟩ := rd_Tf ha100 g141
              refine ⟨n8, g141i, (by first | exact g141l | (rw [ha100.slLen]; exact g141l)), (ha100.isPt g141 _), _, ((r148 _ S116.sub).2.1 5 _ rfl), h147.isSl, ?_⟩
              try rw [h147.slLen]
              rw [ifB_dec]
              refine ⟨fun q149 => ?_, fun q149 => ?_⟩
              · skip
                rw [if_pos q149] at hp
                obtain rfl := Option.some.inj hp
                exact hq _ S116.ext'
              · skip
                rw [if_neg q149] at hp
                obtain ⟨g150, hp⟩ := gd_some hp
                refine ⟨g150, ?_⟩
                exact ihR0 _ _ _ τ117 S116 hp
        · skip
          rw [if_neg q119] at hp
          intro R10 hR10
          have hgo : ∀ (d153 : Nat) (x11 : Int) (x12 : Int) (m13 : M) (τ152 : Nat → Nat), St (Fm.of m) f f m13 → prFault_L1 l d153 x12 = some rz → R10 [.c (.int .i64 x11), .c (.int .i64 x12)] m13 := by
            intro d153
            induction d153 with
            | zero => intro x11 x12 m13 τ152 S151 hp; cases hp
            | succ d153 ihR10 =>
              intro x11 x12 m13 τ152 S151 hp
              refine hR10 _ _ _ ?_
              rw [prFault_L1] at hp
              refine ⟨ha100.isSl, ?_⟩
              try rw [ha100.slLen]
              rw [ifB_dec]
              refine ⟨fun q154 => ?_, fun q154 => ?_⟩
              · skip
                rw [if_pos q154] at hp
                obtain ⟨v155, g156, hp⟩ := bsome hp
                obtain ⟨n14, g156i, g156l, g156⟩ := idx_some g156
                obtain ⟨c157, c159, c161, r163, h158, h160, h162⟩ := rd_Tf ha100 g156
                refine ⟨n14, g156i, (by first | exact g156l | (rw [ha100.slLen]; exact g156l)), _, _, _, _, _, _, (r163 _ S151.sub).1, ?_⟩
                obtain ⟨r164, g165, hp⟩ := bsome hp
                refine s_rIsTariff (t := v155) S151.pre h158 h160 h162 g165 fun m22 e168 => ?_
                obtain ⟨S166, k167⟩ := S151.call e168 τ152
                refine ⟨_, rfl, ?_⟩
                rw [ifB_iff]
                refine ⟨fun q169 => ?_, fun q169 => ?_⟩
                · skip
                  rw [bif_neg (nb_f q169)] at hp
                  obtain rfl := Option.some.inj hp
                  exact hq _ S166.ext'
                · skip
                  rw [if_pos (nb_t q169)] at hp
                  obtain ⟨v170, g171, hp⟩ := bsome hp
                  obtain ⟨n24, g171i, g171l, g171⟩ := idx_some g171
                  obtain ⟨c172, c174, c176, r178, h173, h175, h177⟩ := rd_Tf ha100 g171
                  refine ⟨n24, g171i, (by first | exact g171l | (rw [ha100.slLen]; exact g171l)), (ha100.isPt g171 _), _, ((r178 _ S166.sub).2.1 5 _ rfl), h177.isSl, ?_⟩
                  obtain ⟨v179, g180, hp⟩ := bsome hp
                  obtain ⟨n26, g180i, g180l, g180⟩ := idx_some g180
                  obtain ⟨c181, c183, c185, r187, h182, h184, h186⟩ := rd_Tf ha100 g180
                  refine ⟨n26, g180i, (by first | exact g180l | (rw [ha100.slLen]; exact g180l)), (ha100.isPt g180 _), _, ((r187 _ S166.sub).2.1 5 _ rfl), h186.isSl, ?_⟩
                  try rw [h177.slLen]
                  try rw [h186.slLen]
                  rw [ifB_ndec]
                  refine ⟨fun q188 => ?_, fun q188 => ?_⟩
                  · skip
                    rw [if_neg q188] at hp
                    obtain rfl := Option.some.inj hp
                    exact hq _ S166.ext'
                  · skip
                    rw [if_pos q188] at hp
                    rw [ifB_dec]
                    refine ⟨fun q189 => ?_, fun q189 => ?_⟩
                    · skip
                      rw [if_pos q189] at hp
                      obtain ⟨v190, g191, hp⟩ := bsome hp
                      obtain ⟨n28, g191i, g191l, g191⟩ := idx_some g191
                      obtain ⟨c192, c194, c196, r198, h193, h195, h197⟩ := rd_Tf ha100 g191
                      refine ⟨n28, g191i, (by first | exact g191l | (rw [ha100.slLen]; exact g191l)), (ha100.isPt g191 _), _, ((r198 _ S166.sub).2.1 0 _ rfl), ?_⟩
                      rw [ifB_ndec]
                      refine ⟨fun q199 => ?_, fun q199 => ?_⟩
                      · skip
                        rw [if_neg q199] at hp
                        obtain rfl := Option.some.inj hp
                        exact hq _ S166.ext'
                      · skip
                        rw [if_pos q199] at hp
                        rw [ifB_dec]
                        refine ⟨fun q200 => ?_, fun q200 => ?_⟩
                        · skip
                          rw [if_pos q200] at hp
                          obtain ⟨v201, g202, hp⟩ := bsome hp
                          obtain ⟨n30, g202i, g202l, g202⟩ := idx_some g202
                          obtain ⟨c203, c205, c207, r209, h204, h206, h208⟩ := rd_Tf ha100 g202
                          refine ⟨n30, g202i, (by first | exact g202l | (rw [ha100.slLen]; exact g202l)), (ha100.isPt g202 _), _, ((r209 _ S166.sub).2.1 0 _ rfl), ?_⟩
                          obtain ⟨g210, hp⟩ := gd_some hp
                          refine ⟨g210, ?_⟩
                          obtain ⟨v211, g212, hp⟩ := bsome hp
                          obtain ⟨n32, g212i, g212l, g212⟩ := idx_some g212
                          obtain ⟨c213, c215, c217, r219, h214, h216, h218⟩ := rd_Tf ha100 g212
                          refine ⟨n32, g212i, (by first | exact g212l | (rw [ha100.slLen]; exact g212l)), (ha100.isPt g212 _), _, ((r219 _ S166.sub).2.1 0 _ rfl), ?_⟩
                          rw [ifB_dec]
                          refine ⟨fun q220 => ?_, fun q220 => ?_⟩
                          · skip
                            rw [if_pos q220] at hp
                            obtain rfl := Option.some.inj hp
                            exact hq _ S166.ext'
                          · skip
                            rw [if_neg q220] at hp
                            obtain ⟨g221, hp⟩ := gd_some hp
                            refine ⟨g221, ?_⟩
                            exact ihR10 _ _ _ τ152 S166 hp
                        · skip
                          rw [if_neg q200] at hp
                          obtain ⟨g222, hp⟩ := gd_some hp
                          refine ⟨g222, ?_⟩
                          exact ihR10 _ _ _ τ152 S166 hp
                    · skip
                      rw [if_neg q189] at hp
                      rw [ifB_dec]
                      refine ⟨fun q223 => ?_, fun q223 => ?_⟩
                      · skip
                        rw [if_pos q223] at hp
                        obtain ⟨v224, g225, hp⟩ := bsome hp
                        obtain ⟨n34, g225i, g225l, g225⟩ := idx_some g225
                        obtain ⟨c226, c228, c230, r232, h227, h229, h231⟩ := rd_Tf ha100 g225
                        refine ⟨n34, g225i, (by first | exact g225l | (rw [ha100.slLen]; exact g225l)), (ha100.isPt g225 _), _, ((r232 _ S166.sub).2.1 0 _ rfl), ?_⟩
                        obtain ⟨g233, hp⟩ := gd_some hp
                        refine ⟨g233, ?_⟩
                        obtain ⟨v234, g235, hp⟩ := bsome hp
                        obtain ⟨n36, g235i, g235l, g235⟩ := idx_some g235
                        obtain ⟨c236, c238, c240, r242, h237, h239, h241⟩ := rd_Tf ha100 g235
                        refine ⟨n36, g235i, (by first | exact g235l | (rw [ha100.slLen]; exact g235l)), (ha100.isPt g235 _), _, ((r242 _ S166.sub).2.1 0 _ rfl), ?_⟩
                        rw [ifB_dec]
                        refine ⟨fun q243 => ?_, fun q243 => ?_⟩
                        · skip
                          rw [if_pos q243] at hp
                          obtain rfl := Option.some.inj hp
                          exact hq _ S166.ext'
                        · skip
                          rw [if_neg q243] at hp
                          obtain ⟨g244, hp⟩ := gd_some hp
                          refine ⟨g244, ?_⟩
                          exact ihR10 _ _ _ τ152 S166 hp
                      · skip
                        rw [if_neg q223] at hp
                        obtain ⟨g245, hp⟩ := gd_some hp
                        refine ⟨g245, ?_⟩
                        exact ihR10 _ _ _ τ152 S166 hp
              · skip
                rw [if_neg q154] at hp
                refine ⟨ha100.isSl, ?_⟩
                try rw [ha100.slLen]
                rw [ifB_dec]
                refine ⟨fun q246 => ?_, fun q246 => ?_⟩
                · skip
                  rw [if_pos q246] at hp
                  obtain rfl := Option.some.inj hp
                  exact hq _ S151.ext'
                · skip
                  rw [if_neg q246] at hp
                  obtain rfl := Option.some.inj hp
                  exact hq _ S151.ext'
          exact hgo _ _ _ _ τ117 S116 hp
    exact hgo _ _ _ _ τ0 S0 hp
theorem s_rCrops {l : List Tf} {ca100 : C} {m f : M} {Q : V → M → Prop} {rz : Int} (hS : Pre f m) (ha100 : Sl f ca100 l) (hp : prCrops l = some rz) (hq : ∀ m', Ext m m' → Q (.c (.int .i64 rz)) m') : Wc prog tbl 23 [.c ca100] m Q := by
  have S0 := hS.st
  obtain ⟨τ0, _⟩ : ∃ τ : Nat → Nat, True := ⟨fun _ => 0, trivial⟩
  refine w23 ?_
  unfold prCrops at hp
  obtain ⟨v399, g400, hp⟩ := bsome hp
  obtain ⟨n0, g400i, g400l, g400⟩ := idx_some g400
  obtain ⟨c401, c403, c405, r407, h402, h404, h406⟩ := rd_Tf ha100 g400
  refine ⟨n0, g400i, (by first | exact g400l | (rw [ha100.slLen]; exact g400l)), (ha100.isPt g400 _), _, ((r407 _ S0.sub).2.1 5 _ rfl), h406.isSl, ?_⟩
  try rw [h406.slLen]
  obtain rfl := Option.some.inj hp
  exact hq _ S0.ext'
theorem s_rIsClaim {l : List Tf} {c : Clm} {ca100 : C} {m f : M} {Q : V → M → Prop} {rz : Bool} (hS : Pre f m) (ha100 : Sl f ca100 l) (hp : prIsClaim l c = some rz) (hq : ∀ m', Ext m m' → Q (.c (.bool rz)) m') : Wc prog tbl 66 [.c ca100, .agg 6 [(.int .i64 c.Crop), (.int .i64 c.Value), (.int .i64 c.Day.Lo), (.int .i64 c.Day.Hi), (.int .i64 c.Count.Lo), (.int .i64 c.Count.Hi)]] m Q := by
  have S0 := hS.st
  obtain ⟨τ0, _⟩ : ∃ τ : Nat → Nat, True := ⟨fun _ => 0, trivial⟩
  refine w66 ?_
  unfold prIsClaim at hp
  intro m0 e408
  obtain ⟨τ411, S409, k410, L412⟩ := S0.blk e408 τ0 1
  refine ⟨trivial, _, L412.bk.rc rfl, ?_⟩
  obtain ⟨r413, g414, hp⟩ := bsome hp
  refine s_rCrops (l := l) S409.pre ha100 g414 fun m3 e417 => ?_
  obtain ⟨S415, k416⟩ := S409.call e417 τ411
  have L418 := L412.k k416 (by decide)
  refine ⟨_, rfl, (L418.bk.rc rfl), ?_⟩
  obtain ⟨g419, hp⟩ := gd_some hp
  refine ⟨g419, ?_⟩
  obtain ⟨r420, g421, hp⟩ := bsome hp
  refine s_rIn (n := c.Crop) (low := (0 : Int)) (high := (r413 - (1 : Int))) S415.pre  g421 fun m6 e424 => ?_
  obtain ⟨S422, k423⟩ := S415.call e424 τ411
  have L425 := L418.k k423 (by decide)
  refine ⟨_, rfl, ?_⟩
  rw [ifB_iff]
  refine ⟨fun q426 => ?_, fun q426 => ?_⟩
  · skip
    rw [if_pos q426] at hp
    refine ⟨trivial, _, L425.bk.rc rfl, ?_⟩
    obtain ⟨r427, g428, hp⟩ := bsome hp
    refine s_rIn (n := c.Value) (low := (0 : Int)) (high := (100000 : Int)) S422.pre  g428 fun m10 e431 => ?_
    obtain ⟨S429, k430⟩ := S422.call e431 τ411
    have L432 := L425.k k430 (by decide)
    refine ⟨_, rfl, ?_⟩
    rw [ifB_iff]
    refine ⟨fun q433 => ?_, fun q433 => ?_⟩
    · skip
      rw [if_pos q433] at hp
      refine ⟨trivial, trivial, _, L432.bk.rc rfl, ?_⟩
      rw [ifB_dec]
      refine ⟨fun q434 => ?_, fun q434 => ?_⟩
      · skip
        rw [if_pos q434] at hp
        refine ⟨trivial, trivial, _, L432.bk.rc rfl, trivial, trivial, _, L432.bk.rc rfl, ?_⟩
        rw [ifB_dec]
        refine ⟨fun q435 => ?_, fun q435 => ?_⟩
        · skip
          rw [if_pos q435] at hp
          refine ⟨trivial, trivial, _, L432.bk.rc rfl, ?_⟩
          rw [ifB_dec]
          refine ⟨fun q436 => ?_, fun q436 => ?_⟩
          · skip
            rw [if_pos q436] at hp
            refine ⟨trivial, trivial, _, L432.bk.rc rfl, trivial, trivial, _, L432.bk.rc rfl, ?_⟩
            obtain ⟨g437, hp⟩ := gd_some hp
            refine ⟨g437, ?_⟩
            rw [ifB_dec]
            refine ⟨fun q438 => ?_, fun q438 => ?_⟩
            · skip
              rw [if_pos q438] at hp
              refine ⟨trivial, trivial, _, L432.bk.rc rfl, ?_⟩
              rw [ifB_dec]
              refine ⟨fun q439 => ?_, fun q439 => ?_⟩
              · skip
                rw [if_pos q439] at hp
                refine ⟨trivial, trivial, _, L432.bk.rc rfl, trivial, trivial, _, L432.bk.rc rfl, ?_⟩
                rw [ifB_dec]
                refine ⟨fun q440 => ?_, fun q440 => ?_⟩
                · skip
                  rw [if_pos q440] at hp
                  refine ⟨trivial, trivial, _, L432.bk.rc rfl, ?_⟩
                  obtain rfl := Option.some.inj hp
                  exact hq _ S429.ext'
                · skip
                  rw [if_neg q440] at hp
                  obtain rfl := Option.some.inj hp
                  exact hq _ S429.ext'
              · skip
                rw [if_neg q439] at hp
                obtain rfl := Option.some.inj hp
                exact hq _ S429.ext'
            · skip
              rw [if_neg q438] at hp
              obtain rfl := Option.some.inj hp
              exact hq _ S429.ext'
          · skip
            rw [if_neg q436] at hp
            obtain rfl := Option.some.inj hp
            exact hq _ S429.ext'
        · skip
          rw [if_neg q435] at hp
          obtain rfl := Option.some.inj hp
          exact hq _ S429.ext'
      · skip
        rw [if_neg q434] at hp
        obtain rfl := Option.some.inj hp
        exact hq _ S429.ext'
    · skip
      rw [bif_neg q433] at hp
      obtain rfl := Option.some.inj hp
      exact hq _ S429.ext'
  · skip
    rw [bif_neg q426] at hp
    obtain rfl := Option.some.inj hp
    exact hq _ S422.ext'
theorem s_lTo {r : Rg} {m f : M} {Q : V → M → Prop} {rz : Rg} (hS : Pre f m)  (hp : plTo r = some rz) (hq : ∀ m', Ext m m' → Q (.agg 2 [(.int .i64 rz.Lo), (.int .i64 rz.Hi)]) m') : Wc prog tbl 36 [.agg 2 [(.int .i64 r.Lo), (.int .i64 r.Hi)]] m Q := by
  have S0 := hS.st
  obtain ⟨τ0, _⟩ : ∃ τ : Nat → Nat, True := ⟨fun _ => 0, trivial⟩
  refine w36 ?_
  unfold plTo at hp
  intro m0 e778
  obtain ⟨τ781, S779, k780, L782⟩ := S0.blk e778 τ0 1
  intro m1 e783
  obtain ⟨τ786, S784, k785, L787⟩ := S779.blk e783 τ781 2
  have L788 := L782.k k785 (by decide)
  refine ⟨trivial, _, L788.bk.rc rfl, trivial, _, L788.bk.rc rfl, ?_⟩
  obtain ⟨m792, e791, S789, k790, L793⟩ := L787.sto S784 [(.int .i64 r.Lo), (.int .i64 r.Hi)]
  have L794 := L788.k k790 (by decide)
  refine ⟨m792, e791, ?_⟩
  refine ⟨_, _, L793.bk.ra, ?_⟩
  obtain rfl := Option.some.inj hp
  exact hq _ S789.ext'
theorem s_lClaim {c : Clm} {m f : M} {Q : V → M → Prop} {rz : Clm} (hS : Pre f m)  (hp : plClaim c = some rz) (hq : ∀ m', Ext m m' → Q (.agg 6 [(.int .i64 rz.Crop), (.int .i64 rz.Value), (.int .i64 rz.Day.Lo), (.int .i64 rz.Day.Hi), (.int .i64 rz.Count.Lo), (.int .i64 rz.Count.Hi)]) m') : Wc prog tbl 26 [.agg 6 [(.int .i64 c.Crop), (.int .i64 c.Value), (.int .i64 c.Day.Lo), (.int .i64 c.Day.Hi), (.int .i64 c.Count.Lo), (.int .i64 c.Count.Hi)]] m Q := by
  have S0 := hS.st
  obtain ⟨τ0, _⟩ : ∃ τ : Nat → Nat, True := ⟨fun _ => 0, trivial⟩
  refine w26 ?_
  unfold plClaim at hp
  intro m0 e795
  obtain ⟨τ798, S796, k797, L799⟩ := S0.blk e795 τ0 1
  intro m1 e800
  obtain ⟨τ803, S801, k802, L804⟩ := S796.blk e800 τ798 2
  have L805 := L799.k k802 (by decide)
  refine ⟨trivial, _, L805.bk.rc rfl, trivial, _, L805.bk.rc rfl, trivial, _, _, L805.bk.rp (k := 2) (j := 2) rfl (by omega), ?_⟩
  obtain ⟨r806, g807, hp⟩ := bsome hp
  refine s_lTo (r := c.Day) S801.pre  g807 fun m7 e810 => ?_
  obtain ⟨S808, k809⟩ := S801.call e810 τ803
  have L811 := L805.k k809 (by decide)
  have L812 := L804.k k809 (by decide)
  refine ⟨_, _, rfl, (L811.bk.rc rfl), (L811.bk.rc rfl), trivial, _, _, L811.bk.rp (k := 4) (j := 2) rfl (by omega), (L805.bk.rp (k := 4) (j := 2) rfl (by omega)), ?_⟩
  obtain ⟨r813, g814, hp⟩ := bsome hp
  refine s_lTo (r := c.Count) S808.pre  g814 fun m13 e817 => ?_
  obtain ⟨S815, k816⟩ := S808.call e817 τ803
  have L818 := L811.k k816 (by decide)
  have L819 := L812.k k816 (by decide)
  refine ⟨_, _, rfl, (L818.bk.rc rfl), (L818.bk.rc rfl), ?_⟩
  obtain ⟨m823, e822, S820, k821, L824⟩ := L819.sto S815 [(.int .i64 c.Crop), (.int .i64 c.Value), (.int .i64 r806.Lo), (.int .i64 r806.Hi), (.int .i64 r813.Lo), (.int .i64 r813.Hi)]
  have L825 := L818.k k821 (by decide)
  refine ⟨m823, e822, ?_⟩
  refine ⟨_, _, _, _, _, _, L824.bk.ra, ?_⟩
  obtain rfl := Option.some.inj hp
  exact hq _ S820.ext'
theorem s_lTruth {t : Tr} {m f : M} {Q : V → M → Prop} {rz : Tr} (hS : Pre f m)  (hp : plTruth t = some rz) (hq : ∀ m', Ext m m' → Q (.agg 2 [(.int .i64 rz.Day), (.int .i64 rz.Count)]) m') : Wc prog tbl 27 [.agg 2 [(.int .i64 t.Day), (.int .i64 t.Count)]] m Q := by
  have S0 := hS.st
  obtain ⟨τ0, _⟩ : ∃ τ : Nat → Nat, True := ⟨fun _ => 0, trivial⟩
  refine w27 ?_
  unfold plTruth at hp
  intro m0 e826
  obtain ⟨τ829, S827, k828, L830⟩ := S0.blk e826 τ0 1
  intro m1 e831
  obtain ⟨τ834, S832, k833, L835⟩ := S827.blk e831 τ829 2
  have L836 := L830.k k833 (by decide)
  refine ⟨trivial, _, L836.bk.rc rfl, trivial, _, L836.bk.rc rfl, ?_⟩
  obtain ⟨m840, e839, S837, k838, L841⟩ := L835.sto S832 [(.int .i64 t.Day), (.int .i64 t.Count)]
  have L842 := L836.k k838 (by decide)
  refine ⟨m840, e839, ?_⟩
  refine ⟨_, _, L841.bk.ra, ?_⟩
  obtain rfl := Option.some.inj hp
  exact hq _ S837.ext'
theorem s_lList {l : List Int} {ca100 : C} {m f : M} {Q : V → M → Prop} {rz : List Int} (hS : Pre f m) (ha100 : Sl f ca100 l) (hp : plList l = some rz) (hq : ∀ m' f' c0, Grw m f m' f' → Sl f' c0 rz → Q (.c c0) m') : Wc prog tbl 58 [.c ca100] m Q := by
  have S0 := hS.st
  obtain ⟨τ0, _⟩ : ∃ τ : Nat → Nat, True := ⟨fun _ => 0, trivial⟩
  refine w58 ?_
  unfold plList at hp
  intro m0 e843
  obtain ⟨τ846, S844, k845, o847⟩ := Ow.lit0 (α := Int) S0 τ0 1 e843
  obtain ⟨g855, hp⟩ := gd_some hp
  obtain ⟨c851, m852, τ850, a853, S848, k849, o854⟩ := o847.appL ta73 S844 ha100 g855
  refine ⟨c851, m852, a853, ?_⟩
  obtain ⟨f856, S857, k858, h859⟩ := o854.freeze S848
  obtain rfl := Option.some.inj hp
  exact hq _ f856 c851 S857.grw h859
theorem s_lThin {l : List Tf} {ca100 : C} {m f : M} {Q : V → M → Prop} {rz : Bool} (hS : Pre f m) (ha100 : Sl f ca100 l) (hp : plThin l = some rz) (hq : ∀ m', Ext m m' → Q (.c (.bool rz)) m') : Wc prog tbl 16 [.c ca100] m Q := by
  have S0 := hS.st
  obtain ⟨τ0, _⟩ : ∃ τ : Nat → Nat, True := ⟨fun _ => 0, trivial⟩
  refine w16 ?_
  unfold plThin at hp
  refine ⟨ha100.isSl, ?_⟩
  try rw [ha100.slLen]
  rw [ifB_dec]
  refine ⟨fun q888 => ?_, fun q888 => ?_⟩
  · skip
    rw [if_pos q888] at hp
    obtain rfl := Option.some.inj hp
    exact hq _ S0.ext'
  · skip
    rw [if_neg q888] at hp
    intro R0 hR0
    have hgo : ∀ (d891 : Nat) (b1 : Bool) (b2 : Bool) (b3 : Bool) (x4 : Int) (m5 : M) (τ890 : Nat → Nat), St (Fm.of m) f f m5 → plThin_L0 l d891 b1 x4 = some rz → R0 [.c (.bool b1), .c (.bool b2), .c (.bool b3), .c (.int .i64 x4)] m5 := by
      intro d891
      induction d891 with
      | zero => intro b1 b2 b3 x4 m5 τ890 S889 hp; cases hp
      | succ d891 ihR0 =>
        intro b1 b2 b3 x4 m5 τ890 S889 hp
        refine hR0 _ _ _ _ _ ?_
        rw [plThin_L0] at hp
        refine ⟨ha100.isSl, ?_⟩
        try rw [ha100.slLen]
        rw [ifB_dec]
        refine ⟨fun q892 => ?_, fun q892 => ?_⟩
        · skip
          rw [if_pos q892] at hp
          obtain ⟨v893, g894, hp⟩ := bsome hp
          obtain ⟨n6, g894i, g894l, g894⟩ := idx_some g894
          obtain ⟨c895, c897, c899, r901, h896, h898, h900⟩ := rd_Tf ha100 g894
          refine ⟨n6, g894i, (by first | exact g894l | (rw [ha100.slLen]; exact g894l)), (ha100.isPt g894 _), _, ((r901 _ S889.sub).2.1 3 _ rfl), h896.isSl, ?_⟩
          try rw [h896.slLen]
          rw [ifB_dec]
          refine ⟨fun q902 => ?_, fun q902 => ?_⟩
          · skip
            rw [if_pos q902] at hp
            obtain rfl := Option.some.inj hp
            exact hq _ S889.ext'
          · skip
            rw [if_neg q902] at hp
            obtain ⟨v903, g904, hp⟩ := bsome hp
            obtain ⟨n8, g904i, g904l, g904⟩ := idx_some g904
            obtain ⟨c905, c907, c909, r911, h906, h908, h910⟩ := rd_Tf ha100 g904
            refine ⟨n8, g904i, (by first | exact g904l | (rw [ha100.slLen]; exact g904l)), (ha100.isPt g904 _), _, ((r911 _ S889.sub).2.1 4 _ rfl), h908.isSl, ?_⟩
            try rw [h908.slLen]
            rw [ifB_dec]
            refine ⟨fun q912 => ?_, fun q912 => ?_⟩
            · skip
              rw [if_pos q912] at hp
              obtain rfl := Option.some.inj hp
              exact hq _ S889.ext'
            · skip
              rw [if_neg q912] at hp
              obtain ⟨v913, g914, hp⟩ := bsome hp
              obtain ⟨n10, g914i, g914l, g914⟩ := idx_some g914
              obtain ⟨c915, c917, c919, r921, h916, h918, h920⟩ := rd_Tf ha100 g914
              refine ⟨n10, g914i, (by first | exact g914l | (rw [ha100.slLen]; exact g914l)), (ha100.isPt g914 _), _, ((r921 _ S889.sub).2.1 5 _ rfl), h920.isSl, ?_⟩
              try rw [h920.slLen]
              rw [ifB_dec]
              refine ⟨fun q922 => ?_, fun q922 => ?_⟩
              · skip
                rw [if_pos q922] at hp
                obtain rfl := Option.some.inj hp
                exact hq _ S889.ext'
              · skip
                rw [if_neg q922] at hp
                intro R12 hR12
                have hgo : ∀ (d925 : Nat) (b13 : Bool) (b14 : Bool) (x15 : Int) (m16 : M) (τ924 : Nat → Nat), St (Fm.of m) f f m16 → plThin_L1 l x4 (plThin_L0 l d891) d925 b13 x15 = some rz → R12 [.c (.bool b13), .c (.bool b14), .c (.int .i64 x15)] m16 := by
                  intro d925
                  induction d925 with
                  | zero => intro b13 b14 x15 m16 τ924 S923 hp; cases hp
                  | succ d925 ihR12 =>
                    intro b13 b14 x15 m16 τ924 S923 hp
                    refine hR12 _ _ _ _ ?_
                    rw [plThin_L1] at hp
                    obtain ⟨v926, g927, hp⟩ := bsome hp
                    obtain ⟨n17, g927i, g927l, g927⟩ := idx_some g927
                    obtain ⟨c928, c930, c932, r934, h929, h931, h933⟩ := rd_Tf ha100 g927
                    refine ⟨n17, g927i, (by first | exact g927l | (rw [ha100.slLen]; exact g927l)), (ha100.isPt g927 _), _, ((r934 _ S923.sub).2.1 5 _ rfl), h933.isSl, ?_⟩
                    try rw [h933.slLen]
                    rw [ifB_dec]
                    refine ⟨fun q935 => ?_, fun q935 => ?_⟩
                    · skip
                      rw [if_pos q935] at hp
                      obtain ⟨v936, g937, hp⟩ := bsome hp
                      obtain ⟨n19, g937i, g937l, g937⟩ := idx_some g937
                      obtain ⟨c938, c940, c942, r944, h939, h941, h943⟩ := rd_Tf ha100 g937
                      refine ⟨n19, g937i, (by first | exact g937l | (rw [ha100.slLen]; exact g937l)), (ha100.isPt g937 _), _, ((r944 _ S923.sub).2.1 5 _ rfl), ?_⟩
                      obtain ⟨v945, g946, hp⟩ := bsome hp
                      obtain ⟨n21, g946i, g946l, g946⟩ := idx_some g946
                      obtain ⟨c947, r948, h949⟩ := h943.rdS g946
                      refine ⟨n21, g946i, (by first | exact g946l | (rw [h943.slLen]; exact g946l)), _, (r948 _ S923.sub), h949.isSl, ?_⟩
                      try rw [h949.slLen]
                      rw [ifB_dec]
                      refine ⟨fun q950 => ?_, fun q950 => ?_⟩
                      · skip
                        rw [if_pos q950] at hp
                        obtain rfl := Option.some.inj hp
                        exact hq _ S923.ext'
                      · skip
                        rw [if_neg q950] at hp
                        intro R23 hR23
                        have hgo : ∀ (d953 : Nat) (b24 : Bool) (x25 : Int) (m26 : M) (τ952 : Nat → Nat), St (Fm.of m) f f m26 → plThin_L2 l x4 x15 (plThin_L1 l x4 (plThin_L0 l d891) d925) d953 b24 x25 = some rz → R23 [.c (.bool b24), .c (.int .i64 x25)] m26 := by
                          intro d953
                          induction d953 with
                          | zero => intro b24 x25 m26 τ952 S951 hp; cases hp
                          | succ d953 ihR23 =>
                            intro b24 x25 m26 τ952 S951 hp
                            refine hR23 _ _ _ ?_
                            rw [plThin_L2] at hp
                            obtain ⟨v954, g955, hp⟩ := bsome hp
                            obtain ⟨n27, g955i, g955l, g955⟩ := idx_some g955
                            obtain ⟨c956, c958, c960, r962, h957, h959, h961⟩ := rd_Tf ha100 g955
                            refine ⟨n27, g955i, (by first | exact g955l | (rw [ha100.slLen]; exact g955l)), (ha100.isPt g955 _), _, ((r962 _ S951.sub).2.1 5 _ rfl), ?_⟩
                            obtain ⟨v963, g964, hp⟩ := bsome hp
                            obtain ⟨n29, g964i, g964l, g964⟩ := idx_some g964
                            obtain ⟨c965, r966, h967⟩ := h961.rdS g964
                            refine ⟨n29, g964i, (by first | exact g964l | (rw [h961.slLen]; exact g964l)), _, (r966 _ S951.sub), h967.isSl, ?_⟩
                            try rw [h967.slLen]
                            rw [ifB_dec]
                            refine ⟨fun q968 => ?_, fun q968 => ?_⟩
                            · skip
                              rw [if_pos q968] at hp
                              obtain ⟨v969, g970, hp⟩ := bsome hp
                              obtain ⟨n31, g970i, g970l, g970⟩ := idx_some g970
                              obtain ⟨c971, c973, c975, r977, h972, h974, h976⟩ := rd_Tf ha100 g970
                              refine ⟨n31, g970i, (by first | exact g970l | (rw [ha100.slLen]; exact g970l)), (ha100.isPt g970 _), _, ((r977 _ S951.sub).2.1 5 _ rfl), ?_⟩
                              obtain ⟨v978, g979, hp⟩ := bsome hp
                              obtain ⟨n33, g979i, g979l, g979⟩ := idx_some g979
                              obtain ⟨c980, r981, h982⟩ := h976.rdS g979
                              refine ⟨n33, g979i, (by first | exact g979l | (rw [h976.slLen]; exact g979l)), _, (r981 _ S951.sub), ?_⟩
                              obtain ⟨v983, g984, hp⟩ := bsome hp
                              obtain ⟨n35, g984i, g984l, g984⟩ := idx_some g984
                              obtain ⟨c985, r986, h987⟩ := h982.rdS g984
                              refine ⟨n35, g984i, (by first | exact g984l | (rw [h982.slLen]; exact g984l)), _, (r986 _ S951.sub), h987.isSl, ?_⟩
                              try rw [h987.slLen]
                              rw [ifB_dec]
                              refine ⟨fun q988 => ?_, fun q988 => ?_⟩
                              · skip
                                rw [if_pos q988] at hp
                                obtain rfl := Option.some.inj hp
                                exact hq _ S951.ext'
                              · skip
                                rw [if_neg q988] at hp
                                obtain ⟨g989, hp⟩ := gd_some hp
                                refine ⟨g989, ?_⟩
                                exact ihR23 _ _ _ τ952 S951 hp
                            · skip
                              rw [if_neg q968] at hp
                              obtain ⟨g990, hp⟩ := gd_some hp
                              refine ⟨g990, ?_⟩
                              exact ihR12 _ _ _ _ τ952 S951 hp
                        exact hgo _ _ _ _ τ924 S923 hp
                    · skip
                      rw [if_neg q935] at hp
                      obtain ⟨g991, hp⟩ := gd_some hp
                      refine ⟨g991, ?_⟩
                      exact ihR0 _ _ _ _ _ τ924 S923 hp
                exact hgo _ _ _ _ _ τ890 S889 hp
        · skip
          rw [if_neg q892] at hp
          obtain rfl := Option.some.inj hp
          exact hq _ S889.ext'
    exact hgo _ _ _ _ _ _ τ0 S0 hp
theorem s_lFault {l : List Tf} {ca100 : C} {m f : M} {Q : V → M → Prop} {rz : Int} (hS : Pre f m) (ha100 : Sl f ca100 l) (hp : plFault l = some rz) (hq : ∀ m', Ext m m' → Q (.c (.int .i64 rz)) m') : Wc prog tbl 20 [.c ca100] m Q := by
  have S0 := hS.st
  obtain ⟨τ0, _⟩ : ∃ τ : Nat → Nat, True := ⟨fun _ => 0, trivial⟩
  refine w20 ?_
  unfold plFault at hp
  obtain ⟨r992, g993, hp⟩ := bsome hp
  refine s_rFault (l := l) S0.pre ha100 g993 fun m1 e996 => ?_
  obtain ⟨S994, k995⟩ := S0.call e996 τ0
  refine ⟨_, rfl, ?_⟩
  obtain rfl := Option.some.inj hp
  exact hq _ S994.ext'
theorem s_lClaimed {l : List Tf} {c : Clm} {ca100 : C} {m f : M} {Q : V → M → Prop} {rz : Int} (hS : Pre f m) (ha100 : Sl f ca100 l) (hp : plClaimed l c = some rz) (hq : ∀ m', Ext m m' → Q (.c (.int .i64 rz)) m') : Wc prog tbl 29 [.c ca100, .agg 6 [(.int .i64 c.Crop), (.int .i64 c.Value), (.int .i64 c.Day.Lo), (.int .i64 c.Day.Hi), (.int .i64 c.Count.Lo), (.int .i64 c.Count.Hi)]] m Q := by
  have S0 := hS.st
  obtain ⟨τ0, _⟩ : ∃ τ : Nat → Nat, True := ⟨fun _ => 0, trivial⟩
  refine w29 ?_
  unfold plClaimed at hp
  intro m0 e997
  obtain ⟨τ1000, S998, k999, L1001⟩ := S0.blk e997 τ0 1
  obtain ⟨r1002, g1003, hp⟩ := bsome hp
  refine s_lFault (l := l) S998.pre ha100 g1003 fun m2 e1006 => ?_
  obtain ⟨S1004, k1005⟩ := S998.call e1006 τ1000
  have L1007 := L1001.k k1005 (by decide)
  refine ⟨_, rfl, ?_⟩
  rw [ifB_ndec]
  refine ⟨fun q1008 => ?_, fun q1008 => ?_⟩
  · skip
    rw [if_neg q1008] at hp
    obtain rfl := Option.some.inj hp
    exact hq _ S1004.ext'
  · skip
    rw [if_pos q1008] at hp
    refine ⟨_, _, _, _, _, _, L1007.bk.ra, ?_⟩
    obtain ⟨r1009, g1010, hp⟩ := bsome hp
    refine s_rIsClaim (l := l) (c := c) S1004.pre ha100 g1010 fun m11 e1013 => ?_
    obtain ⟨S1011, k1012⟩ := S1004.call e1013 τ1000
    have L1014 := L1007.k k1012 (by decide)
    refine ⟨_, rfl, ?_⟩
    rw [ifB_iff]
    refine ⟨fun q1015 => ?_, fun q1015 => ?_⟩
    · skip
      rw [bif_neg (nb_f q1015)] at hp
      obtain rfl := Option.some.inj hp
      exact hq _ S1011.ext'
    · skip
      rw [if_pos (nb_t q1015)] at hp
      obtain rfl := Option.some.inj hp
      exact hq _ S1011.ext'
theorem s_lFine {l : List Tf} {c : Clm} {ca100 : C} {m f : M} {Q : V → M → Prop} {rz : Bool} (hS : Pre f m) (ha100 : Sl f ca100 l) (hp : plFine l c = some rz) (hq : ∀ m', Ext m m' → Q (.c (.bool rz)) m') : Wc prog tbl 47 [.c ca100, .agg 6 [(.int .i64 c.Crop), (.int .i64 c.Value), (.int .i64 c.Day.Lo), (.int .i64 c.Day.Hi), (.int .i64 c.Count.Lo), (.int .i64 c.Count.Hi)]] m Q := by
  have S0 := hS.st
  obtain ⟨τ0, _⟩ : ∃ τ : Nat → Nat, True := ⟨fun _ => 0, trivial⟩
  refine w47 ?_
  unfold plFine at hp
  intro m0 e1027
  obtain ⟨τ1030, S1028, k1029, L1031⟩ := S0.blk e1027 τ0 1
  obtain ⟨r1032, g1033, hp⟩ := bsome hp
  refine s_lThin (l := l) S1028.pre ha100 g1033 fun m2 e1036 => ?_
  obtain ⟨S1034, k1035⟩ := S1028.call e1036 τ1030
  have L1037 := L1031.k k1035 (by decide)
  refine ⟨_, rfl, ?_⟩
  rw [ifB_iff]
  refine ⟨fun q1038 => ?_, fun q1038 => ?_⟩
  · skip
    rw [if_pos q1038] at hp
    refine ⟨_, _, _, _, _, _, L1037.bk.ra, ?_⟩
    obtain ⟨r1039, g1040, hp⟩ := bsome hp
    refine s_lClaimed (l := l) (c := c) S1034.pre ha100 g1040 fun m11 e1043 => ?_
    obtain ⟨S1041, k1042⟩ := S1034.call e1043 τ1030
    have L1044 := L1037.k k1042 (by decide)
    refine ⟨_, rfl, ?_⟩
    obtain rfl := Option.some.inj hp
    exact hq _ S1041.ext'
  · skip
    rw [bif_neg q1038] at hp
    obtain rfl := Option.some.inj hp
    exact hq _ S1034.ext'
theorem s_lBetween {low : Int} {high : Int} {m f : M} {Q : V → M → Prop} {rz : Rg} (hS : Pre f m)  (hp : plBetween low high = some rz) (hq : ∀ m', Ext m m' → Q (.agg 2 [(.int .i64 rz.Lo), (.int .i64 rz.Hi)]) m') : Wc prog tbl 46 [.c (.int .i64 low), .c (.int .i64 high)] m Q := by
  have S0 := hS.st
  obtain ⟨τ0, _⟩ : ∃ τ : Nat → Nat, True := ⟨fun _ => 0, trivial⟩
  refine w46 ?_
  unfold plBetween at hp
  intro m0 e1045
  obtain ⟨τ1048, S1046, k1047, L1049⟩ := S0.blk e1045 τ0 1
  obtain ⟨m1053, e1052, S1050, k1051, L1054⟩ := L1049.sto S1046 [(.int .i64 low), (.int .i64 high)]
  refine ⟨m1053, e1052, ?_⟩
  refine ⟨_, _, L1054.bk.ra, ?_⟩
  obtain rfl := Option.some.inj hp
  exact hq _ S1050.ext'
theorem s_lPicked {c : Clm} {day : Int} {count : Int} {m f : M} {Q : V → M → Prop} {rz : Tr} (hS : Pre f m)  (hp : plPicked c day count = some rz) (hq : ∀ m', Ext m m' → Q (.agg 2 [(.int .i64 rz.Day), (.int .i64 rz.Count)]) m') : Wc prog tbl 48 [.agg 6 [(.int .i64 c.Crop), (.int .i64 c.Value), (.int .i64 c.Day.Lo), (.int .i64 c.Day.Hi), (.int .i64 c.Count.Lo), (.int .i64 c.Count.Hi)], .c (.int .u8 day), .c (.int .u8 count)] m Q := by
  have S0 := hS.st
  obtain ⟨τ0, _⟩ : ∃ τ : Nat → Nat, True := ⟨fun _ => 0, trivial⟩
  refine w48 ?_
  unfold plPicked at hp
  intro m0 e1055
  obtain ⟨τ1058, S1056, k1057, L1059⟩ := S0.blk e1055 τ0 1
  intro m1 e1060
  obtain ⟨τ1063, S1061, k1062, L1064⟩ := S1056.blk e1060 τ1058 2
  have L1065 := L1059.k k1062 (by decide)
  refine ⟨trivial, trivial, _, L1065.bk.rc rfl, trivial, trivial, _, L1065.bk.rc rfl, trivial, trivial, _, L1065.bk.rc rfl, ?_⟩
  obtain ⟨g1066, hp⟩ := gd_some hp
  refine ⟨g1066, ?_⟩
  obtain ⟨g1067, hp⟩ := gd_some hp
  refine ⟨g1067, ?_⟩
  obtain ⟨g1068, hp⟩ := gd_some hp
  refine ⟨g1068, ?_⟩
  obtain ⟨g1069, hp⟩ := gd_some hp
  refine ⟨g1069, ?_⟩
  obtain ⟨g1070, hp⟩ := gd_some hp
  refine ⟨g1070, ?_⟩
  obtain ⟨g1071, hp⟩ := gd_some hp
  refine ⟨g1071, trivial, trivial, _, L1065.bk.rc rfl, trivial, trivial, _, L1065.bk.rc rfl, trivial, trivial, _, L1065.bk.rc rfl, ?_⟩
  obtain ⟨g1072, hp⟩ := gd_some hp
  refine ⟨g1072, ?_⟩
  obtain ⟨g1073, hp⟩ := gd_some hp
  refine ⟨g1073, ?_⟩
  obtain ⟨g1074, hp⟩ := gd_some hp
  refine ⟨g1074, ?_⟩
  obtain ⟨g1075, hp⟩ := gd_some hp
  refine ⟨g1075, ?_⟩
  obtain ⟨g1076, hp⟩ := gd_some hp
  refine ⟨g1076, ?_⟩
  obtain ⟨g1077, hp⟩ := gd_some hp
  refine ⟨g1077, ?_⟩
  obtain ⟨m1081, e1080, S1078, k1079, L1082⟩ := L1064.sto S1061 [(.int .i64 (c.Day.Lo + ((wrapZ .i64 day) % ((c.Day.Hi - c.Day.Lo) + (1 : Int))))), (.int .i64 (c.Count.Lo + ((wrapZ .i64 count) % ((c.Count.Hi - c.Count.Lo) + (1 : Int)))))]
  have L1083 := L1065.k k1079 (by decide)
  refine ⟨m1081, e1080, ?_⟩
  refine ⟨_, _, L1082.bk.ra, ?_⟩
  obtain rfl := Option.some.inj hp
  exact hq _ S1078.ext'
theorem s_has {r : Rg} {n : Int} {m f : M} {Q : V → M → Prop} {rz : Bool} (hS : Pre f m)  (hp : phas r n = some rz) (hq : ∀ m', Ext m m' → Q (.c (.bool rz)) m') : Wc prog tbl 78 [.agg 2 [(.int .i64 r.Lo), (.int .i64 r.Hi)], .c (.int .i64 n)] m Q := by
  have S0 := hS.st
  obtain ⟨τ0, _⟩ : ∃ τ : Nat → Nat, True := ⟨fun _ => 0, trivial⟩
  refine w78 ?_
  unfold phas at hp
  intro m0 e1084
  obtain ⟨τ1087, S1085, k1086, L1088⟩ := S0.blk e1084 τ0 1
  refine ⟨trivial, _, L1088.bk.rc rfl, ?_⟩
  rw [ifB_dec]
  refine ⟨fun q1089 => ?_, fun q1089 => ?_⟩
  · skip
    rw [if_pos q1089] at hp
    refine ⟨trivial, _, L1088.bk.rc rfl, ?_⟩
    obtain rfl := Option.some.inj hp
    exact hq _ S1085.ext'
  · skip
    rw [if_neg q1089] at hp
    obtain rfl := Option.some.inj hp
    exact hq _ S1085.ext'
theorem s_isIndex {n : Int} {size : Int} {m f : M} {Q : V → M → Prop} {rz : Bool} (hS : Pre f m)  (hp : pisIndex n size = some rz) (hq : ∀ m', Ext m m' → Q (.c (.bool rz)) m') : Wc prog tbl 77 [.c (.int .i64 n), .c (.int .i64 size)] m Q := by
  have S0 := hS.st
  obtain ⟨τ0, _⟩ : ∃ τ : Nat → Nat, True := ⟨fun _ => 0, trivial⟩
  refine w77 ?_
  unfold pisIndex at hp
  obtain ⟨g1090, hp⟩ := gd_some hp
  refine ⟨g1090, ?_⟩
  obtain ⟨r1091, g1092, hp⟩ := bsome hp
  refine s_has (r := ({ Lo := (0 : Int), Hi := (size - (1 : Int)) } : Rg)) (n := n) S0.pre  g1092 fun m1 e1095 => ?_
  obtain ⟨S1093, k1094⟩ := S0.call e1095 τ0
  refine ⟨_, rfl, ?_⟩
  obtain rfl := Option.some.inj hp
  exact hq _ S1093.ext'
theorem s_isDay {n : Int} {m f : M} {Q : V → M → Prop} {rz : Bool} (hS : Pre f m)  (hp : pisDay n = some rz) (hq : ∀ m', Ext m m' → Q (.c (.bool rz)) m') : Wc prog tbl 55 [.c (.int .i64 n)] m Q := by
  have S0 := hS.st
  obtain ⟨τ0, _⟩ : ∃ τ : Nat → Nat, True := ⟨fun _ => 0, trivial⟩
  refine w55 ?_
  unfold pisDay at hp
  obtain ⟨r1096, g1097, hp⟩ := bsome hp
  refine s_has (r := ({ Lo := (0 : Int), Hi := (120 : Int) } : Rg)) (n := n) S0.pre  g1097 fun m1 e1100 => ?_
  obtain ⟨S1098, k1099⟩ := S0.call e1100 τ0
  refine ⟨_, rfl, ?_⟩
  obtain rfl := Option.some.inj hp
  exact hq _ S1098.ext'
theorem s_isCount {n : Int} {m f : M} {Q : V → M → Prop} {rz : Bool} (hS : Pre f m)  (hp : pisCount n = some rz) (hq : ∀ m', Ext m m' → Q (.c (.bool rz)) m') : Wc prog tbl 56 [.c (.int .i64 n)] m Q := by
  have S0 := hS.st
  obtain ⟨τ0, _⟩ : ∃ τ : Nat → Nat, True := ⟨fun _ => 0, trivial⟩
  refine w56 ?_
  unfold pisCount at hp
  obtain ⟨r1101, g1102, hp⟩ := bsome hp
  refine s_has (r := ({ Lo := (0 : Int), Hi := (100 : Int) } : Rg)) (n := n) S0.pre  g1102 fun m1 e1105 => ?_
  obtain ⟨S1103, k1104⟩ := S0.call e1105 τ0
  refine ⟨_, rfl, ?_⟩
  obtain rfl := Option.some.inj hp
  exact hq _ S1103.ext'
theorem s_isHundredths {n : Int} {m f : M} {Q : V → M → Prop} {rz : Bool} (hS : Pre f m)  (hp : pisHundredths n = some rz) (hq : ∀ m', Ext m m' → Q (.c (.bool rz)) m') : Wc prog tbl 105 [.c (.int .i64 n)] m Q := by
  have S0 := hS.st
  obtain ⟨τ0, _⟩ : ∃ τ : Nat → Nat, True := ⟨fun _ => 0, trivial⟩
  refine w105 ?_
  unfold pisHundredths at hp
  obtain ⟨r1106, g1107, hp⟩ := bsome hp
  refine s_has (r := ({ Lo := (0 : Int), Hi := (100 : Int) } : Rg)) (n := n) S0.pre  g1107 fun m1 e1110 => ?_
  obtain ⟨S1108, k1109⟩ := S0.call e1110 τ0
  refine ⟨_, rfl, ?_⟩
  obtain rfl := Option.some.inj hp
  exact hq _ S1108.ext'
theorem s_rises {l : List Int} {ca100 : C} {m f : M} {Q : V → M → Prop} {rz : Bool} (hS : Pre f m) (ha100 : Sl f ca100 l) (hp : prises l = some rz) (hq : ∀ m', Ext m m' → Q (.c (.bool rz)) m') : Wc prog tbl 86 [.c ca100] m Q := by
  have S0 := hS.st
  obtain ⟨τ0, _⟩ : ∃ τ : Nat → Nat, True := ⟨fun _ => 0, trivial⟩
  refine w86 ?_
  unfold prises at hp
  refine ⟨ha100.isSl, ?_⟩
  intro R0 hR0
  have hgo : ∀ (d1113 : Nat) (b1 : Bool) (x2 : Int) (m3 : M) (τ1112 : Nat → Nat), St (Fm.of m) f f m3 → prises_L0 l d1113 x2 = some rz → R0 [.c (.bool b1), .c (.int .i64 x2)] m3 := by
    intro d1113
    induction d1113 with
    | zero => intro b1 x2 m3 τ1112 S1111 hp; cases hp
    | succ d1113 ihR0 =>
      intro b1 x2 m3 τ1112 S1111 hp
      refine hR0 _ _ _ ?_
      rw [prises_L0] at hp
      try rw [ha100.slLen]
      rw [ifB_dec]
      refine ⟨fun q1114 => ?_, fun q1114 => ?_⟩
      · skip
        rw [if_pos q1114] at hp
        obtain ⟨x1115, g1116, hp⟩ := bsome hp
        obtain ⟨n4, g1116i, g1116l, g1116⟩ := idx_some g1116
        refine ⟨n4, g1116i, (by first | exact g1116l | (rw [ha100.slLen]; exact g1116l)), _, (ha100.rdI g1116 S1111.sub), ?_⟩
        rw [ifB_dec]
        refine ⟨fun q1117 => ?_, fun q1117 => ?_⟩
        · skip
          rw [if_pos q1117] at hp
          obtain ⟨g1118, hp⟩ := gd_some hp
          refine ⟨g1118, ?_⟩
          obtain ⟨x1119, g1120, hp⟩ := bsome hp
          obtain ⟨n6, g1120i, g1120l, g1120⟩ := idx_some g1120
          refine ⟨n6, g1120i, (by first | exact g1120l | (rw [ha100.slLen]; exact g1120l)), _, (ha100.rdI g1120 S1111.sub), ?_⟩
          rw [ifB_dec]
          refine ⟨fun q1121 => ?_, fun q1121 => ?_⟩
          · skip
            rw [if_pos q1121] at hp
            obtain rfl := Option.some.inj hp
            exact hq _ S1111.ext'
          · skip
            rw [if_neg q1121] at hp
            obtain ⟨g1122, hp⟩ := gd_some hp
            refine ⟨g1122, ?_⟩
            exact ihR0 _ _ _ τ1112 S1111 hp
        · skip
          rw [if_neg q1117] at hp
          obtain ⟨g1123, hp⟩ := gd_some hp
          refine ⟨g1123, ?_⟩
          exact ihR0 _ _ _ τ1112 S1111 hp
      · skip
        rw [if_neg q1114] at hp
        refine ⟨ha100.isSl, ?_⟩
        try rw [ha100.slLen]
        rw [ifB_dec]
        refine ⟨fun q1124 => ?_, fun q1124 => ?_⟩
        · skip
          rw [if_pos q1124] at hp
          obtain ⟨x1125, g1126, hp⟩ := bsome hp
          obtain ⟨n8, g1126i, g1126l, g1126⟩ := idx_some g1126
          refine ⟨n8, g1126i, (by first | exact g1126l | (rw [ha100.slLen]; exact g1126l)), _, (ha100.rdI g1126 S1111.sub), ?_⟩
          obtain rfl := Option.some.inj hp
          exact hq _ S1111.ext'
        · skip
          rw [if_neg q1124] at hp
          obtain rfl := Option.some.inj hp
          exact hq _ S1111.ext'
  exact hgo _ _ _ _ τ0 S0 hp
theorem s_froms {l : List Tf} {ca100 : C} {m f : M} {Q : V → M → Prop} {rz : List Int} (hS : Pre f m) (ha100 : Sl f ca100 l) (hp : pfroms l = some rz) (hq : ∀ m' f' c0, Grw m f m' f' → Sl f' c0 rz → Q (.c c0) m') : Wc prog tbl 87 [.c ca100] m Q := by
  have S0 := hS.st
  obtain ⟨τ0, _⟩ : ∃ τ : Nat → Nat, True := ⟨fun _ => 0, trivial⟩
  refine w87 ?_
  unfold pfroms at hp
  refine ⟨ha100.isSl, ?_⟩
  intro R0 hR0
  have hgo : ∀ (d1131 : Nat) (c1 : C) (x2 : Int) (l1129 : List Int) (m3 : M) (τ1128 : Nat → Nat), St (Fm.of m) f f m3 → Ow (Fm.of m) f τ1128 m3 1 c1 l1129 → pfroms_L0 l d1131 l1129 x2 = some rz → R0 [.c c1, .c (.int .i64 x2)] m3 := by
    intro d1131
    induction d1131 with
    | zero => intro c1 x2 l1129 m3 τ1128 S1127 o1130 hp; cases hp
    | succ d1131 ihR0 =>
      intro c1 x2 l1129 m3 τ1128 S1127 o1130 hp
      refine hR0 _ _ _ ?_
      rw [pfroms_L0] at hp
      try rw [ha100.slLen]
      rw [ifB_dec]
      refine ⟨fun q1132 => ?_, fun q1132 => ?_⟩
      · skip
        rw [if_pos q1132] at hp
        obtain ⟨v1133, g1134, hp⟩ := bsome hp
        obtain ⟨n4, g1134i, g1134l, g1134⟩ := idx_some g1134
        obtain ⟨c1135, c1137, c1139, r1141, h1136, h1138, h1140⟩ := rd_Tf ha100 g1134
        refine ⟨n4, g1134i, (by first | exact g1134l | (rw [ha100.slLen]; exact g1134l)), _, _, _, _, _, _, (r1141 _ S1127.sub).1, ?_⟩
        intro m11 e1142
        obtain ⟨τ1145, S1143, k1144, L1146⟩ := S1127.blk e1142 τ1128 2
        have o1130 := o1130.k k1144 (by decide)
        obtain ⟨m1150, e1149, S1147, k1148, L1151⟩ := L1146.sto S1143 [(.int .i64 v1133.From), (.bool v1133.Whole), (.int .i64 v1133.Least), c1135, c1137, c1139]
        have o1130 := o1130.k k1148 (by decide)
        refine ⟨m1150, e1149, ?_⟩
        refine ⟨trivial, _, L1151.bk.rc rfl, ?_⟩
        obtain ⟨g1160, hp⟩ := gd_some hp
        intro m14 e1152
        obtain ⟨c1156, m1157, τ1155, a1158, S1153, k1154, o1159⟩ := o1130.app' ta73 S1147 (a := v1133.From) (show Rp.rep (α := Int) f _ v1133.From from rfl) g1160 e1152
        have L1161 := L1151.k k1154 (by decide)
        refine ⟨c1156, m1157, a1158, ?_⟩
        obtain ⟨g1162, hp⟩ := gd_some hp
        refine ⟨g1162, ?_⟩
        exact ihR0 _ _ _ _ τ1155 S1153 o1159 hp
      · skip
        rw [if_neg q1132] at hp
        obtain ⟨f1163, S1164, k1165, h1166⟩ := o1130.freeze S1127
        obtain rfl := Option.some.inj hp
        exact hq _ f1163 c1 S1164.grw h1166
  exact hgo _ _ _ _ _ τ0 S0 (Ow.nil _ _ _ _ _) hp
theorem s_sameCrops {l : List Tf} {t : Tf} {ca100 ca203 ca204 ca205 : C} {m f : M} {Q : V → M → Prop} {rz : Bool} (hS : Pre f m) (ha100 : Sl f ca100 l) (ha203 : Sl f ca203 t.Weeks) (ha204 : Sl f ca204 t.Counts) (ha205 : Sl f ca205 t.Rates) (hp : psameCrops l t = some rz) (hq : ∀ m', Ext m m' → Q (.c (.bool rz)) m') : Wc prog tbl 88 [.c ca100, .agg 6 [(.int .i64 t.From), (.bool t.Whole), (.int .i64 t.Least), ca203, ca204, ca205]] m Q := by
  have S0 := hS.st
  obtain ⟨τ0, _⟩ : ∃ τ : Nat → Nat, True := ⟨fun _ => 0, trivial⟩
  refine w88 ?_
  unfold psameCrops at hp
  intro m0 e1167
  obtain ⟨τ1170, S1168, k1169, L1171⟩ := S0.blk e1167 τ0 1
  refine ⟨trivial, _, L1171.bk.rc rfl, ha205.isSl, ?_⟩
  obtain ⟨v1172, g1173, hp⟩ := bsome hp
  obtain ⟨n2, g1173i, g1173l, g1173⟩ := idx_some g1173
  obtain ⟨c1174, c1176, c1178, r1180, h1175, h1177, h1179⟩ := rd_Tf ha100 g1173
  refine ⟨n2, g1173i, (by first | exact g1173l | (rw [ha100.slLen]; exact g1173l)), (ha100.isPt g1173 _), _, ((r1180 _ S1168.sub).2.1 5 _ rfl), h1179.isSl, ?_⟩
  try rw [ha205.slLen]
  try rw [h1179.slLen]
  obtain rfl := Option.some.inj hp
  exact hq _ S1168.ext'
theorem s_hasCrop {l : List Tf} {n : Int} {ca100 : C} {m f : M} {Q : V → M → Prop} {rz : Bool} (hS : Pre f m) (ha100 : Sl f ca100 l) (hp : phasCrop l n = some rz) (hq : ∀ m', Ext m m' → Q (.c (.bool rz)) m') : Wc prog tbl 54 [.c ca100, .c (.int .i64 n)] m Q := by
  have S0 := hS.st
  obtain ⟨τ0, _⟩ : ∃ τ : Nat → Nat, True := ⟨fun _ => 0, trivial⟩
  refine w54 ?_
  unfold phasCrop at hp
  obtain ⟨v1181, g1182, hp⟩ := bsome hp
  obtain ⟨n0, g1182i, g1182l, g1182⟩ := idx_some g1182
  obtain ⟨c1183, c1185, c1187, r1189, h1184, h1186, h1188⟩ := rd_Tf ha100 g1182
  refine ⟨n0, g1182i, (by first | exact g1182l | (rw [ha100.slLen]; exact g1182l)), (ha100.isPt g1182 _), _, ((r1189 _ S0.sub).2.1 5 _ rfl), h1188.isSl, ?_⟩
  try rw [h1188.slLen]
  obtain ⟨r1190, g1191, hp⟩ := bsome hp
  refine s_isIndex (n := n) (size := (v1181.Rates.length : Int)) S0.pre  g1191 fun m3 e1194 => ?_
  obtain ⟨S1192, k1193⟩ := S0.call e1194 τ0
  refine ⟨_, rfl, ?_⟩
  obtain rfl := Option.some.inj hp
  exact hq _ S1192.ext'
theorem s_tfTooMany {t : Tf} {ca103 ca104 ca105 : C} {m f : M} {Q : V → M → Prop} {rz : Bool} (hS : Pre f m) (ha103 : Sl f ca103 t.Weeks) (ha104 : Sl f ca104 t.Counts) (ha105 : Sl f ca105 t.Rates) (hp : ptfTooMany t = some rz) (hq : ∀ m', Ext m m' → Q (.c (.bool rz)) m') : Wc prog tbl 83 [.agg 6 [(.int .i64 t.From), (.bool t.Whole), (.int .i64 t.Least), ca103, ca104, ca105]] m Q := by
  have S0 := hS.st
  obtain ⟨τ0, _⟩ : ∃ τ : Nat → Nat, True := ⟨fun _ => 0, trivial⟩
  refine w83 ?_
  unfold ptfTooMany at hp
  intro m0 e1195
  obtain ⟨τ1198, S1196, k1197, L1199⟩ := S0.blk e1195 τ0 1
  refine ⟨trivial, _, L1199.bk.rc rfl, ha103.isSl, ?_⟩
  try rw [ha103.slLen]
  rw [ifB_dec]
  refine ⟨fun q1200 => ?_, fun q1200 => ?_⟩
  · skip
    rw [if_pos q1200] at hp
    obtain rfl := Option.some.inj hp
    exact hq _ S1196.ext'
  · skip
    rw [if_neg q1200] at hp
    refine ⟨trivial, _, L1199.bk.rc rfl, ha104.isSl, ?_⟩
    try rw [ha104.slLen]
    rw [ifB_dec]
    refine ⟨fun q1201 => ?_, fun q1201 => ?_⟩
    · skip
      rw [if_pos q1201] at hp
      obtain rfl := Option.some.inj hp
      exact hq _ S1196.ext'
    · skip
      rw [if_neg q1201] at hp
      refine ⟨trivial, _, L1199.bk.rc rfl, ha105.isSl, ?_⟩
      try rw [ha105.slLen]
      obtain rfl := Option.some.inj hp
      exact hq _ S1196.ext'
theorem s_clHas {c : Clm} {t : Tr} {m f : M} {Q : V → M → Prop} {rz : Bool} (hS : Pre f m)  (hp : pclHas c t = some rz) (hq : ∀ m', Ext m m' → Q (.c (.bool rz)) m') : Wc prog tbl 64 [.agg 6 [(.int .i64 c.Crop), (.int .i64 c.Value), (.int .i64 c.Day.Lo), (.int .i64 c.Day.Hi), (.int .i64 c.Count.Lo), (.int .i64 c.Count.Hi)], .agg 2 [(.int .i64 t.Day), (.int .i64 t.Count)]] m Q := by
  have S0 := hS.st
  obtain ⟨τ0, _⟩ : ∃ τ : Nat → Nat, True := ⟨fun _ => 0, trivial⟩
  refine w64 ?_
  unfold pclHas at hp
  intro m0 e1202
  obtain ⟨τ1205, S1203, k1204, L1206⟩ := S0.blk e1202 τ0 1
  intro m1 e1207
  obtain ⟨τ1210, S1208, k1209, L1211⟩ := S1203.blk e1207 τ1205 2
  have L1212 := L1206.k k1209 (by decide)
  refine ⟨trivial, _, _, L1212.bk.rp (k := 2) (j := 2) rfl (by omega), trivial, _, L1211.bk.rc rfl, ?_⟩
  obtain ⟨r1213, g1214, hp⟩ := bsome hp
  refine s_has (r := c.Day) (n := t.Day) S1208.pre  g1214 fun m6 e1217 => ?_
  obtain ⟨S1215, k1216⟩ := S1208.call e1217 τ1210
  have L1218 := L1212.k k1216 (by decide)
  have L1219 := L1211.k k1216 (by decide)
  refine ⟨_, rfl, ?_⟩
  rw [ifB_iff]
  refine ⟨fun q1220 => ?_, fun q1220 => ?_⟩
  · skip
    rw [if_pos q1220] at hp
    refine ⟨trivial, _, _, L1218.bk.rp (k := 4) (j := 2) rfl (by omega), trivial, _, L1219.bk.rc rfl, ?_⟩
    obtain ⟨r1221, g1222, hp⟩ := bsome hp
    refine s_has (r := c.Count) (n := t.Count) S1215.pre  g1222 fun m12 e1225 => ?_
    obtain ⟨S1223, k1224⟩ := S1215.call e1225 τ1210
    have L1226 := L1218.k k1224 (by decide)
    have L1227 := L1219.k k1224 (by decide)
    refine ⟨_, rfl, ?_⟩
    obtain rfl := Option.some.inj hp
    exact hq _ S1223.ext'
  · skip
    rw [bif_neg q1220] at hp
    obtain rfl := Option.some.inj hp
    exact hq _ S1215.ext'
theorem s_isNaN {x : Int} {m f : M} {Q : V → M → Prop} {rz : Bool} (hS : Pre f m)  (hp : pisNaN x = some rz) (hq : ∀ m', Ext m m' → Q (.c (.bool rz)) m') : Wc prog tbl 95 [.c (.int .i64 x)] m Q := by
  have S0 := hS.st
  obtain ⟨τ0, _⟩ : ∃ τ : Nat → Nat, True := ⟨fun _ => 0, trivial⟩
  refine w95 ?_
  unfold pisNaN at hp
  obtain rfl := Option.some.inj hp
  exact hq _ S0.ext'
theorem s_sNaN {x : Int} {m f : M} {Q : V → M → Prop} {rz : Bool} (hS : Pre f m)  (hp : psNaN x = some rz) (hq : ∀ m', Ext m m' → Q (.c (.bool rz)) m') : Wc prog tbl 130 [.c (.int .i64 x)] m Q := by
  have S0 := hS.st
  obtain ⟨τ0, _⟩ : ∃ τ : Nat → Nat, True := ⟨fun _ => 0, trivial⟩
  refine w130 ?_
  unfold psNaN at hp
  obtain rfl := Option.some.inj hp
  exact hq _ S0.ext'
theorem s_less {x : Int} {y : Int} {m f : M} {Q : V → M → Prop} {rz : Bool} (hS : Pre f m)  (hp : pless x y = some rz) (hq : ∀ m', Ext m m' → Q (.c (.bool rz)) m') : Wc prog tbl 129 [.c (.int .i64 x), .c (.int .i64 y)] m Q := by
  have S0 := hS.st
  obtain ⟨τ0, _⟩ : ∃ τ : Nat → Nat, True := ⟨fun _ => 0, trivial⟩
  refine w129 ?_
  unfold pless at hp
  obtain ⟨r1228, g1229, hp⟩ := bsome hp
  refine s_isNaN (x := x) S0.pre  g1229 fun m1 e1232 => ?_
  obtain ⟨S1230, k1231⟩ := S0.call e1232 τ0
  refine ⟨_, rfl, ?_⟩
  rw [ifB_iff]
  refine ⟨fun q1233 => ?_, fun q1233 => ?_⟩
  · skip
    rw [if_pos q1233] at hp
    obtain ⟨r1234, g1235, hp⟩ := bsome hp
    refine s_isNaN (x := y) S1230.pre  g1235 fun m4 e1238 => ?_
    obtain ⟨S1236, k1237⟩ := S1230.call e1238 τ0
    refine ⟨_, rfl, ?_⟩
    rw [ifB_iff]
    refine ⟨fun q1239 => ?_, fun q1239 => ?_⟩
    · skip
      rw [bif_neg (nb_f q1239)] at hp
      obtain rfl := Option.some.inj hp
      exact hq _ S1236.ext'
    · skip
      rw [if_pos (nb_t q1239)] at hp
      obtain rfl := Option.some.inj hp
      exact hq _ S1236.ext'
  · skip
    rw [bif_neg q1233] at hp
    obtain rfl := Option.some.inj hp
    exact hq _ S1230.ext'
theorem s_bsearch {l : List Int} {x : Int} {ca100 : C} {m f : M} {Q : V → M → Prop} {rz : Int × Bool} (hS : Pre f m) (ha100 : Sl f ca100 l) (hp : pbsearch l x = some rz) (hq : ∀ m', Ext m m' → Q (.tup [.c (.int .i64 rz.1), .c (.bool rz.2)]) m') : Wc prog tbl 116 [.c ca100, .c (.int .i64 x)] m Q := by
  have S0 := hS.st
  obtain ⟨τ0, _⟩ : ∃ τ : Nat → Nat, True := ⟨fun _ => 0, trivial⟩
  refine w116 ?_
  unfold pbsearch at hp
  refine ⟨ha100.isSl, ?_⟩
  intro R0 hR0
  try rw [ha100.slLen]
  have hgo : ∀ (d1257 : Nat) (x1 : Int) (x2 : Int) (m3 : M) (τ1256 : Nat → Nat), St (Fm.of m) f f m3 → pbsearch_L0 l x d1257 x1 x2 = some rz → R0 [.c (.int .i64 x1), .c (.int .i64 x2)] m3 := by
    intro d1257
    induction d1257 with
    | zero => intro x1 x2 m3 τ1256 S1255 hp; cases hp
    | succ d1257 ihR0 =>
      intro x1 x2 m3 τ1256 S1255 hp
      refine hR0 _ _ _ ?_
      rw [pbsearch_L0] at hp
      rw [ifB_dec]
      refine ⟨fun q1258 => ?_, fun q1258 => ?_⟩
      · skip
        rw [if_pos q1258] at hp
        obtain ⟨g1259, hp⟩ := gd_some hp
        refine ⟨g1259, ?_⟩
        obtain ⟨g1260, hp⟩ := gd_some hp
        refine ⟨g1260, ?_⟩
        obtain ⟨g1261, hp⟩ := gd_some hp
        refine ⟨g1261, ?_⟩
        obtain ⟨g1262, hp⟩ := gd_some hp
        refine ⟨g1262, ?_⟩
        obtain ⟨g1263, hp⟩ := gd_some hp
        refine ⟨g1263, ?_⟩
        obtain ⟨x1264, g1265, hp⟩ := bsome hp
        obtain ⟨n4, g1265i, g1265l, g1265⟩ := idx_some g1265
        refine ⟨n4, g1265i, (by first | exact g1265l | (rw [ha100.slLen]; exact g1265l)), _, (ha100.rdI g1265 S1255.sub), ?_⟩
        obtain ⟨r1266, g1267, hp⟩ := bsome hp
        refine s_less (x := x1264) (y := x) S1255.pre  g1267 fun m7 e1270 => ?_
        obtain ⟨S1268, k1269⟩ := S1255.call e1270 τ1256
        refine ⟨_, rfl, ?_⟩
        rw [ifB_iff]
        refine ⟨fun q1271 => ?_, fun q1271 => ?_⟩
        · skip
          rw [if_pos q1271] at hp
          obtain ⟨g1272, hp⟩ := gd_some hp
          refine ⟨g1272, ?_⟩
          exact ihR0 _ _ _ τ1256 S1268 hp
        · skip
          rw [bif_neg q1271] at hp
          exact ihR0 _ _ _ τ1256 S1268 hp
      · skip
        rw [if_neg q1258] at hp
        try rw [ha100.slLen]
        rw [ifB_dec]
        refine ⟨fun q1273 => ?_, fun q1273 => ?_⟩
        · skip
          rw [if_pos q1273] at hp
          obtain ⟨x1274, g1275, hp⟩ := bsome hp
          obtain ⟨n9, g1275i, g1275l, g1275⟩ := idx_some g1275
          refine ⟨n9, g1275i, (by first | exact g1275l | (rw [ha100.slLen]; exact g1275l)), _, (ha100.rdI g1275 S1255.sub), ?_⟩
          rw [ifB_dec]
          refine ⟨fun q1276 => ?_, fun q1276 => ?_⟩
          · skip
            rw [if_pos q1276] at hp
            obtain rfl := Option.some.inj hp
            exact hq _ S1255.ext'
          · skip
            rw [if_neg q1276] at hp
            obtain ⟨x1277, g1278, hp⟩ := bsome hp
            obtain ⟨n11, g1278i, g1278l, g1278⟩ := idx_some g1278
            refine ⟨n11, g1278i, (by first | exact g1278l | (rw [ha100.slLen]; exact g1278l)), _, (ha100.rdI g1278 S1255.sub), ?_⟩
            obtain ⟨r1279, g1280, hp⟩ := bsome hp
            refine s_sNaN (x := x1277) S1255.pre  g1280 fun m14 e1283 => ?_
            obtain ⟨S1281, k1282⟩ := S1255.call e1283 τ1256
            refine ⟨_, rfl, ?_⟩
            rw [ifB_iff]
            refine ⟨fun q1284 => ?_, fun q1284 => ?_⟩
            · skip
              rw [if_pos q1284] at hp
              obtain ⟨r1285, g1286, hp⟩ := bsome hp
              refine s_sNaN (x := x) S1281.pre  g1286 fun m17 e1289 => ?_
              obtain ⟨S1287, k1288⟩ := S1281.call e1289 τ1256
              refine ⟨_, rfl, ?_⟩
              obtain rfl := Option.some.inj hp
              exact hq _ S1287.ext'
            · skip
              rw [bif_neg q1284] at hp
              obtain rfl := Option.some.inj hp
              exact hq _ S1281.ext'
        · skip
          rw [if_neg q1273] at hp
          obtain rfl := Option.some.inj hp
          exact hq _ S1255.ext'
  exact hgo _ _ _ _ τ0 S0 hp
theorem s_last {days : List Int} {day : Int} {ca100 : C} {m f : M} {Q : V → M → Prop} {rz : Int} (hS : Pre f m) (ha100 : Sl f ca100 days) (hp : plast days day = some rz) (hq : ∀ m', Ext m m' → Q (.c (.int .i64 rz)) m') : Wc prog tbl 98 [.c ca100, .c (.int .i64 day)] m Q := by
  have S0 := hS.st
  obtain ⟨τ0, _⟩ : ∃ τ : Nat → Nat, True := ⟨fun _ => 0, trivial⟩
  refine w98 ?_
  unfold plast at hp
  obtain ⟨g1290, hp⟩ := gd_some hp
  refine ⟨g1290, ?_⟩
  obtain ⟨r1291, g1292, hp⟩ := bsome hp
  refine s_bsearch (l := days) (x := (day + (1 : Int))) S0.pre ha100 g1292 fun m1 e1295 => ?_
  obtain ⟨S1293, k1294⟩ := S0.call e1295 τ0
  refine ⟨_, _, rfl, ?_⟩
  obtain ⟨g1296, hp⟩ := gd_some hp
  refine ⟨g1296, ?_⟩
  obtain rfl := Option.some.inj hp
  exact hq _ S1293.ext'
theorem s_tfOf {l : List Tf} {day : Int} {ca100 : C} {m f : M} {Q : V → M → Prop} {rz : Tf} (hS : Pre f m) (ha100 : Sl f ca100 l) (hp : ptfOf l day = some rz) (hq : ∀ m' f' c3 c4 c5, Grw m f m' f' → Sl f' c3 rz.Weeks → Sl f' c4 rz.Counts → Sl f' c5 rz.Rates → Q (.agg 6 [(.int .i64 rz.From), (.bool rz.Whole), (.int .i64 rz.Least), c3, c4, c5]) m') : Wc prog tbl 79 [.c ca100, .c (.int .i64 day)] m Q := by
  have S0 := hS.st
  obtain ⟨τ0, _⟩ : ∃ τ : Nat → Nat, True := ⟨fun _ => 0, trivial⟩
  refine w79 ?_
  unfold ptfOf at hp
  intro m0 e1297
  obtain ⟨τ1300, S1298, k1299, L1301⟩ := S0.blk e1297 τ0 1
  obtain ⟨r1302, g1303, hp⟩ := bsome hp
  refine s_froms (l := l) S1298.pre ha100 g1303 fun m2 f1307 c1308 e1306 h1309 => ?_
  obtain ⟨S1304, k1305⟩ := S1298.callG e1306 τ1300
  have L1310 := L1301.k k1305 (by decide)
  refine ⟨_, rfl, ?_⟩
  obtain ⟨r1311, g1312, hp⟩ := bsome hp
  refine s_last (days := r1302) (day := day) S1304.pre h1309 g1312 fun m5 e1315 => ?_
  obtain ⟨S1313, k1314⟩ := S1304.call e1315 τ1300
  have L1316 := L1310.k k1314 (by decide)
  refine ⟨_, rfl, ?_⟩
  obtain ⟨v1317, g1318, hp⟩ := bsome hp
  obtain ⟨n7, g1318i, g1318l, g1318⟩ := idx_some g1318
  obtain ⟨c1319, c1321, c1323, r1325, h1320, h1322, h1324⟩ := rd_Tf ha100 g1318
  refine ⟨n7, g1318i, (by first | exact g1318l | (rw [ha100.slLen]; exact g1318l)), _, _, _, _, _, _, (r1325 _ (Sub.trans k1305.fs S1313.sub)).1, ?_⟩
  obtain ⟨m1329, e1328, S1326, k1327, L1330⟩ := L1316.sto S1313 [(.int .i64 v1317.From), (.bool v1317.Whole), (.int .i64 v1317.Least), c1319, c1321, c1323]
  refine ⟨m1329, e1328, ?_⟩
  refine ⟨_, _, _, _, _, _, L1330.bk.ra, ?_⟩
  obtain rfl := Option.some.inj hp
  exact hq _ f1307 c1319 c1321 c1323 S1326.grw (h1320.sub k1305.fs) (h1322.sub k1305.fs) (h1324.sub k1305.fs)
theorem s_whole {t : Tf} {loss : Int} {ca103 ca104 ca105 : C} {m f : M} {Q : V → M → Prop} {rz : Int} (hS : Pre f m) (ha103 : Sl f ca103 t.Weeks) (ha104 : Sl f ca104 t.Counts) (ha105 : Sl f ca105 t.Rates) (hp : pwhole t loss = some rz) (hq : ∀ m', Ext m m' → Q (.c (.int .i64 rz)) m') : Wc prog tbl 117 [.agg 6 [(.int .i64 t.From), (.bool t.Whole), (.int .i64 t.Least), ca103, ca104, ca105], .c (.int .i64 loss)] m Q := by
  have S0 := hS.st
  obtain ⟨τ0, _⟩ : ∃ τ : Nat → Nat, True := ⟨fun _ => 0, trivial⟩
  refine w117 ?_
  unfold pwhole at hp
  intro m0 e1331
  obtain ⟨τ1334, S1332, k1333, L1335⟩ := S0.blk e1331 τ0 1
  obtain rfl := Option.some.inj hp
  exact hq _ S1332.ext'
theorem s_aboveLeast {t : Tf} {loss : Int} {ca103 ca104 ca105 : C} {m f : M} {Q : V → M → Prop} {rz : Int} (hS : Pre f m) (ha103 : Sl f ca103 t.Weeks) (ha104 : Sl f ca104 t.Counts) (ha105 : Sl f ca105 t.Rates) (hp : paboveLeast t loss = some rz) (hq : ∀ m', Ext m m' → Q (.c (.int .i64 rz)) m') : Wc prog tbl 118 [.agg 6 [(.int .i64 t.From), (.bool t.Whole), (.int .i64 t.Least), ca103, ca104, ca105], .c (.int .i64 loss)] m Q := by
  have S0 := hS.st
  obtain ⟨τ0, _⟩ : ∃ τ : Nat → Nat, True := ⟨fun _ => 0, trivial⟩
  refine w118 ?_
  unfold paboveLeast at hp
  intro m0 e1336
  obtain ⟨τ1339, S1337, k1338, L1340⟩ := S0.blk e1336 τ0 1
  refine ⟨trivial, _, L1340.bk.rc rfl, ?_⟩
  obtain ⟨g1341, hp⟩ := gd_some hp
  refine ⟨g1341, ?_⟩
  obtain rfl := Option.some.inj hp
  exact hq _ S1337.ext'
theorem s_loss {t : Tf} {h : Ht} {ca103 ca104 ca105 : C} {m f : M} {Q : V → M → Prop} {rz : Int} (hS : Pre f m) (ha103 : Sl f ca103 t.Weeks) (ha104 : Sl f ca104 t.Counts) (ha105 : Sl f ca105 t.Rates) (hp : ploss t h = some rz) (hq : ∀ m', Ext m m' → Q (.c (.int .i64 rz)) m') : Wc prog tbl 99 [.agg 6 [(.int .i64 t.From), (.bool t.Whole), (.int .i64 t.Least), ca103, ca104, ca105], .agg 3 [(.int .i64 h.Day), (.int .i64 h.Count), (.int .i64 h.crop)]] m Q := by
  have S0 := hS.st
  obtain ⟨τ0, _⟩ : ∃ τ : Nat → Nat, True := ⟨fun _ => 0, trivial⟩
  refine w99 ?_
  unfold ploss at hp
  intro m0 e1342
  obtain ⟨τ1345, S1343, k1344, L1346⟩ := S0.blk e1342 τ0 1
  intro m1 e1347
  obtain ⟨τ1350, S1348, k1349, L1351⟩ := S1343.blk e1347 τ1345 2
  have L1352 := L1346.k k1349 (by decide)
  refine ⟨trivial, _, L1352.bk.rc rfl, trivial, _, L1351.bk.rc rfl, ?_⟩
  obtain ⟨v1353, g1354, hp⟩ := bsome hp
  obtain ⟨n4, g1354i, g1354l, g1354⟩ := idx_some g1354
  obtain ⟨c1355, r1356, h1357⟩ := ha105.rdS g1354
  refine ⟨n4, g1354i, (by first | exact g1354l | (rw [ha105.slLen]; exact g1354l)), _, (r1356 _ S1348.sub), trivial, _, L1352.bk.rc rfl, trivial, trivial, _, L1351.bk.rc rfl, ?_⟩
  obtain ⟨r1358, g1359, hp⟩ := bsome hp
  refine s_last (days := t.Weeks) (day := h.Day) S1348.pre ha103 g1359 fun m9 e1362 => ?_
  obtain ⟨S1360, k1361⟩ := S1348.call e1362 τ1350
  have L1363 := L1352.k k1361 (by decide)
  have L1364 := L1351.k k1361 (by decide)
  refine ⟨_, rfl, (by rw [show noFnC _ = true from h1357.noFn]; exact (r1356 _ S1360.sub)), (L1364.bk.rc rfl), (by rw [show noFnC _ = true from ha105.noFn]; exact (L1363.bk.rc rfl)), ?_⟩
  obtain ⟨v1365, g1366, hp⟩ := bsome hp
  obtain ⟨n11, g1366i, g1366l, g1366⟩ := idx_some g1366
  obtain ⟨c1367, r1368, h1369⟩ := h1357.rdS g1366
  refine ⟨n11, g1366i, (by first | exact g1366l | (rw [h1357.slLen]; exact g1366l)), _, (r1368 _ S1360.sub), trivial, _, L1363.bk.rc rfl, trivial, trivial, _, L1364.bk.rc rfl, ?_⟩
  obtain ⟨r1370, g1371, hp⟩ := bsome hp
  refine s_bsearch (l := t.Counts) (x := h.Count) S1360.pre ha104 g1371 fun m16 e1374 => ?_
  obtain ⟨S1372, k1373⟩ := S1360.call e1374 τ1350
  have L1375 := L1363.k k1373 (by decide)
  have L1376 := L1364.k k1373 (by decide)
  refine ⟨_, _, rfl, ?_⟩
  rw [ifB_iff]
  refine ⟨fun q1377 => ?_, fun q1377 => ?_⟩
  · skip
    rw [if_pos q1377] at hp
    obtain ⟨x1378, g1379, hp⟩ := bsome hp
    obtain ⟨n19, g1379i, g1379l, g1379⟩ := idx_some g1379
    refine ⟨n19, g1379i, (by first | exact g1379l | (rw [h1369.slLen]; exact g1379l)), _, (h1369.rdI g1379 S1372.sub), ?_⟩
    obtain rfl := Option.some.inj hp
    exact hq _ S1372.ext'
  · skip
    rw [bif_neg q1377] at hp
    refine ⟨trivial, _, L1375.bk.rc rfl, ?_⟩
    obtain ⟨g1380, hp⟩ := gd_some hp
    refine ⟨g1380, ?_⟩
    obtain ⟨x1381, g1382, hp⟩ := bsome hp
    obtain ⟨n22, g1382i, g1382l, g1382⟩ := idx_some g1382
    refine ⟨n22, g1382i, (by first | exact g1382l | (rw [ha104.slLen]; exact g1382l)), _, (ha104.rdI g1382 S1372.sub), trivial, _, L1375.bk.rc rfl, ?_⟩
    obtain ⟨x1383, g1384, hp⟩ := bsome hp
    obtain ⟨n25, g1384i, g1384l, g1384⟩ := idx_some g1384
    refine ⟨n25, g1384i, (by first | exact g1384l | (rw [ha104.slLen]; exact g1384l)), _, (ha104.rdI g1384 S1372.sub), ?_⟩
    obtain ⟨g1385, hp⟩ := gd_some hp
    refine ⟨g1385, ?_⟩
    obtain ⟨x1386, g1387, hp⟩ := bsome hp
    obtain ⟨n27, g1387i, g1387l, g1387⟩ := idx_some g1387
    refine ⟨n27, g1387i, (by first | exact g1387l | (rw [h1369.slLen]; exact g1387l)), _, (h1369.rdI g1387 S1372.sub), trivial, trivial, _, L1376.bk.rc rfl, ?_⟩
    obtain ⟨g1388, hp⟩ := gd_some hp
    refine ⟨g1388, ?_⟩
    obtain ⟨g1389, hp⟩ := gd_some hp
    refine ⟨g1389, ?_⟩
    obtain ⟨g1390, hp⟩ := gd_some hp
    refine ⟨g1390, ?_⟩
    obtain ⟨g1391, hp⟩ := gd_some hp
    refine ⟨g1391, ?_⟩
    obtain ⟨x1392, g1393, hp⟩ := bsome hp
    obtain ⟨n30, g1393i, g1393l, g1393⟩ := idx_some g1393
    refine ⟨n30, g1393i, (by first | exact g1393l | (rw [h1369.slLen]; exact g1393l)), _, (h1369.rdI g1393 S1372.sub), trivial, trivial, _, L1376.bk.rc rfl, ?_⟩
    obtain ⟨g1394, hp⟩ := gd_some hp
    refine ⟨g1394, ?_⟩
    obtain ⟨g1395, hp⟩ := gd_some hp
    refine ⟨g1395, ?_⟩
    obtain ⟨g1396, hp⟩ := gd_some hp
    refine ⟨g1396, ?_⟩
    obtain ⟨g1397, hp⟩ := gd_some hp
    refine ⟨g1397, ?_⟩
    obtain ⟨g1398, hp⟩ := gd_some hp
    refine ⟨g1398, ?_⟩
    obtain ⟨g1399, hp⟩ := gd_some hp
    refine ⟨g1399, ?_⟩
    obtain ⟨g1400, hp⟩ := gd_some hp
    refine ⟨g1400, ?_⟩
    obtain ⟨g1401, hp⟩ := gd_some hp
    refine ⟨g1401, ?_⟩
    obtain ⟨g1402, hp⟩ := gd_some hp
    refine ⟨g1402, ?_⟩
    obtain rfl := Option.some.inj hp
    exact hq _ S1372.ext'
theorem s_minimum {l : List Int} {ca100 : C} {m f : M} {Q : V → M → Prop} {rz : Int} (hS : Pre f m) (ha100 : Sl f ca100 l) (hp : pminimum l = some rz) (hq : ∀ m', Ext m m' → Q (.c (.int .i64 rz)) m') : Wc prog tbl 91 [.c ca100] m Q := by
  have S0 := hS.st
  obtain ⟨τ0, _⟩ : ∃ τ : Nat → Nat, True := ⟨fun _ => 0, trivial⟩
  refine w91 ?_
  unfold pminimum at hp
  refine ⟨ha100.isSl, ?_⟩
  try rw [ha100.slLen]
  rw [ifB_dec]
  refine ⟨fun q1403 => ?_, fun q1403 => ?_⟩
  · skip
    rw [if_pos q1403] at hp
    obtain rfl := Option.some.inj hp
    exact hq _ S0.ext'
  · skip
    rw [if_neg q1403] at hp
    obtain ⟨x1404, g1405, hp⟩ := bsome hp
    obtain ⟨n0, g1405i, g1405l, g1405⟩ := idx_some g1405
    refine ⟨n0, g1405i, (by first | exact g1405l | (rw [ha100.slLen]; exact g1405l)), _, (ha100.rdI g1405 S0.sub), ha100.isSl, ?_⟩
    intro R2 hR2
    have hgo : ∀ (d1408 : Nat) (x3 : Int) (x4 : Int) (m5 : M) (τ1407 : Nat → Nat), St (Fm.of m) f f m5 → pminimum_L0 l d1408 x3 x4 = some rz → R2 [.c (.int .i64 x3), .c (.int .i64 x4)] m5 := by
      intro d1408
      induction d1408 with
      | zero => intro x3 x4 m5 τ1407 S1406 hp; cases hp
      | succ d1408 ihR2 =>
        intro x3 x4 m5 τ1407 S1406 hp
        refine hR2 _ _ _ ?_
        rw [pminimum_L0] at hp
        try rw [ha100.slLen]
        rw [ifB_dec]
        refine ⟨fun q1409 => ?_, fun q1409 => ?_⟩
        · skip
          rw [if_pos q1409] at hp
          obtain ⟨x1410, g1411, hp⟩ := bsome hp
          obtain ⟨n6, g1411i, g1411l, g1411⟩ := idx_some g1411
          refine ⟨n6, g1411i, (by first | exact g1411l | (rw [ha100.slLen]; exact g1411l)), _, (ha100.rdI g1411 S1406.sub), ?_⟩
          rw [ifB_dec]
          refine ⟨fun q1412 => ?_, fun q1412 => ?_⟩
          · skip
            rw [if_pos q1412] at hp
            obtain ⟨g1413, hp⟩ := gd_some hp
            refine ⟨g1413, ?_⟩
            exact ihR2 _ _ _ τ1407 S1406 hp
          · skip
            rw [if_neg q1412] at hp
            obtain ⟨g1414, hp⟩ := gd_some hp
            refine ⟨g1414, ?_⟩
            exact ihR2 _ _ _ τ1407 S1406 hp
        · skip
          rw [if_neg q1409] at hp
          obtain rfl := Option.some.inj hp
          exact hq _ S1406.ext'
    exact hgo _ _ _ _ τ0 S0 hp
theorem s_sMax {l : List Int} {ca100 : C} {m f : M} {Q : V → M → Prop} {rz : Int} (hS : Pre f m) (ha100 : Sl f ca100 l) (hp : psMax l = some rz) (hq : ∀ m', Ext m m' → Q (.c (.int .i64 rz)) m') : Wc prog tbl 92 [.c ca100] m Q := by
  have S0 := hS.st
  obtain ⟨τ0, _⟩ : ∃ τ : Nat → Nat, True := ⟨fun _ => 0, trivial⟩
  refine w92 ?_
  unfold psMax at hp
  refine ⟨ha100.isSl, ?_⟩
  try rw [ha100.slLen]
  rw [ifB_dec]
  refine ⟨fun q1415 => ?_, fun q1415 => ?_⟩
  · skip
    rw [if_pos q1415] at hp
    cases hp
  · skip
    rw [if_neg q1415] at hp
    obtain ⟨x1416, g1417, hp⟩ := bsome hp
    obtain ⟨n0, g1417i, g1417l, g1417⟩ := idx_some g1417
    refine ⟨n0, g1417i, (by first | exact g1417l | (rw [ha100.slLen]; exact g1417l)), _, (ha100.rdI g1417 S0.sub), ?_⟩
    intro R2 hR2
    have hgo : ∀ (d1420 : Nat) (x3 : Int) (x4 : Int) (m5 : M) (τ1419 : Nat → Nat), St (Fm.of m) f f m5 → psMax_L0 l d1420 x3 x4 = some rz → R2 [.c (.int .i64 x3), .c (.int .i64 x4)] m5 := by
      intro d1420
      induction d1420 with
      | zero => intro x3 x4 m5 τ1419 S1418 hp; cases hp
      | succ d1420 ihR2 =>
        intro x3 x4 m5 τ1419 S1418 hp
        refine hR2 _ _ _ ?_
        rw [psMax_L0] at hp
        refine ⟨ha100.isSl, ?_⟩
        try rw [ha100.slLen]
        rw [ifB_dec]
        refine ⟨fun q1421 => ?_, fun q1421 => ?_⟩
        · skip
          rw [if_pos q1421] at hp
          obtain ⟨x1422, g1423, hp⟩ := bsome hp
          obtain ⟨n6, g1423i, g1423l, g1423⟩ := idx_some g1423
          refine ⟨n6, g1423i, (by first | exact g1423l | (rw [ha100.slLen]; exact g1423l)), _, (ha100.rdI g1423 S1418.sub), ?_⟩
          obtain ⟨g1424, hp⟩ := gd_some hp
          refine ⟨g1424, ?_⟩
          exact ihR2 _ _ _ τ1419 S1418 hp
        · skip
          rw [if_neg q1421] at hp
          obtain rfl := Option.some.inj hp
          exact hq _ S1418.ext'
    exact hgo _ _ _ _ τ0 S0 hp
theorem s_eachTf1 {x : Tf} {passes : Tf → Option (Bool)} {b0 : Nat} {ca103 ca104 ca105 cb000 : C} {m f : M} {Q : V → M → Prop} {rz : Bool} (hS : Pre f m) (ha103 : Sl f ca103 x.Weeks) (ha104 : Sl f ca104 x.Counts) (ha105 : Sl f ca105 x.Rates) (hb0 : Bk f b0 1 [cb000]) (hb000 : Fv_Tf_Bool f cb000 passes) (hp : peachTf1 x passes = some rz) (hq : ∀ m', Ext m m' → Q (.c (.bool rz)) m') : Wc prog tbl 104 [.agg 6 [(.int .i64 x.From), (.bool x.Whole), (.int .i64 x.Least), ca103, ca104, ca105], .c (.ptr b0 0)] m Q := by
  have S0 := hS.st
  obtain ⟨τ0, _⟩ : ∃ τ : Nat → Nat, True := ⟨fun _ => 0, trivial⟩
  refine c104 ?_
  unfold peachTf1 at hp
  intro m0 e1425
  obtain ⟨τ1428, S1426, k1427, L1429⟩ := S0.blk e1425 τ0 1
  refine ⟨_, (hb0.sub S1426.sub).rc rfl, _, _, _, _, _, _, L1429.bk.ra, ?_⟩
  obtain ⟨r1430, g1431, hp⟩ := bsome hp
  refine hb000 _ _ _ _ _ _ _ _ (Sub.refl _) S1426.pre ha103 ha104 ha105 g1431 fun m9 e1434 => ?_
  obtain ⟨S1432, k1433⟩ := S1426.call e1434 τ1428
  have L1435 := L1429.k k1433 (by decide)
  refine ⟨_, rfl, ?_⟩
  obtain rfl := Option.some.inj hp
  exact hq _ S1432.ext'
theorem s_indexTf {l : List Tf} {p : Tf → Option (Bool)} {ca100 ca200 : C} {m f : M} {Q : V → M → Prop} {rz : Int} (hS : Pre f m) (ha100 : Sl f ca100 l) (ha200 : Fv_Tf_Bool f ca200 p) (hp : pindexTf l p = some rz) (hq : ∀ m', Ext m m' → Q (.c (.int .i64 rz)) m') : Wc prog tbl 119 [.c ca100, .c ca200] m Q := by
  have S0 := hS.st
  obtain ⟨τ0, _⟩ : ∃ τ : Nat → Nat, True := ⟨fun _ => 0, trivial⟩
  refine w119 ?_
  unfold pindexTf at hp
  refine ⟨ha100.isSl, ?_⟩
  intro R0 hR0
  have hgo : ∀ (d1438 : Nat) (x1 : Int) (x2 : Int) (m3 : M) (τ1437 : Nat → Nat), St (Fm.of m) f f m3 → pindexTf_L0 l p d1438 x2 = some rz → R0 [.c (.int .i64 x1), .c (.int .i64 x2)] m3 := by
    intro d1438
    induction d1438 with
    | zero => intro x1 x2 m3 τ1437 S1436 hp; cases hp
    | succ d1438 ihR0 =>
      intro x1 x2 m3 τ1437 S1436 hp
      refine hR0 _ _ _ ?_
      rw [pindexTf_L0] at hp
      try rw [ha100.slLen]
      rw [ifB_dec]
      refine ⟨fun q1439 => ?_, fun q1439 => ?_⟩
      · skip
        rw [if_pos q1439] at hp
        obtain ⟨v1440, g1441, hp⟩ := bsome hp
        obtain ⟨n4, g1441i, g1441l, g1441⟩ := idx_some g1441
        obtain ⟨c1442, c1444, c1446, r1448, h1443, h1445, h1447⟩ := rd_Tf ha100 g1441
        refine ⟨n4, g1441i, (by first | exact g1441l | (rw [ha100.slLen]; exact g1441l)), _, _, _, _, _, _, (r1448 _ S1436.sub).1, ?_⟩
        obtain ⟨r1449, g1450, hp⟩ := bsome hp
        refine ha200 _ _ _ _ _ _ _ _ (Sub.refl _) S1436.pre h1443 h1445 h1447 g1450 fun m12 e1453 => ?_
        obtain ⟨S1451, k1452⟩ := S1436.call e1453 τ1437
        refine ⟨_, rfl, ?_⟩
        rw [ifB_iff]
        refine ⟨fun q1454 => ?_, fun q1454 => ?_⟩
        · skip
          rw [if_pos q1454] at hp
          obtain rfl := Option.some.inj hp
          exact hq _ S1451.ext'
        · skip
          rw [bif_neg q1454] at hp
          obtain ⟨g1455, hp⟩ := gd_some hp
          refine ⟨g1455, ?_⟩
          exact ihR0 _ _ _ τ1437 S1451 hp
      · skip
        rw [if_neg q1439] at hp
        obtain rfl := Option.some.inj hp
        exact hq _ S1436.ext'
  exact hgo _ _ _ _ τ0 S0 hp
theorem s_containsTf {l : List Tf} {p : Tf → Option (Bool)} {ca100 ca200 : C} {m f : M} {Q : V → M → Prop} {rz : Bool} (hS : Pre f m) (ha100 : Sl f ca100 l) (ha200 : Fv_Tf_Bool f ca200 p) (hp : pcontainsTf l p = some rz) (hq : ∀ m', Ext m m' → Q (.c (.bool rz)) m') : Wc prog tbl 103 [.c ca100, .c ca200] m Q := by
  have S0 := hS.st
  obtain ⟨τ0, _⟩ : ∃ τ : Nat → Nat, True := ⟨fun _ => 0, trivial⟩
  refine w103 ?_
  unfold pcontainsTf at hp
  obtain ⟨r1456, g1457, hp⟩ := bsome hp
  refine s_indexTf (l := l) (p := p) S0.pre ha100 ha200 g1457 fun m1 e1460 => ?_
  obtain ⟨S1458, k1459⟩ := S0.call e1460 τ0
  refine ⟨_, rfl, ?_⟩
  obtain rfl := Option.some.inj hp
  exact hq _ S1458.ext'
theorem s_eachTf {l : List Tf} {passes : Tf → Option (Bool)} {ca100 ca200 : C} {m f : M} {Q : V → M → Prop} {rz : Bool} (hS : Pre f m) (ha100 : Sl f ca100 l) (ha200 : Fv_Tf_Bool f ca200 passes) (hp : peachTf l passes = some rz) (hq : ∀ m', Ext m m' → Q (.c (.bool rz)) m') : Wc prog tbl 84 [.c ca100, .c ca200] m Q := by
  have S0 := hS.st
  obtain ⟨τ0, _⟩ : ∃ τ : Nat → Nat, True := ⟨fun _ => 0, trivial⟩
  refine w84 ?_
  unfold peachTf at hp
  intro m0 e1461
  obtain ⟨τ1464, S1462, k1463, L1465⟩ := S0.blk e1461 τ0 1
  obtain ⟨f1466, S1467, k1468, hb1469⟩ := L1465.freeze S1462
  have hF1477 : Fv_Tf_Bool f1466 ((C.fn (Fn.func 104) [] [(W.c (C0.ptr m.nxt 0))])) (fun a1470 => peachTf1 a1470 passes) := by
    intro f' m' a1470 c1471 c1473 c1475 r Q hs hpre h1472 h1474 h1476 hg hq
    exact s_eachTf1 hpre h1472 h1474 h1476 (hb1469.sub hs) ((ha200.sub k1468.fs).sub hs) hg hq
  obtain ⟨r1478, g1479, hp⟩ := bsome hp
  refine s_containsTf (l := l) (p := (fun a1470 => peachTf1 a1470 passes)) S1467.pre (ha100.sub k1468.fs) hF1477 g1479 fun m2 e1482 => ?_
  obtain ⟨S1480, k1481⟩ := S1467.call e1482 τ1464
  refine ⟨_, rfl, ?_⟩
  obtain rfl := Option.some.inj hp
  exact hq _ S1480.ext'
theorem s_indexTfs {l : List Tf} {p : Tf → Option (Bool)} {ca100 ca200 : C} {m f : M} {Q : V → M → Prop} {rz : Int} (hS : Pre f m) (ha100 : Sl f ca100 l) (ha200 : Fv_Tf_Bool f ca200 p) (hp : pindexTfs l p = some rz) (hq : ∀ m', Ext m m' → Q (.c (.int .i64 rz)) m') : Wc prog tbl 102 [.c ca100, .c ca200] m Q := by
  have S0 := hS.st
  obtain ⟨τ0, _⟩ : ∃ τ : Nat → Nat, True := ⟨fun _ => 0, trivial⟩
  refine w102 ?_
  unfold pindexTfs at hp
  refine ⟨ha100.isSl, ?_⟩
  intro R0 hR0
  have hgo : ∀ (d1485 : Nat) (x1 : Int) (x2 : Int) (m3 : M) (τ1484 : Nat → Nat), St (Fm.of m) f f m3 → pindexTfs_L0 l p d1485 x2 = some rz → R0 [.c (.int .i64 x1), .c (.int .i64 x2)] m3 := by
    intro d1485
    induction d1485 with
    | zero => intro x1 x2 m3 τ1484 S1483 hp; cases hp
    | succ d1485 ihR0 =>
      intro x1 x2 m3 τ1484 S1483 hp
      refine hR0 _ _ _ ?_
      rw [pindexTfs_L0] at hp
      try rw [ha100.slLen]
      rw [ifB_dec]
      refine ⟨fun q1486 => ?_, fun q1486 => ?_⟩
      · skip
        rw [if_pos q1486] at hp
        obtain ⟨v1487, g1488, hp⟩ := bsome hp
        obtain ⟨n4, g1488i, g1488l, g1488⟩ := idx_some g1488
        obtain ⟨c1489, c1491, c1493, r1495, h1490, h1492, h1494⟩ := rd_Tf ha100 g1488
        refine ⟨n4, g1488i, (by first | exact g1488l | (rw [ha100.slLen]; exact g1488l)), _, _, _, _, _, _, (r1495 _ S1483.sub).1, ?_⟩
        obtain ⟨r1496, g1497, hp⟩ := bsome hp
        refine ha200 _ _ _ _ _ _ _ _ (Sub.refl _) S1483.pre h1490 h1492 h1494 g1497 fun m12 e1500 => ?_
        obtain ⟨S1498, k1499⟩ := S1483.call e1500 τ1484
        refine ⟨_, rfl, ?_⟩
        rw [ifB_iff]
        refine ⟨fun q1501 => ?_, fun q1501 => ?_⟩
        · skip
          rw [if_pos q1501] at hp
          obtain rfl := Option.some.inj hp
          exact hq _ S1498.ext'
        · skip
          rw [bif_neg q1501] at hp
          obtain ⟨g1502, hp⟩ := gd_some hp
          refine ⟨g1502, ?_⟩
          exact ihR0 _ _ _ τ1484 S1498 hp
      · skip
        rw [if_neg q1486] at hp
        obtain rfl := Option.some.inj hp
        exact hq _ S1483.ext'
  exact hgo _ _ _ _ τ0 S0 hp
theorem s_containsTfs {l : List Tf} {p : Tf → Option (Bool)} {ca100 ca200 : C} {m f : M} {Q : V → M → Prop} {rz : Bool} (hS : Pre f m) (ha100 : Sl f ca100 l) (ha200 : Fv_Tf_Bool f ca200 p) (hp : pcontainsTfs l p = some rz) (hq : ∀ m', Ext m m' → Q (.c (.bool rz)) m') : Wc prog tbl 82 [.c ca100, .c ca200] m Q := by
  have S0 := hS.st
  obtain ⟨τ0, _⟩ : ∃ τ : Nat → Nat, True := ⟨fun _ => 0, trivial⟩
  refine w82 ?_
  unfold pcontainsTfs at hp
  obtain ⟨r1503, g1504, hp⟩ := bsome hp
  refine s_indexTfs (l := l) (p := p) S0.pre ha100 ha200 g1504 fun m1 e1507 => ?_
  obtain ⟨S1505, k1506⟩ := S0.call e1507 τ0
  refine ⟨_, rfl, ?_⟩
  obtain rfl := Option.some.inj hp
  exact hq _ S1505.ext'
theorem s_eachCl1 {x : Clm} {passes : Clm → Option (Bool)} {b0 : Nat} {cb000 : C} {m f : M} {Q : V → M → Prop} {rz : Bool} (hS : Pre f m) (hb0 : Bk f b0 1 [cb000]) (hb000 : Fv_Clm_Bool f cb000 passes) (hp : peachCl1 x passes = some rz) (hq : ∀ m', Ext m m' → Q (.c (.bool rz)) m') : Wc prog tbl 110 [.agg 6 [(.int .i64 x.Crop), (.int .i64 x.Value), (.int .i64 x.Day.Lo), (.int .i64 x.Day.Hi), (.int .i64 x.Count.Lo), (.int .i64 x.Count.Hi)], .c (.ptr b0 0)] m Q := by
  have S0 := hS.st
  obtain ⟨τ0, _⟩ : ∃ τ : Nat → Nat, True := ⟨fun _ => 0, trivial⟩
  refine c110 ?_
  unfold peachCl1 at hp
  intro m0 e1508
  obtain ⟨τ1511, S1509, k1510, L1512⟩ := S0.blk e1508 τ0 1
  refine ⟨_, (hb0.sub S1509.sub).rc rfl, _, _, _, _, _, _, L1512.bk.ra, ?_⟩
  obtain ⟨r1513, g1514, hp⟩ := bsome hp
  refine hb000 _ _ _ _ _ (Sub.refl _) S1509.pre  g1514 fun m9 e1517 => ?_
  obtain ⟨S1515, k1516⟩ := S1509.call e1517 τ1511
  have L1518 := L1512.k k1516 (by decide)
  refine ⟨_, rfl, ?_⟩
  obtain rfl := Option.some.inj hp
  exact hq _ S1515.ext'
theorem s_indexCl {l : List Clm} {p : Clm → Option (Bool)} {ca100 ca200 : C} {m f : M} {Q : V → M → Prop} {rz : Int} (hS : Pre f m) (ha100 : Sl f ca100 l) (ha200 : Fv_Clm_Bool f ca200 p) (hp : pindexCl l p = some rz) (hq : ∀ m', Ext m m' → Q (.c (.int .i64 rz)) m') : Wc prog tbl 126 [.c ca100, .c ca200] m Q := by
  have S0 := hS.st
  obtain ⟨τ0, _⟩ : ∃ τ : Nat → Nat, True := ⟨fun _ => 0, trivial⟩
  refine w126 ?_
  unfold pindexCl at hp
  refine ⟨ha100.isSl, ?_⟩
  intro R0 hR0
  have hgo : ∀ (d1521 : Nat) (x1 : Int) (x2 : Int) (m3 : M) (τ1520 : Nat → Nat), St (Fm.of m) f f m3 → pindexCl_L0 l p d1521 x2 = some rz → R0 [.c (.int .i64 x1), .c (.int .i64 x2)] m3 := by
    intro d1521
    induction d1521 with
    | zero => intro x1 x2 m3 τ1520 S1519 hp; cases hp
    | succ d1521 ihR0 =>
      intro x1 x2 m3 τ1520 S1519 hp
      refine hR0 _ _ _ ?_
      rw [pindexCl_L0] at hp
      try rw [ha100.slLen]
      rw [ifB_dec]
      refine ⟨fun q1522 => ?_, fun q1522 => ?_⟩
      · skip
        rw [if_pos q1522] at hp
        obtain ⟨v1523, g1524, hp⟩ := bsome hp
        obtain ⟨n4, g1524i, g1524l, g1524⟩ := idx_some g1524
        obtain ⟨_, r1525⟩ := rd_Clm ha100 g1524
        refine ⟨n4, g1524i, (by first | exact g1524l | (rw [ha100.slLen]; exact g1524l)), _, _, _, _, _, _, (r1525 _ S1519.sub).1, ?_⟩
        obtain ⟨r1526, g1527, hp⟩ := bsome hp
        refine ha200 _ _ _ _ _ (Sub.refl _) S1519.pre  g1527 fun m12 e1530 => ?_
        obtain ⟨S1528, k1529⟩ := S1519.call e1530 τ1520
        refine ⟨_, rfl, ?_⟩
        rw [ifB_iff]
        refine ⟨fun q1531 => ?_, fun q1531 => ?_⟩
        · skip
          rw [if_pos q1531] at hp
          obtain rfl := Option.some.inj hp
          exact hq _ S1528.ext'
        · skip
          rw [bif_neg q1531] at hp
          obtain ⟨g1532, hp⟩ := gd_some hp
          refine ⟨g1532, ?_⟩
          exact ihR0 _ _ _ τ1520 S1528 hp
      · skip
        rw [if_neg q1522] at hp
        obtain rfl := Option.some.inj hp
        exact hq _ S1519.ext'
  exact hgo _ _ _ _ τ0 S0 hp
theorem s_containsCl {l : List Clm} {p : Clm → Option (Bool)} {ca100 ca200 : C} {m f : M} {Q : V → M → Prop} {rz : Bool} (hS : Pre f m) (ha100 : Sl f ca100 l) (ha200 : Fv_Clm_Bool f ca200 p) (hp : pcontainsCl l p = some rz) (hq : ∀ m', Ext m m' → Q (.c (.bool rz)) m') : Wc prog tbl 109 [.c ca100, .c ca200] m Q := by
  have S0 := hS.st
  obtain ⟨τ0, _⟩ : ∃ τ : Nat → Nat, True := ⟨fun _ => 0, trivial⟩
  refine w109 ?_
  unfold pcontainsCl at hp
  obtain ⟨r1533, g1534, hp⟩ := bsome hp
  refine s_indexCl (l := l) (p := p) S0.pre ha100 ha200 g1534 fun m1 e1537 => ?_
  obtain ⟨S1535, k1536⟩ := S0.call e1537 τ0
  refine ⟨_, rfl, ?_⟩
  obtain rfl := Option.some.inj hp
  exact hq _ S1535.ext'
theorem s_eachCl {l : List Clm} {passes : Clm → Option (Bool)} {ca100 ca200 : C} {m f : M} {Q : V → M → Prop} {rz : Bool} (hS : Pre f m) (ha100 : Sl f ca100 l) (ha200 : Fv_Clm_Bool f ca200 passes) (hp : peachCl l passes = some rz) (hq : ∀ m', Ext m m' → Q (.c (.bool rz)) m') : Wc prog tbl 89 [.c ca100, .c ca200] m Q := by
  have S0 := hS.st
  obtain ⟨τ0, _⟩ : ∃ τ : Nat → Nat, True := ⟨fun _ => 0, trivial⟩
  refine w89 ?_
  unfold peachCl at hp
  intro m0 e1538
  obtain ⟨τ1541, S1539, k1540, L1542⟩ := S0.blk e1538 τ0 1
  obtain ⟨f1543, S1544, k1545, hb1546⟩ := L1542.freeze S1539
  have hF1548 : Fv_Clm_Bool f1543 ((C.fn (Fn.func 110) [] [(W.c (C0.ptr m.nxt 0))])) (fun a1547 => peachCl1 a1547 passes) := by
    intro f' m' a1547 r Q hs hpre  hg hq
    exact s_eachCl1 hpre (hb1546.sub hs) ((ha200.sub k1545.fs).sub hs) hg hq
  obtain ⟨r1549, g1550, hp⟩ := bsome hp
  refine s_containsCl (l := l) (p := (fun a1547 => peachCl1 a1547 passes)) S1544.pre (ha100.sub k1545.fs) hF1548 g1550 fun m2 e1553 => ?_
  obtain ⟨S1551, k1552⟩ := S1544.call e1553 τ1541
  refine ⟨_, rfl, ?_⟩
  obtain rfl := Option.some.inj hp
  exact hq _ S1551.ext'
theorem s_eachI1 {x : Int} {passes : Int → Option (Bool)} {b0 : Nat} {cb000 : C} {m f : M} {Q : V → M → Prop} {rz : Bool} (hS : Pre f m) (hb0 : Bk f b0 1 [cb000]) (hb000 : Fv_Int_Bool f cb000 passes) (hp : peachI1 x passes = some rz) (hq : ∀ m', Ext m m' → Q (.c (.bool rz)) m') : Wc prog tbl 121 [.c (.int .i64 x), .c (.ptr b0 0)] m Q := by
  have S0 := hS.st
  obtain ⟨τ0, _⟩ : ∃ τ : Nat → Nat, True := ⟨fun _ => 0, trivial⟩
  refine c121 ?_
  unfold peachI1 at hp
  refine ⟨_, (hb0.sub S0.sub).rc rfl, ?_⟩
  obtain ⟨r1554, g1555, hp⟩ := bsome hp
  refine hb000 _ _ _ _ _ (Sub.refl _) S0.pre  g1555 fun m2 e1558 => ?_
  obtain ⟨S1556, k1557⟩ := S0.call e1558 τ0
  refine ⟨_, rfl, ?_⟩
  obtain rfl := Option.some.inj hp
  exact hq _ S1556.ext'
theorem s_indexI {l : List Int} {p : Int → Option (Bool)} {ca100 ca200 : C} {m f : M} {Q : V → M → Prop} {rz : Int} (hS : Pre f m) (ha100 : Sl f ca100 l) (ha200 : Fv_Int_Bool f ca200 p) (hp : pindexI l p = some rz) (hq : ∀ m', Ext m m' → Q (.c (.int .i64 rz)) m') : Wc prog tbl 131 [.c ca100, .c ca200] m Q := by
  have S0 := hS.st
  obtain ⟨τ0, _⟩ : ∃ τ : Nat → Nat, True := ⟨fun _ => 0, trivial⟩
  refine w131 ?_
  unfold pindexI at hp
  refine ⟨ha100.isSl, ?_⟩
  intro R0 hR0
  have hgo : ∀ (d1561 : Nat) (x1 : Int) (x2 : Int) (m3 : M) (τ1560 : Nat → Nat), St (Fm.of m) f f m3 → pindexI_L0 l p d1561 x2 = some rz → R0 [.c (.int .i64 x1), .c (.int .i64 x2)] m3 := by
    intro d1561
    induction d1561 with
    | zero => intro x1 x2 m3 τ1560 S1559 hp; cases hp
    | succ d1561 ihR0 =>
      intro x1 x2 m3 τ1560 S1559 hp
      refine hR0 _ _ _ ?_
      rw [pindexI_L0] at hp
      try rw [ha100.slLen]
      rw [ifB_dec]
      refine ⟨fun q1562 => ?_, fun q1562 => ?_⟩
      · skip
        rw [if_pos q1562] at hp
        obtain ⟨x1563, g1564, hp⟩ := bsome hp
        obtain ⟨n4, g1564i, g1564l, g1564⟩ := idx_some g1564
        refine ⟨n4, g1564i, (by first | exact g1564l | (rw [ha100.slLen]; exact g1564l)), _, (ha100.rdI g1564 S1559.sub), ?_⟩
        obtain ⟨r1565, g1566, hp⟩ := bsome hp
        refine ha200 _ _ _ _ _ (Sub.refl _) S1559.pre  g1566 fun m7 e1569 => ?_
        obtain ⟨S1567, k1568⟩ := S1559.call e1569 τ1560
        refine ⟨_, rfl, ?_⟩
        rw [ifB_iff]
        refine ⟨fun q1570 => ?_, fun q1570 => ?_⟩
        · skip
          rw [if_pos q1570] at hp
          obtain rfl := Option.some.inj hp
          exact hq _ S1567.ext'
        · skip
          rw [bif_neg q1570] at hp
          obtain ⟨g1571, hp⟩ := gd_some hp
          refine ⟨g1571, ?_⟩
          exact ihR0 _ _ _ τ1560 S1567 hp
      · skip
        rw [if_neg q1562] at hp
        obtain rfl := Option.some.inj hp
        exact hq _ S1559.ext'
  exact hgo _ _ _ _ τ0 S0 hp
theorem s_containsI {l : List Int} {p : Int → Option (Bool)} {ca100 ca200 : C} {m f : M} {Q : V → M → Prop} {rz : Bool} (hS : Pre f m) (ha100 : Sl f ca100 l) (ha200 : Fv_Int_Bool f ca200 p) (hp : pcontainsI l p = some rz) (hq : ∀ m', Ext m m' → Q (.c (.bool rz)) m') : Wc prog tbl 120 [.c ca100, .c ca200] m Q := by
  have S0 := hS.st
  obtain ⟨τ0, _⟩ : ∃ τ : Nat → Nat, True := ⟨fun _ => 0, trivial⟩
  refine w120 ?_
  unfold pcontainsI at hp
  obtain ⟨r1572, g1573, hp⟩ := bsome hp
  refine s_indexI (l := l) (p := p) S0.pre ha100 ha200 g1573 fun m1 e1576 => ?_
  obtain ⟨S1574, k1575⟩ := S0.call e1576 τ0
  refine ⟨_, rfl, ?_⟩
  obtain rfl := Option.some.inj hp
  exact hq _ S1574.ext'
theorem s_eachI {l : List Int} {passes : Int → Option (Bool)} {ca100 ca200 : C} {m f : M} {Q : V → M → Prop} {rz : Bool} (hS : Pre f m) (ha100 : Sl f ca100 l) (ha200 : Fv_Int_Bool f ca200 passes) (hp : peachI l passes = some rz) (hq : ∀ m', Ext m m' → Q (.c (.bool rz)) m') : Wc prog tbl 106 [.c ca100, .c ca200] m Q := by
  have S0 := hS.st
  obtain ⟨τ0, _⟩ : ∃ τ : Nat → Nat, True := ⟨fun _ => 0, trivial⟩
  refine w106 ?_
  unfold peachI at hp
  intro m0 e1577
  obtain ⟨τ1580, S1578, k1579, L1581⟩ := S0.blk e1577 τ0 1
  obtain ⟨f1582, S1583, k1584, hb1585⟩ := L1581.freeze S1578
  have hF1587 : Fv_Int_Bool f1582 ((C.fn (Fn.func 121) [] [(W.c (C0.ptr m.nxt 0))])) (fun a1586 => peachI1 a1586 passes) := by
    intro f' m' a1586 r Q hs hpre  hg hq
    exact s_eachI1 hpre (hb1585.sub hs) ((ha200.sub k1584.fs).sub hs) hg hq
  obtain ⟨r1588, g1589, hp⟩ := bsome hp
  refine s_containsI (l := l) (p := (fun a1586 => peachI1 a1586 passes)) S1583.pre (ha100.sub k1584.fs) hF1587 g1589 fun m2 e1592 => ?_
  obtain ⟨S1590, k1591⟩ := S1583.call e1592 τ1580
  refine ⟨_, rfl, ?_⟩
  obtain rfl := Option.some.inj hp
  exact hq _ S1590.ext'
theorem s_eachL1 {x : List Int} {passes : List Int → Option (Bool)} {b0 : Nat} {ca100 cb000 : C} {m f : M} {Q : V → M → Prop} {rz : Bool} (hS : Pre f m) (ha100 : Sl f ca100 x) (hb0 : Bk f b0 1 [cb000]) (hb000 : Fv_LInt_Bool f cb000 passes) (hp : peachL1 x passes = some rz) (hq : ∀ m', Ext m m' → Q (.c (.bool rz)) m') : Wc prog tbl 134 [.c ca100, .c (.ptr b0 0)] m Q := by
  have S0 := hS.st
  obtain ⟨τ0, _⟩ : ∃ τ : Nat → Nat, True := ⟨fun _ => 0, trivial⟩
  refine c134 ?_
  unfold peachL1 at hp
  refine ⟨_, (hb0.sub S0.sub).rc rfl, ?_⟩
  obtain ⟨r1593, g1594, hp⟩ := bsome hp
  refine hb000 _ _ _ _ _ _ (Sub.refl _) S0.pre ha100 g1594 fun m2 e1597 => ?_
  obtain ⟨S1595, k1596⟩ := S0.call e1597 τ0
  refine ⟨_, rfl, ?_⟩
  obtain rfl := Option.some.inj hp
  exact hq _ S1595.ext'
theorem s_indexL {l : List (List Int)} {p : List Int → Option (Bool)} {ca100 ca200 : C} {m f : M} {Q : V → M → Prop} {rz : Int} (hS : Pre f m) (ha100 : Sl f ca100 l) (ha200 : Fv_LInt_Bool f ca200 p) (hp : pindexL l p = some rz) (hq : ∀ m', Ext m m' → Q (.c (.int .i64 rz)) m') : Wc prog tbl 135 [.c ca100, .c ca200] m Q := by
  have S0 := hS.st
  obtain ⟨τ0, _⟩ : ∃ τ : Nat → Nat, True := ⟨fun _ => 0, trivial⟩
  refine w135 ?_
  unfold pindexL at hp
  refine ⟨ha100.isSl, ?_⟩
  intro R0 hR0
  have hgo : ∀ (d1600 : Nat) (x1 : Int) (x2 : Int) (m3 : M) (τ1599 : Nat → Nat), St (Fm.of m) f f m3 → pindexL_L0 l p d1600 x2 = some rz → R0 [.c (.int .i64 x1), .c (.int .i64 x2)] m3 := by
    intro d1600
    induction d1600 with
    | zero => intro x1 x2 m3 τ1599 S1598 hp; cases hp
    | succ d1600 ihR0 =>
      intro x1 x2 m3 τ1599 S1598 hp
      refine hR0 _ _ _ ?_
      rw [pindexL_L0] at hp
      try rw [ha100.slLen]
      rw [ifB_dec]
      refine ⟨fun q1601 => ?_, fun q1601 => ?_⟩
      · skip
        rw [if_pos q1601] at hp
        obtain ⟨v1602, g1603, hp⟩ := bsome hp
        obtain ⟨n4, g1603i, g1603l, g1603⟩ := idx_some g1603
        obtain ⟨c1604, r1605, h1606⟩ := ha100.rdS g1603
        refine ⟨n4, g1603i, (by first | exact g1603l | (rw [ha100.slLen]; exact g1603l)), _, (r1605 _ S1598.sub), ?_⟩
        obtain ⟨r1607, g1608, hp⟩ := bsome hp
        refine ha200 _ _ _ _ _ _ (Sub.refl _) S1598.pre h1606 g1608 fun m7 e1611 => ?_
        obtain ⟨S1609, k1610⟩ := S1598.call e1611 τ1599
        refine ⟨_, rfl, ?_⟩
        rw [ifB_iff]
        refine ⟨fun q1612 => ?_, fun q1612 => ?_⟩
        · skip
          rw [if_pos q1612] at hp
          obtain rfl := Option.some.inj hp
          exact hq _ S1609.ext'
        · skip
          rw [bif_neg q1612] at hp
          obtain ⟨g1613, hp⟩ := gd_some hp
          refine ⟨g1613, ?_⟩
          exact ihR0 _ _ _ τ1599 S1609 hp
      · skip
        rw [if_neg q1601] at hp
        obtain rfl := Option.some.inj hp
        exact hq _ S1598.ext'
  exact hgo _ _ _ _ τ0 S0 hp
theorem s_containsL {l : List (List Int)} {p : List Int → Option (Bool)} {ca100 ca200 : C} {m f : M} {Q : V → M → Prop} {rz : Bool} (hS : Pre f m) (ha100 : Sl f ca100 l) (ha200 : Fv_LInt_Bool f ca200 p) (hp : pcontainsL l p = some rz) (hq : ∀ m', Ext m m' → Q (.c (.bool rz)) m') : Wc prog tbl 133 [.c ca100, .c ca200] m Q := by
  have S0 := hS.st
  obtain ⟨τ0, _⟩ : ∃ τ : Nat → Nat, True := ⟨fun _ => 0, trivial⟩
  refine w133 ?_
  unfold pcontainsL at hp
  obtain ⟨r1614, g1615, hp⟩ := bsome hp
  refine s_indexL (l := l) (p := p) S0.pre ha100 ha200 g1615 fun m1 e1618 => ?_
  obtain ⟨S1616, k1617⟩ := S0.call e1618 τ0
  refine ⟨_, rfl, ?_⟩
  obtain rfl := Option.some.inj hp
  exact hq _ S1616.ext'
theorem s_eachL {l : List (List Int)} {passes : List Int → Option (Bool)} {ca100 ca200 : C} {m f : M} {Q : V → M → Prop} {rz : Bool} (hS : Pre f m) (ha100 : Sl f ca100 l) (ha200 : Fv_LInt_Bool f ca200 passes) (hp : peachL l passes = some rz) (hq : ∀ m', Ext m m' → Q (.c (.bool rz)) m') : Wc prog tbl 124 [.c ca100, .c ca200] m Q := by
  have S0 := hS.st
  obtain ⟨τ0, _⟩ : ∃ τ : Nat → Nat, True := ⟨fun _ => 0, trivial⟩
  refine w124 ?_
  unfold peachL at hp
  intro m0 e1619
  obtain ⟨τ1622, S1620, k1621, L1623⟩ := S0.blk e1619 τ0 1
  obtain ⟨f1624, S1625, k1626, hb1627⟩ := L1623.freeze S1620
  have hF1631 : Fv_LInt_Bool f1624 ((C.fn (Fn.func 134) [] [(W.c (C0.ptr m.nxt 0))])) (fun a1628 => peachL1 a1628 passes) := by
    intro f' m' a1628 c1629 r Q hs hpre h1630 hg hq
    exact s_eachL1 hpre h1630 (hb1627.sub hs) ((ha200.sub k1626.fs).sub hs) hg hq
  obtain ⟨r1632, g1633, hp⟩ := bsome hp
  refine s_containsL (l := l) (p := (fun a1628 => peachL1 a1628 passes)) S1625.pre (ha100.sub k1626.fs) hF1631 g1633 fun m2 e1636 => ?_
  obtain ⟨S1634, k1635⟩ := S1625.call e1636 τ1622
  refine ⟨_, rfl, ?_⟩
  obtain rfl := Option.some.inj hp
  exact hq _ S1634.ext'
theorem s_eachLL1 {x : List (List Int)} {passes : List (List Int) → Option (Bool)} {b0 : Nat} {ca100 cb000 : C} {m f : M} {Q : V → M → Prop} {rz : Bool} (hS : Pre f m) (ha100 : Sl f ca100 x) (hb0 : Bk f b0 1 [cb000]) (hb000 : Fv_LLInt_Bool f cb000 passes) (hp : peachLL1 x passes = some rz) (hq : ∀ m', Ext m m' → Q (.c (.bool rz)) m') : Wc prog tbl 123 [.c ca100, .c (.ptr b0 0)] m Q := by
  have S0 := hS.st
  obtain ⟨τ0, _⟩ : ∃ τ : Nat → Nat, True := ⟨fun _ => 0, trivial⟩
  refine c123 ?_
  unfold peachLL1 at hp
  refine ⟨_, (hb0.sub S0.sub).rc rfl, ?_⟩
  obtain ⟨r1637, g1638, hp⟩ := bsome hp
  refine hb000 _ _ _ _ _ _ (Sub.refl _) S0.pre ha100 g1638 fun m2 e1641 => ?_
  obtain ⟨S1639, k1640⟩ := S0.call e1641 τ0
  refine ⟨_, rfl, ?_⟩
  obtain rfl := Option.some.inj hp
  exact hq _ S1639.ext'
theorem s_indexLL {l : List (List (List Int))} {p : List (List Int) → Option (Bool)} {ca100 ca200 : C} {m f : M} {Q : V → M → Prop} {rz : Int} (hS : Pre f m) (ha100 : Sl f ca100 l) (ha200 : Fv_LLInt_Bool f ca200 p) (hp : pindexLL l p = some rz) (hq : ∀ m', Ext m m' → Q (.c (.int .i64 rz)) m') : Wc prog tbl 132 [.c ca100, .c ca200] m Q := by
  have S0 := hS.st
  obtain ⟨τ0, _⟩ : ∃ τ : Nat → Nat, True := ⟨fun _ => 0, trivial⟩
  refine w132 ?_
  unfold pindexLL at hp
  refine ⟨ha100.isSl, ?_⟩
  intro R0 hR0
  have hgo : ∀ (d1644 : Nat) (x1 : Int) (x2 : Int) (m3 : M) (τ1643 : Nat → Nat), St (Fm.of m) f f m3 → pindexLL_L0 l p d1644 x2 = some rz → R0 [.c (.int .i64 x1), .c (.int .i64 x2)] m3 := by
    intro d1644
    induction d1644 with
    | zero => intro x1 x2 m3 τ1643 S1642 hp; cases hp
    | succ d1644 ihR0 =>
      intro x1 x2 m3 τ1643 S1642 hp
      refine hR0 _ _ _ ?_
      rw [pindexLL_L0] at hp
      try rw [ha100.slLen]
      rw [ifB_dec]
      refine ⟨fun q1645 => ?_, fun q1645 => ?_⟩
      · skip
        rw [if_pos q1645] at hp
        obtain ⟨v1646, g1647, hp⟩ := bsome hp
        obtain ⟨n4, g1647i, g1647l, g1647⟩ := idx_some g1647
        obtain ⟨c1648, r1649, h1650⟩ := ha100.rdS g1647
        refine ⟨n4, g1647i, (by first | exact g1647l | (rw [ha100.slLen]; exact g1647l)), _, (r1649 _ S1642.sub), ?_⟩
        obtain ⟨r1651, g1652, hp⟩ := bsome hp
        refine ha200 _ _ _ _ _ _ (Sub.refl _) S1642.pre h1650 g1652 fun m7 e1655 => ?_
        obtain ⟨S1653, k1654⟩ := S1642.call e1655 τ1643
        refine ⟨_, rfl, ?_⟩
        rw [ifB_iff]
        refine ⟨fun q1656 => ?_, fun q1656 => ?_⟩
        · skip
          rw [if_pos q1656] at hp
          obtain rfl := Option.some.inj hp
          exact hq _ S1653.ext'
        · skip
          rw [bif_neg q1656] at hp
          obtain ⟨g1657, hp⟩ := gd_some hp
          refine ⟨g1657, ?_⟩
          exact ihR0 _ _ _ τ1643 S1653 hp
      · skip
        rw [if_neg q1645] at hp
        obtain rfl := Option.some.inj hp
        exact hq _ S1642.ext'
  exact hgo _ _ _ _ τ0 S0 hp
theorem s_containsLL {l : List (List (List Int))} {p : List (List Int) → Option (Bool)} {ca100 ca200 : C} {m f : M} {Q : V → M → Prop} {rz : Bool} (hS : Pre f m) (ha100 : Sl f ca100 l) (ha200 : Fv_LLInt_Bool f ca200 p) (hp : pcontainsLL l p = some rz) (hq : ∀ m', Ext m m' → Q (.c (.bool rz)) m') : Wc prog tbl 122 [.c ca100, .c ca200] m Q := by
  have S0 := hS.st
  obtain ⟨τ0, _⟩ : ∃ τ : Nat → Nat, True := ⟨fun _ => 0, trivial⟩
  refine w122 ?_
  unfold pcontainsLL at hp
  obtain ⟨r1658, g1659, hp⟩ := bsome hp
  refine s_indexLL (l := l) (p := p) S0.pre ha100 ha200 g1659 fun m1 e1662 => ?_
  obtain ⟨S1660, k1661⟩ := S0.call e1662 τ0
  refine ⟨_, rfl, ?_⟩
  obtain rfl := Option.some.inj hp
  exact hq _ S1660.ext'
theorem s_eachLL {l : List (List (List Int))} {passes : List (List Int) → Option (Bool)} {ca100 ca200 : C} {m f : M} {Q : V → M → Prop} {rz : Bool} (hS : Pre f m) (ha100 : Sl f ca100 l) (ha200 : Fv_LLInt_Bool f ca200 passes) (hp : peachLL l passes = some rz) (hq : ∀ m', Ext m m' → Q (.c (.bool rz)) m') : Wc prog tbl 107 [.c ca100, .c ca200] m Q := by
  have S0 := hS.st
  obtain ⟨τ0, _⟩ : ∃ τ : Nat → Nat, True := ⟨fun _ => 0, trivial⟩
  refine w107 ?_
  unfold peachLL at hp
  intro m0 e1663
  obtain ⟨τ1666, S1664, k1665, L1667⟩ := S0.blk e1663 τ0 1
  obtain ⟨f1668, S1669, k1670, hb1671⟩ := L1667.freeze S1664
  have hF1675 : Fv_LLInt_Bool f1668 ((C.fn (Fn.func 123) [] [(W.c (C0.ptr m.nxt 0))])) (fun a1672 => peachLL1 a1672 passes) := by
    intro f' m' a1672 c1673 r Q hs hpre h1674 hg hq
    exact s_eachLL1 hpre h1674 (hb1671.sub hs) ((ha200.sub k1670.fs).sub hs) hg hq
  obtain ⟨r1676, g1677, hp⟩ := bsome hp
  refine s_containsLL (l := l) (p := (fun a1672 => peachLL1 a1672 passes)) S1669.pre (ha100.sub k1670.fs) hF1675 g1677 fun m2 e1680 => ?_
  obtain ⟨S1678, k1679⟩ := S1669.call e1680 τ1666
  refine ⟨_, rfl, ?_⟩
  obtain rfl := Option.some.inj hp
  exact hq _ S1678.ext'
theorem s_within {r : Rg} {passes : Int → Option (Bool)} {ca200 : C} {m f : M} {Q : V → M → Prop} {rz : Bool} (hS : Pre f m) (ha200 : Fv_Int_Bool f ca200 passes) (hp : pwithin r passes = some rz) (hq : ∀ m', Ext m m' → Q (.c (.bool rz)) m') : Wc prog tbl 111 [.agg 2 [(.int .i64 r.Lo), (.int .i64 r.Hi)], .c ca200] m Q := by
  have S0 := hS.st
  obtain ⟨τ0, _⟩ : ∃ τ : Nat → Nat, True := ⟨fun _ => 0, trivial⟩
  refine w111 ?_
  unfold pwithin at hp
  intro m0 e1681
  obtain ⟨τ1684, S1682, k1683, L1685⟩ := S0.blk e1681 τ0 1
  refine ⟨trivial, _, L1685.bk.rc rfl, trivial, _, L1685.bk.rc rfl, ?_⟩
  rw [ifB_dec]
  refine ⟨fun q1686 => ?_, fun q1686 => ?_⟩
  · skip
    rw [if_pos q1686] at hp
    refine ⟨trivial, _, L1685.bk.rc rfl, ?_⟩
    obtain ⟨r1687, g1688, hp⟩ := bsome hp
    refine ha200 _ _ _ _ _ (Sub.refl _) S1682.pre  g1688 fun m5 e1691 => ?_
    obtain ⟨S1689, k1690⟩ := S1682.call e1691 τ1684
    have L1692 := L1685.k k1690 (by decide)
    refine ⟨_, rfl, ?_⟩
    rw [ifB_iff]
    refine ⟨fun q1693 => ?_, fun q1693 => ?_⟩
    · skip
      rw [if_pos q1693] at hp
      refine ⟨trivial, _, L1692.bk.rc rfl, ?_⟩
      obtain ⟨r1694, g1695, hp⟩ := bsome hp
      refine ha200 _ _ _ _ _ (Sub.refl _) S1689.pre  g1695 fun m9 e1698 => ?_
      obtain ⟨S1696, k1697⟩ := S1689.call e1698 τ1684
      have L1699 := L1692.k k1697 (by decide)
      refine ⟨_, rfl, ?_⟩
      obtain rfl := Option.some.inj hp
      exact hq _ S1696.ext'
    · skip
      rw [bif_neg q1693] at hp
      obtain rfl := Option.some.inj hp
      exact hq _ S1689.ext'
  · skip
    rw [if_neg q1686] at hp
    obtain rfl := Option.some.inj hp
    exact hq _ S1682.ext'
theorem s_validWeek {t : Tf} {rates : List Int} {ca103 ca104 ca105 ca200 : C} {m f : M} {Q : V → M → Prop} {rz : Bool} (hS : Pre f m) (ha103 : Sl f ca103 t.Weeks) (ha104 : Sl f ca104 t.Counts) (ha105 : Sl f ca105 t.Rates) (ha200 : Sl f ca200 rates) (hp : pvalidWeek t rates = some rz) (hq : ∀ m', Ext m m' → Q (.c (.bool rz)) m') : Wc prog tbl 125 [.agg 6 [(.int .i64 t.From), (.bool t.Whole), (.int .i64 t.Least), ca103, ca104, ca105], .c ca200] m Q := by
  have S0 := hS.st
  obtain ⟨τ0, _⟩ : ∃ τ : Nat → Nat, True := ⟨fun _ => 0, trivial⟩
  refine w125 ?_
  unfold pvalidWeek at hp
  intro m0 e1700
  obtain ⟨τ1703, S1701, k1702, L1704⟩ := S0.blk e1700 τ0 1
  refine ⟨ha200.isSl, trivial, _, L1704.bk.rc rfl, ha104.isSl, ?_⟩
  try rw [ha200.slLen]
  try rw [ha104.slLen]
  rw [ifB_dec]
  refine ⟨fun q1705 => ?_, fun q1705 => ?_⟩
  · skip
    rw [if_pos q1705] at hp
    have hF1707 : Fv_Int_Bool f ((C.fn (Fn.func 105) [] [])) (fun a1706 => pisHundredths a1706) := by
      intro f' m' a1706 r Q hs hpre  hg hq
      exact s_isHundredths hpre  hg hq
    obtain ⟨r1708, g1709, hp⟩ := bsome hp
    refine s_eachI (l := rates) (passes := (fun a1706 => pisHundredths a1706)) S1701.pre ha200 hF1707 g1709 fun m3 e1712 => ?_
    obtain ⟨S1710, k1711⟩ := S1701.call e1712 τ1703
    have L1713 := L1704.k k1711 (by decide)
    refine ⟨_, rfl, ?_⟩
    obtain rfl := Option.some.inj hp
    exact hq _ S1710.ext'
  · skip
    rw [if_neg q1705] at hp
    obtain rfl := Option.some.inj hp
    exact hq _ S1701.ext'
theorem s_validCrop {t : Tf} {weeks : List (List Int)} {ca103 ca104 ca105 ca200 : C} {m f : M} {Q : V → M → Prop} {rz : Bool} (hS : Pre f m) (ha103 : Sl f ca103 t.Weeks) (ha104 : Sl f ca104 t.Counts) (ha105 : Sl f ca105 t.Rates) (ha200 : Sl f ca200 weeks) (hp : pvalidCrop t weeks = some rz) (hq : ∀ m', Ext m m' → Q (.c (.bool rz)) m') : Wc prog tbl 108 [.agg 6 [(.int .i64 t.From), (.bool t.Whole), (.int .i64 t.Least), ca103, ca104, ca105], .c ca200] m Q := by
  have S0 := hS.st
  obtain ⟨τ0, _⟩ : ∃ τ : Nat → Nat, True := ⟨fun _ => 0, trivial⟩
  refine w108 ?_
  unfold pvalidCrop at hp
  intro m0 e1714
  obtain ⟨τ1717, S1715, k1716, L1718⟩ := S0.blk e1714 τ0 1
  refine ⟨ha200.isSl, trivial, _, L1718.bk.rc rfl, ha103.isSl, ?_⟩
  try rw [ha200.slLen]
  try rw [ha103.slLen]
  rw [ifB_dec]
  refine ⟨fun q1719 => ?_, fun q1719 => ?_⟩
  · skip
    rw [if_pos q1719] at hp
    refine ⟨_, _, _, _, _, _, L1718.bk.ra, ?_⟩
    obtain ⟨l8, wl8, el8⟩ : ∃ ws, mapO vW [.agg 6 [(.int .i64 t.From), (.bool t.Whole), (.int .i64 t.Least), ca103, ca104, ca105]] = some ws ∧ mapS wV ws = [.agg 6 [(.int .i64 t.From), (.bool t.Whole), (.int .i64 t.Least), ca103, ca104, ca105]] := (vWs_cons (vW_agg (nf_cons rfl (nf_cons rfl (nf_cons rfl (nf_cons ha103.noFn (nf_cons ha104.noFn (nf_cons ha105.noFn nf_nil))))))) vWs_nil)
    rw [wl8, optB_some]
    have hF1723 : Fv_LInt_Bool f ((C.fn (Fn.func 125) l8 [])) (fun a1720 => pvalidWeek t a1720) := by
      intro f' m' a1720 c1721 r Q hs hpre h1722 hg hq
      show Wc prog tbl 125 (appS (mapS wV l8) _) m' Q
      rw [el8]
      exact s_validWeek hpre (ha103.sub hs) (ha104.sub hs) (ha105.sub hs) h1722 hg hq
    obtain ⟨r1724, g1725, hp⟩ := bsome hp
    refine s_eachL (l := weeks) (passes := (fun a1720 => pvalidWeek t a1720)) S1715.pre ha200 hF1723 g1725 fun m10 e1728 => ?_
    obtain ⟨S1726, k1727⟩ := S1715.call e1728 τ1717
    have L1729 := L1718.k k1727 (by decide)
    refine ⟨_, rfl, ?_⟩
    obtain rfl := Option.some.inj hp
    exact hq _ S1726.ext'
  · skip
    rw [if_neg q1719] at hp
    obtain rfl := Option.some.inj hp
    exact hq _ S1715.ext'
theorem s_tfValid {t : Tf} {ca103 ca104 ca105 : C} {m f : M} {Q : V → M → Prop} {rz : Bool} (hS : Pre f m) (ha103 : Sl f ca103 t.Weeks) (ha104 : Sl f ca104 t.Counts) (ha105 : Sl f ca105 t.Rates) (hp : ptfValid t = some rz) (hq : ∀ m', Ext m m' → Q (.c (.bool rz)) m') : Wc prog tbl 85 [.agg 6 [(.int .i64 t.From), (.bool t.Whole), (.int .i64 t.Least), ca103, ca104, ca105]] m Q := by
  have S0 := hS.st
  obtain ⟨τ0, _⟩ : ∃ τ : Nat → Nat, True := ⟨fun _ => 0, trivial⟩
  refine w85 ?_
  unfold ptfValid at hp
  intro m0 e1730
  obtain ⟨τ1733, S1731, k1732, L1734⟩ := S0.blk e1730 τ0 1
  refine ⟨trivial, _, L1734.bk.rc rfl, ?_⟩
  obtain ⟨r1735, g1736, hp⟩ := bsome hp
  refine s_isDay (n := t.From) S1731.pre  g1736 fun m3 e1739 => ?_
  obtain ⟨S1737, k1738⟩ := S1731.call e1739 τ1733
  have L1740 := L1734.k k1738 (by decide)
  refine ⟨_, rfl, ?_⟩
  rw [ifB_iff]
  refine ⟨fun q1741 => ?_, fun q1741 => ?_⟩
  · skip
    rw [if_pos q1741] at hp
    refine ⟨trivial, _, L1740.bk.rc rfl, ?_⟩
    obtain ⟨r1742, g1743, hp⟩ := bsome hp
    refine s_isHundredths (n := t.Least) S1737.pre  g1743 fun m7 e1746 => ?_
    obtain ⟨S1744, k1745⟩ := S1737.call e1746 τ1733
    have L1747 := L1740.k k1745 (by decide)
    refine ⟨_, rfl, ?_⟩
    rw [ifB_iff]
    refine ⟨fun q1748 => ?_, fun q1748 => ?_⟩
    · skip
      rw [if_pos q1748] at hp
      refine ⟨trivial, _, L1747.bk.rc rfl, ?_⟩
      obtain ⟨r1749, g1750, hp⟩ := bsome hp
      refine s_rises (l := t.Weeks) S1744.pre ha103 g1750 fun m11 e1753 => ?_
      obtain ⟨S1751, k1752⟩ := S1744.call e1753 τ1733
      have L1754 := L1747.k k1752 (by decide)
      refine ⟨_, rfl, ?_⟩
      rw [ifB_iff]
      refine ⟨fun q1755 => ?_, fun q1755 => ?_⟩
      · skip
        rw [if_pos q1755] at hp
        refine ⟨trivial, _, L1754.bk.rc rfl, ?_⟩
        have hF1757 : Fv_Int_Bool f ((C.fn (Fn.func 55) [] [])) (fun a1756 => pisDay a1756) := by
          intro f' m' a1756 r Q hs hpre  hg hq
          exact s_isDay hpre  hg hq
        obtain ⟨r1758, g1759, hp⟩ := bsome hp
        refine s_eachI (l := t.Weeks) (passes := (fun a1756 => pisDay a1756)) S1751.pre ha103 hF1757 g1759 fun m15 e1762 => ?_
        obtain ⟨S1760, k1761⟩ := S1751.call e1762 τ1733
        have L1763 := L1754.k k1761 (by decide)
        refine ⟨_, rfl, ?_⟩
        rw [ifB_iff]
        refine ⟨fun q1764 => ?_, fun q1764 => ?_⟩
        · skip
          rw [if_pos q1764] at hp
          refine ⟨trivial, _, L1763.bk.rc rfl, ?_⟩
          obtain ⟨r1765, g1766, hp⟩ := bsome hp
          refine s_rises (l := t.Counts) S1760.pre ha104 g1766 fun m19 e1769 => ?_
          obtain ⟨S1767, k1768⟩ := S1760.call e1769 τ1733
          have L1770 := L1763.k k1768 (by decide)
          refine ⟨_, rfl, ?_⟩
          rw [ifB_iff]
          refine ⟨fun q1771 => ?_, fun q1771 => ?_⟩
          · skip
            rw [if_pos q1771] at hp
            refine ⟨trivial, _, L1770.bk.rc rfl, trivial, _, L1770.bk.rc rfl, ha104.isSl, ?_⟩
            obtain ⟨g1772, hp⟩ := gd_some hp
            refine ⟨(by first | exact g1772 | (rw [ha104.slLen]; exact g1772)), ?_⟩
            obtain ⟨x1773, g1774, hp⟩ := bsome hp
            obtain ⟨n23, g1774i, g1774l, g1774⟩ := idx_some g1774
            refine ⟨n23, (by first | exact g1774i | (rw [ha104.slLen]; exact g1774i)), (by first | exact g1774l | (rw [ha104.slLen]; exact g1774l)), _, (ha104.rdI g1774 S1767.sub), ?_⟩
            rw [ifB_dec]
            refine ⟨fun q1775 => ?_, fun q1775 => ?_⟩
            · skip
              rw [if_pos q1775] at hp
              refine ⟨trivial, _, L1770.bk.rc rfl, ha105.isSl, ?_⟩
              try rw [ha105.slLen]
              rw [ifB_dec]
              refine ⟨fun q1776 => ?_, fun q1776 => ?_⟩
              · skip
                rw [if_pos q1776] at hp
                refine ⟨trivial, _, L1770.bk.rc rfl, _, _, _, _, _, _, L1770.bk.ra, ?_⟩
                obtain ⟨l33, wl33, el33⟩ : ∃ ws, mapO vW [.agg 6 [(.int .i64 t.From), (.bool t.Whole), (.int .i64 t.Least), ca103, ca104, ca105]] = some ws ∧ mapS wV ws = [.agg 6 [(.int .i64 t.From), (.bool t.Whole), (.int .i64 t.Least), ca103, ca104, ca105]] := (vWs_cons (vW_agg (nf_cons rfl (nf_cons rfl (nf_cons rfl (nf_cons ha103.noFn (nf_cons ha104.noFn (nf_cons ha105.noFn nf_nil))))))) vWs_nil)
                rw [wl33, optB_some]
                have hF1780 : Fv_LLInt_Bool f ((C.fn (Fn.func 108) l33 [])) (fun a1777 => pvalidCrop t a1777) := by
                  intro f' m' a1777 c1778 r Q hs hpre h1779 hg hq
                  show Wc prog tbl 108 (appS (mapS wV l33) _) m' Q
                  rw [el33]
                  exact s_validCrop hpre (ha103.sub hs) (ha104.sub hs) (ha105.sub hs) h1779 hg hq
                obtain ⟨r1781, g1782, hp⟩ := bsome hp
                refine s_eachLL (l := t.Rates) (passes := (fun a1777 => pvalidCrop t a1777)) S1767.pre ha105 hF1780 g1782 fun m35 e1785 => ?_
                obtain ⟨S1783, k1784⟩ := S1767.call e1785 τ1733
                have L1786 := L1770.k k1784 (by decide)
                refine ⟨_, rfl, ?_⟩
                obtain rfl := Option.some.inj hp
                exact hq _ S1783.ext'
              · skip
                rw [if_neg q1776] at hp
                obtain rfl := Option.some.inj hp
                exact hq _ S1767.ext'
            · skip
              rw [if_neg q1775] at hp
              obtain rfl := Option.some.inj hp
              exact hq _ S1767.ext'
          · skip
            rw [bif_neg q1771] at hp
            obtain rfl := Option.some.inj hp
            exact hq _ S1767.ext'
        · skip
          rw [bif_neg q1764] at hp
          obtain rfl := Option.some.inj hp
          exact hq _ S1760.ext'
      · skip
        rw [bif_neg q1755] at hp
        obtain rfl := Option.some.inj hp
        exact hq _ S1751.ext'
    · skip
      rw [bif_neg q1748] at hp
      obtain rfl := Option.some.inj hp
      exact hq _ S1744.ext'
  · skip
    rw [bif_neg q1741] at hp
    obtain rfl := Option.some.inj hp
    exact hq _ S1737.ext'
theorem s_tooMany {l : List Tf} {ca100 : C} {m f : M} {Q : V → M → Prop} {rz : Bool} (hS : Pre f m) (ha100 : Sl f ca100 l) (hp : ptooMany l = some rz) (hq : ∀ m', Ext m m' → Q (.c (.bool rz)) m') : Wc prog tbl 60 [.c ca100] m Q := by
  have S0 := hS.st
  obtain ⟨τ0, _⟩ : ∃ τ : Nat → Nat, True := ⟨fun _ => 0, trivial⟩
  refine w60 ?_
  unfold ptooMany at hp
  refine ⟨ha100.isSl, ?_⟩
  try rw [ha100.slLen]
  rw [ifB_dec]
  refine ⟨fun q1787 => ?_, fun q1787 => ?_⟩
  · skip
    rw [if_pos q1787] at hp
    obtain rfl := Option.some.inj hp
    exact hq _ S0.ext'
  · skip
    rw [if_neg q1787] at hp
    have hF1795 : Fv_Tf_Bool f ((C.fn (Fn.func 83) [] [])) (fun a1788 => ptfTooMany a1788) := by
      intro f' m' a1788 c1789 c1791 c1793 r Q hs hpre h1790 h1792 h1794 hg hq
      exact s_tfTooMany hpre h1790 h1792 h1794 hg hq
    obtain ⟨r1796, g1797, hp⟩ := bsome hp
    refine s_containsTfs (l := l) (p := (fun a1788 => ptfTooMany a1788)) S0.pre ha100 hF1795 g1797 fun m1 e1800 => ?_
    obtain ⟨S1798, k1799⟩ := S0.call e1800 τ0
    refine ⟨_, rfl, ?_⟩
    obtain rfl := Option.some.inj hp
    exact hq _ S1798.ext'
theorem s_tfsValid {l : List Tf} {ca100 : C} {m f : M} {Q : V → M → Prop} {rz : Bool} (hS : Pre f m) (ha100 : Sl f ca100 l) (hp : ptfsValid l = some rz) (hq : ∀ m', Ext m m' → Q (.c (.bool rz)) m') : Wc prog tbl 61 [.c ca100] m Q := by
  have S0 := hS.st
  obtain ⟨τ0, _⟩ : ∃ τ : Nat → Nat, True := ⟨fun _ => 0, trivial⟩
  refine w61 ?_
  unfold ptfsValid at hp
  have hF1808 : Fv_Tf_Bool f ((C.fn (Fn.func 85) [] [])) (fun a1801 => ptfValid a1801) := by
    intro f' m' a1801 c1802 c1804 c1806 r Q hs hpre h1803 h1805 h1807 hg hq
    exact s_tfValid hpre h1803 h1805 h1807 hg hq
  obtain ⟨r1809, g1810, hp⟩ := bsome hp
  refine s_eachTf (l := l) (passes := (fun a1801 => ptfValid a1801)) S0.pre ha100 hF1808 g1810 fun m1 e1813 => ?_
  obtain ⟨S1811, k1812⟩ := S0.call e1813 τ0
  refine ⟨_, rfl, ?_⟩
  rw [ifB_iff]
  refine ⟨fun q1814 => ?_, fun q1814 => ?_⟩
  · skip
    rw [if_pos q1814] at hp
    obtain ⟨r1815, g1816, hp⟩ := bsome hp
    refine s_froms (l := l) S1811.pre ha100 g1816 fun m4 f1820 c1821 e1819 h1822 => ?_
    obtain ⟨S1817, k1818⟩ := S1811.callG e1819 τ0
    refine ⟨_, rfl, ?_⟩
    obtain ⟨r1823, g1824, hp⟩ := bsome hp
    refine s_rises (l := r1815) S1817.pre h1822 g1824 fun m7 e1827 => ?_
    obtain ⟨S1825, k1826⟩ := S1817.call e1827 τ0
    refine ⟨_, rfl, ?_⟩
    rw [ifB_iff]
    refine ⟨fun q1828 => ?_, fun q1828 => ?_⟩
    · skip
      rw [if_pos q1828] at hp
      obtain ⟨l9, wl9, el9⟩ : ∃ ws, mapO vW [.c ca100] = some ws ∧ mapS wV ws = [.c ca100] := (vWs_cons (vW_c ha100.noFn) vWs_nil)
      rw [wl9, optB_some]
      have hF1836 : Fv_Tf_Bool f1820 ((C.fn (Fn.func 88) l9 [])) (fun a1829 => psameCrops l a1829) := by
        intro f' m' a1829 c1830 c1832 c1834 r Q hs hpre h1831 h1833 h1835 hg hq
        show Wc prog tbl 88 (appS (mapS wV l9) _) m' Q
        rw [el9]
        exact s_sameCrops hpre ((ha100.sub k1818.fs).sub hs) h1831 h1833 h1835 hg hq
      obtain ⟨r1837, g1838, hp⟩ := bsome hp
      refine s_eachTf (l := l) (passes := (fun a1829 => psameCrops l a1829)) S1825.pre (ha100.sub k1818.fs) hF1836 g1838 fun m11 e1841 => ?_
      obtain ⟨S1839, k1840⟩ := S1825.call e1841 τ0
      refine ⟨_, rfl, ?_⟩
      obtain rfl := Option.some.inj hp
      exact hq _ S1839.ext'
    · skip
      rw [bif_neg q1828] at hp
      obtain rfl := Option.some.inj hp
      exact hq _ S1825.ext'
  · skip
    rw [bif_neg q1814] at hp
    obtain rfl := Option.some.inj hp
    exact hq _ S1811.ext'
theorem s_validClaim {l : List Tf} {c : Clm} {ca100 : C} {m f : M} {Q : V → M → Prop} {rz : Bool} (hS : Pre f m) (ha100 : Sl f ca100 l) (hp : pvalidClaim l c = some rz) (hq : ∀ m', Ext m m' → Q (.c (.bool rz)) m') : Wc prog tbl 90 [.c ca100, .agg 6 [(.int .i64 c.Crop), (.int .i64 c.Value), (.int .i64 c.Day.Lo), (.int .i64 c.Day.Hi), (.int .i64 c.Count.Lo), (.int .i64 c.Count.Hi)]] m Q := by
  have S0 := hS.st
  obtain ⟨τ0, _⟩ : ∃ τ : Nat → Nat, True := ⟨fun _ => 0, trivial⟩
  refine w90 ?_
  unfold pvalidClaim at hp
  intro m0 e1842
  obtain ⟨τ1845, S1843, k1844, L1846⟩ := S0.blk e1842 τ0 1
  refine ⟨trivial, _, L1846.bk.rc rfl, ?_⟩
  obtain ⟨r1847, g1848, hp⟩ := bsome hp
  refine s_hasCrop (l := l) (n := c.Crop) S1843.pre ha100 g1848 fun m3 e1851 => ?_
  obtain ⟨S1849, k1850⟩ := S1843.call e1851 τ1845
  have L1852 := L1846.k k1850 (by decide)
  refine ⟨_, rfl, ?_⟩
  rw [ifB_iff]
  refine ⟨fun q1853 => ?_, fun q1853 => ?_⟩
  · skip
    rw [if_pos q1853] at hp
    refine ⟨trivial, _, L1852.bk.rc rfl, ?_⟩
    obtain ⟨r1854, g1855, hp⟩ := bsome hp
    refine s_has (r := ({ Lo := (0 : Int), Hi := (100000 : Int) } : Rg)) (n := c.Value) S1849.pre  g1855 fun m7 e1858 => ?_
    obtain ⟨S1856, k1857⟩ := S1849.call e1858 τ1845
    have L1859 := L1852.k k1857 (by decide)
    refine ⟨_, rfl, ?_⟩
    rw [ifB_iff]
    refine ⟨fun q1860 => ?_, fun q1860 => ?_⟩
    · skip
      rw [if_pos q1860] at hp
      refine ⟨trivial, _, _, L1859.bk.rp (k := 2) (j := 2) rfl (by omega), ?_⟩
      have hF1862 : Fv_Int_Bool f ((C.fn (Fn.func 55) [] [])) (fun a1861 => pisDay a1861) := by
        intro f' m' a1861 r Q hs hpre  hg hq
        exact s_isDay hpre  hg hq
      obtain ⟨r1863, g1864, hp⟩ := bsome hp
      refine s_within (r := c.Day) (passes := (fun a1861 => pisDay a1861)) S1856.pre hF1862 g1864 fun m12 e1867 => ?_
      obtain ⟨S1865, k1866⟩ := S1856.call e1867 τ1845
      have L1868 := L1859.k k1866 (by decide)
      refine ⟨_, rfl, ?_⟩
      rw [ifB_iff]
      refine ⟨fun q1869 => ?_, fun q1869 => ?_⟩
      · skip
        rw [if_pos q1869] at hp
        refine ⟨trivial, trivial, _, L1868.bk.rc rfl, trivial, trivial, _, L1868.bk.rc rfl, ?_⟩
        obtain ⟨g1870, hp⟩ := gd_some hp
        refine ⟨g1870, ?_⟩
        rw [ifB_dec]
        refine ⟨fun q1871 => ?_, fun q1871 => ?_⟩
        · skip
          rw [if_pos q1871] at hp
          refine ⟨trivial, _, _, L1868.bk.rp (k := 4) (j := 2) rfl (by omega), ?_⟩
          have hF1873 : Fv_Int_Bool f ((C.fn (Fn.func 56) [] [])) (fun a1872 => pisCount a1872) := by
            intro f' m' a1872 r Q hs hpre  hg hq
            exact s_isCount hpre  hg hq
          obtain ⟨r1874, g1875, hp⟩ := bsome hp
          refine s_within (r := c.Count) (passes := (fun a1872 => pisCount a1872)) S1865.pre hF1873 g1875 fun m19 e1878 => ?_
          obtain ⟨S1876, k1877⟩ := S1865.call e1878 τ1845
          have L1879 := L1868.k k1877 (by decide)
          refine ⟨_, rfl, ?_⟩
          obtain rfl := Option.some.inj hp
          exact hq _ S1876.ext'
        · skip
          rw [if_neg q1871] at hp
          obtain rfl := Option.some.inj hp
          exact hq _ S1865.ext'
      · skip
        rw [bif_neg q1869] at hp
        obtain rfl := Option.some.inj hp
        exact hq _ S1865.ext'
    · skip
      rw [bif_neg q1860] at hp
      obtain rfl := Option.some.inj hp
      exact hq _ S1856.ext'
  · skip
    rw [bif_neg q1853] at hp
    obtain rfl := Option.some.inj hp
    exact hq _ S1849.ext'
theorem s_check {l : List Tf} {ca100 : C} {m f : M} {Q : V → M → Prop} {rz : Int} (hS : Pre f m) (ha100 : Sl f ca100 l) (hp : pcheck l = some rz) (hq : ∀ m', Ext m m' → Q (.c (.int .i64 rz)) m') : Wc prog tbl 21 [.c ca100] m Q := by
  have S0 := hS.st
  obtain ⟨τ0, _⟩ : ∃ τ : Nat → Nat, True := ⟨fun _ => 0, trivial⟩
  refine w21 ?_
  unfold pcheck at hp
  obtain ⟨r1880, g1881, hp⟩ := bsome hp
  refine s_tooMany (l := l) S0.pre ha100 g1881 fun m1 e1884 => ?_
  obtain ⟨S1882, k1883⟩ := S0.call e1884 τ0
  refine ⟨_, rfl, ?_⟩
  rw [ifB_iff]
  refine ⟨fun q1885 => ?_, fun q1885 => ?_⟩
  · skip
    rw [if_pos q1885] at hp
    obtain rfl := Option.some.inj hp
    exact hq _ S1882.ext'
  · skip
    rw [bif_neg q1885] at hp
    obtain ⟨r1886, g1887, hp⟩ := bsome hp
    refine s_tfsValid (l := l) S1882.pre ha100 g1887 fun m4 e1890 => ?_
    obtain ⟨S1888, k1889⟩ := S1882.call e1890 τ0
    refine ⟨_, rfl, ?_⟩
    rw [ifB_iff]
    refine ⟨fun q1891 => ?_, fun q1891 => ?_⟩
    · skip
      rw [bif_neg (nb_f q1891)] at hp
      obtain rfl := Option.some.inj hp
      exact hq _ S1888.ext'
    · skip
      rw [if_pos (nb_t q1891)] at hp
      obtain rfl := Option.some.inj hp
      exact hq _ S1888.ext'
theorem s_manner {t : Tf} {ca103 ca104 ca105 : C} {m f : M} {Q : V → M → Prop} {rz : Mnr} (hS : Pre f m) (ha103 : Sl f ca103 t.Weeks) (ha104 : Sl f ca104 t.Counts) (ha105 : Sl f ca105 t.Rates) (hp : pmanner t = some rz) (hq : ∀ m' f' c0, Grw m f m' f' → Fv_Tf_Int_Int f' c0 rz.paid → Q (.agg 1 [c0]) m') : Wc prog tbl 100 [.agg 6 [(.int .i64 t.From), (.bool t.Whole), (.int .i64 t.Least), ca103, ca104, ca105]] m Q := by
  have S0 := hS.st
  obtain ⟨τ0, _⟩ : ∃ τ : Nat → Nat, True := ⟨fun _ => 0, trivial⟩
  refine w100 ?_
  unfold pmanner at hp
  intro m0 e1918
  obtain ⟨τ1921, S1919, k1920, L1922⟩ := S0.blk e1918 τ0 1
  intro m1 e1923
  obtain ⟨τ1926, S1924, k1925, L1927⟩ := S1919.blk e1923 τ1921 2
  have L1928 := L1922.k k1925 (by decide)
  refine ⟨trivial, _, L1928.bk.rc rfl, ?_⟩
  rw [ifB_iff]
  refine ⟨fun q1929 => ?_, fun q1929 => ?_⟩
  · skip
    rw [if_pos q1929] at hp
    obtain ⟨m1933, e1932, S1930, k1931, L1934⟩ := L1927.sto S1924 [(C.fn (Fn.func 117) [] [])]
    have L1935 := L1928.k k1931 (by decide)
    refine ⟨m1933, e1932, ?_⟩
    refine ⟨_, L1934.bk.ra, ?_⟩
    have hF1944 : Fv_Tf_Int_Int f ((C.fn (Fn.func 117) [] [])) (fun a1936 a1937 => pwhole a1936 a1937) := by
      intro f' m' a1936 a1937 c1938 c1940 c1942 r Q hs hpre h1939 h1941 h1943 hg hq
      exact s_whole hpre h1939 h1941 h1943 hg hq
    obtain rfl := Option.some.inj hp
    exact hq _ f (C.fn (Fn.func 117) [] []) S1930.grw hF1944
  · skip
    rw [bif_neg q1929] at hp
    obtain ⟨m1948, e1947, S1945, k1946, L1949⟩ := L1927.sto S1924 [(C.fn (Fn.func 118) [] [])]
    have L1950 := L1928.k k1946 (by decide)
    refine ⟨m1948, e1947, ?_⟩
    refine ⟨_, L1949.bk.ra, ?_⟩
    have hF1959 : Fv_Tf_Int_Int f ((C.fn (Fn.func 118) [] [])) (fun a1951 a1952 => paboveLeast a1951 a1952) := by
      intro f' m' a1951 a1952 c1953 c1955 c1957 r Q hs hpre h1954 h1956 h1958 hg hq
      exact s_aboveLeast hpre h1954 h1956 h1958 hg hq
    obtain rfl := Option.some.inj hp
    exact hq _ f (C.fn (Fn.func 118) [] []) S1945.grw hF1959
theorem s_tfPart {t : Tf} {h : Ht} {ca103 ca104 ca105 : C} {m f : M} {Q : V → M → Prop} {rz : Int} (hS : Pre f m) (ha103 : Sl f ca103 t.Weeks) (ha104 : Sl f ca104 t.Counts) (ha105 : Sl f ca105 t.Rates) (hp : ptfPart t h = some rz) (hq : ∀ m', Ext m m' → Q (.c (.int .i64 rz)) m') : Wc prog tbl 80 [.agg 6 [(.int .i64 t.From), (.bool t.Whole), (.int .i64 t.Least), ca103, ca104, ca105], .agg 3 [(.int .i64 h.Day), (.int .i64 h.Count), (.int .i64 h.crop)]] m Q := by
  have S0 := hS.st
  obtain ⟨τ0, _⟩ : ∃ τ : Nat → Nat, True := ⟨fun _ => 0, trivial⟩
  refine w80 ?_
  unfold ptfPart at hp
  intro m0 e1960
  obtain ⟨τ1963, S1961, k1962, L1964⟩ := S0.blk e1960 τ0 1
  intro m1 e1965
  obtain ⟨τ1968, S1966, k1967, L1969⟩ := S1961.blk e1965 τ1963 2
  have L1970 := L1964.k k1967 (by decide)
  refine ⟨_, _, _, _, _, _, L1970.bk.ra, _, _, _, L1969.bk.ra, ?_⟩
  obtain ⟨r1971, g1972, hp⟩ := bsome hp
  refine s_loss (t := t) (h := h) S1966.pre ha103 ha104 ha105 g1972 fun m12 e1975 => ?_
  obtain ⟨S1973, k1974⟩ := S1966.call e1975 τ1968
  have L1976 := L1970.k k1974 (by decide)
  have L1977 := L1969.k k1974 (by decide)
  refine ⟨_, rfl, trivial, _, L1976.bk.rc rfl, ?_⟩
  rw [ifB_dec]
  refine ⟨fun q1978 => ?_, fun q1978 => ?_⟩
  · skip
    rw [if_pos q1978] at hp
    obtain rfl := Option.some.inj hp
    exact hq _ S1973.ext'
  · skip
    rw [if_neg q1978] at hp
    refine ⟨_, _, _, _, _, _, L1976.bk.ra, ?_⟩
    obtain ⟨r1979, g1980, hp⟩ := bsome hp
    refine s_manner (t := t) S1973.pre ha103 ha104 ha105 g1980 fun m22 f1984 c1985 e1983 h1986 => ?_
    obtain ⟨S1981, k1982⟩ := S1973.callG e1983 τ1968
    have L1987 := L1976.k k1982 (by decide)
    have L1988 := L1977.k k1982 (by decide)
    refine ⟨_, rfl, _, _, _, _, _, _, L1987.bk.ra, (by rw [show allS noFnC _ = true from (nf_cons rfl (nf_cons rfl (nf_cons rfl (nf_cons ha103.noFn (nf_cons ha104.noFn (nf_cons ha105.noFn nf_nil))))))]; exact (L1976.bk.ra)), ?_⟩
    obtain ⟨r1989, g1990, hp⟩ := bsome hp
    refine h1986 _ _ _ _ _ _ _ _ _ (Sub.refl _) S1981.pre (ha103.sub k1982.fs) (ha104.sub k1982.fs) (ha105.sub k1982.fs) g1990 fun m31 e1993 => ?_
    obtain ⟨S1991, k1992⟩ := S1981.call e1993 τ1968
    have L1994 := L1987.k k1992 (by decide)
    have L1995 := L1988.k k1992 (by decide)
    refine ⟨_, rfl, ?_⟩
    obtain rfl := Option.some.inj hp
    exact hq _ S1991.ext'
theorem s_open {l : List Tf} {ca100 : C} {m f : M} {Q : V → M → Prop} {rz : Wk × Int} (hS : Pre f m) (ha100 : Sl f ca100 l) (hp : popen l = some rz) (hq : ∀ m' f' c0 c1, Grw m f m' f' → Sl f' c0 rz.1.tariffs → Mn m f' m' c1 rz.1.parts → Q (.tup [.agg 2 [c0, c1], .c (.int .i64 rz.2)]) m') : Wc prog tbl 53 [.c ca100] m Q := by
  have S0 := hS.st
  obtain ⟨τ0, _⟩ : ∃ τ : Nat → Nat, True := ⟨fun _ => 0, trivial⟩
  refine w53 ?_
  unfold popen at hp
  intro m0 e1996
  obtain ⟨τ1999, S1997, k1998, L2000⟩ := S0.blk e1996 τ0 1
  obtain ⟨r2001, g2002, hp⟩ := bsome hp
  refine s_check (l := l) S1997.pre ha100 g2002 fun m2 e2005 => ?_
  obtain ⟨S2003, k2004⟩ := S1997.call e2005 τ1999
  have L2006 := L2000.k k2004 (by decide)
  refine ⟨_, rfl, ?_⟩
  rw [ifB_ndec]
  refine ⟨fun q2007 => ?_, fun q2007 => ?_⟩
  · skip
    rw [if_neg q2007] at hp
    obtain ⟨m2011, e2010, S2008, k2009, L2012⟩ := L2006.sto S2003 [.sl0, C.map0]
    refine ⟨m2011, e2010, ?_⟩
    refine ⟨_, _, L2012.bk.ra, ?_⟩
    obtain rfl := Option.some.inj hp
    exact hq _ f .sl0 .map0 S2008.grw (Sl.nil _) (Mo.nil _ _ τ1999 _ 0).mn
  · skip
    rw [if_pos q2007] at hp
    intro m7 e2013
    obtain ⟨τ2016, S2014, k2015, M2017⟩ := Mo.new (K := Ht) (V' := Int) S2003 e2013 τ1999 2
    have L2018 := L2006.k k2015 (by decide)
    obtain ⟨m2022, e2021, S2019, k2020, L2023⟩ := L2018.sto S2014 [ca100, (.map m2.nxt)]
    have M2024 := M2017.k k2020 (by decide)
    refine ⟨m2022, e2021, ?_⟩
    refine ⟨_, _, L2023.bk.ra, ?_⟩
    obtain rfl := Option.some.inj hp
    exact hq _ f ca100 (.map m2.nxt) S2019.grw ha100 M2024.mn
theorem s_openFor {l : List Tf} {claims : List Clm} {ca100 ca200 : C} {m f : M} {Q : V → M → Prop} {rz : Wk × Int} (hS : Pre f m) (ha100 : Sl f ca100 l) (ha200 : Sl f ca200 claims) (hp : popenFor l claims = some rz) (hq : ∀ m' f' c0 c1, Grw m f m' f' → Sl f' c0 rz.1.tariffs → Mn m f' m' c1 rz.1.parts → Q (.tup [.agg 2 [c0, c1], .c (.int .i64 rz.2)]) m') : Wc prog tbl 63 [.c ca100, .c ca200] m Q := by
  have S0 := hS.st
  obtain ⟨τ0, _⟩ : ∃ τ : Nat → Nat, True := ⟨fun _ => 0, trivial⟩
  refine w63 ?_
  unfold popenFor at hp
  intro m0 e2025
  obtain ⟨τ2028, S2026, k2027, L2029⟩ := S0.blk e2025 τ0 1
  obtain ⟨r2030, g2031, hp⟩ := bsome hp
  refine s_open (l := l) S2026.pre ha100 g2031 fun m2 f2035 c2036 c2038 e2034 h2037 h2039 => ?_
  obtain ⟨τ2040, S2032, k2033, M2041⟩ := S2026.callN e2034 h2039 τ2028 2
  have L2042 := L2029.k k2033 (by decide)
  refine ⟨_, _, _, rfl, ?_⟩
  intro m6 e2043
  obtain ⟨τ2046, S2044, k2045, L2047⟩ := S2032.blk e2043 τ2040 3
  have L2048 := L2042.k k2045 (by decide)
  have M2049 := M2041.k k2045 (by decide)
  obtain ⟨m2053, e2052, S2050, k2051, L2054⟩ := L2047.sto S2044 [c2036, c2038]
  have L2055 := L2048.k k2051 (by decide)
  have M2056 := M2049.k k2051 (by decide)
  refine ⟨m2053, e2052, ?_⟩
  rw [ifB_ndec]
  refine ⟨fun q2057 => ?_, fun q2057 => ?_⟩
  · skip
    rw [if_neg q2057] at hp
    obtain ⟨m2061, e2060, S2058, k2059, L2062⟩ := L2055.sto S2050 [.sl0, C.map0]
    have L2063 := L2054.k k2059 (by decide)
    have M2064 := M2056.k k2059 (by decide)
    refine ⟨m2061, e2060, ?_⟩
    refine ⟨_, _, L2062.bk.ra, ?_⟩
    obtain rfl := Option.some.inj hp
    exact hq _ f2035 .sl0 .map0 S2058.grw (Sl.nil _) (Mo.nil _ _ τ2046 _ 0).mn
  · skip
    rw [if_pos q2057] at hp
    refine ⟨ha200.isSl, ?_⟩
    try rw [ha200.slLen]
    rw [ifB_dec]
    refine ⟨fun q2065 => ?_, fun q2065 => ?_⟩
    · skip
      rw [if_pos q2065] at hp
      obtain ⟨m2069, e2068, S2066, k2067, L2070⟩ := L2055.sto S2050 [.sl0, C.map0]
      have L2071 := L2054.k k2067 (by decide)
      have M2072 := M2056.k k2067 (by decide)
      refine ⟨m2069, e2068, ?_⟩
      refine ⟨_, _, L2070.bk.ra, ?_⟩
      obtain rfl := Option.some.inj hp
      exact hq _ f2035 .sl0 .map0 S2066.grw (Sl.nil _) (Mo.nil _ _ τ2046 _ 0).mn
    · skip
      rw [if_neg q2065] at hp
      refine ⟨trivial, _, L2054.bk.rc rfl, ?_⟩
      obtain ⟨l15, wl15, el15⟩ : ∃ ws, mapO vW [.c c2036] = some ws ∧ mapS wV ws = [.c c2036] := (vWs_cons (vW_c h2037.noFn) vWs_nil)
      rw [wl15, optB_some]
      have hF2074 : Fv_Clm_Bool f2035 ((C.fn (Fn.func 90) l15 [])) (fun a2073 => pvalidClaim r2030.1.tariffs a2073) := by
        intro f' m' a2073 r Q hs hpre  hg hq
        show Wc prog tbl 90 (appS (mapS wV l15) _) m' Q
        rw [el15]
        exact s_validClaim hpre (h2037.sub hs) hg hq
      obtain ⟨r2075, g2076, hp⟩ := bsome hp
      refine s_eachCl (l := claims) (passes := (fun a2073 => pvalidClaim r2030.1.tariffs a2073)) S2050.pre (ha200.sub k2033.fs) hF2074 g2076 fun m17 e2079 => ?_
      obtain ⟨S2077, k2078⟩ := S2050.call e2079 τ2046
      have L2080 := L2055.k k2078 (by decide)
      have L2081 := L2054.k k2078 (by decide)
      have M2082 := M2056.k k2078 (by decide)
      refine ⟨_, rfl, ?_⟩
      rw [ifB_iff]
      refine ⟨fun q2083 => ?_, fun q2083 => ?_⟩
      · skip
        rw [bif_neg (nb_f q2083)] at hp
        obtain ⟨m2087, e2086, S2084, k2085, L2088⟩ := L2080.sto S2077 [.sl0, C.map0]
        have L2089 := L2081.k k2085 (by decide)
        have M2090 := M2082.k k2085 (by decide)
        refine ⟨m2087, e2086, ?_⟩
        refine ⟨_, _, L2088.bk.ra, ?_⟩
        obtain rfl := Option.some.inj hp
        exact hq _ f2035 .sl0 .map0 S2084.grw (Sl.nil _) (Mo.nil _ _ τ2046 _ 0).mn
      · skip
        rw [if_pos (nb_t q2083)] at hp
        refine ⟨_, _, L2081.bk.ra, ?_⟩
        obtain ⟨m2094, e2093, S2091, k2092, L2095⟩ := L2080.sto S2077 [c2036, c2038]
        have L2096 := L2081.k k2092 (by decide)
        have M2097 := M2082.k k2092 (by decide)
        refine ⟨m2094, e2093, ?_⟩
        refine ⟨_, _, L2095.bk.ra, ?_⟩
        obtain rfl := Option.some.inj hp
        exact hq _ f2035 c2036 c2038 S2091.grw h2037 M2097.mn
theorem s_part {w : Wk} {h : Ht} {ca100 ca101 : C} {m f : M} {Q : V → M → Prop} {rz : Int × Option (Ht → Option (Int))} (hS : Pre f m) (ha100 : Sl f ca100 w.tariffs) (ha101 : Mc f m ca101 w.parts) (hp : ppart w h = some rz) (hq : ∀ m', ExtB ca101 m m' → Mi m' ca101 rz.2 → Q (.c (.int .i64 rz.1)) m') : Wc prog tbl 57 [.agg 2 [ca100, ca101], .agg 3 [(.int .i64 h.Day), (.int .i64 h.Count), (.int .i64 h.crop)]] m Q := by
  have S0 := hS.stM ha101
  obtain ⟨τ0, M0⟩ : ∃ τ, Mo (Fm.mp m ca101) f τ m 1 ca101 w.parts := ⟨_, ha101.mo 1⟩
  refine w57 ?_
  unfold ppart at hp
  intro m0 e2098
  obtain ⟨τ2101, S2099, k2100, L2102⟩ := S0.blk e2098 τ0 2
  have M2103 := M0.k k2100 (by decide)
  intro m1 e2104
  obtain ⟨τ2107, S2105, k2106, L2108⟩ := S2099.blk e2104 τ2101 3
  have L2109 := L2102.k k2106 (by decide)
  have M2110 := M2103.k k2106 (by decide)
  refine ⟨trivial, _, L2109.bk.rc rfl, _, _, _, L2108.bk.ra, ?_⟩
  obtain ⟨g2111, hp⟩ := gd_some hp
  refine ⟨_, M2110.mi.lk kl103 (k := h) g2111 rfl, ?_⟩
  cases hv2112 : (mget w.parts h) with
  | none =>
    rw [mcase_none hv2112] at hp
    refine ⟨fun _ => ?_, fun u hu => (by cases hu)⟩
    refine ⟨trivial, _, L2109.bk.rc rfl, trivial, trivial, _, L2108.bk.rc rfl, ?_⟩
    obtain ⟨r2114, g2115, hp⟩ := bsome hp
    refine s_tfOf (l := w.tariffs) (day := h.Day) S2105.pre ha100 g2115 fun m10 f2119 c2120 c2122 c2124 e2118 h2121 h2123 h2125 => ?_
    obtain ⟨S2116, k2117⟩ := S2105.callG e2118 τ2107
    have L2126 := L2109.k k2117 (by decide)
    have L2127 := L2108.k k2117 (by decide)
    have M2128 := M2110.k k2117 (by decide)
    refine ⟨_, _, _, _, _, _, rfl, _, _, _, L2127.bk.ra, (L2108.bk.ra), ?_⟩
    obtain ⟨r2129, g2130, hp⟩ := bsome hp
    refine s_tfPart (t := r2114) (h := h) S2116.pre h2121 h2123 h2125 g2130 fun m21 e2133 => ?_
    obtain ⟨S2131, k2132⟩ := S2116.call e2133 τ2107
    have L2134 := L2126.k k2132 (by decide)
    have L2135 := L2127.k k2132 (by decide)
    have M2136 := M2128.k k2132 (by decide)
    refine ⟨_, rfl, trivial, _, L2134.bk.rc rfl, _, _, _, L2135.bk.ra, ?_⟩
    obtain ⟨g2137, hp⟩ := gd_some hp
    obtain ⟨w2138, g2139, hp⟩ := bsome hp
    obtain ⟨m2140, e2141, S2142, k2143, M2144⟩ := Mo.up kl103 S2131 M2136 (k := h) g2137 (v := r2129) g2139 (kv := .agg 3 [(.int .i64 h.Day), (.int .i64 h.Count), (.int .i64 h.crop)]) (yv := .c (.int .i64 r2129)) rfl rfl
    have L2145 := L2134.k k2143 (by decide)
    have L2146 := L2135.k k2143 (by decide)
    refine ⟨m2140, e2141, ?_⟩
    obtain rfl := Option.some.inj hp
    exact hq _ S2142.extB M2144.mi
  | some w2113 =>
    rw [mcase_some hv2112] at hp
    refine ⟨fun h => (by cases h), fun u hu => ?_⟩
    obtain rfl := Option.some.inj hu
    refine ⟨_, rfl, ?_⟩
    obtain rfl := Option.some.inj hp
    exact hq _ S2105.extB M2110.mi
theorem s_payment {w : Wk} {c : Clm} {t : Tr} {ca100 ca101 : C} {m f : M} {Q : V → M → Prop} {rz : Int × Option (Ht → Option (Int))} (hS : Pre f m) (ha100 : Sl f ca100 w.tariffs) (ha101 : Mc f m ca101 w.parts) (hp : ppayment w c t = some rz) (hq : ∀ m', ExtB ca101 m m' → Mi m' ca101 rz.2 → Q (.c (.int .i64 rz.1)) m') : Wc prog tbl 65 [.agg 2 [ca100, ca101], .agg 6 [(.int .i64 c.Crop), (.int .i64 c.Value), (.int .i64 c.Day.Lo), (.int .i64 c.Day.Hi), (.int .i64 c.Count.Lo), (.int .i64 c.Count.Hi)], .agg 2 [(.int .i64 t.Day), (.int .i64 t.Count)]] m Q := by
  have S0 := hS.stM ha101
  obtain ⟨τ0, M0⟩ : ∃ τ, Mo (Fm.mp m ca101) f τ m 1 ca101 w.parts := ⟨_, ha101.mo 1⟩
  refine w65 ?_
  unfold ppayment at hp
  intro m0 e2147
  obtain ⟨τ2150, S2148, k2149, L2151⟩ := S0.blk e2147 τ0 2
  have M2152 := M0.k k2149 (by decide)
  intro m1 e2153
  obtain ⟨τ2156, S2154, k2155, L2157⟩ := S2148.blk e2153 τ2150 3
  have L2158 := L2151.k k2155 (by decide)
  have M2159 := M2152.k k2155 (by decide)
  intro m2 e2160
  obtain ⟨τ2163, S2161, k2162, L2164⟩ := S2154.blk e2160 τ2156 4
  have L2165 := L2158.k k2162 (by decide)
  have L2166 := L2157.k k2162 (by decide)
  have M2167 := M2159.k k2162 (by decide)
  refine ⟨trivial, _, L2166.bk.rc rfl, _, _, L2165.bk.ra, _, _, L2164.bk.ra, trivial, _, L2166.bk.rc rfl, ?_⟩
  obtain ⟨r2168, g2169, hp⟩ := bsome hp
  refine s_part (w := w) (h := ({ Day := t.Day, Count := t.Count, crop := c.Crop } : Ht)) S2161.pre ha100 (M2167.mc S2161) g2169 fun m10 e2172 hM2173 => ?_
  obtain ⟨S2170, k2171, M2174⟩ := S2161.callM M2167 e2172 hM2173
  have L2175 := L2165.k k2171 (by decide)
  have L2176 := L2166.k k2171 (by decide)
  have L2177 := L2164.k k2171 (by decide)
  refine ⟨_, rfl, (L2176.bk.rc rfl), ?_⟩
  obtain ⟨g2178, hp⟩ := gd_some hp
  refine ⟨g2178, ?_⟩
  obtain ⟨g2179, hp⟩ := gd_some hp
  refine ⟨g2179, ?_⟩
  obtain ⟨g2180, hp⟩ := gd_some hp
  refine ⟨g2180, ?_⟩
  obtain ⟨g2181, hp⟩ := gd_some hp
  refine ⟨g2181, ?_⟩
  obtain ⟨g2182, hp⟩ := gd_some hp
  refine ⟨g2182, ?_⟩
  obtain ⟨g2183, hp⟩ := gd_some hp
  refine ⟨g2183, ?_⟩
  obtain rfl := Option.some.inj hp
  exact hq _ S2170.extB M2174.mi
theorem s_truthsI {c : Clm} {b0 : Nat} {m f : M} {F : Fm} {n0 ly : Nat} {xs : List (List V)} {I : Nat → (Nat → Prop) → M → Prop} {E : (Nat → Prop) → M → Prop} {S1 : Nat → Prop} {Q : V → M → Prop} {rz : List Tr} {τ0 : Nat → Nat} (hc : Client prog tbl n0 ly xs I E) (S0 : St F f f m) (Y0 : Yg n0 (YJ xs I rz) S1 F f τ0 m) (hb0 : Bk f b0 6 [(.int .i64 c.Crop), (.int .i64 c.Value), (.int .i64 c.Day.Lo), (.int .i64 c.Day.Hi), (.int .i64 c.Count.Lo), (.int .i64 c.Count.Hi)]) (hp : ptruthsI c = some rz) (hq : ∀ v m' f' τ' S', St F f f' m' → (Yg n0 (YJ xs I ([] : List Tr)) S' F f' τ' m' ∨ Yg n0 E S' F f' τ' m') → Q v m') : Wc prog tbl 94 [.c (.fn (.yield ly) [] []), .c (.ptr b0 0)] m Q := by
  refine c94 ?_
  unfold ptruthsI at hp
  refine ⟨trivial, trivial, _, (hb0.sub S0.sub).rc rfl, ?_⟩
  intro R1 hR1
  have hgo : ∀ (d2189 : Nat) (x2 : Int) (r2186 : List Tr) (s2187 : Nat → Prop) (m3 : M) (τ2185 : Nat → Nat), St F f f m3 → Yg n0 (YJ xs I r2186) s2187 F f τ2185 m3 → ptruthsI_L0 c d2189 x2 = some r2186 → R1 [.c (.int .i64 x2)] m3 := by
    intro d2189
    induction d2189 with
    | zero => intro x2 r2186 s2187 m3 τ2185 S2184 Y2188 hp; cases hp
    | succ d2189 ihR1 =>
      intro x2 r2186 s2187 m3 τ2185 S2184 Y2188 hp
      refine hR1 _ _ ?_
      rw [ptruthsI_L0] at hp
      refine ⟨trivial, trivial, _, (hb0.sub S2184.sub).rc rfl, ?_⟩
      rw [ifB_dec]
      refine ⟨fun q2190 => ?_, fun q2190 => ?_⟩
      · skip
        rw [if_pos q2190] at hp
        refine ⟨trivial, trivial, _, (hb0.sub S2184.sub).rc rfl, ?_⟩
        intro R6 hR6
        have hgo : ∀ (d2196 : Nat) (x7 : Int) (r2193 : List Tr) (s2194 : Nat → Prop) (m8 : M) (τ2192 : Nat → Nat), St F f f m8 → Yg n0 (YJ xs I r2193) s2194 F f τ2192 m8 → ptruthsI_L1 c x2 (ptruthsI_L0 c d2189) d2196 x7 = some r2193 → R6 [.c (.int .i64 x7)] m8 := by
          intro d2196
          induction d2196 with
          | zero => intro x7 r2193 s2194 m8 τ2192 S2191 Y2195 hp; cases hp
          | succ d2196 ihR6 =>
            intro x7 r2193 s2194 m8 τ2192 S2191 Y2195 hp
            refine hR6 _ _ ?_
            rw [ptruthsI_L1] at hp
            refine ⟨trivial, trivial, _, (hb0.sub S2191.sub).rc rfl, ?_⟩
            rw [ifB_dec]
            refine ⟨fun q2197 => ?_, fun q2197 => ?_⟩
            · skip
              rw [if_pos q2197] at hp
              obtain ⟨r2198, hp2200, hz2199⟩ := bsome hp
              clear hp
              obtain rfl := Option.some.inj hz2199
              have hp := hp2200
              show Wy prog tbl ly (IV.encs (({ Day := x2, Count := x7 } : Tr) : Tr)) _ _
              refine Yg.yield hc S2191 Y2195 ?_ ?_
              · intro m11 τ2201 s2205 S2202 k2203 Y2204
                refine ⟨_, rfl, ?_⟩
                refine ifB_f' ?_
                obtain ⟨g2206, hp⟩ := gd_some hp
                refine ⟨g2206, ?_⟩
                exact ihR6 _ _ _ _ τ2201 S2202 Y2204 hp
              · intro m11 τ2207 s2211 S2208 k2209 Y2210
                refine ⟨_, rfl, ?_⟩
                refine ifB_t' ?_
                exact hq _ _ _ _ _ S2208 (.inr Y2210)
            · skip
              rw [if_neg q2197] at hp
              obtain ⟨g2212, hp⟩ := gd_some hp
              refine ⟨g2212, ?_⟩
              exact ihR1 _ _ _ _ τ2192 S2191 Y2195 hp
        exact hgo _ _ _ _ _ τ2185 S2184 Y2188 hp
      · skip
        rw [if_neg q2190] at hp
        obtain rfl := Option.some.inj hp
        exact hq _ _ _ _ _ S2184 (.inl Y2188)
  exact hgo _ _ _ _ _ τ0 S0 Y0 hp
theorem s_truths {c : Clm} {m f : M} {Q : V → M → Prop} {rz : List Tr} (hS : Pre f m)  (hp : ptruths c = some rz) (hq : ∀ m' f' c0, Grw m f m' f' → It prog tbl f' c0 rz → Q (.c c0) m') : Wc prog tbl 69 [.agg 6 [(.int .i64 c.Crop), (.int .i64 c.Value), (.int .i64 c.Day.Lo), (.int .i64 c.Day.Hi), (.int .i64 c.Count.Lo), (.int .i64 c.Count.Hi)]] m Q := by
  have S0 := hS.st
  obtain ⟨τ0, _⟩ : ∃ τ : Nat → Nat, True := ⟨fun _ => 0, trivial⟩
  refine w69 ?_
  unfold ptruths at hp
  intro m0 e2213
  obtain ⟨τ2216, S2214, k2215, L2217⟩ := S0.blk e2213 τ0 1
  obtain ⟨f2218, S2219, k2220, hb2221⟩ := L2217.freeze S2214
  obtain ⟨l2222, g2223, hp⟩ := bsome hp
  have hI2224 : It prog tbl f2218 ((C.fn (Fn.func 94) [] [(W.c (C0.ptr m.nxt 0))])) l2222 := it_of S2219.fz S2219.fv fun n0 ly I E hc m1 F1 S1 τ1 hS hY Q hq => s_truthsI hc hS hY hb2221 g2223 hq
  obtain rfl := Option.some.inj hp
  exact hq _ f2218 (C.fn (Fn.func 94) [] [(W.c (C0.ptr m.nxt 0))]) S2219.grw hI2224
theorem s_bounds {w : Wk} {c : Clm} {ca100 ca101 : C} {m f : M} {Q : V → M → Prop} {rz : Rg × Option (Ht → Option (Int))} (hS : Pre f m) (ha100 : Sl f ca100 w.tariffs) (ha101 : Mc f m ca101 w.parts) (hp : pbounds w c = some rz) (hq : ∀ m', ExtB ca101 m m' → Mi m' ca101 rz.2 → Q (.agg 2 [(.int .i64 rz.1.Lo), (.int .i64 rz.1.Hi)]) m') : Wc prog tbl 67 [.agg 2 [ca100, ca101], .agg 6 [(.int .i64 c.Crop), (.int .i64 c.Value), (.int .i64 c.Day.Lo), (.int .i64 c.Day.Hi), (.int .i64 c.Count.Lo), (.int .i64 c.Count.Hi)]] m Q := by
  have S0 := hS.stM ha101
  obtain ⟨τ0, M0⟩ : ∃ τ, Mo (Fm.mp m ca101) f τ m 1 ca101 w.parts := ⟨_, ha101.mo 1⟩
  refine w67 ?_
  unfold pbounds at hp
  intro m0 e2305
  obtain ⟨τ2308, S2306, k2307, L2309⟩ := S0.blk e2305 τ0 2
  have M2310 := M0.k k2307 (by decide)
  intro m1 e2311
  obtain ⟨τ2314, S2312, k2313, L2315⟩ := S2306.blk e2311 τ2308 3
  have L2316 := L2309.k k2313 (by decide)
  have M2317 := M2310.k k2313 (by decide)
  intro m2 e2318
  obtain ⟨τ2321, S2319, k2320, L2322⟩ := S2312.blk e2318 τ2314 4
  have L2323 := L2316.k k2320 (by decide)
  have L2324 := L2315.k k2320 (by decide)
  have M2325 := M2317.k k2320 (by decide)
  intro m3 e2326
  obtain ⟨τ2329, S2327, k2328, L2330⟩ := S2319.blk e2326 τ2321 5
  have L2331 := L2323.k k2328 (by decide)
  have L2332 := L2324.k k2328 (by decide)
  have L2333 := L2322.k k2328 (by decide)
  have M2334 := M2325.k k2328 (by decide)
  refine ⟨_, _, _, _, _, _, L2332.bk.ra, ?_⟩
  obtain ⟨r2335, g2336, hp⟩ := bsome hp
  refine s_truths (c := c) S2327.pre  g2336 fun m11 f2340 c2341 e2339 h2342 => ?_
  obtain ⟨S2337, k2338⟩ := S2327.callG e2339 τ2329
  have L2343 := L2331.k k2338 (by decide)
  have L2344 := L2332.k k2338 (by decide)
  have L2345 := L2333.k k2338 (by decide)
  have L2346 := L2330.k k2338 (by decide)
  have M2347 := M2334.k k2338 (by decide)
  refine ⟨_, rfl, ?_⟩
  refine range_st (α := Tr) S2337 h2342 (σ := (List Int) × C × (Option (Ht → Option (Int)))) 6 (fun st bb => (False ∨ (False ∨ (False ∨ (False ∨ ((ownBlk st.2.1 bb) ∨ False)))))) (fun st gG gF gT gM => (Lb gG gF gT gM 2 m.nxt 2 [ca100, ca101]) ∧ (Lb gG gF gT gM 3 m0.nxt 6 [(.int .i64 c.Crop), (.int .i64 c.Value), (.int .i64 c.Day.Lo), (.int .i64 c.Day.Hi), (.int .i64 c.Count.Lo), (.int .i64 c.Count.Hi)]) ∧ (Lb gG gF gT gM 4 m1.nxt 2 [(.int .i64 (0 : Int)), (.int .i64 (0 : Int))]) ∧ (Lb gG gF gT gM 5 m2.nxt 1 [st.2.1]) ∧ (Ow gG gF gT gM 7 st.2.1 st.1) ∧ (Mo gG gF gT gM 1 ca101 st.2.2)) (fun rr_ st => pbounds_L0 w c rr_ st.1 st.2.2 = some rz) (fun ex st => False) (fun st => (Gud.and (Gud.lb L2343.bk.lt (by decide)) (Gud.and (Gud.lb L2344.bk.lt (by decide)) (Gud.and (Gud.lb L2345.bk.lt (by decide)) (Gud.and (Gud.lb L2346.bk.lt (by decide)) (Gud.and (Gud.ow (by decide)) (Gud.mo M2347.lt (by decide)))))))) (st0 := ([], .sl0, w.parts)) (τ := τ2329) ⟨L2343, L2344, L2345, L2346, (Ow.nil _ _ _ _ _), M2347⟩ hp ?_ ?_ ?_ ?_
  · intro a2357 q2358 st f2359 τ2360 m14 F2361 o2362 Ok2363 en2364 Kn2365 S2366 s2367 hA rk2368 hp he2369 hk2370
    obtain ⟨y2351, c2352, w2355⟩ := st
    obtain ⟨L2348, L2349, L2350, L2354, o2353, M2356⟩ := hA
    replace L2348 : Lb F2361 f2359 τ2360 m14 2 m.nxt 2 [ca100, ca101] := L2348
    replace L2349 : Lb F2361 f2359 τ2360 m14 3 m0.nxt 6 [(.int .i64 c.Crop), (.int .i64 c.Value), (.int .i64 c.Day.Lo), (.int .i64 c.Day.Hi), (.int .i64 c.Count.Lo), (.int .i64 c.Count.Hi)] := L2349
    replace L2350 : Lb F2361 f2359 τ2360 m14 4 m1.nxt 2 [(.int .i64 (0 : Int)), (.int .i64 (0 : Int))] := L2350
    replace L2354 : Lb F2361 f2359 τ2360 m14 5 m2.nxt 1 [c2352] := L2354
    replace o2353 : Ow F2361 f2359 τ2360 m14 7 c2352 y2351 := o2353
    replace M2356 : Mo F2361 f2359 τ2360 m14 1 ca101 w2355 := M2356
    replace hp : pbounds_L0 w c (a2357 :: q2358) y2351 w2355 = some rz := hp
    rw [pbounds_L0] at hp
    refine ⟨_, _, rfl, ?_⟩
    intro m19 e2371
    obtain ⟨τ2374, S2372, k2373, L2375⟩ := S2366.blk e2371 τ2360 8
    have L2376 := L2348.k k2373 (by decide)
    have L2377 := L2349.k k2373 (by decide)
    have L2378 := L2350.k k2373 (by decide)
    have L2379 := L2354.k k2373 (by decide)
    have M2380 := M2356.k k2373 (by decide)
    have o2353 := o2353.k k2373 (by decide)
    have rk2381 := rk2368.k k2373 (by decide)
    obtain ⟨m2385, e2384, S2382, k2383, L2386⟩ := L2375.sto S2372 [(.int .i64 a2357.Day), (.int .i64 a2357.Count)]
    have L2387 := L2376.k k2383 (by decide)
    have L2388 := L2377.k k2383 (by decide)
    have L2389 := L2378.k k2383 (by decide)
    have L2390 := L2379.k k2383 (by decide)
    have M2391 := M2380.k k2383 (by decide)
    have o2353 := o2353.k k2383 (by decide)
    have rk2392 := rk2381.k k2383 (by decide)
    refine ⟨m2385, e2384, ?_⟩
    refine he2369 _ _ _ _ S2382 rk2392 fun m21 o2396 S2393 k2394 rk2395 hO2397 => ?_
    have L2398 := L2387.k k2394 (by decide)
    have L2399 := L2388.k k2394 (by decide)
    have L2400 := L2389.k k2394 (by decide)
    have L2401 := L2390.k k2394 (by decide)
    have L2402 := L2386.k k2394 (by decide)
    have M2403 := M2391.k k2394 (by decide)
    have o2353 := o2353.k k2394 (by decide)
    refine ⟨_, L2401.bk.rc rfl, _, _, L2398.bk.ra, _, _, _, _, _, _, L2399.bk.ra, _, _, L2402.bk.ra, ?_⟩
    obtain ⟨r2404, g2405, hp⟩ := bsome hp
    refine s_payment (w := ({ tariffs := w.tariffs, parts := w2355 } : Wk)) (c := c) (t := a2357) S2393.pre (ha100.sub (Sub.trans k2338.fs s2367)) (M2403.mc S2393) g2405 fun m34 e2408 hM2409 => ?_
    obtain ⟨S2406, k2407, M2410⟩ := S2393.callM M2403 e2408 hM2409
    have L2411 := L2398.k k2407 (by decide)
    have L2412 := L2399.k k2407 (by decide)
    have L2413 := L2400.k k2407 (by decide)
    have L2414 := L2401.k k2407 (by decide)
    have L2415 := L2402.k k2407 (by decide)
    have o2353 := o2353.k k2407 (by decide)
    have rk2416 := rk2395.k k2407 (by decide)
    refine ⟨_, rfl, (by rw [show noFnC _ = true from o2353.noFn]; exact (L2414.bk.rc rfl)), ?_⟩
    obtain ⟨g2425, hp⟩ := gd_some hp
    intro m36 e2417
    refine ⟨(by rw [show noFnC _ = true from o2353.noFn]; exact (L2414.bk.ext (Bk.new e2417).2).rc rfl), ?_⟩
    obtain ⟨c2421, m2422, τ2420, a2423, S2418, k2419, o2424⟩ := o2353.app' ta73 S2406 (a := r2404.1) (show Rp.rep (α := Int) f2359 _ r2404.1 from rfl) g2425 e2417
    have L2426 := L2411.k k2419 (by decide)
    have L2427 := L2412.k k2419 (by decide)
    have L2428 := L2413.k k2419 (by decide)
    have L2429 := L2414.k k2419 (by decide)
    have L2430 := L2415.k k2419 (by decide)
    have M2431 := M2410.k k2419 (by decide)
    have rk2432 := rk2416.k k2419 (by decide)
    refine ⟨c2421, m2422, a2423, ?_⟩
    obtain ⟨m2436, e2435, S2433, k2434, L2437⟩ := L2429.sto S2418 [c2421]
    have L2438 := L2426.k k2434 (by decide)
    have L2439 := L2427.k k2434 (by decide)
    have L2440 := L2428.k k2434 (by decide)
    have L2441 := L2430.k k2434 (by decide)
    have M2442 := M2431.k k2434 (by decide)
    have o2424 := o2424.k k2434 (by decide)
    have rk2443 := rk2432.k k2434 (by decide)
    refine ⟨m2436, e2435, ?_⟩
    exact hk2370 .nrm ((y2351 ++ [r2404.1]), c2421, r2404.2) _ _ _ _ S2433 ⟨L2438, L2439, L2440, L2437, o2424, M2442⟩ rk2443 hO2397 hp
  · intro st f2444 τ2446 m40 S2447 s2445 hA hp
    obtain ⟨y2351, c2352, w2355⟩ := st
    replace hp : pbounds_L0 w c [] y2351 w2355 = some rz := hp
    obtain ⟨L2348, L2349, L2350, L2354, o2353, M2356⟩ := hA
    replace L2348 : Lb (Fm.mp m ca101) f2444 τ2446 m40 2 m.nxt 2 [ca100, ca101] := L2348
    replace L2349 : Lb (Fm.mp m ca101) f2444 τ2446 m40 3 m0.nxt 6 [(.int .i64 c.Crop), (.int .i64 c.Value), (.int .i64 c.Day.Lo), (.int .i64 c.Day.Hi), (.int .i64 c.Count.Lo), (.int .i64 c.Count.Hi)] := L2349
    replace L2350 : Lb (Fm.mp m ca101) f2444 τ2446 m40 4 m1.nxt 2 [(.int .i64 (0 : Int)), (.int .i64 (0 : Int))] := L2350
    replace L2354 : Lb (Fm.mp m ca101) f2444 τ2446 m40 5 m2.nxt 1 [c2352] := L2354
    replace o2353 : Ow (Fm.mp m ca101) f2444 τ2446 m40 7 c2352 y2351 := o2353
    replace M2356 : Mo (Fm.mp m ca101) f2444 τ2446 m40 1 ca101 w2355 := M2356
    rw [pbounds_L0] at hp
    refine ⟨_, L2354.bk.rc rfl, ?_⟩
    obtain ⟨f2448, S2449, k2450, h2451⟩ := o2353.freeze S2447
    have L2452 := L2348.k k2450 (by decide)
    have L2453 := L2349.k k2450 (by decide)
    have L2454 := L2350.k k2450 (by decide)
    have L2455 := L2354.k k2450 (by decide)
    have M2456 := M2356.k k2450 (by decide)
    obtain ⟨r2457, g2458, hp⟩ := bsome hp
    refine s_minimum (l := y2351) S2449.pre h2451 g2458 fun m43 e2461 => ?_
    obtain ⟨S2459, k2460⟩ := S2449.call e2461 τ2446
    have L2462 := L2452.k k2460 (by decide)
    have L2463 := L2453.k k2460 (by decide)
    have L2464 := L2454.k k2460 (by decide)
    have L2465 := L2455.k k2460 (by decide)
    have M2466 := M2456.k k2460 (by decide)
    have o2467 := o2353.k k2460.old (by decide)
    refine ⟨_, rfl, _, L2465.bk.rc rfl, (by rw [show noFnC _ = true from h2451.noFn]; exact (L2455.bk.rc rfl)), ?_⟩
    obtain ⟨r2468, g2469, hp⟩ := bsome hp
    refine s_sMax (l := y2351) S2459.pre h2451 g2469 fun m47 e2472 => ?_
    obtain ⟨S2470, k2471⟩ := S2459.call e2472 τ2446
    have L2473 := L2462.k k2471 (by decide)
    have L2474 := L2463.k k2471 (by decide)
    have L2475 := L2464.k k2471 (by decide)
    have L2476 := L2465.k k2471 (by decide)
    have M2477 := M2466.k k2471 (by decide)
    have o2478 := o2467.k k2471.old (by decide)
    refine ⟨_, rfl, ?_⟩
    obtain ⟨m2482, e2481, S2479, k2480, L2483⟩ := L2475.sto S2470 [(.int .i64 r2457), (.int .i64 r2468)]
    have L2484 := L2473.k k2480 (by decide)
    have L2485 := L2474.k k2480 (by decide)
    have L2486 := L2476.k k2480 (by decide)
    have M2487 := M2477.k k2480 (by decide)
    have o2488 := o2478.k k2480.old (by decide)
    refine ⟨m2482, e2481, ?_⟩
    refine ⟨_, _, L2483.bk.ra, ?_⟩
    obtain rfl := Option.some.inj hp
    exact hq _ S2479.extB M2487.mi
  · intro id st _ _ _ _ _ _ hn; first | exact hn.elim | (cases hn)
  · intro st _ _ _ _ _ _ hn; first | exact hn.elim | (cases hn)
theorem s_Bounds {l : List Tf} {c : Clm} {ca100 : C} {m f : M} {Q : V → M → Prop} {rz : Rg × Int} (hS : Pre f m) (ha100 : Sl f ca100 l) (hp : pBounds l c = some rz) (hq : ∀ m', Ext m m' → Q (.tup [.agg 2 [(.int .i64 rz.1.Lo), (.int .i64 rz.1.Hi)], .c (.int .i64 rz.2)]) m') : Wc prog tbl 32 [.c ca100, .agg 6 [(.int .i64 c.Crop), (.int .i64 c.Value), (.int .i64 c.Day.Lo), (.int .i64 c.Day.Hi), (.int .i64 c.Count.Lo), (.int .i64 c.Count.Hi)]] m Q := by
  have S0 := hS.st
  obtain ⟨τ0, _⟩ : ∃ τ : Nat → Nat, True := ⟨fun _ => 0, trivial⟩
  refine w32 ?_
  unfold pBounds at hp
  intro m0 e2489
  obtain ⟨τ2492, S2490, k2491, L2493⟩ := S0.blk e2489 τ0 1
  intro m1 e2494
  obtain ⟨τ2497, S2495, k2496, L2498⟩ := S2490.blk e2494 τ2492 2
  have L2499 := L2493.k k2496 (by decide)
  refine ⟨_, _, _, _, _, _, L2499.bk.ra, ?_⟩
  intro m8 e2500
  obtain ⟨τ2503, S2501, k2502, L2504⟩ := S2495.blk e2500 τ2497 3
  have L2505 := L2499.k k2502 (by decide)
  have L2506 := L2498.k k2502 (by decide)
  obtain ⟨f2507, S2508, k2509, hb2510⟩ := L2504.freeze S2501
  have L2511 := L2505.k k2509 (by decide)
  have L2512 := L2506.k k2509 (by decide)
  have h2513 : Sl f2507 (C.sl m1.nxt 0 1 0 (Option.some 1)) ([c] : List Clm) := Bk.sl (l := ([c] : List Clm)) hb2510 (⟨[(.int .i64 c.Crop), (.int .i64 c.Value), (.int .i64 c.Day.Lo), (.int .i64 c.Day.Hi), (.int .i64 c.Count.Lo), (.int .i64 c.Count.Hi)], _, rfl, rfl, rfl⟩) rfl rfl _
  obtain ⟨r2514, g2515, hp⟩ := bsome hp
  refine s_openFor (l := l) (claims := ([c] : List Clm)) S2508.pre (ha100.sub k2509.fs) h2513 g2515 fun m10 f2519 c2520 c2522 e2518 h2521 h2523 => ?_
  obtain ⟨τ2524, S2516, k2517, M2525⟩ := S2508.callN e2518 h2523 τ2503 4
  have L2526 := L2511.k k2517 (by decide)
  have L2527 := L2512.k k2517 (by decide)
  refine ⟨_, _, _, rfl, ?_⟩
  intro m14 e2528
  obtain ⟨τ2531, S2529, k2530, L2532⟩ := S2516.blk e2528 τ2524 5
  have L2533 := L2526.k k2530 (by decide)
  have L2534 := L2527.k k2530 (by decide)
  have M2535 := M2525.k k2530 (by decide)
  obtain ⟨m2539, e2538, S2536, k2537, L2540⟩ := L2532.sto S2529 [c2520, c2522]
  have L2541 := L2533.k k2537 (by decide)
  have L2542 := L2534.k k2537 (by decide)
  have M2543 := M2535.k k2537 (by decide)
  refine ⟨m2539, e2538, ?_⟩
  rw [ifB_ndec]
  refine ⟨fun q2544 => ?_, fun q2544 => ?_⟩
  · skip
    rw [if_neg q2544] at hp
    obtain ⟨m2548, e2547, S2545, k2546, L2549⟩ := L2542.sto S2536 [(.int .i64 (0 : Int)), (.int .i64 (0 : Int))]
    have L2550 := L2541.k k2546 (by decide)
    have L2551 := L2540.k k2546 (by decide)
    have M2552 := M2543.k k2546 (by decide)
    refine ⟨m2548, e2547, ?_⟩
    refine ⟨_, _, L2549.bk.ra, ?_⟩
    obtain rfl := Option.some.inj hp
    exact hq _ S2545.ext'
  · skip
    rw [if_pos q2544] at hp
    refine ⟨_, _, L2540.bk.ra, _, _, _, _, _, _, L2541.bk.ra, ?_⟩
    obtain ⟨r2553, g2554, hp⟩ := bsome hp
    refine s_bounds (w := r2514.1) (c := c) S2536.pre h2521 (M2543.mc S2536) g2554 fun m28 e2557 hM2558 => ?_
    obtain ⟨S2555, k2556, M2559⟩ := S2536.callM M2543 e2557 hM2558
    have L2560 := L2541.k k2556 (by decide)
    have L2561 := L2542.k k2556 (by decide)
    have L2562 := L2540.k k2556 (by decide)
    refine ⟨_, _, rfl, ?_⟩
    obtain ⟨m2566, e2565, S2563, k2564, L2567⟩ := L2561.sto S2555 [(.int .i64 r2553.1.Lo), (.int .i64 r2553.1.Hi)]
    have L2568 := L2560.k k2564 (by decide)
    have L2569 := L2562.k k2564 (by decide)
    have M2570 := M2559.k k2564 (by decide)
    refine ⟨m2566, e2565, ?_⟩
    refine ⟨_, _, L2567.bk.ra, ?_⟩
    obtain rfl := Option.some.inj hp
    exact hq _ S2563.ext'
theorem s_Pay {l : List Tf} {c : Clm} {t : Tr} {ca100 : C} {m f : M} {Q : V → M → Prop} {rz : Int × Int} (hS : Pre f m) (ha100 : Sl f ca100 l) (hp : pPay l c t = some rz) (hq : ∀ m', Ext m m' → Q (.tup [.c (.int .i64 rz.1), .c (.int .i64 rz.2)]) m') : Wc prog tbl 25 [.c ca100, .agg 6 [(.int .i64 c.Crop), (.int .i64 c.Value), (.int .i64 c.Day.Lo), (.int .i64 c.Day.Hi), (.int .i64 c.Count.Lo), (.int .i64 c.Count.Hi)], .agg 2 [(.int .i64 t.Day), (.int .i64 t.Count)]] m Q := by
  have S0 := hS.st
  obtain ⟨τ0, _⟩ : ∃ τ : Nat → Nat, True := ⟨fun _ => 0, trivial⟩
  refine w25 ?_
  unfold pPay at hp
  intro m0 e2792
  obtain ⟨τ2795, S2793, k2794, L2796⟩ := S0.blk e2792 τ0 1
  intro m1 e2797
  obtain ⟨τ2800, S2798, k2799, L2801⟩ := S2793.blk e2797 τ2795 2
  have L2802 := L2796.k k2799 (by decide)
  refine ⟨_, _, _, _, _, _, L2802.bk.ra, ?_⟩
  intro m8 e2803
  obtain ⟨τ2806, S2804, k2805, L2807⟩ := S2798.blk e2803 τ2800 3
  have L2808 := L2802.k k2805 (by decide)
  have L2809 := L2801.k k2805 (by decide)
  obtain ⟨f2810, S2811, k2812, hb2813⟩ := L2807.freeze S2804
  have L2814 := L2808.k k2812 (by decide)
  have L2815 := L2809.k k2812 (by decide)
  have h2816 : Sl f2810 (C.sl m1.nxt 0 1 0 (Option.some 1)) ([c] : List Clm) := Bk.sl (l := ([c] : List Clm)) hb2813 (⟨[(.int .i64 c.Crop), (.int .i64 c.Value), (.int .i64 c.Day.Lo), (.int .i64 c.Day.Hi), (.int .i64 c.Count.Lo), (.int .i64 c.Count.Hi)], _, rfl, rfl, rfl⟩) rfl rfl _
  obtain ⟨r2817, g2818, hp⟩ := bsome hp
  refine s_openFor (l := l) (claims := ([c] : List Clm)) S2811.pre (ha100.sub k2812.fs) h2816 g2818 fun m10 f2822 c2823 c2825 e2821 h2824 h2826 => ?_
  obtain ⟨τ2827, S2819, k2820, M2828⟩ := S2811.callN e2821 h2826 τ2806 4
  have L2829 := L2814.k k2820 (by decide)
  have L2830 := L2815.k k2820 (by decide)
  refine ⟨_, _, _, rfl, ?_⟩
  intro m14 e2831
  obtain ⟨τ2834, S2832, k2833, L2835⟩ := S2819.blk e2831 τ2827 5
  have L2836 := L2829.k k2833 (by decide)
  have L2837 := L2830.k k2833 (by decide)
  have M2838 := M2828.k k2833 (by decide)
  obtain ⟨m2842, e2841, S2839, k2840, L2843⟩ := L2835.sto S2832 [c2823, c2825]
  have L2844 := L2836.k k2840 (by decide)
  have L2845 := L2837.k k2840 (by decide)
  have M2846 := M2838.k k2840 (by decide)
  refine ⟨m2842, e2841, ?_⟩
  rw [ifB_ndec]
  refine ⟨fun q2847 => ?_, fun q2847 => ?_⟩
  · skip
    rw [if_neg q2847] at hp
    obtain rfl := Option.some.inj hp
    exact hq _ S2839.ext'
  · skip
    rw [if_pos q2847] at hp
    refine ⟨_, _, _, _, _, _, L2844.bk.ra, _, _, L2845.bk.ra, ?_⟩
    obtain ⟨r2848, g2849, hp⟩ := bsome hp
    refine s_clHas (c := c) (t := t) S2839.pre  g2849 fun m25 e2852 => ?_
    obtain ⟨S2850, k2851⟩ := S2839.call e2852 τ2834
    have L2853 := L2844.k k2851 (by decide)
    have L2854 := L2845.k k2851 (by decide)
    have L2855 := L2843.k k2851 (by decide)
    have M2856 := M2846.k k2851 (by decide)
    refine ⟨_, rfl, ?_⟩
    rw [ifB_iff]
    refine ⟨fun q2857 => ?_, fun q2857 => ?_⟩
    · skip
      rw [bif_neg (nb_f q2857)] at hp
      obtain rfl := Option.some.inj hp
      exact hq _ S2850.ext'
    · skip
      rw [if_pos (nb_t q2857)] at hp
      refine ⟨_, _, L2855.bk.ra, _, _, _, _, _, _, L2853.bk.ra, _, _, L2854.bk.ra, ?_⟩
      obtain ⟨r2858, g2859, hp⟩ := bsome hp
      refine s_payment (w := r2817.1) (c := c) (t := t) S2850.pre h2824 (M2856.mc S2850) g2859 fun m38 e2862 hM2863 => ?_
      obtain ⟨S2860, k2861, M2864⟩ := S2850.callM M2856 e2862 hM2863
      have L2865 := L2853.k k2861 (by decide)
      have L2866 := L2854.k k2861 (by decide)
      have L2867 := L2855.k k2861 (by decide)
      refine ⟨_, rfl, ?_⟩
      obtain rfl := Option.some.inj hp
      exact hq _ S2860.ext'
theorem s_lTariffs {l : List Tf} {ca100 : C} {m f : M} {Q : V → M → Prop} {rz : List Tf} (hS : Pre f m) (ha100 : Sl f ca100 l) (hp : plTariffs l = some rz) (hq : ∀ m' f' c0, Grw m f m' f' → Sl f' c0 rz → Q (.c c0) m') : Wc prog tbl 19 [.c ca100] m Q := by
  have S0 := hS.st
  obtain ⟨τ0, _⟩ : ∃ τ : Nat → Nat, True := ⟨fun _ => 0, trivial⟩
  refine w19 ?_
  unfold plTariffs at hp
  intro R0 hR0
  have hgo : ∀ (d2948 : Nat) (c1 : C) (x2 : Int) (l2946 : List Tf) (m3 : M) (f2945 : M) (τ2944 : Nat → Nat), St (Fm.of m) f f2945 m3 → Sub f f2945 → Ow (Fm.of m) f2945 τ2944 m3 1 c1 l2946 → plTariffs_L0 l d2948 l2946 x2 = some rz → R0 [.c c1, .c (.int .i64 x2)] m3 := by
    intro d2948
    induction d2948 with
    | zero => intro c1 x2 l2946 m3 f2945 τ2944 S2943 f2945s o2947 hp; cases hp
    | succ d2948 ihR0 =>
      intro c1 x2 l2946 m3 f2945 τ2944 S2943 f2945s o2947 hp
      refine hR0 _ _ _ ?_
      rw [plTariffs_L0] at hp
      refine ⟨ha100.isSl, ?_⟩
      try rw [ha100.slLen]
      rw [ifB_dec]
      refine ⟨fun q2949 => ?_, fun q2949 => ?_⟩
      · skip
        rw [if_pos q2949] at hp
        intro m4 e2950
        obtain ⟨τ2953, S2951, k2952, hz2954⟩ := S2943.growK e2950 τ2944 2
        have o2947 := o2947.k k2952 (by decide)
        have Z2955 := hz2954 0 (by decide)
        obtain ⟨v2956, g2957, hp⟩ := bsome hp
        obtain ⟨n5, g2957i, g2957l, g2957⟩ := idx_some g2957
        obtain ⟨c2958, c2960, c2962, r2964, h2959, h2961, h2963⟩ := rd_Tf ha100 g2957
        refine ⟨n5, g2957i, (by first | exact g2957l | (rw [ha100.slLen]; exact g2957l)), (ha100.isPt g2957 _), _, ((r2964 _ (Sub.trans f2945s S2951.sub)).2.1 0 _ rfl), ?_⟩
        obtain ⟨v2965, g2966, hp⟩ := bsome hp
        obtain ⟨n7, g2966i, g2966l, g2966⟩ := idx_some g2966
        obtain ⟨c2967, c2969, c2971, r2973, h2968, h2970, h2972⟩ := rd_Tf ha100 g2966
        refine ⟨n7, g2966i, (by first | exact g2966l | (rw [ha100.slLen]; exact g2966l)), (ha100.isPt g2966 _), _, ((r2973 _ (Sub.trans f2945s S2951.sub)).2.1 1 _ rfl), ?_⟩
        obtain ⟨v2974, g2975, hp⟩ := bsome hp
        obtain ⟨n9, g2975i, g2975l, g2975⟩ := idx_some g2975
        obtain ⟨c2976, c2978, c2980, r2982, h2977, h2979, h2981⟩ := rd_Tf ha100 g2975
        refine ⟨n9, g2975i, (by first | exact g2975l | (rw [ha100.slLen]; exact g2975l)), (ha100.isPt g2975 _), _, ((r2982 _ (Sub.trans f2945s S2951.sub)).2.1 2 _ rfl), ?_⟩
        obtain ⟨v2983, g2984, hp⟩ := bsome hp
        obtain ⟨n11, g2984i, g2984l, g2984⟩ := idx_some g2984
        obtain ⟨c2985, c2987, c2989, r2991, h2986, h2988, h2990⟩ := rd_Tf ha100 g2984
        refine ⟨n11, g2984i, (by first | exact g2984l | (rw [ha100.slLen]; exact g2984l)), (ha100.isPt g2984 _), _, ((r2991 _ (Sub.trans f2945s S2951.sub)).2.1 3 _ rfl), ?_⟩
        obtain ⟨r2992, g2993, hp⟩ := bsome hp
        refine s_lList (l := v2983.Weeks) S2951.pre (h2986.sub f2945s) g2993 fun m14 f2997 c2998 e2996 h2999 => ?_
        obtain ⟨S2994, k2995⟩ := S2951.callG e2996 τ2953
        have Z3000 := Z2955.k k2995 (by decide)
        have o2947 := o2947.k k2995 (by decide)
        refine ⟨_, rfl, ((r2982 _ (Sub.trans (Sub.trans f2945s k2995.fs) S2994.sub)).2.1 2 _ rfl), ((r2973 _ (Sub.trans (Sub.trans f2945s k2995.fs) S2994.sub)).2.1 1 _ rfl), ((r2964 _ (Sub.trans (Sub.trans f2945s k2995.fs) S2994.sub)).2.1 0 _ rfl), ?_⟩
        obtain ⟨v3001, g3002, hp⟩ := bsome hp
        obtain ⟨n16, g3002i, g3002l, g3002⟩ := idx_some g3002
        obtain ⟨c3003, c3005, c3007, r3009, h3004, h3006, h3008⟩ := rd_Tf ha100 g3002
        refine ⟨n16, g3002i, (by first | exact g3002l | (rw [ha100.slLen]; exact g3002l)), (ha100.isPt g3002 _), _, ((r3009 _ (Sub.trans (Sub.trans f2945s k2995.fs) S2994.sub)).2.1 4 _ rfl), (by rw [show noFnC _ = true from h3006.noFn]; exact ((r3009 _ (Sub.trans f2945s S2951.sub)).2.1 4 _ rfl)), ?_⟩
        obtain ⟨r3010, g3011, hp⟩ := bsome hp
        refine s_lList (l := v3001.Counts) S2994.pre (h3006.sub (Sub.trans f2945s k2995.fs)) g3011 fun m19 f3015 c3016 e3014 h3017 => ?_
        obtain ⟨S3012, k3013⟩ := S2994.callG e3014 τ2953
        have Z3018 := Z3000.k k3013 (by decide)
        have o2947 := o2947.k k3013 (by decide)
        refine ⟨_, rfl, ((r2982 _ (Sub.trans (Sub.trans (Sub.trans f2945s k2995.fs) k3013.fs) S3012.sub)).2.1 2 _ rfl), ((r2973 _ (Sub.trans (Sub.trans (Sub.trans f2945s k2995.fs) k3013.fs) S3012.sub)).2.1 1 _ rfl), ((r2964 _ (Sub.trans (Sub.trans (Sub.trans f2945s k2995.fs) k3013.fs) S3012.sub)).2.1 0 _ rfl), ?_⟩
        intro m21 e3019
        obtain ⟨S3020, k3021, L3022⟩ := Z3018.set S3012 e3019
        have o2947 := o2947.k k3021 (by decide)
        refine ⟨(by rw [show noFnC _ = true from h3006.noFn]; exact ((r3009 _ (Sub.trans (Sub.trans (Sub.trans f2945s k2995.fs) k3013.fs) S3020.sub)).2.1 4 _ rfl)), (by rw [show noFnC _ = true from h2986.noFn]; exact ((r2991 _ (Sub.trans (Sub.trans (Sub.trans f2945s k2995.fs) k3013.fs) S3020.sub)).2.1 3 _ rfl)), ((r2982 _ (Sub.trans (Sub.trans (Sub.trans f2945s k2995.fs) k3013.fs) S3020.sub)).2.1 2 _ rfl), ((r2973 _ (Sub.trans (Sub.trans (Sub.trans f2945s k2995.fs) k3013.fs) S3020.sub)).2.1 1 _ rfl), ((r2964 _ (Sub.trans (Sub.trans (Sub.trans f2945s k2995.fs) k3013.fs) S3020.sub)).2.1 0 _ rfl), ?_⟩
        obtain ⟨m3026, e3025, S3023, k3024, L3027⟩ := L3022.sto S3020 [(.int .i64 v2956.From), (.bool v2965.Whole), (.int .i64 v2974.Least), c2998, c3016, .sl0]
        have o2947 := o2947.k k3024 (by decide)
        refine ⟨m3026, e3025, ?_⟩
        intro R23 hR23
        have hgo : ∀ (d3037 : Nat) (x24 : Int) (c3035 : C) (y3031 : Int) (y3032 : Bool) (y3033 : Int) (y3034 : List (List (List Int))) (m25 : M) (f3030 : M) (τ3029 : Nat → Nat), St (Fm.of m) f f3030 m25 → Sub f3015 f3030 → Lb (Fm.of m) f3030 τ3029 m25 2 (m3.nxt + 0) 6 [(.int .i64 y3031), (.bool y3032), (.int .i64 y3033), c2998, c3016, c3035] → Ow (Fm.of m) f3030 τ3029 m25 3 c3035 y3034 → Ow (Fm.of m) f3030 τ3029 m25 1 c1 l2946 → plTariffs_L1 l l2946 x2 r2992 r3010 (plTariffs_L0 l d2948) d3037 y3031 y3032 y3033 y3034 x24 = some rz → R23 [.c (.int .i64 x24)] m25 := by
          intro d3037
          induction d3037 with
          | zero => intro x24 c3035 y3031 y3032 y3033 y3034 m25 f3030 τ3029 S3028 f3030s L3027 o3036 o2947 hp; cases hp
          | succ d3037 ihR23 =>
            intro x24 c3035 y3031 y3032 y3033 y3034 m25 f3030 τ3029 S3028 f3030s L3027 o3036 o2947 hp
            refine hR23 _ _ ?_
            rw [plTariffs_L1] at hp
            obtain ⟨v3038, g3039, hp⟩ := bsome hp
            obtain ⟨n26, g3039i, g3039l, g3039⟩ := idx_some g3039
            obtain ⟨c3040, c3042, c3044, r3046, h3041, h3043, h3045⟩ := rd_Tf ha100 g3039
            refine ⟨n26, g3039i, (by first | exact g3039l | (rw [ha100.slLen]; exact g3039l)), (ha100.isPt g3039 _), _, ((r3046 _ (Sub.trans (Sub.trans (Sub.trans (Sub.trans f2945s k2995.fs) k3013.fs) f3030s) S3028.sub)).2.1 5 _ rfl), h3045.isSl, ?_⟩
            try rw [h3045.slLen]
            rw [ifB_dec]
            refine ⟨fun q3047 => ?_, fun q3047 => ?_⟩
            · skip
              rw [if_pos q3047] at hp
              intro R28 hR28
              have hgo : ∀ (d3053 : Nat) (c29 : C) (x30 : Int) (l3051 : List (List Int)) (m31 : M) (f3050 : M) (τ3049 : Nat → Nat), St (Fm.of m) f f3050 m31 → Sub f3030 f3050 → Lb (Fm.of m) f3050 τ3049 m31 2 (m3.nxt + 0) 6 [(.int .i64 y3031), (.bool y3032), (.int .i64 y3033), c2998, c3016, c3035] → Ow (Fm.of m) f3050 τ3049 m31 4 c29 l3051 → Ow (Fm.of m) f3050 τ3049 m31 1 c1 l2946 → Ow (Fm.of m) f3050 τ3049 m31 3 c3035 y3034 → plTariffs_L2 l x2 y3031 y3032 y3033 y3034 x24 (plTariffs_L1 l l2946 x2 r2992 r3010 (plTariffs_L0 l d2948) d3037) d3053 l3051 x30 = some rz → R28 [.c c29, .c (.int .i64 x30)] m31 := by
                intro d3053
                induction d3053 with
                | zero => intro c29 x30 l3051 m31 f3050 τ3049 S3048 f3050s L3027 o3052 o2947 o3036 hp; cases hp
                | succ d3053 ihR28 =>
                  intro c29 x30 l3051 m31 f3050 τ3049 S3048 f3050s L3027 o3052 o2947 o3036 hp
                  refine hR28 _ _ _ ?_
                  rw [plTariffs_L2] at hp
                  obtain ⟨v3054, g3055, hp⟩ := bsome hp
                  obtain ⟨n32, g3055i, g3055l, g3055⟩ := idx_some g3055
                  obtain ⟨c3056, c3058, c3060, r3062, h3057, h3059, h3061⟩ := rd_Tf ha100 g3055
                  refine ⟨n32, g3055i, (by first | exact g3055l | (rw [ha100.slLen]; exact g3055l)), (ha100.isPt g3055 _), _, ((r3062 _ (Sub.trans (Sub.trans (Sub.trans (Sub.trans (Sub.trans f2945s k2995.fs) k3013.fs) f3030s) f3050s) S3048.sub)).2.1 5 _ rfl), ?_⟩
                  obtain ⟨v3063, g3064, hp⟩ := bsome hp
                  obtain ⟨n34, g3064i, g3064l, g3064⟩ := idx_some g3064
                  obtain ⟨c3065, r3066, h3067⟩ := h3061.rdS g3064
                  refine ⟨n34, g3064i, (by first | exact g3064l | (rw [h3061.slLen]; exact g3064l)), _, (r3066 _ (Sub.trans (Sub.trans (Sub.trans (Sub.trans (Sub.trans f2945s k2995.fs) k3013.fs) f3030s) f3050s) S3048.sub)), h3067.isSl, ?_⟩
                  try rw [h3067.slLen]
                  rw [ifB_dec]
                  refine ⟨fun q3068 => ?_, fun q3068 => ?_⟩
                  · skip
                    rw [if_pos q3068] at hp
                    obtain ⟨v3069, g3070, hp⟩ := bsome hp
                    obtain ⟨n36, g3070i, g3070l, g3070⟩ := idx_some g3070
                    obtain ⟨c3071, c3073, c3075, r3077, h3072, h3074, h3076⟩ := rd_Tf ha100 g3070
                    refine ⟨n36, g3070i, (by first | exact g3070l | (rw [ha100.slLen]; exact g3070l)), (ha100.isPt g3070 _), _, ((r3077 _ (Sub.trans (Sub.trans (Sub.trans (Sub.trans (Sub.trans f2945s k2995.fs) k3013.fs) f3030s) f3050s) S3048.sub)).2.1 5 _ rfl), ?_⟩
                    obtain ⟨v3078, g3079, hp⟩ := bsome hp
                    obtain ⟨n38, g3079i, g3079l, g3079⟩ := idx_some g3079
                    obtain ⟨c3080, r3081, h3082⟩ := h3076.rdS g3079
                    refine ⟨n38, g3079i, (by first | exact g3079l | (rw [h3076.slLen]; exact g3079l)), _, (r3081 _ (Sub.trans (Sub.trans (Sub.trans (Sub.trans (Sub.trans f2945s k2995.fs) k3013.fs) f3030s) f3050s) S3048.sub)), ?_⟩
                    obtain ⟨v3083, g3084, hp⟩ := bsome hp
                    obtain ⟨n40, g3084i, g3084l, g3084⟩ := idx_some g3084
                    obtain ⟨c3085, r3086, h3087⟩ := h3082.rdS g3084
                    refine ⟨n40, g3084i, (by first | exact g3084l | (rw [h3082.slLen]; exact g3084l)), _, (r3086 _ (Sub.trans (Sub.trans (Sub.trans (Sub.trans (Sub.trans f2945s k2995.fs) k3013.fs) f3030s) f3050s) S3048.sub)), ?_⟩
                    obtain ⟨r3088, g3089, hp⟩ := bsome hp
                    refine s_lList (l := v3083) S3048.pre (h3087.sub (Sub.trans (Sub.trans (Sub.trans (Sub.trans f2945s k2995.fs) k3013.fs) f3030s) f3050s)) g3089 fun m43 f3093 c3094 e3092 h3095 => ?_
                    obtain ⟨S3090, k3091⟩ := S3048.callG e3092 τ3049
                    have L3096 := L3027.k k3091 (by decide)
                    have o2947 := o2947.k k3091 (by decide)
                    have o3036 := o3036.k k3091 (by decide)
                    have o3052 := o3052.k k3091 (by decide)
                    refine ⟨_, rfl, ?_⟩
                    obtain ⟨g3105, hp⟩ := gd_some hp
                    intro m45 e3097
                    obtain ⟨c3101, m3102, τ3100, a3103, S3098, k3099, o3104⟩ := o3052.app' ta77 S3090 (a := r3088) (show Rp.rep (α := List Int) f3093 _ r3088 from ⟨_, rfl, h3095⟩) g3105 e3097
                    have L3106 := L3096.k k3099 (by decide)
                    have o2947 := o2947.k k3099 (by decide)
                    have o3036 := o3036.k k3099 (by decide)
                    refine ⟨c3101, m3102, a3103, ?_⟩
                    obtain ⟨g3107, hp⟩ := gd_some hp
                    refine ⟨g3107, ?_⟩
                    exact ihR28 _ _ _ _ f3093 τ3100 S3098 (Sub.trans f3050s k3091.fs) L3106 o3104 o2947 o3036 hp
                  · skip
                    rw [if_neg q3068] at hp
                    refine ⟨trivial, _, L3027.bk.rc rfl, ?_⟩
                    obtain ⟨f3108, S3109, k3110, h3111⟩ := o3052.freeze S3048
                    have L3112 := L3027.k k3110 (by decide)
                    have o2947 := o2947.k k3110 (by decide)
                    have o3036 := o3036.k k3110 (by decide)
                    obtain ⟨g3121, hp⟩ := gd_some hp
                    intro m49 e3113
                    obtain ⟨c3117, m3118, τ3116, a3119, S3114, k3115, o3120⟩ := o3036.app' ta74 S3109 (a := l3051) (show Rp.rep (α := List (List Int)) f3108 _ l3051 from ⟨_, rfl, h3111⟩) g3121 e3113
                    have L3122 := L3112.k k3115 (by decide)
                    have o2947 := o2947.k k3115 (by decide)
                    have o3123 := o3052.k k3115.old (by decide)
                    refine ⟨c3117, m3118, a3119, ?_⟩
                    refine ⟨trivial, ?_⟩
                    obtain ⟨m3127, e3126, S3124, k3125, L3128⟩ := L3122.sto1 S3114 5 c3117 (by simp) rfl
                    replace L3128 : Lb _ _ _ _ _ _ _ [(.int .i64 y3031), (.bool y3032), (.int .i64 y3033), c2998, c3016, c3117] := L3128
                    have o2947 := o2947.k k3125 (by decide)
                    have o3120 := o3120.k k3125 (by decide)
                    have o3129 := o3123.k k3125.old (by decide)
                    refine ⟨m3127, e3126, ?_⟩
                    obtain ⟨g3130, hp⟩ := gd_some hp
                    refine ⟨g3130, ?_⟩
                    exact ihR23 _ _ _ _ _ _ _ f3108 τ3116 S3124 (Sub.trans (Sub.trans f3030s f3050s) k3110.fs) L3128 o3120 o2947 hp
              exact hgo _ _ _ _ _ f3030 τ3029 S3028 (Sub.refl _) L3027 (Ow.nil _ _ _ _ _) o2947 o3036 hp
            · skip
              rw [if_neg q3047] at hp
              refine ⟨_, _, _, _, _, _, L3027.bk.ra, ?_⟩
              obtain ⟨f3131, S3132, k3133, h3134⟩ := o3036.freeze S3028
              have L3135 := L3027.k k3133 (by decide)
              have o2947 := o2947.k k3133 (by decide)
              obtain ⟨g3144, hp⟩ := gd_some hp
              intro m59 e3136
              obtain ⟨c3140, m3141, τ3139, a3142, S3137, k3138, o3143⟩ := o2947.app' ta28 S3132 (a := ({ From := y3031, Whole := y3032, Least := y3033, Weeks := r2992, Counts := r3010, Rates := y3034 } : Tf)) (show Rp.rep (α := Tf) f3131 _ ({ From := y3031, Whole := y3032, Least := y3033, Weeks := r2992, Counts := r3010, Rates := y3034 } : Tf) from ⟨_, _, _, rfl, (h2999.sub (Sub.trans (Sub.trans k3013.fs f3030s) k3133.fs)), (h3017.sub (Sub.trans f3030s k3133.fs)), h3134⟩) g3144 e3136
              have L3145 := L3135.k k3138 (by decide)
              have o3146 := o3036.k k3138.old (by decide)
              refine ⟨c3140, m3141, a3142, ?_⟩
              obtain ⟨g3147, hp⟩ := gd_some hp
              refine ⟨g3147, ?_⟩
              exact ihR0 _ _ _ _ f3131 τ3139 S3137 (Sub.trans (Sub.trans (Sub.trans (Sub.trans f2945s k2995.fs) k3013.fs) f3030s) k3133.fs) o3143 hp
        exact hgo _ _ _ _ _ _ _ _ f3015 τ2953 S3023 (Sub.refl _) L3027 (Ow.nil _ _ _ _ _) o2947 hp
      · skip
        rw [if_neg q2949] at hp
        obtain ⟨f3148, S3149, k3150, h3151⟩ := o2947.freeze S2943
        obtain rfl := Option.some.inj hp
        exact hq _ f3148 c1 S3149.grw h3151
  exact hgo _ _ _ _ _ f τ0 S0 (Sub.refl _) (Ow.nil _ _ _ _ _) hp
theorem s_TariffWider {l : List Tf} {c : Clm} {wd : Int} {day : Int} {count : Int} {ca100 : C} {m f : M} {Q : V → M → Prop} {rz : Bool} (hS : Pre f m) (ha100 : Sl f ca100 l) (hp : pTariffWider l c wd day count = some rz) (hq : ∀ m', Ext m m' → Q (.c (.bool rz)) m') : Wc prog tbl 14 [.c ca100, .agg 6 [(.int .i64 c.Crop), (.int .i64 c.Value), (.int .i64 c.Day.Lo), (.int .i64 c.Day.Hi), (.int .i64 c.Count.Lo), (.int .i64 c.Count.Hi)], .c (.int .u8 wd), .c (.int .u8 day), .c (.int .u8 count)] m Q := by
  have S0 := hS.st
  obtain ⟨τ0, _⟩ : ∃ τ : Nat → Nat, True := ⟨fun _ => 0, trivial⟩
  refine w14 ?_
  unfold pTariffWider at hp
  intro m0 e4539
  obtain ⟨τ4542, S4540, k4541, L4543⟩ := S0.blk e4539 τ0 1
  refine ⟨_, _, _, _, _, _, L4543.bk.ra, ?_⟩
  obtain ⟨r4544, g4545, hp⟩ := bsome hp
  refine s_lFine (l := l) (c := c) S4540.pre ha100 g4545 fun m8 e4548 => ?_
  obtain ⟨S4546, k4547⟩ := S4540.call e4548 τ4542
  have L4549 := L4543.k k4547 (by decide)
  refine ⟨_, rfl, ?_⟩
  rw [ifB_iff]
  refine ⟨fun q4550 => ?_, fun q4550 => ?_⟩
  · skip
    rw [bif_neg (nb_f q4550)] at hp
    obtain ⟨r4551, g4552, hp⟩ := bsome hp
    refine s_awake S4546.pre  g4552 fun m11 e4555 => ?_
    obtain ⟨S4553, k4554⟩ := S4546.call e4555 τ4542
    have L4556 := L4549.k k4554 (by decide)
    refine ⟨_, rfl, ?_⟩
    obtain rfl := Option.some.inj hp
    exact hq _ S4553.ext'
  · skip
    rw [if_pos (nb_t q4550)] at hp
    intro m13 e4557
    obtain ⟨τ4560, S4558, k4559, hz4561⟩ := S4546.growK e4557 τ4542 2
    have L4562 := L4549.k k4559 (by decide)
    have Z4563 := hz4561 0 (by decide)
    refine ⟨_, _, _, _, _, _, L4562.bk.ra, _, _, _, _, _, _, L4562.bk.ra, ?_⟩
    intro m26 e4564
    obtain ⟨τ4567, S4565, k4566, L4568⟩ := S4558.blk e4564 τ4560 3
    have L4569 := L4562.k k4566 (by decide)
    have Z4570 := Z4563.k k4566 (by decide)
    refine ⟨(L4569.bk.ra), (L4569.bk.ra), ?_⟩
    intro m27 e4571
    obtain ⟨S4572, k4573, L4574⟩ := Z4570.set S4565 e4571
    have L4575 := L4569.k k4573 (by decide)
    have L4576 := L4568.k k4573 (by decide)
    refine ⟨(L4575.bk.ra), (L4575.bk.ra), ?_⟩
    obtain ⟨m4580, e4579, S4577, k4578, L4581⟩ := L4576.sto S4572 [(.int .i64 c.Crop), (.int .i64 c.Value), (.int .i64 c.Day.Lo), (.int .i64 c.Day.Hi), (.int .i64 c.Count.Lo), (.int .i64 c.Count.Hi)]
    have L4582 := L4575.k k4578 (by decide)
    have L4583 := L4574.k k4578 (by decide)
    refine ⟨m4580, e4579, ?_⟩
    refine ⟨(L4582.bk.ra), ?_⟩
    obtain ⟨m4587, e4586, S4584, k4585, L4588⟩ := L4583.sto S4577 [(.int .i64 c.Crop), (.int .i64 c.Value), (.int .i64 c.Day.Lo), (.int .i64 c.Day.Hi), (.int .i64 c.Count.Lo), (.int .i64 c.Count.Hi)]
    have L4589 := L4582.k k4585 (by decide)
    have L4590 := L4581.k k4585 (by decide)
    refine ⟨m4587, e4586, ?_⟩
    refine ⟨trivial, trivial, _, L4589.bk.rc rfl, ?_⟩
    obtain ⟨g4591, hp⟩ := gd_some hp
    refine ⟨g4591, ?_⟩
    obtain ⟨g4592, hp⟩ := gd_some hp
    refine ⟨g4592, ?_⟩
    obtain ⟨g4593, hp⟩ := gd_some hp
    refine ⟨g4593, ?_⟩
    obtain ⟨g4594, hp⟩ := gd_some hp
    refine ⟨g4594, trivial, trivial, _, L4589.bk.rc rfl, ?_⟩
    obtain ⟨g4595, hp⟩ := gd_some hp
    refine ⟨g4595, ?_⟩
    obtain ⟨g4596, hp⟩ := gd_some hp
    refine ⟨g4596, ?_⟩
    obtain ⟨g4597, hp⟩ := gd_some hp
    refine ⟨g4597, ?_⟩
    obtain ⟨g4598, hp⟩ := gd_some hp
    refine ⟨g4598, ?_⟩
    obtain ⟨g4599, hp⟩ := gd_some hp
    refine ⟨g4599, ?_⟩
    obtain ⟨g4600, hp⟩ := gd_some hp
    refine ⟨g4600, ?_⟩
    obtain ⟨g4601, hp⟩ := gd_some hp
    refine ⟨g4601, trivial, ?_⟩
    obtain ⟨m4605, e4604, S4602, k4603, L4606⟩ := L4590.stoP S4584 2 [(.int .i64 (max (0 : Int) (c.Day.Lo - ((wrapZ .i64 wd) % (3 : Int))))), (.int .i64 (min (120 : Int) (c.Day.Hi + (((wrapZ .i64 wd) / (3 : Int)) % (3 : Int)))))] (Nat.le_of_ble_eq_true rfl) rfl
    replace L4606 : Lb _ _ _ _ _ _ _ [(.int .i64 c.Crop), (.int .i64 c.Value), (.int .i64 (max (0 : Int) (c.Day.Lo - ((wrapZ .i64 wd) % (3 : Int))))), (.int .i64 (min (120 : Int) (c.Day.Hi + (((wrapZ .i64 wd) / (3 : Int)) % (3 : Int))))), (.int .i64 c.Count.Lo), (.int .i64 c.Count.Hi)] := L4606
    have L4607 := L4589.k k4603 (by decide)
    have L4608 := L4588.k k4603 (by decide)
    refine ⟨m4605, e4604, ?_⟩
    refine ⟨trivial, trivial, _, L4607.bk.rc rfl, ?_⟩
    obtain ⟨g4609, hp⟩ := gd_some hp
    refine ⟨g4609, ?_⟩
    obtain ⟨g4610, hp⟩ := gd_some hp
    refine ⟨g4610, ?_⟩
    obtain ⟨g4611, hp⟩ := gd_some hp
    refine ⟨g4611, ?_⟩
    obtain ⟨g4612, hp⟩ := gd_some hp
    refine ⟨g4612, ?_⟩
    obtain ⟨g4613, hp⟩ := gd_some hp
    refine ⟨g4613, ?_⟩
    obtain ⟨g4614, hp⟩ := gd_some hp
    refine ⟨g4614, ?_⟩
    obtain ⟨g4615, hp⟩ := gd_some hp
    refine ⟨g4615, trivial, trivial, _, L4607.bk.rc rfl, ?_⟩
    obtain ⟨g4616, hp⟩ := gd_some hp
    refine ⟨g4616, ?_⟩
    obtain ⟨g4617, hp⟩ := gd_some hp
    refine ⟨g4617, ?_⟩
    obtain ⟨g4618, hp⟩ := gd_some hp
    refine ⟨g4618, ?_⟩
    obtain ⟨g4619, hp⟩ := gd_some hp
    refine ⟨g4619, ?_⟩
    obtain ⟨g4620, hp⟩ := gd_some hp
    refine ⟨g4620, ?_⟩
    obtain ⟨g4621, hp⟩ := gd_some hp
    refine ⟨g4621, ?_⟩
    obtain ⟨g4622, hp⟩ := gd_some hp
    refine ⟨g4622, trivial, ?_⟩
    obtain ⟨m4626, e4625, S4623, k4624, L4627⟩ := L4606.stoP S4602 4 [(.int .i64 (max (0 : Int) (c.Count.Lo - (((wrapZ .i64 wd) / (9 : Int)) % (9 : Int))))), (.int .i64 (min (100 : Int) (c.Count.Hi + (((wrapZ .i64 wd) / (81 : Int)) * (7 : Int)))))] (Nat.le_of_ble_eq_true rfl) rfl
    replace L4627 : Lb _ _ _ _ _ _ _ [(.int .i64 c.Crop), (.int .i64 c.Value), (.int .i64 (max (0 : Int) (c.Day.Lo - ((wrapZ .i64 wd) % (3 : Int))))), (.int .i64 (min (120 : Int) (c.Day.Hi + (((wrapZ .i64 wd) / (3 : Int)) % (3 : Int))))), (.int .i64 (max (0 : Int) (c.Count.Lo - (((wrapZ .i64 wd) / (9 : Int)) % (9 : Int))))), (.int .i64 (min (100 : Int) (c.Count.Hi + (((wrapZ .i64 wd) / (81 : Int)) * (7 : Int)))))] := L4627
    have L4628 := L4607.k k4624 (by decide)
    have L4629 := L4608.k k4624 (by decide)
    refine ⟨m4626, e4625, ?_⟩
    refine ⟨_, _, _, _, _, _, L4628.bk.ra, ?_⟩
    obtain ⟨r4630, g4631, hp⟩ := bsome hp
    refine s_lPicked (c := c) (day := day) (count := count) S4623.pre  g4631 fun m43 e4634 => ?_
    obtain ⟨S4632, k4633⟩ := S4623.call e4634 τ4567
    have L4635 := L4628.k k4633 (by decide)
    have L4636 := L4627.k k4633 (by decide)
    have L4637 := L4629.k k4633 (by decide)
    refine ⟨_, _, rfl, ?_⟩
    intro m46 e4638
    obtain ⟨τ4641, S4639, k4640, L4642⟩ := S4632.blk e4638 τ4567 4
    have L4643 := L4635.k k4640 (by decide)
    have L4644 := L4636.k k4640 (by decide)
    have L4645 := L4637.k k4640 (by decide)
    obtain ⟨m4649, e4648, S4646, k4647, L4650⟩ := L4642.sto S4639 [(.int .i64 r4630.Day), (.int .i64 r4630.Count)]
    have L4651 := L4643.k k4647 (by decide)
    have L4652 := L4644.k k4647 (by decide)
    have L4653 := L4645.k k4647 (by decide)
    refine ⟨m4649, e4648, ?_⟩
    refine ⟨trivial, _, L4650.bk.rc rfl, trivial, _, L4650.bk.rc rfl, trivial, _, L4650.bk.rc rfl, trivial, _, L4650.bk.rc rfl, trivial, ?_⟩
    obtain ⟨m4657, e4656, S4654, k4655, L4658⟩ := L4653.stoP S4646 2 [(.int .i64 r4630.Day), (.int .i64 r4630.Day)] (Nat.le_of_ble_eq_true rfl) rfl
    replace L4658 : Lb _ _ _ _ _ _ _ [(.int .i64 c.Crop), (.int .i64 c.Value), (.int .i64 r4630.Day), (.int .i64 r4630.Day), (.int .i64 c.Count.Lo), (.int .i64 c.Count.Hi)] := L4658
    have L4659 := L4651.k k4655 (by decide)
    have L4660 := L4652.k k4655 (by decide)
    have L4661 := L4650.k k4655 (by decide)
    refine ⟨m4657, e4656, ?_⟩
    refine ⟨(L4661.bk.rc rfl), (L4661.bk.rc rfl), trivial, ?_⟩
    obtain ⟨m4665, e4664, S4662, k4663, L4666⟩ := L4658.stoP S4654 4 [(.int .i64 r4630.Count), (.int .i64 r4630.Count)] (Nat.le_of_ble_eq_true rfl) rfl
    replace L4666 : Lb _ _ _ _ _ _ _ [(.int .i64 c.Crop), (.int .i64 c.Value), (.int .i64 r4630.Day), (.int .i64 r4630.Day), (.int .i64 r4630.Count), (.int .i64 r4630.Count)] := L4666
    have L4667 := L4659.k k4663 (by decide)
    have L4668 := L4660.k k4663 (by decide)
    have L4669 := L4661.k k4663 (by decide)
    refine ⟨m4665, e4664, ?_⟩
    intro m54 e4670
    obtain ⟨τ4673, S4671, k4672, hz4674⟩ := S4662.growK e4670 τ4641 5
    have L4675 := L4667.k k4672 (by decide)
    have L4676 := L4668.k k4672 (by decide)
    have L4677 := L4666.k k4672 (by decide)
    have L4678 := L4669.k k4672 (by decide)
    have Z4679 := hz4674 0 (by decide)
    obtain ⟨r4680, g4681, hp⟩ := bsome hp
    refine s_lTariffs (l := l) S4671.pre ha100 g4681 fun m56 f4685 c4686 e4684 h4687 => ?_
    obtain ⟨S4682, k4683⟩ := S4671.callG e4684 τ4673
    have L4688 := L4675.k k4683 (by decide)
    have L4689 := L4676.k k4683 (by decide)
    have L4690 := L4677.k k4683 (by decide)
    have L4691 := L4678.k k4683 (by decide)
    have Z4692 := Z4679.k k4683 (by decide)
    refine ⟨_, rfl, _, _, _, _, _, _, L4688.bk.ra, (L4675.bk.ra), ?_⟩
    obtain ⟨r4693, g4694, hp⟩ := bsome hp
    refine s_lClaim (c := c) S4682.pre  g4694 fun m65 e4697 => ?_
    obtain ⟨S4695, k4696⟩ := S4682.call e4697 τ4673
    have L4698 := L4688.k k4696 (by decide)
    have L4699 := L4689.k k4696 (by decide)
    have L4700 := L4690.k k4696 (by decide)
    have L4701 := L4691.k k4696 (by decide)
    have Z4702 := Z4692.k k4696 (by decide)
    refine ⟨_, _, _, _, _, _, rfl, ?_⟩
    obtain ⟨r4703, g4704, hp⟩ := bsome hp
    refine s_Bounds (l := r4680) (c := r4693) S4695.pre h4687 g4704 fun m73 e4707 => ?_
    obtain ⟨S4705, k4706⟩ := S4695.call e4707 τ4673
    have L4708 := L4698.k k4706 (by decide)
    have L4709 := L4699.k k4706 (by decide)
    have L4710 := L4700.k k4706 (by decide)
    have L4711 := L4701.k k4706 (by decide)
    have Z4712 := Z4702.k k4706 (by decide)
    refine ⟨_, _, _, rfl, ?_⟩
    intro m77 e4713
    obtain ⟨S4714, k4715, L4716⟩ := Z4712.set S4705 e4713
    have L4717 := L4708.k k4715 (by decide)
    have L4718 := L4709.k k4715 (by decide)
    have L4719 := L4710.k k4715 (by decide)
    have L4720 := L4711.k k4715 (by decide)
    refine ⟨(L4717.bk.ra), ?_⟩
    obtain ⟨m4724, e4723, S4721, k4722, L4725⟩ := L4716.sto S4714 [(.int .i64 r4703.1.Lo), (.int .i64 r4703.1.Hi)]
    have L4726 := L4717.k k4722 (by decide)
    have L4727 := L4718.k k4722 (by decide)
    have L4728 := L4719.k k4722 (by decide)
    have L4729 := L4720.k k4722 (by decide)
    refine ⟨m4724, e4723, ?_⟩
    intro m79 e4730
    obtain ⟨τ4733, S4731, k4732, hz4734⟩ := S4721.growK e4730 τ4673 6
    have L4735 := L4726.k k4732 (by decide)
    have L4736 := L4727.k k4732 (by decide)
    have L4737 := L4728.k k4732 (by decide)
    have L4738 := L4729.k k4732 (by decide)
    have L4739 := L4725.k k4732 (by decide)
    have Z4740 := hz4734 0 (by decide)
    obtain ⟨r4741, g4742, hp⟩ := bsome hp
    refine s_lTariffs (l := l) S4731.pre (ha100.sub k4683.fs) g4742 fun m81 f4746 c4747 e4745 h4748 => ?_
    obtain ⟨S4743, k4744⟩ := S4731.callG e4745 τ4733
    have L4749 := L4735.k k4744 (by decide)
    have L4750 := L4736.k k4744 (by decide)
    have L4751 := L4737.k k4744 (by decide)
    have L4752 := L4738.k k4744 (by decide)
    have L4753 := L4739.k k4744 (by decide)
    have Z4754 := Z4740.k k4744 (by decide)
    refine ⟨_, rfl, _, _, _, _, _, _, L4751.bk.ra, (L4737.bk.ra), ?_⟩
    obtain ⟨r4755, g4756, hp⟩ := bsome hp
    refine s_lClaim (c := ({ Crop := c.Crop, Value := c.Value, Day := ({ Lo := r4630.Day, Hi := r4630.Day } : Rg), Count := ({ Lo := r4630.Count, Hi := r4630.Count } : Rg) } : Clm)) S4743.pre  g4756 fun m90 e4759 => ?_
    obtain ⟨S4757, k4758⟩ := S4743.call e4759 τ4733
    have L4760 := L4749.k k4758 (by decide)
    have L4761 := L4750.k k4758 (by decide)
    have L4762 := L4751.k k4758 (by decide)
    have L4763 := L4752.k k4758 (by decide)
    have L4764 := L4753.k k4758 (by decide)
    have Z4765 := Z4754.k k4758 (by decide)
    refine ⟨_, _, _, _, _, _, rfl, ?_⟩
    obtain ⟨r4766, g4767, hp⟩ := bsome hp
    refine s_Bounds (l := r4741) (c := r4755) S4757.pre h4748 g4767 fun m98 e4770 => ?_
    obtain ⟨S4768, k4769⟩ := S4757.call e4770 τ4733
    have L4771 := L4760.k k4769 (by decide)
    have L4772 := L4761.k k4769 (by decide)
    have L4773 := L4762.k k4769 (by decide)
    have L4774 := L4763.k k4769 (by decide)
    have L4775 := L4764.k k4769 (by decide)
    have Z4776 := Z4765.k k4769 (by decide)
    refine ⟨_, _, _, rfl, ?_⟩
    intro m102 e4777
    obtain ⟨S4778, k4779, L4780⟩ := Z4776.set S4768 e4777
    have L4781 := L4771.k k4779 (by decide)
    have L4782 := L4772.k k4779 (by decide)
    have L4783 := L4773.k k4779 (by decide)
    have L4784 := L4774.k k4779 (by decide)
    have L4785 := L4775.k k4779 (by decide)
    refine ⟨(L4783.bk.ra), ?_⟩
    obtain ⟨m4789, e4788, S4786, k4787, L4790⟩ := L4780.sto S4778 [(.int .i64 r4766.1.Lo), (.int .i64 r4766.1.Hi)]
    have L4791 := L4781.k k4787 (by decide)
    have L4792 := L4782.k k4787 (by decide)
    have L4793 := L4783.k k4787 (by decide)
    have L4794 := L4784.k k4787 (by decide)
    have L4795 := L4785.k k4787 (by decide)
    refine ⟨m4789, e4788, ?_⟩
    obtain ⟨r4796, g4797, hp⟩ := bsome hp
    refine s_lTariffs (l := l) S4786.pre (ha100.sub (Sub.trans k4683.fs k4744.fs)) g4797 fun m105 f4801 c4802 e4800 h4803 => ?_
    obtain ⟨S4798, k4799⟩ := S4786.callG e4800 τ4733
    have L4804 := L4791.k k4799 (by decide)
    have L4805 := L4792.k k4799 (by decide)
    have L4806 := L4793.k k4799 (by decide)
    have L4807 := L4794.k k4799 (by decide)
    have L4808 := L4795.k k4799 (by decide)
    have L4809 := L4790.k k4799 (by decide)
    refine ⟨_, rfl, _, _, _, _, _, _, L4804.bk.ra, (L4791.bk.ra), ?_⟩
    obtain ⟨r4810, g4811, hp⟩ := bsome hp
    refine s_lClaim (c := c) S4798.pre  g4811 fun m114 e4814 => ?_
    obtain ⟨S4812, k4813⟩ := S4798.call e4814 τ4733
    have L4815 := L4804.k k4813 (by decide)
    have L4816 := L4805.k k4813 (by decide)
    have L4817 := L4806.k k4813 (by decide)
    have L4818 := L4807.k k4813 (by decide)
    have L4819 := L4808.k k4813 (by decide)
    have L4820 := L4809.k k4813 (by decide)
    refine ⟨_, _, _, _, _, _, rfl, _, _, L4818.bk.ra, (L4807.bk.ra), (L4794.bk.ra), ?_⟩
    obtain ⟨r4821, g4822, hp⟩ := bsome hp
    refine s_lTruth (t := r4630) S4812.pre  g4822 fun m124 e4825 => ?_
    obtain ⟨S4823, k4824⟩ := S4812.call e4825 τ4733
    have L4826 := L4815.k k4824 (by decide)
    have L4827 := L4816.k k4824 (by decide)
    have L4828 := L4817.k k4824 (by decide)
    have L4829 := L4818.k k4824 (by decide)
    have L4830 := L4819.k k4824 (by decide)
    have L4831 := L4820.k k4824 (by decide)
    refine ⟨_, _, rfl, ?_⟩
    obtain ⟨r4832, g4833, hp⟩ := bsome hp
    refine s_Pay (l := r4796) (c := r4810) (t := r4821) S4823.pre h4803 g4833 fun m128 e4836 => ?_
    obtain ⟨S4834, k4835⟩ := S4823.call e4836 τ4733
    have L4837 := L4826.k k4835 (by decide)
    have L4838 := L4827.k k4835 (by decide)
    have L4839 := L4828.k k4835 (by decide)
    have L4840 := L4829.k k4835 (by decide)
    have L4841 := L4830.k k4835 (by decide)
    have L4842 := L4831.k k4835 (by decide)
    refine ⟨_, _, rfl, ?_⟩
    rw [ifB_ndec]
    refine ⟨fun q4843 => ?_, fun q4843 => ?_⟩
    · skip
      rw [if_neg q4843] at hp
      obtain rfl := Option.some.inj hp
      exact hq _ S4834.ext'
    · skip
      rw [if_pos q4843] at hp
      rw [ifB_ndec]
      refine ⟨fun q4844 => ?_, fun q4844 => ?_⟩
      · skip
        rw [if_neg q4844] at hp
        obtain rfl := Option.some.inj hp
        exact hq _ S4834.ext'
      · skip
        rw [if_pos q4844] at hp
        rw [ifB_ndec]
        refine ⟨fun q4845 => ?_, fun q4845 => ?_⟩
        · skip
          rw [if_neg q4845] at hp
          obtain rfl := Option.some.inj hp
          exact hq _ S4834.ext'
        · skip
          rw [if_pos q4845] at hp
          refine ⟨_, _, L4842.bk.ra, ?_⟩
          obtain ⟨r4846, g4847, hp⟩ := bsome hp
          refine s_lBetween (low := r4832.1) (high := r4832.1) S4834.pre  g4847 fun m134 e4850 => ?_
          obtain ⟨S4848, k4849⟩ := S4834.call e4850 τ4733
          have L4851 := L4837.k k4849 (by decide)
          have L4852 := L4838.k k4849 (by decide)
          have L4853 := L4839.k k4849 (by decide)
          have L4854 := L4840.k k4849 (by decide)
          have L4855 := L4841.k k4849 (by decide)
          have L4856 := L4842.k k4849 (by decide)
          refine ⟨_, _, rfl, (L4856.bk.ra), ?_⟩
          obtain ⟨g4857, hp⟩ := gd_some hp
          refine ⟨g4857, ?_⟩
          obtain ⟨g4858, hp⟩ := gd_some hp
          refine ⟨g4858, ?_⟩
          obtain ⟨g4859, hp⟩ := gd_some hp
          refine ⟨g4859, ?_⟩
          obtain ⟨g4860, hp⟩ := gd_some hp
          refine ⟨g4860, ?_⟩
          rw [ifB_iff]
          refine ⟨fun q4861 => ?_, fun q4861 => ?_⟩
          · skip
            rw [bif_neg (nb_f q4861)] at hp
            obtain rfl := Option.some.inj hp
            exact hq _ S4848.ext'
          · skip
            rw [if_pos (nb_t q4861)] at hp
            refine ⟨trivial, _, L4856.bk.rc rfl, trivial, _, L4855.bk.rc rfl, ?_⟩
            rw [ifB_dec]
            refine ⟨fun q4862 => ?_, fun q4862 => ?_⟩
            · skip
              rw [if_pos q4862] at hp
              obtain rfl := Option.some.inj hp
              exact hq _ S4848.ext'
            · skip
              rw [if_neg q4862] at hp
              refine ⟨trivial, _, L4856.bk.rc rfl, trivial, _, L4855.bk.rc rfl, ?_⟩
              rw [ifB_dec]
              refine ⟨fun q4863 => ?_, fun q4863 => ?_⟩
              · skip
                rw [if_pos q4863] at hp
                obtain rfl := Option.some.inj hp
                exact hq _ S4848.ext'
              · skip
                rw [if_neg q4863] at hp
                refine ⟨_, _, _, _, _, _, L4852.bk.ra, ?_⟩
                obtain ⟨r4864, g4865, hp⟩ := bsome hp
                refine s_lFine (l := l) (c := ({ Crop := c.Crop, Value := c.Value, Day := ({ Lo := (max (0 : Int) (c.Day.Lo - ((wrapZ .i64 wd) % (3 : Int)))), Hi := (min (120 : Int) (c.Day.Hi + (((wrapZ .i64 wd) / (3 : Int)) % (3 : Int)))) } : Rg), Count := ({ Lo := (max (0 : Int) (c.Count.Lo - (((wrapZ .i64 wd) / (9 : Int)) % (9 : Int)))), Hi := (min (100 : Int) (c.Count.Hi + (((wrapZ .i64 wd) / (81 : Int)) * (7 : Int)))) } : Rg) } : Clm)) S4848.pre (ha100.sub (Sub.trans (Sub.trans k4683.fs k4744.fs) k4799.fs)) g4865 fun m148 e4868 => ?_
                obtain ⟨S4866, k4867⟩ := S4848.call e4868 τ4733
                have L4869 := L4851.k k4867 (by decide)
                have L4870 := L4852.k k4867 (by decide)
                have L4871 := L4853.k k4867 (by decide)
                have L4872 := L4854.k k4867 (by decide)
                have L4873 := L4855.k k4867 (by decide)
                have L4874 := L4856.k k4867 (by decide)
                refine ⟨_, rfl, ?_⟩
                rw [ifB_iff]
                refine ⟨fun q4875 => ?_, fun q4875 => ?_⟩
                · skip
                  rw [bif_neg (nb_f q4875)] at hp
                  obtain ⟨r4876, g4877, hp⟩ := bsome hp
                  refine s_awake S4866.pre  g4877 fun m151 e4880 => ?_
                  obtain ⟨S4878, k4879⟩ := S4866.call e4880 τ4733
                  have L4881 := L4869.k k4879 (by decide)
                  have L4882 := L4870.k k4879 (by decide)
                  have L4883 := L4871.k k4879 (by decide)
                  have L4884 := L4872.k k4879 (by decide)
                  have L4885 := L4873.k k4879 (by decide)
                  have L4886 := L4874.k k4879 (by decide)
                  refine ⟨_, rfl, ?_⟩
                  obtain rfl := Option.some.inj hp
                  exact hq _ S4878.ext'
                · skip
                  rw [if_pos (nb_t q4875)] at hp
                  intro m153 e4887
                  obtain ⟨τ4890, S4888, k4889, hz4891⟩ := S4866.growK e4887 τ4733 7
                  have L4892 := L4869.k k4889 (by decide)
                  have L4893 := L4870.k k4889 (by decide)
                  have L4894 := L4871.k k4889 (by decide)
                  have L4895 := L4872.k k4889 (by decide)
                  have L4896 := L4873.k k4889 (by decide)
                  have L4897 := L4874.k k4889 (by decide)
                  have Z4898 := hz4891 0 (by decide)
                  obtain ⟨r4899, g4900, hp⟩ := bsome hp
                  refine s_lTariffs (l := l) S4888.pre (ha100.sub (Sub.trans (Sub.trans k4683.fs k4744.fs) k4799.fs)) g4900 fun m155 f4904 c4905 e4903 h4906 => ?_
                  obtain ⟨S4901, k4902⟩ := S4888.callG e4903 τ4890
                  have L4907 := L4892.k k4902 (by decide)
                  have L4908 := L4893.k k4902 (by decide)
                  have L4909 := L4894.k k4902 (by decide)
                  have L4910 := L4895.k k4902 (by decide)
                  have L4911 := L4896.k k4902 (by decide)
                  have L4912 := L4897.k k4902 (by decide)
                  have Z4913 := Z4898.k k4902 (by decide)
                  refine ⟨_, rfl, _, _, _, _, _, _, L4908.bk.ra, (L4893.bk.ra), ?_⟩
                  obtain ⟨r4914, g4915, hp⟩ := bsome hp
                  refine s_lClaim (c := ({ Crop := c.Crop, Value := c.Value, Day := ({ Lo := (max (0 : Int) (c.Day.Lo - ((wrapZ .i64 wd) % (3 : Int)))), Hi := (min (120 : Int) (c.Day.Hi + (((wrapZ .i64 wd) / (3 : Int)) % (3 : Int)))) } : Rg), Count := ({ Lo := (max (0 : Int) (c.Count.Lo - (((wrapZ .i64 wd) / (9 : Int)) % (9 : Int)))), Hi := (min (100 : Int) (c.Count.Hi + (((wrapZ .i64 wd) / (81 : Int)) * (7 : Int)))) } : Rg) } : Clm)) S4901.pre  g4915 fun m164 e4918 => ?_
                  obtain ⟨S4916, k4917⟩ := S4901.call e4918 τ4890
                  have L4919 := L4907.k k4917 (by decide)
                  have L4920 := L4908.k k4917 (by decide)
                  have L4921 := L4909.k k4917 (by decide)
                  have L4922 := L4910.k k4917 (by decide)
                  have L4923 := L4911.k k4917 (by decide)
                  have L4924 := L4912.k k4917 (by decide)
                  have Z4925 := Z4913.k k4917 (by decide)
                  refine ⟨_, _, _, _, _, _, rfl, ?_⟩
                  obtain ⟨r4926, g4927, hp⟩ := bsome hp
                  refine s_Bounds (l := r4899) (c := r4914) S4916.pre h4906 g4927 fun m172 e4930 => ?_
                  obtain ⟨S4928, k4929⟩ := S4916.call e4930 τ4890
                  have L4931 := L4919.k k4929 (by decide)
                  have L4932 := L4920.k k4929 (by decide)
                  have L4933 := L4921.k k4929 (by decide)
                  have L4934 := L4922.k k4929 (by decide)
                  have L4935 := L4923.k k4929 (by decide)
                  have L4936 := L4924.k k4929 (by decide)
                  have Z4937 := Z4925.k k4929 (by decide)
                  refine ⟨_, _, _, rfl, ?_⟩
                  intro m176 e4938
                  obtain ⟨S4939, k4940, L4941⟩ := Z4937.set S4928 e4938
                  have L4942 := L4931.k k4940 (by decide)
                  have L4943 := L4932.k k4940 (by decide)
                  have L4944 := L4933.k k4940 (by decide)
                  have L4945 := L4934.k k4940 (by decide)
                  have L4946 := L4935.k k4940 (by decide)
                  have L4947 := L4936.k k4940 (by decide)
                  refine ⟨(L4943.bk.ra), ?_⟩
                  obtain ⟨m4951, e4950, S4948, k4949, L4952⟩ := L4941.sto S4939 [(.int .i64 r4926.1.Lo), (.int .i64 r4926.1.Hi)]
                  have L4953 := L4942.k k4949 (by decide)
                  have L4954 := L4943.k k4949 (by decide)
                  have L4955 := L4944.k k4949 (by decide)
                  have L4956 := L4945.k k4949 (by decide)
                  have L4957 := L4946.k k4949 (by decide)
                  have L4958 := L4947.k k4949 (by decide)
                  refine ⟨m4951, e4950, ?_⟩
                  rw [ifB_dec]
                  refine ⟨fun q4959 => ?_, fun q4959 => ?_⟩
                  · skip
                    rw [if_pos q4959] at hp
                    refine ⟨trivial, _, L4952.bk.rc rfl, trivial, _, L4957.bk.rc rfl, ?_⟩
                    rw [ifB_dec]
                    refine ⟨fun q4960 => ?_, fun q4960 => ?_⟩
                    · skip
                      rw [if_pos q4960] at hp
                      refine ⟨trivial, _, L4957.bk.rc rfl, trivial, _, L4952.bk.rc rfl, ?_⟩
                      rw [ifB_dec]
                      refine ⟨fun q4961 => ?_, fun q4961 => ?_⟩
                      · skip
                        rw [if_pos q4961] at hp
                        obtain ⟨r4962, g4963, hp⟩ := bsome hp
                        refine s_awake S4948.pre  g4963 fun m183 e4966 => ?_
                        obtain ⟨S4964, k4965⟩ := S4948.call e4966 τ4890
                        have L4967 := L4953.k k4965 (by decide)
                        have L4968 := L4954.k k4965 (by decide)
                        have L4969 := L4955.k k4965 (by decide)
                        have L4970 := L4956.k k4965 (by decide)
                        have L4971 := L4957.k k4965 (by decide)
                        have L4972 := L4958.k k4965 (by decide)
                        have L4973 := L4952.k k4965 (by decide)
                        refine ⟨_, rfl, ?_⟩
                        obtain rfl := Option.some.inj hp
                        exact hq _ S4964.ext'
                      · skip
                        rw [if_neg q4961] at hp
                        obtain rfl := Option.some.inj hp
                        exact hq _ S4948.ext'
                    · skip
                      rw [if_neg q4960] at hp
                      obtain rfl := Option.some.inj hp
                      exact hq _ S4948.ext'
                  · skip
                    rw [if_neg q4959] at hp
                    obtain rfl := Option.some.inj hp
                    exact hq _ S4948.ext'
end
end Go.Proofs.Ytbhdgedghfibcaa

