/- What functions of the program ask and do. Condition: none; a lemma text of this claim. -/
import Derived.Test.YtbhdgedghfibcaaPdB

namespace Go.Proofs.Ytbhdgedghfibcaa
open _root_.Go.Proofs.Try
open Go.Abs
set_option maxRecDepth 100000
noncomputable section
def Fv_Tf_Bool (f : M) (x : C) (g : Tf → Option (Bool)) : Prop := ∀ (f' m : M) (a0 : Tf) (c0 c1 c2 : C) (r : Bool) (Q : V → M → Prop), Sub f f' → Pre f' m → Sl f' c0 a0.Weeks → Sl f' c1 a0.Counts → Sl f' c2 a0.Rates → g a0 = some r → (∀ m', Ext m m' → Q (.c (.bool r)) m') → callP prog tbl [.agg 6 [(.int .i64 a0.From), (.bool a0.Whole), (.int .i64 a0.Least), c0, c1, c2]] x m Q
theorem Fv_Tf_Bool.sub {f m : M} {x : C} {g : Tf → Option (Bool)} (h : Fv_Tf_Bool f x g) (s : Sub f m) : Fv_Tf_Bool m x g := fun f' m' a0 c0 c1 c2 r Q hs => h f' m' a0 c0 c1 c2 r Q (s.trans hs)
def Fv_Clm_Bool (f : M) (x : C) (g : Clm → Option (Bool)) : Prop := ∀ (f' m : M) (a0 : Clm) (r : Bool) (Q : V → M → Prop), Sub f f' → Pre f' m → g a0 = some r → (∀ m', Ext m m' → Q (.c (.bool r)) m') → callP prog tbl [.agg 6 [(.int .i64 a0.Crop), (.int .i64 a0.Value), (.int .i64 a0.Day.Lo), (.int .i64 a0.Day.Hi), (.int .i64 a0.Count.Lo), (.int .i64 a0.Count.Hi)]] x m Q
theorem Fv_Clm_Bool.sub {f m : M} {x : C} {g : Clm → Option (Bool)} (h : Fv_Clm_Bool f x g) (s : Sub f m) : Fv_Clm_Bool m x g := fun f' m' a0 r Q hs => h f' m' a0 r Q (s.trans hs)
def Fv_Int_Bool (f : M) (x : C) (g : Int → Option (Bool)) : Prop := ∀ (f' m : M) (a0 : Int) (r : Bool) (Q : V → M → Prop), Sub f f' → Pre f' m → g a0 = some r → (∀ m', Ext m m' → Q (.c (.bool r)) m') → callP prog tbl [.c (.int .i64 a0)] x m Q
theorem Fv_Int_Bool.sub {f m : M} {x : C} {g : Int → Option (Bool)} (h : Fv_Int_Bool f x g) (s : Sub f m) : Fv_Int_Bool m x g := fun f' m' a0 r Q hs => h f' m' a0 r Q (s.trans hs)
def Fv_LInt_Bool (f : M) (x : C) (g : List Int → Option (Bool)) : Prop := ∀ (f' m : M) (a0 : List Int) (c0 : C) (r : Bool) (Q : V → M → Prop), Sub f f' → Pre f' m → Sl f' c0 a0 → g a0 = some r → (∀ m', Ext m m' → Q (.c (.bool r)) m') → callP prog tbl [.c c0] x m Q
theorem Fv_LInt_Bool.sub {f m : M} {x : C} {g : List Int → Option (Bool)} (h : Fv_LInt_Bool f x g) (s : Sub f m) : Fv_LInt_Bool m x g := fun f' m' a0 c0 r Q hs => h f' m' a0 c0 r Q (s.trans hs)
def Fv_LLInt_Bool (f : M) (x : C) (g : List (List Int) → Option (Bool)) : Prop := ∀ (f' m : M) (a0 : List (List Int)) (c0 : C) (r : Bool) (Q : V → M → Prop), Sub f f' → Pre f' m → Sl f' c0 a0 → g a0 = some r → (∀ m', Ext m m' → Q (.c (.bool r)) m') → callP prog tbl [.c c0] x m Q
theorem Fv_LLInt_Bool.sub {f m : M} {x : C} {g : List (List Int) → Option (Bool)} (h : Fv_LLInt_Bool f x g) (s : Sub f m) : Fv_LLInt_Bool m x g := fun f' m' a0 c0 r Q hs => h f' m' a0 c0 r Q (s.trans hs)
def Fv_Tf_Int_Int (f : M) (x : C) (g : Tf → Int → Option (Int)) : Prop := ∀ (f' m : M) (a0 : Tf) (a1 : Int) (c0 c1 c2 : C) (r : Int) (Q : V → M → Prop), Sub f f' → Pre f' m → Sl f' c0 a0.Weeks → Sl f' c1 a0.Counts → Sl f' c2 a0.Rates → g a0 a1 = some r → (∀ m', Ext m m' → Q (.c (.int .i64 r)) m') → callP prog tbl [.agg 6 [(.int .i64 a0.From), (.bool a0.Whole), (.int .i64 a0.Least), c0, c1, c2], .c (.int .i64 a1)] x m Q
theorem Fv_Tf_Int_Int.sub {f m : M} {x : C} {g : Tf → Int → Option (Int)} (h : Fv_Tf_Int_Int f x g) (s : Sub f m) : Fv_Tf_Int_Int m x g := fun f' m' a0 a1 c0 c1 c2 r Q hs => h f' m' a0 a1 c0 c1 c2 r Q (s.trans hs)
theorem kl103 : KL prog 103 Ht := kl_agg (n := 3) (ks := [.int .i64, .int .i64, .int .i64]) (by kernel_rfl) (by kernel_rfl) (cs := fun k => [.int .i64 k.Day, .int .i64 k.Count, .int .i64 k.crop]) (fun _ => rfl) fun a b fa fb => ⟨_, _, (eqKs_cons (eqK_i fa.1 fb.1) (eqKs_cons (eqK_i fa.2.1 fb.2.1) (eqKs_cons (eqK_i fa.2.2.1 fb.2.2.1) eqKs_nil))), ⟨fun h => by cases a; cases b; simp_all, fun h => by subst h; exact ⟨rfl, rfl, rfl, trivial⟩⟩⟩
theorem ta28 : TA prog 28 6 := ⟨76, by kernel_rfl, by kernel_rfl, by kernel_rfl⟩
theorem ta73 : TA prog 73 1 := ⟨3, by kernel_rfl, by kernel_rfl, by kernel_rfl⟩
theorem ta74 : TA prog 74 1 := ⟨77, by kernel_rfl, by kernel_rfl, by kernel_rfl⟩
theorem ta77 : TA prog 77 1 := ⟨73, by kernel_rfl, by kernel_rfl, by kernel_rfl⟩
theorem s_awake {m f : M} {Q : V → M → Prop} {rz : Bool} (hS : Pre f m) (hp : pawake = some rz) (hq : ∀ m', Ext m m' → Q (.c (.bool rz)) m') : Wc prog tbl 17 [] m Q := by
  obtain rfl := Option.some.inj hp
  exact call_known (show findT tbl 17 = some true from rfl) (hq _ (.refl m))
theorem s_rIn {n : Int} {low : Int} {high : Int} {m f : M} {Q : V → M → Prop} {rz : Bool} (hS : Pre f m)  (hp : prIn n low high = some rz) (hq : ∀ m', Ext m m' → Q (.c (.bool rz)) m') : Wc prog tbl 22 [.c (.int .i64 n), .c (.int .i64 low), .c (.int .i64 high)] m Q := by
  have S0 := hS.st
  obtain ⟨τ0, _⟩ : ∃ τ : Nat → Nat, True := ⟨fun _ => 0, trivial⟩
  refine w22 ?_
  unfold prIn at hp
  rw [ifB_dec]
  refine ⟨fun q1 => ?_, fun q1 => ?_⟩
  · skip
    rw [if_pos q1] at hp
    obtain rfl := Option.some.inj hp
    exact hq _ S0.ext'
  · skip
    rw [if_neg q1] at hp
    obtain rfl := Option.some.inj hp
    exact hq _ S0.ext'
theorem s_rRises {l : List Int} {most : Int} {ca100 : C} {m f : M} {Q : V → M → Prop} {rz : Bool} (hS : Pre f m) (ha100 : Sl f ca100 l) (hp : prRises l most = some rz) (hq : ∀ m', Ext m m' → Q (.c (.bool rz)) m') : Wc prog tbl 101 [.c ca100, .c (.int .i64 most)] m Q := by
  have S0 := hS.st
  obtain ⟨τ0, _⟩ : ∃ τ : Nat → Nat, True := ⟨fun _ => 0, trivial⟩
  refine w101 ?_
  unfold prRises at hp
  intro R0 hR0
  have hgo : ∀ (d4 : Nat) (b1 : Bool) (x2 : Int) (m3 : M) (τ3 : Nat → Nat), St (Fm.of m) f f m3 → prRises_L0 l most d4 x2 = some rz → R0 [.c (.bool b1), .c (.int .i64 x2)] m3 := by
    intro d4
    induction d4 with
    | zero => intro b1 x2 m3 τ3 S2 hp; cases hp
    | succ d4 ihR0 =>
      intro b1 x2 m3 τ3 S2 hp
      refine hR0 _ _ _ ?_
      rw [prRises_L0] at hp
      refine ⟨ha100.isSl, ?_⟩
      try rw [ha100.slLen]
      rw [ifB_dec]
      refine ⟨fun q5 => ?_, fun q5 => ?_⟩
      · skip
        rw [if_pos q5] at hp
        obtain ⟨x6, g7, hp⟩ := bsome hp
        obtain ⟨n4, g7i, g7l, g7⟩ := idx_some g7
        refine ⟨n4, g7i, (by first | exact g7l | (rw [ha100.slLen]; exact g7l)), _, (ha100.rdI g7 S2.sub), ?_⟩
        obtain ⟨r8, g9, hp⟩ := bsome hp
        refine s_rIn (n := x6) (low := (0 : Int)) (high := most) S2.pre  g9 fun m7 e12 => ?_
        obtain ⟨S10, k11⟩ := S2.call e12 τ3
        refine ⟨_, rfl, ?_⟩
        rw [ifB_iff]
        refine ⟨fun q13 => ?_, fun q13 => ?_⟩
        · skip
          rw [bif_neg (by simpa using q13)] at hp
          obtain rfl := Option.some.inj hp
          exact hq _ S10.ext'
        · skip
          rw [if_pos (by simpa using q13)] at hp
          rw [ifB_dec]
          refine ⟨fun q14 => ?_, fun q14 => ?_⟩
          · skip
            rw [if_pos q14] at hp
            obtain ⟨x15, g16, hp⟩ := bsome hp
            obtain ⟨n9, g16i, g16l, g16⟩ := idx_some g16
            refine ⟨n9, g16i, (by first | exact g16l | (rw [ha100.slLen]; exact g16l)), _, (ha100.rdI g16 S10.sub), ?_⟩
            obtain ⟨g17, hp⟩ := gd_some hp
            refine ⟨g17, ?_⟩
            obtain ⟨x18, g19, hp⟩ := bsome hp
            obtain ⟨n11, g19i, g19l, g19⟩ := idx_some g19
            refine ⟨n11, g19i, (by first | exact g19l | (rw [ha100.slLen]; exact g19l)), _, (ha100.rdI g19 S10.sub), ?_⟩
            rw [ifB_dec]
            refine ⟨fun q20 => ?_, fun q20 => ?_⟩
            · skip
              rw [if_pos q20] at hp
              obtain rfl := Option.some.inj hp
              exact hq _ S10.ext'
            · skip
              rw [if_neg q20] at hp
              obtain ⟨g21, hp⟩ := gd_some hp
              refine ⟨g21, ?_⟩
              exact ihR0 _ _ _ τ3 S10 hp
          · skip
            rw [if_neg q14] at hp
            obtain ⟨g22, hp⟩ := gd_some hp
            refine ⟨g22, ?_⟩
            exact ihR0 _ _ _ τ3 S10 hp
      · skip
        rw [if_neg q5] at hp
        refine ⟨ha100.isSl, ?_⟩
        try rw [ha100.slLen]
        rw [ifB_dec]
        refine ⟨fun q23 => ?_, fun q23 => ?_⟩
        · skip
          rw [if_pos q23] at hp
          obtain ⟨x24, g25, hp⟩ := bsome hp
          obtain ⟨n13, g25i, g25l, g25⟩ := idx_some g25
          refine ⟨n13, g25i, (by first | exact g25l | (rw [ha100.slLen]; exact g25l)), _, (ha100.rdI g25 S2.sub), ?_⟩
          obtain rfl := Option.some.inj hp
          exact hq _ S2.ext'
        · skip
          rw [if_neg q23] at hp
          obtain rfl := Option.some.inj hp
          exact hq _ S2.ext'
  exact hgo _ _ _ _ τ0 S0 hp
theorem s_rIsTariff {t : Tf} {ca103 ca104 ca105 : C} {m f : M} {Q : V → M → Prop} {rz : Bool} (hS : Pre f m) (ha103 : Sl f ca103 t.Weeks) (ha104 : Sl f ca104 t.Counts) (ha105 : Sl f ca105 t.Rates) (hp : prIsTariff t = some rz) (hq : ∀ m', Ext m m' → Q (.c (.bool rz)) m') : Wc prog tbl 81 [.agg 6 [(.int .i64 t.From), (.bool t.Whole), (.int .i64 t.Least), ca103, ca104, ca105]] m Q := by
  have S0 := hS.st
  obtain ⟨τ0, _⟩ : ∃ τ : Nat → Nat, True := ⟨fun _ => 0, trivial⟩
  refine w81 ?_
  unfold prIsTariff at hp
  intro m0 e26
  obtain ⟨τ29, S27, k28, L30⟩ := S0.blk e26 τ0 1
  refine ⟨trivial, _, L30.bk.rc rfl, ?_⟩
  obtain ⟨r31, g32, hp⟩ := bsome hp
  refine s_rIn (n := t.From) (low := (0 : Int)) (high := (120 : Int)) S27.pre  g32 fun m3 e35 => ?_
  obtain ⟨S33, k34⟩ := S27.call e35 τ29
  have L36 := L30.k k34 (by decide)
  refine ⟨_, rfl, ?_⟩
  rw [ifB_iff]
  refine ⟨fun q37 => ?_, fun q37 => ?_⟩
  · skip
    rw [bif_neg (by simpa using q37)] at hp
    obtain rfl := Option.some.inj hp
    exact hq _ S33.ext'
  · skip
    rw [if_pos (by simpa using q37)] at hp
    refine ⟨trivial, _, L36.bk.rc rfl, ?_⟩
    obtain ⟨r38, g39, hp⟩ := bsome hp
    refine s_rIn (n := t.Least) (low := (0 : Int)) (high := (100 : Int)) S33.pre  g39 fun m7 e42 => ?_
    obtain ⟨S40, k41⟩ := S33.call e42 τ29
    have L43 := L36.k k41 (by decide)
    refine ⟨_, rfl, ?_⟩
    rw [ifB_iff]
    refine ⟨fun q44 => ?_, fun q44 => ?_⟩
    · skip
      rw [bif_neg (by simpa using q44)] at hp
      obtain rfl := Option.some.inj hp
      exact hq _ S40.ext'
    · skip
      rw [if_pos (by simpa using q44)] at hp
      refine ⟨trivial, _, L43.bk.rc rfl, ?_⟩
      obtain ⟨r45, g46, hp⟩ := bsome hp
      refine s_rRises (l := t.Weeks) (most := (120 : Int)) S40.pre ha103 g46 fun m11 e49 => ?_
      obtain ⟨S47, k48⟩ := S40.call e49 τ29
      have L50 := L43.k k48 (by decide)
      refine ⟨_, rfl, ?_⟩
      rw [ifB_iff]
      refine ⟨fun q51 => ?_, fun q51 => ?_⟩
      · skip
        rw [bif_neg (by simpa using q51)] at hp
        obtain rfl := Option.some.inj hp
        exact hq _ S47.ext'
      · skip
        rw [if_pos (by simpa using q51)] at hp
        refine ⟨trivial, _, L50.bk.rc rfl, ?_⟩
        obtain ⟨r52, g53, hp⟩ := bsome hp
        refine s_rRises (l := t.Counts) (most := (100 : Int)) S47.pre ha104 g53 fun m15 e56 => ?_
        obtain ⟨S54, k55⟩ := S47.call e56 τ29
        have L57 := L50.k k55 (by decide)
        refine ⟨_, rfl, ?_⟩
        rw [ifB_iff]
        refine ⟨fun q58 => ?_, fun q58 => ?_⟩
        · skip
          rw [bif_neg (by simpa using q58)] at hp
          obtain rfl := Option.some.inj hp
          exact hq _ S54.ext'
        · skip
          rw [if_pos (by simpa using q58)] at hp
          refine ⟨trivial, _, L57.bk.rc rfl, trivial, _, L57.bk.rc rfl, ha104.isSl, ?_⟩
          obtain ⟨g59, hp⟩ := gd_some hp
          refine ⟨(by first | exact g59 | (rw [ha104.slLen]; exact g59)), ?_⟩
          obtain ⟨x60, g61, hp⟩ := bsome hp
          obtain ⟨n19, g61i, g61l, g61⟩ := idx_some g61
          refine ⟨n19, (by first | exact g61i | (rw [ha104.slLen]; exact g61i)), (by first | exact g61l | (rw [ha104.slLen]; exact g61l)), _, (ha104.rdI g61 S54.sub), ?_⟩
          rw [ifB_ndec]
          refine ⟨fun q62 => ?_, fun q62 => ?_⟩
          · skip
            rw [if_neg q62] at hp
            obtain rfl := Option.some.inj hp
            exact hq _ S54.ext'
          · skip
            rw [if_pos q62] at hp
            refine ⟨trivial, _, L57.bk.rc rfl, ha105.isSl, ?_⟩
            try rw [ha105.slLen]
            rw [ifB_dec]
            refine ⟨fun q63 => ?_, fun q63 => ?_⟩
            · skip
              rw [if_pos q63] at hp
              obtain rfl := Option.some.inj hp
              exact hq _ S54.ext'
            · skip
              rw [if_neg q63] at hp
              intro R22 hR22
              have hgo : ∀ (d66 : Nat) (b23 : Bool) (b24 : Bool) (b25 : Bool) (x26 : Int) (m27 : M) (τ65 : Nat → Nat), St (Fm.of m) f f m27 → Lb (Fm.of m) f τ65 m27 1 m.nxt 6 [(.int .i64 t.From), (.bool t.Whole), (.int .i64 t.Least), ca103, ca104, ca105] → prIsTariff_L0 t d66 b23 x26 = some rz → R22 [.c (.bool b23), .c (.bool b24), .c (.bool b25), .c (.int .i64 x26)] m27 := by
                intro d66
                induction d66 with
                | zero => intro b23 b24 b25 x26 m27 τ65 S64 L57 hp; cases hp
                | succ d66 ihR22 =>
                  intro b23 b24 b25 x26 m27 τ65 S64 L57 hp
                  refine hR22 _ _ _ _ _ ?_
                  rw [prIsTariff_L0] at hp
                  refine ⟨trivial, _, L57.bk.rc rfl, ha105.isSl, ?_⟩
                  try rw [ha105.slLen]
                  rw [ifB_dec]
                  refine ⟨fun q67 => ?_, fun q67 => ?_⟩
                  · skip
                    rw [if_pos q67] at hp
                    refine ⟨trivial, _, L57.bk.rc rfl, ?_⟩
                    obtain ⟨v68, g69, hp⟩ := bsome hp
                    obtain ⟨n30, g69i, g69l, g69⟩ := idx_some g69
                    obtain ⟨c70, r71, h72⟩ := ha105.rdS g69
                    refine ⟨n30, g69i, (by first | exact g69l | (rw [ha105.slLen]; exact g69l)), _, (r71 _ S64.sub), h72.isSl, trivial, _, L57.bk.rc rfl, ha103.isSl, ?_⟩
                    try rw [h72.slLen]
                    try rw [ha103.slLen]
                    rw [ifB_ndec]
                    refine ⟨fun q73 => ?_, fun q73 => ?_⟩
                    · skip
                      rw [if_neg q73] at hp
                      obtain rfl := Option.some.inj hp
                      exact hq _ S64.ext'
                    · skip
                      rw [if_pos q73] at hp
                      intro R33 hR33
                      have hgo : ∀ (d76 : Nat) (b34 : Bool) (b35 : Bool) (x36 : Int) (m37 : M) (τ75 : Nat → Nat), St (Fm.of m) f f m37 → Lb (Fm.of m) f τ75 m37 1 m.nxt 6 [(.int .i64 t.From), (.bool t.Whole), (.int .i64 t.Least), ca103, ca104, ca105] → prIsTariff_L1 t x26 (prIsTariff_L0 t d66) d76 b34 x36 = some rz → R33 [.c (.bool b34), .c (.bool b35), .c (.int .i64 x36)] m37 := by
                        intro d76
                        induction d76 with
                        | zero => intro b34 b35 x36 m37 τ75 S74 L57 hp; cases hp
                        | succ d76 ihR33 =>
                          intro b34 b35 x36 m37 τ75 S74 L57 hp
                          refine hR33 _ _ _ _ ?_
                          rw [prIsTariff_L1] at hp
                          refine ⟨trivial, _, L57.bk.rc rfl, ha103.isSl, ?_⟩
                          try rw [ha103.slLen]
                          rw [ifB_dec]
                          refine ⟨fun q77 => ?_, fun q77 => ?_⟩
                          · skip
                            rw [if_pos q77] at hp
                            refine ⟨trivial, _, L57.bk.rc rfl, ?_⟩
                            obtain ⟨v78, g79, hp⟩ := bsome hp
                            obtain ⟨n40, g79i, g79l, g79⟩ := idx_some g79
                            obtain ⟨c80, r81, h82⟩ := ha105.rdS g79
                            refine ⟨n40, g79i, (by first | exact g79l | (rw [ha105.slLen]; exact g79l)), _, (r81 _ S74.sub), ?_⟩
                            obtain ⟨v83, g84, hp⟩ := bsome hp
                            obtain ⟨n42, g84i, g84l, g84⟩ := idx_some g84
                            obtain ⟨c85, r86, h87⟩ := h82.rdS g84
                            refine ⟨n42, g84i, (by first | exact g84l | (rw [h82.slLen]; exact g84l)), _, (r86 _ S74.sub), h87.isSl, trivial, _, L57.bk.rc rfl, ha104.isSl, ?_⟩
                            try rw [h87.slLen]
                            try rw [ha104.slLen]
                            rw [ifB_ndec]
                            refine ⟨fun q88 => ?_, fun q88 => ?_⟩
                            · skip
                              rw [if_neg q88] at hp
                              obtain rfl := Option.some.inj hp
                              exact hq _ S74.ext'
                            · skip
                              rw [if_pos q88] at hp
                              intro R45 hR45
                              have hgo : ∀ (d91 : Nat) (b46 : Bool) (x47 : Int) (m48 : M) (τ90 : Nat → Nat), St (Fm.of m) f f m48 → Lb (Fm.of m) f τ90 m48 1 m.nxt 6 [(.int .i64 t.From), (.bool t.Whole), (.int .i64 t.Least), ca103, ca104, ca105] → prIsTariff_L2 t x26 x36 (prIsTariff_L1 t x26 (prIsTariff_L0 t d66) d76) d91 b46 x47 = some rz → R45 [.c (.bool b46), .c (.int .i64 x47)] m48 := by
                                intro d91
                                induction d91 with
                                | zero => intro b46 x47 m48 τ90 S89 L57 hp; cases hp
                                | succ d91 ihR45 =>
                                  intro b46 x47 m48 τ90 S89 L57 hp
                                  refine hR45 _ _ _ ?_
                                  rw [prIsTariff_L2] at hp
                                  refine ⟨trivial, _, L57.bk.rc rfl, ha104.isSl, ?_⟩
                                  try rw [ha104.slLen]
                                  rw [ifB_dec]
                                  refine ⟨fun q92 => ?_, fun q92 => ?_⟩
                                  · skip
                                    rw [if_pos q92] at hp
                                    refine ⟨trivial, _, L57.bk.rc rfl, ?_⟩
                                    obtain ⟨v93, g94, hp⟩ := bsome hp
                                    obtain ⟨n51, g94i, g94l, g94⟩ := idx_some g94
                                    obtain ⟨c95, r96, h97⟩ := ha105.rdS g94
                                    refine ⟨n51, g94i, (by first | exact g94l | (rw [ha105.slLen]; exact g94l)), _, (r96 _ S89.sub), ?_⟩
                                    obtain ⟨v98, g99, hp⟩ := bsome hp
                                    obtain ⟨n53, g99i, g99l, g99⟩ := idx_some g99
                                    obtain ⟨c100, r101, h102⟩ := h97.rdS g99
                                    refine ⟨n53, g99i, (by first | exact g99l | (rw [h97.slLen]; exact g99l)), _, (r101 _ S89.sub), ?_⟩
                                    obtain ⟨x103, g104, hp⟩ := bsome hp
                                    obtain ⟨n55, g104i, g104l, g104⟩ := idx_some g104
                                    refine ⟨n55, g104i, (by first | exact g104l | (rw [h102.slLen]; exact g104l)), _, (h102.rdI g104 S89.sub), ?_⟩
                                    obtain ⟨r105, g106, hp⟩ := bsome hp
                                    refine s_rIn (n := x103) (low := (0 : Int)) (high := (100 : Int)) S89.pre  g106 fun m58 e109 => ?_
                                    obtain ⟨S107, k108⟩ := S89.call e109 τ90
                                    have L110 := L57.k k108 (by decide)
                                    refine ⟨_, rfl, ?_⟩
                                    rw [ifB_iff]
                                    refine ⟨fun q111 => ?_, fun q111 => ?_⟩
                                    · skip
                                      rw [bif_neg (by simpa using q111)] at hp
                                      obtain rfl := Option.some.inj hp
                                      exact hq _ S107.ext'
                                    · skip
                                      rw [if_pos (by simpa using q111)] at hp
                                      obtain ⟨g112, hp⟩ := gd_some hp
                                      refine ⟨g112, ?_⟩
                                      exact ihR45 _ _ _ τ90 S107 L110 hp
                                  · skip
                                    rw [if_neg q92] at hp
                                    obtain ⟨g113, hp⟩ := gd_some hp
                                    refine ⟨g113, ?_⟩
                                    exact ihR33 _ _ _ _ τ90 S89 L57 hp
                              exact hgo _ _ _ _ τ75 S74 L57 hp
                          · skip
                            rw [if_neg q77] at hp
                            obtain ⟨g114, hp⟩ := gd_some hp
                            refine ⟨g114, ?_⟩
                            exact ihR22 _ _ _ _ _ τ75 S74 L57 hp
                      exact hgo _ _ _ _ _ τ65 S64 L57 hp
                  · skip
                    rw [if_neg q67] at hp
                    obtain rfl := Option.some.inj hp
                    exact hq _ S64.ext'
              exact hgo _ _ _ _ _ _ τ29 S54 L57 hp
theorem s_rFault {l : List Tf} {ca100 : C} {m f : M} {Q : V → M → Prop} {rz : Int} (hS : Pre f m) (ha100 : Sl f ca100 l) (hp : prFault l = some rz) (hq : ∀ m', Ext m m' → Q (.c (.int .i64 rz)) m') : Wc prog tbl 59 [.c ca100] m Q := by
  have S0 := hS.st
  obtain ⟨τ0, _⟩ : ∃ τ : Nat → Nat, True := ⟨fun _ => 0, trivial⟩
  refine w59 ?_
  unfold prFault at hp
  refine ⟨ha100.isSl, ?_⟩
  try rw [ha100.slLen]
  rw [ifB_dec]
  refine ⟨fun q115 => ?_, fun q115 => ?_⟩
  · skip
    rw [if_pos q115] at hp
    obtain rfl := Option.some.inj hp
    exact hq _ S0.ext'
  · skip
    rw [if_neg q115] at hp
    intro R0 hR0
    have hgo : ∀ (d118 : Nat) (x1 : Int) (x2 : Int) (m3 : M) (τ117 : Nat → Nat), St (Fm.of m) f f m3 → prFault_L0 l d118 x1 x2 = some rz → R0 [.c (.int .i64 x1), .c (.int .i64 x2)] m3 := by
      intro d118
      induction d118 with
      | zero => intro x1 x2 m3 τ117 S116 hp; cases hp
      | succ d118 ihR0 =>
        intro x1 x2 m3 τ117 S116 hp
        refine hR0 _ _ _ ?_
        rw [prFault_L0] at hp
        refine ⟨ha100.isSl, ?_⟩
        try rw [ha100.slLen]
        rw [ifB_dec]
        refine ⟨fun q119 => ?_, fun q119 => ?_⟩
        · skip
          rw [if_pos q119] at hp
          obtain ⟨v120, g121, hp⟩ := bsome hp
          obtain ⟨n4, g121i, g121l, g121⟩ := idx_some g121
          obtain ⟨c122, c124, c126, r128, h123, h125, h127⟩ := rd_Tf ha100 g121
          refine ⟨n4, g121i, (by first | exact g121l | (rw [ha100.slLen]; exact g121l)), (ha100.isPt g121 _), _, ((r128 _ S116.sub).2.1 3 _ rfl), h123.isSl, ?_⟩
          try rw [h123.slLen]
          rw [ifB_dec]
          refine ⟨fun q129 => ?_, fun q129 => ?_⟩
          · skip
            rw [if_pos q129] at hp
            obtain rfl := Option.some.inj hp
            exact hq _ S116.ext'
          · skip
            rw [if_neg q129] at hp
            obtain ⟨v130, g131, hp⟩ := bsome hp
            obtain ⟨n6, g131i, g131l, g131⟩ := idx_some g131
            obtain ⟨c132, c134, c136, r138, h133, h135, h137⟩ := rd_Tf ha100 g131
            refine ⟨n6, g131i, (by first | exact g131l | (rw [ha100.slLen]; exact g131l)), (ha100.isPt g131 _), _, ((r138 _ S116.sub).2.1 4 _ rfl), h135.isSl, ?_⟩
            try rw [h135.slLen]
            rw [ifB_dec]
            refine ⟨fun q139 => ?_, fun q139 => ?_⟩
            · skip
              rw [if_pos q139] at hp
              obtain rfl := Option.some.inj hp
              exact hq _ S116.ext'
            · skip
              rw [if_neg q139] at hp
              obtain ⟨v140, g141, hp⟩ := bsome hp
              obtain ⟨n8, g141i, g141l, g141⟩ := idx_some g141
              obtain ⟨c142, c144, c146, r148, h143, h145, h147⟩ := rd_Tf ha100 g141
              refine ⟨n8, g141i, (by first | exact g141l | (rw [ha100.slLen]; exact g141l)), (ha100.isPt g141 _), _, ((r148 _ S116.sub).2.1 5 _ rfl), h147.isSl, ?_⟩
              try rw [h147.slLen]
              rw [ifB_dec]
              refine ⟨fun q149 => ?_, fun q149 => ?_⟩
              · skip
                rw [if_pos q149] at hp
                obtain rfl := Option.some.inj hp
                exact hq _ S116.ext'
              · skip
                rw [if_neg q149] at hp
                obtain ⟨g150, hp⟩ := gd_some hp
                refine ⟨g150, ?_⟩
                exact ihR0 _ _ _ τ117 S116 hp
        · skip
          rw [if_neg q119] at hp
          intro R10 hR10
          have hgo : ∀ (d153 : Nat) (x11 : Int) (x12 : Int) (m13 : M) (τ152 : Nat → Nat), St (Fm.of m) f f m13 → prFault_L1 l d153 x12 = some rz → R10 [.c (.int .i64 x11), .c (.int .i64 x12)] m13 := by
            intro d153
            induction d153 with
            | zero => intro x11 x12 m13 τ152 S151 hp; cases hp
            | succ d153 ihR10 =>
              intro x11 x12 m13 τ152 S151 hp
              refine hR10 _ _ _ ?_
              rw [prFault_L1] at hp
              refine ⟨ha100.isSl, ?_⟩
              try rw [ha100.slLen]
              rw [ifB_dec]
              refine ⟨fun q154 => ?_, fun q154 => ?_⟩
              · skip
                rw [if_pos q154] at hp
                obtain ⟨v155, g156, hp⟩ := bsome hp
                obtain ⟨n14, g156i, g156l, g156⟩ := idx_some g156
                obtain ⟨c157, c159, c161, r163, h158, h160, h162⟩ := rd_Tf ha100 g156
                refine ⟨n14, g156i, (by first | exact g156l | (rw [ha100.slLen]; exact g156l)), _, _, _, _, _, _, (r163 _ S151.sub).1, ?_⟩
                obtain ⟨r164, g165, hp⟩ := bsome hp
                refine s_rIsTariff (t := v155) S151.pre h158 h160 h162 g165 fun m22 e168 => ?_
                obtain ⟨S166, k167⟩ := S151.call e168 τ152
                refine ⟨_, rfl, ?_⟩
                rw [ifB_iff]
                refine ⟨fun q169 => ?_, fun q169 => ?_⟩
                · skip
                  rw [bif_neg (by simpa using q169)] at hp
                  obtain rfl := Option.some.inj hp
                  exact hq _ S166.ext'
                · skip
                  rw [if_pos (by simpa using q169)] at hp
                  obtain ⟨v170, g171, hp⟩ := bsome hp
                  obtain ⟨n24, g171i, g171l, g171⟩ := idx_some g171
                  obtain ⟨c172, c174, c176, r178, h173, h175, h177⟩ := rd_Tf ha100 g171
                  refine ⟨n24, g171i, (by first | exact g171l | (rw [ha100.slLen]; exact g171l)), (ha100.isPt g171 _), _, ((r178 _ S166.sub).2.1 5 _ rfl), h177.isSl, ?_⟩
                  obtain ⟨v179, g180, hp⟩ := bsome hp
                  obtain ⟨n26, g180i, g180l, g180⟩ := idx_some g180
                  obtain ⟨c181, c183, c185, r187, h182, h184, h186⟩ := rd_Tf ha100 g180
                  refine ⟨n26, g180i, (by first | exact g180l | (rw [ha100.slLen]; exact g180l)), (ha100.isPt g180 _), _, ((r187 _ S166.sub).2.1 5 _ rfl), h186.isSl, ?_⟩
                  try rw [h177.slLen]
                  try rw [h186.slLen]
                  rw [ifB_ndec]
                  refine ⟨fun q188 => ?_, fun q188 => ?_⟩
                  · skip
                    rw [if_neg q188] at hp
                    obtain rfl := Option.some.inj hp
                    exact hq _ S166.ext'
                  · skip
                    rw [if_pos q188] at hp
                    rw [ifB_dec]
                    refine ⟨fun q189 => ?_, fun q189 => ?_⟩
                    · skip
                      rw [if_pos q189] at hp
                      obtain ⟨v190, g191, hp⟩ := bsome hp
                      obtain ⟨n28, g191i, g191l, g191⟩ := idx_some g191
                      obtain ⟨c192, c194, c196, r198, h193, h195, h197⟩ := rd_Tf ha100 g191
                      refine ⟨n28, g191i, (by first | exact g191l | (rw [ha100.slLen]; exact g191l)), (ha100.isPt g191 _), _, ((r198 _ S166.sub).2.1 0 _ rfl), ?_⟩
                      rw [ifB_ndec]
                      refine ⟨fun q199 => ?_, fun q199 => ?_⟩
                      · skip
                        rw [if_neg q199] at hp
                        obtain rfl := Option.some.inj hp
                        exact hq _ S166.ext'
                      · skip
                        rw [if_pos q199] at hp
                        rw [ifB_dec]
                        refine ⟨fun q200 => ?_, fun q200 => ?_⟩
                        · skip
                          rw [if_pos q200] at hp
                          obtain ⟨v201, g202, hp⟩ := bsome hp
                          obtain ⟨n30, g202i, g202l, g202⟩ := idx_some g202
                          obtain ⟨c203, c205, c207, r209, h204, h206, h208⟩ := rd_Tf ha100 g202
                          refine ⟨n30, g202i, (by first | exact g202l | (rw [ha100.slLen]; exact g202l)), (ha100.isPt g202 _), _, ((r209 _ S166.sub).2.1 0 _ rfl), ?_⟩
                          obtain ⟨g210, hp⟩ := gd_some hp
                          refine ⟨g210, ?_⟩
                          obtain ⟨v211, g212, hp⟩ := bsome hp
                          obtain ⟨n32, g212i, g212l, g212⟩ := idx_some g212
                          obtain ⟨c213, c215, c217, r219, h214, h216, h218⟩ := rd_Tf ha100 g212
                          refine ⟨n32, g212i, (by first | exact g212l | (rw [ha100.slLen]; exact g212l)), (ha100.isPt g212 _), _, ((r219 _ S166.sub).2.1 0 _ rfl), ?_⟩
                          rw [ifB_dec]
                          refine ⟨fun q220 => ?_, fun q220 => ?_⟩
                          · skip
                            rw [if_pos q220] at hp
                            obtain rfl := Option.some.inj hp
                            exact hq _ S166.ext'
                          · skip
                            rw [if_neg q220] at hp
                            obtain ⟨g221, hp⟩ := gd_some hp
                            refine ⟨g221, ?_⟩
                            exact ihR10 _ _ _ τ152 S166 hp
                        · skip
                          rw [if_neg q200] at hp
                          obtain ⟨g222, hp⟩ := gd_some hp
                          refine ⟨g222, ?_⟩
                          exact ihR10 _ _ _ τ152 S166 hp
                    · skip
                      rw [if_neg q189] at hp
                      rw [ifB_dec]
                      refine ⟨fun q223 => ?_, fun q223 => ?_⟩
                      · skip
                        rw [if_pos q223] at hp
                        obtain ⟨v224, g225, hp⟩ := bsome hp
                        obtain ⟨n34, g225i, g225l, g225⟩ := idx_some g225
                        obtain ⟨c226, c228, c230, r232, h227, h229, h231⟩ := rd_Tf ha100 g225
                        refine ⟨n34, g225i, (by first | exact g225l | (rw [ha100.slLen]; exact g225l)), (ha100.isPt g225 _), _, ((r232 _ S166.sub).2.1 0 _ rfl), ?_⟩
                        obtain ⟨g233, hp⟩ := gd_some hp
                        refine ⟨g233, ?_⟩
                        obtain ⟨v234, g235, hp⟩ := bsome hp
                        obtain ⟨n36, g235i, g235l, g235⟩ := idx_some g235
                        obtain ⟨c236, c238, c240, r242, h237, h239, h241⟩ := rd_Tf ha100 g235
                        refine ⟨n36, g235i, (by first | exact g235l | (rw [ha100.slLen]; exact g235l)), (ha100.isPt g235 _), _, ((r242 _ S166.sub).2.1 0 _ rfl), ?_⟩
                        rw [ifB_dec]
                        refine ⟨fun q243 => ?_, fun q243 => ?_⟩
                        · skip
                          rw [if_pos q243] at hp
                          obtain rfl := Option.some.inj hp
                          exact hq _ S166.ext'
                        · skip
                          rw [if_neg q243] at hp
                          obtain ⟨g244, hp⟩ := gd_some hp
                          refine ⟨g244, ?_⟩
                          exact ihR10 _ _ _ τ152 S166 hp
                      · skip
                        rw [if_neg q223] at hp
                        obtain ⟨g245, hp⟩ := gd_some hp
                        refine ⟨g245, ?_⟩
                        exact ihR10 _ _ _ τ152 S166 hp
              · skip
                rw [if_neg q154] at hp
                refine ⟨ha100.isSl, ?_⟩
                try rw [ha100.slLen]
                rw [ifB_dec]
                refine ⟨fun q246 => ?_, fun q246 => ?_⟩
                · skip
                  rw [if_pos q246] at hp
                  obtain rfl := Option.some.inj hp
                  exact hq _ S151.ext'
                · skip
                  rw [if_neg q246] at hp
                  obtain rfl := Option.some.inj hp
                  exact hq _ S151.ext'
          exact hgo _ _ _ _ τ117 S116 hp
    exact hgo _ _ _ _ τ0 S0 hp
theorem s_rLast {l : List Int} {n : Int} {ca100 : C} {m f : M} {Q : V → M → Prop} {rz : Int} (hS : Pre f m) (ha100 : Sl f ca100 l) (hp : prLast l n = some rz) (hq : ∀ m', Ext m m' → Q (.c (.int .i64 rz)) m') : Wc prog tbl 52 [.c ca100, .c (.int .i64 n)] m Q := by
  have S0 := hS.st
  obtain ⟨τ0, _⟩ : ∃ τ : Nat → Nat, True := ⟨fun _ => 0, trivial⟩
  refine w52 ?_
  unfold prLast at hp
  intro R0 hR0
  have hgo : ∀ (d249 : Nat) (x1 : Int) (m2 : M) (τ248 : Nat → Nat), St (Fm.of m) f f m2 → prLast_L0 l n d249 x1 = some rz → R0 [.c (.int .i64 x1)] m2 := by
    intro d249
    induction d249 with
    | zero => intro x1 m2 τ248 S247 hp; cases hp
    | succ d249 ihR0 =>
      intro x1 m2 τ248 S247 hp
      refine hR0 _ _ ?_
      rw [prLast_L0] at hp
      obtain ⟨g250, hp⟩ := gd_some hp
      refine ⟨g250, ha100.isSl, ?_⟩
      try rw [ha100.slLen]
      rw [ifB_dec]
      refine ⟨fun q251 => ?_, fun q251 => ?_⟩
      · skip
        rw [if_pos q251] at hp
        obtain ⟨g252, hp⟩ := gd_some hp
        refine ⟨g252, ?_⟩
        obtain ⟨x253, g254, hp⟩ := bsome hp
        obtain ⟨n3, g254i, g254l, g254⟩ := idx_some g254
        refine ⟨n3, g254i, (by first | exact g254l | (rw [ha100.slLen]; exact g254l)), _, (ha100.rdI g254 S247.sub), ?_⟩
        rw [ifB_dec]
        refine ⟨fun q255 => ?_, fun q255 => ?_⟩
        · skip
          rw [if_pos q255] at hp
          obtain ⟨g256, hp⟩ := gd_some hp
          refine ⟨g256, ?_⟩
          exact ihR0 _ _ τ248 S247 hp
        · skip
          rw [if_neg q255] at hp
          obtain rfl := Option.some.inj hp
          exact hq _ S247.ext'
      · skip
        rw [if_neg q251] at hp
        obtain rfl := Option.some.inj hp
        exact hq _ S247.ext'
  exact hgo _ _ _ τ0 S0 hp
theorem s_rOf {l : List Tf} {day : Int} {ca100 : C} {m f : M} {Q : V → M → Prop} {rz : Tf} (hS : Pre f m) (ha100 : Sl f ca100 l) (hp : prOf l day = some rz) (hq : ∀ m' f' c3 c4 c5, Grw m f m' f' → Sl f' c3 rz.Weeks → Sl f' c4 rz.Counts → Sl f' c5 rz.Rates → Q (.agg 6 [(.int .i64 rz.From), (.bool rz.Whole), (.int .i64 rz.Least), c3, c4, c5]) m') : Wc prog tbl 50 [.c ca100, .c (.int .i64 day)] m Q := by
  have S0 := hS.st
  obtain ⟨τ0, _⟩ : ∃ τ : Nat → Nat, True := ⟨fun _ => 0, trivial⟩
  refine w50 ?_
  unfold prOf at hp
  intro m0 e257
  obtain ⟨τ260, S258, k259, L261⟩ := S0.blk e257 τ0 1
  intro R1 hR1
  have hgo : ∀ (d266 : Nat) (c2 : C) (x3 : Int) (l264 : List Int) (m4 : M) (τ263 : Nat → Nat), St (Fm.of m) f f m4 → Lb (Fm.of m) f τ263 m4 1 m.nxt 6 [(.int .i64 (0 : Int)), (.bool false), (.int .i64 (0 : Int)), .sl0, .sl0, .sl0] → Ow (Fm.of m) f τ263 m4 2 c2 l264 → prOf_L0 l day d266 l264 x3 = some rz → R1 [.c c2, .c (.int .i64 x3)] m4 := by
    intro d266
    induction d266 with
    | zero => intro c2 x3 l264 m4 τ263 S262 L261 o265 hp; cases hp
    | succ d266 ihR1 =>
      intro c2 x3 l264 m4 τ263 S262 L261 o265 hp
      refine hR1 _ _ _ ?_
      rw [prOf_L0] at hp
      refine ⟨ha100.isSl, ?_⟩
      try rw [ha100.slLen]
      rw [ifB_dec]
      refine ⟨fun q267 => ?_, fun q267 => ?_⟩
      · skip
        rw [if_pos q267] at hp
        obtain ⟨v268, g269, hp⟩ := bsome hp
        obtain ⟨n5, g269i, g269l, g269⟩ := idx_some g269
        obtain ⟨c270, c272, c274, r276, h271, h273, h275⟩ := rd_Tf ha100 g269
        refine ⟨n5, g269i, (by first | exact g269l | (rw [ha100.slLen]; exact g269l)), (ha100.isPt g269 _), _, ((r276 _ S262.sub).2.1 0 _ rfl), ?_⟩
        obtain ⟨g285, hp⟩ := gd_some hp
        intro m7 e277
        obtain ⟨c281, m282, τ280, a283, S278, k279, o284⟩ := o265.app' ta73 S262 (a := v268.From) (show Rp.rep (α := Int) f _ v268.From from rfl) g285 e277
        have L286 := L261.k k279 (by decide)
        refine ⟨c281, m282, a283, ?_⟩
        obtain ⟨g287, hp⟩ := gd_some hp
        refine ⟨g287, ?_⟩
        exact ihR1 _ _ _ _ τ280 S278 L286 o284 hp
      · skip
        rw [if_neg q267] at hp
        obtain ⟨f288, S289, k290, h291⟩ := o265.freeze S262
        have L292 := L261.k k290 (by decide)
        obtain ⟨r293, g294, hp⟩ := bsome hp
        refine s_rLast (l := l264) (n := day) S289.pre h291 g294 fun m11 e297 => ?_
        obtain ⟨S295, k296⟩ := S289.call e297 τ263
        have L298 := L292.k k296 (by decide)
        refine ⟨_, rfl, ?_⟩
        obtain ⟨v299, g300, hp⟩ := bsome hp
        obtain ⟨n13, g300i, g300l, g300⟩ := idx_some g300
        obtain ⟨c301, c303, c305, r307, h302, h304, h306⟩ := rd_Tf ha100 g300
        refine ⟨n13, g300i, (by first | exact g300l | (rw [ha100.slLen]; exact g300l)), _, _, _, _, _, _, (r307 _ (Sub.trans k290.fs S295.sub)).1, ?_⟩
        obtain ⟨m311, e310, S308, k309, L312⟩ := L298.sto S295 [(.int .i64 v299.From), (.bool v299.Whole), (.int .i64 v299.Least), c301, c303, c305]
        refine ⟨m311, e310, ?_⟩
        refine ⟨_, _, _, _, _, _, L312.bk.ra, ?_⟩
        obtain rfl := Option.some.inj hp
        exact hq _ f288 c301 c303 c305 S308.grw (h302.sub k290.fs) (h304.sub k290.fs) (h306.sub k290.fs)
  exact hgo _ _ _ _ _ τ260 S258 L261 (Ow.nil _ _ _ _ _) hp
theorem s_rCrops {l : List Tf} {ca100 : C} {m f : M} {Q : V → M → Prop} {rz : Int} (hS : Pre f m) (ha100 : Sl f ca100 l) (hp : prCrops l = some rz) (hq : ∀ m', Ext m m' → Q (.c (.int .i64 rz)) m') : Wc prog tbl 23 [.c ca100] m Q := by
  have S0 := hS.st
  obtain ⟨τ0, _⟩ : ∃ τ : Nat → Nat, True := ⟨fun _ => 0, trivial⟩
  refine w23 ?_
  unfold prCrops at hp
  obtain ⟨v397, g398, hp⟩ := bsome hp
  obtain ⟨n0, g398i, g398l, g398⟩ := idx_some g398
  obtain ⟨c399, c401, c403, r405, h400, h402, h404⟩ := rd_Tf ha100 g398
  refine ⟨n0, g398i, (by first | exact g398l | (rw [ha100.slLen]; exact g398l)), (ha100.isPt g398 _), _, ((r405 _ S0.sub).2.1 5 _ rfl), h404.isSl, ?_⟩
  try rw [h404.slLen]
  obtain rfl := Option.some.inj hp
  exact hq _ S0.ext'
theorem s_rRise {l : List Int} {out : Int} {ca100 : C} {m f : M} {Q : V → M → Prop} {rz : Bool} (hS : Pre f m) (ha100 : Sl f ca100 l) (hp : prRise l out = some rz) (hq : ∀ m', Ext m m' → Q (.c (.bool rz)) m') : Wc prog tbl 51 [.c ca100, .c (.int .i64 out)] m Q := by
  have S0 := hS.st
  obtain ⟨τ0, _⟩ : ∃ τ : Nat → Nat, True := ⟨fun _ => 0, trivial⟩
  refine w51 ?_
  unfold prRise at hp
  intro R0 hR0
  have hgo : ∀ (d744 : Nat) (b1 : Bool) (x2 : Int) (m3 : M) (τ743 : Nat → Nat), St (Fm.of m) f f m3 → prRise_L0 l out d744 b1 x2 = some rz → R0 [.c (.bool b1), .c (.int .i64 x2)] m3 := by
    intro d744
    induction d744 with
    | zero => intro b1 x2 m3 τ743 S742 hp; cases hp
    | succ d744 ihR0 =>
      intro b1 x2 m3 τ743 S742 hp
      refine hR0 _ _ _ ?_
      rw [prRise_L0] at hp
      refine ⟨ha100.isSl, ?_⟩
      try rw [ha100.slLen]
      rw [ifB_dec]
      refine ⟨fun q745 => ?_, fun q745 => ?_⟩
      · skip
        rw [if_pos q745] at hp
        obtain ⟨g746, hp⟩ := gd_some hp
        refine ⟨g746, ?_⟩
        intro R4 hR4
        have hgo : ∀ (d749 : Nat) (b5 : Bool) (x6 : Int) (m7 : M) (τ748 : Nat → Nat), St (Fm.of m) f f m7 → prRise_L1 l out x2 (prRise_L0 l out d744) d749 b5 x6 = some rz → R4 [.c (.bool b5), .c (.int .i64 x6)] m7 := by
          intro d749
          induction d749 with
          | zero => intro b5 x6 m7 τ748 S747 hp; cases hp
          | succ d749 ihR4 =>
            intro b5 x6 m7 τ748 S747 hp
            refine hR4 _ _ _ ?_
            rw [prRise_L1] at hp
            refine ⟨ha100.isSl, ?_⟩
            try rw [ha100.slLen]
            rw [ifB_dec]
            refine ⟨fun q750 => ?_, fun q750 => ?_⟩
            · skip
              rw [if_pos q750] at hp
              obtain ⟨g751, hp⟩ := gd_some hp
              refine ⟨g751, ?_⟩
              obtain ⟨g752, hp⟩ := gd_some hp
              refine ⟨g752, ?_⟩
              obtain ⟨g753, hp⟩ := gd_some hp
              refine ⟨g753, ?_⟩
              obtain ⟨g754, hp⟩ := gd_some hp
              refine ⟨g754, ?_⟩
              obtain ⟨g755, hp⟩ := gd_some hp
              refine ⟨g755, ?_⟩
              obtain ⟨g756, hp⟩ := gd_some hp
              refine ⟨g756, ?_⟩
              obtain ⟨g757, hp⟩ := gd_some hp
              refine ⟨g757, ?_⟩
              rw [ifB_dec]
              refine ⟨fun q758 => ?_, fun q758 => ?_⟩
              · skip
                rw [if_pos q758] at hp
                obtain ⟨g759, hp⟩ := gd_some hp
                refine ⟨g759, ?_⟩
                obtain ⟨g760, hp⟩ := gd_some hp
                refine ⟨g760, ?_⟩
                obtain ⟨g761, hp⟩ := gd_some hp
                refine ⟨g761, ?_⟩
                obtain ⟨g762, hp⟩ := gd_some hp
                refine ⟨g762, ?_⟩
                obtain ⟨g763, hp⟩ := gd_some hp
                refine ⟨g763, ?_⟩
                obtain ⟨g764, hp⟩ := gd_some hp
                refine ⟨g764, ?_⟩
                obtain ⟨g765, hp⟩ := gd_some hp
                refine ⟨g765, ?_⟩
                rw [ifB_dec]
                refine ⟨fun q766 => ?_, fun q766 => ?_⟩
                · skip
                  rw [if_pos q766] at hp
                  obtain ⟨x767, g768, hp⟩ := bsome hp
                  obtain ⟨n8, g768i, g768l, g768⟩ := idx_some g768
                  refine ⟨n8, g768i, (by first | exact g768l | (rw [ha100.slLen]; exact g768l)), _, (ha100.rdI g768 S747.sub), ?_⟩
                  obtain ⟨x769, g770, hp⟩ := bsome hp
                  obtain ⟨n10, g770i, g770l, g770⟩ := idx_some g770
                  refine ⟨n10, g770i, (by first | exact g770l | (rw [ha100.slLen]; exact g770l)), _, (ha100.rdI g770 S747.sub), ?_⟩
                  rw [ifB_dec]
                  refine ⟨fun q771 => ?_, fun q771 => ?_⟩
                  · skip
                    rw [if_pos q771] at hp
                    obtain rfl := Option.some.inj hp
                    exact hq _ S747.ext'
                  · skip
                    rw [if_neg q771] at hp
                    obtain ⟨g772, hp⟩ := gd_some hp
                    refine ⟨g772, ?_⟩
                    exact ihR4 _ _ _ τ748 S747 hp
                · skip
                  rw [if_neg q766] at hp
                  obtain ⟨g773, hp⟩ := gd_some hp
                  refine ⟨g773, ?_⟩
                  exact ihR4 _ _ _ τ748 S747 hp
              · skip
                rw [if_neg q758] at hp
                obtain ⟨g774, hp⟩ := gd_some hp
                refine ⟨g774, ?_⟩
                exact ihR4 _ _ _ τ748 S747 hp
            · skip
              rw [if_neg q750] at hp
              obtain ⟨g775, hp⟩ := gd_some hp
              refine ⟨g775, ?_⟩
              exact ihR0 _ _ _ τ748 S747 hp
        exact hgo _ _ _ _ τ743 S742 hp
      · skip
        rw [if_neg q745] at hp
        obtain rfl := Option.some.inj hp
        exact hq _ S742.ext'
  exact hgo _ _ _ _ τ0 S0 hp
theorem s_lList {l : List Int} {ca100 : C} {m f : M} {Q : V → M → Prop} {rz : List Int} (hS : Pre f m) (ha100 : Sl f ca100 l) (hp : plList l = some rz) (hq : ∀ m' f' c0, Grw m f m' f' → Sl f' c0 rz → Q (.c c0) m') : Wc prog tbl 58 [.c ca100] m Q := by
  have S0 := hS.st
  obtain ⟨τ0, _⟩ : ∃ τ : Nat → Nat, True := ⟨fun _ => 0, trivial⟩
  refine w58 ?_
  unfold plList at hp
  intro m0 e841
  obtain ⟨τ844, S842, k843, o845⟩ := Ow.lit0 (α := Int) S0 τ0 1 e841
  obtain ⟨g853, hp⟩ := gd_some hp
  obtain ⟨c849, m850, τ848, a851, S846, k847, o852⟩ := o845.appL ta73 S842 ha100 g853
  refine ⟨c849, m850, a851, ?_⟩
  obtain ⟨f854, S855, k856, h857⟩ := o852.freeze S846
  obtain rfl := Option.some.inj hp
  exact hq _ f854 c849 S855.grw h857
theorem s_lThin {l : List Tf} {ca100 : C} {m f : M} {Q : V → M → Prop} {rz : Bool} (hS : Pre f m) (ha100 : Sl f ca100 l) (hp : plThin l = some rz) (hq : ∀ m', Ext m m' → Q (.c (.bool rz)) m') : Wc prog tbl 16 [.c ca100] m Q := by
  have S0 := hS.st
  obtain ⟨τ0, _⟩ : ∃ τ : Nat → Nat, True := ⟨fun _ => 0, trivial⟩
  refine w16 ?_
  unfold plThin at hp
  refine ⟨ha100.isSl, ?_⟩
  try rw [ha100.slLen]
  rw [ifB_dec]
  refine ⟨fun q886 => ?_, fun q886 => ?_⟩
  · skip
    rw [if_pos q886] at hp
    obtain rfl := Option.some.inj hp
    exact hq _ S0.ext'
  · skip
    rw [if_neg q886] at hp
    intro R0 hR0
    have hgo : ∀ (d889 : Nat) (b1 : Bool) (b2 : Bool) (b3 : Bool) (x4 : Int) (m5 : M) (τ888 : Nat → Nat), St (Fm.of m) f f m5 → plThin_L0 l d889 b1 x4 = some rz → R0 [.c (.bool b1), .c (.bool b2), .c (.bool b3), .c (.int .i64 x4)] m5 := by
      intro d889
      induction d889 with
      | zero => intro b1 b2 b3 x4 m5 τ888 S887 hp; cases hp
      | succ d889 ihR0 =>
        intro b1 b2 b3 x4 m5 τ888 S887 hp
        refine hR0 _ _ _ _ _ ?_
        rw [plThin_L0] at hp
        refine ⟨ha100.isSl, ?_⟩
        try rw [ha100.slLen]
        rw [ifB_dec]
        refine ⟨fun q890 => ?_, fun q890 => ?_⟩
        · skip
          rw [if_pos q890] at hp
          obtain ⟨v891, g892, hp⟩ := bsome hp
          obtain ⟨n6, g892i, g892l, g892⟩ := idx_some g892
          obtain ⟨c893, c895, c897, r899, h894, h896, h898⟩ := rd_Tf ha100 g892
          refine ⟨n6, g892i, (by first | exact g892l | (rw [ha100.slLen]; exact g892l)), (ha100.isPt g892 _), _, ((r899 _ S887.sub).2.1 3 _ rfl), h894.isSl, ?_⟩
          try rw [h894.slLen]
          rw [ifB_dec]
          refine ⟨fun q900 => ?_, fun q900 => ?_⟩
          · skip
            rw [if_pos q900] at hp
            obtain rfl := Option.some.inj hp
            exact hq _ S887.ext'
          · skip
            rw [if_neg q900] at hp
            obtain ⟨v901, g902, hp⟩ := bsome hp
            obtain ⟨n8, g902i, g902l, g902⟩ := idx_some g902
            obtain ⟨c903, c905, c907, r909, h904, h906, h908⟩ := rd_Tf ha100 g902
            refine ⟨n8, g902i, (by first | exact g902l | (rw [ha100.slLen]; exact g902l)), (ha100.isPt g902 _), _, ((r909 _ S887.sub).2.1 4 _ rfl), h906.isSl, ?_⟩
            try rw [h906.slLen]
            rw [ifB_dec]
            refine ⟨fun q910 => ?_, fun q910 => ?_⟩
            · skip
              rw [if_pos q910] at hp
              obtain rfl := Option.some.inj hp
              exact hq _ S887.ext'
            · skip
              rw [if_neg q910] at hp
              obtain ⟨v911, g912, hp⟩ := bsome hp
              obtain ⟨n10, g912i, g912l, g912⟩ := idx_some g912
              obtain ⟨c913, c915, c917, r919, h914, h916, h918⟩ := rd_Tf ha100 g912
              refine ⟨n10, g912i, (by first | exact g912l | (rw [ha100.slLen]; exact g912l)), (ha100.isPt g912 _), _, ((r919 _ S887.sub).2.1 5 _ rfl), h918.isSl, ?_⟩
              try rw [h918.slLen]
              rw [ifB_dec]
              refine ⟨fun q920 => ?_, fun q920 => ?_⟩
              · skip
                rw [if_pos q920] at hp
                obtain rfl := Option.some.inj hp
                exact hq _ S887.ext'
              · skip
                rw [if_neg q920] at hp
                intro R12 hR12
                have hgo : ∀ (d923 : Nat) (b13 : Bool) (b14 : Bool) (x15 : Int) (m16 : M) (τ922 : Nat → Nat), St (Fm.of m) f f m16 → plThin_L1 l x4 (plThin_L0 l d889) d923 b13 x15 = some rz → R12 [.c (.bool b13), .c (.bool b14), .c (.int .i64 x15)] m16 := by
                  intro d923
                  induction d923 with
                  | zero => intro b13 b14 x15 m16 τ922 S921 hp; cases hp
                  | succ d923 ihR12 =>
                    intro b13 b14 x15 m16 τ922 S921 hp
                    refine hR12 _ _ _ _ ?_
                    rw [plThin_L1] at hp
                    obtain ⟨v924, g925, hp⟩ := bsome hp
                    obtain ⟨n17, g925i, g925l, g925⟩ := idx_some g925
                    obtain ⟨c926, c928, c930, r932, h927, h929, h931⟩ := rd_Tf ha100 g925
                    refine ⟨n17, g925i, (by first | exact g925l | (rw [ha100.slLen]; exact g925l)), (ha100.isPt g925 _), _, ((r932 _ S921.sub).2.1 5 _ rfl), h931.isSl, ?_⟩
                    try rw [h931.slLen]
                    rw [ifB_dec]
                    refine ⟨fun q933 => ?_, fun q933 => ?_⟩
                    · skip
                      rw [if_pos q933] at hp
                      obtain ⟨v934, g935, hp⟩ := bsome hp
                      obtain ⟨n19, g935i, g935l, g935⟩ := idx_some g935
                      obtain ⟨c936, c938, c940, r942, h937, h939, h941⟩ := rd_Tf ha100 g935
                      refine ⟨n19, g935i, (by first | exact g935l | (rw [ha100.slLen]; exact g935l)), (ha100.isPt g935 _), _, ((r942 _ S921.sub).2.1 5 _ rfl), ?_⟩
                      obtain ⟨v943, g944, hp⟩ := bsome hp
                      obtain ⟨n21, g944i, g944l, g944⟩ := idx_some g944
                      obtain ⟨c945, r946, h947⟩ := h941.rdS g944
                      refine ⟨n21, g944i, (by first | exact g944l | (rw [h941.slLen]; exact g944l)), _, (r946 _ S921.sub), h947.isSl, ?_⟩
                      try rw [h947.slLen]
                      rw [ifB_dec]
                      refine ⟨fun q948 => ?_, fun q948 => ?_⟩
                      · skip
                        rw [if_pos q948] at hp
                        obtain rfl := Option.some.inj hp
                        exact hq _ S921.ext'
                      · skip
                        rw [if_neg q948] at hp
                        intro R23 hR23
                        have hgo : ∀ (d951 : Nat) (b24 : Bool) (x25 : Int) (m26 : M) (τ950 : Nat → Nat), St (Fm.of m) f f m26 → plThin_L2 l x4 x15 (plThin_L1 l x4 (plThin_L0 l d889) d923) d951 b24 x25 = some rz → R23 [.c (.bool b24), .c (.int .i64 x25)] m26 := by
                          intro d951
                          induction d951 with
                          | zero => intro b24 x25 m26 τ950 S949 hp; cases hp
                          | succ d951 ihR23 =>
                            intro b24 x25 m26 τ950 S949 hp
                            refine hR23 _ _ _ ?_
                            rw [plThin_L2] at hp
                            obtain ⟨v952, g953, hp⟩ := bsome hp
                            obtain ⟨n27, g953i, g953l, g953⟩ := idx_some g953
                            obtain ⟨c954, c956, c958, r960, h955, h957, h959⟩ := rd_Tf ha100 g953
                            refine ⟨n27, g953i, (by first | exact g953l | (rw [ha100.slLen]; exact g953l)), (ha100.isPt g953 _), _, ((r960 _ S949.sub).2.1 5 _ rfl), ?_⟩
                            obtain ⟨v961, g962, hp⟩ := bsome hp
                            obtain ⟨n29, g962i, g962l, g962⟩ := idx_some g962
                            obtain ⟨c963, r964, h965⟩ := h959.rdS g962
                            refine ⟨n29, g962i, (by first | exact g962l | (rw [h959.slLen]; exact g962l)), _, (r964 _ S949.sub), h965.isSl, ?_⟩
                            try rw [h965.slLen]
                            rw [ifB_dec]
                            refine ⟨fun q966 => ?_, fun q966 => ?_⟩
                            · skip
                              rw [if_pos q966] at hp
                              obtain ⟨v967, g968, hp⟩ := bsome hp
                              obtain ⟨n31, g968i, g968l, g968⟩ := idx_some g968
                              obtain ⟨c969, c971, c973, r975, h970, h972, h974⟩ := rd_Tf ha100 g968
                              refine ⟨n31, g968i, (by first | exact g968l | (rw [ha100.slLen]; exact g968l)), (ha100.isPt g968 _), _, ((r975 _ S949.sub).2.1 5 _ rfl), ?_⟩
                              obtain ⟨v976, g977, hp⟩ := bsome hp
                              obtain ⟨n33, g977i, g977l, g977⟩ := idx_some g977
                              obtain ⟨c978, r979, h980⟩ := h974.rdS g977
                              refine ⟨n33, g977i, (by first | exact g977l | (rw [h974.slLen]; exact g977l)), _, (r979 _ S949.sub), ?_⟩
                              obtain ⟨v981, g982, hp⟩ := bsome hp
                              obtain ⟨n35, g982i, g982l, g982⟩ := idx_some g982
                              obtain ⟨c983, r984, h985⟩ := h980.rdS g982
                              refine ⟨n35, g982i, (by first | exact g982l | (rw [h980.slLen]; exact g982l)), _, (r984 _ S949.sub), h985.isSl, ?_⟩
                              try rw [h985.slLen]
                              rw [ifB_dec]
                              refine ⟨fun q986 => ?_, fun q986 => ?_⟩
                              · skip
                                rw [if_pos q986] at hp
                                obtain rfl := Option.some.inj hp
                                exact hq _ S949.ext'
                              · skip
                                rw [if_neg q986] at hp
                                obtain ⟨g987, hp⟩ := gd_some hp
                                refine ⟨g987, ?_⟩
                                exact ihR23 _ _ _ τ950 S949 hp
                            · skip
                              rw [if_neg q966] at hp
                              obtain ⟨g988, hp⟩ := gd_some hp
                              refine ⟨g988, ?_⟩
                              exact ihR12 _ _ _ _ τ950 S949 hp
                        exact hgo _ _ _ _ τ922 S921 hp
                    · skip
                      rw [if_neg q933] at hp
                      obtain ⟨g989, hp⟩ := gd_some hp
                      refine ⟨g989, ?_⟩
                      exact ihR0 _ _ _ _ _ τ922 S921 hp
                exact hgo _ _ _ _ _ τ888 S887 hp
        · skip
          rw [if_neg q890] at hp
          obtain rfl := Option.some.inj hp
          exact hq _ S887.ext'
    exact hgo _ _ _ _ _ _ τ0 S0 hp
theorem s_lFault {l : List Tf} {ca100 : C} {m f : M} {Q : V → M → Prop} {rz : Int} (hS : Pre f m) (ha100 : Sl f ca100 l) (hp : plFault l = some rz) (hq : ∀ m', Ext m m' → Q (.c (.int .i64 rz)) m') : Wc prog tbl 20 [.c ca100] m Q := by
  have S0 := hS.st
  obtain ⟨τ0, _⟩ : ∃ τ : Nat → Nat, True := ⟨fun _ => 0, trivial⟩
  refine w20 ?_
  unfold plFault at hp
  obtain ⟨r990, g991, hp⟩ := bsome hp
  refine s_rFault (l := l) S0.pre ha100 g991 fun m1 e994 => ?_
  obtain ⟨S992, k993⟩ := S0.call e994 τ0
  refine ⟨_, rfl, ?_⟩
  obtain rfl := Option.some.inj hp
  exact hq _ S992.ext'
theorem s_lReady {l : List Tf} {ca100 : C} {m f : M} {Q : V → M → Prop} {rz : Bool} (hS : Pre f m) (ha100 : Sl f ca100 l) (hp : plReady l = some rz) (hq : ∀ m', Ext m m' → Q (.c (.bool rz)) m') : Wc prog tbl 49 [.c ca100] m Q := by
  have S0 := hS.st
  obtain ⟨τ0, _⟩ : ∃ τ : Nat → Nat, True := ⟨fun _ => 0, trivial⟩
  refine w49 ?_
  unfold plReady at hp
  obtain ⟨r1014, g1015, hp⟩ := bsome hp
  refine s_lThin (l := l) S0.pre ha100 g1015 fun m1 e1018 => ?_
  obtain ⟨S1016, k1017⟩ := S0.call e1018 τ0
  refine ⟨_, rfl, ?_⟩
  rw [ifB_iff]
  refine ⟨fun q1019 => ?_, fun q1019 => ?_⟩
  · skip
    rw [if_pos q1019] at hp
    obtain ⟨r1020, g1021, hp⟩ := bsome hp
    refine s_lFault (l := l) S1016.pre ha100 g1021 fun m4 e1024 => ?_
    obtain ⟨S1022, k1023⟩ := S1016.call e1024 τ0
    refine ⟨_, rfl, ?_⟩
    obtain rfl := Option.some.inj hp
    exact hq _ S1022.ext'
  · skip
    rw [bif_neg q1019] at hp
    obtain rfl := Option.some.inj hp
    exact hq _ S1016.ext'
theorem s_has {r : Rg} {n : Int} {m f : M} {Q : V → M → Prop} {rz : Bool} (hS : Pre f m)  (hp : phas r n = some rz) (hq : ∀ m', Ext m m' → Q (.c (.bool rz)) m') : Wc prog tbl 78 [.agg 2 [(.int .i64 r.Lo), (.int .i64 r.Hi)], .c (.int .i64 n)] m Q := by
  have S0 := hS.st
  obtain ⟨τ0, _⟩ : ∃ τ : Nat → Nat, True := ⟨fun _ => 0, trivial⟩
  refine w78 ?_
  unfold phas at hp
  intro m0 e1082
  obtain ⟨τ1085, S1083, k1084, L1086⟩ := S0.blk e1082 τ0 1
  refine ⟨trivial, _, L1086.bk.rc rfl, ?_⟩
  rw [ifB_dec]
  refine ⟨fun q1087 => ?_, fun q1087 => ?_⟩
  · skip
    rw [if_pos q1087] at hp
    refine ⟨trivial, _, L1086.bk.rc rfl, ?_⟩
    obtain rfl := Option.some.inj hp
    exact hq _ S1083.ext'
  · skip
    rw [if_neg q1087] at hp
    obtain rfl := Option.some.inj hp
    exact hq _ S1083.ext'
theorem s_isIndex {n : Int} {size : Int} {m f : M} {Q : V → M → Prop} {rz : Bool} (hS : Pre f m)  (hp : pisIndex n size = some rz) (hq : ∀ m', Ext m m' → Q (.c (.bool rz)) m') : Wc prog tbl 77 [.c (.int .i64 n), .c (.int .i64 size)] m Q := by
  have S0 := hS.st
  obtain ⟨τ0, _⟩ : ∃ τ : Nat → Nat, True := ⟨fun _ => 0, trivial⟩
  refine w77 ?_
  unfold pisIndex at hp
  obtain ⟨g1088, hp⟩ := gd_some hp
  refine ⟨g1088, ?_⟩
  obtain ⟨r1089, g1090, hp⟩ := bsome hp
  refine s_has (r := ({ Lo := (0 : Int), Hi := (size - (1 : Int)) } : Rg)) (n := n) S0.pre  g1090 fun m1 e1093 => ?_
  obtain ⟨S1091, k1092⟩ := S0.call e1093 τ0
  refine ⟨_, rfl, ?_⟩
  obtain rfl := Option.some.inj hp
  exact hq _ S1091.ext'
theorem s_isDay {n : Int} {m f : M} {Q : V → M → Prop} {rz : Bool} (hS : Pre f m)  (hp : pisDay n = some rz) (hq : ∀ m', Ext m m' → Q (.c (.bool rz)) m') : Wc prog tbl 55 [.c (.int .i64 n)] m Q := by
  have S0 := hS.st
  obtain ⟨τ0, _⟩ : ∃ τ : Nat → Nat, True := ⟨fun _ => 0, trivial⟩
  refine w55 ?_
  unfold pisDay at hp
  obtain ⟨r1094, g1095, hp⟩ := bsome hp
  refine s_has (r := ({ Lo := (0 : Int), Hi := (120 : Int) } : Rg)) (n := n) S0.pre  g1095 fun m1 e1098 => ?_
  obtain ⟨S1096, k1097⟩ := S0.call e1098 τ0
  refine ⟨_, rfl, ?_⟩
  obtain rfl := Option.some.inj hp
  exact hq _ S1096.ext'
theorem s_isCount {n : Int} {m f : M} {Q : V → M → Prop} {rz : Bool} (hS : Pre f m)  (hp : pisCount n = some rz) (hq : ∀ m', Ext m m' → Q (.c (.bool rz)) m') : Wc prog tbl 56 [.c (.int .i64 n)] m Q := by
  have S0 := hS.st
  obtain ⟨τ0, _⟩ : ∃ τ : Nat → Nat, True := ⟨fun _ => 0, trivial⟩
  refine w56 ?_
  unfold pisCount at hp
  obtain ⟨r1099, g1100, hp⟩ := bsome hp
  refine s_has (r := ({ Lo := (0 : Int), Hi := (100 : Int) } : Rg)) (n := n) S0.pre  g1100 fun m1 e1103 => ?_
  obtain ⟨S1101, k1102⟩ := S0.call e1103 τ0
  refine ⟨_, rfl, ?_⟩
  obtain rfl := Option.some.inj hp
  exact hq _ S1101.ext'
theorem s_isHundredths {n : Int} {m f : M} {Q : V → M → Prop} {rz : Bool} (hS : Pre f m)  (hp : pisHundredths n = some rz) (hq : ∀ m', Ext m m' → Q (.c (.bool rz)) m') : Wc prog tbl 105 [.c (.int .i64 n)] m Q := by
  have S0 := hS.st
  obtain ⟨τ0, _⟩ : ∃ τ : Nat → Nat, True := ⟨fun _ => 0, trivial⟩
  refine w105 ?_
  unfold pisHundredths at hp
  obtain ⟨r1104, g1105, hp⟩ := bsome hp
  refine s_has (r := ({ Lo := (0 : Int), Hi := (100 : Int) } : Rg)) (n := n) S0.pre  g1105 fun m1 e1108 => ?_
  obtain ⟨S1106, k1107⟩ := S0.call e1108 τ0
  refine ⟨_, rfl, ?_⟩
  obtain rfl := Option.some.inj hp
  exact hq _ S1106.ext'
theorem s_rises {l : List Int} {ca100 : C} {m f : M} {Q : V → M → Prop} {rz : Bool} (hS : Pre f m) (ha100 : Sl f ca100 l) (hp : prises l = some rz) (hq : ∀ m', Ext m m' → Q (.c (.bool rz)) m') : Wc prog tbl 86 [.c ca100] m Q := by
  have S0 := hS.st
  obtain ⟨τ0, _⟩ : ∃ τ : Nat → Nat, True := ⟨fun _ => 0, trivial⟩
  refine w86 ?_
  unfold prises at hp
  refine ⟨ha100.isSl, ?_⟩
  intro R0 hR0
  have hgo : ∀ (d1111 : Nat) (b1 : Bool) (x2 : Int) (m3 : M) (τ1110 : Nat → Nat), St (Fm.of m) f f m3 → prises_L0 l d1111 x2 = some rz → R0 [.c (.bool b1), .c (.int .i64 x2)] m3 := by
    intro d1111
    induction d1111 with
    | zero => intro b1 x2 m3 τ1110 S1109 hp; cases hp
    | succ d1111 ihR0 =>
      intro b1 x2 m3 τ1110 S1109 hp
      refine hR0 _ _ _ ?_
      rw [prises_L0] at hp
      try rw [ha100.slLen]
      rw [ifB_dec]
      refine ⟨fun q1112 => ?_, fun q1112 => ?_⟩
      · skip
        rw [if_pos q1112] at hp
        obtain ⟨x1113, g1114, hp⟩ := bsome hp
        obtain ⟨n4, g1114i, g1114l, g1114⟩ := idx_some g1114
        refine ⟨n4, g1114i, (by first | exact g1114l | (rw [ha100.slLen]; exact g1114l)), _, (ha100.rdI g1114 S1109.sub), ?_⟩
        rw [ifB_dec]
        refine ⟨fun q1115 => ?_, fun q1115 => ?_⟩
        · skip
          rw [if_pos q1115] at hp
          obtain ⟨g1116, hp⟩ := gd_some hp
          refine ⟨g1116, ?_⟩
          obtain ⟨x1117, g1118, hp⟩ := bsome hp
          obtain ⟨n6, g1118i, g1118l, g1118⟩ := idx_some g1118
          refine ⟨n6, g1118i, (by first | exact g1118l | (rw [ha100.slLen]; exact g1118l)), _, (ha100.rdI g1118 S1109.sub), ?_⟩
          rw [ifB_dec]
          refine ⟨fun q1119 => ?_, fun q1119 => ?_⟩
          · skip
            rw [if_pos q1119] at hp
            obtain rfl := Option.some.inj hp
            exact hq _ S1109.ext'
          · skip
            rw [if_neg q1119] at hp
            obtain ⟨g1120, hp⟩ := gd_some hp
            refine ⟨g1120, ?_⟩
            exact ihR0 _ _ _ τ1110 S1109 hp
        · skip
          rw [if_neg q1115] at hp
          obtain ⟨g1121, hp⟩ := gd_some hp
          refine ⟨g1121, ?_⟩
          exact ihR0 _ _ _ τ1110 S1109 hp
      · skip
        rw [if_neg q1112] at hp
        refine ⟨ha100.isSl, ?_⟩
        try rw [ha100.slLen]
        rw [ifB_dec]
        refine ⟨fun q1122 => ?_, fun q1122 => ?_⟩
        · skip
          rw [if_pos q1122] at hp
          obtain ⟨x1123, g1124, hp⟩ := bsome hp
          obtain ⟨n8, g1124i, g1124l, g1124⟩ := idx_some g1124
          refine ⟨n8, g1124i, (by first | exact g1124l | (rw [ha100.slLen]; exact g1124l)), _, (ha100.rdI g1124 S1109.sub), ?_⟩
          obtain rfl := Option.some.inj hp
          exact hq _ S1109.ext'
        · skip
          rw [if_neg q1122] at hp
          obtain rfl := Option.some.inj hp
          exact hq _ S1109.ext'
  exact hgo _ _ _ _ τ0 S0 hp
theorem s_froms {l : List Tf} {ca100 : C} {m f : M} {Q : V → M → Prop} {rz : List Int} (hS : Pre f m) (ha100 : Sl f ca100 l) (hp : pfroms l = some rz) (hq : ∀ m' f' c0, Grw m f m' f' → Sl f' c0 rz → Q (.c c0) m') : Wc prog tbl 87 [.c ca100] m Q := by
  have S0 := hS.st
  obtain ⟨τ0, _⟩ : ∃ τ : Nat → Nat, True := ⟨fun _ => 0, trivial⟩
  refine w87 ?_
  unfold pfroms at hp
  refine ⟨ha100.isSl, ?_⟩
  intro R0 hR0
  have hgo : ∀ (d1129 : Nat) (c1 : C) (x2 : Int) (l1127 : List Int) (m3 : M) (τ1126 : Nat → Nat), St (Fm.of m) f f m3 → Ow (Fm.of m) f τ1126 m3 1 c1 l1127 → pfroms_L0 l d1129 l1127 x2 = some rz → R0 [.c c1, .c (.int .i64 x2)] m3 := by
    intro d1129
    induction d1129 with
    | zero => intro c1 x2 l1127 m3 τ1126 S1125 o1128 hp; cases hp
    | succ d1129 ihR0 =>
      intro c1 x2 l1127 m3 τ1126 S1125 o1128 hp
      refine hR0 _ _ _ ?_
      rw [pfroms_L0] at hp
      try rw [ha100.slLen]
      rw [ifB_dec]
      refine ⟨fun q1130 => ?_, fun q1130 => ?_⟩
      · skip
        rw [if_pos q1130] at hp
        obtain ⟨v1131, g1132, hp⟩ := bsome hp
        obtain ⟨n4, g1132i, g1132l, g1132⟩ := idx_some g1132
        obtain ⟨c1133, c1135, c1137, r1139, h1134, h1136, h1138⟩ := rd_Tf ha100 g1132
        refine ⟨n4, g1132i, (by first | exact g1132l | (rw [ha100.slLen]; exact g1132l)), _, _, _, _, _, _, (r1139 _ S1125.sub).1, ?_⟩
        intro m11 e1140
        obtain ⟨τ1143, S1141, k1142, L1144⟩ := S1125.blk e1140 τ1126 2
        have o1128 := o1128.k k1142 (by decide)
        obtain ⟨m1148, e1147, S1145, k1146, L1149⟩ := L1144.sto S1141 [(.int .i64 v1131.From), (.bool v1131.Whole), (.int .i64 v1131.Least), c1133, c1135, c1137]
        have o1128 := o1128.k k1146 (by decide)
        refine ⟨m1148, e1147, ?_⟩
        refine ⟨trivial, _, L1149.bk.rc rfl, ?_⟩
        obtain ⟨g1158, hp⟩ := gd_some hp
        intro m14 e1150
        obtain ⟨c1154, m1155, τ1153, a1156, S1151, k1152, o1157⟩ := o1128.app' ta73 S1145 (a := v1131.From) (show Rp.rep (α := Int) f _ v1131.From from rfl) g1158 e1150
        have L1159 := L1149.k k1152 (by decide)
        refine ⟨c1154, m1155, a1156, ?_⟩
        obtain ⟨g1160, hp⟩ := gd_some hp
        refine ⟨g1160, ?_⟩
        exact ihR0 _ _ _ _ τ1153 S1151 o1157 hp
      · skip
        rw [if_neg q1130] at hp
        obtain ⟨f1161, S1162, k1163, h1164⟩ := o1128.freeze S1125
        obtain rfl := Option.some.inj hp
        exact hq _ f1161 c1 S1162.grw h1164
  exact hgo _ _ _ _ _ τ0 S0 (Ow.nil _ _ _ _ _) hp
theorem s_sameCrops {l : List Tf} {t : Tf} {ca100 ca203 ca204 ca205 : C} {m f : M} {Q : V → M → Prop} {rz : Bool} (hS : Pre f m) (ha100 : Sl f ca100 l) (ha203 : Sl f ca203 t.Weeks) (ha204 : Sl f ca204 t.Counts) (ha205 : Sl f ca205 t.Rates) (hp : psameCrops l t = some rz) (hq : ∀ m', Ext m m' → Q (.c (.bool rz)) m') : Wc prog tbl 88 [.c ca100, .agg 6 [(.int .i64 t.From), (.bool t.Whole), (.int .i64 t.Least), ca203, ca204, ca205]] m Q := by
  have S0 := hS.st
  obtain ⟨τ0, _⟩ : ∃ τ : Nat → Nat, True := ⟨fun _ => 0, trivial⟩
  refine w88 ?_
  unfold psameCrops at hp
  intro m0 e1165
  obtain ⟨τ1168, S1166, k1167, L1169⟩ := S0.blk e1165 τ0 1
  refine ⟨trivial, _, L1169.bk.rc rfl, ha205.isSl, ?_⟩
  obtain ⟨v1170, g1171, hp⟩ := bsome hp
  obtain ⟨n2, g1171i, g1171l, g1171⟩ := idx_some g1171
  obtain ⟨c1172, c1174, c1176, r1178, h1173, h1175, h1177⟩ := rd_Tf ha100 g1171
  refine ⟨n2, g1171i, (by first | exact g1171l | (rw [ha100.slLen]; exact g1171l)), (ha100.isPt g1171 _), _, ((r1178 _ S1166.sub).2.1 5 _ rfl), h1177.isSl, ?_⟩
  try rw [ha205.slLen]
  try rw [h1177.slLen]
  obtain rfl := Option.some.inj hp
  exact hq _ S1166.ext'
theorem s_hasCrop {l : List Tf} {n : Int} {ca100 : C} {m f : M} {Q : V → M → Prop} {rz : Bool} (hS : Pre f m) (ha100 : Sl f ca100 l) (hp : phasCrop l n = some rz) (hq : ∀ m', Ext m m' → Q (.c (.bool rz)) m') : Wc prog tbl 54 [.c ca100, .c (.int .i64 n)] m Q := by
  have S0 := hS.st
  obtain ⟨τ0, _⟩ : ∃ τ : Nat → Nat, True := ⟨fun _ => 0, trivial⟩
  refine w54 ?_
  unfold phasCrop at hp
  obtain ⟨v1179, g1180, hp⟩ := bsome hp
  obtain ⟨n0, g1180i, g1180l, g1180⟩ := idx_some g1180
  obtain ⟨c1181, c1183, c1185, r1187, h1182, h1184, h1186⟩ := rd_Tf ha100 g1180
  refine ⟨n0, g1180i, (by first | exact g1180l | (rw [ha100.slLen]; exact g1180l)), (ha100.isPt g1180 _), _, ((r1187 _ S0.sub).2.1 5 _ rfl), h1186.isSl, ?_⟩
  try rw [h1186.slLen]
  obtain ⟨r1188, g1189, hp⟩ := bsome hp
  refine s_isIndex (n := n) (size := (v1179.Rates.length : Int)) S0.pre  g1189 fun m3 e1192 => ?_
  obtain ⟨S1190, k1191⟩ := S0.call e1192 τ0
  refine ⟨_, rfl, ?_⟩
  obtain rfl := Option.some.inj hp
  exact hq _ S1190.ext'
theorem s_tfTooMany {t : Tf} {ca103 ca104 ca105 : C} {m f : M} {Q : V → M → Prop} {rz : Bool} (hS : Pre f m) (ha103 : Sl f ca103 t.Weeks) (ha104 : Sl f ca104 t.Counts) (ha105 : Sl f ca105 t.Rates) (hp : ptfTooMany t = some rz) (hq : ∀ m', Ext m m' → Q (.c (.bool rz)) m') : Wc prog tbl 83 [.agg 6 [(.int .i64 t.From), (.bool t.Whole), (.int .i64 t.Least), ca103, ca104, ca105]] m Q := by
  have S0 := hS.st
  obtain ⟨τ0, _⟩ : ∃ τ : Nat → Nat, True := ⟨fun _ => 0, trivial⟩
  refine w83 ?_
  unfold ptfTooMany at hp
  intro m0 e1193
  obtain ⟨τ1196, S1194, k1195, L1197⟩ := S0.blk e1193 τ0 1
  refine ⟨trivial, _, L1197.bk.rc rfl, ha103.isSl, ?_⟩
  try rw [ha103.slLen]
  rw [ifB_dec]
  refine ⟨fun q1198 => ?_, fun q1198 => ?_⟩
  · skip
    rw [if_pos q1198] at hp
    obtain rfl := Option.some.inj hp
    exact hq _ S1194.ext'
  · skip
    rw [if_neg q1198] at hp
    refine ⟨trivial, _, L1197.bk.rc rfl, ha104.isSl, ?_⟩
    try rw [ha104.slLen]
    rw [ifB_dec]
    refine ⟨fun q1199 => ?_, fun q1199 => ?_⟩
    · skip
      rw [if_pos q1199] at hp
      obtain rfl := Option.some.inj hp
      exact hq _ S1194.ext'
    · skip
      rw [if_neg q1199] at hp
      refine ⟨trivial, _, L1197.bk.rc rfl, ha105.isSl, ?_⟩
      try rw [ha105.slLen]
      obtain rfl := Option.some.inj hp
      exact hq _ S1194.ext'
theorem s_isNaN {x : Int} {m f : M} {Q : V → M → Prop} {rz : Bool} (hS : Pre f m)  (hp : pisNaN x = some rz) (hq : ∀ m', Ext m m' → Q (.c (.bool rz)) m') : Wc prog tbl 95 [.c (.int .i64 x)] m Q := by
  have S0 := hS.st
  obtain ⟨τ0, _⟩ : ∃ τ : Nat → Nat, True := ⟨fun _ => 0, trivial⟩
  refine w95 ?_
  unfold pisNaN at hp
  obtain rfl := Option.some.inj hp
  exact hq _ S0.ext'
theorem s_sNaN {x : Int} {m f : M} {Q : V → M → Prop} {rz : Bool} (hS : Pre f m)  (hp : psNaN x = some rz) (hq : ∀ m', Ext m m' → Q (.c (.bool rz)) m') : Wc prog tbl 130 [.c (.int .i64 x)] m Q := by
  have S0 := hS.st
  obtain ⟨τ0, _⟩ : ∃ τ : Nat → Nat, True := ⟨fun _ => 0, trivial⟩
  refine w130 ?_
  unfold psNaN at hp
  obtain rfl := Option.some.inj hp
  exact hq _ S0.ext'
theorem s_less {x : Int} {y : Int} {m f : M} {Q : V → M → Prop} {rz : Bool} (hS : Pre f m)  (hp : pless x y = some rz) (hq : ∀ m', Ext m m' → Q (.c (.bool rz)) m') : Wc prog tbl 129 [.c (.int .i64 x), .c (.int .i64 y)] m Q := by
  have S0 := hS.st
  obtain ⟨τ0, _⟩ : ∃ τ : Nat → Nat, True := ⟨fun _ => 0, trivial⟩
  refine w129 ?_
  unfold pless at hp
  obtain ⟨r1226, g1227, hp⟩ := bsome hp
  refine s_isNaN (x := x) S0.pre  g1227 fun m1 e1230 => ?_
  obtain ⟨S1228, k1229⟩ := S0.call e1230 τ0
  refine ⟨_, rfl, ?_⟩
  rw [ifB_iff]
  refine ⟨fun q1231 => ?_, fun q1231 => ?_⟩
  · skip
    rw [if_pos q1231] at hp
    obtain ⟨r1232, g1233, hp⟩ := bsome hp
    refine s_isNaN (x := y) S1228.pre  g1233 fun m4 e1236 => ?_
    obtain ⟨S1234, k1235⟩ := S1228.call e1236 τ0
    refine ⟨_, rfl, ?_⟩
    rw [ifB_iff]
    refine ⟨fun q1237 => ?_, fun q1237 => ?_⟩
    · skip
      rw [bif_neg (by simpa using q1237)] at hp
      obtain rfl := Option.some.inj hp
      exact hq _ S1234.ext'
    · skip
      rw [if_pos (by simpa using q1237)] at hp
      obtain rfl := Option.some.inj hp
      exact hq _ S1234.ext'
  · skip
    rw [bif_neg q1231] at hp
    obtain rfl := Option.some.inj hp
    exact hq _ S1228.ext'
theorem s_bsearch {l : List Int} {x : Int} {ca100 : C} {m f : M} {Q : V → M → Prop} {rz : Int × Bool} (hS : Pre f m) (ha100 : Sl f ca100 l) (hp : pbsearch l x = some rz) (hq : ∀ m', Ext m m' → Q (.tup [.c (.int .i64 rz.1), .c (.bool rz.2)]) m') : Wc prog tbl 116 [.c ca100, .c (.int .i64 x)] m Q := by
  have S0 := hS.st
  obtain ⟨τ0, _⟩ : ∃ τ : Nat → Nat, True := ⟨fun _ => 0, trivial⟩
  refine w116 ?_
  unfold pbsearch at hp
  refine ⟨ha100.isSl, ?_⟩
  intro R0 hR0
  try rw [ha100.slLen]
  have hgo : ∀ (d1255 : Nat) (x1 : Int) (x2 : Int) (m3 : M) (τ1254 : Nat → Nat), St (Fm.of m) f f m3 → pbsearch_L0 l x d1255 x1 x2 = some rz → R0 [.c (.int .i64 x1), .c (.int .i64 x2)] m3 := by
    intro d1255
    induction d1255 with
    | zero => intro x1 x2 m3 τ1254 S1253 hp; cases hp
    | succ d1255 ihR0 =>
      intro x1 x2 m3 τ1254 S1253 hp
      refine hR0 _ _ _ ?_
      rw [pbsearch_L0] at hp
      rw [ifB_dec]
      refine ⟨fun q1256 => ?_, fun q1256 => ?_⟩
      · skip
        rw [if_pos q1256] at hp
        obtain ⟨g1257, hp⟩ := gd_some hp
        refine ⟨g1257, ?_⟩
        obtain ⟨g1258, hp⟩ := gd_some hp
        refine ⟨g1258, ?_⟩
        obtain ⟨g1259, hp⟩ := gd_some hp
        refine ⟨g1259, ?_⟩
        obtain ⟨g1260, hp⟩ := gd_some hp
        refine ⟨g1260, ?_⟩
        obtain ⟨g1261, hp⟩ := gd_some hp
        refine ⟨g1261, ?_⟩
        obtain ⟨x1262, g1263, hp⟩ := bsome hp
        obtain ⟨n4, g1263i, g1263l, g1263⟩ := idx_some g1263
        refine ⟨n4, g1263i, (by first | exact g1263l | (rw [ha100.slLen]; exact g1263l)), _, (ha100.rdI g1263 S1253.sub), ?_⟩
        obtain ⟨r1264, g1265, hp⟩ := bsome hp
        refine s_less (x := x1262) (y := x) S1253.pre  g1265 fun m7 e1268 => ?_
        obtain ⟨S1266, k1267⟩ := S1253.call e1268 τ1254
        refine ⟨_, rfl, ?_⟩
        rw [ifB_iff]
        refine ⟨fun q1269 => ?_, fun q1269 => ?_⟩
        · skip
          rw [if_pos q1269] at hp
          obtain ⟨g1270, hp⟩ := gd_some hp
          refine ⟨g1270, ?_⟩
          exact ihR0 _ _ _ τ1254 S1266 hp
        · skip
          rw [bif_neg q1269] at hp
          exact ihR0 _ _ _ τ1254 S1266 hp
      · skip
        rw [if_neg q1256] at hp
        try rw [ha100.slLen]
        rw [ifB_dec]
        refine ⟨fun q1271 => ?_, fun q1271 => ?_⟩
        · skip
          rw [if_pos q1271] at hp
          obtain ⟨x1272, g1273, hp⟩ := bsome hp
          obtain ⟨n9, g1273i, g1273l, g1273⟩ := idx_some g1273
          refine ⟨n9, g1273i, (by first | exact g1273l | (rw [ha100.slLen]; exact g1273l)), _, (ha100.rdI g1273 S1253.sub), ?_⟩
          rw [ifB_dec]
          refine ⟨fun q1274 => ?_, fun q1274 => ?_⟩
          · skip
            rw [if_pos q1274] at hp
            obtain rfl := Option.some.inj hp
            exact hq _ S1253.ext'
          · skip
            rw [if_neg q1274] at hp
            obtain ⟨x1275, g1276, hp⟩ := bsome hp
            obtain ⟨n11, g1276i, g1276l, g1276⟩ := idx_some g1276
            refine ⟨n11, g1276i, (by first | exact g1276l | (rw [ha100.slLen]; exact g1276l)), _, (ha100.rdI g1276 S1253.sub), ?_⟩
            obtain ⟨r1277, g1278, hp⟩ := bsome hp
            refine s_sNaN (x := x1275) S1253.pre  g1278 fun m14 e1281 => ?_
            obtain ⟨S1279, k1280⟩ := S1253.call e1281 τ1254
            refine ⟨_, rfl, ?_⟩
            rw [ifB_iff]
            refine ⟨fun q1282 => ?_, fun q1282 => ?_⟩
            · skip
              rw [if_pos q1282] at hp
              obtain ⟨r1283, g1284, hp⟩ := bsome hp
              refine s_sNaN (x := x) S1279.pre  g1284 fun m17 e1287 => ?_
              obtain ⟨S1285, k1286⟩ := S1279.call e1287 τ1254
              refine ⟨_, rfl, ?_⟩
              obtain rfl := Option.some.inj hp
              exact hq _ S1285.ext'
            · skip
              rw [bif_neg q1282] at hp
              obtain rfl := Option.some.inj hp
              exact hq _ S1279.ext'
        · skip
          rw [if_neg q1271] at hp
          obtain rfl := Option.some.inj hp
          exact hq _ S1253.ext'
  exact hgo _ _ _ _ τ0 S0 hp
theorem s_last {days : List Int} {day : Int} {ca100 : C} {m f : M} {Q : V → M → Prop} {rz : Int} (hS : Pre f m) (ha100 : Sl f ca100 days) (hp : plast days day = some rz) (hq : ∀ m', Ext m m' → Q (.c (.int .i64 rz)) m') : Wc prog tbl 98 [.c ca100, .c (.int .i64 day)] m Q := by
  have S0 := hS.st
  obtain ⟨τ0, _⟩ : ∃ τ : Nat → Nat, True := ⟨fun _ => 0, trivial⟩
  refine w98 ?_
  unfold plast at hp
  obtain ⟨g1288, hp⟩ := gd_some hp
  refine ⟨g1288, ?_⟩
  obtain ⟨r1289, g1290, hp⟩ := bsome hp
  refine s_bsearch (l := days) (x := (day + (1 : Int))) S0.pre ha100 g1290 fun m1 e1293 => ?_
  obtain ⟨S1291, k1292⟩ := S0.call e1293 τ0
  refine ⟨_, _, rfl, ?_⟩
  obtain ⟨g1294, hp⟩ := gd_some hp
  refine ⟨g1294, ?_⟩
  obtain rfl := Option.some.inj hp
  exact hq _ S1291.ext'
theorem s_tfOf {l : List Tf} {day : Int} {ca100 : C} {m f : M} {Q : V → M → Prop} {rz : Tf} (hS : Pre f m) (ha100 : Sl f ca100 l) (hp : ptfOf l day = some rz) (hq : ∀ m' f' c3 c4 c5, Grw m f m' f' → Sl f' c3 rz.Weeks → Sl f' c4 rz.Counts → Sl f' c5 rz.Rates → Q (.agg 6 [(.int .i64 rz.From), (.bool rz.Whole), (.int .i64 rz.Least), c3, c4, c5]) m') : Wc prog tbl 79 [.c ca100, .c (.int .i64 day)] m Q := by
  have S0 := hS.st
  obtain ⟨τ0, _⟩ : ∃ τ : Nat → Nat, True := ⟨fun _ => 0, trivial⟩
  refine w79 ?_
  unfold ptfOf at hp
  intro m0 e1295
  obtain ⟨τ1298, S1296, k1297, L1299⟩ := S0.blk e1295 τ0 1
  obtain ⟨r1300, g1301, hp⟩ := bsome hp
  refine s_froms (l := l) S1296.pre ha100 g1301 fun m2 f1305 c1306 e1304 h1307 => ?_
  obtain ⟨S1302, k1303⟩ := S1296.callG e1304 τ1298
  have L1308 := L1299.k k1303 (by decide)
  refine ⟨_, rfl, ?_⟩
  obtain ⟨r1309, g1310, hp⟩ := bsome hp
  refine s_last (days := r1300) (day := day) S1302.pre h1307 g1310 fun m5 e1313 => ?_
  obtain ⟨S1311, k1312⟩ := S1302.call e1313 τ1298
  have L1314 := L1308.k k1312 (by decide)
  refine ⟨_, rfl, ?_⟩
  obtain ⟨v1315, g1316, hp⟩ := bsome hp
  obtain ⟨n7, g1316i, g1316l, g1316⟩ := idx_some g1316
  obtain ⟨c1317, c1319, c1321, r1323, h1318, h1320, h1322⟩ := rd_Tf ha100 g1316
  refine ⟨n7, g1316i, (by first | exact g1316l | (rw [ha100.slLen]; exact g1316l)), _, _, _, _, _, _, (r1323 _ (Sub.trans k1303.fs S1311.sub)).1, ?_⟩
  obtain ⟨m1327, e1326, S1324, k1325, L1328⟩ := L1314.sto S1311 [(.int .i64 v1315.From), (.bool v1315.Whole), (.int .i64 v1315.Least), c1317, c1319, c1321]
  refine ⟨m1327, e1326, ?_⟩
  refine ⟨_, _, _, _, _, _, L1328.bk.ra, ?_⟩
  obtain rfl := Option.some.inj hp
  exact hq _ f1305 c1317 c1319 c1321 S1324.grw (h1318.sub k1303.fs) (h1320.sub k1303.fs) (h1322.sub k1303.fs)
theorem s_whole {t : Tf} {loss : Int} {ca103 ca104 ca105 : C} {m f : M} {Q : V → M → Prop} {rz : Int} (hS : Pre f m) (ha103 : Sl f ca103 t.Weeks) (ha104 : Sl f ca104 t.Counts) (ha105 : Sl f ca105 t.Rates) (hp : pwhole t loss = some rz) (hq : ∀ m', Ext m m' → Q (.c (.int .i64 rz)) m') : Wc prog tbl 117 [.agg 6 [(.int .i64 t.From), (.bool t.Whole), (.int .i64 t.Least), ca103, ca104, ca105], .c (.int .i64 loss)] m Q := by
  have S0 := hS.st
  obtain ⟨τ0, _⟩ : ∃ τ : Nat → Nat, True := ⟨fun _ => 0, trivial⟩
  refine w117 ?_
  unfold pwhole at hp
  intro m0 e1329
  obtain ⟨τ1332, S1330, k1331, L1333⟩ := S0.blk e1329 τ0 1
  obtain rfl := Option.some.inj hp
  exact hq _ S1330.ext'
theorem s_aboveLeast {t : Tf} {loss : Int} {ca103 ca104 ca105 : C} {m f : M} {Q : V → M → Prop} {rz : Int} (hS : Pre f m) (ha103 : Sl f ca103 t.Weeks) (ha104 : Sl f ca104 t.Counts) (ha105 : Sl f ca105 t.Rates) (hp : paboveLeast t loss = some rz) (hq : ∀ m', Ext m m' → Q (.c (.int .i64 rz)) m') : Wc prog tbl 118 [.agg 6 [(.int .i64 t.From), (.bool t.Whole), (.int .i64 t.Least), ca103, ca104, ca105], .c (.int .i64 loss)] m Q := by
  have S0 := hS.st
  obtain ⟨τ0, _⟩ : ∃ τ : Nat → Nat, True := ⟨fun _ => 0, trivial⟩
  refine w118 ?_
  unfold paboveLeast at hp
  intro m0 e1334
  obtain ⟨τ1337, S1335, k1336, L1338⟩ := S0.blk e1334 τ0 1
  refine ⟨trivial, _, L1338.bk.rc rfl, ?_⟩
  obtain ⟨g1339, hp⟩ := gd_some hp
  refine ⟨g1339, ?_⟩
  obtain rfl := Option.some.inj hp
  exact hq _ S1335.ext'
theorem s_loss {t : Tf} {h : Ht} {ca103 ca104 ca105 : C} {m f : M} {Q : V → M → Prop} {rz : Int} (hS : Pre f m) (ha103 : Sl f ca103 t.Weeks) (ha104 : Sl f ca104 t.Counts) (ha105 : Sl f ca105 t.Rates) (hp : ploss t h = some rz) (hq : ∀ m', Ext m m' → Q (.c (.int .i64 rz)) m') : Wc prog tbl 99 [.agg 6 [(.int .i64 t.From), (.bool t.Whole), (.int .i64 t.Least), ca103, ca104, ca105], .agg 3 [(.int .i64 h.Day), (.int .i64 h.Count), (.int .i64 h.crop)]] m Q := by
  have S0 := hS.st
  obtain ⟨τ0, _⟩ : ∃ τ : Nat → Nat, True := ⟨fun _ => 0, trivial⟩
  refine w99 ?_
  unfold ploss at hp
  intro m0 e1340
  obtain ⟨τ1343, S1341, k1342, L1344⟩ := S0.blk e1340 τ0 1
  intro m1 e1345
  obtain ⟨τ1348, S1346, k1347, L1349⟩ := S1341.blk e1345 τ1343 2
  have L1350 := L1344.k k1347 (by decide)
  refine ⟨trivial, _, L1350.bk.rc rfl, trivial, _, L1349.bk.rc rfl, ?_⟩
  obtain ⟨v1351, g1352, hp⟩ := bsome hp
  obtain ⟨n4, g1352i, g1352l, g1352⟩ := idx_some g1352
  obtain ⟨c1353, r1354, h1355⟩ := ha105.rdS g1352
  refine ⟨n4, g1352i, (by first | exact g1352l | (rw [ha105.slLen]; exact g1352l)), _, (r1354 _ S1346.sub), trivial, _, L1350.bk.rc rfl, trivial, trivial, _, L1349.bk.rc rfl, ?_⟩
  obtain ⟨r1356, g1357, hp⟩ := bsome hp
  refine s_last (days := t.Weeks) (day := h.Day) S1346.pre ha103 g1357 fun m9 e1360 => ?_
  obtain ⟨S1358, k1359⟩ := S1346.call e1360 τ1348
  have L1361 := L1350.k k1359 (by decide)
  have L1362 := L1349.k k1359 (by decide)
  refine ⟨_, rfl, (by rw [show noFnC _ = true from h1355.noFn]; exact (r1354 _ S1358.sub)), (L1362.bk.rc rfl), (by rw [show noFnC _ = true from ha105.noFn]; exact (L1361.bk.rc rfl)), ?_⟩
  obtain ⟨v1363, g1364, hp⟩ := bsome hp
  obtain ⟨n11, g1364i, g1364l, g1364⟩ := idx_some g1364
  obtain ⟨c1365, r1366, h1367⟩ := h1355.rdS g1364
  refine ⟨n11, g1364i, (by first | exact g1364l | (rw [h1355.slLen]; exact g1364l)), _, (r1366 _ S1358.sub), trivial, _, L1361.bk.rc rfl, trivial, trivial, _, L1362.bk.rc rfl, ?_⟩
  obtain ⟨r1368, g1369, hp⟩ := bsome hp
  refine s_bsearch (l := t.Counts) (x := h.Count) S1358.pre ha104 g1369 fun m16 e1372 => ?_
  obtain ⟨S1370, k1371⟩ := S1358.call e1372 τ1348
  have L1373 := L1361.k k1371 (by decide)
  have L1374 := L1362.k k1371 (by decide)
  refine ⟨_, _, rfl, ?_⟩
  rw [ifB_iff]
  refine ⟨fun q1375 => ?_, fun q1375 => ?_⟩
  · skip
    rw [if_pos q1375] at hp
    obtain ⟨x1376, g1377, hp⟩ := bsome hp
    obtain ⟨n19, g1377i, g1377l, g1377⟩ := idx_some g1377
    refine ⟨n19, g1377i, (by first | exact g1377l | (rw [h1367.slLen]; exact g1377l)), _, (h1367.rdI g1377 S1370.sub), ?_⟩
    obtain rfl := Option.some.inj hp
    exact hq _ S1370.ext'
  · skip
    rw [bif_neg q1375] at hp
    refine ⟨trivial, _, L1373.bk.rc rfl, ?_⟩
    obtain ⟨g1378, hp⟩ := gd_some hp
    refine ⟨g1378, ?_⟩
    obtain ⟨x1379, g1380, hp⟩ := bsome hp
    obtain ⟨n22, g1380i, g1380l, g1380⟩ := idx_some g1380
    refine ⟨n22, g1380i, (by first | exact g1380l | (rw [ha104.slLen]; exact g1380l)), _, (ha104.rdI g1380 S1370.sub), trivial, _, L1373.bk.rc rfl, ?_⟩
    obtain ⟨x1381, g1382, hp⟩ := bsome hp
    obtain ⟨n25, g1382i, g1382l, g1382⟩ := idx_some g1382
    refine ⟨n25, g1382i, (by first | exact g1382l | (rw [ha104.slLen]; exact g1382l)), _, (ha104.rdI g1382 S1370.sub), ?_⟩
    obtain ⟨g1383, hp⟩ := gd_some hp
    refine ⟨g1383, ?_⟩
    obtain ⟨x1384, g1385, hp⟩ := bsome hp
    obtain ⟨n27, g1385i, g1385l, g1385⟩ := idx_some g1385
    refine ⟨n27, g1385i, (by first | exact g1385l | (rw [h1367.slLen]; exact g1385l)), _, (h1367.rdI g1385 S1370.sub), trivial, trivial, _, L1374.bk.rc rfl, ?_⟩
    obtain ⟨g1386, hp⟩ := gd_some hp
    refine ⟨g1386, ?_⟩
    obtain ⟨g1387, hp⟩ := gd_some hp
    refine ⟨g1387, ?_⟩
    obtain ⟨g1388, hp⟩ := gd_some hp
    refine ⟨g1388, ?_⟩
    obtain ⟨g1389, hp⟩ := gd_some hp
    refine ⟨g1389, ?_⟩
    obtain ⟨x1390, g1391, hp⟩ := bsome hp
    obtain ⟨n30, g1391i, g1391l, g1391⟩ := idx_some g1391
    refine ⟨n30, g1391i, (by first | exact g1391l | (rw [h1367.slLen]; exact g1391l)), _, (h1367.rdI g1391 S1370.sub), trivial, trivial, _, L1374.bk.rc rfl, ?_⟩
    obtain ⟨g1392, hp⟩ := gd_some hp
    refine ⟨g1392, ?_⟩
    obtain ⟨g1393, hp⟩ := gd_some hp
    refine ⟨g1393, ?_⟩
    obtain ⟨g1394, hp⟩ := gd_some hp
    refine ⟨g1394, ?_⟩
    obtain ⟨g1395, hp⟩ := gd_some hp
    refine ⟨g1395, ?_⟩
    obtain ⟨g1396, hp⟩ := gd_some hp
    refine ⟨g1396, ?_⟩
    obtain ⟨g1397, hp⟩ := gd_some hp
    refine ⟨g1397, ?_⟩
    obtain ⟨g1398, hp⟩ := gd_some hp
    refine ⟨g1398, ?_⟩
    obtain ⟨g1399, hp⟩ := gd_some hp
    refine ⟨g1399, ?_⟩
    obtain ⟨g1400, hp⟩ := gd_some hp
    refine ⟨g1400, ?_⟩
    obtain rfl := Option.some.inj hp
    exact hq _ S1370.ext'
theorem s_eachTf1 {x : Tf} {passes : Tf → Option (Bool)} {b0 : Nat} {ca103 ca104 ca105 cb000 : C} {m f : M} {Q : V → M → Prop} {rz : Bool} (hS : Pre f m) (ha103 : Sl f ca103 x.Weeks) (ha104 : Sl f ca104 x.Counts) (ha105 : Sl f ca105 x.Rates) (hb0 : Bk f b0 1 [cb000]) (hb000 : Fv_Tf_Bool f cb000 passes) (hp : peachTf1 x passes = some rz) (hq : ∀ m', Ext m m' → Q (.c (.bool rz)) m') : Wc prog tbl 104 [.agg 6 [(.int .i64 x.From), (.bool x.Whole), (.int .i64 x.Least), ca103, ca104, ca105], .c (.ptr b0 0)] m Q := by
  have S0 := hS.st
  obtain ⟨τ0, _⟩ : ∃ τ : Nat → Nat, True := ⟨fun _ => 0, trivial⟩
  refine c104 ?_
  unfold peachTf1 at hp
  intro m0 e1423
  obtain ⟨τ1426, S1424, k1425, L1427⟩ := S0.blk e1423 τ0 1
  refine ⟨_, (hb0.sub S1424.sub).rc rfl, _, _, _, _, _, _, L1427.bk.ra, ?_⟩
  obtain ⟨r1428, g1429, hp⟩ := bsome hp
  refine hb000 _ _ _ _ _ _ _ _ (Sub.refl _) S1424.pre ha103 ha104 ha105 g1429 fun m9 e1432 => ?_
  obtain ⟨S1430, k1431⟩ := S1424.call e1432 τ1426
  have L1433 := L1427.k k1431 (by decide)
  refine ⟨_, rfl, ?_⟩
  obtain rfl := Option.some.inj hp
  exact hq _ S1430.ext'
theorem s_indexTf {l : List Tf} {p : Tf → Option (Bool)} {ca100 ca200 : C} {m f : M} {Q : V → M → Prop} {rz : Int} (hS : Pre f m) (ha100 : Sl f ca100 l) (ha200 : Fv_Tf_Bool f ca200 p) (hp : pindexTf l p = some rz) (hq : ∀ m', Ext m m' → Q (.c (.int .i64 rz)) m') : Wc prog tbl 119 [.c ca100, .c ca200] m Q := by
  have S0 := hS.st
  obtain ⟨τ0, _⟩ : ∃ τ : Nat → Nat, True := ⟨fun _ => 0, trivial⟩
  refine w119 ?_
  unfold pindexTf at hp
  refine ⟨ha100.isSl, ?_⟩
  intro R0 hR0
  have hgo : ∀ (d1436 : Nat) (x1 : Int) (x2 : Int) (m3 : M) (τ1435 : Nat → Nat), St (Fm.of m) f f m3 → pindexTf_L0 l p d1436 x2 = some rz → R0 [.c (.int .i64 x1), .c (.int .i64 x2)] m3 := by
    intro d1436
    induction d1436 with
    | zero => intro x1 x2 m3 τ1435 S1434 hp; cases hp
    | succ d1436 ihR0 =>
      intro x1 x2 m3 τ1435 S1434 hp
      refine hR0 _ _ _ ?_
      rw [pindexTf_L0] at hp
      try rw [ha100.slLen]
      rw [ifB_dec]
      refine ⟨fun q1437 => ?_, fun q1437 => ?_⟩
      · skip
        rw [if_pos q1437] at hp
        obtain ⟨v1438, g1439, hp⟩ := bsome hp
        obtain ⟨n4, g1439i, g1439l, g1439⟩ := idx_some g1439
        obtain ⟨c1440, c1442, c1444, r1446, h1441, h1443, h1445⟩ := rd_Tf ha100 g1439
        refine ⟨n4, g1439i, (by first | exact g1439l | (rw [ha100.slLen]; exact g1439l)), _, _, _, _, _, _, (r1446 _ S1434.sub).1, ?_⟩
        obtain ⟨r1447, g1448, hp⟩ := bsome hp
        refine ha200 _ _ _ _ _ _ _ _ (Sub.refl _) S1434.pre h1441 h1443 h1445 g1448 fun m12 e1451 => ?_
        obtain ⟨S1449, k1450⟩ := S1434.call e1451 τ1435
        refine ⟨_, rfl, ?_⟩
        rw [ifB_iff]
        refine ⟨fun q1452 => ?_, fun q1452 => ?_⟩
        · skip
          rw [if_pos q1452] at hp
          obtain rfl := Option.some.inj hp
          exact hq _ S1449.ext'
        · skip
          rw [bif_neg q1452] at hp
          obtain ⟨g1453, hp⟩ := gd_some hp
          refine ⟨g1453, ?_⟩
          exact ihR0 _ _ _ τ1435 S1449 hp
      · skip
        rw [if_neg q1437] at hp
        obtain rfl := Option.some.inj hp
        exact hq _ S1434.ext'
  exact hgo _ _ _ _ τ0 S0 hp
theorem s_containsTf {l : List Tf} {p : Tf → Option (Bool)} {ca100 ca200 : C} {m f : M} {Q : V → M → Prop} {rz : Bool} (hS : Pre f m) (ha100 : Sl f ca100 l) (ha200 : Fv_Tf_Bool f ca200 p) (hp : pcontainsTf l p = some rz) (hq : ∀ m', Ext m m' → Q (.c (.bool rz)) m') : Wc prog tbl 103 [.c ca100, .c ca200] m Q := by
  have S0 := hS.st
  obtain ⟨τ0, _⟩ : ∃ τ : Nat → Nat, True := ⟨fun _ => 0, trivial⟩
  refine w103 ?_
  unfold pcontainsTf at hp
  obtain ⟨r1454, g1455, hp⟩ := bsome hp
  refine s_indexTf (l := l) (p := p) S0.pre ha100 ha200 g1455 fun m1 e1458 => ?_
  obtain ⟨S1456, k1457⟩ := S0.call e1458 τ0
  refine ⟨_, rfl, ?_⟩
  obtain rfl := Option.some.inj hp
  exact hq _ S1456.ext'
theorem s_eachTf {l : List Tf} {passes : Tf → Option (Bool)} {ca100 ca200 : C} {m f : M} {Q : V → M → Prop} {rz : Bool} (hS : Pre f m) (ha100 : Sl f ca100 l) (ha200 : Fv_Tf_Bool f ca200 passes) (hp : peachTf l passes = some rz) (hq : ∀ m', Ext m m' → Q (.c (.bool rz)) m') : Wc prog tbl 84 [.c ca100, .c ca200] m Q := by
  have S0 := hS.st
  obtain ⟨τ0, _⟩ : ∃ τ : Nat → Nat, True := ⟨fun _ => 0, trivial⟩
  refine w84 ?_
  unfold peachTf at hp
  intro m0 e1459
  obtain ⟨τ1462, S1460, k1461, L1463⟩ := S0.blk e1459 τ0 1
  obtain ⟨f1464, S1465, k1466, hb1467⟩ := L1463.freeze S1460
  have hF1475 : Fv_Tf_Bool f1464 ((C.fn (Fn.func 104) [] [(W.c (C0.ptr m.nxt 0))])) (fun a1468 => peachTf1 a1468 passes) := by
    intro f' m' a1468 c1469 c1471 c1473 r Q hs hpre h1470 h1472 h1474 hg hq
    exact s_eachTf1 hpre h1470 h1472 h1474 (hb1467.sub hs) ((ha200.sub k1466.fs).sub hs) hg hq
  obtain ⟨r1476, g1477, hp⟩ := bsome hp
  refine s_containsTf (l := l) (p := (fun a1468 => peachTf1 a1468 passes)) S1465.pre (ha100.sub k1466.fs) hF1475 g1477 fun m2 e1480 => ?_
  obtain ⟨S1478, k1479⟩ := S1465.call e1480 τ1462
  refine ⟨_, rfl, ?_⟩
  obtain rfl := Option.some.inj hp
  exact hq _ S1478.ext'
theorem s_indexTfs {l : List Tf} {p : Tf → Option (Bool)} {ca100 ca200 : C} {m f : M} {Q : V → M → Prop} {rz : Int} (hS : Pre f m) (ha100 : Sl f ca100 l) (ha200 : Fv_Tf_Bool f ca200 p) (hp : pindexTfs l p = some rz) (hq : ∀ m', Ext m m' → Q (.c (.int .i64 rz)) m') : Wc prog tbl 102 [.c ca100, .c ca200] m Q := by
  have S0 := hS.st
  obtain ⟨τ0, _⟩ : ∃ τ : Nat → Nat, True := ⟨fun _ => 0, trivial⟩
  refine w102 ?_
  unfold pindexTfs at hp
  refine ⟨ha100.isSl, ?_⟩
  intro R0 hR0
  have hgo : ∀ (d1483 : Nat) (x1 : Int) (x2 : Int) (m3 : M) (τ1482 : Nat → Nat), St (Fm.of m) f f m3 → pindexTfs_L0 l p d1483 x2 = some rz → R0 [.c (.int .i64 x1), .c (.int .i64 x2)] m3 := by
    intro d1483
    induction d1483 with
    | zero => intro x1 x2 m3 τ1482 S1481 hp; cases hp
    | succ d1483 ihR0 =>
      intro x1 x2 m3 τ1482 S1481 hp
      refine hR0 _ _ _ ?_
      rw [pindexTfs_L0] at hp
      try rw [ha100.slLen]
      rw [ifB_dec]
      refine ⟨fun q1484 => ?_, fun q1484 => ?_⟩
      · skip
        rw [if_pos q1484] at hp
        obtain ⟨v1485, g1486, hp⟩ := bsome hp
        obtain ⟨n4, g1486i, g1486l, g1486⟩ := idx_some g1486
        obtain ⟨c1487, c1489, c1491, r1493, h1488, h1490, h1492⟩ := rd_Tf ha100 g1486
        refine ⟨n4, g1486i, (by first | exact g1486l | (rw [ha100.slLen]; exact g1486l)), _, _, _, _, _, _, (r1493 _ S1481.sub).1, ?_⟩
        obtain ⟨r1494, g1495, hp⟩ := bsome hp
        refine ha200 _ _ _ _ _ _ _ _ (Sub.refl _) S1481.pre h1488 h1490 h1492 g1495 fun m12 e1498 => ?_
        obtain ⟨S1496, k1497⟩ := S1481.call e1498 τ1482
        refine ⟨_, rfl, ?_⟩
        rw [ifB_iff]
        refine ⟨fun q1499 => ?_, fun q1499 => ?_⟩
        · skip
          rw [if_pos q1499] at hp
          obtain rfl := Option.some.inj hp
          exact hq _ S1496.ext'
        · skip
          rw [bif_neg q1499] at hp
          obtain ⟨g1500, hp⟩ := gd_some hp
          refine ⟨g1500, ?_⟩
          exact ihR0 _ _ _ τ1482 S1496 hp
      · skip
        rw [if_neg q1484] at hp
        obtain rfl := Option.some.inj hp
        exact hq _ S1481.ext'
  exact hgo _ _ _ _ τ0 S0 hp
theorem s_containsTfs {l : List Tf} {p : Tf → Option (Bool)} {ca100 ca200 : C} {m f : M} {Q : V → M → Prop} {rz : Bool} (hS : Pre f m) (ha100 : Sl f ca100 l) (ha200 : Fv_Tf_Bool f ca200 p) (hp : pcontainsTfs l p = some rz) (hq : ∀ m', Ext m m' → Q (.c (.bool rz)) m') : Wc prog tbl 82 [.c ca100, .c ca200] m Q := by
  have S0 := hS.st
  obtain ⟨τ0, _⟩ : ∃ τ : Nat → Nat, True := ⟨fun _ => 0, trivial⟩
  refine w82 ?_
  unfold pcontainsTfs at hp
  obtain ⟨r1501, g1502, hp⟩ := bsome hp
  refine s_indexTfs (l := l) (p := p) S0.pre ha100 ha200 g1502 fun m1 e1505 => ?_
  obtain ⟨S1503, k1504⟩ := S0.call e1505 τ0
  refine ⟨_, rfl, ?_⟩
  obtain rfl := Option.some.inj hp
  exact hq _ S1503.ext'
theorem s_eachI1 {x : Int} {passes : Int → Option (Bool)} {b0 : Nat} {cb000 : C} {m f : M} {Q : V → M → Prop} {rz : Bool} (hS : Pre f m) (hb0 : Bk f b0 1 [cb000]) (hb000 : Fv_Int_Bool f cb000 passes) (hp : peachI1 x passes = some rz) (hq : ∀ m', Ext m m' → Q (.c (.bool rz)) m') : Wc prog tbl 121 [.c (.int .i64 x), .c (.ptr b0 0)] m Q := by
  have S0 := hS.st
  obtain ⟨τ0, _⟩ : ∃ τ : Nat → Nat, True := ⟨fun _ => 0, trivial⟩
  refine c121 ?_
  unfold peachI1 at hp
  refine ⟨_, (hb0.sub S0.sub).rc rfl, ?_⟩
  obtain ⟨r1552, g1553, hp⟩ := bsome hp
  refine hb000 _ _ _ _ _ (Sub.refl _) S0.pre  g1553 fun m2 e1556 => ?_
  obtain ⟨S1554, k1555⟩ := S0.call e1556 τ0
  refine ⟨_, rfl, ?_⟩
  obtain rfl := Option.some.inj hp
  exact hq _ S1554.ext'
theorem s_indexI {l : List Int} {p : Int → Option (Bool)} {ca100 ca200 : C} {m f : M} {Q : V → M → Prop} {rz : Int} (hS : Pre f m) (ha100 : Sl f ca100 l) (ha200 : Fv_Int_Bool f ca200 p) (hp : pindexI l p = some rz) (hq : ∀ m', Ext m m' → Q (.c (.int .i64 rz)) m') : Wc prog tbl 131 [.c ca100, .c ca200] m Q := by
  have S0 := hS.st
  obtain ⟨τ0, _⟩ : ∃ τ : Nat → Nat, True := ⟨fun _ => 0, trivial⟩
  refine w131 ?_
  unfold pindexI at hp
  refine ⟨ha100.isSl, ?_⟩
  intro R0 hR0
  have hgo : ∀ (d1559 : Nat) (x1 : Int) (x2 : Int) (m3 : M) (τ1558 : Nat → Nat), St (Fm.of m) f f m3 → pindexI_L0 l p d1559 x2 = some rz → R0 [.c (.int .i64 x1), .c (.int .i64 x2)] m3 := by
    intro d1559
    induction d1559 with
    | zero => intro x1 x2 m3 τ1558 S1557 hp; cases hp
    | succ d1559 ihR0 =>
      intro x1 x2 m3 τ1558 S1557 hp
      refine hR0 _ _ _ ?_
      rw [pindexI_L0] at hp
      try rw [ha100.slLen]
      rw [ifB_dec]
      refine ⟨fun q1560 => ?_, fun q1560 => ?_⟩
      · skip
        rw [if_pos q1560] at hp
        obtain ⟨x1561, g1562, hp⟩ := bsome hp
        obtain ⟨n4, g1562i, g1562l, g1562⟩ := idx_some g1562
        refine ⟨n4, g1562i, (by first | exact g1562l | (rw [ha100.slLen]; exact g1562l)), _, (ha100.rdI g1562 S1557.sub), ?_⟩
        obtain ⟨r1563, g1564, hp⟩ := bsome hp
        refine ha200 _ _ _ _ _ (Sub.refl _) S1557.pre  g1564 fun m7 e1567 => ?_
        obtain ⟨S1565, k1566⟩ := S1557.call e1567 τ1558
        refine ⟨_, rfl, ?_⟩
        rw [ifB_iff]
        refine ⟨fun q1568 => ?_, fun q1568 => ?_⟩
        · skip
          rw [if_pos q1568] at hp
          obtain rfl := Option.some.inj hp
          exact hq _ S1565.ext'
        · skip
          rw [bif_neg q1568] at hp
          obtain ⟨g1569, hp⟩ := gd_some hp
          refine ⟨g1569, ?_⟩
          exact ihR0 _ _ _ τ1558 S1565 hp
      · skip
        rw [if_neg q1560] at hp
        obtain rfl := Option.some.inj hp
        exact hq _ S1557.ext'
  exact hgo _ _ _ _ τ0 S0 hp
theorem s_containsI {l : List Int} {p : Int → Option (Bool)} {ca100 ca200 : C} {m f : M} {Q : V → M → Prop} {rz : Bool} (hS : Pre f m) (ha100 : Sl f ca100 l) (ha200 : Fv_Int_Bool f ca200 p) (hp : pcontainsI l p = some rz) (hq : ∀ m', Ext m m' → Q (.c (.bool rz)) m') : Wc prog tbl 120 [.c ca100, .c ca200] m Q := by
  have S0 := hS.st
  obtain ⟨τ0, _⟩ : ∃ τ : Nat → Nat, True := ⟨fun _ => 0, trivial⟩
  refine w120 ?_
  unfold pcontainsI at hp
  obtain ⟨r1570, g1571, hp⟩ := bsome hp
  refine s_indexI (l := l) (p := p) S0.pre ha100 ha200 g1571 fun m1 e1574 => ?_
  obtain ⟨S1572, k1573⟩ := S0.call e1574 τ0
  refine ⟨_, rfl, ?_⟩
  obtain rfl := Option.some.inj hp
  exact hq _ S1572.ext'
theorem s_eachI {l : List Int} {passes : Int → Option (Bool)} {ca100 ca200 : C} {m f : M} {Q : V → M → Prop} {rz : Bool} (hS : Pre f m) (ha100 : Sl f ca100 l) (ha200 : Fv_Int_Bool f ca200 passes) (hp : peachI l passes = some rz) (hq : ∀ m', Ext m m' → Q (.c (.bool rz)) m') : Wc prog tbl 106 [.c ca100, .c ca200] m Q := by
  have S0 := hS.st
  obtain ⟨τ0, _⟩ : ∃ τ : Nat → Nat, True := ⟨fun _ => 0, trivial⟩
  refine w106 ?_
  unfold peachI at hp
  intro m0 e1575
  obtain ⟨τ1578, S1576, k1577, L1579⟩ := S0.blk e1575 τ0 1
  obtain ⟨f1580, S1581, k1582, hb1583⟩ := L1579.freeze S1576
  have hF1585 : Fv_Int_Bool f1580 ((C.fn (Fn.func 121) [] [(W.c (C0.ptr m.nxt 0))])) (fun a1584 => peachI1 a1584 passes) := by
    intro f' m' a1584 r Q hs hpre  hg hq
    exact s_eachI1 hpre (hb1583.sub hs) ((ha200.sub k1582.fs).sub hs) hg hq
  obtain ⟨r1586, g1587, hp⟩ := bsome hp
  refine s_containsI (l := l) (p := (fun a1584 => peachI1 a1584 passes)) S1581.pre (ha100.sub k1582.fs) hF1585 g1587 fun m2 e1590 => ?_
  obtain ⟨S1588, k1589⟩ := S1581.call e1590 τ1578
  refine ⟨_, rfl, ?_⟩
  obtain rfl := Option.some.inj hp
  exact hq _ S1588.ext'
theorem s_eachL1 {x : List Int} {passes : List Int → Option (Bool)} {b0 : Nat} {ca100 cb000 : C} {m f : M} {Q : V → M → Prop} {rz : Bool} (hS : Pre f m) (ha100 : Sl f ca100 x) (hb0 : Bk f b0 1 [cb000]) (hb000 : Fv_LInt_Bool f cb000 passes) (hp : peachL1 x passes = some rz) (hq : ∀ m', Ext m m' → Q (.c (.bool rz)) m') : Wc prog tbl 134 [.c ca100, .c (.ptr b0 0)] m Q := by
  have S0 := hS.st
  obtain ⟨τ0, _⟩ : ∃ τ : Nat → Nat, True := ⟨fun _ => 0, trivial⟩
  refine c134 ?_
  unfold peachL1 at hp
  refine ⟨_, (hb0.sub S0.sub).rc rfl, ?_⟩
  obtain ⟨r1591, g1592, hp⟩ := bsome hp
  refine hb000 _ _ _ _ _ _ (Sub.refl _) S0.pre ha100 g1592 fun m2 e1595 => ?_
  obtain ⟨S1593, k1594⟩ := S0.call e1595 τ0
  refine ⟨_, rfl, ?_⟩
  obtain rfl := Option.some.inj hp
  exact hq _ S1593.ext'
theorem s_indexL {l : List (List Int)} {p : List Int → Option (Bool)} {ca100 ca200 : C} {m f : M} {Q : V → M → Prop} {rz : Int} (hS : Pre f m) (ha100 : Sl f ca100 l) (ha200 : Fv_LInt_Bool f ca200 p) (hp : pindexL l p = some rz) (hq : ∀ m', Ext m m' → Q (.c (.int .i64 rz)) m') : Wc prog tbl 135 [.c ca100, .c ca200] m Q := by
  have S0 := hS.st
  obtain ⟨τ0, _⟩ : ∃ τ : Nat → Nat, True := ⟨fun _ => 0, trivial⟩
  refine w135 ?_
  unfold pindexL at hp
  refine ⟨ha100.isSl, ?_⟩
  intro R0 hR0
  have hgo : ∀ (d1598 : Nat) (x1 : Int) (x2 : Int) (m3 : M) (τ1597 : Nat → Nat), St (Fm.of m) f f m3 → pindexL_L0 l p d1598 x2 = some rz → R0 [.c (.int .i64 x1), .c (.int .i64 x2)] m3 := by
    intro d1598
    induction d1598 with
    | zero => intro x1 x2 m3 τ1597 S1596 hp; cases hp
    | succ d1598 ihR0 =>
      intro x1 x2 m3 τ1597 S1596 hp
      refine hR0 _ _ _ ?_
      rw [pindexL_L0] at hp
      try rw [ha100.slLen]
      rw [ifB_dec]
      refine ⟨fun q1599 => ?_, fun q1599 => ?_⟩
      · skip
        rw [if_pos q1599] at hp
        obtain ⟨v1600, g1601, hp⟩ := bsome hp
        obtain ⟨n4, g1601i, g1601l, g1601⟩ := idx_some g1601
        obtain ⟨c1602, r1603, h1604⟩ := ha100.rdS g1601
        refine ⟨n4, g1601i, (by first | exact g1601l | (rw [ha100.slLen]; exact g1601l)), _, (r1603 _ S1596.sub), ?_⟩
        obtain ⟨r1605, g1606, hp⟩ := bsome hp
        refine ha200 _ _ _ _ _ _ (Sub.refl _) S1596.pre h1604 g1606 fun m7 e1609 => ?_
        obtain ⟨S1607, k1608⟩ := S1596.call e1609 τ1597
        refine ⟨_, rfl, ?_⟩
        rw [ifB_iff]
        refine ⟨fun q1610 => ?_, fun q1610 => ?_⟩
        · skip
          rw [if_pos q1610] at hp
          obtain rfl := Option.some.inj hp
          exact hq _ S1607.ext'
        · skip
          rw [bif_neg q1610] at hp
          obtain ⟨g1611, hp⟩ := gd_some hp
          refine ⟨g1611, ?_⟩
          exact ihR0 _ _ _ τ1597 S1607 hp
      · skip
        rw [if_neg q1599] at hp
        obtain rfl := Option.some.inj hp
        exact hq _ S1596.ext'
  exact hgo _ _ _ _ τ0 S0 hp
theorem s_containsL {l : List (List Int)} {p : List Int → Option (Bool)} {ca100 ca200 : C} {m f : M} {Q : V → M → Prop} {rz : Bool} (hS : Pre f m) (ha100 : Sl f ca100 l) (ha200 : Fv_LInt_Bool f ca200 p) (hp : pcontainsL l p = some rz) (hq : ∀ m', Ext m m' → Q (.c (.bool rz)) m') : Wc prog tbl 133 [.c ca100, .c ca200] m Q := by
  have S0 := hS.st
  obtain ⟨τ0, _⟩ : ∃ τ : Nat → Nat, True := ⟨fun _ => 0, trivial⟩
  refine w133 ?_
  unfold pcontainsL at hp
  obtain ⟨r1612, g1613, hp⟩ := bsome hp
  refine s_indexL (l := l) (p := p) S0.pre ha100 ha200 g1613 fun m1 e1616 => ?_
  obtain ⟨S1614, k1615⟩ := S0.call e1616 τ0
  refine ⟨_, rfl, ?_⟩
  obtain rfl := Option.some.inj hp
  exact hq _ S1614.ext'
theorem s_eachL {l : List (List Int)} {passes : List Int → Option (Bool)} {ca100 ca200 : C} {m f : M} {Q : V → M → Prop} {rz : Bool} (hS : Pre f m) (ha100 : Sl f ca100 l) (ha200 : Fv_LInt_Bool f ca200 passes) (hp : peachL l passes = some rz) (hq : ∀ m', Ext m m' → Q (.c (.bool rz)) m') : Wc prog tbl 124 [.c ca100, .c ca200] m Q := by
  have S0 := hS.st
  obtain ⟨τ0, _⟩ : ∃ τ : Nat → Nat, True := ⟨fun _ => 0, trivial⟩
  refine w124 ?_
  unfold peachL at hp
  intro m0 e1617
  obtain ⟨τ1620, S1618, k1619, L1621⟩ := S0.blk e1617 τ0 1
  obtain ⟨f1622, S1623, k1624, hb1625⟩ := L1621.freeze S1618
  have hF1629 : Fv_LInt_Bool f1622 ((C.fn (Fn.func 134) [] [(W.c (C0.ptr m.nxt 0))])) (fun a1626 => peachL1 a1626 passes) := by
    intro f' m' a1626 c1627 r Q hs hpre h1628 hg hq
    exact s_eachL1 hpre h1628 (hb1625.sub hs) ((ha200.sub k1624.fs).sub hs) hg hq
  obtain ⟨r1630, g1631, hp⟩ := bsome hp
  refine s_containsL (l := l) (p := (fun a1626 => peachL1 a1626 passes)) S1623.pre (ha100.sub k1624.fs) hF1629 g1631 fun m2 e1634 => ?_
  obtain ⟨S1632, k1633⟩ := S1623.call e1634 τ1620
  refine ⟨_, rfl, ?_⟩
  obtain rfl := Option.some.inj hp
  exact hq _ S1632.ext'
theorem s_eachLL1 {x : List (List Int)} {passes : List (List Int) → Option (Bool)} {b0 : Nat} {ca100 cb000 : C} {m f : M} {Q : V → M → Prop} {rz : Bool} (hS : Pre f m) (ha100 : Sl f ca100 x) (hb0 : Bk f b0 1 [cb000]) (hb000 : Fv_LLInt_Bool f cb000 passes) (hp : peachLL1 x passes = some rz) (hq : ∀ m', Ext m m' → Q (.c (.bool rz)) m') : Wc prog tbl 123 [.c ca100, .c (.ptr b0 0)] m Q := by
  have S0 := hS.st
  obtain ⟨τ0, _⟩ : ∃ τ : Nat → Nat, True := ⟨fun _ => 0, trivial⟩
  refine c123 ?_
  unfold peachLL1 at hp
  refine ⟨_, (hb0.sub S0.sub).rc rfl, ?_⟩
  obtain ⟨r1635, g1636, hp⟩ := bsome hp
  refine hb000 _ _ _ _ _ _ (Sub.refl _) S0.pre ha100 g1636 fun m2 e1639 => ?_
  obtain ⟨S1637, k1638⟩ := S0.call e1639 τ0
  refine ⟨_, rfl, ?_⟩
  obtain rfl := Option.some.inj hp
  exact hq _ S1637.ext'
theorem s_indexLL {l : List (List (List Int))} {p : List (List Int) → Option (Bool)} {ca100 ca200 : C} {m f : M} {Q : V → M → Prop} {rz : Int} (hS : Pre f m) (ha100 : Sl f ca100 l) (ha200 : Fv_LLInt_Bool f ca200 p) (hp : pindexLL l p = some rz) (hq : ∀ m', Ext m m' → Q (.c (.int .i64 rz)) m') : Wc prog tbl 132 [.c ca100, .c ca200] m Q := by
  have S0 := hS.st
  obtain ⟨τ0, _⟩ : ∃ τ : Nat → Nat, True := ⟨fun _ => 0, trivial⟩
  refine w132 ?_
  unfold pindexLL at hp
  refine ⟨ha100.isSl, ?_⟩
  intro R0 hR0
  have hgo : ∀ (d1642 : Nat) (x1 : Int) (x2 : Int) (m3 : M) (τ1641 : Nat → Nat), St (Fm.of m) f f m3 → pindexLL_L0 l p d1642 x2 = some rz → R0 [.c (.int .i64 x1), .c (.int .i64 x2)] m3 := by
    intro d1642
    induction d1642 with
    | zero => intro x1 x2 m3 τ1641 S1640 hp; cases hp
    | succ d1642 ihR0 =>
      intro x1 x2 m3 τ1641 S1640 hp
      refine hR0 _ _ _ ?_
      rw [pindexLL_L0] at hp
      try rw [ha100.slLen]
      rw [ifB_dec]
      refine ⟨fun q1643 => ?_, fun q1643 => ?_⟩
      · skip
        rw [if_pos q1643] at hp
        obtain ⟨v1644, g1645, hp⟩ := bsome hp
        obtain ⟨n4, g1645i, g1645l, g1645⟩ := idx_some g1645
        obtain ⟨c1646, r1647, h1648⟩ := ha100.rdS g1645
        refine ⟨n4, g1645i, (by first | exact g1645l | (rw [ha100.slLen]; exact g1645l)), _, (r1647 _ S1640.sub), ?_⟩
        obtain ⟨r1649, g1650, hp⟩ := bsome hp
        refine ha200 _ _ _ _ _ _ (Sub.refl _) S1640.pre h1648 g1650 fun m7 e1653 => ?_
        obtain ⟨S1651, k1652⟩ := S1640.call e1653 τ1641
        refine ⟨_, rfl, ?_⟩
        rw [ifB_iff]
        refine ⟨fun q1654 => ?_, fun q1654 => ?_⟩
        · skip
          rw [if_pos q1654] at hp
          obtain rfl := Option.some.inj hp
          exact hq _ S1651.ext'
        · skip
          rw [bif_neg q1654] at hp
          obtain ⟨g1655, hp⟩ := gd_some hp
          refine ⟨g1655, ?_⟩
          exact ihR0 _ _ _ τ1641 S1651 hp
      · skip
        rw [if_neg q1643] at hp
        obtain rfl := Option.some.inj hp
        exact hq _ S1640.ext'
  exact hgo _ _ _ _ τ0 S0 hp
theorem s_containsLL {l : List (List (List Int))} {p : List (List Int) → Option (Bool)} {ca100 ca200 : C} {m f : M} {Q : V → M → Prop} {rz : Bool} (hS : Pre f m) (ha100 : Sl f ca100 l) (ha200 : Fv_LLInt_Bool f ca200 p) (hp : pcontainsLL l p = some rz) (hq : ∀ m', Ext m m' → Q (.c (.bool rz)) m') : Wc prog tbl 122 [.c ca100, .c ca200] m Q := by
  have S0 := hS.st
  obtain ⟨τ0, _⟩ : ∃ τ : Nat → Nat, True := ⟨fun _ => 0, trivial⟩
  refine w122 ?_
  unfold pcontainsLL at hp
  obtain ⟨r1656, g1657, hp⟩ := bsome hp
  refine s_indexLL (l := l) (p := p) S0.pre ha100 ha200 g1657 fun m1 e1660 => ?_
  obtain ⟨S1658, k1659⟩ := S0.call e1660 τ0
  refine ⟨_, rfl, ?_⟩
  obtain rfl := Option.some.inj hp
  exact hq _ S1658.ext'
theorem s_eachLL {l : List (List (List Int))} {passes : List (List Int) → Option (Bool)} {ca100 ca200 : C} {m f : M} {Q : V → M → Prop} {rz : Bool} (hS : Pre f m) (ha100 : Sl f ca100 l) (ha200 : Fv_LLInt_Bool f ca200 passes) (hp : peachLL l passes = some rz) (hq : ∀ m', Ext m m' → Q (.c (.bool rz)) m') : Wc prog tbl 107 [.c ca100, .c ca200] m Q := by
  have S0 := hS.st
  obtain ⟨τ0, _⟩ : ∃ τ : Nat → Nat, True := ⟨fun _ => 0, trivial⟩
  refine w107 ?_
  unfold peachLL at hp
  intro m0 e1661
  obtain ⟨τ1664, S1662, k1663, L1665⟩ := S0.blk e1661 τ0 1
  obtain ⟨f1666, S1667, k1668, hb1669⟩ := L1665.freeze S1662
  have hF1673 : Fv_LLInt_Bool f1666 ((C.fn (Fn.func 123) [] [(W.c (C0.ptr m.nxt 0))])) (fun a1670 => peachLL1 a1670 passes) := by
    intro f' m' a1670 c1671 r Q hs hpre h1672 hg hq
    exact s_eachLL1 hpre h1672 (hb1669.sub hs) ((ha200.sub k1668.fs).sub hs) hg hq
  obtain ⟨r1674, g1675, hp⟩ := bsome hp
  refine s_containsLL (l := l) (p := (fun a1670 => peachLL1 a1670 passes)) S1667.pre (ha100.sub k1668.fs) hF1673 g1675 fun m2 e1678 => ?_
  obtain ⟨S1676, k1677⟩ := S1667.call e1678 τ1664
  refine ⟨_, rfl, ?_⟩
  obtain rfl := Option.some.inj hp
  exact hq _ S1676.ext'
theorem s_validWeek {t : Tf} {rates : List Int} {ca103 ca104 ca105 ca200 : C} {m f : M} {Q : V → M → Prop} {rz : Bool} (hS : Pre f m) (ha103 : Sl f ca103 t.Weeks) (ha104 : Sl f ca104 t.Counts) (ha105 : Sl f ca105 t.Rates) (ha200 : Sl f ca200 rates) (hp : pvalidWeek t rates = some rz) (hq : ∀ m', Ext m m' → Q (.c (.bool rz)) m') : Wc prog tbl 125 [.agg 6 [(.int .i64 t.From), (.bool t.Whole), (.int .i64 t.Least), ca103, ca104, ca105], .c ca200] m Q := by
  have S0 := hS.st
  obtain ⟨τ0, _⟩ : ∃ τ : Nat → Nat, True := ⟨fun _ => 0, trivial⟩
  refine w125 ?_
  unfold pvalidWeek at hp
  intro m0 e1698
  obtain ⟨τ1701, S1699, k1700, L1702⟩ := S0.blk e1698 τ0 1
  refine ⟨ha200.isSl, trivial, _, L1702.bk.rc rfl, ha104.isSl, ?_⟩
  try rw [ha200.slLen]
  try rw [ha104.slLen]
  rw [ifB_dec]
  refine ⟨fun q1703 => ?_, fun q1703 => ?_⟩
  · skip
    rw [if_pos q1703] at hp
    have hF1705 : Fv_Int_Bool f ((C.fn (Fn.func 105) [] [])) (fun a1704 => pisHundredths a1704) := by
      intro f' m' a1704 r Q hs hpre  hg hq
      exact s_isHundredths hpre  hg hq
    obtain ⟨r1706, g1707, hp⟩ := bsome hp
    refine s_eachI (l := rates) (passes := (fun a1704 => pisHundredths a1704)) S1699.pre ha200 hF1705 g1707 fun m3 e1710 => ?_
    obtain ⟨S1708, k1709⟩ := S1699.call e1710 τ1701
    have L1711 := L1702.k k1709 (by decide)
    refine ⟨_, rfl, ?_⟩
    obtain rfl := Option.some.inj hp
    exact hq _ S1708.ext'
  · skip
    rw [if_neg q1703] at hp
    obtain rfl := Option.some.inj hp
    exact hq _ S1699.ext'
theorem s_validCrop {t : Tf} {weeks : List (List Int)} {ca103 ca104 ca105 ca200 : C} {m f : M} {Q : V → M → Prop} {rz : Bool} (hS : Pre f m) (ha103 : Sl f ca103 t.Weeks) (ha104 : Sl f ca104 t.Counts) (ha105 : Sl f ca105 t.Rates) (ha200 : Sl f ca200 weeks) (hp : pvalidCrop t weeks = some rz) (hq : ∀ m', Ext m m' → Q (.c (.bool rz)) m') : Wc prog tbl 108 [.agg 6 [(.int .i64 t.From), (.bool t.Whole), (.int .i64 t.Least), ca103, ca104, ca105], .c ca200] m Q := by
  have S0 := hS.st
  obtain ⟨τ0, _⟩ : ∃ τ : Nat → Nat, True := ⟨fun _ => 0, trivial⟩
  refine w108 ?_
  unfold pvalidCrop at hp
  intro m0 e1712
  obtain ⟨τ1715, S1713, k1714, L1716⟩ := S0.blk e1712 τ0 1
  refine ⟨ha200.isSl, trivial, _, L1716.bk.rc rfl, ha103.isSl, ?_⟩
  try rw [ha200.slLen]
  try rw [ha103.slLen]
  rw [ifB_dec]
  refine ⟨fun q1717 => ?_, fun q1717 => ?_⟩
  · skip
    rw [if_pos q1717] at hp
    refine ⟨_, _, _, _, _, _, L1716.bk.ra, ?_⟩
    obtain ⟨l8, wl8, el8⟩ : ∃ ws, mapO vW [.agg 6 [(.int .i64 t.From), (.bool t.Whole), (.int .i64 t.Least), ca103, ca104, ca105]] = some ws ∧ mapS wV ws = [.agg 6 [(.int .i64 t.From), (.bool t.Whole), (.int .i64 t.Least), ca103, ca104, ca105]] := (vWs_cons (vW_agg (nf_cons rfl (nf_cons rfl (nf_cons rfl (nf_cons ha103.noFn (nf_cons ha104.noFn (nf_cons ha105.noFn nf_nil))))))) vWs_nil)
    rw [wl8, optB_some]
    have hF1721 : Fv_LInt_Bool f ((C.fn (Fn.func 125) l8 [])) (fun a1718 => pvalidWeek t a1718) := by
      intro f' m' a1718 c1719 r Q hs hpre h1720 hg hq
      show Wc prog tbl 125 (appS (mapS wV l8) _) m' Q
      rw [el8]
      exact s_validWeek hpre (ha103.sub hs) (ha104.sub hs) (ha105.sub hs) h1720 hg hq
    obtain ⟨r1722, g1723, hp⟩ := bsome hp
    refine s_eachL (l := weeks) (passes := (fun a1718 => pvalidWeek t a1718)) S1713.pre ha200 hF1721 g1723 fun m10 e1726 => ?_
    obtain ⟨S1724, k1725⟩ := S1713.call e1726 τ1715
    have L1727 := L1716.k k1725 (by decide)
    refine ⟨_, rfl, ?_⟩
    obtain rfl := Option.some.inj hp
    exact hq _ S1724.ext'
  · skip
    rw [if_neg q1717] at hp
    obtain rfl := Option.some.inj hp
    exact hq _ S1713.ext'
theorem s_tfValid {t : Tf} {ca103 ca104 ca105 : C} {m f : M} {Q : V → M → Prop} {rz : Bool} (hS : Pre f m) (ha103 : Sl f ca103 t.Weeks) (ha104 : Sl f ca104 t.Counts) (ha105 : Sl f ca105 t.Rates) (hp : ptfValid t = some rz) (hq : ∀ m', Ext m m' → Q (.c (.bool rz)) m') : Wc prog tbl 85 [.agg 6 [(.int .i64 t.From), (.bool t.Whole), (.int .i64 t.Least), ca103, ca104, ca105]] m Q := by
  have S0 := hS.st
  obtain ⟨τ0, _⟩ : ∃ τ : Nat → Nat, True := ⟨fun _ => 0, trivial⟩
  refine w85 ?_
  unfold ptfValid at hp
  intro m0 e1728
  obtain ⟨τ1731, S1729, k1730, L1732⟩ := S0.blk e1728 τ0 1
  refine ⟨trivial, _, L1732.bk.rc rfl, ?_⟩
  obtain ⟨r1733, g1734, hp⟩ := bsome hp
  refine s_isDay (n := t.From) S1729.pre  g1734 fun m3 e1737 => ?_
  obtain ⟨S1735, k1736⟩ := S1729.call e1737 τ1731
  have L1738 := L1732.k k1736 (by decide)
  refine ⟨_, rfl, ?_⟩
  rw [ifB_iff]
  refine ⟨fun q1739 => ?_, fun q1739 => ?_⟩
  · skip
    rw [if_pos q1739] at hp
    refine ⟨trivial, _, L1738.bk.rc rfl, ?_⟩
    obtain ⟨r1740, g1741, hp⟩ := bsome hp
    refine s_isHundredths (n := t.Least) S1735.pre  g1741 fun m7 e1744 => ?_
    obtain ⟨S1742, k1743⟩ := S1735.call e1744 τ1731
    have L1745 := L1738.k k1743 (by decide)
    refine ⟨_, rfl, ?_⟩
    rw [ifB_iff]
    refine ⟨fun q1746 => ?_, fun q1746 => ?_⟩
    · skip
      rw [if_pos q1746] at hp
      refine ⟨trivial, _, L1745.bk.rc rfl, ?_⟩
      obtain ⟨r1747, g1748, hp⟩ := bsome hp
      refine s_rises (l := t.Weeks) S1742.pre ha103 g1748 fun m11 e1751 => ?_
      obtain ⟨S1749, k1750⟩ := S1742.call e1751 τ1731
      have L1752 := L1745.k k1750 (by decide)
      refine ⟨_, rfl, ?_⟩
      rw [ifB_iff]
      refine ⟨fun q1753 => ?_, fun q1753 => ?_⟩
      · skip
        rw [if_pos q1753] at hp
        refine ⟨trivial, _, L1752.bk.rc rfl, ?_⟩
        have hF1755 : Fv_Int_Bool f ((C.fn (Fn.func 55) [] [])) (fun a1754 => pisDay a1754) := by
          intro f' m' a1754 r Q hs hpre  hg hq
          exact s_isDay hpre  hg hq
        obtain ⟨r1756, g1757, hp⟩ := bsome hp
        refine s_eachI (l := t.Weeks) (passes := (fun a1754 => pisDay a1754)) S1749.pre ha103 hF1755 g1757 fun m15 e1760 => ?_
        obtain ⟨S1758, k1759⟩ := S1749.call e1760 τ1731
        have L1761 := L1752.k k1759 (by decide)
        refine ⟨_, rfl, ?_⟩
        rw [ifB_iff]
        refine ⟨fun q1762 => ?_, fun q1762 => ?_⟩
        · skip
          rw [if_pos q1762] at hp
          refine ⟨trivial, _, L1761.bk.rc rfl, ?_⟩
          obtain ⟨r1763, g1764, hp⟩ := bsome hp
          refine s_rises (l := t.Counts) S1758.pre ha104 g1764 fun m19 e1767 => ?_
          obtain ⟨S1765, k1766⟩ := S1758.call e1767 τ1731
          have L1768 := L1761.k k1766 (by decide)
          refine ⟨_, rfl, ?_⟩
          rw [ifB_iff]
          refine ⟨fun q1769 => ?_, fun q1769 => ?_⟩
          · skip
            rw [if_pos q1769] at hp
            refine ⟨trivial, _, L1768.bk.rc rfl, trivial, _, L1768.bk.rc rfl, ha104.isSl, ?_⟩
            obtain ⟨g1770, hp⟩ := gd_some hp
            refine ⟨(by first | exact g1770 | (rw [ha104.slLen]; exact g1770)), ?_⟩
            obtain ⟨x1771, g1772, hp⟩ := bsome hp
            obtain ⟨n23, g1772i, g1772l, g1772⟩ := idx_some g1772
            refine ⟨n23, (by first | exact g1772i | (rw [ha104.slLen]; exact g1772i)), (by first | exact g1772l | (rw [ha104.slLen]; exact g1772l)), _, (ha104.rdI g1772 S1765.sub), ?_⟩
            rw [ifB_dec]
            refine ⟨fun q1773 => ?_, fun q1773 => ?_⟩
            · skip
              rw [if_pos q1773] at hp
              refine ⟨trivial, _, L1768.bk.rc rfl, ha105.isSl, ?_⟩
              try rw [ha105.slLen]
              rw [ifB_dec]
              refine ⟨fun q1774 => ?_, fun q1774 => ?_⟩
              · skip
                rw [if_pos q1774] at hp
                refine ⟨trivial, _, L1768.bk.rc rfl, _, _, _, _, _, _, L1768.bk.ra, ?_⟩
                obtain ⟨l33, wl33, el33⟩ : ∃ ws, mapO vW [.agg 6 [(.int .i64 t.From), (.bool t.Whole), (.int .i64 t.Least), ca103, ca104, ca105]] = some ws ∧ mapS wV ws = [.agg 6 [(.int .i64 t.From), (.bool t.Whole), (.int .i64 t.Least), ca103, ca104, ca105]] := (vWs_cons (vW_agg (nf_cons rfl (nf_cons rfl (nf_cons rfl (nf_cons ha103.noFn (nf_cons ha104.noFn (nf_cons ha105.noFn nf_nil))))))) vWs_nil)
                rw [wl33, optB_some]
                have hF1778 : Fv_LLInt_Bool f ((C.fn (Fn.func 108) l33 [])) (fun a1775 => pvalidCrop t a1775) := by
                  intro f' m' a1775 c1776 r Q hs hpre h1777 hg hq
                  show Wc prog tbl 108 (appS (mapS wV l33) _) m' Q
                  rw [el33]
                  exact s_validCrop hpre (ha103.sub hs) (ha104.sub hs) (ha105.sub hs) h1777 hg hq
                obtain ⟨r1779, g1780, hp⟩ := bsome hp
                refine s_eachLL (l := t.Rates) (passes := (fun a1775 => pvalidCrop t a1775)) S1765.pre ha105 hF1778 g1780 fun m35 e1783 => ?_
                obtain ⟨S1781, k1782⟩ := S1765.call e1783 τ1731
                have L1784 := L1768.k k1782 (by decide)
                refine ⟨_, rfl, ?_⟩
                obtain rfl := Option.some.inj hp
                exact hq _ S1781.ext'
              · skip
                rw [if_neg q1774] at hp
                obtain rfl := Option.some.inj hp
                exact hq _ S1765.ext'
            · skip
              rw [if_neg q1773] at hp
              obtain rfl := Option.some.inj hp
              exact hq _ S1765.ext'
          · skip
            rw [bif_neg q1769] at hp
            obtain rfl := Option.some.inj hp
            exact hq _ S1765.ext'
        · skip
          rw [bif_neg q1762] at hp
          obtain rfl := Option.some.inj hp
          exact hq _ S1758.ext'
      · skip
        rw [bif_neg q1753] at hp
        obtain rfl := Option.some.inj hp
        exact hq _ S1749.ext'
    · skip
      rw [bif_neg q1746] at hp
      obtain rfl := Option.some.inj hp
      exact hq _ S1742.ext'
  · skip
    rw [bif_neg q1739] at hp
    obtain rfl := Option.some.inj hp
    exact hq _ S1735.ext'
theorem s_tooMany {l : List Tf} {ca100 : C} {m f : M} {Q : V → M → Prop} {rz : Bool} (hS : Pre f m) (ha100 : Sl f ca100 l) (hp : ptooMany l = some rz) (hq : ∀ m', Ext m m' → Q (.c (.bool rz)) m') : Wc prog tbl 60 [.c ca100] m Q := by
  have S0 := hS.st
  obtain ⟨τ0, _⟩ : ∃ τ : Nat → Nat, True := ⟨fun _ => 0, trivial⟩
  refine w60 ?_
  unfold ptooMany at hp
  refine ⟨ha100.isSl, ?_⟩
  try rw [ha100.slLen]
  rw [ifB_dec]
  refine ⟨fun q1785 => ?_, fun q1785 => ?_⟩
  · skip
    rw [if_pos q1785] at hp
    obtain rfl := Option.some.inj hp
    exact hq _ S0.ext'
  · skip
    rw [if_neg q1785] at hp
    have hF1793 : Fv_Tf_Bool f ((C.fn (Fn.func 83) [] [])) (fun a1786 => ptfTooMany a1786) := by
      intro f' m' a1786 c1787 c1789 c1791 r Q hs hpre h1788 h1790 h1792 hg hq
      exact s_tfTooMany hpre h1788 h1790 h1792 hg hq
    obtain ⟨r1794, g1795, hp⟩ := bsome hp
    refine s_containsTfs (l := l) (p := (fun a1786 => ptfTooMany a1786)) S0.pre ha100 hF1793 g1795 fun m1 e1798 => ?_
    obtain ⟨S1796, k1797⟩ := S0.call e1798 τ0
    refine ⟨_, rfl, ?_⟩
    obtain rfl := Option.some.inj hp
    exact hq _ S1796.ext'
theorem s_tfsValid {l : List Tf} {ca100 : C} {m f : M} {Q : V → M → Prop} {rz : Bool} (hS : Pre f m) (ha100 : Sl f ca100 l) (hp : ptfsValid l = some rz) (hq : ∀ m', Ext m m' → Q (.c (.bool rz)) m') : Wc prog tbl 61 [.c ca100] m Q := by
  have S0 := hS.st
  obtain ⟨τ0, _⟩ : ∃ τ : Nat → Nat, True := ⟨fun _ => 0, trivial⟩
  refine w61 ?_
  unfold ptfsValid at hp
  have hF1806 : Fv_Tf_Bool f ((C.fn (Fn.func 85) [] [])) (fun a1799 => ptfValid a1799) := by
    intro f' m' a1799 c1800 c1802 c1804 r Q hs hpre h1801 h1803 h1805 hg hq
    exact s_tfValid hpre h1801 h1803 h1805 hg hq
  obtain ⟨r1807, g1808, hp⟩ := bsome hp
  refine s_eachTf (l := l) (passes := (fun a1799 => ptfValid a1799)) S0.pre ha100 hF1806 g1808 fun m1 e1811 => ?_
  obtain ⟨S1809, k1810⟩ := S0.call e1811 τ0
  refine ⟨_, rfl, ?_⟩
  rw [ifB_iff]
  refine ⟨fun q1812 => ?_, fun q1812 => ?_⟩
  · skip
    rw [if_pos q1812] at hp
    obtain ⟨r1813, g1814, hp⟩ := bsome hp
    refine s_froms (l := l) S1809.pre ha100 g1814 fun m4 f1818 c1819 e1817 h1820 => ?_
    obtain ⟨S1815, k1816⟩ := S1809.callG e1817 τ0
    refine ⟨_, rfl, ?_⟩
    obtain ⟨r1821, g1822, hp⟩ := bsome hp
    refine s_rises (l := r1813) S1815.pre h1820 g1822 fun m7 e1825 => ?_
    obtain ⟨S1823, k1824⟩ := S1815.call e1825 τ0
    refine ⟨_, rfl, ?_⟩
    rw [ifB_iff]
    refine ⟨fun q1826 => ?_, fun q1826 => ?_⟩
    · skip
      rw [if_pos q1826] at hp
      obtain ⟨l9, wl9, el9⟩ : ∃ ws, mapO vW [.c ca100] = some ws ∧ mapS wV ws = [.c ca100] := (vWs_cons (vW_c ha100.noFn) vWs_nil)
      rw [wl9, optB_some]
      have hF1834 : Fv_Tf_Bool f1818 ((C.fn (Fn.func 88) l9 [])) (fun a1827 => psameCrops l a1827) := by
        intro f' m' a1827 c1828 c1830 c1832 r Q hs hpre h1829 h1831 h1833 hg hq
        show Wc prog tbl 88 (appS (mapS wV l9) _) m' Q
        rw [el9]
        exact s_sameCrops hpre ((ha100.sub k1816.fs).sub hs) h1829 h1831 h1833 hg hq
      obtain ⟨r1835, g1836, hp⟩ := bsome hp
      refine s_eachTf (l := l) (passes := (fun a1827 => psameCrops l a1827)) S1823.pre (ha100.sub k1816.fs) hF1834 g1836 fun m11 e1839 => ?_
      obtain ⟨S1837, k1838⟩ := S1823.call e1839 τ0
      refine ⟨_, rfl, ?_⟩
      obtain rfl := Option.some.inj hp
      exact hq _ S1837.ext'
    · skip
      rw [bif_neg q1826] at hp
      obtain rfl := Option.some.inj hp
      exact hq _ S1823.ext'
  · skip
    rw [bif_neg q1812] at hp
    obtain rfl := Option.some.inj hp
    exact hq _ S1809.ext'
theorem s_check {l : List Tf} {ca100 : C} {m f : M} {Q : V → M → Prop} {rz : Int} (hS : Pre f m) (ha100 : Sl f ca100 l) (hp : pcheck l = some rz) (hq : ∀ m', Ext m m' → Q (.c (.int .i64 rz)) m') : Wc prog tbl 21 [.c ca100] m Q := by
  have S0 := hS.st
  obtain ⟨τ0, _⟩ : ∃ τ : Nat → Nat, True := ⟨fun _ => 0, trivial⟩
  refine w21 ?_
  unfold pcheck at hp
  obtain ⟨r1878, g1879, hp⟩ := bsome hp
  refine s_tooMany (l := l) S0.pre ha100 g1879 fun m1 e1882 => ?_
  obtain ⟨S1880, k1881⟩ := S0.call e1882 τ0
  refine ⟨_, rfl, ?_⟩
  rw [ifB_iff]
  refine ⟨fun q1883 => ?_, fun q1883 => ?_⟩
  · skip
    rw [if_pos q1883] at hp
    obtain rfl := Option.some.inj hp
    exact hq _ S1880.ext'
  · skip
    rw [bif_neg q1883] at hp
    obtain ⟨r1884, g1885, hp⟩ := bsome hp
    refine s_tfsValid (l := l) S1880.pre ha100 g1885 fun m4 e1888 => ?_
    obtain ⟨S1886, k1887⟩ := S1880.call e1888 τ0
    refine ⟨_, rfl, ?_⟩
    rw [ifB_iff]
    refine ⟨fun q1889 => ?_, fun q1889 => ?_⟩
    · skip
      rw [bif_neg (by simpa using q1889)] at hp
      obtain rfl := Option.some.inj hp
      exact hq _ S1886.ext'
    · skip
      rw [if_pos (by simpa using q1889)] at hp
      obtain rfl := Option.some.inj hp
      exact hq _ S1886.ext'
theorem s_manner {t : Tf} {ca103 ca104 ca105 : C} {m f : M} {Q : V → M → Prop} {rz : Mnr} (hS : Pre f m) (ha103 : Sl f ca103 t.Weeks) (ha104 : Sl f ca104 t.Counts) (ha105 : Sl f ca105 t.Rates) (hp : pmanner t = some rz) (hq : ∀ m' f' c0, Grw m f m' f' → Fv_Tf_Int_Int f' c0 rz.paid → Q (.agg 1 [c0]) m') : Wc prog tbl 100 [.agg 6 [(.int .i64 t.From), (.bool t.Whole), (.int .i64 t.Least), ca103, ca104, ca105]] m Q := by
  have S0 := hS.st
  obtain ⟨τ0, _⟩ : ∃ τ : Nat → Nat, True := ⟨fun _ => 0, trivial⟩
  refine w100 ?_
  unfold pmanner at hp
  intro m0 e1916
  obtain ⟨τ1919, S1917, k1918, L1920⟩ := S0.blk e1916 τ0 1
  intro m1 e1921
  obtain ⟨τ1924, S1922, k1923, L1925⟩ := S1917.blk e1921 τ1919 2
  have L1926 := L1920.k k1923 (by decide)
  refine ⟨trivial, _, L1926.bk.rc rfl, ?_⟩
  rw [ifB_iff]
  refine ⟨fun q1927 => ?_, fun q1927 => ?_⟩
  · skip
    rw [if_pos q1927] at hp
    obtain ⟨m1931, e1930, S1928, k1929, L1932⟩ := L1925.sto S1922 [(C.fn (Fn.func 117) [] [])]
    have L1933 := L1926.k k1929 (by decide)
    refine ⟨m1931, e1930, ?_⟩
    refine ⟨_, L1932.bk.ra, ?_⟩
    have hF1942 : Fv_Tf_Int_Int f ((C.fn (Fn.func 117) [] [])) (fun a1934 a1935 => pwhole a1934 a1935) := by
      intro f' m' a1934 a1935 c1936 c1938 c1940 r Q hs hpre h1937 h1939 h1941 hg hq
      exact s_whole hpre h1937 h1939 h1941 hg hq
    obtain rfl := Option.some.inj hp
    exact hq _ f (C.fn (Fn.func 117) [] []) S1928.grw hF1942
  · skip
    rw [bif_neg q1927] at hp
    obtain ⟨m1946, e1945, S1943, k1944, L1947⟩ := L1925.sto S1922 [(C.fn (Fn.func 118) [] [])]
    have L1948 := L1926.k k1944 (by decide)
    refine ⟨m1946, e1945, ?_⟩
    refine ⟨_, L1947.bk.ra, ?_⟩
    have hF1957 : Fv_Tf_Int_Int f ((C.fn (Fn.func 118) [] [])) (fun a1949 a1950 => paboveLeast a1949 a1950) := by
      intro f' m' a1949 a1950 c1951 c1953 c1955 r Q hs hpre h1952 h1954 h1956 hg hq
      exact s_aboveLeast hpre h1952 h1954 h1956 hg hq
    obtain rfl := Option.some.inj hp
    exact hq _ f (C.fn (Fn.func 118) [] []) S1943.grw hF1957
theorem s_tfPart {t : Tf} {h : Ht} {ca103 ca104 ca105 : C} {m f : M} {Q : V → M → Prop} {rz : Int} (hS : Pre f m) (ha103 : Sl f ca103 t.Weeks) (ha104 : Sl f ca104 t.Counts) (ha105 : Sl f ca105 t.Rates) (hp : ptfPart t h = some rz) (hq : ∀ m', Ext m m' → Q (.c (.int .i64 rz)) m') : Wc prog tbl 80 [.agg 6 [(.int .i64 t.From), (.bool t.Whole), (.int .i64 t.Least), ca103, ca104, ca105], .agg 3 [(.int .i64 h.Day), (.int .i64 h.Count), (.int .i64 h.crop)]] m Q := by
  have S0 := hS.st
  obtain ⟨τ0, _⟩ : ∃ τ : Nat → Nat, True := ⟨fun _ => 0, trivial⟩
  refine w80 ?_
  unfold ptfPart at hp
  intro m0 e1958
  obtain ⟨τ1961, S1959, k1960, L1962⟩ := S0.blk e1958 τ0 1
  intro m1 e1963
  obtain ⟨τ1966, S1964, k1965, L1967⟩ := S1959.blk e1963 τ1961 2
  have L1968 := L1962.k k1965 (by decide)
  refine ⟨_, _, _, _, _, _, L1968.bk.ra, _, _, _, L1967.bk.ra, ?_⟩
  obtain ⟨r1969, g1970, hp⟩ := bsome hp
  refine s_loss (t := t) (h := h) S1964.pre ha103 ha104 ha105 g1970 fun m12 e1973 => ?_
  obtain ⟨S1971, k1972⟩ := S1964.call e1973 τ1966
  have L1974 := L1968.k k1972 (by decide)
  have L1975 := L1967.k k1972 (by decide)
  refine ⟨_, rfl, trivial, _, L1974.bk.rc rfl, ?_⟩
  rw [ifB_dec]
  refine ⟨fun q1976 => ?_, fun q1976 => ?_⟩
  · skip
    rw [if_pos q1976] at hp
    obtain rfl := Option.some.inj hp
    exact hq _ S1971.ext'
  · skip
    rw [if_neg q1976] at hp
    refine ⟨_, _, _, _, _, _, L1974.bk.ra, ?_⟩
    obtain ⟨r1977, g1978, hp⟩ := bsome hp
    refine s_manner (t := t) S1971.pre ha103 ha104 ha105 g1978 fun m22 f1982 c1983 e1981 h1984 => ?_
    obtain ⟨S1979, k1980⟩ := S1971.callG e1981 τ1966
    have L1985 := L1974.k k1980 (by decide)
    have L1986 := L1975.k k1980 (by decide)
    refine ⟨_, rfl, _, _, _, _, _, _, L1985.bk.ra, (by rw [show allS noFnC _ = true from (nf_cons rfl (nf_cons rfl (nf_cons rfl (nf_cons ha103.noFn (nf_cons ha104.noFn (nf_cons ha105.noFn nf_nil))))))]; exact (L1974.bk.ra)), ?_⟩
    obtain ⟨r1987, g1988, hp⟩ := bsome hp
    refine h1984 _ _ _ _ _ _ _ _ _ (Sub.refl _) S1979.pre (ha103.sub k1980.fs) (ha104.sub k1980.fs) (ha105.sub k1980.fs) g1988 fun m31 e1991 => ?_
    obtain ⟨S1989, k1990⟩ := S1979.call e1991 τ1966
    have L1992 := L1985.k k1990 (by decide)
    have L1993 := L1986.k k1990 (by decide)
    refine ⟨_, rfl, ?_⟩
    obtain rfl := Option.some.inj hp
    exact hq _ S1989.ext'
theorem s_open {l : List Tf} {ca100 : C} {m f : M} {Q : V → M → Prop} {rz : Wk × Int} (hS : Pre f m) (ha100 : Sl f ca100 l) (hp : popen l = some rz) (hq : ∀ m' f' c0 c1, Grw m f m' f' → Sl f' c0 rz.1.tariffs → Mn m f' m' c1 rz.1.parts → Q (.tup [.agg 2 [c0, c1], .c (.int .i64 rz.2)]) m') : Wc prog tbl 53 [.c ca100] m Q := by
  have S0 := hS.st
  obtain ⟨τ0, _⟩ : ∃ τ : Nat → Nat, True := ⟨fun _ => 0, trivial⟩
  refine w53 ?_
  unfold popen at hp
  intro m0 e1994
  obtain ⟨τ1997, S1995, k1996, L1998⟩ := S0.blk e1994 τ0 1
  obtain ⟨r1999, g2000, hp⟩ := bsome hp
  refine s_check (l := l) S1995.pre ha100 g2000 fun m2 e2003 => ?_
  obtain ⟨S2001, k2002⟩ := S1995.call e2003 τ1997
  have L2004 := L1998.k k2002 (by decide)
  refine ⟨_, rfl, ?_⟩
  rw [ifB_ndec]
  refine ⟨fun q2005 => ?_, fun q2005 => ?_⟩
  · skip
    rw [if_neg q2005] at hp
    obtain ⟨m2009, e2008, S2006, k2007, L2010⟩ := L2004.sto S2001 [.sl0, C.map0]
    refine ⟨m2009, e2008, ?_⟩
    refine ⟨_, _, L2010.bk.ra, ?_⟩
    obtain rfl := Option.some.inj hp
    exact hq _ f .sl0 .map0 S2006.grw (Sl.nil _) (Mo.nil _ _ τ1997 _ 0).mn
  · skip
    rw [if_pos q2005] at hp
    intro m7 e2011
    obtain ⟨τ2014, S2012, k2013, M2015⟩ := Mo.new (K := Ht) (V' := Int) S2001 e2011 τ1997 2
    have L2016 := L2004.k k2013 (by decide)
    obtain ⟨m2020, e2019, S2017, k2018, L2021⟩ := L2016.sto S2012 [ca100, (.map m2.nxt)]
    have M2022 := M2015.k k2018 (by decide)
    refine ⟨m2020, e2019, ?_⟩
    refine ⟨_, _, L2021.bk.ra, ?_⟩
    obtain rfl := Option.some.inj hp
    exact hq _ f ca100 (.map m2.nxt) S2017.grw ha100 M2022.mn
theorem s_part {w : Wk} {h : Ht} {ca100 ca101 : C} {m f : M} {Q : V → M → Prop} {rz : Int × Option (Ht → Option (Int))} (hS : Pre f m) (ha100 : Sl f ca100 w.tariffs) (ha101 : Mc f m ca101 w.parts) (hp : ppart w h = some rz) (hq : ∀ m', ExtB ca101 m m' → Mi m' ca101 rz.2 → Q (.c (.int .i64 rz.1)) m') : Wc prog tbl 57 [.agg 2 [ca100, ca101], .agg 3 [(.int .i64 h.Day), (.int .i64 h.Count), (.int .i64 h.crop)]] m Q := by
  have S0 := hS.stM ha101
  obtain ⟨τ0, M0⟩ : ∃ τ, Mo (Fm.mp m ca101) f τ m 1 ca101 w.parts := ⟨_, ha101.mo 1⟩
  refine w57 ?_
  unfold ppart at hp
  intro m0 e2096
  obtain ⟨τ2099, S2097, k2098, L2100⟩ := S0.blk e2096 τ0 2
  have M2101 := M0.k k2098 (by decide)
  intro m1 e2102
  obtain ⟨τ2105, S2103, k2104, L2106⟩ := S2097.blk e2102 τ2099 3
  have L2107 := L2100.k k2104 (by decide)
  have M2108 := M2101.k k2104 (by decide)
  refine ⟨trivial, _, L2107.bk.rc rfl, _, _, _, L2106.bk.ra, ?_⟩
  obtain ⟨g2109, hp⟩ := gd_some hp
  refine ⟨_, M2108.mi.lk kl103 (k := h) g2109 rfl, ?_⟩
  cases hv2110 : (mget w.parts h) with
  | none =>
    rw [mcase_none hv2110] at hp
    refine ⟨fun _ => ?_, fun u hu => (by cases hu)⟩
    refine ⟨trivial, _, L2107.bk.rc rfl, trivial, trivial, _, L2106.bk.rc rfl, ?_⟩
    obtain ⟨r2112, g2113, hp⟩ := bsome hp
    refine s_tfOf (l := w.tariffs) (day := h.Day) S2103.pre ha100 g2113 fun m10 f2117 c2118 c2120 c2122 e2116 h2119 h2121 h2123 => ?_
    obtain ⟨S2114, k2115⟩ := S2103.callG e2116 τ2105
    have L2124 := L2107.k k2115 (by decide)
    have L2125 := L2106.k k2115 (by decide)
    have M2126 := M2108.k k2115 (by decide)
    refine ⟨_, _, _, _, _, _, rfl, _, _, _, L2125.bk.ra, (L2106.bk.ra), ?_⟩
    obtain ⟨r2127, g2128, hp⟩ := bsome hp
    refine s_tfPart (t := r2112) (h := h) S2114.pre h2119 h2121 h2123 g2128 fun m21 e2131 => ?_
    obtain ⟨S2129, k2130⟩ := S2114.call e2131 τ2105
    have L2132 := L2124.k k2130 (by decide)
    have L2133 := L2125.k k2130 (by decide)
    have M2134 := M2126.k k2130 (by decide)
    refine ⟨_, rfl, trivial, _, L2132.bk.rc rfl, _, _, _, L2133.bk.ra, ?_⟩
    obtain ⟨g2135, hp⟩ := gd_some hp
    obtain ⟨w2136, g2137, hp⟩ := bsome hp
    obtain ⟨m2138, e2139, S2140, k2141, M2142⟩ := Mo.up kl103 S2129 M2134 (k := h) g2135 (v := r2127) g2137 (kv := .agg 3 [(.int .i64 h.Day), (.int .i64 h.Count), (.int .i64 h.crop)]) (yv := .c (.int .i64 r2127)) rfl rfl
    have L2143 := L2132.k k2141 (by decide)
    have L2144 := L2133.k k2141 (by decide)
    refine ⟨m2138, e2139, ?_⟩
    obtain rfl := Option.some.inj hp
    exact hq _ S2140.extB M2142.mi
  | some w2111 =>
    rw [mcase_some hv2110] at hp
    refine ⟨fun h => (by cases h), fun u hu => ?_⟩
    obtain rfl := Option.some.inj hu
    refine ⟨_, rfl, ?_⟩
    obtain rfl := Option.some.inj hp
    exact hq _ S2103.extB M2108.mi
theorem s_Part {l : List Tf} {crop : Int} {day : Int} {count : Int} {ca100 : C} {m f : M} {Q : V → M → Prop} {rz : Int × Int} (hS : Pre f m) (ha100 : Sl f ca100 l) (hp : pPart l crop day count = some rz) (hq : ∀ m', Ext m m' → Q (.tup [.c (.int .i64 rz.1), .c (.int .i64 rz.2)]) m') : Wc prog tbl 18 [.c ca100, .c (.int .i64 crop), .c (.int .i64 day), .c (.int .i64 count)] m Q := by
  have S0 := hS.st
  obtain ⟨τ0, _⟩ : ∃ τ : Nat → Nat, True := ⟨fun _ => 0, trivial⟩
  refine w18 ?_
  unfold pPart at hp
  obtain ⟨r2182, g2183, hp⟩ := bsome hp
  refine s_open (l := l) S0.pre ha100 g2183 fun m1 f2187 c2188 c2190 e2186 h2189 h2191 => ?_
  obtain ⟨τ2192, S2184, k2185, M2193⟩ := S0.callN e2186 h2191 τ0 1
  refine ⟨_, _, _, rfl, ?_⟩
  intro m5 e2194
  obtain ⟨τ2197, S2195, k2196, L2198⟩ := S2184.blk e2194 τ2192 2
  have M2199 := M2193.k k2196 (by decide)
  obtain ⟨m2203, e2202, S2200, k2201, L2204⟩ := L2198.sto S2195 [c2188, c2190]
  have M2205 := M2199.k k2201 (by decide)
  refine ⟨m2203, e2202, ?_⟩
  rw [ifB_ndec]
  refine ⟨fun q2206 => ?_, fun q2206 => ?_⟩
  · skip
    rw [if_neg q2206] at hp
    obtain rfl := Option.some.inj hp
    exact hq _ S2200.ext'
  · skip
    rw [if_pos q2206] at hp
    refine ⟨trivial, _, L2204.bk.rc rfl, ?_⟩
    obtain ⟨r2207, g2208, hp⟩ := bsome hp
    refine s_hasCrop (l := r2182.1.tariffs) (n := crop) S2200.pre h2189 g2208 fun m9 e2211 => ?_
    obtain ⟨S2209, k2210⟩ := S2200.call e2211 τ2197
    have L2212 := L2204.k k2210 (by decide)
    have M2213 := M2205.k k2210 (by decide)
    refine ⟨_, rfl, ?_⟩
    rw [ifB_iff]
    refine ⟨fun q2214 => ?_, fun q2214 => ?_⟩
    · skip
      rw [bif_neg (by simpa using q2214)] at hp
      obtain rfl := Option.some.inj hp
      exact hq _ S2209.ext'
    · skip
      rw [if_pos (by simpa using q2214)] at hp
      obtain ⟨r2215, g2216, hp⟩ := bsome hp
      refine s_isDay (n := day) S2209.pre  g2216 fun m12 e2219 => ?_
      obtain ⟨S2217, k2218⟩ := S2209.call e2219 τ2197
      have L2220 := L2212.k k2218 (by decide)
      have M2221 := M2213.k k2218 (by decide)
      refine ⟨_, rfl, ?_⟩
      rw [ifB_iff]
      refine ⟨fun q2222 => ?_, fun q2222 => ?_⟩
      · skip
        rw [bif_neg (by simpa using q2222)] at hp
        obtain rfl := Option.some.inj hp
        exact hq _ S2217.ext'
      · skip
        rw [if_pos (by simpa using q2222)] at hp
        obtain ⟨r2223, g2224, hp⟩ := bsome hp
        refine s_isCount (n := count) S2217.pre  g2224 fun m15 e2227 => ?_
        obtain ⟨S2225, k2226⟩ := S2217.call e2227 τ2197
        have L2228 := L2220.k k2226 (by decide)
        have M2229 := M2221.k k2226 (by decide)
        refine ⟨_, rfl, ?_⟩
        rw [ifB_iff]
        refine ⟨fun q2230 => ?_, fun q2230 => ?_⟩
        · skip
          rw [bif_neg (by simpa using q2230)] at hp
          obtain rfl := Option.some.inj hp
          exact hq _ S2225.ext'
        · skip
          rw [if_pos (by simpa using q2230)] at hp
          refine ⟨_, _, L2228.bk.ra, ?_⟩
          obtain ⟨r2231, g2232, hp⟩ := bsome hp
          refine s_part (w := r2182.1) (h := ({ Day := day, Count := count, crop := crop } : Ht)) S2225.pre h2189 (M2229.mc S2225) g2232 fun m20 e2235 hM2236 => ?_
          obtain ⟨S2233, k2234, M2237⟩ := S2225.callM M2229 e2235 hM2236
          have L2238 := L2228.k k2234 (by decide)
          refine ⟨_, rfl, ?_⟩
          obtain rfl := Option.some.inj hp
          exact hq _ S2233.ext'
theorem s_Least {l : List Tf} {crop : Int} {day : Int} {ca100 : C} {m f : M} {Q : V → M → Prop} {rz : Int × Int} (hS : Pre f m) (ha100 : Sl f ca100 l) (hp : pLeast l crop day = some rz) (hq : ∀ m', Ext m m' → Q (.tup [.c (.int .i64 rz.1), .c (.int .i64 rz.2)]) m') : Wc prog tbl 38 [.c ca100, .c (.int .i64 crop), .c (.int .i64 day)] m Q := by
  have S0 := hS.st
  obtain ⟨τ0, _⟩ : ∃ τ : Nat → Nat, True := ⟨fun _ => 0, trivial⟩
  refine w38 ?_
  unfold pLeast at hp
  obtain ⟨r2334, g2335, hp⟩ := bsome hp
  refine s_open (l := l) S0.pre ha100 g2335 fun m1 f2339 c2340 c2342 e2338 h2341 h2343 => ?_
  obtain ⟨τ2344, S2336, k2337, M2345⟩ := S0.callN e2338 h2343 τ0 1
  refine ⟨_, _, _, rfl, ?_⟩
  intro m5 e2346
  obtain ⟨τ2349, S2347, k2348, L2350⟩ := S2336.blk e2346 τ2344 2
  have M2351 := M2345.k k2348 (by decide)
  obtain ⟨m2355, e2354, S2352, k2353, L2356⟩ := L2350.sto S2347 [c2340, c2342]
  have M2357 := M2351.k k2353 (by decide)
  refine ⟨m2355, e2354, ?_⟩
  rw [ifB_ndec]
  refine ⟨fun q2358 => ?_, fun q2358 => ?_⟩
  · skip
    rw [if_neg q2358] at hp
    obtain rfl := Option.some.inj hp
    exact hq _ S2352.ext'
  · skip
    rw [if_pos q2358] at hp
    refine ⟨trivial, _, L2356.bk.rc rfl, ?_⟩
    obtain ⟨r2359, g2360, hp⟩ := bsome hp
    refine s_hasCrop (l := r2334.1.tariffs) (n := crop) S2352.pre h2341 g2360 fun m9 e2363 => ?_
    obtain ⟨S2361, k2362⟩ := S2352.call e2363 τ2349
    have L2364 := L2356.k k2362 (by decide)
    have M2365 := M2357.k k2362 (by decide)
    refine ⟨_, rfl, ?_⟩
    rw [ifB_iff]
    refine ⟨fun q2366 => ?_, fun q2366 => ?_⟩
    · skip
      rw [bif_neg (by simpa using q2366)] at hp
      obtain rfl := Option.some.inj hp
      exact hq _ S2361.ext'
    · skip
      rw [if_pos (by simpa using q2366)] at hp
      obtain ⟨r2367, g2368, hp⟩ := bsome hp
      refine s_isDay (n := day) S2361.pre  g2368 fun m12 e2371 => ?_
      obtain ⟨S2369, k2370⟩ := S2361.call e2371 τ2349
      have L2372 := L2364.k k2370 (by decide)
      have M2373 := M2365.k k2370 (by decide)
      refine ⟨_, rfl, ?_⟩
      rw [ifB_iff]
      refine ⟨fun q2374 => ?_, fun q2374 => ?_⟩
      · skip
        rw [bif_neg (by simpa using q2374)] at hp
        obtain rfl := Option.some.inj hp
        exact hq _ S2369.ext'
      · skip
        rw [if_pos (by simpa using q2374)] at hp
        intro R14 hR14
        have hgo : ∀ (d2378 : Nat) (x15 : Int) (x16 : Int) (x17 : Int) (w2377 : Option (Ht → Option (Int))) (m18 : M) (τ2376 : Nat → Nat), St (Fm.of m) f f2339 m18 → Lb (Fm.of m) f2339 τ2376 m18 2 m1.nxt 2 [c2340, c2342] → Mo (Fm.of m) f2339 τ2376 m18 1 c2342 w2377 → pLeast_L0 crop day r2334 d2378 w2377 x17 = some rz → R14 [.c (.int .i64 x15), .c (.int .i64 x16), .c (.int .i64 x17)] m18 := by
          intro d2378
          induction d2378 with
          | zero => intro x15 x16 x17 w2377 m18 τ2376 S2375 L2372 M2373 hp; cases hp
          | succ d2378 ihR14 =>
            intro x15 x16 x17 w2377 m18 τ2376 S2375 L2372 M2373 hp
            refine hR14 _ _ _ _ ?_
            rw [pLeast_L0] at hp
            rw [ifB_dec]
            refine ⟨fun q2379 => ?_, fun q2379 => ?_⟩
            · skip
              rw [if_pos q2379] at hp
              refine ⟨_, _, L2372.bk.ra, ?_⟩
              obtain ⟨r2380, g2381, hp⟩ := bsome hp
              refine s_part (w := ({ tariffs := r2334.1.tariffs, parts := w2377 } : Wk)) (h := ({ Day := day, Count := x17, crop := crop } : Ht)) S2375.pre h2341 (M2373.mc S2375) g2381 fun m22 e2384 hM2385 => ?_
              obtain ⟨S2382, k2383, M2386⟩ := S2375.callM M2373 e2384 hM2385
              have L2387 := L2372.k k2383 (by decide)
              refine ⟨_, rfl, ?_⟩
              rw [ifB_dec]
              refine ⟨fun q2388 => ?_, fun q2388 => ?_⟩
              · skip
                rw [if_pos q2388] at hp
                obtain rfl := Option.some.inj hp
                exact hq _ S2382.ext'
              · skip
                rw [if_neg q2388] at hp
                obtain ⟨g2389, hp⟩ := gd_some hp
                refine ⟨g2389, ?_⟩
                exact ihR14 _ _ _ _ _ τ2376 S2382 L2387 M2386 hp
            · skip
              rw [if_neg q2379] at hp
              obtain rfl := Option.some.inj hp
              exact hq _ S2375.ext'
        exact hgo _ _ _ _ _ _ τ2349 S2369 L2372 M2373 hp
theorem s_lTariffs {l : List Tf} {ca100 : C} {m f : M} {Q : V → M → Prop} {rz : List Tf} (hS : Pre f m) (ha100 : Sl f ca100 l) (hp : plTariffs l = some rz) (hq : ∀ m' f' c0, Grw m f m' f' → Sl f' c0 rz → Q (.c c0) m') : Wc prog tbl 19 [.c ca100] m Q := by
  have S0 := hS.st
  obtain ⟨τ0, _⟩ : ∃ τ : Nat → Nat, True := ⟨fun _ => 0, trivial⟩
  refine w19 ?_
  unfold plTariffs at hp
  intro R0 hR0
  have hgo : ∀ (d2395 : Nat) (c1 : C) (x2 : Int) (l2393 : List Tf) (m3 : M) (f2392 : M) (τ2391 : Nat → Nat), St (Fm.of m) f f2392 m3 → Sub f f2392 → Ow (Fm.of m) f2392 τ2391 m3 1 c1 l2393 → plTariffs_L0 l d2395 l2393 x2 = some rz → R0 [.c c1, .c (.int .i64 x2)] m3 := by
    intro d2395
    induction d2395 with
    | zero => intro c1 x2 l2393 m3 f2392 τ2391 S2390 f2392s o2394 hp; cases hp
    | succ d2395 ihR0 =>
      intro c1 x2 l2393 m3 f2392 τ2391 S2390 f2392s o2394 hp
      refine hR0 _ _ _ ?_
      rw [plTariffs_L0] at hp
      refine ⟨ha100.isSl, ?_⟩
      try rw [ha100.slLen]
      rw [ifB_dec]
      refine ⟨fun q2396 => ?_, fun q2396 => ?_⟩
      · skip
        rw [if_pos q2396] at hp
        intro m4 e2397
        obtain ⟨τ2400, S2398, k2399, hz2401⟩ := S2390.growK e2397 τ2391 2
        have o2394 := o2394.k k2399 (by decide)
        have Z2402 := hz2401 0 (by decide)
        obtain ⟨v2403, g2404, hp⟩ := bsome hp
        obtain ⟨n5, g2404i, g2404l, g2404⟩ := idx_some g2404
        obtain ⟨c2405, c2407, c2409, r2411, h2406, h2408, h2410⟩ := rd_Tf ha100 g2404
        refine ⟨n5, g2404i, (by first | exact g2404l | (rw [ha100.slLen]; exact g2404l)), (ha100.isPt g2404 _), _, ((r2411 _ (Sub.trans f2392s S2398.sub)).2.1 0 _ rfl), ?_⟩
        obtain ⟨v2412, g2413, hp⟩ := bsome hp
        obtain ⟨n7, g2413i, g2413l, g2413⟩ := idx_some g2413
        obtain ⟨c2414, c2416, c2418, r2420, h2415, h2417, h2419⟩ := rd_Tf ha100 g2413
        refine ⟨n7, g2413i, (by first | exact g2413l | (rw [ha100.slLen]; exact g2413l)), (ha100.isPt g2413 _), _, ((r2420 _ (Sub.trans f2392s S2398.sub)).2.1 1 _ rfl), ?_⟩
        obtain ⟨v2421, g2422, hp⟩ := bsome hp
        obtain ⟨n9, g2422i, g2422l, g2422⟩ := idx_some g2422
        obtain ⟨c2423, c2425, c2427, r2429, h2424, h2426, h2428⟩ := rd_Tf ha100 g2422
        refine ⟨n9, g2422i, (by first | exact g2422l | (rw [ha100.slLen]; exact g2422l)), (ha100.isPt g2422 _), _, ((r2429 _ (Sub.trans f2392s S2398.sub)).2.1 2 _ rfl), ?_⟩
        obtain ⟨v2430, g2431, hp⟩ := bsome hp
        obtain ⟨n11, g2431i, g2431l, g2431⟩ := idx_some g2431
        obtain ⟨c2432, c2434, c2436, r2438, h2433, h2435, h2437⟩ := rd_Tf ha100 g2431
        refine ⟨n11, g2431i, (by first | exact g2431l | (rw [ha100.slLen]; exact g2431l)), (ha100.isPt g2431 _), _, ((r2438 _ (Sub.trans f2392s S2398.sub)).2.1 3 _ rfl), ?_⟩
        obtain ⟨r2439, g2440, hp⟩ := bsome hp
        refine s_lList (l := v2430.Weeks) S2398.pre (h2433.sub f2392s) g2440 fun m14 f2444 c2445 e2443 h2446 => ?_
        obtain ⟨S2441, k2442⟩ := S2398.callG e2443 τ2400
        have Z2447 := Z2402.k k2442 (by decide)
        have o2394 := o2394.k k2442 (by decide)
        refine ⟨_, rfl, ((r2429 _ (Sub.trans (Sub.trans f2392s k2442.fs) S2441.sub)).2.1 2 _ rfl), ((r2420 _ (Sub.trans (Sub.trans f2392s k2442.fs) S2441.sub)).2.1 1 _ rfl), ((r2411 _ (Sub.trans (Sub.trans f2392s k2442.fs) S2441.sub)).2.1 0 _ rfl), ?_⟩
        obtain ⟨v2448, g2449, hp⟩ := bsome hp
        obtain ⟨n16, g2449i, g2449l, g2449⟩ := idx_some g2449
        obtain ⟨c2450, c2452, c2454, r2456, h2451, h2453, h2455⟩ := rd_Tf ha100 g2449
        refine ⟨n16, g2449i, (by first | exact g2449l | (rw [ha100.slLen]; exact g2449l)), (ha100.isPt g2449 _), _, ((r2456 _ (Sub.trans (Sub.trans f2392s k2442.fs) S2441.sub)).2.1 4 _ rfl), (by rw [show noFnC _ = true from h2453.noFn]; exact ((r2456 _ (Sub.trans f2392s S2398.sub)).2.1 4 _ rfl)), ?_⟩
        obtain ⟨r2457, g2458, hp⟩ := bsome hp
        refine s_lList (l := v2448.Counts) S2441.pre (h2453.sub (Sub.trans f2392s k2442.fs)) g2458 fun m19 f2462 c2463 e2461 h2464 => ?_
        obtain ⟨S2459, k2460⟩ := S2441.callG e2461 τ2400
        have Z2465 := Z2447.k k2460 (by decide)
        have o2394 := o2394.k k2460 (by decide)
        refine ⟨_, rfl, ((r2429 _ (Sub.trans (Sub.trans (Sub.trans f2392s k2442.fs) k2460.fs) S2459.sub)).2.1 2 _ rfl), ((r2420 _ (Sub.trans (Sub.trans (Sub.trans f2392s k2442.fs) k2460.fs) S2459.sub)).2.1 1 _ rfl), ((r2411 _ (Sub.trans (Sub.trans (Sub.trans f2392s k2442.fs) k2460.fs) S2459.sub)).2.1 0 _ rfl), ?_⟩
        intro m21 e2466
        obtain ⟨S2467, k2468, L2469⟩ := Z2465.set S2459 e2466
        have o2394 := o2394.k k2468 (by decide)
        refine ⟨(by rw [show noFnC _ = true from h2453.noFn]; exact ((r2456 _ (Sub.trans (Sub.trans (Sub.trans f2392s k2442.fs) k2460.fs) S2467.sub)).2.1 4 _ rfl)), (by rw [show noFnC _ = true from h2433.noFn]; exact ((r2438 _ (Sub.trans (Sub.trans (Sub.trans f2392s k2442.fs) k2460.fs) S2467.sub)).2.1 3 _ rfl)), ((r2429 _ (Sub.trans (Sub.trans (Sub.trans f2392s k2442.fs) k2460.fs) S2467.sub)).2.1 2 _ rfl), ((r2420 _ (Sub.trans (Sub.trans (Sub.trans f2392s k2442.fs) k2460.fs) S2467.sub)).2.1 1 _ rfl), ((r2411 _ (Sub.trans (Sub.trans (Sub.trans f2392s k2442.fs) k2460.fs) S2467.sub)).2.1 0 _ rfl), ?_⟩
        obtain ⟨m2473, e2472, S2470, k2471, L2474⟩ := L2469.sto S2467 [(.int .i64 v2403.From), (.bool v2412.Whole), (.int .i64 v2421.Least), c2445, c2463, .sl0]
        have o2394 := o2394.k k2471 (by decide)
        refine ⟨m2473, e2472, ?_⟩
        intro R23 hR23
        have hgo : ∀ (d2484 : Nat) (x24 : Int) (c2482 : C) (y2478 : Int) (y2479 : Bool) (y2480 : Int) (y2481 : List (List (List Int))) (m25 : M) (f2477 : M) (τ2476 : Nat → Nat), St (Fm.of m) f f2477 m25 → Sub f2462 f2477 → Lb (Fm.of m) f2477 τ2476 m25 2 (m3.nxt + 0) 6 [(.int .i64 y2478), (.bool y2479), (.int .i64 y2480), c2445, c2463, c2482] → Ow (Fm.of m) f2477 τ2476 m25 3 c2482 y2481 → Ow (Fm.of m) f2477 τ2476 m25 1 c1 l2393 → plTariffs_L1 l l2393 x2 r2439 r2457 (plTariffs_L0 l d2395) d2484 y2478 y2479 y2480 y2481 x24 = some rz → R23 [.c (.int .i64 x24)] m25 := by
          intro d2484
          induction d2484 with
          | zero => intro x24 c2482 y2478 y2479 y2480 y2481 m25 f2477 τ2476 S2475 f2477s L2474 o2483 o2394 hp; cases hp
          | succ d2484 ihR23 =>
            intro x24 c2482 y2478 y2479 y2480 y2481 m25 f2477 τ2476 S2475 f2477s L2474 o2483 o2394 hp
            refine hR23 _ _ ?_
            rw [plTariffs_L1] at hp
            obtain ⟨v2485, g2486, hp⟩ := bsome hp
            obtain ⟨n26, g2486i, g2486l, g2486⟩ := idx_some g2486
            obtain ⟨c2487, c2489, c2491, r2493, h2488, h2490, h2492⟩ := rd_Tf ha100 g2486
            refine ⟨n26, g2486i, (by first | exact g2486l | (rw [ha100.slLen]; exact g2486l)), (ha100.isPt g2486 _), _, ((r2493 _ (Sub.trans (Sub.trans (Sub.trans (Sub.trans f2392s k2442.fs) k2460.fs) f2477s) S2475.sub)).2.1 5 _ rfl), h2492.isSl, ?_⟩
            try rw [h2492.slLen]
            rw [ifB_dec]
            refine ⟨fun q2494 => ?_, fun q2494 => ?_⟩
            · skip
              rw [if_pos q2494] at hp
              intro R28 hR28
              have hgo : ∀ (d2500 : Nat) (c29 : C) (x30 : Int) (l2498 : List (List Int)) (m31 : M) (f2497 : M) (τ2496 : Nat → Nat), St (Fm.of m) f f2497 m31 → Sub f2477 f2497 → Lb (Fm.of m) f2497 τ2496 m31 2 (m3.nxt + 0) 6 [(.int .i64 y2478), (.bool y2479), (.int .i64 y2480), c2445, c2463, c2482] → Ow (Fm.of m) f2497 τ2496 m31 4 c29 l2498 → Ow (Fm.of m) f2497 τ2496 m31 1 c1 l2393 → Ow (Fm.of m) f2497 τ2496 m31 3 c2482 y2481 → plTariffs_L2 l x2 y2478 y2479 y2480 y2481 x24 (plTariffs_L1 l l2393 x2 r2439 r2457 (plTariffs_L0 l d2395) d2484) d2500 l2498 x30 = some rz → R28 [.c c29, .c (.int .i64 x30)] m31 := by
                intro d2500
                induction d2500 with
                | zero => intro c29 x30 l2498 m31 f2497 τ2496 S2495 f2497s L2474 o2499 o2394 o2483 hp; cases hp
                | succ d2500 ihR28 =>
                  intro c29 x30 l2498 m31 f2497 τ2496 S2495 f2497s L2474 o2499 o2394 o2483 hp
                  refine hR28 _ _ _ ?_
                  rw [plTariffs_L2] at hp
                  obtain ⟨v2501, g2502, hp⟩ := bsome hp
                  obtain ⟨n32, g2502i, g2502l, g2502⟩ := idx_some g2502
                  obtain ⟨c2503, c2505, c2507, r2509, h2504, h2506, h2508⟩ := rd_Tf ha100 g2502
                  refine ⟨n32, g2502i, (by first | exact g2502l | (rw [ha100.slLen]; exact g2502l)), (ha100.isPt g2502 _), _, ((r2509 _ (Sub.trans (Sub.trans (Sub.trans (Sub.trans (Sub.trans f2392s k2442.fs) k2460.fs) f2477s) f2497s) S2495.sub)).2.1 5 _ rfl), ?_⟩
                  obtain ⟨v2510, g2511, hp⟩ := bsome hp
                  obtain ⟨n34, g2511i, g2511l, g2511⟩ := idx_some g2511
                  obtain ⟨c2512, r2513, h2514⟩ := h2508.rdS g2511
                  refine ⟨n34, g2511i, (by first | exact g2511l | (rw [h2508.slLen]; exact g2511l)), _, (r2513 _ (Sub.trans (Sub.trans (Sub.trans (Sub.trans (Sub.trans f2392s k2442.fs) k2460.fs) f2477s) f2497s) S2495.sub)), h2514.isSl, ?_⟩
                  try rw [h2514.slLen]
                  rw [ifB_dec]
                  refine ⟨fun q2515 => ?_, fun q2515 => ?_⟩
                  · skip
                    rw [if_pos q2515] at hp
                    obtain ⟨v2516, g2517, hp⟩ := bsome hp
                    obtain ⟨n36, g2517i, g2517l, g2517⟩ := idx_some g2517
                    obtain ⟨c2518, c2520, c2522, r2524, h2519, h2521, h2523⟩ := rd_Tf ha100 g2517
                    refine ⟨n36, g2517i, (by first | exact g2517l | (rw [ha100.slLen]; exact g2517l)), (ha100.isPt g2517 _), _, ((r2524 _ (Sub.trans (Sub.trans (Sub.trans (Sub.trans (Sub.trans f2392s k2442.fs) k2460.fs) f2477s) f2497s) S2495.sub)).2.1 5 _ rfl), ?_⟩
                    obtain ⟨v2525, g2526, hp⟩ := bsome hp
                    obtain ⟨n38, g2526i, g2526l, g2526⟩ := idx_some g2526
                    obtain ⟨c2527, r2528, h2529⟩ := h2523.rdS g2526
                    refine ⟨n38, g2526i, (by first | exact g2526l | (rw [h2523.slLen]; exact g2526l)), _, (r2528 _ (Sub.trans (Sub.trans (Sub.trans (Sub.trans (Sub.trans f2392s k2442.fs) k2460.fs) f2477s) f2497s) S2495.sub)), ?_⟩
                    obtain ⟨v2530, g2531, hp⟩ := bsome hp
                    obtain ⟨n40, g2531i, g2531l, g2531⟩ := idx_some g2531
                    obtain ⟨c2532, r2533, h2534⟩ := h2529.rdS g2531
                    refine ⟨n40, g2531i, (by first | exact g2531l | (rw [h2529.slLen]; exact g2531l)), _, (r2533 _ (Sub.trans (Sub.trans (Sub.trans (Sub.trans (Sub.trans f2392s k2442.fs) k2460.fs) f2477s) f2497s) S2495.sub)), ?_⟩
                    obtain ⟨r2535, g2536, hp⟩ := bsome hp
                    refine s_lList (l := v2530) S2495.pre (h2534.sub (Sub.trans (Sub.trans (Sub.trans (Sub.trans f2392s k2442.fs) k2460.fs) f2477s) f2497s)) g2536 fun m43 f2540 c2541 e2539 h2542 => ?_
                    obtain ⟨S2537, k2538⟩ := S2495.callG e2539 τ2496
                    have L2543 := L2474.k k2538 (by decide)
                    have o2394 := o2394.k k2538 (by decide)
                    have o2483 := o2483.k k2538 (by decide)
                    have o2499 := o2499.k k2538 (by decide)
                    refine ⟨_, rfl, ?_⟩
                    obtain ⟨g2552, hp⟩ := gd_some hp
                    intro m45 e2544
                    obtain ⟨c2548, m2549, τ2547, a2550, S2545, k2546, o2551⟩ := o2499.app' ta77 S2537 (a := r2535) (show Rp.rep (α := List Int) f2540 _ r2535 from ⟨_, rfl, h2542⟩) g2552 e2544
                    have L2553 := L2543.k k2546 (by decide)
                    have o2394 := o2394.k k2546 (by decide)
                    have o2483 := o2483.k k2546 (by decide)
                    refine ⟨c2548, m2549, a2550, ?_⟩
                    obtain ⟨g2554, hp⟩ := gd_some hp
                    refine ⟨g2554, ?_⟩
                    exact ihR28 _ _ _ _ f2540 τ2547 S2545 (Sub.trans f2497s k2538.fs) L2553 o2551 o2394 o2483 hp
                  · skip
                    rw [if_neg q2515] at hp
                    refine ⟨trivial, _, L2474.bk.rc rfl, ?_⟩
                    obtain ⟨f2555, S2556, k2557, h2558⟩ := o2499.freeze S2495
                    have L2559 := L2474.k k2557 (by decide)
                    have o2394 := o2394.k k2557 (by decide)
                    have o2483 := o2483.k k2557 (by decide)
                    obtain ⟨g2568, hp⟩ := gd_some hp
                    intro m49 e2560
                    obtain ⟨c2564, m2565, τ2563, a2566, S2561, k2562, o2567⟩ := o2483.app' ta74 S2556 (a := l2498) (show Rp.rep (α := List (List Int)) f2555 _ l2498 from ⟨_, rfl, h2558⟩) g2568 e2560
                    have L2569 := L2559.k k2562 (by decide)
                    have o2394 := o2394.k k2562 (by decide)
                    refine ⟨c2564, m2565, a2566, ?_⟩
                    refine ⟨trivial, ?_⟩
                    obtain ⟨m2573, e2572, S2570, k2571, L2574⟩ := L2569.sto1 S2561 5 c2564 (by simp) rfl
                    replace L2574 : Lb _ _ _ _ _ _ _ [(.int .i64 y2478), (.bool y2479), (.int .i64 y2480), c2445, c2463, c2564] := L2574
                    have o2394 := o2394.k k2571 (by decide)
                    have o2567 := o2567.k k2571 (by decide)
                    refine ⟨m2573, e2572, ?_⟩
                    obtain ⟨g2575, hp⟩ := gd_some hp
                    refine ⟨g2575, ?_⟩
                    exact ihR23 _ _ _ _ _ _ _ f2555 τ2563 S2570 (Sub.trans (Sub.trans f2477s f2497s) k2557.fs) L2574 o2567 o2394 hp
              exact hgo _ _ _ _ _ f2477 τ2476 S2475 (Sub.refl _) L2474 (Ow.nil _ _ _ _ _) o2394 o2483 hp
            · skip
              rw [if_neg q2494] at hp
              refine ⟨_, _, _, _, _, _, L2474.bk.ra, ?_⟩
              obtain ⟨f2576, S2577, k2578, h2579⟩ := o2483.freeze S2475
              have L2580 := L2474.k k2578 (by decide)
              have o2394 := o2394.k k2578 (by decide)
              obtain ⟨g2589, hp⟩ := gd_some hp
              intro m59 e2581
              obtain ⟨c2585, m2586, τ2584, a2587, S2582, k2583, o2588⟩ := o2394.app' ta28 S2577 (a := ({ From := y2478, Whole := y2479, Least := y2480, Weeks := r2439, Counts := r2457, Rates := y2481 } : Tf)) (show Rp.rep (α := Tf) f2576 _ ({ From := y2478, Whole := y2479, Least := y2480, Weeks := r2439, Counts := r2457, Rates := y2481 } : Tf) from ⟨_, _, _, rfl, (h2446.sub (Sub.trans (Sub.trans k2460.fs f2477s) k2578.fs)), (h2464.sub (Sub.trans f2477s k2578.fs)), h2579⟩) g2589 e2581
              have L2590 := L2580.k k2583 (by decide)
              refine ⟨c2585, m2586, a2587, ?_⟩
              obtain ⟨g2591, hp⟩ := gd_some hp
              refine ⟨g2591, ?_⟩
              exact ihR0 _ _ _ _ f2576 τ2584 S2582 (Sub.trans (Sub.trans (Sub.trans (Sub.trans f2392s k2442.fs) k2460.fs) f2477s) k2578.fs) o2588 hp
        exact hgo _ _ _ _ _ _ _ _ f2462 τ2400 S2470 (Sub.refl _) L2474 (Ow.nil _ _ _ _ _) o2394 hp
      · skip
        rw [if_neg q2396] at hp
        obtain ⟨f2592, S2593, k2594, h2595⟩ := o2394.freeze S2390
        obtain rfl := Option.some.inj hp
        exact hq _ f2592 c1 S2593.grw h2595
  exact hgo _ _ _ _ _ f τ0 S0 (Sub.refl _) (Ow.nil _ _ _ _ _) hp
theorem s_TariffMore {l : List Tf} {crop : Int} {day : Int} {count : Int} {more : Int} {ca100 : C} {m f : M} {Q : V → M → Prop} {rz : Bool} (hS : Pre f m) (ha100 : Sl f ca100 l) (hp : pTariffMore l crop day count more = some rz) (hq : ∀ m', Ext m m' → Q (.c (.bool rz)) m') : Wc prog tbl 10 [.c ca100, .c (.int .u8 crop), .c (.int .u8 day), .c (.int .u8 count), .c (.int .u8 more)] m Q := by
  have S0 := hS.st
  obtain ⟨τ0, _⟩ : ∃ τ : Nat → Nat, True := ⟨fun _ => 0, trivial⟩
  refine w10 ?_
  unfold pTariffMore at hp
  obtain ⟨r2991, g2992, hp⟩ := bsome hp
  refine s_lReady (l := l) S0.pre ha100 g2992 fun m1 e2995 => ?_
  obtain ⟨S2993, k2994⟩ := S0.call e2995 τ0
  refine ⟨_, rfl, ?_⟩
  rw [ifB_iff]
  refine ⟨fun q2996 => ?_, fun q2996 => ?_⟩
  · skip
    rw [bif_neg (by simpa using q2996)] at hp
    obtain ⟨r2997, g2998, hp⟩ := bsome hp
    refine s_awake S2993.pre  g2998 fun m4 e3001 => ?_
    obtain ⟨S2999, k3000⟩ := S2993.call e3001 τ0
    refine ⟨_, rfl, ?_⟩
    obtain rfl := Option.some.inj hp
    exact hq _ S2999.ext'
  · skip
    rw [if_pos (by simpa using q2996)] at hp
    obtain ⟨r3002, g3003, hp⟩ := bsome hp
    refine s_rCrops (l := l) S2993.pre ha100 g3003 fun m7 e3006 => ?_
    obtain ⟨S3004, k3005⟩ := S2993.call e3006 τ0
    refine ⟨_, rfl, ?_⟩
    obtain ⟨g3007, hp⟩ := gd_some hp
    refine ⟨g3007, ?_⟩
    obtain ⟨g3008, hp⟩ := gd_some hp
    refine ⟨g3008, ?_⟩
    obtain ⟨g3009, hp⟩ := gd_some hp
    refine ⟨g3009, ?_⟩
    obtain ⟨g3010, hp⟩ := gd_some hp
    refine ⟨g3010, ?_⟩
    obtain ⟨g3011, hp⟩ := gd_some hp
    refine ⟨g3011, ?_⟩
    obtain ⟨g3012, hp⟩ := gd_some hp
    refine ⟨g3012, ?_⟩
    obtain ⟨g3013, hp⟩ := gd_some hp
    refine ⟨g3013, ?_⟩
    obtain ⟨g3014, hp⟩ := gd_some hp
    refine ⟨g3014, ?_⟩
    obtain ⟨g3015, hp⟩ := gd_some hp
    refine ⟨g3015, ?_⟩
    obtain ⟨r3016, g3017, hp⟩ := bsome hp
    refine s_rOf (l := l) (day := ((wrapZ .i64 day) % (121 : Int))) S3004.pre ha100 g3017 fun m10 f3021 c3022 c3024 c3026 e3020 h3023 h3025 h3027 => ?_
    obtain ⟨S3018, k3019⟩ := S3004.callG e3020 τ0
    refine ⟨_, _, _, _, _, _, rfl, ?_⟩
    intro m17 e3028
    obtain ⟨τ3031, S3029, k3030, L3032⟩ := S3018.blk e3028 τ0 1
    obtain ⟨m3036, e3035, S3033, k3034, L3037⟩ := L3032.sto S3029 [(.int .i64 r3016.From), (.bool r3016.Whole), (.int .i64 r3016.Least), c3022, c3024, c3026]
    refine ⟨m3036, e3035, ?_⟩
    refine ⟨trivial, _, L3037.bk.rc rfl, ?_⟩
    obtain ⟨v3038, g3039, hp⟩ := bsome hp
    obtain ⟨n20, g3039i, g3039l, g3039⟩ := idx_some g3039
    obtain ⟨c3040, r3041, h3042⟩ := h3027.rdS g3039
    refine ⟨n20, g3039i, (by first | exact g3039l | (rw [h3027.slLen]; exact g3039l)), _, (r3041 _ S3033.sub), trivial, _, L3037.bk.rc rfl, ?_⟩
    obtain ⟨r3043, g3044, hp⟩ := bsome hp
    refine s_rLast (l := r3016.Weeks) (n := ((wrapZ .i64 day) % (121 : Int))) S3033.pre h3023 g3044 fun m24 e3047 => ?_
    obtain ⟨S3045, k3046⟩ := S3033.call e3047 τ3031
    have L3048 := L3037.k k3046 (by decide)
    refine ⟨_, rfl, (by rw [show noFnC _ = true from h3042.noFn]; exact (r3041 _ S3045.sub)), (by rw [show noFnC _ = true from h3027.noFn]; exact (L3048.bk.rc rfl)), ?_⟩
    obtain ⟨v3049, g3050, hp⟩ := bsome hp
    obtain ⟨n26, g3050i, g3050l, g3050⟩ := idx_some g3050
    obtain ⟨c3051, r3052, h3053⟩ := h3042.rdS g3050
    refine ⟨n26, g3050i, (by first | exact g3050l | (rw [h3042.slLen]; exact g3050l)), _, (r3052 _ S3045.sub), ?_⟩
    obtain ⟨r3054, g3055, hp⟩ := bsome hp
    refine s_rRise (l := v3049) (out := (0 : Int)) S3045.pre h3053 g3055 fun m29 e3058 => ?_
    obtain ⟨S3056, k3057⟩ := S3045.call e3058 τ3031
    have L3059 := L3048.k k3057 (by decide)
    refine ⟨_, rfl, ?_⟩
    rw [ifB_iff]
    refine ⟨fun q3060 => ?_, fun q3060 => ?_⟩
    · skip
      rw [bif_neg (by simpa using q3060)] at hp
      obtain ⟨r3061, g3062, hp⟩ := bsome hp
      refine s_awake S3056.pre  g3062 fun m32 e3065 => ?_
      obtain ⟨S3063, k3064⟩ := S3056.call e3065 τ3031
      have L3066 := L3059.k k3064 (by decide)
      refine ⟨_, rfl, ?_⟩
      obtain rfl := Option.some.inj hp
      exact hq _ S3063.ext'
    · skip
      rw [if_pos (by simpa using q3060)] at hp
      obtain ⟨g3067, hp⟩ := gd_some hp
      refine ⟨g3067, ?_⟩
      obtain ⟨r3068, g3069, hp⟩ := bsome hp
      refine s_lTariffs (l := l) S3056.pre (ha100.sub k3019.fs) g3069 fun m35 f3073 c3074 e3072 h3075 => ?_
      obtain ⟨S3070, k3071⟩ := S3056.callG e3072 τ3031
      have L3076 := L3059.k k3071 (by decide)
      refine ⟨_, rfl, ?_⟩
      obtain ⟨r3077, g3078, hp⟩ := bsome hp
      refine s_Part (l := r3068) (crop := ((wrapZ .i64 crop) % r3002)) (day := ((wrapZ .i64 day) % (121 : Int))) (count := ((wrapZ .i64 count) % (101 : Int))) S3070.pre h3075 g3078 fun m38 e3081 => ?_
      obtain ⟨S3079, k3080⟩ := S3070.call e3081 τ3031
      have L3082 := L3076.k k3080 (by decide)
      refine ⟨_, _, rfl, ?_⟩
      obtain ⟨r3083, g3084, hp⟩ := bsome hp
      refine s_lTariffs (l := l) S3079.pre (ha100.sub (Sub.trans k3019.fs k3071.fs)) g3084 fun m42 f3088 c3089 e3087 h3090 => ?_
      obtain ⟨S3085, k3086⟩ := S3079.callG e3087 τ3031
      have L3091 := L3082.k k3086 (by decide)
      refine ⟨_, rfl, ?_⟩
      obtain ⟨r3092, g3093, hp⟩ := bsome hp
      refine s_Part (l := r3083) (crop := ((wrapZ .i64 crop) % r3002)) (day := ((wrapZ .i64 day) % (121 : Int))) (count := (min (100 : Int) (((wrapZ .i64 count) % (101 : Int)) + (wrapZ .i64 more)))) S3085.pre h3090 g3093 fun m45 e3096 => ?_
      obtain ⟨S3094, k3095⟩ := S3085.call e3096 τ3031
      have L3097 := L3091.k k3095 (by decide)
      refine ⟨_, _, rfl, ?_⟩
      obtain ⟨r3098, g3099, hp⟩ := bsome hp
      refine s_lTariffs (l := l) S3094.pre (ha100.sub (Sub.trans (Sub.trans k3019.fs k3071.fs) k3086.fs)) g3099 fun m49 f3103 c3104 e3102 h3105 => ?_
      obtain ⟨S3100, k3101⟩ := S3094.callG e3102 τ3031
      have L3106 := L3097.k k3101 (by decide)
      refine ⟨_, rfl, ?_⟩
      obtain ⟨r3107, g3108, hp⟩ := bsome hp
      refine s_Least (l := r3098) (crop := ((wrapZ .i64 crop) % r3002)) (day := ((wrapZ .i64 day) % (121 : Int))) S3100.pre h3105 g3108 fun m52 e3111 => ?_
      obtain ⟨S3109, k3110⟩ := S3100.call e3111 τ3031
      have L3112 := L3106.k k3110 (by decide)
      refine ⟨_, _, rfl, ?_⟩
      rw [ifB_ndec]
      refine ⟨fun q3113 => ?_, fun q3113 => ?_⟩
      · skip
        rw [if_neg q3113] at hp
        obtain rfl := Option.some.inj hp
        exact hq _ S3109.ext'
      · skip
        rw [if_pos q3113] at hp
        rw [ifB_ndec]
        refine ⟨fun q3114 => ?_, fun q3114 => ?_⟩
        · skip
          rw [if_neg q3114] at hp
          obtain rfl := Option.some.inj hp
          exact hq _ S3109.ext'
        · skip
          rw [if_pos q3114] at hp
          rw [ifB_dec]
          refine ⟨fun q3115 => ?_, fun q3115 => ?_⟩
          · skip
            rw [if_pos q3115] at hp
            obtain rfl := Option.some.inj hp
            exact hq _ S3109.ext'
          · skip
            rw [if_neg q3115] at hp
            rw [ifB_ndec]
            refine ⟨fun q3116 => ?_, fun q3116 => ?_⟩
            · skip
              rw [if_neg q3116] at hp
              rw [ifB_ndec]
              refine ⟨fun q3117 => ?_, fun q3117 => ?_⟩
              · skip
                rw [if_neg q3117] at hp
                obtain rfl := Option.some.inj hp
                exact hq _ S3109.ext'
              · skip
                rw [if_pos q3117] at hp
                rw [ifB_dec]
                refine ⟨fun q3118 => ?_, fun q3118 => ?_⟩
                · skip
                  rw [if_pos q3118] at hp
                  rw [ifB_iff]
                  refine ⟨fun q3119 => ?_, fun q3119 => ?_⟩
                  · skip
                    rw [if_pos q3119] at hp
                    obtain ⟨r3120, g3121, hp⟩ := bsome hp
                    refine s_awake S3109.pre  g3121 fun m56 e3124 => ?_
                    obtain ⟨S3122, k3123⟩ := S3109.call e3124 τ3031
                    have L3125 := L3112.k k3123 (by decide)
                    refine ⟨_, rfl, ?_⟩
                    obtain rfl := Option.some.inj hp
                    exact hq _ S3122.ext'
                  · skip
                    rw [bif_neg q3119] at hp
                    obtain rfl := Option.some.inj hp
                    exact hq _ S3109.ext'
                · skip
                  rw [if_neg q3118] at hp
                  rw [ifB_iff]
                  refine ⟨fun q3126 => ?_, fun q3126 => ?_⟩
                  · skip
                    rw [if_pos q3126] at hp
                    obtain ⟨r3127, g3128, hp⟩ := bsome hp
                    refine s_awake S3109.pre  g3128 fun m59 e3131 => ?_
                    obtain ⟨S3129, k3130⟩ := S3109.call e3131 τ3031
                    have L3132 := L3112.k k3130 (by decide)
                    refine ⟨_, rfl, ?_⟩
                    obtain rfl := Option.some.inj hp
                    exact hq _ S3129.ext'
                  · skip
                    rw [bif_neg q3126] at hp
                    obtain rfl := Option.some.inj hp
                    exact hq _ S3109.ext'
            · skip
              rw [if_pos q3116] at hp
              rw [ifB_dec]
              refine ⟨fun q3133 => ?_, fun q3133 => ?_⟩
              · skip
                rw [if_pos q3133] at hp
                rw [ifB_iff]
                refine ⟨fun q3134 => ?_, fun q3134 => ?_⟩
                · skip
                  rw [if_pos q3134] at hp
                  obtain ⟨r3135, g3136, hp⟩ := bsome hp
                  refine s_awake S3109.pre  g3136 fun m62 e3139 => ?_
                  obtain ⟨S3137, k3138⟩ := S3109.call e3139 τ3031
                  have L3140 := L3112.k k3138 (by decide)
                  refine ⟨_, rfl, ?_⟩
                  obtain rfl := Option.some.inj hp
                  exact hq _ S3137.ext'
                · skip
                  rw [bif_neg q3134] at hp
                  obtain rfl := Option.some.inj hp
                  exact hq _ S3109.ext'
              · skip
                rw [if_neg q3133] at hp
                rw [ifB_iff]
                refine ⟨fun q3141 => ?_, fun q3141 => ?_⟩
                · skip
                  rw [if_pos q3141] at hp
                  obtain ⟨r3142, g3143, hp⟩ := bsome hp
                  refine s_awake S3109.pre  g3143 fun m65 e3146 => ?_
                  obtain ⟨S3144, k3145⟩ := S3109.call e3146 τ3031
                  have L3147 := L3112.k k3145 (by decide)
                  refine ⟨_, rfl, ?_⟩
                  obtain rfl := Option.some.inj hp
                  exact hq _ S3144.ext'
                · skip
                  rw [bif_neg q3141] at hp
                  obtain rfl := Option.some.inj hp
                  exact hq _ S3109.ext'
end
end Go.Proofs.Ytbhdgedghfibcaa

namespace Go.Abs
set_option maxRecDepth 100000
noncomputable section
theorem fI {n : Int} (h : -9223372036854775808 ≤ n ∧ n < 9223372036854775808) : fitsP .i64 n := h
theorem fU8 {n : Int} (h : fitsP .u8 n) : 0 ≤ n ∧ n < 256 := h
theorem wz {k : IntKind} {n : Int} (h : fitsP k n) : wrapZ k n = n := by unfold wrapZ; rw [fits_of h]; rfl
theorem idx_at {α : Type} {l : List α} {k : Nat} {a : α} (h : l[k]? = some a) : idx l (k : Int) = some a := by rw [idx_nat]; exact h
theorem idx_get {α : Type} {l : List α} {i : Int} {k : Nat} (hi : i = (k : Int)) (h : k < l.length) : idx l i = some l[k] := by subst hi; rw [idx_nat, List.getElem?_eq_getElem h]
theorem idx_pred {α : Type} {l : List α} {k : Nat} {a : α} (hk : 0 < k) (h : l[k - 1]? = some a) : idx l ((k : Int) - 1) = some a := by rw [show (k : Int) - 1 = ((k - 1 : Nat) : Int) by omega]; exact idx_at h
theorem idx_zero {α : Type} {l : List α} {a : α} (h : l[0]? = some a) : idx l (0 : Int) = some a := idx_at (k := 0) h
/-- a truth value that says P -/
def Ev (o : Option Bool) (P : Prop) : Prop := ∃ b, o = some b ∧ (b = true ↔ P)
namespace Ev
variable {o k : Option Bool} {P K : Prop}
theorem dec {p : Prop} [Decidable p] (h : p ↔ P) : Ev (some (decide p)) P := ⟨_, rfl, decide_eq_true_iff.trans h⟩
theorem ff (h : ¬ P) : Ev (some false) P := ⟨false, rfl, ⟨fun h => (by cases h), fun h' => absurd h' h⟩⟩
theorem tt (h : P) : Ev (some true) P := ⟨true, rfl, ⟨fun _ => h, fun _ => rfl⟩⟩
theorem imp (h : Ev o P) (hp : P ↔ K) : Ev o K := by obtain ⟨b, h1, h2⟩ := h; exact ⟨b, h1, h2.trans hp⟩
theorem ret (h : Ev o P) : Ev (o.bind fun r => some r) P := by obtain ⟨b, h1, h2⟩ := h; exact ⟨b, by rw [h1]; rfl, h2⟩
theorem and (h : Ev o P) (hk : P → Ev k K) : Ev (o.bind fun r => if r = true then k else some false) (P ∧ K) := by
  obtain ⟨b, h1, h2⟩ := h
  rw [h1, Option.bind_some]
  cases b with
  | true =>
    rw [if_pos rfl]
    have hp := h2.1 rfl
    exact (hk hp).imp ⟨fun h => ⟨hp, h⟩, fun h => h.2⟩
  | false => rw [if_neg (by simp)]; exact ff fun h => by have := h2.2 h.1; cases this
theorem ite {p : Prop} [Decidable p] (hk : p → Ev k K) : Ev (if p then k else some false) (p ∧ K) := by
  by_cases hp : p
  · rw [if_pos hp]; exact (hk hp).imp ⟨fun h => ⟨hp, h⟩, fun h => h.2⟩
  · rw [if_neg hp]; exact ff fun h => hp h.1
theorem itn {p : Prop} [Decidable p] (hk : ¬ p → Ev k K) : Ev (if p then some false else k) (¬ p ∧ K) := by
  by_cases hp : p
  · rw [if_pos hp]; exact ff fun h => h.1 hp
  · rw [if_neg hp]; exact (hk hp).imp ⟨fun h => ⟨hp, h⟩, fun h => h.2⟩
theorem gd {p : Prop} (hp : p) (h : Ev o P) : Ev (Go.Abs.gd p o) P := by rw [gd_pos hp]; exact h
theorem bind {α : Type} {x : Option α} {a : α} {f : α → Option Bool} (hx : x = some a) (h : Ev (f a) P) : Ev (x.bind f) P := by rw [hx, Option.bind_some]; exact h
theorem neg (h : Ev o P) : Ev (o.bind fun r => some (!r)) (¬ P) := by
  obtain ⟨b, h1, h2⟩ := h
  refine ⟨!b, by rw [h1]; rfl, ?_⟩
  cases b with
  | true => exact ⟨fun h => (by cases h), fun h => absurd (h2.1 rfl) h⟩
  | false => exact ⟨fun _ hp => (by have := h2.2 hp; cases this), fun _ => rfl⟩
/-- a choice by a truth value -/
theorem pick {α : Type} {f : Bool → Option α} {r : α} (h : Ev o P) (ht : P → f true = some r) (hf : ¬ P → f false = some r) : o.bind f = some r := by
  obtain ⟨b, h1, h2⟩ := h
  rw [h1, Option.bind_some]
  cases b with
  | true => exact ht (h2.1 rfl)
  | false => exact hf fun hp => by have := h2.2 hp; cases this
theorem some_of (h : Ev o P) (hp : P) : o = some true := by obtain ⟨b, h1, h2⟩ := h; rw [h1, h2.2 hp]
end Ev
open Classical in
theorem loopAll {β : Type} (n : Nat) (F : Nat → Int → Option β) (ok : Nat → Prop) (bad fin : Option β)
    (hstep : ∀ d k, k < n → F (d + 1) (k : Int) = if ok k then F d ((k : Int) + 1) else bad) (hend : ∀ d, F (d + 1) (n : Int) = fin) :
    ∀ d k, k ≤ n → n - k < d → F d (k : Int) = if (∀ j, k ≤ j → j < n → ok j) then fin else bad
  | 0, k, _, h => by omega
  | d + 1, k, hk, h => by
    by_cases hkn : k = n
    · subst hkn
      rw [hend, if_pos fun j h1 h2 => by omega]
    · rw [hstep d k (by omega)]
      by_cases ho : ok k
      · rw [if_pos ho, show (k : Int) + 1 = ((k + 1 : Nat) : Int) by omega, loopAll n F ok bad fin hstep hend d (k + 1) (by omega) (by omega)]
        by_cases ha : ∀ j, k + 1 ≤ j → j < n → ok j
        · rw [if_pos ha, if_pos fun j h1 h2 => by
            rcases Nat.eq_or_lt_of_le h1 with h3 | h3
            · subst h3; exact ho
            · exact ha j h3 h2]
        · rw [if_neg ha, if_neg fun h' => ha fun j h1 h2 => h' j (by omega) h2]
      · rw [if_neg ho, if_neg fun h' => ho (h' k (Nat.le_refl _) (by omega))]
/-- the same, from the start -/
theorem loopAll_tt {β : Type} {n : Nat} {F : Nat → Int → Option β} {ok : Nat → Prop} {bad fin : Option β}
    (hstep : ∀ d k, k < n → (ok k → F (d + 1) (k : Int) = F d ((k : Int) + 1)) ∧ (¬ ok k → F (d + 1) (k : Int) = bad)) (hend : ∀ d, F (d + 1) (n : Int) = fin) {d : Nat} (hd : n < d) :
    ((∀ j, j < n → ok j) → F d 0 = fin) ∧ (¬ (∀ j, j < n → ok j) → F d 0 = bad) := by
  have h := loopAll n F ok bad fin (fun d k hk => by
    by_cases ho : ok k
    · rw [if_pos ho]; exact (hstep d k hk).1 ho
    · rw [if_neg ho]; exact (hstep d k hk).2 ho) hend d 0 (Nat.zero_le _) (by omega)
  have h : F d 0 = _ := h
  refine ⟨fun ha => ?_, fun ha => ?_⟩
  · rw [h, if_pos fun j _ => ha j]
  · rw [h, if_neg fun h' => ha fun j => h' j (Nat.zero_le _)]
theorem Ev.loop {n : Nat} {F : Nat → Int → Option Bool} {ok : Nat → Prop} {fin : Option Bool} {P : Prop}
    (hstep : ∀ d k, k < n → (ok k → F (d + 1) (k : Int) = F d ((k : Int) + 1)) ∧ (¬ ok k → F (d + 1) (k : Int) = some false)) (hend : ∀ d, F (d + 1) (n : Int) = fin) {d : Nat} (hd : n < d)
    (hf : (∀ j, j < n → ok j) → Ev fin P) : Ev (F d 0) ((∀ j, j < n → ok j) ∧ P) := by
  obtain ⟨h1, h2⟩ := loopAll_tt hstep hend hd
  by_cases ha : ∀ j, j < n → ok j
  · rw [h1 ha]; exact (hf ha).imp ⟨fun h => ⟨ha, h⟩, fun h => h.2⟩
  · rw [h2 ha]; exact Ev.ff fun h => ha h.1
/-- a loop that makes a list -/
theorem loopApp {α γ β : Type} (l : List α) (g : α → γ) (F : Nat → List γ → Int → Option β) (fin : List γ → Option β)
    (hstep : ∀ d (k : Nat) acc a, l[k]? = some a → acc.length = k → F (d + 1) acc (k : Int) = F d (acc ++ [g a]) ((k : Int) + 1)) (hend : ∀ d acc, F (d + 1) acc (l.length : Int) = fin acc) :
    ∀ d (k : Nat) acc, k ≤ l.length → l.length - k < d → acc = (l.take k).map g → F d acc (k : Int) = fin (l.map g)
  | 0, k, _, _, h, _ => by omega
  | d + 1, k, acc, hk, h, ha => by
    by_cases hkn : k = l.length
    · subst hkn
      rw [hend, ha, List.take_length]
    · have hlt : k < l.length := by omega
      have hget := List.getElem?_eq_getElem hlt
      rw [hstep d k acc _ hget (by rw [ha, List.length_map, List.length_take]; omega), show (k : Int) + 1 = ((k + 1 : Nat) : Int) by omega]
      exact loopApp l g F fin hstep hend d (k + 1) _ (by omega) (by omega) (by rw [ha, List.take_add_one, hget, List.map_append]; rfl)
theorem loopApp0 {α γ β : Type} {l : List α} (g : α → γ) {F : Nat → List γ → Int → Option β} (fin : List γ → Option β)
    (hstep : ∀ d (k : Nat) acc a, l[k]? = some a → acc.length = k → F (d + 1) acc (k : Int) = F d (acc ++ [g a]) ((k : Int) + 1)) (hend : ∀ d acc, F (d + 1) acc (l.length : Int) = fin acc) {d : Nat} (hd : l.length < d) : F d [] 0 = fin (l.map g) :=
  loopApp l g F fin hstep hend d 0 [] (Nat.zero_le _) (by omega) (by simp)
def gIdx {α : Type} (l : List α) (p : α → Option Bool) : Nat → Int → Option Int
  | 0, _ => none
  | d + 1, x => if x < (l.length : Int) then ((idx l x).bind fun v => (p v).bind fun r => if r = true then some x else gd (fitsP .i64 (x + (1 : Int))) (gIdx l p d (x + (1 : Int)))) else some (-1 : Int)
theorem gIdx_ev {α : Type} {l : List α} {p : α → Option Bool} {q : α → Prop} (hp : ∀ a ∈ l, Ev (p a) (q a)) (hl : l.length < 4611686018427387904) :
    ∀ d (k : Nat), k ≤ l.length → l.length - k < d → ∃ r, gIdx l p d (k : Int) = some r ∧ (0 ≤ r ↔ ∃ a ∈ l.drop k, q a)
  | 0, _, _, h => by omega
  | d + 1, k, hk, h => by
    unfold gIdx
    by_cases hkn : k = l.length
    · subst hkn
      rw [if_neg (Int.lt_irrefl _)]
      exact ⟨_, rfl, by simp⟩
    · have hlt : k < l.length := by omega
      have hget := List.getElem?_eq_getElem hlt
      rw [if_pos (by omega), idx_at hget, Option.bind_some]
      have hd := List.drop_eq_getElem_cons hlt
      obtain ⟨b, h1, h2⟩ := hp _ (List.getElem_mem hlt)
      rw [h1, Option.bind_some]
      cases b with
      | true => rw [if_pos rfl]; exact ⟨_, rfl, ⟨fun _ => ⟨_, by rw [hd]; exact List.mem_cons_self .., h2.1 rfl⟩, fun _ => by omega⟩⟩
      | false =>
        rw [if_neg (by simp), gd_pos (fI (by omega)), show (k : Int) + 1 = ((k + 1 : Nat) : Int) by omega]
        obtain ⟨r, h3, h4⟩ := gIdx_ev hp hl d (k + 1) (by omega) (by omega)
        refine ⟨r, h3, h4.trans ⟨fun ⟨a, ha, hq⟩ => ⟨a, by rw [hd]; exact List.mem_cons_of_mem _ ha, hq⟩, fun ⟨a, ha, hq⟩ => ?_⟩⟩
        rw [hd] at ha
        rcases List.mem_cons.1 ha with rfl | ha
        · have := h2.2 hq; cases this
        · exact ⟨a, ha, hq⟩
theorem Ev.contains {α : Type} {l : List α} {p : α → Option Bool} {q : α → Prop} (hp : ∀ a ∈ l, Ev (p a) (q a)) (hl : l.length < 4611686018427387904) {o : Option Int} (ho : o = gIdx l p (l.length + 1) (0 : Int)) :
    Ev (o.bind fun r => some (decide ((0 : Int) ≤ r))) (∃ a ∈ l, q a) := by
  obtain ⟨r, h1, h2⟩ := gIdx_ev hp hl (l.length + 1) 0 (Nat.zero_le _) (by omega)
  have h1 : gIdx l p (l.length + 1) 0 = some r := h1
  rw [ho, h1, Option.bind_some]
  exact Ev.dec (by rw [h2, List.drop_zero])
theorem Ev.each {α : Type} {l : List α} {p : α → Option Bool} {q : α → Prop} (hp : ∀ a ∈ l, Ev (p a) (q a)) (hl : l.length < 4611686018427387904) {o : Option Int} (ho : o = gIdx l (fun a => (p a).bind fun r => some (!r)) (l.length + 1) (0 : Int)) :
    Ev ((o.bind fun r => some (decide ((0 : Int) ≤ r))).bind fun r => some (!r)) (∀ a ∈ l, q a) :=
  ((Ev.contains (q := fun a => ¬ q a) (fun a ha => (hp a ha).neg) hl ho).neg).imp (by
    constructor
    · intro h a ha; exact Classical.byContradiction fun hq => h ⟨a, ha, hq⟩
    · rintro h ⟨a, ha, hq⟩; exact hq (h a ha))
end
end Go.Abs

