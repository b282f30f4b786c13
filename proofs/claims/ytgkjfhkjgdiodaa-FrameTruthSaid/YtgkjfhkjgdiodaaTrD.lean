/- FrameTruth, for all that it can be called with, returns true. Condition: none. -/
import Derived.Test.YtgkjfhkjgdiodaaTrC
import Derived.KernelRfl
import Derived.ProofKit
import Derived.Test.YtgkjfhkjgdiodaaRows

namespace Go.Proofs.Ytgkjfhkjgdiodaa
open _root_.Go.Proofs.Try
open Go.Abs
set_option maxRecDepth 100000
noncomputable section
/-- an increasing list of numbers from fr on, below n -/
def Inc (n fr : Nat) (T : List Int) : Prop := T.Pairwise (· < ·) ∧ ∀ v ∈ T, (fr : Int) ≤ v ∧ v < n
theorem Inc.cons {n fr : Nat} {x : Int} {T : List Int} : Inc n fr (x :: T) ↔ ((fr : Int) ≤ x ∧ x < n) ∧ Inc n (x + 1).toNat T := by
  unfold Inc
  rw [List.pairwise_cons]
  constructor
  · rintro ⟨⟨h1, h2⟩, h3⟩
    have hx := h3 x (List.mem_cons_self ..)
    exact ⟨hx, h2, fun v hv => by have := h1 v hv; have := h3 v (List.mem_cons_of_mem _ hv); omega⟩
  · rintro ⟨hx, h2, h3⟩
    refine ⟨⟨fun v hv => by have := h3 v hv; omega, h2⟩, fun v hv => ?_⟩
    rcases List.mem_cons.1 hv with rfl | hv
    · exact hx
    · have := h3 v hv; omega
theorem mem_combs {n : Nat} {D : List Int} : ∀ {d : Nat} {pre : List Int} {fr : Nat}, D ∈ combs n d pre fr ↔ ∃ T, D = pre ++ T ∧ T.length = d ∧ Inc n fr T
  | 0, pre, fr => by
    show D ∈ [pre] ↔ _
    rw [List.mem_singleton]
    constructor
    · rintro rfl; exact ⟨[], by simp, rfl, .nil, fun v hv => by cases hv⟩
    · rintro ⟨T, h1, h2, _⟩
      rw [List.eq_nil_of_length_eq_zero h2, List.append_nil] at h1; exact h1
  | d + 1, pre, fr => by
    show D ∈ rests (fun x => combs n d (pre ++ [(x : Int)]) (x + 1)) (n - fr) fr ↔ _
    rw [mem_rests]
    constructor
    · rintro ⟨x, h1, h2, h3⟩
      obtain ⟨T, h4, h5, h6⟩ := mem_combs.1 h3
      refine ⟨(x : Int) :: T, by rw [h4]; simp, by simp [h5], Inc.cons.2 ⟨by omega, ?_⟩⟩
      rw [show ((x : Int) + 1).toNat = x + 1 by omega]; exact h6
    · rintro ⟨T, h1, h2, h3⟩
      cases T with
      | nil => simp at h2
      | cons v T =>
        obtain ⟨h4, h5⟩ := Inc.cons.1 h3
        refine ⟨v.toNat, by omega, by omega, mem_combs.2 ⟨T, ?_, by simpa using h2, ?_⟩⟩
        · rw [show ((v.toNat : Nat) : Int) = v by omega, h1]; simp
        · rw [show v.toNat + 1 = (v + 1).toNat by omega]; exact h5
theorem inc_len {n : Nat} : ∀ {T : List Int} {fr : Nat}, Inc n fr T → T.length ≤ n - fr
  | [], _, _ => Nat.zero_le _
  | v :: T, fr, h => by
    obtain ⟨h1, h2⟩ := Inc.cons.1 h
    have := inc_len h2
    simp only [List.length_cons]
    omega
theorem mem_allL {n : Nat} {D : List Int} : D ∈ allL n ↔ Inc n 0 D := by
  unfold allL
  rw [mem_rests]
  constructor
  · rintro ⟨s, _, _, h⟩
    obtain ⟨T, h1, _, h2⟩ := mem_combs.1 h
    rw [h1]; exact h2
  · intro h
    have := inc_len h
    exact ⟨D.length, Nat.zero_le _, by omega, mem_combs.2 ⟨D, rfl, rfl, h⟩⟩
/-- the counts of a list can be left out -/
def leaveB (c sm : Int) (L : List Int) (N : List Cnt) (D : List Int) : Bool := !(truthsV c sm L N (marksL false6 D)).isEmpty
def leaveL (r c sm : Int) (L : List Int) (N : List Cnt) : List Int := if svErr r c L sm N = 0 then shortL N.length (leaveB c sm L N) else []
/-- Leave -/
theorem s52 {r c sm : Int} {x y : C} {L : List Int} {N : List Cnt} {m : M} {Q : V → M → Prop} (hx : Li m x L) (hL : L.length ≤ 1048576) (hy : Lc m y N) (hN : N.length ≤ 1000)
    (h : ∀ z m', Ext m m' → Li m' z (leaveL r c sm L N) → Q (.tup [.c z, .c (.int .i64 (svErr r c L sm N))]) m') : Wc prog tbl 52 [.agg 5 [.int .i64 r, .int .i64 c, x, .int .i64 sm, y]] m Q := by
  refine w52 fun m0 e0 => ?_
  obtain ⟨b0, x0⟩ := Bk.new e0
  refine ⟨r, c, x, sm, y, b0.ra, s37 (hx.ext x0) hL (hy.ext x0) hN fun m7 e7 => ⟨_, rfl, ?_⟩⟩
  have x7 := x0.trans e7
  have b7 := b0.ext e7
  rw [ifB_ndec]
  refine ⟨fun h1 => ?_, fun h1 => ?_⟩
  · refine h _ _ x7 ?_
    unfold leaveL
    rw [if_neg h1]
    exact Ls.nil m7 1
  obtain ⟨hO, hsm⟩ := okay_of h1
  have hN6 := hO.n
  refine ⟨trivial, y, b7.rc rfl, hy.isSl, r, c, x, sm, y, b7.ra, s76 (hx.ext x7) (hy.ext x7) hO fun m16 mb f e16 hmp hms => ⟨r, c, x, sm, y, .map mb, rfl, ⟨hy.isSl, rfl⟩, ?_, ?_⟩⟩
  · rw [hy.noFn]; exact (b7.ext e16).rc rfl
  obtain ⟨xc, hxc, hxc'⟩ := keepC hx
  obtain ⟨yc, hyc, hyc'⟩ := keepC hy
  have hvw : mapO vW [V.agg 6 [C.int .i64 r, .int .i64 c, x, .int .i64 sm, y, .map mb]] = some [.agg 6 [.int .i64 r, .int .i64 c, xc, .int .i64 sm, yc, .map mb]] := by
    show optB (optB (optB (some (C0.int .i64 r)) none fun a => optB (optB (some (C0.int .i64 c)) none fun b => optB (optB (cC0 x) none fun c' => optB (optB (some (C0.int .i64 sm)) none fun d => optB (optB (cC0 y) none fun e => optB (optB (some (C0.map mb)) none fun g => some [g]) none fun l => some (e :: l)) none fun l => some (d :: l)) none fun l => some (c' :: l)) none fun l => some (b :: l)) none fun l => some (a :: l)) none fun xs => some (W.agg 6 xs)) none (fun w => some [w]) = _
    rw [hxc, hyc]; rfl
  rw [hvw, optB_some, hy.slLen]
  have x16 := x7.trans e16
  refine s87 (t := leaveB c sm L N) (by omega) (fun m' z D e hz hD Q' hq => ?_) fun z m25 e25 hz => ⟨z, rfl, ?_⟩
  · have hi := mem_allL.1 hD
    have hl := inc_len hi
    show Wc prog tbl 91 [.agg 6 [.int .i64 r, .int .i64 c, c0C xc, .int .i64 sm, c0C yc, .map mb], .c z] m' Q'
    rw [hxc', hyc']
    exact s91 (f := f) ⟨hmp.ext e, hms⟩ (hx.ext (x16.trans e)) hO.f hz (by omega) (fun v hv => by have := hi.2 v hv; omega) fun m'' e'' => hq m'' e''
  · have hq := h z m25 (x16.trans e25) (by unfold leaveL; rw [if_pos h1]; exact hz)
    rw [h1] at hq
    exact hq
theorem leave_true {r c sm : Int} {L : List Int} {N : List Cnt} (ht : trueErr r c L sm N = 0) : leaveL r c sm L N = [] := by
  obtain ⟨hv, hp⟩ := true_sv ht
  unfold leaveL
  rw [if_pos hv]
  have h0 : leaveB c sm L N [] = true := by
    unfold leaveB
    rw [truthsV_emp]
    cases hq : truthsP c sm L N with
    | nil => rw [hq] at hp; simp at hp
    | cons a l => rfl
  unfold shortL allL
  rw [rests_split]
  show (((List.find? _ [([] : List Int)])).or _).getD [] = []
  rw [List.find?_cons, h0]; rfl
end
end Go.Proofs.Ytgkjfhkjgdiodaa

namespace Go.Proofs.Ytgkjfhkjgdiodaa
open _root_.Go.Proofs.Try
open Go.Abs
set_option maxRecDepth 100000
noncomputable section
theorem s86 {n : Int} {m : M} {Q : V → M → Prop} (h : ∀ m', Ext m m' → Q (.c (.bool (decide (0 ≤ n ∧ n ≤ 100)))) m') : Wc prog tbl 86 [.c (.int .i64 n)] m Q :=
  w86 (s92 fun m' e => ⟨_, rfl, h m' e⟩)
def aboveV (r c : Int) (L : List Int) (sm : Int) (N : List Cnt) (n : Int) : Int :=
  if askErr r c L sm N (decide (0 ≤ n ∧ n ≤ 100)) = 0 then (if n ≤ loOf ((truthsP c sm L N).map (shareOf L)) then 1 else if hiOf ((truthsP c sm L N).map (shareOf L)) < n then 2 else 3) else 0
theorem s48 {r c sm n : Int} {x y : C} {L : List Int} {N : List Cnt} {m : M} {Q : V → M → Prop} (hx : Li m x L) (hL : L.length ≤ 1048576) (hy : Lc m y N) (hN : N.length ≤ 1000)
    (h : ∀ m', Ext m m' → Q (.tup [.c (.int .i64 (aboveV r c L sm N n)), .c (.int .i64 (askErr r c L sm N (decide (0 ≤ n ∧ n ≤ 100))))]) m') :
    Wc prog tbl 48 [.agg 5 [.int .i64 r, .int .i64 c, x, .int .i64 sm, y], .c (.int .i64 n)] m Q := by
  refine w48 fun m0 e0 => ?_
  obtain ⟨b0, x0⟩ := Bk.new e0
  refine ⟨r, c, x, sm, y, b0.ra, s83 (inr := decide (0 ≤ n ∧ n ≤ 100)) (hx.ext x0) hL (hy.ext x0) hN (fun _ m' _ Q' hq' => ?_) (fun hne m7 e7 => ⟨0, 0, .sl0, 0, .sl0, .map0, _, rfl, fun m15 h15 => ?_⟩) fun hz m7 mb f e7 hw => ⟨r, c, x, sm, y, .map mb, 0, rfl, fun m15 h15 => ?_⟩⟩
  · show Wc prog tbl 86 [.c (.int .i64 n)] m' Q'
    exact s86 hq'
  · obtain ⟨b15, x15⟩ := Bk.new h15
    have e16 : Ext m7 (m15.set m7.nxt (.cells 6 [.int .i64 0, .int .i64 0, .sl0, .int .i64 0, .sl0, .map0] false)) := x15.setR (Nat.le_refl _) _
    refine ⟨_, b15.st _, ?_⟩
    rw [ifB_ndec]
    refine ⟨fun _ => ?_, fun h1 => absurd h1 hne⟩
    have hq := h _ ((x0.trans e7).trans e16)
    unfold aboveV at hq
    rw [if_neg hne] at hq
    exact hq
  · obtain ⟨b15, x15⟩ := Bk.new h15
    have k16 := b15.set [.int .i64 r, .int .i64 c, x, .int .i64 sm, y, .map mb]
    have e16 : Ext m7 (m15.set m7.nxt (.cells 6 [.int .i64 r, .int .i64 c, x, .int .i64 sm, y, .map mb] false)) := x15.setR (Nat.le_refl _) _
    refine ⟨_, b15.st _, ?_⟩
    generalize m15.set m7.nxt (.cells 6 [.int .i64 r, .int .i64 c, x, .int .i64 sm, y, .map mb] false) = m16 at e16 k16
    obtain ⟨hin, ht⟩ := ask_zero hz
    obtain ⟨hv, hpos⟩ := true_sv ht
    obtain ⟨hO, _⟩ := okay_of hv
    have x16 := (x0.trans e7).trans e16
    rw [ifB_ndec]
    refine ⟨fun h1 => absurd rfl h1, fun _ => ⟨r, c, x, sm, y, .map mb, k16.ra, s82 (hw.ext e16) (hx.ext x16) hO.f hpos (by have := truths_len hv; omega) (num_share (hx.ext x16) hO.f) fun m24 e24 => ⟨_, _, rfl, fun m27 h27 => ?_⟩⟩⟩
    obtain ⟨b27, x27⟩ := Bk.new h27
    have k28 := b27.set [.int .i64 (loOf ((truthsP c sm L N).map (shareOf L))), .int .i64 (hiOf ((truthsP c sm L N).map (shareOf L)))]
    have e28 : Ext m24 (m27.set m24.nxt (.cells 2 [.int .i64 (loOf ((truthsP c sm L N).map (shareOf L))), .int .i64 (hiOf ((truthsP c sm L N).map (shareOf L)))] false)) := x27.setR (Nat.le_refl _) _
    refine ⟨_, b27.st _, trivial, _, k28.rc rfl, ?_⟩
    have hq := h _ ((x16.trans e24).trans e28)
    unfold aboveV at hq
    rw [if_pos hz, hz] at hq
    rw [ifB_dec]
    refine ⟨fun h1 => by rw [if_pos h1] at hq; exact hq, fun h1 => ⟨trivial, _, k28.rc rfl, ?_⟩⟩
    rw [if_neg h1] at hq
    rw [ifB_dec]
    exact ⟨fun h2 => by rw [if_pos h2] at hq; exact hq, fun h2 => by rw [if_neg h2] at hq; exact hq⟩
theorem s58 {r c sm : Int} {x y : C} {L : List Int} {N : List Cnt} {m : M} {Q : V → M → Prop} (hx : Li m x L) (hy : Lc m y N)
    (h : ∀ m', Ext m m' → Q (.c (.bool (decide (svErr r c L sm N = 0)))) m') : Wc prog tbl 58 [.agg 5 [.int .i64 r, .int .i64 c, x, .int .i64 sm, y]] m Q := by
  refine w58 fun m0 e0 => ?_
  obtain ⟨b0, x0⟩ := Bk.new e0
  refine ⟨r, c, x, sm, y, b0.ra, s19 (hx.ext x0) (hy.ext x0) fun m7 e7 => ⟨_, rfl, ?_⟩⟩
  rw [ifB_dec]
  refine ⟨fun h1 => ⟨r, c, x, sm, y, (b0.ext e7).ra, s36 (hx.ext (x0.trans e7)) (by omega) (hy.ext (x0.trans e7)) (by omega) fun m15 e15 => ⟨_, rfl, h m15 ((x0.trans e7).trans e15)⟩⟩, fun h1 => ?_⟩
  have hq := h m7 (x0.trans e7)
  rw [decide_eq_false fun hv => h1 ?_] at hq
  · exact hq
  · obtain ⟨hO, _⟩ := okay_of hv
    obtain ⟨_, h9, _⟩ := field_of hO.f
    have := hO.n
    exact ⟨by omega, by omega⟩
end
end Go.Proofs.Ytgkjfhkjgdiodaa

namespace Go.Proofs.Ytgkjfhkjgdiodaa
open _root_.Go.Proofs.Try
open Go.Abs
set_option maxRecDepth 100000
noncomputable section
/-- a law's call of Bounds, and the block that takes what it returns -/
theorem cBounds {r c sm : Int} {x y : C} {L : List Int} {N : List Cnt} {a : Nat} {m : M} {R : Int → Int → Int → M → M → Prop} (hx : Li m x L) (hL : L.length ≤ 1000) (hy : Lc m y N) (hN : N.length ≤ 1000) (ka : Bk m a 5 [.int .i64 r, .int .i64 c, x, .int .i64 sm, y])
    (h : ∀ m1 m2, Ext m m1 → Ext m1 m2 → Bk m2 m1.nxt 2 [.int .i64 (boundsOf r c L sm N (trueErr r c L sm N) (shareOf L)).1, .int .i64 (boundsOf r c L sm N (trueErr r c L sm N) (shareOf L)).2] → R (boundsOf r c L sm N (trueErr r c L sm N) (shareOf L)).1 (boundsOf r c L sm N (trueErr r c L sm N) (shareOf L)).2 (trueErr r c L sm N) m1 m2) :
    ∃ x1 x2 : Int, ∃ c3 : C, ∃ x4 : Int, ∃ c5 : C, ldA m (C.ptr a 0) 5 = some [C.int .i64 x1, C.int .i64 x2, c3, C.int .i64 x4, c5] ∧ Wc prog tbl 33 [V.agg 5 [C.int .i64 x1, C.int .i64 x2, c3, C.int .i64 x4, c5]] m fun v6 m7 => ∃ x8 x9 : Int, ∃ c10 : C, ∃ x11 : Int, ∃ c12 : C, v6 = V.agg 5 [C.int .i64 x8, C.int .i64 x9, c10, C.int .i64 x11, c12] ∧
      Wc prog tbl 41 [V.agg 5 [C.int .i64 x8, C.int .i64 x9, c10, C.int .i64 x11, c12]] m7 fun v13 m14 => ∃ x15 x16 x17 : Int, v13 = V.tup [U.agg 2 [C.int .i64 x15, C.int .i64 x16], U.c (C.int .i64 x17)] ∧ ∀ m18 : M, m18 = M.new m14 (AO.cells 2 [C.int .i64 0, C.int .i64 0] false) → ∃ m19 : M, stC m18 (C.ptr m14.nxt 0) 2 [C.int .i64 x15, C.int .i64 x16] = some m19 ∧ R x15 x16 x17 m14 m19 := by
  refine ⟨r, c, x, sm, y, ka.ra, s33 hx (by omega) hy (by omega) fun xa ya m7 e7 hxa hya => ⟨r, c, xa, sm, ya, rfl, s41 hxa (by omega) hya (by omega) fun m14 e14 => ⟨_, _, _, rfl, fun m18 h18 => ?_⟩⟩⟩
  obtain ⟨b18, x18⟩ := Bk.new h18
  exact ⟨_, b18.st _, h m14 _ (e7.trans e14) (x18.setR (Nat.le_refl _) _) (b18.set _)⟩
theorem cHits {r c sm p : Int} {x y : C} {L : List Int} {N : List Cnt} {a : Nat} {m : M} {R : Int → Int → Int → M → M → Prop} (hx : Li m x L) (hL : L.length ≤ 1000) (hy : Lc m y N) (hN : N.length ≤ 1000) (ka : Bk m a 5 [.int .i64 r, .int .i64 c, x, .int .i64 sm, y])
    (h : ∀ m1 m2, Ext m m1 → Ext m1 m2 → Bk m2 m1.nxt 2 [.int .i64 (boundsOf r c L sm N (askErr r c L sm N (decide (0 ≤ p ∧ p ≤ r * c - 1))) (fun H => H[p.toNat]!)).1, .int .i64 (boundsOf r c L sm N (askErr r c L sm N (decide (0 ≤ p ∧ p ≤ r * c - 1))) (fun H => H[p.toNat]!)).2] → R (boundsOf r c L sm N (askErr r c L sm N (decide (0 ≤ p ∧ p ≤ r * c - 1))) (fun H => H[p.toNat]!)).1 (boundsOf r c L sm N (askErr r c L sm N (decide (0 ≤ p ∧ p ≤ r * c - 1))) (fun H => H[p.toNat]!)).2 (askErr r c L sm N (decide (0 ≤ p ∧ p ≤ r * c - 1))) m1 m2) :
    ∃ x1 x2 : Int, ∃ c3 : C, ∃ x4 : Int, ∃ c5 : C, ldA m (C.ptr a 0) 5 = some [C.int .i64 x1, C.int .i64 x2, c3, C.int .i64 x4, c5] ∧ Wc prog tbl 33 [V.agg 5 [C.int .i64 x1, C.int .i64 x2, c3, C.int .i64 x4, c5]] m fun v6 m7 => ∃ x8 x9 : Int, ∃ c10 : C, ∃ x11 : Int, ∃ c12 : C, v6 = V.agg 5 [C.int .i64 x8, C.int .i64 x9, c10, C.int .i64 x11, c12] ∧
      Wc prog tbl 42 [V.agg 5 [C.int .i64 x8, C.int .i64 x9, c10, C.int .i64 x11, c12], V.c (C.int .i64 p)] m7 fun v13 m14 => ∃ x15 x16 x17 : Int, v13 = V.tup [U.agg 2 [C.int .i64 x15, C.int .i64 x16], U.c (C.int .i64 x17)] ∧ ∀ m18 : M, m18 = M.new m14 (AO.cells 2 [C.int .i64 0, C.int .i64 0] false) → ∃ m19 : M, stC m18 (C.ptr m14.nxt 0) 2 [C.int .i64 x15, C.int .i64 x16] = some m19 ∧ R x15 x16 x17 m14 m19 := by
  refine ⟨r, c, x, sm, y, ka.ra, s33 hx (by omega) hy (by omega) fun xa ya m7 e7 hxa hya => ⟨r, c, xa, sm, ya, rfl, s42 hxa (by omega) hya (by omega) fun m14 e14 => ⟨_, _, _, rfl, fun m18 h18 => ?_⟩⟩⟩
  obtain ⟨b18, x18⟩ := Bk.new h18
  exact ⟨_, b18.st _, h m14 _ (e7.trans e14) (x18.setR (Nat.le_refl _) _) (b18.set _)⟩
theorem prodN_pos : ∀ L : List Int, 0 < prodN L
  | [] => Nat.one_pos
  | v :: L => Nat.mul_pos (Nat.succ_pos _) (prodN_pos L)
/-- truth: the hits with a number, and whether they are a truth -/
theorem s59 {r c sm n : Int} {x y : C} {L : List Int} {N : List Cnt} {m : M} {Q : V → M → Prop} (hx : Li m x L) (hy : Lc m y N) (hv : svErr r c L sm N = 0) (hn : 0 ≤ n ∧ n ≤ 100000)
    (h : ∀ z m', Ext m m' → Li m' z (nthL L (n % (prodN L : Int))) → Q (.tup [.c z, .c (.bool (truthR c sm L N (nthL L (n % (prodN L : Int)))))]) m') : Wc prog tbl 59 [.agg 5 [.int .i64 r, .int .i64 c, x, .int .i64 sm, y], .c (.int .i64 n)] m Q := by
  obtain ⟨hO, hsm⟩ := okay_of hv
  obtain ⟨hS, hL, hrc⟩ := field_of hO.f
  have hP := few_truths hv
  have hpos := prodN_pos L
  refine w59 fun m0 e0 => ?_
  obtain ⟨b0, x0⟩ := Bk.new e0
  refine ⟨trivial, r, c, x, b0.rp (k := 0) (j := 3) rfl (by omega), trivial, r, c, x, b0.rp (k := 0) (j := 3) rfl (by omega), s60 (hx.ext x0) hS (by omega) fun m8 e8 => ⟨_, rfl, ?_⟩⟩
  have x8 := x0.trans e8
  rw [many_prod hS hP]
  have q0 := Int.emod_nonneg n (b := (prodN L : Int)) (by omega)
  have q1 := Int.emod_lt_of_pos n (b := (prodN L : Int)) (by omega)
  refine ⟨?_, hn.1, by omega, fits_small (by omega) (by omega), s67 (hx.ext x8) hS (by omega) ⟨q0, by omega⟩ fun z m11 e11 hz _ => ⟨z, rfl, r, c, x, sm, y, ((b0.ext e8).ext e11).ra, ?_⟩⟩
  · rw [allNF3 hx.noFn]; exact (b0.ext e8).rp (k := 0) (j := 3) rfl (by omega)
  have x11 := x8.trans e11
  exact s38 (hx.ext x11) (hy.ext x11) hO hsm hz (by rw [nthL_len]; omega) fun m19 e19 => ⟨_, rfl, h z m19 (x11.trans e19) (hz.ext e19)⟩
end
end Go.Proofs.Ytgkjfhkjgdiodaa

namespace Go.Proofs.Ytgkjfhkjgdiodaa
open _root_.Go.Proofs.Try
open Go.Abs
set_option maxRecDepth 100000
noncomputable section
theorem truthR_iff {c sm : Int} {L H : List Int} {N : List Cnt} : truthR c sm L N H = true ↔ TruthR c sm L N H :=
  ⟨fun h => by
    by_cases hT : TruthR c sm L N H
    · exact hT
    · rw [truthR_false hT] at h; exact absurd h (by decide), truthR_true⟩
theorem mem_P {r c sm : Int} {L H : List Int} {N : List Cnt} (hv : svErr r c L sm N = 0) : H ∈ truthsP c sm L N ↔ TruthR c sm L N H := by
  obtain ⟨hO, hsm⟩ := okay_of hv
  rw [← truthR_iff]
  exact mem_truths hO hsm.1
theorem true_ex {r c sm : Int} {L : List Int} {N : List Cnt} (hv : svErr r c L sm N = 0) : trueErr r c L sm N = 0 ↔ ∃ H, TruthR c sm L N H := by
  constructor
  · intro h
    obtain ⟨_, hp⟩ := true_sv h
    exact ⟨_, (mem_P hv).1 (List.getElem_mem hp)⟩
  · rintro ⟨H, h⟩
    have := (mem_P hv).2 h
    unfold trueErr
    rw [if_pos hv]
    cases ht : truthsP c sm L N with
    | nil => rw [ht] at this; cases this
    | cons a l => rfl
end
end Go.Proofs.Ytgkjfhkjgdiodaa

namespace Go.Proofs.Ytgkjfhkjgdiodaa
open _root_.Go.Proofs.Try
open Go.Abs
set_option maxRecDepth 100000
noncomputable section
theorem w9 {a100 : Int} {a101 : Int} {a102 : C} {a103 : Int} {a104 : C} {a200 : Int} {a300 : Int} {m : M} {Q : V → M → Prop} (h :
 (∀ m0 : M, ((m0 = (M.new m (AO.cells 5 [(C.int IntKind.i64 a100), (C.int IntKind.i64 a101), a102, (C.int IntKind.i64 a103), 
 a104] false))) → (∃ x1 : Int, (∃ x2 : Int, (∃ c3 : C, (∃ x4 : Int, (∃ c5 : C, (((ldA m0 (C.ptr (m).nxt 0) 5) = (Option.some [(C.int IntKind.i64 x1), 
 (C.int IntKind.i64 x2), c3, (C.int IntKind.i64 x4), c5])) ∧ (Wc prog tbl 58 [(V.agg 5 [(C.int IntKind.i64 x1), 
 (C.int IntKind.i64 x2), c3, (C.int IntKind.i64 x4), c5])] m0 (fun v6 m7 => (∃ b8 : Bool, ((v6 = (V.c (C.bool b8))) ∧ 
 (ifB (!b8) (Wc prog tbl 20 [] m7 (fun v9 m10 => (∃ b11 : Bool, ((v9 = (V.c (C.bool b11))) ∧ (Q (V.c (C.bool b11)) m10))))) (∃ x12 : Int, 
 (∃ x13 : Int, (∃ c14 : C, (∃ x15 : Int, (∃ c16 : C, (((ldA m7 (C.ptr (m).nxt 0) 5) = (Option.some [(C.int IntKind.i64 x12), 
 (C.int IntKind.i64 x13), c14, (C.int IntKind.i64 x15), c16])) ∧ (Wc prog tbl 59 [(V.agg 5 [(C.int IntKind.i64 x12), 
 (C.int IntKind.i64 x13), c14, (C.int IntKind.i64 x15), c16]), (V.c (C.int IntKind.i64 (wrapZ IntKind.i64 a200)))] m7 (fun v17 m18 => 
 (∃ c19 : C, (∃ b20 : Bool, ((v17 = (V.tup [(U.c c19), (U.c (C.bool b20))])) ∧ (((0 : Int) ≤ (wrapZ IntKind.i64 a300)) ∧ 
 (((0 : Int) < (101 : Int)) ∧ (fitsP IntKind.i64 ((wrapZ IntKind.i64 a300) % (101 : Int)) ∧ 
 (∃ x21 : Int, (∃ x22 : Int, (∃ c23 : C, (∃ x24 : Int, (∃ c25 : C, (((ldA m18 (C.ptr (m).nxt 0) 5) = (Option.some [(C.int IntKind.i64 x21), 
 (C.int IntKind.i64 x22), c23, (C.int IntKind.i64 x24), c25])) ∧ (Wc prog tbl 33 [(V.agg 5 [(C.int IntKind.i64 x21), 
 (C.int IntKind.i64 x22), c23, (C.int IntKind.i64 x24), c25])] m18 (fun v26 m27 => 
 (∃ x28 : Int, (∃ x29 : Int, (∃ c30 : C, (∃ x31 : Int, (∃ c32 : C, ((v26 = (V.agg 5 [(C.int IntKind.i64 x28), 
 (C.int IntKind.i64 x29), c30, (C.int IntKind.i64 x31), c32])) ∧ (Wc prog tbl 34 [(V.c c19)] m27 (fun v33 m34 => 
 (∃ c35 : C, ((v33 = (V.c c35)) ∧ (Wc prog tbl 35 [(V.agg 5 [(C.int IntKind.i64 x28), 
 (C.int IntKind.i64 x29), c30, (C.int IntKind.i64 x31), c32]), (V.c c35)] m34 (fun v36 m37 => 
 (∃ b38 : Bool, ((v36 = (V.c (C.bool b38))) ∧ (ifB (!(b38 == b20)) (Q (V.c (C.bool false)) m37) (ifB (!b20) (Wc prog tbl 20 [] m37 (fun v39 m40 => 
 (∃ b41 : Bool, ((v39 = (V.c (C.bool b41))) ∧ (Q (V.c (C.bool b41)) m40))))) (∃ x42 : Int, 
 (∃ x43 : Int, (∃ c44 : C, (∃ x45 : Int, (∃ c46 : C, (((ldA m37 (C.ptr (m).nxt 0) 5) = (Option.some [(C.int IntKind.i64 x42), 
 (C.int IntKind.i64 x43), c44, (C.int IntKind.i64 x45), c46])) ∧ (Wc prog tbl 33 [(V.agg 5 [(C.int IntKind.i64 x42), 
 (C.int IntKind.i64 x43), c44, (C.int IntKind.i64 x45), c46])] m37 (fun v47 m48 => 
 (∃ x49 : Int, (∃ x50 : Int, (∃ c51 : C, (∃ x52 : Int, (∃ c53 : C, ((v47 = (V.agg 5 [(C.int IntKind.i64 x49), 
 (C.int IntKind.i64 x50), c51, (C.int IntKind.i64 x52), c53])) ∧ (Wc prog tbl 34 [(V.c c19)] m48 (fun v54 m55 => 
 (∃ c56 : C, ((v54 = (V.c c56)) ∧ (Wc prog tbl 32 [(V.agg 5 [(C.int IntKind.i64 x49), 
 (C.int IntKind.i64 x50), c51, (C.int IntKind.i64 x52), c53]), (V.c c56)] m55 (fun v57 m58 => 
 (∃ x59 : Int, (∃ x60 : Int, ((v57 = (V.tup [(U.c (C.int IntKind.i64 x59)), (U.c (C.int IntKind.i64 x60))])) ∧ 
 (∃ x61 : Int, (∃ x62 : Int, (∃ c63 : C, (∃ x64 : Int, (∃ c65 : C, (((ldA m58 (C.ptr (m).nxt 0) 5) = (Option.some [(C.int IntKind.i64 x61), 
 (C.int IntKind.i64 x62), c63, (C.int IntKind.i64 x64), c65])) ∧ (Wc prog tbl 33 [(V.agg 5 [(C.int IntKind.i64 x61), 
 (C.int IntKind.i64 x62), c63, (C.int IntKind.i64 x64), c65])] m58 (fun v66 m67 => 
 (∃ x68 : Int, (∃ x69 : Int, (∃ c70 : C, (∃ x71 : Int, (∃ c72 : C, ((v66 = (V.agg 5 [(C.int IntKind.i64 x68), 
 (C.int IntKind.i64 x69), c70, (C.int IntKind.i64 x71), c72])) ∧ (Wc prog tbl 41 [(V.agg 5 [(C.int IntKind.i64 x68), 
 (C.int IntKind.i64 x69), c70, (C.int IntKind.i64 x71), c72])] m67 (fun v73 m74 => 
 (∃ x75 : Int, (∃ x76 : Int, (∃ x77 : Int, ((v73 = (V.tup [(U.agg 2 [(C.int IntKind.i64 x75), 
 (C.int IntKind.i64 x76)]), (U.c (C.int IntKind.i64 x77))])) ∧ (∀ m78 : M, ((m78 = (M.new m74 (AO.cells 2 [(C.int IntKind.i64 (0 : Int)), 
 (C.int IntKind.i64 (0 : Int))] false))) → (∃ m79 : M, (((stC m78 (C.ptr (m74).nxt 0) 2 [(C.int IntKind.i64 x75), 
 (C.int IntKind.i64 x76)]) = (Option.some m79)) ∧ (∃ x80 : Int, (∃ x81 : Int, 
 (∃ c82 : C, (∃ x83 : Int, (∃ c84 : C, (((ldA m79 (C.ptr (m).nxt 0) 5) = (Option.some [(C.int IntKind.i64 x80), 
 (C.int IntKind.i64 x81), c82, (C.int IntKind.i64 x83), c84])) ∧ (Wc prog tbl 33 [(V.agg 5 [(C.int IntKind.i64 x80), 
 (C.int IntKind.i64 x81), c82, (C.int IntKind.i64 x83), c84])] m79 (fun v85 m86 => 
 (∃ x87 : Int, (∃ x88 : Int, (∃ c89 : C, (∃ x90 : Int, (∃ c91 : C, ((v85 = (V.agg 5 [(C.int IntKind.i64 x87), 
 (C.int IntKind.i64 x88), c89, (C.int IntKind.i64 x90), c91])) ∧ (Wc prog tbl 48 [(V.agg 5 [(C.int IntKind.i64 x87), 
 (C.int IntKind.i64 x88), c89, (C.int IntKind.i64 x90), c91]), (V.c (C.int IntKind.i64 ((wrapZ IntKind.i64 a300) % (101 : Int))))] m86 (fun v92 m93 => 
 (∃ x94 : Int, (∃ x95 : Int, ((v92 = (V.tup [(U.c (C.int IntKind.i64 x94)), (U.c (C.int IntKind.i64 x95))])) ∧ 
 (∃ x96 : Int, (∃ x97 : Int, (∃ c98 : C, (∃ x99 : Int, (∃ c100 : C, (((ldA m93 (C.ptr (m).nxt 0) 5) = (Option.some [(C.int IntKind.i64 x96), 
 (C.int IntKind.i64 x97), c98, (C.int IntKind.i64 x99), c100])) ∧ (Wc prog tbl 33 [(V.agg 5 [(C.int IntKind.i64 x96), 
 (C.int IntKind.i64 x97), c98, (C.int IntKind.i64 x99), c100])] m93 (fun v101 m102 => 
 (∃ x103 : Int, (∃ x104 : Int, (∃ c105 : C, (∃ x106 : Int, (∃ c107 : C, ((v101 = (V.agg 5 [(C.int IntKind.i64 x103), 
 (C.int IntKind.i64 x104), c105, (C.int IntKind.i64 x106), c107])) ∧ (Wc prog tbl 52 [(V.agg 5 [(C.int IntKind.i64 x103), 
 (C.int IntKind.i64 x104), c105, (C.int IntKind.i64 x106), c107])] m102 (fun v108 m109 => 
 (∃ c110 : C, (∃ x111 : Int, ((v108 = (V.tup [(U.c c110), (U.c (C.int IntKind.i64 x111))])) ∧ 
 (ifB (!decide (x60 = (0 : Int))) (Q (V.c (C.bool false)) m109) (ifB (!decide (x77 = (0 : Int))) (Q (V.c (C.bool false)) m109) (ifB (!decide (x95 = (0 : Int))) (Q (V.c (C.bool false)) m109) (ifB (!decide (x111 = (0 : Int))) (Q (V.c (C.bool false)) m109) (isSl c110 ∧ 
 (ifB (!decide ((((slLen c110) : Nat) : Int) = (0 : Int))) (Q (V.c (C.bool false)) m109) (isPt (C.ptr (m74).nxt 0) ∧ 
 (∃ x112 : Int, (((ldC m109 (C.ptr (m74).nxt 0)) = (Option.some (C.int IntKind.i64 x112))) ∧ 
 (ifB (decide (x59 < x112)) (Q (V.c (C.bool false)) m109) (isPt (C.ptr (m74).nxt 0) ∧ 
 (∃ x113 : Int, (((ldC m109 (C.ptr (m74).nxt 1)) = (Option.some (C.int IntKind.i64 x113))) ∧ 
 (ifB (decide (x113 < x59)) (Q (V.c (C.bool false)) m109) (ifB (decide (x94 = (1 : Int))) (ifB (decide (x59 < ((wrapZ IntKind.i64 a300) % (101 : Int)))) (Q (V.c (C.bool false)) m109) (ifB (decide (x94 = (2 : Int))) (ifB (decide (((wrapZ IntKind.i64 a300) % (101 : Int)) ≤ x59)) (Q (V.c (C.bool false)) m109) (Wc prog tbl 44 [(V.c (C.int IntKind.i64 x94)), 
 (V.c (C.int IntKind.i64 (1 : Int))), (V.c (C.int IntKind.i64 (3 : Int)))] m109 (fun v114 m115 => 
 (∃ b116 : Bool, ((v114 = (V.c (C.bool b116))) ∧ (ifB (!b116) (Q (V.c (C.bool false)) m115) (∀ R117 : List V → 
 M → Prop, ((∀ b118 : Bool, (∀ x119 : Int, (∀ m120 : M, ((isSl c19 ∧ (ifB (decide (x119 < (((slLen c19) : Nat) : Int))) (∃ x121 : Int, 
 (∃ x122 : Int, (∃ c123 : C, (∃ x124 : Int, (∃ c125 : C, (((ldA m120 (C.ptr (m).nxt 0) 5) = (Option.some [(C.int IntKind.i64 x121), 
 (C.int IntKind.i64 x122), c123, (C.int IntKind.i64 x124), c125])) ∧ (Wc prog tbl 33 [(V.agg 5 [(C.int IntKind.i64 x121), 
 (C.int IntKind.i64 x122), c123, (C.int IntKind.i64 x124), c125])] m120 (fun v126 m127 => 
 (∃ x128 : Int, (∃ x129 : Int, (∃ c130 : C, (∃ x131 : Int, (∃ c132 : C, ((v126 = (V.agg 5 [(C.int IntKind.i64 x128), 
 (C.int IntKind.i64 x129), c130, (C.int IntKind.i64 x131), c132])) ∧ (Wc prog tbl 42 [(V.agg 5 [(C.int IntKind.i64 x128), 
 (C.int IntKind.i64 x129), c130, (C.int IntKind.i64 x131), c132]), (V.c (C.int IntKind.i64 x119))] m127 (fun v133 m134 => 
 (∃ x135 : Int, (∃ x136 : Int, (∃ x137 : Int, ((v133 = (V.tup [(U.agg 2 [(C.int IntKind.i64 x135), 
 (C.int IntKind.i64 x136)]), (U.c (C.int IntKind.i64 x137))])) ∧ (∀ m138 : M, 
 ((m138 = (M.new m134 (AO.cells 2 [(C.int IntKind.i64 (0 : Int)), (C.int IntKind.i64 (0 : Int))] false))) → 
 (∃ m139 : M, (((stC m138 (C.ptr (m134).nxt 0) 2 [(C.int IntKind.i64 x135), (C.int IntKind.i64 x136)]) = (Option.some m139)) ∧ 
 (ifB (!decide (x137 = (0 : Int))) (Q (V.c (C.bool false)) m139) (∃ n140 : Nat, 
 ((x119 = ((n140 : Nat) : Int)) ∧ ((n140 < (slLen c19)) ∧ (∃ x141 : Int, (((ldC m139 (slAt c19 (n140 * 1))) = (Option.some (C.int IntKind.i64 x141))) ∧ 
 (isPt (C.ptr (m134).nxt 0) ∧ (∃ x142 : Int, (((ldC m139 (C.ptr (m134).nxt 0)) = (Option.some (C.int IntKind.i64 x142))) ∧ 
 (ifB (decide (x141 < x142)) (Q (V.c (C.bool false)) m139) (∃ n143 : Nat, ((x119 = ((n143 : Nat) : Int)) ∧ 
 ((n143 < (slLen c19)) ∧ (∃ x144 : Int, (((ldC m139 (slAt c19 (n143 * 1))) = (Option.some (C.int IntKind.i64 x144))) ∧ 
 (isPt (C.ptr (m134).nxt 0) ∧ (∃ x145 : Int, (((ldC m139 (C.ptr (m134).nxt 1)) = (Option.some (C.int IntKind.i64 x145))) ∧ 
 (ifB (decide (x145 < x144)) (Q (V.c (C.bool false)) m139) (fitsP IntKind.i64 (x119 + (1 : Int)) ∧ 
 (R117 [(V.c (C.bool b118)), (V.c (C.int IntKind.i64 (x119 + (1 : Int))))] m139))))))))))))))))))))))))))))))))))))))))))))) (Wc prog tbl 20 [] m120 (fun v146 m147 => 
 (∃ b148 : Bool, ((v146 = (V.c (C.bool b148))) ∧ (Q (V.c (C.bool b148)) m147))))))) → 
 (R117 [(V.c (C.bool b118)), (V.c (C.int IntKind.i64 x119))] m120))))) → (R117 [(V.c (C.bool false)), 
 (V.c (C.int IntKind.i64 (0 : Int)))] m115))))))))) (Wc prog tbl 44 [(V.c (C.int IntKind.i64 x94)), 
 (V.c (C.int IntKind.i64 (1 : Int))), (V.c (C.int IntKind.i64 (3 : Int)))] m109 (fun v149 m150 => 
 (∃ b151 : Bool, ((v149 = (V.c (C.bool b151))) ∧ (ifB (!b151) (Q (V.c (C.bool false)) m150) (∀ R152 : List V → 
 M → Prop, ((∀ b153 : Bool, (∀ x154 : Int, (∀ m155 : M, ((isSl c19 ∧ (ifB (decide (x154 < (((slLen c19) : Nat) : Int))) (∃ x156 : Int, 
 (∃ x157 : Int, (∃ c158 : C, (∃ x159 : Int, (∃ c160 : C, (((ldA m155 (C.ptr (m).nxt 0) 5) = (Option.some [(C.int IntKind.i64 x156), 
 (C.int IntKind.i64 x157), c158, (C.int IntKind.i64 x159), c160])) ∧ (Wc prog tbl 33 [(V.agg 5 [(C.int IntKind.i64 x156), 
 (C.int IntKind.i64 x157), c158, (C.int IntKind.i64 x159), c160])] m155 (fun v161 m162 => 
 (∃ x163 : Int, (∃ x164 : Int, (∃ c165 : C, (∃ x166 : Int, (∃ c167 : C, ((v161 = (V.agg 5 [(C.int IntKind.i64 x163), 
 (C.int IntKind.i64 x164), c165, (C.int IntKind.i64 x166), c167])) ∧ (Wc prog tbl 42 [(V.agg 5 [(C.int IntKind.i64 x163), 
 (C.int IntKind.i64 x164), c165, (C.int IntKind.i64 x166), c167]), (V.c (C.int IntKind.i64 x154))] m162 (fun v168 m169 => 
 (∃ x170 : Int, (∃ x171 : Int, (∃ x172 : Int, ((v168 = (V.tup [(U.agg 2 [(C.int IntKind.i64 x170), 
 (C.int IntKind.i64 x171)]), (U.c (C.int IntKind.i64 x172))])) ∧ (∀ m173 : M, 
 ((m173 = (M.new m169 (AO.cells 2 [(C.int IntKind.i64 (0 : Int)), (C.int IntKind.i64 (0 : Int))] false))) → 
 (∃ m174 : M, (((stC m173 (C.ptr (m169).nxt 0) 2 [(C.int IntKind.i64 x170), (C.int IntKind.i64 x171)]) = (Option.some m174)) ∧ 
 (ifB (!decide (x172 = (0 : Int))) (Q (V.c (C.bool false)) m174) (∃ n175 : Nat, 
 ((x154 = ((n175 : Nat) : Int)) ∧ ((n175 < (slLen c19)) ∧ (∃ x176 : Int, (((ldC m174 (slAt c19 (n175 * 1))) = (Option.some (C.int IntKind.i64 x176))) ∧ 
 (isPt (C.ptr (m169).nxt 0) ∧ (∃ x177 : Int, (((ldC m174 (C.ptr (m169).nxt 0)) = (Option.some (C.int IntKind.i64 x177))) ∧ 
 (ifB (decide (x176 < x177)) (Q (V.c (C.bool false)) m174) (∃ n178 : Nat, ((x154 = ((n178 : Nat) : Int)) ∧ 
 ((n178 < (slLen c19)) ∧ (∃ x179 : Int, (((ldC m174 (slAt c19 (n178 * 1))) = (Option.some (C.int IntKind.i64 x179))) ∧ 
 (isPt (C.ptr (m169).nxt 0) ∧ (∃ x180 : Int, (((ldC m174 (C.ptr (m169).nxt 1)) = (Option.some (C.int IntKind.i64 x180))) ∧ 
 (ifB (decide (x180 < x179)) (Q (V.c (C.bool false)) m174) (fitsP IntKind.i64 (x154 + (1 : Int)) ∧ 
 (R152 [(V.c (C.bool b153)), (V.c (C.int IntKind.i64 (x154 + (1 : Int))))] m174))))))))))))))))))))))))))))))))))))))))))))) (Wc prog tbl 20 [] m155 (fun v181 m182 => 
 (∃ b183 : Bool, ((v181 = (V.c (C.bool b183))) ∧ (Q (V.c (C.bool b183)) m182))))))) → 
 (R152 [(V.c (C.bool b153)), (V.c (C.int IntKind.i64 x154))] m155))))) → (R152 [(V.c (C.bool false)), 
 (V.c (C.int IntKind.i64 (0 : Int)))] m150)))))))))) (ifB (decide (x94 = (2 : Int))) (ifB (decide (((wrapZ IntKind.i64 a300) % (101 : Int)) ≤ x59)) (Q (V.c (C.bool false)) m109) (Wc prog tbl 44 [(V.c (C.int IntKind.i64 x94)), 
 (V.c (C.int IntKind.i64 (1 : Int))), (V.c (C.int IntKind.i64 (3 : Int)))] m109 (fun v184 m185 => 
 (∃ b186 : Bool, ((v184 = (V.c (C.bool b186))) ∧ (ifB (!b186) (Q (V.c (C.bool false)) m185) (∀ R187 : List V → 
 M → Prop, ((∀ b188 : Bool, (∀ x189 : Int, (∀ m190 : M, ((isSl c19 ∧ (ifB (decide (x189 < (((slLen c19) : Nat) : Int))) (∃ x191 : Int, 
 (∃ x192 : Int, (∃ c193 : C, (∃ x194 : Int, (∃ c195 : C, (((ldA m190 (C.ptr (m).nxt 0) 5) = (Option.some [(C.int IntKind.i64 x191), 
 (C.int IntKind.i64 x192), c193, (C.int IntKind.i64 x194), c195])) ∧ (Wc prog tbl 33 [(V.agg 5 [(C.int IntKind.i64 x191), 
 (C.int IntKind.i64 x192), c193, (C.int IntKind.i64 x194), c195])] m190 (fun v196 m197 => 
 (∃ x198 : Int, (∃ x199 : Int, (∃ c200 : C, (∃ x201 : Int, (∃ c202 : C, ((v196 = (V.agg 5 [(C.int IntKind.i64 x198), 
 (C.int IntKind.i64 x199), c200, (C.int IntKind.i64 x201), c202])) ∧ (Wc prog tbl 42 [(V.agg 5 [(C.int IntKind.i64 x198), 
 (C.int IntKind.i64 x199), c200, (C.int IntKind.i64 x201), c202]), (V.c (C.int IntKind.i64 x189))] m197 (fun v203 m204 => 
 (∃ x205 : Int, (∃ x206 : Int, (∃ x207 : Int, ((v203 = (V.tup [(U.agg 2 [(C.int IntKind.i64 x205), 
 (C.int IntKind.i64 x206)]), (U.c (C.int IntKind.i64 x207))])) ∧ (∀ m208 : M, 
 ((m208 = (M.new m204 (AO.cells 2 [(C.int IntKind.i64 (0 : Int)), (C.int IntKind.i64 (0 : Int))] false))) → 
 (∃ m209 : M, (((stC m208 (C.ptr (m204).nxt 0) 2 [(C.int IntKind.i64 x205), (C.int IntKind.i64 x206)]) = (Option.some m209)) ∧ 
 (ifB (!decide (x207 = (0 : Int))) (Q (V.c (C.bool false)) m209) (∃ n210 : Nat, 
 ((x189 = ((n210 : Nat) : Int)) ∧ ((n210 < (slLen c19)) ∧ (∃ x211 : Int, (((ldC m209 (slAt c19 (n210 * 1))) = (Option.some (C.int IntKind.i64 x211))) ∧ 
 (isPt (C.ptr (m204).nxt 0) ∧ (∃ x212 : Int, (((ldC m209 (C.ptr (m204).nxt 0)) = (Option.some (C.int IntKind.i64 x212))) ∧ 
 (ifB (decide (x211 < x212)) (Q (V.c (C.bool false)) m209) (∃ n213 : Nat, ((x189 = ((n213 : Nat) : Int)) ∧ 
 ((n213 < (slLen c19)) ∧ (∃ x214 : Int, (((ldC m209 (slAt c19 (n213 * 1))) = (Option.some (C.int IntKind.i64 x214))) ∧ 
 (isPt (C.ptr (m204).nxt 0) ∧ (∃ x215 : Int, (((ldC m209 (C.ptr (m204).nxt 1)) = (Option.some (C.int IntKind.i64 x215))) ∧ 
 (ifB (decide (x215 < x214)) (Q (V.c (C.bool false)) m209) (fitsP IntKind.i64 (x189 + (1 : Int)) ∧ 
 (R187 [(V.c (C.bool b188)), (V.c (C.int IntKind.i64 (x189 + (1 : Int))))] m209))))))))))))))))))))))))))))))))))))))))))))) (Wc prog tbl 20 [] m190 (fun v216 m217 => 
 (∃ b218 : Bool, ((v216 = (V.c (C.bool b218))) ∧ (Q (V.c (C.bool b218)) m217))))))) → 
 (R187 [(V.c (C.bool b188)), (V.c (C.int IntKind.i64 x189))] m190))))) → (R187 [(V.c (C.bool false)), 
 (V.c (C.int IntKind.i64 (0 : Int)))] m185))))))))) (Wc prog tbl 44 [(V.c (C.int IntKind.i64 x94)), 
 (V.c (C.int IntKind.i64 (1 : Int))), (V.c (C.int IntKind.i64 (3 : Int)))] m109 (fun v219 m220 => 
 (∃ b221 : Bool, ((v219 = (V.c (C.bool b221))) ∧ (ifB (!b221) (Q (V.c (C.bool false)) m220) (∀ R222 : List V → 
 M → Prop, ((∀ b223 : Bool, (∀ x224 : Int, (∀ m225 : M, ((isSl c19 ∧ (ifB (decide (x224 < (((slLen c19) : Nat) : Int))) (∃ x226 : Int, 
 (∃ x227 : Int, (∃ c228 : C, (∃ x229 : Int, (∃ c230 : C, (((ldA m225 (C.ptr (m).nxt 0) 5) = (Option.some [(C.int IntKind.i64 x226), 
 (C.int IntKind.i64 x227), c228, (C.int IntKind.i64 x229), c230])) ∧ (Wc prog tbl 33 [(V.agg 5 [(C.int IntKind.i64 x226), 
 (C.int IntKind.i64 x227), c228, (C.int IntKind.i64 x229), c230])] m225 (fun v231 m232 => 
 (∃ x233 : Int, (∃ x234 : Int, (∃ c235 : C, (∃ x236 : Int, (∃ c237 : C, ((v231 = (V.agg 5 [(C.int IntKind.i64 x233), 
 (C.int IntKind.i64 x234), c235, (C.int IntKind.i64 x236), c237])) ∧ (Wc prog tbl 42 [(V.agg 5 [(C.int IntKind.i64 x233), 
 (C.int IntKind.i64 x234), c235, (C.int IntKind.i64 x236), c237]), (V.c (C.int IntKind.i64 x224))] m232 (fun v238 m239 => 
 (∃ x240 : Int, (∃ x241 : Int, (∃ x242 : Int, ((v238 = (V.tup [(U.agg 2 [(C.int IntKind.i64 x240), 
 (C.int IntKind.i64 x241)]), (U.c (C.int IntKind.i64 x242))])) ∧ (∀ m243 : M, 
 ((m243 = (M.new m239 (AO.cells 2 [(C.int IntKind.i64 (0 : Int)), (C.int IntKind.i64 (0 : Int))] false))) → 
 (∃ m244 : M, (((stC m243 (C.ptr (m239).nxt 0) 2 [(C.int IntKind.i64 x240), (C.int IntKind.i64 x241)]) = (Option.some m244)) ∧ 
 (ifB (!decide (x242 = (0 : Int))) (Q (V.c (C.bool false)) m244) (∃ n245 : Nat, 
 ((x224 = ((n245 : Nat) : Int)) ∧ ((n245 < (slLen c19)) ∧ (∃ x246 : Int, (((ldC m244 (slAt c19 (n245 * 1))) = (Option.some (C.int IntKind.i64 x246))) ∧ 
 (isPt (C.ptr (m239).nxt 0) ∧ (∃ x247 : Int, (((ldC m244 (C.ptr (m239).nxt 0)) = (Option.some (C.int IntKind.i64 x247))) ∧ 
 (ifB (decide (x246 < x247)) (Q (V.c (C.bool false)) m244) (∃ n248 : Nat, ((x224 = ((n248 : Nat) : Int)) ∧ 
 ((n248 < (slLen c19)) ∧ (∃ x249 : Int, (((ldC m244 (slAt c19 (n248 * 1))) = (Option.some (C.int IntKind.i64 x249))) ∧ 
 (isPt (C.ptr (m239).nxt 0) ∧ (∃ x250 : Int, (((ldC m244 (C.ptr (m239).nxt 1)) = (Option.some (C.int IntKind.i64 x250))) ∧ 
 (ifB (decide (x250 < x249)) (Q (V.c (C.bool false)) m244) (fitsP IntKind.i64 (x224 + (1 : Int)) ∧ 
 (R222 [(V.c (C.bool b223)), (V.c (C.int IntKind.i64 (x224 + (1 : Int))))] m244))))))))))))))))))))))))))))))))))))))))))))) (Wc prog tbl 20 [] m225 (fun v251 m252 => 
 (∃ b253 : Bool, ((v251 = (V.c (C.bool b253))) ∧ (Q (V.c (C.bool b253)) m252))))))) → 
 (R222 [(V.c (C.bool b223)), (V.c (C.int IntKind.i64 x224))] m225))))) → (R222 [(V.c (C.bool false)), 
 (V.c (C.int IntKind.i64 (0 : Int)))] m220))))))))))))))))))))))))))))))))))))))))))))))))))))))))))))))))))))))))))))))))))))))))))))))))))))))))))))))))))))))))))))))))))))))))))))))))))))))))))))))))) : Wc prog tbl 9 [(V.agg 5 [(C.int IntKind.i64 a100), (C.int IntKind.i64 a101), a102, (C.int IntKind.i64 a103), a104]), (V.c (C.int IntKind.u16 a200)), (V.c (C.int IntKind.u8 a300))] m Q :=
 wc_eq (n := 3) rfl (by kernel_rfl) (by kernel_rfl) h
end
end Go.Proofs.Ytgkjfhkjgdiodaa

namespace Go.Proofs.Ytgkjfhkjgdiodaa
open _root_.Go.Proofs.Try
open Go.Abs
set_option maxRecDepth 100000
noncomputable section
theorem wrap_sm {n : Int} (h0 : 0 ≤ n) (h1 : n ≤ 1000000) : wrapZ .i64 n = n := by
  unfold wrapZ
  rw [Go.Abs.fits_of (k := .i64) (n := n) (by simp only [fitsP]; omega)]; rfl
/-- a law's call of Hits -/
def CHd (a : Nat) (p : Int) (m : M) (R : Int → Int → Int → M → M → Prop) : Prop := ∃ x1 x2 : Int, ∃ c3 : C, ∃ x4 : Int, ∃ c5 : C, ldA m (C.ptr a 0) 5 = some [C.int .i64 x1, C.int .i64 x2, c3, C.int .i64 x4, c5] ∧ Wc prog tbl 33 [V.agg 5 [C.int .i64 x1, C.int .i64 x2, c3, C.int .i64 x4, c5]] m fun v6 m7 => ∃ x8 x9 : Int, ∃ c10 : C, ∃ x11 : Int, ∃ c12 : C, v6 = V.agg 5 [C.int .i64 x8, C.int .i64 x9, c10, C.int .i64 x11, c12] ∧
      Wc prog tbl 42 [V.agg 5 [C.int .i64 x8, C.int .i64 x9, c10, C.int .i64 x11, c12], V.c (C.int .i64 p)] m7 fun v13 m14 => ∃ x15 x16 x17 : Int, v13 = V.tup [U.agg 2 [C.int .i64 x15, C.int .i64 x16], U.c (C.int .i64 x17)] ∧ ∀ m18 : M, m18 = M.new m14 (AO.cells 2 [C.int .i64 0, C.int .i64 0] false) → ∃ m19 : M, stC m18 (C.ptr m14.nxt 0) 2 [C.int .i64 x15, C.int .i64 x16] = some m19 ∧ R x15 x16 x17 m14 m19
/-- FrameTruth's last loop -/
theorem tail9 {r c sm v : Int} {x y z : C} {L H : List Int} {N : List Cnt} {a : Nat} {m : M} {F G : M → Prop} (hx : Li m x L) (hy : Lc m y N) (hz : Li m z H) (hT : TruthR c sm L N H) (hv : svErr r c L sm N = 0) (ka : Bk m a 5 [.int .i64 r, .int .i64 c, x, .int .i64 sm, y]) (h1 : 1 ≤ v ∧ v ≤ 3) (hG : ∀ m', G m') :
    Wc prog tbl 44 [V.c (C.int .i64 v), V.c (C.int .i64 1), V.c (C.int .i64 3)] m fun v114 m115 => ∃ b116 : Bool, v114 = V.c (C.bool b116) ∧ ifB (!b116) (F m115) (∀ R117 : List V → M → Prop, (∀ b118 : Bool, ∀ x119 : Int, ∀ m120 : M, (isSl z ∧ ifB (decide (x119 < ((slLen z : Nat) : Int)))
      (CHd a x119 m120 fun _ _ e m134 m139 => ifB (!decide (e = 0)) (F m139) (∃ n140 : Nat, x119 = (n140 : Int) ∧ n140 < slLen z ∧ ∃ x141 : Int, ldC m139 (slAt z (n140 * 1)) = some (C.int .i64 x141) ∧ isPt (C.ptr m134.nxt 0) ∧ ∃ x142 : Int, ldC m139 (C.ptr m134.nxt 0) = some (C.int .i64 x142) ∧ ifB (decide (x141 < x142)) (F m139)
        (∃ n143 : Nat, x119 = (n143 : Int) ∧ n143 < slLen z ∧ ∃ x144 : Int, ldC m139 (slAt z (n143 * 1)) = some (C.int .i64 x144) ∧ isPt (C.ptr m134.nxt 0) ∧ ∃ x145 : Int, ldC m139 (C.ptr m134.nxt 1) = some (C.int .i64 x145) ∧ ifB (decide (x145 < x144)) (F m139) (fitsP .i64 (x119 + 1) ∧ R117 [V.c (C.bool b118), V.c (C.int .i64 (x119 + 1))] m139))))
      (G m120)) → R117 [V.c (C.bool b118), V.c (C.int .i64 x119)] m120) → R117 [V.c (C.bool false), V.c (C.int .i64 0)] m115) := by
  obtain ⟨hO, hsm⟩ := okay_of hv
  obtain ⟨hS, hL, hrc⟩ := field_of hO.f
  have hN := hO.n
  have ht : trueErr r c L sm N = 0 := (true_ex hv).2 ⟨H, hT⟩
  obtain ⟨_, hpos⟩ := true_sv ht
  have hHl := listed_len hT.1
  refine s44 ⟨_, rfl, ?_⟩
  rw [decide_eq_true h1]
  show ∀ R117 : List V → M → Prop, _
  intro R117 hstep
  have hgo : ∀ (d i : Nat) (b : Bool) (m' : M), d + i = H.length → Ext m m' → R117 [.c (.bool b), .c (.int .i64 (i : Int))] m' := by
    intro d
    induction d with
    | zero =>
      intro i b m' hd he
      refine hstep _ _ _ ⟨hz.isSl, ?_⟩
      rw [hz.slLen, ifB_dec]
      exact ⟨fun h1 => by omega, fun _ => hG m'⟩
    | succ d ih =>
      intro i b m' hd he
      refine hstep _ _ _ ⟨hz.isSl, ?_⟩
      rw [hz.slLen, ifB_dec]
      refine ⟨fun _ => ?_, fun h1 => absurd (by omega) h1⟩
      have hiH : i < H.length := by omega
      have hask : askErr r c L sm N (decide (0 ≤ (i : Int) ∧ (i : Int) ≤ r * c - 1)) = 0 := by unfold askErr; rw [if_pos hv, decide_eq_true ⟨by omega, by omega⟩]; exact ht
      refine cHits (hx.ext he) (by omega) (hy.ext he) (by omega) (ka.ext he) fun m1 m2 e1 e2 k => ?_
      rw [hask] at k ⊢
      have hb : boundsOf r c L sm N 0 (fun H => H[(i : Int).toNat]!) = (loOf ((truthsP c sm L N).map fun H => H[i]!), hiOf ((truthsP c sm L N).map fun H => H[i]!)) := by unfold boundsOf; rw [if_pos rfl]; rfl
      rw [hb] at k
      have hlp : 0 < ((truthsP c sm L N).map fun H => H[i]!).length := by rw [List.length_map]; exact hpos
      have hmem : H[i]! ∈ (truthsP c sm L N).map fun H => H[i]! := List.mem_map.2 ⟨H, (mem_P hv).2 hT, rfl⟩
      have h3 := (lo_spec hlp).2 _ hmem
      have h4 := (hi_spec hlp).2 _ hmem
      have he2 := (he.trans e1).trans e2
      have hrd : ldC m2 (slAt z (i * 1)) = some (.int .i64 H[i]!) := by rw [getElem!_pos H i hiH]; exact Li.rd (hz.ext he2) (List.getElem?_eq_getElem hiH)
      rw [ifB_ndec]
      refine ⟨fun h5 => absurd rfl h5, fun _ => ⟨i, rfl, hiH, _, hrd, trivial, _, k.rc (k := 0) rfl, ?_⟩⟩
      rw [ifB_dec]
      refine ⟨fun h5 => absurd h3 (by omega), fun _ => ⟨i, rfl, hiH, _, hrd, trivial, _, k.rc (k := 1) rfl, ?_⟩⟩
      rw [ifB_dec]
      exact ⟨fun h5 => absurd h4 (by omega), fun _ => ⟨fits_small (by omega) (by omega), ih (i + 1) b m2 (by omega) he2⟩⟩
  exact hgo H.length 0 false m (by omega) (.refl _)
theorem s9 {r c sm a b : Int} {x y : C} {L : List Int} {N : List Cnt} {m : M} {Q : V → M → Prop} (hx : Li m x L) (hy : Lc m y N) (ha : 0 ≤ a ∧ a ≤ 65535) (hb : 0 ≤ b ∧ b ≤ 255) (h : ∀ m', Q (.c (.bool true)) m') :
    Wc prog tbl 9 [.agg 5 [.int .i64 r, .int .i64 c, x, .int .i64 sm, y], .c (.int .u16 a), .c (.int .u8 b)] m Q := by
  have aw : ∀ m' : M, Wc prog tbl 20 [] m' (fun v m1 => ∃ b : Bool, v = .c (.bool b) ∧ Q (.c (.bool b)) m1) := fun m' => s20 ⟨_, rfl, h _⟩
  refine w9 fun m0 e0 => ?_
  obtain ⟨b0, x0⟩ := Bk.new e0
  refine ⟨r, c, x, sm, y, b0.ra, s58 (hx.ext x0) (hy.ext x0) fun m7 e7 => ⟨_, rfl, ?_⟩⟩
  have x7 := x0.trans e7
  have b7 := b0.ext e7
  rw [ifB_ndec]
  refine ⟨fun _ => aw _, fun hv => ?_⟩
  obtain ⟨hO, hsm⟩ := okay_of hv
  obtain ⟨hS, hL, hrc⟩ := field_of hO.f
  have hN := hO.n
  rw [wrap_sm ha.1 (by omega), wrap_sm hb.1 (by omega)]
  refine ⟨r, c, x, sm, y, b7.ra, s59 (hx.ext x7) (hy.ext x7) hv ⟨ha.1, by omega⟩ fun z m18 e18 hz => ⟨z, _, rfl, ?_⟩⟩
  have hHn := nthL_len L (a % (prodN L : Int))
  generalize nthL L (a % (prodN L : Int)) = H at hz hHn ⊢
  have q1 : 0 ≤ b % 101 ∧ b % 101 < 101 := ⟨Int.emod_nonneg _ (by omega), Int.emod_lt_of_pos _ (by omega)⟩
  generalize b % 101 = n at q1
  have x18 := x7.trans e18
  have b18 := b7.ext e18
  refine ⟨hb.1, by omega, fits_small (by omega) (by omega), r, c, x, sm, y, b18.ra, s33 (hx.ext x18) (by omega) (hy.ext x18) (by omega) fun xa ya m27 e27 hxa hya => ⟨r, c, xa, sm, ya, rfl, s34 (hz.ext e27) (by omega) fun z1 m34 e34 hz1 _ => ⟨z1, rfl, s35 (hxa.ext e34) (by omega) (hya.ext e34) (by omega) hz1.ls (by omega) fun m37 e37 => ⟨_, rfl, ?_⟩⟩⟩⟩
  have x37 := ((x18.trans e27).trans e34).trans e37
  have b37 := ((b18.ext e27).ext e34).ext e37
  have z37 := ((hz.ext e27).ext e34).ext e37
  rw [prove_eq hv]
  cases htr : truthR c sm L N H with
  | false => exact aw _
  | true =>
  have hT := truthR_iff.1 htr
  have ht : trueErr r c L sm N = 0 := (true_ex hv).2 ⟨H, hT⟩
  obtain ⟨_, hpos⟩ := true_sv ht
  show ∃ x42 x43 : Int, ∃ c44 : C, _
  refine ⟨r, c, x, sm, y, b37.ra, s33 (hx.ext x37) (by omega) (hy.ext x37) (by omega) fun xb yb m48 e48 hxb hyb => ⟨r, c, xb, sm, yb, rfl, s34 (z37.ext e48) (by omega) fun z2 m55 e55 hz2 _ => ⟨z2, rfl, s32 (hxb.ext e55) (by omega) (hyb.ext e55) (by omega) hz2.ls (by omega) fun m58 e58 => ⟨_, _, rfl, ?_⟩⟩⟩⟩
  have hsr : shareRes r c L sm N H = (shareOf L H, 0) := by unfold shareRes; rw [if_pos hv, if_pos hT.1]
  rw [hsr]
  have x58 := ((x37.trans e48).trans e55).trans e58
  have b58 := ((b37.ext e48).ext e55).ext e58
  have z58 := ((z37.ext e48).ext e55).ext e58
  refine cBounds (hx.ext x58) (by omega) (hy.ext x58) (by omega) b58 fun m74 m79 e74 e79 kB => ?_
  have x79 := (x58.trans e74).trans e79
  have b79 := (b58.ext e74).ext e79
  have z79 := (z58.ext e74).ext e79
  refine ⟨r, c, x, sm, y, b79.ra, s33 (hx.ext x79) (by omega) (hy.ext x79) (by omega) fun xc yc m86 e86 hxc hyc => ⟨r, c, xc, sm, yc, rfl, s48 hxc (by omega) hyc (by omega) fun m93 e93 => ⟨_, _, rfl, ?_⟩⟩⟩
  have x93 := (x79.trans e86).trans e93
  have b93 := (b79.ext e86).ext e93
  have z93 := (z79.ext e86).ext e93
  refine ⟨r, c, x, sm, y, b93.ra, s33 (hx.ext x93) (by omega) (hy.ext x93) (by omega) fun xd yd m102 e102 hxd hyd => ⟨r, c, xd, sm, yd, rfl, s52 hxd (by omega) hyd (by omega) fun z3 m109 e109 hz3 => ⟨z3, _, rfl, ?_⟩⟩⟩
  have x109 := (x93.trans e102).trans e109
  have b109 := (b93.ext e102).ext e109
  have z109 := (z93.ext e102).ext e109
  have kB109 := (((kB.ext e86).ext e93).ext e102).ext e109
  rw [leave_true ht] at hz3
  have hask : askErr r c L sm N (decide (0 ≤ n ∧ n ≤ 100)) = 0 := by unfold askErr; rw [if_pos hv, decide_eq_true ⟨q1.1, by omega⟩]; exact ht
  have hb1 : boundsOf r c L sm N (trueErr r c L sm N) (shareOf L) = (loOf ((truthsP c sm L N).map (shareOf L)), hiOf ((truthsP c sm L N).map (shareOf L))) := by unfold boundsOf; rw [if_pos ht]
  rw [hb1] at kB109
  rw [hask, ht, hv, hz3.slLen]
  have hlp : 0 < ((truthsP c sm L N).map (shareOf L)).length := by rw [List.length_map]; exact hpos
  have hmem : shareOf L H ∈ (truthsP c sm L N).map (shareOf L) := List.mem_map.2 ⟨H, (mem_P hv).2 hT, rfl⟩
  have h3 := (lo_spec hlp).2 _ hmem
  have h4 := (hi_spec hlp).2 _ hmem
  unfold aboveV
  rw [if_pos hask]
  generalize loOf ((truthsP c sm L N).map (shareOf L)) = lo at kB109 h3
  generalize hiOf ((truthsP c sm L N).map (shareOf L)) = hi at kB109 h4
  generalize shareOf L H = sh at h3 h4
  have hva : (1 ≤ (if n ≤ lo then 1 else if hi < n then 2 else 3 : Int) ∧ (if n ≤ lo then 1 else if hi < n then 2 else 3 : Int) ≤ 3) ∧ ((if n ≤ lo then 1 else if hi < n then 2 else 3 : Int) = 1 → n ≤ sh) ∧ ((if n ≤ lo then 1 else if hi < n then 2 else 3 : Int) = 2 → sh < n) := by
    split
    · exact ⟨by omega, fun _ => by omega, fun h5 => by omega⟩
    · split
      · exact ⟨by omega, fun h5 => by omega, fun _ => by omega⟩
      · exact ⟨by omega, fun h5 => by omega, fun h5 => by omega⟩
  generalize (if n ≤ lo then 1 else if hi < n then 2 else 3 : Int) = av at hva
  obtain ⟨hv3, hv1, hv2⟩ := hva
  have tl := fun (F G : M → Prop) => tail9 (F := F) (G := G) (hx.ext x109) (hy.ext x109) z109 hT hv b109 hv3
  show ifB false _ (ifB false _ (ifB false _ (ifB false _ (_ ∧ ifB false _ _))))
  simp only [ifB_false]
  refine ⟨hz3.isSl, trivial, _, kB109.rc (k := 0) rfl, ?_⟩
  rw [ifB_dec]
  refine ⟨fun h5 => absurd h3 (by omega), fun _ => ⟨trivial, _, kB109.rc (k := 1) rfl, ?_⟩⟩
  rw [ifB_dec]
  refine ⟨fun h5 => absurd h4 (by omega), fun _ => ?_⟩
  rw [ifB_dec]
  refine ⟨fun h5 => ?_, fun h5 => ?_⟩
  · rw [ifB_dec]
    refine ⟨fun h6 => absurd (hv1 h5) (by omega), fun _ => ?_⟩
    rw [ifB_dec]
    refine ⟨fun h6 => by omega, fun _ => ?_⟩
    exact tl _ _ aw
  · rw [ifB_dec]
    refine ⟨fun h6 => ?_, fun _ => tl _ _ aw⟩
    rw [ifB_dec]
    exact ⟨fun h7 => absurd (hv2 h6) (by omega), fun _ => tl _ _ aw⟩
end
end Go.Proofs.Ytgkjfhkjgdiodaa

namespace Go.Proofs.Ytgkjfhkjgdiodaa
open _root_.Go.Proofs.Try
open Go.ChangeShapes Go.WideShapes Go.ChangeAt Go.RowKit Go.Abs
set_option maxRecDepth 100000
theorem els_cnts {els : List (List C)} (h : ∀ el ∈ els, All2 PkC [.int .i64, .int .i64, .int .i64, .bool] el) : ∃ N : List Cnt, els = N.map Cnt.cs ∧ PsFit N := by
  induction els with
  | nil => exact ⟨[], rfl, fun c hc => by cases hc⟩
  | cons e es ih =>
    obtain ⟨N, h1, h2⟩ := ih fun el hel => h el (List.mem_cons_of_mem _ hel)
    have he := h e (List.mem_cons_self ..)
    cases he with
    | cons q1 q2 =>
      cases q2 with
      | cons r1 r2 =>
        cases r2 with
        | cons s1 s2 =>
          cases s2 with
          | cons t1 t2 =>
            cases t2
            obtain ⟨p, rfl, hf⟩ := pk_int q1
            obtain ⟨lo, rfl, _⟩ := pk_int r1
            obtain ⟨hi, rfl, _⟩ := pk_int s1
            obtain ⟨b, rfl⟩ := pk_bool t1
            exact ⟨⟨p, lo, hi, b⟩ :: N, by rw [h1]; rfl, fun c hc => (List.mem_cons.1 hc).elim (fun h => h ▸ hf) (h2 c)⟩
/-- a slice of counts that a law is called with -/
theorem lc_of {all : List X} {i : Nat} {x : X} (hi : all[i]? = some x) (hk : XK (.sl [.int .i64, .int .i64, .int .i64, .bool]) x) : ∃ N : List Cnt, Lc (memOf all) (cOf i x) N ∧ PsFit N := by
  obtain ⟨hs, he⟩ := xk_sl hk
  obtain ⟨N, h1, h2⟩ := els_cnts he
  have := ls_of hi hs (k := 4) fun el hel => (he el hel).length.symm
  rw [h1, List.length_map] at this
  exact ⟨N, this, h2⟩
theorem get_mid {A B E : List X} {j : Nat} {x : X} (hx : B[j]? = some x) : (A ++ B ++ E)[A.length + j]? = some x := by
  rw [List.append_assoc, List.getElem?_append_right (by omega), Nat.add_sub_cancel_left, List.getElem?_append_left (List.getElem?_eq_some_iff.1 hx).1]; exact hx
theorem kk30 : kindsOf prog 9 30 = some [.pl (.int .i64), .pl (.int .i64), .sl [.int .i64], .pl (.int .i64), .sl [.int .i64, .int .i64, .int .i64, .bool]] := by kernel_rfl
theorem kk86 : kindsOf prog 9 86 = some [.pl (.int .u16)] := by kernel_rfl
theorem kk5 : kindsOf prog 9 5 = some [.pl (.int .u8)] := by kernel_rfl
theorem laid : laidOutB prog = true := by kernel_rfl
theorem ownNone : ownKnob prog.godebug = none := by kernel_rfl
theorem truth_lifted (os : Os) (started : os.Started) (H : Type) (enc : TypeId × Value → H) :
    ReturnsInHanded {} Try.checked os 9 .any (Rows.frameTruthSpec.pre6 enc Try.prog Try.f9 Rows.frameTruthRow.domain false) (Rows.frameTruthSpec.post enc Try.prog Try.f9 false true false false) := by
  refine returnsInHanded_of_change (C := Try.checked) ownNone started (by kernel_rfl) Try.func9
    (ChangeSpec.witness6 (enc := enc) (C := Try.checked) false ⟨#[], #[.agg #[.int .i64 0, .int .i64 0, .slice none 0 0, .int .i64 0, .slice none 0 0], .int .u16 0, .int .u8 0], []⟩ 8 (by kernel_rfl) (by kernel_rfl) (by kernel_rfl) (by kernel_rfl)) ?_
  intro W base args ds gs before hval0 hW hcnd _
  have hval : ∀ (j : Nat) t v, Try.f9.params[j]? = some t → args[j]? = some v → Value.okWide Try.prog W .any base t v := hval0
  have hW' := hW
  obtain ⟨p, q, hA0, hV, rfl, hfz, hnd⟩ := hW
  have hA : DataW.TrodAll enc Try.prog W 0 (fun _ => true) true Try.f9.params.toList args.toList ds p := hA0
  rw [Try.params9] at hA hval
  obtain ⟨v0, v1, v2, d0, d1, d2, p0, p1, p2, rfl, rfl, rfl, h0, h1, h2⟩ := trodAll_three hA
  obtain ⟨rfl, rfl⟩ := trodVars_none hV
  obtain ⟨n1, hv1⟩ := okWide_int Try.underlying86 (hval 1 86 v1 rfl rfl)
  obtain ⟨n2, hv2⟩ := okWide_int Try.underlying5 (hval 2 5 v2 rfl rfl)
  have hlt : ∀ x ∈ p0 ++ p1 ++ p2, x.block < W.heap.size := fun x hx => by simpa using hW'.lt x (by simpa using hx)
  obtain ⟨fu0, hf0⟩ := id h0
  obtain ⟨fu1, hf1⟩ := id h1
  obtain ⟨fu2, hf2⟩ := id h2
  clear hA0 hval0
  obtain ⟨xs0, x0, y0⟩ := open_trod 9 kk30 hf0
  obtain ⟨xs1, x1, y1⟩ := open_trod 9 kk86 hf1
  obtain ⟨xs2, x2, y2⟩ := open_trod 9 kk5 hf2
  obtain ⟨cs0, rfl, z0⟩ := agg_of x0 (by rw [← y0.length]; decide)
  have z1 := x1
  have z2 := x2
  have hall := ((z0.app z1).app z2)
  have c0 := crs_of (W := W) (all := xs0 ++ xs1 ++ xs2) (i := ([] : List X).length) (xs := xs0) (fun j x hx => by rw [show xs0 ++ xs1 ++ xs2 = ([]) ++ xs0 ++ (xs1 ++ xs2) from by simp only [List.append_assoc, List.nil_append, List.append_nil]]; exact get_mid hx) z0
  have c1 := crs_of (W := W) (all := xs0 ++ xs1 ++ xs2) (i := (xs0 : List X).length) (xs := xs1) (fun j x hx => by rw [show xs0 ++ xs1 ++ xs2 = (xs0) ++ xs1 ++ (xs2) from by simp only [List.append_assoc, List.nil_append, List.append_nil]]; exact get_mid hx) z1
  have c2 := crs_of (W := W) (all := xs0 ++ xs1 ++ xs2) (i := (xs0 ++ xs1 : List X).length) (xs := xs2) (fun j x hx => by rw [show xs0 ++ xs1 ++ xs2 = (xs0 ++ xs1) ++ xs2 ++ ([]) from by simp only [List.append_assoc, List.nil_append, List.append_nil]]; exact get_mid hx) z2
  have hr := hr_of (W := W) (all := xs0 ++ xs1 ++ xs2) (xr_some hall)
  cases y0 with
  | cons q0 y0 =>
  cases y0 with
  | cons q1 y0 =>
  cases y0 with
  | cons q2 y0 =>
  cases y0 with
  | cons q3 y0 =>
  cases y0 with
  | cons q4 y0 =>
  cases y0
  cases y1 with
  | cons q5 y1 =>
  cases y1
  cases y2 with
  | cons q6 y2 =>
  cases y2
  obtain ⟨r0, rfl⟩ := xk_int q0
  obtain ⟨c0', rfl⟩ := xk_int q1
  obtain ⟨t0, rfl⟩ := xk_int q3
  obtain ⟨a1, rfl⟩ := xk_int q5
  obtain ⟨a2, rfl⟩ := xk_int q6
  rename_i s0a s0b
  obtain ⟨L0, hL0, _⟩ := li_of (all := [.int .i64 r0, .int .i64 c0', s0a, .int .i64 t0, s0b] ++ [.int .u16 a1] ++ [.int .u8 a2]) (i := 2) rfl q2
  obtain ⟨N0, hN0, hP0⟩ := lc_of (all := [.int .i64 r0, .int .i64 c0', s0a, .int .i64 t0, s0b] ++ [.int .u16 a1] ++ [.int .u8 a2]) (i := 4) rfl q4
  subst hv1 hv2
  have fa1 : fitsP .u16 a1 := by
    cases x1 with
    | cons e1 e2 => exact e1.2
  simp only [fitsP] at fa1
  have fa2 : fitsP .u8 a2 := by
    cases x2 with
    | cons e1 e2 => exact e1.2
  simp only [fitsP] at fa2
  have hargs : All2 (VR (envOf W ([.int .i64 r0, .int .i64 c0', s0a, .int .i64 t0, s0b] ++ [.int .u16 a1] ++ [.int .u8 a2]))) [.agg 5 [.int .i64 r0, .int .i64 c0', cOf 2 s0a, .int .i64 t0, cOf 4 s0b], .c (.int .u16 a1), .c (.int .u8 a2)] [.agg cs0, .int .u16 n1, .int .u8 n2] := by
    cases c1 with
    | cons g1 g1' =>
    cases c2 with
    | cons g2 g2' =>
    exact .cons ⟨cs0, rfl, c0, rfl⟩ (.cons g1 (.cons g2 (.nil)))
  refine (callsIn_wide.1 (call_of fits htab (s9 (Q := fun v _ => v = .c (.bool true)) hL0 hN0 ⟨by omega, by omega⟩ ⟨by omega, by omega⟩ fun _ => rfl) hr (args' := #[.agg cs0, .int .u16 n1, .int .u8 n2]) hargs 0)).mono fun en W' hp => ?_
  obtain ⟨v, v', e', m', rfl, hst, hvr, rfl⟩ := hp
  have hv' : v' = .bool true := hvr
  subst hv'
  have hbelow := below_of hst
  refine ⟨_, rfl, [d0, d1, d2], [], p0 ++ p1 ++ p2, [], p0 ++ (p1 ++ p2), [], by simpa using hW', trodAll_mk1 (shut_bool Try.underlying4 _),
    trodAll_mk3 (Below.trod laid (by kernel_rfl) (of_decide_eq_true (by kernel_rfl)) h0 hbelow fun x hx => hlt x (by simp [hx])) (Below.trod laid (by kernel_rfl) (of_decide_eq_true (by kernel_rfl)) h1 hbelow fun x hx => hlt x (by simp [hx])) (Below.trod laid (by kernel_rfl) (of_decide_eq_true (by kernel_rfl)) h2 hbelow fun x hx => hlt x (by simp [hx])), rfl, kept_of hst _, fun hc => by cases hc⟩
theorem truth_holds : Rows.FrameTruthSaid :=
  OpenClaim.holds_of_wide 9 Try.f9 rfl rfl rfl rfl rfl rfl rfl ⟨rfl, rfl, rfl, rfl, rfl⟩ rfl rfl rfl rfl rfl (by kernel_rfl) Try.func9 (by kernel_rfl)
    (of_decide_eq_true (by kernel_rfl)) (by unfold Func.isWrapper; first | (rw [if_pos (by decide +kernel)]; kernel_rfl) | (rw [if_neg (by decide +kernel)]; exact ⟨rfl, rfl⟩))
    (fun os started H enc _ => truth_lifted os started H enc)
end Go.Proofs.Ytgkjfhkjgdiodaa

