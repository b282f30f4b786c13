/- What functions of the program ask and do. Condition: none; a lemma text of this claim. -/
import Derived.Test.YtgkjfhkjgdiodaaSpH
namespace Go.Proofs.Ytgkjfhkjgdiodaa
open _root_.Go.Proofs.Try
open Go.Abs
set_option maxRecDepth 100000
noncomputable section
def ints' (l : List C) : List C := l
def truthsP (c sm : Int) (L : List Int) (N : List Cnt) : List (List Int) := exts c sm L N false6 L.length []
def trueErr (r c : Int) (L : List Int) (sm : Int) (N : List Cnt) : Int := if svErr r c L sm N = 0 then (if (truthsP c sm L N).isEmpty then 9 else 0) else svErr r c L sm N
theorem truthsV_emp (c sm : Int) (L : List Int) (N : List Cnt) : (truthsV c sm L N (marksL false6 [])).isEmpty = (truthsP c sm L N).isEmpty := by
  show (truthsV c sm L N false6).isEmpty = _
  unfold truthsV truthsP
  cases exts c sm L N false6 L.length [] <;> rfl
/-- openTrue -/
theorem s81 {r c sm : Int} {x y : C} {L : List Int} {N : List Cnt} {m : M} {Q : V → M → Prop} (hx : Li m x L) (hL : L.length ≤ 1048576) (hy : Lc m y N) (hN : N.length ≤ 1000)
    (hbad : trueErr r c L sm N ≠ 0 → ∀ m', Ext m m' → Q (.tup [.agg 6 [.int .i64 0, .int .i64 0, .sl0, .int .i64 0, .sl0, .map0], .c (.int .i64 (trueErr r c L sm N))]) m')
    (hgood : trueErr r c L sm N = 0 → ∀ m' mb f, Ext m m' → Wk m' L N mb f → Q (.tup [.agg 6 [.int .i64 r, .int .i64 c, x, .int .i64 sm, y, .map mb], .c (.int .i64 0)]) m') :
    Wc prog tbl 81 [.agg 5 [.int .i64 r, .int .i64 c, x, .int .i64 sm, y]] m Q := by
  refine w81 fun m0 e0 m1 e1 => ?_
  obtain ⟨b0, x0⟩ := Bk.new e0
  obtain ⟨b1, x1⟩ := Bk.new e1
  have x01 := x0.trans x1
  have n0 : m0.nxt = m.nxt + 1 := by rw [e0]; rfl
  refine ⟨r, c, x, sm, y, (b0.ext x1).ra, s37 (hx.ext x01) hL (hy.ext x01) hN fun m8 e8 => ⟨_, rfl, ?_⟩⟩
  have x8 := x01.trans e8
  have k0 := (b0.ext x1).ext e8
  have k1 := b1.ext e8
  rw [ifB_ndec]
  refine ⟨fun h1 => ?_, fun h1 => ?_⟩
  · have ht : trueErr r c L sm N = svErr r c L sm N := by unfold trueErr; rw [if_neg h1]
    refine ⟨_, k1.st _, 0, 0, .sl0, 0, .sl0, .map0, (k1.set _).ra, ?_⟩
    have hq := hbad (by rw [ht]; exact h1) _ (x8.setR (b := m0.nxt) (by omega) (.cells 6 [.int .i64 0, .int .i64 0, .sl0, .int .i64 0, .sl0, .map0] false))
    rw [ht] at hq
    exact hq
  obtain ⟨hO, hsm⟩ := okay_of h1
  refine ⟨r, c, x, sm, y, k0.ra, s76 (hx.ext x8) (hy.ext x8) hO fun m23 mb f e23 hmp hms => ⟨r, c, x, sm, y, .map mb, rfl, fun m30 h30 => ?_⟩⟩
  obtain ⟨b30, x30⟩ := Bk.new h30
  have k31 := b30.set [.int .i64 r, .int .i64 c, x, .int .i64 sm, y, .map mb]
  have e31 : Ext m23 (m30.set m23.nxt (.cells 6 [.int .i64 r, .int .i64 c, x, .int .i64 sm, y, .map mb] false)) := x30.setR (Nat.le_refl _) _
  refine ⟨_, b30.st _, r, c, x, sm, y, .map mb, k31.ra, ?_⟩
  generalize m30.set m23.nxt (.cells 6 [.int .i64 r, .int .i64 c, x, .int .i64 sm, y, .map mb] false) = m31 at k31 e31
  have x31 := (x8.trans e23).trans e31
  have hw31 : Wk m31 L N mb f := ⟨hmp.ext e31, hms⟩
  refine s91 hw31 (hx.ext x31) hO.f (D := []) (Ls.nil m31 1) (by simp) (by simp) fun m39 e39 => ⟨_, rfl, ?_⟩
  have x39 := x31.trans e39
  have k1' := ((k1.ext e23).ext e31).ext e39
  rw [truthsV_emp, Bool.not_not, ifB_iff]
  refine ⟨fun h2 => ?_, fun h2 => ?_⟩
  · have ht : trueErr r c L sm N = 9 := by unfold trueErr; rw [if_pos h1, h2]; rfl
    refine ⟨_, k1'.st _, 0, 0, .sl0, 0, .sl0, .map0, (k1'.set _).ra, ?_⟩
    have hq := hbad (by rw [ht]; decide) _ (x39.setR (b := m0.nxt) (by omega) (.cells 6 [.int .i64 0, .int .i64 0, .sl0, .int .i64 0, .sl0, .map0] false))
    rw [ht] at hq
    exact hq
  · have ht : trueErr r c L sm N = 0 := by unfold trueErr; rw [if_pos h1, h2]; rfl
    refine ⟨r, c, x, sm, y, .map mb, (k31.ext e39).ra, _, k1'.st _, r, c, x, sm, y, .map mb, (k1'.set _).ra, ?_⟩
    have hne : mb ≠ m0.nxt := fun h3 => by
      obtain ⟨es, clock, hg, _⟩ := (hw31.ext e39).mp.ex
      rw [h3, k1'.g] at hg
      cases hg
    exact hgood ht _ mb f (x39.setR (by omega) _) ⟨((hw31.ext e39).mp.setNe hne _), hms⟩
end
end Go.Proofs.Ytgkjfhkjgdiodaa

namespace Go.Proofs.Ytgkjfhkjgdiodaa
open _root_.Go.Proofs.Try
open Go.Abs
set_option maxRecDepth 100000
noncomputable section
def minR (a : Int) : List Int → Int
  | [] => a
  | v :: D => minR (if v < a then v else a) D
def maxR (a : Int) : List Int → Int
  | [] => a
  | v :: D => maxR (max a v) D
theorem minR_step {D : List Int} {i : Nat} (hi : i < D.length) (a : Int) : minR a (D.drop i) = minR (if D[i] < a then D[i] else a) (D.drop (i + 1)) := by rw [List.drop_eq_getElem_cons hi]; rfl
theorem maxR_step {D : List Int} {i : Nat} (hi : i < D.length) (a : Int) : maxR a (D.drop i) = maxR (max a D[i]) (D.drop (i + 1)) := by rw [List.drop_eq_getElem_cons hi]; rfl
def loOf : List Int → Int
  | [] => 0
  | v :: D => minR v (v :: D)
def hiOf : List Int → Int
  | [] => 0
  | v :: D => maxR v D
theorem s101 {z : C} {D : List Int} {m : M} {Q : V → M → Prop} (hz : Li m z D) (hD : D.length ≤ 100000) (h : Q (.c (.int .i64 (loOf D))) m) : Wc prog tbl 101 [.c z] m Q := by
  refine w101 ⟨hz.isSl, ?_⟩
  rw [hz.slLen, ifB_dec]
  refine ⟨fun h0 => ?_, fun h0 => ?_⟩
  · have : D = [] := List.eq_nil_of_length_eq_zero (by omega)
    subst this; exact h
  · have h1 : 0 < D.length := by omega
    refine ⟨0, rfl, h1, D[0], Li.rd hz (List.getElem?_eq_getElem h1), hz.isSl, fun R2 hstep => ?_⟩
    have hlo : loOf D = minR D[0] (D.drop 0) := by
      cases D with
      | nil => simp at h1
      | cons v D => rfl
    have hgo : ∀ (d i : Nat) (a : Int), d + i = D.length → minR a (D.drop i) = loOf D → R2 [.c (.int .i64 a), .c (.int .i64 (i : Int))] m := by
      intro d
      induction d with
      | zero =>
        intro i a hd heq
        refine hstep _ _ _ ?_
        rw [ifB_dec]
        refine ⟨fun h1 => by omega, fun _ => ?_⟩
        rw [List.drop_eq_nil_of_le (by omega)] at heq
        rw [← heq] at h
        exact h
      | succ d ih =>
        intro i a hd heq
        refine hstep _ _ _ ?_
        rw [ifB_dec]
        refine ⟨fun _ => ?_, fun h1 => absurd (by omega) h1⟩
        have hi : i < D.length := by omega
        rw [minR_step hi] at heq
        refine ⟨i, rfl, hi, D[i], Li.rd hz (List.getElem?_eq_getElem hi), ?_⟩
        rw [ifB_dec]
        refine ⟨fun h2 => ⟨fits_small (by omega) (by omega), ih (i + 1) _ (by omega) (by rw [if_pos h2] at heq; exact heq)⟩, fun h2 => ⟨fits_small (by omega) (by omega), ih (i + 1) _ (by omega) (by rw [if_neg h2] at heq; exact heq)⟩⟩
    exact hgo D.length 0 D[0] (by omega) hlo.symm
theorem s102 {z : C} {D : List Int} {m : M} {Q : V → M → Prop} (hz : Li m z D) (hD : D.length ≤ 100000) (h1 : 0 < D.length) (h : Q (.c (.int .i64 (hiOf D))) m) : Wc prog tbl 102 [.c z] m Q := by
  refine w102 ⟨hz.isSl, ?_⟩
  rw [hz.slLen, ifB_dec]
  refine ⟨fun h0 => by omega, fun h0 => ?_⟩
  refine ⟨0, rfl, h1, D[0], Li.rd hz (List.getElem?_eq_getElem h1), fun R2 hstep => ?_⟩
  have hlo : hiOf D = maxR D[0] (D.drop 1) := by
    cases D with
    | nil => simp at h1
    | cons v D => rfl
  have hgo : ∀ (d i : Nat) (a : Int), d + i = D.length → maxR a (D.drop i) = hiOf D → R2 [.c (.int .i64 a), .c (.int .i64 (i : Int))] m := by
    intro d
    induction d with
    | zero =>
      intro i a hd heq
      refine hstep _ _ _ ⟨hz.isSl, ?_⟩
      rw [ifB_dec]
      refine ⟨fun h1 => by omega, fun _ => ?_⟩
      rw [List.drop_eq_nil_of_le (by omega)] at heq
      rw [← heq] at h
      exact h
    | succ d ih =>
      intro i a hd heq
      refine hstep _ _ _ ⟨hz.isSl, ?_⟩
      rw [ifB_dec]
      refine ⟨fun _ => ?_, fun h1 => absurd (by omega) h1⟩
      have hi : i < D.length := by omega
      rw [maxR_step hi] at heq
      exact ⟨i, rfl, hi, D[i], Li.rd hz (List.getElem?_eq_getElem hi), fits_small (by omega) (by omega), ih (i + 1) _ (by omega) heq⟩
  exact hgo (D.length - 1) 1 D[0] (by omega) hlo.symm
theorem s100 {r c sm : Int} {x y : C} {L : List Int} {N : List Cnt} {mb : Nat} {f : Spot → Option U} {m : M} {Q : V → M → Prop} (hw : Wk m L N mb f) (hx : Li m x L)
    (h : ∀ m' b b2, Ext m m' → Rd r c sm x y L N mb f false6 b b2 m' → m.nxt ≤ b → m.nxt ≤ b2 → Q (.c (.fn (.func 120) [] [.c (.ptr b 0), .c (.ptr b2 0)])) m') :
    Wc prog tbl 100 [.agg 6 [.int .i64 r, .int .i64 c, x, .int .i64 sm, y, .map mb]] m Q := by
  refine w100 fun m0 e0 => ?_
  obtain ⟨b0, x0⟩ := Bk.new e0
  exact ⟨r, c, x, sm, y, .map mb, b0.ra, s108 (O := false6) (hw.ext x0) (hx.ext x0) rfl fun m' b b2 e hR h1 h2 => ⟨_, rfl, h m' b b2 (x0.trans e) hR (Nat.le_trans x0.nxt h1) (Nat.le_trans x0.nxt h2)⟩⟩
/-- a function value gives a number for each truth -/
def NumOf (r c sm : Int) (x y : C) (mb : Nat) (m : M) (T : List (List Int)) (fnc : C) (num : List Int → Int) : Prop :=
  ∀ m' H, H ∈ T → Ext m m' → ∀ Q : V → M → Prop, (∀ m'', Ext m' m'' → Q (.c (.int .i64 (num H))) m'') → callP prog tbl [.agg 6 [.int .i64 r, .int .i64 c, x, .int .i64 sm, y, .map mb], .agg 9 (ints (pad H))] fnc m' Q
theorem s82 {r c sm : Int} {x y : C} {L : List Int} {N : List Cnt} {mb : Nat} {f : Spot → Option U} {fnc : C} {num : List Int → Int} {m : M} {Q : V → M → Prop} (hw : Wk m L N mb f) (hx : Li m x L) (hf : isField r c L = true)
    (hne : 0 < (truthsP c sm L N).length) (hle : (truthsP c sm L N).length ≤ 100000) (hnum : NumOf r c sm x y mb m (truthsP c sm L N) fnc num)
    (h : ∀ m', Ext m m' → Q (.agg 2 [.int .i64 (loOf ((truthsP c sm L N).map num)), .int .i64 (hiOf ((truthsP c sm L N).map num))]) m') :
    Wc prog tbl 82 [.agg 6 [.int .i64 r, .int .i64 c, x, .int .i64 sm, y, .map mb], .agg 1 [fnc]] m Q := by
  obtain ⟨_, hL9, _⟩ := field_of hf
  refine w82 fun m0 e0 m1 e1 m2 e2 m3 e3 => ?_
  obtain ⟨b0, x0⟩ := Bk.new e0
  obtain ⟨b1, x1⟩ := Bk.new e1
  obtain ⟨b2, x2⟩ := Bk.new e2
  obtain ⟨b3, x3⟩ := Bk.new e3
  have n0 : m0.nxt = m.nxt + 1 := by rw [e0]; rfl
  have n1 : m1.nxt = m.nxt + 2 := by rw [e1]; show m0.nxt + 1 = _; omega
  have n2 : m2.nxt = m.nxt + 3 := by rw [e2]; show m1.nxt + 1 = _; omega
  have n3 : m3.nxt = m.nxt + 4 := by rw [e3]; show m2.nxt + 1 = _; omega
  have x03 := ((x0.trans x1).trans x2).trans x3
  refine ⟨r, c, x, sm, y, .map mb, (((b0.ext x1).ext x2).ext x3).ra, s100 (hw.ext x03) (hx.ext x03) fun mL bb bb2 eL hR hbb hbb2 => ⟨_, rfl, ?_⟩⟩
  have kw := (((b0.ext x1).ext x2).ext x3).ext eL
  have kq := ((b1.ext x2).ext x3).ext eL
  have kr := (b2.ext x3).ext eL
  have kn := b3.ext eL
  have xL := x03.trans eL
  clear e0 e1 e2 e3 b0 b1 b2 b3 x0 x1 x2 x3
  generalize hnb : m2.nxt = nb at n2 kn
  have hnbL := kn.lt
  have hflag : ∀ b', b' = nb → ¬ Ds x mb bb bb2 b' := fun b' hb' hds => by
    rcases ds_old (m := m) hw hx hds with h1 | h1 | h1
    · omega
    · omega
    · omega
  have hlen : (truthsV c sm L N false6).length = (truthsP c sm L N).length := by unfold truthsV truthsP; rw [List.length_map]
  refine range_iter (without_iter hf rfl) hR
    (J := fun i S ma => ∃ s : C, (∀ b', S b' ↔ b' = nb ∨ ∃ o n s' d, s = .sl b' o n s' d) ∧ (∀ b' o n s' d, s = .sl b' o n s' d → mL.nxt ≤ b') ∧ Bk ma nb 1 [s] ∧ Own1 ma 1 s (ints (((truthsP c sm L N).map num).take i)) i ∧ mL.nxt ≤ ma.nxt ∧ ma.vw = mL.vw ∧ ∀ b', b' < mL.nxt → b' ≠ nb → ma.g b' = mL.g b')
    (X := fun _ _ _ => False) (fun i => ⟨fun S ma mb' hj hn hv hg hlow => ?_, fun S ma hj b' hb' => ?_⟩) (fun ex => ⟨fun _ _ _ hj _ _ _ _ => hj, fun _ _ hj => hj.elim⟩) (S0 := fun b' => b' = nb) ?_ (fun b' hb' => hflag b' hb') ?_ ?_ (fun _ _ _ _ _ _ _ hj => hj.elim) (fun _ _ _ _ _ _ hj => hj.elim)
  · obtain ⟨s, q1, q2, q3, q4, q5, q6, q7⟩ := hj
    exact ⟨s, q1, q2, ⟨(hg nb ((q1 nb).2 (.inl rfl))).trans q3.g, Nat.lt_of_lt_of_le q3.lt hn⟩, q4.to hn (fun b' _ hx' => by obtain ⟨s', d, hx'⟩ := hx'; exact hg b' ((q1 b').2 (.inr ⟨_, _, s', d, hx'⟩))), Nat.le_trans q5 hn, hv.trans q6, fun b' hb' hne' => (hlow b' hb').trans (q7 b' hb' hne')⟩
  · obtain ⟨s, q1, q2, q3, q4, q5, q6, q7⟩ := hj
    rcases (q1 b').1 hb' with rfl | ⟨o, n, s', d, hx'⟩
    · exact q3.lt
    · exact q4.lt hx'
  · exact ⟨.sl0, fun b' => ⟨fun h => .inl h, fun h => h.elim id fun ⟨_, _, _, _, h2⟩ => (by cases h2)⟩, fun _ _ _ _ _ h => (by cases h), kn, Own1.nil' _ _, Nat.le_refl _, rfl, fun _ _ _ => rfl⟩
  · intro i xv S ma B' enter K hxv hj hlt hSl hown henter hK
    obtain ⟨s, q1, q2, q3, q4, q5, q6, q7⟩ := hj
    have hxv' := hxv
    unfold truthsV at hxv'
    rw [List.getElem?_map] at hxv'
    cases hH : (exts c sm L N false6 L.length [])[i]? with
    | none => rw [hH] at hxv'; cases hxv'
    | some H =>
    rw [hH] at hxv'
    have hxe : [V.agg 9 (ints (pad H))] = xv := by injection hxv'
    have hmem : H ∈ truthsP c sm L N := List.mem_of_getElem? hH
    have hlenH : H.length = L.length := ((mem_exts hf H L.length 0 [] (by omega) rfl).1 hmem).1
    have hiT : i < (truthsP c sm L N).length := (List.getElem?_eq_some_iff.1 hH).1
    obtain ⟨p0, p1, p2, p3, p4, p5, p6, p7, p8, hp⟩ := nine (pad_len (H := H) (by omega))
    refine ⟨p0, p1, p2, p3, p4, p5, p6, p7, p8, by rw [← hxe, hp]; rfl, fun m26 h26 => ?_⟩
    obtain ⟨b26, x26⟩ := Bk.new h26
    refine ⟨_, b26.st _, ?_⟩
    have k27 := b26.set (ints [p0, p1, p2, p3, p4, p5, p6, p7, p8])
    have e27 : Ext ma (m26.set ma.nxt (.cells 9 (ints [p0, p1, p2, p3, p4, p5, p6, p7, p8]) false)) := x26.setR (Nat.le_refl _) _
    show enter (m26.set ma.nxt (.cells 9 (ints [p0, p1, p2, p3, p4, p5, p6, p7, p8]) false)) _
    generalize m26.set ma.nxt (.cells 9 (ints [p0, p1, p2, p3, p4, p5, p6, p7, p8]) false) = m27 at k27 e27
    refine henter m27 _ (e27.g _ hlt) fun m28 hn28 hv28 hg28 hB28 => ?_
    -- memory, but for the loop's record
    have hsne : ∀ b' o n s' d, s = .sl b' o n s' d → b' ≠ mL.nxt := fun b' o n s' d hs he => hSl ((q1 _).2 (.inr ⟨o, n, s', d, by rw [← he]; exact hs⟩))
    have hold : ∀ b', b' < mL.nxt → b' ≠ nb → m28.g b' = mL.g b' := fun b' hb' hne' => by rw [hg28 b' (by omega), e27.g b' (by omega)]; exact q7 b' hb' hne'
    have hx28 : Ext m m28 := ⟨by rw [hn28]; exact Nat.le_trans xL.nxt (Nat.le_trans q5 e27.nxt), fun b' hb' => by rw [hold b' (Nat.lt_of_lt_of_le hb' xL.nxt) (by omega)]; exact xL.g b' hb', by rw [hv28, e27.vw, q6]; exact xL.vw⟩
    have bk28 : ∀ {b' n : Nat} {vs : List C}, b' ≠ nb → Bk mL b' n vs → Bk m28 b' n vs := fun hne' hb => ⟨(hold _ hb.lt hne').trans hb.g, by rw [hn28]; exact Nat.lt_of_lt_of_le hb.lt (Nat.le_trans q5 e27.nxt)⟩
    have kn28 : Bk m28 nb 1 [s] := ⟨by rw [hg28 nb (by omega), e27.g nb q3.lt]; exact q3.g, by rw [hn28]; exact Nat.lt_of_lt_of_le q3.lt e27.nxt⟩
    have ho28 : Own1 m28 1 s (ints (((truthsP c sm L N).map num).take i)) i := q4.to (by rw [hn28]; exact e27.nxt) fun b' hb' hx' => by
      obtain ⟨s', d, hx'⟩ := hx'
      rw [hg28 b' (hsne b' _ _ _ _ hx')]; exact e27.g b' hb'
    have kh28 : Bk m28 ma.nxt 9 (ints [p0, p1, p2, p3, p4, p5, p6, p7, p8]) := ⟨by rw [hg28 _ (by omega)]; exact k27.g, by rw [hn28]; exact k27.lt⟩
    have hnf : noFnC s = true := ho28.ls.noFn
    refine ⟨s, kn28.rc rfl, trivial, fnc, (bk28 (by omega) kq).rc rfl, r, c, x, sm, y, .map mb, (bk28 (by omega) kw).ra, p0, p1, p2, p3, p4, p5, p6, p7, p8, kh28.ra, ?_⟩
    have hcall := hnum m28 H hmem hx28
    rw [hp] at hcall
    refine hcall _ fun m47 e47 => ⟨_, rfl, ?_, fun m49 h49 => ⟨?_, ?_⟩⟩
    · rw [hnf]; exact (kn28.ext e47).rc rfl
    · obtain ⟨_, x49⟩ := Bk.new h49
      rw [hnf]; exact ((kn28.ext e47).ext x49).rc rfl
    obtain ⟨c50, m51, a1, a2, a3, a4, a4v, a5⟩ := ap_one t22 g3 z3 (by omega) (ho28.ext e47) (ws := [.int .i64 (num H)]) rfl (by omega) h49
    have hsnb : ∀ b' o n s' d, s = .sl b' o n s' d → b' ≠ nb := fun b' o n s' d hs he => by have := q2 b' o n s' d hs; omega
    have kn51 : Bk m51 nb 1 [s] := Bk.keep (kn28.ext e47) a4 a5 hsnb
    have hslB : ∀ b', (∀ o n s' d, s ≠ .sl b' o n s' d) → slB s ≠ some b' := fun b' hb' hsb => by
      cases s with
      | sl b3 o n s' d =>
        cases d with
        | none =>
          have h2 : some b3 = some b' := hsb
          cases h2; exact hb' _ _ _ _ rfl
        | some d => cases hsb
      | _ => cases hsb
    have hL47 : mL.nxt < m47.nxt := Nat.lt_of_lt_of_le (Nat.lt_of_lt_of_le hlt (by rw [hn28]; exact e27.nxt)) e47.nxt
    have ha47 : ma.nxt ≤ m47.nxt := Nat.le_trans (by rw [hn28]; exact e27.nxt) e47.nxt
    have g51 : ∀ b', b' < ma.nxt → (∀ o n s' d, s ≠ .sl b' o n s' d) → b' ≠ mL.nxt → m51.g b' = ma.g b' := fun b' hb' hs hl => by
      rw [a5 b' (by omega) (hslB b' hs), e47.g b' (by rw [hn28]; exact Nat.lt_of_lt_of_le hb' e27.nxt), hg28 b' hl]; exact e27.g b' hb'
    refine ⟨c50, m51, a1, _, kn51.st [c50], hK .nrm (fun b' => b' = nb ∨ ∃ o n s' d, c50 = .sl b' o n s' d) _ (hB28 _ ?_) ?_ ?_ ?_ ?_ ⟨c50, fun b' => Iff.rfl, ?_, kn51.set [c50], ?_, ?_, ?_, ?_⟩⟩
    · rw [M.g_set, if_neg (by omega), a5 _ hL47 (hslB _ fun o n s' d hs => hsne _ o n s' d hs rfl), e47.g _ (by rw [hn28]; exact Nat.lt_of_lt_of_le hlt e27.nxt)]
    · exact Nat.le_trans ha47 a4
    · show m51.vw = ma.vw
      rw [a4v, e47.vw, hv28, e27.vw]
    · intro b' hb' hSb hbl
      rw [M.g_set, if_neg fun h0 => hSb ((q1 b').2 (.inl h0))]
      exact g51 b' hb' (fun o n s' d hs => hSb ((q1 b').2 (.inr ⟨o, n, s', d, hs⟩))) hbl
    · intro b' hb'
      rcases hb' with h0 | ⟨o, n, s', d, hs⟩
      · exact .inl ((q1 b').2 (.inl h0))
      · exact .inr (Nat.le_trans ha47 (a3 b' o n s' d hs))
    · intro b' o n s' d hs
      exact Nat.le_trans (Nat.le_of_lt hL47) (a3 b' o n s' d hs)
    · have h1 : ints (((truthsP c sm L N).map num).take i) ++ [.int .i64 (num H)] = ints (((truthsP c sm L N).map num).take (i + 1)) := by
        rw [List.take_add_one, List.getElem?_map]
        have hHi : (truthsP c sm L N)[i]? = some H := hH
        rw [hHi]
        show _ = ints (_ ++ [num H])
        rw [← ints_app]; rfl
      rw [h1] at a2
      exact a2.to (Nat.le_refl _) fun b' _ hx' => by
        obtain ⟨s', d, hx'⟩ := hx'
        rw [M.g_set, if_neg (by have := a3 b' _ _ _ _ hx'; omega)]
    · exact Nat.le_trans (Nat.le_of_lt hL47) a4
    · show m51.vw = mL.vw
      rw [a4v, e47.vw, hv28, e27.vw, q6]
    · intro b' hb' hne'
      rw [M.g_set, if_neg hne', g51 b' (by omega) (fun o n s' d hs => by have := q2 b' o n s' d hs; omega) (by omega)]
      exact q7 b' hb' hne'
  · intro S' m5 hown hlt hv hg hj
    obtain ⟨s, q1, q2, q3, q4, q5, q6, q7⟩ := hj
    rw [hlen] at q4
    have hT : (((truthsP c sm L N).map num).take (truthsP c sm L N).length) = (truthsP c sm L N).map num := List.take_of_length_le (by rw [List.length_map]; omega)
    rw [hT] at q4
    have hz : Li m5 s ((truthsP c sm L N).map num) := by
      have := q4.ls
      unfold Li
      rw [List.length_map]; exact this
    have kr5 : Bk m5 m1.nxt 2 [.int .i64 0, .int .i64 0] := ⟨(q7 _ kr.lt (by omega)).trans kr.g, Nat.lt_of_lt_of_le kr.lt q5⟩
    have hext : Ext m m5 := ⟨Nat.le_trans xL.nxt q5, fun b' hb' => by rw [q7 b' (Nat.lt_of_lt_of_le hb' xL.nxt) (by omega)]; exact xL.g b' hb', q6.trans xL.vw⟩
    have hlm : ((truthsP c sm L N).map num).length = (truthsP c sm L N).length := List.length_map _
    refine ⟨s, q3.rc rfl, s101 hz (by omega) ⟨_, rfl, s, q3.rc rfl, ?_, s102 hz (by omega) (by omega) ⟨_, rfl, _, kr5.st _, _, _, (kr5.set _).ra, h _ (hext.setR (by omega) _)⟩⟩⟩
    rw [q4.ls.noFn]; exact q3.rc rfl
end
end Go.Proofs.Ytgkjfhkjgdiodaa

namespace Go.Proofs.Ytgkjfhkjgdiodaa
open _root_.Go.Proofs.Try
open Go.Abs
set_option maxRecDepth 100000
noncomputable section
theorem truth_of {r c sm : Int} {L H : List Int} {N : List Cnt} (hf : isField r c L = true) (h : H ∈ truthsP c sm L N) : listed L H = true := by
  have := (mem_exts hf H L.length 0 [] (by omega) rfl).1 h
  exact decide_eq_true ⟨this.1, fun i hi => (this.2.2 i (by omega) hi).1⟩
theorem num_share {r c sm : Int} {x y : C} {L : List Int} {N : List Cnt} {mb : Nat} {m : M} (hx : Li m x L) (hf : isField r c L = true) :
    NumOf r c sm x y mb m (truthsP c sm L N) (.fn (.methodOf 114 "hailstone/frame.share") [] []) (shareOf L) := by
  obtain ⟨hS, hL9, hrc⟩ := field_of hf
  intro m' H hH e Q h
  have hl := truth_of hf hH
  show Wc prog tbl 75 [.agg 5 [.int .i64 r, .int .i64 c, x, .int .i64 sm, y], .agg 9 (ints (pad H))] m' Q
  refine s75 (hx.ext e) hS hL9 (pad_len (by have := listed_len hl; omega)) (small_pad (small_listed hS hl)) fun m'' e'' => ?_
  have := h m'' e''
  rw [← shareOf_pad] at this
  exact this
theorem num_hits {r c sm : Int} {x y : C} {L : List Int} {N : List Cnt} {mb k p : Nat} {m : M} (hf : isField r c L = true) (hp : p < L.length) (hk : Bk m k 1 [.int .i64 (p : Int)]) :
    NumOf r c sm x y mb m (truthsP c sm L N) (.fn (.func 85) [] [.c (.ptr k 0)]) (fun H => H[p]!) := by
  obtain ⟨hS, hL9, hrc⟩ := field_of hf
  intro m' H hH e Q h
  have hl := truth_of hf hH
  have hlen := listed_len hl
  have hpl := pad_len (H := H) (by omega)
  obtain ⟨p0, p1, p2, p3, p4, p5, p6, p7, p8, hpe⟩ := nine hpl
  rw [hpe]
  show Wc prog tbl 85 [.agg 6 [.int .i64 r, .int .i64 c, x, .int .i64 sm, y, .map mb], .agg 9 [.int .i64 p0, .int .i64 p1, .int .i64 p2, .int .i64 p3, .int .i64 p4, .int .i64 p5, .int .i64 p6, .int .i64 p7, .int .i64 p8], .c (.ptr k 0)] m' Q
  refine c85 r c sm p0 p1 p2 p3 p4 p5 p6 p7 p8 x y (.map mb) k fun m0 e0 m1 e1 => ?_
  obtain ⟨b0, x0⟩ := Bk.new e0
  obtain ⟨b1', x1⟩ := Bk.new e1
  have b1 : Bk m1 m0.nxt 9 (ints (pad H)) := by rw [hpe]; exact b1'
  refine ⟨_, (((hk.ext e).ext x0).ext x1).rc rfl, trivial, p, rfl, by omega, _, at_rc b1 (by omega), ?_⟩
  rw [at_pad (by omega) (by omega)]
  exact h m1 (x0.trans x1)
/-! ### how many truths there are -/
theorem rests_len {α : Type} (g : Nat → List α) (B : Nat) (h : ∀ n, (g n).length ≤ B) : ∀ e n, (rests g e n).length ≤ e * B
  | 0, _ => by show 0 ≤ _; omega
  | e + 1, n => by
    show (g n ++ rests g e (n + 1)).length ≤ _
    rw [List.length_append, Nat.succ_mul]
    have := h n
    have := rests_len g B h e (n + 1)
    omega
def prodN : List Int → Nat
  | [] => 1
  | v :: L => (v.toNat + 1) * prodN L
theorem exts_len {c sm : Int} {L : List Int} {N : List Cnt} {O : List Bool} : ∀ (d p : Nat) (pre : List Int), d + p = L.length → pre.length = p → (exts c sm L N O d pre).length ≤ prodN (L.drop p)
  | 0, p, pre, hd, hpre => by
    rw [List.drop_eq_nil_of_le (by omega)]; exact Nat.le_refl _
  | d + 1, p, pre, hd, hpre => by
    have hpL : p < L.length := by omega
    rw [List.drop_eq_getElem_cons hpL]
    show (rests _ (L[pre.length]!.toNat + 1) 0).length ≤ (L[p].toNat + 1) * prodN (L.drop (p + 1))
    rw [hpre, getElem!_pos L p hpL]
    refine rests_len _ _ (fun n => ?_) _ _
    split
    · exact exts_len d (p + 1) _ (by omega) (by simp [hpre])
    · exact Nat.zero_le _
theorem mulL_prod : ∀ (L : List Int) (a : Int), Small L → mulL a L = a * (prodN L : Int)
  | [], a, _ => by show a = a * ((1 : Nat) : Int); omega
  | v :: L, a, h => by
    have hv := h v (List.mem_cons_self ..)
    show mulL (a * (v + 1)) L = a * (((v.toNat + 1) * prodN L : Nat) : Int)
    rw [mulL_prod L _ fun w hw => h w (List.mem_cons_of_mem _ hw), Int.natCast_mul, show ((v.toNat + 1 : Nat) : Int) = v + 1 by omega, Int.mul_assoc]
theorem few_truths {r c sm : Int} {L : List Int} {N : List Cnt} (hv : svErr r c L sm N = 0) : prodN L ≤ 2000 := by
  obtain ⟨hO, _⟩ := okay_of hv
  obtain ⟨hS, _, _⟩ := field_of hO.f
  have hm : mulL 1 L ≤ 2000 := by
    unfold svErr at hv
    rw [if_pos hO.n] at hv
    by_cases hs : isSv r c L sm N = true
    · rw [if_pos hs] at hv
      by_cases hm : mulL 1 L ≤ 2000
      · exact hm
      · rw [if_neg hm] at hv; simp at hv
    · rw [if_neg hs] at hv; simp at hv
  rw [mulL_prod L 1 hS] at hm
  omega
theorem truths_len {r c sm : Int} {L : List Int} {N : List Cnt} (hv : svErr r c L sm N = 0) : (truthsP c sm L N).length ≤ 2000 :=
  Nat.le_trans (exts_len L.length 0 [] (by omega) rfl) (few_truths hv)
theorem true_sv {r c sm : Int} {L : List Int} {N : List Cnt} (h : trueErr r c L sm N = 0) : svErr r c L sm N = 0 ∧ 0 < (truthsP c sm L N).length := by
  unfold trueErr at h
  by_cases hv : svErr r c L sm N = 0
  · rw [if_pos hv] at h
    refine ⟨hv, ?_⟩
    cases ht : truthsP c sm L N with
    | nil => rw [ht] at h; simp at h
    | cons a l => simp
  · rw [if_neg hv] at h; exact absurd h hv
def boundsOf (r c : Int) (L : List Int) (sm : Int) (N : List Cnt) (err : Int) (num : List Int → Int) : Int × Int := if err = 0 then (loOf ((truthsP c sm L N).map num), hiOf ((truthsP c sm L N).map num)) else (0, 0)
/-- Bounds -/
theorem s41 {r c sm : Int} {x y : C} {L : List Int} {N : List Cnt} {m : M} {Q : V → M → Prop} (hx : Li m x L) (hL : L.length ≤ 1048576) (hy : Lc m y N) (hN : N.length ≤ 1000)
    (h : ∀ m', Ext m m' → Q (.tup [.agg 2 [.int .i64 (boundsOf r c L sm N (trueErr r c L sm N) (shareOf L)).1, .int .i64 (boundsOf r c L sm N (trueErr r c L sm N) (shareOf L)).2], .c (.int .i64 (trueErr r c L sm N))]) m') :
    Wc prog tbl 41 [.agg 5 [.int .i64 r, .int .i64 c, x, .int .i64 sm, y]] m Q := by
  refine w41 fun m0 e0 m1 e1 => ?_
  obtain ⟨b0, x0⟩ := Bk.new e0
  obtain ⟨b1, x1⟩ := Bk.new e1
  have x01 := x0.trans x1
  have n0 : m0.nxt = m.nxt + 1 := by rw [e0]; rfl
  refine ⟨r, c, x, sm, y, (b0.ext x1).ra, s81 (hx.ext x01) hL (hy.ext x01) hN (fun hne m8 e8 => ⟨0, 0, .sl0, 0, .sl0, .map0, trueErr r c L sm N, rfl, fun m16 h16 => ?_⟩) fun hz m8 mb f e8 hw => ⟨r, c, x, sm, y, .map mb, 0, rfl, fun m16 h16 => ?_⟩⟩
  · obtain ⟨b16, x16⟩ := Bk.new h16
    have e17 : Ext m8 (m16.set m8.nxt (.cells 6 [.int .i64 0, .int .i64 0, .sl0, .int .i64 0, .sl0, .map0] false)) := x16.setR (Nat.le_refl _) _
    refine ⟨_, b16.st _, ?_⟩
    generalize m16.set m8.nxt (.cells 6 [.int .i64 0, .int .i64 0, .sl0, .int .i64 0, .sl0, .map0] false) = m17 at e17
    rw [ifB_ndec]
    refine ⟨fun _ => ?_, fun h1 => absurd h1 hne⟩
    have k1 := (b1.ext e8).ext e17
    refine ⟨_, k1.st _, 0, 0, (k1.set _).ra, ?_⟩
    have hq := h _ (((x01.trans e8).trans e17).setR (b := m0.nxt) (by omega) (.cells 2 [.int .i64 0, .int .i64 0] false))
    unfold boundsOf at hq
    rw [if_neg hne] at hq
    exact hq
  · obtain ⟨b16, x16⟩ := Bk.new h16
    have k17 := b16.set [.int .i64 r, .int .i64 c, x, .int .i64 sm, y, .map mb]
    have e17 : Ext m8 (m16.set m8.nxt (.cells 6 [.int .i64 r, .int .i64 c, x, .int .i64 sm, y, .map mb] false)) := x16.setR (Nat.le_refl _) _
    refine ⟨_, b16.st _, ?_⟩
    generalize m16.set m8.nxt (.cells 6 [.int .i64 r, .int .i64 c, x, .int .i64 sm, y, .map mb] false) = m17 at e17 k17
    obtain ⟨hv, hpos⟩ := true_sv hz
    obtain ⟨hO, _⟩ := okay_of hv
    have x17 := (x01.trans e8).trans e17
    rw [ifB_ndec]
    refine ⟨fun h1 => absurd rfl h1, fun _ => ⟨r, c, x, sm, y, .map mb, k17.ra, s82 (hw.ext e17) (hx.ext x17) hO.f hpos (by have := truths_len hv; omega) (num_share (hx.ext x17) hO.f) fun m28 e28 => ⟨_, _, rfl, ?_⟩⟩⟩
    have k1 := ((b1.ext e8).ext e17).ext e28
    refine ⟨_, k1.st _, _, _, (k1.set _).ra, ?_⟩
    have hq := h _ ((x17.trans e28).setR (b := m0.nxt) (by omega) (.cells 2 [.int .i64 (loOf ((truthsP c sm L N).map (shareOf L))), .int .i64 (hiOf ((truthsP c sm L N).map (shareOf L)))] false))
    unfold boundsOf at hq
    rw [if_pos hz, hz] at hq
    exact hq
end
end Go.Proofs.Ytgkjfhkjgdiodaa

namespace Go.Proofs.Ytgkjfhkjgdiodaa
open _root_.Go.Proofs.Try
open Go.Abs
set_option maxRecDepth 100000
noncomputable section
def askErr (r c : Int) (L : List Int) (sm : Int) (N : List Cnt) (inr : Bool) : Int := if svErr r c L sm N = 0 then (if inr then trueErr r c L sm N else 2) else svErr r c L sm N
theorem ask_zero {r c sm : Int} {L : List Int} {N : List Cnt} {inr : Bool} (h : askErr r c L sm N inr = 0) : inr = true ∧ trueErr r c L sm N = 0 := by
  unfold askErr at h
  by_cases hv : svErr r c L sm N = 0
  · rw [if_pos hv] at h
    cases inr with
    | true => exact ⟨rfl, h⟩
    | false => simp at h
  · rw [if_neg hv] at h; exact absurd h hv
/-- openAsked -/
theorem s83 {r c sm n : Int} {x y fnc : C} {inr : Bool} {L : List Int} {N : List Cnt} {m : M} {Q : V → M → Prop} (hx : Li m x L) (hL : L.length ≤ 1048576) (hy : Lc m y N) (hN : N.length ≤ 1000)
    (hin : svErr r c L sm N = 0 → ∀ m', Ext m m' → ∀ Q' : V → M → Prop, (∀ m'', Ext m' m'' → Q' (.c (.bool inr)) m'') → callP prog tbl [.c (.int .i64 n)] fnc m' Q')
    (hbad : askErr r c L sm N inr ≠ 0 → ∀ m', Ext m m' → Q (.tup [.agg 6 [.int .i64 0, .int .i64 0, .sl0, .int .i64 0, .sl0, .map0], .c (.int .i64 (askErr r c L sm N inr))]) m')
    (hgood : askErr r c L sm N inr = 0 → ∀ m' mb f, Ext m m' → Wk m' L N mb f → Q (.tup [.agg 6 [.int .i64 r, .int .i64 c, x, .int .i64 sm, y, .map mb], .c (.int .i64 0)]) m') :
    Wc prog tbl 83 [.agg 5 [.int .i64 r, .int .i64 c, x, .int .i64 sm, y], .c (.int .i64 n), .c fnc] m Q := by
  refine w83 fun m0 e0 m1 e1 => ?_
  obtain ⟨b0, x0⟩ := Bk.new e0
  obtain ⟨b1, x1⟩ := Bk.new e1
  have x01 := x0.trans x1
  have n0 : m0.nxt = m.nxt + 1 := by rw [e0]; rfl
  refine ⟨r, c, x, sm, y, (b0.ext x1).ra, s37 (hx.ext x01) hL (hy.ext x01) hN fun m8 e8 => ⟨_, rfl, ?_⟩⟩
  have x8 := x01.trans e8
  have k0 := (b0.ext x1).ext e8
  have k1 := b1.ext e8
  rw [ifB_ndec]
  refine ⟨fun h1 => ?_, fun h1 => ?_⟩
  · have ht : askErr r c L sm N inr = svErr r c L sm N := by unfold askErr; rw [if_neg h1]
    refine ⟨_, k1.st _, 0, 0, .sl0, 0, .sl0, .map0, (k1.set _).ra, ?_⟩
    have hq := hbad (by rw [ht]; exact h1) _ (x8.setR (b := m0.nxt) (by omega) (.cells 6 [.int .i64 0, .int .i64 0, .sl0, .int .i64 0, .sl0, .map0] false))
    rw [ht] at hq
    exact hq
  refine hin h1 m8 x8 _ fun m18 e18 => ⟨_, rfl, ?_⟩
  have x18 := x8.trans e18
  have k1' := k1.ext e18
  rw [ifB_iff]
  refine ⟨fun h2 => ?_, fun h2 => ?_⟩
  · have h3 : inr = false := by simpa using h2
    have ht : askErr r c L sm N inr = 2 := by unfold askErr; rw [if_pos h1, h3]; rfl
    refine ⟨_, k1'.st _, 0, 0, .sl0, 0, .sl0, .map0, (k1'.set _).ra, ?_⟩
    have hq := hbad (by rw [ht]; decide) _ (x18.setR (b := m0.nxt) (by omega) (.cells 6 [.int .i64 0, .int .i64 0, .sl0, .int .i64 0, .sl0, .map0] false))
    rw [ht] at hq
    exact hq
  have h3 : inr = true := by simpa using h2
  have ht : askErr r c L sm N inr = trueErr r c L sm N := by unfold askErr; rw [if_pos h1, h3]; rfl
  refine ⟨r, c, x, sm, y, (k0.ext e18).ra, s81 (hx.ext x18) hL (hy.ext x18) hN (fun hne m33 e33 => ⟨0, 0, .sl0, 0, .sl0, .map0, trueErr r c L sm N, rfl, ?_⟩) fun hz m33 mb f e33 hw => ⟨r, c, x, sm, y, .map mb, 0, rfl, ?_⟩⟩
  · refine ⟨_, (k1'.ext e33).st _, 0, 0, .sl0, 0, .sl0, .map0, ((k1'.ext e33).set _).ra, ?_⟩
    have hq := hbad (by rw [ht]; exact hne) _ ((x18.trans e33).setR (b := m0.nxt) (by omega) (.cells 6 [.int .i64 0, .int .i64 0, .sl0, .int .i64 0, .sl0, .map0] false))
    rw [ht] at hq
    exact hq
  · refine ⟨_, (k1'.ext e33).st _, r, c, x, sm, y, .map mb, ((k1'.ext e33).set _).ra, ?_⟩
    have hne : mb ≠ m0.nxt := fun h3 => by
      obtain ⟨es, clock, hg, _⟩ := hw.mp.ex
      rw [h3, (k1'.ext e33).g] at hg
      cases hg
    exact hgood (by rw [ht]; exact hz) _ mb f ((x18.trans e33).setR (by omega) _) ⟨hw.mp.setNe hne _, hw.st⟩
/-- Hits -/
theorem s42 {r c sm p : Int} {x y : C} {L : List Int} {N : List Cnt} {m : M} {Q : V → M → Prop} (hx : Li m x L) (hL : L.length ≤ 1048576) (hy : Lc m y N) (hN : N.length ≤ 1000)
    (h : ∀ m', Ext m m' → Q (.tup [.agg 2 [.int .i64 (boundsOf r c L sm N (askErr r c L sm N (decide (0 ≤ p ∧ p ≤ r * c - 1))) (fun H => H[p.toNat]!)).1, .int .i64 (boundsOf r c L sm N (askErr r c L sm N (decide (0 ≤ p ∧ p ≤ r * c - 1))) (fun H => H[p.toNat]!)).2], .c (.int .i64 (askErr r c L sm N (decide (0 ≤ p ∧ p ≤ r * c - 1))))]) m') :
    Wc prog tbl 42 [.agg 5 [.int .i64 r, .int .i64 c, x, .int .i64 sm, y], .c (.int .i64 p)] m Q := by
  refine w42 fun m0 e0 m1 e1 m2 e2 => ?_
  obtain ⟨b0, x0⟩ := Bk.new e0
  obtain ⟨b1, x1⟩ := Bk.new e1
  obtain ⟨b2, x2⟩ := Bk.new e2
  have x02 := (x0.trans x1).trans x2
  have n0 : m0.nxt = m.nxt + 1 := by rw [e0]; rfl
  have n1 : m1.nxt = m.nxt + 2 := by rw [e1]; show m0.nxt + 1 = _; omega
  have k0 := (b0.ext x1).ext x2
  have kp := b1.ext x2
  obtain ⟨xc, hxc, hxc'⟩ := keepC hx
  refine ⟨r, c, x, sm, y, k0.ra, p, kp.rc rfl, trivial, r, c, x, k0.rp (k := 0) (j := 3) rfl (by omega), ?_⟩
  have hvw : mapO vW [V.agg 3 [.int .i64 r, .int .i64 c, x]] = some [.agg 3 [.int .i64 r, .int .i64 c, xc]] := by
    show optB (optB (optB (some (C0.int .i64 r)) none fun a => optB (optB (some (C0.int .i64 c)) none fun b => optB (optB (cC0 x) none fun c' => some [c']) none fun l => some (b :: l)) none fun l => some (a :: l)) none fun xs => some (W.agg 3 xs)) none (fun w => some [w]) = _
    rw [hxc]; rfl
  rw [hvw, optB_some]
  refine s83 (inr := decide (0 ≤ p ∧ p ≤ r * c - 1)) (hx.ext x02) hL (hy.ext x02) hN (fun hv m' e' Q' hq' => ?_) (fun hne m14 e14 => ⟨0, 0, .sl0, 0, .sl0, .map0, _, rfl, fun m22 h22 => ?_⟩) fun hz m14 mb f e14 hw => ⟨r, c, x, sm, y, .map mb, 0, rfl, fun m22 h22 => ?_⟩
  · obtain ⟨hO, _⟩ := okay_of hv
    show Wc prog tbl 84 [.agg 3 [.int .i64 r, .int .i64 c, c0C xc], .c (.int .i64 p)] m' Q'
    rw [hxc']
    exact s84 (sides_of hO.f) hq'
  · obtain ⟨b22, x22⟩ := Bk.new h22
    have e23 : Ext m14 (m22.set m14.nxt (.cells 6 [.int .i64 0, .int .i64 0, .sl0, .int .i64 0, .sl0, .map0] false)) := x22.setR (Nat.le_refl _) _
    refine ⟨_, b22.st _, ?_⟩
    generalize m22.set m14.nxt (.cells 6 [.int .i64 0, .int .i64 0, .sl0, .int .i64 0, .sl0, .map0] false) = m23 at e23
    rw [ifB_ndec]
    refine ⟨fun _ => ?_, fun h1 => absurd h1 hne⟩
    have k2 := (b2.ext e14).ext e23
    refine ⟨_, k2.st _, 0, 0, (k2.set _).ra, ?_⟩
    have hq := h _ (((x02.trans e14).trans e23).setR (b := m1.nxt) (by omega) (.cells 2 [.int .i64 0, .int .i64 0] false))
    unfold boundsOf at hq
    rw [if_neg hne] at hq
    exact hq
  · obtain ⟨b22, x22⟩ := Bk.new h22
    have k23 := b22.set [.int .i64 r, .int .i64 c, x, .int .i64 sm, y, .map mb]
    have e23 : Ext m14 (m22.set m14.nxt (.cells 6 [.int .i64 r, .int .i64 c, x, .int .i64 sm, y, .map mb] false)) := x22.setR (Nat.le_refl _) _
    refine ⟨_, b22.st _, ?_⟩
    generalize m22.set m14.nxt (.cells 6 [.int .i64 r, .int .i64 c, x, .int .i64 sm, y, .map mb] false) = m23 at e23 k23
    obtain ⟨hin, ht⟩ := ask_zero hz
    obtain ⟨hv, hpos⟩ := true_sv ht
    obtain ⟨hO, _⟩ := okay_of hv
    obtain ⟨_, _, hrc⟩ := field_of hO.f
    have hpr : 0 ≤ p ∧ p ≤ r * c - 1 := of_decide_eq_true hin
    have x23 := (x02.trans e14).trans e23
    have kp23 : Bk m23 m0.nxt 1 [.int .i64 ((p.toNat : Nat) : Int)] := by
      rw [show ((p.toNat : Nat) : Int) = p by omega]; exact (kp.ext e14).ext e23
    rw [ifB_ndec]
    refine ⟨fun h1 => absurd rfl h1, fun _ => ⟨r, c, x, sm, y, .map mb, k23.ra, s82 (hw.ext e23) (hx.ext x23) hO.f hpos (by have := truths_len hv; omega) (num_hits hO.f (by omega) kp23) fun m34 e34 => ⟨_, _, rfl, ?_⟩⟩⟩
    have k2 := ((b2.ext e14).ext e23).ext e34
    refine ⟨_, k2.st _, _, _, (k2.set _).ra, ?_⟩
    have hq := h _ ((x23.trans e34).setR (b := m1.nxt) (by omega) (.cells 2 [.int .i64 (loOf ((truthsP c sm L N).map fun H => H[p.toNat]!)), .int .i64 (hiOf ((truthsP c sm L N).map fun H => H[p.toNat]!))] false))
    unfold boundsOf at hq
    rw [if_pos hz, hz] at hq
    exact hq
end
end Go.Proofs.Ytgkjfhkjgdiodaa
