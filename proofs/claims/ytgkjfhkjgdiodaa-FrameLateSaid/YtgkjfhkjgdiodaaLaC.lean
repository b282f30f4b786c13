/- FrameLate, for all that it can be called with, returns true. Condition: none. -/
import Derived.Test.YtgkjfhkjgdiodaaLaB
import Derived.KernelRfl
import Derived.ProofKit
import Derived.Test.YtgkjfhkjgdiodaaRows

namespace Go.Proofs.Ytgkjfhkjgdiodaa
open _root_.Go.Proofs.Try
open Go.Abs
set_option maxRecDepth 100000
noncomputable section
def minR (a : Int) : List Int → Int
  | [] => a
  | v :: D => minR (if v < a then v else a) D
def maxR (a : Int) : List Int → Int
  | [] => a
  | v :: D => maxR (max a v) D
theorem minR_step {D : List Int} {i : Nat} (hi : i < D.length) (a : Int) : minR a (D.drop i) = minR (if D[i] < a then D[i] else a) (D.drop (i + 1)) := by rw [List.drop_eq_getElem_cons hi]; rfl
theorem maxR_step {D : List Int} {i : Nat} (hi : i < D.length) (a : Int) : maxR a (D.drop i) = maxR (max a D[i]) (D.drop (i + 1)) := by rw [List.drop_eq_getElem_cons hi]; rfl
def loOf : List Int → Int
  | [] => 0
  | v :: D => minR v (v :: D)
def hiOf : List Int → Int
  | [] => 0
  | v :: D => maxR v D
theorem s101 {z : C} {D : List Int} {m : M} {Q : V → M → Prop} (hz : Li m z D) (hD : D.length ≤ 100000) (h : Q (.c (.int .i64 (loOf D))) m) : Wc prog tbl 101 [.c z] m Q := by
  refine w101 ⟨hz.isSl, ?_⟩
  rw [hz.slLen, ifB_dec]
  refine ⟨fun h0 => ?_, fun h0 => ?_⟩
  · have : D = [] := List.eq_nil_of_length_eq_zero (by omega)
    subst this; exact h
  · have h1 : 0 < D.length := by omega
    refine ⟨0, rfl, h1, D[0], Li.rd hz (List.getElem?_eq_getElem h1), hz.isSl, fun R2 hstep => ?_⟩
    have hlo : loOf D = minR D[0] (D.drop 0) := by
      cases D with
      | nil => simp at h1
      | cons v D => rfl
    have hgo : ∀ (d i : Nat) (a : Int), d + i = D.length → minR a (D.drop i) = loOf D → R2 [.c (.int .i64 a), .c (.int .i64 (i : Int))] m := by
      intro d
      induction d with
      | zero =>
        intro i a hd heq
        refine hstep _ _ _ ?_
        rw [ifB_dec]
        refine ⟨fun h1 => by omega, fun _ => ?_⟩
        rw [List.drop_eq_nil_of_le (by omega)] at heq
        rw [← heq] at h
        exact h
      | succ d ih =>
        intro i a hd heq
        refine hstep _ _ _ ?_
        rw [ifB_dec]
        refine ⟨fun _ => ?_, fun h1 => absurd (by omega) h1⟩
        have hi : i < D.length := by omega
        rw [minR_step hi] at heq
        refine ⟨i, rfl, hi, D[i], Li.rd hz (List.getElem?_eq_getElem hi), ?_⟩
        rw [ifB_dec]
        refine ⟨fun h2 => ⟨fits_small (by omega) (by omega), ih (i + 1) _ (by omega) (by rw [if_pos h2] at heq; exact heq)⟩, fun h2 => ⟨fits_small (by omega) (by omega), ih (i + 1) _ (by omega) (by rw [if_neg h2] at heq; exact heq)⟩⟩
    exact hgo D.length 0 D[0] (by omega) hlo.symm
theorem s102 {z : C} {D : List Int} {m : M} {Q : V → M → Prop} (hz : Li m z D) (hD : D.length ≤ 100000) (h1 : 0 < D.length) (h : Q (.c (.int .i64 (hiOf D))) m) : Wc prog tbl 102 [.c z] m Q := by
  refine w102 ⟨hz.isSl, ?_⟩
  rw [hz.slLen, ifB_dec]
  refine ⟨fun h0 => by omega, fun h0 => ?_⟩
  refine ⟨0, rfl, h1, D[0], Li.rd hz (List.getElem?_eq_getElem h1), fun R2 hstep => ?_⟩
  have hlo : hiOf D = maxR D[0] (D.drop 1) := by
    cases D with
    | nil => simp at h1
    | cons v D => rfl
  have hgo : ∀ (d i : Nat) (a : Int), d + i = D.length → maxR a (D.drop i) = hiOf D → R2 [.c (.int .i64 a), .c (.int .i64 (i : Int))] m := by
    intro d
    induction d with
    | zero =>
      intro i a hd heq
      refine hstep _ _ _ ⟨hz.isSl, ?_⟩
      rw [ifB_dec]
      refine ⟨fun h1 => by omega, fun _ => ?_⟩
      rw [List.drop_eq_nil_of_le (by omega)] at heq
      rw [← heq] at h
      exact h
    | succ d ih =>
      intro i a hd heq
      refine hstep _ _ _ ⟨hz.isSl, ?_⟩
      rw [ifB_dec]
      refine ⟨fun _ => ?_, fun h1 => absurd (by omega) h1⟩
      have hi : i < D.length := by omega
      rw [maxR_step hi] at heq
      exact ⟨i, rfl, hi, D[i], Li.rd hz (List.getElem?_eq_getElem hi), fits_small (by omega) (by omega), ih (i + 1) _ (by omega) heq⟩
  exact hgo (D.length - 1) 1 D[0] (by omega) hlo.symm
theorem s100 {r c sm : Int} {x y : C} {L : List Int} {N : List Cnt} {mb : Nat} {f : Spot → Option U} {m : M} {Q : V → M → Prop} (hw : Wk m L N mb f) (hx : Li m x L)
    (h : ∀ m' b b2, Ext m m' → Rd r c sm x y L N mb f false6 b b2 m' → m.nxt ≤ b → m.nxt ≤ b2 → Q (.c (.fn (.func 120) [] [.c (.ptr b 0), .c (.ptr b2 0)])) m') :
    Wc prog tbl 100 [.agg 6 [.int .i64 r, .int .i64 c, x, .int .i64 sm, y, .map mb]] m Q := by
  refine w100 fun m0 e0 => ?_
  obtain ⟨b0, x0⟩ := Bk.new e0
  exact ⟨r, c, x, sm, y, .map mb, b0.ra, s108 (O := false6) (hw.ext x0) (hx.ext x0) rfl fun m' b b2 e hR h1 h2 => ⟨_, rfl, h m' b b2 (x0.trans e) hR (Nat.le_trans x0.nxt h1) (Nat.le_trans x0.nxt h2)⟩⟩
/-- a function value gives a number for each truth -/
def NumOf (r c sm : Int) (x y : C) (mb : Nat) (m : M) (T : List (List Int)) (fnc : C) (num : List Int → Int) : Prop :=
  ∀ m' H, H ∈ T → Ext m m' → ∀ Q : V → M → Prop, (∀ m'', Ext m' m'' → Q (.c (.int .i64 (num H))) m'') → callP prog tbl [.agg 6 [.int .i64 r, .int .i64 c, x, .int .i64 sm, y, .map mb], .agg 9 (ints (pad H))] fnc m' Q
theorem s82 {r c sm : Int} {x y : C} {L : List Int} {N : List Cnt} {mb : Nat} {f : Spot → Option U} {fnc : C} {num : List Int → Int} {m : M} {Q : V → M → Prop} (hw : Wk m L N mb f) (hx : Li m x L) (hf : isField r c L = true)
    (hne : 0 < (truthsP c sm L N).length) (hle : (truthsP c sm L N).length ≤ 100000) (hnum : NumOf r c sm x y mb m (truthsP c sm L N) fnc num)
    (h : ∀ m', Ext m m' → Q (.agg 2 [.int .i64 (loOf ((truthsP c sm L N).map num)), .int .i64 (hiOf ((truthsP c sm L N).map num))]) m') :
    Wc prog tbl 82 [.agg 6 [.int .i64 r, .int .i64 c, x, .int .i64 sm, y, .map mb], .agg 1 [fnc]] m Q := by
  obtain ⟨_, hL9, _⟩ := field_of hf
  refine w82 fun m0 e0 m1 e1 m2 e2 m3 e3 => ?_
  obtain ⟨b0, x0⟩ := Bk.new e0
  obtain ⟨b1, x1⟩ := Bk.new e1
  obtain ⟨b2, x2⟩ := Bk.new e2
  obtain ⟨b3, x3⟩ := Bk.new e3
  have n0 : m0.nxt = m.nxt + 1 := by rw [e0]; rfl
  have n1 : m1.nxt = m.nxt + 2 := by rw [e1]; show m0.nxt + 1 = _; omega
  have n2 : m2.nxt = m.nxt + 3 := by rw [e2]; show m1.nxt + 1 = _; omega
  have n3 : m3.nxt = m.nxt + 4 := by rw [e3]; show m2.nxt + 1 = _; omega
  have x03 := ((x0.trans x1).trans x2).trans x3
  refine ⟨r, c, x, sm, y, .map mb, (((b0.ext x1).ext x2).ext x3).ra, s100 (hw.ext x03) (hx.ext x03) fun mL bb bb2 eL hR hbb hbb2 => ⟨_, rfl, ?_⟩⟩
  have kw := (((b0.ext x1).ext x2).ext x3).ext eL
  have kq := ((b1.ext x2).ext x3).ext eL
  have kr := (b2.ext x3).ext eL
  have kn := b3.ext eL
  have xL := x03.trans eL
  clear e0 e1 e2 e3 b0 b1 b2 b3 x0 x1 x2 x3
  generalize hnb : m2.nxt = nb at n2 kn
  have hnbL := kn.lt
  have hflag : ∀ b', b' = nb → ¬ Ds x mb bb bb2 b' := fun b' hb' hds => by
    rcases ds_old (m := m) hw hx hds with h1 | h1 | h1
    · omega
    · omega
    · omega
  have hlen : (truthsV c sm L N false6).length = (truthsP c sm L N).length := by unfold truthsV truthsP; rw [List.length_map]
  refine range_iter (without_iter hf rfl) hR
    (J := fun i S ma => ∃ s : C, (∀ b', S b' ↔ b' = nb ∨ ∃ o n s' d, s = .sl b' o n s' d) ∧ (∀ b' o n s' d, s = .sl b' o n s' d → mL.nxt ≤ b') ∧ Bk ma nb 1 [s] ∧ Own1 ma 1 s (ints (((truthsP c sm L N).map num).take i)) i ∧ mL.nxt ≤ ma.nxt ∧ ma.vw = mL.vw ∧ ∀ b', b' < mL.nxt → b' ≠ nb → ma.g b' = mL.g b')
    (X := fun _ _ _ => False) (fun i => ⟨fun S ma mb' hj hn hv hg hlow => ?_, fun S ma hj b' hb' => ?_⟩) (fun ex => ⟨fun _ _ _ hj _ _ _ _ => hj, fun _ _ hj => hj.elim⟩) (S0 := fun b' => b' = nb) ?_ (fun b' hb' => hflag b' hb') ?_ ?_ (fun _ _ _ _ _ _ _ hj => hj.elim) (fun _ _ _ _ _ _ hj => hj.elim)
  · obtain ⟨s, q1, q2, q3, q4, q5, q6, q7⟩ := hj
    exact ⟨s, q1, q2, ⟨(hg nb ((q1 nb).2 (.inl rfl))).trans q3.g, Nat.lt_of_lt_of_le q3.lt hn⟩, q4.to hn (fun b' _ hx' => by obtain ⟨s', d, hx'⟩ := hx'; exact hg b' ((q1 b').2 (.inr ⟨_, _, s', d, hx'⟩))), Nat.le_trans q5 hn, hv.trans q6, fun b' hb' hne' => (hlow b' hb').trans (q7 b' hb' hne')⟩
  · obtain ⟨s, q1, q2, q3, q4, q5, q6, q7⟩ := hj
    rcases (q1 b').1 hb' with rfl | ⟨o, n, s', d, hx'⟩
    · exact q3.lt
    · exact q4.lt hx'
  · exact ⟨.sl0, fun b' => ⟨fun h => .inl h, fun h => h.elim id fun ⟨_, _, _, _, h2⟩ => (by cases h2)⟩, fun _ _ _ _ _ h => (by cases h), kn, Own1.nil' _ _, Nat.le_refl _, rfl, fun _ _ _ => rfl⟩
  · intro i xv S ma B' enter K hxv hj hlt hSl hown henter hK
    obtain ⟨s, q1, q2, q3, q4, q5, q6, q7⟩ := hj
    have hxv' := hxv
    unfold truthsV at hxv'
    rw [List.getElem?_map] at hxv'
    cases hH : (exts c sm L N false6 L.length [])[i]? with
    | none => rw [hH] at hxv'; cases hxv'
    | some H =>
    rw [hH] at hxv'
    have hxe : [V.agg 9 (ints (pad H))] = xv := by injection hxv'
    have hmem : H ∈ truthsP c sm L N := List.mem_of_getElem? hH
    have hlenH : H.length = L.length := ((mem_exts hf H L.length 0 [] (by omega) rfl).1 hmem).1
    have hiT : i < (truthsP c sm L N).length := (List.getElem?_eq_some_iff.1 hH).1
    obtain ⟨p0, p1, p2, p3, p4, p5, p6, p7, p8, hp⟩ := nine (pad_len (H := H) (by omega))
    refine ⟨p0, p1, p2, p3, p4, p5, p6, p7, p8, by rw [← hxe, hp]; rfl, fun m26 h26 => ?_⟩
    obtain ⟨b26, x26⟩ := Bk.new h26
    refine ⟨_, b26.st _, ?_⟩
    have k27 := b26.set (ints [p0, p1, p2, p3, p4, p5, p6, p7, p8])
    have e27 : Ext ma (m26.set ma.nxt (.cells 9 (ints [p0, p1, p2, p3, p4, p5, p6, p7, p8]) false)) := x26.setR (Nat.le_refl _) _
    show enter (m26.set ma.nxt (.cells 9 (ints [p0, p1, p2, p3, p4, p5, p6, p7, p8]) false)) _
    generalize m26.set ma.nxt (.cells 9 (ints [p0, p1, p2, p3, p4, p5, p6, p7, p8]) false) = m27 at k27 e27
    refine henter m27 _ (e27.g _ hlt) fun m28 hn28 hv28 hg28 hB28 => ?_
    -- memory, but for the loop's record
    have hsne : ∀ b' o n s' d, s = .sl b' o n s' d → b' ≠ mL.nxt := fun b' o n s' d hs he => hSl ((q1 _).2 (.inr ⟨o, n, s', d, by rw [← he]; exact hs⟩))
    have hold : ∀ b', b' < mL.nxt → b' ≠ nb → m28.g b' = mL.g b' := fun b' hb' hne' => by rw [hg28 b' (by omega), e27.g b' (by omega)]; exact q7 b' hb' hne'
    have hx28 : Ext m m28 := ⟨by rw [hn28]; exact Nat.le_trans xL.nxt (Nat.le_trans q5 e27.nxt), fun b' hb' => by rw [hold b' (Nat.lt_of_lt_of_le hb' xL.nxt) (by omega)]; exact xL.g b' hb', by rw [hv28, e27.vw, q6]; exact xL.vw⟩
    have bk28 : ∀ {b' n : Nat} {vs : List C}, b' ≠ nb → Bk mL b' n vs → Bk m28 b' n vs := fun hne' hb => ⟨(hold _ hb.lt hne').trans hb.g, by rw [hn28]; exact Nat.lt_of_lt_of_le hb.lt (Nat.le_trans q5 e27.nxt)⟩
    have kn28 : Bk m28 nb 1 [s] := ⟨by rw [hg28 nb (by omega), e27.g nb q3.lt]; exact q3.g, by rw [hn28]; exact Nat.lt_of_lt_of_le q3.lt e27.nxt⟩
    have ho28 : Own1 m28 1 s (ints (((truthsP c sm L N).map num).take i)) i := q4.to (by rw [hn28]; exact e27.nxt) fun b' hb' hx' => by
      obtain ⟨s', d, hx'⟩ := hx'
      rw [hg28 b' (hsne b' _ _ _ _ hx')]; exact e27.g b' hb'
    have kh28 : Bk m28 ma.nxt 9 (ints [p0, p1, p2, p3, p4, p5, p6, p7, p8]) := ⟨by rw [hg28 _ (by omega)]; exact k27.g, by rw [hn28]; exact k27.lt⟩
    have hnf : noFnC s = true := ho28.ls.noFn
    refine ⟨s, kn28.rc rfl, trivial, fnc, (bk28 (by omega) kq).rc rfl, r, c, x, sm, y, .map mb, (bk28 (by omega) kw).ra, p0, p1, p2, p3, p4, p5, p6, p7, p8, kh28.ra, ?_⟩
    have hcall := hnum m28 H hmem hx28
    rw [hp] at hcall
    refine hcall _ fun m47 e47 => ⟨_, rfl, ?_, fun m49 h49 => ⟨?_, ?_⟩⟩
    · rw [hnf]; exact (kn28.ext e47).rc rfl
    · obtain ⟨_, x49⟩ := Bk.new h49
      rw [hnf]; exact ((kn28.ext e47).ext x49).rc rfl
    obtain ⟨c50, m51, a1, a2, a3, a4, a4v, a5⟩ := ap_one t22 g3 z3 (by omega) (ho28.ext e47) (ws := [.int .i64 (num H)]) rfl (by omega) h49
    have hsnb : ∀ b' o n s' d, s = .sl b' o n s' d → b' ≠ nb := fun b' o n s' d hs he => by have := q2 b' o n s' d hs; omega
    have kn51 : Bk m51 nb 1 [s] := Bk.keep (kn28.ext e47) a4 a5 hsnb
    have hslB : ∀ b', (∀ o n s' d, s ≠ .sl b' o n s' d) → slB s ≠ some b' := fun b' hb' hsb => by
      cases s with
      | sl b3 o n s' d =>
        cases d with
        | none =>
          have h2 : some b3 = some b' := hsb
          cases h2; exact hb' _ _ _ _ rfl
        | some d => cases hsb
      | _ => cases hsb
    have hL47 : mL.nxt < m47.nxt := Nat.lt_of_lt_of_le (Nat.lt_of_lt_of_le hlt (by rw [hn28]; exact e27.nxt)) e47.nxt
    have ha47 : ma.nxt ≤ m47.nxt := Nat.le_trans (by rw [hn28]; exact e27.nxt) e47.nxt
    have g51 : ∀ b', b' < ma.nxt → (∀ o n s' d, s ≠ .sl b' o n s' d) → b' ≠ mL.nxt → m51.g b' = ma.g b' := fun b' hb' hs hl => by
      rw [a5 b' (by omega) (hslB b' hs), e47.g b' (by rw [hn28]; exact Nat.lt_of_lt_of_le hb' e27.nxt), hg28 b' hl]; exact e27.g b' hb'
    refine ⟨c50, m51, a1, _, kn51.st [c50], hK .nrm (fun b' => b' = nb ∨ ∃ o n s' d, c50 = .sl b' o n s' d) _ (hB28 _ ?_) ?_ ?_ ?_ ?_ ⟨c50, fun b' => Iff.rfl, ?_, kn51.set [c50], ?_, ?_, ?_, ?_⟩⟩
    · rw [M.g_set, if_neg (by omega), a5 _ hL47 (hslB _ fun o n s' d hs => hsne _ o n s' d hs rfl), e47.g _ (by rw [hn28]; exact Nat.lt_of_lt_of_le hlt e27.nxt)]
    · exact Nat.le_trans ha47 a4
    · show m51.vw = ma.vw
      rw [a4v, e47.vw, hv28, e27.vw]
    · intro b' hb' hSb hbl
      rw [M.g_set, if_neg fun h0 => hSb ((q1 b').2 (.inl h0))]
      exact g51 b' hb' (fun o n s' d hs => hSb ((q1 b').2 (.inr ⟨o, n, s', d, hs⟩))) hbl
    · intro b' hb'
      rcases hb' with h0 | ⟨o, n, s', d, hs⟩
      · exact .inl ((q1 b').2 (.inl h0))
      · exact .inr (Nat.le_trans ha47 (a3 b' o n s' d hs))
    · intro b' o n s' d hs
      exact Nat.le_trans (Nat.le_of_lt hL47) (a3 b' o n s' d hs)
    · have h1 : ints (((truthsP c sm L N).map num).take i) ++ [.int .i64 (num H)] = ints (((truthsP c sm L N).map num).take (i + 1)) := by
        rw [List.take_add_one, List.getElem?_map]
        have hHi : (truthsP c sm L N)[i]? = some H := hH
        rw [hHi]
        show _ = ints (_ ++ [num H])
        rw [← ints_app]; rfl
      rw [h1] at a2
      exact a2.to (Nat.le_refl _) fun b' _ hx' => by
        obtain ⟨s', d, hx'⟩ := hx'
        rw [M.g_set, if_neg (by have := a3 b' _ _ _ _ hx'; omega)]
    · exact Nat.le_trans (Nat.le_of_lt hL47) a4
    · show m51.vw = mL.vw
      rw [a4v, e47.vw, hv28, e27.vw, q6]
    · intro b' hb' hne'
      rw [M.g_set, if_neg hne', g51 b' (by omega) (fun o n s' d hs => by have := q2 b' o n s' d hs; omega) (by omega)]
      exact q7 b' hb' hne'
  · intro S' m5 hown hlt hv hg hj
    obtain ⟨s, q1, q2, q3, q4, q5, q6, q7⟩ := hj
    rw [hlen] at q4
    have hT : (((truthsP c sm L N).map num).take (truthsP c sm L N).length) = (truthsP c sm L N).map num := List.take_of_length_le (by rw [List.length_map]; omega)
    rw [hT] at q4
    have hz : Li m5 s ((truthsP c sm L N).map num) := by
      have := q4.ls
      unfold Li
      rw [List.length_map]; exact this
    have kr5 : Bk m5 m1.nxt 2 [.int .i64 0, .int .i64 0] := ⟨(q7 _ kr.lt (by omega)).trans kr.g, Nat.lt_of_lt_of_le kr.lt q5⟩
    have hext : Ext m m5 := ⟨Nat.le_trans xL.nxt q5, fun b' hb' => by rw [q7 b' (Nat.lt_of_lt_of_le hb' xL.nxt) (by omega)]; exact xL.g b' hb', q6.trans xL.vw⟩
    have hlm : ((truthsP c sm L N).map num).length = (truthsP c sm L N).length := List.length_map _
    refine ⟨s, q3.rc rfl, s101 hz (by omega) ⟨_, rfl, s, q3.rc rfl, ?_, s102 hz (by omega) (by omega) ⟨_, rfl, _, kr5.st _, _, _, (kr5.set _).ra, h _ (hext.setR (by omega) _)⟩⟩⟩
    rw [q4.ls.noFn]; exact q3.rc rfl
end
end Go.Proofs.Ytgkjfhkjgdiodaa

namespace Go.Proofs.Ytgkjfhkjgdiodaa
open _root_.Go.Proofs.Try
open Go.Abs
set_option maxRecDepth 100000
noncomputable section
theorem w41 {a100 : Int} {a101 : Int} {a102 : C} {a103 : Int} {a104 : C} {m : M} {Q : V → M → Prop} (h :
 (∀ m0 : M, ((m0 = (M.new m (AO.cells 5 [(C.int IntKind.i64 a100), (C.int IntKind.i64 a101), a102, (C.int IntKind.i64 a103), 
 a104] false))) → (∀ m1 : M, ((m1 = (M.new m0 (AO.cells 2 [(C.int IntKind.i64 (0 : Int)), (C.int IntKind.i64 (0 : Int))] false))) → 
 (∃ x2 : Int, (∃ x3 : Int, (∃ c4 : C, (∃ x5 : Int, (∃ c6 : C, (((ldA m1 (C.ptr (m).nxt 0) 5) = (Option.some [(C.int IntKind.i64 x2), 
 (C.int IntKind.i64 x3), c4, (C.int IntKind.i64 x5), c6])) ∧ (Wc prog tbl 81 [(V.agg 5 [(C.int IntKind.i64 x2), 
 (C.int IntKind.i64 x3), c4, (C.int IntKind.i64 x5), c6])] m1 (fun v7 m8 => (∃ x9 : Int, (∃ x10 : Int, 
 (∃ c11 : C, (∃ x12 : Int, (∃ c13 : C, (∃ c14 : C, (∃ x15 : Int, ((v7 = (V.tup [(U.agg 6 [(C.int IntKind.i64 x9), 
 (C.int IntKind.i64 x10), c11, (C.int IntKind.i64 x12), c13, c14]), (U.c (C.int IntKind.i64 x15))])) ∧ 
 (∀ m16 : M, ((m16 = (M.new m8 (AO.cells 6 [(C.int IntKind.i64 (0 : Int)), (C.int IntKind.i64 (0 : Int)), 
 C.sl0, (C.int IntKind.i64 (0 : Int)), C.sl0, C.map0] false))) → (∃ m17 : M, (((stC m16 (C.ptr (m8).nxt 0) 6 [(C.int IntKind.i64 x9), 
 (C.int IntKind.i64 x10), c11, (C.int IntKind.i64 x12), c13, c14]) = (Option.some m17)) ∧ 
 (ifB (!decide (x15 = (0 : Int))) (∃ m18 : M, (((stC m17 (C.ptr (m0).nxt 0) 2 [(C.int IntKind.i64 (0 : Int)), 
 (C.int IntKind.i64 (0 : Int))]) = (Option.some m18)) ∧ (∃ x19 : Int, (∃ x20 : Int, 
 (((ldA m18 (C.ptr (m0).nxt 0) 2) = (Option.some [(C.int IntKind.i64 x19), (C.int IntKind.i64 x20)])) ∧ 
 (Q (V.tup [(U.agg 2 [(C.int IntKind.i64 x19), (C.int IntKind.i64 x20)]), (U.c (C.int IntKind.i64 x15))]) m18)))))) (∃ x21 : Int, 
 (∃ x22 : Int, (∃ c23 : C, (∃ x24 : Int, (∃ c25 : C, (∃ c26 : C, (((ldA m17 (C.ptr (m8).nxt 0) 6) = (Option.some [(C.int IntKind.i64 x21), 
 (C.int IntKind.i64 x22), c23, (C.int IntKind.i64 x24), c25, c26])) ∧ (Wc prog tbl 82 [(V.agg 6 [(C.int IntKind.i64 x21), 
 (C.int IntKind.i64 x22), c23, (C.int IntKind.i64 x24), c25, c26]), (V.agg 1 [(C.fn (Fn.methodOf 114 "hailstone/frame.share") [] [])])] m17 (fun v27 m28 => 
 (∃ x29 : Int, (∃ x30 : Int, ((v27 = (V.agg 2 [(C.int IntKind.i64 x29), (C.int IntKind.i64 x30)])) ∧ 
 (∃ m31 : M, (((stC m28 (C.ptr (m0).nxt 0) 2 [(C.int IntKind.i64 x29), (C.int IntKind.i64 x30)]) = (Option.some m31)) ∧ 
 (∃ x32 : Int, (∃ x33 : Int, (((ldA m31 (C.ptr (m0).nxt 0) 2) = (Option.some [(C.int IntKind.i64 x32), 
 (C.int IntKind.i64 x33)])) ∧ (Q (V.tup [(U.agg 2 [(C.int IntKind.i64 x32), (C.int IntKind.i64 x33)]), 
 (U.c (C.int IntKind.i64 (0 : Int)))]) m31)))))))))))))))))))))))))))))))))))))))))))) : Wc prog tbl 41 [(V.agg 5 [(C.int IntKind.i64 a100), (C.int IntKind.i64 a101), a102, (C.int IntKind.i64 a103), a104])] m Q :=
 wc_eq (n := 1) rfl (by kernel_rfl) (by kernel_rfl) h
end
end Go.Proofs.Ytgkjfhkjgdiodaa

namespace Go.Proofs.Ytgkjfhkjgdiodaa
open _root_.Go.Proofs.Try
open Go.Abs
set_option maxRecDepth 100000
noncomputable section
theorem truth_of {r c sm : Int} {L H : List Int} {N : List Cnt} (hf : isField r c L = true) (h : H ∈ truthsP c sm L N) : listed L H = true := by
  have := (mem_exts hf H L.length 0 [] (by omega) rfl).1 h
  exact decide_eq_true ⟨this.1, fun i hi => (this.2.2 i (by omega) hi).1⟩
theorem num_share {r c sm : Int} {x y : C} {L : List Int} {N : List Cnt} {mb : Nat} {m : M} (hx : Li m x L) (hf : isField r c L = true) :
    NumOf r c sm x y mb m (truthsP c sm L N) (.fn (.methodOf 114 "hailstone/frame.share") [] []) (shareOf L) := by
  obtain ⟨hS, hL9, hrc⟩ := field_of hf
  intro m' H hH e Q h
  have hl := truth_of hf hH
  show Wc prog tbl 75 [.agg 5 [.int .i64 r, .int .i64 c, x, .int .i64 sm, y], .agg 9 (ints (pad H))] m' Q
  refine s75 (hx.ext e) hS hL9 (pad_len (by have := listed_len hl; omega)) (small_pad (small_listed hS hl)) fun m'' e'' => ?_
  have := h m'' e''
  rw [← shareOf_pad] at this
  exact this
theorem rests_len {α : Type} (g : Nat → List α) (B : Nat) (h : ∀ n, (g n).length ≤ B) : ∀ e n, (rests g e n).length ≤ e * B
  | 0, _ => by show 0 ≤ _; omega
  | e + 1, n => by
    show (g n ++ rests g e (n + 1)).length ≤ _
    rw [List.length_append, Nat.succ_mul]
    have := h n
    have := rests_len g B h e (n + 1)
    omega
def prodN : List Int → Nat
  | [] => 1
  | v :: L => (v.toNat + 1) * prodN L
theorem exts_len {c sm : Int} {L : List Int} {N : List Cnt} {O : List Bool} : ∀ (d p : Nat) (pre : List Int), d + p = L.length → pre.length = p → (exts c sm L N O d pre).length ≤ prodN (L.drop p)
  | 0, p, pre, hd, hpre => by
    rw [List.drop_eq_nil_of_le (by omega)]; exact Nat.le_refl _
  | d + 1, p, pre, hd, hpre => by
    have hpL : p < L.length := by omega
    rw [List.drop_eq_getElem_cons hpL]
    show (rests _ (L[pre.length]!.toNat + 1) 0).length ≤ (L[p].toNat + 1) * prodN (L.drop (p + 1))
    rw [hpre, getElem!_pos L p hpL]
    refine rests_len _ _ (fun n => ?_) _ _
    split
    · exact exts_len d (p + 1) _ (by omega) (by simp [hpre])
    · exact Nat.zero_le _
theorem mulL_prod : ∀ (L : List Int) (a : Int), Small L → mulL a L = a * (prodN L : Int)
  | [], a, _ => by show a = a * ((1 : Nat) : Int); omega
  | v :: L, a, h => by
    have hv := h v (List.mem_cons_self ..)
    show mulL (a * (v + 1)) L = a * (((v.toNat + 1) * prodN L : Nat) : Int)
    rw [mulL_prod L _ fun w hw => h w (List.mem_cons_of_mem _ hw), Int.natCast_mul, show ((v.toNat + 1 : Nat) : Int) = v + 1 by omega, Int.mul_assoc]
theorem few_truths {r c sm : Int} {L : List Int} {N : List Cnt} (hv : svErr r c L sm N = 0) : prodN L ≤ 2000 := by
  obtain ⟨hO, _⟩ := okay_of hv
  obtain ⟨hS, _, _⟩ := field_of hO.f
  have hm : mulL 1 L ≤ 2000 := by
    unfold svErr at hv
    rw [if_pos hO.n] at hv
    by_cases hs : isSv r c L sm N = true
    · rw [if_pos hs] at hv
      by_cases hm : mulL 1 L ≤ 2000
      · exact hm
      · rw [if_neg hm] at hv; simp at hv
    · rw [if_neg hs] at hv; simp at hv
  rw [mulL_prod L 1 hS] at hm
  omega
theorem truths_len {r c sm : Int} {L : List Int} {N : List Cnt} (hv : svErr r c L sm N = 0) : (truthsP c sm L N).length ≤ 2000 :=
  Nat.le_trans (exts_len L.length 0 [] (by omega) rfl) (few_truths hv)
theorem true_sv {r c sm : Int} {L : List Int} {N : List Cnt} (h : trueErr r c L sm N = 0) : svErr r c L sm N = 0 ∧ 0 < (truthsP c sm L N).length := by
  unfold trueErr at h
  by_cases hv : svErr r c L sm N = 0
  · rw [if_pos hv] at h
    refine ⟨hv, ?_⟩
    cases ht : truthsP c sm L N with
    | nil => rw [ht] at h; simp at h
    | cons a l => simp
  · rw [if_neg hv] at h; exact absurd h hv
def boundsOf (r c : Int) (L : List Int) (sm : Int) (N : List Cnt) (err : Int) (num : List Int → Int) : Int × Int := if err = 0 then (loOf ((truthsP c sm L N).map num), hiOf ((truthsP c sm L N).map num)) else (0, 0)
/-- Bounds -/
theorem s41 {r c sm : Int} {x y : C} {L : List Int} {N : List Cnt} {m : M} {Q : V → M → Prop} (hx : Li m x L) (hL : L.length ≤ 1048576) (hy : Lc m y N) (hN : N.length ≤ 1000)
    (h : ∀ m', Ext m m' → Q (.tup [.agg 2 [.int .i64 (boundsOf r c L sm N (trueErr r c L sm N) (shareOf L)).1, .int .i64 (boundsOf r c L sm N (trueErr r c L sm N) (shareOf L)).2], .c (.int .i64 (trueErr r c L sm N))]) m') :
    Wc prog tbl 41 [.agg 5 [.int .i64 r, .int .i64 c, x, .int .i64 sm, y]] m Q := by
  refine w41 fun m0 e0 m1 e1 => ?_
  obtain ⟨b0, x0⟩ := Bk.new e0
  obtain ⟨b1, x1⟩ := Bk.new e1
  have x01 := x0.trans x1
  have n0 : m0.nxt = m.nxt + 1 := by rw [e0]; rfl
  refine ⟨r, c, x, sm, y, (b0.ext x1).ra, s81 (hx.ext x01) hL (hy.ext x01) hN (fun hne m8 e8 => ⟨0, 0, .sl0, 0, .sl0, .map0, trueErr r c L sm N, rfl, fun m16 h16 => ?_⟩) fun hz m8 mb f e8 hw => ⟨r, c, x, sm, y, .map mb, 0, rfl, fun m16 h16 => ?_⟩⟩
  · obtain ⟨b16, x16⟩ := Bk.new h16
    have e17 : Ext m8 (m16.set m8.nxt (.cells 6 [.int .i64 0, .int .i64 0, .sl0, .int .i64 0, .sl0, .map0] false)) := x16.setR (Nat.le_refl _) _
    refine ⟨_, b16.st _, ?_⟩
    generalize m16.set m8.nxt (.cells 6 [.int .i64 0, .int .i64 0, .sl0, .int .i64 0, .sl0, .map0] false) = m17 at e17
    rw [ifB_ndec]
    refine ⟨fun _ => ?_, fun h1 => absurd h1 hne⟩
    have k1 := (b1.ext e8).ext e17
    refine ⟨_, k1.st _, 0, 0, (k1.set _).ra, ?_⟩
    have hq := h _ (((x01.trans e8).trans e17).setR (b := m0.nxt) (by omega) (.cells 2 [.int .i64 0, .int .i64 0] false))
    unfold boundsOf at hq
    rw [if_neg hne] at hq
    exact hq
  · obtain ⟨b16, x16⟩ := Bk.new h16
    have k17 := b16.set [.int .i64 r, .int .i64 c, x, .int .i64 sm, y, .map mb]
    have e17 : Ext m8 (m16.set m8.nxt (.cells 6 [.int .i64 r, .int .i64 c, x, .int .i64 sm, y, .map mb] false)) := x16.setR (Nat.le_refl _) _
    refine ⟨_, b16.st _, ?_⟩
    generalize m16.set m8.nxt (.cells 6 [.int .i64 r, .int .i64 c, x, .int .i64 sm, y, .map mb] false) = m17 at e17 k17
    obtain ⟨hv, hpos⟩ := true_sv hz
    obtain ⟨hO, _⟩ := okay_of hv
    have x17 := (x01.trans e8).trans e17
    rw [ifB_ndec]
    refine ⟨fun h1 => absurd rfl h1, fun _ => ⟨r, c, x, sm, y, .map mb, k17.ra, s82 (hw.ext e17) (hx.ext x17) hO.f hpos (by have := truths_len hv; omega) (num_share (hx.ext x17) hO.f) fun m28 e28 => ⟨_, _, rfl, ?_⟩⟩⟩
    have k1 := ((b1.ext e8).ext e17).ext e28
    refine ⟨_, k1.st _, _, _, (k1.set _).ra, ?_⟩
    have hq := h _ ((x17.trans e28).setR (b := m0.nxt) (by omega) (.cells 2 [.int .i64 (loOf ((truthsP c sm L N).map (shareOf L))), .int .i64 (hiOf ((truthsP c sm L N).map (shareOf L)))] false))
    unfold boundsOf at hq
    rw [if_pos hz, hz] at hq
    exact hq
end
end Go.Proofs.Ytgkjfhkjgdiodaa

namespace Go.Proofs.Ytgkjfhkjgdiodaa
open _root_.Go.Proofs.Try
open Go.Abs
set_option maxRecDepth 100000
noncomputable section
theorem allNF {r c sm : Int} {x y : C} (h1 : noFnC x = true) (h2 : noFnC y = true) : allS noFnC [.int .i64 r, .int .i64 c, x, .int .i64 sm, y] = true := by
  show ifB true (ifB true (ifB (noFnC x) (ifB true (ifB (noFnC y) true false) false) false) false) false = true
  rw [h1, h2]; rfl
end
end Go.Proofs.Ytgkjfhkjgdiodaa

namespace Go.Proofs.Ytgkjfhkjgdiodaa
open _root_.Go.Proofs.Try
open Go.Abs
set_option maxRecDepth 100000
noncomputable section
theorem minR_spec : ∀ (D : List Int) (a : Int), (minR a D = a ∨ minR a D ∈ D) ∧ minR a D ≤ a ∧ ∀ v ∈ D, minR a D ≤ v
  | [], a => ⟨.inl rfl, Int.le_refl _, fun v hv => by cases hv⟩
  | u :: D, a => by
    obtain ⟨h1, h2, h3⟩ := minR_spec D (if u < a then u else a)
    show (minR (if u < a then u else a) D = a ∨ minR (if u < a then u else a) D ∈ u :: D) ∧ minR (if u < a then u else a) D ≤ a ∧ ∀ v ∈ u :: D, minR (if u < a then u else a) D ≤ v
    generalize minR (if u < a then u else a) D = w at h1 h2 h3
    refine ⟨?_, ?_, fun v hv => ?_⟩
    · rcases h1 with h1 | h1
      · split at h1
        · exact .inr (by rw [h1]; exact List.mem_cons_self ..)
        · exact .inl h1
      · exact .inr (List.mem_cons_of_mem _ h1)
    · split at h2 <;> omega
    · rcases List.mem_cons.1 hv with rfl | h4
      · split at h2 <;> omega
      · exact h3 v h4
theorem maxR_spec : ∀ (D : List Int) (a : Int), (maxR a D = a ∨ maxR a D ∈ D) ∧ a ≤ maxR a D ∧ ∀ v ∈ D, v ≤ maxR a D
  | [], a => ⟨.inl rfl, Int.le_refl _, fun v hv => by cases hv⟩
  | u :: D, a => by
    obtain ⟨h1, h2, h3⟩ := maxR_spec D (max a u)
    show (maxR (max a u) D = a ∨ maxR (max a u) D ∈ u :: D) ∧ a ≤ maxR (max a u) D ∧ ∀ v ∈ u :: D, v ≤ maxR (max a u) D
    generalize maxR (max a u) D = w at h1 h2 h3
    refine ⟨?_, by omega, fun v hv => ?_⟩
    · rcases h1 with h1 | h1
      · rcases (by omega : max a u = a ∨ max a u = u) with h4 | h4
        · exact .inl (by rw [h1, h4])
        · exact .inr (by rw [h1, h4]; exact List.mem_cons_self ..)
      · exact .inr (List.mem_cons_of_mem _ h1)
    · rcases List.mem_cons.1 hv with rfl | h4
      · omega
      · exact h3 v h4
theorem lo_spec {D : List Int} (h : 0 < D.length) : loOf D ∈ D ∧ ∀ v ∈ D, loOf D ≤ v := by
  cases D with
  | nil => simp at h
  | cons u D =>
    obtain ⟨h1, h2, h3⟩ := minR_spec (u :: D) u
    exact ⟨h1.elim (fun h4 => by show minR u (u :: D) ∈ _; rw [h4]; exact List.mem_cons_self ..) id, h3⟩
theorem hi_spec {D : List Int} (h : 0 < D.length) : hiOf D ∈ D ∧ ∀ v ∈ D, v ≤ hiOf D := by
  cases D with
  | nil => simp at h
  | cons u D =>
    obtain ⟨h1, h2, h3⟩ := maxR_spec D u
    refine ⟨h1.elim (fun h4 => by show maxR u D ∈ _; rw [h4]; exact List.mem_cons_self ..) fun h4 => List.mem_cons_of_mem _ h4, fun v hv => ?_⟩
    rcases List.mem_cons.1 hv with rfl | h5
    · exact h2
    · exact h3 v h5
theorem share_bd {L H : List Int} (hS : Small L) (hL : L.length ≤ 9) (hl : listed L H = true) : 0 ≤ shareOf L H ∧ shareOf L H ≤ 100000 := by
  have hlen := listed_len hl
  have h1 := sumA_ge (L := H) (fun v hv => (small_listed hS hl v hv).1) (a := 0) (by omega)
  have h2 := sumA_le (L := H) (fun v hv => (small_listed hS hl v hv).2) (a := 0)
  have h3 := sumA_ge (L := L) (fun v hv => (hS v hv).1) (a := 0) (by omega)
  unfold shareOf
  split
  · omega
  · have h4 : 0 ≤ sumA 0 H * 100 := by omega
    have h5 := Int.ediv_nonneg h4 h3
    have h6 := Int.ediv_le_self (sumA 0 L) h4
    omega
end
end Go.Proofs.Ytgkjfhkjgdiodaa

namespace Go.Proofs.Ytgkjfhkjgdiodaa
open _root_.Go.Proofs.Try
open Go.Abs
set_option maxRecDepth 100000
noncomputable section
/-- an increasing list of numbers from fr on, below n -/
def Inc (n fr : Nat) (T : List Int) : Prop := T.Pairwise (· < ·) ∧ ∀ v ∈ T, (fr : Int) ≤ v ∧ v < n
theorem Inc.cons {n fr : Nat} {x : Int} {T : List Int} : Inc n fr (x :: T) ↔ ((fr : Int) ≤ x ∧ x < n) ∧ Inc n (x + 1).toNat T := by
  unfold Inc
  rw [List.pairwise_cons]
  constructor
  · rintro ⟨⟨h1, h2⟩, h3⟩
    have hx := h3 x (List.mem_cons_self ..)
    exact ⟨hx, h2, fun v hv => by have := h1 v hv; have := h3 v (List.mem_cons_of_mem _ hv); omega⟩
  · rintro ⟨hx, h2, h3⟩
    refine ⟨⟨fun v hv => by have := h3 v hv; omega, h2⟩, fun v hv => ?_⟩
    rcases List.mem_cons.1 hv with rfl | hv
    · exact hx
    · have := h3 v hv; omega
end
end Go.Proofs.Ytgkjfhkjgdiodaa

namespace Go.Proofs.Ytgkjfhkjgdiodaa
open _root_.Go.Proofs.Try
open Go.Abs
set_option maxRecDepth 100000
noncomputable section
theorem s58 {r c sm : Int} {x y : C} {L : List Int} {N : List Cnt} {m : M} {Q : V → M → Prop} (hx : Li m x L) (hy : Lc m y N)
    (h : ∀ m', Ext m m' → Q (.c (.bool (decide (svErr r c L sm N = 0)))) m') : Wc prog tbl 58 [.agg 5 [.int .i64 r, .int .i64 c, x, .int .i64 sm, y]] m Q := by
  refine w58 fun m0 e0 => ?_
  obtain ⟨b0, x0⟩ := Bk.new e0
  refine ⟨r, c, x, sm, y, b0.ra, s19 (hx.ext x0) (hy.ext x0) fun m7 e7 => ⟨_, rfl, ?_⟩⟩
  rw [ifB_dec]
  refine ⟨fun h1 => ⟨r, c, x, sm, y, (b0.ext e7).ra, s36 (hx.ext (x0.trans e7)) (by omega) (hy.ext (x0.trans e7)) (by omega) fun m15 e15 => ⟨_, rfl, h m15 ((x0.trans e7).trans e15)⟩⟩, fun h1 => ?_⟩
  have hq := h m7 (x0.trans e7)
  rw [decide_eq_false fun hv => h1 ?_] at hq
  · exact hq
  · obtain ⟨hO, _⟩ := okay_of hv
    obtain ⟨_, h9, _⟩ := field_of hO.f
    have := hO.n
    exact ⟨by omega, by omega⟩
end
end Go.Proofs.Ytgkjfhkjgdiodaa

namespace Go.Proofs.Ytgkjfhkjgdiodaa
open _root_.Go.Proofs.Try
open Go.Abs
set_option maxRecDepth 100000
noncomputable section
/-- a law's call of Bounds, and the block that takes what it returns -/
theorem cBounds {r c sm : Int} {x y : C} {L : List Int} {N : List Cnt} {a : Nat} {m : M} {R : Int → Int → Int → M → M → Prop} (hx : Li m x L) (hL : L.length ≤ 1000) (hy : Lc m y N) (hN : N.length ≤ 1000) (ka : Bk m a 5 [.int .i64 r, .int .i64 c, x, .int .i64 sm, y])
    (h : ∀ m1 m2, Ext m m1 → Ext m1 m2 → Bk m2 m1.nxt 2 [.int .i64 (boundsOf r c L sm N (trueErr r c L sm N) (shareOf L)).1, .int .i64 (boundsOf r c L sm N (trueErr r c L sm N) (shareOf L)).2] → R (boundsOf r c L sm N (trueErr r c L sm N) (shareOf L)).1 (boundsOf r c L sm N (trueErr r c L sm N) (shareOf L)).2 (trueErr r c L sm N) m1 m2) :
    ∃ x1 x2 : Int, ∃ c3 : C, ∃ x4 : Int, ∃ c5 : C, ldA m (C.ptr a 0) 5 = some [C.int .i64 x1, C.int .i64 x2, c3, C.int .i64 x4, c5] ∧ Wc prog tbl 33 [V.agg 5 [C.int .i64 x1, C.int .i64 x2, c3, C.int .i64 x4, c5]] m fun v6 m7 => ∃ x8 x9 : Int, ∃ c10 : C, ∃ x11 : Int, ∃ c12 : C, v6 = V.agg 5 [C.int .i64 x8, C.int .i64 x9, c10, C.int .i64 x11, c12] ∧
      Wc prog tbl 41 [V.agg 5 [C.int .i64 x8, C.int .i64 x9, c10, C.int .i64 x11, c12]] m7 fun v13 m14 => ∃ x15 x16 x17 : Int, v13 = V.tup [U.agg 2 [C.int .i64 x15, C.int .i64 x16], U.c (C.int .i64 x17)] ∧ ∀ m18 : M, m18 = M.new m14 (AO.cells 2 [C.int .i64 0, C.int .i64 0] false) → ∃ m19 : M, stC m18 (C.ptr m14.nxt 0) 2 [C.int .i64 x15, C.int .i64 x16] = some m19 ∧ R x15 x16 x17 m14 m19 := by
  refine ⟨r, c, x, sm, y, ka.ra, s33 hx (by omega) hy (by omega) fun xa ya m7 e7 hxa hya => ⟨r, c, xa, sm, ya, rfl, s41 hxa (by omega) hya (by omega) fun m14 e14 => ⟨_, _, _, rfl, fun m18 h18 => ?_⟩⟩⟩
  obtain ⟨b18, x18⟩ := Bk.new h18
  exact ⟨_, b18.st _, h m14 _ (e7.trans e14) (x18.setR (Nat.le_refl _) _) (b18.set _)⟩
end
end Go.Proofs.Ytgkjfhkjgdiodaa

namespace Go.Proofs.Ytgkjfhkjgdiodaa
open _root_.Go.Proofs.Try
open Go.Abs
set_option maxRecDepth 100000
noncomputable section
theorem truthR_iff {c sm : Int} {L H : List Int} {N : List Cnt} : truthR c sm L N H = true ↔ TruthR c sm L N H :=
  ⟨fun h => by
    by_cases hT : TruthR c sm L N H
    · exact hT
    · rw [truthR_false hT] at h; exact absurd h (by decide), truthR_true⟩
theorem sv_ok {r c sm : Int} {L : List Int} {N : List Cnt} (hO : Okay r c L N) (hsm : 0 ≤ sm ∧ sm ≤ 9) (hP : prodN L ≤ 2000) : svErr r c L sm N = 0 := by
  obtain ⟨hS, _, _⟩ := field_of hO.f
  unfold svErr
  rw [if_pos hO.n, if_pos (show isSv r c L sm N = true from by unfold isSv; rw [hO.f, decide_eq_true hsm, decide_eq_true hO.v]; rfl), if_pos (by rw [mulL_prod L 1 hS]; omega)]
theorem mem_P {r c sm : Int} {L H : List Int} {N : List Cnt} (hv : svErr r c L sm N = 0) : H ∈ truthsP c sm L N ↔ TruthR c sm L N H := by
  obtain ⟨hO, hsm⟩ := okay_of hv
  rw [← truthR_iff]
  exact mem_truths hO hsm.1
theorem true_ex {r c sm : Int} {L : List Int} {N : List Cnt} (hv : svErr r c L sm N = 0) : trueErr r c L sm N = 0 ↔ ∃ H, TruthR c sm L N H := by
  constructor
  · intro h
    obtain ⟨_, hp⟩ := true_sv h
    exact ⟨_, (mem_P hv).1 (List.getElem_mem hp)⟩
  · rintro ⟨H, h⟩
    have := (mem_P hv).2 h
    unfold trueErr
    rw [if_pos hv]
    cases ht : truthsP c sm L N with
    | nil => rw [ht] at this; cases this
    | cons a l => rfl
theorem true_nine {r c sm : Int} {L : List Int} {N : List Cnt} (hv : svErr r c L sm N = 0) (h : trueErr r c L sm N ≠ 0) : trueErr r c L sm N = 9 := by
  unfold trueErr at h ⊢
  rw [if_pos hv] at h ⊢
  cases ht : (truthsP c sm L N).isEmpty with
  | true => rfl
  | false => rw [ht] at h; exact absurd rfl h
theorem lo_mono {D E : List Int} (hD : 0 < D.length) (h : ∀ v ∈ D, v ∈ E) : loOf E ≤ loOf D ∧ hiOf D ≤ hiOf E := by
  have hE : 0 < E.length := List.length_pos_of_mem (h _ (lo_spec hD).1)
  exact ⟨(lo_spec hE).2 _ (h _ (lo_spec hD).1), (hi_spec hE).2 _ (h _ (hi_spec hD).1)⟩
theorem bd_mono {r c sm r' c' sm' : Int} {L L' : List Int} {N N' : List Cnt} (hv : svErr r c L sm N = 0) (hv' : svErr r' c' L' sm' N' = 0) (ht : trueErr r c L sm N = 0) (num num' : List Int → Int)
    (h : ∀ H, TruthR c sm L N H → ∃ H', TruthR c' sm' L' N' H' ∧ num' H' = num H) :
    trueErr r' c' L' sm' N' = 0 ∧ loOf ((truthsP c' sm' L' N').map num') ≤ loOf ((truthsP c sm L N).map num) ∧ hiOf ((truthsP c sm L N).map num) ≤ hiOf ((truthsP c' sm' L' N').map num') := by
  obtain ⟨_, hp⟩ := true_sv ht
  refine ⟨(true_ex hv').2 ?_, lo_mono (by rw [List.length_map]; exact hp) fun v hv1 => ?_⟩
  · obtain ⟨H, hH⟩ := (true_ex hv).1 ht
    obtain ⟨H', h1, _⟩ := h H hH
    exact ⟨H', h1⟩
  · obtain ⟨H, h1, rfl⟩ := List.mem_map.1 hv1
    obtain ⟨H', h2, h3⟩ := h H ((mem_P hv).1 h1)
    exact List.mem_map.2 ⟨H', (mem_P hv').2 h2, h3⟩
end
end Go.Proofs.Ytgkjfhkjgdiodaa

namespace Go.Proofs.Ytgkjfhkjgdiodaa
open _root_.Go.Proofs.Try
open Go.Abs
set_option maxRecDepth 100000
noncomputable section
theorem wrap_sm {n : Int} (h0 : 0 ≤ n) (h1 : n ≤ 1000000) : wrapZ .i64 n = n := by
  unfold wrapZ
  rw [Go.Abs.fits_of (k := .i64) (n := n) (by simp only [fitsP]; omega)]; rfl
end
end Go.Proofs.Ytgkjfhkjgdiodaa

namespace Go.Proofs.Ytgkjfhkjgdiodaa
open _root_.Go.Proofs.Try
open Go.Abs
set_option maxRecDepth 100000
noncomputable section
theorem w18 {a100 : Int} {a101 : Int} {a102 : C} {a103 : Int} {a104 : C} {a200 : Int} {m : M} {Q : V → M → Prop} (h :
 (∀ m0 : M, ((m0 = (M.new m (AO.cells 5 [(C.int IntKind.i64 a100), (C.int IntKind.i64 a101), a102, (C.int IntKind.i64 a103), 
 a104] false))) → (∃ x1 : Int, (∃ x2 : Int, (∃ c3 : C, (∃ x4 : Int, (∃ c5 : C, (((ldA m0 (C.ptr (m).nxt 0) 5) = (Option.some [(C.int IntKind.i64 x1), 
 (C.int IntKind.i64 x2), c3, (C.int IntKind.i64 x4), c5])) ∧ (Wc prog tbl 58 [(V.agg 5 [(C.int IntKind.i64 x1), 
 (C.int IntKind.i64 x2), c3, (C.int IntKind.i64 x4), c5])] m0 (fun v6 m7 => (∃ b8 : Bool, ((v6 = (V.c (C.bool b8))) ∧ 
 (ifB (!b8) (Wc prog tbl 20 [] m7 (fun v9 m10 => (∃ b11 : Bool, ((v9 = (V.c (C.bool b11))) ∧ (Q (V.c (C.bool b11)) m10))))) (isPt (C.ptr (m).nxt 0) ∧ 
 (∃ c12 : C, (((ldC m7 (C.ptr (m).nxt 4)) = (Option.some c12)) ∧ (isSl c12 ∧ (ifB (decide ((((slLen c12) : Nat) : Int) = (0 : Int))) (Wc prog tbl 20 [] m7 (fun v13 m14 => 
 (∃ b15 : Bool, ((v13 = (V.c (C.bool b15))) ∧ (Q (V.c (C.bool b15)) m14))))) (isPt (C.ptr (m).nxt 0) ∧ 
 (∃ c16 : C, (((ldC m7 (C.ptr (m).nxt 4)) = (Option.some c16)) ∧ (isSl c16 ∧ (((0 : Int) ≤ (wrapZ IntKind.i64 a200)) ∧ 
 (((0 : Int) < (((slLen c16) : Nat) : Int)) ∧ (fitsP IntKind.i64 ((wrapZ IntKind.i64 a200) % (((slLen c16) : Nat) : Int)) ∧ 
 (∀ m17 : M, ((m17 = (mGrow m7 2)) → (∃ x18 : Int, (∃ x19 : Int, (∃ c20 : C, (∃ x21 : Int, 
 (∃ c22 : C, (((ldA m17 (C.ptr (m).nxt 0) 5) = (Option.some [(C.int IntKind.i64 x18), 
 (C.int IntKind.i64 x19), c20, (C.int IntKind.i64 x21), c22])) ∧ (∃ x23 : Int, 
 (∃ x24 : Int, (∃ c25 : C, (∃ x26 : Int, (∃ c27 : C, (((ldA m17 (C.ptr (m).nxt 0) 5) = (Option.some [(C.int IntKind.i64 x23), 
 (C.int IntKind.i64 x24), c25, (C.int IntKind.i64 x26), c27])) ∧ (∃ x28 : Int, 
 (∃ x29 : Int, (∃ c30 : C, (∃ x31 : Int, (∃ c32 : C, (((ldA m17 (C.ptr (m).nxt 0) 5) = (Option.some [(C.int IntKind.i64 x28), 
 (C.int IntKind.i64 x29), c30, (C.int IntKind.i64 x31), c32])) ∧ (∀ m33 : M, ((m33 = (M.new m17 (AO.cells 5 [(C.int IntKind.i64 (0 : Int)), 
 (C.int IntKind.i64 (0 : Int)), C.sl0, (C.int IntKind.i64 (0 : Int)), C.sl0] false))) → 
 ((ifB (allS noFnC [(C.int IntKind.i64 x28), (C.int IntKind.i64 x29), c30, (C.int IntKind.i64 x31), 
 c32]) ((ldA m33 (C.ptr (m).nxt 0) 5) = (Option.some [(C.int IntKind.i64 x28), 
 (C.int IntKind.i64 x29), c30, (C.int IntKind.i64 x31), c32])) False) ∧ ((ifB (allS noFnC [(C.int IntKind.i64 x23), 
 (C.int IntKind.i64 x24), c25, (C.int IntKind.i64 x26), c27]) ((ldA m33 (C.ptr (m).nxt 0) 5) = (Option.some [(C.int IntKind.i64 x23), 
 (C.int IntKind.i64 x24), c25, (C.int IntKind.i64 x26), c27])) False) ∧ ((ifB (allS noFnC [(C.int IntKind.i64 x18), 
 (C.int IntKind.i64 x19), c20, (C.int IntKind.i64 x21), c22]) ((ldA m33 (C.ptr (m).nxt 0) 5) = (Option.some [(C.int IntKind.i64 x18), 
 (C.int IntKind.i64 x19), c20, (C.int IntKind.i64 x21), c22])) False) ∧ (∀ m34 : M, 
 ((m34 = (M.set m33 ((m7).nxt + 0) (AO.cells 5 [(C.int IntKind.i64 (0 : Int)), 
 (C.int IntKind.i64 (0 : Int)), C.sl0, (C.int IntKind.i64 (0 : Int)), C.sl0] false))) → 
 ((ifB (allS noFnC [(C.int IntKind.i64 x28), (C.int IntKind.i64 x29), c30, (C.int IntKind.i64 x31), 
 c32]) ((ldA m34 (C.ptr (m).nxt 0) 5) = (Option.some [(C.int IntKind.i64 x28), 
 (C.int IntKind.i64 x29), c30, (C.int IntKind.i64 x31), c32])) False) ∧ ((ifB (allS noFnC [(C.int IntKind.i64 x23), 
 (C.int IntKind.i64 x24), c25, (C.int IntKind.i64 x26), c27]) ((ldA m34 (C.ptr (m).nxt 0) 5) = (Option.some [(C.int IntKind.i64 x23), 
 (C.int IntKind.i64 x24), c25, (C.int IntKind.i64 x26), c27])) False) ∧ ((ifB (allS noFnC [(C.int IntKind.i64 x18), 
 (C.int IntKind.i64 x19), c20, (C.int IntKind.i64 x21), c22]) ((ldA m34 (C.ptr (m).nxt 0) 5) = (Option.some [(C.int IntKind.i64 x18), 
 (C.int IntKind.i64 x19), c20, (C.int IntKind.i64 x21), c22])) False) ∧ (∀ m35 : M, 
 ((m35 = (M.set m34 ((m7).nxt + 1) (AO.cells 5 [(C.int IntKind.i64 (0 : Int)), 
 (C.int IntKind.i64 (0 : Int)), C.sl0, (C.int IntKind.i64 (0 : Int)), C.sl0] false))) → 
 ((ifB (allS noFnC [(C.int IntKind.i64 x28), (C.int IntKind.i64 x29), c30, (C.int IntKind.i64 x31), 
 c32]) ((ldA m35 (C.ptr (m).nxt 0) 5) = (Option.some [(C.int IntKind.i64 x28), 
 (C.int IntKind.i64 x29), c30, (C.int IntKind.i64 x31), c32])) False) ∧ ((ifB (allS noFnC [(C.int IntKind.i64 x23), 
 (C.int IntKind.i64 x24), c25, (C.int IntKind.i64 x26), c27]) ((ldA m35 (C.ptr (m).nxt 0) 5) = (Option.some [(C.int IntKind.i64 x23), 
 (C.int IntKind.i64 x24), c25, (C.int IntKind.i64 x26), c27])) False) ∧ ((ifB (allS noFnC [(C.int IntKind.i64 x18), 
 (C.int IntKind.i64 x19), c20, (C.int IntKind.i64 x21), c22]) ((ldA m35 (C.ptr (m).nxt 0) 5) = (Option.some [(C.int IntKind.i64 x18), 
 (C.int IntKind.i64 x19), c20, (C.int IntKind.i64 x21), c22])) False) ∧ (∃ m36 : M, 
 (((stC m35 (C.ptr (m17).nxt 0) 5 [(C.int IntKind.i64 x18), (C.int IntKind.i64 x19), 
 c20, (C.int IntKind.i64 x21), c22]) = (Option.some m36)) ∧ ((ifB (allS noFnC [(C.int IntKind.i64 x28), 
 (C.int IntKind.i64 x29), c30, (C.int IntKind.i64 x31), c32]) ((ldA m36 (C.ptr (m).nxt 0) 5) = (Option.some [(C.int IntKind.i64 x28), 
 (C.int IntKind.i64 x29), c30, (C.int IntKind.i64 x31), c32])) False) ∧ ((ifB (allS noFnC [(C.int IntKind.i64 x23), 
 (C.int IntKind.i64 x24), c25, (C.int IntKind.i64 x26), c27]) ((ldA m36 (C.ptr (m).nxt 0) 5) = (Option.some [(C.int IntKind.i64 x23), 
 (C.int IntKind.i64 x24), c25, (C.int IntKind.i64 x26), c27])) False) ∧ (∃ m37 : M, 
 (((stC m36 (C.ptr ((m7).nxt + 0) 0) 5 [(C.int IntKind.i64 x23), (C.int IntKind.i64 x24), 
 c25, (C.int IntKind.i64 x26), c27]) = (Option.some m37)) ∧ ((ifB (allS noFnC [(C.int IntKind.i64 x28), 
 (C.int IntKind.i64 x29), c30, (C.int IntKind.i64 x31), c32]) ((ldA m37 (C.ptr (m).nxt 0) 5) = (Option.some [(C.int IntKind.i64 x28), 
 (C.int IntKind.i64 x29), c30, (C.int IntKind.i64 x31), c32])) False) ∧ (∃ m38 : M, 
 (((stC m37 (C.ptr ((m7).nxt + 1) 0) 5 [(C.int IntKind.i64 x28), (C.int IntKind.i64 x29), 
 c30, (C.int IntKind.i64 x31), c32]) = (Option.some m38)) ∧ (∀ m39 : M, ((m39 = (mGrow m38 1)) → 
 (∀ m40 : M, ((m40 = (M.new m39 (AO.cells 0 [] false))) → (isPt (C.ptr (m).nxt 0) ∧ 
 (∃ c41 : C, (((ldC m40 (C.ptr (m).nxt 4)) = (Option.some c41)) ∧ ((ifB (noFnC c41) ((ldC m39 (C.ptr (m).nxt 4)) = (Option.some c41)) False) ∧ 
 (∃ c42 : C, (∃ m43 : M, ((ApR prog 27 m40 (C.sl (m39).nxt 0 0 0 (Option.some 0)) c41 c42 m43) ∧ 
 (∀ m44 : M, ((m44 = (M.set m43 ((m38).nxt + 0) (AO.cells 0 [] false))) → ((ifB (noFnC c41) ((ldC m44 (C.ptr (m).nxt 4)) = (Option.some c41)) False) ∧ 
 (isPt (C.ptr (m).nxt 0) ∧ (∃ c45 : C, (((ldC m44 (C.ptr (m).nxt 4)) = (Option.some c45)) ∧ 
 ((ifB (noFnC c45) ((ldC m43 (C.ptr (m).nxt 4)) = (Option.some c45)) False) ∧ 
 ((ifB (noFnC c45) ((ldC m40 (C.ptr (m).nxt 4)) = (Option.some c45)) False) ∧ 
 ((ifB (noFnC c45) ((ldC m39 (C.ptr (m).nxt 4)) = (Option.some c45)) False) ∧ 
 (∃ c46 : C, (∃ m47 : M, ((ApR prog 27 m44 (C.sl ((m38).nxt + 0) 0 0 0 (Option.some 0)) c45 c46 m47) ∧ 
 (isPt (C.ptr (m17).nxt 0) ∧ (∃ m48 : M, (((stC m47 (C.ptr (m17).nxt 4) 1 [c42]) = (Option.some m48)) ∧ 
 (isPt (C.ptr ((m7).nxt + 1) 0) ∧ (∃ m49 : M, (((stC m48 (C.ptr ((m7).nxt + 1) 4) 1 [c46]) = (Option.some m49)) ∧ 
 (isPt (C.ptr (m17).nxt 0) ∧ (∃ c50 : C, (((ldC m49 (C.ptr (m17).nxt 4)) = (Option.some c50)) ∧ 
 (isPt (C.ptr ((m7).nxt + 1) 0) ∧ (∃ c51 : C, (((ldC m49 (C.ptr ((m7).nxt + 1) 4)) = (Option.some c51)) ∧ 
 (∃ n52 : Nat, ((((wrapZ IntKind.i64 a200) % (((slLen c16) : Nat) : Int)) = ((n52 : Nat) : Int)) ∧ 
 ((n52 < (slLen c50)) ∧ (isPt (slAt c50 (n52 * 4)) ∧ (∃ m53 : M, (((stC m49 (ptAdd (slAt c50 (n52 * 4)) 3) 1 [(C.bool true)]) = (Option.some m53)) ∧ 
 ((ifB (noFnC c51) ((ldC m53 (C.ptr ((m7).nxt + 1) 4)) = (Option.some c51)) False) ∧ 
 (∃ n54 : Nat, ((((wrapZ IntKind.i64 a200) % (((slLen c16) : Nat) : Int)) = ((n54 : Nat) : Int)) ∧ 
 ((n54 < (slLen c51)) ∧ (isPt (slAt c51 (n54 * 4)) ∧ (∃ m55 : M, (((stC m53 (ptAdd (slAt c51 (n54 * 4)) 3) 1 [(C.bool false)]) = (Option.some m55)) ∧ 
 (∀ m56 : M, ((m56 = (M.new m55 (AO.cells 0 [] false))) → (isPt (C.ptr (m).nxt 0) ∧ 
 (∃ c57 : C, (((ldC m56 (C.ptr (m).nxt 4)) = (Option.some c57)) ∧ ((ifB (noFnC c57) ((ldC m55 (C.ptr (m).nxt 4)) = (Option.some c57)) False) ∧ 
 (∃ n58 : Nat, (∃ n59 : Nat, ((n58 = 0) ∧ ((((wrapZ IntKind.i64 a200) % (((slLen c16) : Nat) : Int)) = ((n59 : Nat) : Int)) ∧ 
 (∃ c60 : C, (((subC 4 c57 n58 n59) = (Option.some c60)) ∧ (∃ c61 : C, (∃ m62 : M, 
 ((ApR prog 27 m56 (C.sl (m55).nxt 0 0 0 (Option.some 0)) c60 c61 m62) ∧ (isPt (C.ptr (m).nxt 0) ∧ 
 (∃ c63 : C, (((ldC m62 (C.ptr (m).nxt 4)) = (Option.some c63)) ∧ ((ifB (noFnC c63) ((ldC m56 (C.ptr (m).nxt 4)) = (Option.some c63)) False) ∧ 
 ((ifB (noFnC c63) ((ldC m55 (C.ptr (m).nxt 4)) = (Option.some c63)) False) ∧ 
 (fitsP IntKind.i64 (((wrapZ IntKind.i64 a200) % (((slLen c16) : Nat) : Int)) + (1 : Int)) ∧ 
 (∃ n64 : Nat, (∃ n65 : Nat, (((((wrapZ IntKind.i64 a200) % (((slLen c16) : Nat) : Int)) + (1 : Int)) = ((n64 : Nat) : Int)) ∧ 
 ((n65 = (slLen c63)) ∧ (∃ c66 : C, (((subC 4 c63 n64 n65) = (Option.some c66)) ∧ 
 (∃ c67 : C, (∃ m68 : M, ((ApR prog 27 m62 c61 c66 c67 m68) ∧ (isPt (C.ptr ((m7).nxt + 0) 0) ∧ 
 (∃ m69 : M, (((stC m68 (C.ptr ((m7).nxt + 0) 4) 1 [c67]) = (Option.some m69)) ∧ 
 (∃ x70 : Int, (∃ x71 : Int, (∃ c72 : C, (∃ x73 : Int, (∃ c74 : C, (((ldA m69 (C.ptr (m17).nxt 0) 5) = (Option.some [(C.int IntKind.i64 x70), 
 (C.int IntKind.i64 x71), c72, (C.int IntKind.i64 x73), c74])) ∧ (Wc prog tbl 33 [(V.agg 5 [(C.int IntKind.i64 x70), 
 (C.int IntKind.i64 x71), c72, (C.int IntKind.i64 x73), c74])] m69 (fun v75 m76 => 
 (∃ x77 : Int, (∃ x78 : Int, (∃ c79 : C, (∃ x80 : Int, (∃ c81 : C, ((v75 = (V.agg 5 [(C.int IntKind.i64 x77), 
 (C.int IntKind.i64 x78), c79, (C.int IntKind.i64 x80), c81])) ∧ (Wc prog tbl 41 [(V.agg 5 [(C.int IntKind.i64 x77), 
 (C.int IntKind.i64 x78), c79, (C.int IntKind.i64 x80), c81])] m76 (fun v82 m83 => 
 (∃ x84 : Int, (∃ x85 : Int, (∃ x86 : Int, ((v82 = (V.tup [(U.agg 2 [(C.int IntKind.i64 x84), 
 (C.int IntKind.i64 x85)]), (U.c (C.int IntKind.i64 x86))])) ∧ (∀ m87 : M, ((m87 = (M.new m83 (AO.cells 2 [(C.int IntKind.i64 (0 : Int)), 
 (C.int IntKind.i64 (0 : Int))] false))) → (∃ m88 : M, (((stC m87 (C.ptr (m83).nxt 0) 2 [(C.int IntKind.i64 x84), 
 (C.int IntKind.i64 x85)]) = (Option.some m88)) ∧ (∃ x89 : Int, (∃ x90 : Int, 
 (∃ c91 : C, (∃ x92 : Int, (∃ c93 : C, (((ldA m88 (C.ptr ((m7).nxt + 0) 0) 5) = (Option.some [(C.int IntKind.i64 x89), 
 (C.int IntKind.i64 x90), c91, (C.int IntKind.i64 x92), c93])) ∧ (Wc prog tbl 33 [(V.agg 5 [(C.int IntKind.i64 x89), 
 (C.int IntKind.i64 x90), c91, (C.int IntKind.i64 x92), c93])] m88 (fun v94 m95 => 
 (∃ x96 : Int, (∃ x97 : Int, (∃ c98 : C, (∃ x99 : Int, (∃ c100 : C, ((v94 = (V.agg 5 [(C.int IntKind.i64 x96), 
 (C.int IntKind.i64 x97), c98, (C.int IntKind.i64 x99), c100])) ∧ (Wc prog tbl 41 [(V.agg 5 [(C.int IntKind.i64 x96), 
 (C.int IntKind.i64 x97), c98, (C.int IntKind.i64 x99), c100])] m95 (fun v101 m102 => 
 (∃ x103 : Int, (∃ x104 : Int, (∃ x105 : Int, ((v101 = (V.tup [(U.agg 2 [(C.int IntKind.i64 x103), 
 (C.int IntKind.i64 x104)]), (U.c (C.int IntKind.i64 x105))])) ∧ (∀ m106 : M, 
 ((m106 = (M.new m102 (AO.cells 2 [(C.int IntKind.i64 (0 : Int)), (C.int IntKind.i64 (0 : Int))] false))) → 
 (∃ m107 : M, (((stC m106 (C.ptr (m102).nxt 0) 2 [(C.int IntKind.i64 x103), (C.int IntKind.i64 x104)]) = (Option.some m107)) ∧ 
 (∃ x108 : Int, (∃ x109 : Int, (∃ c110 : C, (∃ x111 : Int, (∃ c112 : C, (((ldA m107 (C.ptr ((m7).nxt + 1) 0) 5) = (Option.some [(C.int IntKind.i64 x108), 
 (C.int IntKind.i64 x109), c110, (C.int IntKind.i64 x111), c112])) ∧ (Wc prog tbl 33 [(V.agg 5 [(C.int IntKind.i64 x108), 
 (C.int IntKind.i64 x109), c110, (C.int IntKind.i64 x111), c112])] m107 (fun v113 m114 => 
 (∃ x115 : Int, (∃ x116 : Int, (∃ c117 : C, (∃ x118 : Int, (∃ c119 : C, ((v113 = (V.agg 5 [(C.int IntKind.i64 x115), 
 (C.int IntKind.i64 x116), c117, (C.int IntKind.i64 x118), c119])) ∧ (Wc prog tbl 41 [(V.agg 5 [(C.int IntKind.i64 x115), 
 (C.int IntKind.i64 x116), c117, (C.int IntKind.i64 x118), c119])] m114 (fun v120 m121 => 
 (∃ x122 : Int, (∃ x123 : Int, (∃ x124 : Int, ((v120 = (V.tup [(U.agg 2 [(C.int IntKind.i64 x122), 
 (C.int IntKind.i64 x123)]), (U.c (C.int IntKind.i64 x124))])) ∧ (∀ m125 : M, 
 ((m125 = (M.new m121 (AO.cells 2 [(C.int IntKind.i64 (0 : Int)), (C.int IntKind.i64 (0 : Int))] false))) → 
 (∃ m126 : M, (((stC m125 (C.ptr (m121).nxt 0) 2 [(C.int IntKind.i64 x122), (C.int IntKind.i64 x123)]) = (Option.some m126)) ∧ 
 (ifB (!decide (x86 = x105)) (Q (V.c (C.bool false)) m126) (∃ x127 : Int, (∃ x128 : Int, 
 (((ldA m126 (C.ptr (m83).nxt 0) 2) = (Option.some [(C.int IntKind.i64 x127), 
 (C.int IntKind.i64 x128)])) ∧ (∃ x129 : Int, (∃ x130 : Int, (((ldA m126 (C.ptr (m102).nxt 0) 2) = (Option.some [(C.int IntKind.i64 x129), 
 (C.int IntKind.i64 x130)])) ∧ (fitsP IntKind.i64 x127 ∧ (fitsP IntKind.i64 x129 ∧ 
 (fitsP IntKind.i64 x128 ∧ (fitsP IntKind.i64 x130 ∧ (ifB (!((decide (x127 = x129)) && (decide (x128 = x130)))) (Q (V.c (C.bool false)) m126) (ifB (!decide (x86 = (0 : Int))) (ifB (!decide (x86 = (9 : Int))) (Q (V.c (C.bool false)) m126) (ifB (!decide (x124 = (9 : Int))) (Q (V.c (C.bool false)) m126) (ifB (!decide (x124 = (0 : Int))) (ifB (decide (x124 = (9 : Int))) (Wc prog tbl 20 [] m126 (fun v131 m132 => 
 (∃ b133 : Bool, ((v131 = (V.c (C.bool b133))) ∧ (Q (V.c (C.bool b133)) m132))))) (Q (V.c (C.bool false)) m126)) (isPt (C.ptr (m121).nxt 0) ∧ 
 (∃ x134 : Int, (((ldC m126 (C.ptr (m121).nxt 0)) = (Option.some (C.int IntKind.i64 x134))) ∧ 
 (isPt (C.ptr (m83).nxt 0) ∧ (∃ x135 : Int, (((ldC m126 (C.ptr (m83).nxt 0)) = (Option.some (C.int IntKind.i64 x135))) ∧ 
 (ifB (decide (x135 ≤ x134)) (isPt (C.ptr (m121).nxt 0) ∧ (∃ x136 : Int, (((ldC m126 (C.ptr (m121).nxt 1)) = (Option.some (C.int IntKind.i64 x136))) ∧ 
 (isPt (C.ptr (m83).nxt 0) ∧ (∃ x137 : Int, (((ldC m126 (C.ptr (m83).nxt 1)) = (Option.some (C.int IntKind.i64 x137))) ∧ 
 (ifB (decide (x136 ≤ x137)) (Wc prog tbl 20 [] m126 (fun v138 m139 => (∃ b140 : Bool, 
 ((v138 = (V.c (C.bool b140))) ∧ (Q (V.c (C.bool b140)) m139))))) (Q (V.c (C.bool false)) m126)))))))) (Q (V.c (C.bool false)) m126))))))))))) (ifB (!decide (x124 = (0 : Int))) (ifB (decide (x124 = (9 : Int))) (Wc prog tbl 20 [] m126 (fun v141 m142 => 
 (∃ b143 : Bool, ((v141 = (V.c (C.bool b143))) ∧ (Q (V.c (C.bool b143)) m142))))) (Q (V.c (C.bool false)) m126)) (isPt (C.ptr (m121).nxt 0) ∧ 
 (∃ x144 : Int, (((ldC m126 (C.ptr (m121).nxt 0)) = (Option.some (C.int IntKind.i64 x144))) ∧ 
 (isPt (C.ptr (m83).nxt 0) ∧ (∃ x145 : Int, (((ldC m126 (C.ptr (m83).nxt 0)) = (Option.some (C.int IntKind.i64 x145))) ∧ 
 (ifB (decide (x145 ≤ x144)) (isPt (C.ptr (m121).nxt 0) ∧ (∃ x146 : Int, (((ldC m126 (C.ptr (m121).nxt 1)) = (Option.some (C.int IntKind.i64 x146))) ∧ 
 (isPt (C.ptr (m83).nxt 0) ∧ (∃ x147 : Int, (((ldC m126 (C.ptr (m83).nxt 1)) = (Option.some (C.int IntKind.i64 x147))) ∧ 
 (ifB (decide (x146 ≤ x147)) (Wc prog tbl 20 [] m126 (fun v148 m149 => (∃ b150 : Bool, 
 ((v148 = (V.c (C.bool b150))) ∧ (Q (V.c (C.bool b150)) m149))))) (Q (V.c (C.bool false)) m126)))))))) (Q (V.c (C.bool false)) m126))))))))))))))))))))))))))))))))))))))))))))))))))))))))))))))))))))))))))))))))))))))))))))))))))))))))))))))))))))))))))))))))))))))))))))))))))))))))))))))))))))))))))))))))))))))))))))))))))))))))))))))))))))))))))))))))))))))))))))))))))))) : Wc prog tbl 18 [(V.agg 5 [(C.int IntKind.i64 a100), (C.int IntKind.i64 a101), a102, (C.int IntKind.i64 a103), a104]), (V.c (C.int IntKind.u8 a200))] m Q :=
 wc_eq (n := 2) rfl (by kernel_rfl) (by kernel_rfl) h
end
end Go.Proofs.Ytgkjfhkjgdiodaa

namespace Go.Abs
noncomputable section
/-- a slice that can be sliced again -/
def SubOk (x : C) (n : Nat) : Prop := (x = .sl0 ∧ n = 0) ∨ ∃ b o cap, x = .sl b o n 0 (some cap) ∧ n ≤ cap
theorem Seg.sub {m : M} {b o : Nat} {vs : List C} (h : Seg m b o vs) {a l : Nat} (hl : a + l ≤ vs.length) : Seg m b (o + a) ((vs.drop a).take l) := by
  have hlen : ((vs.drop a).take l).length = l := by rw [List.length_take, List.length_drop]; omega
  have hsub : ∀ (ws : List C) (p : Nat), (ws.drop p).take vs.length = vs → (ws.drop (p + a)).take l = (vs.drop a).take l := fun ws p hp => by
    rw [← hp, List.drop_take, List.take_take, List.drop_drop]
    congr 1
    omega
  rcases h with ⟨n, ws, op, h1, h2, h3, h4⟩ | ⟨h1, q, h2, h3, h4, h5⟩
  · exact .inl ⟨n, ws, op, h1, h2, by omega, by rw [hlen]; exact hsub ws o h4⟩
  · refine .inr ⟨h1, q, h2, by omega, by omega, ?_⟩
    rw [hlen, show o + a - q.1 = (o - q.1) + a by omega]
    exact hsub q.2 _ h5
theorem Ls.sub {m : M} {k n : Nat} {x : C} {vs : List C} (h : Ls m k x vs n) (hs : SubOk x n) (hk : 0 < k) {i j : Nat} (hij : i ≤ j) (hj : j ≤ n) : ∃ c, subC k x i j = some c ∧ Ls m k c ((vs.drop (i * k)).take ((j - i) * k)) (j - i) := by
  have hl := h.len
  have h1 : i * k + (j - i) * k = j * k := by rw [← Nat.add_mul]; congr 1; omega
  have h2 : j * k ≤ n * k := Nat.mul_le_mul_right _ hj
  have hlen : (j - i) * k = ((vs.drop (i * k)).take ((j - i) * k)).length := by rw [List.length_take, List.length_drop]; omega
  rcases hs with ⟨rfl, rfl⟩ | ⟨b, o, cap, rfl, hc⟩
  · have hj0 : j = 0 := by omega
    have hi0 : i = 0 := by omega
    subst hj0 hi0
    exact ⟨.sl0, rfl, by rw [← h1] at *; simpa using Ls.nil m k⟩
  · obtain ⟨hb, hseg⟩ : b < m.nxt ∧ (n ≠ 0 → Seg m b o vs) := by
      rcases h.val with ⟨h0, _⟩ | ⟨b', o', s', c', h0, h3, h4⟩
      · cases h0
      · cases h0; exact ⟨h3, h4⟩
    refine ⟨.sl b (ifB (Nat.beq cap i) o (Nat.add o (Nat.mul i k))) (j - i) 0 (some (cap - i)), ?_, hlen, .inr ⟨b, _, 0, _, rfl, hb, fun hne => ?_⟩⟩
    · show ifB (Nat.ble i j) (ifB (Nat.ble j cap) _ none) none = _
      rw [Nat.ble_eq_true_of_le hij, Nat.ble_eq_true_of_le (show j ≤ cap by omega)]; rfl
    · have hci : Nat.beq cap i = false := by
        cases hq : Nat.beq cap i with
        | true => have := Nat.eq_of_beq_eq_true hq; omega
        | false => rfl
      rw [hci]
      exact (hseg (by omega)).sub (a := i * k) (l := (j - i) * k) (by have := h.len; omega)
/-- append to a slice of one's own, also of nothing -/
theorem ap_any {P : Program} {t el k : Nat} (ht : tk P t = .sl el) (hgr : growOk P el = true) (hk : P.cellsOf el = k) (hk0 : 0 < k) {m : M} {s x : C} {vs ws : List C} {n j : Nat} (hs : Own1 m k s vs n) (hx : Ls m k x ws j) (hnj : n + j ≤ 1048576) :
    ∃ c m', ApR P t m s x c m' ∧ Own1 m' k c (vs ++ ws) (n + j) ∧ m.nxt ≤ m'.nxt ∧ m'.vw = m.vw ∧ (∀ b, b < m.nxt → slB s ≠ some b → m'.g b = m.g b) ∧ (Fr m c ∨ c = s) := by
  by_cases hj : j = 0
  · subst hj
    have hw : ws = [] := List.eq_nil_of_length_eq_zero (by rw [← hx.len]; omega)
    subst hw
    exact ⟨s, m, ap_none ht hgr hk hs hx, by rw [List.append_nil]; exact hs, Nat.le_refl _, rfl, fun _ _ _ => rfl, .inr rfl⟩
  · obtain ⟨m', q1, q2, q3, q4, q5⟩ := ap_own ht hgr hk hs hx (by omega) hk0 hnj
    exact ⟨_, m', q1, q2, by omega, q4, fun b hb hsb => q5 b (by omega) hsb, .inl fun b o n' s' d h => by cases h; exact Nat.le_refl _⟩
theorem Own1.lit0 {m m0 : M} {k : Nat} (h : m0 = m.new (.cells 0 [] false)) : Own1 m0 k (.sl m.nxt 0 0 0 (some 0)) [] 0 ∧ Ext m m0 := by
  have h' : m0 = m.new (.cells 0 [] false) := h
  obtain ⟨b, x⟩ := Bk.new h'
  exact ⟨⟨by simp, .lit _ (by rw [Nat.zero_mul]; exact b.g) b.lt⟩, x⟩
end
end Go.Abs
namespace Go.Proofs.Ytgkjfhkjgdiodaa
open _root_.Go.Proofs.Try
open Go.Abs
set_option maxRecDepth 100000
noncomputable section
theorem t27 : tk prog 27 = .sl 94 := by kernel_rfl
theorem g94 : growOk prog 94 = true := by kernel_rfl
theorem z94 : prog.cellsOf 94 = 4 := by kernel_rfl
theorem mGrow_ext (m : M) (k : Nat) : Ext m (mGrow m k) := ⟨Nat.le_add_right _ _, fun _ _ => rfl, rfl⟩
/-- the same counts, one of which is late or not -/
def lateAt : List Cnt → Nat → Bool → List Cnt
  | [], _, _ => []
  | n :: N, 0, b => { n with late := b } :: N
  | n :: N, k + 1, b => n :: lateAt N k b
theorem late_len : ∀ (N : List Cnt) (k : Nat) (b : Bool), (lateAt N k b).length = N.length
  | [], _, _ => rfl
  | n :: N, 0, b => rfl
  | n :: N, k + 1, b => by show (lateAt N k b).length + 1 = _; rw [late_len N]; rfl
theorem cnts_late : ∀ {N : List Cnt} {k : Nat} (b : Bool), k < N.length → cnts (lateAt N k b) = (cnts N).set (k * 4 + 3) (.bool b)
  | [], k, b, h => by simp at h
  | n :: N, 0, b, _ => rfl
  | n :: N, k + 1, b, h => by
    have hh : k < N.length := by simpa using h
    show n.cs ++ cnts (lateAt N k b) = (n.cs ++ cnts N).set ((k + 1) * 4 + 3) (.bool b)
    rw [cnts_late b hh, show (k + 1) * 4 + 3 = (k * 4 + 3) + 4 by omega]
    rfl
theorem late_mem : ∀ {N : List Cnt} {k : Nat} {b : Bool} {n : Cnt}, n ∈ lateAt N k b → ∃ n' ∈ N, n.p = n'.p ∧ n.lo = n'.lo ∧ n.hi = n'.hi
  | [], _, _, _, h => by cases h
  | q :: N, 0, b, n, h => by
    rcases List.mem_cons.1 h with rfl | h1
    · exact ⟨q, List.mem_cons_self .., rfl, rfl, rfl⟩
    · exact ⟨n, List.mem_cons_of_mem _ h1, rfl, rfl, rfl⟩
  | q :: N, k + 1, b, n, h => by
    rcases List.mem_cons.1 (show n ∈ q :: lateAt N k b from h) with rfl | h1
    · exact ⟨n, List.mem_cons_self .., rfl, rfl, rfl⟩
    · obtain ⟨n', h2, h3⟩ := late_mem h1
      exact ⟨n', List.mem_cons_of_mem _ h2, h3⟩
theorem late_gone {H : List Int} : ∀ {N : List Cnt} {k : Nat}, k < N.length → ((∀ n ∈ lateAt N k true, cntR H n) ↔ ∀ n ∈ N.take k ++ N.drop (k + 1), cntR H n)
  | [], _, h => by simp at h
  | q :: N, 0, _ => by
    show (∀ n ∈ ({ q with late := true } : Cnt) :: N, cntR H n) ↔ ∀ n ∈ [] ++ N, cntR H n
    rw [List.nil_append]
    refine ⟨fun h n hn => h n (List.mem_cons_of_mem _ hn), fun h n hn => ?_⟩
    rcases List.mem_cons.1 hn with rfl | h1
    · intro h2; cases h2
    · exact h n h1
  | q :: N, k + 1, h => by
    have hh : k < N.length := by simpa using h
    show (∀ n ∈ q :: lateAt N k true, cntR H n) ↔ ∀ n ∈ q :: (N.take k ++ N.drop (k + 1)), cntR H n
    rw [List.forall_mem_cons, List.forall_mem_cons, late_gone hh]
theorem late_less {H : List Int} : ∀ {N : List Cnt} {k : Nat}, (∀ n ∈ lateAt N k false, cntR H n) → ∀ n ∈ lateAt N k true, cntR H n
  | [], _, _, n, hn => by cases hn
  | q :: N, 0, h, n, hn => by
    rcases List.mem_cons.1 (show n ∈ ({ q with late := true } : Cnt) :: N from hn) with rfl | h1
    · intro h2; cases h2
    · exact h n (List.mem_cons_of_mem _ h1)
  | q :: N, k + 1, h, n, hn => by
    have h' : ∀ n ∈ q :: lateAt N k false, cntR H n := h
    rw [List.forall_mem_cons] at h'
    rcases List.mem_cons.1 (show n ∈ q :: lateAt N k true from hn) with rfl | h1
    · exact h'.1
    · exact late_less h'.2 n h1
theorem late_okay {r c : Int} {L : List Int} {N : List Cnt} (hO : Okay r c L N) (k : Nat) (b : Bool) : Okay r c L (lateAt N k b) :=
  ⟨hO.f, by rw [late_len]; exact hO.n, fun n hn => by
    obtain ⟨n', h1, h2, h3, h4⟩ := late_mem hn
    have := hO.v n' h1
    unfold okCnt at this ⊢
    rw [h2, h3, h4]; exact this⟩
theorem gone_okay {r c : Int} {L : List Int} {N : List Cnt} (hO : Okay r c L N) (k : Nat) : Okay r c L (N.take k ++ N.drop (k + 1)) :=
  ⟨hO.f, by rw [List.length_append, List.length_take, List.length_drop]; have := hO.n; omega, fun n hn => by
    rcases List.mem_append.1 hn with h | h
    · exact hO.v n (List.mem_of_mem_take h)
    · exact hO.v n (List.mem_of_mem_drop h)⟩
theorem bd_small {r c sm : Int} {L : List Int} {N : List Cnt} (hv : svErr r c L sm N = 0) : (0 ≤ (boundsOf r c L sm N (trueErr r c L sm N) (shareOf L)).1 ∧ (boundsOf r c L sm N (trueErr r c L sm N) (shareOf L)).1 ≤ 100000) ∧ 0 ≤ (boundsOf r c L sm N (trueErr r c L sm N) (shareOf L)).2 ∧ (boundsOf r c L sm N (trueErr r c L sm N) (shareOf L)).2 ≤ 100000 := by
  obtain ⟨hO, hsm⟩ := okay_of hv
  obtain ⟨hS, hL9, hrc⟩ := field_of hO.f
  unfold boundsOf
  by_cases ht : trueErr r c L sm N = 0
  · rw [if_pos ht]
    obtain ⟨_, hpos⟩ := true_sv ht
    have hlp : 0 < ((truthsP c sm L N).map (shareOf L)).length := by rw [List.length_map]; exact hpos
    have hD : ∀ v ∈ (truthsP c sm L N).map (shareOf L), 0 ≤ v ∧ v ≤ 100000 := fun v hv' => by
      obtain ⟨H, h1, rfl⟩ := List.mem_map.1 hv'
      exact share_bd hS hL9 (truth_of hO.f h1)
    exact ⟨hD _ (lo_spec hlp).1, hD _ (hi_spec hlp).1⟩
  · rw [if_neg ht]; exact ⟨⟨by show (0 : Int) ≤ 0; omega, by show (0 : Int) ≤ _; omega⟩, by show (0 : Int) ≤ 0; omega, by show (0 : Int) ≤ _; omega⟩
theorem bd_same {r c sm : Int} {L : List Int} {N N' : List Cnt} (hv : svErr r c L sm N = 0) (hv' : svErr r c L sm N' = 0) (h : ∀ H, TruthR c sm L N H ↔ TruthR c sm L N' H) : trueErr r c L sm N = trueErr r c L sm N' ∧ boundsOf r c L sm N (trueErr r c L sm N) (shareOf L) = boundsOf r c L sm N' (trueErr r c L sm N') (shareOf L) := by
  by_cases ht : trueErr r c L sm N = 0
  · obtain ⟨t1, l1, g1⟩ := bd_mono hv hv' ht (shareOf L) (shareOf L) fun H hH => ⟨H, (h H).1 hH, rfl⟩
    obtain ⟨_, l2, g2⟩ := bd_mono hv' hv t1 (shareOf L) (shareOf L) fun H hH => ⟨H, (h H).2 hH, rfl⟩
    refine ⟨by rw [ht, t1], ?_⟩
    unfold boundsOf
    rw [if_pos ht, if_pos t1, Int.le_antisymm l2 l1, Int.le_antisymm g1 g2]
  · have ht' : trueErr r c L sm N' ≠ 0 := fun h0 => by
      obtain ⟨H, hH⟩ := (true_ex hv').1 h0
      exact ht ((true_ex hv).2 ⟨H, (h H).2 hH⟩)
    refine ⟨by rw [true_nine hv ht, true_nine hv' ht'], ?_⟩
    unfold boundsOf
    rw [if_neg ht, if_neg ht']
end
end Go.Proofs.Ytgkjfhkjgdiodaa
namespace Go.Abs
theorem sub_of {W : World} {x : X} {v : Value} {i : Nat} {es : List Pk} {k n : Nat} {m : M} {vs : List C} (hx : XR W x v) (hk : XK (.sl es) x) (hl : Ls m k (cOf i x) vs n) : SubOk (cOf i x) n := by
  have h1 := hl.slLen
  obtain ⟨hs, _⟩ := xk_sl hk
  cases x with
  | nilS => exact .inl ⟨rfl, h1.symm⟩
  | sl a cap els =>
    have h2 : els.length = n := h1
    exact .inr ⟨i, a.off, cap, by rw [← h2]; rfl, by rw [← h2]; exact hx.2.1⟩
  | _ => cases hs
end Go.Abs

namespace Go.Abs
noncomputable section
/-- m' is m but for block b -/
structure St1 (m m' : M) (b : Nat) : Prop where
  nxt : m'.nxt = m.nxt
  vw : m'.vw = m.vw
  g : ∀ b', b' ≠ b → m'.g b' = m.g b'
theorem St1.of_set {m m' : M} {b : Nat} {o : AO} (h : m' = m.set b o) : St1 m m' b := by
  subst h
  exact ⟨rfl, rfl, fun b' hb => by rw [M.g_set, if_neg hb]⟩
theorem Bk.keep1 {m m' : M} {b c n : Nat} {vs : List C} (h : Bk m c n vs) (s : St1 m m' b) (hne : c ≠ b) : Bk m' c n vs := ⟨(s.g c hne).trans h.g, by rw [s.nxt]; exact h.lt⟩
theorem Ext.st1 {m0 m m' : M} {b : Nat} (e : Ext m0 m) (s : St1 m m' b) (hb : m0.nxt ≤ b) : Ext m0 m' := ⟨by rw [s.nxt]; exact e.nxt, fun b' hb' => (s.g b' (by omega)).trans (e.g b' hb'), s.vw.trans e.vw⟩
theorem Ls.keep1 {m m' : M} {b k n : Nat} {x : C} {vs : List C} (h : Ls m k x vs n) (s : St1 m m' b) (hne : ∀ b' o s d, x = .sl b' o n s d → b' ≠ b) : Ls m' k x vs n :=
  h.to (by rw [s.nxt]; exact Nat.le_refl _) (fun b' _ hx => by obtain ⟨o, t, d, hx⟩ := hx; exact s.g b' (hne b' o t d hx)) s.vw
theorem Own1.keep1 {m m' : M} {b k n : Nat} {x : C} {vs : List C} (h : Own1 m k x vs n) (s : St1 m m' b) (hne : ∀ b' s d, x = .sl b' 0 n s d → b' ≠ b) : Own1 m' k x vs n :=
  h.to (by rw [s.nxt]; exact Nat.le_refl _) fun b' _ hx => by obtain ⟨t, d, hx⟩ := hx; exact s.g b' (hne b' t d hx)
theorem Bk.sto {m : M} {b n : Nat} {ws : List C} (h : Bk m b n ws) (vs : List C) : ∃ m', stC m (.ptr b 0) n vs = some m' ∧ Bk m' b n vs ∧ St1 m m' b := ⟨_, h.st vs, h.set vs, .of_set rfl⟩
theorem Bk.sto1 {m : M} {b n : Nat} {vs : List C} (h : Bk m b n vs) (k : Nat) (c : C) (hk : k < vs.length) (hn : vs.length = n) : ∃ m', stC m (.ptr b k) 1 [c] = some m' ∧ Bk m' b n (vs.set k c) ∧ St1 m m' b := by
  by_cases h1 : n = 1
  · subst h1
    have hk0 : k = 0 := by omega
    subst hk0
    have : vs.set 0 c = [c] := by
      match vs, hn with
      | [a], _ => rfl
    exact ⟨_, stC_of h.g [c], by rw [this]; exact h.set _, .of_set rfl⟩
  · exact ⟨_, stC_at h.g c hk hn h1, h.set _, .of_set rfl⟩
/-- a cell of a slice of one's own -/
theorem Own1.sto {m : M} {k n : Nat} {x : C} {vs : List C} (h : Own1 m k x vs n) (i : Nat) (c : C) (hi : i < vs.length) (h1 : 1 < vs.length) :
    ∃ b s d m', x = .sl b 0 n s d ∧ b < m.nxt ∧ (slB x = none ∨ slB x = some b) ∧ stC m (.ptr b i) 1 [c] = some m' ∧ Own1 m' k x (vs.set i c) n ∧ St1 m m' b := by
  have hl := h.len
  have hx := h.own
  cases hx with
  | nil h2 h3 => rw [h3] at hi; simp at hi
  | grown b hg hb => exact ⟨b, k, none, _, rfl, hb, .inr rfl, stC_at hg c hi (by omega) (by omega), ⟨by rw [List.length_set]; exact hl, .grown b (by rw [M.g_set, if_pos rfl]) hb⟩, .of_set rfl⟩
  | lit b hg hb => exact ⟨b, 0, some n, _, rfl, hb, .inl rfl, stC_at hg c hi (by omega) (by omega), ⟨by rw [List.length_set]; exact hl, .lit b (by rw [M.g_set, if_pos rfl]) hb⟩, .of_set rfl⟩
end
end Go.Abs

namespace Go.Proofs.Ytgkjfhkjgdiodaa
open _root_.Go.Proofs.Try
open Go.Abs
set_option maxRecDepth 100000
noncomputable section
theorem s18 {r c sm a : Int} {x y : C} {L : List Int} {N : List Cnt} {m : M} {Q : V → M → Prop} (hx : Li m x L) (hy : Lc m y N) (hsub : SubOk y N.length) (ha : 0 ≤ a ∧ a ≤ 255) (h : ∀ m', Q (.c (.bool true)) m') :
    Wc prog tbl 18 [.agg 5 [.int .i64 r, .int .i64 c, x, .int .i64 sm, y], .c (.int .u8 a)] m Q := by
  have aw : ∀ m' : M, Wc prog tbl 20 [] m' (fun v m1 => ∃ b : Bool, v = .c (.bool b) ∧ Q (.c (.bool b)) m1) := fun m' => s20 ⟨_, rfl, h _⟩
  refine w18 fun m0 e0 => ?_
  obtain ⟨b0, x0⟩ := Bk.new e0
  refine ⟨r, c, x, sm, y, b0.ra, s58 (hx.ext x0) (hy.ext x0) fun m7 e7 => ⟨_, rfl, ?_⟩⟩
  have x7 := x0.trans e7
  have b7 := b0.ext e7
  rw [ifB_ndec]
  refine ⟨fun _ => aw _, fun hv => ?_⟩
  obtain ⟨hO, hsm⟩ := okay_of hv
  obtain ⟨hS, hL, hrc⟩ := field_of hO.f
  have hN := hO.n
  have hP := few_truths hv
  have hb7 : m.nxt < m7.nxt := b7.lt
  have hyo : ∀ b' o s d, y = .sl b' o N.length s d → b' < m.nxt := fun b' o s d hq => by
    rcases hy.val with ⟨h0, _⟩ | ⟨b3, o3, s3, c3, h0, h1, _⟩
    · rw [hq] at h0; cases h0
    · rw [hq] at h0; cases h0; exact h1
  refine ⟨trivial, y, b7.rc (k := 4) rfl, hy.isSl, ?_⟩
  rw [hy.slLen, ifB_dec]
  refine ⟨fun _ => aw _, fun hN0 => ⟨trivial, y, b7.rc (k := 4) rfl, hy.isSl, ?_⟩⟩
  rw [hy.slLen, wrap_sm ha.1 (by omega)]
  have q0 := Int.emod_nonneg a (b := (N.length : Int)) (by omega)
  have q1 := Int.emod_lt_of_pos a (b := (N.length : Int)) (by omega)
  obtain ⟨k, hk⟩ : ∃ k : Nat, a % (N.length : Int) = (k : Int) := ⟨(a % (N.length : Int)).toNat, by omega⟩
  rw [hk] at q0 q1 ⊢
  have hkN : k < N.length := by omega
  refine ⟨ha.1, by omega, fits_small (by omega) (by omega), fun m17 h17 => ?_⟩
  have x17 : Ext m7 m17 := by rw [h17]; exact mGrow_ext _ _
  have n17 : m17.nxt = m7.nxt + 2 := by rw [h17]; rfl
  have b17 := b7.ext x17
  refine ⟨r, c, x, sm, y, b17.ra, r, c, x, sm, y, b17.ra, r, c, x, sm, y, b17.ra, fun m33 h33 => ?_⟩
  obtain ⟨kl33, x33⟩ := Bk.new h33
  have n33 : m33.nxt = m7.nxt + 3 := by rw [h33]; show m17.nxt + 1 = _; omega
  have b33 := b17.ext x33
  rw [allNF hx.noFn hy.noFn]
  simp only [ifB_true]
  refine ⟨b33.ra, b33.ra, b33.ra, fun m34 h34 => ?_⟩
  have s34 := St1.of_set h34
  have kg34 : Bk m34 m7.nxt 5 [.int .i64 0, .int .i64 0, .sl0, .int .i64 0, .sl0] := ⟨by rw [h34, M.g_set, if_pos (by omega)], by rw [s34.nxt]; omega⟩
  have kl34 := kl33.keep1 s34 (by omega)
  have b34 := b33.keep1 s34 (by omega)
  have x34 : Ext m7 m34 := (x17.trans x33).st1 s34 (by omega)
  have n34 := s34.nxt
  refine ⟨b34.ra, b34.ra, b34.ra, fun m35 h35 => ?_⟩
  have s35' := St1.of_set h35
  have ka35 : Bk m35 (m7.nxt + 1) 5 [.int .i64 0, .int .i64 0, .sl0, .int .i64 0, .sl0] := ⟨by rw [h35, M.g_set, if_pos (by omega)], by rw [s35'.nxt]; omega⟩
  have kl35 := kl34.keep1 s35' (by omega)
  have kg35 := kg34.keep1 s35' (by omega)
  have b35 := b34.keep1 s35' (by omega)
  have x35 : Ext m7 m35 := x34.st1 s35' (by omega)
  have n35 := s35'.nxt
  clear h33 h34 h35 h17 x17 x33 x34 b33 b34 kl33 kl34 kg34
  obtain ⟨m36, h36, kl36, s36'⟩ := kl35.sto [.int .i64 r, .int .i64 c, x, .int .i64 sm, y]
  have b36 := b35.keep1 s36' (by omega)
  refine ⟨b35.ra, b35.ra, b35.ra, m36, h36, b36.ra, b36.ra, ?_⟩
  have kg36 := kg35.keep1 s36' (by omega)
  have ka36 := ka35.keep1 s36' (by omega)
  have x36 : Ext m7 m36 := x35.st1 s36' (by omega)
  have n36 := s36'.nxt
  obtain ⟨m37, h37, kg37, s37'⟩ := kg36.sto [.int .i64 r, .int .i64 c, x, .int .i64 sm, y]
  have b37 := b36.keep1 s37' (by omega)
  refine ⟨m37, h37, b37.ra, ?_⟩
  have kl37 := kl36.keep1 s37' (by omega)
  have ka37 := ka36.keep1 s37' (by omega)
  have x37 : Ext m7 m37 := x36.st1 s37' (by omega)
  have n37 := s37'.nxt
  obtain ⟨m38, h38, ka38, s38'⟩ := ka37.sto [.int .i64 r, .int .i64 c, x, .int .i64 sm, y]
  refine ⟨m38, h38, fun m39 h39 m40 h40 => ?_⟩
  have b38 := b37.keep1 s38' (by omega)
  have kl38 := kl37.keep1 s38' (by omega)
  have kg38 := kg37.keep1 s38' (by omega)
  have x38 : Ext m7 m38 := x37.st1 s38' (by omega)
  have n38 := s38'.nxt
  clear kl35 kl36 kl37 kg35 kg36 kg37 ka35 ka36 ka37 b35 b36 b37 x35 x36 x37 h36 h37 h38
  have x39 : Ext m38 m39 := by rw [h39]; exact mGrow_ext _ _
  have n39 : m39.nxt = m38.nxt + 1 := by rw [h39]; rfl
  obtain ⟨o40, x40⟩ := Own1.lit0 (k := 4) h40
  have n40 : m40.nxt = m39.nxt + 1 := by rw [h40]; rfl
  have X40 : Ext m7 m40 := (x38.trans x39).trans x40
  have y40 := hy.ext (x7.trans X40)
  have b39 := b38.ext x39
  have b40 := b39.ext x40
  obtain ⟨m43, a1, o43, a3, a4, a5⟩ := ap_own t27 g94 z94 o40 y40 (by omega) (by omega) (by omega)
  rw [List.nil_append] at o43
  have x43 : Ext m40 m43 := ⟨by omega, fun b' hb' => a5 b' (by omega) (by intro hq; cases hq), a4⟩
  refine ⟨trivial, y, b40.rc (k := 4) rfl, by rw [hy.noFn]; exact b39.rc (k := 4) rfl, _, m43, a1, fun m44 h44 => ?_⟩
  have s44' := St1.of_set h44
  have n44 := s44'.nxt
  have b43 := b40.ext x43
  have b44 := b43.keep1 s44' (by omega)
  have X43 := X40.trans x43
  have X44 : Ext m7 m44 := X43.st1 s44' (by omega)
  have o44b : Own1 m44 4 (.sl (m38.nxt + 0) 0 0 0 (some 0)) [] 0 := ⟨by simp, .lit _ (by rw [h44, M.g_set, if_pos rfl]) (by omega)⟩
  have o44 := o43.keep1 s44' (fun b' s d hq => by cases hq; omega)
  have y44 := hy.ext (x7.trans X44)
  obtain ⟨m47, a1', o47, a3', a4', a5'⟩ := ap_own t27 g94 z94 o44b y44 (by omega) (by omega) (by omega)
  rw [List.nil_append] at o47
  have x47 : Ext m44 m47 := ⟨by omega, fun b' hb' => a5' b' (by omega) (by intro hq; cases hq), a4'⟩
  have nf : ∀ {mm : M}, Bk mm m.nxt 5 [.int .i64 r, .int .i64 c, x, .int .i64 sm, y] → ifB (noFnC y) (ldC mm (C.ptr m.nxt 4) = some y) False := fun hb => by rw [hy.noFn]; exact hb.rc (k := 4) rfl
  refine ⟨nf b44, trivial, y, b44.rc (k := 4) rfl, nf b43, nf b40, nf b39, _, m47, a1', ?_⟩
  have X47 := X44.trans x47
  have kl47 := (((kl38.ext (x39.trans (x40.trans x43))).keep1 s44' (by omega)).ext x47)
  have kg47 := (((kg38.ext (x39.trans (x40.trans x43))).keep1 s44' (by omega)).ext x47)
  have ka47 := (((ka38.ext (x39.trans (x40.trans x43))).keep1 s44' (by omega)).ext x47)
  have ol47 := o44.ext x47
  generalize hcl : (C.sl m40.nxt 0 (0 + N.length) 4 none) = cl at ol47
  generalize hca : (C.sl m44.nxt 0 (0 + N.length) 4 none) = ca at o47
  obtain ⟨m48, h48, kl48, s48'⟩ := kl47.sto1 4 cl (by show 4 < 5; omega) rfl
  refine ⟨trivial, m48, h48, ?_⟩
  have kg48 := kg47.keep1 s48' (by omega)
  have ka48 := ka47.keep1 s48' (by omega)
  have n48 := s48'.nxt
  have ol48 := ol47.keep1 s48' (fun b' s d hq => by rw [← hcl] at hq; cases hq; omega)
  have oa48 := o47.keep1 s48' (fun b' s d hq => by rw [← hca] at hq; cases hq; omega)
  have X48 : Ext m7 m48 := X47.st1 s48' (by omega)
  obtain ⟨m49, h49, ka49, s49'⟩ := ka48.sto1 4 ca (by show 4 < 5; omega) rfl
  refine ⟨trivial, m49, h49, ?_⟩
  have kg49 := kg48.keep1 s49' (by omega)
  have kl49 := kl48.keep1 s49' (by omega)
  have n49 := s49'.nxt
  have ol49 := ol48.keep1 s49' (fun b' s d hq => by rw [← hcl] at hq; cases hq; omega)
  have oa49 := oa48.keep1 s49' (fun b' s d hq => by rw [← hca] at hq; cases hq; omega)
  have X49 : Ext m7 m49 := X48.st1 s49' (by omega)
  clear kl47 kl48 kg47 kg48 ka47 ka48 ol47 ol48 oa48 X47 X48 o40 o43 o44 o44b o47 h48 h49 kl38 kg38 ka38 y40 y44
  refine ⟨trivial, cl, kl49.rc (k := 4) rfl, trivial, ca, ka49.rc (k := 4) rfl, k, rfl, by rw [ol49.ls.slLen]; omega, Ls.isPt ol49.ls (by omega) _, ?_⟩
  have hcn := cnts_len N
  obtain ⟨bl, sl', dl, m53, hbl, hblt, hsB, h53, ol53, s53'⟩ := ol49.sto (k * 4 + 3) (.bool true) (by omega) (by omega)
  rw [Ls.add ol49.ls (by omega)]
  have hat : slAt cl (k * 4 + 3) = .ptr bl (k * 4 + 3) := by rw [hbl]; show C.ptr bl (0 + (k * 4 + 3)) = _; rw [Nat.zero_add]
  have hblv : bl = m40.nxt := by rw [← hcl] at hbl; cases hbl; rfl
  rw [hat]
  refine ⟨m53, h53, ?_⟩
  have n53 := s53'.nxt
  have kl53 := kl49.keep1 s53' (by omega)
  have ka53 := ka49.keep1 s53' (by omega)
  have kg53 := kg49.keep1 s53' (by omega)
  have oa53 := oa49.keep1 s53' (fun b' s d hq => by rw [← hca] at hq; cases hq; omega)
  have X53 : Ext m7 m53 := X49.st1 s53' (by omega)
  refine ⟨by rw [oa53.ls.noFn]; exact ka53.rc (k := 4) rfl, k, rfl, by rw [oa53.ls.slLen]; omega, Ls.isPt oa53.ls (by omega) _, ?_⟩
  obtain ⟨ba, sa', da, m55, hba, hbat, _, h55, oa55, s55'⟩ := oa53.sto (k * 4 + 3) (.bool false) (by omega) (by omega)
  rw [Ls.add oa53.ls (by omega)]
  have hat' : slAt ca (k * 4 + 3) = .ptr ba (k * 4 + 3) := by rw [hba]; show C.ptr ba (0 + (k * 4 + 3)) = _; rw [Nat.zero_add]
  have hbav : ba = m44.nxt := by rw [← hca] at hba; cases hba; rfl
  rw [hat']
  refine ⟨m55, h55, fun m56 h56 => ?_⟩
  have n55 := s55'.nxt
  have kl55 := kl53.keep1 s55' (by omega)
  have ka55 := ka53.keep1 s55' (by omega)
  have kg55 := kg53.keep1 s55' (by omega)
  have ol55 := ol53.keep1 s55' (fun b' s d hq => by rw [← hcl] at hq; cases hq; omega)
  have X55 : Ext m7 m55 := X53.st1 s55' (by omega)
  clear kl49 kl53 ka49 ka53 kg49 kg53 ol49 oa49 ol53 oa53 X49 X53 h53 h55 hat hat'
  rw [← cnts_late true hkN] at ol55
  rw [← cnts_late false hkN] at oa55
  obtain ⟨o56, x56⟩ := Own1.lit0 (k := 4) h56
  have n56 : m56.nxt = m55.nxt + 1 := by rw [h56]; rfl
  have X56 := X55.trans x56
  have y56 := hy.ext (x7.trans X56)
  have bb := fun {mm : M} (e : Ext m7 mm) => b7.ext e
  obtain ⟨c60, hc60, l60⟩ := y56.sub hsub (by omega) (i := 0) (j := k) (by omega) (by omega)
  refine ⟨trivial, y, (bb X56).rc (k := 4) rfl, nf (bb X55), 0, k, rfl, rfl, c60, hc60, ?_⟩
  obtain ⟨c61, m62, p1, o62, p3, p4, p5, p6⟩ := ap_any t27 g94 z94 (by omega) o56 l60 (by omega)
  refine ⟨c61, m62, p1, ?_⟩
  have x62 : Ext m56 m62 := ⟨p3, fun b' hb' => p5 b' hb' (by intro hq; cases hq), p4⟩
  have X62 := X56.trans x62
  have y62 := hy.ext (x7.trans X62)
  obtain ⟨c66, hc66, l66⟩ := y62.sub hsub (by omega) (i := k + 1) (j := N.length) (by omega) (Nat.le_refl _)
  refine ⟨trivial, y, (bb X62).rc (k := 4) rfl, nf (bb X56), nf (bb X55), fits_small (by omega) (by omega), k + 1, N.length, by omega, by rw [hy.slLen], c66, hc66, ?_⟩
  obtain ⟨c67, m68, p1', o68, p3', p4', p5', p6'⟩ := ap_any t27 g94 z94 (by omega) o62 l66 (by omega)
  refine ⟨c67, m68, p1', trivial, ?_⟩
  have hf61 : ∀ b' o n s d, c61 = .sl b' o n s d → m55.nxt ≤ b' := fun b' o n s d hq => by
    rcases p6 with h1 | h1
    · have := h1 b' o n s d hq; omega
    · rw [h1] at hq; cases hq; exact Nat.le_refl _
  have hne61 : ∀ b', b' < m55.nxt → slB c61 ≠ some b' := fun b' hb' hq => by
    cases c61 with
    | sl b3 o3 n3 s3 d3 =>
      cases d3 with
      | none =>
        have h2 : some b3 = some b' := hq
        cases h2
        have := hf61 _ _ _ _ _ rfl; omega
      | some d => cases hq
    | _ => cases hq
  have x68 : Ext m55 m68 := ⟨by have := x56.nxt; omega, fun b' hb' => by rw [p5' b' (by have := x56.nxt; omega) (hne61 b' hb')]; exact (x56.trans x62).g b' hb', p4'.trans (x56.trans x62).vw⟩
  have hf67 : ∀ b' o n s d, c67 = .sl b' o n s d → m55.nxt ≤ b' := fun b' o n s d hq => by
    rcases p6' with h1 | h1
    · have := h1 b' o n s d hq; have := x56.nxt; omega
    · rw [h1] at hq; exact hf61 _ _ _ _ _ hq
  have X68 := X55.trans x68
  obtain ⟨m69, h69, kg69, s69'⟩ := (kg55.ext x68).sto1 4 c67 (by show 4 < 5; omega) rfl
  have hN3 : cnts (N.take k ++ N.drop (k + 1)) = [] ++ ((cnts N).drop (0 * 4)).take ((k - 0) * 4) ++ ((cnts N).drop ((k + 1) * 4)).take ((N.length - (k + 1)) * 4) := by
    rw [Nat.zero_mul, List.drop_zero, List.nil_append, Nat.sub_zero]
    have hsp : ∀ (A : List Cnt) (j : Nat), (cnts A).take (j * 4) = cnts (A.take j) ∧ (cnts A).drop (j * 4) = cnts (A.drop j) := fun A => by
      induction A with
      | nil => intro j; simp [cnts]
      | cons q A ih =>
        intro j
        cases j with
        | zero => simp [cnts]
        | succ j =>
          obtain ⟨i1, i2⟩ := ih j
          have e1 : cnts (q :: A) = q.cs ++ cnts A := rfl
          rw [e1, show (j + 1) * 4 = j * 4 + 4 by omega]
          constructor
          · show q.cs ++ (cnts A).take (j * 4) = _
            rw [i1]; rfl
          · show (cnts A).drop (j * 4) = _
            rw [i2]; rfl
    rw [(hsp N k).1, (hsp N (k + 1)).2, show (cnts (N.drop (k + 1))).take ((N.length - (k + 1)) * 4) = cnts (N.drop (k + 1)) from List.take_of_length_le (by rw [cnts_len, List.length_drop]; omega)]
    simp [cnts]
  have hlg : (N.take k ++ N.drop (k + 1)).length = 0 + (k - 0) + (N.length - (k + 1)) := by rw [List.length_append, List.length_take, List.length_drop]; omega
  have lg69 : Lc m69 c67 (N.take k ++ N.drop (k + 1)) := by
    have := (o68.keep1 s69' (fun b' s d hq => by have := hf67 _ _ _ _ _ hq; omega)).ls
    unfold Lc
    rw [hN3, hlg]; exact this
  have ll69 : Lc m69 cl (lateAt N k true) := by
    have := ((ol55.ext x68).keep1 s69' (fun b' s d hq => by rw [← hcl] at hq; cases hq; omega)).ls
    unfold Lc
    rw [late_len]; rw [Nat.zero_add] at this; exact this
  have la69 : Lc m69 ca (lateAt N k false) := by
    have := ((oa55.ext x68).keep1 s69' (fun b' s d hq => by rw [← hca] at hq; cases hq; omega)).ls
    unfold Lc
    rw [late_len]; rw [Nat.zero_add] at this; exact this
  have kl69 := (kl55.ext x68).keep1 s69' (by omega)
  have ka69 := (ka55.ext x68).keep1 s69' (by omega)
  have X69 : Ext m7 m69 := X68.st1 s69' (by omega)
  have hx69 := hx.ext (x7.trans X69)
  refine ⟨m69, h69, ?_⟩
  clear p1 p1' o56 o62 o68 l60 l66 y56 y62 ol55 oa55 kl55 ka55 kg55 a1 a1'
  have vl : svErr r c L sm (lateAt N k true) = 0 := sv_ok (late_okay hO k true) hsm hP
  have va : svErr r c L sm (lateAt N k false) = 0 := sv_ok (late_okay hO k false) hsm hP
  have vg : svErr r c L sm (N.take k ++ N.drop (k + 1)) = 0 := sv_ok (gone_okay hO k) hsm hP
  have hsame := bd_same vl vg fun H => ⟨fun hT => ⟨hT.1, hT.2.1, (late_gone hkN).1 hT.2.2⟩, fun hT => ⟨hT.1, hT.2.1, (late_gone hkN).2 hT.2.2⟩⟩
  have hlen1 := late_len N k true
  have hlen2 := late_len N k false
  refine cBounds hx69 (by omega) ll69 (by omega) kl69 fun m83 m88 e83 e88 kA => ?_
  have x88 := e83.trans e88
  refine cBounds (hx69.ext x88) (by omega) (lg69.ext x88) (by omega) (kg69.ext x88) fun m102 m107 e102 e107 kB => ?_
  have x107 := x88.trans (e102.trans e107)
  refine cBounds (hx69.ext x107) (by omega) (la69.ext x107) (by omega) (ka69.ext x107) fun m121 m126 e121 e126 kC => ?_
  have A1 := (kA.ext (e102.trans e107)).ext (e121.trans e126)
  have B1 := kB.ext (e121.trans e126)
  have sml := bd_small vl
  rw [← hsame.2] at B1
  rw [← hsame.1]
  rw [ifB_ndec]
  refine ⟨fun h1 => absurd rfl h1, fun _ => ⟨_, _, A1.ra, _, _, B1.ra, ?_⟩⟩
  rw [decide_eq_true rfl, decide_eq_true rfl]
  refine ⟨fits_small (by omega) (by omega), fits_small (by omega) (by omega), fits_small (by omega) (by omega), fits_small (by omega) (by omega), ?_⟩
  show ifB (!decide (trueErr r c L sm (lateAt N k true) = 0)) _ _
  rw [ifB_ndec]
  refine ⟨fun hne => ?_, fun h0 => ?_⟩
  · have h9 := true_nine vl hne
    have ha9 : trueErr r c L sm (lateAt N k false) = 9 := true_nine va fun h0 => by
      obtain ⟨H, hT⟩ := (true_ex va).1 h0
      exact hne ((true_ex vl).2 ⟨H, hT.1, hT.2.1, late_less hT.2.2⟩)
    rw [h9, ha9]
    exact aw _
  · rw [ifB_ndec]
    refine ⟨fun hne => ?_, fun ha0 => ?_⟩
    · rw [ifB_dec]
      exact ⟨fun _ => aw _, fun h1 => absurd (true_nine va hne) h1⟩
    · have hm := bd_mono va vl ha0 (shareOf L) (shareOf L) fun H hT => ⟨H, ⟨hT.1, hT.2.1, late_less hT.2.2⟩, rfl⟩
      have ea : boundsOf r c L sm (lateAt N k false) (trueErr r c L sm (lateAt N k false)) (shareOf L) = (loOf ((truthsP c sm L (lateAt N k false)).map (shareOf L)), hiOf ((truthsP c sm L (lateAt N k false)).map (shareOf L))) := by unfold boundsOf; rw [if_pos ha0]
      have el : boundsOf r c L sm (lateAt N k true) (trueErr r c L sm (lateAt N k true)) (shareOf L) = (loOf ((truthsP c sm L (lateAt N k true)).map (shareOf L)), hiOf ((truthsP c sm L (lateAt N k true)).map (shareOf L))) := by unfold boundsOf; rw [if_pos h0]
      rw [ea] at kC; rw [el] at A1
      refine ⟨trivial, _, kC.rc (k := 0) rfl, trivial, _, A1.rc (k := 0) rfl, ?_⟩
      rw [ifB_dec]
      refine ⟨fun _ => ⟨trivial, _, kC.rc (k := 1) rfl, trivial, _, A1.rc (k := 1) rfl, ?_⟩, fun h1 => absurd hm.2.1 h1⟩
      rw [ifB_dec]
      exact ⟨fun _ => aw _, fun h1 => absurd hm.2.2 h1⟩
end
end Go.Proofs.Ytgkjfhkjgdiodaa

namespace Go.Proofs.Ytgkjfhkjgdiodaa
open _root_.Go.Proofs.Try
open Go.ChangeShapes Go.WideShapes Go.ChangeAt Go.RowKit Go.Abs
set_option maxRecDepth 100000
theorem els_cnts {els : List (List C)} (h : ∀ el ∈ els, All2 PkC [.int .i64, .int .i64, .int .i64, .bool] el) : ∃ N : List Cnt, els = N.map Cnt.cs ∧ PsFit N := by
  induction els with
  | nil => exact ⟨[], rfl, fun c hc => by cases hc⟩
  | cons e es ih =>
    obtain ⟨N, h1, h2⟩ := ih fun el hel => h el (List.mem_cons_of_mem _ hel)
    have he := h e (List.mem_cons_self ..)
    cases he with
    | cons q1 q2 =>
      cases q2 with
      | cons r1 r2 =>
        cases r2 with
        | cons s1 s2 =>
          cases s2 with
          | cons t1 t2 =>
            cases t2
            obtain ⟨p, rfl, hf⟩ := pk_int q1
            obtain ⟨lo, rfl, _⟩ := pk_int r1
            obtain ⟨hi, rfl, _⟩ := pk_int s1
            obtain ⟨b, rfl⟩ := pk_bool t1
            exact ⟨⟨p, lo, hi, b⟩ :: N, by rw [h1]; rfl, fun c hc => (List.mem_cons.1 hc).elim (fun h => h ▸ hf) (h2 c)⟩
/-- a slice of counts that a law is called with -/
theorem lc_of {all : List X} {i : Nat} {x : X} (hi : all[i]? = some x) (hk : XK (.sl [.int .i64, .int .i64, .int .i64, .bool]) x) : ∃ N : List Cnt, Lc (memOf all) (cOf i x) N ∧ PsFit N := by
  obtain ⟨hs, he⟩ := xk_sl hk
  obtain ⟨N, h1, h2⟩ := els_cnts he
  have := ls_of hi hs (k := 4) fun el hel => (he el hel).length.symm
  rw [h1, List.length_map] at this
  exact ⟨N, this, h2⟩
theorem get_mid {A B E : List X} {j : Nat} {x : X} (hx : B[j]? = some x) : (A ++ B ++ E)[A.length + j]? = some x := by
  rw [List.append_assoc, List.getElem?_append_right (by omega), Nat.add_sub_cancel_left, List.getElem?_append_left (List.getElem?_eq_some_iff.1 hx).1]; exact hx
theorem kk30 : kindsOf prog 9 30 = some [.pl (.int .i64), .pl (.int .i64), .sl [.int .i64], .pl (.int .i64), .sl [.int .i64, .int .i64, .int .i64, .bool]] := by kernel_rfl
theorem kk5 : kindsOf prog 9 5 = some [.pl (.int .u8)] := by kernel_rfl
theorem laid : laidOutB prog = true := by kernel_rfl
theorem ownNone : ownKnob prog.godebug = none := by kernel_rfl
theorem late_lifted (os : Os) (started : os.Started) (H : Type) (enc : TypeId × Value → H) :
    ReturnsInHanded {} Try.checked os 18 .any (Rows.frameLateSpec.pre6 enc Try.prog Try.f18 Rows.frameLateRow.domain false) (Rows.frameLateSpec.post enc Try.prog Try.f18 false true false false) := by
  refine returnsInHanded_of_change (C := Try.checked) ownNone started (by kernel_rfl) Try.func18
    (ChangeSpec.witness6 (enc := enc) (C := Try.checked) false ⟨#[], #[.agg #[.int .i64 0, .int .i64 0, .slice none 0 0, .int .i64 0, .slice none 0 0], .int .u8 0], []⟩ 8 (by kernel_rfl) (by kernel_rfl) (by kernel_rfl) (by kernel_rfl)) ?_
  intro W base args ds gs before hval0 hW hcnd _
  have hval : ∀ (j : Nat) t v, Try.f18.params[j]? = some t → args[j]? = some v → Value.okWide Try.prog W .any base t v := hval0
  have hW' := hW
  obtain ⟨p, q, hA0, hV, rfl, hfz, hnd⟩ := hW
  have hA : DataW.TrodAll enc Try.prog W 0 (fun _ => true) true Try.f18.params.toList args.toList ds p := hA0
  rw [Try.params18] at hA hval
  obtain ⟨v0, v1, d0, d1, p0, p1, rfl, rfl, rfl, h0, h1⟩ := trodAll_two hA
  obtain ⟨rfl, rfl⟩ := trodVars_none hV
  obtain ⟨n1, hv1⟩ := okWide_int Try.underlying5 (hval 1 5 v1 rfl rfl)
  have hlt : ∀ x ∈ p0 ++ p1, x.block < W.heap.size := fun x hx => by simpa using hW'.lt x (by simpa using hx)
  obtain ⟨fu0, hf0⟩ := id h0
  obtain ⟨fu1, hf1⟩ := id h1
  clear hA0 hval0
  obtain ⟨xs0, x0, y0⟩ := open_trod 9 kk30 hf0
  obtain ⟨xs1, x1, y1⟩ := open_trod 9 kk5 hf1
  obtain ⟨cs0, rfl, z0⟩ := agg_of x0 (by rw [← y0.length]; decide)
  have z1 := x1
  have hall := (z0.app z1)
  have c0 := crs_of (W := W) (all := xs0 ++ xs1) (i := ([] : List X).length) (xs := xs0) (fun j x hx => by rw [show xs0 ++ xs1 = ([]) ++ xs0 ++ (xs1) from by simp only [List.append_assoc, List.nil_append, List.append_nil]]; exact get_mid hx) z0
  have c1 := crs_of (W := W) (all := xs0 ++ xs1) (i := (xs0 : List X).length) (xs := xs1) (fun j x hx => by rw [show xs0 ++ xs1 = (xs0) ++ xs1 ++ ([]) from by simp only [List.append_assoc, List.nil_append, List.append_nil]]; exact get_mid hx) z1
  have hr := hr_of (W := W) (all := xs0 ++ xs1) (xr_some hall)
  cases y0 with
  | cons q0 y0 =>
  cases y0 with
  | cons q1 y0 =>
  cases y0 with
  | cons q2 y0 =>
  cases y0 with
  | cons q3 y0 =>
  cases y0 with
  | cons q4 y0 =>
  cases y0
  cases y1 with
  | cons q5 y1 =>
  cases y1
  obtain ⟨r0, rfl⟩ := xk_int q0
  obtain ⟨c0', rfl⟩ := xk_int q1
  obtain ⟨t0, rfl⟩ := xk_int q3
  obtain ⟨a1, rfl⟩ := xk_int q5
  rename_i s0a s0b
  obtain ⟨L0, hL0, _⟩ := li_of (all := [.int .i64 r0, .int .i64 c0', s0a, .int .i64 t0, s0b] ++ [.int .u8 a1]) (i := 2) rfl q2
  obtain ⟨N0, hN0, hP0⟩ := lc_of (all := [.int .i64 r0, .int .i64 c0', s0a, .int .i64 t0, s0b] ++ [.int .u8 a1]) (i := 4) rfl q4
  obtain ⟨w0, hw0⟩ := xr_some hall 4 s0b rfl
  subst hv1
  have fa1 : fitsP .u8 a1 := by
    cases x1 with
    | cons e1 e2 => exact e1.2
  simp only [fitsP] at fa1
  have hargs : All2 (VR (envOf W ([.int .i64 r0, .int .i64 c0', s0a, .int .i64 t0, s0b] ++ [.int .u8 a1]))) [.agg 5 [.int .i64 r0, .int .i64 c0', cOf 2 s0a, .int .i64 t0, cOf 4 s0b], .c (.int .u8 a1)] [.agg cs0, .int .u8 n1] := by
    cases c1 with
    | cons g1 g1' =>
    exact .cons ⟨cs0, rfl, c0, rfl⟩ (.cons g1 (.nil))
  refine (callsIn_wide.1 (call_of fits htab (s18 (Q := fun v _ => v = .c (.bool true)) hL0 hN0 (sub_of hw0 q4 hN0) ⟨by omega, by omega⟩ fun _ => rfl) hr (args' := #[.agg cs0, .int .u8 n1]) hargs 0)).mono fun en W' hp => ?_
  obtain ⟨v, v', e', m', rfl, hst, hvr, rfl⟩ := hp
  have hv' : v' = .bool true := hvr
  subst hv'
  have hbelow := below_of hst
  refine ⟨_, rfl, [d0, d1], [], p0 ++ p1, [], p0 ++ p1, [], by simpa using hW', trodAll_mk1 (shut_bool Try.underlying4 _),
    trodAll_mk2 (Below.trod laid (by kernel_rfl) (of_decide_eq_true (by kernel_rfl)) h0 hbelow fun x hx => hlt x (by simp [hx])) (Below.trod laid (by kernel_rfl) (of_decide_eq_true (by kernel_rfl)) h1 hbelow fun x hx => hlt x (by simp [hx])), rfl, kept_of hst _, fun hc => by cases hc⟩
theorem late_holds : Rows.FrameLateSaid :=
  OpenClaim.holds_of_wide 18 Try.f18 rfl rfl rfl rfl rfl rfl rfl ⟨rfl, rfl, rfl, rfl, rfl⟩ rfl rfl rfl rfl rfl (by kernel_rfl) Try.func18 (by kernel_rfl)
    (of_decide_eq_true (by kernel_rfl)) (by unfold Func.isWrapper; first | (rw [if_pos (by decide +kernel)]; kernel_rfl) | (rw [if_neg (by decide +kernel)]; exact ⟨rfl, rfl⟩))
    (fun os started H enc _ => late_lifted os started H enc)
end Go.Proofs.Ytgkjfhkjgdiodaa

