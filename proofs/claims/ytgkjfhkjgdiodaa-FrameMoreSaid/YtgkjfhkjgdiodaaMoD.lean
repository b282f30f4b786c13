/- FrameMore, for all that it can be called with, returns true. Condition: none. -/
import Derived.Test.YtgkjfhkjgdiodaaMoC
import Derived.KernelRfl
import Derived.ProofKit
import Derived.SizedLaws
import Derived.Test.YtgkjfhkjgdiodaaRows

namespace Go.Proofs.Ytgkjfhkjgdiodaa
open _root_.Go.Proofs.Try
open Go.Abs
set_option maxRecDepth 100000
noncomputable section
theorem t129 : tk prog 129 = .sl 108 := by kernel_rfl
theorem g108 : growOk prog 108 = true := by kernel_rfl
theorem z108 : prog.cellsOf 108 = 9 := by kernel_rfl
/-- the truths on one side of a part -/
def sideT (L : List Int) (n : Int) (T : List (List Int)) (b : Bool) : List (List Int) := (T.filter fun H => decide (n ≤ shareOf L H) == b).map pad
theorem sideT_app (L : List Int) (n : Int) (T T' : List (List Int)) (b : Bool) : sideT L n (T ++ T') b = sideT L n T b ++ sideT L n T' b := by simp [sideT]
theorem sideT_one (L : List Int) (n : Int) (H : List Int) (b : Bool) : sideT L n [H] b = if (decide (n ≤ shareOf L H) == b) = true then [pad H] else [] := by
  unfold sideT
  rw [List.filter_cons]
  split <;> rfl
theorem sideT_len (L : List Int) (n : Int) (T : List (List Int)) (b : Bool) : (sideT L n T b).length ≤ T.length := by
  unfold sideT
  rw [List.length_map]; exact List.length_filter_le _ _
theorem s89 {r c sm n : Int} {x y : C} {L : List Int} {N : List Cnt} {mb : Nat} {f : Spot → Option U} {m : M} {Q : V → M → Prop} (hw : Wk m L N mb f) (hx : Li m x L) (hf : isField r c L = true) (hle : (truthsP c sm L N).length ≤ 100000)
    (h : ∀ c1 c2 m', Ext m m' → Lh m' c1 (sideT L n (truthsP c sm L N) true) → Lh m' c2 (sideT L n (truthsP c sm L N) false) → Q (.agg 2 [c1, c2]) m') :
    Wc prog tbl 89 [.agg 6 [.int .i64 r, .int .i64 c, x, .int .i64 sm, y, .map mb], .c (.int .i64 n)] m Q := by
  obtain ⟨hS, hL9, _⟩ := field_of hf
  refine w89 fun m0 e0 m1 e1 m2 e2 m3 e3 => ?_
  obtain ⟨b0, x0⟩ := Bk.new e0
  obtain ⟨b1, x1⟩ := Bk.new e1
  obtain ⟨b2, x2⟩ := Bk.new e2
  obtain ⟨b3, x3⟩ := Bk.new e3
  have n0 : m0.nxt = m.nxt + 1 := by rw [e0]; rfl
  have n1 : m1.nxt = m.nxt + 2 := by rw [e1]; show m0.nxt + 1 = _; omega
  have n2 : m2.nxt = m.nxt + 3 := by rw [e2]; show m1.nxt + 1 = _; omega
  have n3 : m3.nxt = m.nxt + 4 := by rw [e3]; show m2.nxt + 1 = _; omega
  have x03 := ((x0.trans x1).trans x2).trans x3
  refine ⟨r, c, x, sm, y, .map mb, (((b0.ext x1).ext x2).ext x3).ra, s100 (hw.ext x03) (hx.ext x03) fun mL bb bb2 eL hR hbb hbb2 => ⟨_, rfl, ?_⟩⟩
  have kw := (((b0.ext x1).ext x2).ext x3).ext eL
  have kq := ((b1.ext x2).ext x3).ext eL
  have kr := (b2.ext x3).ext eL
  have kn := b3.ext eL
  have xL := x03.trans eL
  clear e0 e1 e2 e3 b0 b1 b2 b3 x0 x1 x2 x3
  generalize hnb : m2.nxt = nb at n2 kn
  have hnbL := kn.lt
  have hflag : ∀ b', b' = nb → ¬ Ds x mb bb bb2 b' := fun b' hb' hds => by
    rcases ds_old (m := m) hw hx hds with h1 | h1 | h1
    · omega
    · omega
    · omega
  have hlen : (truthsV c sm L N false6).length = (truthsP c sm L N).length := by unfold truthsV truthsP; rw [List.length_map]
  refine range_iter (without_iter hf rfl) hR
    (J := fun i S ma => ∃ s1 s2 : C, (∀ b', S b' ↔ b' = nb ∨ (∃ o n s d, s1 = .sl b' o n s d) ∨ ∃ o n s d, s2 = .sl b' o n s d) ∧ (∀ b' o n s d, s1 = .sl b' o n s d → mL.nxt ≤ b') ∧ (∀ b' o n s d, s2 = .sl b' o n s d → mL.nxt ≤ b') ∧ Sep s1 s2 ∧ Bk ma nb 2 [s1, s2] ∧
      Own1 ma 9 s1 (hcs (sideT L n ((truthsP c sm L N).take i) true)) (sideT L n ((truthsP c sm L N).take i) true).length ∧ Own1 ma 9 s2 (hcs (sideT L n ((truthsP c sm L N).take i) false)) (sideT L n ((truthsP c sm L N).take i) false).length ∧ mL.nxt ≤ ma.nxt ∧ ma.vw = mL.vw ∧ ∀ b', b' < mL.nxt → b' ≠ nb → ma.g b' = mL.g b')
    (X := fun _ _ _ => False) (fun i => ⟨fun S ma mb' hj hn hv hg hlow => ?_, fun S ma hj b' hb' => ?_⟩) (fun ex => ⟨fun _ _ _ hj _ _ _ _ => hj, fun _ _ hj => hj.elim⟩) (S0 := fun b' => b' = nb) ?_ (fun b' hb' => hflag b' hb') ?_ ?_ (fun _ _ _ _ _ _ _ hj => hj.elim) (fun _ _ _ _ _ _ hj => hj.elim)
  · obtain ⟨s1, s2, q1, q2, q3, q4, q5, q6, q7, q8, q9, q10⟩ := hj
    exact ⟨s1, s2, q1, q2, q3, q4, ⟨(hg nb ((q1 nb).2 (.inl rfl))).trans q5.g, Nat.lt_of_lt_of_le q5.lt hn⟩, q6.to hn (fun b' _ hx' => by obtain ⟨s', d, hx'⟩ := hx'; exact hg b' ((q1 b').2 (.inr (.inl ⟨_, _, s', d, hx'⟩)))), q7.to hn (fun b' _ hx' => by obtain ⟨s', d, hx'⟩ := hx'; exact hg b' ((q1 b').2 (.inr (.inr ⟨_, _, s', d, hx'⟩)))), Nat.le_trans q8 hn, hv.trans q9, fun b' hb' hne' => (hlow b' hb').trans (q10 b' hb' hne')⟩
  · obtain ⟨s1, s2, q1, q2, q3, q4, q5, q6, q7, q8, q9, q10⟩ := hj
    rcases (q1 b').1 hb' with rfl | ⟨o, n, s', d, hx'⟩ | ⟨o, n, s', d, hx'⟩
    · exact q5.lt
    · exact q6.lt hx'
    · exact q7.lt hx'
  · exact ⟨.sl0, .sl0, fun b' => ⟨fun h => .inl h, fun h => h.elim id fun h2 => h2.elim (fun ⟨_, _, _, _, h2⟩ => (by cases h2)) fun ⟨_, _, _, _, h2⟩ => (by cases h2)⟩, fun _ _ _ _ _ h => (by cases h), fun _ _ _ _ _ h => (by cases h), fun _ _ _ _ _ _ _ _ _ _ h => (by cases h), kn, Own1.nil' _ _, Own1.nil' _ _, Nat.le_refl _, rfl, fun _ _ _ => rfl⟩
  · intro i xv S ma B' enter K hxv hj hlt hSl hown henter hK
    obtain ⟨s1, s2, q1, q2, q3, q4, q5, q6, q7, q8, q9, q10⟩ := hj
    have hxv' := hxv
    unfold truthsV at hxv'
    rw [List.getElem?_map] at hxv'
    cases hH : (exts c sm L N false6 L.length [])[i]? with
    | none => rw [hH] at hxv'; cases hxv'
    | some H =>
    rw [hH] at hxv'
    have hxe : [V.agg 9 (ints (pad H))] = xv := by injection hxv'
    have hmem : H ∈ truthsP c sm L N := List.mem_of_getElem? hH
    have hl : listed L H = true := by
      have := (mem_exts hf H L.length 0 [] (by omega) rfl).1 hmem
      exact decide_eq_true ⟨this.1, fun i hi => (this.2.2 i (by omega) hi).1⟩
    have hlenH := listed_len hl
    have hSH := small_listed hS hl
    have hiT : i < (truthsP c sm L N).length := (List.getElem?_eq_some_iff.1 hH).1
    have hTi : (truthsP c sm L N).take (i + 1) = (truthsP c sm L N).take i ++ [H] := by
      rw [List.take_add_one]
      have hHi : (truthsP c sm L N)[i]? = some H := hH
      rw [hHi]; rfl
    obtain ⟨p0, p1, p2, p3, p4, p5, p6, p7, p8, hp⟩ := nine (pad_len (H := H) (by omega))
    refine ⟨p0, p1, p2, p3, p4, p5, p6, p7, p8, by rw [← hxe, hp]; rfl, fun m26 h26 => ?_⟩
    obtain ⟨b26, x26⟩ := Bk.new h26
    refine ⟨_, b26.st _, ?_⟩
    have k27 := b26.set (ints [p0, p1, p2, p3, p4, p5, p6, p7, p8])
    have e27 : Ext ma (m26.set ma.nxt (.cells 9 (ints [p0, p1, p2, p3, p4, p5, p6, p7, p8]) false)) := x26.setR (Nat.le_refl _) _
    show enter (m26.set ma.nxt (.cells 9 (ints [p0, p1, p2, p3, p4, p5, p6, p7, p8]) false)) _
    generalize m26.set ma.nxt (.cells 9 (ints [p0, p1, p2, p3, p4, p5, p6, p7, p8]) false) = m27 at k27 e27
    refine henter m27 _ (e27.g _ hlt) fun m28 hn28 hv28 hg28 hB28 => ?_
    have hsne1 : ∀ b' o n s' d, s1 = .sl b' o n s' d → b' ≠ mL.nxt := fun b' o n s' d hs he => hSl ((q1 _).2 (.inr (.inl ⟨o, n, s', d, by rw [← he]; exact hs⟩)))
    have hsne2 : ∀ b' o n s' d, s2 = .sl b' o n s' d → b' ≠ mL.nxt := fun b' o n s' d hs he => hSl ((q1 _).2 (.inr (.inr ⟨o, n, s', d, by rw [← he]; exact hs⟩)))
    have hold : ∀ b', b' < mL.nxt → b' ≠ nb → m28.g b' = mL.g b' := fun b' hb' hne' => by rw [hg28 b' (by omega), e27.g b' (by omega)]; exact q10 b' hb' hne'
    have hx28 : Ext m m28 := ⟨by rw [hn28]; exact Nat.le_trans xL.nxt (Nat.le_trans q8 e27.nxt), fun b' hb' => by rw [hold b' (Nat.lt_of_lt_of_le hb' xL.nxt) (by omega)]; exact xL.g b' hb', by rw [hv28, e27.vw, q9]; exact xL.vw⟩
    have bk28 : ∀ {b' n : Nat} {vs : List C}, b' ≠ nb → Bk mL b' n vs → Bk m28 b' n vs := fun hne' hb => ⟨(hold _ hb.lt hne').trans hb.g, by rw [hn28]; exact Nat.lt_of_lt_of_le hb.lt (Nat.le_trans q8 e27.nxt)⟩
    have kn28 : Bk m28 nb 2 [s1, s2] := ⟨by rw [hg28 nb (by omega), e27.g nb q5.lt]; exact q5.g, by rw [hn28]; exact Nat.lt_of_lt_of_le q5.lt e27.nxt⟩
    have o128 := q6.to (m' := m28) (by rw [hn28]; exact e27.nxt) fun b' hb' hx' => by
      obtain ⟨s', d, hx'⟩ := hx'
      rw [hg28 b' (hsne1 b' _ _ _ _ hx')]; exact e27.g b' hb'
    have o228 := q7.to (m' := m28) (by rw [hn28]; exact e27.nxt) fun b' hb' hx' => by
      obtain ⟨s', d, hx'⟩ := hx'
      rw [hg28 b' (hsne2 b' _ _ _ _ hx')]; exact e27.g b' hb'
    have kh28 : Bk m28 ma.nxt 9 (ints [p0, p1, p2, p3, p4, p5, p6, p7, p8]) := ⟨by rw [hg28 _ (by omega)]; exact k27.g, by rw [hn28]; exact k27.lt⟩
    refine ⟨trivial, r, c, x, sm, y, (bk28 (by omega) kw).rp (k := 0) (j := 5) rfl (by omega), p0, p1, p2, p3, p4, p5, p6, p7, p8, kh28.ra, ?_⟩
    have hcall := fun Q h => s75 (r := r) (c := c) (sm := sm) (y := y) (H := pad H) (Q := Q) (hx.ext hx28) hS hL9 (pad_len (by omega)) (small_pad hSH) h
    rw [hp] at hcall
    refine hcall _ fun m44 e44 => ⟨_, rfl, n, ((bk28 (by omega) kq).ext e44).rc rfl, (bk28 (by omega) kq).rc rfl, ?_⟩
    rw [← hp, shareOf_pad]
    have hL44 : mL.nxt < m44.nxt := Nat.lt_of_lt_of_le (Nat.lt_of_lt_of_le hlt (by rw [hn28]; exact e27.nxt)) e44.nxt
    have ha44 : ma.nxt ≤ m44.nxt := Nat.le_trans (by rw [hn28]; exact e27.nxt) e44.nxt
    rw [ifB_dec]
    refine ⟨fun hge => ?_, fun hge => ?_⟩
    · have hge' : decide (n ≤ shareOf L H) = true := decide_eq_true hge
      have hap : sideT L n ((truthsP c sm L N).take (i + 1)) true = sideT L n ((truthsP c sm L N).take i) true ++ [pad H] := by rw [hTi, sideT_app, sideT_one, hge']; rfl
      have hot : sideT L n ((truthsP c sm L N).take (i + 1)) false = sideT L n ((truthsP c sm L N).take i) false := by rw [hTi, sideT_app, sideT_one, hge']; exact List.append_nil _
      refine ⟨trivial, _, (kn28.ext e44).rc (k := 0) rfl, p0, p1, p2, p3, p4, p5, p6, p7, p8, (kh28.ext e44).ra, fun m57 h57 => ?_⟩
      obtain ⟨c58, m59, a1, a2, a3, a4, a4v, a5⟩ := ap_one t129 g108 z108 (by omega) (o128.ext e44) (ws := ints [p0, p1, p2, p3, p4, p5, p6, p7, p8]) rfl (by have := sideT_len L n ((truthsP c sm L N).take i) true; have := List.length_take_le i (truthsP c sm L N); omega) h57
      have hsnb : ∀ b' o n s d, s1 = .sl b' o n s d → b' ≠ nb := fun b' o n s d hs he => by have := q2 b' o n s d hs; omega
      have kn59 : Bk m59 nb 2 [s1, s2] := Bk.keep (kn28.ext e44) a4 a5 hsnb
      have hslB : ∀ b', (∀ o n s d, s1 ≠ .sl b' o n s d) → slB s1 ≠ some b' := fun b' hb' hsb => by
        cases s1 with
        | sl b3 o n s' d =>
          cases d with
          | none =>
            have h2 : some b3 = some b' := hsb
            cases h2; exact hb' _ _ _ _ rfl
          | some d => cases hsb
        | _ => cases hsb
      have g59 : ∀ b', b' < ma.nxt → (∀ o n s d, s1 ≠ .sl b' o n s d) → b' ≠ mL.nxt → m59.g b' = ma.g b' := fun b' hb' hs hl => by
        rw [a5 b' (by omega) (hslB b' hs), e44.g b' (by rw [hn28]; exact Nat.lt_of_lt_of_le hb' e27.nxt), hg28 b' hl]; exact e27.g b' hb'
      obtain ⟨m60, h60, kn60, s60'⟩ := kn59.sto1 0 c58 (by show 0 < 2; omega) rfl
      have hfc : ∀ b' o n s d, c58 = .sl b' o n s d → m44.nxt ≤ b' := a3
      have hother : Own1 m59 9 s2 _ _ := (o228.ext e44).keep a4 a5 q4
      refine ⟨c58, m59, a1, trivial, m60, h60, hK .nrm (fun b' => b' = nb ∨ (∃ o n s d, c58 = .sl b' o n s d) ∨ ∃ o n s d, s2 = .sl b' o n s d) _ (hB28 _ ?_) ?_ ?_ ?_ ?_ ⟨c58, s2, fun b' => Iff.rfl, ?_, ?_, ?_, kn60, ?_, ?_, ?_, ?_, ?_⟩⟩
      · rw [s60'.g _ (by omega), a5 _ hL44 (hslB _ fun o n s d hs => by have := hsne1 _ o n s d hs; exact this rfl), e44.g _ (by rw [hn28]; exact Nat.lt_of_lt_of_le hlt e27.nxt)]
      · rw [s60'.nxt]; exact Nat.le_trans ha44 a4
      · rw [s60'.vw, a4v, e44.vw, hv28, e27.vw]
      · intro b' hb' hSb hbl
        rw [s60'.g _ fun h0 => hSb ((q1 b').2 (.inl h0))]
        exact g59 b' hb' (fun o n s d hs => hSb ((q1 b').2 (.inr (.inl ⟨o, n, s, d, hs⟩)))) hbl
      · intro b' hb'
        rcases hb' with h0 | ⟨o, n', s, d, hs⟩ | ⟨o, n', s, d, hs⟩
        · exact .inl ((q1 b').2 (.inl h0))
        · exact .inr (Nat.le_trans ha44 (hfc b' o n' s d hs))
        · exact .inl ((q1 b').2 (.inr (.inr ⟨o, n', s, d, hs⟩)))
      · exact fun b' o n s d hs => Nat.le_trans (Nat.le_of_lt hL44) (hfc b' o n s d hs)
      · exact q3
      · exact Sep.fresh (m := m44) a3 (o228.ext e44)
      · rw [hap, ← hcs_app, hp, List.length_append]
        exact a2.keep1 s60' (fun b' s d hq => by have := hfc _ _ _ _ _ hq; omega)
      · rw [hot]
        exact hother.keep1 s60' (fun b' s d hq => by have := q3 _ _ _ _ _ hq; omega)
      · rw [s60'.nxt]; exact Nat.le_trans (Nat.le_of_lt hL44) a4
      · rw [s60'.vw, a4v, e44.vw, hv28, e27.vw, q9]
      · intro b' hb' hne'
        rw [s60'.g _ hne', g59 b' (by omega) (fun o n s d hs => by have := q2 b' o n s d hs; omega) (by omega)]
        exact q10 b' hb' hne'
    · have hge' : decide (n ≤ shareOf L H) = false := decide_eq_false hge
      have hap : sideT L n ((truthsP c sm L N).take (i + 1)) false = sideT L n ((truthsP c sm L N).take i) false ++ [pad H] := by rw [hTi, sideT_app, sideT_one, hge']; rfl
      have hot : sideT L n ((truthsP c sm L N).take (i + 1)) true = sideT L n ((truthsP c sm L N).take i) true := by rw [hTi, sideT_app, sideT_one, hge']; exact List.append_nil _
      refine ⟨trivial, _, (kn28.ext e44).rc (k := 1) rfl, p0, p1, p2, p3, p4, p5, p6, p7, p8, (kh28.ext e44).ra, fun m57 h57 => ?_⟩
      obtain ⟨c58, m59, a1, a2, a3, a4, a4v, a5⟩ := ap_one t129 g108 z108 (by omega) (o228.ext e44) (ws := ints [p0, p1, p2, p3, p4, p5, p6, p7, p8]) rfl (by have := sideT_len L n ((truthsP c sm L N).take i) false; have := List.length_take_le i (truthsP c sm L N); omega) h57
      have hsnb : ∀ b' o n s d, s2 = .sl b' o n s d → b' ≠ nb := fun b' o n s d hs he => by have := q3 b' o n s d hs; omega
      have kn59 : Bk m59 nb 2 [s1, s2] := Bk.keep (kn28.ext e44) a4 a5 hsnb
      have hslB : ∀ b', (∀ o n s d, s2 ≠ .sl b' o n s d) → slB s2 ≠ some b' := fun b' hb' hsb => by
        cases s2 with
        | sl b3 o n s' d =>
          cases d with
          | none =>
            have h2 : some b3 = some b' := hsb
            cases h2; exact hb' _ _ _ _ rfl
          | some d => cases hsb
        | _ => cases hsb
      have g59 : ∀ b', b' < ma.nxt → (∀ o n s d, s2 ≠ .sl b' o n s d) → b' ≠ mL.nxt → m59.g b' = ma.g b' := fun b' hb' hs hl => by
        rw [a5 b' (by omega) (hslB b' hs), e44.g b' (by rw [hn28]; exact Nat.lt_of_lt_of_le hb' e27.nxt), hg28 b' hl]; exact e27.g b' hb'
      obtain ⟨m60, h60, kn60, s60'⟩ := kn59.sto1 1 c58 (by show 1 < 2; omega) rfl
      have hfc : ∀ b' o n s d, c58 = .sl b' o n s d → m44.nxt ≤ b' := a3
      have hother : Own1 m59 9 s1 _ _ := (o128.ext e44).keep a4 a5 q4.symm
      refine ⟨c58, m59, a1, trivial, m60, h60, hK .nrm (fun b' => b' = nb ∨ (∃ o n s d, s1 = .sl b' o n s d) ∨ ∃ o n s d, c58 = .sl b' o n s d) _ (hB28 _ ?_) ?_ ?_ ?_ ?_ ⟨s1, c58, fun b' => Iff.rfl, ?_, ?_, ?_, kn60, ?_, ?_, ?_, ?_, ?_⟩⟩
      · rw [s60'.g _ (by omega), a5 _ hL44 (hslB _ fun o n s d hs => by have := hsne2 _ o n s d hs; exact this rfl), e44.g _ (by rw [hn28]; exact Nat.lt_of_lt_of_le hlt e27.nxt)]
      · rw [s60'.nxt]; exact Nat.le_trans ha44 a4
      · rw [s60'.vw, a4v, e44.vw, hv28, e27.vw]
      · intro b' hb' hSb hbl
        rw [s60'.g _ fun h0 => hSb ((q1 b').2 (.inl h0))]
        exact g59 b' hb' (fun o n s d hs => hSb ((q1 b').2 (.inr (.inr ⟨o, n, s, d, hs⟩)))) hbl
      · intro b' hb'
        rcases hb' with h0 | ⟨o, n', s, d, hs⟩ | ⟨o, n', s, d, hs⟩
        · exact .inl ((q1 b').2 (.inl h0))
        · exact .inl ((q1 b').2 (.inr (.inl ⟨o, n', s, d, hs⟩)))
        · exact .inr (Nat.le_trans ha44 (hfc b' o n' s d hs))
      · exact q2
      · exact fun b' o n s d hs => Nat.le_trans (Nat.le_of_lt hL44) (hfc b' o n s d hs)
      · exact (Sep.fresh (m := m44) a3 (o128.ext e44)).symm
      · rw [hot]
        exact hother.keep1 s60' (fun b' s d hq => by have := q2 _ _ _ _ _ hq; omega)
      · rw [hap, ← hcs_app, hp, List.length_append]
        exact a2.keep1 s60' (fun b' s d hq => by have := hfc _ _ _ _ _ hq; omega)
      · rw [s60'.nxt]; exact Nat.le_trans (Nat.le_of_lt hL44) a4
      · rw [s60'.vw, a4v, e44.vw, hv28, e27.vw, q9]
      · intro b' hb' hne'
        rw [s60'.g _ hne', g59 b' (by omega) (fun o n s d hs => by have := q3 b' o n s d hs; omega) (by omega)]
        exact q10 b' hb' hne'
  · intro S' m5 hown hlt hv hg hj
    obtain ⟨s1, s2, q1, q2, q3, q4, q5, q6, q7, q8, q9, q10⟩ := hj
    rw [hlen, List.take_of_length_le (Nat.le_refl _)] at q6 q7
    have kr5 : Bk m5 m1.nxt 2 [.sl0, .sl0] := ⟨(q10 _ kr.lt (by omega)).trans kr.g, Nat.lt_of_lt_of_le kr.lt q8⟩
    have hext : Ext m m5 := ⟨Nat.le_trans xL.nxt q8, fun b' hb' => by rw [q10 b' (Nat.lt_of_lt_of_le hb' xL.nxt) (by omega)]; exact xL.g b' hb', q9.trans xL.vw⟩
    obtain ⟨m6, h6, k6, s6'⟩ := kr5.sto [s1, s2]
    refine ⟨s1, s2, q5.ra, m6, h6, s1, s2, k6.ra, h s1 s2 m6 (hext.st1 s6' (by omega)) ?_ ?_⟩
    · exact (q6.keep1 s6' (fun b' s d hq => by have := q2 _ _ _ _ _ hq; have := kr.lt; omega)).ls
    · exact (q7.keep1 s6' (fun b' s d hq => by have := q3 _ _ _ _ _ hq; have := kr.lt; omega)).ls
end
end Go.Proofs.Ytgkjfhkjgdiodaa

namespace Go.Proofs.Ytgkjfhkjgdiodaa
open _root_.Go.Proofs.Try
open Go.Abs
set_option maxRecDepth 100000
noncomputable section
/-- no hits of A look at the places D like hits of B -/
def decB (A B : List (List Int)) (D : List Int) : Bool := B.all fun P => !(A.any fun P' => decide (keyL P' D = keyL P D))
def fK (A : List (List Int)) (D : List Int) : HK → Option U := fun a => if A.any (fun P => decide (keyL P D = a.1)) then some (.c (.bool true)) else none
theorem s107 {P D : List Int} {A : List (List Int)} {z : C} {b b2 mb : Nat} {m : M} {Q : V → M → Prop} (hP : P.length = 9) (hS : Small P) (kb : Bk m b 1 [.map mb]) (kb2 : Bk m b2 1 [z]) (hmp : Mp encH m mb (fK A D)) (hz : Li m z D) (hDl : D.length ≤ 1000) (hD : ∀ v ∈ D, 0 ≤ v ∧ v < 9)
    (h : ∀ m', Ext m m' → Q (.c (.bool (!(A.any fun P' => decide (keyL P' D = keyL P D))))) m') : Wc prog tbl 107 [.agg 9 (ints P), .c (.ptr b 0), .c (.ptr b2 0)] m Q := by
  obtain ⟨p0, p1, p2, p3, p4, p5, p6, p7, p8, hPe⟩ := nine hP
  have hk9 := keyL_len P D
  have hkS := keyL_small hP hS hD
  obtain ⟨k0, k1, k2, k3, k4, k5, k6, k7, k8, hke⟩ := nine hk9
  have hQ : ∀ m', Ext m m' → ∀ o, fK A D ⟨keyL P D, hk9, hkS⟩ = o → (o = none → Q (.c (.bool true)) m') ∧ ∀ u, o = some u → ∃ b25 : Bool, u = U.c (.bool b25) ∧ Q (.c (.bool (!b25))) m' := fun m' e o ho => by
    have hq := h m' e
    unfold fK at ho
    cases ha : A.any fun P' => decide (keyL P' D = keyL P D) with
    | true =>
      have ha' : (A.any fun P_1 => decide (keyL P_1 D = (⟨keyL P D, hk9, hkS⟩ : HK).1)) = true := ha
      rw [ha] at hq
      rw [if_pos ha'] at ho
      subst ho
      exact ⟨fun h1 => (by cases h1), fun u hu => ⟨true, (by cases hu; rfl), hq⟩⟩
    | false =>
      have ha' : ¬ (A.any fun P_1 => decide (keyL P_1 D = (⟨keyL P D, hk9, hkS⟩ : HK).1)) = true := by
        have : (A.any fun P_1 => decide (keyL P_1 D = (⟨keyL P D, hk9, hkS⟩ : HK).1)) = false := ha
        rw [this]; decide
      rw [ha] at hq
      rw [if_neg ha'] at ho
      subst ho
      exact ⟨fun _ => hq, fun u hu => (by cases hu)⟩
  have hs105 := fun (mm : M) (e : Ext m mm) (Q' : V → M → Prop) (hh : ∀ m', Ext mm m' → Q' (.agg 9 (ints (keyL P D))) m') => s105 (Q := Q') hP (hz.ext e) hDl hD hh
  rw [hPe] at hs105
  rw [hPe]
  refine w107 p0 p1 p2 p3 p4 p5 p6 p7 p8 b b2 fun m0 e0 => ?_
  obtain ⟨b0, x0⟩ := Bk.new e0
  refine ⟨_, (kb.ext x0).rc rfl, p0, p1, p2, p3, p4, p5, p6, p7, p8, b0.ra, z, (kb2.ext x0).rc rfl, hs105 m0 x0 _ fun m13 e13 => ?_⟩
  rw [show keyL [p0, p1, p2, p3, p4, p5, p6, p7, p8] D = [k0, k1, k2, k3, k4, k5, k6, k7, k8] by rw [← hPe]; exact hke]
  have x13 := x0.trans e13
  obtain ⟨q1, q2⟩ := hQ m13 x13 _ rfl
  refine ⟨k0, k1, k2, k3, k4, k5, k6, k7, k8, rfl, (kb.ext x13).rc rfl, fK A D ⟨keyL P D, hk9, hkS⟩, (hmp.ext x13).lk keyH ⟨keyL P D, hk9, hkS⟩ ?_, q1, q2⟩
  show _ = V.agg 9 (ints (keyL P D))
  rw [hke]; rfl
theorem s90 {A B : List (List Int)} {D : List Int} {c1 c2 z : C} {m : M} {Q : V → M → Prop} (h1 : Lh m c1 A) (h2 : Lh m c2 B) (hA : H9 A) (hB : H9 B) (lA : A.length ≤ 100000) (lB : B.length ≤ 100000) (hz : Li m z D) (hDl : D.length ≤ 1000) (hD : ∀ v ∈ D, 0 ≤ v ∧ v < 9)
    (h : ∀ m', Ext m m' → Q (.c (.bool (decB A B D))) m') : Wc prog tbl 90 [.agg 2 [c1, c2], .c z] m Q := by
  refine w90 fun m0 e0 m1 e1 m2 e2 m3 e3 => ?_
  obtain ⟨b0, x0⟩ := Bk.new e0
  obtain ⟨b1, x1⟩ := Bk.new e1
  obtain ⟨mp2, x2⟩ := Mp.new (enc := encH) e2
  obtain ⟨b3, x3⟩ := Bk.new e3
  have n0 : m0.nxt = m.nxt + 1 := by rw [e0]; rfl
  have n1 : m1.nxt = m.nxt + 2 := by rw [e1]; show m0.nxt + 1 = _; omega
  have n2 : m2.nxt = m.nxt + 3 := by rw [e2]; show m1.nxt + 1 = _; omega
  have n3 : m3.nxt = m.nxt + 4 := by rw [e3]; show m2.nxt + 1 = _; omega
  have x03 := ((x0.trans x1).trans x2).trans x3
  obtain ⟨m4, h4, b4, s4'⟩ := b3.sto [.map m1.nxt]
  have x04 : Ext m m4 := x03.st1 s4' (by omega)
  have k0 := (((b0.ext x1).ext x2).ext x3).keep1 s4' (by omega)
  have k1 := ((b1.ext x2).ext x3).keep1 s4' (by omega)
  have km : Mp encH m4 m1.nxt (fK [] D) := by
    obtain ⟨es, clock, g1, g2⟩ := (mp2.ext x3).ex
    exact ⟨⟨es, clock, (s4'.g _ (by omega)).trans g1, g2⟩, by rw [s4'.nxt]; omega⟩
  have n4 := s4'.nxt
  refine ⟨m4, h4, trivial, c1, k0.rc (k := 0) rfl, h1.isSl, fun R6 hstep => ?_⟩
  have hgo : ∀ (d i : Nat) (m8 : M), d + i = A.length → Ext m m8 → Bk m8 m.nxt 2 [c1, c2] → Bk m8 m0.nxt 1 [z] → Bk m8 m2.nxt 1 [.map m1.nxt] → Mp encH m8 m1.nxt (fK (A.take i) D) → m4.nxt ≤ m8.nxt → R6 [.c (.int .i64 (i : Int))] m8 := by
    intro d
    induction d with
    | zero =>
      intro i m8 hd he k0 k1 k2 km hn
      refine hstep _ _ ?_
      rw [h1.slLen, ifB_dec]
      refine ⟨fun h1 => by omega, fun _ => ⟨trivial, c2, k0.rc (k := 1) rfl, ?_⟩⟩
      rw [List.take_of_length_le (by omega)] at km
      refine s106 (t := fun P => !(A.any fun P' => decide (keyL P' D = keyL P D))) (h2.ext he) hB lB (fun m' P e hP Q' hq => ?_) fun m46 e46 => ⟨_, rfl, h m46 (he.trans e46)⟩
      show Wc prog tbl 107 [.agg 9 (ints P), .c (.ptr m2.nxt 0), .c (.ptr m0.nxt 0)] m' Q'
      exact s107 (hB P hP).1 (hB P hP).2 (k2.ext e) (k1.ext e) (km.ext e) (hz.ext (he.trans e)) hDl hD hq
    | succ d ih =>
      intro i m8 hd he k0 k1 k2 km hn
      refine hstep _ _ ?_
      rw [h1.slLen, ifB_dec]
      refine ⟨fun _ => ?_, fun h1 => absurd (by omega) h1⟩
      have hi : i < A.length := by omega
      have hP := hA _ (List.getElem_mem hi)
      have hTi : A.take (i + 1) = A.take i ++ [A[i]] := by rw [List.take_add_one, List.getElem?_eq_getElem hi]; rfl
      have hrd := Lh.rd (h1.ext he) hA (List.getElem?_eq_getElem hi)
      generalize A[i] = P at hP hTi hrd
      obtain ⟨p0, p1, p2, p3, p4, p5, p6, p7, p8, hPe⟩ := nine hP.1
      have hk9 := keyL_len P D
      have hkS := keyL_small hP.1 hP.2 hD
      obtain ⟨q0, q1, q2, q3, q4, q5, q6, q7, q8, hke⟩ := nine hk9
      have hs105 := fun (mm : M) (e : Ext m mm) (Q' : V → M → Prop) (hh : ∀ m', Ext mm m' → Q' (.agg 9 (ints (keyL P D))) m') => s105 (Q := Q') hP.1 (hz.ext e) hDl hD hh
      rw [hPe] at hrd hs105
      refine ⟨i, rfl, hi, p0, p1, p2, p3, p4, p5, p6, p7, p8, hrd, fun m19 h19 => ?_⟩
      obtain ⟨k19, x19⟩ := Bk.new h19
      obtain ⟨m20, h20, k20, s20'⟩ := k19.sto (ints [p0, p1, p2, p3, p4, p5, p6, p7, p8])
      have x20 : Ext m8 m20 := x19.st1 s20' (Nat.le_refl _)
      have e20 := he.trans x20
      have hpk : keyL [p0, p1, p2, p3, p4, p5, p6, p7, p8] D = [q0, q1, q2, q3, q4, q5, q6, q7, q8] := by rw [← hPe]; exact hke
      refine ⟨m20, h20, _, (k2.ext x20).rc rfl, p0, p1, p2, p3, p4, p5, p6, p7, p8, k20.ra, z, (k1.ext x20).rc rfl, hs105 m20 e20 _ fun m33 e33 => ?_⟩
      rw [hpk]
      have x33 := x20.trans e33
      obtain ⟨o, hup, hmp⟩ := (km.ext x33).up keyH ⟨keyL P D, hk9, hkS⟩ (.c (.bool true)) (k := V.agg 9 (ints [q0, q1, q2, q3, q4, q5, q6, q7, q8])) (by show _ = V.agg 9 (ints (keyL P D)); rw [hke]) (yv := V.c (.bool true)) rfl
      refine ⟨q0, q1, q2, q3, q4, q5, q6, q7, q8, rfl, (k2.ext x33).rc rfl, _, hup, fits_small (by omega) (by omega), ?_⟩
      have hfe : (fun a : HK => if a = ⟨keyL P D, hk9, hkS⟩ then some (U.c (.bool true)) else fK (A.take i) D a) = fK (A.take (i + 1)) D := by
        funext a
        unfold fK
        rw [hTi, List.any_append]
        by_cases ha : a = ⟨keyL P D, hk9, hkS⟩
        · rw [if_pos ha, ha]
          have : ([P].any fun P_1 => decide (keyL P_1 D = keyL P D)) = true := by simp
          show _ = if ((A.take i).any (fun P_1 => decide (keyL P_1 D = keyL P D)) || [P].any fun P_1 => decide (keyL P_1 D = keyL P D)) = true then _ else _
          rw [this, Bool.or_true, if_pos rfl]
        · rw [if_neg ha]
          have : ([P].any fun P_1 => decide (keyL P_1 D = a.1)) = false := by
            have h3 : ¬ keyL P D = a.1 := fun h3 => ha (Subtype.ext h3.symm)
            simp [h3]
          rw [this, Bool.or_false]
      have hmp' : Mp encH (m33.set m1.nxt o) m1.nxt (fK (A.take (i + 1)) D) := by
        obtain ⟨es, clock, g1, g2, g3⟩ := hmp.ex
        refine ⟨⟨es, clock, g1, g2, fun a => (g3 a).trans ?_⟩, hmp.lt⟩
        rw [← hfe]
        by_cases ha : a = ⟨keyL P D, hk9, hkS⟩
        · simp only [ha, if_true]
        · simp only [ha, if_false]
      exact ih (i + 1) _ (by omega) ((he.trans x33).setR (by omega) _) ((k0.ext x33).setNe (by omega) _) ((k1.ext x33).setNe (by omega) _) ((k2.ext x33).setNe (by omega) _) hmp' (by show m4.nxt ≤ m33.nxt; have := x33.nxt; omega)
  exact hgo A.length 0 m4 (by omega) x04 k0 k1 b4 km (Nat.le_refl _)
/-- the fewest places that decide -/
def fewT (c sm : Int) (L : List Int) (N : List Cnt) (n : Int) (D : List Int) : Bool := decB (sideT L n (truthsP c sm L N) true) (sideT L n (truthsP c sm L N) false) D
def fewL (r c sm : Int) (L : List Int) (N : List Cnt) (n : Int) : List Int := if askErr r c L sm N (decide (0 ≤ n ∧ n ≤ 100)) = 0 then shortL L.length (fewT c sm L N n) else []
theorem side_9 {r c sm n : Int} {L : List Int} {N : List Cnt} {b : Bool} (hf : isField r c L = true) : H9 (sideT L n (truthsP c sm L N) b) := fun P hP => by
  obtain ⟨hS, hL9, _⟩ := field_of hf
  obtain ⟨H, h1, rfl⟩ := List.mem_map.1 hP
  have hl := truth_of hf (List.mem_filter.1 h1).1
  have := listed_len hl
  exact ⟨pad_len (by omega), small_pad (small_listed hS hl)⟩
theorem s49 {r c sm n : Int} {x y : C} {L : List Int} {N : List Cnt} {m : M} {Q : V → M → Prop} (hx : Li m x L) (hL : L.length ≤ 1048576) (hy : Lc m y N) (hN : N.length ≤ 1000)
    (h : ∀ z m', Ext m m' → Li m' z (fewL r c sm L N n) → Q (.tup [.c z, .c (.int .i64 (askErr r c L sm N (decide (0 ≤ n ∧ n ≤ 100))))]) m') :
    Wc prog tbl 49 [.agg 5 [.int .i64 r, .int .i64 c, x, .int .i64 sm, y], .c (.int .i64 n)] m Q := by
  refine w49 fun m0 e0 => ?_
  obtain ⟨b0, x0⟩ := Bk.new e0
  refine ⟨r, c, x, sm, y, b0.ra, s83 (inr := decide (0 ≤ n ∧ n ≤ 100)) (hx.ext x0) hL (hy.ext x0) hN (fun _ m' _ Q' hq' => ?_) (fun hne m7 e7 => ⟨0, 0, .sl0, 0, .sl0, .map0, _, rfl, fun m15 h15 => ?_⟩) fun hz m7 mb f e7 hw => ⟨r, c, x, sm, y, .map mb, 0, rfl, fun m15 h15 => ?_⟩⟩
  · show Wc prog tbl 86 [.c (.int .i64 n)] m' Q'
    exact s86 hq'
  · obtain ⟨b15, x15⟩ := Bk.new h15
    obtain ⟨m16, h16, _, s16'⟩ := b15.sto [.int .i64 0, .int .i64 0, .sl0, .int .i64 0, .sl0, .map0]
    refine ⟨m16, h16, ?_⟩
    rw [ifB_ndec]
    refine ⟨fun _ => h _ _ ((x0.trans e7).trans (x15.st1 s16' (Nat.le_refl _))) ?_, fun h1 => absurd h1 hne⟩
    unfold fewL
    rw [if_neg hne]
    exact Ls.nil m16 1
  · obtain ⟨b15, x15⟩ := Bk.new h15
    obtain ⟨m16, h16, k16, s16'⟩ := b15.sto [.int .i64 r, .int .i64 c, x, .int .i64 sm, y, .map mb]
    have e16 : Ext m7 m16 := x15.st1 s16' (Nat.le_refl _)
    refine ⟨m16, h16, ?_⟩
    obtain ⟨hin, ht⟩ := ask_zero hz
    obtain ⟨hv, hpos⟩ := true_sv ht
    obtain ⟨hO, _⟩ := okay_of hv
    obtain ⟨hS, hL9, hrc⟩ := field_of hO.f
    have hsd := sides_of hO.f
    have hm := hsd.mul
    have x16 := (x0.trans e7).trans e16
    have hle := truths_len hv
    rw [ifB_ndec]
    refine ⟨fun h1 => absurd rfl h1, fun _ => ⟨trivial, trivial, r, c, x, k16.rp (k := 0) (j := 3) rfl (by omega), s88 (by have := hsd.r1; omega) (by have := hsd.c1; omega) (fits_small (by omega) (by omega)) fun m21 e21 => ⟨_, rfl, r, c, x, sm, y, .map mb, (k16.ext e21).ra, ?_, ?_⟩⟩⟩
    · have : allS noFnC [.int .i64 r, .int .i64 c, x, .int .i64 sm, y, .map mb] = true := by
        show ifB true (ifB true (ifB (noFnC x) (ifB true (ifB (noFnC y) (ifB true true false) false) false) false) false) false = true
        rw [hx.noFn, hy.noFn]; rfl
      rw [this]; exact k16.ra
    refine s89 ((hw.ext e16).ext e21) (hx.ext (x16.trans e21)) hO.f (by omega) fun c1 c2 m30 e30 l1 l2 => ⟨c1, c2, rfl, ?_⟩
    obtain ⟨d1, hd1, hd1'⟩ := keepC l1
    obtain ⟨d2, hd2, hd2'⟩ := keepC l2
    have hvw : mapO vW [V.agg 2 [c1, c2]] = some [.agg 2 [d1, d2]] := by
      show optB (optB (optB (cC0 c1) none fun a => optB (optB (cC0 c2) none fun b => some [b]) none fun l => some (a :: l)) none fun xs => some (W.agg 2 xs)) none (fun w => some [w]) = _
      rw [hd1, hd2]; rfl
    rw [hvw, optB_some, ← hrc]
    have x30 := (x16.trans e21).trans e30
    refine s87 (t := fewT c sm L N n) (by omega) (fun m' z D e hzD hD Q' hq => ?_) fun z m35 e35 hzz => ⟨z, rfl, ?_⟩
    · have hi := mem_allL.1 hD
      have hl := inc_len hi
      show Wc prog tbl 90 [.agg 2 [c0C d1, c0C d2], .c z] m' Q'
      rw [hd1', hd2']
      have l3 := sideT_len L n (truthsP c sm L N) true
      have l4 := sideT_len L n (truthsP c sm L N) false
      exact s90 (l1.ext e) (l2.ext e) (side_9 hO.f) (side_9 hO.f) (by omega) (by omega) hzD (by omega) (fun v hv => by have := hi.2 v hv; omega) hq
    · have hq := h z m35 (x30.trans e35) (by unfold fewL; rw [if_pos hz]; exact hzz)
      rw [hz] at hq
      exact hq
/-- the places decide if no two truths on both sides agree there -/
theorem few_iff {r c sm n : Int} {L D : List Int} {N : List Cnt} (hv : svErr r c L sm N = 0) (hD : Inc L.length 0 D) : fewT c sm L N n D = true ↔ ∀ H H', TruthR c sm L N H → TruthR c sm L N H' → n ≤ shareOf L H → shareOf L H' < n → ¬ ∀ v ∈ D, H[v.toNat]! = H'[v.toNat]! := by
  obtain ⟨hO, hsm⟩ := okay_of hv
  obtain ⟨hS, hL9, hrc⟩ := field_of hO.f
  have hD9 : ∀ v ∈ D, 0 ≤ v ∧ v < 9 := fun v hv' => by have := hD.2 v hv'; omega
  have hpg : ∀ {H : List Int}, TruthR c sm L N H → ∀ v ∈ D, (pad H)[v.toNat]! = H[v.toNat]! := fun {H} hT v hv' => by
    have hlen := listed_len hT.1
    have h1 := hD.2 v hv'
    have := at_pad (H := H) (by omega) (k := v.toNat) (by omega)
    exact this
  have hp9 : ∀ {H : List Int}, TruthR c sm L N H → (pad H).length = 9 := fun hT => pad_len (by have := listed_len hT.1; omega)
  unfold fewT decB
  rw [List.all_eq_true]
  constructor
  · intro h H H' hT hT' h1 h2 h3
    have hm' : pad H' ∈ sideT L n (truthsP c sm L N) false := List.mem_map.2 ⟨H', List.mem_filter.2 ⟨(mem_P hv).2 hT', by rw [decide_eq_false (by omega)]; rfl⟩, rfl⟩
    have h4 := h _ hm'
    have h5 : ((sideT L n (truthsP c sm L N) true).any fun P' => decide (keyL P' D = keyL (pad H') D)) = true := by
      refine List.any_eq_true.2 ⟨pad H, List.mem_map.2 ⟨H, List.mem_filter.2 ⟨(mem_P hv).2 hT, by rw [decide_eq_true h1]; rfl⟩, rfl⟩, decide_eq_true ?_⟩
      rw [keyL_eq (hp9 hT) (hp9 hT') hD9]
      intro v hv'
      rw [hpg hT v hv', hpg hT' v hv']; exact h3 v hv'
    rw [h5] at h4; cases h4
  · intro h P hP
    obtain ⟨H', h1, rfl⟩ := List.mem_map.1 hP
    obtain ⟨h2, h3⟩ := List.mem_filter.1 h1
    have hT' := (mem_P hv).1 h2
    cases ha : (sideT L n (truthsP c sm L N) true).any fun P' => decide (keyL P' D = keyL (pad H') D) with
    | false => rfl
    | true =>
      obtain ⟨P', h4, h5⟩ := List.any_eq_true.1 ha
      obtain ⟨H, h6, rfl⟩ := List.mem_map.1 h4
      obtain ⟨h7, h8⟩ := List.mem_filter.1 h6
      have hT := (mem_P hv).1 h7
      have h9 := of_decide_eq_true h5
      rw [keyL_eq (hp9 hT) (hp9 hT') hD9] at h9
      refine absurd (fun v hv' => ?_) (h H H' hT hT' (by simpa using h8) (by simpa using h3))
      have := h9 v hv'
      rw [hpg hT v hv', hpg hT' v hv'] at this
      exact this
theorem all_inc (n : Nat) : Inc n 0 ((List.range n).map fun j => ((j : Nat) : Int)) := by
  refine ⟨?_, fun v hv => ?_⟩
  · rw [List.pairwise_map]
    exact List.pairwise_lt_range.imp fun h => by omega
  · obtain ⟨j, h1, rfl⟩ := List.mem_map.1 hv
    have := List.mem_range.1 h1
    omega
/-- the fewest places: what they are -/
theorem few_spec {r c sm n : Int} {L : List Int} {N : List Cnt} (ht : trueErr r c L sm N = 0) (hn : 0 ≤ n ∧ n ≤ 100) : Inc L.length 0 (fewL r c sm L N n) ∧ fewT c sm L N n (fewL r c sm L N n) = true ∧ ∀ D, Inc L.length 0 D → fewT c sm L N n D = true → D = fewL r c sm L N n ∨ shB (fewL r c sm L N n) D = true := by
  obtain ⟨hv, hpos⟩ := true_sv ht
  have hask : askErr r c L sm N (decide (0 ≤ n ∧ n ≤ 100)) = 0 := by unfold askErr; rw [if_pos hv, decide_eq_true hn]; exact ht
  have hfull : fewT c sm L N n ((List.range L.length).map fun j => ((j : Nat) : Int)) = true := by
    rw [few_iff hv (all_inc _)]
    intro H H' hT hT' h1 h2 h3
    have hl := listed_len hT.1
    have hl' := listed_len hT'.1
    have : H = H' := List.ext_getElem (by omega) fun j hj hj' => by
      have := h3 (j : Int) (List.mem_map.2 ⟨j, List.mem_range.2 (by omega), rfl⟩)
      rw [Int.toNat_natCast, getElem!_pos H j hj, getElem!_pos H' j hj'] at this
      exact this
    rw [this] at h1; omega
  unfold fewL
  rw [if_pos hask]
  exact shortL_spec ⟨_, all_inc _, hfull⟩
end
end Go.Proofs.Ytgkjfhkjgdiodaa

namespace Go.Proofs.Ytgkjfhkjgdiodaa
open _root_.Go.Proofs.Try
open Go.Abs
set_option maxRecDepth 100000
noncomputable section
theorem w12 {a100 : Int} {a101 : Int} {a102 : C} {a103 : Int} {a104 : C} {a200 : Int} {a201 : Int} {a202 : Int} {a203 : Bool} {a300 : Int} {a400 : Int} {m : M} {Q : V → M → Prop} (h :
 (∀ m0 : M, ((m0 = (M.new m (AO.cells 5 [(C.int .i64 a100), (C.int .i64 a101), a102, (C.int .i64 a103), 
 a104] false))) → (∀ m1 : M, ((m1 = (M.new m0 (AO.cells 4 [(C.int .i64 a200), (C.int .i64 a201), 
 (C.int .i64 a202), (C.bool a203)] false))) → (∃ x2 : Int, (∃ x3 : Int, (∃ c4 : C, (∃ x5 : Int, 
 (∃ c6 : C, (((ldA m1 (C.ptr m.nxt 0) 5) = (some [(C.int .i64 x2), (C.int .i64 x3), 
 c4, (C.int .i64 x5), c6])) ∧ (∀ m7 : M, ((m7 = (M.new m1 (AO.cells 5 [(C.int .i64 (0 : Int)), 
 (C.int .i64 (0 : Int)), C.sl0, (C.int .i64 (0 : Int)), C.sl0] false))) → (∃ m8 : M, 
 (((stC m7 (C.ptr m1.nxt 0) 5 [(C.int .i64 x2), (C.int .i64 x3), c4, (C.int .i64 x5), 
 c6]) = (some m8)) ∧ (∀ m9 : M, ((m9 = (mGrow m8 1)) → (∀ m10 : M, ((m10 = (M.new m9 (AO.cells 0 [] false))) → 
 (isPt (C.ptr m.nxt 0) ∧ (∃ c11 : C, (((ldC m10 (C.ptr m.nxt 4)) = (some c11)) ∧ 
 ((ifB (noFnC c11) ((ldC m9 (C.ptr m.nxt 4)) = (some c11)) False) ∧ (∃ c12 : C, 
 (∃ m13 : M, ((ApR prog 27 m10 (C.sl m9.nxt 0 0 0 (some 0)) c11 c12 m13) ∧ (∃ x14 : Int, 
 (∃ x15 : Int, (∃ x16 : Int, (∃ b17 : Bool, (((ldA m13 (C.ptr m0.nxt 0) 4) = (some [(C.int .i64 x14), 
 (C.int .i64 x15), (C.int .i64 x16), (C.bool b17)])) ∧ (((ldA m10 (C.ptr m0.nxt 0) 4) = (some [(C.int .i64 x14), 
 (C.int .i64 x15), (C.int .i64 x16), (C.bool b17)])) ∧ (((ldA m9 (C.ptr m0.nxt 0) 4) = (some [(C.int .i64 x14), 
 (C.int .i64 x15), (C.int .i64 x16), (C.bool b17)])) ∧ (∀ m18 : M, 
 ((m18 = (M.set m13 (m8.nxt + 0) (AO.cells 4 [(C.int .i64 x14), (C.int .i64 x15), 
 (C.int .i64 x16), (C.bool b17)] false))) → ((ifB (noFnC c11) ((ldC m18 (C.ptr m.nxt 4)) = (some c11)) False) ∧ 
 (∃ c19 : C, (∃ m20 : M, ((ApR prog 27 m18 c12 (C.sl (m8.nxt + 0) 0 1 0 (some 1)) c19 m20) ∧ 
 (isPt (C.ptr m1.nxt 0) ∧ (∃ m21 : M, (((stC m20 (C.ptr m1.nxt 4) 1 [c19]) = (some m21)) ∧ 
 (∃ x22 : Int, (∃ x23 : Int, (∃ c24 : C, (∃ x25 : Int, (∃ c26 : C, (((ldA m21 (C.ptr m.nxt 0) 5) = (some [(C.int .i64 x22), 
 (C.int .i64 x23), c24, (C.int .i64 x25), c26])) ∧ (Wc prog tbl 58 [(V.agg 5 [(C.int .i64 x22), 
 (C.int .i64 x23), c24, (C.int .i64 x25), c26])] m21 (fun v27 m28 => 
 (∃ b29 : Bool, ((v27 = (V.c (C.bool b29))) ∧ (ifB (!b29) (Wc prog tbl 20 [] m28 (fun v30 m31 => 
 (∃ b32 : Bool, ((v30 = (V.c (C.bool b32))) ∧ (Q (V.c (C.bool b32)) m31))))) (∃ x33 : Int, 
 (∃ x34 : Int, (∃ c35 : C, (∃ x36 : Int, (∃ c37 : C, (((ldA m28 (C.ptr m1.nxt 0) 5) = (some [(C.int .i64 x33), 
 (C.int .i64 x34), c35, (C.int .i64 x36), c37])) ∧ (Wc prog tbl 58 [(V.agg 5 [(C.int .i64 x33), 
 (C.int .i64 x34), c35, (C.int .i64 x36), c37])] m28 (fun v38 m39 => 
 (∃ b40 : Bool, ((v38 = (V.c (C.bool b40))) ∧ (ifB (!b40) (Wc prog tbl 20 [] m39 (fun v41 m42 => 
 (∃ b43 : Bool, ((v41 = (V.c (C.bool b43))) ∧ (Q (V.c (C.bool b43)) m42))))) (∃ x44 : Int, 
 (∃ x45 : Int, (∃ c46 : C, (∃ x47 : Int, (∃ c48 : C, (((ldA m39 (C.ptr m.nxt 0) 5) = (some [(C.int .i64 x44), 
 (C.int .i64 x45), c46, (C.int .i64 x47), c48])) ∧ (Wc prog tbl 33 [(V.agg 5 [(C.int .i64 x44), 
 (C.int .i64 x45), c46, (C.int .i64 x47), c48])] m39 (fun v49 m50 => 
 (∃ x51 : Int, (∃ x52 : Int, (∃ c53 : C, (∃ x54 : Int, (∃ c55 : C, ((v49 = (V.agg 5 [(C.int .i64 x51), 
 (C.int .i64 x52), c53, (C.int .i64 x54), c55])) ∧ (Wc prog tbl 52 [(V.agg 5 [(C.int .i64 x51), 
 (C.int .i64 x52), c53, (C.int .i64 x54), c55])] m50 (fun v56 m57 => 
 (∃ c58 : C, (∃ x59 : Int, ((v56 = (V.tup [(U.c c58), (U.c (C.int .i64 x59))])) ∧ 
 (∃ x60 : Int, (∃ x61 : Int, (∃ c62 : C, (∃ x63 : Int, (∃ c64 : C, (((ldA m57 (C.ptr m1.nxt 0) 5) = (some [(C.int .i64 x60), 
 (C.int .i64 x61), c62, (C.int .i64 x63), c64])) ∧ (Wc prog tbl 33 [(V.agg 5 [(C.int .i64 x60), 
 (C.int .i64 x61), c62, (C.int .i64 x63), c64])] m57 (fun v65 m66 => 
 (∃ x67 : Int, (∃ x68 : Int, (∃ c69 : C, (∃ x70 : Int, (∃ c71 : C, ((v65 = (V.agg 5 [(C.int .i64 x67), 
 (C.int .i64 x68), c69, (C.int .i64 x70), c71])) ∧ (Wc prog tbl 52 [(V.agg 5 [(C.int .i64 x67), 
 (C.int .i64 x68), c69, (C.int .i64 x70), c71])] m66 (fun v72 m73 => 
 (∃ c74 : C, (∃ x75 : Int, ((v72 = (V.tup [(U.c c74), (U.c (C.int .i64 x75))])) ∧ 
 (ifB (!decide (x59 = (0 : Int))) (Q (V.c (C.bool false)) m73) (ifB (!decide (x75 = (0 : Int))) (Q (V.c (C.bool false)) m73) (isSl c74 ∧ 
 (isSl c58 ∧ (ifB (decide ((((slLen c74) : Nat) : Int) < (((slLen c58) : Nat) : Int))) (Q (V.c (C.bool false)) m73) (isSl c74 ∧ 
 (isSl c58 ∧ (fitsP .i64 ((((slLen c58) : Nat) : Int) + (1 : Int)) ∧ (ifB (decide (((((slLen c58) : Nat) : Int) + (1 : Int)) < (((slLen c74) : Nat) : Int))) (Q (V.c (C.bool false)) m73) (∃ x76 : Int, 
 (∃ x77 : Int, (∃ c78 : C, (∃ x79 : Int, (∃ c80 : C, (((ldA m73 (C.ptr m1.nxt 0) 5) = (some [(C.int .i64 x76), 
 (C.int .i64 x77), c78, (C.int .i64 x79), c80])) ∧ (Wc prog tbl 62 [(V.agg 5 [(C.int .i64 x76), 
 (C.int .i64 x77), c78, (C.int .i64 x79), c80])] m73 (fun v81 m82 => 
 (∃ b83 : Bool, ((v81 = (V.c (C.bool b83))) ∧ (ifB (!b83) (Wc prog tbl 20 [] m82 (fun v84 m85 => 
 (∃ b86 : Bool, ((v84 = (V.c (C.bool b86))) ∧ (Q (V.c (C.bool b86)) m85))))) (((0 : Int) ≤ (wrapZ .i64 a300)) ∧ 
 (((0 : Int) < (101 : Int)) ∧ (fitsP .i64 ((wrapZ .i64 a300) % (101 : Int)) ∧ 
 (isPt (C.ptr m.nxt 0) ∧ (isPt (C.ptr m.nxt 0) ∧ (∃ c87 : C, (((ldC m82 (C.ptr m.nxt 2)) = (some c87)) ∧ 
 (isSl c87 ∧ (((0 : Int) ≤ (wrapZ .i64 a400)) ∧ (((0 : Int) < (((slLen c87) : Nat) : Int)) ∧ 
 (fitsP .i64 ((wrapZ .i64 a400) % (((slLen c87) : Nat) : Int)) ∧ 
 (∃ x88 : Int, (∃ x89 : Int, (∃ c90 : C, (∃ x91 : Int, (∃ c92 : C, (((ldA m82 (C.ptr m.nxt 0) 5) = (some [(C.int .i64 x88), 
 (C.int .i64 x89), c90, (C.int .i64 x91), c92])) ∧ (Wc prog tbl 33 [(V.agg 5 [(C.int .i64 x88), 
 (C.int .i64 x89), c90, (C.int .i64 x91), c92])] m82 (fun v93 m94 => 
 (∃ x95 : Int, (∃ x96 : Int, (∃ c97 : C, (∃ x98 : Int, (∃ c99 : C, ((v93 = (V.agg 5 [(C.int .i64 x95), 
 (C.int .i64 x96), c97, (C.int .i64 x98), c99])) ∧ (Wc prog tbl 41 [(V.agg 5 [(C.int .i64 x95), 
 (C.int .i64 x96), c97, (C.int .i64 x98), c99])] m94 (fun v100 m101 => 
 (∃ x102 : Int, (∃ x103 : Int, (∃ x104 : Int, ((v100 = (V.tup [(U.agg 2 [(C.int .i64 x102), 
 (C.int .i64 x103)]), (U.c (C.int .i64 x104))])) ∧ (∀ m105 : M, 
 ((m105 = (M.new m101 (AO.cells 2 [(C.int .i64 (0 : Int)), (C.int .i64 (0 : Int))] false))) → 
 (∃ m106 : M, (((stC m105 (C.ptr m101.nxt 0) 2 [(C.int .i64 x102), (C.int .i64 x103)]) = (some m106)) ∧ 
 (∃ x107 : Int, (∃ x108 : Int, (∃ c109 : C, (∃ x110 : Int, (∃ c111 : C, (((ldA m106 (C.ptr m1.nxt 0) 5) = (some [(C.int .i64 x107), 
 (C.int .i64 x108), c109, (C.int .i64 x110), c111])) ∧ (Wc prog tbl 33 [(V.agg 5 [(C.int .i64 x107), 
 (C.int .i64 x108), c109, (C.int .i64 x110), c111])] m106 (fun v112 m113 => 
 (∃ x114 : Int, (∃ x115 : Int, (∃ c116 : C, (∃ x117 : Int, (∃ c118 : C, ((v112 = (V.agg 5 [(C.int .i64 x114), 
 (C.int .i64 x115), c116, (C.int .i64 x117), c118])) ∧ (Wc prog tbl 41 [(V.agg 5 [(C.int .i64 x114), 
 (C.int .i64 x115), c116, (C.int .i64 x117), c118])] m113 (fun v119 m120 => 
 (∃ x121 : Int, (∃ x122 : Int, (∃ x123 : Int, ((v119 = (V.tup [(U.agg 2 [(C.int .i64 x121), 
 (C.int .i64 x122)]), (U.c (C.int .i64 x123))])) ∧ (∀ m124 : M, 
 ((m124 = (M.new m120 (AO.cells 2 [(C.int .i64 (0 : Int)), (C.int .i64 (0 : Int))] false))) → 
 (∃ m125 : M, (((stC m124 (C.ptr m120.nxt 0) 2 [(C.int .i64 x121), (C.int .i64 x122)]) = (some m125)) ∧ 
 (∃ x126 : Int, (∃ x127 : Int, (∃ c128 : C, (∃ x129 : Int, (∃ c130 : C, (((ldA m125 (C.ptr m.nxt 0) 5) = (some [(C.int .i64 x126), 
 (C.int .i64 x127), c128, (C.int .i64 x129), c130])) ∧ (Wc prog tbl 33 [(V.agg 5 [(C.int .i64 x126), 
 (C.int .i64 x127), c128, (C.int .i64 x129), c130])] m125 (fun v131 m132 => 
 (∃ x133 : Int, (∃ x134 : Int, (∃ c135 : C, (∃ x136 : Int, (∃ c137 : C, ((v131 = (V.agg 5 [(C.int .i64 x133), 
 (C.int .i64 x134), c135, (C.int .i64 x136), c137])) ∧ (Wc prog tbl 42 [(V.agg 5 [(C.int .i64 x133), 
 (C.int .i64 x134), c135, (C.int .i64 x136), c137]), (V.c (C.int .i64 ((wrapZ .i64 a400) % (((slLen c87) : Nat) : Int))))] m132 (fun v138 m139 => 
 (∃ x140 : Int, (∃ x141 : Int, (∃ x142 : Int, ((v138 = (V.tup [(U.agg 2 [(C.int .i64 x140), 
 (C.int .i64 x141)]), (U.c (C.int .i64 x142))])) ∧ (∀ m143 : M, 
 ((m143 = (M.new m139 (AO.cells 2 [(C.int .i64 (0 : Int)), (C.int .i64 (0 : Int))] false))) → 
 (∃ m144 : M, (((stC m143 (C.ptr m139.nxt 0) 2 [(C.int .i64 x140), (C.int .i64 x141)]) = (some m144)) ∧ 
 (∃ x145 : Int, (∃ x146 : Int, (∃ c147 : C, (∃ x148 : Int, (∃ c149 : C, (((ldA m144 (C.ptr m1.nxt 0) 5) = (some [(C.int .i64 x145), 
 (C.int .i64 x146), c147, (C.int .i64 x148), c149])) ∧ (Wc prog tbl 33 [(V.agg 5 [(C.int .i64 x145), 
 (C.int .i64 x146), c147, (C.int .i64 x148), c149])] m144 (fun v150 m151 => 
 (∃ x152 : Int, (∃ x153 : Int, (∃ c154 : C, (∃ x155 : Int, (∃ c156 : C, ((v150 = (V.agg 5 [(C.int .i64 x152), 
 (C.int .i64 x153), c154, (C.int .i64 x155), c156])) ∧ (Wc prog tbl 42 [(V.agg 5 [(C.int .i64 x152), 
 (C.int .i64 x153), c154, (C.int .i64 x155), c156]), (V.c (C.int .i64 ((wrapZ .i64 a400) % (((slLen c87) : Nat) : Int))))] m151 (fun v157 m158 => 
 (∃ x159 : Int, (∃ x160 : Int, (∃ x161 : Int, ((v157 = (V.tup [(U.agg 2 [(C.int .i64 x159), 
 (C.int .i64 x160)]), (U.c (C.int .i64 x161))])) ∧ (∀ m162 : M, 
 ((m162 = (M.new m158 (AO.cells 2 [(C.int .i64 (0 : Int)), (C.int .i64 (0 : Int))] false))) → 
 (∃ m163 : M, (((stC m162 (C.ptr m158.nxt 0) 2 [(C.int .i64 x159), (C.int .i64 x160)]) = (some m163)) ∧ 
 (∃ x164 : Int, (∃ x165 : Int, (∃ c166 : C, (∃ x167 : Int, (∃ c168 : C, (((ldA m163 (C.ptr m.nxt 0) 5) = (some [(C.int .i64 x164), 
 (C.int .i64 x165), c166, (C.int .i64 x167), c168])) ∧ (Wc prog tbl 33 [(V.agg 5 [(C.int .i64 x164), 
 (C.int .i64 x165), c166, (C.int .i64 x167), c168])] m163 (fun v169 m170 => 
 (∃ x171 : Int, (∃ x172 : Int, (∃ c173 : C, (∃ x174 : Int, (∃ c175 : C, ((v169 = (V.agg 5 [(C.int .i64 x171), 
 (C.int .i64 x172), c173, (C.int .i64 x174), c175])) ∧ (Wc prog tbl 49 [(V.agg 5 [(C.int .i64 x171), 
 (C.int .i64 x172), c173, (C.int .i64 x174), c175]), (V.c (C.int .i64 ((wrapZ .i64 a300) % (101 : Int))))] m170 (fun v176 m177 => 
 (∃ c178 : C, (∃ x179 : Int, ((v176 = (V.tup [(U.c c178), (U.c (C.int .i64 x179))])) ∧ 
 (∃ x180 : Int, (∃ x181 : Int, (∃ c182 : C, (∃ x183 : Int, (∃ c184 : C, (((ldA m177 (C.ptr m1.nxt 0) 5) = (some [(C.int .i64 x180), 
 (C.int .i64 x181), c182, (C.int .i64 x183), c184])) ∧ (Wc prog tbl 33 [(V.agg 5 [(C.int .i64 x180), 
 (C.int .i64 x181), c182, (C.int .i64 x183), c184])] m177 (fun v185 m186 => 
 (∃ x187 : Int, (∃ x188 : Int, (∃ c189 : C, (∃ x190 : Int, (∃ c191 : C, ((v185 = (V.agg 5 [(C.int .i64 x187), 
 (C.int .i64 x188), c189, (C.int .i64 x190), c191])) ∧ (Wc prog tbl 49 [(V.agg 5 [(C.int .i64 x187), 
 (C.int .i64 x188), c189, (C.int .i64 x190), c191]), (V.c (C.int .i64 ((wrapZ .i64 a300) % (101 : Int))))] m186 (fun v192 m193 => 
 (∃ c194 : C, (∃ x195 : Int, ((v192 = (V.tup [(U.c c194), (U.c (C.int .i64 x195))])) ∧ 
 (ifB (decide (x104 = (0 : Int))) (ifB (decide (x123 = (0 : Int))) (ifB (decide (x142 = (0 : Int))) (ifB (decide (x161 = (0 : Int))) (ifB (decide (x179 = (0 : Int))) (ifB (decide (x195 = (0 : Int))) (isPt (C.ptr m120.nxt 0) ∧ 
 (∃ x196 : Int, (((ldC m193 (C.ptr m120.nxt 0)) = (some (C.int .i64 x196))) ∧ 
 (isPt (C.ptr m101.nxt 0) ∧ (∃ x197 : Int, (((ldC m193 (C.ptr m101.nxt 0)) = (some (C.int .i64 x197))) ∧ 
 (ifB (decide (x197 ≤ x196)) (isPt (C.ptr m120.nxt 0) ∧ (∃ x198 : Int, (((ldC m193 (C.ptr m120.nxt 1)) = (some (C.int .i64 x198))) ∧ 
 (isPt (C.ptr m101.nxt 0) ∧ (∃ x199 : Int, (((ldC m193 (C.ptr m101.nxt 1)) = (some (C.int .i64 x199))) ∧ 
 (ifB (decide (x198 ≤ x199)) (isPt (C.ptr m158.nxt 0) ∧ (∃ x200 : Int, (((ldC m193 (C.ptr m158.nxt 0)) = (some (C.int .i64 x200))) ∧ 
 (isPt (C.ptr m139.nxt 0) ∧ (∃ x201 : Int, (((ldC m193 (C.ptr m139.nxt 0)) = (some (C.int .i64 x201))) ∧ 
 (ifB (decide (x201 ≤ x200)) (isPt (C.ptr m158.nxt 0) ∧ (∃ x202 : Int, (((ldC m193 (C.ptr m158.nxt 1)) = (some (C.int .i64 x202))) ∧ 
 (isPt (C.ptr m139.nxt 0) ∧ (∃ x203 : Int, (((ldC m193 (C.ptr m139.nxt 1)) = (some (C.int .i64 x203))) ∧ 
 (ifB (decide (x202 ≤ x203)) (isSl c194 ∧ (isSl c178 ∧ (ifB (decide ((((slLen c194) : Nat) : Int) ≤ (((slLen c178) : Nat) : Int))) (Wc prog tbl 20 [] m193 (fun v204 m205 => 
 (∃ b206 : Bool, ((v204 = (V.c (C.bool b206))) ∧ (Q (V.c (C.bool b206)) m205))))) (Q (V.c (C.bool false)) m193)))) (Q (V.c (C.bool false)) m193)))))))) (Q (V.c (C.bool false)) m193)))))))) (Q (V.c (C.bool false)) m193)))))))) (Q (V.c (C.bool false)) m193)))))))) (Q (V.c (C.bool false)) m193)) (Q (V.c (C.bool false)) m193)) (Q (V.c (C.bool false)) m193)) (Q (V.c (C.bool false)) m193)) (Q (V.c (C.bool false)) m193)) (Q (V.c (C.bool false)) m193))))))))))))))))))))))))))))))))))))))))))))))))))))))))))))))))))))))))))))))))))))))))))))))))))))))))))))))))))))))))))))))))))))))))))))))))))))))))))))))))))))))))))))))))))))))))))))))))))))))))))))))))))))))))))))))))))))))))))))))))))))))))))))))))))))))))))))) : Wc prog tbl 12 [(V.agg 5 [(C.int .i64 a100), (C.int .i64 a101), a102, (C.int .i64 a103), a104]), (V.agg 4 [(C.int .i64 a200), (C.int .i64 a201), (C.int .i64 a202), (C.bool a203)]), (V.c (C.int .u8 a300)), (V.c (C.int .u8 a400))] m Q :=
 wc_eq (n := 4) rfl (by kernel_rfl) (by kernel_rfl) h
end
end Go.Proofs.Ytgkjfhkjgdiodaa

namespace Go.Proofs.Ytgkjfhkjgdiodaa
open _root_.Go.Proofs.Try
open Go.Abs
set_option maxRecDepth 100000
noncomputable section
theorem wrap_sm {n : Int} (h0 : 0 ≤ n) (h1 : n ≤ 1000000) : wrapZ .i64 n = n := by
  unfold wrapZ
  rw [Go.Abs.fits_of (k := .i64) (n := n) (by simp only [fitsP]; omega)]; rfl
end
end Go.Proofs.Ytgkjfhkjgdiodaa

namespace Go.Proofs.Ytgkjfhkjgdiodaa
open _root_.Go.Proofs.Try
open Go.Abs
set_option maxRecDepth 100000
noncomputable section
theorem w18 {a100 : Int} {a101 : Int} {a102 : C} {a103 : Int} {a104 : C} {a200 : Int} {m : M} {Q : V → M → Prop} (h :
 (∀ m0 : M, ((m0 = (M.new m (AO.cells 5 [(C.int .i64 a100), (C.int .i64 a101), a102, (C.int .i64 a103), 
 a104] false))) → (∃ x1 : Int, (∃ x2 : Int, (∃ c3 : C, (∃ x4 : Int, (∃ c5 : C, (((ldA m0 (C.ptr m.nxt 0) 5) = (some [(C.int .i64 x1), 
 (C.int .i64 x2), c3, (C.int .i64 x4), c5])) ∧ (Wc prog tbl 58 [(V.agg 5 [(C.int .i64 x1), 
 (C.int .i64 x2), c3, (C.int .i64 x4), c5])] m0 (fun v6 m7 => (∃ b8 : Bool, ((v6 = (V.c (C.bool b8))) ∧ 
 (ifB (!b8) (Wc prog tbl 20 [] m7 (fun v9 m10 => (∃ b11 : Bool, ((v9 = (V.c (C.bool b11))) ∧ (Q (V.c (C.bool b11)) m10))))) (isPt (C.ptr m.nxt 0) ∧ 
 (∃ c12 : C, (((ldC m7 (C.ptr m.nxt 4)) = (some c12)) ∧ (isSl c12 ∧ (ifB (decide ((((slLen c12) : Nat) : Int) = (0 : Int))) (Wc prog tbl 20 [] m7 (fun v13 m14 => 
 (∃ b15 : Bool, ((v13 = (V.c (C.bool b15))) ∧ (Q (V.c (C.bool b15)) m14))))) (isPt (C.ptr m.nxt 0) ∧ 
 (∃ c16 : C, (((ldC m7 (C.ptr m.nxt 4)) = (some c16)) ∧ (isSl c16 ∧ (((0 : Int) ≤ (wrapZ .i64 a200)) ∧ 
 (((0 : Int) < (((slLen c16) : Nat) : Int)) ∧ (fitsP .i64 ((wrapZ .i64 a200) % (((slLen c16) : Nat) : Int)) ∧ 
 (∀ m17 : M, ((m17 = (mGrow m7 2)) → (∃ x18 : Int, (∃ x19 : Int, (∃ c20 : C, (∃ x21 : Int, 
 (∃ c22 : C, (((ldA m17 (C.ptr m.nxt 0) 5) = (some [(C.int .i64 x18), 
 (C.int .i64 x19), c20, (C.int .i64 x21), c22])) ∧ (∃ x23 : Int, 
 (∃ x24 : Int, (∃ c25 : C, (∃ x26 : Int, (∃ c27 : C, (((ldA m17 (C.ptr m.nxt 0) 5) = (some [(C.int .i64 x23), 
 (C.int .i64 x24), c25, (C.int .i64 x26), c27])) ∧ (∃ x28 : Int, 
 (∃ x29 : Int, (∃ c30 : C, (∃ x31 : Int, (∃ c32 : C, (((ldA m17 (C.ptr m.nxt 0) 5) = (some [(C.int .i64 x28), 
 (C.int .i64 x29), c30, (C.int .i64 x31), c32])) ∧ (∀ m33 : M, ((m33 = (M.new m17 (AO.cells 5 [(C.int .i64 (0 : Int)), 
 (C.int .i64 (0 : Int)), C.sl0, (C.int .i64 (0 : Int)), C.sl0] false))) → 
 ((ifB (allS noFnC [(C.int .i64 x28), (C.int .i64 x29), c30, (C.int .i64 x31), 
 c32]) ((ldA m33 (C.ptr m.nxt 0) 5) = (some [(C.int .i64 x28), 
 (C.int .i64 x29), c30, (C.int .i64 x31), c32])) False) ∧ ((ifB (allS noFnC [(C.int .i64 x23), 
 (C.int .i64 x24), c25, (C.int .i64 x26), c27]) ((ldA m33 (C.ptr m.nxt 0) 5) = (some [(C.int .i64 x23), 
 (C.int .i64 x24), c25, (C.int .i64 x26), c27])) False) ∧ ((ifB (allS noFnC [(C.int .i64 x18), 
 (C.int .i64 x19), c20, (C.int .i64 x21), c22]) ((ldA m33 (C.ptr m.nxt 0) 5) = (some [(C.int .i64 x18), 
 (C.int .i64 x19), c20, (C.int .i64 x21), c22])) False) ∧ (∀ m34 : M, 
 ((m34 = (M.set m33 (m7.nxt + 0) (AO.cells 5 [(C.int .i64 (0 : Int)), 
 (C.int .i64 (0 : Int)), C.sl0, (C.int .i64 (0 : Int)), C.sl0] false))) → 
 ((ifB (allS noFnC [(C.int .i64 x28), (C.int .i64 x29), c30, (C.int .i64 x31), 
 c32]) ((ldA m34 (C.ptr m.nxt 0) 5) = (some [(C.int .i64 x28), 
 (C.int .i64 x29), c30, (C.int .i64 x31), c32])) False) ∧ ((ifB (allS noFnC [(C.int .i64 x23), 
 (C.int .i64 x24), c25, (C.int .i64 x26), c27]) ((ldA m34 (C.ptr m.nxt 0) 5) = (some [(C.int .i64 x23), 
 (C.int .i64 x24), c25, (C.int .i64 x26), c27])) False) ∧ ((ifB (allS noFnC [(C.int .i64 x18), 
 (C.int .i64 x19), c20, (C.int .i64 x21), c22]) ((ldA m34 (C.ptr m.nxt 0) 5) = (some [(C.int .i64 x18), 
 (C.int .i64 x19), c20, (C.int .i64 x21), c22])) False) ∧ (∀ m35 : M, 
 ((m35 = (M.set m34 (m7.nxt + 1) (AO.cells 5 [(C.int .i64 (0 : Int)), 
 (C.int .i64 (0 : Int)), C.sl0, (C.int .i64 (0 : Int)), C.sl0] false))) → 
 ((ifB (allS noFnC [(C.int .i64 x28), (C.int .i64 x29), c30, (C.int .i64 x31), 
 c32]) ((ldA m35 (C.ptr m.nxt 0) 5) = (some [(C.int .i64 x28), 
 (C.int .i64 x29), c30, (C.int .i64 x31), c32])) False) ∧ ((ifB (allS noFnC [(C.int .i64 x23), 
 (C.int .i64 x24), c25, (C.int .i64 x26), c27]) ((ldA m35 (C.ptr m.nxt 0) 5) = (some [(C.int .i64 x23), 
 (C.int .i64 x24), c25, (C.int .i64 x26), c27])) False) ∧ ((ifB (allS noFnC [(C.int .i64 x18), 
 (C.int .i64 x19), c20, (C.int .i64 x21), c22]) ((ldA m35 (C.ptr m.nxt 0) 5) = (some [(C.int .i64 x18), 
 (C.int .i64 x19), c20, (C.int .i64 x21), c22])) False) ∧ (∃ m36 : M, 
 (((stC m35 (C.ptr m17.nxt 0) 5 [(C.int .i64 x18), (C.int .i64 x19), 
 c20, (C.int .i64 x21), c22]) = (some m36)) ∧ ((ifB (allS noFnC [(C.int .i64 x28), 
 (C.int .i64 x29), c30, (C.int .i64 x31), c32]) ((ldA m36 (C.ptr m.nxt 0) 5) = (some [(C.int .i64 x28), 
 (C.int .i64 x29), c30, (C.int .i64 x31), c32])) False) ∧ ((ifB (allS noFnC [(C.int .i64 x23), 
 (C.int .i64 x24), c25, (C.int .i64 x26), c27]) ((ldA m36 (C.ptr m.nxt 0) 5) = (some [(C.int .i64 x23), 
 (C.int .i64 x24), c25, (C.int .i64 x26), c27])) False) ∧ (∃ m37 : M, 
 (((stC m36 (C.ptr (m7.nxt + 0) 0) 5 [(C.int .i64 x23), (C.int .i64 x24), 
 c25, (C.int .i64 x26), c27]) = (some m37)) ∧ ((ifB (allS noFnC [(C.int .i64 x28), 
 (C.int .i64 x29), c30, (C.int .i64 x31), c32]) ((ldA m37 (C.ptr m.nxt 0) 5) = (some [(C.int .i64 x28), 
 (C.int .i64 x29), c30, (C.int .i64 x31), c32])) False) ∧ (∃ m38 : M, 
 (((stC m37 (C.ptr (m7.nxt + 1) 0) 5 [(C.int .i64 x28), (C.int .i64 x29), 
 c30, (C.int .i64 x31), c32]) = (some m38)) ∧ (∀ m39 : M, ((m39 = (mGrow m38 1)) → 
 (∀ m40 : M, ((m40 = (M.new m39 (AO.cells 0 [] false))) → (isPt (C.ptr m.nxt 0) ∧ 
 (∃ c41 : C, (((ldC m40 (C.ptr m.nxt 4)) = (some c41)) ∧ ((ifB (noFnC c41) ((ldC m39 (C.ptr m.nxt 4)) = (some c41)) False) ∧ 
 (∃ c42 : C, (∃ m43 : M, ((ApR prog 27 m40 (C.sl m39.nxt 0 0 0 (some 0)) c41 c42 m43) ∧ 
 (∀ m44 : M, ((m44 = (M.set m43 (m38.nxt + 0) (AO.cells 0 [] false))) → ((ifB (noFnC c41) ((ldC m44 (C.ptr m.nxt 4)) = (some c41)) False) ∧ 
 (isPt (C.ptr m.nxt 0) ∧ (∃ c45 : C, (((ldC m44 (C.ptr m.nxt 4)) = (some c45)) ∧ 
 ((ifB (noFnC c45) ((ldC m43 (C.ptr m.nxt 4)) = (some c45)) False) ∧ 
 ((ifB (noFnC c45) ((ldC m40 (C.ptr m.nxt 4)) = (some c45)) False) ∧ 
 ((ifB (noFnC c45) ((ldC m39 (C.ptr m.nxt 4)) = (some c45)) False) ∧ 
 (∃ c46 : C, (∃ m47 : M, ((ApR prog 27 m44 (C.sl (m38.nxt + 0) 0 0 0 (some 0)) c45 c46 m47) ∧ 
 (isPt (C.ptr m17.nxt 0) ∧ (∃ m48 : M, (((stC m47 (C.ptr m17.nxt 4) 1 [c42]) = (some m48)) ∧ 
 (isPt (C.ptr (m7.nxt + 1) 0) ∧ (∃ m49 : M, (((stC m48 (C.ptr (m7.nxt + 1) 4) 1 [c46]) = (some m49)) ∧ 
 (isPt (C.ptr m17.nxt 0) ∧ (∃ c50 : C, (((ldC m49 (C.ptr m17.nxt 4)) = (some c50)) ∧ 
 (isPt (C.ptr (m7.nxt + 1) 0) ∧ (∃ c51 : C, (((ldC m49 (C.ptr (m7.nxt + 1) 4)) = (some c51)) ∧ 
 (∃ n52 : Nat, ((((wrapZ .i64 a200) % (((slLen c16) : Nat) : Int)) = ((n52 : Nat) : Int)) ∧ 
 ((n52 < (slLen c50)) ∧ (isPt (slAt c50 (n52 * 4)) ∧ (∃ m53 : M, (((stC m49 (ptAdd (slAt c50 (n52 * 4)) 3) 1 [(C.bool true)]) = (some m53)) ∧ 
 ((ifB (noFnC c51) ((ldC m53 (C.ptr (m7.nxt + 1) 4)) = (some c51)) False) ∧ 
 (∃ n54 : Nat, ((((wrapZ .i64 a200) % (((slLen c16) : Nat) : Int)) = ((n54 : Nat) : Int)) ∧ 
 ((n54 < (slLen c51)) ∧ (isPt (slAt c51 (n54 * 4)) ∧ (∃ m55 : M, (((stC m53 (ptAdd (slAt c51 (n54 * 4)) 3) 1 [(C.bool false)]) = (some m55)) ∧ 
 (∀ m56 : M, ((m56 = (M.new m55 (AO.cells 0 [] false))) → (isPt (C.ptr m.nxt 0) ∧ 
 (∃ c57 : C, (((ldC m56 (C.ptr m.nxt 4)) = (some c57)) ∧ ((ifB (noFnC c57) ((ldC m55 (C.ptr m.nxt 4)) = (some c57)) False) ∧ 
 (∃ n58 : Nat, (∃ n59 : Nat, ((n58 = 0) ∧ ((((wrapZ .i64 a200) % (((slLen c16) : Nat) : Int)) = ((n59 : Nat) : Int)) ∧ 
 (∃ c60 : C, (((subC 4 c57 n58 n59) = (some c60)) ∧ (∃ c61 : C, (∃ m62 : M, 
 ((ApR prog 27 m56 (C.sl m55.nxt 0 0 0 (some 0)) c60 c61 m62) ∧ (isPt (C.ptr m.nxt 0) ∧ 
 (∃ c63 : C, (((ldC m62 (C.ptr m.nxt 4)) = (some c63)) ∧ ((ifB (noFnC c63) ((ldC m56 (C.ptr m.nxt 4)) = (some c63)) False) ∧ 
 ((ifB (noFnC c63) ((ldC m55 (C.ptr m.nxt 4)) = (some c63)) False) ∧ 
 (fitsP .i64 (((wrapZ .i64 a200) % (((slLen c16) : Nat) : Int)) + (1 : Int)) ∧ 
 (∃ n64 : Nat, (∃ n65 : Nat, (((((wrapZ .i64 a200) % (((slLen c16) : Nat) : Int)) + (1 : Int)) = ((n64 : Nat) : Int)) ∧ 
 ((n65 = (slLen c63)) ∧ (∃ c66 : C, (((subC 4 c63 n64 n65) = (some c66)) ∧ 
 (∃ c67 : C, (∃ m68 : M, ((ApR prog 27 m62 c61 c66 c67 m68) ∧ (isPt (C.ptr (m7.nxt + 0) 0) ∧ 
 (∃ m69 : M, (((stC m68 (C.ptr (m7.nxt + 0) 4) 1 [c67]) = (some m69)) ∧ 
 (∃ x70 : Int, (∃ x71 : Int, (∃ c72 : C, (∃ x73 : Int, (∃ c74 : C, (((ldA m69 (C.ptr m17.nxt 0) 5) = (some [(C.int .i64 x70), 
 (C.int .i64 x71), c72, (C.int .i64 x73), c74])) ∧ (Wc prog tbl 33 [(V.agg 5 [(C.int .i64 x70), 
 (C.int .i64 x71), c72, (C.int .i64 x73), c74])] m69 (fun v75 m76 => 
 (∃ x77 : Int, (∃ x78 : Int, (∃ c79 : C, (∃ x80 : Int, (∃ c81 : C, ((v75 = (V.agg 5 [(C.int .i64 x77), 
 (C.int .i64 x78), c79, (C.int .i64 x80), c81])) ∧ (Wc prog tbl 41 [(V.agg 5 [(C.int .i64 x77), 
 (C.int .i64 x78), c79, (C.int .i64 x80), c81])] m76 (fun v82 m83 => 
 (∃ x84 : Int, (∃ x85 : Int, (∃ x86 : Int, ((v82 = (V.tup [(U.agg 2 [(C.int .i64 x84), 
 (C.int .i64 x85)]), (U.c (C.int .i64 x86))])) ∧ (∀ m87 : M, ((m87 = (M.new m83 (AO.cells 2 [(C.int .i64 (0 : Int)), 
 (C.int .i64 (0 : Int))] false))) → (∃ m88 : M, (((stC m87 (C.ptr m83.nxt 0) 2 [(C.int .i64 x84), 
 (C.int .i64 x85)]) = (some m88)) ∧ (∃ x89 : Int, (∃ x90 : Int, 
 (∃ c91 : C, (∃ x92 : Int, (∃ c93 : C, (((ldA m88 (C.ptr (m7.nxt + 0) 0) 5) = (some [(C.int .i64 x89), 
 (C.int .i64 x90), c91, (C.int .i64 x92), c93])) ∧ (Wc prog tbl 33 [(V.agg 5 [(C.int .i64 x89), 
 (C.int .i64 x90), c91, (C.int .i64 x92), c93])] m88 (fun v94 m95 => 
 (∃ x96 : Int, (∃ x97 : Int, (∃ c98 : C, (∃ x99 : Int, (∃ c100 : C, ((v94 = (V.agg 5 [(C.int .i64 x96), 
 (C.int .i64 x97), c98, (C.int .i64 x99), c100])) ∧ (Wc prog tbl 41 [(V.agg 5 [(C.int .i64 x96), 
 (C.int .i64 x97), c98, (C.int .i64 x99), c100])] m95 (fun v101 m102 => 
 (∃ x103 : Int, (∃ x104 : Int, (∃ x105 : Int, ((v101 = (V.tup [(U.agg 2 [(C.int .i64 x103), 
 (C.int .i64 x104)]), (U.c (C.int .i64 x105))])) ∧ (∀ m106 : M, 
 ((m106 = (M.new m102 (AO.cells 2 [(C.int .i64 (0 : Int)), (C.int .i64 (0 : Int))] false))) → 
 (∃ m107 : M, (((stC m106 (C.ptr m102.nxt 0) 2 [(C.int .i64 x103), (C.int .i64 x104)]) = (some m107)) ∧ 
 (∃ x108 : Int, (∃ x109 : Int, (∃ c110 : C, (∃ x111 : Int, (∃ c112 : C, (((ldA m107 (C.ptr (m7.nxt + 1) 0) 5) = (some [(C.int .i64 x108), 
 (C.int .i64 x109), c110, (C.int .i64 x111), c112])) ∧ (Wc prog tbl 33 [(V.agg 5 [(C.int .i64 x108), 
 (C.int .i64 x109), c110, (C.int .i64 x111), c112])] m107 (fun v113 m114 => 
 (∃ x115 : Int, (∃ x116 : Int, (∃ c117 : C, (∃ x118 : Int, (∃ c119 : C, ((v113 = (V.agg 5 [(C.int .i64 x115), 
 (C.int .i64 x116), c117, (C.int .i64 x118), c119])) ∧ (Wc prog tbl 41 [(V.agg 5 [(C.int .i64 x115), 
 (C.int .i64 x116), c117, (C.int .i64 x118), c119])] m114 (fun v120 m121 => 
 (∃ x122 : Int, (∃ x123 : Int, (∃ x124 : Int, ((v120 = (V.tup [(U.agg 2 [(C.int .i64 x122), 
 (C.int .i64 x123)]), (U.c (C.int .i64 x124))])) ∧ (∀ m125 : M, 
 ((m125 = (M.new m121 (AO.cells 2 [(C.int .i64 (0 : Int)), (C.int .i64 (0 : Int))] false))) → 
 (∃ m126 : M, (((stC m125 (C.ptr m121.nxt 0) 2 [(C.int .i64 x122), (C.int .i64 x123)]) = (some m126)) ∧ 
 (ifB (!decide (x86 = x105)) (Q (V.c (C.bool false)) m126) (∃ x127 : Int, (∃ x128 : Int, 
 (((ldA m126 (C.ptr m83.nxt 0) 2) = (some [(C.int .i64 x127), 
 (C.int .i64 x128)])) ∧ (∃ x129 : Int, (∃ x130 : Int, (((ldA m126 (C.ptr m102.nxt 0) 2) = (some [(C.int .i64 x129), 
 (C.int .i64 x130)])) ∧ (fitsP .i64 x127 ∧ (fitsP .i64 x129 ∧ 
 (fitsP .i64 x128 ∧ (fitsP .i64 x130 ∧ (ifB (!((decide (x127 = x129)) && (decide (x128 = x130)))) (Q (V.c (C.bool false)) m126) (ifB (!decide (x86 = (0 : Int))) (ifB (!decide (x86 = (9 : Int))) (Q (V.c (C.bool false)) m126) (ifB (!decide (x124 = (9 : Int))) (Q (V.c (C.bool false)) m126) (ifB (!decide (x124 = (0 : Int))) (ifB (decide (x124 = (9 : Int))) (Wc prog tbl 20 [] m126 (fun v131 m132 => 
 (∃ b133 : Bool, ((v131 = (V.c (C.bool b133))) ∧ (Q (V.c (C.bool b133)) m132))))) (Q (V.c (C.bool false)) m126)) (isPt (C.ptr m121.nxt 0) ∧ 
 (∃ x134 : Int, (((ldC m126 (C.ptr m121.nxt 0)) = (some (C.int .i64 x134))) ∧ 
 (isPt (C.ptr m83.nxt 0) ∧ (∃ x135 : Int, (((ldC m126 (C.ptr m83.nxt 0)) = (some (C.int .i64 x135))) ∧ 
 (ifB (decide (x135 ≤ x134)) (isPt (C.ptr m121.nxt 0) ∧ (∃ x136 : Int, (((ldC m126 (C.ptr m121.nxt 1)) = (some (C.int .i64 x136))) ∧ 
 (isPt (C.ptr m83.nxt 0) ∧ (∃ x137 : Int, (((ldC m126 (C.ptr m83.nxt 1)) = (some (C.int .i64 x137))) ∧ 
 (ifB (decide (x136 ≤ x137)) (Wc prog tbl 20 [] m126 (fun v138 m139 => (∃ b140 : Bool, 
 ((v138 = (V.c (C.bool b140))) ∧ (Q (V.c (C.bool b140)) m139))))) (Q (V.c (C.bool false)) m126)))))))) (Q (V.c (C.bool false)) m126))))))))))) (ifB (!decide (x124 = (0 : Int))) (ifB (decide (x124 = (9 : Int))) (Wc prog tbl 20 [] m126 (fun v141 m142 => 
 (∃ b143 : Bool, ((v141 = (V.c (C.bool b143))) ∧ (Q (V.c (C.bool b143)) m142))))) (Q (V.c (C.bool false)) m126)) (isPt (C.ptr m121.nxt 0) ∧ 
 (∃ x144 : Int, (((ldC m126 (C.ptr m121.nxt 0)) = (some (C.int .i64 x144))) ∧ 
 (isPt (C.ptr m83.nxt 0) ∧ (∃ x145 : Int, (((ldC m126 (C.ptr m83.nxt 0)) = (some (C.int .i64 x145))) ∧ 
 (ifB (decide (x145 ≤ x144)) (isPt (C.ptr m121.nxt 0) ∧ (∃ x146 : Int, (((ldC m126 (C.ptr m121.nxt 1)) = (some (C.int .i64 x146))) ∧ 
 (isPt (C.ptr m83.nxt 0) ∧ (∃ x147 : Int, (((ldC m126 (C.ptr m83.nxt 1)) = (some (C.int .i64 x147))) ∧ 
 (ifB (decide (x146 ≤ x147)) (Wc prog tbl 20 [] m126 (fun v148 m149 => (∃ b150 : Bool, 
 ((v148 = (V.c (C.bool b150))) ∧ (Q (V.c (C.bool b150)) m149))))) (Q (V.c (C.bool false)) m126)))))))) (Q (V.c (C.bool false)) m126))))))))))))))))))))))))))))))))))))))))))))))))))))))))))))))))))))))))))))))))))))))))))))))))))))))))))))))))))))))))))))))))))))))))))))))))))))))))))))))))))))))))))))))))))))))))))))))))))))))))))))))))))))))))))))))))))))))))))))))))))))) : Wc prog tbl 18 [(V.agg 5 [(C.int .i64 a100), (C.int .i64 a101), a102, (C.int .i64 a103), a104]), (V.c (C.int .u8 a200))] m Q :=
 wc_eq (n := 2) rfl (by kernel_rfl) (by kernel_rfl) h
end
end Go.Proofs.Ytgkjfhkjgdiodaa

namespace Go.Abs
noncomputable section
/-- a slice that can be sliced again -/
def SubOk (x : C) (n : Nat) : Prop := (x = .sl0 ∧ n = 0) ∨ ∃ b o cap, x = .sl b o n 0 (some cap) ∧ n ≤ cap
theorem Seg.sub {m : M} {b o : Nat} {vs : List C} (h : Seg m b o vs) {a l : Nat} (hl : a + l ≤ vs.length) : Seg m b (o + a) ((vs.drop a).take l) := by
  have hlen : ((vs.drop a).take l).length = l := by rw [List.length_take, List.length_drop]; omega
  have hsub : ∀ (ws : List C) (p : Nat), (ws.drop p).take vs.length = vs → (ws.drop (p + a)).take l = (vs.drop a).take l := fun ws p hp => by
    rw [← hp, List.drop_take, List.take_take, List.drop_drop]
    congr 1
    omega
  rcases h with ⟨n, ws, op, h1, h2, h3, h4⟩ | ⟨h1, q, h2, h3, h4, h5⟩
  · exact .inl ⟨n, ws, op, h1, h2, by omega, by rw [hlen]; exact hsub ws o h4⟩
  · refine .inr ⟨h1, q, h2, by omega, by omega, ?_⟩
    rw [hlen, show o + a - q.1 = (o - q.1) + a by omega]
    exact hsub q.2 _ h5
theorem Ls.sub {m : M} {k n : Nat} {x : C} {vs : List C} (h : Ls m k x vs n) (hs : SubOk x n) (hk : 0 < k) {i j : Nat} (hij : i ≤ j) (hj : j ≤ n) : ∃ c, subC k x i j = some c ∧ Ls m k c ((vs.drop (i * k)).take ((j - i) * k)) (j - i) := by
  have hl := h.len
  have h1 : i * k + (j - i) * k = j * k := by rw [← Nat.add_mul]; congr 1; omega
  have h2 : j * k ≤ n * k := Nat.mul_le_mul_right _ hj
  have hlen : (j - i) * k = ((vs.drop (i * k)).take ((j - i) * k)).length := by rw [List.length_take, List.length_drop]; omega
  rcases hs with ⟨rfl, rfl⟩ | ⟨b, o, cap, rfl, hc⟩
  · have hj0 : j = 0 := by omega
    have hi0 : i = 0 := by omega
    subst hj0 hi0
    exact ⟨.sl0, rfl, by rw [← h1] at *; simpa using Ls.nil m k⟩
  · obtain ⟨hb, hseg⟩ : b < m.nxt ∧ (n ≠ 0 → Seg m b o vs) := by
      rcases h.val with ⟨h0, _⟩ | ⟨b', o', s', c', h0, h3, h4⟩
      · cases h0
      · cases h0; exact ⟨h3, h4⟩
    refine ⟨.sl b (ifB (Nat.beq cap i) o (Nat.add o (Nat.mul i k))) (j - i) 0 (some (cap - i)), ?_, hlen, .inr ⟨b, _, 0, _, rfl, hb, fun hne => ?_⟩⟩
    · show ifB (Nat.ble i j) (ifB (Nat.ble j cap) _ none) none = _
      rw [Nat.ble_eq_true_of_le hij, Nat.ble_eq_true_of_le (show j ≤ cap by omega)]; rfl
    · have hci : Nat.beq cap i = false := by
        cases hq : Nat.beq cap i with
        | true => have := Nat.eq_of_beq_eq_true hq; omega
        | false => rfl
      rw [hci]
      exact (hseg (by omega)).sub (a := i * k) (l := (j - i) * k) (by have := h.len; omega)
theorem Own1.lit0 {m m0 : M} {k : Nat} (h : m0 = m.new (.cells 0 [] false)) : Own1 m0 k (.sl m.nxt 0 0 0 (some 0)) [] 0 ∧ Ext m m0 := by
  have h' : m0 = m.new (.cells 0 [] false) := h
  obtain ⟨b, x⟩ := Bk.new h'
  exact ⟨⟨by simp, .lit _ (by rw [Nat.zero_mul]; exact b.g) b.lt⟩, x⟩
end
end Go.Abs
namespace Go.Proofs.Ytgkjfhkjgdiodaa
open _root_.Go.Proofs.Try
open Go.Abs
set_option maxRecDepth 100000
noncomputable section
theorem t27 : tk prog 27 = .sl 94 := by kernel_rfl
theorem g94 : growOk prog 94 = true := by kernel_rfl
theorem z94 : prog.cellsOf 94 = 4 := by kernel_rfl
theorem mGrow_ext (m : M) (k : Nat) : Ext m (mGrow m k) := ⟨Nat.le_add_right _ _, fun _ _ => rfl, rfl⟩
end
end Go.Proofs.Ytgkjfhkjgdiodaa
namespace Go.Abs
end Go.Abs

namespace Go.Proofs.Ytgkjfhkjgdiodaa
open _root_.Go.Proofs.Try
open Go.Abs
set_option maxRecDepth 100000
noncomputable section
theorem get_rep (n i : Nat) : (List.replicate n (0 : Int))[i]! = 0 := by
  by_cases h : i < n
  · rw [getElem!_pos _ i (by rw [List.length_replicate]; exact h), List.getElem_replicate]
  · rw [getElem!_neg _ i (by rw [List.length_replicate]; exact h)]; rfl
theorem zero_truth {r c sm : Int} {L : List Int} {N : List Cnt} {S : Nat → Bool} (hv : svErr r c L sm N = 0) (hS : ∀ k, k < N.length → S k = true) : TruthR c sm L (outN N S) (List.replicate L.length 0) := by
  obtain ⟨hO, hsm⟩ := okay_of hv
  obtain ⟨hSm, hL9, hrc⟩ := field_of hO.f
  refine ⟨decide_eq_true ⟨List.length_replicate, fun i hi => ?_⟩, fun a b _ _ _ => ?_, fun n hn hl => ?_⟩
  · rw [get_rep]
    have := hSm _ (List.getElem_mem hi)
    rw [getElem!_pos L i hi]; omega
  · rw [get_rep, get_rep]; omega
  · obtain ⟨k, hk, rfl⟩ := List.getElem_of_mem hn
    have h1 := List.getElem?_eq_getElem hk
    rw [outN_get] at h1
    have hk' : k < N.length := by rw [outN_len] at hk; exact hk
    rw [List.getElem?_eq_getElem hk'] at h1
    have h2 := Option.some.inj h1
    rw [← h2] at hl
    have h3 : (N[k].late || S k) = false := hl
    rw [hS k hk'] at h3; simp at h3
/-- the counts of a list can be left out -/
def CanL (c sm : Int) (L : List Int) (N : List Cnt) (D : List Int) : Prop := ∃ H, TruthR c sm L (outN N (inD D)) H
theorem leave_can {r c sm : Int} {L : List Int} {N : List Cnt} (hv : svErr r c L sm N = 0) : Inc N.length 0 (leaveL r c sm L N) ∧ CanL c sm L N (leaveL r c sm L N) ∧ ∀ D, Inc N.length 0 D → CanL c sm L N D → D = leaveL r c sm L N ∨ shB (leaveL r c sm L N) D = true := by
  have h16 : N.length ≤ 16 := by have := (okay_of hv).1.n; omega
  have hfull : Inc N.length 0 (bitsL (2 ^ N.length - 1)) := bits_inc h16 (by have := Nat.two_pow_pos N.length; omega)
  have hcf : CanL c sm L N (bitsL (2 ^ N.length - 1)) := ⟨_, zero_truth hv fun k hk => by rw [inD_bits h16 hk, Nat.testBit_two_pow_sub_one]; exact decide_eq_true hk⟩
  obtain ⟨h1, h2, h3⟩ := shortL_spec (n := N.length) (t := leaveB c sm L N) ⟨_, hfull, (leaveB_iff hv hfull).2 hcf⟩
  unfold leaveL
  rw [if_pos hv]
  exact ⟨h1, (leaveB_iff hv h1).1 h2, fun D h4 h5 => h3 D h4 ((leaveB_iff hv h4).2 h5)⟩
end
end Go.Proofs.Ytgkjfhkjgdiodaa

namespace Go.Proofs.Ytgkjfhkjgdiodaa
open _root_.Go.Proofs.Try
open Go.Abs
set_option maxRecDepth 100000
noncomputable section
/-- the place, with rn rows and cn columns, in the other field -/
def sg (rn cn p : Nat) : Nat := p % cn * rn + p / cn
theorem sg_facts : ∀ rn : Fin 5, ∀ cn : Fin 5, ∀ p : Fin 16, 0 < rn.val → 0 < cn.val → p.val < rn.val * cn.val → sg rn.val cn.val p.val < rn.val * cn.val ∧ sg cn.val rn.val (sg rn.val cn.val p.val) = p.val := by decide +kernel
theorem sg_ok {rn cn p : Nat} (hr : 0 < rn ∧ rn ≤ 4) (hc : 0 < cn ∧ cn ≤ 4) (h9 : rn * cn ≤ 9) (hp : p < rn * cn) : sg rn cn p < rn * cn ∧ sg cn rn (sg rn cn p) = p :=
  sg_facts ⟨rn, by omega⟩ ⟨cn, by omega⟩ ⟨p, by omega⟩ hr.1 hc.1 hp
theorem near_facts : ∀ rn : Fin 5, ∀ cn : Fin 5, ∀ a : Fin 9, ∀ b : Fin 9, 0 < rn.val → 0 < cn.val → rn.val * cn.val ≤ 9 → a.val < b.val → b.val < rn.val * cn.val → ((a.val / rn.val = b.val / rn.val ∧ b.val = a.val + 1) ∨ b.val = a.val + rn.val) →
    sg cn rn a.val < sg cn rn b.val ∧ ((sg cn rn a.val / cn.val = sg cn rn b.val / cn.val ∧ sg cn rn b.val = sg cn rn a.val + 1) ∨ sg cn rn b.val = sg cn rn a.val + cn.val) := by decide +kernel
def turnL (rn cn : Nat) (L : List Int) : List Int := (List.range (rn * cn)).map fun j => L[sg cn rn j]!
def turnC (rn cn : Nat) (n : Cnt) : Cnt := { n with p := ((sg rn cn n.p.toNat : Nat) : Int) }
variable {rn cn : Nat}
theorem turn_len (L : List Int) : (turnL rn cn L).length = rn * cn := by simp [turnL]
theorem turn_get {L : List Int} {j : Nat} (hj : j < rn * cn) : (turnL rn cn L)[j]! = L[sg cn rn j]! := by
  rw [getElem!_pos _ j (by rw [turn_len]; exact hj)]
  simp [turnL]
theorem range_self (L : List Int) : (List.range L.length).map (fun j => L[j]!) = L := by
  refine List.ext_getElem (by simp) fun j h1 h2 => ?_
  rw [List.getElem_map, List.getElem_range, getElem!_pos L j h2]
theorem turn_perm {L : List Int} (hr : 0 < rn ∧ rn ≤ 4) (hc : 0 < cn ∧ cn ≤ 4) (h9 : rn * cn ≤ 9) (hL : L.length = rn * cn) : (turnL rn cn L).Perm L := by
  have h9' : cn * rn ≤ 9 := by rw [Nat.mul_comm]; exact h9
  have hp : ((List.range (rn * cn)).map fun j => sg cn rn j).Perm (List.range (rn * cn)) := by
    refine (List.perm_ext_iff_of_nodup ?_ List.nodup_range).2 fun a => ?_
    · show List.Pairwise (· ≠ ·) _
      rw [List.pairwise_map]
      refine List.Pairwise.imp_of_mem (R := fun a b => a < b) (fun {a b} ha hb hab he => ?_) List.pairwise_lt_range
      have ha' := List.mem_range.1 ha
      have hb' := List.mem_range.1 hb
      have h1 := sg_ok hc hr h9' (by rw [Nat.mul_comm]; exact ha')
      have h2 := sg_ok hc hr h9' (by rw [Nat.mul_comm]; exact hb')
      rw [he] at h1
      rw [h1.2] at h2
      omega
    · rw [List.mem_map, List.mem_range]
      constructor
      · rintro ⟨j, h1, rfl⟩
        have := sg_ok hc hr h9' (by rw [Nat.mul_comm]; exact List.mem_range.1 h1)
        rw [Nat.mul_comm]; exact this.1
      · intro h1
        have := sg_ok hr hc h9 h1
        exact ⟨_, List.mem_range.2 this.1, this.2⟩
  have h1 := hp.map fun j => L[j]!
  rw [List.map_map] at h1
  have h2 := range_self L
  rw [hL] at h2
  rw [h2] at h1
  exact h1
theorem sumA_perm {A B : List Int} (h : A.Perm B) : ∀ a : Int, sumA a A = sumA a B := by
  induction h with
  | nil => intro a; rfl
  | cons x _ ih => intro a; exact ih _
  | swap x y l => intro a; show sumA (a + y + x) l = sumA (a + x + y) l; rw [Int.add_right_comm]
  | trans _ _ ih1 ih2 => intro a; rw [ih1, ih2]
theorem share_turn {L H : List Int} (hr : 0 < rn ∧ rn ≤ 4) (hc : 0 < cn ∧ cn ≤ 4) (h9 : rn * cn ≤ 9) (hL : L.length = rn * cn) (hH : H.length = rn * cn) : shareOf (turnL rn cn L) (turnL rn cn H) = shareOf L H := by
  unfold shareOf
  rw [sumA_perm (turn_perm hr hc h9 hL), sumA_perm (turn_perm hr hc h9 hH)]
/-- what is asked of the sides -/
structure Tn (rn cn : Nat) : Prop where
  r : 0 < rn ∧ rn ≤ 4
  c : 0 < cn ∧ cn ≤ 4
  m : rn * cn ≤ 9
theorem Tn.symm (h : Tn rn cn) : Tn cn rn := ⟨h.c, h.r, by rw [Nat.mul_comm]; exact h.m⟩
theorem turn_truth {sm : Int} {L H : List Int} {N : List Cnt} (t : Tn rn cn) (hL : L.length = rn * cn) (hN : ∀ n ∈ N, 0 ≤ n.p ∧ n.p < (rn * cn : Nat)) (hT : TruthR (cn : Int) sm L N H) : TruthR (rn : Int) sm (turnL rn cn L) (N.map (turnC rn cn)) (turnL rn cn H) := by
  have hlH : H.length = rn * cn := by rw [listed_len hT.1]; exact hL
  have h9' : cn * rn ≤ 9 := t.symm.m
  have hsg : ∀ j, j < rn * cn → sg cn rn j < rn * cn := fun j hj => by
    have := sg_ok t.c t.r h9' (by rw [Nat.mul_comm]; exact hj)
    rw [Nat.mul_comm]; exact this.1
  refine ⟨decide_eq_true ⟨by rw [turn_len, turn_len], fun i hi => ?_⟩, fun a b hab hb hcond => ?_, fun n hn hl => ?_⟩
  · rw [turn_len] at hi
    rw [turn_get hi, turn_get hi]
    exact (of_decide_eq_true hT.1).2 _ (by rw [hL]; exact hsg i hi)
  · rw [turn_len] at hb
    have ha : a < rn * cn := by omega
    have hm := t.m
    have hc' : (a / rn = b / rn ∧ b = a + 1) ∨ b = a + rn := by
      rcases hcond with ⟨h1, h2⟩ | h1
      · exact .inl ⟨by have : ((a / rn : Nat) : Int) = ((b / rn : Nat) : Int) := by rw [Int.natCast_ediv, Int.natCast_ediv]; exact h1
                       omega, h2⟩
      · exact .inr (by omega)
    have hnf := near_facts ⟨rn, by have := t.r; omega⟩ ⟨cn, by have := t.c; omega⟩ ⟨a, by omega⟩ ⟨b, by omega⟩ t.r.1 t.c.1 t.m hab hb hc'
    have hpr := hT.2.1 (sg cn rn a) (sg cn rn b) hnf.1 (by rw [hlH]; exact hsg b hb)
    rw [turn_get ha, turn_get hb]
    refine hpr ?_
    rcases hnf.2 with ⟨h1, h2⟩ | h1
    · exact .inl ⟨by rw [← Int.natCast_ediv, ← Int.natCast_ediv]; exact congrArg Int.ofNat h1, h2⟩
    · refine .inr ?_
      have h1' : sg cn rn b = sg cn rn a + cn := h1
      omega
  · obtain ⟨q, h1, rfl⟩ := List.mem_map.1 hn
    have hq := hN q h1
    have h2 := hT.2.2 q h1 hl
    have h3 := sg_ok t.r t.c t.m (p := q.p.toNat) (by omega)
    show q.lo ≤ (turnL rn cn H)[((sg rn cn q.p.toNat : Nat) : Int).toNat]! ∧ (turnL rn cn H)[((sg rn cn q.p.toNat : Nat) : Int).toNat]! ≤ q.hi
    rw [Int.toNat_natCast, turn_get h3.1, h3.2]
    exact h2
/-- a valid survey, in numbers that count -/
structure Vs (rn cn : Nat) (sm : Int) (L : List Int) (N : List Cnt) : Prop where
  t : Tn rn cn
  v : svErr (rn : Int) (cn : Int) L sm N = 0
theorem Vs.len {sm : Int} {L : List Int} {N : List Cnt} (h : Vs rn cn sm L N) : L.length = rn * cn := by
  obtain ⟨hO, _⟩ := okay_of h.v
  obtain ⟨_, _, hrc⟩ := field_of hO.f
  have : ((L.length : Nat) : Int) = ((rn * cn : Nat) : Int) := by rw [hrc, Int.natCast_mul]
  omega
theorem Vs.pl {sm : Int} {L : List Int} {N : List Cnt} (h : Vs rn cn sm L N) : ∀ n ∈ N, 0 ≤ n.p ∧ n.p < (rn * cn : Nat) := fun n hn => by
  obtain ⟨hO, _⟩ := okay_of h.v
  have h1 : (0 ≤ n.p ∧ n.p ≤ (rn : Int) * (cn : Int) - 1) ∧ _ := of_decide_eq_true (hO.v n hn)
  have : ((rn * cn : Nat) : Int) = (rn : Int) * (cn : Int) := Int.natCast_mul ..
  omega
theorem Vs.truth {sm : Int} {L H : List Int} {N : List Cnt} (h : Vs rn cn sm L N) (hT : TruthR (cn : Int) sm L N H) : TruthR (rn : Int) sm (turnL rn cn L) (N.map (turnC rn cn)) (turnL rn cn H) := turn_truth h.t h.len h.pl hT
theorem Vs.share {sm : Int} {L H : List Int} {N : List Cnt} (h : Vs rn cn sm L N) (hT : TruthR (cn : Int) sm L N H) : shareOf (turnL rn cn L) (turnL rn cn H) = shareOf L H := share_turn h.t.r h.t.c h.t.m h.len (by rw [listed_len hT.1]; exact h.len)
theorem ask_in {r c sm n : Int} {L : List Int} {N : List Cnt} (hv : svErr r c L sm N = 0) (hn : 0 ≤ n ∧ n ≤ 100) : askErr r c L sm N (decide (0 ≤ n ∧ n ≤ 100)) = trueErr r c L sm N := by unfold askErr; rw [if_pos hv, decide_eq_true hn]; rfl
end
end Go.Proofs.Ytgkjfhkjgdiodaa

namespace Go.Abs
noncomputable section
end
end Go.Abs
namespace Go.Proofs.Ytgkjfhkjgdiodaa
open _root_.Go.Proofs.Try
open Go.Abs
set_option maxRecDepth 100000
noncomputable section
theorem cFew {r c sm n : Int} {x y : C} {L : List Int} {N : List Cnt} {a : Nat} {m : M} {R : C → Int → M → Prop} (hx : Li m x L) (hL : L.length ≤ 1000) (hy : Lc m y N) (hN : N.length ≤ 1000) (ka : Bk m a 5 [.int .i64 r, .int .i64 c, x, .int .i64 sm, y])
    (h : ∀ z m1, Ext m m1 → Li m1 z (fewL r c sm L N n) → R z (askErr r c L sm N (decide (0 ≤ n ∧ n ≤ 100))) m1) :
    ∃ x1 x2 : Int, ∃ c3 : C, ∃ x4 : Int, ∃ c5 : C, ldA m (C.ptr a 0) 5 = some [C.int .i64 x1, C.int .i64 x2, c3, C.int .i64 x4, c5] ∧ Wc prog tbl 33 [V.agg 5 [C.int .i64 x1, C.int .i64 x2, c3, C.int .i64 x4, c5]] m fun v6 m7 => ∃ x8 x9 : Int, ∃ c10 : C, ∃ x11 : Int, ∃ c12 : C, v6 = V.agg 5 [C.int .i64 x8, C.int .i64 x9, c10, C.int .i64 x11, c12] ∧
      Wc prog tbl 49 [V.agg 5 [C.int .i64 x8, C.int .i64 x9, c10, C.int .i64 x11, c12], V.c (C.int .i64 n)] m7 fun v13 m14 => ∃ c15 : C, ∃ x16 : Int, v13 = V.tup [U.c c15, U.c (C.int .i64 x16)] ∧ R c15 x16 m14 :=
  ⟨r, c, x, sm, y, ka.ra, s33 hx (by omega) hy (by omega) fun xa ya m7 e7 hxa hya => ⟨r, c, xa, sm, ya, rfl, s49 hxa (by omega) hya (by omega) fun z m14 e14 hz => ⟨z, _, rfl, h z m14 (e7.trans e14) hz⟩⟩⟩
theorem cLeave {r c sm : Int} {x y : C} {L : List Int} {N : List Cnt} {a : Nat} {m : M} {R : C → Int → M → Prop} (hx : Li m x L) (hL : L.length ≤ 1000) (hy : Lc m y N) (hN : N.length ≤ 1000) (ka : Bk m a 5 [.int .i64 r, .int .i64 c, x, .int .i64 sm, y])
    (h : ∀ z m1, Ext m m1 → Li m1 z (leaveL r c sm L N) → R z (svErr r c L sm N) m1) :
    ∃ x1 x2 : Int, ∃ c3 : C, ∃ x4 : Int, ∃ c5 : C, ldA m (C.ptr a 0) 5 = some [C.int .i64 x1, C.int .i64 x2, c3, C.int .i64 x4, c5] ∧ Wc prog tbl 33 [V.agg 5 [C.int .i64 x1, C.int .i64 x2, c3, C.int .i64 x4, c5]] m fun v6 m7 => ∃ x8 x9 : Int, ∃ c10 : C, ∃ x11 : Int, ∃ c12 : C, v6 = V.agg 5 [C.int .i64 x8, C.int .i64 x9, c10, C.int .i64 x11, c12] ∧
      Wc prog tbl 52 [V.agg 5 [C.int .i64 x8, C.int .i64 x9, c10, C.int .i64 x11, c12]] m7 fun v13 m14 => ∃ c15 : C, ∃ x16 : Int, v13 = V.tup [U.c c15, U.c (C.int .i64 x16)] ∧ R c15 x16 m14 :=
  ⟨r, c, x, sm, y, ka.ra, s33 hx (by omega) hy (by omega) fun xa ya m7 e7 hxa hya => ⟨r, c, xa, sm, ya, rfl, s52 hxa (by omega) hya (by omega) fun z m14 e14 hz => ⟨z, _, rfl, h z m14 (e7.trans e14) hz⟩⟩⟩
end
end Go.Proofs.Ytgkjfhkjgdiodaa

namespace Go.Abs
noncomputable section
/-- append to a slice of one's own, also of nothing, however long -/
theorem ap_anyB {P : Program} {t el k : Nat} (ht : tk P t = .sl el) (hgr : growOk P el = true) (hk : P.cellsOf el = k) (hk0 : 0 < k) {m : M} {s x : C} {vs ws : List C} {n j : Nat} (hs : Own1 m k s vs n) (hx : Ls m k x ws j) (hnj : (n + j) * P.bytesOf el ≤ 140737488355328) :
    ∃ c m', ApR P t m s x c m' ∧ Own1 m' k c (vs ++ ws) (n + j) ∧ m.nxt ≤ m'.nxt ∧ m'.vw = m.vw ∧ (∀ b, b < m.nxt → slB s ≠ some b → m'.g b = m.g b) ∧ (Fr m c ∨ c = s) := by
  by_cases hj : j = 0
  · subst hj
    have hw : ws = [] := List.eq_nil_of_length_eq_zero (by rw [← hx.len]; omega)
    subst hw
    exact ⟨s, m, ap_none ht hgr hk hs hx, by rw [List.append_nil]; exact hs, Nat.le_refl _, rfl, fun _ _ _ => rfl, .inr rfl⟩
  · obtain ⟨m', q1, q2, q3, q4, q5⟩ := ap_big ht hgr hk hs hx (by omega) hk0 hnj
    exact ⟨_, m', q1, q2, by omega, q4, fun b hb hsb => q5 b (by omega) hsb, .inl fun b o n' s' d h => by cases h; exact Nat.le_refl _⟩
end
end Go.Abs
namespace Go.Proofs.Ytgkjfhkjgdiodaa
open _root_.Go.Proofs.Try
open Go.Abs
set_option maxRecDepth 100000
noncomputable section
theorem b94 : prog.bytesOf 94 = 32 := by kernel_rfl
theorem more_truth {c sm : Int} {L H : List Int} {N : List Cnt} {n : Cnt} (h : TruthR c sm L (N ++ [n]) H) : TruthR c sm L N H := ⟨h.1, h.2.1, fun k hk => h.2.2 k (List.mem_append.2 (.inl hk))⟩
theorem outN_app (N : List Cnt) (n : Cnt) (S : Nat → Bool) : outN (N ++ [n]) S = outN N S ++ [{ n with late := n.late || S N.length }] := by
  unfold outN
  rw [List.mapIdx_append]
  simp
theorem sh_len {A B : List Int} (h : A = B ∨ shB B A = true) : B.length ≤ A.length := by
  rcases h with h | h
  · rw [h]; exact Nat.le_refl _
  · rcases shB_iff.1 h with h1 | h1
    · omega
    · omega
theorem more_leave {r c sm : Int} {L : List Int} {N : List Cnt} {n : Cnt} (hv : svErr r c L sm N = 0) (hv' : svErr r c L sm (N ++ [n]) = 0) :
    (leaveL r c sm L N).length ≤ (leaveL r c sm L (N ++ [n])).length ∧ (leaveL r c sm L (N ++ [n])).length ≤ (leaveL r c sm L N).length + 1 := by
  obtain ⟨q1, q2, q3⟩ := leave_can hv
  obtain ⟨p1, p2, p3⟩ := leave_can hv'
  generalize leaveL r c sm L N = A at q1 q2 q3 ⊢
  generalize leaveL r c sm L (N ++ [n]) = B at p1 p2 p3 ⊢
  have hnl : (N ++ [n]).length = N.length + 1 := by simp
  constructor
  · have hmem : ∀ v, v ∈ B.filter (fun v => decide (v < (N.length : Int))) ↔ v ∈ B ∧ v < (N.length : Int) := fun v => by rw [List.mem_filter, decide_eq_true_eq]
    have h1 : Inc N.length 0 (B.filter fun v => decide (v < (N.length : Int))) := ⟨p1.1.sublist List.filter_sublist, fun v hv => ⟨(p1.2 v ((hmem v).1 hv).1).1, ((hmem v).1 hv).2⟩⟩
    have h2 : CanL c sm L N (B.filter fun v => decide (v < (N.length : Int))) := by
      obtain ⟨H, hH⟩ := p2
      rw [outN_app] at hH
      refine ⟨H, ?_⟩
      rw [outN_congr (S := inD (B.filter fun v => decide (v < (N.length : Int)))) (S' := inD B) fun k hk => decide_eq_decide.2 (by rw [hmem]; exact ⟨fun h => h.1, fun h => ⟨h, by omega⟩⟩)]
      exact more_truth hH
    exact Nat.le_trans (sh_len (q3 _ h1 h2)) (List.length_filter_le _ _)
  · have h1 : Inc (N ++ [n]).length 0 (A ++ [(N.length : Int)]) := by
      refine ⟨List.pairwise_append.2 ⟨q1.1, List.pairwise_singleton _ _, fun a ha b hb => ?_⟩, fun v hv => ?_⟩
      · rw [List.mem_singleton.1 hb]; exact (q1.2 a ha).2
      · rw [hnl]
        rcases List.mem_append.1 hv with h | h
        · have := q1.2 v h; omega
        · rw [List.mem_singleton.1 h]; omega
    have h2 : CanL c sm L (N ++ [n]) (A ++ [(N.length : Int)]) := by
      obtain ⟨H, hH⟩ := q2
      refine ⟨H, hH.1, hH.2.1, fun k hk => ?_⟩
      rw [outN_app, outN_congr (S := inD (A ++ [(N.length : Int)])) (S' := inD A) fun k hk => decide_eq_decide.2 (by rw [List.mem_append, List.mem_singleton]; exact ⟨fun h => h.elim id fun h => by omega, .inl⟩)] at hk
      rcases List.mem_append.1 hk with h | h
      · exact hH.2.2 k h
      · rw [List.mem_singleton.1 h]
        intro hl
        have : (n.late || inD (A ++ [(N.length : Int)]) N.length) = false := hl
        rw [Bool.or_eq_false_iff] at this
        exact absurd (List.mem_append.2 (.inr (List.mem_singleton.2 rfl))) (of_decide_eq_false this.2)
    have := sh_len (p3 _ h1 h2)
    rw [List.length_append] at this
    exact this
theorem more_bd {r c sm : Int} {L : List Int} {N : List Cnt} {n : Cnt} (hv : svErr r c L sm N = 0) (hv' : svErr r c L sm (N ++ [n]) = 0) (ht' : trueErr r c L sm (N ++ [n]) = 0) (num : List Int → Int) :
    trueErr r c L sm N = 0 ∧ loOf ((truthsP c sm L N).map num) ≤ loOf ((truthsP c sm L (N ++ [n])).map num) ∧ hiOf ((truthsP c sm L (N ++ [n])).map num) ≤ hiOf ((truthsP c sm L N).map num) := bd_mono hv' hv ht' num num fun H hT => ⟨H, more_truth hT, rfl⟩
theorem more_few {r c sm a : Int} {L : List Int} {N : List Cnt} {n : Cnt} (hv : svErr r c L sm N = 0) (hv' : svErr r c L sm (N ++ [n]) = 0) (ht' : trueErr r c L sm (N ++ [n]) = 0) (ha : 0 ≤ a ∧ a ≤ 100) :
    (fewL r c sm L (N ++ [n]) a).length ≤ (fewL r c sm L N a).length := by
  have ht := (more_bd hv hv' ht' (shareOf L)).1
  obtain ⟨i1, f1, _⟩ := few_spec (n := a) ht ha
  obtain ⟨i2, f2, m2⟩ := few_spec (n := a) ht' ha
  exact sh_len (m2 _ i1 ((few_iff hv' i1).2 fun H H' hT hT' h1 h2 => (few_iff hv i1).1 f1 H H' (more_truth hT) (more_truth hT') h1 h2))
theorem s12 {r c sm p lo hi a w0 : Int} {lt : Bool} {x y : C} {L : List Int} {N : List Cnt} {m : M} {Q : V → M → Prop} (hx : Li m x L) (hy : Lc m y N) (hbig : N.length * 32 ≤ 140737488351232) (ha : 0 ≤ a ∧ a ≤ 255) (hw : 0 ≤ w0 ∧ w0 ≤ 255) (h : ∀ m', Q (.c (.bool true)) m') :
    Wc prog tbl 12 [.agg 5 [.int .i64 r, .int .i64 c, x, .int .i64 sm, y], .agg 4 [.int .i64 p, .int .i64 lo, .int .i64 hi, .bool lt], .c (.int .u8 a), .c (.int .u8 w0)] m Q := by
  have aw : ∀ m' : M, Wc prog tbl 20 [] m' (fun v m1 => ∃ b : Bool, v = .c (.bool b) ∧ Q (.c (.bool b)) m1) := fun m' => s20 ⟨_, rfl, h _⟩
  refine w12 fun m0 e0 m1 e1 => ?_
  obtain ⟨b0, x0⟩ := Bk.new e0
  obtain ⟨k1, x1⟩ := Bk.new e1
  have n0 : m0.nxt = m.nxt + 1 := by rw [e0]; rfl
  have n1 : m1.nxt = m0.nxt + 1 := by rw [e1]; rfl
  have x01 := x0.trans x1
  have b1 := b0.ext x1
  refine ⟨r, c, x, sm, y, b1.ra, fun m7 h7 => ?_⟩
  obtain ⟨k7, x7⟩ := Bk.new h7
  have n7 : m7.nxt = m1.nxt + 1 := by rw [h7]; rfl
  obtain ⟨m8, h8, k8, s8⟩ := k7.sto [.int .i64 r, .int .i64 c, x, .int .i64 sm, y]
  have X8 : Ext m1 m8 := x7.st1 s8 (Nat.le_refl _)
  have n8 := s8.nxt
  refine ⟨m8, h8, fun m9 h9 m10 h10 => ?_⟩
  have x9 : Ext m8 m9 := by rw [h9]; exact mGrow_ext _ _
  have n9 : m9.nxt = m8.nxt + 1 := by rw [h9]; rfl
  obtain ⟨o10, x10⟩ := Own1.lit0 (k := 4) h10
  have n10 : m10.nxt = m9.nxt + 1 := by rw [h10]; rfl
  have X9 := X8.trans x9
  have X10 := X9.trans x10
  obtain ⟨c12, m13, a1, o13, a3, a4, a5, a6⟩ := ap_anyB t27 g94 z94 (by omega) o10 (hy.ext (x01.trans X10)) (by rw [b94]; omega)
  rw [List.nil_append, Nat.zero_add] at o13
  have x13 : Ext m10 m13 := ⟨a3, fun b' hb' => a5 b' hb' (by intro hq; cases hq), a4⟩
  have X13 := X10.trans x13
  have hc12 : Fr m9 c12 := fun b' o n s d hq => by
    rcases a6 with h1 | h1
    · have := h1 b' o n s d hq; omega
    · rw [h1] at hq; cases hq; omega
  refine ⟨trivial, y, (b1.ext X10).rc (k := 4) rfl, ?_⟩
  rw [hy.noFn]
  simp only [ifB_true]
  refine ⟨(b1.ext X9).rc (k := 4) rfl, c12, m13, a1, p, lo, hi, lt, (k1.ext X13).ra, (k1.ext X10).ra, (k1.ext X9).ra, fun m18 h18 => ?_⟩
  have s18 := St1.of_set h18
  have n18 := s18.nxt
  have kC : Bk m18 (m8.nxt + 0) 4 [.int .i64 p, .int .i64 lo, .int .i64 hi, .bool lt] := ⟨by rw [h18, M.g_set, if_pos rfl], by rw [s18.nxt]; omega⟩
  have X18 : Ext m1 m18 := X13.st1 s18 (by omega)
  have o18 := o13.keep1 s18 (fun b' s d hq => by have := hc12 _ _ _ _ _ hq; omega)
  have kT18 := (((k8.ext x9).ext x10).ext x13).keep1 s18 (by omega)
  obtain ⟨c19, m20, d1, o20, d3, d4, d5, d6⟩ := ap_anyB t27 g94 z94 (by omega) o18 (Ls.one (k := 4) kC.g rfl kC.lt 0 (some 1)) (by rw [b94]; omega)
  have hc19 : Fr m9 c19 := by
    rcases d6 with h1 | h1
    · exact h1.mono (by omega)
    · rw [h1]; exact hc12
  have X20 : Ext m1 m20 := ⟨Nat.le_trans X18.nxt d3, fun b hb => (d5 b (by have := X18.nxt; omega) (hc12.ne (by omega))).trans (X18.g b hb), d4.trans X18.vw⟩
  have kT20 : Bk m20 m1.nxt 5 [.int .i64 r, .int .i64 c, x, .int .i64 sm, y] := ⟨(d5 _ kT18.lt (hc12.ne (by omega))).trans kT18.g, Nat.lt_of_lt_of_le kT18.lt d3⟩
  obtain ⟨m21, h21, k21, s21⟩ := kT20.sto1 4 c19 (by show 4 < 5; omega) rfl
  refine ⟨(b1.ext X18).rc (k := 4) rfl, c19, m20, d1, trivial, m21, h21, ?_⟩
  have k21' : Bk m21 m1.nxt 5 [.int .i64 r, .int .i64 c, x, .int .i64 sm, c19] := k21
  have X21 : Ext m1 m21 := X20.st1 s21 (Nat.le_refl _)
  have hlc : Lc m21 c19 (N ++ [⟨p, lo, hi, lt⟩]) := by
    have h1 := (o20.keep1 s21 (fun b' s d hq => by have := hc19 _ _ _ _ _ hq; omega)).ls
    unfold Lc
    rw [← cnts_app, List.length_append]
    exact h1
  have hx21 := hx.ext (x01.trans X21)
  have hy21 := hy.ext (x01.trans X21)
  have b21 := b1.ext X21
  clear h7 h8 h9 h10 h18 h21 a1 d1 k7 k8 o10 o13 o18 o20 kT18 kT20 k21 kC x13 X8 X9 X10 X13 X18 X20 x7 x9 x10
  generalize hNe : N ++ [(⟨p, lo, hi, lt⟩ : Cnt)] = N' at hlc
  refine ⟨r, c, x, sm, y, b21.ra, s58 hx21 hy21 fun m28 e28 => ⟨_, rfl, ?_⟩⟩
  rw [ifB_ndec]
  refine ⟨fun _ => aw _, fun hv => ⟨r, c, x, sm, c19, (k21'.ext e28).ra, s58 (hx21.ext e28) (hlc.ext e28) fun m39 e39 => ⟨_, rfl, ?_⟩⟩⟩
  rw [ifB_ndec]
  refine ⟨fun _ => aw _, fun hv' => ?_⟩
  have E39 := e28.trans e39
  obtain ⟨hO, hsm⟩ := okay_of hv
  obtain ⟨hS, hL9, hrc⟩ := field_of hO.f
  have hN6 := hO.n
  have hN6' := (okay_of hv').1.n
  have hsd := sides_of hO.f
  obtain ⟨hl1, hl2⟩ : (leaveL r c sm L N).length ≤ (leaveL r c sm L N').length ∧ (leaveL r c sm L N').length ≤ (leaveL r c sm L N).length + 1 := by
    subst hNe; exact more_leave hv hv'
  have hll := inc_len (leave_can hv).1
  refine cLeave (hx21.ext E39) (by omega) (hy21.ext E39) (by omega) (b21.ext E39) fun z1 m57 e57 hz1 => ?_
  have E57 := E39.trans e57
  refine cLeave (hx21.ext E57) (by omega) (hlc.ext E57) (by omega) (k21'.ext E57) fun z2 m73 e73 hz2 => ?_
  have E73 := E57.trans e73
  rw [hv, hv']
  refine ifB_ndec.2 ⟨fun h1 => absurd rfl h1, fun _ => ifB_ndec.2 ⟨fun h1 => absurd rfl h1, fun _ => ⟨hz2.isSl, hz1.isSl, ?_⟩⟩⟩
  rw [hz2.slLen, hz1.slLen]
  refine ifB_dec.2 ⟨fun h1 => absurd h1 (by omega), fun _ => ⟨hz2.isSl, hz1.isSl, fits_small (by omega) (by omega), ifB_dec.2 ⟨fun h1 => absurd h1 (by omega), fun _ => ?_⟩⟩⟩
  refine ⟨r, c, x, sm, c19, (k21'.ext E73).ra, s62 (hx21.ext E73) (hlc.ext E73) fun m82 e82 => ⟨_, rfl, ?_⟩⟩
  rw [ifB_ndec]
  refine ⟨fun _ => aw _, fun ht' => ?_⟩
  have E82 := E73.trans e82
  rw [wrap_sm ha.1 (by omega)]
  have q1 : 0 ≤ a % 101 ∧ a % 101 ≤ 100 := by omega
  generalize a % 101 = n at q1
  refine ⟨ha.1, by omega, fits_small (by omega) (by omega), trivial, trivial, x, (b21.ext E82).rc (k := 2) rfl, hx.isSl, ?_⟩
  rw [hx.slLen, wrap_sm hw.1 (by omega)]
  have hLp : 0 < L.length := by
    have := hsd.r1; have := hsd.c1
    have : 0 < r * c := Int.mul_pos (by omega) (by omega)
    omega
  have q2 : 0 ≤ w0 % (L.length : Int) ∧ w0 % (L.length : Int) < L.length := ⟨Int.emod_nonneg _ (by omega), Int.emod_lt_of_pos _ (by omega)⟩
  generalize w0 % (L.length : Int) = pl at q2
  refine ⟨hw.1, by omega, fits_small (by omega) (by omega), ?_⟩
  have ht : trueErr r c L sm N = 0 := by subst hNe; exact (more_bd hv hv' ht' (shareOf L)).1
  have hbd : ∀ num : List Int → Int, loOf ((truthsP c sm L N).map num) ≤ loOf ((truthsP c sm L N').map num) ∧ hiOf ((truthsP c sm L N').map num) ≤ hiOf ((truthsP c sm L N).map num) := fun num => by
    subst hNe; exact (more_bd hv hv' ht' num).2
  have hb0 : ∀ num : List Int → Int, (boundsOf r c L sm N 0 num).1 ≤ (boundsOf r c L sm N' 0 num).1 ∧ (boundsOf r c L sm N' 0 num).2 ≤ (boundsOf r c L sm N 0 num).2 := fun num => by
    unfold boundsOf
    rw [if_pos rfl, if_pos rfl]
    exact hbd num
  have hfw : (fewL r c sm L N' n).length ≤ (fewL r c sm L N n).length := by subst hNe; exact more_few hv hv' ht' q1
  have hask : ∀ M, svErr r c L sm M = 0 → trueErr r c L sm M = 0 → askErr r c L sm M (decide (0 ≤ pl ∧ pl ≤ r * c - 1)) = 0 := fun M h1 h2 => by
    unfold askErr
    rw [if_pos h1, decide_eq_true (by omega)]
    exact h2
  refine cBounds (hx21.ext E82) (by omega) (hy21.ext E82) (by omega) (b21.ext E82) fun m101 m106 e101 e106 kA => ?_
  have E106 := E82.trans (e101.trans e106)
  refine cBounds (hx21.ext E106) (by omega) (hlc.ext E106) (by omega) (k21'.ext E106) fun m120 m125 e120 e125 kB => ?_
  have E125 := E106.trans (e120.trans e125)
  refine cHits (hx21.ext E125) (by omega) (hy21.ext E125) (by omega) (b21.ext E125) fun m139 m144 e139 e144 kG => ?_
  have E144 := E125.trans (e139.trans e144)
  refine cHits (hx21.ext E144) (by omega) (hlc.ext E144) (by omega) (k21'.ext E144) fun m158 m163 e158 e163 kH => ?_
  have E163 := E144.trans (e158.trans e163)
  refine cFew (hx21.ext E163) (by omega) (hy21.ext E163) (by omega) (b21.ext E163) fun z3 m177 e177 hz3 => ?_
  have E177 := E163.trans e177
  refine cFew (hx21.ext E177) (by omega) (hlc.ext E177) (by omega) (k21'.ext E177) fun z4 m193 e193 hz4 => ?_
  rw [hask N hv ht] at kG ⊢
  rw [hask N' hv' ht'] at kH ⊢
  rw [ht] at kA
  rw [ht'] at kB
  rw [ask_in hv q1, ask_in hv' q1, ht, ht', hz3.slLen, hz4.slLen]
  simp only [decide_true, ifB_true]
  have F := e177.trans e193
  have kH' := kH.ext F
  have kG' := kG.ext ((e158.trans e163).trans F)
  have kB' := kB.ext (((e139.trans e144).trans (e158.trans e163)).trans F)
  have kA' := kA.ext ((((e120.trans e125).trans (e139.trans e144)).trans (e158.trans e163)).trans F)
  obtain ⟨u1, u2⟩ := hb0 (shareOf L)
  obtain ⟨u3, u4⟩ := hb0 (fun H => H[pl.toNat]!)
  exact ⟨trivial, _, kB'.rc (k := 0) rfl, trivial, _, kA'.rc (k := 0) rfl, ifB_dec.2 ⟨fun _ => ⟨trivial, _, kB'.rc (k := 1) rfl, trivial, _, kA'.rc (k := 1) rfl, ifB_dec.2 ⟨fun _ =>
    ⟨trivial, _, kH'.rc (k := 0) rfl, trivial, _, kG'.rc (k := 0) rfl, ifB_dec.2 ⟨fun _ => ⟨trivial, _, kH'.rc (k := 1) rfl, trivial, _, kG'.rc (k := 1) rfl, ifB_dec.2 ⟨fun _ =>
    ⟨hz4.isSl, hz3.isSl, ifB_dec.2 ⟨fun _ => aw _, fun h1 => absurd (by omega) h1⟩⟩, fun h1 => absurd u4 h1⟩⟩, fun h1 => absurd u3 h1⟩⟩, fun h1 => absurd u2 h1⟩⟩, fun h1 => absurd u1 h1⟩⟩
end
end Go.Proofs.Ytgkjfhkjgdiodaa

namespace Go.Proofs.Ytgkjfhkjgdiodaa
open _root_.Go.Proofs.Try
open Go.ChangeShapes Go.WideShapes Go.ChangeAt Go.RowKit Go.Abs
set_option maxRecDepth 100000
theorem els_cnts {els : List (List C)} (h : ∀ el ∈ els, All2 PkC [.int .i64, .int .i64, .int .i64, .bool] el) : ∃ N : List Cnt, els = N.map Cnt.cs ∧ PsFit N := by
  induction els with
  | nil => exact ⟨[], rfl, fun c hc => by cases hc⟩
  | cons e es ih =>
    obtain ⟨N, h1, h2⟩ := ih fun el hel => h el (List.mem_cons_of_mem _ hel)
    have he := h e (List.mem_cons_self ..)
    cases he with
    | cons q1 q2 =>
      cases q2 with
      | cons r1 r2 =>
        cases r2 with
        | cons s1 s2 =>
          cases s2 with
          | cons t1 t2 =>
            cases t2
            obtain ⟨p, rfl, hf⟩ := pk_int q1
            obtain ⟨lo, rfl, _⟩ := pk_int r1
            obtain ⟨hi, rfl, _⟩ := pk_int s1
            obtain ⟨b, rfl⟩ := pk_bool t1
            exact ⟨⟨p, lo, hi, b⟩ :: N, by rw [h1]; rfl, fun c hc => (List.mem_cons.1 hc).elim (fun h => h ▸ hf) (h2 c)⟩
/-- a slice of counts that a law is called with -/
theorem lc_of {all : List X} {i : Nat} {x : X} (hi : all[i]? = some x) (hk : XK (.sl [.int .i64, .int .i64, .int .i64, .bool]) x) : ∃ N : List Cnt, Lc (memOf all) (cOf i x) N ∧ PsFit N := by
  obtain ⟨hs, he⟩ := xk_sl hk
  obtain ⟨N, h1, h2⟩ := els_cnts he
  have := ls_of hi hs (k := 4) fun el hel => (he el hel).length.symm
  rw [h1, List.length_map] at this
  exact ⟨N, this, h2⟩
theorem get_mid {A B E : List X} {j : Nat} {x : X} (hx : B[j]? = some x) : (A ++ B ++ E)[A.length + j]? = some x := by
  rw [List.append_assoc, List.getElem?_append_right (by omega), Nat.add_sub_cancel_left, List.getElem?_append_left (List.getElem?_eq_some_iff.1 hx).1]; exact hx
theorem kk30 : kindsOf prog 9 30 = some [.pl (.int .i64), .pl (.int .i64), .sl [.int .i64], .pl (.int .i64), .sl [.int .i64, .int .i64, .int .i64, .bool]] := by kernel_rfl
theorem kk94 : kindsOf prog 9 94 = some [.pl (.int .i64), .pl (.int .i64), .pl (.int .i64), .pl .bool] := by kernel_rfl
theorem kk5 : kindsOf prog 9 5 = some [.pl (.int .u8)] := by kernel_rfl
theorem counts_size {H : Type} {enc : TypeId × Value → H} {W : World} {fu : Nat} {cs : List Value} {d0 : DataW H} {p0 : List MemPlace} (hf : DataW.trod enc Try.prog W 0 (fun _ => true) true fu 30 cs = some (d0, p0)) {ts : List TypeId} {ds : List (DataW H)}
    (h0 : ts[0]? = some 30) (h1 : ds[0]? = some d0) (hsz : (DataW.weightsEach Try.prog ts ds).all (· ≤ reachBytes) = true) {a : Addr} {n cap : Nat} (hv : cs[4]? = some (.slice (some a) n cap)) : n * 32 ≤ 140737488351232 := by
  obtain ⟨ys, n', rfl, hx, hl, hyl, hat⟩ := DataW.trod_struct Try.underlying30 hf
  have hx' : d0 = .agg (ys.map (·.1)) := congrArg Prod.fst hx
  have h4 : DataW.trod enc Try.prog W 0 (fun _ => true) true n' 27 ((cs.drop 4).take (Try.prog.cellsOf 27)) = ys[2]? := hat 2 _ rfl
  have hlt : 4 < cs.length := (List.getElem?_eq_some_iff.1 hv).1
  have hg : cs[4] = .slice (some a) n cap := (List.getElem?_eq_some_iff.1 hv).2
  rw [show Try.prog.cellsOf 27 = 1 from by kernel_rfl, List.drop_eq_getElem_cons hlt, hg] at h4
  have hy2 : 2 < ys.length := by rw [hyl]; decide
  rw [List.getElem?_eq_getElem hy2] at h4
  rcases DataW.trod_slice Try.underlying27 h4 with ⟨hh, _⟩ | ⟨a', len, cap', elems, rest, m', _, hh, hxx, _, _, _, hel, _⟩
  · cases hh
  · have hln : n = len := by injection hh with q _; injection q
    have hy : (ys.map (·.1))[2]? = some (DataW.slice (elems.map (·.1)) (rest.map (·.1))) := by
      rw [List.getElem?_map, List.getElem?_eq_getElem hy2, hxx]; rfl
    have hw : ((elems.map (·.1)).length + (rest.map (·.1)).length) * Try.prog.bytesOf 94 ∈ d0.weights Try.prog 30 := by
      rw [hx']
      have h6 : (DataW.agg (ys.map (·.1))).weights Try.prog 30 = DataW.weightsEach Try.prog [24, 3, 27] (ys.map (·.1)) := by
        simp [DataW.weights, Try.underlying30]
      rw [h6]
      exact DataW.weights_mem_each (j := 2) (t := 27) rfl hy _ (by simp [DataW.weights, Try.underlying27])
    have h7 := List.all_eq_true.1 hsz _ (DataW.weights_mem_each h0 h1 _ hw)
    rw [show Try.prog.bytesOf 94 = 32 from by kernel_rfl] at h7
    simp only [List.length_map, reachBytes, decide_eq_true_eq] at h7
    omega
theorem len_of {W : World} {x : X} {v : Value} {i B : Nat} {es : List Pk} {N : List Cnt} {m : M} (hx : XR W x v) (hk : XK (.sl es) x) (hl : Lc m (cOf i x) N) (hs : ∀ a n cap, v = .slice (some a) n cap → n * 32 ≤ B) : N.length * 32 ≤ B := by
  have h1 := hl.slLen
  obtain ⟨hs', _⟩ := xk_sl hk
  cases x with
  | nilS =>
    have h2 : 0 = N.length := h1
    omega
  | sl a cap els =>
    have h2 : els.length = N.length := h1
    have := hs _ _ _ hx.1
    omega
  | _ => cases hs'
theorem laid : laidOutB prog = true := by kernel_rfl
theorem ownNone : ownKnob prog.godebug = none := by kernel_rfl
theorem more_lifted (os : Os) (started : os.Started) (H : Type) (enc : TypeId × Value → H) :
    ReturnsInHanded {} Try.checked os 12 .any (Rows.frameMoreSpec.pre6 enc Try.prog Try.f12 Rows.frameMoreRow.domain false) (Rows.frameMoreSpec.post enc Try.prog Try.f12 false true false false) := by
  refine returnsInHanded_of_change_sized (C := Try.checked) ownNone started (by kernel_rfl) Try.func12
    (ChangeSpec.witness6 (enc := enc) (C := Try.checked) false ⟨#[], #[.agg #[.int .i64 0, .int .i64 0, .slice none 0 0, .int .i64 0, .slice none 0 0], .agg #[.int .i64 0, .int .i64 0, .int .i64 0, .bool false], .int .u8 0, .int .u8 0], []⟩ 8 (by kernel_rfl) (by kernel_rfl) (by kernel_rfl) (by kernel_rfl)) ?_
  intro W base args ds gs before hval0 hW hcnd hsz0 _
  have hval : ∀ (j : Nat) t v, Try.f12.params[j]? = some t → args[j]? = some v → Value.okWide Try.prog W .any base t v := hval0
  have hW' := hW
  obtain ⟨p, q, hA0, hV, rfl, hfz, hnd⟩ := hW
  have hA : DataW.TrodAll enc Try.prog W 0 (fun _ => true) true Try.f12.params.toList args.toList ds p := hA0
  rw [Try.params12] at hA hval
  obtain ⟨v0, v1, v2, v3, d0, d1, d2, d3, p0, p1, p2, p3, rfl, rfl, rfl, h0, h1, h2, h3⟩ := trodAll_four hA
  obtain ⟨rfl, rfl⟩ := trodVars_none hV
  have hsz : (DataW.weightsEach Try.prog (Try.f12.params.toList ++ []) ([d0, d1, d2, d3] ++ [])).all (· ≤ reachBytes) = true := hsz0
  rw [Try.params12] at hsz
  obtain ⟨n2, hv2⟩ := okWide_int Try.underlying5 (hval 2 5 v2 rfl rfl)
  obtain ⟨n3, hv3⟩ := okWide_int Try.underlying5 (hval 3 5 v3 rfl rfl)
  have hlt : ∀ x ∈ p0 ++ p1 ++ p2 ++ p3, x.block < W.heap.size := fun x hx => by simpa using hW'.lt x (by simpa using hx)
  obtain ⟨fu0, hf0⟩ := id h0
  obtain ⟨fu1, hf1⟩ := id h1
  obtain ⟨fu2, hf2⟩ := id h2
  obtain ⟨fu3, hf3⟩ := id h3
  clear hA0 hval0
  obtain ⟨xs0, x0, y0⟩ := open_trod 9 kk30 hf0
  obtain ⟨xs1, x1, y1⟩ := open_trod 9 kk94 hf1
  obtain ⟨xs2, x2, y2⟩ := open_trod 9 kk5 hf2
  obtain ⟨xs3, x3, y3⟩ := open_trod 9 kk5 hf3
  obtain ⟨cs0, rfl, z0⟩ := agg_of x0 (by rw [← y0.length]; decide)
  obtain ⟨cs1, rfl, z1⟩ := agg_of x1 (by rw [← y1.length]; decide)
  have z2 := x2
  have z3 := x3
  have hall := (((z0.app z1).app z2).app z3)
  have c0 := crs_of (W := W) (all := xs0 ++ xs1 ++ xs2 ++ xs3) (i := ([] : List X).length) (xs := xs0) (fun j x hx => by rw [show xs0 ++ xs1 ++ xs2 ++ xs3 = ([]) ++ xs0 ++ (xs1 ++ xs2 ++ xs3) from by simp only [List.append_assoc, List.nil_append, List.append_nil]]; exact get_mid hx) z0
  have c1 := crs_of (W := W) (all := xs0 ++ xs1 ++ xs2 ++ xs3) (i := (xs0 : List X).length) (xs := xs1) (fun j x hx => by rw [show xs0 ++ xs1 ++ xs2 ++ xs3 = (xs0) ++ xs1 ++ (xs2 ++ xs3) from by simp only [List.append_assoc, List.nil_append, List.append_nil]]; exact get_mid hx) z1
  have c2 := crs_of (W := W) (all := xs0 ++ xs1 ++ xs2 ++ xs3) (i := (xs0 ++ xs1 : List X).length) (xs := xs2) (fun j x hx => by rw [show xs0 ++ xs1 ++ xs2 ++ xs3 = (xs0 ++ xs1) ++ xs2 ++ (xs3) from by simp only [List.append_assoc, List.nil_append, List.append_nil]]; exact get_mid hx) z2
  have c3 := crs_of (W := W) (all := xs0 ++ xs1 ++ xs2 ++ xs3) (i := (xs0 ++ xs1 ++ xs2 : List X).length) (xs := xs3) (fun j x hx => by rw [show xs0 ++ xs1 ++ xs2 ++ xs3 = (xs0 ++ xs1 ++ xs2) ++ xs3 ++ ([]) from by simp only [List.append_assoc, List.nil_append, List.append_nil]]; exact get_mid hx) z3
  have hr := hr_of (W := W) (all := xs0 ++ xs1 ++ xs2 ++ xs3) (xr_some hall)
  cases y0 with
  | cons q0 y0 =>
  cases y0 with
  | cons q1 y0 =>
  cases y0 with
  | cons q2 y0 =>
  cases y0 with
  | cons q3 y0 =>
  cases y0 with
  | cons q4 y0 =>
  cases y0
  cases y1 with
  | cons q5 y1 =>
  cases y1 with
  | cons q6 y1 =>
  cases y1 with
  | cons q7 y1 =>
  cases y1 with
  | cons q8 y1 =>
  cases y1
  cases y2 with
  | cons q9 y2 =>
  cases y2
  cases y3 with
  | cons q10 y3 =>
  cases y3
  obtain ⟨r0, rfl⟩ := xk_int q0
  obtain ⟨c0', rfl⟩ := xk_int q1
  obtain ⟨t0, rfl⟩ := xk_int q3
  obtain ⟨e1, rfl⟩ := xk_int q5
  obtain ⟨f1, rfl⟩ := xk_int q6
  obtain ⟨g1, rfl⟩ := xk_int q7
  obtain ⟨b1, rfl⟩ := xk_bool q8
  obtain ⟨a2, rfl⟩ := xk_int q9
  obtain ⟨a3, rfl⟩ := xk_int q10
  rename_i s0a s0b
  obtain ⟨L0, hL0, _⟩ := li_of (all := [.int .i64 r0, .int .i64 c0', s0a, .int .i64 t0, s0b] ++ [.int .i64 e1, .int .i64 f1, .int .i64 g1, .bool b1] ++ [.int .u8 a2] ++ [.int .u8 a3]) (i := 2) rfl q2
  obtain ⟨N0, hN0, hP0⟩ := lc_of (all := [.int .i64 r0, .int .i64 c0', s0a, .int .i64 t0, s0b] ++ [.int .i64 e1, .int .i64 f1, .int .i64 g1, .bool b1] ++ [.int .u8 a2] ++ [.int .u8 a3]) (i := 4) rfl q4
  obtain ⟨w0, hi0, hw0⟩ := z0.get (i := 4) (x := s0b) rfl
  have hb0 := len_of hw0 q4 hN0 fun a n cap hq => counts_size hf0 rfl rfl hsz (by rw [← hq]; exact hi0)
  subst hv2 hv3
  have fa2 : fitsP .u8 a2 := by
    cases x2 with
    | cons e1 e2 => exact e1.2
  simp only [fitsP] at fa2
  have fa3 : fitsP .u8 a3 := by
    cases x3 with
    | cons e1 e2 => exact e1.2
  simp only [fitsP] at fa3
  have hargs : All2 (VR (envOf W ([.int .i64 r0, .int .i64 c0', s0a, .int .i64 t0, s0b] ++ [.int .i64 e1, .int .i64 f1, .int .i64 g1, .bool b1] ++ [.int .u8 a2] ++ [.int .u8 a3]))) [.agg 5 [.int .i64 r0, .int .i64 c0', cOf 2 s0a, .int .i64 t0, cOf 4 s0b], .agg 4 [.int .i64 e1, .int .i64 f1, .int .i64 g1, .bool b1], .c (.int .u8 a2), .c (.int .u8 a3)] [.agg cs0, .agg cs1, .int .u8 n2, .int .u8 n3] := by
    cases c2 with
    | cons g2 g2' =>
    cases c3 with
    | cons g3 g3' =>
    exact .cons ⟨cs0, rfl, c0, rfl⟩ (.cons ⟨cs1, rfl, c1, rfl⟩ (.cons g2 (.cons g3 (.nil))))
  refine (callsIn_wide.1 (call_of fits htab (s12 (Q := fun v _ => v = .c (.bool true)) hL0 hN0 hb0 ⟨by omega, by omega⟩ ⟨by omega, by omega⟩ fun _ => rfl) hr (args' := #[.agg cs0, .agg cs1, .int .u8 n2, .int .u8 n3]) hargs 0)).mono fun en W' hp => ?_
  obtain ⟨v, v', e', m', rfl, hst, hvr, rfl⟩ := hp
  have hv' : v' = .bool true := hvr
  subst hv'
  have hbelow := below_of hst
  refine ⟨_, rfl, [d0, d1, d2, d3], [], p0 ++ p1 ++ p2 ++ p3, [], p0 ++ (p1 ++ (p2 ++ p3)), [], by simpa using hW', trodAll_mk1 (shut_bool Try.underlying4 _),
    trodAll_mk4 (Below.trod laid (by kernel_rfl) (of_decide_eq_true (by kernel_rfl)) h0 hbelow fun x hx => hlt x (by simp [hx])) (Below.trod laid (by kernel_rfl) (of_decide_eq_true (by kernel_rfl)) h1 hbelow fun x hx => hlt x (by simp [hx])) (Below.trod laid (by kernel_rfl) (of_decide_eq_true (by kernel_rfl)) h2 hbelow fun x hx => hlt x (by simp [hx])) (Below.trod laid (by kernel_rfl) (of_decide_eq_true (by kernel_rfl)) h3 hbelow fun x hx => hlt x (by simp [hx])), rfl, kept_of hst _, fun hc => by cases hc⟩
theorem more_holds : Rows.FrameMoreSaid :=
  OpenClaim.holds_of_wide 12 Try.f12 rfl rfl rfl rfl rfl rfl rfl ⟨rfl, rfl, rfl, rfl, rfl⟩ rfl rfl rfl rfl rfl (by kernel_rfl) Try.func12 (by kernel_rfl)
    (of_decide_eq_true (by kernel_rfl)) (by unfold Func.isWrapper; first | (rw [if_pos (by decide +kernel)]; kernel_rfl) | (rw [if_neg (by decide +kernel)]; exact ⟨rfl, rfl⟩))
    (fun os started H enc _ => more_lifted os started H enc)
end Go.Proofs.Ytgkjfhkjgdiodaa

