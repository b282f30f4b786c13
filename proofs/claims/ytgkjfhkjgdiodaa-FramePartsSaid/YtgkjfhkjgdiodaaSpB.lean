/- What functions of the program ask and do. Condition: none; a lemma text of this claim. -/
import Derived.Test.YtgkjfhkjgdiodaaSpA
namespace Go.Proofs.Ytgkjfhkjgdiodaa
open _root_.Go.Proofs.Try
open Go.Abs
set_option maxRecDepth 100000
noncomputable section
theorem ints_push (D : List Int) (n : Int) : ints D ++ [C.int .i64 n] = ints (D ++ [n]) := by simp [ints]
theorem s70 {r c s t : Int} {d : Nat} {x : C} {m : M} {Q : V → M → Prop} {k : Nat} (hk : r * c = (k : Int)) (hr : 0 ≤ r) (hc : 0 ≤ c) (hk0 : 0 < k) (hk9 : k ≤ 9) (hs : 0 ≤ s ∧ s ≤ 9999) (ht : 0 ≤ t ∧ t ≤ 9999) (hd : d ≤ 6) (hdk : d ≤ k)
    (h : ∀ y m', Ext m m' → Own1 m' 1 y (ints (drawL k t d 0 s [])) (drawL k t d 0 s []).length → Fr m y → Q (.c y) m') :
    Wc prog tbl 70 [.agg 3 [.int .i64 r, .int .i64 c, x], .agg 3 [.int .i64 s, .int .i64 t, .int .i64 (d : Int)]] m Q := by
  refine w70 fun m0 e0 m1 e1 => ?_
  obtain ⟨b0, x0⟩ := Bk.new e0
  obtain ⟨b1, x1⟩ := Bk.new e1
  have b0' := b0.ext x1
  have x01 := x0.trans x1
  refine ⟨trivial, s, b1.rc rfl, trivial, (d : Int), b1.rc rfl, fun R4 hstep => ?_⟩
  have hgo : ∀ (n i : Nat) (z : Int) (D : List Int) (c6 : C) (m8 : M), n + i = d → 0 ≤ z → z ≤ 9999 → Own1 m8 1 c6 (ints D) D.length → Fr m1 c6 → Ext m1 m8 → Drawn k D → D.length = i → drawL k t n i z D = drawL k t d 0 s [] → R4 [.c (.int .i64 z), .c c6, .c (.int .i64 (i : Int))] m8 := by
    intro n
    induction n with
    | zero =>
      intro i z D c6 m8 hni hz0 hz1 ho hf he hD hl heq
      refine hstep _ _ _ _ ?_
      rw [ifB_dec]
      refine ⟨fun h1 => by omega, fun _ => ?_⟩
      have hq := h c6 m8 (x01.trans he)
      rw [← heq] at hq
      exact hq ho (hf.mono x01.nxt)
    | succ n ih =>
      intro i z D c6 m8 hni hz0 hz1 ho hf he hD hl heq
      refine hstep _ _ _ _ ?_
      rw [ifB_dec]
      refine ⟨fun _ => ?_, fun h1 => by omega⟩
      have c0 := b0'.ext he
      have c1 := b1.ext he
      have hy0 : 0 ≤ (31 * z + t + (i : Int)) % 9973 := Int.emod_nonneg _ (by omega)
      have hy1 : (31 * z + t + (i : Int)) % 9973 < 9973 := Int.emod_lt_of_pos _ (by omega)
      refine ⟨by omega, hz0, fits_small (by omega) (by omega), trivial, t, c1.rc rfl, fits_small (by omega) (by omega), fits_small (by omega) (by omega), by omega, by omega, fits_small (by omega) (by omega), r, c, x, c0.ra, s88 hr hc (fits_small (by omega) (by omega)) fun m14 e14 => ⟨_, rfl, hy0, by omega, ?_⟩⟩
      rw [hk]
      generalize hyd : (31 * z + t + (i : Int)) % 9973 = y at hy0 hy1
      have hp0 : 0 ≤ y % (k : Int) := Int.emod_nonneg _ (by omega)
      have hp1 : y % (k : Int) < k := Int.emod_lt_of_pos _ (by omega)
      refine ⟨fits_small (by omega) (by omega), fun R16 hin => ?_⟩
      have heq2 : drawL k t n ((i : Int) + 1) y (D ++ [nf k D k (y % k)]) = drawL k t d 0 s [] := by rw [← heq, ← hyd]; rfl
      have hinner : ∀ (f : Nat) (p : Int) (m18 : M), Ext m8 m18 → 0 ≤ p → p < k → (∃ j, j < f ∧ ((p + (j : Int)) % k) ∉ D) → nf k D f p = nf k D k (y % k) → R16 [.c (.int .i64 p)] m18 := by
        intro f
        induction f with
        | zero => intro p m18 _ _ _ hj _; obtain ⟨j, hj, _⟩ := hj; omega
        | succ f ihf =>
          intro p m18 e18 p0 p1 hj hnf
          have ho18 := ho.ext e18
          have he18 := he.trans e18
          refine hin _ _ (s93 (L := D) ho18.ls (by omega) ⟨_, rfl, ?_⟩)
          rw [ifB_dec]
          refine ⟨fun hm => ?_, fun hm => ?_⟩
          · refine ⟨fits_small (by omega) (by omega), r, c, x, (c0.ext e18).ra, s88 hr hc (fits_small (by omega) (by omega)) fun m26 e26 => ⟨_, rfl, by omega, by omega, ?_⟩⟩
            rw [hk]
            obtain ⟨q1, q2⟩ := next_in (n := p) p0 hk0
            refine ⟨fits_small (by omega) (by omega), ihf _ _ (e18.trans e26) q1 q2 ?_ ?_⟩
            · obtain ⟨j, hj1, hj2⟩ := hj
              cases j with
              | zero =>
                rw [show (p + ((0 : Nat) : Int)) % (k : Int) = p from by rw [Int.emod_eq_of_lt (by omega) (by omega)]; omega] at hj2
                exact absurd hm hj2
              | succ j => exact ⟨j, by omega, by rw [mod_step]; exact hj2⟩
            · rw [← hnf]
              show _ = if p ∈ D then nf k D f ((p + 1) % k) else p
              rw [if_pos hm]
          · intro m28 h28
            have hpn : p = nf k D k (y % k) := by
              rw [← hnf]
              show _ = if p ∈ D then nf k D f ((p + 1) % k) else p
              rw [if_neg hm]
            obtain ⟨c29, m30, q1, q2, q3, q4, q5, q6⟩ := ap_step t22 g3 z3 (by omega) ho18 hf he18 (ws := [C.int .i64 p]) rfl (by omega) h28
            refine ⟨c29, m30, q1, fits_small (by omega) (by omega), ?_⟩
            rw [ints_push] at q2
            have hih := ih (i + 1) y (D ++ [p]) c29 m30 (by omega) hy0 (by omega) (by simpa using q2) q3 q4 (by rw [hpn]; exact hD.push hk0 (by omega) hp0 hp1) (by simp; omega) (by rw [hpn]; exact heq2)
            exact hih
      exact hinner k _ _ e14 hp0 hp1 (free_in (by omega) hp0 hp1) rfl
  exact hgo d 0 s [] .sl0 m1 (by omega) hs.1 hs.2 (Own1.nil' _ _) (Fr.nil _) (.refl _) ⟨List.nodup_nil, by simp⟩ rfl rfl
end
end Go.Proofs.Ytgkjfhkjgdiodaa

namespace Go.Proofs.Ytgkjfhkjgdiodaa
open _root_.Go.Proofs.Try
open Go.Abs
set_option maxRecDepth 100000
noncomputable section
def flags (D : List Int) : List C := (List.range 9).map fun j => C.bool (decide (((j : Nat) : Int) ∈ D))
theorem flags_at {D : List Int} {n : Nat} (hn : n < 9) : (flags D)[n]? = some (.bool (decide ((n : Int) ∈ D))) := by
  unfold flags
  rw [List.getElem?_map, List.getElem?_range hn]; rfl
theorem flags_len (D : List Int) : (flags D).length = 9 := by simp [flags]
theorem flags_set {D : List Int} {n : Nat} (hn : n < 9) : (flags D).set n (.bool true) = flags (D ++ [(n : Int)]) := by
  apply List.ext_getElem?
  intro i
  by_cases hi : i < 9
  · rw [flags_at hi, List.getElem?_set]
    by_cases hin : n = i
    · subst hin
      rw [if_pos rfl, if_pos (by rw [flags_len]; exact hn), decide_eq_true (by simp)]
    · rw [if_neg hin, flags_at hi]
      congr 2
      have : ((i : Int) ∈ D ++ [(n : Int)]) ↔ (i : Int) ∈ D := by
        rw [List.mem_append]
        exact ⟨fun h => h.elim id fun h => absurd (by simpa using h) (by omega : ¬ (i : Int) = n), .inl⟩
      simp only [this]
  · rw [List.getElem?_eq_none (by rw [List.length_set, flags_len]; omega), List.getElem?_eq_none (by rw [flags_len]; omega)]
theorem s30 {r c s t : Int} {d : Nat} {x : C} {L : List Int} {m : M} {Q : V → M → Prop} (hx : Li m x L) (hk0 : 0 < L.length) (hk9 : L.length ≤ 9) (hs : 0 ≤ s ∧ s ≤ 9999) (ht : 0 ≤ t ∧ t ≤ 9999) (hd : d ≤ 6) (hdk : d ≤ L.length)
    (h : ∀ y m', Ext m m' → Own1 m' 1 y (ints (drawL L.length t d 0 s [])) (drawL L.length t d 0 s []).length → Fr m y → Q (.c y) m') :
    Wc prog tbl 30 [.agg 3 [.int .i64 r, .int .i64 c, x], .agg 3 [.int .i64 s, .int .i64 t, .int .i64 (d : Int)]] m Q := by
  refine w30 fun m0 e0 m1 e1 m2 e2 => ?_
  obtain ⟨b0, x0⟩ := Bk.new e0
  obtain ⟨b1, x1⟩ := Bk.new e1
  obtain ⟨b2, x2⟩ := Bk.new e2
  have x02 := (x0.trans x1).trans x2
  have n0 : m.nxt < m1.nxt := by have := b0.lt; have := b1.lt; omega
  have n1 : m0.nxt < m1.nxt := b1.lt
  have n2 : m1.nxt < m2.nxt := b2.lt
  generalize hkd : L.length = k at hk0 hk9 hdk h
  refine ⟨trivial, s, (b1.ext x2).rc rfl, fun R4 hstep => ?_⟩
  have hgo : ∀ (n i : Nat) (z : Int) (D : List Int) (c6 : C) (m8 : M), n + i = d → 0 ≤ z → z ≤ 9999 → Own1 m8 1 c6 (ints D) D.length → Fr m2 c6 → Ext m m8 → m2.nxt ≤ m8.nxt → Bk m8 m.nxt 3 [.int .i64 r, .int .i64 c, x] → Bk m8 m0.nxt 3 [.int .i64 s, .int .i64 t, .int .i64 (d : Int)] → Bk m8 m1.nxt 9 (flags D) →
      Drawn k D → D.length = i → drawL k t n i z D = drawL k t d 0 s [] → R4 [.c (.int .i64 z), .c c6, .c (.int .i64 (i : Int))] m8 := by
    intro n
    induction n with
    | zero =>
      intro i z D c6 m8 hni hz0 hz1 ho hf he hn8 c0 c1 c2 hD hl heq
      refine hstep _ _ _ _ ⟨trivial, (d : Int), c1.rc rfl, ?_⟩
      rw [ifB_dec]
      refine ⟨fun h1 => by omega, fun _ => ?_⟩
      have hq := h c6 m8 he
      rw [← heq] at hq
      exact hq ho (hf.mono x02.nxt)
    | succ n ih =>
      intro i z D c6 m8 hni hz0 hz1 ho hf he hn8 c0 c1 c2 hD hl heq
      refine hstep _ _ _ _ ⟨trivial, (d : Int), c1.rc rfl, ?_⟩
      rw [ifB_dec]
      refine ⟨fun _ => ?_, fun h1 => by omega⟩
      have hy0 : 0 ≤ (31 * z + t + (i : Int)) % 9973 := Int.emod_nonneg _ (by omega)
      have hy1 : (31 * z + t + (i : Int)) % 9973 < 9973 := Int.emod_lt_of_pos _ (by omega)
      refine ⟨by omega, hz0, fits_small (by omega) (by omega), trivial, t, c1.rc rfl, fits_small (by omega) (by omega), fits_small (by omega) (by omega), by omega, by omega, fits_small (by omega) (by omega), trivial, x, c0.rc rfl, hx.isSl, hy0, by rw [hx.slLen]; omega, ?_⟩
      rw [hx.slLen, hkd]
      generalize hyd : (31 * z + t + (i : Int)) % 9973 = y at hy0 hy1
      have hp0 : 0 ≤ y % (k : Int) := Int.emod_nonneg _ (by omega)
      have hp1 : y % (k : Int) < k := Int.emod_lt_of_pos _ (by omega)
      refine ⟨fits_small (by omega) (by omega), fun R12 hin => ?_⟩
      have heq2 : drawL k t n ((i : Int) + 1) y (D ++ [nf k D k (y % k)]) = drawL k t d 0 s [] := by rw [← heq, ← hyd]; rfl
      have hinner : ∀ (f : Nat) (p q : Int), 0 ≤ p → p < k → (∃ j, j < f ∧ ((p + (j : Int)) % k) ∉ D) → nf k D f p = nf k D k (y % k) → R12 [.c (.int .i64 p), .c (.int .i64 q)] m8 := by
        intro f
        induction f with
        | zero => intro p q _ _ hj _; obtain ⟨j, hj, _⟩ := hj; omega
        | succ f ihf =>
          intro p q p0 p1 hj hnf
          obtain ⟨pn, rfl⟩ : ∃ pn : Nat, p = (pn : Int) := ⟨p.toNat, by omega⟩
          have hpn9 : pn < 9 := by omega
          refine hin _ _ _ ⟨trivial, pn, rfl, hpn9, _, c2.rc (by rw [show 0 + pn * 1 = pn by omega]; exact flags_at hpn9), ?_⟩
          rw [ifB_dec]
          refine ⟨fun hm => ⟨fits_small (by omega) (by omega), trivial, x, c0.rc rfl, hx.isSl, ?_⟩, fun hm => ⟨trivial, pn, rfl, hpn9, ?_⟩⟩
          · rw [hx.slLen, hkd, ifB_dec]
            have hnext : ∀ q', ((pn : Int) + 1) % (k : Int) = q' → R12 [.c (.int .i64 q'), .c (.int .i64 q')] m8 := fun q' hq' => by
              obtain ⟨q1, q2⟩ := next_in (n := (pn : Int)) p0 hk0
              rw [hq'] at q1 q2
              refine ihf _ _ q1 q2 ?_ ?_
              · obtain ⟨j, hj1, hj2⟩ := hj
                cases j with
                | zero =>
                  rw [show ((pn : Int) + ((0 : Nat) : Int)) % (k : Int) = pn from by rw [Int.emod_eq_of_lt (by omega) (by omega)]; omega] at hj2
                  exact absurd hm hj2
                | succ j => exact ⟨j, by omega, by rw [← hq', mod_step]; exact hj2⟩
              · rw [← hnf, ← hq']
                show _ = if (pn : Int) ∈ D then nf k D f (((pn : Int) + 1) % k) else (pn : Int)
                rw [if_pos hm]
            refine ⟨fun h1 => hnext 0 (by rw [h1]; exact Int.emod_self), fun h1 => hnext _ (Int.emod_eq_of_lt (by omega) (by omega))⟩
          · have hpn : (pn : Int) = nf k D k (y % k) := by
              rw [← hnf]
              show _ = if (pn : Int) ∈ D then nf k D f (((pn : Int) + 1) % k) else (pn : Int)
              rw [if_neg hm]
            have hst := stC_at c2.g (k := pn) (.bool true) (by rw [flags_len]; exact hpn9) (flags_len D) (by omega)
            rw [show 0 + pn * 1 = pn by omega]
            refine ⟨_, hst, fun m21 h21 => ?_⟩
            rw [flags_set hpn9] at h21
            have ne6 : ∀ b o n s d, c6 = .sl b o n s d → b ≠ m1.nxt := fun b o n s d hb => by have := hf b o n s d hb; omega
            have ho20 : Own1 (m8.set m1.nxt (.cells 9 (flags (D ++ [(pn : Int)])) false)) 1 c6 (ints D) D.length := ho.to (Nat.le_refl _) fun b _ hb => by
              obtain ⟨s', d', hb⟩ := hb
              rw [M.g_set, if_neg (ne6 _ _ _ _ _ hb)]
            have k0 := c0.setNe (c := m1.nxt) (by omega) (.cells 9 (flags (D ++ [(pn : Int)])) false)
            have k1 := c1.setNe (c := m1.nxt) (by omega) (.cells 9 (flags (D ++ [(pn : Int)])) false)
            have k2 := c2.set (flags (D ++ [(pn : Int)]))
            have ex20 : Ext m (m8.set m1.nxt (.cells 9 (flags (D ++ [(pn : Int)])) false)) := he.setR (by omega) _
            have nx20 : m2.nxt ≤ (m8.set m1.nxt (.cells 9 (flags (D ++ [(pn : Int)])) false)).nxt := hn8
            rw [flags_set hpn9]
            generalize m8.set m1.nxt (.cells 9 (flags (D ++ [(pn : Int)])) false) = m20 at ho20 k0 k1 k2 ex20 nx20 h21 ⊢
            obtain ⟨c29, m30, q1, q2, q3, q4, q5, q6⟩ := ap_one t22 g3 z3 (by omega) ho20 (ws := [C.int .i64 (pn : Int)]) rfl (by omega) h21
            refine ⟨c29, m30, q1, fits_small (by omega) (by omega), ?_⟩
            rw [ints_push] at q2
            have hfm : ∀ {b : Nat}, b < m2.nxt → ∀ b' o n' s' d, c6 = .sl b' o n' s' d → b' ≠ b := fun hb b' o n' s' d hx => by have := hf b' o n' s' d hx; omega
            exact ih (i + 1) y (D ++ [(pn : Int)]) c29 m30 (by omega) hy0 (by omega) (by simpa using q2) (q3.mono nx20) (ex20.keep (hf.mono x02.nxt) q4 q5 q6) (by omega)
              (k0.keep q4 q6 (hfm (by omega))) (k1.keep q4 q6 (hfm (by omega))) (k2.keep q4 q6 (hfm n2)) (by rw [hpn]; exact hD.push hk0 (by omega) hp0 hp1) (by simp; omega) (by rw [hpn]; exact heq2)
      exact hinner k _ _ hp0 hp1 (free_in (by omega) hp0 hp1) rfl
  exact hgo d 0 s [] .sl0 m2 (by omega) hs.1 hs.2 (Own1.nil' _ _) (Fr.nil _) x02 (Nat.le_refl _) ((b0.ext x1).ext x2) (b1.ext x2) b2 ⟨List.nodup_nil, by simp⟩ rfl rfl
end
end Go.Proofs.Ytgkjfhkjgdiodaa

namespace Go.Proofs.Ytgkjfhkjgdiodaa
open _root_.Go.Proofs.Try
open Go.Abs
set_option maxRecDepth 100000
noncomputable section
/-! ### counts -/
structure Cnt where
  p : Int
  lo : Int
  hi : Int
  late : Bool
def Cnt.cs (c : Cnt) : List C := [.int .i64 c.p, .int .i64 c.lo, .int .i64 c.hi, .bool c.late]
def cnts (L : List Cnt) : List C := L.flatMap Cnt.cs
theorem cnts_len (L : List Cnt) : (cnts L).length = L.length * 4 := by
  induction L with
  | nil => rfl
  | cons c L ih => show (c.cs ++ cnts L).length = _; rw [List.length_append, ih]; show 4 + _ = _; simp; omega
theorem cnts_drop {L : List Cnt} : ∀ {i : Nat} {c : Cnt}, L[i]? = some c → ∃ r, (cnts L).drop (i * 4) = c.cs ++ r := by
  induction L with
  | nil => intro i c h; simp at h
  | cons a L ih =>
    intro i c h
    cases i with
    | zero => simp at h; subst h; exact ⟨cnts L, rfl⟩
    | succ i =>
      obtain ⟨r, hr⟩ := ih (i := i) (c := c) (by simpa using h)
      refine ⟨r, ?_⟩
      show (a.cs ++ cnts L).drop ((i + 1) * 4) = _
      rw [← hr, show (i + 1) * 4 = a.cs.length + i * 4 by show _ = 4 + i * 4; omega, List.drop_append, List.drop_eq_nil_of_le (by omega), Nat.add_sub_cancel_left, List.nil_append]
theorem cnts_at {L : List Cnt} {i j : Nat} {c : Cnt} {x : C} (h : L[i]? = some c) (hx : c.cs[j]? = some x) : (cnts L)[i * 4 + j]? = some x := by
  obtain ⟨r, hr⟩ := cnts_drop h
  rw [← List.getElem?_drop, hr, List.getElem?_append_left (List.getElem?_eq_some_iff.1 hx).1]
  exact hx
theorem cnts_all {L : List Cnt} {i : Nat} {c : Cnt} (h : L[i]? = some c) : ((cnts L).drop (i * 4)).take 4 = c.cs := by
  obtain ⟨r, hr⟩ := cnts_drop h
  rw [hr]; rfl
theorem cnts_mid {L : List Cnt} {i : Nat} {c : Cnt} (h : L[i]? = some c) : ((cnts L).drop (i * 4 + 1)).take 2 = [.int .i64 c.lo, .int .i64 c.hi] := by
  obtain ⟨r, hr⟩ := cnts_drop h
  rw [← List.drop_drop, hr]; rfl
theorem cnts_room {L : List Cnt} {i : Nat} (h : i < L.length) {j : Nat} (hj : j ≤ 4) : i * 4 + j ≤ (cnts L).length := by rw [cnts_len]; omega
theorem cnts_app (L : List Cnt) (c : Cnt) : cnts L ++ c.cs = cnts (L ++ [c]) := by simp [cnts]
abbrev Lc (m : M) (x : C) (L : List Cnt) : Prop := Ls m 4 x (cnts L) L.length
theorem t40 : tk prog 40 = .sl 84 := by kernel_rfl
theorem g84 : growOk prog 84 = true := by kernel_rfl
theorem z84 : prog.cellsOf 84 = 4 := by kernel_rfl
theorem s25 {x : C} {L : List Cnt} {m : M} {Q : V → M → Prop} (hx : Lc m x L) (hL : L.length ≤ 1000000) (h : ∀ y m', Ext m m' → Lc m' y L → Fr m y → Q (.c y) m') : Wc prog tbl 25 [.c x] m Q := by
  refine w25 fun R0 hstep => ?_
  have hgo : ∀ (d i : Nat) (c1 : C) (m3 : M), d + i = L.length → Own1 m3 4 c1 (cnts (L.take i)) i → Fr m c1 → Ext m m3 → R0 [.c c1, .c (.int .i64 (i : Int))] m3 := by
    intro d
    induction d with
    | zero =>
      intro i c1 m3 hd ho hf he
      refine hstep _ _ _ ⟨hx.isSl, ?_⟩
      rw [hx.slLen, ifB_dec]
      refine ⟨fun h1 => by omega, fun _ => h c1 m3 he ?_ hf⟩
      have hi : i = L.length := by omega
      subst hi
      have := ho.ls
      rw [List.take_of_length_le (Nat.le_refl _)] at this
      exact this
    | succ d ih =>
      intro i c1 m3 hd ho hf he
      refine hstep _ _ _ ⟨hx.isSl, ?_⟩
      rw [hx.slLen, ifB_dec]
      refine ⟨fun _ => ?_, fun h1 => by omega⟩
      have hi : i < L.length := by omega
      have hx3 := hx.ext he
      have h0 : L.length ≠ 0 := by omega
      have hc := List.getElem?_eq_getElem hi
      refine ⟨i, rfl, hi, hx3.isPt h0 _, L[i].p, ?_, i, rfl, hi, hx3.isPt h0 _, L[i].lo, L[i].hi, ?_, s45 fun m10 e10 => ?_⟩
      · rw [hx3.add h0]; exact Ls.rd hx3 (cnts_at hc rfl)
      · rw [hx3.add h0, Ls.rds hx3 (by omega) (by have := cnts_room hi (j := 3) (by omega); omega), cnts_mid hc]
      · have hx10 := hx3.ext e10
        refine ⟨L[i].lo, L[i].hi, rfl, ?_, i, rfl, hi, hx3.isPt h0 _, L[i].late, ?_, ?_, fun m15 h15 => ?_⟩
        · rw [hx10.add h0]; exact Ls.rd hx10 (cnts_at hc rfl)
        · rw [hx10.add h0]; exact Ls.rd hx10 (cnts_at hc rfl)
        · rw [hx3.add h0]; exact Ls.rd hx3 (cnts_at hc rfl)
        · obtain ⟨c, m17, q1, q2, q3, q4, q5, q6⟩ := ap_one t40 g84 z84 (by omega) (ho.ext e10) (ws := L[i].cs) rfl (by omega) h15
          refine ⟨c, m17, q1, by simp only [fitsP]; omega, ?_⟩
          have he10 := he.trans e10
          refine ih (i + 1) c m17 (by omega) ?_ (q3.mono he10.nxt) (he10.keep hf q4 q5 q6)
          rw [cnts_app] at q2
          rw [List.take_add_one, hc]
          exact q2
  exact hgo L.length 0 .sl0 m (by omega) (Own1.nil' _ _) (Fr.nil _) (.refl _)

/-! ### a map from numbers -/
theorem k3 : plainK prog 3 = some [CK.int .i64] := by kernel_rfl
theorem a3 : isAggT prog 3 = false := by kernel_rfl
theorem fits_of {n : Int} (h : fitsP .i64 n) : Go.Abs.fits .i64 n = true := by
  have h1 : -9223372036854775808 ≤ n ∧ n < 9223372036854775808 := h
  cases n with
  | ofNat a =>
    show ltN a 9223372036854775808 = true
    exact Nat.ble_eq_true_of_le (show a + 1 ≤ 9223372036854775808 by have := h1.2; simp at this; omega)
  | negSucc a =>
    show ltN a 9223372036854775808 = true
    exact Nat.ble_eq_true_of_le (show a + 1 ≤ 9223372036854775808 by have := h1.1; omega)
theorem eq3 {a b : Int} (ha : fitsP .i64 a) (hb : fitsP .i64 b) : eqV prog 3 (.c (.int .i64 a)) (.c (.int .i64 b)) = some (decide (a = b)) := by
  unfold eqV shaped
  rw [k3, optB_some, a3]
  show optB (ifB (kindEq .i64 .i64) (ifB (kindEq .i64 .i64) (ifB (Go.Abs.fits .i64 a) (ifB (Go.Abs.fits .i64 b) (some (intEq a b)) none) none) none) none) none (fun b' => optB (some true) none fun r => some (ifB b' r false)) = _
  rw [fits_of ha, fits_of hb]
  show some (ifB (intEq a b) true false) = _
  have : intEq a b = decide (a = b) := by
    cases a <;> cases b
    · rename_i x y
      show Nat.beq x y = _
      cases hq : Nat.beq x y with
      | true => rw [Nat.eq_of_beq_eq_true hq]; simp
      | false =>
        have : x ≠ y := fun h => by rw [h, Nat.beq_refl] at hq; cases hq
        rw [decide_eq_false fun h => this (Int.ofNat.inj h)]
    · exact (decide_eq_false (by simp)).symm
    · exact (decide_eq_false (by simp)).symm
    · rename_i x y
      show Nat.beq x y = _
      cases hq : Nat.beq x y with
      | true => rw [Nat.eq_of_beq_eq_true hq]; simp
      | false =>
        have : x ≠ y := fun h => by rw [h, Nat.beq_refl] at hq; cases hq
        rw [decide_eq_false (by simpa using this)]
  rw [this]
  cases decide (a = b) <;> rfl
structure Keys (es : List E) (S : List Int) : Prop where
  sub : ∀ e ∈ es, ∃ v, e.k = .c (.int .i64 v) ∧ e.v = .c (.bool true) ∧ fitsP .i64 v ∧ v ∈ S
  all : ∀ v ∈ S, ∃ e ∈ es, e.k = .c (.int .i64 v)
theorem find_key {a : Int} (ha : fitsP .i64 a) : ∀ {es : List E} (i : Nat), (∀ e ∈ es, ∃ v, e.k = .c (.int .i64 v) ∧ e.v = .c (.bool true) ∧ fitsP .i64 v) →
    (findE prog 3 (.c (.int .i64 a)) es i = some none ∧ ∀ e ∈ es, e.k ≠ .c (.int .i64 a)) ∨ ∃ j e, es[j]? = some e ∧ e.k = .c (.int .i64 a) ∧ findE prog 3 (.c (.int .i64 a)) es i = some (some (i + j, .c (.bool true)))
  | [], i, _ => .inl ⟨rfl, by simp⟩
  | e :: es, i, h => by
    obtain ⟨v, h1, h2, h3⟩ := h e (List.mem_cons_self ..)
    have h4 : findE prog 3 (.c (.int .i64 a)) (e :: es) i = ifB (decide (a = v)) (some (some (i, e.v))) (findE prog 3 (.c (.int .i64 a)) es (i + 1)) := by
      show optB (eqV prog 3 (.c (.int .i64 a)) (uV e.k)) none _ = _
      rw [h1]
      show optB (eqV prog 3 (.c (.int .i64 a)) (.c (.int .i64 v))) none _ = _
      rw [eq3 ha h3]; rfl
    by_cases hav : a = v
    · subst hav
      rw [decide_eq_true rfl] at h4
      exact .inr ⟨0, e, rfl, h1, by rw [h4, h2]; rfl⟩
    · rw [decide_eq_false hav] at h4
      rcases find_key ha (i + 1) (fun e' he' => h e' (List.mem_cons_of_mem _ he')) with ⟨q1, q2⟩ | ⟨j, e', q1, q2, q3⟩
      · refine .inl ⟨by rw [h4]; exact q1, fun e' he' => ?_⟩
        rcases List.mem_cons.1 he' with rfl | he'
        · rw [h1]; intro h; injection h with h; injection h with _ h; exact hav h.symm
        · exact q2 e' he'
      · exact .inr ⟨j + 1, e', by simpa using q1, q2, by rw [h4]; show findE _ _ _ _ _ = _; rw [q3, show i + 1 + j = i + (j + 1) by omega]⟩
theorem setEntry_eq {k v : U} : ∀ {es : List E} {j : Nat} {e : E}, es[j]? = some e → setEntry k v es j = es.set j { k := k, v := v, born := e.born }
  | [], j, e, h => by simp at h
  | x :: es, 0, e, h => by simp at h; subst h; rfl
  | x :: es, j + 1, e, h => by
    show consS x (setEntry k v es j) = _
    rw [setEntry_eq (e := e) (by simpa using h), consS_eq]; rfl
/-- a map that holds just these numbers, with true -/
def MapIs (m : M) (b : Nat) (S : List Int) : Prop := b < m.nxt ∧ ∃ es clock, m.g b = some (.map es clock) ∧ Keys es S
theorem MapIs.keep {m m' : M} {b : Nat} {S : List Int} (h : MapIs m b S) (hn : m.nxt ≤ m'.nxt) (hg : m'.g b = m.g b) : MapIs m' b S := by
  obtain ⟨h1, es, clock, h2, h3⟩ := h
  exact ⟨by omega, es, clock, by rw [hg]; exact h2, h3⟩
theorem MapIs.lk {m : M} {b : Nat} {S : List Int} (h : MapIs m b S) {a : Int} (ha : fitsP .i64 a) : lkM prog 3 m (.map b) (.c (.int .i64 a)) = some (if a ∈ S then some (.c (.bool true)) else none) := by
  obtain ⟨_, es, clock, h2, h3⟩ := h
  unfold lkM
  rw [k3, optB_some, eq3 ha ha, optB_some]
  show (match m.g b with | some (.map es _) => optB (findE prog 3 (.c (.int .i64 a)) es 0) none fun f => some (optB f none fun q => some q.2) | _ => none) = _
  rw [h2]
  show optB (findE prog 3 (.c (.int .i64 a)) es 0) none _ = _
  rcases find_key ha 0 (fun e he => let ⟨v, q1, q2, q3, _⟩ := h3.sub e he; ⟨v, q1, q2, q3⟩) with ⟨q1, q2⟩ | ⟨j, e, q1, q2, q3⟩
  · have : a ∉ S := fun hm => by
      obtain ⟨e, he, hk⟩ := h3.all a hm
      exact q2 e he hk
    rw [q1, if_neg this]; rfl
  · have : a ∈ S := by
      obtain ⟨v, r1, _, _, r4⟩ := h3.sub e (List.mem_of_getElem? q1)
      rw [q2] at r1
      injection r1 with r1; injection r1 with _ r1
      rw [r1]; exact r4
    rw [q3, if_pos this]; rfl
theorem MapIs.up {m : M} {b : Nat} {S : List Int} (h : MapIs m b S) {a : Int} (ha : fitsP .i64 a) : ∃ o, upM prog 3 m (.map b) (.c (.int .i64 a)) (.c (.bool true)) = some (m.set b o) ∧ MapIs (m.set b o) b (S ++ [a]) := by
  obtain ⟨hb, es, clock, h2, h3⟩ := h
  have hu : upM prog 3 m (.map b) (.c (.int .i64 a)) (.c (.bool true)) = optB (findE prog 3 (.c (.int .i64 a)) es 0) none fun f =>
      some (optB f (m.set b (.map (appS es [{ k := .c (.int .i64 a), v := .c (.bool true), born := clock }]) (Nat.succ clock))) fun q => m.set b (.map (setEntry (.c (.int .i64 a)) (.c (.bool true)) es q.1) clock)) := by
    unfold upM
    rw [k3, optB_some]
    show (match m.g b with
      | some (.map es clock) => optB (vU (.c (.int .i64 a))) none fun ku => optB (vU (.c (.bool true))) none fun yu => optB (eqV prog 3 (.c (.int .i64 a)) (.c (.int .i64 a))) none fun _ => optB (findE prog 3 (.c (.int .i64 a)) es 0) none fun f =>
        some (optB f (m.set b (.map (appS es [{ k := ku, v := yu, born := clock }]) (Nat.succ clock))) fun q => m.set b (.map (setEntry ku yu es q.1) clock))
      | _ => none) = _
    rw [h2]
    show optB (eqV prog 3 (.c (.int .i64 a)) (.c (.int .i64 a))) none _ = _
    rw [eq3 ha ha]; rfl
  rcases find_key ha 0 (fun e he => let ⟨v, q1, q2, q3, _⟩ := h3.sub e he; ⟨v, q1, q2, q3⟩) with ⟨q1, q2⟩ | ⟨j, e, q1, q2, q3⟩
  · rw [q1] at hu
    refine ⟨_, hu, hb, _, _, by rw [M.g_set, if_pos rfl], fun e he => ?_, fun v hv => ?_⟩
    · rw [appS_eq] at he
      rcases List.mem_append.1 he with he | he
      · obtain ⟨v, r1, r2, r3, r4⟩ := h3.sub e he
        exact ⟨v, r1, r2, r3, List.mem_append_left _ r4⟩
      · have : e = _ := List.mem_singleton.1 he
        subst this
        exact ⟨a, rfl, rfl, ha, by simp⟩
    · rw [appS_eq]
      rcases List.mem_append.1 hv with hv | hv
      · obtain ⟨e, he, hk⟩ := h3.all v hv
        exact ⟨e, List.mem_append_left _ he, hk⟩
      · have : v = a := List.mem_singleton.1 hv
        subst this
        exact ⟨_, List.mem_append_right _ (List.mem_singleton.2 rfl), rfl⟩
  · rw [q3] at hu
    refine ⟨_, hu, hb, _, _, by rw [M.g_set, if_pos rfl], fun e' he => ?_, fun v hv => ?_⟩
    · have he : e' ∈ setEntry (.c (.int .i64 a)) (.c (.bool true)) es (0 + j) := he
      rw [Nat.zero_add, setEntry_eq q1] at he
      rcases List.mem_or_eq_of_mem_set he with he | rfl
      · obtain ⟨v, r1, r2, r3, r4⟩ := h3.sub e' he
        exact ⟨v, r1, r2, r3, List.mem_append_left _ r4⟩
      · exact ⟨a, rfl, rfl, ha, by simp⟩
    · show ∃ e' ∈ setEntry (.c (.int .i64 a)) (.c (.bool true)) es (0 + j), _
      rw [Nat.zero_add, setEntry_eq q1]
      have hj := (List.getElem?_eq_some_iff.1 q1).1
      have hnew : v = a → ∃ e' ∈ es.set j { k := .c (.int .i64 a), v := .c (.bool true), born := e.born }, e'.k = .c (.int .i64 v) := fun hva => ⟨_, List.mem_of_getElem? (i := j) (by rw [List.getElem?_set, if_pos rfl, if_pos hj]), by rw [hva]⟩
      rcases List.mem_append.1 hv with hv | hv
      · obtain ⟨e', he, hk⟩ := h3.all v hv
        obtain ⟨i, hi⟩ := List.mem_iff_getElem?.1 he
        by_cases hij : j = i
        · subst hij
          rw [q1] at hi; cases hi
          rw [q2] at hk
          injection hk with hk; injection hk with _ hk
          exact hnew hk.symm
        · exact ⟨e', List.mem_of_getElem? (i := i) (by rw [List.getElem?_set, if_neg hij]; exact hi), hk⟩
      · exact hnew (List.mem_singleton.1 hv)
end
end Go.Proofs.Ytgkjfhkjgdiodaa
