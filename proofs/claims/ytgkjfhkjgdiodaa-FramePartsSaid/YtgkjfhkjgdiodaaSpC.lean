/- What functions of the program ask and do. Condition: none; a lemma text of this claim. -/
import Derived.Test.YtgkjfhkjgdiodaaSpB
namespace Go.Proofs.Ytgkjfhkjgdiodaa
open _root_.Go.Proofs.Try
open Go.Abs
set_option maxRecDepth 100000
noncomputable section
/-- the counts that are foreign -/
def forL (D : List Int) : List Cnt → Int → List Int → List Int
  | [], _, _ => []
  | c :: L, i, B => if c.p ∈ B ∨ c.p ∉ D then i :: forL D L (i + 1) (B ++ [c.p]) else forL D L (i + 1) (B ++ [c.p])
def ps (L : List Cnt) : List Int := L.map Cnt.p
theorem ps_take {L : List Cnt} {i : Nat} (h : i < L.length) : ps (L.take (i + 1)) = ps (L.take i) ++ [L[i].p] := by
  unfold ps
  rw [List.take_add_one, List.getElem?_eq_getElem h, List.map_append]; rfl
theorem forL_step {D : List Int} {L : List Cnt} {i : Nat} (h : i < L.length) : forL D (L.drop i) (i : Int) (ps (L.take i)) =
    (if L[i].p ∈ ps (L.take i) ∨ L[i].p ∉ D then [(i : Int)] else []) ++ forL D (L.drop (i + 1)) ((i + 1 : Nat) : Int) (ps (L.take (i + 1))) := by
  rw [List.drop_eq_getElem_cons h]
  rw [ps_take h]
  show (if _ then _ else _) = _
  split <;> simp
theorem forL_len {D : List Int} : ∀ (L : List Cnt) (i : Int) (B : List Int), (forL D L i B).length ≤ L.length
  | [], _, _ => by simp [forL]
  | c :: L, i, B => by
    have := forL_len (D := D) L (i + 1) (B ++ [c.p])
    unfold forL
    split <;> (simp; omega)
theorem ps_len (L : List Cnt) : (ps L).length = L.length := by simp [ps]
/-- the places of counts are numbers that fit -/
def PsFit (L : List Cnt) : Prop := ∀ c ∈ L, fitsP .i64 c.p
theorem s71 {x y : C} {D : List Int} {L : List Cnt} {m : M} {Q : V → M → Prop} (hx : Li m x D) (hD : D.length ≤ 1000) (hy : Lc m y L) (hL : L.length ≤ 1000) (hf : PsFit L) (h : ∀ z m', Ext m m' → Own1 m' 1 z (ints (forL D L 0 [])) (forL D L 0 []).length → Fr m z → Q (.c z) m') : Wc prog tbl 71 [.c x, .c y] m Q := by
  refine w71 fun m0 e0 => ?_
  have x0 : Ext m m0 := by rw [e0]; exact .new m _
  have n0 : m0.nxt = m.nxt + 1 := by rw [e0]; rfl
  have hm0 : MapIs m0 m.nxt [] := ⟨by omega, [], 0, by rw [e0, M.g_new, if_pos rfl], ⟨by simp, by simp⟩⟩
  refine ⟨hy.isSl, fun R1 hstep => ?_⟩
  have hgo : ∀ (d i : Nat) (A : List Int) (c2 : C) (m4 : M), d + i = L.length → A.length ≤ i → Own1 m4 1 c2 (ints A) A.length → Fr m0 c2 → Ext m m4 → m0.nxt ≤ m4.nxt → MapIs m4 m.nxt (ps (L.take i)) → A ++ forL D (L.drop i) (i : Int) (ps (L.take i)) = forL D L 0 [] → R1 [.c c2, .c (.int .i64 (i : Int))] m4 := by
    intro d
    induction d with
    | zero =>
      intro i A c2 m4 hd hA ho hfr he hn hm heq
      refine hstep _ _ _ ?_
      rw [hy.slLen, ifB_dec]
      refine ⟨fun h1 => by omega, fun _ => ?_⟩
      have hi : L.drop i = [] := List.drop_eq_nil_of_le (by omega)
      rw [hi] at heq
      have heq' : A = forL D L 0 [] := by rw [← heq]; show A = A ++ []; simp
      have hq := h c2 m4 he
      rw [← heq'] at hq
      exact hq ho (hfr.mono x0.nxt)
    | succ d ih =>
      intro i A c2 m4 hd hA ho hfr he hn hm heq
      refine hstep _ _ _ ?_
      rw [hy.slLen, ifB_dec]
      refine ⟨fun _ => ?_, fun h1 => by omega⟩
      have hi : i < L.length := by omega
      have hc := List.getElem?_eq_getElem hi
      have hpf := hf _ (List.getElem_mem hi)
      have hy4 := hy.ext he
      rw [forL_step hi] at heq
      refine ⟨i, rfl, hi, L[i].p, L[i].lo, L[i].hi, L[i].late, ?_, fun m10 h10 => ?_⟩
      · rw [Ls.rds hy4 (by omega) (cnts_room hi (by omega)), cnts_all hc]; rfl
      · obtain ⟨b10, x10⟩ := Bk.new h10
        have k11 := b10.set [.int .i64 L[i].p, .int .i64 L[i].lo, .int .i64 L[i].hi, .bool L[i].late]
        have hml : m.nxt < m4.nxt := hm.1
        have x11 : Ext m (m10.set m4.nxt (.cells 4 [.int .i64 L[i].p, .int .i64 L[i].lo, .int .i64 L[i].hi, .bool L[i].late] false)) := (he.trans x10).setR he.nxt _
        have y11 : Ext m4 (m10.set m4.nxt (.cells 4 [.int .i64 L[i].p, .int .i64 L[i].lo, .int .i64 L[i].hi, .bool L[i].late] false)) := x10.setR (Nat.le_refl _) _
        refine ⟨_, b10.st _, ?_⟩
        generalize m10.set m4.nxt (.cells 4 [.int .i64 L[i].p, .int .i64 L[i].lo, .int .i64 L[i].hi, .bool L[i].late] false) = m11 at k11 x11 y11
        have hm11 : MapIs m11 m.nxt (ps (L.take i)) := hm.keep y11.nxt (y11.g _ hml)
        have ho11 := ho.ext y11
        have hps : ps (L.take i) ++ [L[i].p] = ps (L.take (i + 1)) := (ps_take hi).symm
        refine ⟨trivial, L[i].p, k11.rc rfl, _, hm11.lk hpf, ?_⟩
        -- a number is listed
        have happ : (L[i].p ∈ ps (L.take i) ∨ L[i].p ∉ D) → ∀ m18 : M, m18 = m11.new (.cells 1 [.int .i64 (i : Int)] false) → ∃ c19 m20, ApR prog 22 m18 c2 (.sl m11.nxt 0 1 0 (some 1)) c19 m20 ∧ isPt (.ptr m4.nxt 0) ∧ ∃ x21 : Int, ldC m20 (.ptr m4.nxt 0) = some (.int .i64 x21) ∧
            ∃ m22, upM prog 3 m20 (.map m.nxt) (.c (.int .i64 x21)) (.c (.bool true)) = some m22 ∧ fitsP .i64 ((i : Int) + 1) ∧ R1 [.c c19, .c (.int .i64 ((i : Int) + 1))] m22 := fun hor m18 h18 => by
          rw [if_pos hor] at heq
          obtain ⟨c19, m20, q1, q2, q3, q4, q5, q6⟩ := ap_one t22 g3 z3 (by omega) ho11 (ws := [C.int .i64 (i : Int)]) rfl (by omega) h18
          rw [ints_push] at q2
          have hm4 : m4.nxt < m11.nxt := k11.lt
          have kp : ∀ {b : Nat}, b < m0.nxt → b < m11.nxt → m20.g b = m11.g b := fun h1 h2 => q6 _ h2 (hfr.ne h1)
          have ne4 : slB c2 ≠ some m4.nxt := fun hsb => by
            cases ho.own with
            | nil => cases hsb
            | grown b' hg hb' => have h2 : some b' = some m4.nxt := hsb; cases h2; omega
            | lit b' hg hb' => cases hsb
          have hk20 : m20.g m4.nxt = m11.g m4.nxt := q6 _ hm4 ne4
          have hm20 : MapIs m20 m.nxt (ps (L.take i)) := hm11.keep q4 (kp (by omega) (by have := hm11.1; omega))
          obtain ⟨o, u1, u2⟩ := hm20.up hpf
          rw [hps] at u2
          refine ⟨c19, m20, q1, trivial, L[i].p, ldC_of (hk20.trans k11.g) rfl, _, u1, by simp only [fitsP]; omega, ?_⟩
          have x20 : Ext m m20 := x11.keep (hfr.mono x0.nxt) q4 q5 q6
          have f19 : Fr m0 c19 := q3.mono (Nat.le_trans hn y11.nxt)
          refine ih (i + 1) (A ++ [(i : Int)]) c19 _ (by omega) (by simp; omega) ?_ f19 (x20.setR (Nat.le_refl _) _) (Nat.le_trans (Nat.le_trans hn y11.nxt) q4) u2 (by rw [← heq]; simp)
          have := q2.to (m' := m20.set m.nxt o) (Nat.le_refl _) (fun b _ hb => by
            obtain ⟨s', d', hb⟩ := hb
            have := f19 _ _ _ _ _ hb
            rw [M.g_set, if_neg (by omega)])
          simpa using this
        have hskip : ¬ (L[i].p ∈ ps (L.take i) ∨ L[i].p ∉ D) → isPt (.ptr m4.nxt 0) ∧ ∃ x23 : Int, ldC m11 (.ptr m4.nxt 0) = some (.int .i64 x23) ∧ ∃ m24, upM prog 3 m11 (.map m.nxt) (.c (.int .i64 x23)) (.c (.bool true)) = some m24 ∧ fitsP .i64 ((i : Int) + 1) ∧ R1 [.c c2, .c (.int .i64 ((i : Int) + 1))] m24 := fun hor => by
          rw [if_neg hor] at heq
          obtain ⟨o, u1, u2⟩ := hm11.up hpf
          rw [hps] at u2
          refine ⟨trivial, L[i].p, k11.rc rfl, _, u1, by simp only [fitsP]; omega, ?_⟩
          refine ih (i + 1) A c2 _ (by omega) (by omega) (ho11.to (Nat.le_refl _) fun b _ hb => ?_) hfr (x11.setR (Nat.le_refl _) _) (Nat.le_trans hn y11.nxt) u2 (by rw [← heq]; simp)
          obtain ⟨s', d', hb⟩ := hb
          have := hfr _ _ _ _ _ hb
          rw [M.g_set, if_neg (by omega)]
        refine ⟨fun hnone => ?_, fun u hu => ?_⟩
        · have hns : L[i].p ∉ ps (L.take i) := fun hm => by rw [if_pos hm] at hnone; cases hnone
          refine ⟨trivial, L[i].p, k11.rc rfl, s93 (hx.ext x11) (by omega) ⟨_, rfl, ?_⟩⟩
          rw [ifB_ndec]
          exact ⟨fun hd => happ (.inr hd), fun hd => hskip fun h => h.elim hns fun h => h hd⟩
        · by_cases hs : L[i].p ∈ ps (L.take i)
          · rw [if_pos hs] at hu
            cases hu
            exact ⟨true, rfl, happ (.inl hs)⟩
          · rw [if_neg hs] at hu; cases hu
  exact hgo L.length 0 [] .sl0 m0 (by omega) (by simp) (Own1.nil' _ _) (Fr.nil _) x0 (Nat.le_refl _) hm0 rfl
end
end Go.Proofs.Ytgkjfhkjgdiodaa

namespace Go.Proofs.Ytgkjfhkjgdiodaa
open _root_.Go.Proofs.Try
open Go.Abs
set_option maxRecDepth 100000
noncomputable section
theorem s31 {r c s t : Int} {d : Nat} {x y : C} {L : List Int} {N : List Cnt} {m : M} {Q : V → M → Prop} (hx : Li m x L) (hk0 : 0 < L.length) (hk9 : L.length ≤ 9) (hs : 0 ≤ s ∧ s ≤ 9999) (ht : 0 ≤ t ∧ t ≤ 9999) (hd : d ≤ 6) (hdk : d ≤ L.length)
    (hy : Lc m y N) (hN : N.length ≤ 1000)
    (h : ∀ z m', Ext m m' → Own1 m' 1 z (ints (forL (drawL L.length t d 0 s []) N 0 [])) (forL (drawL L.length t d 0 s []) N 0 []).length → Fr m z → Q (.c z) m') :
    Wc prog tbl 31 [.agg 3 [.int .i64 r, .int .i64 c, x], .agg 3 [.int .i64 s, .int .i64 t, .int .i64 (d : Int)], .c y] m Q := by
  refine w31 fun m0 e0 m1 e1 => ?_
  obtain ⟨b0, x0⟩ := Bk.new e0
  obtain ⟨b1, x1⟩ := Bk.new e1
  have x01 := x0.trans x1
  have hDl : (drawL L.length t d 0 s []).length ≤ 1000 := by
    rw [(drawL_ok (t := t) hk0 d 0 s [] ⟨List.nodup_nil, by simp⟩ (by simpa using hdk)).2]; simp; omega
  refine ⟨r, c, x, (b0.ext x1).ra, s, t, (d : Int), b1.ra, s30 (hx.ext x01) hk0 hk9 hs ht hd hdk fun c10 m9 e9 o10 f10 => ⟨_, rfl, fun R11 hstep => ?_⟩⟩
  generalize drawL L.length t d 0 s [] = D at h hDl o10
  have x9 := x01.trans e9
  have hgo : ∀ (k i : Nat) (A : List Int) (c2 c3 : C) (m4 : M), k + i = N.length → A.length ≤ i → Own1 m4 1 c2 (ints A) A.length → Own1 m4 1 c3 (ints (ps (N.take i))) (ps (N.take i)).length → Sep c2 c3 → Fr m9 c2 → Fr m9 c3 → Ext m9 m4 → A ++ forL D (N.drop i) (i : Int) (ps (N.take i)) = forL D N 0 [] →
      R11 [.c c2, .c c3, .c (.int .i64 (i : Int))] m4 := by
    intro k
    induction k with
    | zero =>
      intro i A c2 c3 m4 hd hA ho ho3 hsep hf2 hf3 he heq
      refine hstep _ _ _ _ ⟨hy.isSl, ?_⟩
      rw [hy.slLen, ifB_dec]
      refine ⟨fun h1 => by omega, fun _ => ?_⟩
      have hi : N.drop i = [] := List.drop_eq_nil_of_le (by omega)
      rw [hi] at heq
      have heq' : A = forL D N 0 [] := by rw [← heq]; show A = A ++ []; simp
      have hq := h c2 m4 (x9.trans he)
      rw [← heq'] at hq
      exact hq ho (hf2.mono x9.nxt)
    | succ k ih =>
      intro i A c2 c3 m4 hd hA ho ho3 hsep hf2 hf3 he heq
      refine hstep _ _ _ _ ⟨hy.isSl, ?_⟩
      rw [hy.slLen, ifB_dec]
      refine ⟨fun _ => ?_, fun h1 => by omega⟩
      have hi : i < N.length := by omega
      have hc := List.getElem?_eq_getElem hi
      have hy4 := hy.ext (x9.trans he)
      have h0 : N.length ≠ 0 := by omega
      have hpl : (ps (N.take i)).length ≤ i := by rw [ps_len, List.length_take]; omega
      have hpl2 : (ps (N.take i)).length + 1 = (ps (N.take (i + 1))).length := by rw [ps_len, ps_len, List.length_take, List.length_take]; omega
      rw [forL_step hi] at heq
      -- both lists grow
      have hboth : (N[i].p ∈ ps (N.take i) ∨ N[i].p ∉ D) → ∀ m21 : M, m21 = m4.new (.cells 1 [.int .i64 (i : Int)] false) → ∃ c22 m23, ApR prog 22 m21 c2 (.sl m4.nxt 0 1 0 (some 1)) c22 m23 ∧ ∀ m24 : M, m24 = m23.new (.cells 1 [.int .i64 N[i].p] false) →
          ∃ c25 m26, ApR prog 22 m24 c3 (.sl m23.nxt 0 1 0 (some 1)) c25 m26 ∧ fitsP .i64 ((i : Int) + 1) ∧ R11 [.c c22, .c c25, .c (.int .i64 ((i : Int) + 1))] m26 := fun hor m21 h21 => by
        rw [if_pos hor] at heq
        obtain ⟨c22, m23, q1, q2, q3, q4, q5, q6⟩ := ap_one t22 g3 z3 (by omega) ho (ws := [C.int .i64 (i : Int)]) rfl (by omega) h21
        rw [ints_push] at q2
        have ho3' := ho3.keep q4 q6 hsep
        have hsep2 : Sep c22 c3 := Sep.fresh q3 ho3
        refine ⟨c22, m23, q1, fun m24 h24 => ?_⟩
        obtain ⟨c25, m26, r1, r2, r3, r4, r5, r6⟩ := ap_one t22 g3 z3 (by omega) ho3' (ws := [C.int .i64 N[i].p]) rfl (by omega) h24
        rw [ints_push, ← ps_take hi, hpl2] at r2
        have q2' := q2.keep r4 r6 hsep2.symm
        have x23 := he.keep hf2 q4 q5 q6
        refine ⟨c25, m26, r1, by simp only [fitsP]; omega, ?_⟩
        exact ih (i + 1) (A ++ [(i : Int)]) c22 c25 m26 (by omega) (by simp; omega) (by simpa using q2') r2 (Sep.fresh r3 q2).symm (q3.mono he.nxt) (r3.mono x23.nxt) (x23.keep hf3 r4 r5 r6) (by rw [← heq]; simp)
      refine ⟨i, rfl, hi, hy4.isPt h0 _, N[i].p, ?_, s61 (L := D) (o10.ext he).ls (by omega) ⟨_, rfl, ?_⟩⟩
      · rw [hy4.add h0]; exact Ls.rd hy4 (cnts_at hc rfl)
      · rw [ifB_ndec]
        refine ⟨fun hnd => hboth (.inr hnd), fun hin => s61 (L := ps (N.take i)) ho3.ls (by omega) ⟨_, rfl, ?_⟩⟩
        rw [ifB_dec]
        refine ⟨fun hb => hboth (.inl hb), fun hb m36 h36 => ?_⟩
        rw [if_neg fun h => h.elim hb fun h => h hin] at heq
        obtain ⟨c25, m26, r1, r2, r3, r4, r5, r6⟩ := ap_one t22 g3 z3 (by omega) ho3 (ws := [C.int .i64 N[i].p]) rfl (by omega) h36
        rw [ints_push, ← ps_take hi, hpl2] at r2
        have q2' := ho.keep r4 r6 hsep.symm
        refine ⟨c25, m26, r1, by simp only [fitsP]; omega, ?_⟩
        exact ih (i + 1) A c2 c25 m26 (by omega) (by omega) q2' r2 (Sep.fresh r3 ho).symm hf2 (r3.mono he.nxt) (he.keep hf3 r4 r5 r6) (by rw [← heq]; simp)
  exact hgo N.length 0 [] .sl0 .sl0 m9 (by omega) (by simp) (Own1.nil' _ _) (Own1.nil' _ _) (fun _ _ _ _ _ _ _ _ _ _ h => by cases h) (Fr.nil _) (Fr.nil _) (.refl _) rfl
/-- the error of a lot -/
def lotErr (r c : Int) (L : List Int) (s t d : Int) : Int := if isField r c L then if isLot s t d L.length then 0 else 2 else 1
theorem lotErr_ok {r c : Int} {L : List Int} {s t d : Int} (h : lotErr r c L s t d = 0) : ((1 ≤ r ∧ r ≤ 4) ∧ (1 ≤ c ∧ c ≤ 4) ∧ r * c ≤ 9 ∧ (L.length : Int) = r * c ∧ ∀ v ∈ L, 0 ≤ v ∧ v ≤ 9) ∧ (0 ≤ s ∧ s ≤ 9999) ∧ (0 ≤ t ∧ t ≤ 9999) ∧ (0 ≤ d ∧ d ≤ 6) ∧ d ≤ (L.length : Int) := by
  unfold lotErr at h
  cases h1 : isField r c L with
  | false => rw [h1] at h; simp at h
  | true =>
    cases h2 : isLot s t d L.length with
    | false => rw [h1, h2] at h; simp at h
    | true => exact ⟨of_decide_eq_true h1, of_decide_eq_true h2⟩
/-- the places that are drawn, or none -/
def drawnOf (r c : Int) (L : List Int) (s t d : Int) : List Int := if lotErr r c L s t d = 0 then drawL L.length t d.toNat 0 s [] else []
theorem s21 {r c s t d : Int} {x : C} {L : List Int} {m : M} {Q : V → M → Prop} (hx : Li m x L) (hL : L.length ≤ 1000) (h : ∀ y m', Ext m m' → Own1 m' 1 y (ints (drawnOf r c L s t d)) (drawnOf r c L s t d).length → Q (.tup [.c y, .c (.int .i64 (lotErr r c L s t d))]) m') :
    Wc prog tbl 21 [.agg 3 [.int .i64 r, .int .i64 c, x], .agg 3 [.int .i64 s, .int .i64 t, .int .i64 d]] m Q := by
  refine w21 fun m0 e0 m1 e1 => ?_
  obtain ⟨b0, x0⟩ := Bk.new e0
  obtain ⟨b1, x1⟩ := Bk.new e1
  have b0' := b0.ext x1
  have x01 := x0.trans x1
  refine ⟨r, c, x, b0'.ra, s, t, d, b1.ra, s69 (hx.ext x01) (by omega) fun m9 e9 => ⟨_, rfl, ?_⟩⟩
  change ifB (!decide (lotErr r c L s t d = 0)) (Q (.tup [.c .sl0, .c (.int .i64 (lotErr r c L s t d))]) m9) _
  rw [ifB_ndec]
  refine ⟨fun h1 => h _ m9 (x01.trans e9) ?_, fun h1 => ?_⟩
  · unfold drawnOf; rw [if_neg h1]; exact Own1.nil' _ _
  · obtain ⟨⟨hr, hc, hrc, hl, _⟩, hs, ht, hd, hdk⟩ := lotErr_ok h1
    have hms := mul_small hr.1 hr.2 hc.1 hc.2
    obtain ⟨dn, rfl⟩ : ∃ dn : Nat, d = (dn : Int) := ⟨d.toNat, by omega⟩
    have hpos : 0 < r * c := Int.mul_pos (by omega) (by omega)
    refine ⟨r, c, x, (b0'.ext e9).ra, s, t, _, (b1.ext e9).ra, s70 (k := L.length) hl.symm (by omega) (by omega) (by omega) (by omega) hs ht (by omega) (by omega) fun y m18 e18 o18 f18 => ⟨y, rfl, ?_⟩⟩
    have hq := h y m18 ((x01.trans e9).trans e18)
    unfold drawnOf at hq
    rw [if_pos h1, h1] at hq
    exact hq o18
def forErr (r c : Int) (L : List Int) (s t d : Int) (n : Nat) : Int := if lotErr r c L s t d = 0 then if n ≤ 6 then 0 else 3 else lotErr r c L s t d
def forOf (r c : Int) (L : List Int) (s t d : Int) (N : List Cnt) : List Int := if forErr r c L s t d N.length = 0 then forL (drawnOf r c L s t d) N 0 [] else []
theorem s24 {r c s t d : Int} {x y : C} {L : List Int} {N : List Cnt} {m : M} {Q : V → M → Prop} (hx : Li m x L) (hL : L.length ≤ 1000) (hy : Lc m y N) (hN : N.length ≤ 1000) (hf : PsFit N)
    (h : ∀ z m', Ext m m' → Li m' z (forOf r c L s t d N) → Q (.tup [.c z, .c (.int .i64 (forErr r c L s t d N.length))]) m') :
    Wc prog tbl 24 [.agg 3 [.int .i64 r, .int .i64 c, x], .agg 3 [.int .i64 s, .int .i64 t, .int .i64 d], .c y] m Q := by
  refine w24 fun m0 e0 m1 e1 => ?_
  obtain ⟨b0, x0⟩ := Bk.new e0
  obtain ⟨b1, x1⟩ := Bk.new e1
  have b0' := b0.ext x1
  have x01 := x0.trans x1
  refine ⟨r, c, x, b0'.ra, s, t, d, b1.ra, s69 (hx.ext x01) (by omega) fun m9 e9 => ⟨_, rfl, ?_⟩⟩
  change ifB (!decide (lotErr r c L s t d = 0)) (Q (.tup [.c .sl0, .c (.int .i64 (lotErr r c L s t d))]) m9) _
  have hne : ∀ {v : Int}, forErr r c L s t d N.length = v → v ≠ 0 → Li m9 .sl0 (forOf r c L s t d N) := fun hv h0 => by
    unfold forOf; rw [hv, if_neg h0]; exact Ls.nil _ _
  rw [ifB_ndec]
  refine ⟨fun h1 => ?_, fun h1 => ⟨hy.isSl, ?_⟩⟩
  · have hv : forErr r c L s t d N.length = lotErr r c L s t d := by unfold forErr; rw [if_neg h1]
    have hq := h .sl0 m9 (x01.trans e9) (hne hv h1)
    rw [hv] at hq
    exact hq
  · rw [hy.slLen, ifB_dec]
    refine ⟨fun h2 => ?_, fun h2 => ?_⟩
    · have hv : forErr r c L s t d N.length = 3 := by unfold forErr; rw [if_pos h1, if_neg (by omega)]
      have hq := h .sl0 m9 (x01.trans e9) (hne hv (by omega))
      rw [hv] at hq
      exact hq
    · have hv : forErr r c L s t d N.length = 0 := by unfold forErr; rw [if_pos h1, if_pos (by omega)]
      obtain ⟨⟨hr, hc, hrc, hl, _⟩, hs, ht, hd, hdk⟩ := lotErr_ok h1
      have hms := mul_small hr.1 hr.2 hc.1 hc.2
      obtain ⟨dn, rfl⟩ : ∃ dn : Nat, d = (dn : Int) := ⟨d.toNat, by omega⟩
      have hpos : 0 < r * c := Int.mul_pos (by omega) (by omega)
      have hdl := (drawL_ok (t := t) (k := L.length) (by omega) dn 0 s [] ⟨List.nodup_nil, by simp⟩ (by simp; omega)).2
      refine ⟨r, c, x, (b0'.ext e9).ra, s, t, _, (b1.ext e9).ra, s70 (k := L.length) hl.symm (by omega) (by omega) (by omega) (by omega) hs ht (by omega) (by omega) fun u m18 e18 o18 f18 => ⟨u, rfl, ?_⟩⟩
      refine s71 o18.ls (by rw [hdl]; simp; omega) (hy.ext ((x01.trans e9).trans e18)) hN hf fun z m21 e21 o21 f21 => ⟨z, rfl, ?_⟩
      have hq := h z m21 (((x01.trans e9).trans e18).trans e21)
      rw [hv] at hq
      refine hq ?_
      unfold forOf
      rw [hv, if_pos rfl]
      unfold drawnOf
      rw [if_pos h1]
      exact o21.ls
end
end Go.Proofs.Ytgkjfhkjgdiodaa

namespace Go.Proofs.Ytgkjfhkjgdiodaa
open _root_.Go.Proofs.Try
open Go.Abs
set_option maxRecDepth 100000
noncomputable section
theorem s20 {m : M} {Q : V → M → Prop} (h : Q (.c (.bool true)) m) : Wc prog tbl 20 [] m Q := call_known (show findT tbl 20 = some true from rfl) h
theorem s3 {r c s t d : Int} {x y : C} {L : List Int} {N : List Cnt} {m : M} {Q : V → M → Prop} (hx : Li m x L) (hy : Lc m y N) (hf : PsFit N) (h : ∀ m', Q (.c (.bool true)) m') :
    Wc prog tbl 3 [.agg 3 [.int .i64 r, .int .i64 c, x], .agg 3 [.int .i64 s, .int .i64 t, .int .i64 d], .c y] m Q := by
  refine w3 fun m0 e0 m1 e1 => ?_
  obtain ⟨b0, x0⟩ := Bk.new e0
  obtain ⟨b1, x1⟩ := Bk.new e1
  have b0' := b0.ext x1
  have x01 := x0.trans x1
  refine ⟨r, c, x, b0'.ra, s19 (hx.ext x01) (hy.ext x01) fun m6 e6 => ⟨_, rfl, ?_⟩⟩
  rw [ifB_ndec]
  refine ⟨fun _ => s20 ⟨_, rfl, h _⟩, fun hthin => ?_⟩
  have hL : L.length ≤ 12 := hthin.1
  have hN : N.length ≤ 9 := hthin.2
  have x6 := x01.trans e6
  have f6 := b0'.ext e6
  have l6 := b1.ext e6
  refine ⟨r, c, x, f6.ra, s22 (hx.ext x6) (by omega) fun y1 m15 e15 hy1 _ => ⟨r, c, y1, rfl, s, t, d, (l6.ext e15).ra, l6.ra, s23 fun m23 e23 => ⟨s, t, d, rfl, ?_⟩⟩⟩
  have x23 := (x6.trans e15).trans e23
  have f23 := (f6.ext e15).ext e23
  have l23 := (l6.ext e15).ext e23
  refine s21 (L := L) (hy1.ext e23) (by omega) fun c29 m28 e28 o29 => ⟨c29, _, rfl, ?_⟩
  have h29 := o29.ls
  have x28 := x23.trans e28
  have f28 := f23.ext e28
  have l28 := l23.ext e28
  refine ⟨r, c, x, f28.ra, s22 (hx.ext x28) (by omega) fun y2 m35 e35 hy2 _ => ⟨r, c, y2, rfl, s, t, d, (l28.ext e35).ra, l28.ra, s23 fun m43 e43 => ⟨s, t, d, rfl, ?_⟩⟩⟩
  have x43 := (x28.trans e35).trans e43
  have f43 := (f28.ext e35).ext e43
  have l43 := (l28.ext e35).ext e43
  have h43 := (h29.ext e35).ext e43
  refine s25 (hy.ext x43) (by omega) fun y3 m48 e48 hy3 _ => ⟨y3, rfl, ?_⟩
  refine s24 (L := L) (N := N) ((hy2.ext e43).ext e48) (by omega) hy3 (by omega) hf fun c52 m51 e51 h52 => ⟨c52, _, rfl, ?_⟩
  have x51 := (x43.trans e48).trans e51
  have f51 := (f43.ext e48).ext e51
  have l51 := (l43.ext e48).ext e51
  have h51 := (h43.ext e48).ext e51
  refine ⟨r, c, x, f51.ra, s26 (hx.ext x51) (by omega) fun m58 e58 => ⟨_, rfl, ?_⟩⟩
  have x58 := x51.trans e58
  have f58 := f51.ext e58
  have l58 := l51.ext e58
  -- the lengths of what is returned with an error
  have hlen : ∀ (e : Int), e ≠ 0 → lotErr r c L s t d = e → slLen c29 = 0 ∧ slLen c52 = 0 ∧ forErr r c L s t d N.length = e := fun e he hl => by
    have h1 : drawnOf r c L s t d = [] := by unfold drawnOf; rw [hl, if_neg he]
    have h2 : forErr r c L s t d N.length = e := by unfold forErr; rw [hl, if_neg he]
    have h3 : forOf r c L s t d N = [] := by unfold forOf; rw [h2, if_neg he]
    refine ⟨by rw [h29.slLen, h1]; rfl, by rw [h52.slLen, h3]; rfl, h2⟩
  cases hfd : isField r c L with
  | false =>
    have hl : lotErr r c L s t d = 1 := by unfold lotErr; rw [hfd]; simp
    obtain ⟨q1, q2, q3⟩ := hlen 1 (by omega) hl
    show ifB true _ _
    rw [ifB_true]
    refine ⟨r, c, x, f58.ra, s22 (hx.ext x58) (by omega) fun y4 m64 e64 hy4 _ => ⟨r, c, y4, rfl, s27 hy4 (by omega) fun m69 e69 => ⟨_, rfl, ?_⟩⟩⟩
    rw [hfd, hl, q3, q1, q2]
    show ifB (!decide ((1 : Int) = 1)) _ _
    rw [ifB_ndec]
    refine ⟨fun h1 => absurd rfl h1, fun _ => ?_⟩
    rw [ifB_dec]
    refine ⟨fun _ => ?_, fun h1 => absurd rfl h1⟩
    rw [ifB_dec]
    refine ⟨fun _ => ⟨h29.isSl, h52.isSl, fits_small (by simp) (by simp), ?_⟩, fun h1 => absurd rfl h1⟩
    rw [ifB_dec]
    exact ⟨fun _ => s20 ⟨_, rfl, h _⟩, fun h1 => absurd rfl h1⟩
  | true =>
    show ifB false _ _
    rw [ifB_false]
    refine ⟨r, c, x, f58.ra, s22 (hx.ext x58) (by omega) fun y4 m78 e78 hy4 _ => ⟨r, c, y4, rfl, s27 hy4 (by omega) fun m83 e83 => ⟨_, rfl, ?_⟩⟩⟩
    have x83 := (x58.trans e78).trans e83
    have f83 := (f58.ext e78).ext e83
    have l83 := (l58.ext e78).ext e83
    rw [hfd]
    show ifB (!decide ((0 : Int) = 0)) _ _
    rw [ifB_ndec]
    refine ⟨fun h1 => absurd rfl h1, fun _ => ⟨r, c, x, f83.ra, s, t, d, l83.ra, s28 (hx.ext x83) fun m92 e92 => ⟨_, rfl, ?_⟩⟩⟩
    have x92 := x83.trans e92
    have f92 := f83.ext e92
    have l92 := l83.ext e92
    cases hlt : isLot s t d L.length with
    | false =>
      have hl : lotErr r c L s t d = 2 := by unfold lotErr; rw [hfd, hlt]; simp
      obtain ⟨q1, q2, q3⟩ := hlen 2 (by omega) hl
      rw [hl, q3, q1, q2]
      show ifB true _ _
      rw [ifB_true, ifB_dec]
      refine ⟨fun _ => ?_, fun h1 => absurd rfl h1⟩
      rw [ifB_dec]
      refine ⟨fun _ => ⟨h29.isSl, h52.isSl, fits_small (by simp) (by simp), ?_⟩, fun h1 => absurd rfl h1⟩
      rw [ifB_dec]
      exact ⟨fun _ => s20 ⟨_, rfl, h _⟩, fun h1 => absurd rfl h1⟩
    | true =>
      have hl : lotErr r c L s t d = 0 := by unfold lotErr; rw [hfd, hlt]; simp
      obtain ⟨⟨hr, hc, hrc, hll, _⟩, hs, ht, hd, hdk⟩ := lotErr_ok hl
      have hms := mul_small hr.1 hr.2 hc.1 hc.2
      obtain ⟨dn, rfl⟩ : ∃ dn : Nat, d = (dn : Int) := ⟨d.toNat, by omega⟩
      have hpos : 0 < r * c := Int.mul_pos (by omega) (by omega)
      have hDd : drawnOf r c L s t dn = drawL L.length t dn 0 s [] := by unfold drawnOf; rw [if_pos hl]; rfl
      have hDl : (drawL L.length t dn 0 s []).length ≤ 1000 := by
        rw [(drawL_ok (t := t) (k := L.length) (by omega) dn 0 s [] ⟨List.nodup_nil, by simp⟩ (by simp; omega)).2]; simp; omega
      show ifB false _ _
      rw [ifB_false, hl]
      rw [ifB_ndec]
      refine ⟨fun h1 => absurd rfl h1, fun _ => ⟨r, c, x, f92.ra, s, t, _, l92.ra, s30 (hx.ext x92) (by omega) (by omega) hs ht (by omega) (by omega) fun c105 m104 e104 o105 _ => ⟨c105, rfl, ?_⟩⟩⟩
      have x104 := x92.trans e104
      have h29' := ((((h51.ext e58).ext e78).ext e83).ext e92).ext e104
      rw [hDd] at h29'
      refine s29 h29' o105.ls (by omega) ⟨_, rfl, ?_⟩
      show ifB (!decide (true = true)) _ _
      rw [ifB_ndec]
      refine ⟨fun h1 => absurd rfl h1, fun _ => ⟨hy.isSl, ?_⟩⟩
      rw [hy.slLen, ifB_dec]
      refine ⟨fun h6 => ?_, fun h6 => ?_⟩
      · have hv : forErr r c L s t dn N.length = 3 := by unfold forErr; rw [if_pos hl, if_neg (by omega)]
        have h3 : forOf r c L s t dn N = [] := by unfold forOf; rw [hv, if_neg (by omega)]
        rw [hv, ifB_dec]
        refine ⟨fun _ => ⟨h52.isSl, ?_⟩, fun h1 => absurd rfl h1⟩
        rw [h52.slLen, h3, ifB_dec]
        exact ⟨fun _ => s20 ⟨_, rfl, h _⟩, fun h1 => absurd rfl h1⟩
      · have hv : forErr r c L s t dn N.length = 0 := by unfold forErr; rw [if_pos hl, if_pos (by omega)]
        have h3 : forOf r c L s t dn N = forL (drawL L.length t dn 0 s []) N 0 [] := by unfold forOf; rw [hv, if_pos rfl, hDd]
        rw [hv, ifB_dec]
        refine ⟨fun _ => ⟨r, c, x, (f92.ext e104).ra, s, t, _, (l92.ext e104).ra, s31 (hx.ext x104) (by omega) (by omega) hs ht (by omega) (by omega) (hy.ext x104) (by omega) fun c120 m119 e119 o120 _ => ⟨c120, rfl, ?_⟩⟩, fun h1 => absurd rfl h1⟩
        have h52' := (((((h52.ext e58).ext e78).ext e83).ext e92).ext e104).ext e119
        rw [h3] at h52'
        have := forL_len (D := drawL L.length t dn 0 s []) N 0 []
        refine s29 h52' o120.ls (by omega) ⟨_, rfl, ?_⟩
        show ifB (decide (true = true)) _ _
        rw [ifB_dec]
        exact ⟨fun _ => s20 ⟨_, rfl, h _⟩, fun h1 => absurd rfl h1⟩
end
end Go.Proofs.Ytgkjfhkjgdiodaa
