/- What functions of the program ask and do. Condition: none; a lemma text of this claim. -/
import Derived.Test.YtgkjfhkjgdiodaaTxD
namespace Go.Proofs.Ytgkjfhkjgdiodaa
open _root_.Go.Proofs.Try
open Go.Abs
set_option maxRecDepth 100000
/-- one draw more -/
theorem drawL_push {k : Nat} {t : Int} : ∀ (n : Nat) (i x : Int) (D : List Int), ∃ v, drawL k t (n + 1) i x D = drawL k t n i x D ++ [v]
  | 0, i, x, D => ⟨_, rfl⟩
  | n + 1, i, x, D => drawL_push n (i + 1) ((31 * x + t + i) % 9973) (D ++ [nf k D k (((31 * x + t + i) % 9973) % k)])
/-- counts at places -/
def plain (D : List Int) : List Cnt := D.map fun p => ⟨p, 0, 0, false⟩
theorem ps_plain (D : List Int) : ps (plain D) = D := by simp [ps, plain, List.map_map, Function.comp_def]
theorem plain_len (D : List Int) : (plain D).length = D.length := by simp [plain]
theorem plain_push (D : List Int) (p : Int) : plain D ++ [⟨p, 0, 0, false⟩] = plain (D ++ [p]) := by simp [plain]
/-- counts at places that were drawn are not foreign -/
theorem forL_none {D : List Int} : ∀ (E : List Int) (i : Int) (B : List Int), (∀ v ∈ E, v ∈ D) → E.Nodup → (∀ v ∈ E, v ∉ B) → forL D (plain E) i B = []
  | [], _, _, _, _, _ => rfl
  | e :: E, i, B, h1, h2, h3 => by
    rw [List.nodup_cons] at h2
    show (if e ∈ B ∨ e ∉ D then _ else forL D (plain E) (i + 1) (B ++ [e])) = _
    rw [if_neg fun h => h.elim (h3 e (List.mem_cons_self ..)) fun h => h (h1 e (List.mem_cons_self ..))]
    refine forL_none E _ _ (fun v hv => h1 v (List.mem_cons_of_mem _ hv)) h2.2 fun v hv hb => ?_
    rcases List.mem_append.1 hb with hb | hb
    · exact h3 v (List.mem_cons_of_mem _ hv) hb
    · exact h2.1 (by rw [← List.mem_singleton.1 hb]; exact hv)
theorem forL_app {D : List Int} : ∀ (L R : List Cnt) (i : Int) (B : List Int), forL D (L ++ R) i B = forL D L i B ++ forL D R (i + L.length) (B ++ ps L)
  | [], R, i, B => by simp [forL, ps]
  | c :: L, R, i, B => by
    have h : forL D (L ++ R) (i + 1) (B ++ [c.p]) = forL D L (i + 1) (B ++ [c.p]) ++ forL D R (i + ((c :: L).length : Int)) (B ++ ps (c :: L)) := by
      rw [forL_app L R]
      congr 2
      · simp; omega
      · simp [ps]
    show (if _ then i :: forL D (L ++ R) (i + 1) (B ++ [c.p]) else forL D (L ++ R) (i + 1) (B ++ [c.p])) = (if _ then i :: forL D L (i + 1) (B ++ [c.p]) else forL D L (i + 1) (B ++ [c.p])) ++ _
    rw [h]
    split <;> simp
/-- the same place once more is -/
theorem forL_twice {D E : List Int} (h1 : ∀ v ∈ E, v ∈ D) (h2 : E.Nodup) {e : Int} (he : e ∈ E) : forL D (plain E ++ [⟨e, 0, 0, false⟩]) 0 [] = [(E.length : Int)] := by
  rw [forL_app, forL_none E 0 [] h1 h2 (by simp), ps_plain]
  show [] ++ (if e ∈ [] ++ E ∨ e ∉ D then [(0 : Int) + (plain E).length] else []) = _
  rw [if_pos (.inl (by simpa using he)), plain_len]; simp
end Go.Proofs.Ytgkjfhkjgdiodaa

namespace Go.Proofs.Ytgkjfhkjgdiodaa
open _root_.Go.Proofs.Try
open Go.Abs
set_option maxRecDepth 100000
noncomputable section
theorem t27 : tk prog 27 = .sl 94 := by kernel_rfl
theorem g94 : growOk prog 94 = true := by kernel_rfl
theorem z94 : prog.cellsOf 94 = 4 := by kernel_rfl
theorem mGrow_ext (m : M) (k : Nat) : Ext m (mGrow m k) := ⟨Nat.le_add_right _ _, fun _ _ => rfl, rfl⟩
theorem noFn3 {a b : Int} {x : C} (h : noFnC x = true) : allS noFnC [C.int .i64 a, C.int .i64 b, x] = true := by
  show ifB true (ifB true (ifB (noFnC x) true false) false) false = true
  rw [h]; rfl
/-- counts at places, of which there are few -/
theorem fits_places {D : List Int} {k : Nat} (hD : Drawn k D) (hk : k ≤ 1000) : ∀ v ∈ D, fitsP .i64 v := fun v hv => by
  have := hD.rg v hv
  exact fits_small (by omega) (by omega)
theorem psFit_plain {D : List Int} (h : ∀ v ∈ D, fitsP .i64 v) : PsFit (plain D) := fun c hc => by
  obtain ⟨v, hv, rfl⟩ := List.mem_map.1 hc
  exact h v hv
theorem s11 {r c s t d : Int} {x : C} {L : List Int} {m : M} {Q : V → M → Prop} (hx : Li m x L) (h : ∀ m', Q (.c (.bool true)) m') :
    Wc prog tbl 11 [.agg 3 [.int .i64 r, .int .i64 c, x], .agg 3 [.int .i64 s, .int .i64 t, .int .i64 d]] m Q := by
  refine w11 fun m0 e0 m1 e1 => ?_
  obtain ⟨b0, x0⟩ := Bk.new e0
  obtain ⟨b1, x1⟩ := Bk.new e1
  have f1 := b0.ext x1
  have x01 := x0.trans x1
  refine ⟨trivial, x, f1.rc rfl, hx.isSl, ?_⟩
  rw [hx.slLen, ifB_dec]
  refine ⟨fun _ => s20 ⟨_, rfl, h _⟩, fun hL => ?_⟩
  refine ⟨r, c, x, f1.ra, s26 (hx.ext x01) (by omega) fun m10 e10 => ⟨_, rfl, ?_⟩⟩
  have x10 := x01.trans e10
  have f10 := f1.ext e10
  have l10 := b1.ext e10
  cases hfd : isField r c L with
  | false => exact s20 ⟨_, rfl, h _⟩
  | true =>
  show ifB false _ _
  rw [ifB_false]
  refine ⟨r, c, x, f10.ra, s, t, d, l10.ra, s28 (hx.ext x10) fun m22 e22 => ⟨_, rfl, ?_⟩⟩
  have x22 := x10.trans e22
  have f22 := f10.ext e22
  have l22 := l10.ext e22
  cases hlt : isLot s t d L.length with
  | false => exact s20 ⟨_, rfl, h _⟩
  | true =>
  show ifB false _ _
  rw [ifB_false]
  refine ⟨trivial, d, l22.rc rfl, ?_⟩
  rw [ifB_dec]
  refine ⟨fun _ => s20 ⟨_, rfl, h _⟩, fun hd0 => ?_⟩
  -- what is drawn
  have hl : lotErr r c L s t d = 0 := by unfold lotErr; rw [hfd, hlt]; simp
  obtain ⟨⟨hr, hc, hrc, hll, _⟩, hs, ht, hd, hdk⟩ := lotErr_ok hl
  have hms := mul_small hr.1 hr.2 hc.1 hc.2
  have hpos : 0 < r * c := Int.mul_pos (by omega) (by omega)
  obtain ⟨dn, rfl⟩ : ∃ dn : Nat, d = (dn : Int) + 1 := ⟨(d - 1).toNat, by omega⟩
  have hk0 : 0 < L.length := by omega
  have hl' : lotErr r c L s t ((dn : Int) + 1 - 1) = 0 := by
    unfold lotErr
    rw [hfd, if_pos rfl, if_pos]
    exact decide_eq_true ⟨hs, ht, ⟨by omega, by omega⟩, by omega⟩
  obtain ⟨v, hv⟩ := drawL_push (k := L.length) (t := t) dn 0 s []
  obtain ⟨hD, hDl⟩ := drawL_ok (k := L.length) (t := t) hk0 (dn + 1) 0 s [] ⟨List.nodup_nil, by simp⟩ (by simp; omega)
  obtain ⟨_, hDl'⟩ := drawL_ok (k := L.length) (t := t) hk0 dn 0 s [] ⟨List.nodup_nil, by simp⟩ (by simp; omega)
  have hDo : drawnOf r c L s t ((dn : Int) + 1) = drawL L.length t (dn + 1) 0 s [] := by unfold drawnOf; rw [if_pos hl]; rfl
  have hDo' : drawnOf r c L s t ((dn : Int) + 1 - 1) = drawL L.length t dn 0 s [] := by unfold drawnOf; rw [if_pos hl', show ((dn : Int) + 1 - 1).toNat = dn by omega]
  have htake : (drawL L.length t (dn + 1) 0 s []).take dn = drawL L.length t dn 0 s [] := by
    rw [hv, List.take_append_of_le_length (by simp at hDl'; omega), List.take_of_length_le (by simp at hDl'; omega)]
  generalize hDD : drawL L.length t (dn + 1) 0 s [] = D at hD hDl hDo htake
  generalize hDD' : drawL L.length t dn 0 s [] = D' at hDl' hDo' htake
  simp only [List.length_nil, Nat.zero_add] at hDl hDl'
  have hfit := fits_places hD (by omega)
  refine ⟨r, c, x, f22.ra, s22 (hx.ext x22) (by omega) fun y1 m35 e35 hy1 _ => ⟨r, c, y1, rfl, s, t, _, (l22.ext e35).ra, l22.ra, s23 fun m43 e43 => ⟨s, t, _, rfl, ?_⟩⟩⟩
  have x43 := (x22.trans e35).trans e43
  have f43 := (f22.ext e35).ext e43
  have l43 := (l22.ext e35).ext e43
  refine s21 (L := L) (hy1.ext e43) (by omega) fun c49 m48 e48 o49 => ⟨c49, _, rfl, ?_⟩
  rw [hDo] at o49
  have x48 := x43.trans e48
  have f48 := f43.ext e48
  have l48 := l43.ext e48
  refine ⟨s, t, _, l48.ra, fun m54 h54 => ?_⟩
  obtain ⟨b54, x54⟩ := Bk.new h54
  have k55 := b54.set [.int .i64 s, .int .i64 t, .int .i64 ((dn : Int) + 1)]
  have x55 : Ext m48 (m54.set m48.nxt (.cells 3 [.int .i64 s, .int .i64 t, .int .i64 ((dn : Int) + 1)] false)) := x54.setR (Nat.le_refl _) _
  refine ⟨_, b54.st _, trivial, _, k55.rc rfl, fits_small (by omega) (by omega), trivial, ?_⟩
  generalize m54.set m48.nxt (.cells 3 [.int .i64 s, .int .i64 t, .int .i64 ((dn : Int) + 1)] false) = m55 at k55 x55
  have hst := stC_at k55.g (k := 2) (.int .i64 ((dn : Int) + 1 - 1)) (by simp) rfl (by omega)
  have k57 := k55.set [.int .i64 s, .int .i64 t, .int .i64 ((dn : Int) + 1 - 1)]
  have x57 : Ext m48 (m55.set m48.nxt (.cells 3 [.int .i64 s, .int .i64 t, .int .i64 ((dn : Int) + 1 - 1)] false)) := x55.setR (Nat.le_refl _) _
  have hst' : stC m55 (.ptr m48.nxt 2) 1 [.int .i64 ((dn : Int) + 1 - 1)] = some (m55.set m48.nxt (.cells 3 [.int .i64 s, .int .i64 t, .int .i64 ((dn : Int) + 1 - 1)] false)) := hst
  refine ⟨_, hst', ?_⟩
  generalize m55.set m48.nxt (.cells 3 [.int .i64 s, .int .i64 t, .int .i64 ((dn : Int) + 1 - 1)] false) = m57 at k57 x57 ⊢
  have f57 := f48.ext x57
  have l57 := l48.ext x57
  refine ⟨r, c, x, f57.ra, s22 (hx.ext (x48.trans x57)) (by omega) fun y2 m62 e62 hy2 _ => ⟨r, c, y2, rfl, s, t, _, (k57.ext e62).ra, k57.ra, s23 fun m70 e70 => ⟨s, t, _, rfl, ?_⟩⟩⟩
  refine s21 (L := L) (hy2.ext e70) (by omega) fun c76 m75 e75 o76 => ⟨c76, _, rfl, ?_⟩
  rw [hDo'] at o76
  have e5775 := (e62.trans e70).trans e75
  have x75 : Ext m m75 := (x48.trans x57).trans e5775
  have f75 := f57.ext e5775
  have l75 := l57.ext e5775
  have k75 := k57.ext e5775
  have o49' := (o49.ext x57).ext e5775
  have h49 := o49'.ls
  rw [hl, hl', ifB_ndec]
  refine ⟨fun h1 => absurd rfl h1, fun _ => ?_⟩
  rw [ifB_ndec]
  refine ⟨fun h1 => absurd rfl h1, fun _ => ⟨h49.isSl, trivial, _, l75.rc rfl, ?_⟩⟩
  rw [h49.slLen, hDl, ifB_ndec]
  refine ⟨fun h1 => absurd (by omega) h1, fun _ => ⟨o76.ls.isSl, trivial, _, k75.rc rfl, ?_⟩⟩
  rw [o76.ls.slLen, hDl', ifB_ndec]
  refine ⟨fun h1 => absurd (by omega) h1, fun _ => ?_⟩
  obtain ⟨c82, hc82, h82⟩ := o49'.sub (j := dn) (by omega) (by omega)
  rw [Nat.mul_one] at h82
  have h82' : Li m75 c82 D' := by
    have : (ints D).take dn = ints D' := by rw [← htake]; simp [ints, List.map_take]
    rw [this] at h82
    rw [← hDl'] at h82
    exact h82
  refine ⟨o76.ls.isSl, 0, dn, rfl, rfl, c82, hc82, s29 h82' o76.ls (by omega) ⟨_, rfl, ?_⟩⟩
  show ifB (!decide (true = true)) _ _
  rw [ifB_ndec]
  refine ⟨fun h1 => absurd rfl h1, fun _ R86 hstep => ?_⟩
  have hgo : ∀ (n i : Nat) (b : Bool) (c88 : C) (m90 : M), n + i = D.length → Own1 m90 4 c88 (cnts (plain (D.take (min i 5)))) (plain (D.take (min i 5))).length → Fr m75 c88 → Ext m75 m90 → R86 [.c (.bool b), .c c88, .c (.int .i64 (i : Int))] m90 := by
    intro n
    induction n with
    | zero =>
      intro i b c88 m90 hni ho hf he
      refine hstep _ _ _ _ ⟨h49.isSl, ?_⟩
      rw [ifB_dec]
      refine ⟨fun h1 => by omega, fun _ => ?_⟩
      have x90 := x75.trans he
      have f90 := f75.ext he
      have l90 := l75.ext he
      -- the counts
      generalize hE : D.take (min i 5) = E at ho
      have hEl : E.length = min D.length 5 := by rw [← hE, List.length_take]; omega
      have hEne : 0 < E.length := by omega
      have hEsub : ∀ v ∈ E, v ∈ D := fun v hv => by rw [← hE] at hv; exact List.mem_of_mem_take hv
      have hEnd : E.Nodup := by rw [← hE]; exact hD.nd.sublist (List.take_sublist _ _)
      have hEfit : PsFit (plain E) := psFit_plain fun v hv => hfit v (hEsub v hv)
      have hEp : (plain E).length = E.length := plain_len E
      have h0c : (plain E)[0]? = some ⟨E[0], 0, 0, false⟩ := by unfold plain; rw [List.getElem?_map, List.getElem?_eq_getElem hEne]; rfl
      refine ⟨r, c, x, f90.ra, s22 (hx.ext x90) (by omega) fun y3 m114 e114 hy3 _ => ⟨r, c, y3, rfl, s, t, _, (l90.ext e114).ra, l90.ra, s23 fun m122 e122 => ⟨s, t, _, rfl, ?_⟩⟩⟩
      refine s25 (L := plain E) ((ho.ls.ext e114).ext e122) (by omega) fun c128 m127 e127 h128 _ => ⟨c128, rfl, ?_⟩
      refine s24 (L := L) (N := plain E) ((hy3.ext e122).ext e127) (by omega) h128 (by omega) hEfit fun c131 m130 e130 h131 => ⟨c131, _, rfl, fun m133 h133 => ?_⟩
      have e90130 := ((e114.trans e122).trans e127).trans e130
      have x130 := x90.trans e90130
      have hx133 : Ext m130 m133 := by rw [h133]; exact mGrow_ext _ _
      have hn133 : m133.nxt = m130.nxt + 2 := by rw [h133]; rfl
      have f133 := (f90.ext e90130).ext hx133
      have l133 := (l90.ext e90130).ext hx133
      have o133 := (ho.ext e90130).ext hx133
      have hb88 : ∀ b' o n s d, c88 = .sl b' o n s d → b' < m130.nxt := fun b' o n s d hb => (ho.ext e90130).lt hb
      refine ⟨r, c, x, f133.ra, s22 (hx.ext (x130.trans hx133)) (by omega) fun y4 m138 e138 hy4 fr4 => ⟨r, c, y4, rfl, s, t, _, (l133.ext e138).ra, l133.ra, s23 fun m146 e146 => ⟨s, t, _, rfl, fun m150 h150 => ?_⟩⟩⟩
      have e133146 := e138.trans e146
      have f146 := f133.ext e133146
      have l146 := l133.ext e133146
      have o146 := o133.ext e133146
      have nx146 : m130.nxt + 2 ≤ m146.nxt := by have := e133146.nxt; omega
      have x150 : Ext m133 m150 ∨ True := .inr trivial
      have g150 : ∀ b', b' ≠ m130.nxt + 0 → m150.g b' = m146.g b' := fun b' hb' => by rw [h150, M.g_set, if_neg hb']
      have v150 : m150.vw = m146.vw := by rw [h150]; rfl
      have n150 : m150.nxt = m146.nxt := by rw [h150]; rfl
      have lit : Own1 m150 4 (.sl (m130.nxt + 0) 0 0 0 (some 0)) [] 0 := ⟨rfl, .lit _ (by rw [h150, M.g_set, if_pos rfl]) (by omega)⟩
      have f150 : Bk m150 m.nxt 3 [.int .i64 r, .int .i64 c, x] := ⟨by rw [g150 _ (by have := f90.lt; have := e90130.nxt; omega)]; exact f146.g, by rw [n150]; exact f146.lt⟩
      have l150 : Bk m150 m0.nxt 3 [.int .i64 s, .int .i64 t, .int .i64 ((dn : Int) + 1)] := ⟨by rw [g150 _ (by have := l90.lt; have := e90130.nxt; omega)]; exact l146.g, by rw [n150]; exact l146.lt⟩
      have o150 : Own1 m150 4 c88 (cnts (plain E)) (plain E).length := o146.to (by omega) fun b' _ hb' => by
        obtain ⟨s', d', hb'⟩ := hb'
        exact g150 _ (by have := hb88 _ _ _ _ _ hb'; omega)
      have ev150 : Ext m130 m150 := ⟨by have := e133146.nxt; omega, fun b' hb' => by rw [g150 _ (by omega), e133146.g _ (by omega)]; exact hx133.g _ hb', by rw [v150, e133146.vw]; exact hx133.vw⟩
      refine ⟨l150.ra, ?_⟩
      rw [noFn3 hx.noFn, ifB_true]
      obtain ⟨m152, q1, q2, q3, q4, q5⟩ := ap_own t27 g94 z94 lit o150.ls (by omega) (by omega) (by omega)
      have g152 : ∀ b', b' ≠ m150.nxt → m152.g b' = m150.g b' := fun b' hb' => q5 b' hb' (by intro h; cases h)
      have ev152 : Ext m130 m152 := ⟨by have := ev150.nxt; omega, fun b' hb' => by rw [g152 _ (by have := ev150.nxt; omega)]; exact ev150.g _ hb', by rw [q4]; exact ev150.vw⟩
      have o152 : Own1 m152 4 c88 (cnts (plain E)) (plain E).length := o150.to (by omega) fun b' hb' _ => g152 _ (by omega)
      have f152 : Bk m152 m.nxt 3 [.int .i64 r, .int .i64 c, x] := ⟨by rw [g152 _ (by have := f150.lt; omega)]; exact f150.g, by have := f150.lt; omega⟩
      have l152 : Bk m152 m0.nxt 3 [.int .i64 s, .int .i64 t, .int .i64 ((dn : Int) + 1)] := ⟨by rw [g152 _ (by have := l150.lt; omega)]; exact l150.g, by have := l150.lt; omega⟩
      have hrd : ∀ {mm : M}, Own1 mm 4 c88 (cnts (plain E)) (plain E).length → ldA mm (slAt c88 (0 * 4)) 4 = some [.int .i64 E[0], .int .i64 0, .int .i64 0, .bool false] := fun hoo => by
        rw [Ls.rds hoo.ls (by omega) (cnts_room (by omega) (by omega)), cnts_all h0c]; rfl
      refine ⟨f150.ra, _, m152, q1, 0, rfl, by rw [o152.ls.slLen]; omega, E[0], 0, 0, false, hrd o152, hrd o150, hrd o146, hrd (o133.ext e138), hrd o133, fun m158 h158 => ?_⟩
      have g158 : ∀ b', b' ≠ m130.nxt + 1 → m158.g b' = m152.g b' := fun b' hb' => by rw [h158, M.g_set, if_neg hb']
      have v158 : m158.vw = m152.vw := by rw [h158]; rfl
      have n158 : m158.nxt = m152.nxt := by rw [h158]; rfl
      have f158 : Bk m158 m.nxt 3 [.int .i64 r, .int .i64 c, x] := ⟨by rw [g158 _ (by have := f90.lt; have := e90130.nxt; omega)]; exact f152.g, by rw [n158]; exact f152.lt⟩
      have l158 : Bk m158 m0.nxt 3 [.int .i64 s, .int .i64 t, .int .i64 ((dn : Int) + 1)] := ⟨by rw [g158 _ (by have := l90.lt; have := e90130.nxt; omega)]; exact l152.g, by rw [n158]; exact l152.lt⟩
      have ev158 : Ext m130 m158 := ⟨by have := ev152.nxt; omega, fun b' hb' => by rw [g158 _ (by omega)]; exact ev152.g _ hb', by rw [v158]; exact ev152.vw⟩
      have oc151 : Own1 m158 4 (.sl m150.nxt 0 (0 + (plain E).length) 4 none) ([] ++ cnts (plain E)) (0 + (plain E).length) := q2.to (by omega) fun b' _ hb' => by
        obtain ⟨s', d', hb'⟩ := hb'
        cases hb'
        exact g158 _ (by omega)
      have hg158 : m158.g (m130.nxt + 1) = some (.cells 4 (Cnt.cs ⟨E[0], 0, 0, false⟩) false) := by rw [h158, M.g_set, if_pos rfl]; rfl
      have one : Ls m158 4 (.sl (m130.nxt + 1) 0 1 0 (some 1)) (Cnt.cs ⟨E[0], 0, 0, false⟩) 1 := Ls.one hg158 rfl (by omega) 0 (some 1)
      refine ⟨l158.ra, ?_⟩
      rw [ifB_true]
      obtain ⟨m160, r1, r2, r3, r4, r5⟩ := ap_own t27 g94 z94 oc151 one (by omega) (by omega) (by omega)
      have ev160 : Ext m130 m160 := ⟨by have := ev158.nxt; omega, fun b' hb' => by
        have := ev150.nxt
        rw [r5 _ (by have := ev158.nxt; omega) (by intro h; have h2 : some m150.nxt = some b' := h; cases h2; omega)]; exact ev158.g _ hb', by rw [r4]; exact ev158.vw⟩
      have h159 : Lc m160 (.sl m158.nxt 0 (0 + (plain E).length + 1) 4 none) (plain E ++ [⟨E[0], 0, 0, false⟩]) := by
        have h1 := r2.ls
        rw [List.nil_append, cnts_app] at h1
        have h2 : (plain E ++ [(⟨E[0], 0, 0, false⟩ : Cnt)]).length = 0 + (plain E).length + 1 := by rw [List.length_append, List.length_singleton, Nat.zero_add]
        unfold Lc
        rw [h2]
        exact h1
      have hN2 : (plain E ++ [(⟨E[0], 0, 0, false⟩ : Cnt)]).length = E.length + 1 := by rw [List.length_append, hEp]; rfl
      have hfit2 : PsFit (plain E ++ [⟨E[0], 0, 0, false⟩]) := by
        rw [plain_push]
        refine psFit_plain fun v hv => ?_
        rcases List.mem_append.1 hv with hv | hv
        · exact hfit v (hEsub v hv)
        · have h1 := List.mem_singleton.1 hv
          rw [h1]
          exact hfit _ (hEsub _ (List.getElem_mem hEne))
      refine ⟨f158.ra, _, m160, r1, s25 h159 (by omega) fun c163 m162 e162 h163 _ => ⟨c163, rfl, ?_⟩⟩
      have e146y : Li m162 y4 L := by
        have h1 : Li m160 y4 L := hy4.to (by have := e146.nxt; omega) (fun b' hb' hb2 => by
          obtain ⟨o', s', d', hb2⟩ := hb2
          have hge := fr4 _ _ _ _ _ hb2
          have := e146.nxt
          rw [r5 _ (by omega) (by intro h; have h2 : some m150.nxt = some b' := h; cases h2; omega), g158 _ (by omega), g152 _ (by omega), g150 _ (by omega), e146.g _ hb']) (by rw [r4, v158, q4, v150, e146.vw])
        exact h1.ext e162
      refine s24 (L := L) (N := plain E ++ [⟨E[0], 0, 0, false⟩]) e146y (by omega) h163 (by omega) hfit2 fun c166 m165 e165 h166 => ⟨c166, _, rfl, ?_⟩
      have hv1 : forErr r c L s t ((dn : Int) + 1) (plain E).length = 0 := by unfold forErr; rw [if_pos hl, if_pos (by omega)]
      have hv2 : forErr r c L s t ((dn : Int) + 1) (plain E ++ [(⟨E[0], 0, 0, false⟩ : Cnt)]).length = 0 := by unfold forErr; rw [if_pos hl, if_pos (by omega)]
      have ho1 : forOf r c L s t ((dn : Int) + 1) (plain E) = [] := by unfold forOf; rw [hv1, if_pos rfl, hDo]; exact forL_none E 0 [] hEsub hEnd (by simp)
      have ho2 : forOf r c L s t ((dn : Int) + 1) (plain E ++ [⟨E[0], 0, 0, false⟩]) = [(E.length : Int)] := by unfold forOf; rw [hv2, if_pos rfl, hDo]; exact forL_twice hEsub hEnd (List.getElem_mem hEne)
      rw [hv1, hv2, ifB_dec]
      refine ⟨fun _ => ⟨h131.isSl, ?_⟩, fun h1 => absurd rfl h1⟩
      rw [h131.slLen, ho1, ifB_dec]
      refine ⟨fun _ => ?_, fun h1 => absurd rfl h1⟩
      rw [ifB_dec]
      refine ⟨fun _ => ⟨o152.ls.isSl, fun m168 h168 => ?_⟩, fun h1 => absurd rfl h1⟩
      rw [o152.ls.slLen, hEp] at h168
      obtain ⟨b168, x168⟩ := Bk.new h168
      rw [ho2] at h166
      have h168l : Li m168 (.sl m165.nxt 0 1 0 (some 1)) [(E.length : Int)] := Ls.one b168.g rfl b168.lt 0 (some 1)
      refine s29 (h166.ext x168) h168l (by simp) ⟨_, rfl, ?_⟩
      show ifB (decide (true = true)) _ _
      rw [ifB_dec]
      exact ⟨fun _ => s20 ⟨_, rfl, h _⟩, fun h1 => absurd rfl h1⟩
    | succ n ih =>
      intro i b c88 m90 hni ho hf he
      refine hstep _ _ _ _ ⟨h49.isSl, ?_⟩
      rw [ifB_dec]
      refine ⟨fun _ => ?_, fun h1 => by omega⟩
      have hi : i < D.length := by omega
      have h90 := h49.ext he
      have f90 := f75.ext he
      have hrg := hD.rg _ (List.getElem_mem hi)
      have hrd := Li.rd h90 (List.getElem?_eq_getElem hi)
      refine ⟨i, rfl, by omega, D[i], hrd, trivial, x, f90.rc rfl, hx.isSl, by rw [hx.slLen]; exact fits_small (by omega) (by omega), s44 ⟨_, rfl, ?_⟩⟩
      rw [hx.slLen, ifB_ndec]
      refine ⟨fun h1 => absurd ⟨by omega, by omega⟩ h1, fun _ => ?_⟩
      obtain ⟨c99, hc99, h99⟩ := (o49'.ext he).sub (j := i) (by omega) (by omega)
      have h99' : Li m90 c99 (D.take i) := by
        have h1 : (ints D).take (i * 1) = ints (D.take i) := by rw [Nat.mul_one]; simp [ints, List.map_take]
        have h2 : (D.take i).length = i := by rw [List.length_take]; omega
        rw [h1, ← h2] at h99
        rw [h2] at h99
        rw [show Li m90 c99 (D.take i) = Ls m90 1 c99 (ints (D.take i)) i by unfold Li; rw [h2]]
        exact h99
      refine ⟨0, i, rfl, rfl, c99, hc99, i, rfl, by omega, D[i], hrd, s61 h99' (by rw [List.length_take]; omega) ⟨_, rfl, ?_⟩⟩
      have hnot : D[i] ∉ D.take i := fun hm => by
        obtain ⟨j, hj, hjv⟩ := List.mem_iff_getElem.1 hm
        rw [List.length_take] at hj
        rw [List.getElem_take] at hjv
        have := (List.nodup_iff_pairwise_ne.1 hD.nd)
        have h3 := List.pairwise_iff_getElem.1 this j i (by omega) hi (by omega)
        exact h3 hjv
      rw [ifB_dec]
      refine ⟨fun h1 => absurd h1 hnot, fun _ => ?_⟩
      rw [ifB_dec]
      have hfi : fitsP .i64 ((i : Int) + 1) := fits_small (by omega) (by omega)
      refine ⟨fun h5 => ⟨i, rfl, by omega, D[i], hrd, fun m107 h107 => ?_⟩, fun h5 => ⟨hfi, ?_⟩⟩
      · have hmin : min i 5 = i := by omega
        have hmin1 : min (i + 1) 5 = i + 1 := by omega
        rw [hmin] at ho
        obtain ⟨c108, m109, q1, q2, q3, q4, q5, q6⟩ := ap_one t27 g94 z94 (by omega) ho (ws := Cnt.cs ⟨D[i], 0, 0, false⟩) rfl (by rw [plain_len, List.length_take]; omega) h107
        refine ⟨c108, m109, q1, hfi, ?_⟩
        have htk : D.take i ++ [D[i]] = D.take (i + 1) := by rw [List.take_add_one, List.getElem?_eq_getElem hi]; rfl
        rw [cnts_app, plain_push, htk] at q2
        have hlen : (plain (D.take i)).length + 1 = (plain (D.take (i + 1))).length := by rw [plain_len, plain_len, List.length_take, List.length_take]; omega
        rw [hlen] at q2
        exact ih (i + 1) b c108 m109 (by omega) (by rw [hmin1]; exact q2) (q3.mono he.nxt) (he.keep hf q4 q5 q6)
      · have hmin : min i 5 = min (i + 1) 5 := by omega
        rw [hmin] at ho
        exact ih (i + 1) b c88 m90 (by omega) ho hf he
  exact hgo D.length 0 false .sl0 m75 (by omega) (Own1.nil' _ _) (Fr.nil _) (.refl _)
end
end Go.Proofs.Ytgkjfhkjgdiodaa
