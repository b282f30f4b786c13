/- FrameTurned, for all that it can be called with, returns true. Condition: none. -/
import Derived.Test.YtgkjfhkjgdiodaaTuC
import Derived.KernelRfl
import Derived.ProofKit
import Derived.Test.YtgkjfhkjgdiodaaRows

namespace Go.Proofs.Ytgkjfhkjgdiodaa
open _root_.Go.Proofs.Try
open Go.Abs
set_option maxRecDepth 100000
noncomputable section
/-- no hits of A look at the places D like hits of B -/
def decB (A B : List (List Int)) (D : List Int) : Bool := B.all fun P => !(A.any fun P' => decide (keyL P' D = keyL P D))
def fK (A : List (List Int)) (D : List Int) : HK → Option U := fun a => if A.any (fun P => decide (keyL P D = a.1)) then some (.c (.bool true)) else none
theorem s107 {P D : List Int} {A : List (List Int)} {z : C} {b b2 mb : Nat} {m : M} {Q : V → M → Prop} (hP : P.length = 9) (hS : Small P) (kb : Bk m b 1 [.map mb]) (kb2 : Bk m b2 1 [z]) (hmp : Mp encH m mb (fK A D)) (hz : Li m z D) (hDl : D.length ≤ 1000) (hD : ∀ v ∈ D, 0 ≤ v ∧ v < 9)
    (h : ∀ m', Ext m m' → Q (.c (.bool (!(A.any fun P' => decide (keyL P' D = keyL P D))))) m') : Wc prog tbl 107 [.agg 9 (ints P), .c (.ptr b 0), .c (.ptr b2 0)] m Q := by
  obtain ⟨p0, p1, p2, p3, p4, p5, p6, p7, p8, hPe⟩ := nine hP
  have hk9 := keyL_len P D
  have hkS := keyL_small hP hS hD
  obtain ⟨k0, k1, k2, k3, k4, k5, k6, k7, k8, hke⟩ := nine hk9
  have hQ : ∀ m', Ext m m' → ∀ o, fK A D ⟨keyL P D, hk9, hkS⟩ = o → (o = none → Q (.c (.bool true)) m') ∧ ∀ u, o = some u → ∃ b25 : Bool, u = U.c (.bool b25) ∧ Q (.c (.bool (!b25))) m' := fun m' e o ho => by
    have hq := h m' e
    unfold fK at ho
    cases ha : A.any fun P' => decide (keyL P' D = keyL P D) with
    | true =>
      have ha' : (A.any fun P_1 => decide (keyL P_1 D = (⟨keyL P D, hk9, hkS⟩ : HK).1)) = true := ha
      rw [ha] at hq
      rw [if_pos ha'] at ho
      subst ho
      exact ⟨fun h1 => (by cases h1), fun u hu => ⟨true, (by cases hu; rfl), hq⟩⟩
    | false =>
      have ha' : ¬ (A.any fun P_1 => decide (keyL P_1 D = (⟨keyL P D, hk9, hkS⟩ : HK).1)) = true := by
        have : (A.any fun P_1 => decide (keyL P_1 D = (⟨keyL P D, hk9, hkS⟩ : HK).1)) = false := ha
        rw [this]; decide
      rw [ha] at hq
      rw [if_neg ha'] at ho
      subst ho
      exact ⟨fun _ => hq, fun u hu => (by cases hu)⟩
  have hs105 := fun (mm : M) (e : Ext m mm) (Q' : V → M → Prop) (hh : ∀ m', Ext mm m' → Q' (.agg 9 (ints (keyL P D))) m') => s105 (Q := Q') hP (hz.ext e) hDl hD hh
  rw [hPe] at hs105
  rw [hPe]
  refine w107 p0 p1 p2 p3 p4 p5 p6 p7 p8 b b2 fun m0 e0 => ?_
  obtain ⟨b0, x0⟩ := Bk.new e0
  refine ⟨_, (kb.ext x0).rc rfl, p0, p1, p2, p3, p4, p5, p6, p7, p8, b0.ra, z, (kb2.ext x0).rc rfl, hs105 m0 x0 _ fun m13 e13 => ?_⟩
  rw [show keyL [p0, p1, p2, p3, p4, p5, p6, p7, p8] D = [k0, k1, k2, k3, k4, k5, k6, k7, k8] by rw [← hPe]; exact hke]
  have x13 := x0.trans e13
  obtain ⟨q1, q2⟩ := hQ m13 x13 _ rfl
  refine ⟨k0, k1, k2, k3, k4, k5, k6, k7, k8, rfl, (kb.ext x13).rc rfl, fK A D ⟨keyL P D, hk9, hkS⟩, (hmp.ext x13).lk keyH ⟨keyL P D, hk9, hkS⟩ ?_, q1, q2⟩
  show _ = V.agg 9 (ints (keyL P D))
  rw [hke]; rfl
theorem s90 {A B : List (List Int)} {D : List Int} {c1 c2 z : C} {m : M} {Q : V → M → Prop} (h1 : Lh m c1 A) (h2 : Lh m c2 B) (hA : H9 A) (hB : H9 B) (lA : A.length ≤ 100000) (lB : B.length ≤ 100000) (hz : Li m z D) (hDl : D.length ≤ 1000) (hD : ∀ v ∈ D, 0 ≤ v ∧ v < 9)
    (h : ∀ m', Ext m m' → Q (.c (.bool (decB A B D))) m') : Wc prog tbl 90 [.agg 2 [c1, c2], .c z] m Q := by
  refine w90 fun m0 e0 m1 e1 m2 e2 m3 e3 => ?_
  obtain ⟨b0, x0⟩ := Bk.new e0
  obtain ⟨b1, x1⟩ := Bk.new e1
  obtain ⟨mp2, x2⟩ := Mp.new (enc := encH) e2
  obtain ⟨b3, x3⟩ := Bk.new e3
  have n0 : m0.nxt = m.nxt + 1 := by rw [e0]; rfl
  have n1 : m1.nxt = m.nxt + 2 := by rw [e1]; show m0.nxt + 1 = _; omega
  have n2 : m2.nxt = m.nxt + 3 := by rw [e2]; show m1.nxt + 1 = _; omega
  have n3 : m3.nxt = m.nxt + 4 := by rw [e3]; show m2.nxt + 1 = _; omega
  have x03 := ((x0.trans x1).trans x2).trans x3
  obtain ⟨m4, h4, b4, s4'⟩ := b3.sto [.map m1.nxt]
  have x04 : Ext m m4 := x03.st1 s4' (by omega)
  have k0 := (((b0.ext x1).ext x2).ext x3).keep1 s4' (by omega)
  have k1 := ((b1.ext x2).ext x3).keep1 s4' (by omega)
  have km : Mp encH m4 m1.nxt (fK [] D) := by
    obtain ⟨es, clock, g1, g2⟩ := (mp2.ext x3).ex
    exact ⟨⟨es, clock, (s4'.g _ (by omega)).trans g1, g2⟩, by rw [s4'.nxt]; omega⟩
  have n4 := s4'.nxt
  refine ⟨m4, h4, trivial, c1, k0.rc (k := 0) rfl, h1.isSl, fun R6 hstep => ?_⟩
  have hgo : ∀ (d i : Nat) (m8 : M), d + i = A.length → Ext m m8 → Bk m8 m.nxt 2 [c1, c2] → Bk m8 m0.nxt 1 [z] → Bk m8 m2.nxt 1 [.map m1.nxt] → Mp encH m8 m1.nxt (fK (A.take i) D) → m4.nxt ≤ m8.nxt → R6 [.c (.int .i64 (i : Int))] m8 := by
    intro d
    induction d with
    | zero =>
      intro i m8 hd he k0 k1 k2 km hn
      refine hstep _ _ ?_
      rw [h1.slLen, ifB_dec]
      refine ⟨fun h1 => by omega, fun _ => ⟨trivial, c2, k0.rc (k := 1) rfl, ?_⟩⟩
      rw [List.take_of_length_le (by omega)] at km
      refine s106 (t := fun P => !(A.any fun P' => decide (keyL P' D = keyL P D))) (h2.ext he) hB lB (fun m' P e hP Q' hq => ?_) fun m46 e46 => ⟨_, rfl, h m46 (he.trans e46)⟩
      show Wc prog tbl 107 [.agg 9 (ints P), .c (.ptr m2.nxt 0), .c (.ptr m0.nxt 0)] m' Q'
      exact s107 (hB P hP).1 (hB P hP).2 (k2.ext e) (k1.ext e) (km.ext e) (hz.ext (he.trans e)) hDl hD hq
    | succ d ih =>
      intro i m8 hd he k0 k1 k2 km hn
      refine hstep _ _ ?_
      rw [h1.slLen, ifB_dec]
      refine ⟨fun _ => ?_, fun h1 => absurd (by omega) h1⟩
      have hi : i < A.length := by omega
      have hP := hA _ (List.getElem_mem hi)
      have hTi : A.take (i + 1) = A.take i ++ [A[i]] := by rw [List.take_add_one, List.getElem?_eq_getElem hi]; rfl
      have hrd := Lh.rd (h1.ext he) hA (List.getElem?_eq_getElem hi)
      generalize A[i] = P at hP hTi hrd
      obtain ⟨p0, p1, p2, p3, p4, p5, p6, p7, p8, hPe⟩ := nine hP.1
      have hk9 := keyL_len P D
      have hkS := keyL_small hP.1 hP.2 hD
      obtain ⟨q0, q1, q2, q3, q4, q5, q6, q7, q8, hke⟩ := nine hk9
      have hs105 := fun (mm : M) (e : Ext m mm) (Q' : V → M → Prop) (hh : ∀ m', Ext mm m' → Q' (.agg 9 (ints (keyL P D))) m') => s105 (Q := Q') hP.1 (hz.ext e) hDl hD hh
      rw [hPe] at hrd hs105
      refine ⟨i, rfl, hi, p0, p1, p2, p3, p4, p5, p6, p7, p8, hrd, fun m19 h19 => ?_⟩
      obtain ⟨k19, x19⟩ := Bk.new h19
      obtain ⟨m20, h20, k20, s20'⟩ := k19.sto (ints [p0, p1, p2, p3, p4, p5, p6, p7, p8])
      have x20 : Ext m8 m20 := x19.st1 s20' (Nat.le_refl _)
      have e20 := he.trans x20
      have hpk : keyL [p0, p1, p2, p3, p4, p5, p6, p7, p8] D = [q0, q1, q2, q3, q4, q5, q6, q7, q8] := by rw [← hPe]; exact hke
      refine ⟨m20, h20, _, (k2.ext x20).rc rfl, p0, p1, p2, p3, p4, p5, p6, p7, p8, k20.ra, z, (k1.ext x20).rc rfl, hs105 m20 e20 _ fun m33 e33 => ?_⟩
      rw [hpk]
      have x33 := x20.trans e33
      obtain ⟨o, hup, hmp⟩ := (km.ext x33).up keyH ⟨keyL P D, hk9, hkS⟩ (.c (.bool true)) (k := V.agg 9 (ints [q0, q1, q2, q3, q4, q5, q6, q7, q8])) (by show _ = V.agg 9 (ints (keyL P D)); rw [hke]) (yv := V.c (.bool true)) rfl
      refine ⟨q0, q1, q2, q3, q4, q5, q6, q7, q8, rfl, (k2.ext x33).rc rfl, _, hup, fits_small (by omega) (by omega), ?_⟩
      have hfe : (fun a : HK => if a = ⟨keyL P D, hk9, hkS⟩ then some (U.c (.bool true)) else fK (A.take i) D a) = fK (A.take (i + 1)) D := by
        funext a
        unfold fK
        rw [hTi, List.any_append]
        by_cases ha : a = ⟨keyL P D, hk9, hkS⟩
        · rw [if_pos ha, ha]
          have : ([P].any fun P_1 => decide (keyL P_1 D = keyL P D)) = true := by simp
          show _ = if ((A.take i).any (fun P_1 => decide (keyL P_1 D = keyL P D)) || [P].any fun P_1 => decide (keyL P_1 D = keyL P D)) = true then _ else _
          rw [this, Bool.or_true, if_pos rfl]
        · rw [if_neg ha]
          have : ([P].any fun P_1 => decide (keyL P_1 D = a.1)) = false := by
            have h3 : ¬ keyL P D = a.1 := fun h3 => ha (Subtype.ext h3.symm)
            simp [h3]
          rw [this, Bool.or_false]
      have hmp' : Mp encH (m33.set m1.nxt o) m1.nxt (fK (A.take (i + 1)) D) := by
        obtain ⟨es, clock, g1, g2, g3⟩ := hmp.ex
        refine ⟨⟨es, clock, g1, g2, fun a => (g3 a).trans ?_⟩, hmp.lt⟩
        rw [← hfe]
        by_cases ha : a = ⟨keyL P D, hk9, hkS⟩
        · simp only [ha, if_true]
        · simp only [ha, if_false]
      exact ih (i + 1) _ (by omega) ((he.trans x33).setR (by omega) _) ((k0.ext x33).setNe (by omega) _) ((k1.ext x33).setNe (by omega) _) ((k2.ext x33).setNe (by omega) _) hmp' (by show m4.nxt ≤ m33.nxt; have := x33.nxt; omega)
  exact hgo A.length 0 m4 (by omega) x04 k0 k1 b4 km (Nat.le_refl _)
/-- the fewest places that decide -/
def fewT (c sm : Int) (L : List Int) (N : List Cnt) (n : Int) (D : List Int) : Bool := decB (sideT L n (truthsP c sm L N) true) (sideT L n (truthsP c sm L N) false) D
def fewL (r c sm : Int) (L : List Int) (N : List Cnt) (n : Int) : List Int := if askErr r c L sm N (decide (0 ≤ n ∧ n ≤ 100)) = 0 then shortL L.length (fewT c sm L N n) else []
theorem side_9 {r c sm n : Int} {L : List Int} {N : List Cnt} {b : Bool} (hf : isField r c L = true) : H9 (sideT L n (truthsP c sm L N) b) := fun P hP => by
  obtain ⟨hS, hL9, _⟩ := field_of hf
  obtain ⟨H, h1, rfl⟩ := List.mem_map.1 hP
  have hl := truth_of hf (List.mem_filter.1 h1).1
  have := listed_len hl
  exact ⟨pad_len (by omega), small_pad (small_listed hS hl)⟩
theorem s49 {r c sm n : Int} {x y : C} {L : List Int} {N : List Cnt} {m : M} {Q : V → M → Prop} (hx : Li m x L) (hL : L.length ≤ 1048576) (hy : Lc m y N) (hN : N.length ≤ 1000)
    (h : ∀ z m', Ext m m' → Li m' z (fewL r c sm L N n) → Q (.tup [.c z, .c (.int .i64 (askErr r c L sm N (decide (0 ≤ n ∧ n ≤ 100))))]) m') :
    Wc prog tbl 49 [.agg 5 [.int .i64 r, .int .i64 c, x, .int .i64 sm, y], .c (.int .i64 n)] m Q := by
  refine w49 fun m0 e0 => ?_
  obtain ⟨b0, x0⟩ := Bk.new e0
  refine ⟨r, c, x, sm, y, b0.ra, s83 (inr := decide (0 ≤ n ∧ n ≤ 100)) (hx.ext x0) hL (hy.ext x0) hN (fun _ m' _ Q' hq' => ?_) (fun hne m7 e7 => ⟨0, 0, .sl0, 0, .sl0, .map0, _, rfl, fun m15 h15 => ?_⟩) fun hz m7 mb f e7 hw => ⟨r, c, x, sm, y, .map mb, 0, rfl, fun m15 h15 => ?_⟩⟩
  · show Wc prog tbl 86 [.c (.int .i64 n)] m' Q'
    exact s86 hq'
  · obtain ⟨b15, x15⟩ := Bk.new h15
    obtain ⟨m16, h16, _, s16'⟩ := b15.sto [.int .i64 0, .int .i64 0, .sl0, .int .i64 0, .sl0, .map0]
    refine ⟨m16, h16, ?_⟩
    rw [ifB_ndec]
    refine ⟨fun _ => h _ _ ((x0.trans e7).trans (x15.st1 s16' (Nat.le_refl _))) ?_, fun h1 => absurd h1 hne⟩
    unfold fewL
    rw [if_neg hne]
    exact Ls.nil m16 1
  · obtain ⟨b15, x15⟩ := Bk.new h15
    obtain ⟨m16, h16, k16, s16'⟩ := b15.sto [.int .i64 r, .int .i64 c, x, .int .i64 sm, y, .map mb]
    have e16 : Ext m7 m16 := x15.st1 s16' (Nat.le_refl _)
    refine ⟨m16, h16, ?_⟩
    obtain ⟨hin, ht⟩ := ask_zero hz
    obtain ⟨hv, hpos⟩ := true_sv ht
    obtain ⟨hO, _⟩ := okay_of hv
    obtain ⟨hS, hL9, hrc⟩ := field_of hO.f
    have hsd := sides_of hO.f
    have hm := hsd.mul
    have x16 := (x0.trans e7).trans e16
    have hle := truths_len hv
    rw [ifB_ndec]
    refine ⟨fun h1 => absurd rfl h1, fun _ => ⟨trivial, trivial, r, c, x, k16.rp (k := 0) (j := 3) rfl (by omega), s88 (by have := hsd.r1; omega) (by have := hsd.c1; omega) (fits_small (by omega) (by omega)) fun m21 e21 => ⟨_, rfl, r, c, x, sm, y, .map mb, (k16.ext e21).ra, ?_, ?_⟩⟩⟩
    · have : allS noFnC [.int .i64 r, .int .i64 c, x, .int .i64 sm, y, .map mb] = true := by
        show ifB true (ifB true (ifB (noFnC x) (ifB true (ifB (noFnC y) (ifB true true false) false) false) false) false) false = true
        rw [hx.noFn, hy.noFn]; rfl
      rw [this]; exact k16.ra
    refine s89 ((hw.ext e16).ext e21) (hx.ext (x16.trans e21)) hO.f (by omega) fun c1 c2 m30 e30 l1 l2 => ⟨c1, c2, rfl, ?_⟩
    obtain ⟨d1, hd1, hd1'⟩ := keepC l1
    obtain ⟨d2, hd2, hd2'⟩ := keepC l2
    have hvw : mapO vW [V.agg 2 [c1, c2]] = some [.agg 2 [d1, d2]] := by
      show optB (optB (optB (cC0 c1) none fun a => optB (optB (cC0 c2) none fun b => some [b]) none fun l => some (a :: l)) none fun xs => some (W.agg 2 xs)) none (fun w => some [w]) = _
      rw [hd1, hd2]; rfl
    rw [hvw, optB_some, ← hrc]
    have x30 := (x16.trans e21).trans e30
    refine s87 (t := fewT c sm L N n) (by omega) (fun m' z D e hzD hD Q' hq => ?_) fun z m35 e35 hzz => ⟨z, rfl, ?_⟩
    · have hi := mem_allL.1 hD
      have hl := inc_len hi
      show Wc prog tbl 90 [.agg 2 [c0C d1, c0C d2], .c z] m' Q'
      rw [hd1', hd2']
      have l3 := sideT_len L n (truthsP c sm L N) true
      have l4 := sideT_len L n (truthsP c sm L N) false
      exact s90 (l1.ext e) (l2.ext e) (side_9 hO.f) (side_9 hO.f) (by omega) (by omega) hzD (by omega) (fun v hv => by have := hi.2 v hv; omega) hq
    · have hq := h z m35 (x30.trans e35) (by unfold fewL; rw [if_pos hz]; exact hzz)
      rw [hz] at hq
      exact hq
/-- the places decide if no two truths on both sides agree there -/
theorem few_iff {r c sm n : Int} {L D : List Int} {N : List Cnt} (hv : svErr r c L sm N = 0) (hD : Inc L.length 0 D) : fewT c sm L N n D = true ↔ ∀ H H', TruthR c sm L N H → TruthR c sm L N H' → n ≤ shareOf L H → shareOf L H' < n → ¬ ∀ v ∈ D, H[v.toNat]! = H'[v.toNat]! := by
  obtain ⟨hO, hsm⟩ := okay_of hv
  obtain ⟨hS, hL9, hrc⟩ := field_of hO.f
  have hD9 : ∀ v ∈ D, 0 ≤ v ∧ v < 9 := fun v hv' => by have := hD.2 v hv'; omega
  have hpg : ∀ {H : List Int}, TruthR c sm L N H → ∀ v ∈ D, (pad H)[v.toNat]! = H[v.toNat]! := fun {H} hT v hv' => by
    have hlen := listed_len hT.1
    have h1 := hD.2 v hv'
    have := at_pad (H := H) (by omega) (k := v.toNat) (by omega)
    exact this
  have hp9 : ∀ {H : List Int}, TruthR c sm L N H → (pad H).length = 9 := fun hT => pad_len (by have := listed_len hT.1; omega)
  unfold fewT decB
  rw [List.all_eq_true]
  constructor
  · intro h H H' hT hT' h1 h2 h3
    have hm' : pad H' ∈ sideT L n (truthsP c sm L N) false := List.mem_map.2 ⟨H', List.mem_filter.2 ⟨(mem_P hv).2 hT', by rw [decide_eq_false (by omega)]; rfl⟩, rfl⟩
    have h4 := h _ hm'
    have h5 : ((sideT L n (truthsP c sm L N) true).any fun P' => decide (keyL P' D = keyL (pad H') D)) = true := by
      refine List.any_eq_true.2 ⟨pad H, List.mem_map.2 ⟨H, List.mem_filter.2 ⟨(mem_P hv).2 hT, by rw [decide_eq_true h1]; rfl⟩, rfl⟩, decide_eq_true ?_⟩
      rw [keyL_eq (hp9 hT) (hp9 hT') hD9]
      intro v hv'
      rw [hpg hT v hv', hpg hT' v hv']; exact h3 v hv'
    rw [h5] at h4; cases h4
  · intro h P hP
    obtain ⟨H', h1, rfl⟩ := List.mem_map.1 hP
    obtain ⟨h2, h3⟩ := List.mem_filter.1 h1
    have hT' := (mem_P hv).1 h2
    cases ha : (sideT L n (truthsP c sm L N) true).any fun P' => decide (keyL P' D = keyL (pad H') D) with
    | false => rfl
    | true =>
      obtain ⟨P', h4, h5⟩ := List.any_eq_true.1 ha
      obtain ⟨H, h6, rfl⟩ := List.mem_map.1 h4
      obtain ⟨h7, h8⟩ := List.mem_filter.1 h6
      have hT := (mem_P hv).1 h7
      have h9 := of_decide_eq_true h5
      rw [keyL_eq (hp9 hT) (hp9 hT') hD9] at h9
      refine absurd (fun v hv' => ?_) (h H H' hT hT' (by simpa using h8) (by simpa using h3))
      have := h9 v hv'
      rw [hpg hT v hv', hpg hT' v hv'] at this
      exact this
theorem all_inc (n : Nat) : Inc n 0 ((List.range n).map fun j => ((j : Nat) : Int)) := by
  refine ⟨?_, fun v hv => ?_⟩
  · rw [List.pairwise_map]
    exact List.pairwise_lt_range.imp fun h => by omega
  · obtain ⟨j, h1, rfl⟩ := List.mem_map.1 hv
    have := List.mem_range.1 h1
    omega
/-- the fewest places: what they are -/
theorem few_spec {r c sm n : Int} {L : List Int} {N : List Cnt} (ht : trueErr r c L sm N = 0) (hn : 0 ≤ n ∧ n ≤ 100) : Inc L.length 0 (fewL r c sm L N n) ∧ fewT c sm L N n (fewL r c sm L N n) = true ∧ ∀ D, Inc L.length 0 D → fewT c sm L N n D = true → D = fewL r c sm L N n ∨ shB (fewL r c sm L N n) D = true := by
  obtain ⟨hv, hpos⟩ := true_sv ht
  have hask : askErr r c L sm N (decide (0 ≤ n ∧ n ≤ 100)) = 0 := by unfold askErr; rw [if_pos hv, decide_eq_true hn]; exact ht
  have hfull : fewT c sm L N n ((List.range L.length).map fun j => ((j : Nat) : Int)) = true := by
    rw [few_iff hv (all_inc _)]
    intro H H' hT hT' h1 h2 h3
    have hl := listed_len hT.1
    have hl' := listed_len hT'.1
    have : H = H' := List.ext_getElem (by omega) fun j hj hj' => by
      have := h3 (j : Int) (List.mem_map.2 ⟨j, List.mem_range.2 (by omega), rfl⟩)
      rw [Int.toNat_natCast, getElem!_pos H j hj, getElem!_pos H' j hj'] at this
      exact this
    rw [this] at h1; omega
  unfold fewL
  rw [if_pos hask]
  exact shortL_spec ⟨_, all_inc _, hfull⟩
end
end Go.Proofs.Ytgkjfhkjgdiodaa

namespace Go.Proofs.Ytgkjfhkjgdiodaa
open _root_.Go.Proofs.Try
open Go.Abs
set_option maxRecDepth 100000
noncomputable section
theorem w15 {a100 : Int} {a101 : Int} {a102 : C} {a103 : Int} {a104 : C} {a200 : Int} {m : M} {Q : V → M → Prop} (h :
 (∀ m0 : M, ((m0 = (M.new m (AO.cells 5 [(C.int IntKind.i64 a100), (C.int IntKind.i64 a101), a102, (C.int IntKind.i64 a103), 
 a104] false))) → (∃ x1 : Int, (∃ x2 : Int, (∃ c3 : C, (∃ x4 : Int, (∃ c5 : C, (((ldA m0 (C.ptr (m).nxt 0) 5) = (Option.some [(C.int IntKind.i64 x1), 
 (C.int IntKind.i64 x2), c3, (C.int IntKind.i64 x4), c5])) ∧ (Wc prog tbl 58 [(V.agg 5 [(C.int IntKind.i64 x1), 
 (C.int IntKind.i64 x2), c3, (C.int IntKind.i64 x4), c5])] m0 (fun v6 m7 => (∃ b8 : Bool, ((v6 = (V.c (C.bool b8))) ∧ 
 (ifB (!b8) (Wc prog tbl 20 [] m7 (fun v9 m10 => (∃ b11 : Bool, ((v9 = (V.c (C.bool b11))) ∧ (Q (V.c (C.bool b11)) m10))))) (∃ x12 : Int, 
 (∃ x13 : Int, (∃ c14 : C, (∃ x15 : Int, (∃ c16 : C, (((ldA m7 (C.ptr (m).nxt 0) 5) = (Option.some [(C.int IntKind.i64 x12), 
 (C.int IntKind.i64 x13), c14, (C.int IntKind.i64 x15), c16])) ∧ (∀ m17 : M, ((m17 = (M.new m7 (AO.cells 5 [(C.int IntKind.i64 (0 : Int)), 
 (C.int IntKind.i64 (0 : Int)), C.sl0, (C.int IntKind.i64 (0 : Int)), C.sl0] false))) → 
 (∃ m18 : M, (((stC m17 (C.ptr (m7).nxt 0) 5 [(C.int IntKind.i64 x12), (C.int IntKind.i64 x13), 
 c14, (C.int IntKind.i64 x15), c16]) = (Option.some m18)) ∧ (isPt (C.ptr (m).nxt 0) ∧ 
 (isPt (C.ptr (m).nxt 0) ∧ (∃ x19 : Int, (((ldC m18 (C.ptr (m).nxt 1)) = (Option.some (C.int IntKind.i64 x19))) ∧ 
 (isPt (C.ptr (m).nxt 0) ∧ (isPt (C.ptr (m).nxt 0) ∧ (∃ x20 : Int, (((ldC m18 (C.ptr (m).nxt 0)) = (Option.some (C.int IntKind.i64 x20))) ∧ 
 (isPt (C.ptr (m).nxt 0) ∧ (isPt (C.ptr (m).nxt 0) ∧ (∃ c21 : C, (((ldC m18 (C.ptr (m).nxt 2)) = (Option.some c21)) ∧ 
 (isSl c21 ∧ (∃ n22 : Nat, (∃ n23 : Nat, (((((slLen c21) : Nat) : Int) = ((n22 : Nat) : Int)) ∧ 
 (((((slLen c21) : Nat) : Int) = ((n23 : Nat) : Int)) ∧ ((n22 ≤ n23) ∧ ((n23 ≤ 4096) ∧ 
 (∀ m24 : M, ((m24 = (M.new m18 (AO.cells (n23 * 1) (repeatS [(C.int IntKind.i64 (0 : Int))] n23) false))) → 
 (((ldC m24 (C.ptr (m).nxt 0)) = (Option.some (C.int IntKind.i64 x20))) ∧ (((ldC m24 (C.ptr (m).nxt 1)) = (Option.some (C.int IntKind.i64 x19))) ∧ 
 (isPt (C.ptr (m7).nxt 0) ∧ (∃ m25 : M, (((stC m24 (C.ptr (m7).nxt 0) 3 [(C.int IntKind.i64 x19), 
 (C.int IntKind.i64 x20), (C.sl (m18).nxt 0 n22 0 (Option.some n23))]) = (Option.some m25)) ∧ 
 (∀ m26 : M, ((m26 = (M.new m25 (AO.cells 0 [] false))) → (isPt (C.ptr (m).nxt 0) ∧ 
 (∃ c27 : C, (((ldC m26 (C.ptr (m).nxt 4)) = (Option.some c27)) ∧ (∃ c28 : C, 
 (∃ m29 : M, ((ApR prog 27 m26 (C.sl (m25).nxt 0 0 0 (Option.some 0)) c27 c28 m29) ∧ 
 (isPt (C.ptr (m7).nxt 0) ∧ (∃ m30 : M, (((stC m29 (C.ptr (m7).nxt 4) 1 [c28]) = (Option.some m30)) ∧ 
 (∀ R31 : List V → M → Prop, ((∀ x32 : Int, (∀ m33 : M, ((isPt (C.ptr (m).nxt 0) ∧ 
 (isPt (C.ptr (m).nxt 0) ∧ (∃ c34 : C, (((ldC m33 (C.ptr (m).nxt 2)) = (Option.some c34)) ∧ 
 (isSl c34 ∧ (ifB (decide (x32 < (((slLen c34) : Nat) : Int))) (isPt (C.ptr (m7).nxt 0) ∧ 
 (isPt (C.ptr (m7).nxt 0) ∧ (∃ c35 : C, (((ldC m33 (C.ptr (m7).nxt 2)) = (Option.some c35)) ∧ 
 (isPt (C.ptr (m).nxt 0) ∧ (isPt (C.ptr (m).nxt 0) ∧ (∃ x36 : Int, (((ldC m33 (C.ptr (m).nxt 1)) = (Option.some (C.int IntKind.i64 x36))) ∧ 
 (((0 : Int) ≤ x32) ∧ (((0 : Int) < x36) ∧ (fitsP IntKind.i64 (x32 % x36) ∧ (isPt (C.ptr (m).nxt 0) ∧ 
 (isPt (C.ptr (m).nxt 0) ∧ (∃ x37 : Int, (((ldC m33 (C.ptr (m).nxt 0)) = (Option.some (C.int IntKind.i64 x37))) ∧ 
 (((0 : Int) ≤ (x32 % x36)) ∧ (((0 : Int) ≤ x37) ∧ (fitsP IntKind.i64 ((x32 % x36) * x37) ∧ 
 (isPt (C.ptr (m).nxt 0) ∧ (isPt (C.ptr (m).nxt 0) ∧ (∃ x38 : Int, (((ldC m33 (C.ptr (m).nxt 1)) = (Option.some (C.int IntKind.i64 x38))) ∧ 
 (((0 : Int) ≤ x32) ∧ (((0 : Int) < x38) ∧ (fitsP IntKind.i64 (x32 / x38) ∧ (fitsP IntKind.i64 (((x32 % x36) * x37) + (x32 / x38)) ∧ 
 (isPt (C.ptr (m).nxt 0) ∧ (isPt (C.ptr (m).nxt 0) ∧ (∃ c39 : C, (((ldC m33 (C.ptr (m).nxt 2)) = (Option.some c39)) ∧ 
 (∃ n40 : Nat, ((x32 = ((n40 : Nat) : Int)) ∧ ((n40 < (slLen c39)) ∧ (∃ x41 : Int, 
 (((ldC m33 (slAt c39 (n40 * 1))) = (Option.some (C.int IntKind.i64 x41))) ∧ (∃ n42 : Nat, 
 (((((x32 % x36) * x37) + (x32 / x38)) = ((n42 : Nat) : Int)) ∧ ((n42 < (slLen c35)) ∧ 
 (∃ m43 : M, (((stC m33 (slAt c35 (n42 * 1)) 1 [(C.int IntKind.i64 x41)]) = (Option.some m43)) ∧ 
 (fitsP IntKind.i64 (x32 + (1 : Int)) ∧ (R31 [(V.c (C.int IntKind.i64 (x32 + (1 : Int))))] m43)))))))))))))))))))))))))))))))))))))))))) (∀ R44 : List V → 
 M → Prop, ((∀ x45 : Int, (∀ m46 : M, ((isPt (C.ptr (m7).nxt 0) ∧ (∃ c47 : C, 
 (((ldC m46 (C.ptr (m7).nxt 4)) = (Option.some c47)) ∧ (isSl c47 ∧ (ifB (decide (x45 < (((slLen c47) : Nat) : Int))) (isPt (C.ptr (m7).nxt 0) ∧ 
 (∃ c48 : C, (((ldC m46 (C.ptr (m7).nxt 4)) = (Option.some c48)) ∧ (∃ n49 : Nat, 
 ((x45 = ((n49 : Nat) : Int)) ∧ ((n49 < (slLen c48)) ∧ (isPt (slAt c48 (n49 * 4)) ∧ 
 (∃ x50 : Int, (((ldC m46 (ptAdd (slAt c48 (n49 * 4)) 0)) = (Option.some (C.int IntKind.i64 x50))) ∧ 
 (isPt (C.ptr (m7).nxt 0) ∧ (∃ c51 : C, (((ldC m46 (C.ptr (m7).nxt 4)) = (Option.some c51)) ∧ 
 (isPt (C.ptr (m).nxt 0) ∧ (isPt (C.ptr (m).nxt 0) ∧ (∃ x52 : Int, (((ldC m46 (C.ptr (m).nxt 1)) = (Option.some (C.int IntKind.i64 x52))) ∧ 
 (((0 : Int) ≤ x50) ∧ (((0 : Int) < x52) ∧ (fitsP IntKind.i64 (x50 % x52) ∧ (isPt (C.ptr (m).nxt 0) ∧ 
 (isPt (C.ptr (m).nxt 0) ∧ (∃ x53 : Int, (((ldC m46 (C.ptr (m).nxt 0)) = (Option.some (C.int IntKind.i64 x53))) ∧ 
 (((0 : Int) ≤ (x50 % x52)) ∧ (((0 : Int) ≤ x53) ∧ (fitsP IntKind.i64 ((x50 % x52) * x53) ∧ 
 (isPt (C.ptr (m).nxt 0) ∧ (isPt (C.ptr (m).nxt 0) ∧ (∃ x54 : Int, (((ldC m46 (C.ptr (m).nxt 1)) = (Option.some (C.int IntKind.i64 x54))) ∧ 
 (((0 : Int) ≤ x50) ∧ (((0 : Int) < x54) ∧ (fitsP IntKind.i64 (x50 / x54) ∧ (fitsP IntKind.i64 (((x50 % x52) * x53) + (x50 / x54)) ∧ 
 (∃ n55 : Nat, ((x45 = ((n55 : Nat) : Int)) ∧ ((n55 < (slLen c51)) ∧ (isPt (slAt c51 (n55 * 4)) ∧ 
 (∃ m56 : M, (((stC m46 (ptAdd (slAt c51 (n55 * 4)) 0) 1 [(C.int IntKind.i64 (((x50 % x52) * x53) + (x50 / x54)))]) = (Option.some m56)) ∧ 
 (fitsP IntKind.i64 (x45 + (1 : Int)) ∧ (R44 [(V.c (C.int IntKind.i64 (x45 + (1 : Int))))] m56)))))))))))))))))))))))))))))))))))))))))) (((0 : Int) ≤ (wrapZ IntKind.i64 a200)) ∧ 
 (((0 : Int) < (101 : Int)) ∧ (fitsP IntKind.i64 ((wrapZ IntKind.i64 a200) % (101 : Int)) ∧ 
 (∃ x57 : Int, (∃ x58 : Int, (∃ c59 : C, (∃ x60 : Int, (∃ c61 : C, (((ldA m46 (C.ptr (m).nxt 0) 5) = (Option.some [(C.int IntKind.i64 x57), 
 (C.int IntKind.i64 x58), c59, (C.int IntKind.i64 x60), c61])) ∧ (Wc prog tbl 33 [(V.agg 5 [(C.int IntKind.i64 x57), 
 (C.int IntKind.i64 x58), c59, (C.int IntKind.i64 x60), c61])] m46 (fun v62 m63 => 
 (∃ x64 : Int, (∃ x65 : Int, (∃ c66 : C, (∃ x67 : Int, (∃ c68 : C, ((v62 = (V.agg 5 [(C.int IntKind.i64 x64), 
 (C.int IntKind.i64 x65), c66, (C.int IntKind.i64 x67), c68])) ∧ (Wc prog tbl 41 [(V.agg 5 [(C.int IntKind.i64 x64), 
 (C.int IntKind.i64 x65), c66, (C.int IntKind.i64 x67), c68])] m63 (fun v69 m70 => 
 (∃ x71 : Int, (∃ x72 : Int, (∃ x73 : Int, ((v69 = (V.tup [(U.agg 2 [(C.int IntKind.i64 x71), 
 (C.int IntKind.i64 x72)]), (U.c (C.int IntKind.i64 x73))])) ∧ (∀ m74 : M, ((m74 = (M.new m70 (AO.cells 2 [(C.int IntKind.i64 (0 : Int)), 
 (C.int IntKind.i64 (0 : Int))] false))) → (∃ m75 : M, (((stC m74 (C.ptr (m70).nxt 0) 2 [(C.int IntKind.i64 x71), 
 (C.int IntKind.i64 x72)]) = (Option.some m75)) ∧ (∃ x76 : Int, (∃ x77 : Int, 
 (∃ c78 : C, (∃ x79 : Int, (∃ c80 : C, (((ldA m75 (C.ptr (m7).nxt 0) 5) = (Option.some [(C.int IntKind.i64 x76), 
 (C.int IntKind.i64 x77), c78, (C.int IntKind.i64 x79), c80])) ∧ (Wc prog tbl 33 [(V.agg 5 [(C.int IntKind.i64 x76), 
 (C.int IntKind.i64 x77), c78, (C.int IntKind.i64 x79), c80])] m75 (fun v81 m82 => 
 (∃ x83 : Int, (∃ x84 : Int, (∃ c85 : C, (∃ x86 : Int, (∃ c87 : C, ((v81 = (V.agg 5 [(C.int IntKind.i64 x83), 
 (C.int IntKind.i64 x84), c85, (C.int IntKind.i64 x86), c87])) ∧ (Wc prog tbl 41 [(V.agg 5 [(C.int IntKind.i64 x83), 
 (C.int IntKind.i64 x84), c85, (C.int IntKind.i64 x86), c87])] m82 (fun v88 m89 => 
 (∃ x90 : Int, (∃ x91 : Int, (∃ x92 : Int, ((v88 = (V.tup [(U.agg 2 [(C.int IntKind.i64 x90), 
 (C.int IntKind.i64 x91)]), (U.c (C.int IntKind.i64 x92))])) ∧ (∀ m93 : M, ((m93 = (M.new m89 (AO.cells 2 [(C.int IntKind.i64 (0 : Int)), 
 (C.int IntKind.i64 (0 : Int))] false))) → (∃ m94 : M, (((stC m93 (C.ptr (m89).nxt 0) 2 [(C.int IntKind.i64 x90), 
 (C.int IntKind.i64 x91)]) = (Option.some m94)) ∧ (∃ x95 : Int, (∃ x96 : Int, 
 (∃ c97 : C, (∃ x98 : Int, (∃ c99 : C, (((ldA m94 (C.ptr (m).nxt 0) 5) = (Option.some [(C.int IntKind.i64 x95), 
 (C.int IntKind.i64 x96), c97, (C.int IntKind.i64 x98), c99])) ∧ (Wc prog tbl 33 [(V.agg 5 [(C.int IntKind.i64 x95), 
 (C.int IntKind.i64 x96), c97, (C.int IntKind.i64 x98), c99])] m94 (fun v100 m101 => 
 (∃ x102 : Int, (∃ x103 : Int, (∃ c104 : C, (∃ x105 : Int, (∃ c106 : C, ((v100 = (V.agg 5 [(C.int IntKind.i64 x102), 
 (C.int IntKind.i64 x103), c104, (C.int IntKind.i64 x105), c106])) ∧ (Wc prog tbl 48 [(V.agg 5 [(C.int IntKind.i64 x102), 
 (C.int IntKind.i64 x103), c104, (C.int IntKind.i64 x105), c106]), (V.c (C.int IntKind.i64 ((wrapZ IntKind.i64 a200) % (101 : Int))))] m101 (fun v107 m108 => 
 (∃ x109 : Int, (∃ x110 : Int, ((v107 = (V.tup [(U.c (C.int IntKind.i64 x109)), 
 (U.c (C.int IntKind.i64 x110))])) ∧ (∃ x111 : Int, (∃ x112 : Int, (∃ c113 : C, 
 (∃ x114 : Int, (∃ c115 : C, (((ldA m108 (C.ptr (m7).nxt 0) 5) = (Option.some [(C.int IntKind.i64 x111), 
 (C.int IntKind.i64 x112), c113, (C.int IntKind.i64 x114), c115])) ∧ (Wc prog tbl 33 [(V.agg 5 [(C.int IntKind.i64 x111), 
 (C.int IntKind.i64 x112), c113, (C.int IntKind.i64 x114), c115])] m108 (fun v116 m117 => 
 (∃ x118 : Int, (∃ x119 : Int, (∃ c120 : C, (∃ x121 : Int, (∃ c122 : C, ((v116 = (V.agg 5 [(C.int IntKind.i64 x118), 
 (C.int IntKind.i64 x119), c120, (C.int IntKind.i64 x121), c122])) ∧ (Wc prog tbl 48 [(V.agg 5 [(C.int IntKind.i64 x118), 
 (C.int IntKind.i64 x119), c120, (C.int IntKind.i64 x121), c122]), (V.c (C.int IntKind.i64 ((wrapZ IntKind.i64 a200) % (101 : Int))))] m117 (fun v123 m124 => 
 (∃ x125 : Int, (∃ x126 : Int, ((v123 = (V.tup [(U.c (C.int IntKind.i64 x125)), 
 (U.c (C.int IntKind.i64 x126))])) ∧ (∃ x127 : Int, (∃ x128 : Int, (∃ c129 : C, 
 (∃ x130 : Int, (∃ c131 : C, (((ldA m124 (C.ptr (m).nxt 0) 5) = (Option.some [(C.int IntKind.i64 x127), 
 (C.int IntKind.i64 x128), c129, (C.int IntKind.i64 x130), c131])) ∧ (Wc prog tbl 33 [(V.agg 5 [(C.int IntKind.i64 x127), 
 (C.int IntKind.i64 x128), c129, (C.int IntKind.i64 x130), c131])] m124 (fun v132 m133 => 
 (∃ x134 : Int, (∃ x135 : Int, (∃ c136 : C, (∃ x137 : Int, (∃ c138 : C, ((v132 = (V.agg 5 [(C.int IntKind.i64 x134), 
 (C.int IntKind.i64 x135), c136, (C.int IntKind.i64 x137), c138])) ∧ (Wc prog tbl 49 [(V.agg 5 [(C.int IntKind.i64 x134), 
 (C.int IntKind.i64 x135), c136, (C.int IntKind.i64 x137), c138]), (V.c (C.int IntKind.i64 ((wrapZ IntKind.i64 a200) % (101 : Int))))] m133 (fun v139 m140 => 
 (∃ c141 : C, (∃ x142 : Int, ((v139 = (V.tup [(U.c c141), (U.c (C.int IntKind.i64 x142))])) ∧ 
 (∃ x143 : Int, (∃ x144 : Int, (∃ c145 : C, (∃ x146 : Int, (∃ c147 : C, (((ldA m140 (C.ptr (m7).nxt 0) 5) = (Option.some [(C.int IntKind.i64 x143), 
 (C.int IntKind.i64 x144), c145, (C.int IntKind.i64 x146), c147])) ∧ (Wc prog tbl 33 [(V.agg 5 [(C.int IntKind.i64 x143), 
 (C.int IntKind.i64 x144), c145, (C.int IntKind.i64 x146), c147])] m140 (fun v148 m149 => 
 (∃ x150 : Int, (∃ x151 : Int, (∃ c152 : C, (∃ x153 : Int, (∃ c154 : C, ((v148 = (V.agg 5 [(C.int IntKind.i64 x150), 
 (C.int IntKind.i64 x151), c152, (C.int IntKind.i64 x153), c154])) ∧ (Wc prog tbl 49 [(V.agg 5 [(C.int IntKind.i64 x150), 
 (C.int IntKind.i64 x151), c152, (C.int IntKind.i64 x153), c154]), (V.c (C.int IntKind.i64 ((wrapZ IntKind.i64 a200) % (101 : Int))))] m149 (fun v155 m156 => 
 (∃ c157 : C, (∃ x158 : Int, ((v155 = (V.tup [(U.c c157), (U.c (C.int IntKind.i64 x158))])) ∧ 
 (∃ x159 : Int, (∃ x160 : Int, (∃ c161 : C, (∃ x162 : Int, (∃ c163 : C, (((ldA m156 (C.ptr (m).nxt 0) 5) = (Option.some [(C.int IntKind.i64 x159), 
 (C.int IntKind.i64 x160), c161, (C.int IntKind.i64 x162), c163])) ∧ (Wc prog tbl 33 [(V.agg 5 [(C.int IntKind.i64 x159), 
 (C.int IntKind.i64 x160), c161, (C.int IntKind.i64 x162), c163])] m156 (fun v164 m165 => 
 (∃ x166 : Int, (∃ x167 : Int, (∃ c168 : C, (∃ x169 : Int, (∃ c170 : C, ((v164 = (V.agg 5 [(C.int IntKind.i64 x166), 
 (C.int IntKind.i64 x167), c168, (C.int IntKind.i64 x169), c170])) ∧ (Wc prog tbl 52 [(V.agg 5 [(C.int IntKind.i64 x166), 
 (C.int IntKind.i64 x167), c168, (C.int IntKind.i64 x169), c170])] m165 (fun v171 m172 => 
 (∃ c173 : C, (∃ x174 : Int, ((v171 = (V.tup [(U.c c173), (U.c (C.int IntKind.i64 x174))])) ∧ 
 (∃ x175 : Int, (∃ x176 : Int, (∃ c177 : C, (∃ x178 : Int, (∃ c179 : C, (((ldA m172 (C.ptr (m7).nxt 0) 5) = (Option.some [(C.int IntKind.i64 x175), 
 (C.int IntKind.i64 x176), c177, (C.int IntKind.i64 x178), c179])) ∧ (Wc prog tbl 33 [(V.agg 5 [(C.int IntKind.i64 x175), 
 (C.int IntKind.i64 x176), c177, (C.int IntKind.i64 x178), c179])] m172 (fun v180 m181 => 
 (∃ x182 : Int, (∃ x183 : Int, (∃ c184 : C, (∃ x185 : Int, (∃ c186 : C, ((v180 = (V.agg 5 [(C.int IntKind.i64 x182), 
 (C.int IntKind.i64 x183), c184, (C.int IntKind.i64 x185), c186])) ∧ (Wc prog tbl 52 [(V.agg 5 [(C.int IntKind.i64 x182), 
 (C.int IntKind.i64 x183), c184, (C.int IntKind.i64 x185), c186])] m181 (fun v187 m188 => 
 (∃ c189 : C, (∃ x190 : Int, ((v187 = (V.tup [(U.c c189), (U.c (C.int IntKind.i64 x190))])) ∧ 
 (ifB (decide (x73 = x92)) (ifB (decide (x73 = x110)) (ifB (decide (x73 = x126)) (ifB (decide (x73 = x142)) (ifB (decide (x73 = x158)) (ifB (decide (x73 = (0 : Int))) (∃ x191 : Int, 
 (∃ x192 : Int, (((ldA m188 (C.ptr (m70).nxt 0) 2) = (Option.some [(C.int IntKind.i64 x191), 
 (C.int IntKind.i64 x192)])) ∧ (∃ x193 : Int, (∃ x194 : Int, (((ldA m188 (C.ptr (m89).nxt 0) 2) = (Option.some [(C.int IntKind.i64 x193), 
 (C.int IntKind.i64 x194)])) ∧ (fitsP IntKind.i64 x191 ∧ (fitsP IntKind.i64 x193 ∧ 
 (fitsP IntKind.i64 x192 ∧ (fitsP IntKind.i64 x194 ∧ (ifB ((decide (x191 = x193)) && (decide (x192 = x194))) (ifB (decide (x109 = x125)) (isSl c141 ∧ 
 (isSl c157 ∧ (ifB (decide ((((slLen c141) : Nat) : Int) = (((slLen c157) : Nat) : Int))) (ifB (decide (x174 = (0 : Int))) (ifB (decide (x190 = (0 : Int))) (Wc prog tbl 29 [(V.c c173), 
 (V.c c189)] m188 (fun v195 m196 => (∃ b197 : Bool, ((v195 = (V.c (C.bool b197))) ∧ 
 (ifB b197 (Wc prog tbl 20 [] m196 (fun v198 m199 => (∃ b200 : Bool, ((v198 = (V.c (C.bool b200))) ∧ 
 (Q (V.c (C.bool b200)) m199))))) (Q (V.c (C.bool false)) m196)))))) (Q (V.c (C.bool false)) m188)) (Q (V.c (C.bool false)) m188)) (Q (V.c (C.bool false)) m188)))) (Q (V.c (C.bool false)) m188)) (Q (V.c (C.bool false)) m188)))))))))))) (ifB (decide (x73 = (9 : Int))) (∃ x201 : Int, 
 (∃ x202 : Int, (((ldA m188 (C.ptr (m70).nxt 0) 2) = (Option.some [(C.int IntKind.i64 x201), 
 (C.int IntKind.i64 x202)])) ∧ (∃ x203 : Int, (∃ x204 : Int, (((ldA m188 (C.ptr (m89).nxt 0) 2) = (Option.some [(C.int IntKind.i64 x203), 
 (C.int IntKind.i64 x204)])) ∧ (fitsP IntKind.i64 x201 ∧ (fitsP IntKind.i64 x203 ∧ 
 (fitsP IntKind.i64 x202 ∧ (fitsP IntKind.i64 x204 ∧ (ifB ((decide (x201 = x203)) && (decide (x202 = x204))) (ifB (decide (x109 = x125)) (isSl c141 ∧ 
 (isSl c157 ∧ (ifB (decide ((((slLen c141) : Nat) : Int) = (((slLen c157) : Nat) : Int))) (ifB (decide (x174 = (0 : Int))) (ifB (decide (x190 = (0 : Int))) (Wc prog tbl 29 [(V.c c173), 
 (V.c c189)] m188 (fun v205 m206 => (∃ b207 : Bool, ((v205 = (V.c (C.bool b207))) ∧ 
 (ifB b207 (Wc prog tbl 20 [] m206 (fun v208 m209 => (∃ b210 : Bool, ((v208 = (V.c (C.bool b210))) ∧ 
 (Q (V.c (C.bool b210)) m209))))) (Q (V.c (C.bool false)) m206)))))) (Q (V.c (C.bool false)) m188)) (Q (V.c (C.bool false)) m188)) (Q (V.c (C.bool false)) m188)))) (Q (V.c (C.bool false)) m188)) (Q (V.c (C.bool false)) m188)))))))))))) (Q (V.c (C.bool false)) m188))) (Q (V.c (C.bool false)) m188)) (Q (V.c (C.bool false)) m188)) (Q (V.c (C.bool false)) m188)) (Q (V.c (C.bool false)) m188)) (Q (V.c (C.bool false)) m188)))))))))))))))))))))))))))))))))))))))))))))))))))))))))))))))))))))))))))))))))))))))))))))))))))))))))))))))))))))))))))))))))))))))))))))))))))))))))))))))))))))))))))) → 
 (R44 [(V.c (C.int IntKind.i64 x45))] m46)))) → (R44 [(V.c (C.int IntKind.i64 (0 : Int)))] m33))))))))) → 
 (R31 [(V.c (C.int IntKind.i64 x32))] m33)))) → (R31 [(V.c (C.int IntKind.i64 (0 : Int)))] m30)))))))))))))))))))))))))))))))))))))))))))))))))))))))))))))))) : Wc prog tbl 15 [(V.agg 5 [(C.int IntKind.i64 a100), (C.int IntKind.i64 a101), a102, (C.int IntKind.i64 a103), a104]), (V.c (C.int IntKind.u8 a200))] m Q :=
 wc_eq (n := 2) rfl (by kernel_rfl) (by kernel_rfl) h
end
end Go.Proofs.Ytgkjfhkjgdiodaa

namespace Go.Proofs.Ytgkjfhkjgdiodaa
open _root_.Go.Proofs.Try
open Go.Abs
set_option maxRecDepth 100000
noncomputable section
theorem wrap_sm {n : Int} (h0 : 0 ≤ n) (h1 : n ≤ 1000000) : wrapZ .i64 n = n := by
  unfold wrapZ
  rw [Go.Abs.fits_of (k := .i64) (n := n) (by simp only [fitsP]; omega)]; rfl
end
end Go.Proofs.Ytgkjfhkjgdiodaa

namespace Go.Proofs.Ytgkjfhkjgdiodaa
open _root_.Go.Proofs.Try
open Go.Abs
set_option maxRecDepth 100000
noncomputable section
theorem w18 {a100 : Int} {a101 : Int} {a102 : C} {a103 : Int} {a104 : C} {a200 : Int} {m : M} {Q : V → M → Prop} (h :
 (∀ m0 : M, ((m0 = (M.new m (AO.cells 5 [(C.int IntKind.i64 a100), (C.int IntKind.i64 a101), a102, (C.int IntKind.i64 a103), 
 a104] false))) → (∃ x1 : Int, (∃ x2 : Int, (∃ c3 : C, (∃ x4 : Int, (∃ c5 : C, (((ldA m0 (C.ptr (m).nxt 0) 5) = (Option.some [(C.int IntKind.i64 x1), 
 (C.int IntKind.i64 x2), c3, (C.int IntKind.i64 x4), c5])) ∧ (Wc prog tbl 58 [(V.agg 5 [(C.int IntKind.i64 x1), 
 (C.int IntKind.i64 x2), c3, (C.int IntKind.i64 x4), c5])] m0 (fun v6 m7 => (∃ b8 : Bool, ((v6 = (V.c (C.bool b8))) ∧ 
 (ifB (!b8) (Wc prog tbl 20 [] m7 (fun v9 m10 => (∃ b11 : Bool, ((v9 = (V.c (C.bool b11))) ∧ (Q (V.c (C.bool b11)) m10))))) (isPt (C.ptr (m).nxt 0) ∧ 
 (∃ c12 : C, (((ldC m7 (C.ptr (m).nxt 4)) = (Option.some c12)) ∧ (isSl c12 ∧ (ifB (decide ((((slLen c12) : Nat) : Int) = (0 : Int))) (Wc prog tbl 20 [] m7 (fun v13 m14 => 
 (∃ b15 : Bool, ((v13 = (V.c (C.bool b15))) ∧ (Q (V.c (C.bool b15)) m14))))) (isPt (C.ptr (m).nxt 0) ∧ 
 (∃ c16 : C, (((ldC m7 (C.ptr (m).nxt 4)) = (Option.some c16)) ∧ (isSl c16 ∧ (((0 : Int) ≤ (wrapZ IntKind.i64 a200)) ∧ 
 (((0 : Int) < (((slLen c16) : Nat) : Int)) ∧ (fitsP IntKind.i64 ((wrapZ IntKind.i64 a200) % (((slLen c16) : Nat) : Int)) ∧ 
 (∀ m17 : M, ((m17 = (mGrow m7 2)) → (∃ x18 : Int, (∃ x19 : Int, (∃ c20 : C, (∃ x21 : Int, 
 (∃ c22 : C, (((ldA m17 (C.ptr (m).nxt 0) 5) = (Option.some [(C.int IntKind.i64 x18), 
 (C.int IntKind.i64 x19), c20, (C.int IntKind.i64 x21), c22])) ∧ (∃ x23 : Int, 
 (∃ x24 : Int, (∃ c25 : C, (∃ x26 : Int, (∃ c27 : C, (((ldA m17 (C.ptr (m).nxt 0) 5) = (Option.some [(C.int IntKind.i64 x23), 
 (C.int IntKind.i64 x24), c25, (C.int IntKind.i64 x26), c27])) ∧ (∃ x28 : Int, 
 (∃ x29 : Int, (∃ c30 : C, (∃ x31 : Int, (∃ c32 : C, (((ldA m17 (C.ptr (m).nxt 0) 5) = (Option.some [(C.int IntKind.i64 x28), 
 (C.int IntKind.i64 x29), c30, (C.int IntKind.i64 x31), c32])) ∧ (∀ m33 : M, ((m33 = (M.new m17 (AO.cells 5 [(C.int IntKind.i64 (0 : Int)), 
 (C.int IntKind.i64 (0 : Int)), C.sl0, (C.int IntKind.i64 (0 : Int)), C.sl0] false))) → 
 ((ifB (allS noFnC [(C.int IntKind.i64 x28), (C.int IntKind.i64 x29), c30, (C.int IntKind.i64 x31), 
 c32]) ((ldA m33 (C.ptr (m).nxt 0) 5) = (Option.some [(C.int IntKind.i64 x28), 
 (C.int IntKind.i64 x29), c30, (C.int IntKind.i64 x31), c32])) False) ∧ ((ifB (allS noFnC [(C.int IntKind.i64 x23), 
 (C.int IntKind.i64 x24), c25, (C.int IntKind.i64 x26), c27]) ((ldA m33 (C.ptr (m).nxt 0) 5) = (Option.some [(C.int IntKind.i64 x23), 
 (C.int IntKind.i64 x24), c25, (C.int IntKind.i64 x26), c27])) False) ∧ ((ifB (allS noFnC [(C.int IntKind.i64 x18), 
 (C.int IntKind.i64 x19), c20, (C.int IntKind.i64 x21), c22]) ((ldA m33 (C.ptr (m).nxt 0) 5) = (Option.some [(C.int IntKind.i64 x18), 
 (C.int IntKind.i64 x19), c20, (C.int IntKind.i64 x21), c22])) False) ∧ (∀ m34 : M, 
 ((m34 = (M.set m33 ((m7).nxt + 0) (AO.cells 5 [(C.int IntKind.i64 (0 : Int)), 
 (C.int IntKind.i64 (0 : Int)), C.sl0, (C.int IntKind.i64 (0 : Int)), C.sl0] false))) → 
 ((ifB (allS noFnC [(C.int IntKind.i64 x28), (C.int IntKind.i64 x29), c30, (C.int IntKind.i64 x31), 
 c32]) ((ldA m34 (C.ptr (m).nxt 0) 5) = (Option.some [(C.int IntKind.i64 x28), 
 (C.int IntKind.i64 x29), c30, (C.int IntKind.i64 x31), c32])) False) ∧ ((ifB (allS noFnC [(C.int IntKind.i64 x23), 
 (C.int IntKind.i64 x24), c25, (C.int IntKind.i64 x26), c27]) ((ldA m34 (C.ptr (m).nxt 0) 5) = (Option.some [(C.int IntKind.i64 x23), 
 (C.int IntKind.i64 x24), c25, (C.int IntKind.i64 x26), c27])) False) ∧ ((ifB (allS noFnC [(C.int IntKind.i64 x18), 
 (C.int IntKind.i64 x19), c20, (C.int IntKind.i64 x21), c22]) ((ldA m34 (C.ptr (m).nxt 0) 5) = (Option.some [(C.int IntKind.i64 x18), 
 (C.int IntKind.i64 x19), c20, (C.int IntKind.i64 x21), c22])) False) ∧ (∀ m35 : M, 
 ((m35 = (M.set m34 ((m7).nxt + 1) (AO.cells 5 [(C.int IntKind.i64 (0 : Int)), 
 (C.int IntKind.i64 (0 : Int)), C.sl0, (C.int IntKind.i64 (0 : Int)), C.sl0] false))) → 
 ((ifB (allS noFnC [(C.int IntKind.i64 x28), (C.int IntKind.i64 x29), c30, (C.int IntKind.i64 x31), 
 c32]) ((ldA m35 (C.ptr (m).nxt 0) 5) = (Option.some [(C.int IntKind.i64 x28), 
 (C.int IntKind.i64 x29), c30, (C.int IntKind.i64 x31), c32])) False) ∧ ((ifB (allS noFnC [(C.int IntKind.i64 x23), 
 (C.int IntKind.i64 x24), c25, (C.int IntKind.i64 x26), c27]) ((ldA m35 (C.ptr (m).nxt 0) 5) = (Option.some [(C.int IntKind.i64 x23), 
 (C.int IntKind.i64 x24), c25, (C.int IntKind.i64 x26), c27])) False) ∧ ((ifB (allS noFnC [(C.int IntKind.i64 x18), 
 (C.int IntKind.i64 x19), c20, (C.int IntKind.i64 x21), c22]) ((ldA m35 (C.ptr (m).nxt 0) 5) = (Option.some [(C.int IntKind.i64 x18), 
 (C.int IntKind.i64 x19), c20, (C.int IntKind.i64 x21), c22])) False) ∧ (∃ m36 : M, 
 (((stC m35 (C.ptr (m17).nxt 0) 5 [(C.int IntKind.i64 x18), (C.int IntKind.i64 x19), 
 c20, (C.int IntKind.i64 x21), c22]) = (Option.some m36)) ∧ ((ifB (allS noFnC [(C.int IntKind.i64 x28), 
 (C.int IntKind.i64 x29), c30, (C.int IntKind.i64 x31), c32]) ((ldA m36 (C.ptr (m).nxt 0) 5) = (Option.some [(C.int IntKind.i64 x28), 
 (C.int IntKind.i64 x29), c30, (C.int IntKind.i64 x31), c32])) False) ∧ ((ifB (allS noFnC [(C.int IntKind.i64 x23), 
 (C.int IntKind.i64 x24), c25, (C.int IntKind.i64 x26), c27]) ((ldA m36 (C.ptr (m).nxt 0) 5) = (Option.some [(C.int IntKind.i64 x23), 
 (C.int IntKind.i64 x24), c25, (C.int IntKind.i64 x26), c27])) False) ∧ (∃ m37 : M, 
 (((stC m36 (C.ptr ((m7).nxt + 0) 0) 5 [(C.int IntKind.i64 x23), (C.int IntKind.i64 x24), 
 c25, (C.int IntKind.i64 x26), c27]) = (Option.some m37)) ∧ ((ifB (allS noFnC [(C.int IntKind.i64 x28), 
 (C.int IntKind.i64 x29), c30, (C.int IntKind.i64 x31), c32]) ((ldA m37 (C.ptr (m).nxt 0) 5) = (Option.some [(C.int IntKind.i64 x28), 
 (C.int IntKind.i64 x29), c30, (C.int IntKind.i64 x31), c32])) False) ∧ (∃ m38 : M, 
 (((stC m37 (C.ptr ((m7).nxt + 1) 0) 5 [(C.int IntKind.i64 x28), (C.int IntKind.i64 x29), 
 c30, (C.int IntKind.i64 x31), c32]) = (Option.some m38)) ∧ (∀ m39 : M, ((m39 = (mGrow m38 1)) → 
 (∀ m40 : M, ((m40 = (M.new m39 (AO.cells 0 [] false))) → (isPt (C.ptr (m).nxt 0) ∧ 
 (∃ c41 : C, (((ldC m40 (C.ptr (m).nxt 4)) = (Option.some c41)) ∧ ((ifB (noFnC c41) ((ldC m39 (C.ptr (m).nxt 4)) = (Option.some c41)) False) ∧ 
 (∃ c42 : C, (∃ m43 : M, ((ApR prog 27 m40 (C.sl (m39).nxt 0 0 0 (Option.some 0)) c41 c42 m43) ∧ 
 (∀ m44 : M, ((m44 = (M.set m43 ((m38).nxt + 0) (AO.cells 0 [] false))) → ((ifB (noFnC c41) ((ldC m44 (C.ptr (m).nxt 4)) = (Option.some c41)) False) ∧ 
 (isPt (C.ptr (m).nxt 0) ∧ (∃ c45 : C, (((ldC m44 (C.ptr (m).nxt 4)) = (Option.some c45)) ∧ 
 ((ifB (noFnC c45) ((ldC m43 (C.ptr (m).nxt 4)) = (Option.some c45)) False) ∧ 
 ((ifB (noFnC c45) ((ldC m40 (C.ptr (m).nxt 4)) = (Option.some c45)) False) ∧ 
 ((ifB (noFnC c45) ((ldC m39 (C.ptr (m).nxt 4)) = (Option.some c45)) False) ∧ 
 (∃ c46 : C, (∃ m47 : M, ((ApR prog 27 m44 (C.sl ((m38).nxt + 0) 0 0 0 (Option.some 0)) c45 c46 m47) ∧ 
 (isPt (C.ptr (m17).nxt 0) ∧ (∃ m48 : M, (((stC m47 (C.ptr (m17).nxt 4) 1 [c42]) = (Option.some m48)) ∧ 
 (isPt (C.ptr ((m7).nxt + 1) 0) ∧ (∃ m49 : M, (((stC m48 (C.ptr ((m7).nxt + 1) 4) 1 [c46]) = (Option.some m49)) ∧ 
 (isPt (C.ptr (m17).nxt 0) ∧ (∃ c50 : C, (((ldC m49 (C.ptr (m17).nxt 4)) = (Option.some c50)) ∧ 
 (isPt (C.ptr ((m7).nxt + 1) 0) ∧ (∃ c51 : C, (((ldC m49 (C.ptr ((m7).nxt + 1) 4)) = (Option.some c51)) ∧ 
 (∃ n52 : Nat, ((((wrapZ IntKind.i64 a200) % (((slLen c16) : Nat) : Int)) = ((n52 : Nat) : Int)) ∧ 
 ((n52 < (slLen c50)) ∧ (isPt (slAt c50 (n52 * 4)) ∧ (∃ m53 : M, (((stC m49 (ptAdd (slAt c50 (n52 * 4)) 3) 1 [(C.bool true)]) = (Option.some m53)) ∧ 
 ((ifB (noFnC c51) ((ldC m53 (C.ptr ((m7).nxt + 1) 4)) = (Option.some c51)) False) ∧ 
 (∃ n54 : Nat, ((((wrapZ IntKind.i64 a200) % (((slLen c16) : Nat) : Int)) = ((n54 : Nat) : Int)) ∧ 
 ((n54 < (slLen c51)) ∧ (isPt (slAt c51 (n54 * 4)) ∧ (∃ m55 : M, (((stC m53 (ptAdd (slAt c51 (n54 * 4)) 3) 1 [(C.bool false)]) = (Option.some m55)) ∧ 
 (∀ m56 : M, ((m56 = (M.new m55 (AO.cells 0 [] false))) → (isPt (C.ptr (m).nxt 0) ∧ 
 (∃ c57 : C, (((ldC m56 (C.ptr (m).nxt 4)) = (Option.some c57)) ∧ ((ifB (noFnC c57) ((ldC m55 (C.ptr (m).nxt 4)) = (Option.some c57)) False) ∧ 
 (∃ n58 : Nat, (∃ n59 : Nat, ((n58 = 0) ∧ ((((wrapZ IntKind.i64 a200) % (((slLen c16) : Nat) : Int)) = ((n59 : Nat) : Int)) ∧ 
 (∃ c60 : C, (((subC 4 c57 n58 n59) = (Option.some c60)) ∧ (∃ c61 : C, (∃ m62 : M, 
 ((ApR prog 27 m56 (C.sl (m55).nxt 0 0 0 (Option.some 0)) c60 c61 m62) ∧ (isPt (C.ptr (m).nxt 0) ∧ 
 (∃ c63 : C, (((ldC m62 (C.ptr (m).nxt 4)) = (Option.some c63)) ∧ ((ifB (noFnC c63) ((ldC m56 (C.ptr (m).nxt 4)) = (Option.some c63)) False) ∧ 
 ((ifB (noFnC c63) ((ldC m55 (C.ptr (m).nxt 4)) = (Option.some c63)) False) ∧ 
 (fitsP IntKind.i64 (((wrapZ IntKind.i64 a200) % (((slLen c16) : Nat) : Int)) + (1 : Int)) ∧ 
 (∃ n64 : Nat, (∃ n65 : Nat, (((((wrapZ IntKind.i64 a200) % (((slLen c16) : Nat) : Int)) + (1 : Int)) = ((n64 : Nat) : Int)) ∧ 
 ((n65 = (slLen c63)) ∧ (∃ c66 : C, (((subC 4 c63 n64 n65) = (Option.some c66)) ∧ 
 (∃ c67 : C, (∃ m68 : M, ((ApR prog 27 m62 c61 c66 c67 m68) ∧ (isPt (C.ptr ((m7).nxt + 0) 0) ∧ 
 (∃ m69 : M, (((stC m68 (C.ptr ((m7).nxt + 0) 4) 1 [c67]) = (Option.some m69)) ∧ 
 (∃ x70 : Int, (∃ x71 : Int, (∃ c72 : C, (∃ x73 : Int, (∃ c74 : C, (((ldA m69 (C.ptr (m17).nxt 0) 5) = (Option.some [(C.int IntKind.i64 x70), 
 (C.int IntKind.i64 x71), c72, (C.int IntKind.i64 x73), c74])) ∧ (Wc prog tbl 33 [(V.agg 5 [(C.int IntKind.i64 x70), 
 (C.int IntKind.i64 x71), c72, (C.int IntKind.i64 x73), c74])] m69 (fun v75 m76 => 
 (∃ x77 : Int, (∃ x78 : Int, (∃ c79 : C, (∃ x80 : Int, (∃ c81 : C, ((v75 = (V.agg 5 [(C.int IntKind.i64 x77), 
 (C.int IntKind.i64 x78), c79, (C.int IntKind.i64 x80), c81])) ∧ (Wc prog tbl 41 [(V.agg 5 [(C.int IntKind.i64 x77), 
 (C.int IntKind.i64 x78), c79, (C.int IntKind.i64 x80), c81])] m76 (fun v82 m83 => 
 (∃ x84 : Int, (∃ x85 : Int, (∃ x86 : Int, ((v82 = (V.tup [(U.agg 2 [(C.int IntKind.i64 x84), 
 (C.int IntKind.i64 x85)]), (U.c (C.int IntKind.i64 x86))])) ∧ (∀ m87 : M, ((m87 = (M.new m83 (AO.cells 2 [(C.int IntKind.i64 (0 : Int)), 
 (C.int IntKind.i64 (0 : Int))] false))) → (∃ m88 : M, (((stC m87 (C.ptr (m83).nxt 0) 2 [(C.int IntKind.i64 x84), 
 (C.int IntKind.i64 x85)]) = (Option.some m88)) ∧ (∃ x89 : Int, (∃ x90 : Int, 
 (∃ c91 : C, (∃ x92 : Int, (∃ c93 : C, (((ldA m88 (C.ptr ((m7).nxt + 0) 0) 5) = (Option.some [(C.int IntKind.i64 x89), 
 (C.int IntKind.i64 x90), c91, (C.int IntKind.i64 x92), c93])) ∧ (Wc prog tbl 33 [(V.agg 5 [(C.int IntKind.i64 x89), 
 (C.int IntKind.i64 x90), c91, (C.int IntKind.i64 x92), c93])] m88 (fun v94 m95 => 
 (∃ x96 : Int, (∃ x97 : Int, (∃ c98 : C, (∃ x99 : Int, (∃ c100 : C, ((v94 = (V.agg 5 [(C.int IntKind.i64 x96), 
 (C.int IntKind.i64 x97), c98, (C.int IntKind.i64 x99), c100])) ∧ (Wc prog tbl 41 [(V.agg 5 [(C.int IntKind.i64 x96), 
 (C.int IntKind.i64 x97), c98, (C.int IntKind.i64 x99), c100])] m95 (fun v101 m102 => 
 (∃ x103 : Int, (∃ x104 : Int, (∃ x105 : Int, ((v101 = (V.tup [(U.agg 2 [(C.int IntKind.i64 x103), 
 (C.int IntKind.i64 x104)]), (U.c (C.int IntKind.i64 x105))])) ∧ (∀ m106 : M, 
 ((m106 = (M.new m102 (AO.cells 2 [(C.int IntKind.i64 (0 : Int)), (C.int IntKind.i64 (0 : Int))] false))) → 
 (∃ m107 : M, (((stC m106 (C.ptr (m102).nxt 0) 2 [(C.int IntKind.i64 x103), (C.int IntKind.i64 x104)]) = (Option.some m107)) ∧ 
 (∃ x108 : Int, (∃ x109 : Int, (∃ c110 : C, (∃ x111 : Int, (∃ c112 : C, (((ldA m107 (C.ptr ((m7).nxt + 1) 0) 5) = (Option.some [(C.int IntKind.i64 x108), 
 (C.int IntKind.i64 x109), c110, (C.int IntKind.i64 x111), c112])) ∧ (Wc prog tbl 33 [(V.agg 5 [(C.int IntKind.i64 x108), 
 (C.int IntKind.i64 x109), c110, (C.int IntKind.i64 x111), c112])] m107 (fun v113 m114 => 
 (∃ x115 : Int, (∃ x116 : Int, (∃ c117 : C, (∃ x118 : Int, (∃ c119 : C, ((v113 = (V.agg 5 [(C.int IntKind.i64 x115), 
 (C.int IntKind.i64 x116), c117, (C.int IntKind.i64 x118), c119])) ∧ (Wc prog tbl 41 [(V.agg 5 [(C.int IntKind.i64 x115), 
 (C.int IntKind.i64 x116), c117, (C.int IntKind.i64 x118), c119])] m114 (fun v120 m121 => 
 (∃ x122 : Int, (∃ x123 : Int, (∃ x124 : Int, ((v120 = (V.tup [(U.agg 2 [(C.int IntKind.i64 x122), 
 (C.int IntKind.i64 x123)]), (U.c (C.int IntKind.i64 x124))])) ∧ (∀ m125 : M, 
 ((m125 = (M.new m121 (AO.cells 2 [(C.int IntKind.i64 (0 : Int)), (C.int IntKind.i64 (0 : Int))] false))) → 
 (∃ m126 : M, (((stC m125 (C.ptr (m121).nxt 0) 2 [(C.int IntKind.i64 x122), (C.int IntKind.i64 x123)]) = (Option.some m126)) ∧ 
 (ifB (!decide (x86 = x105)) (Q (V.c (C.bool false)) m126) (∃ x127 : Int, (∃ x128 : Int, 
 (((ldA m126 (C.ptr (m83).nxt 0) 2) = (Option.some [(C.int IntKind.i64 x127), 
 (C.int IntKind.i64 x128)])) ∧ (∃ x129 : Int, (∃ x130 : Int, (((ldA m126 (C.ptr (m102).nxt 0) 2) = (Option.some [(C.int IntKind.i64 x129), 
 (C.int IntKind.i64 x130)])) ∧ (fitsP IntKind.i64 x127 ∧ (fitsP IntKind.i64 x129 ∧ 
 (fitsP IntKind.i64 x128 ∧ (fitsP IntKind.i64 x130 ∧ (ifB (!((decide (x127 = x129)) && (decide (x128 = x130)))) (Q (V.c (C.bool false)) m126) (ifB (!decide (x86 = (0 : Int))) (ifB (!decide (x86 = (9 : Int))) (Q (V.c (C.bool false)) m126) (ifB (!decide (x124 = (9 : Int))) (Q (V.c (C.bool false)) m126) (ifB (!decide (x124 = (0 : Int))) (ifB (decide (x124 = (9 : Int))) (Wc prog tbl 20 [] m126 (fun v131 m132 => 
 (∃ b133 : Bool, ((v131 = (V.c (C.bool b133))) ∧ (Q (V.c (C.bool b133)) m132))))) (Q (V.c (C.bool false)) m126)) (isPt (C.ptr (m121).nxt 0) ∧ 
 (∃ x134 : Int, (((ldC m126 (C.ptr (m121).nxt 0)) = (Option.some (C.int IntKind.i64 x134))) ∧ 
 (isPt (C.ptr (m83).nxt 0) ∧ (∃ x135 : Int, (((ldC m126 (C.ptr (m83).nxt 0)) = (Option.some (C.int IntKind.i64 x135))) ∧ 
 (ifB (decide (x135 ≤ x134)) (isPt (C.ptr (m121).nxt 0) ∧ (∃ x136 : Int, (((ldC m126 (C.ptr (m121).nxt 1)) = (Option.some (C.int IntKind.i64 x136))) ∧ 
 (isPt (C.ptr (m83).nxt 0) ∧ (∃ x137 : Int, (((ldC m126 (C.ptr (m83).nxt 1)) = (Option.some (C.int IntKind.i64 x137))) ∧ 
 (ifB (decide (x136 ≤ x137)) (Wc prog tbl 20 [] m126 (fun v138 m139 => (∃ b140 : Bool, 
 ((v138 = (V.c (C.bool b140))) ∧ (Q (V.c (C.bool b140)) m139))))) (Q (V.c (C.bool false)) m126)))))))) (Q (V.c (C.bool false)) m126))))))))))) (ifB (!decide (x124 = (0 : Int))) (ifB (decide (x124 = (9 : Int))) (Wc prog tbl 20 [] m126 (fun v141 m142 => 
 (∃ b143 : Bool, ((v141 = (V.c (C.bool b143))) ∧ (Q (V.c (C.bool b143)) m142))))) (Q (V.c (C.bool false)) m126)) (isPt (C.ptr (m121).nxt 0) ∧ 
 (∃ x144 : Int, (((ldC m126 (C.ptr (m121).nxt 0)) = (Option.some (C.int IntKind.i64 x144))) ∧ 
 (isPt (C.ptr (m83).nxt 0) ∧ (∃ x145 : Int, (((ldC m126 (C.ptr (m83).nxt 0)) = (Option.some (C.int IntKind.i64 x145))) ∧ 
 (ifB (decide (x145 ≤ x144)) (isPt (C.ptr (m121).nxt 0) ∧ (∃ x146 : Int, (((ldC m126 (C.ptr (m121).nxt 1)) = (Option.some (C.int IntKind.i64 x146))) ∧ 
 (isPt (C.ptr (m83).nxt 0) ∧ (∃ x147 : Int, (((ldC m126 (C.ptr (m83).nxt 1)) = (Option.some (C.int IntKind.i64 x147))) ∧ 
 (ifB (decide (x146 ≤ x147)) (Wc prog tbl 20 [] m126 (fun v148 m149 => (∃ b150 : Bool, 
 ((v148 = (V.c (C.bool b150))) ∧ (Q (V.c (C.bool b150)) m149))))) (Q (V.c (C.bool false)) m126)))))))) (Q (V.c (C.bool false)) m126))))))))))))))))))))))))))))))))))))))))))))))))))))))))))))))))))))))))))))))))))))))))))))))))))))))))))))))))))))))))))))))))))))))))))))))))))))))))))))))))))))))))))))))))))))))))))))))))))))))))))))))))))))))))))))))))))))))))))))))))))))) : Wc prog tbl 18 [(V.agg 5 [(C.int IntKind.i64 a100), (C.int IntKind.i64 a101), a102, (C.int IntKind.i64 a103), a104]), (V.c (C.int IntKind.u8 a200))] m Q :=
 wc_eq (n := 2) rfl (by kernel_rfl) (by kernel_rfl) h
end
end Go.Proofs.Ytgkjfhkjgdiodaa

namespace Go.Abs
noncomputable section
/-- a slice that can be sliced again -/
def SubOk (x : C) (n : Nat) : Prop := (x = .sl0 ∧ n = 0) ∨ ∃ b o cap, x = .sl b o n 0 (some cap) ∧ n ≤ cap
theorem Seg.sub {m : M} {b o : Nat} {vs : List C} (h : Seg m b o vs) {a l : Nat} (hl : a + l ≤ vs.length) : Seg m b (o + a) ((vs.drop a).take l) := by
  have hlen : ((vs.drop a).take l).length = l := by rw [List.length_take, List.length_drop]; omega
  have hsub : ∀ (ws : List C) (p : Nat), (ws.drop p).take vs.length = vs → (ws.drop (p + a)).take l = (vs.drop a).take l := fun ws p hp => by
    rw [← hp, List.drop_take, List.take_take, List.drop_drop]
    congr 1
    omega
  rcases h with ⟨n, ws, op, h1, h2, h3, h4⟩ | ⟨h1, q, h2, h3, h4, h5⟩
  · exact .inl ⟨n, ws, op, h1, h2, by omega, by rw [hlen]; exact hsub ws o h4⟩
  · refine .inr ⟨h1, q, h2, by omega, by omega, ?_⟩
    rw [hlen, show o + a - q.1 = (o - q.1) + a by omega]
    exact hsub q.2 _ h5
theorem Ls.sub {m : M} {k n : Nat} {x : C} {vs : List C} (h : Ls m k x vs n) (hs : SubOk x n) (hk : 0 < k) {i j : Nat} (hij : i ≤ j) (hj : j ≤ n) : ∃ c, subC k x i j = some c ∧ Ls m k c ((vs.drop (i * k)).take ((j - i) * k)) (j - i) := by
  have hl := h.len
  have h1 : i * k + (j - i) * k = j * k := by rw [← Nat.add_mul]; congr 1; omega
  have h2 : j * k ≤ n * k := Nat.mul_le_mul_right _ hj
  have hlen : (j - i) * k = ((vs.drop (i * k)).take ((j - i) * k)).length := by rw [List.length_take, List.length_drop]; omega
  rcases hs with ⟨rfl, rfl⟩ | ⟨b, o, cap, rfl, hc⟩
  · have hj0 : j = 0 := by omega
    have hi0 : i = 0 := by omega
    subst hj0 hi0
    exact ⟨.sl0, rfl, by rw [← h1] at *; simpa using Ls.nil m k⟩
  · obtain ⟨hb, hseg⟩ : b < m.nxt ∧ (n ≠ 0 → Seg m b o vs) := by
      rcases h.val with ⟨h0, _⟩ | ⟨b', o', s', c', h0, h3, h4⟩
      · cases h0
      · cases h0; exact ⟨h3, h4⟩
    refine ⟨.sl b (ifB (Nat.beq cap i) o (Nat.add o (Nat.mul i k))) (j - i) 0 (some (cap - i)), ?_, hlen, .inr ⟨b, _, 0, _, rfl, hb, fun hne => ?_⟩⟩
    · show ifB (Nat.ble i j) (ifB (Nat.ble j cap) _ none) none = _
      rw [Nat.ble_eq_true_of_le hij, Nat.ble_eq_true_of_le (show j ≤ cap by omega)]; rfl
    · have hci : Nat.beq cap i = false := by
        cases hq : Nat.beq cap i with
        | true => have := Nat.eq_of_beq_eq_true hq; omega
        | false => rfl
      rw [hci]
      exact (hseg (by omega)).sub (a := i * k) (l := (j - i) * k) (by have := h.len; omega)
/-- append to a slice of one's own, also of nothing -/
theorem ap_any {P : Program} {t el k : Nat} (ht : tk P t = .sl el) (hgr : growOk P el = true) (hk : P.cellsOf el = k) (hk0 : 0 < k) {m : M} {s x : C} {vs ws : List C} {n j : Nat} (hs : Own1 m k s vs n) (hx : Ls m k x ws j) (hnj : n + j ≤ 1048576) :
    ∃ c m', ApR P t m s x c m' ∧ Own1 m' k c (vs ++ ws) (n + j) ∧ m.nxt ≤ m'.nxt ∧ m'.vw = m.vw ∧ (∀ b, b < m.nxt → slB s ≠ some b → m'.g b = m.g b) ∧ (Fr m c ∨ c = s) := by
  by_cases hj : j = 0
  · subst hj
    have hw : ws = [] := List.eq_nil_of_length_eq_zero (by rw [← hx.len]; omega)
    subst hw
    exact ⟨s, m, ap_none ht hgr hk hs hx, by rw [List.append_nil]; exact hs, Nat.le_refl _, rfl, fun _ _ _ => rfl, .inr rfl⟩
  · obtain ⟨m', q1, q2, q3, q4, q5⟩ := ap_own ht hgr hk hs hx (by omega) hk0 hnj
    exact ⟨_, m', q1, q2, by omega, q4, fun b hb hsb => q5 b (by omega) hsb, .inl fun b o n' s' d h => by cases h; exact Nat.le_refl _⟩
theorem Own1.lit0 {m m0 : M} {k : Nat} (h : m0 = m.new (.cells 0 [] false)) : Own1 m0 k (.sl m.nxt 0 0 0 (some 0)) [] 0 ∧ Ext m m0 := by
  have h' : m0 = m.new (.cells 0 [] false) := h
  obtain ⟨b, x⟩ := Bk.new h'
  exact ⟨⟨by simp, .lit _ (by rw [Nat.zero_mul]; exact b.g) b.lt⟩, x⟩
end
end Go.Abs
namespace Go.Proofs.Ytgkjfhkjgdiodaa
open _root_.Go.Proofs.Try
open Go.Abs
set_option maxRecDepth 100000
noncomputable section
theorem t27 : tk prog 27 = .sl 94 := by kernel_rfl
theorem g94 : growOk prog 94 = true := by kernel_rfl
theorem z94 : prog.cellsOf 94 = 4 := by kernel_rfl
theorem bd_small {r c sm : Int} {L : List Int} {N : List Cnt} (hv : svErr r c L sm N = 0) : (0 ≤ (boundsOf r c L sm N (trueErr r c L sm N) (shareOf L)).1 ∧ (boundsOf r c L sm N (trueErr r c L sm N) (shareOf L)).1 ≤ 100000) ∧ 0 ≤ (boundsOf r c L sm N (trueErr r c L sm N) (shareOf L)).2 ∧ (boundsOf r c L sm N (trueErr r c L sm N) (shareOf L)).2 ≤ 100000 := by
  obtain ⟨hO, hsm⟩ := okay_of hv
  obtain ⟨hS, hL9, hrc⟩ := field_of hO.f
  unfold boundsOf
  by_cases ht : trueErr r c L sm N = 0
  · rw [if_pos ht]
    obtain ⟨_, hpos⟩ := true_sv ht
    have hlp : 0 < ((truthsP c sm L N).map (shareOf L)).length := by rw [List.length_map]; exact hpos
    have hD : ∀ v ∈ (truthsP c sm L N).map (shareOf L), 0 ≤ v ∧ v ≤ 100000 := fun v hv' => by
      obtain ⟨H, h1, rfl⟩ := List.mem_map.1 hv'
      exact share_bd hS hL9 (truth_of hO.f h1)
    exact ⟨hD _ (lo_spec hlp).1, hD _ (hi_spec hlp).1⟩
  · rw [if_neg ht]; exact ⟨⟨by show (0 : Int) ≤ 0; omega, by show (0 : Int) ≤ _; omega⟩, by show (0 : Int) ≤ 0; omega, by show (0 : Int) ≤ _; omega⟩
end
end Go.Proofs.Ytgkjfhkjgdiodaa
namespace Go.Abs
end Go.Abs

namespace Go.Proofs.Ytgkjfhkjgdiodaa
open _root_.Go.Proofs.Try
open Go.Abs
set_option maxRecDepth 100000
noncomputable section
theorem get_rep (n i : Nat) : (List.replicate n (0 : Int))[i]! = 0 := by
  by_cases h : i < n
  · rw [getElem!_pos _ i (by rw [List.length_replicate]; exact h), List.getElem_replicate]
  · rw [getElem!_neg _ i (by rw [List.length_replicate]; exact h)]; rfl
theorem zero_truth {r c sm : Int} {L : List Int} {N : List Cnt} {S : Nat → Bool} (hv : svErr r c L sm N = 0) (hS : ∀ k, k < N.length → S k = true) : TruthR c sm L (outN N S) (List.replicate L.length 0) := by
  obtain ⟨hO, hsm⟩ := okay_of hv
  obtain ⟨hSm, hL9, hrc⟩ := field_of hO.f
  refine ⟨decide_eq_true ⟨List.length_replicate, fun i hi => ?_⟩, fun a b _ _ _ => ?_, fun n hn hl => ?_⟩
  · rw [get_rep]
    have := hSm _ (List.getElem_mem hi)
    rw [getElem!_pos L i hi]; omega
  · rw [get_rep, get_rep]; omega
  · obtain ⟨k, hk, rfl⟩ := List.getElem_of_mem hn
    have h1 := List.getElem?_eq_getElem hk
    rw [outN_get] at h1
    have hk' : k < N.length := by rw [outN_len] at hk; exact hk
    rw [List.getElem?_eq_getElem hk'] at h1
    have h2 := Option.some.inj h1
    rw [← h2] at hl
    have h3 : (N[k].late || S k) = false := hl
    rw [hS k hk'] at h3; simp at h3
/-- the counts of a list can be left out -/
def CanL (c sm : Int) (L : List Int) (N : List Cnt) (D : List Int) : Prop := ∃ H, TruthR c sm L (outN N (inD D)) H
theorem leave_can {r c sm : Int} {L : List Int} {N : List Cnt} (hv : svErr r c L sm N = 0) : Inc N.length 0 (leaveL r c sm L N) ∧ CanL c sm L N (leaveL r c sm L N) ∧ ∀ D, Inc N.length 0 D → CanL c sm L N D → D = leaveL r c sm L N ∨ shB (leaveL r c sm L N) D = true := by
  have h16 : N.length ≤ 16 := by have := (okay_of hv).1.n; omega
  have hfull : Inc N.length 0 (bitsL (2 ^ N.length - 1)) := bits_inc h16 (by have := Nat.two_pow_pos N.length; omega)
  have hcf : CanL c sm L N (bitsL (2 ^ N.length - 1)) := ⟨_, zero_truth hv fun k hk => by rw [inD_bits h16 hk, Nat.testBit_two_pow_sub_one]; exact decide_eq_true hk⟩
  obtain ⟨h1, h2, h3⟩ := shortL_spec (n := N.length) (t := leaveB c sm L N) ⟨_, hfull, (leaveB_iff hv hfull).2 hcf⟩
  unfold leaveL
  rw [if_pos hv]
  exact ⟨h1, (leaveB_iff hv h1).1 h2, fun D h4 h5 => h3 D h4 ((leaveB_iff hv h4).2 h5)⟩
end
end Go.Proofs.Ytgkjfhkjgdiodaa

namespace Go.Proofs.Ytgkjfhkjgdiodaa
open _root_.Go.Proofs.Try
open Go.Abs
set_option maxRecDepth 100000
noncomputable section
/-- the place, with rn rows and cn columns, in the other field -/
def sg (rn cn p : Nat) : Nat := p % cn * rn + p / cn
theorem sg_facts : ∀ rn : Fin 5, ∀ cn : Fin 5, ∀ p : Fin 16, 0 < rn.val → 0 < cn.val → p.val < rn.val * cn.val → sg rn.val cn.val p.val < rn.val * cn.val ∧ sg cn.val rn.val (sg rn.val cn.val p.val) = p.val := by decide +kernel
theorem sg_ok {rn cn p : Nat} (hr : 0 < rn ∧ rn ≤ 4) (hc : 0 < cn ∧ cn ≤ 4) (h9 : rn * cn ≤ 9) (hp : p < rn * cn) : sg rn cn p < rn * cn ∧ sg cn rn (sg rn cn p) = p :=
  sg_facts ⟨rn, by omega⟩ ⟨cn, by omega⟩ ⟨p, by omega⟩ hr.1 hc.1 hp
theorem near_facts : ∀ rn : Fin 5, ∀ cn : Fin 5, ∀ a : Fin 9, ∀ b : Fin 9, 0 < rn.val → 0 < cn.val → rn.val * cn.val ≤ 9 → a.val < b.val → b.val < rn.val * cn.val → ((a.val / rn.val = b.val / rn.val ∧ b.val = a.val + 1) ∨ b.val = a.val + rn.val) →
    sg cn rn a.val < sg cn rn b.val ∧ ((sg cn rn a.val / cn.val = sg cn rn b.val / cn.val ∧ sg cn rn b.val = sg cn rn a.val + 1) ∨ sg cn rn b.val = sg cn rn a.val + cn.val) := by decide +kernel
def turnL (rn cn : Nat) (L : List Int) : List Int := (List.range (rn * cn)).map fun j => L[sg cn rn j]!
def turnC (rn cn : Nat) (n : Cnt) : Cnt := { n with p := ((sg rn cn n.p.toNat : Nat) : Int) }
variable {rn cn : Nat}
theorem turn_len (L : List Int) : (turnL rn cn L).length = rn * cn := by simp [turnL]
theorem turn_get {L : List Int} {j : Nat} (hj : j < rn * cn) : (turnL rn cn L)[j]! = L[sg cn rn j]! := by
  rw [getElem!_pos _ j (by rw [turn_len]; exact hj)]
  simp [turnL]
theorem turn_turn {L : List Int} (hr : 0 < rn ∧ rn ≤ 4) (hc : 0 < cn ∧ cn ≤ 4) (h9 : rn * cn ≤ 9) (hL : L.length = rn * cn) : turnL cn rn (turnL rn cn L) = L := by
  refine List.ext_getElem (by rw [turn_len, hL, Nat.mul_comm]) fun j h1 h2 => ?_
  have hj : j < rn * cn := by omega
  have h3 := sg_ok hr hc h9 hj
  rw [← getElem!_pos _ j h1, ← getElem!_pos L j h2, turn_get (by rw [Nat.mul_comm]; exact hj), turn_get h3.1, h3.2]
theorem range_self (L : List Int) : (List.range L.length).map (fun j => L[j]!) = L := by
  refine List.ext_getElem (by simp) fun j h1 h2 => ?_
  rw [List.getElem_map, List.getElem_range, getElem!_pos L j h2]
theorem turn_perm {L : List Int} (hr : 0 < rn ∧ rn ≤ 4) (hc : 0 < cn ∧ cn ≤ 4) (h9 : rn * cn ≤ 9) (hL : L.length = rn * cn) : (turnL rn cn L).Perm L := by
  have h9' : cn * rn ≤ 9 := by rw [Nat.mul_comm]; exact h9
  have hp : ((List.range (rn * cn)).map fun j => sg cn rn j).Perm (List.range (rn * cn)) := by
    refine (List.perm_ext_iff_of_nodup ?_ List.nodup_range).2 fun a => ?_
    · show List.Pairwise (· ≠ ·) _
      rw [List.pairwise_map]
      refine List.Pairwise.imp_of_mem (R := fun a b => a < b) (fun {a b} ha hb hab he => ?_) List.pairwise_lt_range
      have ha' := List.mem_range.1 ha
      have hb' := List.mem_range.1 hb
      have h1 := sg_ok hc hr h9' (by rw [Nat.mul_comm]; exact ha')
      have h2 := sg_ok hc hr h9' (by rw [Nat.mul_comm]; exact hb')
      rw [he] at h1
      rw [h1.2] at h2
      omega
    · rw [List.mem_map, List.mem_range]
      constructor
      · rintro ⟨j, h1, rfl⟩
        have := sg_ok hc hr h9' (by rw [Nat.mul_comm]; exact List.mem_range.1 h1)
        rw [Nat.mul_comm]; exact this.1
      · intro h1
        have := sg_ok hr hc h9 h1
        exact ⟨_, List.mem_range.2 this.1, this.2⟩
  have h1 := hp.map fun j => L[j]!
  rw [List.map_map] at h1
  have h2 := range_self L
  rw [hL] at h2
  rw [h2] at h1
  exact h1
theorem sumA_perm {A B : List Int} (h : A.Perm B) : ∀ a : Int, sumA a A = sumA a B := by
  induction h with
  | nil => intro a; rfl
  | cons x _ ih => intro a; exact ih _
  | swap x y l => intro a; show sumA (a + y + x) l = sumA (a + x + y) l; rw [Int.add_right_comm]
  | trans _ _ ih1 ih2 => intro a; rw [ih1, ih2]
theorem prodN_perm {A B : List Int} (h : A.Perm B) : prodN A = prodN B := by
  induction h with
  | nil => rfl
  | cons x _ ih => show (x.toNat + 1) * prodN _ = (x.toNat + 1) * prodN _; rw [ih]
  | swap x y l => show (y.toNat + 1) * ((x.toNat + 1) * prodN l) = (x.toNat + 1) * ((y.toNat + 1) * prodN l); exact Nat.mul_left_comm _ _ _
  | trans _ _ ih1 ih2 => rw [ih1, ih2]
theorem share_turn {L H : List Int} (hr : 0 < rn ∧ rn ≤ 4) (hc : 0 < cn ∧ cn ≤ 4) (h9 : rn * cn ≤ 9) (hL : L.length = rn * cn) (hH : H.length = rn * cn) : shareOf (turnL rn cn L) (turnL rn cn H) = shareOf L H := by
  unfold shareOf
  rw [sumA_perm (turn_perm hr hc h9 hL), sumA_perm (turn_perm hr hc h9 hH)]
/-- what is asked of the sides -/
structure Tn (rn cn : Nat) : Prop where
  r : 0 < rn ∧ rn ≤ 4
  c : 0 < cn ∧ cn ≤ 4
  m : rn * cn ≤ 9
theorem Tn.symm (h : Tn rn cn) : Tn cn rn := ⟨h.c, h.r, by rw [Nat.mul_comm]; exact h.m⟩
theorem turn_truth {sm : Int} {L H : List Int} {N : List Cnt} (t : Tn rn cn) (hL : L.length = rn * cn) (hN : ∀ n ∈ N, 0 ≤ n.p ∧ n.p < (rn * cn : Nat)) (hT : TruthR (cn : Int) sm L N H) : TruthR (rn : Int) sm (turnL rn cn L) (N.map (turnC rn cn)) (turnL rn cn H) := by
  have hlH : H.length = rn * cn := by rw [listed_len hT.1]; exact hL
  have h9' : cn * rn ≤ 9 := t.symm.m
  have hsg : ∀ j, j < rn * cn → sg cn rn j < rn * cn := fun j hj => by
    have := sg_ok t.c t.r h9' (by rw [Nat.mul_comm]; exact hj)
    rw [Nat.mul_comm]; exact this.1
  refine ⟨decide_eq_true ⟨by rw [turn_len, turn_len], fun i hi => ?_⟩, fun a b hab hb hcond => ?_, fun n hn hl => ?_⟩
  · rw [turn_len] at hi
    rw [turn_get hi, turn_get hi]
    exact (of_decide_eq_true hT.1).2 _ (by rw [hL]; exact hsg i hi)
  · rw [turn_len] at hb
    have ha : a < rn * cn := by omega
    have hm := t.m
    have hc' : (a / rn = b / rn ∧ b = a + 1) ∨ b = a + rn := by
      rcases hcond with ⟨h1, h2⟩ | h1
      · exact .inl ⟨by have : ((a / rn : Nat) : Int) = ((b / rn : Nat) : Int) := by rw [Int.natCast_ediv, Int.natCast_ediv]; exact h1
                       omega, h2⟩
      · exact .inr (by omega)
    have hnf := near_facts ⟨rn, by have := t.r; omega⟩ ⟨cn, by have := t.c; omega⟩ ⟨a, by omega⟩ ⟨b, by omega⟩ t.r.1 t.c.1 t.m hab hb hc'
    have hpr := hT.2.1 (sg cn rn a) (sg cn rn b) hnf.1 (by rw [hlH]; exact hsg b hb)
    rw [turn_get ha, turn_get hb]
    refine hpr ?_
    rcases hnf.2 with ⟨h1, h2⟩ | h1
    · exact .inl ⟨by rw [← Int.natCast_ediv, ← Int.natCast_ediv]; exact congrArg Int.ofNat h1, h2⟩
    · refine .inr ?_
      have h1' : sg cn rn b = sg cn rn a + cn := h1
      omega
  · obtain ⟨q, h1, rfl⟩ := List.mem_map.1 hn
    have hq := hN q h1
    have h2 := hT.2.2 q h1 hl
    have h3 := sg_ok t.r t.c t.m (p := q.p.toNat) (by omega)
    show q.lo ≤ (turnL rn cn H)[((sg rn cn q.p.toNat : Nat) : Int).toNat]! ∧ (turnL rn cn H)[((sg rn cn q.p.toNat : Nat) : Int).toNat]! ≤ q.hi
    rw [Int.toNat_natCast, turn_get h3.1, h3.2]
    exact h2
theorem turnC_turn {N : List Cnt} (t : Tn rn cn) (hN : ∀ n ∈ N, 0 ≤ n.p ∧ n.p < (rn * cn : Nat)) : (N.map (turnC rn cn)).map (turnC cn rn) = N := by
  rw [List.map_map]
  have : ∀ n ∈ N, (turnC cn rn ∘ turnC rn cn) n = n := fun n hn => by
    have hq := hN n hn
    have h3 := sg_ok t.r t.c t.m (p := n.p.toNat) (by omega)
    show ({ p := ((sg cn rn ((sg rn cn n.p.toNat : Nat) : Int).toNat : Nat) : Int), lo := n.lo, hi := n.hi, late := n.late } : Cnt) = n
    rw [Int.toNat_natCast, h3.2, show ((n.p.toNat : Nat) : Int) = n.p by omega]
  rw [List.map_congr_left this, List.map_id']
theorem turnC_in {N : List Cnt} (t : Tn rn cn) (hN : ∀ n ∈ N, 0 ≤ n.p ∧ n.p < (rn * cn : Nat)) : ∀ n ∈ N.map (turnC rn cn), 0 ≤ n.p ∧ n.p < (cn * rn : Nat) := fun n hn => by
  obtain ⟨q, h1, rfl⟩ := List.mem_map.1 hn
  have hq := hN q h1
  have h3 := sg_ok t.r t.c t.m (p := q.p.toNat) (by omega)
  show (0 : Int) ≤ ((sg rn cn q.p.toNat : Nat) : Int) ∧ ((sg rn cn q.p.toNat : Nat) : Int) < _
  rw [Nat.mul_comm cn rn]
  omega
/-- a valid survey, in numbers that count -/
structure Vs (rn cn : Nat) (sm : Int) (L : List Int) (N : List Cnt) : Prop where
  t : Tn rn cn
  v : svErr (rn : Int) (cn : Int) L sm N = 0
theorem Vs.len {sm : Int} {L : List Int} {N : List Cnt} (h : Vs rn cn sm L N) : L.length = rn * cn := by
  obtain ⟨hO, _⟩ := okay_of h.v
  obtain ⟨_, _, hrc⟩ := field_of hO.f
  have : ((L.length : Nat) : Int) = ((rn * cn : Nat) : Int) := by rw [hrc, Int.natCast_mul]
  omega
theorem Vs.pl {sm : Int} {L : List Int} {N : List Cnt} (h : Vs rn cn sm L N) : ∀ n ∈ N, 0 ≤ n.p ∧ n.p < (rn * cn : Nat) := fun n hn => by
  obtain ⟨hO, _⟩ := okay_of h.v
  have h1 : (0 ≤ n.p ∧ n.p ≤ (rn : Int) * (cn : Int) - 1) ∧ _ := of_decide_eq_true (hO.v n hn)
  have : ((rn * cn : Nat) : Int) = (rn : Int) * (cn : Int) := Int.natCast_mul ..
  omega
theorem Vs.turn {sm : Int} {L : List Int} {N : List Cnt} (h : Vs rn cn sm L N) : Vs cn rn sm (turnL rn cn L) (N.map (turnC rn cn)) := by
  refine ⟨h.t.symm, ?_⟩
  obtain ⟨hO, hsm⟩ := okay_of h.v
  obtain ⟨hS, hL9, hrc⟩ := field_of hO.f
  have hp := turn_perm h.t.r h.t.c h.t.m h.len
  have hmul : ((cn : Int)) * (rn : Int) = ((rn * cn : Nat) : Int) := by rw [Int.natCast_mul, Int.mul_comm]
  refine sv_ok ⟨?_, by rw [List.length_map]; exact hO.n, fun n hn => ?_⟩ hsm (by rw [prodN_perm hp]; exact few_truths h.v)
  · have h1 := h.t.r; have h2 := h.t.c; have h3 := h.t.m
    refine decide_eq_true ⟨⟨by omega, by omega⟩, ⟨by omega, by omega⟩, by rw [hmul]; omega, by rw [turn_len, hmul], fun v hv => hS v (hp.mem_iff.1 hv)⟩
  · have h1 := turnC_in h.t h.pl n hn
    obtain ⟨q, h2, rfl⟩ := List.mem_map.1 hn
    have h3 : (0 ≤ q.p ∧ q.p ≤ (rn : Int) * (cn : Int) - 1) ∧ 0 ≤ q.lo ∧ q.lo ≤ q.hi ∧ q.hi ≤ 9 := of_decide_eq_true (hO.v q h2)
    refine decide_eq_true ⟨⟨h1.1, ?_⟩, h3.2⟩
    rw [hmul, Nat.mul_comm rn cn]
    omega
theorem Vs.back {sm : Int} {L : List Int} {N : List Cnt} (h : Vs rn cn sm L N) : turnL cn rn (turnL rn cn L) = L ∧ (N.map (turnC rn cn)).map (turnC cn rn) = N :=
  ⟨turn_turn h.t.r h.t.c h.t.m h.len, turnC_turn h.t h.pl⟩
theorem Vs.truth {sm : Int} {L H : List Int} {N : List Cnt} (h : Vs rn cn sm L N) (hT : TruthR (cn : Int) sm L N H) : TruthR (rn : Int) sm (turnL rn cn L) (N.map (turnC rn cn)) (turnL rn cn H) := turn_truth h.t h.len h.pl hT
theorem Vs.untruth {sm : Int} {L H : List Int} {N : List Cnt} (h : Vs rn cn sm L N) (hT : TruthR (rn : Int) sm (turnL rn cn L) (N.map (turnC rn cn)) H) : TruthR (cn : Int) sm L N (turnL cn rn H) := by
  have := h.turn.truth hT
  rw [h.back.1, h.back.2] at this
  exact this
theorem Vs.share {sm : Int} {L H : List Int} {N : List Cnt} (h : Vs rn cn sm L N) (hT : TruthR (cn : Int) sm L N H) : shareOf (turnL rn cn L) (turnL rn cn H) = shareOf L H := share_turn h.t.r h.t.c h.t.m h.len (by rw [listed_len hT.1]; exact h.len)
theorem turn_err {sm : Int} {L : List Int} {N : List Cnt} (h : Vs rn cn sm L N) : trueErr (rn : Int) (cn : Int) L sm N = trueErr (cn : Int) (rn : Int) (turnL rn cn L) sm (N.map (turnC rn cn)) := by
  by_cases ht : trueErr (rn : Int) (cn : Int) L sm N = 0
  · obtain ⟨H, hH⟩ := (true_ex h.v).1 ht
    rw [ht, (true_ex h.turn.v).2 ⟨_, h.truth hH⟩]
  · have ht' : trueErr (cn : Int) (rn : Int) (turnL rn cn L) sm (N.map (turnC rn cn)) ≠ 0 := fun h0 => by
      obtain ⟨H, hH⟩ := (true_ex h.turn.v).1 h0
      exact ht ((true_ex h.v).2 ⟨_, h.untruth hH⟩)
    rw [true_nine h.v ht, true_nine h.turn.v ht']
theorem turn_lohi {sm : Int} {L : List Int} {N : List Cnt} (h : Vs rn cn sm L N) (ht : trueErr (rn : Int) (cn : Int) L sm N = 0) :
    loOf ((truthsP (rn : Int) sm (turnL rn cn L) (N.map (turnC rn cn))).map (shareOf (turnL rn cn L))) = loOf ((truthsP (cn : Int) sm L N).map (shareOf L)) ∧ hiOf ((truthsP (rn : Int) sm (turnL rn cn L) (N.map (turnC rn cn))).map (shareOf (turnL rn cn L))) = hiOf ((truthsP (cn : Int) sm L N).map (shareOf L)) := by
  obtain ⟨t1, l1, g1⟩ := bd_mono h.v h.turn.v ht (shareOf L) (shareOf (turnL rn cn L)) fun H hH => ⟨_, h.truth hH, h.share hH⟩
  obtain ⟨_, l2, g2⟩ := bd_mono h.turn.v h.v t1 (shareOf (turnL rn cn L)) (shareOf L) fun H hH => ⟨_, h.untruth hH, by
    have := h.turn.share hH
    rw [h.back.1] at this; exact this⟩
  omega
theorem turn_bounds {sm : Int} {L : List Int} {N : List Cnt} (h : Vs rn cn sm L N) : boundsOf (rn : Int) (cn : Int) L sm N (trueErr (rn : Int) (cn : Int) L sm N) (shareOf L) = boundsOf (cn : Int) (rn : Int) (turnL rn cn L) sm (N.map (turnC rn cn)) (trueErr (cn : Int) (rn : Int) (turnL rn cn L) sm (N.map (turnC rn cn))) (shareOf (turnL rn cn L)) := by
  rw [← turn_err h]
  unfold boundsOf
  by_cases ht : trueErr (rn : Int) (cn : Int) L sm N = 0
  · rw [if_pos ht, if_pos ht, (turn_lohi h ht).1, (turn_lohi h ht).2]
  · rw [if_neg ht, if_neg ht]
theorem ask_in {r c sm n : Int} {L : List Int} {N : List Cnt} (hv : svErr r c L sm N = 0) (hn : 0 ≤ n ∧ n ≤ 100) : askErr r c L sm N (decide (0 ≤ n ∧ n ≤ 100)) = trueErr r c L sm N := by unfold askErr; rw [if_pos hv, decide_eq_true hn]; rfl
theorem turn_above {sm n : Int} {L : List Int} {N : List Cnt} (h : Vs rn cn sm L N) (hn : 0 ≤ n ∧ n ≤ 100) : aboveV (rn : Int) (cn : Int) L sm N n = aboveV (cn : Int) (rn : Int) (turnL rn cn L) sm (N.map (turnC rn cn)) n := by
  unfold aboveV
  rw [ask_in h.v hn, ask_in h.turn.v hn, ← turn_err h]
  by_cases ht : trueErr (rn : Int) (cn : Int) L sm N = 0
  · rw [if_pos ht, if_pos ht, (turn_lohi h ht).1, (turn_lohi h ht).2]
  · rw [if_neg ht, if_neg ht]
/-- no more places are needed -/
theorem turn_few_le {sm n : Int} {L : List Int} {N : List Cnt} (h : Vs rn cn sm L N) (ht : trueErr (rn : Int) (cn : Int) L sm N = 0) (hn : 0 ≤ n ∧ n ≤ 100) : (fewL (cn : Int) (rn : Int) sm (turnL rn cn L) (N.map (turnC rn cn)) n).length ≤ (fewL (rn : Int) (cn : Int) sm L N n).length := by
  have ht' : trueErr (cn : Int) (rn : Int) (turnL rn cn L) sm (N.map (turnC rn cn)) = 0 := by rw [← turn_err h]; exact ht
  obtain ⟨q1, q2, _⟩ := few_spec ht hn
  obtain ⟨_, _, p3⟩ := few_spec ht' hn
  generalize fewL (rn : Int) (cn : Int) sm L N n = D at q1 q2
  rw [few_iff h.v q1] at q2
  let D' : List Int := ((List.range (rn * cn)).filter fun j => decide (((sg cn rn j : Nat) : Int) ∈ D)).map fun j => ((j : Nat) : Int)
  have hmem : ∀ j : Nat, ((j : Nat) : Int) ∈ D' ↔ j < rn * cn ∧ ((sg cn rn j : Nat) : Int) ∈ D := fun j => by
    show ((j : Nat) : Int) ∈ List.map _ _ ↔ _
    rw [List.mem_map]
    constructor
    · rintro ⟨a, h1, h2⟩
      obtain ⟨h3, h4⟩ := List.mem_filter.1 h1
      have : a = j := by omega
      subst this
      exact ⟨List.mem_range.1 h3, of_decide_eq_true h4⟩
    · rintro ⟨h1, h2⟩
      exact ⟨j, List.mem_filter.2 ⟨List.mem_range.2 h1, decide_eq_true h2⟩, rfl⟩
  have hD' : Inc (turnL rn cn L).length 0 D' := by
    refine ⟨?_, fun v hv => ?_⟩
    · show List.Pairwise _ (List.map _ _)
      rw [List.pairwise_map]
      exact (List.Pairwise.sublist List.filter_sublist List.pairwise_lt_range).imp fun h => by omega
    · obtain ⟨a, h1, rfl⟩ := List.mem_map.1 hv
      have := List.mem_range.1 (List.mem_filter.1 h1).1
      rw [turn_len]; omega
  have hdec : fewT (rn : Int) sm (turnL rn cn L) (N.map (turnC rn cn)) n D' = true := by
    rw [few_iff h.turn.v hD']
    intro H H' hT hT' h1 h2 h3
    have hb := h.turn.share hT
    have hb' := h.turn.share hT'
    rw [h.back.1] at hb hb'
    refine q2 _ _ (h.untruth hT) (h.untruth hT') (by rw [hb]; exact h1) (by rw [hb']; exact h2) fun v hv => ?_
    have hv9 := q1.2 v hv
    rw [h.len] at hv9
    have h4 := sg_ok h.t.r h.t.c h.t.m (p := v.toNat) (by omega)
    rw [turn_get (by rw [Nat.mul_comm]; omega), turn_get (by rw [Nat.mul_comm]; omega)]
    have h5 := h3 ((sg rn cn v.toNat : Nat) : Int) ((hmem _).2 ⟨h4.1, by rw [h4.2, show ((v.toNat : Nat) : Int) = v by omega]; exact hv⟩)
    rw [Int.toNat_natCast] at h5
    exact h5
  have hle : D'.length ≤ D.length := by
    have h1 : D'.length = ((List.range (rn * cn)).filter fun j => decide (((sg cn rn j : Nat) : Int) ∈ D)).length := List.length_map _
    have h2 : (((List.range (rn * cn)).filter fun j => decide (((sg cn rn j : Nat) : Int) ∈ D)).map fun j => ((sg cn rn j : Nat) : Int)).length ≤ D.length := by
      refine List.Nodup.length_le_of_subset ?_ fun v hv => ?_
      · show List.Pairwise (· ≠ ·) _
        rw [List.pairwise_map]
        refine List.Pairwise.imp_of_mem (R := fun a b => a < b) (fun {a b} ha hb hab he => ?_) (List.Pairwise.sublist List.filter_sublist List.pairwise_lt_range)
        have ha' := List.mem_range.1 (List.mem_filter.1 ha).1
        have hb' := List.mem_range.1 (List.mem_filter.1 hb).1
        have h1 := sg_ok h.t.c h.t.r h.t.symm.m (by rw [Nat.mul_comm]; exact ha')
        have h2 := sg_ok h.t.c h.t.r h.t.symm.m (by rw [Nat.mul_comm]; exact hb')
        have he' : sg cn rn a = sg cn rn b := by omega
        rw [he'] at h1
        rw [h1.2] at h2
        omega
      · obtain ⟨a, h1, rfl⟩ := List.mem_map.1 hv
        exact of_decide_eq_true (List.mem_filter.1 h1).2
    rw [List.length_map] at h2
    omega
  rcases p3 D' hD' hdec with h1 | h1
  · rw [← h1]; exact hle
  · rw [shB_iff] at h1; omega
theorem turn_few {sm n : Int} {L : List Int} {N : List Cnt} (h : Vs rn cn sm L N) (hn : 0 ≤ n ∧ n ≤ 100) : (fewL (rn : Int) (cn : Int) sm L N n).length = (fewL (cn : Int) (rn : Int) sm (turnL rn cn L) (N.map (turnC rn cn)) n).length := by
  by_cases ht : trueErr (rn : Int) (cn : Int) L sm N = 0
  · have h1 := turn_few_le h ht hn
    have h2 := turn_few_le h.turn (by rw [← turn_err h]; exact ht) hn
    rw [h.back.1, h.back.2] at h2
    omega
  · unfold fewL
    rw [ask_in h.v hn, ask_in h.turn.v hn, ← turn_err h, if_neg ht, if_neg ht]
theorem outN_turn (N : List Cnt) (S : Nat → Bool) : outN (N.map (turnC rn cn)) S = (outN N S).map (turnC rn cn) := by
  refine List.ext_getElem? fun k => ?_
  rw [outN_get, List.getElem?_map, List.getElem?_map, outN_get]
  cases N[k]? <;> rfl
theorem turn_leave {sm : Int} {L : List Int} {N : List Cnt} (h : Vs rn cn sm L N) : leaveL (rn : Int) (cn : Int) sm L N = leaveL (cn : Int) (rn : Int) sm (turnL rn cn L) (N.map (turnC rn cn)) := by
  have hcan : ∀ D, CanL (cn : Int) sm L N D ↔ CanL (rn : Int) sm (turnL rn cn L) (N.map (turnC rn cn)) D := fun D => by
    have ho : Vs rn cn sm L (outN N (inD D)) := ⟨h.t, outN_sv h.v _⟩
    unfold CanL
    rw [outN_turn]
    exact ⟨fun ⟨H, hH⟩ => ⟨_, ho.truth hH⟩, fun ⟨H, hH⟩ => ⟨_, ho.untruth hH⟩⟩
  obtain ⟨a1, a2, a3⟩ := leave_can h.v
  obtain ⟨b1, b2, b3⟩ := leave_can h.turn.v
  rw [List.length_map] at b1 b3
  rcases a3 _ b1 ((hcan _).2 b2) with h1 | h1
  · exact h1.symm
  · rcases b3 _ a1 ((hcan _).1 a2) with h2 | h2
    · exact h2
    · rw [shB_asym h1] at h2; cases h2
end
end Go.Proofs.Ytgkjfhkjgdiodaa

namespace Go.Abs
noncomputable section
/-- some cells of a block -/
theorem Bk.stoP {m : M} {b n : Nat} {vs : List C} (h : Bk m b n vs) (new : List C) (k : Nat) (hk : k + new.length ≤ vs.length) (hn : new.length ≠ n) : ∃ m', stC m (.ptr b k) new.length new = some m' ∧ Bk m' b n (vs.take k ++ new ++ vs.drop (k + new.length)) ∧ St1 m m' b := by
  refine ⟨m.set b (.cells n (vs.take k ++ new ++ vs.drop (k + new.length)) false), ?_, h.set _, .of_set rfl⟩
  show (match m.g b with
    | some (.cells n' vs opn) => ifB (Nat.beq n' new.length) (ifB (Nat.beq k 0) (some (m.set b (.cells n' new opn))) none) (optB (splice k new vs) none fun vs' => some (m.set b (.cells n' vs' opn)))
    | _ => none) = _
  rw [h.g]
  show ifB (Nat.beq n new.length) _ (optB (splice k new vs) none fun vs' => some (m.set b (.cells n vs' false))) = _
  have hb : Nat.beq n new.length = false := by
    cases hq : Nat.beq n new.length with
    | true => exact absurd (Nat.eq_of_beq_eq_true hq).symm hn
    | false => rfl
  rw [hb, ifB_false, splice_of new k vs hk, optB_some]
end
end Go.Abs
namespace Go.Proofs.Ytgkjfhkjgdiodaa
open _root_.Go.Proofs.Try
open Go.Abs
set_option maxRecDepth 100000
noncomputable section
theorem cAbove {r c sm n : Int} {x y : C} {L : List Int} {N : List Cnt} {a : Nat} {m : M} {R : Int → Int → M → Prop} (hx : Li m x L) (hL : L.length ≤ 1000) (hy : Lc m y N) (hN : N.length ≤ 1000) (ka : Bk m a 5 [.int .i64 r, .int .i64 c, x, .int .i64 sm, y])
    (h : ∀ m1, Ext m m1 → R (aboveV r c L sm N n) (askErr r c L sm N (decide (0 ≤ n ∧ n ≤ 100))) m1) :
    ∃ x1 x2 : Int, ∃ c3 : C, ∃ x4 : Int, ∃ c5 : C, ldA m (C.ptr a 0) 5 = some [C.int .i64 x1, C.int .i64 x2, c3, C.int .i64 x4, c5] ∧ Wc prog tbl 33 [V.agg 5 [C.int .i64 x1, C.int .i64 x2, c3, C.int .i64 x4, c5]] m fun v6 m7 => ∃ x8 x9 : Int, ∃ c10 : C, ∃ x11 : Int, ∃ c12 : C, v6 = V.agg 5 [C.int .i64 x8, C.int .i64 x9, c10, C.int .i64 x11, c12] ∧
      Wc prog tbl 48 [V.agg 5 [C.int .i64 x8, C.int .i64 x9, c10, C.int .i64 x11, c12], V.c (C.int .i64 n)] m7 fun v13 m14 => ∃ x15 x16 : Int, v13 = V.tup [U.c (C.int .i64 x15), U.c (C.int .i64 x16)] ∧ R x15 x16 m14 :=
  ⟨r, c, x, sm, y, ka.ra, s33 hx (by omega) hy (by omega) fun xa ya m7 e7 hxa hya => ⟨r, c, xa, sm, ya, rfl, s48 hxa (by omega) hya (by omega) fun m14 e14 => ⟨_, _, rfl, h m14 (e7.trans e14)⟩⟩⟩
theorem cFew {r c sm n : Int} {x y : C} {L : List Int} {N : List Cnt} {a : Nat} {m : M} {R : C → Int → M → Prop} (hx : Li m x L) (hL : L.length ≤ 1000) (hy : Lc m y N) (hN : N.length ≤ 1000) (ka : Bk m a 5 [.int .i64 r, .int .i64 c, x, .int .i64 sm, y])
    (h : ∀ z m1, Ext m m1 → Li m1 z (fewL r c sm L N n) → R z (askErr r c L sm N (decide (0 ≤ n ∧ n ≤ 100))) m1) :
    ∃ x1 x2 : Int, ∃ c3 : C, ∃ x4 : Int, ∃ c5 : C, ldA m (C.ptr a 0) 5 = some [C.int .i64 x1, C.int .i64 x2, c3, C.int .i64 x4, c5] ∧ Wc prog tbl 33 [V.agg 5 [C.int .i64 x1, C.int .i64 x2, c3, C.int .i64 x4, c5]] m fun v6 m7 => ∃ x8 x9 : Int, ∃ c10 : C, ∃ x11 : Int, ∃ c12 : C, v6 = V.agg 5 [C.int .i64 x8, C.int .i64 x9, c10, C.int .i64 x11, c12] ∧
      Wc prog tbl 49 [V.agg 5 [C.int .i64 x8, C.int .i64 x9, c10, C.int .i64 x11, c12], V.c (C.int .i64 n)] m7 fun v13 m14 => ∃ c15 : C, ∃ x16 : Int, v13 = V.tup [U.c c15, U.c (C.int .i64 x16)] ∧ R c15 x16 m14 :=
  ⟨r, c, x, sm, y, ka.ra, s33 hx (by omega) hy (by omega) fun xa ya m7 e7 hxa hya => ⟨r, c, xa, sm, ya, rfl, s49 hxa (by omega) hya (by omega) fun z m14 e14 hz => ⟨z, _, rfl, h z m14 (e7.trans e14) hz⟩⟩⟩
theorem cLeave {r c sm : Int} {x y : C} {L : List Int} {N : List Cnt} {a : Nat} {m : M} {R : C → Int → M → Prop} (hx : Li m x L) (hL : L.length ≤ 1000) (hy : Lc m y N) (hN : N.length ≤ 1000) (ka : Bk m a 5 [.int .i64 r, .int .i64 c, x, .int .i64 sm, y])
    (h : ∀ z m1, Ext m m1 → Li m1 z (leaveL r c sm L N) → R z (svErr r c L sm N) m1) :
    ∃ x1 x2 : Int, ∃ c3 : C, ∃ x4 : Int, ∃ c5 : C, ldA m (C.ptr a 0) 5 = some [C.int .i64 x1, C.int .i64 x2, c3, C.int .i64 x4, c5] ∧ Wc prog tbl 33 [V.agg 5 [C.int .i64 x1, C.int .i64 x2, c3, C.int .i64 x4, c5]] m fun v6 m7 => ∃ x8 x9 : Int, ∃ c10 : C, ∃ x11 : Int, ∃ c12 : C, v6 = V.agg 5 [C.int .i64 x8, C.int .i64 x9, c10, C.int .i64 x11, c12] ∧
      Wc prog tbl 52 [V.agg 5 [C.int .i64 x8, C.int .i64 x9, c10, C.int .i64 x11, c12]] m7 fun v13 m14 => ∃ c15 : C, ∃ x16 : Int, v13 = V.tup [U.c c15, U.c (C.int .i64 x16)] ∧ R c15 x16 m14 :=
  ⟨r, c, x, sm, y, ka.ra, s33 hx (by omega) hy (by omega) fun xa ya m7 e7 hxa hya => ⟨r, c, xa, sm, ya, rfl, s52 hxa (by omega) hya (by omega) fun z m14 e14 hz => ⟨z, _, rfl, h z m14 (e7.trans e14) hz⟩⟩⟩
theorem cnts_setp : ∀ {A : List Cnt} {i : Nat} {n : Cnt} (v : Int), A[i]? = some n → cnts (A.set i { n with p := v }) = (cnts A).set (i * 4) (.int .i64 v)
  | [], i, n, v, h => by simp at h
  | q :: A, 0, n, v, h => by
    have : q = n := by simpa using h
    subst this; rfl
  | q :: A, i + 1, n, v, h => by
    have hh : A[i]? = some n := by simpa using h
    show q.cs ++ cnts (A.set i { n with p := v }) = (q.cs ++ cnts A).set ((i + 1) * 4) (.int .i64 v)
    rw [cnts_setp v hh, show (i + 1) * 4 = i * 4 + 4 by omega]
    rfl
theorem sg_small {rn cn p : Nat} (h : sg rn cn p < rn * cn) (h9 : rn * cn ≤ 9) : p % cn * rn ≤ 9 ∧ p / cn ≤ 9 ∧ sg rn cn p ≤ 9 := by
  have h1 : sg rn cn p ≤ 9 := Nat.le_of_lt (Nat.lt_of_lt_of_le h h9)
  exact ⟨Nat.le_trans (Nat.le_add_right _ (p / cn)) h1, Nat.le_trans (Nat.le_add_left _ (p % cn * rn)) h1, h1⟩
theorem s15 {r c sm a : Int} {x y : C} {L : List Int} {N : List Cnt} {m : M} {Q : V → M → Prop} (hx : Li m x L) (hy : Lc m y N) (ha : 0 ≤ a ∧ a ≤ 255) (h : ∀ m', Q (.c (.bool true)) m') :
    Wc prog tbl 15 [.agg 5 [.int .i64 r, .int .i64 c, x, .int .i64 sm, y], .c (.int .u8 a)] m Q := by
  have aw : ∀ m' : M, Wc prog tbl 20 [] m' (fun v m1 => ∃ b : Bool, v = .c (.bool b) ∧ Q (.c (.bool b)) m1) := fun m' => s20 ⟨_, rfl, h _⟩
  refine w15 fun m0 e0 => ?_
  obtain ⟨b0, x0⟩ := Bk.new e0
  refine ⟨r, c, x, sm, y, b0.ra, s58 (hx.ext x0) (hy.ext x0) fun m7 e7 => ⟨_, rfl, ?_⟩⟩
  have x7 := x0.trans e7
  have b7 := b0.ext e7
  rw [ifB_ndec]
  refine ⟨fun _ => aw _, fun hv => ?_⟩
  obtain ⟨hO, hsm⟩ := okay_of hv
  obtain ⟨hS, hL, hrc⟩ := field_of hO.f
  have hN := hO.n
  have hsd := sides_of hO.f
  obtain ⟨rn, hrn⟩ : ∃ rn : Nat, r = (rn : Int) := ⟨r.toNat, by have := hsd.r1; omega⟩
  obtain ⟨cn, hcn⟩ : ∃ cn : Nat, c = (cn : Int) := ⟨c.toNat, by have := hsd.c1; omega⟩
  subst hrn hcn
  have hmul : ((rn * cn : Nat) : Int) = (rn : Int) * (cn : Int) := Int.natCast_mul ..
  have hlen : L.length = rn * cn := by omega
  have hr4 : 0 < rn ∧ rn ≤ 4 := by have := hsd.r1; have := hsd.r4; omega
  have hc4 : 0 < cn ∧ cn ≤ 4 := by have := hsd.c1; have := hsd.c4; omega
  have W : Vs rn cn sm L N := ⟨⟨hr4, hc4, by omega⟩, hv⟩
  have hb7 : m.nxt < m7.nxt := b7.lt
  refine ⟨rn, cn, x, sm, y, b7.ra, fun m17 h17 => ?_⟩
  obtain ⟨k17, x17⟩ := Bk.new h17
  have n17 : m17.nxt = m7.nxt + 1 := by rw [h17]; rfl
  obtain ⟨m18, h18, k18, s18'⟩ := k17.sto [.int .i64 rn, .int .i64 cn, x, .int .i64 sm, y]
  have x18 : Ext m7 m18 := x17.st1 s18' (Nat.le_refl _)
  have n18 := s18'.nxt
  have b18 := b7.ext x18
  refine ⟨m18, h18, trivial, trivial, _, b18.rc (k := 1) rfl, trivial, trivial, _, b18.rc (k := 0) rfl, trivial, trivial, x, b18.rc (k := 2) rfl, hx.isSl, L.length, L.length, by rw [hx.slLen], by rw [hx.slLen], Nat.le_refl _, by omega, fun m24 h24 => ?_⟩
  rw [rep0, Nat.mul_one] at h24
  obtain ⟨k24, x24⟩ := Bk.new h24
  have n24 : m24.nxt = m18.nxt + 1 := by rw [h24]; rfl
  have X24 := x18.trans x24
  have b24 := b7.ext X24
  obtain ⟨m25, h25, k25, s25'⟩ := (k18.ext x24).stoP [.int .i64 cn, .int .i64 rn, .sl m18.nxt 0 L.length 0 (some L.length)] 0 (by show 0 + 3 ≤ 5; omega) (by show 3 ≠ 5; omega)
  refine ⟨b24.rc (k := 0) rfl, b24.rc (k := 1) rfl, trivial, m25, h25, fun m26 h26 => ?_⟩
  generalize hst : (C.sl m18.nxt 0 L.length 0 (some L.length)) = st at k25
  have k25' : Bk m25 m7.nxt 5 [.int .i64 cn, .int .i64 rn, st, .int .i64 sm, y] := k25
  have X25 : Ext m7 m25 := X24.st1 s25' (Nat.le_refl _)
  have n25 := s25'.nxt
  have kS25 := k24.keep1 s25' (by omega)
  obtain ⟨o26, x26⟩ := Own1.lit0 (k := 4) h26
  have n26 : m26.nxt = m25.nxt + 1 := by rw [h26]; rfl
  have X26 := X25.trans x26
  obtain ⟨c28, m29, a1, o29, a3, a4, a5, a6⟩ := ap_any t27 g94 z94 (by omega) o26 (hy.ext (x7.trans X26)) (by omega)
  rw [List.nil_append, Nat.zero_add] at o29
  have x29 : Ext m26 m29 := ⟨a3, fun b' hb' => a5 b' hb' (by intro hq; cases hq), a4⟩
  have hc28 : ∀ b' o n s d, c28 = .sl b' o n s d → m25.nxt ≤ b' := fun b' o n s d hq => by
    rcases a6 with h1 | h1
    · have := h1 b' o n s d hq; omega
    · rw [h1] at hq; cases hq; exact Nat.le_refl _
  refine ⟨trivial, y, (b7.ext X26).rc (k := 4) rfl, c28, m29, a1, trivial, ?_⟩
  obtain ⟨m30, h30, k30, s30'⟩ := ((k25'.ext x26).ext x29).sto1 4 c28 (by show 4 < 5; omega) rfl
  have k30' : Bk m30 m7.nxt 5 [.int .i64 cn, .int .i64 rn, st, .int .i64 sm, c28] := k30
  have X30 : Ext m7 m30 := ((X26.trans x29)).st1 s30' (Nat.le_refl _)
  have o30 := o29.keep1 s30' (fun b' s d hq => by have := hc28 _ _ _ _ _ hq; omega)
  have kS30 := ((kS25.ext x26).ext x29).keep1 s30' (by omega)
  refine ⟨m30, h30, fun R31 hstep => ?_⟩
  clear k17 k18 k25 k25' k30 kS25 o26 o29 k24 h17 h18 h24 h25 h26 h30 a1
  have hcast : ∀ i : Nat, ((i : Nat) : Int) % (cn : Int) = ((i % cn : Nat) : Int) ∧ ((i : Nat) : Int) / (cn : Int) = ((i / cn : Nat) : Int) ∧ ((i % cn : Nat) : Int) * (rn : Int) = ((i % cn * rn : Nat) : Int) := fun i => ⟨(Int.natCast_emod i cn).symm, (Int.natCast_ediv i cn).symm, (Int.natCast_mul ..).symm⟩
  have hsg := fun (i : Nat) (hi : i < rn * cn) => sg_ok hr4 hc4 W.t.m hi
  have hgo : ∀ (d i : Nat) (A : List Int) (m33 : M), d + i = L.length → Ext m7 m33 → Bk m33 m7.nxt 5 [.int .i64 cn, .int .i64 rn, st, .int .i64 sm, c28] → Bk m33 m18.nxt L.length (ints A) → Own1 m33 4 c28 (cnts N) N.length → m30.nxt ≤ m33.nxt → A.length = L.length → (∀ p, p < i → A[sg rn cn p]! = L[p]!) → R31 [.c (.int .i64 (i : Int))] m33 := by
    intro d
    induction d with
    | zero =>
      intro i A m33 hd he kT kS o33 hn hA hAp
      have b33 := b7.ext he
      refine hstep _ _ ⟨trivial, trivial, x, b33.rc (k := 2) rfl, hx.isSl, ?_⟩
      rw [hx.slLen, ifB_dec]
      refine ⟨fun h1 => by omega, fun _ R44 hstep2 => ?_⟩
      have hAt : A = turnL rn cn L := by
        refine List.ext_getElem (by rw [turn_len, hA, hlen]) fun j h1 h2 => ?_
        have hj : j < rn * cn := by omega
        have h3 := sg_ok hc4 hr4 W.t.symm.m (p := j) (by rw [Nat.mul_comm]; exact hj)
        rw [← getElem!_pos A j h1, ← getElem!_pos _ j h2, turn_get hj, ← hAp (sg cn rn j) (by have := h3.1; rw [Nat.mul_comm] at this; omega), h3.2]
      have hls33 : Li m33 st (turnL rn cn L) := by
        refine ⟨by rw [ints_len]; omega, .inr ⟨m18.nxt, 0, 0, some L.length, by rw [← hst, turn_len, hlen], kS.lt, fun _ => .inl ⟨L.length, ints A, false, kS.g, by rw [ints_len]; exact hA, by rw [ints_len, turn_len]; omega, by rw [List.drop_zero, hAt, List.take_length]⟩⟩⟩
      have hgo2 : ∀ (d i : Nat) (m46 : M), d + i = N.length → Ext m7 m46 → Bk m46 m7.nxt 5 [.int .i64 cn, .int .i64 rn, st, .int .i64 sm, c28] → Li m46 st (turnL rn cn L) → Own1 m46 4 c28 (cnts ((N.take i).map (turnC rn cn) ++ N.drop i)) N.length → m30.nxt ≤ m46.nxt → R44 [.c (.int .i64 (i : Int))] m46 := by
        intro d
        induction d with
        | zero =>
          intro i m46 hd he kT hst46 o46 hn46
          have b46 := b7.ext he
          refine hstep2 _ _ ⟨trivial, c28, kT.rc (k := 4) rfl, o46.ls.isSl, ?_⟩
          rw [o46.ls.slLen, ifB_dec]
          refine ⟨fun h1 => by omega, fun _ => ?_⟩
          rw [List.take_of_length_le (by omega), List.drop_eq_nil_of_le (by omega), List.append_nil] at o46
          have hlc : Lc m46 c28 (N.map (turnC rn cn)) := by
            have := o46.ls
            unfold Lc
            rw [List.length_map]; exact this
          have hx46 := hx.ext (x7.trans he)
          have hy46 := hy.ext (x7.trans he)
          rw [wrap_sm ha.1 (by omega)]
          have q1 : 0 ≤ a % 101 ∧ a % 101 < 101 := ⟨Int.emod_nonneg _ (by omega), Int.emod_lt_of_pos _ (by omega)⟩
          generalize a % 101 = n at q1
          have hn : 0 ≤ n ∧ n ≤ 100 := by omega
          have hNl : (N.map (turnC rn cn)).length ≤ 6 := by rw [List.length_map]; exact hN
          have hLl : (turnL rn cn L).length ≤ 9 := by rw [turn_len]; omega
          refine ⟨ha.1, by omega, fits_small (by omega) (by omega), ?_⟩
          refine cBounds hx46 (by omega) hy46 (by omega) b46 fun m70 m75 e70 e75 kA => ?_
          have y75 := e70.trans e75
          refine cBounds (hst46.ext y75) (by omega) (hlc.ext y75) (by omega) (kT.ext y75) fun m89 m94 e89 e94 kB => ?_
          have y94 := y75.trans (e89.trans e94)
          refine cAbove (hx46.ext y94) (by omega) (hy46.ext y94) (by omega) (b46.ext y94) fun m108 e108 => ?_
          have y108 := y94.trans e108
          refine cAbove (hst46.ext y108) (by omega) (hlc.ext y108) (by omega) (kT.ext y108) fun m124 e124 => ?_
          have y124 := y108.trans e124
          refine cFew (hx46.ext y124) (by omega) (hy46.ext y124) (by omega) (b46.ext y124) fun z1 m140 e140 hz1 => ?_
          have y140 := y124.trans e140
          refine cFew (hst46.ext y140) (by omega) (hlc.ext y140) (by omega) (kT.ext y140) fun z2 m156 e156 hz2 => ?_
          have y156 := y140.trans e156
          refine cLeave (hx46.ext y156) (by omega) (hy46.ext y156) (by omega) (b46.ext y156) fun z3 m172 e172 hz3 => ?_
          have y172 := y156.trans e172
          refine cLeave (hst46.ext y172) (by omega) (hlc.ext y172) (by omega) (kT.ext y172) fun z4 m188 e188 hz4 => ?_
          have eA : Ext m75 m188 := ((e89.trans e94).trans (e108.trans e124)).trans ((e140.trans e156).trans (e172.trans e188))
          have eB : Ext m94 m188 := (e108.trans e124).trans ((e140.trans e156).trans (e172.trans e188))
          have A1 := kA.ext eA
          have B1 := kB.ext eB
          have z1' := hz1.ext (e156.trans (e172.trans e188))
          have z2' := hz2.ext (e172.trans e188)
          have z3' := hz3.ext e188
          rw [← turn_bounds W] at B1
          rw [← turn_leave W] at hz4
          have sml := bd_small hv
          rw [← turn_err W, ask_in hv hn, ask_in W.turn.v hn, ← turn_err W, ← turn_above W hn, hv, W.turn.v, z1'.slLen, z2'.slLen, ← turn_few W hn]
          have hlv := inc_len (leave_can hv).1
          generalize hE : trueErr (rn : Int) (cn : Int) L sm N = E
          rw [hE] at A1 B1 sml
          simp only [decide_true, ifB_true]
          refine (fun fin => ifB_dec.2 ⟨fun _ => fin, fun h1 => ifB_dec.2 ⟨fun _ => fin, fun h2 => absurd (by rw [← hE] at h1 ⊢; exact true_nine hv h1) h2⟩⟩) ?_
          refine ⟨_, _, A1.ra, _, _, B1.ra, fits_small (by omega) (by omega), fits_small (by omega) (by omega), fits_small (by omega) (by omega), fits_small (by omega) (by omega), ?_⟩
          rw [decide_eq_true rfl, decide_eq_true rfl]
          exact ⟨z1'.isSl, z2'.isSl, s29 z3' hz4 (by omega) ⟨_, rfl, aw _⟩⟩
        | succ d ih =>
          intro i m46 hd he kT hst46 o46 hn46
          have b46 := b7.ext he
          have hi : i < N.length := by omega
          have hp := W.pl _ (List.getElem_mem hi)
          obtain ⟨p, hpe⟩ : ∃ p : Nat, N[i].p = (p : Int) := ⟨N[i].p.toNat, by omega⟩
          have hpn : p < rn * cn := by omega
          have hTi : ((N.take i).map (turnC rn cn) ++ N.drop i)[i]? = some N[i] := by
            rw [List.getElem?_append_right (by rw [List.length_map, List.length_take]; omega), List.length_map, List.length_take, Nat.min_eq_left (by omega), Nat.sub_self, List.drop_eq_getElem_cons hi]; rfl
          have hTl : ((N.take i).map (turnC rn cn) ++ N.drop i).length = N.length := by rw [List.length_append, List.length_map, List.length_take, List.length_drop]; omega
          have hcl := cnts_len ((N.take i).map (turnC rn cn) ++ N.drop i)
          refine hstep2 _ _ ⟨trivial, c28, kT.rc (k := 4) rfl, o46.ls.isSl, ?_⟩
          rw [o46.ls.slLen, ifB_dec]
          refine ⟨fun _ => ?_, fun h1 => absurd (by omega) h1⟩
          have hrd : ldC m46 (ptAdd (slAt c28 (i * 4)) 0) = some (.int .i64 N[i].p) := by
            rw [Ls.add o46.ls (by omega)]
            exact Ls.rd o46.ls (cnts_at hTi rfl)
          refine ⟨trivial, c28, kT.rc (k := 4) rfl, i, rfl, by rw [o46.ls.slLen]; exact hi, Ls.isPt o46.ls (by omega) _, _, hrd, trivial, c28, kT.rc (k := 4) rfl, trivial, trivial, _, b46.rc (k := 1) rfl, ?_⟩
          obtain ⟨h1, h2, h3⟩ := hcast p
          rw [hpe, h1]
          have hs1 := (hsg p hpn).1
          have hsv : sg rn cn p = p % cn * rn + p / cn := rfl
          have hdl := Nat.div_le_self p cn
          have hml := Nat.mod_le p cn
          refine ⟨by omega, by omega, fits_small (by omega) (by omega), trivial, trivial, _, b46.rc (k := 0) rfl, ?_⟩
          rw [h3]
          obtain ⟨hu9, hdw, hs9⟩ := sg_small hs1 W.t.m
          generalize p % cn * rn = u at h3 hsv hu9 ⊢
          refine ⟨by omega, by omega, fits_small (by omega) (by omega), trivial, trivial, _, b46.rc (k := 1) rfl, ?_⟩
          rw [h2]
          generalize p / cn = w at h2 hsv hdl hdw ⊢
          refine ⟨by omega, by omega, fits_small (by omega) (by omega), fits_small (by omega) (by omega), i, rfl, by rw [o46.ls.slLen]; exact hi, Ls.isPt o46.ls (by omega) _, ?_⟩
          obtain ⟨bt, st', dt, m56, hbt, hbtl, _, h56, o56, s56'⟩ := o46.sto (i * 4) (.int .i64 ((sg rn cn p : Nat) : Int)) (by omega) (by omega)
          have hbv := hc28 _ _ _ _ _ hbt
          rw [Ls.add o46.ls (by omega), show slAt c28 (i * 4 + 0) = .ptr bt (i * 4) by rw [hbt]; show C.ptr bt (0 + (i * 4 + 0)) = _; rw [Nat.zero_add, Nat.add_zero], show ((u : Nat) : Int) + ((w : Nat) : Int) = ((sg rn cn p : Nat) : Int) by omega]
          refine ⟨m56, h56, fits_small (by omega) (by omega), ?_⟩
          have n56 := s56'.nxt
          refine ih (i + 1) m56 (by omega) (he.st1 s56' (by omega)) (kT.keep1 s56' (by omega)) (hst46.keep1 s56' (fun b' o s d hq => by rw [← hst] at hq; injection hq with h1; omega)) ?_ (by omega)
          have hset : ((N.take i).map (turnC rn cn) ++ N.drop i).set i { N[i] with p := ((sg rn cn p : Nat) : Int) } = (N.take (i + 1)).map (turnC rn cn) ++ N.drop (i + 1) := by
            have htc : ({ N[i] with p := ((sg rn cn p : Nat) : Int) } : Cnt) = turnC rn cn N[i] := by
              show _ = ({ N[i] with p := ((sg rn cn N[i].p.toNat : Nat) : Int) } : Cnt)
              rw [hpe, Int.toNat_natCast]
            rw [htc, List.set_append_right _ _ (by rw [List.length_map, List.length_take]; omega), List.length_map, List.length_take, Nat.min_eq_left (by omega), Nat.sub_self, List.drop_eq_getElem_cons hi, List.take_add_one, List.getElem?_eq_getElem hi, List.map_append, List.append_assoc]
            rfl
          rw [← hset, cnts_setp _ hTi]
          exact o56
      refine hgo2 N.length 0 m33 (by omega) he kT hls33 ?_ hn
      simpa using o33
    | succ d ih =>
      intro i A m33 hd he kT kS o33 hn hA hAp
      have b33 := b7.ext he
      have hi : i < L.length := by omega
      refine hstep _ _ ⟨trivial, trivial, x, b33.rc (k := 2) rfl, hx.isSl, ?_⟩
      rw [hx.slLen, ifB_dec]
      refine ⟨fun _ => ⟨trivial, trivial, st, kT.rc (k := 2) rfl, trivial, trivial, _, b33.rc (k := 1) rfl, ?_⟩, fun h1 => absurd (by omega) h1⟩
      obtain ⟨h1, h2, h3⟩ := hcast i
      rw [h1]
      have hs1 := (hsg i (by omega)).1
      have hsv : sg rn cn i = i % cn * rn + i / cn := rfl
      have hdl := Nat.div_le_self i cn
      have hml := Nat.mod_le i cn
      refine ⟨by omega, by omega, fits_small (by omega) (by omega), trivial, trivial, _, b33.rc (k := 0) rfl, ?_⟩
      rw [h3]
      obtain ⟨hu9, hdw, hs9⟩ := sg_small hs1 W.t.m
      generalize i % cn * rn = u at h3 hsv hu9 ⊢
      refine ⟨by omega, by omega, fits_small (by omega) (by omega), trivial, trivial, _, b33.rc (k := 1) rfl, ?_⟩
      rw [h2]
      generalize i / cn = w at h2 hsv hdl hdw ⊢
      rw [show ((u : Nat) : Int) + ((w : Nat) : Int) = ((sg rn cn i : Nat) : Int) by omega]
      have hsl : slLen st = L.length := by rw [← hst]; rfl
      have hsa : slAt st (sg rn cn i * 1) = .ptr m18.nxt (0 + sg rn cn i * 1) := by rw [← hst]; rfl
      refine ⟨by omega, by omega, fits_small (by omega) (by omega), fits_small (by omega) (by omega), trivial, trivial, x, b33.rc (k := 2) rfl, i, rfl, by rw [hx.slLen]; exact hi, _, Li.rd (hx.ext (x7.trans he)) (List.getElem?_eq_getElem hi), sg rn cn i, rfl, by rw [hsl]; omega, ?_⟩
      rw [hsa]
      refine ⟨_, kS.st1n _ (by rw [ints_len]; omega) (by rw [ints_len]; exact hA), fits_small (by omega) (by omega), ?_⟩
      rw [ints_set]
      have s43' : St1 m33 (m33.set m18.nxt (.cells L.length (ints (A.set (sg rn cn i) L[i])) false)) m18.nxt := .of_set rfl
      refine ih (i + 1) (A.set (sg rn cn i) L[i]) _ (by omega) (he.st1 s43' (by omega)) (kT.keep1 s43' (by omega)) (kS.set _) (o33.keep1 s43' (fun b' s d hq => by have := hc28 _ _ _ _ _ hq; omega)) hn (by rw [List.length_set]; exact hA) fun p hp => ?_
      rw [set_get (by omega)]
      by_cases hpi : p = i
      · subst hpi; rw [if_pos rfl, getElem!_pos L p hi]
      · have h4 := (hsg i (by omega)).2
        have h5 := (hsg p (by omega)).2
        rw [if_neg fun h6 => hpi (by rw [h6] at h5; rw [h4] at h5; exact h5.symm)]
        exact hAp p (by omega)
  refine hgo L.length 0 (List.replicate L.length 0) m30 (by omega) X30 k30' kS30 o30 (Nat.le_refl _) (by simp) fun p hp => by omega
end
end Go.Proofs.Ytgkjfhkjgdiodaa

namespace Go.Proofs.Ytgkjfhkjgdiodaa
open _root_.Go.Proofs.Try
open Go.ChangeShapes Go.WideShapes Go.ChangeAt Go.RowKit Go.Abs
set_option maxRecDepth 100000
theorem els_cnts {els : List (List C)} (h : ∀ el ∈ els, All2 PkC [.int .i64, .int .i64, .int .i64, .bool] el) : ∃ N : List Cnt, els = N.map Cnt.cs ∧ PsFit N := by
  induction els with
  | nil => exact ⟨[], rfl, fun c hc => by cases hc⟩
  | cons e es ih =>
    obtain ⟨N, h1, h2⟩ := ih fun el hel => h el (List.mem_cons_of_mem _ hel)
    have he := h e (List.mem_cons_self ..)
    cases he with
    | cons q1 q2 =>
      cases q2 with
      | cons r1 r2 =>
        cases r2 with
        | cons s1 s2 =>
          cases s2 with
          | cons t1 t2 =>
            cases t2
            obtain ⟨p, rfl, hf⟩ := pk_int q1
            obtain ⟨lo, rfl, _⟩ := pk_int r1
            obtain ⟨hi, rfl, _⟩ := pk_int s1
            obtain ⟨b, rfl⟩ := pk_bool t1
            exact ⟨⟨p, lo, hi, b⟩ :: N, by rw [h1]; rfl, fun c hc => (List.mem_cons.1 hc).elim (fun h => h ▸ hf) (h2 c)⟩
/-- a slice of counts that a law is called with -/
theorem lc_of {all : List X} {i : Nat} {x : X} (hi : all[i]? = some x) (hk : XK (.sl [.int .i64, .int .i64, .int .i64, .bool]) x) : ∃ N : List Cnt, Lc (memOf all) (cOf i x) N ∧ PsFit N := by
  obtain ⟨hs, he⟩ := xk_sl hk
  obtain ⟨N, h1, h2⟩ := els_cnts he
  have := ls_of hi hs (k := 4) fun el hel => (he el hel).length.symm
  rw [h1, List.length_map] at this
  exact ⟨N, this, h2⟩
theorem get_mid {A B E : List X} {j : Nat} {x : X} (hx : B[j]? = some x) : (A ++ B ++ E)[A.length + j]? = some x := by
  rw [List.append_assoc, List.getElem?_append_right (by omega), Nat.add_sub_cancel_left, List.getElem?_append_left (List.getElem?_eq_some_iff.1 hx).1]; exact hx
theorem kk30 : kindsOf prog 9 30 = some [.pl (.int .i64), .pl (.int .i64), .sl [.int .i64], .pl (.int .i64), .sl [.int .i64, .int .i64, .int .i64, .bool]] := by kernel_rfl
theorem kk5 : kindsOf prog 9 5 = some [.pl (.int .u8)] := by kernel_rfl
theorem laid : laidOutB prog = true := by kernel_rfl
theorem ownNone : ownKnob prog.godebug = none := by kernel_rfl
theorem turned_lifted (os : Os) (started : os.Started) (H : Type) (enc : TypeId × Value → H) :
    ReturnsInHanded {} Try.checked os 15 .any (Rows.frameTurnedSpec.pre6 enc Try.prog Try.f15 Rows.frameTurnedRow.domain false) (Rows.frameTurnedSpec.post enc Try.prog Try.f15 false true false false) := by
  refine returnsInHanded_of_change (C := Try.checked) ownNone started (by kernel_rfl) Try.func15
    (ChangeSpec.witness6 (enc := enc) (C := Try.checked) false ⟨#[], #[.agg #[.int .i64 0, .int .i64 0, .slice none 0 0, .int .i64 0, .slice none 0 0], .int .u8 0], []⟩ 8 (by kernel_rfl) (by kernel_rfl) (by kernel_rfl) (by kernel_rfl)) ?_
  intro W base args ds gs before hval0 hW hcnd _
  have hval : ∀ (j : Nat) t v, Try.f15.params[j]? = some t → args[j]? = some v → Value.okWide Try.prog W .any base t v := hval0
  have hW' := hW
  obtain ⟨p, q, hA0, hV, rfl, hfz, hnd⟩ := hW
  have hA : DataW.TrodAll enc Try.prog W 0 (fun _ => true) true Try.f15.params.toList args.toList ds p := hA0
  rw [Try.params15] at hA hval
  obtain ⟨v0, v1, d0, d1, p0, p1, rfl, rfl, rfl, h0, h1⟩ := trodAll_two hA
  obtain ⟨rfl, rfl⟩ := trodVars_none hV
  obtain ⟨n1, hv1⟩ := okWide_int Try.underlying5 (hval 1 5 v1 rfl rfl)
  have hlt : ∀ x ∈ p0 ++ p1, x.block < W.heap.size := fun x hx => by simpa using hW'.lt x (by simpa using hx)
  obtain ⟨fu0, hf0⟩ := id h0
  obtain ⟨fu1, hf1⟩ := id h1
  clear hA0 hval0
  obtain ⟨xs0, x0, y0⟩ := open_trod 9 kk30 hf0
  obtain ⟨xs1, x1, y1⟩ := open_trod 9 kk5 hf1
  obtain ⟨cs0, rfl, z0⟩ := agg_of x0 (by rw [← y0.length]; decide)
  have z1 := x1
  have hall := (z0.app z1)
  have c0 := crs_of (W := W) (all := xs0 ++ xs1) (i := ([] : List X).length) (xs := xs0) (fun j x hx => by rw [show xs0 ++ xs1 = ([]) ++ xs0 ++ (xs1) from by simp only [List.append_assoc, List.nil_append, List.append_nil]]; exact get_mid hx) z0
  have c1 := crs_of (W := W) (all := xs0 ++ xs1) (i := (xs0 : List X).length) (xs := xs1) (fun j x hx => by rw [show xs0 ++ xs1 = (xs0) ++ xs1 ++ ([]) from by simp only [List.append_assoc, List.nil_append, List.append_nil]]; exact get_mid hx) z1
  have hr := hr_of (W := W) (all := xs0 ++ xs1) (xr_some hall)
  cases y0 with
  | cons q0 y0 =>
  cases y0 with
  | cons q1 y0 =>
  cases y0 with
  | cons q2 y0 =>
  cases y0 with
  | cons q3 y0 =>
  cases y0 with
  | cons q4 y0 =>
  cases y0
  cases y1 with
  | cons q5 y1 =>
  cases y1
  obtain ⟨r0, rfl⟩ := xk_int q0
  obtain ⟨c0', rfl⟩ := xk_int q1
  obtain ⟨t0, rfl⟩ := xk_int q3
  obtain ⟨a1, rfl⟩ := xk_int q5
  rename_i s0a s0b
  obtain ⟨L0, hL0, _⟩ := li_of (all := [.int .i64 r0, .int .i64 c0', s0a, .int .i64 t0, s0b] ++ [.int .u8 a1]) (i := 2) rfl q2
  obtain ⟨N0, hN0, hP0⟩ := lc_of (all := [.int .i64 r0, .int .i64 c0', s0a, .int .i64 t0, s0b] ++ [.int .u8 a1]) (i := 4) rfl q4
  subst hv1
  have fa1 : fitsP .u8 a1 := by
    cases x1 with
    | cons e1 e2 => exact e1.2
  simp only [fitsP] at fa1
  have hargs : All2 (VR (envOf W ([.int .i64 r0, .int .i64 c0', s0a, .int .i64 t0, s0b] ++ [.int .u8 a1]))) [.agg 5 [.int .i64 r0, .int .i64 c0', cOf 2 s0a, .int .i64 t0, cOf 4 s0b], .c (.int .u8 a1)] [.agg cs0, .int .u8 n1] := by
    cases c1 with
    | cons g1 g1' =>
    exact .cons ⟨cs0, rfl, c0, rfl⟩ (.cons g1 (.nil))
  refine (callsIn_wide.1 (call_of fits htab (s15 (Q := fun v _ => v = .c (.bool true)) hL0 hN0 ⟨by omega, by omega⟩ fun _ => rfl) hr (args' := #[.agg cs0, .int .u8 n1]) hargs 0)).mono fun en W' hp => ?_
  obtain ⟨v, v', e', m', rfl, hst, hvr, rfl⟩ := hp
  have hv' : v' = .bool true := hvr
  subst hv'
  have hbelow := below_of hst
  refine ⟨_, rfl, [d0, d1], [], p0 ++ p1, [], p0 ++ p1, [], by simpa using hW', trodAll_mk1 (shut_bool Try.underlying4 _),
    trodAll_mk2 (Below.trod laid (by kernel_rfl) (of_decide_eq_true (by kernel_rfl)) h0 hbelow fun x hx => hlt x (by simp [hx])) (Below.trod laid (by kernel_rfl) (of_decide_eq_true (by kernel_rfl)) h1 hbelow fun x hx => hlt x (by simp [hx])), rfl, kept_of hst _, fun hc => by cases hc⟩
theorem turned_holds : Rows.FrameTurnedSaid :=
  OpenClaim.holds_of_wide 15 Try.f15 rfl rfl rfl rfl rfl rfl rfl ⟨rfl, rfl, rfl, rfl, rfl⟩ rfl rfl rfl rfl rfl (by kernel_rfl) Try.func15 (by kernel_rfl)
    (of_decide_eq_true (by kernel_rfl)) (by unfold Func.isWrapper; first | (rw [if_pos (by decide +kernel)]; kernel_rfl) | (rw [if_neg (by decide +kernel)]; exact ⟨rfl, rfl⟩))
    (fun os started H enc _ => turned_lifted os started H enc)
end Go.Proofs.Ytgkjfhkjgdiodaa

