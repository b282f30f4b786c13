/- FrameEnds, for all that it can be called with, returns true. Condition: none. -/
import Derived.Test.YtgkjfhkjgdiodaaEnC
import Derived.KernelRfl
import Derived.ProofKit
import Derived.Test.YtgkjfhkjgdiodaaRows

namespace Go.Proofs.Ytgkjfhkjgdiodaa
open _root_.Go.Proofs.Try
open Go.Abs
set_option maxRecDepth 100000
noncomputable section
theorem any_snoc (A : List Int) (n : Int) (p : Int → Bool) : (A ++ [n]).any p = (A.any p || p n) := by simp
theorem any_of_mem {A : List Int} {p : Int → Bool} (h : ∃ a ∈ A, p a = true) : A.any p = true := by simpa using h
theorem s10 {r c sm a : Int} {x y : C} {L : List Int} {N : List Cnt} {m : M} {Q : V → M → Prop} (hx : Li m x L) (hy : Lc m y N) (ha : 0 ≤ a ∧ a ≤ 255) (h : ∀ m', Q (.c (.bool true)) m') :
    Wc prog tbl 10 [.agg 5 [.int .i64 r, .int .i64 c, x, .int .i64 sm, y], .c (.int .u8 a)] m Q := by
  have aw : ∀ m' : M, Wc prog tbl 20 [] m' (fun v m1 => ∃ b : Bool, v = .c (.bool b) ∧ Q (.c (.bool b)) m1) := fun m' => s20 ⟨_, rfl, h _⟩
  refine w10 fun m0 e0 => ?_
  obtain ⟨b0, x0⟩ := Bk.new e0
  refine ⟨r, c, x, sm, y, b0.ra, s58 (hx.ext x0) (hy.ext x0) fun m7 e7 => ⟨_, rfl, ?_⟩⟩
  have x7 := x0.trans e7
  have b7 := b0.ext e7
  rw [ifB_ndec]
  refine ⟨fun _ => aw _, fun hv => ?_⟩
  obtain ⟨hO, hsm⟩ := okay_of hv
  obtain ⟨hS, hL, hrc⟩ := field_of hO.f
  have hsd := sides_of hO.f
  have hN := hO.n
  have hP := few_truths hv
  have hL0 : 0 < L.length := by have := hsd.mul; have := hsd.r1; have := hsd.c1; have := Int.mul_pos (a := r) (b := c) (by omega) (by omega); omega
  refine ⟨trivial, trivial, x, b7.rc rfl, hx.isSl, ?_⟩
  rw [wrap_small' ha.1 (by omega), hx.slLen]
  have q0 := Int.emod_nonneg a (b := (L.length : Int)) (by omega)
  have q1 := Int.emod_lt_of_pos a (b := (L.length : Int)) (by omega)
  obtain ⟨p, hp⟩ : ∃ p : Nat, a % (L.length : Int) = (p : Int) := ⟨(a % (L.length : Int)).toNat, by omega⟩
  rw [hp] at q0 q1 ⊢
  have hpL : p < L.length := by omega
  refine ⟨ha.1, by omega, fits_small (by omega) (by omega), ?_⟩
  refine cBounds (hx.ext x7) (by omega) (hy.ext x7) (by omega) b7 fun m26 m31 e26 e31 kB => ?_
  have x31 := (x7.trans e26).trans e31
  have b31 := (b7.ext e26).ext e31
  refine cHits (hx.ext x31) (by omega) (hy.ext x31) (by omega) b31 fun m45 m50 e45 e50 kH R51 hstep => ?_
  have x50 := (x31.trans e45).trans e50
  have b50 := (b31.ext e45).ext e50
  have kB50 := (kB.ext e45).ext e50
  have hask : askErr r c L sm N (decide (0 ≤ (p : Int) ∧ (p : Int) ≤ r * c - 1)) = trueErr r c L sm N := by unfold askErr; rw [if_pos hv, decide_eq_true ⟨by omega, by omega⟩]; rfl
  rw [hask] at kH hstep
  simp only [Int.toNat_natCast] at kH
  generalize hlo : (boundsOf r c L sm N (trueErr r c L sm N) (shareOf L)).1 = lo at kB50
  generalize hhi : (boundsOf r c L sm N (trueErr r c L sm N) (shareOf L)).2 = hi at kB50
  generalize hle : (boundsOf r c L sm N (trueErr r c L sm N) (fun H => H[p]!)).1 = least at kH
  generalize hmo : (boundsOf r c L sm N (trueErr r c L sm N) (fun H => H[p]!)).2 = most at kH
  have hb26 : m26.nxt < m50.nxt := kB50.lt
  have hb45 : m45.nxt < m50.nxt := kH.lt
  let P : Int → Bool := fun n => truthR c sm L N (nthL L n)
  let pl : Int → Bool := fun n => decide (shareOf L (nthL L n) = lo)
  let ph : Int → Bool := fun n => decide (shareOf L (nthL L n) = hi)
  let pe : Int → Bool := fun n => decide ((nthL L n)[p]! = least)
  let pm : Int → Bool := fun n => decide ((nthL L n)[p]! = most)
  have hgo : ∀ (d i : Nat) (m58 : M), d + i = prodN L → Ext m50 m58 → R51 [.c (.bool ((trN P i).any fun _ => true)), .c (.bool ((trN P i).any pl)), .c (.bool ((trN P i).any ph)), .c (.bool ((trN P i).any pe)), .c (.bool ((trN P i).any pm)), .c (.int .i64 (i : Int))] m58 := by
    intro d
    induction d with
    | zero =>
      intro i m58 hd e58
      have hi' : i = prodN L := by omega
      subst hi'
      have x58 := x50.trans e58
      have b58 := b50.ext e58
      refine hstep _ _ _ _ _ _ _ ⟨trivial, r, c, x, b58.rp (k := 0) (j := 3) rfl (by omega), s60 (hx.ext x58) hS (by omega) fun m63 e63 => ⟨_, rfl, ?_⟩⟩
      rw [many_prod hS hP, ifB_dec]
      refine ⟨fun h1 => by omega, fun _ => ?_⟩
      have hT : trN P (prodN L) = truN c sm L N := rfl
      rw [hT]
      by_cases ht : trueErr r c L sm N = 0
      · obtain ⟨_, hpos⟩ := true_sv ht
        have hlp : 0 < ((truthsP c sm L N).map (shareOf L)).length := by rw [List.length_map]; exact hpos
        have hlq : 0 < ((truthsP c sm L N).map (fun H => H[p]!)).length := by rw [List.length_map]; exact hpos
        have hb1 : boundsOf r c L sm N (trueErr r c L sm N) (shareOf L) = (loOf ((truthsP c sm L N).map (shareOf L)), hiOf ((truthsP c sm L N).map (shareOf L))) := by unfold boundsOf; rw [if_pos ht]
        have hb2 : boundsOf r c L sm N (trueErr r c L sm N) (fun H => H[p]!) = (loOf ((truthsP c sm L N).map (fun H => H[p]!)), hiOf ((truthsP c sm L N).map (fun H => H[p]!))) := by unfold boundsOf; rw [if_pos ht]
        rw [hb1] at hlo hhi
        rw [hb2] at hle hmo
        have mem : ∀ (num : List Int → Int) (v : Int), v ∈ (truthsP c sm L N).map num → ∃ n ∈ truN c sm L N, decide (num (nthL L n) = v) = true := fun num v hv' => by
          have h1 := (same_nums hv num v).2 hv'
          obtain ⟨n, h2, h3⟩ := List.mem_map.1 h1
          exact ⟨n, h2, decide_eq_true h3⟩
        have g1 : (truN c sm L N).any pl = true := any_of_mem (mem (shareOf L) lo (by rw [← hlo]; exact (lo_spec hlp).1))
        have g2 : (truN c sm L N).any ph = true := any_of_mem (mem (shareOf L) hi (by rw [← hhi]; exact (hi_spec hlp).1))
        have g3 : (truN c sm L N).any pe = true := any_of_mem (mem (fun H => H[p]!) least (by rw [← hle]; exact (lo_spec hlq).1))
        have g4 : (truN c sm L N).any pm = true := any_of_mem (mem (fun H => H[p]!) most (by rw [← hmo]; exact (hi_spec hlq).1))
        have g0 : (truN c sm L N).any (fun _ => true) = true := by
          obtain ⟨n, h1, _⟩ := mem (shareOf L) lo (by rw [← hlo]; exact (lo_spec hlp).1)
          exact any_of_mem ⟨n, h1, rfl⟩
        rw [g0, g1, g2, g3, g4, ht]
        exact aw _
      · have hs : sureErr r c L sm N ≠ 0 := by rw [sure_true]; exact ht
        have h0 : (truN c sm L N).length = 0 := by
          unfold sureErr at hs
          rw [if_pos hv] at hs
          by_cases h2 : (truN c sm L N).length = 0
          · exact h2
          · rw [if_neg h2] at hs; exact absurd rfl hs
        have ht9 : trueErr r c L sm N = 9 := by rw [← sure_true]; unfold sureErr; rw [if_pos hv, if_pos h0]
        rw [List.eq_nil_of_length_eq_zero h0, ht9]
        exact aw _
    | succ d ih =>
      intro i m58 hd e58
      have x58 := x50.trans e58
      have b58 := b50.ext e58
      have e1 : ∀ p : Int → Bool, (trN P (i + 1)).any p = if P (i : Int) then ((trN P i).any p || p (i : Int)) else (trN P i).any p := fun p => by
        show (trN P i ++ (if P (i : Int) then [(i : Int)] else [])).any p = _
        by_cases hb : P (i : Int) = true
        · rw [if_pos hb, if_pos hb, any_snoc]
        · rw [if_neg hb, if_neg hb, List.append_nil]
      have hnext := fun m' => ih (i + 1) m' (by omega)
      simp only [e1] at hnext
      clear e1 ih
      generalize (trN P i).any (fun _ => true) = b52 at hnext ⊢
      generalize (trN P i).any pl = b53 at hnext ⊢
      generalize (trN P i).any ph = b54 at hnext ⊢
      generalize (trN P i).any pe = b55 at hnext ⊢
      generalize (trN P i).any pm = b56 at hnext ⊢
      refine hstep _ _ _ _ _ _ _ ⟨trivial, r, c, x, b58.rp (k := 0) (j := 3) rfl (by omega), s60 (hx.ext x58) hS (by omega) fun m63 e63 => ⟨_, rfl, ?_⟩⟩
      rw [many_prod hS hP, ifB_dec]
      refine ⟨fun _ => ?_, fun h1 => absurd (by omega) h1⟩
      have x63 := x58.trans e63
      refine ⟨r, c, x, sm, y, (b58.ext e63).ra, s59 (hx.ext x63) (hy.ext x63) hv ⟨by omega, by omega⟩ fun z m71 e71 hz => ⟨_, _, rfl, ?_⟩⟩
      rw [Int.emod_eq_of_lt (by omega) (by omega)] at hz ⊢
      have x71 := x63.trans e71
      have hPi : P (i : Int) = truthR c sm L N (nthL L (i : Int)) := rfl
      have hf : fitsP .i64 ((i : Int) + 1) := fits_small (by omega) (by omega)
      cases hb : truthR c sm L N (nthL L (i : Int)) with
      | false =>
        rw [hb] at hPi
        simp only [hPi] at hnext
        exact ⟨hf, hnext m71 ((e58.trans e63).trans e71)⟩
      | true =>
        rw [hb] at hPi
        simp only [hPi, if_true] at hnext
        refine ⟨trivial, r, c, x, ((b58.ext e63).ext e71).rp (k := 0) (j := 3) rfl (by omega), s40 (hx.ext x71) hS (by omega) hz (small_nth hS (by omega)) (nthL_len _ _) fun m78 e78 => ⟨_, rfl, ?_⟩⟩
        have e5078 := ((e58.trans e63).trans e71).trans e78
        have kb := kB50.ext e5078
        have kh := kH.ext e5078
        have r0 := kb.rc (k := 0) rfl
        have r1 := kb.rc (k := 1) rfl
        have r2 := kh.rc (k := 0) rfl
        have r3 := kh.rc (k := 1) rfl
        have hpn : p < (nthL L (i : Int)).length := by rw [nthL_len]; exact hpL
        have hzr : ldC m78 (slAt z (p * 1)) = some (.int .i64 ((nthL L (i : Int))[p]!)) := by rw [getElem!_pos _ p hpn]; exact Li.rd (hz.ext e78) (List.getElem?_eq_getElem hpn)
        have hzl : p < slLen z := by rw [hz.slLen]; exact hpn
        have hn := hnext m78 e5078
        cases b53 <;> cases b54 <;> cases b55 <;> cases b56 <;> simp only [ifB_true, ifB_false] <;>
          (repeat (first | (refine ⟨p, rfl, hzl, _, hzr, ?_⟩) | (refine ⟨trivial, _, r0, ?_⟩) | (refine ⟨trivial, _, r1, ?_⟩) | (refine ⟨trivial, _, r2, ?_⟩) | (refine ⟨trivial, _, r3, ?_⟩))) <;>
          exact ⟨hf, by cases b52 <;> exact hn⟩
  exact hgo (prodN L) 0 m50 (by omega) (.refl _)
end
end Go.Proofs.Ytgkjfhkjgdiodaa

namespace Go.Proofs.Ytgkjfhkjgdiodaa
open _root_.Go.Proofs.Try
open Go.ChangeShapes Go.WideShapes Go.ChangeAt Go.RowKit Go.Abs
set_option maxRecDepth 100000
theorem els_cnts {els : List (List C)} (h : ∀ el ∈ els, All2 PkC [.int .i64, .int .i64, .int .i64, .bool] el) : ∃ N : List Cnt, els = N.map Cnt.cs ∧ PsFit N := by
  induction els with
  | nil => exact ⟨[], rfl, fun c hc => by cases hc⟩
  | cons e es ih =>
    obtain ⟨N, h1, h2⟩ := ih fun el hel => h el (List.mem_cons_of_mem _ hel)
    have he := h e (List.mem_cons_self ..)
    cases he with
    | cons q1 q2 =>
      cases q2 with
      | cons r1 r2 =>
        cases r2 with
        | cons s1 s2 =>
          cases s2 with
          | cons t1 t2 =>
            cases t2
            obtain ⟨p, rfl, hf⟩ := pk_int q1
            obtain ⟨lo, rfl, _⟩ := pk_int r1
            obtain ⟨hi, rfl, _⟩ := pk_int s1
            obtain ⟨b, rfl⟩ := pk_bool t1
            exact ⟨⟨p, lo, hi, b⟩ :: N, by rw [h1]; rfl, fun c hc => (List.mem_cons.1 hc).elim (fun h => h ▸ hf) (h2 c)⟩
/-- a slice of counts that a law is called with -/
theorem lc_of {all : List X} {i : Nat} {x : X} (hi : all[i]? = some x) (hk : XK (.sl [.int .i64, .int .i64, .int .i64, .bool]) x) : ∃ N : List Cnt, Lc (memOf all) (cOf i x) N ∧ PsFit N := by
  obtain ⟨hs, he⟩ := xk_sl hk
  obtain ⟨N, h1, h2⟩ := els_cnts he
  have := ls_of hi hs (k := 4) fun el hel => (he el hel).length.symm
  rw [h1, List.length_map] at this
  exact ⟨N, this, h2⟩
theorem get_mid {A B E : List X} {j : Nat} {x : X} (hx : B[j]? = some x) : (A ++ B ++ E)[A.length + j]? = some x := by
  rw [List.append_assoc, List.getElem?_append_right (by omega), Nat.add_sub_cancel_left, List.getElem?_append_left (List.getElem?_eq_some_iff.1 hx).1]; exact hx
theorem kk30 : kindsOf prog 9 30 = some [.pl (.int .i64), .pl (.int .i64), .sl [.int .i64], .pl (.int .i64), .sl [.int .i64, .int .i64, .int .i64, .bool]] := by kernel_rfl
theorem kk5 : kindsOf prog 9 5 = some [.pl (.int .u8)] := by kernel_rfl
theorem laid : laidOutB prog = true := by kernel_rfl
theorem ownNone : ownKnob prog.godebug = none := by kernel_rfl
theorem ends_lifted (os : Os) (started : os.Started) (H : Type) (enc : TypeId × Value → H) :
    ReturnsInHanded {} Try.checked os 10 .any (Rows.frameEndsSpec.pre6 enc Try.prog Try.f10 Rows.frameEndsRow.domain false) (Rows.frameEndsSpec.post enc Try.prog Try.f10 false true false false) := by
  refine returnsInHanded_of_change (C := Try.checked) ownNone started (by kernel_rfl) Try.func10
    (ChangeSpec.witness6 (enc := enc) (C := Try.checked) false ⟨#[], #[.agg #[.int .i64 0, .int .i64 0, .slice none 0 0, .int .i64 0, .slice none 0 0], .int .u8 0], []⟩ 8 (by kernel_rfl) (by kernel_rfl) (by kernel_rfl) (by kernel_rfl)) ?_
  intro W base args ds gs before hval0 hW hcnd _
  have hval : ∀ (j : Nat) t v, Try.f10.params[j]? = some t → args[j]? = some v → Value.okWide Try.prog W .any base t v := hval0
  have hW' := hW
  obtain ⟨p, q, hA0, hV, rfl, hfz, hnd⟩ := hW
  have hA : DataW.TrodAll enc Try.prog W 0 (fun _ => true) true Try.f10.params.toList args.toList ds p := hA0
  rw [Try.params10] at hA hval
  obtain ⟨v0, v1, d0, d1, p0, p1, rfl, rfl, rfl, h0, h1⟩ := trodAll_two hA
  obtain ⟨rfl, rfl⟩ := trodVars_none hV
  obtain ⟨n1, hv1⟩ := okWide_int Try.underlying5 (hval 1 5 v1 rfl rfl)
  have hlt : ∀ x ∈ p0 ++ p1, x.block < W.heap.size := fun x hx => by simpa using hW'.lt x (by simpa using hx)
  obtain ⟨fu0, hf0⟩ := id h0
  obtain ⟨fu1, hf1⟩ := id h1
  clear hA0 hval0
  obtain ⟨xs0, x0, y0⟩ := open_trod 9 kk30 hf0
  obtain ⟨xs1, x1, y1⟩ := open_trod 9 kk5 hf1
  obtain ⟨cs0, rfl, z0⟩ := agg_of x0 (by rw [← y0.length]; decide)
  have z1 := x1
  have hall := (z0.app z1)
  have c0 := crs_of (W := W) (all := xs0 ++ xs1) (i := ([] : List X).length) (xs := xs0) (fun j x hx => by rw [show xs0 ++ xs1 = ([]) ++ xs0 ++ (xs1) from by simp only [List.append_assoc, List.nil_append, List.append_nil]]; exact get_mid hx) z0
  have c1 := crs_of (W := W) (all := xs0 ++ xs1) (i := (xs0 : List X).length) (xs := xs1) (fun j x hx => by rw [show xs0 ++ xs1 = (xs0) ++ xs1 ++ ([]) from by simp only [List.append_assoc, List.nil_append, List.append_nil]]; exact get_mid hx) z1
  have hr := hr_of (W := W) (all := xs0 ++ xs1) (xr_some hall)
  cases y0 with
  | cons q0 y0 =>
  cases y0 with
  | cons q1 y0 =>
  cases y0 with
  | cons q2 y0 =>
  cases y0 with
  | cons q3 y0 =>
  cases y0 with
  | cons q4 y0 =>
  cases y0
  cases y1 with
  | cons q5 y1 =>
  cases y1
  obtain ⟨r0, rfl⟩ := xk_int q0
  obtain ⟨c0', rfl⟩ := xk_int q1
  obtain ⟨t0, rfl⟩ := xk_int q3
  obtain ⟨a1, rfl⟩ := xk_int q5
  rename_i s0a s0b
  obtain ⟨L0, hL0, _⟩ := li_of (all := [.int .i64 r0, .int .i64 c0', s0a, .int .i64 t0, s0b] ++ [.int .u8 a1]) (i := 2) rfl q2
  obtain ⟨N0, hN0, hP0⟩ := lc_of (all := [.int .i64 r0, .int .i64 c0', s0a, .int .i64 t0, s0b] ++ [.int .u8 a1]) (i := 4) rfl q4
  subst hv1
  have fa1 : fitsP .u8 a1 := by
    cases x1 with
    | cons e1 e2 => exact e1.2
  simp only [fitsP] at fa1
  have hargs : All2 (VR (envOf W ([.int .i64 r0, .int .i64 c0', s0a, .int .i64 t0, s0b] ++ [.int .u8 a1]))) [.agg 5 [.int .i64 r0, .int .i64 c0', cOf 2 s0a, .int .i64 t0, cOf 4 s0b], .c (.int .u8 a1)] [.agg cs0, .int .u8 n1] := by
    cases c1 with
    | cons g1 g1' =>
    exact .cons ⟨cs0, rfl, c0, rfl⟩ (.cons g1 (.nil))
  refine (callsIn_wide.1 (call_of fits htab (s10 (Q := fun v _ => v = .c (.bool true)) hL0 hN0 ⟨by omega, by omega⟩ fun _ => rfl) hr (args' := #[.agg cs0, .int .u8 n1]) hargs 0)).mono fun en W' hp => ?_
  obtain ⟨v, v', e', m', rfl, hst, hvr, rfl⟩ := hp
  have hv' : v' = .bool true := hvr
  subst hv'
  have hbelow := below_of hst
  refine ⟨_, rfl, [d0, d1], [], p0 ++ p1, [], p0 ++ p1, [], by simpa using hW', trodAll_mk1 (shut_bool Try.underlying4 _),
    trodAll_mk2 (Below.trod laid (by kernel_rfl) (of_decide_eq_true (by kernel_rfl)) h0 hbelow fun x hx => hlt x (by simp [hx])) (Below.trod laid (by kernel_rfl) (of_decide_eq_true (by kernel_rfl)) h1 hbelow fun x hx => hlt x (by simp [hx])), rfl, kept_of hst _, fun hc => by cases hc⟩
theorem ends_holds : Rows.FrameEndsSaid :=
  OpenClaim.holds_of_wide 10 Try.f10 rfl rfl rfl rfl rfl rfl rfl ⟨rfl, rfl, rfl, rfl, rfl⟩ rfl rfl rfl rfl rfl (by kernel_rfl) Try.func10 (by kernel_rfl)
    (of_decide_eq_true (by kernel_rfl)) (by unfold Func.isWrapper; first | (rw [if_pos (by decide +kernel)]; kernel_rfl) | (rw [if_neg (by decide +kernel)]; exact ⟨rfl, rfl⟩))
    (fun os started H enc _ => ends_lifted os started H enc)
end Go.Proofs.Ytgkjfhkjgdiodaa

