/- An evaluator of the code of a program, its soundness, what calls ask, memory, and what functions of the program do. Condition: none; a lemma text of this claim. -/
import Derived.Test.YtbhdgedghfibcaaGreatMbC

namespace Go.Abs
noncomputable section
variable {P : Program} {T : List (Nat × Bool)}
theorem getV_eq {tm : S3 V} {s : Nat} {v : V} (h : getV tm s = some v) : get3 tm s = some v ∧ isTup v = false := by
  unfold getV at h
  obtain ⟨x, h1, h2⟩ := optB_eq h
  cases ht : isTup x with
  | true => rw [ht] at h2; cases h2
  | false => rw [ht] at h2; cases h2; exact ⟨h1, ht⟩
theorem getV_of {tm : S3 V} {s : Nat} {v : V} (h : get3 tm s = some v) (ht : isTup v = false) : getV tm s = some v := by
  unfold getV
  rw [h, optB_some, ht]; rfl
theorem look_setVs {tm' t : S3 V} (p : P3) : ∀ (C : List (Nat × V)) (vs : List V), getVs C tm' = some vs → ((∃ x ∈ C, path3 x.1 = p) ∧ look3 p (setVs C vs t) = look3 p tm') ∨ ((∀ x ∈ C, path3 x.1 ≠ p) ∧ look3 p (setVs C vs t) = look3 p t)
  | [], vs, _ => .inr ⟨(fun _ h => by cases h), rfl⟩
  | x :: C, vs, h => by
    have h0 : optB (getV tm' x.1) none (fun y => optB (getVs C tm') none fun ys => some (y :: ys)) = some vs := h
    obtain ⟨y, h1', h2⟩ := optB_eq h0
    obtain ⟨h1, _⟩ := getV_eq h1'
    obtain ⟨ys, h3, h4⟩ := optB_eq h2
    cases h4
    have h5 : look3 p (setVs (x :: C) (y :: ys) t) = if p = path3 x.1 then .x x.1 y else look3 p (setVs C ys t) := look3_set ..
    rw [h5]
    by_cases hp : p = path3 x.1
    · rw [if_pos hp, hp]
      rw [get3_look] at h1
      exact .inl ⟨⟨x, List.mem_cons_self .., rfl⟩, (atL_some h1).symm⟩
    · rw [if_neg hp]
      rcases look_setVs (tm' := tm') (t := t) p C ys h3 with ⟨⟨s', h1, h2⟩, h3⟩ | ⟨h1, h2⟩
      · exact .inl ⟨⟨s', List.mem_cons_of_mem _ h1, h2⟩, h3⟩
      · refine .inr ⟨fun s' hs' => ?_, h2⟩
        rcases List.mem_cons.1 hs' with rfl | hs'
        · exact fun h => hp h.symm
        · exact h1 s' hs'
theorem mem_parts {tm : S3 V} {s : Nat} : ∀ {A : List Nat}, s ∈ A → (∃ x ∈ carried tm A, x.1 = s) ∨ s ∈ deadS tm A
  | a :: A, h => by
    have hc : carried tm (a :: A) = optB (get3 tm a) (carried tm A) fun v => ifB (isTup v) (carried tm A) ((a, v) :: carried tm A) := rfl
    have hd : deadS tm (a :: A) = optB (get3 tm a) (a :: deadS tm A) fun v => ifB (isTup v) (a :: deadS tm A) (deadS tm A) := rfl
    rw [hc, hd]
    cases hg : get3 tm a with
    | none =>
      rw [optB_none, optB_none]
      rcases List.mem_cons.1 h with rfl | h
      · exact .inr (List.mem_cons_self ..)
      · exact (mem_parts h).imp id (List.mem_cons_of_mem _)
    | some v =>
      rw [optB_some, optB_some]
      cases ht : isTup v with
      | true =>
        rw [ifB_true, ifB_true]
        rcases List.mem_cons.1 h with rfl | h
        · exact .inr (List.mem_cons_self ..)
        · exact (mem_parts h).imp id (List.mem_cons_of_mem _)
      | false =>
        rw [ifB_false, ifB_false]
        rcases List.mem_cons.1 h with rfl | h
        · exact .inl ⟨_, List.mem_cons_self .., rfl⟩
        · exact (mem_parts h).imp (fun ⟨x, h1, h2⟩ => ⟨x, List.mem_cons_of_mem _ h1, h2⟩) id
theorem carried_mem {tm : S3 V} : ∀ {A : List Nat}, ∀ x ∈ carried tm A, x.1 ∈ A ∧ get3 tm x.1 = some x.2 ∧ isTup x.2 = false
  | [] => fun x h => (by cases h)
  | a :: A => fun x hx => by
    have hc : carried tm (a :: A) = optB (get3 tm a) (carried tm A) fun v => ifB (isTup v) (carried tm A) ((a, v) :: carried tm A) := rfl
    have h1 := carried_mem (tm := tm) (A := A)
    have h1' : x ∈ carried tm A → x.1 ∈ a :: A ∧ get3 tm x.1 = some x.2 ∧ isTup x.2 = false := fun hx => ⟨List.mem_cons_of_mem _ (h1 x hx).1, (h1 x hx).2⟩
    rw [hc] at hx
    cases hg : get3 tm a with
    | none => rw [hg] at hx; exact h1' hx
    | some v =>
      rw [hg, optB_some] at hx
      cases ht : isTup v with
      | true => rw [ht] at hx; exact h1' hx
      | false =>
        rw [ht, ifB_false] at hx
        rcases List.mem_cons.1 hx with rfl | hx
        · exact ⟨List.mem_cons_self .., hg, ht⟩
        · exact h1' hx
theorem dead_mem {tm : S3 V} {s : Nat} : ∀ {A : List Nat}, s ∈ deadS tm A ↔ s ∈ A ∧ getV tm s = none
  | [] => ⟨fun h => (by cases h), fun h => (by cases h.1)⟩
  | a :: A => by
    have hd : deadS tm (a :: A) = optB (get3 tm a) (a :: deadS tm A) fun v => ifB (isTup v) (a :: deadS tm A) (deadS tm A) := rfl
    have hv : getV tm a = optB (get3 tm a) none fun v => ifB (isTup v) none (some v) := rfl
    have hcons : getV tm a = none → (s ∈ a :: deadS tm A ↔ s ∈ a :: A ∧ getV tm s = none) := fun hn => by
      rw [List.mem_cons, List.mem_cons, dead_mem]
      constructor
      · rintro (rfl | ⟨h1, h2⟩)
        · exact ⟨.inl rfl, hn⟩
        · exact ⟨.inr h1, h2⟩
      · rintro ⟨h1 | h1, h2⟩
        · exact .inl h1
        · exact .inr ⟨h1, h2⟩
    rw [hd]
    cases hg : get3 tm a with
    | none => rw [hg] at hv; exact hcons hv
    | some v =>
      rw [hg, optB_some] at hv
      rw [optB_some]
      cases ht : isTup v with
      | true => rw [ht] at hv; exact hcons hv
      | false =>
        rw [ht, ifB_false] at hv
        rw [ifB_false, List.mem_cons, dead_mem]
        constructor
        · rintro ⟨h1, h2⟩; exact ⟨.inr h1, h2⟩
        · rintro ⟨h1 | h1, h2⟩
          · subst h1; rw [hv] at h2; cases h2
          · exact ⟨h1, h2⟩
/-- slots at the start of a round: what is dead has no place -/
structure Head (A : List Nat) (tm : S3 V) : Prop where
  e : ∀ s ∈ A, getV tm s = none → look3 (path3 s) tm = .e
theorem getV_look {tm tm' : S3 V} {s : Nat} (h : look3 (path3 s) tm' = look3 (path3 s) tm) : getV tm' s = getV tm s := by
  unfold getV
  rw [get3_look, get3_look, h]
theorem head_of (tm : S3 V) (A : List Nat) : Head A (delS tm (deadS tm A)) := ⟨fun s hs hn => by
  rcases look_delS (tm := tm) (path3 s) (deadS tm A) with ⟨_, h⟩ | ⟨h1, h2⟩
  · exact h
  · exfalso
    rw [getV_look h2] at hn
    exact h1 s (dead_mem.2 ⟨hs, hn⟩) rfl⟩
theorem head_set {A : List Nat} {tm : S3 V} (hh : Head A tm) {tm' : S3 V} {vs : List V} (hg : getVs (carried tm A) tm' = some vs) :
    deadS (setVs (carried tm A) vs tm) A = deadS tm A ∧ delS (setVs (carried tm A) vs tm) (deadS tm A) = setVs (carried tm A) vs tm := by
  -- no place of what is dead is one of what is carried
  have hno : ∀ s ∈ deadS tm A, ∀ x ∈ carried tm A, path3 x.1 ≠ path3 s := fun s hs x hx hp => by
    obtain ⟨h1, h2⟩ := dead_mem.1 hs
    have h3 := hh.e s h1 h2
    obtain ⟨_, h4, _⟩ := carried_mem x hx
    rw [get3_look, hp, h3] at h4
    cases h4
  have hsame : ∀ s ∈ deadS tm A, look3 (path3 s) (setVs (carried tm A) vs tm) = look3 (path3 s) tm := fun s hs => by
    rcases look_setVs (t := tm) (path3 s) _ _ hg with ⟨⟨x, h1, h2⟩, _⟩ | ⟨_, h2⟩
    · exact absurd h2 (hno s hs x h1)
    · exact h2
  have hval : ∀ s, s ∈ A → (getV (setVs (carried tm A) vs tm) s = none ↔ getV tm s = none) := fun s hs => by
    rcases mem_parts (tm := tm) hs with ⟨x, h1, rfl⟩ | h1
    · have h2 : ∃ v, getV tm' x.1 = some v := by
        have : ∀ (C : List (Nat × V)) (vs : List V), getVs C tm' = some vs → ∀ x ∈ C, ∃ v, getV tm' x.1 = some v := by
          intro C
          induction C with
          | nil => intro _ _ x hx; cases hx
          | cons y C ih =>
            intro vs hvs x hx
            obtain ⟨v, h3, h4⟩ := optB_eq (show optB (getV tm' y.1) none (fun z => optB (getVs C tm') none fun ys => some (z :: ys)) = some vs from hvs)
            obtain ⟨ys, h5, _⟩ := optB_eq h4
            rcases List.mem_cons.1 hx with rfl | hx
            · exact ⟨v, h3⟩
            · exact ih ys h5 x hx
        exact this _ _ hg x h1
      obtain ⟨v, h2⟩ := h2
      obtain ⟨_, h4, h5⟩ := carried_mem x h1
      have h6 : getV (setVs (carried tm A) vs tm) x.1 = some v := by
        rcases look_setVs (t := tm) (path3 x.1) _ _ hg with ⟨_, h7⟩ | ⟨h7, _⟩
        · rw [getV_look h7]; exact h2
        · exact absurd rfl (h7 x h1)
      rw [h6, getV_of h4 h5]
      constructor <;> (intro h; cases h)
    · rw [getV_look (hsame s h1)]
  have hdead : ∀ (B : List Nat), (∀ s ∈ B, s ∈ A) → deadS (setVs (carried tm A) vs tm) B = deadS tm B := by
    intro B
    induction B with
    | nil => intro _; rfl
    | cons s B ih =>
      intro hB
      have h1 := hval s (hB s (List.mem_cons_self ..))
      have hd : ∀ t : S3 V, deadS t (s :: B) = optB (getV t s) (s :: deadS t B) fun _ => deadS t B := fun t => by
        show optB (get3 t s) (s :: deadS t B) (fun v => ifB (isTup v) (s :: deadS t B) (deadS t B)) = optB (optB (get3 t s) none fun v => ifB (isTup v) none (some v)) (s :: deadS t B) fun _ => deadS t B
        cases get3 t s with
        | none => rfl
        | some v =>
          rw [optB_some, optB_some]
          cases isTup v <;> rfl
      rw [hd, hd, ih fun s' hs' => hB s' (List.mem_cons_of_mem _ hs')]
      cases ha : getV tm s with
      | none => rw [h1.2 ha]
      | some v =>
        cases hb : getV (setVs (carried tm A) vs tm) s with
        | none => rw [h1.1 hb] at ha; cases ha
        | some v' => rfl
  refine ⟨hdead A fun _ h => h, ?_⟩
  apply S3.ext'
  intro p
  rcases look_delS (tm := setVs (carried tm A) vs tm) p (deadS tm A) with ⟨⟨s, h1, rfl⟩, h3⟩ | ⟨_, h2⟩
  · rw [h3, hsame s h1]
    obtain ⟨h4, h5⟩ := dead_mem.1 h1
    exact (hh.e s h4 h5).symm
  · exact h2
theorem restore {tm : S3 V} {A : List Nat} (hh : Head A tm) {t0 tm' : S3 V} (h0 : Same A tm t0) (hs : Same A t0 tm') {vs : List V} (hg : getVs (carried tm A) tm' = some vs) : delS tm' (deadS tm A) = setVs (carried tm A) vs tm := by
  apply S3.ext'
  intro p
  rcases look_delS (tm := tm') p (deadS tm A) with ⟨⟨s, h1, rfl⟩, h3⟩ | ⟨h1, h2⟩
  · rw [h3]
    obtain ⟨h4, h5⟩ := dead_mem.1 h1
    have h6 := hh.e s h4 h5
    rcases look_setVs (t := tm) (path3 s) _ _ hg with ⟨⟨x, q1, q2⟩, _⟩ | ⟨_, q2⟩
    · obtain ⟨_, q3, _⟩ := carried_mem x q1
      rw [get3_look, q2, h6] at q3
      cases q3
    · rw [q2, h6]
  · rw [h2]
    rcases look_setVs (t := tm) p _ _ hg with ⟨_, q2⟩ | ⟨q1, q2⟩
    · exact q2.symm
    · rw [q2]
      have hp : ∀ s ∈ A, path3 s ≠ p := fun s hsA hp => by
        rcases mem_parts (tm := tm) hsA with ⟨x, h5, h6⟩ | h5
        · exact q1 x h5 (by rw [h6]; exact hp)
        · exact h1 s h5 hp
      rw [hs p hp, h0 p hp]
theorem getVs_self {tm : S3 V} : ∀ {C : List (Nat × V)}, (∀ x ∈ C, getV tm x.1 = some x.2) → getVs C tm = some (valsOf C)
  | [], _ => rfl
  | x :: C, h => by
    show optB (getV tm x.1) none (fun y => optB (getVs C tm) none fun ys => some (y :: ys)) = some (x.2 :: valsOf C)
    rw [h x (List.mem_cons_self ..), optB_some, getVs_self fun y hy => h y (List.mem_cons_of_mem _ hy)]; rfl
theorem setVs_self {tm : S3 V} : ∀ {C : List (Nat × V)}, (∀ x ∈ C, get3 tm x.1 = some x.2) → setVs C (valsOf C) tm = tm
  | [], _ => rfl
  | x :: C, h => by
    show set3 (setVs C (valsOf C) tm) x.1 x.2 = tm
    rw [setVs_self fun y hy => h y (List.mem_cons_of_mem _ hy)]
    exact set3_same (h x (List.mem_cons_self ..))
theorem setVs_same {tm : S3 V} {A : List Nat} {vs : List V} : Same A tm (setVs (carried tm A) vs tm) := by
  intro p hp
  have h2 : ∀ (C : List (Nat × V)) (vs : List V), (∀ x ∈ C, x.1 ∈ A) → look3 p (setVs C vs tm) = look3 p tm := by
    intro C
    induction C with
    | nil => intro vs _; rfl
    | cons x C ih =>
      intro vs hC
      cases vs with
      | nil => rfl
      | cons v vs =>
        show look3 p (set3 (setVs C vs tm) x.1 v) = _
        rw [look3_set, if_neg fun h => hp x.1 (hC x (List.mem_cons_self ..)) h.symm]
        exact ih vs fun s' hs' => hC s' (List.mem_cons_of_mem _ hs')
  exact h2 _ _ fun x hx => (carried_mem x hx).1
theorem genC_of {c : C} {K : C → Prop} (h : ∀ c, K c) : genC c K := by cases c <;> first | exact fun _ => h _ | exact fun _ _ => h _
theorem genL_of {l : List C} : ∀ {K : List C → Prop}, (∀ l, K l) → genL l K := by
  induction l with
  | nil => exact fun h => h []
  | cons c l ih => exact fun {K} h => genC_of (K := fun c' => genL l fun l => K (c' :: l)) fun c' => ih fun l => h _
theorem genV_of {v : V} {K : V → Prop} (h : ∀ v, K v) : genV v K := by
  cases v with
  | c x => exact genC_of fun c => h _
  | agg n l => exact genL_of fun l => h _
  | tup l => exact h _
theorem allC_of {k : SK} {K : C → Prop} (h : ∀ c, K c) : allC k K := by cases k <;> exact fun _ => h _
theorem allL_of {ks : List SK} : ∀ {K : List C → Prop}, (∀ l, K l) → allL ks K := by
  induction ks with
  | nil => exact fun h => h []
  | cons k ks ih => exact fun {K} h => allC_of (K := fun c => allL ks fun l => K (c :: l)) fun c => ih fun l => h _
theorem allV_of {t : TypeId} {K : V → Prop} (h : ∀ v, K v) : allV P t K := by
  unfold allV
  cases isAggT P t with
  | false => exact allC_of (K := fun c => K (.c c)) fun c => h _
  | true =>
    cases few P t with
    | true => exact allL_of fun l => h _
    | false => exact fun l => h _
theorem genS_of {G : List Oper} {s : Nat} {v : V} {K : V → Prop} (h : ∀ v, K v) : genS P G s v K := by
  unfold genS
  cases typeOf G s with
  | none => exact genV_of h
  | some t =>
    rw [optB_some]
    cases Nat.beq t 0 with
    | true => exact genV_of h
    | false => exact allV_of h
theorem genVs_of {G : List Oper} {C : List (Nat × V)} : ∀ {K : List V → Prop}, (∀ l, K l) → genVs P G C K := by
  induction C with
  | nil => exact fun h => h []
  | cons x C ih => exact fun {K} h => genS_of (K := fun v => genVs P G C fun l => K (v :: l)) fun v => ih fun l => h _
theorem evT_loop (k : Nat) (b : Code) (tm : S3 V) (m : M) : evT P T (k + 1) (.loop b) tm (toH m) = bind (codeA P (evT P T k) b (delS tm (deadS tm (asg b))) (toH m)) (afterLoop (evT P T k) b (delS tm (deadS tm (asg b)))) := rfl
theorem loop_ok {G : List Oper} {b : Code} (ih : ∀ {tm m Q}, sh P T G b tm m Q → Sc P T b tm m Q) {tm0 : S3 V} {m : M} {Q : PostM} (h : loopP P G (asg b) (sh P T G b) tm0 m Q) : Sc P T (.loop b) tm0 m Q := by
  have hh : Head (asg b) (delS tm0 (deadS tm0 (asg b))) := head_of _ _
  have h' : loopB P G (asg b) (sh P T G b) (delS tm0 (deadS tm0 (asg b))) m Q := h
  have hsc : ∀ k, codeA P (evT P T k) (.loop b) tm0 (toH m) = bind (codeA P (evT P T k) b (delS tm0 (deadS tm0 (asg b))) (toH m)) (afterLoop (evT P T k) b (delS tm0 (deadS tm0 (asg b)))) := fun _ => rfl
  generalize delS tm0 (deadS tm0 (asg b)) = tm at hh h' hsc
  have hR := h' (fun vs m => (∃ tm', getVs (carried tm (asg b)) tm' = some vs) → ∃ k, hM (evT P T k (.loop b) (setVs (carried tm (asg b)) vs tm) (toH m)) Q) (genVs_of fun vs m hb hex => by
    obtain ⟨t1, hg1⟩ := hex
    obtain ⟨k1, ex, tm', m', h1, h2⟩ := ih hb
    obtain ⟨hd1, hd2⟩ := head_set hh hg1
    have hev : ∀ k, evT P T (k + 1) (.loop b) (setVs (carried tm (asg b)) vs tm) (toH m) = bind (codeA P (evT P T k) b (setVs (carried tm (asg b)) vs tm) (toH m)) (afterLoop (evT P T k) b (setVs (carried tm (asg b)) vs tm)) := fun k => by
      rw [evT_loop, hd1, hd2]
    cases ex with
    | nrm =>
      obtain ⟨vs', h3, h4⟩ := orP_eq (show orP (getVs (carried tm (asg b)) tm') _ from h2)
      obtain ⟨k2, h5⟩ := h4 ⟨tm', h3⟩
      refine ⟨max k1 k2 + 1, ?_⟩
      rw [hev, codeA_le (evT_mono (Nat.le_max_left k1 k2)) b _ _ (by rw [h1]; trivial), h1]
      show hM (evT P T (max k1 k2) (.loop b) (delS tm' (deadS (setVs (carried tm (asg b)) vs tm) (asg b))) (toH m')) Q
      rw [hd1, restore hh setVs_same (codeA_same (evT_same k1) b _ _ _ _ _ h1) h3]
      exact Wt_up (Nat.le_max_right k1 k2) h5
    | exit id =>
      refine ⟨k1 + 1, ?_⟩
      rw [hev, h1]
      exact hM_ok h2
    | ret =>
      refine ⟨k1 + 1, ?_⟩
      rw [hev, h1]
      exact hM_ok h2
    | val v => exact h2.elim)
  have hself : getVs (carried tm (asg b)) tm = some (valsOf (carried tm (asg b))) := getVs_self fun x hx => getV_of (carried_mem x hx).2.1 (carried_mem x hx).2.2
  obtain ⟨k, h1⟩ := hR ⟨tm, hself⟩
  rw [setVs_self fun x hx => (carried_mem x hx).2.1] at h1
  cases k with
  | zero => obtain ⟨_, _, _, h2, _⟩ := h1; cases h2
  | succ k =>
    refine ⟨k, ?_⟩
    rw [hsc]
    obtain ⟨q1, q2⟩ := head_set hh hself
    rw [setVs_self fun x hx => (carried_mem x hx).2.1] at q1 q2
    rw [evT_loop, q2] at h1
    exact h1
theorem exVs_eq {ts : List TypeId} : ∀ {K : List V → Prop}, exVs P ts K → ∃ l, K l := by
  induction ts with
  | nil => exact fun h => ⟨_, h⟩
  | cons t ts ih =>
    intro K h
    obtain ⟨v, h1⟩ := exV_eq (show exV P t fun v => exVs P ts fun l => K (v :: l) from h)
    obtain ⟨l, h2⟩ := ih h1
    exact ⟨_, h2⟩
theorem argsP_eq {ys : Option (List TypeId)} {args : List V} {K : List V → Prop} (h : argsP P ys args K) : K args := by
  unfold argsP at h
  cases hy : ys with
  | none => rw [hy] at h; exact h
  | some ts =>
    rw [hy] at h
    obtain ⟨l, h1, h2⟩ := exVs_eq (show exVs P ts fun l => args = l ∧ K l from h)
    rw [h1]; exact h2
theorem codeA_up {c : Code} {tm : S3 V} {h : H} {ex : Ex} {tm' : S3 V} {h' : H} {k k' : Nat} (hk : k ≤ k') (hh : codeA P (evT P T k) c tm h = .ok ex tm' h') : codeA P (evT P T k') c tm h = .ok ex tm' h' := by
  rw [codeA_le (evT_mono hk) c tm h (by rw [hh]; trivial), hh]
theorem range_ok {G : List Oper} {f : Operand} {ps : Array Tmp} {a b : Code} (iha : ∀ {tm m Q}, sh P T G a tm m Q → Sc P T a tm m Q) (ihb : ∀ {tm m Q}, sh P T G b tm m Q → Sc P T b tm m Q) {tm : S3 V} {m : M} {Q : PostM}
    {x : C} (hv : opd tm f = some (.c x)) (h : rangeP P T x m (fun args m1 J K => argsP P (yTypes P G f) args fun args => orP (setParams ps.toList args tm) fun tm1 => sh P T G a tm1 m1 fun ex tm2 m2 => exB ex (J m2 fun m3 => sh P T G b tm2 m3 fun ex _ m4 => K ex m4) (fun _ => False) False fun _ => False) { nrm := fun m => Q .nrm tm m, exits := exitList (fun id m => Q (.exit id) tm m) (dedup (exitsOf b)), ret := fun m => Q .ret tm m }) :
    Sc P T (.rangeFunc f ps a b) tm m Q := by
  cases x with
  | fn g fa fb =>
    cases g with
    | func g =>
      let mk : LoopState → Option Code → AO := fun st pd => .loop st pd 0 tm ps.toList a b
      have hy : Yields P T mk m.nxt (fun args m1 J K => argsP P (yTypes P G f) args fun args => orP (setParams ps.toList args tm) fun tm1 => sh P T G a tm1 m1 fun ex tm2 m2 => exB ex (J m2 fun m3 => sh P T G b tm2 m3 fun ex _ m4 => K ex m4) (fun _ => False) False fun _ => False) := by
        intro args m1 Qy hg hr
        obtain ⟨tm1, h1, h2⟩ := orP_eq (argsP_eq hr)
        obtain ⟨k1, ex, tm2, m2, h3, h4⟩ := iha h2
        cases ex with
        | nrm =>
          obtain ⟨hg2, h5⟩ := (show m2.g m.nxt = some (mk .ready none) ∧ sh P T G b tm2 (m2.set m.nxt (mk .busy none)) _ from h4)
          obtain ⟨k2, ex2, tm3, m4, h6, ⟨st, pd, hg4⟩, h7⟩ := ihb h5
          refine ⟨max k1 k2 + 1, ?_⟩
          show hM (yieldA P (evT P T (max k1 k2)) m.nxt args (toH m1)) (valQ Qy)
          have hl : ∀ {mm : M} {st : LoopState} {pd : Option Code} {s : LoopState → Option Code → FuncId → S3 V → List Nat → Code → Code → Out}, mm.g m.nxt = some (mk st pd) → onLoop (toH mm) m.nxt .fail s = s st pd 0 tm ps.toList a b := fun {mm st pd s} hh => by
            unfold onLoop
            rw [toH_get, hh]; rfl
          unfold yieldA
          rw [hl hg]
          show hM (orF (setParams ps.toList args tm) fun tm' => bind (codeA P (evT P T (max k1 k2)) a tm' (toH m1)) (bodyYield P (evT P T (max k1 k2)) m.nxt b)) _
          rw [h1, orF_some, codeA_up (Nat.le_max_left k1 k2) h3]
          show hM (onLoop (toH m2) m.nxt .fail _) _
          rw [hl hg2]
          show hM (bind (codeA P (evT P T (max k1 k2)) b tm2 (hSet (toH m2) m.nxt (.loop .busy none 0 tm ps.toList a b))) (endYield m.nxt)) _
          rw [toH_set, show codeA P (evT P T (max k1 k2)) b tm2 (toH (m2.set m.nxt (.loop .busy none 0 tm ps.toList a b))) = _ from codeA_up (Nat.le_max_right k1 k2) h6]
          show hM (onLoop (toH m4) m.nxt .fail _) _
          rw [hl hg4]
          cases ex2 with
          | nrm =>
            show hM (.ok (.val (.c (.bool true))) e3 (hSet (toH m4) m.nxt (.loop .ready none 0 tm ps.toList a b))) _
            rw [toH_set]; exact hM_ok h7
          | exit id =>
            show hM (.ok (.val (.c (.bool false))) e3 (hSet (toH m4) m.nxt (.loop .done (some (.exit id)) 0 tm ps.toList a b))) _
            rw [toH_set]; exact hM_ok h7
          | ret =>
            show hM (.ok (.val (.c (.bool false))) e3 (hSet (toH m4) m.nxt (.loop .done (some .ret) 0 tm ps.toList a b))) _
            rw [toH_set]; exact hM_ok h7
          | val v => exact h7.elim
        | _ => exact h4.elim
      obtain ⟨k, v, tm', m5, h1, st, pd, hg5, hnb, h2⟩ := Wt_get (h mk hy)
      refine ⟨k, ?_⟩
      show hM (orF (opd tm f) fun v => onRange (evT P T k) ps.toList a b tm (toH m) v) Q
      rw [hv, orF_some]
      show hM (bind (evT P T k (.call g (appS (mapS wV fa) (appS [.c (.fn (.yield m.nxt) [] [])] (mapS wV fb)))) e3 (hNew (toH m) (.loop .ready none 0 tm ps.toList a b))) (afterRange (evT P T k) m.nxt tm)) Q
      rw [toH_new, show evT P T k (.call g (appS (mapS wV fa) (appS [.c (.fn (.yield m.nxt) [] [])] (mapS wV fb)))) e3 (toH (m.new (.loop .ready none 0 tm ps.toList a b))) = _ from h1]
      show hM (onLoop (toH m5) m.nxt .fail _) Q
      unfold onLoop
      rw [toH_get, hg5]
      have hj : hM (jumpO (evT P T k) tm (hDel (toH m5) m.nxt) pd) Q := by
        rw [toH_del]
        cases pd with
        | none => exact hM_ok h2
        | some c =>
          cases c with
          | exit id =>
            have hex : ∀ {l : List Nat} {id : Nat} {mm : M}, exitP id mm (exitList (fun id m => Q (.exit id) tm m) l) → Q (.exit id) tm mm := fun {l id mm} hq => by
              induction l with
              | nil => exact hq.elim
              | cons x l ih =>
                have hq' : ifB (Nat.beq x id) (Q (.exit x) tm mm) (exitP id mm (exitList (fun id m => Q (.exit id) tm m) l)) := hq
                cases hb : Nat.beq x id with
                | true => rw [hb] at hq'; rw [← Nat.eq_of_beq_eq_true hb]; exact hq'
                | false => rw [hb] at hq'; exact ih hq'
            exact hM_ok (hex h2)
          | ret => exact hM_ok h2
          | _ => exact h2.elim
      cases st with
      | busy => exact absurd rfl hnb
      | _ => exact hj
    | _ => exact h.elim
  | _ => exact h.elim
/-- WHAT A CODE ASKS IS ENOUGH. -/
theorem sh_ok {G : List Oper} : ∀ (c : Code) {tm : S3 V} {m : M} {Q : PostM}, sh P T G c tm m Q → Sc P T c tm m Q := by
  intro c
  induction c with
  | skip => exact fun h => ⟨0, hM_ok h⟩
  | region id ops draw =>
    intro tm m Q h
    obtain ⟨k, h1⟩ := shReg_ok (show shReg P T ops.toList draw tm m fun tm m => Q .nrm tm m from h)
    exact ⟨k, hM_mono h1 fun ex tm m hq => by obtain ⟨rfl, h2⟩ := hq; exact h2⟩
  | seq a b iha ihb =>
    intro tm m Q h
    obtain ⟨k1, ex, tm1, m1, h1, h2⟩ := iha (show sh P T G a tm m fun ex tm m => exB ex (sh P T G b tm m Q) (fun _ => Q ex tm m) (Q ex tm m) fun _ => False from h)
    cases ex with
    | nrm =>
      obtain ⟨k2, h3⟩ := ihb (show sh P T G b tm1 m1 Q from h2)
      refine ⟨max k1 k2, ?_⟩
      show hM (bind (codeA P (evT P T (max k1 k2)) a tm (toH m)) (afterSeq (codeA P (evT P T (max k1 k2)) b))) Q
      rw [codeA_up (Nat.le_max_left k1 k2) h1]
      exact Sc_up (Nat.le_max_right k1 k2) h3
    | exit id =>
      refine ⟨k1, ?_⟩
      show hM (bind (codeA P (evT P T k1) a tm (toH m)) (afterSeq (codeA P (evT P T k1) b))) Q
      rw [h1]
      exact hM_ok h2
    | ret =>
      refine ⟨k1, ?_⟩
      show hM (bind (codeA P (evT P T k1) a tm (toH m)) (afterSeq (codeA P (evT P T k1) b))) Q
      rw [h1]
      exact hM_ok h2
    | val v => exact h2.elim
  | cond x a b iha ihb =>
    intro tm m Q h
    obtain ⟨v, h1, h2⟩ := orP_eq (show orP (opd tm x) fun v => vBool v False fun t => ifB t (sh P T G a tm m Q) (sh P T G b tm m Q) from h)
    obtain ⟨t, rfl, h3⟩ := vBoolF h2
    cases t with
    | true =>
      obtain ⟨k, h4⟩ := iha (show sh P T G a tm m Q from h3)
      refine ⟨k, ?_⟩
      show hM (orF (opd tm x) _) Q
      rw [h1]; exact h4
    | false =>
      obtain ⟨k, h4⟩ := ihb (show sh P T G b tm m Q from h3)
      refine ⟨k, ?_⟩
      show hM (orF (opd tm x) _) Q
      rw [h1]; exact h4
  | block id b ih =>
    intro tm m Q h
    obtain ⟨k1, ex, tm1, m1, h1, h2⟩ := ih (show sh P T G b tm m fun ex tm m => exB ex (Q .nrm tm m) (fun id' => ifB (Nat.beq id id') (Q .nrm tm m) (Q ex tm m)) (Q ex tm m) fun _ => False from h)
    refine ⟨k1, ?_⟩
    show hM (bind (codeA P (evT P T k1) b tm (toH m)) (afterBlock id)) Q
    rw [h1]
    cases ex with
    | nrm => exact hM_ok h2
    | exit id' =>
      have h3 : ifB (Nat.beq id id') (Q .nrm tm1 m1) (Q (.exit id') tm1 m1) := h2
      show hM (ifB (Nat.beq id id') (.ok .nrm tm1 (toH m1)) (.ok (.exit id') tm1 (toH m1))) Q
      cases hb : Nat.beq id id' with
      | true => rw [hb] at h3; exact hM_ok h3
      | false => rw [hb] at h3; exact hM_ok h3
    | ret => exact hM_ok h2
    | val v => exact h2.elim
  | loop b ih => exact fun h => loop_ok ih h
  | rangeFunc f ps a b iha ihb =>
    intro tm m Q h
    obtain ⟨v, h1, h2⟩ := orP_eq (show orP (opd tm f) _ from h)
    obtain ⟨x, rfl, h3⟩ := vC1_eq h2
    exact range_ok iha ihb h1 h3
  | exit id => exact fun h => ⟨0, hM_ok h⟩
  | scope b ih => exact ih
  | label l => exact fun h => ⟨0, hM_ok h⟩
  | goto l => exact fun h => h.elim
  | ret => exact fun h => ⟨0, hM_ok h⟩
  | refuse s => exact fun h => h.elim
def resP (P : Program) (m : M) (tm : S3 V) (r : ResultVar) (K : V → Prop) : Prop :=
  ResultVar.rec (motive := fun _ => Prop) (fun t => orP (get3 tm t) K) (fun a t => orP (get3 tm a) fun p => vC1 p fun x => ifB (knownT P t) (ifB (isAggT P t) (exA P t fun l => ldA m x (P.cellsOf t) = some l ∧ K (.agg (P.cellsOf t) l)) (exC (skOf P t) fun c => ldC m x = some c ∧ K (.c c))) False) r
def ressP (P : Program) (m : M) (tm : S3 V) (rs : List ResultVar) : (List V → Prop) → Prop :=
  List.rec (motive := fun _ => (List V → Prop) → Prop) (fun K => K []) (fun r _ ih K => resP P m tm r fun v => ih fun l => K (v :: l)) rs
def retP (P : Program) (fn : Func) (Q : V → M → Prop) (tm : S3 V) (m : M) : Prop := ressP P m tm fn.results.toList fun vs => orP (manyV vs) fun v => Q v m
def callQ (P : Program) (fn : Func) (Q : V → M → Prop) : PostM := fun ex tm m => exB ex (retP P fn Q tm m) (fun _ => False) (retP P fn Q tm m) fun _ => False
theorem resP_eq {m : M} {tm : S3 V} {r : ResultVar} {K : V → Prop} (h : resP P m tm r K) : ∃ v, resultV P (toH m) tm r = some v ∧ K v := by
  cases r with
  | tmp t => exact orP_eq (show orP (get3 tm t) K from h)
  | cell a t =>
    obtain ⟨p, h1, h2⟩ := orP_eq (show orP (get3 tm a) _ from h)
    obtain ⟨x, rfl, h3⟩ := vC1_eq h2
    obtain ⟨h4, h5⟩ := ifF_eq h3
    have hl : ∃ b o v, x = .ptr b o ∧ loadV P (toH m) t b o = some v ∧ K v := by
      cases hf : isAggT P t with
      | true =>
        rw [hf] at h5
        obtain ⟨l, h6, h7⟩ := exA_eq h5
        obtain ⟨b, o, rfl, h8⟩ := ldA_eq h6
        refine ⟨b, o, _, rfl, ?_, h7⟩
        unfold loadV
        rw [h4, hf, ifB_true, ifB_true, h8]; rfl
      | false =>
        rw [hf] at h5
        obtain ⟨c, h6, h7⟩ := exC_eq (show exC (skOf P t) (fun c => ldC m x = some c ∧ K (.c c)) from h5)
        obtain ⟨b, o, rfl, h8⟩ := ldC_eq h6
        refine ⟨b, o, _, rfl, ?_, h7⟩
        unfold loadV
        rw [h4, hf, ifB_true, ifB_false, h8]; rfl
    obtain ⟨b, o, v, rfl, h6, h7⟩ := hl
    refine ⟨v, ?_, h7⟩
    show optB (get3 tm a) none (fun p => vPtr p none fun b o => loadV P (toH m) t b o) = some v
    rw [h1]; exact h6
theorem ressP_eq {m : M} {tm : S3 V} : ∀ {rs : List ResultVar} {K : List V → Prop}, ressP P m tm rs K → ∃ vs, mapO (resultV P (toH m) tm) rs = some vs ∧ K vs
  | [], K, h => ⟨[], rfl, h⟩
  | r :: rs, K, h => by
    obtain ⟨v, h1, h2⟩ := resP_eq (show resP P m tm r fun v => ressP P m tm rs fun l => K (v :: l) from h)
    obtain ⟨vs, h3, h4⟩ := ressP_eq h2
    refine ⟨v :: vs, ?_, h4⟩
    show optB (resultV P (toH m) tm r) none (fun y => optB (mapO (resultV P (toH m) tm) rs) none fun ys => some (y :: ys)) = _
    rw [h1, optB_some, h3]; rfl
theorem retP_eq {fn : Func} {Q : V → M → Prop} {tm : S3 V} {m : M} (h : retP P fn Q tm m) : hM (retOf P fn tm (toH m)) (valQ Q) := by
  obtain ⟨vs, h1, h2⟩ := ressP_eq h
  obtain ⟨v, h3, h4⟩ := orP_eq h2
  unfold retOf
  rw [h1, orF_some, h3, orF_some]
  exact hM_ok h4
/-- a call, by its body -/
theorem call_ok {G : List Oper} {f : FuncId} {fn : Func} {c : Code} (hf : P.funcs[f]? = some fn) (hb : fn.body = some c) (hk : fnOk fn = true) {args : List V} (ha : Nat.ble (lenS args) fn.ntmps = true) (hT : findT T f = none ∨ args ≠ []) {m : M} {Q : V → M → Prop}
    (h : sh P T G c (enterTm args 0 e3) m (callQ P fn Q)) : Wc P T f args m Q := by
  obtain ⟨k, ex, tm', m', h1, h2⟩ := sh_ok c h
  refine ⟨k + 1, ?_⟩
  have hstep : evT P T (k + 1) (.call f args) e3 (toH m) = callF P (evT P T k) args (toH m) P.funcs[f]? := by
    show tab T (step P (evT P T k)) (.call f args) e3 (toH m) = _
    cases args with
    | nil =>
      rcases hT with hT | hT
      · show optB (findT T f) (step P (evT P T k) (.call f [])) (fun b _ h => .ok (.val (.c (.bool b))) e3 h) e3 (toH m) = _
        rw [hT]; rfl
      · exact absurd rfl hT
    | cons x xs => rfl
  rw [hstep, hf]
  unfold callF
  rw [orF_some, hb, orF_some, hk, ifB_true, ha, ifB_true, h1]
  show hM (merge (finishCall P fn ex tm' (toH m'))) (valQ Q)
  have hfin : hM (finishCall P fn ex tm' (toH m')) (valQ Q) := by
    cases ex with
    | nrm => exact retP_eq h2
    | ret => exact retP_eq h2
    | exit id => exact h2.elim
    | val v => exact h2.elim
  obtain ⟨ex2, tm2, m2, h3, h4⟩ := hfin
  rw [h3]
  exact hM_ok h4
/-- a call that is known -/
theorem call_known {f : FuncId} {b : Bool} (hT : findT T f = some b) {m : M} {Q : V → M → Prop} (h : Q (.c (.bool b)) m) : Wc P T f [] m Q := by
  refine ⟨1, ?_⟩
  show hM (optB (findT T f) (step P (evT P T 0) (.call f [])) (fun b _ h => .ok (.val (.c (.bool b))) e3 h) e3 (toH m)) (valQ Q)
  rw [hT]
  exact hM_ok h
/-- what a function asks of its arguments -/
def SH (P : Program) (T : List (Nat × Bool)) (f : FuncId) (args : List V) (m : M) (Q : V → M → Prop) : Prop := sh P T (opsOf (bodyAt P f)) (bodyAt P f) (enterTm args 0 e3) m (callQ P (fnAt P f) Q)
def okB (P : Program) (T : List (Nat × Bool)) (f : FuncId) (n : Nat) : Bool :=
  optB P.funcs[f]? false fun fn => optB fn.body false fun _ => ifB (fnOk fn) (ifB (Nat.ble n fn.ntmps) (ifB (Nat.beq n 0) (optB (findT T f) true fun _ => false) true) false) false
theorem wc_of {f : FuncId} {args : List V} {n : Nat} (hn : lenS args = n) (hk : okB P T f n = true) {m : M} {Q : V → M → Prop} (h : SH P T f args m Q) : Wc P T f args m Q := by
  subst hn
  obtain ⟨fn, hf, h1⟩ := optB_bool hk
  obtain ⟨c, hb, h2⟩ := optB_bool h1
  obtain ⟨h3, h4⟩ := ifB_true' h2
  obtain ⟨h5, h6⟩ := ifB_true' h4
  have hfn : fnAt P f = fn := by unfold fnAt; rw [hf]; rfl
  have hbd : bodyAt P f = c := by unfold bodyAt; rw [hfn, hb]; rfl
  unfold SH at h
  rw [hfn, hbd] at h
  refine call_ok hf hb h3 h5 ?_ h
  cases args with
  | nil =>
    have h7 : optB (findT T f) true (fun _ => false) = true := h6
    cases hT : findT T f with
    | none => exact .inl rfl
    | some b => rw [hT] at h7; cases h7
  | cons x xs => exact .inr (fun h => by cases h)
theorem wc_eq {f : FuncId} {args : List V} {n : Nat} (hn : lenS args = n) (hk : okB P T f n = true) {m : M} {Q : V → M → Prop} {X : Prop} (he : SH P T f args m Q = X) (h : X) : Wc P T f args m Q := wc_of hn hk (he.symm ▸ h)
end
end Go.Abs

namespace Go.Abs
noncomputable section
theorem atS_get? {α : Type} : ∀ (l : List α) (o : Nat), atS l o = l[o]?
  | [], o => by cases o <;> rfl
  | x :: xs, 0 => rfl
  | x :: xs, o + 1 => by
    show atS xs o = _
    rw [atS_get? xs o]; simp
theorem takeS_of {α : Type} : ∀ (n : Nat) (l : List α), n ≤ l.length → takeS n l = some (l.take n)
  | 0, l, _ => by rw [List.take_zero]; rfl
  | n + 1, [], h => by simp at h
  | n + 1, x :: xs, h => by
    show optB (takeS n xs) none (fun r => some (consS x r)) = _
    rw [takeS_of n xs (by simpa using h), optB_some, consS_eq]; simp
theorem dropS_of {α : Type} : ∀ (n : Nat) (l : List α), n ≤ l.length → dropS n l = some (l.drop n)
  | 0, l, _ => rfl
  | n + 1, [], h => by simp at h
  | n + 1, x :: xs, h => by
    show dropS n xs = _
    rw [dropS_of n xs (by simpa using h)]; simp
theorem seg_of {α : Type} {l : List α} {o n : Nat} (h : o + n ≤ l.length) : seg l o n = some ((l.drop o).take n) := by
  unfold seg
  rw [dropS_of o l (by omega), optB_some, takeS_of n _ (by simp; omega)]
theorem splice_of {α : Type} (new : List α) : ∀ (o : Nat) (l : List α), o + new.length ≤ l.length → splice o new l = some (l.take o ++ new ++ l.drop (o + new.length))
  | 0, l, h => by
    have : ∀ (new l : List α), new.length ≤ l.length → over new l = some (new ++ l.drop new.length) := by
      intro new
      induction new with
      | nil => intro l _; simp [over]
      | cons y ys ih =>
        intro l h
        cases l with
        | nil => simp at h
        | cons x xs =>
          show optB (over ys xs) none (fun r => some (consS y r)) = _
          rw [ih xs (by simpa using h), optB_some, consS_eq]; simp
    show over new l = _
    rw [this new l (by omega)]; simp
  | o + 1, [], h => by simp at h
  | o + 1, x :: xs, h => by
    show optB (splice o new xs) none (fun r => some (consS x r)) = _
    rw [splice_of new o xs (by simp at h; omega), optB_some, consS_eq]
    simp [Nat.add_right_comm]
theorem ifB_dec {p : Prop} [Decidable p] {A B : Prop} : ifB (decide p) A B ↔ (p → A) ∧ (¬ p → B) := by
  by_cases h : p <;> simp [h, ifB]
theorem ifB_iff {b : Bool} {A B : Prop} : ifB b A B ↔ (b = true → A) ∧ (b = false → B) := by cases b <;> simp [ifB]
theorem M.nxt_new (m : M) (o : AO) : (m.new o).nxt = m.nxt + 1 := rfl
theorem M.nxt_set (m : M) (b : Nat) (o : AO) : (m.set b o).nxt = m.nxt := rfl
theorem M.g_new (m : M) (o : AO) (b : Nat) : (m.new o).g b = if b = m.nxt then some o else m.g b := rfl
theorem M.g_set (m : M) (c : Nat) (o : AO) (b : Nat) : (m.set c o).g b = if b = c then some o else m.g b := rfl
theorem M.vw_new (m : M) (o : AO) : (m.new o).vw = m.vw := rfl
theorem M.g_del (m : M) (c b : Nat) : (m.del c).g b = if b = c then none else m.g b := rfl
def cellA (o : Option AO) (k : Nat) : Option C := match o with | some (.cells _ vs _) => atS vs k | _ => none
def cellsA (o : Option AO) (k n : Nat) : Option (List C) := match o with | some (.cells n' vs _) => ifB (Nat.beq k 0) (ifB (Nat.beq n' n) (some vs) (seg vs k n)) (seg vs k n) | _ => none
/-- what can be read at a place: of a block, or of what can only be read -/
def rdK (o : Option AO) (q : Option (Nat × List C)) (k : Nat) : Option C := match o with | some x => cellA (some x) k | none => optB q none fun q => ifB (Nat.ble q.1 k) (atS q.2 (k - q.1)) none
def rdsK (o : Option AO) (q : Option (Nat × List C)) (k n : Nat) : Option (List C) := match o with | some x => cellsA (some x) k n | none => optB q none fun q => ifB (Nat.ble q.1 k) (seg q.2 (k - q.1) n) none
theorem ldC_g (m : M) (b k : Nat) : ldC m (.ptr b k) = rdK (m.g b) (m.vw b) k := by
  show optB (m.g b) _ _ = _
  cases m.g b with
  | none => rfl
  | some x => cases x <;> rfl
theorem ldA_g (m : M) (b k n : Nat) : ldA m (.ptr b k) n = rdsK (m.g b) (m.vw b) k n := by
  show optB (m.g b) _ _ = _
  cases m.g b with
  | none => rfl
  | some x => cases x <;> rfl
theorem rdK_some (n : Nat) (vs : List C) (op : Bool) (q : Option (Nat × List C)) (k : Nat) : rdK (some (.cells n vs op)) q k = vs[k]? := atS_get? vs k
theorem rdK_view (o : Nat) (vs : List C) (k : Nat) (h : o ≤ k) : rdK none (some (o, vs)) k = vs[k - o]? := by
  show ifB (Nat.ble o k) (atS vs (k - o)) none = _
  rw [Nat.ble_eq_true_of_le h, atS_get?]; rfl
theorem rdsK_some (x : AO) (q : Option (Nat × List C)) (k n : Nat) : rdsK (some x) q k n = cellsA (some x) k n := rfl
theorem rdsK_view {o : Nat} {vs : List C} {k n : Nat} (h : o ≤ k) (h2 : k - o + n ≤ vs.length) : rdsK none (some (o, vs)) k n = some ((vs.drop (k - o)).take n) := by
  show ifB (Nat.ble o k) (seg vs (k - o) n) none = _
  rw [Nat.ble_eq_true_of_le h, seg_of h2]; rfl
theorem cellsA_whole (n : Nat) (vs : List C) (op : Bool) : cellsA (some (.cells n vs op)) 0 n = some vs := by
  show ifB (Nat.beq 0 0) (ifB (Nat.beq n n) (some vs) (seg vs 0 n)) (seg vs 0 n) = some vs
  rw [Nat.beq_refl, Nat.beq_refl]; rfl
theorem cellsA_part {n : Nat} {vs : List C} {op : Bool} {k j : Nat} (hn : vs.length = n) (h : k + j ≤ n) : cellsA (some (.cells n vs op)) k j = some ((vs.drop k).take j) := by
  show ifB (Nat.beq k 0) (ifB (Nat.beq n j) (some vs) (seg vs k j)) (seg vs k j) = _
  have hs : seg vs k j = some ((vs.drop k).take j) := seg_of (by omega)
  rw [hs]
  cases h1 : Nat.beq k 0 with
  | false => rfl
  | true =>
    cases h2 : Nat.beq n j with
    | false => rfl
    | true =>
      have := Nat.eq_of_beq_eq_true h1
      have := Nat.eq_of_beq_eq_true h2
      subst_vars
      simp [ifB]
/-- what lay there lies there -/
structure Ext (m m' : M) : Prop where
  nxt : m.nxt ≤ m'.nxt
  g : ∀ b, b < m.nxt → m'.g b = m.g b
  vw : m'.vw = m.vw
theorem Ext.refl (m : M) : Ext m m := ⟨Nat.le_refl _, fun _ _ => rfl, rfl⟩
theorem Ext.trans {a b c : M} (h : Ext a b) (h' : Ext b c) : Ext a c := ⟨Nat.le_trans h.nxt h'.nxt, fun k hk => (h'.g k (Nat.lt_of_lt_of_le hk h.nxt)).trans (h.g k hk), h'.vw.trans h.vw⟩
theorem Ext.new (m : M) (o : AO) : Ext m (m.new o) := ⟨Nat.le_succ _, fun b hb => by rw [M.g_new, if_neg (by omega)], rfl⟩
/-- a block of one's own is written -/
theorem Ext.setR {m m' : M} (h : Ext m m') {b : Nat} (hb : m.nxt ≤ b) (o : AO) : Ext m (m'.set b o) := ⟨h.nxt, fun k hk => by rw [M.g_set, if_neg (by omega)]; exact h.g k hk, h.vw⟩
end
end Go.Abs

namespace Go.Abs
noncomputable section
variable {P : Program} {T : List (Nat × Bool)}
theorem ldC_of {m : M} {b n : Nat} {vs : List C} {op : Bool} (hg : m.g b = some (.cells n vs op)) {k : Nat} {c : C} (h : vs[k]? = some c) : ldC m (.ptr b k) = some c := by
  rw [ldC_g, hg, rdK_some]; exact h
theorem ldA_of {m : M} {b n : Nat} {vs : List C} {op : Bool} (hg : m.g b = some (.cells n vs op)) : ldA m (.ptr b 0) n = some vs := by
  rw [ldA_g, hg, rdsK_some, cellsA_whole]
theorem stC_of {m : M} {b n : Nat} {vs : List C} {op : Bool} (hg : m.g b = some (.cells n vs op)) (new : List C) : stC m (.ptr b 0) n new = some (m.set b (.cells n new op)) := by
  show (match m.g b with
    | some (.cells n' vs opn) => ifB (Nat.beq n' n) (ifB (Nat.beq 0 0) (some (m.set b (.cells n' new opn))) none) (optB (splice 0 new vs) none fun vs' => some (m.set b (.cells n' vs' opn)))
    | _ => none) = _
  rw [hg]
  show ifB (Nat.beq n n) (ifB (Nat.beq 0 0) (some (m.set b (.cells n new op))) none) _ = _
  rw [Nat.beq_refl, Nat.beq_refl]; rfl
theorem stC_at {m : M} {b n : Nat} {vs : List C} {op : Bool} (hg : m.g b = some (.cells n vs op)) {k : Nat} (c : C) (hk : k < vs.length) (hn : vs.length = n) (h1 : n ≠ 1) : stC m (.ptr b k) 1 [c] = some (m.set b (.cells n (vs.set k c) op)) := by
  show (match m.g b with
    | some (.cells n' vs opn) => ifB (Nat.beq n' 1) (ifB (Nat.beq k 0) (some (m.set b (.cells n' [c] opn))) none) (optB (splice k [c] vs) none fun vs' => some (m.set b (.cells n' vs' opn)))
    | _ => none) = _
  rw [hg]
  show ifB (Nat.beq n 1) _ (optB (splice k [c] vs) none fun vs' => some (m.set b (.cells n vs' op))) = _
  have hb : Nat.beq n 1 = false := by
    cases hq : Nat.beq n 1 with
    | true => exact absurd (Nat.eq_of_beq_eq_true hq) h1
    | false => rfl
  rw [hb, ifB_false, splice_of [c] k vs (by simp; omega), optB_some]
  have : vs.take k ++ [c] ++ vs.drop (k + [c].length) = vs.set k c := by
    rw [List.set_eq_take_append_cons_drop, if_pos hk]; simp
  rw [this]
/-- vs lies from o on in block b -/
def Seg (m : M) (b o : Nat) (vs : List C) : Prop :=
  (∃ n ws op, m.g b = some (.cells n ws op) ∧ ws.length = n ∧ o + vs.length ≤ n ∧ (ws.drop o).take vs.length = vs) ∨
  (m.g b = none ∧ ∃ q : Nat × List C, m.vw b = some q ∧ q.1 ≤ o ∧ o - q.1 + vs.length ≤ q.2.length ∧ (q.2.drop (o - q.1)).take vs.length = vs)
theorem Seg.rd {m : M} {b o : Nat} {vs : List C} (h : Seg m b o vs) {i : Nat} {c : C} (hi : vs[i]? = some c) : ldC m (.ptr b (o + i)) = some c := by
  have hlt : i < vs.length := (List.getElem?_eq_some_iff.1 hi).1
  rcases h with ⟨n, ws, op, h1, h2, h3, h4⟩ | ⟨h1, q, h2, h3, h4, h5⟩
  · rw [ldC_g, h1, rdK_some]
    rw [← h4, List.getElem?_take, if_pos hlt, List.getElem?_drop] at hi
    exact hi
  · obtain ⟨qo, qs⟩ := q
    rw [ldC_g, h1, h2, rdK_view _ _ _ (by have : qo ≤ o := h3; omega)]
    rw [← h5, List.getElem?_take, if_pos hlt, List.getElem?_drop] at hi
    rw [← hi]
    congr 1
    have : qo ≤ o := h3
    show o + i - qo = o - qo + i
    omega
theorem Seg.rds {m : M} {b o : Nat} {vs : List C} (h : Seg m b o vs) {i j : Nat} (hi : i + j ≤ vs.length) : ldA m (.ptr b (o + i)) j = some ((vs.drop i).take j) := by
  have hsub : ∀ (l : List C) (a : Nat), (l.drop a).take vs.length = vs → (vs.drop i).take j = (l.drop (a + i)).take j := fun l a hl => by
    rw [← hl, List.drop_take, List.take_take, List.drop_drop]
    congr 1
    omega
  rcases h with ⟨n, ws, op, h1, h2, h3, h4⟩ | ⟨h1, q, h2, h3, h4, h5⟩
  · rw [ldA_g, h1, rdsK_some, cellsA_part h2 (by omega), hsub ws o h4]
  · obtain ⟨qo, qs⟩ := q
    have h3' : qo ≤ o := h3
    have h4' : o - qo + vs.length ≤ qs.length := h4
    rw [ldA_g, h1, h2, rdsK_view (by omega) (by omega), hsub qs (o - qo) h5]
    congr 3
    omega
theorem Seg.to {m m' : M} {b o : Nat} {vs : List C} (h : Seg m b o vs) (hg : m'.g b = m.g b) (hv : m'.vw = m.vw) : Seg m' b o vs := by
  unfold Seg
  rw [hg, hv]
  exact h
/-- a slice of n elements, k cells each, with the cells vs -/
structure Ls (m : M) (k : Nat) (x : C) (vs : List C) (n : Nat) : Prop where
  len : n * k = vs.length
  val : (x = .sl0 ∧ n = 0) ∨ ∃ b o s c, x = .sl b o n s c ∧ b < m.nxt ∧ (n ≠ 0 → Seg m b o vs)
theorem Ls.isSl {m : M} {k n : Nat} {x : C} {vs : List C} (h : Ls m k x vs n) : isSl x := by
  rcases h.val with ⟨rfl, _⟩ | ⟨b, o, s, c, rfl, _⟩ <;> trivial
theorem Ls.slLen {m : M} {k n : Nat} {x : C} {vs : List C} (h : Ls m k x vs n) : slLen x = n := by
  rcases h.val with ⟨rfl, rfl⟩ | ⟨b, o, s, c, rfl, _⟩ <;> rfl
theorem Ls.noFn {m : M} {k n : Nat} {x : C} {vs : List C} (h : Ls m k x vs n) : noFnC x = true := by
  rcases h.val with ⟨rfl, _⟩ | ⟨b, o, s, c, rfl, _⟩ <;> rfl
theorem Ls.at {m : M} {k n : Nat} {x : C} {vs : List C} (h : Ls m k x vs n) (hn : n ≠ 0) : ∃ b o, (∀ i, slAt x i = .ptr b (o + i)) ∧ Seg m b o vs := by
  rcases h.val with ⟨rfl, h2⟩ | ⟨b, o, s, c, rfl, _, h3⟩
  · exact absurd h2 hn
  · exact ⟨b, o, fun i => rfl, h3 hn⟩
theorem Ls.pos {m : M} {k n : Nat} {x : C} {vs : List C} (h : Ls m k x vs n) {i : Nat} (hi : i < vs.length) : n ≠ 0 := fun h0 => by
  have := h.len; rw [h0, Nat.zero_mul] at this; omega
theorem Ls.rd {m : M} {k n : Nat} {x : C} {vs : List C} (h : Ls m k x vs n) {i : Nat} {c : C} (hi : vs[i]? = some c) : ldC m (slAt x i) = some c := by
  obtain ⟨b, o, h1, h2⟩ := h.at (h.pos (List.getElem?_eq_some_iff.1 hi).1)
  rw [h1]; exact h2.rd hi
theorem Ls.isPt {m : M} {k n : Nat} {x : C} {vs : List C} (h : Ls m k x vs n) (hn : n ≠ 0) (i : Nat) : isPt (slAt x i) := by
  obtain ⟨b, o, h1, _⟩ := h.at hn
  rw [h1]; trivial
theorem Ls.rds {m : M} {k n : Nat} {x : C} {vs : List C} (h : Ls m k x vs n) {i j : Nat} (hj : 0 < j) (hi : i + j ≤ vs.length) : ldA m (slAt x i) j = some ((vs.drop i).take j) := by
  obtain ⟨b, o, h1, h2⟩ := h.at (h.pos (show i < vs.length by omega))
  rw [h1]; exact h2.rds hi
theorem Ls.add {m : M} {k n : Nat} {x : C} {vs : List C} (h : Ls m k x vs n) (hn : n ≠ 0) (i d : Nat) : ptAdd (slAt x i) d = slAt x (i + d) := by
  obtain ⟨b, o, h1, _⟩ := h.at hn
  rw [h1, h1]
  show C.ptr b (o + i + d) = _
  rw [Nat.add_assoc]
theorem Ls.src {m : M} {k n : Nat} {x : C} {vs : List C} (h : Ls m k x vs n) : srcCells (toH m) k (.c x) = some (n, vs) := by
  have hl := h.len
  rcases h.val with ⟨rfl, rfl⟩ | ⟨b, o, s, c, rfl, _, h3⟩
  · have : vs = [] := List.eq_nil_of_length_eq_zero (by rw [← hl, Nat.zero_mul])
    subst this; rfl
  · cases n with
    | zero =>
      have : vs = [] := List.eq_nil_of_length_eq_zero (by rw [← hl, Nat.zero_mul])
      subst this; rfl
    | succ n =>
      show optB (rdA (toH m) b o (Nat.mul (n + 1) k)) none (fun l => some (n + 1, l)) = _
      have := (h3 (by omega)).rds (i := 0) (j := (n + 1) * k) (by omega)
      have h4 : rdA (toH m) b o (Nat.mul (n + 1) k) = some ((vs.drop 0).take ((n + 1) * k)) := this
      rw [h4, optB_some, List.drop_zero, List.take_of_length_le (by omega)]
theorem Ls.to {m m' : M} {k n : Nat} {x : C} {vs : List C} (h : Ls m k x vs n) (hn : m.nxt ≤ m'.nxt) (hg : ∀ b, b < m.nxt → (∃ o s c, x = .sl b o n s c) → m'.g b = m.g b) (hv : m'.vw = m.vw) : Ls m' k x vs n := by
  refine ⟨h.len, ?_⟩
  rcases h.val with h1 | ⟨b, o, s, c, h1, h2, h3⟩
  · exact .inl h1
  · exact .inr ⟨b, o, s, c, h1, by omega, fun h0 => (h3 h0).to (hg b h2 ⟨o, s, c, h1⟩) hv⟩
theorem Ls.ext {m m' : M} {k n : Nat} {x : C} {vs : List C} (h : Ls m k x vs n) (he : Ext m m') : Ls m' k x vs n := h.to he.nxt (fun b hb _ => he.g b hb) he.vw
theorem Ls.nil (m : M) (k : Nat) : Ls m k .sl0 [] 0 := ⟨by simp, .inl ⟨rfl, rfl⟩⟩
theorem Ls.one {m : M} {b k : Nat} {vs : List C} {op : Bool} (hg : m.g b = some (.cells k vs op)) (hl : vs.length = k) (hb : b < m.nxt) (s : Nat) (c : Option Nat) : Ls m k (.sl b 0 1 s c) vs 1 :=
  ⟨by omega, .inr ⟨b, 0, s, c, rfl, hb, fun _ => .inl ⟨k, vs, op, hg, hl, by omega, by rw [List.drop_zero, List.take_of_length_le (by omega)]⟩⟩⟩
inductive OwnV (m : M) (k : Nat) (vs : List C) (n : Nat) : C → Prop where
  | nil : n = 0 → vs = [] → OwnV m k vs n .sl0
  | grown (b : Nat) : m.g b = some (.cells (n * k) vs true) → b < m.nxt → OwnV m k vs n (.sl b 0 n k none)
  | lit (b : Nat) : m.g b = some (.cells (n * k) vs false) → b < m.nxt → OwnV m k vs n (.sl b 0 n 0 (some n))
structure Own1 (m : M) (k : Nat) (x : C) (vs : List C) (n : Nat) : Prop where
  len : n * k = vs.length
  own : OwnV m k vs n x
/-- the block of a slice that append frees -/
def slB (x : C) : Option Nat := match x with | .sl b _ _ _ none => some b | _ => none
theorem Own1.ls {m : M} {k n : Nat} {x : C} {vs : List C} (h : Own1 m k x vs n) : Ls m k x vs n := by
  have hl := h.len
  refine ⟨hl, ?_⟩
  cases h.own with
  | nil h1 h2 => exact .inl ⟨rfl, h1⟩
  | grown b hg hb => exact .inr ⟨b, 0, k, none, rfl, hb, fun _ => .inl ⟨_, vs, _, hg, by omega, by omega, by rw [List.drop_zero, List.take_of_length_le (by omega)]⟩⟩
  | lit b hg hb => exact .inr ⟨b, 0, 0, some n, rfl, hb, fun _ => .inl ⟨_, vs, _, hg, by omega, by omega, by rw [List.drop_zero, List.take_of_length_le (by omega)]⟩⟩
theorem Own1.to {m m' : M} {k n : Nat} {x : C} {vs : List C} (h : Own1 m k x vs n) (hn : m.nxt ≤ m'.nxt) (hg : ∀ b, b < m.nxt → (∃ s c, x = .sl b 0 n s c) → m'.g b = m.g b) : Own1 m' k x vs n := by
  refine ⟨h.len, ?_⟩
  cases h.own with
  | nil h1 h2 => exact .nil h1 h2
  | grown b h1 hb => exact .grown b (by rw [hg b hb ⟨_, _, rfl⟩]; exact h1) (by omega)
  | lit b h1 hb => exact .lit b (by rw [hg b hb ⟨_, _, rfl⟩]; exact h1) (by omega)
theorem Own1.ext {m m' : M} {k n : Nat} {x : C} {vs : List C} (h : Own1 m k x vs n) (he : Ext m m') : Own1 m' k x vs n := h.to he.nxt fun b hb _ => he.g b hb
theorem Own1.nil' (m : M) (k : Nat) : Own1 m k .sl0 [] 0 := ⟨by simp, .nil rfl rfl⟩
/-- append, to a slice of one's own -/
theorem ap_big {t el k : Nat} (ht : tk P t = .sl el) (hgr : growOk P el = true) (hk : P.cellsOf el = k) {m : M} {s x : C} {vs ws : List C} {n j : Nat} (hs : Own1 m k s vs n) (hx : Ls m k x ws j) (hj : 0 < j) (hk0 : 0 < k) (hnj : (n + j) * P.bytesOf el ≤ 140737488355328) :
    ∃ m', ApR P t m s x (.sl m.nxt 0 (n + j) k none) m' ∧ Own1 m' k (.sl m.nxt 0 (n + j) k none) (vs ++ ws) (n + j) ∧ m'.nxt = m.nxt + 1 ∧ m'.vw = m.vw ∧ ∀ b, b ≠ m.nxt → slB s ≠ some b → m'.g b = m.g b := by
  have hws : ws.length = j * k := hx.len.symm
  have hlen : (n + j) * k = (vs ++ ws).length := by rw [List.length_append, Nat.add_mul, hs.len, hx.len]
  have h0 : appendV P (toH m) t (.c s) (.c x) = appendR P (toH m) el (.c s) j ws := by
    show onSlT (tk P t) none _ = _
    rw [ht]
    show ifB (growOk P el) (optB (srcCells (toH m) (P.cellsOf el) (.c x)) none _) none = _
    rw [hgr, ifB_true, hk, hx.src, optB_some]
    show ifB (Nat.ble (Nat.mul j (P.bytesOf el)) 140737488355328) _ none = _
    rw [Nat.ble_eq_true_of_le (show Nat.mul j (P.bytesOf el) ≤ 140737488355328 from Nat.le_trans (Nat.mul_le_mul_right _ (Nat.le_add_left j n)) hnj), ifB_true]
  obtain ⟨j', rfl⟩ : ∃ j', j = j' + 1 := ⟨j - 1, by omega⟩
  have hmk : ∀ m1 : M, m1.nxt = m.nxt → grown (toH m1) (n + (j' + 1)) k (vs ++ ws) = some (.val (.c (.sl m.nxt 0 (n + (j' + 1)) k none)) (toH (m1.new (.cells ((n + (j' + 1)) * k) (vs ++ ws) true)))) := fun m1 h1 => by
    have : hNew (toH m1) (.cells ((n + (j' + 1)) * k) (vs ++ ws) true) = _ := toH_new m1 _
    rw [← this, ← h1]; rfl
  have fin : ∀ m1 : M, m1.nxt = m.nxt → m1.vw = m.vw → (∀ b, b ≠ m.nxt → slB s ≠ some b → m1.g b = m.g b) → appendR P (toH m) el (.c s) (j' + 1) ws = grown (toH m1) (n + (j' + 1)) k (vs ++ ws) →
      ∃ m', ApR P t m s x (.sl m.nxt 0 (n + (j' + 1)) k none) m' ∧ Own1 m' k (.sl m.nxt 0 (n + (j' + 1)) k none) (vs ++ ws) (n + (j' + 1)) ∧ m'.nxt = m.nxt + 1 ∧ m'.vw = m.vw ∧ ∀ b, b ≠ m.nxt → slB s ≠ some b → m'.g b = m.g b := fun m1 h1 h2 h3 h4 => by
    refine ⟨m1.new (.cells ((n + (j' + 1)) * k) (vs ++ ws) true), ?_, ⟨hlen, .grown _ ?_ ?_⟩, by rw [M.nxt_new, h1], by rw [M.vw_new]; exact h2, fun b hb hsb => ?_⟩
    · show appendV P (toH m) t (.c s) (.c x) = _
      rw [h0, h4, hmk m1 h1]
    · rw [M.g_new, if_pos h1.symm]
    · rw [M.nxt_new]; omega
    · rw [M.g_new, if_neg (by omega)]; exact h3 b hb hsb
  cases hs.own with
  | nil h1 h2 =>
    subst h1 h2
    refine fin m rfl rfl (fun _ _ _ => rfl) ?_
    show grown (toH m) (j' + 1) (P.cellsOf el) ws = _
    rw [hk, Nat.zero_add]; rfl
  | lit b hg hb =>
    refine fin m rfl rfl (fun _ _ _ => rfl) ?_
    show ifB (Nat.ble (Nat.mul (Nat.add n (j' + 1)) (P.bytesOf el)) 140737488355328) (onCells (toH m) b none fun bn ws' opn => ifB (Nat.ble (Nat.add n (j' + 1)) n) _ (optB (seg ws' 0 (Nat.mul n (P.cellsOf el))) none fun old => grown (toH m) (Nat.add n (j' + 1)) (P.cellsOf el) (appS old ws))) none = _
    rw [Nat.ble_eq_true_of_le (show Nat.mul (Nat.add n (j' + 1)) (P.bytesOf el) ≤ 140737488355328 from hnj), ifB_true, onCells_toH hg]
    have hb : Nat.ble (Nat.add n (j' + 1)) n = false := by
      cases hq : Nat.ble (Nat.add n (j' + 1)) n with
      | true => have : n + (j' + 1) ≤ n := Nat.le_of_ble_eq_true hq; omega
      | false => rfl
    rw [hb, ifB_false, hk, seg_of (show 0 + Nat.mul n k ≤ vs.length by have : Nat.mul n k = n * k := rfl; rw [this, hs.len]; omega), optB_some, List.drop_zero, List.take_of_length_le (by have : Nat.mul n k = n * k := rfl; rw [this, hs.len]; omega), appS_eq]
    rfl
  | grown b hg hb =>
    refine fin (m.del b) rfl rfl (fun b' _ h => by rw [M.g_del, if_neg fun h' => h (by rw [h']; rfl)]) ?_
    show ifB (Nat.ble (Nat.mul (Nat.add n (j' + 1)) (P.bytesOf el)) 140737488355328) (onCells (toH m) b none fun bn ws' opn => ifB (Nat.beq k (P.cellsOf el)) (ifB (Nat.beq 0 0)
      (optB (splice (Nat.mul n k) ws ws') (optB (takeS (Nat.mul n k) ws') none fun old => grown (hDel (toH m) b) (Nat.add n (j' + 1)) k (appS old ws)) _) none) none) none = _
    rw [Nat.ble_eq_true_of_le (show Nat.mul (Nat.add n (j' + 1)) (P.bytesOf el) ≤ 140737488355328 from hnj), ifB_true, onCells_toH hg, hk, Nat.beq_refl, Nat.beq_refl, ifB_true, ifB_true]
    have hsp : splice (Nat.mul n k) ws vs = none := by
      cases hq : splice (Nat.mul n k) ws vs with
      | none => rfl
      | some r =>
        have h1 := (splice_eq _ _ _ _ hq).1
        have h2 : Nat.mul n k = n * k := rfl
        rw [h2, hs.len, hws] at h1
        have : 0 < (j' + 1) * k := Nat.mul_pos (by omega) hk0
        omega
    rw [hsp, optB_none, takeS_of _ _ (by have : Nat.mul n k = n * k := rfl; rw [this, hs.len]; omega), optB_some, List.take_of_length_le (by have : Nat.mul n k = n * k := rfl; rw [this, hs.len]; omega), appS_eq, toH_del]
    rfl
theorem growOk_small {el : Nat} (hgr : growOk P el = true) {n : Nat} (h : n ≤ 1048576) : n * P.bytesOf el ≤ 140737488355328 := by
  unfold growOk at hgr
  simp only [Bool.and_eq_true] at hgr
  have h4 := Nat.le_of_ble_eq_true hgr.1.2
  exact Nat.le_trans (Nat.mul_le_mul h h4) (by decide)
theorem ap_own {t el k : Nat} (ht : tk P t = .sl el) (hgr : growOk P el = true) (hk : P.cellsOf el = k) {m : M} {s x : C} {vs ws : List C} {n j : Nat} (hs : Own1 m k s vs n) (hx : Ls m k x ws j) (hj : 0 < j) (hk0 : 0 < k) (hnj : n + j ≤ 1048576) :
    ∃ m', ApR P t m s x (.sl m.nxt 0 (n + j) k none) m' ∧ Own1 m' k (.sl m.nxt 0 (n + j) k none) (vs ++ ws) (n + j) ∧ m'.nxt = m.nxt + 1 ∧ m'.vw = m.vw ∧ ∀ b, b ≠ m.nxt → slB s ≠ some b → m'.g b = m.g b := ap_big ht hgr hk hs hx hj hk0 (growOk_small hgr hnj)
theorem ap_none {t el k : Nat} (ht : tk P t = .sl el) (hgr : growOk P el = true) (hk : P.cellsOf el = k) {m : M} {s x : C} {vs : List C} {n : Nat} (hs : Own1 m k s vs n) (hx : Ls m k x [] 0) : ApR P t m s x s m := by
  show onSlT (tk P t) none _ = _
  rw [ht]
  show ifB (growOk P el) (optB (srcCells (toH m) (P.cellsOf el) (.c x)) none _) none = _
  rw [hgr, ifB_true, hk, hx.src, optB_some]
  show ifB (Nat.ble (Nat.mul 0 (P.bytesOf el)) 140737488355328) _ none = _
  rw [Nat.ble_eq_true_of_le (show Nat.mul 0 (P.bytesOf el) ≤ 140737488355328 from Nat.le_trans (Nat.le_of_eq (Nat.zero_mul _)) (Nat.zero_le _)), ifB_true]
  show vSl (.c s) none (some (R.val (.c s) (toH m))) (fun _ _ _ _ _ => some (R.val (.c s) (toH m))) = _
  rcases hs.ls.val with ⟨rfl, _⟩ | ⟨b, o, s, c, rfl, _⟩ <;> rfl
structure Bk (m : M) (b n : Nat) (vs : List C) : Prop where
  g : m.g b = some (.cells n vs false)
  lt : b < m.nxt
theorem Bk.ext {m m' : M} {b n : Nat} {vs : List C} (h : Bk m b n vs) (e : Ext m m') : Bk m' b n vs := ⟨(e.g b h.lt).trans h.g, Nat.lt_of_lt_of_le h.lt e.nxt⟩
theorem Bk.rc {m : M} {b n : Nat} {vs : List C} (h : Bk m b n vs) {k : Nat} {c : C} (hk : vs[k]? = some c) : ldC m (.ptr b k) = some c := ldC_of h.g hk
theorem Bk.ra {m : M} {b n : Nat} {vs : List C} (h : Bk m b n vs) : ldA m (.ptr b 0) n = some vs := ldA_of h.g
theorem Bk.st {m : M} {b n : Nat} {vs : List C} (h : Bk m b n vs) (new : List C) : stC m (.ptr b 0) n new = some (m.set b (.cells n new false)) := stC_of h.g new
theorem Bk.new {m m0 : M} {n : Nat} {vs : List C} (h : m0 = m.new (.cells n vs false)) : Bk m0 m.nxt n vs ∧ Ext m m0 := by
  subst h
  exact ⟨⟨by rw [M.g_new, if_pos rfl], by rw [M.nxt_new]; omega⟩, .new m _⟩
theorem Bk.set {m : M} {b n : Nat} {vs : List C} (h : Bk m b n vs) (new : List C) : Bk (m.set b (.cells n new false)) b n new := ⟨by rw [M.g_set, if_pos rfl], h.lt⟩
theorem Bk.setNe {m : M} {b n : Nat} {vs : List C} (h : Bk m b n vs) {c : Nat} (hc : b ≠ c) (o : AO) : Bk (m.set c o) b n vs := ⟨by rw [M.g_set, if_neg hc]; exact h.g, h.lt⟩
theorem Ls.setNe {m : M} {k n : Nat} {x : C} {vs : List C} (h : Ls m k x vs n) {c : Nat} (hc : ∀ b o n s d, x = .sl b o n s d → b ≠ c) (o : AO) : Ls (m.set c o) k x vs n := by
  refine h.to (Nat.le_refl _) (fun b _ hb => ?_) rfl
  obtain ⟨o', s, d, hx⟩ := hb
  rw [M.g_set, if_neg (hc _ _ _ _ _ hx)]
/-- the slice lies in a block that is new -/
def Fr (m : M) (x : C) : Prop := ∀ b o n s d, x = .sl b o n s d → m.nxt ≤ b
theorem Fr.nil (m : M) : Fr m .sl0 := fun _ _ _ _ _ h => by cases h
theorem Fr.ne {m : M} {s : C} (hf : Fr m s) {b : Nat} (hb : b < m.nxt) : slB s ≠ some b := fun hsb => by
  cases s with
  | sl b' o n' s' d =>
    cases d with
    | none =>
      have h2 : some b' = some b := hsb
      have h3 := hf b' o n' s' none rfl
      cases h2; omega
    | some d => cases hsb
  | _ => cases hsb
/-- two slices lie in two blocks -/
def Sep (x y : C) : Prop := ∀ b o n s d b' o' n' s' d', x = .sl b o n s d → y = .sl b' o' n' s' d' → b ≠ b'
theorem Sep.symm {x y : C} (h : Sep x y) : Sep y x := fun b o n s d b' o' n' s' d' h1 h2 h3 => h _ _ _ _ _ _ _ _ _ _ h2 h1 h3.symm
theorem Own1.lt {m : M} {k n : Nat} {x : C} {vs : List C} (h : Own1 m k x vs n) {b o n' s : Nat} {d : Option Nat} (hx : x = .sl b o n' s d) : b < m.nxt := by
  cases h.own with
  | nil => cases hx
  | grown b' hg hb => cases hx; exact hb
  | lit b' hg hb => cases hx; exact hb
/-- the first elements of a slice of one's own -/
theorem Own1.sub {m : M} {k n : Nat} {x : C} {vs : List C} (h : Own1 m k x vs n) (hk : 0 < k) {j : Nat} (hj : j ≤ n) : ∃ c, subC k x 0 j = some c ∧ Ls m k c (vs.take (j * k)) j := by
  have hl := h.len
  have hjk : j * k ≤ vs.length := by rw [← hl]; exact Nat.mul_le_mul_right _ hj
  have htl : j * k = (vs.take (j * k)).length := by rw [List.length_take]; omega
  have seg : ∀ {b : Nat} {op : Bool}, m.g b = some (.cells (n * k) vs op) → Seg m b 0 (vs.take (j * k)) := fun hg =>
    .inl ⟨_, vs, _, hg, by omega, by rw [← htl]; omega, by rw [← htl, List.drop_zero]⟩
  cases h.own with
  | nil h1 h2 =>
    subst h1 h2
    have : j = 0 := by omega
    subst this
    exact ⟨.sl0, rfl, by simpa using Ls.nil m k⟩
  | grown b hg hb =>
    refine ⟨.sl b (Nat.add 0 (Nat.mul 0 k)) (Nat.sub j 0) k none, ?_, htl, .inr ⟨b, 0, k, none, ?_, hb, fun _ => seg hg⟩⟩
    · show ifB (Nat.ble 0 j) (ifB (Nat.ble j n) (ifB (Nat.beq k k) _ none) none) none = _
      rw [Nat.ble_eq_true_of_le (Nat.zero_le _), Nat.ble_eq_true_of_le hj, Nat.beq_refl]; rfl
    · rw [show Nat.add 0 (Nat.mul 0 k) = 0 from by show 0 + 0 * k = 0; simp, show Nat.sub j 0 = j from rfl]
  | lit b hg hb =>
    refine ⟨.sl b (ifB (Nat.beq n 0) 0 (Nat.add 0 (Nat.mul 0 k))) (Nat.sub j 0) 0 (some (Nat.sub n 0)), ?_, htl, .inr ⟨b, 0, 0, some (Nat.sub n 0), ?_, hb, fun _ => seg hg⟩⟩
    · show ifB (Nat.ble 0 j) (ifB (Nat.ble j n) _ none) none = _
      rw [Nat.ble_eq_true_of_le (Nat.zero_le _), Nat.ble_eq_true_of_le hj]; rfl
    · have : ifB (Nat.beq n 0) 0 (Nat.add 0 (Nat.mul 0 k)) = 0 := by
        rw [show Nat.add 0 (Nat.mul 0 k) = 0 from by show 0 + 0 * k = 0; simp]
        cases Nat.beq n 0 <;> rfl
      rw [this]; rfl
def ints (L : List Int) : List C := L.map (C.int .i64)
theorem ints_len (L : List Int) : (ints L).length = L.length := by simp [ints]
/-- a slice of numbers -/
abbrev Li (m : M) (x : C) (L : List Int) : Prop := Ls m 1 x (ints L) L.length
end
end Go.Abs

namespace Go.Abs
noncomputable section
/-- m' is m but for block b -/
structure St1 (m m' : M) (b : Nat) : Prop where
  nxt : m'.nxt = m.nxt
  vw : m'.vw = m.vw
  g : ∀ b', b' ≠ b → m'.g b' = m.g b'
theorem St1.of_set {m m' : M} {b : Nat} {o : AO} (h : m' = m.set b o) : St1 m m' b := by
  subst h
  exact ⟨rfl, rfl, fun b' hb => by rw [M.g_set, if_neg hb]⟩
theorem Bk.sto {m : M} {b n : Nat} {ws : List C} (h : Bk m b n ws) (vs : List C) : ∃ m', stC m (.ptr b 0) n vs = some m' ∧ Bk m' b n vs ∧ St1 m m' b := ⟨_, h.st vs, h.set vs, .of_set rfl⟩
theorem Bk.sto1 {m : M} {b n : Nat} {vs : List C} (h : Bk m b n vs) (k : Nat) (c : C) (hk : k < vs.length) (hn : vs.length = n) : ∃ m', stC m (.ptr b k) 1 [c] = some m' ∧ Bk m' b n (vs.set k c) ∧ St1 m m' b := by
  by_cases h1 : n = 1
  · subst h1
    have hk0 : k = 0 := by omega
    subst hk0
    have : vs.set 0 c = [c] := by
      match vs, hn with
      | [a], _ => rfl
    exact ⟨_, stC_of h.g [c], by rw [this]; exact h.set _, .of_set rfl⟩
  · exact ⟨_, stC_at h.g c hk hn h1, h.set _, .of_set rfl⟩
end
end Go.Abs

namespace Go.Abs
noncomputable section
variable {P : Program} {T : List (Nat × Bool)}
/-- all is kept but S and what is new -/
structure Chg (S : Nat → Prop) (m m' : M) : Prop where
  nxt : m.nxt ≤ m'.nxt
  g : ∀ b, b < m.nxt → ¬ S b → m'.g b = m.g b
  vw : m'.vw = m.vw
/-- blocks that are owned: those of before, and new ones -/
def Own (S : Nat → Prop) (m : M) (S' : Nat → Prop) : Prop := ∀ b, S' b → S b ∨ m.nxt ≤ b
/-- what is said of memory speaks of blocks of S alone -/
structure Local (n0 : Nat) (I : (Nat → Prop) → M → Prop) : Prop where
  st : ∀ S m m', I S m → m.nxt ≤ m'.nxt → m'.vw = m.vw → (∀ b, S b → m'.g b = m.g b) → (∀ b, b < n0 → m'.g b = m.g b) → I S m'
  lt : ∀ S m, I S m → ∀ b, S b → b < m.nxt
/-- calls of the body of the loop l: I i: i values have been handed out; E: no more are wanted -/
structure Client (P : Program) (T : List (Nat × Bool)) (n0 l : Nat) (xs : List (List V)) (I : Nat → (Nat → Prop) → M → Prop) (E : (Nat → Prop) → M → Prop) : Prop where
  li : ∀ i, Local n0 (I i)
  le : Local n0 E
  yield : ∀ i x S m, xs[i]? = some x → I i S m → ∀ Q : V → M → Prop, (∀ S' m', Own S m S' → Chg S m m' → I (i + 1) S' m' → Q (.c (.bool true)) m') → (∀ S' m', Own S m S' → Chg S m m' → E S' m' → Q (.c (.bool false)) m') → Wy P T l x m Q
/-- the function value hands out xs; it reads blocks of D, of which R holds -/
structure Iter (P : Program) (T : List (Nat × Bool)) (x : C) (xs : List (List V)) (D : Nat → Prop) (R : M → Prop) : Prop where
  st : ∀ m m', R m → m.nxt ≤ m'.nxt → m'.vw = m.vw → (∀ b, D b → m'.g b = m.g b) → R m'
  lt : ∀ m, R m → ∀ b, D b → b < m.nxt
  run : ∀ n0 l I E, Client P T n0 l xs I E → ∀ S m, n0 ≤ m.nxt → I 0 S m → R m → (∀ b, S b → ¬ D b) → ∀ Q : V → M → Prop, (∀ v S' m', Own S m S' → Chg S m m' → I xs.length S' m' ∨ E S' m' → Q v m') → callP P T [.c (.fn (.yield l) [] [])] x m Q
end
end Go.Abs

namespace Go.Abs
set_option maxRecDepth 100000
noncomputable section
variable {P : Program}
/-- what lies in f lies in m -/
structure Sub (f m : M) : Prop where
  nxt : f.nxt ≤ m.nxt
  vw : m.vw = f.vw
  g : ∀ b, b < f.nxt → (f.g b ≠ none ∨ f.vw b ≠ none) → m.g b = f.g b
theorem Sub.refl (m : M) : Sub m m := ⟨Nat.le_refl _, rfl, fun _ _ _ => rfl⟩
theorem Sub.trans {a b c : M} (h : Sub a b) (h' : Sub b c) : Sub a c := ⟨Nat.le_trans h.nxt h'.nxt, h'.vw.trans h.vw, fun x hx hn => by
  have h1 := h.g x hx hn
  rw [← h1]
  exact h'.g x (Nat.lt_of_lt_of_le hx h.nxt) (by rw [h1, h.vw]; exact hn)⟩
theorem Sub.of_ext {m m' : M} (h : Ext m m') : Sub m m' := ⟨h.nxt, h.vw, fun b hb _ => h.g b hb⟩
/-- the same, but there may be more to read in m -/
structure SubV (f m : M) : Prop where
  nxt : f.nxt ≤ m.nxt
  vw : ∀ b, b < f.nxt → m.vw b = f.vw b
  g : ∀ b, b < f.nxt → (f.g b ≠ none ∨ f.vw b ≠ none) → m.g b = f.g b
theorem Sub.v {f m : M} (h : Sub f m) : SubV f m := ⟨h.nxt, fun b _ => by rw [h.vw], h.g⟩
theorem SubV.refl (m : M) : SubV m m := (Sub.refl m).v
theorem SubV.trans {a b c : M} (h : SubV a b) (h' : SubV b c) : SubV a c := ⟨Nat.le_trans h.nxt h'.nxt, fun x hx => (h'.vw x (Nat.lt_of_lt_of_le hx h.nxt)).trans (h.vw x hx), fun x hx hn => by
  have h1 := h.g x hx hn
  rw [← h1]
  exact h'.g x (Nat.lt_of_lt_of_le hx h.nxt) (by rw [h1, h.vw x hx]; exact hn)⟩
theorem Seg.to' {m m' : M} {b o : Nat} {vs : List C} (h : Seg m b o vs) (hg : m'.g b = m.g b) (hv : m'.vw b = m.vw b) : Seg m' b o vs := by
  unfold Seg
  rw [hg, hv]
  exact h
theorem Seg.subv {f m : M} {b o : Nat} {vs : List C} (h : Seg f b o vs) (hb : b < f.nxt) (s : SubV f m) : Seg m b o vs := by
  refine h.to' ?_ (s.vw b hb)
  rcases h with ⟨n, ws, op, h1, _⟩ | ⟨h1, q, h2, _⟩
  · exact s.g b hb (.inl (by rw [h1]; exact Option.some_ne_none _))
  · exact s.g b hb (.inr (by rw [h2]; exact Option.some_ne_none _))
theorem Ls.subv {f m : M} {k n : Nat} {x : C} {vs : List C} (h : Ls f k x vs n) (s : SubV f m) : Ls m k x vs n := by
  refine ⟨h.len, ?_⟩
  rcases h.val with h1 | ⟨b, o, t, c, h1, h2, h3⟩
  · exact .inl h1
  · exact .inr ⟨b, o, t, c, h1, Nat.lt_of_lt_of_le h2 s.nxt, fun h0 => (h3 h0).subv h2 s⟩
theorem Ls.sub {f m : M} {k n : Nat} {x : C} {vs : List C} (h : Ls f k x vs n) (s : Sub f m) : Ls m k x vs n := h.subv s.v
/-- a type of values, and how they lie in memory -/
class Rp (α : Type) where
  k : Nat
  pos : 0 < k
  rep : M → List C → α → Prop
  len : ∀ {m : M} {cs : List C} {a : α}, rep m cs a → cs.length = k
  subv : ∀ {f m : M} {cs : List C} {a : α}, rep f cs a → SubV f m → rep m cs a
theorem Rp.sub {α : Type} [Rp α] {f m : M} {cs : List C} {a : α} (h : Rp.rep f cs a) (s : Sub f m) : Rp.rep m cs a := Rp.subv h s.v
/-- one after the other -/
def Cat {α : Type} [Rp α] (f : M) : List C → List α → Prop
  | vs, [] => vs = []
  | vs, a :: l => ∃ c r, vs = c ++ r ∧ Rp.rep f c a ∧ Cat f r l
variable {α β : Type} [Rp α] [Rp β]
theorem Cat.subv {f m : M} (s : SubV f m) : ∀ {l : List α} {vs : List C}, Cat f vs l → Cat m vs l
  | [], _, h => h
  | _ :: _, _, ⟨c, r, h1, h2, h3⟩ => ⟨c, r, h1, Rp.subv h2 s, Cat.subv s h3⟩
theorem Cat.sub {f m : M} (s : Sub f m) {l : List α} {vs : List C} (h : Cat f vs l) : Cat m vs l := Cat.subv s.v h
theorem Cat.len {f : M} : ∀ {l : List α} {vs : List C}, Cat f vs l → l.length * Rp.k α = vs.length
  | [], _, h => by have h : _ = [] := h; rw [h]; simp
  | _ :: l, _, ⟨c, r, h1, h2, h3⟩ => by rw [h1, List.length_append, Rp.len h2, ← Cat.len h3, List.length_cons, Nat.add_mul, Nat.one_mul, Nat.add_comm]
theorem Cat.app {f : M} : ∀ {l l' : List α} {vs vs' : List C}, Cat f vs l → Cat f vs' l' → Cat f (vs ++ vs') (l ++ l')
  | [], _, _, _, h, h' => by have h : _ = [] := h; rw [h]; exact h'
  | _ :: _, _, _, _, ⟨c, r, h1, h2, h3⟩, h' => ⟨c, r ++ _, by rw [h1, List.append_assoc], h2, Cat.app h3 h'⟩
theorem Cat.one {f : M} {cs : List C} {a : α} (h : Rp.rep f cs a) : Cat f cs [a] := ⟨cs, [], by simp, h, rfl⟩
theorem Cat.at {f : M} : ∀ {l : List α} {vs : List C}, Cat f vs l → ∀ {n : Nat} {a : α}, l[n]? = some a → n * Rp.k α + Rp.k α ≤ vs.length ∧ Rp.rep f ((vs.drop (n * Rp.k α)).take (Rp.k α)) a
  | [], _, _, n, a, hn => by simp at hn
  | x :: l, _, ⟨c, r, h1, h2, h3⟩, 0, a, hn => by
    have : x = a := by simpa using hn
    subst this
    have hl := Rp.len h2
    refine ⟨by rw [h1, List.length_append]; omega, ?_⟩
    rw [Nat.zero_mul, List.drop_zero, h1, List.take_append_of_le_length (by omega), List.take_of_length_le (by omega)]; exact h2
  | x :: l, _, ⟨c, r, h1, h2, h3⟩, n + 1, a, hn => by
    have hl := Rp.len h2
    obtain ⟨q1, q2⟩ := Cat.at h3 (n := n) (a := a) (by simpa using hn)
    refine ⟨by rw [h1, List.length_append, Nat.add_mul, Nat.one_mul]; omega, ?_⟩
    rw [h1, Nat.add_mul, Nat.one_mul, show n * Rp.k α + Rp.k α = c.length + n * Rp.k α by omega, ← List.drop_drop, List.drop_left' rfl]; exact q2
/-- a slice of n elements, of k cells each, that can be sliced -/
def slOk (x : C) (k n : Nat) : Prop := (x = .sl0 ∧ n = 0) ∨ (∃ b o s c, x = .sl b o n s (some c) ∧ n ≤ c) ∨ ∃ b o, x = .sl b o n k none
/-- a slice with these elements -/
def Sl (f : M) (x : C) (l : List α) : Prop := ∃ vs, Ls f (Rp.k α) x vs l.length ∧ Cat f vs l ∧ slOk x (Rp.k α) l.length
theorem Sl.subv {f m : M} {x : C} {l : List α} (h : Sl f x l) (s : SubV f m) : Sl m x l := h.elim fun vs h => ⟨vs, h.1.subv s, Cat.subv s h.2.1, h.2.2⟩
theorem Sl.sub {f m : M} {x : C} {l : List α} (h : Sl f x l) (s : Sub f m) : Sl m x l := h.subv s.v
theorem Sl.slLen {f : M} {x : C} {l : List α} (h : Sl f x l) : slLen x = l.length := h.elim fun _ h => h.1.slLen
theorem Sl.isSl {f : M} {x : C} {l : List α} (h : Sl f x l) : isSl x := h.elim fun _ h => h.1.isSl
theorem Sl.noFn {f : M} {x : C} {l : List α} (h : Sl f x l) : noFnC x = true := h.elim fun _ h => h.1.noFn
theorem Sl.nil (f : M) : Sl f .sl0 ([] : List α) := ⟨[], Ls.nil f _, rfl, .inl ⟨rfl, rfl⟩⟩
instance : Rp Int := ⟨1, by omega, fun _ cs a => cs = [.int .i64 a], fun h => by rw [h]; rfl, fun h _ => h⟩
instance : Rp Bool := ⟨1, by omega, fun _ cs a => cs = [.bool a], fun h => by rw [h]; rfl, fun h _ => h⟩
instance : Rp (List α) := ⟨1, by omega, fun f cs a => ∃ c, cs = [c] ∧ Sl f c a, fun ⟨_, h, _⟩ => by rw [h]; rfl, fun ⟨c, h, h2⟩ s => ⟨c, h, h2.subv s⟩⟩
/-- an element by its number -/
def idx {α : Type} (l : List α) (i : Int) : Option α := if 0 ≤ i then l[i.toNat]? else none
theorem idx_some {α : Type} {l : List α} {i : Int} {a : α} (h : idx l i = some a) : ∃ n : Nat, i = (n : Int) ∧ n < l.length ∧ l[n]? = some a := by
  unfold idx at h
  by_cases h0 : 0 ≤ i
  · rw [if_pos h0] at h
    exact ⟨i.toNat, by omega, (List.getElem?_eq_some_iff.1 h).1, h⟩
  · rw [if_neg h0] at h; cases h
theorem idx_nat {α : Type} (l : List α) (n : Nat) : idx l (n : Int) = l[n]? := by unfold idx; rw [if_pos (Int.natCast_nonneg n)]; rfl
/-- a function's frame: memory at the call, and the blocks of before that it may write -/
structure Fm where
  m : M
  B : Nat → Prop
def Fm.of (m : M) : Fm := ⟨m, fun _ => False⟩
/-- all is as it was but what may be written, and what is new -/
structure FExt (F : Fm) (m : M) : Prop where
  nxt : F.m.nxt ≤ m.nxt
  g : ∀ b, b < F.m.nxt → ¬ F.B b → m.g b = F.m.g b
  vw : m.vw = F.m.vw
theorem FExt.trans {F : Fm} {m m' : M} (h : FExt F m) (e : Ext m m') : FExt F m' := ⟨Nat.le_trans h.nxt e.nxt, fun b hb hB => (e.g b (Nat.lt_of_lt_of_le hb h.nxt)).trans (h.g b hb hB), e.vw.trans h.vw⟩
/-- F: the frame; f0: what lay there for good; f: what lies there for good now; m: memory now -/
structure St (F : Fm) (f0 f m : M) : Prop where
  ext : FExt F m
  sub : Sub f m
  fz : ∀ b, f.nxt ≤ b → f.g b = none
  fv : ∀ b, f.nxt ≤ b → f.vw b = none
  v0 : ∀ b, F.m.nxt ≤ b ∨ F.B b → f.vw b = none
  fs : Sub f0 f
  old : ∀ b, b < F.m.nxt → ¬ F.B b → f.g b = f0.g b
/-- what a call asks of memory -/
structure Pre (f m : M) : Prop where
  sub : Sub f m
  fz : ∀ b, f.nxt ≤ b → f.g b = none
  fv : ∀ b, f.nxt ≤ b → f.vw b = none
theorem Pre.stB {f m : M} (h : Pre f m) (B : Nat → Prop) (hB : ∀ b, B b → f.vw b = none) : St ⟨m, B⟩ f f m := ⟨⟨Nat.le_refl _, fun _ _ _ => rfl, rfl⟩, h.sub, h.fz, h.fv, fun b hb => hb.elim (fun hb => h.fv b (Nat.le_trans h.sub.nxt hb)) (hB b), .refl f, fun _ _ _ => rfl⟩
theorem Pre.st {f m : M} (h : Pre f m) : St (Fm.of m) f f m := h.stB _ fun _ h => h.elim
theorem St.ext' {m0 f0 f m : M} (h : St (Fm.of m0) f0 f m) : Ext m0 m := ⟨h.ext.nxt, fun b hb => h.ext.g b hb fun h => h, h.ext.vw⟩
theorem St.pre {F : Fm} {f0 f m : M} (h : St F f0 f m) : Pre f m := ⟨h.sub, h.fz, h.fv⟩
/-- what a call hands back: memory, and what lies there for good -/
structure Grw (m f m' f' : M) : Prop where
  ext : Ext m m'
  fsub : Sub f f'
  pre : Pre f' m'
  old : ∀ b, b < m.nxt → f'.g b = f.g b
theorem St.grw {m0 f0 f m : M} (h : St (Fm.of m0) f0 f m) : Grw m0 f0 m f := ⟨h.ext', h.fs, h.pre, fun b hb => h.old b hb fun h => h⟩
/-- a step: blocks with a tag of X may have changed -/
structure Kp (τ : Nat → Nat) (f m : M) (τ' : Nat → Nat) (f' m' : M) (X : List Nat) : Prop where
  nxt : m.nxt ≤ m'.nxt
  tg : ∀ b, b < m.nxt → τ' b = τ b
  g : ∀ b, b < m.nxt → τ b ∉ X → m'.g b = m.g b
  fg : ∀ b, b < m.nxt → τ b ∉ X → f'.g b = f.g b
  fs : Sub f f'
  vw : m'.vw = m.vw
/-- a block of one's own, with a tag -/
structure Lb (F : Fm) (f : M) (τ : Nat → Nat) (m : M) (t b n : Nat) (vs : List C) : Prop where
  bk : Bk m b n vs
  new : F.m.nxt ≤ b ∨ F.B b
  nf : f.g b = none
  tg : τ b = t
theorem Lb.k {F : Fm} {f f' m m' : M} {τ τ' : Nat → Nat} {t b n : Nat} {vs : List C} {X : List Nat} (h : Lb F f τ m t b n vs) (k : Kp τ f m τ' f' m' X) (hx : t ∉ X) : Lb F f' τ' m' t b n vs := by
  have hx : τ b ∉ X := by rw [h.tg]; exact hx
  exact ⟨⟨(k.g b h.bk.lt hx).trans h.bk.g, Nat.lt_of_lt_of_le h.bk.lt k.nxt⟩, h.new, (k.fg b h.bk.lt hx).trans h.nf, (k.tg b h.bk.lt).trans h.tg⟩
/-- another tag for a block -/
def tagAt (τ : Nat → Nat) (b t : Nat) : Nat → Nat := fun j => if j = b then t else τ j
theorem St.new {F : Fm} {f0 f m m' : M} (s : St F f0 f m) {o : AO} (h : m' = m.new o) (τ : Nat → Nat) (t : Nat) : St F f0 f m' ∧ Kp τ f m (tagAt τ m.nxt t) f m' [] := by
  subst h
  refine ⟨⟨s.ext.trans (.new m o), s.sub.trans (.of_ext (.new m o)), s.fz, s.fv, s.v0, s.fs, s.old⟩, ⟨Nat.le_succ _, fun b hb => if_neg (by omega), fun b hb _ => by rw [M.g_new, if_neg (by omega)], fun _ _ _ => rfl, .refl f, rfl⟩⟩
theorem St.blk {F : Fm} {f0 f m m' : M} (s : St F f0 f m) {n : Nat} {vs : List C} (h : m' = m.new (.cells n vs false)) (τ : Nat → Nat) (t : Nat) : ∃ τ', St F f0 f m' ∧ Kp τ f m τ' f m' [] ∧ Lb F f τ' m' t m.nxt n vs := by
  obtain ⟨h1, h2⟩ := s.new h τ t
  exact ⟨_, h1, h2, ⟨(Bk.new h).1, .inl s.ext.nxt, s.fz _ s.sub.nxt, if_pos rfl⟩⟩
/-- a call, that hands back plain values -/
theorem St.call {F : Fm} {f0 f m m' : M} (s : St F f0 f m) (e : Ext m m') (τ : Nat → Nat) : St F f0 f m' ∧ Kp τ f m τ f m' [] :=
  ⟨⟨s.ext.trans e, s.sub.trans (.of_ext e), s.fz, s.fv, s.v0, s.fs, s.old⟩, ⟨e.nxt, fun _ _ => rfl, fun b hb _ => e.g b hb, fun _ _ _ => rfl, .refl f, e.vw⟩⟩
/-- a call, that hands back what lies in memory -/
theorem St.callG {F : Fm} {f0 f m m' f' : M} (s : St F f0 f m) (g : Grw m f m' f') (τ : Nat → Nat) : St F f0 f' m' ∧ Kp τ f m τ f' m' [] :=
  ⟨⟨s.ext.trans g.ext, g.pre.sub, g.pre.fz, g.pre.fv, fun b hb => by rw [g.fsub.vw]; exact s.v0 b hb, s.fs.trans g.fsub, fun b hb hB => (g.old b (Nat.lt_of_lt_of_le hb s.ext.nxt)).trans (s.old b hb hB)⟩, ⟨g.ext.nxt, fun _ _ => rfl, fun b hb _ => g.ext.g b hb, fun b hb _ => g.old b hb, g.fsub, g.ext.vw⟩⟩
theorem not_frozen {f m m' : M} (hs : Sub f m) (hn : m.nxt ≤ m'.nxt) (hv : m'.vw = m.vw) {X : Nat → Prop} (hX : ∀ b, X b → f.g b = none ∧ f.vw b = none) (hg : ∀ b', b' < m.nxt → ¬ X b' → m'.g b' = m.g b') : Sub f m' := by
  refine ⟨Nat.le_trans hs.nxt hn, hv.trans hs.vw, fun b' hb' hd => ?_⟩
  rw [hg b' (Nat.lt_of_lt_of_le hb' hs.nxt) fun h => hd.elim (fun h2 => h2 (hX _ h).1) fun h2 => h2 (hX _ h).2]
  exact hs.g b' hb' hd
/-- blocks of one's own have changed -/
theorem St.chg {F : Fm} {f0 f m m' : M} (s : St F f0 f m) {X : Nat → Prop} (hX : ∀ b, X b → (F.m.nxt ≤ b ∨ F.B b) ∧ f.g b = none) (hn : m.nxt ≤ m'.nxt) (hv : m'.vw = m.vw) (hg : ∀ b', b' < m.nxt → ¬ X b' → m'.g b' = m.g b') : St F f0 f m' :=
  ⟨⟨Nat.le_trans s.ext.nxt hn, fun b hb hB => (hg b (Nat.lt_of_lt_of_le hb s.ext.nxt) fun h => (hX b h).1.elim (fun h => by omega) hB).trans (s.ext.g b hb hB), hv.trans s.ext.vw⟩,
    not_frozen s.sub hn hv (fun b h => ⟨(hX b h).2, s.v0 b (hX b h).1⟩) hg, s.fz, s.fv, s.v0, s.fs, s.old⟩
/-- a store into a block of one's own -/
theorem St.st1 {F : Fm} {f0 f m m' : M} (s : St F f0 f m) {τ : Nat → Nat} {t b n : Nat} {vs ws : List C} (h : Lb F f τ m t b n vs) (hb : Bk m' b n ws) (h1 : St1 m m' b) : St F f0 f m' ∧ Kp τ f m τ f m' [t] ∧ Lb F f τ m' t b n ws :=
  ⟨s.chg (X := fun b' => b' = b) (fun b' h' => by subst h'; exact ⟨h.new, h.nf⟩) (by rw [h1.nxt]; exact Nat.le_refl _) h1.vw fun b' _ hne => h1.g b' hne,
    ⟨by rw [h1.nxt]; exact Nat.le_refl _, fun _ _ => rfl, fun b' _ hx => h1.g b' fun he => hx (by rw [he, h.tg]; exact List.mem_cons_self ..), fun _ _ _ => rfl, .refl f, h1.vw⟩, ⟨hb, h.new, h.nf, h.tg⟩⟩
theorem Lb.sto {F : Fm} {f0 f m : M} {τ : Nat → Nat} {t b n : Nat} {vs : List C} (h : Lb F f τ m t b n vs) (s : St F f0 f m) (ws : List C) : ∃ m', stC m (.ptr b 0) n ws = some m' ∧ St F f0 f m' ∧ Kp τ f m τ f m' [t] ∧ Lb F f τ m' t b n ws := by
  obtain ⟨m', h1, h2, h3⟩ := h.bk.sto ws
  exact ⟨m', h1, s.st1 h h2 h3⟩
theorem Lb.sto1 {F : Fm} {f0 f m : M} {τ : Nat → Nat} {t b n : Nat} {vs : List C} (h : Lb F f τ m t b n vs) (s : St F f0 f m) (k : Nat) (c : C) (hk : k < vs.length) (hn : vs.length = n) : ∃ m', stC m (.ptr b k) 1 [c] = some m' ∧ St F f0 f m' ∧ Kp τ f m τ f m' [t] ∧ Lb F f τ m' t b n (vs.set k c) := by
  obtain ⟨m', h1, h2, h3⟩ := h.bk.sto1 k c hk hn
  exact ⟨m', h1, s.st1 h h2 h3⟩
structure Ow (F : Fm) (f : M) (τ : Nat → Nat) (m : M) (t : Nat) (x : C) (l : List α) : Prop where
  own : ∃ vs, Own1 m (Rp.k α) x vs l.length ∧ Cat f vs l
  nw : ∀ b o n s d, x = .sl b o n s d → (F.m.nxt ≤ b ∨ F.B b) ∧ f.g b = none ∧ τ b = t
theorem Ow.nil (F : Fm) (f : M) (τ : Nat → Nat) (m : M) (t : Nat) : Ow F f τ m t .sl0 ([] : List α) := ⟨⟨[], Own1.nil' m _, rfl⟩, fun _ _ _ _ _ h => by cases h⟩
theorem Ow.lt {F : Fm} {f m : M} {τ : Nat → Nat} {t : Nat} {x : C} {l : List α} (h : Ow F f τ m t x l) {b o n s : Nat} {d : Option Nat} (hx : x = .sl b o n s d) : b < m.nxt := h.own.elim fun _ h => h.1.lt hx
theorem Ow.k {F : Fm} {f f' m m' : M} {τ τ' : Nat → Nat} {t : Nat} {x : C} {l : List α} {X : List Nat} (h : Ow F f τ m t x l) (k : Kp τ f m τ' f' m' X) (hx : t ∉ X) : Ow F f' τ' m' t x l := by
  have hx' : ∀ b o n s d, x = .sl b o n s d → τ b ∉ X := fun b o n s d he => by rw [(h.nw b o n s d he).2.2]; exact hx
  obtain ⟨vs, h1, h2⟩ := h.own
  refine ⟨⟨vs, h1.to k.nxt fun b hb he => ?_, h2.sub k.fs⟩, fun b o n s d he => ?_⟩
  · obtain ⟨s, d, he⟩ := he
    exact k.g b hb (hx' _ _ _ _ _ he)
  · obtain ⟨q1, q2, q3⟩ := h.nw b o n s d he
    have hlt := h.lt he
    exact ⟨q1, (k.fg b hlt (hx' _ _ _ _ _ he)).trans q2, (k.tg b hlt).trans q3⟩
theorem slB_sl {x : C} {b : Nat} (h : slB x = some b) : ∃ o n s, x = .sl b o n s none := by
  cases x with
  | sl b' o n s d =>
    cases d with
    | none => have h : some b' = some b := h; cases h; exact ⟨o, n, s, rfl⟩
    | some d => cases h
  | _ => cases h
/-- append of elements that lie in memory -/
theorem Ow.appS {T el : Nat} (ht : tk P T = .sl el) (hgr : growOk P el = true) (hk : P.cellsOf el = Rp.k α) {F : Fm} {f0 f m m1 : M} (s : St F f0 f m) {τ : Nat → Nat} {t : Nat} {x y : C} {l l2 : List α} (h : Ow F f τ m t x l) (e : Ext m m1) {ws : List C} (hy : Ls m1 (Rp.k α) y ws l2.length) (hc : Cat f ws l2) (hj : 0 < l2.length) (hlen : l.length + l2.length ≤ 1048576) :
    ∃ c m2 τ', ApR P T m1 x y c m2 ∧ St F f0 f m2 ∧ Kp τ f m τ' f m2 [t] ∧ Ow F f τ' m2 t c (l ++ l2) := by
  obtain ⟨vs, h1, h2⟩ := h.own
  obtain ⟨m2, q1, q2, q3, q4, q5⟩ := ap_own ht hgr hk (h1.ext e) hy hj Rp.pos hlen
  have hg : ∀ b, b < m.nxt → slB x ≠ some b → m2.g b = m.g b := fun b hb hx => by
    have := e.nxt
    rw [q5 b (by omega) hx]; exact e.g b hb
  have hn : m.nxt ≤ m2.nxt := by have := e.nxt; omega
  refine ⟨_, m2, tagAt τ m1.nxt t, q1, s.chg (X := fun b => slB x = some b) (fun b hb => ?_) hn (q4.trans e.vw) hg, ⟨hn, fun b hb => if_neg (by have := e.nxt; omega), fun b hb hx => hg b hb fun he => ?_, fun _ _ _ => rfl, .refl f, q4.trans e.vw⟩, ⟨⟨_, by rw [List.length_append]; exact q2, h2.app hc⟩, fun b o n s' d he => ?_⟩⟩
  · obtain ⟨o, n, s', he⟩ := slB_sl hb
    exact ⟨(h.nw _ _ _ _ _ he).1, (h.nw _ _ _ _ _ he).2.1⟩
  · obtain ⟨o, n, s', he⟩ := slB_sl he
    exact hx (by rw [(h.nw _ _ _ _ _ he).2.2]; exact List.mem_cons_self ..)
  · cases he
    have h9 : m.nxt ≤ m1.nxt := e.nxt
    exact ⟨.inl (Nat.le_trans s.ext.nxt h9), s.fz _ (Nat.le_trans s.sub.nxt h9), if_pos rfl⟩
/-- append of one element -/
theorem Ow.app {T el : Nat} (ht : tk P T = .sl el) (hgr : growOk P el = true) (hk : P.cellsOf el = Rp.k α) {F : Fm} {f0 f m m1 : M} (s : St F f0 f m) {τ : Nat → Nat} {t : Nat} {x : C} {l : List α} (h : Ow F f τ m t x l) {cs : List C} {a : α} (hr : Rp.rep f cs a) (hlen : l.length < 1048576) (e : m1 = m.new (.cells (Rp.k α) cs false)) :
    ∃ c m2 τ', ApR P T m1 x (.sl m.nxt 0 1 0 (some 1)) c m2 ∧ St F f0 f m2 ∧ Kp τ f m τ' f m2 [t] ∧ Ow F f τ' m2 t c (l ++ [a]) := by
  obtain ⟨b1, x1⟩ := Bk.new e
  exact h.appS (P := P) ht hgr hk s x1 (Ls.one b1.g (Rp.len hr) b1.lt 0 (some 1)) (Cat.one hr) (by simp) (by show l.length + 1 ≤ _; omega)
/-- from now on it stays as it is -/
theorem Ow.freeze {F : Fm} {f0 f m : M} (s : St F f0 f m) {τ : Nat → Nat} {t : Nat} {x : C} {l : List α} (h : Ow F f τ m t x l) : ∃ f', St F f0 f' m ∧ Kp τ f m τ f' m [t] ∧ Sl f' x l := by
  obtain ⟨vs, h1, h2⟩ := h.own
  have hq : ∀ {b n k : Nat} {c : Option Nat} {op : Bool}, x = .sl b 0 n k c → m.g b = some (.cells (n * Rp.k α) vs op) → b < m.nxt → n = l.length → slOk x (Rp.k α) l.length → ∃ f', St F f0 f' m ∧ Kp τ f m τ f' m [t] ∧ Sl f' x l := by
    intro b n k c op hx hg hb hnl hok
    obtain ⟨w1, w2, w3⟩ := h.nw _ _ _ _ _ hx
    let f' : M := { nxt := m.nxt, g := fun j => if j = b then m.g b else f.g j, vw := f.vw }
    have hf' : ∀ j, j ≠ b → f'.g j = f.g j := fun j hj => if_neg hj
    have hfb : f'.g b = m.g b := if_pos rfl
    have hsub : Sub f f' := ⟨s.sub.nxt, rfl, fun j hj hd => hf' j fun he => by
      subst he
      exact hd.elim (fun h => h w2) fun h => h (s.v0 _ w1)⟩
    refine ⟨f', ⟨s.ext, ⟨Nat.le_refl _, s.sub.vw, fun j hj hd => ?_⟩, fun j hj => ?_, fun j hj => ?_, s.v0, s.fs.trans hsub, fun j hj hB => (hf' j fun he => by subst he; exact w1.elim (fun h => by omega) hB).trans (s.old j hj hB)⟩, ⟨Nat.le_refl _, fun _ _ => rfl, fun _ _ _ => rfl, fun j hj hx => hf' j fun he => hx (by rw [he, w3]; exact List.mem_cons_self ..), hsub, rfl⟩, vs, ⟨h1.len, .inr ⟨b, 0, k, c, by rw [hx, hnl], hb, fun _ => .inl ⟨_, vs, op, hfb.trans hg, ?_, ?_, ?_⟩⟩⟩, h2.sub hsub, hok⟩
    · by_cases he : j = b
      · rw [he, hfb]
      · rw [hf' j he] at hd ⊢
        by_cases hjf : j < f.nxt
        · exact s.sub.g j hjf hd
        · exact (hd.elim (fun h => h (s.fz j (by omega))) fun h => h (s.fv j (by omega))).elim
    · have h9 : m.nxt ≤ j := hj
      rw [hf' j (by omega)]
      exact s.fz j (Nat.le_trans s.sub.nxt h9)
    · have h9 : m.nxt ≤ j := hj
      exact s.fv j (Nat.le_trans s.sub.nxt h9)
    · have := h1.len; rw [hnl]; omega
    · have := h1.len; rw [hnl]; omega
    · rw [List.drop_zero, List.take_of_length_le (Nat.le_refl _)]
  cases h1.own with
  | nil h3 h4 =>
    have : l = [] := List.eq_nil_of_length_eq_zero h3
    subst this
    exact ⟨f, s, ⟨Nat.le_refl _, fun _ _ => rfl, fun _ _ _ => rfl, fun _ _ _ => rfl, .refl f, rfl⟩, Sl.nil f⟩
  | grown b hg hb => exact hq rfl hg hb rfl (.inr (.inr ⟨b, 0, rfl⟩))
  | lit b hg hb => exact hq rfl hg hb rfl (.inr (.inl ⟨b, 0, 0, _, rfl, Nat.le_refl _⟩))
theorem Sl.rd1 {f : M} {x : C} {l : List α} (h : Sl f x l) (hk : Rp.k α = 1) {n : Nat} {a : α} (hi : l[n]? = some a) :
    ∃ c, (∀ m, Sub f m → ldC m (slAt x (n * 1)) = some c) ∧ Rp.rep f [c] a := by
  obtain ⟨vs, h4, h5, h5k⟩ := h
  obtain ⟨h6, h7⟩ := h5.at hi
  rw [hk] at h6 h7
  have hl : n * 1 < vs.length := by omega
  have hd : (vs.drop (n * 1)).take 1 = [vs[n * 1]] := by rw [List.drop_eq_getElem_cons hl]; rfl
  rw [hd] at h7
  exact ⟨_, fun m s => (h4.sub s).rd (List.getElem?_eq_getElem hl), h7⟩
theorem Sl.rdI {f : M} {x : C} {l : List Int} (h : Sl f x l) {n : Nat} {a : Int} (hi : l[n]? = some a) {m : M} (s : Sub f m) : ldC m (slAt x (n * 1)) = some (.int .i64 a) := by
  obtain ⟨c, h3, h4⟩ := h.rd1 rfl hi
  have h4 : [c] = [.int .i64 a] := h4
  cases h4
  exact h3 m s
theorem Sl.rdS {f : M} {x : C} {l : List (List α)} (h : Sl f x l) {n : Nat} {a : List α} (hi : l[n]? = some a) : ∃ c, (∀ m, Sub f m → ldC m (slAt x (n * 1)) = some c) ∧ Sl f c a := by
  obtain ⟨c, h3, c', h4, h5⟩ := h.rd1 rfl hi
  cases h4
  exact ⟨c, h3, h5⟩
theorem Sl.isPt {f : M} {x : C} {l : List α} (h : Sl f x l) {n : Nat} {a : α} (hi : l[n]? = some a) (i : Nat) : isPt (slAt x i) := by
  obtain ⟨vs, h4, h5, h5k⟩ := h
  exact h4.isPt (by have := (List.getElem?_eq_some_iff.1 hi).1; omega) i
theorem Sl.rdP {f : M} {x : C} {l : List α} (h : Sl f x l) {n : Nat} {a : α} (hi : l[n]? = some a) : ∃ cs, (∀ m, Sub f m → ldA m (slAt x (n * Rp.k α)) (Rp.k α) = some cs ∧ (∀ j c, cs[j]? = some c → ldC m (ptAdd (slAt x (n * Rp.k α)) j) = some c) ∧ ∀ j i, 0 < i → j + i ≤ Rp.k α → ldA m (ptAdd (slAt x (n * Rp.k α)) j) i = some ((cs.drop j).take i)) ∧ Rp.rep f cs a := by
  obtain ⟨vs, h4, h5, h5k⟩ := h
  obtain ⟨h6, h7⟩ := h5.at hi
  have hn : l.length ≠ 0 := by have := (List.getElem?_eq_some_iff.1 hi).1; omega
  refine ⟨_, fun m s => ⟨(h4.sub s).rds Rp.pos h6, fun j c hj => ?_, fun j i hi0 hji => ?_⟩, h7⟩
  · rw [h4.add hn]
    refine (h4.sub s).rd ?_
    rw [List.getElem?_take] at hj
    split at hj
    · rw [List.getElem?_drop] at hj; exact hj
    · cases hj
  · rw [h4.add hn, (h4.sub s).rds hi0 (by omega), ← List.drop_drop, List.drop_take, List.take_take, Nat.min_eq_left (by omega)]
theorem bsome {α β : Type} {o : Option α} {k : α → Option β} {r : β} (h : o.bind k = some r) : ∃ a, o = some a ∧ k a = some r := by
  cases o with
  | none => cases h
  | some a => exact ⟨a, rfl, h⟩
open Classical in
def gd {α : Type} (p : Prop) (x : Option α) : Option α := if p then x else none
theorem gd_some {α : Type} {p : Prop} {x : Option α} {r : α} (h : gd p x = some r) : p ∧ x = some r := by
  unfold gd at h
  by_cases hp : p
  · rw [if_pos hp] at h; exact ⟨hp, h⟩
  · rw [if_neg hp] at h; cases h
theorem gd_pos {α : Type} {p : Prop} {x : Option α} (h : p) : gd p x = x := if_pos h
/-- a slice type, for append -/
def TA (P : Program) (t k : Nat) : Prop := ∃ el, tk P t = .sl el ∧ growOk P el = true ∧ P.cellsOf el = k
theorem Ow.app' {T : Nat} (ht : TA P T (Rp.k α)) {F : Fm} {f0 f m m1 : M} (s : St F f0 f m) {τ : Nat → Nat} {t : Nat} {x : C} {l : List α} (h : Ow F f τ m t x l) {cs : List C} {a : α} (hr : Rp.rep f cs a) (hlen : l.length < 1048576) (e : m1 = m.new (.cells (Rp.k α) cs false)) :
    ∃ c m2 τ', ApR P T m1 x (.sl m.nxt 0 1 0 (some 1)) c m2 ∧ St F f0 f m2 ∧ Kp τ f m τ' f m2 [t] ∧ Ow F f τ' m2 t c (l ++ [a]) := by
  obtain ⟨el, h1, h2, h3⟩ := ht
  exact h.app (P := P) h1 h2 h3 s hr hlen e
theorem Kp.old {τ τ' : Nat → Nat} {f f' m m' g : M} {X : List Nat} (k : Kp τ f m τ' f' m' X) : Kp τ g m τ' g m' X := ⟨k.nxt, k.tg, k.g, fun _ _ _ => rfl, .refl g, k.vw⟩
theorem Ow.lit0 {F : Fm} {f0 f m m1 : M} (s : St F f0 f m) (τ : Nat → Nat) (t : Nat) (e : m1 = m.new (.cells 0 [] false)) : ∃ τ', St F f0 f m1 ∧ Kp τ f m τ' f m1 [] ∧ Ow F f τ' m1 t (.sl m.nxt 0 0 0 (some 0)) ([] : List α) := by
  obtain ⟨τ', h1, h2, h3⟩ := s.blk e τ t
  refine ⟨τ', h1, h2, ⟨[], ⟨by simp, .lit _ ?_ h3.bk.lt⟩, rfl⟩, fun b o n s d he => by cases he; exact ⟨h3.new, h3.nf, h3.tg⟩⟩
  have := h3.bk.g
  show m1.g m.nxt = some (.cells (0 * Rp.k α) [] false)
  rw [Nat.zero_mul]; exact this
theorem Ow.appL {T : Nat} (ht : TA P T (Rp.k α)) {F : Fm} {f0 f m : M} (s : St F f0 f m) {τ : Nat → Nat} {t : Nat} {x y : C} {l l2 : List α} (h : Ow F f τ m t x l) (hy : Sl f y l2) (hlen : l.length + l2.length ≤ 1048576) :
    ∃ c m2 τ', ApR P T m x y c m2 ∧ St F f0 f m2 ∧ Kp τ f m τ' f m2 [t] ∧ Ow F f τ' m2 t c (l ++ l2) := by
  obtain ⟨el, h1, h2, h3⟩ := ht
  obtain ⟨ws, q1, q2, _⟩ := hy
  by_cases hj : 0 < l2.length
  · exact h.appS (P := P) h1 h2 h3 s (.refl m) (q1.sub s.sub) q2 hj hlen
  · have hl2 : l2 = [] := List.eq_nil_of_length_eq_zero (by omega)
    subst hl2
    have hw : ws = [] := q2
    subst hw
    obtain ⟨vs, o1, o2⟩ := h.own
    refine ⟨x, m, τ, ap_none h1 h2 h3 o1 (q1.sub s.sub), s, ⟨Nat.le_refl _, fun _ _ => rfl, fun _ _ _ => rfl, fun _ _ _ => rfl, .refl f, rfl⟩, by rw [List.append_nil]; exact h⟩
theorem nf_cons {c : C} {l : List C} (h : noFnC c = true) (h2 : allS noFnC l = true) : allS noFnC (c :: l) = true := by
  show ifB (noFnC c) (allS noFnC l) false = true
  rw [h, h2]; rfl
theorem nf_nil : allS noFnC ([] : List C) = true := rfl
theorem cC0_ok {c : C} (h : noFnC c = true) : ∃ x, cC0 c = some x ∧ c0C x = c := by
  cases c with
  | fn f a b => cases h
  | ptr0 => exact ⟨_, rfl, rfl⟩
  | sl b o n s c => exact ⟨_, rfl, rfl⟩
  | map r => exact ⟨_, rfl, rfl⟩
  | ptr b o => exact ⟨_, rfl, rfl⟩
  | _ => first | exact ⟨_, rfl, rfl⟩ | cases h
theorem cC0s_ok : ∀ {l : List C}, allS noFnC l = true → ∃ xs, mapO cC0 l = some xs ∧ mapS c0C xs = l
  | [], _ => ⟨[], rfl, rfl⟩
  | c :: l, h => by
    have h : ifB (noFnC c) (allS noFnC l) false = true := h
    cases hc : noFnC c with
    | false => rw [hc] at h; cases h
    | true =>
      rw [hc] at h
      obtain ⟨x, h1, h2⟩ := cC0_ok hc
      obtain ⟨xs, h3, h4⟩ := cC0s_ok h
      refine ⟨x :: xs, ?_, ?_⟩
      · show optB (cC0 c) none (fun y => optB (mapO cC0 l) none fun ys => some (y :: ys)) = _
        rw [h1, h3]; rfl
      · show c0C x :: mapS c0C xs = _
        rw [h2, h4]
theorem vW_c {c : C} (h : noFnC c = true) : ∃ w, vW (.c c) = some w ∧ wV w = .c c := by
  obtain ⟨x, h1, h2⟩ := cC0_ok h
  refine ⟨.c x, ?_, ?_⟩
  · show optB (cC0 c) none (fun x => some (W.c x)) = _
    rw [h1]; rfl
  · show V.c (c0C x) = _
    rw [h2]
theorem vW_agg {n : Nat} {l : List C} (h : allS noFnC l = true) : ∃ w, vW (.agg n l) = some w ∧ wV w = .agg n l := by
  obtain ⟨xs, h1, h2⟩ := cC0s_ok h
  refine ⟨.agg n xs, ?_, ?_⟩
  · show optB (mapO cC0 l) none (fun xs => some (W.agg n xs)) = _
    rw [h1]; rfl
  · show V.agg n (mapS c0C xs) = _
    rw [h2]
theorem vWs_nil : ∃ ws, mapO vW [] = some ws ∧ mapS wV ws = [] := ⟨[], rfl, rfl⟩
theorem vWs_cons {v : V} {l : List V} (h : ∃ w, vW v = some w ∧ wV w = v) (h2 : ∃ ws, mapO vW l = some ws ∧ mapS wV ws = l) : ∃ ws, mapO vW (v :: l) = some ws ∧ mapS wV ws = v :: l := by
  obtain ⟨w, h3, h4⟩ := h
  obtain ⟨ws, h5, h6⟩ := h2
  refine ⟨w :: ws, ?_, ?_⟩
  · show optB (vW v) none (fun y => optB (mapO vW l) none fun ys => some (y :: ys)) = _
    rw [h3, h5]; rfl
  · show wV w :: mapS wV ws = _
    rw [h4, h6]
theorem Bk.sub {f m : M} {b n : Nat} {vs : List C} (h : Bk f b n vs) (s : Sub f m) : Bk m b n vs :=
  ⟨(s.g b h.lt (.inl (by rw [h.g]; exact Option.some_ne_none _))).trans h.g, Nat.lt_of_lt_of_le h.lt s.nxt⟩
/-- a block that is left as it is from now on -/
theorem Lb.freeze {F : Fm} {f0 f m : M} {τ : Nat → Nat} {t b n : Nat} {vs : List C} (h : Lb F f τ m t b n vs) (s : St F f0 f m) : ∃ f', St F f0 f' m ∧ Kp τ f m τ f' m [t] ∧ Bk f' b n vs := by
  let f' : M := { nxt := m.nxt, g := fun j => if j = b then m.g b else f.g j, vw := f.vw }
  have hf' : ∀ j, j ≠ b → f'.g j = f.g j := fun j hj => if_neg hj
  have hfb : f'.g b = m.g b := if_pos rfl
  have hsub : Sub f f' := ⟨s.sub.nxt, rfl, fun j hj hd => hf' j fun he => by
    subst he
    exact hd.elim (fun h' => h' h.nf) fun h' => h' (s.v0 _ h.new)⟩
  have hbm := h.bk.lt
  have hnew := h.new
  refine ⟨f', ⟨s.ext, ⟨Nat.le_refl _, s.sub.vw, fun j hj hd => ?_⟩, fun j hj => ?_, fun j hj => ?_, s.v0, s.fs.trans hsub, fun j hj hB => (hf' j fun he => by subst he; exact hnew.elim (fun h => by omega) hB).trans (s.old j hj hB)⟩, ⟨Nat.le_refl _, fun _ _ => rfl, fun _ _ _ => rfl, fun j hj hx => hf' j fun he => hx (by rw [he, h.tg]; exact List.mem_cons_self ..), hsub, rfl⟩, hfb.trans h.bk.g, hbm⟩
  · by_cases he : j = b
    · rw [he, hfb]
    · rw [hf' j he] at hd ⊢
      by_cases hjf : j < f.nxt
      · exact s.sub.g j hjf hd
      · exact (hd.elim (fun h => h (s.fz j (by omega))) fun h => h (s.fv j (by omega))).elim
  · have h9 : m.nxt ≤ j := hj
    rw [hf' j (by omega)]
    exact s.fz j (Nat.le_trans s.sub.nxt h9)
  · have h9 : m.nxt ≤ j := hj
    exact s.fv j (Nat.le_trans s.sub.nxt h9)
theorem Bk.sl {f : M} {b N n : Nat} {vs : List C} {l : List α} (h : Bk f b N vs) (hc : Cat f vs l) (hn : l.length = n) (hN : vs.length = N) (k : Nat) : Sl f (.sl b 0 n k (some n)) l := by
  have h3 := hc.len
  refine ⟨vs, ⟨h3, .inr ⟨b, 0, k, some n, by rw [hn], h.lt, fun _ => .inl ⟨N, vs, false, h.g, hN, by omega, by rw [List.drop_zero, List.take_of_length_le (Nat.le_refl _)]⟩⟩⟩, hc, .inr (.inl ⟨b, 0, k, n, by rw [hn], by omega⟩)⟩
/-- a block to be made -/
structure Rs (F : Fm) (f : M) (τ : Nat → Nat) (m : M) (t b : Nat) : Prop where
  new : F.m.nxt ≤ b ∨ F.B b
  nf : f.g b = none
  tg : τ b = t
  lt : b < m.nxt
theorem Rs.k {F : Fm} {f f' m m' : M} {τ τ' : Nat → Nat} {t b : Nat} {X : List Nat} (h : Rs F f τ m t b) (k : Kp τ f m τ' f' m' X) (hx : t ∉ X) : Rs F f' τ' m' t b := by
  have hx : τ b ∉ X := by rw [h.tg]; exact hx
  exact ⟨h.new, (k.fg b h.lt hx).trans h.nf, (k.tg b h.lt).trans h.tg, Nat.lt_of_lt_of_le h.lt k.nxt⟩
theorem St.grow {F : Fm} {f0 f m m' : M} (s : St F f0 f m) {k : Nat} (h : m' = mGrow m k) (τ : Nat → Nat) : St F f0 f m' ∧ Kp τ f m τ f m' [] := by
  subst h
  have hn : m.nxt ≤ (mGrow m k).nxt := Nat.le_add_right _ _
  exact ⟨s.chg (X := fun _ => False) (fun _ h => h.elim) hn rfl fun _ _ _ => rfl, ⟨hn, fun _ _ => rfl, fun _ _ _ => rfl, fun _ _ _ => rfl, .refl f, rfl⟩⟩
theorem Rs.set {F : Fm} {f0 f m m' : M} {τ : Nat → Nat} {t b n : Nat} {vs : List C} (h : Rs F f τ m t b) (s : St F f0 f m) (e : m' = m.set b (.cells n vs false)) : St F f0 f m' ∧ Kp τ f m τ f m' [t] ∧ Lb F f τ m' t b n vs := by
  have h1 : St1 m m' b := .of_set e
  refine ⟨s.chg (X := fun b' => b' = b) (fun b' h' => by subst h'; exact ⟨h.new, h.nf⟩) (by rw [h1.nxt]; exact Nat.le_refl _) h1.vw fun b' _ hne => h1.g b' hne,
    ⟨by rw [h1.nxt]; exact Nat.le_refl _, fun _ _ => rfl, fun b' _ hx => h1.g b' fun he => hx (by rw [he, h.tg]; exact List.mem_cons_self ..), fun _ _ _ => rfl, .refl f, h1.vw⟩, ⟨⟨?_, by rw [h1.nxt]; exact h.lt⟩, h.new, h.nf, h.tg⟩⟩
  rw [e, M.g_set, if_pos rfl]
theorem St.growK {F : Fm} {f0 f m m' : M} (s : St F f0 f m) {k : Nat} (h : m' = mGrow m k) (τ : Nat → Nat) (t : Nat) : ∃ τ', St F f0 f m' ∧ Kp τ f m τ' f m' [] ∧ ∀ i, i < k → Rs F f τ' m' (t + i) (m.nxt + i) := by
  obtain ⟨h1, h2⟩ := s.grow h τ
  refine ⟨fun b => if m.nxt ≤ b then t + (b - m.nxt) else τ b, h1, ⟨h2.nxt, fun b hb => if_neg (by omega), h2.g, h2.fg, h2.fs, h2.vw⟩, fun i hi => ⟨.inl (Nat.le_trans s.ext.nxt (Nat.le_add_right _ _)), s.fz _ (Nat.le_trans s.sub.nxt (Nat.le_add_right _ _)), ?_, ?_⟩⟩
  · show (if m.nxt ≤ m.nxt + i then t + (m.nxt + i - m.nxt) else _) = _
    rw [if_pos (by omega)]; omega
  · subst h
    show m.nxt + i < m.nxt + k
    omega
theorem Seg.part {m : M} {b o : Nat} {vs : List C} (h : Seg m b o vs) {a l : Nat} (hal : a + l ≤ vs.length) : Seg m b (o + a) ((vs.drop a).take l) := by
  have hlen : ((vs.drop a).take l).length = l := by rw [List.length_take, List.length_drop]; omega
  have key : ∀ (w : List C) (p n : Nat), a + l ≤ n → (((w.drop p).take n).drop a).take l = (w.drop (p + a)).take l := fun w p n hn => by rw [List.drop_take, List.take_take, List.drop_drop, Nat.min_eq_left (by omega)]
  have hsub : ∀ (w : List C) (p : Nat), (w.drop p).take vs.length = vs → (w.drop (p + a)).take l = (vs.drop a).take l := fun w p hw => by
    have := key w p vs.length hal
    rw [hw] at this
    exact this.symm
  rcases h with ⟨n, ws, op, h1, h2, h3, h4⟩ | ⟨h1, q, h2, h3, h4, h5⟩
  · exact .inl ⟨n, ws, op, h1, h2, by rw [hlen]; omega, by rw [hlen]; exact hsub ws o h4⟩
  · refine .inr ⟨h1, q, h2, by omega, by rw [hlen]; omega, ?_⟩
    rw [hlen, show o + a - q.1 = (o - q.1) + a by omega]
    exact hsub q.2 _ h5
theorem Cat.part {f : M} : ∀ {l : List α} {vs : List C}, Cat f vs l → ∀ (i : Nat), Cat f (vs.drop (i * Rp.k α)) (l.drop i) ∧ Cat f (vs.take (i * Rp.k α)) (l.take i)
  | [], _, h, i => by have h : _ = [] := h; rw [h]; simp [Cat]
  | a :: l, _, h, 0 => by rw [Nat.zero_mul, List.drop_zero, List.take_zero, List.drop_zero, List.take_zero]; exact ⟨h, rfl⟩
  | a :: l, _, ⟨c, r, h1, h2, h3⟩, i + 1 => by
    have hl := Rp.len h2
    obtain ⟨q1, q2⟩ := Cat.part h3 i
    rw [h1, Nat.add_mul, Nat.one_mul, show i * Rp.k α + Rp.k α = c.length + i * Rp.k α by omega, ← List.drop_drop, List.drop_left' rfl, List.take_length_add_append]
    exact ⟨q1, c, _, rfl, h2, q2⟩
theorem Sl.subC {f : M} {x : C} {l : List α} (h : Sl f x l) {i j : Nat} (hij : i ≤ j) (hj : j ≤ l.length) : ∃ c, Go.Abs.subC (Rp.k α) x i j = some c ∧ Sl f c ((l.take j).drop i) := by
  obtain ⟨vs, h4, h5, h6⟩ := h
  have hl := h4.len
  have hk := Rp.pos (α := α)
  have e1 : i * Rp.k α + (j - i) * Rp.k α = j * Rp.k α := by rw [← Nat.add_mul]; congr 1; omega
  have e2 : j * Rp.k α ≤ l.length * Rp.k α := Nat.mul_le_mul_right _ hj
  have hcat : Cat f ((vs.drop (i * Rp.k α)).take ((j - i) * Rp.k α)) ((l.take j).drop i) := by
    have q := ((h5.part j).2.part i).1
    rw [List.drop_take] at q
    rwa [show j * Rp.k α - i * Rp.k α = (j - i) * Rp.k α by omega] at q
  have hlen : ((l.take j).drop i).length = j - i := by rw [List.length_drop, List.length_take]; omega
  have hvl : (j - i) * Rp.k α = ((vs.drop (i * Rp.k α)).take ((j - i) * Rp.k α)).length := by rw [List.length_take, List.length_drop]; omega
  have mk : ∀ b o' s' c', b < f.nxt → (j - i ≠ 0 → Seg f b o' ((vs.drop (i * Rp.k α)).take ((j - i) * Rp.k α))) → slOk (.sl b o' (j - i) s' c') (Rp.k α) (j - i) → Sl f (.sl b o' (j - i) s' c') ((l.take j).drop i) := fun b o' s' c' hb hs hok =>
    ⟨_, ⟨by rw [hlen]; exact hvl, .inr ⟨b, o', s', c', by rw [hlen], hb, fun h0 => hs (by rw [hlen] at h0; exact h0)⟩⟩, hcat, by rw [hlen]; exact hok⟩
  rcases h6 with ⟨rfl, h0⟩ | ⟨b, o, s, c, rfl, hc⟩ | ⟨b, o, rfl⟩
  · have : j = 0 := by omega
    have : i = 0 := by omega
    subst_vars
    exact ⟨.sl0, rfl, by simpa using Sl.nil f⟩
  · obtain ⟨hb, hseg⟩ : b < f.nxt ∧ (l.length ≠ 0 → Seg f b o vs) := by
      rcases h4.val with ⟨h0, _⟩ | ⟨b', o', s', c', h0, h3, h4⟩
      · cases h0
      · cases h0; exact ⟨h3, h4⟩
    refine ⟨.sl b (ifB (Nat.beq c i) o (Nat.add o (Nat.mul i (Rp.k α)))) (Nat.sub j i) 0 (some (Nat.sub c i)), ?_, ?_⟩
    · show ifB (Nat.ble i j) (ifB (Nat.ble j c) _ none) none = _
      rw [Nat.ble_eq_true_of_le hij, Nat.ble_eq_true_of_le (show j ≤ c by omega)]; rfl
    · refine mk _ _ _ _ hb (fun hne => ?_) (.inr (.inl ⟨_, _, _, _, rfl, by show j - i ≤ c - i; omega⟩))
      have hci : Nat.beq c i = false := by
        cases hq : Nat.beq c i with
        | true => have := Nat.eq_of_beq_eq_true hq; omega
        | false => rfl
      rw [hci]
      exact (hseg (by omega)).part (Nat.le_trans (Nat.le_of_eq e1) (Nat.le_trans e2 (Nat.le_of_eq hl)))
  · obtain ⟨hb, hseg⟩ : b < f.nxt ∧ (l.length ≠ 0 → Seg f b o vs) := by
      rcases h4.val with ⟨h0, _⟩ | ⟨b', o', s', c', h0, h3, h4⟩
      · cases h0
      · cases h0; exact ⟨h3, h4⟩
    refine ⟨.sl b (Nat.add o (Nat.mul i (Rp.k α))) (Nat.sub j i) (Rp.k α) none, ?_, ?_⟩
    · show ifB (Nat.ble i j) (ifB (Nat.ble j l.length) (ifB (Nat.beq (Rp.k α) (Rp.k α)) _ none) none) none = _
      rw [Nat.ble_eq_true_of_le hij, Nat.ble_eq_true_of_le hj, Nat.beq_refl]; rfl
    · exact mk _ _ _ _ hb (fun hne => (hseg (by omega)).part (Nat.le_trans (Nat.le_of_eq e1) (Nat.le_trans e2 (Nat.le_of_eq hl)))) (.inr (.inr ⟨_, _, rfl⟩))
end
end Go.Abs

namespace Go.Abs
noncomputable section
inductive X where
  | int (k : IntKind) (n : Int) | bool (b : Bool) | str (s : ByteArray) | nilS | sl (a : Addr) (cap : Nat) (els : List (List C))
theorem wf_fits {k : IntKind} {n : Int} (h : (Lit.int k n).wf = true) : fitsP k n := by
  simp only [Lit.wf, Bool.and_eq_true, decide_eq_true_eq] at h
  obtain ⟨h1, h2⟩ := h
  cases k <;> simp only [IntKind.min, IntKind.max, IntKind.signed, IntKind.bits] at h1 h2 <;> simp only [fitsP] <;> simp at h1 h2 <;> omega
section
variable {H : Type} {enc : TypeId × Value → H} {P : Program} {W : World} {held : Bool}
theorem cells?_at {a : Addr} {k : Nat} {cs : List Value} (h : W.cells? 0 a k = some cs) : cs.length = k ∧ ∀ j, j < k → W.cell? (a.add j) = cs[j]? := by
  unfold World.cells? at h
  rw [if_pos (Nat.zero_le _)] at h
  refine ⟨by simpa using mapM_some_length h, fun j hj => mapM_some_get h j j (by simp [hj])⟩
theorem add_add (b o i j : Nat) : ((⟨b, o, none⟩ : Addr).add i).add j = ⟨b, o + i + j, none⟩ := by rw [addr_add, addr_add]
end
end
end Go.Abs

namespace Go.Abs
noncomputable section
/-- what a call comes to -/
theorem call_of {P : Program} (hP : Fits P) {T : List (Nat × Bool)} (hT : TabOk P T) {f : FuncId} {args : List V} {m : M} {Q : V → M → Prop} (h : Wc P T f args m Q) {e : Env} {w : World} (hr : HR e (toH m) w) {args' : Array Value} (ha : All2 (VR e) args args'.toList) (n : Nat) :
    CallsIn Fence.wide n P f args' w fun en w' => ∃ v v' e' m', en = .returned v' ∧ Step e (toH m) w e' (toH m') w' ∧ VR e' v v' ∧ Q v m' := by
  obtain ⟨k, ex, tm, m', h1, h2⟩ := h
  have hv : ∃ v, ex = .val v ∧ Q v m' := by
    cases ex with
    | val v => exact ⟨v, rfl, h2⟩
    | _ => exact h2.elim
  obtain ⟨v, rfl, hq⟩ := hv
  have hs := (evT_sound hP hT k).call f args e3 (toH m) e w args' hr ha (by rw [h1]; trivial)
  refine (hs.2 n).mono fun en w' hp => ?_
  obtain ⟨u, v', tm', e', h', q1, q2, q3, q4, q5⟩ := hp
  rw [h1] at q2
  obtain ⟨r1, _, r2⟩ := leaf_ok q2
  cases r1; subst r2
  exact ⟨_, v', e', m', q1, q3, q5, hq⟩
end
end Go.Abs

namespace Go.Abs
set_option maxRecDepth 100000
noncomputable section
open Classical
variable {P : Program} {kt : TypeId} {κ : Type} {enc : κ → U}
def Keys (enc : κ → U) (es : List E) : Prop := ∀ e ∈ es, ∃ a, e.k = enc a
def look (enc : κ → U) (es : List E) (a : κ) : Option U :=
  match es with
  | [] => none
  | e :: es => if e.k = enc a then some e.v else look enc es a
/-- a map's block -/
structure Mp (enc : κ → U) (m : M) (b : Nat) (f : κ → Option U) : Prop where
  ex : ∃ es clock, m.g b = some (.map es clock) ∧ Keys enc es ∧ ∀ a, look enc es a = f a
  lt : b < m.nxt
theorem Mp.new {m m0 : M} (h : m0 = m.new (.map [] 0)) : Mp enc m0 m.nxt (fun _ => none) ∧ Ext m m0 := by
  subst h
  exact ⟨⟨⟨[], 0, by rw [M.g_new, if_pos rfl], fun e he => (by cases he), fun _ => rfl⟩, by rw [M.nxt_new]; omega⟩, Ext.new m _⟩
theorem Mp.ext {m m' : M} {b : Nat} {f : κ → Option U} (h : Mp enc m b f) (e : Ext m m') : Mp enc m' b f := by
  obtain ⟨es, clock, h1, h2⟩ := h.ex
  exact ⟨⟨es, clock, (e.g b h.lt).trans h1, h2⟩, Nat.lt_of_lt_of_le h.lt e.nxt⟩
end
end Go.Abs

namespace Go.Abs
set_option maxRecDepth 100000
noncomputable section
open Classical
variable {P : Program}
/-- types of keys -/
class MK (K : Type) where
  enc : K → U
  fit : K → Prop
/-- types of values -/
class MV (V : Type) where
  enc : V → U
instance : MV Int := ⟨fun a => .c (.int .i64 a)⟩
instance : MV Bool := ⟨fun a => .c (.bool a)⟩
def encK (K : Type) [MK K] (k : {k : K // MK.fit k}) : U := MK.enc k.1
variable {K V' : Type} [MK K] [MV V']
/-- a map: none: it is nil -/
def Mi (m : M) (c : C) (M : Option (K → Option V')) : Prop :=
  match M with
  | none => c = .map0
  | some f => ∃ b, c = .map b ∧ Mp (encK K) m b (fun k => (f k.1).map MV.enc)
/-- a map that may be written -/
structure Mo (F : Fm) (f : M) (τ : Nat → Nat) (m : M) (t : Nat) (c : C) (M : Option (K → Option V')) : Prop where
  mi : Mi m c M
  own : ∀ b, c = .map b → (F.m.nxt ≤ b ∨ F.B b) ∧ f.g b = none ∧ τ b = t ∧ b < m.nxt
theorem Mp.to {κ : Type} {enc : κ → U} {m m' : M} {b : Nat} {f : κ → Option U} (h : Mp enc m b f) (hn : m.nxt ≤ m'.nxt) (hg : m'.g b = m.g b) : Mp enc m' b f := by
  obtain ⟨es, clock, h1, h2⟩ := h.ex
  exact ⟨⟨es, clock, hg.trans h1, h2⟩, Nat.lt_of_lt_of_le h.lt hn⟩
theorem Mi.to {m m' : M} {c : C} {M : Option (K → Option V')} (h : Mi m c M) (hn : m.nxt ≤ m'.nxt) (hg : ∀ b, c = .map b → m'.g b = m.g b) : Mi m' c M := by
  cases M with
  | none => exact h
  | some f =>
    obtain ⟨b, h1, h2⟩ := h
    exact ⟨b, h1, h2.to hn (hg b h1)⟩
theorem Mo.k {F : Fm} {f f' m m' : M} {τ τ' : Nat → Nat} {t : Nat} {c : C} {M : Option (K → Option V')} {X : List Nat} (h : Mo F f τ m t c M) (k : Kp τ f m τ' f' m' X) (hx : t ∉ X) : Mo F f' τ' m' t c M := by
  have hX : ∀ b, c = .map b → τ b ∉ X := fun b hb => by rw [(h.own b hb).2.2.1]; exact hx
  refine ⟨h.mi.to k.nxt fun b hb => k.g b (h.own b hb).2.2.2 (hX b hb), fun b hb => ?_⟩
  obtain ⟨q1, q2, q3, q4⟩ := h.own b hb
  exact ⟨q1, (k.fg b q4 (hX b hb)).trans q2, (k.tg b q4).trans q3, Nat.lt_of_lt_of_le q4 k.nxt⟩
theorem Mo.new {F : Fm} {f0 f m m' : M} (s : St F f0 f m) (h : m' = m.new (.map [] 0)) (τ : Nat → Nat) (t : Nat) : ∃ τ', St F f0 f m' ∧ Kp τ f m τ' f m' [] ∧ Mo F f τ' m' t (.map m.nxt) (some fun _ => none : Option (K → Option V')) := by
  obtain ⟨h1, h2⟩ := s.new h τ t
  refine ⟨_, h1, h2, ⟨m.nxt, rfl, (Mp.new (enc := encK K) h).1⟩, fun b hb => ?_⟩
  cases hb
  exact ⟨.inl s.ext.nxt, s.fz _ s.sub.nxt, if_pos rfl, by rw [h, M.nxt_new]; omega⟩
theorem Mo.nil (F : Fm) (f : M) (τ : Nat → Nat) (m : M) (t : Nat) : Mo F f τ m t .map0 (none : Option (K → Option V')) := ⟨rfl, fun b hb => by cases hb⟩
/-- but for a map all is as it was -/
structure ExtB (c : C) (m m' : M) : Prop where
  nxt : m.nxt ≤ m'.nxt
  g : ∀ b, b < m.nxt → c ≠ .map b → m'.g b = m.g b
  vw : m'.vw = m.vw
/-- a map that a function is called with -/
structure Mc (f m : M) (c : C) (M : Option (K → Option V')) : Prop where
  mi : Mi m c M
  own : ∀ b, c = .map b → f.g b = none ∧ f.vw b = none ∧ b < m.nxt
/-- a map that a function hands back -/
structure Mn (m f' m' : M) (c : C) (M : Option (K → Option V')) : Prop where
  mi : Mi m' c M
  own : ∀ b, c = .map b → f'.g b = none ∧ m.nxt ≤ b ∧ b < m'.nxt
theorem Mo.mc {F : Fm} {f0 f m : M} (s : St F f0 f m) {τ : Nat → Nat} {t : Nat} {c : C} {M : Option (K → Option V')} (h : Mo F f τ m t c M) : Mc f m c M := ⟨h.mi, fun b hb => ⟨(h.own b hb).2.1, s.v0 b (h.own b hb).1, (h.own b hb).2.2.2⟩⟩
/-- a call that hands back a map -/
theorem St.callN {F : Fm} {f0 f m m' f' : M} (s : St F f0 f m) (g : Grw m f m' f') {c : C} {M : Option (K → Option V')} (h : Mn m f' m' c M) (τ : Nat → Nat) (t : Nat) : ∃ τ', St F f0 f' m' ∧ Kp τ f m τ' f' m' [] ∧ Mo F f' τ' m' t c M := by
  obtain ⟨h1, h2⟩ := s.callG g τ
  refine ⟨fun b => if m.nxt ≤ b then t else τ b, h1, ⟨h2.nxt, fun b hb => if_neg (by omega), h2.g, h2.fg, h2.fs, h2.vw⟩, h.mi, fun b hb => ?_⟩
  obtain ⟨q1, q2, q3⟩ := h.own b hb
  exact ⟨.inl (Nat.le_trans s.ext.nxt q2), q1, if_pos q2, q3⟩
theorem Mo.mn {m0 f m : M} {τ : Nat → Nat} {t : Nat} {c : C} {M : Option (K → Option V')} (h : Mo (Fm.of m0) f τ m t c M) : Mn m0 f m c M := ⟨h.mi, fun b hb => ⟨(h.own b hb).2.1, (h.own b hb).1.elim id fun h => h.elim, (h.own b hb).2.2.2⟩⟩
end
end Go.Abs

namespace Go.Abs
set_option maxRecDepth 100000
noncomputable section
variable {P : Program} {T : List (Nat × Bool)}
/-- what is handed out, as arguments -/
class IV (α : Type) where
  encs : α → List V
instance {α : Type} [MV α] : IV α := ⟨fun a => [uV (MV.enc a)]⟩
instance {α β : Type} [MV α] [MV β] : IV (α × β) := ⟨fun a => [uV (MV.enc a.1), uV (MV.enc a.2)]⟩
variable {α : Type} [IV α]
/-- a function value that hands out l -/
def It (P : Program) (T : List (Nat × Bool)) (f : M) (x : C) (l : List α) : Prop :=
  ∃ g a b D R, x = .fn (.func g) a b ∧ Iter P T x (l.map IV.encs) D R ∧ (∀ m, Sub f m → R m) ∧ ∀ b, D b → b < f.nxt ∧ (f.g b ≠ none ∨ f.vw b ≠ none)
theorem It.sub {f m : M} {x : C} {l : List α} (h : It P T f x l) (s : Sub f m) : It P T m x l := by
  obtain ⟨g, a, b, D, R, h1, h2, h3, h4⟩ := h
  refine ⟨g, a, b, D, R, h1, h2, fun m' hs => h3 m' (s.trans hs), fun b hb => ?_⟩
  obtain ⟨q1, q2⟩ := h4 b hb
  exact ⟨Nat.lt_of_lt_of_le q1 s.nxt, by rw [s.g b q1 q2, s.vw]; exact q2⟩
/-- what is said of memory speaks of blocks of before n0, and of Z -/
structure Gud (n0 tR : Nat) (Z : Nat → Prop) (A : Fm → M → (Nat → Nat) → M → Prop) : Prop where
  loc : ∀ G f τ m m', A G f τ m → m.nxt ≤ m'.nxt → m'.vw = m.vw → (∀ b, b < n0 ∨ Z b → m'.g b = m.g b) → A G f τ m'
  tg : ∀ G f τ τ' m, A G f τ m → (∀ b, b < n0 ∨ Z b → τ' b = τ b) → A G f τ' m
  fr : ∀ G G' f τ m, A G f τ m → (∀ b, b < n0 ∨ Z b → b < m.nxt → f.g b = none → τ b ≠ tR → (G.m.nxt ≤ b ∨ G.B b) → (G'.m.nxt ≤ b ∨ G'.B b)) → A G' f τ m
  z : ∀ G f τ m, A G f τ m → ∀ b, Z b → b < m.nxt ∧ f.g b = none ∧ τ b ≠ tR ∧ (G.m.nxt ≤ b ∨ G.B b)
namespace Gud
variable {n0 tR : Nat} {Z Z' : Nat → Prop} {A A' : Fm → M → (Nat → Nat) → M → Prop}
theorem and (h : Gud n0 tR Z A) (h' : Gud n0 tR Z' A') : Gud n0 tR (fun b => Z b ∨ Z' b) (fun G f τ m => A G f τ m ∧ A' G f τ m) :=
  ⟨fun G f τ m m' q hn hv hg => ⟨h.loc G f τ m m' q.1 hn hv fun b hb => hg b (hb.imp id .inl), h'.loc G f τ m m' q.2 hn hv fun b hb => hg b (hb.imp id .inr)⟩,
   fun G f τ τ' m q hg => ⟨h.tg G f τ τ' m q.1 fun b hb => hg b (hb.imp id .inl), h'.tg G f τ τ' m q.2 fun b hb => hg b (hb.imp id .inr)⟩,
   fun G G' f τ m q hg => ⟨h.fr G G' f τ m q.1 fun b hb => hg b (hb.imp id .inl), h'.fr G G' f τ m q.2 fun b hb => hg b (hb.imp id .inr)⟩,
   fun G f τ m q b hb => hb.elim (h.z G f τ m q.1 b) (h'.z G f τ m q.2 b)⟩
end Gud
theorem Mo.lt {K V' : Type} [MK K] [MV V'] {F : Fm} {f m : M} {τ : Nat → Nat} {t : Nat} {c : C} {M : Option (K → Option V')} (h : Mo F f τ m t c M) : ∀ b, c = .map b → b < m.nxt := fun b hb => (h.own b hb).2.2.2
/-- the record of a loop -/
structure Rk (F : Fm) (f : M) (τ : Nat → Nat) (m : M) (t b : Nat) (o : Option AO) : Prop where
  g : m.g b = o
  new : F.m.nxt ≤ b ∨ F.B b
  nf : f.g b = none
  tg : τ b = t
  lt : b < m.nxt
theorem Rk.k {F : Fm} {f f' m m' : M} {τ τ' : Nat → Nat} {t b : Nat} {o : Option AO} {X : List Nat} (h : Rk F f τ m t b o) (k : Kp τ f m τ' f' m' X) (hx : t ∉ X) : Rk F f' τ' m' t b o := by
  have hx : τ b ∉ X := by rw [h.tg]; exact hx
  exact ⟨(k.g b h.lt hx).trans h.g, h.new, (k.fg b h.lt hx).trans h.nf, (k.tg b h.lt).trans h.tg, Nat.lt_of_lt_of_le h.lt k.nxt⟩
end
end Go.Abs

namespace Go.Abs
set_option maxRecDepth 100000
noncomputable section
variable {P : Program} {T : List (Nat × Bool)} {α : Type} [IV α]
/-- what a client says, while rest is still to be handed out -/
def YJ (xs : List (List V)) (I : Nat → (Nat → Prop) → M → Prop) (rest : List α) : (Nat → Prop) → M → Prop := fun S m => ∃ i, i ≤ xs.length ∧ I i S m ∧ xs.drop i = rest.map IV.encs
/-- a client's blocks, beside one's own -/
structure Yg (n0 : Nat) (J : (Nat → Prop) → M → Prop) (S : Nat → Prop) (F : Fm) (f : M) (τ : Nat → Nat) (m : M) : Prop where
  j : J S m
  loc : Local n0 J
  own : ∀ b, S b → τ b = 0 ∧ (F.m.nxt ≤ b ∨ F.B b) ∧ f.g b = none
  low : ∀ b, b < n0 → τ b = 0
  n : n0 ≤ m.nxt
theorem Yg.k {n0 : Nat} {J : (Nat → Prop) → M → Prop} {S : Nat → Prop} {F : Fm} {f f' m m' : M} {τ τ' : Nat → Nat} {X : List Nat} (h : Yg n0 J S F f τ m) (k : Kp τ f m τ' f' m' X) (hx : 0 ∉ X) : Yg n0 J S F f' τ' m' := by
  have hlt := h.loc.lt S m h.j
  have hS : ∀ b, S b → τ b ∉ X := fun b hb => by rw [(h.own b hb).1]; exact hx
  refine ⟨h.loc.st S m m' h.j k.nxt k.vw (fun b hb => k.g b (hlt b hb) (hS b hb)) fun b hb => k.g b (Nat.lt_of_lt_of_le hb h.n) (by rw [h.low b hb]; exact hx), h.loc, fun b hb => ?_, fun b hb => (k.tg b (Nat.lt_of_lt_of_le hb h.n)).trans (h.low b hb), Nat.le_trans h.n k.nxt⟩
  obtain ⟨q1, q2, q3⟩ := h.own b hb
  exact ⟨(k.tg b (hlt b hb)).trans q1, q2, (k.fg b (hlt b hb) (hS b hb)).trans q3⟩
theorem YJ.local {n0 ly : Nat} {xs : List (List V)} {I : Nat → (Nat → Prop) → M → Prop} {E : (Nat → Prop) → M → Prop} (hc : Client P T n0 ly xs I E) (rest : List α) : Local n0 (YJ xs I rest) :=
  ⟨fun S m m' ⟨i, h1, h2, h3⟩ hn hv hs hl => ⟨i, h1, (hc.li i).st S m m' h2 hn hv hs hl, h3⟩, fun S m ⟨i, _, h2, _⟩ => (hc.li i).lt S m h2⟩
/-- a call of yield -/
theorem Yg.yield {n0 ly : Nat} {xs : List (List V)} {I : Nat → (Nat → Prop) → M → Prop} {E : (Nat → Prop) → M → Prop} (hc : Client P T n0 ly xs I E) {S : Nat → Prop} {F : Fm} {f0 f m : M} {τ : Nat → Nat} (s : St F f0 f m) {a : α} {r : List α} (h : Yg n0 (YJ xs I (a :: r)) S F f τ m) {Q : V → M → Prop}
    (hT : ∀ m' τ' S', St F f0 f m' → Kp τ f m τ' f m' [0] → Yg n0 (YJ xs I r) S' F f τ' m' → Q (.c (.bool true)) m')
    (hF : ∀ m' τ' S', St F f0 f m' → Kp τ f m τ' f m' [0] → Yg n0 E S' F f τ' m' → Q (.c (.bool false)) m') : Wy P T ly (IV.encs a) m Q := by
  obtain ⟨i, hi, hI, hd⟩ := h.j
  have hx : xs[i]? = some (IV.encs a) := by
    have := congrArg (fun l => l[0]?) hd
    simpa using this
  have hlt := h.loc.lt S m h.j
  have hil := (List.getElem?_eq_some_iff.1 hx).1
  have hdr : xs.drop (i + 1) = r.map IV.encs := by
    rw [← List.drop_drop, hd]; rfl
  have hst : ∀ {S' : Nat → Prop} {m' : M}, Chg S m m' → St F f0 f m' := fun hch => s.chg (X := S) (fun b hb => (h.own b hb).2) hch.nxt hch.vw hch.g
  have hkp : ∀ {m' : M}, Chg S m m' → Kp τ f m (fun b => if b < m.nxt then τ b else 0) f m' [0] := fun hch =>
    ⟨hch.nxt, fun b hb => if_pos hb, fun b hb hx => hch.g b hb fun hSb => hx (by rw [(h.own b hSb).1]; exact List.mem_cons_self ..), fun _ _ _ => rfl, .refl f, hch.vw⟩
  have hyg : ∀ {J : (Nat → Prop) → M → Prop} {S' : Nat → Prop} {m' : M}, Local n0 J → J S' m' → Own S m S' → Chg S m m' → Yg n0 J S' F f (fun b => if b < m.nxt then τ b else 0) m' := fun {J S' m'} hl hj ho hch => by
    refine ⟨hj, hl, fun b hb => ?_, fun b hb => ?_, Nat.le_trans h.n hch.nxt⟩
    · rcases ho b hb with h1 | h1
      · obtain ⟨q1, q2, q3⟩ := h.own b h1
        exact ⟨(if_pos (hlt b h1)).trans q1, q2, q3⟩
      · exact ⟨if_neg (by omega), .inl (Nat.le_trans s.ext.nxt h1), s.fz b (Nat.le_trans s.sub.nxt h1)⟩
    · have := h.n
      exact (if_pos (by omega)).trans (h.low b hb)
  exact hc.yield i _ S m hx hI Q (fun S' m' ho hch hI' => hT m' _ S' (hst (S' := S') hch) (hkp hch) (hyg (YJ.local hc r) ⟨i + 1, hil, hI', hdr⟩ ho hch)) fun S' m' ho hch hE => hF m' _ S' (hst (S' := S') hch) (hkp hch) (hyg hc.le hE ho hch)
theorem arr_at {α : Type} {vs : List C} {l : List α} {enc : α → C} (k : Nat) (hv : (vs.drop k).take l.length = l.map enc) {i : Nat} {a : α} (hi : l[i]? = some a) : vs[k + i * 1]? = some (enc a) := by
  have hl := (List.getElem?_eq_some_iff.1 hi).1
  have h1 : ((vs.drop k).take l.length)[i]? = some (enc a) := by rw [hv, List.getElem?_map, hi]; rfl
  rw [List.getElem?_take, if_pos hl, List.getElem?_drop] at h1
  rw [Nat.mul_one]; exact h1
theorem arr_no {x : Int} {N : Int} (h : 0 ≤ x ∧ x < N) : ∃ n : Nat, x = (n : Int) ∧ n < N.toNat := ⟨x.toNat, by omega, by omega⟩
/-- an element of an array, when the one with the number x is written -/
def sti {α : Type} (x : Int) (j : Nat) (v e : α) : α := if x = (j : Int) then v else e
def stis {α : Type} (x : Int) (v : α) : Nat → List α → List α
  | _, [] => []
  | j, a :: l => sti x j v a :: stis x v (j + 1) l
theorem stis_set {α : Type} (v : α) : ∀ (l : List α) (j n : Nat), stis ((j + n : Nat) : Int) v j l = l.set n v
  | [], _, _ => rfl
  | a :: l, j, 0 => by
    show sti _ j v a :: stis _ v (j + 1) l = v :: l
    have hs : ∀ (l : List α) (i : Nat), j < i → stis ((j + 0 : Nat) : Int) v i l = l := by
      intro l
      induction l with
      | nil => intro i _; rfl
      | cons b l ih =>
        intro i hi
        show sti _ i v b :: stis _ v (i + 1) l = b :: l
        rw [ih (i + 1) (by omega)]
        unfold sti
        rw [if_neg (by omega)]
    rw [hs l (j + 1) (by omega)]
    unfold sti
    rw [if_pos (by omega)]
  | a :: l, j, n + 1 => by
    show sti _ j v a :: stis _ v (j + 1) l = a :: l.set n v
    have e : ((j + (n + 1) : Nat) : Int) = ((j + 1 + n : Nat) : Int) := by omega
    rw [e, stis_set v l (j + 1) n]
    unfold sti
    rw [if_neg (by omega)]
theorem Lb.sta {F : Fm} {f0 f m : M} {τ : Nat → Nat} {t b N : Nat} {vs : List C} (h : Lb F f τ m t b N vs) (s : St F f0 f m) {pre post : List C} {β : Type} {l : List β} {enc : β → C} (hv : vs = pre ++ (l.map enc ++ post)) (hN : vs.length = N) {x : Int} {n : Nat} (hx : x = (n : Int)) (hn : n < l.length) (v : β) :
    ∃ m', stC m (.ptr b (pre.length + n * 1)) 1 [enc v] = some m' ∧ St F f0 f m' ∧ Kp τ f m τ f m' [t] ∧ Lb F f τ m' t b N (pre ++ ((stis x v 0 l).map enc ++ post)) := by
  have hlen : vs.length = pre.length + (l.length + post.length) := by rw [hv, List.length_append, List.length_append, List.length_map]
  obtain ⟨m', h1, h2, h3, h4⟩ := h.sto1 s (pre.length + n * 1) (enc v) (by omega) hN
  refine ⟨m', h1, h2, h3, ?_⟩
  have e : vs.set (pre.length + n * 1) (enc v) = pre ++ ((stis x v 0 l).map enc ++ post) := by
    have hs := stis_set v l 0 n
    rw [Nat.zero_add] at hs
    rw [hv, hx, hs, List.set_append_right _ _ (by omega), List.set_append_left _ _ (by rw [List.length_map]; omega), show pre.length + n * 1 - pre.length = n by omega, List.map_set]
  rw [← e]; exact h4
theorem ifd {α : Type} {p : Prop} {i1 i2 : Decidable p} {A B : Prop} {a b : Option α} {r : α} (hp : (@ite _ p i1 a b) = some r) (hA : p → a = some r → A) (hB : ¬ p → b = some r → B) : ifB (@decide p i2) A B := by
  by_cases h : p
  · rw [if_pos h] at hp
    rw [show @decide p i2 = true from decide_eq_true h]; exact hA h hp
  · rw [if_neg h] at hp
    rw [show @decide p i2 = false from decide_eq_false h]; exact hB h hp
theorem ifnd {α : Type} {p : Prop} {i1 i2 : Decidable p} {A B : Prop} {a b : Option α} {r : α} (hp : (@ite _ p i1 b a) = some r) (hA : ¬ p → a = some r → A) (hB : p → b = some r → B) : ifB (!@decide p i2) A B := by
  by_cases h : p
  · rw [if_pos h] at hp
    rw [show @decide p i2 = true from decide_eq_true h]; exact hB h hp
  · rw [if_neg h] at hp
    rw [show @decide p i2 = false from decide_eq_false h]; exact hA h hp
theorem ifbb {α : Type} {x : Bool} {A B : Prop} {a b : Option α} {r : α} (hp : (if x = true then a else b) = some r) (hA : x = true → a = some r → A) (hB : x = false → b = some r → B) : ifB x A B := by
  cases x
  · exact hB rfl hp
  · exact hA rfl hp
theorem ifnb {α : Type} {x : Bool} {A B : Prop} {a b : Option α} {r : α} (hp : (if x = true then b else a) = some r) (hA : x = false → a = some r → A) (hB : x = true → b = some r → B) : ifB (!x) A B := by
  cases x
  · exact hA rfl hp
  · exact hB rfl hp
end
end Go.Abs

namespace Go.Proofs.YtbhdgedghfibcaaGreat
open Go.Abs
set_option maxRecDepth 100000
noncomputable section
def rests {α : Type} (g : Nat → List α) : Nat → Nat → List α
  | 0, _ => []
  | e + 1, n => g n ++ rests g e (n + 1)
/-- the increasing lists of d more numbers below n, from fr on -/
def combs (n : Nat) : Nat → List Int → Nat → List (List Int)
  | 0, pre, _ => [pre]
  | d + 1, pre, fr => rests (fun x => combs n d (pre ++ [(x : Int)]) (x + 1)) (n - fr) fr
/-- all increasing lists of numbers below n, the shorter ones first -/
def allL (n : Nat) : List (List Int) := rests (fun s => combs n s [] 0) (n + 1) 0
/-- the first list that passes -/
def shortL (n : Nat) (t : List Int → Bool) : List Int := ((allL n).find? t).getD []
/-- lists.Shortest -/
def pshortest (n : Int) (p : List Int → Option Bool) : Option (List Int) := gd (0 ≤ n ∧ n ≤ 100 ∧ ∀ L ∈ allL n.toNat, (p L).isSome = true) (some (shortL n.toNat fun L => (p L).getD false))
end
end Go.Proofs.YtbhdgedghfibcaaGreat

namespace Go.Abs
noncomputable section
variable {P : Program} {T : List (Nat × Bool)}
/-- calls of the body of the loop l: I i: i values have been handed out; E: no more are wanted -/
structure ClientV (P : Program) (T : List (Nat × Bool)) (n0 l : Nat) (Vs : Nat → List V → M → Prop) (I : Nat → (Nat → Prop) → M → Prop) (E : (Nat → Prop) → M → Prop) : Prop where
  li : ∀ i, Local n0 (I i)
  le : Local n0 E
  yield : ∀ i x S m, Vs i x m → I i S m → ∀ Q : V → M → Prop, (∀ S' m', Own S m S' → Chg S m m' → I (i + 1) S' m' → Q (.c (.bool true)) m') → (∀ S' m', Own S m S' → Chg S m m' → E S' m' → Q (.c (.bool false)) m') → Wy P T l x m Q
/-- the function value hands out len values; Vs n i: what is said of the one with number i, in blocks from n on; it reads blocks of D, of which R holds -/
structure IterV (P : Program) (T : List (Nat × Bool)) (x : C) (len : Nat) (Vs : Nat → Nat → List V → M → Prop) (D : Nat → Prop) (R : M → Prop) : Prop where
  st : ∀ m m', R m → m.nxt ≤ m'.nxt → m'.vw = m.vw → (∀ b, D b → m'.g b = m.g b) → R m'
  lt : ∀ m, R m → ∀ b, D b → b < m.nxt
  run : ∀ n0 l I E S m, ClientV P T n0 l (Vs m.nxt) I E → n0 ≤ m.nxt → I 0 S m → R m → (∀ b, S b → ¬ D b) → ∀ Q : V → M → Prop, (∀ v S' m', Own S m S' → Chg S m m' → I len S' m' ∨ E S' m' → Q v m') → callP P T [.c (.fn (.yield l) [] [])] x m Q
/-- A LOOP OVER WHAT IS HANDED OUT: J i: i rounds have been gone; X: the body has been left -/
theorem range_iterV {g : FuncId} {a b : List W} {len : Nat} {Vs : Nat → Nat → List V → M → Prop} {D : Nat → Prop} {R : M → Prop} (hi : IterV P T (.fn (.func g) a b) len Vs D R) {m : M} (hR : R m) {round : Round} {after : After}
    (J : Nat → (Nat → Prop) → M → Prop) (X : Ex → (Nat → Prop) → M → Prop) (hJ : ∀ i, Local m.nxt (J i)) (hX : ∀ ex, Local m.nxt (X ex)) {S0 : Nat → Prop} (h0 : J 0 S0 m) (hS0 : ∀ b, S0 b → ¬ D b)
    (hround : ∀ i x S m1 (B : M → Prop) (enter : M → (M → Prop) → Prop) (K : Ex → M → Prop), Vs (m.nxt + 1) i x m1 → J i S m1 → m.nxt < m1.nxt → ¬ S m.nxt → Own S0 m S →
      (∀ m2 k, m2.g m.nxt = m1.g m.nxt → (∀ m3, m3.nxt = m2.nxt → m3.vw = m2.vw → (∀ b, b ≠ m.nxt → m3.g b = m2.g b) → (∀ m4 : M, m4.g m.nxt = m3.g m.nxt → B m4) → k m3) → enter m2 k) →
      (∀ ex S' m4, B m4 → m1.nxt ≤ m4.nxt → m4.vw = m1.vw → (∀ b, b < m1.nxt → ¬ S b → b ≠ m.nxt → m4.g b = m1.g b) → Own S m1 S' → (match ex with | .nrm => J (i + 1) S' m4 | .val _ => False | ex => X ex S' m4) → K ex m4) → round x m1 enter K)
    (hend : ∀ S' m5, Own S0 m S' → m.nxt < m5.nxt → m5.vw = m.vw → (∀ b, b < m.nxt → ¬ S0 b → m5.g b = m.g b) → J len S' m5 → after.nrm m5)
    (hexit : ∀ id S' m5, Own S0 m S' → m.nxt < m5.nxt → m5.vw = m.vw → (∀ b, b < m.nxt → ¬ S0 b → m5.g b = m.g b) → X (.exit id) S' m5 → exitP id m5 after.exits)
    (hret : ∀ S' m5, Own S0 m S' → m.nxt < m5.nxt → m5.vw = m.vw → (∀ b, b < m.nxt → ¬ S0 b → m5.g b = m.g b) → X .ret S' m5 → after.ret m5) :
    rangeP P T (.fn (.func g) a b) m round after := by
  intro mk hy
  have hlt0 := (hJ 0).lt _ _ h0
  -- the client: the record of the loop is its own, too
  let I : Nat → (Nat → Prop) → M → Prop := fun i S m1 => ∃ SJ, (∀ b, S b ↔ SJ b ∨ b = m.nxt) ∧ ¬ SJ m.nxt ∧ m1.g m.nxt = some (mk .ready none) ∧ J i SJ m1 ∧ m.nxt < m1.nxt ∧ Own S0 m SJ
  let E : (Nat → Prop) → M → Prop := fun S m1 => ∃ SJ, (∀ b, S b ↔ SJ b ∨ b = m.nxt) ∧ ¬ SJ m.nxt ∧ m.nxt < m1.nxt ∧ Own S0 m SJ ∧ ((∃ id, m1.g m.nxt = some (mk .done (some (.exit id))) ∧ X (.exit id) SJ m1) ∨ (m1.g m.nxt = some (mk .done (some .ret)) ∧ X .ret SJ m1))
  have hc : ClientV P T m.nxt m.nxt (Vs (m.nxt + 1)) I E := by
    refine ⟨fun i => ⟨fun S m1 m2 h hn hw hs h0' => ?_, fun S m1 h b hb => ?_⟩, ⟨fun S m1 m2 h hn hw hs h0' => ?_, fun S m1 h b hb => ?_⟩, fun i x S m1 hx h Q hT hF => ?_⟩
    · obtain ⟨SJ, q1, q2, q3, q4, q5, q6⟩ := h
      exact ⟨SJ, q1, q2, by rw [hs _ ((q1 _).2 (.inr rfl))]; exact q3, (hJ i).st _ _ _ q4 hn hw (fun b hb => hs b ((q1 b).2 (.inl hb))) h0', by omega, q6⟩
    · obtain ⟨SJ, q1, q2, q3, q4, q5, q6⟩ := h
      rcases (q1 b).1 hb with hb | hb
      · exact (hJ i).lt _ _ q4 b hb
      · omega
    · obtain ⟨SJ, q1, q2, q5, q6, q7⟩ := h
      refine ⟨SJ, q1, q2, by omega, q6, ?_⟩
      have hl : m2.g m.nxt = m1.g m.nxt := hs _ ((q1 _).2 (.inr rfl))
      rcases q7 with ⟨id, q8, q9⟩ | ⟨q8, q9⟩
      · exact .inl ⟨id, by rw [hl]; exact q8, (hX _).st _ _ _ q9 hn hw (fun b hb => hs b ((q1 b).2 (.inl hb))) h0'⟩
      · exact .inr ⟨by rw [hl]; exact q8, (hX _).st _ _ _ q9 hn hw (fun b hb => hs b ((q1 b).2 (.inl hb))) h0'⟩
    · obtain ⟨SJ, q1, q2, q5, q6, q7⟩ := h
      rcases (q1 b).1 hb with hb | hb
      · rcases q7 with ⟨id, q8, q9⟩ | ⟨q8, q9⟩
        · exact (hX _).lt _ _ q9 b hb
        · exact (hX _).lt _ _ q9 b hb
      · omega
    · obtain ⟨SJ, q1, q2, q3, q4, q5, q6⟩ := h
      refine hy x m1 Q q3 (hround i x SJ m1 (fun m4 => m4.g m.nxt = some (mk .busy none)) _ _ hx q4 q5 q2 q6 (fun m2 k hm2 hk => ⟨by rw [hm2]; exact q3, hk _ (M.nxt_set ..) rfl (fun b hb => by rw [M.g_set, if_neg hb]) fun m4 hm4 => by rw [hm4, M.g_set, if_pos rfl]⟩) fun ex S' m4 hB hn hvw hfr hown hres => ?_)
      have hS'l : ¬ S' m.nxt := fun h => by
        rcases hown _ h with h | h
        · exact q2 h
        · omega
      have hown2 : Own S m1 (fun b => S' b ∨ b = m.nxt) := fun b hb => by
        rcases hb with hb | hb
        · exact (hown b hb).imp (fun h => (q1 b).2 (.inl h)) id
        · exact .inl ((q1 b).2 (.inr hb))
      have hown3 : Own S0 m S' := fun b hb => by
        rcases hown b hb with h | h
        · exact q6 b h
        · exact .inr (by omega)
      have hchg : ∀ o, Chg S m1 (m4.set m.nxt o) := fun o => ⟨hn, fun b hb hSb => by
        have hbl : b ≠ m.nxt := fun h => hSb ((q1 b).2 (.inr h))
        rw [M.g_set, if_neg hbl]
        exact hfr b hb (fun h => hSb ((q1 b).2 (.inl h))) hbl, hvw⟩
      have hset : ∀ o b, S' b → (m4.set m.nxt o).g b = m4.g b := fun o b hb => by
        rw [M.g_set, if_neg fun h => hS'l (by rw [← h]; exact hb)]
      have hlow : ∀ o b, b < m.nxt → (m4.set m.nxt o).g b = m4.g b := fun o b hb => by rw [M.g_set, if_neg (by omega)]
      refine ⟨⟨_, _, hB⟩, ?_⟩
      cases ex with
      | nrm => exact hT _ _ hown2 (hchg _) ⟨S', fun b => Iff.rfl, hS'l, by rw [M.g_set, if_pos rfl], (hJ _).st _ _ _ hres (Nat.le_refl _) rfl (hset _) (hlow _), by show m.nxt < m4.nxt; omega, hown3⟩
      | exit id => exact hF _ _ hown2 (hchg _) ⟨S', fun b => Iff.rfl, hS'l, by show m.nxt < m4.nxt; omega, hown3, .inl ⟨id, by rw [M.g_set, if_pos rfl], (hX _).st _ _ _ hres (Nat.le_refl _) rfl (hset _) (hlow _)⟩⟩
      | ret => exact hF _ _ hown2 (hchg _) ⟨S', fun b => Iff.rfl, hS'l, by show m.nxt < m4.nxt; omega, hown3, .inr ⟨by rw [M.g_set, if_pos rfl], (hX _).st _ _ _ hres (Nat.le_refl _) rfl (hset _) (hlow _)⟩⟩
      | val v => exact hres.elim
  have hDlt := hi.lt _ hR
  have hRn : R (m.new (mk .ready none)) := hi.st _ _ hR (Nat.le_succ _) rfl fun b hb => by rw [M.g_new, if_neg (by have := hDlt b hb; omega)]
  have hI0 : I 0 (fun b => S0 b ∨ b = m.nxt) (m.new (mk .ready none)) := ⟨S0, fun b => Iff.rfl, fun h => by have := hlt0 _ h; omega, by rw [M.g_new, if_pos rfl], (hJ 0).st _ _ _ h0 (Nat.le_succ _) rfl (fun b hb => by rw [M.g_new, if_neg (by have := hlt0 b hb; omega)]) (fun b hb => by rw [M.g_new, if_neg (by omega)]), Nat.lt_succ_self _, fun b hb => .inl hb⟩
  refine hi.run m.nxt m.nxt I E _ (m.new (mk .ready none)) hc (Nat.le_succ _) hI0 hRn (fun b hb hD => ?_) _ fun v S' m5 hown hchg hfin => ?_
  · rcases hb with hb | hb
    · exact hS0 b hb hD
    · have := hDlt b hD; omega
  · have hvw5 : (m5.del m.nxt).vw = m.vw := hchg.vw
    have hfr : ∀ b, b < m.nxt → ¬ S0 b → (m5.del m.nxt).g b = m.g b := fun b hb hS => by
      rw [M.g_del, if_neg (by omega), hchg.g b (by show b < m.nxt + 1; omega) (fun h => h.elim hS fun h => by omega), M.g_new, if_neg (by omega)]
    have hlowd : ∀ b, b < m.nxt → (m5.del m.nxt).g b = m5.g b := fun b hb => by rw [M.g_del, if_neg (by omega)]
    have hdel : ∀ SJ : Nat → Prop, ¬ SJ m.nxt → ∀ b, SJ b → (m5.del m.nxt).g b = m5.g b := fun SJ hl b hb => by rw [M.g_del, if_neg fun h => hl (by rw [← h]; exact hb)]
    rcases hfin with ⟨SJ, q1, q2, q3, q4, q5, q6⟩ | ⟨SJ, q1, q2, q5, q6, q7⟩
    · exact ⟨_, _, q3, (fun h => by cases h), hend SJ _ q6 q5 hvw5 hfr ((hJ _).st _ _ _ q4 (Nat.le_refl _) rfl (hdel SJ q2) hlowd)⟩
    · rcases q7 with ⟨id, q8, q9⟩ | ⟨q8, q9⟩
      · exact ⟨_, _, q8, (fun h => by cases h), hexit id SJ _ q6 q5 hvw5 hfr ((hX _).st _ _ _ q9 (Nat.le_refl _) rfl (hdel SJ q2) hlowd)⟩
      · exact ⟨_, _, q8, (fun h => by cases h), hret SJ _ q6 q5 hvw5 hfr ((hX _).st _ _ _ q9 (Nat.le_refl _) rfl (hdel SJ q2) hlowd)⟩
end
end Go.Abs

namespace Go.Abs
set_option maxRecDepth 100000
noncomputable section
theorem fI {n : Int} (h : -9223372036854775808 ≤ n ∧ n < 9223372036854775808) : fitsP .i64 n := h
theorem fU8 {n : Int} (h : fitsP .u8 n) : 0 ≤ n ∧ n < 256 := h
theorem wz {k : IntKind} {n : Int} (h : fitsP k n) : wrapZ k n = n := by unfold wrapZ; rw [fits_of h]; rfl
theorem idx_at {α : Type} {l : List α} {k : Nat} {a : α} (h : l[k]? = some a) : idx l (k : Int) = some a := by rw [idx_nat]; exact h
theorem idx_get {α : Type} {l : List α} {i : Int} {k : Nat} (hi : i = (k : Int)) (h : k < l.length) : idx l i = some l[k] := by subst hi; rw [idx_nat, List.getElem?_eq_getElem h]
theorem idx_pred {α : Type} {l : List α} {k : Nat} {a : α} (hk : 0 < k) (h : l[k - 1]? = some a) : idx l ((k : Int) - 1) = some a := by rw [show (k : Int) - 1 = ((k - 1 : Nat) : Int) by omega]; exact idx_at h
theorem idx_zero {α : Type} {l : List α} {a : α} (h : l[0]? = some a) : idx l (0 : Int) = some a := idx_at (k := 0) h
/-- a truth value that says P -/
def Ev (o : Option Bool) (P : Prop) : Prop := ∃ b, o = some b ∧ (b = true ↔ P)
namespace Ev
variable {o k : Option Bool} {P K : Prop}
theorem mk' {b : Bool} (h : b = true ↔ P) : Ev (some b) P := ⟨b, rfl, h⟩
theorem dec {p : Prop} [Decidable p] (h : p ↔ P) : Ev (some (decide p)) P := ⟨_, rfl, decide_eq_true_iff.trans h⟩
theorem ff (h : ¬ P) : Ev (some false) P := ⟨false, rfl, ⟨fun h => (by cases h), fun h' => absurd h' h⟩⟩
theorem tt (h : P) : Ev (some true) P := ⟨true, rfl, ⟨fun _ => h, fun _ => rfl⟩⟩
theorem imp (h : Ev o P) (hp : P ↔ K) : Ev o K := by obtain ⟨b, h1, h2⟩ := h; exact ⟨b, h1, h2.trans hp⟩
theorem ret (h : Ev o P) : Ev (o.bind fun r => some r) P := by obtain ⟨b, h1, h2⟩ := h; exact ⟨b, by rw [h1]; rfl, h2⟩
theorem and (h : Ev o P) (hk : P → Ev k K) : Ev (o.bind fun r => if r = true then k else some false) (P ∧ K) := by
  obtain ⟨b, h1, h2⟩ := h
  rw [h1, Option.bind_some]
  cases b with
  | true =>
    rw [if_pos rfl]
    have hp := h2.1 rfl
    exact (hk hp).imp ⟨fun h => ⟨hp, h⟩, fun h => h.2⟩
  | false => rw [if_neg (by simp)]; exact ff fun h => by have := h2.2 h.1; cases this
theorem ite {p : Prop} [Decidable p] (hk : p → Ev k K) : Ev (if p then k else some false) (p ∧ K) := by
  by_cases hp : p
  · rw [if_pos hp]; exact (hk hp).imp ⟨fun h => ⟨hp, h⟩, fun h => h.2⟩
  · rw [if_neg hp]; exact ff fun h => hp h.1
theorem itn {p : Prop} [Decidable p] (hk : ¬ p → Ev k K) : Ev (if p then some false else k) (¬ p ∧ K) := by
  by_cases hp : p
  · rw [if_pos hp]; exact ff fun h => h.1 hp
  · rw [if_neg hp]; exact (hk hp).imp ⟨fun h => ⟨hp, h⟩, fun h => h.2⟩
theorem gd {p : Prop} (hp : p) (h : Ev o P) : Ev (Go.Abs.gd p o) P := by rw [gd_pos hp]; exact h
theorem bind {α : Type} {x : Option α} {a : α} {f : α → Option Bool} (hx : x = some a) (h : Ev (f a) P) : Ev (x.bind f) P := by rw [hx, Option.bind_some]; exact h
theorem neg (h : Ev o P) : Ev (o.bind fun r => some (!r)) (¬ P) := by
  obtain ⟨b, h1, h2⟩ := h
  refine ⟨!b, by rw [h1]; rfl, ?_⟩
  cases b with
  | true => exact ⟨fun h => (by cases h), fun h => absurd (h2.1 rfl) h⟩
  | false => exact ⟨fun _ hp => (by have := h2.2 hp; cases this), fun _ => rfl⟩
/-- a choice by a truth value -/
theorem pick {α : Type} {f : Bool → Option α} {r : α} (h : Ev o P) (ht : P → f true = some r) (hf : ¬ P → f false = some r) : o.bind f = some r := by
  obtain ⟨b, h1, h2⟩ := h
  rw [h1, Option.bind_some]
  cases b with
  | true => exact ht (h2.1 rfl)
  | false => exact hf fun hp => by have := h2.2 hp; cases this
theorem some_of (h : Ev o P) (hp : P) : o = some true := by obtain ⟨b, h1, h2⟩ := h; rw [h1, h2.2 hp]
end Ev
open Classical in
theorem loopAll {β : Type} (n : Nat) (F : Nat → Int → Option β) (ok : Nat → Prop) (bad fin : Option β)
    (hstep : ∀ d k, k < n → F (d + 1) (k : Int) = if ok k then F d ((k : Int) + 1) else bad) (hend : ∀ d, F (d + 1) (n : Int) = fin) :
    ∀ d k, k ≤ n → n - k < d → F d (k : Int) = if (∀ j, k ≤ j → j < n → ok j) then fin else bad
  | 0, k, _, h => by omega
  | d + 1, k, hk, h => by
    by_cases hkn : k = n
    · subst hkn
      rw [hend, if_pos fun j h1 h2 => by omega]
    · rw [hstep d k (by omega)]
      by_cases ho : ok k
      · rw [if_pos ho, show (k : Int) + 1 = ((k + 1 : Nat) : Int) by omega, loopAll n F ok bad fin hstep hend d (k + 1) (by omega) (by omega)]
        by_cases ha : ∀ j, k + 1 ≤ j → j < n → ok j
        · rw [if_pos ha, if_pos fun j h1 h2 => by
            rcases Nat.eq_or_lt_of_le h1 with h3 | h3
            · subst h3; exact ho
            · exact ha j h3 h2]
        · rw [if_neg ha, if_neg fun h' => ha fun j h1 h2 => h' j (by omega) h2]
      · rw [if_neg ho, if_neg fun h' => ho (h' k (Nat.le_refl _) (by omega))]
/-- the same, from the start -/
theorem loopAll_tt {β : Type} {n : Nat} {F : Nat → Int → Option β} {ok : Nat → Prop} {bad fin : Option β}
    (hstep : ∀ d k, k < n → (ok k → F (d + 1) (k : Int) = F d ((k : Int) + 1)) ∧ (¬ ok k → F (d + 1) (k : Int) = bad)) (hend : ∀ d, F (d + 1) (n : Int) = fin) {d : Nat} (hd : n < d) :
    ((∀ j, j < n → ok j) → F d 0 = fin) ∧ (¬ (∀ j, j < n → ok j) → F d 0 = bad) := by
  have h := loopAll n F ok bad fin (fun d k hk => by
    by_cases ho : ok k
    · rw [if_pos ho]; exact (hstep d k hk).1 ho
    · rw [if_neg ho]; exact (hstep d k hk).2 ho) hend d 0 (Nat.zero_le _) (by omega)
  have h : F d 0 = _ := h
  refine ⟨fun ha => ?_, fun ha => ?_⟩
  · rw [h, if_pos fun j _ => ha j]
  · rw [h, if_neg fun h' => ha fun j => h' j (Nat.zero_le _)]
theorem Ev.loop {n : Nat} {F : Nat → Int → Option Bool} {ok : Nat → Prop} {fin : Option Bool} {P : Prop}
    (hstep : ∀ d k, k < n → (ok k → F (d + 1) (k : Int) = F d ((k : Int) + 1)) ∧ (¬ ok k → F (d + 1) (k : Int) = some false)) (hend : ∀ d, F (d + 1) (n : Int) = fin) {d : Nat} (hd : n < d)
    (hf : (∀ j, j < n → ok j) → Ev fin P) : Ev (F d 0) ((∀ j, j < n → ok j) ∧ P) := by
  obtain ⟨h1, h2⟩ := loopAll_tt hstep hend hd
  by_cases ha : ∀ j, j < n → ok j
  · rw [h1 ha]; exact (hf ha).imp ⟨fun h => ⟨ha, h⟩, fun h => h.2⟩
  · rw [h2 ha]; exact Ev.ff fun h => ha h.1
/-- a loop that makes a list -/
theorem loopApp {α γ β : Type} (l : List α) (g : α → γ) (F : Nat → List γ → Int → Option β) (fin : List γ → Option β)
    (hstep : ∀ d (k : Nat) acc a, l[k]? = some a → acc.length = k → F (d + 1) acc (k : Int) = F d (acc ++ [g a]) ((k : Int) + 1)) (hend : ∀ d acc, F (d + 1) acc (l.length : Int) = fin acc) :
    ∀ d (k : Nat) acc, k ≤ l.length → l.length - k < d → acc = (l.take k).map g → F d acc (k : Int) = fin (l.map g)
  | 0, k, _, _, h, _ => by omega
  | d + 1, k, acc, hk, h, ha => by
    by_cases hkn : k = l.length
    · subst hkn
      rw [hend, ha, List.take_length]
    · have hlt : k < l.length := by omega
      have hget := List.getElem?_eq_getElem hlt
      rw [hstep d k acc _ hget (by rw [ha, List.length_map, List.length_take]; omega), show (k : Int) + 1 = ((k + 1 : Nat) : Int) by omega]
      exact loopApp l g F fin hstep hend d (k + 1) _ (by omega) (by omega) (by rw [ha, List.take_add_one, hget, List.map_append]; rfl)
theorem loopApp0 {α γ β : Type} {l : List α} (g : α → γ) {F : Nat → List γ → Int → Option β} (fin : List γ → Option β)
    (hstep : ∀ d (k : Nat) acc a, l[k]? = some a → acc.length = k → F (d + 1) acc (k : Int) = F d (acc ++ [g a]) ((k : Int) + 1)) (hend : ∀ d acc, F (d + 1) acc (l.length : Int) = fin acc) {d : Nat} (hd : l.length < d) : F d [] 0 = fin (l.map g) :=
  loopApp l g F fin hstep hend d 0 [] (Nat.zero_le _) (by omega) (by simp)
def gIdx {α : Type} (l : List α) (p : α → Option Bool) : Nat → Int → Option Int
  | 0, _ => none
  | d + 1, x => if x < (l.length : Int) then ((idx l x).bind fun v => (p v).bind fun r => if r = true then some x else gd (fitsP .i64 (x + (1 : Int))) (gIdx l p d (x + (1 : Int)))) else some (-1 : Int)
theorem gIdx_ev {α : Type} {l : List α} {p : α → Option Bool} {q : α → Prop} (hp : ∀ a ∈ l, Ev (p a) (q a)) (hl : l.length < 4611686018427387904) :
    ∀ d (k : Nat), k ≤ l.length → l.length - k < d → ∃ r, gIdx l p d (k : Int) = some r ∧ (0 ≤ r ↔ ∃ a ∈ l.drop k, q a)
  | 0, _, _, h => by omega
  | d + 1, k, hk, h => by
    unfold gIdx
    by_cases hkn : k = l.length
    · subst hkn
      rw [if_neg (Int.lt_irrefl _)]
      exact ⟨_, rfl, by simp⟩
    · have hlt : k < l.length := by omega
      have hget := List.getElem?_eq_getElem hlt
      rw [if_pos (by omega), idx_at hget, Option.bind_some]
      have hd := List.drop_eq_getElem_cons hlt
      obtain ⟨b, h1, h2⟩ := hp _ (List.getElem_mem hlt)
      rw [h1, Option.bind_some]
      cases b with
      | true => rw [if_pos rfl]; exact ⟨_, rfl, ⟨fun _ => ⟨_, by rw [hd]; exact List.mem_cons_self .., h2.1 rfl⟩, fun _ => by omega⟩⟩
      | false =>
        rw [if_neg (by simp), gd_pos (fI (by omega)), show (k : Int) + 1 = ((k + 1 : Nat) : Int) by omega]
        obtain ⟨r, h3, h4⟩ := gIdx_ev hp hl d (k + 1) (by omega) (by omega)
        refine ⟨r, h3, h4.trans ⟨fun ⟨a, ha, hq⟩ => ⟨a, by rw [hd]; exact List.mem_cons_of_mem _ ha, hq⟩, fun ⟨a, ha, hq⟩ => ?_⟩⟩
        rw [hd] at ha
        rcases List.mem_cons.1 ha with rfl | ha
        · have := h2.2 hq; cases this
        · exact ⟨a, ha, hq⟩
theorem Ev.contains {α : Type} {l : List α} {p : α → Option Bool} {q : α → Prop} (hp : ∀ a ∈ l, Ev (p a) (q a)) (hl : l.length < 4611686018427387904) {o : Option Int} (ho : o = gIdx l p (l.length + 1) (0 : Int)) :
    Ev (o.bind fun r => some (decide ((0 : Int) ≤ r))) (∃ a ∈ l, q a) := by
  obtain ⟨r, h1, h2⟩ := gIdx_ev hp hl (l.length + 1) 0 (Nat.zero_le _) (by omega)
  have h1 : gIdx l p (l.length + 1) 0 = some r := h1
  rw [ho, h1, Option.bind_some]
  exact Ev.dec (by rw [h2, List.drop_zero])
theorem Ev.each {α : Type} {l : List α} {p : α → Option Bool} {q : α → Prop} (hp : ∀ a ∈ l, Ev (p a) (q a)) (hl : l.length < 4611686018427387904) {o : Option Int} (ho : o = gIdx l (fun a => (p a).bind fun r => some (!r)) (l.length + 1) (0 : Int)) :
    Ev ((o.bind fun r => some (decide ((0 : Int) ≤ r))).bind fun r => some (!r)) (∀ a ∈ l, q a) :=
  ((Ev.contains (q := fun a => ¬ q a) (fun a ha => (hp a ha).neg) hl ho).neg).imp (by
    constructor
    · intro h a ha; exact Classical.byContradiction fun hq => h ⟨a, ha, hq⟩
    · rintro h ⟨a, ha, hq⟩; exact hq (h a ha))
end
end Go.Abs

namespace Go.Abs
set_option maxRecDepth 100000
noncomputable section
/-- a memory that can only be read, and where it lies -/
structure Lay (W : World) (e : Env) (m : M) : Prop where
  hr : HR e (toH m) W
  g : ∀ b, m.g b = none
  vz : ∀ b, m.nxt ≤ b → m.vw b = none
  base : e.base = W.heap
theorem Lay.nil (W : World) : Lay W { ρ := fun _ => none, sz := fun _ => 0, es := fun _ => 0, base := W.heap } { nxt := 0, g := fun _ => none, vw := fun _ => none } :=
  ⟨⟨fun _ _ => rfl, fun b o h => (by cases h), fun b b' o o' c h => (by cases h), Nat.le_refl _, fun b o c h => (by cases h), fun c cs t fr h => h, fun b q h => (by cases h)⟩, fun _ => rfl, fun _ _ => rfl, rfl⟩
theorem Lay.pre {W : World} {e : Env} {m : M} (h : Lay W e m) : Pre m m := ⟨.refl m, fun b _ => h.g b, h.vz⟩
/-- one more part of the heap can be read -/
theorem Lay.view {W : World} {e : Env} {m : M} (h : Lay W e m) {cb : Nat} (q : Option (Nat × List C)) (hq : ∀ q', q = some q' → ∃ c t fr, W.heap[cb]? = some (.cells c t fr) ∧ q'.1 + q'.2.length ≤ c.size ∧ All2 (CR e) q'.2 ((c.toList.drop q'.1).take q'.2.length)) :
    ∃ e' m', e.le e' ∧ SubV m m' ∧ Lay W e' m' ∧ m'.nxt = m.nxt + 1 ∧ e'.ρ m.nxt = some cb ∧ m'.vw m.nxt = q := by
  let e' : Env := { ρ := fun j => if j = m.nxt then some cb else e.ρ j, sz := e.sz, es := e.es, base := e.base }
  let m' : M := { nxt := m.nxt + 1, g := m.g, vw := fun j => if j = m.nxt then q else m.vw j }
  have hfresh : e.ρ m.nxt = none := h.hr.fresh _ (Nat.le_refl m.nxt)
  have hle : e.le e' := ⟨fun k c hk => by
    show (if k = m.nxt then some cb else e.ρ k) = some c
    rw [if_neg fun hkn => by rw [hkn, hfresh] at hk; cases hk]; exact hk, fun _ _ _ => rfl, fun _ _ _ => rfl, rfl⟩
  refine ⟨e', m', hle, ⟨Nat.le_succ _, fun b hb => if_neg (by omega), fun _ _ _ => rfl⟩, ⟨⟨fun b hb => ?_, fun b o hb => ?_, fun b b' o o' c hb => ?_, ?_⟩, h.g, fun b hb => ?_, h.base⟩, rfl, if_pos rfl, if_pos rfl⟩
  · have hb : m.nxt + 1 ≤ b := hb
    show (if b = m.nxt then some cb else e.ρ b) = none
    rw [if_neg (by omega)]
    exact h.hr.fresh b (show m.nxt ≤ b by omega)
  · have : m.g b = some o := hb
    rw [h.g b] at this; cases this
  · have : m.g b = some o := hb
    rw [h.g b] at this; cases this
  · refine ⟨h.hr.vws.lim, fun b o c hb => ?_, h.hr.vws.kept, fun b q' hb => ?_⟩
    · have : m.g b = some o := hb
      rw [h.g b] at this; cases this
    · have hb : (if b = m.nxt then q else m.vw b) = some q' := hb
      by_cases hbn : b = m.nxt
      · subst hbn
        rw [if_pos rfl] at hb
        obtain ⟨c, t, fr, h1, h2, h3⟩ := hq q' hb
        exact ⟨cb, c, t, fr, if_pos rfl, by show e.base[cb]? = _; rw [h.base]; exact h1, h2, h3.mono fun _ _ => CR.mono hle⟩
      · rw [if_neg hbn] at hb
        exact (h.hr.vws.view b q' hb).mono hle
  · have hb : m.nxt + 1 ≤ b := hb
    show (if b = m.nxt then q else m.vw b) = none
    rw [if_neg (by omega)]
    exact h.vz b (by omega)
/-- values of the type t are like α -/
def Opens (P : Program) (t : TypeId) (α : Type) [Rp α] (ok : α → Prop) : Prop :=
  ∀ (H : Type) (enc : TypeId × Value → H) (W : World) (held : Bool) (n : Nat) (cs : List Value) (x : DataW H × List MemPlace), DataW.trod enc P W 0 (fun _ => true) held n t cs = some x →
    ∀ (e : Env) (m : M), Lay W e m → ∃ e' m' vs a, e.le e' ∧ SubV m m' ∧ Lay W e' m' ∧ All2 (CR e') vs cs ∧ Rp.rep m' vs a ∧ ok a
variable {P : Program} {α β : Type} [Rp α] [Rp β]
theorem opens_int {t : TypeId} (hu : P.underlying t = some (.int .i64)) : Opens P t Int (fitsP .i64) := fun H enc W held n cs x hx e m hl => by
  obtain ⟨i, rfl, _, hw⟩ := DataW.trod_int hu hx
  exact ⟨e, m, [.int .i64 i], i, .refl _, .refl _, hl, .cons rfl .nil, rfl, wf_fits hw⟩
theorem opens_bool {t : TypeId} (hu : P.underlying t = some .bool) : Opens P t Bool (fun _ => True) := fun H enc W held n cs x hx e m hl => by
  obtain ⟨b, rfl, _⟩ := DataW.trod_bool hu hx
  exact ⟨e, m, [.bool b], b, .refl _, .refl _, hl, .cons rfl .nil, rfl, trivial⟩
/-- the elements of a slice, one after the other -/
theorem open_els {t : TypeId} {ok : α → Prop} (h : Opens P t α ok) {H : Type} {enc : TypeId × Value → H} {W : World} {held : Bool} {n b o : Nat} {c : Array Value} {tt : TypeId} {fr : Nat × Nat} (hb : W.heap[b]? = some (Obj.cells c tt fr)) :
    ∀ (len : Nat), (∀ i, i < len → ∃ cs x, W.cells? 0 ((⟨b, o, none⟩ : Addr).add (i * Rp.k α)) (Rp.k α) = some cs ∧ DataW.trod enc P W 0 (fun _ => true) held n t cs = some x) → ∀ (e : Env) (m : M), Lay W e m →
      ∃ e' m' vs l, e.le e' ∧ SubV m m' ∧ Lay W e' m' ∧ All2 (CR e') vs ((c.toList.drop o).take (len * Rp.k α)) ∧ Cat m' vs l ∧ l.length = len ∧ (∀ a ∈ l, ok a) ∧ vs.length = len * Rp.k α ∧ (0 < len → o + len * Rp.k α ≤ c.size)
  | 0, _, e, m, hl => ⟨e, m, [], ([] : List α), .refl _, .refl _, hl, by simp; exact .nil, rfl, rfl, by simp, by simp, fun h => by omega⟩
  | len + 1, hh, e, m, hl => by
    obtain ⟨e1, m1, vs, l, q1, q2, q3, q4, q5, q6, q7, q8, q9⟩ := open_els h hb len (fun i hi => hh i (by omega)) e m hl
    obtain ⟨cs, x, r1, r2⟩ := hh len (by omega)
    obtain ⟨e2, m2, ws, a, s1, s2, s3, s4, s5, s6⟩ := h H enc W held n cs x r2 e1 m1 q3
    obtain ⟨l1, l2⟩ := cells?_at r1
    have hk := Rp.pos (α := α)
    have hcell : ∀ j, j < Rp.k α → c[o + len * Rp.k α + j]? = cs[j]? := fun j hj => by
      rw [← l2 j hj, add_add, cell_of_row W b _ c tt fr hb]
    have hseg : cs = (c.toList.drop (o + len * Rp.k α)).take (Rp.k α) := by
      apply List.ext_getElem?
      intro j
      rw [List.getElem?_take]
      split
      · rename_i hj
        rw [List.getElem?_drop, ← hcell j hj]; simp
      · rw [List.getElem?_eq_none (by omega)]
    refine ⟨e2, m2, vs ++ ws, l ++ [a], q1.trans s1, q2.trans s2, s3, ?_, (Cat.subv s2 q5).app (Cat.one s5), by simp [q6], fun b hb => ?_, ?_, fun _ => ?_⟩
    · rw [Nat.add_mul, Nat.one_mul, List.take_add, List.drop_drop]
      exact (q4.mono fun _ _ => CR.mono s1).app (by rw [← hseg]; exact s4)
    · rcases List.mem_append.1 hb with hb | hb
      · exact q7 b hb
      · rw [List.mem_singleton.1 hb]; exact s6
    · rw [List.length_append, q8, Rp.len s5, Nat.add_mul, Nat.one_mul]
    · have := hcell (Rp.k α - 1) (by omega)
      rw [List.getElem?_eq_getElem (by omega)] at this
      have := (Array.getElem?_eq_some_iff.1 this).1
      rw [Nat.add_mul, Nat.one_mul]; omega
theorem opens_slice {t e : TypeId} {ok : α → Prop} (hu : P.underlying t = some (.slice e)) (hk : P.cellsOf e = Rp.k α) (h : Opens P e α ok) : Opens P t (List α) (fun l => l.length ≤ maxLen ∧ ∀ a ∈ l, ok a) := fun H enc W held n cs x hx en m hl => by
  rcases DataW.trod_slice hu hx with ⟨rfl, _⟩ | ⟨a, len, cap, elems, rest, m', rfl, rfl, _, _, hlc, hcm, hel, hat, hrest, _⟩
  · exact ⟨en, m, [.sl0], ([] : List α), .refl _, .refl _, hl, .cons rfl .nil, ⟨_, rfl, Sl.nil m⟩, Nat.zero_le _, by simp⟩
  · obtain ⟨hrl, hrat⟩ := hrest rfl
    rw [hk] at hat hrat
    have hpos := Rp.pos (α := α)
    have hany : ∀ i, i < cap → ∃ cs y, W.cells? 0 (a.add (i * Rp.k α)) (Rp.k α) = some cs ∧ DataW.trod enc P W 0 (fun _ => true) held m' e cs = some y := fun i hi => by
      have : ∃ y, (W.cells? 0 (a.add (i * Rp.k α)) (Rp.k α)).bind (DataW.trod enc P W 0 (fun _ => true) held m' e) = some y := by
        by_cases hil : i < len
        · have := hat i hil
          rw [List.getElem?_eq_getElem (by omega)] at this
          exact ⟨_, this⟩
        · have := hrat (i - len) (by omega)
          rw [List.getElem?_eq_getElem (by omega), show len + (i - len) = i by omega] at this
          exact ⟨_, this⟩
      obtain ⟨y, hy⟩ := this
      cases hc : W.cells? 0 (a.add (i * Rp.k α)) (Rp.k α) with
      | none => rw [hc] at hy; cases hy
      | some cs => rw [hc] at hy; exact ⟨cs, y, rfl, hy⟩
    by_cases hc0 : cap = 0
    · have hl0 : len = 0 := by omega
      subst hl0
      obtain ⟨e', m2, q1, q2, q3, q4, q5, q6⟩ := hl.view (cb := a.block) none (fun q h => by cases h)
      refine ⟨e', m2, [.sl m.nxt a.off 0 0 (some cap)], ([] : List α), q1, q2, q3, .cons ⟨a.block, a.spot, q5, rfl, Nat.zero_le _, hcm, .inr hc0⟩ .nil, ⟨_, rfl, [], ⟨by simp, .inr ⟨m.nxt, a.off, 0, some cap, rfl, by omega, fun h => absurd rfl h⟩⟩, rfl, .inr (.inl ⟨_, _, _, _, rfl, Nat.zero_le _⟩)⟩, Nat.zero_le _, by simp⟩
    · have hfirst : ∃ v, W.cell? a = some v := by
        obtain ⟨cs, y, h4, _⟩ := hany 0 (by omega)
        obtain ⟨l1, l2⟩ := cells?_at h4
        have := l2 0 hpos
        rw [List.getElem?_eq_getElem (by omega), Nat.zero_mul] at this
        exact ⟨_, this⟩
      obtain ⟨v, hv⟩ := hfirst
      unfold World.cell? at hv
      cases hb : W.heap[a.block]? with
      | none => rw [hb] at hv; cases hv
      | some ob =>
        rw [hb] at hv
        cases ob with
        | cells c tt fr =>
          have hsp : a.spot = none := by
            cases hq : a.spot with
            | none => rfl
            | some z => rw [hq] at hv; cases hv
          obtain ⟨b, o, sp⟩ := a
          have : sp = none := hsp
          subst this
          obtain ⟨e1, m1, vs, l, q1, q2, q3, q4, q5, q6, q7, q8, q9⟩ := open_els h (o := o) hb len (fun i hi => by
            obtain ⟨cs, y, h4, h5⟩ := hany i (by omega)
            exact ⟨cs, y, h4, h5⟩) en m hl
          obtain ⟨e', m2, r1, r2, r3, r4, r5, r6⟩ := q3.view (cb := b) (if len = 0 then none else some (o, vs)) (fun q' hq' => by
            by_cases hl0 : len = 0
            · rw [if_pos hl0] at hq'; cases hq'
            · rw [if_neg hl0] at hq'
              cases hq'
              refine ⟨c, tt, fr, hb, ?_, by rw [q8]; exact q4⟩
              show o + vs.length ≤ c.size
              rw [q8]; exact q9 (by omega))
          have hll : l.length = len := q6
          refine ⟨e', m2, [.sl m1.nxt o len 0 (some cap)], l, q1.trans r1, q2.trans r2, r3, .cons ⟨b, none, r5, rfl, hlc, hcm, .inl rfl⟩ .nil, ⟨_, rfl, vs, ⟨by rw [q8, hll], .inr ⟨m1.nxt, o, 0, some cap, by rw [hll], by omega, fun hne => .inr ⟨r3.g _, (o, vs), ?_, Nat.le_refl _, ?_, ?_⟩⟩⟩, Cat.subv r2 q5, .inr (.inl ⟨_, _, _, _, by rw [hll], by rw [hll]; exact hlc⟩)⟩, ?_, q7⟩
          · rw [r6, if_neg (by rw [← hll]; exact hne)]
          · show o - o + vs.length ≤ vs.length
            omega
          · show (vs.drop (o - o)).take vs.length = vs
            rw [Nat.sub_self, List.drop_zero, List.take_of_length_le (Nat.le_refl _)]
          · rw [hll]; omega
        | _ => cases hv
/-- the fields of a structure -/
def fieldsOf (P : Program) (t : TypeId) : Array Field := match P.underlying t with | some (.struct fs) => fs | _ => #[]
/-- fields (type and place), one after the other -/
def OpensFs (P : Program) (fs : List (TypeId × Nat)) (o : Nat) (n : Nat) (R : M → List C → Prop) : Prop :=
  ∀ (H : Type) (enc : TypeId × Value → H) (W : World) (held : Bool) (fu : Nat) (cs : List Value), (∀ f ∈ fs, ∃ x, DataW.trod enc P W 0 (fun _ => true) held fu f.1 ((cs.drop f.2).take (P.cellsOf f.1)) = some x) →
    ∀ (e : Env) (m : M), Lay W e m → ∃ e' m' vs, e.le e' ∧ SubV m m' ∧ Lay W e' m' ∧ All2 (CR e') vs ((cs.drop o).take n) ∧ R m' vs
theorem opensFs_nil {o : Nat} : OpensFs P [] o 0 (fun _ vs => vs = []) := fun H enc W held fu cs _ e m hl => ⟨e, m, [], .refl _, .refl _, hl, by simp; exact .nil, rfl⟩
theorem opensFs_cons {ft : TypeId} {fs : List (TypeId × Nat)} {o n k : Nat} {ok : α → Prop} {R : M → List C → Prop} (h : Opens P ft α ok) (hk : P.cellsOf ft = k) (hk' : Rp.k α = k) (h2 : OpensFs P fs (o + k) n R) :
    OpensFs P ((ft, o) :: fs) o (k + n) (fun m vs => ∃ a c r m0, vs = c ++ r ∧ Rp.rep m c (a : α) ∧ ok a ∧ SubV m0 m ∧ R m r) := fun H enc W held fu cs hf e m hl => by
  obtain ⟨x, hx⟩ := hf (ft, o) (List.mem_cons_self ..)
  obtain ⟨e1, m1, c, a, q1, q2, q3, q4, q5, q6⟩ := h H enc W held fu _ x hx e m hl
  obtain ⟨e2, m2, r, s1, s2, s3, s4, s5⟩ := h2 H enc W held fu cs (fun g hg => hf g (List.mem_cons_of_mem _ hg)) e1 m1 q3
  refine ⟨e2, m2, c ++ r, q1.trans s1, q2.trans s2, s3, ?_, a, c, r, m1, rfl, Rp.subv q5 s2, q6, s2, s5⟩
  rw [show P.cellsOf ((ft, o) : TypeId × Nat).1 = k from hk] at q4
  rw [List.take_add, List.drop_drop]
  exact (q4.mono fun _ _ => CR.mono s1).app s4
theorem opens_struct {t : TypeId} {fs : List (TypeId × Nat)} {n : Nat} {R : M → List C → Prop} {ok : β → Prop} (hu : P.underlying t = some (.struct (fieldsOf P t))) (hfs : (fieldsOf P t).toList.map (fun f => (f.type, f.offset)) = fs) (h : OpensFs P fs 0 n R) (hn : P.cellsOf t = n) (hR : ∀ m vs, R m vs → ∃ b : β, Rp.rep m vs b ∧ ok b) : Opens P t β ok := fun H enc W held nn cs x hx e m hl => by
  obtain ⟨ys, m', rfl, _, hl', hyl, hf⟩ := DataW.trod_struct hu hx
  obtain ⟨e', m2, vs, q1, q2, q3, q4, q5⟩ := h H enc W held m' cs (fun g hg => by
    rw [← hfs] at hg
    obtain ⟨f, hf', rfl⟩ := List.mem_map.1 hg
    obtain ⟨i, hi⟩ := List.mem_iff_getElem?.1 hf'
    have hi' : (fieldsOf P t)[i]? = some f := by simpa using hi
    have h3 := hf i f hi'
    have hlt : i < ys.length := by rw [hyl]; exact (Array.getElem?_eq_some_iff.1 hi').1
    rw [List.getElem?_eq_getElem hlt] at h3
    exact ⟨_, h3⟩) e m hl
  obtain ⟨b, r1, r2⟩ := hR _ _ q5
  refine ⟨e', m2, vs, b, q1, q2, q3, ?_, r1, r2⟩
  rw [List.drop_zero, List.take_of_length_le (by omega)] at q4
  exact q4
/-- after a call nothing of before is changed -/
theorem Lay.below {W W' : World} {e : Env} {m : M} (h : Lay W e m) {e' : Env} {h' : H} (hs : Step e (toH m) W e' h' W') : RowKit.Below W.heap.size W W' :=
  ⟨hs.os, hs.tape, hs.output, hs.size, fun k hk => hs.keep k hk fun b o hb => by
    have hb : m.g b = some o := hb
    rw [h.g b] at hb; cases hb⟩
theorem Lay.kept {W W' : World} {e : Env} {m : M} (h : Lay W e m) {e' : Env} {h' : H} (hs : Step e (toH m) W e' h' W') (may : MemPlace → Prop) : W.keptBut W' may := by
  refine ⟨hs.os, hs.output, fun i hi => ?_⟩
  rw [hs.keep i hi (fun b o hb => by
    have hb : m.g b = some o := hb
    rw [h.g b] at hb; cases hb)]
  cases W.heap[i]? with
  | none => rfl
  | some o => cases o <;> first | exact ⟨rfl, rfl, rfl, fun _ _ => rfl⟩ | exact Or.inr ⟨rfl, rfl⟩ | rfl
end
end Go.Abs

namespace Go.Abs
section
open Go.ChangeShapes Go.RowKit
variable {H : Type} {enc : TypeId × Value → H} {P : Program} {w : World} {base : Nat} {spare : Nat → Bool} {held : Bool}
theorem trodAll_five {t0 t1 t2 t3 t4 : TypeId} {args : Array Value} {ds : List (DataW H)} {ps : List MemPlace} (h : DataW.TrodAll enc P w base spare held [t0, t1, t2, t3, t4] args.toList ds ps) :
    ∃ v0 v1 v2 v3 v4 d0 d1 d2 d3 d4 p0 p1 p2 p3 p4, args = #[v0, v1, v2, v3, v4] ∧ ds = [d0, d1, d2, d3, d4] ∧ ps = p0 ++ p1 ++ p2 ++ p3 ++ p4 ∧ DataW.Trod enc P w base spare held t0 v0 d0 p0 ∧ DataW.Trod enc P w base spare held t1 v1 d1 p1 ∧ DataW.Trod enc P w base spare held t2 v2 d2 p2 ∧ DataW.Trod enc P w base spare held t3 v3 d3 p3 ∧ DataW.Trod enc P w base spare held t4 v4 d4 p4 := by
  obtain ⟨v0, vs, d0, e0, p0, q0, hargs, rfl, rfl, h0, r0⟩ := trodAll_cons h
  obtain ⟨v1, vs1, d1, e1, p1, q1, rfl, rfl, rfl, h1, r1⟩ := trodAll_cons r0
  obtain ⟨v2, vs2, d2, e2, p2, q2, rfl, rfl, rfl, h2, r2⟩ := trodAll_cons r1
  obtain ⟨v3, vs3, d3, e3, p3, q3, rfl, rfl, rfl, h3, r3⟩ := trodAll_cons r2
  obtain ⟨v4, vs4, d4, e4, p4, q4, rfl, rfl, rfl, h4, r4⟩ := trodAll_cons r3
  obtain ⟨rfl, rfl, rfl⟩ := trodAll_nil r4
  exact ⟨v0, v1, v2, v3, v4, d0, d1, d2, d3, d4, p0, p1, p2, p3, p4, by cases args; simp_all, rfl, by simp, h0, h1, h2, h3, h4⟩
theorem trodAll_mk5 {t0 t1 t2 t3 t4 : TypeId} {v0 v1 v2 v3 v4 : Value} {d0 d1 d2 d3 d4 : DataW H} {p0 p1 p2 p3 p4 : List MemPlace} (h0 : DataW.Trod enc P w base spare held t0 v0 d0 p0) (h1 : DataW.Trod enc P w base spare held t1 v1 d1 p1)
    (h2 : DataW.Trod enc P w base spare held t2 v2 d2 p2) (h3 : DataW.Trod enc P w base spare held t3 v3 d3 p3) (h4 : DataW.Trod enc P w base spare held t4 v4 d4 p4) : DataW.TrodAll enc P w base spare held [t0, t1, t2, t3, t4] [v0, v1, v2, v3, v4] [d0, d1, d2, d3, d4] (p0 ++ (p1 ++ (p2 ++ (p3 ++ p4)))) :=
  ⟨p0, p1 ++ (p2 ++ (p3 ++ p4)), h0, trodAll_mk4 h1 h2 h3 h4, rfl⟩
end
end Go.Abs

