/- What functions of the program ask and do. Condition: none; a lemma text of this claim. -/
import Derived.Test.YtgkjfhkjgdiodaaSpG
/- Functions that hand out values, and loops over them. -/
namespace Go.Abs
noncomputable section
variable {P : Program} {T : List (Nat × Bool)}

/-- all is kept but S and what is new -/
structure Chg (S : Nat → Prop) (m m' : M) : Prop where
  nxt : m.nxt ≤ m'.nxt
  g : ∀ b, b < m.nxt → ¬ S b → m'.g b = m.g b
  vw : m'.vw = m.vw
/-- blocks that are owned: those of before, and new ones -/
def Own (S : Nat → Prop) (m : M) (S' : Nat → Prop) : Prop := ∀ b, S' b → S b ∨ m.nxt ≤ b
/-- what is said of memory speaks of blocks of S alone -/
structure Local (n0 : Nat) (I : (Nat → Prop) → M → Prop) : Prop where
  st : ∀ S m m', I S m → m.nxt ≤ m'.nxt → m'.vw = m.vw → (∀ b, S b → m'.g b = m.g b) → (∀ b, b < n0 → m'.g b = m.g b) → I S m'
  lt : ∀ S m, I S m → ∀ b, S b → b < m.nxt
/-- calls of the body of the loop l: I i: i values have been handed out; E: no more are wanted -/
structure Client (P : Program) (T : List (Nat × Bool)) (n0 l : Nat) (xs : List (List V)) (I : Nat → (Nat → Prop) → M → Prop) (E : (Nat → Prop) → M → Prop) : Prop where
  li : ∀ i, Local n0 (I i)
  le : Local n0 E
  yield : ∀ i x S m, xs[i]? = some x → I i S m → ∀ Q : V → M → Prop, (∀ S' m', Own S m S' → Chg S m m' → I (i + 1) S' m' → Q (.c (.bool true)) m') → (∀ S' m', Own S m S' → Chg S m m' → E S' m' → Q (.c (.bool false)) m') → Wy P T l x m Q
/-- the function value hands out xs; it reads blocks of D, of which R holds -/
structure Iter (P : Program) (T : List (Nat × Bool)) (x : C) (xs : List (List V)) (D : Nat → Prop) (R : M → Prop) : Prop where
  st : ∀ m m', R m → m.nxt ≤ m'.nxt → m'.vw = m.vw → (∀ b, D b → m'.g b = m.g b) → R m'
  lt : ∀ m, R m → ∀ b, D b → b < m.nxt
  run : ∀ n0 l I E, Client P T n0 l xs I E → ∀ S m, n0 ≤ m.nxt → I 0 S m → R m → (∀ b, S b → ¬ D b) → ∀ Q : V → M → Prop, (∀ v S' m', Own S m S' → Chg S m m' → I xs.length S' m' ∨ E S' m' → Q v m') → callP P T [.c (.fn (.yield l) [] [])] x m Q

/-- A LOOP OVER WHAT IS HANDED OUT: J i: i rounds have been gone; X: the body has been left -/
theorem range_iter {g : FuncId} {a b : List W} {xs : List (List V)} {D : Nat → Prop} {R : M → Prop} (hi : Iter P T (.fn (.func g) a b) xs D R) {m : M} (hR : R m) {round : Round} {after : After}
    (J : Nat → (Nat → Prop) → M → Prop) (X : Ex → (Nat → Prop) → M → Prop) (hJ : ∀ i, Local m.nxt (J i)) (hX : ∀ ex, Local m.nxt (X ex)) {S0 : Nat → Prop} (h0 : J 0 S0 m) (hS0 : ∀ b, S0 b → ¬ D b)
    (hround : ∀ i x S m1 (B : M → Prop) (enter : M → (M → Prop) → Prop) (K : Ex → M → Prop), xs[i]? = some x → J i S m1 → m.nxt < m1.nxt → ¬ S m.nxt → Own S0 m S →
      (∀ m2 k, m2.g m.nxt = m1.g m.nxt → (∀ m3, m3.nxt = m2.nxt → m3.vw = m2.vw → (∀ b, b ≠ m.nxt → m3.g b = m2.g b) → (∀ m4 : M, m4.g m.nxt = m3.g m.nxt → B m4) → k m3) → enter m2 k) →
      (∀ ex S' m4, B m4 → m1.nxt ≤ m4.nxt → m4.vw = m1.vw → (∀ b, b < m1.nxt → ¬ S b → b ≠ m.nxt → m4.g b = m1.g b) → Own S m1 S' → (match ex with | .nrm => J (i + 1) S' m4 | .val _ => False | ex => X ex S' m4) → K ex m4) → round x m1 enter K)
    (hend : ∀ S' m5, Own S0 m S' → m.nxt < m5.nxt → m5.vw = m.vw → (∀ b, b < m.nxt → ¬ S0 b → m5.g b = m.g b) → J xs.length S' m5 → after.nrm m5)
    (hexit : ∀ id S' m5, Own S0 m S' → m.nxt < m5.nxt → m5.vw = m.vw → (∀ b, b < m.nxt → ¬ S0 b → m5.g b = m.g b) → X (.exit id) S' m5 → exitP id m5 after.exits)
    (hret : ∀ S' m5, Own S0 m S' → m.nxt < m5.nxt → m5.vw = m.vw → (∀ b, b < m.nxt → ¬ S0 b → m5.g b = m.g b) → X .ret S' m5 → after.ret m5) :
    rangeP P T (.fn (.func g) a b) m round after := by
  intro mk hy
  have hlt0 := (hJ 0).lt _ _ h0
  -- the client: the record of the loop is its own, too
  let I : Nat → (Nat → Prop) → M → Prop := fun i S m1 => ∃ SJ, (∀ b, S b ↔ SJ b ∨ b = m.nxt) ∧ ¬ SJ m.nxt ∧ m1.g m.nxt = some (mk .ready none) ∧ J i SJ m1 ∧ m.nxt < m1.nxt ∧ Own S0 m SJ
  let E : (Nat → Prop) → M → Prop := fun S m1 => ∃ SJ, (∀ b, S b ↔ SJ b ∨ b = m.nxt) ∧ ¬ SJ m.nxt ∧ m.nxt < m1.nxt ∧ Own S0 m SJ ∧ ((∃ id, m1.g m.nxt = some (mk .done (some (.exit id))) ∧ X (.exit id) SJ m1) ∨ (m1.g m.nxt = some (mk .done (some .ret)) ∧ X .ret SJ m1))
  have hc : Client P T m.nxt m.nxt xs I E := by
    refine ⟨fun i => ⟨fun S m1 m2 h hn hw hs h0' => ?_, fun S m1 h b hb => ?_⟩, ⟨fun S m1 m2 h hn hw hs h0' => ?_, fun S m1 h b hb => ?_⟩, fun i x S m1 hx h Q hT hF => ?_⟩
    · obtain ⟨SJ, q1, q2, q3, q4, q5, q6⟩ := h
      exact ⟨SJ, q1, q2, by rw [hs _ ((q1 _).2 (.inr rfl))]; exact q3, (hJ i).st _ _ _ q4 hn hw (fun b hb => hs b ((q1 b).2 (.inl hb))) h0', by omega, q6⟩
    · obtain ⟨SJ, q1, q2, q3, q4, q5, q6⟩ := h
      rcases (q1 b).1 hb with hb | hb
      · exact (hJ i).lt _ _ q4 b hb
      · omega
    · obtain ⟨SJ, q1, q2, q5, q6, q7⟩ := h
      refine ⟨SJ, q1, q2, by omega, q6, ?_⟩
      have hl : m2.g m.nxt = m1.g m.nxt := hs _ ((q1 _).2 (.inr rfl))
      rcases q7 with ⟨id, q8, q9⟩ | ⟨q8, q9⟩
      · exact .inl ⟨id, by rw [hl]; exact q8, (hX _).st _ _ _ q9 hn hw (fun b hb => hs b ((q1 b).2 (.inl hb))) h0'⟩
      · exact .inr ⟨by rw [hl]; exact q8, (hX _).st _ _ _ q9 hn hw (fun b hb => hs b ((q1 b).2 (.inl hb))) h0'⟩
    · obtain ⟨SJ, q1, q2, q5, q6, q7⟩ := h
      rcases (q1 b).1 hb with hb | hb
      · rcases q7 with ⟨id, q8, q9⟩ | ⟨q8, q9⟩
        · exact (hX _).lt _ _ q9 b hb
        · exact (hX _).lt _ _ q9 b hb
      · omega
    · obtain ⟨SJ, q1, q2, q3, q4, q5, q6⟩ := h
      refine hy x m1 Q q3 (hround i x SJ m1 (fun m4 => m4.g m.nxt = some (mk .busy none)) _ _ hx q4 q5 q2 q6 (fun m2 k hm2 hk => ⟨by rw [hm2]; exact q3, hk _ (M.nxt_set ..) rfl (fun b hb => by rw [M.g_set, if_neg hb]) fun m4 hm4 => by rw [hm4, M.g_set, if_pos rfl]⟩) fun ex S' m4 hB hn hvw hfr hown hres => ?_)
      have hS'l : ¬ S' m.nxt := fun h => by
        rcases hown _ h with h | h
        · exact q2 h
        · omega
      have hown2 : Own S m1 (fun b => S' b ∨ b = m.nxt) := fun b hb => by
        rcases hb with hb | hb
        · exact (hown b hb).imp (fun h => (q1 b).2 (.inl h)) id
        · exact .inl ((q1 b).2 (.inr hb))
      have hown3 : Own S0 m S' := fun b hb => by
        rcases hown b hb with h | h
        · exact q6 b h
        · exact .inr (by omega)
      have hchg : ∀ o, Chg S m1 (m4.set m.nxt o) := fun o => ⟨hn, fun b hb hSb => by
        have hbl : b ≠ m.nxt := fun h => hSb ((q1 b).2 (.inr h))
        rw [M.g_set, if_neg hbl]
        exact hfr b hb (fun h => hSb ((q1 b).2 (.inl h))) hbl, hvw⟩
      have hset : ∀ o b, S' b → (m4.set m.nxt o).g b = m4.g b := fun o b hb => by
        rw [M.g_set, if_neg fun h => hS'l (by rw [← h]; exact hb)]
      have hlow : ∀ o b, b < m.nxt → (m4.set m.nxt o).g b = m4.g b := fun o b hb => by rw [M.g_set, if_neg (by omega)]
      refine ⟨⟨_, _, hB⟩, ?_⟩
      cases ex with
      | nrm => exact hT _ _ hown2 (hchg _) ⟨S', fun b => Iff.rfl, hS'l, by rw [M.g_set, if_pos rfl], (hJ _).st _ _ _ hres (Nat.le_refl _) rfl (hset _) (hlow _), by show m.nxt < m4.nxt; omega, hown3⟩
      | exit id => exact hF _ _ hown2 (hchg _) ⟨S', fun b => Iff.rfl, hS'l, by show m.nxt < m4.nxt; omega, hown3, .inl ⟨id, by rw [M.g_set, if_pos rfl], (hX _).st _ _ _ hres (Nat.le_refl _) rfl (hset _) (hlow _)⟩⟩
      | ret => exact hF _ _ hown2 (hchg _) ⟨S', fun b => Iff.rfl, hS'l, by show m.nxt < m4.nxt; omega, hown3, .inr ⟨by rw [M.g_set, if_pos rfl], (hX _).st _ _ _ hres (Nat.le_refl _) rfl (hset _) (hlow _)⟩⟩
      | val v => exact hres.elim
  have hDlt := hi.lt _ hR
  have hRn : R (m.new (mk .ready none)) := hi.st _ _ hR (Nat.le_succ _) rfl fun b hb => by rw [M.g_new, if_neg (by have := hDlt b hb; omega)]
  have hI0 : I 0 (fun b => S0 b ∨ b = m.nxt) (m.new (mk .ready none)) := ⟨S0, fun b => Iff.rfl, fun h => by have := hlt0 _ h; omega, by rw [M.g_new, if_pos rfl], (hJ 0).st _ _ _ h0 (Nat.le_succ _) rfl (fun b hb => by rw [M.g_new, if_neg (by have := hlt0 b hb; omega)]) (fun b hb => by rw [M.g_new, if_neg (by omega)]), Nat.lt_succ_self _, fun b hb => .inl hb⟩
  refine hi.run m.nxt m.nxt I E hc _ _ (Nat.le_succ _) hI0 hRn (fun b hb hD => ?_) _ fun v S' m5 hown hchg hfin => ?_
  · rcases hb with hb | hb
    · exact hS0 b hb hD
    · have := hDlt b hD; omega
  · have hvw5 : (m5.del m.nxt).vw = m.vw := hchg.vw
    have hfr : ∀ b, b < m.nxt → ¬ S0 b → (m5.del m.nxt).g b = m.g b := fun b hb hS => by
      rw [M.g_del, if_neg (by omega), hchg.g b (by show b < m.nxt + 1; omega) (fun h => h.elim hS fun h => by omega), M.g_new, if_neg (by omega)]
    have hlowd : ∀ b, b < m.nxt → (m5.del m.nxt).g b = m5.g b := fun b hb => by rw [M.g_del, if_neg (by omega)]
    have hdel : ∀ SJ : Nat → Prop, ¬ SJ m.nxt → ∀ b, SJ b → (m5.del m.nxt).g b = m5.g b := fun SJ hl b hb => by rw [M.g_del, if_neg fun h => hl (by rw [← h]; exact hb)]
    rcases hfin with ⟨SJ, q1, q2, q3, q4, q5, q6⟩ | ⟨SJ, q1, q2, q5, q6, q7⟩
    · exact ⟨_, _, q3, (fun h => by cases h), hend SJ _ q6 q5 hvw5 hfr ((hJ _).st _ _ _ q4 (Nat.le_refl _) rfl (hdel SJ q2) hlowd)⟩
    · rcases q7 with ⟨id, q8, q9⟩ | ⟨q8, q9⟩
      · exact ⟨_, _, q8, (fun h => by cases h), hexit id SJ _ q6 q5 hvw5 hfr ((hX _).st _ _ _ q9 (Nat.le_refl _) rfl (hdel SJ q2) hlowd)⟩
      · exact ⟨_, _, q8, (fun h => by cases h), hret SJ _ q6 q5 hvw5 hfr ((hX _).st _ _ _ q9 (Nat.le_refl _) rfl (hdel SJ q2) hlowd)⟩

end
end Go.Abs
