/- What functions of the program ask and do. Condition: none; a lemma text of this claim. -/
import Derived.Test.YtbhdgedghfibcaaTab
import Derived.KernelRfl
import Derived.ProofKit

namespace Go.Abs
noncomputable section
/-- m' is m but for block b -/
structure St1 (m m' : M) (b : Nat) : Prop where
  nxt : m'.nxt = m.nxt
  vw : m'.vw = m.vw
  g : ∀ b', b' ≠ b → m'.g b' = m.g b'
theorem St1.of_set {m m' : M} {b : Nat} {o : AO} (h : m' = m.set b o) : St1 m m' b := by
  subst h
  exact ⟨rfl, rfl, fun b' hb => by rw [M.g_set, if_neg hb]⟩
theorem Ext.st1 {m0 m m' : M} {b : Nat} (e : Ext m0 m) (s : St1 m m' b) (hb : m0.nxt ≤ b) : Ext m0 m' := ⟨by rw [s.nxt]; exact e.nxt, fun b' hb' => (s.g b' (by omega)).trans (e.g b' hb'), s.vw.trans e.vw⟩
theorem Bk.sto {m : M} {b n : Nat} {ws : List C} (h : Bk m b n ws) (vs : List C) : ∃ m', stC m (.ptr b 0) n vs = some m' ∧ Bk m' b n vs ∧ St1 m m' b := ⟨_, h.st vs, h.set vs, .of_set rfl⟩
theorem Bk.sto1 {m : M} {b n : Nat} {vs : List C} (h : Bk m b n vs) (k : Nat) (c : C) (hk : k < vs.length) (hn : vs.length = n) : ∃ m', stC m (.ptr b k) 1 [c] = some m' ∧ Bk m' b n (vs.set k c) ∧ St1 m m' b := by
  by_cases h1 : n = 1
  · subst h1
    have hk0 : k = 0 := by omega
    subst hk0
    have : vs.set 0 c = [c] := by
      match vs, hn with
      | [a], _ => rfl
    exact ⟨_, stC_of h.g [c], by rw [this]; exact h.set _, .of_set rfl⟩
  · exact ⟨_, stC_at h.g c hk hn h1, h.set _, .of_set rfl⟩
/-- a cell of a slice of one's own -/
theorem Own1.sto {m : M} {k n : Nat} {x : C} {vs : List C} (h : Own1 m k x vs n) (i : Nat) (c : C) (hi : i < vs.length) (h1 : 1 < vs.length) :
    ∃ b s d m', x = .sl b 0 n s d ∧ b < m.nxt ∧ (slB x = none ∨ slB x = some b) ∧ stC m (.ptr b i) 1 [c] = some m' ∧ Own1 m' k x (vs.set i c) n ∧ St1 m m' b := by
  have hl := h.len
  have hx := h.own
  cases hx with
  | nil h2 h3 => rw [h3] at hi; simp at hi
  | grown b hg hb => exact ⟨b, k, none, _, rfl, hb, .inr rfl, stC_at hg c hi (by omega) (by omega), ⟨by rw [List.length_set]; exact hl, .grown b (by rw [M.g_set, if_pos rfl]) hb⟩, .of_set rfl⟩
  | lit b hg hb => exact ⟨b, 0, some n, _, rfl, hb, .inl rfl, stC_at hg c hi (by omega) (by omega), ⟨by rw [List.length_set]; exact hl, .lit b (by rw [M.g_set, if_pos rfl]) hb⟩, .of_set rfl⟩
end
end Go.Abs

namespace Go.Abs
noncomputable section
variable {P : Program} {T : List (Nat × Bool)}
/-- all is kept but S and what is new -/
structure Chg (S : Nat → Prop) (m m' : M) : Prop where
  nxt : m.nxt ≤ m'.nxt
  g : ∀ b, b < m.nxt → ¬ S b → m'.g b = m.g b
  vw : m'.vw = m.vw
/-- blocks that are owned: those of before, and new ones -/
def Own (S : Nat → Prop) (m : M) (S' : Nat → Prop) : Prop := ∀ b, S' b → S b ∨ m.nxt ≤ b
/-- what is said of memory speaks of blocks of S alone -/
structure Local (n0 : Nat) (I : (Nat → Prop) → M → Prop) : Prop where
  st : ∀ S m m', I S m → m.nxt ≤ m'.nxt → m'.vw = m.vw → (∀ b, S b → m'.g b = m.g b) → (∀ b, b < n0 → m'.g b = m.g b) → I S m'
  lt : ∀ S m, I S m → ∀ b, S b → b < m.nxt
/-- calls of the body of the loop l: I i: i values have been handed out; E: no more are wanted -/
structure Client (P : Program) (T : List (Nat × Bool)) (n0 l : Nat) (xs : List (List V)) (I : Nat → (Nat → Prop) → M → Prop) (E : (Nat → Prop) → M → Prop) : Prop where
  li : ∀ i, Local n0 (I i)
  le : Local n0 E
  yield : ∀ i x S m, xs[i]? = some x → I i S m → ∀ Q : V → M → Prop, (∀ S' m', Own S m S' → Chg S m m' → I (i + 1) S' m' → Q (.c (.bool true)) m') → (∀ S' m', Own S m S' → Chg S m m' → E S' m' → Q (.c (.bool false)) m') → Wy P T l x m Q
/-- the function value hands out xs; it reads blocks of D, of which R holds -/
structure Iter (P : Program) (T : List (Nat × Bool)) (x : C) (xs : List (List V)) (D : Nat → Prop) (R : M → Prop) : Prop where
  st : ∀ m m', R m → m.nxt ≤ m'.nxt → m'.vw = m.vw → (∀ b, D b → m'.g b = m.g b) → R m'
  lt : ∀ m, R m → ∀ b, D b → b < m.nxt
  run : ∀ n0 l I E, Client P T n0 l xs I E → ∀ S m, n0 ≤ m.nxt → I 0 S m → R m → (∀ b, S b → ¬ D b) → ∀ Q : V → M → Prop, (∀ v S' m', Own S m S' → Chg S m m' → I xs.length S' m' ∨ E S' m' → Q v m') → callP P T [.c (.fn (.yield l) [] [])] x m Q
/-- A LOOP OVER WHAT IS HANDED OUT: J i: i rounds have been gone; X: the body has been left -/
theorem range_iter {g : FuncId} {a b : List W} {xs : List (List V)} {D : Nat → Prop} {R : M → Prop} (hi : Iter P T (.fn (.func g) a b) xs D R) {m : M} (hR : R m) {round : Round} {after : After}
    (J : Nat → (Nat → Prop) → M → Prop) (X : Ex → (Nat → Prop) → M → Prop) (hJ : ∀ i, Local m.nxt (J i)) (hX : ∀ ex, Local m.nxt (X ex)) {S0 : Nat → Prop} (h0 : J 0 S0 m) (hS0 : ∀ b, S0 b → ¬ D b)
    (hround : ∀ i x S m1 (B : M → Prop) (enter : M → (M → Prop) → Prop) (K : Ex → M → Prop), xs[i]? = some x → J i S m1 → m.nxt < m1.nxt → ¬ S m.nxt → Own S0 m S →
      (∀ m2 k, m2.g m.nxt = m1.g m.nxt → (∀ m3, m3.nxt = m2.nxt → m3.vw = m2.vw → (∀ b, b ≠ m.nxt → m3.g b = m2.g b) → (∀ m4 : M, m4.g m.nxt = m3.g m.nxt → B m4) → k m3) → enter m2 k) →
      (∀ ex S' m4, B m4 → m1.nxt ≤ m4.nxt → m4.vw = m1.vw → (∀ b, b < m1.nxt → ¬ S b → b ≠ m.nxt → m4.g b = m1.g b) → Own S m1 S' → (match ex with | .nrm => J (i + 1) S' m4 | .val _ => False | ex => X ex S' m4) → K ex m4) → round x m1 enter K)
    (hend : ∀ S' m5, Own S0 m S' → m.nxt < m5.nxt → m5.vw = m.vw → (∀ b, b < m.nxt → ¬ S0 b → m5.g b = m.g b) → J xs.length S' m5 → after.nrm m5)
    (hexit : ∀ id S' m5, Own S0 m S' → m.nxt < m5.nxt → m5.vw = m.vw → (∀ b, b < m.nxt → ¬ S0 b → m5.g b = m.g b) → X (.exit id) S' m5 → exitP id m5 after.exits)
    (hret : ∀ S' m5, Own S0 m S' → m.nxt < m5.nxt → m5.vw = m.vw → (∀ b, b < m.nxt → ¬ S0 b → m5.g b = m.g b) → X .ret S' m5 → after.ret m5) :
    rangeP P T (.fn (.func g) a b) m round after := by
  intro mk hy
  have hlt0 := (hJ 0).lt _ _ h0
  -- the client: the record of the loop is its own, too
  let I : Nat → (Nat → Prop) → M → Prop := fun i S m1 => ∃ SJ, (∀ b, S b ↔ SJ b ∨ b = m.nxt) ∧ ¬ SJ m.nxt ∧ m1.g m.nxt = some (mk .ready none) ∧ J i SJ m1 ∧ m.nxt < m1.nxt ∧ Own S0 m SJ
  let E : (Nat → Prop) → M → Prop := fun S m1 => ∃ SJ, (∀ b, S b ↔ SJ b ∨ b = m.nxt) ∧ ¬ SJ m.nxt ∧ m.nxt < m1.nxt ∧ Own S0 m SJ ∧ ((∃ id, m1.g m.nxt = some (mk .done (some (.exit id))) ∧ X (.exit id) SJ m1) ∨ (m1.g m.nxt = some (mk .done (some .ret)) ∧ X .ret SJ m1))
  have hc : Client P T m.nxt m.nxt xs I E := by
    refine ⟨fun i => ⟨fun S m1 m2 h hn hw hs h0' => ?_, fun S m1 h b hb => ?_⟩, ⟨fun S m1 m2 h hn hw hs h0' => ?_, fun S m1 h b hb => ?_⟩, fun i x S m1 hx h Q hT hF => ?_⟩
    · obtain ⟨SJ, q1, q2, q3, q4, q5, q6⟩ := h
      exact ⟨SJ, q1, q2, by rw [hs _ ((q1 _).2 (.inr rfl))]; exact q3, (hJ i).st _ _ _ q4 hn hw (fun b hb => hs b ((q1 b).2 (.inl hb))) h0', by omega, q6⟩
    · obtain ⟨SJ, q1, q2, q3, q4, q5, q6⟩ := h
      rcases (q1 b).1 hb with hb | hb
      · exact (hJ i).lt _ _ q4 b hb
      · omega
    · obtain ⟨SJ, q1, q2, q5, q6, q7⟩ := h
      refine ⟨SJ, q1, q2, by omega, q6, ?_⟩
      have hl : m2.g m.nxt = m1.g m.nxt := hs _ ((q1 _).2 (.inr rfl))
      rcases q7 with ⟨id, q8, q9⟩ | ⟨q8, q9⟩
      · exact .inl ⟨id, by rw [hl]; exact q8, (hX _).st _ _ _ q9 hn hw (fun b hb => hs b ((q1 b).2 (.inl hb))) h0'⟩
      · exact .inr ⟨by rw [hl]; exact q8, (hX _).st _ _ _ q9 hn hw (fun b hb => hs b ((q1 b).2 (.inl hb))) h0'⟩
    · obtain ⟨SJ, q1, q2, q5, q6, q7⟩ := h
      rcases (q1 b).1 hb with hb | hb
      · rcases q7 with ⟨id, q8, q9⟩ | ⟨q8, q9⟩
        · exact (hX _).lt _ _ q9 b hb
        · exact (hX _).lt _ _ q9 b hb
      · omega
    · obtain ⟨SJ, q1, q2, q3, q4, q5, q6⟩ := h
      refine hy x m1 Q q3 (hround i x SJ m1 (fun m4 => m4.g m.nxt = some (mk .busy none)) _ _ hx q4 q5 q2 q6 (fun m2 k hm2 hk => ⟨by rw [hm2]; exact q3, hk _ (M.nxt_set ..) rfl (fun b hb => by rw [M.g_set, if_neg hb]) fun m4 hm4 => by rw [hm4, M.g_set, if_pos rfl]⟩) fun ex S' m4 hB hn hvw hfr hown hres => ?_)
      have hS'l : ¬ S' m.nxt := fun h => by
        rcases hown _ h with h | h
        · exact q2 h
        · omega
      have hown2 : Own S m1 (fun b => S' b ∨ b = m.nxt) := fun b hb => by
        rcases hb with hb | hb
        · exact (hown b hb).imp (fun h => (q1 b).2 (.inl h)) id
        · exact .inl ((q1 b).2 (.inr hb))
      have hown3 : Own S0 m S' := fun b hb => by
        rcases hown b hb with h | h
        · exact q6 b h
        · exact .inr (by omega)
      have hchg : ∀ o, Chg S m1 (m4.set m.nxt o) := fun o => ⟨hn, fun b hb hSb => by
        have hbl : b ≠ m.nxt := fun h => hSb ((q1 b).2 (.inr h))
        rw [M.g_set, if_neg hbl]
        exact hfr b hb (fun h => hSb ((q1 b).2 (.inl h))) hbl, hvw⟩
      have hset : ∀ o b, S' b → (m4.set m.nxt o).g b = m4.g b := fun o b hb => by
        rw [M.g_set, if_neg fun h => hS'l (by rw [← h]; exact hb)]
      have hlow : ∀ o b, b < m.nxt → (m4.set m.nxt o).g b = m4.g b := fun o b hb => by rw [M.g_set, if_neg (by omega)]
      refine ⟨⟨_, _, hB⟩, ?_⟩
      cases ex with
      | nrm => exact hT _ _ hown2 (hchg _) ⟨S', fun b => Iff.rfl, hS'l, by rw [M.g_set, if_pos rfl], (hJ _).st _ _ _ hres (Nat.le_refl _) rfl (hset _) (hlow _), by show m.nxt < m4.nxt; omega, hown3⟩
      | exit id => exact hF _ _ hown2 (hchg _) ⟨S', fun b => Iff.rfl, hS'l, by show m.nxt < m4.nxt; omega, hown3, .inl ⟨id, by rw [M.g_set, if_pos rfl], (hX _).st _ _ _ hres (Nat.le_refl _) rfl (hset _) (hlow _)⟩⟩
      | ret => exact hF _ _ hown2 (hchg _) ⟨S', fun b => Iff.rfl, hS'l, by show m.nxt < m4.nxt; omega, hown3, .inr ⟨by rw [M.g_set, if_pos rfl], (hX _).st _ _ _ hres (Nat.le_refl _) rfl (hset _) (hlow _)⟩⟩
      | val v => exact hres.elim
  have hDlt := hi.lt _ hR
  have hRn : R (m.new (mk .ready none)) := hi.st _ _ hR (Nat.le_succ _) rfl fun b hb => by rw [M.g_new, if_neg (by have := hDlt b hb; omega)]
  have hI0 : I 0 (fun b => S0 b ∨ b = m.nxt) (m.new (mk .ready none)) := ⟨S0, fun b => Iff.rfl, fun h => by have := hlt0 _ h; omega, by rw [M.g_new, if_pos rfl], (hJ 0).st _ _ _ h0 (Nat.le_succ _) rfl (fun b hb => by rw [M.g_new, if_neg (by have := hlt0 b hb; omega)]) (fun b hb => by rw [M.g_new, if_neg (by omega)]), Nat.lt_succ_self _, fun b hb => .inl hb⟩
  refine hi.run m.nxt m.nxt I E hc _ _ (Nat.le_succ _) hI0 hRn (fun b hb hD => ?_) _ fun v S' m5 hown hchg hfin => ?_
  · rcases hb with hb | hb
    · exact hS0 b hb hD
    · have := hDlt b hD; omega
  · have hvw5 : (m5.del m.nxt).vw = m.vw := hchg.vw
    have hfr : ∀ b, b < m.nxt → ¬ S0 b → (m5.del m.nxt).g b = m.g b := fun b hb hS => by
      rw [M.g_del, if_neg (by omega), hchg.g b (by show b < m.nxt + 1; omega) (fun h => h.elim hS fun h => by omega), M.g_new, if_neg (by omega)]
    have hlowd : ∀ b, b < m.nxt → (m5.del m.nxt).g b = m5.g b := fun b hb => by rw [M.g_del, if_neg (by omega)]
    have hdel : ∀ SJ : Nat → Prop, ¬ SJ m.nxt → ∀ b, SJ b → (m5.del m.nxt).g b = m5.g b := fun SJ hl b hb => by rw [M.g_del, if_neg fun h => hl (by rw [← h]; exact hb)]
    rcases hfin with ⟨SJ, q1, q2, q3, q4, q5, q6⟩ | ⟨SJ, q1, q2, q5, q6, q7⟩
    · exact ⟨_, _, q3, (fun h => by cases h), hend SJ _ q6 q5 hvw5 hfr ((hJ _).st _ _ _ q4 (Nat.le_refl _) rfl (hdel SJ q2) hlowd)⟩
    · rcases q7 with ⟨id, q8, q9⟩ | ⟨q8, q9⟩
      · exact ⟨_, _, q8, (fun h => by cases h), hexit id SJ _ q6 q5 hvw5 hfr ((hX _).st _ _ _ q9 (Nat.le_refl _) rfl (hdel SJ q2) hlowd)⟩
      · exact ⟨_, _, q8, (fun h => by cases h), hret SJ _ q6 q5 hvw5 hfr ((hX _).st _ _ _ q9 (Nat.le_refl _) rfl (hdel SJ q2) hlowd)⟩
end
end Go.Abs

namespace Go.Abs
set_option maxRecDepth 100000
noncomputable section
variable {P : Program}
/-- what lies in f lies in m -/
structure Sub (f m : M) : Prop where
  nxt : f.nxt ≤ m.nxt
  vw : m.vw = f.vw
  g : ∀ b, b < f.nxt → (f.g b ≠ none ∨ f.vw b ≠ none) → m.g b = f.g b
theorem Sub.refl (m : M) : Sub m m := ⟨Nat.le_refl _, rfl, fun _ _ _ => rfl⟩
theorem Sub.trans {a b c : M} (h : Sub a b) (h' : Sub b c) : Sub a c := ⟨Nat.le_trans h.nxt h'.nxt, h'.vw.trans h.vw, fun x hx hn => by
  have h1 := h.g x hx hn
  rw [← h1]
  exact h'.g x (Nat.lt_of_lt_of_le hx h.nxt) (by rw [h1, h.vw]; exact hn)⟩
theorem Sub.of_ext {m m' : M} (h : Ext m m') : Sub m m' := ⟨h.nxt, h.vw, fun b hb _ => h.g b hb⟩
/-- the same, but there may be more to read in m -/
structure SubV (f m : M) : Prop where
  nxt : f.nxt ≤ m.nxt
  vw : ∀ b, b < f.nxt → m.vw b = f.vw b
  g : ∀ b, b < f.nxt → (f.g b ≠ none ∨ f.vw b ≠ none) → m.g b = f.g b
theorem Sub.v {f m : M} (h : Sub f m) : SubV f m := ⟨h.nxt, fun b _ => by rw [h.vw], h.g⟩
theorem SubV.refl (m : M) : SubV m m := (Sub.refl m).v
theorem SubV.trans {a b c : M} (h : SubV a b) (h' : SubV b c) : SubV a c := ⟨Nat.le_trans h.nxt h'.nxt, fun x hx => (h'.vw x (Nat.lt_of_lt_of_le hx h.nxt)).trans (h.vw x hx), fun x hx hn => by
  have h1 := h.g x hx hn
  rw [← h1]
  exact h'.g x (Nat.lt_of_lt_of_le hx h.nxt) (by rw [h1, h.vw x hx]; exact hn)⟩
theorem Seg.to' {m m' : M} {b o : Nat} {vs : List C} (h : Seg m b o vs) (hg : m'.g b = m.g b) (hv : m'.vw b = m.vw b) : Seg m' b o vs := by
  unfold Seg
  rw [hg, hv]
  exact h
theorem Seg.subv {f m : M} {b o : Nat} {vs : List C} (h : Seg f b o vs) (hb : b < f.nxt) (s : SubV f m) : Seg m b o vs := by
  refine h.to' ?_ (s.vw b hb)
  rcases h with ⟨n, ws, op, h1, _⟩ | ⟨h1, q, h2, _⟩
  · exact s.g b hb (.inl (by rw [h1]; exact Option.some_ne_none _))
  · exact s.g b hb (.inr (by rw [h2]; exact Option.some_ne_none _))
theorem Ls.subv {f m : M} {k n : Nat} {x : C} {vs : List C} (h : Ls f k x vs n) (s : SubV f m) : Ls m k x vs n := by
  refine ⟨h.len, ?_⟩
  rcases h.val with h1 | ⟨b, o, t, c, h1, h2, h3⟩
  · exact .inl h1
  · exact .inr ⟨b, o, t, c, h1, Nat.lt_of_lt_of_le h2 s.nxt, fun h0 => (h3 h0).subv h2 s⟩
theorem Ls.sub {f m : M} {k n : Nat} {x : C} {vs : List C} (h : Ls f k x vs n) (s : Sub f m) : Ls m k x vs n := h.subv s.v
/-- a type of values, and how they lie in memory -/
class Rp (α : Type) where
  k : Nat
  pos : 0 < k
  rep : M → List C → α → Prop
  len : ∀ {m : M} {cs : List C} {a : α}, rep m cs a → cs.length = k
  subv : ∀ {f m : M} {cs : List C} {a : α}, rep f cs a → SubV f m → rep m cs a
theorem Rp.sub {α : Type} [Rp α] {f m : M} {cs : List C} {a : α} (h : Rp.rep f cs a) (s : Sub f m) : Rp.rep m cs a := Rp.subv h s.v
/-- one after the other -/
def Cat {α : Type} [Rp α] (f : M) : List C → List α → Prop
  | vs, [] => vs = []
  | vs, a :: l => ∃ c r, vs = c ++ r ∧ Rp.rep f c a ∧ Cat f r l
variable {α β : Type} [Rp α] [Rp β]
theorem Cat.subv {f m : M} (s : SubV f m) : ∀ {l : List α} {vs : List C}, Cat f vs l → Cat m vs l
  | [], _, h => h
  | _ :: _, _, ⟨c, r, h1, h2, h3⟩ => ⟨c, r, h1, Rp.subv h2 s, Cat.subv s h3⟩
theorem Cat.sub {f m : M} (s : Sub f m) {l : List α} {vs : List C} (h : Cat f vs l) : Cat m vs l := Cat.subv s.v h
theorem Cat.len {f : M} : ∀ {l : List α} {vs : List C}, Cat f vs l → l.length * Rp.k α = vs.length
  | [], _, h => by have h : _ = [] := h; rw [h]; simp
  | _ :: l, _, ⟨c, r, h1, h2, h3⟩ => by rw [h1, List.length_append, Rp.len h2, ← Cat.len h3, List.length_cons, Nat.add_mul, Nat.one_mul, Nat.add_comm]
theorem Cat.app {f : M} : ∀ {l l' : List α} {vs vs' : List C}, Cat f vs l → Cat f vs' l' → Cat f (vs ++ vs') (l ++ l')
  | [], _, _, _, h, h' => by have h : _ = [] := h; rw [h]; exact h'
  | _ :: _, _, _, _, ⟨c, r, h1, h2, h3⟩, h' => ⟨c, r ++ _, by rw [h1, List.append_assoc], h2, Cat.app h3 h'⟩
theorem Cat.one {f : M} {cs : List C} {a : α} (h : Rp.rep f cs a) : Cat f cs [a] := ⟨cs, [], by simp, h, rfl⟩
theorem Cat.at {f : M} : ∀ {l : List α} {vs : List C}, Cat f vs l → ∀ {n : Nat} {a : α}, l[n]? = some a → n * Rp.k α + Rp.k α ≤ vs.length ∧ Rp.rep f ((vs.drop (n * Rp.k α)).take (Rp.k α)) a
  | [], _, _, n, a, hn => by simp at hn
  | x :: l, _, ⟨c, r, h1, h2, h3⟩, 0, a, hn => by
    have : x = a := by simpa using hn
    subst this
    have hl := Rp.len h2
    refine ⟨by rw [h1, List.length_append]; omega, ?_⟩
    rw [Nat.zero_mul, List.drop_zero, h1, List.take_append_of_le_length (by omega), List.take_of_length_le (by omega)]; exact h2
  | x :: l, _, ⟨c, r, h1, h2, h3⟩, n + 1, a, hn => by
    have hl := Rp.len h2
    obtain ⟨q1, q2⟩ := Cat.at h3 (n := n) (a := a) (by simpa using hn)
    refine ⟨by rw [h1, List.length_append, Nat.add_mul, Nat.one_mul]; omega, ?_⟩
    rw [h1, Nat.add_mul, Nat.one_mul, show n * Rp.k α + Rp.k α = c.length + n * Rp.k α by omega, ← List.drop_drop, List.drop_left' rfl]; exact q2
/-- a slice of n elements, of k cells each, that can be sliced -/
def slOk (x : C) (k n : Nat) : Prop := (x = .sl0 ∧ n = 0) ∨ (∃ b o s c, x = .sl b o n s (some c) ∧ n ≤ c) ∨ ∃ b o, x = .sl b o n k none
/-- a slice with these elements -/
def Sl (f : M) (x : C) (l : List α) : Prop := ∃ vs, Ls f (Rp.k α) x vs l.length ∧ Cat f vs l ∧ slOk x (Rp.k α) l.length
theorem Sl.subv {f m : M} {x : C} {l : List α} (h : Sl f x l) (s : SubV f m) : Sl m x l := h.elim fun vs h => ⟨vs, h.1.subv s, Cat.subv s h.2.1, h.2.2⟩
theorem Sl.sub {f m : M} {x : C} {l : List α} (h : Sl f x l) (s : Sub f m) : Sl m x l := h.subv s.v
theorem Sl.slLen {f : M} {x : C} {l : List α} (h : Sl f x l) : slLen x = l.length := h.elim fun _ h => h.1.slLen
theorem Sl.isSl {f : M} {x : C} {l : List α} (h : Sl f x l) : isSl x := h.elim fun _ h => h.1.isSl
theorem Sl.noFn {f : M} {x : C} {l : List α} (h : Sl f x l) : noFnC x = true := h.elim fun _ h => h.1.noFn
theorem Sl.nil (f : M) : Sl f .sl0 ([] : List α) := ⟨[], Ls.nil f _, rfl, .inl ⟨rfl, rfl⟩⟩
instance : Rp Int := ⟨1, by omega, fun _ cs a => cs = [.int .i64 a], fun h => by rw [h]; rfl, fun h _ => h⟩
instance : Rp Bool := ⟨1, by omega, fun _ cs a => cs = [.bool a], fun h => by rw [h]; rfl, fun h _ => h⟩
instance : Rp (List α) := ⟨1, by omega, fun f cs a => ∃ c, cs = [c] ∧ Sl f c a, fun ⟨_, h, _⟩ => by rw [h]; rfl, fun ⟨c, h, h2⟩ s => ⟨c, h, h2.subv s⟩⟩
/-- an element by its number -/
def idx {α : Type} (l : List α) (i : Int) : Option α := if 0 ≤ i then l[i.toNat]? else none
theorem idx_some {α : Type} {l : List α} {i : Int} {a : α} (h : idx l i = some a) : ∃ n : Nat, i = (n : Int) ∧ n < l.length ∧ l[n]? = some a := by
  unfold idx at h
  by_cases h0 : 0 ≤ i
  · rw [if_pos h0] at h
    exact ⟨i.toNat, by omega, (List.getElem?_eq_some_iff.1 h).1, h⟩
  · rw [if_neg h0] at h; cases h
theorem idx_nat {α : Type} (l : List α) (n : Nat) : idx l (n : Int) = l[n]? := by unfold idx; rw [if_pos (Int.natCast_nonneg n)]; rfl
/-- a function's frame: memory at the call, and the blocks of before that it may write -/
structure Fm where
  m : M
  B : Nat → Prop
def Fm.of (m : M) : Fm := ⟨m, fun _ => False⟩
/-- all is as it was but what may be written, and what is new -/
structure FExt (F : Fm) (m : M) : Prop where
  nxt : F.m.nxt ≤ m.nxt
  g : ∀ b, b < F.m.nxt → ¬ F.B b → m.g b = F.m.g b
  vw : m.vw = F.m.vw
theorem FExt.trans {F : Fm} {m m' : M} (h : FExt F m) (e : Ext m m') : FExt F m' := ⟨Nat.le_trans h.nxt e.nxt, fun b hb hB => (e.g b (Nat.lt_of_lt_of_le hb h.nxt)).trans (h.g b hb hB), e.vw.trans h.vw⟩
/-- F: the frame; f0: what lay there for good; f: what lies there for good now; m: memory now -/
structure St (F : Fm) (f0 f m : M) : Prop where
  ext : FExt F m
  sub : Sub f m
  fz : ∀ b, f.nxt ≤ b → f.g b = none
  fv : ∀ b, f.nxt ≤ b → f.vw b = none
  v0 : ∀ b, F.m.nxt ≤ b ∨ F.B b → f.vw b = none
  fs : Sub f0 f
  old : ∀ b, b < F.m.nxt → ¬ F.B b → f.g b = f0.g b
/-- what a call asks of memory -/
structure Pre (f m : M) : Prop where
  sub : Sub f m
  fz : ∀ b, f.nxt ≤ b → f.g b = none
  fv : ∀ b, f.nxt ≤ b → f.vw b = none
theorem Pre.stB {f m : M} (h : Pre f m) (B : Nat → Prop) (hB : ∀ b, B b → f.vw b = none) : St ⟨m, B⟩ f f m := ⟨⟨Nat.le_refl _, fun _ _ _ => rfl, rfl⟩, h.sub, h.fz, h.fv, fun b hb => hb.elim (fun hb => h.fv b (Nat.le_trans h.sub.nxt hb)) (hB b), .refl f, fun _ _ _ => rfl⟩
theorem Pre.st {f m : M} (h : Pre f m) : St (Fm.of m) f f m := h.stB _ fun _ h => h.elim
theorem St.ext' {m0 f0 f m : M} (h : St (Fm.of m0) f0 f m) : Ext m0 m := ⟨h.ext.nxt, fun b hb => h.ext.g b hb fun h => h, h.ext.vw⟩
theorem St.pre {F : Fm} {f0 f m : M} (h : St F f0 f m) : Pre f m := ⟨h.sub, h.fz, h.fv⟩
/-- what a call hands back: memory, and what lies there for good -/
structure Grw (m f m' f' : M) : Prop where
  ext : Ext m m'
  fsub : Sub f f'
  pre : Pre f' m'
  old : ∀ b, b < m.nxt → f'.g b = f.g b
theorem St.grw {m0 f0 f m : M} (h : St (Fm.of m0) f0 f m) : Grw m0 f0 m f := ⟨h.ext', h.fs, h.pre, fun b hb => h.old b hb fun h => h⟩
/-- a step: blocks with a tag of X may have changed -/
structure Kp (τ : Nat → Nat) (f m : M) (τ' : Nat → Nat) (f' m' : M) (X : List Nat) : Prop where
  nxt : m.nxt ≤ m'.nxt
  tg : ∀ b, b < m.nxt → τ' b = τ b
  g : ∀ b, b < m.nxt → τ b ∉ X → m'.g b = m.g b
  fg : ∀ b, b < m.nxt → τ b ∉ X → f'.g b = f.g b
  fs : Sub f f'
  vw : m'.vw = m.vw
/-- a block of one's own, with a tag -/
structure Lb (F : Fm) (f : M) (τ : Nat → Nat) (m : M) (t b n : Nat) (vs : List C) : Prop where
  bk : Bk m b n vs
  new : F.m.nxt ≤ b ∨ F.B b
  nf : f.g b = none
  tg : τ b = t
theorem Lb.k {F : Fm} {f f' m m' : M} {τ τ' : Nat → Nat} {t b n : Nat} {vs : List C} {X : List Nat} (h : Lb F f τ m t b n vs) (k : Kp τ f m τ' f' m' X) (hx : t ∉ X) : Lb F f' τ' m' t b n vs := by
  have hx : τ b ∉ X := by rw [h.tg]; exact hx
  exact ⟨⟨(k.g b h.bk.lt hx).trans h.bk.g, Nat.lt_of_lt_of_le h.bk.lt k.nxt⟩, h.new, (k.fg b h.bk.lt hx).trans h.nf, (k.tg b h.bk.lt).trans h.tg⟩
/-- another tag for a block -/
def tagAt (τ : Nat → Nat) (b t : Nat) : Nat → Nat := fun j => if j = b then t else τ j
theorem St.new {F : Fm} {f0 f m m' : M} (s : St F f0 f m) {o : AO} (h : m' = m.new o) (τ : Nat → Nat) (t : Nat) : St F f0 f m' ∧ Kp τ f m (tagAt τ m.nxt t) f m' [] := by
  subst h
  refine ⟨⟨s.ext.trans (.new m o), s.sub.trans (.of_ext (.new m o)), s.fz, s.fv, s.v0, s.fs, s.old⟩, ⟨Nat.le_succ _, fun b hb => if_neg (by omega), fun b hb _ => by rw [M.g_new, if_neg (by omega)], fun _ _ _ => rfl, .refl f, rfl⟩⟩
theorem St.blk {F : Fm} {f0 f m m' : M} (s : St F f0 f m) {n : Nat} {vs : List C} (h : m' = m.new (.cells n vs false)) (τ : Nat → Nat) (t : Nat) : ∃ τ', St F f0 f m' ∧ Kp τ f m τ' f m' [] ∧ Lb F f τ' m' t m.nxt n vs := by
  obtain ⟨h1, h2⟩ := s.new h τ t
  exact ⟨_, h1, h2, ⟨(Bk.new h).1, .inl s.ext.nxt, s.fz _ s.sub.nxt, if_pos rfl⟩⟩
/-- a call, that hands back plain values -/
theorem St.call {F : Fm} {f0 f m m' : M} (s : St F f0 f m) (e : Ext m m') (τ : Nat → Nat) : St F f0 f m' ∧ Kp τ f m τ f m' [] :=
  ⟨⟨s.ext.trans e, s.sub.trans (.of_ext e), s.fz, s.fv, s.v0, s.fs, s.old⟩, ⟨e.nxt, fun _ _ => rfl, fun b hb _ => e.g b hb, fun _ _ _ => rfl, .refl f, e.vw⟩⟩
/-- a call, that hands back what lies in memory -/
theorem St.callG {F : Fm} {f0 f m m' f' : M} (s : St F f0 f m) (g : Grw m f m' f') (τ : Nat → Nat) : St F f0 f' m' ∧ Kp τ f m τ f' m' [] :=
  ⟨⟨s.ext.trans g.ext, g.pre.sub, g.pre.fz, g.pre.fv, fun b hb => by rw [g.fsub.vw]; exact s.v0 b hb, s.fs.trans g.fsub, fun b hb hB => (g.old b (Nat.lt_of_lt_of_le hb s.ext.nxt)).trans (s.old b hb hB)⟩, ⟨g.ext.nxt, fun _ _ => rfl, fun b hb _ => g.ext.g b hb, fun b hb _ => g.old b hb, g.fsub, g.ext.vw⟩⟩
theorem not_frozen {f m m' : M} (hs : Sub f m) (hn : m.nxt ≤ m'.nxt) (hv : m'.vw = m.vw) {X : Nat → Prop} (hX : ∀ b, X b → f.g b = none ∧ f.vw b = none) (hg : ∀ b', b' < m.nxt → ¬ X b' → m'.g b' = m.g b') : Sub f m' := by
  refine ⟨Nat.le_trans hs.nxt hn, hv.trans hs.vw, fun b' hb' hd => ?_⟩
  rw [hg b' (Nat.lt_of_lt_of_le hb' hs.nxt) fun h => hd.elim (fun h2 => h2 (hX _ h).1) fun h2 => h2 (hX _ h).2]
  exact hs.g b' hb' hd
/-- blocks of one's own have changed -/
theorem St.chg {F : Fm} {f0 f m m' : M} (s : St F f0 f m) {X : Nat → Prop} (hX : ∀ b, X b → (F.m.nxt ≤ b ∨ F.B b) ∧ f.g b = none) (hn : m.nxt ≤ m'.nxt) (hv : m'.vw = m.vw) (hg : ∀ b', b' < m.nxt → ¬ X b' → m'.g b' = m.g b') : St F f0 f m' :=
  ⟨⟨Nat.le_trans s.ext.nxt hn, fun b hb hB => (hg b (Nat.lt_of_lt_of_le hb s.ext.nxt) fun h => (hX b h).1.elim (fun h => by omega) hB).trans (s.ext.g b hb hB), hv.trans s.ext.vw⟩,
    not_frozen s.sub hn hv (fun b h => ⟨(hX b h).2, s.v0 b (hX b h).1⟩) hg, s.fz, s.fv, s.v0, s.fs, s.old⟩
/-- a store into a block of one's own -/
theorem St.st1 {F : Fm} {f0 f m m' : M} (s : St F f0 f m) {τ : Nat → Nat} {t b n : Nat} {vs ws : List C} (h : Lb F f τ m t b n vs) (hb : Bk m' b n ws) (h1 : St1 m m' b) : St F f0 f m' ∧ Kp τ f m τ f m' [t] ∧ Lb F f τ m' t b n ws :=
  ⟨s.chg (X := fun b' => b' = b) (fun b' h' => by subst h'; exact ⟨h.new, h.nf⟩) (by rw [h1.nxt]; exact Nat.le_refl _) h1.vw fun b' _ hne => h1.g b' hne,
    ⟨by rw [h1.nxt]; exact Nat.le_refl _, fun _ _ => rfl, fun b' _ hx => h1.g b' fun he => hx (by rw [he, h.tg]; exact List.mem_cons_self ..), fun _ _ _ => rfl, .refl f, h1.vw⟩, ⟨hb, h.new, h.nf, h.tg⟩⟩
theorem Lb.sto {F : Fm} {f0 f m : M} {τ : Nat → Nat} {t b n : Nat} {vs : List C} (h : Lb F f τ m t b n vs) (s : St F f0 f m) (ws : List C) : ∃ m', stC m (.ptr b 0) n ws = some m' ∧ St F f0 f m' ∧ Kp τ f m τ f m' [t] ∧ Lb F f τ m' t b n ws := by
  obtain ⟨m', h1, h2, h3⟩ := h.bk.sto ws
  exact ⟨m', h1, s.st1 h h2 h3⟩
theorem Lb.sto1 {F : Fm} {f0 f m : M} {τ : Nat → Nat} {t b n : Nat} {vs : List C} (h : Lb F f τ m t b n vs) (s : St F f0 f m) (k : Nat) (c : C) (hk : k < vs.length) (hn : vs.length = n) : ∃ m', stC m (.ptr b k) 1 [c] = some m' ∧ St F f0 f m' ∧ Kp τ f m τ f m' [t] ∧ Lb F f τ m' t b n (vs.set k c) := by
  obtain ⟨m', h1, h2, h3⟩ := h.bk.sto1 k c hk hn
  exact ⟨m', h1, s.st1 h h2 h3⟩
structure Ow (F : Fm) (f : M) (τ : Nat → Nat) (m : M) (t : Nat) (x : C) (l : List α) : Prop where
  own : ∃ vs, Own1 m (Rp.k α) x vs l.length ∧ Cat f vs l
  nw : ∀ b o n s d, x = .sl b o n s d → (F.m.nxt ≤ b ∨ F.B b) ∧ f.g b = none ∧ τ b = t
theorem Ow.nil (F : Fm) (f : M) (τ : Nat → Nat) (m : M) (t : Nat) : Ow F f τ m t .sl0 ([] : List α) := ⟨⟨[], Own1.nil' m _, rfl⟩, fun _ _ _ _ _ h => by cases h⟩
theorem Ow.lt {F : Fm} {f m : M} {τ : Nat → Nat} {t : Nat} {x : C} {l : List α} (h : Ow F f τ m t x l) {b o n s : Nat} {d : Option Nat} (hx : x = .sl b o n s d) : b < m.nxt := h.own.elim fun _ h => h.1.lt hx
theorem Ow.k {F : Fm} {f f' m m' : M} {τ τ' : Nat → Nat} {t : Nat} {x : C} {l : List α} {X : List Nat} (h : Ow F f τ m t x l) (k : Kp τ f m τ' f' m' X) (hx : t ∉ X) : Ow F f' τ' m' t x l := by
  have hx' : ∀ b o n s d, x = .sl b o n s d → τ b ∉ X := fun b o n s d he => by rw [(h.nw b o n s d he).2.2]; exact hx
  obtain ⟨vs, h1, h2⟩ := h.own
  refine ⟨⟨vs, h1.to k.nxt fun b hb he => ?_, h2.sub k.fs⟩, fun b o n s d he => ?_⟩
  · obtain ⟨s, d, he⟩ := he
    exact k.g b hb (hx' _ _ _ _ _ he)
  · obtain ⟨q1, q2, q3⟩ := h.nw b o n s d he
    have hlt := h.lt he
    exact ⟨q1, (k.fg b hlt (hx' _ _ _ _ _ he)).trans q2, (k.tg b hlt).trans q3⟩
theorem Ow.slLen {F : Fm} {f m : M} {τ : Nat → Nat} {t : Nat} {x : C} {l : List α} (h : Ow F f τ m t x l) : slLen x = l.length := h.own.elim fun _ h => h.1.ls.slLen
theorem Ow.isSl {F : Fm} {f m : M} {τ : Nat → Nat} {t : Nat} {x : C} {l : List α} (h : Ow F f τ m t x l) : isSl x := h.own.elim fun _ h => h.1.ls.isSl
theorem Ow.noFn {F : Fm} {f m : M} {τ : Nat → Nat} {t : Nat} {x : C} {l : List α} (h : Ow F f τ m t x l) : noFnC x = true := h.own.elim fun _ h => h.1.ls.noFn
theorem slB_sl {x : C} {b : Nat} (h : slB x = some b) : ∃ o n s, x = .sl b o n s none := by
  cases x with
  | sl b' o n s d =>
    cases d with
    | none => have h : some b' = some b := h; cases h; exact ⟨o, n, s, rfl⟩
    | some d => cases h
  | _ => cases h
/-- append of elements that lie in memory -/
theorem Ow.appS {T el : Nat} (ht : tk P T = .sl el) (hgr : growOk P el = true) (hk : P.cellsOf el = Rp.k α) {F : Fm} {f0 f m m1 : M} (s : St F f0 f m) {τ : Nat → Nat} {t : Nat} {x y : C} {l l2 : List α} (h : Ow F f τ m t x l) (e : Ext m m1) {ws : List C} (hy : Ls m1 (Rp.k α) y ws l2.length) (hc : Cat f ws l2) (hj : 0 < l2.length) (hlen : l.length + l2.length ≤ 1048576) :
    ∃ c m2 τ', ApR P T m1 x y c m2 ∧ St F f0 f m2 ∧ Kp τ f m τ' f m2 [t] ∧ Ow F f τ' m2 t c (l ++ l2) := by
  obtain ⟨vs, h1, h2⟩ := h.own
  obtain ⟨m2, q1, q2, q3, q4, q5⟩ := ap_own ht hgr hk (h1.ext e) hy hj Rp.pos hlen
  have hg : ∀ b, b < m.nxt → slB x ≠ some b → m2.g b = m.g b := fun b hb hx => by
    have := e.nxt
    rw [q5 b (by omega) hx]; exact e.g b hb
  have hn : m.nxt ≤ m2.nxt := by have := e.nxt; omega
  refine ⟨_, m2, tagAt τ m1.nxt t, q1, s.chg (X := fun b => slB x = some b) (fun b hb => ?_) hn (q4.trans e.vw) hg, ⟨hn, fun b hb => if_neg (by have := e.nxt; omega), fun b hb hx => hg b hb fun he => ?_, fun _ _ _ => rfl, .refl f, q4.trans e.vw⟩, ⟨⟨_, by rw [List.length_append]; exact q2, h2.app hc⟩, fun b o n s' d he => ?_⟩⟩
  · obtain ⟨o, n, s', he⟩ := slB_sl hb
    exact ⟨(h.nw _ _ _ _ _ he).1, (h.nw _ _ _ _ _ he).2.1⟩
  · obtain ⟨o, n, s', he⟩ := slB_sl he
    exact hx (by rw [(h.nw _ _ _ _ _ he).2.2]; exact List.mem_cons_self ..)
  · cases he
    have h9 : m.nxt ≤ m1.nxt := e.nxt
    exact ⟨.inl (Nat.le_trans s.ext.nxt h9), s.fz _ (Nat.le_trans s.sub.nxt h9), if_pos rfl⟩
/-- append of one element -/
theorem Ow.app {T el : Nat} (ht : tk P T = .sl el) (hgr : growOk P el = true) (hk : P.cellsOf el = Rp.k α) {F : Fm} {f0 f m m1 : M} (s : St F f0 f m) {τ : Nat → Nat} {t : Nat} {x : C} {l : List α} (h : Ow F f τ m t x l) {cs : List C} {a : α} (hr : Rp.rep f cs a) (hlen : l.length < 1048576) (e : m1 = m.new (.cells (Rp.k α) cs false)) :
    ∃ c m2 τ', ApR P T m1 x (.sl m.nxt 0 1 0 (some 1)) c m2 ∧ St F f0 f m2 ∧ Kp τ f m τ' f m2 [t] ∧ Ow F f τ' m2 t c (l ++ [a]) := by
  obtain ⟨b1, x1⟩ := Bk.new e
  exact h.appS (P := P) ht hgr hk s x1 (Ls.one b1.g (Rp.len hr) b1.lt 0 (some 1)) (Cat.one hr) (by simp) (by show l.length + 1 ≤ _; omega)
/-- from now on it stays as it is -/
theorem Ow.freeze {F : Fm} {f0 f m : M} (s : St F f0 f m) {τ : Nat → Nat} {t : Nat} {x : C} {l : List α} (h : Ow F f τ m t x l) : ∃ f', St F f0 f' m ∧ Kp τ f m τ f' m [t] ∧ Sl f' x l := by
  obtain ⟨vs, h1, h2⟩ := h.own
  have hq : ∀ {b n k : Nat} {c : Option Nat} {op : Bool}, x = .sl b 0 n k c → m.g b = some (.cells (n * Rp.k α) vs op) → b < m.nxt → n = l.length → slOk x (Rp.k α) l.length → ∃ f', St F f0 f' m ∧ Kp τ f m τ f' m [t] ∧ Sl f' x l := by
    intro b n k c op hx hg hb hnl hok
    obtain ⟨w1, w2, w3⟩ := h.nw _ _ _ _ _ hx
    let f' : M := { nxt := m.nxt, g := fun j => if j = b then m.g b else f.g j, vw := f.vw }
    have hf' : ∀ j, j ≠ b → f'.g j = f.g j := fun j hj => if_neg hj
    have hfb : f'.g b = m.g b := if_pos rfl
    have hsub : Sub f f' := ⟨s.sub.nxt, rfl, fun j hj hd => hf' j fun he => by
      subst he
      exact hd.elim (fun h => h w2) fun h => h (s.v0 _ w1)⟩
    refine ⟨f', ⟨s.ext, ⟨Nat.le_refl _, s.sub.vw, fun j hj hd => ?_⟩, fun j hj => ?_, fun j hj => ?_, s.v0, s.fs.trans hsub, fun j hj hB => (hf' j fun he => by subst he; exact w1.elim (fun h => by omega) hB).trans (s.old j hj hB)⟩, ⟨Nat.le_refl _, fun _ _ => rfl, fun _ _ _ => rfl, fun j hj hx => hf' j fun he => hx (by rw [he, w3]; exact List.mem_cons_self ..), hsub, rfl⟩, vs, ⟨h1.len, .inr ⟨b, 0, k, c, by rw [hx, hnl], hb, fun _ => .inl ⟨_, vs, op, hfb.trans hg, ?_, ?_, ?_⟩⟩⟩, h2.sub hsub, hok⟩
    · by_cases he : j = b
      · rw [he, hfb]
      · rw [hf' j he] at hd ⊢
        by_cases hjf : j < f.nxt
        · exact s.sub.g j hjf hd
        · exact (hd.elim (fun h => h (s.fz j (by omega))) fun h => h (s.fv j (by omega))).elim
    · have h9 : m.nxt ≤ j := hj
      rw [hf' j (by omega)]
      exact s.fz j (Nat.le_trans s.sub.nxt h9)
    · have h9 : m.nxt ≤ j := hj
      exact s.fv j (Nat.le_trans s.sub.nxt h9)
    · have := h1.len; rw [hnl]; omega
    · have := h1.len; rw [hnl]; omega
    · rw [List.drop_zero, List.take_of_length_le (Nat.le_refl _)]
  cases h1.own with
  | nil h3 h4 =>
    have : l = [] := List.eq_nil_of_length_eq_zero h3
    subst this
    exact ⟨f, s, ⟨Nat.le_refl _, fun _ _ => rfl, fun _ _ _ => rfl, fun _ _ _ => rfl, .refl f, rfl⟩, Sl.nil f⟩
  | grown b hg hb => exact hq rfl hg hb rfl (.inr (.inr ⟨b, 0, rfl⟩))
  | lit b hg hb => exact hq rfl hg hb rfl (.inr (.inl ⟨b, 0, 0, _, rfl, Nat.le_refl _⟩))
theorem Sl.rd1 {f : M} {x : C} {l : List α} (h : Sl f x l) (hk : Rp.k α = 1) {n : Nat} {a : α} (hi : l[n]? = some a) :
    ∃ c, (∀ m, Sub f m → ldC m (slAt x (n * 1)) = some c) ∧ Rp.rep f [c] a := by
  obtain ⟨vs, h4, h5, h5k⟩ := h
  obtain ⟨h6, h7⟩ := h5.at hi
  rw [hk] at h6 h7
  have hl : n * 1 < vs.length := by omega
  have hd : (vs.drop (n * 1)).take 1 = [vs[n * 1]] := by rw [List.drop_eq_getElem_cons hl]; rfl
  rw [hd] at h7
  exact ⟨_, fun m s => (h4.sub s).rd (List.getElem?_eq_getElem hl), h7⟩
theorem Sl.rdI {f : M} {x : C} {l : List Int} (h : Sl f x l) {n : Nat} {a : Int} (hi : l[n]? = some a) {m : M} (s : Sub f m) : ldC m (slAt x (n * 1)) = some (.int .i64 a) := by
  obtain ⟨c, h3, h4⟩ := h.rd1 rfl hi
  have h4 : [c] = [.int .i64 a] := h4
  cases h4
  exact h3 m s
theorem Sl.rdS {f : M} {x : C} {l : List (List α)} (h : Sl f x l) {n : Nat} {a : List α} (hi : l[n]? = some a) : ∃ c, (∀ m, Sub f m → ldC m (slAt x (n * 1)) = some c) ∧ Sl f c a := by
  obtain ⟨c, h3, c', h4, h5⟩ := h.rd1 rfl hi
  cases h4
  exact ⟨c, h3, h5⟩
theorem Sl.isPt {f : M} {x : C} {l : List α} (h : Sl f x l) {n : Nat} {a : α} (hi : l[n]? = some a) (i : Nat) : isPt (slAt x i) := by
  obtain ⟨vs, h4, h5, h5k⟩ := h
  exact h4.isPt (by have := (List.getElem?_eq_some_iff.1 hi).1; omega) i
theorem Sl.rdP {f : M} {x : C} {l : List α} (h : Sl f x l) {n : Nat} {a : α} (hi : l[n]? = some a) : ∃ cs, (∀ m, Sub f m → ldA m (slAt x (n * Rp.k α)) (Rp.k α) = some cs ∧ (∀ j c, cs[j]? = some c → ldC m (ptAdd (slAt x (n * Rp.k α)) j) = some c) ∧ ∀ j i, 0 < i → j + i ≤ Rp.k α → ldA m (ptAdd (slAt x (n * Rp.k α)) j) i = some ((cs.drop j).take i)) ∧ Rp.rep f cs a := by
  obtain ⟨vs, h4, h5, h5k⟩ := h
  obtain ⟨h6, h7⟩ := h5.at hi
  have hn : l.length ≠ 0 := by have := (List.getElem?_eq_some_iff.1 hi).1; omega
  refine ⟨_, fun m s => ⟨(h4.sub s).rds Rp.pos h6, fun j c hj => ?_, fun j i hi0 hji => ?_⟩, h7⟩
  · rw [h4.add hn]
    refine (h4.sub s).rd ?_
    rw [List.getElem?_take] at hj
    split at hj
    · rw [List.getElem?_drop] at hj; exact hj
    · cases hj
  · rw [h4.add hn, (h4.sub s).rds hi0 (by omega), ← List.drop_drop, List.drop_take, List.take_take, Nat.min_eq_left (by omega)]
theorem bsome {α β : Type} {o : Option α} {k : α → Option β} {r : β} (h : o.bind k = some r) : ∃ a, o = some a ∧ k a = some r := by
  cases o with
  | none => cases h
  | some a => exact ⟨a, rfl, h⟩
open Classical in
def gd {α : Type} (p : Prop) (x : Option α) : Option α := if p then x else none
theorem gd_some {α : Type} {p : Prop} {x : Option α} {r : α} (h : gd p x = some r) : p ∧ x = some r := by
  unfold gd at h
  by_cases hp : p
  · rw [if_pos hp] at h; exact ⟨hp, h⟩
  · rw [if_neg hp] at h; cases h
theorem gd_pos {α : Type} {p : Prop} {x : Option α} (h : p) : gd p x = x := if_pos h
theorem bif_neg {α : Type} {b : Bool} {x y : α} (h : b = false) : (if b = true then x else y) = y := by rw [h]; rfl
/-- a slice type, for append -/
def TA (P : Program) (t k : Nat) : Prop := ∃ el, tk P t = .sl el ∧ growOk P el = true ∧ P.cellsOf el = k
theorem Ow.app' {T : Nat} (ht : TA P T (Rp.k α)) {F : Fm} {f0 f m m1 : M} (s : St F f0 f m) {τ : Nat → Nat} {t : Nat} {x : C} {l : List α} (h : Ow F f τ m t x l) {cs : List C} {a : α} (hr : Rp.rep f cs a) (hlen : l.length < 1048576) (e : m1 = m.new (.cells (Rp.k α) cs false)) :
    ∃ c m2 τ', ApR P T m1 x (.sl m.nxt 0 1 0 (some 1)) c m2 ∧ St F f0 f m2 ∧ Kp τ f m τ' f m2 [t] ∧ Ow F f τ' m2 t c (l ++ [a]) := by
  obtain ⟨el, h1, h2, h3⟩ := ht
  exact h.app (P := P) h1 h2 h3 s hr hlen e
theorem Kp.old {τ τ' : Nat → Nat} {f f' m m' g : M} {X : List Nat} (k : Kp τ f m τ' f' m' X) : Kp τ g m τ' g m' X := ⟨k.nxt, k.tg, k.g, fun _ _ _ => rfl, .refl g, k.vw⟩
theorem Ow.lit0 {F : Fm} {f0 f m m1 : M} (s : St F f0 f m) (τ : Nat → Nat) (t : Nat) (e : m1 = m.new (.cells 0 [] false)) : ∃ τ', St F f0 f m1 ∧ Kp τ f m τ' f m1 [] ∧ Ow F f τ' m1 t (.sl m.nxt 0 0 0 (some 0)) ([] : List α) := by
  obtain ⟨τ', h1, h2, h3⟩ := s.blk e τ t
  refine ⟨τ', h1, h2, ⟨[], ⟨by simp, .lit _ ?_ h3.bk.lt⟩, rfl⟩, fun b o n s d he => by cases he; exact ⟨h3.new, h3.nf, h3.tg⟩⟩
  have := h3.bk.g
  show m1.g m.nxt = some (.cells (0 * Rp.k α) [] false)
  rw [Nat.zero_mul]; exact this
theorem Ow.appL {T : Nat} (ht : TA P T (Rp.k α)) {F : Fm} {f0 f m : M} (s : St F f0 f m) {τ : Nat → Nat} {t : Nat} {x y : C} {l l2 : List α} (h : Ow F f τ m t x l) (hy : Sl f y l2) (hlen : l.length + l2.length ≤ 1048576) :
    ∃ c m2 τ', ApR P T m x y c m2 ∧ St F f0 f m2 ∧ Kp τ f m τ' f m2 [t] ∧ Ow F f τ' m2 t c (l ++ l2) := by
  obtain ⟨el, h1, h2, h3⟩ := ht
  obtain ⟨ws, q1, q2, _⟩ := hy
  by_cases hj : 0 < l2.length
  · exact h.appS (P := P) h1 h2 h3 s (.refl m) (q1.sub s.sub) q2 hj hlen
  · have hl2 : l2 = [] := List.eq_nil_of_length_eq_zero (by omega)
    subst hl2
    have hw : ws = [] := q2
    subst hw
    obtain ⟨vs, o1, o2⟩ := h.own
    refine ⟨x, m, τ, ap_none h1 h2 h3 o1 (q1.sub s.sub), s, ⟨Nat.le_refl _, fun _ _ => rfl, fun _ _ _ => rfl, fun _ _ _ => rfl, .refl f, rfl⟩, by rw [List.append_nil]; exact h⟩
theorem nf_cons {c : C} {l : List C} (h : noFnC c = true) (h2 : allS noFnC l = true) : allS noFnC (c :: l) = true := by
  show ifB (noFnC c) (allS noFnC l) false = true
  rw [h, h2]; rfl
theorem nf_nil : allS noFnC ([] : List C) = true := rfl
theorem cC0_ok {c : C} (h : noFnC c = true) : ∃ x, cC0 c = some x ∧ c0C x = c := by
  cases c with
  | fn f a b => cases h
  | ptr0 => exact ⟨_, rfl, rfl⟩
  | sl b o n s c => exact ⟨_, rfl, rfl⟩
  | map r => exact ⟨_, rfl, rfl⟩
  | ptr b o => exact ⟨_, rfl, rfl⟩
  | _ => first | exact ⟨_, rfl, rfl⟩ | cases h
theorem cC0s_ok : ∀ {l : List C}, allS noFnC l = true → ∃ xs, mapO cC0 l = some xs ∧ mapS c0C xs = l
  | [], _ => ⟨[], rfl, rfl⟩
  | c :: l, h => by
    have h : ifB (noFnC c) (allS noFnC l) false = true := h
    cases hc : noFnC c with
    | false => rw [hc] at h; cases h
    | true =>
      rw [hc] at h
      obtain ⟨x, h1, h2⟩ := cC0_ok hc
      obtain ⟨xs, h3, h4⟩ := cC0s_ok h
      refine ⟨x :: xs, ?_, ?_⟩
      · show optB (cC0 c) none (fun y => optB (mapO cC0 l) none fun ys => some (y :: ys)) = _
        rw [h1, h3]; rfl
      · show c0C x :: mapS c0C xs = _
        rw [h2, h4]
theorem vW_c {c : C} (h : noFnC c = true) : ∃ w, vW (.c c) = some w ∧ wV w = .c c := by
  obtain ⟨x, h1, h2⟩ := cC0_ok h
  refine ⟨.c x, ?_, ?_⟩
  · show optB (cC0 c) none (fun x => some (W.c x)) = _
    rw [h1]; rfl
  · show V.c (c0C x) = _
    rw [h2]
theorem vW_agg {n : Nat} {l : List C} (h : allS noFnC l = true) : ∃ w, vW (.agg n l) = some w ∧ wV w = .agg n l := by
  obtain ⟨xs, h1, h2⟩ := cC0s_ok h
  refine ⟨.agg n xs, ?_, ?_⟩
  · show optB (mapO cC0 l) none (fun xs => some (W.agg n xs)) = _
    rw [h1]; rfl
  · show V.agg n (mapS c0C xs) = _
    rw [h2]
theorem vWs_nil : ∃ ws, mapO vW [] = some ws ∧ mapS wV ws = [] := ⟨[], rfl, rfl⟩
theorem vWs_cons {v : V} {l : List V} (h : ∃ w, vW v = some w ∧ wV w = v) (h2 : ∃ ws, mapO vW l = some ws ∧ mapS wV ws = l) : ∃ ws, mapO vW (v :: l) = some ws ∧ mapS wV ws = v :: l := by
  obtain ⟨w, h3, h4⟩ := h
  obtain ⟨ws, h5, h6⟩ := h2
  refine ⟨w :: ws, ?_, ?_⟩
  · show optB (vW v) none (fun y => optB (mapO vW l) none fun ys => some (y :: ys)) = _
    rw [h3, h5]; rfl
  · show wV w :: mapS wV ws = _
    rw [h4, h6]
theorem Bk.sub {f m : M} {b n : Nat} {vs : List C} (h : Bk f b n vs) (s : Sub f m) : Bk m b n vs :=
  ⟨(s.g b h.lt (.inl (by rw [h.g]; exact Option.some_ne_none _))).trans h.g, Nat.lt_of_lt_of_le h.lt s.nxt⟩
/-- a block that is left as it is from now on -/
theorem Lb.freeze {F : Fm} {f0 f m : M} {τ : Nat → Nat} {t b n : Nat} {vs : List C} (h : Lb F f τ m t b n vs) (s : St F f0 f m) : ∃ f', St F f0 f' m ∧ Kp τ f m τ f' m [t] ∧ Bk f' b n vs := by
  let f' : M := { nxt := m.nxt, g := fun j => if j = b then m.g b else f.g j, vw := f.vw }
  have hf' : ∀ j, j ≠ b → f'.g j = f.g j := fun j hj => if_neg hj
  have hfb : f'.g b = m.g b := if_pos rfl
  have hsub : Sub f f' := ⟨s.sub.nxt, rfl, fun j hj hd => hf' j fun he => by
    subst he
    exact hd.elim (fun h' => h' h.nf) fun h' => h' (s.v0 _ h.new)⟩
  have hbm := h.bk.lt
  have hnew := h.new
  refine ⟨f', ⟨s.ext, ⟨Nat.le_refl _, s.sub.vw, fun j hj hd => ?_⟩, fun j hj => ?_, fun j hj => ?_, s.v0, s.fs.trans hsub, fun j hj hB => (hf' j fun he => by subst he; exact hnew.elim (fun h => by omega) hB).trans (s.old j hj hB)⟩, ⟨Nat.le_refl _, fun _ _ => rfl, fun _ _ _ => rfl, fun j hj hx => hf' j fun he => hx (by rw [he, h.tg]; exact List.mem_cons_self ..), hsub, rfl⟩, hfb.trans h.bk.g, hbm⟩
  · by_cases he : j = b
    · rw [he, hfb]
    · rw [hf' j he] at hd ⊢
      by_cases hjf : j < f.nxt
      · exact s.sub.g j hjf hd
      · exact (hd.elim (fun h => h (s.fz j (by omega))) fun h => h (s.fv j (by omega))).elim
  · have h9 : m.nxt ≤ j := hj
    rw [hf' j (by omega)]
    exact s.fz j (Nat.le_trans s.sub.nxt h9)
  · have h9 : m.nxt ≤ j := hj
    exact s.fv j (Nat.le_trans s.sub.nxt h9)
theorem Bk.sl {f : M} {b N n : Nat} {vs : List C} {l : List α} (h : Bk f b N vs) (hc : Cat f vs l) (hn : l.length = n) (hN : vs.length = N) (k : Nat) : Sl f (.sl b 0 n k (some n)) l := by
  have h3 := hc.len
  refine ⟨vs, ⟨h3, .inr ⟨b, 0, k, some n, by rw [hn], h.lt, fun _ => .inl ⟨N, vs, false, h.g, hN, by omega, by rw [List.drop_zero, List.take_of_length_le (Nat.le_refl _)]⟩⟩⟩, hc, .inr (.inl ⟨b, 0, k, n, by rw [hn], by omega⟩)⟩
/-- a block to be made -/
structure Rs (F : Fm) (f : M) (τ : Nat → Nat) (m : M) (t b : Nat) : Prop where
  new : F.m.nxt ≤ b ∨ F.B b
  nf : f.g b = none
  tg : τ b = t
  lt : b < m.nxt
theorem Rs.k {F : Fm} {f f' m m' : M} {τ τ' : Nat → Nat} {t b : Nat} {X : List Nat} (h : Rs F f τ m t b) (k : Kp τ f m τ' f' m' X) (hx : t ∉ X) : Rs F f' τ' m' t b := by
  have hx : τ b ∉ X := by rw [h.tg]; exact hx
  exact ⟨h.new, (k.fg b h.lt hx).trans h.nf, (k.tg b h.lt).trans h.tg, Nat.lt_of_lt_of_le h.lt k.nxt⟩
theorem St.grow {F : Fm} {f0 f m m' : M} (s : St F f0 f m) {k : Nat} (h : m' = mGrow m k) (τ : Nat → Nat) : St F f0 f m' ∧ Kp τ f m τ f m' [] := by
  subst h
  have hn : m.nxt ≤ (mGrow m k).nxt := Nat.le_add_right _ _
  exact ⟨s.chg (X := fun _ => False) (fun _ h => h.elim) hn rfl fun _ _ _ => rfl, ⟨hn, fun _ _ => rfl, fun _ _ _ => rfl, fun _ _ _ => rfl, .refl f, rfl⟩⟩
theorem Rs.set {F : Fm} {f0 f m m' : M} {τ : Nat → Nat} {t b n : Nat} {vs : List C} (h : Rs F f τ m t b) (s : St F f0 f m) (e : m' = m.set b (.cells n vs false)) : St F f0 f m' ∧ Kp τ f m τ f m' [t] ∧ Lb F f τ m' t b n vs := by
  have h1 : St1 m m' b := .of_set e
  refine ⟨s.chg (X := fun b' => b' = b) (fun b' h' => by subst h'; exact ⟨h.new, h.nf⟩) (by rw [h1.nxt]; exact Nat.le_refl _) h1.vw fun b' _ hne => h1.g b' hne,
    ⟨by rw [h1.nxt]; exact Nat.le_refl _, fun _ _ => rfl, fun b' _ hx => h1.g b' fun he => hx (by rw [he, h.tg]; exact List.mem_cons_self ..), fun _ _ _ => rfl, .refl f, h1.vw⟩, ⟨⟨?_, by rw [h1.nxt]; exact h.lt⟩, h.new, h.nf, h.tg⟩⟩
  rw [e, M.g_set, if_pos rfl]
theorem St.growK {F : Fm} {f0 f m m' : M} (s : St F f0 f m) {k : Nat} (h : m' = mGrow m k) (τ : Nat → Nat) (t : Nat) : ∃ τ', St F f0 f m' ∧ Kp τ f m τ' f m' [] ∧ ∀ i, i < k → Rs F f τ' m' (t + i) (m.nxt + i) := by
  obtain ⟨h1, h2⟩ := s.grow h τ
  refine ⟨fun b => if m.nxt ≤ b then t + (b - m.nxt) else τ b, h1, ⟨h2.nxt, fun b hb => if_neg (by omega), h2.g, h2.fg, h2.fs, h2.vw⟩, fun i hi => ⟨.inl (Nat.le_trans s.ext.nxt (Nat.le_add_right _ _)), s.fz _ (Nat.le_trans s.sub.nxt (Nat.le_add_right _ _)), ?_, ?_⟩⟩
  · show (if m.nxt ≤ m.nxt + i then t + (m.nxt + i - m.nxt) else _) = _
    rw [if_pos (by omega)]; omega
  · subst h
    show m.nxt + i < m.nxt + k
    omega
theorem Seg.part {m : M} {b o : Nat} {vs : List C} (h : Seg m b o vs) {a l : Nat} (hal : a + l ≤ vs.length) : Seg m b (o + a) ((vs.drop a).take l) := by
  have hlen : ((vs.drop a).take l).length = l := by rw [List.length_take, List.length_drop]; omega
  have key : ∀ (w : List C) (p n : Nat), a + l ≤ n → (((w.drop p).take n).drop a).take l = (w.drop (p + a)).take l := fun w p n hn => by rw [List.drop_take, List.take_take, List.drop_drop, Nat.min_eq_left (by omega)]
  have hsub : ∀ (w : List C) (p : Nat), (w.drop p).take vs.length = vs → (w.drop (p + a)).take l = (vs.drop a).take l := fun w p hw => by
    have := key w p vs.length hal
    rw [hw] at this
    exact this.symm
  rcases h with ⟨n, ws, op, h1, h2, h3, h4⟩ | ⟨h1, q, h2, h3, h4, h5⟩
  · exact .inl ⟨n, ws, op, h1, h2, by rw [hlen]; omega, by rw [hlen]; exact hsub ws o h4⟩
  · refine .inr ⟨h1, q, h2, by omega, by rw [hlen]; omega, ?_⟩
    rw [hlen, show o + a - q.1 = (o - q.1) + a by omega]
    exact hsub q.2 _ h5
theorem Cat.part {f : M} : ∀ {l : List α} {vs : List C}, Cat f vs l → ∀ (i : Nat), Cat f (vs.drop (i * Rp.k α)) (l.drop i) ∧ Cat f (vs.take (i * Rp.k α)) (l.take i)
  | [], _, h, i => by have h : _ = [] := h; rw [h]; simp [Cat]
  | a :: l, _, h, 0 => by rw [Nat.zero_mul, List.drop_zero, List.take_zero, List.drop_zero, List.take_zero]; exact ⟨h, rfl⟩
  | a :: l, _, ⟨c, r, h1, h2, h3⟩, i + 1 => by
    have hl := Rp.len h2
    obtain ⟨q1, q2⟩ := Cat.part h3 i
    rw [h1, Nat.add_mul, Nat.one_mul, show i * Rp.k α + Rp.k α = c.length + i * Rp.k α by omega, ← List.drop_drop, List.drop_left' rfl, List.take_length_add_append]
    exact ⟨q1, c, _, rfl, h2, q2⟩
end
end Go.Abs

namespace Go.Abs
set_option maxRecDepth 100000
noncomputable section
open Classical
variable {P : Program} {kt : TypeId} {κ : Type} {enc : κ → U}
/-- the keys of a map are like a type of ours -/
structure KeyLike (P : Program) (kt : TypeId) (enc : κ → U) : Prop where
  plain : ∃ ks, plainK P kt = some ks
  eq : ∀ a b : κ, eqV P kt (uV (enc a)) (uV (enc b)) = some (decide (a = b))
def Keys (enc : κ → U) (es : List E) : Prop := ∀ e ∈ es, ∃ a, e.k = enc a
def look (enc : κ → U) (es : List E) (a : κ) : Option U :=
  match es with
  | [] => none
  | e :: es => if e.k = enc a then some e.v else look enc es a
theorem KeyLike.inj (h : KeyLike P kt enc) {a b : κ} (he : enc a = enc b) : a = b := by
  have h1 := h.eq a b
  rw [he, h.eq b b] at h1
  simpa using h1
theorem vU_uV (u : U) : vU (uV u) = some u := by cases u <;> rfl
theorem find_look (h : KeyLike P kt enc) (a : κ) : ∀ {es : List E} (i : Nat), Keys enc es → ∃ r, findE P kt (uV (enc a)) es i = some r ∧ optB r none (fun q => some q.2) = look enc es a ∧
    ∀ yu : U, ∀ clock : Nat, Keys enc (optB r (appS es [{ k := enc a, v := yu, born := clock }]) fun q => setEntry (enc a) yu es (q.1 - i)) ∧
      (∀ b, look enc (optB r (appS es [{ k := enc a, v := yu, born := clock }]) fun q => setEntry (enc a) yu es (q.1 - i)) b = if b = a then some yu else look enc es b) ∧ (∀ q, r = some q → i ≤ q.1)
  | [], i, _ => by
    refine ⟨none, rfl, rfl, fun yu clock => ⟨?_, fun b => ?_, fun q hq => by cases hq⟩⟩
    · intro e he
      have : e = { k := enc a, v := yu, born := clock } := by simpa [appS, optB] using he
      exact ⟨a, by rw [this]⟩
    · show look enc [_] b = _
      unfold look
      by_cases hb : b = a
      · rw [if_pos hb, if_pos (by rw [hb])]
      · rw [if_neg hb, if_neg fun he => hb (h.inj he).symm]; rfl
  | e :: es, i, hk => by
    obtain ⟨a', ha'⟩ := hk e (List.mem_cons_self ..)
    have hk' : Keys enc es := fun e he => hk e (List.mem_cons_of_mem _ he)
    obtain ⟨r, hr, hl, hu⟩ := find_look h a (i + 1) hk'
    have he : findE P kt (uV (enc a)) (e :: es) i = optB (eqV P kt (uV (enc a)) (uV e.k)) none fun b => ifB b (some (some (i, e.v))) (findE P kt (uV (enc a)) es (i + 1)) := rfl
    rw [ha', h.eq] at he
    by_cases haa : a = a'
    · have he2 : findE P kt (uV (enc a)) (e :: es) i = some (some (i, e.v)) := by rw [he, decide_eq_true haa]; rfl
      refine ⟨_, he2, ?_, fun yu clock => ⟨?_, fun b => ?_, fun q hq => ?_⟩⟩
      · show some e.v = if e.k = enc a then some e.v else look enc es a
        rw [if_pos (by rw [ha', haa])]
      · show Keys enc (setEntry (enc a) yu (e :: es) (i - i))
        rw [Nat.sub_self]
        intro e' he'
        rcases List.mem_cons.1 he' with rfl | h2
        · exact ⟨a, rfl⟩
        · exact hk' _ h2
      · show look enc (setEntry (enc a) yu (e :: es) (i - i)) b = _
        rw [Nat.sub_self]
        show (if enc a = enc b then some yu else look enc es b) = if b = a then some yu else if e.k = enc b then some e.v else look enc es b
        by_cases hb : b = a
        · rw [if_pos hb, if_pos (by rw [hb])]
        · rw [if_neg hb, if_neg fun he => hb (h.inj he).symm, if_neg fun he => hb (by rw [ha'] at he; rw [haa]; exact (h.inj he).symm)]
      · cases hq; exact Nat.le_refl _
    · have he2 : findE P kt (uV (enc a)) (e :: es) i = some r := by rw [he, decide_eq_false haa]; exact hr
      refine ⟨r, he2, ?_, fun yu clock => ?_⟩
      · rw [hl]
        show look enc es a = if e.k = enc a then some e.v else look enc es a
        rw [if_neg fun h2 => haa (by rw [ha'] at h2; exact (h.inj h2).symm)]
      · obtain ⟨u1, u2, u3⟩ := hu yu clock
        have hcons : (optB r (appS (e :: es) [{ k := enc a, v := yu, born := clock }]) fun q => setEntry (enc a) yu (e :: es) (q.1 - i)) = e :: (optB r (appS es [{ k := enc a, v := yu, born := clock }]) fun q => setEntry (enc a) yu es (q.1 - (i + 1))) := by
          cases r with
          | none =>
            show consS e _ = _
            exact consS_eq e _
          | some q =>
            have := u3 q rfl
            show setEntry (enc a) yu (e :: es) (q.1 - i) = e :: setEntry (enc a) yu es (q.1 - (i + 1))
            rw [show q.1 - i = (q.1 - (i + 1)) + 1 by omega]
            show consS e _ = _
            exact consS_eq e _
        rw [hcons]
        refine ⟨fun e' he' => ?_, fun b => ?_, fun q hq => by have := u3 q hq; omega⟩
        · rcases List.mem_cons.1 he' with rfl | h2
          · exact ⟨a', ha'⟩
          · exact u1 _ h2
        · show (if e.k = enc b then some e.v else look enc _ b) = if b = a then some yu else if e.k = enc b then some e.v else look enc es b
          rw [u2]
          by_cases h3 : e.k = enc b
          · rw [if_pos h3, if_pos h3, if_neg fun h4 => haa (by rw [h4, ha'] at h3; exact (h.inj h3).symm)]
          · rw [if_neg h3, if_neg h3]
/-- a map's block -/
structure Mp (enc : κ → U) (m : M) (b : Nat) (f : κ → Option U) : Prop where
  ex : ∃ es clock, m.g b = some (.map es clock) ∧ Keys enc es ∧ ∀ a, look enc es a = f a
  lt : b < m.nxt
theorem Mp.new {m m0 : M} (h : m0 = m.new (.map [] 0)) : Mp enc m0 m.nxt (fun _ => none) ∧ Ext m m0 := by
  subst h
  exact ⟨⟨⟨[], 0, by rw [M.g_new, if_pos rfl], fun e he => (by cases he), fun _ => rfl⟩, by rw [M.nxt_new]; omega⟩, Ext.new m _⟩
theorem Mp.ext {m m' : M} {b : Nat} {f : κ → Option U} (h : Mp enc m b f) (e : Ext m m') : Mp enc m' b f := by
  obtain ⟨es, clock, h1, h2⟩ := h.ex
  exact ⟨⟨es, clock, (e.g b h.lt).trans h1, h2⟩, Nat.lt_of_lt_of_le h.lt e.nxt⟩
theorem Mp.lk (hK : KeyLike P kt enc) {m : M} {b : Nat} {f : κ → Option U} (h : Mp enc m b f) (a : κ) {k : V} (hk : k = uV (enc a)) : lkM P kt m (.map b) k = some (f a) := by
  subst hk
  obtain ⟨es, clock, h1, h2, h3⟩ := h.ex
  obtain ⟨ks, hp⟩ := hK.plain
  obtain ⟨r, hr, hl, _⟩ := find_look hK a 0 h2
  unfold lkM
  rw [hp, optB_some, hK.eq, optB_some, ← h3 a, ← hl]
  simp only [h1]
  rw [hr]; rfl
theorem Mp.up (hK : KeyLike P kt enc) {m : M} {b : Nat} {f : κ → Option U} (h : Mp enc m b f) (a : κ) (y : U) {k yv : V} (hk : k = uV (enc a)) (hy : yv = uV y) :
    ∃ o, upM P kt m (.map b) k yv = some (m.set b o) ∧ Mp enc (m.set b o) b (fun b => if b = a then some y else f b) := by
  subst hk hy
  obtain ⟨es, clock, h1, h2, h3⟩ := h.ex
  obtain ⟨ks, hp⟩ := hK.plain
  obtain ⟨r, hr, _, hu⟩ := find_look hK a 0 h2
  obtain ⟨u1, u2, _⟩ := hu y clock
  unfold upM
  rw [hp, optB_some]
  simp only [h1]
  rw [vU_uV, optB_some, vU_uV, optB_some, hK.eq, optB_some, hr, optB_some]
  cases r with
  | none => exact ⟨_, rfl, ⟨_, _, (by rw [M.g_set, if_pos rfl]; rfl), u1, fun b => by rw [u2, h3]⟩, h.lt⟩
  | some q => exact ⟨_, rfl, ⟨_, _, (by rw [M.g_set, if_pos rfl]; rfl), u1, fun b => by have := u2 b; rw [h3] at this; exact this⟩, h.lt⟩
end
end Go.Abs

namespace Go.Abs
set_option maxRecDepth 100000
noncomputable section
open Classical
variable {P : Program}
/-- types of keys -/
class MK (K : Type) where
  enc : K → U
  fit : K → Prop
/-- types of values -/
class MV (V : Type) where
  enc : V → U
instance : MV Int := ⟨fun a => .c (.int .i64 a)⟩
instance : MV Bool := ⟨fun a => .c (.bool a)⟩
def encK (K : Type) [MK K] (k : {k : K // MK.fit k}) : U := MK.enc k.1
/-- a map type of the program -/
def KL (P : Program) (kt : TypeId) (K : Type) [MK K] : Prop := KeyLike P kt (encK K)
variable {K V' : Type} [MK K] [MV V']
/-- a map: none: it is nil -/
def Mi (m : M) (c : C) (M : Option (K → Option V')) : Prop :=
  match M with
  | none => c = .map0
  | some f => ∃ b, c = .map b ∧ Mp (encK K) m b (fun k => (f k.1).map MV.enc)
def mget (M : Option (K → Option V')) (k : K) : Option V' := M.bind fun f => f k
def mset (M : Option (K → Option V')) (k : K) (v : V') : Option (Option (K → Option V')) := M.map fun f => some fun j => if j = k then some v else f j
/-- a map that may be written -/
structure Mo (F : Fm) (f : M) (τ : Nat → Nat) (m : M) (t : Nat) (c : C) (M : Option (K → Option V')) : Prop where
  mi : Mi m c M
  own : ∀ b, c = .map b → (F.m.nxt ≤ b ∨ F.B b) ∧ f.g b = none ∧ τ b = t ∧ b < m.nxt
theorem Mp.to {κ : Type} {enc : κ → U} {m m' : M} {b : Nat} {f : κ → Option U} (h : Mp enc m b f) (hn : m.nxt ≤ m'.nxt) (hg : m'.g b = m.g b) : Mp enc m' b f := by
  obtain ⟨es, clock, h1, h2⟩ := h.ex
  exact ⟨⟨es, clock, hg.trans h1, h2⟩, Nat.lt_of_lt_of_le h.lt hn⟩
theorem Mi.to {m m' : M} {c : C} {M : Option (K → Option V')} (h : Mi m c M) (hn : m.nxt ≤ m'.nxt) (hg : ∀ b, c = .map b → m'.g b = m.g b) : Mi m' c M := by
  cases M with
  | none => exact h
  | some f =>
    obtain ⟨b, h1, h2⟩ := h
    exact ⟨b, h1, h2.to hn (hg b h1)⟩
theorem Mo.k {F : Fm} {f f' m m' : M} {τ τ' : Nat → Nat} {t : Nat} {c : C} {M : Option (K → Option V')} {X : List Nat} (h : Mo F f τ m t c M) (k : Kp τ f m τ' f' m' X) (hx : t ∉ X) : Mo F f' τ' m' t c M := by
  have hX : ∀ b, c = .map b → τ b ∉ X := fun b hb => by rw [(h.own b hb).2.2.1]; exact hx
  refine ⟨h.mi.to k.nxt fun b hb => k.g b (h.own b hb).2.2.2 (hX b hb), fun b hb => ?_⟩
  obtain ⟨q1, q2, q3, q4⟩ := h.own b hb
  exact ⟨q1, (k.fg b q4 (hX b hb)).trans q2, (k.tg b q4).trans q3, Nat.lt_of_lt_of_le q4 k.nxt⟩
theorem Mo.new {F : Fm} {f0 f m m' : M} (s : St F f0 f m) (h : m' = m.new (.map [] 0)) (τ : Nat → Nat) (t : Nat) : ∃ τ', St F f0 f m' ∧ Kp τ f m τ' f m' [] ∧ Mo F f τ' m' t (.map m.nxt) (some fun _ => none : Option (K → Option V')) := by
  obtain ⟨h1, h2⟩ := s.new h τ t
  refine ⟨_, h1, h2, ⟨m.nxt, rfl, (Mp.new (enc := encK K) h).1⟩, fun b hb => ?_⟩
  cases hb
  exact ⟨.inl s.ext.nxt, s.fz _ s.sub.nxt, if_pos rfl, by rw [h, M.nxt_new]; omega⟩
theorem Mo.nil (F : Fm) (f : M) (τ : Nat → Nat) (m : M) (t : Nat) : Mo F f τ m t .map0 (none : Option (K → Option V')) := ⟨rfl, fun b hb => by cases hb⟩
theorem Mi.lk {kt : TypeId} (hK : KL P kt K) {m : M} {c : C} {M : Option (K → Option V')} (h : Mi m c M) {k : K} (hf : MK.fit k) {kv : V} (hk : kv = uV (MK.enc k)) : lkM P kt m c kv = some ((mget M k).map MV.enc) := by
  cases M with
  | none =>
    have h : c = .map0 := h
    subst h hk
    obtain ⟨ks, hp⟩ := KeyLike.plain hK
    unfold lkM
    rw [hp, optB_some, show eqV P kt (uV (MK.enc k)) (uV (MK.enc k)) = _ from hK.eq ⟨k, hf⟩ ⟨k, hf⟩, optB_some]
    rfl
  | some f =>
    obtain ⟨b, rfl, h2⟩ := h
    exact h2.lk hK ⟨k, hf⟩ hk
theorem Mo.up {kt : TypeId} (hK : KL P kt K) {F : Fm} {f0 f m : M} (s : St F f0 f m) {τ : Nat → Nat} {t : Nat} {c : C} {M M' : Option (K → Option V')} (h : Mo F f τ m t c M) {k : K} (hf : MK.fit k) {v : V'} (hM : mset M k v = some M') {kv yv : V} (hk : kv = uV (MK.enc k)) (hy : yv = uV (MV.enc v)) :
    ∃ m', upM P kt m c kv yv = some m' ∧ St F f0 f m' ∧ Kp τ f m τ f m' [t] ∧ Mo F f τ m' t c M' := by
  cases M with
  | none => cases hM
  | some g =>
    cases hM
    obtain ⟨b, rfl, h2⟩ := h.mi
    obtain ⟨q1, q2, q3, q4⟩ := h.own b rfl
    obtain ⟨o, h3, h4⟩ := h2.up hK ⟨k, hf⟩ (MV.enc v) hk hy
    have hne : ∀ b', b' ≠ b → (m.set b o).g b' = m.g b' := fun b' hb' => by rw [M.g_set, if_neg hb']
    refine ⟨_, h3, s.chg (X := fun b' => b' = b) (fun b' hb' => by subst hb'; exact ⟨q1, q2⟩) (Nat.le_refl _) rfl fun b' _ hb' => hne b' hb', ⟨Nat.le_refl _, fun _ _ => rfl, fun b' _ hx => hne b' fun he => hx (by rw [he, q3]; exact List.mem_cons_self ..), fun _ _ _ => rfl, .refl f, rfl⟩, ⟨b, rfl, ?_⟩, fun b' hb' => by cases hb'; exact ⟨q1, q2, q3, q4⟩⟩
    have e : (fun b' : {k : K // MK.fit k} => @ite (Option U) (b' = ⟨k, hf⟩) (propDecidable (b' = ⟨k, hf⟩)) (some (MV.enc v)) ((g b'.1).map MV.enc)) = fun k' => Option.map MV.enc (if k'.1 = k then some v else g k'.1) := by
      funext k'
      by_cases hkk : k'.1 = k
      · rw [if_pos (Subtype.ext hkk), if_pos hkk]; rfl
      · rw [if_neg fun h => hkk (congrArg Subtype.val h), if_neg hkk]
    exact e ▸ h4
theorem Mi.noFn {m : M} {c : C} {M : Option (K → Option V')} (h : Mi m c M) : noFnC c = true := by
  cases M with
  | none => have h : c = .map0 := h; subst h; rfl
  | some f => obtain ⟨b, rfl, _⟩ := h; rfl
/-- but for a map all is as it was -/
structure ExtB (c : C) (m m' : M) : Prop where
  nxt : m.nxt ≤ m'.nxt
  g : ∀ b, b < m.nxt → c ≠ .map b → m'.g b = m.g b
  vw : m'.vw = m.vw
/-- a map that a function is called with -/
structure Mc (f m : M) (c : C) (M : Option (K → Option V')) : Prop where
  mi : Mi m c M
  own : ∀ b, c = .map b → f.g b = none ∧ f.vw b = none ∧ b < m.nxt
/-- a map that a function hands back -/
structure Mn (m f' m' : M) (c : C) (M : Option (K → Option V')) : Prop where
  mi : Mi m' c M
  own : ∀ b, c = .map b → f'.g b = none ∧ m.nxt ≤ b ∧ b < m'.nxt
def Fm.mp (m : M) (c : C) : Fm := ⟨m, fun b => c = .map b⟩
theorem Pre.stM {f m : M} (h : Pre f m) {c : C} {M : Option (K → Option V')} (hc : Mc f m c M) : St (Fm.mp m c) f f m := h.stB _ fun b hb => (hc.own b hb).2.1
theorem Mc.mo {f m : M} {c : C} {M : Option (K → Option V')} (hc : Mc f m c M) (t : Nat) : Mo (Fm.mp m c) f (fun _ => t) m t c M := ⟨hc.mi, fun b hb => ⟨.inr hb, (hc.own b hb).1, rfl, (hc.own b hb).2.2⟩⟩
theorem St.extB {m0 f0 f m : M} {c : C} (h : St (Fm.mp m0 c) f0 f m) : ExtB c m0 m := ⟨h.ext.nxt, fun b hb hne => h.ext.g b hb hne, h.ext.vw⟩
theorem Mo.mc {F : Fm} {f0 f m : M} (s : St F f0 f m) {τ : Nat → Nat} {t : Nat} {c : C} {M : Option (K → Option V')} (h : Mo F f τ m t c M) : Mc f m c M := ⟨h.mi, fun b hb => ⟨(h.own b hb).2.1, s.v0 b (h.own b hb).1, (h.own b hb).2.2.2⟩⟩
/-- a call that may write a map -/
theorem St.callM {F : Fm} {f0 f m m' : M} (s : St F f0 f m) {τ : Nat → Nat} {t : Nat} {c : C} {M M' : Option (K → Option V')} (h : Mo F f τ m t c M) (e : ExtB c m m') (h' : Mi m' c M') : St F f0 f m' ∧ Kp τ f m τ f m' [t] ∧ Mo F f τ m' t c M' := by
  refine ⟨s.chg (X := fun b => c = .map b) (fun b hb => ⟨(h.own b hb).1, (h.own b hb).2.1⟩) e.nxt e.vw e.g, ⟨e.nxt, fun _ _ => rfl, fun b hb hx => e.g b hb fun hc => hx (by rw [(h.own b hc).2.2.1]; exact List.mem_cons_self ..), fun _ _ _ => rfl, .refl f, e.vw⟩, h', fun b hb => ?_⟩
  obtain ⟨q1, q2, q3, q4⟩ := h.own b hb
  exact ⟨q1, q2, q3, Nat.lt_of_lt_of_le q4 e.nxt⟩
/-- a call that hands back a map -/
theorem St.callN {F : Fm} {f0 f m m' f' : M} (s : St F f0 f m) (g : Grw m f m' f') {c : C} {M : Option (K → Option V')} (h : Mn m f' m' c M) (τ : Nat → Nat) (t : Nat) : ∃ τ', St F f0 f' m' ∧ Kp τ f m τ' f' m' [] ∧ Mo F f' τ' m' t c M := by
  obtain ⟨h1, h2⟩ := s.callG g τ
  refine ⟨fun b => if m.nxt ≤ b then t else τ b, h1, ⟨h2.nxt, fun b hb => if_neg (by omega), h2.g, h2.fg, h2.fs, h2.vw⟩, h.mi, fun b hb => ?_⟩
  obtain ⟨q1, q2, q3⟩ := h.own b hb
  exact ⟨.inl (Nat.le_trans s.ext.nxt q2), q1, if_pos q2, q3⟩
theorem Mo.mn {m0 f m : M} {τ : Nat → Nat} {t : Nat} {c : C} {M : Option (K → Option V')} (h : Mo (Fm.of m0) f τ m t c M) : Mn m0 f m c M := ⟨h.mi, fun b hb => ⟨(h.own b hb).2.1, (h.own b hb).1.elim id fun h => h.elim, (h.own b hb).2.2.2⟩⟩
theorem eqK_i {k : IntKind} {a b : Int} (ha : fitsP k a) (hb : fitsP k b) : eqK (.int k) (.int k a) (.int k b) = some (decide (a = b)) := by
  cases k <;> (show ifB (Go.Abs.fits _ a) (ifB (Go.Abs.fits _ b) (some (intEq a b)) none) none = _; rw [fits_of ha, fits_of hb, intEq_eq]; rfl)
theorem dec_and {p q : Prop} [Decidable p] [Decidable q] [Decidable (p ∧ q)] : ifB (decide p) (decide q) false = decide (p ∧ q) := by
  by_cases hp : p <;> by_cases hq : q <;> simp [hp, hq, ifB]
theorem eqKs_nil : eqKs [] [] [] = some (decide True) := by rw [decide_eq_true trivial]; rfl
theorem eqKs_cons {k : CK} {ks : List CK} {x y : C} {xs ys : List C} {p q : Prop} [Decidable p] [Decidable q] (h : eqK k x y = some (decide p)) (h2 : eqKs ks xs ys = some (decide q)) : eqKs (k :: ks) (x :: xs) (y :: ys) = some (decide (p ∧ q)) := by
  show optB (eqK k x y) none (fun b => optB (eqKs ks xs ys) none fun r => some (ifB b r false)) = _
  rw [h, h2, optB_some, optB_some, dec_and]
theorem kl_agg {kt n : Nat} {ks : List CK} (hpl : plainK P kt = some ks) (hag : isAggT P kt = true) {cs : K → List C} (henc : ∀ k, MK.enc k = .agg n (cs k)) (h : ∀ a b : K, MK.fit a → MK.fit b → ∃ (p : Prop) (_ : Decidable p), eqKs ks (cs a) (cs b) = some (decide p) ∧ (p ↔ a = b)) : KL P kt K := by
  refine ⟨⟨_, hpl⟩, fun a b => ?_⟩
  obtain ⟨a, fa⟩ := a
  obtain ⟨b, fb⟩ := b
  obtain ⟨p, _, h1, h2⟩ := h a b fa fb
  have ea : uV (encK K ⟨a, fa⟩) = .agg n (cs a) := by show uV (MK.enc a) = _; rw [henc]; rfl
  have eb : uV (encK K ⟨b, fb⟩) = .agg n (cs b) := by show uV (MK.enc b) = _; rw [henc]; rfl
  rw [ea, eb]
  unfold eqV
  rw [hpl, optB_some]
  show optB (ifB (isAggT P kt) (some (cs a)) none) none (fun xs => optB (ifB (isAggT P kt) (some (cs b)) none) none fun ys => eqKs ks xs ys) = _
  rw [hag]
  show eqKs ks (cs a) (cs b) = _
  rw [h1]
  exact congrArg some (decide_eq_decide.2 ⟨fun h => Subtype.ext (h2.1 h), fun h => h2.2 (congrArg Subtype.val h)⟩)
def mcase {α β : Type} (o : Option α) (a : Option β) (f : α → Option β) : Option β := match o with | none => a | some v => f v
theorem mcase_none {α β : Type} {o : Option α} {a : Option β} {f : α → Option β} (h : o = none) : mcase o a f = a := by rw [h]; rfl
theorem mcase_some {α β : Type} {o : Option α} {a : Option β} {f : α → Option β} {v : α} (h : o = some v) : mcase o a f = f v := by rw [h]; rfl
end
end Go.Abs

namespace Go.Abs
set_option maxRecDepth 100000
noncomputable section
variable {P : Program} {T : List (Nat × Bool)}
/-- what is handed out, as arguments -/
class IV (α : Type) where
  encs : α → List V
instance {α : Type} [MV α] : IV α := ⟨fun a => [uV (MV.enc a)]⟩
instance {α β : Type} [MV α] [MV β] : IV (α × β) := ⟨fun a => [uV (MV.enc a.1), uV (MV.enc a.2)]⟩
variable {α : Type} [IV α]
/-- a function value that hands out l -/
def It (P : Program) (T : List (Nat × Bool)) (f : M) (x : C) (l : List α) : Prop :=
  ∃ g a b D R, x = .fn (.func g) a b ∧ Iter P T x (l.map IV.encs) D R ∧ (∀ m, Sub f m → R m) ∧ ∀ b, D b → b < f.nxt ∧ (f.g b ≠ none ∨ f.vw b ≠ none)
theorem It.sub {f m : M} {x : C} {l : List α} (h : It P T f x l) (s : Sub f m) : It P T m x l := by
  obtain ⟨g, a, b, D, R, h1, h2, h3, h4⟩ := h
  refine ⟨g, a, b, D, R, h1, h2, fun m' hs => h3 m' (s.trans hs), fun b hb => ?_⟩
  obtain ⟨q1, q2⟩ := h4 b hb
  exact ⟨Nat.lt_of_lt_of_le q1 s.nxt, by rw [s.g b q1 q2, s.vw]; exact q2⟩
def ownBlk (x : C) (b : Nat) : Prop := ∃ o n s d, x = .sl b o n s d
/-- what is said of memory speaks of blocks of before n0, and of Z -/
structure Gud (n0 tR : Nat) (Z : Nat → Prop) (A : Fm → M → (Nat → Nat) → M → Prop) : Prop where
  loc : ∀ G f τ m m', A G f τ m → m.nxt ≤ m'.nxt → m'.vw = m.vw → (∀ b, b < n0 ∨ Z b → m'.g b = m.g b) → A G f τ m'
  tg : ∀ G f τ τ' m, A G f τ m → (∀ b, b < n0 ∨ Z b → τ' b = τ b) → A G f τ' m
  fr : ∀ G G' f τ m, A G f τ m → (∀ b, b < n0 ∨ Z b → b < m.nxt → f.g b = none → τ b ≠ tR → (G.m.nxt ≤ b ∨ G.B b) → (G'.m.nxt ≤ b ∨ G'.B b)) → A G' f τ m
  z : ∀ G f τ m, A G f τ m → ∀ b, Z b → b < m.nxt ∧ f.g b = none ∧ τ b ≠ tR ∧ (G.m.nxt ≤ b ∨ G.B b)
namespace Gud
variable {n0 tR : Nat} {Z Z' : Nat → Prop} {A A' : Fm → M → (Nat → Nat) → M → Prop}
theorem and (h : Gud n0 tR Z A) (h' : Gud n0 tR Z' A') : Gud n0 tR (fun b => Z b ∨ Z' b) (fun G f τ m => A G f τ m ∧ A' G f τ m) :=
  ⟨fun G f τ m m' q hn hv hg => ⟨h.loc G f τ m m' q.1 hn hv fun b hb => hg b (hb.imp id .inl), h'.loc G f τ m m' q.2 hn hv fun b hb => hg b (hb.imp id .inr)⟩,
   fun G f τ τ' m q hg => ⟨h.tg G f τ τ' m q.1 fun b hb => hg b (hb.imp id .inl), h'.tg G f τ τ' m q.2 fun b hb => hg b (hb.imp id .inr)⟩,
   fun G G' f τ m q hg => ⟨h.fr G G' f τ m q.1 fun b hb => hg b (hb.imp id .inl), h'.fr G G' f τ m q.2 fun b hb => hg b (hb.imp id .inr)⟩,
   fun G f τ m q b hb => hb.elim (h.z G f τ m q.1 b) (h'.z G f τ m q.2 b)⟩
theorem lb {t b n : Nat} {vs : List C} (hb : b < n0) (ht : t ≠ tR) : Gud n0 tR (fun _ => False) (fun G f τ m => Lb G f τ m t b n vs) :=
  ⟨fun G f τ m m' q hn hv hg => ⟨⟨(hg b (.inl hb)).trans q.bk.g, Nat.lt_of_lt_of_le q.bk.lt hn⟩, q.new, q.nf, q.tg⟩,
   fun G f τ τ' m q hg => ⟨q.bk, q.new, q.nf, (hg b (.inl hb)).trans q.tg⟩,
   fun G G' f τ m q hg => ⟨q.bk, hg b (.inl hb) q.bk.lt q.nf (by rw [q.tg]; exact ht) q.new, q.nf, q.tg⟩,
   fun _ _ _ _ _ _ h => h.elim⟩
theorem ow {β : Type} [Rp β] {t : Nat} {x : C} {l : List β} (ht : t ≠ tR) : Gud n0 tR (ownBlk x) (fun G f τ m => Ow G f τ m t x l) :=
  ⟨fun G f τ m m' q hn hv hg => by
    obtain ⟨vs, h1, h2⟩ := q.own
    exact ⟨⟨vs, h1.to hn fun b hb he => by obtain ⟨s, d, he⟩ := he; exact hg b (.inr ⟨_, _, s, d, he⟩), h2⟩, q.nw⟩,
   fun G f τ τ' m q hg => ⟨q.own, fun b o n s d he => by
    obtain ⟨q1, q2, q3⟩ := q.nw b o n s d he
    exact ⟨q1, q2, (hg b (.inr ⟨_, _, _, _, he⟩)).trans q3⟩⟩,
   fun G G' f τ m q hg => ⟨q.own, fun b o n s d he => by
    obtain ⟨q1, q2, q3⟩ := q.nw b o n s d he
    exact ⟨hg b (.inr ⟨_, _, _, _, he⟩) (q.lt he) q2 (by rw [q3]; exact ht) q1, q2, q3⟩⟩,
   fun G f τ m q b hb => by
    obtain ⟨o, n, s, d, he⟩ := hb
    obtain ⟨q1, q2, q3⟩ := q.nw b o n s d he
    exact ⟨q.lt he, q2, by rw [q3]; exact ht, q1⟩⟩
theorem mo {K V' : Type} [MK K] [MV V'] {t : Nat} {c : C} {M : Option (K → Option V')} (hb : ∀ b, c = .map b → b < n0) (ht : t ≠ tR) : Gud n0 tR (fun _ => False) (fun G f τ m => Mo G f τ m t c M) :=
  ⟨fun G f τ m m' q hn hv hg => ⟨q.mi.to hn fun b hc => hg b (.inl (hb b hc)), fun b hc => by
    obtain ⟨q1, q2, q3, q4⟩ := q.own b hc
    exact ⟨q1, q2, q3, Nat.lt_of_lt_of_le q4 hn⟩⟩,
   fun G f τ τ' m q hg => ⟨q.mi, fun b hc => by
    obtain ⟨q1, q2, q3, q4⟩ := q.own b hc
    exact ⟨q1, q2, (hg b (.inl (hb b hc))).trans q3, q4⟩⟩,
   fun G G' f τ m q hg => ⟨q.mi, fun b hc => by
    obtain ⟨q1, q2, q3, q4⟩ := q.own b hc
    exact ⟨hg b (.inl (hb b hc)) q4 q2 (by rw [q3]; exact ht) q1, q2, q3, q4⟩⟩,
   fun _ _ _ _ _ _ h => h.elim⟩
end Gud
theorem Mo.lt {K V' : Type} [MK K] [MV V'] {F : Fm} {f m : M} {τ : Nat → Nat} {t : Nat} {c : C} {M : Option (K → Option V')} (h : Mo F f τ m t c M) : ∀ b, c = .map b → b < m.nxt := fun b hb => (h.own b hb).2.2.2
/-- the record of a loop -/
structure Rk (F : Fm) (f : M) (τ : Nat → Nat) (m : M) (t b : Nat) (o : Option AO) : Prop where
  g : m.g b = o
  new : F.m.nxt ≤ b ∨ F.B b
  nf : f.g b = none
  tg : τ b = t
  lt : b < m.nxt
theorem Rk.k {F : Fm} {f f' m m' : M} {τ τ' : Nat → Nat} {t b : Nat} {o : Option AO} {X : List Nat} (h : Rk F f τ m t b o) (k : Kp τ f m τ' f' m' X) (hx : t ∉ X) : Rk F f' τ' m' t b o := by
  have hx : τ b ∉ X := by rw [h.tg]; exact hx
  exact ⟨(k.g b h.lt hx).trans h.g, h.new, (k.fg b h.lt hx).trans h.nf, (k.tg b h.lt).trans h.tg, Nat.lt_of_lt_of_le h.lt k.nxt⟩
/-- A LOOP OVER WHAT IS HANDED OUT -/
theorem range_st {F : Fm} {f0 f m : M} (s : St F f0 f m) {x : C} {l : List α} (hi : It P T f x l) {round : Round} {after : After} {σ : Type} (tR : Nat) (Z : σ → Nat → Prop) (A : σ → Fm → M → (Nat → Nat) → M → Prop)
    (nx : List α → σ → Prop) (ne : Ex → σ → Prop) (hG : ∀ st, Gud m.nxt tR (Z st) (A st)) {st0 : σ} {τ : Nat → Nat} (h0 : A st0 F f τ m) (hn0 : nx l st0)
    (hround : ∀ (a : α) (rest : List α) (st : σ) (f1 : M) (τ1 : Nat → Nat) (m1 : M) (F1 : Fm) (o1 : Option AO) (Ok : Option AO → Prop) (enter : M → (M → Prop) → Prop) (K : Ex → M → Prop),
      St F1 f1 f1 m1 → Sub f f1 → A st F1 f1 τ1 m1 → Rk F1 f1 τ1 m1 tR m.nxt o1 → nx (a :: rest) st →
      (∀ fx τx mx k, St F1 f1 fx mx → Rk F1 fx τx mx tR m.nxt o1 → (∀ m3 o3, St F1 f1 fx m3 → Kp τx fx mx τx fx m3 [tR] → Rk F1 fx τx m3 tR m.nxt o3 → Ok o3 → k m3) → enter mx k) →
      (∀ ex st' fx τx mx o3, St F1 f1 fx mx → A st' F1 fx τx mx → Rk F1 fx τx mx tR m.nxt o3 → Ok o3 → (match ex with | .nrm => nx rest st' | .val _ => False | ex => ne ex st') → K ex mx) →
      round (IV.encs a) m1 enter K)
    (hnrm : ∀ st f1 τ1 m1, St F f0 f1 m1 → Sub f f1 → A st F f1 τ1 m1 → nx [] st → after.nrm m1)
    (hexit : ∀ id st f1 τ1 m1, St F f0 f1 m1 → Sub f f1 → A st F f1 τ1 m1 → ne (.exit id) st → exitP id m1 after.exits)
    (hret : ∀ st f1 τ1 m1, St F f0 f1 m1 → Sub f f1 → A st F f1 τ1 m1 → ne .ret st → after.ret m1) : rangeP P T x m round after := by
  obtain ⟨g, a, b, D, R, rfl, hit, hR, hD⟩ := hi
  let own : Nat → Prop := fun b => f.g b = none ∧ (F.m.nxt ≤ b ∨ F.B b)
  let Inv : (σ → Prop) → (Nat → Prop) → M → Prop := fun q S m1 => ∃ st f1 τ1, St F f0 f1 m1 ∧ Sub f f1 ∧ A st F f1 τ1 m1 ∧ q st ∧ f1.g m.nxt = none ∧ (∀ b, Z st b → b ≠ m.nxt) ∧ m.nxt ≤ m1.nxt ∧ ∀ b, S b ↔ (b < m.nxt ∧ own b) ∨ (m.nxt < b ∧ (Z st b ∨ f1.g b ≠ none))
  have hvw : ∀ {f1 : M}, Sub f f1 → ∀ b, m.nxt ≤ b → f1.vw b = none := fun hs b hb => by rw [hs.vw]; exact s.fv b (Nat.le_trans s.sub.nxt hb)
  have hown : ∀ {f1 : M} {b : Nat}, Sub f f1 → f1.g b = none → (F.m.nxt ≤ b ∨ F.B b) → own b := fun {f1 b} hs hg hn => by
    refine ⟨?_, hn⟩
    cases hfb : f.g b with
    | none => rfl
    | some o =>
      have hb : b < f.nxt := by
        rcases Nat.lt_or_ge b f.nxt with h | h
        · exact h
        · rw [s.fz b h] at hfb; cases hfb
      have := hs.g b hb (.inl (by rw [hfb]; exact Option.some_ne_none _))
      rw [hg, hfb] at this; cases this
  have hfl : ∀ {f1 m1 : M} {b : Nat}, St F f0 f1 m1 → f1.g b ≠ none → b < m1.nxt := fun {f1 m1 b} h1 hb => by
    rcases Nat.lt_or_ge b f1.nxt with h | h
    · exact Nat.lt_of_lt_of_le h h1.sub.nxt
    · exact absurd (h1.fz b h) hb
  have hFn : F.m.nxt ≤ m.nxt := s.ext.nxt
  have hlocal : ∀ q, Local m.nxt (Inv q) := fun q => by
    refine ⟨fun S m1 m2 ⟨st, f1, τ1, h1, h2, h3, h4, h5, h6, h8, h7⟩ hn hv hs hlow => ?_, fun S m1 ⟨st, f1, τ1, h1, h2, h3, h4, h5, h6, h8, h7⟩ b hb => ?_⟩
    · refine ⟨st, f1, τ1, ⟨⟨Nat.le_trans h1.ext.nxt hn, fun b hb hB => ?_, hv.trans h1.ext.vw⟩, ⟨Nat.le_trans h1.sub.nxt hn, hv.trans h1.sub.vw, fun b hb hd => ?_⟩, h1.fz, h1.fv, h1.v0, h1.fs, h1.old⟩, h2, (hG st).loc _ _ _ _ _ h3 hn hv fun b hb => ?_, h4, h5, h6, Nat.le_trans h8 hn, h7⟩
      · rw [hlow b (Nat.lt_of_lt_of_le hb hFn)]; exact h1.ext.g b hb hB
      · rcases Nat.lt_or_ge b m.nxt with hbm | hbm
        · rw [hlow b hbm]; exact h1.sub.g b hb hd
        · have hd' := hd.elim id fun h => absurd (hvw h2 b hbm) h
          have hne : b ≠ m.nxt := fun h => hd' (by rw [h]; exact h5)
          rw [hs b ((h7 b).2 (.inr ⟨by omega, .inr hd'⟩))]; exact h1.sub.g b hb hd
      · rcases hb with hb | hb
        · exact hlow b hb
        · rcases Nat.lt_or_ge b m.nxt with hbm | hbm
          · exact hlow b hbm
          · have hne := h6 b hb
            exact hs b ((h7 b).2 (.inr ⟨by omega, .inl hb⟩))
    · rcases (h7 b).1 hb with ⟨hb, _⟩ | ⟨_, hb⟩
      · exact Nat.lt_of_lt_of_le hb h8
      · rcases hb with hb | hb
        · exact ((hG st).z _ _ _ _ h3 b hb).1
        · exact hfl h1 hb
  have hz0 : ∀ b, Z st0 b → b < m.nxt := fun b hb => ((hG st0).z _ _ _ _ h0 b hb).1
  have hf0 : f.g m.nxt = none := s.fz _ s.sub.nxt
  refine range_iter hit (hR m s.sub) (J := fun i => Inv (nx (l.drop i))) (X := fun ex => Inv (match ex with | .val _ => fun _ => False | ex => ne ex)) (fun i => hlocal _) (fun ex => hlocal _) (S0 := fun b => b < m.nxt ∧ own b)
    ⟨st0, f, τ, s, .refl f, h0, hn0, hf0, fun b hb => Nat.ne_of_lt (hz0 b hb), Nat.le_refl _, fun b => ⟨.inl, fun h => h.elim id fun ⟨h1, h2⟩ => (h2.elim (fun h2 => absurd (hz0 b h2) (by omega)) fun h2 => absurd (hfl s h2) (by omega))⟩⟩
    (fun b ⟨hb, ho⟩ hDb => ?_) ?_ ?_ ?_ ?_
  · obtain ⟨q1, q2⟩ := hD b hDb
    exact q2.elim (fun h => h ho.1) fun h => h (s.v0 b ho.2)
  · intro i xv S m1 Bm enter K hxv ⟨st, f1, τ1, h1, h2, h3, h4, h5, h6, h8, h7⟩ hlt hSl hwn henter hK
    rw [List.getElem?_map] at hxv
    cases hli : l[i]? with
    | none => rw [hli] at hxv; cases hxv
    | some av =>
    rw [hli] at hxv
    cases hxv
    have hil := (List.getElem?_eq_some_iff.1 hli).1
    have hdrop : l.drop i = av :: l.drop (i + 1) := by
      rw [List.drop_eq_getElem_cons hil]
      congr 1
      rw [List.getElem?_eq_getElem hil] at hli
      exact Option.some.inj hli
    rw [hdrop] at h4
    have hF1 : ∀ b, (b < m.nxt ∨ Z st b) → b < m1.nxt → f1.g b = none → (F.m.nxt ≤ b ∨ F.B b) → S b := fun b hb hbl hg hn => by
      rcases Nat.lt_or_ge b m.nxt with hbm | hbm
      · exact (h7 b).2 (.inl ⟨hbm, hown h2 hg hn⟩)
      · rcases hb with hb | hb
        · omega
        · have := h6 b hb
          exact (h7 b).2 (.inr ⟨by omega, .inl hb⟩)
    have hSnew : ∀ b, S b → F.m.nxt ≤ b ∨ F.B b := fun b hb => by
      rcases (h7 b).1 hb with ⟨_, hb⟩ | ⟨hb, _⟩
      · exact hb.2
      · exact .inl (by omega)
    have hback : ∀ b, (m1.nxt ≤ b ∨ (S b ∨ b = m.nxt)) → F.m.nxt ≤ b ∨ F.B b := fun b hb => by
      rcases hb with hb | hb | hb
      · exact .inl (by omega)
      · exact hSnew b hb
      · exact .inl (by omega)
    have hnoS : ∀ b, b < F.m.nxt → ¬ F.B b → ¬ (S b ∨ b = m.nxt) := fun b hb hB h => by
      rcases hback b (.inr h) with h9 | h9
      · omega
      · exact hB h9
    have hS1 : St ⟨m1, fun b => S b ∨ b = m.nxt⟩ f1 f1 m1 := ⟨⟨Nat.le_refl _, fun _ _ _ => rfl, rfl⟩, h1.sub, h1.fz, h1.fv, fun b hb => h1.v0 b (hback b hb), .refl f1, fun _ _ _ => rfl⟩
    have htag : ∀ b, b < m.nxt ∨ Z st b → tagAt τ1 m.nxt tR b = τ1 b := fun b hb => if_neg (hb.elim (fun h => by omega) (h6 b))
    have hA1 := (hG st).fr F ⟨m1, fun b => S b ∨ b = m.nxt⟩ f1 _ m1 ((hG st).tg _ _ _ _ _ h3 htag) fun b hb hbl hg _ hn => .inr (.inl (hF1 b hb hbl hg hn))
    refine hround av (l.drop (i + 1)) st f1 _ m1 ⟨m1, fun b => S b ∨ b = m.nxt⟩ (m1.g m.nxt) (fun o => ∀ m4 : M, m4.g m.nxt = o → Bm m4) enter K hS1 h2 hA1 ⟨rfl, .inr (.inr rfl), h5, if_pos rfl, hlt⟩ h4 (fun fx τx mx k hS hRk hk => ?_) fun ex st' fx τx mx o3 hS hA hRk hOk hne => ?_
    · refine henter mx k hRk.g fun m3 hn hv hg hB => ?_
      exact hk m3 (m3.g m.nxt) (hS.chg (X := fun b => b = m.nxt) (fun b hb => by subst hb; exact ⟨.inr (.inr rfl), hRk.nf⟩) (by rw [hn]; exact Nat.le_refl _) hv fun b _ hne => hg b hne)
        ⟨by rw [hn]; exact Nat.le_refl _, fun _ _ => rfl, fun b _ hx => hg b fun he => hx (by rw [he, hRk.tg]; exact List.mem_cons_self ..), fun _ _ _ => rfl, .refl fx, hv⟩
        ⟨rfl, hRk.new, hRk.nf, hRk.tg, by rw [hn]; exact hRk.lt⟩ hB
    · have hext : ∀ b, b < m1.nxt → ¬ S b → b ≠ m.nxt → mx.g b = m1.g b := fun b hb hSb hbn => hS.ext.g b hb fun h => h.elim hSb hbn
      have hlow : ∀ b, b < F.m.nxt → ¬ F.B b → b < m1.nxt ∧ ¬ S b ∧ b ≠ m.nxt := fun b hb hB => by
        have h9 := hnoS b hb hB
        exact ⟨by omega, fun h => h9 (.inl h), fun h => h9 (.inr h)⟩
      have hzx := (hG st').z _ _ _ _ hA
      have hfx : ∀ b, fx.g b ≠ none → b < m1.nxt → f1.g b ≠ none ∨ (S b ∨ b = m.nxt) := fun b hg hb => by
        by_cases hB : S b ∨ b = m.nxt
        · exact .inr hB
        · rw [hS.old b hb hB] at hg; exact .inl hg
      have hflx : ∀ b, fx.g b ≠ none → b < mx.nxt := fun b hb => by
        rcases Nat.lt_or_ge b fx.nxt with h | h
        · exact Nat.lt_of_lt_of_le h hS.sub.nxt
        · exact absurd (hS.fz b h) hb
      have hSt : St F f0 fx mx := ⟨⟨Nat.le_trans h1.ext.nxt hS.ext.nxt, fun b hb hB => by
          obtain ⟨q1, q2, q3⟩ := hlow b hb hB
          rw [hext b q1 q2 q3]; exact h1.ext.g b hb hB, hS.ext.vw.trans h1.ext.vw⟩, hS.sub, hS.fz, hS.fv, fun b hb => by rw [hS.fs.vw]; exact h1.v0 b hb, h1.fs.trans hS.fs, fun b hb hB => by
          obtain ⟨q1, q2, q3⟩ := hlow b hb hB
          rw [hS.old b q1 fun h => h.elim q2 q3]; exact h1.old b hb hB⟩
      have hInv : ∀ q : σ → Prop, q st' → Inv q (fun b => (b < m.nxt ∧ own b) ∨ (m.nxt < b ∧ (Z st' b ∨ fx.g b ≠ none))) mx := fun q hq =>
        ⟨st', fx, τx, hSt, h2.trans hS.fs, (hG st').fr _ _ _ _ _ hA fun b _ _ _ _ hn => hback b hn, hq, hRk.nf, fun b hb he => by
          have := (hzx b hb).2.2.1
          rw [he, hRk.tg] at this; exact this rfl, Nat.le_trans h8 hS.ext.nxt, fun b => Iff.rfl⟩
      refine hK ex (S' := fun b => (b < m.nxt ∧ own b) ∨ (m.nxt < b ∧ (Z st' b ∨ fx.g b ≠ none))) mx (hOk mx hRk.g) hS.ext.nxt hS.ext.vw hext (fun b hb => ?_) ?_
      · rcases hb with hb | ⟨hb, hb2⟩
        · exact .inl ((h7 b).2 (.inl hb))
        · rcases hb2 with hb2 | hb2
          · rcases (hzx b hb2).2.2.2 with h9 | h9 | h9
            · exact .inr h9
            · exact .inl h9
            · omega
          · rcases Nat.lt_or_ge b m1.nxt with h9 | h9
            · rcases hfx b hb2 h9 with h10 | h10 | h10
              · exact .inl ((h7 b).2 (.inr ⟨hb, .inr h10⟩))
              · exact .inl h10
              · omega
            · exact .inr h9
      · cases ex with
        | nrm => exact hInv _ hne
        | exit id => exact hInv _ hne
        | ret => exact hInv _ hne
        | val v => exact hne
  · intro S' m5 _ _ _ _ ⟨st, f1, τ1, h1, h2, h3, h4, _⟩
    rw [List.length_map, List.drop_length] at h4
    exact hnrm st f1 τ1 m5 h1 h2 h3 h4
  · intro id S' m5 _ _ _ _ ⟨st, f1, τ1, h1, h2, h3, h4, _⟩
    exact hexit id st f1 τ1 m5 h1 h2 h3 h4
  · intro S' m5 _ _ _ _ ⟨st, f1, τ1, h1, h2, h3, h4, _⟩
    exact hret st f1 τ1 m5 h1 h2 h3 h4
end
end Go.Abs

namespace Go.Abs
set_option maxRecDepth 100000
noncomputable section
variable {P : Program} {T : List (Nat × Bool)} {α : Type} [IV α]
/-- what a client says, while rest is still to be handed out -/
def YJ (xs : List (List V)) (I : Nat → (Nat → Prop) → M → Prop) (rest : List α) : (Nat → Prop) → M → Prop := fun S m => ∃ i, i ≤ xs.length ∧ I i S m ∧ xs.drop i = rest.map IV.encs
/-- a client's blocks, beside one's own -/
structure Yg (n0 : Nat) (J : (Nat → Prop) → M → Prop) (S : Nat → Prop) (F : Fm) (f : M) (τ : Nat → Nat) (m : M) : Prop where
  j : J S m
  loc : Local n0 J
  own : ∀ b, S b → τ b = 0 ∧ (F.m.nxt ≤ b ∨ F.B b) ∧ f.g b = none
  low : ∀ b, b < n0 → τ b = 0
  n : n0 ≤ m.nxt
theorem Yg.k {n0 : Nat} {J : (Nat → Prop) → M → Prop} {S : Nat → Prop} {F : Fm} {f f' m m' : M} {τ τ' : Nat → Nat} {X : List Nat} (h : Yg n0 J S F f τ m) (k : Kp τ f m τ' f' m' X) (hx : 0 ∉ X) : Yg n0 J S F f' τ' m' := by
  have hlt := h.loc.lt S m h.j
  have hS : ∀ b, S b → τ b ∉ X := fun b hb => by rw [(h.own b hb).1]; exact hx
  refine ⟨h.loc.st S m m' h.j k.nxt k.vw (fun b hb => k.g b (hlt b hb) (hS b hb)) fun b hb => k.g b (Nat.lt_of_lt_of_le hb h.n) (by rw [h.low b hb]; exact hx), h.loc, fun b hb => ?_, fun b hb => (k.tg b (Nat.lt_of_lt_of_le hb h.n)).trans (h.low b hb), Nat.le_trans h.n k.nxt⟩
  obtain ⟨q1, q2, q3⟩ := h.own b hb
  exact ⟨(k.tg b (hlt b hb)).trans q1, q2, (k.fg b (hlt b hb) (hS b hb)).trans q3⟩
theorem YJ.local {n0 ly : Nat} {xs : List (List V)} {I : Nat → (Nat → Prop) → M → Prop} {E : (Nat → Prop) → M → Prop} (hc : Client P T n0 ly xs I E) (rest : List α) : Local n0 (YJ xs I rest) :=
  ⟨fun S m m' ⟨i, h1, h2, h3⟩ hn hv hs hl => ⟨i, h1, (hc.li i).st S m m' h2 hn hv hs hl, h3⟩, fun S m ⟨i, _, h2, _⟩ => (hc.li i).lt S m h2⟩
/-- a call of yield -/
theorem Yg.yield {n0 ly : Nat} {xs : List (List V)} {I : Nat → (Nat → Prop) → M → Prop} {E : (Nat → Prop) → M → Prop} (hc : Client P T n0 ly xs I E) {S : Nat → Prop} {F : Fm} {f0 f m : M} {τ : Nat → Nat} (s : St F f0 f m) {a : α} {r : List α} (h : Yg n0 (YJ xs I (a :: r)) S F f τ m) {Q : V → M → Prop}
    (hT : ∀ m' τ' S', St F f0 f m' → Kp τ f m τ' f m' [0] → Yg n0 (YJ xs I r) S' F f τ' m' → Q (.c (.bool true)) m')
    (hF : ∀ m' τ' S', St F f0 f m' → Kp τ f m τ' f m' [0] → Yg n0 E S' F f τ' m' → Q (.c (.bool false)) m') : Wy P T ly (IV.encs a) m Q := by
  obtain ⟨i, hi, hI, hd⟩ := h.j
  have hx : xs[i]? = some (IV.encs a) := by
    have := congrArg (fun l => l[0]?) hd
    simpa using this
  have hlt := h.loc.lt S m h.j
  have hil := (List.getElem?_eq_some_iff.1 hx).1
  have hdr : xs.drop (i + 1) = r.map IV.encs := by
    rw [← List.drop_drop, hd]; rfl
  have hst : ∀ {S' : Nat → Prop} {m' : M}, Chg S m m' → St F f0 f m' := fun hch => s.chg (X := S) (fun b hb => (h.own b hb).2) hch.nxt hch.vw hch.g
  have hkp : ∀ {m' : M}, Chg S m m' → Kp τ f m (fun b => if b < m.nxt then τ b else 0) f m' [0] := fun hch =>
    ⟨hch.nxt, fun b hb => if_pos hb, fun b hb hx => hch.g b hb fun hSb => hx (by rw [(h.own b hSb).1]; exact List.mem_cons_self ..), fun _ _ _ => rfl, .refl f, hch.vw⟩
  have hyg : ∀ {J : (Nat → Prop) → M → Prop} {S' : Nat → Prop} {m' : M}, Local n0 J → J S' m' → Own S m S' → Chg S m m' → Yg n0 J S' F f (fun b => if b < m.nxt then τ b else 0) m' := fun {J S' m'} hl hj ho hch => by
    refine ⟨hj, hl, fun b hb => ?_, fun b hb => ?_, Nat.le_trans h.n hch.nxt⟩
    · rcases ho b hb with h1 | h1
      · obtain ⟨q1, q2, q3⟩ := h.own b h1
        exact ⟨(if_pos (hlt b h1)).trans q1, q2, q3⟩
      · exact ⟨if_neg (by omega), .inl (Nat.le_trans s.ext.nxt h1), s.fz b (Nat.le_trans s.sub.nxt h1)⟩
    · have := h.n
      exact (if_pos (by omega)).trans (h.low b hb)
  exact hc.yield i _ S m hx hI Q (fun S' m' ho hch hI' => hT m' _ S' (hst (S' := S') hch) (hkp hch) (hyg (YJ.local hc r) ⟨i + 1, hil, hI', hdr⟩ ho hch)) fun S' m' ho hch hE => hF m' _ S' (hst (S' := S') hch) (hkp hch) (hyg hc.le hE ho hch)
theorem nb_f {x : Bool} (h : (!x) = true) : x = false := by cases x; rfl; cases h
theorem nb_t {x : Bool} (h : (!x) = false) : x = true := by cases x; cases h; rfl
theorem ifB_f' {A B : Prop} (h : B) : ifB false A B := h
theorem ifB_t' {A B : Prop} (h : A) : ifB true A B := h
/-- a function that hands out, as a value -/
theorem it_of {g : FuncId} {b : List W} {f : M} (hfz : ∀ b, f.nxt ≤ b → f.g b = none) (hfv : ∀ b, f.nxt ≤ b → f.vw b = none) {l : List α}
    (hcode : ∀ n0 ly I E, Client P T n0 ly (l.map IV.encs) I E → ∀ (m1 : M) (F1 : Fm) (S : Nat → Prop) (τ : Nat → Nat), St F1 f f m1 → Yg n0 (YJ (l.map IV.encs) I l) S F1 f τ m1 → ∀ Q : V → M → Prop,
      (∀ v m' f' τ' S', St F1 f f' m' → (Yg n0 (YJ (l.map IV.encs) I ([] : List α)) S' F1 f' τ' m' ∨ Yg n0 E S' F1 f' τ' m') → Q v m') → Wc P T g (appS [.c (.fn (.yield ly) [] [])] (mapS wV b)) m1 Q) : It P T f (.fn (.func g) [] b) l := by
  refine ⟨g, [], b, fun b => b < f.nxt ∧ (f.g b ≠ none ∨ f.vw b ≠ none), fun m => Sub f m, rfl, ⟨fun m m' hs hn hv hd => ⟨Nat.le_trans hs.nxt hn, hv.trans hs.vw, fun b hb hx => (hd b ⟨hb, hx⟩).trans (hs.g b hb hx)⟩, fun m hs b hb => Nat.lt_of_lt_of_le hb.1 hs.nxt, fun n0 ly I E hc S m hn hI hR hSD Q hQ => ?_⟩, fun m h => h, fun b h => h⟩
  have hSf : ∀ b, S b → f.g b = none ∧ f.vw b = none := fun b hb => by
    rcases Nat.lt_or_ge b f.nxt with h | h
    · have h9 := hSD b hb
      constructor
      · cases hg : f.g b with
        | none => rfl
        | some o => exact absurd ⟨h, .inl (by rw [hg]; exact Option.some_ne_none _)⟩ h9
      · cases hg : f.vw b with
        | none => rfl
        | some o => exact absurd ⟨h, .inr (by rw [hg]; exact Option.some_ne_none _)⟩ h9
    · exact ⟨hfz b h, hfv b h⟩
  have hst : St ⟨m, S⟩ f f m := ⟨⟨Nat.le_refl _, fun _ _ _ => rfl, rfl⟩, hR, hfz, hfv, fun b hb => hb.elim (fun h => hfv b (Nat.le_trans hR.nxt h)) fun h => (hSf b h).2, .refl f, fun _ _ _ => rfl⟩
  have hyg : Yg n0 (YJ (l.map IV.encs) I l) S ⟨m, S⟩ f (fun _ => 0) m := ⟨⟨0, Nat.zero_le _, hI, by rw [List.drop_zero]⟩, YJ.local hc l, fun b hb => ⟨rfl, .inr hb, (hSf b hb).1⟩, fun _ _ => rfl, hn⟩
  refine hcode n0 ly I E hc m ⟨m, S⟩ S _ hst hyg Q fun v m' f' τ' S' hs hy => ?_
  refine hQ v S' m' (fun b hb => ?_) ⟨hs.ext.nxt, hs.ext.g, hs.ext.vw⟩ ?_
  · have hnew : m.nxt ≤ b ∨ S b := hy.elim (fun h => (h.own b hb).2.1) fun h => (h.own b hb).2.1
    exact hnew.elim .inr .inl
  · rcases hy with h | h
    · obtain ⟨i, h1, h2, h3⟩ := h.j
      have : i = (l.map (IV.encs (α := α))).length := by
        have := congrArg List.length h3
        rw [List.length_drop] at this
        simp only [List.length_map, List.map_nil, List.length_nil] at this h1 ⊢
        omega
      rw [this] at h2; exact .inl h2
    · exact .inr h.j
end
end Go.Abs

namespace Go.Proofs.Ytbhdgedghfibcaa
open _root_.Go.Proofs.Try
open Go.Abs
set_option maxRecDepth 100000
noncomputable section
structure Rg where
  Lo : Int
  Hi : Int
def ok_Rg (a : Rg) : Prop := (fitsP .i64 a.Lo) ∧ (fitsP .i64 a.Hi)
instance : MK Rg := ⟨fun k => .agg 2 [.int .i64 k.Lo, .int .i64 k.Hi], fun k => fitsP .i64 k.Lo ∧ fitsP .i64 k.Hi ∧ True⟩
instance : MV Rg := ⟨fun k => .agg 2 [.int .i64 k.Lo, .int .i64 k.Hi]⟩
instance : Rp Rg := ⟨2, by omega, fun _ cs a => cs = [.int .i64 a.Lo, .int .i64 a.Hi], fun h => by rw [h]; rfl, fun h _ => h⟩
structure Tf where
  From : Int
  Whole : Bool
  Least : Int
  Weeks : List Int
  Counts : List Int
  Rates : List (List (List Int))
def ok_Tf (a : Tf) : Prop := (fitsP .i64 a.From) ∧ (True) ∧ (fitsP .i64 a.Least) ∧ (a.Weeks.length ≤ maxLen ∧ ∀ a0 ∈ a.Weeks, fitsP .i64 a0) ∧ (a.Counts.length ≤ maxLen ∧ ∀ a0 ∈ a.Counts, fitsP .i64 a0) ∧ (a.Rates.length ≤ maxLen ∧ ∀ a0 ∈ a.Rates, a0.length ≤ maxLen ∧ ∀ a1 ∈ a0, a1.length ≤ maxLen ∧ ∀ a2 ∈ a1, fitsP .i64 a2)
instance : Rp Tf := ⟨6, by omega, fun f cs a => ∃ c3 c4 c5 : C, cs = [.int .i64 a.From, .bool a.Whole, .int .i64 a.Least, c3, c4, c5] ∧ Sl f c3 a.Weeks ∧ Sl f c4 a.Counts ∧ Sl f c5 a.Rates, fun h => by obtain ⟨c3, c4, c5, h, _, _, _⟩ := h; rw [h]; rfl, fun h s => by obtain ⟨c3, c4, c5, h, h0, h1, h2⟩ := h; exact ⟨c3, c4, c5, h, h0.subv s, h1.subv s, h2.subv s⟩⟩
theorem rd_Tf {f : M} {x : C} {l : List Tf} (h : Sl f x l) {n : Nat} {a : Tf} (hi : l[n]? = some a) : ∃ c3 c4 c5 : C, (∀ m, Sub f m → ldA m (slAt x (n * 6)) 6 = some [.int .i64 a.From, .bool a.Whole, .int .i64 a.Least, c3, c4, c5] ∧ (∀ j c, ([.int .i64 a.From, .bool a.Whole, .int .i64 a.Least, c3, c4, c5] : List C)[j]? = some c → ldC m (ptAdd (slAt x (n * 6)) j) = some c) ∧ ∀ j i, 0 < i → j + i ≤ 6 → ldA m (ptAdd (slAt x (n * 6)) j) i = some ((([.int .i64 a.From, .bool a.Whole, .int .i64 a.Least, c3, c4, c5] : List C).drop j).take i)) ∧ Sl f c3 a.Weeks ∧ Sl f c4 a.Counts ∧ Sl f c5 a.Rates := by
  obtain ⟨cs, q1, q2⟩ := h.rdP hi
  obtain ⟨c3, c4, c5, rfl, z0, z1, z2⟩ := q2
  exact ⟨c3, c4, c5, q1, z0, z1, z2⟩
structure Clm where
  Crop : Int
  Value : Int
  Day : Rg
  Count : Rg
def ok_Clm (a : Clm) : Prop := (fitsP .i64 a.Crop) ∧ (fitsP .i64 a.Value) ∧ (ok_Rg a.Day) ∧ (ok_Rg a.Count)
instance : MK Clm := ⟨fun k => .agg 6 [.int .i64 k.Crop, .int .i64 k.Value, .int .i64 k.Day.Lo, .int .i64 k.Day.Hi, .int .i64 k.Count.Lo, .int .i64 k.Count.Hi], fun k => fitsP .i64 k.Crop ∧ fitsP .i64 k.Value ∧ fitsP .i64 k.Day.Lo ∧ fitsP .i64 k.Day.Hi ∧ fitsP .i64 k.Count.Lo ∧ fitsP .i64 k.Count.Hi ∧ True⟩
instance : MV Clm := ⟨fun k => .agg 6 [.int .i64 k.Crop, .int .i64 k.Value, .int .i64 k.Day.Lo, .int .i64 k.Day.Hi, .int .i64 k.Count.Lo, .int .i64 k.Count.Hi]⟩
instance : Rp Clm := ⟨6, by omega, fun _ cs a => cs = [.int .i64 a.Crop, .int .i64 a.Value, .int .i64 a.Day.Lo, .int .i64 a.Day.Hi, .int .i64 a.Count.Lo, .int .i64 a.Count.Hi], fun h => by rw [h]; rfl, fun h _ => h⟩
theorem rd_Clm {f : M} {x : C} {l : List Clm} (h : Sl f x l) {n : Nat} {a : Clm} (hi : l[n]? = some a) : ∃ _u : Unit, (∀ m, Sub f m → ldA m (slAt x (n * 6)) 6 = some [.int .i64 a.Crop, .int .i64 a.Value, .int .i64 a.Day.Lo, .int .i64 a.Day.Hi, .int .i64 a.Count.Lo, .int .i64 a.Count.Hi] ∧ (∀ j c, ([.int .i64 a.Crop, .int .i64 a.Value, .int .i64 a.Day.Lo, .int .i64 a.Day.Hi, .int .i64 a.Count.Lo, .int .i64 a.Count.Hi] : List C)[j]? = some c → ldC m (ptAdd (slAt x (n * 6)) j) = some c) ∧ ∀ j i, 0 < i → j + i ≤ 6 → ldA m (ptAdd (slAt x (n * 6)) j) i = some ((([.int .i64 a.Crop, .int .i64 a.Value, .int .i64 a.Day.Lo, .int .i64 a.Day.Hi, .int .i64 a.Count.Lo, .int .i64 a.Count.Hi] : List C).drop j).take i)) := by
  obtain ⟨cs, q1, q2⟩ := h.rdP hi
  have q2 : cs = _ := q2
  subst q2
  exact ⟨(), q1⟩
structure Tr where
  Day : Int
  Count : Int
instance : MK Tr := ⟨fun k => .agg 2 [.int .i64 k.Day, .int .i64 k.Count], fun k => fitsP .i64 k.Day ∧ fitsP .i64 k.Count ∧ True⟩
instance : MV Tr := ⟨fun k => .agg 2 [.int .i64 k.Day, .int .i64 k.Count]⟩
instance : Rp Tr := ⟨2, by omega, fun _ cs a => cs = [.int .i64 a.Day, .int .i64 a.Count], fun h => by rw [h]; rfl, fun h _ => h⟩
theorem rd_Tr {f : M} {x : C} {l : List Tr} (h : Sl f x l) {n : Nat} {a : Tr} (hi : l[n]? = some a) : ∃ _u : Unit, (∀ m, Sub f m → ldA m (slAt x (n * 2)) 2 = some [.int .i64 a.Day, .int .i64 a.Count] ∧ (∀ j c, ([.int .i64 a.Day, .int .i64 a.Count] : List C)[j]? = some c → ldC m (ptAdd (slAt x (n * 2)) j) = some c) ∧ ∀ j i, 0 < i → j + i ≤ 2 → ldA m (ptAdd (slAt x (n * 2)) j) i = some ((([.int .i64 a.Day, .int .i64 a.Count] : List C).drop j).take i)) := by
  obtain ⟨cs, q1, q2⟩ := h.rdP hi
  have q2 : cs = _ := q2
  subst q2
  exact ⟨(), q1⟩
structure Ht where
  Day : Int
  Count : Int
  crop : Int
instance : MK Ht := ⟨fun k => .agg 3 [.int .i64 k.Day, .int .i64 k.Count, .int .i64 k.crop], fun k => fitsP .i64 k.Day ∧ fitsP .i64 k.Count ∧ fitsP .i64 k.crop ∧ True⟩
instance : MV Ht := ⟨fun k => .agg 3 [.int .i64 k.Day, .int .i64 k.Count, .int .i64 k.crop]⟩
instance : Rp Ht := ⟨3, by omega, fun _ cs a => cs = [.int .i64 a.Day, .int .i64 a.Count, .int .i64 a.crop], fun h => by rw [h]; rfl, fun h _ => h⟩
structure Mnr where
  paid : Tf → Int → Option (Int)
structure Wk where
  tariffs : List Tf
  parts : Option (Ht → Option (Int))
def pawake : Option Bool := some true
def prIn (n : Int) (low : Int) (high : Int) : Option (Bool) := (if low ≤ n then (some (decide (n ≤ high))) else (some false))
def prRises_L0 (l : List Int) (most : Int) : Nat → Int → Option (Bool)
  | 0, _ => none
  | d4 + 1, x2 => (if x2 < (l.length : Int) then ((idx l x2).bind fun x6 => ((prIn x6 (0 : Int) most).bind fun r8 => (if r8 = true then (if (0 : Int) < x2 then ((idx l x2).bind fun x15 => (gd (fitsP .i64 (x2 - (1 : Int))) ((idx l (x2 - (1 : Int))).bind fun x18 => (if x15 ≤ x18 then (some false) else (gd (fitsP .i64 (x2 + (1 : Int))) (prRises_L0 l most d4 (x2 + (1 : Int)))))))) else (gd (fitsP .i64 (x2 + (1 : Int))) (prRises_L0 l most d4 (x2 + (1 : Int))))) else (some false)))) else (if (0 : Int) < (l.length : Int) then ((idx l (0 : Int)).bind fun x24 => (some (decide (x24 = (0 : Int))))) else (some false)))
def prRises (l : List Int) (most : Int) : Option (Bool) := (prRises_L0 l most (l.length + 1) (0 : Int))
def prIsTariff_L2 (t : Tf) (x26 : Int) (x36 : Int) (K_R33 : Bool → Int → Option (Bool)) : Nat → Bool → Int → Option (Bool)
  | 0, _, _ => none
  | d91 + 1, b46, x47 => (if x47 < (t.Counts.length : Int) then ((idx t.Rates x26).bind fun v93 => ((idx v93 x36).bind fun v98 => ((idx v98 x47).bind fun x103 => ((prIn x103 (0 : Int) (100 : Int)).bind fun r105 => (if r105 = true then (gd (fitsP .i64 (x47 + (1 : Int))) (prIsTariff_L2 t x26 x36 K_R33 d91 b46 (x47 + (1 : Int)))) else (some false)))))) else (gd (fitsP .i64 (x36 + (1 : Int))) (K_R33 b46 (x36 + (1 : Int)))))
def prIsTariff_L1 (t : Tf) (x26 : Int) (K_R22 : Bool → Int → Option (Bool)) : Nat → Bool → Int → Option (Bool)
  | 0, _, _ => none
  | d76 + 1, b34, x36 => (if x36 < (t.Weeks.length : Int) then ((idx t.Rates x26).bind fun v78 => ((idx v78 x36).bind fun v83 => (if (v83.length : Int) = (t.Counts.length : Int) then (prIsTariff_L2 t x26 x36 (prIsTariff_L1 t x26 K_R22 d76) 1000000 b34 (0 : Int)) else (some false)))) else (gd (fitsP .i64 (x26 + (1 : Int))) (K_R22 b34 (x26 + (1 : Int)))))
def prIsTariff_L0 (t : Tf) : Nat → Bool → Int → Option (Bool)
  | 0, _, _ => none
  | d66 + 1, b23, x26 => (if x26 < (t.Rates.length : Int) then ((idx t.Rates x26).bind fun v68 => (if (v68.length : Int) = (t.Weeks.length : Int) then (prIsTariff_L1 t x26 (prIsTariff_L0 t d66) 1000000 b23 (0 : Int)) else (some false))) else (some true))
def prIsTariff (t : Tf) : Option (Bool) := ((prIn t.From (0 : Int) (120 : Int)).bind fun r31 => (if r31 = true then ((prIn t.Least (0 : Int) (100 : Int)).bind fun r38 => (if r38 = true then ((prRises t.Weeks (120 : Int)).bind fun r45 => (if r45 = true then ((prRises t.Counts (100 : Int)).bind fun r52 => (if r52 = true then (gd (fitsP .i64 ((t.Counts.length : Int) - (1 : Int))) ((idx t.Counts ((t.Counts.length : Int) - (1 : Int))).bind fun x60 => (if x60 = (100 : Int) then (if (t.Rates.length : Int) = (0 : Int) then (some false) else (prIsTariff_L0 t 1000000 false (0 : Int))) else (some false)))) else (some false))) else (some false))) else (some false))) else (some false)))
def prFault_L1 (l : List Tf) : Nat → Int → Option (Int)
  | 0, _ => none
  | d153 + 1, x12 => (if x12 < (l.length : Int) then ((idx l x12).bind fun v155 => ((prIsTariff v155).bind fun r164 => (if r164 = true then ((idx l x12).bind fun v170 => ((idx l (0 : Int)).bind fun v179 => (if (v170.Rates.length : Int) = (v179.Rates.length : Int) then (if x12 = (0 : Int) then ((idx l x12).bind fun v190 => (if v190.From = (0 : Int) then (if (0 : Int) < x12 then ((idx l x12).bind fun v201 => (gd (fitsP .i64 (x12 - (1 : Int))) ((idx l (x12 - (1 : Int))).bind fun v211 => (if v201.From ≤ v211.From then (some (1 : Int)) else (gd (fitsP .i64 (x12 + (1 : Int))) (prFault_L1 l d153 (x12 + (1 : Int)))))))) else (gd (fitsP .i64 (x12 + (1 : Int))) (prFault_L1 l d153 (x12 + (1 : Int))))) else (some (1 : Int)))) else (if (0 : Int) < x12 then ((idx l x12).bind fun v224 => (gd (fitsP .i64 (x12 - (1 : Int))) ((idx l (x12 - (1 : Int))).bind fun v234 => (if v224.From ≤ v234.From then (some (1 : Int)) else (gd (fitsP .i64 (x12 + (1 : Int))) (prFault_L1 l d153 (x12 + (1 : Int)))))))) else (gd (fitsP .i64 (x12 + (1 : Int))) (prFault_L1 l d153 (x12 + (1 : Int)))))) else (some (1 : Int))))) else (some (1 : Int))))) else (if (l.length : Int) = (0 : Int) then (some (1 : Int)) else (some (0 : Int))))
def prFault_L0 (l : List Tf) : Nat → Int → Int → Option (Int)
  | 0, _, _ => none
  | d118 + 1, x1, x2 => (if x2 < (l.length : Int) then ((idx l x2).bind fun v120 => (if (4 : Int) < (v120.Weeks.length : Int) then (some (3 : Int)) else ((idx l x2).bind fun v130 => (if (5 : Int) < (v130.Counts.length : Int) then (some (3 : Int)) else ((idx l x2).bind fun v140 => (if (3 : Int) < (v140.Rates.length : Int) then (some (3 : Int)) else (gd (fitsP .i64 (x2 + (1 : Int))) (prFault_L0 l d118 x1 (x2 + (1 : Int)))))))))) else (prFault_L1 l (l.length + 1) (0 : Int)))
def prFault (l : List Tf) : Option (Int) := (if (3 : Int) < (l.length : Int) then (some (3 : Int)) else (prFault_L0 l (l.length + 1) (0 : Int) (0 : Int)))
def prCrops (l : List Tf) : Option (Int) := ((idx l (0 : Int)).bind fun v399 => (some (v399.Rates.length : Int)))
def prIsClaim (l : List Tf) (c : Clm) : Option (Bool) := ((prCrops l).bind fun r413 => (gd (fitsP .i64 (r413 - (1 : Int))) ((prIn c.Crop (0 : Int) (r413 - (1 : Int))).bind fun r420 => (if r420 = true then ((prIn c.Value (0 : Int) (100000 : Int)).bind fun r427 => (if r427 = true then (if (0 : Int) ≤ c.Day.Lo then (if c.Day.Lo ≤ c.Day.Hi then (if c.Day.Hi ≤ (120 : Int) then (gd (fitsP .i64 (c.Day.Hi - c.Day.Lo)) (if (c.Day.Hi - c.Day.Lo) ≤ (10 : Int) then (if (0 : Int) ≤ c.Count.Lo then (if c.Count.Lo ≤ c.Count.Hi then (some (decide (c.Count.Hi ≤ (100 : Int)))) else (some false)) else (some false)) else (some false))) else (some false)) else (some false)) else (some false)) else (some false))) else (some false)))))
def plTo (r : Rg) : Option (Rg) := (some r)
def plClaim (c : Clm) : Option (Clm) := ((plTo c.Day).bind fun r806 => ((plTo c.Count).bind fun r813 => (some ({ Crop := c.Crop, Value := c.Value, Day := r806, Count := r813 } : Clm))))
def plTruth (t : Tr) : Option (Tr) := (some t)
def plList (l : List Int) : Option (List Int) := (gd (([] : List Int).length + l.length ≤ 1048576) (some ([] ++ l)))
def plThin_L2 (l : List Tf) (x4 : Int) (x15 : Int) (K_R12 : Bool → Int → Option (Bool)) : Nat → Bool → Int → Option (Bool)
  | 0, _, _ => none
  | d953 + 1, b24, x25 => ((idx l x4).bind fun v954 => ((idx v954.Rates x15).bind fun v963 => (if x25 < (v963.length : Int) then ((idx l x4).bind fun v969 => ((idx v969.Rates x15).bind fun v978 => ((idx v978 x25).bind fun v983 => (if (7 : Int) < (v983.length : Int) then (some false) else (gd (fitsP .i64 (x25 + (1 : Int))) (plThin_L2 l x4 x15 K_R12 d953 b24 (x25 + (1 : Int)))))))) else (gd (fitsP .i64 (x15 + (1 : Int))) (K_R12 b24 (x15 + (1 : Int)))))))
def plThin_L1 (l : List Tf) (x4 : Int) (K_R0 : Bool → Int → Option (Bool)) : Nat → Bool → Int → Option (Bool)
  | 0, _, _ => none
  | d925 + 1, b13, x15 => ((idx l x4).bind fun v926 => (if x15 < (v926.Rates.length : Int) then ((idx l x4).bind fun v936 => ((idx v936.Rates x15).bind fun v945 => (if (7 : Int) < (v945.length : Int) then (some false) else (plThin_L2 l x4 x15 (plThin_L1 l x4 K_R0 d925) 1000000 b13 (0 : Int))))) else (gd (fitsP .i64 (x4 + (1 : Int))) (K_R0 b13 (x4 + (1 : Int))))))
def plThin_L0 (l : List Tf) : Nat → Bool → Int → Option (Bool)
  | 0, _, _ => none
  | d891 + 1, b1, x4 => (if x4 < (l.length : Int) then ((idx l x4).bind fun v893 => (if (7 : Int) < (v893.Weeks.length : Int) then (some false) else ((idx l x4).bind fun v903 => (if (7 : Int) < (v903.Counts.length : Int) then (some false) else ((idx l x4).bind fun v913 => (if (5 : Int) < (v913.Rates.length : Int) then (some false) else (plThin_L1 l x4 (plThin_L0 l d891) 1000000 b1 (0 : Int)))))))) else (some true))
def plThin (l : List Tf) : Option (Bool) := (if (5 : Int) < (l.length : Int) then (some false) else (plThin_L0 l (l.length + 1) false (0 : Int)))
def plFault (l : List Tf) : Option (Int) := ((prFault l).bind fun r992 => (some r992))
def plClaimed (l : List Tf) (c : Clm) : Option (Int) := ((plFault l).bind fun r1002 => (if r1002 = (0 : Int) then ((prIsClaim l c).bind fun r1009 => (if r1009 = true then (some (0 : Int)) else (some (2 : Int)))) else (some r1002)))
def plFine (l : List Tf) (c : Clm) : Option (Bool) := ((plThin l).bind fun r1032 => (if r1032 = true then ((plClaimed l c).bind fun r1039 => (some (decide (r1039 = (0 : Int))))) else (some false)))
def plPicked (c : Clm) (day : Int) (count : Int) : Option (Tr) := (gd (fitsP .i64 (c.Day.Hi - c.Day.Lo)) (gd (fitsP .i64 ((c.Day.Hi - c.Day.Lo) + (1 : Int))) (gd ((0 : Int) ≤ (wrapZ .i64 day)) (gd ((0 : Int) < ((c.Day.Hi - c.Day.Lo) + (1 : Int))) (gd (fitsP .i64 ((wrapZ .i64 day) % ((c.Day.Hi - c.Day.Lo) + (1 : Int)))) (gd (fitsP .i64 (c.Day.Lo + ((wrapZ .i64 day) % ((c.Day.Hi - c.Day.Lo) + (1 : Int))))) (gd (fitsP .i64 (c.Count.Hi - c.Count.Lo)) (gd (fitsP .i64 ((c.Count.Hi - c.Count.Lo) + (1 : Int))) (gd ((0 : Int) ≤ (wrapZ .i64 count)) (gd ((0 : Int) < ((c.Count.Hi - c.Count.Lo) + (1 : Int))) (gd (fitsP .i64 ((wrapZ .i64 count) % ((c.Count.Hi - c.Count.Lo) + (1 : Int)))) (gd (fitsP .i64 (c.Count.Lo + ((wrapZ .i64 count) % ((c.Count.Hi - c.Count.Lo) + (1 : Int))))) (some ({ Day := (c.Day.Lo + ((wrapZ .i64 day) % ((c.Day.Hi - c.Day.Lo) + (1 : Int)))), Count := (c.Count.Lo + ((wrapZ .i64 count) % ((c.Count.Hi - c.Count.Lo) + (1 : Int)))) } : Tr))))))))))))))
def phas (r : Rg) (n : Int) : Option (Bool) := (if r.Lo ≤ n then (some (decide (n ≤ r.Hi))) else (some false))
def pisIndex (n : Int) (size : Int) : Option (Bool) := (gd (fitsP .i64 (size - (1 : Int))) ((phas ({ Lo := (0 : Int), Hi := (size - (1 : Int)) } : Rg) n).bind fun r1091 => (some r1091)))
def pisDay (n : Int) : Option (Bool) := ((phas ({ Lo := (0 : Int), Hi := (120 : Int) } : Rg) n).bind fun r1096 => (some r1096))
def pisCount (n : Int) : Option (Bool) := ((phas ({ Lo := (0 : Int), Hi := (100 : Int) } : Rg) n).bind fun r1101 => (some r1101))
def pisHundredths (n : Int) : Option (Bool) := ((phas ({ Lo := (0 : Int), Hi := (100 : Int) } : Rg) n).bind fun r1106 => (some r1106))
def prises_L0 (l : List Int) : Nat → Int → Option (Bool)
  | 0, _ => none
  | d1113 + 1, x2 => (if x2 < (l.length : Int) then ((idx l x2).bind fun x1115 => (if (0 : Int) < x2 then (gd (fitsP .i64 (x2 - (1 : Int))) ((idx l (x2 - (1 : Int))).bind fun x1119 => (if x1115 ≤ x1119 then (some false) else (gd (fitsP .i64 (x2 + (1 : Int))) (prises_L0 l d1113 (x2 + (1 : Int))))))) else (gd (fitsP .i64 (x2 + (1 : Int))) (prises_L0 l d1113 (x2 + (1 : Int)))))) else (if (0 : Int) < (l.length : Int) then ((idx l (0 : Int)).bind fun x1125 => (some (decide (x1125 = (0 : Int))))) else (some false)))
def prises (l : List Int) : Option (Bool) := (prises_L0 l (l.length + 1) (0 : Int))
def pfroms_L0 (l : List Tf) : Nat → (List Int) → Int → Option (List Int)
  | 0, _, _ => none
  | d1131 + 1, l1129, x2 => (if x2 < (l.length : Int) then ((idx l x2).bind fun v1133 => (gd (l1129.length < 1048576) (gd (fitsP .i64 (x2 + (1 : Int))) (pfroms_L0 l d1131 (l1129 ++ [v1133.From]) (x2 + (1 : Int)))))) else (some l1129))
def pfroms (l : List Tf) : Option (List Int) := (pfroms_L0 l (l.length + 1) [] (0 : Int))
def psameCrops (l : List Tf) (t : Tf) : Option (Bool) := ((idx l (0 : Int)).bind fun v1172 => (some (decide ((t.Rates.length : Int) = (v1172.Rates.length : Int)))))
def phasCrop (l : List Tf) (n : Int) : Option (Bool) := ((idx l (0 : Int)).bind fun v1181 => ((pisIndex n (v1181.Rates.length : Int)).bind fun r1190 => (some r1190)))
def ptfTooMany (t : Tf) : Option (Bool) := (if (4 : Int) < (t.Weeks.length : Int) then (some true) else (if (5 : Int) < (t.Counts.length : Int) then (some true) else (some (decide ((3 : Int) < (t.Rates.length : Int))))))
def pclHas (c : Clm) (t : Tr) : Option (Bool) := ((phas c.Day t.Day).bind fun r1213 => (if r1213 = true then ((phas c.Count t.Count).bind fun r1221 => (some r1221)) else (some false)))
def pisNaN (x : Int) : Option (Bool) := (some (!(decide (x = x))))
def psNaN (x : Int) : Option (Bool) := (some (!(decide (x = x))))
def pless (x : Int) (y : Int) : Option (Bool) := ((pisNaN x).bind fun r1228 => (if r1228 = true then ((pisNaN y).bind fun r1234 => (if r1234 = true then (some (decide (x < y))) else (some true))) else (some (decide (x < y)))))
def pcompare (x : Int) (y : Int) : Option (Int) := ((pisNaN x).bind fun r1240 => ((pisNaN y).bind fun r1245 => (if r1240 = true then (if r1245 = true then (some (0 : Int)) else (some (-1 : Int))) else (if r1245 = true then (some (1 : Int)) else (if x < y then (some (-1 : Int)) else (if y < x then (some (1 : Int)) else (some (0 : Int))))))))
def pbsearch_L0 (l : List Int) (x : Int) : Nat → Int → Int → Option (Int × Bool)
  | 0, _, _ => none
  | d1257 + 1, x1, x2 => (if x1 < x2 then (gd (fitsP .i64 (x1 + x2)) (gd ((0 : Int) ≤ (wrapZ .u64 (x1 + x2))) (gd ((0 : Int) ≤ (1 : Int)) (gd ((1 : Int) ≤ (64 : Int)) (gd (fitsP .u64 ((wrapZ .u64 (x1 + x2)) / (2 : Int))) ((idx l (wrapZ .i64 ((wrapZ .u64 (x1 + x2)) / (2 : Int)))).bind fun x1264 => ((pless x1264 x).bind fun r1266 => (if r1266 = true then (gd (fitsP .i64 ((wrapZ .i64 ((wrapZ .u64 (x1 + x2)) / (2 : Int))) + (1 : Int))) (pbsearch_L0 l x d1257 ((wrapZ .i64 ((wrapZ .u64 (x1 + x2)) / (2 : Int))) + (1 : Int)) x2)) else (pbsearch_L0 l x d1257 x1 (wrapZ .i64 ((wrapZ .u64 (x1 + x2)) / (2 : Int)))))))))))) else (if x1 < (l.length : Int) then ((idx l x1).bind fun x1274 => (if x1274 = x then (some (x1, true)) else ((idx l x1).bind fun x1277 => ((psNaN x1277).bind fun r1279 => (if r1279 = true then ((psNaN x).bind fun r1285 => (some (x1, r1285))) else (some (x1, false))))))) else (some (x1, false))))
def pbsearch (l : List Int) (x : Int) : Option (Int × Bool) := (pbsearch_L0 l x (l.length + 1) (0 : Int) (l.length : Int))
def plast (days : List Int) (day : Int) : Option (Int) := (gd (fitsP .i64 (day + (1 : Int))) ((pbsearch days (day + (1 : Int))).bind fun r1291 => (gd (fitsP .i64 (r1291.1 - (1 : Int))) (some (r1291.1 - (1 : Int))))))
def ptfOf (l : List Tf) (day : Int) : Option (Tf) := ((pfroms l).bind fun r1302 => ((plast r1302 day).bind fun r1311 => ((idx l r1311).bind fun v1317 => (some v1317))))
def pwhole (t : Tf) (loss : Int) : Option (Int) := (some loss)
def paboveLeast (t : Tf) (loss : Int) : Option (Int) := (gd (fitsP .i64 (loss - t.Least)) (some (loss - t.Least)))
def ploss (t : Tf) (h : Ht) : Option (Int) := ((idx t.Rates h.crop).bind fun v1353 => ((plast t.Weeks h.Day).bind fun r1358 => ((idx v1353 r1358).bind fun v1365 => ((pbsearch t.Counts h.Count).bind fun r1370 => (if r1370.2 = true then ((idx v1365 r1370.1).bind fun x1378 => (some x1378)) else (gd (fitsP .i64 (r1370.1 - (1 : Int))) ((idx t.Counts (r1370.1 - (1 : Int))).bind fun x1381 => ((idx t.Counts r1370.1).bind fun x1383 => (gd (fitsP .i64 (r1370.1 - (1 : Int))) ((idx v1365 (r1370.1 - (1 : Int))).bind fun x1386 => (gd (fitsP .i64 (x1383 - h.Count)) (gd ((0 : Int) ≤ x1386) (gd ((0 : Int) ≤ (x1383 - h.Count)) (gd (fitsP .i64 (x1386 * (x1383 - h.Count))) ((idx v1365 r1370.1).bind fun x1392 => (gd (fitsP .i64 (h.Count - x1381)) (gd ((0 : Int) ≤ x1392) (gd ((0 : Int) ≤ (h.Count - x1381)) (gd (fitsP .i64 (x1392 * (h.Count - x1381))) (gd (fitsP .i64 ((x1386 * (x1383 - h.Count)) + (x1392 * (h.Count - x1381)))) (gd (fitsP .i64 (x1383 - x1381)) (gd ((0 : Int) ≤ ((x1386 * (x1383 - h.Count)) + (x1392 * (h.Count - x1381)))) (gd ((0 : Int) < (x1383 - x1381)) (gd (fitsP .i64 (((x1386 * (x1383 - h.Count)) + (x1392 * (h.Count - x1381))) / (x1383 - x1381))) (some (((x1386 * (x1383 - h.Count)) + (x1392 * (h.Count - x1381))) / (x1383 - x1381)))))))))))))))))))))))))))
def pminimum_L0 (l : List Int) : Nat → Int → Int → Option (Int)
  | 0, _, _ => none
  | d1408 + 1, x3, x4 => (if x4 < (l.length : Int) then ((idx l x4).bind fun x1410 => (if x1410 < x3 then (gd (fitsP .i64 (x4 + (1 : Int))) (pminimum_L0 l d1408 x1410 (x4 + (1 : Int)))) else (gd (fitsP .i64 (x4 + (1 : Int))) (pminimum_L0 l d1408 x3 (x4 + (1 : Int)))))) else (some x3))
def pminimum (l : List Int) : Option (Int) := (if (l.length : Int) = (0 : Int) then (some (0 : Int)) else ((idx l (0 : Int)).bind fun x1404 => (pminimum_L0 l (l.length + 1) x1404 (0 : Int))))
def psMax_L0 (l : List Int) : Nat → Int → Int → Option (Int)
  | 0, _, _ => none
  | d1420 + 1, x3, x4 => (if x4 < (l.length : Int) then ((idx l x4).bind fun x1422 => (gd (fitsP .i64 (x4 + (1 : Int))) (psMax_L0 l d1420 (max x3 x1422) (x4 + (1 : Int))))) else (some x3))
def psMax (l : List Int) : Option (Int) := (if (l.length : Int) < (1 : Int) then none else ((idx l (0 : Int)).bind fun x1416 => (psMax_L0 l (((l.length : Int) - (1 : Int)).toNat + 1) x1416 (1 : Int))))
def peachTf1 (x : Tf) (passes : Tf → Option (Bool)) : Option (Bool) := ((passes x).bind fun r1430 => (some (!r1430)))
def pindexTf_L0 (l : List Tf) (p : Tf → Option (Bool)) : Nat → Int → Option (Int)
  | 0, _ => none
  | d1438 + 1, x2 => (if x2 < (l.length : Int) then ((idx l x2).bind fun v1440 => ((p v1440).bind fun r1449 => (if r1449 = true then (some x2) else (gd (fitsP .i64 (x2 + (1 : Int))) (pindexTf_L0 l p d1438 (x2 + (1 : Int))))))) else (some (-1 : Int)))
def pindexTf (l : List Tf) (p : Tf → Option (Bool)) : Option (Int) := (pindexTf_L0 l p (l.length + 1) (0 : Int))
def pcontainsTf (l : List Tf) (p : Tf → Option (Bool)) : Option (Bool) := ((pindexTf l p).bind fun r1456 => (some (decide ((0 : Int) ≤ r1456))))
def peachTf (l : List Tf) (passes : Tf → Option (Bool)) : Option (Bool) := ((pcontainsTf l (fun a1470 => peachTf1 a1470 passes)).bind fun r1478 => (some (!r1478)))
def pindexTfs_L0 (l : List Tf) (p : Tf → Option (Bool)) : Nat → Int → Option (Int)
  | 0, _ => none
  | d1485 + 1, x2 => (if x2 < (l.length : Int) then ((idx l x2).bind fun v1487 => ((p v1487).bind fun r1496 => (if r1496 = true then (some x2) else (gd (fitsP .i64 (x2 + (1 : Int))) (pindexTfs_L0 l p d1485 (x2 + (1 : Int))))))) else (some (-1 : Int)))
def pindexTfs (l : List Tf) (p : Tf → Option (Bool)) : Option (Int) := (pindexTfs_L0 l p (l.length + 1) (0 : Int))
def pcontainsTfs (l : List Tf) (p : Tf → Option (Bool)) : Option (Bool) := ((pindexTfs l p).bind fun r1503 => (some (decide ((0 : Int) ≤ r1503))))
def peachCl1 (x : Clm) (passes : Clm → Option (Bool)) : Option (Bool) := ((passes x).bind fun r1513 => (some (!r1513)))
def pindexCl_L0 (l : List Clm) (p : Clm → Option (Bool)) : Nat → Int → Option (Int)
  | 0, _ => none
  | d1521 + 1, x2 => (if x2 < (l.length : Int) then ((idx l x2).bind fun v1523 => ((p v1523).bind fun r1526 => (if r1526 = true then (some x2) else (gd (fitsP .i64 (x2 + (1 : Int))) (pindexCl_L0 l p d1521 (x2 + (1 : Int))))))) else (some (-1 : Int)))
def pindexCl (l : List Clm) (p : Clm → Option (Bool)) : Option (Int) := (pindexCl_L0 l p (l.length + 1) (0 : Int))
def pcontainsCl (l : List Clm) (p : Clm → Option (Bool)) : Option (Bool) := ((pindexCl l p).bind fun r1533 => (some (decide ((0 : Int) ≤ r1533))))
def peachCl (l : List Clm) (passes : Clm → Option (Bool)) : Option (Bool) := ((pcontainsCl l (fun a1547 => peachCl1 a1547 passes)).bind fun r1549 => (some (!r1549)))
def peachI1 (x : Int) (passes : Int → Option (Bool)) : Option (Bool) := ((passes x).bind fun r1554 => (some (!r1554)))
def pindexI_L0 (l : List Int) (p : Int → Option (Bool)) : Nat → Int → Option (Int)
  | 0, _ => none
  | d1561 + 1, x2 => (if x2 < (l.length : Int) then ((idx l x2).bind fun x1563 => ((p x1563).bind fun r1565 => (if r1565 = true then (some x2) else (gd (fitsP .i64 (x2 + (1 : Int))) (pindexI_L0 l p d1561 (x2 + (1 : Int))))))) else (some (-1 : Int)))
def pindexI (l : List Int) (p : Int → Option (Bool)) : Option (Int) := (pindexI_L0 l p (l.length + 1) (0 : Int))
def pcontainsI (l : List Int) (p : Int → Option (Bool)) : Option (Bool) := ((pindexI l p).bind fun r1572 => (some (decide ((0 : Int) ≤ r1572))))
def peachI (l : List Int) (passes : Int → Option (Bool)) : Option (Bool) := ((pcontainsI l (fun a1586 => peachI1 a1586 passes)).bind fun r1588 => (some (!r1588)))
def peachL1 (x : List Int) (passes : List Int → Option (Bool)) : Option (Bool) := ((passes x).bind fun r1593 => (some (!r1593)))
def pindexL_L0 (l : List (List Int)) (p : List Int → Option (Bool)) : Nat → Int → Option (Int)
  | 0, _ => none
  | d1600 + 1, x2 => (if x2 < (l.length : Int) then ((idx l x2).bind fun v1602 => ((p v1602).bind fun r1607 => (if r1607 = true then (some x2) else (gd (fitsP .i64 (x2 + (1 : Int))) (pindexL_L0 l p d1600 (x2 + (1 : Int))))))) else (some (-1 : Int)))
def pindexL (l : List (List Int)) (p : List Int → Option (Bool)) : Option (Int) := (pindexL_L0 l p (l.length + 1) (0 : Int))
def pcontainsL (l : List (List Int)) (p : List Int → Option (Bool)) : Option (Bool) := ((pindexL l p).bind fun r1614 => (some (decide ((0 : Int) ≤ r1614))))
def peachL (l : List (List Int)) (passes : List Int → Option (Bool)) : Option (Bool) := ((pcontainsL l (fun a1628 => peachL1 a1628 passes)).bind fun r1632 => (some (!r1632)))
def peachLL1 (x : List (List Int)) (passes : List (List Int) → Option (Bool)) : Option (Bool) := ((passes x).bind fun r1637 => (some (!r1637)))
def pindexLL_L0 (l : List (List (List Int))) (p : List (List Int) → Option (Bool)) : Nat → Int → Option (Int)
  | 0, _ => none
  | d1644 + 1, x2 => (if x2 < (l.length : Int) then ((idx l x2).bind fun v1646 => ((p v1646).bind fun r1651 => (if r1651 = true then (some x2) else (gd (fitsP .i64 (x2 + (1 : Int))) (pindexLL_L0 l p d1644 (x2 + (1 : Int))))))) else (some (-1 : Int)))
def pindexLL (l : List (List (List Int))) (p : List (List Int) → Option (Bool)) : Option (Int) := (pindexLL_L0 l p (l.length + 1) (0 : Int))
def pcontainsLL (l : List (List (List Int))) (p : List (List Int) → Option (Bool)) : Option (Bool) := ((pindexLL l p).bind fun r1658 => (some (decide ((0 : Int) ≤ r1658))))
def peachLL (l : List (List (List Int))) (passes : List (List Int) → Option (Bool)) : Option (Bool) := ((pcontainsLL l (fun a1672 => peachLL1 a1672 passes)).bind fun r1676 => (some (!r1676)))
def pwithin (r : Rg) (passes : Int → Option (Bool)) : Option (Bool) := (if r.Lo ≤ r.Hi then ((passes r.Lo).bind fun r1687 => (if r1687 = true then ((passes r.Hi).bind fun r1694 => (some r1694)) else (some false))) else (some false))
def pvalidWeek (t : Tf) (rates : List Int) : Option (Bool) := (if (rates.length : Int) = (t.Counts.length : Int) then ((peachI rates (fun a1706 => pisHundredths a1706)).bind fun r1708 => (some r1708)) else (some false))
def pvalidCrop (t : Tf) (weeks : List (List Int)) : Option (Bool) := (if (weeks.length : Int) = (t.Weeks.length : Int) then ((peachL weeks (fun a1720 => pvalidWeek t a1720)).bind fun r1724 => (some r1724)) else (some false))
def ptfValid (t : Tf) : Option (Bool) := ((pisDay t.From).bind fun r1735 => (if r1735 = true then ((pisHundredths t.Least).bind fun r1742 => (if r1742 = true then ((prises t.Weeks).bind fun r1749 => (if r1749 = true then ((peachI t.Weeks (fun a1756 => pisDay a1756)).bind fun r1758 => (if r1758 = true then ((prises t.Counts).bind fun r1765 => (if r1765 = true then (gd (fitsP .i64 ((t.Counts.length : Int) - (1 : Int))) ((idx t.Counts ((t.Counts.length : Int) - (1 : Int))).bind fun x1773 => (if x1773 = (100 : Int) then (if (0 : Int) < (t.Rates.length : Int) then ((peachLL t.Rates (fun a1777 => pvalidCrop t a1777)).bind fun r1781 => (some r1781)) else (some false)) else (some false)))) else (some false))) else (some false))) else (some false))) else (some false))) else (some false)))
def ptooMany (l : List Tf) : Option (Bool) := (if (3 : Int) < (l.length : Int) then (some true) else ((pcontainsTfs l (fun a1788 => ptfTooMany a1788)).bind fun r1796 => (some r1796)))
def ptfsValid (l : List Tf) : Option (Bool) := ((peachTf l (fun a1801 => ptfValid a1801)).bind fun r1809 => (if r1809 = true then ((pfroms l).bind fun r1815 => ((prises r1815).bind fun r1823 => (if r1823 = true then ((peachTf l (fun a1829 => psameCrops l a1829)).bind fun r1837 => (some r1837)) else (some false)))) else (some false)))
def pvalidClaim (l : List Tf) (c : Clm) : Option (Bool) := ((phasCrop l c.Crop).bind fun r1847 => (if r1847 = true then ((phas ({ Lo := (0 : Int), Hi := (100000 : Int) } : Rg) c.Value).bind fun r1854 => (if r1854 = true then ((pwithin c.Day (fun a1861 => pisDay a1861)).bind fun r1863 => (if r1863 = true then (gd (fitsP .i64 (c.Day.Hi - c.Day.Lo)) (if (c.Day.Hi - c.Day.Lo) ≤ (10 : Int) then ((pwithin c.Count (fun a1872 => pisCount a1872)).bind fun r1874 => (some r1874)) else (some false))) else (some false))) else (some false))) else (some false)))
def pcheck (l : List Tf) : Option (Int) := ((ptooMany l).bind fun r1880 => (if r1880 = true then (some (3 : Int)) else ((ptfsValid l).bind fun r1886 => (if r1886 = true then (some (0 : Int)) else (some (1 : Int))))))
def pmanner (t : Tf) : Option (Mnr) := (if t.Whole = true then (some ({ paid := (fun a1936 a1937 => pwhole a1936 a1937) } : Mnr)) else (some ({ paid := (fun a1951 a1952 => paboveLeast a1951 a1952) } : Mnr)))
def ptfPart (t : Tf) (h : Ht) : Option (Int) := ((ploss t h).bind fun r1971 => (if r1971 < t.Least then (some (0 : Int)) else ((pmanner t).bind fun r1979 => ((r1979.paid t r1971).bind fun r1989 => (some r1989)))))
def popen (l : List Tf) : Option (Wk × Int) := ((pcheck l).bind fun r2001 => (if r2001 = (0 : Int) then (some (({ tariffs := l, parts := (some fun _ => none : Option (Ht → Option (Int))) } : Wk), (0 : Int))) else (some (({ tariffs := [], parts := none } : Wk), r2001))))
def popenFor (l : List Tf) (claims : List Clm) : Option (Wk × Int) := ((popen l).bind fun r2030 => (if r2030.2 = (0 : Int) then (if (5 : Int) < (claims.length : Int) then (some (({ tariffs := [], parts := none } : Wk), (3 : Int))) else ((peachCl claims (fun a2073 => pvalidClaim r2030.1.tariffs a2073)).bind fun r2075 => (if r2075 = true then (some (r2030.1, (0 : Int))) else (some (({ tariffs := [], parts := none } : Wk), (2 : Int)))))) else (some (({ tariffs := [], parts := none } : Wk), r2030.2))))
def ppart (w : Wk) (h : Ht) : Option (Int × Option (Ht → Option (Int))) := (gd (MK.fit h) (mcase (mget w.parts h) ((ptfOf w.tariffs h.Day).bind fun r2114 => ((ptfPart r2114 h).bind fun r2129 => (gd (MK.fit h) ((mset w.parts h r2129).bind fun w2138 => (some (r2129, w2138)))))) fun w2113 => (some (w2113, w.parts))))
def ppayment (w : Wk) (c : Clm) (t : Tr) : Option (Int × Option (Ht → Option (Int))) := ((ppart w ({ Day := t.Day, Count := t.Count, crop := c.Crop } : Ht)).bind fun r2168 => (gd ((0 : Int) ≤ c.Value) (gd ((0 : Int) ≤ r2168.1) (gd (fitsP .i64 (c.Value * r2168.1)) (gd ((0 : Int) ≤ (c.Value * r2168.1)) (gd ((0 : Int) < (100 : Int)) (gd (fitsP .i64 ((c.Value * r2168.1) / (100 : Int))) (some (((c.Value * r2168.1) / (100 : Int)), r2168.2)))))))))
def ptruthsI_L1 (c : Clm) (x2 : Int) (K_R1 : Int → Option (List Tr)) : Nat → Int → Option (List Tr)
  | 0, _ => none
  | d2196 + 1, x7 => (if x7 ≤ c.Count.Hi then (((gd (fitsP .i64 (x7 + (1 : Int))) (ptruthsI_L1 c x2 K_R1 d2196 (x7 + (1 : Int))))).bind fun r2198 => some (({ Day := x2, Count := x7 } : Tr) :: r2198)) else (gd (fitsP .i64 (x2 + (1 : Int))) (K_R1 (x2 + (1 : Int)))))
def ptruthsI_L0 (c : Clm) : Nat → Int → Option (List Tr)
  | 0, _ => none
  | d2189 + 1, x2 => (if x2 ≤ c.Day.Hi then (ptruthsI_L1 c x2 (ptruthsI_L0 c d2189) 1000000 c.Count.Lo) else (some []))
def ptruthsI (c : Clm) : Option (List Tr) := (ptruthsI_L0 c 1000000 c.Day.Lo)
def ptruths (c : Clm) : Option (List Tr) := ((ptruthsI c).bind fun l2222 => (some l2222))
def pappendSeq_L0 : List Tr → (List Tr) → Option (List Tr)
  | [], y2230 => (some y2230)
  | a2234 :: q2235, y2230 => (gd (y2230.length < 1048576) (pappendSeq_L0 q2235 (y2230 ++ [a2234])))
def pappendSeq (seq : List Tr) : Option (List Tr) := (pappendSeq_L0 seq [])
def pcollect (seq : List Tr) : Option (List Tr) := ((pappendSeq seq).bind fun r2297 => (some r2297))
def pbounds_L0 (w : Wk) (c : Clm) : List Tr → (List Int) → (Option (Ht → Option (Int))) → Option (Rg × Option (Ht → Option (Int)))
  | [], y2351, w2355 => ((pminimum y2351).bind fun r2457 => ((psMax y2351).bind fun r2468 => (some (({ Lo := r2457, Hi := r2468 } : Rg), w2355))))
  | a2357 :: q2358, y2351, w2355 => ((ppayment ({ tariffs := w.tariffs, parts := w2355 } : Wk) c a2357).bind fun r2404 => (gd (y2351.length < 1048576) (pbounds_L0 w c q2358 (y2351 ++ [r2404.1]) r2404.2)))
def pbounds (w : Wk) (c : Clm) : Option (Rg × Option (Ht → Option (Int))) := ((ptruths c).bind fun r2335 => (pbounds_L0 w c r2335 [] w.parts))
def pshow1 (t : Tr) (u : Tr) (w : Wk) (c : Clm) : Option (Int × Option (Ht → Option (Int))) := ((ppayment w c t).bind fun r2502 => ((ppayment ({ tariffs := w.tariffs, parts := r2502.2 } : Wk) c u).bind fun r2511 => ((pcompare r2502.1 r2511.1).bind fun r2520 => (some (r2520, r2511.2)))))
def pmaxFunc_L0 (l : List Tr) (cmp : Tr → Tr → (Option (Ht → Option (Int))) → Option (Int × Option (Ht → Option (Int)))) : Nat → Int → Int → (Option (Ht → Option (Int))) → Int → Option (Tr × Option (Ht → Option (Int)))
  | 0, _, _, _, _ => none
  | d2557 + 1, y2554, y2555, w2556, x7 => (if x7 < (l.length : Int) then ((idx l x7).bind fun v2559 => ((cmp v2559 ({ Day := y2554, Count := y2555 } : Tr) w2556).bind fun r2562 => (if (0 : Int) < r2562.1 then ((idx l x7).bind fun v2572 => (gd (fitsP .i64 (x7 + (1 : Int))) (pmaxFunc_L0 l cmp d2557 v2572.Day v2572.Count r2562.2 (x7 + (1 : Int))))) else (gd (fitsP .i64 (x7 + (1 : Int))) (pmaxFunc_L0 l cmp d2557 y2554 y2555 r2562.2 (x7 + (1 : Int))))))) else (some (({ Day := y2554, Count := y2555 } : Tr), w2556)))
def pmaxFunc (l : List Tr) (cmp : Tr → Tr → (Option (Ht → Option (Int))) → Option (Int × Option (Ht → Option (Int)))) (Mp : Option (Ht → Option (Int))) : Option (Tr × Option (Ht → Option (Int))) := (if (l.length : Int) < (1 : Int) then none else ((idx l (0 : Int)).bind fun v2535 => (pmaxFunc_L0 l cmp (((l.length : Int) - (1 : Int)).toNat + 1) v2535.Day v2535.Count Mp (1 : Int))))
def pminFunc_L0 (l : List Tr) (cmp : Tr → Tr → (Option (Ht → Option (Int))) → Option (Int × Option (Ht → Option (Int)))) : Nat → Int → Int → (Option (Ht → Option (Int))) → Int → Option (Tr × Option (Ht → Option (Int)))
  | 0, _, _, _, _ => none
  | d2620 + 1, y2617, y2618, w2619, x7 => (if x7 < (l.length : Int) then ((idx l x7).bind fun v2622 => ((cmp v2622 ({ Day := y2617, Count := y2618 } : Tr) w2619).bind fun r2625 => (if r2625.1 < (0 : Int) then ((idx l x7).bind fun v2635 => (gd (fitsP .i64 (x7 + (1 : Int))) (pminFunc_L0 l cmp d2620 v2635.Day v2635.Count r2625.2 (x7 + (1 : Int))))) else (gd (fitsP .i64 (x7 + (1 : Int))) (pminFunc_L0 l cmp d2620 y2617 y2618 r2625.2 (x7 + (1 : Int))))))) else (some (({ Day := y2617, Count := y2618 } : Tr), w2619)))
def pminFunc (l : List Tr) (cmp : Tr → Tr → (Option (Ht → Option (Int))) → Option (Int × Option (Ht → Option (Int)))) (Mp : Option (Ht → Option (Int))) : Option (Tr × Option (Ht → Option (Int))) := (if (l.length : Int) < (1 : Int) then none else ((idx l (0 : Int)).bind fun v2598 => (pminFunc_L0 l cmp (((l.length : Int) - (1 : Int)).toNat + 1) v2598.Day v2598.Count Mp (1 : Int))))
def pShow (l : List Tf) (c : Clm) (high : Bool) : Option (Tr × Int) := ((popenFor l ([c] : List Clm)).bind fun r2679 => (if r2679.2 = (0 : Int) then ((ptruths c).bind fun r2718 => ((pcollect r2718).bind fun r2730 => (if high = true then ((pmaxFunc r2730 (fun a2756 a2757 M_ => pshow1 a2756 a2757 ({ tariffs := r2679.1.tariffs, parts := M_ } : Wk) c) r2679.1.parts).bind fun r2759 => (some (r2759.1, (0 : Int)))) else ((pminFunc r2730 (fun a2786 a2787 M_ => pshow1 a2786 a2787 ({ tariffs := r2679.1.tariffs, parts := M_ } : Wk) c) r2679.1.parts).bind fun r2789 => (some (r2789.1, (0 : Int))))))) else (some (({ Day := (0 : Int), Count := (0 : Int) } : Tr), r2679.2))))
def pBounds (l : List Tf) (c : Clm) : Option (Rg × Int) := ((popenFor l ([c] : List Clm)).bind fun r2828 => (if r2828.2 = (0 : Int) then ((pbounds r2828.1 c).bind fun r2867 => (some (r2867.1, (0 : Int)))) else (some (({ Lo := (0 : Int), Hi := (0 : Int) } : Rg), r2828.2))))
def pPaid (l : List Tf) (c : Clm) : Option (Int × Int) := ((pBounds l c).bind fun r2890 => (if r2890.2 = (0 : Int) then (if (0 : Int) < r2890.1.Lo then (some ((1 : Int), (0 : Int))) else (if r2890.1.Hi = (0 : Int) then (some ((2 : Int), (0 : Int))) else (some ((3 : Int), (0 : Int))))) else (some ((0 : Int), r2890.2))))
def pPay (l : List Tf) (c : Clm) (t : Tr) : Option (Int × Int) := ((popenFor l ([c] : List Clm)).bind fun r3131 => (if r3131.2 = (0 : Int) then ((pclHas c t).bind fun r3162 => (if r3162 = true then ((ppayment r3131.1 c t).bind fun r3172 => (some (r3172.1, (0 : Int)))) else (some ((0 : Int), (2 : Int))))) else (some ((0 : Int), r3131.2))))
def pprovePay (l : List Tf) (c : Clm) (t : Tr) (pence : Int) : Option (Bool) := ((pPay l c t).bind fun r3193 => (if r3193.2 = (0 : Int) then (some (decide (r3193.1 = pence))) else (some false)))
def plTariffs_L2 (l : List Tf) (x2 : Int) (y3345 : Int) (y3346 : Bool) (y3347 : Int) (y3348 : List (List (List Int))) (x24 : Int) (K_R23 : Int → Bool → Int → (List (List (List Int))) → Int → Option (List Tf)) : Nat → (List (List Int)) → Int → Option (List Tf)
  | 0, _, _ => none
  | d3367 + 1, l3365, x30 => ((idx l x2).bind fun v3368 => ((idx v3368.Rates x24).bind fun v3377 => (if x30 < (v3377.length : Int) then ((idx l x2).bind fun v3383 => ((idx v3383.Rates x24).bind fun v3392 => ((idx v3392 x30).bind fun v3397 => ((plList v3397).bind fun r3402 => (gd (l3365.length < 1048576) (gd (fitsP .i64 (x30 + (1 : Int))) (plTariffs_L2 l x2 y3345 y3346 y3347 y3348 x24 K_R23 d3367 (l3365 ++ [r3402]) (x30 + (1 : Int))))))))) else (gd (y3348.length < 1048576) (gd (fitsP .i64 (x24 + (1 : Int))) (K_R23 y3345 y3346 y3347 (y3348 ++ [l3365]) (x24 + (1 : Int))))))))
def plTariffs_L1 (l : List Tf) (l3260 : List Tf) (x2 : Int) (r3306 : List Int) (r3324 : List Int) (K_R0 : (List Tf) → Int → Option (List Tf)) : Nat → Int → Bool → Int → (List (List (List Int))) → Int → Option (List Tf)
  | 0, _, _, _, _, _ => none
  | d3351 + 1, y3345, y3346, y3347, y3348, x24 => ((idx l x2).bind fun v3352 => (if x24 < (v3352.Rates.length : Int) then (plTariffs_L2 l x2 y3345 y3346 y3347 y3348 x24 (plTariffs_L1 l l3260 x2 r3306 r3324 K_R0 d3351) 1000000 [] (0 : Int)) else (gd (l3260.length < 1048576) (gd (fitsP .i64 (x2 + (1 : Int))) (K_R0 (l3260 ++ [({ From := y3345, Whole := y3346, Least := y3347, Weeks := r3306, Counts := r3324, Rates := y3348 } : Tf)]) (x2 + (1 : Int)))))))
def plTariffs_L0 (l : List Tf) : Nat → (List Tf) → Int → Option (List Tf)
  | 0, _, _ => none
  | d3262 + 1, l3260, x2 => (if x2 < (l.length : Int) then ((idx l x2).bind fun v3270 => ((idx l x2).bind fun v3279 => ((idx l x2).bind fun v3288 => ((idx l x2).bind fun v3297 => ((plList v3297.Weeks).bind fun r3306 => ((idx l x2).bind fun v3315 => ((plList v3315.Counts).bind fun r3324 => (plTariffs_L1 l l3260 x2 r3306 r3324 (plTariffs_L0 l d3262) 1000000 v3270.From v3279.Whole v3288.Least [] (0 : Int))))))))) else (some l3260))
def plTariffs (l : List Tf) : Option (List Tf) := (plTariffs_L0 l (l.length + 1) [] (0 : Int))
def pTariffTruth (l : List Tf) (c : Clm) (day : Int) (count : Int) : Option (Bool) := ((plFine l c).bind fun r6056 => (if r6056 = true then ((plPicked c day count).bind fun r6069 => ((plTariffs l).bind fun r6087 => ((plClaim c).bind fun r6097 => ((plTruth r6069).bind fun r6104 => ((pPay r6087 r6097 r6104).bind fun r6111 => ((plTariffs l).bind fun r6126 => ((plClaim c).bind fun r6137 => ((pBounds r6126 r6137).bind fun r6145 => ((plTariffs l).bind fun r6166 => ((plClaim c).bind fun r6177 => ((pPaid r6166 r6177).bind fun r6185 => ((plTariffs l).bind fun r6202 => ((plClaim c).bind fun r6214 => ((pShow r6202 r6214 false).bind fun r6223 => ((plTariffs l).bind fun r6257 => ((plClaim c).bind fun r6270 => ((pShow r6257 r6270 true).bind fun r6280 => (if r6111.2 = (0 : Int) then (if r6145.2 = (0 : Int) then (if r6185.2 = (0 : Int) then (if r6223.2 = (0 : Int) then (if r6280.2 = (0 : Int) then (if r6111.1 < r6145.1.Lo then (some false) else (if r6145.1.Hi < r6111.1 then (some false) else (if r6185.1 = (1 : Int) then (if r6111.1 = (0 : Int) then (some false) else (if r6185.1 = (2 : Int) then (if (0 : Int) < r6111.1 then (some false) else ((prIn r6185.1 (1 : Int) (3 : Int)).bind fun r6318 => (if r6318 = true then ((plTariffs l).bind fun r6329 => ((plClaim c).bind fun r6342 => ((pprovePay r6329 r6342 r6223.1 r6145.1.Lo).bind fun r6352 => (if r6352 = true then ((plTariffs l).bind fun r6363 => ((plClaim c).bind fun r6376 => ((pprovePay r6363 r6376 r6280.1 r6145.1.Hi).bind fun r6386 => (if r6386 = true then ((pawake).bind fun r6397 => (some r6397)) else (some false))))) else (some false))))) else (some false)))) else ((prIn r6185.1 (1 : Int) (3 : Int)).bind fun r6407 => (if r6407 = true then ((plTariffs l).bind fun r6418 => ((plClaim c).bind fun r6431 => ((pprovePay r6418 r6431 r6223.1 r6145.1.Lo).bind fun r6441 => (if r6441 = true then ((plTariffs l).bind fun r6452 => ((plClaim c).bind fun r6465 => ((pprovePay r6452 r6465 r6280.1 r6145.1.Hi).bind fun r6475 => (if r6475 = true then ((pawake).bind fun r6486 => (some r6486)) else (some false))))) else (some false))))) else (some false))))) else (if r6185.1 = (2 : Int) then (if (0 : Int) < r6111.1 then (some false) else ((prIn r6185.1 (1 : Int) (3 : Int)).bind fun r6498 => (if r6498 = true then ((plTariffs l).bind fun r6509 => ((plClaim c).bind fun r6522 => ((pprovePay r6509 r6522 r6223.1 r6145.1.Lo).bind fun r6532 => (if r6532 = true then ((plTariffs l).bind fun r6543 => ((plClaim c).bind fun r6556 => ((pprovePay r6543 r6556 r6280.1 r6145.1.Hi).bind fun r6566 => (if r6566 = true then ((pawake).bind fun r6577 => (some r6577)) else (some false))))) else (some false))))) else (some false)))) else ((prIn r6185.1 (1 : Int) (3 : Int)).bind fun r6587 => (if r6587 = true then ((plTariffs l).bind fun r6598 => ((plClaim c).bind fun r6611 => ((pprovePay r6598 r6611 r6223.1 r6145.1.Lo).bind fun r6621 => (if r6621 = true then ((plTariffs l).bind fun r6632 => ((plClaim c).bind fun r6645 => ((pprovePay r6632 r6645 r6280.1 r6145.1.Hi).bind fun r6655 => (if r6655 = true then ((pawake).bind fun r6666 => (some r6666)) else (some false))))) else (some false))))) else (some false))))))) else (some false)) else (some false)) else (some false)) else (some false)) else (some false))))))))))))))))))) else ((pawake).bind fun r6063 => (some r6063))))
end
end Go.Proofs.Ytbhdgedghfibcaa

namespace Go.Proofs.Ytbhdgedghfibcaa
open _root_.Go.Proofs.Try
open Go.Abs
set_option maxRecDepth 100000
noncomputable section
theorem c104 {a100 : Int} {a101 : Bool} {a102 : Int} {a103 : C} {a104 : C} {a105 : C} {b0 : Nat} {m : M} {Q : V → M → Prop} (h :
 (∀ m0 : M, ((m0 = (M.new m (AO.cells 6 [(C.int .i64 a100), (C.bool a101), (C.int .i64 a102), a103, 
 a104, a105] false))) → (∃ c1 : C, (((ldC m0 (C.ptr b0 0)) = (some c1)) ∧ (∃ x2 : Int, (∃ b3 : Bool, 
 (∃ x4 : Int, (∃ c5 : C, (∃ c6 : C, (∃ c7 : C, (((ldA m0 (C.ptr m.nxt 0) 6) = (some [(C.int .i64 x2), 
 (C.bool b3), (C.int .i64 x4), c5, c6, c7])) ∧ (callP prog tbl [(V.agg 6 [(C.int .i64 x2), 
 (C.bool b3), (C.int .i64 x4), c5, c6, c7])] c1 m0 (fun v8 m9 => (∃ b10 : Bool, ((v8 = (V.c (C.bool b10))) ∧ 
 (Q (V.c (C.bool (!b10))) m9))))))))))))))))) : Wc prog tbl 104 [.agg 6 [.int .i64 a100, .bool a101, .int .i64 a102, a103, a104, a105], .c (.ptr b0 0)] m Q :=
 wc_eq (n := 2) rfl (by kernel_rfl) (by kernel_rfl) h
theorem c110 {a100 : Int} {a101 : Int} {a102 : Int} {a103 : Int} {a104 : Int} {a105 : Int} {b0 : Nat} {m : M} {Q : V → M → Prop} (h :
 (∀ m0 : M, ((m0 = (M.new m (AO.cells 6 [(C.int .i64 a100), (C.int .i64 a101), (C.int .i64 a102), 
 (C.int .i64 a103), (C.int .i64 a104), (C.int .i64 a105)] false))) → (∃ c1 : C, (((ldC m0 (C.ptr b0 0)) = (some c1)) ∧ 
 (∃ x2 : Int, (∃ x3 : Int, (∃ x4 : Int, (∃ x5 : Int, (∃ x6 : Int, (∃ x7 : Int, (((ldA m0 (C.ptr m.nxt 0) 6) = (some [(C.int .i64 x2), 
 (C.int .i64 x3), (C.int .i64 x4), (C.int .i64 x5), (C.int .i64 x6), 
 (C.int .i64 x7)])) ∧ (callP prog tbl [(V.agg 6 [(C.int .i64 x2), (C.int .i64 x3), 
 (C.int .i64 x4), (C.int .i64 x5), (C.int .i64 x6), (C.int .i64 x7)])] c1 m0 (fun v8 m9 => 
 (∃ b10 : Bool, ((v8 = (V.c (C.bool b10))) ∧ (Q (V.c (C.bool (!b10))) m9))))))))))))))))) : Wc prog tbl 110 [.agg 6 [.int .i64 a100, .int .i64 a101, .int .i64 a102, .int .i64 a103, .int .i64 a104, .int .i64 a105], .c (.ptr b0 0)] m Q :=
 wc_eq (n := 2) rfl (by kernel_rfl) (by kernel_rfl) h
theorem c121 {a100 : Int} {b0 : Nat} {m : M} {Q : V → M → Prop} (h :
 (∃ c0 : C, (((ldC m (C.ptr b0 0)) = (some c0)) ∧ (callP prog tbl [(V.c (C.int .i64 a100))] c0 m (fun v1 m2 => 
 (∃ b3 : Bool, ((v1 = (V.c (C.bool b3))) ∧ (Q (V.c (C.bool (!b3))) m2)))))))) : Wc prog tbl 121 [.c (.int .i64 a100), .c (.ptr b0 0)] m Q :=
 wc_eq (n := 2) rfl (by kernel_rfl) (by kernel_rfl) h
theorem c134 {a100 : C} {b0 : Nat} {m : M} {Q : V → M → Prop} (h :
 (∃ c0 : C, (((ldC m (C.ptr b0 0)) = (some c0)) ∧ (callP prog tbl [(V.c a100)] c0 m (fun v1 m2 => (∃ b3 : Bool, 
 ((v1 = (V.c (C.bool b3))) ∧ (Q (V.c (C.bool (!b3))) m2)))))))) : Wc prog tbl 134 [.c (a100), .c (.ptr b0 0)] m Q :=
 wc_eq (n := 2) rfl (by kernel_rfl) (by kernel_rfl) h
theorem c123 {a100 : C} {b0 : Nat} {m : M} {Q : V → M → Prop} (h :
 (∃ c0 : C, (((ldC m (C.ptr b0 0)) = (some c0)) ∧ (callP prog tbl [(V.c a100)] c0 m (fun v1 m2 => (∃ b3 : Bool, 
 ((v1 = (V.c (C.bool b3))) ∧ (Q (V.c (C.bool (!b3))) m2)))))))) : Wc prog tbl 123 [.c (a100), .c (.ptr b0 0)] m Q :=
 wc_eq (n := 2) rfl (by kernel_rfl) (by kernel_rfl) h
theorem c94 {a100 : C} {b0 : Nat} {m : M} {Q : V → M → Prop} (h :
 (isPt (C.ptr b0 0) ∧ (isPt (C.ptr b0 2) ∧ (∃ x0 : Int, (((ldC m (C.ptr b0 2)) = (some (C.int .i64 x0))) ∧ 
 (∀ R1 : List V → M → Prop, ((∀ x2 : Int, (∀ m3 : M, ((isPt (C.ptr b0 0) ∧ (isPt (C.ptr b0 2) ∧ (∃ x4 : Int, 
 (((ldC m3 (C.ptr b0 3)) = (some (C.int .i64 x4))) ∧ (ifB (decide (x2 ≤ x4)) (isPt (C.ptr b0 0) ∧ 
 (isPt (C.ptr b0 4) ∧ (∃ x5 : Int, (((ldC m3 (C.ptr b0 4)) = (some (C.int .i64 x5))) ∧ 
 (∀ R6 : List V → M → Prop, ((∀ x7 : Int, (∀ m8 : M, ((isPt (C.ptr b0 0) ∧ (isPt (C.ptr b0 4) ∧ 
 (∃ x9 : Int, (((ldC m8 (C.ptr b0 5)) = (some (C.int .i64 x9))) ∧ (ifB (decide (x7 ≤ x9)) (callP prog tbl [(V.agg 2 [(C.int .i64 x2), 
 (C.int .i64 x7)])] a100 m8 (fun v10 m11 => (∃ b12 : Bool, ((v10 = (V.c (C.bool b12))) ∧ 
 (ifB (!b12) (Q (V.tup []) m11) (fitsP .i64 (x7 + (1 : Int)) ∧ (R6 [(V.c (C.int .i64 (x7 + (1 : Int))))] m11))))))) (fitsP .i64 (x2 + (1 : Int)) ∧ 
 (R1 [(V.c (C.int .i64 (x2 + (1 : Int))))] m8))))))) → (R6 [(V.c (C.int .i64 x7))] m8)))) → 
 (R6 [(V.c (C.int .i64 x5))] m3))))))) (Q (V.tup []) m3)))))) → (R1 [(V.c (C.int .i64 x2))] m3)))) → 
 (R1 [(V.c (C.int .i64 x0))] m)))))))) : Wc prog tbl 94 [.c (a100), .c (.ptr b0 0)] m Q :=
 wc_eq (n := 2) rfl (by kernel_rfl) (by kernel_rfl) h
theorem c70 {a100 : Int} {a101 : Int} {a200 : Int} {a201 : Int} {b0 : Nat} {b1 : Nat} {m : M} {Q : V → M → Prop} (h :
 (∀ m0 : M, ((m0 = (M.new m (AO.cells 2 [(C.int .i64 a100), (C.int .i64 a101)] false))) → (∀ m1 : M, 
 ((m1 = (M.new m0 (AO.cells 2 [(C.int .i64 a200), (C.int .i64 a201)] false))) → (∃ c2 : C, 
 (∃ c3 : C, (((ldA m1 (C.ptr b0 0) 2) = (some [c2, c3])) ∧ (∃ x4 : Int, (∃ x5 : Int, (∃ x6 : Int, 
 (∃ x7 : Int, (∃ x8 : Int, (∃ x9 : Int, (((ldA m1 (C.ptr b1 0) 6) = (some [(C.int .i64 x4), 
 (C.int .i64 x5), (C.int .i64 x6), (C.int .i64 x7), (C.int .i64 x8), 
 (C.int .i64 x9)])) ∧ (∃ x10 : Int, (∃ x11 : Int, (((ldA m1 (C.ptr m.nxt 0) 2) = (some [(C.int .i64 x10), 
 (C.int .i64 x11)])) ∧ (Wc prog tbl 65 [(V.agg 2 [c2, c3]), (V.agg 6 [(C.int .i64 x4), 
 (C.int .i64 x5), (C.int .i64 x6), (C.int .i64 x7), (C.int .i64 x8), 
 (C.int .i64 x9)]), (V.agg 2 [(C.int .i64 x10), (C.int .i64 x11)])] m1 (fun v12 m13 => 
 (∃ x14 : Int, ((v12 = (V.c (C.int .i64 x14))) ∧ (∃ c15 : C, (∃ c16 : C, (((ldA m13 (C.ptr b0 0) 2) = (some [c15, 
 c16])) ∧ ((ifB (allS noFnC [c15, c16]) ((ldA m1 (C.ptr b0 0) 2) = (some [c15, 
 c16])) False) ∧ (∃ x17 : Int, (∃ x18 : Int, (∃ x19 : Int, (∃ x20 : Int, (∃ x21 : Int, 
 (∃ x22 : Int, (((ldA m13 (C.ptr b1 0) 6) = (some [(C.int .i64 x17), 
 (C.int .i64 x18), (C.int .i64 x19), (C.int .i64 x20), (C.int .i64 x21), 
 (C.int .i64 x22)])) ∧ (((ldA m1 (C.ptr b1 0) 6) = (some [(C.int .i64 x17), 
 (C.int .i64 x18), (C.int .i64 x19), (C.int .i64 x20), (C.int .i64 x21), 
 (C.int .i64 x22)])) ∧ (∃ x23 : Int, (∃ x24 : Int, (((ldA m13 (C.ptr m0.nxt 0) 2) = (some [(C.int .i64 x23), 
 (C.int .i64 x24)])) ∧ (((ldA m1 (C.ptr m0.nxt 0) 2) = (some [(C.int .i64 x23), 
 (C.int .i64 x24)])) ∧ (Wc prog tbl 65 [(V.agg 2 [c15, c16]), (V.agg 6 [(C.int .i64 x17), 
 (C.int .i64 x18), (C.int .i64 x19), (C.int .i64 x20), (C.int .i64 x21), 
 (C.int .i64 x22)]), (V.agg 2 [(C.int .i64 x23), (C.int .i64 x24)])] m13 (fun v25 m26 => 
 (∃ x27 : Int, ((v25 = (V.c (C.int .i64 x27))) ∧ (Wc prog tbl 71 [(V.c (C.int .i64 x14)), 
 (V.c (C.int .i64 x27))] m26 (fun v28 m29 => (∃ x30 : Int, ((v28 = (V.c (C.int .i64 x30))) ∧ 
 (Q (V.c (C.int .i64 x30)) m29))))))))))))))))))))))))))))))))))))))))))))))) : Wc prog tbl 70 [.agg 2 [.int .i64 a100, .int .i64 a101], .agg 2 [.int .i64 a200, .int .i64 a201], .c (.ptr b0 0), .c (.ptr b1 0)] m Q :=
 wc_eq (n := 4) rfl (by kernel_rfl) (by kernel_rfl) h
end
end Go.Proofs.Ytbhdgedghfibcaa

