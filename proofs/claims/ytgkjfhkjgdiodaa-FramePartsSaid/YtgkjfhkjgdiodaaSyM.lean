/- What functions of the program ask and do. Condition: none; a lemma text of this claim. -/
import Derived.Test.YtgkjfhkjgdiodaaSpC
namespace Go.Abs
set_option maxRecDepth 100000
noncomputable section
open Classical
variable {P : Program} {kt : TypeId} {κ : Type} {enc : κ → U}
/-- the keys of a map are like a type of ours -/
structure KeyLike (P : Program) (kt : TypeId) (enc : κ → U) : Prop where
  plain : ∃ ks, plainK P kt = some ks
  eq : ∀ a b : κ, eqV P kt (uV (enc a)) (uV (enc b)) = some (decide (a = b))
def Keys (enc : κ → U) (es : List E) : Prop := ∀ e ∈ es, ∃ a, e.k = enc a
def look (enc : κ → U) (es : List E) (a : κ) : Option U :=
  match es with
  | [] => none
  | e :: es => if e.k = enc a then some e.v else look enc es a
theorem KeyLike.inj (h : KeyLike P kt enc) {a b : κ} (he : enc a = enc b) : a = b := by
  have h1 := h.eq a b
  rw [he, h.eq b b] at h1
  simpa using h1
theorem vU_uV (u : U) : vU (uV u) = some u := by cases u <;> rfl
theorem find_look (h : KeyLike P kt enc) (a : κ) : ∀ {es : List E} (i : Nat), Keys enc es → ∃ r, findE P kt (uV (enc a)) es i = some r ∧ optB r none (fun q => some q.2) = look enc es a ∧
    ∀ yu : U, ∀ clock : Nat, Keys enc (optB r (appS es [{ k := enc a, v := yu, born := clock }]) fun q => setEntry (enc a) yu es (q.1 - i)) ∧
      (∀ b, look enc (optB r (appS es [{ k := enc a, v := yu, born := clock }]) fun q => setEntry (enc a) yu es (q.1 - i)) b = if b = a then some yu else look enc es b) ∧ (∀ q, r = some q → i ≤ q.1)
  | [], i, _ => by
    refine ⟨none, rfl, rfl, fun yu clock => ⟨?_, fun b => ?_, fun q hq => by cases hq⟩⟩
    · intro e he
      have : e = { k := enc a, v := yu, born := clock } := by simpa [appS, optB] using he
      exact ⟨a, by rw [this]⟩
    · show look enc [_] b = _
      unfold look
      by_cases hb : b = a
      · rw [if_pos hb, if_pos (by rw [hb])]
      · rw [if_neg hb, if_neg fun he => hb (h.inj he).symm]; rfl
  | e :: es, i, hk => by
    obtain ⟨a', ha'⟩ := hk e (List.mem_cons_self ..)
    have hk' : Keys enc es := fun e he => hk e (List.mem_cons_of_mem _ he)
    obtain ⟨r, hr, hl, hu⟩ := find_look h a (i + 1) hk'
    have he : findE P kt (uV (enc a)) (e :: es) i = optB (eqV P kt (uV (enc a)) (uV e.k)) none fun b => ifB b (some (some (i, e.v))) (findE P kt (uV (enc a)) es (i + 1)) := rfl
    rw [ha', h.eq] at he
    by_cases haa : a = a'
    · have he2 : findE P kt (uV (enc a)) (e :: es) i = some (some (i, e.v)) := by rw [he, decide_eq_true haa]; rfl
      refine ⟨_, he2, ?_, fun yu clock => ⟨?_, fun b => ?_, fun q hq => ?_⟩⟩
      · show some e.v = if e.k = enc a then some e.v else look enc es a
        rw [if_pos (by rw [ha', haa])]
      · show Keys enc (setEntry (enc a) yu (e :: es) (i - i))
        rw [Nat.sub_self]
        intro e' he'
        rcases List.mem_cons.1 he' with rfl | h2
        · exact ⟨a, rfl⟩
        · exact hk' _ h2
      · show look enc (setEntry (enc a) yu (e :: es) (i - i)) b = _
        rw [Nat.sub_self]
        show (if enc a = enc b then some yu else look enc es b) = if b = a then some yu else if e.k = enc b then some e.v else look enc es b
        by_cases hb : b = a
        · rw [if_pos hb, if_pos (by rw [hb])]
        · rw [if_neg hb, if_neg fun he => hb (h.inj he).symm, if_neg fun he => hb (by rw [ha'] at he; rw [haa]; exact (h.inj he).symm)]
      · cases hq; exact Nat.le_refl _
    · have he2 : findE P kt (uV (enc a)) (e :: es) i = some r := by rw [he, decide_eq_false haa]; exact hr
      refine ⟨r, he2, ?_, fun yu clock => ?_⟩
      · rw [hl]
        show look enc es a = if e.k = enc a then some e.v else look enc es a
        rw [if_neg fun h2 => haa (by rw [ha'] at h2; exact (h.inj h2).symm)]
      · obtain ⟨u1, u2, u3⟩ := hu yu clock
        have hcons : (optB r (appS (e :: es) [{ k := enc a, v := yu, born := clock }]) fun q => setEntry (enc a) yu (e :: es) (q.1 - i)) = e :: (optB r (appS es [{ k := enc a, v := yu, born := clock }]) fun q => setEntry (enc a) yu es (q.1 - (i + 1))) := by
          cases r with
          | none =>
            show consS e _ = _
            exact consS_eq e _
          | some q =>
            have := u3 q rfl
            show setEntry (enc a) yu (e :: es) (q.1 - i) = e :: setEntry (enc a) yu es (q.1 - (i + 1))
            rw [show q.1 - i = (q.1 - (i + 1)) + 1 by omega]
            show consS e _ = _
            exact consS_eq e _
        rw [hcons]
        refine ⟨fun e' he' => ?_, fun b => ?_, fun q hq => by have := u3 q hq; omega⟩
        · rcases List.mem_cons.1 he' with rfl | h2
          · exact ⟨a', ha'⟩
          · exact u1 _ h2
        · show (if e.k = enc b then some e.v else look enc _ b) = if b = a then some yu else if e.k = enc b then some e.v else look enc es b
          rw [u2]
          by_cases h3 : e.k = enc b
          · rw [if_pos h3, if_pos h3, if_neg fun h4 => haa (by rw [h4, ha'] at h3; exact (h.inj h3).symm)]
          · rw [if_neg h3, if_neg h3]
/-- a map's block -/
structure Mp (enc : κ → U) (m : M) (b : Nat) (f : κ → Option U) : Prop where
  ex : ∃ es clock, m.g b = some (.map es clock) ∧ Keys enc es ∧ ∀ a, look enc es a = f a
  lt : b < m.nxt
theorem Mp.new {m m0 : M} (h : m0 = m.new (.map [] 0)) : Mp enc m0 m.nxt (fun _ => none) ∧ Ext m m0 := by
  subst h
  exact ⟨⟨⟨[], 0, by rw [M.g_new, if_pos rfl], fun e he => (by cases he), fun _ => rfl⟩, by rw [M.nxt_new]; omega⟩, Ext.new m _⟩
theorem Mp.ext {m m' : M} {b : Nat} {f : κ → Option U} (h : Mp enc m b f) (e : Ext m m') : Mp enc m' b f := by
  obtain ⟨es, clock, h1, h2⟩ := h.ex
  exact ⟨⟨es, clock, (e.g b h.lt).trans h1, h2⟩, Nat.lt_of_lt_of_le h.lt e.nxt⟩
theorem Mp.setNe {m : M} {b c : Nat} {f : κ → Option U} (h : Mp enc m b f) (hc : b ≠ c) (o : AO) : Mp enc (m.set c o) b f := by
  obtain ⟨es, clock, h1, h2⟩ := h.ex
  exact ⟨⟨es, clock, by rw [M.g_set, if_neg hc]; exact h1, h2⟩, h.lt⟩
theorem Mp.lk (hK : KeyLike P kt enc) {m : M} {b : Nat} {f : κ → Option U} (h : Mp enc m b f) (a : κ) {k : V} (hk : k = uV (enc a)) : lkM P kt m (.map b) k = some (f a) := by
  subst hk
  obtain ⟨es, clock, h1, h2, h3⟩ := h.ex
  obtain ⟨ks, hp⟩ := hK.plain
  obtain ⟨r, hr, hl, _⟩ := find_look hK a 0 h2
  unfold lkM
  rw [hp, optB_some, hK.eq, optB_some, ← h3 a, ← hl]
  simp only [h1]
  rw [hr]; rfl
theorem Mp.up (hK : KeyLike P kt enc) {m : M} {b : Nat} {f : κ → Option U} (h : Mp enc m b f) (a : κ) (y : U) {k yv : V} (hk : k = uV (enc a)) (hy : yv = uV y) :
    ∃ o, upM P kt m (.map b) k yv = some (m.set b o) ∧ Mp enc (m.set b o) b (fun b => if b = a then some y else f b) := by
  subst hk hy
  obtain ⟨es, clock, h1, h2, h3⟩ := h.ex
  obtain ⟨ks, hp⟩ := hK.plain
  obtain ⟨r, hr, _, hu⟩ := find_look hK a 0 h2
  obtain ⟨u1, u2, _⟩ := hu y clock
  unfold upM
  rw [hp, optB_some]
  simp only [h1]
  rw [vU_uV, optB_some, vU_uV, optB_some, hK.eq, optB_some, hr, optB_some]
  cases r with
  | none => exact ⟨_, rfl, ⟨_, _, (by rw [M.g_set, if_pos rfl]; rfl), u1, fun b => by rw [u2, h3]⟩, h.lt⟩
  | some q => exact ⟨_, rfl, ⟨_, _, (by rw [M.g_set, if_pos rfl]; rfl), u1, fun b => by have := u2 b; rw [h3] at this; exact this⟩, h.lt⟩
end
end Go.Abs
