/- Laws of memory, of slices and append; what a law is called with, as a memory. Condition: none; a lemma text of this claim. -/
import Derived.Test.YtbhdgedghfibcaaSyA
import Derived.ChangeArms
import Derived.ChangeOld
import Derived.Carry
import Derived.ChangeShapes
/- Laws of memory. -/
namespace Go.Abs
noncomputable section

theorem atS_get? {α : Type} : ∀ (l : List α) (o : Nat), atS l o = l[o]?
  | [], o => by cases o <;> rfl
  | x :: xs, 0 => rfl
  | x :: xs, o + 1 => by
    show atS xs o = _
    rw [atS_get? xs o]; simp
theorem takeS_of {α : Type} : ∀ (n : Nat) (l : List α), n ≤ l.length → takeS n l = some (l.take n)
  | 0, l, _ => by rw [List.take_zero]; rfl
  | n + 1, [], h => by simp at h
  | n + 1, x :: xs, h => by
    show optB (takeS n xs) none (fun r => some (consS x r)) = _
    rw [takeS_of n xs (by simpa using h), optB_some, consS_eq]; simp
theorem dropS_of {α : Type} : ∀ (n : Nat) (l : List α), n ≤ l.length → dropS n l = some (l.drop n)
  | 0, l, _ => rfl
  | n + 1, [], h => by simp at h
  | n + 1, x :: xs, h => by
    show dropS n xs = _
    rw [dropS_of n xs (by simpa using h)]; simp
theorem seg_of {α : Type} {l : List α} {o n : Nat} (h : o + n ≤ l.length) : seg l o n = some ((l.drop o).take n) := by
  unfold seg
  rw [dropS_of o l (by omega), optB_some, takeS_of n _ (by simp; omega)]
theorem splice_of {α : Type} (new : List α) : ∀ (o : Nat) (l : List α), o + new.length ≤ l.length → splice o new l = some (l.take o ++ new ++ l.drop (o + new.length))
  | 0, l, h => by
    have : ∀ (new l : List α), new.length ≤ l.length → over new l = some (new ++ l.drop new.length) := by
      intro new
      induction new with
      | nil => intro l _; simp [over]
      | cons y ys ih =>
        intro l h
        cases l with
        | nil => simp at h
        | cons x xs =>
          show optB (over ys xs) none (fun r => some (consS y r)) = _
          rw [ih xs (by simpa using h), optB_some, consS_eq]; simp
    show over new l = _
    rw [this new l (by omega)]; simp
  | o + 1, [], h => by simp at h
  | o + 1, x :: xs, h => by
    show optB (splice o new xs) none (fun r => some (consS x r)) = _
    rw [splice_of new o xs (by simp at h; omega), optB_some, consS_eq]
    simp [Nat.add_right_comm]

/-! ### words of the texts -/
theorem isPt_ptr (b o : Nat) : isPt (.ptr b o) = True := rfl
theorem isSl_sl (b o n s : Nat) (c : Option Nat) : isSl (.sl b o n s c) = True := rfl
theorem isSl_sl0 : isSl .sl0 = True := rfl
theorem ifB_dec {p : Prop} [Decidable p] {A B : Prop} : ifB (decide p) A B ↔ (p → A) ∧ (¬ p → B) := by
  by_cases h : p <;> simp [h, ifB]
theorem ifB_ndec {p : Prop} [Decidable p] {A B : Prop} : ifB (!decide p) A B ↔ (¬ p → A) ∧ (p → B) := by
  by_cases h : p <;> simp [h, ifB]
theorem ifB_iff {b : Bool} {A B : Prop} : ifB b A B ↔ (b = true → A) ∧ (b = false → B) := by cases b <;> simp [ifB]

/-! ### memory -/
theorem M.nxt_new (m : M) (o : AO) : (m.new o).nxt = m.nxt + 1 := rfl
theorem M.nxt_set (m : M) (b : Nat) (o : AO) : (m.set b o).nxt = m.nxt := rfl
theorem M.nxt_del (m : M) (b : Nat) : (m.del b).nxt = m.nxt := rfl
theorem M.g_new (m : M) (o : AO) (b : Nat) : (m.new o).g b = if b = m.nxt then some o else m.g b := rfl
theorem M.g_set (m : M) (c : Nat) (o : AO) (b : Nat) : (m.set c o).g b = if b = c then some o else m.g b := rfl
theorem M.vw_new (m : M) (o : AO) : (m.new o).vw = m.vw := rfl
theorem M.vw_set (m : M) (c : Nat) (o : AO) : (m.set c o).vw = m.vw := rfl
theorem M.vw_del (m : M) (c : Nat) : (m.del c).vw = m.vw := rfl
theorem M.g_del (m : M) (c b : Nat) : (m.del c).g b = if b = c then none else m.g b := rfl
def cellA (o : Option AO) (k : Nat) : Option C := match o with | some (.cells _ vs _) => atS vs k | _ => none
def cellsA (o : Option AO) (k n : Nat) : Option (List C) := match o with | some (.cells n' vs _) => ifB (Nat.beq k 0) (ifB (Nat.beq n' n) (some vs) (seg vs k n)) (seg vs k n) | _ => none
/-- what can be read at a place: of a block, or of what can only be read -/
def rdK (o : Option AO) (q : Option (Nat × List C)) (k : Nat) : Option C := match o with | some x => cellA (some x) k | none => optB q none fun q => ifB (Nat.ble q.1 k) (atS q.2 (k - q.1)) none
def rdsK (o : Option AO) (q : Option (Nat × List C)) (k n : Nat) : Option (List C) := match o with | some x => cellsA (some x) k n | none => optB q none fun q => ifB (Nat.ble q.1 k) (seg q.2 (k - q.1) n) none
theorem ldC_g (m : M) (b k : Nat) : ldC m (.ptr b k) = rdK (m.g b) (m.vw b) k := by
  show optB (m.g b) _ _ = _
  cases m.g b with
  | none => rfl
  | some x => cases x <;> rfl
theorem ldA_g (m : M) (b k n : Nat) : ldA m (.ptr b k) n = rdsK (m.g b) (m.vw b) k n := by
  show optB (m.g b) _ _ = _
  cases m.g b with
  | none => rfl
  | some x => cases x <;> rfl
theorem rdK_some (n : Nat) (vs : List C) (op : Bool) (q : Option (Nat × List C)) (k : Nat) : rdK (some (.cells n vs op)) q k = vs[k]? := atS_get? vs k
theorem rdK_view (o : Nat) (vs : List C) (k : Nat) (h : o ≤ k) : rdK none (some (o, vs)) k = vs[k - o]? := by
  show ifB (Nat.ble o k) (atS vs (k - o)) none = _
  rw [Nat.ble_eq_true_of_le h, atS_get?]; rfl
theorem cellA_some (n : Nat) (vs : List C) (op : Bool) (k : Nat) : cellA (some (.cells n vs op)) k = vs[k]? := atS_get? vs k
theorem rdsK_some (x : AO) (q : Option (Nat × List C)) (k n : Nat) : rdsK (some x) q k n = cellsA (some x) k n := rfl
theorem rdsK_view {o : Nat} {vs : List C} {k n : Nat} (h : o ≤ k) (h2 : k - o + n ≤ vs.length) : rdsK none (some (o, vs)) k n = some ((vs.drop (k - o)).take n) := by
  show ifB (Nat.ble o k) (seg vs (k - o) n) none = _
  rw [Nat.ble_eq_true_of_le h, seg_of h2]; rfl
theorem cellsA_whole (n : Nat) (vs : List C) (op : Bool) : cellsA (some (.cells n vs op)) 0 n = some vs := by
  show ifB (Nat.beq 0 0) (ifB (Nat.beq n n) (some vs) (seg vs 0 n)) (seg vs 0 n) = some vs
  rw [Nat.beq_refl, Nat.beq_refl]; rfl
theorem cellsA_part {n : Nat} {vs : List C} {op : Bool} {k j : Nat} (hn : vs.length = n) (h : k + j ≤ n) : cellsA (some (.cells n vs op)) k j = some ((vs.drop k).take j) := by
  show ifB (Nat.beq k 0) (ifB (Nat.beq n j) (some vs) (seg vs k j)) (seg vs k j) = _
  have hs : seg vs k j = some ((vs.drop k).take j) := seg_of (by omega)
  rw [hs]
  cases h1 : Nat.beq k 0 with
  | false => rfl
  | true =>
    cases h2 : Nat.beq n j with
    | false => rfl
    | true =>
      have := Nat.eq_of_beq_eq_true h1
      have := Nat.eq_of_beq_eq_true h2
      subst_vars
      simp [ifB]

/-- what lay there lies there -/
structure Ext (m m' : M) : Prop where
  nxt : m.nxt ≤ m'.nxt
  g : ∀ b, b < m.nxt → m'.g b = m.g b
  vw : m'.vw = m.vw
theorem Ext.refl (m : M) : Ext m m := ⟨Nat.le_refl _, fun _ _ => rfl, rfl⟩
theorem Ext.trans {a b c : M} (h : Ext a b) (h' : Ext b c) : Ext a c := ⟨Nat.le_trans h.nxt h'.nxt, fun k hk => (h'.g k (Nat.lt_of_lt_of_le hk h.nxt)).trans (h.g k hk), h'.vw.trans h.vw⟩
theorem Ext.new (m : M) (o : AO) : Ext m (m.new o) := ⟨Nat.le_succ _, fun b hb => by rw [M.g_new, if_neg (by omega)], rfl⟩
theorem Ext.newR {m m' : M} (h : Ext m m') (o : AO) : Ext m (m'.new o) := h.trans (.new m' o)
/-- a block of one's own is written -/
theorem Ext.setR {m m' : M} (h : Ext m m') {b : Nat} (hb : m.nxt ≤ b) (o : AO) : Ext m (m'.set b o) := ⟨h.nxt, fun k hk => by rw [M.g_set, if_neg (by omega)]; exact h.g k hk, h.vw⟩
theorem Ext.delR {m m' : M} (h : Ext m m') {b : Nat} (hb : m.nxt ≤ b) : Ext m (m'.del b) := ⟨h.nxt, fun k hk => by rw [M.g_del, if_neg (by omega)]; exact h.g k hk, h.vw⟩

end
end Go.Abs

/- Slices: what lies in them, and append. -/
namespace Go.Abs
noncomputable section
variable {P : Program} {T : List (Nat × Bool)}

/-! ### cells -/
theorem ldC_of {m : M} {b n : Nat} {vs : List C} {op : Bool} (hg : m.g b = some (.cells n vs op)) {k : Nat} {c : C} (h : vs[k]? = some c) : ldC m (.ptr b k) = some c := by
  rw [ldC_g, hg, rdK_some]; exact h
theorem ldA_of {m : M} {b n : Nat} {vs : List C} {op : Bool} (hg : m.g b = some (.cells n vs op)) : ldA m (.ptr b 0) n = some vs := by
  rw [ldA_g, hg, rdsK_some, cellsA_whole]
theorem stC_of {m : M} {b n : Nat} {vs : List C} {op : Bool} (hg : m.g b = some (.cells n vs op)) (new : List C) : stC m (.ptr b 0) n new = some (m.set b (.cells n new op)) := by
  show (match m.g b with
    | some (.cells n' vs opn) => ifB (Nat.beq n' n) (ifB (Nat.beq 0 0) (some (m.set b (.cells n' new opn))) none) (optB (splice 0 new vs) none fun vs' => some (m.set b (.cells n' vs' opn)))
    | _ => none) = _
  rw [hg]
  show ifB (Nat.beq n n) (ifB (Nat.beq 0 0) (some (m.set b (.cells n new op))) none) _ = _
  rw [Nat.beq_refl, Nat.beq_refl]; rfl
theorem stC_at {m : M} {b n : Nat} {vs : List C} {op : Bool} (hg : m.g b = some (.cells n vs op)) {k : Nat} (c : C) (hk : k < vs.length) (hn : vs.length = n) (h1 : n ≠ 1) : stC m (.ptr b k) 1 [c] = some (m.set b (.cells n (vs.set k c) op)) := by
  show (match m.g b with
    | some (.cells n' vs opn) => ifB (Nat.beq n' 1) (ifB (Nat.beq k 0) (some (m.set b (.cells n' [c] opn))) none) (optB (splice k [c] vs) none fun vs' => some (m.set b (.cells n' vs' opn)))
    | _ => none) = _
  rw [hg]
  show ifB (Nat.beq n 1) _ (optB (splice k [c] vs) none fun vs' => some (m.set b (.cells n vs' op))) = _
  have hb : Nat.beq n 1 = false := by
    cases hq : Nat.beq n 1 with
    | true => exact absurd (Nat.eq_of_beq_eq_true hq) h1
    | false => rfl
  rw [hb, ifB_false, splice_of [c] k vs (by simp; omega), optB_some]
  have : vs.take k ++ [c] ++ vs.drop (k + [c].length) = vs.set k c := by
    rw [List.set_eq_take_append_cons_drop, if_pos hk]; simp
  rw [this]

/-! ### slices -/
/-- vs lies from o on in block b -/
def Seg (m : M) (b o : Nat) (vs : List C) : Prop :=
  (∃ n ws op, m.g b = some (.cells n ws op) ∧ ws.length = n ∧ o + vs.length ≤ n ∧ (ws.drop o).take vs.length = vs) ∨
  (m.g b = none ∧ ∃ q : Nat × List C, m.vw b = some q ∧ q.1 ≤ o ∧ o - q.1 + vs.length ≤ q.2.length ∧ (q.2.drop (o - q.1)).take vs.length = vs)
theorem Seg.rd {m : M} {b o : Nat} {vs : List C} (h : Seg m b o vs) {i : Nat} {c : C} (hi : vs[i]? = some c) : ldC m (.ptr b (o + i)) = some c := by
  have hlt : i < vs.length := (List.getElem?_eq_some_iff.1 hi).1
  rcases h with ⟨n, ws, op, h1, h2, h3, h4⟩ | ⟨h1, q, h2, h3, h4, h5⟩
  · rw [ldC_g, h1, rdK_some]
    rw [← h4, List.getElem?_take, if_pos hlt, List.getElem?_drop] at hi
    exact hi
  · obtain ⟨qo, qs⟩ := q
    rw [ldC_g, h1, h2, rdK_view _ _ _ (by have : qo ≤ o := h3; omega)]
    rw [← h5, List.getElem?_take, if_pos hlt, List.getElem?_drop] at hi
    rw [← hi]
    congr 1
    have : qo ≤ o := h3
    show o + i - qo = o - qo + i
    omega
theorem Seg.rds {m : M} {b o : Nat} {vs : List C} (h : Seg m b o vs) {i j : Nat} (hi : i + j ≤ vs.length) : ldA m (.ptr b (o + i)) j = some ((vs.drop i).take j) := by
  have hsub : ∀ (l : List C) (a : Nat), (l.drop a).take vs.length = vs → (vs.drop i).take j = (l.drop (a + i)).take j := fun l a hl => by
    rw [← hl, List.drop_take, List.take_take, List.drop_drop]
    congr 1
    omega
  rcases h with ⟨n, ws, op, h1, h2, h3, h4⟩ | ⟨h1, q, h2, h3, h4, h5⟩
  · rw [ldA_g, h1, rdsK_some, cellsA_part h2 (by omega), hsub ws o h4]
  · obtain ⟨qo, qs⟩ := q
    have h3' : qo ≤ o := h3
    have h4' : o - qo + vs.length ≤ qs.length := h4
    rw [ldA_g, h1, h2, rdsK_view (by omega) (by omega), hsub qs (o - qo) h5]
    congr 3
    omega
theorem Seg.to {m m' : M} {b o : Nat} {vs : List C} (h : Seg m b o vs) (hg : m'.g b = m.g b) (hv : m'.vw = m.vw) : Seg m' b o vs := by
  unfold Seg
  rw [hg, hv]
  exact h

/-- a slice of n elements, k cells each, with the cells vs -/
structure Ls (m : M) (k : Nat) (x : C) (vs : List C) (n : Nat) : Prop where
  len : n * k = vs.length
  val : (x = .sl0 ∧ n = 0) ∨ ∃ b o s c, x = .sl b o n s c ∧ b < m.nxt ∧ (n ≠ 0 → Seg m b o vs)
theorem Ls.isSl {m : M} {k n : Nat} {x : C} {vs : List C} (h : Ls m k x vs n) : isSl x := by
  rcases h.val with ⟨rfl, _⟩ | ⟨b, o, s, c, rfl, _⟩ <;> trivial
theorem Ls.slLen {m : M} {k n : Nat} {x : C} {vs : List C} (h : Ls m k x vs n) : slLen x = n := by
  rcases h.val with ⟨rfl, rfl⟩ | ⟨b, o, s, c, rfl, _⟩ <;> rfl
theorem Ls.noFn {m : M} {k n : Nat} {x : C} {vs : List C} (h : Ls m k x vs n) : noFnC x = true := by
  rcases h.val with ⟨rfl, _⟩ | ⟨b, o, s, c, rfl, _⟩ <;> rfl
theorem Ls.at {m : M} {k n : Nat} {x : C} {vs : List C} (h : Ls m k x vs n) (hn : n ≠ 0) : ∃ b o, (∀ i, slAt x i = .ptr b (o + i)) ∧ Seg m b o vs := by
  rcases h.val with ⟨rfl, h2⟩ | ⟨b, o, s, c, rfl, _, h3⟩
  · exact absurd h2 hn
  · exact ⟨b, o, fun i => rfl, h3 hn⟩
theorem Ls.pos {m : M} {k n : Nat} {x : C} {vs : List C} (h : Ls m k x vs n) {i : Nat} (hi : i < vs.length) : n ≠ 0 := fun h0 => by
  have := h.len; rw [h0, Nat.zero_mul] at this; omega
theorem Ls.rd {m : M} {k n : Nat} {x : C} {vs : List C} (h : Ls m k x vs n) {i : Nat} {c : C} (hi : vs[i]? = some c) : ldC m (slAt x i) = some c := by
  obtain ⟨b, o, h1, h2⟩ := h.at (h.pos (List.getElem?_eq_some_iff.1 hi).1)
  rw [h1]; exact h2.rd hi
theorem Ls.isPt {m : M} {k n : Nat} {x : C} {vs : List C} (h : Ls m k x vs n) (hn : n ≠ 0) (i : Nat) : isPt (slAt x i) := by
  obtain ⟨b, o, h1, _⟩ := h.at hn
  rw [h1]; trivial
theorem Ls.rds {m : M} {k n : Nat} {x : C} {vs : List C} (h : Ls m k x vs n) {i j : Nat} (hj : 0 < j) (hi : i + j ≤ vs.length) : ldA m (slAt x i) j = some ((vs.drop i).take j) := by
  obtain ⟨b, o, h1, h2⟩ := h.at (h.pos (show i < vs.length by omega))
  rw [h1]; exact h2.rds hi
theorem Ls.add {m : M} {k n : Nat} {x : C} {vs : List C} (h : Ls m k x vs n) (hn : n ≠ 0) (i d : Nat) : ptAdd (slAt x i) d = slAt x (i + d) := by
  obtain ⟨b, o, h1, _⟩ := h.at hn
  rw [h1, h1]
  show C.ptr b (o + i + d) = _
  rw [Nat.add_assoc]
theorem Ls.src {m : M} {k n : Nat} {x : C} {vs : List C} (h : Ls m k x vs n) : srcCells (toH m) k (.c x) = some (n, vs) := by
  have hl := h.len
  rcases h.val with ⟨rfl, rfl⟩ | ⟨b, o, s, c, rfl, _, h3⟩
  · have : vs = [] := List.eq_nil_of_length_eq_zero (by rw [← hl, Nat.zero_mul])
    subst this; rfl
  · cases n with
    | zero =>
      have : vs = [] := List.eq_nil_of_length_eq_zero (by rw [← hl, Nat.zero_mul])
      subst this; rfl
    | succ n =>
      show optB (rdA (toH m) b o (Nat.mul (n + 1) k)) none (fun l => some (n + 1, l)) = _
      have := (h3 (by omega)).rds (i := 0) (j := (n + 1) * k) (by omega)
      have h4 : rdA (toH m) b o (Nat.mul (n + 1) k) = some ((vs.drop 0).take ((n + 1) * k)) := this
      rw [h4, optB_some, List.drop_zero, List.take_of_length_le (by omega)]
theorem Ls.to {m m' : M} {k n : Nat} {x : C} {vs : List C} (h : Ls m k x vs n) (hn : m.nxt ≤ m'.nxt) (hg : ∀ b, b < m.nxt → (∃ o s c, x = .sl b o n s c) → m'.g b = m.g b) (hv : m'.vw = m.vw) : Ls m' k x vs n := by
  refine ⟨h.len, ?_⟩
  rcases h.val with h1 | ⟨b, o, s, c, h1, h2, h3⟩
  · exact .inl h1
  · exact .inr ⟨b, o, s, c, h1, by omega, fun h0 => (h3 h0).to (hg b h2 ⟨o, s, c, h1⟩) hv⟩
theorem Ls.ext {m m' : M} {k n : Nat} {x : C} {vs : List C} (h : Ls m k x vs n) (he : Ext m m') : Ls m' k x vs n := h.to he.nxt (fun b hb _ => he.g b hb) he.vw
theorem Ls.nil (m : M) (k : Nat) : Ls m k .sl0 [] 0 := ⟨by simp, .inl ⟨rfl, rfl⟩⟩
theorem Ls.one {m : M} {b k : Nat} {vs : List C} {op : Bool} (hg : m.g b = some (.cells k vs op)) (hl : vs.length = k) (hb : b < m.nxt) (s : Nat) (c : Option Nat) : Ls m k (.sl b 0 1 s c) vs 1 :=
  ⟨by omega, .inr ⟨b, 0, s, c, rfl, hb, fun _ => .inl ⟨k, vs, op, hg, hl, by omega, by rw [List.drop_zero, List.take_of_length_le (by omega)]⟩⟩⟩

/-! ### slices of one's own -/
inductive OwnV (m : M) (k : Nat) (vs : List C) (n : Nat) : C → Prop where
  | nil : n = 0 → vs = [] → OwnV m k vs n .sl0
  | grown (b : Nat) : m.g b = some (.cells (n * k) vs true) → b < m.nxt → OwnV m k vs n (.sl b 0 n k none)
  | lit (b : Nat) : m.g b = some (.cells (n * k) vs false) → b < m.nxt → OwnV m k vs n (.sl b 0 n 0 (some n))
structure Own1 (m : M) (k : Nat) (x : C) (vs : List C) (n : Nat) : Prop where
  len : n * k = vs.length
  own : OwnV m k vs n x
/-- the block of a slice that append frees -/
def slB (x : C) : Option Nat := match x with | .sl b _ _ _ none => some b | _ => none
theorem Own1.ls {m : M} {k n : Nat} {x : C} {vs : List C} (h : Own1 m k x vs n) : Ls m k x vs n := by
  have hl := h.len
  refine ⟨hl, ?_⟩
  cases h.own with
  | nil h1 h2 => exact .inl ⟨rfl, h1⟩
  | grown b hg hb => exact .inr ⟨b, 0, k, none, rfl, hb, fun _ => .inl ⟨_, vs, _, hg, by omega, by omega, by rw [List.drop_zero, List.take_of_length_le (by omega)]⟩⟩
  | lit b hg hb => exact .inr ⟨b, 0, 0, some n, rfl, hb, fun _ => .inl ⟨_, vs, _, hg, by omega, by omega, by rw [List.drop_zero, List.take_of_length_le (by omega)]⟩⟩
theorem Own1.to {m m' : M} {k n : Nat} {x : C} {vs : List C} (h : Own1 m k x vs n) (hn : m.nxt ≤ m'.nxt) (hg : ∀ b, b < m.nxt → (∃ s c, x = .sl b 0 n s c) → m'.g b = m.g b) : Own1 m' k x vs n := by
  refine ⟨h.len, ?_⟩
  cases h.own with
  | nil h1 h2 => exact .nil h1 h2
  | grown b h1 hb => exact .grown b (by rw [hg b hb ⟨_, _, rfl⟩]; exact h1) (by omega)
  | lit b h1 hb => exact .lit b (by rw [hg b hb ⟨_, _, rfl⟩]; exact h1) (by omega)
theorem Own1.ext {m m' : M} {k n : Nat} {x : C} {vs : List C} (h : Own1 m k x vs n) (he : Ext m m') : Own1 m' k x vs n := h.to he.nxt fun b hb _ => he.g b hb
theorem Own1.nil' (m : M) (k : Nat) : Own1 m k .sl0 [] 0 := ⟨by simp, .nil rfl rfl⟩
/-- append, to a slice of one's own -/
theorem ap_big {t el k : Nat} (ht : tk P t = .sl el) (hgr : growOk P el = true) (hk : P.cellsOf el = k) {m : M} {s x : C} {vs ws : List C} {n j : Nat} (hs : Own1 m k s vs n) (hx : Ls m k x ws j) (hj : 0 < j) (hk0 : 0 < k) (hnj : (n + j) * P.bytesOf el ≤ 140737488355328) :
    ∃ m', ApR P t m s x (.sl m.nxt 0 (n + j) k none) m' ∧ Own1 m' k (.sl m.nxt 0 (n + j) k none) (vs ++ ws) (n + j) ∧ m'.nxt = m.nxt + 1 ∧ m'.vw = m.vw ∧ ∀ b, b ≠ m.nxt → slB s ≠ some b → m'.g b = m.g b := by
  have hws : ws.length = j * k := hx.len.symm
  have hlen : (n + j) * k = (vs ++ ws).length := by rw [List.length_append, Nat.add_mul, hs.len, hx.len]
  have h0 : appendV P (toH m) t (.c s) (.c x) = appendR P (toH m) el (.c s) j ws := by
    show onSlT (tk P t) none _ = _
    rw [ht]
    show ifB (growOk P el) (optB (srcCells (toH m) (P.cellsOf el) (.c x)) none _) none = _
    rw [hgr, ifB_true, hk, hx.src, optB_some]
    show ifB (Nat.ble (Nat.mul j (P.bytesOf el)) 140737488355328) _ none = _
    rw [Nat.ble_eq_true_of_le (show Nat.mul j (P.bytesOf el) ≤ 140737488355328 from Nat.le_trans (Nat.mul_le_mul_right _ (Nat.le_add_left j n)) hnj), ifB_true]
  obtain ⟨j', rfl⟩ : ∃ j', j = j' + 1 := ⟨j - 1, by omega⟩
  have hmk : ∀ m1 : M, m1.nxt = m.nxt → grown (toH m1) (n + (j' + 1)) k (vs ++ ws) = some (.val (.c (.sl m.nxt 0 (n + (j' + 1)) k none)) (toH (m1.new (.cells ((n + (j' + 1)) * k) (vs ++ ws) true)))) := fun m1 h1 => by
    have : hNew (toH m1) (.cells ((n + (j' + 1)) * k) (vs ++ ws) true) = _ := toH_new m1 _
    rw [← this, ← h1]; rfl
  have fin : ∀ m1 : M, m1.nxt = m.nxt → m1.vw = m.vw → (∀ b, b ≠ m.nxt → slB s ≠ some b → m1.g b = m.g b) → appendR P (toH m) el (.c s) (j' + 1) ws = grown (toH m1) (n + (j' + 1)) k (vs ++ ws) →
      ∃ m', ApR P t m s x (.sl m.nxt 0 (n + (j' + 1)) k none) m' ∧ Own1 m' k (.sl m.nxt 0 (n + (j' + 1)) k none) (vs ++ ws) (n + (j' + 1)) ∧ m'.nxt = m.nxt + 1 ∧ m'.vw = m.vw ∧ ∀ b, b ≠ m.nxt → slB s ≠ some b → m'.g b = m.g b := fun m1 h1 h2 h3 h4 => by
    refine ⟨m1.new (.cells ((n + (j' + 1)) * k) (vs ++ ws) true), ?_, ⟨hlen, .grown _ ?_ ?_⟩, by rw [M.nxt_new, h1], by rw [M.vw_new]; exact h2, fun b hb hsb => ?_⟩
    · show appendV P (toH m) t (.c s) (.c x) = _
      rw [h0, h4, hmk m1 h1]
    · rw [M.g_new, if_pos h1.symm]
    · rw [M.nxt_new]; omega
    · rw [M.g_new, if_neg (by omega)]; exact h3 b hb hsb
  cases hs.own with
  | nil h1 h2 =>
    subst h1 h2
    refine fin m rfl rfl (fun _ _ _ => rfl) ?_
    show grown (toH m) (j' + 1) (P.cellsOf el) ws = _
    rw [hk, Nat.zero_add]; rfl
  | lit b hg hb =>
    refine fin m rfl rfl (fun _ _ _ => rfl) ?_
    show ifB (Nat.ble (Nat.mul (Nat.add n (j' + 1)) (P.bytesOf el)) 140737488355328) (onCells (toH m) b none fun bn ws' opn => ifB (Nat.ble (Nat.add n (j' + 1)) n) _ (optB (seg ws' 0 (Nat.mul n (P.cellsOf el))) none fun old => grown (toH m) (Nat.add n (j' + 1)) (P.cellsOf el) (appS old ws))) none = _
    rw [Nat.ble_eq_true_of_le (show Nat.mul (Nat.add n (j' + 1)) (P.bytesOf el) ≤ 140737488355328 from hnj), ifB_true, onCells_toH hg]
    have hb : Nat.ble (Nat.add n (j' + 1)) n = false := by
      cases hq : Nat.ble (Nat.add n (j' + 1)) n with
      | true => have : n + (j' + 1) ≤ n := Nat.le_of_ble_eq_true hq; omega
      | false => rfl
    rw [hb, ifB_false, hk, seg_of (show 0 + Nat.mul n k ≤ vs.length by have : Nat.mul n k = n * k := rfl; rw [this, hs.len]; omega), optB_some, List.drop_zero, List.take_of_length_le (by have : Nat.mul n k = n * k := rfl; rw [this, hs.len]; omega), appS_eq]
    rfl
  | grown b hg hb =>
    refine fin (m.del b) rfl rfl (fun b' _ h => by rw [M.g_del, if_neg fun h' => h (by rw [h']; rfl)]) ?_
    show ifB (Nat.ble (Nat.mul (Nat.add n (j' + 1)) (P.bytesOf el)) 140737488355328) (onCells (toH m) b none fun bn ws' opn => ifB (Nat.beq k (P.cellsOf el)) (ifB (Nat.beq 0 0)
      (optB (splice (Nat.mul n k) ws ws') (optB (takeS (Nat.mul n k) ws') none fun old => grown (hDel (toH m) b) (Nat.add n (j' + 1)) k (appS old ws)) _) none) none) none = _
    rw [Nat.ble_eq_true_of_le (show Nat.mul (Nat.add n (j' + 1)) (P.bytesOf el) ≤ 140737488355328 from hnj), ifB_true, onCells_toH hg, hk, Nat.beq_refl, Nat.beq_refl, ifB_true, ifB_true]
    have hsp : splice (Nat.mul n k) ws vs = none := by
      cases hq : splice (Nat.mul n k) ws vs with
      | none => rfl
      | some r =>
        have h1 := (splice_eq _ _ _ _ hq).1
        have h2 : Nat.mul n k = n * k := rfl
        rw [h2, hs.len, hws] at h1
        have : 0 < (j' + 1) * k := Nat.mul_pos (by omega) hk0
        omega
    rw [hsp, optB_none, takeS_of _ _ (by have : Nat.mul n k = n * k := rfl; rw [this, hs.len]; omega), optB_some, List.take_of_length_le (by have : Nat.mul n k = n * k := rfl; rw [this, hs.len]; omega), appS_eq, toH_del]
    rfl
theorem growOk_small {el : Nat} (hgr : growOk P el = true) {n : Nat} (h : n ≤ 1048576) : n * P.bytesOf el ≤ 140737488355328 := by
  unfold growOk at hgr
  simp only [Bool.and_eq_true] at hgr
  have h4 := Nat.le_of_ble_eq_true hgr.1.2
  exact Nat.le_trans (Nat.mul_le_mul h h4) (by decide)
theorem ap_own {t el k : Nat} (ht : tk P t = .sl el) (hgr : growOk P el = true) (hk : P.cellsOf el = k) {m : M} {s x : C} {vs ws : List C} {n j : Nat} (hs : Own1 m k s vs n) (hx : Ls m k x ws j) (hj : 0 < j) (hk0 : 0 < k) (hnj : n + j ≤ 1048576) :
    ∃ m', ApR P t m s x (.sl m.nxt 0 (n + j) k none) m' ∧ Own1 m' k (.sl m.nxt 0 (n + j) k none) (vs ++ ws) (n + j) ∧ m'.nxt = m.nxt + 1 ∧ m'.vw = m.vw ∧ ∀ b, b ≠ m.nxt → slB s ≠ some b → m'.g b = m.g b := ap_big ht hgr hk hs hx hj hk0 (growOk_small hgr hnj)
theorem ap_none {t el k : Nat} (ht : tk P t = .sl el) (hgr : growOk P el = true) (hk : P.cellsOf el = k) {m : M} {s x : C} {vs : List C} {n : Nat} (hs : Own1 m k s vs n) (hx : Ls m k x [] 0) : ApR P t m s x s m := by
  show onSlT (tk P t) none _ = _
  rw [ht]
  show ifB (growOk P el) (optB (srcCells (toH m) (P.cellsOf el) (.c x)) none _) none = _
  rw [hgr, ifB_true, hk, hx.src, optB_some]
  show ifB (Nat.ble (Nat.mul 0 (P.bytesOf el)) 140737488355328) _ none = _
  rw [Nat.ble_eq_true_of_le (show Nat.mul 0 (P.bytesOf el) ≤ 140737488355328 from Nat.le_trans (Nat.le_of_eq (Nat.zero_mul _)) (Nat.zero_le _)), ifB_true]
  show vSl (.c s) none (some (R.val (.c s) (toH m))) (fun _ _ _ _ _ => some (R.val (.c s) (toH m))) = _
  rcases hs.ls.val with ⟨rfl, _⟩ | ⟨b, o, s, c, rfl, _⟩ <;> rfl

/-! ### blocks of one's own -/
structure Bk (m : M) (b n : Nat) (vs : List C) : Prop where
  g : m.g b = some (.cells n vs false)
  lt : b < m.nxt
theorem Bk.ext {m m' : M} {b n : Nat} {vs : List C} (h : Bk m b n vs) (e : Ext m m') : Bk m' b n vs := ⟨(e.g b h.lt).trans h.g, Nat.lt_of_lt_of_le h.lt e.nxt⟩
theorem Bk.rc {m : M} {b n : Nat} {vs : List C} (h : Bk m b n vs) {k : Nat} {c : C} (hk : vs[k]? = some c) : ldC m (.ptr b k) = some c := ldC_of h.g hk
theorem Bk.ra {m : M} {b n : Nat} {vs : List C} (h : Bk m b n vs) : ldA m (.ptr b 0) n = some vs := ldA_of h.g
theorem Bk.rp {m : M} {b n : Nat} {vs : List C} (h : Bk m b n vs) {k j : Nat} (hn : vs.length = n) (hk : k + j ≤ n) : ldA m (.ptr b k) j = some ((vs.drop k).take j) := by
  rw [ldA_g, h.g, rdsK_some, cellsA_part hn hk]
theorem Bk.st {m : M} {b n : Nat} {vs : List C} (h : Bk m b n vs) (new : List C) : stC m (.ptr b 0) n new = some (m.set b (.cells n new false)) := stC_of h.g new
theorem Bk.new {m m0 : M} {n : Nat} {vs : List C} (h : m0 = m.new (.cells n vs false)) : Bk m0 m.nxt n vs ∧ Ext m m0 := by
  subst h
  exact ⟨⟨by rw [M.g_new, if_pos rfl], by rw [M.nxt_new]; omega⟩, .new m _⟩
theorem Bk.set {m : M} {b n : Nat} {vs : List C} (h : Bk m b n vs) (new : List C) : Bk (m.set b (.cells n new false)) b n new := ⟨by rw [M.g_set, if_pos rfl], h.lt⟩
theorem Bk.setNe {m : M} {b n : Nat} {vs : List C} (h : Bk m b n vs) {c : Nat} (hc : b ≠ c) (o : AO) : Bk (m.set c o) b n vs := ⟨by rw [M.g_set, if_neg hc]; exact h.g, h.lt⟩
theorem Ls.setNe {m : M} {k n : Nat} {x : C} {vs : List C} (h : Ls m k x vs n) {c : Nat} (hc : ∀ b o n s d, x = .sl b o n s d → b ≠ c) (o : AO) : Ls (m.set c o) k x vs n := by
  refine h.to (Nat.le_refl _) (fun b _ hb => ?_) rfl
  obtain ⟨o', s, d, hx⟩ := hb
  rw [M.g_set, if_neg (hc _ _ _ _ _ hx)]

/-- the slice lies in a block that is new -/
def Fr (m : M) (x : C) : Prop := ∀ b o n s d, x = .sl b o n s d → m.nxt ≤ b
theorem Fr.mono {m m' : M} {x : C} (h : Fr m' x) (e : m.nxt ≤ m'.nxt) : Fr m x := fun b o n s d hx => Nat.le_trans e (h b o n s d hx)
theorem Fr.nil (m : M) : Fr m .sl0 := fun _ _ _ _ _ h => by cases h
/-- an element more, as a loop appends it -/
theorem ap_step {t el k : Nat} (ht : tk P t = .sl el) (hgr : growOk P el = true) (hk : P.cellsOf el = k) (hk0 : 0 < k) {m00 m m1 : M} {s : C} {vs ws : List C} {n : Nat} (hs : Own1 m k s vs n) (hf : Fr m00 s) (he : Ext m00 m) (hws : ws.length = k) (hn : n + 1 ≤ 1048576)
    (h1 : m1 = m.new (.cells k ws false)) : ∃ c m2, ApR P t m1 s (.sl m.nxt 0 1 0 (some 1)) c m2 ∧ Own1 m2 k c (vs ++ ws) (n + 1) ∧ Fr m00 c ∧ Ext m00 m2 ∧ m.nxt ≤ m2.nxt ∧ ∀ b, b < m.nxt → slB s ≠ some b → m2.g b = m.g b := by
  obtain ⟨b1, x1⟩ := Bk.new h1
  obtain ⟨m2, q1, q2, q3, q4, q5⟩ := ap_own ht hgr hk (hs.ext x1) (Ls.one b1.g hws b1.lt 0 (some 1)) (by omega) hk0 hn
  have hn1 : m1.nxt = m.nxt + 1 := by rw [h1]; rfl
  have hg : ∀ b, b < m.nxt → slB s ≠ some b → m2.g b = m.g b := fun b hb hsb => by
    rw [q5 b (by omega) hsb]; exact x1.g b hb
  refine ⟨_, m2, q1, q2, fun b o n' s' d hx => by cases hx; have := he.nxt; omega, ⟨by have := he.nxt; omega, fun b hb => ?_, by rw [q4, x1.vw]; exact he.vw⟩, by omega, hg⟩
  have hb' : b < m.nxt := Nat.lt_of_lt_of_le hb he.nxt
  rw [hg b hb' fun hsb => ?_]
  · exact he.g b hb
  · cases s with
    | sl b' o n' s' d =>
      cases d with
      | none =>
        have h2 : some b' = some b := hsb
        have h3 := hf b' o n' s' none rfl
        cases h2; omega
      | some d => cases hsb
    | _ => cases hsb
theorem Bk.keep {m m' : M} {b n : Nat} {vs : List C} {s : C} (h : Bk m b n vs) (hn : m.nxt ≤ m'.nxt) (hg : ∀ b, b < m.nxt → slB s ≠ some b → m'.g b = m.g b) (hs : ∀ b' o n' s' d, s = .sl b' o n' s' d → b' ≠ b) : Bk m' b n vs := by
  refine ⟨?_, Nat.lt_of_lt_of_le h.lt hn⟩
  rw [hg b h.lt fun hsb => ?_]
  · exact h.g
  · cases s with
    | sl b' o n' s' d =>
      cases d with
      | none =>
        have h2 : some b' = some b := hsb
        cases h2; exact hs b o n' s' none rfl rfl
      | some d => cases hsb
    | _ => cases hsb

theorem Fr.ne {m : M} {s : C} (hf : Fr m s) {b : Nat} (hb : b < m.nxt) : slB s ≠ some b := fun hsb => by
  cases s with
  | sl b' o n' s' d =>
    cases d with
    | none =>
      have h2 : some b' = some b := hsb
      have h3 := hf b' o n' s' none rfl
      cases h2; omega
    | some d => cases hsb
  | _ => cases hsb
theorem ap_one {t el k : Nat} (ht : tk P t = .sl el) (hgr : growOk P el = true) (hk : P.cellsOf el = k) (hk0 : 0 < k) {m m1 : M} {s : C} {vs ws : List C} {n : Nat} (hs : Own1 m k s vs n) (hws : ws.length = k) (hn : n + 1 ≤ 1048576)
    (h1 : m1 = m.new (.cells k ws false)) : ∃ c m2, ApR P t m1 s (.sl m.nxt 0 1 0 (some 1)) c m2 ∧ Own1 m2 k c (vs ++ ws) (n + 1) ∧ Fr m c ∧ m.nxt ≤ m2.nxt ∧ m2.vw = m.vw ∧ ∀ b, b < m.nxt → slB s ≠ some b → m2.g b = m.g b := by
  obtain ⟨b1, x1⟩ := Bk.new h1
  obtain ⟨m2, q1, q2, q3, q4, q5⟩ := ap_own ht hgr hk (hs.ext x1) (Ls.one b1.g hws b1.lt 0 (some 1)) (by omega) hk0 hn
  have hn1 : m1.nxt = m.nxt + 1 := by rw [h1]; rfl
  exact ⟨_, m2, q1, q2, fun b o n' s' d hx => by cases hx; omega, by omega, q4.trans x1.vw, fun b hb hsb => by rw [q5 b (by omega) hsb]; exact x1.g b hb⟩
theorem Ext.keep {m0 m m2 : M} {s : C} (he : Ext m0 m) (hf : Fr m0 s) (hn : m.nxt ≤ m2.nxt) (hv : m2.vw = m.vw) (hg : ∀ b, b < m.nxt → slB s ≠ some b → m2.g b = m.g b) : Ext m0 m2 :=
  ⟨Nat.le_trans he.nxt hn, fun b hb => by rw [hg b (Nat.lt_of_lt_of_le hb he.nxt) (hf.ne hb)]; exact he.g b hb, hv.trans he.vw⟩

/-- two slices lie in two blocks -/
def Sep (x y : C) : Prop := ∀ b o n s d b' o' n' s' d', x = .sl b o n s d → y = .sl b' o' n' s' d' → b ≠ b'
theorem Sep.symm {x y : C} (h : Sep x y) : Sep y x := fun b o n s d b' o' n' s' d' h1 h2 h3 => h _ _ _ _ _ _ _ _ _ _ h2 h1 h3.symm
theorem Own1.lt {m : M} {k n : Nat} {x : C} {vs : List C} (h : Own1 m k x vs n) {b o n' s : Nat} {d : Option Nat} (hx : x = .sl b o n' s d) : b < m.nxt := by
  cases h.own with
  | nil => cases hx
  | grown b' hg hb => cases hx; exact hb
  | lit b' hg hb => cases hx; exact hb
theorem Own1.keep {m m' : M} {k n : Nat} {x s : C} {vs : List C} (h : Own1 m k x vs n) (hn : m.nxt ≤ m'.nxt) (hg : ∀ b, b < m.nxt → slB s ≠ some b → m'.g b = m.g b) (hs : Sep s x) : Own1 m' k x vs n := by
  refine h.to hn fun b hb hx => hg b hb fun hsb => ?_
  obtain ⟨s', d', hx⟩ := hx
  cases s with
  | sl b1 o1 n1 s1 d1 =>
    cases d1 with
    | none =>
      have h2 : some b1 = some b := hsb
      cases h2
      exact hs _ _ _ _ _ _ _ _ _ _ rfl hx rfl
    | some d => cases hsb
  | _ => cases hsb
theorem Sep.fresh {m : M} {k n : Nat} {x y : C} {vs : List C} (hx : Fr m x) (hy : Own1 m k y vs n) : Sep x y := fun b o n s d b' o' n' s' d' h1 h2 h3 => by
  have := hx _ _ _ _ _ h1
  have := hy.lt h2
  omega

/-- the first elements of a slice of one's own -/
theorem Own1.sub {m : M} {k n : Nat} {x : C} {vs : List C} (h : Own1 m k x vs n) (hk : 0 < k) {j : Nat} (hj : j ≤ n) : ∃ c, subC k x 0 j = some c ∧ Ls m k c (vs.take (j * k)) j := by
  have hl := h.len
  have hjk : j * k ≤ vs.length := by rw [← hl]; exact Nat.mul_le_mul_right _ hj
  have htl : j * k = (vs.take (j * k)).length := by rw [List.length_take]; omega
  have seg : ∀ {b : Nat} {op : Bool}, m.g b = some (.cells (n * k) vs op) → Seg m b 0 (vs.take (j * k)) := fun hg =>
    .inl ⟨_, vs, _, hg, by omega, by rw [← htl]; omega, by rw [← htl, List.drop_zero]⟩
  cases h.own with
  | nil h1 h2 =>
    subst h1 h2
    have : j = 0 := by omega
    subst this
    exact ⟨.sl0, rfl, by simpa using Ls.nil m k⟩
  | grown b hg hb =>
    refine ⟨.sl b (Nat.add 0 (Nat.mul 0 k)) (Nat.sub j 0) k none, ?_, htl, .inr ⟨b, 0, k, none, ?_, hb, fun _ => seg hg⟩⟩
    · show ifB (Nat.ble 0 j) (ifB (Nat.ble j n) (ifB (Nat.beq k k) _ none) none) none = _
      rw [Nat.ble_eq_true_of_le (Nat.zero_le _), Nat.ble_eq_true_of_le hj, Nat.beq_refl]; rfl
    · rw [show Nat.add 0 (Nat.mul 0 k) = 0 from by show 0 + 0 * k = 0; simp, show Nat.sub j 0 = j from rfl]
  | lit b hg hb =>
    refine ⟨.sl b (ifB (Nat.beq n 0) 0 (Nat.add 0 (Nat.mul 0 k))) (Nat.sub j 0) 0 (some (Nat.sub n 0)), ?_, htl, .inr ⟨b, 0, 0, some (Nat.sub n 0), ?_, hb, fun _ => seg hg⟩⟩
    · show ifB (Nat.ble 0 j) (ifB (Nat.ble j n) _ none) none = _
      rw [Nat.ble_eq_true_of_le (Nat.zero_le _), Nat.ble_eq_true_of_le hj]; rfl
    · have : ifB (Nat.beq n 0) 0 (Nat.add 0 (Nat.mul 0 k)) = 0 := by
        rw [show Nat.add 0 (Nat.mul 0 k) = 0 from by show 0 + 0 * k = 0; simp]
        cases Nat.beq n 0 <;> rfl
      rw [this]; rfl

/-! ### numbers -/
def ints (L : List Int) : List C := L.map (C.int .i64)
theorem ints_at {L : List Int} {i : Nat} {v : Int} (h : L[i]? = some v) : (ints L)[i]? = some (.int .i64 v) := by
  unfold ints; rw [List.getElem?_map, h]; rfl
theorem ints_len (L : List Int) : (ints L).length = L.length := by simp [ints]
theorem ints_app (L R : List Int) : ints L ++ ints R = ints (L ++ R) := by simp [ints]
/-- a slice of numbers -/
abbrev Li (m : M) (x : C) (L : List Int) : Prop := Ls m 1 x (ints L) L.length
theorem Li.rd {m : M} {x : C} {L : List Int} (h : Li m x L) {i : Nat} {v : Int} (hi : L[i]? = some v) : ldC m (slAt x (i * 1)) = some (.int .i64 v) := by
  rw [Nat.mul_one]; exact Ls.rd h (ints_at hi)

end
end Go.Abs

/- What a law is called with: read, and laid into a memory that can only be read. -/
namespace Go.Abs
noncomputable section

/-! ### kinds of cells -/
inductive Pk where
  | int (k : IntKind) | bool | str
inductive Kd where
  | pl (p : Pk) | sl (es : List Pk)
def plK : Kd → Option Pk
  | .pl p => some p
  | _ => none
def plKs : List Kd → Option (List Pk)
  | [] => some []
  | k :: ks => match plK k, plKs ks with
    | some p, some ps => some (p :: ps)
    | _, _ => none
theorem plKs_eq : ∀ {ks : List Kd} {ps : List Pk}, plKs ks = some ps → ks = ps.map Kd.pl
  | [], ps, h => by cases h; rfl
  | k :: ks, ps, h => by
    unfold plKs at h
    cases k with
    | pl p =>
      cases hq : plKs ks with
      | none => rw [hq] at h; cases h
      | some qs => rw [hq] at h; cases h; rw [plKs_eq hq]; rfl
    | sl es => cases h
def kindsFs (r : TypeId → Option (List Kd)) (sz : TypeId → Nat) : List Field → Nat → Option (List Kd)
  | [], _ => some []
  | f :: fs, o => if f.offset = o then match r f.type with
    | some a => if sz f.type = a.length then (kindsFs r sz fs (o + a.length)).map (a ++ ·) else none
    | none => none else none
def kindsOf (P : Program) : Nat → TypeId → Option (List Kd)
  | 0, _ => none
  | n + 1, t => match P.underlying t with
    | some .bool => some [.pl .bool]
    | some (.int k) => some [.pl (.int k)]
    | some .string => some [.pl .str]
    | some (.slice e) => match kindsOf P n e with
      | some ks => match plKs ks with
        | some es => if P.cellsOf e = es.length ∧ 0 < es.length then some [.sl es] else none
        | none => none
      | none => none
    | some (.struct fs) => match kindsFs (kindsOf P n) P.cellsOf fs.toList 0 with
      | some ks => if P.cellsOf t = ks.length then some ks else none
      | none => none
    | _ => none
/-! ### what is read -/
inductive X where
  | int (k : IntKind) (n : Int) | bool (b : Bool) | str (s : ByteArray) | nilS | sl (a : Addr) (cap : Nat) (els : List (List C))
def PlR (c : C) (v : Value) : Prop := ∀ e : Env, CR e c v
def Held (W : World) (a : Addr) (vs : List C) : Prop := ∃ c t fr, W.heap[a.block]? = some (Obj.cells c t fr) ∧ a.off + vs.length ≤ c.size ∧ All2 PlR vs ((c.toList.drop a.off).take vs.length)
def XR (W : World) : X → Value → Prop
  | .int k n, v => v = .int k n ∧ fitsP k n
  | .bool b, v => v = .bool b
  | .str s, v => v = .string s
  | .nilS, v => v = .slice none 0 0
  | .sl a cap els, v => v = .slice (some a) els.length cap ∧ els.length ≤ cap ∧ cap ≤ maxLen ∧ (a.spot = none ∨ cap = 0) ∧ (els ≠ [] → Held W a els.flatten)
def PkC : Pk → C → Prop
  | .int k, .int k' n => k' = k ∧ fitsP k n
  | .bool, .bool _ => True
  | .str, .str _ => True
  | _, _ => False
def XK : Kd → X → Prop
  | .pl (.int k), .int k' _ => k' = k
  | .pl .bool, .bool _ => True
  | .pl .str, .str _ => True
  | .sl _, .nilS => True
  | .sl es, .sl _ _ els => ∀ el ∈ els, All2 PkC es el
  | _, _ => False
theorem wf_fits {k : IntKind} {n : Int} (h : (Lit.int k n).wf = true) : fitsP k n := by
  simp only [Lit.wf, Bool.and_eq_true, decide_eq_true_eq] at h
  obtain ⟨h1, h2⟩ := h
  cases k <;> simp only [IntKind.min, IntKind.max, IntKind.signed, IntKind.bits] at h1 h2 <;> simp only [fitsP] <;> simp at h1 h2 <;> omega
/-- plain cells, as the evaluator has them -/
theorem plain_cells {W : World} : ∀ {ps : List Pk} {xs : List X} {cs : List Value}, All2 (XR W) xs cs → All2 XK (ps.map Kd.pl) xs → ∃ el : List C, All2 PkC ps el ∧ All2 PlR el cs
  | [], _, _, h1, h2 => by cases h2; cases h1; exact ⟨[], .nil, .nil⟩
  | p :: ps, _, _, h1, h2 => by
    cases h2 with
    | cons q1 q2 =>
      cases h1 with
      | cons r1 r2 =>
        rename_i x xs v cs
        obtain ⟨el, e1, e2⟩ := plain_cells r2 q2
        have : ∃ c, PkC p c ∧ PlR c v := by
          cases p with
          | int k =>
            cases x with
            | int k' n => obtain ⟨rfl, hf⟩ := r1; have hk : k' = k := q1; subst hk; exact ⟨.int k' n, ⟨rfl, hf⟩, fun _ => rfl⟩
            | _ => cases q1
          | bool =>
            cases x with
            | bool b => have : v = .bool b := r1; subst this; exact ⟨.bool b, trivial, fun _ => rfl⟩
            | _ => cases q1
          | str =>
            cases x with
            | str b => have : v = .string b := r1; subst this; exact ⟨.str b, trivial, fun _ => rfl⟩
            | _ => cases q1
        obtain ⟨c, h3, h4⟩ := this
        exact ⟨c :: el, .cons h3 e1, .cons h4 e2⟩
section
variable {H : Type} {enc : TypeId × Value → H} {P : Program} {W : World} {held : Bool}
theorem cells?_at {a : Addr} {k : Nat} {cs : List Value} (h : W.cells? 0 a k = some cs) : cs.length = k ∧ ∀ j, j < k → W.cell? (a.add j) = cs[j]? := by
  unfold World.cells? at h
  rw [if_pos (Nat.zero_le _)] at h
  refine ⟨by simpa using mapM_some_length h, fun j hj => mapM_some_get h j j (by simp [hj])⟩
theorem add_add (b o i j : Nat) : ((⟨b, o, none⟩ : Addr).add i).add j = ⟨b, o + i + j, none⟩ := by rw [addr_add, addr_add]
/-- the elements of a slice, one after the other -/
theorem els_of {r : List Value → Prop} {es : List Pk} (hr : ∀ cs, r cs → ∃ el : List C, All2 PkC es el ∧ All2 PlR el cs) {b o : Nat} {c : Array Value} {t : TypeId} {fr : Nat × Nat} (hb : W.heap[b]? = some (Obj.cells c t fr)) :
    ∀ (n : Nat), (∀ i, i < n → ∃ cs, W.cells? 0 ((⟨b, o, none⟩ : Addr).add (i * es.length)) es.length = some cs ∧ r cs) → ∃ els : List (List C), els.length = n ∧ (∀ el ∈ els, All2 PkC es el) ∧ els.flatten.length = n * es.length ∧ All2 PlR els.flatten ((c.toList.drop o).take (n * es.length)) ∧ (0 < n → 0 < es.length → o + n * es.length ≤ c.size)
  | 0, _ => ⟨[], rfl, by simp, by simp, by simp; exact .nil, fun h => by omega⟩
  | n + 1, h => by
    obtain ⟨els, h1, h2, h3, h4, h5⟩ := els_of hr hb n fun i hi => h i (by omega)
    obtain ⟨cs, q1, q2⟩ := h n (by omega)
    obtain ⟨el, e1, e2⟩ := hr cs q2
    obtain ⟨l1, l2⟩ := cells?_at q1
    have hcell : ∀ j, j < es.length → c[o + n * es.length + j]? = cs[j]? := fun j hj => by
      rw [← l2 j hj, add_add, cell_of_row W b _ c t fr hb]
    have hseg : cs = (c.toList.drop (o + n * es.length)).take es.length := by
      apply List.ext_getElem?
      intro j
      rw [List.getElem?_take]
      split
      · rename_i hj
        rw [List.getElem?_drop, ← hcell j hj]; simp
      · rw [List.getElem?_eq_none (by omega)]
    refine ⟨els ++ [el], by simp [h1], fun x hx => ?_, ?_, ?_, fun _ h0 => ?_⟩
    · rcases List.mem_append.1 hx with hx | hx
      · exact h2 x hx
      · rw [List.mem_singleton.1 hx]; exact e1
    · rw [List.flatten_append, List.length_append, h3]
      simp only [List.flatten_cons, List.flatten_nil, List.append_nil]
      rw [← e1.length, Nat.add_mul, Nat.one_mul]
    · rw [List.flatten_append]
      simp only [List.flatten_cons, List.flatten_nil, List.append_nil]
      rw [Nat.add_mul, Nat.one_mul, List.take_add, List.drop_drop]
      exact h4.app (by rw [← hseg]; exact e2)
    · have := hcell (es.length - 1) (by omega)
      rw [List.getElem?_eq_getElem (by omega)] at this
      have := (Array.getElem?_eq_some_iff.1 this).1
      rw [Nat.add_mul, Nat.one_mul]; omega
theorem open_fs {r : TypeId → Option (List Kd)} {sz : TypeId → Nat} {rd : TypeId → List Value → Prop} (hr : ∀ t ks cs, r t = some ks → rd t cs → ∃ xs, All2 (XR W) xs cs ∧ All2 XK ks xs) {cs : List Value} :
    ∀ {fs : List Field} {o : Nat} {ks : List Kd}, kindsFs r sz fs o = some ks → (∀ f ∈ fs, rd f.type ((cs.drop f.offset).take (sz f.type))) → ∃ xs, All2 (XR W) xs ((cs.drop o).take ks.length) ∧ All2 XK ks xs
  | [], o, ks, h, _ => by cases h; exact ⟨[], by simp; exact .nil, .nil⟩
  | f :: fs, o, ks, h, hf => by
    unfold kindsFs at h
    by_cases ho : f.offset = o
    · rw [if_pos ho] at h
      cases ha : r f.type with
      | none => rw [ha] at h; cases h
      | some a =>
        rw [ha] at h
        have h' : (if sz f.type = a.length then (kindsFs r sz fs (o + a.length)).map (a ++ ·) else none) = some ks := h
        by_cases hs : sz f.type = a.length
        · rw [if_pos hs] at h'
          cases hq : kindsFs r sz fs (o + a.length) with
          | none => rw [hq] at h'; cases h'
          | some bs =>
            rw [hq] at h'
            cases h'
            obtain ⟨xs, x1, x2⟩ := hr _ _ _ ha (hf f (List.mem_cons_self ..))
            obtain ⟨ys, y1, y2⟩ := open_fs hr hq fun g hg => hf g (List.mem_cons_of_mem _ hg)
            rw [hs, ho] at x1
            refine ⟨xs ++ ys, ?_, x2.app y2⟩
            rw [List.length_append, List.take_add, List.drop_drop]
            exact x1.app y1
        · rw [if_neg hs] at h'; cases h'
    · rw [if_neg ho] at h; cases h
theorem open_trod : ∀ (n : Nat) {t : TypeId} {ks : List Kd} {m : Nat} {cs : List Value} {x : DataW H × List MemPlace}, kindsOf P n t = some ks → DataW.trod enc P W 0 (fun _ => true) held m t cs = some x → ∃ xs, All2 (XR W) xs cs ∧ All2 XK ks xs
  | 0, _, _, _, _, _, h, _ => by cases h
  | n + 1, t, ks, m, cs, x, h, hx => by
    unfold kindsOf at h
    cases hu : P.underlying t with
    | none => rw [hu] at h; cases h
    | some d =>
      rw [hu] at h
      cases d with
      | bool =>
        cases h
        obtain ⟨b, rfl, _⟩ := DataW.trod_bool hu hx
        exact ⟨[.bool b], .cons rfl .nil, .cons trivial .nil⟩
      | int k =>
        cases h
        obtain ⟨i, rfl, _, hw⟩ := DataW.trod_int hu hx
        exact ⟨[.int k i], .cons ⟨rfl, wf_fits hw⟩ .nil, .cons rfl .nil⟩
      | string =>
        cases h
        obtain ⟨s, rfl, _, hw⟩ := DataW.trod_string hu hx
        exact ⟨[.str s], .cons rfl .nil, .cons trivial .nil⟩
      | struct fs =>
        have h1 : (match kindsFs (kindsOf P n) P.cellsOf fs.toList 0 with
          | some ks => if P.cellsOf t = ks.length then some ks else none
          | none => none) = some ks := h
        cases hq : kindsFs (kindsOf P n) P.cellsOf fs.toList 0 with
        | none => rw [hq] at h1; cases h1
        | some ks' =>
          rw [hq] at h1
          have h2 : (if P.cellsOf t = ks'.length then some ks' else none) = some ks := h1
          by_cases hs : P.cellsOf t = ks'.length
          · rw [if_pos hs] at h2
            cases h2
            obtain ⟨ys, m', rfl, _, hl, hyl, hf⟩ := DataW.trod_struct hu hx
            obtain ⟨xs, x1, x2⟩ := open_fs (W := W) (rd := fun t cs => ∃ m x, DataW.trod enc P W 0 (fun _ => true) held m t cs = some x) (fun t ks cs h1 h2 => by obtain ⟨m, x, h2⟩ := h2; exact open_trod n h1 h2) (cs := cs) hq fun f hf' => by
              obtain ⟨i, hi⟩ := List.mem_iff_getElem?.1 hf'
              have hi' : fs[i]? = some f := by simpa using hi
              have h3 := hf i f hi'
              have hlt : i < ys.length := by rw [hyl]; exact (Array.getElem?_eq_some_iff.1 hi').1
              rw [List.getElem?_eq_getElem hlt] at h3
              exact ⟨_, _, h3⟩
            refine ⟨xs, ?_, x2⟩
            rw [List.drop_zero, List.take_of_length_le (by omega)] at x1
            exact x1
          · rw [if_neg hs] at h2; cases h2
      | slice e =>
        have h1 : (match kindsOf P n e with
          | some ks => match plKs ks with
            | some es => if P.cellsOf e = es.length ∧ 0 < es.length then some [Kd.sl es] else none
            | none => none
          | none => none) = some ks := h
        cases hq : kindsOf P n e with
        | none => rw [hq] at h1; cases h1
        | some qs =>
          rw [hq] at h1
          have h2 : (match plKs qs with
            | some es => if P.cellsOf e = es.length ∧ 0 < es.length then some [Kd.sl es] else none
            | none => none) = some ks := h1
          cases hp : plKs qs with
          | none => rw [hp] at h2; cases h2
          | some es =>
            rw [hp] at h2
            have h3 : (if P.cellsOf e = es.length ∧ 0 < es.length then some [Kd.sl es] else none) = some ks := h2
            by_cases hs : P.cellsOf e = es.length ∧ 0 < es.length
            · rw [if_pos hs] at h3
              cases h3
              have hqs := plKs_eq hp
              subst hqs
              rcases DataW.trod_slice hu hx with ⟨rfl, _⟩ | ⟨a, len, cap, elems, rest, m', rfl, rfl, _, _, hlc, hcm, hel, hat, hrest, _⟩
              · exact ⟨[.nilS], .cons rfl .nil, .cons trivial .nil⟩
              · obtain ⟨hrl, hrat⟩ := hrest rfl
                rw [hs.1] at hat hrat
                -- where there is room the address is whole
                have hany : ∀ i, i < cap → ∃ cs y, W.cells? 0 (a.add (i * es.length)) es.length = some cs ∧ DataW.trod enc P W 0 (fun _ => true) held m' e cs = some y := fun i hi => by
                  have : ∃ y, (W.cells? 0 (a.add (i * es.length)) es.length).bind (DataW.trod enc P W 0 (fun _ => true) held m' e) = some y := by
                    by_cases hil : i < len
                    · have := hat i hil
                      rw [List.getElem?_eq_getElem (by omega)] at this
                      exact ⟨_, this⟩
                    · have := hrat (i - len) (by omega)
                      rw [List.getElem?_eq_getElem (by omega), show len + (i - len) = i by omega] at this
                      exact ⟨_, this⟩
                  obtain ⟨y, hy⟩ := this
                  cases hc : W.cells? 0 (a.add (i * es.length)) es.length with
                  | none => rw [hc] at hy; cases hy
                  | some cs => rw [hc] at hy; exact ⟨cs, y, rfl, hy⟩
                by_cases hc0 : cap = 0
                · have hl0 : len = 0 := by omega
                  subst hl0
                  exact ⟨[.sl a cap []], .cons ⟨rfl, Nat.zero_le _, hcm, .inr hc0, fun h => absurd rfl h⟩ .nil, .cons (by intro el hel; cases hel) .nil⟩
                · have hfirst : ∃ v, W.cell? a = some v := by
                    obtain ⟨cs, y, h4, _⟩ := hany 0 (by omega)
                    obtain ⟨l1, l2⟩ := cells?_at h4
                    have := l2 0 hs.2
                    rw [List.getElem?_eq_getElem (by omega), Nat.zero_mul] at this
                    exact ⟨_, this⟩
                  obtain ⟨v, hv⟩ := hfirst
                  unfold World.cell? at hv
                  cases hb : W.heap[a.block]? with
                  | none => rw [hb] at hv; cases hv
                  | some o =>
                    rw [hb] at hv
                    cases o with
                    | cells c tt fr =>
                      have hsp : a.spot = none := by
                        cases hq : a.spot with
                        | none => rfl
                        | some z => rw [hq] at hv; cases hv
                      obtain ⟨b, o, sp⟩ := a
                      have : sp = none := hsp
                      subst this
                      obtain ⟨els, q1, q2, q3, q4, q5⟩ := els_of (W := W) (r := fun cs => ∃ y, DataW.trod enc P W 0 (fun _ => true) held m' e cs = some y) (es := es) (fun cs h => by
                        obtain ⟨y, hy⟩ := h
                        obtain ⟨xs, x1, x2⟩ := open_trod n hq hy
                        exact plain_cells x1 x2) (o := o) hb len fun i hi => by
                          obtain ⟨cs, y, h4, h5⟩ := hany i (by omega)
                          exact ⟨cs, h4, y, h5⟩
                      refine ⟨[.sl ⟨b, o, none⟩ cap els], .cons ⟨by rw [q1], by omega, hcm, .inl rfl, fun hne => ⟨c, tt, fr, hb, ?_, by rw [q3]; exact q4⟩⟩ .nil, .cons q2 .nil⟩
                      rw [q3]
                      refine q5 ?_ hs.2
                      rw [← q1]; exact List.length_pos_iff.2 hne
                    | _ => cases hv
            · rw [if_neg hs] at h3; cases h3
      | _ => cases h
end
end
end Go.Abs

/- What a law is called with, as a memory; what follows of a call. -/
namespace Go.Abs
noncomputable section

/-- cell i of all that a law is called with -/
def cOf (i : Nat) : X → C
  | .int k n => .int k n
  | .bool b => .bool b
  | .str s => .str s
  | .nilS => .sl0
  | .sl a cap els => .sl i a.off els.length 0 (some cap)
def vwOf : X → Option (Nat × List C)
  | .sl _ _ [] => none
  | .sl a _ (e :: es) => some (a.off, (e :: es).flatten)
  | _ => none
def blkOf : X → Option Nat
  | .sl a _ _ => some a.block
  | _ => none
def elsOf : X → List (List C)
  | .sl _ _ els => els
  | _ => []
def isS : X → Prop
  | .sl .. => True
  | .nilS => True
  | _ => False
def envOf (W : World) (all : List X) : Env := { ρ := fun k => (all[k]?).bind blkOf, sz := fun _ => 0, es := fun _ => 0, base := W.heap }
def memOf (all : List X) : M := { nxt := all.length, g := fun _ => none, vw := fun k => (all[k]?).bind vwOf }
def csOf : Nat → List X → List C
  | _, [] => []
  | i, x :: xs => cOf i x :: csOf (i + 1) xs
theorem cr_of {W : World} {all : List X} {i : Nat} {x : X} {v : Value} (hi : all[i]? = some x) (hx : XR W x v) : CR (envOf W all) (cOf i x) v := by
  cases x with
  | int k n => exact hx.1
  | bool b => exact hx
  | str s => exact hx
  | nilS => exact hx
  | sl a cap els =>
    obtain ⟨rfl, h1, h2, h3, _⟩ := hx
    exact ⟨a.block, a.spot, by show (all[i]?).bind blkOf = _; rw [hi]; rfl, rfl, h1, h2, h3⟩
theorem crs_of {W : World} {all : List X} : ∀ {xs : List X} {cs : List Value} {i : Nat}, (∀ j x, xs[j]? = some x → all[i + j]? = some x) → All2 (XR W) xs cs → All2 (CR (envOf W all)) (csOf i xs) cs
  | [], _, _, _, h => by cases h; exact .nil
  | x :: xs, _, i, ha, h => by
    cases h with
    | cons h1 h2 => exact .cons (cr_of (by simpa using ha 0 x rfl) h1) (crs_of (fun j y hj => by have := ha (j + 1) y (by simpa using hj); rw [show i + 1 + j = i + (j + 1) by omega]; exact this) h2)
theorem hr_of {W : World} {all : List X} (h : ∀ (i : Nat) x, all[i]? = some x → ∃ v, XR W x v) : HR (envOf W all) (toH (memOf all)) W := by
  refine ⟨fun b hb => ?_, fun b o hb => (by cases hb), fun b b' o o' c hb => (by cases hb), Nat.le_refl _, fun b o c hb => (by cases hb), fun c cs t fr hc => hc, fun b q hq => ?_⟩
  · show (all[b]?).bind blkOf = none
    rw [List.getElem?_eq_none (show all.length ≤ b from hb)]; rfl
  · have hq : (all[b]?).bind vwOf = some q := hq
    cases hx : all[b]? with
    | none => rw [hx] at hq; cases hq
    | some x =>
      rw [hx] at hq
      obtain ⟨v, hv⟩ := h b x hx
      cases x with
      | sl a cap els =>
        cases els with
        | nil => cases hq
        | cons e es =>
          cases hq
          obtain ⟨_, _, _, _, h5⟩ := hv
          obtain ⟨c, t, fr, h6, h7, h8⟩ := h5 (by simp)
          exact ⟨a.block, c, t, fr, by show (all[b]?).bind blkOf = _; rw [hx]; rfl, h6, h7, h8.mono fun _ _ hp => hp _⟩
      | _ => cases hq
theorem flatten_len {els : List (List C)} {k : Nat} (h : ∀ el ∈ els, el.length = k) : els.flatten.length = els.length * k := by
  induction els with
  | nil => simp
  | cons e es ih =>
    rw [List.flatten_cons, List.length_append, ih fun el hel => h el (List.mem_cons_of_mem _ hel), h e (List.mem_cons_self ..), List.length_cons, Nat.add_mul, Nat.one_mul, Nat.add_comm]
/-- a slice that the law is called with -/
theorem ls_of {all : List X} {i k : Nat} {x : X} (hi : all[i]? = some x) (hs : isS x) (hk : ∀ el ∈ elsOf x, el.length = k) : Ls (memOf all) k (cOf i x) (elsOf x).flatten (elsOf x).length := by
  refine ⟨(flatten_len hk).symm, ?_⟩
  cases x with
  | nilS => exact .inl ⟨rfl, rfl⟩
  | sl a cap els =>
    refine .inr ⟨i, a.off, 0, some cap, rfl, (List.getElem?_eq_some_iff.1 hi).1, fun hne => .inr ⟨rfl, (a.off, els.flatten), ?_, Nat.le_refl _, ?_, ?_⟩⟩
    · show (all[i]?).bind vwOf = _
      rw [hi]
      cases els with
      | nil => exact absurd rfl hne
      | cons e es => rfl
    · show a.off - a.off + els.flatten.length ≤ els.flatten.length
      omega
    · show (els.flatten.drop (a.off - a.off)).take els.flatten.length = els.flatten
      rw [Nat.sub_self, List.drop_zero, List.take_of_length_le (Nat.le_refl _)]
  | _ => cases hs
/-- what a call comes to -/
theorem call_of {P : Program} (hP : Fits P) {T : List (Nat × Bool)} (hT : TabOk P T) {f : FuncId} {args : List V} {m : M} {Q : V → M → Prop} (h : Wc P T f args m Q) {e : Env} {w : World} (hr : HR e (toH m) w) {args' : Array Value} (ha : All2 (VR e) args args'.toList) (n : Nat) :
    CallsIn Fence.wide n P f args' w fun en w' => ∃ v v' e' m', en = .returned v' ∧ Step e (toH m) w e' (toH m') w' ∧ VR e' v v' ∧ Q v m' := by
  obtain ⟨k, ex, tm, m', h1, h2⟩ := h
  have hv : ∃ v, ex = .val v ∧ Q v m' := by
    cases ex with
    | val v => exact ⟨v, rfl, h2⟩
    | _ => exact h2.elim
  obtain ⟨v, rfl, hq⟩ := hv
  have hs := (evT_sound hP hT k).call f args e3 (toH m) e w args' hr ha (by rw [h1]; trivial)
  refine (hs.2 n).mono fun en w' hp => ?_
  obtain ⟨u, v', tm', e', h', q1, q2, q3, q4, q5⟩ := hp
  rw [h1] at q2
  obtain ⟨r1, _, r2⟩ := leaf_ok q2
  cases r1; subst r2
  exact ⟨_, v', e', m', q1, q3, q5, hq⟩
/-- below what lay there at first nothing is changed -/
theorem below_of {W W' : World} {all : List X} {e' : Env} {h' : H} (hs : Step (envOf W all) (toH (memOf all)) W e' h' W') : RowKit.Below W.heap.size W W' :=
  ⟨hs.os, hs.tape, hs.output, hs.size, fun k hk => hs.keep k hk fun b o hb => by cases hb⟩
theorem kept_of {W W' : World} {all : List X} {e' : Env} {h' : H} (hs : Step (envOf W all) (toH (memOf all)) W e' h' W') (may : MemPlace → Prop) : W.keptBut W' may := by
  refine ⟨hs.os, hs.output, fun i hi => ?_⟩
  rw [hs.keep i hi (fun b o hb => by cases hb)]
  cases W.heap[i]? with
  | none => rfl
  | some o => cases o <;> first | exact ⟨rfl, rfl, rfl, fun _ _ => rfl⟩ | exact Or.inr ⟨rfl, rfl⟩ | rfl
/-- an argument of more cells than one -/
theorem agg_of {v : Value} {W : World} {xs : List X} (h : All2 (XR W) xs v.cells.toList) (hn : xs.length ≠ 1) : ∃ cs, v = .agg cs ∧ All2 (XR W) xs cs.toList := by
  cases v with
  | agg cs => exact ⟨cs, rfl, h⟩
  | _ => exact absurd (by simpa [Value.cells] using h.length) hn
/-! ### which kinds there are -/
theorem xk_int {k : IntKind} {x : X} (h : XK (.pl (.int k)) x) : ∃ n, x = .int k n := by
  cases x with
  | int k' n => have : k' = k := h; subst this; exact ⟨n, rfl⟩
  | _ => cases h
theorem xk_bool {x : X} (h : XK (.pl .bool) x) : ∃ b, x = .bool b := by
  cases x with
  | bool b => exact ⟨b, rfl⟩
  | _ => cases h
theorem xk_sl {es : List Pk} {x : X} (h : XK (.sl es) x) : isS x ∧ ∀ el ∈ elsOf x, All2 PkC es el := by
  cases x with
  | nilS => exact ⟨trivial, fun el hel => by cases hel⟩
  | sl a cap els => exact ⟨trivial, h⟩
  | _ => cases h
theorem pk_int {k : IntKind} {c : C} (h : PkC (.int k) c) : ∃ n, c = .int k n ∧ fitsP k n := by
  cases c with
  | int k' n => obtain ⟨rfl, h2⟩ := h; exact ⟨n, rfl, h2⟩
  | _ => cases h
theorem pk_bool {c : C} (h : PkC .bool c) : ∃ b, c = .bool b := by
  cases c with
  | bool b => exact ⟨b, rfl⟩
  | _ => cases h
/-- elements of one number each -/
theorem els_ints {els : List (List C)} (h : ∀ el ∈ els, All2 PkC [.int .i64] el) : ∃ L : List Int, els = L.map (fun v => [C.int .i64 v]) ∧ ∀ v ∈ L, fitsP .i64 v := by
  induction els with
  | nil => exact ⟨[], rfl, by simp⟩
  | cons e es ih =>
    obtain ⟨L, h1, h2⟩ := ih fun el hel => h el (List.mem_cons_of_mem _ hel)
    have he := h e (List.mem_cons_self ..)
    cases he with
    | cons q1 q2 =>
      cases q2
      obtain ⟨n, rfl, hf⟩ := pk_int q1
      exact ⟨n :: L, by rw [h1]; rfl, fun v hv => (List.mem_cons.1 hv).elim (fun h => h ▸ hf) (h2 v)⟩
theorem ints_flat (L : List Int) : (L.map (fun v => [C.int .i64 v])).flatten = ints L := by
  induction L with
  | nil => rfl
  | cons v L ih => rw [List.map_cons, List.flatten_cons, ih]; rfl
/-- a slice of numbers that a law is called with -/
theorem li_of {all : List X} {i : Nat} {x : X} (hi : all[i]? = some x) (hk : XK (.sl [.int .i64]) x) : ∃ L : List Int, Li (memOf all) (cOf i x) L ∧ ∀ v ∈ L, fitsP .i64 v := by
  obtain ⟨hs, he⟩ := xk_sl hk
  obtain ⟨L, h1, h2⟩ := els_ints he
  have := ls_of hi hs (k := 1) fun el hel => (he el hel).length.symm
  rw [h1, ints_flat, List.length_map] at this
  exact ⟨L, this, h2⟩
theorem xr_some {W : World} {xs : List X} {cs : List Value} (h : All2 (XR W) xs cs) (i : Nat) (x : X) (hx : xs[i]? = some x) : ∃ v, XR W x v := by
  obtain ⟨v, _, hv⟩ := h.get hx
  exact ⟨v, hv⟩
end
end Go.Abs
