/- What functions of the program ask and do. Condition: none; a lemma text of this claim. -/
import Derived.Test.YtbhdgedghfibcaaTab
import Derived.KernelRfl
import Derived.ProofKit

namespace Go.Abs
noncomputable section
/-- m' is m but for block b -/
structure St1 (m m' : M) (b : Nat) : Prop where
  nxt : m'.nxt = m.nxt
  vw : m'.vw = m.vw
  g : ∀ b', b' ≠ b → m'.g b' = m.g b'
theorem St1.of_set {m m' : M} {b : Nat} {o : AO} (h : m' = m.set b o) : St1 m m' b := by
  subst h
  exact ⟨rfl, rfl, fun b' hb => by rw [M.g_set, if_neg hb]⟩
theorem Ext.st1 {m0 m m' : M} {b : Nat} (e : Ext m0 m) (s : St1 m m' b) (hb : m0.nxt ≤ b) : Ext m0 m' := ⟨by rw [s.nxt]; exact e.nxt, fun b' hb' => (s.g b' (by omega)).trans (e.g b' hb'), s.vw.trans e.vw⟩
theorem Bk.sto {m : M} {b n : Nat} {ws : List C} (h : Bk m b n ws) (vs : List C) : ∃ m', stC m (.ptr b 0) n vs = some m' ∧ Bk m' b n vs ∧ St1 m m' b := ⟨_, h.st vs, h.set vs, .of_set rfl⟩
theorem Bk.sto1 {m : M} {b n : Nat} {vs : List C} (h : Bk m b n vs) (k : Nat) (c : C) (hk : k < vs.length) (hn : vs.length = n) : ∃ m', stC m (.ptr b k) 1 [c] = some m' ∧ Bk m' b n (vs.set k c) ∧ St1 m m' b := by
  by_cases h1 : n = 1
  · subst h1
    have hk0 : k = 0 := by omega
    subst hk0
    have : vs.set 0 c = [c] := by
      match vs, hn with
      | [a], _ => rfl
    exact ⟨_, stC_of h.g [c], by rw [this]; exact h.set _, .of_set rfl⟩
  · exact ⟨_, stC_at h.g c hk hn h1, h.set _, .of_set rfl⟩
/-- a cell of a slice of one's own -/
theorem Own1.sto {m : M} {k n : Nat} {x : C} {vs : List C} (h : Own1 m k x vs n) (i : Nat) (c : C) (hi : i < vs.length) (h1 : 1 < vs.length) :
    ∃ b s d m', x = .sl b 0 n s d ∧ b < m.nxt ∧ (slB x = none ∨ slB x = some b) ∧ stC m (.ptr b i) 1 [c] = some m' ∧ Own1 m' k x (vs.set i c) n ∧ St1 m m' b := by
  have hl := h.len
  have hx := h.own
  cases hx with
  | nil h2 h3 => rw [h3] at hi; simp at hi
  | grown b hg hb => exact ⟨b, k, none, _, rfl, hb, .inr rfl, stC_at hg c hi (by omega) (by omega), ⟨by rw [List.length_set]; exact hl, .grown b (by rw [M.g_set, if_pos rfl]) hb⟩, .of_set rfl⟩
  | lit b hg hb => exact ⟨b, 0, some n, _, rfl, hb, .inl rfl, stC_at hg c hi (by omega) (by omega), ⟨by rw [List.length_set]; exact hl, .lit b (by rw [M.g_set, if_pos rfl]) hb⟩, .of_set rfl⟩
end
end Go.Abs

namespace Go.Abs
set_option maxRecDepth 100000
noncomputable section
variable {P : Program}
/-- what lies in f lies in m -/
structure Sub (f m : M) : Prop where
  nxt : f.nxt ≤ m.nxt
  vw : m.vw = f.vw
  g : ∀ b, b < f.nxt → (f.g b ≠ none ∨ f.vw b ≠ none) → m.g b = f.g b
theorem Sub.refl (m : M) : Sub m m := ⟨Nat.le_refl _, rfl, fun _ _ _ => rfl⟩
theorem Sub.trans {a b c : M} (h : Sub a b) (h' : Sub b c) : Sub a c := ⟨Nat.le_trans h.nxt h'.nxt, h'.vw.trans h.vw, fun x hx hn => by
  have h1 := h.g x hx hn
  rw [← h1]
  exact h'.g x (Nat.lt_of_lt_of_le hx h.nxt) (by rw [h1, h.vw]; exact hn)⟩
theorem Sub.of_ext {m m' : M} (h : Ext m m') : Sub m m' := ⟨h.nxt, h.vw, fun b hb _ => h.g b hb⟩
/-- the same, but there may be more to read in m -/
structure SubV (f m : M) : Prop where
  nxt : f.nxt ≤ m.nxt
  vw : ∀ b, b < f.nxt → m.vw b = f.vw b
  g : ∀ b, b < f.nxt → (f.g b ≠ none ∨ f.vw b ≠ none) → m.g b = f.g b
theorem Sub.v {f m : M} (h : Sub f m) : SubV f m := ⟨h.nxt, fun b _ => by rw [h.vw], h.g⟩
theorem SubV.refl (m : M) : SubV m m := (Sub.refl m).v
theorem SubV.trans {a b c : M} (h : SubV a b) (h' : SubV b c) : SubV a c := ⟨Nat.le_trans h.nxt h'.nxt, fun x hx => (h'.vw x (Nat.lt_of_lt_of_le hx h.nxt)).trans (h.vw x hx), fun x hx hn => by
  have h1 := h.g x hx hn
  rw [← h1]
  exact h'.g x (Nat.lt_of_lt_of_le hx h.nxt) (by rw [h1, h.vw x hx]; exact hn)⟩
theorem Seg.to' {m m' : M} {b o : Nat} {vs : List C} (h : Seg m b o vs) (hg : m'.g b = m.g b) (hv : m'.vw b = m.vw b) : Seg m' b o vs := by
  unfold Seg
  rw [hg, hv]
  exact h
theorem Seg.subv {f m : M} {b o : Nat} {vs : List C} (h : Seg f b o vs) (hb : b < f.nxt) (s : SubV f m) : Seg m b o vs := by
  refine h.to' ?_ (s.vw b hb)
  rcases h with ⟨n, ws, op, h1, _⟩ | ⟨h1, q, h2, _⟩
  · exact s.g b hb (.inl (by rw [h1]; exact Option.some_ne_none _))
  · exact s.g b hb (.inr (by rw [h2]; exact Option.some_ne_none _))
theorem Ls.subv {f m : M} {k n : Nat} {x : C} {vs : List C} (h : Ls f k x vs n) (s : SubV f m) : Ls m k x vs n := by
  refine ⟨h.len, ?_⟩
  rcases h.val with h1 | ⟨b, o, t, c, h1, h2, h3⟩
  · exact .inl h1
  · exact .inr ⟨b, o, t, c, h1, Nat.lt_of_lt_of_le h2 s.nxt, fun h0 => (h3 h0).subv h2 s⟩
theorem Ls.sub {f m : M} {k n : Nat} {x : C} {vs : List C} (h : Ls f k x vs n) (s : Sub f m) : Ls m k x vs n := h.subv s.v
/-- a type of values, and how they lie in memory -/
class Rp (α : Type) where
  k : Nat
  pos : 0 < k
  rep : M → List C → α → Prop
  len : ∀ {m : M} {cs : List C} {a : α}, rep m cs a → cs.length = k
  subv : ∀ {f m : M} {cs : List C} {a : α}, rep f cs a → SubV f m → rep m cs a
theorem Rp.sub {α : Type} [Rp α] {f m : M} {cs : List C} {a : α} (h : Rp.rep f cs a) (s : Sub f m) : Rp.rep m cs a := Rp.subv h s.v
/-- one after the other -/
def Cat {α : Type} [Rp α] (f : M) : List C → List α → Prop
  | vs, [] => vs = []
  | vs, a :: l => ∃ c r, vs = c ++ r ∧ Rp.rep f c a ∧ Cat f r l
variable {α β : Type} [Rp α] [Rp β]
theorem Cat.subv {f m : M} (s : SubV f m) : ∀ {l : List α} {vs : List C}, Cat f vs l → Cat m vs l
  | [], _, h => h
  | _ :: _, _, ⟨c, r, h1, h2, h3⟩ => ⟨c, r, h1, Rp.subv h2 s, Cat.subv s h3⟩
theorem Cat.sub {f m : M} (s : Sub f m) {l : List α} {vs : List C} (h : Cat f vs l) : Cat m vs l := Cat.subv s.v h
theorem Cat.len {f : M} : ∀ {l : List α} {vs : List C}, Cat f vs l → l.length * Rp.k α = vs.length
  | [], _, h => by have h : _ = [] := h; rw [h]; simp
  | _ :: l, _, ⟨c, r, h1, h2, h3⟩ => by rw [h1, List.length_append, Rp.len h2, ← Cat.len h3, List.length_cons, Nat.add_mul, Nat.one_mul, Nat.add_comm]
theorem Cat.app {f : M} : ∀ {l l' : List α} {vs vs' : List C}, Cat f vs l → Cat f vs' l' → Cat f (vs ++ vs') (l ++ l')
  | [], _, _, _, h, h' => by have h : _ = [] := h; rw [h]; exact h'
  | _ :: _, _, _, _, ⟨c, r, h1, h2, h3⟩, h' => ⟨c, r ++ _, by rw [h1, List.append_assoc], h2, Cat.app h3 h'⟩
theorem Cat.one {f : M} {cs : List C} {a : α} (h : Rp.rep f cs a) : Cat f cs [a] := ⟨cs, [], by simp, h, rfl⟩
theorem Cat.at {f : M} : ∀ {l : List α} {vs : List C}, Cat f vs l → ∀ {n : Nat} {a : α}, l[n]? = some a → n * Rp.k α + Rp.k α ≤ vs.length ∧ Rp.rep f ((vs.drop (n * Rp.k α)).take (Rp.k α)) a
  | [], _, _, n, a, hn => by simp at hn
  | x :: l, _, ⟨c, r, h1, h2, h3⟩, 0, a, hn => by
    have : x = a := by simpa using hn
    subst this
    have hl := Rp.len h2
    refine ⟨by rw [h1, List.length_append]; omega, ?_⟩
    rw [Nat.zero_mul, List.drop_zero, h1, List.take_append_of_le_length (by omega), List.take_of_length_le (by omega)]; exact h2
  | x :: l, _, ⟨c, r, h1, h2, h3⟩, n + 1, a, hn => by
    have hl := Rp.len h2
    obtain ⟨q1, q2⟩ := Cat.at h3 (n := n) (a := a) (by simpa using hn)
    refine ⟨by rw [h1, List.length_append, Nat.add_mul, Nat.one_mul]; omega, ?_⟩
    rw [h1, Nat.add_mul, Nat.one_mul, show n * Rp.k α + Rp.k α = c.length + n * Rp.k α by omega, ← List.drop_drop, List.drop_left' rfl]; exact q2
/-- a slice of n elements, of k cells each, that can be sliced -/
def slOk (x : C) (k n : Nat) : Prop := (x = .sl0 ∧ n = 0) ∨ (∃ b o s c, x = .sl b o n s (some c) ∧ n ≤ c) ∨ ∃ b o, x = .sl b o n k none
/-- a slice with these elements -/
def Sl (f : M) (x : C) (l : List α) : Prop := ∃ vs, Ls f (Rp.k α) x vs l.length ∧ Cat f vs l ∧ slOk x (Rp.k α) l.length
theorem Sl.subv {f m : M} {x : C} {l : List α} (h : Sl f x l) (s : SubV f m) : Sl m x l := h.elim fun vs h => ⟨vs, h.1.subv s, Cat.subv s h.2.1, h.2.2⟩
theorem Sl.sub {f m : M} {x : C} {l : List α} (h : Sl f x l) (s : Sub f m) : Sl m x l := h.subv s.v
theorem Sl.slLen {f : M} {x : C} {l : List α} (h : Sl f x l) : slLen x = l.length := h.elim fun _ h => h.1.slLen
theorem Sl.isSl {f : M} {x : C} {l : List α} (h : Sl f x l) : isSl x := h.elim fun _ h => h.1.isSl
theorem Sl.noFn {f : M} {x : C} {l : List α} (h : Sl f x l) : noFnC x = true := h.elim fun _ h => h.1.noFn
theorem Sl.nil (f : M) : Sl f .sl0 ([] : List α) := ⟨[], Ls.nil f _, rfl, .inl ⟨rfl, rfl⟩⟩
instance : Rp Int := ⟨1, by omega, fun _ cs a => cs = [.int .i64 a], fun h => by rw [h]; rfl, fun h _ => h⟩
instance : Rp Bool := ⟨1, by omega, fun _ cs a => cs = [.bool a], fun h => by rw [h]; rfl, fun h _ => h⟩
instance : Rp (List α) := ⟨1, by omega, fun f cs a => ∃ c, cs = [c] ∧ Sl f c a, fun ⟨_, h, _⟩ => by rw [h]; rfl, fun ⟨c, h, h2⟩ s => ⟨c, h, h2.subv s⟩⟩
/-- an element by its number -/
def idx {α : Type} (l : List α) (i : Int) : Option α := if 0 ≤ i then l[i.toNat]? else none
theorem idx_some {α : Type} {l : List α} {i : Int} {a : α} (h : idx l i = some a) : ∃ n : Nat, i = (n : Int) ∧ n < l.length ∧ l[n]? = some a := by
  unfold idx at h
  by_cases h0 : 0 ≤ i
  · rw [if_pos h0] at h
    exact ⟨i.toNat, by omega, (List.getElem?_eq_some_iff.1 h).1, h⟩
  · rw [if_neg h0] at h; cases h
theorem idx_nat {α : Type} (l : List α) (n : Nat) : idx l (n : Int) = l[n]? := by unfold idx; rw [if_pos (Int.natCast_nonneg n)]; rfl
/-- a function's frame: memory at the call, and the blocks of before that it may write -/
structure Fm where
  m : M
  B : Nat → Prop
def Fm.of (m : M) : Fm := ⟨m, fun _ => False⟩
/-- all is as it was but what may be written, and what is new -/
structure FExt (F : Fm) (m : M) : Prop where
  nxt : F.m.nxt ≤ m.nxt
  g : ∀ b, b < F.m.nxt → ¬ F.B b → m.g b = F.m.g b
  vw : m.vw = F.m.vw
theorem FExt.trans {F : Fm} {m m' : M} (h : FExt F m) (e : Ext m m') : FExt F m' := ⟨Nat.le_trans h.nxt e.nxt, fun b hb hB => (e.g b (Nat.lt_of_lt_of_le hb h.nxt)).trans (h.g b hb hB), e.vw.trans h.vw⟩
/-- F: the frame; f0: what lay there for good; f: what lies there for good now; m: memory now -/
structure St (F : Fm) (f0 f m : M) : Prop where
  ext : FExt F m
  sub : Sub f m
  fz : ∀ b, f.nxt ≤ b → f.g b = none
  fv : ∀ b, f.nxt ≤ b → f.vw b = none
  v0 : ∀ b, F.m.nxt ≤ b ∨ F.B b → f.vw b = none
  fs : Sub f0 f
  old : ∀ b, b < F.m.nxt → ¬ F.B b → f.g b = f0.g b
/-- what a call asks of memory -/
structure Pre (f m : M) : Prop where
  sub : Sub f m
  fz : ∀ b, f.nxt ≤ b → f.g b = none
  fv : ∀ b, f.nxt ≤ b → f.vw b = none
theorem Pre.stB {f m : M} (h : Pre f m) (B : Nat → Prop) (hB : ∀ b, B b → f.vw b = none) : St ⟨m, B⟩ f f m := ⟨⟨Nat.le_refl _, fun _ _ _ => rfl, rfl⟩, h.sub, h.fz, h.fv, fun b hb => hb.elim (fun hb => h.fv b (Nat.le_trans h.sub.nxt hb)) (hB b), .refl f, fun _ _ _ => rfl⟩
theorem Pre.st {f m : M} (h : Pre f m) : St (Fm.of m) f f m := h.stB _ fun _ h => h.elim
theorem St.ext' {m0 f0 f m : M} (h : St (Fm.of m0) f0 f m) : Ext m0 m := ⟨h.ext.nxt, fun b hb => h.ext.g b hb fun h => h, h.ext.vw⟩
theorem St.pre {F : Fm} {f0 f m : M} (h : St F f0 f m) : Pre f m := ⟨h.sub, h.fz, h.fv⟩
/-- what a call hands back: memory, and what lies there for good -/
structure Grw (m f m' f' : M) : Prop where
  ext : Ext m m'
  fsub : Sub f f'
  pre : Pre f' m'
  old : ∀ b, b < m.nxt → f'.g b = f.g b
theorem St.grw {m0 f0 f m : M} (h : St (Fm.of m0) f0 f m) : Grw m0 f0 m f := ⟨h.ext', h.fs, h.pre, fun b hb => h.old b hb fun h => h⟩
/-- a step: blocks with a tag of X may have changed -/
structure Kp (τ : Nat → Nat) (f m : M) (τ' : Nat → Nat) (f' m' : M) (X : List Nat) : Prop where
  nxt : m.nxt ≤ m'.nxt
  tg : ∀ b, b < m.nxt → τ' b = τ b
  g : ∀ b, b < m.nxt → τ b ∉ X → m'.g b = m.g b
  fg : ∀ b, b < m.nxt → τ b ∉ X → f'.g b = f.g b
  fs : Sub f f'
  vw : m'.vw = m.vw
/-- a block of one's own, with a tag -/
structure Lb (F : Fm) (f : M) (τ : Nat → Nat) (m : M) (t b n : Nat) (vs : List C) : Prop where
  bk : Bk m b n vs
  new : F.m.nxt ≤ b ∨ F.B b
  nf : f.g b = none
  tg : τ b = t
theorem Lb.k {F : Fm} {f f' m m' : M} {τ τ' : Nat → Nat} {t b n : Nat} {vs : List C} {X : List Nat} (h : Lb F f τ m t b n vs) (k : Kp τ f m τ' f' m' X) (hx : t ∉ X) : Lb F f' τ' m' t b n vs := by
  have hx : τ b ∉ X := by rw [h.tg]; exact hx
  exact ⟨⟨(k.g b h.bk.lt hx).trans h.bk.g, Nat.lt_of_lt_of_le h.bk.lt k.nxt⟩, h.new, (k.fg b h.bk.lt hx).trans h.nf, (k.tg b h.bk.lt).trans h.tg⟩
/-- another tag for a block -/
def tagAt (τ : Nat → Nat) (b t : Nat) : Nat → Nat := fun j => if j = b then t else τ j
theorem St.new {F : Fm} {f0 f m m' : M} (s : St F f0 f m) {o : AO} (h : m' = m.new o) (τ : Nat → Nat) (t : Nat) : St F f0 f m' ∧ Kp τ f m (tagAt τ m.nxt t) f m' [] := by
  subst h
  refine ⟨⟨s.ext.trans (.new m o), s.sub.trans (.of_ext (.new m o)), s.fz, s.fv, s.v0, s.fs, s.old⟩, ⟨Nat.le_succ _, fun b hb => if_neg (by omega), fun b hb _ => by rw [M.g_new, if_neg (by omega)], fun _ _ _ => rfl, .refl f, rfl⟩⟩
theorem St.blk {F : Fm} {f0 f m m' : M} (s : St F f0 f m) {n : Nat} {vs : List C} (h : m' = m.new (.cells n vs false)) (τ : Nat → Nat) (t : Nat) : ∃ τ', St F f0 f m' ∧ Kp τ f m τ' f m' [] ∧ Lb F f τ' m' t m.nxt n vs := by
  obtain ⟨h1, h2⟩ := s.new h τ t
  exact ⟨_, h1, h2, ⟨(Bk.new h).1, .inl s.ext.nxt, s.fz _ s.sub.nxt, if_pos rfl⟩⟩
/-- a call, that hands back plain values -/
theorem St.call {F : Fm} {f0 f m m' : M} (s : St F f0 f m) (e : Ext m m') (τ : Nat → Nat) : St F f0 f m' ∧ Kp τ f m τ f m' [] :=
  ⟨⟨s.ext.trans e, s.sub.trans (.of_ext e), s.fz, s.fv, s.v0, s.fs, s.old⟩, ⟨e.nxt, fun _ _ => rfl, fun b hb _ => e.g b hb, fun _ _ _ => rfl, .refl f, e.vw⟩⟩
/-- a call, that hands back what lies in memory -/
theorem St.callG {F : Fm} {f0 f m m' f' : M} (s : St F f0 f m) (g : Grw m f m' f') (τ : Nat → Nat) : St F f0 f' m' ∧ Kp τ f m τ f' m' [] :=
  ⟨⟨s.ext.trans g.ext, g.pre.sub, g.pre.fz, g.pre.fv, fun b hb => by rw [g.fsub.vw]; exact s.v0 b hb, s.fs.trans g.fsub, fun b hb hB => (g.old b (Nat.lt_of_lt_of_le hb s.ext.nxt)).trans (s.old b hb hB)⟩, ⟨g.ext.nxt, fun _ _ => rfl, fun b hb _ => g.ext.g b hb, fun b hb _ => g.old b hb, g.fsub, g.ext.vw⟩⟩
theorem not_frozen {f m m' : M} (hs : Sub f m) (hn : m.nxt ≤ m'.nxt) (hv : m'.vw = m.vw) {X : Nat → Prop} (hX : ∀ b, X b → f.g b = none ∧ f.vw b = none) (hg : ∀ b', b' < m.nxt → ¬ X b' → m'.g b' = m.g b') : Sub f m' := by
  refine ⟨Nat.le_trans hs.nxt hn, hv.trans hs.vw, fun b' hb' hd => ?_⟩
  rw [hg b' (Nat.lt_of_lt_of_le hb' hs.nxt) fun h => hd.elim (fun h2 => h2 (hX _ h).1) fun h2 => h2 (hX _ h).2]
  exact hs.g b' hb' hd
/-- blocks of one's own have changed -/
theorem St.chg {F : Fm} {f0 f m m' : M} (s : St F f0 f m) {X : Nat → Prop} (hX : ∀ b, X b → (F.m.nxt ≤ b ∨ F.B b) ∧ f.g b = none) (hn : m.nxt ≤ m'.nxt) (hv : m'.vw = m.vw) (hg : ∀ b', b' < m.nxt → ¬ X b' → m'.g b' = m.g b') : St F f0 f m' :=
  ⟨⟨Nat.le_trans s.ext.nxt hn, fun b hb hB => (hg b (Nat.lt_of_lt_of_le hb s.ext.nxt) fun h => (hX b h).1.elim (fun h => by omega) hB).trans (s.ext.g b hb hB), hv.trans s.ext.vw⟩,
    not_frozen s.sub hn hv (fun b h => ⟨(hX b h).2, s.v0 b (hX b h).1⟩) hg, s.fz, s.fv, s.v0, s.fs, s.old⟩
/-- a store into a block of one's own -/
theorem St.st1 {F : Fm} {f0 f m m' : M} (s : St F f0 f m) {τ : Nat → Nat} {t b n : Nat} {vs ws : List C} (h : Lb F f τ m t b n vs) (hb : Bk m' b n ws) (h1 : St1 m m' b) : St F f0 f m' ∧ Kp τ f m τ f m' [t] ∧ Lb F f τ m' t b n ws :=
  ⟨s.chg (X := fun b' => b' = b) (fun b' h' => by subst h'; exact ⟨h.new, h.nf⟩) (by rw [h1.nxt]; exact Nat.le_refl _) h1.vw fun b' _ hne => h1.g b' hne,
    ⟨by rw [h1.nxt]; exact Nat.le_refl _, fun _ _ => rfl, fun b' _ hx => h1.g b' fun he => hx (by rw [he, h.tg]; exact List.mem_cons_self ..), fun _ _ _ => rfl, .refl f, h1.vw⟩, ⟨hb, h.new, h.nf, h.tg⟩⟩
theorem Lb.sto {F : Fm} {f0 f m : M} {τ : Nat → Nat} {t b n : Nat} {vs : List C} (h : Lb F f τ m t b n vs) (s : St F f0 f m) (ws : List C) : ∃ m', stC m (.ptr b 0) n ws = some m' ∧ St F f0 f m' ∧ Kp τ f m τ f m' [t] ∧ Lb F f τ m' t b n ws := by
  obtain ⟨m', h1, h2, h3⟩ := h.bk.sto ws
  exact ⟨m', h1, s.st1 h h2 h3⟩
theorem Lb.sto1 {F : Fm} {f0 f m : M} {τ : Nat → Nat} {t b n : Nat} {vs : List C} (h : Lb F f τ m t b n vs) (s : St F f0 f m) (k : Nat) (c : C) (hk : k < vs.length) (hn : vs.length = n) : ∃ m', stC m (.ptr b k) 1 [c] = some m' ∧ St F f0 f m' ∧ Kp τ f m τ f m' [t] ∧ Lb F f τ m' t b n (vs.set k c) := by
  obtain ⟨m', h1, h2, h3⟩ := h.bk.sto1 k c hk hn
  exact ⟨m', h1, s.st1 h h2 h3⟩
structure Ow (F : Fm) (f : M) (τ : Nat → Nat) (m : M) (t : Nat) (x : C) (l : List α) : Prop where
  own : ∃ vs, Own1 m (Rp.k α) x vs l.length ∧ Cat f vs l
  nw : ∀ b o n s d, x = .sl b o n s d → (F.m.nxt ≤ b ∨ F.B b) ∧ f.g b = none ∧ τ b = t
theorem Ow.nil (F : Fm) (f : M) (τ : Nat → Nat) (m : M) (t : Nat) : Ow F f τ m t .sl0 ([] : List α) := ⟨⟨[], Own1.nil' m _, rfl⟩, fun _ _ _ _ _ h => by cases h⟩
theorem Ow.lt {F : Fm} {f m : M} {τ : Nat → Nat} {t : Nat} {x : C} {l : List α} (h : Ow F f τ m t x l) {b o n s : Nat} {d : Option Nat} (hx : x = .sl b o n s d) : b < m.nxt := h.own.elim fun _ h => h.1.lt hx
theorem Ow.k {F : Fm} {f f' m m' : M} {τ τ' : Nat → Nat} {t : Nat} {x : C} {l : List α} {X : List Nat} (h : Ow F f τ m t x l) (k : Kp τ f m τ' f' m' X) (hx : t ∉ X) : Ow F f' τ' m' t x l := by
  have hx' : ∀ b o n s d, x = .sl b o n s d → τ b ∉ X := fun b o n s d he => by rw [(h.nw b o n s d he).2.2]; exact hx
  obtain ⟨vs, h1, h2⟩ := h.own
  refine ⟨⟨vs, h1.to k.nxt fun b hb he => ?_, h2.sub k.fs⟩, fun b o n s d he => ?_⟩
  · obtain ⟨s, d, he⟩ := he
    exact k.g b hb (hx' _ _ _ _ _ he)
  · obtain ⟨q1, q2, q3⟩ := h.nw b o n s d he
    have hlt := h.lt he
    exact ⟨q1, (k.fg b hlt (hx' _ _ _ _ _ he)).trans q2, (k.tg b hlt).trans q3⟩
theorem Ow.slLen {F : Fm} {f m : M} {τ : Nat → Nat} {t : Nat} {x : C} {l : List α} (h : Ow F f τ m t x l) : slLen x = l.length := h.own.elim fun _ h => h.1.ls.slLen
theorem Ow.isSl {F : Fm} {f m : M} {τ : Nat → Nat} {t : Nat} {x : C} {l : List α} (h : Ow F f τ m t x l) : isSl x := h.own.elim fun _ h => h.1.ls.isSl
theorem slB_sl {x : C} {b : Nat} (h : slB x = some b) : ∃ o n s, x = .sl b o n s none := by
  cases x with
  | sl b' o n s d =>
    cases d with
    | none => have h : some b' = some b := h; cases h; exact ⟨o, n, s, rfl⟩
    | some d => cases h
  | _ => cases h
/-- append of elements that lie in memory -/
theorem Ow.appS {T el : Nat} (ht : tk P T = .sl el) (hgr : growOk P el = true) (hk : P.cellsOf el = Rp.k α) {F : Fm} {f0 f m m1 : M} (s : St F f0 f m) {τ : Nat → Nat} {t : Nat} {x y : C} {l l2 : List α} (h : Ow F f τ m t x l) (e : Ext m m1) {ws : List C} (hy : Ls m1 (Rp.k α) y ws l2.length) (hc : Cat f ws l2) (hj : 0 < l2.length) (hlen : l.length + l2.length ≤ 1048576) :
    ∃ c m2 τ', ApR P T m1 x y c m2 ∧ St F f0 f m2 ∧ Kp τ f m τ' f m2 [t] ∧ Ow F f τ' m2 t c (l ++ l2) := by
  obtain ⟨vs, h1, h2⟩ := h.own
  obtain ⟨m2, q1, q2, q3, q4, q5⟩ := ap_own ht hgr hk (h1.ext e) hy hj Rp.pos hlen
  have hg : ∀ b, b < m.nxt → slB x ≠ some b → m2.g b = m.g b := fun b hb hx => by
    have := e.nxt
    rw [q5 b (by omega) hx]; exact e.g b hb
  have hn : m.nxt ≤ m2.nxt := by have := e.nxt; omega
  refine ⟨_, m2, tagAt τ m1.nxt t, q1, s.chg (X := fun b => slB x = some b) (fun b hb => ?_) hn (q4.trans e.vw) hg, ⟨hn, fun b hb => if_neg (by have := e.nxt; omega), fun b hb hx => hg b hb fun he => ?_, fun _ _ _ => rfl, .refl f, q4.trans e.vw⟩, ⟨⟨_, by rw [List.length_append]; exact q2, h2.app hc⟩, fun b o n s' d he => ?_⟩⟩
  · obtain ⟨o, n, s', he⟩ := slB_sl hb
    exact ⟨(h.nw _ _ _ _ _ he).1, (h.nw _ _ _ _ _ he).2.1⟩
  · obtain ⟨o, n, s', he⟩ := slB_sl he
    exact hx (by rw [(h.nw _ _ _ _ _ he).2.2]; exact List.mem_cons_self ..)
  · cases he
    have h9 : m.nxt ≤ m1.nxt := e.nxt
    exact ⟨.inl (Nat.le_trans s.ext.nxt h9), s.fz _ (Nat.le_trans s.sub.nxt h9), if_pos rfl⟩
/-- append of one element -/
theorem Ow.app {T el : Nat} (ht : tk P T = .sl el) (hgr : growOk P el = true) (hk : P.cellsOf el = Rp.k α) {F : Fm} {f0 f m m1 : M} (s : St F f0 f m) {τ : Nat → Nat} {t : Nat} {x : C} {l : List α} (h : Ow F f τ m t x l) {cs : List C} {a : α} (hr : Rp.rep f cs a) (hlen : l.length < 1048576) (e : m1 = m.new (.cells (Rp.k α) cs false)) :
    ∃ c m2 τ', ApR P T m1 x (.sl m.nxt 0 1 0 (some 1)) c m2 ∧ St F f0 f m2 ∧ Kp τ f m τ' f m2 [t] ∧ Ow F f τ' m2 t c (l ++ [a]) := by
  obtain ⟨b1, x1⟩ := Bk.new e
  exact h.appS (P := P) ht hgr hk s x1 (Ls.one b1.g (Rp.len hr) b1.lt 0 (some 1)) (Cat.one hr) (by simp) (by show l.length + 1 ≤ _; omega)
/-- from now on it stays as it is -/
theorem Ow.freeze {F : Fm} {f0 f m : M} (s : St F f0 f m) {τ : Nat → Nat} {t : Nat} {x : C} {l : List α} (h : Ow F f τ m t x l) : ∃ f', St F f0 f' m ∧ Kp τ f m τ f' m [t] ∧ Sl f' x l := by
  obtain ⟨vs, h1, h2⟩ := h.own
  have hq : ∀ {b n k : Nat} {c : Option Nat} {op : Bool}, x = .sl b 0 n k c → m.g b = some (.cells (n * Rp.k α) vs op) → b < m.nxt → n = l.length → slOk x (Rp.k α) l.length → ∃ f', St F f0 f' m ∧ Kp τ f m τ f' m [t] ∧ Sl f' x l := by
    intro b n k c op hx hg hb hnl hok
    obtain ⟨w1, w2, w3⟩ := h.nw _ _ _ _ _ hx
    let f' : M := { nxt := m.nxt, g := fun j => if j = b then m.g b else f.g j, vw := f.vw }
    have hf' : ∀ j, j ≠ b → f'.g j = f.g j := fun j hj => if_neg hj
    have hfb : f'.g b = m.g b := if_pos rfl
    have hsub : Sub f f' := ⟨s.sub.nxt, rfl, fun j hj hd => hf' j fun he => by
      subst he
      exact hd.elim (fun h => h w2) fun h => h (s.v0 _ w1)⟩
    refine ⟨f', ⟨s.ext, ⟨Nat.le_refl _, s.sub.vw, fun j hj hd => ?_⟩, fun j hj => ?_, fun j hj => ?_, s.v0, s.fs.trans hsub, fun j hj hB => (hf' j fun he => by subst he; exact w1.elim (fun h => by omega) hB).trans (s.old j hj hB)⟩, ⟨Nat.le_refl _, fun _ _ => rfl, fun _ _ _ => rfl, fun j hj hx => hf' j fun he => hx (by rw [he, w3]; exact List.mem_cons_self ..), hsub, rfl⟩, vs, ⟨h1.len, .inr ⟨b, 0, k, c, by rw [hx, hnl], hb, fun _ => .inl ⟨_, vs, op, hfb.trans hg, ?_, ?_, ?_⟩⟩⟩, h2.sub hsub, hok⟩
    · by_cases he : j = b
      · rw [he, hfb]
      · rw [hf' j he] at hd ⊢
        by_cases hjf : j < f.nxt
        · exact s.sub.g j hjf hd
        · exact (hd.elim (fun h => h (s.fz j (by omega))) fun h => h (s.fv j (by omega))).elim
    · have h9 : m.nxt ≤ j := hj
      rw [hf' j (by omega)]
      exact s.fz j (Nat.le_trans s.sub.nxt h9)
    · have h9 : m.nxt ≤ j := hj
      exact s.fv j (Nat.le_trans s.sub.nxt h9)
    · have := h1.len; rw [hnl]; omega
    · have := h1.len; rw [hnl]; omega
    · rw [List.drop_zero, List.take_of_length_le (Nat.le_refl _)]
  cases h1.own with
  | nil h3 h4 =>
    have : l = [] := List.eq_nil_of_length_eq_zero h3
    subst this
    exact ⟨f, s, ⟨Nat.le_refl _, fun _ _ => rfl, fun _ _ _ => rfl, fun _ _ _ => rfl, .refl f, rfl⟩, Sl.nil f⟩
  | grown b hg hb => exact hq rfl hg hb rfl (.inr (.inr ⟨b, 0, rfl⟩))
  | lit b hg hb => exact hq rfl hg hb rfl (.inr (.inl ⟨b, 0, 0, _, rfl, Nat.le_refl _⟩))
theorem Sl.rd1 {f : M} {x : C} {l : List α} (h : Sl f x l) (hk : Rp.k α = 1) {n : Nat} {a : α} (hi : l[n]? = some a) :
    ∃ c, (∀ m, Sub f m → ldC m (slAt x (n * 1)) = some c) ∧ Rp.rep f [c] a := by
  obtain ⟨vs, h4, h5, h5k⟩ := h
  obtain ⟨h6, h7⟩ := h5.at hi
  rw [hk] at h6 h7
  have hl : n * 1 < vs.length := by omega
  have hd : (vs.drop (n * 1)).take 1 = [vs[n * 1]] := by rw [List.drop_eq_getElem_cons hl]; rfl
  rw [hd] at h7
  exact ⟨_, fun m s => (h4.sub s).rd (List.getElem?_eq_getElem hl), h7⟩
theorem Sl.rdI {f : M} {x : C} {l : List Int} (h : Sl f x l) {n : Nat} {a : Int} (hi : l[n]? = some a) {m : M} (s : Sub f m) : ldC m (slAt x (n * 1)) = some (.int .i64 a) := by
  obtain ⟨c, h3, h4⟩ := h.rd1 rfl hi
  have h4 : [c] = [.int .i64 a] := h4
  cases h4
  exact h3 m s
theorem Sl.rdS {f : M} {x : C} {l : List (List α)} (h : Sl f x l) {n : Nat} {a : List α} (hi : l[n]? = some a) : ∃ c, (∀ m, Sub f m → ldC m (slAt x (n * 1)) = some c) ∧ Sl f c a := by
  obtain ⟨c, h3, c', h4, h5⟩ := h.rd1 rfl hi
  cases h4
  exact ⟨c, h3, h5⟩
theorem Sl.isPt {f : M} {x : C} {l : List α} (h : Sl f x l) {n : Nat} {a : α} (hi : l[n]? = some a) (i : Nat) : isPt (slAt x i) := by
  obtain ⟨vs, h4, h5, h5k⟩ := h
  exact h4.isPt (by have := (List.getElem?_eq_some_iff.1 hi).1; omega) i
theorem Sl.rdP {f : M} {x : C} {l : List α} (h : Sl f x l) {n : Nat} {a : α} (hi : l[n]? = some a) : ∃ cs, (∀ m, Sub f m → ldA m (slAt x (n * Rp.k α)) (Rp.k α) = some cs ∧ (∀ j c, cs[j]? = some c → ldC m (ptAdd (slAt x (n * Rp.k α)) j) = some c) ∧ ∀ j i, 0 < i → j + i ≤ Rp.k α → ldA m (ptAdd (slAt x (n * Rp.k α)) j) i = some ((cs.drop j).take i)) ∧ Rp.rep f cs a := by
  obtain ⟨vs, h4, h5, h5k⟩ := h
  obtain ⟨h6, h7⟩ := h5.at hi
  have hn : l.length ≠ 0 := by have := (List.getElem?_eq_some_iff.1 hi).1; omega
  refine ⟨_, fun m s => ⟨(h4.sub s).rds Rp.pos h6, fun j c hj => ?_, fun j i hi0 hji => ?_⟩, h7⟩
  · rw [h4.add hn]
    refine (h4.sub s).rd ?_
    rw [List.getElem?_take] at hj
    split at hj
    · rw [List.getElem?_drop] at hj; exact hj
    · cases hj
  · rw [h4.add hn, (h4.sub s).rds hi0 (by omega), ← List.drop_drop, List.drop_take, List.take_take, Nat.min_eq_left (by omega)]
theorem bsome {α β : Type} {o : Option α} {k : α → Option β} {r : β} (h : o.bind k = some r) : ∃ a, o = some a ∧ k a = some r := by
  cases o with
  | none => cases h
  | some a => exact ⟨a, rfl, h⟩
open Classical in
def gd {α : Type} (p : Prop) (x : Option α) : Option α := if p then x else none
theorem gd_some {α : Type} {p : Prop} {x : Option α} {r : α} (h : gd p x = some r) : p ∧ x = some r := by
  unfold gd at h
  by_cases hp : p
  · rw [if_pos hp] at h; exact ⟨hp, h⟩
  · rw [if_neg hp] at h; cases h
theorem gd_pos {α : Type} {p : Prop} {x : Option α} (h : p) : gd p x = x := if_pos h
theorem bif_neg {α : Type} {b : Bool} {x y : α} (h : b = false) : (if b = true then x else y) = y := by rw [h]; rfl
/-- a slice type, for append -/
def TA (P : Program) (t k : Nat) : Prop := ∃ el, tk P t = .sl el ∧ growOk P el = true ∧ P.cellsOf el = k
theorem Ow.app' {T : Nat} (ht : TA P T (Rp.k α)) {F : Fm} {f0 f m m1 : M} (s : St F f0 f m) {τ : Nat → Nat} {t : Nat} {x : C} {l : List α} (h : Ow F f τ m t x l) {cs : List C} {a : α} (hr : Rp.rep f cs a) (hlen : l.length < 1048576) (e : m1 = m.new (.cells (Rp.k α) cs false)) :
    ∃ c m2 τ', ApR P T m1 x (.sl m.nxt 0 1 0 (some 1)) c m2 ∧ St F f0 f m2 ∧ Kp τ f m τ' f m2 [t] ∧ Ow F f τ' m2 t c (l ++ [a]) := by
  obtain ⟨el, h1, h2, h3⟩ := ht
  exact h.app (P := P) h1 h2 h3 s hr hlen e
theorem Ow.lit0 {F : Fm} {f0 f m m1 : M} (s : St F f0 f m) (τ : Nat → Nat) (t : Nat) (e : m1 = m.new (.cells 0 [] false)) : ∃ τ', St F f0 f m1 ∧ Kp τ f m τ' f m1 [] ∧ Ow F f τ' m1 t (.sl m.nxt 0 0 0 (some 0)) ([] : List α) := by
  obtain ⟨τ', h1, h2, h3⟩ := s.blk e τ t
  refine ⟨τ', h1, h2, ⟨[], ⟨by simp, .lit _ ?_ h3.bk.lt⟩, rfl⟩, fun b o n s d he => by cases he; exact ⟨h3.new, h3.nf, h3.tg⟩⟩
  have := h3.bk.g
  show m1.g m.nxt = some (.cells (0 * Rp.k α) [] false)
  rw [Nat.zero_mul]; exact this
theorem Ow.appL {T : Nat} (ht : TA P T (Rp.k α)) {F : Fm} {f0 f m : M} (s : St F f0 f m) {τ : Nat → Nat} {t : Nat} {x y : C} {l l2 : List α} (h : Ow F f τ m t x l) (hy : Sl f y l2) (hlen : l.length + l2.length ≤ 1048576) :
    ∃ c m2 τ', ApR P T m x y c m2 ∧ St F f0 f m2 ∧ Kp τ f m τ' f m2 [t] ∧ Ow F f τ' m2 t c (l ++ l2) := by
  obtain ⟨el, h1, h2, h3⟩ := ht
  obtain ⟨ws, q1, q2, _⟩ := hy
  by_cases hj : 0 < l2.length
  · exact h.appS (P := P) h1 h2 h3 s (.refl m) (q1.sub s.sub) q2 hj hlen
  · have hl2 : l2 = [] := List.eq_nil_of_length_eq_zero (by omega)
    subst hl2
    have hw : ws = [] := q2
    subst hw
    obtain ⟨vs, o1, o2⟩ := h.own
    refine ⟨x, m, τ, ap_none h1 h2 h3 o1 (q1.sub s.sub), s, ⟨Nat.le_refl _, fun _ _ => rfl, fun _ _ _ => rfl, fun _ _ _ => rfl, .refl f, rfl⟩, by rw [List.append_nil]; exact h⟩
theorem nf_cons {c : C} {l : List C} (h : noFnC c = true) (h2 : allS noFnC l = true) : allS noFnC (c :: l) = true := by
  show ifB (noFnC c) (allS noFnC l) false = true
  rw [h, h2]; rfl
theorem nf_nil : allS noFnC ([] : List C) = true := rfl
theorem cC0_ok {c : C} (h : noFnC c = true) : ∃ x, cC0 c = some x ∧ c0C x = c := by
  cases c with
  | fn f a b => cases h
  | ptr0 => exact ⟨_, rfl, rfl⟩
  | sl b o n s c => exact ⟨_, rfl, rfl⟩
  | map r => exact ⟨_, rfl, rfl⟩
  | ptr b o => exact ⟨_, rfl, rfl⟩
  | _ => first | exact ⟨_, rfl, rfl⟩ | cases h
theorem cC0s_ok : ∀ {l : List C}, allS noFnC l = true → ∃ xs, mapO cC0 l = some xs ∧ mapS c0C xs = l
  | [], _ => ⟨[], rfl, rfl⟩
  | c :: l, h => by
    have h : ifB (noFnC c) (allS noFnC l) false = true := h
    cases hc : noFnC c with
    | false => rw [hc] at h; cases h
    | true =>
      rw [hc] at h
      obtain ⟨x, h1, h2⟩ := cC0_ok hc
      obtain ⟨xs, h3, h4⟩ := cC0s_ok h
      refine ⟨x :: xs, ?_, ?_⟩
      · show optB (cC0 c) none (fun y => optB (mapO cC0 l) none fun ys => some (y :: ys)) = _
        rw [h1, h3]; rfl
      · show c0C x :: mapS c0C xs = _
        rw [h2, h4]
theorem vW_c {c : C} (h : noFnC c = true) : ∃ w, vW (.c c) = some w ∧ wV w = .c c := by
  obtain ⟨x, h1, h2⟩ := cC0_ok h
  refine ⟨.c x, ?_, ?_⟩
  · show optB (cC0 c) none (fun x => some (W.c x)) = _
    rw [h1]; rfl
  · show V.c (c0C x) = _
    rw [h2]
theorem vW_agg {n : Nat} {l : List C} (h : allS noFnC l = true) : ∃ w, vW (.agg n l) = some w ∧ wV w = .agg n l := by
  obtain ⟨xs, h1, h2⟩ := cC0s_ok h
  refine ⟨.agg n xs, ?_, ?_⟩
  · show optB (mapO cC0 l) none (fun xs => some (W.agg n xs)) = _
    rw [h1]; rfl
  · show V.agg n (mapS c0C xs) = _
    rw [h2]
theorem vWs_nil : ∃ ws, mapO vW [] = some ws ∧ mapS wV ws = [] := ⟨[], rfl, rfl⟩
theorem vWs_cons {v : V} {l : List V} (h : ∃ w, vW v = some w ∧ wV w = v) (h2 : ∃ ws, mapO vW l = some ws ∧ mapS wV ws = l) : ∃ ws, mapO vW (v :: l) = some ws ∧ mapS wV ws = v :: l := by
  obtain ⟨w, h3, h4⟩ := h
  obtain ⟨ws, h5, h6⟩ := h2
  refine ⟨w :: ws, ?_, ?_⟩
  · show optB (vW v) none (fun y => optB (mapO vW l) none fun ys => some (y :: ys)) = _
    rw [h3, h5]; rfl
  · show wV w :: mapS wV ws = _
    rw [h4, h6]
theorem Bk.sub {f m : M} {b n : Nat} {vs : List C} (h : Bk f b n vs) (s : Sub f m) : Bk m b n vs :=
  ⟨(s.g b h.lt (.inl (by rw [h.g]; exact Option.some_ne_none _))).trans h.g, Nat.lt_of_lt_of_le h.lt s.nxt⟩
/-- a block that is left as it is from now on -/
theorem Lb.freeze {F : Fm} {f0 f m : M} {τ : Nat → Nat} {t b n : Nat} {vs : List C} (h : Lb F f τ m t b n vs) (s : St F f0 f m) : ∃ f', St F f0 f' m ∧ Kp τ f m τ f' m [t] ∧ Bk f' b n vs := by
  let f' : M := { nxt := m.nxt, g := fun j => if j = b then m.g b else f.g j, vw := f.vw }
  have hf' : ∀ j, j ≠ b → f'.g j = f.g j := fun j hj => if_neg hj
  have hfb : f'.g b = m.g b := if_pos rfl
  have hsub : Sub f f' := ⟨s.sub.nxt, rfl, fun j hj hd => hf' j fun he => by
    subst he
    exact hd.elim (fun h' => h' h.nf) fun h' => h' (s.v0 _ h.new)⟩
  have hbm := h.bk.lt
  have hnew := h.new
  refine ⟨f', ⟨s.ext, ⟨Nat.le_refl _, s.sub.vw, fun j hj hd => ?_⟩, fun j hj => ?_, fun j hj => ?_, s.v0, s.fs.trans hsub, fun j hj hB => (hf' j fun he => by subst he; exact hnew.elim (fun h => by omega) hB).trans (s.old j hj hB)⟩, ⟨Nat.le_refl _, fun _ _ => rfl, fun _ _ _ => rfl, fun j hj hx => hf' j fun he => hx (by rw [he, h.tg]; exact List.mem_cons_self ..), hsub, rfl⟩, hfb.trans h.bk.g, hbm⟩
  · by_cases he : j = b
    · rw [he, hfb]
    · rw [hf' j he] at hd ⊢
      by_cases hjf : j < f.nxt
      · exact s.sub.g j hjf hd
      · exact (hd.elim (fun h => h (s.fz j (by omega))) fun h => h (s.fv j (by omega))).elim
  · have h9 : m.nxt ≤ j := hj
    rw [hf' j (by omega)]
    exact s.fz j (Nat.le_trans s.sub.nxt h9)
  · have h9 : m.nxt ≤ j := hj
    exact s.fv j (Nat.le_trans s.sub.nxt h9)
theorem Bk.sl {f : M} {b N n : Nat} {vs : List C} {l : List α} (h : Bk f b N vs) (hc : Cat f vs l) (hn : l.length = n) (hN : vs.length = N) (k : Nat) : Sl f (.sl b 0 n k (some n)) l := by
  have h3 := hc.len
  refine ⟨vs, ⟨h3, .inr ⟨b, 0, k, some n, by rw [hn], h.lt, fun _ => .inl ⟨N, vs, false, h.g, hN, by omega, by rw [List.drop_zero, List.take_of_length_le (Nat.le_refl _)]⟩⟩⟩, hc, .inr (.inl ⟨b, 0, k, n, by rw [hn], by omega⟩)⟩
/-- a block to be made -/
structure Rs (F : Fm) (f : M) (τ : Nat → Nat) (m : M) (t b : Nat) : Prop where
  new : F.m.nxt ≤ b ∨ F.B b
  nf : f.g b = none
  tg : τ b = t
  lt : b < m.nxt
theorem Rs.k {F : Fm} {f f' m m' : M} {τ τ' : Nat → Nat} {t b : Nat} {X : List Nat} (h : Rs F f τ m t b) (k : Kp τ f m τ' f' m' X) (hx : t ∉ X) : Rs F f' τ' m' t b := by
  have hx : τ b ∉ X := by rw [h.tg]; exact hx
  exact ⟨h.new, (k.fg b h.lt hx).trans h.nf, (k.tg b h.lt).trans h.tg, Nat.lt_of_lt_of_le h.lt k.nxt⟩
theorem St.grow {F : Fm} {f0 f m m' : M} (s : St F f0 f m) {k : Nat} (h : m' = mGrow m k) (τ : Nat → Nat) : St F f0 f m' ∧ Kp τ f m τ f m' [] := by
  subst h
  have hn : m.nxt ≤ (mGrow m k).nxt := Nat.le_add_right _ _
  exact ⟨s.chg (X := fun _ => False) (fun _ h => h.elim) hn rfl fun _ _ _ => rfl, ⟨hn, fun _ _ => rfl, fun _ _ _ => rfl, fun _ _ _ => rfl, .refl f, rfl⟩⟩
theorem Rs.set {F : Fm} {f0 f m m' : M} {τ : Nat → Nat} {t b n : Nat} {vs : List C} (h : Rs F f τ m t b) (s : St F f0 f m) (e : m' = m.set b (.cells n vs false)) : St F f0 f m' ∧ Kp τ f m τ f m' [t] ∧ Lb F f τ m' t b n vs := by
  have h1 : St1 m m' b := .of_set e
  refine ⟨s.chg (X := fun b' => b' = b) (fun b' h' => by subst h'; exact ⟨h.new, h.nf⟩) (by rw [h1.nxt]; exact Nat.le_refl _) h1.vw fun b' _ hne => h1.g b' hne,
    ⟨by rw [h1.nxt]; exact Nat.le_refl _, fun _ _ => rfl, fun b' _ hx => h1.g b' fun he => hx (by rw [he, h.tg]; exact List.mem_cons_self ..), fun _ _ _ => rfl, .refl f, h1.vw⟩, ⟨⟨?_, by rw [h1.nxt]; exact h.lt⟩, h.new, h.nf, h.tg⟩⟩
  rw [e, M.g_set, if_pos rfl]
theorem St.growK {F : Fm} {f0 f m m' : M} (s : St F f0 f m) {k : Nat} (h : m' = mGrow m k) (τ : Nat → Nat) (t : Nat) : ∃ τ', St F f0 f m' ∧ Kp τ f m τ' f m' [] ∧ ∀ i, i < k → Rs F f τ' m' (t + i) (m.nxt + i) := by
  obtain ⟨h1, h2⟩ := s.grow h τ
  refine ⟨fun b => if m.nxt ≤ b then t + (b - m.nxt) else τ b, h1, ⟨h2.nxt, fun b hb => if_neg (by omega), h2.g, h2.fg, h2.fs, h2.vw⟩, fun i hi => ⟨.inl (Nat.le_trans s.ext.nxt (Nat.le_add_right _ _)), s.fz _ (Nat.le_trans s.sub.nxt (Nat.le_add_right _ _)), ?_, ?_⟩⟩
  · show (if m.nxt ≤ m.nxt + i then t + (m.nxt + i - m.nxt) else _) = _
    rw [if_pos (by omega)]; omega
  · subst h
    show m.nxt + i < m.nxt + k
    omega
theorem Seg.part {m : M} {b o : Nat} {vs : List C} (h : Seg m b o vs) {a l : Nat} (hal : a + l ≤ vs.length) : Seg m b (o + a) ((vs.drop a).take l) := by
  have hlen : ((vs.drop a).take l).length = l := by rw [List.length_take, List.length_drop]; omega
  have key : ∀ (w : List C) (p n : Nat), a + l ≤ n → (((w.drop p).take n).drop a).take l = (w.drop (p + a)).take l := fun w p n hn => by rw [List.drop_take, List.take_take, List.drop_drop, Nat.min_eq_left (by omega)]
  have hsub : ∀ (w : List C) (p : Nat), (w.drop p).take vs.length = vs → (w.drop (p + a)).take l = (vs.drop a).take l := fun w p hw => by
    have := key w p vs.length hal
    rw [hw] at this
    exact this.symm
  rcases h with ⟨n, ws, op, h1, h2, h3, h4⟩ | ⟨h1, q, h2, h3, h4, h5⟩
  · exact .inl ⟨n, ws, op, h1, h2, by rw [hlen]; omega, by rw [hlen]; exact hsub ws o h4⟩
  · refine .inr ⟨h1, q, h2, by omega, by rw [hlen]; omega, ?_⟩
    rw [hlen, show o + a - q.1 = (o - q.1) + a by omega]
    exact hsub q.2 _ h5
theorem Cat.part {f : M} : ∀ {l : List α} {vs : List C}, Cat f vs l → ∀ (i : Nat), Cat f (vs.drop (i * Rp.k α)) (l.drop i) ∧ Cat f (vs.take (i * Rp.k α)) (l.take i)
  | [], _, h, i => by have h : _ = [] := h; rw [h]; simp [Cat]
  | a :: l, _, h, 0 => by rw [Nat.zero_mul, List.drop_zero, List.take_zero, List.drop_zero, List.take_zero]; exact ⟨h, rfl⟩
  | a :: l, _, ⟨c, r, h1, h2, h3⟩, i + 1 => by
    have hl := Rp.len h2
    obtain ⟨q1, q2⟩ := Cat.part h3 i
    rw [h1, Nat.add_mul, Nat.one_mul, show i * Rp.k α + Rp.k α = c.length + i * Rp.k α by omega, ← List.drop_drop, List.drop_left' rfl, List.take_length_add_append]
    exact ⟨q1, c, _, rfl, h2, q2⟩
end
end Go.Abs

namespace Go.Abs
set_option maxRecDepth 100000
noncomputable section
open Classical
variable {P : Program} {kt : TypeId} {κ : Type} {enc : κ → U}
/-- the keys of a map are like a type of ours -/
structure KeyLike (P : Program) (kt : TypeId) (enc : κ → U) : Prop where
  plain : ∃ ks, plainK P kt = some ks
  eq : ∀ a b : κ, eqV P kt (uV (enc a)) (uV (enc b)) = some (decide (a = b))
def Keys (enc : κ → U) (es : List E) : Prop := ∀ e ∈ es, ∃ a, e.k = enc a
def look (enc : κ → U) (es : List E) (a : κ) : Option U :=
  match es with
  | [] => none
  | e :: es => if e.k = enc a then some e.v else look enc es a
theorem KeyLike.inj (h : KeyLike P kt enc) {a b : κ} (he : enc a = enc b) : a = b := by
  have h1 := h.eq a b
  rw [he, h.eq b b] at h1
  simpa using h1
theorem vU_uV (u : U) : vU (uV u) = some u := by cases u <;> rfl
theorem find_look (h : KeyLike P kt enc) (a : κ) : ∀ {es : List E} (i : Nat), Keys enc es → ∃ r, findE P kt (uV (enc a)) es i = some r ∧ optB r none (fun q => some q.2) = look enc es a ∧
    ∀ yu : U, ∀ clock : Nat, Keys enc (optB r (appS es [{ k := enc a, v := yu, born := clock }]) fun q => setEntry (enc a) yu es (q.1 - i)) ∧
      (∀ b, look enc (optB r (appS es [{ k := enc a, v := yu, born := clock }]) fun q => setEntry (enc a) yu es (q.1 - i)) b = if b = a then some yu else look enc es b) ∧ (∀ q, r = some q → i ≤ q.1)
  | [], i, _ => by
    refine ⟨none, rfl, rfl, fun yu clock => ⟨?_, fun b => ?_, fun q hq => by cases hq⟩⟩
    · intro e he
      have : e = { k := enc a, v := yu, born := clock } := by simpa [appS, optB] using he
      exact ⟨a, by rw [this]⟩
    · show look enc [_] b = _
      unfold look
      by_cases hb : b = a
      · rw [if_pos hb, if_pos (by rw [hb])]
      · rw [if_neg hb, if_neg fun he => hb (h.inj he).symm]; rfl
  | e :: es, i, hk => by
    obtain ⟨a', ha'⟩ := hk e (List.mem_cons_self ..)
    have hk' : Keys enc es := fun e he => hk e (List.mem_cons_of_mem _ he)
    obtain ⟨r, hr, hl, hu⟩ := find_look h a (i + 1) hk'
    have he : findE P kt (uV (enc a)) (e :: es) i = optB (eqV P kt (uV (enc a)) (uV e.k)) none fun b => ifB b (some (some (i, e.v))) (findE P kt (uV (enc a)) es (i + 1)) := rfl
    rw [ha', h.eq] at he
    by_cases haa : a = a'
    · have he2 : findE P kt (uV (enc a)) (e :: es) i = some (some (i, e.v)) := by rw [he, decide_eq_true haa]; rfl
      refine ⟨_, he2, ?_, fun yu clock => ⟨?_, fun b => ?_, fun q hq => ?_⟩⟩
      · show some e.v = if e.k = enc a then some e.v else look enc es a
        rw [if_pos (by rw [ha', haa])]
      · show Keys enc (setEntry (enc a) yu (e :: es) (i - i))
        rw [Nat.sub_self]
        intro e' he'
        rcases List.mem_cons.1 he' with rfl | h2
        · exact ⟨a, rfl⟩
        · exact hk' _ h2
      · show look enc (setEntry (enc a) yu (e :: es) (i - i)) b = _
        rw [Nat.sub_self]
        show (if enc a = enc b then some yu else look enc es b) = if b = a then some yu else if e.k = enc b then some e.v else look enc es b
        by_cases hb : b = a
        · rw [if_pos hb, if_pos (by rw [hb])]
        · rw [if_neg hb, if_neg fun he => hb (h.inj he).symm, if_neg fun he => hb (by rw [ha'] at he; rw [haa]; exact (h.inj he).symm)]
      · cases hq; exact Nat.le_refl _
    · have he2 : findE P kt (uV (enc a)) (e :: es) i = some r := by rw [he, decide_eq_false haa]; exact hr
      refine ⟨r, he2, ?_, fun yu clock => ?_⟩
      · rw [hl]
        show look enc es a = if e.k = enc a then some e.v else look enc es a
        rw [if_neg fun h2 => haa (by rw [ha'] at h2; exact (h.inj h2).symm)]
      · obtain ⟨u1, u2, u3⟩ := hu yu clock
        have hcons : (optB r (appS (e :: es) [{ k := enc a, v := yu, born := clock }]) fun q => setEntry (enc a) yu (e :: es) (q.1 - i)) = e :: (optB r (appS es [{ k := enc a, v := yu, born := clock }]) fun q => setEntry (enc a) yu es (q.1 - (i + 1))) := by
          cases r with
          | none =>
            show consS e _ = _
            exact consS_eq e _
          | some q =>
            have := u3 q rfl
            show setEntry (enc a) yu (e :: es) (q.1 - i) = e :: setEntry (enc a) yu es (q.1 - (i + 1))
            rw [show q.1 - i = (q.1 - (i + 1)) + 1 by omega]
            show consS e _ = _
            exact consS_eq e _
        rw [hcons]
        refine ⟨fun e' he' => ?_, fun b => ?_, fun q hq => by have := u3 q hq; omega⟩
        · rcases List.mem_cons.1 he' with rfl | h2
          · exact ⟨a', ha'⟩
          · exact u1 _ h2
        · show (if e.k = enc b then some e.v else look enc _ b) = if b = a then some yu else if e.k = enc b then some e.v else look enc es b
          rw [u2]
          by_cases h3 : e.k = enc b
          · rw [if_pos h3, if_pos h3, if_neg fun h4 => haa (by rw [h4, ha'] at h3; exact (h.inj h3).symm)]
          · rw [if_neg h3, if_neg h3]
/-- a map's block -/
structure Mp (enc : κ → U) (m : M) (b : Nat) (f : κ → Option U) : Prop where
  ex : ∃ es clock, m.g b = some (.map es clock) ∧ Keys enc es ∧ ∀ a, look enc es a = f a
  lt : b < m.nxt
theorem Mp.new {m m0 : M} (h : m0 = m.new (.map [] 0)) : Mp enc m0 m.nxt (fun _ => none) ∧ Ext m m0 := by
  subst h
  exact ⟨⟨⟨[], 0, by rw [M.g_new, if_pos rfl], fun e he => (by cases he), fun _ => rfl⟩, by rw [M.nxt_new]; omega⟩, Ext.new m _⟩
theorem Mp.ext {m m' : M} {b : Nat} {f : κ → Option U} (h : Mp enc m b f) (e : Ext m m') : Mp enc m' b f := by
  obtain ⟨es, clock, h1, h2⟩ := h.ex
  exact ⟨⟨es, clock, (e.g b h.lt).trans h1, h2⟩, Nat.lt_of_lt_of_le h.lt e.nxt⟩
theorem Mp.lk (hK : KeyLike P kt enc) {m : M} {b : Nat} {f : κ → Option U} (h : Mp enc m b f) (a : κ) {k : V} (hk : k = uV (enc a)) : lkM P kt m (.map b) k = some (f a) := by
  subst hk
  obtain ⟨es, clock, h1, h2, h3⟩ := h.ex
  obtain ⟨ks, hp⟩ := hK.plain
  obtain ⟨r, hr, hl, _⟩ := find_look hK a 0 h2
  unfold lkM
  rw [hp, optB_some, hK.eq, optB_some, ← h3 a, ← hl]
  simp only [h1]
  rw [hr]; rfl
theorem Mp.up (hK : KeyLike P kt enc) {m : M} {b : Nat} {f : κ → Option U} (h : Mp enc m b f) (a : κ) (y : U) {k yv : V} (hk : k = uV (enc a)) (hy : yv = uV y) :
    ∃ o, upM P kt m (.map b) k yv = some (m.set b o) ∧ Mp enc (m.set b o) b (fun b => if b = a then some y else f b) := by
  subst hk hy
  obtain ⟨es, clock, h1, h2, h3⟩ := h.ex
  obtain ⟨ks, hp⟩ := hK.plain
  obtain ⟨r, hr, _, hu⟩ := find_look hK a 0 h2
  obtain ⟨u1, u2, _⟩ := hu y clock
  unfold upM
  rw [hp, optB_some]
  simp only [h1]
  rw [vU_uV, optB_some, vU_uV, optB_some, hK.eq, optB_some, hr, optB_some]
  cases r with
  | none => exact ⟨_, rfl, ⟨_, _, (by rw [M.g_set, if_pos rfl]; rfl), u1, fun b => by rw [u2, h3]⟩, h.lt⟩
  | some q => exact ⟨_, rfl, ⟨_, _, (by rw [M.g_set, if_pos rfl]; rfl), u1, fun b => by have := u2 b; rw [h3] at this; exact this⟩, h.lt⟩
end
end Go.Abs

namespace Go.Abs
set_option maxRecDepth 100000
noncomputable section
open Classical
variable {P : Program}
/-- types of keys -/
class MK (K : Type) where
  enc : K → U
  fit : K → Prop
/-- types of values -/
class MV (V : Type) where
  enc : V → U
instance : MV Int := ⟨fun a => .c (.int .i64 a)⟩
instance : MV Bool := ⟨fun a => .c (.bool a)⟩
def encK (K : Type) [MK K] (k : {k : K // MK.fit k}) : U := MK.enc k.1
/-- a map type of the program -/
def KL (P : Program) (kt : TypeId) (K : Type) [MK K] : Prop := KeyLike P kt (encK K)
variable {K V' : Type} [MK K] [MV V']
/-- a map: none: it is nil -/
def Mi (m : M) (c : C) (M : Option (K → Option V')) : Prop :=
  match M with
  | none => c = .map0
  | some f => ∃ b, c = .map b ∧ Mp (encK K) m b (fun k => (f k.1).map MV.enc)
def mget (M : Option (K → Option V')) (k : K) : Option V' := M.bind fun f => f k
def mset (M : Option (K → Option V')) (k : K) (v : V') : Option (Option (K → Option V')) := M.map fun f => some fun j => if j = k then some v else f j
/-- a map that may be written -/
structure Mo (F : Fm) (f : M) (τ : Nat → Nat) (m : M) (t : Nat) (c : C) (M : Option (K → Option V')) : Prop where
  mi : Mi m c M
  own : ∀ b, c = .map b → (F.m.nxt ≤ b ∨ F.B b) ∧ f.g b = none ∧ τ b = t ∧ b < m.nxt
theorem Mp.to {κ : Type} {enc : κ → U} {m m' : M} {b : Nat} {f : κ → Option U} (h : Mp enc m b f) (hn : m.nxt ≤ m'.nxt) (hg : m'.g b = m.g b) : Mp enc m' b f := by
  obtain ⟨es, clock, h1, h2⟩ := h.ex
  exact ⟨⟨es, clock, hg.trans h1, h2⟩, Nat.lt_of_lt_of_le h.lt hn⟩
theorem Mi.to {m m' : M} {c : C} {M : Option (K → Option V')} (h : Mi m c M) (hn : m.nxt ≤ m'.nxt) (hg : ∀ b, c = .map b → m'.g b = m.g b) : Mi m' c M := by
  cases M with
  | none => exact h
  | some f =>
    obtain ⟨b, h1, h2⟩ := h
    exact ⟨b, h1, h2.to hn (hg b h1)⟩
theorem Mo.k {F : Fm} {f f' m m' : M} {τ τ' : Nat → Nat} {t : Nat} {c : C} {M : Option (K → Option V')} {X : List Nat} (h : Mo F f τ m t c M) (k : Kp τ f m τ' f' m' X) (hx : t ∉ X) : Mo F f' τ' m' t c M := by
  have hX : ∀ b, c = .map b → τ b ∉ X := fun b hb => by rw [(h.own b hb).2.2.1]; exact hx
  refine ⟨h.mi.to k.nxt fun b hb => k.g b (h.own b hb).2.2.2 (hX b hb), fun b hb => ?_⟩
  obtain ⟨q1, q2, q3, q4⟩ := h.own b hb
  exact ⟨q1, (k.fg b q4 (hX b hb)).trans q2, (k.tg b q4).trans q3, Nat.lt_of_lt_of_le q4 k.nxt⟩
theorem Mo.new {F : Fm} {f0 f m m' : M} (s : St F f0 f m) (h : m' = m.new (.map [] 0)) (τ : Nat → Nat) (t : Nat) : ∃ τ', St F f0 f m' ∧ Kp τ f m τ' f m' [] ∧ Mo F f τ' m' t (.map m.nxt) (some fun _ => none : Option (K → Option V')) := by
  obtain ⟨h1, h2⟩ := s.new h τ t
  refine ⟨_, h1, h2, ⟨m.nxt, rfl, (Mp.new (enc := encK K) h).1⟩, fun b hb => ?_⟩
  cases hb
  exact ⟨.inl s.ext.nxt, s.fz _ s.sub.nxt, if_pos rfl, by rw [h, M.nxt_new]; omega⟩
theorem Mo.nil (F : Fm) (f : M) (τ : Nat → Nat) (m : M) (t : Nat) : Mo F f τ m t .map0 (none : Option (K → Option V')) := ⟨rfl, fun b hb => by cases hb⟩
theorem Mi.lk {kt : TypeId} (hK : KL P kt K) {m : M} {c : C} {M : Option (K → Option V')} (h : Mi m c M) {k : K} (hf : MK.fit k) {kv : V} (hk : kv = uV (MK.enc k)) : lkM P kt m c kv = some ((mget M k).map MV.enc) := by
  cases M with
  | none =>
    have h : c = .map0 := h
    subst h hk
    obtain ⟨ks, hp⟩ := KeyLike.plain hK
    unfold lkM
    rw [hp, optB_some, show eqV P kt (uV (MK.enc k)) (uV (MK.enc k)) = _ from hK.eq ⟨k, hf⟩ ⟨k, hf⟩, optB_some]
    rfl
  | some f =>
    obtain ⟨b, rfl, h2⟩ := h
    exact h2.lk hK ⟨k, hf⟩ hk
theorem Mo.up {kt : TypeId} (hK : KL P kt K) {F : Fm} {f0 f m : M} (s : St F f0 f m) {τ : Nat → Nat} {t : Nat} {c : C} {M M' : Option (K → Option V')} (h : Mo F f τ m t c M) {k : K} (hf : MK.fit k) {v : V'} (hM : mset M k v = some M') {kv yv : V} (hk : kv = uV (MK.enc k)) (hy : yv = uV (MV.enc v)) :
    ∃ m', upM P kt m c kv yv = some m' ∧ St F f0 f m' ∧ Kp τ f m τ f m' [t] ∧ Mo F f τ m' t c M' := by
  cases M with
  | none => cases hM
  | some g =>
    cases hM
    obtain ⟨b, rfl, h2⟩ := h.mi
    obtain ⟨q1, q2, q3, q4⟩ := h.own b rfl
    obtain ⟨o, h3, h4⟩ := h2.up hK ⟨k, hf⟩ (MV.enc v) hk hy
    have hne : ∀ b', b' ≠ b → (m.set b o).g b' = m.g b' := fun b' hb' => by rw [M.g_set, if_neg hb']
    refine ⟨_, h3, s.chg (X := fun b' => b' = b) (fun b' hb' => by subst hb'; exact ⟨q1, q2⟩) (Nat.le_refl _) rfl fun b' _ hb' => hne b' hb', ⟨Nat.le_refl _, fun _ _ => rfl, fun b' _ hx => hne b' fun he => hx (by rw [he, q3]; exact List.mem_cons_self ..), fun _ _ _ => rfl, .refl f, rfl⟩, ⟨b, rfl, ?_⟩, fun b' hb' => by cases hb'; exact ⟨q1, q2, q3, q4⟩⟩
    have e : (fun b' : {k : K // MK.fit k} => @ite (Option U) (b' = ⟨k, hf⟩) (propDecidable (b' = ⟨k, hf⟩)) (some (MV.enc v)) ((g b'.1).map MV.enc)) = fun k' => Option.map MV.enc (if k'.1 = k then some v else g k'.1) := by
      funext k'
      by_cases hkk : k'.1 = k
      · rw [if_pos (Subtype.ext hkk), if_pos hkk]; rfl
      · rw [if_neg fun h => hkk (congrArg Subtype.val h), if_neg hkk]
    exact e ▸ h4
/-- but for a map all is as it was -/
structure ExtB (c : C) (m m' : M) : Prop where
  nxt : m.nxt ≤ m'.nxt
  g : ∀ b, b < m.nxt → c ≠ .map b → m'.g b = m.g b
  vw : m'.vw = m.vw
/-- a map that a function is called with -/
structure Mc (f m : M) (c : C) (M : Option (K → Option V')) : Prop where
  mi : Mi m c M
  own : ∀ b, c = .map b → f.g b = none ∧ f.vw b = none ∧ b < m.nxt
/-- a map that a function hands back -/
structure Mn (m f' m' : M) (c : C) (M : Option (K → Option V')) : Prop where
  mi : Mi m' c M
  own : ∀ b, c = .map b → f'.g b = none ∧ m.nxt ≤ b ∧ b < m'.nxt
def Fm.mp (m : M) (c : C) : Fm := ⟨m, fun b => c = .map b⟩
theorem Pre.stM {f m : M} (h : Pre f m) {c : C} {M : Option (K → Option V')} (hc : Mc f m c M) : St (Fm.mp m c) f f m := h.stB _ fun b hb => (hc.own b hb).2.1
theorem Mc.mo {f m : M} {c : C} {M : Option (K → Option V')} (hc : Mc f m c M) (t : Nat) : Mo (Fm.mp m c) f (fun _ => t) m t c M := ⟨hc.mi, fun b hb => ⟨.inr hb, (hc.own b hb).1, rfl, (hc.own b hb).2.2⟩⟩
theorem St.extB {m0 f0 f m : M} {c : C} (h : St (Fm.mp m0 c) f0 f m) : ExtB c m0 m := ⟨h.ext.nxt, fun b hb hne => h.ext.g b hb hne, h.ext.vw⟩
theorem Mo.mc {F : Fm} {f0 f m : M} (s : St F f0 f m) {τ : Nat → Nat} {t : Nat} {c : C} {M : Option (K → Option V')} (h : Mo F f τ m t c M) : Mc f m c M := ⟨h.mi, fun b hb => ⟨(h.own b hb).2.1, s.v0 b (h.own b hb).1, (h.own b hb).2.2.2⟩⟩
/-- a call that may write a map -/
theorem St.callM {F : Fm} {f0 f m m' : M} (s : St F f0 f m) {τ : Nat → Nat} {t : Nat} {c : C} {M M' : Option (K → Option V')} (h : Mo F f τ m t c M) (e : ExtB c m m') (h' : Mi m' c M') : St F f0 f m' ∧ Kp τ f m τ f m' [t] ∧ Mo F f τ m' t c M' := by
  refine ⟨s.chg (X := fun b => c = .map b) (fun b hb => ⟨(h.own b hb).1, (h.own b hb).2.1⟩) e.nxt e.vw e.g, ⟨e.nxt, fun _ _ => rfl, fun b hb hx => e.g b hb fun hc => hx (by rw [(h.own b hc).2.2.1]; exact List.mem_cons_self ..), fun _ _ _ => rfl, .refl f, e.vw⟩, h', fun b hb => ?_⟩
  obtain ⟨q1, q2, q3, q4⟩ := h.own b hb
  exact ⟨q1, q2, q3, Nat.lt_of_lt_of_le q4 e.nxt⟩
/-- a call that hands back a map -/
theorem St.callN {F : Fm} {f0 f m m' f' : M} (s : St F f0 f m) (g : Grw m f m' f') {c : C} {M : Option (K → Option V')} (h : Mn m f' m' c M) (τ : Nat → Nat) (t : Nat) : ∃ τ', St F f0 f' m' ∧ Kp τ f m τ' f' m' [] ∧ Mo F f' τ' m' t c M := by
  obtain ⟨h1, h2⟩ := s.callG g τ
  refine ⟨fun b => if m.nxt ≤ b then t else τ b, h1, ⟨h2.nxt, fun b hb => if_neg (by omega), h2.g, h2.fg, h2.fs, h2.vw⟩, h.mi, fun b hb => ?_⟩
  obtain ⟨q1, q2, q3⟩ := h.own b hb
  exact ⟨.inl (Nat.le_trans s.ext.nxt q2), q1, if_pos q2, q3⟩
theorem Mo.mn {m0 f m : M} {τ : Nat → Nat} {t : Nat} {c : C} {M : Option (K → Option V')} (h : Mo (Fm.of m0) f τ m t c M) : Mn m0 f m c M := ⟨h.mi, fun b hb => ⟨(h.own b hb).2.1, (h.own b hb).1.elim id fun h => h.elim, (h.own b hb).2.2.2⟩⟩
theorem eqK_i {k : IntKind} {a b : Int} (ha : fitsP k a) (hb : fitsP k b) : eqK (.int k) (.int k a) (.int k b) = some (decide (a = b)) := by
  cases k <;> (show ifB (Go.Abs.fits _ a) (ifB (Go.Abs.fits _ b) (some (intEq a b)) none) none = _; rw [fits_of ha, fits_of hb, intEq_eq]; rfl)
theorem dec_and {p q : Prop} [Decidable p] [Decidable q] [Decidable (p ∧ q)] : ifB (decide p) (decide q) false = decide (p ∧ q) := by
  by_cases hp : p <;> by_cases hq : q <;> simp [hp, hq, ifB]
theorem eqKs_nil : eqKs [] [] [] = some (decide True) := by rw [decide_eq_true trivial]; rfl
theorem eqKs_cons {k : CK} {ks : List CK} {x y : C} {xs ys : List C} {p q : Prop} [Decidable p] [Decidable q] (h : eqK k x y = some (decide p)) (h2 : eqKs ks xs ys = some (decide q)) : eqKs (k :: ks) (x :: xs) (y :: ys) = some (decide (p ∧ q)) := by
  show optB (eqK k x y) none (fun b => optB (eqKs ks xs ys) none fun r => some (ifB b r false)) = _
  rw [h, h2, optB_some, optB_some, dec_and]
theorem kl_agg {kt n : Nat} {ks : List CK} (hpl : plainK P kt = some ks) (hag : isAggT P kt = true) {cs : K → List C} (henc : ∀ k, MK.enc k = .agg n (cs k)) (h : ∀ a b : K, MK.fit a → MK.fit b → ∃ (p : Prop) (_ : Decidable p), eqKs ks (cs a) (cs b) = some (decide p) ∧ (p ↔ a = b)) : KL P kt K := by
  refine ⟨⟨_, hpl⟩, fun a b => ?_⟩
  obtain ⟨a, fa⟩ := a
  obtain ⟨b, fb⟩ := b
  obtain ⟨p, _, h1, h2⟩ := h a b fa fb
  have ea : uV (encK K ⟨a, fa⟩) = .agg n (cs a) := by show uV (MK.enc a) = _; rw [henc]; rfl
  have eb : uV (encK K ⟨b, fb⟩) = .agg n (cs b) := by show uV (MK.enc b) = _; rw [henc]; rfl
  rw [ea, eb]
  unfold eqV
  rw [hpl, optB_some]
  show optB (ifB (isAggT P kt) (some (cs a)) none) none (fun xs => optB (ifB (isAggT P kt) (some (cs b)) none) none fun ys => eqKs ks xs ys) = _
  rw [hag]
  show eqKs ks (cs a) (cs b) = _
  rw [h1]
  exact congrArg some (decide_eq_decide.2 ⟨fun h => Subtype.ext (h2.1 h), fun h => h2.2 (congrArg Subtype.val h)⟩)
def mcase {α β : Type} (o : Option α) (a : Option β) (f : α → Option β) : Option β := match o with | none => a | some v => f v
theorem mcase_none {α β : Type} {o : Option α} {a : Option β} {f : α → Option β} (h : o = none) : mcase o a f = a := by rw [h]; rfl
theorem mcase_some {α β : Type} {o : Option α} {a : Option β} {f : α → Option β} {v : α} (h : o = some v) : mcase o a f = f v := by rw [h]; rfl
end
end Go.Abs

namespace Go.Proofs.Ytbhdgedghfibcaa
open _root_.Go.Proofs.Try
open Go.Abs
set_option maxRecDepth 100000
noncomputable section
structure Rg where
  Lo : Int
  Hi : Int
instance : MK Rg := ⟨fun k => .agg 2 [.int .i64 k.Lo, .int .i64 k.Hi], fun k => fitsP .i64 k.Lo ∧ fitsP .i64 k.Hi ∧ True⟩
instance : MV Rg := ⟨fun k => .agg 2 [.int .i64 k.Lo, .int .i64 k.Hi]⟩
instance : Rp Rg := ⟨2, by omega, fun _ cs a => cs = [.int .i64 a.Lo, .int .i64 a.Hi], fun h => by rw [h]; rfl, fun h _ => h⟩
structure Tf where
  From : Int
  Whole : Bool
  Least : Int
  Weeks : List Int
  Counts : List Int
  Rates : List (List (List Int))
def ok_Tf (a : Tf) : Prop := (fitsP .i64 a.From) ∧ (True) ∧ (fitsP .i64 a.Least) ∧ (a.Weeks.length ≤ maxLen ∧ ∀ a0 ∈ a.Weeks, fitsP .i64 a0) ∧ (a.Counts.length ≤ maxLen ∧ ∀ a0 ∈ a.Counts, fitsP .i64 a0) ∧ (a.Rates.length ≤ maxLen ∧ ∀ a0 ∈ a.Rates, a0.length ≤ maxLen ∧ ∀ a1 ∈ a0, a1.length ≤ maxLen ∧ ∀ a2 ∈ a1, fitsP .i64 a2)
instance : Rp Tf := ⟨6, by omega, fun f cs a => ∃ c3 c4 c5 : C, cs = [.int .i64 a.From, .bool a.Whole, .int .i64 a.Least, c3, c4, c5] ∧ Sl f c3 a.Weeks ∧ Sl f c4 a.Counts ∧ Sl f c5 a.Rates, fun h => by obtain ⟨c3, c4, c5, h, _, _, _⟩ := h; rw [h]; rfl, fun h s => by obtain ⟨c3, c4, c5, h, h0, h1, h2⟩ := h; exact ⟨c3, c4, c5, h, h0.subv s, h1.subv s, h2.subv s⟩⟩
theorem rd_Tf {f : M} {x : C} {l : List Tf} (h : Sl f x l) {n : Nat} {a : Tf} (hi : l[n]? = some a) : ∃ c3 c4 c5 : C, (∀ m, Sub f m → ldA m (slAt x (n * 6)) 6 = some [.int .i64 a.From, .bool a.Whole, .int .i64 a.Least, c3, c4, c5] ∧ (∀ j c, ([.int .i64 a.From, .bool a.Whole, .int .i64 a.Least, c3, c4, c5] : List C)[j]? = some c → ldC m (ptAdd (slAt x (n * 6)) j) = some c) ∧ ∀ j i, 0 < i → j + i ≤ 6 → ldA m (ptAdd (slAt x (n * 6)) j) i = some ((([.int .i64 a.From, .bool a.Whole, .int .i64 a.Least, c3, c4, c5] : List C).drop j).take i)) ∧ Sl f c3 a.Weeks ∧ Sl f c4 a.Counts ∧ Sl f c5 a.Rates := by
  obtain ⟨cs, q1, q2⟩ := h.rdP hi
  obtain ⟨c3, c4, c5, rfl, z0, z1, z2⟩ := q2
  exact ⟨c3, c4, c5, q1, z0, z1, z2⟩
structure Clm where
  Crop : Int
  Value : Int
  Day : Rg
  Count : Rg
instance : MK Clm := ⟨fun k => .agg 6 [.int .i64 k.Crop, .int .i64 k.Value, .int .i64 k.Day.Lo, .int .i64 k.Day.Hi, .int .i64 k.Count.Lo, .int .i64 k.Count.Hi], fun k => fitsP .i64 k.Crop ∧ fitsP .i64 k.Value ∧ fitsP .i64 k.Day.Lo ∧ fitsP .i64 k.Day.Hi ∧ fitsP .i64 k.Count.Lo ∧ fitsP .i64 k.Count.Hi ∧ True⟩
instance : MV Clm := ⟨fun k => .agg 6 [.int .i64 k.Crop, .int .i64 k.Value, .int .i64 k.Day.Lo, .int .i64 k.Day.Hi, .int .i64 k.Count.Lo, .int .i64 k.Count.Hi]⟩
instance : Rp Clm := ⟨6, by omega, fun _ cs a => cs = [.int .i64 a.Crop, .int .i64 a.Value, .int .i64 a.Day.Lo, .int .i64 a.Day.Hi, .int .i64 a.Count.Lo, .int .i64 a.Count.Hi], fun h => by rw [h]; rfl, fun h _ => h⟩
structure Tr where
  Day : Int
  Count : Int
instance : MK Tr := ⟨fun k => .agg 2 [.int .i64 k.Day, .int .i64 k.Count], fun k => fitsP .i64 k.Day ∧ fitsP .i64 k.Count ∧ True⟩
instance : MV Tr := ⟨fun k => .agg 2 [.int .i64 k.Day, .int .i64 k.Count]⟩
instance : Rp Tr := ⟨2, by omega, fun _ cs a => cs = [.int .i64 a.Day, .int .i64 a.Count], fun h => by rw [h]; rfl, fun h _ => h⟩
structure Ht where
  Day : Int
  Count : Int
  crop : Int
instance : MK Ht := ⟨fun k => .agg 3 [.int .i64 k.Day, .int .i64 k.Count, .int .i64 k.crop], fun k => fitsP .i64 k.Day ∧ fitsP .i64 k.Count ∧ fitsP .i64 k.crop ∧ True⟩
instance : MV Ht := ⟨fun k => .agg 3 [.int .i64 k.Day, .int .i64 k.Count, .int .i64 k.crop]⟩
instance : Rp Ht := ⟨3, by omega, fun _ cs a => cs = [.int .i64 a.Day, .int .i64 a.Count, .int .i64 a.crop], fun h => by rw [h]; rfl, fun h _ => h⟩
structure Mnr where
  paid : Tf → Int → Option (Int)
structure Wk where
  tariffs : List Tf
  parts : Option (Ht → Option (Int))
def pawake : Option Bool := some true
def prIn (n : Int) (low : Int) (high : Int) : Option (Bool) := (if low ≤ n then (some (decide (n ≤ high))) else (some false))
def prRises_L0 (l : List Int) (most : Int) : Nat → Int → Option (Bool)
  | 0, _ => none
  | d4 + 1, x2 => (if x2 < (l.length : Int) then ((idx l x2).bind fun x6 => ((prIn x6 (0 : Int) most).bind fun r8 => (if r8 = true then (if (0 : Int) < x2 then ((idx l x2).bind fun x15 => (gd (fitsP .i64 (x2 - (1 : Int))) ((idx l (x2 - (1 : Int))).bind fun x18 => (if x15 ≤ x18 then (some false) else (gd (fitsP .i64 (x2 + (1 : Int))) (prRises_L0 l most d4 (x2 + (1 : Int)))))))) else (gd (fitsP .i64 (x2 + (1 : Int))) (prRises_L0 l most d4 (x2 + (1 : Int))))) else (some false)))) else (if (0 : Int) < (l.length : Int) then ((idx l (0 : Int)).bind fun x24 => (some (decide (x24 = (0 : Int))))) else (some false)))
def prRises (l : List Int) (most : Int) : Option (Bool) := (prRises_L0 l most (l.length + 1) (0 : Int))
def prIsTariff_L2 (t : Tf) (x26 : Int) (x36 : Int) (K_R33 : Bool → Int → Option (Bool)) : Nat → Bool → Int → Option (Bool)
  | 0, _, _ => none
  | d91 + 1, b46, x47 => (if x47 < (t.Counts.length : Int) then ((idx t.Rates x26).bind fun v93 => ((idx v93 x36).bind fun v98 => ((idx v98 x47).bind fun x103 => ((prIn x103 (0 : Int) (100 : Int)).bind fun r105 => (if r105 = true then (gd (fitsP .i64 (x47 + (1 : Int))) (prIsTariff_L2 t x26 x36 K_R33 d91 b46 (x47 + (1 : Int)))) else (some false)))))) else (gd (fitsP .i64 (x36 + (1 : Int))) (K_R33 b46 (x36 + (1 : Int)))))
def prIsTariff_L1 (t : Tf) (x26 : Int) (K_R22 : Bool → Int → Option (Bool)) : Nat → Bool → Int → Option (Bool)
  | 0, _, _ => none
  | d76 + 1, b34, x36 => (if x36 < (t.Weeks.length : Int) then ((idx t.Rates x26).bind fun v78 => ((idx v78 x36).bind fun v83 => (if (v83.length : Int) = (t.Counts.length : Int) then (prIsTariff_L2 t x26 x36 (prIsTariff_L1 t x26 K_R22 d76) 1000000 b34 (0 : Int)) else (some false)))) else (gd (fitsP .i64 (x26 + (1 : Int))) (K_R22 b34 (x26 + (1 : Int)))))
def prIsTariff_L0 (t : Tf) : Nat → Bool → Int → Option (Bool)
  | 0, _, _ => none
  | d66 + 1, b23, x26 => (if x26 < (t.Rates.length : Int) then ((idx t.Rates x26).bind fun v68 => (if (v68.length : Int) = (t.Weeks.length : Int) then (prIsTariff_L1 t x26 (prIsTariff_L0 t d66) 1000000 b23 (0 : Int)) else (some false))) else (some true))
def prIsTariff (t : Tf) : Option (Bool) := ((prIn t.From (0 : Int) (120 : Int)).bind fun r31 => (if r31 = true then ((prIn t.Least (0 : Int) (100 : Int)).bind fun r38 => (if r38 = true then ((prRises t.Weeks (120 : Int)).bind fun r45 => (if r45 = true then ((prRises t.Counts (100 : Int)).bind fun r52 => (if r52 = true then (gd (fitsP .i64 ((t.Counts.length : Int) - (1 : Int))) ((idx t.Counts ((t.Counts.length : Int) - (1 : Int))).bind fun x60 => (if x60 = (100 : Int) then (if (t.Rates.length : Int) = (0 : Int) then (some false) else (prIsTariff_L0 t 1000000 false (0 : Int))) else (some false)))) else (some false))) else (some false))) else (some false))) else (some false)))
def prFault_L1 (l : List Tf) : Nat → Int → Option (Int)
  | 0, _ => none
  | d153 + 1, x12 => (if x12 < (l.length : Int) then ((idx l x12).bind fun v155 => ((prIsTariff v155).bind fun r164 => (if r164 = true then ((idx l x12).bind fun v170 => ((idx l (0 : Int)).bind fun v179 => (if (v170.Rates.length : Int) = (v179.Rates.length : Int) then (if x12 = (0 : Int) then ((idx l x12).bind fun v190 => (if v190.From = (0 : Int) then (if (0 : Int) < x12 then ((idx l x12).bind fun v201 => (gd (fitsP .i64 (x12 - (1 : Int))) ((idx l (x12 - (1 : Int))).bind fun v211 => (if v201.From ≤ v211.From then (some (1 : Int)) else (gd (fitsP .i64 (x12 + (1 : Int))) (prFault_L1 l d153 (x12 + (1 : Int)))))))) else (gd (fitsP .i64 (x12 + (1 : Int))) (prFault_L1 l d153 (x12 + (1 : Int))))) else (some (1 : Int)))) else (if (0 : Int) < x12 then ((idx l x12).bind fun v224 => (gd (fitsP .i64 (x12 - (1 : Int))) ((idx l (x12 - (1 : Int))).bind fun v234 => (if v224.From ≤ v234.From then (some (1 : Int)) else (gd (fitsP .i64 (x12 + (1 : Int))) (prFault_L1 l d153 (x12 + (1 : Int)))))))) else (gd (fitsP .i64 (x12 + (1 : Int))) (prFault_L1 l d153 (x12 + (1 : Int)))))) else (some (1 : Int))))) else (some (1 : Int))))) else (if (l.length : Int) = (0 : Int) then (some (1 : Int)) else (some (0 : Int))))
def prFault_L0 (l : List Tf) : Nat → Int → Int → Option (Int)
  | 0, _, _ => none
  | d118 + 1, x1, x2 => (if x2 < (l.length : Int) then ((idx l x2).bind fun v120 => (if (4 : Int) < (v120.Weeks.length : Int) then (some (3 : Int)) else ((idx l x2).bind fun v130 => (if (5 : Int) < (v130.Counts.length : Int) then (some (3 : Int)) else ((idx l x2).bind fun v140 => (if (3 : Int) < (v140.Rates.length : Int) then (some (3 : Int)) else (gd (fitsP .i64 (x2 + (1 : Int))) (prFault_L0 l d118 x1 (x2 + (1 : Int)))))))))) else (prFault_L1 l (l.length + 1) (0 : Int)))
def prFault (l : List Tf) : Option (Int) := (if (3 : Int) < (l.length : Int) then (some (3 : Int)) else (prFault_L0 l (l.length + 1) (0 : Int) (0 : Int)))
def prLast_L0 (l : List Int) (n : Int) : Nat → Int → Option (Int)
  | 0, _ => none
  | d249 + 1, x1 => (gd (fitsP .i64 (x1 + (1 : Int))) (if (x1 + (1 : Int)) < (l.length : Int) then (gd (fitsP .i64 (x1 + (1 : Int))) ((idx l (x1 + (1 : Int))).bind fun x253 => (if x253 ≤ n then (gd (fitsP .i64 (x1 + (1 : Int))) (prLast_L0 l n d249 (x1 + (1 : Int)))) else (some x1)))) else (some x1)))
def prLast (l : List Int) (n : Int) : Option (Int) := (prLast_L0 l n 1000000 (0 : Int))
def prOf_L0 (l : List Tf) (day : Int) : Nat → (List Int) → Int → Option (Tf)
  | 0, _, _ => none
  | d266 + 1, l264, x3 => (if x3 < (l.length : Int) then ((idx l x3).bind fun v268 => (gd (l264.length < 1048576) (gd (fitsP .i64 (x3 + (1 : Int))) (prOf_L0 l day d266 (l264 ++ [v268.From]) (x3 + (1 : Int)))))) else ((prLast l264 day).bind fun r293 => ((idx l r293).bind fun v299 => (some v299))))
def prOf (l : List Tf) (day : Int) : Option (Tf) := (prOf_L0 l day (l.length + 1) [] (0 : Int))
def prCrops (l : List Tf) : Option (Int) := ((idx l (0 : Int)).bind fun v397 => (some (v397.Rates.length : Int)))
def prRise_L1 (l : List Int) (out : Int) (x2 : Int) (K_R0 : Bool → Int → Option (Bool)) : Nat → Bool → Int → Option (Bool)
  | 0, _, _ => none
  | d749 + 1, b5, x6 => (if x6 < (l.length : Int) then (gd ((0 : Int) ≤ out) (gd ((0 : Int) ≤ (wrapZ .u64 x2)) (gd ((wrapZ .u64 x2) ≤ (64 : Int)) (gd (fitsP .i64 (out / ((2 : Int) ^ (Int.toNat (wrapZ .u64 x2))))) (gd ((0 : Int) ≤ (out / ((2 : Int) ^ (Int.toNat (wrapZ .u64 x2))))) (gd ((0 : Int) < (2 : Int)) (gd (fitsP .i64 ((out / ((2 : Int) ^ (Int.toNat (wrapZ .u64 x2)))) % (2 : Int))) (if ((out / ((2 : Int) ^ (Int.toNat (wrapZ .u64 x2)))) % (2 : Int)) = (0 : Int) then (gd ((0 : Int) ≤ out) (gd ((0 : Int) ≤ (wrapZ .u64 x6)) (gd ((wrapZ .u64 x6) ≤ (64 : Int)) (gd (fitsP .i64 (out / ((2 : Int) ^ (Int.toNat (wrapZ .u64 x6))))) (gd ((0 : Int) ≤ (out / ((2 : Int) ^ (Int.toNat (wrapZ .u64 x6))))) (gd ((0 : Int) < (2 : Int)) (gd (fitsP .i64 ((out / ((2 : Int) ^ (Int.toNat (wrapZ .u64 x6)))) % (2 : Int))) (if ((out / ((2 : Int) ^ (Int.toNat (wrapZ .u64 x6)))) % (2 : Int)) = (0 : Int) then ((idx l x6).bind fun x767 => ((idx l x2).bind fun x769 => (if x767 < x769 then (some false) else (gd (fitsP .i64 (x6 + (1 : Int))) (prRise_L1 l out x2 K_R0 d749 b5 (x6 + (1 : Int))))))) else (gd (fitsP .i64 (x6 + (1 : Int))) (prRise_L1 l out x2 K_R0 d749 b5 (x6 + (1 : Int)))))))))))) else (gd (fitsP .i64 (x6 + (1 : Int))) (prRise_L1 l out x2 K_R0 d749 b5 (x6 + (1 : Int)))))))))))) else (gd (fitsP .i64 (x2 + (1 : Int))) (K_R0 b5 (x2 + (1 : Int)))))
def prRise_L0 (l : List Int) (out : Int) : Nat → Bool → Int → Option (Bool)
  | 0, _, _ => none
  | d744 + 1, b1, x2 => (if x2 < (l.length : Int) then (gd (fitsP .i64 (x2 + (1 : Int))) (prRise_L1 l out x2 (prRise_L0 l out d744) (((l.length : Int) - (x2 + (1 : Int))).toNat + 1) b1 (x2 + (1 : Int)))) else (some true))
def prRise (l : List Int) (out : Int) : Option (Bool) := (prRise_L0 l out (l.length + 1) false (0 : Int))
def plList (l : List Int) : Option (List Int) := (gd (([] : List Int).length + l.length ≤ 1048576) (some ([] ++ l)))
def plThin_L2 (l : List Tf) (x4 : Int) (x15 : Int) (K_R12 : Bool → Int → Option (Bool)) : Nat → Bool → Int → Option (Bool)
  | 0, _, _ => none
  | d951 + 1, b24, x25 => ((idx l x4).bind fun v952 => ((idx v952.Rates x15).bind fun v961 => (if x25 < (v961.length : Int) then ((idx l x4).bind fun v967 => ((idx v967.Rates x15).bind fun v976 => ((idx v976 x25).bind fun v981 => (if (7 : Int) < (v981.length : Int) then (some false) else (gd (fitsP .i64 (x25 + (1 : Int))) (plThin_L2 l x4 x15 K_R12 d951 b24 (x25 + (1 : Int)))))))) else (gd (fitsP .i64 (x15 + (1 : Int))) (K_R12 b24 (x15 + (1 : Int)))))))
def plThin_L1 (l : List Tf) (x4 : Int) (K_R0 : Bool → Int → Option (Bool)) : Nat → Bool → Int → Option (Bool)
  | 0, _, _ => none
  | d923 + 1, b13, x15 => ((idx l x4).bind fun v924 => (if x15 < (v924.Rates.length : Int) then ((idx l x4).bind fun v934 => ((idx v934.Rates x15).bind fun v943 => (if (7 : Int) < (v943.length : Int) then (some false) else (plThin_L2 l x4 x15 (plThin_L1 l x4 K_R0 d923) 1000000 b13 (0 : Int))))) else (gd (fitsP .i64 (x4 + (1 : Int))) (K_R0 b13 (x4 + (1 : Int))))))
def plThin_L0 (l : List Tf) : Nat → Bool → Int → Option (Bool)
  | 0, _, _ => none
  | d889 + 1, b1, x4 => (if x4 < (l.length : Int) then ((idx l x4).bind fun v891 => (if (7 : Int) < (v891.Weeks.length : Int) then (some false) else ((idx l x4).bind fun v901 => (if (7 : Int) < (v901.Counts.length : Int) then (some false) else ((idx l x4).bind fun v911 => (if (5 : Int) < (v911.Rates.length : Int) then (some false) else (plThin_L1 l x4 (plThin_L0 l d889) 1000000 b1 (0 : Int)))))))) else (some true))
def plThin (l : List Tf) : Option (Bool) := (if (5 : Int) < (l.length : Int) then (some false) else (plThin_L0 l (l.length + 1) false (0 : Int)))
def plFault (l : List Tf) : Option (Int) := ((prFault l).bind fun r990 => (some r990))
def plReady (l : List Tf) : Option (Bool) := ((plThin l).bind fun r1014 => (if r1014 = true then ((plFault l).bind fun r1020 => (some (decide (r1020 = (0 : Int))))) else (some false)))
def phas (r : Rg) (n : Int) : Option (Bool) := (if r.Lo ≤ n then (some (decide (n ≤ r.Hi))) else (some false))
def pisIndex (n : Int) (size : Int) : Option (Bool) := (gd (fitsP .i64 (size - (1 : Int))) ((phas ({ Lo := (0 : Int), Hi := (size - (1 : Int)) } : Rg) n).bind fun r1089 => (some r1089)))
def pisDay (n : Int) : Option (Bool) := ((phas ({ Lo := (0 : Int), Hi := (120 : Int) } : Rg) n).bind fun r1094 => (some r1094))
def pisCount (n : Int) : Option (Bool) := ((phas ({ Lo := (0 : Int), Hi := (100 : Int) } : Rg) n).bind fun r1099 => (some r1099))
def pisHundredths (n : Int) : Option (Bool) := ((phas ({ Lo := (0 : Int), Hi := (100 : Int) } : Rg) n).bind fun r1104 => (some r1104))
def prises_L0 (l : List Int) : Nat → Int → Option (Bool)
  | 0, _ => none
  | d1111 + 1, x2 => (if x2 < (l.length : Int) then ((idx l x2).bind fun x1113 => (if (0 : Int) < x2 then (gd (fitsP .i64 (x2 - (1 : Int))) ((idx l (x2 - (1 : Int))).bind fun x1117 => (if x1113 ≤ x1117 then (some false) else (gd (fitsP .i64 (x2 + (1 : Int))) (prises_L0 l d1111 (x2 + (1 : Int))))))) else (gd (fitsP .i64 (x2 + (1 : Int))) (prises_L0 l d1111 (x2 + (1 : Int)))))) else (if (0 : Int) < (l.length : Int) then ((idx l (0 : Int)).bind fun x1123 => (some (decide (x1123 = (0 : Int))))) else (some false)))
def prises (l : List Int) : Option (Bool) := (prises_L0 l (l.length + 1) (0 : Int))
def pfroms_L0 (l : List Tf) : Nat → (List Int) → Int → Option (List Int)
  | 0, _, _ => none
  | d1129 + 1, l1127, x2 => (if x2 < (l.length : Int) then ((idx l x2).bind fun v1131 => (gd (l1127.length < 1048576) (gd (fitsP .i64 (x2 + (1 : Int))) (pfroms_L0 l d1129 (l1127 ++ [v1131.From]) (x2 + (1 : Int)))))) else (some l1127))
def pfroms (l : List Tf) : Option (List Int) := (pfroms_L0 l (l.length + 1) [] (0 : Int))
def psameCrops (l : List Tf) (t : Tf) : Option (Bool) := ((idx l (0 : Int)).bind fun v1170 => (some (decide ((t.Rates.length : Int) = (v1170.Rates.length : Int)))))
def phasCrop (l : List Tf) (n : Int) : Option (Bool) := ((idx l (0 : Int)).bind fun v1179 => ((pisIndex n (v1179.Rates.length : Int)).bind fun r1188 => (some r1188)))
def ptfTooMany (t : Tf) : Option (Bool) := (if (4 : Int) < (t.Weeks.length : Int) then (some true) else (if (5 : Int) < (t.Counts.length : Int) then (some true) else (some (decide ((3 : Int) < (t.Rates.length : Int))))))
def pisNaN (x : Int) : Option (Bool) := (some (!(decide (x = x))))
def psNaN (x : Int) : Option (Bool) := (some (!(decide (x = x))))
def pless (x : Int) (y : Int) : Option (Bool) := ((pisNaN x).bind fun r1226 => (if r1226 = true then ((pisNaN y).bind fun r1232 => (if r1232 = true then (some (decide (x < y))) else (some true))) else (some (decide (x < y)))))
def pbsearch_L0 (l : List Int) (x : Int) : Nat → Int → Int → Option (Int × Bool)
  | 0, _, _ => none
  | d1255 + 1, x1, x2 => (if x1 < x2 then (gd (fitsP .i64 (x1 + x2)) (gd ((0 : Int) ≤ (wrapZ .u64 (x1 + x2))) (gd ((0 : Int) ≤ (1 : Int)) (gd ((1 : Int) ≤ (64 : Int)) (gd (fitsP .u64 ((wrapZ .u64 (x1 + x2)) / (2 : Int))) ((idx l (wrapZ .i64 ((wrapZ .u64 (x1 + x2)) / (2 : Int)))).bind fun x1262 => ((pless x1262 x).bind fun r1264 => (if r1264 = true then (gd (fitsP .i64 ((wrapZ .i64 ((wrapZ .u64 (x1 + x2)) / (2 : Int))) + (1 : Int))) (pbsearch_L0 l x d1255 ((wrapZ .i64 ((wrapZ .u64 (x1 + x2)) / (2 : Int))) + (1 : Int)) x2)) else (pbsearch_L0 l x d1255 x1 (wrapZ .i64 ((wrapZ .u64 (x1 + x2)) / (2 : Int)))))))))))) else (if x1 < (l.length : Int) then ((idx l x1).bind fun x1272 => (if x1272 = x then (some (x1, true)) else ((idx l x1).bind fun x1275 => ((psNaN x1275).bind fun r1277 => (if r1277 = true then ((psNaN x).bind fun r1283 => (some (x1, r1283))) else (some (x1, false))))))) else (some (x1, false))))
def pbsearch (l : List Int) (x : Int) : Option (Int × Bool) := (pbsearch_L0 l x (l.length + 1) (0 : Int) (l.length : Int))
def plast (days : List Int) (day : Int) : Option (Int) := (gd (fitsP .i64 (day + (1 : Int))) ((pbsearch days (day + (1 : Int))).bind fun r1289 => (gd (fitsP .i64 (r1289.1 - (1 : Int))) (some (r1289.1 - (1 : Int))))))
def ptfOf (l : List Tf) (day : Int) : Option (Tf) := ((pfroms l).bind fun r1300 => ((plast r1300 day).bind fun r1309 => ((idx l r1309).bind fun v1315 => (some v1315))))
def pwhole (t : Tf) (loss : Int) : Option (Int) := (some loss)
def paboveLeast (t : Tf) (loss : Int) : Option (Int) := (gd (fitsP .i64 (loss - t.Least)) (some (loss - t.Least)))
def ploss (t : Tf) (h : Ht) : Option (Int) := ((idx t.Rates h.crop).bind fun v1351 => ((plast t.Weeks h.Day).bind fun r1356 => ((idx v1351 r1356).bind fun v1363 => ((pbsearch t.Counts h.Count).bind fun r1368 => (if r1368.2 = true then ((idx v1363 r1368.1).bind fun x1376 => (some x1376)) else (gd (fitsP .i64 (r1368.1 - (1 : Int))) ((idx t.Counts (r1368.1 - (1 : Int))).bind fun x1379 => ((idx t.Counts r1368.1).bind fun x1381 => (gd (fitsP .i64 (r1368.1 - (1 : Int))) ((idx v1363 (r1368.1 - (1 : Int))).bind fun x1384 => (gd (fitsP .i64 (x1381 - h.Count)) (gd ((0 : Int) ≤ x1384) (gd ((0 : Int) ≤ (x1381 - h.Count)) (gd (fitsP .i64 (x1384 * (x1381 - h.Count))) ((idx v1363 r1368.1).bind fun x1390 => (gd (fitsP .i64 (h.Count - x1379)) (gd ((0 : Int) ≤ x1390) (gd ((0 : Int) ≤ (h.Count - x1379)) (gd (fitsP .i64 (x1390 * (h.Count - x1379))) (gd (fitsP .i64 ((x1384 * (x1381 - h.Count)) + (x1390 * (h.Count - x1379)))) (gd (fitsP .i64 (x1381 - x1379)) (gd ((0 : Int) ≤ ((x1384 * (x1381 - h.Count)) + (x1390 * (h.Count - x1379)))) (gd ((0 : Int) < (x1381 - x1379)) (gd (fitsP .i64 (((x1384 * (x1381 - h.Count)) + (x1390 * (h.Count - x1379))) / (x1381 - x1379))) (some (((x1384 * (x1381 - h.Count)) + (x1390 * (h.Count - x1379))) / (x1381 - x1379)))))))))))))))))))))))))))
def peachTf1 (x : Tf) (passes : Tf → Option (Bool)) : Option (Bool) := ((passes x).bind fun r1428 => (some (!r1428)))
def pindexTf_L0 (l : List Tf) (p : Tf → Option (Bool)) : Nat → Int → Option (Int)
  | 0, _ => none
  | d1436 + 1, x2 => (if x2 < (l.length : Int) then ((idx l x2).bind fun v1438 => ((p v1438).bind fun r1447 => (if r1447 = true then (some x2) else (gd (fitsP .i64 (x2 + (1 : Int))) (pindexTf_L0 l p d1436 (x2 + (1 : Int))))))) else (some (-1 : Int)))
def pindexTf (l : List Tf) (p : Tf → Option (Bool)) : Option (Int) := (pindexTf_L0 l p (l.length + 1) (0 : Int))
def pcontainsTf (l : List Tf) (p : Tf → Option (Bool)) : Option (Bool) := ((pindexTf l p).bind fun r1454 => (some (decide ((0 : Int) ≤ r1454))))
def peachTf (l : List Tf) (passes : Tf → Option (Bool)) : Option (Bool) := ((pcontainsTf l (fun a1468 => peachTf1 a1468 passes)).bind fun r1476 => (some (!r1476)))
def pindexTfs_L0 (l : List Tf) (p : Tf → Option (Bool)) : Nat → Int → Option (Int)
  | 0, _ => none
  | d1483 + 1, x2 => (if x2 < (l.length : Int) then ((idx l x2).bind fun v1485 => ((p v1485).bind fun r1494 => (if r1494 = true then (some x2) else (gd (fitsP .i64 (x2 + (1 : Int))) (pindexTfs_L0 l p d1483 (x2 + (1 : Int))))))) else (some (-1 : Int)))
def pindexTfs (l : List Tf) (p : Tf → Option (Bool)) : Option (Int) := (pindexTfs_L0 l p (l.length + 1) (0 : Int))
def pcontainsTfs (l : List Tf) (p : Tf → Option (Bool)) : Option (Bool) := ((pindexTfs l p).bind fun r1501 => (some (decide ((0 : Int) ≤ r1501))))
def peachI1 (x : Int) (passes : Int → Option (Bool)) : Option (Bool) := ((passes x).bind fun r1552 => (some (!r1552)))
def pindexI_L0 (l : List Int) (p : Int → Option (Bool)) : Nat → Int → Option (Int)
  | 0, _ => none
  | d1559 + 1, x2 => (if x2 < (l.length : Int) then ((idx l x2).bind fun x1561 => ((p x1561).bind fun r1563 => (if r1563 = true then (some x2) else (gd (fitsP .i64 (x2 + (1 : Int))) (pindexI_L0 l p d1559 (x2 + (1 : Int))))))) else (some (-1 : Int)))
def pindexI (l : List Int) (p : Int → Option (Bool)) : Option (Int) := (pindexI_L0 l p (l.length + 1) (0 : Int))
def pcontainsI (l : List Int) (p : Int → Option (Bool)) : Option (Bool) := ((pindexI l p).bind fun r1570 => (some (decide ((0 : Int) ≤ r1570))))
def peachI (l : List Int) (passes : Int → Option (Bool)) : Option (Bool) := ((pcontainsI l (fun a1584 => peachI1 a1584 passes)).bind fun r1586 => (some (!r1586)))
def peachL1 (x : List Int) (passes : List Int → Option (Bool)) : Option (Bool) := ((passes x).bind fun r1591 => (some (!r1591)))
def pindexL_L0 (l : List (List Int)) (p : List Int → Option (Bool)) : Nat → Int → Option (Int)
  | 0, _ => none
  | d1598 + 1, x2 => (if x2 < (l.length : Int) then ((idx l x2).bind fun v1600 => ((p v1600).bind fun r1605 => (if r1605 = true then (some x2) else (gd (fitsP .i64 (x2 + (1 : Int))) (pindexL_L0 l p d1598 (x2 + (1 : Int))))))) else (some (-1 : Int)))
def pindexL (l : List (List Int)) (p : List Int → Option (Bool)) : Option (Int) := (pindexL_L0 l p (l.length + 1) (0 : Int))
def pcontainsL (l : List (List Int)) (p : List Int → Option (Bool)) : Option (Bool) := ((pindexL l p).bind fun r1612 => (some (decide ((0 : Int) ≤ r1612))))
def peachL (l : List (List Int)) (passes : List Int → Option (Bool)) : Option (Bool) := ((pcontainsL l (fun a1626 => peachL1 a1626 passes)).bind fun r1630 => (some (!r1630)))
def peachLL1 (x : List (List Int)) (passes : List (List Int) → Option (Bool)) : Option (Bool) := ((passes x).bind fun r1635 => (some (!r1635)))
def pindexLL_L0 (l : List (List (List Int))) (p : List (List Int) → Option (Bool)) : Nat → Int → Option (Int)
  | 0, _ => none
  | d1642 + 1, x2 => (if x2 < (l.length : Int) then ((idx l x2).bind fun v1644 => ((p v1644).bind fun r1649 => (if r1649 = true then (some x2) else (gd (fitsP .i64 (x2 + (1 : Int))) (pindexLL_L0 l p d1642 (x2 + (1 : Int))))))) else (some (-1 : Int)))
def pindexLL (l : List (List (List Int))) (p : List (List Int) → Option (Bool)) : Option (Int) := (pindexLL_L0 l p (l.length + 1) (0 : Int))
def pcontainsLL (l : List (List (List Int))) (p : List (List Int) → Option (Bool)) : Option (Bool) := ((pindexLL l p).bind fun r1656 => (some (decide ((0 : Int) ≤ r1656))))
def peachLL (l : List (List (List Int))) (passes : List (List Int) → Option (Bool)) : Option (Bool) := ((pcontainsLL l (fun a1670 => peachLL1 a1670 passes)).bind fun r1674 => (some (!r1674)))
def pvalidWeek (t : Tf) (rates : List Int) : Option (Bool) := (if (rates.length : Int) = (t.Counts.length : Int) then ((peachI rates (fun a1704 => pisHundredths a1704)).bind fun r1706 => (some r1706)) else (some false))
def pvalidCrop (t : Tf) (weeks : List (List Int)) : Option (Bool) := (if (weeks.length : Int) = (t.Weeks.length : Int) then ((peachL weeks (fun a1718 => pvalidWeek t a1718)).bind fun r1722 => (some r1722)) else (some false))
def ptfValid (t : Tf) : Option (Bool) := ((pisDay t.From).bind fun r1733 => (if r1733 = true then ((pisHundredths t.Least).bind fun r1740 => (if r1740 = true then ((prises t.Weeks).bind fun r1747 => (if r1747 = true then ((peachI t.Weeks (fun a1754 => pisDay a1754)).bind fun r1756 => (if r1756 = true then ((prises t.Counts).bind fun r1763 => (if r1763 = true then (gd (fitsP .i64 ((t.Counts.length : Int) - (1 : Int))) ((idx t.Counts ((t.Counts.length : Int) - (1 : Int))).bind fun x1771 => (if x1771 = (100 : Int) then (if (0 : Int) < (t.Rates.length : Int) then ((peachLL t.Rates (fun a1775 => pvalidCrop t a1775)).bind fun r1779 => (some r1779)) else (some false)) else (some false)))) else (some false))) else (some false))) else (some false))) else (some false))) else (some false)))
def ptooMany (l : List Tf) : Option (Bool) := (if (3 : Int) < (l.length : Int) then (some true) else ((pcontainsTfs l (fun a1786 => ptfTooMany a1786)).bind fun r1794 => (some r1794)))
def ptfsValid (l : List Tf) : Option (Bool) := ((peachTf l (fun a1799 => ptfValid a1799)).bind fun r1807 => (if r1807 = true then ((pfroms l).bind fun r1813 => ((prises r1813).bind fun r1821 => (if r1821 = true then ((peachTf l (fun a1827 => psameCrops l a1827)).bind fun r1835 => (some r1835)) else (some false)))) else (some false)))
def pcheck (l : List Tf) : Option (Int) := ((ptooMany l).bind fun r1878 => (if r1878 = true then (some (3 : Int)) else ((ptfsValid l).bind fun r1884 => (if r1884 = true then (some (0 : Int)) else (some (1 : Int))))))
def pmanner (t : Tf) : Option (Mnr) := (if t.Whole = true then (some ({ paid := (fun a1934 a1935 => pwhole a1934 a1935) } : Mnr)) else (some ({ paid := (fun a1949 a1950 => paboveLeast a1949 a1950) } : Mnr)))
def ptfPart (t : Tf) (h : Ht) : Option (Int) := ((ploss t h).bind fun r1969 => (if r1969 < t.Least then (some (0 : Int)) else ((pmanner t).bind fun r1977 => ((r1977.paid t r1969).bind fun r1987 => (some r1987)))))
def popen (l : List Tf) : Option (Wk × Int) := ((pcheck l).bind fun r1999 => (if r1999 = (0 : Int) then (some (({ tariffs := l, parts := (some fun _ => none : Option (Ht → Option (Int))) } : Wk), (0 : Int))) else (some (({ tariffs := [], parts := none } : Wk), r1999))))
def ppart (w : Wk) (h : Ht) : Option (Int × Option (Ht → Option (Int))) := (gd (MK.fit h) (mcase (mget w.parts h) ((ptfOf w.tariffs h.Day).bind fun r2112 => ((ptfPart r2112 h).bind fun r2127 => (gd (MK.fit h) ((mset w.parts h r2127).bind fun w2136 => (some (r2127, w2136)))))) fun w2111 => (some (w2111, w.parts))))
def pPart (l : List Tf) (crop : Int) (day : Int) (count : Int) : Option (Int × Int) := ((popen l).bind fun r2182 => (if r2182.2 = (0 : Int) then ((phasCrop r2182.1.tariffs crop).bind fun r2207 => (if r2207 = true then ((pisDay day).bind fun r2215 => (if r2215 = true then ((pisCount count).bind fun r2223 => (if r2223 = true then ((ppart r2182.1 ({ Day := day, Count := count, crop := crop } : Ht)).bind fun r2231 => (some (r2231.1, (0 : Int)))) else (some ((0 : Int), (2 : Int))))) else (some ((0 : Int), (2 : Int))))) else (some ((0 : Int), (2 : Int))))) else (some ((0 : Int), r2182.2))))
def pLeast_L0 (crop : Int) (day : Int) (r2334 : Wk × Int) : Nat → (Option (Ht → Option (Int))) → Int → Option (Int × Int)
  | 0, _, _ => none
  | d2378 + 1, w2377, x17 => (if x17 < (101 : Int) then ((ppart ({ tariffs := r2334.1.tariffs, parts := w2377 } : Wk) ({ Day := day, Count := x17, crop := crop } : Ht)).bind fun r2380 => (if (0 : Int) < r2380.1 then (some (x17, (0 : Int))) else (gd (fitsP .i64 (x17 + (1 : Int))) (pLeast_L0 crop day r2334 d2378 r2380.2 (x17 + (1 : Int)))))) else (some ((0 : Int), (7 : Int))))
def pLeast (l : List Tf) (crop : Int) (day : Int) : Option (Int × Int) := ((popen l).bind fun r2334 => (if r2334.2 = (0 : Int) then ((phasCrop r2334.1.tariffs crop).bind fun r2359 => (if r2359 = true then ((pisDay day).bind fun r2367 => (if r2367 = true then (pLeast_L0 crop day r2334 (Int.toNat (101 : Int) + 1) r2334.1.parts (0 : Int)) else (some ((0 : Int), (2 : Int))))) else (some ((0 : Int), (2 : Int))))) else (some ((0 : Int), r2334.2))))
def plTariffs_L2 (l : List Tf) (x2 : Int) (y2478 : Int) (y2479 : Bool) (y2480 : Int) (y2481 : List (List (List Int))) (x24 : Int) (K_R23 : Int → Bool → Int → (List (List (List Int))) → Int → Option (List Tf)) : Nat → (List (List Int)) → Int → Option (List Tf)
  | 0, _, _ => none
  | d2500 + 1, l2498, x30 => ((idx l x2).bind fun v2501 => ((idx v2501.Rates x24).bind fun v2510 => (if x30 < (v2510.length : Int) then ((idx l x2).bind fun v2516 => ((idx v2516.Rates x24).bind fun v2525 => ((idx v2525 x30).bind fun v2530 => ((plList v2530).bind fun r2535 => (gd (l2498.length < 1048576) (gd (fitsP .i64 (x30 + (1 : Int))) (plTariffs_L2 l x2 y2478 y2479 y2480 y2481 x24 K_R23 d2500 (l2498 ++ [r2535]) (x30 + (1 : Int))))))))) else (gd (y2481.length < 1048576) (gd (fitsP .i64 (x24 + (1 : Int))) (K_R23 y2478 y2479 y2480 (y2481 ++ [l2498]) (x24 + (1 : Int))))))))
def plTariffs_L1 (l : List Tf) (l2393 : List Tf) (x2 : Int) (r2439 : List Int) (r2457 : List Int) (K_R0 : (List Tf) → Int → Option (List Tf)) : Nat → Int → Bool → Int → (List (List (List Int))) → Int → Option (List Tf)
  | 0, _, _, _, _, _ => none
  | d2484 + 1, y2478, y2479, y2480, y2481, x24 => ((idx l x2).bind fun v2485 => (if x24 < (v2485.Rates.length : Int) then (plTariffs_L2 l x2 y2478 y2479 y2480 y2481 x24 (plTariffs_L1 l l2393 x2 r2439 r2457 K_R0 d2484) 1000000 [] (0 : Int)) else (gd (l2393.length < 1048576) (gd (fitsP .i64 (x2 + (1 : Int))) (K_R0 (l2393 ++ [({ From := y2478, Whole := y2479, Least := y2480, Weeks := r2439, Counts := r2457, Rates := y2481 } : Tf)]) (x2 + (1 : Int)))))))
def plTariffs_L0 (l : List Tf) : Nat → (List Tf) → Int → Option (List Tf)
  | 0, _, _ => none
  | d2395 + 1, l2393, x2 => (if x2 < (l.length : Int) then ((idx l x2).bind fun v2403 => ((idx l x2).bind fun v2412 => ((idx l x2).bind fun v2421 => ((idx l x2).bind fun v2430 => ((plList v2430.Weeks).bind fun r2439 => ((idx l x2).bind fun v2448 => ((plList v2448.Counts).bind fun r2457 => (plTariffs_L1 l l2393 x2 r2439 r2457 (plTariffs_L0 l d2395) 1000000 v2403.From v2412.Whole v2421.Least [] (0 : Int))))))))) else (some l2393))
def plTariffs (l : List Tf) : Option (List Tf) := (plTariffs_L0 l (l.length + 1) [] (0 : Int))
def pTariffMore (l : List Tf) (crop : Int) (day : Int) (count : Int) (more : Int) : Option (Bool) := ((plReady l).bind fun r2991 => (if r2991 = true then ((prCrops l).bind fun r3002 => (gd ((0 : Int) ≤ (wrapZ .i64 crop)) (gd ((0 : Int) < r3002) (gd (fitsP .i64 ((wrapZ .i64 crop) % r3002)) (gd ((0 : Int) ≤ (wrapZ .i64 day)) (gd ((0 : Int) < (121 : Int)) (gd (fitsP .i64 ((wrapZ .i64 day) % (121 : Int))) (gd ((0 : Int) ≤ (wrapZ .i64 count)) (gd ((0 : Int) < (101 : Int)) (gd (fitsP .i64 ((wrapZ .i64 count) % (101 : Int))) ((prOf l ((wrapZ .i64 day) % (121 : Int))).bind fun r3016 => ((idx r3016.Rates ((wrapZ .i64 crop) % r3002)).bind fun v3038 => ((prLast r3016.Weeks ((wrapZ .i64 day) % (121 : Int))).bind fun r3043 => ((idx v3038 r3043).bind fun v3049 => ((prRise v3049 (0 : Int)).bind fun r3054 => (if r3054 = true then (gd (fitsP .i64 (((wrapZ .i64 count) % (101 : Int)) + (wrapZ .i64 more))) ((plTariffs l).bind fun r3068 => ((pPart r3068 ((wrapZ .i64 crop) % r3002) ((wrapZ .i64 day) % (121 : Int)) ((wrapZ .i64 count) % (101 : Int))).bind fun r3077 => ((plTariffs l).bind fun r3083 => ((pPart r3083 ((wrapZ .i64 crop) % r3002) ((wrapZ .i64 day) % (121 : Int)) (min (100 : Int) (((wrapZ .i64 count) % (101 : Int)) + (wrapZ .i64 more)))).bind fun r3092 => ((plTariffs l).bind fun r3098 => ((pLeast r3098 ((wrapZ .i64 crop) % r3002) ((wrapZ .i64 day) % (121 : Int))).bind fun r3107 => (if r3077.2 = (0 : Int) then (if r3092.2 = (0 : Int) then (if r3092.1 < r3077.1 then (some false) else (if r3107.2 = (0 : Int) then (if r3107.2 = (0 : Int) then (if ((decide ((0 : Int) < r3077.1)) == (decide (r3107.1 ≤ ((wrapZ .i64 count) % (101 : Int))))) = true then ((pawake).bind fun r3135 => (some r3135)) else (some false)) else (if ((decide ((0 : Int) < r3077.1)) == false) = true then ((pawake).bind fun r3142 => (some r3142)) else (some false))) else (if r3107.2 = (7 : Int) then (if r3107.2 = (0 : Int) then (if ((decide ((0 : Int) < r3077.1)) == (decide (r3107.1 ≤ ((wrapZ .i64 count) % (101 : Int))))) = true then ((pawake).bind fun r3120 => (some r3120)) else (some false)) else (if ((decide ((0 : Int) < r3077.1)) == false) = true then ((pawake).bind fun r3127 => (some r3127)) else (some false))) else (some false)))) else (some false)) else (some false))))))))) else ((pawake).bind fun r3061 => (some r3061)))))))))))))))))) else ((pawake).bind fun r2997 => (some r2997))))
end
end Go.Proofs.Ytbhdgedghfibcaa

namespace Go.Proofs.Ytbhdgedghfibcaa
open _root_.Go.Proofs.Try
open Go.Abs
set_option maxRecDepth 100000
noncomputable section
theorem c104 {a100 : Int} {a101 : Bool} {a102 : Int} {a103 : C} {a104 : C} {a105 : C} {b0 : Nat} {m : M} {Q : V → M → Prop} (h :
 (∀ m0 : M, ((m0 = (M.new m (AO.cells 6 [(C.int .i64 a100), (C.bool a101), (C.int .i64 a102), a103, 
 a104, a105] false))) → (∃ c1 : C, (((ldC m0 (C.ptr b0 0)) = (some c1)) ∧ (∃ x2 : Int, (∃ b3 : Bool, 
 (∃ x4 : Int, (∃ c5 : C, (∃ c6 : C, (∃ c7 : C, (((ldA m0 (C.ptr m.nxt 0) 6) = (some [(C.int .i64 x2), 
 (C.bool b3), (C.int .i64 x4), c5, c6, c7])) ∧ (callP prog tbl [(V.agg 6 [(C.int .i64 x2), 
 (C.bool b3), (C.int .i64 x4), c5, c6, c7])] c1 m0 (fun v8 m9 => (∃ b10 : Bool, ((v8 = (V.c (C.bool b10))) ∧ 
 (Q (V.c (C.bool (!b10))) m9))))))))))))))))) : Wc prog tbl 104 [.agg 6 [.int .i64 a100, .bool a101, .int .i64 a102, a103, a104, a105], .c (.ptr b0 0)] m Q :=
 wc_eq (n := 2) rfl (by kernel_rfl) (by kernel_rfl) h
theorem c121 {a100 : Int} {b0 : Nat} {m : M} {Q : V → M → Prop} (h :
 (∃ c0 : C, (((ldC m (C.ptr b0 0)) = (some c0)) ∧ (callP prog tbl [(V.c (C.int .i64 a100))] c0 m (fun v1 m2 => 
 (∃ b3 : Bool, ((v1 = (V.c (C.bool b3))) ∧ (Q (V.c (C.bool (!b3))) m2)))))))) : Wc prog tbl 121 [.c (.int .i64 a100), .c (.ptr b0 0)] m Q :=
 wc_eq (n := 2) rfl (by kernel_rfl) (by kernel_rfl) h
theorem c134 {a100 : C} {b0 : Nat} {m : M} {Q : V → M → Prop} (h :
 (∃ c0 : C, (((ldC m (C.ptr b0 0)) = (some c0)) ∧ (callP prog tbl [(V.c a100)] c0 m (fun v1 m2 => (∃ b3 : Bool, 
 ((v1 = (V.c (C.bool b3))) ∧ (Q (V.c (C.bool (!b3))) m2)))))))) : Wc prog tbl 134 [.c (a100), .c (.ptr b0 0)] m Q :=
 wc_eq (n := 2) rfl (by kernel_rfl) (by kernel_rfl) h
theorem c123 {a100 : C} {b0 : Nat} {m : M} {Q : V → M → Prop} (h :
 (∃ c0 : C, (((ldC m (C.ptr b0 0)) = (some c0)) ∧ (callP prog tbl [(V.c a100)] c0 m (fun v1 m2 => (∃ b3 : Bool, 
 ((v1 = (V.c (C.bool b3))) ∧ (Q (V.c (C.bool (!b3))) m2)))))))) : Wc prog tbl 123 [.c (a100), .c (.ptr b0 0)] m Q :=
 wc_eq (n := 2) rfl (by kernel_rfl) (by kernel_rfl) h
end
end Go.Proofs.Ytbhdgedghfibcaa

namespace Go.Proofs.Ytbhdgedghfibcaa
open _root_.Go.Proofs.Try
open Go.Abs
set_option maxRecDepth 100000
noncomputable section
theorem w3 {a100 : C} {a200 : Int} {a300 : Int} {a400 : Int} {m : M} {Q : V → M → Prop} (h :
 (Wc prog tbl 16 [(V.c a100)] m (fun v0 m1 => (∃ b2 : Bool, ((v0 = (V.c (C.bool b2))) ∧ (ifB (!b2) (Wc prog tbl 17 [] m1 (fun v3 m4 => 
 (∃ b5 : Bool, ((v3 = (V.c (C.bool b5))) ∧ (Q (V.c (C.bool b5)) m4))))) (Wc prog tbl 19 [(V.c a100)] m1 (fun v6 m7 => 
 (∃ c8 : C, ((v6 = (V.c c8)) ∧ (Wc prog tbl 18 [(V.c c8), (V.c (C.int .i64 a200)), (V.c (C.int .i64 a300)), 
 (V.c (C.int .i64 a400))] m7 (fun v9 m10 => (∃ x11 : Int, (∃ x12 : Int, ((v9 = (V.tup [(U.c (C.int .i64 x11)), 
 (U.c (C.int .i64 x12))])) ∧ (Wc prog tbl 20 [(V.c a100)] m10 (fun v13 m14 => (∃ x15 : Int, 
 ((v13 = (V.c (C.int .i64 x15))) ∧ (Wc prog tbl 19 [(V.c a100)] m14 (fun v16 m17 => 
 (∃ c18 : C, ((v16 = (V.c c18)) ∧ (Wc prog tbl 21 [(V.c c18)] m17 (fun v19 m20 => (∃ x21 : Int, 
 ((v19 = (V.c (C.int .i64 x21))) ∧ (ifB (!decide (x21 = x15)) (Q (V.c (C.bool false)) m20) (ifB (decide (x15 = (0 : Int))) (Wc prog tbl 23 [(V.c a100)] m20 (fun v22 m23 => 
 (∃ x24 : Int, ((v22 = (V.c (C.int .i64 x24))) ∧ (fitsP .i64 (x24 - (1 : Int)) ∧ 
 (Wc prog tbl 22 [(V.c (C.int .i64 a200)), (V.c (C.int .i64 (0 : Int))), 
 (V.c (C.int .i64 (x24 - (1 : Int))))] m23 (fun v25 m26 => (∃ b27 : Bool, 
 ((v25 = (V.c (C.bool b27))) ∧ (ifB (!b27) (ifB (decide (x12 = (2 : Int))) (ifB (decide (x11 = (0 : Int))) (Wc prog tbl 17 [] m26 (fun v28 m29 => 
 (∃ b30 : Bool, ((v28 = (V.c (C.bool b30))) ∧ (Q (V.c (C.bool b30)) m29))))) (Q (V.c (C.bool false)) m26)) (Q (V.c (C.bool false)) m26)) (Wc prog tbl 22 [(V.c (C.int .i64 a300)), 
 (V.c (C.int .i64 (0 : Int))), (V.c (C.int .i64 (120 : Int)))] m26 (fun v31 m32 => 
 (∃ b33 : Bool, ((v31 = (V.c (C.bool b33))) ∧ (ifB (!b33) (ifB (decide (x12 = (2 : Int))) (ifB (decide (x11 = (0 : Int))) (Wc prog tbl 17 [] m32 (fun v34 m35 => 
 (∃ b36 : Bool, ((v34 = (V.c (C.bool b36))) ∧ (Q (V.c (C.bool b36)) m35))))) (Q (V.c (C.bool false)) m32)) (Q (V.c (C.bool false)) m32)) (Wc prog tbl 22 [(V.c (C.int .i64 a400)), 
 (V.c (C.int .i64 (0 : Int))), (V.c (C.int .i64 (100 : Int)))] m32 (fun v37 m38 => 
 (∃ b39 : Bool, ((v37 = (V.c (C.bool b39))) ∧ (ifB (!b39) (ifB (decide (x12 = (2 : Int))) (ifB (decide (x11 = (0 : Int))) (Wc prog tbl 17 [] m38 (fun v40 m41 => 
 (∃ b42 : Bool, ((v40 = (V.c (C.bool b42))) ∧ (Q (V.c (C.bool b42)) m41))))) (Q (V.c (C.bool false)) m38)) (Q (V.c (C.bool false)) m38)) (ifB (!decide (x15 = (0 : Int))) (ifB (decide (x12 = x15)) (ifB (decide (x11 = (0 : Int))) (Wc prog tbl 17 [] m38 (fun v43 m44 => 
 (∃ b45 : Bool, ((v43 = (V.c (C.bool b45))) ∧ (Q (V.c (C.bool b45)) m44))))) (Q (V.c (C.bool false)) m38)) (Q (V.c (C.bool false)) m38)) (ifB (decide (x12 = (0 : Int))) (Wc prog tbl 24 [(V.c a100), 
 (V.c (C.int .i64 a200)), (V.c (C.int .i64 a300)), (V.c (C.int .i64 a400))] m38 (fun v46 m47 => 
 (∃ x48 : Int, ((v46 = (V.c (C.int .i64 x48))) ∧ (ifB (decide (x11 = x48)) (Wc prog tbl 17 [] m47 (fun v49 m50 => 
 (∃ b51 : Bool, ((v49 = (V.c (C.bool b51))) ∧ (Q (V.c (C.bool b51)) m50))))) (Q (V.c (C.bool false)) m47)))))) (Q (V.c (C.bool false)) m38))))))))))))))))))))))) (ifB (!decide (x15 = (0 : Int))) (ifB (decide (x12 = x15)) (ifB (decide (x11 = (0 : Int))) (Wc prog tbl 17 [] m20 (fun v52 m53 => 
 (∃ b54 : Bool, ((v52 = (V.c (C.bool b54))) ∧ (Q (V.c (C.bool b54)) m53))))) (Q (V.c (C.bool false)) m20)) (Q (V.c (C.bool false)) m20)) (ifB (decide (x12 = (0 : Int))) (Wc prog tbl 24 [(V.c a100), 
 (V.c (C.int .i64 a200)), (V.c (C.int .i64 a300)), (V.c (C.int .i64 a400))] m20 (fun v55 m56 => 
 (∃ x57 : Int, ((v55 = (V.c (C.int .i64 x57))) ∧ (ifB (decide (x11 = x57)) (Wc prog tbl 17 [] m56 (fun v58 m59 => 
 (∃ b60 : Bool, ((v58 = (V.c (C.bool b60))) ∧ (Q (V.c (C.bool b60)) m59))))) (Q (V.c (C.bool false)) m56)))))) (Q (V.c (C.bool false)) m20)))))))))))))))))))))))))))))))) : Wc prog tbl 3 [(V.c a100), (V.c (C.int .i64 a200)), (V.c (C.int .i64 a300)), (V.c (C.int .i64 a400))] m Q :=
 wc_eq (n := 4) rfl (by kernel_rfl) (by kernel_rfl) h
theorem w10 {a100 : C} {a200 : Int} {a300 : Int} {a400 : Int} {a500 : Int} {m : M} {Q : V → M → Prop} (h :
 (Wc prog tbl 49 [(V.c a100)] m (fun v0 m1 => (∃ b2 : Bool, ((v0 = (V.c (C.bool b2))) ∧ (ifB (!b2) (Wc prog tbl 17 [] m1 (fun v3 m4 => 
 (∃ b5 : Bool, ((v3 = (V.c (C.bool b5))) ∧ (Q (V.c (C.bool b5)) m4))))) (Wc prog tbl 23 [(V.c a100)] m1 (fun v6 m7 => 
 (∃ x8 : Int, ((v6 = (V.c (C.int .i64 x8))) ∧ (((0 : Int) ≤ (wrapZ .i64 a200)) ∧ (((0 : Int) < x8) ∧ 
 (fitsP .i64 ((wrapZ .i64 a200) % x8) ∧ (((0 : Int) ≤ (wrapZ .i64 a300)) ∧ (((0 : Int) < (121 : Int)) ∧ 
 (fitsP .i64 ((wrapZ .i64 a300) % (121 : Int)) ∧ (((0 : Int) ≤ (wrapZ .i64 a400)) ∧ 
 (((0 : Int) < (101 : Int)) ∧ (fitsP .i64 ((wrapZ .i64 a400) % (101 : Int)) ∧ 
 (Wc prog tbl 50 [(V.c a100), (V.c (C.int .i64 ((wrapZ .i64 a300) % (121 : Int))))] m7 (fun v9 m10 => 
 (∃ x11 : Int, (∃ b12 : Bool, (∃ x13 : Int, (∃ c14 : C, (∃ c15 : C, (∃ c16 : C, ((v9 = (V.agg 6 [(C.int .i64 x11), 
 (C.bool b12), (C.int .i64 x13), c14, c15, c16])) ∧ (∀ m17 : M, ((m17 = (M.new m10 (AO.cells 6 [(C.int .i64 (0 : Int)), 
 (C.bool false), (C.int .i64 (0 : Int)), C.sl0, C.sl0, C.sl0] false))) → 
 (∃ m18 : M, (((stC m17 (C.ptr m10.nxt 0) 6 [(C.int .i64 x11), (C.bool b12), 
 (C.int .i64 x13), c14, c15, c16]) = (some m18)) ∧ (isPt (C.ptr m10.nxt 0) ∧ 
 (∃ c19 : C, (((ldC m18 (C.ptr m10.nxt 5)) = (some c19)) ∧ (∃ n20 : Nat, 
 ((((wrapZ .i64 a200) % x8) = ((n20 : Nat) : Int)) ∧ ((n20 < (slLen c19)) ∧ 
 (∃ c21 : C, (((ldC m18 (slAt c19 (n20 * 1))) = (some c21)) ∧ (isPt (C.ptr m10.nxt 0) ∧ 
 (∃ c22 : C, (((ldC m18 (C.ptr m10.nxt 3)) = (some c22)) ∧ (Wc prog tbl 52 [(V.c c22), 
 (V.c (C.int .i64 ((wrapZ .i64 a300) % (121 : Int))))] m18 (fun v23 m24 => 
 (∃ x25 : Int, ((v23 = (V.c (C.int .i64 x25))) ∧ ((ifB (noFnC c21) ((ldC m24 (slAt c19 (n20 * 1))) = (some c21)) False) ∧ 
 ((ifB (noFnC c19) ((ldC m24 (C.ptr m10.nxt 5)) = (some c19)) False) ∧ 
 (∃ n26 : Nat, ((x25 = ((n26 : Nat) : Int)) ∧ ((n26 < (slLen c21)) ∧ (∃ c27 : C, 
 (((ldC m24 (slAt c21 (n26 * 1))) = (some c27)) ∧ (Wc prog tbl 51 [(V.c c27), 
 (V.c (C.int .i64 (0 : Int)))] m24 (fun v28 m29 => (∃ b30 : Bool, ((v28 = (V.c (C.bool b30))) ∧ 
 (ifB (!b30) (Wc prog tbl 17 [] m29 (fun v31 m32 => (∃ b33 : Bool, ((v31 = (V.c (C.bool b33))) ∧ 
 (Q (V.c (C.bool b33)) m32))))) (fitsP .i64 (((wrapZ .i64 a400) % (101 : Int)) + (wrapZ .i64 a500)) ∧ 
 (Wc prog tbl 19 [(V.c a100)] m29 (fun v34 m35 => (∃ c36 : C, ((v34 = (V.c c36)) ∧ 
 (Wc prog tbl 18 [(V.c c36), (V.c (C.int .i64 ((wrapZ .i64 a200) % x8))), 
 (V.c (C.int .i64 ((wrapZ .i64 a300) % (121 : Int)))), (V.c (C.int .i64 ((wrapZ .i64 a400) % (101 : Int))))] m35 (fun v37 m38 => 
 (∃ x39 : Int, (∃ x40 : Int, ((v37 = (V.tup [(U.c (C.int .i64 x39)), (U.c (C.int .i64 x40))])) ∧ 
 (Wc prog tbl 19 [(V.c a100)] m38 (fun v41 m42 => (∃ c43 : C, ((v41 = (V.c c43)) ∧ 
 (Wc prog tbl 18 [(V.c c43), (V.c (C.int .i64 ((wrapZ .i64 a200) % x8))), 
 (V.c (C.int .i64 ((wrapZ .i64 a300) % (121 : Int)))), (V.c (C.int .i64 (Min.min (100 : Int) (((wrapZ .i64 a400) % (101 : Int)) + (wrapZ .i64 a500)))))] m42 (fun v44 m45 => 
 (∃ x46 : Int, (∃ x47 : Int, ((v44 = (V.tup [(U.c (C.int .i64 x46)), (U.c (C.int .i64 x47))])) ∧ 
 (Wc prog tbl 19 [(V.c a100)] m45 (fun v48 m49 => (∃ c50 : C, ((v48 = (V.c c50)) ∧ 
 (Wc prog tbl 38 [(V.c c50), (V.c (C.int .i64 ((wrapZ .i64 a200) % x8))), 
 (V.c (C.int .i64 ((wrapZ .i64 a300) % (121 : Int))))] m49 (fun v51 m52 => 
 (∃ x53 : Int, (∃ x54 : Int, ((v51 = (V.tup [(U.c (C.int .i64 x53)), (U.c (C.int .i64 x54))])) ∧ 
 (ifB (!decide (x40 = (0 : Int))) (Q (V.c (C.bool false)) m52) (ifB (!decide (x47 = (0 : Int))) (Q (V.c (C.bool false)) m52) (ifB (decide (x46 < x39)) (Q (V.c (C.bool false)) m52) (ifB (!decide (x54 = (0 : Int))) (ifB (!decide (x54 = (7 : Int))) (Q (V.c (C.bool false)) m52) (ifB (decide (x54 = (0 : Int))) (ifB ((decide ((0 : Int) < x39)) == (decide (x53 ≤ ((wrapZ .i64 a400) % (101 : Int))))) (Wc prog tbl 17 [] m52 (fun v55 m56 => 
 (∃ b57 : Bool, ((v55 = (V.c (C.bool b57))) ∧ (Q (V.c (C.bool b57)) m56))))) (Q (V.c (C.bool false)) m52)) (ifB ((decide ((0 : Int) < x39)) == false) (Wc prog tbl 17 [] m52 (fun v58 m59 => 
 (∃ b60 : Bool, ((v58 = (V.c (C.bool b60))) ∧ (Q (V.c (C.bool b60)) m59))))) (Q (V.c (C.bool false)) m52)))) (ifB (decide (x54 = (0 : Int))) (ifB ((decide ((0 : Int) < x39)) == (decide (x53 ≤ ((wrapZ .i64 a400) % (101 : Int))))) (Wc prog tbl 17 [] m52 (fun v61 m62 => 
 (∃ b63 : Bool, ((v61 = (V.c (C.bool b63))) ∧ (Q (V.c (C.bool b63)) m62))))) (Q (V.c (C.bool false)) m52)) (ifB ((decide ((0 : Int) < x39)) == false) (Wc prog tbl 17 [] m52 (fun v64 m65 => 
 (∃ b66 : Bool, ((v64 = (V.c (C.bool b66))) ∧ (Q (V.c (C.bool b66)) m65))))) (Q (V.c (C.bool false)) m52)))))))))))))))))))))))))))))))))))))))))))))))))))))))))))))))))))))))))))))))))))))))))))))) : Wc prog tbl 10 [(V.c a100), (V.c (C.int .u8 a200)), (V.c (C.int .u8 a300)), (V.c (C.int .u8 a400)), (V.c (C.int .u8 a500))] m Q :=
 wc_eq (n := 5) rfl (by kernel_rfl) (by kernel_rfl) h
theorem w16 {a100 : C} {m : M} {Q : V → M → Prop} (h :
 (isSl a100 ∧ (ifB (decide ((5 : Int) < (((slLen a100) : Nat) : Int))) (Q (V.c (C.bool false)) m) (∀ R0 : List V → 
 M → Prop, ((∀ b1 : Bool, (∀ b2 : Bool, (∀ b3 : Bool, (∀ x4 : Int, (∀ m5 : M, ((isSl a100 ∧ (ifB (decide (x4 < (((slLen a100) : Nat) : Int))) (∃ n6 : Nat, 
 ((x4 = ((n6 : Nat) : Int)) ∧ ((n6 < (slLen a100)) ∧ (isPt (slAt a100 (n6 * 6)) ∧ (∃ c7 : C, (((ldC m5 (ptAdd (slAt a100 (n6 * 6)) 3)) = (some c7)) ∧ 
 (isSl c7 ∧ (ifB (decide ((7 : Int) < (((slLen c7) : Nat) : Int))) (Q (V.c (C.bool false)) m5) (∃ n8 : Nat, 
 ((x4 = ((n8 : Nat) : Int)) ∧ ((n8 < (slLen a100)) ∧ (isPt (slAt a100 (n8 * 6)) ∧ (∃ c9 : C, 
 (((ldC m5 (ptAdd (slAt a100 (n8 * 6)) 4)) = (some c9)) ∧ (isSl c9 ∧ (ifB (decide ((7 : Int) < (((slLen c9) : Nat) : Int))) (Q (V.c (C.bool false)) m5) (∃ n10 : Nat, 
 ((x4 = ((n10 : Nat) : Int)) ∧ ((n10 < (slLen a100)) ∧ (isPt (slAt a100 (n10 * 6)) ∧ 
 (∃ c11 : C, (((ldC m5 (ptAdd (slAt a100 (n10 * 6)) 5)) = (some c11)) ∧ 
 (isSl c11 ∧ (ifB (decide ((5 : Int) < (((slLen c11) : Nat) : Int))) (Q (V.c (C.bool false)) m5) (∀ R12 : List V → 
 M → Prop, ((∀ b13 : Bool, (∀ b14 : Bool, (∀ x15 : Int, (∀ m16 : M, ((∃ n17 : Nat, 
 ((x4 = ((n17 : Nat) : Int)) ∧ ((n17 < (slLen a100)) ∧ (isPt (slAt a100 (n17 * 6)) ∧ 
 (∃ c18 : C, (((ldC m16 (ptAdd (slAt a100 (n17 * 6)) 5)) = (some c18)) ∧ 
 (isSl c18 ∧ (ifB (decide (x15 < (((slLen c18) : Nat) : Int))) (∃ n19 : Nat, ((x4 = ((n19 : Nat) : Int)) ∧ 
 ((n19 < (slLen a100)) ∧ (isPt (slAt a100 (n19 * 6)) ∧ (∃ c20 : C, (((ldC m16 (ptAdd (slAt a100 (n19 * 6)) 5)) = (some c20)) ∧ 
 (∃ n21 : Nat, ((x15 = ((n21 : Nat) : Int)) ∧ ((n21 < (slLen c20)) ∧ (∃ c22 : C, 
 (((ldC m16 (slAt c20 (n21 * 1))) = (some c22)) ∧ (isSl c22 ∧ (ifB (decide ((7 : Int) < (((slLen c22) : Nat) : Int))) (Q (V.c (C.bool false)) m16) (∀ R23 : List V → 
 M → Prop, ((∀ b24 : Bool, (∀ x25 : Int, (∀ m26 : M, ((∃ n27 : Nat, ((x4 = ((n27 : Nat) : Int)) ∧ 
 ((n27 < (slLen a100)) ∧ (isPt (slAt a100 (n27 * 6)) ∧ (∃ c28 : C, (((ldC m26 (ptAdd (slAt a100 (n27 * 6)) 5)) = (some c28)) ∧ 
 (∃ n29 : Nat, ((x15 = ((n29 : Nat) : Int)) ∧ ((n29 < (slLen c28)) ∧ (∃ c30 : C, 
 (((ldC m26 (slAt c28 (n29 * 1))) = (some c30)) ∧ (isSl c30 ∧ (ifB (decide (x25 < (((slLen c30) : Nat) : Int))) (∃ n31 : Nat, 
 ((x4 = ((n31 : Nat) : Int)) ∧ ((n31 < (slLen a100)) ∧ (isPt (slAt a100 (n31 * 6)) ∧ 
 (∃ c32 : C, (((ldC m26 (ptAdd (slAt a100 (n31 * 6)) 5)) = (some c32)) ∧ 
 (∃ n33 : Nat, ((x15 = ((n33 : Nat) : Int)) ∧ ((n33 < (slLen c32)) ∧ (∃ c34 : C, 
 (((ldC m26 (slAt c32 (n33 * 1))) = (some c34)) ∧ (∃ n35 : Nat, ((x25 = ((n35 : Nat) : Int)) ∧ 
 ((n35 < (slLen c34)) ∧ (∃ c36 : C, (((ldC m26 (slAt c34 (n35 * 1))) = (some c36)) ∧ 
 (isSl c36 ∧ (ifB (decide ((7 : Int) < (((slLen c36) : Nat) : Int))) (Q (V.c (C.bool false)) m26) (fitsP .i64 (x25 + (1 : Int)) ∧ 
 (R23 [(V.c (C.bool b24)), (V.c (C.int .i64 (x25 + (1 : Int))))] m26)))))))))))))))))))) (fitsP .i64 (x15 + (1 : Int)) ∧ 
 (R12 [(V.c (C.bool b24)), (V.c (C.bool b24)), (V.c (C.int .i64 (x15 + (1 : Int))))] m26))))))))))))))) → 
 (R23 [(V.c (C.bool b24)), (V.c (C.int .i64 x25))] m26))))) → (R23 [(V.c (C.bool b13)), 
 (V.c (C.int .i64 (0 : Int)))] m16)))))))))))))))) (fitsP .i64 (x4 + (1 : Int)) ∧ 
 (R0 [(V.c (C.bool b13)), (V.c (C.bool b13)), (V.c (C.bool b13)), (V.c (C.int .i64 (x4 + (1 : Int))))] m16)))))))))) → 
 (R12 [(V.c (C.bool b13)), (V.c (C.bool b14)), (V.c (C.int .i64 x15))] m16)))))) → 
 (R12 [(V.c (C.bool b1)), (V.c (C.bool b1)), (V.c (C.int .i64 (0 : Int)))] m5))))))))))))))))))))))))))) (Q (V.c (C.bool true)) m5))) → 
 (R0 [(V.c (C.bool b1)), (V.c (C.bool b2)), (V.c (C.bool b3)), (V.c (C.int .i64 x4))] m5))))))) → 
 (R0 [(V.c (C.bool false)), (V.c (C.bool false)), (V.c (C.bool false)), (V.c (C.int .i64 (0 : Int)))] m)))))) : Wc prog tbl 16 [(V.c a100)] m Q :=
 wc_eq (n := 1) rfl (by kernel_rfl) (by kernel_rfl) h
theorem w20 {a100 : C} {m : M} {Q : V → M → Prop} (h :
 (Wc prog tbl 59 [(V.c a100)] m (fun v0 m1 => (∃ x2 : Int, ((v0 = (V.c (C.int .i64 x2))) ∧ (Q (V.c (C.int .i64 x2)) m1)))))) : Wc prog tbl 20 [(V.c a100)] m Q :=
 wc_eq (n := 1) rfl (by kernel_rfl) (by kernel_rfl) h
theorem w23 {a100 : C} {m : M} {Q : V → M → Prop} (h :
 (∃ n0 : Nat, (((0 : Int) = ((n0 : Nat) : Int)) ∧ ((n0 < (slLen a100)) ∧ (isPt (slAt a100 (n0 * 6)) ∧ (∃ c1 : C, 
 (((ldC m (ptAdd (slAt a100 (n0 * 6)) 5)) = (some c1)) ∧ (isSl c1 ∧ (Q (V.c (C.int .i64 (((slLen c1) : Nat) : Int))) m))))))))) : Wc prog tbl 23 [(V.c a100)] m Q :=
 wc_eq (n := 1) rfl (by kernel_rfl) (by kernel_rfl) h
theorem w38 {a100 : C} {a200 : Int} {a300 : Int} {m : M} {Q : V → M → Prop} (h :
 (Wc prog tbl 53 [(V.c a100)] m (fun v0 m1 => (∃ c2 : C, (∃ c3 : C, (∃ x4 : Int, ((v0 = (V.tup [(U.agg 2 [c2, c3]), 
 (U.c (C.int .i64 x4))])) ∧ (∀ m5 : M, ((m5 = (M.new m1 (AO.cells 2 [C.sl0, C.map0] false))) → 
 (∃ m6 : M, (((stC m5 (C.ptr m1.nxt 0) 2 [c2, c3]) = (some m6)) ∧ (ifB (!decide (x4 = (0 : Int))) (Q (V.tup [(U.c (C.int .i64 (0 : Int))), 
 (U.c (C.int .i64 x4))]) m6) (isPt (C.ptr m1.nxt 0) ∧ (∃ c7 : C, (((ldC m6 (C.ptr m1.nxt 0)) = (some c7)) ∧ 
 (Wc prog tbl 54 [(V.c c7), (V.c (C.int .i64 a200))] m6 (fun v8 m9 => (∃ b10 : Bool, ((v8 = (V.c (C.bool b10))) ∧ 
 (ifB (!b10) (Q (V.tup [(U.c (C.int .i64 (0 : Int))), (U.c (C.int .i64 (2 : Int)))]) m9) (Wc prog tbl 55 [(V.c (C.int .i64 a300))] m9 (fun v11 m12 => 
 (∃ b13 : Bool, ((v11 = (V.c (C.bool b13))) ∧ (ifB (!b13) (Q (V.tup [(U.c (C.int .i64 (0 : Int))), 
 (U.c (C.int .i64 (2 : Int)))]) m12) (∀ R14 : List V → M → Prop, ((∀ x15 : Int, 
 (∀ x16 : Int, (∀ x17 : Int, (∀ m18 : M, ((ifB (decide (x17 < (101 : Int))) (∃ c19 : C, 
 (∃ c20 : C, (((ldA m18 (C.ptr m1.nxt 0) 2) = (some [c19, c20])) ∧ (Wc prog tbl 57 [(V.agg 2 [c19, 
 c20]), (V.agg 3 [(C.int .i64 a300), (C.int .i64 x17), (C.int .i64 a200)])] m18 (fun v21 m22 => 
 (∃ x23 : Int, ((v21 = (V.c (C.int .i64 x23))) ∧ (ifB (decide ((0 : Int) < x23)) (Q (V.tup [(U.c (C.int .i64 x17)), 
 (U.c (C.int .i64 (0 : Int)))]) m22) (fitsP .i64 (x17 + (1 : Int)) ∧ 
 (R14 [(V.c (C.int .i64 x15)), (V.c (C.int .i64 x16)), (V.c (C.int .i64 (x17 + (1 : Int))))] m22)))))))))) (Q (V.tup [(U.c (C.int .i64 (0 : Int))), 
 (U.c (C.int .i64 (7 : Int)))]) m18)) → (R14 [(V.c (C.int .i64 x15)), 
 (V.c (C.int .i64 x16)), (V.c (C.int .i64 x17))] m18)))))) → (R14 [(V.c (C.int .i64 (0 : Int))), 
 (V.c (C.int .i64 (0 : Int))), (V.c (C.int .i64 (0 : Int)))] m12)))))))))))))))))))))))))))) : Wc prog tbl 38 [(V.c a100), (V.c (C.int .i64 a200)), (V.c (C.int .i64 a300))] m Q :=
 wc_eq (n := 3) rfl (by kernel_rfl) (by kernel_rfl) h
theorem w50 {a100 : C} {a200 : Int} {m : M} {Q : V → M → Prop} (h :
 (∀ m0 : M, ((m0 = (M.new m (AO.cells 6 [(C.int .i64 (0 : Int)), (C.bool false), (C.int .i64 (0 : Int)), 
 C.sl0, C.sl0, C.sl0] false))) → (∀ R1 : List V → M → Prop, ((∀ c2 : C, (∀ x3 : Int, (∀ m4 : M, ((isSl a100 ∧ 
 (ifB (decide (x3 < (((slLen a100) : Nat) : Int))) (∃ n5 : Nat, ((x3 = ((n5 : Nat) : Int)) ∧ ((n5 < (slLen a100)) ∧ 
 (isPt (slAt a100 (n5 * 6)) ∧ (∃ x6 : Int, (((ldC m4 (ptAdd (slAt a100 (n5 * 6)) 0)) = (some (C.int .i64 x6))) ∧ 
 (∀ m7 : M, ((m7 = (M.new m4 (AO.cells 1 [(C.int .i64 x6)] false))) → (∃ c8 : C, (∃ m9 : M, 
 ((ApR prog 73 m7 c2 (C.sl m4.nxt 0 1 0 (some 1)) c8 m9) ∧ (fitsP .i64 (x3 + (1 : Int)) ∧ 
 (R1 [(V.c c8), (V.c (C.int .i64 (x3 + (1 : Int))))] m9))))))))))))) (Wc prog tbl 52 [(V.c c2), 
 (V.c (C.int .i64 a200))] m4 (fun v10 m11 => (∃ x12 : Int, ((v10 = (V.c (C.int .i64 x12))) ∧ 
 (∃ n13 : Nat, ((x12 = ((n13 : Nat) : Int)) ∧ ((n13 < (slLen a100)) ∧ (∃ x14 : Int, (∃ b15 : Bool, 
 (∃ x16 : Int, (∃ c17 : C, (∃ c18 : C, (∃ c19 : C, (((ldA m11 (slAt a100 (n13 * 6)) 6) = (some [(C.int .i64 x14), 
 (C.bool b15), (C.int .i64 x16), c17, c18, c19])) ∧ (∃ m20 : M, (((stC m11 (C.ptr m.nxt 0) 6 [(C.int .i64 x14), 
 (C.bool b15), (C.int .i64 x16), c17, c18, c19]) = (some m20)) ∧ 
 (∃ x21 : Int, (∃ b22 : Bool, (∃ x23 : Int, (∃ c24 : C, (∃ c25 : C, (∃ c26 : C, (((ldA m20 (C.ptr m.nxt 0) 6) = (some [(C.int .i64 x21), 
 (C.bool b22), (C.int .i64 x23), c24, c25, c26])) ∧ (Q (V.agg 6 [(C.int .i64 x21), 
 (C.bool b22), (C.int .i64 x23), c24, c25, c26]) m20)))))))))))))))))))))))))) → 
 (R1 [(V.c c2), (V.c (C.int .i64 x3))] m4))))) → (R1 [(V.c C.sl0), (V.c (C.int .i64 (0 : Int)))] m0)))))) : Wc prog tbl 50 [(V.c a100), (V.c (C.int .i64 a200))] m Q :=
 wc_eq (n := 2) rfl (by kernel_rfl) (by kernel_rfl) h
theorem w53 {a100 : C} {m : M} {Q : V → M → Prop} (h :
 (∀ m0 : M, ((m0 = (M.new m (AO.cells 2 [C.sl0, C.map0] false))) → (Wc prog tbl 21 [(V.c a100)] m0 (fun v1 m2 => 
 (∃ x3 : Int, ((v1 = (V.c (C.int .i64 x3))) ∧ (ifB (!decide (x3 = (0 : Int))) (∃ m4 : M, (((stC m2 (C.ptr m.nxt 0) 2 [C.sl0, 
 C.map0]) = (some m4)) ∧ (∃ c5 : C, (∃ c6 : C, (((ldA m4 (C.ptr m.nxt 0) 2) = (some [c5, 
 c6])) ∧ (Q (V.tup [(U.agg 2 [c5, c6]), (U.c (C.int .i64 x3))]) m4)))))) (∀ m7 : M, ((m7 = (M.new m2 (AO.map [] 0))) → 
 (∃ m8 : M, (((stC m7 (C.ptr m.nxt 0) 2 [a100, (C.map m2.nxt)]) = (some m8)) ∧ (∃ c9 : C, 
 (∃ c10 : C, (((ldA m8 (C.ptr m.nxt 0) 2) = (some [c9, c10])) ∧ (Q (V.tup [(U.agg 2 [c9, 
 c10]), (U.c (C.int .i64 (0 : Int)))]) m8)))))))))))))))) : Wc prog tbl 53 [(V.c a100)] m Q :=
 wc_eq (n := 1) rfl (by kernel_rfl) (by kernel_rfl) h
theorem w56 {a100 : Int} {m : M} {Q : V → M → Prop} (h :
 (Wc prog tbl 78 [(V.agg 2 [(C.int .i64 (0 : Int)), (C.int .i64 (100 : Int))]), (V.c (C.int .i64 a100))] m (fun v0 m1 => 
 (∃ b2 : Bool, ((v0 = (V.c (C.bool b2))) ∧ (Q (V.c (C.bool b2)) m1)))))) : Wc prog tbl 56 [(V.c (C.int .i64 a100))] m Q :=
 wc_eq (n := 1) rfl (by kernel_rfl) (by kernel_rfl) h
theorem w59 {a100 : C} {m : M} {Q : V → M → Prop} (h :
 (isSl a100 ∧ (ifB (decide ((3 : Int) < (((slLen a100) : Nat) : Int))) (Q (V.c (C.int .i64 (3 : Int))) m) (∀ R0 : List V → 
 M → Prop, ((∀ x1 : Int, (∀ x2 : Int, (∀ m3 : M, ((isSl a100 ∧ (ifB (decide (x2 < (((slLen a100) : Nat) : Int))) (∃ n4 : Nat, 
 ((x2 = ((n4 : Nat) : Int)) ∧ ((n4 < (slLen a100)) ∧ (isPt (slAt a100 (n4 * 6)) ∧ (∃ c5 : C, (((ldC m3 (ptAdd (slAt a100 (n4 * 6)) 3)) = (some c5)) ∧ 
 (isSl c5 ∧ (ifB (decide ((4 : Int) < (((slLen c5) : Nat) : Int))) (Q (V.c (C.int .i64 (3 : Int))) m3) (∃ n6 : Nat, 
 ((x2 = ((n6 : Nat) : Int)) ∧ ((n6 < (slLen a100)) ∧ (isPt (slAt a100 (n6 * 6)) ∧ (∃ c7 : C, 
 (((ldC m3 (ptAdd (slAt a100 (n6 * 6)) 4)) = (some c7)) ∧ (isSl c7 ∧ (ifB (decide ((5 : Int) < (((slLen c7) : Nat) : Int))) (Q (V.c (C.int .i64 (3 : Int))) m3) (∃ n8 : Nat, 
 ((x2 = ((n8 : Nat) : Int)) ∧ ((n8 < (slLen a100)) ∧ (isPt (slAt a100 (n8 * 6)) ∧ 
 (∃ c9 : C, (((ldC m3 (ptAdd (slAt a100 (n8 * 6)) 5)) = (some c9)) ∧ (isSl c9 ∧ 
 (ifB (decide ((3 : Int) < (((slLen c9) : Nat) : Int))) (Q (V.c (C.int .i64 (3 : Int))) m3) (fitsP .i64 (x2 + (1 : Int)) ∧ 
 (R0 [(V.c (C.int .i64 x1)), (V.c (C.int .i64 (x2 + (1 : Int))))] m3)))))))))))))))))))))))))) (∀ R10 : List V → 
 M → Prop, ((∀ x11 : Int, (∀ x12 : Int, (∀ m13 : M, ((isSl a100 ∧ (ifB (decide (x12 < (((slLen a100) : Nat) : Int))) (∃ n14 : Nat, 
 ((x12 = ((n14 : Nat) : Int)) ∧ ((n14 < (slLen a100)) ∧ (∃ x15 : Int, (∃ b16 : Bool, (∃ x17 : Int, 
 (∃ c18 : C, (∃ c19 : C, (∃ c20 : C, (((ldA m13 (slAt a100 (n14 * 6)) 6) = (some [(C.int .i64 x15), 
 (C.bool b16), (C.int .i64 x17), c18, c19, c20])) ∧ (Wc prog tbl 81 [(V.agg 6 [(C.int .i64 x15), 
 (C.bool b16), (C.int .i64 x17), c18, c19, c20])] m13 (fun v21 m22 => (∃ b23 : Bool, 
 ((v21 = (V.c (C.bool b23))) ∧ (ifB (!b23) (Q (V.c (C.int .i64 (1 : Int))) m22) (∃ n24 : Nat, 
 ((x12 = ((n24 : Nat) : Int)) ∧ ((n24 < (slLen a100)) ∧ (isPt (slAt a100 (n24 * 6)) ∧ 
 (∃ c25 : C, (((ldC m22 (ptAdd (slAt a100 (n24 * 6)) 5)) = (some c25)) ∧ 
 (isSl c25 ∧ (∃ n26 : Nat, (((0 : Int) = ((n26 : Nat) : Int)) ∧ ((n26 < (slLen a100)) ∧ 
 (isPt (slAt a100 (n26 * 6)) ∧ (∃ c27 : C, (((ldC m22 (ptAdd (slAt a100 (n26 * 6)) 5)) = (some c27)) ∧ 
 (isSl c27 ∧ (ifB (!decide ((((slLen c25) : Nat) : Int) = (((slLen c27) : Nat) : Int))) (Q (V.c (C.int .i64 (1 : Int))) m22) (ifB (decide (x12 = (0 : Int))) (∃ n28 : Nat, 
 ((x12 = ((n28 : Nat) : Int)) ∧ ((n28 < (slLen a100)) ∧ (isPt (slAt a100 (n28 * 6)) ∧ 
 (∃ x29 : Int, (((ldC m22 (ptAdd (slAt a100 (n28 * 6)) 0)) = (some (C.int .i64 x29))) ∧ 
 (ifB (!decide (x29 = (0 : Int))) (Q (V.c (C.int .i64 (1 : Int))) m22) (ifB (decide ((0 : Int) < x12)) (∃ n30 : Nat, 
 ((x12 = ((n30 : Nat) : Int)) ∧ ((n30 < (slLen a100)) ∧ (isPt (slAt a100 (n30 * 6)) ∧ 
 (∃ x31 : Int, (((ldC m22 (ptAdd (slAt a100 (n30 * 6)) 0)) = (some (C.int .i64 x31))) ∧ 
 (fitsP .i64 (x12 - (1 : Int)) ∧ (∃ n32 : Nat, (((x12 - (1 : Int)) = ((n32 : Nat) : Int)) ∧ 
 ((n32 < (slLen a100)) ∧ (isPt (slAt a100 (n32 * 6)) ∧ (∃ x33 : Int, (((ldC m22 (ptAdd (slAt a100 (n32 * 6)) 0)) = (some (C.int .i64 x33))) ∧ 
 (ifB (decide (x31 ≤ x33)) (Q (V.c (C.int .i64 (1 : Int))) m22) (fitsP .i64 (x12 + (1 : Int)) ∧ 
 (R10 [(V.c (C.int .i64 x11)), (V.c (C.int .i64 (x12 + (1 : Int))))] m22)))))))))))))))) (fitsP .i64 (x12 + (1 : Int)) ∧ 
 (R10 [(V.c (C.int .i64 x11)), (V.c (C.int .i64 (x12 + (1 : Int))))] m22)))))))))) (ifB (decide ((0 : Int) < x12)) (∃ n34 : Nat, 
 ((x12 = ((n34 : Nat) : Int)) ∧ ((n34 < (slLen a100)) ∧ (isPt (slAt a100 (n34 * 6)) ∧ 
 (∃ x35 : Int, (((ldC m22 (ptAdd (slAt a100 (n34 * 6)) 0)) = (some (C.int .i64 x35))) ∧ 
 (fitsP .i64 (x12 - (1 : Int)) ∧ (∃ n36 : Nat, (((x12 - (1 : Int)) = ((n36 : Nat) : Int)) ∧ 
 ((n36 < (slLen a100)) ∧ (isPt (slAt a100 (n36 * 6)) ∧ (∃ x37 : Int, (((ldC m22 (ptAdd (slAt a100 (n36 * 6)) 0)) = (some (C.int .i64 x37))) ∧ 
 (ifB (decide (x35 ≤ x37)) (Q (V.c (C.int .i64 (1 : Int))) m22) (fitsP .i64 (x12 + (1 : Int)) ∧ 
 (R10 [(V.c (C.int .i64 x11)), (V.c (C.int .i64 (x12 + (1 : Int))))] m22)))))))))))))))) (fitsP .i64 (x12 + (1 : Int)) ∧ 
 (R10 [(V.c (C.int .i64 x11)), (V.c (C.int .i64 (x12 + (1 : Int))))] m22)))))))))))))))))))))))))))))))))) (isSl a100 ∧ 
 (ifB (decide ((((slLen a100) : Nat) : Int) = (0 : Int))) (Q (V.c (C.int .i64 (1 : Int))) m13) (Q (V.c (C.int .i64 (0 : Int))) m13))))) → 
 (R10 [(V.c (C.int .i64 x11)), (V.c (C.int .i64 x12))] m13))))) → (R10 [(V.c (C.int .i64 x1)), 
 (V.c (C.int .i64 (0 : Int)))] m3))))) → (R0 [(V.c (C.int .i64 x1)), (V.c (C.int .i64 x2))] m3))))) → 
 (R0 [(V.c (C.int .i64 (0 : Int))), (V.c (C.int .i64 (0 : Int)))] m)))))) : Wc prog tbl 59 [(V.c a100)] m Q :=
 wc_eq (n := 1) rfl (by kernel_rfl) (by kernel_rfl) h
theorem w77 {a100 : Int} {a200 : Int} {m : M} {Q : V → M → Prop} (h :
 (fitsP .i64 (a200 - (1 : Int)) ∧ (Wc prog tbl 78 [(V.agg 2 [(C.int .i64 (0 : Int)), (C.int .i64 (a200 - (1 : Int)))]), 
 (V.c (C.int .i64 a100))] m (fun v0 m1 => (∃ b2 : Bool, ((v0 = (V.c (C.bool b2))) ∧ (Q (V.c (C.bool b2)) m1))))))) : Wc prog tbl 77 [(V.c (C.int .i64 a100)), (V.c (C.int .i64 a200))] m Q :=
 wc_eq (n := 2) rfl (by kernel_rfl) (by kernel_rfl) h
theorem w80 {a100 : Int} {a101 : Bool} {a102 : Int} {a103 : C} {a104 : C} {a105 : C} {a200 : Int} {a201 : Int} {a202 : Int} {m : M} {Q : V → M → Prop} (h :
 (∀ m0 : M, ((m0 = (M.new m (AO.cells 6 [(C.int .i64 a100), (C.bool a101), (C.int .i64 a102), a103, 
 a104, a105] false))) → (∀ m1 : M, ((m1 = (M.new m0 (AO.cells 3 [(C.int .i64 a200), (C.int .i64 a201), 
 (C.int .i64 a202)] false))) → (∃ x2 : Int, (∃ b3 : Bool, (∃ x4 : Int, (∃ c5 : C, (∃ c6 : C, 
 (∃ c7 : C, (((ldA m1 (C.ptr m.nxt 0) 6) = (some [(C.int .i64 x2), (C.bool b3), (C.int .i64 x4), 
 c5, c6, c7])) ∧ (∃ x8 : Int, (∃ x9 : Int, (∃ x10 : Int, (((ldA m1 (C.ptr m0.nxt 0) 3) = (some [(C.int .i64 x8), 
 (C.int .i64 x9), (C.int .i64 x10)])) ∧ (Wc prog tbl 99 [(V.agg 6 [(C.int .i64 x2), 
 (C.bool b3), (C.int .i64 x4), c5, c6, c7]), (V.agg 3 [(C.int .i64 x8), (C.int .i64 x9), 
 (C.int .i64 x10)])] m1 (fun v11 m12 => (∃ x13 : Int, ((v11 = (V.c (C.int .i64 x13))) ∧ 
 (isPt (C.ptr m.nxt 0) ∧ (∃ x14 : Int, (((ldC m12 (C.ptr m.nxt 2)) = (some (C.int .i64 x14))) ∧ 
 (ifB (decide (x13 < x14)) (Q (V.c (C.int .i64 (0 : Int))) m12) (∃ x15 : Int, (∃ b16 : Bool, 
 (∃ x17 : Int, (∃ c18 : C, (∃ c19 : C, (∃ c20 : C, (((ldA m12 (C.ptr m.nxt 0) 6) = (some [(C.int .i64 x15), 
 (C.bool b16), (C.int .i64 x17), c18, c19, c20])) ∧ (Wc prog tbl 100 [(V.agg 6 [(C.int .i64 x15), 
 (C.bool b16), (C.int .i64 x17), c18, c19, c20])] m12 (fun v21 m22 => (∃ c23 : C, 
 ((v21 = (V.agg 1 [c23])) ∧ (∃ x24 : Int, (∃ b25 : Bool, (∃ x26 : Int, (∃ c27 : C, 
 (∃ c28 : C, (∃ c29 : C, (((ldA m22 (C.ptr m.nxt 0) 6) = (some [(C.int .i64 x24), 
 (C.bool b25), (C.int .i64 x26), c27, c28, c29])) ∧ ((ifB (allS noFnC [(C.int .i64 x24), 
 (C.bool b25), (C.int .i64 x26), c27, c28, c29]) ((ldA m12 (C.ptr m.nxt 0) 6) = (some [(C.int .i64 x24), 
 (C.bool b25), (C.int .i64 x26), c27, c28, c29])) False) ∧ (callP prog tbl [(V.agg 6 [(C.int .i64 x24), 
 (C.bool b25), (C.int .i64 x26), c27, c28, c29]), (V.c (C.int .i64 x13))] c23 m22 (fun v30 m31 => 
 (∃ x32 : Int, ((v30 = (V.c (C.int .i64 x32))) ∧ (Q (V.c (C.int .i64 x32)) m31)))))))))))))))))))))))))))))))))))))))))))))))) : Wc prog tbl 80 [(V.agg 6 [(C.int .i64 a100), (C.bool a101), (C.int .i64 a102), a103, a104, a105]), (V.agg 3 [(C.int .i64 a200), (C.int .i64 a201), (C.int .i64 a202)])] m Q :=
 wc_eq (n := 2) rfl (by kernel_rfl) (by kernel_rfl) h
theorem w83 {a100 : Int} {a101 : Bool} {a102 : Int} {a103 : C} {a104 : C} {a105 : C} {m : M} {Q : V → M → Prop} (h :
 (∀ m0 : M, ((m0 = (M.new m (AO.cells 6 [(C.int .i64 a100), (C.bool a101), (C.int .i64 a102), a103, 
 a104, a105] false))) → (isPt (C.ptr m.nxt 0) ∧ (∃ c1 : C, (((ldC m0 (C.ptr m.nxt 3)) = (some c1)) ∧ 
 (isSl c1 ∧ (ifB (decide ((4 : Int) < (((slLen c1) : Nat) : Int))) (Q (V.c (C.bool true)) m0) (isPt (C.ptr m.nxt 0) ∧ 
 (∃ c2 : C, (((ldC m0 (C.ptr m.nxt 4)) = (some c2)) ∧ (isSl c2 ∧ (ifB (decide ((5 : Int) < (((slLen c2) : Nat) : Int))) (Q (V.c (C.bool true)) m0) (isPt (C.ptr m.nxt 0) ∧ 
 (∃ c3 : C, (((ldC m0 (C.ptr m.nxt 5)) = (some c3)) ∧ (isSl c3 ∧ (Q (V.c (C.bool (decide ((3 : Int) < (((slLen c3) : Nat) : Int))))) m0)))))))))))))))))) : Wc prog tbl 83 [(V.agg 6 [(C.int .i64 a100), (C.bool a101), (C.int .i64 a102), a103, a104, a105])] m Q :=
 wc_eq (n := 1) rfl (by kernel_rfl) (by kernel_rfl) h
theorem w86 {a100 : C} {m : M} {Q : V → M → Prop} (h :
 (isSl a100 ∧ (∀ R0 : List V → M → Prop, ((∀ b1 : Bool, (∀ x2 : Int, (∀ m3 : M, ((ifB (decide (x2 < (((slLen a100) : Nat) : Int))) (∃ n4 : Nat, 
 ((x2 = ((n4 : Nat) : Int)) ∧ ((n4 < (slLen a100)) ∧ (∃ x5 : Int, (((ldC m3 (slAt a100 (n4 * 1))) = (some (C.int .i64 x5))) ∧ 
 (ifB (decide ((0 : Int) < x2)) (fitsP .i64 (x2 - (1 : Int)) ∧ (∃ n6 : Nat, (((x2 - (1 : Int)) = ((n6 : Nat) : Int)) ∧ 
 ((n6 < (slLen a100)) ∧ (∃ x7 : Int, (((ldC m3 (slAt a100 (n6 * 1))) = (some (C.int .i64 x7))) ∧ 
 (ifB (decide (x5 ≤ x7)) (Q (V.c (C.bool false)) m3) (fitsP .i64 (x2 + (1 : Int)) ∧ 
 (R0 [(V.c (C.bool b1)), (V.c (C.int .i64 (x2 + (1 : Int))))] m3))))))))) (fitsP .i64 (x2 + (1 : Int)) ∧ 
 (R0 [(V.c (C.bool b1)), (V.c (C.int .i64 (x2 + (1 : Int))))] m3)))))))) (isSl a100 ∧ 
 (ifB (decide ((0 : Int) < (((slLen a100) : Nat) : Int))) (∃ n8 : Nat, (((0 : Int) = ((n8 : Nat) : Int)) ∧ 
 ((n8 < (slLen a100)) ∧ (∃ x9 : Int, (((ldC m3 (slAt a100 (n8 * 1))) = (some (C.int .i64 x9))) ∧ 
 (Q (V.c (C.bool (decide (x9 = (0 : Int))))) m3)))))) (Q (V.c (C.bool false)) m3)))) → (R0 [(V.c (C.bool b1)), 
 (V.c (C.int .i64 x2))] m3))))) → (R0 [(V.c (C.bool false)), (V.c (C.int .i64 (0 : Int)))] m))))) : Wc prog tbl 86 [(V.c a100)] m Q :=
 wc_eq (n := 1) rfl (by kernel_rfl) (by kernel_rfl) h
theorem w95 {a100 : Int} {m : M} {Q : V → M → Prop} (h :
 (Q (V.c (C.bool (!decide (a100 = a100)))) m)) : Wc prog tbl 95 [(V.c (C.int .i64 a100))] m Q :=
 wc_eq (n := 1) rfl (by kernel_rfl) (by kernel_rfl) h
theorem w98 {a100 : C} {a200 : Int} {m : M} {Q : V → M → Prop} (h :
 (fitsP .i64 (a200 + (1 : Int)) ∧ (Wc prog tbl 116 [(V.c a100), (V.c (C.int .i64 (a200 + (1 : Int))))] m (fun v0 m1 => 
 (∃ x2 : Int, (∃ b3 : Bool, ((v0 = (V.tup [(U.c (C.int .i64 x2)), (U.c (C.bool b3))])) ∧ (fitsP .i64 (x2 - (1 : Int)) ∧ 
 (Q (V.c (C.int .i64 (x2 - (1 : Int)))) m1))))))))) : Wc prog tbl 98 [(V.c a100), (V.c (C.int .i64 a200))] m Q :=
 wc_eq (n := 2) rfl (by kernel_rfl) (by kernel_rfl) h
theorem w101 {a100 : C} {a200 : Int} {m : M} {Q : V → M → Prop} (h :
 (∀ R0 : List V → M → Prop, ((∀ b1 : Bool, (∀ x2 : Int, (∀ m3 : M, ((isSl a100 ∧ (ifB (decide (x2 < (((slLen a100) : Nat) : Int))) (∃ n4 : Nat, 
 ((x2 = ((n4 : Nat) : Int)) ∧ ((n4 < (slLen a100)) ∧ (∃ x5 : Int, (((ldC m3 (slAt a100 (n4 * 1))) = (some (C.int .i64 x5))) ∧ 
 (Wc prog tbl 22 [(V.c (C.int .i64 x5)), (V.c (C.int .i64 (0 : Int))), (V.c (C.int .i64 a200))] m3 (fun v6 m7 => 
 (∃ b8 : Bool, ((v6 = (V.c (C.bool b8))) ∧ (ifB (!b8) (Q (V.c (C.bool false)) m7) (ifB (decide ((0 : Int) < x2)) (∃ n9 : Nat, 
 ((x2 = ((n9 : Nat) : Int)) ∧ ((n9 < (slLen a100)) ∧ (∃ x10 : Int, (((ldC m7 (slAt a100 (n9 * 1))) = (some (C.int .i64 x10))) ∧ 
 (fitsP .i64 (x2 - (1 : Int)) ∧ (∃ n11 : Nat, (((x2 - (1 : Int)) = ((n11 : Nat) : Int)) ∧ 
 ((n11 < (slLen a100)) ∧ (∃ x12 : Int, (((ldC m7 (slAt a100 (n11 * 1))) = (some (C.int .i64 x12))) ∧ 
 (ifB (decide (x10 ≤ x12)) (Q (V.c (C.bool false)) m7) (fitsP .i64 (x2 + (1 : Int)) ∧ 
 (R0 [(V.c (C.bool b1)), (V.c (C.int .i64 (x2 + (1 : Int))))] m7)))))))))))))) (fitsP .i64 (x2 + (1 : Int)) ∧ 
 (R0 [(V.c (C.bool b1)), (V.c (C.int .i64 (x2 + (1 : Int))))] m7))))))))))))) (isSl a100 ∧ 
 (ifB (decide ((0 : Int) < (((slLen a100) : Nat) : Int))) (∃ n13 : Nat, (((0 : Int) = ((n13 : Nat) : Int)) ∧ 
 ((n13 < (slLen a100)) ∧ (∃ x14 : Int, (((ldC m3 (slAt a100 (n13 * 1))) = (some (C.int .i64 x14))) ∧ 
 (Q (V.c (C.bool (decide (x14 = (0 : Int))))) m3)))))) (Q (V.c (C.bool false)) m3))))) → (R0 [(V.c (C.bool b1)), 
 (V.c (C.int .i64 x2))] m3))))) → (R0 [(V.c (C.bool false)), (V.c (C.int .i64 (0 : Int)))] m)))) : Wc prog tbl 101 [(V.c a100), (V.c (C.int .i64 a200))] m Q :=
 wc_eq (n := 2) rfl (by kernel_rfl) (by kernel_rfl) h
theorem w107 {a100 : C} {a200 : C} {m : M} {Q : V → M → Prop} (h :
 (∀ m0 : M, ((m0 = (M.new m (AO.cells 1 [a200] false))) → (Wc prog tbl 122 [(V.c a100), (V.c (C.fn (Fn.func 123) [] [(W.c (C0.ptr m.nxt 0))]))] m0 (fun v1 m2 => 
 (∃ b3 : Bool, ((v1 = (V.c (C.bool b3))) ∧ (Q (V.c (C.bool (!b3))) m2)))))))) : Wc prog tbl 107 [(V.c a100), (V.c a200)] m Q :=
 wc_eq (n := 2) rfl (by kernel_rfl) (by kernel_rfl) h
theorem w116 {a100 : C} {a200 : Int} {m : M} {Q : V → M → Prop} (h :
 (isSl a100 ∧ (∀ R0 : List V → M → Prop, ((∀ x1 : Int, (∀ x2 : Int, (∀ m3 : M, ((ifB (decide (x1 < x2)) (fitsP .i64 (x1 + x2) ∧ 
 (((0 : Int) ≤ (wrapZ .u64 (x1 + x2))) ∧ (((0 : Int) ≤ (1 : Int)) ∧ (((1 : Int) ≤ (64 : Int)) ∧ 
 (fitsP .u64 ((wrapZ .u64 (x1 + x2)) / (2 : Int)) ∧ (∃ n4 : Nat, (((wrapZ .i64 ((wrapZ .u64 (x1 + x2)) / (2 : Int))) = ((n4 : Nat) : Int)) ∧ 
 ((n4 < (slLen a100)) ∧ (∃ x5 : Int, (((ldC m3 (slAt a100 (n4 * 1))) = (some (C.int .i64 x5))) ∧ 
 (Wc prog tbl 129 [(V.c (C.int .i64 x5)), (V.c (C.int .i64 a200))] m3 (fun v6 m7 => 
 (∃ b8 : Bool, ((v6 = (V.c (C.bool b8))) ∧ (ifB b8 (fitsP .i64 ((wrapZ .i64 ((wrapZ .u64 (x1 + x2)) / (2 : Int))) + (1 : Int)) ∧ 
 (R0 [(V.c (C.int .i64 ((wrapZ .i64 ((wrapZ .u64 (x1 + x2)) / (2 : Int))) + (1 : Int)))), 
 (V.c (C.int .i64 x2))] m7)) (R0 [(V.c (C.int .i64 x1)), (V.c (C.int .i64 (wrapZ .i64 ((wrapZ .u64 (x1 + x2)) / (2 : Int)))))] m7)))))))))))))))) (ifB (decide (x1 < (((slLen a100) : Nat) : Int))) (∃ n9 : Nat, 
 ((x1 = ((n9 : Nat) : Int)) ∧ ((n9 < (slLen a100)) ∧ (∃ x10 : Int, (((ldC m3 (slAt a100 (n9 * 1))) = (some (C.int .i64 x10))) ∧ 
 (ifB (decide (x10 = a200)) (Q (V.tup [(U.c (C.int .i64 x1)), (U.c (C.bool true))]) m3) (∃ n11 : Nat, 
 ((x1 = ((n11 : Nat) : Int)) ∧ ((n11 < (slLen a100)) ∧ (∃ x12 : Int, (((ldC m3 (slAt a100 (n11 * 1))) = (some (C.int .i64 x12))) ∧ 
 (Wc prog tbl 130 [(V.c (C.int .i64 x12))] m3 (fun v13 m14 => (∃ b15 : Bool, ((v13 = (V.c (C.bool b15))) ∧ 
 (ifB b15 (Wc prog tbl 130 [(V.c (C.int .i64 a200))] m14 (fun v16 m17 => (∃ b18 : Bool, 
 ((v16 = (V.c (C.bool b18))) ∧ (Q (V.tup [(U.c (C.int .i64 x1)), (U.c (C.bool b18))]) m17))))) (Q (V.tup [(U.c (C.int .i64 x1)), 
 (U.c (C.bool false))]) m14))))))))))))))))) (Q (V.tup [(U.c (C.int .i64 x1)), 
 (U.c (C.bool false))]) m3))) → (R0 [(V.c (C.int .i64 x1)), (V.c (C.int .i64 x2))] m3))))) → 
 (R0 [(V.c (C.int .i64 (0 : Int))), (V.c (C.int .i64 (((slLen a100) : Nat) : Int)))] m))))) : Wc prog tbl 116 [(V.c a100), (V.c (C.int .i64 a200))] m Q :=
 wc_eq (n := 2) rfl (by kernel_rfl) (by kernel_rfl) h
theorem w119 {a100 : C} {a200 : C} {m : M} {Q : V → M → Prop} (h :
 (isSl a100 ∧ (∀ R0 : List V → M → Prop, ((∀ x1 : Int, (∀ x2 : Int, (∀ m3 : M, ((ifB (decide (x2 < (((slLen a100) : Nat) : Int))) (∃ n4 : Nat, 
 ((x2 = ((n4 : Nat) : Int)) ∧ ((n4 < (slLen a100)) ∧ (∃ x5 : Int, (∃ b6 : Bool, (∃ x7 : Int, (∃ c8 : C, 
 (∃ c9 : C, (∃ c10 : C, (((ldA m3 (slAt a100 (n4 * 6)) 6) = (some [(C.int .i64 x5), 
 (C.bool b6), (C.int .i64 x7), c8, c9, c10])) ∧ (callP prog tbl [(V.agg 6 [(C.int .i64 x5), 
 (C.bool b6), (C.int .i64 x7), c8, c9, c10])] a200 m3 (fun v11 m12 => (∃ b13 : Bool, 
 ((v11 = (V.c (C.bool b13))) ∧ (ifB b13 (Q (V.c (C.int .i64 x2)) m12) (fitsP .i64 (x2 + (1 : Int)) ∧ 
 (R0 [(V.c (C.int .i64 x1)), (V.c (C.int .i64 (x2 + (1 : Int))))] m12))))))))))))))))) (Q (V.c (C.int .i64 (-1 : Int))) m3)) → 
 (R0 [(V.c (C.int .i64 x1)), (V.c (C.int .i64 x2))] m3))))) → (R0 [(V.c (C.int .i64 (0 : Int))), 
 (V.c (C.int .i64 (0 : Int)))] m))))) : Wc prog tbl 119 [(V.c a100), (V.c a200)] m Q :=
 wc_eq (n := 2) rfl (by kernel_rfl) (by kernel_rfl) h
theorem w122 {a100 : C} {a200 : C} {m : M} {Q : V → M → Prop} (h :
 (Wc prog tbl 132 [(V.c a100), (V.c a200)] m (fun v0 m1 => (∃ x2 : Int, ((v0 = (V.c (C.int .i64 x2))) ∧ (Q (V.c (C.bool (decide ((0 : Int) ≤ x2)))) m1)))))) : Wc prog tbl 122 [(V.c a100), (V.c a200)] m Q :=
 wc_eq (n := 2) rfl (by kernel_rfl) (by kernel_rfl) h
theorem w125 {a100 : Int} {a101 : Bool} {a102 : Int} {a103 : C} {a104 : C} {a105 : C} {a200 : C} {m : M} {Q : V → M → Prop} (h :
 (∀ m0 : M, ((m0 = (M.new m (AO.cells 6 [(C.int .i64 a100), (C.bool a101), (C.int .i64 a102), a103, 
 a104, a105] false))) → (isSl a200 ∧ (isPt (C.ptr m.nxt 0) ∧ (∃ c1 : C, (((ldC m0 (C.ptr m.nxt 4)) = (some c1)) ∧ 
 (isSl c1 ∧ (ifB (decide ((((slLen a200) : Nat) : Int) = (((slLen c1) : Nat) : Int))) (Wc prog tbl 106 [(V.c a200), 
 (V.c (C.fn (Fn.func 105) [] []))] m0 (fun v2 m3 => (∃ b4 : Bool, ((v2 = (V.c (C.bool b4))) ∧ (Q (V.c (C.bool b4)) m3))))) (Q (V.c (C.bool false)) m0)))))))))) : Wc prog tbl 125 [(V.agg 6 [(C.int .i64 a100), (C.bool a101), (C.int .i64 a102), a103, a104, a105]), (V.c a200)] m Q :=
 wc_eq (n := 2) rfl (by kernel_rfl) (by kernel_rfl) h
theorem w131 {a100 : C} {a200 : C} {m : M} {Q : V → M → Prop} (h :
 (isSl a100 ∧ (∀ R0 : List V → M → Prop, ((∀ x1 : Int, (∀ x2 : Int, (∀ m3 : M, ((ifB (decide (x2 < (((slLen a100) : Nat) : Int))) (∃ n4 : Nat, 
 ((x2 = ((n4 : Nat) : Int)) ∧ ((n4 < (slLen a100)) ∧ (∃ x5 : Int, (((ldC m3 (slAt a100 (n4 * 1))) = (some (C.int .i64 x5))) ∧ 
 (callP prog tbl [(V.c (C.int .i64 x5))] a200 m3 (fun v6 m7 => (∃ b8 : Bool, ((v6 = (V.c (C.bool b8))) ∧ 
 (ifB b8 (Q (V.c (C.int .i64 x2)) m7) (fitsP .i64 (x2 + (1 : Int)) ∧ (R0 [(V.c (C.int .i64 x1)), 
 (V.c (C.int .i64 (x2 + (1 : Int))))] m7)))))))))))) (Q (V.c (C.int .i64 (-1 : Int))) m3)) → 
 (R0 [(V.c (C.int .i64 x1)), (V.c (C.int .i64 x2))] m3))))) → (R0 [(V.c (C.int .i64 (0 : Int))), 
 (V.c (C.int .i64 (0 : Int)))] m))))) : Wc prog tbl 131 [(V.c a100), (V.c a200)] m Q :=
 wc_eq (n := 2) rfl (by kernel_rfl) (by kernel_rfl) h
end
end Go.Proofs.Ytbhdgedghfibcaa

namespace Go.Proofs.Ytbhdgedghfibcaa
open _root_.Go.Proofs.Try
open Go.Abs
set_option maxRecDepth 100000
noncomputable section
theorem w4 {a100 : C} {a200 : Int} {a201 : Int} {a202 : Int} {a203 : Int} {a204 : Int} {a205 : Int} {a300 : Int} {a301 : Int} {a400 : Int} {m : M} {Q : V → M → Prop} (h :
 (∀ m0 : M, ((m0 = (M.new m (AO.cells 6 [(C.int .i64 a200), (C.int .i64 a201), (C.int .i64 a202), 
 (C.int .i64 a203), (C.int .i64 a204), (C.int .i64 a205)] false))) → (∀ m1 : M, ((m1 = (M.new m0 (AO.cells 2 [(C.int .i64 a300), 
 (C.int .i64 a301)] false))) → (Wc prog tbl 16 [(V.c a100)] m1 (fun v2 m3 => (∃ b4 : Bool, ((v2 = (V.c (C.bool b4))) ∧ 
 (ifB (!b4) (Wc prog tbl 17 [] m3 (fun v5 m6 => (∃ b7 : Bool, ((v5 = (V.c (C.bool b7))) ∧ (Q (V.c (C.bool b7)) m6))))) (Wc prog tbl 19 [(V.c a100)] m3 (fun v8 m9 => 
 (∃ c10 : C, ((v8 = (V.c c10)) ∧ (∃ x11 : Int, (∃ x12 : Int, (∃ x13 : Int, (∃ x14 : Int, (∃ x15 : Int, 
 (∃ x16 : Int, (((ldA m9 (C.ptr m.nxt 0) 6) = (some [(C.int .i64 x11), (C.int .i64 x12), 
 (C.int .i64 x13), (C.int .i64 x14), (C.int .i64 x15), (C.int .i64 x16)])) ∧ 
 (((ldA m3 (C.ptr m.nxt 0) 6) = (some [(C.int .i64 x11), (C.int .i64 x12), 
 (C.int .i64 x13), (C.int .i64 x14), (C.int .i64 x15), (C.int .i64 x16)])) ∧ 
 (Wc prog tbl 26 [(V.agg 6 [(C.int .i64 x11), (C.int .i64 x12), (C.int .i64 x13), 
 (C.int .i64 x14), (C.int .i64 x15), (C.int .i64 x16)])] m9 (fun v17 m18 => 
 (∃ x19 : Int, (∃ x20 : Int, (∃ x21 : Int, (∃ x22 : Int, (∃ x23 : Int, (∃ x24 : Int, 
 ((v17 = (V.agg 6 [(C.int .i64 x19), (C.int .i64 x20), (C.int .i64 x21), 
 (C.int .i64 x22), (C.int .i64 x23), (C.int .i64 x24)])) ∧ 
 (∃ x25 : Int, (∃ x26 : Int, (((ldA m18 (C.ptr m0.nxt 0) 2) = (some [(C.int .i64 x25), 
 (C.int .i64 x26)])) ∧ (((ldA m9 (C.ptr m0.nxt 0) 2) = (some [(C.int .i64 x25), 
 (C.int .i64 x26)])) ∧ (((ldA m3 (C.ptr m0.nxt 0) 2) = (some [(C.int .i64 x25), 
 (C.int .i64 x26)])) ∧ (Wc prog tbl 27 [(V.agg 2 [(C.int .i64 x25), 
 (C.int .i64 x26)])] m18 (fun v27 m28 => (∃ x29 : Int, (∃ x30 : Int, ((v27 = (V.agg 2 [(C.int .i64 x29), 
 (C.int .i64 x30)])) ∧ (Wc prog tbl 25 [(V.c c10), (V.agg 6 [(C.int .i64 x19), 
 (C.int .i64 x20), (C.int .i64 x21), (C.int .i64 x22), (C.int .i64 x23), 
 (C.int .i64 x24)]), (V.agg 2 [(C.int .i64 x29), (C.int .i64 x30)])] m28 (fun v31 m32 => 
 (∃ x33 : Int, (∃ x34 : Int, ((v31 = (V.tup [(U.c (C.int .i64 x33)), (U.c (C.int .i64 x34))])) ∧ 
 (Wc prog tbl 19 [(V.c a100)] m32 (fun v35 m36 => (∃ c37 : C, ((v35 = (V.c c37)) ∧ 
 (∃ x38 : Int, (∃ x39 : Int, (∃ x40 : Int, (∃ x41 : Int, (∃ x42 : Int, (∃ x43 : Int, 
 (((ldA m36 (C.ptr m.nxt 0) 6) = (some [(C.int .i64 x38), (C.int .i64 x39), 
 (C.int .i64 x40), (C.int .i64 x41), (C.int .i64 x42), (C.int .i64 x43)])) ∧ 
 (((ldA m32 (C.ptr m.nxt 0) 6) = (some [(C.int .i64 x38), (C.int .i64 x39), 
 (C.int .i64 x40), (C.int .i64 x41), (C.int .i64 x42), (C.int .i64 x43)])) ∧ 
 (Wc prog tbl 26 [(V.agg 6 [(C.int .i64 x38), (C.int .i64 x39), 
 (C.int .i64 x40), (C.int .i64 x41), (C.int .i64 x42), (C.int .i64 x43)])] m36 (fun v44 m45 => 
 (∃ x46 : Int, (∃ x47 : Int, (∃ x48 : Int, (∃ x49 : Int, (∃ x50 : Int, (∃ x51 : Int, 
 ((v44 = (V.agg 6 [(C.int .i64 x46), (C.int .i64 x47), (C.int .i64 x48), 
 (C.int .i64 x49), (C.int .i64 x50), (C.int .i64 x51)])) ∧ 
 (∃ x52 : Int, (∃ x53 : Int, (((ldA m45 (C.ptr m0.nxt 0) 2) = (some [(C.int .i64 x52), 
 (C.int .i64 x53)])) ∧ (((ldA m36 (C.ptr m0.nxt 0) 2) = (some [(C.int .i64 x52), 
 (C.int .i64 x53)])) ∧ (((ldA m32 (C.ptr m0.nxt 0) 2) = (some [(C.int .i64 x52), 
 (C.int .i64 x53)])) ∧ (Wc prog tbl 27 [(V.agg 2 [(C.int .i64 x52), 
 (C.int .i64 x53)])] m45 (fun v54 m55 => (∃ x56 : Int, (∃ x57 : Int, ((v54 = (V.agg 2 [(C.int .i64 x56), 
 (C.int .i64 x57)])) ∧ (Wc prog tbl 28 [(V.c c37), (V.agg 6 [(C.int .i64 x46), 
 (C.int .i64 x47), (C.int .i64 x48), (C.int .i64 x49), (C.int .i64 x50), 
 (C.int .i64 x51)]), (V.agg 2 [(C.int .i64 x56), (C.int .i64 x57)]), 
 (V.c (C.int .i64 a400))] m55 (fun v58 m59 => (∃ b60 : Bool, ((v58 = (V.c (C.bool b60))) ∧ 
 (∃ x61 : Int, (∃ x62 : Int, (∃ x63 : Int, (∃ x64 : Int, (∃ x65 : Int, (∃ x66 : Int, 
 (((ldA m59 (C.ptr m.nxt 0) 6) = (some [(C.int .i64 x61), (C.int .i64 x62), 
 (C.int .i64 x63), (C.int .i64 x64), (C.int .i64 x65), (C.int .i64 x66)])) ∧ 
 (Wc prog tbl 29 [(V.c a100), (V.agg 6 [(C.int .i64 x61), (C.int .i64 x62), 
 (C.int .i64 x63), (C.int .i64 x64), (C.int .i64 x65), (C.int .i64 x66)])] m59 (fun v67 m68 => 
 (∃ x69 : Int, ((v67 = (V.c (C.int .i64 x69))) ∧ (ifB (decide (x69 = (0 : Int))) (∃ x70 : Int, 
 (∃ x71 : Int, (∃ x72 : Int, (∃ x73 : Int, (∃ x74 : Int, (∃ x75 : Int, (((ldA m68 (C.ptr m.nxt 0) 6) = (some [(C.int .i64 x70), 
 (C.int .i64 x71), (C.int .i64 x72), (C.int .i64 x73), (C.int .i64 x74), 
 (C.int .i64 x75)])) ∧ (∃ x76 : Int, (∃ x77 : Int, (((ldA m68 (C.ptr m0.nxt 0) 2) = (some [(C.int .i64 x76), 
 (C.int .i64 x77)])) ∧ (Wc prog tbl 30 [(V.agg 6 [(C.int .i64 x70), 
 (C.int .i64 x71), (C.int .i64 x72), (C.int .i64 x73), (C.int .i64 x74), 
 (C.int .i64 x75)]), (V.agg 2 [(C.int .i64 x76), (C.int .i64 x77)])] m68 (fun v78 m79 => 
 (∃ b80 : Bool, ((v78 = (V.c (C.bool b80))) ∧ (ifB (!b80) (ifB (decide (x34 = (2 : Int))) (ifB (decide (x33 = (0 : Int))) (ifB (!b60) (Wc prog tbl 17 [] m79 (fun v81 m82 => 
 (∃ b83 : Bool, ((v81 = (V.c (C.bool b83))) ∧ (Q (V.c (C.bool b83)) m82))))) (Q (V.c (C.bool false)) m79)) (Q (V.c (C.bool false)) m79)) (Q (V.c (C.bool false)) m79)) (ifB (!decide (x69 = (0 : Int))) (ifB (decide (x34 = x69)) (ifB (decide (x33 = (0 : Int))) (ifB (!b60) (Wc prog tbl 17 [] m79 (fun v84 m85 => 
 (∃ b86 : Bool, ((v84 = (V.c (C.bool b86))) ∧ (Q (V.c (C.bool b86)) m85))))) (Q (V.c (C.bool false)) m79)) (Q (V.c (C.bool false)) m79)) (Q (V.c (C.bool false)) m79)) (∃ x87 : Int, 
 (∃ x88 : Int, (∃ x89 : Int, (∃ x90 : Int, (∃ x91 : Int, (∃ x92 : Int, (((ldA m79 (C.ptr m.nxt 0) 6) = (some [(C.int .i64 x87), 
 (C.int .i64 x88), (C.int .i64 x89), (C.int .i64 x90), (C.int .i64 x91), 
 (C.int .i64 x92)])) ∧ (∃ x93 : Int, (∃ x94 : Int, (((ldA m79 (C.ptr m0.nxt 0) 2) = (some [(C.int .i64 x93), 
 (C.int .i64 x94)])) ∧ (Wc prog tbl 31 [(V.c a100), (V.agg 6 [(C.int .i64 x87), 
 (C.int .i64 x88), (C.int .i64 x89), (C.int .i64 x90), (C.int .i64 x91), 
 (C.int .i64 x92)]), (V.agg 2 [(C.int .i64 x93), (C.int .i64 x94)])] m79 (fun v95 m96 => 
 (∃ x97 : Int, ((v95 = (V.c (C.int .i64 x97))) ∧ (ifB (decide (x34 = (0 : Int))) (ifB (decide (x33 = x97)) (ifB (b60 == (decide (x97 = a400))) (Wc prog tbl 17 [] m96 (fun v98 m99 => 
 (∃ b100 : Bool, ((v98 = (V.c (C.bool b100))) ∧ (Q (V.c (C.bool b100)) m99))))) (Q (V.c (C.bool false)) m96)) (Q (V.c (C.bool false)) m96)) (Q (V.c (C.bool false)) m96)))))))))))))))))))))))))))))))) (ifB (!decide (x69 = (0 : Int))) (ifB (decide (x34 = x69)) (ifB (decide (x33 = (0 : Int))) (ifB (!b60) (Wc prog tbl 17 [] m68 (fun v101 m102 => 
 (∃ b103 : Bool, ((v101 = (V.c (C.bool b103))) ∧ (Q (V.c (C.bool b103)) m102))))) (Q (V.c (C.bool false)) m68)) (Q (V.c (C.bool false)) m68)) (Q (V.c (C.bool false)) m68)) (∃ x104 : Int, 
 (∃ x105 : Int, (∃ x106 : Int, (∃ x107 : Int, (∃ x108 : Int, (∃ x109 : Int, (((ldA m68 (C.ptr m.nxt 0) 6) = (some [(C.int .i64 x104), 
 (C.int .i64 x105), (C.int .i64 x106), (C.int .i64 x107), 
 (C.int .i64 x108), (C.int .i64 x109)])) ∧ (∃ x110 : Int, (∃ x111 : Int, 
 (((ldA m68 (C.ptr m0.nxt 0) 2) = (some [(C.int .i64 x110), (C.int .i64 x111)])) ∧ 
 (Wc prog tbl 31 [(V.c a100), (V.agg 6 [(C.int .i64 x104), (C.int .i64 x105), 
 (C.int .i64 x106), (C.int .i64 x107), (C.int .i64 x108), 
 (C.int .i64 x109)]), (V.agg 2 [(C.int .i64 x110), (C.int .i64 x111)])] m68 (fun v112 m113 => 
 (∃ x114 : Int, ((v112 = (V.c (C.int .i64 x114))) ∧ (ifB (decide (x34 = (0 : Int))) (ifB (decide (x33 = x114)) (ifB (b60 == (decide (x114 = a400))) (Wc prog tbl 17 [] m113 (fun v115 m116 => 
 (∃ b117 : Bool, ((v115 = (V.c (C.bool b117))) ∧ (Q (V.c (C.bool b117)) m116))))) (Q (V.c (C.bool false)) m113)) (Q (V.c (C.bool false)) m113)) (Q (V.c (C.bool false)) m113)))))))))))))))))))))))))))))))))))))))))))))))))))))))))))))))))))))))))))))))))))))))))))))))))))))))))))))) : Wc prog tbl 4 [(V.c a100), (V.agg 6 [(C.int .i64 a200), (C.int .i64 a201), (C.int .i64 a202), (C.int .i64 a203), (C.int .i64 a204), (C.int .i64 a205)]), (V.agg 2 [(C.int .i64 a300), (C.int .i64 a301)]), (V.c (C.int .i64 a400))] m Q :=
 wc_eq (n := 4) rfl (by kernel_rfl) (by kernel_rfl) h
theorem w18 {a100 : C} {a200 : Int} {a300 : Int} {a400 : Int} {m : M} {Q : V → M → Prop} (h :
 (Wc prog tbl 53 [(V.c a100)] m (fun v0 m1 => (∃ c2 : C, (∃ c3 : C, (∃ x4 : Int, ((v0 = (V.tup [(U.agg 2 [c2, c3]), 
 (U.c (C.int .i64 x4))])) ∧ (∀ m5 : M, ((m5 = (M.new m1 (AO.cells 2 [C.sl0, C.map0] false))) → 
 (∃ m6 : M, (((stC m5 (C.ptr m1.nxt 0) 2 [c2, c3]) = (some m6)) ∧ (ifB (!decide (x4 = (0 : Int))) (Q (V.tup [(U.c (C.int .i64 (0 : Int))), 
 (U.c (C.int .i64 x4))]) m6) (isPt (C.ptr m1.nxt 0) ∧ (∃ c7 : C, (((ldC m6 (C.ptr m1.nxt 0)) = (some c7)) ∧ 
 (Wc prog tbl 54 [(V.c c7), (V.c (C.int .i64 a200))] m6 (fun v8 m9 => (∃ b10 : Bool, ((v8 = (V.c (C.bool b10))) ∧ 
 (ifB (!b10) (Q (V.tup [(U.c (C.int .i64 (0 : Int))), (U.c (C.int .i64 (2 : Int)))]) m9) (Wc prog tbl 55 [(V.c (C.int .i64 a300))] m9 (fun v11 m12 => 
 (∃ b13 : Bool, ((v11 = (V.c (C.bool b13))) ∧ (ifB (!b13) (Q (V.tup [(U.c (C.int .i64 (0 : Int))), 
 (U.c (C.int .i64 (2 : Int)))]) m12) (Wc prog tbl 56 [(V.c (C.int .i64 a400))] m12 (fun v14 m15 => 
 (∃ b16 : Bool, ((v14 = (V.c (C.bool b16))) ∧ (ifB (!b16) (Q (V.tup [(U.c (C.int .i64 (0 : Int))), 
 (U.c (C.int .i64 (2 : Int)))]) m15) (∃ c17 : C, (∃ c18 : C, (((ldA m15 (C.ptr m1.nxt 0) 2) = (some [c17, 
 c18])) ∧ (Wc prog tbl 57 [(V.agg 2 [c17, c18]), (V.agg 3 [(C.int .i64 a300), 
 (C.int .i64 a400), (C.int .i64 a200)])] m15 (fun v19 m20 => (∃ x21 : Int, 
 ((v19 = (V.c (C.int .i64 x21))) ∧ (Q (V.tup [(U.c (C.int .i64 x21)), 
 (U.c (C.int .i64 (0 : Int)))]) m20)))))))))))))))))))))))))))))))))))))) : Wc prog tbl 18 [(V.c a100), (V.c (C.int .i64 a200)), (V.c (C.int .i64 a300)), (V.c (C.int .i64 a400))] m Q :=
 wc_eq (n := 4) rfl (by kernel_rfl) (by kernel_rfl) h
theorem w21 {a100 : C} {m : M} {Q : V → M → Prop} (h :
 (Wc prog tbl 60 [(V.c a100)] m (fun v0 m1 => (∃ b2 : Bool, ((v0 = (V.c (C.bool b2))) ∧ (ifB b2 (Q (V.c (C.int .i64 (3 : Int))) m1) (Wc prog tbl 61 [(V.c a100)] m1 (fun v3 m4 => 
 (∃ b5 : Bool, ((v3 = (V.c (C.bool b5))) ∧ (ifB (!b5) (Q (V.c (C.int .i64 (1 : Int))) m4) (Q (V.c (C.int .i64 (0 : Int))) m4)))))))))))) : Wc prog tbl 21 [(V.c a100)] m Q :=
 wc_eq (n := 1) rfl (by kernel_rfl) (by kernel_rfl) h
theorem w51 {a100 : C} {a200 : Int} {m : M} {Q : V → M → Prop} (h :
 (∀ R0 : List V → M → Prop, ((∀ b1 : Bool, (∀ x2 : Int, (∀ m3 : M, ((isSl a100 ∧ (ifB (decide (x2 < (((slLen a100) : Nat) : Int))) (fitsP .i64 (x2 + (1 : Int)) ∧ 
 (∀ R4 : List V → M → Prop, ((∀ b5 : Bool, (∀ x6 : Int, (∀ m7 : M, ((isSl a100 ∧ (ifB (decide (x6 < (((slLen a100) : Nat) : Int))) (((0 : Int) ≤ a200) ∧ 
 (((0 : Int) ≤ (wrapZ .u64 x2)) ∧ (((wrapZ .u64 x2) ≤ (64 : Int)) ∧ (fitsP .i64 (a200 / ((2 : Int) ^ (Int.toNat (wrapZ .u64 x2)))) ∧ 
 (((0 : Int) ≤ (a200 / ((2 : Int) ^ (Int.toNat (wrapZ .u64 x2))))) ∧ (((0 : Int) < (2 : Int)) ∧ 
 (fitsP .i64 ((a200 / ((2 : Int) ^ (Int.toNat (wrapZ .u64 x2)))) % (2 : Int)) ∧ 
 (ifB (decide (((a200 / ((2 : Int) ^ (Int.toNat (wrapZ .u64 x2)))) % (2 : Int)) = (0 : Int))) (((0 : Int) ≤ a200) ∧ 
 (((0 : Int) ≤ (wrapZ .u64 x6)) ∧ (((wrapZ .u64 x6) ≤ (64 : Int)) ∧ 
 (fitsP .i64 (a200 / ((2 : Int) ^ (Int.toNat (wrapZ .u64 x6)))) ∧ 
 (((0 : Int) ≤ (a200 / ((2 : Int) ^ (Int.toNat (wrapZ .u64 x6))))) ∧ (((0 : Int) < (2 : Int)) ∧ 
 (fitsP .i64 ((a200 / ((2 : Int) ^ (Int.toNat (wrapZ .u64 x6)))) % (2 : Int)) ∧ 
 (ifB (decide (((a200 / ((2 : Int) ^ (Int.toNat (wrapZ .u64 x6)))) % (2 : Int)) = (0 : Int))) (∃ n8 : Nat, 
 ((x6 = ((n8 : Nat) : Int)) ∧ ((n8 < (slLen a100)) ∧ (∃ x9 : Int, (((ldC m7 (slAt a100 (n8 * 1))) = (some (C.int .i64 x9))) ∧ 
 (∃ n10 : Nat, ((x2 = ((n10 : Nat) : Int)) ∧ ((n10 < (slLen a100)) ∧ (∃ x11 : Int, 
 (((ldC m7 (slAt a100 (n10 * 1))) = (some (C.int .i64 x11))) ∧ (ifB (decide (x9 < x11)) (Q (V.c (C.bool false)) m7) (fitsP .i64 (x6 + (1 : Int)) ∧ 
 (R4 [(V.c (C.bool b5)), (V.c (C.int .i64 (x6 + (1 : Int))))] m7))))))))))))) (fitsP .i64 (x6 + (1 : Int)) ∧ 
 (R4 [(V.c (C.bool b5)), (V.c (C.int .i64 (x6 + (1 : Int))))] m7)))))))))) (fitsP .i64 (x6 + (1 : Int)) ∧ 
 (R4 [(V.c (C.bool b5)), (V.c (C.int .i64 (x6 + (1 : Int))))] m7)))))))))) (fitsP .i64 (x2 + (1 : Int)) ∧ 
 (R0 [(V.c (C.bool b5)), (V.c (C.int .i64 (x2 + (1 : Int))))] m7)))) → (R4 [(V.c (C.bool b5)), 
 (V.c (C.int .i64 x6))] m7))))) → (R4 [(V.c (C.bool b1)), (V.c (C.int .i64 (x2 + (1 : Int))))] m3)))) (Q (V.c (C.bool true)) m3))) → 
 (R0 [(V.c (C.bool b1)), (V.c (C.int .i64 x2))] m3))))) → (R0 [(V.c (C.bool false)), (V.c (C.int .i64 (0 : Int)))] m)))) : Wc prog tbl 51 [(V.c a100), (V.c (C.int .i64 a200))] m Q :=
 wc_eq (n := 2) rfl (by kernel_rfl) (by kernel_rfl) h
theorem w54 {a100 : C} {a200 : Int} {m : M} {Q : V → M → Prop} (h :
 (∃ n0 : Nat, (((0 : Int) = ((n0 : Nat) : Int)) ∧ ((n0 < (slLen a100)) ∧ (isPt (slAt a100 (n0 * 6)) ∧ (∃ c1 : C, 
 (((ldC m (ptAdd (slAt a100 (n0 * 6)) 5)) = (some c1)) ∧ (isSl c1 ∧ (Wc prog tbl 77 [(V.c (C.int .i64 a200)), 
 (V.c (C.int .i64 (((slLen c1) : Nat) : Int)))] m (fun v2 m3 => (∃ b4 : Bool, ((v2 = (V.c (C.bool b4))) ∧ 
 (Q (V.c (C.bool b4)) m3))))))))))))) : Wc prog tbl 54 [(V.c a100), (V.c (C.int .i64 a200))] m Q :=
 wc_eq (n := 2) rfl (by kernel_rfl) (by kernel_rfl) h
theorem w57 {a100 : C} {a101 : C} {a200 : Int} {a201 : Int} {a202 : Int} {m : M} {Q : V → M → Prop} (h :
 (∀ m0 : M, ((m0 = (M.new m (AO.cells 2 [a100, a101] false))) → (∀ m1 : M, ((m1 = (M.new m0 (AO.cells 3 [(C.int .i64 a200), 
 (C.int .i64 a201), (C.int .i64 a202)] false))) → (isPt (C.ptr m.nxt 0) ∧ (∃ c2 : C, 
 (((ldC m1 (C.ptr m.nxt 1)) = (some c2)) ∧ (∃ x3 : Int, (∃ x4 : Int, (∃ x5 : Int, (((ldA m1 (C.ptr m0.nxt 0) 3) = (some [(C.int .i64 x3), 
 (C.int .i64 x4), (C.int .i64 x5)])) ∧ (∃ y6 : Option U, (((lkM prog 103 m1 c2 (V.agg 3 [(C.int .i64 x3), 
 (C.int .i64 x4), (C.int .i64 x5)])) = (some y6)) ∧ (((y6 = Option.none) → 
 (isPt (C.ptr m.nxt 0) ∧ (∃ c7 : C, (((ldC m1 (C.ptr m.nxt 0)) = (some c7)) ∧ (isPt (C.ptr m0.nxt 0) ∧ 
 (isPt (C.ptr m0.nxt 0) ∧ (∃ x8 : Int, (((ldC m1 (C.ptr m0.nxt 0)) = (some (C.int .i64 x8))) ∧ 
 (Wc prog tbl 79 [(V.c c7), (V.c (C.int .i64 x8))] m1 (fun v9 m10 => (∃ x11 : Int, 
 (∃ b12 : Bool, (∃ x13 : Int, (∃ c14 : C, (∃ c15 : C, (∃ c16 : C, ((v9 = (V.agg 6 [(C.int .i64 x11), 
 (C.bool b12), (C.int .i64 x13), c14, c15, c16])) ∧ (∃ x17 : Int, (∃ x18 : Int, 
 (∃ x19 : Int, (((ldA m10 (C.ptr m0.nxt 0) 3) = (some [(C.int .i64 x17), 
 (C.int .i64 x18), (C.int .i64 x19)])) ∧ (((ldA m1 (C.ptr m0.nxt 0) 3) = (some [(C.int .i64 x17), 
 (C.int .i64 x18), (C.int .i64 x19)])) ∧ (Wc prog tbl 80 [(V.agg 6 [(C.int .i64 x11), 
 (C.bool b12), (C.int .i64 x13), c14, c15, c16]), (V.agg 3 [(C.int .i64 x17), 
 (C.int .i64 x18), (C.int .i64 x19)])] m10 (fun v20 m21 => (∃ x22 : Int, 
 ((v20 = (V.c (C.int .i64 x22))) ∧ (isPt (C.ptr m.nxt 0) ∧ (∃ c23 : C, 
 (((ldC m21 (C.ptr m.nxt 1)) = (some c23)) ∧ (∃ x24 : Int, (∃ x25 : Int, 
 (∃ x26 : Int, (((ldA m21 (C.ptr m0.nxt 0) 3) = (some [(C.int .i64 x24), 
 (C.int .i64 x25), (C.int .i64 x26)])) ∧ (∃ m27 : M, (((upM prog 103 m21 c23 (V.agg 3 [(C.int .i64 x24), 
 (C.int .i64 x25), (C.int .i64 x26)]) (V.c (C.int .i64 x22))) = (some m27)) ∧ 
 (Q (V.c (C.int .i64 x22)) m27)))))))))))))))))))))))))))))))))))) ∧ (∀ u28 : U, 
 ((y6 = (some u28)) → (∃ x29 : Int, ((u28 = (U.c (C.int .i64 x29))) ∧ (Q (V.c (C.int .i64 x29)) m1)))))))))))))))))))) : Wc prog tbl 57 [(V.agg 2 [a100, a101]), (V.agg 3 [(C.int .i64 a200), (C.int .i64 a201), (C.int .i64 a202)])] m Q :=
 wc_eq (n := 2) rfl (by kernel_rfl) (by kernel_rfl) h
theorem w60 {a100 : C} {m : M} {Q : V → M → Prop} (h :
 (isSl a100 ∧ (ifB (decide ((3 : Int) < (((slLen a100) : Nat) : Int))) (Q (V.c (C.bool true)) m) (Wc prog tbl 82 [(V.c a100), 
 (V.c (C.fn (Fn.func 83) [] []))] m (fun v0 m1 => (∃ b2 : Bool, ((v0 = (V.c (C.bool b2))) ∧ (Q (V.c (C.bool b2)) m1)))))))) : Wc prog tbl 60 [(V.c a100)] m Q :=
 wc_eq (n := 1) rfl (by kernel_rfl) (by kernel_rfl) h
theorem w78 {a100 : Int} {a101 : Int} {a200 : Int} {m : M} {Q : V → M → Prop} (h :
 (∀ m0 : M, ((m0 = (M.new m (AO.cells 2 [(C.int .i64 a100), (C.int .i64 a101)] false))) → (isPt (C.ptr m.nxt 0) ∧ 
 (∃ x1 : Int, (((ldC m0 (C.ptr m.nxt 0)) = (some (C.int .i64 x1))) ∧ (ifB (decide (x1 ≤ a200)) (isPt (C.ptr m.nxt 0) ∧ 
 (∃ x2 : Int, (((ldC m0 (C.ptr m.nxt 1)) = (some (C.int .i64 x2))) ∧ (Q (V.c (C.bool (decide (a200 ≤ x2)))) m0)))) (Q (V.c (C.bool false)) m0)))))))) : Wc prog tbl 78 [(V.agg 2 [(C.int .i64 a100), (C.int .i64 a101)]), (V.c (C.int .i64 a200))] m Q :=
 wc_eq (n := 2) rfl (by kernel_rfl) (by kernel_rfl) h
theorem w81 {a100 : Int} {a101 : Bool} {a102 : Int} {a103 : C} {a104 : C} {a105 : C} {m : M} {Q : V → M → Prop} (h :
 (∀ m0 : M, ((m0 = (M.new m (AO.cells 6 [(C.int .i64 a100), (C.bool a101), (C.int .i64 a102), a103, 
 a104, a105] false))) → (isPt (C.ptr m.nxt 0) ∧ (∃ x1 : Int, (((ldC m0 (C.ptr m.nxt 0)) = (some (C.int .i64 x1))) ∧ 
 (Wc prog tbl 22 [(V.c (C.int .i64 x1)), (V.c (C.int .i64 (0 : Int))), (V.c (C.int .i64 (120 : Int)))] m0 (fun v2 m3 => 
 (∃ b4 : Bool, ((v2 = (V.c (C.bool b4))) ∧ (ifB (!b4) (Q (V.c (C.bool false)) m3) (isPt (C.ptr m.nxt 0) ∧ 
 (∃ x5 : Int, (((ldC m3 (C.ptr m.nxt 2)) = (some (C.int .i64 x5))) ∧ (Wc prog tbl 22 [(V.c (C.int .i64 x5)), 
 (V.c (C.int .i64 (0 : Int))), (V.c (C.int .i64 (100 : Int)))] m3 (fun v6 m7 => 
 (∃ b8 : Bool, ((v6 = (V.c (C.bool b8))) ∧ (ifB (!b8) (Q (V.c (C.bool false)) m7) (isPt (C.ptr m.nxt 0) ∧ 
 (∃ c9 : C, (((ldC m7 (C.ptr m.nxt 3)) = (some c9)) ∧ (Wc prog tbl 101 [(V.c c9), 
 (V.c (C.int .i64 (120 : Int)))] m7 (fun v10 m11 => (∃ b12 : Bool, ((v10 = (V.c (C.bool b12))) ∧ 
 (ifB (!b12) (Q (V.c (C.bool false)) m11) (isPt (C.ptr m.nxt 0) ∧ (∃ c13 : C, (((ldC m11 (C.ptr m.nxt 4)) = (some c13)) ∧ 
 (Wc prog tbl 101 [(V.c c13), (V.c (C.int .i64 (100 : Int)))] m11 (fun v14 m15 => 
 (∃ b16 : Bool, ((v14 = (V.c (C.bool b16))) ∧ (ifB (!b16) (Q (V.c (C.bool false)) m15) (isPt (C.ptr m.nxt 0) ∧ 
 (∃ c17 : C, (((ldC m15 (C.ptr m.nxt 4)) = (some c17)) ∧ (isPt (C.ptr m.nxt 0) ∧ 
 (∃ c18 : C, (((ldC m15 (C.ptr m.nxt 4)) = (some c18)) ∧ (isSl c18 ∧ 
 (fitsP .i64 ((((slLen c18) : Nat) : Int) - (1 : Int)) ∧ (∃ n19 : Nat, 
 ((((((slLen c18) : Nat) : Int) - (1 : Int)) = ((n19 : Nat) : Int)) ∧ ((n19 < (slLen c17)) ∧ 
 (∃ x20 : Int, (((ldC m15 (slAt c17 (n19 * 1))) = (some (C.int .i64 x20))) ∧ 
 (ifB (!decide (x20 = (100 : Int))) (Q (V.c (C.bool false)) m15) (isPt (C.ptr m.nxt 0) ∧ 
 (∃ c21 : C, (((ldC m15 (C.ptr m.nxt 5)) = (some c21)) ∧ (isSl c21 ∧ 
 (ifB (decide ((((slLen c21) : Nat) : Int) = (0 : Int))) (Q (V.c (C.bool false)) m15) (∀ R22 : List V → 
 M → Prop, ((∀ b23 : Bool, (∀ b24 : Bool, (∀ b25 : Bool, (∀ x26 : Int, (∀ m27 : M, 
 ((isPt (C.ptr m.nxt 0) ∧ (∃ c28 : C, (((ldC m27 (C.ptr m.nxt 5)) = (some c28)) ∧ 
 (isSl c28 ∧ (ifB (decide (x26 < (((slLen c28) : Nat) : Int))) (isPt (C.ptr m.nxt 0) ∧ 
 (∃ c29 : C, (((ldC m27 (C.ptr m.nxt 5)) = (some c29)) ∧ (∃ n30 : Nat, 
 ((x26 = ((n30 : Nat) : Int)) ∧ ((n30 < (slLen c29)) ∧ (∃ c31 : C, (((ldC m27 (slAt c29 (n30 * 1))) = (some c31)) ∧ 
 (isSl c31 ∧ (isPt (C.ptr m.nxt 0) ∧ (∃ c32 : C, (((ldC m27 (C.ptr m.nxt 3)) = (some c32)) ∧ 
 (isSl c32 ∧ (ifB (!decide ((((slLen c31) : Nat) : Int) = (((slLen c32) : Nat) : Int))) (Q (V.c (C.bool false)) m27) (∀ R33 : List V → 
 M → Prop, ((∀ b34 : Bool, (∀ b35 : Bool, (∀ x36 : Int, (∀ m37 : M, ((isPt (C.ptr m.nxt 0) ∧ 
 (∃ c38 : C, (((ldC m37 (C.ptr m.nxt 3)) = (some c38)) ∧ (isSl c38 ∧ 
 (ifB (decide (x36 < (((slLen c38) : Nat) : Int))) (isPt (C.ptr m.nxt 0) ∧ (∃ c39 : C, 
 (((ldC m37 (C.ptr m.nxt 5)) = (some c39)) ∧ (∃ n40 : Nat, ((x26 = ((n40 : Nat) : Int)) ∧ 
 ((n40 < (slLen c39)) ∧ (∃ c41 : C, (((ldC m37 (slAt c39 (n40 * 1))) = (some c41)) ∧ 
 (∃ n42 : Nat, ((x36 = ((n42 : Nat) : Int)) ∧ ((n42 < (slLen c41)) ∧ (∃ c43 : C, 
 (((ldC m37 (slAt c41 (n42 * 1))) = (some c43)) ∧ (isSl c43 ∧ (isPt (C.ptr m.nxt 0) ∧ 
 (∃ c44 : C, (((ldC m37 (C.ptr m.nxt 4)) = (some c44)) ∧ (isSl c44 ∧ 
 (ifB (!decide ((((slLen c43) : Nat) : Int) = (((slLen c44) : Nat) : Int))) (Q (V.c (C.bool false)) m37) (∀ R45 : List V → 
 M → Prop, ((∀ b46 : Bool, (∀ x47 : Int, (∀ m48 : M, ((isPt (C.ptr m.nxt 0) ∧ 
 (∃ c49 : C, (((ldC m48 (C.ptr m.nxt 4)) = (some c49)) ∧ (isSl c49 ∧ 
 (ifB (decide (x47 < (((slLen c49) : Nat) : Int))) (isPt (C.ptr m.nxt 0) ∧ (∃ c50 : C, 
 (((ldC m48 (C.ptr m.nxt 5)) = (some c50)) ∧ (∃ n51 : Nat, ((x26 = ((n51 : Nat) : Int)) ∧ 
 ((n51 < (slLen c50)) ∧ (∃ c52 : C, (((ldC m48 (slAt c50 (n51 * 1))) = (some c52)) ∧ 
 (∃ n53 : Nat, ((x36 = ((n53 : Nat) : Int)) ∧ ((n53 < (slLen c52)) ∧ (∃ c54 : C, 
 (((ldC m48 (slAt c52 (n53 * 1))) = (some c54)) ∧ (∃ n55 : Nat, ((x47 = ((n55 : Nat) : Int)) ∧ 
 ((n55 < (slLen c54)) ∧ (∃ x56 : Int, (((ldC m48 (slAt c54 (n55 * 1))) = (some (C.int .i64 x56))) ∧ 
 (Wc prog tbl 22 [(V.c (C.int .i64 x56)), (V.c (C.int .i64 (0 : Int))), 
 (V.c (C.int .i64 (100 : Int)))] m48 (fun v57 m58 => (∃ b59 : Bool, ((v57 = (V.c (C.bool b59))) ∧ 
 (ifB (!b59) (Q (V.c (C.bool false)) m58) (fitsP .i64 (x47 + (1 : Int)) ∧ 
 (R45 [(V.c (C.bool b46)), (V.c (C.int .i64 (x47 + (1 : Int))))] m58))))))))))))))))))))))))) (fitsP .i64 (x36 + (1 : Int)) ∧ 
 (R33 [(V.c (C.bool b46)), (V.c (C.bool b46)), (V.c (C.int .i64 (x36 + (1 : Int))))] m48))))))) → 
 (R45 [(V.c (C.bool b46)), (V.c (C.int .i64 x47))] m48))))) → (R45 [(V.c (C.bool b34)), 
 (V.c (C.int .i64 (0 : Int)))] m37)))))))))))))))))))))) (fitsP .i64 (x26 + (1 : Int)) ∧ 
 (R22 [(V.c (C.bool b34)), (V.c (C.bool b34)), (V.c (C.bool b34)), (V.c (C.int .i64 (x26 + (1 : Int))))] m37))))))) → 
 (R33 [(V.c (C.bool b34)), (V.c (C.bool b35)), (V.c (C.int .i64 x36))] m37)))))) → 
 (R33 [(V.c (C.bool b23)), (V.c (C.bool b23)), (V.c (C.int .i64 (0 : Int)))] m27))))))))))))))))) (Q (V.c (C.bool true)) m27)))))) → 
 (R22 [(V.c (C.bool b23)), (V.c (C.bool b24)), (V.c (C.bool b25)), (V.c (C.int .i64 x26))] m27))))))) → 
 (R22 [(V.c (C.bool false)), (V.c (C.bool false)), (V.c (C.bool false)), (V.c (C.int .i64 (0 : Int)))] m15))))))))))))))))))))))))))))))))))))))))))))))))))))))))) : Wc prog tbl 81 [(V.agg 6 [(C.int .i64 a100), (C.bool a101), (C.int .i64 a102), a103, a104, a105])] m Q :=
 wc_eq (n := 1) rfl (by kernel_rfl) (by kernel_rfl) h
theorem w84 {a100 : C} {a200 : C} {m : M} {Q : V → M → Prop} (h :
 (∀ m0 : M, ((m0 = (M.new m (AO.cells 1 [a200] false))) → (Wc prog tbl 103 [(V.c a100), (V.c (C.fn (Fn.func 104) [] [(W.c (C0.ptr m.nxt 0))]))] m0 (fun v1 m2 => 
 (∃ b3 : Bool, ((v1 = (V.c (C.bool b3))) ∧ (Q (V.c (C.bool (!b3))) m2)))))))) : Wc prog tbl 84 [(V.c a100), (V.c a200)] m Q :=
 wc_eq (n := 2) rfl (by kernel_rfl) (by kernel_rfl) h
theorem w87 {a100 : C} {m : M} {Q : V → M → Prop} (h :
 (isSl a100 ∧ (∀ R0 : List V → M → Prop, ((∀ c1 : C, (∀ x2 : Int, (∀ m3 : M, ((ifB (decide (x2 < (((slLen a100) : Nat) : Int))) (∃ n4 : Nat, 
 ((x2 = ((n4 : Nat) : Int)) ∧ ((n4 < (slLen a100)) ∧ (∃ x5 : Int, (∃ b6 : Bool, (∃ x7 : Int, (∃ c8 : C, 
 (∃ c9 : C, (∃ c10 : C, (((ldA m3 (slAt a100 (n4 * 6)) 6) = (some [(C.int .i64 x5), 
 (C.bool b6), (C.int .i64 x7), c8, c9, c10])) ∧ (∀ m11 : M, ((m11 = (M.new m3 (AO.cells 6 [(C.int .i64 (0 : Int)), 
 (C.bool false), (C.int .i64 (0 : Int)), C.sl0, C.sl0, C.sl0] false))) → (∃ m12 : M, 
 (((stC m11 (C.ptr m3.nxt 0) 6 [(C.int .i64 x5), (C.bool b6), (C.int .i64 x7), 
 c8, c9, c10]) = (some m12)) ∧ (isPt (C.ptr m3.nxt 0) ∧ (∃ x13 : Int, (((ldC m12 (C.ptr m3.nxt 0)) = (some (C.int .i64 x13))) ∧ 
 (∀ m14 : M, ((m14 = (M.new m12 (AO.cells 1 [(C.int .i64 x13)] false))) → (∃ c15 : C, 
 (∃ m16 : M, ((ApR prog 73 m14 c1 (C.sl m12.nxt 0 1 0 (some 1)) c15 m16) ∧ 
 (fitsP .i64 (x2 + (1 : Int)) ∧ (R0 [(V.c c15), (V.c (C.int .i64 (x2 + (1 : Int))))] m16)))))))))))))))))))))))) (Q (V.c c1) m3)) → 
 (R0 [(V.c c1), (V.c (C.int .i64 x2))] m3))))) → (R0 [(V.c C.sl0), (V.c (C.int .i64 (0 : Int)))] m))))) : Wc prog tbl 87 [(V.c a100)] m Q :=
 wc_eq (n := 1) rfl (by kernel_rfl) (by kernel_rfl) h
theorem w99 {a100 : Int} {a101 : Bool} {a102 : Int} {a103 : C} {a104 : C} {a105 : C} {a200 : Int} {a201 : Int} {a202 : Int} {m : M} {Q : V → M → Prop} (h :
 (∀ m0 : M, ((m0 = (M.new m (AO.cells 6 [(C.int .i64 a100), (C.bool a101), (C.int .i64 a102), a103, 
 a104, a105] false))) → (∀ m1 : M, ((m1 = (M.new m0 (AO.cells 3 [(C.int .i64 a200), (C.int .i64 a201), 
 (C.int .i64 a202)] false))) → (isPt (C.ptr m.nxt 0) ∧ (∃ c2 : C, (((ldC m1 (C.ptr m.nxt 5)) = (some c2)) ∧ 
 (isPt (C.ptr m0.nxt 0) ∧ (∃ x3 : Int, (((ldC m1 (C.ptr m0.nxt 2)) = (some (C.int .i64 x3))) ∧ 
 (∃ n4 : Nat, ((x3 = ((n4 : Nat) : Int)) ∧ ((n4 < (slLen c2)) ∧ (∃ c5 : C, (((ldC m1 (slAt c2 (n4 * 1))) = (some c5)) ∧ 
 (isPt (C.ptr m.nxt 0) ∧ (∃ c6 : C, (((ldC m1 (C.ptr m.nxt 3)) = (some c6)) ∧ (isPt (C.ptr m0.nxt 0) ∧ 
 (isPt (C.ptr m0.nxt 0) ∧ (∃ x7 : Int, (((ldC m1 (C.ptr m0.nxt 0)) = (some (C.int .i64 x7))) ∧ 
 (Wc prog tbl 98 [(V.c c6), (V.c (C.int .i64 x7))] m1 (fun v8 m9 => (∃ x10 : Int, 
 ((v8 = (V.c (C.int .i64 x10))) ∧ ((ifB (noFnC c5) ((ldC m9 (slAt c2 (n4 * 1))) = (some c5)) False) ∧ 
 (((ldC m9 (C.ptr m0.nxt 2)) = (some (C.int .i64 x3))) ∧ ((ifB (noFnC c2) ((ldC m9 (C.ptr m.nxt 5)) = (some c2)) False) ∧ 
 (∃ n11 : Nat, ((x10 = ((n11 : Nat) : Int)) ∧ ((n11 < (slLen c5)) ∧ (∃ c12 : C, 
 (((ldC m9 (slAt c5 (n11 * 1))) = (some c12)) ∧ (isPt (C.ptr m.nxt 0) ∧ 
 (∃ c13 : C, (((ldC m9 (C.ptr m.nxt 4)) = (some c13)) ∧ (isPt (C.ptr m0.nxt 0) ∧ 
 (isPt (C.ptr m0.nxt 0) ∧ (∃ x14 : Int, (((ldC m9 (C.ptr m0.nxt 1)) = (some (C.int .i64 x14))) ∧ 
 (Wc prog tbl 116 [(V.c c13), (V.c (C.int .i64 x14))] m9 (fun v15 m16 => 
 (∃ x17 : Int, (∃ b18 : Bool, ((v15 = (V.tup [(U.c (C.int .i64 x17)), (U.c (C.bool b18))])) ∧ 
 (ifB b18 (∃ n19 : Nat, ((x17 = ((n19 : Nat) : Int)) ∧ ((n19 < (slLen c12)) ∧ 
 (∃ x20 : Int, (((ldC m16 (slAt c12 (n19 * 1))) = (some (C.int .i64 x20))) ∧ 
 (Q (V.c (C.int .i64 x20)) m16)))))) (isPt (C.ptr m.nxt 0) ∧ (∃ c21 : C, 
 (((ldC m16 (C.ptr m.nxt 4)) = (some c21)) ∧ (fitsP .i64 (x17 - (1 : Int)) ∧ 
 (∃ n22 : Nat, (((x17 - (1 : Int)) = ((n22 : Nat) : Int)) ∧ ((n22 < (slLen c21)) ∧ 
 (∃ x23 : Int, (((ldC m16 (slAt c21 (n22 * 1))) = (some (C.int .i64 x23))) ∧ 
 (isPt (C.ptr m.nxt 0) ∧ (∃ c24 : C, (((ldC m16 (C.ptr m.nxt 4)) = (some c24)) ∧ 
 (∃ n25 : Nat, ((x17 = ((n25 : Nat) : Int)) ∧ ((n25 < (slLen c24)) ∧ (∃ x26 : Int, 
 (((ldC m16 (slAt c24 (n25 * 1))) = (some (C.int .i64 x26))) ∧ (fitsP .i64 (x17 - (1 : Int)) ∧ 
 (∃ n27 : Nat, (((x17 - (1 : Int)) = ((n27 : Nat) : Int)) ∧ ((n27 < (slLen c12)) ∧ 
 (∃ x28 : Int, (((ldC m16 (slAt c12 (n27 * 1))) = (some (C.int .i64 x28))) ∧ 
 (isPt (C.ptr m0.nxt 0) ∧ (isPt (C.ptr m0.nxt 0) ∧ (∃ x29 : Int, (((ldC m16 (C.ptr m0.nxt 1)) = (some (C.int .i64 x29))) ∧ 
 (fitsP .i64 (x26 - x29) ∧ (((0 : Int) ≤ x28) ∧ (((0 : Int) ≤ (x26 - x29)) ∧ 
 (fitsP .i64 (x28 * (x26 - x29)) ∧ (∃ n30 : Nat, ((x17 = ((n30 : Nat) : Int)) ∧ 
 ((n30 < (slLen c12)) ∧ (∃ x31 : Int, (((ldC m16 (slAt c12 (n30 * 1))) = (some (C.int .i64 x31))) ∧ 
 (isPt (C.ptr m0.nxt 0) ∧ (isPt (C.ptr m0.nxt 0) ∧ (∃ x32 : Int, (((ldC m16 (C.ptr m0.nxt 1)) = (some (C.int .i64 x32))) ∧ 
 (fitsP .i64 (x32 - x23) ∧ (((0 : Int) ≤ x31) ∧ (((0 : Int) ≤ (x32 - x23)) ∧ 
 (fitsP .i64 (x31 * (x32 - x23)) ∧ (fitsP .i64 ((x28 * (x26 - x29)) + (x31 * (x32 - x23))) ∧ 
 (fitsP .i64 (x26 - x23) ∧ (((0 : Int) ≤ ((x28 * (x26 - x29)) + (x31 * (x32 - x23)))) ∧ 
 (((0 : Int) < (x26 - x23)) ∧ (fitsP .i64 (((x28 * (x26 - x29)) + (x31 * (x32 - x23))) / (x26 - x23)) ∧ 
 (Q (V.c (C.int .i64 (((x28 * (x26 - x29)) + (x31 * (x32 - x23))) / (x26 - x23)))) m16)))))))))))))))))))))))))))))))))))))))))))))))))))))))))))))))))))))))))))))))))))))))))))))))))) : Wc prog tbl 99 [(V.agg 6 [(C.int .i64 a100), (C.bool a101), (C.int .i64 a102), a103, a104, a105]), (V.agg 3 [(C.int .i64 a200), (C.int .i64 a201), (C.int .i64 a202)])] m Q :=
 wc_eq (n := 2) rfl (by kernel_rfl) (by kernel_rfl) h
theorem w102 {a100 : C} {a200 : C} {m : M} {Q : V → M → Prop} (h :
 (isSl a100 ∧ (∀ R0 : List V → M → Prop, ((∀ x1 : Int, (∀ x2 : Int, (∀ m3 : M, ((ifB (decide (x2 < (((slLen a100) : Nat) : Int))) (∃ n4 : Nat, 
 ((x2 = ((n4 : Nat) : Int)) ∧ ((n4 < (slLen a100)) ∧ (∃ x5 : Int, (∃ b6 : Bool, (∃ x7 : Int, (∃ c8 : C, 
 (∃ c9 : C, (∃ c10 : C, (((ldA m3 (slAt a100 (n4 * 6)) 6) = (some [(C.int .i64 x5), 
 (C.bool b6), (C.int .i64 x7), c8, c9, c10])) ∧ (callP prog tbl [(V.agg 6 [(C.int .i64 x5), 
 (C.bool b6), (C.int .i64 x7), c8, c9, c10])] a200 m3 (fun v11 m12 => (∃ b13 : Bool, 
 ((v11 = (V.c (C.bool b13))) ∧ (ifB b13 (Q (V.c (C.int .i64 x2)) m12) (fitsP .i64 (x2 + (1 : Int)) ∧ 
 (R0 [(V.c (C.int .i64 x1)), (V.c (C.int .i64 (x2 + (1 : Int))))] m12))))))))))))))))) (Q (V.c (C.int .i64 (-1 : Int))) m3)) → 
 (R0 [(V.c (C.int .i64 x1)), (V.c (C.int .i64 x2))] m3))))) → (R0 [(V.c (C.int .i64 (0 : Int))), 
 (V.c (C.int .i64 (0 : Int)))] m))))) : Wc prog tbl 102 [(V.c a100), (V.c a200)] m Q :=
 wc_eq (n := 2) rfl (by kernel_rfl) (by kernel_rfl) h
theorem w105 {a100 : Int} {m : M} {Q : V → M → Prop} (h :
 (Wc prog tbl 78 [(V.agg 2 [(C.int .i64 (0 : Int)), (C.int .i64 (100 : Int))]), (V.c (C.int .i64 a100))] m (fun v0 m1 => 
 (∃ b2 : Bool, ((v0 = (V.c (C.bool b2))) ∧ (Q (V.c (C.bool b2)) m1)))))) : Wc prog tbl 105 [(V.c (C.int .i64 a100))] m Q :=
 wc_eq (n := 1) rfl (by kernel_rfl) (by kernel_rfl) h
theorem w108 {a100 : Int} {a101 : Bool} {a102 : Int} {a103 : C} {a104 : C} {a105 : C} {a200 : C} {m : M} {Q : V → M → Prop} (h :
 (∀ m0 : M, ((m0 = (M.new m (AO.cells 6 [(C.int .i64 a100), (C.bool a101), (C.int .i64 a102), a103, 
 a104, a105] false))) → (isSl a200 ∧ (isPt (C.ptr m.nxt 0) ∧ (∃ c1 : C, (((ldC m0 (C.ptr m.nxt 3)) = (some c1)) ∧ 
 (isSl c1 ∧ (ifB (decide ((((slLen a200) : Nat) : Int) = (((slLen c1) : Nat) : Int))) (∃ x2 : Int, (∃ b3 : Bool, 
 (∃ x4 : Int, (∃ c5 : C, (∃ c6 : C, (∃ c7 : C, (((ldA m0 (C.ptr m.nxt 0) 6) = (some [(C.int .i64 x2), 
 (C.bool b3), (C.int .i64 x4), c5, c6, c7])) ∧ (optB (mapO vW [(V.agg 6 [(C.int .i64 x2), 
 (C.bool b3), (C.int .i64 x4), c5, c6, c7])]) False fun l8 => (Wc prog tbl 124 [(V.c a200), 
 (V.c (C.fn (Fn.func 125) l8 []))] m0 (fun v9 m10 => (∃ b11 : Bool, ((v9 = (V.c (C.bool b11))) ∧ 
 (Q (V.c (C.bool b11)) m10))))))))))))) (Q (V.c (C.bool false)) m0)))))))))) : Wc prog tbl 108 [(V.agg 6 [(C.int .i64 a100), (C.bool a101), (C.int .i64 a102), a103, a104, a105]), (V.c a200)] m Q :=
 wc_eq (n := 2) rfl (by kernel_rfl) (by kernel_rfl) h
theorem w117 {a100 : Int} {a101 : Bool} {a102 : Int} {a103 : C} {a104 : C} {a105 : C} {a200 : Int} {m : M} {Q : V → M → Prop} (h :
 (∀ m0 : M, ((m0 = (M.new m (AO.cells 6 [(C.int .i64 a100), (C.bool a101), (C.int .i64 a102), a103, 
 a104, a105] false))) → (Q (V.c (C.int .i64 a200)) m0)))) : Wc prog tbl 117 [(V.agg 6 [(C.int .i64 a100), (C.bool a101), (C.int .i64 a102), a103, a104, a105]), (V.c (C.int .i64 a200))] m Q :=
 wc_eq (n := 2) rfl (by kernel_rfl) (by kernel_rfl) h
theorem w120 {a100 : C} {a200 : C} {m : M} {Q : V → M → Prop} (h :
 (Wc prog tbl 131 [(V.c a100), (V.c a200)] m (fun v0 m1 => (∃ x2 : Int, ((v0 = (V.c (C.int .i64 x2))) ∧ (Q (V.c (C.bool (decide ((0 : Int) ≤ x2)))) m1)))))) : Wc prog tbl 120 [(V.c a100), (V.c a200)] m Q :=
 wc_eq (n := 2) rfl (by kernel_rfl) (by kernel_rfl) h
theorem w129 {a100 : Int} {a200 : Int} {m : M} {Q : V → M → Prop} (h :
 (Wc prog tbl 95 [(V.c (C.int .i64 a100))] m (fun v0 m1 => (∃ b2 : Bool, ((v0 = (V.c (C.bool b2))) ∧ (ifB b2 (Wc prog tbl 95 [(V.c (C.int .i64 a200))] m1 (fun v3 m4 => 
 (∃ b5 : Bool, ((v3 = (V.c (C.bool b5))) ∧ (ifB (!b5) (Q (V.c (C.bool true)) m4) (Q (V.c (C.bool (decide (a100 < a200)))) m4)))))) (Q (V.c (C.bool (decide (a100 < a200)))) m1))))))) : Wc prog tbl 129 [(V.c (C.int .i64 a100)), (V.c (C.int .i64 a200))] m Q :=
 wc_eq (n := 2) rfl (by kernel_rfl) (by kernel_rfl) h
theorem w132 {a100 : C} {a200 : C} {m : M} {Q : V → M → Prop} (h :
 (isSl a100 ∧ (∀ R0 : List V → M → Prop, ((∀ x1 : Int, (∀ x2 : Int, (∀ m3 : M, ((ifB (decide (x2 < (((slLen a100) : Nat) : Int))) (∃ n4 : Nat, 
 ((x2 = ((n4 : Nat) : Int)) ∧ ((n4 < (slLen a100)) ∧ (∃ c5 : C, (((ldC m3 (slAt a100 (n4 * 1))) = (some c5)) ∧ 
 (callP prog tbl [(V.c c5)] a200 m3 (fun v6 m7 => (∃ b8 : Bool, ((v6 = (V.c (C.bool b8))) ∧ (ifB b8 (Q (V.c (C.int .i64 x2)) m7) (fitsP .i64 (x2 + (1 : Int)) ∧ 
 (R0 [(V.c (C.int .i64 x1)), (V.c (C.int .i64 (x2 + (1 : Int))))] m7)))))))))))) (Q (V.c (C.int .i64 (-1 : Int))) m3)) → 
 (R0 [(V.c (C.int .i64 x1)), (V.c (C.int .i64 x2))] m3))))) → (R0 [(V.c (C.int .i64 (0 : Int))), 
 (V.c (C.int .i64 (0 : Int)))] m))))) : Wc prog tbl 132 [(V.c a100), (V.c a200)] m Q :=
 wc_eq (n := 2) rfl (by kernel_rfl) (by kernel_rfl) h
theorem w135 {a100 : C} {a200 : C} {m : M} {Q : V → M → Prop} (h :
 (isSl a100 ∧ (∀ R0 : List V → M → Prop, ((∀ x1 : Int, (∀ x2 : Int, (∀ m3 : M, ((ifB (decide (x2 < (((slLen a100) : Nat) : Int))) (∃ n4 : Nat, 
 ((x2 = ((n4 : Nat) : Int)) ∧ ((n4 < (slLen a100)) ∧ (∃ c5 : C, (((ldC m3 (slAt a100 (n4 * 1))) = (some c5)) ∧ 
 (callP prog tbl [(V.c c5)] a200 m3 (fun v6 m7 => (∃ b8 : Bool, ((v6 = (V.c (C.bool b8))) ∧ (ifB b8 (Q (V.c (C.int .i64 x2)) m7) (fitsP .i64 (x2 + (1 : Int)) ∧ 
 (R0 [(V.c (C.int .i64 x1)), (V.c (C.int .i64 (x2 + (1 : Int))))] m7)))))))))))) (Q (V.c (C.int .i64 (-1 : Int))) m3)) → 
 (R0 [(V.c (C.int .i64 x1)), (V.c (C.int .i64 x2))] m3))))) → (R0 [(V.c (C.int .i64 (0 : Int))), 
 (V.c (C.int .i64 (0 : Int)))] m))))) : Wc prog tbl 135 [(V.c a100), (V.c a200)] m Q :=
 wc_eq (n := 2) rfl (by kernel_rfl) (by kernel_rfl) h
end
end Go.Proofs.Ytbhdgedghfibcaa

