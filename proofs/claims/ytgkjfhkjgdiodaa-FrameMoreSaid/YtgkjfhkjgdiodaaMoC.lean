/- What functions of the program ask and do. Condition: none; a lemma text of this claim. -/
import Derived.Test.YtgkjfhkjgdiodaaMoB

namespace Go.Proofs.Ytgkjfhkjgdiodaa
open _root_.Go.Proofs.Try
open Go.Abs
set_option maxRecDepth 100000
noncomputable section
/-- the increasing lists of d more numbers below n, from fr on -/
def combs (n : Nat) : Nat → List Int → Nat → List (List Int)
  | 0, pre, _ => [pre]
  | d + 1, pre, fr => rests (fun x => combs n d (pre ++ [(x : Int)]) (x + 1)) (n - fr) fr
def hdr (bl size : Nat) : C := .sl bl 0 size 0 (some size)
def flC (b k h2 b2 cv : Nat) : C := .fn (.func 117) [] [.c (.ptr b 0), .c (.ptr k 0), .c (.ptr h2 0), .c (.ptr b2 0), .c (.ptr cv 0)]
/-- what lists hands out: the one with number i lies in a block from n1 on -/
def VsL (all : List (List Int)) (n1 i : Nat) (x : List V) (m : M) : Prop := ∃ L c, all[i]? = some L ∧ x = [.c c] ∧ Li m c L ∧ isNilC c = false ∧ ∀ b o n s d, c = .sl b o n s d → n1 ≤ b
theorem _root_.Go.Abs.Bk.st1n {m : M} {b n : Nat} {vs : List C} (h : Bk m b n vs) {k : Nat} (c : C) (hk : k < vs.length) (hn : vs.length = n) : stC m (.ptr b (0 + k * 1)) 1 [c] = some (m.set b (.cells n (vs.set k c) false)) := by
  rw [show 0 + k * 1 = k by omega]
  by_cases h1 : n = 1
  · subst h1
    have hk0 : k = 0 := by omega
    subst hk0
    have : vs.set 0 c = [c] := by
      match vs, hn with
      | [a], _ => rfl
    rw [this]
    exact stC_of h.g [c]
  · exact stC_at h.g c hk hn h1
theorem rep0 (n : Nat) : repeatS [C.int .i64 0] n = ints (List.replicate n 0) := by rw [repeatS_eq]; simp [ints]
/-- fill at work -/
structure Sl (n size b b2 l k h2 bl cv : Nat) (S : Nat → Prop) (m : M) (P : List Int) : Prop where
  bb : Bk m b 1 [.int .i64 (size : Int)]
  nn : Bk m b2 1 [.int .i64 (n : Int)]
  kk : Bk m k 1 [.fn (.yield l) [] []]
  hh : Bk m h2 1 [hdr bl size]
  ll : Bk m bl size (ints P)
  cc : Bk m cv 1 [flC b k h2 b2 cv]
  ss : ∀ b', S b' → b' ≠ b ∧ b' ≠ b2 ∧ b' ≠ k ∧ b' ≠ h2 ∧ b' ≠ bl ∧ b' ≠ cv
  ne : b ≠ bl ∧ b2 ≠ bl ∧ k ≠ bl ∧ h2 ≠ bl ∧ cv ≠ bl
variable {n size b b2 l k h2 bl cv : Nat}
theorem Sl.to {S S' : Nat → Prop} {m m' : M} {P : List Int} (h : Sl n size b b2 l k h2 bl cv S m P) (hn : Chg S m m') (ho : Own S m S') : Sl n size b b2 l k h2 bl cv S' m' P := by
  have tr : ∀ {b' j : Nat} {vs : List C}, Bk m b' j vs → ¬ S b' → Bk m' b' j vs := fun hb hS => ⟨(hn.g _ hb.lt hS).trans hb.g, Nat.lt_of_lt_of_le hb.lt hn.nxt⟩
  refine ⟨tr h.bb fun h1 => (h.ss _ h1).1 rfl, tr h.nn fun h1 => (h.ss _ h1).2.1 rfl, tr h.kk fun h1 => (h.ss _ h1).2.2.1 rfl, tr h.hh fun h1 => (h.ss _ h1).2.2.2.1 rfl, tr h.ll fun h1 => (h.ss _ h1).2.2.2.2.1 rfl, tr h.cc fun h1 => (h.ss _ h1).2.2.2.2.2 rfl, fun b' hb => ?_, h.ne⟩
  rcases ho b' hb with h1 | h1
  · exact h.ss b' h1
  · have := h.bb.lt; have := h.nn.lt; have := h.kk.lt; have := h.hh.lt; have := h.ll.lt; have := h.cc.lt
    omega
theorem Sl.set {S : Nat → Prop} {m : M} {P : List Int} (h : Sl n size b b2 l k h2 bl cv S m P) (P' : List Int) : Sl n size b b2 l k h2 bl cv S (m.set bl (.cells size (ints P') false)) P' :=
  ⟨h.bb.setNe h.ne.1 _, h.nn.setNe h.ne.2.1 _, h.kk.setNe h.ne.2.2.1 _, h.hh.setNe h.ne.2.2.2.1 _, h.ll.set _, h.cc.setNe h.ne.2.2.2.2 _, h.ss, h.ne⟩
theorem Sl.li {S : Nat → Prop} {m : M} {P : List Int} (h : Sl n size b b2 l k h2 bl cv S m P) (hP : P.length = size) : Li m (hdr bl size) P := by
  refine ⟨by rw [ints_len]; omega, .inr ⟨bl, 0, 0, some size, by rw [hP]; rfl, h.ll.lt, fun _ => .inl ⟨size, ints P, false, h.ll.g, by rw [ints_len]; exact hP, by rw [ints_len]; omega, by rw [List.drop_zero, List.take_length]⟩⟩⟩
theorem s117 {n0 n1 : Nat} (hn : n ≤ 1000) (hsz : size ≤ 1000) (hn0 : n0 ≤ bl) (hn1 : n1 ≤ bl) {all : List (List Int)} {I : Nat → (Nat → Prop) → M → Prop} {E : (Nat → Prop) → M → Prop} (hcl : ClientV prog tbl n0 l (VsL all n1) I E) :
    ∀ (d p : Nat), d + p = size → ∀ (i fr : Nat) (S : Nat → Prop) (m : M) (P : List Int) (Q : V → M → Prop), Sl n size b b2 l k h2 bl cv S m P → P.length = size →
      (∀ j L, (combs n d (P.take p) fr)[j]? = some L → all[i + j]? = some L) → I i S m →
      (∀ S' m' P', Own S m S' → Chg (fun b' => S b' ∨ b' = bl) m m' → Sl n size b b2 l k h2 bl cv S' m' P' → P'.length = size → P'.take p = P.take p → I (i + (combs n d (P.take p) fr).length) S' m' → Q (.c (.bool true)) m') →
      (∀ S' m', Own S m S' → Chg (fun b' => S b' ∨ b' = bl) m m' → E S' m' → Q (.c (.bool false)) m') →
      Wc prog tbl 117 [.c (.int .i64 (p : Int)), .c (.int .i64 (fr : Int)), .c (.ptr b 0), .c (.ptr k 0), .c (.ptr h2 0), .c (.ptr b2 0), .c (.ptr cv 0)] m Q := by
  intro d
  induction d with
  | zero =>
    intro p hp i fr S m P Q hst hP hxs hI hT hF
    refine w117 (p : Int) (fr : Int) b k h2 b2 cv ⟨_, hst.bb.rc rfl, ?_⟩
    rw [ifB_dec]
    refine ⟨fun _ => ⟨_, hst.kk.rc rfl, _, hst.hh.rc rfl, ?_⟩, fun h1 => absurd (by omega) h1⟩
    have hx0 := hxs 0 (P.take p) rfl
    rw [List.take_of_length_le (by omega), Nat.add_zero] at hx0
    show Wy prog tbl l [.c (hdr bl size)] m _
    refine hcl.yield i _ S m ⟨P, hdr bl size, hx0, rfl, hst.li hP, rfl, fun b' o n' s d h => by cases h; exact hn1⟩ hI _ (fun S' m' ho hch hI' => ⟨_, rfl, ?_⟩) fun S' m' ho hch hE => ⟨_, rfl, hF S' m' ho (Chg.or hch) hE⟩
    exact hT S' m' P ho (Chg.or hch) (hst.to hch ho) hP rfl hI'
  | succ d ih =>
    intro p hp i fr S m P Q hst hP hxs hI hT hF
    refine w117 (p : Int) (fr : Int) b k h2 b2 cv ⟨_, hst.bb.rc rfl, ?_⟩
    rw [ifB_dec]
    refine ⟨fun h1 => by omega, fun _ R6 hstep => ?_⟩
    let g : Nat → List (List Int) := fun x => combs n d (P.take p ++ [(x : Int)]) (x + 1)
    have hex : combs n (d + 1) (P.take p) fr = rests g (n - fr) fr := rfl
    rw [hex] at hxs hT
    have hgo : ∀ (e x : Nat) (b7 : Bool) (m9 : M) (S1 : Nat → Prop) (P1 : List Int) (i1 : Nat), n - x = e → Own S m S1 → Chg (fun b' => S b' ∨ b' = bl) m m9 → Sl n size b b2 l k h2 bl cv S1 m9 P1 → P1.length = size → P1.take p = P.take p → I i1 S1 m9 →
        i1 + (rests g e x).length = i + (rests g (n - fr) fr).length → (∀ j L, (rests g e x)[j]? = some L → all[i1 + j]? = some L) → R6 [.c (.bool b7), .c (.int .i64 (x : Int))] m9 := by
      intro e
      induction e with
      | zero =>
        intro x b7 m9 S1 P1 i1 hen ho hch hst1 hP1 htk hI1 hlen hxs1
        refine hstep _ _ _ ⟨_, hst1.nn.rc rfl, ?_⟩
        rw [ifB_dec]
        refine ⟨fun h1 => by omega, fun _ => hT S1 m9 P1 ho hch hst1 hP1 htk ?_⟩
        have : i1 + 0 = _ := hlen
        rw [← this, Nat.add_zero]; exact hI1
      | succ e ihe =>
        intro x b7 m9 S1 P1 i1 hen ho hch hst1 hP1 htk hI1 hlen hxs1
        refine hstep _ _ _ ⟨_, hst1.nn.rc rfl, ?_⟩
        rw [ifB_dec]
        refine ⟨fun _ => ?_, fun h1 => absurd (by omega) h1⟩
        have hp9 : p < P1.length := by omega
        refine ⟨_, hst1.hh.rc rfl, p, rfl, (by show p < size; omega), _, hst1.ll.st1n _ (by rw [ints_len]; exact hp9) (by rw [ints_len]; exact hP1), ?_⟩
        rw [ints_set]
        have hst2 := hst1.set (P1.set p (x : Int))
        have hch2 : Chg (fun b' => S1 b' ∨ b' = bl) m9 (m9.set bl (.cells size (ints (P1.set p (x : Int))) false)) := ⟨Nat.le_refl _, fun b' _ hS => by rw [M.g_set, if_neg fun h1 => hS (.inr h1)], rfl⟩
        have hI2 : I i1 S1 (m9.set bl (.cells size (ints (P1.set p (x : Int))) false)) := (hcl.li i1).st _ _ _ hI1 (Nat.le_refl _) rfl (fun b' hb => by rw [M.g_set, if_neg (hst1.ss b' hb).2.2.2.2.1]) (fun b' hb => by rw [M.g_set, if_neg (by omega)])
        have hchm := Chg.trans (T := fun b' => b' = bl) hch hch2 ho
        generalize m9.set bl (.cells size (ints (P1.set p (x : Int))) false) = m13 at hst2 hch2 hI2 hchm
        have hP2 : (P1.set p (x : Int)).length = size := by rw [List.length_set]; exact hP1
        have htk2 : (P1.set p (x : Int)).take (p + 1) = P.take p ++ [(x : Int)] := by rw [take_set hp9, htk]
        have htk3 : (P1.set p (x : Int)).take p = P.take p := by rw [List.take_set_of_le (Nat.le_refl _), htk]
        generalize P1.set p (x : Int) = P2 at hst2 htk2 htk3 hP2
        have hge : rests g (e + 1) x = g x ++ rests g e (x + 1) := rfl
        have hg : g x = combs n d (P2.take (p + 1)) (x + 1) := by rw [htk2]
        rw [hge, hg] at hlen hxs1
        rw [List.length_append] at hlen
        refine ⟨_, hst2.cc.rc rfl, fits_small (by omega) (by omega), fits_small (by omega) (by omega), ?_⟩
        show Wc prog tbl 117 [.c (.int .i64 ((p + 1 : Nat) : Int)), .c (.int .i64 ((x + 1 : Nat) : Int)), .c (.ptr b 0), .c (.ptr k 0), .c (.ptr h2 0), .c (.ptr b2 0), .c (.ptr cv 0)] m13 _
        refine ih (p + 1) (by omega) i1 (x + 1) S1 m13 P2 _ hst2 hP2 (fun j H hj => hxs1 j H (by rw [List.getElem?_append_left (List.getElem?_eq_some_iff.1 hj).1]; exact hj)) hI2 (fun S' m' P' ho' hch' hst' hP' htk' hI' => ⟨_, rfl, ?_⟩) fun S' m' ho' hch' hE => ⟨_, rfl, ?_⟩
        · have htk4 : P'.take p = P.take p := by
            have h1 := congrArg (List.take p) htk'
            rw [List.take_take, List.take_take, Nat.min_eq_left (by omega)] at h1
            rw [h1, htk3]
          refine ⟨fits_small (by omega) (by omega), ihe (x + 1) b7 m' S' P' _ (by omega) (Own.trans ho ho' hchm.nxt) (Chg.trans (T := fun b' => b' = bl) hchm hch' ho) hst' hP' htk4 hI' (by omega) fun j H hj => ?_⟩
          rw [Nat.add_assoc]
          exact hxs1 _ H (by rw [List.getElem?_append_right (by omega), Nat.add_sub_cancel_left]; exact hj)
        · exact hF S' m' (Own.trans ho ho' hchm.nxt) (Chg.trans (T := fun b' => b' = bl) hchm hch' ho) hE
    exact hgo (n - fr) fr false m S P i rfl (Own.refl S m) ⟨Nat.le_refl _, fun _ _ _ => rfl, rfl⟩ hst hP rfl hI rfl hxs
/-- lists: what it hands out -/
theorem lists_iter (hn : n ≤ 1000) (hsz : size ≤ 1000) : IterV prog tbl (.fn (.func 116) [] [.c (.ptr b 0), .c (.ptr b2 0)]) (combs n size [] 0).length (VsL (combs n size [] 0)) (fun b' => b' = b ∨ b' = b2) (fun m => Bk m b 1 [.int .i64 (size : Int)] ∧ Bk m b2 1 [.int .i64 (n : Int)]) := by
  refine ⟨fun m m' h hn' hv hg => ⟨⟨(hg b (.inl rfl)).trans h.1.g, Nat.lt_of_lt_of_le h.1.lt hn'⟩, ⟨(hg b2 (.inr rfl)).trans h.2.g, Nat.lt_of_lt_of_le h.2.lt hn'⟩⟩, fun m h b' hb => hb.elim (fun h1 => h1 ▸ h.1.lt) fun h1 => h1 ▸ h.2.lt, fun n0' l I E S m hcl hn0' hI hR hSD Q hQ => ?_⟩
  have hSlt := (hcl.li 0).lt _ _ hI
  have hb := hR.1.lt
  have hb2 := hR.2.lt
  show Wc prog tbl 116 [.c (.fn (.yield l) [] []), .c (.ptr b 0), .c (.ptr b2 0)] m Q
  refine w116 _ b b2 fun m0 e0 => ?_
  obtain ⟨b0, x0⟩ := Bk.new e0
  refine ⟨_, (hR.1.ext x0).rc rfl, size, size, rfl, rfl, Nat.le_refl _, by omega, fun m4 e4 m5 e5 => ?_⟩
  rw [rep0, Nat.mul_one] at e4
  obtain ⟨b4, x4⟩ := Bk.new e4
  obtain ⟨b5, x5⟩ := Bk.new e5
  have n0 : m0.nxt = m.nxt + 1 := by rw [e0]; rfl
  have n4 : m4.nxt = m.nxt + 2 := by rw [e4]; show m0.nxt + 1 = _; omega
  have n5 : m5.nxt = m.nxt + 3 := by rw [e5]; show m4.nxt + 1 = _; omega
  refine ⟨_, b5.st _, fun m7 e7 => ?_⟩
  have k6 := b5.set [C.sl m0.nxt 0 size 0 (some size)]
  have x6 : Ext m (m5.set m4.nxt (.cells 1 [C.sl m0.nxt 0 size 0 (some size)] false)) := ((x0.trans x4).trans x5).setR (by omega) _
  have k0 : Bk (m5.set m4.nxt (.cells 1 [C.sl m0.nxt 0 size 0 (some size)] false)) m.nxt 1 [.fn (.yield l) [] []] := ((b0.ext x4).ext x5).setNe (by omega) _
  have k4 : Bk (m5.set m4.nxt (.cells 1 [C.sl m0.nxt 0 size 0 (some size)] false)) m0.nxt size (ints (List.replicate size 0)) := (b4.ext x5).setNe (by omega) _
  have n6 : (m5.set m4.nxt (.cells 1 [C.sl m0.nxt 0 size 0 (some size)] false)).nxt = m.nxt + 3 := n5
  have e7' : m7 = (m5.set m4.nxt (.cells 1 [C.sl m0.nxt 0 size 0 (some size)] false)).new (.cells 1 [.nilFn] false) := e7
  clear e7
  generalize m5.set m4.nxt (.cells 1 [C.sl m0.nxt 0 size 0 (some size)] false) = m6 at k6 x6 k0 k4 n6 e7' ⊢
  obtain ⟨b7, x7⟩ := Bk.new e7'
  have n7 : m7.nxt = m.nxt + 4 := by rw [e7']; show m6.nxt + 1 = _; omega
  refine ⟨_, b7.st _, _, (b7.set _).rc rfl, ?_⟩
  have k8 := b7.set [flC b m.nxt m4.nxt b2 m6.nxt]
  have x8 : Ext m (m7.set m6.nxt (.cells 1 [flC b m.nxt m4.nxt b2 m6.nxt] false)) := (x6.trans x7).setR (by omega) _
  have j0 := (k0.ext x7).setNe (c := m6.nxt) (by omega) (.cells 1 [flC b m.nxt m4.nxt b2 m6.nxt] false)
  have j4 := (k4.ext x7).setNe (c := m6.nxt) (by omega) (.cells 1 [flC b m.nxt m4.nxt b2 m6.nxt] false)
  have j6 := (k6.ext x7).setNe (c := m6.nxt) (by omega) (.cells 1 [flC b m.nxt m4.nxt b2 m6.nxt] false)
  show callP prog tbl _ (flC b m.nxt m4.nxt b2 m6.nxt) (m7.set m6.nxt (.cells 1 [flC b m.nxt m4.nxt b2 m6.nxt] false)) _
  generalize m7.set m6.nxt (.cells 1 [flC b m.nxt m4.nxt b2 m6.nxt] false) = m8 at k8 x8 j0 j4 j6
  have hI8 : I 0 S m8 := (hcl.li 0).st _ _ _ hI x8.nxt x8.vw (fun b' hb => x8.g b' (hSlt b' hb)) (fun b' hb => x8.g b' (by omega))
  have hSl : Sl n size b b2 l m.nxt m4.nxt m0.nxt m6.nxt S m8 (List.replicate size 0) := ⟨hR.1.ext x8, hR.2.ext x8, j0, j6, j4, k8, fun b' hb' => by
    have h1 := hSlt b' hb'
    have h2 := hSD b' hb'
    exact ⟨fun h => h2 (.inl h), fun h => h2 (.inr h), by omega, by omega, by omega, by omega⟩, by omega⟩
  have hchg : ∀ {m' : M}, Chg (fun b' => S b' ∨ b' = m0.nxt) m8 m' → Chg S m m' := fun {m'} h => ⟨Nat.le_trans x8.nxt h.nxt, fun b' hb hSb => by
    rw [h.g b' (Nat.lt_of_lt_of_le hb x8.nxt) fun h3 => h3.elim hSb fun h4 => by omega]
    exact x8.g b' hb, h.vw.trans x8.vw⟩
  show Wc prog tbl 117 [.c (.int .i64 ((0 : Nat) : Int)), .c (.int .i64 ((0 : Nat) : Int)), .c (.ptr b 0), .c (.ptr m.nxt 0), .c (.ptr m4.nxt 0), .c (.ptr b2 0), .c (.ptr m6.nxt 0)] m8 _
  refine s117 hn hsz (n0 := n0') (n1 := m.nxt) (by omega) (by omega) hcl size 0 (by omega) 0 0 S m8 _ _ hSl (by simp) (fun j L hj => by rw [Nat.zero_add]; exact hj) hI8 (fun S' m' P' ho hch hst' _ _ hI' => ⟨_, rfl, ?_⟩) fun S' m' ho hch hE => ⟨_, rfl, ?_⟩
  · rw [Nat.zero_add] at hI'
    exact hQ _ S' m' (Own.trans (Own.refl S m) ho x8.nxt) (hchg hch) (.inl hI')
  · exact hQ _ S' m' (Own.trans (Own.refl S m) ho x8.nxt) (hchg hch) (.inr hE)
end
end Go.Proofs.Ytgkjfhkjgdiodaa

namespace Go.Proofs.Ytgkjfhkjgdiodaa
open _root_.Go.Proofs.Try
open Go.Abs
set_option maxRecDepth 100000
noncomputable section
/-- without: what it hands out -/
def truthsV (c sm : Int) (L : List Int) (N : List Cnt) (O : List Bool) : List (List V) := (exts c sm L N O L.length []).map fun H => [.agg 9 (ints (pad H))]
theorem without_iter {r c sm : Int} {x y : C} {L : List Int} {N : List Cnt} {mb : Nat} {f : Spot → Option U} {O : List Bool} {b b2 : Nat} (hf : isField r c L = true) (hO : O.length = 6) :
    Iter prog tbl (.fn (.func 120) [] [.c (.ptr b 0), .c (.ptr b2 0)]) (truthsV c sm L N O) (Ds x mb b b2) (Rd r c sm x y L N mb f O b b2) := by
  obtain ⟨hS, hL, hrc⟩ := field_of hf
  refine ⟨fun m m' h hn hv hg => h.to hn hv hg, fun m h b' hb => h.lt hb, fun n0' l I E hcl S m hn0' hI hR hSD Q hQ => ?_⟩
  have hSlt := (hcl.li 0).lt _ _ hI
  show Wc prog tbl 120 [.c (.fn (.yield l) [] []), .c (.ptr b 0), .c (.ptr b2 0)] m Q
  refine w120 _ b b2 fun m0 e0 m1 e1 m2 e2 => ?_
  obtain ⟨b0, x0⟩ := Bk.new e0
  obtain ⟨b1, x1⟩ := Bk.new e1
  obtain ⟨b2', x2⟩ := Bk.new e2
  have n0 : m0.nxt = m.nxt + 1 := by rw [e0]; rfl
  have n1 : m1.nxt = m.nxt + 2 := by rw [e1]; show m0.nxt + 1 = _; omega
  have hst := b2'.st [chC b m.nxt m0.nxt b2 m1.nxt]
  have k3 := b2'.set [chC b m.nxt m0.nxt b2 m1.nxt]
  have x03 : Ext m (m2.set m1.nxt (.cells 1 [chC b m.nxt m0.nxt b2 m1.nxt] false)) := ((x0.trans x1).trans x2).setR (by omega) _
  have k0 : Bk (m2.set m1.nxt (.cells 1 [chC b m.nxt m0.nxt b2 m1.nxt] false)) m.nxt 1 [.fn (.yield l) [] []] := ((b0.ext x1).ext x2).setNe (by omega) _
  have k1 : Bk (m2.set m1.nxt (.cells 1 [chC b m.nxt m0.nxt b2 m1.nxt] false)) m0.nxt 9 (ints (List.replicate 9 0)) := (b1.ext x2).setNe (by omega) _
  refine ⟨_, hst, _, k3.rc rfl, ?_⟩
  generalize m2.set m1.nxt (.cells 1 [chC b m.nxt m0.nxt b2 m1.nxt] false) = m3 at k3 x03 k0 k1
  have hDlt : ∀ b', Ds x mb b b2 b' → b' < m.nxt := fun b' hb => hR.lt hb
  have hI3 : I 0 S m3 := (hcl.li 0).st _ _ _ hI x03.nxt x03.vw (fun b' hb => x03.g b' (hSlt b' hb)) (fun b' hb => x03.g b' (by omega))
  have hSt : St r c sm x y L N mb f O b b2 l m.nxt m0.nxt m1.nxt S m3 (List.replicate 9 0) := ⟨hR.ext x03, k0, k1, k3, fun b' hb => by
    have := hSlt b' hb
    exact ⟨by omega, by omega, by omega, hSD b' hb⟩⟩
  have hHw : Hw L (List.replicate 9 0) := ⟨rfl, fun v hv => by have := (List.mem_replicate.1 hv).2; omega, by rw [List.drop_replicate]⟩
  have hxs : ∀ j H, (exts c sm L N O L.length ((List.replicate 9 (0 : Int)).take 0))[j]? = some H → (truthsV c sm L N O)[0 + j]? = some [.agg 9 (ints (pad H))] := fun j H hj => by
    unfold truthsV
    rw [Nat.zero_add, List.getElem?_map]
    have : (exts c sm L N O L.length [])[j]? = some H := hj
    rw [this]; rfl
  have hlen : (truthsV c sm L N O).length = 0 + (exts c sm L N O L.length ((List.replicate 9 (0 : Int)).take 0)).length := by unfold truthsV; rw [List.length_map, Nat.zero_add]; rfl
  have hchg : ∀ {m' : M}, Chg (fun b' => S b' ∨ b' = m0.nxt) m3 m' → Chg S m m' := fun {m'} h => ⟨Nat.le_trans x03.nxt h.nxt, fun b' hb hSb => by
    rw [h.g b' (Nat.lt_of_lt_of_le hb x03.nxt) fun h3 => h3.elim hSb fun h4 => by omega]
    exact x03.g b' hb, h.vw.trans x03.vw⟩
  show Wc prog tbl 121 [.c (.int .i64 ((0 : Nat) : Int)), .c (.ptr b 0), .c (.ptr m.nxt 0), .c (.ptr m0.nxt 0), .c (.ptr b2 0), .c (.ptr m1.nxt 0)] m3 _
  refine s121 hf hO (fun h => by have := hDlt _ h; omega) (by omega) (by omega) (n0 := n0') (by omega) hcl L.length 0 (by omega) 0 S m3 (List.replicate 9 0) _ hSt hHw hxs hI3 (fun S' m' P' ho hch hst' hw' htk hI' => ⟨_, rfl, ?_⟩) fun S' m' ho hch hE => ⟨_, rfl, ?_⟩
  · exact hQ _ S' m' (Own.trans (Own.refl S m) ho x03.nxt) (hchg hch) (.inl (by rw [hlen]; exact hI'))
  · exact hQ _ S' m' (Own.trans (Own.refl S m) ho x03.nxt) (hchg hch) (.inr hE)
theorem mem_rests {α : Type} (g : Nat → List α) (a : α) : ∀ (e n : Nat), a ∈ rests g e n ↔ ∃ j, n ≤ j ∧ j < n + e ∧ a ∈ g j
  | 0, n => ⟨fun h => (by cases h), fun ⟨j, h1, h2, _⟩ => by omega⟩
  | e + 1, n => by
    show a ∈ g n ++ rests g e (n + 1) ↔ _
    rw [List.mem_append, mem_rests g a e (n + 1)]
    constructor
    · rintro (h | ⟨j, h1, h2, h3⟩)
      · exact ⟨n, Nat.le_refl _, by omega, h⟩
      · exact ⟨j, by omega, by omega, h3⟩
    · rintro ⟨j, h1, h2, h3⟩
      by_cases hj : j = n
      · subst hj; exact .inl h3
      · exact .inr ⟨j, by omega, by omega, h3⟩
theorem pad_take_fits {c sm : Int} {N : List Cnt} {H : List Int} {O : List Bool} {p : Nat} (hc : 1 ≤ c) (h9 : H.length ≤ 9) (hp : p < H.length) : fitsB c sm N (pad (H.take (p + 1))) O p = fitsB c sm N (pad H) O p := by
  have h1 : (pad H).take (p + 1) = H.take (p + 1) := by
    unfold pad
    rw [List.take_append_of_le_length (by omega)]
  rw [← h1, fits_take hc (pad_len h9) (by omega)]
theorem mem_exts {r c sm : Int} {L : List Int} {N : List Cnt} {O : List Bool} (hf : isField r c L = true) (H : List Int) : ∀ (d p : Nat) (pre : List Int), d + p = L.length → pre.length = p →
    (H ∈ exts c sm L N O d pre ↔ H.length = L.length ∧ H.take p = pre ∧ ∀ j : Nat, p ≤ j → j < L.length → (0 ≤ H[j]! ∧ H[j]! ≤ L[j]!) ∧ fitsB c sm N (pad H) O j = true) := by
  obtain ⟨hS, hL, hrc⟩ := field_of hf
  have hsd := sides_of hf
  intro d
  induction d with
  | zero =>
    intro p pre hd hpre
    show H ∈ [pre] ↔ _
    rw [List.mem_singleton]
    constructor
    · rintro rfl
      exact ⟨by omega, List.take_of_length_le (by omega), fun j h1 h2 => by omega⟩
    · rintro ⟨h1, h2, _⟩
      rw [← h2, List.take_of_length_le (by omega)]
  | succ d ih =>
    intro p pre hd hpre
    have hpL : p < L.length := by omega
    have hLp : L[p]! = L[p] := getElem!_pos L p hpL
    have hlp := small_at hS hpL
    show H ∈ rests (fun n => if fitsB c sm N (pad (pre ++ [(n : Int)])) O pre.length then exts c sm L N O d (pre ++ [(n : Int)]) else []) (L[pre.length]!.toNat + 1) 0 ↔ _
    rw [mem_rests, hpre]
    constructor
    · rintro ⟨n, _, h2, h3⟩
      by_cases hb : fitsB c sm N (pad (pre ++ [(n : Int)])) O p = true
      · simp only [hb, if_true] at h3
        obtain ⟨q1, q2, q3⟩ := (ih (p + 1) (pre ++ [(n : Int)]) (by omega) (by simp [hpre])).1 h3
        have hpH : p < H.length := by omega
        have hHp : H[p]! = (n : Int) := by
          have h4 := congrArg (fun l => l[p]?) q2
          simp only [List.getElem?_take, show p < p + 1 by omega, if_true] at h4
          rw [List.getElem?_append_right (by omega), hpre, Nat.sub_self] at h4
          rw [getElem!_pos H p hpH]
          rw [List.getElem?_eq_getElem hpH] at h4
          simpa using h4
        refine ⟨q1, ?_, fun j hj1 hj2 => ?_⟩
        · have h4 := congrArg (List.take p) q2
          rw [List.take_take, Nat.min_eq_left (by omega), List.take_left' hpre] at h4
          exact h4
        · by_cases hjp : j = p
          · subst hjp
            refine ⟨by rw [hHp]; omega, ?_⟩
            rw [← pad_take_fits hsd.c1 (by omega) hpH, q2]; exact hb
          · exact q3 j (by omega) hj2
      · have hb' : fitsB c sm N (pad (pre ++ [(n : Int)])) O p = false := by simpa using hb
        simp [hb'] at h3
    · rintro ⟨q1, q2, q3⟩
      have hpH : p < H.length := by omega
      have h4 := q3 p (Nat.le_refl _) hpL
      have hHp : H[p]! = H[p] := getElem!_pos H p hpH
      obtain ⟨n, hn⟩ : ∃ n : Nat, H[p]! = (n : Int) := ⟨(H[p]!).toNat, by omega⟩
      have htk : H.take (p + 1) = pre ++ [(n : Int)] := by
        rw [List.take_add_one, q2, List.getElem?_eq_getElem hpH, ← hHp, hn]; rfl
      refine ⟨n, by omega, by omega, ?_⟩
      have hb : fitsB c sm N (pad (pre ++ [(n : Int)])) O p = true := by rw [← htk, pad_take_fits hsd.c1 (by omega) hpH]; exact h4.2
      simp only [hb, if_true]
      exact (ih (p + 1) (pre ++ [(n : Int)]) (by omega) (by simp [hpre])).2 ⟨q1, htk, fun j hj1 hj2 => q3 j (by omega) hj2⟩
/-- the program's truths are the truths -/
theorem mem_truths {r c sm : Int} {L H : List Int} {N : List Cnt} (hO : Okay r c L N) (hsm : 0 ≤ sm) : H ∈ exts c sm L N false6 L.length [] ↔ truthR c sm L N H = true := by
  rw [mem_exts hO.f H L.length 0 [] (by omega) rfl]
  constructor
  · rintro ⟨q1, _, q3⟩
    have hl : listed L H = true := decide_eq_true ⟨q1, fun i hi => (q3 i (by omega) hi).1⟩
    rw [← truth_eq hO hsm hl]
    exact decide_eq_true fun i hi => (q3 i (by omega) hi).2
  · intro h
    have hT : TruthR c sm L N H := by
      by_cases hT : TruthR c sm L N H
      · exact hT
      · rw [truthR_false hT] at h; cases h
    have hl := hT.1
    have h2 : truthB c sm L N (pad H) = true := by rw [truth_eq hO hsm hl]; exact h
    have h3 := of_decide_eq_true h2
    exact ⟨listed_len hl, rfl, fun j _ hj => ⟨(of_decide_eq_true hl).2 j hj, h3 j hj⟩⟩
end
end Go.Proofs.Ytgkjfhkjgdiodaa

namespace Go.Proofs.Ytgkjfhkjgdiodaa
open _root_.Go.Proofs.Try
open Go.Abs
set_option maxRecDepth 100000
noncomputable section
theorem w42 {a100 : Int} {a101 : Int} {a102 : C} {a103 : Int} {a104 : C} {a200 : Int} {m : M} {Q : V → M → Prop} (h :
 (∀ m0 : M, ((m0 = (M.new m (AO.cells 5 [(C.int .i64 a100), (C.int .i64 a101), a102, (C.int .i64 a103), 
 a104] false))) → (∀ m1 : M, ((m1 = (M.new m0 (AO.cells 1 [(C.int .i64 a200)] false))) → (∀ m2 : M, 
 ((m2 = (M.new m1 (AO.cells 2 [(C.int .i64 (0 : Int)), (C.int .i64 (0 : Int))] false))) → 
 (∃ x3 : Int, (∃ x4 : Int, (∃ c5 : C, (∃ x6 : Int, (∃ c7 : C, (((ldA m2 (C.ptr m.nxt 0) 5) = (some [(C.int .i64 x3), 
 (C.int .i64 x4), c5, (C.int .i64 x6), c7])) ∧ (∃ x8 : Int, (((ldC m2 (C.ptr m0.nxt 0)) = (some (C.int .i64 x8))) ∧ 
 (isPt (C.ptr m.nxt 0) ∧ (∃ x9 : Int, (∃ x10 : Int, (∃ c11 : C, (((ldA m2 (C.ptr m.nxt 0) 3) = (some [(C.int .i64 x9), 
 (C.int .i64 x10), c11])) ∧ (optB (mapO vW [(V.agg 3 [(C.int .i64 x9), (C.int .i64 x10), 
 c11])]) False fun l12 => (Wc prog tbl 83 [(V.agg 5 [(C.int .i64 x3), (C.int .i64 x4), 
 c5, (C.int .i64 x6), c7]), (V.c (C.int .i64 x8)), (V.c (C.fn (Fn.func 84) l12 []))] m2 (fun v13 m14 => 
 (∃ x15 : Int, (∃ x16 : Int, (∃ c17 : C, (∃ x18 : Int, (∃ c19 : C, (∃ c20 : C, (∃ x21 : Int, 
 ((v13 = (V.tup [(U.agg 6 [(C.int .i64 x15), (C.int .i64 x16), c17, 
 (C.int .i64 x18), c19, c20]), (U.c (C.int .i64 x21))])) ∧ (∀ m22 : M, 
 ((m22 = (M.new m14 (AO.cells 6 [(C.int .i64 (0 : Int)), (C.int .i64 (0 : Int)), 
 C.sl0, (C.int .i64 (0 : Int)), C.sl0, C.map0] false))) → (∃ m23 : M, (((stC m22 (C.ptr m14.nxt 0) 6 [(C.int .i64 x15), 
 (C.int .i64 x16), c17, (C.int .i64 x18), c19, c20]) = (some m23)) ∧ 
 (ifB (!decide (x21 = (0 : Int))) (∃ m24 : M, (((stC m23 (C.ptr m1.nxt 0) 2 [(C.int .i64 (0 : Int)), 
 (C.int .i64 (0 : Int))]) = (some m24)) ∧ (∃ x25 : Int, (∃ x26 : Int, 
 (((ldA m24 (C.ptr m1.nxt 0) 2) = (some [(C.int .i64 x25), (C.int .i64 x26)])) ∧ 
 (Q (V.tup [(U.agg 2 [(C.int .i64 x25), (C.int .i64 x26)]), (U.c (C.int .i64 x21))]) m24)))))) (∃ x27 : Int, 
 (∃ x28 : Int, (∃ c29 : C, (∃ x30 : Int, (∃ c31 : C, (∃ c32 : C, (((ldA m23 (C.ptr m14.nxt 0) 6) = (some [(C.int .i64 x27), 
 (C.int .i64 x28), c29, (C.int .i64 x30), c31, c32])) ∧ (Wc prog tbl 82 [(V.agg 6 [(C.int .i64 x27), 
 (C.int .i64 x28), c29, (C.int .i64 x30), c31, c32]), (V.agg 1 [(C.fn (Fn.func 85) [] [(W.c (C0.ptr m0.nxt 0))])])] m23 (fun v33 m34 => 
 (∃ x35 : Int, (∃ x36 : Int, ((v33 = (V.agg 2 [(C.int .i64 x35), (C.int .i64 x36)])) ∧ 
 (∃ m37 : M, (((stC m34 (C.ptr m1.nxt 0) 2 [(C.int .i64 x35), (C.int .i64 x36)]) = (some m37)) ∧ 
 (∃ x38 : Int, (∃ x39 : Int, (((ldA m37 (C.ptr m1.nxt 0) 2) = (some [(C.int .i64 x38), 
 (C.int .i64 x39)])) ∧ (Q (V.tup [(U.agg 2 [(C.int .i64 x38), (C.int .i64 x39)]), 
 (U.c (C.int .i64 (0 : Int)))]) m37)))))))))))))))))))))))))))))))))))))))))))))))))))))) : Wc prog tbl 42 [(V.agg 5 [(C.int .i64 a100), (C.int .i64 a101), a102, (C.int .i64 a103), a104]), (V.c (C.int .i64 a200))] m Q :=
 wc_eq (n := 2) rfl (by kernel_rfl) (by kernel_rfl) h
theorem w58 {a100 : Int} {a101 : Int} {a102 : C} {a103 : Int} {a104 : C} {m : M} {Q : V → M → Prop} (h :
 (∀ m0 : M, ((m0 = (M.new m (AO.cells 5 [(C.int .i64 a100), (C.int .i64 a101), a102, (C.int .i64 a103), 
 a104] false))) → (∃ x1 : Int, (∃ x2 : Int, (∃ c3 : C, (∃ x4 : Int, (∃ c5 : C, (((ldA m0 (C.ptr m.nxt 0) 5) = (some [(C.int .i64 x1), 
 (C.int .i64 x2), c3, (C.int .i64 x4), c5])) ∧ (Wc prog tbl 19 [(V.agg 5 [(C.int .i64 x1), 
 (C.int .i64 x2), c3, (C.int .i64 x4), c5])] m0 (fun v6 m7 => (∃ b8 : Bool, ((v6 = (V.c (C.bool b8))) ∧ 
 (ifB b8 (∃ x9 : Int, (∃ x10 : Int, (∃ c11 : C, (∃ x12 : Int, (∃ c13 : C, (((ldA m7 (C.ptr m.nxt 0) 5) = (some [(C.int .i64 x9), 
 (C.int .i64 x10), c11, (C.int .i64 x12), c13])) ∧ (Wc prog tbl 36 [(V.agg 5 [(C.int .i64 x9), 
 (C.int .i64 x10), c11, (C.int .i64 x12), c13])] m7 (fun v14 m15 => (∃ x16 : Int, 
 ((v14 = (V.c (C.int .i64 x16))) ∧ (Q (V.c (C.bool (decide (x16 = (0 : Int))))) m15))))))))))) (Q (V.c (C.bool false)) m7))))))))))))))) : Wc prog tbl 58 [(V.agg 5 [(C.int .i64 a100), (C.int .i64 a101), a102, (C.int .i64 a103), a104])] m Q :=
 wc_eq (n := 1) rfl (by kernel_rfl) (by kernel_rfl) h
theorem w62 {a100 : Int} {a101 : Int} {a102 : C} {a103 : Int} {a104 : C} {m : M} {Q : V → M → Prop} (h :
 (∀ m0 : M, ((m0 = (M.new m (AO.cells 5 [(C.int .i64 a100), (C.int .i64 a101), a102, (C.int .i64 a103), 
 a104] false))) → (∃ x1 : Int, (∃ x2 : Int, (∃ c3 : C, (∃ x4 : Int, (∃ c5 : C, (((ldA m0 (C.ptr m.nxt 0) 5) = (some [(C.int .i64 x1), 
 (C.int .i64 x2), c3, (C.int .i64 x4), c5])) ∧ (Wc prog tbl 58 [(V.agg 5 [(C.int .i64 x1), 
 (C.int .i64 x2), c3, (C.int .i64 x4), c5])] m0 (fun v6 m7 => (∃ b8 : Bool, ((v6 = (V.c (C.bool b8))) ∧ 
 (ifB b8 (∃ x9 : Int, (∃ x10 : Int, (∃ c11 : C, (∃ x12 : Int, (∃ c13 : C, (((ldA m7 (C.ptr m.nxt 0) 5) = (some [(C.int .i64 x9), 
 (C.int .i64 x10), c11, (C.int .i64 x12), c13])) ∧ (Wc prog tbl 68 [(V.agg 5 [(C.int .i64 x9), 
 (C.int .i64 x10), c11, (C.int .i64 x12), c13]), (V.c (C.int .i64 (0 : Int)))] m7 (fun v14 m15 => 
 (∃ b16 : Bool, ((v14 = (V.c (C.bool b16))) ∧ (Q (V.c (C.bool b16)) m15))))))))))) (Q (V.c (C.bool false)) m7))))))))))))))) : Wc prog tbl 62 [(V.agg 5 [(C.int .i64 a100), (C.int .i64 a101), a102, (C.int .i64 a103), a104])] m Q :=
 wc_eq (n := 1) rfl (by kernel_rfl) (by kernel_rfl) h
theorem w67 {a100 : Int} {a101 : Int} {a102 : C} {a200 : Int} {m : M} {Q : V → M → Prop} (h :
 (∀ m0 : M, ((m0 = (M.new m (AO.cells 3 [(C.int .i64 a100), (C.int .i64 a101), a102] false))) → (∀ R1 : List V → 
 M → Prop, ((∀ c2 : C, (∀ x3 : Int, (∀ x4 : Int, (∀ m5 : M, ((isPt (C.ptr m.nxt 0) ∧ (∃ c6 : C, (((ldC m5 (C.ptr m.nxt 2)) = (some c6)) ∧ 
 (isSl c6 ∧ (ifB (decide (x4 < (((slLen c6) : Nat) : Int))) (isPt (C.ptr m.nxt 0) ∧ (∃ c7 : C, 
 (((ldC m5 (C.ptr m.nxt 2)) = (some c7)) ∧ (∃ n8 : Nat, ((x4 = ((n8 : Nat) : Int)) ∧ 
 ((n8 < (slLen c7)) ∧ (∃ x9 : Int, (((ldC m5 (slAt c7 (n8 * 1))) = (some (C.int .i64 x9))) ∧ 
 (fitsP .i64 (x9 + (1 : Int)) ∧ (((0 : Int) ≤ x3) ∧ (((0 : Int) < (x9 + (1 : Int))) ∧ 
 (fitsP .i64 (x3 % (x9 + (1 : Int))) ∧ (∀ m10 : M, ((m10 = (M.new m5 (AO.cells 1 [(C.int .i64 (x3 % (x9 + (1 : Int))))] false))) → 
 (∃ c11 : C, (∃ m12 : M, ((ApR prog 22 m10 c2 (C.sl m5.nxt 0 1 0 (some 1)) c11 m12) ∧ 
 (isPt (C.ptr m.nxt 0) ∧ (∃ c13 : C, (((ldC m12 (C.ptr m.nxt 2)) = (some c13)) ∧ 
 (∃ n14 : Nat, ((x4 = ((n14 : Nat) : Int)) ∧ ((n14 < (slLen c13)) ∧ (∃ x15 : Int, 
 (((ldC m12 (slAt c13 (n14 * 1))) = (some (C.int .i64 x15))) ∧ (fitsP .i64 (x15 + (1 : Int)) ∧ 
 (((0 : Int) ≤ x3) ∧ (((0 : Int) < (x15 + (1 : Int))) ∧ (fitsP .i64 (x3 / (x15 + (1 : Int))) ∧ 
 (fitsP .i64 (x4 + (1 : Int)) ∧ (R1 [(V.c c11), (V.c (C.int .i64 (x3 / (x15 + (1 : Int))))), 
 (V.c (C.int .i64 (x4 + (1 : Int))))] m12))))))))))))))))))))))))))))))) (Q (V.c c2) m5)))))) → 
 (R1 [(V.c c2), (V.c (C.int .i64 x3)), (V.c (C.int .i64 x4))] m5)))))) → (R1 [(V.c C.sl0), 
 (V.c (C.int .i64 a200)), (V.c (C.int .i64 (0 : Int)))] m0)))))) : Wc prog tbl 67 [(V.agg 3 [(C.int .i64 a100), (C.int .i64 a101), a102]), (V.c (C.int .i64 a200))] m Q :=
 wc_eq (n := 2) rfl (by kernel_rfl) (by kernel_rfl) h
theorem w81 {a100 : Int} {a101 : Int} {a102 : C} {a103 : Int} {a104 : C} {m : M} {Q : V → M → Prop} (h :
 (∀ m0 : M, ((m0 = (M.new m (AO.cells 5 [(C.int .i64 a100), (C.int .i64 a101), a102, (C.int .i64 a103), 
 a104] false))) → (∀ m1 : M, ((m1 = (M.new m0 (AO.cells 6 [(C.int .i64 (0 : Int)), (C.int .i64 (0 : Int)), 
 C.sl0, (C.int .i64 (0 : Int)), C.sl0, C.map0] false))) → (∃ x2 : Int, (∃ x3 : Int, (∃ c4 : C, 
 (∃ x5 : Int, (∃ c6 : C, (((ldA m1 (C.ptr m.nxt 0) 5) = (some [(C.int .i64 x2), (C.int .i64 x3), 
 c4, (C.int .i64 x5), c6])) ∧ (Wc prog tbl 37 [(V.agg 5 [(C.int .i64 x2), (C.int .i64 x3), 
 c4, (C.int .i64 x5), c6])] m1 (fun v7 m8 => (∃ x9 : Int, ((v7 = (V.c (C.int .i64 x9))) ∧ 
 (ifB (!decide (x9 = (0 : Int))) (∃ m10 : M, (((stC m8 (C.ptr m0.nxt 0) 6 [(C.int .i64 (0 : Int)), 
 (C.int .i64 (0 : Int)), C.sl0, (C.int .i64 (0 : Int)), C.sl0, C.map0]) = (some m10)) ∧ 
 (∃ x11 : Int, (∃ x12 : Int, (∃ c13 : C, (∃ x14 : Int, (∃ c15 : C, (∃ c16 : C, (((ldA m10 (C.ptr m0.nxt 0) 6) = (some [(C.int .i64 x11), 
 (C.int .i64 x12), c13, (C.int .i64 x14), c15, c16])) ∧ (Q (V.tup [(U.agg 6 [(C.int .i64 x11), 
 (C.int .i64 x12), c13, (C.int .i64 x14), c15, c16]), (U.c (C.int .i64 x9))]) m10)))))))))) (∃ x17 : Int, 
 (∃ x18 : Int, (∃ c19 : C, (∃ x20 : Int, (∃ c21 : C, (((ldA m8 (C.ptr m.nxt 0) 5) = (some [(C.int .i64 x17), 
 (C.int .i64 x18), c19, (C.int .i64 x20), c21])) ∧ (Wc prog tbl 76 [(V.agg 5 [(C.int .i64 x17), 
 (C.int .i64 x18), c19, (C.int .i64 x20), c21])] m8 (fun v22 m23 => (∃ x24 : Int, 
 (∃ x25 : Int, (∃ c26 : C, (∃ x27 : Int, (∃ c28 : C, (∃ c29 : C, ((v22 = (V.agg 6 [(C.int .i64 x24), 
 (C.int .i64 x25), c26, (C.int .i64 x27), c28, c29])) ∧ (∀ m30 : M, 
 ((m30 = (M.new m23 (AO.cells 6 [(C.int .i64 (0 : Int)), (C.int .i64 (0 : Int)), 
 C.sl0, (C.int .i64 (0 : Int)), C.sl0, C.map0] false))) → (∃ m31 : M, (((stC m30 (C.ptr m23.nxt 0) 6 [(C.int .i64 x24), 
 (C.int .i64 x25), c26, (C.int .i64 x27), c28, c29]) = (some m31)) ∧ 
 (∃ x32 : Int, (∃ x33 : Int, (∃ c34 : C, (∃ x35 : Int, (∃ c36 : C, (∃ c37 : C, 
 (((ldA m31 (C.ptr m23.nxt 0) 6) = (some [(C.int .i64 x32), (C.int .i64 x33), 
 c34, (C.int .i64 x35), c36, c37])) ∧ (Wc prog tbl 91 [(V.agg 6 [(C.int .i64 x32), 
 (C.int .i64 x33), c34, (C.int .i64 x35), c36, c37]), (V.c C.sl0)] m31 (fun v38 m39 => 
 (∃ b40 : Bool, ((v38 = (V.c (C.bool b40))) ∧ (ifB (!b40) (∃ m41 : M, (((stC m39 (C.ptr m0.nxt 0) 6 [(C.int .i64 (0 : Int)), 
 (C.int .i64 (0 : Int)), C.sl0, (C.int .i64 (0 : Int)), C.sl0, C.map0]) = (some m41)) ∧ 
 (∃ x42 : Int, (∃ x43 : Int, (∃ c44 : C, (∃ x45 : Int, (∃ c46 : C, (∃ c47 : C, 
 (((ldA m41 (C.ptr m0.nxt 0) 6) = (some [(C.int .i64 x42), (C.int .i64 x43), 
 c44, (C.int .i64 x45), c46, c47])) ∧ (Q (V.tup [(U.agg 6 [(C.int .i64 x42), 
 (C.int .i64 x43), c44, (C.int .i64 x45), c46, c47]), (U.c (C.int .i64 (9 : Int)))]) m41)))))))))) (∃ x48 : Int, 
 (∃ x49 : Int, (∃ c50 : C, (∃ x51 : Int, (∃ c52 : C, (∃ c53 : C, (((ldA m39 (C.ptr m23.nxt 0) 6) = (some [(C.int .i64 x48), 
 (C.int .i64 x49), c50, (C.int .i64 x51), c52, c53])) ∧ (∃ m54 : M, 
 (((stC m39 (C.ptr m0.nxt 0) 6 [(C.int .i64 x48), (C.int .i64 x49), 
 c50, (C.int .i64 x51), c52, c53]) = (some m54)) ∧ (∃ x55 : Int, 
 (∃ x56 : Int, (∃ c57 : C, (∃ x58 : Int, (∃ c59 : C, (∃ c60 : C, (((ldA m54 (C.ptr m0.nxt 0) 6) = (some [(C.int .i64 x55), 
 (C.int .i64 x56), c57, (C.int .i64 x58), c59, c60])) ∧ (Q (V.tup [(U.agg 6 [(C.int .i64 x55), 
 (C.int .i64 x56), c57, (C.int .i64 x58), c59, c60]), (U.c (C.int .i64 (0 : Int)))]) m54)))))))))))))))))))))))))))))))))))))))))))))))))))))))))))))))) : Wc prog tbl 81 [(V.agg 5 [(C.int .i64 a100), (C.int .i64 a101), a102, (C.int .i64 a103), a104])] m Q :=
 wc_eq (n := 1) rfl (by kernel_rfl) (by kernel_rfl) h
theorem w83 {a100 : Int} {a101 : Int} {a102 : C} {a103 : Int} {a104 : C} {a200 : Int} {a300 : C} {m : M} {Q : V → M → Prop} (h :
 (∀ m0 : M, ((m0 = (M.new m (AO.cells 5 [(C.int .i64 a100), (C.int .i64 a101), a102, (C.int .i64 a103), 
 a104] false))) → (∀ m1 : M, ((m1 = (M.new m0 (AO.cells 6 [(C.int .i64 (0 : Int)), (C.int .i64 (0 : Int)), 
 C.sl0, (C.int .i64 (0 : Int)), C.sl0, C.map0] false))) → (∃ x2 : Int, (∃ x3 : Int, (∃ c4 : C, 
 (∃ x5 : Int, (∃ c6 : C, (((ldA m1 (C.ptr m.nxt 0) 5) = (some [(C.int .i64 x2), (C.int .i64 x3), 
 c4, (C.int .i64 x5), c6])) ∧ (Wc prog tbl 37 [(V.agg 5 [(C.int .i64 x2), (C.int .i64 x3), 
 c4, (C.int .i64 x5), c6])] m1 (fun v7 m8 => (∃ x9 : Int, ((v7 = (V.c (C.int .i64 x9))) ∧ 
 (ifB (!decide (x9 = (0 : Int))) (∃ m10 : M, (((stC m8 (C.ptr m0.nxt 0) 6 [(C.int .i64 (0 : Int)), 
 (C.int .i64 (0 : Int)), C.sl0, (C.int .i64 (0 : Int)), C.sl0, C.map0]) = (some m10)) ∧ 
 (∃ x11 : Int, (∃ x12 : Int, (∃ c13 : C, (∃ x14 : Int, (∃ c15 : C, (∃ c16 : C, (((ldA m10 (C.ptr m0.nxt 0) 6) = (some [(C.int .i64 x11), 
 (C.int .i64 x12), c13, (C.int .i64 x14), c15, c16])) ∧ (Q (V.tup [(U.agg 6 [(C.int .i64 x11), 
 (C.int .i64 x12), c13, (C.int .i64 x14), c15, c16]), (U.c (C.int .i64 x9))]) m10)))))))))) (callP prog tbl [(V.c (C.int .i64 a200))] a300 m8 (fun v17 m18 => 
 (∃ b19 : Bool, ((v17 = (V.c (C.bool b19))) ∧ (ifB (!b19) (∃ m20 : M, (((stC m18 (C.ptr m0.nxt 0) 6 [(C.int .i64 (0 : Int)), 
 (C.int .i64 (0 : Int)), C.sl0, (C.int .i64 (0 : Int)), C.sl0, C.map0]) = (some m20)) ∧ 
 (∃ x21 : Int, (∃ x22 : Int, (∃ c23 : C, (∃ x24 : Int, (∃ c25 : C, (∃ c26 : C, (((ldA m20 (C.ptr m0.nxt 0) 6) = (some [(C.int .i64 x21), 
 (C.int .i64 x22), c23, (C.int .i64 x24), c25, c26])) ∧ (Q (V.tup [(U.agg 6 [(C.int .i64 x21), 
 (C.int .i64 x22), c23, (C.int .i64 x24), c25, c26]), (U.c (C.int .i64 (2 : Int)))]) m20)))))))))) (∃ x27 : Int, 
 (∃ x28 : Int, (∃ c29 : C, (∃ x30 : Int, (∃ c31 : C, (((ldA m18 (C.ptr m.nxt 0) 5) = (some [(C.int .i64 x27), 
 (C.int .i64 x28), c29, (C.int .i64 x30), c31])) ∧ (Wc prog tbl 81 [(V.agg 5 [(C.int .i64 x27), 
 (C.int .i64 x28), c29, (C.int .i64 x30), c31])] m18 (fun v32 m33 => 
 (∃ x34 : Int, (∃ x35 : Int, (∃ c36 : C, (∃ x37 : Int, (∃ c38 : C, (∃ c39 : C, (∃ x40 : Int, 
 ((v32 = (V.tup [(U.agg 6 [(C.int .i64 x34), (C.int .i64 x35), c36, 
 (C.int .i64 x37), c38, c39]), (U.c (C.int .i64 x40))])) ∧ (∃ m41 : M, 
 (((stC m33 (C.ptr m0.nxt 0) 6 [(C.int .i64 x34), (C.int .i64 x35), 
 c36, (C.int .i64 x37), c38, c39]) = (some m41)) ∧ (∃ x42 : Int, 
 (∃ x43 : Int, (∃ c44 : C, (∃ x45 : Int, (∃ c46 : C, (∃ c47 : C, (((ldA m41 (C.ptr m0.nxt 0) 6) = (some [(C.int .i64 x42), 
 (C.int .i64 x43), c44, (C.int .i64 x45), c46, c47])) ∧ (Q (V.tup [(U.agg 6 [(C.int .i64 x42), 
 (C.int .i64 x43), c44, (C.int .i64 x45), c46, c47]), (U.c (C.int .i64 x40))]) m41))))))))))))))))))))))))))))))))))))))))))))))) : Wc prog tbl 83 [(V.agg 5 [(C.int .i64 a100), (C.int .i64 a101), a102, (C.int .i64 a103), a104]), (V.c (C.int .i64 a200)), (V.c a300)] m Q :=
 wc_eq (n := 3) rfl (by kernel_rfl) (by kernel_rfl) h
theorem w86 {a100 : Int} {m : M} {Q : V → M → Prop} (h :
 (Wc prog tbl 92 [(V.agg 2 [(C.int .i64 (0 : Int)), (C.int .i64 (100 : Int))]), (V.c (C.int .i64 a100))] m (fun v0 m1 => 
 (∃ b2 : Bool, ((v0 = (V.c (C.bool b2))) ∧ (Q (V.c (C.bool b2)) m1)))))) : Wc prog tbl 86 [(V.c (C.int .i64 a100))] m Q :=
 wc_eq (n := 1) rfl (by kernel_rfl) (by kernel_rfl) h
theorem w100 {a100 : Int} {a101 : Int} {a102 : C} {a103 : Int} {a104 : C} {a105 : C} {m : M} {Q : V → M → Prop} (h :
 (∀ m0 : M, ((m0 = (M.new m (AO.cells 6 [(C.int .i64 a100), (C.int .i64 a101), a102, (C.int .i64 a103), 
 a104, a105] false))) → (∃ x1 : Int, (∃ x2 : Int, (∃ c3 : C, (∃ x4 : Int, (∃ c5 : C, (∃ c6 : C, (((ldA m0 (C.ptr m.nxt 0) 6) = (some [(C.int .i64 x1), 
 (C.int .i64 x2), c3, (C.int .i64 x4), c5, c6])) ∧ (Wc prog tbl 108 [(V.agg 6 [(C.int .i64 x1), 
 (C.int .i64 x2), c3, (C.int .i64 x4), c5, c6]), (V.agg 6 [(C.bool false), (C.bool false), 
 (C.bool false), (C.bool false), (C.bool false), (C.bool false)])] m0 (fun v7 m8 => (∃ c9 : C, 
 ((v7 = (V.c c9)) ∧ (Q (V.c c9) m8))))))))))))))) : Wc prog tbl 100 [(V.agg 6 [(C.int .i64 a100), (C.int .i64 a101), a102, (C.int .i64 a103), a104, a105])] m Q :=
 wc_eq (n := 1) rfl (by kernel_rfl) (by kernel_rfl) h
theorem w102 {a100 : C} {m : M} {Q : V → M → Prop} (h :
 (isSl a100 ∧ (ifB (decide ((((slLen a100) : Nat) : Int) < (1 : Int))) False (∃ n0 : Nat, (((0 : Int) = ((n0 : Nat) : Int)) ∧ 
 ((n0 < (slLen a100)) ∧ (∃ x1 : Int, (((ldC m (slAt a100 (n0 * 1))) = (some (C.int .i64 x1))) ∧ 
 (∀ R2 : List V → M → Prop, ((∀ x3 : Int, (∀ x4 : Int, (∀ m5 : M, ((isSl a100 ∧ (ifB (decide (x4 < (((slLen a100) : Nat) : Int))) (∃ n6 : Nat, 
 ((x4 = ((n6 : Nat) : Int)) ∧ ((n6 < (slLen a100)) ∧ (∃ x7 : Int, (((ldC m5 (slAt a100 (n6 * 1))) = (some (C.int .i64 x7))) ∧ 
 (fitsP .i64 (x4 + (1 : Int)) ∧ (R2 [(V.c (C.int .i64 (Max.max x3 x7))), (V.c (C.int .i64 (x4 + (1 : Int))))] m5))))))) (Q (V.c (C.int .i64 x3)) m5))) → 
 (R2 [(V.c (C.int .i64 x3)), (V.c (C.int .i64 x4))] m5))))) → (R2 [(V.c (C.int .i64 x1)), 
 (V.c (C.int .i64 (1 : Int)))] m))))))))))) : Wc prog tbl 102 [(V.c a100)] m Q :=
 wc_eq (n := 1) rfl (by kernel_rfl) (by kernel_rfl) h
end
end Go.Proofs.Ytgkjfhkjgdiodaa

namespace Go.Proofs.Ytgkjfhkjgdiodaa
open _root_.Go.Proofs.Try
open Go.Abs
set_option maxRecDepth 100000
noncomputable section
theorem w68 {a100 : Int} {a101 : Int} {a102 : C} {a103 : Int} {a104 : C} {a200 : Int} {m : M} {Q : V → M → Prop} (h :
 (∀ m0 : M, ((m0 = (M.new m (AO.cells 5 [(C.int .i64 a100), (C.int .i64 a101), a102, (C.int .i64 a103), 
 a104] false))) → (∀ R1 : List V → M → Prop, ((∀ b2 : Bool, (∀ x3 : Int, (∀ m4 : M, ((isPt (C.ptr m.nxt 0) ∧ 
 (∃ x5 : Int, (∃ x6 : Int, (∃ c7 : C, (((ldA m4 (C.ptr m.nxt 0) 3) = (some [(C.int .i64 x5), 
 (C.int .i64 x6), c7])) ∧ (Wc prog tbl 60 [(V.agg 3 [(C.int .i64 x5), (C.int .i64 x6), 
 c7])] m4 (fun v8 m9 => (∃ x10 : Int, ((v8 = (V.c (C.int .i64 x10))) ∧ (ifB (decide (x3 < x10)) (∃ x11 : Int, 
 (∃ x12 : Int, (∃ c13 : C, (∃ x14 : Int, (∃ c15 : C, (((ldA m9 (C.ptr m.nxt 0) 5) = (some [(C.int .i64 x11), 
 (C.int .i64 x12), c13, (C.int .i64 x14), c15])) ∧ (isPt (C.ptr m.nxt 0) ∧ 
 (∃ x16 : Int, (∃ x17 : Int, (∃ c18 : C, (((ldA m9 (C.ptr m.nxt 0) 3) = (some [(C.int .i64 x16), 
 (C.int .i64 x17), c18])) ∧ (Wc prog tbl 67 [(V.agg 3 [(C.int .i64 x16), 
 (C.int .i64 x17), c18]), (V.c (C.int .i64 x3))] m9 (fun v19 m20 => 
 (∃ c21 : C, ((v19 = (V.c c21)) ∧ ((ifB (allS noFnC [(C.int .i64 x11), 
 (C.int .i64 x12), c13, (C.int .i64 x14), c15]) ((ldA m20 (C.ptr m.nxt 0) 5) = (some [(C.int .i64 x11), 
 (C.int .i64 x12), c13, (C.int .i64 x14), c15])) False) ∧ (Wc prog tbl 38 [(V.agg 5 [(C.int .i64 x11), 
 (C.int .i64 x12), c13, (C.int .i64 x14), c15]), (V.c c21), (V.c (C.int .i64 a200))] m20 (fun v22 m23 => 
 (∃ b24 : Bool, ((v22 = (V.c (C.bool b24))) ∧ (ifB b24 (Q (V.c (C.bool true)) m23) (fitsP .i64 (x3 + (1 : Int)) ∧ 
 (R1 [(V.c (C.bool b2)), (V.c (C.int .i64 (x3 + (1 : Int))))] m23))))))))))))))))))))))) (Q (V.c (C.bool false)) m9))))))))))) → 
 (R1 [(V.c (C.bool b2)), (V.c (C.int .i64 x3))] m4))))) → (R1 [(V.c (C.bool false)), (V.c (C.int .i64 (0 : Int)))] m0)))))) : Wc prog tbl 68 [(V.agg 5 [(C.int .i64 a100), (C.int .i64 a101), a102, (C.int .i64 a103), a104]), (V.c (C.int .i64 a200))] m Q :=
 wc_eq (n := 2) rfl (by kernel_rfl) (by kernel_rfl) h
theorem w82 {a100 : Int} {a101 : Int} {a102 : C} {a103 : Int} {a104 : C} {a105 : C} {a200 : C} {m : M} {Q : V → M → Prop} (h :
 (∀ m0 : M, ((m0 = (M.new m (AO.cells 6 [(C.int .i64 a100), (C.int .i64 a101), a102, (C.int .i64 a103), 
 a104, a105] false))) → (∀ m1 : M, ((m1 = (M.new m0 (AO.cells 1 [a200] false))) → (∀ m2 : M, ((m2 = (M.new m1 (AO.cells 2 [(C.int .i64 (0 : Int)), 
 (C.int .i64 (0 : Int))] false))) → (∀ m3 : M, ((m3 = (M.new m2 (AO.cells 1 [C.sl0] false))) → 
 (∃ x4 : Int, (∃ x5 : Int, (∃ c6 : C, (∃ x7 : Int, (∃ c8 : C, (∃ c9 : C, (((ldA m3 (C.ptr m.nxt 0) 6) = (some [(C.int .i64 x4), 
 (C.int .i64 x5), c6, (C.int .i64 x7), c8, c9])) ∧ (Wc prog tbl 100 [(V.agg 6 [(C.int .i64 x4), 
 (C.int .i64 x5), c6, (C.int .i64 x7), c8, c9])] m3 (fun v10 m11 => (∃ c12 : C, 
 ((v10 = (V.c c12)) ∧ (rangeP prog tbl c12 m11 (fun l13 m14 R15 R16 => (∃ x17 : Int, (∃ x18 : Int, 
 (∃ x19 : Int, (∃ x20 : Int, (∃ x21 : Int, (∃ x22 : Int, (∃ x23 : Int, (∃ x24 : Int, 
 (∃ x25 : Int, ((l13 = [(V.agg 9 [(C.int .i64 x17), (C.int .i64 x18), 
 (C.int .i64 x19), (C.int .i64 x20), (C.int .i64 x21), (C.int .i64 x22), 
 (C.int .i64 x23), (C.int .i64 x24), (C.int .i64 x25)])]) ∧ 
 (∀ m26 : M, ((m26 = (M.new m14 (AO.cells 9 [(C.int .i64 (0 : Int)), (C.int .i64 (0 : Int)), 
 (C.int .i64 (0 : Int)), (C.int .i64 (0 : Int)), (C.int .i64 (0 : Int)), 
 (C.int .i64 (0 : Int)), (C.int .i64 (0 : Int)), (C.int .i64 (0 : Int)), 
 (C.int .i64 (0 : Int))] false))) → (∃ m27 : M, (((stC m26 (C.ptr m14.nxt 0) 9 [(C.int .i64 x17), 
 (C.int .i64 x18), (C.int .i64 x19), (C.int .i64 x20), (C.int .i64 x21), 
 (C.int .i64 x22), (C.int .i64 x23), (C.int .i64 x24), (C.int .i64 x25)]) = (some m27)) ∧ 
 (R15 m27 (fun m28 => (∃ c29 : C, (((ldC m28 (C.ptr m2.nxt 0)) = (some c29)) ∧ 
 (isPt (C.ptr m0.nxt 0) ∧ (∃ c30 : C, (((ldC m28 (C.ptr m0.nxt 0)) = (some c30)) ∧ 
 (∃ x31 : Int, (∃ x32 : Int, (∃ c33 : C, (∃ x34 : Int, (∃ c35 : C, (∃ c36 : C, 
 (((ldA m28 (C.ptr m.nxt 0) 6) = (some [(C.int .i64 x31), (C.int .i64 x32), 
 c33, (C.int .i64 x34), c35, c36])) ∧ (∃ x37 : Int, (∃ x38 : Int, (∃ x39 : Int, 
 (∃ x40 : Int, (∃ x41 : Int, (∃ x42 : Int, (∃ x43 : Int, (∃ x44 : Int, (∃ x45 : Int, 
 (((ldA m28 (C.ptr m14.nxt 0) 9) = (some [(C.int .i64 x37), (C.int .i64 x38), 
 (C.int .i64 x39), (C.int .i64 x40), (C.int .i64 x41), (C.int .i64 x42), 
 (C.int .i64 x43), (C.int .i64 x44), (C.int .i64 x45)])) ∧ 
 (callP prog tbl [(V.agg 6 [(C.int .i64 x31), (C.int .i64 x32), 
 c33, (C.int .i64 x34), c35, c36]), (V.agg 9 [(C.int .i64 x37), 
 (C.int .i64 x38), (C.int .i64 x39), (C.int .i64 x40), (C.int .i64 x41), 
 (C.int .i64 x42), (C.int .i64 x43), (C.int .i64 x44), (C.int .i64 x45)])] c30 m28 (fun v46 m47 => 
 (∃ x48 : Int, ((v46 = (V.c (C.int .i64 x48))) ∧ ((ifB (noFnC c29) ((ldC m47 (C.ptr m2.nxt 0)) = (some c29)) False) ∧ 
 (∀ m49 : M, ((m49 = (M.new m47 (AO.cells 1 [(C.int .i64 x48)] false))) → 
 ((ifB (noFnC c29) ((ldC m49 (C.ptr m2.nxt 0)) = (some c29)) False) ∧ 
 (∃ c50 : C, (∃ m51 : M, ((ApR prog 22 m49 c29 (C.sl m47.nxt 0 1 0 (some 1)) c50 m51) ∧ 
 (∃ m52 : M, (((stC m51 (C.ptr m2.nxt 0) 1 [c50]) = (some m52)) ∧ (R16 Ex.nrm m52))))))))))))))))))))))))))))))))))))))))))))))))))))) (After.mk (fun m53 => 
 (∃ c54 : C, (((ldC m53 (C.ptr m2.nxt 0)) = (some c54)) ∧ (Wc prog tbl 101 [(V.c c54)] m53 (fun v55 m56 => 
 (∃ x57 : Int, ((v55 = (V.c (C.int .i64 x57))) ∧ (∃ c58 : C, (((ldC m56 (C.ptr m2.nxt 0)) = (some c58)) ∧ 
 ((ifB (noFnC c58) ((ldC m53 (C.ptr m2.nxt 0)) = (some c58)) False) ∧ 
 (Wc prog tbl 102 [(V.c c58)] m56 (fun v59 m60 => (∃ x61 : Int, ((v59 = (V.c (C.int .i64 x61))) ∧ 
 (∃ m62 : M, (((stC m60 (C.ptr m1.nxt 0) 2 [(C.int .i64 x57), (C.int .i64 x61)]) = (some m62)) ∧ 
 (∃ x63 : Int, (∃ x64 : Int, (((ldA m62 (C.ptr m1.nxt 0) 2) = (some [(C.int .i64 x63), 
 (C.int .i64 x64)])) ∧ (Q (V.agg 2 [(C.int .i64 x63), (C.int .i64 x64)]) m62)))))))))))))))))))) [] (fun m65 => 
 (∃ x66 : Int, (∃ x67 : Int, (((ldA m65 (C.ptr m1.nxt 0) 2) = (some [(C.int .i64 x66), 
 (C.int .i64 x67)])) ∧ (Q (V.agg 2 [(C.int .i64 x66), (C.int .i64 x67)]) m65))))))))))))))))))))))))))) : Wc prog tbl 82 [(V.agg 6 [(C.int .i64 a100), (C.int .i64 a101), a102, (C.int .i64 a103), a104, a105]), (V.agg 1 [a200])] m Q :=
 wc_eq (n := 2) rfl (by kernel_rfl) (by kernel_rfl) h
theorem w91 {a100 : Int} {a101 : Int} {a102 : C} {a103 : Int} {a104 : C} {a105 : C} {a200 : C} {m : M} {Q : V → M → Prop} (h :
 (∀ m0 : M, ((m0 = (M.new m (AO.cells 6 [(C.int .i64 a100), (C.int .i64 a101), a102, (C.int .i64 a103), 
 a104, a105] false))) → (∀ m1 : M, ((m1 = (M.new m0 (AO.cells 1 [(C.bool false)] false))) → (∀ m2 : M, 
 ((m2 = (M.new m1 (AO.cells 6 [(C.bool false), (C.bool false), (C.bool false), (C.bool false), (C.bool false), 
 (C.bool false)] false))) → (isSl a200 ∧ (∀ R3 : List V → M → Prop, ((∀ x4 : Int, (∀ m5 : M, ((ifB (decide (x4 < (((slLen a200) : Nat) : Int))) (∃ n6 : Nat, 
 ((x4 = ((n6 : Nat) : Int)) ∧ ((n6 < (slLen a200)) ∧ (∃ x7 : Int, (((ldC m5 (slAt a200 (n6 * 1))) = (some (C.int .i64 x7))) ∧ 
 (isPt (C.ptr m1.nxt 0) ∧ (∃ n8 : Nat, ((x7 = ((n8 : Nat) : Int)) ∧ ((n8 < 6) ∧ (∃ m9 : M, 
 (((stC m5 (C.ptr m1.nxt (0 + (n8 * 1))) 1 [(C.bool true)]) = (some m9)) ∧ (fitsP .i64 (x4 + (1 : Int)) ∧ 
 (R3 [(V.c (C.int .i64 (x4 + (1 : Int))))] m9))))))))))))) (∃ x10 : Int, (∃ x11 : Int, 
 (∃ c12 : C, (∃ x13 : Int, (∃ c14 : C, (∃ c15 : C, (((ldA m5 (C.ptr m.nxt 0) 6) = (some [(C.int .i64 x10), 
 (C.int .i64 x11), c12, (C.int .i64 x13), c14, c15])) ∧ (∃ b16 : Bool, 
 (∃ b17 : Bool, (∃ b18 : Bool, (∃ b19 : Bool, (∃ b20 : Bool, (∃ b21 : Bool, (((ldA m5 (C.ptr m1.nxt 0) 6) = (some [(C.bool b16), 
 (C.bool b17), (C.bool b18), (C.bool b19), (C.bool b20), (C.bool b21)])) ∧ (Wc prog tbl 108 [(V.agg 6 [(C.int .i64 x10), 
 (C.int .i64 x11), c12, (C.int .i64 x13), c14, c15]), (V.agg 6 [(C.bool b16), 
 (C.bool b17), (C.bool b18), (C.bool b19), (C.bool b20), (C.bool b21)])] m5 (fun v22 m23 => 
 (∃ c24 : C, ((v22 = (V.c c24)) ∧ (rangeP prog tbl c24 m23 (fun l25 m26 R27 R28 => 
 (∃ x29 : Int, (∃ x30 : Int, (∃ x31 : Int, (∃ x32 : Int, (∃ x33 : Int, (∃ x34 : Int, 
 (∃ x35 : Int, (∃ x36 : Int, (∃ x37 : Int, ((l25 = [(V.agg 9 [(C.int .i64 x29), 
 (C.int .i64 x30), (C.int .i64 x31), (C.int .i64 x32), (C.int .i64 x33), 
 (C.int .i64 x34), (C.int .i64 x35), (C.int .i64 x36), (C.int .i64 x37)])]) ∧ 
 (R27 m26 (fun m38 => (∃ m39 : M, (((stC m38 (C.ptr m0.nxt 0) 1 [(C.bool true)]) = (some m39)) ∧ 
 (R28 Ex.ret m39)))))))))))))))) (After.mk (fun m40 => (∃ m41 : M, (((stC m40 (C.ptr m0.nxt 0) 1 [(C.bool false)]) = (some m41)) ∧ 
 (∃ b42 : Bool, (((ldC m41 (C.ptr m0.nxt 0)) = (some (C.bool b42))) ∧ 
 (Q (V.c (C.bool b42)) m41)))))) [] (fun m43 => (∃ b44 : Bool, (((ldC m43 (C.ptr m0.nxt 0)) = (some (C.bool b44))) ∧ 
 (Q (V.c (C.bool b44)) m43))))))))))))))))))))))))) → (R3 [(V.c (C.int .i64 x4))] m5)))) → 
 (R3 [(V.c (C.int .i64 (0 : Int)))] m2))))))))))) : Wc prog tbl 91 [(V.agg 6 [(C.int .i64 a100), (C.int .i64 a101), a102, (C.int .i64 a103), a104, a105]), (V.c a200)] m Q :=
 wc_eq (n := 2) rfl (by kernel_rfl) (by kernel_rfl) h
theorem w101 {a100 : C} {m : M} {Q : V → M → Prop} (h :
 (isSl a100 ∧ (ifB (decide ((((slLen a100) : Nat) : Int) = (0 : Int))) (Q (V.c (C.int .i64 (0 : Int))) m) (∃ n0 : Nat, 
 (((0 : Int) = ((n0 : Nat) : Int)) ∧ ((n0 < (slLen a100)) ∧ (∃ x1 : Int, (((ldC m (slAt a100 (n0 * 1))) = (some (C.int .i64 x1))) ∧ 
 (isSl a100 ∧ (∀ R2 : List V → M → Prop, ((∀ x3 : Int, (∀ x4 : Int, (∀ m5 : M, ((ifB (decide (x4 < (((slLen a100) : Nat) : Int))) (∃ n6 : Nat, 
 ((x4 = ((n6 : Nat) : Int)) ∧ ((n6 < (slLen a100)) ∧ (∃ x7 : Int, (((ldC m5 (slAt a100 (n6 * 1))) = (some (C.int .i64 x7))) ∧ 
 (ifB (decide (x7 < x3)) (fitsP .i64 (x4 + (1 : Int)) ∧ (R2 [(V.c (C.int .i64 x7)), 
 (V.c (C.int .i64 (x4 + (1 : Int))))] m5)) (fitsP .i64 (x4 + (1 : Int)) ∧ 
 (R2 [(V.c (C.int .i64 x3)), (V.c (C.int .i64 (x4 + (1 : Int))))] m5)))))))) (Q (V.c (C.int .i64 x3)) m5)) → 
 (R2 [(V.c (C.int .i64 x3)), (V.c (C.int .i64 x4))] m5))))) → (R2 [(V.c (C.int .i64 x1)), 
 (V.c (C.int .i64 (0 : Int)))] m)))))))))))) : Wc prog tbl 101 [(V.c a100)] m Q :=
 wc_eq (n := 1) rfl (by kernel_rfl) (by kernel_rfl) h
theorem w108 {a100 : Int} {a101 : Int} {a102 : C} {a103 : Int} {a104 : C} {a105 : C} {a200 : Bool} {a201 : Bool} {a202 : Bool} {a203 : Bool} {a204 : Bool} {a205 : Bool} {m : M} {Q : V → M → Prop} (h :
 (∀ m0 : M, ((m0 = (M.new m (AO.cells 6 [(C.int .i64 a100), (C.int .i64 a101), a102, (C.int .i64 a103), 
 a104, a105] false))) → (∀ m1 : M, ((m1 = (M.new m0 (AO.cells 6 [(C.bool a200), (C.bool a201), (C.bool a202), 
 (C.bool a203), (C.bool a204), (C.bool a205)] false))) → (Q (V.c (C.fn (Fn.func 120) [] [(W.c (C0.ptr m.nxt 0)), 
 (W.c (C0.ptr m0.nxt 0))])) m1)))))) : Wc prog tbl 108 [(V.agg 6 [(C.int .i64 a100), (C.int .i64 a101), a102, (C.int .i64 a103), a104, a105]), (V.agg 6 [(C.bool a200), (C.bool a201), (C.bool a202), (C.bool a203), (C.bool a204), (C.bool a205)])] m Q :=
 wc_eq (n := 2) rfl (by kernel_rfl) (by kernel_rfl) h
end
end Go.Proofs.Ytgkjfhkjgdiodaa

namespace Go.Proofs.Ytgkjfhkjgdiodaa
open _root_.Go.Proofs.Try
open Go.Abs
set_option maxRecDepth 100000
noncomputable section
/-- the marks of a list -/
def marksL (B : List Bool) : List Int → List Bool
  | [] => B
  | v :: D => marksL (B.set v.toNat true) D
theorem marksL_step {D : List Int} {i : Nat} (hi : i < D.length) (B : List Bool) : marksL B (D.drop i) = marksL (B.set D[i].toNat true) (D.drop (i + 1)) := by rw [List.drop_eq_getElem_cons hi]; rfl
theorem s108 {r c sm : Int} {x y : C} {L : List Int} {N : List Cnt} {mb : Nat} {f : Spot → Option U} {O : List Bool} {m : M} {Q : V → M → Prop} (hw : Wk m L N mb f) (hx : Li m x L) (hO : O.length = 6)
    (h : ∀ m' b b2, Ext m m' → Rd r c sm x y L N mb f O b b2 m' → m.nxt ≤ b → m.nxt ≤ b2 → Q (.c (.fn (.func 120) [] [.c (.ptr b 0), .c (.ptr b2 0)])) m') :
    Wc prog tbl 108 [.agg 6 [.int .i64 r, .int .i64 c, x, .int .i64 sm, y, .map mb], .agg 6 (bls O)] m Q := by
  obtain ⟨a0, a1, a2, a3, a4, a5, rfl⟩ := six hO
  refine w108 fun m0 e0 m1 e1 => ?_
  obtain ⟨b0, x0⟩ := Bk.new e0
  obtain ⟨b1, x1⟩ := Bk.new e1
  have x01 := x0.trans x1
  exact h m1 m.nxt m0.nxt x01 ⟨b0.ext x1, b1, hw.ext x01, hx.ext x01⟩ (Nat.le_refl _) x0.nxt
theorem ds_old {x : C} {L : List Int} {mb b b2 : Nat} {m : M} {N : List Cnt} {f : Spot → Option U} (hw : Wk m L N mb f) (hx : Li m x L) {b' : Nat} (h : Ds x mb b b2 b') : b' = b ∨ b' = b2 ∨ b' < m.nxt := by
  rcases h with h | h | rfl | ⟨o, n, s, d, hq⟩
  · exact .inl h
  · exact .inr (.inl h)
  · exact .inr (.inr hw.mp.lt)
  · rcases hx.val with ⟨hx2, _⟩ | ⟨b3, o3, s3, c3, hx2, hlt, _⟩
    · rw [hq] at hx2; cases hx2
    · rw [hq] at hx2; cases hx2; exact .inr (.inr hlt)
theorem s91 {r c sm : Int} {x y z : C} {L D : List Int} {N : List Cnt} {mb : Nat} {f : Spot → Option U} {m : M} {Q : V → M → Prop} (hw : Wk m L N mb f) (hx : Li m x L) (hf : isField r c L = true) (hz : Li m z D) (hD : D.length ≤ 1000) (hD6 : ∀ v ∈ D, 0 ≤ v ∧ v < 6)
    (h : ∀ m', Ext m m' → Q (.c (.bool (!(truthsV c sm L N (marksL false6 D)).isEmpty))) m') :
    Wc prog tbl 91 [.agg 6 [.int .i64 r, .int .i64 c, x, .int .i64 sm, y, .map mb], .c z] m Q := by
  refine w91 fun m0 e0 m1 e1 m2 e2 => ?_
  obtain ⟨b0, x0⟩ := Bk.new e0
  obtain ⟨b1, x1⟩ := Bk.new e1
  obtain ⟨b2, x2⟩ := Bk.new e2
  have n0 : m0.nxt = m.nxt + 1 := by rw [e0]; rfl
  have n1 : m1.nxt = m.nxt + 2 := by rw [e1]; show m0.nxt + 1 = _; omega
  have n2 : m2.nxt = m.nxt + 3 := by rw [e2]; show m1.nxt + 1 = _; omega
  refine ⟨hz.isSl, fun R3 hstep => ?_⟩
  have hgo : ∀ (d i : Nat) (m5 : M) (B : List Bool), d + i = D.length → Ext m m5 → Bk m5 m.nxt 6 [.int .i64 r, .int .i64 c, x, .int .i64 sm, y, .map mb] → Bk m5 m0.nxt 1 [.bool false] → Bk m5 m1.nxt 6 (bls B) → B.length = 6 →
      marksL B (D.drop i) = marksL false6 D → R3 [.c (.int .i64 (i : Int))] m5 := by
    intro d
    induction d with
    | zero =>
      intro i m5 B hd e5 k0 k1 k2 hB hm
      refine hstep _ _ ?_
      rw [hz.slLen, ifB_dec]
      refine ⟨fun h1 => by omega, fun _ => ?_⟩
      rw [List.drop_eq_nil_of_le (by omega)] at hm
      have hBe : B = marksL false6 D := hm
      refine ⟨r, c, x, sm, y, .map mb, k0.ra, get6 k2 hB (fun l6 => Wc prog tbl 108 [.agg 6 [.int .i64 r, .int .i64 c, x, .int .i64 sm, y, .map mb], .agg 6 l6] m5 _) ?_⟩
      refine s108 (hw.ext e5) (hx.ext e5) hB fun m23 b b2 e23 hR hb hb2 => ⟨_, rfl, ?_⟩
      have k1' := k1.ext e23
      have hflag : ∀ b', b' = m0.nxt → ¬ Ds x mb b b2 b' := fun b' hb' hds => by
        rcases ds_old (m := m) hw hx hds with h1 | h1 | h1
        · have := k1.lt; omega
        · have := k1.lt; omega
        · omega
      have e523 : Ext m m23 := e5.trans e23
      refine range_iter (without_iter hf hB) hR (J := fun i S m => i = 0 ∧ (∀ b', S b' ↔ b' = m0.nxt) ∧ Bk m m0.nxt 1 [.bool false]) (X := fun ex S m => ex = .ret ∧ truthsV c sm L N B ≠ [] ∧ (∀ b', S b' ↔ b' = m0.nxt) ∧ Bk m m0.nxt 1 [.bool true])
        (fun i => ⟨fun S ma mb' hj hn hv hg _ => ⟨hj.1, hj.2.1, (hg m0.nxt ((hj.2.1 _).2 rfl)).trans hj.2.2.g, Nat.lt_of_lt_of_le hj.2.2.lt hn⟩, fun S ma hj b' hb' => by rw [(hj.2.1 b').1 hb']; exact hj.2.2.lt⟩)
        (fun ex => ⟨fun S ma mb' hj hn hv hg _ => ⟨hj.1, hj.2.1, hj.2.2.1, (hg m0.nxt ((hj.2.2.1 _).2 rfl)).trans hj.2.2.2.g, Nat.lt_of_lt_of_le hj.2.2.2.lt hn⟩, fun S ma hj b' hb' => by rw [(hj.2.2.1 b').1 hb']; exact hj.2.2.2.lt⟩)
        (S0 := fun b' => b' = m0.nxt) ⟨rfl, fun _ => Iff.rfl, k1'⟩ (fun b' hb' => hflag b' hb') ?_ ?_ ?_ ?_
      · intro i xv S ma B' enter K hxv hj hlt hSl hown henter hK
        obtain ⟨hi0, hS, hkb⟩ := hj
        subst hi0
        have hne : truthsV c sm L N B ≠ [] := fun h0 => by rw [h0] at hxv; cases hxv
        have hxv' := hxv
        unfold truthsV at hxv'
        rw [List.getElem?_map] at hxv'
        cases hH : (exts c sm L N B L.length [])[0]? with
        | none => rw [hH] at hxv'; cases hxv'
        | some H =>
          rw [hH] at hxv'
          have hxe : [V.agg 9 (ints (pad H))] = xv := by injection hxv'
          have hlenH : H.length = L.length := ((mem_exts hf H L.length 0 [] (by omega) rfl).1 (List.mem_of_getElem? hH)).1
          obtain ⟨_, hL9, _⟩ := field_of hf
          obtain ⟨p0, p1, p2, p3, p4, p5, p6, p7, p8, hp⟩ := nine (pad_len (H := H) (by omega))
          refine ⟨p0, p1, p2, p3, p4, p5, p6, p7, p8, by rw [← hxe, hp]; rfl, henter ma _ rfl fun m3 hn3 hv3 hg3 hB3 => ?_⟩
          have hne0 : m0.nxt ≠ m23.nxt := by have := k1'.lt; omega
          have k3 : Bk m3 m0.nxt 1 [.bool false] := ⟨(hg3 _ hne0).trans hkb.g, by rw [hn3]; exact hkb.lt⟩
          refine ⟨_, k3.st _, hK .ret S _ (hB3 _ (by rw [M.g_set, if_neg (by omega)])) (by show ma.nxt ≤ m3.nxt; omega) hv3 (fun b' hb' hSb hbl => ?_) (Own.refl S ma) ⟨rfl, hne, hS, k3.set _⟩⟩
          rw [M.g_set, if_neg fun h0 => hSb ((hS b').2 h0)]
          exact hg3 b' hbl
      · intro S' m5' hown hlt hv hg hj
        obtain ⟨hx0, hS, hkb⟩ := hj
        have hemp : (truthsV c sm L N B).isEmpty = true := by simpa using hx0
        refine ⟨_, hkb.st _, false, (hkb.set _).rc rfl, ?_⟩
        have hext : Ext m (m5'.set m0.nxt (.cells 1 [.bool false] false)) := Ext.setR (m' := m5') ⟨Nat.le_trans e523.nxt (Nat.le_of_lt hlt), fun b' hb' => by rw [hg b' (Nat.lt_of_lt_of_le hb' e523.nxt) (by omega)]; exact e523.g b' hb', hv.trans e523.vw⟩ (by omega) _
        have hq := h _ hext
        rw [← hBe, hemp] at hq
        exact hq
      · intro id S' m5' hown hlt hv hg hj
        cases hj.1
      · intro S' m5' hown hlt hv hg hj
        obtain ⟨_, hne, hS, hkb⟩ := hj
        have hemp : (truthsV c sm L N B).isEmpty = false := by
          cases ht : truthsV c sm L N B with
          | nil => exact absurd ht hne
          | cons a l => rfl
        refine ⟨true, hkb.rc rfl, ?_⟩
        have hext : Ext m m5' := ⟨Nat.le_trans e523.nxt (Nat.le_of_lt hlt), fun b' hb' => by rw [hg b' (Nat.lt_of_lt_of_le hb' e523.nxt) (by omega)]; exact e523.g b' hb', hv.trans e523.vw⟩
        have hq := h _ hext
        rw [← hBe, hemp] at hq
        exact hq
    | succ d ih =>
      intro i m5 B hd e5 k0 k1 k2 hB hm
      refine hstep _ _ ?_
      rw [hz.slLen, ifB_dec]
      refine ⟨fun _ => ?_, fun h1 => absurd (by omega) h1⟩
      have hi : i < D.length := by omega
      have hv := hD6 _ (List.getElem_mem hi)
      obtain ⟨v, hve⟩ : ∃ v : Nat, D[i] = (v : Int) := ⟨D[i].toNat, by omega⟩
      have hat := stC_at k2.g (k := 0 + v * 1) (.bool true) (by rw [bls_len, hB]; omega) (by rw [bls_len, hB]) (by omega)
      refine ⟨i, rfl, hi, D[i], Li.rd (hz.ext e5) (List.getElem?_eq_getElem hi), trivial, v, hve, by omega, _, hat, fits_small (by omega) (by omega), ?_⟩
      refine ih (i + 1) _ (B.set v true) (by omega) (e5.setR (by omega) _) (k0.setNe (by omega) _) (k1.setNe (by omega) _) ?_ (by rw [List.length_set]; exact hB) ?_
      · rw [bls_set, show 0 + v * 1 = v by omega]; exact k2.set _
      · rw [← hm, marksL_step hi, hve]; rfl
  exact hgo D.length 0 m2 false6 (by omega) ((x0.trans x1).trans x2) ((b0.ext x1).ext x2) (b1.ext x2) b2 rfl rfl
end
end Go.Proofs.Ytgkjfhkjgdiodaa

namespace Go.Proofs.Ytgkjfhkjgdiodaa
open _root_.Go.Proofs.Try
open Go.Abs
set_option maxRecDepth 100000
noncomputable section
def truthsP (c sm : Int) (L : List Int) (N : List Cnt) : List (List Int) := exts c sm L N false6 L.length []
def trueErr (r c : Int) (L : List Int) (sm : Int) (N : List Cnt) : Int := if svErr r c L sm N = 0 then (if (truthsP c sm L N).isEmpty then 9 else 0) else svErr r c L sm N
theorem truthsV_emp (c sm : Int) (L : List Int) (N : List Cnt) : (truthsV c sm L N (marksL false6 [])).isEmpty = (truthsP c sm L N).isEmpty := by
  show (truthsV c sm L N false6).isEmpty = _
  unfold truthsV truthsP
  cases exts c sm L N false6 L.length [] <;> rfl
/-- openTrue -/
theorem s81 {r c sm : Int} {x y : C} {L : List Int} {N : List Cnt} {m : M} {Q : V → M → Prop} (hx : Li m x L) (hL : L.length ≤ 1048576) (hy : Lc m y N) (hN : N.length ≤ 1000)
    (hbad : trueErr r c L sm N ≠ 0 → ∀ m', Ext m m' → Q (.tup [.agg 6 [.int .i64 0, .int .i64 0, .sl0, .int .i64 0, .sl0, .map0], .c (.int .i64 (trueErr r c L sm N))]) m')
    (hgood : trueErr r c L sm N = 0 → ∀ m' mb f, Ext m m' → Wk m' L N mb f → Q (.tup [.agg 6 [.int .i64 r, .int .i64 c, x, .int .i64 sm, y, .map mb], .c (.int .i64 0)]) m') :
    Wc prog tbl 81 [.agg 5 [.int .i64 r, .int .i64 c, x, .int .i64 sm, y]] m Q := by
  refine w81 fun m0 e0 m1 e1 => ?_
  obtain ⟨b0, x0⟩ := Bk.new e0
  obtain ⟨b1, x1⟩ := Bk.new e1
  have x01 := x0.trans x1
  have n0 : m0.nxt = m.nxt + 1 := by rw [e0]; rfl
  refine ⟨r, c, x, sm, y, (b0.ext x1).ra, s37 (hx.ext x01) hL (hy.ext x01) hN fun m8 e8 => ⟨_, rfl, ?_⟩⟩
  have x8 := x01.trans e8
  have k0 := (b0.ext x1).ext e8
  have k1 := b1.ext e8
  rw [ifB_ndec]
  refine ⟨fun h1 => ?_, fun h1 => ?_⟩
  · have ht : trueErr r c L sm N = svErr r c L sm N := by unfold trueErr; rw [if_neg h1]
    refine ⟨_, k1.st _, 0, 0, .sl0, 0, .sl0, .map0, (k1.set _).ra, ?_⟩
    have hq := hbad (by rw [ht]; exact h1) _ (x8.setR (b := m0.nxt) (by omega) (.cells 6 [.int .i64 0, .int .i64 0, .sl0, .int .i64 0, .sl0, .map0] false))
    rw [ht] at hq
    exact hq
  obtain ⟨hO, hsm⟩ := okay_of h1
  refine ⟨r, c, x, sm, y, k0.ra, s76 (hx.ext x8) (hy.ext x8) hO fun m23 mb f e23 hmp hms => ⟨r, c, x, sm, y, .map mb, rfl, fun m30 h30 => ?_⟩⟩
  obtain ⟨b30, x30⟩ := Bk.new h30
  have k31 := b30.set [.int .i64 r, .int .i64 c, x, .int .i64 sm, y, .map mb]
  have e31 : Ext m23 (m30.set m23.nxt (.cells 6 [.int .i64 r, .int .i64 c, x, .int .i64 sm, y, .map mb] false)) := x30.setR (Nat.le_refl _) _
  refine ⟨_, b30.st _, r, c, x, sm, y, .map mb, k31.ra, ?_⟩
  generalize m30.set m23.nxt (.cells 6 [.int .i64 r, .int .i64 c, x, .int .i64 sm, y, .map mb] false) = m31 at k31 e31
  have x31 := (x8.trans e23).trans e31
  have hw31 : Wk m31 L N mb f := ⟨hmp.ext e31, hms⟩
  refine s91 hw31 (hx.ext x31) hO.f (D := []) (Ls.nil m31 1) (by simp) (by simp) fun m39 e39 => ⟨_, rfl, ?_⟩
  have x39 := x31.trans e39
  have k1' := ((k1.ext e23).ext e31).ext e39
  rw [truthsV_emp, Bool.not_not, ifB_iff]
  refine ⟨fun h2 => ?_, fun h2 => ?_⟩
  · have ht : trueErr r c L sm N = 9 := by unfold trueErr; rw [if_pos h1, h2]; rfl
    refine ⟨_, k1'.st _, 0, 0, .sl0, 0, .sl0, .map0, (k1'.set _).ra, ?_⟩
    have hq := hbad (by rw [ht]; decide) _ (x39.setR (b := m0.nxt) (by omega) (.cells 6 [.int .i64 0, .int .i64 0, .sl0, .int .i64 0, .sl0, .map0] false))
    rw [ht] at hq
    exact hq
  · have ht : trueErr r c L sm N = 0 := by unfold trueErr; rw [if_pos h1, h2]; rfl
    refine ⟨r, c, x, sm, y, .map mb, (k31.ext e39).ra, _, k1'.st _, r, c, x, sm, y, .map mb, (k1'.set _).ra, ?_⟩
    have hne : mb ≠ m0.nxt := fun h3 => by
      obtain ⟨es, clock, hg, _⟩ := (hw31.ext e39).mp.ex
      rw [h3, k1'.g] at hg
      cases hg
    exact hgood ht _ mb f (x39.setR (by omega) _) ⟨((hw31.ext e39).mp.setNe hne _), hms⟩
end
end Go.Proofs.Ytgkjfhkjgdiodaa

namespace Go.Proofs.Ytgkjfhkjgdiodaa
open _root_.Go.Proofs.Try
open Go.Abs
set_option maxRecDepth 100000
noncomputable section
theorem isNil_ne {m : M} {z : C} {L : List Int} (hz : Li m z L) (hn : isNilC z = false) : ∃ b o n s c, z = .sl b o n s c := by
  rcases hz.val with ⟨rfl, _⟩ | ⟨b, o, s, c, rfl, _⟩
  · cases hn
  · exact ⟨_, _, _, _, _, rfl⟩
/-- slices.Clone -/
theorem s104 {z : C} {L : List Int} {m : M} {Q : V → M → Prop} (hz : Li m z L) (hn : isNilC z = false) (hL : L.length ≤ 1000) (h : ∀ z' m', Ext m m' → Li m' z' L → Fr m z' → Q (.c z') m') : Wc prog tbl 104 [.c z] m Q := by
  obtain ⟨b, o, n, s, c, rfl⟩ := isNil_ne hz hn
  refine w104 ⟨trivial, trivial, trivial, rfl, ?_⟩
  show ∀ m0 : M, _
  intro m0 e0
  obtain ⟨b0, x0⟩ := Bk.new e0
  have ho : Own1 m0 1 (.sl m.nxt 0 0 0 (some 0)) [] 0 := ⟨rfl, .lit _ b0.g b0.lt⟩
  by_cases h0 : L.length = 0
  · have hL0 : L = [] := List.eq_nil_of_length_eq_zero h0
    subst hL0
    exact ⟨_, _, ap_none t22 g3 z3 ho (hz.ext x0), h _ _ x0 ho.ls fun b o n s d hq => by cases hq; exact Nat.le_refl _⟩
  · obtain ⟨m', q1, q2, q3, q4, q5⟩ := ap_own t22 g3 z3 ho (hz.ext x0) (by omega) (by omega) (by omega)
    have n0 : m0.nxt = m.nxt + 1 := by rw [e0]; rfl
    refine ⟨_, m', q1, h _ _ ⟨by omega, fun b' hb => ?_, q4.trans x0.vw⟩ ?_ fun b o n s d hq => by cases hq; omega⟩
    · rw [q5 b' (by omega) (by intro hq; cases hq)]; exact x0.g b' hb
    · have := q2.ls
      rw [List.nil_append] at this
      have e : 0 + L.length = L.length := Nat.zero_add _
      rw [e] at this ⊢
      exact this
/-- all increasing lists of numbers below n, the shorter ones first -/
def allL (n : Nat) : List (List Int) := rests (fun s => combs n s [] 0) (n + 1) 0
/-- the first list that passes -/
def shortL (n : Nat) (t : List Int → Bool) : List Int := ((allL n).find? t).getD []
theorem rests_split {α : Type} (g : Nat → List α) (p : α → Bool) : ∀ e x, (rests g (e + 1) x).find? p = ((g x).find? p).or ((rests g e (x + 1)).find? p) := fun e x => by
  show (g x ++ rests g e (x + 1)).find? p = _
  rw [List.find?_append]
/-- a function value that tests a list -/
def Tests (n : Nat) (m : M) (fnc : C) (t : List Int → Bool) : Prop :=
  ∀ m' z L, Ext m m' → Li m' z L → L ∈ allL n → ∀ Q : V → M → Prop, (∀ m'', Ext m' m'' → Q (.c (.bool (t L))) m'') → callP prog tbl [.c z] fnc m' Q
theorem drop_find {l : List (List Int)} {i : Nat} {a : List Int} (h : l[i]? = some a) (p : List Int → Bool) : (l.drop i).find? p = if p a then some a else (l.drop (i + 1)).find? p := by
  obtain ⟨hi, ha⟩ := List.getElem?_eq_some_iff.1 h
  rw [List.drop_eq_getElem_cons hi, ha, List.find?_cons]
  cases p a <;> rfl
theorem combs_len {n : Nat} {L : List Int} : ∀ {d : Nat} {pre : List Int} {fr : Nat}, L ∈ combs n d pre fr → L.length = pre.length + d
  | 0, pre, fr, h => by
    have : L = pre := List.mem_singleton.1 h
    rw [this]; rfl
  | d + 1, pre, fr, h => by
    obtain ⟨x, _, _, h3⟩ := (mem_rests _ _ _ _).1 h
    have := combs_len h3
    rw [List.length_append] at this
    simp only [List.length_cons, List.length_nil] at this
    omega
theorem s87 {n : Nat} {fnc : C} {t : List Int → Bool} {m : M} {Q : V → M → Prop} (hn : n ≤ 100) (ht : Tests n m fnc t) (h : ∀ z m', Ext m m' → Li m' z (shortL n t) → Q (.c z) m') : Wc prog tbl 87 [.c (.int .i64 (n : Int)), .c fnc] m Q := by
  refine w87 fun m0 e0 m1 e1 => ?_
  obtain ⟨b0, x0⟩ := Bk.new e0
  obtain ⟨b1, x1⟩ := Bk.new e1
  have x01 := x0.trans x1
  have n0 : m0.nxt = m.nxt + 1 := by rw [e0]; rfl
  refine ⟨fits_small (by omega) (by omega), fun R2 hstep => ?_⟩
  let G : Nat → List (List Int) := fun s => combs n s [] 0
  have hgo : ∀ (e s : Nat) (m4 : M), e + s = n + 1 → Ext m m4 → Bk m4 m.nxt 1 [fnc] → Bk m4 m0.nxt 1 [.sl0] → (rests G e s).find? t = (allL n).find? t → R2 [.c (.int .i64 (s : Int))] m4 := by
    intro e
    induction e with
    | zero =>
      intro s m4 hes x4 k0 k1 hfind
      refine hstep _ _ ?_
      rw [ifB_dec]
      refine ⟨fun h1 => by omega, fun _ => ⟨_, k1.rc rfl, h _ _ x4 ?_⟩⟩
      have : shortL n t = [] := by unfold shortL; rw [← hfind]; rfl
      rw [this]
      exact Ls.nil m4 1
    | succ e ih =>
      intro s m4 hes x4 k0 k1 hfind
      refine hstep _ _ ?_
      rw [ifB_dec]
      refine ⟨fun _ => ?_, fun h1 => absurd (by omega) h1⟩
      refine w103 fun m5 e5 m6 e6 => ?_
      obtain ⟨b5, x5⟩ := Bk.new e5
      obtain ⟨b6, x6⟩ := Bk.new e6
      have x56 := x5.trans x6
      refine ⟨_, rfl, ?_⟩
      have hk0 := k0.lt
      have hk1 := k1.lt
      have n5 : m5.nxt = m4.nxt + 1 := by rw [e5]; rfl
      have x46 := x4.trans x56
      have k06 := k0.ext x56
      have k16 := k1.ext x56
      rw [rests_split] at hfind
      refine range_iterV (lists_iter (b := m5.nxt) (b2 := m4.nxt) (n := n) (size := s) (by omega) (by omega)) ⟨b6, b5.ext x6⟩
        (J := fun i S ma => (∀ b', S b' ↔ b' = m0.nxt) ∧ Bk ma m0.nxt 1 [.sl0] ∧ ((G s).drop i).find? t = (G s).find? t ∧ m6.nxt ≤ ma.nxt ∧ ma.vw = m6.vw ∧ ∀ b', b' < m6.nxt → b' ≠ m0.nxt → ma.g b' = m6.g b')
        (X := fun ex S ma => ex = .exit 0 ∧ ∃ z L, (∀ b', S b' ↔ b' = m0.nxt ∨ ∃ o n s d, z = .sl b' o n s d) ∧ Bk ma m0.nxt 1 [z] ∧ Li ma z L ∧ (∀ b' o n s d, z = .sl b' o n s d → b' < ma.nxt) ∧ (G s).find? t = some L ∧ m6.nxt ≤ ma.nxt ∧ ma.vw = m6.vw ∧ ∀ b', b' < m6.nxt → b' ≠ m0.nxt → ma.g b' = m6.g b')
        (fun i => ⟨fun S ma mb hj hn' hv hg hlow => ⟨hj.1, ⟨(hg _ ((hj.1 _).2 rfl)).trans hj.2.1.g, Nat.lt_of_lt_of_le hj.2.1.lt hn'⟩, hj.2.2.1, Nat.le_trans hj.2.2.2.1 hn', hv.trans hj.2.2.2.2.1, fun b' hb' hne => (hlow b' hb').trans (hj.2.2.2.2.2 b' hb' hne)⟩, fun S ma hj b' hb' => by rw [(hj.1 b').1 hb']; exact hj.2.1.lt⟩)
        (fun ex => ⟨fun S ma mb hj hn' hv hg hlow => ?_, fun S ma hj b' hb' => ?_⟩) (S0 := fun b' => b' = m0.nxt) ⟨fun _ => Iff.rfl, k16, rfl, Nat.le_refl _, rfl, fun _ _ _ => rfl⟩ (fun b' hb' hd => by rcases hd with hd | hd <;> omega) ?_ ?_ ?_ ?_
      · obtain ⟨h1, z, L, h2, h3, h4, h5, h6, h7, h8, h9⟩ := hj
        refine ⟨h1, z, L, h2, ⟨(hg _ ((h2 _).2 (.inl rfl))).trans h3.g, Nat.lt_of_lt_of_le h3.lt hn'⟩, h4.to hn' (fun b' _ hx' => ?_) hv, fun b' o n s d hz => Nat.lt_of_lt_of_le (h5 b' o n s d hz) hn', h6, Nat.le_trans h7 hn', hv.trans h8, fun b' hb' hne => (hlow b' hb').trans (h9 b' hb' hne)⟩
        obtain ⟨o, s', d, hx'⟩ := hx'
        exact hg b' ((h2 b').2 (.inr ⟨_, _, _, _, hx'⟩))
      · obtain ⟨h1, z, L, h2, h3, h4, h5, h6, _⟩ := hj
        rcases (h2 b').1 hb' with rfl | ⟨o, n', s', d, hz⟩
        · exact h3.lt
        · exact h5 _ _ _ _ _ hz
      · intro i xv S ma B' enter K hxv hj hlt hSl hown henter hK
        obtain ⟨L, z, hL, rfl, hz, hnil, hfr⟩ := hxv
        obtain ⟨hS, hkb, hf, hn6, hv6, hg6⟩ := hj
        refine ⟨z, rfl, henter ma _ rfl fun m15 hn15 hv15 hg15 hB15 => ?_⟩
        have hne0 : m0.nxt ≠ m6.nxt := by have := k16.lt; omega
        have hl15 : Li m15 z L := hz.to (by omega) (fun b' _ hx' => by obtain ⟨o, s', d, hx'⟩ := hx'; exact hg15 b' (by have := hfr b' _ _ _ _ hx'; omega)) hv15
        have kk15 : Bk m15 m0.nxt 1 [.sl0] := ⟨(hg15 _ hne0).trans hkb.g, by rw [hn15]; exact hkb.lt⟩
        have hold : ∀ b', b' < m6.nxt → b' ≠ m0.nxt → m15.g b' = m6.g b' := fun b' hb' hne => (hg15 b' (by omega)).trans (hg6 b' hb' hne)
        have x15 : Ext m m15 := ⟨by rw [hn15]; exact Nat.le_trans x46.nxt hn6, fun b' hb' => by rw [hold b' (Nat.lt_of_lt_of_le hb' x46.nxt) (by omega)]; exact x46.g b' hb', by rw [hv15, hv6]; exact x46.vw⟩
        have kf15 : Bk m15 m.nxt 1 [fnc] := ⟨(hold _ k06.lt (by omega)).trans k06.g, by rw [hn15]; exact Nat.lt_of_lt_of_le k06.lt hn6⟩
        have hLm : L ∈ combs n s [] 0 := List.mem_of_getElem? hL
        have hmem : L ∈ allL n := (mem_rests _ _ _ _).2 ⟨s, Nat.zero_le _, by omega, hLm⟩
        have hlen := combs_len hLm
        simp only [List.length_nil] at hlen
        refine ⟨fnc, kf15.rc rfl, ht m15 z L x15 hl15 hmem _ fun m18 e18 => ⟨_, rfl, ?_⟩⟩
        have kk18 := kk15.ext e18
        have hg18 : ∀ b', b' < ma.nxt → b' ≠ m6.nxt → m18.g b' = ma.g b' := fun b' hb' hne => by rw [e18.g b' (by omega)]; exact hg15 b' hne
        have hn18 : ma.nxt ≤ m18.nxt := by rw [← hn15]; exact e18.nxt
        have hv18 : m18.vw = ma.vw := e18.vw.trans hv15
        have hB18 : m18.g m6.nxt = m15.g m6.nxt := e18.g _ (by omega)
        rw [ifB_iff]
        refine ⟨fun htl => ?_, fun htl => ?_⟩
        · refine s104 (hl15.ext e18) hnil (by omega) fun z' m21 e21 hz' hfr' => ⟨z', rfl, _, (kk18.ext e21).st _, ?_⟩
          have hzne : ∀ b' o n s d, z' = .sl b' o n s d → b' ≠ m0.nxt := fun b' o n s d hq => by have := hfr' b' o n s d hq; have := kk18.lt; omega
          refine hK (.exit 0) (fun b' => b' = m0.nxt ∨ ∃ o n s d, z' = .sl b' o n s d) _ (hB15 _ ?_) (Nat.le_trans hn18 e21.nxt) (e21.vw.trans hv18) (fun b' hb' hSb hbl => ?_) (fun b' hb' => ?_) ⟨rfl, z', L, fun _ => Iff.rfl, (kk18.ext e21).set _, hz'.setNe hzne _, fun b' o n s d hq => ?_, ?_, ?_, ?_, fun b' hb' hne => ?_⟩
          · rw [M.g_set, if_neg (by omega), e21.g _ (by omega)]; exact hB18
          · rw [M.g_set, if_neg fun h0 => hSb ((hS b').2 h0), e21.g b' (by omega)]; exact hg18 b' hb' hbl
          · rcases hb' with h0 | ⟨o, n', s', d, hq⟩
            · exact .inl ((hS b').2 h0)
            · exact .inr (by have := hfr' _ _ _ _ _ hq; omega)
          · subst hq
            rcases hz'.val with ⟨h0, _⟩ | ⟨b3, o3, s3, c3, h0, h1, _⟩
            · cases h0
            · cases h0; exact h1
          · rw [← hf, drop_find hL, if_pos htl]
          · exact Nat.le_trans hn6 (Nat.le_trans hn18 e21.nxt)
          · exact (e21.vw.trans hv18).trans hv6
          · rw [M.g_set, if_neg hne, e21.g b' (by omega), hg18 b' (by omega) (by omega)]; exact hg6 b' hb' hne
        · refine hK .nrm S _ (hB15 _ hB18) hn18 hv18 (fun b' hb' _ hbl => hg18 b' hb' hbl) (Own.refl S ma) ⟨hS, kk18, ?_, Nat.le_trans hn6 hn18, hv18.trans hv6, fun b' hb' hne => by rw [hg18 b' (by omega) (by omega)]; exact hg6 b' hb' hne⟩
          rw [← hf, drop_find hL, if_neg (by rw [htl]; decide)]
      · intro S' m5' hown hlt hv hg hj
        obtain ⟨hS, hkb, hf, hn6, hv6, hg6⟩ := hj
        have hnone : (G s).find? t = none := by rw [← hf, List.drop_eq_nil_of_le (Nat.le_refl _)]; rfl
        rw [hnone] at hfind
        refine ⟨fits_small (by omega) (by omega), ih (s + 1) m5' (by omega) ⟨Nat.le_trans x46.nxt hn6, fun b' hb' => by rw [hg6 b' (Nat.lt_of_lt_of_le hb' x46.nxt) (by omega)]; exact x46.g b' hb', hv6.trans x46.vw⟩ ⟨(hg6 _ k06.lt (by omega)).trans k06.g, Nat.lt_of_lt_of_le k06.lt hn6⟩ hkb hfind⟩
      · intro id S' m5' hown hlt hv hg hj
        obtain ⟨h1, z, L, h2, h3, h4, h5, h6, hn6, hv6, hg6⟩ := hj
        cases h1
        refine ⟨z, h3.rc rfl, h z m5' ⟨Nat.le_trans x46.nxt hn6, fun b' hb' => by rw [hg6 b' (Nat.lt_of_lt_of_le hb' x46.nxt) (by omega)]; exact x46.g b' hb', hv6.trans x46.vw⟩ ?_⟩
        have : shortL n t = L := by unfold shortL; rw [← hfind, h6]; rfl
        rw [this]; exact h4
      · intro S' m5' hown hlt hv hg hj
        exact absurd hj.1 (by intro h; cases h)
  exact hgo (n + 1) 0 m1 (by omega) x01 (b0.ext x1) b1 rfl
end
end Go.Proofs.Ytgkjfhkjgdiodaa

namespace Go.Proofs.Ytgkjfhkjgdiodaa
open _root_.Go.Proofs.Try
open Go.Abs
set_option maxRecDepth 100000
noncomputable section
def minR (a : Int) : List Int → Int
  | [] => a
  | v :: D => minR (if v < a then v else a) D
def maxR (a : Int) : List Int → Int
  | [] => a
  | v :: D => maxR (max a v) D
theorem minR_step {D : List Int} {i : Nat} (hi : i < D.length) (a : Int) : minR a (D.drop i) = minR (if D[i] < a then D[i] else a) (D.drop (i + 1)) := by rw [List.drop_eq_getElem_cons hi]; rfl
theorem maxR_step {D : List Int} {i : Nat} (hi : i < D.length) (a : Int) : maxR a (D.drop i) = maxR (max a D[i]) (D.drop (i + 1)) := by rw [List.drop_eq_getElem_cons hi]; rfl
def loOf : List Int → Int
  | [] => 0
  | v :: D => minR v (v :: D)
def hiOf : List Int → Int
  | [] => 0
  | v :: D => maxR v D
theorem s101 {z : C} {D : List Int} {m : M} {Q : V → M → Prop} (hz : Li m z D) (hD : D.length ≤ 100000) (h : Q (.c (.int .i64 (loOf D))) m) : Wc prog tbl 101 [.c z] m Q := by
  refine w101 ⟨hz.isSl, ?_⟩
  rw [hz.slLen, ifB_dec]
  refine ⟨fun h0 => ?_, fun h0 => ?_⟩
  · have : D = [] := List.eq_nil_of_length_eq_zero (by omega)
    subst this; exact h
  · have h1 : 0 < D.length := by omega
    refine ⟨0, rfl, h1, D[0], Li.rd hz (List.getElem?_eq_getElem h1), hz.isSl, fun R2 hstep => ?_⟩
    have hlo : loOf D = minR D[0] (D.drop 0) := by
      cases D with
      | nil => simp at h1
      | cons v D => rfl
    have hgo : ∀ (d i : Nat) (a : Int), d + i = D.length → minR a (D.drop i) = loOf D → R2 [.c (.int .i64 a), .c (.int .i64 (i : Int))] m := by
      intro d
      induction d with
      | zero =>
        intro i a hd heq
        refine hstep _ _ _ ?_
        rw [ifB_dec]
        refine ⟨fun h1 => by omega, fun _ => ?_⟩
        rw [List.drop_eq_nil_of_le (by omega)] at heq
        rw [← heq] at h
        exact h
      | succ d ih =>
        intro i a hd heq
        refine hstep _ _ _ ?_
        rw [ifB_dec]
        refine ⟨fun _ => ?_, fun h1 => absurd (by omega) h1⟩
        have hi : i < D.length := by omega
        rw [minR_step hi] at heq
        refine ⟨i, rfl, hi, D[i], Li.rd hz (List.getElem?_eq_getElem hi), ?_⟩
        rw [ifB_dec]
        refine ⟨fun h2 => ⟨fits_small (by omega) (by omega), ih (i + 1) _ (by omega) (by rw [if_pos h2] at heq; exact heq)⟩, fun h2 => ⟨fits_small (by omega) (by omega), ih (i + 1) _ (by omega) (by rw [if_neg h2] at heq; exact heq)⟩⟩
    exact hgo D.length 0 D[0] (by omega) hlo.symm
theorem s102 {z : C} {D : List Int} {m : M} {Q : V → M → Prop} (hz : Li m z D) (hD : D.length ≤ 100000) (h1 : 0 < D.length) (h : Q (.c (.int .i64 (hiOf D))) m) : Wc prog tbl 102 [.c z] m Q := by
  refine w102 ⟨hz.isSl, ?_⟩
  rw [hz.slLen, ifB_dec]
  refine ⟨fun h0 => by omega, fun h0 => ?_⟩
  refine ⟨0, rfl, h1, D[0], Li.rd hz (List.getElem?_eq_getElem h1), fun R2 hstep => ?_⟩
  have hlo : hiOf D = maxR D[0] (D.drop 1) := by
    cases D with
    | nil => simp at h1
    | cons v D => rfl
  have hgo : ∀ (d i : Nat) (a : Int), d + i = D.length → maxR a (D.drop i) = hiOf D → R2 [.c (.int .i64 a), .c (.int .i64 (i : Int))] m := by
    intro d
    induction d with
    | zero =>
      intro i a hd heq
      refine hstep _ _ _ ⟨hz.isSl, ?_⟩
      rw [ifB_dec]
      refine ⟨fun h1 => by omega, fun _ => ?_⟩
      rw [List.drop_eq_nil_of_le (by omega)] at heq
      rw [← heq] at h
      exact h
    | succ d ih =>
      intro i a hd heq
      refine hstep _ _ _ ⟨hz.isSl, ?_⟩
      rw [ifB_dec]
      refine ⟨fun _ => ?_, fun h1 => absurd (by omega) h1⟩
      have hi : i < D.length := by omega
      rw [maxR_step hi] at heq
      exact ⟨i, rfl, hi, D[i], Li.rd hz (List.getElem?_eq_getElem hi), fits_small (by omega) (by omega), ih (i + 1) _ (by omega) heq⟩
  exact hgo (D.length - 1) 1 D[0] (by omega) hlo.symm
theorem s100 {r c sm : Int} {x y : C} {L : List Int} {N : List Cnt} {mb : Nat} {f : Spot → Option U} {m : M} {Q : V → M → Prop} (hw : Wk m L N mb f) (hx : Li m x L)
    (h : ∀ m' b b2, Ext m m' → Rd r c sm x y L N mb f false6 b b2 m' → m.nxt ≤ b → m.nxt ≤ b2 → Q (.c (.fn (.func 120) [] [.c (.ptr b 0), .c (.ptr b2 0)])) m') :
    Wc prog tbl 100 [.agg 6 [.int .i64 r, .int .i64 c, x, .int .i64 sm, y, .map mb]] m Q := by
  refine w100 fun m0 e0 => ?_
  obtain ⟨b0, x0⟩ := Bk.new e0
  exact ⟨r, c, x, sm, y, .map mb, b0.ra, s108 (O := false6) (hw.ext x0) (hx.ext x0) rfl fun m' b b2 e hR h1 h2 => ⟨_, rfl, h m' b b2 (x0.trans e) hR (Nat.le_trans x0.nxt h1) (Nat.le_trans x0.nxt h2)⟩⟩
/-- a function value gives a number for each truth -/
def NumOf (r c sm : Int) (x y : C) (mb : Nat) (m : M) (T : List (List Int)) (fnc : C) (num : List Int → Int) : Prop :=
  ∀ m' H, H ∈ T → Ext m m' → ∀ Q : V → M → Prop, (∀ m'', Ext m' m'' → Q (.c (.int .i64 (num H))) m'') → callP prog tbl [.agg 6 [.int .i64 r, .int .i64 c, x, .int .i64 sm, y, .map mb], .agg 9 (ints (pad H))] fnc m' Q
theorem s82 {r c sm : Int} {x y : C} {L : List Int} {N : List Cnt} {mb : Nat} {f : Spot → Option U} {fnc : C} {num : List Int → Int} {m : M} {Q : V → M → Prop} (hw : Wk m L N mb f) (hx : Li m x L) (hf : isField r c L = true)
    (hne : 0 < (truthsP c sm L N).length) (hle : (truthsP c sm L N).length ≤ 100000) (hnum : NumOf r c sm x y mb m (truthsP c sm L N) fnc num)
    (h : ∀ m', Ext m m' → Q (.agg 2 [.int .i64 (loOf ((truthsP c sm L N).map num)), .int .i64 (hiOf ((truthsP c sm L N).map num))]) m') :
    Wc prog tbl 82 [.agg 6 [.int .i64 r, .int .i64 c, x, .int .i64 sm, y, .map mb], .agg 1 [fnc]] m Q := by
  obtain ⟨_, hL9, _⟩ := field_of hf
  refine w82 fun m0 e0 m1 e1 m2 e2 m3 e3 => ?_
  obtain ⟨b0, x0⟩ := Bk.new e0
  obtain ⟨b1, x1⟩ := Bk.new e1
  obtain ⟨b2, x2⟩ := Bk.new e2
  obtain ⟨b3, x3⟩ := Bk.new e3
  have n0 : m0.nxt = m.nxt + 1 := by rw [e0]; rfl
  have n1 : m1.nxt = m.nxt + 2 := by rw [e1]; show m0.nxt + 1 = _; omega
  have n2 : m2.nxt = m.nxt + 3 := by rw [e2]; show m1.nxt + 1 = _; omega
  have n3 : m3.nxt = m.nxt + 4 := by rw [e3]; show m2.nxt + 1 = _; omega
  have x03 := ((x0.trans x1).trans x2).trans x3
  refine ⟨r, c, x, sm, y, .map mb, (((b0.ext x1).ext x2).ext x3).ra, s100 (hw.ext x03) (hx.ext x03) fun mL bb bb2 eL hR hbb hbb2 => ⟨_, rfl, ?_⟩⟩
  have kw := (((b0.ext x1).ext x2).ext x3).ext eL
  have kq := ((b1.ext x2).ext x3).ext eL
  have kr := (b2.ext x3).ext eL
  have kn := b3.ext eL
  have xL := x03.trans eL
  clear e0 e1 e2 e3 b0 b1 b2 b3 x0 x1 x2 x3
  generalize hnb : m2.nxt = nb at n2 kn
  have hnbL := kn.lt
  have hflag : ∀ b', b' = nb → ¬ Ds x mb bb bb2 b' := fun b' hb' hds => by
    rcases ds_old (m := m) hw hx hds with h1 | h1 | h1
    · omega
    · omega
    · omega
  have hlen : (truthsV c sm L N false6).length = (truthsP c sm L N).length := by unfold truthsV truthsP; rw [List.length_map]
  refine range_iter (without_iter hf rfl) hR
    (J := fun i S ma => ∃ s : C, (∀ b', S b' ↔ b' = nb ∨ ∃ o n s' d, s = .sl b' o n s' d) ∧ (∀ b' o n s' d, s = .sl b' o n s' d → mL.nxt ≤ b') ∧ Bk ma nb 1 [s] ∧ Own1 ma 1 s (ints (((truthsP c sm L N).map num).take i)) i ∧ mL.nxt ≤ ma.nxt ∧ ma.vw = mL.vw ∧ ∀ b', b' < mL.nxt → b' ≠ nb → ma.g b' = mL.g b')
    (X := fun _ _ _ => False) (fun i => ⟨fun S ma mb' hj hn hv hg hlow => ?_, fun S ma hj b' hb' => ?_⟩) (fun ex => ⟨fun _ _ _ hj _ _ _ _ => hj, fun _ _ hj => hj.elim⟩) (S0 := fun b' => b' = nb) ?_ (fun b' hb' => hflag b' hb') ?_ ?_ (fun _ _ _ _ _ _ _ hj => hj.elim) (fun _ _ _ _ _ _ hj => hj.elim)
  · obtain ⟨s, q1, q2, q3, q4, q5, q6, q7⟩ := hj
    exact ⟨s, q1, q2, ⟨(hg nb ((q1 nb).2 (.inl rfl))).trans q3.g, Nat.lt_of_lt_of_le q3.lt hn⟩, q4.to hn (fun b' _ hx' => by obtain ⟨s', d, hx'⟩ := hx'; exact hg b' ((q1 b').2 (.inr ⟨_, _, s', d, hx'⟩))), Nat.le_trans q5 hn, hv.trans q6, fun b' hb' hne' => (hlow b' hb').trans (q7 b' hb' hne')⟩
  · obtain ⟨s, q1, q2, q3, q4, q5, q6, q7⟩ := hj
    rcases (q1 b').1 hb' with rfl | ⟨o, n, s', d, hx'⟩
    · exact q3.lt
    · exact q4.lt hx'
  · exact ⟨.sl0, fun b' => ⟨fun h => .inl h, fun h => h.elim id fun ⟨_, _, _, _, h2⟩ => (by cases h2)⟩, fun _ _ _ _ _ h => (by cases h), kn, Own1.nil' _ _, Nat.le_refl _, rfl, fun _ _ _ => rfl⟩
  · intro i xv S ma B' enter K hxv hj hlt hSl hown henter hK
    obtain ⟨s, q1, q2, q3, q4, q5, q6, q7⟩ := hj
    have hxv' := hxv
    unfold truthsV at hxv'
    rw [List.getElem?_map] at hxv'
    cases hH : (exts c sm L N false6 L.length [])[i]? with
    | none => rw [hH] at hxv'; cases hxv'
    | some H =>
    rw [hH] at hxv'
    have hxe : [V.agg 9 (ints (pad H))] = xv := by injection hxv'
    have hmem : H ∈ truthsP c sm L N := List.mem_of_getElem? hH
    have hlenH : H.length = L.length := ((mem_exts hf H L.length 0 [] (by omega) rfl).1 hmem).1
    have hiT : i < (truthsP c sm L N).length := (List.getElem?_eq_some_iff.1 hH).1
    obtain ⟨p0, p1, p2, p3, p4, p5, p6, p7, p8, hp⟩ := nine (pad_len (H := H) (by omega))
    refine ⟨p0, p1, p2, p3, p4, p5, p6, p7, p8, by rw [← hxe, hp]; rfl, fun m26 h26 => ?_⟩
    obtain ⟨b26, x26⟩ := Bk.new h26
    refine ⟨_, b26.st _, ?_⟩
    have k27 := b26.set (ints [p0, p1, p2, p3, p4, p5, p6, p7, p8])
    have e27 : Ext ma (m26.set ma.nxt (.cells 9 (ints [p0, p1, p2, p3, p4, p5, p6, p7, p8]) false)) := x26.setR (Nat.le_refl _) _
    show enter (m26.set ma.nxt (.cells 9 (ints [p0, p1, p2, p3, p4, p5, p6, p7, p8]) false)) _
    generalize m26.set ma.nxt (.cells 9 (ints [p0, p1, p2, p3, p4, p5, p6, p7, p8]) false) = m27 at k27 e27
    refine henter m27 _ (e27.g _ hlt) fun m28 hn28 hv28 hg28 hB28 => ?_
    -- memory, but for the loop's record
    have hsne : ∀ b' o n s' d, s = .sl b' o n s' d → b' ≠ mL.nxt := fun b' o n s' d hs he => hSl ((q1 _).2 (.inr ⟨o, n, s', d, by rw [← he]; exact hs⟩))
    have hold : ∀ b', b' < mL.nxt → b' ≠ nb → m28.g b' = mL.g b' := fun b' hb' hne' => by rw [hg28 b' (by omega), e27.g b' (by omega)]; exact q7 b' hb' hne'
    have hx28 : Ext m m28 := ⟨by rw [hn28]; exact Nat.le_trans xL.nxt (Nat.le_trans q5 e27.nxt), fun b' hb' => by rw [hold b' (Nat.lt_of_lt_of_le hb' xL.nxt) (by omega)]; exact xL.g b' hb', by rw [hv28, e27.vw, q6]; exact xL.vw⟩
    have bk28 : ∀ {b' n : Nat} {vs : List C}, b' ≠ nb → Bk mL b' n vs → Bk m28 b' n vs := fun hne' hb => ⟨(hold _ hb.lt hne').trans hb.g, by rw [hn28]; exact Nat.lt_of_lt_of_le hb.lt (Nat.le_trans q5 e27.nxt)⟩
    have kn28 : Bk m28 nb 1 [s] := ⟨by rw [hg28 nb (by omega), e27.g nb q3.lt]; exact q3.g, by rw [hn28]; exact Nat.lt_of_lt_of_le q3.lt e27.nxt⟩
    have ho28 : Own1 m28 1 s (ints (((truthsP c sm L N).map num).take i)) i := q4.to (by rw [hn28]; exact e27.nxt) fun b' hb' hx' => by
      obtain ⟨s', d, hx'⟩ := hx'
      rw [hg28 b' (hsne b' _ _ _ _ hx')]; exact e27.g b' hb'
    have kh28 : Bk m28 ma.nxt 9 (ints [p0, p1, p2, p3, p4, p5, p6, p7, p8]) := ⟨by rw [hg28 _ (by omega)]; exact k27.g, by rw [hn28]; exact k27.lt⟩
    have hnf : noFnC s = true := ho28.ls.noFn
    refine ⟨s, kn28.rc rfl, trivial, fnc, (bk28 (by omega) kq).rc rfl, r, c, x, sm, y, .map mb, (bk28 (by omega) kw).ra, p0, p1, p2, p3, p4, p5, p6, p7, p8, kh28.ra, ?_⟩
    have hcall := hnum m28 H hmem hx28
    rw [hp] at hcall
    refine hcall _ fun m47 e47 => ⟨_, rfl, ?_, fun m49 h49 => ⟨?_, ?_⟩⟩
    · rw [hnf]; exact (kn28.ext e47).rc rfl
    · obtain ⟨_, x49⟩ := Bk.new h49
      rw [hnf]; exact ((kn28.ext e47).ext x49).rc rfl
    obtain ⟨c50, m51, a1, a2, a3, a4, a4v, a5⟩ := ap_one t22 g3 z3 (by omega) (ho28.ext e47) (ws := [.int .i64 (num H)]) rfl (by omega) h49
    have hsnb : ∀ b' o n s' d, s = .sl b' o n s' d → b' ≠ nb := fun b' o n s' d hs he => by have := q2 b' o n s' d hs; omega
    have kn51 : Bk m51 nb 1 [s] := Bk.keep (kn28.ext e47) a4 a5 hsnb
    have hslB : ∀ b', (∀ o n s' d, s ≠ .sl b' o n s' d) → slB s ≠ some b' := fun b' hb' hsb => by
      cases s with
      | sl b3 o n s' d =>
        cases d with
        | none =>
          have h2 : some b3 = some b' := hsb
          cases h2; exact hb' _ _ _ _ rfl
        | some d => cases hsb
      | _ => cases hsb
    have hL47 : mL.nxt < m47.nxt := Nat.lt_of_lt_of_le (Nat.lt_of_lt_of_le hlt (by rw [hn28]; exact e27.nxt)) e47.nxt
    have ha47 : ma.nxt ≤ m47.nxt := Nat.le_trans (by rw [hn28]; exact e27.nxt) e47.nxt
    have g51 : ∀ b', b' < ma.nxt → (∀ o n s' d, s ≠ .sl b' o n s' d) → b' ≠ mL.nxt → m51.g b' = ma.g b' := fun b' hb' hs hl => by
      rw [a5 b' (by omega) (hslB b' hs), e47.g b' (by rw [hn28]; exact Nat.lt_of_lt_of_le hb' e27.nxt), hg28 b' hl]; exact e27.g b' hb'
    refine ⟨c50, m51, a1, _, kn51.st [c50], hK .nrm (fun b' => b' = nb ∨ ∃ o n s' d, c50 = .sl b' o n s' d) _ (hB28 _ ?_) ?_ ?_ ?_ ?_ ⟨c50, fun b' => Iff.rfl, ?_, kn51.set [c50], ?_, ?_, ?_, ?_⟩⟩
    · rw [M.g_set, if_neg (by omega), a5 _ hL47 (hslB _ fun o n s' d hs => hsne _ o n s' d hs rfl), e47.g _ (by rw [hn28]; exact Nat.lt_of_lt_of_le hlt e27.nxt)]
    · exact Nat.le_trans ha47 a4
    · show m51.vw = ma.vw
      rw [a4v, e47.vw, hv28, e27.vw]
    · intro b' hb' hSb hbl
      rw [M.g_set, if_neg fun h0 => hSb ((q1 b').2 (.inl h0))]
      exact g51 b' hb' (fun o n s' d hs => hSb ((q1 b').2 (.inr ⟨o, n, s', d, hs⟩))) hbl
    · intro b' hb'
      rcases hb' with h0 | ⟨o, n, s', d, hs⟩
      · exact .inl ((q1 b').2 (.inl h0))
      · exact .inr (Nat.le_trans ha47 (a3 b' o n s' d hs))
    · intro b' o n s' d hs
      exact Nat.le_trans (Nat.le_of_lt hL47) (a3 b' o n s' d hs)
    · have h1 : ints (((truthsP c sm L N).map num).take i) ++ [.int .i64 (num H)] = ints (((truthsP c sm L N).map num).take (i + 1)) := by
        rw [List.take_add_one, List.getElem?_map]
        have hHi : (truthsP c sm L N)[i]? = some H := hH
        rw [hHi]
        show _ = ints (_ ++ [num H])
        rw [← ints_app]; rfl
      rw [h1] at a2
      exact a2.to (Nat.le_refl _) fun b' _ hx' => by
        obtain ⟨s', d, hx'⟩ := hx'
        rw [M.g_set, if_neg (by have := a3 b' _ _ _ _ hx'; omega)]
    · exact Nat.le_trans (Nat.le_of_lt hL47) a4
    · show m51.vw = mL.vw
      rw [a4v, e47.vw, hv28, e27.vw, q6]
    · intro b' hb' hne'
      rw [M.g_set, if_neg hne', g51 b' (by omega) (fun o n s' d hs => by have := q2 b' o n s' d hs; omega) (by omega)]
      exact q7 b' hb' hne'
  · intro S' m5 hown hlt hv hg hj
    obtain ⟨s, q1, q2, q3, q4, q5, q6, q7⟩ := hj
    rw [hlen] at q4
    have hT : (((truthsP c sm L N).map num).take (truthsP c sm L N).length) = (truthsP c sm L N).map num := List.take_of_length_le (by rw [List.length_map]; omega)
    rw [hT] at q4
    have hz : Li m5 s ((truthsP c sm L N).map num) := by
      have := q4.ls
      unfold Li
      rw [List.length_map]; exact this
    have kr5 : Bk m5 m1.nxt 2 [.int .i64 0, .int .i64 0] := ⟨(q7 _ kr.lt (by omega)).trans kr.g, Nat.lt_of_lt_of_le kr.lt q5⟩
    have hext : Ext m m5 := ⟨Nat.le_trans xL.nxt q5, fun b' hb' => by rw [q7 b' (Nat.lt_of_lt_of_le hb' xL.nxt) (by omega)]; exact xL.g b' hb', q6.trans xL.vw⟩
    have hlm : ((truthsP c sm L N).map num).length = (truthsP c sm L N).length := List.length_map _
    refine ⟨s, q3.rc rfl, s101 hz (by omega) ⟨_, rfl, s, q3.rc rfl, ?_, s102 hz (by omega) (by omega) ⟨_, rfl, _, kr5.st _, _, _, (kr5.set _).ra, h _ (hext.setR (by omega) _)⟩⟩⟩
    rw [q4.ls.noFn]; exact q3.rc rfl
end
end Go.Proofs.Ytgkjfhkjgdiodaa

namespace Go.Proofs.Ytgkjfhkjgdiodaa
open _root_.Go.Proofs.Try
open Go.Abs
set_option maxRecDepth 100000
noncomputable section
theorem c85 (r c sm a0 a1 a2 a3 a4 a5 a6 a7 a8 : Int) (x y z : C) (k : Nat) {m : M} {Q : V → M → Prop} (h :
 (∀ m0 : M, ((m0 = (M.new m (AO.cells 6 [(C.int .i64 r), (C.int .i64 c), x, (C.int .i64 sm), 
 y, z] false))) → (∀ m1 : M, ((m1 = (M.new m0 (AO.cells 9 [(C.int .i64 a0), (C.int .i64 a1), 
 (C.int .i64 a2), (C.int .i64 a3), (C.int .i64 a4), (C.int .i64 a5), (C.int .i64 a6), 
 (C.int .i64 a7), (C.int .i64 a8)] false))) → (∃ x2 : Int, (((ldC m1 (C.ptr k 0)) = (some (C.int .i64 x2))) ∧ 
 (isPt (C.ptr m0.nxt 0) ∧ (∃ n3 : Nat, ((x2 = ((n3 : Nat) : Int)) ∧ ((n3 < 9) ∧ (∃ x4 : Int, (((ldC m1 (C.ptr m0.nxt (0 + (n3 * 1)))) = (some (C.int .i64 x4))) ∧ 
 (Q (V.c (C.int .i64 x4)) m1)))))))))))))) : Wc prog tbl 85 [.agg 6 [.int .i64 r, .int .i64 c, x, .int .i64 sm, y, z], .agg 9 [.int .i64 a0, .int .i64 a1, .int .i64 a2, .int .i64 a3, .int .i64 a4, .int .i64 a5, .int .i64 a6, .int .i64 a7, .int .i64 a8], .c (.ptr k 0)] m Q :=
 wc_eq (n := 3) rfl (by kernel_rfl) (by kernel_rfl) h
end
end Go.Proofs.Ytgkjfhkjgdiodaa

namespace Go.Proofs.Ytgkjfhkjgdiodaa
open _root_.Go.Proofs.Try
open Go.Abs
set_option maxRecDepth 100000
noncomputable section
theorem w41 {a100 : Int} {a101 : Int} {a102 : C} {a103 : Int} {a104 : C} {m : M} {Q : V → M → Prop} (h :
 (∀ m0 : M, ((m0 = (M.new m (AO.cells 5 [(C.int .i64 a100), (C.int .i64 a101), a102, (C.int .i64 a103), 
 a104] false))) → (∀ m1 : M, ((m1 = (M.new m0 (AO.cells 2 [(C.int .i64 (0 : Int)), (C.int .i64 (0 : Int))] false))) → 
 (∃ x2 : Int, (∃ x3 : Int, (∃ c4 : C, (∃ x5 : Int, (∃ c6 : C, (((ldA m1 (C.ptr m.nxt 0) 5) = (some [(C.int .i64 x2), 
 (C.int .i64 x3), c4, (C.int .i64 x5), c6])) ∧ (Wc prog tbl 81 [(V.agg 5 [(C.int .i64 x2), 
 (C.int .i64 x3), c4, (C.int .i64 x5), c6])] m1 (fun v7 m8 => (∃ x9 : Int, (∃ x10 : Int, 
 (∃ c11 : C, (∃ x12 : Int, (∃ c13 : C, (∃ c14 : C, (∃ x15 : Int, ((v7 = (V.tup [(U.agg 6 [(C.int .i64 x9), 
 (C.int .i64 x10), c11, (C.int .i64 x12), c13, c14]), (U.c (C.int .i64 x15))])) ∧ 
 (∀ m16 : M, ((m16 = (M.new m8 (AO.cells 6 [(C.int .i64 (0 : Int)), (C.int .i64 (0 : Int)), 
 C.sl0, (C.int .i64 (0 : Int)), C.sl0, C.map0] false))) → (∃ m17 : M, (((stC m16 (C.ptr m8.nxt 0) 6 [(C.int .i64 x9), 
 (C.int .i64 x10), c11, (C.int .i64 x12), c13, c14]) = (some m17)) ∧ 
 (ifB (!decide (x15 = (0 : Int))) (∃ m18 : M, (((stC m17 (C.ptr m0.nxt 0) 2 [(C.int .i64 (0 : Int)), 
 (C.int .i64 (0 : Int))]) = (some m18)) ∧ (∃ x19 : Int, (∃ x20 : Int, 
 (((ldA m18 (C.ptr m0.nxt 0) 2) = (some [(C.int .i64 x19), (C.int .i64 x20)])) ∧ 
 (Q (V.tup [(U.agg 2 [(C.int .i64 x19), (C.int .i64 x20)]), (U.c (C.int .i64 x15))]) m18)))))) (∃ x21 : Int, 
 (∃ x22 : Int, (∃ c23 : C, (∃ x24 : Int, (∃ c25 : C, (∃ c26 : C, (((ldA m17 (C.ptr m8.nxt 0) 6) = (some [(C.int .i64 x21), 
 (C.int .i64 x22), c23, (C.int .i64 x24), c25, c26])) ∧ (Wc prog tbl 82 [(V.agg 6 [(C.int .i64 x21), 
 (C.int .i64 x22), c23, (C.int .i64 x24), c25, c26]), (V.agg 1 [(C.fn (Fn.methodOf 114 "hailstone/frame.share") [] [])])] m17 (fun v27 m28 => 
 (∃ x29 : Int, (∃ x30 : Int, ((v27 = (V.agg 2 [(C.int .i64 x29), (C.int .i64 x30)])) ∧ 
 (∃ m31 : M, (((stC m28 (C.ptr m0.nxt 0) 2 [(C.int .i64 x29), (C.int .i64 x30)]) = (some m31)) ∧ 
 (∃ x32 : Int, (∃ x33 : Int, (((ldA m31 (C.ptr m0.nxt 0) 2) = (some [(C.int .i64 x32), 
 (C.int .i64 x33)])) ∧ (Q (V.tup [(U.agg 2 [(C.int .i64 x32), (C.int .i64 x33)]), 
 (U.c (C.int .i64 (0 : Int)))]) m31)))))))))))))))))))))))))))))))))))))))))))) : Wc prog tbl 41 [(V.agg 5 [(C.int .i64 a100), (C.int .i64 a101), a102, (C.int .i64 a103), a104])] m Q :=
 wc_eq (n := 1) rfl (by kernel_rfl) (by kernel_rfl) h
end
end Go.Proofs.Ytgkjfhkjgdiodaa

namespace Go.Proofs.Ytgkjfhkjgdiodaa
open _root_.Go.Proofs.Try
open Go.Abs
set_option maxRecDepth 100000
noncomputable section
theorem truth_of {r c sm : Int} {L H : List Int} {N : List Cnt} (hf : isField r c L = true) (h : H ∈ truthsP c sm L N) : listed L H = true := by
  have := (mem_exts hf H L.length 0 [] (by omega) rfl).1 h
  exact decide_eq_true ⟨this.1, fun i hi => (this.2.2 i (by omega) hi).1⟩
theorem num_share {r c sm : Int} {x y : C} {L : List Int} {N : List Cnt} {mb : Nat} {m : M} (hx : Li m x L) (hf : isField r c L = true) :
    NumOf r c sm x y mb m (truthsP c sm L N) (.fn (.methodOf 114 "hailstone/frame.share") [] []) (shareOf L) := by
  obtain ⟨hS, hL9, hrc⟩ := field_of hf
  intro m' H hH e Q h
  have hl := truth_of hf hH
  show Wc prog tbl 75 [.agg 5 [.int .i64 r, .int .i64 c, x, .int .i64 sm, y], .agg 9 (ints (pad H))] m' Q
  refine s75 (hx.ext e) hS hL9 (pad_len (by have := listed_len hl; omega)) (small_pad (small_listed hS hl)) fun m'' e'' => ?_
  have := h m'' e''
  rw [← shareOf_pad] at this
  exact this
theorem num_hits {r c sm : Int} {x y : C} {L : List Int} {N : List Cnt} {mb k p : Nat} {m : M} (hf : isField r c L = true) (hp : p < L.length) (hk : Bk m k 1 [.int .i64 (p : Int)]) :
    NumOf r c sm x y mb m (truthsP c sm L N) (.fn (.func 85) [] [.c (.ptr k 0)]) (fun H => H[p]!) := by
  obtain ⟨hS, hL9, hrc⟩ := field_of hf
  intro m' H hH e Q h
  have hl := truth_of hf hH
  have hlen := listed_len hl
  have hpl := pad_len (H := H) (by omega)
  obtain ⟨p0, p1, p2, p3, p4, p5, p6, p7, p8, hpe⟩ := nine hpl
  rw [hpe]
  show Wc prog tbl 85 [.agg 6 [.int .i64 r, .int .i64 c, x, .int .i64 sm, y, .map mb], .agg 9 [.int .i64 p0, .int .i64 p1, .int .i64 p2, .int .i64 p3, .int .i64 p4, .int .i64 p5, .int .i64 p6, .int .i64 p7, .int .i64 p8], .c (.ptr k 0)] m' Q
  refine c85 r c sm p0 p1 p2 p3 p4 p5 p6 p7 p8 x y (.map mb) k fun m0 e0 m1 e1 => ?_
  obtain ⟨b0, x0⟩ := Bk.new e0
  obtain ⟨b1', x1⟩ := Bk.new e1
  have b1 : Bk m1 m0.nxt 9 (ints (pad H)) := by rw [hpe]; exact b1'
  refine ⟨_, (((hk.ext e).ext x0).ext x1).rc rfl, trivial, p, rfl, by omega, _, at_rc b1 (by omega), ?_⟩
  rw [at_pad (by omega) (by omega)]
  exact h m1 (x0.trans x1)
theorem rests_len {α : Type} (g : Nat → List α) (B : Nat) (h : ∀ n, (g n).length ≤ B) : ∀ e n, (rests g e n).length ≤ e * B
  | 0, _ => by show 0 ≤ _; omega
  | e + 1, n => by
    show (g n ++ rests g e (n + 1)).length ≤ _
    rw [List.length_append, Nat.succ_mul]
    have := h n
    have := rests_len g B h e (n + 1)
    omega
def prodN : List Int → Nat
  | [] => 1
  | v :: L => (v.toNat + 1) * prodN L
theorem exts_len {c sm : Int} {L : List Int} {N : List Cnt} {O : List Bool} : ∀ (d p : Nat) (pre : List Int), d + p = L.length → pre.length = p → (exts c sm L N O d pre).length ≤ prodN (L.drop p)
  | 0, p, pre, hd, hpre => by
    rw [List.drop_eq_nil_of_le (by omega)]; exact Nat.le_refl _
  | d + 1, p, pre, hd, hpre => by
    have hpL : p < L.length := by omega
    rw [List.drop_eq_getElem_cons hpL]
    show (rests _ (L[pre.length]!.toNat + 1) 0).length ≤ (L[p].toNat + 1) * prodN (L.drop (p + 1))
    rw [hpre, getElem!_pos L p hpL]
    refine rests_len _ _ (fun n => ?_) _ _
    split
    · exact exts_len d (p + 1) _ (by omega) (by simp [hpre])
    · exact Nat.zero_le _
theorem mulL_prod : ∀ (L : List Int) (a : Int), Small L → mulL a L = a * (prodN L : Int)
  | [], a, _ => by show a = a * ((1 : Nat) : Int); omega
  | v :: L, a, h => by
    have hv := h v (List.mem_cons_self ..)
    show mulL (a * (v + 1)) L = a * (((v.toNat + 1) * prodN L : Nat) : Int)
    rw [mulL_prod L _ fun w hw => h w (List.mem_cons_of_mem _ hw), Int.natCast_mul, show ((v.toNat + 1 : Nat) : Int) = v + 1 by omega, Int.mul_assoc]
theorem few_truths {r c sm : Int} {L : List Int} {N : List Cnt} (hv : svErr r c L sm N = 0) : prodN L ≤ 2000 := by
  obtain ⟨hO, _⟩ := okay_of hv
  obtain ⟨hS, _, _⟩ := field_of hO.f
  have hm : mulL 1 L ≤ 2000 := by
    unfold svErr at hv
    rw [if_pos hO.n] at hv
    by_cases hs : isSv r c L sm N = true
    · rw [if_pos hs] at hv
      by_cases hm : mulL 1 L ≤ 2000
      · exact hm
      · rw [if_neg hm] at hv; simp at hv
    · rw [if_neg hs] at hv; simp at hv
  rw [mulL_prod L 1 hS] at hm
  omega
theorem truths_len {r c sm : Int} {L : List Int} {N : List Cnt} (hv : svErr r c L sm N = 0) : (truthsP c sm L N).length ≤ 2000 :=
  Nat.le_trans (exts_len L.length 0 [] (by omega) rfl) (few_truths hv)
theorem true_sv {r c sm : Int} {L : List Int} {N : List Cnt} (h : trueErr r c L sm N = 0) : svErr r c L sm N = 0 ∧ 0 < (truthsP c sm L N).length := by
  unfold trueErr at h
  by_cases hv : svErr r c L sm N = 0
  · rw [if_pos hv] at h
    refine ⟨hv, ?_⟩
    cases ht : truthsP c sm L N with
    | nil => rw [ht] at h; simp at h
    | cons a l => simp
  · rw [if_neg hv] at h; exact absurd h hv
def boundsOf (r c : Int) (L : List Int) (sm : Int) (N : List Cnt) (err : Int) (num : List Int → Int) : Int × Int := if err = 0 then (loOf ((truthsP c sm L N).map num), hiOf ((truthsP c sm L N).map num)) else (0, 0)
/-- Bounds -/
theorem s41 {r c sm : Int} {x y : C} {L : List Int} {N : List Cnt} {m : M} {Q : V → M → Prop} (hx : Li m x L) (hL : L.length ≤ 1048576) (hy : Lc m y N) (hN : N.length ≤ 1000)
    (h : ∀ m', Ext m m' → Q (.tup [.agg 2 [.int .i64 (boundsOf r c L sm N (trueErr r c L sm N) (shareOf L)).1, .int .i64 (boundsOf r c L sm N (trueErr r c L sm N) (shareOf L)).2], .c (.int .i64 (trueErr r c L sm N))]) m') :
    Wc prog tbl 41 [.agg 5 [.int .i64 r, .int .i64 c, x, .int .i64 sm, y]] m Q := by
  refine w41 fun m0 e0 m1 e1 => ?_
  obtain ⟨b0, x0⟩ := Bk.new e0
  obtain ⟨b1, x1⟩ := Bk.new e1
  have x01 := x0.trans x1
  have n0 : m0.nxt = m.nxt + 1 := by rw [e0]; rfl
  refine ⟨r, c, x, sm, y, (b0.ext x1).ra, s81 (hx.ext x01) hL (hy.ext x01) hN (fun hne m8 e8 => ⟨0, 0, .sl0, 0, .sl0, .map0, trueErr r c L sm N, rfl, fun m16 h16 => ?_⟩) fun hz m8 mb f e8 hw => ⟨r, c, x, sm, y, .map mb, 0, rfl, fun m16 h16 => ?_⟩⟩
  · obtain ⟨b16, x16⟩ := Bk.new h16
    have e17 : Ext m8 (m16.set m8.nxt (.cells 6 [.int .i64 0, .int .i64 0, .sl0, .int .i64 0, .sl0, .map0] false)) := x16.setR (Nat.le_refl _) _
    refine ⟨_, b16.st _, ?_⟩
    generalize m16.set m8.nxt (.cells 6 [.int .i64 0, .int .i64 0, .sl0, .int .i64 0, .sl0, .map0] false) = m17 at e17
    rw [ifB_ndec]
    refine ⟨fun _ => ?_, fun h1 => absurd h1 hne⟩
    have k1 := (b1.ext e8).ext e17
    refine ⟨_, k1.st _, 0, 0, (k1.set _).ra, ?_⟩
    have hq := h _ (((x01.trans e8).trans e17).setR (b := m0.nxt) (by omega) (.cells 2 [.int .i64 0, .int .i64 0] false))
    unfold boundsOf at hq
    rw [if_neg hne] at hq
    exact hq
  · obtain ⟨b16, x16⟩ := Bk.new h16
    have k17 := b16.set [.int .i64 r, .int .i64 c, x, .int .i64 sm, y, .map mb]
    have e17 : Ext m8 (m16.set m8.nxt (.cells 6 [.int .i64 r, .int .i64 c, x, .int .i64 sm, y, .map mb] false)) := x16.setR (Nat.le_refl _) _
    refine ⟨_, b16.st _, ?_⟩
    generalize m16.set m8.nxt (.cells 6 [.int .i64 r, .int .i64 c, x, .int .i64 sm, y, .map mb] false) = m17 at e17 k17
    obtain ⟨hv, hpos⟩ := true_sv hz
    obtain ⟨hO, _⟩ := okay_of hv
    have x17 := (x01.trans e8).trans e17
    rw [ifB_ndec]
    refine ⟨fun h1 => absurd rfl h1, fun _ => ⟨r, c, x, sm, y, .map mb, k17.ra, s82 (hw.ext e17) (hx.ext x17) hO.f hpos (by have := truths_len hv; omega) (num_share (hx.ext x17) hO.f) fun m28 e28 => ⟨_, _, rfl, ?_⟩⟩⟩
    have k1 := ((b1.ext e8).ext e17).ext e28
    refine ⟨_, k1.st _, _, _, (k1.set _).ra, ?_⟩
    have hq := h _ ((x17.trans e28).setR (b := m0.nxt) (by omega) (.cells 2 [.int .i64 (loOf ((truthsP c sm L N).map (shareOf L))), .int .i64 (hiOf ((truthsP c sm L N).map (shareOf L)))] false))
    unfold boundsOf at hq
    rw [if_pos hz, hz] at hq
    exact hq
end
end Go.Proofs.Ytgkjfhkjgdiodaa

namespace Go.Proofs.Ytgkjfhkjgdiodaa
open _root_.Go.Proofs.Try
open Go.Abs
set_option maxRecDepth 100000
noncomputable section
def askErr (r c : Int) (L : List Int) (sm : Int) (N : List Cnt) (inr : Bool) : Int := if svErr r c L sm N = 0 then (if inr then trueErr r c L sm N else 2) else svErr r c L sm N
theorem ask_zero {r c sm : Int} {L : List Int} {N : List Cnt} {inr : Bool} (h : askErr r c L sm N inr = 0) : inr = true ∧ trueErr r c L sm N = 0 := by
  unfold askErr at h
  by_cases hv : svErr r c L sm N = 0
  · rw [if_pos hv] at h
    cases inr with
    | true => exact ⟨rfl, h⟩
    | false => simp at h
  · rw [if_neg hv] at h; exact absurd h hv
/-- openAsked -/
theorem s83 {r c sm n : Int} {x y fnc : C} {inr : Bool} {L : List Int} {N : List Cnt} {m : M} {Q : V → M → Prop} (hx : Li m x L) (hL : L.length ≤ 1048576) (hy : Lc m y N) (hN : N.length ≤ 1000)
    (hin : svErr r c L sm N = 0 → ∀ m', Ext m m' → ∀ Q' : V → M → Prop, (∀ m'', Ext m' m'' → Q' (.c (.bool inr)) m'') → callP prog tbl [.c (.int .i64 n)] fnc m' Q')
    (hbad : askErr r c L sm N inr ≠ 0 → ∀ m', Ext m m' → Q (.tup [.agg 6 [.int .i64 0, .int .i64 0, .sl0, .int .i64 0, .sl0, .map0], .c (.int .i64 (askErr r c L sm N inr))]) m')
    (hgood : askErr r c L sm N inr = 0 → ∀ m' mb f, Ext m m' → Wk m' L N mb f → Q (.tup [.agg 6 [.int .i64 r, .int .i64 c, x, .int .i64 sm, y, .map mb], .c (.int .i64 0)]) m') :
    Wc prog tbl 83 [.agg 5 [.int .i64 r, .int .i64 c, x, .int .i64 sm, y], .c (.int .i64 n), .c fnc] m Q := by
  refine w83 fun m0 e0 m1 e1 => ?_
  obtain ⟨b0, x0⟩ := Bk.new e0
  obtain ⟨b1, x1⟩ := Bk.new e1
  have x01 := x0.trans x1
  have n0 : m0.nxt = m.nxt + 1 := by rw [e0]; rfl
  refine ⟨r, c, x, sm, y, (b0.ext x1).ra, s37 (hx.ext x01) hL (hy.ext x01) hN fun m8 e8 => ⟨_, rfl, ?_⟩⟩
  have x8 := x01.trans e8
  have k0 := (b0.ext x1).ext e8
  have k1 := b1.ext e8
  rw [ifB_ndec]
  refine ⟨fun h1 => ?_, fun h1 => ?_⟩
  · have ht : askErr r c L sm N inr = svErr r c L sm N := by unfold askErr; rw [if_neg h1]
    refine ⟨_, k1.st _, 0, 0, .sl0, 0, .sl0, .map0, (k1.set _).ra, ?_⟩
    have hq := hbad (by rw [ht]; exact h1) _ (x8.setR (b := m0.nxt) (by omega) (.cells 6 [.int .i64 0, .int .i64 0, .sl0, .int .i64 0, .sl0, .map0] false))
    rw [ht] at hq
    exact hq
  refine hin h1 m8 x8 _ fun m18 e18 => ⟨_, rfl, ?_⟩
  have x18 := x8.trans e18
  have k1' := k1.ext e18
  rw [ifB_iff]
  refine ⟨fun h2 => ?_, fun h2 => ?_⟩
  · have h3 : inr = false := by simpa using h2
    have ht : askErr r c L sm N inr = 2 := by unfold askErr; rw [if_pos h1, h3]; rfl
    refine ⟨_, k1'.st _, 0, 0, .sl0, 0, .sl0, .map0, (k1'.set _).ra, ?_⟩
    have hq := hbad (by rw [ht]; decide) _ (x18.setR (b := m0.nxt) (by omega) (.cells 6 [.int .i64 0, .int .i64 0, .sl0, .int .i64 0, .sl0, .map0] false))
    rw [ht] at hq
    exact hq
  have h3 : inr = true := by simpa using h2
  have ht : askErr r c L sm N inr = trueErr r c L sm N := by unfold askErr; rw [if_pos h1, h3]; rfl
  refine ⟨r, c, x, sm, y, (k0.ext e18).ra, s81 (hx.ext x18) hL (hy.ext x18) hN (fun hne m33 e33 => ⟨0, 0, .sl0, 0, .sl0, .map0, trueErr r c L sm N, rfl, ?_⟩) fun hz m33 mb f e33 hw => ⟨r, c, x, sm, y, .map mb, 0, rfl, ?_⟩⟩
  · refine ⟨_, (k1'.ext e33).st _, 0, 0, .sl0, 0, .sl0, .map0, ((k1'.ext e33).set _).ra, ?_⟩
    have hq := hbad (by rw [ht]; exact hne) _ ((x18.trans e33).setR (b := m0.nxt) (by omega) (.cells 6 [.int .i64 0, .int .i64 0, .sl0, .int .i64 0, .sl0, .map0] false))
    rw [ht] at hq
    exact hq
  · refine ⟨_, (k1'.ext e33).st _, r, c, x, sm, y, .map mb, ((k1'.ext e33).set _).ra, ?_⟩
    have hne : mb ≠ m0.nxt := fun h3 => by
      obtain ⟨es, clock, hg, _⟩ := hw.mp.ex
      rw [h3, (k1'.ext e33).g] at hg
      cases hg
    exact hgood (by rw [ht]; exact hz) _ mb f ((x18.trans e33).setR (by omega) _) ⟨hw.mp.setNe hne _, hw.st⟩
/-- Hits -/
theorem s42 {r c sm p : Int} {x y : C} {L : List Int} {N : List Cnt} {m : M} {Q : V → M → Prop} (hx : Li m x L) (hL : L.length ≤ 1048576) (hy : Lc m y N) (hN : N.length ≤ 1000)
    (h : ∀ m', Ext m m' → Q (.tup [.agg 2 [.int .i64 (boundsOf r c L sm N (askErr r c L sm N (decide (0 ≤ p ∧ p ≤ r * c - 1))) (fun H => H[p.toNat]!)).1, .int .i64 (boundsOf r c L sm N (askErr r c L sm N (decide (0 ≤ p ∧ p ≤ r * c - 1))) (fun H => H[p.toNat]!)).2], .c (.int .i64 (askErr r c L sm N (decide (0 ≤ p ∧ p ≤ r * c - 1))))]) m') :
    Wc prog tbl 42 [.agg 5 [.int .i64 r, .int .i64 c, x, .int .i64 sm, y], .c (.int .i64 p)] m Q := by
  refine w42 fun m0 e0 m1 e1 m2 e2 => ?_
  obtain ⟨b0, x0⟩ := Bk.new e0
  obtain ⟨b1, x1⟩ := Bk.new e1
  obtain ⟨b2, x2⟩ := Bk.new e2
  have x02 := (x0.trans x1).trans x2
  have n0 : m0.nxt = m.nxt + 1 := by rw [e0]; rfl
  have n1 : m1.nxt = m.nxt + 2 := by rw [e1]; show m0.nxt + 1 = _; omega
  have k0 := (b0.ext x1).ext x2
  have kp := b1.ext x2
  obtain ⟨xc, hxc, hxc'⟩ := keepC hx
  refine ⟨r, c, x, sm, y, k0.ra, p, kp.rc rfl, trivial, r, c, x, k0.rp (k := 0) (j := 3) rfl (by omega), ?_⟩
  have hvw : mapO vW [V.agg 3 [.int .i64 r, .int .i64 c, x]] = some [.agg 3 [.int .i64 r, .int .i64 c, xc]] := by
    show optB (optB (optB (some (C0.int .i64 r)) none fun a => optB (optB (some (C0.int .i64 c)) none fun b => optB (optB (cC0 x) none fun c' => some [c']) none fun l => some (b :: l)) none fun l => some (a :: l)) none fun xs => some (W.agg 3 xs)) none (fun w => some [w]) = _
    rw [hxc]; rfl
  rw [hvw, optB_some]
  refine s83 (inr := decide (0 ≤ p ∧ p ≤ r * c - 1)) (hx.ext x02) hL (hy.ext x02) hN (fun hv m' e' Q' hq' => ?_) (fun hne m14 e14 => ⟨0, 0, .sl0, 0, .sl0, .map0, _, rfl, fun m22 h22 => ?_⟩) fun hz m14 mb f e14 hw => ⟨r, c, x, sm, y, .map mb, 0, rfl, fun m22 h22 => ?_⟩
  · obtain ⟨hO, _⟩ := okay_of hv
    show Wc prog tbl 84 [.agg 3 [.int .i64 r, .int .i64 c, c0C xc], .c (.int .i64 p)] m' Q'
    rw [hxc']
    exact s84 (sides_of hO.f) hq'
  · obtain ⟨b22, x22⟩ := Bk.new h22
    have e23 : Ext m14 (m22.set m14.nxt (.cells 6 [.int .i64 0, .int .i64 0, .sl0, .int .i64 0, .sl0, .map0] false)) := x22.setR (Nat.le_refl _) _
    refine ⟨_, b22.st _, ?_⟩
    generalize m22.set m14.nxt (.cells 6 [.int .i64 0, .int .i64 0, .sl0, .int .i64 0, .sl0, .map0] false) = m23 at e23
    rw [ifB_ndec]
    refine ⟨fun _ => ?_, fun h1 => absurd h1 hne⟩
    have k2 := (b2.ext e14).ext e23
    refine ⟨_, k2.st _, 0, 0, (k2.set _).ra, ?_⟩
    have hq := h _ (((x02.trans e14).trans e23).setR (b := m1.nxt) (by omega) (.cells 2 [.int .i64 0, .int .i64 0] false))
    unfold boundsOf at hq
    rw [if_neg hne] at hq
    exact hq
  · obtain ⟨b22, x22⟩ := Bk.new h22
    have k23 := b22.set [.int .i64 r, .int .i64 c, x, .int .i64 sm, y, .map mb]
    have e23 : Ext m14 (m22.set m14.nxt (.cells 6 [.int .i64 r, .int .i64 c, x, .int .i64 sm, y, .map mb] false)) := x22.setR (Nat.le_refl _) _
    refine ⟨_, b22.st _, ?_⟩
    generalize m22.set m14.nxt (.cells 6 [.int .i64 r, .int .i64 c, x, .int .i64 sm, y, .map mb] false) = m23 at e23 k23
    obtain ⟨hin, ht⟩ := ask_zero hz
    obtain ⟨hv, hpos⟩ := true_sv ht
    obtain ⟨hO, _⟩ := okay_of hv
    obtain ⟨_, _, hrc⟩ := field_of hO.f
    have hpr : 0 ≤ p ∧ p ≤ r * c - 1 := of_decide_eq_true hin
    have x23 := (x02.trans e14).trans e23
    have kp23 : Bk m23 m0.nxt 1 [.int .i64 ((p.toNat : Nat) : Int)] := by
      rw [show ((p.toNat : Nat) : Int) = p by omega]; exact (kp.ext e14).ext e23
    rw [ifB_ndec]
    refine ⟨fun h1 => absurd rfl h1, fun _ => ⟨r, c, x, sm, y, .map mb, k23.ra, s82 (hw.ext e23) (hx.ext x23) hO.f hpos (by have := truths_len hv; omega) (num_hits hO.f (by omega) kp23) fun m34 e34 => ⟨_, _, rfl, ?_⟩⟩⟩
    have k2 := ((b2.ext e14).ext e23).ext e34
    refine ⟨_, k2.st _, _, _, (k2.set _).ra, ?_⟩
    have hq := h _ ((x23.trans e34).setR (b := m1.nxt) (by omega) (.cells 2 [.int .i64 (loOf ((truthsP c sm L N).map fun H => H[p.toNat]!)), .int .i64 (hiOf ((truthsP c sm L N).map fun H => H[p.toNat]!))] false))
    unfold boundsOf at hq
    rw [if_pos hz, hz] at hq
    exact hq
end
end Go.Proofs.Ytgkjfhkjgdiodaa

namespace Go.Proofs.Ytgkjfhkjgdiodaa
open _root_.Go.Proofs.Try
open Go.Abs
set_option maxRecDepth 100000
noncomputable section
def nthL : List Int → Int → List Int
  | [], _ => []
  | v :: L, n => n % (v + 1) :: nthL L (n / (v + 1))
theorem nthL_len : ∀ (L : List Int) (n : Int), (nthL L n).length = L.length
  | [], _ => rfl
  | v :: L, n => by show (nthL L _).length + 1 = _; rw [nthL_len L]; rfl
theorem s67 {r c n : Int} {x : C} {L : List Int} {m : M} {Q : V → M → Prop} (hx : Li m x L) (hS : Small L) (hL : L.length ≤ 1000) (hn : 0 ≤ n ∧ n ≤ 100000) (h : ∀ z m', Ext m m' → Li m' z (nthL L n) → Fr m z → Q (.c z) m') :
    Wc prog tbl 67 [.agg 3 [.int .i64 r, .int .i64 c, x], .c (.int .i64 n)] m Q := by
  refine w67 fun m0 e0 R1 hstep => ?_
  obtain ⟨b0, x0⟩ := Bk.new e0
  have hgo : ∀ (d i : Nat) (s : C) (a : Int) (m5 : M) (A : List Int), d + i = L.length → Own1 m5 1 s (ints A) i → Fr m0 s → Ext m0 m5 → 0 ≤ a ∧ a ≤ 100000 → A ++ nthL (L.drop i) a = nthL L n → R1 [.c s, .c (.int .i64 a), .c (.int .i64 (i : Int))] m5 := by
    intro d
    induction d with
    | zero =>
      intro i s a m5 A hd ho hf he ha heq
      refine hstep _ _ _ _ ⟨trivial, x, (b0.ext he).rc rfl, hx.isSl, ?_⟩
      rw [hx.slLen, ifB_dec]
      refine ⟨fun h1 => by omega, fun _ => ?_⟩
      rw [List.drop_eq_nil_of_le (by omega)] at heq
      have hA : A = nthL L n := by rw [← heq]; exact (List.append_nil A).symm
      refine h s m5 (x0.trans he) ?_ (hf.mono x0.nxt)
      have := ho.ls
      rw [hA] at this
      have hl : i = (nthL L n).length := by rw [nthL_len]; omega
      rw [hl] at this
      exact this
    | succ d ih =>
      intro i s a m5 A hd ho hf he ha heq
      refine hstep _ _ _ _ ⟨trivial, x, (b0.ext he).rc rfl, hx.isSl, ?_⟩
      rw [hx.slLen, ifB_dec]
      refine ⟨fun _ => ?_, fun h1 => absurd (by omega) h1⟩
      have hi : i < L.length := by omega
      have hv := small_at hS hi
      have hxe := (hx.ext x0).ext he
      have hm0 := Int.emod_nonneg a (b := L[i] + 1) (by omega)
      have hm1 := Int.emod_lt_of_pos a (b := L[i] + 1) (by omega)
      have hd0 := Int.ediv_nonneg (a := a) (b := L[i] + 1) ha.1 (by omega)
      have hd1 := Int.ediv_le_self (L[i] + 1) ha.1
      refine ⟨trivial, x, (b0.ext he).rc rfl, i, rfl, by rw [hx.slLen]; exact hi, L[i], Li.rd hxe (List.getElem?_eq_getElem hi), fits_small (by omega) (by omega), ha.1, by omega, fits_small (by omega) (by omega), fun m10 h10 => ?_⟩
      obtain ⟨c11, m12, a1, a2, a3, a4, a5, a6⟩ := ap_step t22 g3 z3 (by omega) ho hf he (ws := [.int .i64 (a % (L[i] + 1))]) rfl (by omega) h10
      refine ⟨c11, m12, a1, trivial, x, (b0.ext a4).rc rfl, i, rfl, by rw [hx.slLen]; exact hi, L[i], Li.rd ((hx.ext x0).ext a4) (List.getElem?_eq_getElem hi), fits_small (by omega) (by omega), ha.1, by omega, fits_small (by omega) (by omega), fits_small (by omega) (by omega), ?_⟩
      refine ih (i + 1) c11 _ m12 (A ++ [a % (L[i] + 1)]) (by omega) (by rw [← ints_app]; exact a2) a3 a4 ⟨hd0, by omega⟩ ?_
      rw [← heq, List.drop_eq_getElem_cons hi, List.append_assoc]; rfl
  exact hgo L.length 0 .sl0 n m0 [] (by omega) (Own1.nil' _ _) (Fr.nil _) (.refl _) hn rfl
theorem many_eq : ∀ {L : List Int} {a : Int}, Small L → 0 ≤ a → mulL a L ≤ 4000 → manyL a L = mulL a L
  | [], a, _, _, _ => rfl
  | v :: L, a, h, ha, h4 => by
    have hv := h v (List.mem_cons_self ..)
    have hL : Small L := fun w hw => h w (List.mem_cons_of_mem _ hw)
    have h1 : 0 ≤ a * (v + 1) := Int.mul_nonneg ha (by omega)
    have h2 : a * (v + 1) ≤ mulL (a * (v + 1)) L := mulL_ge hL h1
    have h3 : mulL (a * (v + 1)) L ≤ 4000 := h4
    show manyL (min 4000 (a * (v + 1))) L = mulL (a * (v + 1)) L
    rw [Int.min_eq_right (by omega)]
    exact many_eq hL h1 h3
theorem many_prod {L : List Int} (hS : Small L) (h : prodN L ≤ 2000) : manyL 1 L = (prodN L : Int) := by
  have h1 := mulL_prod L 1 hS
  rw [many_eq hS (by omega) (by omega), h1]; omega
def trN (p : Int → Bool) : Nat → List Int
  | 0 => []
  | n + 1 => trN p n ++ (if p (n : Int) then [(n : Int)] else [])
theorem mem_trN (p : Int → Bool) (a : Int) : ∀ n : Nat, a ∈ trN p n ↔ 0 ≤ a ∧ a < (n : Int) ∧ p a = true
  | 0 => ⟨fun h => (by cases h), fun h => by omega⟩
  | n + 1 => by
    show a ∈ trN p n ++ _ ↔ _
    rw [List.mem_append, mem_trN p a n]
    constructor
    · rintro (h | h)
      · exact ⟨h.1, by omega, h.2.2⟩
      · by_cases hp : p (n : Int) = true
        · rw [if_pos hp, List.mem_singleton] at h
          rw [h]; exact ⟨by omega, by omega, hp⟩
        · rw [if_neg hp] at h; cases h
    · rintro ⟨h1, h2, h3⟩
      by_cases ha : a = (n : Int)
      · subst ha; rw [if_pos h3]; exact .inr (List.mem_singleton.2 rfl)
      · exact .inl ⟨h1, by omega, h3⟩
theorem allNF {r c sm : Int} {x y : C} (h1 : noFnC x = true) (h2 : noFnC y = true) : allS noFnC [.int .i64 r, .int .i64 c, x, .int .i64 sm, y] = true := by
  show ifB true (ifB true (ifB (noFnC x) (ifB true (ifB (noFnC y) true false) false) false) false) false = true
  rw [h1, h2]; rfl
def truN (c sm : Int) (L : List Int) (N : List Cnt) : List Int := trN (fun n => truthR c sm L N (nthL L n)) (prodN L)
end
end Go.Proofs.Ytgkjfhkjgdiodaa

namespace Go.Proofs.Ytgkjfhkjgdiodaa
open _root_.Go.Proofs.Try
open Go.Abs
set_option maxRecDepth 100000
noncomputable section
def sureErr (r c : Int) (L : List Int) (sm : Int) (N : List Cnt) : Int := if svErr r c L sm N = 0 then (if (truN c sm L N).length = 0 then 9 else 0) else svErr r c L sm N
end
end Go.Proofs.Ytgkjfhkjgdiodaa

namespace Go.Proofs.Ytgkjfhkjgdiodaa
open _root_.Go.Proofs.Try
open Go.Abs
set_option maxRecDepth 100000
noncomputable section
def lst : List Int → List Int → Prop
  | [], [] => True
  | v :: L, w :: H => (0 ≤ w ∧ w ≤ v) ∧ lst L H
  | _, _ => False
theorem lst_iff : ∀ {L H : List Int}, lst L H ↔ H.length = L.length ∧ ∀ i : Nat, i < L.length → 0 ≤ H[i]! ∧ H[i]! ≤ L[i]!
  | [], [] => ⟨fun _ => ⟨rfl, fun i hi => by simp at hi⟩, fun _ => trivial⟩
  | [], w :: H => ⟨fun h => h.elim, fun h => by simp at h⟩
  | v :: L, [] => ⟨fun h => h.elim, fun h => by simp at h⟩
  | v :: L, w :: H => by
    show (0 ≤ w ∧ w ≤ v) ∧ lst L H ↔ _
    rw [lst_iff]
    constructor
    · rintro ⟨h1, h2, h3⟩
      refine ⟨by simp [h2], fun i hi => ?_⟩
      cases i with
      | zero => exact h1
      | succ i => exact h3 i (by simpa using hi)
    · rintro ⟨h2, h3⟩
      exact ⟨h3 0 (by simp), by simpa using h2, fun i hi => h3 (i + 1) (by simpa using hi)⟩
theorem listed_lst {L H : List Int} : listed L H = true ↔ lst L H := by rw [lst_iff]; exact decide_eq_true_iff
theorem nth_surj : ∀ {L H : List Int}, Small L → lst L H → ∃ n : Int, 0 ≤ n ∧ n < (prodN L : Int) ∧ nthL L n = H
  | [], [], _, _ => ⟨0, by omega, by show (0 : Int) < ((1 : Nat) : Int); omega, rfl⟩
  | [], _ :: _, _, h => h.elim
  | _ :: _, [], _, h => h.elim
  | v :: L, w :: H, hS, h => by
    have hv := hS v (List.mem_cons_self ..)
    obtain ⟨hw, hr⟩ : (0 ≤ w ∧ w ≤ v) ∧ lst L H := h
    obtain ⟨n, h0, h1, h2⟩ := nth_surj (fun u hu => hS u (List.mem_cons_of_mem _ hu)) hr
    have hpos : 0 ≤ (v + 1) * n := Int.mul_nonneg (by omega) h0
    have hlt : (v + 1) * (n + 1) ≤ (v + 1) * (prodN L : Int) := Int.mul_le_mul_of_nonneg_left (by omega) (by omega)
    rw [Int.mul_add, Int.mul_one] at hlt
    refine ⟨w + (v + 1) * n, by omega, ?_, ?_⟩
    · show _ < (((v.toNat + 1) * prodN L : Nat) : Int)
      rw [Int.natCast_mul, show ((v.toNat + 1 : Nat) : Int) = v + 1 by omega]; omega
    · show (w + (v + 1) * n) % (v + 1) :: nthL L ((w + (v + 1) * n) / (v + 1)) = w :: H
      rw [Int.add_mul_emod_self_left, Int.emod_eq_of_lt hw.1 (by omega), Int.add_mul_ediv_left _ _ (by omega), Int.ediv_eq_zero_of_lt hw.1 (by omega), Int.zero_add, h2]
theorem mem_truN {c sm : Int} {L : List Int} {N : List Cnt} {a : Int} : a ∈ truN c sm L N ↔ 0 ≤ a ∧ a < (prodN L : Int) ∧ truthR c sm L N (nthL L a) = true := mem_trN _ _ _
theorem truthR_listed {c sm : Int} {L H : List Int} {N : List Cnt} (h : truthR c sm L N H = true) : listed L H = true := by
  by_cases hT : TruthR c sm L N H
  · exact hT.1
  · rw [truthR_false hT] at h; cases h
theorem same_nums {r c sm : Int} {L : List Int} {N : List Cnt} (hv : svErr r c L sm N = 0) (num : List Int → Int) (v : Int) : v ∈ (truN c sm L N).map (fun a => num (nthL L a)) ↔ v ∈ (truthsP c sm L N).map num := by
  obtain ⟨hO, hsm⟩ := okay_of hv
  obtain ⟨hS, _, _⟩ := field_of hO.f
  rw [List.mem_map, List.mem_map]
  constructor
  · rintro ⟨a, h1, h2⟩
    exact ⟨nthL L a, (mem_truths hO hsm.1).2 (mem_truN.1 h1).2.2, h2⟩
  · rintro ⟨H, h1, h2⟩
    have ht := (mem_truths hO hsm.1).1 h1
    obtain ⟨n, q1, q2, q3⟩ := nth_surj hS (listed_lst.1 (truthR_listed ht))
    exact ⟨n, mem_truN.2 ⟨q1, q2, by rw [q3]; exact ht⟩, by rw [q3]; exact h2⟩
theorem sure_true {r c sm : Int} {L : List Int} {N : List Cnt} : sureErr r c L sm N = trueErr r c L sm N := by
  unfold sureErr trueErr
  by_cases hv : svErr r c L sm N = 0
  · rw [if_pos hv, if_pos hv]
    have hs := same_nums hv (fun _ => 0) 0
    cases h1 : truN c sm L N with
    | nil =>
      cases h2 : truthsP c sm L N with
      | nil => rfl
      | cons H T => rw [h1, h2] at hs; simp at hs
    | cons a A =>
      cases h2 : truthsP c sm L N with
      | nil => rw [h1, h2] at hs; simp at hs
      | cons H T => rfl
  · rw [if_neg hv, if_neg hv]
theorem minR_spec : ∀ (D : List Int) (a : Int), (minR a D = a ∨ minR a D ∈ D) ∧ minR a D ≤ a ∧ ∀ v ∈ D, minR a D ≤ v
  | [], a => ⟨.inl rfl, Int.le_refl _, fun v hv => by cases hv⟩
  | u :: D, a => by
    obtain ⟨h1, h2, h3⟩ := minR_spec D (if u < a then u else a)
    show (minR (if u < a then u else a) D = a ∨ minR (if u < a then u else a) D ∈ u :: D) ∧ minR (if u < a then u else a) D ≤ a ∧ ∀ v ∈ u :: D, minR (if u < a then u else a) D ≤ v
    generalize minR (if u < a then u else a) D = w at h1 h2 h3
    refine ⟨?_, ?_, fun v hv => ?_⟩
    · rcases h1 with h1 | h1
      · split at h1
        · exact .inr (by rw [h1]; exact List.mem_cons_self ..)
        · exact .inl h1
      · exact .inr (List.mem_cons_of_mem _ h1)
    · split at h2 <;> omega
    · rcases List.mem_cons.1 hv with rfl | h4
      · split at h2 <;> omega
      · exact h3 v h4
theorem maxR_spec : ∀ (D : List Int) (a : Int), (maxR a D = a ∨ maxR a D ∈ D) ∧ a ≤ maxR a D ∧ ∀ v ∈ D, v ≤ maxR a D
  | [], a => ⟨.inl rfl, Int.le_refl _, fun v hv => by cases hv⟩
  | u :: D, a => by
    obtain ⟨h1, h2, h3⟩ := maxR_spec D (max a u)
    show (maxR (max a u) D = a ∨ maxR (max a u) D ∈ u :: D) ∧ a ≤ maxR (max a u) D ∧ ∀ v ∈ u :: D, v ≤ maxR (max a u) D
    generalize maxR (max a u) D = w at h1 h2 h3
    refine ⟨?_, by omega, fun v hv => ?_⟩
    · rcases h1 with h1 | h1
      · rcases (by omega : max a u = a ∨ max a u = u) with h4 | h4
        · exact .inl (by rw [h1, h4])
        · exact .inr (by rw [h1, h4]; exact List.mem_cons_self ..)
      · exact .inr (List.mem_cons_of_mem _ h1)
    · rcases List.mem_cons.1 hv with rfl | h4
      · omega
      · exact h3 v h4
theorem lo_spec {D : List Int} (h : 0 < D.length) : loOf D ∈ D ∧ ∀ v ∈ D, loOf D ≤ v := by
  cases D with
  | nil => simp at h
  | cons u D =>
    obtain ⟨h1, h2, h3⟩ := minR_spec (u :: D) u
    exact ⟨h1.elim (fun h4 => by show minR u (u :: D) ∈ _; rw [h4]; exact List.mem_cons_self ..) id, h3⟩
theorem hi_spec {D : List Int} (h : 0 < D.length) : hiOf D ∈ D ∧ ∀ v ∈ D, v ≤ hiOf D := by
  cases D with
  | nil => simp at h
  | cons u D =>
    obtain ⟨h1, h2, h3⟩ := maxR_spec D u
    refine ⟨h1.elim (fun h4 => by show maxR u D ∈ _; rw [h4]; exact List.mem_cons_self ..) fun h4 => List.mem_cons_of_mem _ h4, fun v hv => ?_⟩
    rcases List.mem_cons.1 hv with rfl | h5
    · exact h2
    · exact h3 v h5
end
end Go.Proofs.Ytgkjfhkjgdiodaa

namespace Go.Proofs.Ytgkjfhkjgdiodaa
open _root_.Go.Proofs.Try
open Go.Abs
set_option maxRecDepth 100000
noncomputable section
/-- an increasing list of numbers from fr on, below n -/
def Inc (n fr : Nat) (T : List Int) : Prop := T.Pairwise (· < ·) ∧ ∀ v ∈ T, (fr : Int) ≤ v ∧ v < n
theorem Inc.cons {n fr : Nat} {x : Int} {T : List Int} : Inc n fr (x :: T) ↔ ((fr : Int) ≤ x ∧ x < n) ∧ Inc n (x + 1).toNat T := by
  unfold Inc
  rw [List.pairwise_cons]
  constructor
  · rintro ⟨⟨h1, h2⟩, h3⟩
    have hx := h3 x (List.mem_cons_self ..)
    exact ⟨hx, h2, fun v hv => by have := h1 v hv; have := h3 v (List.mem_cons_of_mem _ hv); omega⟩
  · rintro ⟨hx, h2, h3⟩
    refine ⟨⟨fun v hv => by have := h3 v hv; omega, h2⟩, fun v hv => ?_⟩
    rcases List.mem_cons.1 hv with rfl | hv
    · exact hx
    · have := h3 v hv; omega
theorem mem_combs {n : Nat} {D : List Int} : ∀ {d : Nat} {pre : List Int} {fr : Nat}, D ∈ combs n d pre fr ↔ ∃ T, D = pre ++ T ∧ T.length = d ∧ Inc n fr T
  | 0, pre, fr => by
    show D ∈ [pre] ↔ _
    rw [List.mem_singleton]
    constructor
    · rintro rfl; exact ⟨[], by simp, rfl, .nil, fun v hv => by cases hv⟩
    · rintro ⟨T, h1, h2, _⟩
      rw [List.eq_nil_of_length_eq_zero h2, List.append_nil] at h1; exact h1
  | d + 1, pre, fr => by
    show D ∈ rests (fun x => combs n d (pre ++ [(x : Int)]) (x + 1)) (n - fr) fr ↔ _
    rw [mem_rests]
    constructor
    · rintro ⟨x, h1, h2, h3⟩
      obtain ⟨T, h4, h5, h6⟩ := mem_combs.1 h3
      refine ⟨(x : Int) :: T, by rw [h4]; simp, by simp [h5], Inc.cons.2 ⟨by omega, ?_⟩⟩
      rw [show ((x : Int) + 1).toNat = x + 1 by omega]; exact h6
    · rintro ⟨T, h1, h2, h3⟩
      cases T with
      | nil => simp at h2
      | cons v T =>
        obtain ⟨h4, h5⟩ := Inc.cons.1 h3
        refine ⟨v.toNat, by omega, by omega, mem_combs.2 ⟨T, ?_, by simpa using h2, ?_⟩⟩
        · rw [show ((v.toNat : Nat) : Int) = v by omega, h1]; simp
        · rw [show v.toNat + 1 = (v + 1).toNat by omega]; exact h5
theorem inc_len {n : Nat} : ∀ {T : List Int} {fr : Nat}, Inc n fr T → T.length ≤ n - fr
  | [], _, _ => Nat.zero_le _
  | v :: T, fr, h => by
    obtain ⟨h1, h2⟩ := Inc.cons.1 h
    have := inc_len h2
    simp only [List.length_cons]
    omega
theorem mem_allL {n : Nat} {D : List Int} : D ∈ allL n ↔ Inc n 0 D := by
  unfold allL
  rw [mem_rests]
  constructor
  · rintro ⟨s, _, _, h⟩
    obtain ⟨T, h1, _, h2⟩ := mem_combs.1 h
    rw [h1]; exact h2
  · intro h
    have := inc_len h
    exact ⟨D.length, Nat.zero_le _, by omega, mem_combs.2 ⟨D, rfl, rfl, h⟩⟩
/-- the counts of a list can be left out -/
def leaveB (c sm : Int) (L : List Int) (N : List Cnt) (D : List Int) : Bool := !(truthsV c sm L N (marksL false6 D)).isEmpty
def leaveL (r c sm : Int) (L : List Int) (N : List Cnt) : List Int := if svErr r c L sm N = 0 then shortL N.length (leaveB c sm L N) else []
/-- Leave -/
theorem s52 {r c sm : Int} {x y : C} {L : List Int} {N : List Cnt} {m : M} {Q : V → M → Prop} (hx : Li m x L) (hL : L.length ≤ 1048576) (hy : Lc m y N) (hN : N.length ≤ 1000)
    (h : ∀ z m', Ext m m' → Li m' z (leaveL r c sm L N) → Q (.tup [.c z, .c (.int .i64 (svErr r c L sm N))]) m') : Wc prog tbl 52 [.agg 5 [.int .i64 r, .int .i64 c, x, .int .i64 sm, y]] m Q := by
  refine w52 fun m0 e0 => ?_
  obtain ⟨b0, x0⟩ := Bk.new e0
  refine ⟨r, c, x, sm, y, b0.ra, s37 (hx.ext x0) hL (hy.ext x0) hN fun m7 e7 => ⟨_, rfl, ?_⟩⟩
  have x7 := x0.trans e7
  have b7 := b0.ext e7
  rw [ifB_ndec]
  refine ⟨fun h1 => ?_, fun h1 => ?_⟩
  · refine h _ _ x7 ?_
    unfold leaveL
    rw [if_neg h1]
    exact Ls.nil m7 1
  obtain ⟨hO, hsm⟩ := okay_of h1
  have hN6 := hO.n
  refine ⟨trivial, y, b7.rc rfl, hy.isSl, r, c, x, sm, y, b7.ra, s76 (hx.ext x7) (hy.ext x7) hO fun m16 mb f e16 hmp hms => ⟨r, c, x, sm, y, .map mb, rfl, ⟨hy.isSl, rfl⟩, ?_, ?_⟩⟩
  · rw [hy.noFn]; exact (b7.ext e16).rc rfl
  obtain ⟨xc, hxc, hxc'⟩ := keepC hx
  obtain ⟨yc, hyc, hyc'⟩ := keepC hy
  have hvw : mapO vW [V.agg 6 [C.int .i64 r, .int .i64 c, x, .int .i64 sm, y, .map mb]] = some [.agg 6 [.int .i64 r, .int .i64 c, xc, .int .i64 sm, yc, .map mb]] := by
    show optB (optB (optB (some (C0.int .i64 r)) none fun a => optB (optB (some (C0.int .i64 c)) none fun b => optB (optB (cC0 x) none fun c' => optB (optB (some (C0.int .i64 sm)) none fun d => optB (optB (cC0 y) none fun e => optB (optB (some (C0.map mb)) none fun g => some [g]) none fun l => some (e :: l)) none fun l => some (d :: l)) none fun l => some (c' :: l)) none fun l => some (b :: l)) none fun l => some (a :: l)) none fun xs => some (W.agg 6 xs)) none (fun w => some [w]) = _
    rw [hxc, hyc]; rfl
  rw [hvw, optB_some, hy.slLen]
  have x16 := x7.trans e16
  refine s87 (t := leaveB c sm L N) (by omega) (fun m' z D e hz hD Q' hq => ?_) fun z m25 e25 hz => ⟨z, rfl, ?_⟩
  · have hi := mem_allL.1 hD
    have hl := inc_len hi
    show Wc prog tbl 91 [.agg 6 [.int .i64 r, .int .i64 c, c0C xc, .int .i64 sm, c0C yc, .map mb], .c z] m' Q'
    rw [hxc', hyc']
    exact s91 (f := f) ⟨hmp.ext e, hms⟩ (hx.ext (x16.trans e)) hO.f hz (by omega) (fun v hv => by have := hi.2 v hv; omega) fun m'' e'' => hq m'' e''
  · have hq := h z m25 (x16.trans e25) (by unfold leaveL; rw [if_pos h1]; exact hz)
    rw [h1] at hq
    exact hq
end
end Go.Proofs.Ytgkjfhkjgdiodaa

namespace Go.Proofs.Ytgkjfhkjgdiodaa
open _root_.Go.Proofs.Try
open Go.Abs
set_option maxRecDepth 100000
noncomputable section
theorem s86 {n : Int} {m : M} {Q : V → M → Prop} (h : ∀ m', Ext m m' → Q (.c (.bool (decide (0 ≤ n ∧ n ≤ 100)))) m') : Wc prog tbl 86 [.c (.int .i64 n)] m Q :=
  w86 (s92 fun m' e => ⟨_, rfl, h m' e⟩)
theorem s58 {r c sm : Int} {x y : C} {L : List Int} {N : List Cnt} {m : M} {Q : V → M → Prop} (hx : Li m x L) (hy : Lc m y N)
    (h : ∀ m', Ext m m' → Q (.c (.bool (decide (svErr r c L sm N = 0)))) m') : Wc prog tbl 58 [.agg 5 [.int .i64 r, .int .i64 c, x, .int .i64 sm, y]] m Q := by
  refine w58 fun m0 e0 => ?_
  obtain ⟨b0, x0⟩ := Bk.new e0
  refine ⟨r, c, x, sm, y, b0.ra, s19 (hx.ext x0) (hy.ext x0) fun m7 e7 => ⟨_, rfl, ?_⟩⟩
  rw [ifB_dec]
  refine ⟨fun h1 => ⟨r, c, x, sm, y, (b0.ext e7).ra, s36 (hx.ext (x0.trans e7)) (by omega) (hy.ext (x0.trans e7)) (by omega) fun m15 e15 => ⟨_, rfl, h m15 ((x0.trans e7).trans e15)⟩⟩, fun h1 => ?_⟩
  have hq := h m7 (x0.trans e7)
  rw [decide_eq_false fun hv => h1 ?_] at hq
  · exact hq
  · obtain ⟨hO, _⟩ := okay_of hv
    obtain ⟨_, h9, _⟩ := field_of hO.f
    have := hO.n
    exact ⟨by omega, by omega⟩
theorem s68 {r c sm : Int} {x y : C} {L : List Int} {N : List Cnt} {m : M} {Q : V → M → Prop} (hx : Li m x L) (hy : Lc m y N) (hv : svErr r c L sm N = 0)
    (h : ∀ m', Ext m m' → Q (.c (.bool (decide (0 < (truN c sm L N).length)))) m') : Wc prog tbl 68 [.agg 5 [.int .i64 r, .int .i64 c, x, .int .i64 sm, y], .c (.int .i64 0)] m Q := by
  obtain ⟨hO, hsm⟩ := okay_of hv
  obtain ⟨hS, hL, hrc⟩ := field_of hO.f
  have hP := few_truths hv
  refine w68 fun m0 e0 R1 hstep => ?_
  obtain ⟨b0, x0⟩ := Bk.new e0
  have hgo : ∀ (d i : Nat) (b : Bool) (m4 : M), d + i = prodN L → trN (fun n => truthR c sm L N (nthL L n)) i = [] → Ext m0 m4 → R1 [.c (.bool b), .c (.int .i64 (i : Int))] m4 := by
    intro d
    induction d with
    | zero =>
      intro i b m4 hd hnil he
      have hi : i = prodN L := by omega
      subst hi
      refine hstep _ _ _ ⟨trivial, r, c, x, (b0.ext he).rp (k := 0) (j := 3) rfl (by omega), s60 ((hx.ext x0).ext he) hS (by omega) fun m9 e9 => ⟨_, rfl, ?_⟩⟩
      rw [many_prod hS hP, ifB_dec]
      refine ⟨fun h1 => by omega, fun _ => ?_⟩
      have hq := h m9 ((x0.trans he).trans e9)
      rw [show truN c sm L N = [] from hnil] at hq
      exact hq
    | succ d ih =>
      intro i b m4 hd hnil he
      refine hstep _ _ _ ⟨trivial, r, c, x, (b0.ext he).rp (k := 0) (j := 3) rfl (by omega), s60 ((hx.ext x0).ext he) hS (by omega) fun m9 e9 => ⟨_, rfl, ?_⟩⟩
      rw [many_prod hS hP, ifB_dec]
      refine ⟨fun _ => ?_, fun h1 => absurd (by omega) h1⟩
      have he9 := he.trans e9
      refine ⟨r, c, x, sm, y, (b0.ext he9).ra, trivial, r, c, x, (b0.ext he9).rp (k := 0) (j := 3) rfl (by omega), s67 ((hx.ext x0).ext he9) hS (by omega) ⟨by omega, by omega⟩ fun z m20 e20 hz _ => ⟨z, rfl, ?_, ?_⟩⟩
      · rw [allNF hx.noFn hy.noFn]; exact (b0.ext (he9.trans e20)).ra
      have he20 := he9.trans e20
      refine s38 ((hx.ext x0).ext he20) ((hy.ext x0).ext he20) hO hsm hz (by rw [nthL_len]; omega) fun m23 e23 => ⟨_, rfl, ?_⟩
      have he23 := he20.trans e23
      cases hb : truthR c sm L N (nthL L (i : Int)) with
      | true =>
        have hq := h m23 (x0.trans he23)
        have hmem : (i : Int) ∈ truN c sm L N := mem_truN.2 ⟨by omega, by omega, hb⟩
        rw [decide_eq_true (List.length_pos_of_mem hmem)] at hq
        exact hq
      | false =>
        refine ⟨fits_small (by omega) (by omega), ih (i + 1) b m23 (by omega) ?_ he23⟩
        show trN (fun n => truthR c sm L N (nthL L n)) i ++ (if truthR c sm L N (nthL L (i : Int)) = true then [(i : Int)] else []) = []
        rw [hnil, hb]; rfl
  exact hgo (prodN L) 0 false m0 (by omega) rfl (.refl _)
theorem s62 {r c sm : Int} {x y : C} {L : List Int} {N : List Cnt} {m : M} {Q : V → M → Prop} (hx : Li m x L) (hy : Lc m y N)
    (h : ∀ m', Ext m m' → Q (.c (.bool (decide (trueErr r c L sm N = 0)))) m') : Wc prog tbl 62 [.agg 5 [.int .i64 r, .int .i64 c, x, .int .i64 sm, y]] m Q := by
  refine w62 fun m0 e0 => ?_
  obtain ⟨b0, x0⟩ := Bk.new e0
  refine ⟨r, c, x, sm, y, b0.ra, s58 (hx.ext x0) (hy.ext x0) fun m7 e7 => ⟨_, rfl, ?_⟩⟩
  have x7 := x0.trans e7
  rw [ifB_dec]
  refine ⟨fun hv => ⟨r, c, x, sm, y, (b0.ext e7).ra, s68 (hx.ext x7) (hy.ext x7) hv fun m15 e15 => ⟨_, rfl, ?_⟩⟩, fun hv => ?_⟩
  · have hq := h m15 (x7.trans e15)
    have : decide (trueErr r c L sm N = 0) = decide (0 < (truN c sm L N).length) := by
      rw [← sure_true]
      unfold sureErr
      rw [if_pos hv]
      refine decide_eq_decide.2 ⟨fun h1 => ?_, fun h1 => by rw [if_neg (by omega)]⟩
      by_cases h2 : (truN c sm L N).length = 0
      · rw [if_pos h2] at h1; simp at h1
      · omega
    rw [this] at hq
    exact hq
  · have hq := h m7 x7
    rw [decide_eq_false fun ht => hv (true_sv ht).1] at hq
    exact hq
end
end Go.Proofs.Ytgkjfhkjgdiodaa

namespace Go.Proofs.Ytgkjfhkjgdiodaa
open _root_.Go.Proofs.Try
open Go.Abs
set_option maxRecDepth 100000
noncomputable section
/-- a law's call of Bounds, and the block that takes what it returns -/
theorem cBounds {r c sm : Int} {x y : C} {L : List Int} {N : List Cnt} {a : Nat} {m : M} {R : Int → Int → Int → M → M → Prop} (hx : Li m x L) (hL : L.length ≤ 1000) (hy : Lc m y N) (hN : N.length ≤ 1000) (ka : Bk m a 5 [.int .i64 r, .int .i64 c, x, .int .i64 sm, y])
    (h : ∀ m1 m2, Ext m m1 → Ext m1 m2 → Bk m2 m1.nxt 2 [.int .i64 (boundsOf r c L sm N (trueErr r c L sm N) (shareOf L)).1, .int .i64 (boundsOf r c L sm N (trueErr r c L sm N) (shareOf L)).2] → R (boundsOf r c L sm N (trueErr r c L sm N) (shareOf L)).1 (boundsOf r c L sm N (trueErr r c L sm N) (shareOf L)).2 (trueErr r c L sm N) m1 m2) :
    ∃ x1 x2 : Int, ∃ c3 : C, ∃ x4 : Int, ∃ c5 : C, ldA m (C.ptr a 0) 5 = some [C.int .i64 x1, C.int .i64 x2, c3, C.int .i64 x4, c5] ∧ Wc prog tbl 33 [V.agg 5 [C.int .i64 x1, C.int .i64 x2, c3, C.int .i64 x4, c5]] m fun v6 m7 => ∃ x8 x9 : Int, ∃ c10 : C, ∃ x11 : Int, ∃ c12 : C, v6 = V.agg 5 [C.int .i64 x8, C.int .i64 x9, c10, C.int .i64 x11, c12] ∧
      Wc prog tbl 41 [V.agg 5 [C.int .i64 x8, C.int .i64 x9, c10, C.int .i64 x11, c12]] m7 fun v13 m14 => ∃ x15 x16 x17 : Int, v13 = V.tup [U.agg 2 [C.int .i64 x15, C.int .i64 x16], U.c (C.int .i64 x17)] ∧ ∀ m18 : M, m18 = M.new m14 (AO.cells 2 [C.int .i64 0, C.int .i64 0] false) → ∃ m19 : M, stC m18 (C.ptr m14.nxt 0) 2 [C.int .i64 x15, C.int .i64 x16] = some m19 ∧ R x15 x16 x17 m14 m19 := by
  refine ⟨r, c, x, sm, y, ka.ra, s33 hx (by omega) hy (by omega) fun xa ya m7 e7 hxa hya => ⟨r, c, xa, sm, ya, rfl, s41 hxa (by omega) hya (by omega) fun m14 e14 => ⟨_, _, _, rfl, fun m18 h18 => ?_⟩⟩⟩
  obtain ⟨b18, x18⟩ := Bk.new h18
  exact ⟨_, b18.st _, h m14 _ (e7.trans e14) (x18.setR (Nat.le_refl _) _) (b18.set _)⟩
theorem cHits {r c sm p : Int} {x y : C} {L : List Int} {N : List Cnt} {a : Nat} {m : M} {R : Int → Int → Int → M → M → Prop} (hx : Li m x L) (hL : L.length ≤ 1000) (hy : Lc m y N) (hN : N.length ≤ 1000) (ka : Bk m a 5 [.int .i64 r, .int .i64 c, x, .int .i64 sm, y])
    (h : ∀ m1 m2, Ext m m1 → Ext m1 m2 → Bk m2 m1.nxt 2 [.int .i64 (boundsOf r c L sm N (askErr r c L sm N (decide (0 ≤ p ∧ p ≤ r * c - 1))) (fun H => H[p.toNat]!)).1, .int .i64 (boundsOf r c L sm N (askErr r c L sm N (decide (0 ≤ p ∧ p ≤ r * c - 1))) (fun H => H[p.toNat]!)).2] → R (boundsOf r c L sm N (askErr r c L sm N (decide (0 ≤ p ∧ p ≤ r * c - 1))) (fun H => H[p.toNat]!)).1 (boundsOf r c L sm N (askErr r c L sm N (decide (0 ≤ p ∧ p ≤ r * c - 1))) (fun H => H[p.toNat]!)).2 (askErr r c L sm N (decide (0 ≤ p ∧ p ≤ r * c - 1))) m1 m2) :
    ∃ x1 x2 : Int, ∃ c3 : C, ∃ x4 : Int, ∃ c5 : C, ldA m (C.ptr a 0) 5 = some [C.int .i64 x1, C.int .i64 x2, c3, C.int .i64 x4, c5] ∧ Wc prog tbl 33 [V.agg 5 [C.int .i64 x1, C.int .i64 x2, c3, C.int .i64 x4, c5]] m fun v6 m7 => ∃ x8 x9 : Int, ∃ c10 : C, ∃ x11 : Int, ∃ c12 : C, v6 = V.agg 5 [C.int .i64 x8, C.int .i64 x9, c10, C.int .i64 x11, c12] ∧
      Wc prog tbl 42 [V.agg 5 [C.int .i64 x8, C.int .i64 x9, c10, C.int .i64 x11, c12], V.c (C.int .i64 p)] m7 fun v13 m14 => ∃ x15 x16 x17 : Int, v13 = V.tup [U.agg 2 [C.int .i64 x15, C.int .i64 x16], U.c (C.int .i64 x17)] ∧ ∀ m18 : M, m18 = M.new m14 (AO.cells 2 [C.int .i64 0, C.int .i64 0] false) → ∃ m19 : M, stC m18 (C.ptr m14.nxt 0) 2 [C.int .i64 x15, C.int .i64 x16] = some m19 ∧ R x15 x16 x17 m14 m19 := by
  refine ⟨r, c, x, sm, y, ka.ra, s33 hx (by omega) hy (by omega) fun xa ya m7 e7 hxa hya => ⟨r, c, xa, sm, ya, rfl, s42 hxa (by omega) hya (by omega) fun m14 e14 => ⟨_, _, _, rfl, fun m18 h18 => ?_⟩⟩⟩
  obtain ⟨b18, x18⟩ := Bk.new h18
  exact ⟨_, b18.st _, h m14 _ (e7.trans e14) (x18.setR (Nat.le_refl _) _) (b18.set _)⟩
end
end Go.Proofs.Ytgkjfhkjgdiodaa

namespace Go.Proofs.Ytgkjfhkjgdiodaa
open _root_.Go.Proofs.Try
open Go.Abs
set_option maxRecDepth 100000
noncomputable section
theorem truthR_iff {c sm : Int} {L H : List Int} {N : List Cnt} : truthR c sm L N H = true ↔ TruthR c sm L N H :=
  ⟨fun h => by
    by_cases hT : TruthR c sm L N H
    · exact hT
    · rw [truthR_false hT] at h; exact absurd h (by decide), truthR_true⟩
theorem sv_ok {r c sm : Int} {L : List Int} {N : List Cnt} (hO : Okay r c L N) (hsm : 0 ≤ sm ∧ sm ≤ 9) (hP : prodN L ≤ 2000) : svErr r c L sm N = 0 := by
  obtain ⟨hS, _, _⟩ := field_of hO.f
  unfold svErr
  rw [if_pos hO.n, if_pos (show isSv r c L sm N = true from by unfold isSv; rw [hO.f, decide_eq_true hsm, decide_eq_true hO.v]; rfl), if_pos (by rw [mulL_prod L 1 hS]; omega)]
theorem mem_P {r c sm : Int} {L H : List Int} {N : List Cnt} (hv : svErr r c L sm N = 0) : H ∈ truthsP c sm L N ↔ TruthR c sm L N H := by
  obtain ⟨hO, hsm⟩ := okay_of hv
  rw [← truthR_iff]
  exact mem_truths hO hsm.1
theorem true_ex {r c sm : Int} {L : List Int} {N : List Cnt} (hv : svErr r c L sm N = 0) : trueErr r c L sm N = 0 ↔ ∃ H, TruthR c sm L N H := by
  constructor
  · intro h
    obtain ⟨_, hp⟩ := true_sv h
    exact ⟨_, (mem_P hv).1 (List.getElem_mem hp)⟩
  · rintro ⟨H, h⟩
    have := (mem_P hv).2 h
    unfold trueErr
    rw [if_pos hv]
    cases ht : truthsP c sm L N with
    | nil => rw [ht] at this; cases this
    | cons a l => rfl
theorem lo_mono {D E : List Int} (hD : 0 < D.length) (h : ∀ v ∈ D, v ∈ E) : loOf E ≤ loOf D ∧ hiOf D ≤ hiOf E := by
  have hE : 0 < E.length := List.length_pos_of_mem (h _ (lo_spec hD).1)
  exact ⟨(lo_spec hE).2 _ (h _ (lo_spec hD).1), (hi_spec hE).2 _ (h _ (hi_spec hD).1)⟩
theorem bd_mono {r c sm r' c' sm' : Int} {L L' : List Int} {N N' : List Cnt} (hv : svErr r c L sm N = 0) (hv' : svErr r' c' L' sm' N' = 0) (ht : trueErr r c L sm N = 0) (num num' : List Int → Int)
    (h : ∀ H, TruthR c sm L N H → ∃ H', TruthR c' sm' L' N' H' ∧ num' H' = num H) :
    trueErr r' c' L' sm' N' = 0 ∧ loOf ((truthsP c' sm' L' N').map num') ≤ loOf ((truthsP c sm L N).map num) ∧ hiOf ((truthsP c sm L N).map num) ≤ hiOf ((truthsP c' sm' L' N').map num') := by
  obtain ⟨_, hp⟩ := true_sv ht
  refine ⟨(true_ex hv').2 ?_, lo_mono (by rw [List.length_map]; exact hp) fun v hv1 => ?_⟩
  · obtain ⟨H, hH⟩ := (true_ex hv).1 ht
    obtain ⟨H', h1, _⟩ := h H hH
    exact ⟨H', h1⟩
  · obtain ⟨H, h1, rfl⟩ := List.mem_map.1 hv1
    obtain ⟨H', h2, h3⟩ := h H ((mem_P hv).1 h1)
    exact List.mem_map.2 ⟨H', (mem_P hv').2 h2, h3⟩
end
end Go.Proofs.Ytgkjfhkjgdiodaa

namespace Go.Proofs.Ytgkjfhkjgdiodaa
open _root_.Go.Proofs.Try
open Go.Abs
set_option maxRecDepth 100000
noncomputable section
/-- counts, some of which don't count any more -/
def outN (N : List Cnt) (S : Nat → Bool) : List Cnt := N.mapIdx fun i n => { n with late := n.late || S i }
theorem outN_len (N : List Cnt) (S : Nat → Bool) : (outN N S).length = N.length := by simp [outN]
theorem outN_get (N : List Cnt) (S : Nat → Bool) (k : Nat) : (outN N S)[k]? = (N[k]?).map fun n => { n with late := n.late || S k } := by simp [outN]
theorem outN_congr {N : List Cnt} {S S' : Nat → Bool} (h : ∀ k, k < N.length → S k = S' k) : outN N S = outN N S' := by
  refine List.ext_getElem? fun k => ?_
  rw [outN_get, outN_get]
  by_cases hk : k < N.length
  · rw [h k hk]
  · rw [List.getElem?_eq_none (by omega)]; rfl
theorem outN_okay {r c : Int} {L : List Int} {N : List Cnt} (hO : Okay r c L N) (S : Nat → Bool) : Okay r c L (outN N S) :=
  ⟨hO.f, by rw [outN_len]; exact hO.n, fun n hn => by
    obtain ⟨k, hk, rfl⟩ := List.getElem_of_mem hn
    have h1 := List.getElem?_eq_getElem hk
    rw [outN_get] at h1
    have hk' : k < N.length := by rw [outN_len] at hk; exact hk
    rw [List.getElem?_eq_getElem hk'] at h1
    have h2 := Option.some.inj h1
    rw [← h2]
    have h3 := hO.v N[k] (List.getElem_mem hk')
    exact h3⟩
theorem outN_sv {r c sm : Int} {L : List Int} {N : List Cnt} (hv : svErr r c L sm N = 0) (S : Nat → Bool) : svErr r c L sm (outN N S) = 0 := by
  obtain ⟨hO, hsm⟩ := okay_of hv
  exact sv_ok (outN_okay hO S) hsm (few_truths hv)
theorem bad_out {N : List Cnt} {S : Nat → Bool} {p h j : Nat} : bad (outN N S) p h j = (bad N p h j && !S j) := by
  unfold bad
  rw [outN_get]
  cases N[j]? with
  | none => rfl
  | some n =>
    show (decide (n.p = (p : Int)) && !(n.late || S j) && !decide (n.lo ≤ (h : Int) ∧ (h : Int) ≤ n.hi)) = (decide (n.p = (p : Int)) && !n.late && !decide (n.lo ≤ (h : Int) ∧ (h : Int) ≤ n.hi) && !S j)
    cases decide (n.p = (p : Int)) <;> cases n.late <;> cases S j <;> simp
theorem fits_out {c sm : Int} {N : List Cnt} {P : List Int} {O : List Bool} {i : Nat} : fitsB c sm N P O i = fitsB c sm (outN N fun j => O[j]!) P false6 i := by
  unfold fitsB
  congr 1
  unfold within
  refine decide_eq_decide.2 (forall_congr' fun j => forall_congr' fun hj => ?_)
  have hf : false6[j]! = false := by
    rcases (by omega : j = 0 ∨ j = 1 ∨ j = 2 ∨ j = 3 ∨ j = 4 ∨ j = 5) with rfl | rfl | rfl | rfl | rfl | rfl <;> rfl
  rw [hf, stL_get hj, stL_get hj]
  unfold stB
  rw [outN_len, bad_out]
  cases O[j]! <;> simp
theorem exts_congr {c sm : Int} {L : List Int} {N N' : List Cnt} {O O' : List Bool} (h : ∀ P i, fitsB c sm N P O i = fitsB c sm N' P O' i) : ∀ (d : Nat) (pre : List Int), exts c sm L N O d pre = exts c sm L N' O' d pre
  | 0, _ => rfl
  | d + 1, pre => by
    show rests (fun n => if fitsB c sm N (pad (pre ++ [(n : Int)])) O pre.length then exts c sm L N O d (pre ++ [(n : Int)]) else []) (L[pre.length]!.toNat + 1) 0 = rests (fun n => if fitsB c sm N' (pad (pre ++ [(n : Int)])) O' pre.length then exts c sm L N' O' d (pre ++ [(n : Int)]) else []) (L[pre.length]!.toNat + 1) 0
    congr 1
    funext n
    rw [h, exts_congr h d]
theorem marks_get : ∀ {D : List Int} {B : List Bool} {j : Nat}, j < B.length → (∀ v ∈ D, 0 ≤ v) → (marksL B D)[j]! = (B[j]! || decide ((j : Int) ∈ D))
  | [], B, j, _, _ => by
    show B[j]! = _
    simp
  | v :: D, B, j, hj, h => by
    have hv := h v (List.mem_cons_self ..)
    show (marksL (B.set v.toNat true) D)[j]! = _
    rw [marks_get (by rw [List.length_set]; exact hj) fun w hw => h w (List.mem_cons_of_mem _ hw)]
    rw [getElem!_pos _ j (by rw [List.length_set]; exact hj), getElem!_pos B j hj, List.getElem_set]
    by_cases hvj : v.toNat = j
    · have : (j : Int) = v := by omega
      rw [if_pos hvj, this]; simp
    · have : ¬ (j : Int) = v := by omega
      rw [if_neg hvj]
      have h2 : decide ((j : Int) ∈ v :: D) = decide ((j : Int) ∈ D) := decide_eq_decide.2 (by rw [List.mem_cons]; exact ⟨fun h => h.resolve_left this, .inr⟩)
      rw [h2]
def inD (D : List Int) (j : Nat) : Bool := decide ((j : Int) ∈ D)
/-- the counts of a list can be left out if and only if there is a truth without them -/
theorem leaveB_iff {r c sm : Int} {L D : List Int} {N : List Cnt} (hv : svErr r c L sm N = 0) (hD : Inc N.length 0 D) : leaveB c sm L N D = true ↔ ∃ H, TruthR c sm L (outN N (inD D)) H := by
  obtain ⟨hO, hsm⟩ := okay_of hv
  have hn6 := hO.n
  have he : exts c sm L N (marksL false6 D) L.length [] = exts c sm L (outN N (inD D)) false6 L.length [] := by
    refine (exts_congr (fun P i => fits_out) L.length []).trans ?_
    rw [outN_congr (S := fun j => (marksL false6 D)[j]!) (S' := inD D) fun k hk => ?_]
    show (marksL false6 D)[k]! = _
    rw [marks_get (by show k < 6; omega) fun v hv' => by have := hD.2 v hv'; omega]
    have hf : false6[k]! = false := by
      rcases (by omega : k = 0 ∨ k = 1 ∨ k = 2 ∨ k = 3 ∨ k = 4 ∨ k = 5) with rfl | rfl | rfl | rfl | rfl | rfl <;> rfl
    rw [hf]; rfl
  unfold leaveB truthsV
  rw [he]
  have hmem : ∀ H, H ∈ exts c sm L (outN N (inD D)) false6 L.length [] ↔ TruthR c sm L (outN N (inD D)) H := fun H => mem_P (outN_sv hv (inD D))
  cases hx : exts c sm L (outN N (inD D)) false6 L.length [] with
  | nil =>
    refine ⟨fun h => by simp at h, fun ⟨H, h⟩ => ?_⟩
    have := (hmem H).2 h
    rw [hx] at this; cases this
  | cons H T => exact ⟨fun _ => ⟨H, (hmem H).1 (by rw [hx]; exact List.mem_cons_self ..)⟩, fun _ => rfl⟩
end
end Go.Proofs.Ytgkjfhkjgdiodaa

namespace Go.Proofs.Ytgkjfhkjgdiodaa
open _root_.Go.Proofs.Try
open Go.Abs
set_option maxRecDepth 100000
noncomputable section
def bitsF (b : Nat) : Nat → List Int
  | 0 => []
  | p + 1 => bitsF b p ++ (if b.testBit p then [(p : Int)] else [])
def bitsL (b : Nat) : List Int := bitsF b 16
theorem mem_bitsF {b : Nat} {v : Int} : ∀ {p : Nat}, v ∈ bitsF b p ↔ 0 ≤ v ∧ v < p ∧ b.testBit v.toNat = true
  | 0 => ⟨fun h => (by cases h), fun h => by omega⟩
  | p + 1 => by
    show v ∈ bitsF b p ++ _ ↔ _
    rw [List.mem_append, mem_bitsF]
    constructor
    · rintro (h | h)
      · exact ⟨h.1, by omega, h.2.2⟩
      · by_cases hb : b.testBit p = true
        · rw [if_pos hb, List.mem_singleton] at h
          subst h; exact ⟨by omega, by omega, hb⟩
        · rw [if_neg hb] at h; cases h
    · rintro ⟨h1, h2, h3⟩
      by_cases hv : v = (p : Int)
      · subst hv
        have h4 : b.testBit p = true := h3
        rw [if_pos h4]; exact .inr (List.mem_singleton.2 rfl)
      · exact .inl ⟨h1, by omega, h3⟩
theorem sorted_bitsF {b : Nat} : ∀ p : Nat, (bitsF b p).Pairwise (· < ·)
  | 0 => .nil
  | p + 1 => by
    show (bitsF b p ++ _).Pairwise _
    rw [List.pairwise_append]
    refine ⟨sorted_bitsF p, ?_, fun a ha c hc => ?_⟩
    · split
      · exact List.pairwise_singleton _ _
      · exact .nil
    · have := mem_bitsF.1 ha
      split at hc
      · rw [List.mem_singleton] at hc; omega
      · cases hc
def bef : List Int → List Int → Bool
  | [], [] => false
  | [], _ :: _ => true
  | _ :: _, [] => false
  | x :: a, y :: b => if x = y then bef a b else decide (x < y)
def shB (a b : List Int) : Bool := decide (a.length < b.length) || (decide (a.length = b.length) && bef a b)
theorem shB_iff {A B : List Int} : shB A B = true ↔ A.length < B.length ∨ (A.length = B.length ∧ bef A B = true) := by
  unfold shB
  rw [Bool.or_eq_true, Bool.and_eq_true, decide_eq_true_eq, decide_eq_true_eq]
theorem bef_app (x y : Int) (A B : List Int) (hxy : x < y) : ∀ pre : List Int, bef (pre ++ x :: A) (pre ++ y :: B) = true
  | [] => by show (if x = y then _ else decide (x < y)) = true; rw [if_neg (by omega), decide_eq_true hxy]
  | p :: pre => by show (if p = p then bef (pre ++ x :: A) (pre ++ y :: B) else _) = true; rw [if_pos rfl]; exact bef_app x y A B hxy pre
theorem rests_pairwise {α : Type} {R : α → α → Prop} (g : Nat → List α) (h1 : ∀ x, (g x).Pairwise R) (h2 : ∀ x y, x < y → ∀ a ∈ g x, ∀ b ∈ g y, R a b) : ∀ e x, (rests g e x).Pairwise R
  | 0, _ => .nil
  | e + 1, x => by
    show (g x ++ rests g e (x + 1)).Pairwise R
    rw [List.pairwise_append]
    refine ⟨h1 x, rests_pairwise g h1 h2 e (x + 1), fun a ha b hb => ?_⟩
    obtain ⟨j, h3, _, h4⟩ := (mem_rests g b e (x + 1)).1 hb
    exact h2 x j (by omega) a ha b h4
theorem combs_pairwise {n : Nat} : ∀ (d : Nat) (pre : List Int) (fr : Nat), (combs n d pre fr).Pairwise fun a b => bef a b = true
  | 0, pre, fr => List.pairwise_singleton _ _
  | d + 1, pre, fr => rests_pairwise _ (fun x => combs_pairwise d _ _) (fun x y hxy a ha b hb => by
    obtain ⟨T, h1, _, _⟩ := mem_combs.1 ha
    obtain ⟨T', h2, _, _⟩ := mem_combs.1 hb
    rw [h1, h2, List.append_assoc, List.append_assoc]
    exact bef_app _ _ _ _ (by omega) pre) _ _
theorem allL_pairwise (n : Nat) : (allL n).Pairwise fun a b => shB a b = true :=
  rests_pairwise _ (fun s => (combs_pairwise s [] 0).imp_of_mem fun {a b} ha hb hab => by
    have h1 := combs_len ha
    have h2 := combs_len hb
    unfold shB
    rw [hab, decide_eq_true (show a.length = b.length by omega)]; simp) (fun s s' hs a ha b hb => by
    have h1 := combs_len ha
    have h2 := combs_len hb
    unfold shB
    rw [decide_eq_true (by omega)]; rfl) _ _
theorem find_min {t : List Int → Bool} : ∀ {l : List (List Int)}, l.Pairwise (fun a b => shB a b = true) → ∀ {D D' : List Int}, l.find? t = some D → D' ∈ l → t D' = true → D' = D ∨ shB D D' = true
  | [], _, _, _, h, _, _ => by cases h
  | a :: l, hp, D, D', h, hm, ht => by
    rw [List.pairwise_cons] at hp
    rw [List.find?_cons] at h
    cases hta : t a with
    | true =>
      rw [hta] at h
      have : a = D := Option.some.inj h
      subst this
      rcases List.mem_cons.1 hm with rfl | h1
      · exact .inl rfl
      · exact .inr (hp.1 _ h1)
    | false =>
      rw [hta] at h
      rcases List.mem_cons.1 hm with rfl | h1
      · rw [hta] at ht; cases ht
      · exact find_min hp.2 h h1 ht
/-- the shortest list that passes -/
theorem shortL_spec {n : Nat} {t : List Int → Bool} (h : ∃ D, Inc n 0 D ∧ t D = true) : Inc n 0 (shortL n t) ∧ t (shortL n t) = true ∧ ∀ D, Inc n 0 D → t D = true → D = shortL n t ∨ shB (shortL n t) D = true := by
  obtain ⟨D0, h1, h2⟩ := h
  unfold shortL
  cases hf : (allL n).find? t with
  | none => exact absurd h2 (by have := List.find?_eq_none.1 hf D0 (mem_allL.2 h1); simpa using this)
  | some D => exact ⟨mem_allL.1 (List.mem_of_find?_eq_some hf), List.find?_some hf, fun D' h3 h4 => find_min (allL_pairwise n) hf (mem_allL.2 h3) h4⟩
theorem bits_inc {n b : Nat} (hn : n ≤ 16) (hb : b < 2 ^ n) : Inc n 0 (bitsL b) :=
  ⟨sorted_bitsF 16, fun v hv => by
    obtain ⟨h1, h2, h3⟩ := mem_bitsF.1 hv
    refine ⟨by omega, ?_⟩
    by_cases h4 : v < n
    · exact h4
    · have := Nat.testBit_lt_two_pow (Nat.lt_of_lt_of_le hb (Nat.pow_le_pow_right (by omega) (show n ≤ v.toNat by omega)))
      rw [this] at h3; cases h3⟩
theorem inD_bits {n b k : Nat} (hn : n ≤ 16) (hk : k < n) : inD (bitsL b) k = b.testBit k := by
  unfold inD
  have : ((k : Nat) : Int) ∈ bitsL b ↔ b.testBit k = true := by
    unfold bitsL
    rw [mem_bitsF]
    exact ⟨fun h => h.2.2, fun h => ⟨by omega, by omega, h⟩⟩
  cases hb : b.testBit k with
  | true => exact decide_eq_true (this.2 hb)
  | false => exact decide_eq_false fun h => by rw [this.1 h] at hb; cases hb
end
end Go.Proofs.Ytgkjfhkjgdiodaa

namespace Go.Proofs.Ytgkjfhkjgdiodaa
open _root_.Go.Proofs.Try
open Go.Abs
set_option maxRecDepth 100000
noncomputable section
theorem w107 (a0 a1 a2 a3 a4 a5 a6 a7 a8 : Int) (b b2 : Nat) {m : M} {Q : V → M → Prop} (h :
 (∀ m0 : M, ((m0 = (M.new m (AO.cells 9 [(C.int .i64 a0), (C.int .i64 a1), (C.int .i64 a2), 
 (C.int .i64 a3), (C.int .i64 a4), (C.int .i64 a5), (C.int .i64 a6), (C.int .i64 a7), 
 (C.int .i64 a8)] false))) → (∃ c1 : C, (((ldC m0 (C.ptr b 0)) = (some c1)) ∧ (∃ x2 : Int, 
 (∃ x3 : Int, (∃ x4 : Int, (∃ x5 : Int, (∃ x6 : Int, (∃ x7 : Int, (∃ x8 : Int, (∃ x9 : Int, (∃ x10 : Int, 
 (((ldA m0 (C.ptr m.nxt 0) 9) = (some [(C.int .i64 x2), (C.int .i64 x3), 
 (C.int .i64 x4), (C.int .i64 x5), (C.int .i64 x6), (C.int .i64 x7), 
 (C.int .i64 x8), (C.int .i64 x9), (C.int .i64 x10)])) ∧ (∃ c11 : C, (((ldC m0 (C.ptr b2 0)) = (some c11)) ∧ 
 (Wc prog tbl 105 [(V.agg 9 [(C.int .i64 x2), (C.int .i64 x3), (C.int .i64 x4), 
 (C.int .i64 x5), (C.int .i64 x6), (C.int .i64 x7), (C.int .i64 x8), 
 (C.int .i64 x9), (C.int .i64 x10)]), (V.c c11)] m0 (fun v12 m13 => (∃ x14 : Int, 
 (∃ x15 : Int, (∃ x16 : Int, (∃ x17 : Int, (∃ x18 : Int, (∃ x19 : Int, (∃ x20 : Int, (∃ x21 : Int, 
 (∃ x22 : Int, ((v12 = (V.agg 9 [(C.int .i64 x14), (C.int .i64 x15), 
 (C.int .i64 x16), (C.int .i64 x17), (C.int .i64 x18), (C.int .i64 x19), 
 (C.int .i64 x20), (C.int .i64 x21), (C.int .i64 x22)])) ∧ 
 ((ifB (noFnC c1) ((ldC m13 (C.ptr b 0)) = (some c1)) False) ∧ (∃ y23 : Option U, 
 (((lkM prog 108 m13 c1 (V.agg 9 [(C.int .i64 x14), (C.int .i64 x15), 
 (C.int .i64 x16), (C.int .i64 x17), (C.int .i64 x18), (C.int .i64 x19), 
 (C.int .i64 x20), (C.int .i64 x21), (C.int .i64 x22)])) = (some y23)) ∧ 
 (((y23 = Option.none) → (Q (V.c (C.bool true)) m13)) ∧ (∀ u24 : U, ((y23 = (some u24)) → 
 (∃ b25 : Bool, ((u24 = (U.c (C.bool b25))) ∧ (Q (V.c (C.bool (!b25))) m13)))))))))))))))))))))))))))))))))))))) : Wc prog tbl 107 [.agg 9 [.int .i64 a0, .int .i64 a1, .int .i64 a2, .int .i64 a3, .int .i64 a4, .int .i64 a5, .int .i64 a6, .int .i64 a7, .int .i64 a8], .c (.ptr b 0), .c (.ptr b2 0)] m Q :=
 wc_eq (n := 3) rfl (by kernel_rfl) (by kernel_rfl) h
theorem w119 (a0 a1 a2 a3 a4 a5 a6 a7 a8 : Int) (b : Nat) {m : M} {Q : V → M → Prop} (h :
 (∀ m0 : M, ((m0 = (M.new m (AO.cells 9 [(C.int .i64 a0), (C.int .i64 a1), (C.int .i64 a2), 
 (C.int .i64 a3), (C.int .i64 a4), (C.int .i64 a5), (C.int .i64 a6), (C.int .i64 a7), 
 (C.int .i64 a8)] false))) → (∃ c1 : C, (((ldC m0 (C.ptr b 0)) = (some c1)) ∧ (∃ x2 : Int, 
 (∃ x3 : Int, (∃ x4 : Int, (∃ x5 : Int, (∃ x6 : Int, (∃ x7 : Int, (∃ x8 : Int, (∃ x9 : Int, (∃ x10 : Int, 
 (((ldA m0 (C.ptr m.nxt 0) 9) = (some [(C.int .i64 x2), (C.int .i64 x3), 
 (C.int .i64 x4), (C.int .i64 x5), (C.int .i64 x6), (C.int .i64 x7), 
 (C.int .i64 x8), (C.int .i64 x9), (C.int .i64 x10)])) ∧ (callP prog tbl [(V.agg 9 [(C.int .i64 x2), 
 (C.int .i64 x3), (C.int .i64 x4), (C.int .i64 x5), (C.int .i64 x6), 
 (C.int .i64 x7), (C.int .i64 x8), (C.int .i64 x9), (C.int .i64 x10)])] c1 m0 (fun v11 m12 => 
 (∃ b13 : Bool, ((v11 = (V.c (C.bool b13))) ∧ (Q (V.c (C.bool (!b13))) m12)))))))))))))))))))) : Wc prog tbl 119 [.agg 9 [.int .i64 a0, .int .i64 a1, .int .i64 a2, .int .i64 a3, .int .i64 a4, .int .i64 a5, .int .i64 a6, .int .i64 a7, .int .i64 a8], .c (.ptr b 0)] m Q :=
 wc_eq (n := 2) rfl (by kernel_rfl) (by kernel_rfl) h
end
end Go.Proofs.Ytgkjfhkjgdiodaa

namespace Go.Proofs.Ytgkjfhkjgdiodaa
open _root_.Go.Proofs.Try
open Go.Abs
set_option maxRecDepth 100000
noncomputable section
abbrev HK := { P : List Int // P.length = 9 ∧ Small P }
def encH (a : HK) : U := .agg 9 (ints a.1)
theorem eqKs_ints : ∀ {A B : List Int}, A.length = B.length → Small A → Small B → eqKs (List.replicate A.length (.int .i64)) (ints A) (ints B) = some (decide (A = B))
  | [], [], _, _, _ => rfl
  | [], _ :: _, h, _, _ => by simp at h
  | _ :: _, [], h, _, _ => by simp at h
  | a :: A, b :: B, h, hA, hB => by
    have ha := hA a (List.mem_cons_self ..)
    have hb := hB b (List.mem_cons_self ..)
    show optB (eqK (.int .i64) (.int .i64 a) (.int .i64 b)) none (fun b1 => optB (eqKs (List.replicate A.length (.int .i64)) (ints A) (ints B)) none fun r => some (ifB b1 r false)) = _
    rw [eqK_int (fits_small (by omega) (by omega)) (fits_small (by omega) (by omega)), eqKs_ints (by simpa using h) (fun v hv => hA v (List.mem_cons_of_mem _ hv)) fun v hv => hB v (List.mem_cons_of_mem _ hv)]
    show some (ifB (decide (a = b)) (decide (A = B)) false) = _
    congr 1
    by_cases h1 : a = b
    · rw [decide_eq_true h1]
      show decide (A = B) = _
      exact decide_eq_decide.2 ⟨fun h2 => by rw [h1, h2], fun h2 => (List.cons.inj h2).2⟩
    · rw [decide_eq_false h1]
      exact (decide_eq_false fun h2 => h1 (List.cons.inj h2).1).symm
theorem keyH : KeyLike prog 108 encH := by
  have hpl : plainK prog 108 = some (List.replicate 9 (.int .i64)) := by kernel_rfl
  have hag : isAggT prog 108 = true := by kernel_rfl
  refine ⟨⟨_, hpl⟩, fun a b => ?_⟩
  unfold eqV
  rw [hpl, optB_some]
  show optB (ifB (isAggT prog 108) (some (ints a.1)) none) none (fun xs => optB (ifB (isAggT prog 108) (some (ints b.1)) none) none fun ys => eqKs (List.replicate 9 (.int .i64)) xs ys) = _
  rw [hag]
  show eqKs (List.replicate 9 (.int .i64)) (ints a.1) (ints b.1) = _
  have := eqKs_ints (A := a.1) (B := b.1) (by rw [a.2.1, b.2.1]) a.2.2 b.2.2
  rw [a.2.1] at this
  rw [this]
  congr 1
  exact decide_eq_decide.2 ⟨Subtype.ext, fun h => by rw [h]⟩
def atF (P : List Int) : List Int → List Int → List Int
  | A, [] => A
  | A, v :: D => atF P (A.set v.toNat P[v.toNat]!) D
theorem atF_len {P : List Int} : ∀ (D A : List Int), (atF P A D).length = A.length
  | [], _ => rfl
  | v :: D, A => by show (atF P _ D).length = _; rw [atF_len D, List.length_set]
theorem atF_step {P D A : List Int} {i : Nat} (hi : i < D.length) : atF P A (D.drop i) = atF P (A.set D[i].toNat P[D[i].toNat]!) (D.drop (i + 1)) := by rw [List.drop_eq_getElem_cons hi]; rfl
theorem atF_get {P : List Int} : ∀ {D A : List Int} {j : Nat}, j < A.length → (∀ v ∈ D, 0 ≤ v) → (atF P A D)[j]! = if (j : Int) ∈ D then P[j]! else A[j]!
  | [], A, j, _, _ => by show A[j]! = _; rw [if_neg (by simp)]
  | v :: D, A, j, hj, h => by
    have hv := h v (List.mem_cons_self ..)
    show (atF P (A.set v.toNat P[v.toNat]!) D)[j]! = _
    rw [atF_get (by rw [List.length_set]; exact hj) fun w hw => h w (List.mem_cons_of_mem _ hw)]
    by_cases h1 : (j : Int) ∈ D
    · rw [if_pos h1, if_pos (List.mem_cons_of_mem _ h1)]
    · rw [if_neg h1, getElem!_pos _ j (by rw [List.length_set]; exact hj), List.getElem_set]
      by_cases hvj : v.toNat = j
      · rw [if_pos hvj, hvj, if_pos (by rw [show (j : Int) = v by omega]; exact List.mem_cons_self ..)]
      · rw [if_neg hvj, if_neg fun h2 => (List.mem_cons.1 h2).elim (fun h3 => hvj (by omega)) h1, getElem!_pos A j hj]
def zr9 : List Int := List.replicate 9 0
def keyL (P D : List Int) : List Int := atF P zr9 D
theorem keyL_len (P D : List Int) : (keyL P D).length = 9 := by unfold keyL; rw [atF_len]; rfl
theorem zr9_get (j : Nat) : zr9[j]! = 0 := by
  by_cases h : j < 9
  · rcases (by omega : j = 0 ∨ j = 1 ∨ j = 2 ∨ j = 3 ∨ j = 4 ∨ j = 5 ∨ j = 6 ∨ j = 7 ∨ j = 8) with rfl | rfl | rfl | rfl | rfl | rfl | rfl | rfl | rfl <;> rfl
  · rw [getElem!_neg _ j (by show ¬ j < 9; exact h)]; rfl
theorem keyL_small {P D : List Int} (hP : P.length = 9) (hS : Small P) (hD : ∀ v ∈ D, 0 ≤ v ∧ v < 9) : Small (keyL P D) := fun v hv => by
  obtain ⟨j, hj, rfl⟩ := List.getElem_of_mem hv
  have hj9 : j < 9 := by rw [keyL_len] at hj; exact hj
  have h1 : (keyL P D)[j]! = (keyL P D)[j] := getElem!_pos _ j hj
  rw [← h1]
  unfold keyL
  rw [atF_get (by show j < 9; exact hj9) fun v hv => (hD v hv).1]
  split
  · rw [getElem!_pos P j (by omega)]; exact hS _ (List.getElem_mem _)
  · rw [zr9_get]; omega
theorem keyL_eq {P P' D : List Int} (hP : P.length = 9) (hP' : P'.length = 9) (hD : ∀ v ∈ D, 0 ≤ v ∧ v < 9) : keyL P D = keyL P' D ↔ ∀ v ∈ D, P[v.toNat]! = P'[v.toNat]! := by
  constructor
  · intro h v hv
    have hv9 := hD v hv
    have h1 := congrArg (fun l : List Int => l[v.toNat]!) h
    unfold keyL at h1
    rw [atF_get (by show v.toNat < 9; omega) fun v hv => (hD v hv).1, atF_get (by show v.toNat < 9; omega) fun v hv => (hD v hv).1, if_pos (by rw [show ((v.toNat : Nat) : Int) = v by omega]; exact hv), if_pos (by rw [show ((v.toNat : Nat) : Int) = v by omega]; exact hv)] at h1
    exact h1
  · intro h
    refine List.ext_getElem (by rw [keyL_len, keyL_len]) fun j h1 h2 => ?_
    have hj9 : j < 9 := by rw [keyL_len] at h1; exact h1
    rw [← getElem!_pos (keyL P D) j h1, ← getElem!_pos (keyL P' D) j h2]
    unfold keyL
    rw [atF_get (by show j < 9; exact hj9) fun v hv => (hD v hv).1, atF_get (by show j < 9; exact hj9) fun v hv => (hD v hv).1]
    by_cases hj : (j : Int) ∈ D
    · rw [if_pos hj, if_pos hj]; exact h _ hj
    · rw [if_neg hj, if_neg hj]
theorem s105 {P D : List Int} {z : C} {m : M} {Q : V → M → Prop} (hP : P.length = 9) (hz : Li m z D) (hDl : D.length ≤ 1000) (hD : ∀ v ∈ D, 0 ≤ v ∧ v < 9) (h : ∀ m', Ext m m' → Q (.agg 9 (ints (keyL P D))) m') : Wc prog tbl 105 [.agg 9 (ints P), .c z] m Q := by
  obtain ⟨p0, p1, p2, p3, p4, p5, p6, p7, p8, hPe⟩ := nine hP
  rw [show ints P = ints [p0, p1, p2, p3, p4, p5, p6, p7, p8] by rw [← hPe]]
  refine w105 fun m0 e0 m1 e1 m2 e2 => ⟨hz.isSl, fun R3 hstep => ?_⟩
  obtain ⟨b0', x0⟩ := Bk.new e0
  obtain ⟨b1', x1⟩ := Bk.new e1
  obtain ⟨b2', x2⟩ := Bk.new e2
  have n0 : m0.nxt = m.nxt + 1 := by rw [e0]; rfl
  have n1 : m1.nxt = m.nxt + 2 := by rw [e1]; show m0.nxt + 1 = _; omega
  have b0 : Bk m2 m.nxt 9 (ints P) := by rw [hPe]; exact (b0'.ext x1).ext x2
  have b1 : Bk m2 m0.nxt 9 (ints zr9) := b1'.ext x2
  have b2 : Bk m2 m1.nxt 9 (ints zr9) := b2'
  have hgo : ∀ (d i : Nat) (m5 : M) (A : List Int), d + i = D.length → Ext m m5 → Bk m5 m.nxt 9 (ints P) → Bk m5 m0.nxt 9 (ints zr9) → Bk m5 m1.nxt 9 (ints A) → A.length = 9 → atF P A (D.drop i) = keyL P D → R3 [.c (.int .i64 (i : Int))] m5 := by
    intro d
    induction d with
    | zero =>
      intro i m5 A hd he k0 k1 k2 hA heq
      refine hstep _ _ ?_
      rw [hz.slLen, ifB_dec]
      refine ⟨fun h1 => by omega, fun _ => ?_⟩
      rw [List.drop_eq_nil_of_le (by omega)] at heq
      have heq' : A = keyL P D := heq
      obtain ⟨q0, q1, q2, q3, q4, q5, q6, q7, q8, hq⟩ := nine hA
      have hq' := h _ (he.setR (b := m0.nxt) (by omega) (.cells 9 (ints A) false))
      rw [← heq'] at hq'
      subst hq
      exact ⟨q0, q1, q2, q3, q4, q5, q6, q7, q8, k2.ra, _, k1.st _, q0, q1, q2, q3, q4, q5, q6, q7, q8, (k1.set _).ra, hq'⟩
    | succ d ih =>
      intro i m5 A hd he k0 k1 k2 hA heq
      refine hstep _ _ ?_
      rw [hz.slLen, ifB_dec]
      refine ⟨fun _ => ?_, fun h1 => absurd (by omega) h1⟩
      have hi : i < D.length := by omega
      have hv := hD _ (List.getElem_mem hi)
      obtain ⟨v, hve⟩ : ∃ v : Nat, D[i] = (v : Int) := ⟨D[i].toNat, by omega⟩
      refine ⟨i, rfl, hi, _, Li.rd (hz.ext he) (List.getElem?_eq_getElem hi), trivial, v, hve, by omega, _, at_rc k0 (by omega), trivial, v, hve, by omega, _, k2.st1n _ (by rw [ints_len]; omega) (by rw [ints_len]; exact hA), fits_small (by omega) (by omega), ?_⟩
      rw [ints_set]
      refine ih (i + 1) _ (A.set v P[v]!) (by omega) (he.setR (by omega) _) (k0.setNe (by omega) _) (k1.setNe (by omega) _) (k2.set _) (by rw [List.length_set]; exact hA) ?_
      rw [← heq, atF_step hi, hve]; rfl
  exact hgo D.length 0 m2 zr9 (by omega) ((x0.trans x1).trans x2) b0 b1 b2 rfl rfl
def hcs (B : List (List Int)) : List C := B.flatMap ints
def H9 (B : List (List Int)) : Prop := ∀ P ∈ B, P.length = 9 ∧ Small P
theorem hcs_len {B : List (List Int)} (h : H9 B) : (hcs B).length = B.length * 9 := by
  induction B with
  | nil => rfl
  | cons P B ih =>
    show (ints P ++ hcs B).length = _
    rw [List.length_append, ints_len, (h P (List.mem_cons_self ..)).1, ih fun q hq => h q (List.mem_cons_of_mem _ hq), List.length_cons]; omega
theorem hcs_all : ∀ {B : List (List Int)} {i : Nat} {P : List Int}, H9 B → B[i]? = some P → ((hcs B).drop (i * 9)).take 9 = ints P
  | [], _, _, _, h => by simp at h
  | A :: B, 0, P, h9, h => by
    have : A = P := by simpa using h
    subst this
    show (ints A ++ hcs B).take 9 = _
    rw [List.take_append_of_le_length (by rw [ints_len, (h9 A (List.mem_cons_self ..)).1]; omega), List.take_of_length_le (by rw [ints_len, (h9 A (List.mem_cons_self ..)).1]; omega)]
  | A :: B, i + 1, P, h9, h => by
    have h' : B[i]? = some P := by simpa using h
    show ((ints A ++ hcs B).drop ((i + 1) * 9)).take 9 = _
    have hl : (ints A).length = 9 := by rw [ints_len]; exact (h9 A (List.mem_cons_self ..)).1
    rw [show (i + 1) * 9 = (ints A).length + i * 9 by omega, ← List.drop_drop, List.drop_left, hcs_all (fun q hq => h9 q (List.mem_cons_of_mem _ hq)) h']
theorem hcs_app (B : List (List Int)) (P : List Int) : hcs B ++ ints P = hcs (B ++ [P]) := by simp [hcs]
abbrev Lh (m : M) (x : C) (B : List (List Int)) : Prop := Ls m 9 x (hcs B) B.length
theorem Lh.rd {m : M} {x : C} {B : List (List Int)} (h : Lh m x B) (h9 : H9 B) {i : Nat} {P : List Int} (hi : B[i]? = some P) : ldA m (slAt x (i * 9)) 9 = some (ints P) := by
  have hlt : i < B.length := (List.getElem?_eq_some_iff.1 hi).1
  rw [Ls.rds h (by omega) (by rw [hcs_len h9]; omega), hcs_all h9 hi]
/-- a function value that tests hits -/
def TestH (m : M) (fnc : C) (B : List (List Int)) (t : List Int → Bool) : Prop :=
  ∀ m' P, Ext m m' → P ∈ B → ∀ Q : V → M → Prop, (∀ m'', Ext m' m'' → Q (.c (.bool (t P))) m'') → callP prog tbl [.agg 9 (ints P)] fnc m' Q
theorem s119 {P : List Int} {b : Nat} {fnc : C} {v : Bool} {m : M} {Q : V → M → Prop} (hP : P.length = 9) (kb : Bk m b 1 [fnc]) (hf : ∀ m', Ext m m' → ∀ Q : V → M → Prop, (∀ m'', Ext m' m'' → Q (.c (.bool v)) m'') → callP prog tbl [.agg 9 (ints P)] fnc m' Q)
    (h : ∀ m', Ext m m' → Q (.c (.bool (!v))) m') : Wc prog tbl 119 [.agg 9 (ints P), .c (.ptr b 0)] m Q := by
  obtain ⟨p0, p1, p2, p3, p4, p5, p6, p7, p8, hPe⟩ := nine hP
  subst hPe
  refine w119 p0 p1 p2 p3 p4 p5 p6 p7 p8 b fun m0 e0 => ?_
  obtain ⟨b0, x0⟩ := Bk.new e0
  exact ⟨_, (kb.ext x0).rc rfl, p0, p1, p2, p3, p4, p5, p6, p7, p8, b0.ra, hf m0 x0 _ fun m12 e12 => ⟨_, rfl, h m12 (x0.trans e12)⟩⟩
theorem s125 {z fnc : C} {B : List (List Int)} {t : List Int → Bool} {m : M} {Q : V → M → Prop} (hz : Lh m z B) (h9 : H9 B) (hB : B.length ≤ 100000) (ht : TestH m fnc B t) (h : ∀ r m', Ext m m' → (0 ≤ r ↔ B.any t = true) → Q (.c (.int .i64 r)) m') : Wc prog tbl 125 [.c z, .c fnc] m Q := by
  refine w125 ⟨hz.isSl, fun R0 hstep => ?_⟩
  have hgo : ∀ (d i : Nat) (x1 : Int) (m3 : M), d + i = B.length → Ext m m3 → (∀ P ∈ B.take i, t P = false) → R0 [.c (.int .i64 x1), .c (.int .i64 (i : Int))] m3 := by
    intro d
    induction d with
    | zero =>
      intro i x1 m3 hd he hn
      refine hstep _ _ _ ?_
      rw [hz.slLen, ifB_dec]
      refine ⟨fun h1 => by omega, fun _ => h _ m3 he ?_⟩
      rw [List.take_of_length_le (by omega)] at hn
      refine ⟨fun h1 => by omega, fun h1 => ?_⟩
      obtain ⟨P, h2, h3⟩ := List.any_eq_true.1 h1
      rw [hn P h2] at h3; cases h3
    | succ d ih =>
      intro i x1 m3 hd he hn
      refine hstep _ _ _ ?_
      rw [hz.slLen, ifB_dec]
      refine ⟨fun _ => ?_, fun h1 => absurd (by omega) h1⟩
      have hi : i < B.length := by omega
      have hP := h9 _ (List.getElem_mem hi)
      obtain ⟨p0, p1, p2, p3, p4, p5, p6, p7, p8, hPe⟩ := nine hP.1
      have hrd := Lh.rd (hz.ext he) h9 (List.getElem?_eq_getElem hi)
      have hcall := ht m3 B[i] he (List.getElem_mem hi)
      rw [hPe] at hrd hcall
      refine ⟨i, rfl, hi, p0, p1, p2, p3, p4, p5, p6, p7, p8, hrd, hcall _ fun m15 e15 => ⟨_, rfl, ?_⟩⟩
      rw [← hPe, ifB_iff]
      refine ⟨fun h1 => h _ m15 (he.trans e15) ⟨fun _ => List.any_eq_true.2 ⟨_, List.getElem_mem hi, h1⟩, fun _ => by omega⟩, fun h1 => ⟨fits_small (by omega) (by omega), ih (i + 1) x1 m15 (by omega) (he.trans e15) fun P hp => ?_⟩⟩
      rw [List.take_add_one, List.getElem?_eq_getElem hi] at hp
      rcases List.mem_append.1 hp with h2 | h2
      · exact hn P h2
      · have : P = B[i] := by simpa using h2
        rw [this]; exact h1
  exact hgo B.length 0 0 m (by omega) (.refl _) (by simp)
theorem s106 {z fnc : C} {B : List (List Int)} {t : List Int → Bool} {m : M} {Q : V → M → Prop} (hz : Lh m z B) (h9 : H9 B) (hB : B.length ≤ 100000) (ht : TestH m fnc B t) (h : ∀ m', Ext m m' → Q (.c (.bool (B.all t))) m') : Wc prog tbl 106 [.c z, .c fnc] m Q := by
  refine w106 fun m0 e0 => ?_
  obtain ⟨b0, x0⟩ := Bk.new e0
  refine w118 (s125 (t := fun P => !t P) (hz.ext x0) h9 hB (fun m' P e hP Q' hq => ?_) fun r m2 e2 hr => ⟨r, rfl, _, rfl, ?_⟩)
  · show Wc prog tbl 119 [.agg 9 (ints P), .c (.ptr m.nxt 0)] m' Q'
    exact s119 (h9 P hP).1 (b0.ext e) (fun m'' e'' Q'' hq'' => ht m'' P ((x0.trans e).trans e'') hP Q'' hq'') hq
  · have hq := h m2 (x0.trans e2)
    have : B.all t = !decide (0 ≤ r) := by
      by_cases h0 : 0 ≤ r
      · obtain ⟨P, h1, h2⟩ := List.any_eq_true.1 (hr.1 h0)
        rw [decide_eq_true h0]
        cases ha : B.all t with
        | false => rfl
        | true =>
          have := List.all_eq_true.1 ha P h1
          rw [this] at h2; cases h2
      · rw [decide_eq_false h0]
        refine List.all_eq_true.2 fun P hP => ?_
        cases htp : t P with
        | true => rfl
        | false => exact absurd (hr.2 (List.any_eq_true.2 ⟨P, hP, by rw [htp]; rfl⟩)) h0
    rw [this] at hq
    exact hq
end
end Go.Proofs.Ytgkjfhkjgdiodaa

namespace Go.Abs
noncomputable section
/-- m' is m but for block b -/
structure St1 (m m' : M) (b : Nat) : Prop where
  nxt : m'.nxt = m.nxt
  vw : m'.vw = m.vw
  g : ∀ b', b' ≠ b → m'.g b' = m.g b'
theorem St1.of_set {m m' : M} {b : Nat} {o : AO} (h : m' = m.set b o) : St1 m m' b := by
  subst h
  exact ⟨rfl, rfl, fun b' hb => by rw [M.g_set, if_neg hb]⟩
theorem Bk.keep1 {m m' : M} {b c n : Nat} {vs : List C} (h : Bk m c n vs) (s : St1 m m' b) (hne : c ≠ b) : Bk m' c n vs := ⟨(s.g c hne).trans h.g, by rw [s.nxt]; exact h.lt⟩
theorem Ext.st1 {m0 m m' : M} {b : Nat} (e : Ext m0 m) (s : St1 m m' b) (hb : m0.nxt ≤ b) : Ext m0 m' := ⟨by rw [s.nxt]; exact e.nxt, fun b' hb' => (s.g b' (by omega)).trans (e.g b' hb'), s.vw.trans e.vw⟩
theorem Ls.keep1 {m m' : M} {b k n : Nat} {x : C} {vs : List C} (h : Ls m k x vs n) (s : St1 m m' b) (hne : ∀ b' o s d, x = .sl b' o n s d → b' ≠ b) : Ls m' k x vs n :=
  h.to (by rw [s.nxt]; exact Nat.le_refl _) (fun b' _ hx => by obtain ⟨o, t, d, hx⟩ := hx; exact s.g b' (hne b' o t d hx)) s.vw
theorem Own1.keep1 {m m' : M} {b k n : Nat} {x : C} {vs : List C} (h : Own1 m k x vs n) (s : St1 m m' b) (hne : ∀ b' s d, x = .sl b' 0 n s d → b' ≠ b) : Own1 m' k x vs n :=
  h.to (by rw [s.nxt]; exact Nat.le_refl _) fun b' _ hx => by obtain ⟨t, d, hx⟩ := hx; exact s.g b' (hne b' t d hx)
theorem Bk.sto {m : M} {b n : Nat} {ws : List C} (h : Bk m b n ws) (vs : List C) : ∃ m', stC m (.ptr b 0) n vs = some m' ∧ Bk m' b n vs ∧ St1 m m' b := ⟨_, h.st vs, h.set vs, .of_set rfl⟩
theorem Bk.sto1 {m : M} {b n : Nat} {vs : List C} (h : Bk m b n vs) (k : Nat) (c : C) (hk : k < vs.length) (hn : vs.length = n) : ∃ m', stC m (.ptr b k) 1 [c] = some m' ∧ Bk m' b n (vs.set k c) ∧ St1 m m' b := by
  by_cases h1 : n = 1
  · subst h1
    have hk0 : k = 0 := by omega
    subst hk0
    have : vs.set 0 c = [c] := by
      match vs, hn with
      | [a], _ => rfl
    exact ⟨_, stC_of h.g [c], by rw [this]; exact h.set _, .of_set rfl⟩
  · exact ⟨_, stC_at h.g c hk hn h1, h.set _, .of_set rfl⟩
/-- a cell of a slice of one's own -/
theorem Own1.sto {m : M} {k n : Nat} {x : C} {vs : List C} (h : Own1 m k x vs n) (i : Nat) (c : C) (hi : i < vs.length) (h1 : 1 < vs.length) :
    ∃ b s d m', x = .sl b 0 n s d ∧ b < m.nxt ∧ (slB x = none ∨ slB x = some b) ∧ stC m (.ptr b i) 1 [c] = some m' ∧ Own1 m' k x (vs.set i c) n ∧ St1 m m' b := by
  have hl := h.len
  have hx := h.own
  cases hx with
  | nil h2 h3 => rw [h3] at hi; simp at hi
  | grown b hg hb => exact ⟨b, k, none, _, rfl, hb, .inr rfl, stC_at hg c hi (by omega) (by omega), ⟨by rw [List.length_set]; exact hl, .grown b (by rw [M.g_set, if_pos rfl]) hb⟩, .of_set rfl⟩
  | lit b hg hb => exact ⟨b, 0, some n, _, rfl, hb, .inl rfl, stC_at hg c hi (by omega) (by omega), ⟨by rw [List.length_set]; exact hl, .lit b (by rw [M.g_set, if_pos rfl]) hb⟩, .of_set rfl⟩
end
end Go.Abs

