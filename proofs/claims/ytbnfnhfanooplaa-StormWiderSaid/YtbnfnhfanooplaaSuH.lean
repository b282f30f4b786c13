/- An evaluator of the code of a program, its soundness, what calls ask, memory, and what functions of the program do. Condition: none; a lemma text of this claim. -/
import Derived.Test.YtbnfnhfanooplaaSuG

namespace Go.Proofs.Ytbnfnhfanooplaa
open _root_.Go.Proofs.Try
open Go.Abs
set_option maxRecDepth 100000
noncomputable section
theorem t22 : tk prog 69 = .sl 3 := by kernel_rfl
theorem g3 : growOk prog 3 = true := by kernel_rfl
theorem z3 : prog.cellsOf 3 = 1 := by kernel_rfl
theorem take_set {P : List Int} {p : Nat} (hp : p < P.length) (n : Int) : (P.set p n).take (p + 1) = P.take p ++ [n] := by
 rw [List.take_add_one, List.getElem?_set_self hp, List.take_set_of_le (Nat.le_refl _)]; rfl
theorem _root_.Go.Abs.Chg.trans {S S1 : Nat → Prop} {T : Nat → Prop} {m m1 m2 : M} (h1 : Chg (fun b => S b ∨ T b) m m1) (h2 : Chg (fun b => S1 b ∨ T b) m1 m2) (ho : Own S m S1) : Chg (fun b => S b ∨ T b) m m2 :=
 ⟨Nat.le_trans h1.nxt h2.nxt, fun b hb hS => by
  rw [h2.g b (Nat.lt_of_lt_of_le hb h1.nxt) fun h => h.elim (fun h3 => (ho b h3).elim (fun h4 => hS (.inl h4)) fun h4 => by omega) fun h3 => hS (.inr h3)]
  exact h1.g b hb hS, h2.vw.trans h1.vw⟩
theorem _root_.Go.Abs.Own.refl (S : Nat → Prop) (m : M) : Own S m S := fun _ hb => .inl hb
theorem _root_.Go.Abs.Own.trans {S S1 S2 : Nat → Prop} {m m1 : M} (h1 : Own S m S1) (h2 : Own S1 m1 S2) (hn : m.nxt ≤ m1.nxt) : Own S m S2 := fun b hb => (h2 b hb).elim (h1 b) fun h => .inr (by omega)
theorem _root_.Go.Abs.Chg.or {S T : Nat → Prop} {m m' : M} (h : Chg S m m') : Chg (fun b => S b ∨ T b) m m' := ⟨h.nxt, fun b hb hS => h.g b hb fun h2 => hS (.inl h2), h.vw⟩
theorem ints_set (L : List Int) (i : Nat) (v : Int) : (ints L).set i (.int .i64 v) = ints (L.set i v) := by unfold ints; rw [List.map_set]
theorem fits_small {n : Int} (h1 : -1000000 ≤ n) (h2 : n ≤ 1000000) : fitsP .i64 n := by simp only [fitsP]; omega
theorem mem_rests {α : Type} (g : Nat → List α) (a : α) : ∀ (e n : Nat), a ∈ rests g e n ↔ ∃ j, n ≤ j ∧ j < n + e ∧ a ∈ g j
 | 0, n => ⟨fun h => (by cases h), fun ⟨j, h1, h2, _⟩ => by omega⟩
 | e + 1, n => by
  show a ∈ g n ++ rests g e (n + 1) ↔ _
  rw [List.mem_append, mem_rests g a e (n + 1)]
  constructor
  ·rintro (h | ⟨j, h1, h2, h3⟩)
   ·exact ⟨n, Nat.le_refl _, by omega, h⟩
   ·exact ⟨j, by omega, by omega, h3⟩
  ·rintro ⟨j, h1, h2, h3⟩
   by_cases hj : j = n
   ·subst hj; exact .inl h3
   ·exact .inr ⟨j, by omega, by omega, h3⟩
def hdr (bl size : Nat) : C := .sl bl 0 size 0 (some size)
def flC (b k h2 b2 cv : Nat) : C := .fn (.func 138) [] [.c (.ptr b 0), .c (.ptr k 0), .c (.ptr h2 0), .c (.ptr b2 0), .c (.ptr cv 0)]
def VsL (all : List (List Int)) (n1 i : Nat) (x : List V) (m : M) : Prop := ∃ L c, all[i]? = some L ∧ x = [.c c] ∧ Li m c L ∧ (isNilC c = false ∧ slOk c 1 L.length) ∧ ∀ b o n s d, c = .sl b o n s d → n1 ≤ b
theorem _root_.Go.Abs.Bk.st1n {m : M} {b n : Nat} {vs : List C} (h : Bk m b n vs) {k : Nat} (c : C) (hk : k < vs.length) (hn : vs.length = n) : stC m (.ptr b (0 + k * 1)) 1 [c] = some (m.set b (.cells n (vs.set k c) false)) := by
 rw [show 0 + k * 1 = k by omega]
 by_cases h1 : n = 1
 ·subst h1
  have hk0 : k = 0 := by omega
  subst hk0
  have : vs.set 0 c = [c] := by
   match vs, hn with
   | [a], _ => rfl
  rw [this]
  exact stC_of h.g [c]
 ·exact stC_at h.g c hk hn h1
theorem rep0 (n : Nat) : repeatS [C.int .i64 0] n = ints (List.replicate n 0) := by rw [repeatS_eq]; simp [ints]
structure SlF (n size b b2 l k h2 bl cv : Nat) (S : Nat → Prop) (m : M) (P : List Int) : Prop where
 bb : Bk m b 1 [.int .i64 (size : Int)]
 nn : Bk m b2 1 [.int .i64 (n : Int)]
 kk : Bk m k 1 [.fn (.yield l) [] []]
 hh : Bk m h2 1 [hdr bl size]
 ll : Bk m bl size (ints P)
 cc : Bk m cv 1 [flC b k h2 b2 cv]
 ss : ∀ b', S b' → b' ≠ b ∧ b' ≠ b2 ∧ b' ≠ k ∧ b' ≠ h2 ∧ b' ≠ bl ∧ b' ≠ cv
 ne : b ≠ bl ∧ b2 ≠ bl ∧ k ≠ bl ∧ h2 ≠ bl ∧ cv ≠ bl
variable {n size b b2 l k h2 bl cv : Nat}
theorem SlF.to {S S' : Nat → Prop} {m m' : M} {P : List Int} (h : SlF n size b b2 l k h2 bl cv S m P) (hn : Chg S m m') (ho : Own S m S') : SlF n size b b2 l k h2 bl cv S' m' P := by
 have tr : ∀ {b' j : Nat} {vs : List C}, Bk m b' j vs → ¬ S b' → Bk m' b' j vs := fun hb hS => ⟨(hn.g _ hb.lt hS).trans hb.g, Nat.lt_of_lt_of_le hb.lt hn.nxt⟩
 refine ⟨tr h.bb fun h1 => (h.ss _ h1).1 rfl, tr h.nn fun h1 => (h.ss _ h1).2.1 rfl, tr h.kk fun h1 => (h.ss _ h1).2.2.1 rfl, tr h.hh fun h1 => (h.ss _ h1).2.2.2.1 rfl, tr h.ll fun h1 => (h.ss _ h1).2.2.2.2.1 rfl, tr h.cc fun h1 => (h.ss _ h1).2.2.2.2.2 rfl, fun b' hb => ?_, h.ne⟩
 rcases ho b' hb with h1 | h1
 ·exact h.ss b' h1
 ·have := h.bb.lt; have := h.nn.lt; have := h.kk.lt; have := h.hh.lt; have := h.ll.lt; have := h.cc.lt
  omega
theorem SlF.set {S : Nat → Prop} {m : M} {P : List Int} (h : SlF n size b b2 l k h2 bl cv S m P) (P' : List Int) : SlF n size b b2 l k h2 bl cv S (m.set bl (.cells size (ints P') false)) P' :=
 ⟨h.bb.setNe h.ne.1 _, h.nn.setNe h.ne.2.1 _, h.kk.setNe h.ne.2.2.1 _, h.hh.setNe h.ne.2.2.2.1 _, h.ll.set _, h.cc.setNe h.ne.2.2.2.2 _, h.ss, h.ne⟩
theorem SlF.li {S : Nat → Prop} {m : M} {P : List Int} (h : SlF n size b b2 l k h2 bl cv S m P) (hP : P.length = size) : Li m (hdr bl size) P := by
 refine ⟨by rw [ints_len]; omega, .inr ⟨bl, 0, 0, some size, by rw [hP]; rfl, h.ll.lt, fun _ => .inl ⟨size, ints P, false, h.ll.g, by rw [ints_len]; exact hP, by rw [ints_len]; omega, by rw [List.drop_zero, List.take_length]⟩⟩⟩
theorem sFill {n0 n1 : Nat} (hn : n ≤ 1000) (hsz : size ≤ 1000) (hn0 : n0 ≤ bl) (hn1 : n1 ≤ bl) {all : List (List Int)} {I : Nat → (Nat → Prop) → M → Prop} {E : (Nat → Prop) → M → Prop} (hcl : ClientV prog tbl n0 l (VsL all n1) I E) :
  ∀ (d p : Nat), d + p = size → ∀ (i fr : Nat) (S : Nat → Prop) (m : M) (P : List Int) (Q : V → M → Prop), SlF n size b b2 l k h2 bl cv S m P → P.length = size →
   (∀ j L, (combs n d (P.take p) fr)[j]? = some L → all[i + j]? = some L) → I i S m →
   (∀ S' m' P', Own S m S' → Chg (fun b' => S b' ∨ b' = bl) m m' → SlF n size b b2 l k h2 bl cv S' m' P' → P'.length = size → P'.take p = P.take p → I (i + (combs n d (P.take p) fr).length) S' m' → Q (.c (.bool true)) m') →
   (∀ S' m', Own S m S' → Chg (fun b' => S b' ∨ b' = bl) m m' → E S' m' → Q (.c (.bool false)) m') →
   Wc prog tbl 138 [.c (.int .i64 (p : Int)), .c (.int .i64 (fr : Int)), .c (.ptr b 0), .c (.ptr k 0), .c (.ptr h2 0), .c (.ptr b2 0), .c (.ptr cv 0)] m Q := by
 intro d
 induction d with
 | zero =>
  intro p hp i fr S m P Q hst hP hxs hI hT hF
  refine w138 (p : Int) (fr : Int) b k h2 b2 cv ⟨_, hst.bb.rc rfl, ?_⟩
  rw [ifB_dec]
  refine ⟨fun _ => ⟨_, hst.kk.rc rfl, _, hst.hh.rc rfl, ?_⟩, fun h1 => absurd (by omega) h1⟩
  have hx0 := hxs 0 (P.take p) rfl
  rw [List.take_of_length_le (by omega), Nat.add_zero] at hx0
  show Wy prog tbl l [.c (hdr bl size)] m _
  refine hcl.yield i _ S m ⟨P, hdr bl size, hx0, rfl, hst.li hP, ⟨rfl, .inr (.inl ⟨bl, 0, 0, size, by rw [hP]; rfl, by omega⟩)⟩, fun b' o n' s d h => by cases h; exact hn1⟩ hI _ (fun S' m' ho hch hI' => ⟨_, rfl, ?_⟩) fun S' m' ho hch hE => ⟨_, rfl, hF S' m' ho (Chg.or hch) hE⟩
  exact hT S' m' P ho (Chg.or hch) (hst.to hch ho) hP rfl hI'
 | succ d ih =>
  intro p hp i fr S m P Q hst hP hxs hI hT hF
  refine w138 (p : Int) (fr : Int) b k h2 b2 cv ⟨_, hst.bb.rc rfl, ?_⟩
  rw [ifB_dec]
  refine ⟨fun h1 => by omega, fun _ R6 hstep => ?_⟩
  let g : Nat → List (List Int) := fun x => combs n d (P.take p ++ [(x : Int)]) (x + 1)
  have hex : combs n (d + 1) (P.take p) fr = rests g (n - fr) fr := rfl
  rw [hex] at hxs hT
  have hgo : ∀ (e x : Nat) (b7 : Bool) (m9 : M) (S1 : Nat → Prop) (P1 : List Int) (i1 : Nat), n - x = e → Own S m S1 → Chg (fun b' => S b' ∨ b' = bl) m m9 → SlF n size b b2 l k h2 bl cv S1 m9 P1 → P1.length = size → P1.take p = P.take p → I i1 S1 m9 →
    i1 + (rests g e x).length = i + (rests g (n - fr) fr).length → (∀ j L, (rests g e x)[j]? = some L → all[i1 + j]? = some L) → R6 [.c (.bool b7), .c (.int .i64 (x : Int))] m9 := by
   intro e
   induction e with
   | zero =>
    intro x b7 m9 S1 P1 i1 hen ho hch hst1 hP1 htk hI1 hlen hxs1
    refine hstep _ _ _ ⟨_, hst1.nn.rc rfl, ?_⟩
    rw [ifB_dec]
    refine ⟨fun h1 => by omega, fun _ => hT S1 m9 P1 ho hch hst1 hP1 htk ?_⟩
    have : i1 + 0 = _ := hlen
    rw [← this, Nat.add_zero]; exact hI1
   | succ e ihe =>
    intro x b7 m9 S1 P1 i1 hen ho hch hst1 hP1 htk hI1 hlen hxs1
    refine hstep _ _ _ ⟨_, hst1.nn.rc rfl, ?_⟩
    rw [ifB_dec]
    refine ⟨fun _ => ?_, fun h1 => absurd (by omega) h1⟩
    have hp9 : p < P1.length := by omega
    refine ⟨_, hst1.hh.rc rfl, p, rfl, (by show p < size; omega), _, hst1.ll.st1n _ (by rw [ints_len]; exact hp9) (by rw [ints_len]; exact hP1), ?_⟩
    rw [ints_set]
    have hst2 := hst1.set (P1.set p (x : Int))
    have hch2 : Chg (fun b' => S1 b' ∨ b' = bl) m9 (m9.set bl (.cells size (ints (P1.set p (x : Int))) false)) := ⟨Nat.le_refl _, fun b' _ hS => by rw [M.g_set, if_neg fun h1 => hS (.inr h1)], rfl⟩
    have hI2 : I i1 S1 (m9.set bl (.cells size (ints (P1.set p (x : Int))) false)) := (hcl.li i1).st _ _ _ hI1 (Nat.le_refl _) rfl (fun b' hb => by rw [M.g_set, if_neg (hst1.ss b' hb).2.2.2.2.1]) (fun b' hb => by rw [M.g_set, if_neg (by omega)])
    have hchm := Chg.trans (T := fun b' => b' = bl) hch hch2 ho
    generalize m9.set bl (.cells size (ints (P1.set p (x : Int))) false) = m13 at hst2 hch2 hI2 hchm
    have hP2 : (P1.set p (x : Int)).length = size := by rw [List.length_set]; exact hP1
    have htk2 : (P1.set p (x : Int)).take (p + 1) = P.take p ++ [(x : Int)] := by rw [take_set hp9, htk]
    have htk3 : (P1.set p (x : Int)).take p = P.take p := by rw [List.take_set_of_le (Nat.le_refl _), htk]
    generalize P1.set p (x : Int) = P2 at hst2 htk2 htk3 hP2
    have hge : rests g (e + 1) x = g x ++ rests g e (x + 1) := rfl
    have hg : g x = combs n d (P2.take (p + 1)) (x + 1) := by rw [htk2]
    rw [hge, hg] at hlen hxs1
    rw [List.length_append] at hlen
    refine ⟨_, hst2.cc.rc rfl, fits_small (by omega) (by omega), fits_small (by omega) (by omega), ?_⟩
    show Wc prog tbl 138 [.c (.int .i64 ((p + 1 : Nat) : Int)), .c (.int .i64 ((x + 1 : Nat) : Int)), .c (.ptr b 0), .c (.ptr k 0), .c (.ptr h2 0), .c (.ptr b2 0), .c (.ptr cv 0)] m13 _
    refine ih (p + 1) (by omega) i1 (x + 1) S1 m13 P2 _ hst2 hP2 (fun j H hj => hxs1 j H (by rw [List.getElem?_append_left (List.getElem?_eq_some_iff.1 hj).1]; exact hj)) hI2 (fun S' m' P' ho' hch' hst' hP' htk' hI' => ⟨_, rfl, ?_⟩) fun S' m' ho' hch' hE => ⟨_, rfl, ?_⟩
    ·have htk4 : P'.take p = P.take p := by
      have h1 := congrArg (List.take p) htk'
      rw [List.take_take, List.take_take, Nat.min_eq_left (by omega)] at h1
      rw [h1, htk3]
     refine ⟨fits_small (by omega) (by omega), ihe (x + 1) b7 m' S' P' _ (by omega) (Own.trans ho ho' hchm.nxt) (Chg.trans (T := fun b' => b' = bl) hchm hch' ho) hst' hP' htk4 hI' (by omega) fun j H hj => ?_⟩
     rw [Nat.add_assoc]
     exact hxs1 _ H (by rw [List.getElem?_append_right (by omega), Nat.add_sub_cancel_left]; exact hj)
    ·exact hF S' m' (Own.trans ho ho' hchm.nxt) (Chg.trans (T := fun b' => b' = bl) hchm hch' ho) hE
  exact hgo (n - fr) fr false m S P i rfl (Own.refl S m) ⟨Nat.le_refl _, fun _ _ _ => rfl, rfl⟩ hst hP rfl hI rfl hxs
theorem lists_iter (hn : n ≤ 1000) (hsz : size ≤ 1000) : IterV prog tbl (.fn (.func 137) [] [.c (.ptr b 0), .c (.ptr b2 0)]) (combs n size [] 0).length (VsL (combs n size [] 0)) (fun b' => b' = b ∨ b' = b2) (fun m => Bk m b 1 [.int .i64 (size : Int)] ∧ Bk m b2 1 [.int .i64 (n : Int)]) := by
 refine ⟨fun m m' h hn' hv hg => ⟨⟨(hg b (.inl rfl)).trans h.1.g, Nat.lt_of_lt_of_le h.1.lt hn'⟩, ⟨(hg b2 (.inr rfl)).trans h.2.g, Nat.lt_of_lt_of_le h.2.lt hn'⟩⟩, fun m h b' hb => hb.elim (fun h1 => h1 ▸ h.1.lt) fun h1 => h1 ▸ h.2.lt, fun n0' l I E S m hcl hn0' hI hR hSD Q hQ => ?_⟩
 have hSlt := (hcl.li 0).lt _ _ hI
 have hb := hR.1.lt
 have hb2 := hR.2.lt
 show Wc prog tbl 137 [.c (.fn (.yield l) [] []), .c (.ptr b 0), .c (.ptr b2 0)] m Q
 refine w137 _ b b2 fun m0 e0 => ?_
 obtain ⟨b0, x0⟩ := Bk.new e0
 refine ⟨_, (hR.1.ext x0).rc rfl, size, size, rfl, rfl, Nat.le_refl _, by omega, fun m4 e4 m5 e5 => ?_⟩
 rw [rep0, Nat.mul_one] at e4
 obtain ⟨b4, x4⟩ := Bk.new e4
 obtain ⟨b5, x5⟩ := Bk.new e5
 have n0 : m0.nxt = m.nxt + 1 := by rw [e0]; rfl
 have n4 : m4.nxt = m.nxt + 2 := by rw [e4]; show m0.nxt + 1 = _; omega
 have n5 : m5.nxt = m.nxt + 3 := by rw [e5]; show m4.nxt + 1 = _; omega
 refine ⟨_, b5.st _, fun m7 e7 => ?_⟩
 have k6 := b5.set [C.sl m0.nxt 0 size 0 (some size)]
 have x6 : Ext m (m5.set m4.nxt (.cells 1 [C.sl m0.nxt 0 size 0 (some size)] false)) := ((x0.trans x4).trans x5).setR (by omega) _
 have k0 : Bk (m5.set m4.nxt (.cells 1 [C.sl m0.nxt 0 size 0 (some size)] false)) m.nxt 1 [.fn (.yield l) [] []] := ((b0.ext x4).ext x5).setNe (by omega) _
 have k4 : Bk (m5.set m4.nxt (.cells 1 [C.sl m0.nxt 0 size 0 (some size)] false)) m0.nxt size (ints (List.replicate size 0)) := (b4.ext x5).setNe (by omega) _
 have n6 : (m5.set m4.nxt (.cells 1 [C.sl m0.nxt 0 size 0 (some size)] false)).nxt = m.nxt + 3 := n5
 have e7' : m7 = (m5.set m4.nxt (.cells 1 [C.sl m0.nxt 0 size 0 (some size)] false)).new (.cells 1 [.nilFn] false) := e7
 clear e7
 generalize m5.set m4.nxt (.cells 1 [C.sl m0.nxt 0 size 0 (some size)] false) = m6 at k6 x6 k0 k4 n6 e7' ⊢
 obtain ⟨b7, x7⟩ := Bk.new e7'
 have n7 : m7.nxt = m.nxt + 4 := by rw [e7']; show m6.nxt + 1 = _; omega
 refine ⟨_, b7.st _, _, (b7.set _).rc rfl, ?_⟩
 have k8 := b7.set [flC b m.nxt m4.nxt b2 m6.nxt]
 have x8 : Ext m (m7.set m6.nxt (.cells 1 [flC b m.nxt m4.nxt b2 m6.nxt] false)) := (x6.trans x7).setR (by omega) _
 have j0 := (k0.ext x7).setNe (c := m6.nxt) (by omega) (.cells 1 [flC b m.nxt m4.nxt b2 m6.nxt] false)
 have j4 := (k4.ext x7).setNe (c := m6.nxt) (by omega) (.cells 1 [flC b m.nxt m4.nxt b2 m6.nxt] false)
 have j6 := (k6.ext x7).setNe (c := m6.nxt) (by omega) (.cells 1 [flC b m.nxt m4.nxt b2 m6.nxt] false)
 show callP prog tbl _ (flC b m.nxt m4.nxt b2 m6.nxt) (m7.set m6.nxt (.cells 1 [flC b m.nxt m4.nxt b2 m6.nxt] false)) _
 generalize m7.set m6.nxt (.cells 1 [flC b m.nxt m4.nxt b2 m6.nxt] false) = m8 at k8 x8 j0 j4 j6
 have hI8 : I 0 S m8 := (hcl.li 0).st _ _ _ hI x8.nxt x8.vw (fun b' hb => x8.g b' (hSlt b' hb)) (fun b' hb => x8.g b' (by omega))
 have hSl : SlF n size b b2 l m.nxt m4.nxt m0.nxt m6.nxt S m8 (List.replicate size 0) := ⟨hR.1.ext x8, hR.2.ext x8, j0, j6, j4, k8, fun b' hb' => by
  have h1 := hSlt b' hb'
  have h2 := hSD b' hb'
  exact ⟨fun h => h2 (.inl h), fun h => h2 (.inr h), by omega, by omega, by omega, by omega⟩, by omega⟩
 have hchg : ∀ {m' : M}, Chg (fun b' => S b' ∨ b' = m0.nxt) m8 m' → Chg S m m' := fun {m'} h => ⟨Nat.le_trans x8.nxt h.nxt, fun b' hb hSb => by
  rw [h.g b' (Nat.lt_of_lt_of_le hb x8.nxt) fun h3 => h3.elim hSb fun h4 => by omega]
  exact x8.g b' hb, h.vw.trans x8.vw⟩
 show Wc prog tbl 138 [.c (.int .i64 ((0 : Nat) : Int)), .c (.int .i64 ((0 : Nat) : Int)), .c (.ptr b 0), .c (.ptr m.nxt 0), .c (.ptr m4.nxt 0), .c (.ptr b2 0), .c (.ptr m6.nxt 0)] m8 _
 refine sFill hn hsz (n0 := n0') (n1 := m.nxt) (by omega) (by omega) hcl size 0 (by omega) 0 0 S m8 _ _ hSl (by simp) (fun j L hj => by rw [Nat.zero_add]; exact hj) hI8 (fun S' m' P' ho hch hst' _ _ hI' => ⟨_, rfl, ?_⟩) fun S' m' ho hch hE => ⟨_, rfl, ?_⟩
 ·rw [Nat.zero_add] at hI'
  exact hQ _ S' m' (Own.trans (Own.refl S m) ho x8.nxt) (hchg hch) (.inl hI')
 ·exact hQ _ S' m' (Own.trans (Own.refl S m) ho x8.nxt) (hchg hch) (.inr hE)
theorem isNil_ne {m : M} {z : C} {L : List Int} (hz : Li m z L) (hn : isNilC z = false) : ∃ b o n s c, z = .sl b o n s c := by
 rcases hz.val with ⟨rfl, _⟩ | ⟨b, o, s, c, rfl, _⟩
 ·cases hn
 ·exact ⟨_, _, _, _, _, rfl⟩
theorem sClone {z : C} {L : List Int} {m : M} {Q : V → M → Prop} (hz : Li m z L) (hn : isNilC z = false) (hL : L.length ≤ 1000) (h : ∀ z' m', Ext m m' → Li m' z' L → Fr m z' → slOk z' 1 L.length → Q (.c z') m') : Wc prog tbl 132 [.c z] m Q := by
 obtain ⟨b, o, n, s, c, rfl⟩ := isNil_ne hz hn
 refine w132 ⟨trivial, trivial, trivial, rfl, ?_⟩
 show ∀ m0 : M, _
 intro m0 e0
 obtain ⟨b0, x0⟩ := Bk.new e0
 have ho : Own1 m0 1 (.sl m.nxt 0 0 0 (some 0)) [] 0 := ⟨rfl, .lit _ b0.g b0.lt⟩
 by_cases h0 : L.length = 0
 ·have hL0 : L = [] := List.eq_nil_of_length_eq_zero h0
  subst hL0
  exact ⟨_, _, ap_none t22 g3 z3 ho (hz.ext x0), h _ _ x0 ho.ls (fun b o n s d hq => by cases hq; exact Nat.le_refl _) (.inr (.inl ⟨_, _, _, _, rfl, Nat.le_refl _⟩))⟩
 ·obtain ⟨m', q1, q2, q3, q4, q5⟩ := ap_own t22 g3 z3 ho (hz.ext x0) (by omega) (by omega) (by omega)
  have n0 : m0.nxt = m.nxt + 1 := by rw [e0]; rfl
  refine ⟨_, m', q1, h _ _ ⟨by omega, fun b' hb => ?_, q4.trans x0.vw⟩ ?_ (fun b o n s d hq => by cases hq; omega) (.inr (.inr ⟨_, _, by rw [Nat.zero_add]⟩))⟩
  ·rw [q5 b' (by omega) (by intro hq; cases hq)]; exact x0.g b' hb
  ·have := q2.ls
   rw [List.nil_append] at this
   have e : 0 + L.length = L.length := Nat.zero_add _
   rw [e] at this ⊢
   exact this
theorem rests_split {α : Type} (g : Nat → List α) (p : α → Bool) : ∀ e x, (rests g (e + 1) x).find? p = ((g x).find? p).or ((rests g e (x + 1)).find? p) := fun e x => by
 show (g x ++ rests g e (x + 1)).find? p = _
 rw [List.find?_append]
def Tests (n : Nat) (m : M) (fnc : C) (t : List Int → Bool) : Prop :=
 ∀ m' z L, Ext m m' → Li m' z L → slOk z 1 L.length → L ∈ allL n → ∀ Q : V → M → Prop, (∀ m'', Ext m' m'' → Q (.c (.bool (t L))) m'') → callP prog tbl [.c z] fnc m' Q
theorem drop_find {l : List (List Int)} {i : Nat} {a : List Int} (h : l[i]? = some a) (p : List Int → Bool) : (l.drop i).find? p = if p a then some a else (l.drop (i + 1)).find? p := by
 obtain ⟨hi, ha⟩ := List.getElem?_eq_some_iff.1 h
 rw [List.drop_eq_getElem_cons hi, ha, List.find?_cons]
 cases p a <;> rfl
theorem combs_len {n : Nat} {L : List Int} : ∀ {d : Nat} {pre : List Int} {fr : Nat}, L ∈ combs n d pre fr → L.length = pre.length + d
 | 0, pre, fr, h => by
  have : L = pre := List.mem_singleton.1 h
  rw [this]; rfl
 | d + 1, pre, fr, h => by
  obtain ⟨x, _, _, h3⟩ := (mem_rests _ _ _ _).1 h
  have := combs_len h3
  rw [List.length_append] at this
  simp only [List.length_cons, List.length_nil] at this
  omega
theorem sShort {n : Nat} {fnc : C} {t : List Int → Bool} {m : M} {Q : V → M → Prop} (hn : n ≤ 100) (ht : Tests n m fnc t) (h : ∀ z m', Ext m m' → Li m' z (shortL n t) → slOk z 1 (shortL n t).length → (∀ b o n' s d, z = .sl b o n' s d → m.nxt ≤ b) → Q (.c z) m') : Wc prog tbl 118 [.c (.int .i64 (n : Int)), .c fnc] m Q := by
 refine w118 fun m0 e0 m1 e1 => ?_
 obtain ⟨b0, x0⟩ := Bk.new e0
 obtain ⟨b1, x1⟩ := Bk.new e1
 have x01 := x0.trans x1
 have n0 : m0.nxt = m.nxt + 1 := by rw [e0]; rfl
 refine ⟨fits_small (by omega) (by omega), fun R2 hstep => ?_⟩
 let G : Nat → List (List Int) := fun s => combs n s [] 0
 have hgo : ∀ (e s : Nat) (m4 : M), e + s = n + 1 → Ext m m4 → Bk m4 m.nxt 1 [fnc] → Bk m4 m0.nxt 1 [.sl0] → (rests G e s).find? t = (allL n).find? t → R2 [.c (.int .i64 (s : Int))] m4 := by
  intro e
  induction e with
  | zero =>
   intro s m4 hes x4 k0 k1 hfind
   refine hstep _ _ ?_
   rw [ifB_dec]
   refine ⟨fun h1 => by omega, fun _ => ⟨_, k1.rc rfl, ?_⟩⟩
   have : shortL n t = [] := by unfold shortL; rw [← hfind]; rfl
   refine h _ _ x4 ?_ ?_ fun _ _ _ _ _ h9 => by cases h9
   ·rw [this]; exact Ls.nil m4 1
   ·rw [this]; exact .inl ⟨rfl, rfl⟩
  | succ e ih =>
   intro s m4 hes x4 k0 k1 hfind
   refine hstep _ _ ?_
   rw [ifB_dec]
   refine ⟨fun _ => ?_, fun h1 => absurd (by omega) h1⟩
   refine w131 fun m5 e5 m6 e6 => ?_
   obtain ⟨b5, x5⟩ := Bk.new e5
   obtain ⟨b6, x6⟩ := Bk.new e6
   have x56 := x5.trans x6
   refine ⟨_, rfl, ?_⟩
   have hk0 := k0.lt
   have hk1 := k1.lt
   have n5 : m5.nxt = m4.nxt + 1 := by rw [e5]; rfl
   have x46 := x4.trans x56
   have k06 := k0.ext x56
   have k16 := k1.ext x56
   rw [rests_split] at hfind
   refine range_iterV (lists_iter (b := m5.nxt) (b2 := m4.nxt) (n := n) (size := s) (by omega) (by omega)) ⟨b6, b5.ext x6⟩
    (J := fun i S ma => (∀ b', S b' ↔ b' = m0.nxt) ∧ Bk ma m0.nxt 1 [.sl0] ∧ ((G s).drop i).find? t = (G s).find? t ∧ m6.nxt ≤ ma.nxt ∧ ma.vw = m6.vw ∧ ∀ b', b' < m6.nxt → b' ≠ m0.nxt → ma.g b' = m6.g b')
    (X := fun ex S ma => ex = .exit 0 ∧ ∃ z L, (∀ b', S b' ↔ b' = m0.nxt ∨ ∃ o n s d, z = .sl b' o n s d) ∧ Bk ma m0.nxt 1 [z] ∧ Li ma z L ∧ (∀ b' o n s d, z = .sl b' o n s d → m.nxt ≤ b' ∧ b' < ma.nxt) ∧ ((G s).find? t = some L ∧ slOk z 1 L.length) ∧ m6.nxt ≤ ma.nxt ∧ ma.vw = m6.vw ∧ ∀ b', b' < m6.nxt → b' ≠ m0.nxt → ma.g b' = m6.g b')
    (fun i => ⟨fun S ma mb hj hn' hv hg hlow => ⟨hj.1, ⟨(hg _ ((hj.1 _).2 rfl)).trans hj.2.1.g, Nat.lt_of_lt_of_le hj.2.1.lt hn'⟩, hj.2.2.1, Nat.le_trans hj.2.2.2.1 hn', hv.trans hj.2.2.2.2.1, fun b' hb' hne => (hlow b' hb').trans (hj.2.2.2.2.2 b' hb' hne)⟩, fun S ma hj b' hb' => by rw [(hj.1 b').1 hb']; exact hj.2.1.lt⟩)
    (fun ex => ⟨fun S ma mb hj hn' hv hg hlow => ?_, fun S ma hj b' hb' => ?_⟩) (S0 := fun b' => b' = m0.nxt) ⟨fun _ => Iff.rfl, k16, rfl, Nat.le_refl _, rfl, fun _ _ _ => rfl⟩ (fun b' hb' hd => by rcases hd with hd | hd <;> omega) ?_ ?_ ?_ ?_
   ·obtain ⟨h1, z, L, h2, h3, h4, h5, h6, h7, h8, h9⟩ := hj
    refine ⟨h1, z, L, h2, ⟨(hg _ ((h2 _).2 (.inl rfl))).trans h3.g, Nat.lt_of_lt_of_le h3.lt hn'⟩, h4.to hn' (fun b' _ hx' => ?_) hv, fun b' o n s d hz => ⟨(h5 b' o n s d hz).1, Nat.lt_of_lt_of_le (h5 b' o n s d hz).2 hn'⟩, h6, Nat.le_trans h7 hn', hv.trans h8, fun b' hb' hne => (hlow b' hb').trans (h9 b' hb' hne)⟩
    obtain ⟨o, s', d, hx'⟩ := hx'
    exact hg b' ((h2 b').2 (.inr ⟨_, _, _, _, hx'⟩))
   ·obtain ⟨h1, z, L, h2, h3, h4, h5, h6, _⟩ := hj
    rcases (h2 b').1 hb' with rfl | ⟨o, n', s', d, hz⟩
    ·exact h3.lt
    ·exact (h5 _ _ _ _ _ hz).2
   ·intro i xv S ma B' enter K hxv hj hlt hSl hown henter hK
    obtain ⟨L, z, hL, rfl, hz, hnil, hfr⟩ := hxv
    obtain ⟨hS, hkb, hf, hn6, hv6, hg6⟩ := hj
    refine ⟨z, rfl, henter ma _ rfl fun m15 hn15 hv15 hg15 hB15 => ?_⟩
    have hne0 : m0.nxt ≠ m6.nxt := by have := k16.lt; omega
    have hl15 : Li m15 z L := hz.to (by omega) (fun b' _ hx' => by obtain ⟨o, s', d, hx'⟩ := hx'; exact hg15 b' (by have := hfr b' _ _ _ _ hx'; omega)) hv15
    have kk15 : Bk m15 m0.nxt 1 [.sl0] := ⟨(hg15 _ hne0).trans hkb.g, by rw [hn15]; exact hkb.lt⟩
    have hold : ∀ b', b' < m6.nxt → b' ≠ m0.nxt → m15.g b' = m6.g b' := fun b' hb' hne => (hg15 b' (by omega)).trans (hg6 b' hb' hne)
    have x15 : Ext m m15 := ⟨by rw [hn15]; exact Nat.le_trans x46.nxt hn6, fun b' hb' => by rw [hold b' (Nat.lt_of_lt_of_le hb' x46.nxt) (by omega)]; exact x46.g b' hb', by rw [hv15, hv6]; exact x46.vw⟩
    have kf15 : Bk m15 m.nxt 1 [fnc] := ⟨(hold _ k06.lt (by omega)).trans k06.g, by rw [hn15]; exact Nat.lt_of_lt_of_le k06.lt hn6⟩
    have hLm : L ∈ combs n s [] 0 := List.mem_of_getElem? hL
    have hmem : L ∈ allL n := (mem_rests _ _ _ _).2 ⟨s, Nat.zero_le _, by omega, hLm⟩
    have hlen := combs_len hLm
    simp only [List.length_nil] at hlen
    refine ⟨fnc, kf15.rc rfl, ht m15 z L x15 hl15 hnil.2 hmem _ fun m18 e18 => ⟨_, rfl, ?_⟩⟩
    have kk18 := kk15.ext e18
    have hg18 : ∀ b', b' < ma.nxt → b' ≠ m6.nxt → m18.g b' = ma.g b' := fun b' hb' hne => by rw [e18.g b' (by omega)]; exact hg15 b' hne
    have hn18 : ma.nxt ≤ m18.nxt := by rw [← hn15]; exact e18.nxt
    have hv18 : m18.vw = ma.vw := e18.vw.trans hv15
    have hB18 : m18.g m6.nxt = m15.g m6.nxt := e18.g _ (by omega)
    rw [ifB_iff]
    refine ⟨fun htl => ?_, fun htl => ?_⟩
    ·refine sClone (hl15.ext e18) hnil.1 (by omega) fun z' m21 e21 hz' hfr' hok' => ⟨z', rfl, _, (kk18.ext e21).st _, ?_⟩
     have hzne : ∀ b' o n s d, z' = .sl b' o n s d → b' ≠ m0.nxt := fun b' o n s d hq => by have := hfr' b' o n s d hq; have := kk18.lt; omega
     refine hK (.exit 0) (fun b' => b' = m0.nxt ∨ ∃ o n s d, z' = .sl b' o n s d) _ (hB15 _ ?_) (Nat.le_trans hn18 e21.nxt) (e21.vw.trans hv18) (fun b' hb' hSb hbl => ?_) (fun b' hb' => ?_) ⟨rfl, z', L, fun _ => Iff.rfl, (kk18.ext e21).set _, hz'.setNe hzne _, fun b' o n s d hq => ?_, ?_, ?_, ?_, fun b' hb' hne => ?_⟩
     ·rw [M.g_set, if_neg (by omega), e21.g _ (by omega)]; exact hB18
     ·rw [M.g_set, if_neg fun h0 => hSb ((hS b').2 h0), e21.g b' (by omega)]; exact hg18 b' hb' hbl
     ·rcases hb' with h0 | ⟨o, n', s', d, hq⟩
      ·exact .inl ((hS b').2 h0)
      ·exact .inr (by have := hfr' _ _ _ _ _ hq; omega)
     ·have hmm : m.nxt ≤ b' := by have := hfr' _ _ _ _ _ hq; have := x15.nxt; have := e18.nxt; omega
      refine ⟨hmm, ?_⟩
      subst hq
      rcases hz'.val with ⟨h0, _⟩ | ⟨b3, o3, s3, c3, h0, h1, _⟩
      ·cases h0
      ·cases h0; exact h1
     ·exact ⟨by rw [← hf, drop_find hL, if_pos htl], hok'⟩
     ·exact Nat.le_trans hn6 (Nat.le_trans hn18 e21.nxt)
     ·exact (e21.vw.trans hv18).trans hv6
     ·rw [M.g_set, if_neg hne, e21.g b' (by omega), hg18 b' (by omega) (by omega)]; exact hg6 b' hb' hne
    ·refine hK .nrm S _ (hB15 _ hB18) hn18 hv18 (fun b' hb' _ hbl => hg18 b' hb' hbl) (Own.refl S ma) ⟨hS, kk18, ?_, Nat.le_trans hn6 hn18, hv18.trans hv6, fun b' hb' hne => by rw [hg18 b' (by omega) (by omega)]; exact hg6 b' hb' hne⟩
     rw [← hf, drop_find hL, if_neg (by rw [htl]; decide)]
   ·intro S' m5' hown hlt hv hg hj
    obtain ⟨hS, hkb, hf, hn6, hv6, hg6⟩ := hj
    have hnone : (G s).find? t = none := by rw [← hf, List.drop_eq_nil_of_le (Nat.le_refl _)]; rfl
    rw [hnone] at hfind
    refine ⟨fits_small (by omega) (by omega), ih (s + 1) m5' (by omega) ⟨Nat.le_trans x46.nxt hn6, fun b' hb' => by rw [hg6 b' (Nat.lt_of_lt_of_le hb' x46.nxt) (by omega)]; exact x46.g b' hb', hv6.trans x46.vw⟩ ⟨(hg6 _ k06.lt (by omega)).trans k06.g, Nat.lt_of_lt_of_le k06.lt hn6⟩ hkb hfind⟩
   ·intro id S' m5' hown hlt hv hg hj
    obtain ⟨h1, z, L, h2, h3, h4, h5, h6, hn6, hv6, hg6⟩ := hj
    cases h1
    refine ⟨z, h3.rc rfl, h z m5' ⟨Nat.le_trans x46.nxt hn6, fun b' hb' => by rw [hg6 b' (Nat.lt_of_lt_of_le hb' x46.nxt) (by omega)]; exact x46.g b' hb', hv6.trans x46.vw⟩ ?_ ?_ fun b o n' s d hz => (h5 b o n' s d hz).1⟩ <;> rw [show shortL n t = L from by unfold shortL; rw [← hfind, h6.1]; rfl]
    ·exact h4
    ·exact h6.2
   ·intro S' m5' hown hlt hv hg hj
    exact absurd hj.1 (by intro h; cases h)
 exact hgo (n + 1) 0 m1 (by omega) x01 (b0.ext x1) b1 rfl
end
end Go.Proofs.Ytbnfnhfanooplaa

namespace Go.Proofs.Ytbnfnhfanooplaa
open _root_.Go.Proofs.Try
open Go.Abs
set_option maxRecDepth 100000
noncomputable section
def Fv_LInt_Bool (f : M) (x : C) (g : List Int → Option (Bool)) : Prop := ∀ (f' m : M) (a0 : List Int) (c0 : C) (r : Bool) (Q : V → M → Prop), Sub f f' → Pre f' m → Sl f' c0 a0 → g a0 = some r → (∀ m', Ext m m' → Q (.c (.bool r)) m') → callP prog tbl [.c c0] x m Q
theorem cat_ints {f : M} : ∀ (l : List Int), Cat f (ints l) l
 | [] => rfl
 | a :: l => ⟨[.int .i64 a], ints l, rfl, rfl, cat_ints l⟩
def asM (m : M) : M := { nxt := m.nxt, g := fun b => if b < m.nxt then m.g b else none, vw := m.vw }
theorem asM_sub (m : M) : Sub (asM m) m := ⟨Nat.le_refl _, rfl, fun _b hb _ => (if_pos hb).symm⟩
theorem asM_of {f m m' : M} (h : Sub f m) (e : Ext m m') : Sub f (asM m') := ⟨Nat.le_trans h.nxt e.nxt, e.vw.trans h.vw, fun b hb hd => by
 have := Nat.lt_of_lt_of_le hb h.nxt
 have := e.nxt
 show (if b < m'.nxt then m'.g b else none) = _
 rw [if_pos (by omega), e.g b (by omega)]
 exact h.g b hb hd⟩
theorem asM_pre {f m m' : M} (h : Pre f m) (e : Ext m m') : Pre (asM m') m' := ⟨asM_sub m', fun b hb => if_neg (by have hb : m'.nxt ≤ b := hb; omega), fun b hb => by
 have hb : m'.nxt ≤ b := hb
 show m'.vw b = none
 rw [e.vw, h.sub.vw]
 exact h.fv b (Nat.le_trans h.sub.nxt (Nat.le_trans e.nxt hb))⟩
theorem sl_of {m : M} {z : C} {L : List Int} (h : Li m z L) (hok : slOk z 1 L.length) : Sl (asM m) z L := by
 refine ⟨ints L, ⟨h.len, ?_⟩, cat_ints L, hok⟩
 rcases h.val with h1 | ⟨b, o, t, c, h1, h2, h3⟩
 ·exact .inl h1
 ·refine .inr ⟨b, o, t, c, h1, h2, fun h0 => (h3 h0).to' ?_ rfl⟩
  exact if_pos h2
def grM (f m m' : M) : M := { nxt := m'.nxt, g := fun b => if b < m.nxt then f.g b else if b < m'.nxt then m'.g b else none, vw := f.vw }
theorem grM_pre {f m m' : M} (h : Pre f m) (e : Ext m m') : Pre (grM f m m') m' := by
 have hn := h.sub.nxt
 have he := e.nxt
 refine ⟨⟨Nat.le_refl _, by show m'.vw = f.vw; rw [e.vw, h.sub.vw], fun b hb hd => ?_⟩, fun b hb => ?_, fun b hb => h.fv b (by have hb : m'.nxt ≤ b := hb; omega)⟩
 ·show m'.g b = (if b < m.nxt then f.g b else if b < m'.nxt then m'.g b else none)
  have hb : b < m'.nxt := hb
  by_cases hbm : b < m.nxt
  ·rw [if_pos hbm]
   have hd : (if b < m.nxt then f.g b else if b < m'.nxt then m'.g b else none) ≠ none ∨ f.vw b ≠ none := hd
   rw [if_pos hbm] at hd
   have hbf : b < f.nxt := by
    rcases Nat.lt_or_ge b f.nxt with h1 | h1
    ·exact h1
    ·exact (hd.elim (fun h2 => h2 (h.fz b h1)) fun h2 => h2 (h.fv b h1)).elim
   rw [e.g b hbm]; exact h.sub.g b hbf hd
  ·rw [if_neg hbm, if_pos hb]
 ·have hb : m'.nxt ≤ b := hb
  show (if b < m.nxt then f.g b else if b < m'.nxt then m'.g b else none) = none
  rw [if_neg (by omega), if_neg (by omega)]
theorem s_shortest {n : Int} {passes : List Int → Option Bool} {c2 : C} {m f : M} {Q : V → M → Prop} {rz : List Int} (hS : Pre f m) (hF : Fv_LInt_Bool f c2 passes) (hp : pshortest n passes = some rz) (hq : ∀ m' f' c0, Grw m f m' f' → Sl f' c0 rz → Q (.c c0) m') : Wc prog tbl 118 [.c (Il n), .c c2] m Q := by
 obtain ⟨⟨p, q, i⟩, hp⟩ := gd_some hp
 obtain rfl := Option.some.inj hp
 have hn : n = ((n.toNat : Nat) : Int) := by omega
 rw [hn]
 refine sShort (n := n.toNat) (t := fun L => (passes L).getD false) (by omega) (fun m' z L e hz hok hL Q' hQ' => ?_) fun z m' e hz hok hfr => ?_
 ·have hs := i L hL
  cases hpl : passes L with
  | none => rw [hpl] at hs; cases hs
  | some b =>
   refine hF (asM m') m' L z b Q' (asM_of hS.sub e) (asM_pre hS e) (sl_of hz hok) hpl fun m'' e' => ?_
   have d : Q' (V.c (C.bool ((passes L).getD false))) m'' := hQ' m'' e'
   rw [hpl] at d
   exact d
 ·refine hq m' (grM f m m') z ⟨e, ⟨Nat.le_trans hS.sub.nxt e.nxt, rfl, fun b hb _ => if_pos (Nat.lt_of_lt_of_le hb hS.sub.nxt)⟩, grM_pre hS e, fun b hb => if_pos hb⟩ ?_
  refine ⟨ints _, ⟨hz.len, ?_⟩, cat_ints _, hok⟩
  rcases hz.val with a | ⟨b, o, t, c, a, h, j⟩
  ·exact .inl a
  ·refine .inr ⟨b, o, t, c, a, h, fun l => (j l).to' ?_ ?_⟩
   ·have d := hfr _ _ _ _ _ a
    show (if b < m.nxt then f.g b else if b < m'.nxt then m'.g b else none) = _
    rw [if_neg (by omega), if_pos h]
   ·show f.vw b = m'.vw b
    rw [e.vw, hS.sub.vw]
end
end Go.Proofs.Ytbnfnhfanooplaa

