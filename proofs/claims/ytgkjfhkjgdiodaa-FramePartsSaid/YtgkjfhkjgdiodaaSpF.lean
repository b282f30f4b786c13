/- What functions of the program ask and do. Condition: none; a lemma text of this claim. -/
import Derived.Test.YtgkjfhkjgdiodaaSpE
namespace Go.Proofs.Ytgkjfhkjgdiodaa
open _root_.Go.Proofs.Try
open Go.Abs
set_option maxRecDepth 100000
noncomputable section
def bls (B : List Bool) : List C := B.map C.bool
theorem bls_len (B : List Bool) : (bls B).length = B.length := by simp [bls]
theorem bls_at {B : List Bool} {i : Nat} (h : i < B.length) : (bls B)[i]? = some (.bool B[i]) := by simp [bls, h]
theorem bls_set (B : List Bool) (i : Nat) (v : Bool) : (bls B).set i (.bool v) = bls (B.set i v) := by unfold bls; rw [List.map_set]
theorem six {H : List Bool} (h : H.length = 6) : ∃ a0 a1 a2 a3 a4 a5, H = [a0, a1, a2, a3, a4, a5] := by
  match H, h with
  | [a0, a1, a2, a3, a4, a5], _ => exact ⟨a0, a1, a2, a3, a4, a5, rfl⟩
theorem bls_rc {m : M} {b : Nat} {B : List Bool} (hb : Bk m b 6 (bls B)) {k : Nat} (hk : k < B.length) : ldC m (.ptr b (0 + k * 1)) = some (.bool B[k]) := by
  rw [show 0 + k * 1 = k by omega]
  exact hb.rc (bls_at hk)
def within (B O : List Bool) : Bool := decide (∀ i : Nat, i < 6 → B[i]! = true → O[i]! = true)
theorem s113 {B O : List Bool} {m : M} {Q : V → M → Prop} (hB : B.length = 6) (hO : O.length = 6) (h : ∀ m', Ext m m' → Q (.c (.bool (within B O))) m') :
    Wc prog tbl 113 [.agg 6 (bls B), .agg 6 (bls O)] m Q := by
  obtain ⟨a0, a1, a2, a3, a4, a5, hBe⟩ := six hB
  obtain ⟨o0, o1, o2, o3, o4, o5, hOe⟩ := six hO
  rw [show bls B = bls [a0, a1, a2, a3, a4, a5] by rw [← hBe], show bls O = bls [o0, o1, o2, o3, o4, o5] by rw [← hOe]]
  refine w113 fun m0 e0 m1 e1 R2 hstep => ?_
  obtain ⟨b0', x0⟩ := Bk.new e0
  obtain ⟨b1', x1⟩ := Bk.new e1
  have b0 : Bk m1 m.nxt 6 (bls B) := by rw [hBe]; exact b0'.ext x1
  have b1 : Bk m1 m0.nxt 6 (bls O) := by rw [hOe]; exact b1'
  have x01 := x0.trans x1
  have hgo : ∀ (d i : Nat) (b : Bool), d + i = 6 → (∀ j : Nat, j < i → B[j]! = true → O[j]! = true) → R2 [.c (.bool b), .c (.int .i64 (i : Int))] m1 := by
    intro d
    induction d with
    | zero =>
      intro i b hd hn
      refine hstep _ _ _ ?_
      rw [ifB_dec]
      refine ⟨fun h1 => by omega, fun _ => ?_⟩
      have hq := h m1 x01
      rw [show within B O = true from decide_eq_true fun j hj => hn j (by omega)] at hq
      exact hq
    | succ d ih =>
      intro i b hd hn
      refine hstep _ _ _ ?_
      rw [ifB_dec]
      refine ⟨fun _ => ?_, fun h1 => by omega⟩
      have hi : i < B.length := by omega
      have hi2 : i < O.length := by omega
      have e1 : B[i]! = B[i] := getElem!_pos B i hi
      have e2 : O[i]! = O[i] := getElem!_pos O i hi2
      have hnext : (B[i] = true → O[i] = true) → R2 [.c (.bool b), .c (.int .i64 ((i + 1 : Nat) : Int))] m1 := fun hh => ih (i + 1) b (by omega) fun j hj => by
        by_cases hji : j = i
        · subst hji; rw [e1, e2]; exact hh
        · exact hn j (by omega)
      refine ⟨trivial, i, rfl, by omega, B[i], bls_rc b0 hi, ?_⟩
      rw [ifB_iff]
      refine ⟨fun h2 => ⟨trivial, i, rfl, by omega, O[i], bls_rc b1 hi2, ?_⟩, fun h2 => ⟨fits_small (by omega) (by omega), hnext fun h3 => by rw [h2] at h3; cases h3⟩⟩
      rw [ifB_iff]
      refine ⟨fun h3 => ?_, fun h3 => ⟨fits_small (by omega) (by omega), hnext fun _ => by simpa using h3⟩⟩
      have hq := h m1 x01
      rw [show within B O = false from decide_eq_false fun h4 => by have := h4 i (by omega); rw [e1, e2, h2] at this; rw [this rfl] at h3; cases h3] at hq
      exact hq
  exact hgo 6 0 false (by omega) (by intro j hj; omega)
/-! ### a map from spots -/
abbrev Spot := Fin 16 × Fin 16
def encS (a : Spot) : U := .agg 2 [.int .i64 (a.1.val : Int), .int .i64 (a.2.val : Int)]
theorem eqK_int {a b : Int} (ha : fitsP .i64 a) (hb : fitsP .i64 b) : eqK (.int .i64) (.int .i64 a) (.int .i64 b) = some (decide (a = b)) := by
  show ifB (Go.Abs.fits .i64 a) (ifB (Go.Abs.fits .i64 b) (some (intEq a b)) none) none = _
  rw [fits_of ha, fits_of hb, intEq_eq]; rfl
theorem keyS : KeyLike prog 138 encS := by
  have hpl : plainK prog 138 = some [.int .i64, .int .i64] := by kernel_rfl
  have hag : isAggT prog 138 = true := by kernel_rfl
  refine ⟨⟨_, hpl⟩, fun a b => ?_⟩
  unfold eqV
  rw [hpl, optB_some]
  show optB (ifB (isAggT prog 138) (some [.int .i64 (a.1.val : Int), .int .i64 (a.2.val : Int)]) none) none (fun xs => optB (ifB (isAggT prog 138) (some [.int .i64 (b.1.val : Int), .int .i64 (b.2.val : Int)]) none) none fun ys => eqKs [.int .i64, .int .i64] xs ys) = _
  rw [hag]
  have f1 : ∀ n : Fin 16, fitsP .i64 (n.val : Int) := fun n => fits_small (by omega) (by omega)
  show optB (eqK (.int .i64) (.int .i64 (a.1.val : Int)) (.int .i64 (b.1.val : Int))) none (fun b1 => optB (optB (eqK (.int .i64) (.int .i64 (a.2.val : Int)) (.int .i64 (b.2.val : Int))) none fun b2 => optB (some true) none fun r => some (ifB b2 r false)) none fun r => some (ifB b1 r false)) = _
  rw [eqK_int (f1 _) (f1 _), eqK_int (f1 _) (f1 _)]
  show some (ifB (decide ((a.1.val : Int) = b.1.val)) (ifB (decide ((a.2.val : Int) = b.2.val)) true false) false) = _
  congr 1
  refine Eq.trans (b := decide ((a.1.val : Int) = b.1.val ∧ (a.2.val : Int) = b.2.val)) ?_ (decide_eq_decide.2 ⟨fun h => Prod.ext (Fin.ext (by omega)) (Fin.ext (by omega)), fun h => by rw [h]; exact ⟨rfl, rfl⟩⟩)
  rw [Bool.decide_and]
  generalize decide ((a.1.val : Int) = b.1.val) = u
  generalize decide ((a.2.val : Int) = b.2.val) = v
  cases u <;> cases v <;> rfl
end
end Go.Proofs.Ytgkjfhkjgdiodaa

namespace Go.Proofs.Ytgkjfhkjgdiodaa
open _root_.Go.Proofs.Try
open Go.Abs
set_option maxRecDepth 100000
noncomputable section
def bad (N : List Cnt) (p n j : Nat) : Bool := match N[j]? with
  | none => false
  | some c => decide (c.p = (p : Int)) && !c.late && !decide (c.lo ≤ (n : Int) ∧ (n : Int) ≤ c.hi)
def stB (N : List Cnt) (i k p n j : Nat) : Bool := bad N p n j && (decide (j < i) || (decide (j = i) && decide (n < k)))
def stL (N : List Cnt) (i k p n : Nat) : List Bool := (List.range 6).map (stB N i k p n)
def false6 : List Bool := [false, false, false, false, false, false]
def mkOf (o : Option U) : U := o.getD (.agg 6 (bls false6))
def MapSt (L : List Int) (N : List Cnt) (i k : Nat) (f : Spot → Option U) : Prop := ∀ a : Spot, a.1.val < L.length → (a.2.val : Int) ≤ L[a.1.val]! → mkOf (f a) = .agg 6 (bls (stL N i k a.1.val a.2.val))
theorem stL_len (N : List Cnt) (i k p n : Nat) : (stL N i k p n).length = 6 := by simp [stL]
theorem stL_at {N : List Cnt} {i k p n j : Nat} (hj : j < (stL N i k p n).length) : (stL N i k p n)[j] = stB N i k p n j := by simp [stL]
theorem stL_zero {N : List Cnt} (p n : Nat) : stL N 0 0 p n = false6 := by
  have : stB N 0 0 p n = fun _ => false := by funext j; simp [stB]
  unfold stL; rw [this]; rfl
theorem stL_set {N : List Cnt} {i p k : Nat} (hi : i < 6) : (stL N i k p k).set i (bad N p k i) = stL N i (k + 1) p k := by
  apply List.ext_getElem (by rw [List.length_set, stL_len, stL_len])
  intro j h1 h2
  rw [List.getElem_set, stL_at, stL_at]
  by_cases h3 : i = j
  · subst h3
    rw [if_pos rfl]
    unfold stB
    simp
  · rw [if_neg h3]
    unfold stB
    have : ¬ j = i := fun h => h3 h.symm
    simp [this]
theorem stL_other {N : List Cnt} {i p k p' n' : Nat} {q : Cnt} (hc : N[i]? = some q) (hp : q.p = (p : Int)) (hne : ¬ (p' = p ∧ n' = k)) : stL N i k p' n' = stL N i (k + 1) p' n' := by
  unfold stL
  congr 1
  funext j
  unfold stB
  by_cases hj : j = i
  · subst hj
    by_cases hpp : p' = p
    · have : n' ≠ k := fun h => hne ⟨hpp, h⟩
      congr 2
      simp only [decide_true, Bool.true_and]
      exact decide_eq_decide.2 (by omega)
    · have : bad N p' n' j = false := by
        unfold bad; rw [hc]
        show (decide (q.p = (p' : Int)) && !q.late && _) = false
        rw [decide_eq_false (by omega)]; simp
      rw [this]; simp
  · simp [hj]
theorem stL_roll {L : List Int} {N : List Cnt} {i p p' n' : Nat} {q : Cnt} (hc : N[i]? = some q) (hp : q.p = (p : Int)) (hn : p' = p → (n' : Int) ≤ L[p]!) {k : Nat} (hk : (k : Int) = L[p]! + 1) : stL N i k p' n' = stL N (i + 1) 0 p' n' := by
  unfold stL
  congr 1
  funext j
  unfold stB
  by_cases hj : j = i
  · subst hj
    by_cases hpp : p' = p
    · have h1 := hn hpp
      have h2 : n' < k := by omega
      simp [h2]
    · have : bad N p' n' j = false := by
        unfold bad; rw [hc]
        show (decide (q.p = (p' : Int)) && !q.late && _) = false
        rw [decide_eq_false (by omega)]; simp
      rw [this]; simp
  · have : (j < i + 1) ↔ j < i := by omega
    simp [hj, this]
theorem MapSt.step {L : List Int} {N : List Cnt} {i k p : Nat} {f : Spot → Option U} {q : Cnt} (h : MapSt L N i k f) (hc : N[i]? = some q) (hp : q.p = (p : Int)) (hi : i < 6) (s : Spot) (hs1 : s.1.val = p) (hs2 : s.2.val = k) {u : U}
    (hu : u = .agg 6 (bls ((stL N i k p k).set i (bad N p k i)))) : MapSt L N i (k + 1) (fun b => @ite _ (b = s) (Classical.propDecidable _) (some u) (f b)) := by
  intro a h1 h2
  by_cases has : a = s
  · subst has
    show mkOf (@ite _ (a = a) (Classical.propDecidable _) (some u) (f a)) = _
    rw [if_pos rfl, hs1, hs2, ← stL_set hi]
    exact hu
  · show mkOf (@ite _ (a = s) (Classical.propDecidable _) (some u) (f a)) = _
    rw [if_neg has, h a h1 h2, stL_other hc hp fun h3 => has (Prod.ext (Fin.ext (by omega)) (Fin.ext (by omega)))]
theorem MapSt.roll {L : List Int} {N : List Cnt} {i k p : Nat} {f : Spot → Option U} {q : Cnt} (h : MapSt L N i k f) (hc : N[i]? = some q) (hp : q.p = (p : Int)) (hk : (k : Int) = L[p]! + 1) : MapSt L N (i + 1) 0 f := by
  intro a h1 h2
  rw [h a h1 h2, stL_roll hc hp (fun h3 => by rw [← h3]; exact h2) hk]
end
end Go.Proofs.Ytgkjfhkjgdiodaa

namespace Go.Proofs.Ytgkjfhkjgdiodaa
open _root_.Go.Proofs.Try
open Go.Abs
set_option maxRecDepth 100000
noncomputable section
def Tail7 (R25 : List V → M → Prop) (b7 : Nat) (m27 m30 m44 : M) (x26 : Int) : Prop :=
  isPt (C.ptr b7 0) ∧ (∃ c45 : C, (((ldC m44 (C.ptr b7 5)) = (Option.some c45)) ∧ (∃ x46 : Int, (∃ x47 : Int, (((ldA m44 (C.ptr (m27).nxt 0) 2) = (Option.some [(C.int IntKind.i64 x46), (C.int IntKind.i64 x47)])) ∧
   (∃ b48 : Bool, (∃ b49 : Bool, (∃ b50 : Bool, (∃ b51 : Bool, (∃ b52 : Bool, (∃ b53 : Bool, (((ldA m44 (C.ptr (m30).nxt 0) 6) = (Option.some [(C.bool b48), (C.bool b49), (C.bool b50), (C.bool b51), (C.bool b52), (C.bool b53)])) ∧ (∃ m54 : M,
   (((upM prog 138 m44 c45 (V.agg 2 [(C.int IntKind.i64 x46), (C.int IntKind.i64 x47)]) (V.agg 6 [(C.bool b48), (C.bool b49), (C.bool b50), (C.bool b51), (C.bool b52), (C.bool b53)])) = (Option.some m54)) ∧
   (fitsP IntKind.i64 (x26 + (1 : Int)) ∧ (R25 [(V.c (C.int IntKind.i64 (x26 + (1 : Int))))] m54))))))))))))))))
def Rest7 (R25 : List V → M → Prop) (b7 : Nat) (m13 m27 m30 m36 : M) (x12 x26 : Int) : Prop :=
  isPt (C.ptr m13.nxt 0) ∧ ∃ b37 : Bool, ldC m36 (C.ptr m13.nxt 3) = some (C.bool b37) ∧
    ifB (!b37)
      (isPt (C.ptr m13.nxt 0) ∧ ∃ x38 x39 : Int, ldA m36 (C.ptr m13.nxt 1) 2 = some [C.int IntKind.i64 x38, C.int IntKind.i64 x39] ∧
        Wc prog tbl 92 [V.agg 2 [C.int IntKind.i64 x38, C.int IntKind.i64 x39], V.c (C.int IntKind.i64 x26)] m36 fun v40 m41 =>
          ∃ b42 : Bool, v40 = V.c (C.bool b42) ∧ isPt (C.ptr m30.nxt 0) ∧ ∃ n43 : Nat, x12 = (n43 : Int) ∧ n43 < 6 ∧ ∃ m44 : M, stC m41 (C.ptr m30.nxt (0 + n43 * 1)) 1 [C.bool (!b42)] = some m44 ∧ Tail7 R25 b7 m27 m30 m44 x26)
      (isPt (C.ptr m30.nxt 0) ∧ ∃ n55 : Nat, x12 = (n55 : Int) ∧ n55 < 6 ∧ ∃ m56 : M, stC m36 (C.ptr m30.nxt (0 + n55 * 1)) 1 [C.bool false] = some m56 ∧ Tail7 R25 b7 m27 m30 m56 x26)
theorem get6 {m : M} {b : Nat} {P : List Bool} (hb : Bk m b 6 (bls P)) (hP : P.length = 6) (T : List C → Prop) (h : T (bls P)) :
    ∃ x0 x1 x2 x3 x4 x5 : Bool, ldA m (.ptr b 0) 6 = some [.bool x0, .bool x1, .bool x2, .bool x3, .bool x4, .bool x5] ∧ T [.bool x0, .bool x1, .bool x2, .bool x3, .bool x4, .bool x5] := by
  obtain ⟨a0, a1, a2, a3, a4, a5, rfl⟩ := six hP
  exact ⟨a0, a1, a2, a3, a4, a5, hb.ra, h⟩
/-- what the loops of open keep -/
structure Op (m m13 : M) (bm b7 : Nat) (A W Z : List C) (f : Spot → Option U) : Prop where
  ext : Ext m m13
  a : Bk m13 m.nxt 5 A
  w : Bk m13 b7 6 W
  z : Bk m13 (m.nxt + 1) 6 Z
  mp : Mp encS m13 bm f
theorem Op.to {m m13 m' : M} {bm b7 : Nat} {A W Z : List C} {f : Spot → Option U} (h : Op m m13 bm b7 A W Z f) (e : Ext m13 m') : Op m m' bm b7 A W Z f := ⟨h.ext.trans e, h.a.ext e, h.w.ext e, h.z.ext e, h.mp.ext e⟩
/-- a survey that is valid, as far as open asks -/
structure Okay (r c : Int) (L : List Int) (N : List Cnt) : Prop where
  f : isField r c L = true
  n : N.length ≤ 6
  v : ∀ n ∈ N, okCnt (r * c) n = true
theorem s76 {r c sm : Int} {x y : C} {L : List Int} {N : List Cnt} {m : M} {Q : V → M → Prop} (hx : Li m x L) (hy : Lc m y N) (hO : Okay r c L N)
    (h : ∀ m' mb f, Ext m m' → Mp encS m' mb f → MapSt L N N.length 0 f → Q (.agg 6 [.int .i64 r, .int .i64 c, x, .int .i64 sm, y, .map mb]) m') :
    Wc prog tbl 76 [.agg 5 [.int .i64 r, .int .i64 c, x, .int .i64 sm, y]] m Q := by
  obtain ⟨hS, hL, hrc⟩ := field_of hO.f
  have hn6 := hO.n
  refine w76 fun m0 e0 m1 e1 => ?_
  obtain ⟨b0, x0⟩ := Bk.new e0
  obtain ⟨b1, x1⟩ := Bk.new e1
  have n0 : m0.nxt = m.nxt + 1 := by rw [e0]; rfl
  refine ⟨r, c, x, sm, y, (b0.ext x1).ra, fun m7 e7 m8 e8 => ?_⟩
  obtain ⟨p7, x7⟩ := Mp.new (enc := encS) e7
  obtain ⟨b8, x8⟩ := Bk.new e8
  have n1 : m1.nxt = m.nxt + 2 := by rw [e1]; show m0.nxt + 1 = _; omega
  have n7 : m7.nxt = m.nxt + 3 := by rw [e7]; show m1.nxt + 1 = _; omega
  refine ⟨_, b8.st _, trivial, ?_⟩
  have b9 := b8.set [.int .i64 r, .int .i64 c, x, .int .i64 sm, y, .map m1.nxt]
  have x79 : Ext m7 (m8.set m7.nxt (.cells 6 [.int .i64 r, .int .i64 c, x, .int .i64 sm, y, .map m1.nxt] false)) := x8.setR (Nat.le_refl _) _
  generalize m8.set m7.nxt (.cells 6 [.int .i64 r, .int .i64 c, x, .int .i64 sm, y, .map m1.nxt] false) = m9 at b9 x79
  have o9 : Op m m9 m1.nxt m7.nxt [.int .i64 r, .int .i64 c, x, .int .i64 sm, y] [.int .i64 r, .int .i64 c, x, .int .i64 sm, y, .map m1.nxt] [.int .i64 0, .int .i64 0, .sl0, .int .i64 0, .sl0, .map0] (fun _ => none) :=
    ⟨((x0.trans x1).trans x7).trans x79, ((b0.ext x1).ext x7).ext x79, b9, by rw [← n0]; exact (b1.ext x7).ext x79, p7.ext x79⟩
  have hmap0 : MapSt L N 0 0 (fun _ => none) := fun a _ _ => by rw [stL_zero]; rfl
  clear e0 e1 e7 e8 b0 b1 b8 b9 p7 x0 x1 x7 x8 x79
  generalize m1.nxt = bm at n1 o9
  generalize hb7 : m7.nxt = b7 at n7 o9
  refine ⟨y, o9.a.rc rfl, hy.isSl, fun R11 hstep => ?_⟩
  have hgo : ∀ (d i : Nat) (m13 : M) (f : Spot → Option U), d + i = N.length → Op m m13 bm b7 [.int .i64 r, .int .i64 c, x, .int .i64 sm, y] [.int .i64 r, .int .i64 c, x, .int .i64 sm, y, .map bm] [.int .i64 0, .int .i64 0, .sl0, .int .i64 0, .sl0, .map0] f → MapSt L N i 0 f → R11 [.c (.int .i64 (i : Int))] m13 := by
    intro d
    induction d with
    | zero =>
      intro i m13 f hd ho hm
      refine hstep _ _ ?_
      rw [hy.slLen, ifB_dec]
      refine ⟨fun h1 => by omega, fun _ => ?_⟩
      refine ⟨r, c, x, sm, y, .map bm, ho.w.ra, _, by rw [n0]; exact ho.z.st _, r, c, x, sm, y, .map bm, by rw [n0]; exact (ho.z.set _).ra, ?_⟩
      have hi : i = N.length := by omega
      subst hi
      exact h _ bm f (ho.ext.setR (by omega) _) (ho.mp.setNe (by omega) _) hm
    | succ d ih =>
      intro i m13 f hd ho hm
      refine hstep _ _ ?_
      rw [hy.slLen, ifB_dec]
      refine ⟨fun _ => ?_, fun h1 => by omega⟩
      have hi : i < N.length := by omega
      have hc := List.getElem?_eq_getElem hi
      have hok : (0 ≤ N[i].p ∧ N[i].p ≤ r * c - 1) ∧ 0 ≤ N[i].lo ∧ N[i].lo ≤ N[i].hi ∧ N[i].hi ≤ 9 := of_decide_eq_true (hO.v _ (List.getElem_mem hi))
      obtain ⟨p, hp⟩ : ∃ p : Nat, N[i].p = (p : Int) := ⟨N[i].p.toNat, by omega⟩
      have hpL : p < L.length := by omega
      have hLp : L[p]! = L[p] := getElem!_pos L p hpL
      have hLs := small_at hS hpL
      obtain ⟨l, hl⟩ : ∃ l : Nat, L[p] = (l : Int) := ⟨L[p].toNat, by omega⟩
      have hy1 := hy.ext ho.ext
      refine ⟨i, rfl, hi, N[i].p, N[i].lo, N[i].hi, N[i].late, ?_, fun m19 h19 => ?_⟩
      · rw [Ls.rds hy1 (by omega) (cnts_room hi (by omega)), cnts_all hc]; rfl
      obtain ⟨b19, x19⟩ := Bk.new h19
      have k20 := b19.set [.int .i64 N[i].p, .int .i64 N[i].lo, .int .i64 N[i].hi, .bool N[i].late]
      have e20 : Ext m13 (m19.set m13.nxt (.cells 4 [.int .i64 N[i].p, .int .i64 N[i].lo, .int .i64 N[i].hi, .bool N[i].late] false)) := x19.setR (Nat.le_refl _) _
      refine ⟨_, b19.st _, trivial, trivial, x, ?_⟩
      generalize m19.set m13.nxt (.cells 4 [.int .i64 N[i].p, .int .i64 N[i].lo, .int .i64 N[i].hi, .bool N[i].late] false) = m20 at k20 e20
      have o20 := ho.to e20
      refine ⟨o20.a.rc rfl, trivial, N[i].p, k20.rc rfl, p, hp, by rw [hx.slLen]; exact hpL, L[p], Li.rd (hx.ext o20.ext) (List.getElem?_eq_getElem hpL), fits_small (by omega) (by omega), fun R25 hstep2 => ?_⟩
      have hblt : bm < m13.nxt := ho.mp.lt
      have h7lt : b7 < m13.nxt := ho.w.lt
      have hgo2 : ∀ (d2 k : Nat) (m27 : M) (f : Spot → Option U), d2 + k = l + 1 → m13.nxt < m27.nxt → Op m m27 bm b7 [.int .i64 r, .int .i64 c, x, .int .i64 sm, y] [.int .i64 r, .int .i64 c, x, .int .i64 sm, y, .map bm] [.int .i64 0, .int .i64 0, .sl0, .int .i64 0, .sl0, .map0] f →
          Bk m27 m13.nxt 4 [.int .i64 N[i].p, .int .i64 N[i].lo, .int .i64 N[i].hi, .bool N[i].late] → MapSt L N i k f → R25 [.c (.int .i64 (k : Int))] m27 := by
        intro d2
        induction d2 with
        | zero =>
          intro k m27 f hd2 hlt2 ho2 hb2 hm2
          refine hstep2 _ _ ?_
          rw [ifB_dec]
          refine ⟨fun h1 => by omega, fun _ => ⟨fits_small (by omega) (by omega), ih (i + 1) m27 f (by omega) ho2 (hm2.roll hc hp (by rw [hLp]; omega))⟩⟩
        | succ d2 ih2 =>
          intro k m27 f hd2 hlt2 ho2 hb2 hm2
          refine hstep2 _ _ ?_
          rw [ifB_dec]
          refine ⟨fun _ => ?_, fun h1 => by omega⟩
          refine ⟨trivial, N[i].p, hb2.rc rfl, fun m29 h29 => ?_⟩
          obtain ⟨b29, x29⟩ := Bk.new h29
          have n29 : m29.nxt = m27.nxt + 1 := by rw [h29]; rfl
          have k30 := b29.set [.int .i64 N[i].p, .int .i64 (k : Int)]
          have e30 : Ext m27 (m29.set m27.nxt (.cells 2 [.int .i64 N[i].p, .int .i64 (k : Int)] false)) := x29.setR (Nat.le_refl _) _
          have n30 : (m29.set m27.nxt (.cells 2 [.int .i64 N[i].p, .int .i64 (k : Int)] false)).nxt = m27.nxt + 1 := n29
          refine ⟨_, b29.st _, trivial, .map bm, ?_⟩
          generalize m29.set m27.nxt (.cells 2 [.int .i64 N[i].p, .int .i64 (k : Int)] false) = m30 at k30 e30 n30
          have o30 := ho2.to e30
          let s : Spot := (⟨p, by omega⟩, ⟨k, by omega⟩)
          have hks : V.agg 2 [.int .i64 N[i].p, .int .i64 (k : Int)] = uV (encS s) := by rw [hp]; rfl
          refine ⟨o30.w.rc rfl, N[i].p, (k : Int), k30.ra, f s, o30.mp.lk keyS s hks, ?_⟩
          have hfs := hm2 s hpL (by show (k : Int) ≤ L[p]!; omega)
          -- what is done with the marks
          have key : ∀ m36 : M, Ext m30 m36 → Bk m36 m30.nxt 6 (bls (stL N i k p k)) → Rest7 R25 b7 m13 m27 m30 m36 (i : Int) (k : Int) := by
            intro m36 e36 b36
            have o36 := o30.to e36
            have hcb := (hb2.ext e30).ext e36
            have k36 := k30.ext e36
            have tail : ∀ (m44 : M) (v : Bool), Op m m44 bm b7 [.int .i64 r, .int .i64 c, x, .int .i64 sm, y] [.int .i64 r, .int .i64 c, x, .int .i64 sm, y, .map bm] [.int .i64 0, .int .i64 0, .sl0, .int .i64 0, .sl0, .map0] f →
                Bk m44 m13.nxt 4 [.int .i64 N[i].p, .int .i64 N[i].lo, .int .i64 N[i].hi, .bool N[i].late] → Bk m44 m27.nxt 2 [.int .i64 N[i].p, .int .i64 (k : Int)] → Bk m44 m30.nxt 6 (bls ((stL N i k p k).set i v)) → v = bad N p k i → Tail7 R25 b7 m27 m30 m44 (k : Int) := by
              intro m44 v o44 c44 k44 b44 hv
              refine ⟨trivial, .map bm, o44.w.rc rfl, N[i].p, (k : Int), k44.ra, get6 b44 (by rw [List.length_set, stL_len]) (fun l6 => ∃ m54 : M, upM prog 138 m44 (.map bm) (V.agg 2 [.int .i64 N[i].p, .int .i64 (k : Int)]) (V.agg 6 l6) = some m54 ∧ fitsP .i64 ((k : Int) + 1) ∧ R25 [.c (.int .i64 ((k : Int) + 1))] m54) ?_⟩
              obtain ⟨o, hup, hmp⟩ := o44.mp.up keyS s (.agg 6 (bls ((stL N i k p k).set i v))) hks rfl
              have hext : Ext m (m44.set bm o) := o44.ext.setR (by omega) _
              exact ⟨_, hup, fits_small (by omega) (by omega), ih2 (k + 1) _ _ (by omega) (by show m13.nxt < m44.nxt; exact c44.lt) ⟨hext, o44.a.setNe (by omega) _, o44.w.setNe (by omega) _, o44.z.setNe (by omega) _, hmp⟩ (c44.setNe (by omega) _) (hm2.step hc hp (by omega) s rfl rfl (u := .agg 6 (bls ((stL N i k p k).set i v))) (by rw [hv]))⟩
            have hst : ∀ (m41 : M) (v : Bool), Ext m36 m41 → v = bad N p k i → ∃ m44 : M, stC m41 (.ptr m30.nxt (0 + i * 1)) 1 [.bool v] = some m44 ∧ Tail7 R25 b7 m27 m30 m44 (k : Int) := by
              intro m41 v e41 hv
              have b41 := b36.ext e41
              have hat := stC_at b41.g (k := 0 + i * 1) (.bool v) (by rw [bls_len, stL_len]; omega) (by rw [bls_len, stL_len]) (by omega)
              refine ⟨_, hat, ?_⟩
              have ne1 : bm ≠ m30.nxt := by omega
              have ne2 : b7 ≠ m30.nxt := by omega
              have o41 := o36.to e41
              have hmm : m.nxt ≤ m30.nxt := by omega
              refine tail _ v ⟨o41.ext.setR hmm _, o41.a.setNe (by omega) _, o41.w.setNe ne2 _, o41.z.setNe (by omega) _, o41.mp.setNe ne1 _⟩ ((hcb.ext e41).setNe (by omega) _) ((k36.ext e41).setNe (by omega) _) ?_ hv
              rw [bls_set, show 0 + i * 1 = i by omega]
              exact b41.set _
            have hbad : bad N p k i = (!N[i].late && !decide (N[i].lo ≤ (k : Int) ∧ (k : Int) ≤ N[i].hi)) := by
              unfold bad; rw [hc]
              show (decide (N[i].p = (p : Int)) && !N[i].late && _) = _
              rw [decide_eq_true hp, Bool.true_and]
            refine ⟨trivial, N[i].late, hcb.rc rfl, ?_⟩
            cases hlate : N[i].late with
            | false =>
              show _ ∧ _
              refine ⟨trivial, N[i].lo, N[i].hi, hcb.rp rfl (by omega), s92 fun m41 e41 => ⟨_, rfl, trivial, i, rfl, by omega, hst m41 _ e41 ?_⟩⟩
              rw [hbad, hlate]; rfl
            | true =>
              show _ ∧ _
              refine ⟨trivial, i, rfl, by omega, hst m36 _ (.refl _) ?_⟩
              rw [hbad, hlate]; rfl
          refine ⟨fun hnone m35 h35 => ?_, fun u hu => ?_⟩
          · obtain ⟨b35, x35⟩ := Bk.new h35
            have h1 := b35.set (bls false6)
            have h2 : bls (stL N i k p k) = bls false6 := by
              rw [hnone] at hfs
              have : U.agg 6 (bls false6) = U.agg 6 (bls (stL N i k p k)) := hfs
              injection this with _ h3; exact h3.symm
            have hk := key (m35.set m30.nxt (.cells 6 (bls false6) false)) (x35.setR (Nat.le_refl _) _) (by rw [h2]; exact h1)
            exact ⟨_, b35.st _, hk⟩
          · rw [hu] at hfs
            have hue : u = .agg 6 (bls (stL N i k p k)) := hfs
            obtain ⟨a0, a1, a2, a3, a4, a5, hs6⟩ := six (stL_len N i k p k)
            refine ⟨a0, a1, a2, a3, a4, a5, by rw [hue, hs6]; rfl, fun m74 h74 => ?_⟩
            obtain ⟨b74, x74⟩ := Bk.new h74
            have hk := key (m74.set m30.nxt (.cells 6 (bls [a0, a1, a2, a3, a4, a5]) false)) (x74.setR (Nat.le_refl _) _) (by rw [hs6]; exact b74.set _)
            exact ⟨_, b74.st _, hk⟩
      exact hgo2 (l + 1) 0 m20 f (by omega) k20.lt o20 k20 hm
  exact hgo N.length 0 m9 _ (by omega) o9 hmap0
end
end Go.Proofs.Ytgkjfhkjgdiodaa

namespace Go.Proofs.Ytgkjfhkjgdiodaa
open _root_.Go.Proofs.Try
open Go.Abs
set_option maxRecDepth 100000
noncomputable section
def fitsB (c sm : Int) (N : List Cnt) (P : List Int) (O : List Bool) (i : Nat) : Bool := !jumpsB c sm P i && within (stL N N.length 0 i (at' P i).toNat) O
/-- a survey at work -/
structure Wk (m : M) (L : List Int) (N : List Cnt) (mb : Nat) (f : Spot → Option U) : Prop where
  mp : Mp encS m mb f
  st : MapSt L N N.length 0 f
theorem Wk.ext {m m' : M} {L : List Int} {N : List Cnt} {mb : Nat} {f : Spot → Option U} (h : Wk m L N mb f) (e : Ext m m') : Wk m' L N mb f := ⟨h.mp.ext e, h.st⟩
theorem s97 {r c sm : Int} {x y : C} {L P : List Int} {N : List Cnt} {O : List Bool} {mb : Nat} {f : Spot → Option U} {i : Nat} {m : M} {Q : V → M → Prop} (hw : Wk m L N mb f) (hf : isField r c L = true) (hP : P.length = 9) (hS : Small P) (hO : O.length = 6)
    (hi : i < L.length) (hiP : at' P i ≤ L[i]!) (h : ∀ m', Ext m m' → Q (.c (.bool (fitsB c sm N P O i))) m') :
    Wc prog tbl 97 [.agg 6 [.int .i64 r, .int .i64 c, x, .int .i64 sm, y, .map mb], .agg 9 (ints P), .c (.int .i64 (i : Int)), .agg 6 (bls O)] m Q := by
  obtain ⟨_, hL, _⟩ := field_of hf
  have hsd := sides_of hf
  obtain ⟨a0, a1, a2, a3, a4, a5, a6, a7, a8, hPe⟩ := nine hP
  obtain ⟨o0, o1, o2, o3, o4, o5, hOe⟩ := six hO
  rw [show ints P = ints [a0, a1, a2, a3, a4, a5, a6, a7, a8] by rw [← hPe], show bls O = bls [o0, o1, o2, o3, o4, o5] by rw [← hOe]]
  refine w97 fun m0 e0 m1 e1 m2 e2 => ?_
  obtain ⟨b0, x0⟩ := Bk.new e0
  obtain ⟨b1', x1⟩ := Bk.new e1
  obtain ⟨b2', x2⟩ := Bk.new e2
  have b1 : Bk m2 m0.nxt 9 (ints P) := by rw [hPe]; exact b1'.ext x2
  have b2 : Bk m2 m1.nxt 6 (bls O) := by rw [hOe]; exact b2'
  have b0' := (b0.ext x1).ext x2
  have x02 := (x0.trans x1).trans x2
  clear e0 e1 e2 b0 b1' b2' x0 x1 x2
  refine ⟨trivial, r, c, x, sm, y, b0'.rp (k := 0) (j := 5) rfl (by omega), get9 b1 hP (fun l => Wc prog tbl 112 [.agg 5 [.int .i64 r, .int .i64 c, x, .int .i64 sm, y], .agg 9 l, .c (.int .i64 (i : Int))] m2 _) ?_⟩
  refine s112 hP hS hsd.c1 hsd.c4 (by omega) fun m18 e18 => ⟨_, rfl, ?_⟩
  have x18 := x02.trans e18
  cases hj : jumpsB c sm P i with
  | true =>
    have hq := h m18 x18
    rw [show fitsB c sm N P O i = false by unfold fitsB; rw [hj]; rfl] at hq
    exact hq
  | false =>
    show _ ∧ _
    have hsmall := at_small hS (i : Int) (by omega)
    obtain ⟨n, hn⟩ : ∃ n : Nat, at' P (i : Int) = (n : Int) := ⟨(at' P (i : Int)).toNat, by omega⟩
    let s : Spot := (⟨i, by omega⟩, ⟨n, by omega⟩)
    have hks : V.agg 2 [.int .i64 (i : Int), .int .i64 (at' P (i : Int))] = uV (encS s) := by rw [hn]; rfl
    have w18 := hw.ext x18
    have hfs := w18.st s hi (by show (n : Int) ≤ L[i]!; omega)
    have hres : fitsB c sm N P O i = within (stL N N.length 0 i n) O := by unfold fitsB; rw [hj, hn]; rfl
    have hfs' : mkOf (f s) = .agg 6 (bls (stL N N.length 0 i n)) := hfs
    have hw113 : Wc prog tbl 113 [.agg 6 (bls (stL N N.length 0 i n)), .agg 6 (bls O)] m18 (fun v30 m31 => ∃ b32 : Bool, v30 = .c (.bool b32) ∧ Q (.c (.bool b32)) m31) :=
      s113 (stL_len ..) hO fun m31 e31 => ⟨_, rfl, by have hq := h m31 (x18.trans e31); rw [hres] at hq; exact hq⟩
    have b2o := b2.ext e18
    refine ⟨trivial, .map mb, (b0'.ext e18).rc rfl, trivial, i, rfl, by omega, at' P (i : Int), at_rc (b1.ext e18) (by omega), f s, w18.mp.lk keyS s hks, fun hnone => ?_, fun u hu => ?_⟩
    · refine get6 b2o hO (fun l => Wc prog tbl 113 [.agg 6 (bls false6), .agg 6 l] m18 _) ?_
      have h2 : bls (stL N N.length 0 i n) = bls false6 := by
        rw [hnone] at hfs'
        have : U.agg 6 (bls false6) = U.agg 6 (bls (stL N N.length 0 i n)) := hfs'
        injection this with _ h3; exact h3.symm
      rw [h2] at hw113
      exact hw113
    · rw [hu] at hfs'
      have hue : u = .agg 6 (bls (stL N N.length 0 i n)) := hfs'
      obtain ⟨d0, d1, d2, d3, d4, d5, hs6⟩ := six (stL_len N N.length 0 i n)
      refine ⟨d0, d1, d2, d3, d4, d5, by rw [hue, hs6]; rfl, get6 b2o hO (fun l => Wc prog tbl 113 [.agg 6 (bls [d0, d1, d2, d3, d4, d5]), .agg 6 l] m18 _) ?_⟩
      rw [hs6] at hw113
      exact hw113
def truthB (c sm : Int) (L : List Int) (N : List Cnt) (P : List Int) : Bool := decide (∀ i : Nat, i < L.length → fitsB c sm N P false6 i = true)
theorem s77 {r c sm : Int} {x y : C} {L P : List Int} {N : List Cnt} {mb : Nat} {f : Spot → Option U} {m : M} {Q : V → M → Prop} (hw : Wk m L N mb f) (hf : isField r c L = true) (hP : P.length = 9) (hS : Small P)
    (hiP : ∀ i : Nat, i < L.length → at' P i ≤ L[i]!) (h : ∀ m', Ext m m' → Q (.c (.bool (truthB c sm L N P))) m') :
    Wc prog tbl 77 [.agg 6 [.int .i64 r, .int .i64 c, x, .int .i64 sm, y, .map mb], .agg 9 (ints P)] m Q := by
  obtain ⟨_, hL, hrc⟩ := field_of hf
  have hsd := sides_of hf
  have hm := hsd.mul
  obtain ⟨a0, a1, a2, a3, a4, a5, a6, a7, a8, hPe⟩ := nine hP
  rw [show ints P = ints [a0, a1, a2, a3, a4, a5, a6, a7, a8] by rw [← hPe]]
  refine w77 fun m0 e0 m1 e1 => ?_
  obtain ⟨b0, x0⟩ := Bk.new e0
  obtain ⟨b1', x1⟩ := Bk.new e1
  have b1 : Bk m1 m0.nxt 9 (ints P) := by rw [hPe]; exact b1'
  have b0' := b0.ext x1
  have x01 := x0.trans x1
  clear e0 e1 b0 b1' x0 x1
  refine ⟨trivial, trivial, r, c, x, b0'.rp (k := 0) (j := 3) rfl (by omega), s88 (by have := hsd.r1; omega) (by have := hsd.c1; omega) (fits_small (by omega) (by omega)) fun m6 e6 => ⟨_, rfl, fun R8 hstep => ?_⟩⟩
  have hgo : ∀ (d i : Nat) (b : Bool) (m11 : M), d + i = L.length → (∀ j : Nat, j < i → fitsB c sm N P false6 j = true) → Ext m1 m11 → R8 [.c (.bool b), .c (.int .i64 (i : Int))] m11 := by
    intro d
    induction d with
    | zero =>
      intro i b m11 hd hn he
      refine hstep _ _ _ ?_
      rw [ifB_dec]
      refine ⟨fun h1 => by omega, fun _ => ?_⟩
      have hq := h m11 (x01.trans he)
      rw [show truthB c sm L N P = true from decide_eq_true fun j hj => hn j (by omega)] at hq
      exact hq
    | succ d ih =>
      intro i b m11 hd hn he
      refine hstep _ _ _ ?_
      rw [ifB_dec]
      refine ⟨fun _ => ?_, fun h1 => by omega⟩
      have hi : i < L.length := by omega
      refine ⟨r, c, x, sm, y, .map mb, (b0'.ext he).ra, get9 (b1.ext he) hP (fun l => Wc prog tbl 97 [.agg 6 [.int .i64 r, .int .i64 c, x, .int .i64 sm, y, .map mb], .agg 9 l, .c (.int .i64 (i : Int)), .agg 6 (bls false6)] m11 _) ?_⟩
      refine s97 (hw.ext (x01.trans he)) hf hP hS rfl hi (hiP i hi) fun m28 e28 => ⟨_, rfl, ?_⟩
      rw [ifB_iff]
      refine ⟨fun h1 => ?_, fun h1 => ⟨fits_small (by omega) (by omega), ih (i + 1) b m28 (by omega) (fun j hj => ?_) (he.trans e28)⟩⟩
      · have hq := h m28 ((x01.trans he).trans e28)
        rw [show truthB c sm L N P = false from decide_eq_false fun h2 => by have := h2 i hi; rw [this] at h1; cases h1] at hq
        exact hq
      · by_cases hji : j = i
        · subst hji; simpa using h1
        · exact hn j (by omega)
  exact hgo L.length 0 false m6 (by omega) (by intro j hj; omega) e6
end
end Go.Proofs.Ytgkjfhkjgdiodaa
