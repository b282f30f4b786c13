/- What functions of the program ask and do. Condition: none; a lemma text of this claim. -/
import Derived.Test.YtgkjfhkjgdiodaaSpF
namespace Go.Proofs.Ytgkjfhkjgdiodaa
open _root_.Go.Proofs.Try
open Go.Abs
set_option maxRecDepth 100000
noncomputable section
def shareRes (r c : Int) (L : List Int) (sm : Int) (N : List Cnt) (H : List Int) : Int × Int :=
  if svErr r c L sm N = 0 then (if listed L H then (shareOf L H, 0) else (0, 2)) else (0, svErr r c L sm N)
theorem okay_of {r c sm : Int} {L : List Int} {N : List Cnt} (h : svErr r c L sm N = 0) : Okay r c L N ∧ 0 ≤ sm ∧ sm ≤ 9 := by
  unfold svErr at h
  by_cases h1 : N.length ≤ 6
  · rw [if_pos h1] at h
    cases hs : isSv r c L sm N with
    | false => rw [hs] at h; simp at h
    | true =>
      obtain ⟨hf, hsm, hc⟩ := sv_field hs
      exact ⟨⟨hf, h1, hc⟩, hsm⟩
  · rw [if_neg h1] at h; simp at h
theorem hitsV_len (L H : List Int) (hL : L.length ≤ 9) : (hitsV L H).length = 9 := by
  unfold hitsV
  cases hl : listed L H with
  | true => exact pad_len (by have := listed_len hl; omega)
  | false => rfl
theorem shareOf_pad (L H : List Int) : shareOf L (pad H) = shareOf L H := by unfold shareOf; rw [sum_pad]
theorem get9c {P : List Int} (hP : P.length = 9) (T : List C → Prop) (h : T (ints P)) :
    ∃ x0 x1 x2 x3 x4 x5 x6 x7 x8 : Int, T [.int .i64 x0, .int .i64 x1, .int .i64 x2, .int .i64 x3, .int .i64 x4, .int .i64 x5, .int .i64 x6, .int .i64 x7, .int .i64 x8] := by
  obtain ⟨a0, a1, a2, a3, a4, a5, a6, a7, a8, rfl⟩ := nine hP
  exact ⟨a0, a1, a2, a3, a4, a5, a6, a7, a8, h⟩
theorem s32 {r c sm : Int} {x y z : C} {L H : List Int} {N : List Cnt} {m : M} {Q : V → M → Prop} (hx : Li m x L) (hL : L.length ≤ 1048576) (hy : Lc m y N) (hN : N.length ≤ 1000) (hz : Li m z H) (hH : H.length ≤ 1000)
    (h : ∀ m', Ext m m' → Q (.tup [.c (.int .i64 (shareRes r c L sm N H).1), .c (.int .i64 (shareRes r c L sm N H).2)]) m') : Wc prog tbl 32 [.agg 5 [.int .i64 r, .int .i64 c, x, .int .i64 sm, y], .c z] m Q := by
  refine w32 fun m0 e0 => ?_
  obtain ⟨b0, x0⟩ := Bk.new e0
  refine ⟨r, c, x, sm, y, b0.ra, s37 (hx.ext x0) hL (hy.ext x0) hN fun m7 e7 => ⟨_, rfl, ?_⟩⟩
  have x7 := x0.trans e7
  have b7 := b0.ext e7
  rw [ifB_ndec]
  refine ⟨fun h1 => ?_, fun h1 => ?_⟩
  · have hq := h m7 x7
    unfold shareRes at hq
    rw [if_neg h1] at hq
    exact hq
  obtain ⟨hO, _⟩ := okay_of h1
  obtain ⟨hS, hL9, hrc⟩ := field_of hO.f
  refine ⟨trivial, r, c, x, b7.rp (k := 0) (j := 3) rfl (by omega), s74 (hx.ext x7) hO.f hH (hz.ext x7) fun m13 e13 => ?_⟩
  have hlenV := hitsV_len L H hL9
  have x13 := x7.trans e13
  obtain ⟨a0, a1, a2, a3, a4, a5, a6, a7, a8, hVe⟩ := nine hlenV
  refine ⟨a0, a1, a2, a3, a4, a5, a6, a7, a8, listed L H, by rw [hVe]; rfl, fun m24 h24 => ?_⟩
  obtain ⟨b24, x24⟩ := Bk.new h24
  have e25 : Ext m13 (m24.set m13.nxt (.cells 9 (ints [a0, a1, a2, a3, a4, a5, a6, a7, a8]) false)) := x24.setR (Nat.le_refl _) _
  have b25 := b24.set (ints [a0, a1, a2, a3, a4, a5, a6, a7, a8])
  refine ⟨_, b24.st _, ?_⟩
  have x25 := x13.trans e25
  cases hl : listed L H with
  | false =>
    have hq := h _ x25
    unfold shareRes at hq
    rw [if_pos h1, hl] at hq
    exact hq
  | true =>
    have hVp : hitsV L H = pad H := by unfold hitsV; rw [hl]; rfl
    have hpe : pad H = [a0, a1, a2, a3, a4, a5, a6, a7, a8] := hVp.symm.trans hVe
    refine ⟨r, c, x, sm, y, ((b7.ext e13).ext e25).ra, a0, a1, a2, a3, a4, a5, a6, a7, a8, b25.ra, s75 (H := [a0, a1, a2, a3, a4, a5, a6, a7, a8]) (hx.ext x25) hS hL9 rfl (by rw [← hpe]; exact small_pad (small_listed hS hl)) fun m41 e41 => ⟨_, rfl, ?_⟩⟩
    have hq := h m41 (x25.trans e41)
    unfold shareRes at hq
    rw [if_pos h1, hl, ← shareOf_pad, hpe] at hq
    exact hq
def proveB (r c : Int) (L : List Int) (sm : Int) (N : List Cnt) (H : List Int) : Bool := decide (svErr r c L sm N = 0) && listed L H && truthB c sm L N (pad H)
theorem s35 {r c sm : Int} {x y z : C} {L H : List Int} {N : List Cnt} {m : M} {Q : V → M → Prop} (hx : Li m x L) (hL : L.length ≤ 1048576) (hy : Lc m y N) (hN : N.length ≤ 1000) (hz : Li m z H) (hH : H.length ≤ 1000)
    (h : ∀ m', Ext m m' → Q (.c (.bool (proveB r c L sm N H))) m') : Wc prog tbl 35 [.agg 5 [.int .i64 r, .int .i64 c, x, .int .i64 sm, y], .c z] m Q := by
  refine w35 fun m0 e0 => ?_
  obtain ⟨b0, x0⟩ := Bk.new e0
  refine ⟨r, c, x, sm, y, b0.ra, s37 (hx.ext x0) hL (hy.ext x0) hN fun m7 e7 => ⟨_, rfl, ?_⟩⟩
  have x7 := x0.trans e7
  have b7 := b0.ext e7
  rw [ifB_ndec]
  refine ⟨fun h1 => ?_, fun h1 => ?_⟩
  · have hq := h m7 x7
    rw [show proveB r c L sm N H = false by unfold proveB; rw [decide_eq_false h1]; rfl] at hq
    exact hq
  obtain ⟨hO, _⟩ := okay_of h1
  obtain ⟨hS, hL9, hrc⟩ := field_of hO.f
  refine ⟨trivial, r, c, x, b7.rp (k := 0) (j := 3) rfl (by omega), s74 (hx.ext x7) hO.f hH (hz.ext x7) fun m13 e13 => ?_⟩
  have hlenV := hitsV_len L H hL9
  have x13 := x7.trans e13
  obtain ⟨a0, a1, a2, a3, a4, a5, a6, a7, a8, hVe⟩ := nine hlenV
  refine ⟨a0, a1, a2, a3, a4, a5, a6, a7, a8, listed L H, by rw [hVe]; rfl, fun m24 h24 => ?_⟩
  obtain ⟨b24, x24⟩ := Bk.new h24
  have e25 : Ext m13 (m24.set m13.nxt (.cells 9 (ints [a0, a1, a2, a3, a4, a5, a6, a7, a8]) false)) := x24.setR (Nat.le_refl _) _
  have b25 := b24.set (ints [a0, a1, a2, a3, a4, a5, a6, a7, a8])
  refine ⟨_, b24.st _, ?_⟩
  have x25 := x13.trans e25
  cases hl : listed L H with
  | false =>
    have hq := h _ x25
    rw [show proveB r c L sm N H = false by unfold proveB; rw [hl]; simp] at hq
    exact hq
  | true =>
    have hVp : hitsV L H = pad H := by unfold hitsV; rw [hl]; rfl
    have hpe : pad H = [a0, a1, a2, a3, a4, a5, a6, a7, a8] := hVp.symm.trans hVe
    refine ⟨r, c, x, sm, y, ((b7.ext e13).ext e25).ra, s76 (hx.ext x25) (hy.ext x25) hO fun m32 mb f e32 hmp hst => ⟨r, c, x, sm, y, .map mb, rfl, a0, a1, a2, a3, a4, a5, a6, a7, a8, (b25.ext e32).ra, b25.ra, s77 (P := [a0, a1, a2, a3, a4, a5, a6, a7, a8]) ⟨hmp, hst⟩ hO.f rfl (by rw [← hpe]; exact small_pad (small_listed hS hl)) (fun i hi => ?_) fun m49 e49 => ⟨_, rfl, ?_⟩⟩⟩
    · have hi2 : i < H.length := by rw [listed_len hl]; exact hi
      rw [← hpe]
      have h2 := listed_at hl hi hi2
      have h3 : at' (pad H) (i : Int) = H[i] := by
        show (pad H)[i]! = H[i]
        have := pad_at hi2 (by have := listed_len hl; omega)
        rw [List.getElem!_eq_getElem?_getD, this]; rfl
      rw [h3, getElem!_pos L i hi]; exact h2.2
    · have hq := h m49 ((x25.trans e32).trans e49)
      rw [show proveB r c L sm N H = truthB c sm L N (pad H) by unfold proveB; rw [decide_eq_true h1, hl]; rfl, hpe] at hq
      exact hq
end
end Go.Proofs.Ytgkjfhkjgdiodaa

namespace Go.Proofs.Ytgkjfhkjgdiodaa
open _root_.Go.Proofs.Try
open Go.Abs
set_option maxRecDepth 100000
noncomputable section
theorem s33 {r c sm : Int} {x y : C} {L : List Int} {N : List Cnt} {m : M} {Q : V → M → Prop} (hx : Li m x L) (hL : L.length ≤ 1048576) (hy : Lc m y N) (hN : N.length ≤ 1000000)
    (h : ∀ x' y' m', Ext m m' → Li m' x' L → Lc m' y' N → Q (.agg 5 [.int .i64 r, .int .i64 c, x', .int .i64 sm, y']) m') : Wc prog tbl 33 [.agg 5 [.int .i64 r, .int .i64 c, x, .int .i64 sm, y]] m Q := by
  refine w33 fun m0 e0 m1 e1 => ?_
  obtain ⟨b0, x0⟩ := Bk.new e0
  obtain ⟨b1, x1⟩ := Bk.new e1
  have b0' := b0.ext x1
  have x01 := x0.trans x1
  have hlt : m.nxt ≤ m0.nxt := Nat.le_of_lt b0.lt
  refine ⟨trivial, r, c, x, b0'.rp (k := 0) (j := 3) rfl (by omega), s22 (hx.ext x01) hL fun x' m6 e6 hx' hfr' => ⟨r, c, x', rfl, trivial, sm, (b0'.ext e6).rc rfl, b0'.rc rfl, trivial, y, (b0'.ext e6).rc rfl, ?_, ?_⟩⟩
  · rw [hy.noFn]; exact b0'.rc rfl
  refine s25 (hy.ext (x01.trans e6)) hN fun y' m13 e13 hy' hfr => ⟨y', rfl, ((b0'.ext e6).ext e13).rc rfl, _, ((b1.ext e6).ext e13).st _, r, c, x', sm, y', (((b1.ext e6).ext e13).set _).ra, ?_⟩
  have x13 := (x01.trans e6).trans e13
  refine h x' y' _ (x13.setR hlt _) ((hx'.ext e13).setNe (fun b o n s d hq => ?_) _) (hy'.setNe (fun b o n s d hq => ?_) _)
  · have := hfr' b o n s d hq
    have := b1.lt
    omega
  · have := hfr b o n s d hq
    have := e6.nxt
    have := b1.lt
    omega
def pairR (c sm : Int) (H : List Int) (a b : Nat) : Prop := (((a : Int) / c = (b : Int) / c ∧ b = a + 1) ∨ (b : Int) = a + c) → -sm ≤ H[a]! - H[b]! ∧ H[a]! - H[b]! ≤ sm
def cntR (H : List Int) (n : Cnt) : Prop := n.late = false → n.lo ≤ H[n.p.toNat]! ∧ H[n.p.toNat]! ≤ n.hi
def TruthR (c sm : Int) (L : List Int) (N : List Cnt) (H : List Int) : Prop := listed L H = true ∧ (∀ a b : Nat, a < b → b < H.length → pairR c sm H a b) ∧ ∀ n ∈ N, cntR H n
open Classical in
def truthR (c sm : Int) (L : List Int) (N : List Cnt) (H : List Int) : Bool := decide (TruthR c sm L N H)
theorem truthR_false {c sm : Int} {L : List Int} {N : List Cnt} {H : List Int} (h : ¬ TruthR c sm L N H) : truthR c sm L N H = false := by unfold truthR; classical exact decide_eq_false h
theorem truthR_true {c sm : Int} {L : List Int} {N : List Cnt} {H : List Int} (h : TruthR c sm L N H) : truthR c sm L N H = true := by unfold truthR; classical exact decide_eq_true h
theorem wrap_small {n : Int} (h0 : 0 ≤ n) (h1 : n ≤ 1000) : wrapZ .u64 n = n := by
  unfold wrapZ
  rw [Go.Abs.fits_of (k := .u64) (n := n) (by simp only [fitsP]; omega)]; rfl
def Cmp38 (Q : V → M → Prop) (R11 : List V → M → Prop) (m m14 : M) (y : C) (len : Nat) (b12 : Bool) (x9 x13 : Int) : Prop :=
  ∃ n18 : Nat, x9 = (n18 : Int) ∧ n18 < len ∧ ∃ x19 : Int, ldC m14 (slAt y (n18 * 1)) = some (C.int IntKind.i64 x19) ∧
    ∃ n20 : Nat, x13 = (n20 : Int) ∧ n20 < len ∧ ∃ x21 : Int, ldC m14 (slAt y (n20 * 1)) = some (C.int IntKind.i64 x21) ∧
      fitsP IntKind.i64 (x19 - x21) ∧ isPt (C.ptr m.nxt 0) ∧ ∃ x22 : Int, ldC m14 (C.ptr m.nxt 3) = some (C.int IntKind.i64 x22) ∧ fitsP IntKind.i64 ((0 : Int) - x22) ∧ isPt (C.ptr m.nxt 0) ∧
        ∃ x23 : Int, ldC m14 (C.ptr m.nxt 3) = some (C.int IntKind.i64 x23) ∧ Wc prog tbl 44 [V.c (C.int IntKind.i64 (x19 - x21)), V.c (C.int IntKind.i64 ((0 : Int) - x22)), V.c (C.int IntKind.i64 x23)] m14 fun v24 m25 =>
          ∃ b26 : Bool, v24 = V.c (C.bool b26) ∧ ifB (!b26) (Q (V.c (C.bool false)) m25) (fitsP IntKind.i64 (x13 + (1 : Int)) ∧ R11 [V.c (C.bool b12), V.c (C.int IntKind.i64 (x13 + (1 : Int)))] m25)
theorem s38 {r c sm : Int} {x y z : C} {L H : List Int} {N : List Cnt} {m : M} {Q : V → M → Prop} (hx : Li m x L) (hz : Lc m z N) (hO : Okay r c L N) (hsm : 0 ≤ sm ∧ sm ≤ 9) (hy : Li m y H) (hH : H.length ≤ 1000)
    (h : ∀ m', Ext m m' → Q (.c (.bool (truthR c sm L N H))) m') : Wc prog tbl 38 [.agg 5 [.int .i64 r, .int .i64 c, x, .int .i64 sm, z], .c y, .c (.int .i64 0)] m Q := by
  obtain ⟨hS, hL, hrc⟩ := field_of hO.f
  have hsd := sides_of hO.f
  have hn6 := hO.n
  refine w38 fun m0 e0 => ?_
  obtain ⟨b0, x0⟩ := Bk.new e0
  refine ⟨trivial, r, c, x, b0.rp (k := 0) (j := 3) rfl (by omega), s39 (hx.ext x0) (by omega) (hy.ext x0) fun m5 e5 => ⟨_, rfl, ?_⟩⟩
  have x5 := x0.trans e5
  have hfalse : ∀ {m'}, Ext m5 m' → ¬ TruthR c sm L N H → Q (.c (.bool false)) m' := fun e hf => by
    have := h _ (x5.trans e); rw [truthR_false hf] at this; exact this
  cases hl : listed L H with
  | false => exact hfalse (.refl _) fun h1 => by rw [h1.1] at hl; cases hl
  | true =>
  show ifB false _ _
  rw [ifB_false]
  have hlen := listed_len hl
  have hSH := small_listed hS hl
  intro R7 hstep
  have b5 := b0.ext e5
  have hy5 := hy.ext x5
  have hz5 := hz.ext x5
  have hgo7 : ∀ (d i : Nat) (b8 : Bool), d + i = H.length → (∀ a b : Nat, a < i → a < b → b < H.length → pairR c sm H a b) → R7 [.c (.bool b8), .c (.int .i64 (i : Int))] m5 := by
    intro d
    induction d with
    | zero =>
      intro i b8 hd hn
      refine hstep _ _ _ ⟨hy.isSl, ?_⟩
      rw [hy.slLen, ifB_dec]
      refine ⟨fun h1 => by omega, fun _ R46 hstep4 => ?_⟩
      have hcts : ∀ (d i : Nat) (b : Bool) (m49 : M), d + i = N.length → (∀ n ∈ N.take i, cntR H n) → Ext m5 m49 → R46 [.c (.bool b), .c (.int .i64 (i : Int))] m49 := by
        intro d
        induction d with
        | zero =>
          intro k b m49 hd2 hk he
          have b49 := b5.ext he
          refine hstep4 _ _ _ ⟨trivial, z, b49.rc rfl, hz.isSl, ?_⟩
          rw [hz.slLen, ifB_dec]
          refine ⟨fun h1 => by omega, fun _ => ?_⟩
          have hq := h m49 (x5.trans he)
          rw [truthR_true ⟨hl, fun a b hab hb => hn a b (by omega) hab hb, fun n hn' => hk n (by rw [List.take_of_length_le (by omega)]; exact hn')⟩] at hq
          exact hq
        | succ d ih2 =>
          intro k b m49 hd2 hk he
          have b49 := b5.ext he
          refine hstep4 _ _ _ ⟨trivial, z, b49.rc rfl, hz.isSl, ?_⟩
          rw [hz.slLen, ifB_dec]
          refine ⟨fun _ => ?_, fun h1 => by omega⟩
          have hk6 : k < N.length := by omega
          have hc := List.getElem?_eq_getElem hk6
          have hok : (0 ≤ N[k].p ∧ N[k].p ≤ r * c - 1) ∧ 0 ≤ N[k].lo ∧ N[k].lo ≤ N[k].hi ∧ N[k].hi ≤ 9 := of_decide_eq_true (hO.v _ (List.getElem_mem hk6))
          obtain ⟨p, hp⟩ : ∃ p : Nat, N[k].p = (p : Int) := ⟨N[k].p.toNat, by omega⟩
          have hpH : p < H.length := by omega
          refine ⟨trivial, z, b49.rc rfl, k, rfl, by rw [hz.slLen]; exact hk6, N[k].p, N[k].lo, N[k].hi, N[k].late, ?_, fun m57 h57 => ?_⟩
          · rw [Ls.rds (hz5.ext he) (by omega) (cnts_room hk6 (by omega)), cnts_all hc]; rfl
          obtain ⟨b57, x57⟩ := Bk.new h57
          have k58 := b57.set [.int .i64 N[k].p, .int .i64 N[k].lo, .int .i64 N[k].hi, .bool N[k].late]
          have e58 : Ext m49 (m57.set m49.nxt (.cells 4 [.int .i64 N[k].p, .int .i64 N[k].lo, .int .i64 N[k].hi, .bool N[k].late] false)) := x57.setR (Nat.le_refl _) _
          refine ⟨_, b57.st _, trivial, N[k].late, k58.rc rfl, ?_⟩
          generalize m57.set m49.nxt (.cells 4 [.int .i64 N[k].p, .int .i64 N[k].lo, .int .i64 N[k].hi, .bool N[k].late] false) = m58 at k58 e58
          have he58 := he.trans e58
          have hnext : cntR H N[k] → fitsP .i64 ((k : Int) + 1) ∧ R46 [.c (.bool b), .c (.int .i64 ((k + 1 : Nat) : Int))] m58 := fun hck => ⟨fits_small (by omega) (by omega), ih2 (k + 1) b m58 (by omega) (fun v hv => by
            rw [List.take_add_one, hc] at hv
            rcases List.mem_append.1 hv with h6 | h6
            · exact hk v h6
            · have : v = N[k] := by simpa using h6
              rw [this]; exact hck) he58⟩
          rw [ifB_iff]
          refine ⟨fun hlate => ?_, fun hlate => hnext fun h1 => by rw [h1] at hlate; cases hlate⟩
          have hlate' : N[k].late = false := by simpa using hlate
          rw [wrap_small (by omega) (by omega)]
          have hz0 : (0 : Int) / 2 ^ (k : Int).toNat = 0 := Int.zero_ediv _
          rw [hz0]
          refine ⟨by omega, by omega, by omega, fits_small (by omega) (by omega), by omega, by omega, fits_small (by omega) (by omega), ?_⟩
          show ifB (decide ((0 : Int) % 2 = 0)) _ _
          rw [ifB_dec]
          refine ⟨fun _ => ?_, fun h1 => absurd rfl h1⟩
          have hHp : H[N[k].p.toNat]! = H[p] := by rw [hp]; exact getElem!_pos H p hpH
          refine ⟨trivial, N[k].p, k58.rc rfl, p, hp, hpH, H[p], Li.rd (hy5.ext he58) (List.getElem?_eq_getElem hpH), trivial, trivial, N[k].lo, k58.rc rfl, trivial, trivial, N[k].hi, k58.rc rfl, s44 ⟨_, rfl, ?_⟩⟩
          rw [ifB_ndec]
          have hck : TruthR c sm L N H → N[k].lo ≤ H[p] ∧ H[p] ≤ N[k].hi := fun hT => by
            have := hT.2.2 _ (List.getElem_mem hk6) hlate'
            rw [hHp] at this
            exact this
          exact ⟨fun h1 => hfalse he58 fun hT => h1 (hck hT), fun h1 => hnext fun _ => by rw [hHp]; exact h1⟩
      exact hcts N.length 0 b8 m5 (by omega) (by simp) (.refl _)
    | succ d ih =>
      intro i b8 hd hn
      refine hstep _ _ _ ⟨hy.isSl, ?_⟩
      rw [hy.slLen, ifB_dec]
      refine ⟨fun _ => ⟨fits_small (by omega) (by omega), fun R11 hstep2 => ?_⟩, fun h1 => (h1 (by omega)).elim⟩
      have hi : i < H.length := by omega
      have hgo11 : ∀ (d2 j : Nat), d2 + j = H.length → i < j → (∀ b : Nat, i < b → b < j → pairR c sm H i b) → R11 [.c (.bool b8), .c (.int .i64 (j : Int))] m5 := by
        intro d2
        induction d2 with
        | zero =>
          intro j hd2 hij hn2
          refine hstep2 _ _ _ ⟨hy.isSl, ?_⟩
          rw [ifB_dec]
          refine ⟨fun h1 => by omega, fun _ => ⟨fits_small (by omega) (by omega), ih (i + 1) b8 (by omega) fun a b ha hab hb => ?_⟩⟩
          by_cases hai : a = i
          · subst hai; exact hn2 b hab (by omega)
          · exact hn a b (by omega) hab hb
        | succ d2 ih2 =>
          intro j hd2 hij hn2
          have hj : j < H.length := by omega
          have hdi := Int.ediv_nonneg (a := (i : Int)) (b := c) (by omega) (by have := hsd.c1; omega)
          have hdi2 := Int.ediv_le_self c (a := (i : Int)) (by omega)
          have hdj := Int.ediv_nonneg (a := (j : Int)) (b := c) (by omega) (by have := hsd.c1; omega)
          have hdj2 := Int.ediv_le_self c (a := (j : Int)) (by omega)
          have hc1 := hsd.c1
          have hc4 := hsd.c4
          have hi' := small_at hSH hi
          have hj' := small_at hSH hj
          have eI : H[i]! = H[i] := getElem!_pos H i hi
          have eJ : H[j]! = H[j] := getElem!_pos H j hj
          have next : pairR c sm H i j → fitsP .i64 ((j : Int) + 1) ∧ R11 [.c (.bool b8), .c (.int .i64 ((j + 1 : Nat) : Int))] m5 := fun hp => ⟨fits_small (by omega) (by omega), ih2 (j + 1) (by omega) (by omega) fun b hb1 hb2 => by
            by_cases hbj : b = j
            · subst hbj; exact hp
            · exact hn2 b hb1 (by omega)⟩
          have cmp : ((((i : Int) / c = (j : Int) / c ∧ j = i + 1) ∨ (j : Int) = i + c)) → Cmp38 Q R11 m m5 y H.length b8 (i : Int) (j : Int) := fun hcond => by
            refine ⟨i, rfl, hi, H[i], Li.rd hy5 (List.getElem?_eq_getElem hi), j, rfl, hj, H[j], Li.rd hy5 (List.getElem?_eq_getElem hj), fits_small (by omega) (by omega), trivial, sm, b5.rc rfl, fits_small (by omega) (by omega), trivial, sm, b5.rc rfl, s44 ⟨_, rfl, ?_⟩⟩
            rw [ifB_ndec]
            have hck : TruthR c sm L N H → 0 - sm ≤ H[i] - H[j] ∧ H[i] - H[j] ≤ sm := fun hT => by
              have := hT.2.1 i j hij hj hcond
              rw [eI, eJ] at this
              omega
            exact ⟨fun h1 => hfalse (.refl _) fun hT => h1 (hck hT), fun h1 => next fun _ => by rw [eI, eJ]; omega⟩
          refine hstep2 _ _ _ ⟨hy.isSl, ?_⟩
          rw [ifB_dec]
          refine ⟨fun _ => ?_, fun h1 => by omega⟩
          refine ⟨trivial, trivial, c, b5.rc rfl, by omega, by omega, fits_small (by omega) (by omega), trivial, trivial, c, b5.rc rfl, by omega, by omega, fits_small (by omega) (by omega), ?_⟩
          rw [ifB_dec]
          refine ⟨fun h1 => ⟨fits_small (by omega) (by omega), trivial, trivial, c, b5.rc rfl, fits_small (by omega) (by omega), ?_⟩, fun h1 => ⟨trivial, trivial, c, b5.rc rfl, fits_small (by omega) (by omega), ?_⟩⟩
          · rw [ifB_dec]
            refine ⟨fun h2 => cmp (.inl ⟨h1, by omega⟩), fun h2 => ?_⟩
            rw [ifB_dec]
            exact ⟨fun h3 => cmp (.inr h3), fun h3 => next fun h4 => h4.elim (fun h5 => absurd (by omega : (j : Int) = (i : Int) + 1) h2) fun h5 => absurd h5 h3⟩
          · rw [ifB_dec]
            exact ⟨fun h3 => cmp (.inr h3), fun h3 => next fun h4 => h4.elim (fun h5 => absurd h5.1 h1) fun h5 => absurd h5 h3⟩
      exact hgo11 (H.length - (i + 1)) (i + 1) (by omega) (by omega) fun b hb1 hb2 => by omega
  exact hgo7 H.length 0 false (by omega) fun a b ha => by omega
end
end Go.Proofs.Ytgkjfhkjgdiodaa

namespace Go.Proofs.Ytgkjfhkjgdiodaa
open _root_.Go.Proofs.Try
open Go.Abs
set_option maxRecDepth 100000
noncomputable section
theorem at_pad {H : List Int} (h9 : H.length ≤ 9) {k : Nat} (hk : k < H.length) : at' (pad H) (k : Int) = H[k]! := by
  show (pad H)[k]! = H[k]!
  rw [List.getElem!_eq_getElem?_getD, pad_at hk h9, getElem!_pos H k hk]; rfl
theorem within_false {B : List Bool} (h : B.length = 6) : within B false6 = true ↔ ∀ j : Nat, j < 6 → B[j]! = false := by
  unfold within
  rw [decide_eq_true_eq]
  have hf : ∀ j : Nat, j < 6 → false6[j]! = false := fun j hj => by
    rcases (by omega : j = 0 ∨ j = 1 ∨ j = 2 ∨ j = 3 ∨ j = 4 ∨ j = 5) with rfl | rfl | rfl | rfl | rfl | rfl <;> rfl
  constructor
  · intro h1 j hj
    have := h1 j hj
    rw [hf j hj] at this
    simpa using this
  · intro h1 j hj h2
    rw [h1 j hj] at h2; cases h2
theorem stL_get {N : List Cnt} {i k p n j : Nat} (hj : j < 6) : (stL N i k p n)[j]! = stB N i k p n j := by
  rw [getElem!_pos (stL N i k p n) j (by rw [stL_len]; exact hj), stL_at]
theorem truth_eq {r c sm : Int} {L H : List Int} {N : List Cnt} (hO : Okay r c L N) (hsm : 0 ≤ sm) (hl : listed L H = true) : truthB c sm L N (pad H) = truthR c sm L N H := by
  obtain ⟨hS, hL, hrc⟩ := field_of hO.f
  have hsd := sides_of hO.f
  have hc1 := hsd.c1
  have hc4 := hsd.c4
  have hlen := listed_len hl
  have hSH := small_listed hS hl
  have hn6 := hO.n
  have key : (∀ i : Nat, i < L.length → fitsB c sm N (pad H) false6 i = true) ↔ TruthR c sm L N H := by
    constructor
    · intro h
      refine ⟨hl, fun a b hab hb hp => ?_, fun n hn hlate => ?_⟩
      · have h1 := h b (by omega)
        unfold fitsB at h1
        rw [Bool.and_eq_true] at h1
        have h2 : ¬ _ := of_decide_eq_false (by simpa using h1.1 : jumpsB c sm (pad H) b = false)
        rcases hp with ⟨hrow, hnext⟩ | hcol
        · have hmod : 0 < (b : Int) % c := by
            rcases (by omega : c = 1 ∨ c = 2 ∨ c = 3 ∨ c = 4) with rfl | rfl | rfl | rfl <;> omega
          have h3 : ¬ sm < dif (at' (pad H) b) (at' (pad H) ((b : Int) - 1)) := fun h4 => h2 (.inl ⟨hmod, h4⟩)
          rw [show (b : Int) - 1 = (a : Int) by omega, at_pad (by omega) hb, at_pad (by omega) (by omega : a < H.length)] at h3
          unfold dif at h3
          omega
        · have h3 : ¬ sm < dif (at' (pad H) b) (at' (pad H) ((b : Int) - c)) := fun h4 => h2 (.inr ⟨by omega, h4⟩)
          rw [show (b : Int) - c = (a : Int) by omega, at_pad (by omega) hb, at_pad (by omega) (by omega : a < H.length)] at h3
          unfold dif at h3
          omega
      · obtain ⟨j, hj, rfl⟩ := List.getElem_of_mem hn
        have hok : (0 ≤ N[j].p ∧ N[j].p ≤ r * c - 1) ∧ 0 ≤ N[j].lo ∧ N[j].lo ≤ N[j].hi ∧ N[j].hi ≤ 9 := of_decide_eq_true (hO.v _ hn)
        obtain ⟨p, hp⟩ : ∃ p : Nat, N[j].p = (p : Int) := ⟨N[j].p.toNat, by omega⟩
        have hpL : p < L.length := by omega
        have h1 := h p hpL
        unfold fitsB at h1
        rw [Bool.and_eq_true] at h1
        have h2 := (within_false (stL_len ..)).1 h1.2 j (by omega)
        rw [stL_get (by omega), at_pad (by omega) (by omega : p < H.length)] at h2
        have hsmall := small_at hSH (by omega : p < H.length)
        have hHp : H[p]! = H[p] := getElem!_pos H p (by omega)
        have h3 : bad N p (H[p]!).toNat j = false := by
          unfold stB at h2
          simpa [hj] using h2
        unfold bad at h3
        rw [List.getElem?_eq_getElem hj] at h3
        have h4 : (decide (N[j].p = (p : Int)) && !N[j].late && !decide (N[j].lo ≤ ((H[p]!).toNat : Int) ∧ ((H[p]!).toNat : Int) ≤ N[j].hi)) = false := h3
        rw [decide_eq_true hp, hlate] at h4
        have h5 : N[j].lo ≤ ((H[p]!).toNat : Int) ∧ ((H[p]!).toNat : Int) ≤ N[j].hi := by simpa using h4
        have h6 : ((H[p]!).toNat : Int) = H[p]! := by rw [hHp]; omega
        rw [h6] at h5
        rw [hp]; exact h5
    · intro hT i hi
      have hiH : i < H.length := by omega
      unfold fitsB
      rw [Bool.and_eq_true]
      constructor
      · have : jumpsB c sm (pad H) i = false := by
          refine decide_eq_false fun h1 => ?_
          rcases h1 with ⟨hmod, h4⟩ | ⟨hge, h4⟩
          · have hi1 : 1 ≤ i := by
              rcases Nat.eq_zero_or_pos i with rfl | h1
              · simp at hmod
              · exact h1
            have hrow : ((i - 1 : Nat) : Int) / c = (i : Int) / c := by
              rcases (by omega : c = 1 ∨ c = 2 ∨ c = 3 ∨ c = 4) with rfl | rfl | rfl | rfl <;> omega
            have h5 := hT.2.1 (i - 1) i (by omega) hiH (.inl ⟨hrow, by omega⟩)
            rw [show (i : Int) - 1 = ((i - 1 : Nat) : Int) by omega, at_pad (by omega) hiH, at_pad (by omega) (by omega : i - 1 < H.length)] at h4
            unfold dif at h4
            omega
          · obtain ⟨a, ha⟩ : ∃ a : Nat, (i : Int) - c = (a : Int) := ⟨((i : Int) - c).toNat, by omega⟩
            have h5 := hT.2.1 a i (by omega) hiH (.inr (by omega))
            rw [ha, at_pad (by omega) hiH, at_pad (by omega) (by omega : a < H.length)] at h4
            unfold dif at h4
            omega
        rw [this]; rfl
      · refine (within_false (stL_len ..)).2 fun j hj => ?_
        rw [stL_get hj, at_pad (by omega) hiH]
        have hsmall := small_at hSH hiH
        have hHi : H[i]! = H[i] := getElem!_pos H i hiH
        have h6 : ((H[i]!).toNat : Int) = H[i]! := by rw [hHi]; omega
        unfold stB
        have : bad N i (H[i]!).toNat j = false := by
          unfold bad
          cases hc : N[j]? with
          | none => rfl
          | some q =>
            show (decide (q.p = (i : Int)) && !q.late && !decide (q.lo ≤ ((H[i]!).toNat : Int) ∧ ((H[i]!).toNat : Int) ≤ q.hi)) = false
            by_cases hqp : q.p = (i : Int)
            · cases hlate : q.late with
              | true => simp
              | false =>
                have h7 := hT.2.2 q (List.mem_of_getElem? hc) hlate
                rw [hqp] at h7
                have h8 : q.lo ≤ ((H[i]!).toNat : Int) ∧ ((H[i]!).toNat : Int) ≤ q.hi := by rw [h6]; exact h7
                rw [decide_eq_true h8]; simp
            · rw [decide_eq_false hqp]; rfl
        rw [this]; rfl
  by_cases hT : TruthR c sm L N H
  · rw [truthR_true hT]; exact decide_eq_true (key.2 hT)
  · rw [truthR_false hT]; exact decide_eq_false fun h => hT (key.1 h)
theorem prove_eq {r c sm : Int} {L H : List Int} {N : List Cnt} (hv : svErr r c L sm N = 0) : proveB r c L sm N H = truthR c sm L N H := by
  obtain ⟨hO, hsm⟩ := okay_of hv
  unfold proveB
  rw [decide_eq_true hv]
  cases hl : listed L H with
  | true => rw [truth_eq hO hsm.1 hl]; rfl
  | false => rw [truthR_false fun h => by rw [h.1] at hl; cases hl]; rfl
end
end Go.Proofs.Ytgkjfhkjgdiodaa

namespace Go.Proofs.Ytgkjfhkjgdiodaa
open _root_.Go.Proofs.Try
open Go.Abs
set_option maxRecDepth 100000
noncomputable section
theorem s4 {r c sm : Int} {x y z : C} {L H : List Int} {N : List Cnt} {m : M} {Q : V → M → Prop} (hx : Li m x L) (hy : Lc m y N) (hz : Li m z H) (h : ∀ m', Q (.c (.bool true)) m') :
    Wc prog tbl 4 [.agg 5 [.int .i64 r, .int .i64 c, x, .int .i64 sm, y], .c z] m Q := by
  have aw : ∀ m' : M, Wc prog tbl 20 [] m' (fun v m1 => ∃ b : Bool, v = .c (.bool b) ∧ Q (.c (.bool b)) m1) := fun m' => s20 ⟨_, rfl, h _⟩
  refine w4 fun m0 e0 => ?_
  obtain ⟨b0, x0⟩ := Bk.new e0
  refine ⟨r, c, x, sm, y, b0.ra, s19 (hx.ext x0) (hy.ext x0) fun m7 e7 => ⟨_, rfl, ?_⟩⟩
  have x7 := x0.trans e7
  have b7 := b0.ext e7
  rw [ifB_ndec]
  refine ⟨fun _ => aw _, fun hthin => ⟨hz.isSl, ?_⟩⟩
  rw [hz.slLen, ifB_dec]
  refine ⟨fun _ => aw _, fun hH => ?_⟩
  have hL : L.length ≤ 12 := hthin.1
  have hN : N.length ≤ 9 := hthin.2
  refine ⟨r, c, x, sm, y, b7.ra, s33 (hx.ext x7) (by omega) (hy.ext x7) (by omega) fun xa ya m21 e21 hxa hya => ⟨r, c, xa, sm, ya, rfl, ?_⟩⟩
  have x21 := x7.trans e21
  refine s34 (hz.ext x21) (by omega) fun za m28 e28 hza _ => ⟨za, rfl, ?_⟩
  have hza' : Li m28 za H := hza.ls
  have x28 := x21.trans e28
  refine s32 (hxa.ext e28) (by omega) (hya.ext e28) (by omega) hza' (by omega) fun m31 e31 => ⟨_, _, rfl, ?_⟩
  have x31 := x28.trans e31
  have b31 := ((b7.ext e21).ext e28).ext e31
  refine ⟨r, c, x, sm, y, b31.ra, s33 (hx.ext x31) (by omega) (hy.ext x31) (by omega) fun xb yb m40 e40 hxb hyb => ⟨r, c, xb, sm, yb, rfl, ?_⟩⟩
  have x40 := x31.trans e40
  refine s34 (hz.ext x40) (by omega) fun zb m47 e47 hzb _ => ⟨zb, rfl, ?_⟩
  have hzb' : Li m47 zb H := hzb.ls
  have x47 := x40.trans e47
  refine s35 (hxb.ext e47) (by omega) (hyb.ext e47) (by omega) hzb' (by omega) fun m50 e50 => ⟨_, rfl, ?_⟩
  have x50 := x47.trans e50
  have b50 := ((b31.ext e40).ext e47).ext e50
  refine ⟨r, c, x, sm, y, b50.ra, s36 (hx.ext x50) (by omega) (hy.ext x50) (by omega) fun m58 e58 => ⟨_, rfl, ?_⟩⟩
  have x58 := x50.trans e58
  have b58 := b50.ext e58
  refine ⟨r, c, x, sm, y, b58.ra, s33 (hx.ext x58) (by omega) (hy.ext x58) (by omega) fun xd yd m66 e66 hxd hyd => ⟨r, c, xd, sm, yd, rfl, ?_⟩⟩
  have x66 := x58.trans e66
  refine s37 hxd (by omega) hyd (by omega) fun m73 e73 => ⟨_, rfl, ?_⟩
  have x73 := x66.trans e73
  have b73 := (b58.ext e66).ext e73
  rw [ifB_ndec]
  refine ⟨fun h1 => absurd rfl h1, fun _ => ?_⟩
  by_cases hv : svErr r c L sm N = 0
  · obtain ⟨hO, hsm⟩ := okay_of hv
    obtain ⟨hS, hL9, hrc⟩ := field_of hO.f
    rw [ifB_dec]
    refine ⟨fun _ => ?_, fun h1 => absurd hv h1⟩
    refine ⟨r, c, x, sm, y, b73.ra, s38 (hx.ext x73) (hy.ext x73) hO hsm (hz.ext x73) (by omega) fun m81 e81 => ⟨_, rfl, ?_⟩⟩
    have x81 := x73.trans e81
    have b81 := b73.ext e81
    rw [prove_eq hv, show (truthR c sm L N H == truthR c sm L N H) = true by simp]
    show ifB false _ _
    rw [ifB_false, ifB_dec]
    refine ⟨fun _ => ?_, fun h1 => absurd hv h1⟩
    refine ⟨trivial, r, c, x, b81.rp (k := 0) (j := 3) rfl (by omega), s39 (hx.ext x81) (by omega) (hz.ext x81) fun m87 e87 => ⟨_, rfl, ?_⟩⟩
    have x87 := x81.trans e87
    have b87 := b81.ext e87
    cases hl : listed L H with
    | false =>
      have hs : shareRes r c L sm N H = (0, 2) := by unfold shareRes; rw [if_pos hv, hl]; rfl
      rw [hs]
      show ifB true _ _
      rw [ifB_true, ifB_dec]
      refine ⟨fun _ => ?_, fun h1 => absurd rfl h1⟩
      rw [ifB_dec]
      exact ⟨fun _ => aw _, fun h1 => absurd rfl h1⟩
    | true =>
      have hs : shareRes r c L sm N H = (shareOf L H, 0) := by unfold shareRes; rw [if_pos hv, hl]; rfl
      rw [hs]
      show ifB false _ _
      rw [ifB_false, ifB_ndec]
      refine ⟨fun h1 => absurd hv h1, fun _ => ?_⟩
      rw [ifB_dec]
      refine ⟨fun _ => ?_, fun h1 => absurd rfl h1⟩
      refine ⟨trivial, r, c, x, b87.rp (k := 0) (j := 3) rfl (by omega), s40 (hx.ext x87) hS (by omega) (hz.ext x87) (small_listed hS hl) (listed_len hl) fun m99 e99 => ⟨_, rfl, ?_⟩⟩
      rw [ifB_dec]
      exact ⟨fun _ => aw _, fun h1 => absurd rfl h1⟩
  · have hp : proveB r c L sm N H = false := by unfold proveB; rw [decide_eq_false hv]; rfl
    have hs : shareRes r c L sm N H = (0, svErr r c L sm N) := by unfold shareRes; rw [if_neg hv]
    rw [ifB_dec]
    refine ⟨fun h1 => absurd h1 hv, fun _ => ?_⟩
    rw [hp, hs]
    show ifB false _ _
    rw [ifB_false, ifB_dec]
    refine ⟨fun h1 => absurd h1 hv, fun _ => ?_⟩
    rw [ifB_ndec]
    refine ⟨fun _ => ?_, fun h1 => absurd h1 hv⟩
    rw [ifB_dec]
    refine ⟨fun _ => ?_, fun h1 => absurd rfl h1⟩
    rw [ifB_dec]
    exact ⟨fun _ => aw _, fun h1 => absurd rfl h1⟩
end
end Go.Proofs.Ytgkjfhkjgdiodaa
