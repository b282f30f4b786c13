/- FrameLeft, for all that it can be called with, returns true. Condition: none. -/
import Derived.Test.YtgkjfhkjgdiodaaLfB
import Derived.KernelRfl
import Derived.ProofKit
import Derived.Test.YtgkjfhkjgdiodaaRows

namespace Go.Proofs.Ytgkjfhkjgdiodaa
open _root_.Go.Proofs.Try
open Go.Abs
set_option maxRecDepth 100000
noncomputable section
theorem w68 {a100 : Int} {a101 : Int} {a102 : C} {a103 : Int} {a104 : C} {a200 : Int} {m : M} {Q : V → M → Prop} (h :
 (∀ m0 : M, ((m0 = (M.new m (AO.cells 5 [(C.int IntKind.i64 a100), (C.int IntKind.i64 a101), a102, (C.int IntKind.i64 a103), 
 a104] false))) → (∀ R1 : List V → M → Prop, ((∀ b2 : Bool, (∀ x3 : Int, (∀ m4 : M, ((isPt (C.ptr (m).nxt 0) ∧ 
 (∃ x5 : Int, (∃ x6 : Int, (∃ c7 : C, (((ldA m4 (C.ptr (m).nxt 0) 3) = (Option.some [(C.int IntKind.i64 x5), 
 (C.int IntKind.i64 x6), c7])) ∧ (Wc prog tbl 60 [(V.agg 3 [(C.int IntKind.i64 x5), (C.int IntKind.i64 x6), 
 c7])] m4 (fun v8 m9 => (∃ x10 : Int, ((v8 = (V.c (C.int IntKind.i64 x10))) ∧ (ifB (decide (x3 < x10)) (∃ x11 : Int, 
 (∃ x12 : Int, (∃ c13 : C, (∃ x14 : Int, (∃ c15 : C, (((ldA m9 (C.ptr (m).nxt 0) 5) = (Option.some [(C.int IntKind.i64 x11), 
 (C.int IntKind.i64 x12), c13, (C.int IntKind.i64 x14), c15])) ∧ (isPt (C.ptr (m).nxt 0) ∧ 
 (∃ x16 : Int, (∃ x17 : Int, (∃ c18 : C, (((ldA m9 (C.ptr (m).nxt 0) 3) = (Option.some [(C.int IntKind.i64 x16), 
 (C.int IntKind.i64 x17), c18])) ∧ (Wc prog tbl 67 [(V.agg 3 [(C.int IntKind.i64 x16), 
 (C.int IntKind.i64 x17), c18]), (V.c (C.int IntKind.i64 x3))] m9 (fun v19 m20 => 
 (∃ c21 : C, ((v19 = (V.c c21)) ∧ ((ifB (allS noFnC [(C.int IntKind.i64 x11), 
 (C.int IntKind.i64 x12), c13, (C.int IntKind.i64 x14), c15]) ((ldA m20 (C.ptr (m).nxt 0) 5) = (Option.some [(C.int IntKind.i64 x11), 
 (C.int IntKind.i64 x12), c13, (C.int IntKind.i64 x14), c15])) False) ∧ (Wc prog tbl 38 [(V.agg 5 [(C.int IntKind.i64 x11), 
 (C.int IntKind.i64 x12), c13, (C.int IntKind.i64 x14), c15]), (V.c c21), (V.c (C.int IntKind.i64 a200))] m20 (fun v22 m23 => 
 (∃ b24 : Bool, ((v22 = (V.c (C.bool b24))) ∧ (ifB b24 (Q (V.c (C.bool true)) m23) (fitsP IntKind.i64 (x3 + (1 : Int)) ∧ 
 (R1 [(V.c (C.bool b2)), (V.c (C.int IntKind.i64 (x3 + (1 : Int))))] m23))))))))))))))))))))))) (Q (V.c (C.bool false)) m9))))))))))) → 
 (R1 [(V.c (C.bool b2)), (V.c (C.int IntKind.i64 x3))] m4))))) → (R1 [(V.c (C.bool false)), (V.c (C.int IntKind.i64 (0 : Int)))] m0)))))) : Wc prog tbl 68 [(V.agg 5 [(C.int IntKind.i64 a100), (C.int IntKind.i64 a101), a102, (C.int IntKind.i64 a103), a104]), (V.c (C.int IntKind.i64 a200))] m Q :=
 wc_eq (n := 2) rfl (by kernel_rfl) (by kernel_rfl) h
theorem w91 {a100 : Int} {a101 : Int} {a102 : C} {a103 : Int} {a104 : C} {a105 : C} {a200 : C} {m : M} {Q : V → M → Prop} (h :
 (∀ m0 : M, ((m0 = (M.new m (AO.cells 6 [(C.int IntKind.i64 a100), (C.int IntKind.i64 a101), a102, (C.int IntKind.i64 a103), 
 a104, a105] false))) → (∀ m1 : M, ((m1 = (M.new m0 (AO.cells 1 [(C.bool false)] false))) → (∀ m2 : M, 
 ((m2 = (M.new m1 (AO.cells 6 [(C.bool false), (C.bool false), (C.bool false), (C.bool false), (C.bool false), 
 (C.bool false)] false))) → (isSl a200 ∧ (∀ R3 : List V → M → Prop, ((∀ x4 : Int, (∀ m5 : M, ((ifB (decide (x4 < (((slLen a200) : Nat) : Int))) (∃ n6 : Nat, 
 ((x4 = ((n6 : Nat) : Int)) ∧ ((n6 < (slLen a200)) ∧ (∃ x7 : Int, (((ldC m5 (slAt a200 (n6 * 1))) = (Option.some (C.int IntKind.i64 x7))) ∧ 
 (isPt (C.ptr (m1).nxt 0) ∧ (∃ n8 : Nat, ((x7 = ((n8 : Nat) : Int)) ∧ ((n8 < 6) ∧ (∃ m9 : M, 
 (((stC m5 (C.ptr (m1).nxt (0 + (n8 * 1))) 1 [(C.bool true)]) = (Option.some m9)) ∧ (fitsP IntKind.i64 (x4 + (1 : Int)) ∧ 
 (R3 [(V.c (C.int IntKind.i64 (x4 + (1 : Int))))] m9))))))))))))) (∃ x10 : Int, (∃ x11 : Int, 
 (∃ c12 : C, (∃ x13 : Int, (∃ c14 : C, (∃ c15 : C, (((ldA m5 (C.ptr (m).nxt 0) 6) = (Option.some [(C.int IntKind.i64 x10), 
 (C.int IntKind.i64 x11), c12, (C.int IntKind.i64 x13), c14, c15])) ∧ (∃ b16 : Bool, 
 (∃ b17 : Bool, (∃ b18 : Bool, (∃ b19 : Bool, (∃ b20 : Bool, (∃ b21 : Bool, (((ldA m5 (C.ptr (m1).nxt 0) 6) = (Option.some [(C.bool b16), 
 (C.bool b17), (C.bool b18), (C.bool b19), (C.bool b20), (C.bool b21)])) ∧ (Wc prog tbl 108 [(V.agg 6 [(C.int IntKind.i64 x10), 
 (C.int IntKind.i64 x11), c12, (C.int IntKind.i64 x13), c14, c15]), (V.agg 6 [(C.bool b16), 
 (C.bool b17), (C.bool b18), (C.bool b19), (C.bool b20), (C.bool b21)])] m5 (fun v22 m23 => 
 (∃ c24 : C, ((v22 = (V.c c24)) ∧ (rangeP prog tbl c24 m23 (fun l25 m26 R27 R28 => 
 (∃ x29 : Int, (∃ x30 : Int, (∃ x31 : Int, (∃ x32 : Int, (∃ x33 : Int, (∃ x34 : Int, 
 (∃ x35 : Int, (∃ x36 : Int, (∃ x37 : Int, ((l25 = [(V.agg 9 [(C.int IntKind.i64 x29), 
 (C.int IntKind.i64 x30), (C.int IntKind.i64 x31), (C.int IntKind.i64 x32), (C.int IntKind.i64 x33), 
 (C.int IntKind.i64 x34), (C.int IntKind.i64 x35), (C.int IntKind.i64 x36), (C.int IntKind.i64 x37)])]) ∧ 
 (R27 m26 (fun m38 => (∃ m39 : M, (((stC m38 (C.ptr (m0).nxt 0) 1 [(C.bool true)]) = (Option.some m39)) ∧ 
 (R28 Ex.ret m39)))))))))))))))) (After.mk (fun m40 => (∃ m41 : M, (((stC m40 (C.ptr (m0).nxt 0) 1 [(C.bool false)]) = (Option.some m41)) ∧ 
 (∃ b42 : Bool, (((ldC m41 (C.ptr (m0).nxt 0)) = (Option.some (C.bool b42))) ∧ 
 (Q (V.c (C.bool b42)) m41)))))) [] (fun m43 => (∃ b44 : Bool, (((ldC m43 (C.ptr (m0).nxt 0)) = (Option.some (C.bool b44))) ∧ 
 (Q (V.c (C.bool b44)) m43))))))))))))))))))))))))) → (R3 [(V.c (C.int IntKind.i64 x4))] m5)))) → 
 (R3 [(V.c (C.int IntKind.i64 (0 : Int)))] m2))))))))))) : Wc prog tbl 91 [(V.agg 6 [(C.int IntKind.i64 a100), (C.int IntKind.i64 a101), a102, (C.int IntKind.i64 a103), a104, a105]), (V.c a200)] m Q :=
 wc_eq (n := 2) rfl (by kernel_rfl) (by kernel_rfl) h
theorem w108 {a100 : Int} {a101 : Int} {a102 : C} {a103 : Int} {a104 : C} {a105 : C} {a200 : Bool} {a201 : Bool} {a202 : Bool} {a203 : Bool} {a204 : Bool} {a205 : Bool} {m : M} {Q : V → M → Prop} (h :
 (∀ m0 : M, ((m0 = (M.new m (AO.cells 6 [(C.int IntKind.i64 a100), (C.int IntKind.i64 a101), a102, (C.int IntKind.i64 a103), 
 a104, a105] false))) → (∀ m1 : M, ((m1 = (M.new m0 (AO.cells 6 [(C.bool a200), (C.bool a201), (C.bool a202), 
 (C.bool a203), (C.bool a204), (C.bool a205)] false))) → (Q (V.c (C.fn (Fn.func 120) [] [(W.c (C0.ptr (m).nxt 0)), 
 (W.c (C0.ptr (m0).nxt 0))])) m1)))))) : Wc prog tbl 108 [(V.agg 6 [(C.int IntKind.i64 a100), (C.int IntKind.i64 a101), a102, (C.int IntKind.i64 a103), a104, a105]), (V.agg 6 [(C.bool a200), (C.bool a201), (C.bool a202), (C.bool a203), (C.bool a204), (C.bool a205)])] m Q :=
 wc_eq (n := 2) rfl (by kernel_rfl) (by kernel_rfl) h
end
end Go.Proofs.Ytgkjfhkjgdiodaa

namespace Go.Proofs.Ytgkjfhkjgdiodaa
open _root_.Go.Proofs.Try
open Go.Abs
set_option maxRecDepth 100000
noncomputable section
/-- the marks of a list -/
def marksL (B : List Bool) : List Int → List Bool
  | [] => B
  | v :: D => marksL (B.set v.toNat true) D
theorem marksL_step {D : List Int} {i : Nat} (hi : i < D.length) (B : List Bool) : marksL B (D.drop i) = marksL (B.set D[i].toNat true) (D.drop (i + 1)) := by rw [List.drop_eq_getElem_cons hi]; rfl
theorem s108 {r c sm : Int} {x y : C} {L : List Int} {N : List Cnt} {mb : Nat} {f : Spot → Option U} {O : List Bool} {m : M} {Q : V → M → Prop} (hw : Wk m L N mb f) (hx : Li m x L) (hO : O.length = 6)
    (h : ∀ m' b b2, Ext m m' → Rd r c sm x y L N mb f O b b2 m' → m.nxt ≤ b → m.nxt ≤ b2 → Q (.c (.fn (.func 120) [] [.c (.ptr b 0), .c (.ptr b2 0)])) m') :
    Wc prog tbl 108 [.agg 6 [.int .i64 r, .int .i64 c, x, .int .i64 sm, y, .map mb], .agg 6 (bls O)] m Q := by
  obtain ⟨a0, a1, a2, a3, a4, a5, rfl⟩ := six hO
  refine w108 fun m0 e0 m1 e1 => ?_
  obtain ⟨b0, x0⟩ := Bk.new e0
  obtain ⟨b1, x1⟩ := Bk.new e1
  have x01 := x0.trans x1
  exact h m1 m.nxt m0.nxt x01 ⟨b0.ext x1, b1, hw.ext x01, hx.ext x01⟩ (Nat.le_refl _) x0.nxt
theorem ds_old {x : C} {L : List Int} {mb b b2 : Nat} {m : M} {N : List Cnt} {f : Spot → Option U} (hw : Wk m L N mb f) (hx : Li m x L) {b' : Nat} (h : Ds x mb b b2 b') : b' = b ∨ b' = b2 ∨ b' < m.nxt := by
  rcases h with h | h | rfl | ⟨o, n, s, d, hq⟩
  · exact .inl h
  · exact .inr (.inl h)
  · exact .inr (.inr hw.mp.lt)
  · rcases hx.val with ⟨hx2, _⟩ | ⟨b3, o3, s3, c3, hx2, hlt, _⟩
    · rw [hq] at hx2; cases hx2
    · rw [hq] at hx2; cases hx2; exact .inr (.inr hlt)
theorem s91 {r c sm : Int} {x y z : C} {L D : List Int} {N : List Cnt} {mb : Nat} {f : Spot → Option U} {m : M} {Q : V → M → Prop} (hw : Wk m L N mb f) (hx : Li m x L) (hf : isField r c L = true) (hz : Li m z D) (hD : D.length ≤ 1000) (hD6 : ∀ v ∈ D, 0 ≤ v ∧ v < 6)
    (h : ∀ m', Ext m m' → Q (.c (.bool (!(truthsV c sm L N (marksL false6 D)).isEmpty))) m') :
    Wc prog tbl 91 [.agg 6 [.int .i64 r, .int .i64 c, x, .int .i64 sm, y, .map mb], .c z] m Q := by
  refine w91 fun m0 e0 m1 e1 m2 e2 => ?_
  obtain ⟨b0, x0⟩ := Bk.new e0
  obtain ⟨b1, x1⟩ := Bk.new e1
  obtain ⟨b2, x2⟩ := Bk.new e2
  have n0 : m0.nxt = m.nxt + 1 := by rw [e0]; rfl
  have n1 : m1.nxt = m.nxt + 2 := by rw [e1]; show m0.nxt + 1 = _; omega
  have n2 : m2.nxt = m.nxt + 3 := by rw [e2]; show m1.nxt + 1 = _; omega
  refine ⟨hz.isSl, fun R3 hstep => ?_⟩
  have hgo : ∀ (d i : Nat) (m5 : M) (B : List Bool), d + i = D.length → Ext m m5 → Bk m5 m.nxt 6 [.int .i64 r, .int .i64 c, x, .int .i64 sm, y, .map mb] → Bk m5 m0.nxt 1 [.bool false] → Bk m5 m1.nxt 6 (bls B) → B.length = 6 →
      marksL B (D.drop i) = marksL false6 D → R3 [.c (.int .i64 (i : Int))] m5 := by
    intro d
    induction d with
    | zero =>
      intro i m5 B hd e5 k0 k1 k2 hB hm
      refine hstep _ _ ?_
      rw [hz.slLen, ifB_dec]
      refine ⟨fun h1 => by omega, fun _ => ?_⟩
      rw [List.drop_eq_nil_of_le (by omega)] at hm
      have hBe : B = marksL false6 D := hm
      refine ⟨r, c, x, sm, y, .map mb, k0.ra, get6 k2 hB (fun l6 => Wc prog tbl 108 [.agg 6 [.int .i64 r, .int .i64 c, x, .int .i64 sm, y, .map mb], .agg 6 l6] m5 _) ?_⟩
      refine s108 (hw.ext e5) (hx.ext e5) hB fun m23 b b2 e23 hR hb hb2 => ⟨_, rfl, ?_⟩
      have k1' := k1.ext e23
      have hflag : ∀ b', b' = m0.nxt → ¬ Ds x mb b b2 b' := fun b' hb' hds => by
        rcases ds_old (m := m) hw hx hds with h1 | h1 | h1
        · have := k1.lt; omega
        · have := k1.lt; omega
        · omega
      have e523 : Ext m m23 := e5.trans e23
      refine range_iter (without_iter hf hB) hR (J := fun i S m => i = 0 ∧ (∀ b', S b' ↔ b' = m0.nxt) ∧ Bk m m0.nxt 1 [.bool false]) (X := fun ex S m => ex = .ret ∧ truthsV c sm L N B ≠ [] ∧ (∀ b', S b' ↔ b' = m0.nxt) ∧ Bk m m0.nxt 1 [.bool true])
        (fun i => ⟨fun S ma mb' hj hn hv hg _ => ⟨hj.1, hj.2.1, (hg m0.nxt ((hj.2.1 _).2 rfl)).trans hj.2.2.g, Nat.lt_of_lt_of_le hj.2.2.lt hn⟩, fun S ma hj b' hb' => by rw [(hj.2.1 b').1 hb']; exact hj.2.2.lt⟩)
        (fun ex => ⟨fun S ma mb' hj hn hv hg _ => ⟨hj.1, hj.2.1, hj.2.2.1, (hg m0.nxt ((hj.2.2.1 _).2 rfl)).trans hj.2.2.2.g, Nat.lt_of_lt_of_le hj.2.2.2.lt hn⟩, fun S ma hj b' hb' => by rw [(hj.2.2.1 b').1 hb']; exact hj.2.2.2.lt⟩)
        (S0 := fun b' => b' = m0.nxt) ⟨rfl, fun _ => Iff.rfl, k1'⟩ (fun b' hb' => hflag b' hb') ?_ ?_ ?_ ?_
      · intro i xv S ma B' enter K hxv hj hlt hSl hown henter hK
        obtain ⟨hi0, hS, hkb⟩ := hj
        subst hi0
        have hne : truthsV c sm L N B ≠ [] := fun h0 => by rw [h0] at hxv; cases hxv
        have hxv' := hxv
        unfold truthsV at hxv'
        rw [List.getElem?_map] at hxv'
        cases hH : (exts c sm L N B L.length [])[0]? with
        | none => rw [hH] at hxv'; cases hxv'
        | some H =>
          rw [hH] at hxv'
          have hxe : [V.agg 9 (ints (pad H))] = xv := by injection hxv'
          have hlenH : H.length = L.length := ((mem_exts hf H L.length 0 [] (by omega) rfl).1 (List.mem_of_getElem? hH)).1
          obtain ⟨_, hL9, _⟩ := field_of hf
          obtain ⟨p0, p1, p2, p3, p4, p5, p6, p7, p8, hp⟩ := nine (pad_len (H := H) (by omega))
          refine ⟨p0, p1, p2, p3, p4, p5, p6, p7, p8, by rw [← hxe, hp]; rfl, henter ma _ rfl fun m3 hn3 hv3 hg3 hB3 => ?_⟩
          have hne0 : m0.nxt ≠ m23.nxt := by have := k1'.lt; omega
          have k3 : Bk m3 m0.nxt 1 [.bool false] := ⟨(hg3 _ hne0).trans hkb.g, by rw [hn3]; exact hkb.lt⟩
          refine ⟨_, k3.st _, hK .ret S _ (hB3 _ (by rw [M.g_set, if_neg (by omega)])) (by show ma.nxt ≤ m3.nxt; omega) hv3 (fun b' hb' hSb hbl => ?_) (Own.refl S ma) ⟨rfl, hne, hS, k3.set _⟩⟩
          rw [M.g_set, if_neg fun h0 => hSb ((hS b').2 h0)]
          exact hg3 b' hbl
      · intro S' m5' hown hlt hv hg hj
        obtain ⟨hx0, hS, hkb⟩ := hj
        have hemp : (truthsV c sm L N B).isEmpty = true := by simpa using hx0
        refine ⟨_, hkb.st _, false, (hkb.set _).rc rfl, ?_⟩
        have hext : Ext m (m5'.set m0.nxt (.cells 1 [.bool false] false)) := Ext.setR (m' := m5') ⟨Nat.le_trans e523.nxt (Nat.le_of_lt hlt), fun b' hb' => by rw [hg b' (Nat.lt_of_lt_of_le hb' e523.nxt) (by omega)]; exact e523.g b' hb', hv.trans e523.vw⟩ (by omega) _
        have hq := h _ hext
        rw [← hBe, hemp] at hq
        exact hq
      · intro id S' m5' hown hlt hv hg hj
        cases hj.1
      · intro S' m5' hown hlt hv hg hj
        obtain ⟨_, hne, hS, hkb⟩ := hj
        have hemp : (truthsV c sm L N B).isEmpty = false := by
          cases ht : truthsV c sm L N B with
          | nil => exact absurd ht hne
          | cons a l => rfl
        refine ⟨true, hkb.rc rfl, ?_⟩
        have hext : Ext m m5' := ⟨Nat.le_trans e523.nxt (Nat.le_of_lt hlt), fun b' hb' => by rw [hg b' (Nat.lt_of_lt_of_le hb' e523.nxt) (by omega)]; exact e523.g b' hb', hv.trans e523.vw⟩
        have hq := h _ hext
        rw [← hBe, hemp] at hq
        exact hq
    | succ d ih =>
      intro i m5 B hd e5 k0 k1 k2 hB hm
      refine hstep _ _ ?_
      rw [hz.slLen, ifB_dec]
      refine ⟨fun _ => ?_, fun h1 => absurd (by omega) h1⟩
      have hi : i < D.length := by omega
      have hv := hD6 _ (List.getElem_mem hi)
      obtain ⟨v, hve⟩ : ∃ v : Nat, D[i] = (v : Int) := ⟨D[i].toNat, by omega⟩
      have hat := stC_at k2.g (k := 0 + v * 1) (.bool true) (by rw [bls_len, hB]; omega) (by rw [bls_len, hB]) (by omega)
      refine ⟨i, rfl, hi, D[i], Li.rd (hz.ext e5) (List.getElem?_eq_getElem hi), trivial, v, hve, by omega, _, hat, fits_small (by omega) (by omega), ?_⟩
      refine ih (i + 1) _ (B.set v true) (by omega) (e5.setR (by omega) _) (k0.setNe (by omega) _) (k1.setNe (by omega) _) ?_ (by rw [List.length_set]; exact hB) ?_
      · rw [bls_set, show 0 + v * 1 = v by omega]; exact k2.set _
      · rw [← hm, marksL_step hi, hve]; rfl
  exact hgo D.length 0 m2 false6 (by omega) ((x0.trans x1).trans x2) ((b0.ext x1).ext x2) (b1.ext x2) b2 rfl rfl
end
end Go.Proofs.Ytgkjfhkjgdiodaa

namespace Go.Proofs.Ytgkjfhkjgdiodaa
open _root_.Go.Proofs.Try
open Go.Abs
set_option maxRecDepth 100000
noncomputable section
def truthsP (c sm : Int) (L : List Int) (N : List Cnt) : List (List Int) := exts c sm L N false6 L.length []
def trueErr (r c : Int) (L : List Int) (sm : Int) (N : List Cnt) : Int := if svErr r c L sm N = 0 then (if (truthsP c sm L N).isEmpty then 9 else 0) else svErr r c L sm N
end
end Go.Proofs.Ytgkjfhkjgdiodaa

namespace Go.Proofs.Ytgkjfhkjgdiodaa
open _root_.Go.Proofs.Try
open Go.Abs
set_option maxRecDepth 100000
noncomputable section
theorem isNil_ne {m : M} {z : C} {L : List Int} (hz : Li m z L) (hn : isNilC z = false) : ∃ b o n s c, z = .sl b o n s c := by
  rcases hz.val with ⟨rfl, _⟩ | ⟨b, o, s, c, rfl, _⟩
  · cases hn
  · exact ⟨_, _, _, _, _, rfl⟩
/-- slices.Clone -/
theorem s104 {z : C} {L : List Int} {m : M} {Q : V → M → Prop} (hz : Li m z L) (hn : isNilC z = false) (hL : L.length ≤ 1000) (h : ∀ z' m', Ext m m' → Li m' z' L → Fr m z' → Q (.c z') m') : Wc prog tbl 104 [.c z] m Q := by
  obtain ⟨b, o, n, s, c, rfl⟩ := isNil_ne hz hn
  refine w104 ⟨trivial, trivial, trivial, rfl, ?_⟩
  show ∀ m0 : M, _
  intro m0 e0
  obtain ⟨b0, x0⟩ := Bk.new e0
  have ho : Own1 m0 1 (.sl m.nxt 0 0 0 (some 0)) [] 0 := ⟨rfl, .lit _ b0.g b0.lt⟩
  by_cases h0 : L.length = 0
  · have hL0 : L = [] := List.eq_nil_of_length_eq_zero h0
    subst hL0
    exact ⟨_, _, ap_none t22 g3 z3 ho (hz.ext x0), h _ _ x0 ho.ls fun b o n s d hq => by cases hq; exact Nat.le_refl _⟩
  · obtain ⟨m', q1, q2, q3, q4, q5⟩ := ap_own t22 g3 z3 ho (hz.ext x0) (by omega) (by omega) (by omega)
    have n0 : m0.nxt = m.nxt + 1 := by rw [e0]; rfl
    refine ⟨_, m', q1, h _ _ ⟨by omega, fun b' hb => ?_, q4.trans x0.vw⟩ ?_ fun b o n s d hq => by cases hq; omega⟩
    · rw [q5 b' (by omega) (by intro hq; cases hq)]; exact x0.g b' hb
    · have := q2.ls
      rw [List.nil_append] at this
      have e : 0 + L.length = L.length := Nat.zero_add _
      rw [e] at this ⊢
      exact this
/-- all increasing lists of numbers below n, the shorter ones first -/
def allL (n : Nat) : List (List Int) := rests (fun s => combs n s [] 0) (n + 1) 0
/-- the first list that passes -/
def shortL (n : Nat) (t : List Int → Bool) : List Int := ((allL n).find? t).getD []
theorem rests_split {α : Type} (g : Nat → List α) (p : α → Bool) : ∀ e x, (rests g (e + 1) x).find? p = ((g x).find? p).or ((rests g e (x + 1)).find? p) := fun e x => by
  show (g x ++ rests g e (x + 1)).find? p = _
  rw [List.find?_append]
/-- a function value that tests a list -/
def Tests (n : Nat) (m : M) (fnc : C) (t : List Int → Bool) : Prop :=
  ∀ m' z L, Ext m m' → Li m' z L → L ∈ allL n → ∀ Q : V → M → Prop, (∀ m'', Ext m' m'' → Q (.c (.bool (t L))) m'') → callP prog tbl [.c z] fnc m' Q
theorem drop_find {l : List (List Int)} {i : Nat} {a : List Int} (h : l[i]? = some a) (p : List Int → Bool) : (l.drop i).find? p = if p a then some a else (l.drop (i + 1)).find? p := by
  obtain ⟨hi, ha⟩ := List.getElem?_eq_some_iff.1 h
  rw [List.drop_eq_getElem_cons hi, ha, List.find?_cons]
  cases p a <;> rfl
theorem combs_len {n : Nat} {L : List Int} : ∀ {d : Nat} {pre : List Int} {fr : Nat}, L ∈ combs n d pre fr → L.length = pre.length + d
  | 0, pre, fr, h => by
    have : L = pre := List.mem_singleton.1 h
    rw [this]; rfl
  | d + 1, pre, fr, h => by
    obtain ⟨x, _, _, h3⟩ := (mem_rests _ _ _ _).1 h
    have := combs_len h3
    rw [List.length_append] at this
    simp only [List.length_cons, List.length_nil] at this
    omega
theorem s87 {n : Nat} {fnc : C} {t : List Int → Bool} {m : M} {Q : V → M → Prop} (hn : n ≤ 100) (ht : Tests n m fnc t) (h : ∀ z m', Ext m m' → Li m' z (shortL n t) → Q (.c z) m') : Wc prog tbl 87 [.c (.int .i64 (n : Int)), .c fnc] m Q := by
  refine w87 fun m0 e0 m1 e1 => ?_
  obtain ⟨b0, x0⟩ := Bk.new e0
  obtain ⟨b1, x1⟩ := Bk.new e1
  have x01 := x0.trans x1
  have n0 : m0.nxt = m.nxt + 1 := by rw [e0]; rfl
  refine ⟨fits_small (by omega) (by omega), fun R2 hstep => ?_⟩
  let G : Nat → List (List Int) := fun s => combs n s [] 0
  have hgo : ∀ (e s : Nat) (m4 : M), e + s = n + 1 → Ext m m4 → Bk m4 m.nxt 1 [fnc] → Bk m4 m0.nxt 1 [.sl0] → (rests G e s).find? t = (allL n).find? t → R2 [.c (.int .i64 (s : Int))] m4 := by
    intro e
    induction e with
    | zero =>
      intro s m4 hes x4 k0 k1 hfind
      refine hstep _ _ ?_
      rw [ifB_dec]
      refine ⟨fun h1 => by omega, fun _ => ⟨_, k1.rc rfl, h _ _ x4 ?_⟩⟩
      have : shortL n t = [] := by unfold shortL; rw [← hfind]; rfl
      rw [this]
      exact Ls.nil m4 1
    | succ e ih =>
      intro s m4 hes x4 k0 k1 hfind
      refine hstep _ _ ?_
      rw [ifB_dec]
      refine ⟨fun _ => ?_, fun h1 => absurd (by omega) h1⟩
      refine w103 fun m5 e5 m6 e6 => ?_
      obtain ⟨b5, x5⟩ := Bk.new e5
      obtain ⟨b6, x6⟩ := Bk.new e6
      have x56 := x5.trans x6
      refine ⟨_, rfl, ?_⟩
      have hk0 := k0.lt
      have hk1 := k1.lt
      have n5 : m5.nxt = m4.nxt + 1 := by rw [e5]; rfl
      have x46 := x4.trans x56
      have k06 := k0.ext x56
      have k16 := k1.ext x56
      rw [rests_split] at hfind
      refine range_iterV (lists_iter (b := m5.nxt) (b2 := m4.nxt) (n := n) (size := s) (by omega) (by omega)) ⟨b6, b5.ext x6⟩
        (J := fun i S ma => (∀ b', S b' ↔ b' = m0.nxt) ∧ Bk ma m0.nxt 1 [.sl0] ∧ ((G s).drop i).find? t = (G s).find? t ∧ m6.nxt ≤ ma.nxt ∧ ma.vw = m6.vw ∧ ∀ b', b' < m6.nxt → b' ≠ m0.nxt → ma.g b' = m6.g b')
        (X := fun ex S ma => ex = .exit 0 ∧ ∃ z L, (∀ b', S b' ↔ b' = m0.nxt ∨ ∃ o n s d, z = .sl b' o n s d) ∧ Bk ma m0.nxt 1 [z] ∧ Li ma z L ∧ (∀ b' o n s d, z = .sl b' o n s d → b' < ma.nxt) ∧ (G s).find? t = some L ∧ m6.nxt ≤ ma.nxt ∧ ma.vw = m6.vw ∧ ∀ b', b' < m6.nxt → b' ≠ m0.nxt → ma.g b' = m6.g b')
        (fun i => ⟨fun S ma mb hj hn' hv hg hlow => ⟨hj.1, ⟨(hg _ ((hj.1 _).2 rfl)).trans hj.2.1.g, Nat.lt_of_lt_of_le hj.2.1.lt hn'⟩, hj.2.2.1, Nat.le_trans hj.2.2.2.1 hn', hv.trans hj.2.2.2.2.1, fun b' hb' hne => (hlow b' hb').trans (hj.2.2.2.2.2 b' hb' hne)⟩, fun S ma hj b' hb' => by rw [(hj.1 b').1 hb']; exact hj.2.1.lt⟩)
        (fun ex => ⟨fun S ma mb hj hn' hv hg hlow => ?_, fun S ma hj b' hb' => ?_⟩) (S0 := fun b' => b' = m0.nxt) ⟨fun _ => Iff.rfl, k16, rfl, Nat.le_refl _, rfl, fun _ _ _ => rfl⟩ (fun b' hb' hd => by rcases hd with hd | hd <;> omega) ?_ ?_ ?_ ?_
      · obtain ⟨h1, z, L, h2, h3, h4, h5, h6, h7, h8, h9⟩ := hj
        refine ⟨h1, z, L, h2, ⟨(hg _ ((h2 _).2 (.inl rfl))).trans h3.g, Nat.lt_of_lt_of_le h3.lt hn'⟩, h4.to hn' (fun b' _ hx' => ?_) hv, fun b' o n s d hz => Nat.lt_of_lt_of_le (h5 b' o n s d hz) hn', h6, Nat.le_trans h7 hn', hv.trans h8, fun b' hb' hne => (hlow b' hb').trans (h9 b' hb' hne)⟩
        obtain ⟨o, s', d, hx'⟩ := hx'
        exact hg b' ((h2 b').2 (.inr ⟨_, _, _, _, hx'⟩))
      · obtain ⟨h1, z, L, h2, h3, h4, h5, h6, _⟩ := hj
        rcases (h2 b').1 hb' with rfl | ⟨o, n', s', d, hz⟩
        · exact h3.lt
        · exact h5 _ _ _ _ _ hz
      · intro i xv S ma B' enter K hxv hj hlt hSl hown henter hK
        obtain ⟨L, z, hL, rfl, hz, hnil, hfr⟩ := hxv
        obtain ⟨hS, hkb, hf, hn6, hv6, hg6⟩ := hj
        refine ⟨z, rfl, henter ma _ rfl fun m15 hn15 hv15 hg15 hB15 => ?_⟩
        have hne0 : m0.nxt ≠ m6.nxt := by have := k16.lt; omega
        have hl15 : Li m15 z L := hz.to (by omega) (fun b' _ hx' => by obtain ⟨o, s', d, hx'⟩ := hx'; exact hg15 b' (by have := hfr b' _ _ _ _ hx'; omega)) hv15
        have kk15 : Bk m15 m0.nxt 1 [.sl0] := ⟨(hg15 _ hne0).trans hkb.g, by rw [hn15]; exact hkb.lt⟩
        have hold : ∀ b', b' < m6.nxt → b' ≠ m0.nxt → m15.g b' = m6.g b' := fun b' hb' hne => (hg15 b' (by omega)).trans (hg6 b' hb' hne)
        have x15 : Ext m m15 := ⟨by rw [hn15]; exact Nat.le_trans x46.nxt hn6, fun b' hb' => by rw [hold b' (Nat.lt_of_lt_of_le hb' x46.nxt) (by omega)]; exact x46.g b' hb', by rw [hv15, hv6]; exact x46.vw⟩
        have kf15 : Bk m15 m.nxt 1 [fnc] := ⟨(hold _ k06.lt (by omega)).trans k06.g, by rw [hn15]; exact Nat.lt_of_lt_of_le k06.lt hn6⟩
        have hLm : L ∈ combs n s [] 0 := List.mem_of_getElem? hL
        have hmem : L ∈ allL n := (mem_rests _ _ _ _).2 ⟨s, Nat.zero_le _, by omega, hLm⟩
        have hlen := combs_len hLm
        simp only [List.length_nil] at hlen
        refine ⟨fnc, kf15.rc rfl, ht m15 z L x15 hl15 hmem _ fun m18 e18 => ⟨_, rfl, ?_⟩⟩
        have kk18 := kk15.ext e18
        have hg18 : ∀ b', b' < ma.nxt → b' ≠ m6.nxt → m18.g b' = ma.g b' := fun b' hb' hne => by rw [e18.g b' (by omega)]; exact hg15 b' hne
        have hn18 : ma.nxt ≤ m18.nxt := by rw [← hn15]; exact e18.nxt
        have hv18 : m18.vw = ma.vw := e18.vw.trans hv15
        have hB18 : m18.g m6.nxt = m15.g m6.nxt := e18.g _ (by omega)
        rw [ifB_iff]
        refine ⟨fun htl => ?_, fun htl => ?_⟩
        · refine s104 (hl15.ext e18) hnil (by omega) fun z' m21 e21 hz' hfr' => ⟨z', rfl, _, (kk18.ext e21).st _, ?_⟩
          have hzne : ∀ b' o n s d, z' = .sl b' o n s d → b' ≠ m0.nxt := fun b' o n s d hq => by have := hfr' b' o n s d hq; have := kk18.lt; omega
          refine hK (.exit 0) (fun b' => b' = m0.nxt ∨ ∃ o n s d, z' = .sl b' o n s d) _ (hB15 _ ?_) (Nat.le_trans hn18 e21.nxt) (e21.vw.trans hv18) (fun b' hb' hSb hbl => ?_) (fun b' hb' => ?_) ⟨rfl, z', L, fun _ => Iff.rfl, (kk18.ext e21).set _, hz'.setNe hzne _, fun b' o n s d hq => ?_, ?_, ?_, ?_, fun b' hb' hne => ?_⟩
          · rw [M.g_set, if_neg (by omega), e21.g _ (by omega)]; exact hB18
          · rw [M.g_set, if_neg fun h0 => hSb ((hS b').2 h0), e21.g b' (by omega)]; exact hg18 b' hb' hbl
          · rcases hb' with h0 | ⟨o, n', s', d, hq⟩
            · exact .inl ((hS b').2 h0)
            · exact .inr (by have := hfr' _ _ _ _ _ hq; omega)
          · subst hq
            rcases hz'.val with ⟨h0, _⟩ | ⟨b3, o3, s3, c3, h0, h1, _⟩
            · cases h0
            · cases h0; exact h1
          · rw [← hf, drop_find hL, if_pos htl]
          · exact Nat.le_trans hn6 (Nat.le_trans hn18 e21.nxt)
          · exact (e21.vw.trans hv18).trans hv6
          · rw [M.g_set, if_neg hne, e21.g b' (by omega), hg18 b' (by omega) (by omega)]; exact hg6 b' hb' hne
        · refine hK .nrm S _ (hB15 _ hB18) hn18 hv18 (fun b' hb' _ hbl => hg18 b' hb' hbl) (Own.refl S ma) ⟨hS, kk18, ?_, Nat.le_trans hn6 hn18, hv18.trans hv6, fun b' hb' hne => by rw [hg18 b' (by omega) (by omega)]; exact hg6 b' hb' hne⟩
          rw [← hf, drop_find hL, if_neg (by rw [htl]; decide)]
      · intro S' m5' hown hlt hv hg hj
        obtain ⟨hS, hkb, hf, hn6, hv6, hg6⟩ := hj
        have hnone : (G s).find? t = none := by rw [← hf, List.drop_eq_nil_of_le (Nat.le_refl _)]; rfl
        rw [hnone] at hfind
        refine ⟨fits_small (by omega) (by omega), ih (s + 1) m5' (by omega) ⟨Nat.le_trans x46.nxt hn6, fun b' hb' => by rw [hg6 b' (Nat.lt_of_lt_of_le hb' x46.nxt) (by omega)]; exact x46.g b' hb', hv6.trans x46.vw⟩ ⟨(hg6 _ k06.lt (by omega)).trans k06.g, Nat.lt_of_lt_of_le k06.lt hn6⟩ hkb hfind⟩
      · intro id S' m5' hown hlt hv hg hj
        obtain ⟨h1, z, L, h2, h3, h4, h5, h6, hn6, hv6, hg6⟩ := hj
        cases h1
        refine ⟨z, h3.rc rfl, h z m5' ⟨Nat.le_trans x46.nxt hn6, fun b' hb' => by rw [hg6 b' (Nat.lt_of_lt_of_le hb' x46.nxt) (by omega)]; exact x46.g b' hb', hv6.trans x46.vw⟩ ?_⟩
        have : shortL n t = L := by unfold shortL; rw [← hfind, h6]; rfl
        rw [this]; exact h4
      · intro S' m5' hown hlt hv hg hj
        exact absurd hj.1 (by intro h; cases h)
  exact hgo (n + 1) 0 m1 (by omega) x01 (b0.ext x1) b1 rfl
end
end Go.Proofs.Ytgkjfhkjgdiodaa

namespace Go.Proofs.Ytgkjfhkjgdiodaa
open _root_.Go.Proofs.Try
open Go.Abs
set_option maxRecDepth 100000
noncomputable section
def prodN : List Int → Nat
  | [] => 1
  | v :: L => (v.toNat + 1) * prodN L
theorem mulL_prod : ∀ (L : List Int) (a : Int), Small L → mulL a L = a * (prodN L : Int)
  | [], a, _ => by show a = a * ((1 : Nat) : Int); omega
  | v :: L, a, h => by
    have hv := h v (List.mem_cons_self ..)
    show mulL (a * (v + 1)) L = a * (((v.toNat + 1) * prodN L : Nat) : Int)
    rw [mulL_prod L _ fun w hw => h w (List.mem_cons_of_mem _ hw), Int.natCast_mul, show ((v.toNat + 1 : Nat) : Int) = v + 1 by omega, Int.mul_assoc]
theorem few_truths {r c sm : Int} {L : List Int} {N : List Cnt} (hv : svErr r c L sm N = 0) : prodN L ≤ 2000 := by
  obtain ⟨hO, _⟩ := okay_of hv
  obtain ⟨hS, _, _⟩ := field_of hO.f
  have hm : mulL 1 L ≤ 2000 := by
    unfold svErr at hv
    rw [if_pos hO.n] at hv
    by_cases hs : isSv r c L sm N = true
    · rw [if_pos hs] at hv
      by_cases hm : mulL 1 L ≤ 2000
      · exact hm
      · rw [if_neg hm] at hv; simp at hv
    · rw [if_neg hs] at hv; simp at hv
  rw [mulL_prod L 1 hS] at hm
  omega
theorem true_sv {r c sm : Int} {L : List Int} {N : List Cnt} (h : trueErr r c L sm N = 0) : svErr r c L sm N = 0 ∧ 0 < (truthsP c sm L N).length := by
  unfold trueErr at h
  by_cases hv : svErr r c L sm N = 0
  · rw [if_pos hv] at h
    refine ⟨hv, ?_⟩
    cases ht : truthsP c sm L N with
    | nil => rw [ht] at h; simp at h
    | cons a l => simp
  · rw [if_neg hv] at h; exact absurd h hv
end
end Go.Proofs.Ytgkjfhkjgdiodaa

namespace Go.Proofs.Ytgkjfhkjgdiodaa
open _root_.Go.Proofs.Try
open Go.Abs
set_option maxRecDepth 100000
noncomputable section
def nthL : List Int → Int → List Int
  | [], _ => []
  | v :: L, n => n % (v + 1) :: nthL L (n / (v + 1))
theorem nthL_len : ∀ (L : List Int) (n : Int), (nthL L n).length = L.length
  | [], _ => rfl
  | v :: L, n => by show (nthL L _).length + 1 = _; rw [nthL_len L]; rfl
theorem s67 {r c n : Int} {x : C} {L : List Int} {m : M} {Q : V → M → Prop} (hx : Li m x L) (hS : Small L) (hL : L.length ≤ 1000) (hn : 0 ≤ n ∧ n ≤ 100000) (h : ∀ z m', Ext m m' → Li m' z (nthL L n) → Fr m z → Q (.c z) m') :
    Wc prog tbl 67 [.agg 3 [.int .i64 r, .int .i64 c, x], .c (.int .i64 n)] m Q := by
  refine w67 fun m0 e0 R1 hstep => ?_
  obtain ⟨b0, x0⟩ := Bk.new e0
  have hgo : ∀ (d i : Nat) (s : C) (a : Int) (m5 : M) (A : List Int), d + i = L.length → Own1 m5 1 s (ints A) i → Fr m0 s → Ext m0 m5 → 0 ≤ a ∧ a ≤ 100000 → A ++ nthL (L.drop i) a = nthL L n → R1 [.c s, .c (.int .i64 a), .c (.int .i64 (i : Int))] m5 := by
    intro d
    induction d with
    | zero =>
      intro i s a m5 A hd ho hf he ha heq
      refine hstep _ _ _ _ ⟨trivial, x, (b0.ext he).rc rfl, hx.isSl, ?_⟩
      rw [hx.slLen, ifB_dec]
      refine ⟨fun h1 => by omega, fun _ => ?_⟩
      rw [List.drop_eq_nil_of_le (by omega)] at heq
      have hA : A = nthL L n := by rw [← heq]; exact (List.append_nil A).symm
      refine h s m5 (x0.trans he) ?_ (hf.mono x0.nxt)
      have := ho.ls
      rw [hA] at this
      have hl : i = (nthL L n).length := by rw [nthL_len]; omega
      rw [hl] at this
      exact this
    | succ d ih =>
      intro i s a m5 A hd ho hf he ha heq
      refine hstep _ _ _ _ ⟨trivial, x, (b0.ext he).rc rfl, hx.isSl, ?_⟩
      rw [hx.slLen, ifB_dec]
      refine ⟨fun _ => ?_, fun h1 => absurd (by omega) h1⟩
      have hi : i < L.length := by omega
      have hv := small_at hS hi
      have hxe := (hx.ext x0).ext he
      have hm0 := Int.emod_nonneg a (b := L[i] + 1) (by omega)
      have hm1 := Int.emod_lt_of_pos a (b := L[i] + 1) (by omega)
      have hd0 := Int.ediv_nonneg (a := a) (b := L[i] + 1) ha.1 (by omega)
      have hd1 := Int.ediv_le_self (L[i] + 1) ha.1
      refine ⟨trivial, x, (b0.ext he).rc rfl, i, rfl, by rw [hx.slLen]; exact hi, L[i], Li.rd hxe (List.getElem?_eq_getElem hi), fits_small (by omega) (by omega), ha.1, by omega, fits_small (by omega) (by omega), fun m10 h10 => ?_⟩
      obtain ⟨c11, m12, a1, a2, a3, a4, a5, a6⟩ := ap_step t22 g3 z3 (by omega) ho hf he (ws := [.int .i64 (a % (L[i] + 1))]) rfl (by omega) h10
      refine ⟨c11, m12, a1, trivial, x, (b0.ext a4).rc rfl, i, rfl, by rw [hx.slLen]; exact hi, L[i], Li.rd ((hx.ext x0).ext a4) (List.getElem?_eq_getElem hi), fits_small (by omega) (by omega), ha.1, by omega, fits_small (by omega) (by omega), fits_small (by omega) (by omega), ?_⟩
      refine ih (i + 1) c11 _ m12 (A ++ [a % (L[i] + 1)]) (by omega) (by rw [← ints_app]; exact a2) a3 a4 ⟨hd0, by omega⟩ ?_
      rw [← heq, List.drop_eq_getElem_cons hi, List.append_assoc]; rfl
  exact hgo L.length 0 .sl0 n m0 [] (by omega) (Own1.nil' _ _) (Fr.nil _) (.refl _) hn rfl
theorem many_eq : ∀ {L : List Int} {a : Int}, Small L → 0 ≤ a → mulL a L ≤ 4000 → manyL a L = mulL a L
  | [], a, _, _, _ => rfl
  | v :: L, a, h, ha, h4 => by
    have hv := h v (List.mem_cons_self ..)
    have hL : Small L := fun w hw => h w (List.mem_cons_of_mem _ hw)
    have h1 : 0 ≤ a * (v + 1) := Int.mul_nonneg ha (by omega)
    have h2 : a * (v + 1) ≤ mulL (a * (v + 1)) L := mulL_ge hL h1
    have h3 : mulL (a * (v + 1)) L ≤ 4000 := h4
    show manyL (min 4000 (a * (v + 1))) L = mulL (a * (v + 1)) L
    rw [Int.min_eq_right (by omega)]
    exact many_eq hL h1 h3
theorem many_prod {L : List Int} (hS : Small L) (h : prodN L ≤ 2000) : manyL 1 L = (prodN L : Int) := by
  have h1 := mulL_prod L 1 hS
  rw [many_eq hS (by omega) (by omega), h1]; omega
def trN (p : Int → Bool) : Nat → List Int
  | 0 => []
  | n + 1 => trN p n ++ (if p (n : Int) then [(n : Int)] else [])
theorem mem_trN (p : Int → Bool) (a : Int) : ∀ n : Nat, a ∈ trN p n ↔ 0 ≤ a ∧ a < (n : Int) ∧ p a = true
  | 0 => ⟨fun h => (by cases h), fun h => by omega⟩
  | n + 1 => by
    show a ∈ trN p n ++ _ ↔ _
    rw [List.mem_append, mem_trN p a n]
    constructor
    · rintro (h | h)
      · exact ⟨h.1, by omega, h.2.2⟩
      · by_cases hp : p (n : Int) = true
        · rw [if_pos hp, List.mem_singleton] at h
          rw [h]; exact ⟨by omega, by omega, hp⟩
        · rw [if_neg hp] at h; cases h
    · rintro ⟨h1, h2, h3⟩
      by_cases ha : a = (n : Int)
      · subst ha; rw [if_pos h3]; exact .inr (List.mem_singleton.2 rfl)
      · exact .inl ⟨h1, by omega, h3⟩
theorem allNF {r c sm : Int} {x y : C} (h1 : noFnC x = true) (h2 : noFnC y = true) : allS noFnC [.int .i64 r, .int .i64 c, x, .int .i64 sm, y] = true := by
  show ifB true (ifB true (ifB (noFnC x) (ifB true (ifB (noFnC y) true false) false) false) false) false = true
  rw [h1, h2]; rfl
def truN (c sm : Int) (L : List Int) (N : List Cnt) : List Int := trN (fun n => truthR c sm L N (nthL L n)) (prodN L)
end
end Go.Proofs.Ytgkjfhkjgdiodaa

namespace Go.Proofs.Ytgkjfhkjgdiodaa
open _root_.Go.Proofs.Try
open Go.Abs
set_option maxRecDepth 100000
noncomputable section
def sureErr (r c : Int) (L : List Int) (sm : Int) (N : List Cnt) : Int := if svErr r c L sm N = 0 then (if (truN c sm L N).length = 0 then 9 else 0) else svErr r c L sm N
end
end Go.Proofs.Ytgkjfhkjgdiodaa

namespace Go.Proofs.Ytgkjfhkjgdiodaa
open _root_.Go.Proofs.Try
open Go.Abs
set_option maxRecDepth 100000
noncomputable section
def lst : List Int → List Int → Prop
  | [], [] => True
  | v :: L, w :: H => (0 ≤ w ∧ w ≤ v) ∧ lst L H
  | _, _ => False
theorem lst_iff : ∀ {L H : List Int}, lst L H ↔ H.length = L.length ∧ ∀ i : Nat, i < L.length → 0 ≤ H[i]! ∧ H[i]! ≤ L[i]!
  | [], [] => ⟨fun _ => ⟨rfl, fun i hi => by simp at hi⟩, fun _ => trivial⟩
  | [], w :: H => ⟨fun h => h.elim, fun h => by simp at h⟩
  | v :: L, [] => ⟨fun h => h.elim, fun h => by simp at h⟩
  | v :: L, w :: H => by
    show (0 ≤ w ∧ w ≤ v) ∧ lst L H ↔ _
    rw [lst_iff]
    constructor
    · rintro ⟨h1, h2, h3⟩
      refine ⟨by simp [h2], fun i hi => ?_⟩
      cases i with
      | zero => exact h1
      | succ i => exact h3 i (by simpa using hi)
    · rintro ⟨h2, h3⟩
      exact ⟨h3 0 (by simp), by simpa using h2, fun i hi => h3 (i + 1) (by simpa using hi)⟩
theorem listed_lst {L H : List Int} : listed L H = true ↔ lst L H := by rw [lst_iff]; exact decide_eq_true_iff
theorem nth_surj : ∀ {L H : List Int}, Small L → lst L H → ∃ n : Int, 0 ≤ n ∧ n < (prodN L : Int) ∧ nthL L n = H
  | [], [], _, _ => ⟨0, by omega, by show (0 : Int) < ((1 : Nat) : Int); omega, rfl⟩
  | [], _ :: _, _, h => h.elim
  | _ :: _, [], _, h => h.elim
  | v :: L, w :: H, hS, h => by
    have hv := hS v (List.mem_cons_self ..)
    obtain ⟨hw, hr⟩ : (0 ≤ w ∧ w ≤ v) ∧ lst L H := h
    obtain ⟨n, h0, h1, h2⟩ := nth_surj (fun u hu => hS u (List.mem_cons_of_mem _ hu)) hr
    have hpos : 0 ≤ (v + 1) * n := Int.mul_nonneg (by omega) h0
    have hlt : (v + 1) * (n + 1) ≤ (v + 1) * (prodN L : Int) := Int.mul_le_mul_of_nonneg_left (by omega) (by omega)
    rw [Int.mul_add, Int.mul_one] at hlt
    refine ⟨w + (v + 1) * n, by omega, ?_, ?_⟩
    · show _ < (((v.toNat + 1) * prodN L : Nat) : Int)
      rw [Int.natCast_mul, show ((v.toNat + 1 : Nat) : Int) = v + 1 by omega]; omega
    · show (w + (v + 1) * n) % (v + 1) :: nthL L ((w + (v + 1) * n) / (v + 1)) = w :: H
      rw [Int.add_mul_emod_self_left, Int.emod_eq_of_lt hw.1 (by omega), Int.add_mul_ediv_left _ _ (by omega), Int.ediv_eq_zero_of_lt hw.1 (by omega), Int.zero_add, h2]
theorem mem_truN {c sm : Int} {L : List Int} {N : List Cnt} {a : Int} : a ∈ truN c sm L N ↔ 0 ≤ a ∧ a < (prodN L : Int) ∧ truthR c sm L N (nthL L a) = true := mem_trN _ _ _
theorem truthR_listed {c sm : Int} {L H : List Int} {N : List Cnt} (h : truthR c sm L N H = true) : listed L H = true := by
  by_cases hT : TruthR c sm L N H
  · exact hT.1
  · rw [truthR_false hT] at h; cases h
theorem same_nums {r c sm : Int} {L : List Int} {N : List Cnt} (hv : svErr r c L sm N = 0) (num : List Int → Int) (v : Int) : v ∈ (truN c sm L N).map (fun a => num (nthL L a)) ↔ v ∈ (truthsP c sm L N).map num := by
  obtain ⟨hO, hsm⟩ := okay_of hv
  obtain ⟨hS, _, _⟩ := field_of hO.f
  rw [List.mem_map, List.mem_map]
  constructor
  · rintro ⟨a, h1, h2⟩
    exact ⟨nthL L a, (mem_truths hO hsm.1).2 (mem_truN.1 h1).2.2, h2⟩
  · rintro ⟨H, h1, h2⟩
    have ht := (mem_truths hO hsm.1).1 h1
    obtain ⟨n, q1, q2, q3⟩ := nth_surj hS (listed_lst.1 (truthR_listed ht))
    exact ⟨n, mem_truN.2 ⟨q1, q2, by rw [q3]; exact ht⟩, by rw [q3]; exact h2⟩
theorem sure_true {r c sm : Int} {L : List Int} {N : List Cnt} : sureErr r c L sm N = trueErr r c L sm N := by
  unfold sureErr trueErr
  by_cases hv : svErr r c L sm N = 0
  · rw [if_pos hv, if_pos hv]
    have hs := same_nums hv (fun _ => 0) 0
    cases h1 : truN c sm L N with
    | nil =>
      cases h2 : truthsP c sm L N with
      | nil => rfl
      | cons H T => rw [h1, h2] at hs; simp at hs
    | cons a A =>
      cases h2 : truthsP c sm L N with
      | nil => rw [h1, h2] at hs; simp at hs
      | cons H T => rfl
  · rw [if_neg hv, if_neg hv]
end
end Go.Proofs.Ytgkjfhkjgdiodaa

namespace Go.Proofs.Ytgkjfhkjgdiodaa
open _root_.Go.Proofs.Try
open Go.Abs
set_option maxRecDepth 100000
noncomputable section
/-- an increasing list of numbers from fr on, below n -/
def Inc (n fr : Nat) (T : List Int) : Prop := T.Pairwise (· < ·) ∧ ∀ v ∈ T, (fr : Int) ≤ v ∧ v < n
theorem Inc.cons {n fr : Nat} {x : Int} {T : List Int} : Inc n fr (x :: T) ↔ ((fr : Int) ≤ x ∧ x < n) ∧ Inc n (x + 1).toNat T := by
  unfold Inc
  rw [List.pairwise_cons]
  constructor
  · rintro ⟨⟨h1, h2⟩, h3⟩
    have hx := h3 x (List.mem_cons_self ..)
    exact ⟨hx, h2, fun v hv => by have := h1 v hv; have := h3 v (List.mem_cons_of_mem _ hv); omega⟩
  · rintro ⟨hx, h2, h3⟩
    refine ⟨⟨fun v hv => by have := h3 v hv; omega, h2⟩, fun v hv => ?_⟩
    rcases List.mem_cons.1 hv with rfl | hv
    · exact hx
    · have := h3 v hv; omega
theorem mem_combs {n : Nat} {D : List Int} : ∀ {d : Nat} {pre : List Int} {fr : Nat}, D ∈ combs n d pre fr ↔ ∃ T, D = pre ++ T ∧ T.length = d ∧ Inc n fr T
  | 0, pre, fr => by
    show D ∈ [pre] ↔ _
    rw [List.mem_singleton]
    constructor
    · rintro rfl; exact ⟨[], by simp, rfl, .nil, fun v hv => by cases hv⟩
    · rintro ⟨T, h1, h2, _⟩
      rw [List.eq_nil_of_length_eq_zero h2, List.append_nil] at h1; exact h1
  | d + 1, pre, fr => by
    show D ∈ rests (fun x => combs n d (pre ++ [(x : Int)]) (x + 1)) (n - fr) fr ↔ _
    rw [mem_rests]
    constructor
    · rintro ⟨x, h1, h2, h3⟩
      obtain ⟨T, h4, h5, h6⟩ := mem_combs.1 h3
      refine ⟨(x : Int) :: T, by rw [h4]; simp, by simp [h5], Inc.cons.2 ⟨by omega, ?_⟩⟩
      rw [show ((x : Int) + 1).toNat = x + 1 by omega]; exact h6
    · rintro ⟨T, h1, h2, h3⟩
      cases T with
      | nil => simp at h2
      | cons v T =>
        obtain ⟨h4, h5⟩ := Inc.cons.1 h3
        refine ⟨v.toNat, by omega, by omega, mem_combs.2 ⟨T, ?_, by simpa using h2, ?_⟩⟩
        · rw [show ((v.toNat : Nat) : Int) = v by omega, h1]; simp
        · rw [show v.toNat + 1 = (v + 1).toNat by omega]; exact h5
theorem inc_len {n : Nat} : ∀ {T : List Int} {fr : Nat}, Inc n fr T → T.length ≤ n - fr
  | [], _, _ => Nat.zero_le _
  | v :: T, fr, h => by
    obtain ⟨h1, h2⟩ := Inc.cons.1 h
    have := inc_len h2
    simp only [List.length_cons]
    omega
theorem mem_allL {n : Nat} {D : List Int} : D ∈ allL n ↔ Inc n 0 D := by
  unfold allL
  rw [mem_rests]
  constructor
  · rintro ⟨s, _, _, h⟩
    obtain ⟨T, h1, _, h2⟩ := mem_combs.1 h
    rw [h1]; exact h2
  · intro h
    have := inc_len h
    exact ⟨D.length, Nat.zero_le _, by omega, mem_combs.2 ⟨D, rfl, rfl, h⟩⟩
/-- the counts of a list can be left out -/
def leaveB (c sm : Int) (L : List Int) (N : List Cnt) (D : List Int) : Bool := !(truthsV c sm L N (marksL false6 D)).isEmpty
def leaveL (r c sm : Int) (L : List Int) (N : List Cnt) : List Int := if svErr r c L sm N = 0 then shortL N.length (leaveB c sm L N) else []
/-- Leave -/
theorem s52 {r c sm : Int} {x y : C} {L : List Int} {N : List Cnt} {m : M} {Q : V → M → Prop} (hx : Li m x L) (hL : L.length ≤ 1048576) (hy : Lc m y N) (hN : N.length ≤ 1000)
    (h : ∀ z m', Ext m m' → Li m' z (leaveL r c sm L N) → Q (.tup [.c z, .c (.int .i64 (svErr r c L sm N))]) m') : Wc prog tbl 52 [.agg 5 [.int .i64 r, .int .i64 c, x, .int .i64 sm, y]] m Q := by
  refine w52 fun m0 e0 => ?_
  obtain ⟨b0, x0⟩ := Bk.new e0
  refine ⟨r, c, x, sm, y, b0.ra, s37 (hx.ext x0) hL (hy.ext x0) hN fun m7 e7 => ⟨_, rfl, ?_⟩⟩
  have x7 := x0.trans e7
  have b7 := b0.ext e7
  rw [ifB_ndec]
  refine ⟨fun h1 => ?_, fun h1 => ?_⟩
  · refine h _ _ x7 ?_
    unfold leaveL
    rw [if_neg h1]
    exact Ls.nil m7 1
  obtain ⟨hO, hsm⟩ := okay_of h1
  have hN6 := hO.n
  refine ⟨trivial, y, b7.rc rfl, hy.isSl, r, c, x, sm, y, b7.ra, s76 (hx.ext x7) (hy.ext x7) hO fun m16 mb f e16 hmp hms => ⟨r, c, x, sm, y, .map mb, rfl, ⟨hy.isSl, rfl⟩, ?_, ?_⟩⟩
  · rw [hy.noFn]; exact (b7.ext e16).rc rfl
  obtain ⟨xc, hxc, hxc'⟩ := keepC hx
  obtain ⟨yc, hyc, hyc'⟩ := keepC hy
  have hvw : mapO vW [V.agg 6 [C.int .i64 r, .int .i64 c, x, .int .i64 sm, y, .map mb]] = some [.agg 6 [.int .i64 r, .int .i64 c, xc, .int .i64 sm, yc, .map mb]] := by
    show optB (optB (optB (some (C0.int .i64 r)) none fun a => optB (optB (some (C0.int .i64 c)) none fun b => optB (optB (cC0 x) none fun c' => optB (optB (some (C0.int .i64 sm)) none fun d => optB (optB (cC0 y) none fun e => optB (optB (some (C0.map mb)) none fun g => some [g]) none fun l => some (e :: l)) none fun l => some (d :: l)) none fun l => some (c' :: l)) none fun l => some (b :: l)) none fun l => some (a :: l)) none fun xs => some (W.agg 6 xs)) none (fun w => some [w]) = _
    rw [hxc, hyc]; rfl
  rw [hvw, optB_some, hy.slLen]
  have x16 := x7.trans e16
  refine s87 (t := leaveB c sm L N) (by omega) (fun m' z D e hz hD Q' hq => ?_) fun z m25 e25 hz => ⟨z, rfl, ?_⟩
  · have hi := mem_allL.1 hD
    have hl := inc_len hi
    show Wc prog tbl 91 [.agg 6 [.int .i64 r, .int .i64 c, c0C xc, .int .i64 sm, c0C yc, .map mb], .c z] m' Q'
    rw [hxc', hyc']
    exact s91 (f := f) ⟨hmp.ext e, hms⟩ (hx.ext (x16.trans e)) hO.f hz (by omega) (fun v hv => by have := hi.2 v hv; omega) fun m'' e'' => hq m'' e''
  · have hq := h z m25 (x16.trans e25) (by unfold leaveL; rw [if_pos h1]; exact hz)
    rw [h1] at hq
    exact hq
end
end Go.Proofs.Ytgkjfhkjgdiodaa

namespace Go.Proofs.Ytgkjfhkjgdiodaa
open _root_.Go.Proofs.Try
open Go.Abs
set_option maxRecDepth 100000
noncomputable section
theorem s58 {r c sm : Int} {x y : C} {L : List Int} {N : List Cnt} {m : M} {Q : V → M → Prop} (hx : Li m x L) (hy : Lc m y N)
    (h : ∀ m', Ext m m' → Q (.c (.bool (decide (svErr r c L sm N = 0)))) m') : Wc prog tbl 58 [.agg 5 [.int .i64 r, .int .i64 c, x, .int .i64 sm, y]] m Q := by
  refine w58 fun m0 e0 => ?_
  obtain ⟨b0, x0⟩ := Bk.new e0
  refine ⟨r, c, x, sm, y, b0.ra, s19 (hx.ext x0) (hy.ext x0) fun m7 e7 => ⟨_, rfl, ?_⟩⟩
  rw [ifB_dec]
  refine ⟨fun h1 => ⟨r, c, x, sm, y, (b0.ext e7).ra, s36 (hx.ext (x0.trans e7)) (by omega) (hy.ext (x0.trans e7)) (by omega) fun m15 e15 => ⟨_, rfl, h m15 ((x0.trans e7).trans e15)⟩⟩, fun h1 => ?_⟩
  have hq := h m7 (x0.trans e7)
  rw [decide_eq_false fun hv => h1 ?_] at hq
  · exact hq
  · obtain ⟨hO, _⟩ := okay_of hv
    obtain ⟨_, h9, _⟩ := field_of hO.f
    have := hO.n
    exact ⟨by omega, by omega⟩
end
end Go.Proofs.Ytgkjfhkjgdiodaa

namespace Go.Proofs.Ytgkjfhkjgdiodaa
open _root_.Go.Proofs.Try
open Go.Abs
set_option maxRecDepth 100000
noncomputable section
theorem truthR_iff {c sm : Int} {L H : List Int} {N : List Cnt} : truthR c sm L N H = true ↔ TruthR c sm L N H :=
  ⟨fun h => by
    by_cases hT : TruthR c sm L N H
    · exact hT
    · rw [truthR_false hT] at h; exact absurd h (by decide), truthR_true⟩
theorem sv_ok {r c sm : Int} {L : List Int} {N : List Cnt} (hO : Okay r c L N) (hsm : 0 ≤ sm ∧ sm ≤ 9) (hP : prodN L ≤ 2000) : svErr r c L sm N = 0 := by
  obtain ⟨hS, _, _⟩ := field_of hO.f
  unfold svErr
  rw [if_pos hO.n, if_pos (show isSv r c L sm N = true from by unfold isSv; rw [hO.f, decide_eq_true hsm, decide_eq_true hO.v]; rfl), if_pos (by rw [mulL_prod L 1 hS]; omega)]
theorem mem_P {r c sm : Int} {L H : List Int} {N : List Cnt} (hv : svErr r c L sm N = 0) : H ∈ truthsP c sm L N ↔ TruthR c sm L N H := by
  obtain ⟨hO, hsm⟩ := okay_of hv
  rw [← truthR_iff]
  exact mem_truths hO hsm.1
theorem true_ex {r c sm : Int} {L : List Int} {N : List Cnt} (hv : svErr r c L sm N = 0) : trueErr r c L sm N = 0 ↔ ∃ H, TruthR c sm L N H := by
  constructor
  · intro h
    obtain ⟨_, hp⟩ := true_sv h
    exact ⟨_, (mem_P hv).1 (List.getElem_mem hp)⟩
  · rintro ⟨H, h⟩
    have := (mem_P hv).2 h
    unfold trueErr
    rw [if_pos hv]
    cases ht : truthsP c sm L N with
    | nil => rw [ht] at this; cases this
    | cons a l => rfl
end
end Go.Proofs.Ytgkjfhkjgdiodaa

namespace Go.Proofs.Ytgkjfhkjgdiodaa
open _root_.Go.Proofs.Try
open Go.Abs
set_option maxRecDepth 100000
noncomputable section
/-- counts, some of which don't count any more -/
def outN (N : List Cnt) (S : Nat → Bool) : List Cnt := N.mapIdx fun i n => { n with late := n.late || S i }
def bitI (out : Int) (k : Nat) : Bool := decide (out / 2 ^ k % 2 ≠ 0)
theorem outN_len (N : List Cnt) (S : Nat → Bool) : (outN N S).length = N.length := by simp [outN]
theorem outN_get (N : List Cnt) (S : Nat → Bool) (k : Nat) : (outN N S)[k]? = (N[k]?).map fun n => { n with late := n.late || S k } := by simp [outN]
theorem outN_congr {N : List Cnt} {S S' : Nat → Bool} (h : ∀ k, k < N.length → S k = S' k) : outN N S = outN N S' := by
  refine List.ext_getElem? fun k => ?_
  rw [outN_get, outN_get]
  by_cases hk : k < N.length
  · rw [h k hk]
  · rw [List.getElem?_eq_none (by omega)]; rfl
theorem outN_okay {r c : Int} {L : List Int} {N : List Cnt} (hO : Okay r c L N) (S : Nat → Bool) : Okay r c L (outN N S) :=
  ⟨hO.f, by rw [outN_len]; exact hO.n, fun n hn => by
    obtain ⟨k, hk, rfl⟩ := List.getElem_of_mem hn
    have h1 := List.getElem?_eq_getElem hk
    rw [outN_get] at h1
    have hk' : k < N.length := by rw [outN_len] at hk; exact hk
    rw [List.getElem?_eq_getElem hk'] at h1
    have h2 := Option.some.inj h1
    rw [← h2]
    have h3 := hO.v N[k] (List.getElem_mem hk')
    exact h3⟩
theorem outN_sv {r c sm : Int} {L : List Int} {N : List Cnt} (hv : svErr r c L sm N = 0) (S : Nat → Bool) : svErr r c L sm (outN N S) = 0 := by
  obtain ⟨hO, hsm⟩ := okay_of hv
  exact sv_ok (outN_okay hO S) hsm (few_truths hv)
theorem bad_out {N : List Cnt} {S : Nat → Bool} {p h j : Nat} : bad (outN N S) p h j = (bad N p h j && !S j) := by
  unfold bad
  rw [outN_get]
  cases N[j]? with
  | none => rfl
  | some n =>
    show (decide (n.p = (p : Int)) && !(n.late || S j) && !decide (n.lo ≤ (h : Int) ∧ (h : Int) ≤ n.hi)) = (decide (n.p = (p : Int)) && !n.late && !decide (n.lo ≤ (h : Int) ∧ (h : Int) ≤ n.hi) && !S j)
    cases decide (n.p = (p : Int)) <;> cases n.late <;> cases S j <;> simp
theorem fits_out {c sm : Int} {N : List Cnt} {P : List Int} {O : List Bool} {i : Nat} : fitsB c sm N P O i = fitsB c sm (outN N fun j => O[j]!) P false6 i := by
  unfold fitsB
  congr 1
  unfold within
  refine decide_eq_decide.2 (forall_congr' fun j => forall_congr' fun hj => ?_)
  have hf : false6[j]! = false := by
    rcases (by omega : j = 0 ∨ j = 1 ∨ j = 2 ∨ j = 3 ∨ j = 4 ∨ j = 5) with rfl | rfl | rfl | rfl | rfl | rfl <;> rfl
  rw [hf, stL_get hj, stL_get hj]
  unfold stB
  rw [outN_len, bad_out]
  cases O[j]! <;> simp
theorem exts_congr {c sm : Int} {L : List Int} {N N' : List Cnt} {O O' : List Bool} (h : ∀ P i, fitsB c sm N P O i = fitsB c sm N' P O' i) : ∀ (d : Nat) (pre : List Int), exts c sm L N O d pre = exts c sm L N' O' d pre
  | 0, _ => rfl
  | d + 1, pre => by
    show rests (fun n => if fitsB c sm N (pad (pre ++ [(n : Int)])) O pre.length then exts c sm L N O d (pre ++ [(n : Int)]) else []) (L[pre.length]!.toNat + 1) 0 = rests (fun n => if fitsB c sm N' (pad (pre ++ [(n : Int)])) O' pre.length then exts c sm L N' O' d (pre ++ [(n : Int)]) else []) (L[pre.length]!.toNat + 1) 0
    congr 1
    funext n
    rw [h, exts_congr h d]
theorem marks_get : ∀ {D : List Int} {B : List Bool} {j : Nat}, j < B.length → (∀ v ∈ D, 0 ≤ v) → (marksL B D)[j]! = (B[j]! || decide ((j : Int) ∈ D))
  | [], B, j, _, _ => by
    show B[j]! = _
    simp
  | v :: D, B, j, hj, h => by
    have hv := h v (List.mem_cons_self ..)
    show (marksL (B.set v.toNat true) D)[j]! = _
    rw [marks_get (by rw [List.length_set]; exact hj) fun w hw => h w (List.mem_cons_of_mem _ hw)]
    rw [getElem!_pos _ j (by rw [List.length_set]; exact hj), getElem!_pos B j hj, List.getElem_set]
    by_cases hvj : v.toNat = j
    · have : (j : Int) = v := by omega
      rw [if_pos hvj, this]; simp
    · have : ¬ (j : Int) = v := by omega
      rw [if_neg hvj]
      have h2 : decide ((j : Int) ∈ v :: D) = decide ((j : Int) ∈ D) := decide_eq_decide.2 (by rw [List.mem_cons]; exact ⟨fun h => h.resolve_left this, .inr⟩)
      rw [h2]
def inD (D : List Int) (j : Nat) : Bool := decide ((j : Int) ∈ D)
/-- the counts of a list can be left out if and only if there is a truth without them -/
theorem leaveB_iff {r c sm : Int} {L D : List Int} {N : List Cnt} (hv : svErr r c L sm N = 0) (hD : Inc N.length 0 D) : leaveB c sm L N D = true ↔ ∃ H, TruthR c sm L (outN N (inD D)) H := by
  obtain ⟨hO, hsm⟩ := okay_of hv
  have hn6 := hO.n
  have he : exts c sm L N (marksL false6 D) L.length [] = exts c sm L (outN N (inD D)) false6 L.length [] := by
    refine (exts_congr (fun P i => fits_out) L.length []).trans ?_
    rw [outN_congr (S := fun j => (marksL false6 D)[j]!) (S' := inD D) fun k hk => ?_]
    show (marksL false6 D)[k]! = _
    rw [marks_get (by show k < 6; omega) fun v hv' => by have := hD.2 v hv'; omega]
    have hf : false6[k]! = false := by
      rcases (by omega : k = 0 ∨ k = 1 ∨ k = 2 ∨ k = 3 ∨ k = 4 ∨ k = 5) with rfl | rfl | rfl | rfl | rfl | rfl <;> rfl
    rw [hf]; rfl
  unfold leaveB truthsV
  rw [he]
  have hmem : ∀ H, H ∈ exts c sm L (outN N (inD D)) false6 L.length [] ↔ TruthR c sm L (outN N (inD D)) H := fun H => mem_P (outN_sv hv (inD D))
  cases hx : exts c sm L (outN N (inD D)) false6 L.length [] with
  | nil =>
    refine ⟨fun h => by simp at h, fun ⟨H, h⟩ => ?_⟩
    have := (hmem H).2 h
    rw [hx] at this; cases this
  | cons H T => exact ⟨fun _ => ⟨H, (hmem H).1 (by rw [hx]; exact List.mem_cons_self ..)⟩, fun _ => rfl⟩
theorem s38g {r c sm out : Int} {x y z : C} {L H : List Int} {N : List Cnt} {m : M} {Q : V → M → Prop} (hx : Li m x L) (hz : Lc m z N) (hO : Okay r c L N) (hsm : 0 ≤ sm ∧ sm ≤ 9) (hout : 0 ≤ out ∧ out ≤ 1000000) (hy : Li m y H) (hH : H.length ≤ 1000)
    (h : ∀ m', Ext m m' → Q (.c (.bool (truthR c sm L (outN N (bitI out)) H))) m') : Wc prog tbl 38 [.agg 5 [.int .i64 r, .int .i64 c, x, .int .i64 sm, z], .c y, .c (.int .i64 out)] m Q := by
  obtain ⟨hS, hL, hrc⟩ := field_of hO.f
  have hsd := sides_of hO.f
  have hn6 := hO.n
  refine w38 fun m0 e0 => ?_
  obtain ⟨b0, x0⟩ := Bk.new e0
  refine ⟨trivial, r, c, x, b0.rp (k := 0) (j := 3) rfl (by omega), s39 (hx.ext x0) (by omega) (hy.ext x0) fun m5 e5 => ⟨_, rfl, ?_⟩⟩
  have x5 := x0.trans e5
  have hfalse : ∀ {m'}, Ext m5 m' → ¬ TruthR c sm L (outN N (bitI out)) H → Q (.c (.bool false)) m' := fun e hf => by
    have := h _ (x5.trans e); rw [truthR_false hf] at this; exact this
  cases hl : listed L H with
  | false => exact hfalse (.refl _) fun h1 => by rw [h1.1] at hl; cases hl
  | true =>
  show ifB false _ _
  rw [ifB_false]
  have hlen := listed_len hl
  have hSH := small_listed hS hl
  intro R7 hstep
  have b5 := b0.ext e5
  have hy5 := hy.ext x5
  have hz5 := hz.ext x5
  have hgo7 : ∀ (d i : Nat) (b8 : Bool), d + i = H.length → (∀ a b : Nat, a < i → a < b → b < H.length → pairR c sm H a b) → R7 [.c (.bool b8), .c (.int .i64 (i : Int))] m5 := by
    intro d
    induction d with
    | zero =>
      intro i b8 hd hn
      refine hstep _ _ _ ⟨hy.isSl, ?_⟩
      rw [hy.slLen, ifB_dec]
      refine ⟨fun h1 => by omega, fun _ R46 hstep4 => ?_⟩
      have hcts : ∀ (d i : Nat) (b : Bool) (m49 : M), d + i = N.length → (∀ n ∈ (outN N (bitI out)).take i, cntR H n) → Ext m5 m49 → R46 [.c (.bool b), .c (.int .i64 (i : Int))] m49 := by
        intro d
        induction d with
        | zero =>
          intro k b m49 hd2 hk he
          have b49 := b5.ext he
          refine hstep4 _ _ _ ⟨trivial, z, b49.rc rfl, hz.isSl, ?_⟩
          rw [hz.slLen, ifB_dec]
          refine ⟨fun h1 => by omega, fun _ => ?_⟩
          have hq := h m49 (x5.trans he)
          rw [truthR_true ⟨hl, fun a b hab hb => hn a b (by omega) hab hb, fun n hn' => hk n (by rw [List.take_of_length_le (by rw [outN_len]; omega)]; exact hn')⟩] at hq
          exact hq
        | succ d ih2 =>
          intro k b m49 hd2 hk he
          have b49 := b5.ext he
          refine hstep4 _ _ _ ⟨trivial, z, b49.rc rfl, hz.isSl, ?_⟩
          rw [hz.slLen, ifB_dec]
          refine ⟨fun _ => ?_, fun h1 => by omega⟩
          have hk6 : k < N.length := by omega
          have hc := List.getElem?_eq_getElem hk6
          have hc' : (outN N (bitI out))[k]? = some { N[k] with late := N[k].late || bitI out k } := by rw [outN_get, hc]; rfl
          have hok : (0 ≤ N[k].p ∧ N[k].p ≤ r * c - 1) ∧ 0 ≤ N[k].lo ∧ N[k].lo ≤ N[k].hi ∧ N[k].hi ≤ 9 := of_decide_eq_true (hO.v _ (List.getElem_mem hk6))
          obtain ⟨p, hp⟩ : ∃ p : Nat, N[k].p = (p : Int) := ⟨N[k].p.toNat, by omega⟩
          have hpH : p < H.length := by omega
          refine ⟨trivial, z, b49.rc rfl, k, rfl, by rw [hz.slLen]; exact hk6, N[k].p, N[k].lo, N[k].hi, N[k].late, ?_, fun m57 h57 => ?_⟩
          · rw [Ls.rds (hz5.ext he) (by omega) (cnts_room hk6 (by omega)), cnts_all hc]; rfl
          obtain ⟨b57, x57⟩ := Bk.new h57
          have k58 := b57.set [.int .i64 N[k].p, .int .i64 N[k].lo, .int .i64 N[k].hi, .bool N[k].late]
          have e58 : Ext m49 (m57.set m49.nxt (.cells 4 [.int .i64 N[k].p, .int .i64 N[k].lo, .int .i64 N[k].hi, .bool N[k].late] false)) := x57.setR (Nat.le_refl _) _
          refine ⟨_, b57.st _, trivial, N[k].late, k58.rc rfl, ?_⟩
          generalize m57.set m49.nxt (.cells 4 [.int .i64 N[k].p, .int .i64 N[k].lo, .int .i64 N[k].hi, .bool N[k].late] false) = m58 at k58 e58
          have he58 := he.trans e58
          have hnext : ((N[k].late || bitI out k) = false → N[k].lo ≤ H[N[k].p.toNat]! ∧ H[N[k].p.toNat]! ≤ N[k].hi) → fitsP .i64 ((k : Int) + 1) ∧ R46 [.c (.bool b), .c (.int .i64 ((k + 1 : Nat) : Int))] m58 := fun hck => ⟨fits_small (by omega) (by omega), ih2 (k + 1) b m58 (by omega) (fun v hv => by
            rw [List.take_add_one, hc'] at hv
            rcases List.mem_append.1 hv with h6 | h6
            · exact hk v h6
            · have : v = { N[k] with late := N[k].late || bitI out k } := by simpa using h6
              rw [this]; exact hck) he58⟩
          rw [ifB_iff]
          refine ⟨fun hlate => ?_, fun hlate => hnext fun h1 => by have h2 : N[k].late = true := (by simpa using hlate); rw [h2] at h1; cases h1⟩
          have hlate' : N[k].late = false := by simpa using hlate
          rw [wrap_small (by omega) (by omega)]
          rw [show ((k : Nat) : Int).toNat = k from rfl]
          have hd0 : 0 ≤ out / 2 ^ k := Int.ediv_nonneg hout.1 (Int.le_of_lt (Int.pow_pos (by omega)))
          have hd1 : out / 2 ^ k ≤ out := Int.ediv_le_self _ hout.1
          have hm0 : 0 ≤ out / 2 ^ k % 2 ∧ out / 2 ^ k % 2 < 2 := ⟨Int.emod_nonneg _ (by omega), Int.emod_lt_of_pos _ (by omega)⟩
          refine ⟨hout.1, by omega, by omega, fits_small (by omega) (by omega), hd0, by omega, fits_small (by omega) (by omega), ?_⟩
          rw [ifB_dec]
          refine ⟨fun hbit => ?_, fun h1 => hnext fun h2 => by
            have h3 : bitI out k = true := decide_eq_true h1
            rw [h3] at h2; simp at h2⟩
          have hb0 : (N[k].late || bitI out k) = false := by
            rw [hlate', show bitI out k = false from decide_eq_false fun h4 => h4 hbit]; rfl
          have hHp : H[N[k].p.toNat]! = H[p] := by rw [hp]; exact getElem!_pos H p hpH
          refine ⟨trivial, N[k].p, k58.rc rfl, p, hp, hpH, H[p], Li.rd (hy5.ext he58) (List.getElem?_eq_getElem hpH), trivial, trivial, N[k].lo, k58.rc rfl, trivial, trivial, N[k].hi, k58.rc rfl, s44 ⟨_, rfl, ?_⟩⟩
          rw [ifB_ndec]
          have hck : TruthR c sm L (outN N (bitI out)) H → N[k].lo ≤ H[p] ∧ H[p] ≤ N[k].hi := fun hT => by
            have := hT.2.2 _ (List.mem_of_getElem? hc') hb0
            have h9 : N[k].lo ≤ H[N[k].p.toNat]! ∧ H[N[k].p.toNat]! ≤ N[k].hi := this
            rw [hHp] at h9
            exact h9
          exact ⟨fun h1 => hfalse he58 fun hT => h1 (hck hT), fun h1 => hnext fun _ => by rw [hHp]; exact h1⟩
      exact hcts N.length 0 b8 m5 (by omega) (by simp) (.refl _)
    | succ d ih =>
      intro i b8 hd hn
      refine hstep _ _ _ ⟨hy.isSl, ?_⟩
      rw [hy.slLen, ifB_dec]
      refine ⟨fun _ => ⟨fits_small (by omega) (by omega), fun R11 hstep2 => ?_⟩, fun h1 => (h1 (by omega)).elim⟩
      have hi : i < H.length := by omega
      have hgo11 : ∀ (d2 j : Nat), d2 + j = H.length → i < j → (∀ b : Nat, i < b → b < j → pairR c sm H i b) → R11 [.c (.bool b8), .c (.int .i64 (j : Int))] m5 := by
        intro d2
        induction d2 with
        | zero =>
          intro j hd2 hij hn2
          refine hstep2 _ _ _ ⟨hy.isSl, ?_⟩
          rw [ifB_dec]
          refine ⟨fun h1 => by omega, fun _ => ⟨fits_small (by omega) (by omega), ih (i + 1) b8 (by omega) fun a b ha hab hb => ?_⟩⟩
          by_cases hai : a = i
          · subst hai; exact hn2 b hab (by omega)
          · exact hn a b (by omega) hab hb
        | succ d2 ih2 =>
          intro j hd2 hij hn2
          have hj : j < H.length := by omega
          have hdi := Int.ediv_nonneg (a := (i : Int)) (b := c) (by omega) (by have := hsd.c1; omega)
          have hdi2 := Int.ediv_le_self c (a := (i : Int)) (by omega)
          have hdj := Int.ediv_nonneg (a := (j : Int)) (b := c) (by omega) (by have := hsd.c1; omega)
          have hdj2 := Int.ediv_le_self c (a := (j : Int)) (by omega)
          have hc1 := hsd.c1
          have hc4 := hsd.c4
          have hi' := small_at hSH hi
          have hj' := small_at hSH hj
          have eI : H[i]! = H[i] := getElem!_pos H i hi
          have eJ : H[j]! = H[j] := getElem!_pos H j hj
          have next : pairR c sm H i j → fitsP .i64 ((j : Int) + 1) ∧ R11 [.c (.bool b8), .c (.int .i64 ((j + 1 : Nat) : Int))] m5 := fun hp => ⟨fits_small (by omega) (by omega), ih2 (j + 1) (by omega) (by omega) fun b hb1 hb2 => by
            by_cases hbj : b = j
            · subst hbj; exact hp
            · exact hn2 b hb1 (by omega)⟩
          have cmp : ((((i : Int) / c = (j : Int) / c ∧ j = i + 1) ∨ (j : Int) = i + c)) → Cmp38 Q R11 m m5 y H.length b8 (i : Int) (j : Int) := fun hcond => by
            refine ⟨i, rfl, hi, H[i], Li.rd hy5 (List.getElem?_eq_getElem hi), j, rfl, hj, H[j], Li.rd hy5 (List.getElem?_eq_getElem hj), fits_small (by omega) (by omega), trivial, sm, b5.rc rfl, fits_small (by omega) (by omega), trivial, sm, b5.rc rfl, s44 ⟨_, rfl, ?_⟩⟩
            rw [ifB_ndec]
            have hck : TruthR c sm L (outN N (bitI out)) H → 0 - sm ≤ H[i] - H[j] ∧ H[i] - H[j] ≤ sm := fun hT => by
              have := hT.2.1 i j hij hj hcond
              rw [eI, eJ] at this
              omega
            exact ⟨fun h1 => hfalse (.refl _) fun hT => h1 (hck hT), fun h1 => next fun _ => by rw [eI, eJ]; omega⟩
          refine hstep2 _ _ _ ⟨hy.isSl, ?_⟩
          rw [ifB_dec]
          refine ⟨fun _ => ?_, fun h1 => by omega⟩
          refine ⟨trivial, trivial, c, b5.rc rfl, by omega, by omega, fits_small (by omega) (by omega), trivial, trivial, c, b5.rc rfl, by omega, by omega, fits_small (by omega) (by omega), ?_⟩
          rw [ifB_dec]
          refine ⟨fun h1 => ⟨fits_small (by omega) (by omega), trivial, trivial, c, b5.rc rfl, fits_small (by omega) (by omega), ?_⟩, fun h1 => ⟨trivial, trivial, c, b5.rc rfl, fits_small (by omega) (by omega), ?_⟩⟩
          · rw [ifB_dec]
            refine ⟨fun h2 => cmp (.inl ⟨h1, by omega⟩), fun h2 => ?_⟩
            rw [ifB_dec]
            exact ⟨fun h3 => cmp (.inr h3), fun h3 => next fun h4 => h4.elim (fun h5 => absurd (by omega : (j : Int) = (i : Int) + 1) h2) fun h5 => absurd h5 h3⟩
          · rw [ifB_dec]
            exact ⟨fun h3 => cmp (.inr h3), fun h3 => next fun h4 => h4.elim (fun h5 => absurd h5.1 h1) fun h5 => absurd h5 h3⟩
      exact hgo11 (H.length - (i + 1)) (i + 1) (by omega) (by omega) fun b hb1 hb2 => by omega
  exact hgo7 H.length 0 false (by omega) fun a b ha => by omega
theorem s68g {r c sm out : Int} {x y : C} {L : List Int} {N : List Cnt} {m : M} {Q : V → M → Prop} (hx : Li m x L) (hy : Lc m y N) (hv : svErr r c L sm N = 0) (hout : 0 ≤ out ∧ out ≤ 1000000)
    (h : ∀ m', Ext m m' → Q (.c (.bool (decide (0 < (truN c sm L (outN N (bitI out))).length)))) m') : Wc prog tbl 68 [.agg 5 [.int .i64 r, .int .i64 c, x, .int .i64 sm, y], .c (.int .i64 out)] m Q := by
  obtain ⟨hO, hsm⟩ := okay_of hv
  obtain ⟨hS, hL, hrc⟩ := field_of hO.f
  have hP := few_truths hv
  refine w68 fun m0 e0 R1 hstep => ?_
  obtain ⟨b0, x0⟩ := Bk.new e0
  have hgo : ∀ (d i : Nat) (b : Bool) (m4 : M), d + i = prodN L → trN (fun n => truthR c sm L (outN N (bitI out)) (nthL L n)) i = [] → Ext m0 m4 → R1 [.c (.bool b), .c (.int .i64 (i : Int))] m4 := by
    intro d
    induction d with
    | zero =>
      intro i b m4 hd hnil he
      have hi : i = prodN L := by omega
      subst hi
      refine hstep _ _ _ ⟨trivial, r, c, x, (b0.ext he).rp (k := 0) (j := 3) rfl (by omega), s60 ((hx.ext x0).ext he) hS (by omega) fun m9 e9 => ⟨_, rfl, ?_⟩⟩
      rw [many_prod hS hP, ifB_dec]
      refine ⟨fun h1 => by omega, fun _ => ?_⟩
      have hq := h m9 ((x0.trans he).trans e9)
      rw [show truN c sm L (outN N (bitI out)) = [] from hnil] at hq
      exact hq
    | succ d ih =>
      intro i b m4 hd hnil he
      refine hstep _ _ _ ⟨trivial, r, c, x, (b0.ext he).rp (k := 0) (j := 3) rfl (by omega), s60 ((hx.ext x0).ext he) hS (by omega) fun m9 e9 => ⟨_, rfl, ?_⟩⟩
      rw [many_prod hS hP, ifB_dec]
      refine ⟨fun _ => ?_, fun h1 => absurd (by omega) h1⟩
      have he9 := he.trans e9
      refine ⟨r, c, x, sm, y, (b0.ext he9).ra, trivial, r, c, x, (b0.ext he9).rp (k := 0) (j := 3) rfl (by omega), s67 ((hx.ext x0).ext he9) hS (by omega) ⟨by omega, by omega⟩ fun z m20 e20 hz _ => ⟨z, rfl, ?_, ?_⟩⟩
      · rw [allNF hx.noFn hy.noFn]; exact (b0.ext (he9.trans e20)).ra
      have he20 := he9.trans e20
      refine s38g ((hx.ext x0).ext he20) ((hy.ext x0).ext he20) hO hsm hout hz (by rw [nthL_len]; omega) fun m23 e23 => ⟨_, rfl, ?_⟩
      have he23 := he20.trans e23
      cases hb : truthR c sm L (outN N (bitI out)) (nthL L (i : Int)) with
      | true =>
        have hq := h m23 (x0.trans he23)
        have hmem : (i : Int) ∈ truN c sm L (outN N (bitI out)) := mem_truN.2 ⟨by omega, by omega, hb⟩
        rw [decide_eq_true (List.length_pos_of_mem hmem)] at hq
        exact hq
      | false =>
        refine ⟨fits_small (by omega) (by omega), ih (i + 1) b m23 (by omega) ?_ he23⟩
        show trN (fun n => truthR c sm L (outN N (bitI out)) (nthL L n)) i ++ (if truthR c sm L (outN N (bitI out)) (nthL L (i : Int)) = true then [(i : Int)] else []) = []
        rw [hnil, hb]; rfl
  exact hgo (prodN L) 0 false m0 (by omega) rfl (.refl _)
theorem can_iff {r c sm : Int} {L : List Int} {N : List Cnt} (hv : svErr r c L sm N = 0) : decide (0 < (truN c sm L N).length) = true ↔ ∃ H, TruthR c sm L N H := by
  rw [← true_ex hv, ← sure_true]
  unfold sureErr
  rw [if_pos hv, decide_eq_true_eq]
  by_cases h : (truN c sm L N).length = 0
  · rw [if_pos h]; exact ⟨fun h1 => by omega, fun h1 => by simp at h1⟩
  · rw [if_neg h]; exact ⟨fun _ => rfl, fun _ => by omega⟩
end
end Go.Proofs.Ytgkjfhkjgdiodaa

namespace Go.Proofs.Ytgkjfhkjgdiodaa
open _root_.Go.Proofs.Try
open Go.Abs
set_option maxRecDepth 100000
noncomputable section
def bitsF (b : Nat) : Nat → List Int
  | 0 => []
  | p + 1 => bitsF b p ++ (if b.testBit p then [(p : Int)] else [])
def bitsL (b : Nat) : List Int := bitsF b 16
theorem mem_bitsF {b : Nat} {v : Int} : ∀ {p : Nat}, v ∈ bitsF b p ↔ 0 ≤ v ∧ v < p ∧ b.testBit v.toNat = true
  | 0 => ⟨fun h => (by cases h), fun h => by omega⟩
  | p + 1 => by
    show v ∈ bitsF b p ++ _ ↔ _
    rw [List.mem_append, mem_bitsF]
    constructor
    · rintro (h | h)
      · exact ⟨h.1, by omega, h.2.2⟩
      · by_cases hb : b.testBit p = true
        · rw [if_pos hb, List.mem_singleton] at h
          subst h; exact ⟨by omega, by omega, hb⟩
        · rw [if_neg hb] at h; cases h
    · rintro ⟨h1, h2, h3⟩
      by_cases hv : v = (p : Int)
      · subst hv
        have h4 : b.testBit p = true := h3
        rw [if_pos h4]; exact .inr (List.mem_singleton.2 rfl)
      · exact .inl ⟨h1, by omega, h3⟩
theorem sorted_bitsF {b : Nat} : ∀ p : Nat, (bitsF b p).Pairwise (· < ·)
  | 0 => .nil
  | p + 1 => by
    show (bitsF b p ++ _).Pairwise _
    rw [List.pairwise_append]
    refine ⟨sorted_bitsF p, ?_, fun a ha c hc => ?_⟩
    · split
      · exact List.pairwise_singleton _ _
      · exact .nil
    · have := mem_bitsF.1 ha
      split at hc
      · rw [List.mem_singleton] at hc; omega
      · cases hc
theorem bitsF_more {b p : Nat} (h : ∀ q, p ≤ q → b.testBit q = false) : ∀ k, bitsF b (p + k) = bitsF b p
  | 0 => rfl
  | k + 1 => by
    show bitsF b (p + k) ++ (if b.testBit (p + k) then _ else _) = _
    rw [h (p + k) (by omega), bitsF_more h k]; simp
theorem lenF {b : Nat} : ∀ p, (bitsF b p).length ≤ p
  | 0 => Nat.le_refl _
  | p + 1 => by
    show (bitsF b p ++ _).length ≤ _
    rw [List.length_append]
    have := lenF (b := b) p
    split <;> simp <;> omega
theorem div_cast (b p : Nat) : (b : Int) / 2 ^ p = ((b / 2 ^ p : Nat) : Int) := by simp
theorem bit_zero {b p q : Nat} (h : b / 2 ^ p = 0) (hq : p ≤ q) : b.testBit q = false := by
  have h1 : b < 2 ^ p := by
    rcases Nat.lt_or_ge b (2 ^ p) with h2 | h2
    · exact h2
    · have := Nat.div_pos h2 (Nat.two_pow_pos p); omega
  exact Nat.testBit_lt_two_pow (Nat.lt_of_lt_of_le h1 (Nat.pow_le_pow_right (by omega) hq))
theorem bitI_eq (b k : Nat) : bitI (b : Int) k = b.testBit k := by
  unfold bitI
  rw [div_cast, Nat.testBit_eq_decide_div_mod_eq]
  exact decide_eq_decide.2 (by omega)
/-- Bits -/
theorem s66 {b : Nat} {m : M} {Q : V → M → Prop} (hb : b < 65536) (h : ∀ z m', Ext m m' → Li m' z (bitsL b) → Fr m z → Q (.c z) m') : Wc prog tbl 66 [.c (.int .i64 (b : Int))] m Q := by
  refine w66 fun R0 hstep => ?_
  have hgo : ∀ (d p : Nat) (s : C) (m3 : M), d + p = 16 → Own1 m3 1 s (ints (bitsF b p)) (bitsF b p).length → Fr m s → Ext m m3 → R0 [.c s, .c (.int .i64 (p : Int))] m3 := by
    intro d
    induction d with
    | zero =>
      intro p s m3 hd ho hf he
      refine hstep _ _ _ ?_
      rw [wrap_small (by omega) (by omega), show ((p : Nat) : Int).toNat = p from rfl, div_cast]
      have hp : p = 16 := by omega
      have h0 : b / 2 ^ p = 0 := by rw [hp]; exact Nat.div_eq_of_lt hb
      rw [h0]
      refine ⟨by omega, by omega, by omega, fits_small (by omega) (by omega), ?_⟩
      rw [ifB_dec]
      refine ⟨fun h1 => by omega, fun _ => h s m3 he ?_ hf⟩
      have := ho.ls
      rw [hp] at this; exact this
    | succ d ih =>
      intro p s m3 hd ho hf he
      refine hstep _ _ _ ?_
      rw [wrap_small (by omega) (by omega), show ((p : Nat) : Int).toNat = p from rfl, div_cast]
      have h1 : b / 2 ^ p ≤ b := Nat.div_le_self _ _
      have hbit : b.testBit p = decide (b / 2 ^ p % 2 = 1) := Nat.testBit_eq_decide_div_mod_eq
      generalize hw : b / 2 ^ p = w at h1 hbit ⊢
      refine ⟨by omega, by omega, by omega, fits_small (by omega) (by omega), ?_⟩
      rw [ifB_dec]
      refine ⟨fun _ => ?_, fun h2 => ?_⟩
      · refine ⟨by omega, by omega, by omega, fits_small (by omega) (by omega), by omega, by omega, fits_small (by omega) (by omega), ?_⟩
        have hln := lenF (b := b) p
        have hF : bitsF b (p + 1) = bitsF b p ++ (if b.testBit p then [(p : Int)] else []) := rfl
        rw [ifB_dec]
        refine ⟨fun h2 m4 h4 => ?_, fun h2 => ⟨fits_small (by omega) (by omega), ih (p + 1) s m3 (by omega) ?_ hf he⟩⟩
        · obtain ⟨c5, m6, a1, a2, a3, a4, a5, a6⟩ := ap_step t22 g3 z3 (by omega) ho hf he (ws := [.int .i64 (p : Int)]) rfl (by omega) h4
          refine ⟨c5, m6, a1, fits_small (by omega) (by omega), ih (p + 1) c5 m6 (by omega) ?_ a3 a4⟩
          rw [hF, hbit, decide_eq_true (by omega), if_pos rfl, ← ints_app, List.length_append]
          exact a2
        · rw [hF, hbit, decide_eq_false (by omega), if_neg (by decide), List.append_nil]
          exact ho
      · have h0 : b / 2 ^ p = 0 := by rw [hw]; omega
        refine h s m3 he ?_ hf
        have hB : bitsL b = bitsF b p := by
          have := bitsF_more (b := b) (p := p) (fun q hq => bit_zero h0 hq) (16 - p)
          rw [show p + (16 - p) = 16 by omega] at this
          exact this
        rw [hB]; exact ho.ls
  exact hgo 16 0 .sl0 m (by omega) (Own1.nil' _ _) (Fr.nil _) (.refl _)
def bef : List Int → List Int → Bool
  | [], [] => false
  | [], _ :: _ => true
  | _ :: _, [] => false
  | x :: a, y :: b => if x = y then bef a b else decide (x < y)
def shB (a b : List Int) : Bool := decide (a.length < b.length) || (decide (a.length = b.length) && bef a b)
/-- Before -/
theorem s73g {x y : C} {A B : List Int} {m : M} {Q : V → M → Prop} (hx : Li m x A) (hy : Li m y B) (hA : A.length ≤ 1000) (hB : B.length ≤ 1000) (h : Q (.c (.bool (bef A B))) m) : Wc prog tbl 73 [.c x, .c y] m Q := by
  refine w73 fun R0 hstep => ?_
  have hgo : ∀ (d i : Nat) (b1 : Bool), d + i = A.length → i ≤ B.length → bef (A.drop i) (B.drop i) = bef A B → R0 [.c (.bool b1), .c (.int .i64 (i : Int))] m := by
    intro d
    induction d with
    | zero =>
      intro i b1 hd hi heq
      refine hstep _ _ _ ⟨hx.isSl, ?_⟩
      rw [hx.slLen, hy.slLen, ifB_dec]
      refine ⟨fun h1 => by omega, fun _ => ⟨hx.isSl, hy.isSl, ?_⟩⟩
      rw [List.drop_eq_nil_of_le (by omega)] at heq
      have : bef A B = decide ((A.length : Int) < (B.length : Int)) := by
        rw [← heq]
        by_cases hl : i < B.length
        · rw [List.drop_eq_getElem_cons hl, decide_eq_true (by omega)]; rfl
        · rw [List.drop_eq_nil_of_le (by omega), decide_eq_false (by omega)]; rfl
      rw [this] at h; exact h
    | succ d ih =>
      intro i b1 hd hi heq
      refine hstep _ _ _ ⟨hx.isSl, ?_⟩
      rw [hx.slLen, hy.slLen, ifB_dec]
      refine ⟨fun _ => ⟨hy.isSl, ?_⟩, fun h1 => absurd (by omega) h1⟩
      have hiA : i < A.length := by omega
      rw [ifB_dec]
      refine ⟨fun hlB => ?_, fun hlB => ⟨hx.isSl, hy.isSl, ?_⟩⟩
      · have hiB : i < B.length := by omega
        have rA := Li.rd hx (List.getElem?_eq_getElem hiA)
        have rB := Li.rd hy (List.getElem?_eq_getElem hiB)
        rw [List.drop_eq_getElem_cons hiA, List.drop_eq_getElem_cons hiB] at heq
        have heq' : (if A[i] = B[i] then bef (A.drop (i + 1)) (B.drop (i + 1)) else decide (A[i] < B[i])) = bef A B := heq
        refine ⟨i, rfl, hiA, _, rA, i, rfl, hiB, _, rB, ?_⟩
        rw [ifB_ndec]
        refine ⟨fun h1 => ⟨i, rfl, hiA, _, rA, i, rfl, hiB, _, rB, ?_⟩, fun h1 => ⟨fits_small (by omega) (by omega), ih (i + 1) b1 (by omega) (by omega) (by rw [if_pos h1] at heq'; exact heq')⟩⟩
        rw [if_neg h1] at heq'
        rw [← heq'] at h; exact h
      · have hBl : B.length = i := by omega
        rw [show B.drop i = [] from List.drop_eq_nil_of_le (by omega), List.drop_eq_getElem_cons hiA] at heq
        have h2 : bef A B = decide ((A.length : Int) < (B.length : Int)) := by
          rw [← heq, decide_eq_false (by omega)]; rfl
        rw [h2] at h; exact h
  exact hgo A.length 0 false (by omega) (Nat.zero_le _) rfl
/-- Shorter -/
theorem s65 {x y : C} {A B : List Int} {m : M} {Q : V → M → Prop} (hx : Li m x A) (hy : Li m y B) (hA : A.length ≤ 1000) (hB : B.length ≤ 1000) (h : Q (.c (.bool (shB A B))) m) : Wc prog tbl 65 [.c x, .c y] m Q := by
  refine w65 ⟨hx.isSl, hy.isSl, ?_⟩
  rw [hx.slLen, hy.slLen, ifB_dec]
  refine ⟨fun h1 => ?_, fun h1 => ⟨hx.isSl, hy.isSl, ?_⟩⟩
  · have : shB A B = true := by unfold shB; rw [decide_eq_true (by omega)]; rfl
    rw [this] at h; exact h
  · rw [ifB_dec]
    refine ⟨fun h2 => s73g hx hy hA hB ⟨_, rfl, ?_⟩, fun h2 => ?_⟩
    · have : shB A B = bef A B := by unfold shB; rw [decide_eq_false (by omega), decide_eq_true (by omega)]; rfl
      rw [this] at h; exact h
    · have : shB A B = false := by unfold shB; rw [decide_eq_false (by omega), decide_eq_false (by omega)]; rfl
      rw [this] at h; exact h
theorem bef_irr : ∀ A : List Int, bef A A = false
  | [] => rfl
  | x :: A => by show (if x = x then bef A A else _) = _; rw [if_pos rfl, bef_irr A]
theorem bef_asym : ∀ {A B : List Int}, bef A B = true → bef B A = false
  | [], [], h => by cases h
  | [], _ :: _, _ => rfl
  | _ :: _, [], h => by cases h
  | x :: A, y :: B, h => by
    have h' : (if x = y then bef A B else decide (x < y)) = true := h
    show (if y = x then bef B A else decide (y < x)) = false
    by_cases hxy : x = y
    · rw [if_pos hxy] at h'; rw [if_pos hxy.symm]; exact bef_asym h'
    · rw [if_neg hxy] at h'; rw [if_neg fun h => hxy h.symm]
      have := of_decide_eq_true h'
      exact decide_eq_false (by omega)
theorem shB_iff {A B : List Int} : shB A B = true ↔ A.length < B.length ∨ (A.length = B.length ∧ bef A B = true) := by
  unfold shB
  rw [Bool.or_eq_true, Bool.and_eq_true, decide_eq_true_eq, decide_eq_true_eq]
theorem shB_irr (A : List Int) : shB A A = false := by unfold shB; rw [decide_eq_false (by omega), bef_irr]; simp
theorem shB_asym {A B : List Int} (h : shB A B = true) : shB B A = false := by
  unfold shB at h ⊢
  rw [Bool.or_eq_true, Bool.and_eq_true, decide_eq_true_eq, decide_eq_true_eq] at h
  rcases h with h | ⟨h1, h2⟩
  · rw [decide_eq_false (by omega), decide_eq_false (by omega)]; rfl
  · rw [decide_eq_false (by omega), bef_asym h2]; simp
theorem bef_app (x y : Int) (A B : List Int) (hxy : x < y) : ∀ pre : List Int, bef (pre ++ x :: A) (pre ++ y :: B) = true
  | [] => by show (if x = y then _ else decide (x < y)) = true; rw [if_neg (by omega), decide_eq_true hxy]
  | p :: pre => by show (if p = p then bef (pre ++ x :: A) (pre ++ y :: B) else _) = true; rw [if_pos rfl]; exact bef_app x y A B hxy pre
theorem rests_pairwise {α : Type} {R : α → α → Prop} (g : Nat → List α) (h1 : ∀ x, (g x).Pairwise R) (h2 : ∀ x y, x < y → ∀ a ∈ g x, ∀ b ∈ g y, R a b) : ∀ e x, (rests g e x).Pairwise R
  | 0, _ => .nil
  | e + 1, x => by
    show (g x ++ rests g e (x + 1)).Pairwise R
    rw [List.pairwise_append]
    refine ⟨h1 x, rests_pairwise g h1 h2 e (x + 1), fun a ha b hb => ?_⟩
    obtain ⟨j, h3, _, h4⟩ := (mem_rests g b e (x + 1)).1 hb
    exact h2 x j (by omega) a ha b h4
theorem combs_pairwise {n : Nat} : ∀ (d : Nat) (pre : List Int) (fr : Nat), (combs n d pre fr).Pairwise fun a b => bef a b = true
  | 0, pre, fr => List.pairwise_singleton _ _
  | d + 1, pre, fr => rests_pairwise _ (fun x => combs_pairwise d _ _) (fun x y hxy a ha b hb => by
    obtain ⟨T, h1, _, _⟩ := mem_combs.1 ha
    obtain ⟨T', h2, _, _⟩ := mem_combs.1 hb
    rw [h1, h2, List.append_assoc, List.append_assoc]
    exact bef_app _ _ _ _ (by omega) pre) _ _
theorem allL_pairwise (n : Nat) : (allL n).Pairwise fun a b => shB a b = true :=
  rests_pairwise _ (fun s => (combs_pairwise s [] 0).imp_of_mem fun {a b} ha hb hab => by
    have h1 := combs_len ha
    have h2 := combs_len hb
    unfold shB
    rw [hab, decide_eq_true (show a.length = b.length by omega)]; simp) (fun s s' hs a ha b hb => by
    have h1 := combs_len ha
    have h2 := combs_len hb
    unfold shB
    rw [decide_eq_true (by omega)]; rfl) _ _
theorem find_min {t : List Int → Bool} : ∀ {l : List (List Int)}, l.Pairwise (fun a b => shB a b = true) → ∀ {D D' : List Int}, l.find? t = some D → D' ∈ l → t D' = true → D' = D ∨ shB D D' = true
  | [], _, _, _, h, _, _ => by cases h
  | a :: l, hp, D, D', h, hm, ht => by
    rw [List.pairwise_cons] at hp
    rw [List.find?_cons] at h
    cases hta : t a with
    | true =>
      rw [hta] at h
      have : a = D := Option.some.inj h
      subst this
      rcases List.mem_cons.1 hm with rfl | h1
      · exact .inl rfl
      · exact .inr (hp.1 _ h1)
    | false =>
      rw [hta] at h
      rcases List.mem_cons.1 hm with rfl | h1
      · rw [hta] at ht; cases ht
      · exact find_min hp.2 h h1 ht
/-- the shortest list that passes -/
theorem shortL_spec {n : Nat} {t : List Int → Bool} (h : ∃ D, Inc n 0 D ∧ t D = true) : Inc n 0 (shortL n t) ∧ t (shortL n t) = true ∧ ∀ D, Inc n 0 D → t D = true → D = shortL n t ∨ shB (shortL n t) D = true := by
  obtain ⟨D0, h1, h2⟩ := h
  unfold shortL
  cases hf : (allL n).find? t with
  | none => exact absurd h2 (by have := List.find?_eq_none.1 hf D0 (mem_allL.2 h1); simpa using this)
  | some D => exact ⟨mem_allL.1 (List.mem_of_find?_eq_some hf), List.find?_some hf, fun D' h3 h4 => find_min (allL_pairwise n) hf (mem_allL.2 h3) h4⟩
theorem bits_inc {n b : Nat} (hn : n ≤ 16) (hb : b < 2 ^ n) : Inc n 0 (bitsL b) :=
  ⟨sorted_bitsF 16, fun v hv => by
    obtain ⟨h1, h2, h3⟩ := mem_bitsF.1 hv
    refine ⟨by omega, ?_⟩
    by_cases h4 : v < n
    · exact h4
    · have := Nat.testBit_lt_two_pow (Nat.lt_of_lt_of_le hb (Nat.pow_le_pow_right (by omega) (show n ≤ v.toNat by omega)))
      rw [this] at h3; cases h3⟩
theorem inD_bits {n b k : Nat} (hn : n ≤ 16) (hk : k < n) : inD (bitsL b) k = b.testBit k := by
  unfold inD
  have : ((k : Nat) : Int) ∈ bitsL b ↔ b.testBit k = true := by
    unfold bitsL
    rw [mem_bitsF]
    exact ⟨fun h => h.2.2, fun h => ⟨by omega, by omega, h⟩⟩
  cases hb : b.testBit k with
  | true => exact decide_eq_true (this.2 hb)
  | false => exact decide_eq_false fun h => by rw [this.1 h] at hb; cases hb
end
end Go.Proofs.Ytgkjfhkjgdiodaa

namespace Go.Proofs.Ytgkjfhkjgdiodaa
open _root_.Go.Proofs.Try
open Go.Abs
set_option maxRecDepth 100000
noncomputable section
theorem w17 {a100 : Int} {a101 : Int} {a102 : C} {a103 : Int} {a104 : C} {a200 : Int} {m : M} {Q : V → M → Prop} (h :
 (∀ m0 : M, ((m0 = (M.new m (AO.cells 5 [(C.int IntKind.i64 a100), (C.int IntKind.i64 a101), a102, (C.int IntKind.i64 a103), 
 a104] false))) → (∃ x1 : Int, (∃ x2 : Int, (∃ c3 : C, (∃ x4 : Int, (∃ c5 : C, (((ldA m0 (C.ptr (m).nxt 0) 5) = (Option.some [(C.int IntKind.i64 x1), 
 (C.int IntKind.i64 x2), c3, (C.int IntKind.i64 x4), c5])) ∧ (Wc prog tbl 58 [(V.agg 5 [(C.int IntKind.i64 x1), 
 (C.int IntKind.i64 x2), c3, (C.int IntKind.i64 x4), c5])] m0 (fun v6 m7 => (∃ b8 : Bool, ((v6 = (V.c (C.bool b8))) ∧ 
 (ifB (!b8) (Wc prog tbl 20 [] m7 (fun v9 m10 => (∃ b11 : Bool, ((v9 = (V.c (C.bool b11))) ∧ (Q (V.c (C.bool b11)) m10))))) (∃ x12 : Int, 
 (∃ x13 : Int, (∃ c14 : C, (∃ x15 : Int, (∃ c16 : C, (((ldA m7 (C.ptr (m).nxt 0) 5) = (Option.some [(C.int IntKind.i64 x12), 
 (C.int IntKind.i64 x13), c14, (C.int IntKind.i64 x15), c16])) ∧ (Wc prog tbl 33 [(V.agg 5 [(C.int IntKind.i64 x12), 
 (C.int IntKind.i64 x13), c14, (C.int IntKind.i64 x15), c16])] m7 (fun v17 m18 => (∃ x19 : Int, 
 (∃ x20 : Int, (∃ c21 : C, (∃ x22 : Int, (∃ c23 : C, ((v17 = (V.agg 5 [(C.int IntKind.i64 x19), 
 (C.int IntKind.i64 x20), c21, (C.int IntKind.i64 x22), c23])) ∧ (Wc prog tbl 52 [(V.agg 5 [(C.int IntKind.i64 x19), 
 (C.int IntKind.i64 x20), c21, (C.int IntKind.i64 x22), c23])] m18 (fun v24 m25 => 
 (∃ c26 : C, (∃ x27 : Int, ((v24 = (V.tup [(U.c c26), (U.c (C.int IntKind.i64 x27))])) ∧ 
 (ifB (!decide (x27 = (0 : Int))) (Q (V.c (C.bool false)) m25) (∀ R28 : List V → 
 M → Prop, ((∀ b29 : Bool, (∀ x30 : Int, (∀ x31 : Int, (∀ m32 : M, ((isSl c26 ∧ 
 (ifB (decide (x31 < (((slLen c26) : Nat) : Int))) (∃ n33 : Nat, ((x31 = ((n33 : Nat) : Int)) ∧ 
 ((n33 < (slLen c26)) ∧ (∃ x34 : Int, (((ldC m32 (slAt c26 (n33 * 1))) = (Option.some (C.int IntKind.i64 x34))) ∧ 
 (isPt (C.ptr (m).nxt 0) ∧ (∃ c35 : C, (((ldC m32 (C.ptr (m).nxt 4)) = (Option.some c35)) ∧ 
 (isSl c35 ∧ (fitsP IntKind.i64 ((((slLen c35) : Nat) : Int) - (1 : Int)) ∧ (Wc prog tbl 44 [(V.c (C.int IntKind.i64 x34)), 
 (V.c (C.int IntKind.i64 (0 : Int))), (V.c (C.int IntKind.i64 ((((slLen c35) : Nat) : Int) - (1 : Int))))] m32 (fun v36 m37 => 
 (∃ b38 : Bool, ((v36 = (V.c (C.bool b38))) ∧ (ifB (!b38) (Q (V.c (C.bool false)) m37) (ifB (decide ((0 : Int) < x31)) (∃ n39 : Nat, 
 ((x31 = ((n39 : Nat) : Int)) ∧ ((n39 < (slLen c26)) ∧ (∃ x40 : Int, (((ldC m37 (slAt c26 (n39 * 1))) = (Option.some (C.int IntKind.i64 x40))) ∧ 
 (fitsP IntKind.i64 (x31 - (1 : Int)) ∧ (∃ n41 : Nat, (((x31 - (1 : Int)) = ((n41 : Nat) : Int)) ∧ 
 ((n41 < (slLen c26)) ∧ (∃ x42 : Int, (((ldC m37 (slAt c26 (n41 * 1))) = (Option.some (C.int IntKind.i64 x42))) ∧ 
 (ifB (decide (x40 ≤ x42)) (Q (V.c (C.bool false)) m37) (isPt (C.ptr (m).nxt 0) ∧ 
 (∃ c43 : C, (((ldC m37 (C.ptr (m).nxt 4)) = (Option.some c43)) ∧ (∃ n44 : Nat, 
 ((x31 = ((n44 : Nat) : Int)) ∧ ((n44 < (slLen c26)) ∧ (∃ x45 : Int, (((ldC m37 (slAt c26 (n44 * 1))) = (Option.some (C.int IntKind.i64 x45))) ∧ 
 (∃ n46 : Nat, ((x45 = ((n46 : Nat) : Int)) ∧ ((n46 < (slLen c43)) ∧ (isPt (slAt c43 (n46 * 4)) ∧ 
 (∃ b47 : Bool, (((ldC m37 (ptAdd (slAt c43 (n46 * 4)) 3)) = (Option.some (C.bool b47))) ∧ 
 (ifB b47 (Q (V.c (C.bool false)) m37) (∃ n48 : Nat, ((x31 = ((n48 : Nat) : Int)) ∧ 
 ((n48 < (slLen c26)) ∧ (∃ x49 : Int, (((ldC m37 (slAt c26 (n48 * 1))) = (Option.some (C.int IntKind.i64 x49))) ∧ 
 (((0 : Int) ≤ (1 : Int)) ∧ (((0 : Int) ≤ (wrapZ IntKind.u64 x49)) ∧ (((wrapZ IntKind.u64 x49) ≤ (64 : Int)) ∧ 
 (fitsP IntKind.i64 ((1 : Int) * ((2 : Int) ^ (Int.toNat (wrapZ IntKind.u64 x49)))) ∧ 
 (((0 : Int) ≤ x30) ∧ (((0 : Int) ≤ ((1 : Int) * ((2 : Int) ^ (Int.toNat (wrapZ IntKind.u64 x49))))) ∧ 
 (fitsP IntKind.i64 x30 ∧ (fitsP IntKind.i64 ((1 : Int) * ((2 : Int) ^ (Int.toNat (wrapZ IntKind.u64 x49)))) ∧ 
 (fitsP IntKind.i64 (((Nat.lor (Int.toNat x30) (Int.toNat ((1 : Int) * ((2 : Int) ^ (Int.toNat (wrapZ IntKind.u64 x49)))))) : Nat) : Int) ∧ 
 (fitsP IntKind.i64 (x31 + (1 : Int)) ∧ (R28 [(V.c (C.bool b29)), (V.c (C.int IntKind.i64 (((Nat.lor (Int.toNat x30) (Int.toNat ((1 : Int) * ((2 : Int) ^ (Int.toNat (wrapZ IntKind.u64 x49)))))) : Nat) : Int))), 
 (V.c (C.int IntKind.i64 (x31 + (1 : Int))))] m37))))))))))))))))))))))))))))))))))))))))))) (isPt (C.ptr (m).nxt 0) ∧ 
 (∃ c50 : C, (((ldC m37 (C.ptr (m).nxt 4)) = (Option.some c50)) ∧ (∃ n51 : Nat, 
 ((x31 = ((n51 : Nat) : Int)) ∧ ((n51 < (slLen c26)) ∧ (∃ x52 : Int, (((ldC m37 (slAt c26 (n51 * 1))) = (Option.some (C.int IntKind.i64 x52))) ∧ 
 (∃ n53 : Nat, ((x52 = ((n53 : Nat) : Int)) ∧ ((n53 < (slLen c50)) ∧ (isPt (slAt c50 (n53 * 4)) ∧ 
 (∃ b54 : Bool, (((ldC m37 (ptAdd (slAt c50 (n53 * 4)) 3)) = (Option.some (C.bool b54))) ∧ 
 (ifB b54 (Q (V.c (C.bool false)) m37) (∃ n55 : Nat, ((x31 = ((n55 : Nat) : Int)) ∧ 
 ((n55 < (slLen c26)) ∧ (∃ x56 : Int, (((ldC m37 (slAt c26 (n55 * 1))) = (Option.some (C.int IntKind.i64 x56))) ∧ 
 (((0 : Int) ≤ (1 : Int)) ∧ (((0 : Int) ≤ (wrapZ IntKind.u64 x56)) ∧ (((wrapZ IntKind.u64 x56) ≤ (64 : Int)) ∧ 
 (fitsP IntKind.i64 ((1 : Int) * ((2 : Int) ^ (Int.toNat (wrapZ IntKind.u64 x56)))) ∧ 
 (((0 : Int) ≤ x30) ∧ (((0 : Int) ≤ ((1 : Int) * ((2 : Int) ^ (Int.toNat (wrapZ IntKind.u64 x56))))) ∧ 
 (fitsP IntKind.i64 x30 ∧ (fitsP IntKind.i64 ((1 : Int) * ((2 : Int) ^ (Int.toNat (wrapZ IntKind.u64 x56)))) ∧ 
 (fitsP IntKind.i64 (((Nat.lor (Int.toNat x30) (Int.toNat ((1 : Int) * ((2 : Int) ^ (Int.toNat (wrapZ IntKind.u64 x56)))))) : Nat) : Int) ∧ 
 (fitsP IntKind.i64 (x31 + (1 : Int)) ∧ (R28 [(V.c (C.bool b29)), (V.c (C.int IntKind.i64 (((Nat.lor (Int.toNat x30) (Int.toNat ((1 : Int) * ((2 : Int) ^ (Int.toNat (wrapZ IntKind.u64 x56)))))) : Nat) : Int))), 
 (V.c (C.int IntKind.i64 (x31 + (1 : Int))))] m37))))))))))))))))))))))))))))))))))))))))))))))) (isPt (C.ptr (m).nxt 0) ∧ 
 (∃ c57 : C, (((ldC m32 (C.ptr (m).nxt 4)) = (Option.some c57)) ∧ (isSl c57 ∧ 
 (((0 : Int) ≤ (1 : Int)) ∧ (((0 : Int) ≤ (wrapZ IntKind.u64 (((slLen c57) : Nat) : Int))) ∧ 
 (((wrapZ IntKind.u64 (((slLen c57) : Nat) : Int)) ≤ (64 : Int)) ∧ (fitsP IntKind.i64 ((1 : Int) * ((2 : Int) ^ (Int.toNat (wrapZ IntKind.u64 (((slLen c57) : Nat) : Int))))) ∧ 
 (((0 : Int) ≤ (wrapZ IntKind.i64 a200)) ∧ (((0 : Int) < ((1 : Int) * ((2 : Int) ^ (Int.toNat (wrapZ IntKind.u64 (((slLen c57) : Nat) : Int)))))) ∧ 
 (fitsP IntKind.i64 ((wrapZ IntKind.i64 a200) % ((1 : Int) * ((2 : Int) ^ (Int.toNat (wrapZ IntKind.u64 (((slLen c57) : Nat) : Int)))))) ∧ 
 (∃ x58 : Int, (∃ x59 : Int, (∃ c60 : C, (∃ x61 : Int, (∃ c62 : C, (((ldA m32 (C.ptr (m).nxt 0) 5) = (Option.some [(C.int IntKind.i64 x58), 
 (C.int IntKind.i64 x59), c60, (C.int IntKind.i64 x61), c62])) ∧ (Wc prog tbl 68 [(V.agg 5 [(C.int IntKind.i64 x58), 
 (C.int IntKind.i64 x59), c60, (C.int IntKind.i64 x61), c62]), (V.c (C.int IntKind.i64 x30))] m32 (fun v63 m64 => 
 (∃ b65 : Bool, ((v63 = (V.c (C.bool b65))) ∧ (ifB b65 (∃ x66 : Int, (∃ x67 : Int, 
 (∃ c68 : C, (∃ x69 : Int, (∃ c70 : C, (((ldA m64 (C.ptr (m).nxt 0) 5) = (Option.some [(C.int IntKind.i64 x66), 
 (C.int IntKind.i64 x67), c68, (C.int IntKind.i64 x69), c70])) ∧ (Wc prog tbl 68 [(V.agg 5 [(C.int IntKind.i64 x66), 
 (C.int IntKind.i64 x67), c68, (C.int IntKind.i64 x69), c70]), (V.c (C.int IntKind.i64 ((wrapZ IntKind.i64 a200) % ((1 : Int) * ((2 : Int) ^ (Int.toNat (wrapZ IntKind.u64 (((slLen c57) : Nat) : Int))))))))] m64 (fun v71 m72 => 
 (∃ b73 : Bool, ((v71 = (V.c (C.bool b73))) ∧ (ifB b73 (Wc prog tbl 66 [(V.c (C.int IntKind.i64 ((wrapZ IntKind.i64 a200) % ((1 : Int) * ((2 : Int) ^ (Int.toNat (wrapZ IntKind.u64 (((slLen c57) : Nat) : Int))))))))] m72 (fun v74 m75 => 
 (∃ c76 : C, ((v74 = (V.c c76)) ∧ (Wc prog tbl 65 [(V.c c76), (V.c c26)] m75 (fun v77 m78 => 
 (∃ b79 : Bool, ((v77 = (V.c (C.bool b79))) ∧ (ifB (!b79) (Wc prog tbl 20 [] m78 (fun v80 m81 => 
 (∃ b82 : Bool, ((v80 = (V.c (C.bool b82))) ∧ (Q (V.c (C.bool b82)) m81))))) (Q (V.c (C.bool false)) m78)))))))))) (Wc prog tbl 20 [] m72 (fun v83 m84 => 
 (∃ b85 : Bool, ((v83 = (V.c (C.bool b85))) ∧ (Q (V.c (C.bool b85)) m84)))))))))))))))) (Q (V.c (C.bool false)) m64))))))))))))))))))))))))) → 
 (R28 [(V.c (C.bool b29)), (V.c (C.int IntKind.i64 x30)), (V.c (C.int IntKind.i64 x31))] m32)))))) → 
 (R28 [(V.c (C.bool false)), (V.c (C.int IntKind.i64 (0 : Int))), (V.c (C.int IntKind.i64 (0 : Int)))] m25))))))))))))))))))))))))))))))))))))) : Wc prog tbl 17 [(V.agg 5 [(C.int IntKind.i64 a100), (C.int IntKind.i64 a101), a102, (C.int IntKind.i64 a103), a104]), (V.c (C.int IntKind.u8 a200))] m Q :=
 wc_eq (n := 2) rfl (by kernel_rfl) (by kernel_rfl) h
end
end Go.Proofs.Ytgkjfhkjgdiodaa

namespace Go.Proofs.Ytgkjfhkjgdiodaa
open _root_.Go.Proofs.Try
open Go.Abs
set_option maxRecDepth 100000
noncomputable section
theorem get_rep (n i : Nat) : (List.replicate n (0 : Int))[i]! = 0 := by
  by_cases h : i < n
  · rw [getElem!_pos _ i (by rw [List.length_replicate]; exact h), List.getElem_replicate]
  · rw [getElem!_neg _ i (by rw [List.length_replicate]; exact h)]; rfl
theorem zero_truth {r c sm : Int} {L : List Int} {N : List Cnt} {S : Nat → Bool} (hv : svErr r c L sm N = 0) (hS : ∀ k, k < N.length → S k = true) : TruthR c sm L (outN N S) (List.replicate L.length 0) := by
  obtain ⟨hO, hsm⟩ := okay_of hv
  obtain ⟨hSm, hL9, hrc⟩ := field_of hO.f
  refine ⟨decide_eq_true ⟨List.length_replicate, fun i hi => ?_⟩, fun a b _ _ _ => ?_, fun n hn hl => ?_⟩
  · rw [get_rep]
    have := hSm _ (List.getElem_mem hi)
    rw [getElem!_pos L i hi]; omega
  · rw [get_rep, get_rep]; omega
  · obtain ⟨k, hk, rfl⟩ := List.getElem_of_mem hn
    have h1 := List.getElem?_eq_getElem hk
    rw [outN_get] at h1
    have hk' : k < N.length := by rw [outN_len] at hk; exact hk
    rw [List.getElem?_eq_getElem hk'] at h1
    have h2 := Option.some.inj h1
    rw [← h2] at hl
    have h3 : (N[k].late || S k) = false := hl
    rw [hS k hk'] at h3; simp at h3
/-- the counts of a list can be left out -/
def CanL (c sm : Int) (L : List Int) (N : List Cnt) (D : List Int) : Prop := ∃ H, TruthR c sm L (outN N (inD D)) H
theorem canL_bits {c sm : Int} {L : List Int} {N : List Cnt} {b : Nat} (hn : N.length ≤ 16) : CanL c sm L N (bitsL b) ↔ ∃ H, TruthR c sm L (outN N (bitI (b : Int))) H := by
  unfold CanL
  rw [outN_congr (S := inD (bitsL b)) (S' := bitI (b : Int)) fun k hk => by rw [inD_bits hn hk, bitI_eq]]
theorem pow_small {n : Nat} (hn : n ≤ 6) : 2 ^ n ≤ 64 ∧ 1 ≤ 2 ^ n := ⟨Nat.pow_le_pow_right (n := 2) (by omega) hn, Nat.one_le_two_pow⟩
theorem leave_can {r c sm : Int} {L : List Int} {N : List Cnt} (hv : svErr r c L sm N = 0) : Inc N.length 0 (leaveL r c sm L N) ∧ CanL c sm L N (leaveL r c sm L N) ∧ ∀ D, Inc N.length 0 D → CanL c sm L N D → D = leaveL r c sm L N ∨ shB (leaveL r c sm L N) D = true := by
  have h16 : N.length ≤ 16 := by have := (okay_of hv).1.n; omega
  have hfull : Inc N.length 0 (bitsL (2 ^ N.length - 1)) := bits_inc h16 (by have := Nat.two_pow_pos N.length; omega)
  have hcf : CanL c sm L N (bitsL (2 ^ N.length - 1)) := ⟨_, zero_truth hv fun k hk => by rw [inD_bits h16 hk, Nat.testBit_two_pow_sub_one]; exact decide_eq_true hk⟩
  obtain ⟨h1, h2, h3⟩ := shortL_spec (n := N.length) (t := leaveB c sm L N) ⟨_, hfull, (leaveB_iff hv hfull).2 hcf⟩
  unfold leaveL
  rw [if_pos hv]
  exact ⟨h1, (leaveB_iff hv h1).1 h2, fun D h4 h5 => h3 D h4 ((leaveB_iff hv h4).2 h5)⟩
end
end Go.Proofs.Ytgkjfhkjgdiodaa

namespace Go.Proofs.Ytgkjfhkjgdiodaa
open _root_.Go.Proofs.Try
open Go.Abs
set_option maxRecDepth 100000
noncomputable section
theorem wrap_sm {n : Int} (h0 : 0 ≤ n) (h1 : n ≤ 1000000) : wrapZ .i64 n = n := by
  unfold wrapZ
  rw [Go.Abs.fits_of (k := .i64) (n := n) (by simp only [fitsP]; omega)]; rfl
end
end Go.Proofs.Ytgkjfhkjgdiodaa

namespace Go.Proofs.Ytgkjfhkjgdiodaa
open _root_.Go.Proofs.Try
open Go.Abs
set_option maxRecDepth 100000
noncomputable section
/-- no late count has to be left out -/
theorem leave_late {r c sm : Int} {L : List Int} {N : List Cnt} (hv : svErr r c L sm N = 0) {k : Nat} (hk : k < N.length) (hm : ((k : Nat) : Int) ∈ leaveL r c sm L N) : N[k].late = false := by
  obtain ⟨q1, q2, q3⟩ := leave_can hv
  generalize leaveL r c sm L N = D at hm q1 q2 q3
  cases hl : N[k].late with
  | false => rfl
  | true =>
    exfalso
    let D' := D.filter fun v => decide (v ≠ (k : Int))
    have hmem : ∀ v, v ∈ D' ↔ v ∈ D ∧ v ≠ (k : Int) := fun v => by
      show v ∈ D.filter _ ↔ _
      rw [List.mem_filter, decide_eq_true_eq]
    have hi : Inc N.length 0 D' := ⟨q1.1.sublist List.filter_sublist, fun v hv' => q1.2 v ((hmem v).1 hv').1⟩
    have hc : CanL c sm L N D' := by
      have : outN N (inD D') = outN N (inD D) := by
        refine List.ext_getElem? fun j => ?_
        rw [outN_get, outN_get]
        by_cases hj : j < N.length
        · rw [List.getElem?_eq_getElem hj]
          show some _ = some _
          congr 1
          by_cases hjk : j = k
          · subst hjk
            show ({ N[j] with late := N[j].late || inD D' j } : Cnt) = { N[j] with late := N[j].late || inD D j }
            rw [hl]; rfl
          · have : inD D' j = inD D j := decide_eq_decide.2 (by rw [hmem]; exact ⟨fun h => h.1, fun h => ⟨h, by omega⟩⟩)
            rw [this]
        · rw [List.getElem?_eq_none (by omega)]; rfl
      unfold CanL
      rw [this]; exact q2
    have hlen : D'.length < D.length := by
      rcases Nat.lt_or_ge D'.length D.length with h | h
      · exact h
      · have h1 : D' = D := List.Sublist.eq_of_length_le List.filter_sublist h
        rw [← h1] at hm
        exact absurd rfl ((hmem _).1 hm).2
    rcases q3 D' hi hc with h1 | h1
    · rw [h1] at hlen; omega
    · have h2 : shB D' D = true := shB_iff.2 (.inl hlen)
      rw [shB_asym h2] at h1; cases h1
theorem lor_eq (a b : Nat) : Nat.lor a b = a ||| b := rfl
theorem s17 {r c sm a : Int} {x y : C} {L : List Int} {N : List Cnt} {m : M} {Q : V → M → Prop} (hx : Li m x L) (hy : Lc m y N) (ha : 0 ≤ a ∧ a ≤ 255) (h : ∀ m', Q (.c (.bool true)) m') :
    Wc prog tbl 17 [.agg 5 [.int .i64 r, .int .i64 c, x, .int .i64 sm, y], .c (.int .u8 a)] m Q := by
  have aw : ∀ m' : M, Wc prog tbl 20 [] m' (fun v m1 => ∃ b : Bool, v = .c (.bool b) ∧ Q (.c (.bool b)) m1) := fun m' => s20 ⟨_, rfl, h _⟩
  refine w17 fun m0 e0 => ?_
  obtain ⟨b0, x0⟩ := Bk.new e0
  refine ⟨r, c, x, sm, y, b0.ra, s58 (hx.ext x0) (hy.ext x0) fun m7 e7 => ⟨_, rfl, ?_⟩⟩
  have x7 := x0.trans e7
  have b7 := b0.ext e7
  rw [ifB_ndec]
  refine ⟨fun _ => aw _, fun hv => ?_⟩
  obtain ⟨hO, hsm⟩ := okay_of hv
  obtain ⟨hS, hL, hrc⟩ := field_of hO.f
  have hN := hO.n
  have h16 : N.length ≤ 16 := by omega
  refine ⟨r, c, x, sm, y, b7.ra, s33 (hx.ext x7) (by omega) (hy.ext x7) (by omega) fun xa ya m18 e18 hxa hya => ⟨r, c, xa, sm, ya, rfl, s52 hxa (by omega) hya (by omega) fun z m25 e25 hz => ⟨z, _, rfl, ?_⟩⟩⟩
  have x25 := (x7.trans e18).trans e25
  have b25 := (b7.ext e18).ext e25
  obtain ⟨q1, q2, q3⟩ := leave_can hv
  have hlate : ∀ (k : Nat) (hk : k < N.length), ((k : Nat) : Int) ∈ leaveL r c sm L N → N[k].late = false := fun k hk hm => leave_late hv hk hm
  generalize leaveL r c sm L N = D at hz q1 q2 q3 hlate
  have hD6 := inc_len q1
  rw [ifB_ndec]
  refine ⟨fun h1 => absurd hv h1, fun _ R28 hstep => ?_⟩
  have hgo : ∀ (d i s : Nat) (b29 : Bool) (m32 : M), d + i = D.length → Ext m25 m32 → s < 64 → (∀ k : Nat, s.testBit k = inD (D.take i) k) → R28 [.c (.bool b29), .c (.int .i64 (s : Int)), .c (.int .i64 (i : Int))] m32 := by
    intro d
    induction d with
    | zero =>
      intro i s b29 m32 hd he hs hbit
      have x32 := x25.trans he
      have b32 := b25.ext he
      have hz32 := hz.ext he
      refine hstep _ _ _ _ ⟨hz.isSl, ?_⟩
      rw [hz.slLen, ifB_dec]
      refine ⟨fun h1 => by omega, fun _ => ⟨trivial, y, b32.rc (k := 4) rfl, hy.isSl, ?_⟩⟩
      rw [hy.slLen, wrap_small (by omega) (by omega), show ((N.length : Nat) : Int).toNat = N.length from rfl, show (1 : Int) * 2 ^ N.length = ((2 ^ N.length : Nat) : Int) by simp, wrap_sm ha.1 (by omega)]
      obtain ⟨hp1, hp2⟩ := pow_small hN
      obtain ⟨t, htn⟩ : ∃ t : Nat, a % ((2 ^ N.length : Nat) : Int) = (t : Int) := ⟨(a % ((2 ^ N.length : Nat) : Int)).toNat, by have := Int.emod_nonneg a (b := ((2 ^ N.length : Nat) : Int)) (by omega); omega⟩
      have ht2 : (t : Int) < ((2 ^ N.length : Nat) : Int) := by rw [← htn]; exact Int.emod_lt_of_pos _ (by omega)
      rw [htn]
      have htw : t < 2 ^ N.length := by exact_mod_cast ht2
      generalize hw : 2 ^ N.length = w at hp1 hp2 ht2 htw ⊢
      refine ⟨by omega, by omega, by omega, fits_small (by omega) (by omega), ha.1, by omega, fits_small (by omega) (by omega), r, c, x, sm, y, b32.ra, s68g (hx.ext x32) (hy.ext x32) hv ⟨by omega, by omega⟩ fun m64 e64 => ⟨_, rfl, ?_⟩⟩
      rw [List.take_of_length_le (by omega)] at hbit
      have hcan : ∃ H, TruthR c sm L (outN N (bitI (s : Int))) H := by
        rw [outN_congr (S := bitI (s : Int)) (S' := inD D) fun k _ => by rw [bitI_eq, hbit]]
        exact q2
      rw [(can_iff (outN_sv hv _)).2 hcan]
      have x64 := x32.trans e64
      have b64 := b32.ext e64
      refine ⟨r, c, x, sm, y, b64.ra, s68g (hx.ext x64) (hy.ext x64) hv ⟨by omega, by omega⟩ fun m72 e72 => ⟨_, rfl, ?_⟩⟩
      rw [ifB_iff, can_iff (outN_sv hv _)]
      refine ⟨fun hct => ?_, fun _ => aw _⟩
      have hib : Inc N.length 0 (bitsL t) := bits_inc h16 (by rw [hw]; exact htw)
      have hlb := inc_len hib
      refine s66 (by omega) fun z2 m75 e75 hz2 _ => ⟨z2, rfl, s65 hz2 (((hz32.ext e64).ext e72).ext e75) (by omega) (by omega) ⟨_, rfl, ?_⟩⟩
      have hsh : shB (bitsL t) D = false := by
        rcases q3 (bitsL t) hib ((canL_bits h16).2 hct) with h1 | h1
        · rw [h1]; exact shB_irr D
        · exact shB_asym h1
      rw [hsh]
      exact aw _
    | succ d ih =>
      intro i s b29 m32 hd he hs hbit
      have x32 := x25.trans he
      have b32 := b25.ext he
      have hz32 := hz.ext he
      have hi : i < D.length := by omega
      have hDi := q1.2 _ (List.getElem_mem hi)
      obtain ⟨k, hk⟩ : ∃ k : Nat, D[i] = (k : Int) := ⟨D[i].toNat, by omega⟩
      have hkN : k < N.length := by omega
      refine hstep _ _ _ _ ⟨hz.isSl, ?_⟩
      rw [hz.slLen, ifB_dec]
      refine ⟨fun _ => ?_, fun h1 => absurd (by omega) h1⟩
      have rd := Li.rd hz32 (List.getElem?_eq_getElem hi)
      refine ⟨i, rfl, hi, _, rd, trivial, y, b32.rc (k := 4) rfl, hy.isSl, ?_⟩
      rw [hy.slLen]
      refine ⟨fits_small (by omega) (by omega), s44 ⟨_, rfl, ?_⟩⟩
      rw [decide_eq_true (show (0 : Int) ≤ D[i] ∧ D[i] ≤ (N.length : Int) - 1 by omega)]
      show ifB (decide ((0 : Int) < (i : Int))) _ _
      have hlt : ∀ h0 : 0 < i, ¬ D[i] ≤ D[i - 1]'(by omega) := fun h0 => by
        have := List.pairwise_iff_getElem.1 q1.1 (i - 1) i (by omega) hi (by omega)
        omega
      refine (fun rest => ifB_dec.2 ⟨fun h0 => ⟨i, rfl, hi, _, rd, fits_small (by omega) (by omega), i - 1, by omega, (by omega : i - 1 < D.length), _, Li.rd hz32 (List.getElem?_eq_getElem (by omega : i - 1 < D.length)), ifB_dec.2 ⟨fun h1 => absurd h1 (hlt (by omega)), fun _ => rest⟩⟩, fun _ => rest⟩) ?_
      have hrl : ldC m32 (ptAdd (slAt y (k * 4)) 3) = some (.bool N[k].late) := by
        rw [Ls.add (hy.ext x32) (by omega)]
        exact Ls.rd (hy.ext x32) (cnts_at (List.getElem?_eq_getElem hkN) rfl)
      refine ⟨trivial, y, b32.rc (k := 4) rfl, i, rfl, hi, _, rd, k, hk, by rw [hy.slLen]; exact hkN, Ls.isPt (hy.ext x32) (by omega) _, _, hrl, ?_⟩
      rw [hlate k hkN (by rw [← hk]; exact List.getElem_mem hi)]
      show ∃ n48 : Nat, _
      refine ⟨i, rfl, hi, _, rd, ?_⟩
      rw [hk, wrap_small (by omega) (by omega), show ((k : Nat) : Int).toNat = k from rfl, show (1 : Int) * 2 ^ k = ((2 ^ k : Nat) : Int) by simp, show ((s : Nat) : Int).toNat = s from rfl, show (((2 ^ k : Nat) : Nat) : Int).toNat = 2 ^ k from rfl, lor_eq]
      have hk2 : 2 ^ k < 2 ^ 6 := Nat.pow_lt_pow_right (by omega) (by omega)
      have hor : s ||| 2 ^ k < 2 ^ 6 := Nat.or_lt_two_pow hs hk2
      have hbit' : ∀ j : Nat, (s ||| 2 ^ k).testBit j = inD (D.take (i + 1)) j := fun j => by
        rw [Nat.testBit_or, hbit, Nat.testBit_two_pow]
        unfold inD
        rw [List.take_add_one, List.getElem?_eq_getElem hi, hk]
        show (decide ((j : Int) ∈ D.take i) || decide (k = j)) = decide ((j : Int) ∈ D.take i ++ [(k : Int)])
        by_cases hj : (j : Int) ∈ D.take i
        · rw [decide_eq_true hj, decide_eq_true (List.mem_append.2 (.inl hj))]; rfl
        · rw [decide_eq_false hj]
          by_cases hkj : k = j
          · rw [decide_eq_true hkj, decide_eq_true (List.mem_append.2 (.inr (by rw [hkj]; exact List.mem_singleton.2 rfl)))]; rfl
          · rw [decide_eq_false hkj, decide_eq_false fun h1 => by
              rcases List.mem_append.1 h1 with h2 | h2
              · exact hj h2
              · have := List.mem_singleton.1 h2; omega]; rfl
      generalize 2 ^ k = w at hk2 hor hbit' ⊢
      generalize s ||| w = s' at hor hbit' ⊢
      exact ⟨by omega, by omega, by omega, fits_small (by omega) (by omega), by omega, by omega, fits_small (by omega) (by omega), fits_small (by omega) (by omega), fits_small (by omega) (by omega), fits_small (by omega) (by omega), ih (i + 1) s' b29 m32 (by omega) he hor hbit'⟩
  exact hgo D.length 0 0 false m25 (by omega) (.refl _) (by omega) fun k => by rw [Nat.zero_testBit]; exact (decide_eq_false (by simp)).symm
end
end Go.Proofs.Ytgkjfhkjgdiodaa

namespace Go.Proofs.Ytgkjfhkjgdiodaa
open _root_.Go.Proofs.Try
open Go.ChangeShapes Go.WideShapes Go.ChangeAt Go.RowKit Go.Abs
set_option maxRecDepth 100000
theorem els_cnts {els : List (List C)} (h : ∀ el ∈ els, All2 PkC [.int .i64, .int .i64, .int .i64, .bool] el) : ∃ N : List Cnt, els = N.map Cnt.cs ∧ PsFit N := by
  induction els with
  | nil => exact ⟨[], rfl, fun c hc => by cases hc⟩
  | cons e es ih =>
    obtain ⟨N, h1, h2⟩ := ih fun el hel => h el (List.mem_cons_of_mem _ hel)
    have he := h e (List.mem_cons_self ..)
    cases he with
    | cons q1 q2 =>
      cases q2 with
      | cons r1 r2 =>
        cases r2 with
        | cons s1 s2 =>
          cases s2 with
          | cons t1 t2 =>
            cases t2
            obtain ⟨p, rfl, hf⟩ := pk_int q1
            obtain ⟨lo, rfl, _⟩ := pk_int r1
            obtain ⟨hi, rfl, _⟩ := pk_int s1
            obtain ⟨b, rfl⟩ := pk_bool t1
            exact ⟨⟨p, lo, hi, b⟩ :: N, by rw [h1]; rfl, fun c hc => (List.mem_cons.1 hc).elim (fun h => h ▸ hf) (h2 c)⟩
/-- a slice of counts that a law is called with -/
theorem lc_of {all : List X} {i : Nat} {x : X} (hi : all[i]? = some x) (hk : XK (.sl [.int .i64, .int .i64, .int .i64, .bool]) x) : ∃ N : List Cnt, Lc (memOf all) (cOf i x) N ∧ PsFit N := by
  obtain ⟨hs, he⟩ := xk_sl hk
  obtain ⟨N, h1, h2⟩ := els_cnts he
  have := ls_of hi hs (k := 4) fun el hel => (he el hel).length.symm
  rw [h1, List.length_map] at this
  exact ⟨N, this, h2⟩
theorem get_mid {A B E : List X} {j : Nat} {x : X} (hx : B[j]? = some x) : (A ++ B ++ E)[A.length + j]? = some x := by
  rw [List.append_assoc, List.getElem?_append_right (by omega), Nat.add_sub_cancel_left, List.getElem?_append_left (List.getElem?_eq_some_iff.1 hx).1]; exact hx
theorem kk30 : kindsOf prog 9 30 = some [.pl (.int .i64), .pl (.int .i64), .sl [.int .i64], .pl (.int .i64), .sl [.int .i64, .int .i64, .int .i64, .bool]] := by kernel_rfl
theorem kk5 : kindsOf prog 9 5 = some [.pl (.int .u8)] := by kernel_rfl
theorem laid : laidOutB prog = true := by kernel_rfl
theorem ownNone : ownKnob prog.godebug = none := by kernel_rfl
theorem left_lifted (os : Os) (started : os.Started) (H : Type) (enc : TypeId × Value → H) :
    ReturnsInHanded {} Try.checked os 17 .any (Rows.frameLeftSpec.pre6 enc Try.prog Try.f17 Rows.frameLeftRow.domain false) (Rows.frameLeftSpec.post enc Try.prog Try.f17 false true false false) := by
  refine returnsInHanded_of_change (C := Try.checked) ownNone started (by kernel_rfl) Try.func17
    (ChangeSpec.witness6 (enc := enc) (C := Try.checked) false ⟨#[], #[.agg #[.int .i64 0, .int .i64 0, .slice none 0 0, .int .i64 0, .slice none 0 0], .int .u8 0], []⟩ 8 (by kernel_rfl) (by kernel_rfl) (by kernel_rfl) (by kernel_rfl)) ?_
  intro W base args ds gs before hval0 hW hcnd _
  have hval : ∀ (j : Nat) t v, Try.f17.params[j]? = some t → args[j]? = some v → Value.okWide Try.prog W .any base t v := hval0
  have hW' := hW
  obtain ⟨p, q, hA0, hV, rfl, hfz, hnd⟩ := hW
  have hA : DataW.TrodAll enc Try.prog W 0 (fun _ => true) true Try.f17.params.toList args.toList ds p := hA0
  rw [Try.params17] at hA hval
  obtain ⟨v0, v1, d0, d1, p0, p1, rfl, rfl, rfl, h0, h1⟩ := trodAll_two hA
  obtain ⟨rfl, rfl⟩ := trodVars_none hV
  obtain ⟨n1, hv1⟩ := okWide_int Try.underlying5 (hval 1 5 v1 rfl rfl)
  have hlt : ∀ x ∈ p0 ++ p1, x.block < W.heap.size := fun x hx => by simpa using hW'.lt x (by simpa using hx)
  obtain ⟨fu0, hf0⟩ := id h0
  obtain ⟨fu1, hf1⟩ := id h1
  clear hA0 hval0
  obtain ⟨xs0, x0, y0⟩ := open_trod 9 kk30 hf0
  obtain ⟨xs1, x1, y1⟩ := open_trod 9 kk5 hf1
  obtain ⟨cs0, rfl, z0⟩ := agg_of x0 (by rw [← y0.length]; decide)
  have z1 := x1
  have hall := (z0.app z1)
  have c0 := crs_of (W := W) (all := xs0 ++ xs1) (i := ([] : List X).length) (xs := xs0) (fun j x hx => by rw [show xs0 ++ xs1 = ([]) ++ xs0 ++ (xs1) from by simp only [List.append_assoc, List.nil_append, List.append_nil]]; exact get_mid hx) z0
  have c1 := crs_of (W := W) (all := xs0 ++ xs1) (i := (xs0 : List X).length) (xs := xs1) (fun j x hx => by rw [show xs0 ++ xs1 = (xs0) ++ xs1 ++ ([]) from by simp only [List.append_assoc, List.nil_append, List.append_nil]]; exact get_mid hx) z1
  have hr := hr_of (W := W) (all := xs0 ++ xs1) (xr_some hall)
  cases y0 with
  | cons q0 y0 =>
  cases y0 with
  | cons q1 y0 =>
  cases y0 with
  | cons q2 y0 =>
  cases y0 with
  | cons q3 y0 =>
  cases y0 with
  | cons q4 y0 =>
  cases y0
  cases y1 with
  | cons q5 y1 =>
  cases y1
  obtain ⟨r0, rfl⟩ := xk_int q0
  obtain ⟨c0', rfl⟩ := xk_int q1
  obtain ⟨t0, rfl⟩ := xk_int q3
  obtain ⟨a1, rfl⟩ := xk_int q5
  rename_i s0a s0b
  obtain ⟨L0, hL0, _⟩ := li_of (all := [.int .i64 r0, .int .i64 c0', s0a, .int .i64 t0, s0b] ++ [.int .u8 a1]) (i := 2) rfl q2
  obtain ⟨N0, hN0, hP0⟩ := lc_of (all := [.int .i64 r0, .int .i64 c0', s0a, .int .i64 t0, s0b] ++ [.int .u8 a1]) (i := 4) rfl q4
  subst hv1
  have fa1 : fitsP .u8 a1 := by
    cases x1 with
    | cons e1 e2 => exact e1.2
  simp only [fitsP] at fa1
  have hargs : All2 (VR (envOf W ([.int .i64 r0, .int .i64 c0', s0a, .int .i64 t0, s0b] ++ [.int .u8 a1]))) [.agg 5 [.int .i64 r0, .int .i64 c0', cOf 2 s0a, .int .i64 t0, cOf 4 s0b], .c (.int .u8 a1)] [.agg cs0, .int .u8 n1] := by
    cases c1 with
    | cons g1 g1' =>
    exact .cons ⟨cs0, rfl, c0, rfl⟩ (.cons g1 (.nil))
  refine (callsIn_wide.1 (call_of fits htab (s17 (Q := fun v _ => v = .c (.bool true)) hL0 hN0 ⟨by omega, by omega⟩ fun _ => rfl) hr (args' := #[.agg cs0, .int .u8 n1]) hargs 0)).mono fun en W' hp => ?_
  obtain ⟨v, v', e', m', rfl, hst, hvr, rfl⟩ := hp
  have hv' : v' = .bool true := hvr
  subst hv'
  have hbelow := below_of hst
  refine ⟨_, rfl, [d0, d1], [], p0 ++ p1, [], p0 ++ p1, [], by simpa using hW', trodAll_mk1 (shut_bool Try.underlying4 _),
    trodAll_mk2 (Below.trod laid (by kernel_rfl) (of_decide_eq_true (by kernel_rfl)) h0 hbelow fun x hx => hlt x (by simp [hx])) (Below.trod laid (by kernel_rfl) (of_decide_eq_true (by kernel_rfl)) h1 hbelow fun x hx => hlt x (by simp [hx])), rfl, kept_of hst _, fun hc => by cases hc⟩
theorem left_holds : Rows.FrameLeftSaid :=
  OpenClaim.holds_of_wide 17 Try.f17 rfl rfl rfl rfl rfl rfl rfl ⟨rfl, rfl, rfl, rfl, rfl⟩ rfl rfl rfl rfl rfl (by kernel_rfl) Try.func17 (by kernel_rfl)
    (of_decide_eq_true (by kernel_rfl)) (by unfold Func.isWrapper; first | (rw [if_pos (by decide +kernel)]; kernel_rfl) | (rw [if_neg (by decide +kernel)]; exact ⟨rfl, rfl⟩))
    (fun os started H enc _ => left_lifted os started H enc)
end Go.Proofs.Ytgkjfhkjgdiodaa

