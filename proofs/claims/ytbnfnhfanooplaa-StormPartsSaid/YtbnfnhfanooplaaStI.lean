/- StormParts, for all that it can be called with, returns true. Condition: none. -/
import Derived.Test.YtbnfnhfanooplaaStH
import GoSem.Step
import GoSem.ClaimKeys
import Derived.DeepKeys2
import Derived.RangeFuncLeaves
import Derived.OrdersIn
import Derived.Laws.World
import Derived.Laws.Sem
import Derived.RangeFuncRecord
import Derived.Laws.CopyRow
import Derived.Laws.Append
import Derived.Laws.Rows
import Derived.Laws.Slices
import Derived.Laws.Entries
import Derived.ChangeKeysEq
import Derived.IntWalk
import Derived.DeepKeys
import Derived.DeepKeys3
import Derived.Laws.StructEq
import Derived.MapKept
import Derived.Laws.AppendOwn
import Derived.ChangeArms
import Derived.ChangeOld
import Derived.Carry
import Derived.ChangeShapes
import Derived.KernelRfl
import Derived.ProofKit
import Derived.Test.YtbnfnhfanooplaaRows

namespace Go.Proofs.Ytbnfnhfanooplaa
open _root_.Go.Proofs.Try
open Go.Abs Go.Abs.Grow
set_option maxRecDepth 100000
noncomputable section
theorem aw : (pawake.bind fun r => some r) = some true := rfl
def ThinN (s : Stm) : Prop := s.Cards.length ≤ 9 ∧ (faultN s = 0 → manyN s ≤ 300)
theorem thin_ev {s : Stm} : Ev (plThin s) (ThinN s) := by
 unfold plThin ThinN
 refine (Ev.ite (K := faultN s = 0 → manyN s ≤ 300) fun h1 => ?_).imp (and_congr (by omega) Iff.rfl)
 rw [rFault_eq, Option.bind_some]
 by_cases hf : faultN s = 0
 ·have h := fault_zero.1 hf
  rw [if_pos hf, rMany_eq h.toVS0 h.many, Option.bind_some]
  exact Ev.dec ⟨fun h _ => h, fun h => h hf⟩
 ·rw [if_neg hf]; exact Ev.tt fun h => absurd h hf
theorem ready_ev {s : Stm} : Ev (plReady s) (ThinN s ∧ VS s) := by
 unfold plReady
 refine Ev.and thin_ev fun _ => ?_
 rw [rFault_eq, Option.bind_some]
 exact Ev.dec fault_zero
theorem lStorm_eq {s : Stm} (h : s.Cards.length ≤ 9) : plStorm s = some s := by
 have k1 := loopApp0 (l := s.Cards) (F := fun d acc x => plStorm_L0 s d s.Wide s.High s.Fall s.A.Lo s.A.Hi s.B.Lo s.B.Hi s.Half.Lo s.Half.Hi s.Peak.Lo s.Peak.Hi acc x) (fun c : Crd => c) (fun acc => some ({ s with Cards := acc } : Stm)) (fun d k acc a ha hac => by
  have hk := (List.getElem?_eq_some_iff.1 ha).1
  show plStorm_L0 s (d + 1) _ _ _ _ _ _ _ _ _ _ _ _ _ = _
  rw [plStorm_L0, if_pos (by omega), idx_at ha, Option.bind_some]
  unfold plTo
  rw [Option.bind_some, Option.bind_some, Option.bind_some, gd_pos (by omega), gd_pos (fI (by omega))]) (fun d acc => by show plStorm_L0 s (d + 1) _ _ _ _ _ _ _ _ _ _ _ _ _ = _; rw [plStorm_L0, if_neg (Int.lt_irrefl _)]) (d := 1000000) (by omega)
 unfold plStorm plTo
 rw [Option.bind_some, Option.bind_some, Option.bind_some, Option.bind_some]
 refine k1.trans ?_
 rw [List.map_id']
theorem lRect_eq {r : Rct} : plRect r = some r := rfl
theorem box_eq {s : Stm} (h : VS s) {w : Int} (hw : fitsP .u16 w) : ∃ r, plBox s w = some r ∧ rcOk s r := by
 obtain ⟨h1, h2, _⟩ := not_many h.many
 have hwd := h.wide; have hhi := h.high
 have u := fU16 hw
 have w1 : wrapZ .i64 w = w := wz (fI (by omega))
 have m1 := Int.emod_nonneg w (show s.Wide ≠ 0 by omega)
 have m1' := Int.emod_lt_of_pos w (show 0 < s.Wide by omega)
 have m2 := Int.emod_nonneg (w / 16) (show s.High ≠ 0 by omega)
 have m2' := Int.emod_lt_of_pos (w / 16) (show 0 < s.High by omega)
 unfold plBox
 simp only [w1]
 generalize w % s.Wide = x at *
 generalize w / 16 % s.High = y at *
 repeat rw [gd_pos (by first | exact fI (by omega) | omega)]
 exact ⟨_, rfl, by unfold rcOk Wi; dsimp only; omega⟩
theorem verd_parts {s : Stm} (ht : HT s) {r a b : Rct} (hu : ∀ x y, inP r x y ↔ inP a x y ∨ inP b x y) (ha : ∃ x y, inP a x y) (hb : ∃ x y, inP b x y) :
  (verdN s r ≠ 3 → verdN s a = verdN s r ∧ verdN s b = verdN s r) ∧ (verdN s a ≠ 3 → verdN s a = verdN s b → verdN s r = verdN s a) := by
 have hr : ∀ t inn, Rch s t r inn ↔ Rch s t a inn ∨ Rch s t b inn := fun t inn => by
  unfold Rch
  constructor
  ·rintro ⟨x, y, h1, h2⟩
   exact ((hu x y).1 h1).imp (fun h => ⟨x, y, h, h2⟩) fun h => ⟨x, y, h, h2⟩
  ·rintro (⟨x, y, h1, h2⟩ | ⟨x, y, h1, h2⟩)
   ·exact ⟨x, y, (hu x y).2 (.inl h1), h2⟩
   ·exact ⟨x, y, (hu x y).2 (.inr h1), h2⟩
 have two : ∀ q : Rct, (∃ x y, inP q x y) → ∀ t, Rch s t q false ∨ Rch s t q true := fun q ⟨x, y, hq⟩ t => by
  by_cases hh : hitP s t x y
  ·exact .inr ⟨x, y, hq, by simp [hh]⟩
  ·exact .inl ⟨x, y, hq, by simp [hh]⟩
 obtain ⟨t0, ht0⟩ := ht
 have one : ∀ q : Rct, verdN s q = 1 ↔ ∀ t, TS s t → ¬ Rch s t q false := fun q => by
  unfold verdN
  split
  ·rename_i h; exact ⟨fun _ => h, fun _ => rfl⟩
  ·rename_i h; split <;> exact ⟨fun q => by omega, fun q => absurd q h⟩
 have twoo : ∀ q : Rct, (∃ x y, inP q x y) → (verdN s q = 2 ↔ ∀ t, TS s t → ¬ Rch s t q true) := fun q hq => by
  unfold verdN
  split
  ·rename_i h; exact ⟨fun q => by omega, fun h2 => ((two q hq t0).elim (h t0 ht0) (h2 t0 ht0)).elim⟩
  ·split
   ·rename_i h; exact ⟨fun _ => h, fun _ => rfl⟩
   ·rename_i h; exact ⟨fun q => by omega, fun q => absurd q h⟩
 have three : ∀ q : Rct, verdN s q = 1 ∨ verdN s q = 2 ∨ verdN s q = 3 := fun q => by
  unfold verdN
  split
  ·exact .inl rfl
  ·split
   ·exact .inr (.inl rfl)
   ·exact .inr (.inr rfl)
 have hrn : ∃ x y, inP r x y := by obtain ⟨x, y, q⟩ := ha; exact ⟨x, y, (hu x y).2 (.inl q)⟩
 constructor
 ·intro h3
  rcases three r with h | h | h
  ·have := (one r).1 h
   rw [h]
   exact ⟨(one a).2 fun t q1 q2 => this t q1 ((hr t false).2 (.inl q2)), (one b).2 fun t q1 q2 => this t q1 ((hr t false).2 (.inr q2))⟩
  ·have := (twoo r hrn).1 h
   rw [h]
   exact ⟨(twoo a ha).2 fun t q1 q2 => this t q1 ((hr t true).2 (.inl q2)), (twoo b hb).2 fun t q1 q2 => this t q1 ((hr t true).2 (.inr q2))⟩
  ·exact absurd h h3
 ·intro h3 he
  rcases three a with h | h | h
  ·rw [h]
   exact (one r).2 fun t q1 q2 => ((hr t false).1 q2).elim ((one a).1 h t q1) ((one b).1 (he.symm.trans h) t q1)
  ·rw [h]
   exact (twoo r hrn).2 fun t q1 q2 => ((hr t true).1 q2).elim ((twoo a ha).1 h t q1) ((twoo b hb).1 (he.symm.trans h) t q1)
  ·exact absurd h h3
theorem tail_parts {v x y : Int} (h1 : v ≠ 3 → x = v ∧ y = v) (h2 : x ≠ 3 → x = y → v = x) :
  (if v = (3 : Int) then (if x = (3 : Int) then ((pawake).bind fun r => (some r)) else (if x = y then (if v = x then ((pawake).bind fun r => (some r)) else (some false)) else ((pawake).bind fun r => (some r)))) else (if x = v then (if y = v then (if x = (3 : Int) then ((pawake).bind fun r => (some r)) else (if x = y then (if v = x then ((pawake).bind fun r => (some r)) else (some false)) else ((pawake).bind fun r => (some r)))) else (some false)) else (some false))) = some true := by
 rw [aw]
 by_cases hv : v = 3
 ·rw [if_pos hv]
  by_cases hx : x = 3
  ·rw [if_pos hx]
  ·rw [if_neg hx]
   by_cases hxy : x = y
   ·rw [if_pos hxy, if_pos (h2 hx hxy)]
   ·rw [if_neg hxy]
 ·obtain ⟨q1, q2⟩ := h1 hv
  rw [if_neg hv, if_pos q1, if_pos q2, if_neg (by omega), if_pos (by omega), if_pos q1.symm]
theorem m_StormParts {s : Stm} {whr atn : Int} (_hs : ok_Stm s) (hwh : fitsP .u16 whr) (hat : fitsP .u8 atn) : pStormParts s whr atn = some true := by
 unfold pStormParts
 refine ready_ev.pick (fun ⟨ht, h⟩ => ?_) fun _ => by rw [if_neg (by simp), aw]
 obtain ⟨r, r1, r2⟩ := box_eq h hwh
 obtain ⟨c1, c2, _⟩ := not_many h.many
 have u := fU8 hat
 have w1 : wrapZ .i64 atn = atn := wz (fI (by omega))
 rw [if_pos rfl, r1, Option.bind_some, lStorm_eq ht.1, Option.bind_some, lRect_eq, Option.bind_some, w1]
 by_cases hT : HT s
 ·rw [Verdict_ok h hT r2, Option.bind_some, if_pos rfl, gd_pos (by omega), gd_pos (by omega), gd_pos (show fitsP .u8 (atn % 2) from (show 0 ≤ atn % 2 ∧ atn % 2 < 256 by omega))]
  dsimp only
  have hX := r2.1; have hY := r2.2
  have d1 : 0 ≤ atn / 2 ∧ atn / 2 ≤ 127 := by omega
  by_cases hc : atn % 2 = 0
  ·have hcn := cnt_rng hX
   have m1 := Int.emod_nonneg (atn / 2) (show cnt r.X ≠ 0 by omega)
   have m1' := Int.emod_lt_of_pos (atn / 2) (show 0 < cnt r.X by omega)
   rw [if_pos hc, gd_pos (by omega), gd_pos (by omega), gd_pos (fI (by omega)), rCount_eq (hX.w (by omega) (by omega)), Option.bind_some]
   obtain ⟨n, hn⟩ : ∃ n, r.X.Lo + atn / 2 % cnt r.X = n := ⟨_, rfl⟩
   rw [hn]
   have hnr : r.X.Lo ≤ n ∧ n ≤ r.X.Hi := by unfold cnt at m1' hn hcn m1; omega
   unfold Wi at hX hY
   rw [gd_pos (by omega), gd_pos (by omega), gd_pos (fI (by omega)), gd_pos (fI (by omega)), gd_pos (fI (by omega)), lRect_eq, Option.bind_some, Option.bind_some, Verdict_ok h hT (by unfold rcOk Wi; dsimp only; omega), Option.bind_some, lRect_eq, Option.bind_some, Option.bind_some, Verdict_ok h hT (by unfold rcOk Wi; dsimp only; omega), Option.bind_some]
   dsimp only
   rw [if_pos rfl, if_pos rfl]
   obtain ⟨p1, p2⟩ := verd_parts hT (r := r) (a := ⟨⟨r.X.Lo, n⟩, r.Y⟩) (b := ⟨⟨min r.X.Hi (n + 1), r.X.Hi⟩, r.Y⟩) (fun x y => by unfold inP inR; dsimp only; omega) ⟨r.X.Lo, r.Y.Lo, by unfold inP inR; dsimp only; omega⟩ ⟨r.X.Hi, r.Y.Lo, by unfold inP inR; dsimp only; omega⟩
   exact tail_parts p1 p2
  ·have hcn := cnt_rng hY
   have m1 := Int.emod_nonneg (atn / 2) (show cnt r.Y ≠ 0 by omega)
   have m1' := Int.emod_lt_of_pos (atn / 2) (show 0 < cnt r.Y by omega)
   rw [if_neg hc, gd_pos (by omega), gd_pos (by omega), gd_pos (fI (by omega)), rCount_eq (hY.w (by omega) (by omega)), Option.bind_some]
   obtain ⟨n, hn⟩ : ∃ n, r.Y.Lo + atn / 2 % cnt r.Y = n := ⟨_, rfl⟩
   rw [hn]
   have hnr : r.Y.Lo ≤ n ∧ n ≤ r.Y.Hi := by unfold cnt at m1' hn hcn m1; omega
   unfold Wi at hX hY
   rw [gd_pos (by omega), gd_pos (by omega), gd_pos (fI (by omega)), gd_pos (fI (by omega)), gd_pos (fI (by omega)), lRect_eq, Option.bind_some, Option.bind_some, Verdict_ok h hT (by unfold rcOk Wi; dsimp only; omega), Option.bind_some, lRect_eq, Option.bind_some, Option.bind_some, Verdict_ok h hT (by unfold rcOk Wi; dsimp only; omega), Option.bind_some]
   dsimp only
   rw [if_pos rfl, if_pos rfl]
   obtain ⟨p1, p2⟩ := verd_parts hT (r := r) (a := ⟨r.X, ⟨r.Y.Lo, n⟩⟩) (b := ⟨r.X, ⟨min r.Y.Hi (n + 1), r.Y.Hi⟩⟩) (fun x y => by unfold inP inR; dsimp only; omega) ⟨r.X.Lo, r.Y.Lo, by unfold inP inR; dsimp only; omega⟩ ⟨r.X.Lo, r.Y.Hi, by unfold inP inR; dsimp only; omega⟩
   exact tail_parts p1 p2
 ·rw [Verdict_no h hT r2, Option.bind_some, if_neg (by decide), if_pos rfl, aw]
end
end Go.Proofs.Ytbnfnhfanooplaa

namespace Go.Proofs.Ytbnfnhfanooplaa
open _root_.Go.Proofs.Try
open Go.ChangeShapes Go.WideShapes Go.ChangeAt Go.RowKit Go.Abs
set_option maxRecDepth 100000
theorem op3 : Opens prog 3 Int (fitsP .i64) := opens_int (by kernel_rfl)
theorem op23 : Opens prog 23 Rg ok_Rg := opens_struct (fs := [(3, 0), (3, 1)]) (by kernel_rfl) (by kernel_rfl) (opensFs_cons (α := Int) (ok := fitsP .i64) (k := 1) op3 (by kernel_rfl) rfl (opensFs_cons (α := Int) (ok := fitsP .i64) (k := 1) op3 (by kernel_rfl) rfl opensFs_nil)) (by kernel_rfl) fun m vs h => by
 obtain ⟨a0, c0, r0, m0, h0, p0, k0, s0, ⟨a1, c1, r1, m1, h1, p1, k1, s1, rfl⟩⟩ := h
 have p0 : c0 = [.int .i64 a0] := p0; subst p0
 have p1 : c1 = [.int .i64 a1] := p1; subst p1
 subst h1 h0
 exact ⟨⟨a0, a1⟩, rfl, ⟨k0, k1⟩⟩
theorem op4 : Opens prog 4 Bool (fun _ => True) := opens_bool (by kernel_rfl)
theorem op97 : Opens prog 97 Crd ok_Crd := opens_struct (fs := [(23, 0), (23, 2), (4, 4), (23, 5)]) (by kernel_rfl) (by kernel_rfl) (opensFs_cons (α := Rg) (ok := ok_Rg) (k := 2) op23 (by kernel_rfl) rfl (opensFs_cons (α := Rg) (ok := ok_Rg) (k := 2) op23 (by kernel_rfl) rfl (opensFs_cons (α := Bool) (ok := (fun _ => True)) (k := 1) op4 (by kernel_rfl) rfl (opensFs_cons (α := Rg) (ok := ok_Rg) (k := 2) op23 (by kernel_rfl) rfl opensFs_nil)))) (by kernel_rfl) fun m vs h => by
 obtain ⟨a0, c0, r0, m0, h0, p0, k0, s0, ⟨a1, c1, r1, m1, h1, p1, k1, s1, ⟨a2, c2, r2, m2, h2, p2, k2, s2, ⟨a3, c3, r3, m3, h3, p3, k3, s3, rfl⟩⟩⟩⟩ := h
 have p0 : c0 = [.int .i64 a0.Lo, .int .i64 a0.Hi] := p0; subst p0
 have p1 : c1 = [.int .i64 a1.Lo, .int .i64 a1.Hi] := p1; subst p1
 have p2 : c2 = [.bool a2] := p2; subst p2
 have p3 : c3 = [.int .i64 a3.Lo, .int .i64 a3.Hi] := p3; subst p3
 subst h3 h2 h1 h0
 exact ⟨⟨a0, a1, a2, a3⟩, rfl, ⟨k0, k1, k2, k3⟩⟩
theorem op24 : Opens prog 24 (List Crd) (fun l => l.length ≤ maxLen ∧ ∀ a0 ∈ l, ok_Crd a0) := opens_slice (by kernel_rfl) (by kernel_rfl) op97
theorem op26 : Opens prog 26 Stm ok_Stm := opens_struct (fs := [(3, 0), (3, 1), (3, 2), (23, 3), (23, 5), (23, 7), (23, 9), (24, 11)]) (by kernel_rfl) (by kernel_rfl) (opensFs_cons (α := Int) (ok := fitsP .i64) (k := 1) op3 (by kernel_rfl) rfl (opensFs_cons (α := Int) (ok := fitsP .i64) (k := 1) op3 (by kernel_rfl) rfl (opensFs_cons (α := Int) (ok := fitsP .i64) (k := 1) op3 (by kernel_rfl) rfl (opensFs_cons (α := Rg) (ok := ok_Rg) (k := 2) op23 (by kernel_rfl) rfl (opensFs_cons (α := Rg) (ok := ok_Rg) (k := 2) op23 (by kernel_rfl) rfl (opensFs_cons (α := Rg) (ok := ok_Rg) (k := 2) op23 (by kernel_rfl) rfl (opensFs_cons (α := Rg) (ok := ok_Rg) (k := 2) op23 (by kernel_rfl) rfl (opensFs_cons (α := List Crd) (ok := (fun l => l.length ≤ maxLen ∧ ∀ a0 ∈ l, ok_Crd a0)) (k := 1) op24 (by kernel_rfl) rfl opensFs_nil)))))))) (by kernel_rfl) fun m vs h => by
 obtain ⟨a0, c0, r0, m0, h0, p0, k0, s0, ⟨a1, c1, r1, m1, h1, p1, k1, s1, ⟨a2, c2, r2, m2, h2, p2, k2, s2, ⟨a3, c3, r3, m3, h3, p3, k3, s3, ⟨a4, c4, r4, m4, h4, p4, k4, s4, ⟨a5, c5, r5, m5, h5, p5, k5, s5, ⟨a6, c6, r6, m6, h6, p6, k6, s6, ⟨a7, c7, r7, m7, h7, p7, k7, s7, rfl⟩⟩⟩⟩⟩⟩⟩⟩ := h
 have p0 : c0 = [.int .i64 a0] := p0; subst p0
 have p1 : c1 = [.int .i64 a1] := p1; subst p1
 have p2 : c2 = [.int .i64 a2] := p2; subst p2
 have p3 : c3 = [.int .i64 a3.Lo, .int .i64 a3.Hi] := p3; subst p3
 have p4 : c4 = [.int .i64 a4.Lo, .int .i64 a4.Hi] := p4; subst p4
 have p5 : c5 = [.int .i64 a5.Lo, .int .i64 a5.Hi] := p5; subst p5
 have p6 : c6 = [.int .i64 a6.Lo, .int .i64 a6.Hi] := p6; subst p6
 obtain ⟨d7, rfl, p7⟩ := p7
 subst h7 h6 h5 h4 h3 h2 h1 h0
 exact ⟨⟨a0, a1, a2, a3, a4, a5, a6, a7⟩, ⟨_, rfl, p7⟩, ⟨k0, k1, k2, k3, k4, k5, k6, k7⟩⟩
theorem laid : laidOutB prog = true := by kernel_rfl
theorem ownNone : ownKnob prog.godebug = none := by kernel_rfl
theorem StormParts_lifted (os : Os) (started : os.Started) (H : Type) (enc : TypeId × Value → H) :
    ReturnsInHanded {} Try.checked os 13 .any (Rows.stormPartsSpec.pre6 enc Try.prog Try.f13 Rows.stormPartsRow.domain false) (Rows.stormPartsSpec.post enc Try.prog Try.f13 false true false false) := by
  refine returnsInHanded_of_change (C := Try.checked) ownNone started (by kernel_rfl) Try.func13
    (ChangeSpec.witness6 (enc := enc) (C := Try.checked) false ⟨#[], #[.agg #[.int .i64 0, .int .i64 0, .int .i64 0, .int .i64 0, .int .i64 0, .int .i64 0, .int .i64 0, .int .i64 0, .int .i64 0, .int .i64 0, .int .i64 0, .slice none 0 0], .int .u16 0, .int .u8 0], []⟩ 8 (by kernel_rfl) (by kernel_rfl) (by kernel_rfl) (by kernel_rfl)) ?_
  intro W base args ds gs before hval0 hW hcnd _
  have hval : ∀ (j : Nat) t v, Try.f13.params[j]? = some t → args[j]? = some v → Value.okWide Try.prog W .any base t v := hval0
  have hW' := hW
  obtain ⟨p, q, hA0, hV, rfl, hfz, hnd⟩ := hW
  have hA : DataW.TrodAll enc Try.prog W 0 (fun _ => true) true Try.f13.params.toList args.toList ds p := hA0
  rw [Try.params13] at hA hval
  obtain ⟨v0, v1, v2, d0, d1, d2, p0, p1, p2, rfl, rfl, rfl, h0, h1, h2⟩ := trodAll_three hA
  obtain ⟨rfl, rfl⟩ := trodVars_none hV
  obtain ⟨n1, hv1⟩ := okWide_int Try.underlying87 (hval 1 87 v1 rfl rfl)
  obtain ⟨n2, hv2⟩ := okWide_int Try.underlying5 (hval 2 5 v2 rfl rfl)
  have hlt : ∀ x ∈ p0 ++ p1 ++ p2, x.block < W.heap.size := fun x hx => by simpa using hW'.lt x (by simpa using hx)
  obtain ⟨fu0, hf0⟩ := id h0
  obtain ⟨fu1, hf1⟩ := id h1
  obtain ⟨fu2, hf2⟩ := id h2
  clear hA0 hval0
  obtain ⟨e0, m0, w0, a_0, le0, sv0, lay0, cr0, rep0, ok0⟩ := op26 H enc W true _ _ _ hf0 _ _ (Lay.nil W)
  obtain ⟨i1, hc1, _, hw1⟩ := DataW.trod_int Try.underlying87 hf1
  obtain ⟨i2, hc2, _, hw2⟩ := DataW.trod_int Try.underlying5 hf2
  obtain ⟨c0_11, rfl, g0_11⟩ := rep0
  obtain ⟨cs0, hv0, cl0⟩ : ∃ cs, v0 = .agg cs ∧ v0.cells.toList = cs.toList := by
    have hl := cr0.length
    cases v0 with
    | agg cs => exact ⟨cs, rfl, rfl⟩
    | _ => exact absurd hl (by simp [Value.cells])
  subst hv0
  subst hv1
  have hi1 : i1 = n1 := by
    have h : [Value.int .u16 n1] = [.int .u16 i1] := hc1
    cases h; rfl
  subst hi1
  subst hv2
  have hi2 : i2 = n2 := by
    have h : [Value.int .u8 n2] = [.int .u8 i2] := hc2
    cases h; rfl
  subst hi2
  have hargs : All2 (VR e0) [.agg 12 [.int .i64 a_0.Wide, .int .i64 a_0.High, .int .i64 a_0.Fall, .int .i64 a_0.A.Lo, .int .i64 a_0.A.Hi, .int .i64 a_0.B.Lo, .int .i64 a_0.B.Hi, .int .i64 a_0.Half.Lo, .int .i64 a_0.Half.Hi, .int .i64 a_0.Peak.Lo, .int .i64 a_0.Peak.Hi, c0_11], .c (.int .u16 i1), .c (.int .u8 i2)] [.agg cs0, .int .u16 i1, .int .u8 i2] := .cons ⟨cs0, rfl, cr0, rfl⟩ (.cons rfl (.cons rfl .nil))
  refine (callsIn_wide.1 (call_of fits htab (s_StormParts (s := a_0) (whr := i1) (atn := i2) lay0.pre g0_11 (m_StormParts ok0 (wf_fits hw1) (wf_fits hw2)) (Q := fun v _ => v = .c (.bool true)) fun _ _ => rfl) lay0.hr (args' := #[.agg cs0, .int .u16 i1, .int .u8 i2]) hargs 0)).mono fun en W' hp => ?_
  obtain ⟨v, v', e', m', rfl, hst, hvr, rfl⟩ := hp
  have hv' : v' = .bool true := hvr
  subst hv'
  have hbelow := lay0.below hst
  refine ⟨_, rfl, [d0, d1, d2], [], p0 ++ p1 ++ p2, [], p0 ++ (p1 ++ p2), [], by simpa using hW', trodAll_mk1 (shut_bool Try.underlying4 _),
    trodAll_mk3 (Below.trod laid (by kernel_rfl) (of_decide_eq_true (by kernel_rfl)) h0 hbelow fun x hx => hlt x (by simp [hx])) (Below.trod laid (by kernel_rfl) (of_decide_eq_true (by kernel_rfl)) h1 hbelow fun x hx => hlt x (by simp [hx])) (Below.trod laid (by kernel_rfl) (of_decide_eq_true (by kernel_rfl)) h2 hbelow fun x hx => hlt x (by simp [hx])), rfl, lay0.kept hst _, fun hc => by cases hc⟩
theorem StormParts_holds : Rows.StormPartsSaid :=
 OpenClaim.holds_of_wide 13 Try.f13 rfl rfl rfl rfl rfl rfl rfl ⟨rfl, rfl, rfl, rfl, rfl⟩ rfl rfl rfl rfl rfl (by kernel_rfl) Try.func13 (by kernel_rfl)
  (of_decide_eq_true (by kernel_rfl)) (by unfold Func.isWrapper; first | (rw [if_pos (by decide +kernel)]; kernel_rfl) | (rw [if_neg (by decide +kernel)]; exact ⟨rfl, rfl⟩))
  (fun os started H enc _ => StormParts_lifted os started H enc)
end Go.Proofs.Ytbnfnhfanooplaa

