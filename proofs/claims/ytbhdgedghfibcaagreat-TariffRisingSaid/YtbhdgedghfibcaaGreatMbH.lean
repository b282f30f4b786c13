/- TariffRising, for all that it can be called with, returns true. Condition: none. -/
import Derived.Test.YtbhdgedghfibcaaGreatMbG
import GoSem.Step
import GoSem.ClaimKeys
import Derived.DeepKeys2
import Derived.RangeFuncLeaves
import Derived.OrdersIn
import Derived.Laws.World
import Derived.Laws.Sem
import Derived.RangeFuncRecord
import Derived.Laws.CopyRow
import Derived.Laws.Append
import Derived.Laws.Rows
import Derived.Laws.Slices
import Derived.Laws.Entries
import Derived.ChangeKeysEq
import Derived.IntWalk
import Derived.DeepKeys
import Derived.DeepKeys3
import Derived.Laws.StructEq
import Derived.MapKept
import Derived.Laws.AppendOwn
import Derived.ChangeArms
import Derived.ChangeOld
import Derived.Carry
import Derived.ChangeShapes
import Derived.KernelRfl
import Derived.ProofKit
import Derived.Test.YtbhdgedghfibcaaGreatRows

namespace Go.Proofs.YtbhdgedghfibcaaGreat
open _root_.Go.Proofs.Tryz
open Go.Abs
set_option maxRecDepth 100000
noncomputable section
theorem two_le {w n : Nat} (h : w < n) (hn : n ≤ 5) : 2 ^ w ≤ 16 ∧ 1 ≤ 2 ^ w := ⟨Nat.pow_le_pow_right (n := 2) (by omega) (show w ≤ 4 by omega), Nat.one_le_two_pow⟩
theorem mod_nat {bits : Int} (hb : 0 ≤ bits ∧ bits < 256) {n : Nat} (hn : n ≤ 5) : ∃ t : Nat, bits % ((2 ^ n : Nat) : Int) = (t : Int) ∧ t < 2 ^ n ∧ t < 32 := by
  have hp := pow5 hn
  refine ⟨(bits % ((2 ^ n : Nat) : Int)).toNat, ?_, ?_, ?_⟩
  all_goals
    have h1 := Int.emod_nonneg bits (show ((2 ^ n : Nat) : Int) ≠ 0 by omega)
    have h2 := Int.emod_lt_of_pos bits (show (0 : Int) < ((2 ^ n : Nat) : Int) by omega)
    omega
theorem rising_end {r M : List Int} (hn : r.length ≤ 5) (h : MinR r M) {bits : Int} (hb : 0 ≤ bits ∧ bits < 256) {s : Nat} (hs : s < 32) (hbit : ∀ j, s.testBit j = inD M j) (d : Nat) :
    pTariffRising_L0 bits r (M, 0) (d + 1) (s : Int) (M.length : Int) = some true := by
  have hp := pow5 hn
  obtain ⟨t, ht1, ht2, ht3⟩ := mod_nat hb hn
  have hfun : (fun j => s.testBit j) = inD M := funext hbit
  have hlen := inc_len h.inc
  have hz : Ev (prRise r (0 : Int)) (M.length = 0) := (rRiseB (r := r) hn (b := 0) (by omega)).imp ⟨fun h0 => by
    have hI : Inc r.length 0 [] := ⟨.nil, fun v hv => by cases hv⟩
    rcases h.min [] hI ((RS.congr fun j _ => by rw [Nat.zero_testBit]; rfl).1 h0) with h1 | h1
    · rw [← h1]; rfl
    · rcases shB_iff.1 h1 with h2 | h2
      · have : M.length < 0 := h2; omega
      · exact h2.1, fun h0 => by
    have hM : M = [] := List.length_eq_zero_iff.1 h0
    have := h.rs
    rw [hM] at this
    exact (RS.congr fun j _ => by rw [Nat.zero_testBit]; rfl).1 this⟩
  have hend : ((prRise r (0 : Int)).bind fun r358 => (if ((decide ((M.length : Int) = (0 : Int))) == r358) = true then ((pawake).bind fun r364 => (some r364)) else (some false))) = some true := by
    obtain ⟨c, hc1, hc2⟩ := hz
    rw [hc1, Option.bind_some, if_pos, aw, Option.bind_some]
    by_cases h0 : M.length = 0
    · rw [hc2.2 h0, decide_eq_true (by omega)]; rfl
    · have : c = false := by
        cases c with
        | true => exact absurd (hc2.1 rfl) h0
        | false => rfl
      rw [this, decide_eq_false (by omega)]; rfl
  rw [pTariffRising_L0, if_neg (Int.lt_irrefl _), wu (show r.length ≤ 64 by omega), Int.toNat_natCast, one_shl hn, wz (fI (by omega)), ht1,
    gd_pos (by omega), gd_pos (by omega), gd_pos (by omega), gd_pos (fI (by omega)), gd_pos (by omega), gd_pos (by omega), gd_pos (fI (by omega)),
    (rRiseB (r := r) hn (b := s) (by omega)).some_of (by rw [hfun]; exact h.rs), Option.bind_some, if_pos rfl]
  refine (rRiseB (r := r) hn (b := t) (by omega)).pick (fun hr => ?_) fun _ => by rw [if_neg (by simp)]; exact hend
  rw [if_pos rfl, rBits_eq (by omega), Option.bind_some, rShorter_eq (by have := len_bits (b := t); omega), Option.bind_some, if_neg, ]
  · exact hend
  · have hI : Inc r.length 0 (bitsL t) := bits_inc (by omega) ht2
    rcases h.min _ hI ((rs_bits hn).2 hr) with h1 | h1
    · rw [h1, shB_irr]; simp
    · rw [shB_asym h1]; simp
theorem rising_go {r M : List Int} (hn : r.length ≤ 5) (h : MinR r M) {bits : Int} (hb : 0 ≤ bits ∧ bits < 256) : ∀ (d k s : Nat), k ≤ M.length → M.length - k < d → s < 32 → (∀ j, s.testBit j = inD (M.take k) j) →
    pTariffRising_L0 bits r (M, 0) d (s : Int) (k : Int) = some true
  | 0, _, _, _, h', _, _ => by omega
  | d + 1, k, s, hk, hd, hs, hbit => by
    by_cases hkm : k < M.length
    · have hlen := inc_len h.inc
      have hget := List.getElem?_eq_getElem hkm
      have hv := h.inc.2 _ (List.getElem_mem hkm)
      obtain ⟨w, hw⟩ : ∃ w : Nat, M[k] = (w : Int) := ⟨M[k].toNat, by omega⟩
      have hw5 : w < r.length := by omega
      have h2 := two_le hw5 hn
      have hor : s ||| 2 ^ w < 32 := Nat.or_lt_two_pow (n := 5) hs (by omega)
      have hnext := rising_go hn h hb d (k + 1) (s ||| 2 ^ w) (by omega) (by omega) hor fun j => by
        rw [Nat.testBit_or, hbit, Nat.testBit_two_pow, List.take_add_one, hget]
        unfold inD
        rw [hw]
        by_cases hj : w = j
        · subst hj; simp
        · have hne : ¬ ((j : Int) = (w : Int)) := by omega
          simp [hj, hne]
      have hpw : (1 : Int) * (2 : Int) ^ w = ((2 ^ w : Nat) : Int) := by rw [Int.one_mul]; simp
      have hsucc : (k : Int) + 1 = ((k + 1 : Nat) : Int) := by omega
      rw [pTariffRising_L0]
      show (if (k : Int) < (M.length : Int) then _ else _) = _
      rw [if_pos (by omega)]
      show ((idx M (k : Int)).bind _) = _
      rw [idx_at hget, Option.bind_some, gd_pos (fI (by omega)), (In_ev (n := M[k])).some_of (by omega), Option.bind_some, if_pos rfl]
      by_cases hk0 : 0 < k
      · have hkp : k - 1 < M.length := by omega
        have hlt : M[k - 1] < M[k] := (List.pairwise_iff_getElem.1 h.inc.1) (k - 1) k hkp hkm (by omega)
        rw [if_pos (by omega), Option.bind_some, gd_pos (fI (by omega)), idx_pred hk0 (List.getElem?_eq_getElem hkp), Option.bind_some, if_neg (by omega), Option.bind_some, hw, wu (show w ≤ 64 by omega), Int.toNat_natCast, hpw, Int.toNat_natCast, Int.toNat_natCast,
          gd_pos (by omega), gd_pos (by omega), gd_pos (by omega), gd_pos (fI (by omega)), gd_pos (by omega), gd_pos (by omega), gd_pos (fI (by omega)), gd_pos (fI (by omega)), show Nat.lor s (2 ^ w) = s ||| 2 ^ w from rfl, gd_pos (fI (by omega)), gd_pos (fI (by omega)), hsucc]
        exact hnext
      · rw [if_neg (by omega), Option.bind_some, hw, wu (show w ≤ 64 by omega), Int.toNat_natCast, hpw, Int.toNat_natCast, Int.toNat_natCast,
          gd_pos (by omega), gd_pos (by omega), gd_pos (by omega), gd_pos (fI (by omega)), gd_pos (by omega), gd_pos (by omega), gd_pos (fI (by omega)), gd_pos (fI (by omega)), show Nat.lor s (2 ^ w) = s ||| 2 ^ w from rfl, gd_pos (fI (by omega)), gd_pos (fI (by omega)), hsucc]
        exact hnext
    · have hkk : k = M.length := by omega
      subst hkk
      rw [List.take_length] at hbit
      exact rising_end hn h hb hs hbit d
theorem m_TariffRising {l : List Tf} {which crop week bits : Int} (_ : OkL l) (hw : fitsP .u8 which) (hc : fitsP .u8 crop) (hk : fitsP .u8 week) (hb : fitsP .u8 bits) : pTariffRising l which crop week bits = some true := by
  have hw := fU8 hw
  have hc := fU8 hc
  have hk := fU8 hk
  have hb := fU8 hb
  unfold pTariffRising
  refine ready_ev.pick (fun ht => ?_) fun _ => by rw [if_neg (by simp), aw, Option.bind_some]
  obtain ⟨hthin, hf⟩ := ht
  obtain ⟨hm, hv⟩ := faultN_zero.1 hf
  obtain ⟨h3, htm⟩ := not_many hm
  have hcr := crops_rng hf
  have hl0 : 0 < l.length := List.length_pos_iff.2 hv.ne
  have m1 := Int.emod_nonneg which (show (l.length : Int) ≠ 0 by omega)
  have m2 := Int.emod_lt_of_pos which (show (0 : Int) < l.length by omega)
  have m3 := Int.emod_nonneg crop (show (cropsN l : Int) ≠ 0 by omega)
  have m4 := Int.emod_lt_of_pos crop (show (0 : Int) < (cropsN l : Int) by omega)
  obtain ⟨t, t1, t2⟩ := idx_of (l := l) (i := which % (l.length : Int)) (by omega)
  have hmem := List.mem_of_getElem? t2
  have hfew := few (htm t hmem)
  have hwk : 0 < t.Weeks.length := List.length_pos_iff.2 (ne_of_head (hv.vt t hmem).wks.2.1)
  have m5 := Int.emod_nonneg week (show (t.Weeks.length : Int) ≠ 0 by omega)
  have m6 := Int.emod_lt_of_pos week (show (0 : Int) < t.Weeks.length by omega)
  have hin : InM l (which % (l.length : Int)) (crop % cropsN l) (week % (t.Weeks.length : Int)) := ⟨by omega, by omega, fun t' ht' => by rw [t2] at ht'; cases ht'; omega⟩
  obtain ⟨t', wks, r, M, q1, q2, q3, q4, q5, q6, q7⟩ := Misprints_ok hf hin
  rw [t1] at q1; cases q1
  rw [if_pos rfl, wz (fI (by omega)), wz (fI (by omega)), wz (fI (by omega)), gd_pos (by omega), gd_pos (by omega), gd_pos (fI (by omega)), rCrops_eq hv.ne, Option.bind_some, gd_pos (by omega), gd_pos (by omega), gd_pos (fI (by omega)), t1, Option.bind_some, gd_pos (by omega), gd_pos (by omega), gd_pos (fI (by omega)), Option.bind_some, q3, Option.bind_some, q4, Option.bind_some, lTariffs_eq hthin, Option.bind_some, q6, Option.bind_some, if_pos (by rfl)]
  exact rising_go q5 q7 hb _ 0 0 (Nat.zero_le _) (by show M.length - 0 < M.length + 1; omega) (by omega) fun j => by rw [Nat.zero_testBit]; rfl
end
end Go.Proofs.YtbhdgedghfibcaaGreat

namespace Go.Proofs.YtbhdgedghfibcaaGreat
open _root_.Go.Proofs.Tryz
open Go.ChangeShapes Go.WideShapes Go.ChangeAt Go.RowKit Go.Abs
set_option maxRecDepth 100000
theorem op3 : Opens prog 3 Int (fitsP .i64) := opens_int (by kernel_rfl)
theorem op4 : Opens prog 4 Bool (fun _ => True) := opens_bool (by kernel_rfl)
theorem op25 : Opens prog 25 (List Int) (fun l => l.length ≤ maxLen ∧ ∀ a0 ∈ l, fitsP .i64 a0) := opens_slice (by kernel_rfl) (by kernel_rfl) op3
theorem op39 : Opens prog 39 (List (List Int)) (fun l => l.length ≤ maxLen ∧ ∀ a0 ∈ l, a0.length ≤ maxLen ∧ ∀ a1 ∈ a0, fitsP .i64 a1) := opens_slice (by kernel_rfl) (by kernel_rfl) op25
theorem op34 : Opens prog 34 (List (List (List Int))) (fun l => l.length ≤ maxLen ∧ ∀ a0 ∈ l, a0.length ≤ maxLen ∧ ∀ a1 ∈ a0, a1.length ≤ maxLen ∧ ∀ a2 ∈ a1, fitsP .i64 a2) := opens_slice (by kernel_rfl) (by kernel_rfl) op39
theorem op36 : Opens prog 36 Tf ok_Tf := opens_struct (fs := [(3, 0), (4, 1), (3, 2), (25, 3), (25, 4), (34, 5)]) (by kernel_rfl) (by kernel_rfl) (opensFs_cons (α := Int) (ok := fitsP .i64) (k := 1) op3 (by kernel_rfl) rfl (opensFs_cons (α := Bool) (ok := (fun _ => True)) (k := 1) op4 (by kernel_rfl) rfl (opensFs_cons (α := Int) (ok := fitsP .i64) (k := 1) op3 (by kernel_rfl) rfl (opensFs_cons (α := List Int) (ok := (fun l => l.length ≤ maxLen ∧ ∀ a0 ∈ l, fitsP .i64 a0)) (k := 1) op25 (by kernel_rfl) rfl (opensFs_cons (α := List Int) (ok := (fun l => l.length ≤ maxLen ∧ ∀ a0 ∈ l, fitsP .i64 a0)) (k := 1) op25 (by kernel_rfl) rfl (opensFs_cons (α := List (List (List Int))) (ok := (fun l => l.length ≤ maxLen ∧ ∀ a0 ∈ l, a0.length ≤ maxLen ∧ ∀ a1 ∈ a0, a1.length ≤ maxLen ∧ ∀ a2 ∈ a1, fitsP .i64 a2)) (k := 1) op34 (by kernel_rfl) rfl opensFs_nil)))))) (by kernel_rfl) fun m vs h => by
  obtain ⟨a0, c0, r0, m0, h0, p0, k0, s0, ⟨a1, c1, r1, m1, h1, p1, k1, s1, ⟨a2, c2, r2, m2, h2, p2, k2, s2, ⟨a3, c3, r3, m3, h3, p3, k3, s3, ⟨a4, c4, r4, m4, h4, p4, k4, s4, ⟨a5, c5, r5, m5, h5, p5, k5, s5, rfl⟩⟩⟩⟩⟩⟩ := h
  have p0 : c0 = [.int .i64 a0] := p0; subst p0
  have p1 : c1 = [.bool a1] := p1; subst p1
  have p2 : c2 = [.int .i64 a2] := p2; subst p2
  obtain ⟨d3, rfl, p3⟩ := p3
  obtain ⟨d4, rfl, p4⟩ := p4
  obtain ⟨d5, rfl, p5⟩ := p5
  subst h5 h4 h3 h2 h1 h0
  exact ⟨⟨a0, a1, a2, a3, a4, a5⟩, ⟨_, _, _, rfl, p3, p4, p5⟩, ⟨k0, k1, k2, k3, k4, k5⟩⟩
theorem op22 : Opens prog 22 (List Tf) (fun l => l.length ≤ maxLen ∧ ∀ a0 ∈ l, ok_Tf a0) := opens_slice (by kernel_rfl) (by kernel_rfl) op36
theorem laid : laidOutB prog = true := by kernel_rfl
theorem ownNone : ownKnob prog.godebug = none := by kernel_rfl
theorem TariffRising_lifted (os : Os) (started : os.Started) (H : Type) (enc : TypeId × Value → H) :
    ReturnsInHanded {} Tryz.checked os 4 .any (Rows.tariffRisingSpec.pre6 enc Tryz.prog Tryz.f4 Rows.tariffRisingRow.domain false) (Rows.tariffRisingSpec.post enc Tryz.prog Tryz.f4 false true false false) := by
  refine returnsInHanded_of_change (C := Tryz.checked) ownNone started (by kernel_rfl) Tryz.func4
    (ChangeSpec.witness6 (enc := enc) (C := Tryz.checked) false ⟨#[], #[.slice none 0 0, .int .u8 0, .int .u8 0, .int .u8 0, .int .u8 0], []⟩ 8 (by kernel_rfl) (by kernel_rfl) (by kernel_rfl) (by kernel_rfl)) ?_
  intro W base args ds gs before hval0 hW hcnd _
  have hval : ∀ (j : Nat) t v, Tryz.f4.params[j]? = some t → args[j]? = some v → Value.okWide Tryz.prog W .any base t v := hval0
  have hW' := hW
  obtain ⟨p, q, hA0, hV, rfl, hfz, hnd⟩ := hW
  have hA : DataW.TrodAll enc Tryz.prog W 0 (fun _ => true) true Tryz.f4.params.toList args.toList ds p := hA0
  rw [Tryz.params4] at hA hval
  obtain ⟨v0, v1, v2, v3, v4, d0, d1, d2, d3, d4, p0, p1, p2, p3, p4, rfl, rfl, rfl, h0, h1, h2, h3, h4⟩ := trodAll_five hA
  obtain ⟨rfl, rfl⟩ := trodVars_none hV
  obtain ⟨a0, len0, cap0, hv0⟩ := okWide_slice Tryz.underlying22 (hval 0 22 v0 rfl rfl)
  obtain ⟨n1, hv1⟩ := okWide_int Tryz.underlying5 (hval 1 5 v1 rfl rfl)
  obtain ⟨n2, hv2⟩ := okWide_int Tryz.underlying5 (hval 2 5 v2 rfl rfl)
  obtain ⟨n3, hv3⟩ := okWide_int Tryz.underlying5 (hval 3 5 v3 rfl rfl)
  obtain ⟨n4, hv4⟩ := okWide_int Tryz.underlying5 (hval 4 5 v4 rfl rfl)
  have hlt : ∀ x ∈ p0 ++ p1 ++ p2 ++ p3 ++ p4, x.block < W.heap.size := fun x hx => by simpa using hW'.lt x (by simpa using hx)
  obtain ⟨fu0, hf0⟩ := id h0
  obtain ⟨fu1, hf1⟩ := id h1
  obtain ⟨fu2, hf2⟩ := id h2
  obtain ⟨fu3, hf3⟩ := id h3
  obtain ⟨fu4, hf4⟩ := id h4
  clear hA0 hval0
  obtain ⟨e0, m0, w0, a_0, le0, sv0, lay0, cr0, rep0, ok0⟩ := op22 H enc W true _ _ _ hf0 _ _ (Lay.nil W)
  obtain ⟨i1, hc1, _, hw1⟩ := DataW.trod_int Tryz.underlying5 hf1
  obtain ⟨i2, hc2, _, hw2⟩ := DataW.trod_int Tryz.underlying5 hf2
  obtain ⟨i3, hc3, _, hw3⟩ := DataW.trod_int Tryz.underlying5 hf3
  obtain ⟨i4, hc4, _, hw4⟩ := DataW.trod_int Tryz.underlying5 hf4
  subst hv0
  obtain ⟨c0, rfl, rep0⟩ := rep0
  have cv0 : CR e0 c0 (.slice a0 len0 cap0) := by
    cases cr0 with
    | cons h _ => exact h
  subst hv1
  have hi1 : i1 = n1 := by
    have h : [Value.int .u8 n1] = [.int .u8 i1] := hc1
    cases h; rfl
  subst hi1
  subst hv2
  have hi2 : i2 = n2 := by
    have h : [Value.int .u8 n2] = [.int .u8 i2] := hc2
    cases h; rfl
  subst hi2
  subst hv3
  have hi3 : i3 = n3 := by
    have h : [Value.int .u8 n3] = [.int .u8 i3] := hc3
    cases h; rfl
  subst hi3
  subst hv4
  have hi4 : i4 = n4 := by
    have h : [Value.int .u8 n4] = [.int .u8 i4] := hc4
    cases h; rfl
  subst hi4
  have hargs : All2 (VR e0) [.c c0, .c (.int .u8 i1), .c (.int .u8 i2), .c (.int .u8 i3), .c (.int .u8 i4)] [.slice a0 len0 cap0, .int .u8 i1, .int .u8 i2, .int .u8 i3, .int .u8 i4] := .cons cv0 (.cons rfl (.cons rfl (.cons rfl (.cons rfl .nil))))
  refine (callsIn_wide.1 (call_of fits htab (s_TariffRising (l := a_0) (which := i1) (crop := i2) (week := i3) (bits := i4) lay0.pre rep0 (m_TariffRising ok0 (wf_fits hw1) (wf_fits hw2) (wf_fits hw3) (wf_fits hw4)) (Q := fun v _ => v = .c (.bool true)) fun _ _ => rfl) lay0.hr (args' := #[.slice a0 len0 cap0, .int .u8 i1, .int .u8 i2, .int .u8 i3, .int .u8 i4]) hargs 0)).mono fun en W' hp => ?_
  obtain ⟨v, v', e', m', rfl, hst, hvr, rfl⟩ := hp
  have hv' : v' = .bool true := hvr
  subst hv'
  have hbelow := lay0.below hst
  refine ⟨_, rfl, [d0, d1, d2, d3, d4], [], p0 ++ p1 ++ p2 ++ p3 ++ p4, [], p0 ++ (p1 ++ (p2 ++ (p3 ++ p4))), [], by simpa using hW', trodAll_mk1 (shut_bool Tryz.underlying4 _),
    trodAll_mk5 (Below.trod laid (by kernel_rfl) (of_decide_eq_true (by kernel_rfl)) h0 hbelow fun x hx => hlt x (by simp [hx])) (Below.trod laid (by kernel_rfl) (of_decide_eq_true (by kernel_rfl)) h1 hbelow fun x hx => hlt x (by simp [hx])) (Below.trod laid (by kernel_rfl) (of_decide_eq_true (by kernel_rfl)) h2 hbelow fun x hx => hlt x (by simp [hx])) (Below.trod laid (by kernel_rfl) (of_decide_eq_true (by kernel_rfl)) h3 hbelow fun x hx => hlt x (by simp [hx])) (Below.trod laid (by kernel_rfl) (of_decide_eq_true (by kernel_rfl)) h4 hbelow fun x hx => hlt x (by simp [hx])), rfl, lay0.kept hst _, fun hc => by cases hc⟩
theorem TariffRising_holds : Rows.TariffRisingSaid :=
  OpenClaim.holds_of_wide 4 Tryz.f4 rfl rfl rfl rfl rfl rfl rfl ⟨rfl, rfl, rfl, rfl, rfl⟩ rfl rfl rfl rfl rfl (by kernel_rfl) Tryz.func4 (by kernel_rfl)
    (of_decide_eq_true (by kernel_rfl)) (by unfold Func.isWrapper; first | (rw [if_pos (by decide +kernel)]; kernel_rfl) | (rw [if_neg (by decide +kernel)]; exact ⟨rfl, rfl⟩))
    (fun os started H enc _ => TariffRising_lifted os started H enc)
end Go.Proofs.YtbhdgedghfibcaaGreat

