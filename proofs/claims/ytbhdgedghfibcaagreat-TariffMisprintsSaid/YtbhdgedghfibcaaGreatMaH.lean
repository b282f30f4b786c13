/- TariffMisprints, for all that it can be called with, returns true. Condition: none. -/
import Derived.Test.YtbhdgedghfibcaaGreatMaG
import GoSem.Step
import GoSem.ClaimKeys
import Derived.DeepKeys2
import Derived.RangeFuncLeaves
import Derived.OrdersIn
import Derived.Laws.World
import Derived.Laws.Sem
import Derived.RangeFuncRecord
import Derived.Laws.CopyRow
import Derived.Laws.Append
import Derived.Laws.Rows
import Derived.Laws.Slices
import Derived.Laws.Entries
import Derived.ChangeKeysEq
import Derived.IntWalk
import Derived.DeepKeys
import Derived.DeepKeys3
import Derived.Laws.StructEq
import Derived.MapKept
import Derived.Laws.AppendOwn
import Derived.ChangeArms
import Derived.ChangeOld
import Derived.Carry
import Derived.ChangeShapes
import Derived.KernelRfl
import Derived.ProofKit
import Derived.Test.YtbhdgedghfibcaaGreatRows

namespace Go.Proofs.YtbhdgedghfibcaaGreat
open _root_.Go.Proofs.Tryz
open Go.Abs
set_option maxRecDepth 100000
noncomputable section
theorem wu {n : Nat} (h : n ≤ 64) : wrapZ .u64 (n : Int) = (n : Int) := wz (fU (by omega))
theorem rBits_go {b : Nat} (hb : b < 65536) : ∀ (d p : Nat) (acc : List Int), p ≤ 16 → 16 - p < d → acc = bitsF b p → prBits_L0 (b : Int) d acc (p : Int) = some (bitsL b)
  | 0, _, _, _, h, _ => by omega
  | d + 1, p, acc, hp, h, ha => by
    have hle : b / 2 ^ p ≤ b := Nat.div_le_self _ _
    rw [prBits_L0, wu (show p ≤ 64 by omega)]
    have hq : (b : Int) / 2 ^ ((p : Int)).toNat = ((b / 2 ^ p : Nat) : Int) := by rw [Int.toNat_natCast]; simp
    rw [hq]
    clear hq
    have hl := lenF (b := b) p
    have hbit : b.testBit p = decide (b / 2 ^ p % 2 = 1) := Nat.testBit_eq_decide_div_mod_eq ..
    have h16 : p = 16 → b / 2 ^ p = 0 := fun he => by subst he; exact Nat.div_eq_of_lt (by omega)
    have h0' : b / 2 ^ p = 0 → bitsF b p = bitsL b := fun h9 => by
      have := bitsF_more (b := b) (p := p) (fun q hq => bit_zero h9 hq) (16 - p)
      rw [show p + (16 - p) = 16 by omega] at this
      exact this.symm
    generalize b / 2 ^ p = q at hle hbit h16 h0' ⊢
    rw [gd_pos (by omega), gd_pos (by omega), gd_pos (by omega), gd_pos (fI (by omega))]
    by_cases h0 : 0 < q
    · have hp16 : p < 16 := by
        rcases Nat.lt_or_ge p 16 with h1 | h1
        · exact h1
        · have := h16 (by omega); omega
      rw [if_pos (by omega), gd_pos (by omega), gd_pos (by omega), gd_pos (by omega), gd_pos (fI (by omega)), gd_pos (by omega), gd_pos (by omega), gd_pos (fI (by omega))]
      by_cases h1 : q % 2 = 1
      · rw [if_pos (by omega), gd_pos (show acc.length < 1048576 by rw [ha]; omega), gd_pos (fI (by omega)), show (p : Int) + 1 = ((p + 1 : Nat) : Int) by omega]
        refine rBits_go hb d (p + 1) _ (by omega) (by omega) ?_
        show _ = bitsF b p ++ (if b.testBit p then [(p : Int)] else [])
        rw [ha, hbit, h1]; rfl
      · rw [if_neg (by omega), gd_pos (fI (by omega)), show (p : Int) + 1 = ((p + 1 : Nat) : Int) by omega]
        refine rBits_go hb d (p + 1) _ (by omega) (by omega) ?_
        show _ = bitsF b p ++ (if b.testBit p then [(p : Int)] else [])
        rw [ha, hbit, decide_eq_false h1]; simp
    · rw [if_neg (by omega), ha]
      exact congrArg some (h0' (by omega))
theorem rBits_eq {b : Nat} (hb : b < 65536) : prBits (b : Int) = some (bitsL b) := rBits_go hb 1000000 0 [] (Nat.zero_le _) (by omega) rfl
theorem rBefore_go {a b : List Int} (hl : a.length ≤ 1000) : ∀ (d k : Nat), k ≤ a.length → a.length - k < d → prBefore_L0 a b d (k : Int) = some (bef (a.drop k) (b.drop k))
  | 0, _, _, h => by omega
  | d + 1, k, hk, h => by
    rw [prBefore_L0]
    by_cases hka : k < a.length
    · rw [if_pos (by omega)]
      have da := List.drop_eq_getElem_cons hka
      have ga := List.getElem?_eq_getElem hka
      by_cases hkb : k < b.length
      · have db := List.drop_eq_getElem_cons hkb
        have gb := List.getElem?_eq_getElem hkb
        rw [if_pos (by omega), idx_at ga, Option.bind_some, idx_at gb, Option.bind_some, da, db]
        unfold bef
        by_cases he : a[k] = b[k]
        · rw [if_pos he, if_pos he, gd_pos (fI (by omega)), show (k : Int) + 1 = ((k + 1 : Nat) : Int) by omega]
          exact rBefore_go hl d (k + 1) (by omega) (by omega)
        · rw [if_neg he, if_neg he, Option.bind_some, Option.bind_some]
      · rw [if_neg (by omega), da, List.drop_eq_nil_of_le (show b.length ≤ k by omega), decide_eq_false (by omega)]; rfl
    · rw [if_neg (by omega), List.drop_eq_nil_of_le (show a.length ≤ k by omega)]
      by_cases hkb : k < b.length
      · rw [List.drop_eq_getElem_cons hkb, decide_eq_true (by omega)]; rfl
      · rw [List.drop_eq_nil_of_le (show b.length ≤ k by omega), decide_eq_false (by omega)]; rfl
theorem rBefore_eq {a b : List Int} (hl : a.length ≤ 1000) : prBefore a b = some (bef a b) := rBefore_go hl (a.length + 1) 0 (Nat.zero_le _) (by omega)
theorem rShorter_eq {a b : List Int} (hl : a.length ≤ 1000) : prShorter a b = some (shB a b) := by
  unfold prShorter shB
  by_cases h1 : a.length < b.length
  · rw [if_pos (by omega), decide_eq_true h1]; rfl
  · rw [if_neg (by omega), decide_eq_false h1]
    by_cases h2 : a.length = b.length
    · rw [if_pos (by omega), rBefore_eq hl, decide_eq_true h2]; simp
    · rw [if_neg (by omega), decide_eq_false h2]; simp
theorem rSame_self {a : List Int} (hl : a.length ≤ 1000) : prSame a a = some true := by
  unfold prSame
  rw [if_pos rfl, rBefore_eq hl, Option.bind_some, bef_irr, if_neg (by simp), Option.bind_some]; rfl
structure MinR (r M : List Int) : Prop where
  inc : Inc r.length 0 M
  rs : RS r (inD M)
  min : ∀ D, Inc r.length 0 D → RS r (inD D) → D = M ∨ shB M D = true
theorem MinR.uniq {r M M' : List Int} (h : MinR r M) (h' : MinR r M') : M = M' := by
  rcases h.min M' h'.inc h'.rs with h1 | h1
  · exact h1.symm
  · rcases h'.min M h.inc h.rs with h2 | h2
    · exact h2
    · rw [shB_asym h1] at h2; cases h2
def allI (n : Nat) : List Int := (List.range n).map fun j => ((j : Nat) : Int)
theorem all_inc (n : Nat) : Inc n 0 (allI n) := by
  refine ⟨?_, fun v hv => ?_⟩
  · unfold allI
    rw [List.pairwise_map]
    exact List.pairwise_lt_range.imp fun h => by omega
  · obtain ⟨j, hj, rfl⟩ := List.mem_map.1 hv
    have := List.mem_range.1 hj
    omega
theorem all_in {n j : Nat} (h : j < n) : inD (allI n) j = true := decide_eq_true (List.mem_map.2 ⟨j, List.mem_range.2 h, rfl⟩)
theorem all_rs (r : List Int) : RS r (inD (allI r.length)) := fun i k hik hk hi _ => by
  rw [all_in (show i < r.length by omega)] at hi; cases hi
theorem RS.congr {r : List Int} {S S' : Nat → Bool} (h : ∀ j, j < r.length → S j = S' j) : RS r S ↔ RS r S' :=
  ⟨fun f i k hik hk hi hk' => f i k hik hk (by rw [h i (by omega)]; exact hi) (by rw [h k hk]; exact hk'), fun f i k hik hk hi hk' => f i k hik hk (by rw [← h i (by omega)]; exact hi) (by rw [← h k hk]; exact hk')⟩
theorem misprints_eq {r : List Int} (hn : r.length ≤ 5) (hr : ∀ x ∈ r, 0 ≤ x) : ∃ M, pmisprints r = some M ∧ MinR r M := by
  have ht : ∀ D, Inc r.length 0 D → ((pcanBe r D).getD false = true ↔ RS r (inD D)) := fun D hD => by
    obtain ⟨b, h1, h2⟩ := canBe_ev hn hr hD
    rw [h1]; exact h2
  obtain ⟨s1, s2, s3⟩ := shortL_spec (n := r.length) (t := fun L => (pcanBe r L).getD false) ⟨allI r.length, all_inc _, (ht _ (all_inc _)).2 (all_rs r)⟩
  refine ⟨shortL r.length fun L => (pcanBe r L).getD false, ?_, s1, (ht _ s1).1 s2, fun D hD hD2 => s3 D hD ((ht D hD).2 hD2)⟩
  unfold pmisprints pshortest
  rw [gd_pos ⟨by omega, by omega, fun L hL => by
    obtain ⟨b, h1, _⟩ := canBe_ev hn hr (mem_allL.1 hL)
    show (pcanBe r L).isSome = true
    rw [h1]; rfl⟩, Option.bind_some, Int.toNat_natCast]
theorem bitS {b j : Nat} : clearN (b : Int) j ↔ b.testBit j = false := by
  rw [← bitI_eq]
  unfold clearN bitI
  simp
theorem rRiseB {r : List Int} (hn : r.length ≤ 5) {b : Nat} (hb : b < 65536) : Ev (prRise r (b : Int)) (RS r fun j => b.testBit j) :=
  (rRise_ev (by omega) (by omega)).imp ⟨fun h i k hik hk hi hk' => h i k hik hk (bitS.2 hi) (bitS.2 hk'), fun h i k hik hk hi hk' => h i k hik hk (bitS.1 hi) (bitS.1 hk')⟩
theorem rs_bits {r : List Int} (hn : r.length ≤ 5) {b : Nat} : RS r (inD (bitsL b)) ↔ RS r fun j => b.testBit j := RS.congr fun j hj => inD_bits (n := r.length) (by omega) hj
theorem pow5 {n : Nat} (hn : n ≤ 5) : 2 ^ n ≤ 32 ∧ 1 ≤ 2 ^ n := ⟨Nat.pow_le_pow_right (n := 2) (by omega) hn, Nat.one_le_two_pow⟩
theorem one_shl {n : Nat} (hn : n ≤ 5) : (1 : Int) * (2 : Int) ^ n = ((2 ^ n : Nat) : Int) := by rw [Int.one_mul]; simp
theorem len_bits {b : Nat} : (bitsL b).length ≤ 16 := lenF 16
theorem rMis_go {r : List Int} (hn : r.length ≤ 5) : ∀ (d x : Nat) (best : List Int), x ≤ 2 ^ r.length → 2 ^ r.length - x < d → Inc r.length 0 best → RS r (inD best) → (∀ b, b < x → (RS r fun j => b.testBit j) → bitsL b = best ∨ shB best (bitsL b) = true) →
    ∃ M, prMisprints_L0 r d best (x : Int) = some M ∧ MinR r M
  | 0, _, _, _, h, _, _, _ => by omega
  | d + 1, x, best, hx, h, h1, h2, h3 => by
    have hp := pow5 hn
    rw [prMisprints_L0, wu (show r.length ≤ 64 by omega), Int.toNat_natCast, one_shl hn, gd_pos (by omega), gd_pos (by omega), gd_pos (by omega), gd_pos (fI (by omega))]
    by_cases hxe : x = 2 ^ r.length
    · subst hxe
      rw [if_neg (Int.lt_irrefl _)]
      refine ⟨best, rfl, h1, h2, fun D hD hD2 => ?_⟩
      obtain ⟨b, hb, rfl⟩ := inc_bits (n := r.length) (by omega) hD
      exact h3 b hb ((rs_bits hn).1 hD2)
    · have hl := len_bits (b := x)
      rw [if_pos (by omega), rBits_eq (by omega), Option.bind_some, rShorter_eq (by omega), Option.bind_some]
      have hi : Inc r.length 0 (bitsL x) := bits_inc (by omega) (by omega)
      have hnext : (x : Int) + 1 = ((x + 1 : Nat) : Int) := by omega
      cases hs : shB (bitsL x) best with
      | true =>
        rw [if_pos rfl]
        obtain ⟨c, hc1, hc2⟩ := rRiseB (r := r) hn (b := x) (by omega)
        rw [hc1, Option.bind_some]
        cases c with
        | true =>
          rw [if_pos rfl, gd_pos (fI (by omega)), hnext]
          refine rMis_go hn d (x + 1) _ (by omega) (by omega) hi ((rs_bits hn).2 (hc2.1 rfl)) fun b hb hbr => ?_
          rcases Nat.lt_or_ge b x with h4 | h4
          · rcases h3 b h4 hbr with h5 | h5
            · rw [h5]; exact .inr hs
            · exact .inr (shB_trans hs h5)
          · rw [show b = x by omega]; exact .inl rfl
        | false =>
          rw [if_neg (by simp), gd_pos (fI (by omega)), hnext]
          refine rMis_go hn d (x + 1) _ (by omega) (by omega) h1 h2 fun b hb hbr => ?_
          rcases Nat.lt_or_ge b x with h4 | h4
          · exact h3 b h4 hbr
          · have : b = x := by omega
            subst this
            have := hc2.2 hbr; cases this
      | false =>
        rw [if_neg (by simp), gd_pos (fI (by omega)), hnext]
        refine rMis_go hn d (x + 1) _ (by omega) (by omega) h1 h2 fun b hb hbr => ?_
        rcases Nat.lt_or_ge b x with h4 | h4
        · exact h3 b h4 hbr
        · have : b = x := by omega
          subst this
          rcases shB_total (bitsL b) best with h5 | h5 | h5
          · exact .inl h5
          · rw [hs] at h5; cases h5
          · exact .inr h5
theorem rMisprints_eq {r : List Int} (hn : r.length ≤ 5) : ∃ M, prMisprints r = some M ∧ MinR r M := by
  have hp := pow5 hn
  have hall : RS r (inD (bitsL (2 ^ r.length - 1))) := (rs_bits hn).2 fun i k hik hk hi _ => by
    have hi : (2 ^ r.length - 1).testBit i = false := hi
    rw [Nat.testBit_two_pow_sub_one, decide_eq_true (show i < r.length by omega)] at hi; cases hi
  obtain ⟨M, h1, h2⟩ := rMis_go hn (2 ^ r.length + 1) 0 (bitsL (2 ^ r.length - 1)) (Nat.zero_le _) (by omega) (bits_inc (by omega) (by omega)) hall fun b hb => by omega
  refine ⟨M, ?_, h2⟩
  unfold prMisprints
  rw [wu (show r.length ≤ 64 by omega), Int.toNat_natCast, one_shl hn, gd_pos (by omega), gd_pos (by omega), gd_pos (by omega), gd_pos (fI (by omega)), gd_pos (fI (by omega)), show ((2 ^ r.length : Nat) : Int) - 1 = ((2 ^ r.length - 1 : Nat) : Int) by omega, rBits_eq (by omega), Option.bind_some, Int.toNat_natCast]
  exact h1
/-- the rates with these numbers -/
theorem at_rates {l : List Tf} (hf : faultN l = 0) {which crop week : Int} (hw : 0 ≤ which ∧ which < l.length) (hc : 0 ≤ crop ∧ crop < cropsN l) {t : Tf} (ht : l[which.toNat]? = some t) (hk : 0 ≤ week ∧ week < t.Weeks.length) :
    ∃ wks r, idx t.Rates crop = some wks ∧ idx wks week = some r ∧ r.length ≤ 5 ∧ ∀ x ∈ r, 0 ≤ x := by
  obtain ⟨hm, hv⟩ := faultN_zero.1 hf
  have hmem := List.mem_of_getElem? ht
  have hfew := few ((not_many hm).2 t hmem)
  have hT := hv.vt t hmem
  have hcr := hv.crp t hmem
  have h1 : crop.toNat < t.Rates.length := by omega
  obtain ⟨q1, q2⟩ := hT.rts _ (List.getElem_mem h1)
  have h2 : week.toNat < t.Rates[crop.toNat].length := by omega
  obtain ⟨q3, q4⟩ := q2 _ (List.getElem_mem h2)
  exact ⟨_, _, idx_get (by omega) h1, idx_get (by omega) h2, by omega, fun x hx => (q4 x hx).1⟩
theorem idx_of {α : Type} {l : List α} {i : Int} (h : 0 ≤ i ∧ i < l.length) : ∃ t, idx l i = some t ∧ l[i.toNat]? = some t := ⟨_, idx_get (by omega) (show i.toNat < l.length by omega), List.getElem?_eq_getElem _⟩
def InM (l : List Tf) (which crop week : Int) : Prop := (0 ≤ which ∧ which < l.length) ∧ (0 ≤ crop ∧ crop < cropsN l) ∧ ∀ t, l[which.toNat]? = some t → 0 ≤ week ∧ week < t.Weeks.length
theorem hasRates_ev {l : List Tf} (hf : faultN l = 0) {which crop week : Int} : Ev (phasRates l which crop week) (InM l which crop week) := by
  have hl := (not_many (faultN_zero.1 hf).1)
  refine Ev.imp (P := (0 ≤ which ∧ which < l.length) ∧ (0 ≤ crop ∧ crop < cropsN l) ∧ ∀ t, l[which.toNat]? = some t → 0 ≤ week ∧ week < t.Weeks.length) (Ev.and (isIndex_ev (by omega)) fun hw => Ev.and (hasCrop_ev hf) fun _ => ?_) Iff.rfl
  obtain ⟨t, h1, h2⟩ := idx_of hw
  have hfew := few (hl.2 t (List.mem_of_getElem? h2))
  exact Ev.bind h1 ((isIndex_ev (by omega)).ret.imp ⟨fun h t' ht' => by rw [h2] at ht'; cases ht'; exact h, fun h => h t h2⟩)
theorem Misprints_bad {l : List Tf} (hf : faultN l ≠ 0) {a b c : Int} : pMisprints l a b c = some ([], faultN l) := by unfold pMisprints; rw [open_bad hf, Option.bind_some, if_neg hf]
theorem Misprints_out {l : List Tf} (hf : faultN l = 0) {a b c : Int} (h : ¬ InM l a b c) : pMisprints l a b c = some ([], 2) := by
  unfold pMisprints; rw [open_ok hf, Option.bind_some, if_pos rfl, (hasRates_ev hf).some_not h, Option.bind_some, if_neg (by simp)]
theorem Misprints_ok {l : List Tf} (hf : faultN l = 0) {a b c : Int} (h : InM l a b c) : ∃ t wks r M, idx l a = some t ∧ l[a.toNat]? = some t ∧ idx t.Rates b = some wks ∧ idx wks c = some r ∧ r.length ≤ 5 ∧ pMisprints l a b c = some (M, 0) ∧ MinR r M := by
  obtain ⟨t, h1, h2⟩ := idx_of h.1
  obtain ⟨wks, r, h3, h4, h5, h6⟩ := at_rates hf h.1 h.2.1 h2 (h.2.2 t h2)
  obtain ⟨M, h7, h8⟩ := misprints_eq h5 h6
  refine ⟨t, wks, r, M, h1, h2, h3, h4, h5, ?_, h8⟩
  unfold pMisprints
  rw [open_ok hf, Option.bind_some, if_pos rfl, (hasRates_ev hf).some_of h, Option.bind_some, if_pos rfl, h1, Option.bind_some, h3, Option.bind_some, h4, Option.bind_some, h7, Option.bind_some]
theorem m_TariffMisprints {l : List Tf} {which crop week : Int} (_ : OkL l) (_ : fitsP .i64 which) (_ : fitsP .i64 crop) (_ : fitsP .i64 week) : pTariffMisprints l which crop week = some true := by
  unfold pTariffMisprints
  refine thin_ev.pick (fun ht => ?_) fun _ => by rw [if_neg (by simp), aw, Option.bind_some]
  rw [if_pos rfl, lTariffs_eq ht, Option.bind_some]
  by_cases hf : faultN l = 0
  · obtain ⟨hm, hv⟩ := faultN_zero.1 hf
    obtain ⟨h3, htm⟩ := not_many hm
    have hcr := crops_rng hf
    by_cases h : InM l which crop week
    · obtain ⟨t, wks, r, M, h1, h2, h5, h6, h7, h8, h9⟩ := Misprints_ok hf h
      obtain ⟨M', h10, h11⟩ := rMisprints_eq h7
      have hM := h9.uniq h11
      subst hM
      have hk := h.2.2 t h2
      have hfew := few (htm t (List.mem_of_getElem? h2))
      have hlen := inc_len h9.inc
      rw [h8, Option.bind_some, lFault_eq, Option.bind_some, if_pos hf, gd_pos (fI (by omega)), (In_ev (n := which)).some_of (by have := h.1; omega), Option.bind_some, if_pos rfl, rCrops_eq hv.ne, Option.bind_some, gd_pos (fI (by omega)), (In_ev (n := crop)).some_of (by have := h.2.1; omega), Option.bind_some, if_pos rfl, h1, Option.bind_some, gd_pos (fI (by omega)), (In_ev (n := week)).some_of (by omega), Option.bind_some, if_pos rfl, if_pos rfl, Option.bind_some, h5, Option.bind_some, h6, Option.bind_some, h10, Option.bind_some, rSame_self (show M.length ≤ 1000 by omega), Option.bind_some, if_pos rfl, aw, Option.bind_some]
    · rw [Misprints_out hf h, Option.bind_some, lFault_eq, Option.bind_some, if_pos hf, gd_pos (fI (by omega))]
      refine In_ev.pick (fun a1 => ?_) fun _ => by rw [if_neg (by simp), if_pos rfl, if_pos (by rfl), aw, Option.bind_some]
      have hw : 0 ≤ which ∧ which < l.length := by omega
      obtain ⟨t, h1, h2⟩ := idx_of hw
      have hfew := few (htm t (List.mem_of_getElem? h2))
      rw [if_pos rfl, rCrops_eq hv.ne, Option.bind_some, gd_pos (fI (by omega))]
      refine In_ev.pick (fun a2 => ?_) fun _ => by rw [if_neg (by simp), if_pos rfl, if_pos (by rfl), aw, Option.bind_some]
      rw [if_pos rfl, h1, Option.bind_some, gd_pos (fI (by omega))]
      refine In_ev.pick (fun a3 => absurd ⟨hw, by omega, fun t' ht' => ?_⟩ h) fun _ => by rw [if_neg (by simp), if_pos rfl, if_pos (by rfl), aw, Option.bind_some]
      rw [h2] at ht'; cases ht'; omega
  · rw [Misprints_bad hf, Option.bind_some, lFault_eq, Option.bind_some, if_neg hf, if_pos rfl, if_pos (by rfl), aw, Option.bind_some]
end
end Go.Proofs.YtbhdgedghfibcaaGreat

namespace Go.Proofs.YtbhdgedghfibcaaGreat
open _root_.Go.Proofs.Tryz
open Go.ChangeShapes Go.WideShapes Go.ChangeAt Go.RowKit Go.Abs
set_option maxRecDepth 100000
theorem op3 : Opens prog 3 Int (fitsP .i64) := opens_int (by kernel_rfl)
theorem op4 : Opens prog 4 Bool (fun _ => True) := opens_bool (by kernel_rfl)
theorem op25 : Opens prog 25 (List Int) (fun l => l.length ≤ maxLen ∧ ∀ a0 ∈ l, fitsP .i64 a0) := opens_slice (by kernel_rfl) (by kernel_rfl) op3
theorem op39 : Opens prog 39 (List (List Int)) (fun l => l.length ≤ maxLen ∧ ∀ a0 ∈ l, a0.length ≤ maxLen ∧ ∀ a1 ∈ a0, fitsP .i64 a1) := opens_slice (by kernel_rfl) (by kernel_rfl) op25
theorem op34 : Opens prog 34 (List (List (List Int))) (fun l => l.length ≤ maxLen ∧ ∀ a0 ∈ l, a0.length ≤ maxLen ∧ ∀ a1 ∈ a0, a1.length ≤ maxLen ∧ ∀ a2 ∈ a1, fitsP .i64 a2) := opens_slice (by kernel_rfl) (by kernel_rfl) op39
theorem op36 : Opens prog 36 Tf ok_Tf := opens_struct (fs := [(3, 0), (4, 1), (3, 2), (25, 3), (25, 4), (34, 5)]) (by kernel_rfl) (by kernel_rfl) (opensFs_cons (α := Int) (ok := fitsP .i64) (k := 1) op3 (by kernel_rfl) rfl (opensFs_cons (α := Bool) (ok := (fun _ => True)) (k := 1) op4 (by kernel_rfl) rfl (opensFs_cons (α := Int) (ok := fitsP .i64) (k := 1) op3 (by kernel_rfl) rfl (opensFs_cons (α := List Int) (ok := (fun l => l.length ≤ maxLen ∧ ∀ a0 ∈ l, fitsP .i64 a0)) (k := 1) op25 (by kernel_rfl) rfl (opensFs_cons (α := List Int) (ok := (fun l => l.length ≤ maxLen ∧ ∀ a0 ∈ l, fitsP .i64 a0)) (k := 1) op25 (by kernel_rfl) rfl (opensFs_cons (α := List (List (List Int))) (ok := (fun l => l.length ≤ maxLen ∧ ∀ a0 ∈ l, a0.length ≤ maxLen ∧ ∀ a1 ∈ a0, a1.length ≤ maxLen ∧ ∀ a2 ∈ a1, fitsP .i64 a2)) (k := 1) op34 (by kernel_rfl) rfl opensFs_nil)))))) (by kernel_rfl) fun m vs h => by
  obtain ⟨a0, c0, r0, m0, h0, p0, k0, s0, ⟨a1, c1, r1, m1, h1, p1, k1, s1, ⟨a2, c2, r2, m2, h2, p2, k2, s2, ⟨a3, c3, r3, m3, h3, p3, k3, s3, ⟨a4, c4, r4, m4, h4, p4, k4, s4, ⟨a5, c5, r5, m5, h5, p5, k5, s5, rfl⟩⟩⟩⟩⟩⟩ := h
  have p0 : c0 = [.int .i64 a0] := p0; subst p0
  have p1 : c1 = [.bool a1] := p1; subst p1
  have p2 : c2 = [.int .i64 a2] := p2; subst p2
  obtain ⟨d3, rfl, p3⟩ := p3
  obtain ⟨d4, rfl, p4⟩ := p4
  obtain ⟨d5, rfl, p5⟩ := p5
  subst h5 h4 h3 h2 h1 h0
  exact ⟨⟨a0, a1, a2, a3, a4, a5⟩, ⟨_, _, _, rfl, p3, p4, p5⟩, ⟨k0, k1, k2, k3, k4, k5⟩⟩
theorem op22 : Opens prog 22 (List Tf) (fun l => l.length ≤ maxLen ∧ ∀ a0 ∈ l, ok_Tf a0) := opens_slice (by kernel_rfl) (by kernel_rfl) op36
theorem laid : laidOutB prog = true := by kernel_rfl
theorem ownNone : ownKnob prog.godebug = none := by kernel_rfl
theorem TariffMisprints_lifted (os : Os) (started : os.Started) (H : Type) (enc : TypeId × Value → H) :
    ReturnsInHanded {} Tryz.checked os 3 .any (Rows.tariffMisprintsSpec.pre6 enc Tryz.prog Tryz.f3 Rows.tariffMisprintsRow.domain false) (Rows.tariffMisprintsSpec.post enc Tryz.prog Tryz.f3 false true false false) := by
  refine returnsInHanded_of_change (C := Tryz.checked) ownNone started (by kernel_rfl) Tryz.func3
    (ChangeSpec.witness6 (enc := enc) (C := Tryz.checked) false ⟨#[], #[.slice none 0 0, .int .i64 0, .int .i64 0, .int .i64 0], []⟩ 8 (by kernel_rfl) (by kernel_rfl) (by kernel_rfl) (by kernel_rfl)) ?_
  intro W base args ds gs before hval0 hW hcnd _
  have hval : ∀ (j : Nat) t v, Tryz.f3.params[j]? = some t → args[j]? = some v → Value.okWide Tryz.prog W .any base t v := hval0
  have hW' := hW
  obtain ⟨p, q, hA0, hV, rfl, hfz, hnd⟩ := hW
  have hA : DataW.TrodAll enc Tryz.prog W 0 (fun _ => true) true Tryz.f3.params.toList args.toList ds p := hA0
  rw [Tryz.params3] at hA hval
  obtain ⟨v0, v1, v2, v3, d0, d1, d2, d3, p0, p1, p2, p3, rfl, rfl, rfl, h0, h1, h2, h3⟩ := trodAll_four hA
  obtain ⟨rfl, rfl⟩ := trodVars_none hV
  obtain ⟨a0, len0, cap0, hv0⟩ := okWide_slice Tryz.underlying22 (hval 0 22 v0 rfl rfl)
  obtain ⟨n1, hv1⟩ := okWide_int Tryz.underlying3 (hval 1 3 v1 rfl rfl)
  obtain ⟨n2, hv2⟩ := okWide_int Tryz.underlying3 (hval 2 3 v2 rfl rfl)
  obtain ⟨n3, hv3⟩ := okWide_int Tryz.underlying3 (hval 3 3 v3 rfl rfl)
  have hlt : ∀ x ∈ p0 ++ p1 ++ p2 ++ p3, x.block < W.heap.size := fun x hx => by simpa using hW'.lt x (by simpa using hx)
  obtain ⟨fu0, hf0⟩ := id h0
  obtain ⟨fu1, hf1⟩ := id h1
  obtain ⟨fu2, hf2⟩ := id h2
  obtain ⟨fu3, hf3⟩ := id h3
  clear hA0 hval0
  obtain ⟨e0, m0, w0, a_0, le0, sv0, lay0, cr0, rep0, ok0⟩ := op22 H enc W true _ _ _ hf0 _ _ (Lay.nil W)
  obtain ⟨e1, m1, w1, a_1, le1, sv1, lay1, cr1, rep1, ok1⟩ := op3 H enc W true _ _ _ hf1 e0 m0 lay0
  obtain ⟨e2, m2, w2, a_2, le2, sv2, lay2, cr2, rep2, ok2⟩ := op3 H enc W true _ _ _ hf2 e1 m1 lay1
  obtain ⟨e3, m3, w3, a_3, le3, sv3, lay3, cr3, rep3, ok3⟩ := op3 H enc W true _ _ _ hf3 e2 m2 lay2
  subst hv0
  obtain ⟨c0, rfl, rep0⟩ := rep0
  have cv0 : CR e3 c0 (.slice a0 len0 cap0) := by
    cases cr0 with
    | cons h _ => exact CR.mono ((le1.trans le2).trans le3) h
  have rep1 : w1 = [.int .i64 a_1] := rep1
  subst rep1 hv1
  have ha1 : n1 = a_1 := by
    cases cr1 with
    | cons h _ => have h : Value.int .i64 n1 = .int .i64 a_1 := h; cases h; rfl
  subst ha1
  have rep2 : w2 = [.int .i64 a_2] := rep2
  subst rep2 hv2
  have ha2 : n2 = a_2 := by
    cases cr2 with
    | cons h _ => have h : Value.int .i64 n2 = .int .i64 a_2 := h; cases h; rfl
  subst ha2
  have rep3 : w3 = [.int .i64 a_3] := rep3
  subst rep3 hv3
  have ha3 : n3 = a_3 := by
    cases cr3 with
    | cons h _ => have h : Value.int .i64 n3 = .int .i64 a_3 := h; cases h; rfl
  subst ha3
  have hargs : All2 (VR e3) [.c c0, .c (.int .i64 n1), .c (.int .i64 n2), .c (.int .i64 n3)] [.slice a0 len0 cap0, .int .i64 n1, .int .i64 n2, .int .i64 n3] := .cons cv0 (.cons rfl (.cons rfl (.cons rfl .nil)))
  refine (callsIn_wide.1 (call_of fits htab (s_TariffMisprints (l := a_0) (which := n1) (crop := n2) (week := n3) lay3.pre (((rep0.subv sv1).subv sv2).subv sv3) (m_TariffMisprints ok0 ok1 ok2 ok3) (Q := fun v _ => v = .c (.bool true)) fun _ _ => rfl) lay3.hr (args' := #[.slice a0 len0 cap0, .int .i64 n1, .int .i64 n2, .int .i64 n3]) hargs 0)).mono fun en W' hp => ?_
  obtain ⟨v, v', e', m', rfl, hst, hvr, rfl⟩ := hp
  have hv' : v' = .bool true := hvr
  subst hv'
  have hbelow := lay3.below hst
  refine ⟨_, rfl, [d0, d1, d2, d3], [], p0 ++ p1 ++ p2 ++ p3, [], p0 ++ (p1 ++ (p2 ++ p3)), [], by simpa using hW', trodAll_mk1 (shut_bool Tryz.underlying4 _),
    trodAll_mk4 (Below.trod laid (by kernel_rfl) (of_decide_eq_true (by kernel_rfl)) h0 hbelow fun x hx => hlt x (by simp [hx])) (Below.trod laid (by kernel_rfl) (of_decide_eq_true (by kernel_rfl)) h1 hbelow fun x hx => hlt x (by simp [hx])) (Below.trod laid (by kernel_rfl) (of_decide_eq_true (by kernel_rfl)) h2 hbelow fun x hx => hlt x (by simp [hx])) (Below.trod laid (by kernel_rfl) (of_decide_eq_true (by kernel_rfl)) h3 hbelow fun x hx => hlt x (by simp [hx])), rfl, lay3.kept hst _, fun hc => by cases hc⟩
theorem TariffMisprints_holds : Rows.TariffMisprintsSaid :=
  OpenClaim.holds_of_wide 3 Tryz.f3 rfl rfl rfl rfl rfl rfl rfl ⟨rfl, rfl, rfl, rfl, rfl⟩ rfl rfl rfl rfl rfl (by kernel_rfl) Tryz.func3 (by kernel_rfl)
    (of_decide_eq_true (by kernel_rfl)) (by unfold Func.isWrapper; first | (rw [if_pos (by decide +kernel)]; kernel_rfl) | (rw [if_neg (by decide +kernel)]; exact ⟨rfl, rfl⟩))
    (fun os started H enc _ => TariffMisprints_lifted os started H enc)
end Go.Proofs.YtbhdgedghfibcaaGreat

