/- What functions of the program ask and do. Condition: none; a lemma text of this claim. -/
import Derived.Test.YtgkjfhkjgdiodaaTxB
namespace Go.Proofs.Ytgkjfhkjgdiodaa
open _root_.Go.Proofs.Try
open Go.Abs
set_option maxRecDepth 100000
noncomputable section
theorem Chg.trans {S S1 : Nat → Prop} {T : Nat → Prop} {m m1 m2 : M} (h1 : Chg (fun b => S b ∨ T b) m m1) (h2 : Chg (fun b => S1 b ∨ T b) m1 m2) (ho : Own S m S1) : Chg (fun b => S b ∨ T b) m m2 :=
  ⟨Nat.le_trans h1.nxt h2.nxt, fun b hb hS => by
    rw [h2.g b (Nat.lt_of_lt_of_le hb h1.nxt) fun h => h.elim (fun h3 => (ho b h3).elim (fun h4 => hS (.inl h4)) fun h4 => by omega) fun h3 => hS (.inr h3)]
    exact h1.g b hb hS, h2.vw.trans h1.vw⟩
theorem Own.trans {S S1 S2 : Nat → Prop} {m m1 : M} (h1 : Own S m S1) (h2 : Own S1 m1 S2) (hn : m.nxt ≤ m1.nxt) : Own S m S2 := fun b hb => (h2 b hb).elim (h1 b) fun h => .inr (by omega)
theorem Own.refl (S : Nat → Prop) (m : M) : Own S m S := fun _ hb => .inl hb
theorem Chg.of_ext {S : Nat → Prop} {m m' : M} (e : Ext m m') : Chg S m m' := ⟨e.nxt, fun b hb _ => e.g b hb, e.vw⟩
theorem Chg.or {S T : Nat → Prop} {m m' : M} (h : Chg S m m') : Chg (fun b => S b ∨ T b) m m' := ⟨h.nxt, fun b hb hS => h.g b hb fun h2 => hS (.inl h2), h.vw⟩
def rests {α : Type} (g : Nat → List α) : Nat → Nat → List α
  | 0, _ => []
  | e + 1, n => g n ++ rests g e (n + 1)
/-- all lists of hits that go on as far as all places -/
def exts (c sm : Int) (L : List Int) (N : List Cnt) (O : List Bool) : Nat → List Int → List (List Int)
  | 0, pre => [pre]
  | d + 1, pre => rests (fun n => if fitsB c sm N (pad (pre ++ [(n : Int)])) O pre.length then exts c sm L N O d (pre ++ [(n : Int)]) else []) (L[pre.length]!.toNat + 1) 0
theorem at_take {P : List Int} (h9 : P.length = 9) {p : Nat} (hp : p < 9) {k : Int} (hk : k.toNat ≤ p) : at' (pad (P.take (p + 1))) k = at' P k := by
  have h1 : k.toNat < (P.take (p + 1)).length := by rw [List.length_take]; omega
  show (pad (P.take (p + 1)))[k.toNat]! = P[k.toNat]!
  rw [List.getElem!_eq_getElem?_getD, pad_at h1 (by rw [List.length_take]; omega), getElem!_pos P k.toNat (by omega), List.getElem_take]; rfl
theorem fits_take {c sm : Int} {N : List Cnt} {P : List Int} {O : List Bool} {p : Nat} (hc : 1 ≤ c) (h9 : P.length = 9) (hp : p < 9) : fitsB c sm N (pad (P.take (p + 1))) O p = fitsB c sm N P O p := by
  unfold fitsB jumpsB
  rw [at_take h9 hp (by omega), at_take h9 hp (by omega), at_take h9 hp (by omega)]
/-- what the closures of without read -/
structure Rd (r c sm : Int) (x y : C) (L : List Int) (N : List Cnt) (mb : Nat) (f : Spot → Option U) (O : List Bool) (b b2 : Nat) (m : M) : Prop where
  w : Bk m b 6 [.int .i64 r, .int .i64 c, x, .int .i64 sm, y, .map mb]
  o : Bk m b2 6 (bls O)
  k : Wk m L N mb f
  x : Li m x L
def Ds (x : C) (mb b b2 : Nat) (b' : Nat) : Prop := b' = b ∨ b' = b2 ∨ b' = mb ∨ ∃ o n s d, x = .sl b' o n s d
variable {r c sm : Int} {x y : C} {L : List Int} {N : List Cnt} {mb : Nat} {f : Spot → Option U} {O : List Bool} {b b2 : Nat}
theorem Rd.to {m m' : M} (h : Rd r c sm x y L N mb f O b b2 m) (hn : m.nxt ≤ m'.nxt) (hv : m'.vw = m.vw) (hg : ∀ b', Ds x mb b b2 b' → m'.g b' = m.g b') : Rd r c sm x y L N mb f O b b2 m' := by
  refine ⟨⟨(hg b (.inl rfl)).trans h.w.g, Nat.lt_of_lt_of_le h.w.lt hn⟩, ⟨(hg b2 (.inr (.inl rfl))).trans h.o.g, Nat.lt_of_lt_of_le h.o.lt hn⟩, ⟨?_, h.k.st⟩, h.x.to hn (fun b' _ hx => ?_) hv⟩
  · obtain ⟨es, clock, h1, h2⟩ := h.k.mp.ex
    exact ⟨⟨es, clock, (hg mb (.inr (.inr (.inl rfl)))).trans h1, h2⟩, Nat.lt_of_lt_of_le h.k.mp.lt hn⟩
  · obtain ⟨o, s, d, hx⟩ := hx
    exact hg b' (.inr (.inr (.inr ⟨o, _, s, d, hx⟩)))
theorem Rd.lt {m : M} (h : Rd r c sm x y L N mb f O b b2 m) {b' : Nat} (hb : Ds x mb b b2 b') : b' < m.nxt := by
  rcases hb with rfl | rfl | rfl | ⟨o, n, s, d, hx⟩
  · exact h.w.lt
  · exact h.o.lt
  · exact h.k.mp.lt
  · rcases h.x.val with ⟨hx2, _⟩ | ⟨b3, o3, s3, c3, hx2, hlt, _⟩
    · rw [hx] at hx2; cases hx2
    · rw [hx] at hx2; cases hx2; exact hlt
theorem Rd.ext {m m' : M} (h : Rd r c sm x y L N mb f O b b2 m) (e : Ext m m') : Rd r c sm x y L N mb f O b b2 m' := h.to e.nxt e.vw fun _ hb => e.g _ (h.lt hb)
def chC (b k h2 b2 cv : Nat) : C := .fn (.func 121) [] [.c (.ptr b 0), .c (.ptr k 0), .c (.ptr h2 0), .c (.ptr b2 0), .c (.ptr cv 0)]
/-- choose at work -/
structure St (r c sm : Int) (x y : C) (L : List Int) (N : List Cnt) (mb : Nat) (f : Spot → Option U) (O : List Bool) (b b2 l k h2 cv : Nat) (S : Nat → Prop) (m : M) (P : List Int) : Prop where
  rr : Rd r c sm x y L N mb f O b b2 m
  kk : Bk m k 1 [.fn (.yield l) [] []]
  hh : Bk m h2 9 (ints P)
  cc : Bk m cv 1 [chC b k h2 b2 cv]
  ss : ∀ b', S b' → b' ≠ k ∧ b' ≠ h2 ∧ b' ≠ cv ∧ ¬ Ds x mb b b2 b'
variable {l k h2 cv : Nat}
theorem St.to {S S' : Nat → Prop} {m m' : M} {P : List Int} (h : St r c sm x y L N mb f O b b2 l k h2 cv S m P) (hn : Chg S m m') (ho : Own S m S') : St r c sm x y L N mb f O b b2 l k h2 cv S' m' P := by
  have hk : ¬ S k := fun h1 => (h.ss _ h1).1 rfl
  have hh : ¬ S h2 := fun h1 => (h.ss _ h1).2.1 rfl
  have hc : ¬ S cv := fun h1 => (h.ss _ h1).2.2.1 rfl
  refine ⟨h.rr.to hn.nxt hn.vw fun b' hb => hn.g b' (h.rr.lt hb) fun h1 => (h.ss _ h1).2.2.2 hb, ⟨(hn.g k h.kk.lt hk).trans h.kk.g, Nat.lt_of_lt_of_le h.kk.lt hn.nxt⟩, ⟨(hn.g h2 h.hh.lt hh).trans h.hh.g, Nat.lt_of_lt_of_le h.hh.lt hn.nxt⟩, ⟨(hn.g cv h.cc.lt hc).trans h.cc.g, Nat.lt_of_lt_of_le h.cc.lt hn.nxt⟩, fun b' hb => ?_⟩
  rcases ho b' hb with h1 | h1
  · exact h.ss b' h1
  · refine ⟨fun h3 => ?_, fun h3 => ?_, fun h3 => ?_, fun h3 => ?_⟩
    · have := h.kk.lt; omega
    · have := h.hh.lt; omega
    · have := h.cc.lt; omega
    · have := h.rr.lt h3; omega
theorem St.set {S : Nat → Prop} {m : M} {P : List Int} (h : St r c sm x y L N mb f O b b2 l k h2 cv S m P) (hD : ¬ Ds x mb b b2 h2) (hk : k ≠ h2) (hc : cv ≠ h2) (P' : List Int) : St r c sm x y L N mb f O b b2 l k h2 cv S (m.set h2 (.cells 9 (ints P') false)) P' :=
  ⟨h.rr.to (Nat.le_refl _) rfl fun b' hb => by rw [M.g_set, if_neg fun h1 => hD (by rw [← h1]; exact hb)], h.kk.setNe hk _, h.hh.set _, h.cc.setNe hc _, h.ss⟩
end
end Go.Proofs.Ytgkjfhkjgdiodaa

namespace Go.Proofs.Ytgkjfhkjgdiodaa
open _root_.Go.Proofs.Try
open Go.Abs
set_option maxRecDepth 100000
noncomputable section
variable {r c sm : Int} {x y : C} {L : List Int} {N : List Cnt} {mb : Nat} {f : Spot → Option U} {O : List Bool} {b b2 : Nat} {l k h2 cv : Nat}
/-- hits at work -/
structure Hw (L P : List Int) : Prop where
  len : P.length = 9
  small : Small P
  rest : P.drop L.length = List.replicate (9 - L.length) 0
theorem Hw.set {P : List Int} (h : Hw L P) {p : Nat} (hp : p < L.length) {n : Int} (hn : 0 ≤ n ∧ n ≤ 9) : Hw L (P.set p n) :=
  ⟨by rw [List.length_set]; exact h.len, fun v hv => by
    rcases List.mem_or_eq_of_mem_set hv with h1 | h1
    · exact h.small v h1
    · rw [h1]; exact hn, by rw [List.drop_set_of_lt hp]; exact h.rest⟩
theorem Hw.hpad {P : List Int} (h : Hw L P) (hL : L.length ≤ 9) : pad (P.take L.length) = P := by
  unfold pad
  rw [List.length_take, h.len, Nat.min_eq_left hL, ← h.rest, List.take_append_drop]
theorem take_set {P : List Int} {p : Nat} (hp : p < P.length) (n : Int) : (P.set p n).take (p + 1) = P.take p ++ [n] := by
  rw [List.take_add_one, List.getElem?_set_self hp, List.take_set_of_le (Nat.le_refl _)]; rfl
theorem s121 (hf : isField r c L = true) (hO : O.length = 6) (hD : ¬ Ds x mb b b2 h2) (hk : k ≠ h2) (hcv : cv ≠ h2) {n0 : Nat} (hn0 : n0 ≤ h2) {xs : List (List V)} {I : Nat → (Nat → Prop) → M → Prop} {E : (Nat → Prop) → M → Prop} (hcl : Client prog tbl n0 l xs I E) :
    ∀ (d p : Nat), d + p = L.length → ∀ (i : Nat) (S : Nat → Prop) (m : M) (P : List Int) (Q : V → M → Prop), St r c sm x y L N mb f O b b2 l k h2 cv S m P → Hw L P →
      (∀ j H, (exts c sm L N O d (P.take p))[j]? = some H → xs[i + j]? = some [.agg 9 (ints (pad H))]) → I i S m →
      (∀ S' m' P', Own S m S' → Chg (fun b' => S b' ∨ b' = h2) m m' → St r c sm x y L N mb f O b b2 l k h2 cv S' m' P' → Hw L P' → P'.take p = P.take p → I (i + (exts c sm L N O d (P.take p)).length) S' m' → Q (.c (.bool true)) m') →
      (∀ S' m', Own S m S' → Chg (fun b' => S b' ∨ b' = h2) m m' → E S' m' → Q (.c (.bool false)) m') →
      Wc prog tbl 121 [.c (.int .i64 (p : Int)), .c (.ptr b 0), .c (.ptr k 0), .c (.ptr h2 0), .c (.ptr b2 0), .c (.ptr cv 0)] m Q := by
  obtain ⟨hS, hL, hrc⟩ := field_of hf
  have hsd := sides_of hf
  have hm := hsd.mul
  intro d
  induction d with
  | zero =>
    intro p hp i S m P Q hst hw hxs hI hT hF
    refine w121 (p : Int) b k h2 b2 cv ⟨trivial, trivial, r, c, x, hst.rr.w.rp (k := 0) (j := 3) rfl (by omega), s88 (by have := hsd.r1; omega) (by have := hsd.c1; omega) (fits_small (by omega) (by omega)) fun m4 e4 => ⟨_, rfl, ?_⟩⟩
    rw [ifB_dec]
    refine ⟨fun _ => ?_, fun h1 => absurd (by omega) h1⟩
    have hst4 := hst.to (Chg.of_ext e4) (Own.refl S m)
    refine ⟨_, hst4.kk.rc rfl, get9 hst4.hh hw.len (fun l9 => callP prog tbl [.agg 9 l9] (.fn (.yield l) [] []) m4 _) ?_⟩
    have hpl : p = L.length := by omega
    subst hpl
    have hx0 := hxs 0 (P.take L.length) rfl
    rw [hw.hpad hL, Nat.add_zero] at hx0
    have hI4 : I i S m4 := (hcl.li i).st _ _ _ hI e4.nxt e4.vw (fun b' hb => e4.g b' ((hcl.li i).lt _ _ hI b' hb)) (fun b' hb => e4.g b' (by have := hst.hh.lt; omega))
    show Wy prog tbl l [.agg 9 (ints P)] m4 _
    refine hcl.yield i _ S m4 hx0 hI4 _ (fun S' m' ho hch hI' => ⟨_, rfl, ?_⟩) fun S' m' ho hch hE => ⟨_, rfl, ?_⟩
    · exact hT S' m' P (Own.trans (Own.refl S m) ho e4.nxt) (Chg.trans (T := fun b' => b' = h2) (Chg.of_ext e4) (Chg.or hch) (Own.refl S m)) (hst4.to hch ho) hw rfl hI'
    · exact hF S' m' (Own.trans (Own.refl S m) ho e4.nxt) (Chg.trans (T := fun b' => b' = h2) (Chg.of_ext e4) (Chg.or hch) (Own.refl S m)) hE
  | succ d ih =>
    intro p hp i S m P Q hst hw hxs hI hT hF
    refine w121 (p : Int) b k h2 b2 cv ⟨trivial, trivial, r, c, x, hst.rr.w.rp (k := 0) (j := 3) rfl (by omega), s88 (by have := hsd.r1; omega) (by have := hsd.c1; omega) (fits_small (by omega) (by omega)) fun m4 e4 => ⟨_, rfl, ?_⟩⟩
    rw [ifB_dec]
    refine ⟨fun h1 => by omega, fun _ => ?_⟩
    have hst4 := hst.to (Chg.of_ext e4) (Own.refl S m)
    have hI4 : I i S m4 := (hcl.li i).st _ _ _ hI e4.nxt e4.vw (fun b' hb => e4.g b' ((hcl.li i).lt _ _ hI b' hb)) (fun b' hb => e4.g b' (by have := hst.hh.lt; omega))
    have hpL : p < L.length := by omega
    have hlp := small_at hS hpL
    have hLp : L[p]! = L[p] := getElem!_pos L p hpL
    obtain ⟨t, ht⟩ : ∃ t : Nat, L[p] = (t : Int) := ⟨L[p].toNat, by omega⟩
    have hpl : (P.take p).length = p := by rw [List.length_take, hw.len]; omega
    let g : Nat → List (List Int) := fun n => if fitsB c sm N (pad (P.take p ++ [(n : Int)])) O p then exts c sm L N O d (P.take p ++ [(n : Int)]) else []
    have hex : exts c sm L N O (d + 1) (P.take p) = rests g (t + 1) 0 := by
      show rests (fun n => if fitsB c sm N (pad (P.take p ++ [(n : Int)])) O (P.take p).length then exts c sm L N O d (P.take p ++ [(n : Int)]) else []) (L[(P.take p).length]!.toNat + 1) 0 = _
      rw [hpl, hLp, ht]; rfl
    rw [hex] at hxs hT
    refine ⟨trivial, trivial, trivial, x, hst4.rr.w.rc rfl, p, rfl, by rw [hst4.rr.x.slLen]; exact hpL, L[p], Li.rd hst4.rr.x (List.getElem?_eq_getElem hpL), fits_small (by omega) (by omega), fun R22 hstep => ?_⟩
    have hgo : ∀ (e n : Nat) (b23 : Bool) (m25 : M) (S1 : Nat → Prop) (P1 : List Int) (i1 : Nat), e + n = t + 1 → Own S m S1 → Chg (fun b' => S b' ∨ b' = h2) m m25 → St r c sm x y L N mb f O b b2 l k h2 cv S1 m25 P1 → Hw L P1 → P1.take p = P.take p → I i1 S1 m25 →
        i1 + (rests g e n).length = i + (rests g (t + 1) 0).length → (∀ j H, (rests g e n)[j]? = some H → xs[i1 + j]? = some [.agg 9 (ints (pad H))]) → R22 [.c (.bool b23), .c (.int .i64 (n : Int))] m25 := by
      intro e
      induction e with
      | zero =>
        intro n b23 m25 S1 P1 i1 hen ho hch hst1 hw1 htk hI1 hlen hxs1
        refine hstep _ _ _ ?_
        rw [ifB_dec]
        refine ⟨fun h1 => by omega, fun _ => hT S1 m25 P1 ho hch hst1 hw1 htk ?_⟩
        have : i1 + 0 = _ := hlen
        rw [← this, Nat.add_zero]; exact hI1
      | succ e ihe =>
        intro n b23 m25 S1 P1 i1 hen ho hch hst1 hw1 htk hI1 hlen hxs1
        refine hstep _ _ _ ?_
        rw [ifB_dec]
        refine ⟨fun _ => ?_, fun h1 => absurd (by omega) h1⟩
        have hn9 : (0 : Int) ≤ (n : Int) ∧ (n : Int) ≤ 9 := by omega
        have hp9 : p < P1.length := by rw [hw1.len]; omega
        have hat := stC_at hst1.hh.g (k := 0 + p * 1) (.int .i64 (n : Int)) (by rw [ints_len, hw1.len]; omega) (by rw [ints_len, hw1.len]) (by omega)
        refine ⟨trivial, p, rfl, by omega, _, hat, ?_⟩
        rw [ints_set, show 0 + p * 1 = p by omega]
        have hst2 := hst1.set hD hk hcv (P1.set p (n : Int))
        have hw2 := hw1.set hpL hn9
        have hch2 : Chg (fun b' => S1 b' ∨ b' = h2) m25 (m25.set h2 (.cells 9 (ints (P1.set p (n : Int))) false)) := ⟨Nat.le_refl _, fun b' _ hS => by rw [M.g_set, if_neg fun h1 => hS (.inr h1)], rfl⟩
        have hI2 : I i1 S1 (m25.set h2 (.cells 9 (ints (P1.set p (n : Int))) false)) := (hcl.li i1).st _ _ _ hI1 (Nat.le_refl _) rfl (fun b' hb => by rw [M.g_set, if_neg fun h1 => (hst1.ss b' hb).2.1 h1]) (fun b' hb => by rw [M.g_set, if_neg (by omega)])
        have hchm := Chg.trans (T := fun b' => b' = h2) hch hch2 ho
        generalize m25.set h2 (.cells 9 (ints (P1.set p (n : Int))) false) = m27 at hst2 hch2 hI2 hchm
        have htk2 : (P1.set p (n : Int)).take (p + 1) = P.take p ++ [(n : Int)] := by rw [take_set hp9, htk]
        have htk3 : (P1.set p (n : Int)).take p = P.take p := by rw [List.take_set_of_le (Nat.le_refl _), htk]
        have hfit : fitsB c sm N (P1.set p (n : Int)) O p = fitsB c sm N (pad (P.take p ++ [(n : Int)])) O p := by rw [← htk2, fits_take hsd.c1 hw2.len (by omega)]
        have hatp : at' (P1.set p (n : Int)) (p : Int) ≤ L[p]! := by
          show (P1.set p (n : Int))[p]! ≤ _
          rw [getElem!_pos _ p (by rw [List.length_set]; exact hp9), List.getElem_set_self, hLp]; omega
        generalize P1.set p (n : Int) = P2 at hst2 hw2 htk2 htk3 hfit hatp
        refine ⟨r, c, x, sm, y, .map mb, hst2.rr.w.ra, get9 hst2.hh hw2.len (fun l9 => ∃ b43 b44 b45 b46 b47 b48 : Bool, ldA m27 (C.ptr b2 0) 6 = some [.bool b43, .bool b44, .bool b45, .bool b46, .bool b47, .bool b48] ∧ Wc prog tbl 97 [.agg 6 [.int .i64 r, .int .i64 c, x, .int .i64 sm, y, .map mb], .agg 9 l9, .c (.int .i64 (p : Int)), .agg 6 [.bool b43, .bool b44, .bool b45, .bool b46, .bool b47, .bool b48]] m27 _)
          (get6 hst2.rr.o hO (fun l6 => Wc prog tbl 97 [.agg 6 [.int .i64 r, .int .i64 c, x, .int .i64 sm, y, .map mb], .agg 9 (ints P2), .c (.int .i64 (p : Int)), .agg 6 l6] m27 _) ?_)⟩
        refine s97 hst2.rr.k hf hw2.len hw2.small hO hpL hatp fun m50 e50 => ⟨_, rfl, ?_⟩
        have hst5 := hst2.to (Chg.of_ext e50) (Own.refl S1 m27)
        have hI5 : I i1 S1 m50 := (hcl.li i1).st _ _ _ hI2 e50.nxt e50.vw (fun b' hb => e50.g b' ((hcl.li i1).lt _ _ hI2 b' hb)) (fun b' hb => e50.g b' (by have := hst2.hh.lt; omega))
        have hch5 : Chg (fun b' => S b' ∨ b' = h2) m m50 := Chg.trans (T := fun b' => b' = h2) hchm (Chg.of_ext e50) ho
        have hge : rests g (e + 1) n = g n ++ rests g e (n + 1) := rfl
        rw [hge] at hlen hxs1
        rw [List.length_append] at hlen
        have hxr : ∀ j H, (rests g e (n + 1))[j]? = some H → xs[i1 + (g n).length + j]? = some [.agg 9 (ints (pad H))] := fun j H hj => by
          rw [Nat.add_assoc]
          exact hxs1 _ H (by rw [List.getElem?_append_right (by omega), Nat.add_sub_cancel_left]; exact hj)
        rw [hfit]
        cases hb : fitsB c sm N (pad (P.take p ++ [(n : Int)])) O p with
        | false =>
          have hg : g n = [] := by show (if _ then _ else _) = _; rw [hb]; rfl
          rw [hg] at hxr hlen
          exact ⟨fits_small (by omega) (by omega), ihe (n + 1) b23 m50 S1 P2 i1 (by omega) ho hch5 hst5 hw2 htk3 hI5 (by simpa using hlen) (by simpa using hxr)⟩
        | true =>
          have hg : g n = exts c sm L N O d (P2.take (p + 1)) := by show (if _ then _ else _) = _; rw [hb, htk2]; rfl
          rw [hg] at hxr hlen hxs1
          refine ⟨_, hst5.cc.rc rfl, fits_small (by omega) (by omega), ?_⟩
          show Wc prog tbl 121 [.c (.int .i64 ((p + 1 : Nat) : Int)), .c (.ptr b 0), .c (.ptr k 0), .c (.ptr h2 0), .c (.ptr b2 0), .c (.ptr cv 0)] m50 _
          refine ih (p + 1) (by omega) i1 S1 m50 P2 _ hst5 hw2 (fun j H hj => hxs1 j H (by rw [List.getElem?_append_left (List.getElem?_eq_some_iff.1 hj).1]; exact hj)) hI5 (fun S' m' P' ho' hch' hst' hw' htk' hI' => ⟨_, rfl, ?_⟩) fun S' m' ho' hch' hE => ⟨_, rfl, ?_⟩
          · have htk4 : P'.take p = P.take p := by
              have h1 := congrArg (List.take p) htk'
              rw [List.take_take, List.take_take, Nat.min_eq_left (by omega)] at h1
              rw [h1, htk3]
            exact ⟨fits_small (by omega) (by omega), ihe (n + 1) b23 m' S' P' _ (by omega) (Own.trans ho ho' hch5.nxt) (Chg.trans (T := fun b' => b' = h2) hch5 hch' ho) hst' hw' htk4 hI' (by omega) hxr⟩
          · exact hF S' m' (Own.trans ho ho' hch5.nxt) (Chg.trans (T := fun b' => b' = h2) hch5 hch' ho) hE
    exact hgo (t + 1) 0 false m4 S P i (by omega) (Own.refl S m) (Chg.of_ext e4) hst4 hw rfl hI4 rfl hxs
end
end Go.Proofs.Ytgkjfhkjgdiodaa

namespace Go.Proofs.Ytgkjfhkjgdiodaa
open _root_.Go.Proofs.Try
open Go.Abs
set_option maxRecDepth 100000
noncomputable section
/-- without: what it hands out -/
def truthsV (c sm : Int) (L : List Int) (N : List Cnt) (O : List Bool) : List (List V) := (exts c sm L N O L.length []).map fun H => [.agg 9 (ints (pad H))]
theorem without_iter {r c sm : Int} {x y : C} {L : List Int} {N : List Cnt} {mb : Nat} {f : Spot → Option U} {O : List Bool} {b b2 : Nat} (hf : isField r c L = true) (hO : O.length = 6) :
    Iter prog tbl (.fn (.func 120) [] [.c (.ptr b 0), .c (.ptr b2 0)]) (truthsV c sm L N O) (Ds x mb b b2) (Rd r c sm x y L N mb f O b b2) := by
  obtain ⟨hS, hL, hrc⟩ := field_of hf
  refine ⟨fun m m' h hn hv hg => h.to hn hv hg, fun m h b' hb => h.lt hb, fun n0' l I E hcl S m hn0' hI hR hSD Q hQ => ?_⟩
  have hSlt := (hcl.li 0).lt _ _ hI
  show Wc prog tbl 120 [.c (.fn (.yield l) [] []), .c (.ptr b 0), .c (.ptr b2 0)] m Q
  refine w120 _ b b2 fun m0 e0 m1 e1 m2 e2 => ?_
  obtain ⟨b0, x0⟩ := Bk.new e0
  obtain ⟨b1, x1⟩ := Bk.new e1
  obtain ⟨b2', x2⟩ := Bk.new e2
  have n0 : m0.nxt = m.nxt + 1 := by rw [e0]; rfl
  have n1 : m1.nxt = m.nxt + 2 := by rw [e1]; show m0.nxt + 1 = _; omega
  have hst := b2'.st [chC b m.nxt m0.nxt b2 m1.nxt]
  have k3 := b2'.set [chC b m.nxt m0.nxt b2 m1.nxt]
  have x03 : Ext m (m2.set m1.nxt (.cells 1 [chC b m.nxt m0.nxt b2 m1.nxt] false)) := ((x0.trans x1).trans x2).setR (by omega) _
  have k0 : Bk (m2.set m1.nxt (.cells 1 [chC b m.nxt m0.nxt b2 m1.nxt] false)) m.nxt 1 [.fn (.yield l) [] []] := ((b0.ext x1).ext x2).setNe (by omega) _
  have k1 : Bk (m2.set m1.nxt (.cells 1 [chC b m.nxt m0.nxt b2 m1.nxt] false)) m0.nxt 9 (ints (List.replicate 9 0)) := (b1.ext x2).setNe (by omega) _
  refine ⟨_, hst, _, k3.rc rfl, ?_⟩
  generalize m2.set m1.nxt (.cells 1 [chC b m.nxt m0.nxt b2 m1.nxt] false) = m3 at k3 x03 k0 k1
  have hDlt : ∀ b', Ds x mb b b2 b' → b' < m.nxt := fun b' hb => hR.lt hb
  have hI3 : I 0 S m3 := (hcl.li 0).st _ _ _ hI x03.nxt x03.vw (fun b' hb => x03.g b' (hSlt b' hb)) (fun b' hb => x03.g b' (by omega))
  have hSt : St r c sm x y L N mb f O b b2 l m.nxt m0.nxt m1.nxt S m3 (List.replicate 9 0) := ⟨hR.ext x03, k0, k1, k3, fun b' hb => by
    have := hSlt b' hb
    exact ⟨by omega, by omega, by omega, hSD b' hb⟩⟩
  have hHw : Hw L (List.replicate 9 0) := ⟨rfl, fun v hv => by have := (List.mem_replicate.1 hv).2; omega, by rw [List.drop_replicate]⟩
  have hxs : ∀ j H, (exts c sm L N O L.length ((List.replicate 9 (0 : Int)).take 0))[j]? = some H → (truthsV c sm L N O)[0 + j]? = some [.agg 9 (ints (pad H))] := fun j H hj => by
    unfold truthsV
    rw [Nat.zero_add, List.getElem?_map]
    have : (exts c sm L N O L.length [])[j]? = some H := hj
    rw [this]; rfl
  have hlen : (truthsV c sm L N O).length = 0 + (exts c sm L N O L.length ((List.replicate 9 (0 : Int)).take 0)).length := by unfold truthsV; rw [List.length_map, Nat.zero_add]; rfl
  have hchg : ∀ {m' : M}, Chg (fun b' => S b' ∨ b' = m0.nxt) m3 m' → Chg S m m' := fun {m'} h => ⟨Nat.le_trans x03.nxt h.nxt, fun b' hb hSb => by
    rw [h.g b' (Nat.lt_of_lt_of_le hb x03.nxt) fun h3 => h3.elim hSb fun h4 => by omega]
    exact x03.g b' hb, h.vw.trans x03.vw⟩
  show Wc prog tbl 121 [.c (.int .i64 ((0 : Nat) : Int)), .c (.ptr b 0), .c (.ptr m.nxt 0), .c (.ptr m0.nxt 0), .c (.ptr b2 0), .c (.ptr m1.nxt 0)] m3 _
  refine s121 hf hO (fun h => by have := hDlt _ h; omega) (by omega) (by omega) (n0 := n0') (by omega) hcl L.length 0 (by omega) 0 S m3 (List.replicate 9 0) _ hSt hHw hxs hI3 (fun S' m' P' ho hch hst' hw' htk hI' => ⟨_, rfl, ?_⟩) fun S' m' ho hch hE => ⟨_, rfl, ?_⟩
  · exact hQ _ S' m' (Own.trans (Own.refl S m) ho x03.nxt) (hchg hch) (.inl (by rw [hlen]; exact hI'))
  · exact hQ _ S' m' (Own.trans (Own.refl S m) ho x03.nxt) (hchg hch) (.inr hE)
/-! ### which lists these are -/
theorem mem_rests {α : Type} (g : Nat → List α) (a : α) : ∀ (e n : Nat), a ∈ rests g e n ↔ ∃ j, n ≤ j ∧ j < n + e ∧ a ∈ g j
  | 0, n => ⟨fun h => (by cases h), fun ⟨j, h1, h2, _⟩ => by omega⟩
  | e + 1, n => by
    show a ∈ g n ++ rests g e (n + 1) ↔ _
    rw [List.mem_append, mem_rests g a e (n + 1)]
    constructor
    · rintro (h | ⟨j, h1, h2, h3⟩)
      · exact ⟨n, Nat.le_refl _, by omega, h⟩
      · exact ⟨j, by omega, by omega, h3⟩
    · rintro ⟨j, h1, h2, h3⟩
      by_cases hj : j = n
      · subst hj; exact .inl h3
      · exact .inr ⟨j, by omega, by omega, h3⟩
theorem pad_take_fits {c sm : Int} {N : List Cnt} {H : List Int} {O : List Bool} {p : Nat} (hc : 1 ≤ c) (h9 : H.length ≤ 9) (hp : p < H.length) : fitsB c sm N (pad (H.take (p + 1))) O p = fitsB c sm N (pad H) O p := by
  have h1 : (pad H).take (p + 1) = H.take (p + 1) := by
    unfold pad
    rw [List.take_append_of_le_length (by omega)]
  rw [← h1, fits_take hc (pad_len h9) (by omega)]
theorem mem_exts {r c sm : Int} {L : List Int} {N : List Cnt} {O : List Bool} (hf : isField r c L = true) (H : List Int) : ∀ (d p : Nat) (pre : List Int), d + p = L.length → pre.length = p →
    (H ∈ exts c sm L N O d pre ↔ H.length = L.length ∧ H.take p = pre ∧ ∀ j : Nat, p ≤ j → j < L.length → (0 ≤ H[j]! ∧ H[j]! ≤ L[j]!) ∧ fitsB c sm N (pad H) O j = true) := by
  obtain ⟨hS, hL, hrc⟩ := field_of hf
  have hsd := sides_of hf
  intro d
  induction d with
  | zero =>
    intro p pre hd hpre
    show H ∈ [pre] ↔ _
    rw [List.mem_singleton]
    constructor
    · rintro rfl
      exact ⟨by omega, List.take_of_length_le (by omega), fun j h1 h2 => by omega⟩
    · rintro ⟨h1, h2, _⟩
      rw [← h2, List.take_of_length_le (by omega)]
  | succ d ih =>
    intro p pre hd hpre
    have hpL : p < L.length := by omega
    have hLp : L[p]! = L[p] := getElem!_pos L p hpL
    have hlp := small_at hS hpL
    show H ∈ rests (fun n => if fitsB c sm N (pad (pre ++ [(n : Int)])) O pre.length then exts c sm L N O d (pre ++ [(n : Int)]) else []) (L[pre.length]!.toNat + 1) 0 ↔ _
    rw [mem_rests, hpre]
    constructor
    · rintro ⟨n, _, h2, h3⟩
      by_cases hb : fitsB c sm N (pad (pre ++ [(n : Int)])) O p = true
      · simp only [hb, if_true] at h3
        obtain ⟨q1, q2, q3⟩ := (ih (p + 1) (pre ++ [(n : Int)]) (by omega) (by simp [hpre])).1 h3
        have hpH : p < H.length := by omega
        have hHp : H[p]! = (n : Int) := by
          have h4 := congrArg (fun l => l[p]?) q2
          simp only [List.getElem?_take, show p < p + 1 by omega, if_true] at h4
          rw [List.getElem?_append_right (by omega), hpre, Nat.sub_self] at h4
          rw [getElem!_pos H p hpH]
          rw [List.getElem?_eq_getElem hpH] at h4
          simpa using h4
        refine ⟨q1, ?_, fun j hj1 hj2 => ?_⟩
        · have h4 := congrArg (List.take p) q2
          rw [List.take_take, Nat.min_eq_left (by omega), List.take_left' hpre] at h4
          exact h4
        · by_cases hjp : j = p
          · subst hjp
            refine ⟨by rw [hHp]; omega, ?_⟩
            rw [← pad_take_fits hsd.c1 (by omega) hpH, q2]; exact hb
          · exact q3 j (by omega) hj2
      · have hb' : fitsB c sm N (pad (pre ++ [(n : Int)])) O p = false := by simpa using hb
        simp [hb'] at h3
    · rintro ⟨q1, q2, q3⟩
      have hpH : p < H.length := by omega
      have h4 := q3 p (Nat.le_refl _) hpL
      have hHp : H[p]! = H[p] := getElem!_pos H p hpH
      obtain ⟨n, hn⟩ : ∃ n : Nat, H[p]! = (n : Int) := ⟨(H[p]!).toNat, by omega⟩
      have htk : H.take (p + 1) = pre ++ [(n : Int)] := by
        rw [List.take_add_one, q2, List.getElem?_eq_getElem hpH, ← hHp, hn]; rfl
      refine ⟨n, by omega, by omega, ?_⟩
      have hb : fitsB c sm N (pad (pre ++ [(n : Int)])) O p = true := by rw [← htk, pad_take_fits hsd.c1 (by omega) hpH]; exact h4.2
      simp only [hb, if_true]
      exact (ih (p + 1) (pre ++ [(n : Int)]) (by omega) (by simp [hpre])).2 ⟨q1, htk, fun j hj1 hj2 => q3 j (by omega) hj2⟩
/-- the program's truths are the truths -/
theorem mem_truths {r c sm : Int} {L H : List Int} {N : List Cnt} (hO : Okay r c L N) (hsm : 0 ≤ sm) : H ∈ exts c sm L N false6 L.length [] ↔ truthR c sm L N H = true := by
  rw [mem_exts hO.f H L.length 0 [] (by omega) rfl]
  constructor
  · rintro ⟨q1, _, q3⟩
    have hl : listed L H = true := decide_eq_true ⟨q1, fun i hi => (q3 i (by omega) hi).1⟩
    rw [← truth_eq hO hsm hl]
    exact decide_eq_true fun i hi => (q3 i (by omega) hi).2
  · intro h
    have hT : TruthR c sm L N H := by
      by_cases hT : TruthR c sm L N H
      · exact hT
      · rw [truthR_false hT] at h; cases h
    have hl := hT.1
    have h2 : truthB c sm L N (pad H) = true := by rw [truth_eq hO hsm hl]; exact h
    have h3 := of_decide_eq_true h2
    exact ⟨listed_len hl, rfl, fun j _ hj => ⟨(of_decide_eq_true hl).2 j hj, h3 j hj⟩⟩
end
end Go.Proofs.Ytgkjfhkjgdiodaa

namespace Go.Proofs.Ytgkjfhkjgdiodaa
open _root_.Go.Proofs.Try
open Go.Abs
set_option maxRecDepth 100000
noncomputable section
/-- the marks of a list -/
def marksL (B : List Bool) : List Int → List Bool
  | [] => B
  | v :: D => marksL (B.set v.toNat true) D
theorem marksL_len : ∀ (D : List Int) (B : List Bool), (marksL B D).length = B.length
  | [], _ => rfl
  | v :: D, B => by show (marksL _ D).length = _; rw [marksL_len D, List.length_set]
theorem marksL_step {D : List Int} {i : Nat} (hi : i < D.length) (B : List Bool) : marksL B (D.drop i) = marksL (B.set D[i].toNat true) (D.drop (i + 1)) := by rw [List.drop_eq_getElem_cons hi]; rfl
theorem s108 {r c sm : Int} {x y : C} {L : List Int} {N : List Cnt} {mb : Nat} {f : Spot → Option U} {O : List Bool} {m : M} {Q : V → M → Prop} (hw : Wk m L N mb f) (hx : Li m x L) (hO : O.length = 6)
    (h : ∀ m' b b2, Ext m m' → Rd r c sm x y L N mb f O b b2 m' → m.nxt ≤ b → m.nxt ≤ b2 → Q (.c (.fn (.func 120) [] [.c (.ptr b 0), .c (.ptr b2 0)])) m') :
    Wc prog tbl 108 [.agg 6 [.int .i64 r, .int .i64 c, x, .int .i64 sm, y, .map mb], .agg 6 (bls O)] m Q := by
  obtain ⟨a0, a1, a2, a3, a4, a5, rfl⟩ := six hO
  refine w108 fun m0 e0 m1 e1 => ?_
  obtain ⟨b0, x0⟩ := Bk.new e0
  obtain ⟨b1, x1⟩ := Bk.new e1
  have x01 := x0.trans x1
  exact h m1 m.nxt m0.nxt x01 ⟨b0.ext x1, b1, hw.ext x01, hx.ext x01⟩ (Nat.le_refl _) x0.nxt
theorem ds_old {x : C} {L : List Int} {mb b b2 : Nat} {m : M} {N : List Cnt} {f : Spot → Option U} (hw : Wk m L N mb f) (hx : Li m x L) {b' : Nat} (h : Ds x mb b b2 b') : b' = b ∨ b' = b2 ∨ b' < m.nxt := by
  rcases h with h | h | rfl | ⟨o, n, s, d, hq⟩
  · exact .inl h
  · exact .inr (.inl h)
  · exact .inr (.inr hw.mp.lt)
  · rcases hx.val with ⟨hx2, _⟩ | ⟨b3, o3, s3, c3, hx2, hlt, _⟩
    · rw [hq] at hx2; cases hx2
    · rw [hq] at hx2; cases hx2; exact .inr (.inr hlt)
theorem s91 {r c sm : Int} {x y z : C} {L D : List Int} {N : List Cnt} {mb : Nat} {f : Spot → Option U} {m : M} {Q : V → M → Prop} (hw : Wk m L N mb f) (hx : Li m x L) (hf : isField r c L = true) (hz : Li m z D) (hD : D.length ≤ 1000) (hD6 : ∀ v ∈ D, 0 ≤ v ∧ v < 6)
    (h : ∀ m', Ext m m' → Q (.c (.bool (!(truthsV c sm L N (marksL false6 D)).isEmpty))) m') :
    Wc prog tbl 91 [.agg 6 [.int .i64 r, .int .i64 c, x, .int .i64 sm, y, .map mb], .c z] m Q := by
  refine w91 fun m0 e0 m1 e1 m2 e2 => ?_
  obtain ⟨b0, x0⟩ := Bk.new e0
  obtain ⟨b1, x1⟩ := Bk.new e1
  obtain ⟨b2, x2⟩ := Bk.new e2
  have n0 : m0.nxt = m.nxt + 1 := by rw [e0]; rfl
  have n1 : m1.nxt = m.nxt + 2 := by rw [e1]; show m0.nxt + 1 = _; omega
  have n2 : m2.nxt = m.nxt + 3 := by rw [e2]; show m1.nxt + 1 = _; omega
  refine ⟨hz.isSl, fun R3 hstep => ?_⟩
  have hgo : ∀ (d i : Nat) (m5 : M) (B : List Bool), d + i = D.length → Ext m m5 → Bk m5 m.nxt 6 [.int .i64 r, .int .i64 c, x, .int .i64 sm, y, .map mb] → Bk m5 m0.nxt 1 [.bool false] → Bk m5 m1.nxt 6 (bls B) → B.length = 6 →
      marksL B (D.drop i) = marksL false6 D → R3 [.c (.int .i64 (i : Int))] m5 := by
    intro d
    induction d with
    | zero =>
      intro i m5 B hd e5 k0 k1 k2 hB hm
      refine hstep _ _ ?_
      rw [hz.slLen, ifB_dec]
      refine ⟨fun h1 => by omega, fun _ => ?_⟩
      rw [List.drop_eq_nil_of_le (by omega)] at hm
      have hBe : B = marksL false6 D := hm
      refine ⟨r, c, x, sm, y, .map mb, k0.ra, get6 k2 hB (fun l6 => Wc prog tbl 108 [.agg 6 [.int .i64 r, .int .i64 c, x, .int .i64 sm, y, .map mb], .agg 6 l6] m5 _) ?_⟩
      refine s108 (hw.ext e5) (hx.ext e5) hB fun m23 b b2 e23 hR hb hb2 => ⟨_, rfl, ?_⟩
      have k1' := k1.ext e23
      have hflag : ∀ b', b' = m0.nxt → ¬ Ds x mb b b2 b' := fun b' hb' hds => by
        rcases ds_old (m := m) hw hx hds with h1 | h1 | h1
        · have := k1.lt; omega
        · have := k1.lt; omega
        · omega
      have e523 : Ext m m23 := e5.trans e23
      refine range_iter (without_iter hf hB) hR (J := fun i S m => i = 0 ∧ (∀ b', S b' ↔ b' = m0.nxt) ∧ Bk m m0.nxt 1 [.bool false]) (X := fun ex S m => ex = .ret ∧ truthsV c sm L N B ≠ [] ∧ (∀ b', S b' ↔ b' = m0.nxt) ∧ Bk m m0.nxt 1 [.bool true])
        (fun i => ⟨fun S ma mb' hj hn hv hg _ => ⟨hj.1, hj.2.1, (hg m0.nxt ((hj.2.1 _).2 rfl)).trans hj.2.2.g, Nat.lt_of_lt_of_le hj.2.2.lt hn⟩, fun S ma hj b' hb' => by rw [(hj.2.1 b').1 hb']; exact hj.2.2.lt⟩)
        (fun ex => ⟨fun S ma mb' hj hn hv hg _ => ⟨hj.1, hj.2.1, hj.2.2.1, (hg m0.nxt ((hj.2.2.1 _).2 rfl)).trans hj.2.2.2.g, Nat.lt_of_lt_of_le hj.2.2.2.lt hn⟩, fun S ma hj b' hb' => by rw [(hj.2.2.1 b').1 hb']; exact hj.2.2.2.lt⟩)
        (S0 := fun b' => b' = m0.nxt) ⟨rfl, fun _ => Iff.rfl, k1'⟩ (fun b' hb' => hflag b' hb') ?_ ?_ ?_ ?_
      · intro i xv S ma B' enter K hxv hj hlt hSl hown henter hK
        obtain ⟨hi0, hS, hkb⟩ := hj
        subst hi0
        have hne : truthsV c sm L N B ≠ [] := fun h0 => by rw [h0] at hxv; cases hxv
        have hxv' := hxv
        unfold truthsV at hxv'
        rw [List.getElem?_map] at hxv'
        cases hH : (exts c sm L N B L.length [])[0]? with
        | none => rw [hH] at hxv'; cases hxv'
        | some H =>
          rw [hH] at hxv'
          have hxe : [V.agg 9 (ints (pad H))] = xv := by injection hxv'
          have hlenH : H.length = L.length := ((mem_exts hf H L.length 0 [] (by omega) rfl).1 (List.mem_of_getElem? hH)).1
          obtain ⟨_, hL9, _⟩ := field_of hf
          obtain ⟨p0, p1, p2, p3, p4, p5, p6, p7, p8, hp⟩ := nine (pad_len (H := H) (by omega))
          refine ⟨p0, p1, p2, p3, p4, p5, p6, p7, p8, by rw [← hxe, hp]; rfl, henter ma _ rfl fun m3 hn3 hv3 hg3 hB3 => ?_⟩
          have hne0 : m0.nxt ≠ m23.nxt := by have := k1'.lt; omega
          have k3 : Bk m3 m0.nxt 1 [.bool false] := ⟨(hg3 _ hne0).trans hkb.g, by rw [hn3]; exact hkb.lt⟩
          refine ⟨_, k3.st _, hK .ret S _ (hB3 _ (by rw [M.g_set, if_neg (by omega)])) (by show ma.nxt ≤ m3.nxt; omega) hv3 (fun b' hb' hSb hbl => ?_) (Own.refl S ma) ⟨rfl, hne, hS, k3.set _⟩⟩
          rw [M.g_set, if_neg fun h0 => hSb ((hS b').2 h0)]
          exact hg3 b' hbl
      · intro S' m5' hown hlt hv hg hj
        obtain ⟨hx0, hS, hkb⟩ := hj
        have hemp : (truthsV c sm L N B).isEmpty = true := by simpa using hx0
        refine ⟨_, hkb.st _, false, (hkb.set _).rc rfl, ?_⟩
        have hext : Ext m (m5'.set m0.nxt (.cells 1 [.bool false] false)) := Ext.setR (m' := m5') ⟨Nat.le_trans e523.nxt (Nat.le_of_lt hlt), fun b' hb' => by rw [hg b' (Nat.lt_of_lt_of_le hb' e523.nxt) (by omega)]; exact e523.g b' hb', hv.trans e523.vw⟩ (by omega) _
        have hq := h _ hext
        rw [← hBe, hemp] at hq
        exact hq
      · intro id S' m5' hown hlt hv hg hj
        cases hj.1
      · intro S' m5' hown hlt hv hg hj
        obtain ⟨_, hne, hS, hkb⟩ := hj
        have hemp : (truthsV c sm L N B).isEmpty = false := by
          cases ht : truthsV c sm L N B with
          | nil => exact absurd ht hne
          | cons a l => rfl
        refine ⟨true, hkb.rc rfl, ?_⟩
        have hext : Ext m m5' := ⟨Nat.le_trans e523.nxt (Nat.le_of_lt hlt), fun b' hb' => by rw [hg b' (Nat.lt_of_lt_of_le hb' e523.nxt) (by omega)]; exact e523.g b' hb', hv.trans e523.vw⟩
        have hq := h _ hext
        rw [← hBe, hemp] at hq
        exact hq
    | succ d ih =>
      intro i m5 B hd e5 k0 k1 k2 hB hm
      refine hstep _ _ ?_
      rw [hz.slLen, ifB_dec]
      refine ⟨fun _ => ?_, fun h1 => absurd (by omega) h1⟩
      have hi : i < D.length := by omega
      have hv := hD6 _ (List.getElem_mem hi)
      obtain ⟨v, hve⟩ : ∃ v : Nat, D[i] = (v : Int) := ⟨D[i].toNat, by omega⟩
      have hat := stC_at k2.g (k := 0 + v * 1) (.bool true) (by rw [bls_len, hB]; omega) (by rw [bls_len, hB]) (by omega)
      refine ⟨i, rfl, hi, D[i], Li.rd (hz.ext e5) (List.getElem?_eq_getElem hi), trivial, v, hve, by omega, _, hat, fits_small (by omega) (by omega), ?_⟩
      refine ih (i + 1) _ (B.set v true) (by omega) (e5.setR (by omega) _) (k0.setNe (by omega) _) (k1.setNe (by omega) _) ?_ (by rw [List.length_set]; exact hB) ?_
      · rw [bls_set, show 0 + v * 1 = v by omega]; exact k2.set _
      · rw [← hm, marksL_step hi, hve]; rfl
  exact hgo D.length 0 m2 false6 (by omega) ((x0.trans x1).trans x2) ((b0.ext x1).ext x2) (b1.ext x2) b2 rfl rfl
end
end Go.Proofs.Ytgkjfhkjgdiodaa
