/- TariffTotals, for all that it can be called with, returns true. Condition: none. -/
import Derived.Test.YtbhdgedghfibcaaTqD
import GoSem.Step
import GoSem.ClaimKeys
import Derived.DeepKeys2
import Derived.RangeFuncLeaves
import Derived.OrdersIn
import Derived.Laws.World
import Derived.Laws.Sem
import Derived.RangeFuncRecord
import Derived.Laws.CopyRow
import Derived.Laws.Append
import Derived.Laws.Rows
import Derived.Laws.Slices
import Derived.Laws.Entries
import Derived.ChangeKeysEq
import Derived.IntWalk
import Derived.DeepKeys
import Derived.DeepKeys3
import Derived.Laws.StructEq
import Derived.MapKept
import Derived.Laws.AppendOwn
import Derived.ChangeArms
import Derived.ChangeOld
import Derived.Carry
import Derived.ChangeShapes
import Derived.KernelRfl
import Derived.ProofKit
import Derived.Test.YtbhdgedghfibcaaRows

namespace Go.Proofs.Ytbhdgedghfibcaa
open _root_.Go.Proofs.Try
open Go.Abs
set_option maxRecDepth 100000
noncomputable section
structure Rg where
  Lo : Int
  Hi : Int
instance : MK Rg := ⟨fun k => .agg 2 [.int .i64 k.Lo, .int .i64 k.Hi], fun k => fitsP .i64 k.Lo ∧ fitsP .i64 k.Hi ∧ True⟩
instance : MV Rg := ⟨fun k => .agg 2 [.int .i64 k.Lo, .int .i64 k.Hi]⟩
instance : Rp Rg := ⟨2, by omega, fun _ cs a => cs = [.int .i64 a.Lo, .int .i64 a.Hi], fun h => by rw [h]; rfl, fun h _ => h⟩
structure Tf where
  From : Int
  Whole : Bool
  Least : Int
  Weeks : List Int
  Counts : List Int
  Rates : List (List (List Int))
instance : Rp Tf := ⟨6, by omega, fun f cs a => ∃ c3 c4 c5 : C, cs = [.int .i64 a.From, .bool a.Whole, .int .i64 a.Least, c3, c4, c5] ∧ Sl f c3 a.Weeks ∧ Sl f c4 a.Counts ∧ Sl f c5 a.Rates, fun h => by obtain ⟨c3, c4, c5, h, _, _, _⟩ := h; rw [h]; rfl, fun h s => by obtain ⟨c3, c4, c5, h, h0, h1, h2⟩ := h; exact ⟨c3, c4, c5, h, h0.subv s, h1.subv s, h2.subv s⟩⟩
structure Clm where
  Crop : Int
  Value : Int
  Day : Rg
  Count : Rg
instance : MK Clm := ⟨fun k => .agg 6 [.int .i64 k.Crop, .int .i64 k.Value, .int .i64 k.Day.Lo, .int .i64 k.Day.Hi, .int .i64 k.Count.Lo, .int .i64 k.Count.Hi], fun k => fitsP .i64 k.Crop ∧ fitsP .i64 k.Value ∧ fitsP .i64 k.Day.Lo ∧ fitsP .i64 k.Day.Hi ∧ fitsP .i64 k.Count.Lo ∧ fitsP .i64 k.Count.Hi ∧ True⟩
instance : MV Clm := ⟨fun k => .agg 6 [.int .i64 k.Crop, .int .i64 k.Value, .int .i64 k.Day.Lo, .int .i64 k.Day.Hi, .int .i64 k.Count.Lo, .int .i64 k.Count.Hi]⟩
instance : Rp Clm := ⟨6, by omega, fun _ cs a => cs = [.int .i64 a.Crop, .int .i64 a.Value, .int .i64 a.Day.Lo, .int .i64 a.Day.Hi, .int .i64 a.Count.Lo, .int .i64 a.Count.Hi], fun h => by rw [h]; rfl, fun h _ => h⟩
structure Tr where
  Day : Int
  Count : Int
instance : MK Tr := ⟨fun k => .agg 2 [.int .i64 k.Day, .int .i64 k.Count], fun k => fitsP .i64 k.Day ∧ fitsP .i64 k.Count ∧ True⟩
instance : MV Tr := ⟨fun k => .agg 2 [.int .i64 k.Day, .int .i64 k.Count]⟩
instance : Rp Tr := ⟨2, by omega, fun _ cs a => cs = [.int .i64 a.Day, .int .i64 a.Count], fun h => by rw [h]; rfl, fun h _ => h⟩
structure Ht where
  Day : Int
  Count : Int
  crop : Int
instance : MK Ht := ⟨fun k => .agg 3 [.int .i64 k.Day, .int .i64 k.Count, .int .i64 k.crop], fun k => fitsP .i64 k.Day ∧ fitsP .i64 k.Count ∧ fitsP .i64 k.crop ∧ True⟩
instance : MV Ht := ⟨fun k => .agg 3 [.int .i64 k.Day, .int .i64 k.Count, .int .i64 k.crop]⟩
instance : Rp Ht := ⟨3, by omega, fun _ cs a => cs = [.int .i64 a.Day, .int .i64 a.Count, .int .i64 a.crop], fun h => by rw [h]; rfl, fun h _ => h⟩
end
end Go.Proofs.Ytbhdgedghfibcaa

namespace Go.Proofs.Ytbhdgedghfibcaa
open _root_.Go.Proofs.Try
open Go.Abs
set_option maxRecDepth 100000
noncomputable section
def Fv_Tf_Bool (f : M) (x : C) (g : Tf → Option (Bool)) : Prop := ∀ (f' m : M) (a0 : Tf) (c0 c1 c2 : C) (r : Bool) (Q : V → M → Prop), Sub f f' → Pre f' m → Sl f' c0 a0.Weeks → Sl f' c1 a0.Counts → Sl f' c2 a0.Rates → g a0 = some r → (∀ m', Ext m m' → Q (.c (.bool r)) m') → callP prog tbl [.agg 6 [(.int .i64 a0.From), (.bool a0.Whole), (.int .i64 a0.Least), c0, c1, c2]] x m Q
theorem Fv_Tf_Bool.sub {f m : M} {x : C} {g : Tf → Option (Bool)} (h : Fv_Tf_Bool f x g) (s : Sub f m) : Fv_Tf_Bool m x g := fun f' m' a0 c0 c1 c2 r Q hs => h f' m' a0 c0 c1 c2 r Q (s.trans hs)
def Fv_Clm_Bool (f : M) (x : C) (g : Clm → Option (Bool)) : Prop := ∀ (f' m : M) (a0 : Clm) (r : Bool) (Q : V → M → Prop), Sub f f' → Pre f' m → g a0 = some r → (∀ m', Ext m m' → Q (.c (.bool r)) m') → callP prog tbl [.agg 6 [(.int .i64 a0.Crop), (.int .i64 a0.Value), (.int .i64 a0.Day.Lo), (.int .i64 a0.Day.Hi), (.int .i64 a0.Count.Lo), (.int .i64 a0.Count.Hi)]] x m Q
theorem Fv_Clm_Bool.sub {f m : M} {x : C} {g : Clm → Option (Bool)} (h : Fv_Clm_Bool f x g) (s : Sub f m) : Fv_Clm_Bool m x g := fun f' m' a0 r Q hs => h f' m' a0 r Q (s.trans hs)
def Fv_Int_Bool (f : M) (x : C) (g : Int → Option (Bool)) : Prop := ∀ (f' m : M) (a0 : Int) (r : Bool) (Q : V → M → Prop), Sub f f' → Pre f' m → g a0 = some r → (∀ m', Ext m m' → Q (.c (.bool r)) m') → callP prog tbl [.c (.int .i64 a0)] x m Q
theorem Fv_Int_Bool.sub {f m : M} {x : C} {g : Int → Option (Bool)} (h : Fv_Int_Bool f x g) (s : Sub f m) : Fv_Int_Bool m x g := fun f' m' a0 r Q hs => h f' m' a0 r Q (s.trans hs)
def Fv_LInt_Bool (f : M) (x : C) (g : List Int → Option (Bool)) : Prop := ∀ (f' m : M) (a0 : List Int) (c0 : C) (r : Bool) (Q : V → M → Prop), Sub f f' → Pre f' m → Sl f' c0 a0 → g a0 = some r → (∀ m', Ext m m' → Q (.c (.bool r)) m') → callP prog tbl [.c c0] x m Q
theorem Fv_LInt_Bool.sub {f m : M} {x : C} {g : List Int → Option (Bool)} (h : Fv_LInt_Bool f x g) (s : Sub f m) : Fv_LInt_Bool m x g := fun f' m' a0 c0 r Q hs => h f' m' a0 c0 r Q (s.trans hs)
def Fv_LLInt_Bool (f : M) (x : C) (g : List (List Int) → Option (Bool)) : Prop := ∀ (f' m : M) (a0 : List (List Int)) (c0 : C) (r : Bool) (Q : V → M → Prop), Sub f f' → Pre f' m → Sl f' c0 a0 → g a0 = some r → (∀ m', Ext m m' → Q (.c (.bool r)) m') → callP prog tbl [.c c0] x m Q
theorem Fv_LLInt_Bool.sub {f m : M} {x : C} {g : List (List Int) → Option (Bool)} (h : Fv_LLInt_Bool f x g) (s : Sub f m) : Fv_LLInt_Bool m x g := fun f' m' a0 c0 r Q hs => h f' m' a0 c0 r Q (s.trans hs)
def Fv_Tf_Int_Int (f : M) (x : C) (g : Tf → Int → Option (Int)) : Prop := ∀ (f' m : M) (a0 : Tf) (a1 : Int) (c0 c1 c2 : C) (r : Int) (Q : V → M → Prop), Sub f f' → Pre f' m → Sl f' c0 a0.Weeks → Sl f' c1 a0.Counts → Sl f' c2 a0.Rates → g a0 a1 = some r → (∀ m', Ext m m' → Q (.c (.int .i64 r)) m') → callP prog tbl [.agg 6 [(.int .i64 a0.From), (.bool a0.Whole), (.int .i64 a0.Least), c0, c1, c2], .c (.int .i64 a1)] x m Q
theorem Fv_Tf_Int_Int.sub {f m : M} {x : C} {g : Tf → Int → Option (Int)} (h : Fv_Tf_Int_Int f x g) (s : Sub f m) : Fv_Tf_Int_Int m x g := fun f' m' a0 a1 c0 c1 c2 r Q hs => h f' m' a0 a1 c0 c1 c2 r Q (s.trans hs)
def Fw_Tr_Tr_Int (mc : C) (f : M) (x : C) (g : Tr → Tr → (Option (Ht → Option (Int))) → Option (Int × Option (Ht → Option (Int)))) : Prop := ∀ (f' m : M) (a0 : Tr) (a1 : Tr) (M0 : Option (Ht → Option (Int))) (r : Int × Option (Ht → Option (Int))) (Q : V → M → Prop), Sub f f' → Pre f' m → Mc f' m mc M0 → g a0 a1 M0 = some r → (∀ m', ExtB mc m m' → Mi m' mc r.2 → Q (.c (.int .i64 r.1)) m') → callP prog tbl [.agg 2 [(.int .i64 a0.Day), (.int .i64 a0.Count)], .agg 2 [(.int .i64 a1.Day), (.int .i64 a1.Count)]] x m Q
theorem Fw_Tr_Tr_Int.sub {mc : C} {f m : M} {x : C} {g : Tr → Tr → (Option (Ht → Option (Int))) → Option (Int × Option (Ht → Option (Int)))} (h : Fw_Tr_Tr_Int mc f x g) (s : Sub f m) : Fw_Tr_Tr_Int mc m x g := fun f' m' a0 a1 M0 r Q hs => h f' m' a0 a1 M0 r Q (s.trans hs)
end
end Go.Proofs.Ytbhdgedghfibcaa

namespace Go.Proofs.Ytbhdgedghfibcaa
open _root_.Go.Proofs.Try
open Go.Abs
set_option maxRecDepth 100000
noncomputable section
/-- the index of the last number of a list that is at most n -/
def lastN : List Int → Int → Nat
  | x :: y :: l, n => if y ≤ n then lastN (y :: l) n + 1 else 0
  | _, _ => 0
theorem lastN_lt : ∀ (l : List Int) (n : Int), l ≠ [] → lastN l n < l.length
  | [], _, h => absurd rfl h
  | [_], _, _ => by simp [lastN]
  | x :: y :: l, n, _ => by
    unfold lastN
    split
    · have := lastN_lt (y :: l) n (by simp)
      simp only [List.length_cons] at this ⊢; omega
    · simp
end
end Go.Proofs.Ytbhdgedghfibcaa

namespace Go.Proofs.Ytbhdgedghfibcaa
open _root_.Go.Proofs.Try
open Go.Abs
set_option maxRecDepth 100000
noncomputable section
/-- the number i of a list, or 0 -/
def nth (l : List Int) (i : Nat) : Int := l.getD i 0
theorem nth_of {l : List Int} {i : Nat} {x : Int} (h : l[i]? = some x) : nth l i = x := by
  unfold nth; rw [List.getD_eq_getElem?_getD, h]; rfl
theorem nth_some {l : List Int} {i : Nat} (h : i < l.length) : l[i]? = some (nth l i) := by
  rw [List.getElem?_eq_getElem h, nth_of (List.getElem?_eq_getElem h)]
/-- counts that are so, and rates -/
structure Cnt (counts : List Int) : Prop where
  pw : counts.Pairwise (· < ·)
  hd : counts.head? = some 0
  lst : counts.getLast? = some 100
structure Rts (counts rates : List Int) : Prop extends Cnt counts where
  len : rates.length = counts.length
  rng : ∀ r ∈ rates, 0 ≤ r ∧ r ≤ 100
variable {cs rs : List Int}
theorem Cnt.ne (h : Cnt cs) : cs ≠ [] := fun e => by have := h.hd; rw [e] at this; cases this
theorem Cnt.h0 (h : Cnt cs) {n : Int} (hn : 0 ≤ n) : ∀ x, cs.head? = some x → x ≤ n := fun x hx => by
  have := h.hd; rw [this] at hx; cases hx; exact hn
theorem Cnt.lt (h : Cnt cs) (n : Int) : lastN cs n < cs.length := lastN_lt cs n h.ne
theorem Rts.at (h : Rts cs rs) {i : Nat} (hi : i < cs.length) : 0 ≤ nth rs i ∧ nth rs i ≤ 100 := by
  have : i < rs.length := by rw [h.len]; exact hi
  exact h.rng _ (List.mem_of_getElem? (nth_some this))
end
end Go.Proofs.Ytbhdgedghfibcaa

namespace Go.Proofs.Ytbhdgedghfibcaa
open _root_.Go.Proofs.Try
open Go.Abs
set_option maxRecDepth 100000
noncomputable section
structure VT (t : Tf) : Prop where
  frm : 0 ≤ t.From ∧ t.From ≤ 120
  lst : 0 ≤ t.Least ∧ t.Least ≤ 100
  wks : t.Weeks.Pairwise (· < ·) ∧ t.Weeks.head? = some 0 ∧ ∀ x ∈ t.Weeks, 0 ≤ x ∧ x ≤ 120
  cts : t.Counts.Pairwise (· < ·) ∧ t.Counts.head? = some 0 ∧ ∀ x ∈ t.Counts, 0 ≤ x ∧ x ≤ 100
  c100 : t.Counts.getLast? = some 100
  rne : t.Rates ≠ []
  rts : ∀ c ∈ t.Rates, c.length = t.Weeks.length ∧ ∀ w ∈ c, w.length = t.Counts.length ∧ ∀ r ∈ w, 0 ≤ r ∧ r ≤ 100
def cropsN (l : List Tf) : Nat := match l with | [] => 0 | t :: _ => t.Rates.length
structure VL (l : List Tf) : Prop where
  ne : l ≠ []
  vt : ∀ t ∈ l, VT t
  pw : (l.map (·.From)).Pairwise (· < ·)
  hd : (l.map (·.From)).head? = some 0
  crp : ∀ t ∈ l, t.Rates.length = cropsN l
/-- the rates of a crop and a day -/
def ratesN (t : Tf) (crop day : Int) : List Int := (t.Rates.getD crop.toNat []).getD (lastN t.Weeks day) []
instance : Inhabited Tf := ⟨⟨0, false, 0, [], [], []⟩⟩
def ofN (l : List Tf) (day : Int) : Tf := l.getD (lastN (l.map (·.From)) day) default
theorem VT.wlt {t : Tf} (h : VT t) (d : Int) : lastN t.Weeks d < t.Weeks.length := lastN_lt _ _ fun e => by have := h.wks.2.1; rw [e] at this; cases this
theorem VT.cnt {t : Tf} (h : VT t) : Cnt t.Counts := ⟨h.cts.1, h.cts.2.1, h.c100⟩
theorem VT.rates {t : Tf} (h : VT t) {crop : Int} (h0 : 0 ≤ crop) (h1 : crop < t.Rates.length) (day : Int) :
    ∃ wks, t.Rates[crop.toNat]? = some wks ∧ wks[lastN t.Weeks day]? = some (ratesN t crop day) ∧ Rts t.Counts (ratesN t crop day) := by
  have hc : crop.toNat < t.Rates.length := by omega
  have e1 := List.getElem?_eq_getElem hc
  obtain ⟨q1, q2⟩ := h.rts _ (List.getElem_mem hc)
  have hw : lastN t.Weeks day < t.Rates[crop.toNat].length := by rw [q1]; exact h.wlt day
  have e2 := List.getElem?_eq_getElem hw
  have e3 : ratesN t crop day = t.Rates[crop.toNat][lastN t.Weeks day] := by
    have e4 : t.Rates.getD crop.toNat [] = t.Rates[crop.toNat] := by rw [List.getD_eq_getElem?_getD, e1]; rfl
    unfold ratesN
    rw [e4, List.getD_eq_getElem?_getD, e2, Option.getD_some]
  obtain ⟨q3, q4⟩ := q2 _ (List.getElem_mem hw)
  refine ⟨_, e1, by rw [e2, e3], ⟨h.cnt, by rw [e3]; exact q3, by rw [e3]; exact q4⟩⟩
theorem VL.of {l : List Tf} (h : VL l) (day : Int) : l[lastN (l.map (·.From)) day]? = some (ofN l day) ∧ ofN l day ∈ l := by
  have hl := lastN_lt (l.map (·.From)) day fun e => h.ne (List.map_eq_nil_iff.1 e)
  rw [List.length_map] at hl
  have e : l[lastN (l.map (·.From)) day]? = some (ofN l day) := by
    unfold ofN
    rw [List.getD_eq_getElem?_getD, List.getElem?_eq_getElem hl, Option.getD_some]
  exact ⟨e, List.mem_of_getElem? e⟩
theorem VL.vof {l : List Tf} (h : VL l) (day : Int) : VT (ofN l day) := h.vt _ (h.of day).2
theorem VL.cof {l : List Tf} (h : VL l) (day : Int) : (ofN l day).Rates.length = cropsN l := h.crp _ (h.of day).2
theorem VL.rts {l : List Tf} (h : VL l) {crop : Int} (h0 : 0 ≤ crop) (h1 : crop < cropsN l) (day : Int) : Rts (ofN l day).Counts (ratesN (ofN l day) crop day) := by
  obtain ⟨_, _, _, q⟩ := (h.vof day).rates h0 (by rw [h.cof]; exact h1) day
  exact q
end
end Go.Proofs.Ytbhdgedghfibcaa

namespace Go.Proofs.Ytbhdgedghfibcaa
open _root_.Go.Proofs.Try
open Go.Abs
set_option maxRecDepth 100000
noncomputable section
/-- another Least, or Whole -/
structure Same (t u : Tf) : Prop where
  frm : u.From = t.From
  wks : u.Weeks = t.Weeks
  cts : u.Counts = t.Counts
  rts : u.Rates = t.Rates
theorem VT.same {t u : Tf} (h : VT t) (s : Same t u) (hl : 0 ≤ u.Least ∧ u.Least ≤ 100) : VT u :=
  ⟨by rw [s.frm]; exact h.frm, hl, by rw [s.wks]; exact h.wks, by rw [s.cts]; exact h.cts, by rw [s.cts]; exact h.c100, by rw [s.rts]; exact h.rne, by rw [s.rts, s.wks, s.cts]; exact h.rts⟩
theorem crops_map {f : Tf → Tf} {l : List Tf} (hs : ∀ t ∈ l, Same t (f t)) : cropsN (l.map f) = cropsN l := by
  cases l with
  | nil => rfl
  | cons t l => show (f t).Rates.length = t.Rates.length; rw [(hs t (List.mem_cons_self ..)).rts]
theorem from_map {f : Tf → Tf} {l : List Tf} (hs : ∀ t ∈ l, Same t (f t)) : (l.map f).map (·.From) = l.map (·.From) := by
  rw [List.map_map]
  exact List.map_congr_left fun t ht => (hs t ht).frm
theorem VL.map {f : Tf → Tf} {l : List Tf} (h : VL l) (hs : ∀ t ∈ l, Same t (f t)) (hl : ∀ t ∈ l, 0 ≤ (f t).Least ∧ (f t).Least ≤ 100) : VL (l.map f) := by
  have hf := from_map hs
  refine ⟨fun e => h.ne (List.map_eq_nil_iff.1 e), fun u hu => ?_, by rw [hf]; exact h.pw, by rw [hf]; exact h.hd, fun u hu => ?_⟩
  · obtain ⟨t, ht, rfl⟩ := List.mem_map.1 hu
    exact (h.vt t ht).same (hs t ht) (hl t ht)
  · obtain ⟨t, ht, rfl⟩ := List.mem_map.1 hu
    rw [crops_map hs, (hs t ht).rts]
    exact h.crp t ht
end
end Go.Proofs.Ytbhdgedghfibcaa

namespace Go.Proofs.Ytbhdgedghfibcaa
open _root_.Go.Proofs.Try
open Go.Abs
set_option maxRecDepth 100000
noncomputable section
/-- lists that are not too long -/
def shrt {α : Type} (l : List α) : Prop := l.length ≤ 1048576
theorem shrt.lt {α : Type} {l : List α} (h : shrt l) : l.length < 4611686018427387904 := by unfold shrt at h; omega
end
end Go.Proofs.Ytbhdgedghfibcaa

namespace Go.Proofs.Ytbhdgedghfibcaa
open _root_.Go.Proofs.Try
open Go.Abs
set_option maxRecDepth 100000
noncomputable section
def okAt (l : List Tf) (j : Nat) (t : Tf) : Prop := VT t ∧ t.Rates.length = cropsN l ∧ (j = 0 → t.From = 0) ∧ (0 < j → ∀ u, l[j - 1]? = some u → u.From < t.From)
end
end Go.Proofs.Ytbhdgedghfibcaa

namespace Go.Proofs.Ytbhdgedghfibcaa
open _root_.Go.Proofs.Try
open Go.Abs
set_option maxRecDepth 100000
noncomputable section
theorem Cnt.rng {t : Tf} (h : VT t) {i : Nat} (hi : i < t.Counts.length) : 0 ≤ nth t.Counts i ∧ nth t.Counts i ≤ 100 := h.cts.2.2 _ (List.mem_of_getElem? (nth_some hi))
end
end Go.Proofs.Ytbhdgedghfibcaa

namespace Go.Proofs.Ytbhdgedghfibcaa
open _root_.Go.Proofs.Try
open Go.Abs
set_option maxRecDepth 100000
noncomputable section
theorem drawn {l : List Tf} (hf : faultN l = 0) {crop day count : Int} (hc : fitsP .u8 crop) (hd : fitsP .u8 day) (hn : fitsP .u8 count) :
    wrapZ .i64 crop = crop ∧ wrapZ .i64 day = day ∧ wrapZ .i64 count = count ∧ (0 ≤ crop ∧ 0 ≤ day ∧ 0 ≤ count) ∧ (0 < (cropsN l : Int) ∧ (cropsN l : Int) ≤ 3) ∧ InN l (crop % cropsN l) (day % 121) (count % 101) := by
  have h1 := fU8 hc
  have h2 := fU8 hd
  have h3 := fU8 hn
  have hcr := crops_rng hf
  have e1 := Int.emod_nonneg crop (show (cropsN l : Int) ≠ 0 by omega)
  have e2 := Int.emod_lt_of_pos crop (show 0 < (cropsN l : Int) by omega)
  exact ⟨wz (fI (by omega)), wz (fI (by omega)), wz (fI (by omega)), ⟨h1.1, h2.1, h3.1⟩, by omega, ⟨e1, e2⟩, by omega, by omega⟩
end
end Go.Proofs.Ytbhdgedghfibcaa

namespace Go.Proofs.Ytbhdgedghfibcaa
open _root_.Go.Proofs.Try
open Go.Abs
set_option maxRecDepth 100000
noncomputable section
def seg (lo : Int) : Nat → List Int
  | 0 => []
  | n + 1 => lo :: seg (lo + 1) n
end
end Go.Proofs.Ytbhdgedghfibcaa

