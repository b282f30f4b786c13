/- An evaluator of the code of a program, its soundness, what calls ask, memory, and what functions of the program do. Condition: none; a lemma text of this claim. -/
import Derived.Test.YtoejeieblichnaaWaF

namespace Go.Proofs.Ytoejeieblichnaa
theorem obs {α β : Type} {a : α} {f : α → Option β} : (some a).bind f = f a := rfl
theorem gdi {α : Type} {p A : Prop} {o : Option α} {r : α} (hp : Go.Abs.gd p o = some r) (h : p → o = some r → A) : p ∧ A := have ⟨a, b⟩ := Go.Abs.gd_some hp; ⟨a, h a b⟩
end Go.Proofs.Ytoejeieblichnaa

namespace Go.Proofs.Ytoejeieblichnaa
open _root_.Go.Proofs.Try
open Go.Abs
set_option maxRecDepth 100000
noncomputable section
structure Pt where
 X : Int
 Y : Int
def ok_Pt (a : Pt) : Prop := (fitsP .i64 a.X) ∧ (fitsP .i64 a.Y)
instance : MK Pt := ⟨fun k => .agg 2 [.int .i64 k.X, .int .i64 k.Y], fun k => fitsP .i64 k.X ∧ fitsP .i64 k.Y ∧ True⟩
instance : MV Pt := ⟨fun k => .agg 2 [.int .i64 k.X, .int .i64 k.Y]⟩
instance : Rp Pt := ⟨2, by omega, fun _ cs a => cs = [.int .i64 a.X, .int .i64 a.Y], fun h => by rw [h]; rfl, fun h _ => h⟩
structure Rg where
 Lo : Int
 Hi : Int
def ok_Rg (a : Rg) : Prop := (fitsP .i64 a.Lo) ∧ (fitsP .i64 a.Hi)
instance : MK Rg := ⟨fun k => .agg 2 [.int .i64 k.Lo, .int .i64 k.Hi], fun k => fitsP .i64 k.Lo ∧ fitsP .i64 k.Hi ∧ True⟩
instance : MV Rg := ⟨fun k => .agg 2 [.int .i64 k.Lo, .int .i64 k.Hi]⟩
instance : Rp Rg := ⟨2, by omega, fun _ cs a => cs = [.int .i64 a.Lo, .int .i64 a.Hi], fun h => by rw [h]; rfl, fun h _ => h⟩
structure Frm where
 At : Pt
 Days : Rg
def ok_Frm (a : Frm) : Prop := (ok_Pt a.At) ∧ (ok_Rg a.Days)
instance : MK Frm := ⟨fun k => .agg 4 [.int .i64 k.At.X, .int .i64 k.At.Y, .int .i64 k.Days.Lo, .int .i64 k.Days.Hi], fun k => fitsP .i64 k.At.X ∧ fitsP .i64 k.At.Y ∧ fitsP .i64 k.Days.Lo ∧ fitsP .i64 k.Days.Hi ∧ True⟩
instance : MV Frm := ⟨fun k => .agg 4 [.int .i64 k.At.X, .int .i64 k.At.Y, .int .i64 k.Days.Lo, .int .i64 k.Days.Hi]⟩
instance : Rp Frm := ⟨4, by omega, fun _ cs a => cs = [.int .i64 a.At.X, .int .i64 a.At.Y, .int .i64 a.Days.Lo, .int .i64 a.Days.Hi], fun h => by rw [h]; rfl, fun h _ => h⟩
theorem rd_Frm {f : M} {x : C} {l : List Frm} (h : Sl f x l) {n : Nat} {a : Frm} (hi : l[n]? = some a) : ∃ _u : Unit, (∀ m, Sub f m → ldA m (slAt x (n * 4)) 4 = some [.int .i64 a.At.X, .int .i64 a.At.Y, .int .i64 a.Days.Lo, .int .i64 a.Days.Hi] ∧ (∀ j c, ([.int .i64 a.At.X, .int .i64 a.At.Y, .int .i64 a.Days.Lo, .int .i64 a.Days.Hi] : List C)[j]? = some c → ldC m (ptAdd (slAt x (n * 4)) j) = some c) ∧ ∀ j i, 0 < i → j + i ≤ 4 → ldA m (ptAdd (slAt x (n * 4)) j) i = some ((([.int .i64 a.At.X, .int .i64 a.At.Y, .int .i64 a.Days.Lo, .int .i64 a.Days.Hi] : List C).drop j).take i)) := by
 obtain ⟨cs, q1, q2⟩ := h.rdP hi
 have q2 : cs = _ := q2
 subst q2
 exact ⟨(), q1⟩
structure Rnd where
 Adjusters : Int
 Last : Int
 Miles : Int
 Home : Pt
 Farms : List Frm
def ok_Rnd (a : Rnd) : Prop := (fitsP .i64 a.Adjusters) ∧ (fitsP .i64 a.Last) ∧ (fitsP .i64 a.Miles) ∧ (ok_Pt a.Home) ∧ (a.Farms.length ≤ maxLen ∧ ∀ a0 ∈ a.Farms, ok_Frm a0)
instance : Rp Rnd := ⟨6, by omega, fun f cs a => ∃ c5 : C, cs = [.int .i64 a.Adjusters, .int .i64 a.Last, .int .i64 a.Miles, .int .i64 a.Home.X, .int .i64 a.Home.Y, c5] ∧ Sl f c5 a.Farms, fun h => by obtain ⟨c5, h, _⟩ := h; rw [h]; rfl, fun h s => by obtain ⟨c5, h, h0⟩ := h; exact ⟨c5, h, h0.subv s⟩⟩
structure Set5 where
 c0 : Bool
 c1 : Bool
 c2 : Bool
 c3 : Bool
 c4 : Bool
instance : MK Set5 := ⟨fun k => .agg 5 [.bool k.c0, .bool k.c1, .bool k.c2, .bool k.c3, .bool k.c4], fun _ => True⟩
instance : MV Set5 := ⟨fun k => .agg 5 [.bool k.c0, .bool k.c1, .bool k.c2, .bool k.c3, .bool k.c4]⟩
instance : Rp Set5 := ⟨5, by omega, fun _ cs a => cs = [.bool a.c0, .bool a.c1, .bool a.c2, .bool a.c3, .bool a.c4], fun h => by rw [h]; rfl, fun h _ => h⟩
structure Wk where
 r : Rnd
 all : Set5
 lengths : Option (Set5 → Option (Int))
instance : Flat Pt := ⟨fun _ _ _ _ h => h⟩
instance : Flat Rg := ⟨fun _ _ _ _ h => h⟩
instance : Flat Frm := ⟨fun _ _ _ _ h => h⟩
instance : Flat Set5 := ⟨fun _ _ _ _ h => h⟩
instance : IM (List Int × Int) := ⟨fun m X a x => ∃ c0 : C, x = [.c c0, .c (.int .i64 a.2)] ∧ SlX m X c0 a.1, fun ⟨c0, h, h0⟩ hn hv hg => ⟨c0, h, h0.mv hn hv hg⟩⟩
def pawake : Option Bool := some true
def prIn (n : Int) (low : Int) (high : Int) : Option (Bool) := (if low ≤ n then (some (decide (n ≤ high))) else (some false))
def prIsPoint (p : Pt) : Option (Bool) := ((prIn p.X (0 : Int) (9 : Int)).bind fun r308 => (if r308 = true then ((prIn p.Y (0 : Int) (9 : Int)).bind fun r315 => (some r315)) else (some false)))
def prFault_L0 (r : Rnd) : Nat → Int → Option (Int)
 | 0, _ => none
 | d342 + 1, x15 => (if x15 < (r.Farms.length : Int) then ((idx r.Farms x15).bind fun v344 => ((prIsPoint v344.At).bind fun r359 => (if r359 = true then ((prIn v344.Days.Lo (0 : Int) v344.Days.Hi).bind fun r367 => (if r367 = true then (if r.Last < v344.Days.Hi then (some (1 : Int)) else (gd (fitsP .i64 (x15 + 1)) (prFault_L0 r d342 (x15 + 1)))) else (some (1 : Int)))) else (some (1 : Int))))) else (some (0 : Int)))
def prFault (r : Rnd) : Option (Int) := (if (3 : Int) < r.Adjusters then (some (3 : Int)) else (if (5 : Int) < r.Last then (some (3 : Int)) else (if (30 : Int) < r.Miles then (some (3 : Int)) else (if (5 : Int) < (r.Farms.length : Int) then (some (3 : Int)) else (if r.Adjusters < (1 : Int) then (some (1 : Int)) else (if r.Last < (0 : Int) then (some (1 : Int)) else (if r.Miles < (0 : Int) then (some (1 : Int)) else ((prIsPoint r.Home).bind fun r333 => (if r333 = true then (prFault_L0 r 1000000 (0 : Int)) else (some (1 : Int)))))))))))
def prDistance (a : Pt) (b : Pt) : Option (Int) := (gd (fitsP .i64 (a.X - b.X)) (gd (fitsP .i64 (b.X - a.X)) (gd (fitsP .i64 (a.Y - b.Y)) (gd (fitsP .i64 (b.Y - a.Y)) (gd (fitsP .i64 ((max (a.X - b.X) (b.X - a.X)) + (max (a.Y - b.Y) (b.Y - a.Y)))) (some ((max (a.X - b.X) (b.X - a.X)) + (max (a.Y - b.Y) (b.Y - a.Y)))))))))
def prDifferent_L0 (r : Rnd) (l : List Int) : Nat → Int → Int → Option (Bool)
 | 0, _, _ => none
 | d400 + 1, x3, x4 => (if x4 < (l.length : Int) then ((idx l x4).bind fun x402 => (gd (fitsP .i64 ((r.Farms.length : Int) - (1 : Int))) ((prIn x402 (0 : Int) ((r.Farms.length : Int) - (1 : Int))).bind fun r405 => (if r405 = true then ((idx l x4).bind fun x412 => (gd ((0 : Int) ≤ x3) (gd ((0 : Int) ≤ (wrapZ .u64 x412)) (gd ((wrapZ .u64 x412) ≤ (64 : Int)) (gd (fitsP .i64 (x3 / ((2 : Int) ^ (Int.toNat (wrapZ .u64 x412))))) (gd ((0 : Int) ≤ (x3 / ((2 : Int) ^ (Int.toNat (wrapZ .u64 x412))))) (gd ((0 : Int) < (2 : Int)) (gd (fitsP .i64 ((x3 / ((2 : Int) ^ (Int.toNat (wrapZ .u64 x412)))) % (2 : Int))) (if ((x3 / ((2 : Int) ^ (Int.toNat (wrapZ .u64 x412)))) % (2 : Int)) = (1 : Int) then (some false) else ((idx l x4).bind fun x422 => (gd ((0 : Int) ≤ (1 : Int)) (gd ((0 : Int) ≤ (wrapZ .u64 x422)) (gd ((wrapZ .u64 x422) ≤ (64 : Int)) (gd (fitsP .i64 ((1 : Int) * ((2 : Int) ^ (Int.toNat (wrapZ .u64 x422))))) (gd ((0 : Int) ≤ x3) (gd ((0 : Int) ≤ ((1 : Int) * ((2 : Int) ^ (Int.toNat (wrapZ .u64 x422))))) (gd (fitsP .i64 x3) (gd (fitsP .i64 ((1 : Int) * ((2 : Int) ^ (Int.toNat (wrapZ .u64 x422))))) (gd (fitsP .i64 (((Nat.lor (Int.toNat x3) (Int.toNat ((1 : Int) * ((2 : Int) ^ (Int.toNat (wrapZ .u64 x422)))))) : Nat) : Int)) (gd (fitsP .i64 (x4 + 1)) (prDifferent_L0 r l d400 (((Nat.lor (Int.toNat x3) (Int.toNat ((1 : Int) * ((2 : Int) ^ (Int.toNat (wrapZ .u64 x422)))))) : Nat) : Int) (x4 + 1)))))))))))))))))))))) else (some false))))) else (some true))
def prDifferent (r : Rnd) (l : List Int) : Option (Bool) := (prDifferent_L0 r l (l.length + 1) (0 : Int) (0 : Int))
def prLength_L0 (r : Rnd) (l : List Int) : Nat → Int → Int → Int → Int → Option (Int)
 | 0, _, _, _, _ => none
 | d455 + 1, y453, y454, x6, x7 => (if x7 < (l.length : Int) then ((idx l x7).bind fun x457 => ((idx r.Farms x457).bind fun v459 => ((prDistance ({ X := y453, Y := y454 } : Pt) v459.At).bind fun r462 => (gd (fitsP .i64 (x6 + r462)) ((idx l x7).bind fun x470 => ((idx r.Farms x470).bind fun v472 => (gd (fitsP .i64 (x7 + 1)) (prLength_L0 r l d455 v472.At.X v472.At.Y (x6 + r462) (x7 + 1))))))))) else ((prDistance ({ X := y453, Y := y454 } : Pt) r.Home).bind fun r482 => (gd (fitsP .i64 (x6 + r482)) (some (x6 + r482)))))
def prLength (r : Rnd) (l : List Int) : Option (Int) := (prLength_L0 r l (l.length + 1) r.Home.X r.Home.Y (0 : Int) (0 : Int))
def prAll (r : Rnd) : Option (Int) := (gd ((0 : Int) ≤ (1 : Int)) (gd ((0 : Int) ≤ (wrapZ .u64 (r.Farms.length : Int))) (gd ((wrapZ .u64 (r.Farms.length : Int)) ≤ (64 : Int)) (gd (fitsP .i64 ((1 : Int) * ((2 : Int) ^ (Int.toNat (wrapZ .u64 (r.Farms.length : Int)))))) (gd (fitsP .i64 (((1 : Int) * ((2 : Int) ^ (Int.toNat (wrapZ .u64 (r.Farms.length : Int))))) - (1 : Int))) (some (((1 : Int) * ((2 : Int) ^ (Int.toNat (wrapZ .u64 (r.Farms.length : Int))))) - (1 : Int))))))))
def prBits_L0 (bits : Int) : Nat → (List Int) → Int → Option (List Int)
 | 0, _, _ => none
 | d504 + 1, l502, x2 => (gd ((0 : Int) ≤ bits) (gd ((0 : Int) ≤ (wrapZ .u64 x2)) (gd ((wrapZ .u64 x2) ≤ (64 : Int)) (gd (fitsP .i64 (bits / ((2 : Int) ^ (Int.toNat (wrapZ .u64 x2))))) (if (0 : Int) < (bits / ((2 : Int) ^ (Int.toNat (wrapZ .u64 x2)))) then (gd ((0 : Int) ≤ bits) (gd ((0 : Int) ≤ (wrapZ .u64 x2)) (gd ((wrapZ .u64 x2) ≤ (64 : Int)) (gd (fitsP .i64 (bits / ((2 : Int) ^ (Int.toNat (wrapZ .u64 x2))))) (gd ((0 : Int) ≤ (bits / ((2 : Int) ^ (Int.toNat (wrapZ .u64 x2))))) (gd ((0 : Int) < (2 : Int)) (gd (fitsP .i64 ((bits / ((2 : Int) ^ (Int.toNat (wrapZ .u64 x2)))) % (2 : Int))) (if ((bits / ((2 : Int) ^ (Int.toNat (wrapZ .u64 x2)))) % (2 : Int)) = (1 : Int) then (gd (l502.length < 1048576) (gd (fitsP .i64 (x2 + 1)) (prBits_L0 bits d504 (l502 ++ [x2]) (x2 + 1)))) else (gd (fitsP .i64 (x2 + 1)) (prBits_L0 bits d504 l502 (x2 + 1))))))))))) else (some l502))))))
def prBits (bits : Int) : Option (List Int) := (prBits_L0 bits 1000000 [] (0 : Int))
def plList (l : List Int) : Option (List Int) := (gd (([] : List Int).length + l.length ≤ 1048576) (some ([] ++ l)))
def plRound_L0 (r : Rnd) : Nat → Int → Int → Int → Int → Int → (List Frm) → Int → Option (Rnd)
 | 0, _, _, _, _, _, _, _ => none
 | d580 + 1, y572, y573, y574, y575, y576, y577, x10 => (if x10 < (r.Farms.length : Int) then ((idx r.Farms x10).bind fun v582 => (gd (y577.length < 1048576) (gd (fitsP .i64 (x10 + 1)) (plRound_L0 r d580 y572 y573 y574 y575 y576 (y577 ++ [v582]) (x10 + 1))))) else (some ({ Adjusters := y572, Last := y573, Miles := y574, Home := ({ X := y575, Y := y576 } : Pt), Farms := y577 } : Rnd)))
def plRound (r : Rnd) : Option (Rnd) := (plRound_L0 r 1000000 r.Adjusters r.Last r.Miles r.Home.X r.Home.Y [] (0 : Int))
def plFault (r : Rnd) : Option (Int) := ((prFault r).bind fun r642 => (some r642))
def plSet (r : Rnd) (bits : Int) : Option (List Int) := ((prAll r).bind fun r653 => (gd ((0 : Int) ≤ (wrapZ .i64 bits)) (gd ((0 : Int) ≤ r653) (gd (fitsP .i64 (wrapZ .i64 bits)) (gd (fitsP .i64 r653) (gd (fitsP .i64 (((Nat.land (Int.toNat (wrapZ .i64 bits)) (Int.toNat r653)) : Nat) : Int)) ((prBits (((Nat.land (Int.toNat (wrapZ .i64 bits)) (Int.toNat r653)) : Nat) : Int)).bind fun r664 => (some r664))))))))
def phas (r : Rg) (n : Int) : Option (Bool) := (if r.Lo ≤ n then (some (decide (n ≤ r.Hi))) else (some false))
def ptooMuch (r : Rnd) : Option (Bool) := (if (3 : Int) < r.Adjusters then (some true) else (if (5 : Int) < r.Last then (some true) else (if (30 : Int) < r.Miles then (some true) else (some (decide ((5 : Int) < (r.Farms.length : Int)))))))
def ppvalid (p : Pt) : Option (Bool) := ((phas ({ Lo := (0 : Int), Hi := (9 : Int) } : Rg) p.X).bind fun r704 => (if r704 = true then ((phas ({ Lo := (0 : Int), Hi := (9 : Int) } : Rg) p.Y).bind fun r712 => (some r712)) else (some false)))
def phasDay (r : Rnd) (n : Int) : Option (Bool) := ((phas ({ Lo := (0 : Int), Hi := r.Last } : Rg) n).bind fun r724 => (some r724))
def phasFarm (r : Rnd) (n : Int) : Option (Bool) := (gd (fitsP .i64 ((r.Farms.length : Int) - (1 : Int))) ((phas ({ Lo := (0 : Int), Hi := ((r.Farms.length : Int) - (1 : Int)) } : Rg) n).bind fun r736 => (some r736)))
def pvalidFarm (r : Rnd) (q : Frm) : Option (Bool) := ((ppvalid q.At).bind fun r753 => (if r753 = true then (if q.Days.Lo ≤ q.Days.Hi then ((phasDay r q.Days.Lo).bind fun r762 => (if r762 = true then ((phasDay r q.Days.Hi).bind fun r770 => (some r770)) else (some false))) else (some false)) else (some false)))
def peachF1 (x : Frm) (passes : Frm → Option (Bool)) : Option (Bool) := ((passes x).bind fun r782 => (some (!r782)))
def pindexF_L0 (l : List Frm) (p : Frm → Option (Bool)) : Nat → Int → Option (Int)
 | 0, _ => none
 | d790 + 1, x2 => (if x2 < (l.length : Int) then ((idx l x2).bind fun v792 => ((p v792).bind fun r795 => (if r795 = true then (some x2) else (gd (fitsP .i64 (x2 + 1)) (pindexF_L0 l p d790 (x2 + 1)))))) else (some (-1 : Int)))
def pindexF (l : List Frm) (p : Frm → Option (Bool)) : Option (Int) := (pindexF_L0 l p (l.length + 1) (0 : Int))
def pcontainsF (l : List Frm) (p : Frm → Option (Bool)) : Option (Bool) := ((pindexF l p).bind fun r802 => (some (decide ((0 : Int) ≤ r802))))
def peachF (l : List Frm) (passes : Frm → Option (Bool)) : Option (Bool) := ((pcontainsF l (fun a816 => peachF1 a816 passes)).bind fun r818 => (some (!r818)))
def pvalid (r : Rnd) : Option (Bool) := (if (1 : Int) ≤ r.Adjusters then (if (0 : Int) ≤ r.Last then (if (0 : Int) ≤ r.Miles then ((ppvalid r.Home).bind fun r831 => (if r831 = true then ((peachF r.Farms (fun a838 => pvalidFarm r a838)).bind fun r840 => (some r840)) else (some false))) else (some false)) else (some false)) else (some false))
def pcheck (r : Rnd) : Option (Int) := ((ptooMuch r).bind fun r851 => (if r851 = true then (some (3 : Int)) else ((pvalid r).bind fun r858 => (if r858 = true then (some (0 : Int)) else (some (1 : Int))))))
def pwithout (s : Set5) (farm : Int) : Option (Set5) := (gd (0 ≤ farm ∧ farm < 5) (some ({ c0 := (sti farm 0 false s.c0), c1 := (sti farm 1 false s.c1), c2 := (sti farm 2 false s.c2), c3 := (sti farm 3 false s.c3), c4 := (sti farm 4 false s.c4) } : Set5)))
def psetOf_L0 (r : Rnd) (l : List Int) : Nat → Bool → Bool → Bool → Bool → Bool → Int → Option (Set5 × Bool)
 | 0, _, _, _, _, _, _ => none
 | d938 + 1, y933, y934, y935, y936, y937, x5 => (if x5 < (l.length : Int) then ((idx l x5).bind fun x940 => ((phasFarm r x940).bind fun r942 => (if r942 = true then ((idx ([y933, y934, y935, y936, y937] : List Bool) x940).bind fun v959 => (if v959 = true then (some (({ c0 := false, c1 := false, c2 := false, c3 := false, c4 := false } : Set5), false)) else (gd (0 ≤ x940 ∧ x940 < 5) (gd (fitsP .i64 (x5 + 1)) (psetOf_L0 r l d938 (sti x940 0 true y933) (sti x940 1 true y934) (sti x940 2 true y935) (sti x940 3 true y936) (sti x940 4 true y937) (x5 + 1)))))) else (some (({ c0 := false, c1 := false, c2 := false, c3 := false, c4 := false } : Set5), false))))) else (some (({ c0 := y933, c1 := y934, c2 := y935, c3 := y936, c4 := y937 } : Set5), true)))
def psetOf (r : Rnd) (l : List Int) : Option (Set5 × Bool) := (psetOf_L0 r l (l.length + 1) false false false false false (0 : Int))
def pdistance (p : Pt) (q : Pt) : Option (Int) := (gd (fitsP .i64 (p.X - q.X)) (gd (fitsP .i64 (q.X - p.X)) (gd (fitsP .i64 (p.Y - q.Y)) (gd (fitsP .i64 (q.Y - p.Y)) (gd (fitsP .i64 ((max (p.X - q.X) (q.X - p.X)) + (max (p.Y - q.Y) (q.Y - p.Y)))) (some ((max (p.X - q.X) (q.X - p.X)) + (max (p.Y - q.Y) (q.Y - p.Y)))))))))
def pminimum_L0 (l : List Int) : Nat → Int → Int → Option (Int)
 | 0, _, _ => none
 | d1005 + 1, x3, x4 => (if x4 < (l.length : Int) then ((idx l x4).bind fun x1007 => (if x1007 < x3 then (gd (fitsP .i64 (x4 + 1)) (pminimum_L0 l d1005 x1007 (x4 + 1))) else (gd (fitsP .i64 (x4 + 1)) (pminimum_L0 l d1005 x3 (x4 + 1))))) else (some x3))
def pminimum (l : List Int) : Option (Int) := (if (l.length : Int) = (0 : Int) then (some (0 : Int)) else ((idx l (0 : Int)).bind fun x1001 => (pminimum_L0 l (l.length + 1) x1001 (0 : Int))))
def pclone (s : List Int) : Option (List Int) := (gd (([] : List Int).length + s.length ≤ 1048576) (some ([] ++ s)))
end
end Go.Proofs.Ytoejeieblichnaa

namespace Go.Proofs.Ytoejeieblichnaa
open _root_.Go.Proofs.Try
open Go.Abs
set_option maxRecDepth 100000
noncomputable section
def sB (s : Set5) : List Bool := [s.c0, s.c1, s.c2, s.c3, s.c4]
def woS (s : Set5) (i : Int) : Set5 := { c0 := sti i 0 false s.c0, c1 := sti i 1 false s.c1, c2 := sti i 2 false s.c2, c3 := sti i 3 false s.c3, c4 := sti i 4 false s.c4 }
def emS (s : Set5) : Bool := (s.c0 == false) && ((s.c1 == false) && ((s.c2 == false) && ((s.c3 == false) && (s.c4 == false))))
def caS (s : Set5) : Nat := (sB s).count true
def dsP (p q : Pt) : Int := max (p.X - q.X) (q.X - p.X) + max (p.Y - q.Y) (q.Y - p.Y)
def okP (p : Pt) : Prop := (0 ≤ p.X ∧ p.X ≤ 1000) ∧ 0 ≤ p.Y ∧ p.Y ≤ 1000
def okW (r : Rnd) : Prop := r.Farms.length ≤ 5 ∧ okP r.Home ∧ ∀ q ∈ r.Farms, okP q.At
def walksL (home : Pt) (fs : List Frm) : Nat → Pt → Set5 → List Int → Int → List (List Int × Int)
 | 0, _, _, _, _ => []
 | d + 1, p, s, pre, ln => if emS s = true then [(pre, ln + dsP p home)] else rests (fun i => match fs[i]? with | some q => (if (sB s)[i]? = some true then walksL home fs d q.At (woS s (i : Int)) (pre ++ [(i : Int)]) (ln + dsP p q.At) else []) | none => []) fs.length 0
def pwalks (r : Rnd) (s : Set5) : Option (List (List Int × Int)) := gd (okW r) (some (walksL r.Home r.Farms 6 r.Home s [] 0))
theorem fitsN {n : Int} (h1 : -1000000 ≤ n) (h2 : n ≤ 1000000) : fitsP .i64 n := by simp only [fitsP]; omega
theorem woS_eq {s : Set5} {n : Nat} (hn : n < 5) : pwithout s (n : Int) = some (woS s (n : Int)) := by
 unfold pwithout woS gd
 rw [if_pos (by omega)]
theorem caS_wo {s : Set5} {n : Nat} (h : (sB s)[n]? = some true) : caS (woS s (n : Int)) + 1 = caS s := by
 obtain ⟨a, b, c, d, e⟩ := s
 have hn : n < 5 := (List.getElem?_eq_some_iff.1 h).1
 match n, hn with
 | 0, _ => cases a <;> cases b <;> cases c <;> cases d <;> cases e <;> first | rfl | cases h
 | 1, _ => cases a <;> cases b <;> cases c <;> cases d <;> cases e <;> first | rfl | cases h
 | 2, _ => cases a <;> cases b <;> cases c <;> cases d <;> cases e <;> first | rfl | cases h
 | 3, _ => cases a <;> cases b <;> cases c <;> cases d <;> cases e <;> first | rfl | cases h
 | 4, _ => cases a <;> cases b <;> cases c <;> cases d <;> cases e <;> first | rfl | cases h
theorem dsP_bd {p q : Pt} (hp : okP p) (hq : okP q) : 0 ≤ dsP p q ∧ dsP p q ≤ 2000 := by
 unfold dsP; unfold okP at hp hq; omega
theorem dist_eq {p q : Pt} (hp : okP p) (hq : okP q) : pdistance p q = some (dsP p q) := by
 have h := dsP_bd hp hq
 unfold okP at hp hq
 unfold pdistance gd
 rw [if_pos (fitsN (by omega) (by omega)), if_pos (fitsN (by omega) (by omega)), if_pos (fitsN (by omega) (by omega)), if_pos (fitsN (by omega) (by omega)), if_pos (fitsN (by unfold dsP at h; omega) (by unfold dsP at h; omega))]
 rfl
end
end Go.Proofs.Ytoejeieblichnaa

namespace Go.Proofs.Ytoejeieblichnaa
open _root_.Go.Proofs.Try
open Go.Abs
set_option maxRecDepth 100000
noncomputable section
def popen_L0 (r : Rnd) : Nat → Int → Int → Int → Int → Int → Bool → Bool → Bool → Bool → Bool → Int → Option (Wk × Int)
 | 0, _, _, _, _, _, _, _, _, _, _, _ => none
 | d167 + 1, y157, y158, y159, y160, y161, y162, y163, y164, y165, y166, x35 => (if x35 < (r.Farms.length : Int) then (gd (0 ≤ x35 ∧ x35 < 5) (gd (fitsP .i64 (x35 + 1)) (popen_L0 r d167 y157 y158 y159 y160 y161 (sti x35 0 true y162) (sti x35 1 true y163) (sti x35 2 true y164) (sti x35 3 true y165) (sti x35 4 true y166) (x35 + 1)))) else (some (({ r := ({ Adjusters := y157, Last := y158, Miles := y159, Home := ({ X := y160, Y := y161 } : Pt), Farms := r.Farms } : Rnd), all := ({ c0 := y162, c1 := y163, c2 := y164, c3 := y165, c4 := y166 } : Set5), lengths := (some fun _ => none : Option (Set5 → Option (Int))) } : Wk), (0 : Int))))
def popen (r : Rnd) : Option (Wk × Int) := ((pcheck r).bind fun r118 => (if r118 = 0 then (popen_L0 r (r.Farms.length + 1) r.Adjusters r.Last r.Miles r.Home.X r.Home.Y false false false false false (0 : Int)) else (some (({ r := ({ Adjusters := (0 : Int), Last := (0 : Int), Miles := (0 : Int), Home := ({ X := (0 : Int), Y := (0 : Int) } : Pt), Farms := [] } : Rnd), all := ({ c0 := false, c1 := false, c2 := false, c3 := false, c4 := false } : Set5), lengths := none } : Wk), r118))))
def plength_L0 (w : Wk) (s : Set5) : List (List Int × Int) → (List Int) → Option (Int × Option (Set5 → Option (Int)))
 | [], y244 => ((pminimum y244).bind fun r309 => (gd (MK.fit s) ((mset w.lengths s r309).bind fun w320 => (some (r309, w320)))))
 | a249 :: q250, y244 => (gd (y244.length < 1048576) ((plength_L0 w s q250) (y244 ++ [a249.2])))
def plength (w : Wk) (s : Set5) : Option (Int × Option (Set5 → Option (Int))) := (gd (MK.fit s) (mcase (mget w.lengths s) ((pwalks w.r s).bind fun r230 => (plength_L0 w s r230 [])) fun w221 => (some (w221, w.lengths))))
def pcanWalk (w : Wk) (s : Set5) : Option (Bool × Option (Set5 → Option (Int))) := ((plength w s).bind fun r344 => (some ((decide (r344.1 ≤ w.r.Miles)), r344.2)))
def pshortestWalk_L0_xexit0 (r383 : Int × Option (Set5 → Option (Int))) (y418 : List Int) : Option ((List Int × Int) × Option (Set5 → Option (Int))) := (some ((y418, r383.1), r383.2))
def pshortestWalk_L0 (r383 : Int × Option (Set5 → Option (Int))) : List (List Int × Int) → (List Int) → Option ((List Int × Int) × Option (Set5 → Option (Int)))
 | [], y418 => (some ((y418, r383.1), r383.2))
 | a455 :: q456, y418 => (if a455.2 = r383.1 then ((pclone a455.1).bind fun r482 => ((pshortestWalk_L0_xexit0 r383) r482)) else ((pshortestWalk_L0 r383 q456) y418))
def pshortestWalk (w : Wk) (s : Set5) : Option ((List Int × Int) × Option (Set5 → Option (Int))) := ((plength w s).bind fun r383 => ((pwalks w.r s).bind fun r403 => (pshortestWalk_L0 r383 r403 [])))
def pWalk (r : Rnd) (farms : List Int) : Option (List Int × Int × Int) := ((popen r).bind fun r544 => (if r544.2 = (0 : Int) then ((psetOf r544.1.r farms).bind fun r572 => (if r572.2 = true then ((pcanWalk r544.1 r572.1).bind fun r597 => (if r597.1 = true then ((pshortestWalk ({ r := r544.1.r, all := r544.1.all, lengths := r597.2 } : Wk) r572.1).bind fun r608 => (some (r608.1.1, r608.1.2, (0 : Int)))) else (some ([], (0 : Int), (10 : Int))))) else (some ([], (0 : Int), (2 : Int))))) else (some ([], (0 : Int), r544.2))))
end
end Go.Proofs.Ytoejeieblichnaa

namespace Go.Proofs.Ytoejeieblichnaa
open _root_.Go.Proofs.Try
open Go.Abs
set_option maxRecDepth 100000
noncomputable section
def prRest_L0 (F_ : Rnd → Pt → Int → Option (Int)) (r : Rnd) (p : Pt) (left : Int) : Nat → Int → Int → Option (Int)
 | 0, _, _ => none
 | d323 + 1, x10, x11 => (if x11 < (r.Farms.length : Int) then (gd ((0 : Int) ≤ left) (gd ((0 : Int) ≤ (wrapZ .u64 x11)) (gd ((wrapZ .u64 x11) ≤ (64 : Int)) (gd (fitsP .i64 (left / ((2 : Int) ^ (Int.toNat (wrapZ .u64 x11))))) (gd ((0 : Int) ≤ (left / ((2 : Int) ^ (Int.toNat (wrapZ .u64 x11))))) (gd ((0 : Int) < (2 : Int)) (gd (fitsP .i64 ((left / ((2 : Int) ^ (Int.toNat (wrapZ .u64 x11)))) % (2 : Int))) (if ((left / ((2 : Int) ^ (Int.toNat (wrapZ .u64 x11)))) % (2 : Int)) = (1 : Int) then ((idx r.Farms x11).bind fun v333 => ((prDistance p v333.At).bind fun r336 => ((idx r.Farms x11).bind fun v343 => (gd ((0 : Int) ≤ (1 : Int)) (gd ((0 : Int) ≤ (wrapZ .u64 x11)) (gd ((wrapZ .u64 x11) ≤ (64 : Int)) (gd (fitsP .i64 ((1 : Int) * ((2 : Int) ^ (Int.toNat (wrapZ .u64 x11))))) (gd ((0 : Int) ≤ left) (gd ((0 : Int) ≤ ((1 : Int) * ((2 : Int) ^ (Int.toNat (wrapZ .u64 x11))))) (gd (fitsP .i64 left) (gd (fitsP .i64 ((1 : Int) * ((2 : Int) ^ (Int.toNat (wrapZ .u64 x11))))) (gd (fitsP .i64 (((Nat.xor (Int.toNat left) (Nat.land (Int.toNat left) (Int.toNat ((1 : Int) * ((2 : Int) ^ (Int.toNat (wrapZ .u64 x11))))))) : Nat) : Int)) ((F_ r v343.At (((Nat.xor (Int.toNat left) (Nat.land (Int.toNat left) (Int.toNat ((1 : Int) * ((2 : Int) ^ (Int.toNat (wrapZ .u64 x11))))))) : Nat) : Int)).bind fun r355 => (gd (fitsP .i64 (r336 + r355)) (gd (fitsP .i64 (x11 + 1)) (prRest_L0 F_ r p left d323 (min x10 (r336 + r355)) (x11 + 1))))))))))))))))) else (gd (fitsP .i64 (x11 + 1)) (prRest_L0 F_ r p left d323 x10 (x11 + 1))))))))))) else (some x10))
def prRest_F : Nat → Rnd → Pt → Int → Option (Int)
 | 0, _, _, _ => none
 | d_ + 1, r, p, left => (if left = 0 then ((prDistance p r.Home).bind fun r314 => (some r314)) else (prRest_L0 (prRest_F d_) r p left 1000000 (1073741824 : Int) (0 : Int)))
def prRest (r : Rnd) (p : Pt) (left : Int) : Option (Int) := prRest_F (8) r p left
def prShortest (r : Rnd) (bits : Int) : Option (Int) := ((prRest r r.Home bits).bind fun r370 => (some r370))
def pRoundWalks_L1 (r413 : List Int × Int × Int) : Nat → Int → Int → Option (Bool)
 | 0, _, _ => none
 | d518 + 1, x118, x119 => (if x119 < (r413.1.length : Int) then ((idx r413.1 x119).bind fun x520 => (gd ((0 : Int) ≤ (1 : Int)) (gd ((0 : Int) ≤ (wrapZ .u64 x520)) (gd ((wrapZ .u64 x520) ≤ (64 : Int)) (gd (fitsP .i64 ((1 : Int) * ((2 : Int) ^ (Int.toNat (wrapZ .u64 x520))))) (gd ((0 : Int) ≤ x118) (gd ((0 : Int) ≤ ((1 : Int) * ((2 : Int) ^ (Int.toNat (wrapZ .u64 x520))))) (gd (fitsP .i64 x118) (gd (fitsP .i64 ((1 : Int) * ((2 : Int) ^ (Int.toNat (wrapZ .u64 x520))))) (gd (fitsP .i64 (((Nat.xor (Int.toNat x118) (Nat.land (Int.toNat x118) (Int.toNat ((1 : Int) * ((2 : Int) ^ (Int.toNat (wrapZ .u64 x520))))))) : Nat) : Int)) (gd (fitsP .i64 (x119 + 1)) (pRoundWalks_L1 r413 d518 (((Nat.xor (Int.toNat x118) (Nat.land (Int.toNat x118) (Int.toNat ((1 : Int) * ((2 : Int) ^ (Int.toNat (wrapZ .u64 x520))))))) : Nat) : Int) (x119 + 1))))))))))))) else (if x118 = 0 then ((pawake).bind fun r533 => (some r533)) else (some false)))
def pRoundWalks_L0 (r : Rnd) (l : List Int) (r413 : List Int × Int × Int) : Nat → Int → Int → Option (Bool)
 | 0, _, _ => none
 | d463 + 1, x69, x70 => (if x70 < (l.length : Int) then ((idx l x70).bind fun x465 => (gd ((0 : Int) ≤ (1 : Int)) (gd ((0 : Int) ≤ (wrapZ .u64 x465)) (gd ((wrapZ .u64 x465) ≤ (64 : Int)) (gd (fitsP .i64 ((1 : Int) * ((2 : Int) ^ (Int.toNat (wrapZ .u64 x465))))) (gd ((0 : Int) ≤ x69) (gd ((0 : Int) ≤ ((1 : Int) * ((2 : Int) ^ (Int.toNat (wrapZ .u64 x465))))) (gd (fitsP .i64 x69) (gd (fitsP .i64 ((1 : Int) * ((2 : Int) ^ (Int.toNat (wrapZ .u64 x465))))) (gd (fitsP .i64 (((Nat.lor (Int.toNat x69) (Int.toNat ((1 : Int) * ((2 : Int) ^ (Int.toNat (wrapZ .u64 x465)))))) : Nat) : Int)) (gd (fitsP .i64 (x70 + 1)) (pRoundWalks_L0 r l r413 d463 (((Nat.lor (Int.toNat x69) (Int.toNat ((1 : Int) * ((2 : Int) ^ (Int.toNat (wrapZ .u64 x465)))))) : Nat) : Int) (x70 + 1))))))))))))) else ((prShortest r x69).bind fun r477 => (if r.Miles < r477 then (if r413.2.2 = (10 : Int) then (if (r413.1.length : Int) = (0 : Int) then (if r413.2.1 = (0 : Int) then ((pawake).bind fun r487 => (some r487)) else (some false)) else (some false)) else (some false)) else (if r413.2.2 = (0 : Int) then (if (r413.1.length : Int) = (l.length : Int) then ((prDifferent r r413.1).bind fun r495 => (if r495 = true then ((prLength r r413.1).bind fun r502 => (if r413.2.1 = r502 then ((prShortest r x69).bind fun r509 => (if r413.2.1 = r509 then (pRoundWalks_L1 r413 (r413.1.length + 1) x69 (0 : Int)) else (some false))) else (some false))) else (some false))) else (some false)) else (some false)))))
def pRoundWalks (r : Rnd) (l : List Int) : Option (Bool) := (if (7 : Int) < (r.Farms.length : Int) then ((pawake).bind fun r382 => (some r382)) else (if (9 : Int) < (l.length : Int) then ((pawake).bind fun r389 => (some r389)) else ((plRound r).bind fun r395 => ((plList l).bind fun r404 => ((pWalk r395 r404).bind fun r413 => ((plFault r).bind fun r422 => ((plRound r).bind fun r428 => ((pcheck r428).bind fun r437 => (if r437 = r422 then (if r422 = 0 then ((prDifferent r l).bind fun r445 => (if r445 = true then (pRoundWalks_L0 r l r413 (l.length + 1) (0 : Int) (0 : Int)) else (if r413.2.2 = (2 : Int) then (if (r413.1.length : Int) = (0 : Int) then (if r413.2.1 = (0 : Int) then ((pawake).bind fun r455 => (some r455)) else (some false)) else (some false)) else (some false)))) else (if r413.2.2 = r422 then (if (r413.1.length : Int) = (0 : Int) then (if r413.2.1 = (0 : Int) then ((pawake).bind fun r542 => (some r542)) else (some false)) else (some false)) else (some false))) else (some false))))))))))
def pRoundLengths_L0 (r : Rnd) (r614 : List Int × Int × Int) : Nat → (List Int) → Int → Option (Bool)
 | 0, _, _ => none
 | d682 + 1, l680, x98 => (if (0 : Int) ≤ x98 then ((idx r614.1 x98).bind fun x684 => (gd (l680.length < 1048576) ((idx r614.1 x98).bind fun x696 => ((idx r.Farms x696).bind fun v698 => ((prDistance r.Home v698.At).bind fun r701 => (gd ((0 : Int) ≤ (2 : Int)) (gd ((0 : Int) ≤ r701) (gd (fitsP .i64 ((2 : Int) * r701)) (if r614.2.1 < ((2 : Int) * r701) then (some false) else (gd (fitsP .i64 (x98 - 1)) (pRoundLengths_L0 r r614 d682 (l680 ++ [x684]) (x98 - 1)))))))))))) else ((prLength r r614.1).bind fun r712 => (if r712 = r614.2.1 then ((prLength r l680).bind fun r724 => (if r724 = r614.2.1 then ((pawake).bind fun r732 => (some r732)) else (some false))) else (some false))))
def pRoundLengths (r : Rnd) (bits : Int) (part : Int) : Option (Bool) := (if (7 : Int) < (r.Farms.length : Int) then ((pawake).bind fun r554 => (some r554)) else ((prFault r).bind fun r560 => (if r560 = 0 then ((plSet r bits).bind fun r573 => (gd ((0 : Int) ≤ bits) (gd ((0 : Int) ≤ part) (gd (fitsP .u8 bits) (gd (fitsP .u8 part) (gd (fitsP .u8 (((Nat.land (Int.toNat bits) (Int.toNat part)) : Nat) : Int)) ((plSet r (((Nat.land (Int.toNat bits) (Int.toNat part)) : Nat) : Int)).bind fun r587 => ((plRound r).bind fun r596 => ((plList r573).bind fun r605 => ((pWalk r596 r605).bind fun r614 => ((plRound r).bind fun r623 => ((plList r587).bind fun r632 => ((pWalk r623 r632).bind fun r641 => (if r614.2.2 = (0 : Int) then (if r641.2.2 = (0 : Int) then (if r614.2.1 < r641.2.1 then (some false) else (if (r614.1.length : Int) = (r573.length : Int) then ((prDifferent r r614.1).bind fun r669 => (if r669 = true then (if r.Miles < r614.2.1 then (some false) else (gd (fitsP .i64 ((r614.1.length : Int) - (1 : Int))) (pRoundLengths_L0 r r614 1000000 [] ((r614.1.length : Int) - (1 : Int))))) else (some false))) else (some false))) else (some false)) else (if r614.2.2 = (10 : Int) then (if r641.2.2 = (0 : Int) then ((pawake).bind fun r653 => (some r653)) else (if r641.2.2 = (10 : Int) then ((pawake).bind fun r660 => (some r660)) else (some false))) else (some false)))))))))))))))) else ((pawake).bind fun r567 => (some r567)))))
end
end Go.Proofs.Ytoejeieblichnaa

namespace Go.Proofs.Ytoejeieblichnaa
open _root_.Go.Proofs.Try
open Go.Abs
set_option maxRecDepth 100000
noncomputable section
theorem c103 {a100 : Int} {a101 : Int} {a102 : Int} {a103 : Int} {b0 : Nat} {m : M} {Q : V → M → Prop} (h :
 (∀ m0 : M, (m0 = (M.new m (AO.cells 4 [(Il a100), (Il a101), (Il a102), 
 (Il a103)] false))) → ∃ c1 : C, ((ldC m0 (.ptr b0 0)) = (some c1)) ∧ ∃ x2, 
 ∃ x3 x4 x5, ((ldA m0 (.ptr m.nxt 0) 4) = (some [(Il x2), 
 (Il x3), (Il x4), (Il x5)])) ∧ callP prog tbl [(.agg 4 [(Il x2), 
 (Il x3), (Il x4), (Il x5)])] c1 m0 (fun v6 m7 => 
 ∃ b8 : Bool, (v6 = (.c (.bool b8))) ∧ Q (.c (.bool (!b8))) m7))) : Wc prog tbl 103 [.agg 4 [Il a100, Il a101, Il a102, Il a103], .c (.ptr b0 0)] m Q :=
 wc_eq (n := 2) rfl (by kernel_rfl) (by kernel_rfl) h
end
end Go.Proofs.Ytoejeieblichnaa

namespace Go.Proofs.Ytoejeieblichnaa
open _root_.Go.Proofs.Try
open Go.Abs
set_option maxRecDepth 100000
noncomputable section
theorem w3 {a100 : Int} {a101 : Int} {a102 : Int} {a103 : Int} {a104 : Int} {a105 : C} {a200 : C} {m : M} {Q : V → M → Prop} (h :
 (∀ m0 : M, (m0 = (M.new m (AO.cells 6 [(Il a100), (Il a101), (Il a102), 
 (Il a103), (Il a104), a105] false))) → isPt (.ptr m.nxt 0) ∧ ∃ c1 : C, 
 ((ldC m0 (.ptr m.nxt 5)) = (some c1)) ∧ isSl c1 ∧ ifB (decide ((7 : Int) < (((slLen c1) : Nat) : Int))) (Wc prog tbl 16 [] m0 (fun v2 m3 => 
 ∃ b4 : Bool, (v2 = (.c (.bool b4))) ∧ Q (.c (.bool b4)) m3)) (isSl a200 ∧ ifB (decide ((9 : Int) < (((slLen a200) : Nat) : Int))) (Wc prog tbl 16 [] m0 (fun v5 m6 => 
 ∃ b7 : Bool, (v5 = (.c (.bool b7))) ∧ Q (.c (.bool b7)) m6)) (∃ x8 x9, 
 ∃ x10 x11 x12, ∃ c13 : C, ((ldA m0 (.ptr m.nxt 0) 6) = (some [(Il x8), 
 (Il x9), (Il x10), (Il x11), (Il x12), 
 c13])) ∧ Wc prog tbl 18 [(.agg 6 [(Il x8), (Il x9), (Il x10), 
 (Il x11), (Il x12), c13])] m0 (fun v14 m15 => ∃ x16, 
 ∃ x17 x18 x19 x20, ∃ c21 : C, (v14 = (.agg 6 [(Il x16), 
 (Il x17), (Il x18), (Il x19), (Il x20), 
 c21])) ∧ Wc prog tbl 19 [(.c a200)] m15 (fun v22 m23 => ∃ c24 : C, (v22 = (.c c24)) ∧ 
 Wc prog tbl 17 [(.agg 6 [(Il x16), (Il x17), (Il x18), 
 (Il x19), (Il x20), c21]), (.c c24)] m23 (fun v25 m26 => 
 ∃ c27 : C, ∃ x28 x29, (v25 = (.tup [(.c c27), (.c (Il x28)), 
 (.c (Il x29))])) ∧ ∃ x30 x31 x32, 
 ∃ x33 x34, ∃ c35 : C, ((ldA m26 (.ptr m.nxt 0) 6) = (some [(Il x30), 
 (Il x31), (Il x32), (Il x33), (Il x34), 
 c35])) ∧ Wc prog tbl 20 [(.agg 6 [(Il x30), (Il x31), 
 (Il x32), (Il x33), (Il x34), c35])] m26 (fun v36 m37 => 
 ∃ x38, (v36 = (.c (Il x38))) ∧ ∃ x39 x40, 
 ∃ x41 x42 x43, ∃ c44 : C, ((ldA m37 (.ptr m.nxt 0) 6) = (some [(Il x39), 
 (Il x40), (Il x41), (Il x42), (Il x43), 
 c44])) ∧ Wc prog tbl 18 [(.agg 6 [(Il x39), (Il x40), 
 (Il x41), (Il x42), (Il x43), c44])] m37 (fun v45 m46 => 
 ∃ x47 x48 x49 x50 x51, ∃ c52 : C, 
 (v45 = (.agg 6 [(Il x47), (Il x48), (Il x49), 
 (Il x50), (Il x51), c52])) ∧ Wc prog tbl 21 [(.agg 6 [(Il x47), 
 (Il x48), (Il x49), (Il x50), (Il x51), 
 c52])] m46 (fun v53 m54 => ∃ x55, (v53 = (.c (Il x55))) ∧ 
 ifB (!decide (x55 = x38)) (Q (.c (.bool false)) m54) (ifB (decide (x38 = 0)) (∃ x56, 
 ∃ x57 x58 x59 x60, ∃ c61 : C, ((ldA m54 (.ptr m.nxt 0) 6) = (some [(Il x56), 
 (Il x57), (Il x58), (Il x59), (Il x60), 
 c61])) ∧ Wc prog tbl 22 [(.agg 6 [(Il x56), (Il x57), 
 (Il x58), (Il x59), (Il x60), c61]), 
 (.c a200)] m54 (fun v62 m63 => ∃ b64 : Bool, (v62 = (.c (.bool b64))) ∧ 
 ifB (!b64) (ifB (decide (x29 = 2)) (isSl c27 ∧ ifB (decide ((((slLen c27) : Nat) : Int) = (0 : Int))) (ifB (decide (x28 = 0)) (Wc prog tbl 16 [] m63 (fun v65 m66 => 
 ∃ b67 : Bool, (v65 = (.c (.bool b67))) ∧ Q (.c (.bool b67)) m66)) (Q (.c (.bool false)) m63)) (Q (.c (.bool false)) m63)) (Q (.c (.bool false)) m63)) (∀ R68 : List V → 
 M → Prop, (∀ x69 : Int, ∀ x70 : Int, ∀ m71 : M, (isSl a200 ∧ ifB (decide (x70 < (((slLen a200) : Nat) : Int))) (∃ n72 : Nat, 
 (x70 = ((n72 : Nat) : Int)) ∧ (n72 < (slLen a200)) ∧ ∃ x73, ((ldC m71 (slAt a200 (n72 * 1))) = (some (Il x73))) ∧ 
 ((0 : Int) ≤ (1 : Int)) ∧ ((0 : Int) ≤ (wrapZ .u64 x73)) ∧ ((wrapZ .u64 x73) ≤ (64 : Int)) ∧ 
 fitsP .i64 ((1 : Int) * ((2 : Int) ^ (Int.toNat (wrapZ .u64 x73)))) ∧ 
 ((0 : Int) ≤ x69) ∧ ((0 : Int) ≤ ((1 : Int) * ((2 : Int) ^ (Int.toNat (wrapZ .u64 x73))))) ∧ 
 fitsP .i64 x69 ∧ fitsP .i64 ((1 : Int) * ((2 : Int) ^ (Int.toNat (wrapZ .u64 x73)))) ∧ 
 fitsP .i64 (((Nat.lor (Int.toNat x69) (Int.toNat ((1 : Int) * ((2 : Int) ^ (Int.toNat (wrapZ .u64 x73)))))) : Nat) : Int) ∧ 
 fitsP .i64 (x70 + 1) ∧ R68 [(.c (Il (((Nat.lor (Int.toNat x69) (Int.toNat ((1 : Int) * ((2 : Int) ^ (Int.toNat (wrapZ .u64 x73)))))) : Nat) : Int))), 
 (.c (Il (x70 + 1)))] m71) (∃ x74, 
 ∃ x75 x76 x77 x78, ∃ c79 : C, ((ldA m71 (.ptr m.nxt 0) 6) = (some [(Il x74), 
 (Il x75), (Il x76), (Il x77), (Il x78), 
 c79])) ∧ Wc prog tbl 23 [(.agg 6 [(Il x74), (Il x75), 
 (Il x76), (Il x77), (Il x78), c79]), 
 (.c (Il x69))] m71 (fun v80 m81 => ∃ x82, (v80 = (.c (Il x82))) ∧ 
 isPt (.ptr m.nxt 0) ∧ ∃ x83, ((ldC m81 (.ptr m.nxt 2)) = (some (Il x83))) ∧ 
 ((ldC m71 (.ptr m.nxt 2)) = (some (Il x83))) ∧ ifB (decide (x83 < x82)) (ifB (decide (x29 = 10)) (isSl c27 ∧ 
 ifB (decide ((((slLen c27) : Nat) : Int) = (0 : Int))) (ifB (decide (x28 = 0)) (Wc prog tbl 16 [] m81 (fun v84 m85 => 
 ∃ b86 : Bool, (v84 = (.c (.bool b86))) ∧ Q (.c (.bool b86)) m85)) (Q (.c (.bool false)) m81)) (Q (.c (.bool false)) m81)) (Q (.c (.bool false)) m81)) (ifB (!decide (x38 = 0)) (ifB (decide (x29 = x38)) (isSl c27 ∧ 
 ifB (decide ((((slLen c27) : Nat) : Int) = (0 : Int))) (ifB (decide (x28 = 0)) (Wc prog tbl 16 [] m81 (fun v87 m88 => 
 ∃ b89 : Bool, (v87 = (.c (.bool b89))) ∧ Q (.c (.bool b89)) m88)) (Q (.c (.bool false)) m81)) (Q (.c (.bool false)) m81)) (Q (.c (.bool false)) m81)) (ifB (!decide (x29 = 0)) (Q (.c (.bool false)) m81) (isSl c27 ∧ 
 isSl a200 ∧ ifB (!decide ((((slLen c27) : Nat) : Int) = (((slLen a200) : Nat) : Int))) (Q (.c (.bool false)) m81) (∃ x90, 
 ∃ x91 x92 x93 x94, ∃ c95 : C, ((ldA m81 (.ptr m.nxt 0) 6) = (some [(Il x90), 
 (Il x91), (Il x92), (Il x93), (Il x94), 
 c95])) ∧ Wc prog tbl 22 [(.agg 6 [(Il x90), (Il x91), 
 (Il x92), (Il x93), (Il x94), c95]), 
 (.c c27)] m81 (fun v96 m97 => ∃ b98 : Bool, (v96 = (.c (.bool b98))) ∧ ifB (!b98) (Q (.c (.bool false)) m97) (∃ x99, 
 ∃ x100 x101 x102 x103, ∃ c104 : C, ((ldA m97 (.ptr m.nxt 0) 6) = (some [(Il x99), 
 (Il x100), (Il x101), (Il x102), 
 (Il x103), c104])) ∧ Wc prog tbl 24 [(.agg 6 [(Il x99), 
 (Il x100), (Il x101), (Il x102), 
 (Il x103), c104]), (.c c27)] m97 (fun v105 m106 => ∃ x107, 
 (v105 = (.c (Il x107))) ∧ ifB (!decide (x28 = x107)) (Q (.c (.bool false)) m106) (∃ x108, 
 ∃ x109 x110 x111 x112, ∃ c113 : C, ((ldA m106 (.ptr m.nxt 0) 6) = (some [(Il x108), 
 (Il x109), (Il x110), (Il x111), 
 (Il x112), c113])) ∧ Wc prog tbl 23 [(.agg 6 [(Il x108), 
 (Il x109), (Il x110), (Il x111), 
 (Il x112), c113]), (.c (Il x69))] m106 (fun v114 m115 => 
 ∃ x116, (v114 = (.c (Il x116))) ∧ ifB (!decide (x28 = x116)) (Q (.c (.bool false)) m115) (∀ R117 : List V → 
 M → Prop, (∀ x118 : Int, ∀ x119 : Int, ∀ m120 : M, (isSl c27 ∧ ifB (decide (x119 < (((slLen c27) : Nat) : Int))) (∃ n121 : Nat, 
 (x119 = ((n121 : Nat) : Int)) ∧ (n121 < (slLen c27)) ∧ ∃ x122, ((ldC m120 (slAt c27 (n121 * 1))) = (some (Il x122))) ∧ 
 ((0 : Int) ≤ (1 : Int)) ∧ ((0 : Int) ≤ (wrapZ .u64 x122)) ∧ ((wrapZ .u64 x122) ≤ (64 : Int)) ∧ 
 fitsP .i64 ((1 : Int) * ((2 : Int) ^ (Int.toNat (wrapZ .u64 x122)))) ∧ 
 ((0 : Int) ≤ x118) ∧ ((0 : Int) ≤ ((1 : Int) * ((2 : Int) ^ (Int.toNat (wrapZ .u64 x122))))) ∧ 
 fitsP .i64 x118 ∧ fitsP .i64 ((1 : Int) * ((2 : Int) ^ (Int.toNat (wrapZ .u64 x122)))) ∧ 
 fitsP .i64 (((Nat.xor (Int.toNat x118) (Nat.land (Int.toNat x118) (Int.toNat ((1 : Int) * ((2 : Int) ^ (Int.toNat (wrapZ .u64 x122))))))) : Nat) : Int) ∧ 
 fitsP .i64 (x119 + 1) ∧ R117 [(.c (Il (((Nat.xor (Int.toNat x118) (Nat.land (Int.toNat x118) (Int.toNat ((1 : Int) * ((2 : Int) ^ (Int.toNat (wrapZ .u64 x122))))))) : Nat) : Int))), 
 (.c (Il (x119 + 1)))] m120) (ifB (decide (x118 = 0)) (Wc prog tbl 16 [] m120 (fun v123 m124 => 
 ∃ b125 : Bool, (v123 = (.c (.bool b125))) ∧ Q (.c (.bool b125)) m124)) (Q (.c (.bool false)) m120))) → 
 R117 [(.c (Il x118)), (.c (Il x119))] m120) → 
 R117 [(.c (Il x69)), (.c (Il 0))] m115))))))))))))) → 
 R68 [(.c (Il x69)), (.c (Il x70))] m71) → 
 R68 [(.c (Il 0)), (.c (Il 0))] m63))) (ifB (!decide (x38 = 0)) (ifB (decide (x29 = x38)) (isSl c27 ∧ 
 ifB (decide ((((slLen c27) : Nat) : Int) = (0 : Int))) (ifB (decide (x28 = 0)) (Wc prog tbl 16 [] m54 (fun v126 m127 => 
 ∃ b128 : Bool, (v126 = (.c (.bool b128))) ∧ Q (.c (.bool b128)) m127)) (Q (.c (.bool false)) m54)) (Q (.c (.bool false)) m54)) (Q (.c (.bool false)) m54)) (ifB (!decide (x29 = 0)) (Q (.c (.bool false)) m54) (isSl c27 ∧ 
 isSl a200 ∧ ifB (!decide ((((slLen c27) : Nat) : Int) = (((slLen a200) : Nat) : Int))) (Q (.c (.bool false)) m54) (∃ x129, 
 ∃ x130 x131 x132 x133, ∃ c134 : C, ((ldA m54 (.ptr m.nxt 0) 6) = (some [(Il x129), 
 (Il x130), (Il x131), (Il x132), 
 (Il x133), c134])) ∧ Wc prog tbl 22 [(.agg 6 [(Il x129), 
 (Il x130), (Il x131), (Il x132), 
 (Il x133), c134]), (.c c27)] m54 (fun v135 m136 => ∃ b137 : Bool, 
 (v135 = (.c (.bool b137))) ∧ ifB (!b137) (Q (.c (.bool false)) m136) (∃ x138, 
 ∃ x139 x140 x141 x142, ∃ c143 : C, ((ldA m136 (.ptr m.nxt 0) 6) = (some [(Il x138), 
 (Il x139), (Il x140), (Il x141), 
 (Il x142), c143])) ∧ Wc prog tbl 24 [(.agg 6 [(Il x138), 
 (Il x139), (Il x140), (Il x141), 
 (Il x142), c143]), (.c c27)] m136 (fun v144 m145 => ∃ x146, 
 (v144 = (.c (Il x146))) ∧ ifB (!decide (x28 = x146)) (Q (.c (.bool false)) m145) (∃ x147, 
 ∃ x148 x149 x150 x151, ∃ c152 : C, ((ldA m145 (.ptr m.nxt 0) 6) = (some [(Il x147), 
 (Il x148), (Il x149), (Il x150), 
 (Il x151), c152])) ∧ Wc prog tbl 23 [(.agg 6 [(Il x147), 
 (Il x148), (Il x149), (Il x150), 
 (Il x151), c152]), (.c (Il 0))] m145 (fun v153 m154 => 
 ∃ x155, (v153 = (.c (Il x155))) ∧ ifB (!decide (x28 = x155)) (Q (.c (.bool false)) m154) (∀ R156 : List V → 
 M → Prop, (∀ x157 : Int, ∀ x158 : Int, ∀ m159 : M, (isSl c27 ∧ ifB (decide (x158 < (((slLen c27) : Nat) : Int))) (∃ n160 : Nat, 
 (x158 = ((n160 : Nat) : Int)) ∧ (n160 < (slLen c27)) ∧ ∃ x161, ((ldC m159 (slAt c27 (n160 * 1))) = (some (Il x161))) ∧ 
 ((0 : Int) ≤ (1 : Int)) ∧ ((0 : Int) ≤ (wrapZ .u64 x161)) ∧ ((wrapZ .u64 x161) ≤ (64 : Int)) ∧ 
 fitsP .i64 ((1 : Int) * ((2 : Int) ^ (Int.toNat (wrapZ .u64 x161)))) ∧ 
 ((0 : Int) ≤ x157) ∧ ((0 : Int) ≤ ((1 : Int) * ((2 : Int) ^ (Int.toNat (wrapZ .u64 x161))))) ∧ 
 fitsP .i64 x157 ∧ fitsP .i64 ((1 : Int) * ((2 : Int) ^ (Int.toNat (wrapZ .u64 x161)))) ∧ 
 fitsP .i64 (((Nat.xor (Int.toNat x157) (Nat.land (Int.toNat x157) (Int.toNat ((1 : Int) * ((2 : Int) ^ (Int.toNat (wrapZ .u64 x161))))))) : Nat) : Int) ∧ 
 fitsP .i64 (x158 + 1) ∧ R156 [(.c (Il (((Nat.xor (Int.toNat x157) (Nat.land (Int.toNat x157) (Int.toNat ((1 : Int) * ((2 : Int) ^ (Int.toNat (wrapZ .u64 x161))))))) : Nat) : Int))), 
 (.c (Il (x158 + 1)))] m159) (ifB (decide (x157 = 0)) (Wc prog tbl 16 [] m159 (fun v162 m163 => 
 ∃ b164 : Bool, (v162 = (.c (.bool b164))) ∧ Q (.c (.bool b164)) m163)) (Q (.c (.bool false)) m159))) → 
 R156 [(.c (Il x157)), (.c (Il x158))] m159) → 
 R156 [(.c (Il 0)), (.c (Il 0))] m154))))))))))))))))))))) : Wc prog tbl 3 [(.agg 6 [(Il a100), (Il a101), (Il a102), (Il a103), (Il a104), a105]), (.c a200)] m Q :=
 wc_eq (n := 2) rfl (by kernel_rfl) (by kernel_rfl) h
theorem w17 {a100 : Int} {a101 : Int} {a102 : Int} {a103 : Int} {a104 : Int} {a105 : C} {a200 : C} {m : M} {Q : V → M → Prop} (h :
 (∀ m0 : M, (m0 = (M.new m (AO.cells 6 [(Il a100), (Il a101), (Il a102), 
 (Il a103), (Il a104), a105] false))) → ∃ x1 x2 x3, 
 ∃ x4 x5, ∃ c6 : C, ((ldA m0 (.ptr m.nxt 0) 6) = (some [(Il x1), 
 (Il x2), (Il x3), (Il x4), (Il x5), 
 c6])) ∧ Wc prog tbl 58 [(.agg 6 [(Il x1), (Il x2), (Il x3), 
 (Il x4), (Il x5), c6])] m0 (fun v7 m8 => ∃ x9 x10, 
 ∃ x11 x12 x13, ∃ c14 : C, ∃ b15 : Bool, ∃ b16 : Bool, ∃ b17 : Bool, 
 ∃ b18 : Bool, ∃ b19 : Bool, ∃ c20 : C, ∃ x21, (v7 = (.tup [(.agg 12 [(Il x9), 
 (Il x10), (Il x11), (Il x12), (Il x13), 
 c14, (.bool b15), (.bool b16), (.bool b17), (.bool b18), (.bool b19), c20]), 
 (.c (Il x21))])) ∧ ∀ m22 : M, (m22 = (M.new m8 (AO.cells 12 [(Il 0), 
 (Il 0), (Il 0), (Il 0), 
 (Il 0), C.sl0, (.bool false), (.bool false), (.bool false), 
 (.bool false), (.bool false), C.map0] false))) → ∃ m23 : M, ((stC m22 (.ptr m8.nxt 0) 12 [(Il x9), 
 (Il x10), (Il x11), (Il x12), (Il x13), 
 c14, (.bool b15), (.bool b16), (.bool b17), (.bool b18), (.bool b19), c20]) = (some m23)) ∧ 
 ifB (!decide (x21 = 0)) (Q (.tup [(.c C.sl0), (.c (Il 0)), 
 (.c (Il x21))]) m23) (isPt (.ptr m8.nxt 0) ∧ ∃ x24, 
 ∃ x25 x26 x27 x28, ∃ c29 : C, ((ldA m23 (.ptr m8.nxt 0) 6) = (some [(Il x24), 
 (Il x25), (Il x26), (Il x27), (Il x28), 
 c29])) ∧ Wc prog tbl 59 [(.agg 6 [(Il x24), (Il x25), 
 (Il x26), (Il x27), (Il x28), c29]), 
 (.c a200)] m23 (fun v30 m31 => ∃ b32 : Bool, ∃ b33 : Bool, ∃ b34 : Bool, 
 ∃ b35 : Bool, ∃ b36 : Bool, ∃ b37 : Bool, (v30 = (.tup [(.agg 5 [(.bool b32), 
 (.bool b33), (.bool b34), (.bool b35), (.bool b36)]), (.c (.bool b37))])) ∧ 
 ∀ m38 : M, (m38 = (M.new m31 (AO.cells 5 [(.bool false), (.bool false), (.bool false), 
 (.bool false), (.bool false)] false))) → ∃ m39 : M, ((stC m38 (.ptr m31.nxt 0) 5 [(.bool b32), 
 (.bool b33), (.bool b34), (.bool b35), (.bool b36)]) = (some m39)) ∧ 
 ifB (!b37) (Q (.tup [(.c C.sl0), (.c (Il 0)), (.c (Il (2 : Int)))]) m39) (∃ x40, 
 ∃ x41 x42 x43 x44, ∃ c45 : C, ∃ b46 : Bool, 
 ∃ b47 : Bool, ∃ b48 : Bool, ∃ b49 : Bool, ∃ b50 : Bool, ∃ c51 : C, ((ldA m39 (.ptr m8.nxt 0) 12) = (some [(Il x40), 
 (Il x41), (Il x42), (Il x43), (Il x44), 
 c45, (.bool b46), (.bool b47), (.bool b48), (.bool b49), (.bool b50), c51])) ∧ 
 ∃ b52 : Bool, ∃ b53 : Bool, ∃ b54 : Bool, ∃ b55 : Bool, ∃ b56 : Bool, ((ldA m39 (.ptr m31.nxt 0) 5) = (some [(.bool b52), 
 (.bool b53), (.bool b54), (.bool b55), (.bool b56)])) ∧ Wc prog tbl 60 [(.agg 12 [(Il x40), 
 (Il x41), (Il x42), (Il x43), (Il x44), 
 c45, (.bool b46), (.bool b47), (.bool b48), (.bool b49), (.bool b50), c51]), 
 (.agg 5 [(.bool b52), (.bool b53), (.bool b54), (.bool b55), (.bool b56)])] m39 (fun v57 m58 => 
 ∃ b59 : Bool, (v57 = (.c (.bool b59))) ∧ ifB (!b59) (Q (.tup [(.c C.sl0), 
 (.c (Il 0)), (.c (Il (10 : Int)))]) m58) (∃ x60, 
 ∃ x61 x62 x63 x64, ∃ c65 : C, ∃ b66 : Bool, 
 ∃ b67 : Bool, ∃ b68 : Bool, ∃ b69 : Bool, ∃ b70 : Bool, ∃ c71 : C, ((ldA m58 (.ptr m8.nxt 0) 12) = (some [(Il x60), 
 (Il x61), (Il x62), (Il x63), (Il x64), 
 c65, (.bool b66), (.bool b67), (.bool b68), (.bool b69), (.bool b70), c71])) ∧ 
 ∃ b72 : Bool, ∃ b73 : Bool, ∃ b74 : Bool, ∃ b75 : Bool, ∃ b76 : Bool, ((ldA m58 (.ptr m31.nxt 0) 5) = (some [(.bool b72), 
 (.bool b73), (.bool b74), (.bool b75), (.bool b76)])) ∧ Wc prog tbl 61 [(.agg 12 [(Il x60), 
 (Il x61), (Il x62), (Il x63), (Il x64), 
 c65, (.bool b66), (.bool b67), (.bool b68), (.bool b69), (.bool b70), c71]), 
 (.agg 5 [(.bool b72), (.bool b73), (.bool b74), (.bool b75), (.bool b76)])] m58 (fun v77 m78 => 
 ∃ c79 : C, ∃ x80, (v77 = (.tup [(.c c79), (.c (Il x80))])) ∧ 
 Q (.tup [(.c c79), (.c (Il x80)), (.c (Il 0))]) m78))))))))) : Wc prog tbl 17 [(.agg 6 [(Il a100), (Il a101), (Il a102), (Il a103), (Il a104), a105]), (.c a200)] m Q :=
 wc_eq (n := 2) rfl (by kernel_rfl) (by kernel_rfl) h
theorem w20 {a100 : Int} {a101 : Int} {a102 : Int} {a103 : Int} {a104 : Int} {a105 : C} {m : M} {Q : V → M → Prop} (h :
 (∀ m0 : M, (m0 = (M.new m (AO.cells 6 [(Il a100), (Il a101), (Il a102), 
 (Il a103), (Il a104), a105] false))) → ∃ x1 x2 x3, 
 ∃ x4 x5, ∃ c6 : C, ((ldA m0 (.ptr m.nxt 0) 6) = (some [(Il x1), 
 (Il x2), (Il x3), (Il x4), (Il x5), 
 c6])) ∧ Wc prog tbl 49 [(.agg 6 [(Il x1), (Il x2), (Il x3), 
 (Il x4), (Il x5), c6])] m0 (fun v7 m8 => ∃ x9, (v7 = (.c (Il x9))) ∧ 
 Q (.c (Il x9)) m8))) : Wc prog tbl 20 [(.agg 6 [(Il a100), (Il a101), (Il a102), (Il a103), (Il a104), a105])] m Q :=
 wc_eq (n := 1) rfl (by kernel_rfl) (by kernel_rfl) h
theorem w23 {a100 : Int} {a101 : Int} {a102 : Int} {a103 : Int} {a104 : Int} {a105 : C} {a200 : Int} {m : M} {Q : V → M → Prop} (h :
 (∀ m0 : M, (m0 = (M.new m (AO.cells 6 [(Il a100), (Il a101), (Il a102), 
 (Il a103), (Il a104), a105] false))) → ∃ x1 x2 x3, 
 ∃ x4 x5, ∃ c6 : C, ((ldA m0 (.ptr m.nxt 0) 6) = (some [(Il x1), 
 (Il x2), (Il x3), (Il x4), (Il x5), 
 c6])) ∧ isPt (.ptr m.nxt 0) ∧ ∃ x7 x8, ((ldA m0 (.ptr m.nxt 3) 2) = (some [(Il x7), 
 (Il x8)])) ∧ Wc prog tbl 64 [(.agg 6 [(Il x1), (Il x2), 
 (Il x3), (Il x4), (Il x5), c6]), (.agg 2 [(Il x7), 
 (Il x8)]), (.c (Il a200))] m0 (fun v9 m10 => ∃ x11, 
 (v9 = (.c (Il x11))) ∧ Q (.c (Il x11)) m10))) : Wc prog tbl 23 [(.agg 6 [(Il a100), (Il a101), (Il a102), (Il a103), (Il a104), a105]), (.c (Il a200))] m Q :=
 wc_eq (n := 2) rfl (by kernel_rfl) (by kernel_rfl) h
theorem w51 {a100 : Int} {a101 : Int} {a200 : Int} {a201 : Int} {m : M} {Q : V → M → Prop} (h :
 (∀ m0 : M, (m0 = (M.new m (AO.cells 2 [(Il a100), (Il a101)] false))) → ∀ m1 : M, 
 (m1 = (M.new m0 (AO.cells 2 [(Il a200), (Il a201)] false))) → isPt (.ptr m.nxt 0) ∧ 
 ∃ x2, ((ldC m1 (.ptr m.nxt 0)) = (some (Il x2))) ∧ isPt (.ptr m0.nxt 0) ∧ 
 ∃ x3, ((ldC m1 (.ptr m0.nxt 0)) = (some (Il x3))) ∧ fitsP .i64 (x2 - x3) ∧ 
 isPt (.ptr m0.nxt 0) ∧ ∃ x4, ((ldC m1 (.ptr m0.nxt 0)) = (some (Il x4))) ∧ 
 isPt (.ptr m.nxt 0) ∧ ∃ x5, ((ldC m1 (.ptr m.nxt 0)) = (some (Il x5))) ∧ 
 fitsP .i64 (x4 - x5) ∧ isPt (.ptr m.nxt 0) ∧ ∃ x6, ((ldC m1 (.ptr m.nxt 1)) = (some (Il x6))) ∧ 
 isPt (.ptr m0.nxt 0) ∧ ∃ x7, ((ldC m1 (.ptr m0.nxt 1)) = (some (Il x7))) ∧ 
 fitsP .i64 (x6 - x7) ∧ isPt (.ptr m0.nxt 0) ∧ ∃ x8, ((ldC m1 (.ptr m0.nxt 1)) = (some (Il x8))) ∧ 
 isPt (.ptr m.nxt 0) ∧ ∃ x9, ((ldC m1 (.ptr m.nxt 1)) = (some (Il x9))) ∧ 
 fitsP .i64 (x8 - x9) ∧ fitsP .i64 ((Max.max (x2 - x3) (x4 - x5)) + (Max.max (x6 - x7) (x8 - x9))) ∧ 
 Q (.c (Il ((Max.max (x2 - x3) (x4 - x5)) + (Max.max (x6 - x7) (x8 - x9))))) m1)) : Wc prog tbl 51 [(.agg 2 [(Il a100), (Il a101)]), (.agg 2 [(Il a200), (Il a201)])] m Q :=
 wc_eq (n := 2) rfl (by kernel_rfl) (by kernel_rfl) h
theorem w54 {a100 : Int} {a101 : Int} {a102 : Int} {a103 : Int} {a104 : Int} {a105 : C} {m : M} {Q : V → M → Prop} (h :
 (∀ m0 : M, (m0 = (M.new m (AO.cells 6 [(Il a100), (Il a101), (Il a102), 
 (Il a103), (Il a104), a105] false))) → isPt (.ptr m.nxt 0) ∧ ∃ c1 : C, 
 ((ldC m0 (.ptr m.nxt 5)) = (some c1)) ∧ isSl c1 ∧ ((0 : Int) ≤ (1 : Int)) ∧ ((0 : Int) ≤ (wrapZ .u64 (((slLen c1) : Nat) : Int))) ∧ 
 ((wrapZ .u64 (((slLen c1) : Nat) : Int)) ≤ (64 : Int)) ∧ fitsP .i64 ((1 : Int) * ((2 : Int) ^ (Int.toNat (wrapZ .u64 (((slLen c1) : Nat) : Int))))) ∧ 
 fitsP .i64 (((1 : Int) * ((2 : Int) ^ (Int.toNat (wrapZ .u64 (((slLen c1) : Nat) : Int))))) - (1 : Int)) ∧ 
 Q (.c (Il (((1 : Int) * ((2 : Int) ^ (Int.toNat (wrapZ .u64 (((slLen c1) : Nat) : Int))))) - (1 : Int)))) m0)) : Wc prog tbl 54 [(.agg 6 [(Il a100), (Il a101), (Il a102), (Il a103), (Il a104), a105])] m Q :=
 wc_eq (n := 1) rfl (by kernel_rfl) (by kernel_rfl) h
theorem w57 {a100 : Int} {a200 : Int} {a300 : Int} {m : M} {Q : V → M → Prop} (h :
 (ifB (decide (a200 ≤ a100)) (Q (.c (.bool (decide (a100 ≤ a300)))) m) (Q (.c (.bool false)) m))) : Wc prog tbl 57 [(.c (Il a100)), (.c (Il a200)), (.c (Il a300))] m Q :=
 wc_eq (n := 3) rfl (by kernel_rfl) (by kernel_rfl) h
theorem w60 {a100 : Int} {a101 : Int} {a102 : Int} {a103 : Int} {a104 : Int} {a105 : C} {a106 : Bool} {a107 : Bool} {a108 : Bool} {a109 : Bool} {a110 : Bool} {a111 : C} {a200 : Bool} {a201 : Bool} {a202 : Bool} {a203 : Bool} {a204 : Bool} {m : M} {Q : V → M → Prop} (h :
 (∀ m0 : M, (m0 = (M.new m (AO.cells 12 [(Il a100), (Il a101), (Il a102), 
 (Il a103), (Il a104), a105, (.bool a106), (.bool a107), (.bool a108), 
 (.bool a109), (.bool a110), a111] false))) → ∀ m1 : M, (m1 = (M.new m0 (AO.cells 5 [(.bool a200), 
 (.bool a201), (.bool a202), (.bool a203), (.bool a204)] false))) → ∃ x2 x3 x4, 
 ∃ x5 x6, ∃ c7 : C, ∃ b8 : Bool, ∃ b9 : Bool, ∃ b10 : Bool, ∃ b11 : Bool, ∃ b12 : Bool, 
 ∃ c13 : C, ((ldA m1 (.ptr m.nxt 0) 12) = (some [(Il x2), (Il x3), 
 (Il x4), (Il x5), (Il x6), c7, (.bool b8), 
 (.bool b9), (.bool b10), (.bool b11), (.bool b12), c13])) ∧ ∃ b14 : Bool, ∃ b15 : Bool, 
 ∃ b16 : Bool, ∃ b17 : Bool, ∃ b18 : Bool, ((ldA m1 (.ptr m0.nxt 0) 5) = (some [(.bool b14), 
 (.bool b15), (.bool b16), (.bool b17), (.bool b18)])) ∧ Wc prog tbl 82 [(.agg 12 [(Il x2), 
 (Il x3), (Il x4), (Il x5), (Il x6), 
 c7, (.bool b8), (.bool b9), (.bool b10), (.bool b11), (.bool b12), c13]), (.agg 5 [(.bool b14), 
 (.bool b15), (.bool b16), (.bool b17), (.bool b18)])] m1 (fun v19 m20 => ∃ x21, 
 (v19 = (.c (Il x21))) ∧ isPt (.ptr m.nxt 0) ∧ isPt (.ptr m.nxt 0) ∧ 
 ∃ x22, ((ldC m20 (.ptr m.nxt 2)) = (some (Il x22))) ∧ 
 ((ldC m1 (.ptr m.nxt 2)) = (some (Il x22))) ∧ Q (.c (.bool (decide (x21 ≤ x22)))) m20))) : Wc prog tbl 60 [(.agg 12 [(Il a100), (Il a101), (Il a102), (Il a103), (Il a104), a105, (.bool a106), (.bool a107), (.bool a108), (.bool a109), (.bool a110), a111]), (.agg 5 [(.bool a200), (.bool a201), (.bool a202), (.bool a203), (.bool a204)])] m Q :=
 wc_eq (n := 2) rfl (by kernel_rfl) (by kernel_rfl) h
theorem w63 {a100 : Int} {a101 : Int} {a102 : Int} {a103 : Int} {a104 : Int} {a105 : C} {m : M} {Q : V → M → Prop} (h :
 (∀ m0 : M, (m0 = (M.new m (AO.cells 6 [(Il a100), (Il a101), (Il a102), 
 (Il a103), (Il a104), a105] false))) → isPt (.ptr m.nxt 0) ∧ ∃ x1, 
 ((ldC m0 (.ptr m.nxt 0)) = (some (Il x1))) ∧ ifB (decide ((1 : Int) ≤ x1)) (isPt (.ptr m.nxt 0) ∧ 
 ∃ x2, ((ldC m0 (.ptr m.nxt 1)) = (some (Il x2))) ∧ ifB (decide ((0 : Int) ≤ x2)) (isPt (.ptr m.nxt 0) ∧ 
 ∃ x3, ((ldC m0 (.ptr m.nxt 2)) = (some (Il x3))) ∧ ifB (decide ((0 : Int) ≤ x3)) (isPt (.ptr m.nxt 0) ∧ 
 ∃ x4 x5, ((ldA m0 (.ptr m.nxt 3) 2) = (some [(Il x4), 
 (Il x5)])) ∧ Wc prog tbl 85 [(.agg 2 [(Il x4), (Il x5)])] m0 (fun v6 m7 => 
 ∃ b8 : Bool, (v6 = (.c (.bool b8))) ∧ ifB b8 (isPt (.ptr m.nxt 0) ∧ ∃ c9 : C, 
 ((ldC m7 (.ptr m.nxt 5)) = (some c9)) ∧ ∃ x10 x11 x12, 
 ∃ x13 x14, ∃ c15 : C, ((ldA m7 (.ptr m.nxt 0) 6) = (some [(Il x10), 
 (Il x11), (Il x12), (Il x13), (Il x14), 
 c15])) ∧ optB (mapO vW [(.agg 6 [(Il x10), (Il x11), 
 (Il x12), (Il x13), (Il x14), c15])]) False fun l16 => 
 Wc prog tbl 86 [(.c c9), (.c (C.fn (Fn.func 87) l16 []))] m7 (fun v17 m18 => 
 ∃ b19 : Bool, (v17 = (.c (.bool b19))) ∧ Q (.c (.bool b19)) m18)) (Q (.c (.bool false)) m7))) (Q (.c (.bool false)) m0)) (Q (.c (.bool false)) m0)) (Q (.c (.bool false)) m0))) : Wc prog tbl 63 [(.agg 6 [(Il a100), (Il a101), (Il a102), (Il a103), (Il a104), a105])] m Q :=
 wc_eq (n := 1) rfl (by kernel_rfl) (by kernel_rfl) h
theorem w78 {a100 : Int} {a101 : Int} {m : M} {Q : V → M → Prop} (h :
 (∀ m0 : M, (m0 = (M.new m (AO.cells 2 [(Il a100), (Il a101)] false))) → isPt (.ptr m.nxt 0) ∧ 
 ∃ x1, ((ldC m0 (.ptr m.nxt 0)) = (some (Il x1))) ∧ Wc prog tbl 57 [(.c (Il x1)), 
 (.c (Il 0)), (.c (Il (9 : Int)))] m0 (fun v2 m3 => ∃ b4 : Bool, 
 (v2 = (.c (.bool b4))) ∧ ifB b4 (isPt (.ptr m.nxt 0) ∧ ∃ x5, ((ldC m3 (.ptr m.nxt 1)) = (some (Il x5))) ∧ 
 Wc prog tbl 57 [(.c (Il x5)), (.c (Il 0)), (.c (Il (9 : Int)))] m3 (fun v6 m7 => 
 ∃ b8 : Bool, (v6 = (.c (.bool b8))) ∧ Q (.c (.bool b8)) m7)) (Q (.c (.bool false)) m3)))) : Wc prog tbl 78 [(.agg 2 [(Il a100), (Il a101)])] m Q :=
 wc_eq (n := 1) rfl (by kernel_rfl) (by kernel_rfl) h
theorem w81 {a100 : Int} {a101 : Int} {a102 : Int} {a103 : Int} {a104 : Int} {a105 : C} {a200 : Int} {m : M} {Q : V → M → Prop} (h :
 (∀ m0 : M, (m0 = (M.new m (AO.cells 6 [(Il a100), (Il a101), (Il a102), 
 (Il a103), (Il a104), a105] false))) → isPt (.ptr m.nxt 0) ∧ ∃ c1 : C, 
 ((ldC m0 (.ptr m.nxt 5)) = (some c1)) ∧ isSl c1 ∧ fitsP .i64 ((((slLen c1) : Nat) : Int) - (1 : Int)) ∧ 
 Wc prog tbl 97 [(.agg 2 [(Il 0), (Il ((((slLen c1) : Nat) : Int) - (1 : Int)))]), 
 (.c (Il a200))] m0 (fun v2 m3 => ∃ b4 : Bool, (v2 = (.c (.bool b4))) ∧ Q (.c (.bool b4)) m3))) : Wc prog tbl 81 [(.agg 6 [(Il a100), (Il a101), (Il a102), (Il a103), (Il a104), a105]), (.c (Il a200))] m Q :=
 wc_eq (n := 2) rfl (by kernel_rfl) (by kernel_rfl) h
theorem w84 {a100 : C} {m : M} {Q : V → M → Prop} (h :
 (okN (TK.sl 3) a100 ∧ okN (TK.sl 3) a100 ∧ okN (TK.sl 3) C.sl0 ∧ (((isNilC a100) || true) = true) ∧ ifB ((isNilC a100) && true) (Q (.c C.sl0) m) (∀ m0 : M, 
 (m0 = (M.new m (AO.cells 0 [] false))) → ∃ c1 : C, ∃ m2 : M, (ApR prog 27 m0 (.sl m.nxt 0 0 0 (some 0)) a100 c1 m2) ∧ 
 Q (.c c1) m2))) : Wc prog tbl 84 [(.c a100)] m Q :=
 wc_eq (n := 1) rfl (by kernel_rfl) (by kernel_rfl) h
theorem w87 {a100 : Int} {a101 : Int} {a102 : Int} {a103 : Int} {a104 : Int} {a105 : C} {a200 : Int} {a201 : Int} {a202 : Int} {a203 : Int} {m : M} {Q : V → M → Prop} (h :
 (∀ m0 : M, (m0 = (M.new m (AO.cells 6 [(Il a100), (Il a101), (Il a102), 
 (Il a103), (Il a104), a105] false))) → ∀ m1 : M, (m1 = (M.new m0 (AO.cells 4 [(Il a200), 
 (Il a201), (Il a202), (Il a203)] false))) → isPt (.ptr m0.nxt 0) ∧ 
 ∃ x2 x3, ((ldA m1 (.ptr m0.nxt 0) 2) = (some [(Il x2), (Il x3)])) ∧ 
 Wc prog tbl 85 [(.agg 2 [(Il x2), (Il x3)])] m1 (fun v4 m5 => ∃ b6 : Bool, 
 (v4 = (.c (.bool b6))) ∧ ifB b6 (isPt (.ptr m0.nxt 0) ∧ isPt (.ptr m0.nxt 2) ∧ ∃ x7, 
 ((ldC m5 (.ptr m0.nxt 2)) = (some (Il x7))) ∧ isPt (.ptr m0.nxt 0) ∧ 
 isPt (.ptr m0.nxt 2) ∧ ∃ x8, ((ldC m5 (.ptr m0.nxt 3)) = (some (Il x8))) ∧ 
 ifB (decide (x7 ≤ x8)) (∃ x9 x10 x11 x12 x13, 
 ∃ c14 : C, ((ldA m5 (.ptr m.nxt 0) 6) = (some [(Il x9), 
 (Il x10), (Il x11), (Il x12), (Il x13), 
 c14])) ∧ isPt (.ptr m0.nxt 0) ∧ isPt (.ptr m0.nxt 2) ∧ ∃ x15, 
 ((ldC m5 (.ptr m0.nxt 2)) = (some (Il x15))) ∧ Wc prog tbl 104 [(.agg 6 [(Il x9), 
 (Il x10), (Il x11), (Il x12), (Il x13), 
 c14]), (.c (Il x15))] m5 (fun v16 m17 => ∃ b18 : Bool, (v16 = (.c (.bool b18))) ∧ 
 ifB b18 (∃ x19 x20 x21 x22 x23, 
 ∃ c24 : C, ((ldA m17 (.ptr m.nxt 0) 6) = (some [(Il x19), 
 (Il x20), (Il x21), (Il x22), (Il x23), 
 c24])) ∧ isPt (.ptr m0.nxt 0) ∧ isPt (.ptr m0.nxt 2) ∧ ∃ x25, 
 ((ldC m17 (.ptr m0.nxt 3)) = (some (Il x25))) ∧ Wc prog tbl 104 [(.agg 6 [(Il x19), 
 (Il x20), (Il x21), (Il x22), (Il x23), 
 c24]), (.c (Il x25))] m17 (fun v26 m27 => ∃ b28 : Bool, (v26 = (.c (.bool b28))) ∧ 
 Q (.c (.bool b28)) m27)) (Q (.c (.bool false)) m17))) (Q (.c (.bool false)) m5)) (Q (.c (.bool false)) m5)))) : Wc prog tbl 87 [(.agg 6 [(Il a100), (Il a101), (Il a102), (Il a103), (Il a104), a105]), (.agg 4 [(Il a200), (Il a201), (Il a202), (Il a203)])] m Q :=
 wc_eq (n := 2) rfl (by kernel_rfl) (by kernel_rfl) h
theorem w92 {a100 : Bool} {a101 : Bool} {a102 : Bool} {a103 : Bool} {a104 : Bool} {a200 : Int} {m : M} {Q : V → M → Prop} (h :
 (∀ m0 : M, (m0 = (M.new m (AO.cells 5 [(.bool a100), (.bool a101), (.bool a102), (.bool a103), (.bool a104)] false))) → 
 ∀ m1 : M, (m1 = (M.new m0 (AO.cells 5 [(.bool false), (.bool false), (.bool false), (.bool false), 
 (.bool false)] false))) → isPt (.ptr m.nxt 0) ∧ ∃ n2 : Nat, (a200 = ((n2 : Nat) : Int)) ∧ (n2 < 5) ∧ 
 ∃ m3 : M, ((stC m1 (.ptr m.nxt (0 + (n2 * 1))) 1 [(.bool false)]) = (some m3)) ∧ ∃ b4 : Bool, 
 ∃ b5 : Bool, ∃ b6 : Bool, ∃ b7 : Bool, ∃ b8 : Bool, ((ldA m3 (.ptr m.nxt 0) 5) = (some [(.bool b4), 
 (.bool b5), (.bool b6), (.bool b7), (.bool b8)])) ∧ ∃ m9 : M, ((stC m3 (.ptr m0.nxt 0) 5 [(.bool b4), 
 (.bool b5), (.bool b6), (.bool b7), (.bool b8)]) = (some m9)) ∧ ∃ b10 : Bool, 
 ∃ b11 : Bool, ∃ b12 : Bool, ∃ b13 : Bool, ∃ b14 : Bool, ((ldA m9 (.ptr m0.nxt 0) 5) = (some [(.bool b10), 
 (.bool b11), (.bool b12), (.bool b13), (.bool b14)])) ∧ Q (.agg 5 [(.bool b10), 
 (.bool b11), (.bool b12), (.bool b13), (.bool b14)]) m9)) : Wc prog tbl 92 [(.agg 5 [(.bool a100), (.bool a101), (.bool a102), (.bool a103), (.bool a104)]), (.c (Il a200))] m Q :=
 wc_eq (n := 2) rfl (by kernel_rfl) (by kernel_rfl) h
theorem w98 {a100 : C} {m : M} {Q : V → M → Prop} (h :
 (isSl a100 ∧ ifB (decide ((((slLen a100) : Nat) : Int) = (0 : Int))) (Q (.c (Il 0)) m) (∃ n0 : Nat, 
 ((0 : Int) = ((n0 : Nat) : Int)) ∧ (n0 < (slLen a100)) ∧ ∃ x1, ((ldC m (slAt a100 (n0 * 1))) = (some (Il x1))) ∧ 
 isSl a100 ∧ ∀ R2 : List V → M → Prop, (∀ x3 : Int, ∀ x4 : Int, ∀ m5 : M, (ifB (decide (x4 < (((slLen a100) : Nat) : Int))) (∃ n6 : Nat, 
 (x4 = ((n6 : Nat) : Int)) ∧ (n6 < (slLen a100)) ∧ ∃ x7, ((ldC m5 (slAt a100 (n6 * 1))) = (some (Il x7))) ∧ 
 ifB (decide (x7 < x3)) (fitsP .i64 (x4 + 1) ∧ R2 [(.c (Il x7)), 
 (.c (Il (x4 + 1)))] m5) (fitsP .i64 (x4 + 1) ∧ 
 R2 [(.c (Il x3)), (.c (Il (x4 + 1)))] m5)) (Q (.c (Il x3)) m5)) → 
 R2 [(.c (Il x3)), (.c (Il x4))] m5) → R2 [(.c (Il x1)), 
 (.c (Il 0))] m))) : Wc prog tbl 98 [(.c a100)] m Q :=
 wc_eq (n := 1) rfl (by kernel_rfl) (by kernel_rfl) h
theorem w104 {a100 : Int} {a101 : Int} {a102 : Int} {a103 : Int} {a104 : Int} {a105 : C} {a200 : Int} {m : M} {Q : V → M → Prop} (h :
 (∀ m0 : M, (m0 = (M.new m (AO.cells 6 [(Il a100), (Il a101), (Il a102), 
 (Il a103), (Il a104), a105] false))) → isPt (.ptr m.nxt 0) ∧ ∃ x1, 
 ((ldC m0 (.ptr m.nxt 1)) = (some (Il x1))) ∧ Wc prog tbl 97 [(.agg 2 [(Il 0), 
 (Il x1)]), (.c (Il a200))] m0 (fun v2 m3 => ∃ b4 : Bool, (v2 = (.c (.bool b4))) ∧ 
 Q (.c (.bool b4)) m3))) : Wc prog tbl 104 [(.agg 6 [(Il a100), (Il a101), (Il a102), (Il a103), (Il a104), a105]), (.c (Il a200))] m Q :=
 wc_eq (n := 2) rfl (by kernel_rfl) (by kernel_rfl) h
theorem w108 {a100 : C} {a200 : C} {m : M} {Q : V → M → Prop} (h :
 (isSl a100 ∧ ∀ R0 : List V → M → Prop, (∀ x1 : Int, ∀ x2 : Int, ∀ m3 : M, (ifB (decide (x2 < (((slLen a100) : Nat) : Int))) (∃ n4 : Nat, 
 (x2 = ((n4 : Nat) : Int)) ∧ (n4 < (slLen a100)) ∧ ∃ x5 x6 x7 x8, 
 ((ldA m3 (slAt a100 (n4 * 4)) 4) = (some [(Il x5), (Il x6), 
 (Il x7), (Il x8)])) ∧ callP prog tbl [(.agg 4 [(Il x5), 
 (Il x6), (Il x7), (Il x8)])] a200 m3 (fun v9 m10 => 
 ∃ b11 : Bool, (v9 = (.c (.bool b11))) ∧ ifB b11 (Q (.c (Il x2)) m10) (fitsP .i64 (x2 + 1) ∧ 
 R0 [(.c (Il x1)), (.c (Il (x2 + 1)))] m10))) (Q (.c (Il (-1 : Int))) m3)) → 
 R0 [(.c (Il x1)), (.c (Il x2))] m3) → R0 [(.c (Il 0)), 
 (.c (Il 0))] m)) : Wc prog tbl 108 [(.c a100), (.c a200)] m Q :=
 wc_eq (n := 2) rfl (by kernel_rfl) (by kernel_rfl) h
end
end Go.Proofs.Ytoejeieblichnaa

namespace Go.Proofs.Ytoejeieblichnaa
open _root_.Go.Proofs.Try
open Go.Abs
set_option maxRecDepth 100000
noncomputable section
theorem w18 {a100 : Int} {a101 : Int} {a102 : Int} {a103 : Int} {a104 : Int} {a105 : C} {m : M} {Q : V → M → Prop} (h :
 (∀ m0 : M, (m0 = (M.new m (AO.cells 6 [(Il a100), (Il a101), (Il a102), 
 (Il a103), (Il a104), a105] false))) → ∀ m1 : M, (m1 = (M.new m0 (AO.cells 6 [(Il 0), 
 (Il 0), (Il 0), (Il 0), (Il 0), 
 C.sl0] false))) → isPt (.ptr m.nxt 0) ∧ ∃ x2, ((ldC m1 (.ptr m.nxt 0)) = (some (Il x2))) ∧ 
 isPt (.ptr m.nxt 0) ∧ ∃ x3, ((ldC m1 (.ptr m.nxt 1)) = (some (Il x3))) ∧ 
 isPt (.ptr m.nxt 0) ∧ ∃ x4, ((ldC m1 (.ptr m.nxt 2)) = (some (Il x4))) ∧ 
 isPt (.ptr m.nxt 0) ∧ isPt (.ptr m.nxt 3) ∧ ∃ x5, ((ldC m1 (.ptr m.nxt 3)) = (some (Il x5))) ∧ 
 isPt (.ptr m.nxt 0) ∧ isPt (.ptr m.nxt 3) ∧ ∃ x6, ((ldC m1 (.ptr m.nxt 4)) = (some (Il x6))) ∧ 
 ∀ m7 : M, (m7 = (M.new m1 (AO.cells 6 [(Il 0), (Il 0), 
 (Il 0), (Il 0), (Il 0), 
 C.sl0] false))) → ∃ m8 : M, ((stC m7 (.ptr m1.nxt 0) 6 [(Il x2), 
 (Il x3), (Il x4), (Il x5), (Il x6), 
 C.sl0]) = (some m8)) ∧ ∀ R9 : List V → M → Prop, (∀ x10 : Int, ∀ m11 : M, 
 (isPt (.ptr m.nxt 0) ∧ ∃ c12 : C, ((ldC m11 (.ptr m.nxt 5)) = (some c12)) ∧ 
 isSl c12 ∧ ifB (decide (x10 < (((slLen c12) : Nat) : Int))) (isPt (.ptr m.nxt 0) ∧ 
 ∃ c13 : C, ((ldC m11 (.ptr m.nxt 5)) = (some c13)) ∧ ∃ n14 : Nat, 
 (x10 = ((n14 : Nat) : Int)) ∧ (n14 < (slLen c13)) ∧ ∃ x15 x16, 
 ∃ x17 x18, ((ldA m11 (slAt c13 (n14 * 4)) 4) = (some [(Il x15), 
 (Il x16), (Il x17), (Il x18)])) ∧ 
 ∀ m19 : M, (m19 = (M.new m11 (AO.cells 4 [(Il 0), (Il 0), 
 (Il 0), (Il 0)] false))) → ∃ m20 : M, 
 ((stC m19 (.ptr m11.nxt 0) 4 [(Il x15), (Il x16), 
 (Il x17), (Il x18)]) = (some m20)) ∧ isPt (.ptr m1.nxt 0) ∧ 
 ∃ c21 : C, ((ldC m20 (.ptr m1.nxt 5)) = (some c21)) ∧ isPt (.ptr m11.nxt 0) ∧ 
 isPt (.ptr m11.nxt 0) ∧ ∃ x22, ((ldC m20 (.ptr m11.nxt 0)) = (some (Il x22))) ∧ 
 isPt (.ptr m11.nxt 0) ∧ isPt (.ptr m11.nxt 0) ∧ ∃ x23, ((ldC m20 (.ptr m11.nxt 1)) = (some (Il x23))) ∧ 
 isPt (.ptr m11.nxt 0) ∧ isPt (.ptr m11.nxt 2) ∧ ∃ x24, ((ldC m20 (.ptr m11.nxt 2)) = (some (Il x24))) ∧ 
 isPt (.ptr m11.nxt 0) ∧ isPt (.ptr m11.nxt 2) ∧ ∃ x25, ((ldC m20 (.ptr m11.nxt 3)) = (some (Il x25))) ∧ 
 ∀ m26 : M, (m26 = (M.new m20 (AO.cells 4 [(Il x22), (Il x23), 
 (Il x24), (Il x25)] false))) → ∃ c27 : C, ∃ m28 : M, 
 (ApR prog 33 m26 c21 (.sl m20.nxt 0 1 0 (some 1)) c27 m28) ∧ isPt (.ptr m1.nxt 0) ∧ 
 ∃ m29 : M, ((stC m28 (.ptr m1.nxt 5) 1 [c27]) = (some m29)) ∧ fitsP .i64 (x10 + 1) ∧ 
 R9 [(.c (Il (x10 + 1)))] m29) (∃ x30, 
 ∃ x31 x32 x33 x34, ∃ c35 : C, ((ldA m11 (.ptr m1.nxt 0) 6) = (some [(Il x30), 
 (Il x31), (Il x32), (Il x33), (Il x34), 
 c35])) ∧ ∃ m36 : M, ((stC m11 (.ptr m0.nxt 0) 6 [(Il x30), 
 (Il x31), (Il x32), (Il x33), (Il x34), 
 c35]) = (some m36)) ∧ ∃ x37 x38 x39 x40, 
 ∃ x41, ∃ c42 : C, ((ldA m36 (.ptr m0.nxt 0) 6) = (some [(Il x37), 
 (Il x38), (Il x39), (Il x40), (Il x41), 
 c42])) ∧ Q (.agg 6 [(Il x37), (Il x38), (Il x39), 
 (Il x40), (Il x41), c42]) m36)) → 
 R9 [(.c (Il x10))] m11) → R9 [(.c (Il 0))] m8)) : Wc prog tbl 18 [(.agg 6 [(Il a100), (Il a101), (Il a102), (Il a103), (Il a104), a105])] m Q :=
 wc_eq (n := 1) rfl (by kernel_rfl) (by kernel_rfl) h
theorem w21 {a100 : Int} {a101 : Int} {a102 : Int} {a103 : Int} {a104 : Int} {a105 : C} {m : M} {Q : V → M → Prop} (h :
 (∀ m0 : M, (m0 = (M.new m (AO.cells 6 [(Il a100), (Il a101), (Il a102), 
 (Il a103), (Il a104), a105] false))) → ∃ x1 x2 x3, 
 ∃ x4 x5, ∃ c6 : C, ((ldA m0 (.ptr m.nxt 0) 6) = (some [(Il x1), 
 (Il x2), (Il x3), (Il x4), (Il x5), 
 c6])) ∧ Wc prog tbl 62 [(.agg 6 [(Il x1), (Il x2), (Il x3), 
 (Il x4), (Il x5), c6])] m0 (fun v7 m8 => ∃ b9 : Bool, (v7 = (.c (.bool b9))) ∧ 
 ifB b9 (Q (.c (Il (3 : Int))) m8) (∃ x10 x11 x12 x13, 
 ∃ x14, ∃ c15 : C, ((ldA m8 (.ptr m.nxt 0) 6) = (some [(Il x10), 
 (Il x11), (Il x12), (Il x13), (Il x14), 
 c15])) ∧ Wc prog tbl 63 [(.agg 6 [(Il x10), (Il x11), 
 (Il x12), (Il x13), (Il x14), c15])] m8 (fun v16 m17 => 
 ∃ b18 : Bool, (v16 = (.c (.bool b18))) ∧ ifB (!b18) (Q (.c (Il (1 : Int))) m17) (Q (.c (Il 0)) m17)))))) : Wc prog tbl 21 [(.agg 6 [(Il a100), (Il a101), (Il a102), (Il a103), (Il a104), a105])] m Q :=
 wc_eq (n := 1) rfl (by kernel_rfl) (by kernel_rfl) h
theorem w24 {a100 : Int} {a101 : Int} {a102 : Int} {a103 : Int} {a104 : Int} {a105 : C} {a200 : C} {m : M} {Q : V → M → Prop} (h :
 (∀ m0 : M, (m0 = (M.new m (AO.cells 6 [(Il a100), (Il a101), (Il a102), 
 (Il a103), (Il a104), a105] false))) → isPt (.ptr m.nxt 0) ∧ ∃ x1, 
 ∃ x2, ((ldA m0 (.ptr m.nxt 3) 2) = (some [(Il x1), (Il x2)])) ∧ 
 ∀ m3 : M, (m3 = (M.new m0 (AO.cells 2 [(Il 0), (Il 0)] false))) → 
 ((ldA m3 (.ptr m.nxt 3) 2) = (some [(Il x1), (Il x2)])) ∧ 
 ∃ m4 : M, ((stC m3 (.ptr m0.nxt 0) 2 [(Il x1), (Il x2)]) = (some m4)) ∧ 
 ∀ R5 : List V → M → Prop, (∀ x6 : Int, ∀ x7 : Int, ∀ m8 : M, (isSl a200 ∧ ifB (decide (x7 < (((slLen a200) : Nat) : Int))) (∃ x9, 
 ∃ x10, ((ldA m8 (.ptr m0.nxt 0) 2) = (some [(Il x9), (Il x10)])) ∧ 
 isPt (.ptr m.nxt 0) ∧ ∃ c11 : C, ((ldC m8 (.ptr m.nxt 5)) = (some c11)) ∧ 
 ∃ n12 : Nat, (x7 = ((n12 : Nat) : Int)) ∧ (n12 < (slLen a200)) ∧ ∃ x13, 
 ((ldC m8 (slAt a200 (n12 * 1))) = (some (Il x13))) ∧ ∃ n14 : Nat, 
 (x13 = ((n14 : Nat) : Int)) ∧ (n14 < (slLen c11)) ∧ isPt (slAt c11 (n14 * 4)) ∧ 
 ∃ x15 x16, ((ldA m8 (ptAdd (slAt c11 (n14 * 4)) 0) 2) = (some [(Il x15), 
 (Il x16)])) ∧ Wc prog tbl 51 [(.agg 2 [(Il x9), 
 (Il x10)]), (.agg 2 [(Il x15), (Il x16)])] m8 (fun v17 m18 => 
 ∃ x19, (v17 = (.c (Il x19))) ∧ fitsP .i64 (x6 + x19) ∧ 
 isPt (.ptr m.nxt 0) ∧ ∃ c20 : C, ((ldC m18 (.ptr m.nxt 5)) = (some c20)) ∧ 
 (ifB (cmC c20) ((ldC m8 (.ptr m.nxt 5)) = (some c20)) False) ∧ ∃ n21 : Nat, 
 (x7 = ((n21 : Nat) : Int)) ∧ (n21 < (slLen a200)) ∧ ∃ x22, ((ldC m18 (slAt a200 (n21 * 1))) = (some (Il x22))) ∧ 
 ((ldC m8 (slAt a200 (n21 * 1))) = (some (Il x22))) ∧ ∃ n23 : Nat, 
 (x22 = ((n23 : Nat) : Int)) ∧ (n23 < (slLen c20)) ∧ isPt (slAt c20 (n23 * 4)) ∧ 
 ∃ x24 x25, ((ldA m18 (ptAdd (slAt c20 (n23 * 4)) 0) 2) = (some [(Il x24), 
 (Il x25)])) ∧ ((ldA m8 (ptAdd (slAt c20 (n23 * 4)) 0) 2) = (some [(Il x24), 
 (Il x25)])) ∧ ∃ m26 : M, ((stC m18 (.ptr m0.nxt 0) 2 [(Il x24), 
 (Il x25)]) = (some m26)) ∧ fitsP .i64 (x7 + 1) ∧ 
 R5 [(.c (Il (x6 + x19))), (.c (Il (x7 + 1)))] m26)) (∃ x27, 
 ∃ x28, ((ldA m8 (.ptr m0.nxt 0) 2) = (some [(Il x27), 
 (Il x28)])) ∧ isPt (.ptr m.nxt 0) ∧ ∃ x29 x30, 
 ((ldA m8 (.ptr m.nxt 3) 2) = (some [(Il x29), (Il x30)])) ∧ 
 Wc prog tbl 51 [(.agg 2 [(Il x27), (Il x28)]), (.agg 2 [(Il x29), 
 (Il x30)])] m8 (fun v31 m32 => ∃ x33, (v31 = (.c (Il x33))) ∧ 
 fitsP .i64 (x6 + x33) ∧ Q (.c (Il (x6 + x33))) m32))) → 
 R5 [(.c (Il x6)), (.c (Il x7))] m8) → R5 [(.c (Il 0)), 
 (.c (Il 0))] m4)) : Wc prog tbl 24 [(.agg 6 [(Il a100), (Il a101), (Il a102), (Il a103), (Il a104), a105]), (.c a200)] m Q :=
 wc_eq (n := 2) rfl (by kernel_rfl) (by kernel_rfl) h
theorem w49 {a100 : Int} {a101 : Int} {a102 : Int} {a103 : Int} {a104 : Int} {a105 : C} {m : M} {Q : V → M → Prop} (h :
 (∀ m0 : M, (m0 = (M.new m (AO.cells 6 [(Il a100), (Il a101), (Il a102), 
 (Il a103), (Il a104), a105] false))) → isPt (.ptr m.nxt 0) ∧ ∃ x1, 
 ((ldC m0 (.ptr m.nxt 0)) = (some (Il x1))) ∧ ifB (decide ((3 : Int) < x1)) (Q (.c (Il (3 : Int))) m0) (isPt (.ptr m.nxt 0) ∧ 
 ∃ x2, ((ldC m0 (.ptr m.nxt 1)) = (some (Il x2))) ∧ ifB (decide ((5 : Int) < x2)) (Q (.c (Il (3 : Int))) m0) (isPt (.ptr m.nxt 0) ∧ 
 ∃ x3, ((ldC m0 (.ptr m.nxt 2)) = (some (Il x3))) ∧ ifB (decide ((30 : Int) < x3)) (Q (.c (Il (3 : Int))) m0) (isPt (.ptr m.nxt 0) ∧ 
 ∃ c4 : C, ((ldC m0 (.ptr m.nxt 5)) = (some c4)) ∧ isSl c4 ∧ ifB (decide ((5 : Int) < (((slLen c4) : Nat) : Int))) (Q (.c (Il (3 : Int))) m0) (isPt (.ptr m.nxt 0) ∧ 
 ∃ x5, ((ldC m0 (.ptr m.nxt 0)) = (some (Il x5))) ∧ ifB (decide (x5 < 1)) (Q (.c (Il (1 : Int))) m0) (isPt (.ptr m.nxt 0) ∧ 
 ∃ x6, ((ldC m0 (.ptr m.nxt 1)) = (some (Il x6))) ∧ 
 ifB (decide (x6 < 0)) (Q (.c (Il (1 : Int))) m0) (isPt (.ptr m.nxt 0) ∧ 
 ∃ x7, ((ldC m0 (.ptr m.nxt 2)) = (some (Il x7))) ∧ 
 ifB (decide (x7 < 0)) (Q (.c (Il (1 : Int))) m0) (isPt (.ptr m.nxt 0) ∧ 
 ∃ x8 x9, ((ldA m0 (.ptr m.nxt 3) 2) = (some [(Il x8), 
 (Il x9)])) ∧ Wc prog tbl 78 [(.agg 2 [(Il x8), 
 (Il x9)])] m0 (fun v10 m11 => ∃ b12 : Bool, (v10 = (.c (.bool b12))) ∧ 
 ifB (!b12) (Q (.c (Il (1 : Int))) m11) (∀ R13 : List V → M → 
 Prop, (∀ x14 : Int, ∀ x15 : Int, ∀ m16 : M, (isPt (.ptr m.nxt 0) ∧ ∃ c17 : C, 
 ((ldC m16 (.ptr m.nxt 5)) = (some c17)) ∧ isSl c17 ∧ ifB (decide (x15 < (((slLen c17) : Nat) : Int))) (isPt (.ptr m.nxt 0) ∧ 
 ∃ c18 : C, ((ldC m16 (.ptr m.nxt 5)) = (some c18)) ∧ ∃ n19 : Nat, 
 (x15 = ((n19 : Nat) : Int)) ∧ (n19 < (slLen c18)) ∧ ∃ x20 x21, 
 ∃ x22 x23, ((ldA m16 (slAt c18 (n19 * 4)) 4) = (some [(Il x20), 
 (Il x21), (Il x22), (Il x23)])) ∧ 
 ∀ m24 : M, (m24 = (M.new m16 (AO.cells 4 [(Il 0), (Il 0), 
 (Il 0), (Il 0)] false))) → ∃ m25 : M, 
 ((stC m24 (.ptr m16.nxt 0) 4 [(Il x20), (Il x21), 
 (Il x22), (Il x23)]) = (some m25)) ∧ isPt (.ptr m16.nxt 0) ∧ 
 ∃ x26 x27, ((ldA m25 (.ptr m16.nxt 0) 2) = (some [(Il x26), 
 (Il x27)])) ∧ Wc prog tbl 78 [(.agg 2 [(Il x26), 
 (Il x27)])] m25 (fun v28 m29 => ∃ b30 : Bool, (v28 = (.c (.bool b30))) ∧ 
 ifB (!b30) (Q (.c (Il (1 : Int))) m29) (isPt (.ptr m16.nxt 0) ∧ 
 isPt (.ptr m16.nxt 2) ∧ ∃ x31, ((ldC m29 (.ptr m16.nxt 2)) = (some (Il x31))) ∧ 
 isPt (.ptr m16.nxt 0) ∧ isPt (.ptr m16.nxt 2) ∧ ∃ x32, ((ldC m29 (.ptr m16.nxt 3)) = (some (Il x32))) ∧ 
 Wc prog tbl 57 [(.c (Il x31)), (.c (Il 0)), 
 (.c (Il x32))] m29 (fun v33 m34 => ∃ b35 : Bool, (v33 = (.c (.bool b35))) ∧ 
 ifB (!b35) (Q (.c (Il (1 : Int))) m34) (isPt (.ptr m16.nxt 0) ∧ 
 isPt (.ptr m16.nxt 2) ∧ ∃ x36, ((ldC m34 (.ptr m16.nxt 3)) = (some (Il x36))) ∧ 
 isPt (.ptr m.nxt 0) ∧ ∃ x37, ((ldC m34 (.ptr m.nxt 1)) = (some (Il x37))) ∧ 
 ifB (decide (x37 < x36)) (Q (.c (Il (1 : Int))) m34) (fitsP .i64 (x15 + 1) ∧ 
 R13 [(.c (Il x14)), (.c (Il (x15 + 1)))] m34)))))) (Q (.c (Il 0)) m16)) → 
 R13 [(.c (Il x14)), (.c (Il x15))] m16) → 
 R13 [(.c (Il 0)), (.c (Il 0))] m11))))))))))) : Wc prog tbl 49 [(.agg 6 [(Il a100), (Il a101), (Il a102), (Il a103), (Il a104), a105])] m Q :=
 wc_eq (n := 1) rfl (by kernel_rfl) (by kernel_rfl) h
theorem w58 {a100 : Int} {a101 : Int} {a102 : Int} {a103 : Int} {a104 : Int} {a105 : C} {m : M} {Q : V → M → Prop} (h :
 (∀ m0 : M, (m0 = (M.new m (AO.cells 6 [(Il a100), (Il a101), (Il a102), 
 (Il a103), (Il a104), a105] false))) → ∀ m1 : M, (m1 = (M.new m0 (AO.cells 12 [(Il 0), 
 (Il 0), (Il 0), (Il 0), (Il 0), 
 C.sl0, (.bool false), (.bool false), (.bool false), (.bool false), (.bool false), C.map0] false))) → 
 ∃ x2 x3 x4 x5 x6, ∃ c7 : C, ((ldA m1 (.ptr m.nxt 0) 6) = (some [(Il x2), 
 (Il x3), (Il x4), (Il x5), (Il x6), 
 c7])) ∧ Wc prog tbl 21 [(.agg 6 [(Il x2), (Il x3), (Il x4), 
 (Il x5), (Il x6), c7])] m1 (fun v8 m9 => ∃ x10, (v8 = (.c (Il x10))) ∧ 
 ifB (!decide (x10 = 0)) (∃ m11 : M, ((stC m9 (.ptr m0.nxt 0) 12 [(Il 0), 
 (Il 0), (Il 0), (Il 0), 
 (Il 0), C.sl0, (.bool false), (.bool false), (.bool false), 
 (.bool false), (.bool false), C.map0]) = (some m11)) ∧ ∃ x12 x13, 
 ∃ x14 x15 x16, ∃ c17 : C, ∃ b18 : Bool, ∃ b19 : Bool, ∃ b20 : Bool, 
 ∃ b21 : Bool, ∃ b22 : Bool, ∃ c23 : C, ((ldA m11 (.ptr m0.nxt 0) 12) = (some [(Il x12), 
 (Il x13), (Il x14), (Il x15), (Il x16), 
 c17, (.bool b18), (.bool b19), (.bool b20), (.bool b21), (.bool b22), c23])) ∧ 
 Q (.tup [(.agg 12 [(Il x12), (Il x13), (Il x14), 
 (Il x15), (Il x16), c17, (.bool b18), (.bool b19), 
 (.bool b20), (.bool b21), (.bool b22), c23]), (.c (Il x10))]) m11) (∃ x24, 
 ∃ x25 x26 x27 x28, ∃ c29 : C, ((ldA m9 (.ptr m.nxt 0) 6) = (some [(Il x24), 
 (Il x25), (Il x26), (Il x27), (Il x28), 
 c29])) ∧ ∀ m30 : M, (m30 = (M.new m9 (AO.map [] 0))) → ∀ m31 : M, (m31 = (M.new m30 (AO.cells 12 [(Il 0), 
 (Il 0), (Il 0), (Il 0), 
 (Il 0), C.sl0, (.bool false), (.bool false), (.bool false), 
 (.bool false), (.bool false), C.map0] false))) → ∃ m32 : M, ((stC m31 (.ptr m30.nxt 0) 12 [(Il x24), 
 (Il x25), (Il x26), (Il x27), (Il x28), 
 c29, (.bool false), (.bool false), (.bool false), (.bool false), (.bool false), 
 (C.map m9.nxt)]) = (some m32)) ∧ isPt (.ptr m.nxt 0) ∧ ∃ c33 : C, 
 ((ldC m32 (.ptr m.nxt 5)) = (some c33)) ∧ isSl c33 ∧ ∀ R34 : List V → 
 M → Prop, (∀ x35 : Int, ∀ m36 : M, (ifB (decide (x35 < (((slLen c33) : Nat) : Int))) (isPt (.ptr m30.nxt 0) ∧ 
 isPt (.ptr m30.nxt 6) ∧ ∃ n37 : Nat, (x35 = ((n37 : Nat) : Int)) ∧ (n37 < 5) ∧ 
 ∃ m38 : M, ((stC m36 (.ptr m30.nxt (6 + (n37 * 1))) 1 [(.bool true)]) = (some m38)) ∧ 
 fitsP .i64 (x35 + 1) ∧ R34 [(.c (Il (x35 + 1)))] m38) (∃ x39, 
 ∃ x40 x41 x42 x43, ∃ c44 : C, ∃ b45 : Bool, 
 ∃ b46 : Bool, ∃ b47 : Bool, ∃ b48 : Bool, ∃ b49 : Bool, ∃ c50 : C, ((ldA m36 (.ptr m30.nxt 0) 12) = (some [(Il x39), 
 (Il x40), (Il x41), (Il x42), (Il x43), 
 c44, (.bool b45), (.bool b46), (.bool b47), (.bool b48), (.bool b49), c50])) ∧ 
 ∃ m51 : M, ((stC m36 (.ptr m0.nxt 0) 12 [(Il x39), (Il x40), 
 (Il x41), (Il x42), (Il x43), c44, 
 (.bool b45), (.bool b46), (.bool b47), (.bool b48), (.bool b49), c50]) = (some m51)) ∧ 
 ∃ x52 x53 x54 x55 x56, ∃ c57 : C, 
 ∃ b58 : Bool, ∃ b59 : Bool, ∃ b60 : Bool, ∃ b61 : Bool, ∃ b62 : Bool, ∃ c63 : C, 
 ((ldA m51 (.ptr m0.nxt 0) 12) = (some [(Il x52), (Il x53), 
 (Il x54), (Il x55), (Il x56), c57, 
 (.bool b58), (.bool b59), (.bool b60), (.bool b61), (.bool b62), c63])) ∧ 
 Q (.tup [(.agg 12 [(Il x52), (Il x53), (Il x54), 
 (Il x55), (Il x56), c57, (.bool b58), (.bool b59), 
 (.bool b60), (.bool b61), (.bool b62), c63]), (.c (Il 0))]) m51)) → 
 R34 [(.c (Il x35))] m36) → R34 [(.c (Il 0))] m32)))) : Wc prog tbl 58 [(.agg 6 [(Il a100), (Il a101), (Il a102), (Il a103), (Il a104), a105])] m Q :=
 wc_eq (n := 1) rfl (by kernel_rfl) (by kernel_rfl) h
theorem w61 {a100 : Int} {a101 : Int} {a102 : Int} {a103 : Int} {a104 : Int} {a105 : C} {a106 : Bool} {a107 : Bool} {a108 : Bool} {a109 : Bool} {a110 : Bool} {a111 : C} {a200 : Bool} {a201 : Bool} {a202 : Bool} {a203 : Bool} {a204 : Bool} {m : M} {Q : V → M → Prop} (h :
 (∀ m0 : M, (m0 = (M.new m (AO.cells 12 [(Il a100), (Il a101), (Il a102), 
 (Il a103), (Il a104), a105, (.bool a106), (.bool a107), (.bool a108), 
 (.bool a109), (.bool a110), a111] false))) → ∀ m1 : M, (m1 = (M.new m0 (AO.cells 5 [(.bool a200), 
 (.bool a201), (.bool a202), (.bool a203), (.bool a204)] false))) → ∀ m2 : M, (m2 = (M.new m1 (AO.cells 1 [C.sl0] false))) → 
 ∀ m3 : M, (m3 = (M.new m2 (AO.cells 1 [(Il 0)] false))) → ∃ x4 x5, 
 ∃ x6 x7 x8, ∃ c9 : C, ∃ b10 : Bool, ∃ b11 : Bool, ∃ b12 : Bool, ∃ b13 : Bool, 
 ∃ b14 : Bool, ∃ c15 : C, ((ldA m3 (.ptr m.nxt 0) 12) = (some [(Il x4), 
 (Il x5), (Il x6), (Il x7), (Il x8), 
 c9, (.bool b10), (.bool b11), (.bool b12), (.bool b13), (.bool b14), c15])) ∧ 
 ∃ b16 : Bool, ∃ b17 : Bool, ∃ b18 : Bool, ∃ b19 : Bool, ∃ b20 : Bool, ((ldA m3 (.ptr m0.nxt 0) 5) = (some [(.bool b16), 
 (.bool b17), (.bool b18), (.bool b19), (.bool b20)])) ∧ Wc prog tbl 82 [(.agg 12 [(Il x4), 
 (Il x5), (Il x6), (Il x7), (Il x8), 
 c9, (.bool b10), (.bool b11), (.bool b12), (.bool b13), (.bool b14), c15]), 
 (.agg 5 [(.bool b16), (.bool b17), (.bool b18), (.bool b19), (.bool b20)])] m3 (fun v21 m22 => 
 ∃ x23, (v21 = (.c (Il x23))) ∧ ∃ m24 : M, ((stC m22 (.ptr m2.nxt 0) 1 [(Il x23)]) = (some m24)) ∧ 
 isPt (.ptr m.nxt 0) ∧ ∃ x25 x26 x27 x28, 
 ∃ x29, ∃ c30 : C, ((ldA m24 (.ptr m.nxt 0) 6) = (some [(Il x25), 
 (Il x26), (Il x27), (Il x28), (Il x29), 
 c30])) ∧ ∃ b31 : Bool, ∃ b32 : Bool, ∃ b33 : Bool, ∃ b34 : Bool, ∃ b35 : Bool, 
 ((ldA m24 (.ptr m0.nxt 0) 5) = (some [(.bool b31), (.bool b32), 
 (.bool b33), (.bool b34), (.bool b35)])) ∧ Wc prog tbl 83 [(.agg 6 [(Il x25), 
 (Il x26), (Il x27), (Il x28), (Il x29), 
 c30]), (.agg 5 [(.bool b31), (.bool b32), (.bool b33), (.bool b34), (.bool b35)])] m24 (fun v36 m37 => 
 ∃ c38 : C, (v36 = (.c c38)) ∧ rangeP prog tbl c38 m37 (fun l46 m47 R48 R49 => 
 ∃ c50 : C, ∃ x51, (l46 = [(.c c50), (.c (Il x51))]) ∧ 
 R48 m47 (fun m52 => ∃ x53, ((ldC m52 (.ptr m2.nxt 0)) = (some (Il x53))) ∧ 
 ifB (decide (x51 = x53)) (Wc prog tbl 84 [(.c c50)] m52 (fun v54 m55 => ∃ c56 : C, 
 (v54 = (.c c56)) ∧ ∃ m57 : M, ((stC m55 (.ptr m1.nxt 0) 1 [c56]) = (some m57)) ∧ 
 R49 (Ex.exit 0) m57)) (R49 Ex.nrm m52))) (After.mk (fun m58 => ∃ c59 : C, 
 ((ldC m58 (.ptr m1.nxt 0)) = (some c59)) ∧ ∃ x60, ((ldC m58 (.ptr m2.nxt 0)) = (some (Il x60))) ∧ 
 ∃ m61 : M, ((stC m58 (.ptr m1.nxt 0) 1 [c59]) = (some m61)) ∧ ((ldC m61 (.ptr m2.nxt 0)) = (some (Il x60))) ∧ 
 ∃ m62 : M, ((stC m61 (.ptr m2.nxt 0) 1 [(Il x60)]) = (some m62)) ∧ 
 ∃ c63 : C, ((ldC m62 (.ptr m1.nxt 0)) = (some c63)) ∧ ∃ x64, 
 ((ldC m62 (.ptr m2.nxt 0)) = (some (Il x64))) ∧ Q (.tup [(.c c63), 
 (.c (Il x64))]) m62) [(0, (fun m39 => ∃ c40 : C, 
 (((ldC m39 (.ptr m1.nxt 0)) = (some c40)) ∧ ∃ x41, (((ldC m39 (.ptr m2.nxt 0)) = (some (Il x41))) ∧ 
 ∃ m42 : M, (((stC m39 (.ptr m1.nxt 0) 1 [c40]) = (some m42)) ∧ ((ldC m42 (.ptr m2.nxt 0)) = (some (Il x41))) ∧ 
 ∃ m43 : M, ((stC m42 (.ptr m2.nxt 0) 1 [(Il x41)]) = (some m43)) ∧ 
 ∃ c44 : C, ((ldC m43 (.ptr m1.nxt 0)) = (some c44)) ∧ ∃ x45, 
 ((ldC m43 (.ptr m2.nxt 0)) = (some (Il x45))) ∧ Q (.tup [(.c c44), 
 (.c (Il x45))]) m43)))))] (fun m65 => ∃ c66 : C, 
 ((ldC m65 (.ptr m1.nxt 0)) = (some c66)) ∧ ∃ x67, ((ldC m65 (.ptr m2.nxt 0)) = (some (Il x67))) ∧ 
 Q (.tup [(.c c66), (.c (Il x67))]) m65)))))) : Wc prog tbl 61 [(.agg 12 [(Il a100), (Il a101), (Il a102), (Il a103), (Il a104), a105, (.bool a106), (.bool a107), (.bool a108), (.bool a109), (.bool a110), a111]), (.agg 5 [(.bool a200), (.bool a201), (.bool a202), (.bool a203), (.bool a204)])] m Q :=
 wc_eq (n := 2) rfl (by kernel_rfl) (by kernel_rfl) h
theorem w64 {a100 : Int} {a101 : Int} {a102 : Int} {a103 : Int} {a104 : Int} {a105 : C} {a200 : Int} {a201 : Int} {a300 : Int} {m : M} {Q : V → M → Prop} (h :
 (∀ m0 : M, (m0 = (M.new m (AO.cells 6 [(Il a100), (Il a101), (Il a102), 
 (Il a103), (Il a104), a105] false))) → ∀ m1 : M, (m1 = (M.new m0 (AO.cells 2 [(Il a200), 
 (Il a201)] false))) → ifB (decide (a300 = 0)) (∃ x2 x3, ((ldA m1 (.ptr m0.nxt 0) 2) = (some [(Il x2), 
 (Il x3)])) ∧ isPt (.ptr m.nxt 0) ∧ ∃ x4 x5, ((ldA m1 (.ptr m.nxt 3) 2) = (some [(Il x4), 
 (Il x5)])) ∧ Wc prog tbl 51 [(.agg 2 [(Il x2), (Il x3)]), 
 (.agg 2 [(Il x4), (Il x5)])] m1 (fun v6 m7 => ∃ x8, (v6 = (.c (Il x8))) ∧ 
 Q (.c (Il x8)) m7)) (∀ R9 : List V → M → Prop, (∀ x10 : Int, ∀ x11 : Int, 
 ∀ m12 : M, (isPt (.ptr m.nxt 0) ∧ ∃ c13 : C, ((ldC m12 (.ptr m.nxt 5)) = (some c13)) ∧ 
 isSl c13 ∧ ifB (decide (x11 < (((slLen c13) : Nat) : Int))) (((0 : Int) ≤ a300) ∧ ((0 : Int) ≤ (wrapZ .u64 x11)) ∧ 
 ((wrapZ .u64 x11) ≤ (64 : Int)) ∧ fitsP .i64 (a300 / ((2 : Int) ^ (Int.toNat (wrapZ .u64 x11)))) ∧ 
 ((0 : Int) ≤ (a300 / ((2 : Int) ^ (Int.toNat (wrapZ .u64 x11))))) ∧ ((0 : Int) < (2 : Int)) ∧ 
 fitsP .i64 ((a300 / ((2 : Int) ^ (Int.toNat (wrapZ .u64 x11)))) % (2 : Int)) ∧ 
 ifB (decide (((a300 / ((2 : Int) ^ (Int.toNat (wrapZ .u64 x11)))) % (2 : Int)) = (1 : Int))) (∃ x14, 
 ∃ x15, ((ldA m12 (.ptr m0.nxt 0) 2) = (some [(Il x14), 
 (Il x15)])) ∧ isPt (.ptr m.nxt 0) ∧ ∃ c16 : C, ((ldC m12 (.ptr m.nxt 5)) = (some c16)) ∧ 
 ∃ n17 : Nat, (x11 = ((n17 : Nat) : Int)) ∧ (n17 < (slLen c16)) ∧ isPt (slAt c16 (n17 * 4)) ∧ 
 ∃ x18 x19, ((ldA m12 (ptAdd (slAt c16 (n17 * 4)) 0) 2) = (some [(Il x18), 
 (Il x19)])) ∧ Wc prog tbl 51 [(.agg 2 [(Il x14), 
 (Il x15)]), (.agg 2 [(Il x18), (Il x19)])] m12 (fun v20 m21 => 
 ∃ x22, (v20 = (.c (Il x22))) ∧ ∃ x23 x24, 
 ∃ x25 x26 x27, ∃ c28 : C, ((ldA m21 (.ptr m.nxt 0) 6) = (some [(Il x23), 
 (Il x24), (Il x25), (Il x26), (Il x27), 
 c28])) ∧ (ifB (allS cmC [(Il x23), (Il x24), (Il x25), 
 (Il x26), (Il x27), c28]) ((ldA m12 (.ptr m.nxt 0) 6) = (some [(Il x23), 
 (Il x24), (Il x25), (Il x26), (Il x27), 
 c28])) False) ∧ isPt (.ptr m.nxt 0) ∧ ∃ c29 : C, ((ldC m21 (.ptr m.nxt 5)) = (some c29)) ∧ 
 (ifB (cmC c29) ((ldC m12 (.ptr m.nxt 5)) = (some c29)) False) ∧ ∃ n30 : Nat, 
 (x11 = ((n30 : Nat) : Int)) ∧ (n30 < (slLen c29)) ∧ isPt (slAt c29 (n30 * 4)) ∧ 
 ∃ x31 x32, ((ldA m21 (ptAdd (slAt c29 (n30 * 4)) 0) 2) = (some [(Il x31), 
 (Il x32)])) ∧ ((ldA m12 (ptAdd (slAt c29 (n30 * 4)) 0) 2) = (some [(Il x31), 
 (Il x32)])) ∧ ((0 : Int) ≤ (1 : Int)) ∧ ((0 : Int) ≤ (wrapZ .u64 x11)) ∧ 
 ((wrapZ .u64 x11) ≤ (64 : Int)) ∧ fitsP .i64 ((1 : Int) * ((2 : Int) ^ (Int.toNat (wrapZ .u64 x11)))) ∧ 
 ((0 : Int) ≤ a300) ∧ ((0 : Int) ≤ ((1 : Int) * ((2 : Int) ^ (Int.toNat (wrapZ .u64 x11))))) ∧ 
 fitsP .i64 a300 ∧ fitsP .i64 ((1 : Int) * ((2 : Int) ^ (Int.toNat (wrapZ .u64 x11)))) ∧ 
 fitsP .i64 (((Nat.xor (Int.toNat a300) (Nat.land (Int.toNat a300) (Int.toNat ((1 : Int) * ((2 : Int) ^ (Int.toNat (wrapZ .u64 x11))))))) : Nat) : Int) ∧ 
 Wc prog tbl 64 [(.agg 6 [(Il x23), (Il x24), 
 (Il x25), (Il x26), (Il x27), c28]), 
 (.agg 2 [(Il x31), (Il x32)]), (.c (Il (((Nat.xor (Int.toNat a300) (Nat.land (Int.toNat a300) (Int.toNat ((1 : Int) * ((2 : Int) ^ (Int.toNat (wrapZ .u64 x11))))))) : Nat) : Int)))] m21 (fun v33 m34 => 
 ∃ x35, (v33 = (.c (Il x35))) ∧ fitsP .i64 (x22 + x35) ∧ 
 fitsP .i64 (x11 + 1) ∧ R9 [(.c (Il (Min.min x10 (x22 + x35)))), 
 (.c (Il (x11 + 1)))] m34))) (fitsP .i64 (x11 + 1) ∧ 
 R9 [(.c (Il x10)), (.c (Il (x11 + 1)))] m12)) (Q (.c (Il x10)) m12)) → 
 R9 [(.c (Il x10)), (.c (Il x11))] m12) → R9 [(.c (Il (1073741824 : Int))), 
 (.c (Il 0))] m1))) : Wc prog tbl 64 [(.agg 6 [(Il a100), (Il a101), (Il a102), (Il a103), (Il a104), a105]), (.agg 2 [(Il a200), (Il a201)]), (.c (Il a300))] m Q :=
 wc_eq (n := 3) rfl (by kernel_rfl) (by kernel_rfl) h
theorem w82 {a100 : Int} {a101 : Int} {a102 : Int} {a103 : Int} {a104 : Int} {a105 : C} {a106 : Bool} {a107 : Bool} {a108 : Bool} {a109 : Bool} {a110 : Bool} {a111 : C} {a200 : Bool} {a201 : Bool} {a202 : Bool} {a203 : Bool} {a204 : Bool} {m : M} {Q : V → M → Prop} (h :
 (∀ m0 : M, (m0 = (M.new m (AO.cells 12 [(Il a100), (Il a101), (Il a102), 
 (Il a103), (Il a104), a105, (.bool a106), (.bool a107), (.bool a108), 
 (.bool a109), (.bool a110), a111] false))) → ∀ m1 : M, (m1 = (M.new m0 (AO.cells 5 [(.bool a200), 
 (.bool a201), (.bool a202), (.bool a203), (.bool a204)] false))) → isPt (.ptr m.nxt 0) ∧ ∃ c2 : C, 
 ((ldC m1 (.ptr m.nxt 11)) = (some c2)) ∧ ∃ b3 : Bool, ∃ b4 : Bool, ∃ b5 : Bool, ∃ b6 : Bool, 
 ∃ b7 : Bool, ((ldA m1 (.ptr m0.nxt 0) 5) = (some [(.bool b3), (.bool b4), (.bool b5), 
 (.bool b6), (.bool b7)])) ∧ ∃ y8 : Option U, ((lkM prog 98 m1 c2 (.agg 5 [(.bool b3), 
 (.bool b4), (.bool b5), (.bool b6), (.bool b7)])) = (some y8)) ∧ ((y8 = Option.none) → 
 ∀ m9 : M, (m9 = (M.new m1 (AO.cells 1 [C.sl0] false))) → isPt (.ptr m.nxt 0) ∧ ∃ x10, 
 ∃ x11 x12 x13 x14, ∃ c15 : C, ((ldA m9 (.ptr m.nxt 0) 6) = (some [(Il x10), 
 (Il x11), (Il x12), (Il x13), (Il x14), 
 c15])) ∧ ∃ b16 : Bool, ∃ b17 : Bool, ∃ b18 : Bool, ∃ b19 : Bool, ∃ b20 : Bool, 
 ((ldA m9 (.ptr m0.nxt 0) 5) = (some [(.bool b16), (.bool b17), (.bool b18), 
 (.bool b19), (.bool b20)])) ∧ Wc prog tbl 83 [(.agg 6 [(Il x10), 
 (Il x11), (Il x12), (Il x13), (Il x14), 
 c15]), (.agg 5 [(.bool b16), (.bool b17), (.bool b18), (.bool b19), (.bool b20)])] m9 (fun v21 m22 => 
 ∃ c23 : C, (v21 = (.c c23)) ∧ rangeP prog tbl c23 m22 (fun l24 m25 R26 R27 => 
 ∃ c28 : C, ∃ x29, (l24 = [(.c c28), (.c (Il x29))]) ∧ 
 R26 m25 (fun m30 => ∃ c31 : C, ((ldC m30 (.ptr m1.nxt 0)) = (some c31)) ∧ 
 ∀ m32 : M, (m32 = (M.new m30 (AO.cells 1 [(Il x29)] false))) → 
 ∃ c33 : C, ∃ m34 : M, (ApR prog 27 m32 c31 (.sl m30.nxt 0 1 0 (some 1)) c33 m34) ∧ 
 ∃ m35 : M, ((stC m34 (.ptr m1.nxt 0) 1 [c33]) = (some m35)) ∧ R27 Ex.nrm m35)) (After.mk (fun m36 => 
 ∃ c37 : C, ((ldC m36 (.ptr m1.nxt 0)) = (some c37)) ∧ Wc prog tbl 98 [(.c c37)] m36 (fun v38 m39 => 
 ∃ x40, (v38 = (.c (Il x40))) ∧ isPt (.ptr m.nxt 0) ∧ 
 ∃ c41 : C, ((ldC m39 (.ptr m.nxt 11)) = (some c41)) ∧ ∃ b42 : Bool, 
 ∃ b43 : Bool, ∃ b44 : Bool, ∃ b45 : Bool, ∃ b46 : Bool, ((ldA m39 (.ptr m0.nxt 0) 5) = (some [(.bool b42), 
 (.bool b43), (.bool b44), (.bool b45), (.bool b46)])) ∧ ∃ m47 : M, ((upM prog 98 m39 c41 (.agg 5 [(.bool b42), 
 (.bool b43), (.bool b44), (.bool b45), (.bool b46)]) (.c (Il x40))) = (some m47)) ∧ 
 Q (.c (Il x40)) m47)) [] (fun m48 => Q (.c (Il 0)) m48)))) ∧ 
 ∀ u49 : U, (y8 = (some u49)) → ∃ x50, (u49 = (.c (Il x50))) ∧ 
 Q (.c (Il x50)) m1)) : Wc prog tbl 82 [(.agg 12 [(Il a100), (Il a101), (Il a102), (Il a103), (Il a104), a105, (.bool a106), (.bool a107), (.bool a108), (.bool a109), (.bool a110), a111]), (.agg 5 [(.bool a200), (.bool a201), (.bool a202), (.bool a203), (.bool a204)])] m Q :=
 wc_eq (n := 2) rfl (by kernel_rfl) (by kernel_rfl) h
theorem w85 {a100 : Int} {a101 : Int} {m : M} {Q : V → M → Prop} (h :
 (∀ m0 : M, (m0 = (M.new m (AO.cells 2 [(Il a100), (Il a101)] false))) → ∀ m1 : M, 
 (m1 = (M.new m0 (AO.cells 2 [(Il 0), (Il 0)] false))) → ∃ m2 : M, 
 ((stC m1 (.ptr m0.nxt 0) 2 [(Il 0), (Il (9 : Int))]) = (some m2)) ∧ 
 ∃ x3 x4, ((ldA m2 (.ptr m0.nxt 0) 2) = (some [(Il x3), (Il x4)])) ∧ 
 isPt (.ptr m.nxt 0) ∧ ∃ x5, ((ldC m2 (.ptr m.nxt 0)) = (some (Il x5))) ∧ 
 Wc prog tbl 97 [(.agg 2 [(Il x3), (Il x4)]), (.c (Il x5))] m2 (fun v6 m7 => 
 ∃ b8 : Bool, (v6 = (.c (.bool b8))) ∧ ifB b8 (∃ x9 x10, ((ldA m7 (.ptr m0.nxt 0) 2) = (some [(Il x9), 
 (Il x10)])) ∧ isPt (.ptr m.nxt 0) ∧ ∃ x11, ((ldC m7 (.ptr m.nxt 1)) = (some (Il x11))) ∧ 
 Wc prog tbl 97 [(.agg 2 [(Il x9), (Il x10)]), (.c (Il x11))] m7 (fun v12 m13 => 
 ∃ b14 : Bool, (v12 = (.c (.bool b14))) ∧ Q (.c (.bool b14)) m13)) (Q (.c (.bool false)) m7)))) : Wc prog tbl 85 [(.agg 2 [(Il a100), (Il a101)])] m Q :=
 wc_eq (n := 1) rfl (by kernel_rfl) (by kernel_rfl) h
theorem w101 {a100 : Int} {a101 : Int} {a200 : Int} {a201 : Int} {m : M} {Q : V → M → Prop} (h :
 (∀ m0 : M, (m0 = (M.new m (AO.cells 2 [(Il a100), (Il a101)] false))) → ∀ m1 : M, 
 (m1 = (M.new m0 (AO.cells 2 [(Il a200), (Il a201)] false))) → isPt (.ptr m.nxt 0) ∧ 
 ∃ x2, ((ldC m1 (.ptr m.nxt 0)) = (some (Il x2))) ∧ isPt (.ptr m0.nxt 0) ∧ 
 ∃ x3, ((ldC m1 (.ptr m0.nxt 0)) = (some (Il x3))) ∧ fitsP .i64 (x2 - x3) ∧ 
 isPt (.ptr m0.nxt 0) ∧ ∃ x4, ((ldC m1 (.ptr m0.nxt 0)) = (some (Il x4))) ∧ 
 isPt (.ptr m.nxt 0) ∧ ∃ x5, ((ldC m1 (.ptr m.nxt 0)) = (some (Il x5))) ∧ 
 fitsP .i64 (x4 - x5) ∧ isPt (.ptr m.nxt 0) ∧ ∃ x6, ((ldC m1 (.ptr m.nxt 1)) = (some (Il x6))) ∧ 
 isPt (.ptr m0.nxt 0) ∧ ∃ x7, ((ldC m1 (.ptr m0.nxt 1)) = (some (Il x7))) ∧ 
 fitsP .i64 (x6 - x7) ∧ isPt (.ptr m0.nxt 0) ∧ ∃ x8, ((ldC m1 (.ptr m0.nxt 1)) = (some (Il x8))) ∧ 
 isPt (.ptr m.nxt 0) ∧ ∃ x9, ((ldC m1 (.ptr m.nxt 1)) = (some (Il x9))) ∧ 
 fitsP .i64 (x8 - x9) ∧ fitsP .i64 ((Max.max (x2 - x3) (x4 - x5)) + (Max.max (x6 - x7) (x8 - x9))) ∧ 
 Q (.c (Il ((Max.max (x2 - x3) (x4 - x5)) + (Max.max (x6 - x7) (x8 - x9))))) m1)) : Wc prog tbl 101 [(.agg 2 [(Il a100), (Il a101)]), (.agg 2 [(Il a200), (Il a201)])] m Q :=
 wc_eq (n := 2) rfl (by kernel_rfl) (by kernel_rfl) h
end
end Go.Proofs.Ytoejeieblichnaa

namespace Go.Proofs.Ytoejeieblichnaa
open _root_.Go.Proofs.Try
open Go.Abs
set_option maxRecDepth 100000
noncomputable section
theorem w9 {a100 : Int} {a101 : Int} {a102 : Int} {a103 : Int} {a104 : Int} {a105 : C} {a200 : Int} {a300 : Int} {m : M} {Q : V → M → Prop} (h :
 (∀ m0 : M, (m0 = (M.new m (AO.cells 6 [(Il a100), (Il a101), (Il a102), 
 (Il a103), (Il a104), a105] false))) → isPt (.ptr m.nxt 0) ∧ ∃ c1 : C, 
 ((ldC m0 (.ptr m.nxt 5)) = (some c1)) ∧ isSl c1 ∧ ifB (decide ((7 : Int) < (((slLen c1) : Nat) : Int))) (Wc prog tbl 16 [] m0 (fun v2 m3 => 
 ∃ b4 : Bool, (v2 = (.c (.bool b4))) ∧ Q (.c (.bool b4)) m3)) (∃ x5 x6 x7, 
 ∃ x8 x9, ∃ c10 : C, ((ldA m0 (.ptr m.nxt 0) 6) = (some [(Il x5), 
 (Il x6), (Il x7), (Il x8), (Il x9), 
 c10])) ∧ Wc prog tbl 49 [(.agg 6 [(Il x5), (Il x6), (Il x7), 
 (Il x8), (Il x9), c10])] m0 (fun v11 m12 => ∃ x13, (v11 = (.c (Il x13))) ∧ 
 ifB (!decide (x13 = 0)) (Wc prog tbl 16 [] m12 (fun v14 m15 => ∃ b16 : Bool, (v14 = (.c (.bool b16))) ∧ 
 Q (.c (.bool b16)) m15)) (∃ x17 x18 x19 x20, 
 ∃ x21, ∃ c22 : C, ((ldA m12 (.ptr m.nxt 0) 6) = (some [(Il x17), 
 (Il x18), (Il x19), (Il x20), (Il x21), 
 c22])) ∧ Wc prog tbl 50 [(.agg 6 [(Il x17), (Il x18), 
 (Il x19), (Il x20), (Il x21), c22]), 
 (.c (C.int .u8 a200))] m12 (fun v23 m24 => ∃ c25 : C, (v23 = (.c c25)) ∧ 
 ∃ x26 x27 x28 x29 x30, ∃ c31 : C, 
 ((ldA m24 (.ptr m.nxt 0) 6) = (some [(Il x26), (Il x27), 
 (Il x28), (Il x29), (Il x30), c31])) ∧ 
 (ifB (allS cmC [(Il x26), (Il x27), (Il x28), 
 (Il x29), (Il x30), c31]) ((ldA m12 (.ptr m.nxt 0) 6) = (some [(Il x26), 
 (Il x27), (Il x28), (Il x29), (Il x30), 
 c31])) False) ∧ ((0 : Int) ≤ a200) ∧ ((0 : Int) ≤ a300) ∧ fitsP .u8 a200 ∧ 
 fitsP .u8 a300 ∧ fitsP .u8 (((Nat.land (Int.toNat a200) (Int.toNat a300)) : Nat) : Int) ∧ 
 Wc prog tbl 50 [(.agg 6 [(Il x26), (Il x27), 
 (Il x28), (Il x29), (Il x30), c31]), 
 (.c (C.int .u8 (((Nat.land (Int.toNat a200) (Int.toNat a300)) : Nat) : Int)))] m24 (fun v32 m33 => 
 ∃ c34 : C, (v32 = (.c c34)) ∧ ∃ x35 x36 x37 x38, 
 ∃ x39, ∃ c40 : C, ((ldA m33 (.ptr m.nxt 0) 6) = (some [(Il x35), 
 (Il x36), (Il x37), (Il x38), (Il x39), 
 c40])) ∧ Wc prog tbl 18 [(.agg 6 [(Il x35), (Il x36), 
 (Il x37), (Il x38), (Il x39), c40])] m33 (fun v41 m42 => 
 ∃ x43 x44 x45 x46 x47, ∃ c48 : C, 
 (v41 = (.agg 6 [(Il x43), (Il x44), (Il x45), 
 (Il x46), (Il x47), c48])) ∧ Wc prog tbl 19 [(.c c25)] m42 (fun v49 m50 => 
 ∃ c51 : C, (v49 = (.c c51)) ∧ Wc prog tbl 17 [(.agg 6 [(Il x43), 
 (Il x44), (Il x45), (Il x46), (Il x47), 
 c48]), (.c c51)] m50 (fun v52 m53 => ∃ c54 : C, ∃ x55 x56, 
 (v52 = (.tup [(.c c54), (.c (Il x55)), (.c (Il x56))])) ∧ 
 ∃ x57 x58 x59 x60 x61, ∃ c62 : C, 
 ((ldA m53 (.ptr m.nxt 0) 6) = (some [(Il x57), (Il x58), 
 (Il x59), (Il x60), (Il x61), c62])) ∧ 
 Wc prog tbl 18 [(.agg 6 [(Il x57), (Il x58), 
 (Il x59), (Il x60), (Il x61), c62])] m53 (fun v63 m64 => 
 ∃ x65 x66 x67 x68 x69, ∃ c70 : C, 
 (v63 = (.agg 6 [(Il x65), (Il x66), (Il x67), 
 (Il x68), (Il x69), c70])) ∧ Wc prog tbl 19 [(.c c34)] m64 (fun v71 m72 => 
 ∃ c73 : C, (v71 = (.c c73)) ∧ Wc prog tbl 17 [(.agg 6 [(Il x65), 
 (Il x66), (Il x67), (Il x68), (Il x69), 
 c70]), (.c c73)] m72 (fun v74 m75 => ∃ c76 : C, ∃ x77 x78, 
 (v74 = (.tup [(.c c76), (.c (Il x77)), (.c (Il x78))])) ∧ 
 ifB (!decide (x56 = 0)) (ifB (decide (x56 = 10)) (ifB (decide (x78 = 0)) (Wc prog tbl 16 [] m75 (fun v79 m80 => 
 ∃ b81 : Bool, (v79 = (.c (.bool b81))) ∧ Q (.c (.bool b81)) m80)) (ifB (decide (x78 = 10)) (Wc prog tbl 16 [] m75 (fun v82 m83 => 
 ∃ b84 : Bool, (v82 = (.c (.bool b84))) ∧ Q (.c (.bool b84)) m83)) (Q (.c (.bool false)) m75))) (Q (.c (.bool false)) m75)) (ifB (!decide (x78 = 0)) (Q (.c (.bool false)) m75) (ifB (decide (x55 < x77)) (Q (.c (.bool false)) m75) (isSl c54 ∧ 
 isSl c25 ∧ ifB (!decide ((((slLen c54) : Nat) : Int) = (((slLen c25) : Nat) : Int))) (Q (.c (.bool false)) m75) (∃ x85, 
 ∃ x86 x87 x88 x89, ∃ c90 : C, ((ldA m75 (.ptr m.nxt 0) 6) = (some [(Il x85), 
 (Il x86), (Il x87), (Il x88), (Il x89), 
 c90])) ∧ Wc prog tbl 22 [(.agg 6 [(Il x85), (Il x86), 
 (Il x87), (Il x88), (Il x89), c90]), 
 (.c c54)] m75 (fun v91 m92 => ∃ b93 : Bool, (v91 = (.c (.bool b93))) ∧ ifB (!b93) (Q (.c (.bool false)) m92) (isPt (.ptr m.nxt 0) ∧ 
 ∃ x94, ((ldC m92 (.ptr m.nxt 2)) = (some (Il x94))) ∧ 
 ifB (decide (x94 < x55)) (Q (.c (.bool false)) m92) (isSl c54 ∧ fitsP .i64 ((((slLen c54) : Nat) : Int) - (1 : Int)) ∧ 
 ∀ R95 : List V → M → Prop, (∀ c96 : C, ∀ b97 : Bool, ∀ x98 : Int, ∀ m99 : M, 
 (ifB (decide ((0 : Int) ≤ x98)) (∃ n100 : Nat, (x98 = ((n100 : Nat) : Int)) ∧ 
 (n100 < (slLen c54)) ∧ ∃ x101, ((ldC m99 (slAt c54 (n100 * 1))) = (some (Il x101))) ∧ 
 ∀ m102 : M, (m102 = (M.new m99 (AO.cells 1 [(Il x101)] false))) → 
 ∃ c103 : C, ∃ m104 : M, (ApR prog 27 m102 c96 (.sl m99.nxt 0 1 0 (some 1)) c103 m104) ∧ 
 isPt (.ptr m.nxt 0) ∧ ∃ x105 x106, ((ldA m104 (.ptr m.nxt 3) 2) = (some [(Il x105), 
 (Il x106)])) ∧ isPt (.ptr m.nxt 0) ∧ ∃ c107 : C, ((ldC m104 (.ptr m.nxt 5)) = (some c107)) ∧ 
 ∃ n108 : Nat, (x98 = ((n108 : Nat) : Int)) ∧ (n108 < (slLen c54)) ∧ ∃ x109, 
 ((ldC m104 (slAt c54 (n108 * 1))) = (some (Il x109))) ∧ 
 ∃ n110 : Nat, (x109 = ((n110 : Nat) : Int)) ∧ (n110 < (slLen c107)) ∧ isPt (slAt c107 (n110 * 4)) ∧ 
 ∃ x111 x112, ((ldA m104 (ptAdd (slAt c107 (n110 * 4)) 0) 2) = (some [(Il x111), 
 (Il x112)])) ∧ Wc prog tbl 51 [(.agg 2 [(Il x105), 
 (Il x106)]), (.agg 2 [(Il x111), (Il x112)])] m104 (fun v113 m114 => 
 ∃ x115, (v113 = (.c (Il x115))) ∧ ((0 : Int) ≤ (2 : Int)) ∧ 
 ((0 : Int) ≤ x115) ∧ fitsP .i64 ((2 : Int) * x115) ∧ ifB (decide (x55 < ((2 : Int) * x115))) (Q (.c (.bool false)) m114) (fitsP .i64 (x98 - 1) ∧ 
 R95 [(.c c103), (.c (.bool b97)), (.c (Il (x98 - 1)))] m114))) (∃ x116, 
 ∃ x117 x118 x119 x120, ∃ c121 : C, ((ldA m99 (.ptr m.nxt 0) 6) = (some [(Il x116), 
 (Il x117), (Il x118), (Il x119), 
 (Il x120), c121])) ∧ Wc prog tbl 24 [(.agg 6 [(Il x116), 
 (Il x117), (Il x118), (Il x119), 
 (Il x120), c121]), (.c c54)] m99 (fun v122 m123 => ∃ x124, 
 (v122 = (.c (Il x124))) ∧ ifB (decide (x124 = x55)) (∃ x125, 
 ∃ x126 x127 x128 x129, ∃ c130 : C, ((ldA m123 (.ptr m.nxt 0) 6) = (some [(Il x125), 
 (Il x126), (Il x127), (Il x128), 
 (Il x129), c130])) ∧ Wc prog tbl 24 [(.agg 6 [(Il x125), 
 (Il x126), (Il x127), (Il x128), 
 (Il x129), c130]), (.c c96)] m123 (fun v131 m132 => ∃ x133, 
 (v131 = (.c (Il x133))) ∧ ifB (decide (x133 = x55)) (Wc prog tbl 16 [] m132 (fun v134 m135 => 
 ∃ b136 : Bool, (v134 = (.c (.bool b136))) ∧ Q (.c (.bool b136)) m135)) (Q (.c (.bool false)) m132))) (Q (.c (.bool false)) m123)))) → 
 R95 [(.c c96), (.c (.bool b97)), (.c (Il x98))] m99) → 
 R95 [(.c C.sl0), (.c (.bool false)), (.c (Il ((((slLen c54) : Nat) : Int) - (1 : Int))))] m92)))))))))))))))))))) : Wc prog tbl 9 [(.agg 6 [(Il a100), (Il a101), (Il a102), (Il a103), (Il a104), a105]), (.c (C.int .u8 a200)), (.c (C.int .u8 a300))] m Q :=
 wc_eq (n := 3) rfl (by kernel_rfl) (by kernel_rfl) h
theorem w19 {a100 : C} {m : M} {Q : V → M → Prop} (h :
 (∃ c0 : C, ∃ m1 : M, (ApR prog 27 m C.sl0 a100 c0 m1) ∧ Q (.c c0) m1)) : Wc prog tbl 19 [(.c a100)] m Q :=
 wc_eq (n := 1) rfl (by kernel_rfl) (by kernel_rfl) h
theorem w22 {a100 : Int} {a101 : Int} {a102 : Int} {a103 : Int} {a104 : Int} {a105 : C} {a200 : C} {m : M} {Q : V → M → Prop} (h :
 (∀ m0 : M, (m0 = (M.new m (AO.cells 6 [(Il a100), (Il a101), (Il a102), 
 (Il a103), (Il a104), a105] false))) → ∀ R1 : List V → M → Prop, (∀ b2 : Bool, 
 ∀ x3 : Int, ∀ x4 : Int, ∀ m5 : M, (isSl a200 ∧ ifB (decide (x4 < (((slLen a200) : Nat) : Int))) (∃ n6 : Nat, 
 (x4 = ((n6 : Nat) : Int)) ∧ (n6 < (slLen a200)) ∧ ∃ x7, ((ldC m5 (slAt a200 (n6 * 1))) = (some (Il x7))) ∧ 
 isPt (.ptr m.nxt 0) ∧ ∃ c8 : C, ((ldC m5 (.ptr m.nxt 5)) = (some c8)) ∧ isSl c8 ∧ 
 fitsP .i64 ((((slLen c8) : Nat) : Int) - (1 : Int)) ∧ Wc prog tbl 57 [(.c (Il x7)), 
 (.c (Il 0)), (.c (Il ((((slLen c8) : Nat) : Int) - (1 : Int))))] m5 (fun v9 m10 => 
 ∃ b11 : Bool, (v9 = (.c (.bool b11))) ∧ ifB (!b11) (Q (.c (.bool false)) m10) (∃ n12 : Nat, 
 (x4 = ((n12 : Nat) : Int)) ∧ (n12 < (slLen a200)) ∧ ∃ x13, ((ldC m10 (slAt a200 (n12 * 1))) = (some (Il x13))) ∧ 
 ((0 : Int) ≤ x3) ∧ ((0 : Int) ≤ (wrapZ .u64 x13)) ∧ ((wrapZ .u64 x13) ≤ (64 : Int)) ∧ 
 fitsP .i64 (x3 / ((2 : Int) ^ (Int.toNat (wrapZ .u64 x13)))) ∧ 
 ((0 : Int) ≤ (x3 / ((2 : Int) ^ (Int.toNat (wrapZ .u64 x13))))) ∧ ((0 : Int) < (2 : Int)) ∧ 
 fitsP .i64 ((x3 / ((2 : Int) ^ (Int.toNat (wrapZ .u64 x13)))) % (2 : Int)) ∧ 
 ifB (decide (((x3 / ((2 : Int) ^ (Int.toNat (wrapZ .u64 x13)))) % (2 : Int)) = (1 : Int))) (Q (.c (.bool false)) m10) (∃ n14 : Nat, 
 (x4 = ((n14 : Nat) : Int)) ∧ (n14 < (slLen a200)) ∧ ∃ x15, ((ldC m10 (slAt a200 (n14 * 1))) = (some (Il x15))) ∧ 
 ((0 : Int) ≤ (1 : Int)) ∧ ((0 : Int) ≤ (wrapZ .u64 x15)) ∧ ((wrapZ .u64 x15) ≤ (64 : Int)) ∧ 
 fitsP .i64 ((1 : Int) * ((2 : Int) ^ (Int.toNat (wrapZ .u64 x15)))) ∧ 
 ((0 : Int) ≤ x3) ∧ ((0 : Int) ≤ ((1 : Int) * ((2 : Int) ^ (Int.toNat (wrapZ .u64 x15))))) ∧ 
 fitsP .i64 x3 ∧ fitsP .i64 ((1 : Int) * ((2 : Int) ^ (Int.toNat (wrapZ .u64 x15)))) ∧ 
 fitsP .i64 (((Nat.lor (Int.toNat x3) (Int.toNat ((1 : Int) * ((2 : Int) ^ (Int.toNat (wrapZ .u64 x15)))))) : Nat) : Int) ∧ 
 fitsP .i64 (x4 + 1) ∧ R1 [(.c (.bool b2)), (.c (Il (((Nat.lor (Int.toNat x3) (Int.toNat ((1 : Int) * ((2 : Int) ^ (Int.toNat (wrapZ .u64 x15)))))) : Nat) : Int))), 
 (.c (Il (x4 + 1)))] m10)))) (Q (.c (.bool true)) m5)) → 
 R1 [(.c (.bool b2)), (.c (Il x3)), (.c (Il x4))] m5) → R1 [(.c (.bool false)), 
 (.c (Il 0)), (.c (Il 0))] m0)) : Wc prog tbl 22 [(.agg 6 [(Il a100), (Il a101), (Il a102), (Il a103), (Il a104), a105]), (.c a200)] m Q :=
 wc_eq (n := 2) rfl (by kernel_rfl) (by kernel_rfl) h
theorem w43 {a100 : Int} {m : M} {Q : V → M → Prop} (h :
 (∀ R0 : List V → M → Prop, (∀ c1 : C, ∀ x2 : Int, ∀ m3 : M, (((0 : Int) ≤ a100) ∧ ((0 : Int) ≤ (wrapZ .u64 x2)) ∧ 
 ((wrapZ .u64 x2) ≤ (64 : Int)) ∧ fitsP .i64 (a100 / ((2 : Int) ^ (Int.toNat (wrapZ .u64 x2)))) ∧ 
 ifB (decide ((0 : Int) < (a100 / ((2 : Int) ^ (Int.toNat (wrapZ .u64 x2)))))) (((0 : Int) ≤ a100) ∧ 
 ((0 : Int) ≤ (wrapZ .u64 x2)) ∧ ((wrapZ .u64 x2) ≤ (64 : Int)) ∧ fitsP .i64 (a100 / ((2 : Int) ^ (Int.toNat (wrapZ .u64 x2)))) ∧ 
 ((0 : Int) ≤ (a100 / ((2 : Int) ^ (Int.toNat (wrapZ .u64 x2))))) ∧ ((0 : Int) < (2 : Int)) ∧ 
 fitsP .i64 ((a100 / ((2 : Int) ^ (Int.toNat (wrapZ .u64 x2)))) % (2 : Int)) ∧ 
 ifB (decide (((a100 / ((2 : Int) ^ (Int.toNat (wrapZ .u64 x2)))) % (2 : Int)) = (1 : Int))) (∀ m4 : M, 
 (m4 = (M.new m3 (AO.cells 1 [(Il x2)] false))) → ∃ c5 : C, ∃ m6 : M, 
 (ApR prog 27 m4 c1 (.sl m3.nxt 0 1 0 (some 1)) c5 m6) ∧ fitsP .i64 (x2 + 1) ∧ 
 R0 [(.c c5), (.c (Il (x2 + 1)))] m6) (fitsP .i64 (x2 + 1) ∧ 
 R0 [(.c c1), (.c (Il (x2 + 1)))] m3)) (Q (.c c1) m3)) → 
 R0 [(.c c1), (.c (Il x2))] m3) → R0 [(.c C.sl0), (.c (Il 0))] m)) : Wc prog tbl 43 [(.c (Il a100))] m Q :=
 wc_eq (n := 1) rfl (by kernel_rfl) (by kernel_rfl) h
theorem w50 {a100 : Int} {a101 : Int} {a102 : Int} {a103 : Int} {a104 : Int} {a105 : C} {a200 : Int} {m : M} {Q : V → M → Prop} (h :
 (∀ m0 : M, (m0 = (M.new m (AO.cells 6 [(Il a100), (Il a101), (Il a102), 
 (Il a103), (Il a104), a105] false))) → ∃ x1 x2 x3, 
 ∃ x4 x5, ∃ c6 : C, ((ldA m0 (.ptr m.nxt 0) 6) = (some [(Il x1), 
 (Il x2), (Il x3), (Il x4), (Il x5), 
 c6])) ∧ Wc prog tbl 54 [(.agg 6 [(Il x1), (Il x2), (Il x3), 
 (Il x4), (Il x5), c6])] m0 (fun v7 m8 => ∃ x9, (v7 = (.c (Il x9))) ∧ 
 ((0 : Int) ≤ (wrapZ .i64 a200)) ∧ ((0 : Int) ≤ x9) ∧ fitsP .i64 (wrapZ .i64 a200) ∧ 
 fitsP .i64 x9 ∧ fitsP .i64 (((Nat.land (Int.toNat (wrapZ .i64 a200)) (Int.toNat x9)) : Nat) : Int) ∧ 
 Wc prog tbl 43 [(.c (Il (((Nat.land (Int.toNat (wrapZ .i64 a200)) (Int.toNat x9)) : Nat) : Int)))] m8 (fun v10 m11 => 
 ∃ c12 : C, (v10 = (.c c12)) ∧ Q (.c c12) m11)))) : Wc prog tbl 50 [(.agg 6 [(Il a100), (Il a101), (Il a102), (Il a103), (Il a104), a105]), (.c (C.int .u8 a200))] m Q :=
 wc_eq (n := 2) rfl (by kernel_rfl) (by kernel_rfl) h
theorem w59 {a100 : Int} {a101 : Int} {a102 : Int} {a103 : Int} {a104 : Int} {a105 : C} {a200 : C} {m : M} {Q : V → M → Prop} (h :
 (∀ m0 : M, (m0 = (M.new m (AO.cells 6 [(Il a100), (Il a101), (Il a102), 
 (Il a103), (Il a104), a105] false))) → ∀ m1 : M, (m1 = (M.new m0 (AO.cells 5 [(.bool false), 
 (.bool false), (.bool false), (.bool false), (.bool false)] false))) → ∀ m2 : M, (m2 = (M.new m1 (AO.cells 5 [(.bool false), 
 (.bool false), (.bool false), (.bool false), (.bool false)] false))) → isSl a200 ∧ ∀ R3 : List V → 
 M → Prop, (∀ b4 : Bool, ∀ x5 : Int, ∀ m6 : M, (ifB (decide (x5 < (((slLen a200) : Nat) : Int))) (∃ n7 : Nat, 
 (x5 = ((n7 : Nat) : Int)) ∧ (n7 < (slLen a200)) ∧ ∃ x8, ((ldC m6 (slAt a200 (n7 * 1))) = (some (Il x8))) ∧ 
 ∃ x9 x10 x11 x12 x13, ∃ c14 : C, ((ldA m6 (.ptr m.nxt 0) 6) = (some [(Il x9), 
 (Il x10), (Il x11), (Il x12), (Il x13), 
 c14])) ∧ Wc prog tbl 81 [(.agg 6 [(Il x9), (Il x10), 
 (Il x11), (Il x12), (Il x13), c14]), 
 (.c (Il x8))] m6 (fun v15 m16 => ∃ b17 : Bool, (v15 = (.c (.bool b17))) ∧ 
 ifB (!b17) (∃ m18 : M, ((stC m16 (.ptr m0.nxt 0) 5 [(.bool false), (.bool false), 
 (.bool false), (.bool false), (.bool false)]) = (some m18)) ∧ ∃ b19 : Bool, 
 ∃ b20 : Bool, ∃ b21 : Bool, ∃ b22 : Bool, ∃ b23 : Bool, ((ldA m18 (.ptr m0.nxt 0) 5) = (some [(.bool b19), 
 (.bool b20), (.bool b21), (.bool b22), (.bool b23)])) ∧ Q (.tup [(.agg 5 [(.bool b19), 
 (.bool b20), (.bool b21), (.bool b22), (.bool b23)]), (.c (.bool false))]) m18) (isPt (.ptr m1.nxt 0) ∧ 
 ∃ n24 : Nat, (x8 = ((n24 : Nat) : Int)) ∧ (n24 < 5) ∧ ∃ b25 : Bool, ((ldC m16 (.ptr m1.nxt (0 + (n24 * 1)))) = (some (.bool b25))) ∧ 
 ifB b25 (∃ m26 : M, ((stC m16 (.ptr m0.nxt 0) 5 [(.bool false), (.bool false), 
 (.bool false), (.bool false), (.bool false)]) = (some m26)) ∧ ∃ b27 : Bool, 
 ∃ b28 : Bool, ∃ b29 : Bool, ∃ b30 : Bool, ∃ b31 : Bool, ((ldA m26 (.ptr m0.nxt 0) 5) = (some [(.bool b27), 
 (.bool b28), (.bool b29), (.bool b30), (.bool b31)])) ∧ Q (.tup [(.agg 5 [(.bool b27), 
 (.bool b28), (.bool b29), (.bool b30), (.bool b31)]), (.c (.bool false))]) m26) (isPt (.ptr m1.nxt 0) ∧ 
 ∃ n32 : Nat, (x8 = ((n32 : Nat) : Int)) ∧ (n32 < 5) ∧ ∃ m33 : M, ((stC m16 (.ptr m1.nxt (0 + (n32 * 1))) 1 [(.bool true)]) = (some m33)) ∧ 
 fitsP .i64 (x5 + 1) ∧ R3 [(.c (.bool b4)), (.c (Il (x5 + 1)))] m33)))) (∃ b34 : Bool, 
 ∃ b35 : Bool, ∃ b36 : Bool, ∃ b37 : Bool, ∃ b38 : Bool, ((ldA m6 (.ptr m1.nxt 0) 5) = (some [(.bool b34), 
 (.bool b35), (.bool b36), (.bool b37), (.bool b38)])) ∧ ∃ m39 : M, ((stC m6 (.ptr m0.nxt 0) 5 [(.bool b34), 
 (.bool b35), (.bool b36), (.bool b37), (.bool b38)]) = (some m39)) ∧ ∃ b40 : Bool, 
 ∃ b41 : Bool, ∃ b42 : Bool, ∃ b43 : Bool, ∃ b44 : Bool, ((ldA m39 (.ptr m0.nxt 0) 5) = (some [(.bool b40), 
 (.bool b41), (.bool b42), (.bool b43), (.bool b44)])) ∧ Q (.tup [(.agg 5 [(.bool b40), 
 (.bool b41), (.bool b42), (.bool b43), (.bool b44)]), (.c (.bool true))]) m39)) → 
 R3 [(.c (.bool b4)), (.c (Il x5))] m6) → R3 [(.c (.bool false)), (.c (Il 0))] m2)) : Wc prog tbl 59 [(.agg 6 [(Il a100), (Il a101), (Il a102), (Il a103), (Il a104), a105]), (.c a200)] m Q :=
 wc_eq (n := 2) rfl (by kernel_rfl) (by kernel_rfl) h
theorem w62 {a100 : Int} {a101 : Int} {a102 : Int} {a103 : Int} {a104 : Int} {a105 : C} {m : M} {Q : V → M → Prop} (h :
 (∀ m0 : M, (m0 = (M.new m (AO.cells 6 [(Il a100), (Il a101), (Il a102), 
 (Il a103), (Il a104), a105] false))) → isPt (.ptr m.nxt 0) ∧ ∃ x1, 
 ((ldC m0 (.ptr m.nxt 0)) = (some (Il x1))) ∧ ifB (decide ((3 : Int) < x1)) (Q (.c (.bool true)) m0) (isPt (.ptr m.nxt 0) ∧ 
 ∃ x2, ((ldC m0 (.ptr m.nxt 1)) = (some (Il x2))) ∧ ifB (decide ((5 : Int) < x2)) (Q (.c (.bool true)) m0) (isPt (.ptr m.nxt 0) ∧ 
 ∃ x3, ((ldC m0 (.ptr m.nxt 2)) = (some (Il x3))) ∧ ifB (decide ((30 : Int) < x3)) (Q (.c (.bool true)) m0) (isPt (.ptr m.nxt 0) ∧ 
 ∃ c4 : C, ((ldC m0 (.ptr m.nxt 5)) = (some c4)) ∧ isSl c4 ∧ Q (.c (.bool (decide ((5 : Int) < (((slLen c4) : Nat) : Int))))) m0))))) : Wc prog tbl 62 [(.agg 6 [(Il a100), (Il a101), (Il a102), (Il a103), (Il a104), a105])] m Q :=
 wc_eq (n := 1) rfl (by kernel_rfl) (by kernel_rfl) h
theorem w83 {a100 : Int} {a101 : Int} {a102 : Int} {a103 : Int} {a104 : Int} {a105 : C} {a200 : Bool} {a201 : Bool} {a202 : Bool} {a203 : Bool} {a204 : Bool} {m : M} {Q : V → M → Prop} (h :
 (∀ m0 : M, (m0 = (M.new m (AO.cells 6 [(Il a100), (Il a101), (Il a102), 
 (Il a103), (Il a104), a105] false))) → ∀ m1 : M, (m1 = (M.new m0 (AO.cells 5 [(.bool a200), 
 (.bool a201), (.bool a202), (.bool a203), (.bool a204)] false))) → Q (.c (C.fn (Fn.func 99) [] [(W.c (C0.ptr m.nxt 0)), 
 (W.c (C0.ptr m0.nxt 0))])) m1)) : Wc prog tbl 83 [(.agg 6 [(Il a100), (Il a101), (Il a102), (Il a103), (Il a104), a105]), (.agg 5 [(.bool a200), (.bool a201), (.bool a202), (.bool a203), (.bool a204)])] m Q :=
 wc_eq (n := 2) rfl (by kernel_rfl) (by kernel_rfl) h
theorem w86 {a100 : C} {a200 : C} {m : M} {Q : V → M → Prop} (h :
 (∀ m0 : M, (m0 = (M.new m (AO.cells 1 [a200] false))) → Wc prog tbl 102 [(.c a100), (.c (C.fn (Fn.func 103) [] [(W.c (C0.ptr m.nxt 0))]))] m0 (fun v1 m2 => 
 ∃ b3 : Bool, (v1 = (.c (.bool b3))) ∧ Q (.c (.bool (!b3))) m2))) : Wc prog tbl 86 [(.c a100), (.c a200)] m Q :=
 wc_eq (n := 2) rfl (by kernel_rfl) (by kernel_rfl) h
theorem w97 {a100 : Int} {a101 : Int} {a200 : Int} {m : M} {Q : V → M → Prop} (h :
 (∀ m0 : M, (m0 = (M.new m (AO.cells 2 [(Il a100), (Il a101)] false))) → isPt (.ptr m.nxt 0) ∧ 
 ∃ x1, ((ldC m0 (.ptr m.nxt 0)) = (some (Il x1))) ∧ ifB (decide (x1 ≤ a200)) (isPt (.ptr m.nxt 0) ∧ 
 ∃ x2, ((ldC m0 (.ptr m.nxt 1)) = (some (Il x2))) ∧ Q (.c (.bool (decide (a200 ≤ x2)))) m0) (Q (.c (.bool false)) m0))) : Wc prog tbl 97 [(.agg 2 [(Il a100), (Il a101)]), (.c (Il a200))] m Q :=
 wc_eq (n := 2) rfl (by kernel_rfl) (by kernel_rfl) h
theorem w102 {a100 : C} {a200 : C} {m : M} {Q : V → M → Prop} (h :
 (Wc prog tbl 108 [(.c a100), (.c a200)] m (fun v0 m1 => ∃ x2, (v0 = (.c (Il x2))) ∧ Q (.c (.bool (decide ((0 : Int) ≤ x2)))) m1))) : Wc prog tbl 102 [(.c a100), (.c a200)] m Q :=
 wc_eq (n := 2) rfl (by kernel_rfl) (by kernel_rfl) h
end
end Go.Proofs.Ytoejeieblichnaa

namespace Go.Proofs.Ytoejeieblichnaa
open _root_.Go.Proofs.Try
open Go.Abs
set_option maxRecDepth 100000
noncomputable section
def Fv_Frm_Bool (f : M) (x : C) (g : Frm → Option (Bool)) : Prop := ∀ (f' m : M) (a0 : Frm) (r : Bool) (Q : V → M → Prop), Sub f f' → Pre f' m → g a0 = some r → (∀ m', Ext m m' → Q (.c (.bool r)) m') → callP prog tbl [.agg 4 [(.int .i64 a0.At.X), (.int .i64 a0.At.Y), (.int .i64 a0.Days.Lo), (.int .i64 a0.Days.Hi)]] x m Q
theorem Fv_Frm_Bool.sub {f m : M} {x : C} {g : Frm → Option (Bool)} (h : Fv_Frm_Bool f x g) (s : Sub f m) : Fv_Frm_Bool m x g := fun f' m' a0 r Q hs => h f' m' a0 r Q (s.trans hs)
theorem ta27 : TA prog 27 1 := ⟨3, by kernel_rfl, by kernel_rfl, by kernel_rfl⟩
theorem ta33 : TA prog 33 4 := ⟨80, by kernel_rfl, by kernel_rfl, by kernel_rfl⟩
theorem s_awake {m f : M} {Q : V → M → Prop} {rz : Bool} (_hS : Pre f m) (hp : pawake = some rz) (hq : ∀ m', Ext m m' → Q (.c (.bool rz)) m') : Wc prog tbl 16 [] m Q := by
 obtain rfl := Option.some.inj hp
 exact call_known (show findT tbl 16 = some true from rfl) (hq _ (.refl m))
theorem s_rIn {n : Int} {low : Int} {high : Int} {m f : M} {Q : V → M → Prop} {rz : Bool} (hS : Pre f m)  (hp : prIn n low high = some rz) (hq : ∀ m', Ext m m' → Q (.c (.bool rz)) m') : Wc prog tbl 57 [.c (Il n), .c (Il low), .c (Il high)] m Q := by
 have b := hS.st
 obtain ⟨d, _⟩ : ∃ τ : Nat → Nat, True := ⟨fun _ => 0, trivial⟩
 refine w57 ?_
 unfold prIn at hp
 refine ifd hp (fun a hp => ?_) fun a hp => ?_
 ·obtain rfl := Option.some.inj hp
  exact hq _ b.ext'
 obtain rfl := Option.some.inj hp
 exact hq _ b.ext'
theorem s_rIsPoint {p : Pt} {m f : M} {Q : V → M → Prop} {rz : Bool} (hS : Pre f m)  (hp : prIsPoint p = some rz) (hq : ∀ m', Ext m m' → Q (.c (.bool rz)) m') : Wc prog tbl 78 [.agg 2 [(Il p.X), (Il p.Y)]] m Q := by
 have t := hS.st
 obtain ⟨u, _⟩ : ∃ τ : Nat → Nat, True := ⟨fun _ => 0, trivial⟩
 refine w78 ?_
 unfold prIsPoint at hp
 intro A g
 obtain ⟨b, d, w, e⟩ := t.blk g u 1
 refine ⟨trivial, _, e.bk.rc rfl, ?_⟩
 obtain ⟨x, h, hp⟩ := bsome hp
 refine s_rIn (n := p.X) (low := (0 : Int)) (high := (9 : Int)) d.pre  h fun B i => ?_
 obtain ⟨a, j⟩ := d.call i b
 have l := e.k j
 refine ⟨_, rfl, ?_⟩
 refine ifbb hp (fun o hp => ?_) fun o hp => ?_; rotate_left
 ·obtain rfl := Option.some.inj hp
  exact hq _ a.ext'
 refine ⟨trivial, _, l.bk.rc rfl, ?_⟩
 obtain ⟨y, q, hp⟩ := bsome hp
 refine s_rIn (n := p.Y) (low := (0 : Int)) (high := (9 : Int)) a.pre  q fun D r => ?_
 obtain ⟨s, z⟩ := a.call r b
 refine ⟨_, rfl, ?_⟩
 obtain rfl := Option.some.inj hp
 exact hq _ s.ext'
theorem s_rFault {r : Rnd} {ca105 : C} {m f : M} {Q : V → M → Prop} {rz : Int} (hS : Pre f m) (ha105 : Sl f ca105 r.Farms) (hp : prFault r = some rz) (hq : ∀ m', Ext m m' → Q (.c (Il rz)) m') : Wc prog tbl 49 [.agg 6 [(Il r.Adjusters), (Il r.Last), (Il r.Miles), (Il r.Home.X), (Il r.Home.Y), ca105]] m Q := by
 have S0 := hS.st
 obtain ⟨τ0, _⟩ : ∃ τ : Nat → Nat, True := ⟨fun _ => 0, trivial⟩
 refine w49 ?_
 unfold prFault at hp
 intro m0 O
 obtain ⟨y, a, Ia, b⟩ := S0.blk O τ0 1
 refine ⟨trivial, _, b.bk.rc rfl, ?_⟩
 refine ifd hp (fun P hp => ?_) fun P hp => ?_
 ·obtain rfl := Option.some.inj hp
  exact hq _ a.ext'
 refine ⟨trivial, _, b.bk.rc rfl, ?_⟩
 refine ifd hp (fun S hp => ?_) fun S hp => ?_
 ·obtain rfl := Option.some.inj hp
  exact hq _ a.ext'
 refine ⟨trivial, _, b.bk.rc rfl, ?_⟩
 refine ifd hp (fun T hp => ?_) fun T hp => ?_
 ·obtain rfl := Option.some.inj hp
  exact hq _ a.ext'
 refine ⟨trivial, _, b.bk.rc rfl, ha105.isSl, ?_⟩
 try rw [ha105.slLen]
 refine ifd hp (fun Z hp => ?_) fun Z hp => ?_
 ·obtain rfl := Option.some.inj hp
  exact hq _ a.ext'
 refine ⟨trivial, _, b.bk.rc rfl, ?_⟩
 refine ifd hp (fun aa hp => ?_) fun aa hp => ?_
 ·obtain rfl := Option.some.inj hp
  exact hq _ a.ext'
 refine ⟨trivial, _, b.bk.rc rfl, ?_⟩
 refine ifd hp (fun ba hp => ?_) fun ba hp => ?_
 ·obtain rfl := Option.some.inj hp
  exact hq _ a.ext'
 refine ⟨trivial, _, b.bk.rc rfl, ?_⟩
 refine ifd hp (fun ca hp => ?_) fun ca hp => ?_
 ·obtain rfl := Option.some.inj hp
  exact hq _ a.ext'
 refine ⟨trivial, _, _, b.bk.rp (k := 3) (j := 2) rfl (by omega), ?_⟩
 obtain ⟨Ja, da, hp⟩ := bsome hp
 refine s_rIsPoint (p := r.Home) a.pre  da fun Ma ea => ?_
 obtain ⟨z, fa⟩ := a.call ea y
 have e := b.k fa
 refine ⟨_, rfl, ?_⟩
 refine ifnb hp (fun ga hp => ?_) fun ga hp => ?_
 ·obtain rfl := Option.some.inj hp
  exact hq _ z.ext'
 intro Ea ha
 have hgo : ∀ (g : Nat) (A : Int) (w : Int) (l : M) (h : Nat → Nat), St (Fm.of m) f f l → Lb (Fm.of m) f h l 1 m.nxt 6 [(Il r.Adjusters), (Il r.Last), (Il r.Miles), (Il r.Home.X), (Il r.Home.Y), ca105] → prFault_L0 r g w = some rz → Ea [.c (Il A), .c (Il w)] l := by
  intro g
  induction g with
  | zero => intro A w l h i e hp; cases hp
  | succ g J =>
   intro A w l h i e hp
   refine ha _ _ _ ?_
   rw [prFault_L0] at hp
   refine ⟨trivial, _, e.bk.rc rfl, ha105.isSl, ?_⟩
   try rw [ha105.slLen]
   refine ifd hp (fun ia hp => ?_) fun ia hp => ?_; rotate_left
   ·obtain rfl := Option.some.inj hp
    exact hq _ i.ext'
   refine ⟨trivial, _, e.bk.rc rfl, ?_⟩
   obtain ⟨d, o, hp⟩ := bsome hp
   obtain ⟨Fa, N, x, o⟩ := idx_some o
   obtain ⟨_, ja⟩ := rd_Frm ha105 o
   refine ⟨Fa, N, (by first | exact x | (rw [ha105.slLen]; exact x)), _, _, _, _, (ja _ i.sub).1, ?_⟩
   intro Na ka
   obtain ⟨q, la, ma, na⟩ := i.blk ka h 2
   have oa := e.k ma
   obtain ⟨pa, qa, B, sa, D⟩ := na.sto la [(Il d.At.X), (Il d.At.Y), (Il d.Days.Lo), (Il d.Days.Hi)]
   have ta := oa.k sa
   refine ⟨pa, qa, ?_⟩
   refine ⟨trivial, _, _, D.bk.rp (k := 0) (j := 2) rfl (by omega), ?_⟩
   obtain ⟨Ka, ua, hp⟩ := bsome hp
   refine s_rIsPoint (p := d.At) B.pre  ua fun Oa va => ?_
   obtain ⟨s, F⟩ := B.call va q
   have wa := ta.k F
   have t := D.k F
   refine ⟨_, rfl, ?_⟩
   refine ifnb hp (fun xa hp => ?_) fun xa hp => ?_
   ·obtain rfl := Option.some.inj hp
    exact hq _ s.ext'
   refine ⟨trivial, trivial, _, t.bk.rc rfl, trivial, trivial, _, t.bk.rc rfl, ?_⟩
   obtain ⟨La, ya, hp⟩ := bsome hp
   refine s_rIn (n := d.Days.Lo) (low := (0 : Int)) (high := d.Days.Hi) s.pre  ya fun Pa za => ?_
   obtain ⟨u, G⟩ := s.call za q
   have I := wa.k G
   have Aa := t.k G
   refine ⟨_, rfl, ?_⟩
   refine ifnb hp (fun Ba hp => ?_) fun Ba hp => ?_
   ·obtain rfl := Option.some.inj hp
    exact hq _ u.ext'
   refine ⟨trivial, trivial, _, Aa.bk.rc rfl, trivial, _, I.bk.rc rfl, ?_⟩
   refine ifd hp (fun Ca hp => ?_) fun Ca hp => ?_
   ·obtain rfl := Option.some.inj hp
    exact hq _ u.ext'
   refine gdi hp fun Da hp => ?_
   exact J _ _ _ q u I hp
 exact hgo _ _ _ _ y z e hp
theorem s_rDistance {a : Pt} {b : Pt} {m f : M} {Q : V → M → Prop} {rz : Int} (hS : Pre f m)  (hp : prDistance a b = some rz) (hq : ∀ m', Ext m m' → Q (.c (Il rz)) m') : Wc prog tbl 51 [.agg 2 [(Il a.X), (Il a.Y)], .agg 2 [(Il b.X), (Il b.Y)]] m Q := by
 have u := hS.st
 obtain ⟨w, _⟩ : ∃ τ : Nat → Nat, True := ⟨fun _ => 0, trivial⟩
 refine w51 ?_
 unfold prDistance at hp
 intro z g
 obtain ⟨h, i, x, j⟩ := u.blk g w 1
 intro A l
 obtain ⟨y, n, o, d⟩ := i.blk l h 2
 have e := j.k o
 refine ⟨trivial, _, e.bk.rc rfl, trivial, _, d.bk.rc rfl, ?_⟩
 obtain ⟨p, hp⟩ := gd_some hp
 refine ⟨p, trivial, _, d.bk.rc rfl, trivial, _, e.bk.rc rfl, ?_⟩
 obtain ⟨q, hp⟩ := gd_some hp
 refine ⟨q, trivial, _, e.bk.rc rfl, trivial, _, d.bk.rc rfl, ?_⟩
 obtain ⟨r, hp⟩ := gd_some hp
 refine ⟨r, trivial, _, d.bk.rc rfl, trivial, _, e.bk.rc rfl, ?_⟩
 refine gdi hp fun s hp => ?_
 refine gdi hp fun t hp => ?_
 obtain rfl := Option.some.inj hp
 exact hq _ n.ext'
theorem s_rDifferent {r : Rnd} {l : List Int} {ca105 ca200 : C} {m f : M} {Q : V → M → Prop} {rz : Bool} (hS : Pre f m) (ha105 : Sl f ca105 r.Farms) (ha200 : Sl f ca200 l) (hp : prDifferent r l = some rz) (hq : ∀ m', Ext m m' → Q (.c (.bool rz)) m') : Wc prog tbl 22 [.agg 6 [(Il r.Adjusters), (Il r.Last), (Il r.Miles), (Il r.Home.X), (Il r.Home.Y), ca105], .c ca200] m Q := by
 have S0 := hS.st
 obtain ⟨τ0, _⟩ : ∃ τ : Nat → Nat, True := ⟨fun _ => 0, trivial⟩
 refine w22 ?_
 unfold prDifferent at hp
 intro m0 A
 obtain ⟨B, D, xa, a⟩ := S0.blk A τ0 1
 intro R1 sa
 have hgo : ∀ (g : Nat) (F : Bool) (u : Int) (w : Int) (s : M) (b : Nat → Nat), St (Fm.of m) f f s → Lb (Fm.of m) f b s 1 m.nxt 6 [(Il r.Adjusters), (Il r.Last), (Il r.Miles), (Il r.Home.X), (Il r.Home.Y), ca105] → prDifferent_L0 r l g u w = some rz → R1 [.c (.bool F), .c (Il u), .c (Il w)] s := by
  intro g
  induction g with
  | zero => intro F u w s b d a hp; cases hp
  | succ g G =>
   intro F u w s b d a hp
   refine sa _ _ _ _ ?_
   rw [prDifferent_L0] at hp
   refine ⟨ha200.isSl, ?_⟩
   try rw [ha200.slLen]
   refine ifd hp (fun I hp => ?_) fun I hp => ?_; rotate_left
   ·obtain rfl := Option.some.inj hp
    exact hq _ d.ext'
   obtain ⟨J, h, hp⟩ := bsome hp
   obtain ⟨n6, x, o, h⟩ := idx_some h
   refine ⟨n6, x, (by first | exact o | (rw [ha200.slLen]; exact o)), _, (ha200.rdI h d.sub), trivial, _, a.bk.rc rfl, ha105.isSl, ?_⟩
   obtain ⟨t, hp⟩ := gd_some hp
   refine ⟨(by first | exact t | (rw [ha105.slLen]; exact t)), ?_⟩
   try rw [ha105.slLen]
   obtain ⟨Aa, N, hp⟩ := bsome hp
   refine s_rIn (n := J) (low := (0 : Int)) (high := ((r.Farms.length : Int) - (1 : Int))) d.pre  N fun Da O => ?_
   obtain ⟨e, P⟩ := d.call O b
   have S := a.k P
   refine ⟨_, rfl, ?_⟩
   refine ifnb hp (fun T hp => ?_) fun T hp => ?_
   ·obtain rfl := Option.some.inj hp
    exact hq _ e.ext'
   obtain ⟨Ba, i, hp⟩ := bsome hp
   obtain ⟨ta, y, p, i⟩ := idx_some i
   refine ⟨ta, y, (by first | exact p | (rw [ha200.slLen]; exact p)), _, (ha200.rdI i e.sub), ?_⟩
   refine gdi hp fun Z hp => ?_
   refine gdi hp fun aa hp => ?_
   refine gdi hp fun ba hp => ?_
   refine gdi hp fun ca hp => ?_
   refine gdi hp fun da hp => ?_
   refine gdi hp fun ea hp => ?_
   refine gdi hp fun fa hp => ?_
   refine ifd hp (fun ga hp => ?_) fun ga hp => ?_
   ·obtain rfl := Option.some.inj hp
    exact hq _ e.ext'
   obtain ⟨Ca, j, hp⟩ := bsome hp
   obtain ⟨ua, z, q, j⟩ := idx_some j
   refine ⟨ua, z, (by first | exact q | (rw [ha200.slLen]; exact q)), _, (ha200.rdI j e.sub), ?_⟩
   refine gdi hp fun ha hp => ?_
   refine gdi hp fun ia hp => ?_
   refine gdi hp fun ja hp => ?_
   refine gdi hp fun ka hp => ?_
   refine gdi hp fun la hp => ?_
   refine gdi hp fun ma hp => ?_
   refine gdi hp fun na hp => ?_
   refine gdi hp fun oa hp => ?_
   refine gdi hp fun pa hp => ?_
   refine gdi hp fun qa hp => ?_
   exact G _ _ _ _ b e S hp
 exact hgo _ _ _ _ _ B D a hp
theorem s_rLength {r : Rnd} {l : List Int} {ca105 ca200 : C} {m f : M} {Q : V → M → Prop} {rz : Int} (hS : Pre f m) (ha105 : Sl f ca105 r.Farms) (ha200 : Sl f ca200 l) (hp : prLength r l = some rz) (hq : ∀ m', Ext m m' → Q (.c (Il rz)) m') : Wc prog tbl 24 [.agg 6 [(Il r.Adjusters), (Il r.Last), (Il r.Miles), (Il r.Home.X), (Il r.Home.Y), ca105], .c ca200] m Q := by
 have S0 := hS.st
 obtain ⟨τ0, _⟩ : ∃ τ : Nat → Nat, True := ⟨fun _ => 0, trivial⟩
 refine w24 ?_
 unfold prLength at hp
 intro m0 aa
 obtain ⟨ba, ca, Oa, B⟩ := S0.blk aa τ0 1
 refine ⟨trivial, _, _, B.bk.rp (k := 3) (j := 2) rfl (by omega), ?_⟩
 intro m3 da
 obtain ⟨ea, fa, ga, ha⟩ := ca.blk da ba 2
 have D := B.k ga
 refine ⟨(D.bk.rp (k := 3) (j := 2) rfl (by omega)), ?_⟩
 obtain ⟨ia, ja, ka, la, h⟩ := ha.sto fa [(Il r.Home.X), (Il r.Home.Y)]
 have e := D.k la
 refine ⟨ia, ja, ?_⟩
 intro R5 Ga
 have hgo : ∀ (o : Nat) (N : Int) (O : Int) (i : Int) (n : Int) (A : M) (g : Nat → Nat), St (Fm.of m) f f A → Lb (Fm.of m) f g A 1 m.nxt 6 [(Il r.Adjusters), (Il r.Last), (Il r.Miles), (Il r.Home.X), (Il r.Home.Y), ca105] → Lb (Fm.of m) f g A 2 m0.nxt 2 [(Il i), (Il n)] → prLength_L0 r l o i n N O = some rz → R5 [.c (Il N), .c (Il O)] A := by
  intro o
  induction o with
  | zero => intro N O i n A g d e h hp; cases hp
  | succ o ma =>
   intro N O i n A g d e h hp
   refine Ga _ _ _ ?_
   rw [prLength_L0] at hp
   refine ⟨ha200.isSl, ?_⟩
   try rw [ha200.slLen]
   refine ifd hp (fun na hp => ?_) fun na hp => ?_; rotate_left
   ·refine ⟨_, _, h.bk.ra, trivial, _, _, e.bk.rp (k := 3) (j := 2) rfl (by omega), ?_⟩
    obtain ⟨Qa, oa, hp⟩ := bsome hp
    refine s_rDistance (a := ({ X := i, Y := n } : Pt)) (b := r.Home) d.pre  oa fun Va pa => ?_
    obtain ⟨qa, Ra⟩ := d.call pa g
    refine ⟨_, rfl, ?_⟩
    refine gdi hp fun sa hp => ?_
    obtain rfl := Option.some.inj hp
    exact hq _ qa.ext'
   refine ⟨_, _, h.bk.ra, trivial, _, e.bk.rc rfl, ?_⟩
   obtain ⟨Sa, t, hp⟩ := bsome hp
   obtain ⟨Ha, P, w, t⟩ := idx_some t
   refine ⟨Ha, P, (by first | exact w | (rw [ha200.slLen]; exact w)), _, (ha200.rdI t d.sub), ?_⟩
   obtain ⟨ta, p, hp⟩ := bsome hp
   obtain ⟨Ia, S, x, p⟩ := idx_some p
   obtain ⟨_, ua⟩ := rd_Frm ha105 p
   refine ⟨Ia, S, (by first | exact x | (rw [ha105.slLen]; exact x)), (ha105.isPt p _), _, _, ((ua _ d.sub).2.2 0 2 (by omega) (by decide)), ?_⟩
   obtain ⟨Ta, va, hp⟩ := bsome hp
   refine s_rDistance (a := ({ X := i, Y := n } : Pt)) (b := ta.At) d.pre  va fun Wa wa => ?_
   obtain ⟨u, F⟩ := d.call wa g
   have G := e.k F
   have xa := h.k F
   refine ⟨_, rfl, ?_⟩
   obtain ⟨ya, hp⟩ := gd_some hp
   refine ⟨ya, trivial, _, G.bk.rc rfl, (by rw [show cmC _ = true from cmC_of (ha105.noFn)]; exact (e.bk.rc rfl)), ?_⟩
   obtain ⟨Ua, q, hp⟩ := bsome hp
   obtain ⟨Ja, T, y, q⟩ := idx_some q
   refine ⟨Ja, T, (by first | exact y | (rw [ha200.slLen]; exact y)), _, (ha200.rdI q u.sub), (ha200.rdI q d.sub), ?_⟩
   obtain ⟨I, s, hp⟩ := bsome hp
   obtain ⟨Ka, Z, z, s⟩ := idx_some s
   obtain ⟨_, J⟩ := rd_Frm ha105 s
   refine ⟨Ka, Z, (by first | exact z | (rw [ha105.slLen]; exact z)), (ha105.isPt s _), _, _, ((J _ u.sub).2.2 0 2 (by omega) (by decide)), ((J _ d.sub).2.2 0 2 (by omega) (by decide)), ?_⟩
   obtain ⟨za, Aa, Ba, Ca, Da⟩ := xa.sto u [(Il I.At.X), (Il I.At.Y)]
   have Ea := G.k Ca
   refine ⟨za, Aa, ?_⟩
   refine gdi hp fun Fa hp => ?_
   exact ma _ _ _ _ _ g Ba Ea Da hp
 exact hgo _ _ _ _ _ _ ea ka e h hp
theorem s_rAll {r : Rnd} {ca105 : C} {m f : M} {Q : V → M → Prop} {rz : Int} (hS : Pre f m) (ha105 : Sl f ca105 r.Farms) (hp : prAll r = some rz) (hq : ∀ m', Ext m m' → Q (.c (Il rz)) m') : Wc prog tbl 54 [.agg 6 [(Il r.Adjusters), (Il r.Last), (Il r.Miles), (Il r.Home.X), (Il r.Home.Y), ca105]] m Q := by
 have l := hS.st
 obtain ⟨n, _⟩ : ∃ τ : Nat → Nat, True := ⟨fun _ => 0, trivial⟩
 refine w54 ?_
 unfold prAll at hp
 intro q g
 obtain ⟨o, h, p, i⟩ := l.blk g n 1
 refine ⟨trivial, _, i.bk.rc rfl, ha105.isSl, ?_⟩
 refine gdi hp fun j hp => ?_
 obtain ⟨a, hp⟩ := gd_some hp
 refine ⟨(by first | exact a | (rw [ha105.slLen]; exact a)), ?_⟩
 obtain ⟨b, hp⟩ := gd_some hp
 refine ⟨(by first | exact b | (rw [ha105.slLen]; exact b)), ?_⟩
 obtain ⟨d, hp⟩ := gd_some hp
 refine ⟨(by first | exact d | (rw [ha105.slLen]; exact d)), ?_⟩
 obtain ⟨e, hp⟩ := gd_some hp
 refine ⟨(by first | exact e | (rw [ha105.slLen]; exact e)), ?_⟩
 try rw [ha105.slLen]
 obtain rfl := Option.some.inj hp
 exact hq _ h.ext'
theorem s_rBits {bits : Int} {m f : M} {Q : V → M → Prop} {rz : List Int} (hS : Pre f m)  (hp : prBits bits = some rz) (hq : ∀ m' f' c0, Grw m f m' f' → Sl f' c0 rz → Q (.c c0) m') : Wc prog tbl 43 [.c (Il bits)] m Q := by
 have S0 := hS.st
 obtain ⟨τ0, _⟩ : ∃ τ : Nat → Nat, True := ⟨fun _ => 0, trivial⟩
 refine w43 ?_
 unfold prBits at hp
 intro R0 ba
 have hgo : ∀ (b : Nat) (j : C) (i : Int) (d : List Int) (l : M) (e : Nat → Nat), St (Fm.of m) f f l → Ow (Fm.of m) f e l 1 j d → prBits_L0 bits b d i = some rz → R0 [.c j, .c (Il i)] l := by
  intro b
  induction b with
  | zero => intro j i d l e g h hp; cases hp
  | succ b n =>
   intro j i d l e g h hp
   refine ba _ _ _ ?_
   rw [prBits_L0] at hp
   refine gdi hp fun o hp => ?_
   refine gdi hp fun p hp => ?_
   refine gdi hp fun q hp => ?_
   refine gdi hp fun r hp => ?_
   refine ifd hp (fun s hp => ?_) fun s hp => ?_; rotate_left
   ·obtain ⟨t, u, fa, w⟩ := h.freeze g
    obtain rfl := Option.some.inj hp
    exact hq _ t j u.grw w
   refine gdi hp fun x hp => ?_
   refine gdi hp fun y hp => ?_
   refine gdi hp fun z hp => ?_
   refine gdi hp fun A hp => ?_
   refine gdi hp fun B hp => ?_
   refine gdi hp fun D hp => ?_
   refine gdi hp fun F hp => ?_
   refine ifd hp (fun G hp => ?_) fun G hp => ?_; rotate_left
   ·refine gdi hp fun I hp => ?_
    exact n _ _ _ _ e g h hp
   obtain ⟨J, hp⟩ := gd_some hp
   intro m4 N
   obtain ⟨O, P, S, T, Y, ga, Z⟩ := h.app' ta27 g (a := i) (show Rp.rep (α := Int) f _ i from rfl) J N
   refine ⟨O, P, T, ?_⟩
   refine gdi hp fun aa hp => ?_
   exact n _ _ _ _ S Y Z hp
 exact hgo _ _ _ _ _ τ0 S0 (Ow.nil _ _ _ _ _) hp
theorem s_lList {l : List Int} {ca100 : C} {m f : M} {Q : V → M → Prop} {rz : List Int} (hS : Pre f m) (ha100 : Sl f ca100 l) (hp : plList l = some rz) (hq : ∀ m' f' c0, Grw m f m' f' → Sl f' c0 rz → Q (.c c0) m') : Wc prog tbl 19 [.c ca100] m Q := by
 have o := hS.st
 obtain ⟨p, _⟩ : ∃ τ : Nat → Nat, True := ⟨fun _ => 0, trivial⟩
 refine w19 ?_
 unfold plList at hp
 obtain ⟨b, hp⟩ := gd_some hp
 obtain ⟨a, d, q, e, g, r, h⟩ := (Ow.nil (α := Int) (Fm.of m) f p m 1).appL ta27 o ha100 b
 refine ⟨a, d, e, ?_⟩
 obtain ⟨i, j, s, n⟩ := h.freeze g
 obtain rfl := Option.some.inj hp
 exact hq _ i a j.grw n
theorem s_lRound {r : Rnd} {ca105 : C} {m f : M} {Q : V → M → Prop} {rz : Rnd} (hS : Pre f m) (ha105 : Sl f ca105 r.Farms) (hp : plRound r = some rz) (hq : ∀ m' f' c5, Grw m f m' f' → Sl f' c5 rz.Farms → Q (.agg 6 [(Il rz.Adjusters), (Il rz.Last), (Il rz.Miles), (Il rz.Home.X), (Il rz.Home.Y), c5]) m') : Wc prog tbl 18 [.agg 6 [(Il r.Adjusters), (Il r.Last), (Il r.Miles), (Il r.Home.X), (Il r.Home.Y), ca105]] m Q := by
 have S0 := hS.st
 obtain ⟨τ0, _⟩ : ∃ τ : Nat → Nat, True := ⟨fun _ => 0, trivial⟩
 refine w18 ?_
 unfold plRound at hp
 intro m0 aa
 obtain ⟨ba, ca, jb, da⟩ := S0.blk aa τ0 1
 intro m1 ea
 obtain ⟨fa, ga, ha, ia⟩ := ca.blk ea ba 2
 have e := da.k ha
 refine ⟨trivial, _, e.bk.rc rfl, trivial, _, e.bk.rc rfl, trivial, _, e.bk.rc rfl, trivial, trivial, _, e.bk.rc rfl, trivial, trivial, _, e.bk.rc rfl, ?_⟩
 intro m7 ja
 obtain ⟨ka, la, P, ma⟩ := ga.blk ja fa 3
 have na := e.k P
 have oa := ia.k P
 obtain ⟨pa, qa, sa, S, s⟩ := ma.sto la [(Il r.Adjusters), (Il r.Last), (Il r.Miles), (Il r.Home.X), (Il r.Home.Y), .sl0]
 have g := na.k S
 have t := oa.k S
 refine ⟨pa, qa, ?_⟩
 intro R9 eb
 have hgo : ∀ (u : Nat) (N : Int) (h : C) (i : Int) (j : Int) (l : Int) (n : Int) (o : Int) (w : List Frm) (q : M) (d : Nat → Nat), St (Fm.of m) f f q → Lb (Fm.of m) f d q 1 m.nxt 6 [(Il r.Adjusters), (Il r.Last), (Il r.Miles), (Il r.Home.X), (Il r.Home.Y), ca105] → Lb (Fm.of m) f d q 2 m0.nxt 6 [(Il 0), (Il 0), (Il 0), (Il 0), (Il 0), .sl0] → Lb (Fm.of m) f d q 3 m1.nxt 6 [(Il i), (Il j), (Il l), (Il n), (Il o), h] → Ow (Fm.of m) f d q 4 h w → plRound_L0 r u i j l n o w N = some rz → R9 [.c (Il N)] q := by
  intro u
  induction u with
  | zero => intro N h i j l n o w q d x g t s b hp; cases hp
  | succ u ta =>
   intro N h i j l n o w q d x g t s b hp
   refine eb _ _ ?_
   rw [plRound_L0] at hp
   refine ⟨trivial, _, g.bk.rc rfl, ha105.isSl, ?_⟩
   try rw [ha105.slLen]
   refine ifd hp (fun ua hp => ?_) fun ua hp => ?_; rotate_left
   ·refine ⟨_, _, _, _, _, _, s.bk.ra, ?_⟩
    obtain ⟨va, wa, xa, ya, za⟩ := t.sto x [(Il i), (Il j), (Il l), (Il n), (Il o), h]
    have b := b.k ya
    refine ⟨va, wa, ?_⟩
    refine ⟨_, _, _, _, _, _, za.bk.ra, ?_⟩
    obtain ⟨Aa, Ba, ob, Ca⟩ := b.freeze xa
    obtain rfl := Option.some.inj hp
    exact hq _ Aa h Ba.grw Ca
   refine ⟨trivial, _, g.bk.rc rfl, ?_⟩
   obtain ⟨p, B, hp⟩ := bsome hp
   obtain ⟨fb, Z, O, B⟩ := idx_some B
   obtain ⟨_, Da⟩ := rd_Frm ha105 B
   refine ⟨fb, Z, (by first | exact O | (rw [ha105.slLen]; exact O)), _, _, _, _, (Da _ x.sub).1, ?_⟩
   intro qb Ea
   obtain ⟨pb, Fa, y, Ga⟩ := x.blk Ea d 5
   have Ha := g.k y
   have Ia := t.k y
   have Ja := s.k y
   have b := b.k y
   obtain ⟨Ka, La, Ma, z, A⟩ := Ga.sto Fa [(Il p.At.X), (Il p.At.Y), (Il p.Days.Lo), (Il p.Days.Hi)]
   have Na := Ha.k z
   have Oa := Ia.k z
   have T := Ja.k z
   have b := b.k z
   refine ⟨Ka, La, ?_⟩
   refine ⟨trivial, _, T.bk.rc rfl, trivial, trivial, _, A.bk.rc rfl, trivial, trivial, _, A.bk.rc rfl, trivial, trivial, _, A.bk.rc rfl, trivial, trivial, _, A.bk.rc rfl, ?_⟩
   obtain ⟨Pa, hp⟩ := gd_some hp
   intro rb Qa
   obtain ⟨D, Ra, Sa, Ta, Ua, F, G⟩ := b.app' ta33 Ma (a := p) (show Rp.rep (α := Frm) f _ p from rfl) Pa Qa
   have Va := Na.k F
   have Wa := Oa.k F
   have Xa := T.k F
   refine ⟨D, Ra, Ta, ?_⟩
   refine ⟨trivial, ?_⟩
   obtain ⟨Ya, Za, ab, I, J⟩ := Xa.sto1 Ua 5 D (by simp) rfl
   replace J : Lb _ _ _ _ _ _ _ [(Il i), (Il j), (Il l), (Il n), (Il o), D] := J
   have bb := Va.k I
   have cb := Wa.k I
   have G := G.k I
   refine ⟨Ya, Za, ?_⟩
   refine gdi hp fun db hp => ?_
   exact ta _ _ _ _ _ _ _ _ _ Sa ab bb cb J G hp
 exact hgo _ _ _ _ _ _ _ _ _ _ ka sa g t s (Ow.nil _ _ _ _ _) hp
theorem s_lFault {r : Rnd} {ca105 : C} {m f : M} {Q : V → M → Prop} {rz : Int} (hS : Pre f m) (ha105 : Sl f ca105 r.Farms) (hp : plFault r = some rz) (hq : ∀ m', Ext m m' → Q (.c (Il rz)) m') : Wc prog tbl 20 [.agg 6 [(Il r.Adjusters), (Il r.Last), (Il r.Miles), (Il r.Home.X), (Il r.Home.Y), ca105]] m Q := by
 have j := hS.st
 obtain ⟨l, _⟩ : ∃ τ : Nat → Nat, True := ⟨fun _ => 0, trivial⟩
 refine w20 ?_
 unfold plFault at hp
 intro q b
 obtain ⟨d, a, n, e⟩ := j.blk b l 1
 refine ⟨_, _, _, _, _, _, e.bk.ra, ?_⟩
 obtain ⟨o, g, hp⟩ := bsome hp
 refine s_rFault (r := r) a.pre ha105 g fun s h => ?_
 obtain ⟨i, p⟩ := a.call h d
 refine ⟨_, rfl, ?_⟩
 obtain rfl := Option.some.inj hp
 exact hq _ i.ext'
theorem s_lSet {r : Rnd} {bits : Int} {ca105 : C} {m f : M} {Q : V → M → Prop} {rz : List Int} (hS : Pre f m) (ha105 : Sl f ca105 r.Farms) (hp : plSet r bits = some rz) (hq : ∀ m' f' c0, Grw m f m' f' → Sl f' c0 rz → Q (.c c0) m') : Wc prog tbl 50 [.agg 6 [(Il r.Adjusters), (Il r.Last), (Il r.Miles), (Il r.Home.X), (Il r.Home.Y), ca105], .c (.int .u8 bits)] m Q := by
 have z := hS.st
 obtain ⟨A, _⟩ : ∃ τ : Nat → Nat, True := ⟨fun _ => 0, trivial⟩
 refine w50 ?_
 unfold plSet at hp
 intro J e
 obtain ⟨a, b, B, g⟩ := z.blk e A 1
 refine ⟨_, _, _, _, _, _, g.bk.ra, ?_⟩
 obtain ⟨h, i, hp⟩ := bsome hp
 refine s_rAll (r := r) b.pre ha105 i fun N j => ?_
 obtain ⟨d, D⟩ := b.call j a
 refine ⟨_, rfl, ?_⟩
 refine gdi hp fun l hp => ?_
 refine gdi hp fun n hp => ?_
 refine gdi hp fun o hp => ?_
 refine gdi hp fun p hp => ?_
 refine gdi hp fun q hp => ?_
 obtain ⟨F, s, hp⟩ := bsome hp
 refine s_rBits (bits := (((Nat.land (Int.toNat (wrapZ .i64 bits)) (Int.toNat h)) : Nat) : Int)) d.pre  s fun I t u w x => ?_
 obtain ⟨y, G⟩ := d.callG w a
 refine ⟨_, rfl, ?_⟩
 obtain rfl := Option.some.inj hp
 exact hq _ t u y.grw x
theorem s_has {r : Rg} {n : Int} {m f : M} {Q : V → M → Prop} {rz : Bool} (hS : Pre f m)  (hp : phas r n = some rz) (hq : ∀ m', Ext m m' → Q (.c (.bool rz)) m') : Wc prog tbl 97 [.agg 2 [(Il r.Lo), (Il r.Hi)], .c (Il n)] m Q := by
 have g := hS.st
 obtain ⟨h, _⟩ : ∃ τ : Nat → Nat, True := ⟨fun _ => 0, trivial⟩
 refine w97 ?_
 unfold phas at hp
 intro l d
 obtain ⟨i, a, j, b⟩ := g.blk d h 1
 refine ⟨trivial, _, b.bk.rc rfl, ?_⟩
 refine ifd hp (fun e hp => ?_) fun e hp => ?_; rotate_left
 ·obtain rfl := Option.some.inj hp
  exact hq _ a.ext'
 refine ⟨trivial, _, b.bk.rc rfl, ?_⟩
 obtain rfl := Option.some.inj hp
 exact hq _ a.ext'
theorem s_tooMuch {r : Rnd} {ca105 : C} {m f : M} {Q : V → M → Prop} {rz : Bool} (hS : Pre f m) (ha105 : Sl f ca105 r.Farms) (hp : ptooMuch r = some rz) (hq : ∀ m', Ext m m' → Q (.c (.bool rz)) m') : Wc prog tbl 62 [.agg 6 [(Il r.Adjusters), (Il r.Last), (Il r.Miles), (Il r.Home.X), (Il r.Home.Y), ca105]] m Q := by
 have i := hS.st
 obtain ⟨j, _⟩ : ∃ τ : Nat → Nat, True := ⟨fun _ => 0, trivial⟩
 refine w62 ?_
 unfold ptooMuch at hp
 intro o d
 obtain ⟨l, a, n, b⟩ := i.blk d j 1
 refine ⟨trivial, _, b.bk.rc rfl, ?_⟩
 refine ifd hp (fun e hp => ?_) fun e hp => ?_
 ·obtain rfl := Option.some.inj hp
  exact hq _ a.ext'
 refine ⟨trivial, _, b.bk.rc rfl, ?_⟩
 refine ifd hp (fun g hp => ?_) fun g hp => ?_
 ·obtain rfl := Option.some.inj hp
  exact hq _ a.ext'
 refine ⟨trivial, _, b.bk.rc rfl, ?_⟩
 refine ifd hp (fun h hp => ?_) fun h hp => ?_
 ·obtain rfl := Option.some.inj hp
  exact hq _ a.ext'
 refine ⟨trivial, _, b.bk.rc rfl, ha105.isSl, ?_⟩
 try rw [ha105.slLen]
 obtain rfl := Option.some.inj hp
 exact hq _ a.ext'
theorem s_pvalid {p : Pt} {m f : M} {Q : V → M → Prop} {rz : Bool} (hS : Pre f m)  (hp : ppvalid p = some rz) (hq : ∀ m', Ext m m' → Q (.c (.bool rz)) m') : Wc prog tbl 85 [.agg 2 [(Il p.X), (Il p.Y)]] m Q := by
 have O := hS.st
 obtain ⟨P, _⟩ : ∃ τ : Nat → Nat, True := ⟨fun _ => 0, trivial⟩
 refine w85 ?_
 unfold ppvalid at hp
 intro m0 i
 obtain ⟨j, l, S, o⟩ := O.blk i P 1
 intro m1 q
 obtain ⟨b, s, t, u⟩ := l.blk q j 2
 have w := o.k t
 obtain ⟨x, y, d, z, e⟩ := u.sto s [(Il 0), (Il (9 : Int))]
 have g := w.k z
 refine ⟨x, y, ?_⟩
 refine ⟨_, _, e.bk.ra, trivial, _, g.bk.rc rfl, ?_⟩
 obtain ⟨T, A, hp⟩ := bsome hp
 refine s_has (r := ({ Lo := (0 : Int), Hi := (9 : Int) } : Rg)) (n := p.X) d.pre  A fun m7 B => ?_
 obtain ⟨a, h⟩ := d.call B b
 have D := g.k h
 have F := e.k h
 refine ⟨_, rfl, ?_⟩
 refine ifbb hp (fun G hp => ?_) fun G hp => ?_; rotate_left
 ·obtain rfl := Option.some.inj hp
  exact hq _ a.ext'
 refine ⟨_, _, F.bk.ra, trivial, _, D.bk.rc rfl, ?_⟩
 obtain ⟨Z, I, hp⟩ := bsome hp
 refine s_has (r := ({ Lo := (0 : Int), Hi := (9 : Int) } : Rg)) (n := p.Y) a.pre  I fun ba J => ?_
 obtain ⟨N, aa⟩ := a.call J b
 refine ⟨_, rfl, ?_⟩
 obtain rfl := Option.some.inj hp
 exact hq _ N.ext'
theorem s_hasDay {r : Rnd} {n : Int} {ca105 : C} {m f : M} {Q : V → M → Prop} {rz : Bool} (hS : Pre f m) (_ha105 : Sl f ca105 r.Farms) (hp : phasDay r n = some rz) (hq : ∀ m', Ext m m' → Q (.c (.bool rz)) m') : Wc prog tbl 104 [.agg 6 [(Il r.Adjusters), (Il r.Last), (Il r.Miles), (Il r.Home.X), (Il r.Home.Y), ca105], .c (Il n)] m Q := by
 have j := hS.st
 obtain ⟨l, _⟩ : ∃ τ : Nat → Nat, True := ⟨fun _ => 0, trivial⟩
 refine w104 ?_
 unfold phasDay at hp
 intro s b
 obtain ⟨d, a, o, e⟩ := j.blk b l 1
 refine ⟨trivial, _, e.bk.rc rfl, ?_⟩
 obtain ⟨p, g, hp⟩ := bsome hp
 refine s_has (r := ({ Lo := (0 : Int), Hi := r.Last } : Rg)) (n := n) a.pre  g fun t h => ?_
 obtain ⟨i, q⟩ := a.call h d
 refine ⟨_, rfl, ?_⟩
 obtain rfl := Option.some.inj hp
 exact hq _ i.ext'
theorem s_hasFarm {r : Rnd} {n : Int} {ca105 : C} {m f : M} {Q : V → M → Prop} {rz : Bool} (hS : Pre f m) (ha105 : Sl f ca105 r.Farms) (hp : phasFarm r n = some rz) (hq : ∀ m', Ext m m' → Q (.c (.bool rz)) m') : Wc prog tbl 81 [.agg 6 [(Il r.Adjusters), (Il r.Last), (Il r.Miles), (Il r.Home.X), (Il r.Home.Y), ca105], .c (Il n)] m Q := by
 have l := hS.st
 obtain ⟨o, _⟩ : ∃ τ : Nat → Nat, True := ⟨fun _ => 0, trivial⟩
 refine w81 ?_
 unfold phasFarm at hp
 intro t d
 obtain ⟨e, a, p, g⟩ := l.blk d o 1
 refine ⟨trivial, _, g.bk.rc rfl, ha105.isSl, ?_⟩
 obtain ⟨b, hp⟩ := gd_some hp
 refine ⟨(by first | exact b | (rw [ha105.slLen]; exact b)), ?_⟩
 try rw [ha105.slLen]
 obtain ⟨q, h, hp⟩ := bsome hp
 refine s_has (r := ({ Lo := (0 : Int), Hi := ((r.Farms.length : Int) - (1 : Int)) } : Rg)) (n := n) a.pre  h fun u i => ?_
 obtain ⟨j, s⟩ := a.call i e
 refine ⟨_, rfl, ?_⟩
 obtain rfl := Option.some.inj hp
 exact hq _ j.ext'
theorem s_validFarm {r : Rnd} {q : Frm} {ca105 : C} {m f : M} {Q : V → M → Prop} {rz : Bool} (hS : Pre f m) (ha105 : Sl f ca105 r.Farms) (hp : pvalidFarm r q = some rz) (hq : ∀ m', Ext m m' → Q (.c (.bool rz)) m') : Wc prog tbl 87 [.agg 6 [(Il r.Adjusters), (Il r.Last), (Il r.Miles), (Il r.Home.X), (Il r.Home.Y), ca105], .agg 4 [(Il q.At.X), (Il q.At.Y), (Il q.Days.Lo), (Il q.Days.Hi)]] m Q := by
 have Z := hS.st
 obtain ⟨τ0, _⟩ : ∃ τ : Nat → Nat, True := ⟨fun _ => 0, trivial⟩
 refine w87 ?_
 unfold pvalidFarm at hp
 intro m0 s
 obtain ⟨t, u, ba, w⟩ := Z.blk s τ0 1
 intro m1 x
 obtain ⟨d, g, y, h⟩ := u.blk x t 2
 have z := w.k y
 refine ⟨trivial, _, _, h.bk.rp (k := 0) (j := 2) rfl (by omega), ?_⟩
 obtain ⟨ca, A, hp⟩ := bsome hp
 refine s_pvalid (p := q.At) g.pre  A fun m5 B => ?_
 obtain ⟨a, i⟩ := g.call B d
 have l := z.k i
 have b := h.k i
 refine ⟨_, rfl, ?_⟩
 refine ifbb hp (fun D hp => ?_) fun D hp => ?_; rotate_left
 ·obtain rfl := Option.some.inj hp
  exact hq _ a.ext'
 refine ⟨trivial, trivial, _, b.bk.rc rfl, trivial, trivial, _, b.bk.rc rfl, ?_⟩
 refine ifd hp (fun F hp => ?_) fun F hp => ?_; rotate_left
 ·obtain rfl := Option.some.inj hp
  exact hq _ a.ext'
 refine ⟨_, _, _, _, _, _, l.bk.ra, trivial, trivial, _, b.bk.rc rfl, ?_⟩
 obtain ⟨da, G, hp⟩ := bsome hp
 refine s_hasDay (r := r) (n := q.Days.Lo) a.pre ha105 G fun ga I => ?_
 obtain ⟨e, o⟩ := a.call I d
 have J := l.k o
 have N := b.k o
 refine ⟨_, rfl, ?_⟩
 refine ifbb hp (fun O hp => ?_) fun O hp => ?_; rotate_left
 ·obtain rfl := Option.some.inj hp
  exact hq _ e.ext'
 refine ⟨_, _, _, _, _, _, J.bk.ra, trivial, trivial, _, N.bk.rc rfl, ?_⟩
 obtain ⟨ea, P, hp⟩ := bsome hp
 refine s_hasDay (r := r) (n := q.Days.Hi) e.pre ha105 P fun ha S => ?_
 obtain ⟨T, fa⟩ := e.call S d
 refine ⟨_, rfl, ?_⟩
 obtain rfl := Option.some.inj hp
 exact hq _ T.ext'
theorem s_eachF1 {x : Frm} {passes : Frm → Option (Bool)} {b0 : Nat} {cb000 : C} {m f : M} {Q : V → M → Prop} {rz : Bool} (hS : Pre f m) (hb0 : Bk f b0 1 [cb000]) (hb000 : Fv_Frm_Bool f cb000 passes) (hp : peachF1 x passes = some rz) (hq : ∀ m', Ext m m' → Q (.c (.bool rz)) m') : Wc prog tbl 103 [.agg 4 [(Il x.At.X), (Il x.At.Y), (Il x.Days.Lo), (Il x.Days.Hi)], .c (.ptr b0 0)] m Q := by
 have j := hS.st
 obtain ⟨l, _⟩ : ∃ τ : Nat → Nat, True := ⟨fun _ => 0, trivial⟩
 refine c103 ?_
 unfold peachF1 at hp
 intro q b
 obtain ⟨d, a, n, e⟩ := j.blk b l 1
 refine ⟨_, (hb0.sub a.sub).rc rfl, _, _, _, _, e.bk.ra, ?_⟩
 obtain ⟨o, g, hp⟩ := bsome hp
 refine hb000 _ _ _ _ _ (Sub.refl _) a.pre  g fun r h => ?_
 obtain ⟨i, p⟩ := a.call h d
 refine ⟨_, rfl, ?_⟩
 obtain rfl := Option.some.inj hp
 exact hq _ i.ext'
theorem s_indexF {l : List Frm} {p : Frm → Option (Bool)} {ca100 ca200 : C} {m f : M} {Q : V → M → Prop} {rz : Int} (hS : Pre f m) (ha100 : Sl f ca100 l) (ha200 : Fv_Frm_Bool f ca200 p) (hp : pindexF l p = some rz) (hq : ∀ m', Ext m m' → Q (.c (Il rz)) m') : Wc prog tbl 108 [.c ca100, .c ca200] m Q := by
 have z := hS.st
 obtain ⟨A, _⟩ : ∃ τ : Nat → Nat, True := ⟨fun _ => 0, trivial⟩
 refine w108 ?_
 unfold pindexF at hp
 refine ⟨ha100.isSl, ?_⟩
 intro B y
 have hgo : ∀ (b : Nat) (o : Int) (i : Int) (j : M) (d : Nat → Nat), St (Fm.of m) f f j → pindexF_L0 l p b i = some rz → B [.c (Il o), .c (Il i)] j := by
  intro b
  induction b with
  | zero => intro o i j d a hp; cases hp
  | succ b q =>
   intro o i j d a hp
   refine y _ _ _ ?_
   rw [pindexF_L0] at hp
   try rw [ha100.slLen]
   refine ifd hp (fun r hp => ?_) fun r hp => ?_; rotate_left
   ·obtain rfl := Option.some.inj hp
    exact hq _ a.ext'
   obtain ⟨D, e, hp⟩ := bsome hp
   obtain ⟨F, n, g, e⟩ := idx_some e
   obtain ⟨_, s⟩ := rd_Frm ha100 e
   refine ⟨F, n, (by first | exact g | (rw [ha100.slLen]; exact g)), _, _, _, _, (s _ a.sub).1, ?_⟩
   obtain ⟨G, t, hp⟩ := bsome hp
   refine ha200 _ _ _ _ _ (Sub.refl _) a.pre  t fun J u => ?_
   obtain ⟨h, I⟩ := a.call u d
   refine ⟨_, rfl, ?_⟩
   refine ifbb hp (fun w hp => ?_) fun w hp => ?_
   ·obtain rfl := Option.some.inj hp
    exact hq _ h.ext'
   refine gdi hp fun x hp => ?_
   exact q _ _ _ d h hp
 exact hgo _ _ _ _ A z hp
theorem s_containsF {l : List Frm} {p : Frm → Option (Bool)} {ca100 ca200 : C} {m f : M} {Q : V → M → Prop} {rz : Bool} (hS : Pre f m) (ha100 : Sl f ca100 l) (ha200 : Fv_Frm_Bool f ca200 p) (hp : pcontainsF l p = some rz) (hq : ∀ m', Ext m m' → Q (.c (.bool rz)) m') : Wc prog tbl 102 [.c ca100, .c ca200] m Q := by
 have e := hS.st
 obtain ⟨g, _⟩ : ∃ τ : Nat → Nat, True := ⟨fun _ => 0, trivial⟩
 refine w102 ?_
 unfold pcontainsF at hp
 obtain ⟨h, a, hp⟩ := bsome hp
 refine s_indexF (l := l) (p := p) e.pre ha100 ha200 a fun j b => ?_
 obtain ⟨d, i⟩ := e.call b g
 refine ⟨_, rfl, ?_⟩
 obtain rfl := Option.some.inj hp
 exact hq _ d.ext'
theorem s_eachF {l : List Frm} {passes : Frm → Option (Bool)} {ca100 ca200 : C} {m f : M} {Q : V → M → Prop} {rz : Bool} (hS : Pre f m) (ha100 : Sl f ca100 l) (ha200 : Fv_Frm_Bool f ca200 passes) (hp : peachF l passes = some rz) (hq : ∀ m', Ext m m' → Q (.c (.bool rz)) m') : Wc prog tbl 86 [.c ca100, .c ca200] m Q := by
 have u := hS.st
 obtain ⟨w, _⟩ : ∃ τ : Nat → Nat, True := ⟨fun _ => 0, trivial⟩
 refine w86 ?_
 unfold peachF at hp
 intro A h
 obtain ⟨i, j, x, n⟩ := u.blk h w 1
 obtain ⟨o, b, d, e⟩ := n.freeze j
 have g : Fv_Frm_Bool o ((C.fn (Fn.func 103) [] [(W.c (C0.ptr m.nxt 0))])) (fun a => peachF1 a passes) := by
  intro f' m' a r Q hs hpre  hg hq
  exact s_eachF1 hpre (e.sub hs) ((ha200.sub d.fs).sub hs) hg hq
 obtain ⟨y, q, hp⟩ := bsome hp
 refine s_containsF (l := l) (p := (fun a => peachF1 a passes)) b.pre (ha100.sub d.fs) g q fun B s => ?_
 obtain ⟨t, z⟩ := b.call s i
 refine ⟨_, rfl, ?_⟩
 obtain rfl := Option.some.inj hp
 exact hq _ t.ext'
theorem s_valid {r : Rnd} {ca105 : C} {m f : M} {Q : V → M → Prop} {rz : Bool} (hS : Pre f m) (ha105 : Sl f ca105 r.Farms) (hp : pvalid r = some rz) (hq : ∀ m', Ext m m' → Q (.c (.bool rz)) m') : Wc prog tbl 63 [.agg 6 [(Il r.Adjusters), (Il r.Last), (Il r.Miles), (Il r.Home.X), (Il r.Home.Y), ca105]] m Q := by
 have G := hS.st
 obtain ⟨I, _⟩ : ∃ τ : Nat → Nat, True := ⟨fun _ => 0, trivial⟩
 refine w63 ?_
 unfold pvalid at hp
 intro T o
 obtain ⟨g, a, J, b⟩ := G.blk o I 1
 refine ⟨trivial, _, b.bk.rc rfl, ?_⟩
 refine ifd hp (fun q hp => ?_) fun q hp => ?_; rotate_left
 ·obtain rfl := Option.some.inj hp
  exact hq _ a.ext'
 refine ⟨trivial, _, b.bk.rc rfl, ?_⟩
 refine ifd hp (fun s hp => ?_) fun s hp => ?_; rotate_left
 ·obtain rfl := Option.some.inj hp
  exact hq _ a.ext'
 refine ⟨trivial, _, b.bk.rc rfl, ?_⟩
 refine ifd hp (fun t hp => ?_) fun t hp => ?_; rotate_left
 ·obtain rfl := Option.some.inj hp
  exact hq _ a.ext'
 refine ⟨trivial, _, _, b.bk.rp (k := 3) (j := 2) rfl (by omega), ?_⟩
 obtain ⟨N, u, hp⟩ := bsome hp
 refine s_pvalid (p := r.Home) a.pre  u fun Z w => ?_
 obtain ⟨e, x⟩ := a.call w g
 have h := b.k x
 refine ⟨_, rfl, ?_⟩
 refine ifbb hp (fun y hp => ?_) fun y hp => ?_; rotate_left
 ·obtain rfl := Option.some.inj hp
  exact hq _ e.ext'
 refine ⟨trivial, _, h.bk.rc rfl, _, _, _, _, _, _, h.bk.ra, ?_⟩
 obtain ⟨n, z, A⟩ : ∃ ws, mapO vW [.agg 6 [(Il r.Adjusters), (Il r.Last), (Il r.Miles), (Il r.Home.X), (Il r.Home.Y), ca105]] = some ws ∧ mapS wV ws = [.agg 6 [(Il r.Adjusters), (Il r.Last), (Il r.Miles), (Il r.Home.X), (Il r.Home.Y), ca105]] := (vWs_cons (vW_agg (nf_cons rfl (nf_cons rfl (nf_cons rfl (nf_cons rfl (nf_cons rfl (nf_cons ha105.noFn nf_nil))))))) vWs_nil)
 rw [z, optB_some]
 have i : Fv_Frm_Bool f ((C.fn (Fn.func 87) n [])) (fun d => pvalidFarm r d) := by
  intro f' m' d r Q hs hpre  hg hq
  show Wc prog tbl 87 (appS (mapS wV n) _) m' Q
  rw [A]
  exact s_validFarm hpre (ha105.sub hs) hg hq
 obtain ⟨O, B, hp⟩ := bsome hp
 refine s_eachF (l := r.Farms) (passes := (fun d => pvalidFarm r d)) e.pre ha105 i B fun S D => ?_
 obtain ⟨F, P⟩ := e.call D g
 refine ⟨_, rfl, ?_⟩
 obtain rfl := Option.some.inj hp
 exact hq _ F.ext'
theorem s_check {r : Rnd} {ca105 : C} {m f : M} {Q : V → M → Prop} {rz : Int} (hS : Pre f m) (ha105 : Sl f ca105 r.Farms) (hp : pcheck r = some rz) (hq : ∀ m', Ext m m' → Q (.c (Il rz)) m') : Wc prog tbl 21 [.agg 6 [(Il r.Adjusters), (Il r.Last), (Il r.Miles), (Il r.Home.X), (Il r.Home.Y), ca105]] m Q := by
 have t := hS.st
 obtain ⟨u, _⟩ : ∃ τ : Nat → Nat, True := ⟨fun _ => 0, trivial⟩
 refine w21 ?_
 unfold pcheck at hp
 intro B h
 obtain ⟨b, d, w, e⟩ := t.blk h u 1
 refine ⟨_, _, _, _, _, _, e.bk.ra, ?_⟩
 obtain ⟨x, i, hp⟩ := bsome hp
 refine s_tooMuch (r := r) d.pre ha105 i fun D j => ?_
 obtain ⟨a, l⟩ := d.call j b
 have n := e.k l
 refine ⟨_, rfl, ?_⟩
 refine ifbb hp (fun o hp => ?_) fun o hp => ?_
 ·obtain rfl := Option.some.inj hp
  exact hq _ a.ext'
 refine ⟨_, _, _, _, _, _, n.bk.ra, ?_⟩
 obtain ⟨y, p, hp⟩ := bsome hp
 refine s_valid (r := r) a.pre ha105 p fun A q => ?_
 obtain ⟨g, z⟩ := a.call q b
 refine ⟨_, rfl, ?_⟩
 refine ifnb hp (fun s hp => ?_) fun s hp => ?_
 ·obtain rfl := Option.some.inj hp
  exact hq _ g.ext'
 obtain rfl := Option.some.inj hp
 exact hq _ g.ext'
theorem s_without {s : Set5} {farm : Int} {m f : M} {Q : V → M → Prop} {rz : Set5} (hS : Pre f m)  (hp : pwithout s farm = some rz) (hq : ∀ m', Ext m m' → Q (.agg 5 [(.bool rz.c0), (.bool rz.c1), (.bool rz.c2), (.bool rz.c3), (.bool rz.c4)]) m') : Wc prog tbl 92 [.agg 5 [(.bool s.c0), (.bool s.c1), (.bool s.c2), (.bool s.c3), (.bool s.c4)], .c (Il farm)] m Q := by
 have F := hS.st
 obtain ⟨G, _⟩ : ∃ τ : Nat → Nat, True := ⟨fun _ => 0, trivial⟩
 refine w92 ?_
 unfold pwithout at hp
 intro P e
 obtain ⟨g, h, I, i⟩ := F.blk e G 1
 intro S j
 obtain ⟨J, n, o, p⟩ := h.blk j g 2
 have q := i.k o
 refine ⟨trivial, ?_⟩
 obtain ⟨r, hp⟩ := gd_some hp
 obtain ⟨N, b, d⟩ := arr_no r
 refine ⟨N, b, d, ?_⟩
 obtain ⟨t, u, w, x, a⟩ := q.sta n (pre := []) (post := []) (l := ([s.c0, s.c1, s.c2, s.c3, s.c4] : List Bool)) (enc := C.bool) rfl rfl b d false
 replace a : Lb _ _ _ _ _ _ _ [(.bool (sti farm 0 false s.c0)), (.bool (sti farm 1 false s.c1)), (.bool (sti farm 2 false s.c2)), (.bool (sti farm 3 false s.c3)), (.bool (sti farm 4 false s.c4))] := a
 have y := p.k x
 refine ⟨t, u, ?_⟩
 refine ⟨_, _, _, _, _, a.bk.ra, ?_⟩
 obtain ⟨z, A, B, O, D⟩ := y.sto w [(.bool (sti farm 0 false s.c0)), (.bool (sti farm 1 false s.c1)), (.bool (sti farm 2 false s.c2)), (.bool (sti farm 3 false s.c3)), (.bool (sti farm 4 false s.c4))]
 refine ⟨z, A, ?_⟩
 refine ⟨_, _, _, _, _, D.bk.ra, ?_⟩
 obtain rfl := Option.some.inj hp
 exact hq _ B.ext'
theorem s_setOf {r : Rnd} {l : List Int} {ca105 ca200 : C} {m f : M} {Q : V → M → Prop} {rz : Set5 × Bool} (hS : Pre f m) (ha105 : Sl f ca105 r.Farms) (ha200 : Sl f ca200 l) (hp : psetOf r l = some rz) (hq : ∀ m', Ext m m' → Q (.tup [.agg 5 [(.bool rz.1.c0), (.bool rz.1.c1), (.bool rz.1.c2), (.bool rz.1.c3), (.bool rz.1.c4)], .c (.bool rz.2)]) m') : Wc prog tbl 59 [.agg 6 [(Il r.Adjusters), (Il r.Last), (Il r.Miles), (Il r.Home.X), (Il r.Home.Y), ca105], .c ca200] m Q := by
 have S0 := hS.st
 obtain ⟨τ0, _⟩ : ∃ τ : Nat → Nat, True := ⟨fun _ => 0, trivial⟩
 refine w59 ?_
 unfold psetOf at hp
 intro m0 T
 obtain ⟨Z, aa, Ta, ba⟩ := S0.blk T τ0 1
 intro m1 ca
 obtain ⟨da, ea, fa, ga⟩ := aa.blk ca Z 2
 have ha := ba.k fa
 intro m2 ia
 obtain ⟨ja, ka, G, j⟩ := ea.blk ia da 3
 have o := ha.k G
 have p := ga.k G
 refine ⟨ha200.isSl, ?_⟩
 intro R3 Na
 have hgo : ∀ (s : Nat) (b4 : Bool) (N : Int) (a : Bool) (b : Bool) (d : Bool) (e : Bool) (g : Bool) (t : M) (h : Nat → Nat), St (Fm.of m) f f t → Lb (Fm.of m) f h t 1 m.nxt 6 [(Il r.Adjusters), (Il r.Last), (Il r.Miles), (Il r.Home.X), (Il r.Home.Y), ca105] → Lb (Fm.of m) f h t 2 m0.nxt 5 [(.bool false), (.bool false), (.bool false), (.bool false), (.bool false)] → Lb (Fm.of m) f h t 3 m1.nxt 5 [(.bool a), (.bool b), (.bool d), (.bool e), (.bool g)] → psetOf_L0 r l s a b d e g N = some rz → R3 [.c (.bool b4), .c (Il N)] t := by
  intro s
  induction s with
  | zero => intro b4 N a b d e g t h q o p j hp; cases hp
  | succ s ma =>
   intro b4 N a b d e g t h q o p j hp
   refine Na _ _ _ ?_
   rw [psetOf_L0] at hp
   try rw [ha200.slLen]
   refine ifd hp (fun na hp => ?_) fun na hp => ?_; rotate_left
   ·refine ⟨_, _, _, _, _, j.bk.ra, ?_⟩
    obtain ⟨oa, pa, qa, Wa, sa⟩ := p.sto q [(.bool a), (.bool b), (.bool d), (.bool e), (.bool g)]
    refine ⟨oa, pa, ?_⟩
    refine ⟨_, _, _, _, _, sa.bk.ra, ?_⟩
    obtain rfl := Option.some.inj hp
    exact hq _ qa.ext'
   obtain ⟨i, u, hp⟩ := bsome hp
   obtain ⟨n7, O, B, u⟩ := idx_some u
   refine ⟨n7, O, (by first | exact B | (rw [ha200.slLen]; exact B)), _, (ha200.rdI u q.sub), _, _, _, _, _, _, o.bk.ra, ?_⟩
   obtain ⟨Ya, ta, hp⟩ := bsome hp
   refine s_hasFarm (r := r) (n := i) q.pre ha105 ta fun cb ua => ?_
   obtain ⟨w, x⟩ := q.call ua h
   have va := o.k x
   have y := p.k x
   have I := j.k x
   refine ⟨_, rfl, ?_⟩
   refine ifnb hp (fun wa hp => ?_) fun wa hp => ?_
   ·obtain ⟨xa, ya, za, Za, Aa⟩ := y.sto w [(.bool false), (.bool false), (.bool false), (.bool false), (.bool false)]
    refine ⟨xa, ya, ?_⟩
    refine ⟨_, _, _, _, _, Aa.bk.ra, ?_⟩
    obtain rfl := Option.some.inj hp
    exact hq _ za.ext'
   refine ⟨trivial, ?_⟩
   obtain ⟨ab, z, hp⟩ := bsome hp
   obtain ⟨Oa, P, S, z⟩ := idx_some z
   refine ⟨Oa, P, S, _, (I.bk.rc (arr_at (l := ([a, b, d, e, g] : List Bool)) (enc := C.bool) 0 rfl z)), ?_⟩
   refine ifbb hp (fun Ba hp => ?_) fun Ba hp => ?_
   ·obtain ⟨Ca, Da, Ea, bb, Fa⟩ := y.sto w [(.bool false), (.bool false), (.bool false), (.bool false), (.bool false)]
    refine ⟨Ca, Da, ?_⟩
    refine ⟨_, _, _, _, _, Fa.bk.ra, ?_⟩
    obtain rfl := Option.some.inj hp
    exact hq _ Ea.ext'
   refine ⟨trivial, ?_⟩
   obtain ⟨Ga, hp⟩ := gd_some hp
   obtain ⟨Pa, D, F⟩ := arr_no Ga
   refine ⟨Pa, D, F, ?_⟩
   obtain ⟨Ha, Ia, Ja, J, A⟩ := I.sta w (pre := []) (post := []) (l := ([a, b, d, e, g] : List Bool)) (enc := C.bool) rfl rfl D F true
   replace A : Lb _ _ _ _ _ _ _ [(.bool (sti i 0 true a)), (.bool (sti i 1 true b)), (.bool (sti i 2 true d)), (.bool (sti i 3 true e)), (.bool (sti i 4 true g))] := A
   have Ka := va.k J
   have La := y.k J
   refine ⟨Ha, Ia, ?_⟩
   refine gdi hp fun Ma hp => ?_
   exact ma _ _ _ _ _ _ _ _ h Ja Ka La A hp
 exact hgo _ _ _ _ _ _ _ _ _ ja ka o p j hp
theorem s_distance {p : Pt} {q : Pt} {m f : M} {Q : V → M → Prop} {rz : Int} (hS : Pre f m)  (hp : pdistance p q = some rz) (hq : ∀ m', Ext m m' → Q (.c (Il rz)) m') : Wc prog tbl 101 [.agg 2 [(Il p.X), (Il p.Y)], .agg 2 [(Il q.X), (Il q.Y)]] m Q := by
 have u := hS.st
 obtain ⟨w, _⟩ : ∃ τ : Nat → Nat, True := ⟨fun _ => 0, trivial⟩
 refine w101 ?_
 unfold pdistance at hp
 intro z d
 obtain ⟨e, g, x, h⟩ := u.blk d w 1
 intro A i
 obtain ⟨y, j, l, a⟩ := g.blk i e 2
 have b := h.k l
 refine ⟨trivial, _, b.bk.rc rfl, trivial, _, a.bk.rc rfl, ?_⟩
 obtain ⟨n, hp⟩ := gd_some hp
 refine ⟨n, trivial, _, a.bk.rc rfl, trivial, _, b.bk.rc rfl, ?_⟩
 obtain ⟨o, hp⟩ := gd_some hp
 refine ⟨o, trivial, _, b.bk.rc rfl, trivial, _, a.bk.rc rfl, ?_⟩
 obtain ⟨r, hp⟩ := gd_some hp
 refine ⟨r, trivial, _, a.bk.rc rfl, trivial, _, b.bk.rc rfl, ?_⟩
 refine gdi hp fun s hp => ?_
 refine gdi hp fun t hp => ?_
 obtain rfl := Option.some.inj hp
 exact hq _ j.ext'
theorem s_minimum {l : List Int} {ca100 : C} {m f : M} {Q : V → M → Prop} {rz : Int} (hS : Pre f m) (ha100 : Sl f ca100 l) (hp : pminimum l = some rz) (hq : ∀ m', Ext m m' → Q (.c (Il rz)) m') : Wc prog tbl 98 [.c ca100] m Q := by
 have y := hS.st
 obtain ⟨D, _⟩ : ∃ τ : Nat → Nat, True := ⟨fun _ => 0, trivial⟩
 refine w98 ?_
 unfold pminimum at hp
 refine ⟨ha100.isSl, ?_⟩
 try rw [ha100.slLen]
 refine ifd hp (fun p hp => ?_) fun p hp => ?_
 ·obtain rfl := Option.some.inj hp
  exact hq _ y.ext'
 obtain ⟨A, e, hp⟩ := bsome hp
 obtain ⟨F, j, h, e⟩ := idx_some e
 refine ⟨F, j, (by first | exact h | (rw [ha100.slLen]; exact h)), _, (ha100.rdI e y.sub), ha100.isSl, ?_⟩
 intro G z
 have hgo : ∀ (b : Nat) (q : Int) (r : Int) (s : M) (d : Nat → Nat), St (Fm.of m) f f s → pminimum_L0 l b q r = some rz → G [.c (Il q), .c (Il r)] s := by
  intro b
  induction b with
  | zero => intro q r s d a hp; cases hp
  | succ b n =>
   intro q r s d a hp
   refine z _ _ _ ?_
   rw [pminimum_L0] at hp
   try rw [ha100.slLen]
   refine ifd hp (fun t hp => ?_) fun t hp => ?_; rotate_left
   ·obtain rfl := Option.some.inj hp
    exact hq _ a.ext'
   obtain ⟨B, g, hp⟩ := bsome hp
   obtain ⟨I, o, i, g⟩ := idx_some g
   refine ⟨I, o, (by first | exact i | (rw [ha100.slLen]; exact i)), _, (ha100.rdI g a.sub), ?_⟩
   refine ifd hp (fun u hp => ?_) fun u hp => ?_
   ·refine gdi hp fun w hp => ?_
    exact n _ _ _ d a hp
   refine gdi hp fun x hp => ?_
   exact n _ _ _ d a hp
 exact hgo _ _ _ _ D y hp
theorem s_clone {s : List Int} {ca100 : C} {m f : M} {Q : V → M → Prop} {rz : List Int} (hS : Pre f m) (ha100 : Sl f ca100 s) (hp : pclone s = some rz) (hq : ∀ m' f' c0, Grw m f m' f' → On m f' m' c0 rz → Q (.c c0) m') : Wc prog tbl 84 [.c ca100] m Q := by
 have o := hS.st
 obtain ⟨p, _⟩ : ∃ τ : Nat → Nat, True := ⟨fun _ => 0, trivial⟩
 refine w84 ?_
 unfold pclone at hp
 refine ⟨(okN_sl ha100), (okN_sl ha100), trivial, (Bool.or_true _), ?_⟩
 cases b : isNilC ca100 with
 | true =>
  refine ifB_t' ?_
  obtain rfl := sl_nil_of ha100 b
  obtain ⟨_, hp⟩ := gd_some hp
  obtain rfl := Option.some.inj hp
  exact hq _ _ .sl0 o.grw (Ow.nil _ _ p _ 0).on
 | false =>
  refine ifB_f' ?_
  intro w d
  obtain ⟨q, e, r, g⟩ := Ow.lit0 (α := Int) o p 1 d
  obtain ⟨h, hp⟩ := gd_some hp
  obtain ⟨a, i, t, j, l, u, n⟩ := g.appL ta27 e ha100 h
  refine ⟨a, i, j, ?_⟩
  obtain rfl := Option.some.inj hp
  exact hq _ f a l.grw n.on
end
end Go.Proofs.Ytoejeieblichnaa

namespace Go.Proofs.Ytoejeieblichnaa
open _root_.Go.Proofs.Try
open Go.Abs
set_option maxRecDepth 100000
noncomputable section
theorem w99 (y : C) (b b2 : Nat) {m : M} {Q : V → M → Prop} (h :
 (∀ m0 : M, (m0 = (M.new m (AO.cells 1 [y] false))) → ∀ m1 : M, (m1 = (M.new m0 (AO.cells 1 [C.sl0] false))) → 
 ∀ m2 : M, (m2 = (M.new m1 (AO.cells 1 [C.nilFn] false))) → ∃ m3 : M, ((stC m2 (.ptr m1.nxt 0) 1 [(C.fn (Fn.func 100) [] [(W.c (C0.ptr m.nxt 0)), 
 (W.c (C0.ptr m0.nxt 0)), (W.c (C0.ptr b 0)), (W.c (C0.ptr m1.nxt 0))])]) = (some m3)) ∧ 
 ∃ c4 : C, ((ldC m3 (.ptr m1.nxt 0)) = (some c4)) ∧ isPt (.ptr b 0) ∧ ∃ x5 x6, 
 ((ldA m3 (.ptr b 3) 2) = (some [(Il x5), (Il x6)])) ∧ ∃ b7 : Bool, 
 ∃ b8 : Bool, ∃ b9 : Bool, ∃ b10 : Bool, ∃ b11 : Bool, ((ldA m3 (.ptr b2 0) 5) = (some [(.bool b7), 
 (.bool b8), (.bool b9), (.bool b10), (.bool b11)])) ∧ callP prog tbl [(.agg 2 [(Il x5), 
 (Il x6)]), (.agg 5 [(.bool b7), (.bool b8), (.bool b9), (.bool b10), 
 (.bool b11)]), (.c (Il 0))] c4 m3 (fun v12 m13 => ∃ b14 : Bool, 
 (v12 = (.c (.bool b14))) ∧ Q (.tup []) m13))) : Wc prog tbl 99 [.c y, .c (.ptr b 0), .c (.ptr b2 0)] m Q :=
 wc_eq (n := 3) rfl (by kernel_rfl) (by kernel_rfl) h
theorem w100 (px py ln : Int) (l0 l1 l2 l3 l4 : Bool) (k h2 b cv : Nat) {m : M} {Q : V → M → Prop} (h :
 (∀ m0 : M, (m0 = (M.new m (AO.cells 2 [(Il px), (Il py)] false))) → ∀ m1 : M, (m1 = (M.new m0 (AO.cells 5 [(.bool l0), 
 (.bool l1), (.bool l2), (.bool l3), (.bool l4)] false))) → ∃ b2 : Bool, ∃ b3 : Bool, ∃ b4 : Bool, 
 ∃ b5 : Bool, ∃ b6 : Bool, ((ldA m1 (.ptr m0.nxt 0) 5) = (some [(.bool b2), (.bool b3), 
 (.bool b4), (.bool b5), (.bool b6)])) ∧ ifB ((b2 == false) && ((b3 == false) && ((b4 == false) && ((b5 == false) && (b6 == false))))) (∃ c7 : C, 
 ((ldC m1 (.ptr k 0)) = (some c7)) ∧ ∃ c8 : C, ((ldC m1 (.ptr h2 0)) = (some c8)) ∧ 
 ∃ x9 x10, ((ldA m1 (.ptr m.nxt 0) 2) = (some [(Il x9), 
 (Il x10)])) ∧ isPt (.ptr b 0) ∧ ∃ x11 x12, ((ldA m1 (.ptr b 3) 2) = (some [(Il x11), 
 (Il x12)])) ∧ Wc prog tbl 101 [(.agg 2 [(Il x9), (Il x10)]), 
 (.agg 2 [(Il x11), (Il x12)])] m1 (fun v13 m14 => ∃ x15, 
 (v13 = (.c (Il x15))) ∧ (ifB (cmC c8) ((ldC m14 (.ptr h2 0)) = (some c8)) False) ∧ 
 (ifB (cmC c7) ((ldC m14 (.ptr k 0)) = (some c7)) False) ∧ fitsP .i64 (ln + x15) ∧ 
 callP prog tbl [(.c c8), (.c (Il (ln + x15)))] c7 m14 (fun v16 m17 => 
 ∃ b18 : Bool, (v16 = (.c (.bool b18))) ∧ Q (.c (.bool b18)) m17))) (isPt (.ptr b 0) ∧ 
 ∃ c19 : C, ((ldC m1 (.ptr b 5)) = (some c19)) ∧ isSl c19 ∧ ∀ R20 : List V → M → Prop, 
 (∀ b21 : Bool, ∀ x22 : Int, ∀ m23 : M, (ifB (decide (x22 < (((slLen c19) : Nat) : Int))) (∃ n24 : Nat, 
 (x22 = ((n24 : Nat) : Int)) ∧ (n24 < (slLen c19)) ∧ ∃ x25 x26 x27, 
 ∃ x28, ((ldA m23 (slAt c19 (n24 * 4)) 4) = (some [(Il x25), 
 (Il x26), (Il x27), (Il x28)])) ∧ 
 ∀ m29 : M, (m29 = (M.new m23 (AO.cells 4 [(Il 0), (Il 0), 
 (Il 0), (Il 0)] false))) → ∃ m30 : M, 
 ((stC m29 (.ptr m23.nxt 0) 4 [(Il x25), (Il x26), 
 (Il x27), (Il x28)]) = (some m30)) ∧ isPt (.ptr m0.nxt 0) ∧ 
 ∃ n31 : Nat, (x22 = ((n31 : Nat) : Int)) ∧ (n31 < 5) ∧ ∃ b32 : Bool, ((ldC m30 (.ptr m0.nxt (0 + (n31 * 1)))) = (some (.bool b32))) ∧ 
 ifB (!b32) (fitsP .i64 (x22 + 1) ∧ R20 [(.c (.bool b21)), 
 (.c (Il (x22 + 1)))] m30) (∃ c33 : C, ((ldC m30 (.ptr h2 0)) = (some c33)) ∧ 
 ∀ m34 : M, (m34 = (M.new m30 (AO.cells 1 [(Il x22)] false))) → 
 ∃ c35 : C, ∃ m36 : M, (ApR prog 27 m34 c33 (.sl m30.nxt 0 1 0 (some 1)) c35 m36) ∧ 
 ∃ m37 : M, ((stC m36 (.ptr h2 0) 1 [c35]) = (some m37)) ∧ ∃ c38 : C, 
 ((ldC m37 (.ptr cv 0)) = (some c38)) ∧ isPt (.ptr m23.nxt 0) ∧ ∃ x39, 
 ∃ x40, ((ldA m37 (.ptr m23.nxt 0) 2) = (some [(Il x39), 
 (Il x40)])) ∧ ∃ b41 : Bool, ∃ b42 : Bool, ∃ b43 : Bool, ∃ b44 : Bool, 
 ∃ b45 : Bool, ((ldA m37 (.ptr m0.nxt 0) 5) = (some [(.bool b41), 
 (.bool b42), (.bool b43), (.bool b44), (.bool b45)])) ∧ Wc prog tbl 92 [(.agg 5 [(.bool b41), 
 (.bool b42), (.bool b43), (.bool b44), (.bool b45)]), (.c (Il x22))] m37 (fun v46 m47 => 
 ∃ b48 : Bool, ∃ b49 : Bool, ∃ b50 : Bool, ∃ b51 : Bool, ∃ b52 : Bool, (v46 = (.agg 5 [(.bool b48), 
 (.bool b49), (.bool b50), (.bool b51), (.bool b52)])) ∧ ((ldA m47 (.ptr m23.nxt 0) 2) = (some [(Il x39), 
 (Il x40)])) ∧ (ifB (cmC c38) ((ldC m47 (.ptr cv 0)) = (some c38)) False) ∧ 
 ∃ x53 x54, ((ldA m47 (.ptr m.nxt 0) 2) = (some [(Il x53), 
 (Il x54)])) ∧ ((ldA m37 (.ptr m.nxt 0) 2) = (some [(Il x53), 
 (Il x54)])) ∧ isPt (.ptr m23.nxt 0) ∧ ∃ x55 x56, 
 ((ldA m47 (.ptr m23.nxt 0) 2) = (some [(Il x55), (Il x56)])) ∧ 
 ((ldA m37 (.ptr m23.nxt 0) 2) = (some [(Il x55), (Il x56)])) ∧ 
 Wc prog tbl 101 [(.agg 2 [(Il x53), (Il x54)]), 
 (.agg 2 [(Il x55), (Il x56)])] m47 (fun v57 m58 => 
 ∃ x59, (v57 = (.c (Il x59))) ∧ ((ldA m58 (.ptr m23.nxt 0) 2) = (some [(Il x39), 
 (Il x40)])) ∧ (ifB (cmC c38) ((ldC m58 (.ptr cv 0)) = (some c38)) False) ∧ 
 fitsP .i64 (ln + x59) ∧ callP prog tbl [(.agg 2 [(Il x39), 
 (Il x40)]), (.agg 5 [(.bool b48), (.bool b49), (.bool b50), 
 (.bool b51), (.bool b52)]), (.c (Il (ln + x59)))] c38 m58 (fun v60 m61 => 
 ∃ b62 : Bool, (v60 = (.c (.bool b62))) ∧ ifB (!b62) (Q (.c (.bool false)) m61) (∃ c63 : C, 
 ((ldC m61 (.ptr h2 0)) = (some c63)) ∧ ∃ c64 : C, ((ldC m61 (.ptr h2 0)) = (some c64)) ∧ 
 isSl c64 ∧ fitsP .i64 ((((slLen c64) : Nat) : Int) - (1 : Int)) ∧ ∃ n65 : Nat, 
 ∃ n66 : Nat, (n65 = 0) ∧ (((((slLen c64) : Nat) : Int) - (1 : Int)) = ((n66 : Nat) : Int)) ∧ 
 ∃ c67 : C, ((subC 1 c63 n65 n66) = (some c67)) ∧ ∃ m68 : M, ((stC m61 (.ptr h2 0) 1 [c67]) = (some m68)) ∧ 
 fitsP .i64 (x22 + 1) ∧ R20 [(.c (.bool b21)), (.c (Il (x22 + 1)))] m68)))))) (Q (.c (.bool true)) m23)) → 
 R20 [(.c (.bool b21)), (.c (Il x22))] m23) → R20 [(.c (.bool false)), 
 (.c (Il 0))] m1))) : Wc prog tbl 100 [.agg 2 [Il px, Il py], .agg 5 [.bool l0, .bool l1, .bool l2, .bool l3, .bool l4], .c (Il ln), .c (.ptr k 0), .c (.ptr h2 0), .c (.ptr b 0), .c (.ptr cv 0)] m Q :=
 wc_eq (n := 7) rfl (by kernel_rfl) (by kernel_rfl) h
end
end Go.Proofs.Ytoejeieblichnaa

namespace Go.Proofs.Ytoejeieblichnaa
open _root_.Go.Proofs.Try
open Go.Abs
set_option maxRecDepth 100000
noncomputable section
def flW (k h2 b cv : Nat) : C := .fn (.func 100) [] [.c (.ptr k 0), .c (.ptr h2 0), .c (.ptr b 0), .c (.ptr cv 0)]
structure WkF (f : M) (l k h2 b cv n1 : Nat) (S : Nat → Prop) (m : M) (x : C) (L : List Int) : Prop where
 sb : Sub f m
 kk : Bk m k 1 [.fn (.yield l) [] []]
 cc : Bk m cv 1 [flW k h2 b cv]
 hh : Bk m h2 1 [x]
 wl : Wl m x L
 xx : ∀ b', ownBlk x b' → n1 ≤ b' ∧ ¬ S b' ∧ b' ≠ k ∧ b' ≠ h2 ∧ b' ≠ cv
 ss : ∀ b', S b' → b' ≠ k ∧ b' ≠ h2 ∧ b' ≠ cv ∧ f.g b' = none ∧ f.vw b' = none
 nn : n1 ≤ k ∧ n1 ≤ h2 ∧ n1 ≤ cv ∧ k ≠ h2 ∧ k ≠ cv ∧ h2 ≠ cv
def YW (S : Nat → Prop) (h2 : Nat) (x : C) (b : Nat) : Prop := S b ∨ b = h2 ∨ ownBlk x b
variable {f : M} {l k h2 b cv n1 : Nat}
theorem sub_chg {S : Nat → Prop} {m m' : M} (h : Sub f m) (hc : Chg S m m') (hS : ∀ b', S b' → f.g b' = none ∧ f.vw b' = none) : Sub f m' :=
 ⟨Nat.le_trans h.nxt hc.nxt, hc.vw.trans h.vw, fun b' hb hd => by
  rw [hc.g b' (Nat.lt_of_lt_of_le hb h.nxt) fun hs => hd.elim (fun h1 => h1 (hS b' hs).1) fun h1 => h1 (hS b' hs).2]
  exact h.g b' hb hd⟩
theorem WkF.chg {S S' : Nat → Prop} {m m' : M} {x : C} {L : List Int} (hz : ∀ b, f.nxt ≤ b → f.g b = none) (hv : ∀ b, f.nxt ≤ b → f.vw b = none) (h : WkF f l k h2 b cv n1 S m x L) (hc : Chg S m m') (ho : Own S m S') : WkF f l k h2 b cv n1 S' m' x L := by
 have tr : ∀ {b' j : Nat} {vs : List C}, Bk m b' j vs → ¬ S b' → Bk m' b' j vs := fun hb hS => ⟨(hc.g _ hb.lt hS).trans hb.g, Nat.lt_of_lt_of_le hb.lt hc.nxt⟩
 have h1 := h.kk.lt; have h3 := h.cc.lt; have h4 := h.hh.lt
 refine ⟨sub_chg h.sb hc fun b' hb => (h.ss b' hb).2.2.2, tr h.kk fun hs => (h.ss _ hs).1 rfl, tr h.cc fun hs => (h.ss _ hs).2.2.1 rfl, tr h.hh fun hs => (h.ss _ hs).2.1 rfl, h.wl.to hc.nxt fun b' hb => hc.g b' (h.wl.lt hb) (h.xx b' hb).2.1, fun b' hb => ?_, fun b' hb => ?_, h.nn⟩
 ·obtain ⟨q1, q2, q3⟩ := h.xx b' hb
  have := h.wl.lt hb
  exact ⟨q1, fun hs => (ho b' hs).elim q2 fun h9 => by omega, q3⟩
 ·rcases ho b' hb with hs | hs
  ·exact h.ss b' hs
  ·have := h.sb.nxt
   exact ⟨by omega, by omega, by omega, hz b' (by omega), hv b' (by omega)⟩
theorem WkF.ext {S : Nat → Prop} {m m' : M} {x : C} {L : List Int} (hz : ∀ b, f.nxt ≤ b → f.g b = none) (hv : ∀ b, f.nxt ≤ b → f.vw b = none) (h : WkF f l k h2 b cv n1 S m x L) (e : Ext m m') : WkF f l k h2 b cv n1 S m' x L :=
 h.chg hz hv ⟨e.nxt, fun b' hb _ => e.g b' hb, e.vw⟩ fun b' hb => .inl hb
theorem WkF.mv {S : Nat → Prop} {m m' : M} {x x' : C} {L L' : List Int} (hz : ∀ b, f.nxt ≤ b → f.g b = none) (hv : ∀ b, f.nxt ≤ b → f.vw b = none) (hn1 : f.nxt ≤ n1) (h : WkF f l k h2 b cv n1 S m x L) (hSl : ∀ b', S b' → b' < m.nxt) (hn : m.nxt ≤ m'.nxt) (hw : m'.vw = m.vw) (hg : ∀ b', b' < m.nxt → ¬ ownBlk x b' → m'.g b' = m.g b') (hl : Wl m' x' L') (hx : ∀ b', ownBlk x' b' → ownBlk x b' ∨ m.nxt ≤ b') :
  WkF f l k h2 b cv n1 S (m'.set h2 (.cells 1 [x'] false)) x' L' := by
 have h1 := h.kk.lt; have h3 := h.cc.lt; have h4 := h.hh.lt; have h5 := h.nn; have h6 := h.sb.nxt
 have hk : ∀ {b' j : Nat} {vs : List C}, Bk m b' j vs → b' ≠ h2 → ¬ ownBlk x b' → Bk (m'.set h2 (.cells 1 [x'] false)) b' j vs := fun hb hne ho => ⟨by rw [M.g_set, if_neg hne]; exact (hg _ hb.lt ho).trans hb.g, Nat.lt_of_lt_of_le hb.lt hn⟩
 have xx' : ∀ b', ownBlk x' b' → n1 ≤ b' ∧ ¬ S b' ∧ b' ≠ k ∧ b' ≠ h2 ∧ b' ≠ cv := fun b' hb => by
  rcases hx b' hb with h9 | h9
  ·exact h.xx b' h9
  ·exact ⟨by omega, fun hs => by have := hSl b' hs; omega, by omega, by omega, by omega⟩
 refine ⟨⟨Nat.le_trans h6 hn, hw.trans h.sb.vw, fun b' hb hd => ?_⟩, hk h.kk h5.2.2.2.1 fun ho => (h.xx _ ho).2.2.1 rfl, hk h.cc (Ne.symm h5.2.2.2.2.2) fun ho => (h.xx _ ho).2.2.2.2 rfl, ⟨by rw [M.g_set, if_pos rfl], Nat.lt_of_lt_of_le h4 hn⟩, hl.to (Nat.le_refl _) fun b' hb => by rw [M.g_set, if_neg (xx' b' hb).2.2.2.1], xx', h.ss, h5⟩
 rw [M.g_set, if_neg (by omega), hg b' (Nat.lt_of_lt_of_le hb h6) fun ho => by have := (h.xx b' ho).1; omega]
 exact h.sb.g b' hb hd
theorem chg_tr {Y Y1 : Nat → Prop} {m m1 m2 : M} (h1 : Chg Y m m1) (h2 : Chg Y1 m1 m2) (ho : Own Y m Y1) : Chg Y m m2 :=
 ⟨Nat.le_trans h1.nxt h2.nxt, fun b' hb hY => by
  rw [h2.g b' (Nat.lt_of_lt_of_le hb h1.nxt) fun h3 => (ho b' h3).elim hY fun h4 => by omega]
  exact h1.g b' hb hY, h2.vw.trans h1.vw⟩
theorem own_tr {Y Y1 Y2 : Nat → Prop} {m m1 : M} (h1 : Own Y m Y1) (h2 : Own Y1 m1 Y2) (hn : m.nxt ≤ m1.nxt) : Own Y m Y2 := fun b' hb => (h2 b' hb).elim (h1 b') fun h => .inr (by omega)
theorem own_yw {S S' : Nat → Prop} {m : M} {h2 : Nat} {x x' : C} (h : Own S m S') (hx : ∀ b', ownBlk x' b' → ownBlk x b' ∨ m.nxt ≤ b') : Own (YW S h2 x) m (YW S' h2 x') := fun b' hb => by
 rcases hb with hb | hb | hb
 ·exact (h b' hb).imp .inl id
 ·exact .inl (.inr (.inl hb))
 ·exact (hx b' hb).imp (fun h => .inr (.inr h)) id
theorem chg_sub {S : Nat → Prop} {m m' : M} {h2 : Nat} {x : C} (h : Chg S m m') : Chg (YW S h2 x) m m' := ⟨h.nxt, fun b' hb hY => h.g b' hb fun hs => hY (.inl hs), h.vw⟩
theorem chg_ext {Y : Nat → Prop} {m m' : M} (e : Ext m m') : Chg Y m m' := ⟨e.nxt, fun b' hb _ => e.g b' hb, e.vw⟩
theorem isp_em {α : Type} (g : Nat → List α) (e n : Nat) : rests g (e + 1) n = g n ++ rests g e (n + 1) := rfl
theorem tI27 : tk prog 27 = .sl 3 := by kernel_rfl
theorem tIg : growOk prog 3 = true := by kernel_rfl
theorem tIz : prog.cellsOf 3 = 1 := by kernel_rfl
theorem sWalk {r : Rnd} {cF : C} {n0 : Nat} {all : List (List Int × Int)} {I : Nat → (Nat → Prop) → M → Prop} {E : (Nat → Prop) → M → Prop} (hz : ∀ b, f.nxt ≤ b → f.g b = none) (hv : ∀ b, f.nxt ≤ b → f.vw b = none) (hF : Sl f cF r.Farms)
  (hb : Bk f b 6 [.int .i64 r.Adjusters, .int .i64 r.Last, .int .i64 r.Miles, .int .i64 r.Home.X, .int .i64 r.Home.Y, cF]) (hok : okW r) (hn0 : n0 ≤ n1) (hn1 : f.nxt ≤ n1) (hcl : ClientW prog tbl n0 l (VsW all n1) I E) :
  ∀ (d : Nat) (p : Pt) (s : Set5) (pre : List Int) (ln : Int) (i : Nat) (S : Nat → Prop) (m : M) (x : C) (Q : V → M → Prop), WkF f l k h2 b cv n1 S m x pre → n1 ≤ m.nxt → okP p → 0 ≤ ln → ln ≤ 4000 * (pre.length : Int) → pre.length + caS s ≤ 5 → caS s < d →
   (∀ j L, (walksL r.Home r.Farms d p s pre ln)[j]? = some L → all[i + j]? = some L) → I i S m →
   (∀ S' m' x', Own S m S' → (∀ b', ownBlk x' b' → ownBlk x b' ∨ m.nxt ≤ b') → Chg (YW S h2 x) m m' → WkF f l k h2 b cv n1 S' m' x' pre → I (i + (walksL r.Home r.Farms d p s pre ln).length) S' m' → Q (.c (.bool true)) m') →
   (∀ S' m', Own S m S' → Chg (YW S h2 x) m m' → E S' m' → Q (.c (.bool false)) m') →
   Wc prog tbl 100 [.agg 2 [.int .i64 p.X, .int .i64 p.Y], .agg 5 [.bool s.c0, .bool s.c1, .bool s.c2, .bool s.c3, .bool s.c4], .c (.int .i64 ln), .c (.ptr k 0), .c (.ptr h2 0), .c (.ptr b 0), .c (.ptr cv 0)] m Q := by
 intro d
 induction d with
 | zero => intro p s pre ln i S m x Q _ _ _ _ _ _ h; omega
 | succ d ih =>
 intro p s pre ln i S m x Q hst hnm hp hln0 hln1 hsz hca hxs hI hT hFl
 have hSl := (hcl.li i).lt _ _ hI
 refine w100 _ _ _ _ _ _ _ _ k h2 b cv fun m0 e0 m1 e1 => ?_
 obtain ⟨b0, x0⟩ := Bk.new e0
 obtain ⟨b1, x1⟩ := Bk.new e1
 have nx0 : m0.nxt = m.nxt + 1 := by rw [e0]; rfl
 have nx1 : m1.nxt = m.nxt + 2 := by rw [e1]; show m0.nxt + 1 = _; omega
 have x01 := x0.trans x1
 have b01 := b0.ext x1
 have hst1 := hst.ext hz hv x01
 have hI1 : I i S m1 := (hcl.li i).st _ _ _ hI x01.nxt x01.vw (fun b' hb' => x01.g b' (hSl b' hb')) fun b' hb' => x01.g b' (by omega)
 refine ⟨_, _, _, _, _, b1.ra, ?_⟩
 rw [ifB_iff]
 refine ⟨fun hem => ?_, fun hem => ?_⟩
 ·-- the walk is complete
  have hem : emS s = true := hem
  have hwl : walksL r.Home r.Farms (d + 1) p s pre ln = [(pre, ln + dsP p r.Home)] := by unfold walksL; rw [if_pos hem]
  rw [hwl] at hxs hT
  have hx0 := hxs 0 _ rfl
  rw [Nat.add_zero] at hx0
  have hd := dsP_bd hp hok.2.1
  refine ⟨_, hst1.kk.rc rfl, _, hst1.hh.rc rfl, _, _, b01.ra, trivial, _, _, (hb.sub hst1.sb).rp (k := 3) (j := 2) rfl (by omega), ?_⟩
  refine s_distance (p := p) (q := r.Home) ⟨hst1.sb, hz, hv⟩ (dist_eq hp hok.2.1) fun m14 e14 => ?_
  have hst2 := hst1.ext hz hv e14
  have hcx : cmC x = true := cmC_of hst2.wl.sl.1.noFn
  refine ⟨_, rfl, by rw [hcx]; exact hst2.hh.rc rfl, hst2.kk.rc rfl, fitsN (by omega) (by omega), ?_⟩
  have hI2 : I i S m14 := (hcl.li i).st _ _ _ hI1 e14.nxt e14.vw (fun b' hb' => e14.g b' (by have := hSl b' hb'; omega)) fun b' hb' => e14.g b' (by omega)
  have x014 := x01.trans e14
  show Wy prog tbl l [.c x, .c (.int .i64 (ln + dsP p r.Home))] m14 _
  refine hcl.yield i _ S m14 ⟨(pre, ln + dsP p r.Home), ownBlk x, hx0, ⟨x, rfl, hst2.wl.sl⟩, fun b' hb' => ⟨(hst2.xx b' hb').1, (hst2.xx b' hb').2.1, hst2.wl.lt hb'⟩⟩ hI2 _ (fun S' m' ho hch hI' => ⟨_, rfl, ?_⟩) fun S' m' ho hch hE => ⟨_, rfl, ?_⟩
  ·exact hT S' m' x (fun b' hb' => (ho b' hb').imp id fun h => Nat.le_trans x014.nxt h) (fun b' hb' => .inl hb') (chg_tr (chg_ext x014) (chg_sub hch) fun b' hb' => .inl hb') (hst2.chg hz hv hch ho) hI'
  ·exact hFl S' m' (fun b' hb' => (ho b' hb').imp id fun h => Nat.le_trans x014.nxt h) (chg_tr (chg_ext x014) (chg_sub hch) fun b' hb' => .inl hb') hE
 ·have hem : ¬ emS s = true := fun h => by have h' : emS s = false := hem; rw [h] at h'; cases h'
  have hcr : (hb.sub hst1.sb) = (hb.sub hst1.sb) := rfl
  refine ⟨trivial, cF, (hb.sub hst1.sb).rc rfl, hF.isSl, fun R20 hstep => ?_⟩
  let g : Nat → List (List Int × Int) := fun i => match r.Farms[i]? with | some q => (if (sB s)[i]? = some true then walksL r.Home r.Farms d q.At (woS s (i : Int)) (pre ++ [(i : Int)]) (ln + dsP p q.At) else []) | none => []
  have hwl : walksL r.Home r.Farms (d + 1) p s pre ln = rests g r.Farms.length 0 := by
   show (if emS s = true then _ else rests g r.Farms.length 0) = _
   rw [if_neg hem]
  rw [hwl] at hxs hT
  have hgo : ∀ (e n : Nat) (b7 : Bool) (m9 : M) (S1 : Nat → Prop) (x9 : C) (i1 : Nat), n + e = r.Farms.length → Own S m1 S1 → (∀ b', ownBlk x9 b' → ownBlk x b' ∨ m1.nxt ≤ b') → Chg (YW S h2 x) m1 m9 → WkF f l k h2 b cv n1 S1 m9 x9 pre → I i1 S1 m9 →
    i1 + (rests g e n).length = i + (rests g r.Farms.length 0).length → (∀ j L, (rests g e n)[j]? = some L → all[i1 + j]? = some L) → R20 [.c (.bool b7), .c (.int .i64 (n : Int))] m9 := by
   intro e
   induction e with
   | zero =>
    intro n b7 m9 S1 x9 i1 hen ho hox hch hst9 hI9 hlen hxs1
    refine hstep _ _ _ ?_
    rw [hF.slLen, ifB_dec]
    refine ⟨fun h1 => by omega, fun _ => hT S1 m9 x9 (fun b' hb' => (ho b' hb').imp id fun h => Nat.le_trans x01.nxt h) (fun b' hb' => (hox b' hb').imp id fun h => Nat.le_trans x01.nxt h) (chg_tr (chg_ext x01) hch fun b' hb' => .inl hb') hst9 ?_⟩
    have h9 : i1 + 0 = _ := hlen
    rw [← h9, Nat.add_zero]; exact hI9
   | succ e ihe =>
    intro n b7 m9 S1 x9 i1 hen ho hox hch hst9 hI9 hlen hxs1
    have hn5 : n < 5 := by have := hok.1; omega
    have hSl9 := (hcl.li i1).lt _ _ hI9
    have hown9 : Own (YW S h2 x) m1 (YW S1 h2 x9) := own_yw ho hox
    -- the two blocks of this call
    have hY0 : ∀ b', m.nxt ≤ b' → b' < m1.nxt → ¬ YW S h2 x b' := fun b' h1 h3 h4 => by
     have h5 := hst.hh.lt
     rcases h4 with h4 | h4 | h4
     ·have := hSl b' h4; omega
     ·omega
     ·have := hst.wl.lt h4; omega
    have k0 : Bk m9 m.nxt 2 [.int .i64 p.X, .int .i64 p.Y] := ⟨(hch.g _ b01.lt (hY0 _ (by omega) (by omega))).trans b01.g, Nat.lt_of_lt_of_le b01.lt hch.nxt⟩
    have k1 : Bk m9 m0.nxt 5 [.bool s.c0, .bool s.c1, .bool s.c2, .bool s.c3, .bool s.c4] := ⟨(hch.g _ b1.lt (hY0 _ (by omega) (by omega))).trans b1.g, Nat.lt_of_lt_of_le b1.lt hch.nxt⟩
    have hc9 := hch.nxt
    refine hstep _ _ _ ?_
    rw [hF.slLen, ifB_dec]
    refine ⟨fun _ => ?_, fun h1 => absurd (by omega) h1⟩
    have hnf : n < r.Farms.length := by omega
    have hq : r.Farms[n]? = some r.Farms[n] := List.getElem?_eq_getElem hnf
    have hqm : okP r.Farms[n].At := hok.2.2 _ (List.getElem_mem hnf)
    generalize r.Farms[n] = q at hq hqm
    obtain ⟨_, hrd⟩ := rd_Frm hF hq
    refine ⟨n, rfl, hnf, _, _, _, _, (hrd m9 hst9.sb).1, fun m29 e29 => ?_⟩
    obtain ⟨b29, x29⟩ := Bk.new e29
    have n29 : m29.nxt = m9.nxt + 1 := by rw [e29]; rfl
    refine ⟨_, b29.st _, trivial, n, rfl, hn5, ?_⟩
    have k4 := b29.set [.int .i64 q.At.X, .int .i64 q.At.Y, .int .i64 q.Days.Lo, .int .i64 q.Days.Hi]
    have x30 : Ext m9 (m29.set m9.nxt (.cells 4 [.int .i64 q.At.X, .int .i64 q.At.Y, .int .i64 q.Days.Lo, .int .i64 q.Days.Hi] false)) := x29.setR (Nat.le_refl _) _
    have n30 : (m29.set m9.nxt (.cells 4 [.int .i64 q.At.X, .int .i64 q.At.Y, .int .i64 q.Days.Lo, .int .i64 q.Days.Hi] false)).nxt = m9.nxt + 1 := n29
    generalize m29.set m9.nxt (.cells 4 [.int .i64 q.At.X, .int .i64 q.At.Y, .int .i64 q.Days.Lo, .int .i64 q.Days.Hi] false) = m30 at k4 x30 n30 ⊢
    have hst30 := hst9.ext hz hv x30
    have hI30 : I i1 S1 m30 := (hcl.li i1).st _ _ _ hI9 x30.nxt x30.vw (fun b' hb' => x30.g b' (hSl9 b' hb')) fun b' hb' => x30.g b' (by omega)
    have hch30 : Chg (YW S h2 x) m1 m30 := chg_tr hch (chg_ext (Y := YW S1 h2 x9) x30) hown9
    have hlv : n < (sB s).length := hn5
    have hvq : (sB s)[n]? = some (sB s)[n] := List.getElem?_eq_getElem hlv
    generalize (sB s)[n] = v at hvq
    refine ⟨v, (k1.ext x30).rc (k := 0 + n * 1) ?_, ?_⟩
    ·rw [show 0 + n * 1 = n by omega]
     show ((sB s).map C.bool)[n]? = _
     rw [List.getElem?_map, hvq]; rfl
    have hge := isp_em g e n
    have hgn : g n = if (sB s)[n]? = some true then walksL r.Home r.Farms d q.At (woS s (n : Int)) (pre ++ [(n : Int)]) (ln + dsP p q.At) else [] := by
     show (match r.Farms[n]? with | some q => _ | none => _) = _
     rw [hq]
    cases v with
    | false =>
     have hg0 : g n = [] := by rw [hgn, hvq]; rfl
     rw [hge, hg0, List.nil_append] at hlen hxs1
     exact ifB_t' ⟨fitsN (by omega) (by omega), ihe (n + 1) b7 m30 S1 x9 i1 (by omega) ho hox hch30 hst30 hI30 hlen hxs1⟩
    | true =>
     have hg1 : g n = walksL r.Home r.Farms d q.At (woS s (n : Int)) (pre ++ [(n : Int)]) (ln + dsP p q.At) := by rw [hgn, hvq, if_pos rfl]
     rw [hge, hg1] at hlen hxs1
     rw [List.length_append] at hlen
     have hcw := caS_wo hvq
     have hd := dsP_bd hp hqm
     refine ifB_f' ⟨x9, hst30.hh.rc rfl, fun m34 e34 => ?_⟩
     obtain ⟨c35, m36, a1, a2, a3, a4, a5, a6⟩ := hst30.wl.app (P := prog) tI27 tIg tIz (n : Int) (by omega) e34
     have hS30 : ∀ b', S1 b' → b' < m30.nxt := fun b' hb' => by have := hSl9 b' hb'; omega
     have hst37 := hst30.mv hz hv hn1 hS30 a4 a5 a6 a2 a3
     have hb36 : Bk m36 h2 1 [x9] := ⟨(a6 _ hst30.hh.lt fun ho' => (hst30.xx _ ho').2.2.2.1 rfl).trans hst30.hh.g, Nat.lt_of_lt_of_le hst30.hh.lt a4⟩
     refine ⟨c35, m36, a1, _, hb36.st _, ?_⟩
     have hh2 := hst30.hh.lt
     have hg37 : ∀ b', b' < m30.nxt → ¬ ownBlk x9 b' → b' ≠ h2 → (m36.set h2 (.cells 1 [c35] false)).g b' = m30.g b' := fun b' hb' hno hne => by
      rw [M.g_set, if_neg hne]; exact a6 b' hb' hno
     have n37 : m30.nxt ≤ (m36.set h2 (.cells 1 [c35] false)).nxt := a4
     have v37 : (m36.set h2 (.cells 1 [c35] false)).vw = m30.vw := a5
     generalize m36.set h2 (.cells 1 [c35] false) = m37 at hst37 hg37 n37 v37 ⊢
     have hch37 : Chg (YW S h2 x) m1 m37 := chg_tr hch30 (Y1 := YW S1 h2 x9) ⟨n37, fun b' hb' hY => hg37 b' hb' (fun h => hY (.inr (.inr h))) fun h => hY (.inr (.inl h)), v37⟩ (own_yw ho hox)
     have hox37 : ∀ b', ownBlk c35 b' → ownBlk x b' ∨ m1.nxt ≤ b' := fun b' hb' => (a3 b' hb').elim (hox b') fun h => .inr (by have := x30.nxt; omega)
     have hno9 : ∀ b', m1.nxt ≤ b' ∨ (m.nxt ≤ b' ∧ b' < m1.nxt) → b' < m30.nxt → (¬ ownBlk x9 b' ∧ b' ≠ h2) → True := fun _ _ _ _ => trivial
     -- blocks of this round in later memories
     have own0 : ∀ b', (b' = m.nxt ∨ b' = m0.nxt) → ¬ ownBlk x9 b' ∧ b' ≠ h2 ∧ ¬ S1 b' ∧ ¬ ownBlk c35 b' := fun b' hb' => by
      have h5 := hst.hh.lt
      refine ⟨fun h => ?_, by omega, fun h => ?_, fun h => ?_⟩
      ·rcases hox b' h with h | h
       ·have := hst.wl.lt h; omega
       ·omega
      ·rcases ho b' h with h | h
       ·have := hSl b' h; omega
       ·omega
      ·rcases hox37 b' h with h | h
       ·have := hst.wl.lt h; omega
       ·omega
     have own9 : ¬ ownBlk x9 m9.nxt ∧ m9.nxt ≠ h2 ∧ ¬ S1 m9.nxt ∧ ¬ ownBlk c35 m9.nxt := by
      have h5 := hst9.hh.lt
      refine ⟨fun h => by have := hst9.wl.lt h; omega, by omega, fun h => by have := hSl9 _ h; omega, fun h => ?_⟩
      rcases a3 _ h with h | h
      ·have := hst9.wl.lt h; omega
      ·omega
     have tr37 : ∀ {b' j : Nat} {vs : List C}, Bk m30 b' j vs → ¬ ownBlk x9 b' → b' ≠ h2 → Bk m37 b' j vs := fun hb' h h' => ⟨(hg37 _ hb'.lt h h').trans hb'.g, Nat.lt_of_lt_of_le hb'.lt n37⟩
     have p0 := tr37 (k0.ext x30) (own0 _ (.inl rfl)).1 (own0 _ (.inl rfl)).2.1
     have p1 := tr37 (k1.ext x30) (own0 _ (.inr rfl)).1 (own0 _ (.inr rfl)).2.1
     have p4 := tr37 k4 own9.1 own9.2.1
     have hI37 : I i1 S1 m37 := (hcl.li i1).st _ _ _ hI30 n37 v37 (fun b' hb' => hg37 b' (hS30 b' hb') (fun h => (hst30.xx b' h).2.1 hb') (hst30.ss b' hb').2.1) fun b' hb' => hg37 b' (by omega) (fun h => by have := (hst30.xx b' h).1; omega) (by have := hst30.nn.2.1; omega)
     refine ⟨_, hst37.cc.rc rfl, trivial, _, _, p4.rp (k := 0) (j := 2) rfl (by omega), _, _, _, _, _, p1.ra, ?_⟩
     refine s_without (s := s) (farm := (n : Int)) ⟨hst37.sb, hz, hv⟩ (woS_eq hn5) fun m47 e47 => ?_
     have hst47 := hst37.ext hz hv e47
     refine ⟨_, _, _, _, _, rfl, (p4.ext e47).rp (k := 0) (j := 2) rfl (by omega), hst47.cc.rc rfl, _, _, (p0.ext e47).ra, p0.ra, trivial, _, _, (p4.ext e47).rp (k := 0) (j := 2) rfl (by omega), p4.rp (k := 0) (j := 2) rfl (by omega), ?_⟩
     refine s_distance (p := p) (q := q.At) ⟨hst47.sb, hz, hv⟩ (dist_eq hp hqm) fun m58 e58 => ?_
     have hst58 := hst47.ext hz hv e58
     have x58 := e47.trans e58
     have n58 := x58.nxt
     refine ⟨_, rfl, (p4.ext x58).rp (k := 0) (j := 2) rfl (by omega), hst58.cc.rc rfl, fitsN (by omega) (by omega), ?_⟩
     have hI58 : I i1 S1 m58 := (hcl.li i1).st _ _ _ hI37 x58.nxt x58.vw (fun b' hb' => x58.g b' (by have := hS30 b' hb'; omega)) fun b' hb' => x58.g b' (by omega)
     have hch58 : Chg (YW S h2 x) m1 m58 := chg_tr hch37 (chg_ext (Y := YW S1 h2 c35) x58) (own_yw ho hox37)
     show Wc prog tbl 100 [.agg 2 [.int .i64 q.At.X, .int .i64 q.At.Y], .agg 5 [.bool (woS s (n : Int)).c0, .bool (woS s (n : Int)).c1, .bool (woS s (n : Int)).c2, .bool (woS s (n : Int)).c3, .bool (woS s (n : Int)).c4], .c (.int .i64 (ln + dsP p q.At)), .c (.ptr k 0), .c (.ptr h2 0), .c (.ptr b 0), .c (.ptr cv 0)] m58 _
     have hpl : (pre ++ [(n : Int)]).length = pre.length + 1 := by rw [List.length_append]; rfl
     refine ih q.At (woS s (n : Int)) (pre ++ [(n : Int)]) (ln + dsP p q.At) i1 S1 m58 c35 _ hst58 (by omega) hqm (by omega) (by rw [hpl]; omega) (by rw [hpl]; omega) (by omega) (fun j L hj => hxs1 j L (by rw [List.getElem?_append_left (List.getElem?_eq_some_iff.1 hj).1]; exact hj)) hI58 (fun S2 m61 x2 ho2 hox2 hch2 hst61 hI61 => ⟨_, rfl, ?_⟩) fun S2 m61 ho2 hch2 hE => ⟨_, rfl, ?_⟩
     ·refine ifB_f' ?_
      obtain ⟨c67, hc, hw67, hox67⟩ := hst61.wl.cut
      have hl2 := hst61.wl.len
      rw [hpl] at hl2
      refine ⟨_, hst61.hh.rc rfl, _, hst61.hh.rc rfl, hst61.wl.isSl, fitsN (by omega) (by omega), 0, pre.length, rfl, by omega, c67, hc, _, hst61.hh.st _, fitsN (by omega) (by omega), ?_⟩
      have hSl61 := (hcl.li _).lt _ _ hI61
      have ho61 : Own S m1 S2 := own_tr ho ho2 (by omega)
      have hox61 : ∀ b', ownBlk x2 b' → ownBlk x b' ∨ m1.nxt ≤ b' := fun b' hb' => (hox2 b' hb').elim (hox37 b') fun h => .inr (by omega)
      have hch61 : Chg (YW S h2 x) m1 m61 := chg_tr hch58 hch2 (own_yw ho hox37)
      have hst68 := hst61.mv hz hv hn1 hSl61 (Nat.le_refl _) rfl (fun _ _ _ => rfl) hw67 fun b' hb' => .inl (hox67 b' hb')
      have hI68 : I (i1 + (walksL r.Home r.Farms d q.At (woS s (n : Int)) (pre ++ [(n : Int)]) (ln + dsP p q.At)).length) S2 (m61.set h2 (.cells 1 [c67] false)) := (hcl.li _).st _ _ _ hI61 (Nat.le_refl _) rfl (fun b' hb' => by rw [M.g_set, if_neg (hst61.ss b' hb').2.1]) fun b' hb' => by rw [M.g_set, if_neg (by have := hst61.nn.2.1; omega)]
      have hch68 : Chg (YW S h2 x) m1 (m61.set h2 (.cells 1 [c67] false)) := chg_tr hch61 (Y1 := YW S2 h2 x2) ⟨Nat.le_refl _, fun b' _ hY => by rw [M.g_set, if_neg fun h => hY (.inr (.inl h))], rfl⟩ (own_yw ho61 hox61)
      refine ihe (n + 1) b7 _ S2 c67 _ (by omega) ho61 (fun b' hb' => hox61 b' (hox67 b' hb')) hch68 hst68 hI68 (by omega) fun j L hj => ?_
      rw [Nat.add_assoc]
      exact hxs1 _ L (by rw [List.getElem?_append_right (by omega), Nat.add_sub_cancel_left]; exact hj)
     ·refine ifB_t' ?_
      have ho61 : Own S m1 S2 := own_tr ho ho2 (by omega)
      have hch61 : Chg (YW S h2 x) m1 m61 := chg_tr hch58 hch2 (own_yw ho hox37)
      exact hFl S2 m61 (fun b' hb' => (ho61 b' hb').imp id fun h => Nat.le_trans x01.nxt h) (chg_tr (chg_ext x01) hch61 fun b' hb' => .inl hb') hE
  exact hgo r.Farms.length 0 false m1 S x i (by omega) (fun b' hb' => .inl hb') (fun b' hb' => .inl hb') ⟨Nat.le_refl _, fun _ _ _ => rfl, rfl⟩ hst1 hI1 rfl hxs
end
end Go.Proofs.Ytoejeieblichnaa

namespace Go.Proofs.Ytoejeieblichnaa
open _root_.Go.Proofs.Try
open Go.Abs
set_option maxRecDepth 100000
noncomputable section
theorem s_walksI {r : Rnd} {s : Set5} {cF : C} {f : M} {b b2 : Nat} (hF : Sl f cF r.Farms) (hb : Bk f b 6 [Il r.Adjusters, Il r.Last, Il r.Miles, Il r.Home.X, Il r.Home.Y, cF]) (hb2 : Bk f b2 5 [.bool s.c0, .bool s.c1, .bool s.c2, .bool s.c3, .bool s.c4]) (hok : okW r)
    (n0 l : Nat) (I : Nat → (Nat → Prop) → M → Prop) (E : (Nat → Prop) → M → Prop) (S : Nat → Prop) (m : M) (hc : ClientW prog tbl n0 l (VsW (walksL r.Home r.Farms 6 r.Home s [] 0) m.nxt) I E) (hn : n0 ≤ m.nxt) (hI : I 0 S m) (hS : Pre f m) (hSf : ∀ b, S b → f.g b = none ∧ f.vw b = none) (Q : V → M → Prop)
    (hQ : ∀ v S' m', Own S m S' → Chg S m m' → I (walksL r.Home r.Farms 6 r.Home s [] 0).length S' m' ∨ E S' m' → Q v m') : Wc prog tbl 99 [.c (.fn (.yield l) [] []), .c (.ptr b 0), .c (.ptr b2 0)] m Q := by
 have hSl := (hc.li 0).lt _ _ hI
 refine w99 _ b b2 fun d q a t n u => ?_
 obtain ⟨B, D⟩ := Bk.new q
 obtain ⟨F, w⟩ := Bk.new t
 obtain ⟨x, o⟩ := Bk.new u
 have N : d.nxt = m.nxt + 1 := by rw [q]; rfl
 have O : a.nxt = m.nxt + 2 := by rw [t]; show d.nxt + 1 = _; omega
 have G : n.nxt = m.nxt + 3 := by rw [u]; show a.nxt + 1 = _; omega
 refine ⟨n.set a.nxt (.cells 1 [flW m.nxt d.nxt b a.nxt] false), x.st _, ?_⟩
 have p := x.set [flW m.nxt d.nxt b a.nxt]
 have e : Ext m (n.set a.nxt (.cells 1 [flW m.nxt d.nxt b a.nxt] false)) := ((D.trans w).trans o).setR (by omega) _
 have y := ((B.ext w).ext o).setNe (c := a.nxt) (by omega) (.cells 1 [flW m.nxt d.nxt b a.nxt] false)
 have z := (F.ext o).setNe (c := a.nxt) (by omega) (.cells 1 [flW m.nxt d.nxt b a.nxt] false)
 have J : (n.set a.nxt (.cells 1 [flW m.nxt d.nxt b a.nxt] false)).nxt = m.nxt + 3 := G
 generalize n.set a.nxt (.cells 1 [flW m.nxt d.nxt b a.nxt] false) = i at p e y z J ⊢
 have hsb : Sub f i := sub_chg hS.sub (chg_ext (Y := fun _ => False) e) fun _ h => h.elim
 have hf := hS.sub.nxt
 refine ⟨_, p.rc rfl, trivial, _, _, (hb.sub hsb).rp (k := 3) (j := 2) rfl (by omega), _, _, _, _, _, (hb2.sub hsb).ra, ?_⟩
 show Wc prog tbl 100 [.agg 2 [Il r.Home.X, Il r.Home.Y], .agg 5 [.bool s.c0, .bool s.c1, .bool s.c2, .bool s.c3, .bool s.c4], .c (Il 0), .c (.ptr m.nxt 0), .c (.ptr d.nxt 0), .c (.ptr b 0), .c (.ptr a.nxt 0)] i _
 have hst : WkF f l m.nxt d.nxt b a.nxt m.nxt S i .sl0 [] := ⟨hsb, y, p, z, .nil _, fun b' ⟨_, _, _, _, h⟩ => (by cases h), fun b' hb' => by
  have := hSl b' hb'
  exact ⟨by omega, by omega, by omega, hSf b' hb'⟩, by omega⟩
 have hca : caS s ≤ 5 := List.count_le_length
 have A : I 0 S i := (hc.li 0).st _ _ _ hI e.nxt e.vw (fun b' hb' => e.g b' (hSl b' hb')) fun b' hb' => e.g b' (by omega)
 have fin : ∀ {m' : M}, Chg (YW S d.nxt .sl0) i m' → Chg S m m' := fun {m'} h => ⟨Nat.le_trans e.nxt h.nxt, fun b' hb' hs => by
  rw [h.g b' (by omega) fun hY => by
   rcases hY with hY | hY | ⟨_, _, _, _, hY⟩
   ·exact hs hY
   ·omega
   ·cases hY]
  exact e.g b' hb', h.vw.trans e.vw⟩
 refine sWalk hS.fz hS.fv hF hb hok hn hf hc 6 r.Home s [] 0 0 S i .sl0 _ hst (by omega) hok.2.1 (Int.le_refl _) (by show (0 : Int) ≤ 4000 * 0; omega) (by show 0 + caS s ≤ 5; omega) (by omega) (fun j L hj => by rw [Nat.zero_add]; exact hj) A (fun S' m' x' ho _ hch _ hI' => ⟨_, rfl, ?_⟩) fun S' m' ho hch hE => ⟨_, rfl, ?_⟩
 ·rw [Nat.zero_add] at hI'
  exact hQ _ S' m' (fun b' hb' => (ho b' hb').imp id fun h => by omega) (fin hch) (.inl hI')
 ·exact hQ _ S' m' (fun b' hb' => (ho b' hb').imp id fun h => by omega) (fin hch) (.inr hE)
theorem s_walks {r : Rnd} {s : Set5} {ca105 : C} {m f : M} {Q : V → M → Prop} {rz : List (List Int × Int)} (hS : Pre f m) (ha105 : Sl f ca105 r.Farms) (hp : pwalks r s = some rz) (hq : ∀ m' f' c0, Grw m f m' f' → ItW prog tbl f' c0 rz → Q (.c c0) m') : Wc prog tbl 83 [.agg 6 [(Il r.Adjusters), (Il r.Last), (Il r.Miles), (Il r.Home.X), (Il r.Home.Y), ca105], .agg 5 [(.bool s.c0), (.bool s.c1), (.bool s.c2), (.bool s.c3), (.bool s.c4)]] m Q := by
 have j := hS.st
 obtain ⟨l, _⟩ : ∃ τ : Nat → Nat, True := ⟨fun _ => 0, trivial⟩
 refine w83 ?_
 unfold pwalks at hp
 intro n o
 obtain ⟨p, q, y, a⟩ := j.blk o l 1
 intro z t
 obtain ⟨A, u, w, b⟩ := q.blk t p 2
 have a := a.k w
 obtain ⟨B, S3, e, hb⟩ := a.freeze u
 have b := b.k e
 obtain ⟨g, d, h, i⟩ := b.freeze S3
 obtain ⟨hok, hp⟩ := gd_some hp
 obtain rfl := Option.some.inj hp
 have hI : ItW prog tbl g (C.fn (Fn.func 99) [] [(W.c (C0.ptr m.nxt 0)), (W.c (C0.ptr n.nxt 0))]) (walksL r.Home r.Farms 6 r.Home s [] 0) :=
  it_ofW d.fz d.fv fun x ly I E S m' hc hn hI hP hSf Q hQ => s_walksI ((ha105.sub e.fs).sub h.fs) (hb.sub h.fs) i hok x ly I E S m' hc hn hI hP hSf Q hQ
 exact hq _ g _ d.grw hI
end
end Go.Proofs.Ytoejeieblichnaa

namespace Go.Proofs.Ytoejeieblichnaa
open _root_.Go.Proofs.Try
open Go.Abs
set_option maxRecDepth 100000
noncomputable section
theorem kl98 : KL prog 98 Set5 := kl_agg (n := 5) (ks := [.bool, .bool, .bool, .bool, .bool]) (by kernel_rfl) (by kernel_rfl) (cs := fun k => [.bool k.c0, .bool k.c1, .bool k.c2, .bool k.c3, .bool k.c4]) (fun _ => rfl) fun a b fa fb => ⟨_, _, (eqKs_cons eqK_b (eqKs_cons eqK_b (eqKs_cons eqK_b (eqKs_cons eqK_b (eqKs_cons eqK_b eqKs_nil))))), ⟨fun h => by obtain ⟨ac0, ac1, ac2, ac3, ac4⟩ := a; obtain ⟨bc0, bc1, bc2, bc3, bc4⟩ := b; simp_all, fun h => by subst h; exact ⟨rfl, rfl, rfl, rfl, rfl, trivial⟩⟩⟩
theorem s_open {r : Rnd} {ca105 : C} {m f : M} {Q : V → M → Prop} {rz : Wk × Int} (hS : Pre f m) (ha105 : Sl f ca105 r.Farms) (hp : popen r = some rz) (hq : ∀ m' f' c5 c11, Grw m f m' f' → Sl f' c5 rz.1.r.Farms → Mn m f' m' c11 rz.1.lengths → Q (.tup [.agg 12 [(Il rz.1.r.Adjusters), (Il rz.1.r.Last), (Il rz.1.r.Miles), (Il rz.1.r.Home.X), (Il rz.1.r.Home.Y), c5, (.bool rz.1.all.c0), (.bool rz.1.all.c1), (.bool rz.1.all.c2), (.bool rz.1.all.c3), (.bool rz.1.all.c4), c11], .c (Il rz.2)]) m') : Wc prog tbl 58 [.agg 6 [(Il r.Adjusters), (Il r.Last), (Il r.Miles), (Il r.Home.X), (Il r.Home.Y), ca105]] m Q := by
 have S0 := hS.st
 obtain ⟨τ0, _⟩ : ∃ τ : Nat → Nat, True := ⟨fun _ => 0, trivial⟩
 refine w58 ?_
 unfold popen at hp
 intro m0 da
 obtain ⟨ea, fa, eb, ga⟩ := S0.blk da τ0 1
 intro m1 ha
 obtain ⟨z, O, ia, ja⟩ := fa.blk ha ea 2
 have P := ga.k ia
 refine ⟨_, _, _, _, _, _, P.bk.ra, ?_⟩
 obtain ⟨fb, ka, hp⟩ := bsome hp
 refine s_check (r := r) O.pre ha105 ka fun A la => ?_
 obtain ⟨S, T⟩ := O.call la z
 have Z := P.k T
 have aa := ja.k T
 refine ⟨_, rfl, ?_⟩
 refine ifnd hp (fun ma hp => ?_) fun ma hp => ?_
 ·obtain ⟨na, oa, pa, gb, qa⟩ := aa.sto S [(Il 0), (Il 0), (Il 0), (Il 0), (Il 0), .sl0, (.bool false), (.bool false), (.bool false), (.bool false), (.bool false), C.map0]
  refine ⟨na, oa, ?_⟩
  refine ⟨_, _, _, _, _, _, _, _, _, _, _, _, qa.bk.ra, ?_⟩
  obtain rfl := Option.some.inj hp
  exact hq _ f .sl0 .map0 pa.grw (Sl.nil _) (Mo.nil _ _ z _ 0).mn
 refine ⟨_, _, _, _, _, _, Z.bk.ra, ?_⟩
 intro Ya sa
 obtain ⟨ta, ua, ba, va⟩ := Mo.new (K := Set5) (V' := Int) S sa z 3
 have wa := Z.k ba
 have xa := aa.k ba
 intro hb ya
 obtain ⟨za, Aa, B, Ba⟩ := ua.blk ya ta 4
 have Ca := wa.k B
 have Da := xa.k B
 have Ea := va.k B
 obtain ⟨Fa, Ga, Ha, D, t⟩ := Ba.sto Aa [(Il r.Adjusters), (Il r.Last), (Il r.Miles), (Il r.Home.X), (Il r.Home.Y), ca105, (.bool false), (.bool false), (.bool false), (.bool false), (.bool false), (.map A.nxt)]
 have u := Ca.k D
 have w := Da.k D
 have x := Ea.k D
 refine ⟨Fa, Ga, ?_⟩
 refine ⟨trivial, _, u.bk.rc rfl, ha105.isSl, ?_⟩
 intro Za Ia
 have hgo : ∀ (y : Nat) (q : Int) (a : Int) (b : Int) (d : Int) (e : Int) (g : Int) (h : Bool) (i : Bool) (j : Bool) (n : Bool) (o : Bool) (s : M) (p : Nat → Nat), St (Fm.of m) f f s → Lb (Fm.of m) f p s 1 m.nxt 6 [(Il r.Adjusters), (Il r.Last), (Il r.Miles), (Il r.Home.X), (Il r.Home.Y), ca105] → Lb (Fm.of m) f p s 2 m0.nxt 12 [(Il 0), (Il 0), (Il 0), (Il 0), (Il 0), .sl0, (.bool false), (.bool false), (.bool false), (.bool false), (.bool false), C.map0] → Lb (Fm.of m) f p s 4 Ya.nxt 12 [(Il a), (Il b), (Il d), (Il e), (Il g), ca105, (.bool h), (.bool i), (.bool j), (.bool n), (.bool o), (.map A.nxt)] → Mo (Fm.of m) f p s 3 (.map A.nxt) (some fun _ => none : Option (Set5 → Option (Int))) → popen_L0 r y a b d e g h i j n o q = some rz → Za [.c (Il q)] s := by
  intro y
  induction y with
  | zero => intro q a b d e g h i j n o s p F u w t x hp; cases hp
  | succ y ca =>
   intro q a b d e g h i j n o s p F u w t x hp
   refine Ia _ _ ?_
   rw [popen_L0] at hp
   try rw [ha105.slLen]
   refine ifd hp (fun Ja hp => ?_) fun Ja hp => ?_; rotate_left
   ·refine ⟨_, _, _, _, _, _, _, _, _, _, _, _, t.bk.ra, ?_⟩
    obtain ⟨Ka, La, Ma, Na, Oa⟩ := w.sto F [(Il a), (Il b), (Il d), (Il e), (Il g), ca105, (.bool h), (.bool i), (.bool j), (.bool n), (.bool o), (.map A.nxt)]
    have Pa := x.k Na
    refine ⟨Ka, La, ?_⟩
    refine ⟨_, _, _, _, _, _, _, _, _, _, _, _, Oa.bk.ra, ?_⟩
    obtain rfl := Option.some.inj hp
    exact hq _ f ca105 (.map A.nxt) Ma.grw ha105 Pa.mn
   refine ⟨trivial, trivial, ?_⟩
   obtain ⟨Qa, hp⟩ := gd_some hp
   obtain ⟨ab, J, N⟩ := arr_no Qa
   refine ⟨ab, J, N, ?_⟩
   obtain ⟨Ra, Sa, Ta, G, I⟩ := t.sta F (pre := [(Il a), (Il b), (Il d), (Il e), (Il g), ca105]) (post := [(.map A.nxt)]) (l := ([h, i, j, n, o] : List Bool)) (enc := C.bool) rfl rfl J N true
   replace I : Lb _ _ _ _ _ _ _ [(Il a), (Il b), (Il d), (Il e), (Il g), ca105, (.bool (sti q 0 true h)), (.bool (sti q 1 true i)), (.bool (sti q 2 true j)), (.bool (sti q 3 true n)), (.bool (sti q 4 true o)), (.map A.nxt)] := I
   have Ua := u.k G
   have Va := w.k G
   have Wa := x.k G
   refine ⟨Ra, Sa, ?_⟩
   refine gdi hp fun Xa hp => ?_
   exact ca _ _ _ _ _ _ _ _ _ _ _ _ p Ta Ua Va I Wa hp
 exact hgo _ _ _ _ _ _ _ _ _ _ _ _ _ za Ha u w t x hp
theorem s_length {w : Wk} {s : Set5} {ca105 ca111 : C} {m f : M} {Q : V → M → Prop} {rz : Int × Option (Set5 → Option (Int))} (hS : Pre f m) (ha105 : Sl f ca105 w.r.Farms) (ha111 : Mc f m ca111 w.lengths) (hp : plength w s = some rz) (hq : ∀ m', ExtB ca111 m m' → Mi m' ca111 rz.2 → Q (.c (Il rz.1)) m') : Wc prog tbl 82 [.agg 12 [(Il w.r.Adjusters), (Il w.r.Last), (Il w.r.Miles), (Il w.r.Home.X), (Il w.r.Home.Y), ca105, (.bool w.all.c0), (.bool w.all.c1), (.bool w.all.c2), (.bool w.all.c3), (.bool w.all.c4), ca111], .agg 5 [(.bool s.c0), (.bool s.c1), (.bool s.c2), (.bool s.c3), (.bool s.c4)]] m Q := by
 have S0 := hS.stM ha111
 obtain ⟨τ0, M0⟩ : ∃ τ, Mo (Fm.mp m ca111) f τ m 1 ca111 w.lengths := ⟨_, ha111.mo 1⟩
 refine w82 ?_
 unfold plength at hp
 intro m0 ya
 obtain ⟨za, Aa, Ba, Ca⟩ := S0.blk ya τ0 2
 have Da := M0.k Ba
 intro m1 Fa
 obtain ⟨Ga, aa, ba, ca⟩ := Aa.blk Fa za 3
 have da := Ca.k ba
 have J := Da.k ba
 refine ⟨trivial, _, da.bk.rc rfl, _, _, _, _, _, ca.bk.ra, ?_⟩
 obtain ⟨Ha, hp⟩ := gd_some hp
 refine ⟨_, J.mi.lk kl98 (k := s) Ha rfl, ?_⟩
 cases Z : (mget w.lengths s) with
 | none =>
  rw [mcase_none Z] at hp
  refine ⟨fun _ => ?_, fun u hu => (by cases hu)⟩
  intro m9 Ia
  obtain ⟨ea, fa, N, Ja⟩ := aa.blk Ia Ga 4
  have ga := da.k N
  have ha := ca.k N
  have Ka := J.k N
  refine ⟨trivial, _, _, _, _, _, _, ga.bk.rp (k := 0) (j := 6) rfl (by omega), _, _, _, _, _, ha.bk.ra, ?_⟩
  obtain ⟨Mb, La, hp⟩ := bsome hp
  refine s_walks (r := w.r) (s := s) fa.pre ha105 La fun bc Nb Ob Ma Na => ?_
  obtain ⟨Oa, D⟩ := fa.callG Ma ea
  have ia := ga.k D
  have ja := ha.k D
  have ka := Ja.k D
  have la := Ka.k D
  refine ⟨_, rfl, ?_⟩
  refine range_stW (α := List Int × Int) Oa Na (σ := (List Int) × C) 5 (fun st bb => (False ∨ (False ∨ (False ∨ ((ownBlk st.2 bb) ∨ False))))) (fun st gG gF gT gM => (Lb gG gF gT gM 2 m.nxt 12 [(Il w.r.Adjusters), (Il w.r.Last), (Il w.r.Miles), (Il w.r.Home.X), (Il w.r.Home.Y), ca105, (.bool w.all.c0), (.bool w.all.c1), (.bool w.all.c2), (.bool w.all.c3), (.bool w.all.c4), ca111]) ∧ (Lb gG gF gT gM 3 m0.nxt 5 [(.bool s.c0), (.bool s.c1), (.bool s.c2), (.bool s.c3), (.bool s.c4)]) ∧ (Lb gG gF gT gM 4 m1.nxt 1 [st.2]) ∧ (Ow gG gF gT gM 6 st.2 st.1) ∧ (Mo gG gF gT gM 1 ca111 w.lengths)) (fun rr_ st => plength_L0 w s rr_ st.1 = some rz) (fun ex st => False) (fun st => (Gux.and (Gux.lb ia.bk.lt (by decide)) (Gux.and (Gux.lb ja.bk.lt (by decide)) (Gux.and (Gux.lb ka.bk.lt (by decide)) (Gux.and (Gux.ow (by decide)) (Gux.mo la.lt (by decide))))))) (st0 := ([], .sl0)) (τ := ea) ⟨ia, ja, ka, (Ow.nil _ _ _ _ _), la⟩ hp ?_ ?_ ?_ ?_
  ·intro F Pa st o q G t Qb Fb Gb Hb _ _ Qa Rb hA pa hp hrep qa sa
   obtain ⟨Sb, rfl, ⟨Tb, _⟩⟩ := hrep
   obtain ⟨d, x⟩ := st
   obtain ⟨e, g, i, b, n⟩ := hA
   replace e : Lb t o q G 2 m.nxt 12 [(Il w.r.Adjusters), (Il w.r.Last), (Il w.r.Miles), (Il w.r.Home.X), (Il w.r.Home.Y), ca105, (.bool w.all.c0), (.bool w.all.c1), (.bool w.all.c2), (.bool w.all.c3), (.bool w.all.c4), ca111] := e
   replace g : Lb t o q G 3 m0.nxt 5 [(.bool s.c0), (.bool s.c1), (.bool s.c2), (.bool s.c3), (.bool s.c4)] := g
   replace i : Lb t o q G 4 m1.nxt 1 [x] := i
   replace b : Ow t o q G 6 x d := b
   replace n : Mo t o q G 1 ca111 w.lengths := n
   replace hp : plength_L0 w s (F :: Pa) d = some rz := hp
   rw [plength_L0] at hp
   refine ⟨_, _, rfl, ?_⟩
   refine qa _ _ _ _ Qa pa fun cc Ub Ra y ta ua => ?_
   have Sa := e.k y
   have Ta := g.k y
   have ma := i.k y
   have Ua := n.k y
   have b := b.k y
   refine ⟨_, ma.bk.rc rfl, ?_⟩
   obtain ⟨Va, hp⟩ := gd_some hp
   intro dc Wa
   obtain ⟨O, Xa, Vb, Ya, Za, z, P⟩ := b.app' ta27 Ra (a := F.2) (show Rp.rep (α := Int) o _ F.2 from rfl) Va Wa
   have ab := Sa.k z
   have cb := Ta.k z
   have db := ma.k z
   have eb := Ua.k z
   have va := ta.k z
   refine ⟨O, Xa, Ya, ?_⟩
   obtain ⟨fb, gb, hb, A, ib⟩ := db.sto Za [O]
   have jb := ab.k A
   have kb := cb.k A
   have mb := eb.k A
   have P := P.k A
   have wa := va.k A
   refine ⟨fb, gb, ?_⟩
   exact sa .nrm ((d ++ [F.2]), O) _ _ _ _ hb ⟨jb, kb, ib, P, mb⟩ wa ua hp
  ·intro st B p I ob Wb hA hp
   obtain ⟨d, x⟩ := st
   replace hp : plength_L0 w s [] d = some rz := hp
   obtain ⟨e, g, i, b, n⟩ := hA
   replace e : Lb (Fm.mp m ca111) B p I 2 m.nxt 12 [(Il w.r.Adjusters), (Il w.r.Last), (Il w.r.Miles), (Il w.r.Home.X), (Il w.r.Home.Y), ca105, (.bool w.all.c0), (.bool w.all.c1), (.bool w.all.c2), (.bool w.all.c3), (.bool w.all.c4), ca111] := e
   replace g : Lb (Fm.mp m ca111) B p I 3 m0.nxt 5 [(.bool s.c0), (.bool s.c1), (.bool s.c2), (.bool s.c3), (.bool s.c4)] := g
   replace i : Lb (Fm.mp m ca111) B p I 4 m1.nxt 1 [x] := i
   replace b : Ow (Fm.mp m ca111) B p I 6 x d := b
   replace n : Mo (Fm.mp m ca111) B p I 1 ca111 w.lengths := n
   rw [plength_L0] at hp
   refine ⟨_, i.bk.rc rfl, ?_⟩
   obtain ⟨Xb, na, S, pb⟩ := b.freeze ob
   have qb := e.k S
   have rb := g.k S
   have sb := n.k S
   obtain ⟨oa, tb, hp⟩ := bsome hp
   refine s_minimum (l := d) na.pre pb tb fun ec ub => ?_
   obtain ⟨vb, T⟩ := na.call ub p
   have wb := qb.k T
   have xb := rb.k T
   have yb := sb.k T
   refine ⟨_, rfl, trivial, _, wb.bk.rc rfl, _, _, _, _, _, xb.bk.ra, ?_⟩
   obtain ⟨zb, hp⟩ := gd_some hp
   obtain ⟨Yb, Ab, hp⟩ := bsome hp
   obtain ⟨Bb, Cb, Db, Zb, Eb⟩ := Mo.up kl98 vb yb (k := s) zb (v := oa) Ab (kv := .agg 5 [(.bool s.c0), (.bool s.c1), (.bool s.c2), (.bool s.c3), (.bool s.c4)]) (yv := .c (Il oa)) rfl rfl
   refine ⟨Bb, Cb, ?_⟩
   obtain rfl := Option.some.inj hp
   exact hq _ Db.extB Eb.mi
  ·intro id st _ _ _ _ _ _ hn; first | exact hn.elim | (cases hn)
  ·intro st _ _ _ _ _ _ hn; first | exact hn.elim | (cases hn)
 | some ac =>
  rw [mcase_some Z] at hp
  refine ⟨fun h => (by cases h), fun u hu => ?_⟩
  obtain rfl := Option.some.inj hu
  refine ⟨_, rfl, ?_⟩
  obtain rfl := Option.some.inj hp
  exact hq _ aa.extB J.mi
theorem s_canWalk {w : Wk} {s : Set5} {ca105 ca111 : C} {m f : M} {Q : V → M → Prop} {rz : Bool × Option (Set5 → Option (Int))} (hS : Pre f m) (ha105 : Sl f ca105 w.r.Farms) (ha111 : Mc f m ca111 w.lengths) (hp : pcanWalk w s = some rz) (hq : ∀ m', ExtB ca111 m m' → Mi m' ca111 rz.2 → Q (.c (.bool rz.1)) m') : Wc prog tbl 60 [.agg 12 [(Il w.r.Adjusters), (Il w.r.Last), (Il w.r.Miles), (Il w.r.Home.X), (Il w.r.Home.Y), ca105, (.bool w.all.c0), (.bool w.all.c1), (.bool w.all.c2), (.bool w.all.c3), (.bool w.all.c4), ca111], .agg 5 [(.bool s.c0), (.bool s.c1), (.bool s.c2), (.bool s.c3), (.bool s.c4)]] m Q := by
 have B := hS.stM ha111
 obtain ⟨D, F⟩ : ∃ τ, Mo (Fm.mp m ca111) f τ m 1 ca111 w.lengths := ⟨_, ha111.mo 1⟩
 refine w60 ?_
 unfold pcanWalk at hp
 intro N h
 obtain ⟨i, j, l, n⟩ := B.blk h D 2
 have o := F.k l
 intro O p
 obtain ⟨G, a, d, q⟩ := j.blk p i 3
 have b := n.k d
 have e := o.k d
 refine ⟨_, _, _, _, _, _, _, _, _, _, _, _, b.bk.ra, _, _, _, _, _, q.bk.ra, ?_⟩
 obtain ⟨I, t, hp⟩ := bsome hp
 refine s_length (w := w) (s := s) a.pre ha105 (e.mc a) t fun J u g => ?_
 obtain ⟨x, y, z⟩ := a.callM e u g
 have A := b.k y
 refine ⟨_, rfl, trivial, trivial, _, A.bk.rc rfl, (b.bk.rc rfl), ?_⟩
 obtain rfl := Option.some.inj hp
 exact hq _ x.extB z.mi
theorem s_shortestWalk {w : Wk} {s : Set5} {ca105 ca111 : C} {m f : M} {Q : V → M → Prop} {rz : (List Int × Int) × Option (Set5 → Option (Int))} (hS : Pre f m) (ha105 : Sl f ca105 w.r.Farms) (ha111 : Mc f m ca111 w.lengths) (hp : pshortestWalk w s = some rz) (hq : ∀ m' f' c0, GrwM ca111 m f m' f' → Sl f' c0 rz.1.1 → Mi m' ca111 rz.2 → Q (.tup [.c c0, .c (Il rz.1.2)]) m') : Wc prog tbl 61 [.agg 12 [(Il w.r.Adjusters), (Il w.r.Last), (Il w.r.Miles), (Il w.r.Home.X), (Il w.r.Home.Y), ca105, (.bool w.all.c0), (.bool w.all.c1), (.bool w.all.c2), (.bool w.all.c3), (.bool w.all.c4), ca111], .agg 5 [(.bool s.c0), (.bool s.c1), (.bool s.c2), (.bool s.c3), (.bool s.c4)]] m Q := by
 have S0 := hS.stM ha111
 obtain ⟨τ0, M0⟩ : ∃ τ, Mo (Fm.mp m ca111) f τ m 1 ca111 w.lengths := ⟨_, ha111.mo 1⟩
 refine w61 ?_
 unfold pshortestWalk at hp
 intro m0 Pa
 obtain ⟨Qa, Ra, Sa, Ta⟩ := S0.blk Pa τ0 2
 have Ua := M0.k Sa
 intro m1 Va
 obtain ⟨Wa, Xa, ja, Ya⟩ := Ra.blk Va Qa 3
 have Za := Ta.k ja
 have ab := Ua.k ja
 intro m2 cb
 obtain ⟨db, eb, S, fb⟩ := Xa.blk cb Wa 4
 have gb := Za.k S
 have hb := Ya.k S
 have ib := ab.k S
 intro m3 jb
 obtain ⟨ka, T, N, kb⟩ := eb.blk jb db 5
 have la := gb.k N
 have ma := hb.k N
 have mb := fb.k N
 have na := ib.k N
 refine ⟨_, _, _, _, _, _, _, _, _, _, _, _, la.bk.ra, _, _, _, _, _, ma.bk.ra, ?_⟩
 obtain ⟨b, ob, hp⟩ := bsome hp
 refine s_length (w := w) (s := s) T.pre ha105 (na.mc T) ob fun fd pb Ka => ?_
 obtain ⟨qb, O, rb⟩ := T.callM na pb Ka
 have sb := la.k O
 have tb := ma.k O
 have ub := mb.k O
 have vb := kb.k O
 refine ⟨_, rfl, ?_⟩
 obtain ⟨wb, xb, oa, P, yb⟩ := vb.sto qb [(Il b.1)]
 have pa := sb.k P
 have qa := tb.k P
 have zb := ub.k P
 have Ab := rb.k P
 refine ⟨wb, xb, ?_⟩
 refine ⟨trivial, _, _, _, _, _, _, pa.bk.rp (k := 0) (j := 6) rfl (by omega), _, _, _, _, _, qa.bk.ra, ?_⟩
 obtain ⟨Tc, Bb, hp⟩ := bsome hp
 refine s_walks (r := w.r) (s := s) oa.pre ha105 Bb fun hd Uc Vc Cb Db => ?_
 obtain ⟨Eb, F⟩ := oa.callG Cb ka
 have sa := pa.k F
 have ta := qa.k F
 have ua := zb.k F
 have va := yb.k F
 have wa := Ab.k F
 refine ⟨_, rfl, ?_⟩
 refine range_stW (α := List Int × Int) Eb Db (σ := (List Int) × C) 6 (fun st bb => (False ∨ (False ∨ (False ∨ ((ownBlk st.2 bb) ∨ (False ∨ False)))))) (fun st gG gF gT gM => (Lb gG gF gT gM 2 m.nxt 12 [(Il w.r.Adjusters), (Il w.r.Last), (Il w.r.Miles), (Il w.r.Home.X), (Il w.r.Home.Y), ca105, (.bool w.all.c0), (.bool w.all.c1), (.bool w.all.c2), (.bool w.all.c3), (.bool w.all.c4), ca111]) ∧ (Lb gG gF gT gM 3 m0.nxt 5 [(.bool s.c0), (.bool s.c1), (.bool s.c2), (.bool s.c3), (.bool s.c4)]) ∧ (Lb gG gF gT gM 4 m1.nxt 1 [st.2]) ∧ (Ow gG gF gT gM 7 st.2 st.1) ∧ (Lb gG gF gT gM 5 m2.nxt 1 [(Il b.1)]) ∧ (Mo gG gF gT gM 1 ca111 b.2)) (fun rr_ st => pshortestWalk_L0 b rr_ st.1 = some rz) (fun ex st => (match ex with | .exit i => i = 0 ∧ pshortestWalk_L0_xexit0 b st.1 = some rz | _ => False)) (fun st => (Gux.and (Gux.lb sa.bk.lt (by decide)) (Gux.and (Gux.lb ta.bk.lt (by decide)) (Gux.and (Gux.lb ua.bk.lt (by decide)) (Gux.and (Gux.ow (by decide)) (Gux.and (Gux.lb va.bk.lt (by decide)) (Gux.mo wa.lt (by decide)))))))) (st0 := ([], .sl0)) (τ := ka) ⟨sa, ta, ua, (Ow.nil _ _ _ _ _), va, wa⟩ hp ?_ ?_ ?_ ?_
 ·intro xa Fb st u p G x Xc Lc Nc Oc _ _ Gb Yc hA La hp hrep Ma ga
  obtain ⟨Zc, rfl, ⟨Hb, _⟩⟩ := hrep
  obtain ⟨l, d⟩ := st
  obtain ⟨n, o, e, a, g, h⟩ := hA
  replace n : Lb x u p G 2 m.nxt 12 [(Il w.r.Adjusters), (Il w.r.Last), (Il w.r.Miles), (Il w.r.Home.X), (Il w.r.Home.Y), ca105, (.bool w.all.c0), (.bool w.all.c1), (.bool w.all.c2), (.bool w.all.c3), (.bool w.all.c4), ca111] := n
  replace o : Lb x u p G 3 m0.nxt 5 [(.bool s.c0), (.bool s.c1), (.bool s.c2), (.bool s.c3), (.bool s.c4)] := o
  replace e : Lb x u p G 4 m1.nxt 1 [d] := e
  replace a : Ow x u p G 7 d l := a
  replace g : Lb x u p G 5 m2.nxt 1 [(Il b.1)] := g
  replace h : Mo x u p G 1 ca111 b.2 := h
  replace hp : pshortestWalk_L0 b (xa :: Fb) l = some rz := hp
  rw [pshortestWalk_L0] at hp
  refine ⟨_, _, rfl, ?_⟩
  refine Ma _ _ _ _ Gb La fun jd ad Z y ha ia => ?_
  have ya := n.k y
  have za := o.k y
  have Aa := e.k y
  have aa := g.k y
  have Ba := h.k y
  have a := a.k y
  refine ⟨_, aa.bk.rc rfl, ?_⟩
  refine ifd hp (fun Ib hp => ?_) fun Ib hp => ?_; rotate_left
  ·exact ga .nrm (l, d) _ _ _ _ Z ⟨ya, za, Aa, a, aa, Ba⟩ ha ia hp
  obtain ⟨Jb, Kb, hp⟩ := bsome hp
  refine s_clone (s := xa.1) Z.pre Hb Kb fun kd bd Ca Mb Nb => ?_
  obtain ⟨cd, Ob, q, ba⟩ := Z.callO Mb Nb p 7
  have Qb := ya.k q
  have Rb := za.k q
  have Sb := Aa.k q
  have Tb := aa.k q
  have Ub := Ba.k q
  have a := a.k q
  have Na := ha.k q
  refine ⟨_, rfl, ?_⟩
  obtain ⟨Vb, Wb, Xb, t, Yb⟩ := Sb.sto Ob [Ca]
  have Zb := Qb.k t
  have ac := Rb.k t
  have bc := Tb.k t
  have cc := Ub.k t
  have a := a.k t
  have ba := ba.k t
  have Oa := Na.k t
  refine ⟨Vb, Wb, ?_⟩
  exact ga (.exit 0) (Jb, Ca) _ _ _ _ Xb ⟨Zb, ac, Yb, ba, bc, cc⟩ Oa ia ⟨rfl, hp⟩
 ·intro st z A I dc dd hA hp
  obtain ⟨l, d⟩ := st
  replace hp : pshortestWalk_L0 b [] l = some rz := hp
  obtain ⟨n, o, e, a, g, h⟩ := hA
  replace n : Lb (Fm.mp m ca111) z A I 2 m.nxt 12 [(Il w.r.Adjusters), (Il w.r.Last), (Il w.r.Miles), (Il w.r.Home.X), (Il w.r.Home.Y), ca105, (.bool w.all.c0), (.bool w.all.c1), (.bool w.all.c2), (.bool w.all.c3), (.bool w.all.c4), ca111] := n
  replace o : Lb (Fm.mp m ca111) z A I 3 m0.nxt 5 [(.bool s.c0), (.bool s.c1), (.bool s.c2), (.bool s.c3), (.bool s.c4)] := o
  replace e : Lb (Fm.mp m ca111) z A I 4 m1.nxt 1 [d] := e
  replace a : Ow (Fm.mp m ca111) z A I 7 d l := a
  replace g : Lb (Fm.mp m ca111) z A I 5 m2.nxt 1 [(Il b.1)] := g
  replace h : Mo (Fm.mp m ca111) z A I 1 ca111 b.2 := h
  rw [pshortestWalk_L0] at hp
  refine ⟨_, e.bk.rc rfl, _, g.bk.rc rfl, ?_⟩
  obtain ⟨ec, fc, gc, ca, hc⟩ := e.sto dc [d]
  have Da := g.k ca
  have ic := h.k ca
  have a := a.k ca
  refine ⟨ec, fc, ?_⟩
  refine ⟨(Da.bk.rc rfl), ?_⟩
  obtain ⟨jc, kc, lc, da, nc⟩ := Da.sto gc [(Il b.1)]
  have oc := hc.k da
  have pc := ic.k da
  have a := a.k da
  refine ⟨jc, kc, ?_⟩
  refine ⟨_, oc.bk.rc rfl, _, nc.bk.rc rfl, ?_⟩
  obtain ⟨qc, sc, tc, uc⟩ := a.freeze lc
  have Ea := pc.k tc
  obtain rfl := Option.some.inj hp
  exact hq _ qc d (sc.grwM Ea) uc Ea.mi
 ·intro id st B D J vc ed hA hn
  obtain ⟨l, d⟩ := st
  obtain ⟨hid, hp⟩ := hn
  subst hid
  refine exitP_hd ?_
  replace hp : pshortestWalk_L0_xexit0 b l = some rz := hp
  unfold pshortestWalk_L0_xexit0 at hp
  obtain ⟨n, o, e, a, g, h⟩ := hA
  replace n : Lb (Fm.mp m ca111) B D J 2 m.nxt 12 [(Il w.r.Adjusters), (Il w.r.Last), (Il w.r.Miles), (Il w.r.Home.X), (Il w.r.Home.Y), ca105, (.bool w.all.c0), (.bool w.all.c1), (.bool w.all.c2), (.bool w.all.c3), (.bool w.all.c4), ca111] := n
  replace o : Lb (Fm.mp m ca111) B D J 3 m0.nxt 5 [(.bool s.c0), (.bool s.c1), (.bool s.c2), (.bool s.c3), (.bool s.c4)] := o
  replace e : Lb (Fm.mp m ca111) B D J 4 m1.nxt 1 [d] := e
  replace a : Ow (Fm.mp m ca111) B D J 7 d l := a
  replace g : Lb (Fm.mp m ca111) B D J 5 m2.nxt 1 [(Il b.1)] := g
  replace h : Mo (Fm.mp m ca111) B D J 1 ca111 b.2 := h
  refine ⟨_, e.bk.rc rfl, _, g.bk.rc rfl, ?_⟩
  obtain ⟨wc, xc, yc, ea, zc⟩ := e.sto vc [d]
  have Fa := g.k ea
  have Ac := h.k ea
  have a := a.k ea
  refine ⟨wc, xc, ?_⟩
  refine ⟨(Fa.bk.rc rfl), ?_⟩
  obtain ⟨Bc, Cc, Dc, fa, Ec⟩ := Fa.sto yc [(Il b.1)]
  have Fc := zc.k fa
  have Gc := Ac.k fa
  have a := a.k fa
  refine ⟨Bc, Cc, ?_⟩
  refine ⟨_, Fc.bk.rc rfl, _, Ec.bk.rc rfl, ?_⟩
  obtain ⟨Hc, Ic, Jc, Kc⟩ := a.freeze Dc
  have Ga := Gc.k Jc
  obtain rfl := Option.some.inj hp
  exact hq _ Hc d (Ic.grwM Ga) Kc Ga.mi
 ·intro st _ _ _ _ _ _ hn; first | exact hn.elim | (cases hn)
theorem s_Walk {r : Rnd} {farms : List Int} {ca105 ca200 : C} {m f : M} {Q : V → M → Prop} {rz : List Int × Int × Int} (hS : Pre f m) (ha105 : Sl f ca105 r.Farms) (ha200 : Sl f ca200 farms) (hp : pWalk r farms = some rz) (hq : ∀ m' f' c0, Grw m f m' f' → Sl f' c0 rz.1 → Q (.tup [.c c0, .c (Il rz.2.1), .c (Il rz.2.2)]) m') : Wc prog tbl 17 [.agg 6 [(Il r.Adjusters), (Il r.Last), (Il r.Miles), (Il r.Home.X), (Il r.Home.Y), ca105], .c ca200] m Q := by
 have S0 := hS.st
 obtain ⟨τ0, _⟩ : ∃ τ : Nat → Nat, True := ⟨fun _ => 0, trivial⟩
 refine w17 ?_
 unfold pWalk at hp
 intro m0 G
 obtain ⟨I, n, Pa, J⟩ := S0.blk G τ0 1
 refine ⟨_, _, _, _, _, _, J.bk.ra, ?_⟩
 obtain ⟨a, N, hp⟩ := bsome hp
 refine s_open (r := r) n.pre ha105 N fun m8 g O P S h T => ?_
 obtain ⟨Z, aa, ba, ca⟩ := n.callN S T I 2
 refine ⟨_, _, _, _, _, _, _, _, _, _, _, _, _, rfl, ?_⟩
 intro Ua da
 obtain ⟨o, ea, fa, ga⟩ := aa.blk da Z 3
 have ha := ca.k fa
 obtain ⟨ia, ja, i, ka, p⟩ := ga.sto ea [(Il a.1.r.Adjusters), (Il a.1.r.Last), (Il a.1.r.Miles), (Il a.1.r.Home.X), (Il a.1.r.Home.Y), O, (.bool a.1.all.c0), (.bool a.1.all.c1), (.bool a.1.all.c2), (.bool a.1.all.c3), (.bool a.1.all.c4), P]
 have la := ha.k ka
 refine ⟨ia, ja, ?_⟩
 refine ifnd hp (fun ma hp => ?_) fun ma hp => ?_
 ·obtain rfl := Option.some.inj hp
  exact hq _ g .sl0 i.grw (Sl.nil _)
 refine ⟨trivial, _, _, _, _, _, _, p.bk.rp (k := 0) (j := 6) rfl (by omega), ?_⟩
 obtain ⟨b, na, hp⟩ := bsome hp
 refine s_setOf (r := a.1.r) (l := farms) i.pre h (ha200.sub ba.fs) na fun Va oa => ?_
 obtain ⟨pa, q⟩ := i.call oa o
 have qa := p.k q
 have sa := la.k q
 refine ⟨_, _, _, _, _, _, rfl, ?_⟩
 intro Wa ta
 obtain ⟨Qa, ua, t, va⟩ := pa.blk ta o 4
 have wa := qa.k t
 have xa := sa.k t
 obtain ⟨ya, za, d, u, x⟩ := va.sto ua [(.bool b.1.c0), (.bool b.1.c1), (.bool b.1.c2), (.bool b.1.c3), (.bool b.1.c4)]
 have y := wa.k u
 have z := xa.k u
 refine ⟨ya, za, ?_⟩
 refine ifnb hp (fun Aa hp => ?_) fun Aa hp => ?_
 ·obtain rfl := Option.some.inj hp
  exact hq _ g .sl0 d.grw (Sl.nil _)
 refine ⟨_, _, _, _, _, _, _, _, _, _, _, _, y.bk.ra, _, _, _, _, _, x.bk.ra, ?_⟩
 obtain ⟨Ba, Ca, hp⟩ := bsome hp
 refine s_canWalk (w := a.1) (s := b.1) d.pre h (z.mc d) Ca fun Xa Da D => ?_
 obtain ⟨e, A, B⟩ := d.callM z Da D
 have Ea := y.k A
 have Fa := x.k A
 refine ⟨_, rfl, ?_⟩
 refine ifnb hp (fun Ga hp => ?_) fun Ga hp => ?_
 ·obtain rfl := Option.some.inj hp
  exact hq _ g .sl0 e.grw (Sl.nil _)
 refine ⟨_, _, _, _, _, _, _, _, _, _, _, _, Ea.bk.ra, _, _, _, _, _, Fa.bk.ra, ?_⟩
 obtain ⟨Ra, Ha, hp⟩ := bsome hp
 refine s_shortestWalk (w := ({ r := a.1.r, all := a.1.all, lengths := Ba.2 } : Wk)) (s := b.1) e.pre h (B.mc e) Ha fun Ya Ia Ja Ka La F => ?_
 obtain ⟨Ma, Sa, Ta⟩ := e.callGM B Ka F
 refine ⟨_, _, rfl, ?_⟩
 obtain rfl := Option.some.inj hp
 exact hq _ Ia Ja Ma.grw La
end
end Go.Proofs.Ytoejeieblichnaa

