/- An evaluator of the code of a program, its soundness, what calls ask, memory, and what functions of the program do. Condition: none; a lemma text of this claim. -/
import Derived.Test.YtbnfnhfanooplaaSuF

namespace Go.Proofs.Ytbnfnhfanooplaa
theorem obs {α β : Type} {a : α} {f : α → Option β} : (some a).bind f = f a := rfl
theorem gdi {α : Type} {p A : Prop} {o : Option α} {r : α} (hp : Go.Abs.gd p o = some r) (h : p → o = some r → A) : p ∧ A := have ⟨a, b⟩ := Go.Abs.gd_some hp; ⟨a, h a b⟩
end Go.Proofs.Ytbnfnhfanooplaa

namespace Go.Proofs.Ytbnfnhfanooplaa
open _root_.Go.Proofs.Try
open Go.Abs
set_option maxRecDepth 100000
noncomputable section
structure Rg where
 Lo : Int
 Hi : Int
def ok_Rg (a : Rg) : Prop := (fitsP .i64 a.Lo) ∧ (fitsP .i64 a.Hi)
instance : MK Rg := ⟨fun k => .agg 2 [.int .i64 k.Lo, .int .i64 k.Hi], fun k => fitsP .i64 k.Lo ∧ fitsP .i64 k.Hi ∧ True⟩
instance : MV Rg := ⟨fun k => .agg 2 [.int .i64 k.Lo, .int .i64 k.Hi]⟩
instance : Rp Rg := ⟨2, by omega, fun _ cs a => cs = [.int .i64 a.Lo, .int .i64 a.Hi], fun h => by rw [h]; rfl, fun h _ => h⟩
structure Crd where
 X : Rg
 Y : Rg
 Hail : Bool
 Size : Rg
def ok_Crd (a : Crd) : Prop := (ok_Rg a.X) ∧ (ok_Rg a.Y) ∧ (True) ∧ (ok_Rg a.Size)
instance : MK Crd := ⟨fun k => .agg 7 [.int .i64 k.X.Lo, .int .i64 k.X.Hi, .int .i64 k.Y.Lo, .int .i64 k.Y.Hi, .bool k.Hail, .int .i64 k.Size.Lo, .int .i64 k.Size.Hi], fun k => fitsP .i64 k.X.Lo ∧ fitsP .i64 k.X.Hi ∧ fitsP .i64 k.Y.Lo ∧ fitsP .i64 k.Y.Hi ∧ fitsP .i64 k.Size.Lo ∧ fitsP .i64 k.Size.Hi ∧ True⟩
instance : MV Crd := ⟨fun k => .agg 7 [.int .i64 k.X.Lo, .int .i64 k.X.Hi, .int .i64 k.Y.Lo, .int .i64 k.Y.Hi, .bool k.Hail, .int .i64 k.Size.Lo, .int .i64 k.Size.Hi]⟩
instance : Rp Crd := ⟨7, by omega, fun _ cs a => cs = [.int .i64 a.X.Lo, .int .i64 a.X.Hi, .int .i64 a.Y.Lo, .int .i64 a.Y.Hi, .bool a.Hail, .int .i64 a.Size.Lo, .int .i64 a.Size.Hi], fun h => by rw [h]; rfl, fun h _ => h⟩
theorem rd_Crd {f : M} {x : C} {l : List Crd} (h : Sl f x l) {n : Nat} {a : Crd} (hi : l[n]? = some a) : ∃ _u : Unit, (∀ m, Sub f m → ldA m (slAt x (n * 7)) 7 = some [.int .i64 a.X.Lo, .int .i64 a.X.Hi, .int .i64 a.Y.Lo, .int .i64 a.Y.Hi, .bool a.Hail, .int .i64 a.Size.Lo, .int .i64 a.Size.Hi] ∧ (∀ j c, ([.int .i64 a.X.Lo, .int .i64 a.X.Hi, .int .i64 a.Y.Lo, .int .i64 a.Y.Hi, .bool a.Hail, .int .i64 a.Size.Lo, .int .i64 a.Size.Hi] : List C)[j]? = some c → ldC m (ptAdd (slAt x (n * 7)) j) = some c) ∧ ∀ j i, 0 < i → j + i ≤ 7 → ldA m (ptAdd (slAt x (n * 7)) j) i = some ((([.int .i64 a.X.Lo, .int .i64 a.X.Hi, .int .i64 a.Y.Lo, .int .i64 a.Y.Hi, .bool a.Hail, .int .i64 a.Size.Lo, .int .i64 a.Size.Hi] : List C).drop j).take i)) := by
 obtain ⟨cs, q1, q2⟩ := h.rdP hi
 have q2 : cs = _ := q2
 subst q2
 exact ⟨(), q1⟩
structure Stm where
 Wide : Int
 High : Int
 Fall : Int
 A : Rg
 B : Rg
 Half : Rg
 Peak : Rg
 Cards : List Crd
def ok_Stm (a : Stm) : Prop := (fitsP .i64 a.Wide) ∧ (fitsP .i64 a.High) ∧ (fitsP .i64 a.Fall) ∧ (ok_Rg a.A) ∧ (ok_Rg a.B) ∧ (ok_Rg a.Half) ∧ (ok_Rg a.Peak) ∧ (a.Cards.length ≤ maxLen ∧ ∀ a0 ∈ a.Cards, ok_Crd a0)
instance : Rp Stm := ⟨12, by omega, fun f cs a => ∃ c11 : C, cs = [.int .i64 a.Wide, .int .i64 a.High, .int .i64 a.Fall, .int .i64 a.A.Lo, .int .i64 a.A.Hi, .int .i64 a.B.Lo, .int .i64 a.B.Hi, .int .i64 a.Half.Lo, .int .i64 a.Half.Hi, .int .i64 a.Peak.Lo, .int .i64 a.Peak.Hi, c11] ∧ Sl f c11 a.Cards, fun h => by obtain ⟨c11, h, _⟩ := h; rw [h]; rfl, fun h s => by obtain ⟨c11, h, h0⟩ := h; exact ⟨c11, h, h0.subv s⟩⟩
structure Trh where
 A : Int
 B : Int
 Half : Int
 Peak : Int
instance : MK Trh := ⟨fun k => .agg 4 [.int .i64 k.A, .int .i64 k.B, .int .i64 k.Half, .int .i64 k.Peak], fun k => fitsP .i64 k.A ∧ fitsP .i64 k.B ∧ fitsP .i64 k.Half ∧ fitsP .i64 k.Peak ∧ True⟩
instance : MV Trh := ⟨fun k => .agg 4 [.int .i64 k.A, .int .i64 k.B, .int .i64 k.Half, .int .i64 k.Peak]⟩
instance : Rp Trh := ⟨4, by omega, fun _ cs a => cs = [.int .i64 a.A, .int .i64 a.B, .int .i64 a.Half, .int .i64 a.Peak], fun h => by rw [h]; rfl, fun h _ => h⟩
structure Rct where
 X : Rg
 Y : Rg
instance : MK Rct := ⟨fun k => .agg 4 [.int .i64 k.X.Lo, .int .i64 k.X.Hi, .int .i64 k.Y.Lo, .int .i64 k.Y.Hi], fun k => fitsP .i64 k.X.Lo ∧ fitsP .i64 k.X.Hi ∧ fitsP .i64 k.Y.Lo ∧ fitsP .i64 k.Y.Hi ∧ True⟩
instance : MV Rct := ⟨fun k => .agg 4 [.int .i64 k.X.Lo, .int .i64 k.X.Hi, .int .i64 k.Y.Lo, .int .i64 k.Y.Hi]⟩
instance : Rp Rct := ⟨4, by omega, fun _ cs a => cs = [.int .i64 a.X.Lo, .int .i64 a.X.Hi, .int .i64 a.Y.Lo, .int .i64 a.Y.Hi], fun h => by rw [h]; rfl, fun h _ => h⟩
structure Cds where
 c0 : Bool
 c1 : Bool
 c2 : Bool
 c3 : Bool
 c4 : Bool
 c5 : Bool
instance : MK Cds := ⟨fun k => .agg 6 [.bool k.c0, .bool k.c1, .bool k.c2, .bool k.c3, .bool k.c4, .bool k.c5], fun _ => True⟩
instance : MV Cds := ⟨fun k => .agg 6 [.bool k.c0, .bool k.c1, .bool k.c2, .bool k.c3, .bool k.c4, .bool k.c5]⟩
instance : Rp Cds := ⟨6, by omega, fun _ cs a => cs = [.bool a.c0, .bool a.c1, .bool a.c2, .bool a.c3, .bool a.c4, .bool a.c5], fun h => by rw [h]; rfl, fun h _ => h⟩
structure Wk where
 s : Stm
 right : Option (Trh → Option (Cds))
structure Qst where
 must : Wk → List Int → Option (Bool)
def pawake : Option Bool := some true
def prIn (n : Int) (low : Int) (high : Int) : Option (Bool) := (if low ≤ n then (some (decide (n ≤ high))) else (some false))
def prWithin (r : Rg) (low : Int) (high : Int) : Option (Bool) := (if low ≤ r.Lo then (if r.Lo ≤ r.Hi then (some (decide (r.Hi ≤ high))) else (some false)) else (some false))
def prCount (r : Rg) : Option (Int) := (gd (fitsP .i64 (r.Hi - r.Lo)) (gd (fitsP .i64 ((r.Hi - r.Lo) + (1 : Int))) (some ((r.Hi - r.Lo) + (1 : Int)))))
def prIsRect (s : Stm) (r : Rct) : Option (Bool) := (gd (fitsP .i64 (s.Wide - (1 : Int))) ((prWithin r.X (0 : Int) (s.Wide - (1 : Int))).bind fun r329 => (if r329 = true then (gd (fitsP .i64 (s.High - (1 : Int))) ((prWithin r.Y (0 : Int) (s.High - (1 : Int))).bind fun r338 => (some r338))) else (some false))))
def prIsCard (s : Stm) (c : Crd) : Option (Bool) := ((prIsRect s ({ X := c.X, Y := c.Y } : Rct)).bind fun r356 => (if r356 = true then ((prWithin c.Size (0 : Int) (9 : Int)).bind fun r364 => (if r364 = true then (if c.Hail = true then (some true) else (gd (fitsP .i64 c.Size.Lo) (gd (fitsP .i64 (0 : Int)) (gd (fitsP .i64 c.Size.Hi) (gd (fitsP .i64 (0 : Int)) (some ((decide (c.Size.Lo = (0 : Int))) && (decide (c.Size.Hi = (0 : Int)))))))))) else (some false))) else (some false)))
def prMany (s : Stm) : Option (Int) := ((prCount s.A).bind fun r382 => ((prCount s.B).bind fun r388 => (gd ((0 : Int) ≤ r382) (gd ((0 : Int) ≤ r388) (gd (fitsP .i64 (r382 * r388)) ((prCount s.Half).bind fun r397 => (gd ((0 : Int) ≤ (r382 * r388)) (gd ((0 : Int) ≤ r397) (gd (fitsP .i64 ((r382 * r388) * r397)) ((prCount s.Peak).bind fun r406 => (gd ((0 : Int) ≤ ((r382 * r388) * r397)) (gd ((0 : Int) ≤ r406) (gd (fitsP .i64 (((r382 * r388) * r397) * r406)) (some (((r382 * r388) * r397) * r406)))))))))))))))
def prFault_L0 (s : Stm) : Nat → Int → Option (Int)
 | 0, _ => none
 | d464 + 1, x34 => (if x34 < (s.Cards.length : Int) then ((idx s.Cards x34).bind fun v466 => ((prIsCard s v466).bind fun r469 => (if r469 = true then (gd (fitsP .i64 (x34 + 1)) (prFault_L0 s d464 (x34 + 1))) else (some (1 : Int))))) else ((prMany s).bind fun r477 => (if (2000 : Int) < r477 then (some (3 : Int)) else (some (0 : Int)))))
def prFault (s : Stm) : Option (Int) := (if (12 : Int) < s.Wide then (some (3 : Int)) else (if (12 : Int) < s.High then (some (3 : Int)) else (if (6 : Int) < (s.Cards.length : Int) then (some (3 : Int)) else (if s.Wide < (2 : Int) then (some (1 : Int)) else (if s.High < (1 : Int) then (some (1 : Int)) else ((prIn s.Fall (0 : Int) (4 : Int)).bind fun r425 => (if r425 = true then (gd (fitsP .i64 (s.High - (1 : Int))) ((prWithin s.A (0 : Int) (s.High - (1 : Int))).bind fun r433 => (if r433 = true then (gd (fitsP .i64 (s.High - (1 : Int))) ((prWithin s.B (0 : Int) (s.High - (1 : Int))).bind fun r441 => (if r441 = true then ((prWithin s.Half (0 : Int) (3 : Int)).bind fun r448 => (if r448 = true then ((prWithin s.Peak (1 : Int) (9 : Int)).bind fun r455 => (if r455 = true then (prFault_L0 s 1000000 (0 : Int)) else (some (1 : Int)))) else (some (1 : Int)))) else (some (1 : Int))))) else (some (1 : Int))))) else (some (1 : Int)))))))))
def prNth (s : Stm) (n : Int) : Option (Trh) := ((prCount s.A).bind fun r502 => (gd ((0 : Int) ≤ n) (gd ((0 : Int) < r502) (gd (fitsP .i64 (n % r502)) (gd (fitsP .i64 (s.A.Lo + (n % r502))) ((prCount s.A).bind fun r514 => (gd ((0 : Int) ≤ n) (gd ((0 : Int) < r514) (gd (fitsP .i64 (n / r514)) ((prCount s.B).bind fun r532 => (gd ((0 : Int) ≤ (n / r514)) (gd ((0 : Int) < r532) (gd (fitsP .i64 ((n / r514) % r532)) (gd (fitsP .i64 (s.B.Lo + ((n / r514) % r532))) ((prCount s.B).bind fun r544 => (gd ((0 : Int) ≤ (n / r514)) (gd ((0 : Int) < r544) (gd (fitsP .i64 ((n / r514) / r544)) ((prCount s.Half).bind fun r562 => (gd ((0 : Int) ≤ ((n / r514) / r544)) (gd ((0 : Int) < r562) (gd (fitsP .i64 (((n / r514) / r544) % r562)) (gd (fitsP .i64 (s.Half.Lo + (((n / r514) / r544) % r562))) ((prCount s.Half).bind fun r574 => (gd ((0 : Int) ≤ ((n / r514) / r544)) (gd ((0 : Int) < r574) (gd (fitsP .i64 (((n / r514) / r544) / r574)) (gd (fitsP .i64 (s.Peak.Lo + (((n / r514) / r544) / r574))) (some ({ A := (s.A.Lo + (n % r502)), B := (s.B.Lo + ((n / r514) % r532)), Half := (s.Half.Lo + (((n / r514) / r544) % r562)), Peak := (s.Peak.Lo + (((n / r514) / r544) / r574)) } : Trh))))))))))))))))))))))))))))))
def prDistance (s : Stm) (t : Trh) (x : Int) (y : Int) : Option (Int) := (gd (fitsP .i64 (s.Wide - (1 : Int))) (gd ((0 : Int) ≤ (s.Wide - (1 : Int))) (gd ((0 : Int) ≤ y) (gd (fitsP .i64 ((s.Wide - (1 : Int)) * y)) (gd (fitsP .i64 ((s.Wide - (1 : Int)) - x)) (gd ((0 : Int) ≤ t.A) (gd ((0 : Int) ≤ ((s.Wide - (1 : Int)) - x)) (gd (fitsP .i64 (t.A * ((s.Wide - (1 : Int)) - x))) (gd (fitsP .i64 (((s.Wide - (1 : Int)) * y) - (t.A * ((s.Wide - (1 : Int)) - x)))) (gd ((0 : Int) ≤ t.B) (gd ((0 : Int) ≤ x) (gd (fitsP .i64 (t.B * x)) (gd (fitsP .i64 ((((s.Wide - (1 : Int)) * y) - (t.A * ((s.Wide - (1 : Int)) - x))) - (t.B * x))) (if ((((s.Wide - (1 : Int)) * y) - (t.A * ((s.Wide - (1 : Int)) - x))) - (t.B * x)) < (0 : Int) then (gd (fitsP .i64 ((0 : Int) - ((((s.Wide - (1 : Int)) * y) - (t.A * ((s.Wide - (1 : Int)) - x))) - (t.B * x)))) (some ((0 : Int) - ((((s.Wide - (1 : Int)) * y) - (t.A * ((s.Wide - (1 : Int)) - x))) - (t.B * x))))) else (some ((((s.Wide - (1 : Int)) * y) - (t.A * ((s.Wide - (1 : Int)) - x))) - (t.B * x)))))))))))))))))
def prHit (s : Stm) (t : Trh) (x : Int) (y : Int) : Option (Bool) := ((prDistance s t x y).bind fun r644 => (gd (fitsP .i64 (s.Wide - (1 : Int))) (gd ((0 : Int) ≤ (s.Wide - (1 : Int))) (gd ((0 : Int) ≤ t.Half) (gd (fitsP .i64 ((s.Wide - (1 : Int)) * t.Half)) (some (decide (r644 ≤ ((s.Wide - (1 : Int)) * t.Half)))))))))
def prSize (s : Stm) (t : Trh) (x : Int) (y : Int) : Option (Int) := ((prHit s t x y).bind fun r666 => (if r666 = true then ((prDistance s t x y).bind fun r674 => (gd (fitsP .i64 (s.Wide - (1 : Int))) (gd ((0 : Int) ≤ r674) (gd ((0 : Int) < (s.Wide - (1 : Int))) (gd (fitsP .i64 (r674 / (s.Wide - (1 : Int)))) (gd ((0 : Int) ≤ s.Fall) (gd ((0 : Int) ≤ (r674 / (s.Wide - (1 : Int)))) (gd (fitsP .i64 (s.Fall * (r674 / (s.Wide - (1 : Int))))) (gd (fitsP .i64 (t.Peak - (s.Fall * (r674 / (s.Wide - (1 : Int)))))) (some (max (1 : Int) (t.Peak - (s.Fall * (r674 / (s.Wide - (1 : Int)))))))))))))))) else (some (0 : Int))))
def prRight_L1 (s : Stm) (t : Trh) (c : Crd) (x7 : Int) (K_R4 : Bool → Int → Option (Bool)) : Nat → Bool → Int → Option (Bool)
 | 0, _, _ => none
 | d713 + 1, b12, x14 => (if x14 ≤ c.Y.Hi then (if c.Hail = true then ((prHit s t x7 x14).bind fun r716 => (if r716 = true then ((prSize s t x7 x14).bind fun r725 => ((prIn r725 c.Size.Lo c.Size.Hi).bind fun r733 => (if r733 = true then (some true) else (gd (fitsP .i64 (x14 + 1)) (prRight_L1 s t c x7 K_R4 d713 b12 (x14 + 1)))))) else (gd (fitsP .i64 (x14 + 1)) (prRight_L1 s t c x7 K_R4 d713 b12 (x14 + 1))))) else ((prHit s t x7 x14).bind fun r744 => (if r744 = true then (gd (fitsP .i64 (x14 + 1)) (prRight_L1 s t c x7 K_R4 d713 b12 (x14 + 1))) else (some true)))) else (gd (fitsP .i64 (x7 + 1)) (K_R4 b12 (x7 + 1))))
def prRight_L0 (s : Stm) (t : Trh) (c : Crd) : Nat → Bool → Int → Option (Bool)
 | 0, _, _ => none
 | d709 + 1, b5, x7 => (if x7 ≤ c.X.Hi then (prRight_L1 s t c x7 (prRight_L0 s t c d709) 1000000 b5 c.Y.Lo) else (some false))
def prRight (s : Stm) (t : Trh) (c : Crd) : Option (Bool) := (prRight_L0 s t c 1000000 false c.X.Lo)
def prAll_L1 (s : Stm) (l762 : List Int) (x3 : Int) (K_R1 : (List Int) → Int → Option (List Int)) : Nat → Int → Int → Option (List Int)
 | 0, _, _ => none
 | d774 + 1, x21, x22 => (if x22 < (s.Cards.length : Int) then ((prNth s x3).bind fun r776 => ((idx s.Cards x22).bind fun v782 => ((prRight s r776 v782).bind fun r785 => (if r785 = true then (gd ((0 : Int) ≤ (1 : Int)) (gd ((0 : Int) ≤ (wrapZ .u64 x22)) (gd ((wrapZ .u64 x22) ≤ (64 : Int)) (gd (fitsP .i64 ((1 : Int) * ((2 : Int) ^ (Int.toNat (wrapZ .u64 x22))))) (gd ((0 : Int) ≤ x21) (gd ((0 : Int) ≤ ((1 : Int) * ((2 : Int) ^ (Int.toNat (wrapZ .u64 x22))))) (gd (fitsP .i64 x21) (gd (fitsP .i64 ((1 : Int) * ((2 : Int) ^ (Int.toNat (wrapZ .u64 x22))))) (gd (fitsP .i64 (((Nat.lor (Int.toNat x21) (Int.toNat ((1 : Int) * ((2 : Int) ^ (Int.toNat (wrapZ .u64 x22)))))) : Nat) : Int)) (gd (fitsP .i64 (x22 + 1)) (prAll_L1 s l762 x3 K_R1 d774 (((Nat.lor (Int.toNat x21) (Int.toNat ((1 : Int) * ((2 : Int) ^ (Int.toNat (wrapZ .u64 x22)))))) : Nat) : Int) (x22 + 1)))))))))))) else (gd (fitsP .i64 (x22 + 1)) (prAll_L1 s l762 x3 K_R1 d774 x21 (x22 + 1))))))) else (gd (l762.length < 1048576) (gd (fitsP .i64 (x3 + 1)) (K_R1 (l762 ++ [x21]) (x3 + 1)))))
def prAll_L0 (s : Stm) : Nat → (List Int) → Int → Option (List Int)
 | 0, _, _ => none
 | d764 + 1, l762, x3 => ((prMany s).bind fun r765 => (if x3 < r765 then (prAll_L1 s l762 x3 (prAll_L0 s d764) 1000000 (0 : Int) (0 : Int)) else (some l762)))
def prAll (s : Stm) : Option (List Int) := (prAll_L0 s 1000000 [] (0 : Int))
def prEvery (s : Stm) : Option (Int) := (gd ((0 : Int) ≤ (1 : Int)) (gd ((0 : Int) ≤ (wrapZ .u64 (s.Cards.length : Int))) (gd ((wrapZ .u64 (s.Cards.length : Int)) ≤ (64 : Int)) (gd (fitsP .i64 ((1 : Int) * ((2 : Int) ^ (Int.toNat (wrapZ .u64 (s.Cards.length : Int)))))) (gd (fitsP .i64 (((1 : Int) * ((2 : Int) ^ (Int.toNat (wrapZ .u64 (s.Cards.length : Int))))) - (1 : Int))) (some (((1 : Int) * ((2 : Int) ^ (Int.toNat (wrapZ .u64 (s.Cards.length : Int))))) - (1 : Int))))))))
def prCan_L0 (all : List Int) (cards : Int) : Nat → Int → Option (Bool)
 | 0, _ => none
 | d831 + 1, x2 => (if x2 < (all.length : Int) then ((idx all x2).bind fun x833 => (gd ((0 : Int) ≤ x833) (gd ((0 : Int) ≤ cards) (gd (fitsP .i64 x833) (gd (fitsP .i64 cards) (gd (fitsP .i64 (((Nat.land (Int.toNat x833) (Int.toNat cards)) : Nat) : Int)) (if (((Nat.land (Int.toNat x833) (Int.toNat cards)) : Nat) : Int) = cards then (some true) else (gd (fitsP .i64 (x2 + 1)) (prCan_L0 all cards d831 (x2 + 1)))))))))) else (some false))
def prCan (all : List Int) (cards : Int) : Option (Bool) := (prCan_L0 all cards (all.length + 1) (0 : Int))
def prFirst_L0 (s : Stm) (all : List Int) : Nat → Int → Option (Int)
 | 0, _ => none
 | d1178 + 1, x3 => (if x3 < (s.Cards.length : Int) then (gd ((0 : Int) ≤ (2 : Int)) (gd ((0 : Int) ≤ (wrapZ .u64 x3)) (gd ((wrapZ .u64 x3) ≤ (64 : Int)) (gd (fitsP .i64 ((2 : Int) * ((2 : Int) ^ (Int.toNat (wrapZ .u64 x3))))) (gd (fitsP .i64 (((2 : Int) * ((2 : Int) ^ (Int.toNat (wrapZ .u64 x3)))) - (1 : Int))) ((prCan all (((2 : Int) * ((2 : Int) ^ (Int.toNat (wrapZ .u64 x3)))) - (1 : Int))).bind fun r1185 => (if r1185 = true then (gd (fitsP .i64 (x3 + 1)) (prFirst_L0 s all d1178 (x3 + 1))) else (some x3)))))))) else (some (-1 : Int)))
def prFirst (s : Stm) (all : List Int) : Option (Int) := (prFirst_L0 s all 1000000 (0 : Int))
def prBits_L0 (bits : Int) : Nat → (List Int) → Int → Option (List Int)
 | 0, _, _ => none
 | d1197 + 1, l1195, x2 => (gd ((0 : Int) ≤ bits) (gd ((0 : Int) ≤ (wrapZ .u64 x2)) (gd ((wrapZ .u64 x2) ≤ (64 : Int)) (gd (fitsP .i64 (bits / ((2 : Int) ^ (Int.toNat (wrapZ .u64 x2))))) (if (0 : Int) < (bits / ((2 : Int) ^ (Int.toNat (wrapZ .u64 x2)))) then (gd ((0 : Int) ≤ bits) (gd ((0 : Int) ≤ (wrapZ .u64 x2)) (gd ((wrapZ .u64 x2) ≤ (64 : Int)) (gd (fitsP .i64 (bits / ((2 : Int) ^ (Int.toNat (wrapZ .u64 x2))))) (gd ((0 : Int) ≤ (bits / ((2 : Int) ^ (Int.toNat (wrapZ .u64 x2))))) (gd ((0 : Int) < (2 : Int)) (gd (fitsP .i64 ((bits / ((2 : Int) ^ (Int.toNat (wrapZ .u64 x2)))) % (2 : Int))) (if ((bits / ((2 : Int) ^ (Int.toNat (wrapZ .u64 x2)))) % (2 : Int)) = (1 : Int) then (gd (l1195.length < 1048576) (gd (fitsP .i64 (x2 + 1)) (prBits_L0 bits d1197 (l1195 ++ [x2]) (x2 + 1)))) else (gd (fitsP .i64 (x2 + 1)) (prBits_L0 bits d1197 l1195 (x2 + 1))))))))))) else (some l1195))))))
def prBits (bits : Int) : Option (List Int) := (prBits_L0 bits 1000000 [] (0 : Int))
def prBefore_L0 (a : List Int) (b : List Int) : Nat → Int → Option (Bool)
 | 0, _ => none
 | d1228 + 1, x2 => (if x2 < (a.length : Int) then (if x2 < (b.length : Int) then ((idx a x2).bind fun x1231 => ((idx b x2).bind fun x1233 => (if x1231 = x1233 then (gd (fitsP .i64 (x2 + 1)) (prBefore_L0 a b d1228 (x2 + 1))) else ((idx a x2).bind fun x1236 => ((idx b x2).bind fun x1238 => (some (decide (x1236 < x1238)))))))) else (some (decide ((a.length : Int) < (b.length : Int))))) else (some (decide ((a.length : Int) < (b.length : Int)))))
def prBefore (a : List Int) (b : List Int) : Option (Bool) := (prBefore_L0 a b (a.length + 1) (0 : Int))
def prShorter (a : List Int) (b : List Int) : Option (Bool) := (if (a.length : Int) < (b.length : Int) then (some true) else (if (a.length : Int) = (b.length : Int) then ((prBefore a b).bind fun r1243 => (some r1243)) else (some false)))
def prLeave_L0 (s : Stm) (all : List Int) : Nat → (List Int) → Int → Option (List Int)
 | 0, _, _ => none
 | d1273 + 1, l1271, x21 => ((prEvery s).bind fun r1274 => (if x21 ≤ r1274 then ((prBits x21).bind fun r1281 => ((prShorter r1281 l1271).bind fun r1290 => (if r1290 = true then ((prEvery s).bind fun r1297 => (gd ((0 : Int) ≤ r1297) (gd ((0 : Int) ≤ x21) (gd (fitsP .i64 r1297) (gd (fitsP .i64 x21) (gd (fitsP .i64 (((Nat.xor (Int.toNat r1297) (Nat.land (Int.toNat r1297) (Int.toNat x21))) : Nat) : Int)) ((prCan all (((Nat.xor (Int.toNat r1297) (Nat.land (Int.toNat r1297) (Int.toNat x21))) : Nat) : Int)).bind fun r1308 => (if r1308 = true then (gd (fitsP .i64 (x21 + 1)) (prLeave_L0 s all d1273 r1281 (x21 + 1))) else (gd (fitsP .i64 (x21 + 1)) (prLeave_L0 s all d1273 l1271 (x21 + 1))))))))))) else (gd (fitsP .i64 (x21 + 1)) (prLeave_L0 s all d1273 l1271 (x21 + 1)))))) else (some l1271)))
def prLeave (s : Stm) (all : List Int) : Option (List Int) := ((prEvery s).bind fun r1253 => ((prBits r1253).bind fun r1259 => (prLeave_L0 s all 1000000 r1259 (0 : Int))))
def prClash_L0 (s : Stm) (all : List Int) : Nat → (List Int) → Bool → Int → Option (List Int × Bool)
 | 0, _, _, _ => none
 | d1328 + 1, l1326, b3, x4 => ((prEvery s).bind fun r1329 => (if x4 ≤ r1329 then ((prBits x4).bind fun r1336 => (if b3 = true then ((prShorter r1336 l1326).bind fun r1355 => (if r1355 = true then ((prCan all x4).bind fun r1362 => (if r1362 = true then (gd (fitsP .i64 (x4 + 1)) (prClash_L0 s all d1328 l1326 b3 (x4 + 1))) else (gd (fitsP .i64 (x4 + 1)) (prClash_L0 s all d1328 r1336 true (x4 + 1))))) else (gd (fitsP .i64 (x4 + 1)) (prClash_L0 s all d1328 l1326 b3 (x4 + 1))))) else ((prCan all x4).bind fun r1346 => (if r1346 = true then (gd (fitsP .i64 (x4 + 1)) (prClash_L0 s all d1328 l1326 b3 (x4 + 1))) else (gd (fitsP .i64 (x4 + 1)) (prClash_L0 s all d1328 r1336 true (x4 + 1))))))) else (some (l1326, b3))))
def prClash (s : Stm) (all : List Int) : Option (List Int × Bool) := (prClash_L0 s all 1000000 [] false (1 : Int))
def plTo (r : Rg) : Option (Rg) := (some r)
def plStorm_L0 (s : Stm) : Nat → Int → Int → Int → Int → Int → Int → Int → Int → Int → Int → Int → (List Crd) → Int → Option (Stm)
 | 0, _, _, _, _, _, _, _, _, _, _, _, _, _ => none
 | d1469 + 1, y1455, y1456, y1457, y1458, y1459, y1460, y1461, y1462, y1463, y1464, y1465, y1466, x33 => (if x33 < (s.Cards.length : Int) then ((idx s.Cards x33).bind fun v1471 => ((plTo v1471.X).bind fun r1490 => ((plTo v1471.Y).bind fun r1499 => ((plTo v1471.Size).bind fun r1508 => (gd (y1466.length < 1048576) (gd (fitsP .i64 (x33 + 1)) (plStorm_L0 s d1469 y1455 y1456 y1457 y1458 y1459 y1460 y1461 y1462 y1463 y1464 y1465 (y1466 ++ [({ X := r1490, Y := r1499, Hail := v1471.Hail, Size := r1508 } : Crd)]) (x33 + 1)))))))) else (some ({ Wide := y1455, High := y1456, Fall := y1457, A := ({ Lo := y1458, Hi := y1459 } : Rg), B := ({ Lo := y1460, Hi := y1461 } : Rg), Half := ({ Lo := y1462, Hi := y1463 } : Rg), Peak := ({ Lo := y1464, Hi := y1465 } : Rg), Cards := y1466 } : Stm)))
def plStorm (s : Stm) : Option (Stm) := ((plTo s.A).bind fun r1408 => ((plTo s.B).bind fun r1416 => ((plTo s.Half).bind fun r1424 => ((plTo s.Peak).bind fun r1432 => (plStorm_L0 s 1000000 s.Wide s.High s.Fall r1408.Lo r1408.Hi r1416.Lo r1416.Hi r1424.Lo r1424.Hi r1432.Lo r1432.Hi [] (0 : Int))))))
def plInts_L0 (a : List Int) (b : List Int) : Nat → Int → Option (Bool)
 | 0, _ => none
 | d1621 + 1, x2 => (if x2 < (a.length : Int) then ((idx a x2).bind fun x1623 => ((idx b x2).bind fun x1625 => (if x1623 = x1625 then (gd (fitsP .i64 (x2 + 1)) (plInts_L0 a b d1621 (x2 + 1))) else (some false)))) else (some true))
def plInts (a : List Int) (b : List Int) : Option (Bool) := (if (a.length : Int) = (b.length : Int) then (plInts_L0 a b (a.length + 1) (0 : Int)) else (some false))
def plThin (s : Stm) : Option (Bool) := (if (s.Cards.length : Int) ≤ (9 : Int) then ((prFault s).bind fun r1635 => (if r1635 = 0 then ((prMany s).bind fun r1642 => (some (decide (r1642 ≤ 300)))) else (some true))) else (some false))
def plFault (s : Stm) : Option (Int) := ((prFault s).bind fun r1653 => (some r1653))
def phas (r : Rg) (n : Int) : Option (Bool) := (if r.Lo ≤ n then (some (decide (n ≤ r.Hi))) else (some false))
def pcount (r : Rg) : Option (Int) := (gd (fitsP .i64 (r.Hi - r.Lo)) (gd (fitsP .i64 ((r.Hi - r.Lo) + (1 : Int))) (some ((r.Hi - r.Lo) + (1 : Int)))))
def pwithin (r : Rg) (low : Int) (high : Int) : Option (Bool) := (if low ≤ r.Lo then (if r.Lo ≤ r.Hi then (some (decide (r.Hi ≤ high))) else (some false)) else (some false))
def prect (c : Crd) : Option (Rct) := (some ({ X := c.X, Y := c.Y } : Rct))
def ptooMany (s : Stm) : Option (Bool) := (if (12 : Int) < s.Wide then (some true) else (if (12 : Int) < s.High then (some true) else (some (decide ((6 : Int) < (s.Cards.length : Int))))))
def phasRect (s : Stm) (r : Rct) : Option (Bool) := (gd (fitsP .i64 (s.Wide - (1 : Int))) ((pwithin r.X (0 : Int) (s.Wide - (1 : Int))).bind fun r2337 => (if r2337 = true then (gd (fitsP .i64 (s.High - (1 : Int))) ((pwithin r.Y (0 : Int) (s.High - (1 : Int))).bind fun r2346 => (some r2346))) else (some false))))
def pvalidCard (w : Wk) (c : Crd) : Option (Bool) := ((prect c).bind fun r2364 => ((phasRect w.s r2364).bind fun r2371 => (if r2371 = true then ((pwithin c.Size (0 : Int) (9 : Int)).bind fun r2379 => (if r2379 = true then (if c.Hail = true then (some true) else (gd (fitsP .i64 c.Size.Lo) (gd (fitsP .i64 (0 : Int)) (gd (fitsP .i64 c.Size.Hi) (gd (fitsP .i64 (0 : Int)) (some ((decide (c.Size.Lo = (0 : Int))) && (decide (c.Size.Hi = (0 : Int)))))))))) else (some false))) else (some false))))
def peachC1 (x : Crd) (passes : Crd → Option (Bool)) : Option (Bool) := ((passes x).bind fun r2397 => (some (!r2397)))
def pindexC_L0 (l : List Crd) (p : Crd → Option (Bool)) : Nat → Int → Option (Int)
 | 0, _ => none
 | d2405 + 1, x2 => (if x2 < (l.length : Int) then ((idx l x2).bind fun v2407 => ((p v2407).bind fun r2410 => (if r2410 = true then (some x2) else (gd (fitsP .i64 (x2 + 1)) (pindexC_L0 l p d2405 (x2 + 1)))))) else (some (-1 : Int)))
def pindexC (l : List Crd) (p : Crd → Option (Bool)) : Option (Int) := (pindexC_L0 l p (l.length + 1) (0 : Int))
def pcontainsC (l : List Crd) (p : Crd → Option (Bool)) : Option (Bool) := ((pindexC l p).bind fun r2417 => (some (decide ((0 : Int) ≤ r2417))))
def peachC (l : List Crd) (passes : Crd → Option (Bool)) : Option (Bool) := ((pcontainsC l (fun a2431 => peachC1 a2431 passes)).bind fun r2433 => (some (!r2433)))
def pvalid (w : Wk) : Option (Bool) := (if (2 : Int) ≤ w.s.Wide then (if (1 : Int) ≤ w.s.High then (if (0 : Int) ≤ w.s.Fall then (if w.s.Fall ≤ (4 : Int) then (gd (fitsP .i64 (w.s.High - (1 : Int))) ((pwithin w.s.A (0 : Int) (w.s.High - (1 : Int))).bind fun r2494 => (if r2494 = true then (gd (fitsP .i64 (w.s.High - (1 : Int))) ((pwithin w.s.B (0 : Int) (w.s.High - (1 : Int))).bind fun r2502 => (if r2502 = true then ((pwithin w.s.Half (0 : Int) (3 : Int)).bind fun r2509 => (if r2509 = true then ((pwithin w.s.Peak (1 : Int) (9 : Int)).bind fun r2516 => (if r2516 = true then ((peachC w.s.Cards (fun a2523 => pvalidCard w a2523)).bind fun r2525 => (some r2525)) else (some false))) else (some false))) else (some false)))) else (some false)))) else (some false)) else (some false)) else (some false)) else (some false))
def pinAll (s : Stm) : Option (Int) := ((pcount s.A).bind fun r2536 => ((pcount s.B).bind fun r2542 => (gd ((0 : Int) ≤ r2536) (gd ((0 : Int) ≤ r2542) (gd (fitsP .i64 (r2536 * r2542)) ((pcount s.Half).bind fun r2551 => (gd ((0 : Int) ≤ (r2536 * r2542)) (gd ((0 : Int) ≤ r2551) (gd (fitsP .i64 ((r2536 * r2542) * r2551)) ((pcount s.Peak).bind fun r2560 => (gd ((0 : Int) ≤ ((r2536 * r2542) * r2551)) (gd ((0 : Int) ≤ r2560) (gd (fitsP .i64 (((r2536 * r2542) * r2551) * r2560)) (some (((r2536 * r2542) * r2551) * r2560)))))))))))))))
def pcheck (s : Stm) : Option (Int) := ((ptooMany s).bind fun r2616 => (if r2616 = true then (some (3 : Int)) else ((pvalid ({ s := s, right := none } : Wk)).bind fun r2623 => (if r2623 = true then ((pinAll s).bind fun r2630 => (if (2000 : Int) < r2630 then (some (3 : Int)) else (some (0 : Int)))) else (some (1 : Int))))))
def pdistance (s : Stm) (t : Trh) (x : Int) (y : Int) : Option (Int) := (gd (fitsP .i64 (s.Wide - (1 : Int))) (gd ((0 : Int) ≤ (s.Wide - (1 : Int))) (gd ((0 : Int) ≤ y) (gd (fitsP .i64 ((s.Wide - (1 : Int)) * y)) (gd (fitsP .i64 ((s.Wide - (1 : Int)) - x)) (gd ((0 : Int) ≤ t.A) (gd ((0 : Int) ≤ ((s.Wide - (1 : Int)) - x)) (gd (fitsP .i64 (t.A * ((s.Wide - (1 : Int)) - x))) (gd ((0 : Int) ≤ t.B) (gd ((0 : Int) ≤ x) (gd (fitsP .i64 (t.B * x)) (gd (fitsP .i64 ((t.A * ((s.Wide - (1 : Int)) - x)) + (t.B * x))) (gd (fitsP .i64 (((s.Wide - (1 : Int)) * y) - ((t.A * ((s.Wide - (1 : Int)) - x)) + (t.B * x)))) (gd (fitsP .i64 ((0 : Int) - (((s.Wide - (1 : Int)) * y) - ((t.A * ((s.Wide - (1 : Int)) - x)) + (t.B * x))))) (some (max (((s.Wide - (1 : Int)) * y) - ((t.A * ((s.Wide - (1 : Int)) - x)) + (t.B * x))) ((0 : Int) - (((s.Wide - (1 : Int)) * y) - ((t.A * ((s.Wide - (1 : Int)) - x)) + (t.B * x))))))))))))))))))))
def phits (s : Stm) (t : Trh) (x : Int) (y : Int) : Option (Bool) := ((pdistance s t x y).bind fun r2673 => (gd (fitsP .i64 (s.Wide - (1 : Int))) (gd ((0 : Int) ≤ (s.Wide - (1 : Int))) (gd ((0 : Int) ≤ t.Half) (gd (fitsP .i64 ((s.Wide - (1 : Int)) * t.Half)) (some (decide (r2673 ≤ ((s.Wide - (1 : Int)) * t.Half)))))))))
def psize (s : Stm) (t : Trh) (x : Int) (y : Int) : Option (Int) := ((phits s t x y).bind fun r2695 => (if r2695 = true then ((pdistance s t x y).bind fun r2703 => (gd (fitsP .i64 (s.Wide - (1 : Int))) (gd ((0 : Int) ≤ r2703) (gd ((0 : Int) < (s.Wide - (1 : Int))) (gd (fitsP .i64 (r2703 / (s.Wide - (1 : Int)))) (gd ((0 : Int) ≤ s.Fall) (gd ((0 : Int) ≤ (r2703 / (s.Wide - (1 : Int)))) (gd (fitsP .i64 (s.Fall * (r2703 / (s.Wide - (1 : Int))))) (gd (fitsP .i64 (t.Peak - (s.Fall * (r2703 / (s.Wide - (1 : Int)))))) (some (max (1 : Int) (t.Peak - (s.Fall * (r2703 / (s.Wide - (1 : Int)))))))))))))))) else (some (0 : Int))))
def pnumbersI_L0 (r : Rg) (r2718 : Int) : Nat → Int → Option (List Int)
 | 0, _ => none
 | d2729 + 1, x6 => (if x6 < r2718 then (gd (fitsP .i64 (r.Lo + x6)) (((gd (fitsP .i64 (x6 + 1)) (pnumbersI_L0 r r2718 d2729 (x6 + 1)))).bind fun r2732 => some ((r.Lo + x6) :: r2732))) else (some []))
def pnumbersI (r : Rg) : Option (List Int) := ((pcount r).bind fun r2718 => (pnumbersI_L0 r r2718 (Int.toNat r2718 + 1) (0 : Int)))
def pnumbers (r : Rg) : Option (List Int) := ((pnumbersI r).bind fun l2755 => (some l2755))
def pplacesI_L0_xret : Option (List (Int × Int)) := (some [])
def pplacesI_L1_xret : Option (List (Int × Int)) := (pplacesI_L0_xret)
def pplacesI_L1 (a2783 : Int) (K_X0 : Option (List (Int × Int))) : List Int → Option (List (Int × Int))
 | [] => (K_X0)
 | a2844 :: q2845 => ((((pplacesI_L1 a2783 K_X0 q2845))).bind fun r2867 => some ((a2783, a2844) :: r2867))
def pplacesI_L0 (r : Rct) : List Int → Option (List (Int × Int))
 | [] => (some [])
 | a2783 :: q2784 => ((pnumbers r.Y).bind fun r2821 => (pplacesI_L1 a2783 ((pplacesI_L0 r q2784)) r2821))
def pplacesI (r : Rct) : Option (List (Int × Int)) := ((pnumbers r.X).bind fun r2764 => (pplacesI_L0 r r2764))
def pplaces (r : Rct) : Option (List (Int × Int)) := ((pplacesI r).bind fun l2905 => (some l2905))
def pisRight_L0_xret (y2958 : Bool) : Option (Bool) := (some y2958)
def pisRight_L0 (s : Stm) (c : Crd) (t : Trh) : List (Int × Int) → Bool → Option (Bool)
 | [], _ => (some false)
 | a2964 :: q2965, y2958 => ((phits s t a2964.1 a2964.2).bind fun r2987 => (if (r2987 == c.Hail) = true then ((psize s t a2964.1 a2964.2).bind fun r2998 => ((phas c.Size r2998).bind fun r3008 => (if r3008 = true then (pisRight_L0_xret true) else ((pisRight_L0 s c t q2965) y2958)))) else ((pisRight_L0 s c t q2965) y2958)))
def pisRight (s : Stm) (c : Crd) (t : Trh) : Option (Bool) := ((prect c).bind fun r2934 => ((pplaces r2934).bind fun r2943 => (pisRight_L0 s c t r2943 false)))
def pupTo_L0 (last : Int) : Nat → Bool → Bool → Bool → Bool → Bool → Bool → Int → Option (Cds)
 | 0, _, _, _, _, _, _, _ => none
 | d3196 + 1, y3190, y3191, y3192, y3193, y3194, y3195, x3 => (if x3 < (last + 1) then (gd (0 ≤ x3 ∧ x3 < 6) (gd (fitsP .i64 (x3 + 1)) (pupTo_L0 last d3196 (sti x3 0 true y3190) (sti x3 1 true y3191) (sti x3 2 true y3192) (sti x3 3 true y3193) (sti x3 4 true y3194) (sti x3 5 true y3195) (x3 + 1)))) else (some ({ c0 := y3190, c1 := y3191, c2 := y3192, c3 := y3193, c4 := y3194, c5 := y3195 } : Cds)))
def pupTo (last : Int) : Option (Cds) := (gd (fitsP .i64 (last + 1)) (pupTo_L0 last (Int.toNat (last + 1) + 1) false false false false false false (0 : Int)))
def pamong_L0 (c : Cds) : Nat → Bool → Bool → Bool → Bool → Bool → Bool → Int → Option (Cds)
 | 0, _, _, _, _, _, _, _ => none
 | d3238 + 1, y3232, y3233, y3234, y3235, y3236, y3237, x4 => (if x4 < 6 then ((idx ([y3232, y3233, y3234, y3235, y3236, y3237] : List Bool) x4).bind fun v3241 => (if v3241 = true then ((idx ([c.c0, c.c1, c.c2, c.c3, c.c4, c.c5] : List Bool) x4).bind fun v3244 => (gd (0 ≤ x4 ∧ x4 < 6) (gd (fitsP .i64 (x4 + 1)) (pamong_L0 c d3238 (sti x4 0 v3244 y3232) (sti x4 1 v3244 y3233) (sti x4 2 v3244 y3234) (sti x4 3 v3244 y3235) (sti x4 4 v3244 y3236) (sti x4 5 v3244 y3237) (x4 + 1))))) else (gd (0 ≤ x4 ∧ x4 < 6) (gd (fitsP .i64 (x4 + 1)) (pamong_L0 c d3238 (sti x4 0 false y3232) (sti x4 1 false y3233) (sti x4 2 false y3234) (sti x4 3 false y3235) (sti x4 4 false y3236) (sti x4 5 false y3237) (x4 + 1)))))) else (some ({ c0 := y3232, c1 := y3233, c2 := y3234, c3 := y3235, c4 := y3236, c5 := y3237 } : Cds)))
def pamong (c : Cds) (these : Cds) : Option (Cds) := (pamong_L0 c (Int.toNat (6 : Int) + 1) these.c0 these.c1 these.c2 these.c3 these.c4 these.c5 (0 : Int))
def prightCards_L0 (w : Wk) (t : Trh) : Nat → Bool → Bool → Bool → Bool → Bool → Bool → Int → Option (Cds)
 | 0, _, _, _, _, _, _, _ => none
 | d3304 + 1, y3298, y3299, y3300, y3301, y3302, y3303, x6 => (if x6 < (w.s.Cards.length : Int) then ((idx w.s.Cards x6).bind fun v3306 => ((pisRight w.s v3306 t).bind fun r3327 => (gd (0 ≤ x6 ∧ x6 < 6) (gd (fitsP .i64 (x6 + 1)) (prightCards_L0 w t d3304 (sti x6 0 r3327 y3298) (sti x6 1 r3327 y3299) (sti x6 2 r3327 y3300) (sti x6 3 r3327 y3301) (sti x6 4 r3327 y3302) (sti x6 5 r3327 y3303) (x6 + 1)))))) else (some ({ c0 := y3298, c1 := y3299, c2 := y3300, c3 := y3301, c4 := y3302, c5 := y3303 } : Cds)))
def prightCards (w : Wk) (t : Trh) : Option (Cds) := (prightCards_L0 w t (w.s.Cards.length + 1) false false false false false false (0 : Int))
def pallCards (w : Wk) : Option (Cds) := (gd (fitsP .i64 ((w.s.Cards.length : Int) - (1 : Int))) ((pupTo ((w.s.Cards.length : Int) - (1 : Int))).bind fun r3368 => (some r3368)))
def pchoicesI_L0_xret : Option (List Trh) := (some [])
def pchoicesI_L1_xret : Option (List Trh) := (pchoicesI_L0_xret)
def pchoicesI_L2_xret : Option (List Trh) := (pchoicesI_L1_xret)
def pchoicesI_L3_xret : Option (List Trh) := (pchoicesI_L2_xret)
def pchoicesI_L3 (a3406 : Int) (a3467 : Int) (a3538 : Int) (K_X2 : Option (List Trh)) : List Int → Option (List Trh)
 | [] => (K_X2)
 | a3619 :: q3620 => ((((pchoicesI_L3 a3406 a3467 a3538 K_X2 q3620))).bind fun r3646 => some (({ A := a3406, B := a3467, Half := a3538, Peak := a3619 } : Trh) :: r3646))
def pchoicesI_L2 (s : Stm) (a3406 : Int) (a3467 : Int) (K_X1 : Option (List Trh)) : List Int → Option (List Trh)
 | [] => (K_X1)
 | a3538 :: q3539 => ((pnumbers s.Peak).bind fun r3588 => (pchoicesI_L3 a3406 a3467 a3538 ((pchoicesI_L2 s a3406 a3467 K_X1 q3539)) r3588))
def pchoicesI_L1 (s : Stm) (a3406 : Int) (K_X0 : Option (List Trh)) : List Int → Option (List Trh)
 | [] => (K_X0)
 | a3467 :: q3468 => ((pnumbers s.Half).bind fun r3511 => (pchoicesI_L2 s a3406 a3467 ((pchoicesI_L1 s a3406 K_X0 q3468)) r3511))
def pchoicesI_L0 (s : Stm) : List Int → Option (List Trh)
 | [] => (some [])
 | a3406 :: q3407 => ((pnumbers s.B).bind fun r3444 => (pchoicesI_L1 s a3406 ((pchoicesI_L0 s q3407)) r3444))
def pchoicesI (s : Stm) : Option (List Trh) := ((pnumbers s.A).bind fun r3387 => (pchoicesI_L0 s r3387))
def pchoices (s : Stm) : Option (List Trh) := ((pchoicesI s).bind fun l3700 => (some l3700))
def popen_L0 (s : Stm) : List Trh → (Option (Trh → Option (Cds))) → Option (Wk)
 | [], w3752 => (some ({ s := s, right := w3752 } : Wk))
 | a3754 :: q3755, w3752 => ((prightCards ({ s := s, right := w3752 } : Wk) a3754).bind fun r3807 => (gd (MK.fit a3754) ((mset w3752 a3754 r3807).bind fun w3819 => ((popen_L0 s q3755) w3819))))
def popen (s : Stm) : Option (Wk) := ((pchoices s).bind fun r3737 => (popen_L0 s r3737 (some fun _ => none : Option (Trh → Option (Cds)))))
def pcanHold_L0_xret (y4033 : Bool) : Option (Bool) := (some y4033)
def pcanHold_L0 (w : Wk) (these : Cds) : List Trh → Bool → Option (Bool)
 | [], _ => (some false)
 | a4039 :: q4040, y4033 => (gd (MK.fit a4039) (mcase (mget w.right a4039) ((pamong ({ c0 := false, c1 := false, c2 := false, c3 := false, c4 := false, c5 := false } : Cds) these).bind fun r4083 => (if ((r4083.c0 == these.c0) && ((r4083.c1 == these.c1) && ((r4083.c2 == these.c2) && ((r4083.c3 == these.c3) && ((r4083.c4 == these.c4) && (r4083.c5 == these.c5)))))) = true then (pcanHold_L0_xret true) else ((pcanHold_L0 w these q4040) y4033))) fun w4082 => ((pamong w4082 these).bind fun r4103 => (if ((r4103.c0 == these.c0) && ((r4103.c1 == these.c1) && ((r4103.c2 == these.c2) && ((r4103.c3 == these.c3) && ((r4103.c4 == these.c4) && (r4103.c5 == these.c5)))))) = true then (pcanHold_L0_xret true) else ((pcanHold_L0 w these q4040) y4033)))))
def pcanHold (w : Wk) (these : Cds) : Option (Bool) := ((pchoices w.s).bind fun r4020 => (pcanHold_L0 w these r4020 false))
def phasTruth (w : Wk) : Option (Bool) := ((pallCards w).bind fun r4139 => ((pcanHold w r4139).bind fun r4145 => (some r4145)))
def pFirst_L0 (r5139 : Wk) : Nat → Int → Option (Int × Int)
 | 0, _ => none
 | d5164 + 1, x49 => (if x49 < (r5139.s.Cards.length : Int) then ((pupTo x49).bind fun r5166 => ((pcanHold r5139 r5166).bind fun r5173 => (if r5173 = true then (gd (fitsP .i64 (x49 + 1)) (pFirst_L0 r5139 d5164 (x49 + 1))) else (some (x49, (0 : Int)))))) else (some ((0 : Int), (7 : Int))))
def pFirst (s : Stm) : Option (Int × Int) := ((pcheck s).bind fun r5132 => (if r5132 = 0 then ((popen s).bind fun r5139 => (pFirst_L0 r5139 (r5139.s.Cards.length + 1) (0 : Int))) else (some ((0 : Int), r5132))))
def pclash_L0 (w : Wk) (list : List Int) : Nat → Bool → Bool → Bool → Bool → Bool → Bool → Int → Option (Bool)
 | 0, _, _, _, _, _, _, _ => none
 | d5201 + 1, y5195, y5196, y5197, y5198, y5199, y5200, x3 => (if x3 < (list.length : Int) then ((idx list x3).bind fun x5203 => (gd (0 ≤ x5203 ∧ x5203 < 6) (gd (fitsP .i64 (x3 + 1)) (pclash_L0 w list d5201 (sti x5203 0 true y5195) (sti x5203 1 true y5196) (sti x5203 2 true y5197) (sti x5203 3 true y5198) (sti x5203 4 true y5199) (sti x5203 5 true y5200) (x3 + 1))))) else ((pcanHold w ({ c0 := y5195, c1 := y5196, c2 := y5197, c3 := y5198, c4 := y5199, c5 := y5200 } : Cds)).bind fun r5213 => (some (!r5213))))
def pclash (w : Wk) (list : List Int) : Option (Bool) := (pclash_L0 w list (list.length + 1) false false false false false false (0 : Int))
def pcanLeave_L0 (w : Wk) (list : List Int) : Nat → Bool → Bool → Bool → Bool → Bool → Bool → Int → Option (Bool)
 | 0, _, _, _, _, _, _, _ => none
 | d5251 + 1, y5245, y5246, y5247, y5248, y5249, y5250, x25 => (if x25 < (list.length : Int) then ((idx list x25).bind fun x5253 => (gd (0 ≤ x5253 ∧ x5253 < 6) (gd (fitsP .i64 (x25 + 1)) (pcanLeave_L0 w list d5251 (sti x5253 0 false y5245) (sti x5253 1 false y5246) (sti x5253 2 false y5247) (sti x5253 3 false y5248) (sti x5253 4 false y5249) (sti x5253 5 false y5250) (x25 + 1))))) else ((pcanHold w ({ c0 := y5245, c1 := y5246, c2 := y5247, c3 := y5248, c4 := y5249, c5 := y5250 } : Cds)).bind fun r5263 => (some r5263)))
def pcanLeave (w : Wk) (list : List Int) : Option (Bool) := ((pallCards w).bind fun r5225 => (pcanLeave_L0 w list (list.length + 1) r5225.c0 r5225.c1 r5225.c2 r5225.c3 r5225.c4 r5225.c5 (0 : Int)))
def pshortest1 (list : List Int) (q : Qst) (w : Wk) : Option (Bool) := ((q.must w list).bind fun r5270 => (some r5270))
def pshortestX (w : Wk) (q : Qst) : Option (List Int) := ((pshortest (w.s.Cards.length : Int) (fun a5295 => pshortest1 a5295 q w)).bind fun r5299 => (some r5299))
def pLeave (s : Stm) : Option (List Int × Int) := ((pcheck s).bind fun r5312 => (if r5312 = 0 then ((popen s).bind fun r5319 => ((pshortestX r5319 ({ must := (fun a5330 a5331 => pcanLeave a5330 a5331) } : Qst)).bind fun r5339 => (some (r5339, (0 : Int))))) else (some ([], r5312))))
def pClash (s : Stm) : Option (List Int × Int) := ((pcheck s).bind fun r5353 => (if r5353 = 0 then ((popen s).bind fun r5360 => ((phasTruth r5360).bind fun r5383 => (if r5383 = true then (some ([], (7 : Int))) else ((pshortestX r5360 ({ must := (fun a5391 a5392 => pclash a5391 a5392) } : Qst)).bind fun r5400 => (some (r5400, (0 : Int))))))) else (some ([], r5353))))
def pStormLeaves (s : Stm) : Option (Bool) := ((plThin s).bind fun r5915 => (if r5915 = true then ((plStorm s).bind fun r5928 => ((pFirst r5928).bind fun r5937 => ((plStorm s).bind fun r5943 => ((pLeave r5943).bind fun r5952 => ((plStorm s).bind fun r5961 => ((pClash r5961).bind fun r5970 => ((plFault s).bind fun r5979 => (if r5979 = 0 then ((prAll s).bind fun r5998 => (if r5952.2 = (0 : Int) then ((prLeave s r5998).bind fun r6008 => ((plInts r5952.1 r6008).bind fun r6017 => (if r6017 = true then ((prClash s r5998).bind fun r6024 => (if r6024.2 = true then (if r5937.2 = (0 : Int) then ((prFirst s r5998).bind fun r6045 => (if r5937.1 = r6045 then (if r5970.2 = (0 : Int) then ((plInts r5970.1 r6024.1).bind fun r6053 => (if r6053 = true then ((pawake).bind fun r6060 => (some r6060)) else (some false))) else (some false)) else (some false))) else (some false)) else (if r5937.2 = (7 : Int) then (if r5970.2 = (7 : Int) then (if r5937.1 = (0 : Int) then (if (r5970.1.length : Int) = (0 : Int) then ((pawake).bind fun r6038 => (some r6038)) else (some false)) else (some false)) else (some false)) else (some false)))) else (some false)))) else (some false))) else (if r5937.2 = r5979 then (if r5952.2 = r5979 then (if r5970.2 = r5979 then (if r5937.1 = (0 : Int) then (gd (fitsP .i64 ((r5952.1.length : Int) + (r5970.1.length : Int))) (if ((r5952.1.length : Int) + (r5970.1.length : Int)) = (0 : Int) then ((pawake).bind fun r5992 => (some r5992)) else (some false))) else (some false)) else (some false)) else (some false)) else (some false)))))))))) else ((pawake).bind fun r5922 => (some r5922))))
end
end Go.Proofs.Ytbnfnhfanooplaa

namespace Go.Proofs.Ytbnfnhfanooplaa
open _root_.Go.Proofs.Try
open Go.Abs
set_option maxRecDepth 100000
noncomputable section
theorem c135 {a100 : Int} {a101 : Int} {a102 : Int} {a103 : Int} {a104 : Bool} {a105 : Int} {a106 : Int} {b0 : Nat} {m : M} {Q : V → M → Prop} (h :
 (∀ m0 : M, (m0 = (M.new m (AO.cells 7 [(Il a100), (Il a101), (Il a102), 
 (Il a103), (.bool a104), (Il a105), (Il a106)] false))) → 
 ∃ c1 : C, ((ldC m0 (.ptr b0 0)) = (some c1)) ∧ ∃ x2 x3 x4 x5, 
 ∃ b6 : Bool, ∃ x7 x8, ((ldA m0 (.ptr m.nxt 0) 7) = (some [(Il x2), 
 (Il x3), (Il x4), (Il x5), (.bool b6), (Il x7), 
 (Il x8)])) ∧ callP prog tbl [(.agg 7 [(Il x2), (Il x3), 
 (Il x4), (Il x5), (.bool b6), (Il x7), (Il x8)])] c1 m0 (fun v9 m10 => 
 ∃ b11 : Bool, (v9 = (.c (.bool b11))) ∧ Q (.c (.bool (!b11))) m10))) : Wc prog tbl 135 [.agg 7 [Il a100, Il a101, Il a102, Il a103, .bool a104, Il a105, Il a106], .c (.ptr b0 0)] m Q :=
 wc_eq (n := 2) rfl (by kernel_rfl) (by kernel_rfl) h
theorem c129 {a100 : C} {b0 : Nat} {m : M} {Q : V → M → Prop} (h :
 (∃ x0 x1, ((ldA m (.ptr b0 0) 2) = (some [(Il x0), (Il x1)])) ∧ 
 Wc prog tbl 125 [(.agg 2 [(Il x0), (Il x1)])] m (fun v2 m3 => ∃ x4, 
 (v2 = (.c (Il x4))) ∧ ∀ R5 : List V → M → Prop, (∀ x6 : Int, ∀ m7 : M, (ifB (decide (x6 < x4)) (isPt (.ptr b0 0) ∧ 
 ∃ x8, ((ldC m7 (.ptr b0 0)) = (some (Il x8))) ∧ fitsP .i64 (x8 + x6) ∧ 
 callP prog tbl [(.c (Il (x8 + x6)))] a100 m7 (fun v9 m10 => ∃ b11 : Bool, 
 (v9 = (.c (.bool b11))) ∧ ifB (!b11) (Q (.tup []) m10) (fitsP .i64 (x6 + 1) ∧ 
 R5 [(.c (Il (x6 + 1)))] m10))) (Q (.tup []) m7)) → 
 R5 [(.c (Il x6))] m7) → R5 [(.c (Il 0))] m3))) : Wc prog tbl 129 [.c (a100), .c (.ptr b0 0)] m Q :=
 wc_eq (n := 2) rfl (by kernel_rfl) (by kernel_rfl) h
theorem c114 {a100 : C} {b0 : Nat} {m : M} {Q : V → M → Prop} (h :
 (∀ m0 : M, (m0 = (M.new m (AO.cells 1 [a100] false))) → isPt (.ptr b0 0) ∧ ∃ x1 x2, ((ldA m0 (.ptr b0 0) 2) = (some [(Il x1), 
 (Il x2)])) ∧ Wc prog tbl 115 [(.agg 2 [(Il x1), (Il x2)])] m0 (fun v3 m4 => 
 ∃ c5 : C, (v3 = (.c c5)) ∧ rangeP prog tbl c5 m4 (fun l6 m7 R8 R9 => ∃ x10, (l6 = [(.c (Il x10))]) ∧ 
 ∀ m11 : M, (m11 = (M.new m7 (AO.cells 1 [(Il 0)] false))) → ∃ m12 : M, 
 ((stC m11 (.ptr m7.nxt 0) 1 [(Il x10)]) = (some m12)) ∧ R8 m12 (fun m13 => 
 isPt (.ptr b0 0) ∧ ∃ x14 x15, ((ldA m13 (.ptr b0 2) 2) = (some [(Il x14), 
 (Il x15)])) ∧ Wc prog tbl 115 [(.agg 2 [(Il x14), 
 (Il x15)])] m13 (fun v16 m17 => ∃ c18 : C, (v16 = (.c c18)) ∧ 
 rangeP prog tbl c18 m17 (fun l19 m20 R21 R22 => ∃ x23, (l19 = [(.c (Il x23))]) ∧ 
 R21 m20 (fun m24 => ∃ c25 : C, ((ldC m24 (.ptr m.nxt 0)) = (some c25)) ∧ 
 ∃ x26, ((ldC m24 (.ptr m7.nxt 0)) = (some (Il x26))) ∧ 
 callP prog tbl [(.c (Il x26)), (.c (Il x23))] c25 m24 (fun v27 m28 => 
 ∃ b29 : Bool, (v27 = (.c (.bool b29))) ∧ ifB (!b29) (R22 Ex.ret m28) (R22 Ex.nrm m28)))) (After.mk (fun m30 => 
 R9 Ex.nrm m30) [] (fun m31 => R9 Ex.ret m31))))) (After.mk (fun m32 => 
 Q (.tup []) m32) [] (fun m33 => Q (.tup []) m33))))) : Wc prog tbl 114 [.c (a100), .c (.ptr b0 0)] m Q :=
 wc_eq (n := 2) rfl (by kernel_rfl) (by kernel_rfl) h
theorem c130 {a100 : C} {b0 : Nat} {m : M} {Q : V → M → Prop} (h :
 (∀ m0 : M, (m0 = (M.new m (AO.cells 1 [a100] false))) → isPt (.ptr b0 0) ∧ ∃ x1 x2, ((ldA m0 (.ptr b0 3) 2) = (some [(Il x1), 
 (Il x2)])) ∧ Wc prog tbl 115 [(.agg 2 [(Il x1), (Il x2)])] m0 (fun v3 m4 => 
 ∃ c5 : C, (v3 = (.c c5)) ∧ rangeP prog tbl c5 m4 (fun l6 m7 R8 R9 => ∃ x10, (l6 = [(.c (Il x10))]) ∧ 
 ∀ m11 : M, (m11 = (M.new m7 (AO.cells 1 [(Il 0)] false))) → ∃ m12 : M, 
 ((stC m11 (.ptr m7.nxt 0) 1 [(Il x10)]) = (some m12)) ∧ R8 m12 (fun m13 => 
 isPt (.ptr b0 0) ∧ ∃ x14 x15, ((ldA m13 (.ptr b0 5) 2) = (some [(Il x14), 
 (Il x15)])) ∧ Wc prog tbl 115 [(.agg 2 [(Il x14), 
 (Il x15)])] m13 (fun v16 m17 => ∃ c18 : C, (v16 = (.c c18)) ∧ 
 rangeP prog tbl c18 m17 (fun l19 m20 R21 R22 => ∃ x23, (l19 = [(.c (Il x23))]) ∧ 
 ∀ m24 : M, (m24 = (M.new m20 (AO.cells 1 [(Il 0)] false))) → 
 ∃ m25 : M, ((stC m24 (.ptr m20.nxt 0) 1 [(Il x23)]) = (some m25)) ∧ 
 R21 m25 (fun m26 => isPt (.ptr b0 0) ∧ ∃ x27 x28, ((ldA m26 (.ptr b0 7) 2) = (some [(Il x27), 
 (Il x28)])) ∧ Wc prog tbl 115 [(.agg 2 [(Il x27), 
 (Il x28)])] m26 (fun v29 m30 => ∃ c31 : C, (v29 = (.c c31)) ∧ 
 rangeP prog tbl c31 m30 (fun l32 m33 R34 R35 => ∃ x36, (l32 = [(.c (Il x36))]) ∧ 
 ∀ m37 : M, (m37 = (M.new m33 (AO.cells 1 [(Il 0)] false))) → 
 ∃ m38 : M, ((stC m37 (.ptr m33.nxt 0) 1 [(Il x36)]) = (some m38)) ∧ 
 R34 m38 (fun m39 => isPt (.ptr b0 0) ∧ ∃ x40 x41, ((ldA m39 (.ptr b0 9) 2) = (some [(Il x40), 
 (Il x41)])) ∧ Wc prog tbl 115 [(.agg 2 [(Il x40), 
 (Il x41)])] m39 (fun v42 m43 => ∃ c44 : C, (v42 = (.c c44)) ∧ 
 rangeP prog tbl c44 m43 (fun l45 m46 R47 R48 => ∃ x49, (l45 = [(.c (Il x49))]) ∧ 
 R47 m46 (fun m50 => ∃ c51 : C, ((ldC m50 (.ptr m.nxt 0)) = (some c51)) ∧ 
 ∃ x52, ((ldC m50 (.ptr m7.nxt 0)) = (some (Il x52))) ∧ 
 ∃ x53, ((ldC m50 (.ptr m20.nxt 0)) = (some (Il x53))) ∧ 
 ∃ x54, ((ldC m50 (.ptr m33.nxt 0)) = (some (Il x54))) ∧ 
 callP prog tbl [(.agg 4 [(Il x52), (Il x53), 
 (Il x54), (Il x49)])] c51 m50 (fun v55 m56 => ∃ b57 : Bool, 
 (v55 = (.c (.bool b57))) ∧ ifB (!b57) (R48 Ex.ret m56) (R48 Ex.nrm m56)))) (After.mk (fun m58 => 
 R35 Ex.nrm m58) [] (fun m59 => R35 Ex.ret m59))))) (After.mk (fun m60 => 
 R22 Ex.nrm m60) [] (fun m61 => R22 Ex.ret m61))))) (After.mk (fun m62 => 
 R9 Ex.nrm m62) [] (fun m63 => R9 Ex.ret m63))))) (After.mk (fun m64 => 
 Q (.tup []) m64) [] (fun m65 => Q (.tup []) m65))))) : Wc prog tbl 130 [.c (a100), .c (.ptr b0 0)] m Q :=
 wc_eq (n := 2) rfl (by kernel_rfl) (by kernel_rfl) h
theorem c119 {a100 : C} {b0 : Nat} {b1 : Nat} {m : M} {Q : V → M → Prop} (h :
 (isPt (.ptr b0 0) ∧ ∃ c0 : C, ((ldC m (.ptr b0 0)) = (some c0)) ∧ ∃ x1 x2 x3, 
 ∃ x4 x5 x6 x7 x8 x9 x10 x11, 
 ∃ c12 : C, ∃ c13 : C, ((ldA m (.ptr b1 0) 13) = (some [(Il x1), (Il x2), 
 (Il x3), (Il x4), (Il x5), (Il x6), 
 (Il x7), (Il x8), (Il x9), (Il x10), 
 (Il x11), c12, c13])) ∧ callP prog tbl [(.agg 13 [(Il x1), 
 (Il x2), (Il x3), (Il x4), (Il x5), 
 (Il x6), (Il x7), (Il x8), (Il x9), 
 (Il x10), (Il x11), c12, c13]), (.c a100)] c0 m (fun v14 m15 => 
 ∃ b16 : Bool, (v14 = (.c (.bool b16))) ∧ Q (.c (.bool b16)) m15))) : Wc prog tbl 119 [.c (a100), .c (.ptr b0 0), .c (.ptr b1 0)] m Q :=
 wc_eq (n := 3) rfl (by kernel_rfl) (by kernel_rfl) h
end
end Go.Proofs.Ytbnfnhfanooplaa

namespace Go.Proofs.Ytbnfnhfanooplaa
open _root_.Go.Proofs.Try
open Go.Abs
set_option maxRecDepth 100000
noncomputable section
theorem w16 {a100 : Int} {a101 : Int} {a102 : Int} {a103 : Int} {a104 : Int} {a105 : Int} {a106 : Int} {a107 : Int} {a108 : Int} {a109 : Int} {a110 : Int} {a111 : C} {m : M} {Q : V → M → Prop} (h :
 (∀ m0 : M, (m0 = (M.new m (AO.cells 12 [(Il a100), (Il a101), (Il a102), 
 (Il a103), (Il a104), (Il a105), (Il a106), 
 (Il a107), (Il a108), (Il a109), (Il a110), 
 a111] false))) → isPt (.ptr m.nxt 0) ∧ ∃ c1 : C, ((ldC m0 (.ptr m.nxt 11)) = (some c1)) ∧ 
 isSl c1 ∧ ifB (decide ((((slLen c1) : Nat) : Int) ≤ (9 : Int))) (∃ x2 x3 x4, 
 ∃ x5 x6 x7 x8 x9 x10 x11 x12, 
 ∃ c13 : C, ((ldA m0 (.ptr m.nxt 0) 12) = (some [(Il x2), (Il x3), 
 (Il x4), (Il x5), (Il x6), (Il x7), 
 (Il x8), (Il x9), (Il x10), (Il x11), 
 (Il x12), c13])) ∧ Wc prog tbl 66 [(.agg 12 [(Il x2), 
 (Il x3), (Il x4), (Il x5), (Il x6), 
 (Il x7), (Il x8), (Il x9), (Il x10), 
 (Il x11), (Il x12), c13])] m0 (fun v14 m15 => ∃ x16, 
 (v14 = (.c (Il x16))) ∧ ifB (!decide (x16 = 0)) (Q (.c (.bool true)) m15) (∃ x17, 
 ∃ x18 x19 x20 x21 x22 x23, 
 ∃ x24 x25 x26 x27, ∃ c28 : C, ((ldA m15 (.ptr m.nxt 0) 12) = (some [(Il x17), 
 (Il x18), (Il x19), (Il x20), (Il x21), 
 (Il x22), (Il x23), (Il x24), (Il x25), 
 (Il x26), (Il x27), c28])) ∧ Wc prog tbl 67 [(.agg 12 [(Il x17), 
 (Il x18), (Il x19), (Il x20), (Il x21), 
 (Il x22), (Il x23), (Il x24), (Il x25), 
 (Il x26), (Il x27), c28])] m15 (fun v29 m30 => 
 ∃ x31, (v29 = (.c (Il x31))) ∧ Q (.c (.bool (decide (x31 ≤ 300)))) m30)))) (Q (.c (.bool false)) m0))) : Wc prog tbl 16 [(.agg 12 [(Il a100), (Il a101), (Il a102), (Il a103), (Il a104), (Il a105), (Il a106), (Il a107), (Il a108), (Il a109), (Il a110), a111])] m Q :=
 wc_eq (n := 1) rfl (by kernel_rfl) (by kernel_rfl) h
theorem w23 {a100 : Int} {a101 : Int} {a102 : Int} {a103 : Int} {a104 : Int} {a105 : Int} {a106 : Int} {a107 : Int} {a108 : Int} {a109 : Int} {a110 : Int} {a111 : C} {m : M} {Q : V → M → Prop} (h :
 (∀ m0 : M, (m0 = (M.new m (AO.cells 12 [(Il a100), (Il a101), (Il a102), 
 (Il a103), (Il a104), (Il a105), (Il a106), 
 (Il a107), (Il a108), (Il a109), (Il a110), 
 a111] false))) → ∃ x1 x2 x3 x4 x5 x6 x7, 
 ∃ x8 x9 x10 x11, ∃ c12 : C, ((ldA m0 (.ptr m.nxt 0) 12) = (some [(Il x1), 
 (Il x2), (Il x3), (Il x4), (Il x5), 
 (Il x6), (Il x7), (Il x8), (Il x9), 
 (Il x10), (Il x11), c12])) ∧ Wc prog tbl 66 [(.agg 12 [(Il x1), 
 (Il x2), (Il x3), (Il x4), (Il x5), 
 (Il x6), (Il x7), (Il x8), (Il x9), 
 (Il x10), (Il x11), c12])] m0 (fun v13 m14 => ∃ x15, 
 (v13 = (.c (Il x15))) ∧ Q (.c (Il x15)) m14))) : Wc prog tbl 23 [(.agg 12 [(Il a100), (Il a101), (Il a102), (Il a103), (Il a104), (Il a105), (Il a106), (Il a107), (Il a108), (Il a109), (Il a110), a111])] m Q :=
 wc_eq (n := 1) rfl (by kernel_rfl) (by kernel_rfl) h
theorem w32 {a100 : Int} {a101 : Int} {m : M} {Q : V → M → Prop} (h :
 (∀ m0 : M, (m0 = (M.new m (AO.cells 2 [(Il a100), (Il a101)] false))) → ∀ m1 : M, 
 (m1 = (M.new m0 (AO.cells 2 [(Il 0), (Il 0)] false))) → isPt (.ptr m.nxt 0) ∧ 
 ∃ x2, ((ldC m1 (.ptr m.nxt 0)) = (some (Il x2))) ∧ isPt (.ptr m.nxt 0) ∧ 
 ∃ x3, ((ldC m1 (.ptr m.nxt 1)) = (some (Il x3))) ∧ ∃ m4 : M, ((stC m1 (.ptr m0.nxt 0) 2 [(Il x2), 
 (Il x3)]) = (some m4)) ∧ ∃ x5 x6, ((ldA m4 (.ptr m0.nxt 0) 2) = (some [(Il x5), 
 (Il x6)])) ∧ Q (.agg 2 [(Il x5), (Il x6)]) m4)) : Wc prog tbl 32 [(.agg 2 [(Il a100), (Il a101)])] m Q :=
 wc_eq (n := 1) rfl (by kernel_rfl) (by kernel_rfl) h
theorem w35 {a100 : Int} {a101 : Int} {a102 : Int} {a103 : Int} {a104 : Int} {a105 : Int} {a106 : Int} {a107 : Int} {a108 : Int} {a109 : Int} {a110 : Int} {a111 : C} {m : M} {Q : V → M → Prop} (h :
 (∀ m0 : M, (m0 = (M.new m (AO.cells 12 [(Il a100), (Il a101), (Il a102), 
 (Il a103), (Il a104), (Il a105), (Il a106), 
 (Il a107), (Il a108), (Il a109), (Il a110), 
 a111] false))) → ∃ x1 x2 x3 x4 x5 x6 x7, 
 ∃ x8 x9 x10 x11, ∃ c12 : C, ((ldA m0 (.ptr m.nxt 0) 12) = (some [(Il x1), 
 (Il x2), (Il x3), (Il x4), (Il x5), 
 (Il x6), (Il x7), (Il x8), (Il x9), 
 (Il x10), (Il x11), c12])) ∧ Wc prog tbl 48 [(.agg 12 [(Il x1), 
 (Il x2), (Il x3), (Il x4), (Il x5), 
 (Il x6), (Il x7), (Il x8), (Il x9), 
 (Il x10), (Il x11), c12])] m0 (fun v13 m14 => ∃ x15, 
 (v13 = (.c (Il x15))) ∧ ifB (!decide (x15 = 0)) (Q (.tup [(.c (Il 0)), 
 (.c (Il x15))]) m14) (∃ x16 x17 x18 x19, 
 ∃ x20 x21 x22 x23 x24 x25, 
 ∃ x26, ∃ c27 : C, ((ldA m14 (.ptr m.nxt 0) 12) = (some [(Il x16), 
 (Il x17), (Il x18), (Il x19), (Il x20), 
 (Il x21), (Il x22), (Il x23), (Il x24), 
 (Il x25), (Il x26), c27])) ∧ Wc prog tbl 81 [(.agg 12 [(Il x16), 
 (Il x17), (Il x18), (Il x19), (Il x20), 
 (Il x21), (Il x22), (Il x23), (Il x24), 
 (Il x25), (Il x26), c27])] m14 (fun v28 m29 => 
 ∃ x30 x31 x32 x33 x34 x35, 
 ∃ x36 x37 x38 x39 x40, ∃ c41 : C, 
 ∃ c42 : C, (v28 = (.agg 13 [(Il x30), (Il x31), 
 (Il x32), (Il x33), (Il x34), (Il x35), 
 (Il x36), (Il x37), (Il x38), (Il x39), 
 (Il x40), c41, c42])) ∧ ∀ m43 : M, (m43 = (M.new m29 (AO.cells 13 [(Il 0), 
 (Il 0), (Il 0), (Il 0), 
 (Il 0), (Il 0), (Il 0), 
 (Il 0), (Il 0), (Il 0), 
 (Il 0), C.sl0, C.map0] false))) → ∃ m44 : M, ((stC m43 (.ptr m29.nxt 0) 13 [(Il x30), 
 (Il x31), (Il x32), (Il x33), (Il x34), 
 (Il x35), (Il x36), (Il x37), (Il x38), 
 (Il x39), (Il x40), c41, c42]) = (some m44)) ∧ 
 isPt (.ptr m29.nxt 0) ∧ isPt (.ptr m29.nxt 0) ∧ ∃ c45 : C, ((ldC m44 (.ptr m29.nxt 11)) = (some c45)) ∧ 
 isSl c45 ∧ ∀ R46 : List V → M → Prop, (∀ x47 : Int, ∀ x48 : Int, ∀ x49 : Int, 
 ∀ m50 : M, (ifB (decide (x49 < (((slLen c45) : Nat) : Int))) (∃ x51, 
 ∃ x52 x53 x54 x55 x56 x57, 
 ∃ x58 x59 x60 x61, ∃ c62 : C, ∃ c63 : C, 
 ((ldA m50 (.ptr m29.nxt 0) 13) = (some [(Il x51), (Il x52), 
 (Il x53), (Il x54), (Il x55), (Il x56), 
 (Il x57), (Il x58), (Il x59), (Il x60), 
 (Il x61), c62, c63])) ∧ Wc prog tbl 83 [(.c (Il x49))] m50 (fun v64 m65 => 
 ∃ b66 : Bool, ∃ b67 : Bool, ∃ b68 : Bool, ∃ b69 : Bool, ∃ b70 : Bool, ∃ b71 : Bool, 
 (v64 = (.agg 6 [(.bool b66), (.bool b67), (.bool b68), (.bool b69), (.bool b70), 
 (.bool b71)])) ∧ (ifB (allS cmC [(Il x51), (Il x52), 
 (Il x53), (Il x54), (Il x55), (Il x56), 
 (Il x57), (Il x58), (Il x59), (Il x60), 
 (Il x61), c62, c63]) ((ldA m65 (.ptr m29.nxt 0) 13) = (some [(Il x51), 
 (Il x52), (Il x53), (Il x54), (Il x55), 
 (Il x56), (Il x57), (Il x58), (Il x59), 
 (Il x60), (Il x61), c62, c63])) False) ∧ Wc prog tbl 82 [(.agg 13 [(Il x51), 
 (Il x52), (Il x53), (Il x54), (Il x55), 
 (Il x56), (Il x57), (Il x58), (Il x59), 
 (Il x60), (Il x61), c62, c63]), (.agg 6 [(.bool b66), 
 (.bool b67), (.bool b68), (.bool b69), (.bool b70), (.bool b71)])] m65 (fun v72 m73 => 
 ∃ b74 : Bool, (v72 = (.c (.bool b74))) ∧ ifB (!b74) (Q (.tup [(.c (Il x49)), 
 (.c (Il 0))]) m73) (fitsP .i64 (x49 + 1) ∧ 
 R46 [(.c (Il x47)), (.c (Il x48)), (.c (Il (x49 + 1)))] m73)))) (Q (.tup [(.c (Il 0)), 
 (.c (Il (7 : Int)))]) m50)) → R46 [(.c (Il x47)), 
 (.c (Il x48)), (.c (Il x49))] m50) → R46 [(.c (Il 0)), 
 (.c (Il 0)), (.c (Il 0))] m44))))) : Wc prog tbl 35 [(.agg 12 [(Il a100), (Il a101), (Il a102), (Il a103), (Il a104), (Il a105), (Il a106), (Il a107), (Il a108), (Il a109), (Il a110), a111])] m Q :=
 wc_eq (n := 1) rfl (by kernel_rfl) (by kernel_rfl) h
theorem w38 {a100 : Int} {a101 : Int} {a102 : Int} {a103 : Int} {a104 : Int} {a105 : Int} {a106 : Int} {a107 : Int} {a108 : Int} {a109 : Int} {a110 : Int} {a111 : C} {m : M} {Q : V → M → Prop} (h :
 (∀ m0 : M, (m0 = (M.new m (AO.cells 12 [(Il a100), (Il a101), (Il a102), 
 (Il a103), (Il a104), (Il a105), (Il a106), 
 (Il a107), (Il a108), (Il a109), (Il a110), 
 a111] false))) → ∀ R1 : List V → M → Prop, (∀ c2 : C, ∀ x3 : Int, ∀ m4 : M, (∃ x5 x6, 
 ∃ x7 x8 x9 x10 x11 x12 x13 x14, 
 ∃ x15, ∃ c16 : C, ((ldA m4 (.ptr m.nxt 0) 12) = (some [(Il x5), 
 (Il x6), (Il x7), (Il x8), (Il x9), 
 (Il x10), (Il x11), (Il x12), (Il x13), 
 (Il x14), (Il x15), c16])) ∧ Wc prog tbl 67 [(.agg 12 [(Il x5), 
 (Il x6), (Il x7), (Il x8), (Il x9), 
 (Il x10), (Il x11), (Il x12), (Il x13), 
 (Il x14), (Il x15), c16])] m4 (fun v17 m18 => ∃ x19, 
 (v17 = (.c (Il x19))) ∧ ifB (decide (x3 < x19)) (∀ R20 : List V → 
 M → Prop, (∀ x21 : Int, ∀ x22 : Int, ∀ m23 : M, (isPt (.ptr m.nxt 0) ∧ ∃ c24 : C, 
 ((ldC m23 (.ptr m.nxt 11)) = (some c24)) ∧ isSl c24 ∧ ifB (decide (x22 < (((slLen c24) : Nat) : Int))) (∃ x25, 
 ∃ x26 x27 x28 x29 x30 x31, 
 ∃ x32 x33 x34 x35, ∃ c36 : C, ((ldA m23 (.ptr m.nxt 0) 12) = (some [(Il x25), 
 (Il x26), (Il x27), (Il x28), (Il x29), 
 (Il x30), (Il x31), (Il x32), (Il x33), 
 (Il x34), (Il x35), c36])) ∧ ∃ x37 x38, 
 ∃ x39 x40 x41 x42 x43 x44, 
 ∃ x45 x46 x47, ∃ c48 : C, ((ldA m23 (.ptr m.nxt 0) 12) = (some [(Il x37), 
 (Il x38), (Il x39), (Il x40), (Il x41), 
 (Il x42), (Il x43), (Il x44), (Il x45), 
 (Il x46), (Il x47), c48])) ∧ Wc prog tbl 88 [(.agg 12 [(Il x37), 
 (Il x38), (Il x39), (Il x40), (Il x41), 
 (Il x42), (Il x43), (Il x44), (Il x45), 
 (Il x46), (Il x47), c48]), (.c (Il x3))] m23 (fun v49 m50 => 
 ∃ x51 x52 x53 x54, (v49 = (.agg 4 [(Il x51), 
 (Il x52), (Il x53), (Il x54)])) ∧ 
 (ifB (allS cmC [(Il x25), (Il x26), (Il x27), 
 (Il x28), (Il x29), (Il x30), (Il x31), 
 (Il x32), (Il x33), (Il x34), (Il x35), 
 c36]) ((ldA m50 (.ptr m.nxt 0) 12) = (some [(Il x25), 
 (Il x26), (Il x27), (Il x28), (Il x29), 
 (Il x30), (Il x31), (Il x32), (Il x33), 
 (Il x34), (Il x35), c36])) False) ∧ isPt (.ptr m.nxt 0) ∧ 
 ∃ c55 : C, ((ldC m50 (.ptr m.nxt 11)) = (some c55)) ∧ (ifB (cmC c55) ((ldC m23 (.ptr m.nxt 11)) = (some c55)) False) ∧ 
 ∃ n56 : Nat, (x22 = ((n56 : Nat) : Int)) ∧ (n56 < (slLen c55)) ∧ ∃ x57, 
 ∃ x58 x59 x60, ∃ b61 : Bool, ∃ x62 x63, 
 ((ldA m50 (slAt c55 (n56 * 7)) 7) = (some [(Il x57), (Il x58), 
 (Il x59), (Il x60), (.bool b61), (Il x62), 
 (Il x63)])) ∧ ((ldA m23 (slAt c55 (n56 * 7)) 7) = (some [(Il x57), 
 (Il x58), (Il x59), (Il x60), (.bool b61), 
 (Il x62), (Il x63)])) ∧ Wc prog tbl 72 [(.agg 12 [(Il x25), 
 (Il x26), (Il x27), (Il x28), (Il x29), 
 (Il x30), (Il x31), (Il x32), (Il x33), 
 (Il x34), (Il x35), c36]), (.agg 4 [(Il x51), 
 (Il x52), (Il x53), (Il x54)]), 
 (.agg 7 [(Il x57), (Il x58), (Il x59), 
 (Il x60), (.bool b61), (Il x62), (Il x63)])] m50 (fun v64 m65 => 
 ∃ b66 : Bool, (v64 = (.c (.bool b66))) ∧ ifB b66 (((0 : Int) ≤ (1 : Int)) ∧ 
 ((0 : Int) ≤ (wrapZ .u64 x22)) ∧ ((wrapZ .u64 x22) ≤ (64 : Int)) ∧ 
 fitsP .i64 ((1 : Int) * ((2 : Int) ^ (Int.toNat (wrapZ .u64 x22)))) ∧ 
 ((0 : Int) ≤ x21) ∧ ((0 : Int) ≤ ((1 : Int) * ((2 : Int) ^ (Int.toNat (wrapZ .u64 x22))))) ∧ 
 fitsP .i64 x21 ∧ fitsP .i64 ((1 : Int) * ((2 : Int) ^ (Int.toNat (wrapZ .u64 x22)))) ∧ 
 fitsP .i64 (((Nat.lor (Int.toNat x21) (Int.toNat ((1 : Int) * ((2 : Int) ^ (Int.toNat (wrapZ .u64 x22)))))) : Nat) : Int) ∧ 
 fitsP .i64 (x22 + 1) ∧ R20 [(.c (Il (((Nat.lor (Int.toNat x21) (Int.toNat ((1 : Int) * ((2 : Int) ^ (Int.toNat (wrapZ .u64 x22)))))) : Nat) : Int))), 
 (.c (Il (x22 + 1)))] m65) (fitsP .i64 (x22 + 1) ∧ 
 R20 [(.c (Il x21)), (.c (Il (x22 + 1)))] m65)))) (∀ m67 : M, 
 (m67 = (M.new m23 (AO.cells 1 [(Il x21)] false))) → ∃ c68 : C, 
 ∃ m69 : M, (ApR prog 69 m67 c2 (.sl m23.nxt 0 1 0 (some 1)) c68 m69) ∧ 
 fitsP .i64 (x3 + 1) ∧ R1 [(.c c68), (.c (Il (x3 + 1)))] m69)) → 
 R20 [(.c (Il x21)), (.c (Il x22))] m23) → 
 R20 [(.c (Il 0)), (.c (Il 0))] m18) (Q (.c c2) m18))) → 
 R1 [(.c c2), (.c (Il x3))] m4) → R1 [(.c C.sl0), (.c (Il 0))] m0)) : Wc prog tbl 38 [(.agg 12 [(Il a100), (Il a101), (Il a102), (Il a103), (Il a104), (Il a105), (Il a106), (Il a107), (Il a108), (Il a109), (Il a110), a111])] m Q :=
 wc_eq (n := 1) rfl (by kernel_rfl) (by kernel_rfl) h
theorem w41 {a100 : Int} {a101 : Int} {a102 : Int} {a103 : Int} {a104 : Int} {a105 : Int} {a106 : Int} {a107 : Int} {a108 : Int} {a109 : Int} {a110 : Int} {a111 : C} {a200 : C} {m : M} {Q : V → M → Prop} (h :
 (∀ m0 : M, (m0 = (M.new m (AO.cells 12 [(Il a100), (Il a101), (Il a102), 
 (Il a103), (Il a104), (Il a105), (Il a106), 
 (Il a107), (Il a108), (Il a109), (Il a110), 
 a111] false))) → ∀ R1 : List V → M → Prop, (∀ c2 : C, ∀ b3 : Bool, ∀ x4 : Int, ∀ m5 : M, (∃ x6, 
 ∃ x7 x8 x9 x10 x11 x12 x13 x14, 
 ∃ x15 x16, ∃ c17 : C, ((ldA m5 (.ptr m.nxt 0) 12) = (some [(Il x6), 
 (Il x7), (Il x8), (Il x9), (Il x10), 
 (Il x11), (Il x12), (Il x13), (Il x14), 
 (Il x15), (Il x16), c17])) ∧ Wc prog tbl 58 [(.agg 12 [(Il x6), 
 (Il x7), (Il x8), (Il x9), (Il x10), 
 (Il x11), (Il x12), (Il x13), (Il x14), 
 (Il x15), (Il x16), c17])] m5 (fun v18 m19 => ∃ x20, 
 (v18 = (.c (Il x20))) ∧ ifB (decide (x4 ≤ x20)) (Wc prog tbl 61 [(.c (Il x4))] m19 (fun v21 m22 => 
 ∃ c23 : C, (v21 = (.c c23)) ∧ ifB (!b3) (Wc prog tbl 89 [(.c a200), (.c (Il x4))] m22 (fun v24 m25 => 
 ∃ b26 : Bool, (v24 = (.c (.bool b26))) ∧ ifB (!b26) (fitsP .i64 (x4 + 1) ∧ 
 R1 [(.c c23), (.c (.bool true)), (.c (Il (x4 + 1)))] m25) (fitsP .i64 (x4 + 1) ∧ 
 R1 [(.c c2), (.c (.bool b3)), (.c (Il (x4 + 1)))] m25))) (Wc prog tbl 60 [(.c c23), 
 (.c c2)] m22 (fun v27 m28 => ∃ b29 : Bool, (v27 = (.c (.bool b29))) ∧ ifB b29 (Wc prog tbl 89 [(.c a200), 
 (.c (Il x4))] m28 (fun v30 m31 => ∃ b32 : Bool, (v30 = (.c (.bool b32))) ∧ 
 ifB (!b32) (fitsP .i64 (x4 + 1) ∧ R1 [(.c c23), (.c (.bool true)), 
 (.c (Il (x4 + 1)))] m31) (fitsP .i64 (x4 + 1) ∧ 
 R1 [(.c c2), (.c (.bool b3)), (.c (Il (x4 + 1)))] m31))) (fitsP .i64 (x4 + 1) ∧ 
 R1 [(.c c2), (.c (.bool b3)), (.c (Il (x4 + 1)))] m28))))) (Q (.tup [(.c c2), 
 (.c (.bool b3))]) m19))) → R1 [(.c c2), (.c (.bool b3)), 
 (.c (Il x4))] m5) → R1 [(.c C.sl0), (.c (.bool false)), (.c (Il (1 : Int)))] m0)) : Wc prog tbl 41 [(.agg 12 [(Il a100), (Il a101), (Il a102), (Il a103), (Il a104), (Il a105), (Il a106), (Il a107), (Il a108), (Il a109), (Il a110), a111]), (.c a200)] m Q :=
 wc_eq (n := 2) rfl (by kernel_rfl) (by kernel_rfl) h
theorem w62 {a100 : Int} {a101 : Int} {m : M} {Q : V → M → Prop} (h :
 (∀ m0 : M, (m0 = (M.new m (AO.cells 2 [(Il a100), (Il a101)] false))) → isPt (.ptr m.nxt 0) ∧ 
 ∃ x1, ((ldC m0 (.ptr m.nxt 1)) = (some (Il x1))) ∧ isPt (.ptr m.nxt 0) ∧ 
 ∃ x2, ((ldC m0 (.ptr m.nxt 0)) = (some (Il x2))) ∧ fitsP .i64 (x1 - x2) ∧ 
 fitsP .i64 ((x1 - x2) + (1 : Int)) ∧ Q (.c (Il ((x1 - x2) + (1 : Int)))) m0)) : Wc prog tbl 62 [(.agg 2 [(Il a100), (Il a101)])] m Q :=
 wc_eq (n := 1) rfl (by kernel_rfl) (by kernel_rfl) h
theorem w71 {a100 : Int} {a101 : Int} {a102 : Int} {a103 : Int} {a104 : Int} {a105 : Int} {a106 : Int} {a107 : Int} {a108 : Int} {a109 : Int} {a110 : Int} {a111 : C} {a200 : Int} {a201 : Int} {a202 : Int} {a203 : Int} {a300 : Int} {a400 : Int} {m : M} {Q : V → M → Prop} (h :
 (∀ m0 : M, (m0 = (M.new m (AO.cells 12 [(Il a100), (Il a101), (Il a102), 
 (Il a103), (Il a104), (Il a105), (Il a106), 
 (Il a107), (Il a108), (Il a109), (Il a110), 
 a111] false))) → ∀ m1 : M, (m1 = (M.new m0 (AO.cells 4 [(Il a200), (Il a201), 
 (Il a202), (Il a203)] false))) → ∃ x2 x3 x4, 
 ∃ x5 x6 x7 x8 x9 x10 x11 x12, 
 ∃ c13 : C, ((ldA m1 (.ptr m.nxt 0) 12) = (some [(Il x2), (Il x3), 
 (Il x4), (Il x5), (Il x6), (Il x7), 
 (Il x8), (Il x9), (Il x10), (Il x11), 
 (Il x12), c13])) ∧ ∃ x14 x15 x16 x17, 
 ((ldA m1 (.ptr m0.nxt 0) 4) = (some [(Il x14), (Il x15), 
 (Il x16), (Il x17)])) ∧ Wc prog tbl 102 [(.agg 12 [(Il x2), 
 (Il x3), (Il x4), (Il x5), (Il x6), 
 (Il x7), (Il x8), (Il x9), (Il x10), 
 (Il x11), (Il x12), c13]), (.agg 4 [(Il x14), 
 (Il x15), (Il x16), (Il x17)]), (.c (Il a300)), 
 (.c (Il a400))] m1 (fun v18 m19 => ∃ x20, (v18 = (.c (Il x20))) ∧ 
 isPt (.ptr m.nxt 0) ∧ ∃ x21, ((ldC m19 (.ptr m.nxt 0)) = (some (Il x21))) ∧ 
 ((ldC m1 (.ptr m.nxt 0)) = (some (Il x21))) ∧ fitsP .i64 (x21 - 1) ∧ 
 isPt (.ptr m0.nxt 0) ∧ ∃ x22, ((ldC m19 (.ptr m0.nxt 2)) = (some (Il x22))) ∧ 
 ((ldC m1 (.ptr m0.nxt 2)) = (some (Il x22))) ∧ ((0 : Int) ≤ (x21 - 1)) ∧ 
 ((0 : Int) ≤ x22) ∧ fitsP .i64 ((x21 - 1) * x22) ∧ Q (.c (.bool (decide (x20 ≤ ((x21 - 1) * x22))))) m19))) : Wc prog tbl 71 [(.agg 12 [(Il a100), (Il a101), (Il a102), (Il a103), (Il a104), (Il a105), (Il a106), (Il a107), (Il a108), (Il a109), (Il a110), a111]), (.agg 4 [(Il a200), (Il a201), (Il a202), (Il a203)]), (.c (Il a300)), (.c (Il a400))] m Q :=
 wc_eq (n := 4) rfl (by kernel_rfl) (by kernel_rfl) h
theorem w75 {a100 : Int} {a101 : Int} {a102 : Int} {a103 : Int} {a104 : Int} {a105 : Int} {a106 : Int} {a107 : Int} {a108 : Int} {a109 : Int} {a110 : Int} {a111 : C} {a200 : Int} {a201 : Int} {a202 : Int} {a203 : Int} {a300 : Int} {a400 : Int} {m : M} {Q : V → M → Prop} (h :
 (∀ m0 : M, (m0 = (M.new m (AO.cells 12 [(Il a100), (Il a101), (Il a102), 
 (Il a103), (Il a104), (Il a105), (Il a106), 
 (Il a107), (Il a108), (Il a109), (Il a110), 
 a111] false))) → ∀ m1 : M, (m1 = (M.new m0 (AO.cells 4 [(Il a200), (Il a201), 
 (Il a202), (Il a203)] false))) → ∃ x2 x3 x4, 
 ∃ x5 x6 x7 x8 x9 x10 x11 x12, 
 ∃ c13 : C, ((ldA m1 (.ptr m.nxt 0) 12) = (some [(Il x2), (Il x3), 
 (Il x4), (Il x5), (Il x6), (Il x7), 
 (Il x8), (Il x9), (Il x10), (Il x11), 
 (Il x12), c13])) ∧ ∃ x14 x15 x16 x17, 
 ((ldA m1 (.ptr m0.nxt 0) 4) = (some [(Il x14), (Il x15), 
 (Il x16), (Il x17)])) ∧ Wc prog tbl 112 [(.agg 12 [(Il x2), 
 (Il x3), (Il x4), (Il x5), (Il x6), 
 (Il x7), (Il x8), (Il x9), (Il x10), 
 (Il x11), (Il x12), c13]), (.agg 4 [(Il x14), 
 (Il x15), (Il x16), (Il x17)]), (.c (Il a300)), 
 (.c (Il a400))] m1 (fun v18 m19 => ∃ b20 : Bool, (v18 = (.c (.bool b20))) ∧ 
 ifB (!b20) (Q (.c (Il 0)) m19) (isPt (.ptr m0.nxt 0) ∧ 
 ∃ x21, ((ldC m19 (.ptr m0.nxt 3)) = (some (Il x21))) ∧ 
 isPt (.ptr m.nxt 0) ∧ ∃ x22, ((ldC m19 (.ptr m.nxt 2)) = (some (Il x22))) ∧ 
 ∃ x23 x24 x25 x26 x27 x28, 
 ∃ x29 x30 x31 x32 x33, ∃ c34 : C, 
 ((ldA m19 (.ptr m.nxt 0) 12) = (some [(Il x23), (Il x24), 
 (Il x25), (Il x26), (Il x27), (Il x28), 
 (Il x29), (Il x30), (Il x31), (Il x32), 
 (Il x33), c34])) ∧ ∃ x35 x36 x37 x38, 
 ((ldA m19 (.ptr m0.nxt 0) 4) = (some [(Il x35), (Il x36), 
 (Il x37), (Il x38)])) ∧ Wc prog tbl 113 [(.agg 12 [(Il x23), 
 (Il x24), (Il x25), (Il x26), (Il x27), 
 (Il x28), (Il x29), (Il x30), (Il x31), 
 (Il x32), (Il x33), c34]), (.agg 4 [(Il x35), 
 (Il x36), (Il x37), (Il x38)]), 
 (.c (Il a300)), (.c (Il a400))] m19 (fun v39 m40 => 
 ∃ x41, (v39 = (.c (Il x41))) ∧ ((ldC m40 (.ptr m.nxt 2)) = (some (Il x22))) ∧ 
 ((ldC m40 (.ptr m0.nxt 3)) = (some (Il x21))) ∧ isPt (.ptr m.nxt 0) ∧ 
 ∃ x42, ((ldC m40 (.ptr m.nxt 0)) = (some (Il x42))) ∧ 
 ((ldC m19 (.ptr m.nxt 0)) = (some (Il x42))) ∧ fitsP .i64 (x42 - 1) ∧ 
 ((0 : Int) ≤ x41) ∧ ((0 : Int) < (x42 - 1)) ∧ fitsP .i64 (x41 / (x42 - 1)) ∧ 
 ((0 : Int) ≤ x22) ∧ ((0 : Int) ≤ (x41 / (x42 - 1))) ∧ fitsP .i64 (x22 * (x41 / (x42 - 1))) ∧ 
 fitsP .i64 (x21 - (x22 * (x41 / (x42 - 1)))) ∧ Q (.c (Il (Max.max (1 : Int) (x21 - (x22 * (x41 / (x42 - 1))))))) m40))))) : Wc prog tbl 75 [(.agg 12 [(Il a100), (Il a101), (Il a102), (Il a103), (Il a104), (Il a105), (Il a106), (Il a107), (Il a108), (Il a109), (Il a110), a111]), (.agg 4 [(Il a200), (Il a201), (Il a202), (Il a203)]), (.c (Il a300)), (.c (Il a400))] m Q :=
 wc_eq (n := 4) rfl (by kernel_rfl) (by kernel_rfl) h
theorem w78 {a100 : Int} {a101 : Int} {a102 : Int} {a103 : Int} {m : M} {Q : V → M → Prop} (h :
 (∀ m0 : M, (m0 = (M.new m (AO.cells 4 [(Il a100), (Il a101), (Il a102), 
 (Il a103)] false))) → Q (.c (C.fn (Fn.func 114) [] [(W.c (C0.ptr m.nxt 0))])) m0)) : Wc prog tbl 78 [(.agg 4 [(Il a100), (Il a101), (Il a102), (Il a103)])] m Q :=
 wc_eq (n := 1) rfl (by kernel_rfl) (by kernel_rfl) h
theorem w81 {a100 : Int} {a101 : Int} {a102 : Int} {a103 : Int} {a104 : Int} {a105 : Int} {a106 : Int} {a107 : Int} {a108 : Int} {a109 : Int} {a110 : Int} {a111 : C} {m : M} {Q : V → M → Prop} (h :
 (∀ m0 : M, (m0 = (M.new m (AO.cells 12 [(Il a100), (Il a101), (Il a102), 
 (Il a103), (Il a104), (Il a105), (Il a106), 
 (Il a107), (Il a108), (Il a109), (Il a110), 
 a111] false))) → ∀ m1 : M, (m1 = (M.new m0 (AO.cells 13 [(Il 0), (Il 0), 
 (Il 0), (Il 0), (Il 0), (Il 0), 
 (Il 0), (Il 0), (Il 0), (Il 0), 
 (Il 0), C.sl0, C.map0] false))) → ∃ x2 x3 x4 x5, 
 ∃ x6 x7 x8 x9 x10 x11 x12, ∃ c13 : C, 
 ((ldA m1 (.ptr m.nxt 0) 12) = (some [(Il x2), (Il x3), 
 (Il x4), (Il x5), (Il x6), (Il x7), 
 (Il x8), (Il x9), (Il x10), (Il x11), 
 (Il x12), c13])) ∧ ∀ m14 : M, (m14 = (M.new m1 (AO.map [] 0))) → ∀ m15 : M, 
 (m15 = (M.new m14 (AO.cells 13 [(Il 0), (Il 0), 
 (Il 0), (Il 0), (Il 0), 
 (Il 0), (Il 0), (Il 0), 
 (Il 0), (Il 0), (Il 0), 
 C.sl0, C.map0] false))) → ∃ m16 : M, ((stC m15 (.ptr m14.nxt 0) 13 [(Il x2), 
 (Il x3), (Il x4), (Il x5), (Il x6), 
 (Il x7), (Il x8), (Il x9), (Il x10), 
 (Il x11), (Il x12), c13, (C.map m1.nxt)]) = (some m16)) ∧ 
 isPt (.ptr m14.nxt 0) ∧ ∃ x17 x18 x19 x20, 
 ∃ x21 x22 x23 x24 x25 x26, 
 ∃ x27, ∃ c28 : C, ((ldA m16 (.ptr m14.nxt 0) 12) = (some [(Il x17), 
 (Il x18), (Il x19), (Il x20), (Il x21), 
 (Il x22), (Il x23), (Il x24), (Il x25), 
 (Il x26), (Il x27), c28])) ∧ Wc prog tbl 116 [(.agg 12 [(Il x17), 
 (Il x18), (Il x19), (Il x20), (Il x21), 
 (Il x22), (Il x23), (Il x24), (Il x25), 
 (Il x26), (Il x27), c28])] m16 (fun v29 m30 => 
 ∃ c31 : C, (v29 = (.c c31)) ∧ rangeP prog tbl c31 m30 (fun l32 m33 R34 R35 => 
 ∃ x36 x37 x38 x39, (l32 = [(.agg 4 [(Il x36), 
 (Il x37), (Il x38), (Il x39)])]) ∧ 
 ∀ m40 : M, (m40 = (M.new m33 (AO.cells 4 [(Il 0), (Il 0), 
 (Il 0), (Il 0)] false))) → ∃ m41 : M, 
 ((stC m40 (.ptr m33.nxt 0) 4 [(Il x36), (Il x37), 
 (Il x38), (Il x39)]) = (some m41)) ∧ R34 m41 (fun m42 => 
 isPt (.ptr m14.nxt 0) ∧ ∃ c43 : C, ((ldC m42 (.ptr m14.nxt 12)) = (some c43)) ∧ 
 ∃ x44 x45 x46 x47, ((ldA m42 (.ptr m33.nxt 0) 4) = (some [(Il x44), 
 (Il x45), (Il x46), (Il x47)])) ∧ 
 ∃ x48 x49 x50 x51 x52 x53, 
 ∃ x54 x55 x56 x57 x58, ∃ c59 : C, 
 ∃ c60 : C, ((ldA m42 (.ptr m14.nxt 0) 13) = (some [(Il x48), 
 (Il x49), (Il x50), (Il x51), (Il x52), 
 (Il x53), (Il x54), (Il x55), (Il x56), 
 (Il x57), (Il x58), c59, c60])) ∧ ∃ x61, 
 ∃ x62 x63 x64, ((ldA m42 (.ptr m33.nxt 0) 4) = (some [(Il x61), 
 (Il x62), (Il x63), (Il x64)])) ∧ 
 Wc prog tbl 91 [(.agg 13 [(Il x48), (Il x49), 
 (Il x50), (Il x51), (Il x52), (Il x53), 
 (Il x54), (Il x55), (Il x56), (Il x57), 
 (Il x58), c59, c60]), (.agg 4 [(Il x61), (Il x62), 
 (Il x63), (Il x64)])] m42 (fun v65 m66 => ∃ b67 : Bool, 
 ∃ b68 : Bool, ∃ b69 : Bool, ∃ b70 : Bool, ∃ b71 : Bool, ∃ b72 : Bool, (v65 = (.agg 6 [(.bool b67), 
 (.bool b68), (.bool b69), (.bool b70), (.bool b71), (.bool b72)])) ∧ ((ldA m66 (.ptr m33.nxt 0) 4) = (some [(Il x44), 
 (Il x45), (Il x46), (Il x47)])) ∧ 
 (ifB (cmC c43) ((ldC m66 (.ptr m14.nxt 12)) = (some c43)) False) ∧ 
 ∃ m73 : M, ((upM prog 43 m66 c43 (.agg 4 [(Il x44), (Il x45), 
 (Il x46), (Il x47)]) (.agg 6 [(.bool b67), (.bool b68), 
 (.bool b69), (.bool b70), (.bool b71), (.bool b72)])) = (some m73)) ∧ 
 R35 Ex.nrm m73))) (After.mk (fun m74 => 
 ∃ x75 x76 x77 x78 x79 x80, 
 ∃ x81 x82 x83 x84 x85, ∃ c86 : C, 
 ∃ c87 : C, ((ldA m74 (.ptr m14.nxt 0) 13) = (some [(Il x75), 
 (Il x76), (Il x77), (Il x78), (Il x79), 
 (Il x80), (Il x81), (Il x82), (Il x83), 
 (Il x84), (Il x85), c86, c87])) ∧ ∃ m88 : M, ((stC m74 (.ptr m0.nxt 0) 13 [(Il x75), 
 (Il x76), (Il x77), (Il x78), (Il x79), 
 (Il x80), (Il x81), (Il x82), (Il x83), 
 (Il x84), (Il x85), c86, c87]) = (some m88)) ∧ 
 ∃ x89 x90 x91 x92 x93 x94, 
 ∃ x95 x96 x97 x98 x99, ∃ c100 : C, 
 ∃ c101 : C, ((ldA m88 (.ptr m0.nxt 0) 13) = (some [(Il x89), 
 (Il x90), (Il x91), (Il x92), (Il x93), 
 (Il x94), (Il x95), (Il x96), (Il x97), 
 (Il x98), (Il x99), c100, c101])) ∧ Q (.agg 13 [(Il x89), 
 (Il x90), (Il x91), (Il x92), (Il x93), 
 (Il x94), (Il x95), (Il x96), (Il x97), 
 (Il x98), (Il x99), c100, c101]) m88) [] (fun m102 => 
 ∃ x103 x104 x105 x106 x107 x108, 
 ∃ x109 x110 x111 x112 x113, ∃ c114 : C, 
 ∃ c115 : C, ((ldA m102 (.ptr m0.nxt 0) 13) = (some [(Il x103), 
 (Il x104), (Il x105), (Il x106), 
 (Il x107), (Il x108), (Il x109), 
 (Il x110), (Il x111), (Il x112), 
 (Il x113), c114, c115])) ∧ Q (.agg 13 [(Il x103), 
 (Il x104), (Il x105), (Il x106), 
 (Il x107), (Il x108), (Il x109), 
 (Il x110), (Il x111), (Il x112), 
 (Il x113), c114, c115]) m102))))) : Wc prog tbl 81 [(.agg 12 [(Il a100), (Il a101), (Il a102), (Il a103), (Il a104), (Il a105), (Il a106), (Il a107), (Il a108), (Il a109), (Il a110), a111])] m Q :=
 wc_eq (n := 1) rfl (by kernel_rfl) (by kernel_rfl) h
theorem w84 {a100 : Int} {a101 : Int} {a102 : Int} {a103 : Int} {a104 : Int} {a105 : Int} {a106 : Int} {a107 : Int} {a108 : Int} {a109 : Int} {a110 : Int} {a111 : C} {a112 : C} {a200 : C} {m : M} {Q : V → M → Prop} (h :
 (∀ m0 : M, (m0 = (M.new m (AO.cells 13 [(Il a100), (Il a101), (Il a102), 
 (Il a103), (Il a104), (Il a105), (Il a106), 
 (Il a107), (Il a108), (Il a109), (Il a110), 
 a111, a112] false))) → ∀ m1 : M, (m1 = (M.new m0 (AO.cells 1 [a200] false))) → isPt (.ptr m.nxt 0) ∧ 
 isPt (.ptr m.nxt 0) ∧ ∃ c2 : C, ((ldC m1 (.ptr m.nxt 11)) = (some c2)) ∧ isSl c2 ∧ Wc prog tbl 118 [(.c (Il (((slLen c2) : Nat) : Int))), 
 (.c (C.fn (Fn.func 119) [] [(W.c (C0.ptr m0.nxt 0)), (W.c (C0.ptr m.nxt 0))]))] m1 (fun v3 m4 => 
 ∃ c5 : C, (v3 = (.c c5)) ∧ Q (.c c5) m4))) : Wc prog tbl 84 [(.agg 13 [(Il a100), (Il a101), (Il a102), (Il a103), (Il a104), (Il a105), (Il a106), (Il a107), (Il a108), (Il a109), (Il a110), a111, a112]), (.agg 1 [a200])] m Q :=
 wc_eq (n := 2) rfl (by kernel_rfl) (by kernel_rfl) h
theorem w87 {a100 : Int} {a101 : Int} {a102 : Int} {a103 : Int} {a104 : Int} {a105 : Int} {a106 : Int} {a107 : Int} {a108 : Int} {a109 : Int} {a110 : Int} {a111 : C} {a112 : C} {a200 : C} {m : M} {Q : V → M → Prop} (h :
 (∀ m0 : M, (m0 = (M.new m (AO.cells 13 [(Il a100), (Il a101), (Il a102), 
 (Il a103), (Il a104), (Il a105), (Il a106), 
 (Il a107), (Il a108), (Il a109), (Il a110), 
 a111, a112] false))) → ∀ m1 : M, (m1 = (M.new m0 (AO.cells 6 [(.bool false), (.bool false), (.bool false), 
 (.bool false), (.bool false), (.bool false)] false))) → isSl a200 ∧ ∀ R2 : List V → M → Prop, 
 (∀ x3 : Int, ∀ m4 : M, (ifB (decide (x3 < (((slLen a200) : Nat) : Int))) (∃ n5 : Nat, (x3 = ((n5 : Nat) : Int)) ∧ 
 (n5 < (slLen a200)) ∧ ∃ x6, ((ldC m4 (slAt a200 (n5 * 1))) = (some (Il x6))) ∧ 
 isPt (.ptr m0.nxt 0) ∧ ∃ n7 : Nat, (x6 = ((n7 : Nat) : Int)) ∧ (n7 < 6) ∧ ∃ m8 : M, 
 ((stC m4 (.ptr m0.nxt (0 + (n7 * 1))) 1 [(.bool true)]) = (some m8)) ∧ fitsP .i64 (x3 + 1) ∧ 
 R2 [(.c (Il (x3 + 1)))] m8) (∃ x9 x10, 
 ∃ x11 x12 x13 x14 x15 x16 x17, 
 ∃ x18 x19, ∃ c20 : C, ∃ c21 : C, ((ldA m4 (.ptr m.nxt 0) 13) = (some [(Il x9), 
 (Il x10), (Il x11), (Il x12), (Il x13), 
 (Il x14), (Il x15), (Il x16), (Il x17), 
 (Il x18), (Il x19), c20, c21])) ∧ ∃ b22 : Bool, 
 ∃ b23 : Bool, ∃ b24 : Bool, ∃ b25 : Bool, ∃ b26 : Bool, ∃ b27 : Bool, ((ldA m4 (.ptr m0.nxt 0) 6) = (some [(.bool b22), 
 (.bool b23), (.bool b24), (.bool b25), (.bool b26), (.bool b27)])) ∧ Wc prog tbl 82 [(.agg 13 [(Il x9), 
 (Il x10), (Il x11), (Il x12), (Il x13), 
 (Il x14), (Il x15), (Il x16), (Il x17), 
 (Il x18), (Il x19), c20, c21]), (.agg 6 [(.bool b22), 
 (.bool b23), (.bool b24), (.bool b25), (.bool b26), (.bool b27)])] m4 (fun v28 m29 => 
 ∃ b30 : Bool, (v28 = (.c (.bool b30))) ∧ Q (.c (.bool (!b30))) m29))) → 
 R2 [(.c (Il x3))] m4) → R2 [(.c (Il 0))] m1)) : Wc prog tbl 87 [(.agg 13 [(Il a100), (Il a101), (Il a102), (Il a103), (Il a104), (Il a105), (Il a106), (Il a107), (Il a108), (Il a109), (Il a110), a111, a112]), (.c a200)] m Q :=
 wc_eq (n := 2) rfl (by kernel_rfl) (by kernel_rfl) h
theorem w99 {a100 : Int} {a101 : Int} {a102 : Int} {a103 : Int} {a104 : Int} {a105 : Int} {a106 : Int} {a107 : Int} {a108 : Int} {a109 : Int} {a110 : Int} {a111 : C} {a112 : C} {m : M} {Q : V → M → Prop} (h :
 (∀ m0 : M, (m0 = (M.new m (AO.cells 13 [(Il a100), (Il a101), (Il a102), 
 (Il a103), (Il a104), (Il a105), (Il a106), 
 (Il a107), (Il a108), (Il a109), (Il a110), 
 a111, a112] false))) → isPt (.ptr m.nxt 0) ∧ isPt (.ptr m.nxt 0) ∧ ∃ x1, ((ldC m0 (.ptr m.nxt 0)) = (some (Il x1))) ∧ 
 ifB (decide ((2 : Int) ≤ x1)) (isPt (.ptr m.nxt 0) ∧ isPt (.ptr m.nxt 0) ∧ ∃ x2, ((ldC m0 (.ptr m.nxt 1)) = (some (Il x2))) ∧ 
 ifB (decide ((1 : Int) ≤ x2)) (isPt (.ptr m.nxt 0) ∧ isPt (.ptr m.nxt 0) ∧ ∃ x3, 
 ((ldC m0 (.ptr m.nxt 2)) = (some (Il x3))) ∧ ifB (decide ((0 : Int) ≤ x3)) (isPt (.ptr m.nxt 0) ∧ 
 isPt (.ptr m.nxt 0) ∧ ∃ x4, ((ldC m0 (.ptr m.nxt 2)) = (some (Il x4))) ∧ 
 ifB (decide (x4 ≤ 4)) (isPt (.ptr m.nxt 0) ∧ isPt (.ptr m.nxt 0) ∧ ∃ x5, 
 ∃ x6, ((ldA m0 (.ptr m.nxt 3) 2) = (some [(Il x5), 
 (Il x6)])) ∧ isPt (.ptr m.nxt 0) ∧ isPt (.ptr m.nxt 0) ∧ 
 ∃ x7, ((ldC m0 (.ptr m.nxt 1)) = (some (Il x7))) ∧ 
 fitsP .i64 (x7 - 1) ∧ Wc prog tbl 122 [(.agg 2 [(Il x5), 
 (Il x6)]), (.c (Il 0)), (.c (Il (x7 - 1)))] m0 (fun v8 m9 => 
 ∃ b10 : Bool, (v8 = (.c (.bool b10))) ∧ ifB b10 (isPt (.ptr m.nxt 0) ∧ 
 isPt (.ptr m.nxt 0) ∧ ∃ x11 x12, ((ldA m9 (.ptr m.nxt 5) 2) = (some [(Il x11), 
 (Il x12)])) ∧ isPt (.ptr m.nxt 0) ∧ isPt (.ptr m.nxt 0) ∧ 
 ∃ x13, ((ldC m9 (.ptr m.nxt 1)) = (some (Il x13))) ∧ 
 fitsP .i64 (x13 - 1) ∧ Wc prog tbl 122 [(.agg 2 [(Il x11), 
 (Il x12)]), (.c (Il 0)), (.c (Il (x13 - 1)))] m9 (fun v14 m15 => 
 ∃ b16 : Bool, (v14 = (.c (.bool b16))) ∧ ifB b16 (isPt (.ptr m.nxt 0) ∧ 
 isPt (.ptr m.nxt 0) ∧ ∃ x17 x18, ((ldA m15 (.ptr m.nxt 7) 2) = (some [(Il x17), 
 (Il x18)])) ∧ Wc prog tbl 122 [(.agg 2 [(Il x17), 
 (Il x18)]), (.c (Il 0)), (.c (Il (3 : Int)))] m15 (fun v19 m20 => 
 ∃ b21 : Bool, (v19 = (.c (.bool b21))) ∧ ifB b21 (isPt (.ptr m.nxt 0) ∧ 
 isPt (.ptr m.nxt 0) ∧ ∃ x22 x23, ((ldA m20 (.ptr m.nxt 9) 2) = (some [(Il x22), 
 (Il x23)])) ∧ Wc prog tbl 122 [(.agg 2 [(Il x22), 
 (Il x23)]), (.c (Il (1 : Int))), (.c (Il (9 : Int)))] m20 (fun v24 m25 => 
 ∃ b26 : Bool, (v24 = (.c (.bool b26))) ∧ ifB b26 (isPt (.ptr m.nxt 0) ∧ 
 isPt (.ptr m.nxt 0) ∧ ∃ c27 : C, ((ldC m25 (.ptr m.nxt 11)) = (some c27)) ∧ 
 ∃ x28 x29 x30 x31 x32 x33, 
 ∃ x34 x35 x36 x37 x38, ∃ c39 : C, 
 ∃ c40 : C, ((ldA m25 (.ptr m.nxt 0) 13) = (some [(Il x28), 
 (Il x29), (Il x30), (Il x31), (Il x32), 
 (Il x33), (Il x34), (Il x35), (Il x36), 
 (Il x37), (Il x38), c39, c40])) ∧ optB (mapO vW [(.agg 13 [(Il x28), 
 (Il x29), (Il x30), (Il x31), (Il x32), 
 (Il x33), (Il x34), (Il x35), (Il x36), 
 (Il x37), (Il x38), c39, c40])]) False fun l41 => 
 Wc prog tbl 123 [(.c c27), (.c (C.fn (Fn.func 124) l41 []))] m25 (fun v42 m43 => 
 ∃ b44 : Bool, (v42 = (.c (.bool b44))) ∧ Q (.c (.bool b44)) m43)) (Q (.c (.bool false)) m25))) (Q (.c (.bool false)) m20))) (Q (.c (.bool false)) m15))) (Q (.c (.bool false)) m9))) (Q (.c (.bool false)) m0)) (Q (.c (.bool false)) m0)) (Q (.c (.bool false)) m0)) (Q (.c (.bool false)) m0))) : Wc prog tbl 99 [(.agg 13 [(Il a100), (Il a101), (Il a102), (Il a103), (Il a104), (Il a105), (Il a106), (Il a107), (Il a108), (Il a109), (Il a110), a111, a112])] m Q :=
 wc_eq (n := 1) rfl (by kernel_rfl) (by kernel_rfl) h
theorem w102 {a100 : Int} {a101 : Int} {a102 : Int} {a103 : Int} {a104 : Int} {a105 : Int} {a106 : Int} {a107 : Int} {a108 : Int} {a109 : Int} {a110 : Int} {a111 : C} {a200 : Int} {a201 : Int} {a202 : Int} {a203 : Int} {a300 : Int} {a400 : Int} {m : M} {Q : V → M → Prop} (h :
 (∀ m0 : M, (m0 = (M.new m (AO.cells 12 [(Il a100), (Il a101), (Il a102), 
 (Il a103), (Il a104), (Il a105), (Il a106), 
 (Il a107), (Il a108), (Il a109), (Il a110), 
 a111] false))) → ∀ m1 : M, (m1 = (M.new m0 (AO.cells 4 [(Il a200), (Il a201), 
 (Il a202), (Il a203)] false))) → isPt (.ptr m.nxt 0) ∧ ∃ x2, 
 ((ldC m1 (.ptr m.nxt 0)) = (some (Il x2))) ∧ fitsP .i64 (x2 - 1) ∧ 
 ((0 : Int) ≤ (x2 - 1)) ∧ ((0 : Int) ≤ a400) ∧ fitsP .i64 ((x2 - 1) * a400) ∧ 
 isPt (.ptr m0.nxt 0) ∧ ∃ x3, ((ldC m1 (.ptr m0.nxt 0)) = (some (Il x3))) ∧ 
 fitsP .i64 ((x2 - 1) - a300) ∧ ((0 : Int) ≤ x3) ∧ ((0 : Int) ≤ ((x2 - 1) - a300)) ∧ 
 fitsP .i64 (x3 * ((x2 - 1) - a300)) ∧ fitsP .i64 (((x2 - 1) * a400) - (x3 * ((x2 - 1) - a300))) ∧ 
 isPt (.ptr m0.nxt 0) ∧ ∃ x4, ((ldC m1 (.ptr m0.nxt 1)) = (some (Il x4))) ∧ 
 ((0 : Int) ≤ x4) ∧ ((0 : Int) ≤ a300) ∧ fitsP .i64 (x4 * a300) ∧ fitsP .i64 ((((x2 - 1) * a400) - (x3 * ((x2 - 1) - a300))) - (x4 * a300)) ∧ 
 ifB (decide (((((x2 - 1) * a400) - (x3 * ((x2 - 1) - a300))) - (x4 * a300)) < (0 : Int))) (fitsP .i64 ((0 : Int) - ((((x2 - 1) * a400) - (x3 * ((x2 - 1) - a300))) - (x4 * a300))) ∧ 
 Q (.c (Il ((0 : Int) - ((((x2 - 1) * a400) - (x3 * ((x2 - 1) - a300))) - (x4 * a300))))) m1) (Q (.c (Il ((((x2 - 1) * a400) - (x3 * ((x2 - 1) - a300))) - (x4 * a300)))) m1))) : Wc prog tbl 102 [(.agg 12 [(Il a100), (Il a101), (Il a102), (Il a103), (Il a104), (Il a105), (Il a106), (Il a107), (Il a108), (Il a109), (Il a110), a111]), (.agg 4 [(Il a200), (Il a201), (Il a202), (Il a203)]), (.c (Il a300)), (.c (Il a400))] m Q :=
 wc_eq (n := 4) rfl (by kernel_rfl) (by kernel_rfl) h
theorem w105 {a100 : Int} {a101 : Int} {a102 : Int} {a103 : Int} {a104 : Int} {a105 : Int} {a106 : Int} {a107 : Int} {a108 : Int} {a109 : Int} {a110 : Int} {a111 : C} {a200 : Int} {a201 : Int} {a202 : Int} {a203 : Int} {a204 : Bool} {a205 : Int} {a206 : Int} {m : M} {Q : V → M → Prop} (h :
 (∀ m0 : M, (m0 = (M.new m (AO.cells 12 [(Il a100), (Il a101), (Il a102), 
 (Il a103), (Il a104), (Il a105), (Il a106), 
 (Il a107), (Il a108), (Il a109), (Il a110), 
 a111] false))) → ∀ m1 : M, (m1 = (M.new m0 (AO.cells 7 [(Il a200), (Il a201), 
 (Il a202), (Il a203), (.bool a204), (Il a205), (Il a206)] false))) → 
 ∃ x2 x3 x4 x5 x6 x7 x8 x9, 
 ∃ x10 x11 x12, ∃ c13 : C, ((ldA m1 (.ptr m.nxt 0) 12) = (some [(Il x2), 
 (Il x3), (Il x4), (Il x5), (Il x6), 
 (Il x7), (Il x8), (Il x9), (Il x10), 
 (Il x11), (Il x12), c13])) ∧ isPt (.ptr m0.nxt 0) ∧ ∃ x14, 
 ∃ x15, ((ldA m1 (.ptr m0.nxt 0) 2) = (some [(Il x14), (Il x15)])) ∧ 
 isPt (.ptr m0.nxt 0) ∧ ∃ x16 x17, ((ldA m1 (.ptr m0.nxt 2) 2) = (some [(Il x16), 
 (Il x17)])) ∧ Wc prog tbl 24 [(.agg 12 [(Il x2), 
 (Il x3), (Il x4), (Il x5), (Il x6), 
 (Il x7), (Il x8), (Il x9), (Il x10), 
 (Il x11), (Il x12), c13]), (.agg 4 [(Il x14), 
 (Il x15), (Il x16), (Il x17)])] m1 (fun v18 m19 => 
 ∃ b20 : Bool, (v18 = (.c (.bool b20))) ∧ ifB (!b20) (Q (.c (.bool false)) m19) (isPt (.ptr m0.nxt 0) ∧ 
 ∃ x21 x22, ((ldA m19 (.ptr m0.nxt 5) 2) = (some [(Il x21), 
 (Il x22)])) ∧ Wc prog tbl 70 [(.agg 2 [(Il x21), 
 (Il x22)]), (.c (Il 0)), (.c (Il (9 : Int)))] m19 (fun v23 m24 => 
 ∃ b25 : Bool, (v23 = (.c (.bool b25))) ∧ ifB (!b25) (Q (.c (.bool false)) m24) (isPt (.ptr m0.nxt 0) ∧ 
 ∃ b26 : Bool, ((ldC m24 (.ptr m0.nxt 4)) = (some (.bool b26))) ∧ 
 ifB b26 (Q (.c (.bool true)) m24) (isPt (.ptr m0.nxt 0) ∧ ∃ x27, 
 ∃ x28, ((ldA m24 (.ptr m0.nxt 5) 2) = (some [(Il x27), 
 (Il x28)])) ∧ fitsP .i64 x27 ∧ fitsP .i64 (0 : Int) ∧ 
 fitsP .i64 x28 ∧ fitsP .i64 (0 : Int) ∧ Q (.c (.bool ((decide (x27 = 0)) && (decide (x28 = 0))))) m24))))))) : Wc prog tbl 105 [(.agg 12 [(Il a100), (Il a101), (Il a102), (Il a103), (Il a104), (Il a105), (Il a106), (Il a107), (Il a108), (Il a109), (Il a110), a111]), (.agg 7 [(Il a200), (Il a201), (Il a202), (Il a203), (.bool a204), (Il a205), (Il a206)])] m Q :=
 wc_eq (n := 2) rfl (by kernel_rfl) (by kernel_rfl) h
theorem w115 {a100 : Int} {a101 : Int} {m : M} {Q : V → M → Prop} (h :
 (∀ m0 : M, (m0 = (M.new m (AO.cells 2 [(Il a100), (Il a101)] false))) → Q (.c (C.fn (Fn.func 129) [] [(W.c (C0.ptr m.nxt 0))])) m0)) : Wc prog tbl 115 [(.agg 2 [(Il a100), (Il a101)])] m Q :=
 wc_eq (n := 1) rfl (by kernel_rfl) (by kernel_rfl) h
theorem w118 {a100 : Int} {a200 : C} {m : M} {Q : V → M → Prop} (h :
 (∀ m0 : M, (m0 = (M.new m (AO.cells 1 [a200] false))) → ∀ m1 : M, (m1 = (M.new m0 (AO.cells 1 [C.sl0] false))) → 
 fitsP .i64 (a100 + 1) ∧ ∀ R2 : List V → M → Prop, (∀ x3 : Int, ∀ m4 : M, (ifB (decide (x3 < (a100 + 1))) (Wc prog tbl 131 [(.c (Il a100)), 
 (.c (Il x3))] m4 (fun v5 m6 => ∃ c7 : C, (v5 = (.c c7)) ∧ rangeP prog tbl c7 m6 (fun l10 m11 R12 R13 => 
 ∃ c14 : C, (l10 = [(.c c14)]) ∧ R12 m11 (fun m15 => ∃ c16 : C, ((ldC m15 (.ptr m.nxt 0)) = (some c16)) ∧ 
 callP prog tbl [(.c c14)] c16 m15 (fun v17 m18 => ∃ b19 : Bool, (v17 = (.c (.bool b19))) ∧ 
 ifB b19 (Wc prog tbl 132 [(.c c14)] m18 (fun v20 m21 => ∃ c22 : C, (v20 = (.c c22)) ∧ 
 ∃ m23 : M, ((stC m21 (.ptr m0.nxt 0) 1 [c22]) = (some m23)) ∧ R13 (Ex.exit 0) m23)) (R13 Ex.nrm m18)))) (After.mk (fun m24 => 
 fitsP .i64 (x3 + 1) ∧ R2 [(.c (Il (x3 + 1)))] m24) [(0, 
 (fun m8 => ∃ c9 : C, (((ldC m8 (.ptr m0.nxt 0)) = (some c9)) ∧ Q (.c c9) m8)))] (fun m25 => 
 Q (.c C.sl0) m25)))) (∃ c26 : C, ((ldC m4 (.ptr m0.nxt 0)) = (some c26)) ∧ 
 Q (.c c26) m4)) → R2 [(.c (Il x3))] m4) → R2 [(.c (Il 0))] m1)) : Wc prog tbl 118 [(.c (Il a100)), (.c a200)] m Q :=
 wc_eq (n := 2) rfl (by kernel_rfl) (by kernel_rfl) h
theorem w122 {a100 : Int} {a101 : Int} {a200 : Int} {a300 : Int} {m : M} {Q : V → M → Prop} (h :
 (∀ m0 : M, (m0 = (M.new m (AO.cells 2 [(Il a100), (Il a101)] false))) → isPt (.ptr m.nxt 0) ∧ 
 ∃ x1, ((ldC m0 (.ptr m.nxt 0)) = (some (Il x1))) ∧ ifB (decide (a200 ≤ x1)) (isPt (.ptr m.nxt 0) ∧ 
 ∃ x2, ((ldC m0 (.ptr m.nxt 0)) = (some (Il x2))) ∧ isPt (.ptr m.nxt 0) ∧ 
 ∃ x3, ((ldC m0 (.ptr m.nxt 1)) = (some (Il x3))) ∧ ifB (decide (x2 ≤ x3)) (isPt (.ptr m.nxt 0) ∧ 
 ∃ x4, ((ldC m0 (.ptr m.nxt 1)) = (some (Il x4))) ∧ Q (.c (.bool (decide (x4 ≤ a300)))) m0) (Q (.c (.bool false)) m0)) (Q (.c (.bool false)) m0))) : Wc prog tbl 122 [(.agg 2 [(Il a100), (Il a101)]), (.c (Il a200)), (.c (Il a300))] m Q :=
 wc_eq (n := 3) rfl (by kernel_rfl) (by kernel_rfl) h
theorem w125 {a100 : Int} {a101 : Int} {m : M} {Q : V → M → Prop} (h :
 (∀ m0 : M, (m0 = (M.new m (AO.cells 2 [(Il a100), (Il a101)] false))) → isPt (.ptr m.nxt 0) ∧ 
 ∃ x1, ((ldC m0 (.ptr m.nxt 1)) = (some (Il x1))) ∧ isPt (.ptr m.nxt 0) ∧ 
 ∃ x2, ((ldC m0 (.ptr m.nxt 0)) = (some (Il x2))) ∧ fitsP .i64 (x1 - x2) ∧ 
 fitsP .i64 ((x1 - x2) + (1 : Int)) ∧ Q (.c (Il ((x1 - x2) + (1 : Int)))) m0)) : Wc prog tbl 125 [(.agg 2 [(Il a100), (Il a101)])] m Q :=
 wc_eq (n := 1) rfl (by kernel_rfl) (by kernel_rfl) h
theorem w132 {a100 : C} {m : M} {Q : V → M → Prop} (h :
 (okN (TK.sl 3) a100 ∧ okN (TK.sl 3) a100 ∧ okN (TK.sl 3) C.sl0 ∧ (((isNilC a100) || true) = true) ∧ ifB ((isNilC a100) && true) (Q (.c C.sl0) m) (∀ m0 : M, 
 (m0 = (M.new m (AO.cells 0 [] false))) → ∃ c1 : C, ∃ m2 : M, (ApR prog 69 m0 (.sl m.nxt 0 0 0 (some 0)) a100 c1 m2) ∧ 
 Q (.c c1) m2))) : Wc prog tbl 132 [(.c a100)] m Q :=
 wc_eq (n := 1) rfl (by kernel_rfl) (by kernel_rfl) h
end
end Go.Proofs.Ytbnfnhfanooplaa

namespace Go.Proofs.Ytbnfnhfanooplaa
open _root_.Go.Proofs.Try
open Go.Abs
set_option maxRecDepth 100000
noncomputable section
theorem w24 {a100 : Int} {a101 : Int} {a102 : Int} {a103 : Int} {a104 : Int} {a105 : Int} {a106 : Int} {a107 : Int} {a108 : Int} {a109 : Int} {a110 : Int} {a111 : C} {a200 : Int} {a201 : Int} {a202 : Int} {a203 : Int} {m : M} {Q : V → M → Prop} (h :
 (∀ m0 : M, (m0 = (M.new m (AO.cells 12 [(Il a100), (Il a101), (Il a102), 
 (Il a103), (Il a104), (Il a105), (Il a106), 
 (Il a107), (Il a108), (Il a109), (Il a110), 
 a111] false))) → ∀ m1 : M, (m1 = (M.new m0 (AO.cells 4 [(Il a200), (Il a201), 
 (Il a202), (Il a203)] false))) → isPt (.ptr m0.nxt 0) ∧ ∃ x2, 
 ∃ x3, ((ldA m1 (.ptr m0.nxt 0) 2) = (some [(Il x2), (Il x3)])) ∧ 
 isPt (.ptr m.nxt 0) ∧ ∃ x4, ((ldC m1 (.ptr m.nxt 0)) = (some (Il x4))) ∧ 
 fitsP .i64 (x4 - 1) ∧ Wc prog tbl 70 [(.agg 2 [(Il x2), (Il x3)]), 
 (.c (Il 0)), (.c (Il (x4 - 1)))] m1 (fun v5 m6 => 
 ∃ b7 : Bool, (v5 = (.c (.bool b7))) ∧ ifB b7 (isPt (.ptr m0.nxt 0) ∧ ∃ x8 x9, 
 ((ldA m6 (.ptr m0.nxt 2) 2) = (some [(Il x8), (Il x9)])) ∧ 
 isPt (.ptr m.nxt 0) ∧ ∃ x10, ((ldC m6 (.ptr m.nxt 1)) = (some (Il x10))) ∧ 
 fitsP .i64 (x10 - 1) ∧ Wc prog tbl 70 [(.agg 2 [(Il x8), 
 (Il x9)]), (.c (Il 0)), (.c (Il (x10 - 1)))] m6 (fun v11 m12 => 
 ∃ b13 : Bool, (v11 = (.c (.bool b13))) ∧ Q (.c (.bool b13)) m12)) (Q (.c (.bool false)) m6)))) : Wc prog tbl 24 [(.agg 12 [(Il a100), (Il a101), (Il a102), (Il a103), (Il a104), (Il a105), (Il a106), (Il a107), (Il a108), (Il a109), (Il a110), a111]), (.agg 4 [(Il a200), (Il a201), (Il a202), (Il a203)])] m Q :=
 wc_eq (n := 2) rfl (by kernel_rfl) (by kernel_rfl) h
theorem w36 {a100 : Int} {a101 : Int} {a102 : Int} {a103 : Int} {a104 : Int} {a105 : Int} {a106 : Int} {a107 : Int} {a108 : Int} {a109 : Int} {a110 : Int} {a111 : C} {m : M} {Q : V → M → Prop} (h :
 (∀ m0 : M, (m0 = (M.new m (AO.cells 12 [(Il a100), (Il a101), (Il a102), 
 (Il a103), (Il a104), (Il a105), (Il a106), 
 (Il a107), (Il a108), (Il a109), (Il a110), 
 a111] false))) → ∃ x1 x2 x3 x4 x5 x6 x7, 
 ∃ x8 x9 x10 x11, ∃ c12 : C, ((ldA m0 (.ptr m.nxt 0) 12) = (some [(Il x1), 
 (Il x2), (Il x3), (Il x4), (Il x5), 
 (Il x6), (Il x7), (Il x8), (Il x9), 
 (Il x10), (Il x11), c12])) ∧ Wc prog tbl 48 [(.agg 12 [(Il x1), 
 (Il x2), (Il x3), (Il x4), (Il x5), 
 (Il x6), (Il x7), (Il x8), (Il x9), 
 (Il x10), (Il x11), c12])] m0 (fun v13 m14 => ∃ x15, 
 (v13 = (.c (Il x15))) ∧ ifB (!decide (x15 = 0)) (Q (.tup [(.c C.sl0), 
 (.c (Il x15))]) m14) (∃ x16 x17 x18 x19, 
 ∃ x20 x21 x22 x23 x24 x25, 
 ∃ x26, ∃ c27 : C, ((ldA m14 (.ptr m.nxt 0) 12) = (some [(Il x16), 
 (Il x17), (Il x18), (Il x19), (Il x20), 
 (Il x21), (Il x22), (Il x23), (Il x24), 
 (Il x25), (Il x26), c27])) ∧ Wc prog tbl 81 [(.agg 12 [(Il x16), 
 (Il x17), (Il x18), (Il x19), (Il x20), 
 (Il x21), (Il x22), (Il x23), (Il x24), 
 (Il x25), (Il x26), c27])] m14 (fun v28 m29 => 
 ∃ x30 x31 x32 x33 x34 x35, 
 ∃ x36 x37 x38 x39 x40, ∃ c41 : C, 
 ∃ c42 : C, (v28 = (.agg 13 [(Il x30), (Il x31), 
 (Il x32), (Il x33), (Il x34), (Il x35), 
 (Il x36), (Il x37), (Il x38), (Il x39), 
 (Il x40), c41, c42])) ∧ Wc prog tbl 84 [(.agg 13 [(Il x30), 
 (Il x31), (Il x32), (Il x33), (Il x34), 
 (Il x35), (Il x36), (Il x37), (Il x38), 
 (Il x39), (Il x40), c41, c42]), (.agg 1 [(C.fn (Fn.func 85) [] [])])] m29 (fun v43 m44 => 
 ∃ c45 : C, (v43 = (.c c45)) ∧ Q (.tup [(.c c45), (.c (Il 0))]) m44)))))) : Wc prog tbl 36 [(.agg 12 [(Il a100), (Il a101), (Il a102), (Il a103), (Il a104), (Il a105), (Il a106), (Il a107), (Il a108), (Il a109), (Il a110), a111])] m Q :=
 wc_eq (n := 1) rfl (by kernel_rfl) (by kernel_rfl) h
theorem w39 {a100 : C} {a200 : C} {m : M} {Q : V → M → Prop} (h :
 (isSl a100 ∧ isSl a200 ∧ ifB (!decide ((((slLen a100) : Nat) : Int) = (((slLen a200) : Nat) : Int))) (Q (.c (.bool false)) m) (∀ R0 : List V → 
 M → Prop, (∀ b1 : Bool, ∀ x2 : Int, ∀ m3 : M, (isSl a100 ∧ ifB (decide (x2 < (((slLen a100) : Nat) : Int))) (∃ n4 : Nat, 
 (x2 = ((n4 : Nat) : Int)) ∧ (n4 < (slLen a100)) ∧ ∃ x5, ((ldC m3 (slAt a100 (n4 * 1))) = (some (Il x5))) ∧ 
 ∃ n6 : Nat, (x2 = ((n6 : Nat) : Int)) ∧ (n6 < (slLen a200)) ∧ ∃ x7, ((ldC m3 (slAt a200 (n6 * 1))) = (some (Il x7))) ∧ 
 ifB (!decide (x5 = x7)) (Q (.c (.bool false)) m3) (fitsP .i64 (x2 + 1) ∧ 
 R0 [(.c (.bool b1)), (.c (Il (x2 + 1)))] m3)) (Q (.c (.bool true)) m3)) → 
 R0 [(.c (.bool b1)), (.c (Il x2))] m3) → R0 [(.c (.bool false)), (.c (Il 0))] m))) : Wc prog tbl 39 [(.c a100), (.c a200)] m Q :=
 wc_eq (n := 2) rfl (by kernel_rfl) (by kernel_rfl) h
theorem w42 {a100 : Int} {a101 : Int} {a102 : Int} {a103 : Int} {a104 : Int} {a105 : Int} {a106 : Int} {a107 : Int} {a108 : Int} {a109 : Int} {a110 : Int} {a111 : C} {a200 : C} {m : M} {Q : V → M → Prop} (h :
 (∀ m0 : M, (m0 = (M.new m (AO.cells 12 [(Il a100), (Il a101), (Il a102), 
 (Il a103), (Il a104), (Il a105), (Il a106), 
 (Il a107), (Il a108), (Il a109), (Il a110), 
 a111] false))) → ∀ R1 : List V → M → Prop, (∀ x2 : Int, ∀ x3 : Int, ∀ m4 : M, (isPt (.ptr m.nxt 0) ∧ 
 ∃ c5 : C, ((ldC m4 (.ptr m.nxt 11)) = (some c5)) ∧ isSl c5 ∧ ifB (decide (x3 < (((slLen c5) : Nat) : Int))) (((0 : Int) ≤ (2 : Int)) ∧ 
 ((0 : Int) ≤ (wrapZ .u64 x3)) ∧ ((wrapZ .u64 x3) ≤ (64 : Int)) ∧ fitsP .i64 ((2 : Int) * ((2 : Int) ^ (Int.toNat (wrapZ .u64 x3)))) ∧ 
 fitsP .i64 (((2 : Int) * ((2 : Int) ^ (Int.toNat (wrapZ .u64 x3)))) - (1 : Int)) ∧ 
 Wc prog tbl 89 [(.c a200), (.c (Il (((2 : Int) * ((2 : Int) ^ (Int.toNat (wrapZ .u64 x3)))) - (1 : Int))))] m4 (fun v6 m7 => 
 ∃ b8 : Bool, (v6 = (.c (.bool b8))) ∧ ifB (!b8) (Q (.c (Il x3)) m7) (fitsP .i64 (x3 + 1) ∧ 
 R1 [(.c (Il x2)), (.c (Il (x3 + 1)))] m7))) (Q (.c (Il (-1 : Int))) m4)) → 
 R1 [(.c (Il x2)), (.c (Il x3))] m4) → R1 [(.c (Il 0)), 
 (.c (Il 0))] m0)) : Wc prog tbl 42 [(.agg 12 [(Il a100), (Il a101), (Il a102), (Il a103), (Il a104), (Il a105), (Il a106), (Il a107), (Il a108), (Il a109), (Il a110), a111]), (.c a200)] m Q :=
 wc_eq (n := 2) rfl (by kernel_rfl) (by kernel_rfl) h
theorem w48 {a100 : Int} {a101 : Int} {a102 : Int} {a103 : Int} {a104 : Int} {a105 : Int} {a106 : Int} {a107 : Int} {a108 : Int} {a109 : Int} {a110 : Int} {a111 : C} {m : M} {Q : V → M → Prop} (h :
 (∀ m0 : M, (m0 = (M.new m (AO.cells 12 [(Il a100), (Il a101), (Il a102), 
 (Il a103), (Il a104), (Il a105), (Il a106), 
 (Il a107), (Il a108), (Il a109), (Il a110), 
 a111] false))) → ∃ x1 x2 x3 x4 x5 x6 x7, 
 ∃ x8 x9 x10 x11, ∃ c12 : C, ((ldA m0 (.ptr m.nxt 0) 12) = (some [(Il x1), 
 (Il x2), (Il x3), (Il x4), (Il x5), 
 (Il x6), (Il x7), (Il x8), (Il x9), 
 (Il x10), (Il x11), c12])) ∧ Wc prog tbl 98 [(.agg 12 [(Il x1), 
 (Il x2), (Il x3), (Il x4), (Il x5), 
 (Il x6), (Il x7), (Il x8), (Il x9), 
 (Il x10), (Il x11), c12])] m0 (fun v13 m14 => ∃ b15 : Bool, 
 (v13 = (.c (.bool b15))) ∧ ifB b15 (Q (.c (Il (3 : Int))) m14) (∃ x16, 
 ∃ x17 x18 x19 x20 x21 x22 x23, 
 ∃ x24 x25 x26, ∃ c27 : C, ((ldA m14 (.ptr m.nxt 0) 12) = (some [(Il x16), 
 (Il x17), (Il x18), (Il x19), (Il x20), 
 (Il x21), (Il x22), (Il x23), (Il x24), 
 (Il x25), (Il x26), c27])) ∧ Wc prog tbl 99 [(.agg 13 [(Il x16), 
 (Il x17), (Il x18), (Il x19), (Il x20), 
 (Il x21), (Il x22), (Il x23), (Il x24), 
 (Il x25), (Il x26), c27, C.map0])] m14 (fun v28 m29 => 
 ∃ b30 : Bool, (v28 = (.c (.bool b30))) ∧ ifB (!b30) (Q (.c (Il (1 : Int))) m29) (∃ x31, 
 ∃ x32 x33 x34 x35 x36 x37, 
 ∃ x38 x39 x40 x41, ∃ c42 : C, ((ldA m29 (.ptr m.nxt 0) 12) = (some [(Il x31), 
 (Il x32), (Il x33), (Il x34), (Il x35), 
 (Il x36), (Il x37), (Il x38), (Il x39), 
 (Il x40), (Il x41), c42])) ∧ Wc prog tbl 100 [(.agg 12 [(Il x31), 
 (Il x32), (Il x33), (Il x34), (Il x35), 
 (Il x36), (Il x37), (Il x38), (Il x39), 
 (Il x40), (Il x41), c42])] m29 (fun v43 m44 => 
 ∃ x45, (v43 = (.c (Il x45))) ∧ ifB (decide ((2000 : Int) < x45)) (Q (.c (Il (3 : Int))) m44) (Q (.c (Il 0)) m44)))))))) : Wc prog tbl 48 [(.agg 12 [(Il a100), (Il a101), (Il a102), (Il a103), (Il a104), (Il a105), (Il a106), (Il a107), (Il a108), (Il a109), (Il a110), a111])] m Q :=
 wc_eq (n := 1) rfl (by kernel_rfl) (by kernel_rfl) h
theorem w54 {a100 : Int} {a101 : Int} {a102 : Int} {a103 : Int} {a104 : Int} {a105 : Int} {a106 : Int} {a107 : Int} {a108 : Int} {a109 : Int} {a110 : Int} {a111 : C} {a200 : Int} {a201 : Int} {a202 : Int} {a203 : Int} {a300 : Int} {a400 : Int} {m : M} {Q : V → M → Prop} (h :
 (∀ m0 : M, (m0 = (M.new m (AO.cells 12 [(Il a100), (Il a101), (Il a102), 
 (Il a103), (Il a104), (Il a105), (Il a106), 
 (Il a107), (Il a108), (Il a109), (Il a110), 
 a111] false))) → ∀ m1 : M, (m1 = (M.new m0 (AO.cells 4 [(Il a200), (Il a201), 
 (Il a202), (Il a203)] false))) → ∃ x2 x3 x4, 
 ∃ x5 x6 x7 x8 x9 x10 x11 x12, 
 ∃ c13 : C, ((ldA m1 (.ptr m.nxt 0) 12) = (some [(Il x2), (Il x3), 
 (Il x4), (Il x5), (Il x6), (Il x7), 
 (Il x8), (Il x9), (Il x10), (Il x11), 
 (Il x12), c13])) ∧ ∃ x14 x15 x16 x17, 
 ((ldA m1 (.ptr m0.nxt 0) 4) = (some [(Il x14), (Il x15), 
 (Il x16), (Il x17)])) ∧ Wc prog tbl 71 [(.agg 12 [(Il x2), 
 (Il x3), (Il x4), (Il x5), (Il x6), 
 (Il x7), (Il x8), (Il x9), (Il x10), 
 (Il x11), (Il x12), c13]), (.agg 4 [(Il x14), 
 (Il x15), (Il x16), (Il x17)]), (.c (Il a300)), 
 (.c (Il a400))] m1 (fun v18 m19 => ∃ b20 : Bool, (v18 = (.c (.bool b20))) ∧ 
 ifB (!b20) (Q (.c (Il 0)) m19) (isPt (.ptr m0.nxt 0) ∧ 
 ∃ x21, ((ldC m19 (.ptr m0.nxt 3)) = (some (Il x21))) ∧ 
 isPt (.ptr m.nxt 0) ∧ ∃ x22, ((ldC m19 (.ptr m.nxt 2)) = (some (Il x22))) ∧ 
 ∃ x23 x24 x25 x26 x27 x28, 
 ∃ x29 x30 x31 x32 x33, ∃ c34 : C, 
 ((ldA m19 (.ptr m.nxt 0) 12) = (some [(Il x23), (Il x24), 
 (Il x25), (Il x26), (Il x27), (Il x28), 
 (Il x29), (Il x30), (Il x31), (Il x32), 
 (Il x33), c34])) ∧ ∃ x35 x36 x37 x38, 
 ((ldA m19 (.ptr m0.nxt 0) 4) = (some [(Il x35), (Il x36), 
 (Il x37), (Il x38)])) ∧ Wc prog tbl 102 [(.agg 12 [(Il x23), 
 (Il x24), (Il x25), (Il x26), (Il x27), 
 (Il x28), (Il x29), (Il x30), (Il x31), 
 (Il x32), (Il x33), c34]), (.agg 4 [(Il x35), 
 (Il x36), (Il x37), (Il x38)]), 
 (.c (Il a300)), (.c (Il a400))] m19 (fun v39 m40 => 
 ∃ x41, (v39 = (.c (Il x41))) ∧ ((ldC m40 (.ptr m.nxt 2)) = (some (Il x22))) ∧ 
 ((ldC m40 (.ptr m0.nxt 3)) = (some (Il x21))) ∧ isPt (.ptr m.nxt 0) ∧ 
 ∃ x42, ((ldC m40 (.ptr m.nxt 0)) = (some (Il x42))) ∧ 
 ((ldC m19 (.ptr m.nxt 0)) = (some (Il x42))) ∧ fitsP .i64 (x42 - 1) ∧ 
 ((0 : Int) ≤ x41) ∧ ((0 : Int) < (x42 - 1)) ∧ fitsP .i64 (x41 / (x42 - 1)) ∧ 
 ((0 : Int) ≤ x22) ∧ ((0 : Int) ≤ (x41 / (x42 - 1))) ∧ fitsP .i64 (x22 * (x41 / (x42 - 1))) ∧ 
 fitsP .i64 (x21 - (x22 * (x41 / (x42 - 1)))) ∧ Q (.c (Il (Max.max (1 : Int) (x21 - (x22 * (x41 / (x42 - 1))))))) m40))))) : Wc prog tbl 54 [(.agg 12 [(Il a100), (Il a101), (Il a102), (Il a103), (Il a104), (Il a105), (Il a106), (Il a107), (Il a108), (Il a109), (Il a110), a111]), (.agg 4 [(Il a200), (Il a201), (Il a202), (Il a203)]), (.c (Il a300)), (.c (Il a400))] m Q :=
 wc_eq (n := 4) rfl (by kernel_rfl) (by kernel_rfl) h
theorem w60 {a100 : C} {a200 : C} {m : M} {Q : V → M → Prop} (h :
 (isSl a100 ∧ isSl a200 ∧ ifB (decide ((((slLen a100) : Nat) : Int) < (((slLen a200) : Nat) : Int))) (Q (.c (.bool true)) m) (isSl a100 ∧ 
 isSl a200 ∧ ifB (decide ((((slLen a100) : Nat) : Int) = (((slLen a200) : Nat) : Int))) (Wc prog tbl 104 [(.c a100), 
 (.c a200)] m (fun v0 m1 => ∃ b2 : Bool, (v0 = (.c (.bool b2))) ∧ Q (.c (.bool b2)) m1)) (Q (.c (.bool false)) m)))) : Wc prog tbl 60 [(.c a100), (.c a200)] m Q :=
 wc_eq (n := 2) rfl (by kernel_rfl) (by kernel_rfl) h
theorem w66 {a100 : Int} {a101 : Int} {a102 : Int} {a103 : Int} {a104 : Int} {a105 : Int} {a106 : Int} {a107 : Int} {a108 : Int} {a109 : Int} {a110 : Int} {a111 : C} {m : M} {Q : V → M → Prop} (h :
 (∀ m0 : M, (m0 = (M.new m (AO.cells 12 [(Il a100), (Il a101), (Il a102), 
 (Il a103), (Il a104), (Il a105), (Il a106), 
 (Il a107), (Il a108), (Il a109), (Il a110), 
 a111] false))) → isPt (.ptr m.nxt 0) ∧ ∃ x1, ((ldC m0 (.ptr m.nxt 0)) = (some (Il x1))) ∧ 
 ifB (decide ((12 : Int) < x1)) (Q (.c (Il (3 : Int))) m0) (isPt (.ptr m.nxt 0) ∧ ∃ x2, 
 ((ldC m0 (.ptr m.nxt 1)) = (some (Il x2))) ∧ ifB (decide ((12 : Int) < x2)) (Q (.c (Il (3 : Int))) m0) (isPt (.ptr m.nxt 0) ∧ 
 ∃ c3 : C, ((ldC m0 (.ptr m.nxt 11)) = (some c3)) ∧ isSl c3 ∧ ifB (decide ((6 : Int) < (((slLen c3) : Nat) : Int))) (Q (.c (Il (3 : Int))) m0) (isPt (.ptr m.nxt 0) ∧ 
 ∃ x4, ((ldC m0 (.ptr m.nxt 0)) = (some (Il x4))) ∧ ifB (decide (x4 < 2)) (Q (.c (Il (1 : Int))) m0) (isPt (.ptr m.nxt 0) ∧ 
 ∃ x5, ((ldC m0 (.ptr m.nxt 1)) = (some (Il x5))) ∧ ifB (decide (x5 < 1)) (Q (.c (Il (1 : Int))) m0) (isPt (.ptr m.nxt 0) ∧ 
 ∃ x6, ((ldC m0 (.ptr m.nxt 2)) = (some (Il x6))) ∧ 
 Wc prog tbl 31 [(.c (Il x6)), (.c (Il 0)), 
 (.c (Il (4 : Int)))] m0 (fun v7 m8 => ∃ b9 : Bool, (v7 = (.c (.bool b9))) ∧ 
 ifB (!b9) (Q (.c (Il (1 : Int))) m8) (isPt (.ptr m.nxt 0) ∧ 
 ∃ x10 x11, ((ldA m8 (.ptr m.nxt 3) 2) = (some [(Il x10), 
 (Il x11)])) ∧ isPt (.ptr m.nxt 0) ∧ ∃ x12, ((ldC m8 (.ptr m.nxt 1)) = (some (Il x12))) ∧ 
 fitsP .i64 (x12 - 1) ∧ Wc prog tbl 70 [(.agg 2 [(Il x10), 
 (Il x11)]), (.c (Il 0)), (.c (Il (x12 - 1)))] m8 (fun v13 m14 => 
 ∃ b15 : Bool, (v13 = (.c (.bool b15))) ∧ ifB (!b15) (Q (.c (Il (1 : Int))) m14) (isPt (.ptr m.nxt 0) ∧ 
 ∃ x16 x17, ((ldA m14 (.ptr m.nxt 5) 2) = (some [(Il x16), 
 (Il x17)])) ∧ isPt (.ptr m.nxt 0) ∧ ∃ x18, ((ldC m14 (.ptr m.nxt 1)) = (some (Il x18))) ∧ 
 fitsP .i64 (x18 - 1) ∧ Wc prog tbl 70 [(.agg 2 [(Il x16), 
 (Il x17)]), (.c (Il 0)), (.c (Il (x18 - 1)))] m14 (fun v19 m20 => 
 ∃ b21 : Bool, (v19 = (.c (.bool b21))) ∧ ifB (!b21) (Q (.c (Il (1 : Int))) m20) (isPt (.ptr m.nxt 0) ∧ 
 ∃ x22 x23, ((ldA m20 (.ptr m.nxt 7) 2) = (some [(Il x22), 
 (Il x23)])) ∧ Wc prog tbl 70 [(.agg 2 [(Il x22), 
 (Il x23)]), (.c (Il 0)), (.c (Il (3 : Int)))] m20 (fun v24 m25 => 
 ∃ b26 : Bool, (v24 = (.c (.bool b26))) ∧ ifB (!b26) (Q (.c (Il (1 : Int))) m25) (isPt (.ptr m.nxt 0) ∧ 
 ∃ x27 x28, ((ldA m25 (.ptr m.nxt 9) 2) = (some [(Il x27), 
 (Il x28)])) ∧ Wc prog tbl 70 [(.agg 2 [(Il x27), 
 (Il x28)]), (.c (Il (1 : Int))), (.c (Il (9 : Int)))] m25 (fun v29 m30 => 
 ∃ b31 : Bool, (v29 = (.c (.bool b31))) ∧ ifB (!b31) (Q (.c (Il (1 : Int))) m30) (∀ R32 : List V → 
 M → Prop, (∀ x33 : Int, ∀ x34 : Int, ∀ m35 : M, (isPt (.ptr m.nxt 0) ∧ 
 ∃ c36 : C, ((ldC m35 (.ptr m.nxt 11)) = (some c36)) ∧ isSl c36 ∧ 
 ifB (decide (x34 < (((slLen c36) : Nat) : Int))) (∃ x37 x38, 
 ∃ x39 x40 x41 x42 x43 x44, 
 ∃ x45 x46 x47, ∃ c48 : C, ((ldA m35 (.ptr m.nxt 0) 12) = (some [(Il x37), 
 (Il x38), (Il x39), (Il x40), (Il x41), 
 (Il x42), (Il x43), (Il x44), (Il x45), 
 (Il x46), (Il x47), c48])) ∧ isPt (.ptr m.nxt 0) ∧ 
 ∃ c49 : C, ((ldC m35 (.ptr m.nxt 11)) = (some c49)) ∧ ∃ n50 : Nat, 
 (x34 = ((n50 : Nat) : Int)) ∧ (n50 < (slLen c49)) ∧ ∃ x51 x52, 
 ∃ x53 x54, ∃ b55 : Bool, ∃ x56 x57, ((ldA m35 (slAt c49 (n50 * 7)) 7) = (some [(Il x51), 
 (Il x52), (Il x53), (Il x54), (.bool b55), 
 (Il x56), (Il x57)])) ∧ Wc prog tbl 105 [(.agg 12 [(Il x37), 
 (Il x38), (Il x39), (Il x40), (Il x41), 
 (Il x42), (Il x43), (Il x44), (Il x45), 
 (Il x46), (Il x47), c48]), (.agg 7 [(Il x51), 
 (Il x52), (Il x53), (Il x54), (.bool b55), 
 (Il x56), (Il x57)])] m35 (fun v58 m59 => ∃ b60 : Bool, 
 (v58 = (.c (.bool b60))) ∧ ifB (!b60) (Q (.c (Il (1 : Int))) m59) (fitsP .i64 (x34 + 1) ∧ 
 R32 [(.c (Il x33)), (.c (Il (x34 + 1)))] m59))) (∃ x61, 
 ∃ x62 x63 x64 x65 x66 x67, 
 ∃ x68 x69 x70 x71, ∃ c72 : C, ((ldA m35 (.ptr m.nxt 0) 12) = (some [(Il x61), 
 (Il x62), (Il x63), (Il x64), (Il x65), 
 (Il x66), (Il x67), (Il x68), (Il x69), 
 (Il x70), (Il x71), c72])) ∧ Wc prog tbl 67 [(.agg 12 [(Il x61), 
 (Il x62), (Il x63), (Il x64), (Il x65), 
 (Il x66), (Il x67), (Il x68), (Il x69), 
 (Il x70), (Il x71), c72])] m35 (fun v73 m74 => 
 ∃ x75, (v73 = (.c (Il x75))) ∧ ifB (decide ((2000 : Int) < x75)) (Q (.c (Il (3 : Int))) m74) (Q (.c (Il 0)) m74)))) → 
 R32 [(.c (Il x33)), (.c (Il x34))] m35) → 
 R32 [(.c (Il 0)), (.c (Il 0))] m30))))))))))))))))) : Wc prog tbl 66 [(.agg 12 [(Il a100), (Il a101), (Il a102), (Il a103), (Il a104), (Il a105), (Il a106), (Il a107), (Il a108), (Il a109), (Il a110), a111])] m Q :=
 wc_eq (n := 1) rfl (by kernel_rfl) (by kernel_rfl) h
theorem w72 {a100 : Int} {a101 : Int} {a102 : Int} {a103 : Int} {a104 : Int} {a105 : Int} {a106 : Int} {a107 : Int} {a108 : Int} {a109 : Int} {a110 : Int} {a111 : C} {a200 : Int} {a201 : Int} {a202 : Int} {a203 : Int} {a300 : Int} {a301 : Int} {a302 : Int} {a303 : Int} {a304 : Bool} {a305 : Int} {a306 : Int} {m : M} {Q : V → M → Prop} (h :
 (∀ m0 : M, (m0 = (M.new m (AO.cells 12 [(Il a100), (Il a101), (Il a102), 
 (Il a103), (Il a104), (Il a105), (Il a106), 
 (Il a107), (Il a108), (Il a109), (Il a110), 
 a111] false))) → ∀ m1 : M, (m1 = (M.new m0 (AO.cells 4 [(Il a200), (Il a201), 
 (Il a202), (Il a203)] false))) → ∀ m2 : M, (m2 = (M.new m1 (AO.cells 7 [(Il a300), 
 (Il a301), (Il a302), (Il a303), (.bool a304), (Il a305), 
 (Il a306)] false))) → isPt (.ptr m1.nxt 0) ∧ isPt (.ptr m1.nxt 0) ∧ ∃ x3, 
 ((ldC m2 (.ptr m1.nxt 0)) = (some (Il x3))) ∧ ∀ R4 : List V → M → Prop, 
 (∀ b5 : Bool, ∀ b6 : Bool, ∀ x7 : Int, ∀ m8 : M, (isPt (.ptr m1.nxt 0) ∧ isPt (.ptr m1.nxt 0) ∧ 
 ∃ x9, ((ldC m8 (.ptr m1.nxt 1)) = (some (Il x9))) ∧ ifB (decide (x7 ≤ x9)) (isPt (.ptr m1.nxt 0) ∧ 
 isPt (.ptr m1.nxt 2) ∧ ∃ x10, ((ldC m8 (.ptr m1.nxt 2)) = (some (Il x10))) ∧ 
 ∀ R11 : List V → M → Prop, (∀ b12 : Bool, ∀ b13 : Bool, ∀ x14 : Int, ∀ m15 : M, 
 (isPt (.ptr m1.nxt 0) ∧ isPt (.ptr m1.nxt 2) ∧ ∃ x16, ((ldC m15 (.ptr m1.nxt 3)) = (some (Il x16))) ∧ 
 ifB (decide (x14 ≤ x16)) (isPt (.ptr m1.nxt 0) ∧ ∃ b17 : Bool, ((ldC m15 (.ptr m1.nxt 4)) = (some (.bool b17))) ∧ 
 ifB b17 (∃ x18 x19 x20 x21 x22, 
 ∃ x23 x24 x25 x26 x27 x28, 
 ∃ c29 : C, ((ldA m15 (.ptr m.nxt 0) 12) = (some [(Il x18), 
 (Il x19), (Il x20), (Il x21), (Il x22), 
 (Il x23), (Il x24), (Il x25), (Il x26), 
 (Il x27), (Il x28), c29])) ∧ ∃ x30 x31, 
 ∃ x32 x33, ((ldA m15 (.ptr m0.nxt 0) 4) = (some [(Il x30), 
 (Il x31), (Il x32), (Il x33)])) ∧ 
 Wc prog tbl 71 [(.agg 12 [(Il x18), (Il x19), 
 (Il x20), (Il x21), (Il x22), (Il x23), 
 (Il x24), (Il x25), (Il x26), (Il x27), 
 (Il x28), c29]), (.agg 4 [(Il x30), (Il x31), 
 (Il x32), (Il x33)]), (.c (Il x7)), 
 (.c (Il x14))] m15 (fun v34 m35 => ∃ b36 : Bool, (v34 = (.c (.bool b36))) ∧ 
 ifB b36 (∃ x37 x38 x39 x40 x41, 
 ∃ x42 x43 x44 x45 x46 x47, 
 ∃ c48 : C, ((ldA m35 (.ptr m.nxt 0) 12) = (some [(Il x37), 
 (Il x38), (Il x39), (Il x40), (Il x41), 
 (Il x42), (Il x43), (Il x44), (Il x45), 
 (Il x46), (Il x47), c48])) ∧ ∃ x49 x50, 
 ∃ x51 x52, ((ldA m35 (.ptr m0.nxt 0) 4) = (some [(Il x49), 
 (Il x50), (Il x51), (Il x52)])) ∧ 
 Wc prog tbl 54 [(.agg 12 [(Il x37), (Il x38), 
 (Il x39), (Il x40), (Il x41), (Il x42), 
 (Il x43), (Il x44), (Il x45), (Il x46), 
 (Il x47), c48]), (.agg 4 [(Il x49), (Il x50), 
 (Il x51), (Il x52)]), (.c (Il x7)), 
 (.c (Il x14))] m35 (fun v53 m54 => ∃ x55, (v53 = (.c (Il x55))) ∧ 
 isPt (.ptr m1.nxt 0) ∧ isPt (.ptr m1.nxt 5) ∧ ∃ x56, ((ldC m54 (.ptr m1.nxt 5)) = (some (Il x56))) ∧ 
 ((ldC m35 (.ptr m1.nxt 5)) = (some (Il x56))) ∧ isPt (.ptr m1.nxt 0) ∧ 
 isPt (.ptr m1.nxt 5) ∧ ∃ x57, ((ldC m54 (.ptr m1.nxt 6)) = (some (Il x57))) ∧ 
 ((ldC m35 (.ptr m1.nxt 6)) = (some (Il x57))) ∧ Wc prog tbl 31 [(.c (Il x55)), 
 (.c (Il x56)), (.c (Il x57))] m54 (fun v58 m59 => 
 ∃ b60 : Bool, (v58 = (.c (.bool b60))) ∧ ifB b60 (Q (.c (.bool true)) m59) (isPt (.ptr m1.nxt 0) ∧ 
 ∃ b61 : Bool, ((ldC m59 (.ptr m1.nxt 4)) = (some (.bool b61))) ∧ 
 ifB (!b61) (∃ x62 x63 x64 x65 x66, 
 ∃ x67 x68 x69 x70 x71 x72, 
 ∃ c73 : C, ((ldA m59 (.ptr m.nxt 0) 12) = (some [(Il x62), 
 (Il x63), (Il x64), (Il x65), (Il x66), 
 (Il x67), (Il x68), (Il x69), (Il x70), 
 (Il x71), (Il x72), c73])) ∧ ∃ x74 x75, 
 ∃ x76 x77, ((ldA m59 (.ptr m0.nxt 0) 4) = (some [(Il x74), 
 (Il x75), (Il x76), (Il x77)])) ∧ 
 Wc prog tbl 71 [(.agg 12 [(Il x62), (Il x63), 
 (Il x64), (Il x65), (Il x66), (Il x67), 
 (Il x68), (Il x69), (Il x70), (Il x71), 
 (Il x72), c73]), (.agg 4 [(Il x74), (Il x75), 
 (Il x76), (Il x77)]), (.c (Il x7)), 
 (.c (Il x14))] m59 (fun v78 m79 => ∃ b80 : Bool, (v78 = (.c (.bool b80))) ∧ 
 ifB (!b80) (Q (.c (.bool true)) m79) (fitsP .i64 (x14 + 1) ∧ 
 R11 [(.c (.bool b12)), (.c (.bool b12)), (.c (Il (x14 + 1)))] m79))) (fitsP .i64 (x14 + 1) ∧ 
 R11 [(.c (.bool b12)), (.c (.bool b12)), (.c (Il (x14 + 1)))] m59))))) (isPt (.ptr m1.nxt 0) ∧ 
 ∃ b81 : Bool, ((ldC m35 (.ptr m1.nxt 4)) = (some (.bool b81))) ∧ 
 ifB (!b81) (∃ x82 x83 x84 x85 x86, 
 ∃ x87 x88 x89 x90 x91 x92, 
 ∃ c93 : C, ((ldA m35 (.ptr m.nxt 0) 12) = (some [(Il x82), 
 (Il x83), (Il x84), (Il x85), (Il x86), 
 (Il x87), (Il x88), (Il x89), (Il x90), 
 (Il x91), (Il x92), c93])) ∧ ∃ x94 x95, 
 ∃ x96 x97, ((ldA m35 (.ptr m0.nxt 0) 4) = (some [(Il x94), 
 (Il x95), (Il x96), (Il x97)])) ∧ 
 Wc prog tbl 71 [(.agg 12 [(Il x82), (Il x83), 
 (Il x84), (Il x85), (Il x86), (Il x87), 
 (Il x88), (Il x89), (Il x90), (Il x91), 
 (Il x92), c93]), (.agg 4 [(Il x94), (Il x95), 
 (Il x96), (Il x97)]), (.c (Il x7)), 
 (.c (Il x14))] m35 (fun v98 m99 => ∃ b100 : Bool, (v98 = (.c (.bool b100))) ∧ 
 ifB (!b100) (Q (.c (.bool true)) m99) (fitsP .i64 (x14 + 1) ∧ 
 R11 [(.c (.bool b12)), (.c (.bool b12)), (.c (Il (x14 + 1)))] m99))) (fitsP .i64 (x14 + 1) ∧ 
 R11 [(.c (.bool b12)), (.c (.bool b12)), (.c (Il (x14 + 1)))] m35)))) (isPt (.ptr m1.nxt 0) ∧ 
 ∃ b101 : Bool, ((ldC m15 (.ptr m1.nxt 4)) = (some (.bool b101))) ∧ 
 ifB (!b101) (∃ x102 x103 x104 x105 x106, 
 ∃ x107 x108 x109 x110 x111 x112, 
 ∃ c113 : C, ((ldA m15 (.ptr m.nxt 0) 12) = (some [(Il x102), 
 (Il x103), (Il x104), (Il x105), 
 (Il x106), (Il x107), (Il x108), 
 (Il x109), (Il x110), (Il x111), 
 (Il x112), c113])) ∧ ∃ x114 x115 x116, 
 ∃ x117, ((ldA m15 (.ptr m0.nxt 0) 4) = (some [(Il x114), 
 (Il x115), (Il x116), (Il x117)])) ∧ 
 Wc prog tbl 71 [(.agg 12 [(Il x102), (Il x103), 
 (Il x104), (Il x105), (Il x106), 
 (Il x107), (Il x108), (Il x109), 
 (Il x110), (Il x111), (Il x112), 
 c113]), (.agg 4 [(Il x114), (Il x115), (Il x116), 
 (Il x117)]), (.c (Il x7)), (.c (Il x14))] m15 (fun v118 m119 => 
 ∃ b120 : Bool, (v118 = (.c (.bool b120))) ∧ ifB (!b120) (Q (.c (.bool true)) m119) (fitsP .i64 (x14 + 1) ∧ 
 R11 [(.c (.bool b12)), (.c (.bool b12)), (.c (Il (x14 + 1)))] m119))) (fitsP .i64 (x14 + 1) ∧ 
 R11 [(.c (.bool b12)), (.c (.bool b12)), (.c (Il (x14 + 1)))] m15))) (fitsP .i64 (x7 + 1) ∧ 
 R4 [(.c (.bool b12)), (.c (.bool b12)), (.c (Il (x7 + 1)))] m15)) → 
 R11 [(.c (.bool b12)), (.c (.bool b13)), (.c (Il x14))] m15) → 
 R11 [(.c (.bool b5)), (.c (.bool b5)), (.c (Il x10))] m8) (Q (.c (.bool false)) m8)) → 
 R4 [(.c (.bool b5)), (.c (.bool b6)), (.c (Il x7))] m8) → R4 [(.c (.bool false)), 
 (.c (.bool false)), (.c (Il x3))] m2)) : Wc prog tbl 72 [(.agg 12 [(Il a100), (Il a101), (Il a102), (Il a103), (Il a104), (Il a105), (Il a106), (Il a107), (Il a108), (Il a109), (Il a110), a111]), (.agg 4 [(Il a200), (Il a201), (Il a202), (Il a203)]), (.agg 7 [(Il a300), (Il a301), (Il a302), (Il a303), (.bool a304), (Il a305), (Il a306)])] m Q :=
 wc_eq (n := 3) rfl (by kernel_rfl) (by kernel_rfl) h
theorem w82 {a100 : Int} {a101 : Int} {a102 : Int} {a103 : Int} {a104 : Int} {a105 : Int} {a106 : Int} {a107 : Int} {a108 : Int} {a109 : Int} {a110 : Int} {a111 : C} {a112 : C} {a200 : Bool} {a201 : Bool} {a202 : Bool} {a203 : Bool} {a204 : Bool} {a205 : Bool} {m : M} {Q : V → M → Prop} (h :
 (∀ m0 : M, (m0 = (M.new m (AO.cells 13 [(Il a100), (Il a101), (Il a102), 
 (Il a103), (Il a104), (Il a105), (Il a106), 
 (Il a107), (Il a108), (Il a109), (Il a110), 
 a111, a112] false))) → ∀ m1 : M, (m1 = (M.new m0 (AO.cells 6 [(.bool a200), (.bool a201), (.bool a202), 
 (.bool a203), (.bool a204), (.bool a205)] false))) → ∀ m2 : M, (m2 = (M.new m1 (AO.cells 1 [(.bool false)] false))) → 
 isPt (.ptr m.nxt 0) ∧ ∃ x3 x4 x5 x6 x7 x8, 
 ∃ x9 x10 x11 x12 x13, ∃ c14 : C, ((ldA m2 (.ptr m.nxt 0) 12) = (some [(Il x3), 
 (Il x4), (Il x5), (Il x6), (Il x7), 
 (Il x8), (Il x9), (Il x10), (Il x11), 
 (Il x12), (Il x13), c14])) ∧ Wc prog tbl 116 [(.agg 12 [(Il x3), 
 (Il x4), (Il x5), (Il x6), (Il x7), 
 (Il x8), (Il x9), (Il x10), (Il x11), 
 (Il x12), (Il x13), c14])] m2 (fun v15 m16 => ∃ c17 : C, 
 (v15 = (.c c17)) ∧ rangeP prog tbl c17 m16 (fun l18 m19 R20 R21 => ∃ x22, 
 ∃ x23 x24 x25, (l18 = [(.agg 4 [(Il x22), 
 (Il x23), (Il x24), (Il x25)])]) ∧ 
 ∀ m26 : M, (m26 = (M.new m19 (AO.cells 4 [(Il 0), (Il 0), 
 (Il 0), (Il 0)] false))) → ∃ m27 : M, 
 ((stC m26 (.ptr m19.nxt 0) 4 [(Il x22), (Il x23), 
 (Il x24), (Il x25)]) = (some m27)) ∧ R20 m27 (fun m28 => 
 isPt (.ptr m.nxt 0) ∧ ∃ c29 : C, ((ldC m28 (.ptr m.nxt 12)) = (some c29)) ∧ 
 ∃ x30 x31 x32 x33, ((ldA m28 (.ptr m19.nxt 0) 4) = (some [(Il x30), 
 (Il x31), (Il x32), (Il x33)])) ∧ 
 ∃ y34 : Option U, ((lkM prog 43 m28 c29 (.agg 4 [(Il x30), 
 (Il x31), (Il x32), (Il x33)])) = (some y34)) ∧ 
 ((y34 = Option.none) → ∃ b35 : Bool, ∃ b36 : Bool, ∃ b37 : Bool, ∃ b38 : Bool, 
 ∃ b39 : Bool, ∃ b40 : Bool, ((ldA m28 (.ptr m0.nxt 0) 6) = (some [(.bool b35), 
 (.bool b36), (.bool b37), (.bool b38), (.bool b39), (.bool b40)])) ∧ Wc prog tbl 117 [(.agg 6 [(.bool false), 
 (.bool false), (.bool false), (.bool false), (.bool false), (.bool false)]), 
 (.agg 6 [(.bool b35), (.bool b36), (.bool b37), (.bool b38), (.bool b39), 
 (.bool b40)])] m28 (fun v41 m42 => ∃ b43 : Bool, ∃ b44 : Bool, ∃ b45 : Bool, 
 ∃ b46 : Bool, ∃ b47 : Bool, ∃ b48 : Bool, (v41 = (.agg 6 [(.bool b43), 
 (.bool b44), (.bool b45), (.bool b46), (.bool b47), (.bool b48)])) ∧ ∃ b49 : Bool, 
 ∃ b50 : Bool, ∃ b51 : Bool, ∃ b52 : Bool, ∃ b53 : Bool, ∃ b54 : Bool, ((ldA m42 (.ptr m0.nxt 0) 6) = (some [(.bool b49), 
 (.bool b50), (.bool b51), (.bool b52), (.bool b53), (.bool b54)])) ∧ ((ldA m28 (.ptr m0.nxt 0) 6) = (some [(.bool b49), 
 (.bool b50), (.bool b51), (.bool b52), (.bool b53), (.bool b54)])) ∧ ifB ((b43 == b49) && ((b44 == b50) && ((b45 == b51) && ((b46 == b52) && ((b47 == b53) && (b48 == b54)))))) (∃ m55 : M, 
 ((stC m42 (.ptr m1.nxt 0) 1 [(.bool true)]) = (some m55)) ∧ R21 Ex.ret m55) (R21 Ex.nrm m42))) ∧ 
 ∀ u56 : U, (y34 = (some u56)) → ∃ b57 : Bool, ∃ b58 : Bool, ∃ b59 : Bool, 
 ∃ b60 : Bool, ∃ b61 : Bool, ∃ b62 : Bool, (u56 = (.agg 6 [(.bool b57), 
 (.bool b58), (.bool b59), (.bool b60), (.bool b61), (.bool b62)])) ∧ ∃ b63 : Bool, 
 ∃ b64 : Bool, ∃ b65 : Bool, ∃ b66 : Bool, ∃ b67 : Bool, ∃ b68 : Bool, ((ldA m28 (.ptr m0.nxt 0) 6) = (some [(.bool b63), 
 (.bool b64), (.bool b65), (.bool b66), (.bool b67), (.bool b68)])) ∧ Wc prog tbl 117 [(.agg 6 [(.bool b57), 
 (.bool b58), (.bool b59), (.bool b60), (.bool b61), (.bool b62)]), (.agg 6 [(.bool b63), 
 (.bool b64), (.bool b65), (.bool b66), (.bool b67), (.bool b68)])] m28 (fun v69 m70 => 
 ∃ b71 : Bool, ∃ b72 : Bool, ∃ b73 : Bool, ∃ b74 : Bool, ∃ b75 : Bool, ∃ b76 : Bool, 
 (v69 = (.agg 6 [(.bool b71), (.bool b72), (.bool b73), (.bool b74), (.bool b75), 
 (.bool b76)])) ∧ ∃ b77 : Bool, ∃ b78 : Bool, ∃ b79 : Bool, ∃ b80 : Bool, 
 ∃ b81 : Bool, ∃ b82 : Bool, ((ldA m70 (.ptr m0.nxt 0) 6) = (some [(.bool b77), 
 (.bool b78), (.bool b79), (.bool b80), (.bool b81), (.bool b82)])) ∧ ((ldA m28 (.ptr m0.nxt 0) 6) = (some [(.bool b77), 
 (.bool b78), (.bool b79), (.bool b80), (.bool b81), (.bool b82)])) ∧ ifB ((b71 == b77) && ((b72 == b78) && ((b73 == b79) && ((b74 == b80) && ((b75 == b81) && (b76 == b82)))))) (∃ m83 : M, 
 ((stC m70 (.ptr m1.nxt 0) 1 [(.bool true)]) = (some m83)) ∧ R21 Ex.ret m83) (R21 Ex.nrm m70)))) (After.mk (fun m84 => 
 ∃ m85 : M, ((stC m84 (.ptr m1.nxt 0) 1 [(.bool false)]) = (some m85)) ∧ 
 ∃ b86 : Bool, ((ldC m85 (.ptr m1.nxt 0)) = (some (.bool b86))) ∧ 
 Q (.c (.bool b86)) m85) [] (fun m87 => ∃ b88 : Bool, ((ldC m87 (.ptr m1.nxt 0)) = (some (.bool b88))) ∧ 
 Q (.c (.bool b88)) m87))))) : Wc prog tbl 82 [(.agg 13 [(Il a100), (Il a101), (Il a102), (Il a103), (Il a104), (Il a105), (Il a106), (Il a107), (Il a108), (Il a109), (Il a110), a111, a112]), (.agg 6 [(.bool a200), (.bool a201), (.bool a202), (.bool a203), (.bool a204), (.bool a205)])] m Q :=
 wc_eq (n := 2) rfl (by kernel_rfl) (by kernel_rfl) h
theorem w85 {a100 : Int} {a101 : Int} {a102 : Int} {a103 : Int} {a104 : Int} {a105 : Int} {a106 : Int} {a107 : Int} {a108 : Int} {a109 : Int} {a110 : Int} {a111 : C} {a112 : C} {a200 : C} {m : M} {Q : V → M → Prop} (h :
 (∀ m0 : M, (m0 = (M.new m (AO.cells 13 [(Il a100), (Il a101), (Il a102), 
 (Il a103), (Il a104), (Il a105), (Il a106), 
 (Il a107), (Il a108), (Il a109), (Il a110), 
 a111, a112] false))) → ∃ x1 x2 x3 x4 x5 x6, 
 ∃ x7 x8 x9 x10 x11, ∃ c12 : C, ∃ c13 : C, ((ldA m0 (.ptr m.nxt 0) 13) = (some [(Il x1), 
 (Il x2), (Il x3), (Il x4), (Il x5), 
 (Il x6), (Il x7), (Il x8), (Il x9), 
 (Il x10), (Il x11), c12, c13])) ∧ Wc prog tbl 92 [(.agg 13 [(Il x1), 
 (Il x2), (Il x3), (Il x4), (Il x5), 
 (Il x6), (Il x7), (Il x8), (Il x9), 
 (Il x10), (Il x11), c12, c13])] m0 (fun v14 m15 => ∃ b16 : Bool, 
 ∃ b17 : Bool, ∃ b18 : Bool, ∃ b19 : Bool, ∃ b20 : Bool, ∃ b21 : Bool, (v14 = (.agg 6 [(.bool b16), 
 (.bool b17), (.bool b18), (.bool b19), (.bool b20), (.bool b21)])) ∧ ∀ m22 : M, 
 (m22 = (M.new m15 (AO.cells 6 [(.bool false), (.bool false), (.bool false), (.bool false), 
 (.bool false), (.bool false)] false))) → ∃ m23 : M, ((stC m22 (.ptr m15.nxt 0) 6 [(.bool b16), 
 (.bool b17), (.bool b18), (.bool b19), (.bool b20), (.bool b21)]) = (some m23)) ∧ 
 isSl a200 ∧ ∀ R24 : List V → M → Prop, (∀ x25 : Int, ∀ m26 : M, (ifB (decide (x25 < (((slLen a200) : Nat) : Int))) (∃ n27 : Nat, 
 (x25 = ((n27 : Nat) : Int)) ∧ (n27 < (slLen a200)) ∧ ∃ x28, ((ldC m26 (slAt a200 (n27 * 1))) = (some (Il x28))) ∧ 
 isPt (.ptr m15.nxt 0) ∧ ∃ n29 : Nat, (x28 = ((n29 : Nat) : Int)) ∧ (n29 < 6) ∧ 
 ∃ m30 : M, ((stC m26 (.ptr m15.nxt (0 + (n29 * 1))) 1 [(.bool false)]) = (some m30)) ∧ 
 fitsP .i64 (x25 + 1) ∧ R24 [(.c (Il (x25 + 1)))] m30) (∃ x31, 
 ∃ x32 x33 x34 x35 x36 x37, 
 ∃ x38 x39 x40 x41, ∃ c42 : C, ∃ c43 : C, 
 ((ldA m26 (.ptr m.nxt 0) 13) = (some [(Il x31), (Il x32), 
 (Il x33), (Il x34), (Il x35), (Il x36), 
 (Il x37), (Il x38), (Il x39), (Il x40), 
 (Il x41), c42, c43])) ∧ ∃ b44 : Bool, ∃ b45 : Bool, ∃ b46 : Bool, 
 ∃ b47 : Bool, ∃ b48 : Bool, ∃ b49 : Bool, ((ldA m26 (.ptr m15.nxt 0) 6) = (some [(.bool b44), 
 (.bool b45), (.bool b46), (.bool b47), (.bool b48), (.bool b49)])) ∧ Wc prog tbl 82 [(.agg 13 [(Il x31), 
 (Il x32), (Il x33), (Il x34), (Il x35), 
 (Il x36), (Il x37), (Il x38), (Il x39), 
 (Il x40), (Il x41), c42, c43]), (.agg 6 [(.bool b44), 
 (.bool b45), (.bool b46), (.bool b47), (.bool b48), (.bool b49)])] m26 (fun v50 m51 => 
 ∃ b52 : Bool, (v50 = (.c (.bool b52))) ∧ Q (.c (.bool b52)) m51))) → 
 R24 [(.c (Il x25))] m26) → R24 [(.c (Il 0))] m23))) : Wc prog tbl 85 [(.agg 13 [(Il a100), (Il a101), (Il a102), (Il a103), (Il a104), (Il a105), (Il a106), (Il a107), (Il a108), (Il a109), (Il a110), a111, a112]), (.c a200)] m Q :=
 wc_eq (n := 2) rfl (by kernel_rfl) (by kernel_rfl) h
theorem w88 {a100 : Int} {a101 : Int} {a102 : Int} {a103 : Int} {a104 : Int} {a105 : Int} {a106 : Int} {a107 : Int} {a108 : Int} {a109 : Int} {a110 : Int} {a111 : C} {a200 : Int} {m : M} {Q : V → M → Prop} (h :
 (∀ m0 : M, (m0 = (M.new m (AO.cells 12 [(Il a100), (Il a101), (Il a102), 
 (Il a103), (Il a104), (Il a105), (Il a106), 
 (Il a107), (Il a108), (Il a109), (Il a110), 
 a111] false))) → ∀ m1 : M, (m1 = (M.new m0 (AO.cells 4 [(Il 0), (Il 0), 
 (Il 0), (Il 0)] false))) → ∀ m2 : M, (m2 = (M.new m1 (AO.cells 4 [(Il 0), 
 (Il 0), (Il 0), (Il 0)] false))) → 
 isPt (.ptr m.nxt 0) ∧ isPt (.ptr m.nxt 3) ∧ ∃ x3, ((ldC m2 (.ptr m.nxt 3)) = (some (Il x3))) ∧ 
 isPt (.ptr m.nxt 0) ∧ ∃ x4 x5, ((ldA m2 (.ptr m.nxt 3) 2) = (some [(Il x4), 
 (Il x5)])) ∧ Wc prog tbl 62 [(.agg 2 [(Il x4), (Il x5)])] m2 (fun v6 m7 => 
 ∃ x8, (v6 = (.c (Il x8))) ∧ ((ldC m7 (.ptr m.nxt 3)) = (some (Il x3))) ∧ 
 ((0 : Int) ≤ a200) ∧ ((0 : Int) < x8) ∧ fitsP .i64 (a200 % x8) ∧ fitsP .i64 (x3 + (a200 % x8)) ∧ 
 isPt (.ptr m.nxt 0) ∧ ∃ x9 x10, ((ldA m7 (.ptr m.nxt 3) 2) = (some [(Il x9), 
 (Il x10)])) ∧ ((ldA m2 (.ptr m.nxt 3) 2) = (some [(Il x9), 
 (Il x10)])) ∧ Wc prog tbl 62 [(.agg 2 [(Il x9), 
 (Il x10)])] m7 (fun v11 m12 => ∃ x13, (v11 = (.c (Il x13))) ∧ 
 ((ldC m12 (.ptr m.nxt 3)) = (some (Il x3))) ∧ ((0 : Int) ≤ a200) ∧ 
 ((0 : Int) < x13) ∧ fitsP .i64 (a200 / x13) ∧ isPt (.ptr m1.nxt 0) ∧ 
 ∃ m14 : M, ((stC m12 (.ptr m1.nxt 0) 1 [(Il (x3 + (a200 % x8)))]) = (some m14)) ∧ 
 isPt (.ptr m.nxt 0) ∧ isPt (.ptr m.nxt 5) ∧ ∃ x15, ((ldC m14 (.ptr m.nxt 5)) = (some (Il x15))) ∧ 
 isPt (.ptr m.nxt 0) ∧ ∃ x16 x17, ((ldA m14 (.ptr m.nxt 5) 2) = (some [(Il x16), 
 (Il x17)])) ∧ Wc prog tbl 62 [(.agg 2 [(Il x16), 
 (Il x17)])] m14 (fun v18 m19 => ∃ x20, (v18 = (.c (Il x20))) ∧ 
 ((ldC m19 (.ptr m.nxt 5)) = (some (Il x15))) ∧ ((0 : Int) ≤ (a200 / x13)) ∧ 
 ((0 : Int) < x20) ∧ fitsP .i64 ((a200 / x13) % x20) ∧ fitsP .i64 (x15 + ((a200 / x13) % x20)) ∧ 
 isPt (.ptr m.nxt 0) ∧ ∃ x21 x22, ((ldA m19 (.ptr m.nxt 5) 2) = (some [(Il x21), 
 (Il x22)])) ∧ ((ldA m14 (.ptr m.nxt 5) 2) = (some [(Il x21), 
 (Il x22)])) ∧ Wc prog tbl 62 [(.agg 2 [(Il x21), 
 (Il x22)])] m19 (fun v23 m24 => ∃ x25, (v23 = (.c (Il x25))) ∧ 
 ((ldC m24 (.ptr m.nxt 5)) = (some (Il x15))) ∧ ((0 : Int) ≤ (a200 / x13)) ∧ 
 ((0 : Int) < x25) ∧ fitsP .i64 ((a200 / x13) / x25) ∧ isPt (.ptr m1.nxt 0) ∧ 
 ∃ m26 : M, ((stC m24 (.ptr m1.nxt 1) 1 [(Il (x15 + ((a200 / x13) % x20)))]) = (some m26)) ∧ 
 isPt (.ptr m.nxt 0) ∧ isPt (.ptr m.nxt 7) ∧ ∃ x27, ((ldC m26 (.ptr m.nxt 7)) = (some (Il x27))) ∧ 
 isPt (.ptr m.nxt 0) ∧ ∃ x28 x29, ((ldA m26 (.ptr m.nxt 7) 2) = (some [(Il x28), 
 (Il x29)])) ∧ Wc prog tbl 62 [(.agg 2 [(Il x28), 
 (Il x29)])] m26 (fun v30 m31 => ∃ x32, (v30 = (.c (Il x32))) ∧ 
 ((ldC m31 (.ptr m.nxt 7)) = (some (Il x27))) ∧ ((0 : Int) ≤ ((a200 / x13) / x25)) ∧ 
 ((0 : Int) < x32) ∧ fitsP .i64 (((a200 / x13) / x25) % x32) ∧ fitsP .i64 (x27 + (((a200 / x13) / x25) % x32)) ∧ 
 isPt (.ptr m.nxt 0) ∧ ∃ x33 x34, ((ldA m31 (.ptr m.nxt 7) 2) = (some [(Il x33), 
 (Il x34)])) ∧ ((ldA m26 (.ptr m.nxt 7) 2) = (some [(Il x33), 
 (Il x34)])) ∧ Wc prog tbl 62 [(.agg 2 [(Il x33), 
 (Il x34)])] m31 (fun v35 m36 => ∃ x37, (v35 = (.c (Il x37))) ∧ 
 ((ldC m36 (.ptr m.nxt 7)) = (some (Il x27))) ∧ ((0 : Int) ≤ ((a200 / x13) / x25)) ∧ 
 ((0 : Int) < x37) ∧ fitsP .i64 (((a200 / x13) / x25) / x37) ∧ isPt (.ptr m1.nxt 0) ∧ 
 ∃ m38 : M, ((stC m36 (.ptr m1.nxt 2) 1 [(Il (x27 + (((a200 / x13) / x25) % x32)))]) = (some m38)) ∧ 
 isPt (.ptr m.nxt 0) ∧ isPt (.ptr m.nxt 9) ∧ ∃ x39, ((ldC m38 (.ptr m.nxt 9)) = (some (Il x39))) ∧ 
 fitsP .i64 (x39 + (((a200 / x13) / x25) / x37)) ∧ isPt (.ptr m1.nxt 0) ∧ 
 ∃ m40 : M, ((stC m38 (.ptr m1.nxt 3) 1 [(Il (x39 + (((a200 / x13) / x25) / x37)))]) = (some m40)) ∧ 
 ∃ x41 x42 x43 x44, ((ldA m40 (.ptr m1.nxt 0) 4) = (some [(Il x41), 
 (Il x42), (Il x43), (Il x44)])) ∧ 
 ∃ m45 : M, ((stC m40 (.ptr m0.nxt 0) 4 [(Il x41), (Il x42), 
 (Il x43), (Il x44)]) = (some m45)) ∧ ∃ x46, 
 ∃ x47 x48 x49, ((ldA m45 (.ptr m0.nxt 0) 4) = (some [(Il x46), 
 (Il x47), (Il x48), (Il x49)])) ∧ 
 Q (.agg 4 [(Il x46), (Il x47), (Il x48), 
 (Il x49)]) m45)))))))) : Wc prog tbl 88 [(.agg 12 [(Il a100), (Il a101), (Il a102), (Il a103), (Il a104), (Il a105), (Il a106), (Il a107), (Il a108), (Il a109), (Il a110), a111]), (.c (Il a200))] m Q :=
 wc_eq (n := 2) rfl (by kernel_rfl) (by kernel_rfl) h
theorem w91 {a100 : Int} {a101 : Int} {a102 : Int} {a103 : Int} {a104 : Int} {a105 : Int} {a106 : Int} {a107 : Int} {a108 : Int} {a109 : Int} {a110 : Int} {a111 : C} {a112 : C} {a200 : Int} {a201 : Int} {a202 : Int} {a203 : Int} {m : M} {Q : V → M → Prop} (h :
 (∀ m0 : M, (m0 = (M.new m (AO.cells 13 [(Il a100), (Il a101), (Il a102), 
 (Il a103), (Il a104), (Il a105), (Il a106), 
 (Il a107), (Il a108), (Il a109), (Il a110), 
 a111, a112] false))) → ∀ m1 : M, (m1 = (M.new m0 (AO.cells 4 [(Il a200), (Il a201), 
 (Il a202), (Il a203)] false))) → ∀ m2 : M, (m2 = (M.new m1 (AO.cells 6 [(.bool false), 
 (.bool false), (.bool false), (.bool false), (.bool false), (.bool false)] false))) → ∀ m3 : M, 
 (m3 = (M.new m2 (AO.cells 6 [(.bool false), (.bool false), (.bool false), (.bool false), (.bool false), 
 (.bool false)] false))) → isPt (.ptr m.nxt 0) ∧ isPt (.ptr m.nxt 0) ∧ ∃ c4 : C, ((ldC m3 (.ptr m.nxt 11)) = (some c4)) ∧ 
 isSl c4 ∧ ∀ R5 : List V → M → Prop, (∀ x6 : Int, ∀ m7 : M, (ifB (decide (x6 < (((slLen c4) : Nat) : Int))) (∃ n8 : Nat, 
 (x6 = ((n8 : Nat) : Int)) ∧ (n8 < (slLen c4)) ∧ ∃ x9 x10 x11, 
 ∃ x12, ∃ b13 : Bool, ∃ x14 x15, ((ldA m7 (slAt c4 (n8 * 7)) 7) = (some [(Il x9), 
 (Il x10), (Il x11), (Il x12), (.bool b13), 
 (Il x14), (Il x15)])) ∧ ∀ m16 : M, (m16 = (M.new m7 (AO.cells 7 [(Il 0), 
 (Il 0), (Il 0), (Il 0), 
 (.bool false), (Il 0), (Il 0)] false))) → 
 ∃ m17 : M, ((stC m16 (.ptr m7.nxt 0) 7 [(Il x9), (Il x10), 
 (Il x11), (Il x12), (.bool b13), (Il x14), 
 (Il x15)]) = (some m17)) ∧ isPt (.ptr m.nxt 0) ∧ ∃ x18, 
 ∃ x19 x20 x21 x22 x23 x24, 
 ∃ x25 x26 x27 x28, ∃ c29 : C, ((ldA m17 (.ptr m.nxt 0) 12) = (some [(Il x18), 
 (Il x19), (Il x20), (Il x21), (Il x22), 
 (Il x23), (Il x24), (Il x25), (Il x26), 
 (Il x27), (Il x28), c29])) ∧ ∃ x30 x31, 
 ∃ x32 x33, ∃ b34 : Bool, ∃ x35 x36, ((ldA m17 (.ptr m7.nxt 0) 7) = (some [(Il x30), 
 (Il x31), (Il x32), (Il x33), (.bool b34), 
 (Il x35), (Il x36)])) ∧ ∃ x37 x38, 
 ∃ x39 x40, ((ldA m17 (.ptr m0.nxt 0) 4) = (some [(Il x37), 
 (Il x38), (Il x39), (Il x40)])) ∧ 
 Wc prog tbl 121 [(.agg 12 [(Il x18), (Il x19), 
 (Il x20), (Il x21), (Il x22), (Il x23), 
 (Il x24), (Il x25), (Il x26), (Il x27), 
 (Il x28), c29]), (.agg 7 [(Il x30), (Il x31), 
 (Il x32), (Il x33), (.bool b34), (Il x35), 
 (Il x36)]), (.agg 4 [(Il x37), (Il x38), 
 (Il x39), (Il x40)])] m17 (fun v41 m42 => ∃ b43 : Bool, 
 (v41 = (.c (.bool b43))) ∧ isPt (.ptr m2.nxt 0) ∧ ∃ n44 : Nat, (x6 = ((n44 : Nat) : Int)) ∧ 
 (n44 < 6) ∧ ∃ m45 : M, ((stC m42 (.ptr m2.nxt (0 + (n44 * 1))) 1 [(.bool b43)]) = (some m45)) ∧ 
 fitsP .i64 (x6 + 1) ∧ R5 [(.c (Il (x6 + 1)))] m45)) (∃ b46 : Bool, 
 ∃ b47 : Bool, ∃ b48 : Bool, ∃ b49 : Bool, ∃ b50 : Bool, ∃ b51 : Bool, ((ldA m7 (.ptr m2.nxt 0) 6) = (some [(.bool b46), 
 (.bool b47), (.bool b48), (.bool b49), (.bool b50), (.bool b51)])) ∧ ∃ m52 : M, 
 ((stC m7 (.ptr m1.nxt 0) 6 [(.bool b46), (.bool b47), (.bool b48), (.bool b49), 
 (.bool b50), (.bool b51)]) = (some m52)) ∧ ∃ b53 : Bool, ∃ b54 : Bool, 
 ∃ b55 : Bool, ∃ b56 : Bool, ∃ b57 : Bool, ∃ b58 : Bool, ((ldA m52 (.ptr m1.nxt 0) 6) = (some [(.bool b53), 
 (.bool b54), (.bool b55), (.bool b56), (.bool b57), (.bool b58)])) ∧ Q (.agg 6 [(.bool b53), 
 (.bool b54), (.bool b55), (.bool b56), (.bool b57), (.bool b58)]) m52)) → 
 R5 [(.c (Il x6))] m7) → R5 [(.c (Il 0))] m3)) : Wc prog tbl 91 [(.agg 13 [(Il a100), (Il a101), (Il a102), (Il a103), (Il a104), (Il a105), (Il a106), (Il a107), (Il a108), (Il a109), (Il a110), a111, a112]), (.agg 4 [(Il a200), (Il a201), (Il a202), (Il a203)])] m Q :=
 wc_eq (n := 2) rfl (by kernel_rfl) (by kernel_rfl) h
theorem w100 {a100 : Int} {a101 : Int} {a102 : Int} {a103 : Int} {a104 : Int} {a105 : Int} {a106 : Int} {a107 : Int} {a108 : Int} {a109 : Int} {a110 : Int} {a111 : C} {m : M} {Q : V → M → Prop} (h :
 (∀ m0 : M, (m0 = (M.new m (AO.cells 12 [(Il a100), (Il a101), (Il a102), 
 (Il a103), (Il a104), (Il a105), (Il a106), 
 (Il a107), (Il a108), (Il a109), (Il a110), 
 a111] false))) → isPt (.ptr m.nxt 0) ∧ ∃ x1 x2, ((ldA m0 (.ptr m.nxt 3) 2) = (some [(Il x1), 
 (Il x2)])) ∧ Wc prog tbl 125 [(.agg 2 [(Il x1), (Il x2)])] m0 (fun v3 m4 => 
 ∃ x5, (v3 = (.c (Il x5))) ∧ isPt (.ptr m.nxt 0) ∧ ∃ x6 x7, 
 ((ldA m4 (.ptr m.nxt 5) 2) = (some [(Il x6), (Il x7)])) ∧ 
 ((ldA m0 (.ptr m.nxt 5) 2) = (some [(Il x6), (Il x7)])) ∧ 
 Wc prog tbl 125 [(.agg 2 [(Il x6), (Il x7)])] m4 (fun v8 m9 => 
 ∃ x10, (v8 = (.c (Il x10))) ∧ ((0 : Int) ≤ x5) ∧ ((0 : Int) ≤ x10) ∧ 
 fitsP .i64 (x5 * x10) ∧ isPt (.ptr m.nxt 0) ∧ ∃ x11 x12, 
 ((ldA m9 (.ptr m.nxt 7) 2) = (some [(Il x11), (Il x12)])) ∧ 
 ((ldA m4 (.ptr m.nxt 7) 2) = (some [(Il x11), (Il x12)])) ∧ 
 ((ldA m0 (.ptr m.nxt 7) 2) = (some [(Il x11), (Il x12)])) ∧ 
 Wc prog tbl 125 [(.agg 2 [(Il x11), (Il x12)])] m9 (fun v13 m14 => 
 ∃ x15, (v13 = (.c (Il x15))) ∧ ((0 : Int) ≤ (x5 * x10)) ∧ 
 ((0 : Int) ≤ x15) ∧ fitsP .i64 ((x5 * x10) * x15) ∧ isPt (.ptr m.nxt 0) ∧ 
 ∃ x16 x17, ((ldA m14 (.ptr m.nxt 9) 2) = (some [(Il x16), 
 (Il x17)])) ∧ ((ldA m9 (.ptr m.nxt 9) 2) = (some [(Il x16), 
 (Il x17)])) ∧ ((ldA m4 (.ptr m.nxt 9) 2) = (some [(Il x16), 
 (Il x17)])) ∧ ((ldA m0 (.ptr m.nxt 9) 2) = (some [(Il x16), 
 (Il x17)])) ∧ Wc prog tbl 125 [(.agg 2 [(Il x16), 
 (Il x17)])] m14 (fun v18 m19 => ∃ x20, (v18 = (.c (Il x20))) ∧ 
 ((0 : Int) ≤ ((x5 * x10) * x15)) ∧ ((0 : Int) ≤ x20) ∧ fitsP .i64 (((x5 * x10) * x15) * x20) ∧ 
 Q (.c (Il (((x5 * x10) * x15) * x20))) m19)))))) : Wc prog tbl 100 [(.agg 12 [(Il a100), (Il a101), (Il a102), (Il a103), (Il a104), (Il a105), (Il a106), (Il a107), (Il a108), (Il a109), (Il a110), a111])] m Q :=
 wc_eq (n := 1) rfl (by kernel_rfl) (by kernel_rfl) h
theorem w112 {a100 : Int} {a101 : Int} {a102 : Int} {a103 : Int} {a104 : Int} {a105 : Int} {a106 : Int} {a107 : Int} {a108 : Int} {a109 : Int} {a110 : Int} {a111 : C} {a200 : Int} {a201 : Int} {a202 : Int} {a203 : Int} {a300 : Int} {a400 : Int} {m : M} {Q : V → M → Prop} (h :
 (∀ m0 : M, (m0 = (M.new m (AO.cells 12 [(Il a100), (Il a101), (Il a102), 
 (Il a103), (Il a104), (Il a105), (Il a106), 
 (Il a107), (Il a108), (Il a109), (Il a110), 
 a111] false))) → ∀ m1 : M, (m1 = (M.new m0 (AO.cells 4 [(Il a200), (Il a201), 
 (Il a202), (Il a203)] false))) → ∃ x2 x3 x4, 
 ∃ x5 x6 x7 x8 x9 x10 x11 x12, 
 ∃ c13 : C, ((ldA m1 (.ptr m.nxt 0) 12) = (some [(Il x2), (Il x3), 
 (Il x4), (Il x5), (Il x6), (Il x7), 
 (Il x8), (Il x9), (Il x10), (Il x11), 
 (Il x12), c13])) ∧ ∃ x14 x15 x16 x17, 
 ((ldA m1 (.ptr m0.nxt 0) 4) = (some [(Il x14), (Il x15), 
 (Il x16), (Il x17)])) ∧ Wc prog tbl 113 [(.agg 12 [(Il x2), 
 (Il x3), (Il x4), (Il x5), (Il x6), 
 (Il x7), (Il x8), (Il x9), (Il x10), 
 (Il x11), (Il x12), c13]), (.agg 4 [(Il x14), 
 (Il x15), (Il x16), (Il x17)]), (.c (Il a300)), 
 (.c (Il a400))] m1 (fun v18 m19 => ∃ x20, (v18 = (.c (Il x20))) ∧ 
 isPt (.ptr m.nxt 0) ∧ ∃ x21, ((ldC m19 (.ptr m.nxt 0)) = (some (Il x21))) ∧ 
 ((ldC m1 (.ptr m.nxt 0)) = (some (Il x21))) ∧ fitsP .i64 (x21 - 1) ∧ 
 isPt (.ptr m0.nxt 0) ∧ ∃ x22, ((ldC m19 (.ptr m0.nxt 2)) = (some (Il x22))) ∧ 
 ((ldC m1 (.ptr m0.nxt 2)) = (some (Il x22))) ∧ ((0 : Int) ≤ (x21 - 1)) ∧ 
 ((0 : Int) ≤ x22) ∧ fitsP .i64 ((x21 - 1) * x22) ∧ Q (.c (.bool (decide (x20 ≤ ((x21 - 1) * x22))))) m19))) : Wc prog tbl 112 [(.agg 12 [(Il a100), (Il a101), (Il a102), (Il a103), (Il a104), (Il a105), (Il a106), (Il a107), (Il a108), (Il a109), (Il a110), a111]), (.agg 4 [(Il a200), (Il a201), (Il a202), (Il a203)]), (.c (Il a300)), (.c (Il a400))] m Q :=
 wc_eq (n := 4) rfl (by kernel_rfl) (by kernel_rfl) h
theorem w116 {a100 : Int} {a101 : Int} {a102 : Int} {a103 : Int} {a104 : Int} {a105 : Int} {a106 : Int} {a107 : Int} {a108 : Int} {a109 : Int} {a110 : Int} {a111 : C} {m : M} {Q : V → M → Prop} (h :
 (∀ m0 : M, (m0 = (M.new m (AO.cells 12 [(Il a100), (Il a101), (Il a102), 
 (Il a103), (Il a104), (Il a105), (Il a106), 
 (Il a107), (Il a108), (Il a109), (Il a110), 
 a111] false))) → Q (.c (C.fn (Fn.func 130) [] [(W.c (C0.ptr m.nxt 0))])) m0)) : Wc prog tbl 116 [(.agg 12 [(Il a100), (Il a101), (Il a102), (Il a103), (Il a104), (Il a105), (Il a106), (Il a107), (Il a108), (Il a109), (Il a110), a111])] m Q :=
 wc_eq (n := 1) rfl (by kernel_rfl) (by kernel_rfl) h
theorem w120 {a100 : Int} {a101 : Int} {a200 : Int} {m : M} {Q : V → M → Prop} (h :
 (∀ m0 : M, (m0 = (M.new m (AO.cells 2 [(Il a100), (Il a101)] false))) → isPt (.ptr m.nxt 0) ∧ 
 ∃ x1, ((ldC m0 (.ptr m.nxt 0)) = (some (Il x1))) ∧ ifB (decide (x1 ≤ a200)) (isPt (.ptr m.nxt 0) ∧ 
 ∃ x2, ((ldC m0 (.ptr m.nxt 1)) = (some (Il x2))) ∧ Q (.c (.bool (decide (a200 ≤ x2)))) m0) (Q (.c (.bool false)) m0))) : Wc prog tbl 120 [(.agg 2 [(Il a100), (Il a101)]), (.c (Il a200))] m Q :=
 wc_eq (n := 2) rfl (by kernel_rfl) (by kernel_rfl) h
theorem w123 {a100 : C} {a200 : C} {m : M} {Q : V → M → Prop} (h :
 (∀ m0 : M, (m0 = (M.new m (AO.cells 1 [a200] false))) → Wc prog tbl 134 [(.c a100), (.c (C.fn (Fn.func 135) [] [(W.c (C0.ptr m.nxt 0))]))] m0 (fun v1 m2 => 
 ∃ b3 : Bool, (v1 = (.c (.bool b3))) ∧ Q (.c (.bool (!b3))) m2))) : Wc prog tbl 123 [(.c a100), (.c a200)] m Q :=
 wc_eq (n := 2) rfl (by kernel_rfl) (by kernel_rfl) h
theorem w133 {a100 : Int} {a101 : Int} {a102 : Int} {a103 : Int} {a104 : Bool} {a105 : Int} {a106 : Int} {m : M} {Q : V → M → Prop} (h :
 (∀ m0 : M, (m0 = (M.new m (AO.cells 7 [(Il a100), (Il a101), (Il a102), 
 (Il a103), (.bool a104), (Il a105), (Il a106)] false))) → 
 ∀ m1 : M, (m1 = (M.new m0 (AO.cells 4 [(Il 0), (Il 0), (Il 0), 
 (Il 0)] false))) → isPt (.ptr m.nxt 0) ∧ ∃ x2 x3, ((ldA m1 (.ptr m.nxt 0) 2) = (some [(Il x2), 
 (Il x3)])) ∧ isPt (.ptr m.nxt 0) ∧ ∃ x4 x5, ((ldA m1 (.ptr m.nxt 2) 2) = (some [(Il x4), 
 (Il x5)])) ∧ ∃ m6 : M, ((stC m1 (.ptr m0.nxt 0) 4 [(Il x2), 
 (Il x3), (Il x4), (Il x5)]) = (some m6)) ∧ 
 ∃ x7 x8 x9 x10, ((ldA m6 (.ptr m0.nxt 0) 4) = (some [(Il x7), 
 (Il x8), (Il x9), (Il x10)])) ∧ Q (.agg 4 [(Il x7), 
 (Il x8), (Il x9), (Il x10)]) m6)) : Wc prog tbl 133 [(.agg 7 [(Il a100), (Il a101), (Il a102), (Il a103), (.bool a104), (Il a105), (Il a106)])] m Q :=
 wc_eq (n := 1) rfl (by kernel_rfl) (by kernel_rfl) h
theorem w139 {a100 : C} {a200 : C} {m : M} {Q : V → M → Prop} (h :
 (isSl a100 ∧ ∀ R0 : List V → M → Prop, (∀ x1 : Int, ∀ x2 : Int, ∀ m3 : M, (ifB (decide (x2 < (((slLen a100) : Nat) : Int))) (∃ n4 : Nat, 
 (x2 = ((n4 : Nat) : Int)) ∧ (n4 < (slLen a100)) ∧ ∃ x5 x6 x7 x8, 
 ∃ b9 : Bool, ∃ x10 x11, ((ldA m3 (slAt a100 (n4 * 7)) 7) = (some [(Il x5), 
 (Il x6), (Il x7), (Il x8), (.bool b9), 
 (Il x10), (Il x11)])) ∧ callP prog tbl [(.agg 7 [(Il x5), 
 (Il x6), (Il x7), (Il x8), (.bool b9), 
 (Il x10), (Il x11)])] a200 m3 (fun v12 m13 => ∃ b14 : Bool, 
 (v12 = (.c (.bool b14))) ∧ ifB b14 (Q (.c (Il x2)) m13) (fitsP .i64 (x2 + 1) ∧ 
 R0 [(.c (Il x1)), (.c (Il (x2 + 1)))] m13))) (Q (.c (Il (-1 : Int))) m3)) → 
 R0 [(.c (Il x1)), (.c (Il x2))] m3) → R0 [(.c (Il 0)), 
 (.c (Il 0))] m)) : Wc prog tbl 139 [(.c a100), (.c a200)] m Q :=
 wc_eq (n := 2) rfl (by kernel_rfl) (by kernel_rfl) h
end
end Go.Proofs.Ytbnfnhfanooplaa

namespace Go.Proofs.Ytbnfnhfanooplaa
open _root_.Go.Proofs.Try
open Go.Abs
set_option maxRecDepth 100000
noncomputable section
theorem w5 {a100 : Int} {a101 : Int} {a102 : Int} {a103 : Int} {a104 : Int} {a105 : Int} {a106 : Int} {a107 : Int} {a108 : Int} {a109 : Int} {a110 : Int} {a111 : C} {m : M} {Q : V → M → Prop} (h :
 (∀ m0 : M, (m0 = (M.new m (AO.cells 12 [(Il a100), (Il a101), (Il a102), 
 (Il a103), (Il a104), (Il a105), (Il a106), 
 (Il a107), (Il a108), (Il a109), (Il a110), 
 a111] false))) → ∃ x1 x2 x3 x4 x5 x6 x7, 
 ∃ x8 x9 x10 x11, ∃ c12 : C, ((ldA m0 (.ptr m.nxt 0) 12) = (some [(Il x1), 
 (Il x2), (Il x3), (Il x4), (Il x5), 
 (Il x6), (Il x7), (Il x8), (Il x9), 
 (Il x10), (Il x11), c12])) ∧ Wc prog tbl 16 [(.agg 12 [(Il x1), 
 (Il x2), (Il x3), (Il x4), (Il x5), 
 (Il x6), (Il x7), (Il x8), (Il x9), 
 (Il x10), (Il x11), c12])] m0 (fun v13 m14 => ∃ b15 : Bool, 
 (v13 = (.c (.bool b15))) ∧ ifB (!b15) (Wc prog tbl 17 [] m14 (fun v16 m17 => ∃ b18 : Bool, 
 (v16 = (.c (.bool b18))) ∧ Q (.c (.bool b18)) m17)) (∃ x19 x20, 
 ∃ x21 x22 x23 x24 x25 x26 x27, 
 ∃ x28 x29, ∃ c30 : C, ((ldA m14 (.ptr m.nxt 0) 12) = (some [(Il x19), 
 (Il x20), (Il x21), (Il x22), (Il x23), 
 (Il x24), (Il x25), (Il x26), (Il x27), 
 (Il x28), (Il x29), c30])) ∧ Wc prog tbl 19 [(.agg 12 [(Il x19), 
 (Il x20), (Il x21), (Il x22), (Il x23), 
 (Il x24), (Il x25), (Il x26), (Il x27), 
 (Il x28), (Il x29), c30])] m14 (fun v31 m32 => 
 ∃ x33 x34 x35 x36 x37 x38, 
 ∃ x39 x40 x41 x42 x43, ∃ c44 : C, 
 (v31 = (.agg 12 [(Il x33), (Il x34), (Il x35), 
 (Il x36), (Il x37), (Il x38), (Il x39), 
 (Il x40), (Il x41), (Il x42), (Il x43), 
 c44])) ∧ Wc prog tbl 35 [(.agg 12 [(Il x33), (Il x34), 
 (Il x35), (Il x36), (Il x37), (Il x38), 
 (Il x39), (Il x40), (Il x41), (Il x42), 
 (Il x43), c44])] m32 (fun v45 m46 => ∃ x47 x48, 
 (v45 = (.tup [(.c (Il x47)), (.c (Il x48))])) ∧ 
 ∃ x49 x50 x51 x52 x53 x54, 
 ∃ x55 x56 x57 x58 x59, ∃ c60 : C, 
 ((ldA m46 (.ptr m.nxt 0) 12) = (some [(Il x49), (Il x50), 
 (Il x51), (Il x52), (Il x53), (Il x54), 
 (Il x55), (Il x56), (Il x57), (Il x58), 
 (Il x59), c60])) ∧ Wc prog tbl 19 [(.agg 12 [(Il x49), 
 (Il x50), (Il x51), (Il x52), (Il x53), 
 (Il x54), (Il x55), (Il x56), (Il x57), 
 (Il x58), (Il x59), c60])] m46 (fun v61 m62 => 
 ∃ x63 x64 x65 x66 x67 x68, 
 ∃ x69 x70 x71 x72 x73, ∃ c74 : C, 
 (v61 = (.agg 12 [(Il x63), (Il x64), (Il x65), 
 (Il x66), (Il x67), (Il x68), (Il x69), 
 (Il x70), (Il x71), (Il x72), (Il x73), 
 c74])) ∧ Wc prog tbl 36 [(.agg 12 [(Il x63), (Il x64), 
 (Il x65), (Il x66), (Il x67), (Il x68), 
 (Il x69), (Il x70), (Il x71), (Il x72), 
 (Il x73), c74])] m62 (fun v75 m76 => ∃ c77 : C, ∃ x78, 
 (v75 = (.tup [(.c c77), (.c (Il x78))])) ∧ ∃ x79 x80, 
 ∃ x81 x82 x83 x84 x85 x86, 
 ∃ x87 x88 x89, ∃ c90 : C, ((ldA m76 (.ptr m.nxt 0) 12) = (some [(Il x79), 
 (Il x80), (Il x81), (Il x82), (Il x83), 
 (Il x84), (Il x85), (Il x86), (Il x87), 
 (Il x88), (Il x89), c90])) ∧ Wc prog tbl 19 [(.agg 12 [(Il x79), 
 (Il x80), (Il x81), (Il x82), (Il x83), 
 (Il x84), (Il x85), (Il x86), (Il x87), 
 (Il x88), (Il x89), c90])] m76 (fun v91 m92 => 
 ∃ x93 x94 x95 x96 x97 x98, 
 ∃ x99 x100 x101 x102 x103, ∃ c104 : C, 
 (v91 = (.agg 12 [(Il x93), (Il x94), (Il x95), 
 (Il x96), (Il x97), (Il x98), (Il x99), 
 (Il x100), (Il x101), (Il x102), 
 (Il x103), c104])) ∧ Wc prog tbl 37 [(.agg 12 [(Il x93), 
 (Il x94), (Il x95), (Il x96), (Il x97), 
 (Il x98), (Il x99), (Il x100), (Il x101), 
 (Il x102), (Il x103), c104])] m92 (fun v105 m106 => 
 ∃ c107 : C, ∃ x108, (v105 = (.tup [(.c c107), (.c (Il x108))])) ∧ 
 ∃ x109 x110 x111 x112 x113 x114, 
 ∃ x115 x116 x117 x118 x119, ∃ c120 : C, 
 ((ldA m106 (.ptr m.nxt 0) 12) = (some [(Il x109), (Il x110), 
 (Il x111), (Il x112), (Il x113), 
 (Il x114), (Il x115), (Il x116), 
 (Il x117), (Il x118), (Il x119), 
 c120])) ∧ Wc prog tbl 23 [(.agg 12 [(Il x109), (Il x110), 
 (Il x111), (Il x112), (Il x113), 
 (Il x114), (Il x115), (Il x116), 
 (Il x117), (Il x118), (Il x119), 
 c120])] m106 (fun v121 m122 => ∃ x123, (v121 = (.c (Il x123))) ∧ 
 ifB (!decide (x123 = 0)) (ifB (decide (x48 = x123)) (ifB (decide (x78 = x123)) (ifB (decide (x108 = x123)) (ifB (decide (x47 = 0)) (isSl c77 ∧ 
 isSl c107 ∧ fitsP .i64 ((((slLen c77) : Nat) : Int) + (((slLen c107) : Nat) : Int)) ∧ 
 ifB (decide (((((slLen c77) : Nat) : Int) + (((slLen c107) : Nat) : Int)) = (0 : Int))) (Wc prog tbl 17 [] m122 (fun v124 m125 => 
 ∃ b126 : Bool, (v124 = (.c (.bool b126))) ∧ Q (.c (.bool b126)) m125)) (Q (.c (.bool false)) m122)) (Q (.c (.bool false)) m122)) (Q (.c (.bool false)) m122)) (Q (.c (.bool false)) m122)) (Q (.c (.bool false)) m122)) (∃ x127, 
 ∃ x128 x129 x130 x131 x132 x133, 
 ∃ x134 x135 x136 x137, ∃ c138 : C, ((ldA m122 (.ptr m.nxt 0) 12) = (some [(Il x127), 
 (Il x128), (Il x129), (Il x130), 
 (Il x131), (Il x132), (Il x133), 
 (Il x134), (Il x135), (Il x136), 
 (Il x137), c138])) ∧ Wc prog tbl 38 [(.agg 12 [(Il x127), 
 (Il x128), (Il x129), (Il x130), 
 (Il x131), (Il x132), (Il x133), 
 (Il x134), (Il x135), (Il x136), 
 (Il x137), c138])] m122 (fun v139 m140 => ∃ c141 : C, (v139 = (.c c141)) ∧ 
 ifB (!decide (x78 = 0)) (Q (.c (.bool false)) m140) (∃ x142, 
 ∃ x143 x144 x145 x146 x147 x148, 
 ∃ x149 x150 x151 x152, ∃ c153 : C, ((ldA m140 (.ptr m.nxt 0) 12) = (some [(Il x142), 
 (Il x143), (Il x144), (Il x145), 
 (Il x146), (Il x147), (Il x148), 
 (Il x149), (Il x150), (Il x151), 
 (Il x152), c153])) ∧ Wc prog tbl 40 [(.agg 12 [(Il x142), 
 (Il x143), (Il x144), (Il x145), 
 (Il x146), (Il x147), (Il x148), 
 (Il x149), (Il x150), (Il x151), 
 (Il x152), c153]), (.c c141)] m140 (fun v154 m155 => ∃ c156 : C, 
 (v154 = (.c c156)) ∧ Wc prog tbl 39 [(.c c77), (.c c156)] m155 (fun v157 m158 => 
 ∃ b159 : Bool, (v157 = (.c (.bool b159))) ∧ ifB (!b159) (Q (.c (.bool false)) m158) (∃ x160, 
 ∃ x161 x162 x163 x164 x165 x166, 
 ∃ x167 x168 x169 x170, ∃ c171 : C, ((ldA m158 (.ptr m.nxt 0) 12) = (some [(Il x160), 
 (Il x161), (Il x162), (Il x163), 
 (Il x164), (Il x165), (Il x166), 
 (Il x167), (Il x168), (Il x169), 
 (Il x170), c171])) ∧ Wc prog tbl 41 [(.agg 12 [(Il x160), 
 (Il x161), (Il x162), (Il x163), 
 (Il x164), (Il x165), (Il x166), 
 (Il x167), (Il x168), (Il x169), 
 (Il x170), c171]), (.c c141)] m158 (fun v172 m173 => ∃ c174 : C, 
 ∃ b175 : Bool, (v172 = (.tup [(.c c174), (.c (.bool b175))])) ∧ ifB (!b175) (ifB (decide (x48 = 7)) (ifB (decide (x108 = 7)) (ifB (decide (x47 = 0)) (isSl c107 ∧ 
 ifB (decide ((((slLen c107) : Nat) : Int) = (0 : Int))) (Wc prog tbl 17 [] m173 (fun v176 m177 => 
 ∃ b178 : Bool, (v176 = (.c (.bool b178))) ∧ Q (.c (.bool b178)) m177)) (Q (.c (.bool false)) m173)) (Q (.c (.bool false)) m173)) (Q (.c (.bool false)) m173)) (Q (.c (.bool false)) m173)) (ifB (decide (x48 = 0)) (∃ x179, 
 ∃ x180 x181 x182 x183 x184 x185, 
 ∃ x186 x187 x188 x189, ∃ c190 : C, ((ldA m173 (.ptr m.nxt 0) 12) = (some [(Il x179), 
 (Il x180), (Il x181), (Il x182), 
 (Il x183), (Il x184), (Il x185), 
 (Il x186), (Il x187), (Il x188), 
 (Il x189), c190])) ∧ Wc prog tbl 42 [(.agg 12 [(Il x179), 
 (Il x180), (Il x181), (Il x182), 
 (Il x183), (Il x184), (Il x185), 
 (Il x186), (Il x187), (Il x188), 
 (Il x189), c190]), (.c c141)] m173 (fun v191 m192 => ∃ x193, 
 (v191 = (.c (Il x193))) ∧ ifB (decide (x47 = x193)) (ifB (decide (x108 = 0)) (Wc prog tbl 39 [(.c c107), 
 (.c c174)] m192 (fun v194 m195 => ∃ b196 : Bool, (v194 = (.c (.bool b196))) ∧ 
 ifB b196 (Wc prog tbl 17 [] m195 (fun v197 m198 => ∃ b199 : Bool, (v197 = (.c (.bool b199))) ∧ 
 Q (.c (.bool b199)) m198)) (Q (.c (.bool false)) m195))) (Q (.c (.bool false)) m192)) (Q (.c (.bool false)) m192))) (Q (.c (.bool false)) m173)))))))))))))))))))) : Wc prog tbl 5 [(.agg 12 [(Il a100), (Il a101), (Il a102), (Il a103), (Il a104), (Il a105), (Il a106), (Il a107), (Il a108), (Il a109), (Il a110), a111])] m Q :=
 wc_eq (n := 1) rfl (by kernel_rfl) (by kernel_rfl) h
theorem w19 {a100 : Int} {a101 : Int} {a102 : Int} {a103 : Int} {a104 : Int} {a105 : Int} {a106 : Int} {a107 : Int} {a108 : Int} {a109 : Int} {a110 : Int} {a111 : C} {m : M} {Q : V → M → Prop} (h :
 (∀ m0 : M, (m0 = (M.new m (AO.cells 12 [(Il a100), (Il a101), (Il a102), 
 (Il a103), (Il a104), (Il a105), (Il a106), 
 (Il a107), (Il a108), (Il a109), (Il a110), 
 a111] false))) → ∀ m1 : M, (m1 = (M.new m0 (AO.cells 12 [(Il 0), (Il 0), 
 (Il 0), (Il 0), (Il 0), (Il 0), 
 (Il 0), (Il 0), (Il 0), (Il 0), 
 (Il 0), C.sl0] false))) → ∀ m2 : M, (m2 = (mGrow m1 1)) → isPt (.ptr m.nxt 0) ∧ 
 ∃ x3, ((ldC m2 (.ptr m.nxt 0)) = (some (Il x3))) ∧ isPt (.ptr m.nxt 0) ∧ 
 ∃ x4, ((ldC m2 (.ptr m.nxt 1)) = (some (Il x4))) ∧ isPt (.ptr m.nxt 0) ∧ 
 ∃ x5, ((ldC m2 (.ptr m.nxt 2)) = (some (Il x5))) ∧ isPt (.ptr m.nxt 0) ∧ 
 ∃ x6 x7, ((ldA m2 (.ptr m.nxt 3) 2) = (some [(Il x6), 
 (Il x7)])) ∧ Wc prog tbl 32 [(.agg 2 [(Il x6), (Il x7)])] m2 (fun v8 m9 => 
 ∃ x10 x11, (v8 = (.agg 2 [(Il x10), (Il x11)])) ∧ 
 ((ldC m9 (.ptr m.nxt 2)) = (some (Il x5))) ∧ ((ldC m9 (.ptr m.nxt 1)) = (some (Il x4))) ∧ 
 ((ldC m9 (.ptr m.nxt 0)) = (some (Il x3))) ∧ isPt (.ptr m.nxt 0) ∧ 
 ∃ x12 x13, ((ldA m9 (.ptr m.nxt 5) 2) = (some [(Il x12), 
 (Il x13)])) ∧ ((ldA m2 (.ptr m.nxt 5) 2) = (some [(Il x12), 
 (Il x13)])) ∧ Wc prog tbl 32 [(.agg 2 [(Il x12), 
 (Il x13)])] m9 (fun v14 m15 => ∃ x16 x17, (v14 = (.agg 2 [(Il x16), 
 (Il x17)])) ∧ ((ldC m15 (.ptr m.nxt 2)) = (some (Il x5))) ∧ 
 ((ldC m15 (.ptr m.nxt 1)) = (some (Il x4))) ∧ ((ldC m15 (.ptr m.nxt 0)) = (some (Il x3))) ∧ 
 isPt (.ptr m.nxt 0) ∧ ∃ x18 x19, ((ldA m15 (.ptr m.nxt 7) 2) = (some [(Il x18), 
 (Il x19)])) ∧ ((ldA m9 (.ptr m.nxt 7) 2) = (some [(Il x18), 
 (Il x19)])) ∧ ((ldA m2 (.ptr m.nxt 7) 2) = (some [(Il x18), 
 (Il x19)])) ∧ Wc prog tbl 32 [(.agg 2 [(Il x18), 
 (Il x19)])] m15 (fun v20 m21 => ∃ x22 x23, (v20 = (.agg 2 [(Il x22), 
 (Il x23)])) ∧ ((ldC m21 (.ptr m.nxt 2)) = (some (Il x5))) ∧ 
 ((ldC m21 (.ptr m.nxt 1)) = (some (Il x4))) ∧ ((ldC m21 (.ptr m.nxt 0)) = (some (Il x3))) ∧ 
 isPt (.ptr m.nxt 0) ∧ ∃ x24 x25, ((ldA m21 (.ptr m.nxt 9) 2) = (some [(Il x24), 
 (Il x25)])) ∧ ((ldA m15 (.ptr m.nxt 9) 2) = (some [(Il x24), 
 (Il x25)])) ∧ ((ldA m9 (.ptr m.nxt 9) 2) = (some [(Il x24), 
 (Il x25)])) ∧ ((ldA m2 (.ptr m.nxt 9) 2) = (some [(Il x24), 
 (Il x25)])) ∧ Wc prog tbl 32 [(.agg 2 [(Il x24), 
 (Il x25)])] m21 (fun v26 m27 => ∃ x28 x29, (v26 = (.agg 2 [(Il x28), 
 (Il x29)])) ∧ ((ldC m27 (.ptr m.nxt 2)) = (some (Il x5))) ∧ 
 ((ldC m27 (.ptr m.nxt 1)) = (some (Il x4))) ∧ ((ldC m27 (.ptr m.nxt 0)) = (some (Il x3))) ∧ 
 ∀ m30 : M, (m30 = (M.set m27 (m1.nxt + 0) (AO.cells 12 [(Il 0), 
 (Il 0), (Il 0), (Il 0), 
 (Il 0), (Il 0), (Il 0), 
 (Il 0), (Il 0), (Il 0), 
 (Il 0), C.sl0] false))) → ((ldA m30 (.ptr m.nxt 9) 2) = (some [(Il x24), 
 (Il x25)])) ∧ ((ldA m30 (.ptr m.nxt 7) 2) = (some [(Il x18), 
 (Il x19)])) ∧ ((ldA m30 (.ptr m.nxt 5) 2) = (some [(Il x12), 
 (Il x13)])) ∧ ((ldA m30 (.ptr m.nxt 3) 2) = (some [(Il x6), 
 (Il x7)])) ∧ ((ldC m30 (.ptr m.nxt 2)) = (some (Il x5))) ∧ 
 ((ldC m30 (.ptr m.nxt 1)) = (some (Il x4))) ∧ ((ldC m30 (.ptr m.nxt 0)) = (some (Il x3))) ∧ 
 ∃ m31 : M, ((stC m30 (.ptr (m1.nxt + 0) 0) 12 [(Il x3), (Il x4), 
 (Il x5), (Il x10), (Il x11), (Il x16), 
 (Il x17), (Il x22), (Il x23), (Il x28), 
 (Il x29), C.sl0]) = (some m31)) ∧ ∀ R32 : List V → M → 
 Prop, (∀ x33 : Int, ∀ m34 : M, (isPt (.ptr m.nxt 0) ∧ ∃ c35 : C, ((ldC m34 (.ptr m.nxt 11)) = (some c35)) ∧ 
 isSl c35 ∧ ifB (decide (x33 < (((slLen c35) : Nat) : Int))) (isPt (.ptr m.nxt 0) ∧ 
 ∃ c36 : C, ((ldC m34 (.ptr m.nxt 11)) = (some c36)) ∧ ∃ n37 : Nat, 
 (x33 = ((n37 : Nat) : Int)) ∧ (n37 < (slLen c36)) ∧ ∃ x38 x39, 
 ∃ x40 x41, ∃ b42 : Bool, ∃ x43 x44, ((ldA m34 (slAt c36 (n37 * 7)) 7) = (some [(Il x38), 
 (Il x39), (Il x40), (Il x41), (.bool b42), 
 (Il x43), (Il x44)])) ∧ ∀ m45 : M, (m45 = (M.new m34 (AO.cells 7 [(Il 0), 
 (Il 0), (Il 0), (Il 0), 
 (.bool false), (Il 0), (Il 0)] false))) → 
 ∃ m46 : M, ((stC m45 (.ptr m34.nxt 0) 7 [(Il x38), (Il x39), 
 (Il x40), (Il x41), (.bool b42), (Il x43), 
 (Il x44)]) = (some m46)) ∧ isPt (.ptr (m1.nxt + 0) 0) ∧ 
 ∃ c47 : C, ((ldC m46 (.ptr (m1.nxt + 0) 11)) = (some c47)) ∧ isPt (.ptr m34.nxt 0) ∧ 
 ∃ x48 x49, ((ldA m46 (.ptr m34.nxt 0) 2) = (some [(Il x48), 
 (Il x49)])) ∧ Wc prog tbl 32 [(.agg 2 [(Il x48), 
 (Il x49)])] m46 (fun v50 m51 => ∃ x52 x53, (v50 = (.agg 2 [(Il x52), 
 (Il x53)])) ∧ (ifB (cmC c47) ((ldC m51 (.ptr (m1.nxt + 0) 11)) = (some c47)) False) ∧ 
 isPt (.ptr m34.nxt 0) ∧ ∃ x54 x55, ((ldA m51 (.ptr m34.nxt 2) 2) = (some [(Il x54), 
 (Il x55)])) ∧ ((ldA m46 (.ptr m34.nxt 2) 2) = (some [(Il x54), 
 (Il x55)])) ∧ Wc prog tbl 32 [(.agg 2 [(Il x54), 
 (Il x55)])] m51 (fun v56 m57 => ∃ x58 x59, (v56 = (.agg 2 [(Il x58), 
 (Il x59)])) ∧ (ifB (cmC c47) ((ldC m57 (.ptr (m1.nxt + 0) 11)) = (some c47)) False) ∧ 
 isPt (.ptr m34.nxt 0) ∧ ∃ b60 : Bool, ((ldC m57 (.ptr m34.nxt 4)) = (some (.bool b60))) ∧ 
 ((ldC m51 (.ptr m34.nxt 4)) = (some (.bool b60))) ∧ ((ldC m46 (.ptr m34.nxt 4)) = (some (.bool b60))) ∧ 
 isPt (.ptr m34.nxt 0) ∧ ∃ x61 x62, ((ldA m57 (.ptr m34.nxt 5) 2) = (some [(Il x61), 
 (Il x62)])) ∧ ((ldA m51 (.ptr m34.nxt 5) 2) = (some [(Il x61), 
 (Il x62)])) ∧ ((ldA m46 (.ptr m34.nxt 5) 2) = (some [(Il x61), 
 (Il x62)])) ∧ Wc prog tbl 32 [(.agg 2 [(Il x61), 
 (Il x62)])] m57 (fun v63 m64 => ∃ x65 x66, (v63 = (.agg 2 [(Il x65), 
 (Il x66)])) ∧ ((ldC m64 (.ptr m34.nxt 4)) = (some (.bool b60))) ∧ 
 (ifB (cmC c47) ((ldC m64 (.ptr (m1.nxt + 0) 11)) = (some c47)) False) ∧ 
 ∀ m67 : M, (m67 = (M.new m64 (AO.cells 7 [(Il x52), (Il x53), 
 (Il x58), (Il x59), (.bool b60), (Il x65), 
 (Il x66)] false))) → (ifB (cmC c47) ((ldC m67 (.ptr (m1.nxt + 0) 11)) = (some c47)) False) ∧ 
 ∃ c68 : C, ∃ m69 : M, (ApR prog 35 m67 c47 (.sl m64.nxt 0 1 0 (some 1)) c68 m69) ∧ 
 isPt (.ptr (m1.nxt + 0) 0) ∧ ∃ m70 : M, ((stC m69 (.ptr (m1.nxt + 0) 11) 1 [c68]) = (some m70)) ∧ 
 fitsP .i64 (x33 + 1) ∧ R32 [(.c (Il (x33 + 1)))] m70)))) (∃ x71, 
 ∃ x72 x73 x74 x75 x76 x77, 
 ∃ x78 x79 x80 x81, ∃ c82 : C, ((ldA m34 (.ptr (m1.nxt + 0) 0) 12) = (some [(Il x71), 
 (Il x72), (Il x73), (Il x74), (Il x75), 
 (Il x76), (Il x77), (Il x78), (Il x79), 
 (Il x80), (Il x81), c82])) ∧ ∃ m83 : M, ((stC m34 (.ptr m0.nxt 0) 12 [(Il x71), 
 (Il x72), (Il x73), (Il x74), (Il x75), 
 (Il x76), (Il x77), (Il x78), (Il x79), 
 (Il x80), (Il x81), c82]) = (some m83)) ∧ 
 ∃ x84 x85 x86 x87 x88 x89, 
 ∃ x90 x91 x92 x93 x94, ∃ c95 : C, 
 ((ldA m83 (.ptr m0.nxt 0) 12) = (some [(Il x84), (Il x85), 
 (Il x86), (Il x87), (Il x88), (Il x89), 
 (Il x90), (Il x91), (Il x92), (Il x93), 
 (Il x94), c95])) ∧ Q (.agg 12 [(Il x84), (Il x85), 
 (Il x86), (Il x87), (Il x88), (Il x89), 
 (Il x90), (Il x91), (Il x92), (Il x93), 
 (Il x94), c95]) m83)) → R32 [(.c (Il x33))] m34) → 
 R32 [(.c (Il 0))] m31)))))) : Wc prog tbl 19 [(.agg 12 [(Il a100), (Il a101), (Il a102), (Il a103), (Il a104), (Il a105), (Il a106), (Il a107), (Il a108), (Il a109), (Il a110), a111])] m Q :=
 wc_eq (n := 1) rfl (by kernel_rfl) (by kernel_rfl) h
theorem w31 {a100 : Int} {a200 : Int} {a300 : Int} {m : M} {Q : V → M → Prop} (h :
 (ifB (decide (a200 ≤ a100)) (Q (.c (.bool (decide (a100 ≤ a300)))) m) (Q (.c (.bool false)) m))) : Wc prog tbl 31 [(.c (Il a100)), (.c (Il a200)), (.c (Il a300))] m Q :=
 wc_eq (n := 3) rfl (by kernel_rfl) (by kernel_rfl) h
theorem w37 {a100 : Int} {a101 : Int} {a102 : Int} {a103 : Int} {a104 : Int} {a105 : Int} {a106 : Int} {a107 : Int} {a108 : Int} {a109 : Int} {a110 : Int} {a111 : C} {m : M} {Q : V → M → Prop} (h :
 (∀ m0 : M, (m0 = (M.new m (AO.cells 12 [(Il a100), (Il a101), (Il a102), 
 (Il a103), (Il a104), (Il a105), (Il a106), 
 (Il a107), (Il a108), (Il a109), (Il a110), 
 a111] false))) → ∃ x1 x2 x3 x4 x5 x6 x7, 
 ∃ x8 x9 x10 x11, ∃ c12 : C, ((ldA m0 (.ptr m.nxt 0) 12) = (some [(Il x1), 
 (Il x2), (Il x3), (Il x4), (Il x5), 
 (Il x6), (Il x7), (Il x8), (Il x9), 
 (Il x10), (Il x11), c12])) ∧ Wc prog tbl 48 [(.agg 12 [(Il x1), 
 (Il x2), (Il x3), (Il x4), (Il x5), 
 (Il x6), (Il x7), (Il x8), (Il x9), 
 (Il x10), (Il x11), c12])] m0 (fun v13 m14 => ∃ x15, 
 (v13 = (.c (Il x15))) ∧ ifB (!decide (x15 = 0)) (Q (.tup [(.c C.sl0), 
 (.c (Il x15))]) m14) (∃ x16 x17 x18 x19, 
 ∃ x20 x21 x22 x23 x24 x25, 
 ∃ x26, ∃ c27 : C, ((ldA m14 (.ptr m.nxt 0) 12) = (some [(Il x16), 
 (Il x17), (Il x18), (Il x19), (Il x20), 
 (Il x21), (Il x22), (Il x23), (Il x24), 
 (Il x25), (Il x26), c27])) ∧ Wc prog tbl 81 [(.agg 12 [(Il x16), 
 (Il x17), (Il x18), (Il x19), (Il x20), 
 (Il x21), (Il x22), (Il x23), (Il x24), 
 (Il x25), (Il x26), c27])] m14 (fun v28 m29 => 
 ∃ x30 x31 x32 x33 x34 x35, 
 ∃ x36 x37 x38 x39 x40, ∃ c41 : C, 
 ∃ c42 : C, (v28 = (.agg 13 [(Il x30), (Il x31), 
 (Il x32), (Il x33), (Il x34), (Il x35), 
 (Il x36), (Il x37), (Il x38), (Il x39), 
 (Il x40), c41, c42])) ∧ ∀ m43 : M, (m43 = (M.new m29 (AO.cells 13 [(Il 0), 
 (Il 0), (Il 0), (Il 0), 
 (Il 0), (Il 0), (Il 0), 
 (Il 0), (Il 0), (Il 0), 
 (Il 0), C.sl0, C.map0] false))) → ∃ m44 : M, ((stC m43 (.ptr m29.nxt 0) 13 [(Il x30), 
 (Il x31), (Il x32), (Il x33), (Il x34), 
 (Il x35), (Il x36), (Il x37), (Il x38), 
 (Il x39), (Il x40), c41, c42]) = (some m44)) ∧ 
 ∃ x45 x46 x47 x48 x49 x50, 
 ∃ x51 x52 x53 x54 x55, ∃ c56 : C, 
 ∃ c57 : C, ((ldA m44 (.ptr m29.nxt 0) 13) = (some [(Il x45), 
 (Il x46), (Il x47), (Il x48), (Il x49), 
 (Il x50), (Il x51), (Il x52), (Il x53), 
 (Il x54), (Il x55), c56, c57])) ∧ Wc prog tbl 86 [(.agg 13 [(Il x45), 
 (Il x46), (Il x47), (Il x48), (Il x49), 
 (Il x50), (Il x51), (Il x52), (Il x53), 
 (Il x54), (Il x55), c56, c57])] m44 (fun v58 m59 => 
 ∃ b60 : Bool, (v58 = (.c (.bool b60))) ∧ ifB b60 (Q (.tup [(.c C.sl0), 
 (.c (Il (7 : Int)))]) m59) (∃ x61 x62 x63, 
 ∃ x64 x65 x66 x67 x68 x69, 
 ∃ x70 x71, ∃ c72 : C, ∃ c73 : C, ((ldA m59 (.ptr m29.nxt 0) 13) = (some [(Il x61), 
 (Il x62), (Il x63), (Il x64), (Il x65), 
 (Il x66), (Il x67), (Il x68), (Il x69), 
 (Il x70), (Il x71), c72, c73])) ∧ Wc prog tbl 84 [(.agg 13 [(Il x61), 
 (Il x62), (Il x63), (Il x64), (Il x65), 
 (Il x66), (Il x67), (Il x68), (Il x69), 
 (Il x70), (Il x71), c72, c73]), (.agg 1 [(C.fn (Fn.func 87) [] [])])] m59 (fun v74 m75 => 
 ∃ c76 : C, (v74 = (.c c76)) ∧ Q (.tup [(.c c76), (.c (Il 0))]) m75)))))))) : Wc prog tbl 37 [(.agg 12 [(Il a100), (Il a101), (Il a102), (Il a103), (Il a104), (Il a105), (Il a106), (Il a107), (Il a108), (Il a109), (Il a110), a111])] m Q :=
 wc_eq (n := 1) rfl (by kernel_rfl) (by kernel_rfl) h
theorem w40 {a100 : Int} {a101 : Int} {a102 : Int} {a103 : Int} {a104 : Int} {a105 : Int} {a106 : Int} {a107 : Int} {a108 : Int} {a109 : Int} {a110 : Int} {a111 : C} {a200 : C} {m : M} {Q : V → M → Prop} (h :
 (∀ m0 : M, (m0 = (M.new m (AO.cells 12 [(Il a100), (Il a101), (Il a102), 
 (Il a103), (Il a104), (Il a105), (Il a106), 
 (Il a107), (Il a108), (Il a109), (Il a110), 
 a111] false))) → ∃ x1 x2 x3 x4 x5 x6 x7, 
 ∃ x8 x9 x10 x11, ∃ c12 : C, ((ldA m0 (.ptr m.nxt 0) 12) = (some [(Il x1), 
 (Il x2), (Il x3), (Il x4), (Il x5), 
 (Il x6), (Il x7), (Il x8), (Il x9), 
 (Il x10), (Il x11), c12])) ∧ Wc prog tbl 58 [(.agg 12 [(Il x1), 
 (Il x2), (Il x3), (Il x4), (Il x5), 
 (Il x6), (Il x7), (Il x8), (Il x9), 
 (Il x10), (Il x11), c12])] m0 (fun v13 m14 => ∃ x15, 
 (v13 = (.c (Il x15))) ∧ Wc prog tbl 61 [(.c (Il x15))] m14 (fun v16 m17 => 
 ∃ c18 : C, (v16 = (.c c18)) ∧ ∀ R19 : List V → M → Prop, (∀ c20 : C, ∀ x21 : Int, 
 ∀ m22 : M, (∃ x23 x24 x25 x26 x27, 
 ∃ x28 x29 x30 x31 x32 x33, 
 ∃ c34 : C, ((ldA m22 (.ptr m.nxt 0) 12) = (some [(Il x23), 
 (Il x24), (Il x25), (Il x26), (Il x27), 
 (Il x28), (Il x29), (Il x30), (Il x31), 
 (Il x32), (Il x33), c34])) ∧ Wc prog tbl 58 [(.agg 12 [(Il x23), 
 (Il x24), (Il x25), (Il x26), (Il x27), 
 (Il x28), (Il x29), (Il x30), (Il x31), 
 (Il x32), (Il x33), c34])] m22 (fun v35 m36 => 
 ∃ x37, (v35 = (.c (Il x37))) ∧ ifB (decide (x21 ≤ x37)) (Wc prog tbl 61 [(.c (Il x21))] m36 (fun v38 m39 => 
 ∃ c40 : C, (v38 = (.c c40)) ∧ Wc prog tbl 60 [(.c c40), (.c c20)] m39 (fun v41 m42 => 
 ∃ b43 : Bool, (v41 = (.c (.bool b43))) ∧ ifB b43 (∃ x44 x45, 
 ∃ x46 x47 x48 x49 x50 x51, 
 ∃ x52 x53 x54, ∃ c55 : C, ((ldA m42 (.ptr m.nxt 0) 12) = (some [(Il x44), 
 (Il x45), (Il x46), (Il x47), (Il x48), 
 (Il x49), (Il x50), (Il x51), (Il x52), 
 (Il x53), (Il x54), c55])) ∧ Wc prog tbl 58 [(.agg 12 [(Il x44), 
 (Il x45), (Il x46), (Il x47), (Il x48), 
 (Il x49), (Il x50), (Il x51), (Il x52), 
 (Il x53), (Il x54), c55])] m42 (fun v56 m57 => 
 ∃ x58, (v56 = (.c (Il x58))) ∧ ((0 : Int) ≤ x58) ∧ ((0 : Int) ≤ x21) ∧ 
 fitsP .i64 x58 ∧ fitsP .i64 x21 ∧ fitsP .i64 (((Nat.xor (Int.toNat x58) (Nat.land (Int.toNat x58) (Int.toNat x21))) : Nat) : Int) ∧ 
 Wc prog tbl 89 [(.c a200), (.c (Il (((Nat.xor (Int.toNat x58) (Nat.land (Int.toNat x58) (Int.toNat x21))) : Nat) : Int)))] m57 (fun v59 m60 => 
 ∃ b61 : Bool, (v59 = (.c (.bool b61))) ∧ ifB b61 (fitsP .i64 (x21 + 1) ∧ 
 R19 [(.c c40), (.c (Il (x21 + 1)))] m60) (fitsP .i64 (x21 + 1) ∧ 
 R19 [(.c c20), (.c (Il (x21 + 1)))] m60)))) (fitsP .i64 (x21 + 1) ∧ 
 R19 [(.c c20), (.c (Il (x21 + 1)))] m42)))) (Q (.c c20) m36))) → 
 R19 [(.c c20), (.c (Il x21))] m22) → R19 [(.c c18), (.c (Il 0))] m17)))) : Wc prog tbl 40 [(.agg 12 [(Il a100), (Il a101), (Il a102), (Il a103), (Il a104), (Il a105), (Il a106), (Il a107), (Il a108), (Il a109), (Il a110), a111]), (.c a200)] m Q :=
 wc_eq (n := 2) rfl (by kernel_rfl) (by kernel_rfl) h
theorem w58 {a100 : Int} {a101 : Int} {a102 : Int} {a103 : Int} {a104 : Int} {a105 : Int} {a106 : Int} {a107 : Int} {a108 : Int} {a109 : Int} {a110 : Int} {a111 : C} {m : M} {Q : V → M → Prop} (h :
 (∀ m0 : M, (m0 = (M.new m (AO.cells 12 [(Il a100), (Il a101), (Il a102), 
 (Il a103), (Il a104), (Il a105), (Il a106), 
 (Il a107), (Il a108), (Il a109), (Il a110), 
 a111] false))) → isPt (.ptr m.nxt 0) ∧ ∃ c1 : C, ((ldC m0 (.ptr m.nxt 11)) = (some c1)) ∧ 
 isSl c1 ∧ ((0 : Int) ≤ (1 : Int)) ∧ ((0 : Int) ≤ (wrapZ .u64 (((slLen c1) : Nat) : Int))) ∧ 
 ((wrapZ .u64 (((slLen c1) : Nat) : Int)) ≤ (64 : Int)) ∧ fitsP .i64 ((1 : Int) * ((2 : Int) ^ (Int.toNat (wrapZ .u64 (((slLen c1) : Nat) : Int))))) ∧ 
 fitsP .i64 (((1 : Int) * ((2 : Int) ^ (Int.toNat (wrapZ .u64 (((slLen c1) : Nat) : Int))))) - (1 : Int)) ∧ 
 Q (.c (Il (((1 : Int) * ((2 : Int) ^ (Int.toNat (wrapZ .u64 (((slLen c1) : Nat) : Int))))) - (1 : Int)))) m0)) : Wc prog tbl 58 [(.agg 12 [(Il a100), (Il a101), (Il a102), (Il a103), (Il a104), (Il a105), (Il a106), (Il a107), (Il a108), (Il a109), (Il a110), a111])] m Q :=
 wc_eq (n := 1) rfl (by kernel_rfl) (by kernel_rfl) h
theorem w61 {a100 : Int} {m : M} {Q : V → M → Prop} (h :
 (∀ R0 : List V → M → Prop, (∀ c1 : C, ∀ x2 : Int, ∀ m3 : M, (((0 : Int) ≤ a100) ∧ ((0 : Int) ≤ (wrapZ .u64 x2)) ∧ 
 ((wrapZ .u64 x2) ≤ (64 : Int)) ∧ fitsP .i64 (a100 / ((2 : Int) ^ (Int.toNat (wrapZ .u64 x2)))) ∧ 
 ifB (decide ((0 : Int) < (a100 / ((2 : Int) ^ (Int.toNat (wrapZ .u64 x2)))))) (((0 : Int) ≤ a100) ∧ 
 ((0 : Int) ≤ (wrapZ .u64 x2)) ∧ ((wrapZ .u64 x2) ≤ (64 : Int)) ∧ fitsP .i64 (a100 / ((2 : Int) ^ (Int.toNat (wrapZ .u64 x2)))) ∧ 
 ((0 : Int) ≤ (a100 / ((2 : Int) ^ (Int.toNat (wrapZ .u64 x2))))) ∧ ((0 : Int) < (2 : Int)) ∧ 
 fitsP .i64 ((a100 / ((2 : Int) ^ (Int.toNat (wrapZ .u64 x2)))) % (2 : Int)) ∧ 
 ifB (decide (((a100 / ((2 : Int) ^ (Int.toNat (wrapZ .u64 x2)))) % (2 : Int)) = (1 : Int))) (∀ m4 : M, 
 (m4 = (M.new m3 (AO.cells 1 [(Il x2)] false))) → ∃ c5 : C, ∃ m6 : M, 
 (ApR prog 69 m4 c1 (.sl m3.nxt 0 1 0 (some 1)) c5 m6) ∧ fitsP .i64 (x2 + 1) ∧ 
 R0 [(.c c5), (.c (Il (x2 + 1)))] m6) (fitsP .i64 (x2 + 1) ∧ 
 R0 [(.c c1), (.c (Il (x2 + 1)))] m3)) (Q (.c c1) m3)) → 
 R0 [(.c c1), (.c (Il x2))] m3) → R0 [(.c C.sl0), (.c (Il 0))] m)) : Wc prog tbl 61 [(.c (Il a100))] m Q :=
 wc_eq (n := 1) rfl (by kernel_rfl) (by kernel_rfl) h
theorem w67 {a100 : Int} {a101 : Int} {a102 : Int} {a103 : Int} {a104 : Int} {a105 : Int} {a106 : Int} {a107 : Int} {a108 : Int} {a109 : Int} {a110 : Int} {a111 : C} {m : M} {Q : V → M → Prop} (h :
 (∀ m0 : M, (m0 = (M.new m (AO.cells 12 [(Il a100), (Il a101), (Il a102), 
 (Il a103), (Il a104), (Il a105), (Il a106), 
 (Il a107), (Il a108), (Il a109), (Il a110), 
 a111] false))) → isPt (.ptr m.nxt 0) ∧ ∃ x1 x2, ((ldA m0 (.ptr m.nxt 3) 2) = (some [(Il x1), 
 (Il x2)])) ∧ Wc prog tbl 62 [(.agg 2 [(Il x1), (Il x2)])] m0 (fun v3 m4 => 
 ∃ x5, (v3 = (.c (Il x5))) ∧ isPt (.ptr m.nxt 0) ∧ ∃ x6 x7, 
 ((ldA m4 (.ptr m.nxt 5) 2) = (some [(Il x6), (Il x7)])) ∧ 
 ((ldA m0 (.ptr m.nxt 5) 2) = (some [(Il x6), (Il x7)])) ∧ 
 Wc prog tbl 62 [(.agg 2 [(Il x6), (Il x7)])] m4 (fun v8 m9 => 
 ∃ x10, (v8 = (.c (Il x10))) ∧ ((0 : Int) ≤ x5) ∧ ((0 : Int) ≤ x10) ∧ 
 fitsP .i64 (x5 * x10) ∧ isPt (.ptr m.nxt 0) ∧ ∃ x11 x12, 
 ((ldA m9 (.ptr m.nxt 7) 2) = (some [(Il x11), (Il x12)])) ∧ 
 ((ldA m4 (.ptr m.nxt 7) 2) = (some [(Il x11), (Il x12)])) ∧ 
 ((ldA m0 (.ptr m.nxt 7) 2) = (some [(Il x11), (Il x12)])) ∧ 
 Wc prog tbl 62 [(.agg 2 [(Il x11), (Il x12)])] m9 (fun v13 m14 => 
 ∃ x15, (v13 = (.c (Il x15))) ∧ ((0 : Int) ≤ (x5 * x10)) ∧ 
 ((0 : Int) ≤ x15) ∧ fitsP .i64 ((x5 * x10) * x15) ∧ isPt (.ptr m.nxt 0) ∧ 
 ∃ x16 x17, ((ldA m14 (.ptr m.nxt 9) 2) = (some [(Il x16), 
 (Il x17)])) ∧ ((ldA m9 (.ptr m.nxt 9) 2) = (some [(Il x16), 
 (Il x17)])) ∧ ((ldA m4 (.ptr m.nxt 9) 2) = (some [(Il x16), 
 (Il x17)])) ∧ ((ldA m0 (.ptr m.nxt 9) 2) = (some [(Il x16), 
 (Il x17)])) ∧ Wc prog tbl 62 [(.agg 2 [(Il x16), 
 (Il x17)])] m14 (fun v18 m19 => ∃ x20, (v18 = (.c (Il x20))) ∧ 
 ((0 : Int) ≤ ((x5 * x10) * x15)) ∧ ((0 : Int) ≤ x20) ∧ fitsP .i64 (((x5 * x10) * x15) * x20) ∧ 
 Q (.c (Il (((x5 * x10) * x15) * x20))) m19)))))) : Wc prog tbl 67 [(.agg 12 [(Il a100), (Il a101), (Il a102), (Il a103), (Il a104), (Il a105), (Il a106), (Il a107), (Il a108), (Il a109), (Il a110), a111])] m Q :=
 wc_eq (n := 1) rfl (by kernel_rfl) (by kernel_rfl) h
theorem w70 {a100 : Int} {a101 : Int} {a200 : Int} {a300 : Int} {m : M} {Q : V → M → Prop} (h :
 (∀ m0 : M, (m0 = (M.new m (AO.cells 2 [(Il a100), (Il a101)] false))) → isPt (.ptr m.nxt 0) ∧ 
 ∃ x1, ((ldC m0 (.ptr m.nxt 0)) = (some (Il x1))) ∧ ifB (decide (a200 ≤ x1)) (isPt (.ptr m.nxt 0) ∧ 
 ∃ x2, ((ldC m0 (.ptr m.nxt 0)) = (some (Il x2))) ∧ isPt (.ptr m.nxt 0) ∧ 
 ∃ x3, ((ldC m0 (.ptr m.nxt 1)) = (some (Il x3))) ∧ ifB (decide (x2 ≤ x3)) (isPt (.ptr m.nxt 0) ∧ 
 ∃ x4, ((ldC m0 (.ptr m.nxt 1)) = (some (Il x4))) ∧ Q (.c (.bool (decide (x4 ≤ a300)))) m0) (Q (.c (.bool false)) m0)) (Q (.c (.bool false)) m0))) : Wc prog tbl 70 [(.agg 2 [(Il a100), (Il a101)]), (.c (Il a200)), (.c (Il a300))] m Q :=
 wc_eq (n := 3) rfl (by kernel_rfl) (by kernel_rfl) h
theorem w83 {a100 : Int} {m : M} {Q : V → M → Prop} (h :
 (∀ m0 : M, (m0 = (M.new m (AO.cells 6 [(.bool false), (.bool false), (.bool false), (.bool false), (.bool false), 
 (.bool false)] false))) → ∀ m1 : M, (m1 = (M.new m0 (AO.cells 6 [(.bool false), (.bool false), (.bool false), 
 (.bool false), (.bool false), (.bool false)] false))) → fitsP .i64 (a100 + 1) ∧ 
 ∀ R2 : List V → M → Prop, (∀ x3 : Int, ∀ m4 : M, (ifB (decide (x3 < (a100 + 1))) (isPt (.ptr m0.nxt 0) ∧ 
 ∃ n5 : Nat, (x3 = ((n5 : Nat) : Int)) ∧ (n5 < 6) ∧ ∃ m6 : M, ((stC m4 (.ptr m0.nxt (0 + (n5 * 1))) 1 [(.bool true)]) = (some m6)) ∧ 
 fitsP .i64 (x3 + 1) ∧ R2 [(.c (Il (x3 + 1)))] m6) (∃ b7 : Bool, 
 ∃ b8 : Bool, ∃ b9 : Bool, ∃ b10 : Bool, ∃ b11 : Bool, ∃ b12 : Bool, ((ldA m4 (.ptr m0.nxt 0) 6) = (some [(.bool b7), 
 (.bool b8), (.bool b9), (.bool b10), (.bool b11), (.bool b12)])) ∧ ∃ m13 : M, ((stC m4 (.ptr m.nxt 0) 6 [(.bool b7), 
 (.bool b8), (.bool b9), (.bool b10), (.bool b11), (.bool b12)]) = (some m13)) ∧ 
 ∃ b14 : Bool, ∃ b15 : Bool, ∃ b16 : Bool, ∃ b17 : Bool, ∃ b18 : Bool, ∃ b19 : Bool, 
 ((ldA m13 (.ptr m.nxt 0) 6) = (some [(.bool b14), (.bool b15), (.bool b16), 
 (.bool b17), (.bool b18), (.bool b19)])) ∧ Q (.agg 6 [(.bool b14), (.bool b15), 
 (.bool b16), (.bool b17), (.bool b18), (.bool b19)]) m13)) → 
 R2 [(.c (Il x3))] m4) → R2 [(.c (Il 0))] m1)) : Wc prog tbl 83 [(.c (Il a100))] m Q :=
 wc_eq (n := 1) rfl (by kernel_rfl) (by kernel_rfl) h
theorem w86 {a100 : Int} {a101 : Int} {a102 : Int} {a103 : Int} {a104 : Int} {a105 : Int} {a106 : Int} {a107 : Int} {a108 : Int} {a109 : Int} {a110 : Int} {a111 : C} {a112 : C} {m : M} {Q : V → M → Prop} (h :
 (∀ m0 : M, (m0 = (M.new m (AO.cells 13 [(Il a100), (Il a101), (Il a102), 
 (Il a103), (Il a104), (Il a105), (Il a106), 
 (Il a107), (Il a108), (Il a109), (Il a110), 
 a111, a112] false))) → ∃ x1 x2 x3 x4 x5 x6, 
 ∃ x7 x8 x9 x10 x11, ∃ c12 : C, ∃ c13 : C, ((ldA m0 (.ptr m.nxt 0) 13) = (some [(Il x1), 
 (Il x2), (Il x3), (Il x4), (Il x5), 
 (Il x6), (Il x7), (Il x8), (Il x9), 
 (Il x10), (Il x11), c12, c13])) ∧ ∃ x14 x15, 
 ∃ x16 x17 x18 x19 x20 x21 x22, 
 ∃ x23 x24, ∃ c25 : C, ∃ c26 : C, ((ldA m0 (.ptr m.nxt 0) 13) = (some [(Il x14), 
 (Il x15), (Il x16), (Il x17), (Il x18), 
 (Il x19), (Il x20), (Il x21), (Il x22), 
 (Il x23), (Il x24), c25, c26])) ∧ Wc prog tbl 92 [(.agg 13 [(Il x14), 
 (Il x15), (Il x16), (Il x17), (Il x18), 
 (Il x19), (Il x20), (Il x21), (Il x22), 
 (Il x23), (Il x24), c25, c26])] m0 (fun v27 m28 => 
 ∃ b29 : Bool, ∃ b30 : Bool, ∃ b31 : Bool, ∃ b32 : Bool, ∃ b33 : Bool, ∃ b34 : Bool, 
 (v27 = (.agg 6 [(.bool b29), (.bool b30), (.bool b31), (.bool b32), (.bool b33), 
 (.bool b34)])) ∧ (ifB (allS cmC [(Il x1), (Il x2), 
 (Il x3), (Il x4), (Il x5), (Il x6), 
 (Il x7), (Il x8), (Il x9), (Il x10), 
 (Il x11), c12, c13]) ((ldA m28 (.ptr m.nxt 0) 13) = (some [(Il x1), 
 (Il x2), (Il x3), (Il x4), (Il x5), 
 (Il x6), (Il x7), (Il x8), (Il x9), 
 (Il x10), (Il x11), c12, c13])) False) ∧ Wc prog tbl 82 [(.agg 13 [(Il x1), 
 (Il x2), (Il x3), (Il x4), (Il x5), 
 (Il x6), (Il x7), (Il x8), (Il x9), 
 (Il x10), (Il x11), c12, c13]), (.agg 6 [(.bool b29), 
 (.bool b30), (.bool b31), (.bool b32), (.bool b33), (.bool b34)])] m28 (fun v35 m36 => 
 ∃ b37 : Bool, (v35 = (.c (.bool b37))) ∧ Q (.c (.bool b37)) m36)))) : Wc prog tbl 86 [(.agg 13 [(Il a100), (Il a101), (Il a102), (Il a103), (Il a104), (Il a105), (Il a106), (Il a107), (Il a108), (Il a109), (Il a110), a111, a112])] m Q :=
 wc_eq (n := 1) rfl (by kernel_rfl) (by kernel_rfl) h
theorem w89 {a100 : C} {a200 : Int} {m : M} {Q : V → M → Prop} (h :
 (∀ R0 : List V → M → Prop, (∀ b1 : Bool, ∀ x2 : Int, ∀ m3 : M, (isSl a100 ∧ ifB (decide (x2 < (((slLen a100) : Nat) : Int))) (∃ n4 : Nat, 
 (x2 = ((n4 : Nat) : Int)) ∧ (n4 < (slLen a100)) ∧ ∃ x5, ((ldC m3 (slAt a100 (n4 * 1))) = (some (Il x5))) ∧ 
 ((0 : Int) ≤ x5) ∧ ((0 : Int) ≤ a200) ∧ fitsP .i64 x5 ∧ fitsP .i64 a200 ∧ fitsP .i64 (((Nat.land (Int.toNat x5) (Int.toNat a200)) : Nat) : Int) ∧ 
 ifB (decide ((((Nat.land (Int.toNat x5) (Int.toNat a200)) : Nat) : Int) = a200)) (Q (.c (.bool true)) m3) (fitsP .i64 (x2 + 1) ∧ 
 R0 [(.c (.bool b1)), (.c (Il (x2 + 1)))] m3)) (Q (.c (.bool false)) m3)) → 
 R0 [(.c (.bool b1)), (.c (Il x2))] m3) → R0 [(.c (.bool false)), (.c (Il 0))] m)) : Wc prog tbl 89 [(.c a100), (.c (Il a200))] m Q :=
 wc_eq (n := 2) rfl (by kernel_rfl) (by kernel_rfl) h
theorem w92 {a100 : Int} {a101 : Int} {a102 : Int} {a103 : Int} {a104 : Int} {a105 : Int} {a106 : Int} {a107 : Int} {a108 : Int} {a109 : Int} {a110 : Int} {a111 : C} {a112 : C} {m : M} {Q : V → M → Prop} (h :
 (∀ m0 : M, (m0 = (M.new m (AO.cells 13 [(Il a100), (Il a101), (Il a102), 
 (Il a103), (Il a104), (Il a105), (Il a106), 
 (Il a107), (Il a108), (Il a109), (Il a110), 
 a111, a112] false))) → ∀ m1 : M, (m1 = (M.new m0 (AO.cells 6 [(.bool false), (.bool false), (.bool false), 
 (.bool false), (.bool false), (.bool false)] false))) → isPt (.ptr m.nxt 0) ∧ isPt (.ptr m.nxt 0) ∧ 
 ∃ c2 : C, ((ldC m1 (.ptr m.nxt 11)) = (some c2)) ∧ isSl c2 ∧ fitsP .i64 ((((slLen c2) : Nat) : Int) - (1 : Int)) ∧ 
 Wc prog tbl 83 [(.c (Il ((((slLen c2) : Nat) : Int) - (1 : Int))))] m1 (fun v3 m4 => 
 ∃ b5 : Bool, ∃ b6 : Bool, ∃ b7 : Bool, ∃ b8 : Bool, ∃ b9 : Bool, ∃ b10 : Bool, (v3 = (.agg 6 [(.bool b5), 
 (.bool b6), (.bool b7), (.bool b8), (.bool b9), (.bool b10)])) ∧ ∃ m11 : M, ((stC m4 (.ptr m0.nxt 0) 6 [(.bool b5), 
 (.bool b6), (.bool b7), (.bool b8), (.bool b9), (.bool b10)]) = (some m11)) ∧ 
 ∃ b12 : Bool, ∃ b13 : Bool, ∃ b14 : Bool, ∃ b15 : Bool, ∃ b16 : Bool, ∃ b17 : Bool, 
 ((ldA m11 (.ptr m0.nxt 0) 6) = (some [(.bool b12), (.bool b13), (.bool b14), 
 (.bool b15), (.bool b16), (.bool b17)])) ∧ Q (.agg 6 [(.bool b12), (.bool b13), 
 (.bool b14), (.bool b15), (.bool b16), (.bool b17)]) m11))) : Wc prog tbl 92 [(.agg 13 [(Il a100), (Il a101), (Il a102), (Il a103), (Il a104), (Il a105), (Il a106), (Il a107), (Il a108), (Il a109), (Il a110), a111, a112])] m Q :=
 wc_eq (n := 1) rfl (by kernel_rfl) (by kernel_rfl) h
theorem w98 {a100 : Int} {a101 : Int} {a102 : Int} {a103 : Int} {a104 : Int} {a105 : Int} {a106 : Int} {a107 : Int} {a108 : Int} {a109 : Int} {a110 : Int} {a111 : C} {m : M} {Q : V → M → Prop} (h :
 (∀ m0 : M, (m0 = (M.new m (AO.cells 12 [(Il a100), (Il a101), (Il a102), 
 (Il a103), (Il a104), (Il a105), (Il a106), 
 (Il a107), (Il a108), (Il a109), (Il a110), 
 a111] false))) → isPt (.ptr m.nxt 0) ∧ ∃ x1, ((ldC m0 (.ptr m.nxt 0)) = (some (Il x1))) ∧ 
 ifB (decide ((12 : Int) < x1)) (Q (.c (.bool true)) m0) (isPt (.ptr m.nxt 0) ∧ ∃ x2, ((ldC m0 (.ptr m.nxt 1)) = (some (Il x2))) ∧ 
 ifB (decide ((12 : Int) < x2)) (Q (.c (.bool true)) m0) (isPt (.ptr m.nxt 0) ∧ ∃ c3 : C, ((ldC m0 (.ptr m.nxt 11)) = (some c3)) ∧ 
 isSl c3 ∧ Q (.c (.bool (decide ((6 : Int) < (((slLen c3) : Nat) : Int))))) m0)))) : Wc prog tbl 98 [(.agg 12 [(Il a100), (Il a101), (Il a102), (Il a103), (Il a104), (Il a105), (Il a106), (Il a107), (Il a108), (Il a109), (Il a110), a111])] m Q :=
 wc_eq (n := 1) rfl (by kernel_rfl) (by kernel_rfl) h
theorem w104 {a100 : C} {a200 : C} {m : M} {Q : V → M → Prop} (h :
 (∀ R0 : List V → M → Prop, (∀ b1 : Bool, ∀ x2 : Int, ∀ m3 : M, (isSl a100 ∧ ifB (decide (x2 < (((slLen a100) : Nat) : Int))) (isSl a200 ∧ 
 ifB (decide (x2 < (((slLen a200) : Nat) : Int))) (∃ n4 : Nat, (x2 = ((n4 : Nat) : Int)) ∧ (n4 < (slLen a100)) ∧ 
 ∃ x5, ((ldC m3 (slAt a100 (n4 * 1))) = (some (Il x5))) ∧ ∃ n6 : Nat, 
 (x2 = ((n6 : Nat) : Int)) ∧ (n6 < (slLen a200)) ∧ ∃ x7, ((ldC m3 (slAt a200 (n6 * 1))) = (some (Il x7))) ∧ 
 ifB (!decide (x5 = x7)) (∃ n8 : Nat, (x2 = ((n8 : Nat) : Int)) ∧ (n8 < (slLen a100)) ∧ 
 ∃ x9, ((ldC m3 (slAt a100 (n8 * 1))) = (some (Il x9))) ∧ 
 ∃ n10 : Nat, (x2 = ((n10 : Nat) : Int)) ∧ (n10 < (slLen a200)) ∧ ∃ x11, 
 ((ldC m3 (slAt a200 (n10 * 1))) = (some (Il x11))) ∧ Q (.c (.bool (decide (x9 < x11)))) m3) (fitsP .i64 (x2 + 1) ∧ 
 R0 [(.c (.bool b1)), (.c (Il (x2 + 1)))] m3)) (isSl a100 ∧ 
 isSl a200 ∧ Q (.c (.bool (decide ((((slLen a100) : Nat) : Int) < (((slLen a200) : Nat) : Int))))) m3)) (isSl a100 ∧ 
 isSl a200 ∧ Q (.c (.bool (decide ((((slLen a100) : Nat) : Int) < (((slLen a200) : Nat) : Int))))) m3)) → 
 R0 [(.c (.bool b1)), (.c (Il x2))] m3) → R0 [(.c (.bool false)), (.c (Il 0))] m)) : Wc prog tbl 104 [(.c a100), (.c a200)] m Q :=
 wc_eq (n := 2) rfl (by kernel_rfl) (by kernel_rfl) h
theorem w107 {a100 : Int} {a101 : Int} {a102 : Int} {a103 : Int} {a104 : Int} {a105 : Int} {a106 : Int} {a107 : Int} {a108 : Int} {a109 : Int} {a110 : Int} {a111 : C} {a200 : Int} {a201 : Int} {a202 : Int} {a203 : Int} {m : M} {Q : V → M → Prop} (h :
 (∀ m0 : M, (m0 = (M.new m (AO.cells 12 [(Il a100), (Il a101), (Il a102), 
 (Il a103), (Il a104), (Il a105), (Il a106), 
 (Il a107), (Il a108), (Il a109), (Il a110), 
 a111] false))) → ∀ m1 : M, (m1 = (M.new m0 (AO.cells 4 [(Il a200), (Il a201), 
 (Il a202), (Il a203)] false))) → isPt (.ptr m0.nxt 0) ∧ ∃ x2, 
 ∃ x3, ((ldA m1 (.ptr m0.nxt 0) 2) = (some [(Il x2), (Il x3)])) ∧ 
 isPt (.ptr m.nxt 0) ∧ ∃ x4, ((ldC m1 (.ptr m.nxt 0)) = (some (Il x4))) ∧ 
 fitsP .i64 (x4 - 1) ∧ Wc prog tbl 122 [(.agg 2 [(Il x2), (Il x3)]), 
 (.c (Il 0)), (.c (Il (x4 - 1)))] m1 (fun v5 m6 => 
 ∃ b7 : Bool, (v5 = (.c (.bool b7))) ∧ ifB b7 (isPt (.ptr m0.nxt 0) ∧ ∃ x8 x9, 
 ((ldA m6 (.ptr m0.nxt 2) 2) = (some [(Il x8), (Il x9)])) ∧ 
 isPt (.ptr m.nxt 0) ∧ ∃ x10, ((ldC m6 (.ptr m.nxt 1)) = (some (Il x10))) ∧ 
 fitsP .i64 (x10 - 1) ∧ Wc prog tbl 122 [(.agg 2 [(Il x8), 
 (Il x9)]), (.c (Il 0)), (.c (Il (x10 - 1)))] m6 (fun v11 m12 => 
 ∃ b13 : Bool, (v11 = (.c (.bool b13))) ∧ Q (.c (.bool b13)) m12)) (Q (.c (.bool false)) m6)))) : Wc prog tbl 107 [(.agg 12 [(Il a100), (Il a101), (Il a102), (Il a103), (Il a104), (Il a105), (Il a106), (Il a107), (Il a108), (Il a109), (Il a110), a111]), (.agg 4 [(Il a200), (Il a201), (Il a202), (Il a203)])] m Q :=
 wc_eq (n := 2) rfl (by kernel_rfl) (by kernel_rfl) h
theorem w113 {a100 : Int} {a101 : Int} {a102 : Int} {a103 : Int} {a104 : Int} {a105 : Int} {a106 : Int} {a107 : Int} {a108 : Int} {a109 : Int} {a110 : Int} {a111 : C} {a200 : Int} {a201 : Int} {a202 : Int} {a203 : Int} {a300 : Int} {a400 : Int} {m : M} {Q : V → M → Prop} (h :
 (∀ m0 : M, (m0 = (M.new m (AO.cells 12 [(Il a100), (Il a101), (Il a102), 
 (Il a103), (Il a104), (Il a105), (Il a106), 
 (Il a107), (Il a108), (Il a109), (Il a110), 
 a111] false))) → ∀ m1 : M, (m1 = (M.new m0 (AO.cells 4 [(Il a200), (Il a201), 
 (Il a202), (Il a203)] false))) → isPt (.ptr m.nxt 0) ∧ ∃ x2, 
 ((ldC m1 (.ptr m.nxt 0)) = (some (Il x2))) ∧ fitsP .i64 (x2 - 1) ∧ 
 ((0 : Int) ≤ (x2 - 1)) ∧ ((0 : Int) ≤ a400) ∧ fitsP .i64 ((x2 - 1) * a400) ∧ 
 isPt (.ptr m0.nxt 0) ∧ ∃ x3, ((ldC m1 (.ptr m0.nxt 0)) = (some (Il x3))) ∧ 
 fitsP .i64 ((x2 - 1) - a300) ∧ ((0 : Int) ≤ x3) ∧ ((0 : Int) ≤ ((x2 - 1) - a300)) ∧ 
 fitsP .i64 (x3 * ((x2 - 1) - a300)) ∧ isPt (.ptr m0.nxt 0) ∧ ∃ x4, 
 ((ldC m1 (.ptr m0.nxt 1)) = (some (Il x4))) ∧ ((0 : Int) ≤ x4) ∧ 
 ((0 : Int) ≤ a300) ∧ fitsP .i64 (x4 * a300) ∧ fitsP .i64 ((x3 * ((x2 - 1) - a300)) + (x4 * a300)) ∧ 
 fitsP .i64 (((x2 - 1) * a400) - ((x3 * ((x2 - 1) - a300)) + (x4 * a300))) ∧ 
 fitsP .i64 ((0 : Int) - (((x2 - 1) * a400) - ((x3 * ((x2 - 1) - a300)) + (x4 * a300)))) ∧ 
 Q (.c (Il (Max.max (((x2 - 1) * a400) - ((x3 * ((x2 - 1) - a300)) + (x4 * a300))) ((0 : Int) - (((x2 - 1) * a400) - ((x3 * ((x2 - 1) - a300)) + (x4 * a300))))))) m1)) : Wc prog tbl 113 [(.agg 12 [(Il a100), (Il a101), (Il a102), (Il a103), (Il a104), (Il a105), (Il a106), (Il a107), (Il a108), (Il a109), (Il a110), a111]), (.agg 4 [(Il a200), (Il a201), (Il a202), (Il a203)]), (.c (Il a300)), (.c (Il a400))] m Q :=
 wc_eq (n := 4) rfl (by kernel_rfl) (by kernel_rfl) h
theorem w117 {a100 : Bool} {a101 : Bool} {a102 : Bool} {a103 : Bool} {a104 : Bool} {a105 : Bool} {a200 : Bool} {a201 : Bool} {a202 : Bool} {a203 : Bool} {a204 : Bool} {a205 : Bool} {m : M} {Q : V → M → Prop} (h :
 (∀ m0 : M, (m0 = (M.new m (AO.cells 6 [(.bool a100), (.bool a101), (.bool a102), (.bool a103), (.bool a104), 
 (.bool a105)] false))) → ∀ m1 : M, (m1 = (M.new m0 (AO.cells 6 [(.bool a200), (.bool a201), (.bool a202), 
 (.bool a203), (.bool a204), (.bool a205)] false))) → ∀ m2 : M, (m2 = (M.new m1 (AO.cells 6 [(.bool false), 
 (.bool false), (.bool false), (.bool false), (.bool false), (.bool false)] false))) → ∀ R3 : List V → 
 M → Prop, (∀ x4 : Int, ∀ m5 : M, (ifB (decide (x4 < 6)) (isPt (.ptr m0.nxt 0) ∧ ∃ n6 : Nat, 
 (x4 = ((n6 : Nat) : Int)) ∧ (n6 < 6) ∧ ∃ b7 : Bool, ((ldC m5 (.ptr m0.nxt (0 + (n6 * 1)))) = (some (.bool b7))) ∧ 
 ifB b7 (isPt (.ptr m.nxt 0) ∧ ∃ n8 : Nat, (x4 = ((n8 : Nat) : Int)) ∧ (n8 < 6) ∧ ∃ b9 : Bool, 
 ((ldC m5 (.ptr m.nxt (0 + (n8 * 1)))) = (some (.bool b9))) ∧ isPt (.ptr m0.nxt 0) ∧ 
 ∃ n10 : Nat, (x4 = ((n10 : Nat) : Int)) ∧ (n10 < 6) ∧ ∃ m11 : M, ((stC m5 (.ptr m0.nxt (0 + (n10 * 1))) 1 [(.bool b9)]) = (some m11)) ∧ 
 fitsP .i64 (x4 + 1) ∧ R3 [(.c (Il (x4 + 1)))] m11) (isPt (.ptr m0.nxt 0) ∧ 
 ∃ n12 : Nat, (x4 = ((n12 : Nat) : Int)) ∧ (n12 < 6) ∧ ∃ m13 : M, ((stC m5 (.ptr m0.nxt (0 + (n12 * 1))) 1 [(.bool false)]) = (some m13)) ∧ 
 fitsP .i64 (x4 + 1) ∧ R3 [(.c (Il (x4 + 1)))] m13)) (∃ b14 : Bool, 
 ∃ b15 : Bool, ∃ b16 : Bool, ∃ b17 : Bool, ∃ b18 : Bool, ∃ b19 : Bool, ((ldA m5 (.ptr m0.nxt 0) 6) = (some [(.bool b14), 
 (.bool b15), (.bool b16), (.bool b17), (.bool b18), (.bool b19)])) ∧ ∃ m20 : M, 
 ((stC m5 (.ptr m1.nxt 0) 6 [(.bool b14), (.bool b15), (.bool b16), (.bool b17), 
 (.bool b18), (.bool b19)]) = (some m20)) ∧ ∃ b21 : Bool, ∃ b22 : Bool, ∃ b23 : Bool, 
 ∃ b24 : Bool, ∃ b25 : Bool, ∃ b26 : Bool, ((ldA m20 (.ptr m1.nxt 0) 6) = (some [(.bool b21), 
 (.bool b22), (.bool b23), (.bool b24), (.bool b25), (.bool b26)])) ∧ Q (.agg 6 [(.bool b21), 
 (.bool b22), (.bool b23), (.bool b24), (.bool b25), (.bool b26)]) m20)) → 
 R3 [(.c (Il x4))] m5) → R3 [(.c (Il 0))] m2)) : Wc prog tbl 117 [(.agg 6 [(.bool a100), (.bool a101), (.bool a102), (.bool a103), (.bool a104), (.bool a105)]), (.agg 6 [(.bool a200), (.bool a201), (.bool a202), (.bool a203), (.bool a204), (.bool a205)])] m Q :=
 wc_eq (n := 2) rfl (by kernel_rfl) (by kernel_rfl) h
theorem w121 {a100 : Int} {a101 : Int} {a102 : Int} {a103 : Int} {a104 : Int} {a105 : Int} {a106 : Int} {a107 : Int} {a108 : Int} {a109 : Int} {a110 : Int} {a111 : C} {a200 : Int} {a201 : Int} {a202 : Int} {a203 : Int} {a204 : Bool} {a205 : Int} {a206 : Int} {a300 : Int} {a301 : Int} {a302 : Int} {a303 : Int} {m : M} {Q : V → M → Prop} (h :
 (∀ m0 : M, (m0 = (M.new m (AO.cells 12 [(Il a100), (Il a101), (Il a102), 
 (Il a103), (Il a104), (Il a105), (Il a106), 
 (Il a107), (Il a108), (Il a109), (Il a110), 
 a111] false))) → ∀ m1 : M, (m1 = (M.new m0 (AO.cells 7 [(Il a200), (Il a201), 
 (Il a202), (Il a203), (.bool a204), (Il a205), (Il a206)] false))) → 
 ∀ m2 : M, (m2 = (M.new m1 (AO.cells 4 [(Il a300), (Il a301), (Il a302), 
 (Il a303)] false))) → ∀ m3 : M, (m3 = (M.new m2 (AO.cells 1 [(.bool false)] false))) → 
 ∃ x4 x5 x6 x7, ∃ b8 : Bool, ∃ x9 x10, ((ldA m3 (.ptr m0.nxt 0) 7) = (some [(Il x4), 
 (Il x5), (Il x6), (Il x7), (.bool b8), (Il x9), 
 (Il x10)])) ∧ Wc prog tbl 133 [(.agg 7 [(Il x4), (Il x5), 
 (Il x6), (Il x7), (.bool b8), (Il x9), (Il x10)])] m3 (fun v11 m12 => 
 ∃ x13 x14 x15 x16, (v11 = (.agg 4 [(Il x13), 
 (Il x14), (Il x15), (Il x16)])) ∧ Wc prog tbl 78 [(.agg 4 [(Il x13), 
 (Il x14), (Il x15), (Il x16)])] m12 (fun v17 m18 => 
 ∃ c19 : C, (v17 = (.c c19)) ∧ rangeP prog tbl c19 m18 (fun l20 m21 R22 R23 => 
 ∃ x24 x25, (l20 = [(.c (Il x24)), (.c (Il x25))]) ∧ 
 R22 m21 (fun m26 => ∃ x27 x28 x29 x30, 
 ∃ x31 x32 x33 x34 x35 x36, 
 ∃ x37, ∃ c38 : C, ((ldA m26 (.ptr m.nxt 0) 12) = (some [(Il x27), 
 (Il x28), (Il x29), (Il x30), (Il x31), 
 (Il x32), (Il x33), (Il x34), (Il x35), 
 (Il x36), (Il x37), c38])) ∧ ∃ x39 x40, 
 ∃ x41 x42, ((ldA m26 (.ptr m1.nxt 0) 4) = (some [(Il x39), 
 (Il x40), (Il x41), (Il x42)])) ∧ 
 Wc prog tbl 112 [(.agg 12 [(Il x27), (Il x28), 
 (Il x29), (Il x30), (Il x31), (Il x32), 
 (Il x33), (Il x34), (Il x35), (Il x36), 
 (Il x37), c38]), (.agg 4 [(Il x39), (Il x40), 
 (Il x41), (Il x42)]), (.c (Il x24)), 
 (.c (Il x25))] m26 (fun v43 m44 => ∃ b45 : Bool, (v43 = (.c (.bool b45))) ∧ 
 isPt (.ptr m0.nxt 0) ∧ ∃ b46 : Bool, ((ldC m44 (.ptr m0.nxt 4)) = (some (.bool b46))) ∧ 
 ((ldC m26 (.ptr m0.nxt 4)) = (some (.bool b46))) ∧ ifB (b45 == b46) (isPt (.ptr m0.nxt 0) ∧ 
 ∃ x47 x48, ((ldA m44 (.ptr m0.nxt 5) 2) = (some [(Il x47), 
 (Il x48)])) ∧ ∃ x49 x50 x51 x52, 
 ∃ x53 x54 x55 x56 x57 x58, 
 ∃ x59, ∃ c60 : C, ((ldA m44 (.ptr m.nxt 0) 12) = (some [(Il x49), 
 (Il x50), (Il x51), (Il x52), (Il x53), 
 (Il x54), (Il x55), (Il x56), (Il x57), 
 (Il x58), (Il x59), c60])) ∧ ∃ x61 x62, 
 ∃ x63 x64, ((ldA m44 (.ptr m1.nxt 0) 4) = (some [(Il x61), 
 (Il x62), (Il x63), (Il x64)])) ∧ 
 Wc prog tbl 75 [(.agg 12 [(Il x49), (Il x50), 
 (Il x51), (Il x52), (Il x53), (Il x54), 
 (Il x55), (Il x56), (Il x57), (Il x58), 
 (Il x59), c60]), (.agg 4 [(Il x61), (Il x62), 
 (Il x63), (Il x64)]), (.c (Il x24)), 
 (.c (Il x25))] m44 (fun v65 m66 => ∃ x67, (v65 = (.c (Il x67))) ∧ 
 ((ldA m66 (.ptr m0.nxt 5) 2) = (some [(Il x47), (Il x48)])) ∧ 
 Wc prog tbl 120 [(.agg 2 [(Il x47), (Il x48)]), 
 (.c (Il x67))] m66 (fun v68 m69 => ∃ b70 : Bool, (v68 = (.c (.bool b70))) ∧ 
 ifB b70 (∃ m71 : M, ((stC m69 (.ptr m2.nxt 0) 1 [(.bool true)]) = (some m71)) ∧ 
 R23 Ex.ret m71) (R23 Ex.nrm m69)))) (R23 Ex.nrm m44)))) (After.mk (fun m72 => 
 ∃ m73 : M, ((stC m72 (.ptr m2.nxt 0) 1 [(.bool false)]) = (some m73)) ∧ 
 ∃ b74 : Bool, ((ldC m73 (.ptr m2.nxt 0)) = (some (.bool b74))) ∧ 
 Q (.c (.bool b74)) m73) [] (fun m75 => ∃ b76 : Bool, ((ldC m75 (.ptr m2.nxt 0)) = (some (.bool b76))) ∧ 
 Q (.c (.bool b76)) m75)))))) : Wc prog tbl 121 [(.agg 12 [(Il a100), (Il a101), (Il a102), (Il a103), (Il a104), (Il a105), (Il a106), (Il a107), (Il a108), (Il a109), (Il a110), a111]), (.agg 7 [(Il a200), (Il a201), (Il a202), (Il a203), (.bool a204), (Il a205), (Il a206)]), (.agg 4 [(Il a300), (Il a301), (Il a302), (Il a303)])] m Q :=
 wc_eq (n := 3) rfl (by kernel_rfl) (by kernel_rfl) h
theorem w124 {a100 : Int} {a101 : Int} {a102 : Int} {a103 : Int} {a104 : Int} {a105 : Int} {a106 : Int} {a107 : Int} {a108 : Int} {a109 : Int} {a110 : Int} {a111 : C} {a112 : C} {a200 : Int} {a201 : Int} {a202 : Int} {a203 : Int} {a204 : Bool} {a205 : Int} {a206 : Int} {m : M} {Q : V → M → Prop} (h :
 (∀ m0 : M, (m0 = (M.new m (AO.cells 13 [(Il a100), (Il a101), (Il a102), 
 (Il a103), (Il a104), (Il a105), (Il a106), 
 (Il a107), (Il a108), (Il a109), (Il a110), 
 a111, a112] false))) → ∀ m1 : M, (m1 = (M.new m0 (AO.cells 7 [(Il a200), (Il a201), 
 (Il a202), (Il a203), (.bool a204), (Il a205), (Il a206)] false))) → 
 isPt (.ptr m.nxt 0) ∧ ∃ x2 x3 x4 x5 x6 x7, 
 ∃ x8 x9 x10 x11 x12, ∃ c13 : C, ((ldA m1 (.ptr m.nxt 0) 12) = (some [(Il x2), 
 (Il x3), (Il x4), (Il x5), (Il x6), 
 (Il x7), (Il x8), (Il x9), (Il x10), 
 (Il x11), (Il x12), c13])) ∧ ∃ x14 x15, 
 ∃ x16 x17, ∃ b18 : Bool, ∃ x19 x20, ((ldA m1 (.ptr m0.nxt 0) 7) = (some [(Il x14), 
 (Il x15), (Il x16), (Il x17), (.bool b18), 
 (Il x19), (Il x20)])) ∧ Wc prog tbl 133 [(.agg 7 [(Il x14), 
 (Il x15), (Il x16), (Il x17), (.bool b18), 
 (Il x19), (Il x20)])] m1 (fun v21 m22 => ∃ x23, 
 ∃ x24 x25 x26, (v21 = (.agg 4 [(Il x23), 
 (Il x24), (Il x25), (Il x26)])) ∧ 
 (ifB (allS cmC [(Il x2), (Il x3), (Il x4), 
 (Il x5), (Il x6), (Il x7), (Il x8), 
 (Il x9), (Il x10), (Il x11), (Il x12), 
 c13]) ((ldA m22 (.ptr m.nxt 0) 12) = (some [(Il x2), 
 (Il x3), (Il x4), (Il x5), (Il x6), 
 (Il x7), (Il x8), (Il x9), (Il x10), 
 (Il x11), (Il x12), c13])) False) ∧ Wc prog tbl 107 [(.agg 12 [(Il x2), 
 (Il x3), (Il x4), (Il x5), (Il x6), 
 (Il x7), (Il x8), (Il x9), (Il x10), 
 (Il x11), (Il x12), c13]), (.agg 4 [(Il x23), 
 (Il x24), (Il x25), (Il x26)])] m22 (fun v27 m28 => 
 ∃ b29 : Bool, (v27 = (.c (.bool b29))) ∧ ifB (!b29) (Q (.c (.bool false)) m28) (isPt (.ptr m0.nxt 0) ∧ 
 ∃ x30 x31, ((ldA m28 (.ptr m0.nxt 5) 2) = (some [(Il x30), 
 (Il x31)])) ∧ Wc prog tbl 122 [(.agg 2 [(Il x30), 
 (Il x31)]), (.c (Il 0)), (.c (Il (9 : Int)))] m28 (fun v32 m33 => 
 ∃ b34 : Bool, (v32 = (.c (.bool b34))) ∧ ifB (!b34) (Q (.c (.bool false)) m33) (isPt (.ptr m0.nxt 0) ∧ 
 ∃ b35 : Bool, ((ldC m33 (.ptr m0.nxt 4)) = (some (.bool b35))) ∧ 
 ifB b35 (Q (.c (.bool true)) m33) (isPt (.ptr m0.nxt 0) ∧ ∃ x36, 
 ∃ x37, ((ldA m33 (.ptr m0.nxt 5) 2) = (some [(Il x36), 
 (Il x37)])) ∧ fitsP .i64 x36 ∧ fitsP .i64 (0 : Int) ∧ 
 fitsP .i64 x37 ∧ fitsP .i64 (0 : Int) ∧ Q (.c (.bool ((decide (x36 = 0)) && (decide (x37 = 0))))) m33)))))))) : Wc prog tbl 124 [(.agg 13 [(Il a100), (Il a101), (Il a102), (Il a103), (Il a104), (Il a105), (Il a106), (Il a107), (Il a108), (Il a109), (Il a110), a111, a112]), (.agg 7 [(Il a200), (Il a201), (Il a202), (Il a203), (.bool a204), (Il a205), (Il a206)])] m Q :=
 wc_eq (n := 2) rfl (by kernel_rfl) (by kernel_rfl) h
theorem w131 {a100 : Int} {a200 : Int} {m : M} {Q : V → M → Prop} (h :
 (∀ m0 : M, (m0 = (M.new m (AO.cells 1 [(Il a100)] false))) → ∀ m1 : M, (m1 = (M.new m0 (AO.cells 1 [(Il a200)] false))) → 
 Q (.c (C.fn (Fn.func 137) [] [(W.c (C0.ptr m0.nxt 0)), (W.c (C0.ptr m.nxt 0))])) m1)) : Wc prog tbl 131 [(.c (Il a100)), (.c (Il a200))] m Q :=
 wc_eq (n := 2) rfl (by kernel_rfl) (by kernel_rfl) h
theorem w134 {a100 : C} {a200 : C} {m : M} {Q : V → M → Prop} (h :
 (Wc prog tbl 139 [(.c a100), (.c a200)] m (fun v0 m1 => ∃ x2, (v0 = (.c (Il x2))) ∧ Q (.c (.bool (decide ((0 : Int) ≤ x2)))) m1))) : Wc prog tbl 134 [(.c a100), (.c a200)] m Q :=
 wc_eq (n := 2) rfl (by kernel_rfl) (by kernel_rfl) h
end
end Go.Proofs.Ytbnfnhfanooplaa

namespace Go.Proofs.Ytbnfnhfanooplaa
open _root_.Go.Proofs.Try
open Go.Abs
set_option maxRecDepth 100000
noncomputable section
theorem w137 (y : C) (b b2 : Nat) {m : M} {Q : V → M → Prop} (h :
 (∀ m0 : M, (m0 = (M.new m (AO.cells 1 [y] false))) → ∃ x1, ((ldC m0 (.ptr b 0)) = (some (Il x1))) ∧ 
 ∃ n2 : Nat, ∃ n3 : Nat, (x1 = ((n2 : Nat) : Int)) ∧ (x1 = ((n3 : Nat) : Int)) ∧ (n2 ≤ n3) ∧ (n3 ≤ 4096) ∧ 
 ∀ m4 : M, (m4 = (M.new m0 (AO.cells (n3 * 1) (repeatS [(Il 0)] n3) false))) → 
 ∀ m5 : M, (m5 = (M.new m4 (AO.cells 1 [C.sl0] false))) → ∃ m6 : M, ((stC m5 (.ptr m4.nxt 0) 1 [(.sl m0.nxt 0 n2 0 (some n3))]) = (some m6)) ∧ 
 ∀ m7 : M, (m7 = (M.new m6 (AO.cells 1 [C.nilFn] false))) → ∃ m8 : M, ((stC m7 (.ptr m6.nxt 0) 1 [(C.fn (Fn.func 138) [] [(W.c (C0.ptr b 0)), 
 (W.c (C0.ptr m.nxt 0)), (W.c (C0.ptr m4.nxt 0)), (W.c (C0.ptr b2 0)), (W.c (C0.ptr m6.nxt 0))])]) = (some m8)) ∧ 
 ∃ c9 : C, ((ldC m8 (.ptr m6.nxt 0)) = (some c9)) ∧ callP prog tbl [(.c (Il 0)), 
 (.c (Il 0))] c9 m8 (fun v10 m11 => ∃ b12 : Bool, (v10 = (.c (.bool b12))) ∧ 
 Q (.tup []) m11))) : Wc prog tbl 137 [.c y, .c (.ptr b 0), .c (.ptr b2 0)] m Q :=
 wc_eq (n := 3) rfl (by kernel_rfl) (by kernel_rfl) h
theorem w138 (at' from' : Int) (b k h2 b2 cv : Nat) {m : M} {Q : V → M → Prop} (h :
 (∃ x0, ((ldC m (.ptr b 0)) = (some (Il x0))) ∧ ifB (decide (at' = x0)) (∃ c1 : C, 
 ((ldC m (.ptr k 0)) = (some c1)) ∧ ∃ c2 : C, ((ldC m (.ptr h2 0)) = (some c2)) ∧ callP prog tbl [(.c c2)] c1 m (fun v3 m4 => 
 ∃ b5 : Bool, (v3 = (.c (.bool b5))) ∧ Q (.c (.bool b5)) m4)) (∀ R6 : List V → M → Prop, 
 (∀ b7 : Bool, ∀ x8 : Int, ∀ m9 : M, (∃ x10, ((ldC m9 (.ptr b2 0)) = (some (Il x10))) ∧ 
 ifB (decide (x8 < x10)) (∃ c11 : C, ((ldC m9 (.ptr h2 0)) = (some c11)) ∧ ∃ n12 : Nat, 
 (at' = ((n12 : Nat) : Int)) ∧ (n12 < (slLen c11)) ∧ ∃ m13 : M, ((stC m9 (slAt c11 (n12 * 1)) 1 [(Il x8)]) = (some m13)) ∧ 
 ∃ c14 : C, ((ldC m13 (.ptr cv 0)) = (some c14)) ∧ fitsP .i64 (at' + (1 : Int)) ∧ 
 fitsP .i64 (x8 + 1) ∧ callP prog tbl [(.c (Il (at' + (1 : Int)))), 
 (.c (Il (x8 + 1)))] c14 m13 (fun v15 m16 => ∃ b17 : Bool, 
 (v15 = (.c (.bool b17))) ∧ ifB (!b17) (Q (.c (.bool false)) m16) (fitsP .i64 (x8 + 1) ∧ 
 R6 [(.c (.bool b7)), (.c (Il (x8 + 1)))] m16))) (Q (.c (.bool true)) m9)) → 
 R6 [(.c (.bool b7)), (.c (Il x8))] m9) → R6 [(.c (.bool false)), (.c (Il from'))] m))) : Wc prog tbl 138 [.c (Il at'), .c (Il from'), .c (.ptr b 0), .c (.ptr k 0), .c (.ptr h2 0), .c (.ptr b2 0), .c (.ptr cv 0)] m Q :=
 wc_eq (n := 7) rfl (by kernel_rfl) (by kernel_rfl) h
end
end Go.Proofs.Ytbnfnhfanooplaa

namespace Go.Proofs.Ytbnfnhfanooplaa
open _root_.Go.Proofs.Try
open Go.Abs
set_option maxRecDepth 100000
noncomputable section
theorem t22 : tk prog 69 = .sl 3 := by kernel_rfl
theorem g3 : growOk prog 3 = true := by kernel_rfl
theorem z3 : prog.cellsOf 3 = 1 := by kernel_rfl
theorem take_set {P : List Int} {p : Nat} (hp : p < P.length) (n : Int) : (P.set p n).take (p + 1) = P.take p ++ [n] := by
 rw [List.take_add_one, List.getElem?_set_self hp, List.take_set_of_le (Nat.le_refl _)]; rfl
theorem _root_.Go.Abs.Chg.trans {S S1 : Nat → Prop} {T : Nat → Prop} {m m1 m2 : M} (h1 : Chg (fun b => S b ∨ T b) m m1) (h2 : Chg (fun b => S1 b ∨ T b) m1 m2) (ho : Own S m S1) : Chg (fun b => S b ∨ T b) m m2 :=
 ⟨Nat.le_trans h1.nxt h2.nxt, fun b hb hS => by
  rw [h2.g b (Nat.lt_of_lt_of_le hb h1.nxt) fun h => h.elim (fun h3 => (ho b h3).elim (fun h4 => hS (.inl h4)) fun h4 => by omega) fun h3 => hS (.inr h3)]
  exact h1.g b hb hS, h2.vw.trans h1.vw⟩
theorem _root_.Go.Abs.Own.refl (S : Nat → Prop) (m : M) : Own S m S := fun _ hb => .inl hb
theorem _root_.Go.Abs.Own.trans {S S1 S2 : Nat → Prop} {m m1 : M} (h1 : Own S m S1) (h2 : Own S1 m1 S2) (hn : m.nxt ≤ m1.nxt) : Own S m S2 := fun b hb => (h2 b hb).elim (h1 b) fun h => .inr (by omega)
theorem _root_.Go.Abs.Chg.or {S T : Nat → Prop} {m m' : M} (h : Chg S m m') : Chg (fun b => S b ∨ T b) m m' := ⟨h.nxt, fun b hb hS => h.g b hb fun h2 => hS (.inl h2), h.vw⟩
theorem ints_set (L : List Int) (i : Nat) (v : Int) : (ints L).set i (.int .i64 v) = ints (L.set i v) := by unfold ints; rw [List.map_set]
theorem fits_small {n : Int} (h1 : -1000000 ≤ n) (h2 : n ≤ 1000000) : fitsP .i64 n := by simp only [fitsP]; omega
theorem mem_rests {α : Type} (g : Nat → List α) (a : α) : ∀ (e n : Nat), a ∈ rests g e n ↔ ∃ j, n ≤ j ∧ j < n + e ∧ a ∈ g j
 | 0, n => ⟨fun h => (by cases h), fun ⟨j, h1, h2, _⟩ => by omega⟩
 | e + 1, n => by
  show a ∈ g n ++ rests g e (n + 1) ↔ _
  rw [List.mem_append, mem_rests g a e (n + 1)]
  constructor
  ·rintro (h | ⟨j, h1, h2, h3⟩)
   ·exact ⟨n, Nat.le_refl _, by omega, h⟩
   ·exact ⟨j, by omega, by omega, h3⟩
  ·rintro ⟨j, h1, h2, h3⟩
   by_cases hj : j = n
   ·subst hj; exact .inl h3
   ·exact .inr ⟨j, by omega, by omega, h3⟩
def hdr (bl size : Nat) : C := .sl bl 0 size 0 (some size)
def flC (b k h2 b2 cv : Nat) : C := .fn (.func 138) [] [.c (.ptr b 0), .c (.ptr k 0), .c (.ptr h2 0), .c (.ptr b2 0), .c (.ptr cv 0)]
def VsL (all : List (List Int)) (n1 i : Nat) (x : List V) (m : M) : Prop := ∃ L c, all[i]? = some L ∧ x = [.c c] ∧ Li m c L ∧ (isNilC c = false ∧ slOk c 1 L.length) ∧ ∀ b o n s d, c = .sl b o n s d → n1 ≤ b
theorem _root_.Go.Abs.Bk.st1n {m : M} {b n : Nat} {vs : List C} (h : Bk m b n vs) {k : Nat} (c : C) (hk : k < vs.length) (hn : vs.length = n) : stC m (.ptr b (0 + k * 1)) 1 [c] = some (m.set b (.cells n (vs.set k c) false)) := by
 rw [show 0 + k * 1 = k by omega]
 by_cases h1 : n = 1
 ·subst h1
  have hk0 : k = 0 := by omega
  subst hk0
  have : vs.set 0 c = [c] := by
   match vs, hn with
   | [a], _ => rfl
  rw [this]
  exact stC_of h.g [c]
 ·exact stC_at h.g c hk hn h1
theorem rep0 (n : Nat) : repeatS [C.int .i64 0] n = ints (List.replicate n 0) := by rw [repeatS_eq]; simp [ints]
structure SlF (n size b b2 l k h2 bl cv : Nat) (S : Nat → Prop) (m : M) (P : List Int) : Prop where
 bb : Bk m b 1 [.int .i64 (size : Int)]
 nn : Bk m b2 1 [.int .i64 (n : Int)]
 kk : Bk m k 1 [.fn (.yield l) [] []]
 hh : Bk m h2 1 [hdr bl size]
 ll : Bk m bl size (ints P)
 cc : Bk m cv 1 [flC b k h2 b2 cv]
 ss : ∀ b', S b' → b' ≠ b ∧ b' ≠ b2 ∧ b' ≠ k ∧ b' ≠ h2 ∧ b' ≠ bl ∧ b' ≠ cv
 ne : b ≠ bl ∧ b2 ≠ bl ∧ k ≠ bl ∧ h2 ≠ bl ∧ cv ≠ bl
variable {n size b b2 l k h2 bl cv : Nat}
theorem SlF.to {S S' : Nat → Prop} {m m' : M} {P : List Int} (h : SlF n size b b2 l k h2 bl cv S m P) (hn : Chg S m m') (ho : Own S m S') : SlF n size b b2 l k h2 bl cv S' m' P := by
 have tr : ∀ {b' j : Nat} {vs : List C}, Bk m b' j vs → ¬ S b' → Bk m' b' j vs := fun hb hS => ⟨(hn.g _ hb.lt hS).trans hb.g, Nat.lt_of_lt_of_le hb.lt hn.nxt⟩
 refine ⟨tr h.bb fun h1 => (h.ss _ h1).1 rfl, tr h.nn fun h1 => (h.ss _ h1).2.1 rfl, tr h.kk fun h1 => (h.ss _ h1).2.2.1 rfl, tr h.hh fun h1 => (h.ss _ h1).2.2.2.1 rfl, tr h.ll fun h1 => (h.ss _ h1).2.2.2.2.1 rfl, tr h.cc fun h1 => (h.ss _ h1).2.2.2.2.2 rfl, fun b' hb => ?_, h.ne⟩
 rcases ho b' hb with h1 | h1
 ·exact h.ss b' h1
 ·have := h.bb.lt; have := h.nn.lt; have := h.kk.lt; have := h.hh.lt; have := h.ll.lt; have := h.cc.lt
  omega
theorem SlF.set {S : Nat → Prop} {m : M} {P : List Int} (h : SlF n size b b2 l k h2 bl cv S m P) (P' : List Int) : SlF n size b b2 l k h2 bl cv S (m.set bl (.cells size (ints P') false)) P' :=
 ⟨h.bb.setNe h.ne.1 _, h.nn.setNe h.ne.2.1 _, h.kk.setNe h.ne.2.2.1 _, h.hh.setNe h.ne.2.2.2.1 _, h.ll.set _, h.cc.setNe h.ne.2.2.2.2 _, h.ss, h.ne⟩
theorem SlF.li {S : Nat → Prop} {m : M} {P : List Int} (h : SlF n size b b2 l k h2 bl cv S m P) (hP : P.length = size) : Li m (hdr bl size) P := by
 refine ⟨by rw [ints_len]; omega, .inr ⟨bl, 0, 0, some size, by rw [hP]; rfl, h.ll.lt, fun _ => .inl ⟨size, ints P, false, h.ll.g, by rw [ints_len]; exact hP, by rw [ints_len]; omega, by rw [List.drop_zero, List.take_length]⟩⟩⟩
theorem sFill {n0 n1 : Nat} (hn : n ≤ 1000) (hsz : size ≤ 1000) (hn0 : n0 ≤ bl) (hn1 : n1 ≤ bl) {all : List (List Int)} {I : Nat → (Nat → Prop) → M → Prop} {E : (Nat → Prop) → M → Prop} (hcl : ClientV prog tbl n0 l (VsL all n1) I E) :
  ∀ (d p : Nat), d + p = size → ∀ (i fr : Nat) (S : Nat → Prop) (m : M) (P : List Int) (Q : V → M → Prop), SlF n size b b2 l k h2 bl cv S m P → P.length = size →
   (∀ j L, (combs n d (P.take p) fr)[j]? = some L → all[i + j]? = some L) → I i S m →
   (∀ S' m' P', Own S m S' → Chg (fun b' => S b' ∨ b' = bl) m m' → SlF n size b b2 l k h2 bl cv S' m' P' → P'.length = size → P'.take p = P.take p → I (i + (combs n d (P.take p) fr).length) S' m' → Q (.c (.bool true)) m') →
   (∀ S' m', Own S m S' → Chg (fun b' => S b' ∨ b' = bl) m m' → E S' m' → Q (.c (.bool false)) m') →
   Wc prog tbl 138 [.c (.int .i64 (p : Int)), .c (.int .i64 (fr : Int)), .c (.ptr b 0), .c (.ptr k 0), .c (.ptr h2 0), .c (.ptr b2 0), .c (.ptr cv 0)] m Q := by
 intro d
 induction d with
 | zero =>
  intro p hp i fr S m P Q hst hP hxs hI hT hF
  refine w138 (p : Int) (fr : Int) b k h2 b2 cv ⟨_, hst.bb.rc rfl, ?_⟩
  rw [ifB_dec]
  refine ⟨fun _ => ⟨_, hst.kk.rc rfl, _, hst.hh.rc rfl, ?_⟩, fun h1 => absurd (by omega) h1⟩
  have hx0 := hxs 0 (P.take p) rfl
  rw [List.take_of_length_le (by omega), Nat.add_zero] at hx0
  show Wy prog tbl l [.c (hdr bl size)] m _
  refine hcl.yield i _ S m ⟨P, hdr bl size, hx0, rfl, hst.li hP, ⟨rfl, .inr (.inl ⟨bl, 0, 0, size, by rw [hP]; rfl, by omega⟩)⟩, fun b' o n' s d h => by cases h; exact hn1⟩ hI _ (fun S' m' ho hch hI' => ⟨_, rfl, ?_⟩) fun S' m' ho hch hE => ⟨_, rfl, hF S' m' ho (Chg.or hch) hE⟩
  exact hT S' m' P ho (Chg.or hch) (hst.to hch ho) hP rfl hI'
 | succ d ih =>
  intro p hp i fr S m P Q hst hP hxs hI hT hF
  refine w138 (p : Int) (fr : Int) b k h2 b2 cv ⟨_, hst.bb.rc rfl, ?_⟩
  rw [ifB_dec]
  refine ⟨fun h1 => by omega, fun _ R6 hstep => ?_⟩
  let g : Nat → List (List Int) := fun x => combs n d (P.take p ++ [(x : Int)]) (x + 1)
  have hex : combs n (d + 1) (P.take p) fr = rests g (n - fr) fr := rfl
  rw [hex] at hxs hT
  have hgo : ∀ (e x : Nat) (b7 : Bool) (m9 : M) (S1 : Nat → Prop) (P1 : List Int) (i1 : Nat), n - x = e → Own S m S1 → Chg (fun b' => S b' ∨ b' = bl) m m9 → SlF n size b b2 l k h2 bl cv S1 m9 P1 → P1.length = size → P1.take p = P.take p → I i1 S1 m9 →
    i1 + (rests g e x).length = i + (rests g (n - fr) fr).length → (∀ j L, (rests g e x)[j]? = some L → all[i1 + j]? = some L) → R6 [.c (.bool b7), .c (.int .i64 (x : Int))] m9 := by
   intro e
   induction e with
   | zero =>
    intro x b7 m9 S1 P1 i1 hen ho hch hst1 hP1 htk hI1 hlen hxs1
    refine hstep _ _ _ ⟨_, hst1.nn.rc rfl, ?_⟩
    rw [ifB_dec]
    refine ⟨fun h1 => by omega, fun _ => hT S1 m9 P1 ho hch hst1 hP1 htk ?_⟩
    have : i1 + 0 = _ := hlen
    rw [← this, Nat.add_zero]; exact hI1
   | succ e ihe =>
    intro x b7 m9 S1 P1 i1 hen ho hch hst1 hP1 htk hI1 hlen hxs1
    refine hstep _ _ _ ⟨_, hst1.nn.rc rfl, ?_⟩
    rw [ifB_dec]
    refine ⟨fun _ => ?_, fun h1 => absurd (by omega) h1⟩
    have hp9 : p < P1.length := by omega
    refine ⟨_, hst1.hh.rc rfl, p, rfl, (by show p < size; omega), _, hst1.ll.st1n _ (by rw [ints_len]; exact hp9) (by rw [ints_len]; exact hP1), ?_⟩
    rw [ints_set]
    have hst2 := hst1.set (P1.set p (x : Int))
    have hch2 : Chg (fun b' => S1 b' ∨ b' = bl) m9 (m9.set bl (.cells size (ints (P1.set p (x : Int))) false)) := ⟨Nat.le_refl _, fun b' _ hS => by rw [M.g_set, if_neg fun h1 => hS (.inr h1)], rfl⟩
    have hI2 : I i1 S1 (m9.set bl (.cells size (ints (P1.set p (x : Int))) false)) := (hcl.li i1).st _ _ _ hI1 (Nat.le_refl _) rfl (fun b' hb => by rw [M.g_set, if_neg (hst1.ss b' hb).2.2.2.2.1]) (fun b' hb => by rw [M.g_set, if_neg (by omega)])
    have hchm := Chg.trans (T := fun b' => b' = bl) hch hch2 ho
    generalize m9.set bl (.cells size (ints (P1.set p (x : Int))) false) = m13 at hst2 hch2 hI2 hchm
    have hP2 : (P1.set p (x : Int)).length = size := by rw [List.length_set]; exact hP1
    have htk2 : (P1.set p (x : Int)).take (p + 1) = P.take p ++ [(x : Int)] := by rw [take_set hp9, htk]
    have htk3 : (P1.set p (x : Int)).take p = P.take p := by rw [List.take_set_of_le (Nat.le_refl _), htk]
    generalize P1.set p (x : Int) = P2 at hst2 htk2 htk3 hP2
    have hge : rests g (e + 1) x = g x ++ rests g e (x + 1) := rfl
    have hg : g x = combs n d (P2.take (p + 1)) (x + 1) := by rw [htk2]
    rw [hge, hg] at hlen hxs1
    rw [List.length_append] at hlen
    refine ⟨_, hst2.cc.rc rfl, fits_small (by omega) (by omega), fits_small (by omega) (by omega), ?_⟩
    show Wc prog tbl 138 [.c (.int .i64 ((p + 1 : Nat) : Int)), .c (.int .i64 ((x + 1 : Nat) : Int)), .c (.ptr b 0), .c (.ptr k 0), .c (.ptr h2 0), .c (.ptr b2 0), .c (.ptr cv 0)] m13 _
    refine ih (p + 1) (by omega) i1 (x + 1) S1 m13 P2 _ hst2 hP2 (fun j H hj => hxs1 j H (by rw [List.getElem?_append_left (List.getElem?_eq_some_iff.1 hj).1]; exact hj)) hI2 (fun S' m' P' ho' hch' hst' hP' htk' hI' => ⟨_, rfl, ?_⟩) fun S' m' ho' hch' hE => ⟨_, rfl, ?_⟩
    ·have htk4 : P'.take p = P.take p := by
      have h1 := congrArg (List.take p) htk'
      rw [List.take_take, List.take_take, Nat.min_eq_left (by omega)] at h1
      rw [h1, htk3]
     refine ⟨fits_small (by omega) (by omega), ihe (x + 1) b7 m' S' P' _ (by omega) (Own.trans ho ho' hchm.nxt) (Chg.trans (T := fun b' => b' = bl) hchm hch' ho) hst' hP' htk4 hI' (by omega) fun j H hj => ?_⟩
     rw [Nat.add_assoc]
     exact hxs1 _ H (by rw [List.getElem?_append_right (by omega), Nat.add_sub_cancel_left]; exact hj)
    ·exact hF S' m' (Own.trans ho ho' hchm.nxt) (Chg.trans (T := fun b' => b' = bl) hchm hch' ho) hE
  exact hgo (n - fr) fr false m S P i rfl (Own.refl S m) ⟨Nat.le_refl _, fun _ _ _ => rfl, rfl⟩ hst hP rfl hI rfl hxs
theorem lists_iter (hn : n ≤ 1000) (hsz : size ≤ 1000) : IterV prog tbl (.fn (.func 137) [] [.c (.ptr b 0), .c (.ptr b2 0)]) (combs n size [] 0).length (VsL (combs n size [] 0)) (fun b' => b' = b ∨ b' = b2) (fun m => Bk m b 1 [.int .i64 (size : Int)] ∧ Bk m b2 1 [.int .i64 (n : Int)]) := by
 refine ⟨fun m m' h hn' hv hg => ⟨⟨(hg b (.inl rfl)).trans h.1.g, Nat.lt_of_lt_of_le h.1.lt hn'⟩, ⟨(hg b2 (.inr rfl)).trans h.2.g, Nat.lt_of_lt_of_le h.2.lt hn'⟩⟩, fun m h b' hb => hb.elim (fun h1 => h1 ▸ h.1.lt) fun h1 => h1 ▸ h.2.lt, fun n0' l I E S m hcl hn0' hI hR hSD Q hQ => ?_⟩
 have hSlt := (hcl.li 0).lt _ _ hI
 have hb := hR.1.lt
 have hb2 := hR.2.lt
 show Wc prog tbl 137 [.c (.fn (.yield l) [] []), .c (.ptr b 0), .c (.ptr b2 0)] m Q
 refine w137 _ b b2 fun m0 e0 => ?_
 obtain ⟨b0, x0⟩ := Bk.new e0
 refine ⟨_, (hR.1.ext x0).rc rfl, size, size, rfl, rfl, Nat.le_refl _, by omega, fun m4 e4 m5 e5 => ?_⟩
 rw [rep0, Nat.mul_one] at e4
 obtain ⟨b4, x4⟩ := Bk.new e4
 obtain ⟨b5, x5⟩ := Bk.new e5
 have n0 : m0.nxt = m.nxt + 1 := by rw [e0]; rfl
 have n4 : m4.nxt = m.nxt + 2 := by rw [e4]; show m0.nxt + 1 = _; omega
 have n5 : m5.nxt = m.nxt + 3 := by rw [e5]; show m4.nxt + 1 = _; omega
 refine ⟨_, b5.st _, fun m7 e7 => ?_⟩
 have k6 := b5.set [C.sl m0.nxt 0 size 0 (some size)]
 have x6 : Ext m (m5.set m4.nxt (.cells 1 [C.sl m0.nxt 0 size 0 (some size)] false)) := ((x0.trans x4).trans x5).setR (by omega) _
 have k0 : Bk (m5.set m4.nxt (.cells 1 [C.sl m0.nxt 0 size 0 (some size)] false)) m.nxt 1 [.fn (.yield l) [] []] := ((b0.ext x4).ext x5).setNe (by omega) _
 have k4 : Bk (m5.set m4.nxt (.cells 1 [C.sl m0.nxt 0 size 0 (some size)] false)) m0.nxt size (ints (List.replicate size 0)) := (b4.ext x5).setNe (by omega) _
 have n6 : (m5.set m4.nxt (.cells 1 [C.sl m0.nxt 0 size 0 (some size)] false)).nxt = m.nxt + 3 := n5
 have e7' : m7 = (m5.set m4.nxt (.cells 1 [C.sl m0.nxt 0 size 0 (some size)] false)).new (.cells 1 [.nilFn] false) := e7
 clear e7
 generalize m5.set m4.nxt (.cells 1 [C.sl m0.nxt 0 size 0 (some size)] false) = m6 at k6 x6 k0 k4 n6 e7' ⊢
 obtain ⟨b7, x7⟩ := Bk.new e7'
 have n7 : m7.nxt = m.nxt + 4 := by rw [e7']; show m6.nxt + 1 = _; omega
 refine ⟨_, b7.st _, _, (b7.set _).rc rfl, ?_⟩
 have k8 := b7.set [flC b m.nxt m4.nxt b2 m6.nxt]
 have x8 : Ext m (m7.set m6.nxt (.cells 1 [flC b m.nxt m4.nxt b2 m6.nxt] false)) := (x6.trans x7).setR (by omega) _
 have j0 := (k0.ext x7).setNe (c := m6.nxt) (by omega) (.cells 1 [flC b m.nxt m4.nxt b2 m6.nxt] false)
 have j4 := (k4.ext x7).setNe (c := m6.nxt) (by omega) (.cells 1 [flC b m.nxt m4.nxt b2 m6.nxt] false)
 have j6 := (k6.ext x7).setNe (c := m6.nxt) (by omega) (.cells 1 [flC b m.nxt m4.nxt b2 m6.nxt] false)
 show callP prog tbl _ (flC b m.nxt m4.nxt b2 m6.nxt) (m7.set m6.nxt (.cells 1 [flC b m.nxt m4.nxt b2 m6.nxt] false)) _
 generalize m7.set m6.nxt (.cells 1 [flC b m.nxt m4.nxt b2 m6.nxt] false) = m8 at k8 x8 j0 j4 j6
 have hI8 : I 0 S m8 := (hcl.li 0).st _ _ _ hI x8.nxt x8.vw (fun b' hb => x8.g b' (hSlt b' hb)) (fun b' hb => x8.g b' (by omega))
 have hSl : SlF n size b b2 l m.nxt m4.nxt m0.nxt m6.nxt S m8 (List.replicate size 0) := ⟨hR.1.ext x8, hR.2.ext x8, j0, j6, j4, k8, fun b' hb' => by
  have h1 := hSlt b' hb'
  have h2 := hSD b' hb'
  exact ⟨fun h => h2 (.inl h), fun h => h2 (.inr h), by omega, by omega, by omega, by omega⟩, by omega⟩
 have hchg : ∀ {m' : M}, Chg (fun b' => S b' ∨ b' = m0.nxt) m8 m' → Chg S m m' := fun {m'} h => ⟨Nat.le_trans x8.nxt h.nxt, fun b' hb hSb => by
  rw [h.g b' (Nat.lt_of_lt_of_le hb x8.nxt) fun h3 => h3.elim hSb fun h4 => by omega]
  exact x8.g b' hb, h.vw.trans x8.vw⟩
 show Wc prog tbl 138 [.c (.int .i64 ((0 : Nat) : Int)), .c (.int .i64 ((0 : Nat) : Int)), .c (.ptr b 0), .c (.ptr m.nxt 0), .c (.ptr m4.nxt 0), .c (.ptr b2 0), .c (.ptr m6.nxt 0)] m8 _
 refine sFill hn hsz (n0 := n0') (n1 := m.nxt) (by omega) (by omega) hcl size 0 (by omega) 0 0 S m8 _ _ hSl (by simp) (fun j L hj => by rw [Nat.zero_add]; exact hj) hI8 (fun S' m' P' ho hch hst' _ _ hI' => ⟨_, rfl, ?_⟩) fun S' m' ho hch hE => ⟨_, rfl, ?_⟩
 ·rw [Nat.zero_add] at hI'
  exact hQ _ S' m' (Own.trans (Own.refl S m) ho x8.nxt) (hchg hch) (.inl hI')
 ·exact hQ _ S' m' (Own.trans (Own.refl S m) ho x8.nxt) (hchg hch) (.inr hE)
theorem isNil_ne {m : M} {z : C} {L : List Int} (hz : Li m z L) (hn : isNilC z = false) : ∃ b o n s c, z = .sl b o n s c := by
 rcases hz.val with ⟨rfl, _⟩ | ⟨b, o, s, c, rfl, _⟩
 ·cases hn
 ·exact ⟨_, _, _, _, _, rfl⟩
theorem sClone {z : C} {L : List Int} {m : M} {Q : V → M → Prop} (hz : Li m z L) (hn : isNilC z = false) (hL : L.length ≤ 1000) (h : ∀ z' m', Ext m m' → Li m' z' L → Fr m z' → slOk z' 1 L.length → Q (.c z') m') : Wc prog tbl 132 [.c z] m Q := by
 obtain ⟨b, o, n, s, c, rfl⟩ := isNil_ne hz hn
 refine w132 ⟨trivial, trivial, trivial, rfl, ?_⟩
 show ∀ m0 : M, _
 intro m0 e0
 obtain ⟨b0, x0⟩ := Bk.new e0
 have ho : Own1 m0 1 (.sl m.nxt 0 0 0 (some 0)) [] 0 := ⟨rfl, .lit _ b0.g b0.lt⟩
 by_cases h0 : L.length = 0
 ·have hL0 : L = [] := List.eq_nil_of_length_eq_zero h0
  subst hL0
  exact ⟨_, _, ap_none t22 g3 z3 ho (hz.ext x0), h _ _ x0 ho.ls (fun b o n s d hq => by cases hq; exact Nat.le_refl _) (.inr (.inl ⟨_, _, _, _, rfl, Nat.le_refl _⟩))⟩
 ·obtain ⟨m', q1, q2, q3, q4, q5⟩ := ap_own t22 g3 z3 ho (hz.ext x0) (by omega) (by omega) (by omega)
  have n0 : m0.nxt = m.nxt + 1 := by rw [e0]; rfl
  refine ⟨_, m', q1, h _ _ ⟨by omega, fun b' hb => ?_, q4.trans x0.vw⟩ ?_ (fun b o n s d hq => by cases hq; omega) (.inr (.inr ⟨_, _, by rw [Nat.zero_add]⟩))⟩
  ·rw [q5 b' (by omega) (by intro hq; cases hq)]; exact x0.g b' hb
  ·have := q2.ls
   rw [List.nil_append] at this
   have e : 0 + L.length = L.length := Nat.zero_add _
   rw [e] at this ⊢
   exact this
theorem rests_split {α : Type} (g : Nat → List α) (p : α → Bool) : ∀ e x, (rests g (e + 1) x).find? p = ((g x).find? p).or ((rests g e (x + 1)).find? p) := fun e x => by
 show (g x ++ rests g e (x + 1)).find? p = _
 rw [List.find?_append]
def Tests (n : Nat) (m : M) (fnc : C) (t : List Int → Bool) : Prop :=
 ∀ m' z L, Ext m m' → Li m' z L → slOk z 1 L.length → L ∈ allL n → ∀ Q : V → M → Prop, (∀ m'', Ext m' m'' → Q (.c (.bool (t L))) m'') → callP prog tbl [.c z] fnc m' Q
theorem drop_find {l : List (List Int)} {i : Nat} {a : List Int} (h : l[i]? = some a) (p : List Int → Bool) : (l.drop i).find? p = if p a then some a else (l.drop (i + 1)).find? p := by
 obtain ⟨hi, ha⟩ := List.getElem?_eq_some_iff.1 h
 rw [List.drop_eq_getElem_cons hi, ha, List.find?_cons]
 cases p a <;> rfl
theorem combs_len {n : Nat} {L : List Int} : ∀ {d : Nat} {pre : List Int} {fr : Nat}, L ∈ combs n d pre fr → L.length = pre.length + d
 | 0, pre, fr, h => by
  have : L = pre := List.mem_singleton.1 h
  rw [this]; rfl
 | d + 1, pre, fr, h => by
  obtain ⟨x, _, _, h3⟩ := (mem_rests _ _ _ _).1 h
  have := combs_len h3
  rw [List.length_append] at this
  simp only [List.length_cons, List.length_nil] at this
  omega
theorem sShort {n : Nat} {fnc : C} {t : List Int → Bool} {m : M} {Q : V → M → Prop} (hn : n ≤ 100) (ht : Tests n m fnc t) (h : ∀ z m', Ext m m' → Li m' z (shortL n t) → slOk z 1 (shortL n t).length → (∀ b o n' s d, z = .sl b o n' s d → m.nxt ≤ b) → Q (.c z) m') : Wc prog tbl 118 [.c (.int .i64 (n : Int)), .c fnc] m Q := by
 refine w118 fun m0 e0 m1 e1 => ?_
 obtain ⟨b0, x0⟩ := Bk.new e0
 obtain ⟨b1, x1⟩ := Bk.new e1
 have x01 := x0.trans x1
 have n0 : m0.nxt = m.nxt + 1 := by rw [e0]; rfl
 refine ⟨fits_small (by omega) (by omega), fun R2 hstep => ?_⟩
 let G : Nat → List (List Int) := fun s => combs n s [] 0
 have hgo : ∀ (e s : Nat) (m4 : M), e + s = n + 1 → Ext m m4 → Bk m4 m.nxt 1 [fnc] → Bk m4 m0.nxt 1 [.sl0] → (rests G e s).find? t = (allL n).find? t → R2 [.c (.int .i64 (s : Int))] m4 := by
  intro e
  induction e with
  | zero =>
   intro s m4 hes x4 k0 k1 hfind
   refine hstep _ _ ?_
   rw [ifB_dec]
   refine ⟨fun h1 => by omega, fun _ => ⟨_, k1.rc rfl, ?_⟩⟩
   have : shortL n t = [] := by unfold shortL; rw [← hfind]; rfl
   refine h _ _ x4 ?_ ?_ fun _ _ _ _ _ h9 => by cases h9
   ·rw [this]; exact Ls.nil m4 1
   ·rw [this]; exact .inl ⟨rfl, rfl⟩
  | succ e ih =>
   intro s m4 hes x4 k0 k1 hfind
   refine hstep _ _ ?_
   rw [ifB_dec]
   refine ⟨fun _ => ?_, fun h1 => absurd (by omega) h1⟩
   refine w131 fun m5 e5 m6 e6 => ?_
   obtain ⟨b5, x5⟩ := Bk.new e5
   obtain ⟨b6, x6⟩ := Bk.new e6
   have x56 := x5.trans x6
   refine ⟨_, rfl, ?_⟩
   have hk0 := k0.lt
   have hk1 := k1.lt
   have n5 : m5.nxt = m4.nxt + 1 := by rw [e5]; rfl
   have x46 := x4.trans x56
   have k06 := k0.ext x56
   have k16 := k1.ext x56
   rw [rests_split] at hfind
   refine range_iterV (lists_iter (b := m5.nxt) (b2 := m4.nxt) (n := n) (size := s) (by omega) (by omega)) ⟨b6, b5.ext x6⟩
    (J := fun i S ma => (∀ b', S b' ↔ b' = m0.nxt) ∧ Bk ma m0.nxt 1 [.sl0] ∧ ((G s).drop i).find? t = (G s).find? t ∧ m6.nxt ≤ ma.nxt ∧ ma.vw = m6.vw ∧ ∀ b', b' < m6.nxt → b' ≠ m0.nxt → ma.g b' = m6.g b')
    (X := fun ex S ma => ex = .exit 0 ∧ ∃ z L, (∀ b', S b' ↔ b' = m0.nxt ∨ ∃ o n s d, z = .sl b' o n s d) ∧ Bk ma m0.nxt 1 [z] ∧ Li ma z L ∧ (∀ b' o n s d, z = .sl b' o n s d → m.nxt ≤ b' ∧ b' < ma.nxt) ∧ ((G s).find? t = some L ∧ slOk z 1 L.length) ∧ m6.nxt ≤ ma.nxt ∧ ma.vw = m6.vw ∧ ∀ b', b' < m6.nxt → b' ≠ m0.nxt → ma.g b' = m6.g b')
    (fun i => ⟨fun S ma mb hj hn' hv hg hlow => ⟨hj.1, ⟨(hg _ ((hj.1 _).2 rfl)).trans hj.2.1.g, Nat.lt_of_lt_of_le hj.2.1.lt hn'⟩, hj.2.2.1, Nat.le_trans hj.2.2.2.1 hn', hv.trans hj.2.2.2.2.1, fun b' hb' hne => (hlow b' hb').trans (hj.2.2.2.2.2 b' hb' hne)⟩, fun S ma hj b' hb' => by rw [(hj.1 b').1 hb']; exact hj.2.1.lt⟩)
    (fun ex => ⟨fun S ma mb hj hn' hv hg hlow => ?_, fun S ma hj b' hb' => ?_⟩) (S0 := fun b' => b' = m0.nxt) ⟨fun _ => Iff.rfl, k16, rfl, Nat.le_refl _, rfl, fun _ _ _ => rfl⟩ (fun b' hb' hd => by rcases hd with hd | hd <;> omega) ?_ ?_ ?_ ?_
   ·obtain ⟨h1, z, L, h2, h3, h4, h5, h6, h7, h8, h9⟩ := hj
    refine ⟨h1, z, L, h2, ⟨(hg _ ((h2 _).2 (.inl rfl))).trans h3.g, Nat.lt_of_lt_of_le h3.lt hn'⟩, h4.to hn' (fun b' _ hx' => ?_) hv, fun b' o n s d hz => ⟨(h5 b' o n s d hz).1, Nat.lt_of_lt_of_le (h5 b' o n s d hz).2 hn'⟩, h6, Nat.le_trans h7 hn', hv.trans h8, fun b' hb' hne => (hlow b' hb').trans (h9 b' hb' hne)⟩
    obtain ⟨o, s', d, hx'⟩ := hx'
    exact hg b' ((h2 b').2 (.inr ⟨_, _, _, _, hx'⟩))
   ·obtain ⟨h1, z, L, h2, h3, h4, h5, h6, _⟩ := hj
    rcases (h2 b').1 hb' with rfl | ⟨o, n', s', d, hz⟩
    ·exact h3.lt
    ·exact (h5 _ _ _ _ _ hz).2
   ·intro i xv S ma B' enter K hxv hj hlt hSl hown henter hK
    obtain ⟨L, z, hL, rfl, hz, hnil, hfr⟩ := hxv
    obtain ⟨hS, hkb, hf, hn6, hv6, hg6⟩ := hj
    refine ⟨z, rfl, henter ma _ rfl fun m15 hn15 hv15 hg15 hB15 => ?_⟩
    have hne0 : m0.nxt ≠ m6.nxt := by have := k16.lt; omega
    have hl15 : Li m15 z L := hz.to (by omega) (fun b' _ hx' => by obtain ⟨o, s', d, hx'⟩ := hx'; exact hg15 b' (by have := hfr b' _ _ _ _ hx'; omega)) hv15
    have kk15 : Bk m15 m0.nxt 1 [.sl0] := ⟨(hg15 _ hne0).trans hkb.g, by rw [hn15]; exact hkb.lt⟩
    have hold : ∀ b', b' < m6.nxt → b' ≠ m0.nxt → m15.g b' = m6.g b' := fun b' hb' hne => (hg15 b' (by omega)).trans (hg6 b' hb' hne)
    have x15 : Ext m m15 := ⟨by rw [hn15]; exact Nat.le_trans x46.nxt hn6, fun b' hb' => by rw [hold b' (Nat.lt_of_lt_of_le hb' x46.nxt) (by omega)]; exact x46.g b' hb', by rw [hv15, hv6]; exact x46.vw⟩
    have kf15 : Bk m15 m.nxt 1 [fnc] := ⟨(hold _ k06.lt (by omega)).trans k06.g, by rw [hn15]; exact Nat.lt_of_lt_of_le k06.lt hn6⟩
    have hLm : L ∈ combs n s [] 0 := List.mem_of_getElem? hL
    have hmem : L ∈ allL n := (mem_rests _ _ _ _).2 ⟨s, Nat.zero_le _, by omega, hLm⟩
    have hlen := combs_len hLm
    simp only [List.length_nil] at hlen
    refine ⟨fnc, kf15.rc rfl, ht m15 z L x15 hl15 hnil.2 hmem _ fun m18 e18 => ⟨_, rfl, ?_⟩⟩
    have kk18 := kk15.ext e18
    have hg18 : ∀ b', b' < ma.nxt → b' ≠ m6.nxt → m18.g b' = ma.g b' := fun b' hb' hne => by rw [e18.g b' (by omega)]; exact hg15 b' hne
    have hn18 : ma.nxt ≤ m18.nxt := by rw [← hn15]; exact e18.nxt
    have hv18 : m18.vw = ma.vw := e18.vw.trans hv15
    have hB18 : m18.g m6.nxt = m15.g m6.nxt := e18.g _ (by omega)
    rw [ifB_iff]
    refine ⟨fun htl => ?_, fun htl => ?_⟩
    ·refine sClone (hl15.ext e18) hnil.1 (by omega) fun z' m21 e21 hz' hfr' hok' => ⟨z', rfl, _, (kk18.ext e21).st _, ?_⟩
     have hzne : ∀ b' o n s d, z' = .sl b' o n s d → b' ≠ m0.nxt := fun b' o n s d hq => by have := hfr' b' o n s d hq; have := kk18.lt; omega
     refine hK (.exit 0) (fun b' => b' = m0.nxt ∨ ∃ o n s d, z' = .sl b' o n s d) _ (hB15 _ ?_) (Nat.le_trans hn18 e21.nxt) (e21.vw.trans hv18) (fun b' hb' hSb hbl => ?_) (fun b' hb' => ?_) ⟨rfl, z', L, fun _ => Iff.rfl, (kk18.ext e21).set _, hz'.setNe hzne _, fun b' o n s d hq => ?_, ?_, ?_, ?_, fun b' hb' hne => ?_⟩
     ·rw [M.g_set, if_neg (by omega), e21.g _ (by omega)]; exact hB18
     ·rw [M.g_set, if_neg fun h0 => hSb ((hS b').2 h0), e21.g b' (by omega)]; exact hg18 b' hb' hbl
     ·rcases hb' with h0 | ⟨o, n', s', d, hq⟩
      ·exact .inl ((hS b').2 h0)
      ·exact .inr (by have := hfr' _ _ _ _ _ hq; omega)
     ·have hmm : m.nxt ≤ b' := by have := hfr' _ _ _ _ _ hq; have := x15.nxt; have := e18.nxt; omega
      refine ⟨hmm, ?_⟩
      subst hq
      rcases hz'.val with ⟨h0, _⟩ | ⟨b3, o3, s3, c3, h0, h1, _⟩
      ·cases h0
      ·cases h0; exact h1
     ·exact ⟨by rw [← hf, drop_find hL, if_pos htl], hok'⟩
     ·exact Nat.le_trans hn6 (Nat.le_trans hn18 e21.nxt)
     ·exact (e21.vw.trans hv18).trans hv6
     ·rw [M.g_set, if_neg hne, e21.g b' (by omega), hg18 b' (by omega) (by omega)]; exact hg6 b' hb' hne
    ·refine hK .nrm S _ (hB15 _ hB18) hn18 hv18 (fun b' hb' _ hbl => hg18 b' hb' hbl) (Own.refl S ma) ⟨hS, kk18, ?_, Nat.le_trans hn6 hn18, hv18.trans hv6, fun b' hb' hne => by rw [hg18 b' (by omega) (by omega)]; exact hg6 b' hb' hne⟩
     rw [← hf, drop_find hL, if_neg (by rw [htl]; decide)]
   ·intro S' m5' hown hlt hv hg hj
    obtain ⟨hS, hkb, hf, hn6, hv6, hg6⟩ := hj
    have hnone : (G s).find? t = none := by rw [← hf, List.drop_eq_nil_of_le (Nat.le_refl _)]; rfl
    rw [hnone] at hfind
    refine ⟨fits_small (by omega) (by omega), ih (s + 1) m5' (by omega) ⟨Nat.le_trans x46.nxt hn6, fun b' hb' => by rw [hg6 b' (Nat.lt_of_lt_of_le hb' x46.nxt) (by omega)]; exact x46.g b' hb', hv6.trans x46.vw⟩ ⟨(hg6 _ k06.lt (by omega)).trans k06.g, Nat.lt_of_lt_of_le k06.lt hn6⟩ hkb hfind⟩
   ·intro id S' m5' hown hlt hv hg hj
    obtain ⟨h1, z, L, h2, h3, h4, h5, h6, hn6, hv6, hg6⟩ := hj
    cases h1
    refine ⟨z, h3.rc rfl, h z m5' ⟨Nat.le_trans x46.nxt hn6, fun b' hb' => by rw [hg6 b' (Nat.lt_of_lt_of_le hb' x46.nxt) (by omega)]; exact x46.g b' hb', hv6.trans x46.vw⟩ ?_ ?_ fun b o n' s d hz => (h5 b o n' s d hz).1⟩ <;> rw [show shortL n t = L from by unfold shortL; rw [← hfind, h6.1]; rfl]
    ·exact h4
    ·exact h6.2
   ·intro S' m5' hown hlt hv hg hj
    exact absurd hj.1 (by intro h; cases h)
 exact hgo (n + 1) 0 m1 (by omega) x01 (b0.ext x1) b1 rfl
end
end Go.Proofs.Ytbnfnhfanooplaa

namespace Go.Proofs.Ytbnfnhfanooplaa
open _root_.Go.Proofs.Try
open Go.Abs
set_option maxRecDepth 100000
noncomputable section
def Fv_LInt_Bool (f : M) (x : C) (g : List Int → Option (Bool)) : Prop := ∀ (f' m : M) (a0 : List Int) (c0 : C) (r : Bool) (Q : V → M → Prop), Sub f f' → Pre f' m → Sl f' c0 a0 → g a0 = some r → (∀ m', Ext m m' → Q (.c (.bool r)) m') → callP prog tbl [.c c0] x m Q
theorem cat_ints {f : M} : ∀ (l : List Int), Cat f (ints l) l
 | [] => rfl
 | a :: l => ⟨[.int .i64 a], ints l, rfl, rfl, cat_ints l⟩
def asM (m : M) : M := { nxt := m.nxt, g := fun b => if b < m.nxt then m.g b else none, vw := m.vw }
theorem asM_sub (m : M) : Sub (asM m) m := ⟨Nat.le_refl _, rfl, fun _b hb _ => (if_pos hb).symm⟩
theorem asM_of {f m m' : M} (h : Sub f m) (e : Ext m m') : Sub f (asM m') := ⟨Nat.le_trans h.nxt e.nxt, e.vw.trans h.vw, fun b hb hd => by
 have := Nat.lt_of_lt_of_le hb h.nxt
 have := e.nxt
 show (if b < m'.nxt then m'.g b else none) = _
 rw [if_pos (by omega), e.g b (by omega)]
 exact h.g b hb hd⟩
theorem asM_pre {f m m' : M} (h : Pre f m) (e : Ext m m') : Pre (asM m') m' := ⟨asM_sub m', fun b hb => if_neg (by have hb : m'.nxt ≤ b := hb; omega), fun b hb => by
 have hb : m'.nxt ≤ b := hb
 show m'.vw b = none
 rw [e.vw, h.sub.vw]
 exact h.fv b (Nat.le_trans h.sub.nxt (Nat.le_trans e.nxt hb))⟩
theorem sl_of {m : M} {z : C} {L : List Int} (h : Li m z L) (hok : slOk z 1 L.length) : Sl (asM m) z L := by
 refine ⟨ints L, ⟨h.len, ?_⟩, cat_ints L, hok⟩
 rcases h.val with h1 | ⟨b, o, t, c, h1, h2, h3⟩
 ·exact .inl h1
 ·refine .inr ⟨b, o, t, c, h1, h2, fun h0 => (h3 h0).to' ?_ rfl⟩
  exact if_pos h2
def grM (f m m' : M) : M := { nxt := m'.nxt, g := fun b => if b < m.nxt then f.g b else if b < m'.nxt then m'.g b else none, vw := f.vw }
theorem grM_pre {f m m' : M} (h : Pre f m) (e : Ext m m') : Pre (grM f m m') m' := by
 have hn := h.sub.nxt
 have he := e.nxt
 refine ⟨⟨Nat.le_refl _, by show m'.vw = f.vw; rw [e.vw, h.sub.vw], fun b hb hd => ?_⟩, fun b hb => ?_, fun b hb => h.fv b (by have hb : m'.nxt ≤ b := hb; omega)⟩
 ·show m'.g b = (if b < m.nxt then f.g b else if b < m'.nxt then m'.g b else none)
  have hb : b < m'.nxt := hb
  by_cases hbm : b < m.nxt
  ·rw [if_pos hbm]
   have hd : (if b < m.nxt then f.g b else if b < m'.nxt then m'.g b else none) ≠ none ∨ f.vw b ≠ none := hd
   rw [if_pos hbm] at hd
   have hbf : b < f.nxt := by
    rcases Nat.lt_or_ge b f.nxt with h1 | h1
    ·exact h1
    ·exact (hd.elim (fun h2 => h2 (h.fz b h1)) fun h2 => h2 (h.fv b h1)).elim
   rw [e.g b hbm]; exact h.sub.g b hbf hd
  ·rw [if_neg hbm, if_pos hb]
 ·have hb : m'.nxt ≤ b := hb
  show (if b < m.nxt then f.g b else if b < m'.nxt then m'.g b else none) = none
  rw [if_neg (by omega), if_neg (by omega)]
theorem s_shortest {n : Int} {passes : List Int → Option Bool} {c2 : C} {m f : M} {Q : V → M → Prop} {rz : List Int} (hS : Pre f m) (hF : Fv_LInt_Bool f c2 passes) (hp : pshortest n passes = some rz) (hq : ∀ m' f' c0, Grw m f m' f' → Sl f' c0 rz → Q (.c c0) m') : Wc prog tbl 118 [.c (Il n), .c c2] m Q := by
 obtain ⟨⟨p, q, i⟩, hp⟩ := gd_some hp
 obtain rfl := Option.some.inj hp
 have hn : n = ((n.toNat : Nat) : Int) := by omega
 rw [hn]
 refine sShort (n := n.toNat) (t := fun L => (passes L).getD false) (by omega) (fun m' z L e hz hok hL Q' hQ' => ?_) fun z m' e hz hok hfr => ?_
 ·have hs := i L hL
  cases hpl : passes L with
  | none => rw [hpl] at hs; cases hs
  | some b =>
   refine hF (asM m') m' L z b Q' (asM_of hS.sub e) (asM_pre hS e) (sl_of hz hok) hpl fun m'' e' => ?_
   have d : Q' (V.c (C.bool ((passes L).getD false))) m'' := hQ' m'' e'
   rw [hpl] at d
   exact d
 ·refine hq m' (grM f m m') z ⟨e, ⟨Nat.le_trans hS.sub.nxt e.nxt, rfl, fun b hb _ => if_pos (Nat.lt_of_lt_of_le hb hS.sub.nxt)⟩, grM_pre hS e, fun b hb => if_pos hb⟩ ?_
  refine ⟨ints _, ⟨hz.len, ?_⟩, cat_ints _, hok⟩
  rcases hz.val with a | ⟨b, o, t, c, a, h, j⟩
  ·exact .inl a
  ·refine .inr ⟨b, o, t, c, a, h, fun l => (j l).to' ?_ ?_⟩
   ·have d := hfr _ _ _ _ _ a
    show (if b < m.nxt then f.g b else if b < m'.nxt then m'.g b else none) = _
    rw [if_neg (by omega), if_pos h]
   ·show f.vw b = m'.vw b
    rw [e.vw, hS.sub.vw]
end
end Go.Proofs.Ytbnfnhfanooplaa

