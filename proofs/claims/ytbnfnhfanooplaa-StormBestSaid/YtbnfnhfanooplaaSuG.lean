/- An evaluator of the code of a program, its soundness, what calls ask, memory, and what functions of the program do. Condition: none; a lemma text of this claim. -/
import Derived.Test.YtbnfnhfanooplaaSuF

namespace Go.Proofs.Ytbnfnhfanooplaa
theorem obs {α β : Type} {a : α} {f : α → Option β} : (some a).bind f = f a := rfl
theorem gdi {α : Type} {p A : Prop} {o : Option α} {r : α} (hp : Go.Abs.gd p o = some r) (h : p → o = some r → A) : p ∧ A := have ⟨a, b⟩ := Go.Abs.gd_some hp; ⟨a, h a b⟩
end Go.Proofs.Ytbnfnhfanooplaa

namespace Go.Proofs.Ytbnfnhfanooplaa
open _root_.Go.Proofs.Try
open Go.Abs
set_option maxRecDepth 100000
noncomputable section
structure Rg where
 Lo : Int
 Hi : Int
def ok_Rg (a : Rg) : Prop := (fitsP .i64 a.Lo) ∧ (fitsP .i64 a.Hi)
instance : MK Rg := ⟨fun k => .agg 2 [.int .i64 k.Lo, .int .i64 k.Hi], fun k => fitsP .i64 k.Lo ∧ fitsP .i64 k.Hi ∧ True⟩
instance : MV Rg := ⟨fun k => .agg 2 [.int .i64 k.Lo, .int .i64 k.Hi]⟩
instance : Rp Rg := ⟨2, by omega, fun _ cs a => cs = [.int .i64 a.Lo, .int .i64 a.Hi], fun h => by rw [h]; rfl, fun h _ => h⟩
structure Crd where
 X : Rg
 Y : Rg
 Hail : Bool
 Size : Rg
def ok_Crd (a : Crd) : Prop := (ok_Rg a.X) ∧ (ok_Rg a.Y) ∧ (True) ∧ (ok_Rg a.Size)
instance : MK Crd := ⟨fun k => .agg 7 [.int .i64 k.X.Lo, .int .i64 k.X.Hi, .int .i64 k.Y.Lo, .int .i64 k.Y.Hi, .bool k.Hail, .int .i64 k.Size.Lo, .int .i64 k.Size.Hi], fun k => fitsP .i64 k.X.Lo ∧ fitsP .i64 k.X.Hi ∧ fitsP .i64 k.Y.Lo ∧ fitsP .i64 k.Y.Hi ∧ fitsP .i64 k.Size.Lo ∧ fitsP .i64 k.Size.Hi ∧ True⟩
instance : MV Crd := ⟨fun k => .agg 7 [.int .i64 k.X.Lo, .int .i64 k.X.Hi, .int .i64 k.Y.Lo, .int .i64 k.Y.Hi, .bool k.Hail, .int .i64 k.Size.Lo, .int .i64 k.Size.Hi]⟩
instance : Rp Crd := ⟨7, by omega, fun _ cs a => cs = [.int .i64 a.X.Lo, .int .i64 a.X.Hi, .int .i64 a.Y.Lo, .int .i64 a.Y.Hi, .bool a.Hail, .int .i64 a.Size.Lo, .int .i64 a.Size.Hi], fun h => by rw [h]; rfl, fun h _ => h⟩
theorem rd_Crd {f : M} {x : C} {l : List Crd} (h : Sl f x l) {n : Nat} {a : Crd} (hi : l[n]? = some a) : ∃ _u : Unit, (∀ m, Sub f m → ldA m (slAt x (n * 7)) 7 = some [.int .i64 a.X.Lo, .int .i64 a.X.Hi, .int .i64 a.Y.Lo, .int .i64 a.Y.Hi, .bool a.Hail, .int .i64 a.Size.Lo, .int .i64 a.Size.Hi] ∧ (∀ j c, ([.int .i64 a.X.Lo, .int .i64 a.X.Hi, .int .i64 a.Y.Lo, .int .i64 a.Y.Hi, .bool a.Hail, .int .i64 a.Size.Lo, .int .i64 a.Size.Hi] : List C)[j]? = some c → ldC m (ptAdd (slAt x (n * 7)) j) = some c) ∧ ∀ j i, 0 < i → j + i ≤ 7 → ldA m (ptAdd (slAt x (n * 7)) j) i = some ((([.int .i64 a.X.Lo, .int .i64 a.X.Hi, .int .i64 a.Y.Lo, .int .i64 a.Y.Hi, .bool a.Hail, .int .i64 a.Size.Lo, .int .i64 a.Size.Hi] : List C).drop j).take i)) := by
 obtain ⟨cs, q1, q2⟩ := h.rdP hi
 have q2 : cs = _ := q2
 subst q2
 exact ⟨(), q1⟩
structure Stm where
 Wide : Int
 High : Int
 Fall : Int
 A : Rg
 B : Rg
 Half : Rg
 Peak : Rg
 Cards : List Crd
def ok_Stm (a : Stm) : Prop := (fitsP .i64 a.Wide) ∧ (fitsP .i64 a.High) ∧ (fitsP .i64 a.Fall) ∧ (ok_Rg a.A) ∧ (ok_Rg a.B) ∧ (ok_Rg a.Half) ∧ (ok_Rg a.Peak) ∧ (a.Cards.length ≤ maxLen ∧ ∀ a0 ∈ a.Cards, ok_Crd a0)
instance : Rp Stm := ⟨12, by omega, fun f cs a => ∃ c11 : C, cs = [.int .i64 a.Wide, .int .i64 a.High, .int .i64 a.Fall, .int .i64 a.A.Lo, .int .i64 a.A.Hi, .int .i64 a.B.Lo, .int .i64 a.B.Hi, .int .i64 a.Half.Lo, .int .i64 a.Half.Hi, .int .i64 a.Peak.Lo, .int .i64 a.Peak.Hi, c11] ∧ Sl f c11 a.Cards, fun h => by obtain ⟨c11, h, _⟩ := h; rw [h]; rfl, fun h s => by obtain ⟨c11, h, h0⟩ := h; exact ⟨c11, h, h0.subv s⟩⟩
structure Trh where
 A : Int
 B : Int
 Half : Int
 Peak : Int
instance : MK Trh := ⟨fun k => .agg 4 [.int .i64 k.A, .int .i64 k.B, .int .i64 k.Half, .int .i64 k.Peak], fun k => fitsP .i64 k.A ∧ fitsP .i64 k.B ∧ fitsP .i64 k.Half ∧ fitsP .i64 k.Peak ∧ True⟩
instance : MV Trh := ⟨fun k => .agg 4 [.int .i64 k.A, .int .i64 k.B, .int .i64 k.Half, .int .i64 k.Peak]⟩
instance : Rp Trh := ⟨4, by omega, fun _ cs a => cs = [.int .i64 a.A, .int .i64 a.B, .int .i64 a.Half, .int .i64 a.Peak], fun h => by rw [h]; rfl, fun h _ => h⟩
theorem rd_Trh {f : M} {x : C} {l : List Trh} (h : Sl f x l) {n : Nat} {a : Trh} (hi : l[n]? = some a) : ∃ _u : Unit, (∀ m, Sub f m → ldA m (slAt x (n * 4)) 4 = some [.int .i64 a.A, .int .i64 a.B, .int .i64 a.Half, .int .i64 a.Peak] ∧ (∀ j c, ([.int .i64 a.A, .int .i64 a.B, .int .i64 a.Half, .int .i64 a.Peak] : List C)[j]? = some c → ldC m (ptAdd (slAt x (n * 4)) j) = some c) ∧ ∀ j i, 0 < i → j + i ≤ 4 → ldA m (ptAdd (slAt x (n * 4)) j) i = some ((([.int .i64 a.A, .int .i64 a.B, .int .i64 a.Half, .int .i64 a.Peak] : List C).drop j).take i)) := by
 obtain ⟨cs, q1, q2⟩ := h.rdP hi
 have q2 : cs = _ := q2
 subst q2
 exact ⟨(), q1⟩
structure Rct where
 X : Rg
 Y : Rg
instance : MK Rct := ⟨fun k => .agg 4 [.int .i64 k.X.Lo, .int .i64 k.X.Hi, .int .i64 k.Y.Lo, .int .i64 k.Y.Hi], fun k => fitsP .i64 k.X.Lo ∧ fitsP .i64 k.X.Hi ∧ fitsP .i64 k.Y.Lo ∧ fitsP .i64 k.Y.Hi ∧ True⟩
instance : MV Rct := ⟨fun k => .agg 4 [.int .i64 k.X.Lo, .int .i64 k.X.Hi, .int .i64 k.Y.Lo, .int .i64 k.Y.Hi]⟩
instance : Rp Rct := ⟨4, by omega, fun _ cs a => cs = [.int .i64 a.X.Lo, .int .i64 a.X.Hi, .int .i64 a.Y.Lo, .int .i64 a.Y.Hi], fun h => by rw [h]; rfl, fun h _ => h⟩
theorem rd_Rct {f : M} {x : C} {l : List Rct} (h : Sl f x l) {n : Nat} {a : Rct} (hi : l[n]? = some a) : ∃ _u : Unit, (∀ m, Sub f m → ldA m (slAt x (n * 4)) 4 = some [.int .i64 a.X.Lo, .int .i64 a.X.Hi, .int .i64 a.Y.Lo, .int .i64 a.Y.Hi] ∧ (∀ j c, ([.int .i64 a.X.Lo, .int .i64 a.X.Hi, .int .i64 a.Y.Lo, .int .i64 a.Y.Hi] : List C)[j]? = some c → ldC m (ptAdd (slAt x (n * 4)) j) = some c) ∧ ∀ j i, 0 < i → j + i ≤ 4 → ldA m (ptAdd (slAt x (n * 4)) j) i = some ((([.int .i64 a.X.Lo, .int .i64 a.X.Hi, .int .i64 a.Y.Lo, .int .i64 a.Y.Hi] : List C).drop j).take i)) := by
 obtain ⟨cs, q1, q2⟩ := h.rdP hi
 have q2 : cs = _ := q2
 subst q2
 exact ⟨(), q1⟩
structure Cds where
 c0 : Bool
 c1 : Bool
 c2 : Bool
 c3 : Bool
 c4 : Bool
 c5 : Bool
instance : MK Cds := ⟨fun k => .agg 6 [.bool k.c0, .bool k.c1, .bool k.c2, .bool k.c3, .bool k.c4, .bool k.c5], fun _ => True⟩
instance : MV Cds := ⟨fun k => .agg 6 [.bool k.c0, .bool k.c1, .bool k.c2, .bool k.c3, .bool k.c4, .bool k.c5]⟩
instance : Rp Cds := ⟨6, by omega, fun _ cs a => cs = [.bool a.c0, .bool a.c1, .bool a.c2, .bool a.c3, .bool a.c4, .bool a.c5], fun h => by rw [h]; rfl, fun h _ => h⟩
structure Wk where
 s : Stm
 right : Option (Trh → Option (Cds))
def pawake : Option Bool := some true
def prIn (n : Int) (low : Int) (high : Int) : Option (Bool) := (if low ≤ n then (some (decide (n ≤ high))) else (some false))
def prWithin (r : Rg) (low : Int) (high : Int) : Option (Bool) := (if low ≤ r.Lo then (if r.Lo ≤ r.Hi then (some (decide (r.Hi ≤ high))) else (some false)) else (some false))
def prCount (r : Rg) : Option (Int) := (gd (fitsP .i64 (r.Hi - r.Lo)) (gd (fitsP .i64 ((r.Hi - r.Lo) + (1 : Int))) (some ((r.Hi - r.Lo) + (1 : Int)))))
def prIsRect (s : Stm) (r : Rct) : Option (Bool) := (gd (fitsP .i64 (s.Wide - (1 : Int))) ((prWithin r.X (0 : Int) (s.Wide - (1 : Int))).bind fun r329 => (if r329 = true then (gd (fitsP .i64 (s.High - (1 : Int))) ((prWithin r.Y (0 : Int) (s.High - (1 : Int))).bind fun r338 => (some r338))) else (some false))))
def prIsCard (s : Stm) (c : Crd) : Option (Bool) := ((prIsRect s ({ X := c.X, Y := c.Y } : Rct)).bind fun r356 => (if r356 = true then ((prWithin c.Size (0 : Int) (9 : Int)).bind fun r364 => (if r364 = true then (if c.Hail = true then (some true) else (gd (fitsP .i64 c.Size.Lo) (gd (fitsP .i64 (0 : Int)) (gd (fitsP .i64 c.Size.Hi) (gd (fitsP .i64 (0 : Int)) (some ((decide (c.Size.Lo = (0 : Int))) && (decide (c.Size.Hi = (0 : Int)))))))))) else (some false))) else (some false)))
def prMany (s : Stm) : Option (Int) := ((prCount s.A).bind fun r382 => ((prCount s.B).bind fun r388 => (gd ((0 : Int) ≤ r382) (gd ((0 : Int) ≤ r388) (gd (fitsP .i64 (r382 * r388)) ((prCount s.Half).bind fun r397 => (gd ((0 : Int) ≤ (r382 * r388)) (gd ((0 : Int) ≤ r397) (gd (fitsP .i64 ((r382 * r388) * r397)) ((prCount s.Peak).bind fun r406 => (gd ((0 : Int) ≤ ((r382 * r388) * r397)) (gd ((0 : Int) ≤ r406) (gd (fitsP .i64 (((r382 * r388) * r397) * r406)) (some (((r382 * r388) * r397) * r406)))))))))))))))
def prFault_L0 (s : Stm) : Nat → Int → Option (Int)
 | 0, _ => none
 | d464 + 1, x34 => (if x34 < (s.Cards.length : Int) then ((idx s.Cards x34).bind fun v466 => ((prIsCard s v466).bind fun r469 => (if r469 = true then (gd (fitsP .i64 (x34 + 1)) (prFault_L0 s d464 (x34 + 1))) else (some (1 : Int))))) else ((prMany s).bind fun r477 => (if (2000 : Int) < r477 then (some (3 : Int)) else (some (0 : Int)))))
def prFault (s : Stm) : Option (Int) := (if (12 : Int) < s.Wide then (some (3 : Int)) else (if (12 : Int) < s.High then (some (3 : Int)) else (if (6 : Int) < (s.Cards.length : Int) then (some (3 : Int)) else (if s.Wide < (2 : Int) then (some (1 : Int)) else (if s.High < (1 : Int) then (some (1 : Int)) else ((prIn s.Fall (0 : Int) (4 : Int)).bind fun r425 => (if r425 = true then (gd (fitsP .i64 (s.High - (1 : Int))) ((prWithin s.A (0 : Int) (s.High - (1 : Int))).bind fun r433 => (if r433 = true then (gd (fitsP .i64 (s.High - (1 : Int))) ((prWithin s.B (0 : Int) (s.High - (1 : Int))).bind fun r441 => (if r441 = true then ((prWithin s.Half (0 : Int) (3 : Int)).bind fun r448 => (if r448 = true then ((prWithin s.Peak (1 : Int) (9 : Int)).bind fun r455 => (if r455 = true then (prFault_L0 s 1000000 (0 : Int)) else (some (1 : Int)))) else (some (1 : Int)))) else (some (1 : Int))))) else (some (1 : Int))))) else (some (1 : Int)))))))))
def prNth (s : Stm) (n : Int) : Option (Trh) := ((prCount s.A).bind fun r502 => (gd ((0 : Int) ≤ n) (gd ((0 : Int) < r502) (gd (fitsP .i64 (n % r502)) (gd (fitsP .i64 (s.A.Lo + (n % r502))) ((prCount s.A).bind fun r514 => (gd ((0 : Int) ≤ n) (gd ((0 : Int) < r514) (gd (fitsP .i64 (n / r514)) ((prCount s.B).bind fun r532 => (gd ((0 : Int) ≤ (n / r514)) (gd ((0 : Int) < r532) (gd (fitsP .i64 ((n / r514) % r532)) (gd (fitsP .i64 (s.B.Lo + ((n / r514) % r532))) ((prCount s.B).bind fun r544 => (gd ((0 : Int) ≤ (n / r514)) (gd ((0 : Int) < r544) (gd (fitsP .i64 ((n / r514) / r544)) ((prCount s.Half).bind fun r562 => (gd ((0 : Int) ≤ ((n / r514) / r544)) (gd ((0 : Int) < r562) (gd (fitsP .i64 (((n / r514) / r544) % r562)) (gd (fitsP .i64 (s.Half.Lo + (((n / r514) / r544) % r562))) ((prCount s.Half).bind fun r574 => (gd ((0 : Int) ≤ ((n / r514) / r544)) (gd ((0 : Int) < r574) (gd (fitsP .i64 (((n / r514) / r544) / r574)) (gd (fitsP .i64 (s.Peak.Lo + (((n / r514) / r544) / r574))) (some ({ A := (s.A.Lo + (n % r502)), B := (s.B.Lo + ((n / r514) % r532)), Half := (s.Half.Lo + (((n / r514) / r544) % r562)), Peak := (s.Peak.Lo + (((n / r514) / r544) / r574)) } : Trh))))))))))))))))))))))))))))))
def prDistance (s : Stm) (t : Trh) (x : Int) (y : Int) : Option (Int) := (gd (fitsP .i64 (s.Wide - (1 : Int))) (gd ((0 : Int) ≤ (s.Wide - (1 : Int))) (gd ((0 : Int) ≤ y) (gd (fitsP .i64 ((s.Wide - (1 : Int)) * y)) (gd (fitsP .i64 ((s.Wide - (1 : Int)) - x)) (gd ((0 : Int) ≤ t.A) (gd ((0 : Int) ≤ ((s.Wide - (1 : Int)) - x)) (gd (fitsP .i64 (t.A * ((s.Wide - (1 : Int)) - x))) (gd (fitsP .i64 (((s.Wide - (1 : Int)) * y) - (t.A * ((s.Wide - (1 : Int)) - x)))) (gd ((0 : Int) ≤ t.B) (gd ((0 : Int) ≤ x) (gd (fitsP .i64 (t.B * x)) (gd (fitsP .i64 ((((s.Wide - (1 : Int)) * y) - (t.A * ((s.Wide - (1 : Int)) - x))) - (t.B * x))) (if ((((s.Wide - (1 : Int)) * y) - (t.A * ((s.Wide - (1 : Int)) - x))) - (t.B * x)) < (0 : Int) then (gd (fitsP .i64 ((0 : Int) - ((((s.Wide - (1 : Int)) * y) - (t.A * ((s.Wide - (1 : Int)) - x))) - (t.B * x)))) (some ((0 : Int) - ((((s.Wide - (1 : Int)) * y) - (t.A * ((s.Wide - (1 : Int)) - x))) - (t.B * x))))) else (some ((((s.Wide - (1 : Int)) * y) - (t.A * ((s.Wide - (1 : Int)) - x))) - (t.B * x)))))))))))))))))
def prHit (s : Stm) (t : Trh) (x : Int) (y : Int) : Option (Bool) := ((prDistance s t x y).bind fun r644 => (gd (fitsP .i64 (s.Wide - (1 : Int))) (gd ((0 : Int) ≤ (s.Wide - (1 : Int))) (gd ((0 : Int) ≤ t.Half) (gd (fitsP .i64 ((s.Wide - (1 : Int)) * t.Half)) (some (decide (r644 ≤ ((s.Wide - (1 : Int)) * t.Half)))))))))
def prSize (s : Stm) (t : Trh) (x : Int) (y : Int) : Option (Int) := ((prHit s t x y).bind fun r666 => (if r666 = true then ((prDistance s t x y).bind fun r674 => (gd (fitsP .i64 (s.Wide - (1 : Int))) (gd ((0 : Int) ≤ r674) (gd ((0 : Int) < (s.Wide - (1 : Int))) (gd (fitsP .i64 (r674 / (s.Wide - (1 : Int)))) (gd ((0 : Int) ≤ s.Fall) (gd ((0 : Int) ≤ (r674 / (s.Wide - (1 : Int)))) (gd (fitsP .i64 (s.Fall * (r674 / (s.Wide - (1 : Int))))) (gd (fitsP .i64 (t.Peak - (s.Fall * (r674 / (s.Wide - (1 : Int)))))) (some (max (1 : Int) (t.Peak - (s.Fall * (r674 / (s.Wide - (1 : Int)))))))))))))))) else (some (0 : Int))))
def prRight_L1 (s : Stm) (t : Trh) (c : Crd) (x7 : Int) (K_R4 : Bool → Int → Option (Bool)) : Nat → Bool → Int → Option (Bool)
 | 0, _, _ => none
 | d713 + 1, b12, x14 => (if x14 ≤ c.Y.Hi then (if c.Hail = true then ((prHit s t x7 x14).bind fun r716 => (if r716 = true then ((prSize s t x7 x14).bind fun r725 => ((prIn r725 c.Size.Lo c.Size.Hi).bind fun r733 => (if r733 = true then (some true) else (gd (fitsP .i64 (x14 + 1)) (prRight_L1 s t c x7 K_R4 d713 b12 (x14 + 1)))))) else (gd (fitsP .i64 (x14 + 1)) (prRight_L1 s t c x7 K_R4 d713 b12 (x14 + 1))))) else ((prHit s t x7 x14).bind fun r744 => (if r744 = true then (gd (fitsP .i64 (x14 + 1)) (prRight_L1 s t c x7 K_R4 d713 b12 (x14 + 1))) else (some true)))) else (gd (fitsP .i64 (x7 + 1)) (K_R4 b12 (x7 + 1))))
def prRight_L0 (s : Stm) (t : Trh) (c : Crd) : Nat → Bool → Int → Option (Bool)
 | 0, _, _ => none
 | d709 + 1, b5, x7 => (if x7 ≤ c.X.Hi then (prRight_L1 s t c x7 (prRight_L0 s t c d709) 1000000 b5 c.Y.Lo) else (some false))
def prRight (s : Stm) (t : Trh) (c : Crd) : Option (Bool) := (prRight_L0 s t c 1000000 false c.X.Lo)
def prAll_L1 (s : Stm) (l762 : List Int) (x3 : Int) (K_R1 : (List Int) → Int → Option (List Int)) : Nat → Int → Int → Option (List Int)
 | 0, _, _ => none
 | d774 + 1, x21, x22 => (if x22 < (s.Cards.length : Int) then ((prNth s x3).bind fun r776 => ((idx s.Cards x22).bind fun v782 => ((prRight s r776 v782).bind fun r785 => (if r785 = true then (gd ((0 : Int) ≤ (1 : Int)) (gd ((0 : Int) ≤ (wrapZ .u64 x22)) (gd ((wrapZ .u64 x22) ≤ (64 : Int)) (gd (fitsP .i64 ((1 : Int) * ((2 : Int) ^ (Int.toNat (wrapZ .u64 x22))))) (gd ((0 : Int) ≤ x21) (gd ((0 : Int) ≤ ((1 : Int) * ((2 : Int) ^ (Int.toNat (wrapZ .u64 x22))))) (gd (fitsP .i64 x21) (gd (fitsP .i64 ((1 : Int) * ((2 : Int) ^ (Int.toNat (wrapZ .u64 x22))))) (gd (fitsP .i64 (((Nat.lor (Int.toNat x21) (Int.toNat ((1 : Int) * ((2 : Int) ^ (Int.toNat (wrapZ .u64 x22)))))) : Nat) : Int)) (gd (fitsP .i64 (x22 + 1)) (prAll_L1 s l762 x3 K_R1 d774 (((Nat.lor (Int.toNat x21) (Int.toNat ((1 : Int) * ((2 : Int) ^ (Int.toNat (wrapZ .u64 x22)))))) : Nat) : Int) (x22 + 1)))))))))))) else (gd (fitsP .i64 (x22 + 1)) (prAll_L1 s l762 x3 K_R1 d774 x21 (x22 + 1))))))) else (gd (l762.length < 1048576) (gd (fitsP .i64 (x3 + 1)) (K_R1 (l762 ++ [x21]) (x3 + 1)))))
def prAll_L0 (s : Stm) : Nat → (List Int) → Int → Option (List Int)
 | 0, _, _ => none
 | d764 + 1, l762, x3 => ((prMany s).bind fun r765 => (if x3 < r765 then (prAll_L1 s l762 x3 (prAll_L0 s d764) 1000000 (0 : Int) (0 : Int)) else (some l762)))
def prAll (s : Stm) : Option (List Int) := (prAll_L0 s 1000000 [] (0 : Int))
def prEvery (s : Stm) : Option (Int) := (gd ((0 : Int) ≤ (1 : Int)) (gd ((0 : Int) ≤ (wrapZ .u64 (s.Cards.length : Int))) (gd ((wrapZ .u64 (s.Cards.length : Int)) ≤ (64 : Int)) (gd (fitsP .i64 ((1 : Int) * ((2 : Int) ^ (Int.toNat (wrapZ .u64 (s.Cards.length : Int)))))) (gd (fitsP .i64 (((1 : Int) * ((2 : Int) ^ (Int.toNat (wrapZ .u64 (s.Cards.length : Int))))) - (1 : Int))) (some (((1 : Int) * ((2 : Int) ^ (Int.toNat (wrapZ .u64 (s.Cards.length : Int))))) - (1 : Int))))))))
def prTruths_L0 (s : Stm) (r847 : List Int) : Nat → (List Trh) → Int → Option (List Trh)
 | 0, _, _ => none
 | d860 + 1, l858, x18 => (if x18 < (r847.length : Int) then ((idx r847 x18).bind fun x862 => ((prEvery s).bind fun r864 => (if x862 = r864 then ((prNth s x18).bind fun r871 => (gd (l858.length < 1048576) (gd (fitsP .i64 (x18 + 1)) (prTruths_L0 s r847 d860 (l858 ++ [r871]) (x18 + 1))))) else (gd (fitsP .i64 (x18 + 1)) (prTruths_L0 s r847 d860 l858 (x18 + 1)))))) else (some l858))
def prTruths (s : Stm) : Option (List Trh) := ((prAll s).bind fun r847 => (prTruths_L0 s r847 (r847.length + 1) [] (0 : Int)))
def prWorst_L0 (s : Stm) (l : List Trh) (x : Int) (y : Int) : Nat → Int → Int → Option (Int)
 | 0, _, _ => none
 | d1131 + 1, x2, x3 => (if x3 < (l.length : Int) then ((idx l x3).bind fun v1133 => ((prHit s v1133 x y).bind fun r1136 => (if r1136 = true then (gd (fitsP .i64 (x2 + 1)) (gd (fitsP .i64 (x3 + 1)) (prWorst_L0 s l x y d1131 (x2 + 1) (x3 + 1)))) else (gd (fitsP .i64 (x3 + 1)) (prWorst_L0 s l x y d1131 x2 (x3 + 1)))))) else (gd (fitsP .i64 ((l.length : Int) - x2)) (some (max x2 ((l.length : Int) - x2)))))
def prWorst (s : Stm) (l : List Trh) (x : Int) (y : Int) : Option (Int) := (prWorst_L0 s l x y (l.length + 1) (0 : Int) (0 : Int))
def plTo (r : Rg) : Option (Rg) := (some r)
def plStorm_L0 (s : Stm) : Nat → Int → Int → Int → Int → Int → Int → Int → Int → Int → Int → Int → (List Crd) → Int → Option (Stm)
 | 0, _, _, _, _, _, _, _, _, _, _, _, _, _ => none
 | d1469 + 1, y1455, y1456, y1457, y1458, y1459, y1460, y1461, y1462, y1463, y1464, y1465, y1466, x33 => (if x33 < (s.Cards.length : Int) then ((idx s.Cards x33).bind fun v1471 => ((plTo v1471.X).bind fun r1490 => ((plTo v1471.Y).bind fun r1499 => ((plTo v1471.Size).bind fun r1508 => (gd (y1466.length < 1048576) (gd (fitsP .i64 (x33 + 1)) (plStorm_L0 s d1469 y1455 y1456 y1457 y1458 y1459 y1460 y1461 y1462 y1463 y1464 y1465 (y1466 ++ [({ X := r1490, Y := r1499, Hail := v1471.Hail, Size := r1508 } : Crd)]) (x33 + 1)))))))) else (some ({ Wide := y1455, High := y1456, Fall := y1457, A := ({ Lo := y1458, Hi := y1459 } : Rg), B := ({ Lo := y1460, Hi := y1461 } : Rg), Half := ({ Lo := y1462, Hi := y1463 } : Rg), Peak := ({ Lo := y1464, Hi := y1465 } : Rg), Cards := y1466 } : Stm)))
def plStorm (s : Stm) : Option (Stm) := ((plTo s.A).bind fun r1408 => ((plTo s.B).bind fun r1416 => ((plTo s.Half).bind fun r1424 => ((plTo s.Peak).bind fun r1432 => (plStorm_L0 s 1000000 s.Wide s.High s.Fall r1408.Lo r1408.Hi r1416.Lo r1416.Hi r1424.Lo r1424.Hi r1432.Lo r1432.Hi [] (0 : Int))))))
def plThin (s : Stm) : Option (Bool) := (if (s.Cards.length : Int) ≤ (9 : Int) then ((prFault s).bind fun r1635 => (if r1635 = 0 then ((prMany s).bind fun r1642 => (some (decide (r1642 ≤ 300)))) else (some true))) else (some false))
def plReady (s : Stm) : Option (Bool) := ((plThin s).bind fun r1686 => (if r1686 = true then ((prFault s).bind fun r1693 => (some (decide (r1693 = 0)))) else (some false)))
def plBox (s : Stm) (w : Int) : Option (Rct) := (gd ((0 : Int) ≤ (wrapZ .i64 w)) (gd ((0 : Int) < s.Wide) (gd (fitsP .i64 ((wrapZ .i64 w) % s.Wide)) (gd ((0 : Int) ≤ (wrapZ .i64 w)) (gd ((0 : Int) < (16 : Int)) (gd (fitsP .i64 ((wrapZ .i64 w) / (16 : Int))) (gd ((0 : Int) ≤ ((wrapZ .i64 w) / (16 : Int))) (gd ((0 : Int) < s.High) (gd (fitsP .i64 (((wrapZ .i64 w) / (16 : Int)) % s.High)) (gd (fitsP .i64 (s.Wide - (1 : Int))) (gd ((0 : Int) ≤ (wrapZ .i64 w)) (gd ((0 : Int) < (256 : Int)) (gd (fitsP .i64 ((wrapZ .i64 w) / (256 : Int))) (gd ((0 : Int) ≤ ((wrapZ .i64 w) / (256 : Int))) (gd ((0 : Int) < (4 : Int)) (gd (fitsP .i64 (((wrapZ .i64 w) / (256 : Int)) % (4 : Int))) (gd (fitsP .i64 (((wrapZ .i64 w) % s.Wide) + (((wrapZ .i64 w) / (256 : Int)) % (4 : Int)))) (gd (fitsP .i64 (s.High - (1 : Int))) (gd ((0 : Int) ≤ (wrapZ .i64 w)) (gd ((0 : Int) < (1024 : Int)) (gd (fitsP .i64 ((wrapZ .i64 w) / (1024 : Int))) (gd ((0 : Int) ≤ ((wrapZ .i64 w) / (1024 : Int))) (gd ((0 : Int) < (4 : Int)) (gd (fitsP .i64 (((wrapZ .i64 w) / (1024 : Int)) % (4 : Int))) (gd (fitsP .i64 ((((wrapZ .i64 w) / (16 : Int)) % s.High) + (((wrapZ .i64 w) / (1024 : Int)) % (4 : Int)))) (some ({ X := ({ Lo := ((wrapZ .i64 w) % s.Wide), Hi := (min (s.Wide - (1 : Int)) (((wrapZ .i64 w) % s.Wide) + (((wrapZ .i64 w) / (256 : Int)) % (4 : Int)))) } : Rg), Y := ({ Lo := (((wrapZ .i64 w) / (16 : Int)) % s.High), Hi := (min (s.High - (1 : Int)) ((((wrapZ .i64 w) / (16 : Int)) % s.High) + (((wrapZ .i64 w) / (1024 : Int)) % (4 : Int)))) } : Rg) } : Rct)))))))))))))))))))))))))))
def phas (r : Rg) (n : Int) : Option (Bool) := (if r.Lo ≤ n then (some (decide (n ≤ r.Hi))) else (some false))
def pcount (r : Rg) : Option (Int) := (gd (fitsP .i64 (r.Hi - r.Lo)) (gd (fitsP .i64 ((r.Hi - r.Lo) + (1 : Int))) (some ((r.Hi - r.Lo) + (1 : Int)))))
def pwithin (r : Rg) (low : Int) (high : Int) : Option (Bool) := (if low ≤ r.Lo then (if r.Lo ≤ r.Hi then (some (decide (r.Hi ≤ high))) else (some false)) else (some false))
def prect (c : Crd) : Option (Rct) := (some ({ X := c.X, Y := c.Y } : Rct))
def ptooMany (s : Stm) : Option (Bool) := (if (12 : Int) < s.Wide then (some true) else (if (12 : Int) < s.High then (some true) else (some (decide ((6 : Int) < (s.Cards.length : Int))))))
def phasRect (s : Stm) (r : Rct) : Option (Bool) := (gd (fitsP .i64 (s.Wide - (1 : Int))) ((pwithin r.X (0 : Int) (s.Wide - (1 : Int))).bind fun r2337 => (if r2337 = true then (gd (fitsP .i64 (s.High - (1 : Int))) ((pwithin r.Y (0 : Int) (s.High - (1 : Int))).bind fun r2346 => (some r2346))) else (some false))))
def pvalidCard (w : Wk) (c : Crd) : Option (Bool) := ((prect c).bind fun r2364 => ((phasRect w.s r2364).bind fun r2371 => (if r2371 = true then ((pwithin c.Size (0 : Int) (9 : Int)).bind fun r2379 => (if r2379 = true then (if c.Hail = true then (some true) else (gd (fitsP .i64 c.Size.Lo) (gd (fitsP .i64 (0 : Int)) (gd (fitsP .i64 c.Size.Hi) (gd (fitsP .i64 (0 : Int)) (some ((decide (c.Size.Lo = (0 : Int))) && (decide (c.Size.Hi = (0 : Int)))))))))) else (some false))) else (some false))))
def peachC1 (x : Crd) (passes : Crd → Option (Bool)) : Option (Bool) := ((passes x).bind fun r2397 => (some (!r2397)))
def pindexC_L0 (l : List Crd) (p : Crd → Option (Bool)) : Nat → Int → Option (Int)
 | 0, _ => none
 | d2405 + 1, x2 => (if x2 < (l.length : Int) then ((idx l x2).bind fun v2407 => ((p v2407).bind fun r2410 => (if r2410 = true then (some x2) else (gd (fitsP .i64 (x2 + 1)) (pindexC_L0 l p d2405 (x2 + 1)))))) else (some (-1 : Int)))
def pindexC (l : List Crd) (p : Crd → Option (Bool)) : Option (Int) := (pindexC_L0 l p (l.length + 1) (0 : Int))
def pcontainsC (l : List Crd) (p : Crd → Option (Bool)) : Option (Bool) := ((pindexC l p).bind fun r2417 => (some (decide ((0 : Int) ≤ r2417))))
def peachC (l : List Crd) (passes : Crd → Option (Bool)) : Option (Bool) := ((pcontainsC l (fun a2431 => peachC1 a2431 passes)).bind fun r2433 => (some (!r2433)))
def peachR1 (x : Rct) (passes : Rct → Option (Bool)) : Option (Bool) := ((passes x).bind fun r2443 => (some (!r2443)))
def pindexR_L0 (l : List Rct) (p : Rct → Option (Bool)) : Nat → Int → Option (Int)
 | 0, _ => none
 | d2451 + 1, x2 => (if x2 < (l.length : Int) then ((idx l x2).bind fun v2453 => ((p v2453).bind fun r2456 => (if r2456 = true then (some x2) else (gd (fitsP .i64 (x2 + 1)) (pindexR_L0 l p d2451 (x2 + 1)))))) else (some (-1 : Int)))
def pindexR (l : List Rct) (p : Rct → Option (Bool)) : Option (Int) := (pindexR_L0 l p (l.length + 1) (0 : Int))
def pcontainsR (l : List Rct) (p : Rct → Option (Bool)) : Option (Bool) := ((pindexR l p).bind fun r2463 => (some (decide ((0 : Int) ≤ r2463))))
def peachR (l : List Rct) (passes : Rct → Option (Bool)) : Option (Bool) := ((pcontainsR l (fun a2477 => peachR1 a2477 passes)).bind fun r2479 => (some (!r2479)))
def pvalid (w : Wk) : Option (Bool) := (if (2 : Int) ≤ w.s.Wide then (if (1 : Int) ≤ w.s.High then (if (0 : Int) ≤ w.s.Fall then (if w.s.Fall ≤ (4 : Int) then (gd (fitsP .i64 (w.s.High - (1 : Int))) ((pwithin w.s.A (0 : Int) (w.s.High - (1 : Int))).bind fun r2494 => (if r2494 = true then (gd (fitsP .i64 (w.s.High - (1 : Int))) ((pwithin w.s.B (0 : Int) (w.s.High - (1 : Int))).bind fun r2502 => (if r2502 = true then ((pwithin w.s.Half (0 : Int) (3 : Int)).bind fun r2509 => (if r2509 = true then ((pwithin w.s.Peak (1 : Int) (9 : Int)).bind fun r2516 => (if r2516 = true then ((peachC w.s.Cards (fun a2523 => pvalidCard w a2523)).bind fun r2525 => (some r2525)) else (some false))) else (some false))) else (some false)))) else (some false)))) else (some false)) else (some false)) else (some false)) else (some false))
def pinAll (s : Stm) : Option (Int) := ((pcount s.A).bind fun r2536 => ((pcount s.B).bind fun r2542 => (gd ((0 : Int) ≤ r2536) (gd ((0 : Int) ≤ r2542) (gd (fitsP .i64 (r2536 * r2542)) ((pcount s.Half).bind fun r2551 => (gd ((0 : Int) ≤ (r2536 * r2542)) (gd ((0 : Int) ≤ r2551) (gd (fitsP .i64 ((r2536 * r2542) * r2551)) ((pcount s.Peak).bind fun r2560 => (gd ((0 : Int) ≤ ((r2536 * r2542) * r2551)) (gd ((0 : Int) ≤ r2560) (gd (fitsP .i64 (((r2536 * r2542) * r2551) * r2560)) (some (((r2536 * r2542) * r2551) * r2560)))))))))))))))
def pcheck (s : Stm) : Option (Int) := ((ptooMany s).bind fun r2616 => (if r2616 = true then (some (3 : Int)) else ((pvalid ({ s := s, right := none } : Wk)).bind fun r2623 => (if r2623 = true then ((pinAll s).bind fun r2630 => (if (2000 : Int) < r2630 then (some (3 : Int)) else (some (0 : Int)))) else (some (1 : Int))))))
def pdistance (s : Stm) (t : Trh) (x : Int) (y : Int) : Option (Int) := (gd (fitsP .i64 (s.Wide - (1 : Int))) (gd ((0 : Int) ≤ (s.Wide - (1 : Int))) (gd ((0 : Int) ≤ y) (gd (fitsP .i64 ((s.Wide - (1 : Int)) * y)) (gd (fitsP .i64 ((s.Wide - (1 : Int)) - x)) (gd ((0 : Int) ≤ t.A) (gd ((0 : Int) ≤ ((s.Wide - (1 : Int)) - x)) (gd (fitsP .i64 (t.A * ((s.Wide - (1 : Int)) - x))) (gd ((0 : Int) ≤ t.B) (gd ((0 : Int) ≤ x) (gd (fitsP .i64 (t.B * x)) (gd (fitsP .i64 ((t.A * ((s.Wide - (1 : Int)) - x)) + (t.B * x))) (gd (fitsP .i64 (((s.Wide - (1 : Int)) * y) - ((t.A * ((s.Wide - (1 : Int)) - x)) + (t.B * x)))) (gd (fitsP .i64 ((0 : Int) - (((s.Wide - (1 : Int)) * y) - ((t.A * ((s.Wide - (1 : Int)) - x)) + (t.B * x))))) (some (max (((s.Wide - (1 : Int)) * y) - ((t.A * ((s.Wide - (1 : Int)) - x)) + (t.B * x))) ((0 : Int) - (((s.Wide - (1 : Int)) * y) - ((t.A * ((s.Wide - (1 : Int)) - x)) + (t.B * x))))))))))))))))))))
def phits (s : Stm) (t : Trh) (x : Int) (y : Int) : Option (Bool) := ((pdistance s t x y).bind fun r2673 => (gd (fitsP .i64 (s.Wide - (1 : Int))) (gd ((0 : Int) ≤ (s.Wide - (1 : Int))) (gd ((0 : Int) ≤ t.Half) (gd (fitsP .i64 ((s.Wide - (1 : Int)) * t.Half)) (some (decide (r2673 ≤ ((s.Wide - (1 : Int)) * t.Half)))))))))
def psize (s : Stm) (t : Trh) (x : Int) (y : Int) : Option (Int) := ((phits s t x y).bind fun r2695 => (if r2695 = true then ((pdistance s t x y).bind fun r2703 => (gd (fitsP .i64 (s.Wide - (1 : Int))) (gd ((0 : Int) ≤ r2703) (gd ((0 : Int) < (s.Wide - (1 : Int))) (gd (fitsP .i64 (r2703 / (s.Wide - (1 : Int)))) (gd ((0 : Int) ≤ s.Fall) (gd ((0 : Int) ≤ (r2703 / (s.Wide - (1 : Int)))) (gd (fitsP .i64 (s.Fall * (r2703 / (s.Wide - (1 : Int))))) (gd (fitsP .i64 (t.Peak - (s.Fall * (r2703 / (s.Wide - (1 : Int)))))) (some (max (1 : Int) (t.Peak - (s.Fall * (r2703 / (s.Wide - (1 : Int)))))))))))))))) else (some (0 : Int))))
def pnumbersI_L0 (r : Rg) (r2718 : Int) : Nat → Int → Option (List Int)
 | 0, _ => none
 | d2729 + 1, x6 => (if x6 < r2718 then (gd (fitsP .i64 (r.Lo + x6)) (((gd (fitsP .i64 (x6 + 1)) (pnumbersI_L0 r r2718 d2729 (x6 + 1)))).bind fun r2732 => some ((r.Lo + x6) :: r2732))) else (some []))
def pnumbersI (r : Rg) : Option (List Int) := ((pcount r).bind fun r2718 => (pnumbersI_L0 r r2718 (Int.toNat r2718 + 1) (0 : Int)))
def pnumbers (r : Rg) : Option (List Int) := ((pnumbersI r).bind fun l2755 => (some l2755))
def pplacesI_L0_xret : Option (List (Int × Int)) := (some [])
def pplacesI_L1_xret : Option (List (Int × Int)) := (pplacesI_L0_xret)
def pplacesI_L1 (a2783 : Int) (K_X0 : Option (List (Int × Int))) : List Int → Option (List (Int × Int))
 | [] => (K_X0)
 | a2844 :: q2845 => ((((pplacesI_L1 a2783 K_X0 q2845))).bind fun r2867 => some ((a2783, a2844) :: r2867))
def pplacesI_L0 (r : Rct) : List Int → Option (List (Int × Int))
 | [] => (some [])
 | a2783 :: q2784 => ((pnumbers r.Y).bind fun r2821 => (pplacesI_L1 a2783 ((pplacesI_L0 r q2784)) r2821))
def pplacesI (r : Rct) : Option (List (Int × Int)) := ((pnumbers r.X).bind fun r2764 => (pplacesI_L0 r r2764))
def pplaces (r : Rct) : Option (List (Int × Int)) := ((pplacesI r).bind fun l2905 => (some l2905))
def pisRight_L0_xret (y2958 : Bool) : Option (Bool) := (some y2958)
def pisRight_L0 (s : Stm) (c : Crd) (t : Trh) : List (Int × Int) → Bool → Option (Bool)
 | [], _ => (some false)
 | a2964 :: q2965, y2958 => ((phits s t a2964.1 a2964.2).bind fun r2987 => (if (r2987 == c.Hail) = true then ((psize s t a2964.1 a2964.2).bind fun r2998 => ((phas c.Size r2998).bind fun r3008 => (if r3008 = true then (pisRight_L0_xret true) else ((pisRight_L0 s c t q2965) y2958)))) else ((pisRight_L0 s c t q2965) y2958)))
def pisRight (s : Stm) (c : Crd) (t : Trh) : Option (Bool) := ((prect c).bind fun r2934 => ((pplaces r2934).bind fun r2943 => (pisRight_L0 s c t r2943 false)))
def pgrid (s : Stm) : Option (Rct) := (gd (fitsP .i64 (s.Wide - (1 : Int))) (gd (fitsP .i64 (s.High - (1 : Int))) (some ({ X := ({ Lo := (0 : Int), Hi := (s.Wide - (1 : Int)) } : Rg), Y := ({ Lo := (0 : Int), Hi := (s.High - (1 : Int)) } : Rg) } : Rct))))
def pupTo_L0 (last : Int) : Nat → Bool → Bool → Bool → Bool → Bool → Bool → Int → Option (Cds)
 | 0, _, _, _, _, _, _, _ => none
 | d3196 + 1, y3190, y3191, y3192, y3193, y3194, y3195, x3 => (if x3 < (last + 1) then (gd (0 ≤ x3 ∧ x3 < 6) (gd (fitsP .i64 (x3 + 1)) (pupTo_L0 last d3196 (sti x3 0 true y3190) (sti x3 1 true y3191) (sti x3 2 true y3192) (sti x3 3 true y3193) (sti x3 4 true y3194) (sti x3 5 true y3195) (x3 + 1)))) else (some ({ c0 := y3190, c1 := y3191, c2 := y3192, c3 := y3193, c4 := y3194, c5 := y3195 } : Cds)))
def pupTo (last : Int) : Option (Cds) := (gd (fitsP .i64 (last + 1)) (pupTo_L0 last (Int.toNat (last + 1) + 1) false false false false false false (0 : Int)))
def pamong_L0 (c : Cds) : Nat → Bool → Bool → Bool → Bool → Bool → Bool → Int → Option (Cds)
 | 0, _, _, _, _, _, _, _ => none
 | d3238 + 1, y3232, y3233, y3234, y3235, y3236, y3237, x4 => (if x4 < 6 then ((idx ([y3232, y3233, y3234, y3235, y3236, y3237] : List Bool) x4).bind fun v3241 => (if v3241 = true then ((idx ([c.c0, c.c1, c.c2, c.c3, c.c4, c.c5] : List Bool) x4).bind fun v3244 => (gd (0 ≤ x4 ∧ x4 < 6) (gd (fitsP .i64 (x4 + 1)) (pamong_L0 c d3238 (sti x4 0 v3244 y3232) (sti x4 1 v3244 y3233) (sti x4 2 v3244 y3234) (sti x4 3 v3244 y3235) (sti x4 4 v3244 y3236) (sti x4 5 v3244 y3237) (x4 + 1))))) else (gd (0 ≤ x4 ∧ x4 < 6) (gd (fitsP .i64 (x4 + 1)) (pamong_L0 c d3238 (sti x4 0 false y3232) (sti x4 1 false y3233) (sti x4 2 false y3234) (sti x4 3 false y3235) (sti x4 4 false y3236) (sti x4 5 false y3237) (x4 + 1)))))) else (some ({ c0 := y3232, c1 := y3233, c2 := y3234, c3 := y3235, c4 := y3236, c5 := y3237 } : Cds)))
def pamong (c : Cds) (these : Cds) : Option (Cds) := (pamong_L0 c (Int.toNat (6 : Int) + 1) these.c0 these.c1 these.c2 these.c3 these.c4 these.c5 (0 : Int))
def prightCards_L0 (w : Wk) (t : Trh) : Nat → Bool → Bool → Bool → Bool → Bool → Bool → Int → Option (Cds)
 | 0, _, _, _, _, _, _, _ => none
 | d3304 + 1, y3298, y3299, y3300, y3301, y3302, y3303, x6 => (if x6 < (w.s.Cards.length : Int) then ((idx w.s.Cards x6).bind fun v3306 => ((pisRight w.s v3306 t).bind fun r3327 => (gd (0 ≤ x6 ∧ x6 < 6) (gd (fitsP .i64 (x6 + 1)) (prightCards_L0 w t d3304 (sti x6 0 r3327 y3298) (sti x6 1 r3327 y3299) (sti x6 2 r3327 y3300) (sti x6 3 r3327 y3301) (sti x6 4 r3327 y3302) (sti x6 5 r3327 y3303) (x6 + 1)))))) else (some ({ c0 := y3298, c1 := y3299, c2 := y3300, c3 := y3301, c4 := y3302, c5 := y3303 } : Cds)))
def prightCards (w : Wk) (t : Trh) : Option (Cds) := (prightCards_L0 w t (w.s.Cards.length + 1) false false false false false false (0 : Int))
def pallCards (w : Wk) : Option (Cds) := (gd (fitsP .i64 ((w.s.Cards.length : Int) - (1 : Int))) ((pupTo ((w.s.Cards.length : Int) - (1 : Int))).bind fun r3368 => (some r3368)))
def pchoicesI_L0_xret : Option (List Trh) := (some [])
def pchoicesI_L1_xret : Option (List Trh) := (pchoicesI_L0_xret)
def pchoicesI_L2_xret : Option (List Trh) := (pchoicesI_L1_xret)
def pchoicesI_L3_xret : Option (List Trh) := (pchoicesI_L2_xret)
def pchoicesI_L3 (a3406 : Int) (a3467 : Int) (a3538 : Int) (K_X2 : Option (List Trh)) : List Int → Option (List Trh)
 | [] => (K_X2)
 | a3619 :: q3620 => ((((pchoicesI_L3 a3406 a3467 a3538 K_X2 q3620))).bind fun r3646 => some (({ A := a3406, B := a3467, Half := a3538, Peak := a3619 } : Trh) :: r3646))
def pchoicesI_L2 (s : Stm) (a3406 : Int) (a3467 : Int) (K_X1 : Option (List Trh)) : List Int → Option (List Trh)
 | [] => (K_X1)
 | a3538 :: q3539 => ((pnumbers s.Peak).bind fun r3588 => (pchoicesI_L3 a3406 a3467 a3538 ((pchoicesI_L2 s a3406 a3467 K_X1 q3539)) r3588))
def pchoicesI_L1 (s : Stm) (a3406 : Int) (K_X0 : Option (List Trh)) : List Int → Option (List Trh)
 | [] => (K_X0)
 | a3467 :: q3468 => ((pnumbers s.Half).bind fun r3511 => (pchoicesI_L2 s a3406 a3467 ((pchoicesI_L1 s a3406 K_X0 q3468)) r3511))
def pchoicesI_L0 (s : Stm) : List Int → Option (List Trh)
 | [] => (some [])
 | a3406 :: q3407 => ((pnumbers s.B).bind fun r3444 => (pchoicesI_L1 s a3406 ((pchoicesI_L0 s q3407)) r3444))
def pchoicesI (s : Stm) : Option (List Trh) := ((pnumbers s.A).bind fun r3387 => (pchoicesI_L0 s r3387))
def pchoices (s : Stm) : Option (List Trh) := ((pchoicesI s).bind fun l3700 => (some l3700))
def popen_L0 (s : Stm) : List Trh → (Option (Trh → Option (Cds))) → Option (Wk)
 | [], w3752 => (some ({ s := s, right := w3752 } : Wk))
 | a3754 :: q3755, w3752 => ((prightCards ({ s := s, right := w3752 } : Wk) a3754).bind fun r3807 => (gd (MK.fit a3754) ((mset w3752 a3754 r3807).bind fun w3819 => ((popen_L0 s q3755) w3819))))
def popen (s : Stm) : Option (Wk) := ((pchoices s).bind fun r3737 => (popen_L0 s r3737 (some fun _ => none : Option (Trh → Option (Cds)))))
def ptruthsI_L0_xret : Option (List Trh) := (some [])
def ptruthsI_L0 (w : Wk) (r3856 : Cds) : List Trh → Option (List Trh)
 | [] => (some [])
 | a3898 :: q3899 => (gd (MK.fit a3898) (mcase (mget w.right a3898) (if ((false == r3856.c0) && ((false == r3856.c1) && ((false == r3856.c2) && ((false == r3856.c3) && ((false == r3856.c4) && (false == r3856.c5)))))) = true then ((((ptruthsI_L0 w r3856 q3899))).bind fun r3943 => some (a3898 :: r3943)) else ((ptruthsI_L0 w r3856 q3899))) fun w3941 => (if ((w3941.c0 == r3856.c0) && ((w3941.c1 == r3856.c1) && ((w3941.c2 == r3856.c2) && ((w3941.c3 == r3856.c3) && ((w3941.c4 == r3856.c4) && (w3941.c5 == r3856.c5)))))) = true then ((((ptruthsI_L0 w r3856 q3899))).bind fun r3965 => some (a3898 :: r3965)) else ((ptruthsI_L0 w r3856 q3899)))))
def ptruthsI (w : Wk) : Option (List Trh) := ((pallCards w).bind fun r3856 => ((pchoices w.s).bind fun r3877 => (ptruthsI_L0 w r3856 r3877)))
def ptruths (w : Wk) : Option (List Trh) := ((ptruthsI w).bind fun l3999 => (some l3999))
def pcanHold_L0_xret (y4033 : Bool) : Option (Bool) := (some y4033)
def pcanHold_L0 (w : Wk) (these : Cds) : List Trh → Bool → Option (Bool)
 | [], _ => (some false)
 | a4039 :: q4040, y4033 => (gd (MK.fit a4039) (mcase (mget w.right a4039) ((pamong ({ c0 := false, c1 := false, c2 := false, c3 := false, c4 := false, c5 := false } : Cds) these).bind fun r4083 => (if ((r4083.c0 == these.c0) && ((r4083.c1 == these.c1) && ((r4083.c2 == these.c2) && ((r4083.c3 == these.c3) && ((r4083.c4 == these.c4) && (r4083.c5 == these.c5)))))) = true then (pcanHold_L0_xret true) else ((pcanHold_L0 w these q4040) y4033))) fun w4082 => ((pamong w4082 these).bind fun r4103 => (if ((r4103.c0 == these.c0) && ((r4103.c1 == these.c1) && ((r4103.c2 == these.c2) && ((r4103.c3 == these.c3) && ((r4103.c4 == these.c4) && (r4103.c5 == these.c5)))))) = true then (pcanHold_L0_xret true) else ((pcanHold_L0 w these q4040) y4033)))))
def pcanHold (w : Wk) (these : Cds) : Option (Bool) := ((pchoices w.s).bind fun r4020 => (pcanHold_L0 w these r4020 false))
def phasTruth (w : Wk) : Option (Bool) := ((pallCards w).bind fun r4139 => ((pcanHold w r4139).bind fun r4145 => (some r4145)))
def popenTrue (s : Stm) (asked : List Rct) : Option (Wk × Int) := ((pcheck s).bind fun r4162 => (if r4162 = 0 then ((peachR asked (fun a4176 => phasRect s a4176)).bind fun r4178 => (if r4178 = true then ((popen s).bind fun r4192 => ((phasTruth r4192).bind fun r4218 => (if r4218 = true then (some (r4192, (0 : Int))) else (some (({ s := ({ Wide := (0 : Int), High := (0 : Int), Fall := (0 : Int), A := ({ Lo := (0 : Int), Hi := (0 : Int) } : Rg), B := ({ Lo := (0 : Int), Hi := (0 : Int) } : Rg), Half := ({ Lo := (0 : Int), Hi := (0 : Int) } : Rg), Peak := ({ Lo := (0 : Int), Hi := (0 : Int) } : Rg), Cards := [] } : Stm), right := none } : Wk), (11 : Int)))))) else (some (({ s := ({ Wide := (0 : Int), High := (0 : Int), Fall := (0 : Int), A := ({ Lo := (0 : Int), Hi := (0 : Int) } : Rg), B := ({ Lo := (0 : Int), Hi := (0 : Int) } : Rg), Half := ({ Lo := (0 : Int), Hi := (0 : Int) } : Rg), Peak := ({ Lo := (0 : Int), Hi := (0 : Int) } : Rg), Cards := [] } : Stm), right := none } : Wk), (2 : Int))))) else (some (({ s := ({ Wide := (0 : Int), High := (0 : Int), Fall := (0 : Int), A := ({ Lo := (0 : Int), Hi := (0 : Int) } : Rg), B := ({ Lo := (0 : Int), Hi := (0 : Int) } : Rg), Half := ({ Lo := (0 : Int), Hi := (0 : Int) } : Rg), Peak := ({ Lo := (0 : Int), Hi := (0 : Int) } : Rg), Cards := [] } : Stm), right := none } : Wk), r4162))))
end
end Go.Proofs.Ytbnfnhfanooplaa

namespace Go.Proofs.Ytbnfnhfanooplaa
open _root_.Go.Proofs.Try
open Go.Abs
set_option maxRecDepth 100000
noncomputable section
def ptally_L0_xret (y144 : List Int) (y146 : Int) : Option (List Int × Int) := (some (y144, y146))
def ptally_L1 (w : Wk) (y146 : Int) (a152 : Trh) (K_X0 : (List Int) → Int → Option (List Int × Int)) : List (Int × Int) → (List Int) → Option (List Int × Int)
 | [], y227 => (K_X0 y227 (y146 + 1))
 | a232 :: q233, y227 => ((phits w.s a152 a232.1 a232.2).bind fun r256 => (if r256 = true then (gd (0 ≤ a232.1 ∧ a232.1 < (12 : Int)) (gd (0 ≤ a232.2 ∧ a232.2 < (12 : Int)) ((idx y227 ((a232.1 * 12) + a232.2)).bind fun v270 => (gd (fitsP .i64 (v270 + 1)) (gd (0 ≤ a232.1 ∧ a232.1 < (12 : Int)) (gd (0 ≤ a232.2 ∧ a232.2 < (12 : Int)) (gd (y227.length = 144) ((ptally_L1 w y146 a152 K_X0 q233) (y227.set (Int.toNat ((a232.1 * 12) + a232.2)) (v270 + 1)))))))))) else ((ptally_L1 w y146 a152 K_X0 q233) y227)))
def ptally_L0 (w : Wk) : List Trh → (List Int) → Int → Option (List Int × Int)
 | [], y144, y146 => (some (y144, y146))
 | a152 :: q153, y144, y146 => (gd (fitsP .i64 (y146 + 1)) ((pgrid w.s).bind fun r203 => ((pplaces r203).bind fun r213 => (ptally_L1 w y146 a152 ((ptally_L0 w q153)) r213 y144))))
def ptally (w : Wk) : Option (List Int × Int) := ((ptruths w).bind fun r132 => (ptally_L0 w r132 (List.replicate 144 (0 : Int)) (0 : Int)))
def pBest_L0 (r395 : List Int × Int) : List (Int × Int) → Int → Int → Int → Option (Int × Int × Int × Int)
 | [], y487, y489, y491 => (some (y487, y489, y491, (0 : Int)))
 | a496 :: q497, y487, y489, y491 => (gd (0 ≤ a496.1 ∧ a496.1 < (12 : Int)) (gd (0 ≤ a496.2 ∧ a496.2 < (12 : Int)) ((idx r395.1 ((a496.1 * 12) + a496.2)).bind fun v524 => (gd (fitsP .i64 (r395.2 - v524)) (if (max v524 (r395.2 - v524)) < y491 then ((pBest_L0 r395 q497) a496.1 a496.2 (max v524 (r395.2 - v524))) else ((pBest_L0 r395 q497) y487 y489 y491))))))
def pBest (s : Stm) : Option (Int × Int × Int × Int) := ((popenTrue s []).bind fun r335 => (if r335.2 = (0 : Int) then ((ptally r335.1).bind fun r395 => ((pgrid r335.1.s).bind fun r459 => ((pplaces r459).bind fun r471 => (pBest_L0 r395 r471 (0 : Int) (0 : Int) r395.2)))) else (some ((0 : Int), (0 : Int), (0 : Int), r335.2))))
def pStormBest (s : Stm) (whr : Int) : Option (Bool) := ((plReady s).bind fun r882 => (if r882 = true then ((plStorm s).bind fun r895 => ((pBest r895).bind fun r904 => (if r904.2.2.2 = (0 : Int) then (gd (fitsP .i64 (s.Wide - (1 : Int))) ((prIn r904.1 (0 : Int) (s.Wide - (1 : Int))).bind fun r919 => (if r919 = true then (gd (fitsP .i64 (s.High - (1 : Int))) ((prIn r904.2.1 (0 : Int) (s.High - (1 : Int))).bind fun r927 => (if r927 = true then (gd (([] : List Crd).length + s.Cards.length ≤ 1048576) (gd (([] ++ s.Cards).length + ([({ X := ({ Lo := r904.1, Hi := r904.1 } : Rg), Y := ({ Lo := r904.2.1, Hi := r904.2.1 } : Rg), Hail := true, Size := ({ Lo := (0 : Int), Hi := (9 : Int) } : Rg) } : Crd)] : List Crd).length ≤ 1048576) (gd (([] : List Crd).length + s.Cards.length ≤ 1048576) (gd (([] ++ s.Cards).length + ([({ X := ({ Lo := r904.1, Hi := r904.1 } : Rg), Y := ({ Lo := r904.2.1, Hi := r904.2.1 } : Rg), Hail := false, Size := ({ Lo := (0 : Int), Hi := (0 : Int) } : Rg) } : Crd)] : List Crd).length ≤ 1048576) ((prTruths ({ Wide := s.Wide, High := s.High, Fall := s.Fall, A := s.A, B := s.B, Half := s.Half, Peak := s.Peak, Cards := (([] ++ s.Cards) ++ ([({ X := ({ Lo := r904.1, Hi := r904.1 } : Rg), Y := ({ Lo := r904.2.1, Hi := r904.2.1 } : Rg), Hail := true, Size := ({ Lo := (0 : Int), Hi := (9 : Int) } : Rg) } : Crd)] : List Crd)) } : Stm)).bind fun r1135 => ((prTruths ({ Wide := s.Wide, High := s.High, Fall := s.Fall, A := s.A, B := s.B, Half := s.Half, Peak := s.Peak, Cards := (([] ++ s.Cards) ++ ([({ X := ({ Lo := r904.1, Hi := r904.1 } : Rg), Y := ({ Lo := r904.2.1, Hi := r904.2.1 } : Rg), Hail := false, Size := ({ Lo := (0 : Int), Hi := (0 : Int) } : Rg) } : Crd)] : List Crd)) } : Stm)).bind fun r1157 => ((plBox s whr).bind fun r1171 => ((prTruths s).bind fun r1204 => ((prWorst s r1204 r1171.X.Lo r1171.Y.Lo).bind fun r1219 => (if (r1135.length : Int) ≤ r904.2.2.1 then (if (r1157.length : Int) ≤ r904.2.2.1 then (if (max (r1135.length : Int) (r1157.length : Int)) = r904.2.2.1 then (if r904.2.2.1 ≤ r1219 then ((pawake).bind fun r1235 => (some r1235)) else (some false)) else (some false)) else (some false)) else (some false))))))))))) else (some false)))) else (some false)))) else (if r904.2.2.2 = (11 : Int) then ((pawake).bind fun r912 => (some r912)) else (some false))))) else ((pawake).bind fun r889 => (some r889))))
end
end Go.Proofs.Ytbnfnhfanooplaa

namespace Go.Proofs.Ytbnfnhfanooplaa
open _root_.Go.Proofs.Try
open Go.Abs
set_option maxRecDepth 100000
noncomputable section
theorem c135 {a100 : Int} {a101 : Int} {a102 : Int} {a103 : Int} {a104 : Bool} {a105 : Int} {a106 : Int} {b0 : Nat} {m : M} {Q : V → M → Prop} (h :
 (∀ m0 : M, (m0 = (M.new m (AO.cells 7 [(Il a100), (Il a101), (Il a102), 
 (Il a103), (.bool a104), (Il a105), (Il a106)] false))) → 
 ∃ c1 : C, ((ldC m0 (.ptr b0 0)) = (some c1)) ∧ ∃ x2 x3 x4 x5, 
 ∃ b6 : Bool, ∃ x7 x8, ((ldA m0 (.ptr m.nxt 0) 7) = (some [(Il x2), 
 (Il x3), (Il x4), (Il x5), (.bool b6), (Il x7), 
 (Il x8)])) ∧ callP prog tbl [(.agg 7 [(Il x2), (Il x3), 
 (Il x4), (Il x5), (.bool b6), (Il x7), (Il x8)])] c1 m0 (fun v9 m10 => 
 ∃ b11 : Bool, (v9 = (.c (.bool b11))) ∧ Q (.c (.bool (!b11))) m10))) : Wc prog tbl 135 [.agg 7 [Il a100, Il a101, Il a102, Il a103, .bool a104, Il a105, Il a106], .c (.ptr b0 0)] m Q :=
 wc_eq (n := 2) rfl (by kernel_rfl) (by kernel_rfl) h
theorem c127 {a100 : Int} {a101 : Int} {a102 : Int} {a103 : Int} {b0 : Nat} {m : M} {Q : V → M → Prop} (h :
 (∀ m0 : M, (m0 = (M.new m (AO.cells 4 [(Il a100), (Il a101), (Il a102), 
 (Il a103)] false))) → ∃ c1 : C, ((ldC m0 (.ptr b0 0)) = (some c1)) ∧ ∃ x2, 
 ∃ x3 x4 x5, ((ldA m0 (.ptr m.nxt 0) 4) = (some [(Il x2), 
 (Il x3), (Il x4), (Il x5)])) ∧ callP prog tbl [(.agg 4 [(Il x2), 
 (Il x3), (Il x4), (Il x5)])] c1 m0 (fun v6 m7 => 
 ∃ b8 : Bool, (v6 = (.c (.bool b8))) ∧ Q (.c (.bool (!b8))) m7))) : Wc prog tbl 127 [.agg 4 [Il a100, Il a101, Il a102, Il a103], .c (.ptr b0 0)] m Q :=
 wc_eq (n := 2) rfl (by kernel_rfl) (by kernel_rfl) h
theorem c129 {a100 : C} {b0 : Nat} {m : M} {Q : V → M → Prop} (h :
 (∃ x0 x1, ((ldA m (.ptr b0 0) 2) = (some [(Il x0), (Il x1)])) ∧ 
 Wc prog tbl 125 [(.agg 2 [(Il x0), (Il x1)])] m (fun v2 m3 => ∃ x4, 
 (v2 = (.c (Il x4))) ∧ ∀ R5 : List V → M → Prop, (∀ x6 : Int, ∀ m7 : M, (ifB (decide (x6 < x4)) (isPt (.ptr b0 0) ∧ 
 ∃ x8, ((ldC m7 (.ptr b0 0)) = (some (Il x8))) ∧ fitsP .i64 (x8 + x6) ∧ 
 callP prog tbl [(.c (Il (x8 + x6)))] a100 m7 (fun v9 m10 => ∃ b11 : Bool, 
 (v9 = (.c (.bool b11))) ∧ ifB (!b11) (Q (.tup []) m10) (fitsP .i64 (x6 + 1) ∧ 
 R5 [(.c (Il (x6 + 1)))] m10))) (Q (.tup []) m7)) → 
 R5 [(.c (Il x6))] m7) → R5 [(.c (Il 0))] m3))) : Wc prog tbl 129 [.c (a100), .c (.ptr b0 0)] m Q :=
 wc_eq (n := 2) rfl (by kernel_rfl) (by kernel_rfl) h
theorem c114 {a100 : C} {b0 : Nat} {m : M} {Q : V → M → Prop} (h :
 (∀ m0 : M, (m0 = (M.new m (AO.cells 1 [a100] false))) → isPt (.ptr b0 0) ∧ ∃ x1 x2, ((ldA m0 (.ptr b0 0) 2) = (some [(Il x1), 
 (Il x2)])) ∧ Wc prog tbl 115 [(.agg 2 [(Il x1), (Il x2)])] m0 (fun v3 m4 => 
 ∃ c5 : C, (v3 = (.c c5)) ∧ rangeP prog tbl c5 m4 (fun l6 m7 R8 R9 => ∃ x10, (l6 = [(.c (Il x10))]) ∧ 
 ∀ m11 : M, (m11 = (M.new m7 (AO.cells 1 [(Il 0)] false))) → ∃ m12 : M, 
 ((stC m11 (.ptr m7.nxt 0) 1 [(Il x10)]) = (some m12)) ∧ R8 m12 (fun m13 => 
 isPt (.ptr b0 0) ∧ ∃ x14 x15, ((ldA m13 (.ptr b0 2) 2) = (some [(Il x14), 
 (Il x15)])) ∧ Wc prog tbl 115 [(.agg 2 [(Il x14), 
 (Il x15)])] m13 (fun v16 m17 => ∃ c18 : C, (v16 = (.c c18)) ∧ 
 rangeP prog tbl c18 m17 (fun l19 m20 R21 R22 => ∃ x23, (l19 = [(.c (Il x23))]) ∧ 
 R21 m20 (fun m24 => ∃ c25 : C, ((ldC m24 (.ptr m.nxt 0)) = (some c25)) ∧ 
 ∃ x26, ((ldC m24 (.ptr m7.nxt 0)) = (some (Il x26))) ∧ 
 callP prog tbl [(.c (Il x26)), (.c (Il x23))] c25 m24 (fun v27 m28 => 
 ∃ b29 : Bool, (v27 = (.c (.bool b29))) ∧ ifB (!b29) (R22 Ex.ret m28) (R22 Ex.nrm m28)))) (After.mk (fun m30 => 
 R9 Ex.nrm m30) [] (fun m31 => R9 Ex.ret m31))))) (After.mk (fun m32 => 
 Q (.tup []) m32) [] (fun m33 => Q (.tup []) m33))))) : Wc prog tbl 114 [.c (a100), .c (.ptr b0 0)] m Q :=
 wc_eq (n := 2) rfl (by kernel_rfl) (by kernel_rfl) h
theorem c130 {a100 : C} {b0 : Nat} {m : M} {Q : V → M → Prop} (h :
 (∀ m0 : M, (m0 = (M.new m (AO.cells 1 [a100] false))) → isPt (.ptr b0 0) ∧ ∃ x1 x2, ((ldA m0 (.ptr b0 3) 2) = (some [(Il x1), 
 (Il x2)])) ∧ Wc prog tbl 115 [(.agg 2 [(Il x1), (Il x2)])] m0 (fun v3 m4 => 
 ∃ c5 : C, (v3 = (.c c5)) ∧ rangeP prog tbl c5 m4 (fun l6 m7 R8 R9 => ∃ x10, (l6 = [(.c (Il x10))]) ∧ 
 ∀ m11 : M, (m11 = (M.new m7 (AO.cells 1 [(Il 0)] false))) → ∃ m12 : M, 
 ((stC m11 (.ptr m7.nxt 0) 1 [(Il x10)]) = (some m12)) ∧ R8 m12 (fun m13 => 
 isPt (.ptr b0 0) ∧ ∃ x14 x15, ((ldA m13 (.ptr b0 5) 2) = (some [(Il x14), 
 (Il x15)])) ∧ Wc prog tbl 115 [(.agg 2 [(Il x14), 
 (Il x15)])] m13 (fun v16 m17 => ∃ c18 : C, (v16 = (.c c18)) ∧ 
 rangeP prog tbl c18 m17 (fun l19 m20 R21 R22 => ∃ x23, (l19 = [(.c (Il x23))]) ∧ 
 ∀ m24 : M, (m24 = (M.new m20 (AO.cells 1 [(Il 0)] false))) → 
 ∃ m25 : M, ((stC m24 (.ptr m20.nxt 0) 1 [(Il x23)]) = (some m25)) ∧ 
 R21 m25 (fun m26 => isPt (.ptr b0 0) ∧ ∃ x27 x28, ((ldA m26 (.ptr b0 7) 2) = (some [(Il x27), 
 (Il x28)])) ∧ Wc prog tbl 115 [(.agg 2 [(Il x27), 
 (Il x28)])] m26 (fun v29 m30 => ∃ c31 : C, (v29 = (.c c31)) ∧ 
 rangeP prog tbl c31 m30 (fun l32 m33 R34 R35 => ∃ x36, (l32 = [(.c (Il x36))]) ∧ 
 ∀ m37 : M, (m37 = (M.new m33 (AO.cells 1 [(Il 0)] false))) → 
 ∃ m38 : M, ((stC m37 (.ptr m33.nxt 0) 1 [(Il x36)]) = (some m38)) ∧ 
 R34 m38 (fun m39 => isPt (.ptr b0 0) ∧ ∃ x40 x41, ((ldA m39 (.ptr b0 9) 2) = (some [(Il x40), 
 (Il x41)])) ∧ Wc prog tbl 115 [(.agg 2 [(Il x40), 
 (Il x41)])] m39 (fun v42 m43 => ∃ c44 : C, (v42 = (.c c44)) ∧ 
 rangeP prog tbl c44 m43 (fun l45 m46 R47 R48 => ∃ x49, (l45 = [(.c (Il x49))]) ∧ 
 R47 m46 (fun m50 => ∃ c51 : C, ((ldC m50 (.ptr m.nxt 0)) = (some c51)) ∧ 
 ∃ x52, ((ldC m50 (.ptr m7.nxt 0)) = (some (Il x52))) ∧ 
 ∃ x53, ((ldC m50 (.ptr m20.nxt 0)) = (some (Il x53))) ∧ 
 ∃ x54, ((ldC m50 (.ptr m33.nxt 0)) = (some (Il x54))) ∧ 
 callP prog tbl [(.agg 4 [(Il x52), (Il x53), 
 (Il x54), (Il x49)])] c51 m50 (fun v55 m56 => ∃ b57 : Bool, 
 (v55 = (.c (.bool b57))) ∧ ifB (!b57) (R48 Ex.ret m56) (R48 Ex.nrm m56)))) (After.mk (fun m58 => 
 R35 Ex.nrm m58) [] (fun m59 => R35 Ex.ret m59))))) (After.mk (fun m60 => 
 R22 Ex.nrm m60) [] (fun m61 => R22 Ex.ret m61))))) (After.mk (fun m62 => 
 R9 Ex.nrm m62) [] (fun m63 => R9 Ex.ret m63))))) (After.mk (fun m64 => 
 Q (.tup []) m64) [] (fun m65 => Q (.tup []) m65))))) : Wc prog tbl 130 [.c (a100), .c (.ptr b0 0)] m Q :=
 wc_eq (n := 2) rfl (by kernel_rfl) (by kernel_rfl) h
theorem c128 {a100 : C} {b0 : Nat} {m : M} {Q : V → M → Prop} (h :
 (∀ m0 : M, (m0 = (M.new m (AO.cells 1 [a100] false))) → ∃ x1 x2 x3 x4 x5, 
 ∃ x6 x7 x8 x9 x10 x11, ∃ c12 : C, ∃ c13 : C, 
 ((ldA m0 (.ptr b0 0) 13) = (some [(Il x1), (Il x2), (Il x3), 
 (Il x4), (Il x5), (Il x6), (Il x7), 
 (Il x8), (Il x9), (Il x10), (Il x11), 
 c12, c13])) ∧ Wc prog tbl 92 [(.agg 13 [(Il x1), (Il x2), 
 (Il x3), (Il x4), (Il x5), (Il x6), 
 (Il x7), (Il x8), (Il x9), (Il x10), 
 (Il x11), c12, c13])] m0 (fun v14 m15 => ∃ b16 : Bool, ∃ b17 : Bool, ∃ b18 : Bool, 
 ∃ b19 : Bool, ∃ b20 : Bool, ∃ b21 : Bool, (v14 = (.agg 6 [(.bool b16), (.bool b17), 
 (.bool b18), (.bool b19), (.bool b20), (.bool b21)])) ∧ ∀ m22 : M, (m22 = (M.new m15 (AO.cells 6 [(.bool false), 
 (.bool false), (.bool false), (.bool false), (.bool false), (.bool false)] false))) → 
 ∃ m23 : M, ((stC m22 (.ptr m15.nxt 0) 6 [(.bool b16), (.bool b17), (.bool b18), 
 (.bool b19), (.bool b20), (.bool b21)]) = (some m23)) ∧ isPt (.ptr b0 0) ∧ 
 ∃ x24 x25 x26 x27 x28 x29, 
 ∃ x30 x31 x32 x33 x34, ∃ c35 : C, 
 ((ldA m23 (.ptr b0 0) 12) = (some [(Il x24), (Il x25), 
 (Il x26), (Il x27), (Il x28), (Il x29), 
 (Il x30), (Il x31), (Il x32), (Il x33), 
 (Il x34), c35])) ∧ Wc prog tbl 116 [(.agg 12 [(Il x24), 
 (Il x25), (Il x26), (Il x27), (Il x28), 
 (Il x29), (Il x30), (Il x31), (Il x32), 
 (Il x33), (Il x34), c35])] m23 (fun v36 m37 => 
 ∃ c38 : C, (v36 = (.c c38)) ∧ rangeP prog tbl c38 m37 (fun l39 m40 R41 R42 => 
 ∃ x43 x44 x45 x46, (l39 = [(.agg 4 [(Il x43), 
 (Il x44), (Il x45), (Il x46)])]) ∧ 
 ∀ m47 : M, (m47 = (M.new m40 (AO.cells 4 [(Il 0), (Il 0), 
 (Il 0), (Il 0)] false))) → ∃ m48 : M, 
 ((stC m47 (.ptr m40.nxt 0) 4 [(Il x43), (Il x44), 
 (Il x45), (Il x46)]) = (some m48)) ∧ R41 m48 (fun m49 => 
 isPt (.ptr b0 0) ∧ ∃ c50 : C, ((ldC m49 (.ptr b0 12)) = (some c50)) ∧ 
 ∃ x51 x52 x53 x54, ((ldA m49 (.ptr m40.nxt 0) 4) = (some [(Il x51), 
 (Il x52), (Il x53), (Il x54)])) ∧ 
 ∃ y55 : Option U, ((lkM prog 43 m49 c50 (.agg 4 [(Il x51), 
 (Il x52), (Il x53), (Il x54)])) = (some y55)) ∧ 
 ((y55 = Option.none) → ∃ b56 : Bool, ∃ b57 : Bool, ∃ b58 : Bool, ∃ b59 : Bool, 
 ∃ b60 : Bool, ∃ b61 : Bool, ((ldA m49 (.ptr m15.nxt 0) 6) = (some [(.bool b56), 
 (.bool b57), (.bool b58), (.bool b59), (.bool b60), (.bool b61)])) ∧ ifB ((false == b56) && ((false == b57) && ((false == b58) && ((false == b59) && ((false == b60) && (false == b61)))))) (∃ c62 : C, 
 ((ldC m49 (.ptr m.nxt 0)) = (some c62)) ∧ ∃ x63 x64, 
 ∃ x65 x66, ((ldA m49 (.ptr m40.nxt 0) 4) = (some [(Il x63), 
 (Il x64), (Il x65), (Il x66)])) ∧ 
 callP prog tbl [(.agg 4 [(Il x63), (Il x64), 
 (Il x65), (Il x66)])] c62 m49 (fun v67 m68 => ∃ b69 : Bool, 
 (v67 = (.c (.bool b69))) ∧ ifB (!b69) (R42 Ex.ret m68) (R42 Ex.nrm m68))) (R42 Ex.nrm m49)) ∧ 
 ∀ u70 : U, (y55 = (some u70)) → ∃ b71 : Bool, ∃ b72 : Bool, ∃ b73 : Bool, 
 ∃ b74 : Bool, ∃ b75 : Bool, ∃ b76 : Bool, (u70 = (.agg 6 [(.bool b71), 
 (.bool b72), (.bool b73), (.bool b74), (.bool b75), (.bool b76)])) ∧ ∃ b77 : Bool, 
 ∃ b78 : Bool, ∃ b79 : Bool, ∃ b80 : Bool, ∃ b81 : Bool, ∃ b82 : Bool, ((ldA m49 (.ptr m15.nxt 0) 6) = (some [(.bool b77), 
 (.bool b78), (.bool b79), (.bool b80), (.bool b81), (.bool b82)])) ∧ ifB ((b71 == b77) && ((b72 == b78) && ((b73 == b79) && ((b74 == b80) && ((b75 == b81) && (b76 == b82)))))) (∃ c83 : C, 
 ((ldC m49 (.ptr m.nxt 0)) = (some c83)) ∧ ∃ x84 x85, 
 ∃ x86 x87, ((ldA m49 (.ptr m40.nxt 0) 4) = (some [(Il x84), 
 (Il x85), (Il x86), (Il x87)])) ∧ 
 callP prog tbl [(.agg 4 [(Il x84), (Il x85), 
 (Il x86), (Il x87)])] c83 m49 (fun v88 m89 => ∃ b90 : Bool, 
 (v88 = (.c (.bool b90))) ∧ ifB (!b90) (R42 Ex.ret m89) (R42 Ex.nrm m89))) (R42 Ex.nrm m49))) (After.mk (fun m91 => 
 Q (.tup []) m91) [] (fun m92 => Q (.tup []) m92)))))) : Wc prog tbl 128 [.c (a100), .c (.ptr b0 0)] m Q :=
 wc_eq (n := 2) rfl (by kernel_rfl) (by kernel_rfl) h
end
end Go.Proofs.Ytbnfnhfanooplaa

namespace Go.Proofs.Ytbnfnhfanooplaa
open _root_.Go.Proofs.Try
open Go.Abs
set_option maxRecDepth 100000
noncomputable section
theorem w16 {a100 : Int} {a101 : Int} {a102 : Int} {a103 : Int} {a104 : Int} {a105 : Int} {a106 : Int} {a107 : Int} {a108 : Int} {a109 : Int} {a110 : Int} {a111 : C} {m : M} {Q : V → M → Prop} (h :
 (∀ m0 : M, (m0 = (M.new m (AO.cells 12 [(Il a100), (Il a101), (Il a102), 
 (Il a103), (Il a104), (Il a105), (Il a106), 
 (Il a107), (Il a108), (Il a109), (Il a110), 
 a111] false))) → isPt (.ptr m.nxt 0) ∧ ∃ c1 : C, ((ldC m0 (.ptr m.nxt 11)) = (some c1)) ∧ 
 isSl c1 ∧ ifB (decide ((((slLen c1) : Nat) : Int) ≤ (9 : Int))) (∃ x2 x3 x4, 
 ∃ x5 x6 x7 x8 x9 x10 x11 x12, 
 ∃ c13 : C, ((ldA m0 (.ptr m.nxt 0) 12) = (some [(Il x2), (Il x3), 
 (Il x4), (Il x5), (Il x6), (Il x7), 
 (Il x8), (Il x9), (Il x10), (Il x11), 
 (Il x12), c13])) ∧ Wc prog tbl 66 [(.agg 12 [(Il x2), 
 (Il x3), (Il x4), (Il x5), (Il x6), 
 (Il x7), (Il x8), (Il x9), (Il x10), 
 (Il x11), (Il x12), c13])] m0 (fun v14 m15 => ∃ x16, 
 (v14 = (.c (Il x16))) ∧ ifB (!decide (x16 = 0)) (Q (.c (.bool true)) m15) (∃ x17, 
 ∃ x18 x19 x20 x21 x22 x23, 
 ∃ x24 x25 x26 x27, ∃ c28 : C, ((ldA m15 (.ptr m.nxt 0) 12) = (some [(Il x17), 
 (Il x18), (Il x19), (Il x20), (Il x21), 
 (Il x22), (Il x23), (Il x24), (Il x25), 
 (Il x26), (Il x27), c28])) ∧ Wc prog tbl 67 [(.agg 12 [(Il x17), 
 (Il x18), (Il x19), (Il x20), (Il x21), 
 (Il x22), (Il x23), (Il x24), (Il x25), 
 (Il x26), (Il x27), c28])] m15 (fun v29 m30 => 
 ∃ x31, (v29 = (.c (Il x31))) ∧ Q (.c (.bool (decide (x31 ≤ 300)))) m30)))) (Q (.c (.bool false)) m0))) : Wc prog tbl 16 [(.agg 12 [(Il a100), (Il a101), (Il a102), (Il a103), (Il a104), (Il a105), (Il a106), (Il a107), (Il a108), (Il a109), (Il a110), a111])] m Q :=
 wc_eq (n := 1) rfl (by kernel_rfl) (by kernel_rfl) h
theorem w32 {a100 : Int} {a101 : Int} {m : M} {Q : V → M → Prop} (h :
 (∀ m0 : M, (m0 = (M.new m (AO.cells 2 [(Il a100), (Il a101)] false))) → ∀ m1 : M, 
 (m1 = (M.new m0 (AO.cells 2 [(Il 0), (Il 0)] false))) → isPt (.ptr m.nxt 0) ∧ 
 ∃ x2, ((ldC m1 (.ptr m.nxt 0)) = (some (Il x2))) ∧ isPt (.ptr m.nxt 0) ∧ 
 ∃ x3, ((ldC m1 (.ptr m.nxt 1)) = (some (Il x3))) ∧ ∃ m4 : M, ((stC m1 (.ptr m0.nxt 0) 2 [(Il x2), 
 (Il x3)]) = (some m4)) ∧ ∃ x5 x6, ((ldA m4 (.ptr m0.nxt 0) 2) = (some [(Il x5), 
 (Il x6)])) ∧ Q (.agg 2 [(Il x5), (Il x6)]) m4)) : Wc prog tbl 32 [(.agg 2 [(Il a100), (Il a101)])] m Q :=
 wc_eq (n := 1) rfl (by kernel_rfl) (by kernel_rfl) h
theorem w38 {a100 : Int} {a101 : Int} {a102 : Int} {a103 : Int} {a104 : Int} {a105 : Int} {a106 : Int} {a107 : Int} {a108 : Int} {a109 : Int} {a110 : Int} {a111 : C} {m : M} {Q : V → M → Prop} (h :
 (∀ m0 : M, (m0 = (M.new m (AO.cells 12 [(Il a100), (Il a101), (Il a102), 
 (Il a103), (Il a104), (Il a105), (Il a106), 
 (Il a107), (Il a108), (Il a109), (Il a110), 
 a111] false))) → ∀ R1 : List V → M → Prop, (∀ c2 : C, ∀ x3 : Int, ∀ m4 : M, (∃ x5 x6, 
 ∃ x7 x8 x9 x10 x11 x12 x13 x14, 
 ∃ x15, ∃ c16 : C, ((ldA m4 (.ptr m.nxt 0) 12) = (some [(Il x5), 
 (Il x6), (Il x7), (Il x8), (Il x9), 
 (Il x10), (Il x11), (Il x12), (Il x13), 
 (Il x14), (Il x15), c16])) ∧ Wc prog tbl 67 [(.agg 12 [(Il x5), 
 (Il x6), (Il x7), (Il x8), (Il x9), 
 (Il x10), (Il x11), (Il x12), (Il x13), 
 (Il x14), (Il x15), c16])] m4 (fun v17 m18 => ∃ x19, 
 (v17 = (.c (Il x19))) ∧ ifB (decide (x3 < x19)) (∀ R20 : List V → 
 M → Prop, (∀ x21 : Int, ∀ x22 : Int, ∀ m23 : M, (isPt (.ptr m.nxt 0) ∧ ∃ c24 : C, 
 ((ldC m23 (.ptr m.nxt 11)) = (some c24)) ∧ isSl c24 ∧ ifB (decide (x22 < (((slLen c24) : Nat) : Int))) (∃ x25, 
 ∃ x26 x27 x28 x29 x30 x31, 
 ∃ x32 x33 x34 x35, ∃ c36 : C, ((ldA m23 (.ptr m.nxt 0) 12) = (some [(Il x25), 
 (Il x26), (Il x27), (Il x28), (Il x29), 
 (Il x30), (Il x31), (Il x32), (Il x33), 
 (Il x34), (Il x35), c36])) ∧ ∃ x37 x38, 
 ∃ x39 x40 x41 x42 x43 x44, 
 ∃ x45 x46 x47, ∃ c48 : C, ((ldA m23 (.ptr m.nxt 0) 12) = (some [(Il x37), 
 (Il x38), (Il x39), (Il x40), (Il x41), 
 (Il x42), (Il x43), (Il x44), (Il x45), 
 (Il x46), (Il x47), c48])) ∧ Wc prog tbl 88 [(.agg 12 [(Il x37), 
 (Il x38), (Il x39), (Il x40), (Il x41), 
 (Il x42), (Il x43), (Il x44), (Il x45), 
 (Il x46), (Il x47), c48]), (.c (Il x3))] m23 (fun v49 m50 => 
 ∃ x51 x52 x53 x54, (v49 = (.agg 4 [(Il x51), 
 (Il x52), (Il x53), (Il x54)])) ∧ 
 (ifB (allS cmC [(Il x25), (Il x26), (Il x27), 
 (Il x28), (Il x29), (Il x30), (Il x31), 
 (Il x32), (Il x33), (Il x34), (Il x35), 
 c36]) ((ldA m50 (.ptr m.nxt 0) 12) = (some [(Il x25), 
 (Il x26), (Il x27), (Il x28), (Il x29), 
 (Il x30), (Il x31), (Il x32), (Il x33), 
 (Il x34), (Il x35), c36])) False) ∧ isPt (.ptr m.nxt 0) ∧ 
 ∃ c55 : C, ((ldC m50 (.ptr m.nxt 11)) = (some c55)) ∧ (ifB (cmC c55) ((ldC m23 (.ptr m.nxt 11)) = (some c55)) False) ∧ 
 ∃ n56 : Nat, (x22 = ((n56 : Nat) : Int)) ∧ (n56 < (slLen c55)) ∧ ∃ x57, 
 ∃ x58 x59 x60, ∃ b61 : Bool, ∃ x62 x63, 
 ((ldA m50 (slAt c55 (n56 * 7)) 7) = (some [(Il x57), (Il x58), 
 (Il x59), (Il x60), (.bool b61), (Il x62), 
 (Il x63)])) ∧ ((ldA m23 (slAt c55 (n56 * 7)) 7) = (some [(Il x57), 
 (Il x58), (Il x59), (Il x60), (.bool b61), 
 (Il x62), (Il x63)])) ∧ Wc prog tbl 72 [(.agg 12 [(Il x25), 
 (Il x26), (Il x27), (Il x28), (Il x29), 
 (Il x30), (Il x31), (Il x32), (Il x33), 
 (Il x34), (Il x35), c36]), (.agg 4 [(Il x51), 
 (Il x52), (Il x53), (Il x54)]), 
 (.agg 7 [(Il x57), (Il x58), (Il x59), 
 (Il x60), (.bool b61), (Il x62), (Il x63)])] m50 (fun v64 m65 => 
 ∃ b66 : Bool, (v64 = (.c (.bool b66))) ∧ ifB b66 (((0 : Int) ≤ (1 : Int)) ∧ 
 ((0 : Int) ≤ (wrapZ .u64 x22)) ∧ ((wrapZ .u64 x22) ≤ (64 : Int)) ∧ 
 fitsP .i64 ((1 : Int) * ((2 : Int) ^ (Int.toNat (wrapZ .u64 x22)))) ∧ 
 ((0 : Int) ≤ x21) ∧ ((0 : Int) ≤ ((1 : Int) * ((2 : Int) ^ (Int.toNat (wrapZ .u64 x22))))) ∧ 
 fitsP .i64 x21 ∧ fitsP .i64 ((1 : Int) * ((2 : Int) ^ (Int.toNat (wrapZ .u64 x22)))) ∧ 
 fitsP .i64 (((Nat.lor (Int.toNat x21) (Int.toNat ((1 : Int) * ((2 : Int) ^ (Int.toNat (wrapZ .u64 x22)))))) : Nat) : Int) ∧ 
 fitsP .i64 (x22 + 1) ∧ R20 [(.c (Il (((Nat.lor (Int.toNat x21) (Int.toNat ((1 : Int) * ((2 : Int) ^ (Int.toNat (wrapZ .u64 x22)))))) : Nat) : Int))), 
 (.c (Il (x22 + 1)))] m65) (fitsP .i64 (x22 + 1) ∧ 
 R20 [(.c (Il x21)), (.c (Il (x22 + 1)))] m65)))) (∀ m67 : M, 
 (m67 = (M.new m23 (AO.cells 1 [(Il x21)] false))) → ∃ c68 : C, 
 ∃ m69 : M, (ApR prog 69 m67 c2 (.sl m23.nxt 0 1 0 (some 1)) c68 m69) ∧ 
 fitsP .i64 (x3 + 1) ∧ R1 [(.c c68), (.c (Il (x3 + 1)))] m69)) → 
 R20 [(.c (Il x21)), (.c (Il x22))] m23) → 
 R20 [(.c (Il 0)), (.c (Il 0))] m18) (Q (.c c2) m18))) → 
 R1 [(.c c2), (.c (Il x3))] m4) → R1 [(.c C.sl0), (.c (Il 0))] m0)) : Wc prog tbl 38 [(.agg 12 [(Il a100), (Il a101), (Il a102), (Il a103), (Il a104), (Il a105), (Il a106), (Il a107), (Il a108), (Il a109), (Il a110), a111])] m Q :=
 wc_eq (n := 1) rfl (by kernel_rfl) (by kernel_rfl) h
theorem w62 {a100 : Int} {a101 : Int} {m : M} {Q : V → M → Prop} (h :
 (∀ m0 : M, (m0 = (M.new m (AO.cells 2 [(Il a100), (Il a101)] false))) → isPt (.ptr m.nxt 0) ∧ 
 ∃ x1, ((ldC m0 (.ptr m.nxt 1)) = (some (Il x1))) ∧ isPt (.ptr m.nxt 0) ∧ 
 ∃ x2, ((ldC m0 (.ptr m.nxt 0)) = (some (Il x2))) ∧ fitsP .i64 (x1 - x2) ∧ 
 fitsP .i64 ((x1 - x2) + (1 : Int)) ∧ Q (.c (Il ((x1 - x2) + (1 : Int)))) m0)) : Wc prog tbl 62 [(.agg 2 [(Il a100), (Il a101)])] m Q :=
 wc_eq (n := 1) rfl (by kernel_rfl) (by kernel_rfl) h
theorem w68 {a100 : Int} {a101 : Int} {a102 : Int} {a103 : Int} {a104 : Int} {a105 : Int} {a106 : Int} {a107 : Int} {a108 : Int} {a109 : Int} {a110 : Int} {a111 : C} {a200 : C} {m : M} {Q : V → M → Prop} (h :
 (∀ m0 : M, (m0 = (M.new m (AO.cells 12 [(Il a100), (Il a101), (Il a102), 
 (Il a103), (Il a104), (Il a105), (Il a106), 
 (Il a107), (Il a108), (Il a109), (Il a110), 
 a111] false))) → ∀ m1 : M, (m1 = (M.new m0 (AO.cells 13 [(Il 0), (Il 0), 
 (Il 0), (Il 0), (Il 0), (Il 0), 
 (Il 0), (Il 0), (Il 0), (Il 0), 
 (Il 0), C.sl0, C.map0] false))) → ∃ x2 x3 x4 x5, 
 ∃ x6 x7 x8 x9 x10 x11 x12, ∃ c13 : C, 
 ((ldA m1 (.ptr m.nxt 0) 12) = (some [(Il x2), (Il x3), 
 (Il x4), (Il x5), (Il x6), (Il x7), 
 (Il x8), (Il x9), (Il x10), (Il x11), 
 (Il x12), c13])) ∧ Wc prog tbl 48 [(.agg 12 [(Il x2), (Il x3), 
 (Il x4), (Il x5), (Il x6), (Il x7), 
 (Il x8), (Il x9), (Il x10), (Il x11), 
 (Il x12), c13])] m1 (fun v14 m15 => ∃ x16, (v14 = (.c (Il x16))) ∧ 
 ifB (!decide (x16 = 0)) (∃ m17 : M, ((stC m15 (.ptr m0.nxt 0) 13 [(Il 0), 
 (Il 0), (Il 0), (Il 0), 
 (Il 0), (Il 0), (Il 0), 
 (Il 0), (Il 0), (Il 0), 
 (Il 0), C.sl0, C.map0]) = (some m17)) ∧ ∃ x18, 
 ∃ x19 x20 x21 x22 x23 x24, 
 ∃ x25 x26 x27 x28, ∃ c29 : C, ∃ c30 : C, 
 ((ldA m17 (.ptr m0.nxt 0) 13) = (some [(Il x18), (Il x19), 
 (Il x20), (Il x21), (Il x22), (Il x23), 
 (Il x24), (Il x25), (Il x26), (Il x27), 
 (Il x28), c29, c30])) ∧ Q (.tup [(.agg 13 [(Il x18), 
 (Il x19), (Il x20), (Il x21), (Il x22), 
 (Il x23), (Il x24), (Il x25), (Il x26), 
 (Il x27), (Il x28), c29, c30]), (.c (Il x16))]) m17) (∃ x31, 
 ∃ x32 x33 x34 x35 x36 x37, 
 ∃ x38 x39 x40 x41, ∃ c42 : C, ((ldA m15 (.ptr m.nxt 0) 12) = (some [(Il x31), 
 (Il x32), (Il x33), (Il x34), (Il x35), 
 (Il x36), (Il x37), (Il x38), (Il x39), 
 (Il x40), (Il x41), c42])) ∧ optB (mapO vW [(.agg 12 [(Il x31), 
 (Il x32), (Il x33), (Il x34), (Il x35), 
 (Il x36), (Il x37), (Il x38), (Il x39), 
 (Il x40), (Il x41), c42])]) False fun l43 => Wc prog tbl 106 [(.c a200), 
 (.c (C.fn (Fn.func 107) l43 []))] m15 (fun v44 m45 => ∃ b46 : Bool, (v44 = (.c (.bool b46))) ∧ 
 ifB (!b46) (∃ m47 : M, ((stC m45 (.ptr m0.nxt 0) 13 [(Il 0), 
 (Il 0), (Il 0), (Il 0), 
 (Il 0), (Il 0), (Il 0), 
 (Il 0), (Il 0), (Il 0), 
 (Il 0), C.sl0, C.map0]) = (some m47)) ∧ ∃ x48, 
 ∃ x49 x50 x51 x52 x53 x54, 
 ∃ x55 x56 x57 x58, ∃ c59 : C, ∃ c60 : C, 
 ((ldA m47 (.ptr m0.nxt 0) 13) = (some [(Il x48), (Il x49), 
 (Il x50), (Il x51), (Il x52), (Il x53), 
 (Il x54), (Il x55), (Il x56), (Il x57), 
 (Il x58), c59, c60])) ∧ Q (.tup [(.agg 13 [(Il x48), 
 (Il x49), (Il x50), (Il x51), (Il x52), 
 (Il x53), (Il x54), (Il x55), (Il x56), 
 (Il x57), (Il x58), c59, c60]), (.c (Il (2 : Int)))]) m47) (∃ x61, 
 ∃ x62 x63 x64 x65 x66 x67, 
 ∃ x68 x69 x70 x71, ∃ c72 : C, ((ldA m45 (.ptr m.nxt 0) 12) = (some [(Il x61), 
 (Il x62), (Il x63), (Il x64), (Il x65), 
 (Il x66), (Il x67), (Il x68), (Il x69), 
 (Il x70), (Il x71), c72])) ∧ Wc prog tbl 81 [(.agg 12 [(Il x61), 
 (Il x62), (Il x63), (Il x64), (Il x65), 
 (Il x66), (Il x67), (Il x68), (Il x69), 
 (Il x70), (Il x71), c72])] m45 (fun v73 m74 => 
 ∃ x75 x76 x77 x78 x79 x80, 
 ∃ x81 x82 x83 x84 x85, ∃ c86 : C, 
 ∃ c87 : C, (v73 = (.agg 13 [(Il x75), (Il x76), 
 (Il x77), (Il x78), (Il x79), (Il x80), 
 (Il x81), (Il x82), (Il x83), (Il x84), 
 (Il x85), c86, c87])) ∧ ∀ m88 : M, (m88 = (M.new m74 (AO.cells 13 [(Il 0), 
 (Il 0), (Il 0), (Il 0), 
 (Il 0), (Il 0), (Il 0), 
 (Il 0), (Il 0), (Il 0), 
 (Il 0), C.sl0, C.map0] false))) → ∃ m89 : M, ((stC m88 (.ptr m74.nxt 0) 13 [(Il x75), 
 (Il x76), (Il x77), (Il x78), (Il x79), 
 (Il x80), (Il x81), (Il x82), (Il x83), 
 (Il x84), (Il x85), c86, c87]) = (some m89)) ∧ 
 ∃ x90 x91 x92 x93 x94 x95, 
 ∃ x96 x97 x98 x99 x100, ∃ c101 : C, 
 ∃ c102 : C, ((ldA m89 (.ptr m74.nxt 0) 13) = (some [(Il x90), 
 (Il x91), (Il x92), (Il x93), (Il x94), 
 (Il x95), (Il x96), (Il x97), (Il x98), 
 (Il x99), (Il x100), c101, c102])) ∧ Wc prog tbl 86 [(.agg 13 [(Il x90), 
 (Il x91), (Il x92), (Il x93), (Il x94), 
 (Il x95), (Il x96), (Il x97), (Il x98), 
 (Il x99), (Il x100), c101, c102])] m89 (fun v103 m104 => 
 ∃ b105 : Bool, (v103 = (.c (.bool b105))) ∧ ifB (!b105) (∃ m106 : M, ((stC m104 (.ptr m0.nxt 0) 13 [(Il 0), 
 (Il 0), (Il 0), (Il 0), 
 (Il 0), (Il 0), (Il 0), 
 (Il 0), (Il 0), (Il 0), 
 (Il 0), C.sl0, C.map0]) = (some m106)) ∧ ∃ x107, 
 ∃ x108 x109 x110 x111 x112 x113, 
 ∃ x114 x115 x116 x117, ∃ c118 : C, ∃ c119 : C, 
 ((ldA m106 (.ptr m0.nxt 0) 13) = (some [(Il x107), 
 (Il x108), (Il x109), (Il x110), 
 (Il x111), (Il x112), (Il x113), 
 (Il x114), (Il x115), (Il x116), 
 (Il x117), c118, c119])) ∧ Q (.tup [(.agg 13 [(Il x107), 
 (Il x108), (Il x109), (Il x110), 
 (Il x111), (Il x112), (Il x113), 
 (Il x114), (Il x115), (Il x116), 
 (Il x117), c118, c119]), (.c (Il (11 : Int)))]) m106) (∃ x120, 
 ∃ x121 x122 x123 x124 x125 x126, 
 ∃ x127 x128 x129 x130, ∃ c131 : C, ∃ c132 : C, 
 ((ldA m104 (.ptr m74.nxt 0) 13) = (some [(Il x120), 
 (Il x121), (Il x122), (Il x123), 
 (Il x124), (Il x125), (Il x126), 
 (Il x127), (Il x128), (Il x129), 
 (Il x130), c131, c132])) ∧ ∃ m133 : M, ((stC m104 (.ptr m0.nxt 0) 13 [(Il x120), 
 (Il x121), (Il x122), (Il x123), 
 (Il x124), (Il x125), (Il x126), 
 (Il x127), (Il x128), (Il x129), 
 (Il x130), c131, c132]) = (some m133)) ∧ ∃ x134, 
 ∃ x135 x136 x137 x138 x139 x140, 
 ∃ x141 x142 x143 x144, ∃ c145 : C, ∃ c146 : C, 
 ((ldA m133 (.ptr m0.nxt 0) 13) = (some [(Il x134), 
 (Il x135), (Il x136), (Il x137), 
 (Il x138), (Il x139), (Il x140), 
 (Il x141), (Il x142), (Il x143), 
 (Il x144), c145, c146])) ∧ Q (.tup [(.agg 13 [(Il x134), 
 (Il x135), (Il x136), (Il x137), 
 (Il x138), (Il x139), (Il x140), 
 (Il x141), (Il x142), (Il x143), 
 (Il x144), c145, c146]), (.c (Il 0))]) m133))))))))) : Wc prog tbl 68 [(.agg 12 [(Il a100), (Il a101), (Il a102), (Il a103), (Il a104), (Il a105), (Il a106), (Il a107), (Il a108), (Il a109), (Il a110), a111]), (.c a200)] m Q :=
 wc_eq (n := 2) rfl (by kernel_rfl) (by kernel_rfl) h
theorem w71 {a100 : Int} {a101 : Int} {a102 : Int} {a103 : Int} {a104 : Int} {a105 : Int} {a106 : Int} {a107 : Int} {a108 : Int} {a109 : Int} {a110 : Int} {a111 : C} {a200 : Int} {a201 : Int} {a202 : Int} {a203 : Int} {a300 : Int} {a400 : Int} {m : M} {Q : V → M → Prop} (h :
 (∀ m0 : M, (m0 = (M.new m (AO.cells 12 [(Il a100), (Il a101), (Il a102), 
 (Il a103), (Il a104), (Il a105), (Il a106), 
 (Il a107), (Il a108), (Il a109), (Il a110), 
 a111] false))) → ∀ m1 : M, (m1 = (M.new m0 (AO.cells 4 [(Il a200), (Il a201), 
 (Il a202), (Il a203)] false))) → ∃ x2 x3 x4, 
 ∃ x5 x6 x7 x8 x9 x10 x11 x12, 
 ∃ c13 : C, ((ldA m1 (.ptr m.nxt 0) 12) = (some [(Il x2), (Il x3), 
 (Il x4), (Il x5), (Il x6), (Il x7), 
 (Il x8), (Il x9), (Il x10), (Il x11), 
 (Il x12), c13])) ∧ ∃ x14 x15 x16 x17, 
 ((ldA m1 (.ptr m0.nxt 0) 4) = (some [(Il x14), (Il x15), 
 (Il x16), (Il x17)])) ∧ Wc prog tbl 102 [(.agg 12 [(Il x2), 
 (Il x3), (Il x4), (Il x5), (Il x6), 
 (Il x7), (Il x8), (Il x9), (Il x10), 
 (Il x11), (Il x12), c13]), (.agg 4 [(Il x14), 
 (Il x15), (Il x16), (Il x17)]), (.c (Il a300)), 
 (.c (Il a400))] m1 (fun v18 m19 => ∃ x20, (v18 = (.c (Il x20))) ∧ 
 isPt (.ptr m.nxt 0) ∧ ∃ x21, ((ldC m19 (.ptr m.nxt 0)) = (some (Il x21))) ∧ 
 ((ldC m1 (.ptr m.nxt 0)) = (some (Il x21))) ∧ fitsP .i64 (x21 - 1) ∧ 
 isPt (.ptr m0.nxt 0) ∧ ∃ x22, ((ldC m19 (.ptr m0.nxt 2)) = (some (Il x22))) ∧ 
 ((ldC m1 (.ptr m0.nxt 2)) = (some (Il x22))) ∧ ((0 : Int) ≤ (x21 - 1)) ∧ 
 ((0 : Int) ≤ x22) ∧ fitsP .i64 ((x21 - 1) * x22) ∧ Q (.c (.bool (decide (x20 ≤ ((x21 - 1) * x22))))) m19))) : Wc prog tbl 71 [(.agg 12 [(Il a100), (Il a101), (Il a102), (Il a103), (Il a104), (Il a105), (Il a106), (Il a107), (Il a108), (Il a109), (Il a110), a111]), (.agg 4 [(Il a200), (Il a201), (Il a202), (Il a203)]), (.c (Il a300)), (.c (Il a400))] m Q :=
 wc_eq (n := 4) rfl (by kernel_rfl) (by kernel_rfl) h
theorem w75 {a100 : Int} {a101 : Int} {a102 : Int} {a103 : Int} {a104 : Int} {a105 : Int} {a106 : Int} {a107 : Int} {a108 : Int} {a109 : Int} {a110 : Int} {a111 : C} {a200 : Int} {a201 : Int} {a202 : Int} {a203 : Int} {a300 : Int} {a400 : Int} {m : M} {Q : V → M → Prop} (h :
 (∀ m0 : M, (m0 = (M.new m (AO.cells 12 [(Il a100), (Il a101), (Il a102), 
 (Il a103), (Il a104), (Il a105), (Il a106), 
 (Il a107), (Il a108), (Il a109), (Il a110), 
 a111] false))) → ∀ m1 : M, (m1 = (M.new m0 (AO.cells 4 [(Il a200), (Il a201), 
 (Il a202), (Il a203)] false))) → ∃ x2 x3 x4, 
 ∃ x5 x6 x7 x8 x9 x10 x11 x12, 
 ∃ c13 : C, ((ldA m1 (.ptr m.nxt 0) 12) = (some [(Il x2), (Il x3), 
 (Il x4), (Il x5), (Il x6), (Il x7), 
 (Il x8), (Il x9), (Il x10), (Il x11), 
 (Il x12), c13])) ∧ ∃ x14 x15 x16 x17, 
 ((ldA m1 (.ptr m0.nxt 0) 4) = (some [(Il x14), (Il x15), 
 (Il x16), (Il x17)])) ∧ Wc prog tbl 112 [(.agg 12 [(Il x2), 
 (Il x3), (Il x4), (Il x5), (Il x6), 
 (Il x7), (Il x8), (Il x9), (Il x10), 
 (Il x11), (Il x12), c13]), (.agg 4 [(Il x14), 
 (Il x15), (Il x16), (Il x17)]), (.c (Il a300)), 
 (.c (Il a400))] m1 (fun v18 m19 => ∃ b20 : Bool, (v18 = (.c (.bool b20))) ∧ 
 ifB (!b20) (Q (.c (Il 0)) m19) (isPt (.ptr m0.nxt 0) ∧ 
 ∃ x21, ((ldC m19 (.ptr m0.nxt 3)) = (some (Il x21))) ∧ 
 isPt (.ptr m.nxt 0) ∧ ∃ x22, ((ldC m19 (.ptr m.nxt 2)) = (some (Il x22))) ∧ 
 ∃ x23 x24 x25 x26 x27 x28, 
 ∃ x29 x30 x31 x32 x33, ∃ c34 : C, 
 ((ldA m19 (.ptr m.nxt 0) 12) = (some [(Il x23), (Il x24), 
 (Il x25), (Il x26), (Il x27), (Il x28), 
 (Il x29), (Il x30), (Il x31), (Il x32), 
 (Il x33), c34])) ∧ ∃ x35 x36 x37 x38, 
 ((ldA m19 (.ptr m0.nxt 0) 4) = (some [(Il x35), (Il x36), 
 (Il x37), (Il x38)])) ∧ Wc prog tbl 113 [(.agg 12 [(Il x23), 
 (Il x24), (Il x25), (Il x26), (Il x27), 
 (Il x28), (Il x29), (Il x30), (Il x31), 
 (Il x32), (Il x33), c34]), (.agg 4 [(Il x35), 
 (Il x36), (Il x37), (Il x38)]), 
 (.c (Il a300)), (.c (Il a400))] m19 (fun v39 m40 => 
 ∃ x41, (v39 = (.c (Il x41))) ∧ ((ldC m40 (.ptr m.nxt 2)) = (some (Il x22))) ∧ 
 ((ldC m40 (.ptr m0.nxt 3)) = (some (Il x21))) ∧ isPt (.ptr m.nxt 0) ∧ 
 ∃ x42, ((ldC m40 (.ptr m.nxt 0)) = (some (Il x42))) ∧ 
 ((ldC m19 (.ptr m.nxt 0)) = (some (Il x42))) ∧ fitsP .i64 (x42 - 1) ∧ 
 ((0 : Int) ≤ x41) ∧ ((0 : Int) < (x42 - 1)) ∧ fitsP .i64 (x41 / (x42 - 1)) ∧ 
 ((0 : Int) ≤ x22) ∧ ((0 : Int) ≤ (x41 / (x42 - 1))) ∧ fitsP .i64 (x22 * (x41 / (x42 - 1))) ∧ 
 fitsP .i64 (x21 - (x22 * (x41 / (x42 - 1)))) ∧ Q (.c (Il (Max.max (1 : Int) (x21 - (x22 * (x41 / (x42 - 1))))))) m40))))) : Wc prog tbl 75 [(.agg 12 [(Il a100), (Il a101), (Il a102), (Il a103), (Il a104), (Il a105), (Il a106), (Il a107), (Il a108), (Il a109), (Il a110), a111]), (.agg 4 [(Il a200), (Il a201), (Il a202), (Il a203)]), (.c (Il a300)), (.c (Il a400))] m Q :=
 wc_eq (n := 4) rfl (by kernel_rfl) (by kernel_rfl) h
theorem w78 {a100 : Int} {a101 : Int} {a102 : Int} {a103 : Int} {m : M} {Q : V → M → Prop} (h :
 (∀ m0 : M, (m0 = (M.new m (AO.cells 4 [(Il a100), (Il a101), (Il a102), 
 (Il a103)] false))) → Q (.c (C.fn (Fn.func 114) [] [(W.c (C0.ptr m.nxt 0))])) m0)) : Wc prog tbl 78 [(.agg 4 [(Il a100), (Il a101), (Il a102), (Il a103)])] m Q :=
 wc_eq (n := 1) rfl (by kernel_rfl) (by kernel_rfl) h
theorem w81 {a100 : Int} {a101 : Int} {a102 : Int} {a103 : Int} {a104 : Int} {a105 : Int} {a106 : Int} {a107 : Int} {a108 : Int} {a109 : Int} {a110 : Int} {a111 : C} {m : M} {Q : V → M → Prop} (h :
 (∀ m0 : M, (m0 = (M.new m (AO.cells 12 [(Il a100), (Il a101), (Il a102), 
 (Il a103), (Il a104), (Il a105), (Il a106), 
 (Il a107), (Il a108), (Il a109), (Il a110), 
 a111] false))) → ∀ m1 : M, (m1 = (M.new m0 (AO.cells 13 [(Il 0), (Il 0), 
 (Il 0), (Il 0), (Il 0), (Il 0), 
 (Il 0), (Il 0), (Il 0), (Il 0), 
 (Il 0), C.sl0, C.map0] false))) → ∃ x2 x3 x4 x5, 
 ∃ x6 x7 x8 x9 x10 x11 x12, ∃ c13 : C, 
 ((ldA m1 (.ptr m.nxt 0) 12) = (some [(Il x2), (Il x3), 
 (Il x4), (Il x5), (Il x6), (Il x7), 
 (Il x8), (Il x9), (Il x10), (Il x11), 
 (Il x12), c13])) ∧ ∀ m14 : M, (m14 = (M.new m1 (AO.map [] 0))) → ∀ m15 : M, 
 (m15 = (M.new m14 (AO.cells 13 [(Il 0), (Il 0), 
 (Il 0), (Il 0), (Il 0), 
 (Il 0), (Il 0), (Il 0), 
 (Il 0), (Il 0), (Il 0), 
 C.sl0, C.map0] false))) → ∃ m16 : M, ((stC m15 (.ptr m14.nxt 0) 13 [(Il x2), 
 (Il x3), (Il x4), (Il x5), (Il x6), 
 (Il x7), (Il x8), (Il x9), (Il x10), 
 (Il x11), (Il x12), c13, (C.map m1.nxt)]) = (some m16)) ∧ 
 isPt (.ptr m14.nxt 0) ∧ ∃ x17 x18 x19 x20, 
 ∃ x21 x22 x23 x24 x25 x26, 
 ∃ x27, ∃ c28 : C, ((ldA m16 (.ptr m14.nxt 0) 12) = (some [(Il x17), 
 (Il x18), (Il x19), (Il x20), (Il x21), 
 (Il x22), (Il x23), (Il x24), (Il x25), 
 (Il x26), (Il x27), c28])) ∧ Wc prog tbl 116 [(.agg 12 [(Il x17), 
 (Il x18), (Il x19), (Il x20), (Il x21), 
 (Il x22), (Il x23), (Il x24), (Il x25), 
 (Il x26), (Il x27), c28])] m16 (fun v29 m30 => 
 ∃ c31 : C, (v29 = (.c c31)) ∧ rangeP prog tbl c31 m30 (fun l32 m33 R34 R35 => 
 ∃ x36 x37 x38 x39, (l32 = [(.agg 4 [(Il x36), 
 (Il x37), (Il x38), (Il x39)])]) ∧ 
 ∀ m40 : M, (m40 = (M.new m33 (AO.cells 4 [(Il 0), (Il 0), 
 (Il 0), (Il 0)] false))) → ∃ m41 : M, 
 ((stC m40 (.ptr m33.nxt 0) 4 [(Il x36), (Il x37), 
 (Il x38), (Il x39)]) = (some m41)) ∧ R34 m41 (fun m42 => 
 isPt (.ptr m14.nxt 0) ∧ ∃ c43 : C, ((ldC m42 (.ptr m14.nxt 12)) = (some c43)) ∧ 
 ∃ x44 x45 x46 x47, ((ldA m42 (.ptr m33.nxt 0) 4) = (some [(Il x44), 
 (Il x45), (Il x46), (Il x47)])) ∧ 
 ∃ x48 x49 x50 x51 x52 x53, 
 ∃ x54 x55 x56 x57 x58, ∃ c59 : C, 
 ∃ c60 : C, ((ldA m42 (.ptr m14.nxt 0) 13) = (some [(Il x48), 
 (Il x49), (Il x50), (Il x51), (Il x52), 
 (Il x53), (Il x54), (Il x55), (Il x56), 
 (Il x57), (Il x58), c59, c60])) ∧ ∃ x61, 
 ∃ x62 x63 x64, ((ldA m42 (.ptr m33.nxt 0) 4) = (some [(Il x61), 
 (Il x62), (Il x63), (Il x64)])) ∧ 
 Wc prog tbl 91 [(.agg 13 [(Il x48), (Il x49), 
 (Il x50), (Il x51), (Il x52), (Il x53), 
 (Il x54), (Il x55), (Il x56), (Il x57), 
 (Il x58), c59, c60]), (.agg 4 [(Il x61), (Il x62), 
 (Il x63), (Il x64)])] m42 (fun v65 m66 => ∃ b67 : Bool, 
 ∃ b68 : Bool, ∃ b69 : Bool, ∃ b70 : Bool, ∃ b71 : Bool, ∃ b72 : Bool, (v65 = (.agg 6 [(.bool b67), 
 (.bool b68), (.bool b69), (.bool b70), (.bool b71), (.bool b72)])) ∧ ((ldA m66 (.ptr m33.nxt 0) 4) = (some [(Il x44), 
 (Il x45), (Il x46), (Il x47)])) ∧ 
 (ifB (cmC c43) ((ldC m66 (.ptr m14.nxt 12)) = (some c43)) False) ∧ 
 ∃ m73 : M, ((upM prog 43 m66 c43 (.agg 4 [(Il x44), (Il x45), 
 (Il x46), (Il x47)]) (.agg 6 [(.bool b67), (.bool b68), 
 (.bool b69), (.bool b70), (.bool b71), (.bool b72)])) = (some m73)) ∧ 
 R35 Ex.nrm m73))) (After.mk (fun m74 => 
 ∃ x75 x76 x77 x78 x79 x80, 
 ∃ x81 x82 x83 x84 x85, ∃ c86 : C, 
 ∃ c87 : C, ((ldA m74 (.ptr m14.nxt 0) 13) = (some [(Il x75), 
 (Il x76), (Il x77), (Il x78), (Il x79), 
 (Il x80), (Il x81), (Il x82), (Il x83), 
 (Il x84), (Il x85), c86, c87])) ∧ ∃ m88 : M, ((stC m74 (.ptr m0.nxt 0) 13 [(Il x75), 
 (Il x76), (Il x77), (Il x78), (Il x79), 
 (Il x80), (Il x81), (Il x82), (Il x83), 
 (Il x84), (Il x85), c86, c87]) = (some m88)) ∧ 
 ∃ x89 x90 x91 x92 x93 x94, 
 ∃ x95 x96 x97 x98 x99, ∃ c100 : C, 
 ∃ c101 : C, ((ldA m88 (.ptr m0.nxt 0) 13) = (some [(Il x89), 
 (Il x90), (Il x91), (Il x92), (Il x93), 
 (Il x94), (Il x95), (Il x96), (Il x97), 
 (Il x98), (Il x99), c100, c101])) ∧ Q (.agg 13 [(Il x89), 
 (Il x90), (Il x91), (Il x92), (Il x93), 
 (Il x94), (Il x95), (Il x96), (Il x97), 
 (Il x98), (Il x99), c100, c101]) m88) [] (fun m102 => 
 ∃ x103 x104 x105 x106 x107 x108, 
 ∃ x109 x110 x111 x112 x113, ∃ c114 : C, 
 ∃ c115 : C, ((ldA m102 (.ptr m0.nxt 0) 13) = (some [(Il x103), 
 (Il x104), (Il x105), (Il x106), 
 (Il x107), (Il x108), (Il x109), 
 (Il x110), (Il x111), (Il x112), 
 (Il x113), c114, c115])) ∧ Q (.agg 13 [(Il x103), 
 (Il x104), (Il x105), (Il x106), 
 (Il x107), (Il x108), (Il x109), 
 (Il x110), (Il x111), (Il x112), 
 (Il x113), c114, c115]) m102))))) : Wc prog tbl 81 [(.agg 12 [(Il a100), (Il a101), (Il a102), (Il a103), (Il a104), (Il a105), (Il a106), (Il a107), (Il a108), (Il a109), (Il a110), a111])] m Q :=
 wc_eq (n := 1) rfl (by kernel_rfl) (by kernel_rfl) h
theorem w99 {a100 : Int} {a101 : Int} {a102 : Int} {a103 : Int} {a104 : Int} {a105 : Int} {a106 : Int} {a107 : Int} {a108 : Int} {a109 : Int} {a110 : Int} {a111 : C} {a112 : C} {m : M} {Q : V → M → Prop} (h :
 (∀ m0 : M, (m0 = (M.new m (AO.cells 13 [(Il a100), (Il a101), (Il a102), 
 (Il a103), (Il a104), (Il a105), (Il a106), 
 (Il a107), (Il a108), (Il a109), (Il a110), 
 a111, a112] false))) → isPt (.ptr m.nxt 0) ∧ isPt (.ptr m.nxt 0) ∧ ∃ x1, ((ldC m0 (.ptr m.nxt 0)) = (some (Il x1))) ∧ 
 ifB (decide ((2 : Int) ≤ x1)) (isPt (.ptr m.nxt 0) ∧ isPt (.ptr m.nxt 0) ∧ ∃ x2, ((ldC m0 (.ptr m.nxt 1)) = (some (Il x2))) ∧ 
 ifB (decide ((1 : Int) ≤ x2)) (isPt (.ptr m.nxt 0) ∧ isPt (.ptr m.nxt 0) ∧ ∃ x3, 
 ((ldC m0 (.ptr m.nxt 2)) = (some (Il x3))) ∧ ifB (decide ((0 : Int) ≤ x3)) (isPt (.ptr m.nxt 0) ∧ 
 isPt (.ptr m.nxt 0) ∧ ∃ x4, ((ldC m0 (.ptr m.nxt 2)) = (some (Il x4))) ∧ 
 ifB (decide (x4 ≤ 4)) (isPt (.ptr m.nxt 0) ∧ isPt (.ptr m.nxt 0) ∧ ∃ x5, 
 ∃ x6, ((ldA m0 (.ptr m.nxt 3) 2) = (some [(Il x5), 
 (Il x6)])) ∧ isPt (.ptr m.nxt 0) ∧ isPt (.ptr m.nxt 0) ∧ 
 ∃ x7, ((ldC m0 (.ptr m.nxt 1)) = (some (Il x7))) ∧ 
 fitsP .i64 (x7 - 1) ∧ Wc prog tbl 122 [(.agg 2 [(Il x5), 
 (Il x6)]), (.c (Il 0)), (.c (Il (x7 - 1)))] m0 (fun v8 m9 => 
 ∃ b10 : Bool, (v8 = (.c (.bool b10))) ∧ ifB b10 (isPt (.ptr m.nxt 0) ∧ 
 isPt (.ptr m.nxt 0) ∧ ∃ x11 x12, ((ldA m9 (.ptr m.nxt 5) 2) = (some [(Il x11), 
 (Il x12)])) ∧ isPt (.ptr m.nxt 0) ∧ isPt (.ptr m.nxt 0) ∧ 
 ∃ x13, ((ldC m9 (.ptr m.nxt 1)) = (some (Il x13))) ∧ 
 fitsP .i64 (x13 - 1) ∧ Wc prog tbl 122 [(.agg 2 [(Il x11), 
 (Il x12)]), (.c (Il 0)), (.c (Il (x13 - 1)))] m9 (fun v14 m15 => 
 ∃ b16 : Bool, (v14 = (.c (.bool b16))) ∧ ifB b16 (isPt (.ptr m.nxt 0) ∧ 
 isPt (.ptr m.nxt 0) ∧ ∃ x17 x18, ((ldA m15 (.ptr m.nxt 7) 2) = (some [(Il x17), 
 (Il x18)])) ∧ Wc prog tbl 122 [(.agg 2 [(Il x17), 
 (Il x18)]), (.c (Il 0)), (.c (Il (3 : Int)))] m15 (fun v19 m20 => 
 ∃ b21 : Bool, (v19 = (.c (.bool b21))) ∧ ifB b21 (isPt (.ptr m.nxt 0) ∧ 
 isPt (.ptr m.nxt 0) ∧ ∃ x22 x23, ((ldA m20 (.ptr m.nxt 9) 2) = (some [(Il x22), 
 (Il x23)])) ∧ Wc prog tbl 122 [(.agg 2 [(Il x22), 
 (Il x23)]), (.c (Il (1 : Int))), (.c (Il (9 : Int)))] m20 (fun v24 m25 => 
 ∃ b26 : Bool, (v24 = (.c (.bool b26))) ∧ ifB b26 (isPt (.ptr m.nxt 0) ∧ 
 isPt (.ptr m.nxt 0) ∧ ∃ c27 : C, ((ldC m25 (.ptr m.nxt 11)) = (some c27)) ∧ 
 ∃ x28 x29 x30 x31 x32 x33, 
 ∃ x34 x35 x36 x37 x38, ∃ c39 : C, 
 ∃ c40 : C, ((ldA m25 (.ptr m.nxt 0) 13) = (some [(Il x28), 
 (Il x29), (Il x30), (Il x31), (Il x32), 
 (Il x33), (Il x34), (Il x35), (Il x36), 
 (Il x37), (Il x38), c39, c40])) ∧ optB (mapO vW [(.agg 13 [(Il x28), 
 (Il x29), (Il x30), (Il x31), (Il x32), 
 (Il x33), (Il x34), (Il x35), (Il x36), 
 (Il x37), (Il x38), c39, c40])]) False fun l41 => 
 Wc prog tbl 123 [(.c c27), (.c (C.fn (Fn.func 124) l41 []))] m25 (fun v42 m43 => 
 ∃ b44 : Bool, (v42 = (.c (.bool b44))) ∧ Q (.c (.bool b44)) m43)) (Q (.c (.bool false)) m25))) (Q (.c (.bool false)) m20))) (Q (.c (.bool false)) m15))) (Q (.c (.bool false)) m9))) (Q (.c (.bool false)) m0)) (Q (.c (.bool false)) m0)) (Q (.c (.bool false)) m0)) (Q (.c (.bool false)) m0))) : Wc prog tbl 99 [(.agg 13 [(Il a100), (Il a101), (Il a102), (Il a103), (Il a104), (Il a105), (Il a106), (Il a107), (Il a108), (Il a109), (Il a110), a111, a112])] m Q :=
 wc_eq (n := 1) rfl (by kernel_rfl) (by kernel_rfl) h
theorem w102 {a100 : Int} {a101 : Int} {a102 : Int} {a103 : Int} {a104 : Int} {a105 : Int} {a106 : Int} {a107 : Int} {a108 : Int} {a109 : Int} {a110 : Int} {a111 : C} {a200 : Int} {a201 : Int} {a202 : Int} {a203 : Int} {a300 : Int} {a400 : Int} {m : M} {Q : V → M → Prop} (h :
 (∀ m0 : M, (m0 = (M.new m (AO.cells 12 [(Il a100), (Il a101), (Il a102), 
 (Il a103), (Il a104), (Il a105), (Il a106), 
 (Il a107), (Il a108), (Il a109), (Il a110), 
 a111] false))) → ∀ m1 : M, (m1 = (M.new m0 (AO.cells 4 [(Il a200), (Il a201), 
 (Il a202), (Il a203)] false))) → isPt (.ptr m.nxt 0) ∧ ∃ x2, 
 ((ldC m1 (.ptr m.nxt 0)) = (some (Il x2))) ∧ fitsP .i64 (x2 - 1) ∧ 
 ((0 : Int) ≤ (x2 - 1)) ∧ ((0 : Int) ≤ a400) ∧ fitsP .i64 ((x2 - 1) * a400) ∧ 
 isPt (.ptr m0.nxt 0) ∧ ∃ x3, ((ldC m1 (.ptr m0.nxt 0)) = (some (Il x3))) ∧ 
 fitsP .i64 ((x2 - 1) - a300) ∧ ((0 : Int) ≤ x3) ∧ ((0 : Int) ≤ ((x2 - 1) - a300)) ∧ 
 fitsP .i64 (x3 * ((x2 - 1) - a300)) ∧ fitsP .i64 (((x2 - 1) * a400) - (x3 * ((x2 - 1) - a300))) ∧ 
 isPt (.ptr m0.nxt 0) ∧ ∃ x4, ((ldC m1 (.ptr m0.nxt 1)) = (some (Il x4))) ∧ 
 ((0 : Int) ≤ x4) ∧ ((0 : Int) ≤ a300) ∧ fitsP .i64 (x4 * a300) ∧ fitsP .i64 ((((x2 - 1) * a400) - (x3 * ((x2 - 1) - a300))) - (x4 * a300)) ∧ 
 ifB (decide (((((x2 - 1) * a400) - (x3 * ((x2 - 1) - a300))) - (x4 * a300)) < (0 : Int))) (fitsP .i64 ((0 : Int) - ((((x2 - 1) * a400) - (x3 * ((x2 - 1) - a300))) - (x4 * a300))) ∧ 
 Q (.c (Il ((0 : Int) - ((((x2 - 1) * a400) - (x3 * ((x2 - 1) - a300))) - (x4 * a300))))) m1) (Q (.c (Il ((((x2 - 1) * a400) - (x3 * ((x2 - 1) - a300))) - (x4 * a300)))) m1))) : Wc prog tbl 102 [(.agg 12 [(Il a100), (Il a101), (Il a102), (Il a103), (Il a104), (Il a105), (Il a106), (Il a107), (Il a108), (Il a109), (Il a110), a111]), (.agg 4 [(Il a200), (Il a201), (Il a202), (Il a203)]), (.c (Il a300)), (.c (Il a400))] m Q :=
 wc_eq (n := 4) rfl (by kernel_rfl) (by kernel_rfl) h
theorem w105 {a100 : Int} {a101 : Int} {a102 : Int} {a103 : Int} {a104 : Int} {a105 : Int} {a106 : Int} {a107 : Int} {a108 : Int} {a109 : Int} {a110 : Int} {a111 : C} {a200 : Int} {a201 : Int} {a202 : Int} {a203 : Int} {a204 : Bool} {a205 : Int} {a206 : Int} {m : M} {Q : V → M → Prop} (h :
 (∀ m0 : M, (m0 = (M.new m (AO.cells 12 [(Il a100), (Il a101), (Il a102), 
 (Il a103), (Il a104), (Il a105), (Il a106), 
 (Il a107), (Il a108), (Il a109), (Il a110), 
 a111] false))) → ∀ m1 : M, (m1 = (M.new m0 (AO.cells 7 [(Il a200), (Il a201), 
 (Il a202), (Il a203), (.bool a204), (Il a205), (Il a206)] false))) → 
 ∃ x2 x3 x4 x5 x6 x7 x8 x9, 
 ∃ x10 x11 x12, ∃ c13 : C, ((ldA m1 (.ptr m.nxt 0) 12) = (some [(Il x2), 
 (Il x3), (Il x4), (Il x5), (Il x6), 
 (Il x7), (Il x8), (Il x9), (Il x10), 
 (Il x11), (Il x12), c13])) ∧ isPt (.ptr m0.nxt 0) ∧ ∃ x14, 
 ∃ x15, ((ldA m1 (.ptr m0.nxt 0) 2) = (some [(Il x14), (Il x15)])) ∧ 
 isPt (.ptr m0.nxt 0) ∧ ∃ x16 x17, ((ldA m1 (.ptr m0.nxt 2) 2) = (some [(Il x16), 
 (Il x17)])) ∧ Wc prog tbl 24 [(.agg 12 [(Il x2), 
 (Il x3), (Il x4), (Il x5), (Il x6), 
 (Il x7), (Il x8), (Il x9), (Il x10), 
 (Il x11), (Il x12), c13]), (.agg 4 [(Il x14), 
 (Il x15), (Il x16), (Il x17)])] m1 (fun v18 m19 => 
 ∃ b20 : Bool, (v18 = (.c (.bool b20))) ∧ ifB (!b20) (Q (.c (.bool false)) m19) (isPt (.ptr m0.nxt 0) ∧ 
 ∃ x21 x22, ((ldA m19 (.ptr m0.nxt 5) 2) = (some [(Il x21), 
 (Il x22)])) ∧ Wc prog tbl 70 [(.agg 2 [(Il x21), 
 (Il x22)]), (.c (Il 0)), (.c (Il (9 : Int)))] m19 (fun v23 m24 => 
 ∃ b25 : Bool, (v23 = (.c (.bool b25))) ∧ ifB (!b25) (Q (.c (.bool false)) m24) (isPt (.ptr m0.nxt 0) ∧ 
 ∃ b26 : Bool, ((ldC m24 (.ptr m0.nxt 4)) = (some (.bool b26))) ∧ 
 ifB b26 (Q (.c (.bool true)) m24) (isPt (.ptr m0.nxt 0) ∧ ∃ x27, 
 ∃ x28, ((ldA m24 (.ptr m0.nxt 5) 2) = (some [(Il x27), 
 (Il x28)])) ∧ fitsP .i64 x27 ∧ fitsP .i64 (0 : Int) ∧ 
 fitsP .i64 x28 ∧ fitsP .i64 (0 : Int) ∧ Q (.c (.bool ((decide (x27 = 0)) && (decide (x28 = 0))))) m24))))))) : Wc prog tbl 105 [(.agg 12 [(Il a100), (Il a101), (Il a102), (Il a103), (Il a104), (Il a105), (Il a106), (Il a107), (Il a108), (Il a109), (Il a110), a111]), (.agg 7 [(Il a200), (Il a201), (Il a202), (Il a203), (.bool a204), (Il a205), (Il a206)])] m Q :=
 wc_eq (n := 2) rfl (by kernel_rfl) (by kernel_rfl) h
theorem w108 {a100 : Int} {a101 : Int} {a102 : Int} {a103 : Int} {a104 : Int} {a105 : Int} {a106 : Int} {a107 : Int} {a108 : Int} {a109 : Int} {a110 : Int} {a111 : C} {a112 : C} {m : M} {Q : V → M → Prop} (h :
 (∀ m0 : M, (m0 = (M.new m (AO.cells 13 [(Il a100), (Il a101), (Il a102), 
 (Il a103), (Il a104), (Il a105), (Il a106), 
 (Il a107), (Il a108), (Il a109), (Il a110), 
 a111, a112] false))) → Q (.c (C.fn (Fn.func 128) [] [(W.c (C0.ptr m.nxt 0))])) m0)) : Wc prog tbl 108 [(.agg 13 [(Il a100), (Il a101), (Il a102), (Il a103), (Il a104), (Il a105), (Il a106), (Il a107), (Il a108), (Il a109), (Il a110), a111, a112])] m Q :=
 wc_eq (n := 1) rfl (by kernel_rfl) (by kernel_rfl) h
theorem w115 {a100 : Int} {a101 : Int} {m : M} {Q : V → M → Prop} (h :
 (∀ m0 : M, (m0 = (M.new m (AO.cells 2 [(Il a100), (Il a101)] false))) → Q (.c (C.fn (Fn.func 129) [] [(W.c (C0.ptr m.nxt 0))])) m0)) : Wc prog tbl 115 [(.agg 2 [(Il a100), (Il a101)])] m Q :=
 wc_eq (n := 1) rfl (by kernel_rfl) (by kernel_rfl) h
theorem w122 {a100 : Int} {a101 : Int} {a200 : Int} {a300 : Int} {m : M} {Q : V → M → Prop} (h :
 (∀ m0 : M, (m0 = (M.new m (AO.cells 2 [(Il a100), (Il a101)] false))) → isPt (.ptr m.nxt 0) ∧ 
 ∃ x1, ((ldC m0 (.ptr m.nxt 0)) = (some (Il x1))) ∧ ifB (decide (a200 ≤ x1)) (isPt (.ptr m.nxt 0) ∧ 
 ∃ x2, ((ldC m0 (.ptr m.nxt 0)) = (some (Il x2))) ∧ isPt (.ptr m.nxt 0) ∧ 
 ∃ x3, ((ldC m0 (.ptr m.nxt 1)) = (some (Il x3))) ∧ ifB (decide (x2 ≤ x3)) (isPt (.ptr m.nxt 0) ∧ 
 ∃ x4, ((ldC m0 (.ptr m.nxt 1)) = (some (Il x4))) ∧ Q (.c (.bool (decide (x4 ≤ a300)))) m0) (Q (.c (.bool false)) m0)) (Q (.c (.bool false)) m0))) : Wc prog tbl 122 [(.agg 2 [(Il a100), (Il a101)]), (.c (Il a200)), (.c (Il a300))] m Q :=
 wc_eq (n := 3) rfl (by kernel_rfl) (by kernel_rfl) h
theorem w125 {a100 : Int} {a101 : Int} {m : M} {Q : V → M → Prop} (h :
 (∀ m0 : M, (m0 = (M.new m (AO.cells 2 [(Il a100), (Il a101)] false))) → isPt (.ptr m.nxt 0) ∧ 
 ∃ x1, ((ldC m0 (.ptr m.nxt 1)) = (some (Il x1))) ∧ isPt (.ptr m.nxt 0) ∧ 
 ∃ x2, ((ldC m0 (.ptr m.nxt 0)) = (some (Il x2))) ∧ fitsP .i64 (x1 - x2) ∧ 
 fitsP .i64 ((x1 - x2) + (1 : Int)) ∧ Q (.c (Il ((x1 - x2) + (1 : Int)))) m0)) : Wc prog tbl 125 [(.agg 2 [(Il a100), (Il a101)])] m Q :=
 wc_eq (n := 1) rfl (by kernel_rfl) (by kernel_rfl) h
theorem w136 {a100 : C} {a200 : C} {m : M} {Q : V → M → Prop} (h :
 (isSl a100 ∧ ∀ R0 : List V → M → Prop, (∀ x1 : Int, ∀ x2 : Int, ∀ m3 : M, (ifB (decide (x2 < (((slLen a100) : Nat) : Int))) (∃ n4 : Nat, 
 (x2 = ((n4 : Nat) : Int)) ∧ (n4 < (slLen a100)) ∧ ∃ x5 x6 x7 x8, 
 ((ldA m3 (slAt a100 (n4 * 4)) 4) = (some [(Il x5), (Il x6), 
 (Il x7), (Il x8)])) ∧ callP prog tbl [(.agg 4 [(Il x5), 
 (Il x6), (Il x7), (Il x8)])] a200 m3 (fun v9 m10 => 
 ∃ b11 : Bool, (v9 = (.c (.bool b11))) ∧ ifB b11 (Q (.c (Il x2)) m10) (fitsP .i64 (x2 + 1) ∧ 
 R0 [(.c (Il x1)), (.c (Il (x2 + 1)))] m10))) (Q (.c (Il (-1 : Int))) m3)) → 
 R0 [(.c (Il x1)), (.c (Il x2))] m3) → R0 [(.c (Il 0)), 
 (.c (Il 0))] m)) : Wc prog tbl 136 [(.c a100), (.c a200)] m Q :=
 wc_eq (n := 2) rfl (by kernel_rfl) (by kernel_rfl) h
end
end Go.Proofs.Ytbnfnhfanooplaa

namespace Go.Proofs.Ytbnfnhfanooplaa
open _root_.Go.Proofs.Try
open Go.Abs
set_option maxRecDepth 100000
noncomputable section
theorem w14 {a100 : Int} {a101 : Int} {a102 : Int} {a103 : Int} {a104 : Int} {a105 : Int} {a106 : Int} {a107 : Int} {a108 : Int} {a109 : Int} {a110 : Int} {a111 : C} {a200 : Int} {m : M} {Q : V → M → Prop} (h :
 (∀ m0 : M, (m0 = (M.new m (AO.cells 12 [(Il a100), (Il a101), (Il a102), 
 (Il a103), (Il a104), (Il a105), (Il a106), 
 (Il a107), (Il a108), (Il a109), (Il a110), 
 a111] false))) → ∃ x1 x2 x3 x4 x5 x6 x7, 
 ∃ x8 x9 x10 x11, ∃ c12 : C, ((ldA m0 (.ptr m.nxt 0) 12) = (some [(Il x1), 
 (Il x2), (Il x3), (Il x4), (Il x5), 
 (Il x6), (Il x7), (Il x8), (Il x9), 
 (Il x10), (Il x11), c12])) ∧ Wc prog tbl 49 [(.agg 12 [(Il x1), 
 (Il x2), (Il x3), (Il x4), (Il x5), 
 (Il x6), (Il x7), (Il x8), (Il x9), 
 (Il x10), (Il x11), c12])] m0 (fun v13 m14 => ∃ b15 : Bool, 
 (v13 = (.c (.bool b15))) ∧ ifB (!b15) (Wc prog tbl 17 [] m14 (fun v16 m17 => ∃ b18 : Bool, 
 (v16 = (.c (.bool b18))) ∧ Q (.c (.bool b18)) m17)) (∃ x19 x20, 
 ∃ x21 x22 x23 x24 x25 x26 x27, 
 ∃ x28 x29, ∃ c30 : C, ((ldA m14 (.ptr m.nxt 0) 12) = (some [(Il x19), 
 (Il x20), (Il x21), (Il x22), (Il x23), 
 (Il x24), (Il x25), (Il x26), (Il x27), 
 (Il x28), (Il x29), c30])) ∧ Wc prog tbl 19 [(.agg 12 [(Il x19), 
 (Il x20), (Il x21), (Il x22), (Il x23), 
 (Il x24), (Il x25), (Il x26), (Il x27), 
 (Il x28), (Il x29), c30])] m14 (fun v31 m32 => 
 ∃ x33 x34 x35 x36 x37 x38, 
 ∃ x39 x40 x41 x42 x43, ∃ c44 : C, 
 (v31 = (.agg 12 [(Il x33), (Il x34), (Il x35), 
 (Il x36), (Il x37), (Il x38), (Il x39), 
 (Il x40), (Il x41), (Il x42), (Il x43), 
 c44])) ∧ Wc prog tbl 30 [(.agg 12 [(Il x33), (Il x34), 
 (Il x35), (Il x36), (Il x37), (Il x38), 
 (Il x39), (Il x40), (Il x41), (Il x42), 
 (Il x43), c44])] m32 (fun v45 m46 => ∃ x47 x48, 
 ∃ x49 x50, (v45 = (.tup [(.c (Il x47)), (.c (Il x48)), 
 (.c (Il x49)), (.c (Il x50))])) ∧ ifB (!decide (x50 = 0)) (ifB (decide (x50 = 11)) (Wc prog tbl 17 [] m46 (fun v51 m52 => 
 ∃ b53 : Bool, (v51 = (.c (.bool b53))) ∧ Q (.c (.bool b53)) m52)) (Q (.c (.bool false)) m46)) (isPt (.ptr m.nxt 0) ∧ 
 ∃ x54, ((ldC m46 (.ptr m.nxt 0)) = (some (Il x54))) ∧ 
 fitsP .i64 (x54 - 1) ∧ Wc prog tbl 31 [(.c (Il x47)), 
 (.c (Il 0)), (.c (Il (x54 - 1)))] m46 (fun v55 m56 => 
 ∃ b57 : Bool, (v55 = (.c (.bool b57))) ∧ ifB (!b57) (Q (.c (.bool false)) m56) (isPt (.ptr m.nxt 0) ∧ 
 ∃ x58, ((ldC m56 (.ptr m.nxt 1)) = (some (Il x58))) ∧ 
 fitsP .i64 (x58 - 1) ∧ Wc prog tbl 31 [(.c (Il x48)), 
 (.c (Il 0)), (.c (Il (x58 - 1)))] m56 (fun v59 m60 => 
 ∃ b61 : Bool, (v59 = (.c (.bool b61))) ∧ ifB (!b61) (Q (.c (.bool false)) m60) (∀ m62 : M, 
 (m62 = (M.new m60 (AO.cells 4 [(Il 0), (Il 0), 
 (Il 0), (Il 0)] false))) → ∃ m63 : M, 
 ((stC m62 (.ptr m60.nxt 0) 4 [(Il x47), (Il x47), 
 (Il x48), (Il x48)]) = (some m63)) ∧ ∀ m64 : M, 
 (m64 = (mGrow m63 1)) → ∃ x65 x66 x67 x68, 
 ∃ x69 x70 x71 x72 x73 x74, 
 ∃ x75, ∃ c76 : C, ((ldA m64 (.ptr m.nxt 0) 12) = (some [(Il x65), 
 (Il x66), (Il x67), (Il x68), (Il x69), 
 (Il x70), (Il x71), (Il x72), (Il x73), 
 (Il x74), (Il x75), c76])) ∧ ∃ x77 x78, 
 ∃ x79 x80 x81 x82 x83 x84, 
 ∃ x85 x86 x87, ∃ c88 : C, ((ldA m64 (.ptr m.nxt 0) 12) = (some [(Il x77), 
 (Il x78), (Il x79), (Il x80), (Il x81), 
 (Il x82), (Il x83), (Il x84), (Il x85), 
 (Il x86), (Il x87), c88])) ∧ ∀ m89 : M, (m89 = (M.new m64 (AO.cells 12 [(Il 0), 
 (Il 0), (Il 0), (Il 0), 
 (Il 0), (Il 0), (Il 0), 
 (Il 0), (Il 0), (Il 0), 
 (Il 0), C.sl0] false))) → (ifB (allS cmC [(Il x77), 
 (Il x78), (Il x79), (Il x80), (Il x81), 
 (Il x82), (Il x83), (Il x84), (Il x85), 
 (Il x86), (Il x87), c88]) ((ldA m89 (.ptr m.nxt 0) 12) = (some [(Il x77), 
 (Il x78), (Il x79), (Il x80), (Il x81), 
 (Il x82), (Il x83), (Il x84), (Il x85), 
 (Il x86), (Il x87), c88])) False) ∧ (ifB (allS cmC [(Il x65), 
 (Il x66), (Il x67), (Il x68), (Il x69), 
 (Il x70), (Il x71), (Il x72), (Il x73), 
 (Il x74), (Il x75), c76]) ((ldA m89 (.ptr m.nxt 0) 12) = (some [(Il x65), 
 (Il x66), (Il x67), (Il x68), (Il x69), 
 (Il x70), (Il x71), (Il x72), (Il x73), 
 (Il x74), (Il x75), c76])) False) ∧ ∀ m90 : M, 
 (m90 = (M.set m89 (m63.nxt + 0) (AO.cells 12 [(Il 0), 
 (Il 0), (Il 0), (Il 0), 
 (Il 0), (Il 0), (Il 0), 
 (Il 0), (Il 0), (Il 0), 
 (Il 0), C.sl0] false))) → (ifB (allS cmC [(Il x77), 
 (Il x78), (Il x79), (Il x80), (Il x81), 
 (Il x82), (Il x83), (Il x84), (Il x85), 
 (Il x86), (Il x87), c88]) ((ldA m90 (.ptr m.nxt 0) 12) = (some [(Il x77), 
 (Il x78), (Il x79), (Il x80), (Il x81), 
 (Il x82), (Il x83), (Il x84), (Il x85), 
 (Il x86), (Il x87), c88])) False) ∧ (ifB (allS cmC [(Il x65), 
 (Il x66), (Il x67), (Il x68), (Il x69), 
 (Il x70), (Il x71), (Il x72), (Il x73), 
 (Il x74), (Il x75), c76]) ((ldA m90 (.ptr m.nxt 0) 12) = (some [(Il x65), 
 (Il x66), (Il x67), (Il x68), (Il x69), 
 (Il x70), (Il x71), (Il x72), (Il x73), 
 (Il x74), (Il x75), c76])) False) ∧ ∃ m91 : M, 
 ((stC m90 (.ptr m64.nxt 0) 12 [(Il x65), (Il x66), 
 (Il x67), (Il x68), (Il x69), (Il x70), 
 (Il x71), (Il x72), (Il x73), (Il x74), 
 (Il x75), c76]) = (some m91)) ∧ (ifB (allS cmC [(Il x77), 
 (Il x78), (Il x79), (Il x80), (Il x81), 
 (Il x82), (Il x83), (Il x84), (Il x85), 
 (Il x86), (Il x87), c88]) ((ldA m91 (.ptr m.nxt 0) 12) = (some [(Il x77), 
 (Il x78), (Il x79), (Il x80), (Il x81), 
 (Il x82), (Il x83), (Il x84), (Il x85), 
 (Il x86), (Il x87), c88])) False) ∧ ∃ m92 : M, 
 ((stC m91 (.ptr (m63.nxt + 0) 0) 12 [(Il x77), (Il x78), 
 (Il x79), (Il x80), (Il x81), (Il x82), 
 (Il x83), (Il x84), (Il x85), (Il x86), 
 (Il x87), c88]) = (some m92)) ∧ ∀ m93 : M, (m93 = (mGrow m92 1)) → 
 ∀ m94 : M, (m94 = (M.new m93 (AO.cells 0 [] false))) → isPt (.ptr m.nxt 0) ∧ 
 ∃ c95 : C, ((ldC m94 (.ptr m.nxt 11)) = (some c95)) ∧ (ifB (cmC c95) ((ldC m93 (.ptr m.nxt 11)) = (some c95)) False) ∧ 
 ∃ c96 : C, ∃ m97 : M, (ApR prog 24 m94 (.sl m93.nxt 0 0 0 (some 0)) c95 c96 m97) ∧ 
 isPt (.ptr m60.nxt 0) ∧ ∃ x98 x99, ((ldA m97 (.ptr m60.nxt 0) 2) = (some [(Il x98), 
 (Il x99)])) ∧ ((ldA m94 (.ptr m60.nxt 0) 2) = (some [(Il x98), 
 (Il x99)])) ∧ ((ldA m93 (.ptr m60.nxt 0) 2) = (some [(Il x98), 
 (Il x99)])) ∧ isPt (.ptr m60.nxt 0) ∧ ∃ x100 x101, 
 ((ldA m97 (.ptr m60.nxt 2) 2) = (some [(Il x100), (Il x101)])) ∧ 
 ((ldA m94 (.ptr m60.nxt 2) 2) = (some [(Il x100), (Il x101)])) ∧ 
 ((ldA m93 (.ptr m60.nxt 2) 2) = (some [(Il x100), (Il x101)])) ∧ 
 ∀ m102 : M, (m102 = (M.set m97 (m92.nxt + 0) (AO.cells 7 [(Il x98), 
 (Il x99), (Il x100), (Il x101), 
 (.bool true), (Il 0), (Il (9 : Int))] false))) → 
 (ifB (cmC c95) ((ldC m102 (.ptr m.nxt 11)) = (some c95)) False) ∧ 
 ∃ c103 : C, ∃ m104 : M, (ApR prog 24 m102 c96 (.sl (m92.nxt + 0) 0 1 0 (some 1)) c103 m104) ∧ 
 isPt (.ptr m64.nxt 0) ∧ ∃ m105 : M, ((stC m104 (.ptr m64.nxt 11) 1 [c103]) = (some m105)) ∧ 
 ∀ m106 : M, (m106 = (mGrow m105 1)) → ∀ m107 : M, (m107 = (M.new m106 (AO.cells 0 [] false))) → 
 isPt (.ptr m.nxt 0) ∧ ∃ c108 : C, ((ldC m107 (.ptr m.nxt 11)) = (some c108)) ∧ 
 (ifB (cmC c108) ((ldC m106 (.ptr m.nxt 11)) = (some c108)) False) ∧ 
 ∃ c109 : C, ∃ m110 : M, (ApR prog 24 m107 (.sl m106.nxt 0 0 0 (some 0)) c108 c109 m110) ∧ 
 isPt (.ptr m60.nxt 0) ∧ ∃ x111 x112, ((ldA m110 (.ptr m60.nxt 0) 2) = (some [(Il x111), 
 (Il x112)])) ∧ ((ldA m107 (.ptr m60.nxt 0) 2) = (some [(Il x111), 
 (Il x112)])) ∧ ((ldA m106 (.ptr m60.nxt 0) 2) = (some [(Il x111), 
 (Il x112)])) ∧ isPt (.ptr m60.nxt 0) ∧ ∃ x113 x114, 
 ((ldA m110 (.ptr m60.nxt 2) 2) = (some [(Il x113), 
 (Il x114)])) ∧ ((ldA m107 (.ptr m60.nxt 2) 2) = (some [(Il x113), 
 (Il x114)])) ∧ ((ldA m106 (.ptr m60.nxt 2) 2) = (some [(Il x113), 
 (Il x114)])) ∧ ∀ m115 : M, (m115 = (M.set m110 (m105.nxt + 0) (AO.cells 7 [(Il x111), 
 (Il x112), (Il x113), (Il x114), 
 (.bool false), (Il 0), (Il 0)] false))) → 
 (ifB (cmC c108) ((ldC m115 (.ptr m.nxt 11)) = (some c108)) False) ∧ 
 ∃ c116 : C, ∃ m117 : M, (ApR prog 24 m115 c109 (.sl (m105.nxt + 0) 0 1 0 (some 1)) c116 m117) ∧ 
 isPt (.ptr (m63.nxt + 0) 0) ∧ ∃ m118 : M, ((stC m117 (.ptr (m63.nxt + 0) 11) 1 [c116]) = (some m118)) ∧ 
 ∃ x119 x120 x121 x122 x123 x124, 
 ∃ x125 x126 x127 x128 x129, ∃ c130 : C, 
 ((ldA m118 (.ptr m64.nxt 0) 12) = (some [(Il x119), 
 (Il x120), (Il x121), (Il x122), 
 (Il x123), (Il x124), (Il x125), 
 (Il x126), (Il x127), (Il x128), 
 (Il x129), c130])) ∧ Wc prog tbl 63 [(.agg 12 [(Il x119), 
 (Il x120), (Il x121), (Il x122), 
 (Il x123), (Il x124), (Il x125), 
 (Il x126), (Il x127), (Il x128), 
 (Il x129), c130])] m118 (fun v131 m132 => ∃ c133 : C, (v131 = (.c c133)) ∧ 
 isSl c133 ∧ ∃ x134 x135 x136 x137 x138, 
 ∃ x139 x140 x141 x142 x143 x144, 
 ∃ c145 : C, ((ldA m132 (.ptr (m63.nxt + 0) 0) 12) = (some [(Il x134), 
 (Il x135), (Il x136), (Il x137), 
 (Il x138), (Il x139), (Il x140), 
 (Il x141), (Il x142), (Il x143), 
 (Il x144), c145])) ∧ (ifB (allS cmC [(Il x134), 
 (Il x135), (Il x136), (Il x137), 
 (Il x138), (Il x139), (Il x140), 
 (Il x141), (Il x142), (Il x143), 
 (Il x144), c145]) ((ldA m118 (.ptr (m63.nxt + 0) 0) 12) = (some [(Il x134), 
 (Il x135), (Il x136), (Il x137), 
 (Il x138), (Il x139), (Il x140), 
 (Il x141), (Il x142), (Il x143), 
 (Il x144), c145])) False) ∧ Wc prog tbl 63 [(.agg 12 [(Il x134), 
 (Il x135), (Il x136), (Il x137), 
 (Il x138), (Il x139), (Il x140), 
 (Il x141), (Il x142), (Il x143), 
 (Il x144), c145])] m132 (fun v146 m147 => ∃ c148 : C, (v146 = (.c c148)) ∧ 
 (isSl c133 ∧ (V.c (Il (((slLen c133) : Nat) : Int))) = (V.c (Il (((slLen c133) : Nat) : Int)))) ∧ 
 isSl c148 ∧ ∃ x149 x150 x151 x152 x153, 
 ∃ x154 x155 x156 x157 x158 x159, 
 ∃ c160 : C, ((ldA m147 (.ptr m.nxt 0) 12) = (some [(Il x149), 
 (Il x150), (Il x151), (Il x152), 
 (Il x153), (Il x154), (Il x155), 
 (Il x156), (Il x157), (Il x158), 
 (Il x159), c160])) ∧ Wc prog tbl 51 [(.agg 12 [(Il x149), 
 (Il x150), (Il x151), (Il x152), 
 (Il x153), (Il x154), (Il x155), 
 (Il x156), (Il x157), (Il x158), 
 (Il x159), c160]), (.c (C.int .u16 a200))] m147 (fun v161 m162 => 
 ∃ x163 x164 x165 x166, (v161 = (.agg 4 [(Il x163), 
 (Il x164), (Il x165), (Il x166)])) ∧ 
 ∀ m167 : M, (m167 = (M.new m162 (AO.cells 4 [(Il 0), 
 (Il 0), (Il 0), (Il 0)] false))) → 
 ∃ m168 : M, ((stC m167 (.ptr m162.nxt 0) 4 [(Il x163), (Il x164), 
 (Il x165), (Il x166)]) = (some m168)) ∧ 
 ∃ x169 x170 x171 x172 x173 x174, 
 ∃ x175 x176 x177 x178 x179, ∃ c180 : C, 
 ((ldA m168 (.ptr m.nxt 0) 12) = (some [(Il x169), (Il x170), 
 (Il x171), (Il x172), (Il x173), 
 (Il x174), (Il x175), (Il x176), 
 (Il x177), (Il x178), (Il x179), 
 c180])) ∧ ∃ x181 x182 x183 x184 x185, 
 ∃ x186 x187 x188 x189 x190 x191, 
 ∃ c192 : C, ((ldA m168 (.ptr m.nxt 0) 12) = (some [(Il x181), 
 (Il x182), (Il x183), (Il x184), 
 (Il x185), (Il x186), (Il x187), 
 (Il x188), (Il x189), (Il x190), 
 (Il x191), c192])) ∧ Wc prog tbl 63 [(.agg 12 [(Il x181), 
 (Il x182), (Il x183), (Il x184), 
 (Il x185), (Il x186), (Il x187), 
 (Il x188), (Il x189), (Il x190), 
 (Il x191), c192])] m168 (fun v193 m194 => ∃ c195 : C, (v193 = (.c c195)) ∧ 
 (ifB (allS cmC [(Il x169), (Il x170), (Il x171), 
 (Il x172), (Il x173), (Il x174), 
 (Il x175), (Il x176), (Il x177), 
 (Il x178), (Il x179), c180]) ((ldA m194 (.ptr m.nxt 0) 12) = (some [(Il x169), 
 (Il x170), (Il x171), (Il x172), 
 (Il x173), (Il x174), (Il x175), 
 (Il x176), (Il x177), (Il x178), 
 (Il x179), c180])) False) ∧ isPt (.ptr m162.nxt 0) ∧ isPt (.ptr m162.nxt 0) ∧ 
 ∃ x196, ((ldC m194 (.ptr m162.nxt 0)) = (some (Il x196))) ∧ 
 ((ldC m168 (.ptr m162.nxt 0)) = (some (Il x196))) ∧ 
 isPt (.ptr m162.nxt 0) ∧ isPt (.ptr m162.nxt 2) ∧ ∃ x197, ((ldC m194 (.ptr m162.nxt 2)) = (some (Il x197))) ∧ 
 ((ldC m168 (.ptr m162.nxt 2)) = (some (Il x197))) ∧ 
 Wc prog tbl 64 [(.agg 12 [(Il x169), (Il x170), 
 (Il x171), (Il x172), (Il x173), 
 (Il x174), (Il x175), (Il x176), 
 (Il x177), (Il x178), (Il x179), 
 c180]), (.c c195), (.c (Il x196)), (.c (Il x197))] m194 (fun v198 m199 => 
 ∃ x200, (v198 = (.c (Il x200))) ∧ ifB (decide ((((slLen c133) : Nat) : Int) ≤ x49)) (ifB (decide ((((slLen c148) : Nat) : Int) ≤ x49)) (ifB (decide ((Max.max (((slLen c133) : Nat) : Int) (((slLen c148) : Nat) : Int)) = x49)) (ifB (decide (x49 ≤ x200)) (Wc prog tbl 17 [] m199 (fun v201 m202 => 
 ∃ b203 : Bool, (v201 = (.c (.bool b203))) ∧ Q (.c (.bool b203)) m202)) (Q (.c (.bool false)) m199)) (Q (.c (.bool false)) m199)) (Q (.c (.bool false)) m199)) (Q (.c (.bool false)) m199))))))))))))))))) : Wc prog tbl 14 [(.agg 12 [(Il a100), (Il a101), (Il a102), (Il a103), (Il a104), (Il a105), (Il a106), (Il a107), (Il a108), (Il a109), (Il a110), a111]), (.c (C.int .u16 a200))] m Q :=
 wc_eq (n := 2) rfl (by kernel_rfl) (by kernel_rfl) h
theorem w24 {a100 : Int} {a101 : Int} {a102 : Int} {a103 : Int} {a104 : Int} {a105 : Int} {a106 : Int} {a107 : Int} {a108 : Int} {a109 : Int} {a110 : Int} {a111 : C} {a200 : Int} {a201 : Int} {a202 : Int} {a203 : Int} {m : M} {Q : V → M → Prop} (h :
 (∀ m0 : M, (m0 = (M.new m (AO.cells 12 [(Il a100), (Il a101), (Il a102), 
 (Il a103), (Il a104), (Il a105), (Il a106), 
 (Il a107), (Il a108), (Il a109), (Il a110), 
 a111] false))) → ∀ m1 : M, (m1 = (M.new m0 (AO.cells 4 [(Il a200), (Il a201), 
 (Il a202), (Il a203)] false))) → isPt (.ptr m0.nxt 0) ∧ ∃ x2, 
 ∃ x3, ((ldA m1 (.ptr m0.nxt 0) 2) = (some [(Il x2), (Il x3)])) ∧ 
 isPt (.ptr m.nxt 0) ∧ ∃ x4, ((ldC m1 (.ptr m.nxt 0)) = (some (Il x4))) ∧ 
 fitsP .i64 (x4 - 1) ∧ Wc prog tbl 70 [(.agg 2 [(Il x2), (Il x3)]), 
 (.c (Il 0)), (.c (Il (x4 - 1)))] m1 (fun v5 m6 => 
 ∃ b7 : Bool, (v5 = (.c (.bool b7))) ∧ ifB b7 (isPt (.ptr m0.nxt 0) ∧ ∃ x8 x9, 
 ((ldA m6 (.ptr m0.nxt 2) 2) = (some [(Il x8), (Il x9)])) ∧ 
 isPt (.ptr m.nxt 0) ∧ ∃ x10, ((ldC m6 (.ptr m.nxt 1)) = (some (Il x10))) ∧ 
 fitsP .i64 (x10 - 1) ∧ Wc prog tbl 70 [(.agg 2 [(Il x8), 
 (Il x9)]), (.c (Il 0)), (.c (Il (x10 - 1)))] m6 (fun v11 m12 => 
 ∃ b13 : Bool, (v11 = (.c (.bool b13))) ∧ Q (.c (.bool b13)) m12)) (Q (.c (.bool false)) m6)))) : Wc prog tbl 24 [(.agg 12 [(Il a100), (Il a101), (Il a102), (Il a103), (Il a104), (Il a105), (Il a106), (Il a107), (Il a108), (Il a109), (Il a110), a111]), (.agg 4 [(Il a200), (Il a201), (Il a202), (Il a203)])] m Q :=
 wc_eq (n := 2) rfl (by kernel_rfl) (by kernel_rfl) h
theorem w30 {a100 : Int} {a101 : Int} {a102 : Int} {a103 : Int} {a104 : Int} {a105 : Int} {a106 : Int} {a107 : Int} {a108 : Int} {a109 : Int} {a110 : Int} {a111 : C} {m : M} {Q : V → M → Prop} (h :
 (∀ m0 : M, (m0 = (M.new m (AO.cells 12 [(Il a100), (Il a101), (Il a102), 
 (Il a103), (Il a104), (Il a105), (Il a106), 
 (Il a107), (Il a108), (Il a109), (Il a110), 
 a111] false))) → ∀ m1 : M, (m1 = (M.new m0 (AO.cells 1 [(Il 0)] false))) → ∀ m2 : M, 
 (m2 = (M.new m1 (AO.cells 1 [(Il 0)] false))) → ∀ m3 : M, (m3 = (M.new m2 (AO.cells 1 [(Il 0)] false))) → 
 ∃ x4 x5 x6 x7 x8 x9 x10 x11, 
 ∃ x12 x13 x14, ∃ c15 : C, ((ldA m3 (.ptr m.nxt 0) 12) = (some [(Il x4), 
 (Il x5), (Il x6), (Il x7), (Il x8), 
 (Il x9), (Il x10), (Il x11), (Il x12), 
 (Il x13), (Il x14), c15])) ∧ Wc prog tbl 68 [(.agg 12 [(Il x4), 
 (Il x5), (Il x6), (Il x7), (Il x8), 
 (Il x9), (Il x10), (Il x11), (Il x12), 
 (Il x13), (Il x14), c15]), (.c C.sl0)] m3 (fun v16 m17 => 
 ∃ x18 x19 x20 x21 x22 x23, 
 ∃ x24 x25 x26 x27 x28, ∃ c29 : C, 
 ∃ c30 : C, ∃ x31, (v16 = (.tup [(.agg 13 [(Il x18), 
 (Il x19), (Il x20), (Il x21), (Il x22), 
 (Il x23), (Il x24), (Il x25), (Il x26), 
 (Il x27), (Il x28), c29, c30]), (.c (Il x31))])) ∧ 
 ∀ m32 : M, (m32 = (M.new m17 (AO.cells 13 [(Il 0), (Il 0), 
 (Il 0), (Il 0), (Il 0), 
 (Il 0), (Il 0), (Il 0), 
 (Il 0), (Il 0), (Il 0), 
 C.sl0, C.map0] false))) → ∃ m33 : M, ((stC m32 (.ptr m17.nxt 0) 13 [(Il x18), 
 (Il x19), (Il x20), (Il x21), (Il x22), 
 (Il x23), (Il x24), (Il x25), (Il x26), 
 (Il x27), (Il x28), c29, c30]) = (some m33)) ∧ 
 ifB (!decide (x31 = 0)) (∃ m34 : M, ((stC m33 (.ptr m0.nxt 0) 1 [(Il 0)]) = (some m34)) ∧ 
 ∃ m35 : M, ((stC m34 (.ptr m1.nxt 0) 1 [(Il 0)]) = (some m35)) ∧ 
 ∃ m36 : M, ((stC m35 (.ptr m2.nxt 0) 1 [(Il 0)]) = (some m36)) ∧ 
 ∃ x37, ((ldC m36 (.ptr m0.nxt 0)) = (some (Il x37))) ∧ 
 ∃ x38, ((ldC m36 (.ptr m1.nxt 0)) = (some (Il x38))) ∧ 
 ∃ x39, ((ldC m36 (.ptr m2.nxt 0)) = (some (Il x39))) ∧ 
 Q (.tup [(.c (Il x37)), (.c (Il x38)), (.c (Il x39)), 
 (.c (Il x31))]) m36) (∃ x40 x41, 
 ∃ x42 x43 x44 x45 x46 x47, 
 ∃ x48 x49 x50, ∃ c51 : C, ∃ c52 : C, ((ldA m33 (.ptr m17.nxt 0) 13) = (some [(Il x40), 
 (Il x41), (Il x42), (Il x43), (Il x44), 
 (Il x45), (Il x46), (Il x47), (Il x48), 
 (Il x49), (Il x50), c51, c52])) ∧ Wc prog tbl 76 [(.agg 13 [(Il x40), 
 (Il x41), (Il x42), (Il x43), (Il x44), 
 (Il x45), (Il x46), (Il x47), (Il x48), 
 (Il x49), (Il x50), c51, c52])] m33 (fun v53 m54 => 
 ∃ l55 : List C, ∃ x56, (v53 = (.tup [(.agg 144 l55), (.c (Il x56))])) ∧ 
 ∀ m57 : M, (m57 = (M.new m54 (AO.cells 144 [(Il 0), 
 (Il 0), (Il 0), (Il 0), 
 (Il 0), (Il 0), (Il 0), 
 (Il 0), (Il 0), (Il 0), 
 (Il 0), (Il 0), (Il 0), 
 (Il 0), (Il 0), (Il 0), 
 (Il 0), (Il 0), (Il 0), 
 (Il 0), (Il 0), (Il 0), 
 (Il 0), (Il 0), (Il 0), 
 (Il 0), (Il 0), (Il 0), 
 (Il 0), (Il 0), (Il 0), 
 (Il 0), (Il 0), (Il 0), 
 (Il 0), (Il 0), (Il 0), 
 (Il 0), (Il 0), (Il 0), 
 (Il 0), (Il 0), (Il 0), 
 (Il 0), (Il 0), (Il 0), 
 (Il 0), (Il 0), (Il 0), 
 (Il 0), (Il 0), (Il 0), 
 (Il 0), (Il 0), (Il 0), 
 (Il 0), (Il 0), (Il 0), 
 (Il 0), (Il 0), (Il 0), 
 (Il 0), (Il 0), (Il 0), 
 (Il 0), (Il 0), (Il 0), 
 (Il 0), (Il 0), (Il 0), 
 (Il 0), (Il 0), (Il 0), 
 (Il 0), (Il 0), (Il 0), 
 (Il 0), (Il 0), (Il 0), 
 (Il 0), (Il 0), (Il 0), 
 (Il 0), (Il 0), (Il 0), 
 (Il 0), (Il 0), (Il 0), 
 (Il 0), (Il 0), (Il 0), 
 (Il 0), (Il 0), (Il 0), 
 (Il 0), (Il 0), (Il 0), 
 (Il 0), (Il 0), (Il 0), 
 (Il 0), (Il 0), (Il 0), 
 (Il 0), (Il 0), (Il 0), 
 (Il 0), (Il 0), (Il 0), 
 (Il 0), (Il 0), (Il 0), 
 (Il 0), (Il 0), (Il 0), 
 (Il 0), (Il 0), (Il 0), 
 (Il 0), (Il 0), (Il 0), 
 (Il 0), (Il 0), (Il 0), 
 (Il 0), (Il 0), (Il 0), 
 (Il 0), (Il 0), (Il 0), 
 (Il 0), (Il 0), (Il 0), 
 (Il 0), (Il 0), (Il 0), 
 (Il 0), (Il 0), (Il 0), 
 (Il 0), (Il 0), (Il 0), 
 (Il 0), (Il 0)] false))) → ∀ m58 : M, 
 (m58 = (M.new m57 (AO.cells 1 [(Il 0)] false))) → ∃ m59 : M, 
 ((stC m58 (.ptr m54.nxt 0) 144 l55) = (some m59)) ∧ ∃ m60 : M, ((stC m59 (.ptr m57.nxt 0) 1 [(Il x56)]) = (some m60)) ∧ 
 ∃ x61, ((ldC m60 (.ptr m57.nxt 0)) = (some (Il x61))) ∧ 
 ∃ m62 : M, ((stC m60 (.ptr m2.nxt 0) 1 [(Il x61)]) = (some m62)) ∧ 
 isPt (.ptr m17.nxt 0) ∧ ∃ x63 x64 x65 x66, 
 ∃ x67 x68 x69 x70 x71 x72, 
 ∃ x73, ∃ c74 : C, ((ldA m62 (.ptr m17.nxt 0) 12) = (some [(Il x63), 
 (Il x64), (Il x65), (Il x66), (Il x67), 
 (Il x68), (Il x69), (Il x70), (Il x71), 
 (Il x72), (Il x73), c74])) ∧ Wc prog tbl 77 [(.agg 12 [(Il x63), 
 (Il x64), (Il x65), (Il x66), (Il x67), 
 (Il x68), (Il x69), (Il x70), (Il x71), 
 (Il x72), (Il x73), c74])] m62 (fun v75 m76 => 
 ∃ x77 x78 x79 x80, (v75 = (.agg 4 [(Il x77), 
 (Il x78), (Il x79), (Il x80)])) ∧ 
 Wc prog tbl 78 [(.agg 4 [(Il x77), (Il x78), 
 (Il x79), (Il x80)])] m76 (fun v81 m82 => ∃ c83 : C, 
 (v81 = (.c c83)) ∧ rangeP prog tbl c83 m82 (fun l84 m85 R86 R87 => ∃ x88, 
 ∃ x89, (l84 = [(.c (Il x88)), (.c (Il x89))]) ∧ 
 R86 m85 (fun m90 => isPt (.ptr m54.nxt 0) ∧ ∃ n91 : Nat, (x88 = ((n91 : Nat) : Int)) ∧ 
 (n91 < 12) ∧ isPt (.ptr m54.nxt (0 + (n91 * 12))) ∧ ∃ n92 : Nat, (x89 = ((n92 : Nat) : Int)) ∧ 
 (n92 < 12) ∧ ∃ x93, ((ldC m90 (.ptr m54.nxt ((0 + (n91 * 12)) + (n92 * 1)))) = (some (Il x93))) ∧ 
 ∃ x94, ((ldC m90 (.ptr m57.nxt 0)) = (some (Il x94))) ∧ 
 fitsP .i64 (x94 - x93) ∧ ∃ x95, ((ldC m90 (.ptr m2.nxt 0)) = (some (Il x95))) ∧ 
 ifB (decide ((Max.max x93 (x94 - x93)) < x95)) (∃ m96 : M, ((stC m90 (.ptr m0.nxt 0) 1 [(Il x88)]) = (some m96)) ∧ 
 ∃ m97 : M, ((stC m96 (.ptr m1.nxt 0) 1 [(Il x89)]) = (some m97)) ∧ 
 ∃ m98 : M, ((stC m97 (.ptr m2.nxt 0) 1 [(Il (Max.max x93 (x94 - x93)))]) = (some m98)) ∧ 
 R87 Ex.nrm m98) (R87 Ex.nrm m90))) (After.mk (fun m99 => 
 ∃ x100, ((ldC m99 (.ptr m0.nxt 0)) = (some (Il x100))) ∧ 
 ∃ x101, ((ldC m99 (.ptr m1.nxt 0)) = (some (Il x101))) ∧ 
 ∃ x102, ((ldC m99 (.ptr m2.nxt 0)) = (some (Il x102))) ∧ 
 ∃ m103 : M, ((stC m99 (.ptr m0.nxt 0) 1 [(Il x100)]) = (some m103)) ∧ 
 ((ldC m103 (.ptr m2.nxt 0)) = (some (Il x102))) ∧ ((ldC m103 (.ptr m1.nxt 0)) = (some (Il x101))) ∧ 
 ∃ m104 : M, ((stC m103 (.ptr m1.nxt 0) 1 [(Il x101)]) = (some m104)) ∧ 
 ((ldC m104 (.ptr m2.nxt 0)) = (some (Il x102))) ∧ ∃ m105 : M, 
 ((stC m104 (.ptr m2.nxt 0) 1 [(Il x102)]) = (some m105)) ∧ 
 ∃ x106, ((ldC m105 (.ptr m0.nxt 0)) = (some (Il x106))) ∧ 
 ∃ x107, ((ldC m105 (.ptr m1.nxt 0)) = (some (Il x107))) ∧ 
 ∃ x108, ((ldC m105 (.ptr m2.nxt 0)) = (some (Il x108))) ∧ 
 Q (.tup [(.c (Il x106)), (.c (Il x107)), (.c (Il x108)), 
 (.c (Il 0))]) m105) [] (fun m109 => 
 ∃ x110, ((ldC m109 (.ptr m0.nxt 0)) = (some (Il x110))) ∧ 
 ∃ x111, ((ldC m109 (.ptr m1.nxt 0)) = (some (Il x111))) ∧ 
 ∃ x112, ((ldC m109 (.ptr m2.nxt 0)) = (some (Il x112))) ∧ 
 Q (.tup [(.c (Il x110)), (.c (Il x111)), (.c (Il x112)), 
 (.c (Il x31))]) m109))))))))) : Wc prog tbl 30 [(.agg 12 [(Il a100), (Il a101), (Il a102), (Il a103), (Il a104), (Il a105), (Il a106), (Il a107), (Il a108), (Il a109), (Il a110), a111])] m Q :=
 wc_eq (n := 1) rfl (by kernel_rfl) (by kernel_rfl) h
theorem w48 {a100 : Int} {a101 : Int} {a102 : Int} {a103 : Int} {a104 : Int} {a105 : Int} {a106 : Int} {a107 : Int} {a108 : Int} {a109 : Int} {a110 : Int} {a111 : C} {m : M} {Q : V → M → Prop} (h :
 (∀ m0 : M, (m0 = (M.new m (AO.cells 12 [(Il a100), (Il a101), (Il a102), 
 (Il a103), (Il a104), (Il a105), (Il a106), 
 (Il a107), (Il a108), (Il a109), (Il a110), 
 a111] false))) → ∃ x1 x2 x3 x4 x5 x6 x7, 
 ∃ x8 x9 x10 x11, ∃ c12 : C, ((ldA m0 (.ptr m.nxt 0) 12) = (some [(Il x1), 
 (Il x2), (Il x3), (Il x4), (Il x5), 
 (Il x6), (Il x7), (Il x8), (Il x9), 
 (Il x10), (Il x11), c12])) ∧ Wc prog tbl 98 [(.agg 12 [(Il x1), 
 (Il x2), (Il x3), (Il x4), (Il x5), 
 (Il x6), (Il x7), (Il x8), (Il x9), 
 (Il x10), (Il x11), c12])] m0 (fun v13 m14 => ∃ b15 : Bool, 
 (v13 = (.c (.bool b15))) ∧ ifB b15 (Q (.c (Il (3 : Int))) m14) (∃ x16, 
 ∃ x17 x18 x19 x20 x21 x22 x23, 
 ∃ x24 x25 x26, ∃ c27 : C, ((ldA m14 (.ptr m.nxt 0) 12) = (some [(Il x16), 
 (Il x17), (Il x18), (Il x19), (Il x20), 
 (Il x21), (Il x22), (Il x23), (Il x24), 
 (Il x25), (Il x26), c27])) ∧ Wc prog tbl 99 [(.agg 13 [(Il x16), 
 (Il x17), (Il x18), (Il x19), (Il x20), 
 (Il x21), (Il x22), (Il x23), (Il x24), 
 (Il x25), (Il x26), c27, C.map0])] m14 (fun v28 m29 => 
 ∃ b30 : Bool, (v28 = (.c (.bool b30))) ∧ ifB (!b30) (Q (.c (Il (1 : Int))) m29) (∃ x31, 
 ∃ x32 x33 x34 x35 x36 x37, 
 ∃ x38 x39 x40 x41, ∃ c42 : C, ((ldA m29 (.ptr m.nxt 0) 12) = (some [(Il x31), 
 (Il x32), (Il x33), (Il x34), (Il x35), 
 (Il x36), (Il x37), (Il x38), (Il x39), 
 (Il x40), (Il x41), c42])) ∧ Wc prog tbl 100 [(.agg 12 [(Il x31), 
 (Il x32), (Il x33), (Il x34), (Il x35), 
 (Il x36), (Il x37), (Il x38), (Il x39), 
 (Il x40), (Il x41), c42])] m29 (fun v43 m44 => 
 ∃ x45, (v43 = (.c (Il x45))) ∧ ifB (decide ((2000 : Int) < x45)) (Q (.c (Il (3 : Int))) m44) (Q (.c (Il 0)) m44)))))))) : Wc prog tbl 48 [(.agg 12 [(Il a100), (Il a101), (Il a102), (Il a103), (Il a104), (Il a105), (Il a106), (Il a107), (Il a108), (Il a109), (Il a110), a111])] m Q :=
 wc_eq (n := 1) rfl (by kernel_rfl) (by kernel_rfl) h
theorem w51 {a100 : Int} {a101 : Int} {a102 : Int} {a103 : Int} {a104 : Int} {a105 : Int} {a106 : Int} {a107 : Int} {a108 : Int} {a109 : Int} {a110 : Int} {a111 : C} {a200 : Int} {m : M} {Q : V → M → Prop} (h :
 (∀ m0 : M, (m0 = (M.new m (AO.cells 12 [(Il a100), (Il a101), (Il a102), 
 (Il a103), (Il a104), (Il a105), (Il a106), 
 (Il a107), (Il a108), (Il a109), (Il a110), 
 a111] false))) → ∀ m1 : M, (m1 = (M.new m0 (AO.cells 4 [(Il 0), (Il 0), 
 (Il 0), (Il 0)] false))) → isPt (.ptr m.nxt 0) ∧ 
 ∃ x2, ((ldC m1 (.ptr m.nxt 0)) = (some (Il x2))) ∧ ((0 : Int) ≤ (wrapZ .i64 a200)) ∧ 
 ((0 : Int) < x2) ∧ fitsP .i64 ((wrapZ .i64 a200) % x2) ∧ ((0 : Int) ≤ (wrapZ .i64 a200)) ∧ 
 ((0 : Int) < (16 : Int)) ∧ fitsP .i64 ((wrapZ .i64 a200) / (16 : Int)) ∧ isPt (.ptr m.nxt 0) ∧ 
 ∃ x3, ((ldC m1 (.ptr m.nxt 1)) = (some (Il x3))) ∧ ((0 : Int) ≤ ((wrapZ .i64 a200) / (16 : Int))) ∧ 
 ((0 : Int) < x3) ∧ fitsP .i64 (((wrapZ .i64 a200) / (16 : Int)) % x3) ∧ isPt (.ptr m.nxt 0) ∧ 
 ∃ x4, ((ldC m1 (.ptr m.nxt 0)) = (some (Il x4))) ∧ fitsP .i64 (x4 - 1) ∧ 
 ((0 : Int) ≤ (wrapZ .i64 a200)) ∧ ((0 : Int) < (256 : Int)) ∧ fitsP .i64 ((wrapZ .i64 a200) / (256 : Int)) ∧ 
 ((0 : Int) ≤ ((wrapZ .i64 a200) / (256 : Int))) ∧ ((0 : Int) < (4 : Int)) ∧ 
 fitsP .i64 (((wrapZ .i64 a200) / (256 : Int)) % (4 : Int)) ∧ fitsP .i64 (((wrapZ .i64 a200) % x2) + (((wrapZ .i64 a200) / (256 : Int)) % (4 : Int))) ∧ 
 isPt (.ptr m.nxt 0) ∧ ∃ x5, ((ldC m1 (.ptr m.nxt 1)) = (some (Il x5))) ∧ 
 fitsP .i64 (x5 - 1) ∧ ((0 : Int) ≤ (wrapZ .i64 a200)) ∧ 
 ((0 : Int) < (1024 : Int)) ∧ fitsP .i64 ((wrapZ .i64 a200) / (1024 : Int)) ∧ 
 ((0 : Int) ≤ ((wrapZ .i64 a200) / (1024 : Int))) ∧ ((0 : Int) < (4 : Int)) ∧ 
 fitsP .i64 (((wrapZ .i64 a200) / (1024 : Int)) % (4 : Int)) ∧ 
 fitsP .i64 ((((wrapZ .i64 a200) / (16 : Int)) % x3) + (((wrapZ .i64 a200) / (1024 : Int)) % (4 : Int))) ∧ 
 ∃ m6 : M, ((stC m1 (.ptr m0.nxt 0) 4 [(Il ((wrapZ .i64 a200) % x2)), 
 (Il (Min.min (x4 - 1) (((wrapZ .i64 a200) % x2) + (((wrapZ .i64 a200) / (256 : Int)) % (4 : Int))))), 
 (Il (((wrapZ .i64 a200) / (16 : Int)) % x3)), (Il (Min.min (x5 - 1) ((((wrapZ .i64 a200) / (16 : Int)) % x3) + (((wrapZ .i64 a200) / (1024 : Int)) % (4 : Int)))))]) = (some m6)) ∧ 
 ∃ x7 x8 x9 x10, ((ldA m6 (.ptr m0.nxt 0) 4) = (some [(Il x7), 
 (Il x8), (Il x9), (Il x10)])) ∧ 
 Q (.agg 4 [(Il x7), (Il x8), (Il x9), 
 (Il x10)]) m6)) : Wc prog tbl 51 [(.agg 12 [(Il a100), (Il a101), (Il a102), (Il a103), (Il a104), (Il a105), (Il a106), (Il a107), (Il a108), (Il a109), (Il a110), a111]), (.c (C.int .u16 a200))] m Q :=
 wc_eq (n := 2) rfl (by kernel_rfl) (by kernel_rfl) h
theorem w54 {a100 : Int} {a101 : Int} {a102 : Int} {a103 : Int} {a104 : Int} {a105 : Int} {a106 : Int} {a107 : Int} {a108 : Int} {a109 : Int} {a110 : Int} {a111 : C} {a200 : Int} {a201 : Int} {a202 : Int} {a203 : Int} {a300 : Int} {a400 : Int} {m : M} {Q : V → M → Prop} (h :
 (∀ m0 : M, (m0 = (M.new m (AO.cells 12 [(Il a100), (Il a101), (Il a102), 
 (Il a103), (Il a104), (Il a105), (Il a106), 
 (Il a107), (Il a108), (Il a109), (Il a110), 
 a111] false))) → ∀ m1 : M, (m1 = (M.new m0 (AO.cells 4 [(Il a200), (Il a201), 
 (Il a202), (Il a203)] false))) → ∃ x2 x3 x4, 
 ∃ x5 x6 x7 x8 x9 x10 x11 x12, 
 ∃ c13 : C, ((ldA m1 (.ptr m.nxt 0) 12) = (some [(Il x2), (Il x3), 
 (Il x4), (Il x5), (Il x6), (Il x7), 
 (Il x8), (Il x9), (Il x10), (Il x11), 
 (Il x12), c13])) ∧ ∃ x14 x15 x16 x17, 
 ((ldA m1 (.ptr m0.nxt 0) 4) = (some [(Il x14), (Il x15), 
 (Il x16), (Il x17)])) ∧ Wc prog tbl 71 [(.agg 12 [(Il x2), 
 (Il x3), (Il x4), (Il x5), (Il x6), 
 (Il x7), (Il x8), (Il x9), (Il x10), 
 (Il x11), (Il x12), c13]), (.agg 4 [(Il x14), 
 (Il x15), (Il x16), (Il x17)]), (.c (Il a300)), 
 (.c (Il a400))] m1 (fun v18 m19 => ∃ b20 : Bool, (v18 = (.c (.bool b20))) ∧ 
 ifB (!b20) (Q (.c (Il 0)) m19) (isPt (.ptr m0.nxt 0) ∧ 
 ∃ x21, ((ldC m19 (.ptr m0.nxt 3)) = (some (Il x21))) ∧ 
 isPt (.ptr m.nxt 0) ∧ ∃ x22, ((ldC m19 (.ptr m.nxt 2)) = (some (Il x22))) ∧ 
 ∃ x23 x24 x25 x26 x27 x28, 
 ∃ x29 x30 x31 x32 x33, ∃ c34 : C, 
 ((ldA m19 (.ptr m.nxt 0) 12) = (some [(Il x23), (Il x24), 
 (Il x25), (Il x26), (Il x27), (Il x28), 
 (Il x29), (Il x30), (Il x31), (Il x32), 
 (Il x33), c34])) ∧ ∃ x35 x36 x37 x38, 
 ((ldA m19 (.ptr m0.nxt 0) 4) = (some [(Il x35), (Il x36), 
 (Il x37), (Il x38)])) ∧ Wc prog tbl 102 [(.agg 12 [(Il x23), 
 (Il x24), (Il x25), (Il x26), (Il x27), 
 (Il x28), (Il x29), (Il x30), (Il x31), 
 (Il x32), (Il x33), c34]), (.agg 4 [(Il x35), 
 (Il x36), (Il x37), (Il x38)]), 
 (.c (Il a300)), (.c (Il a400))] m19 (fun v39 m40 => 
 ∃ x41, (v39 = (.c (Il x41))) ∧ ((ldC m40 (.ptr m.nxt 2)) = (some (Il x22))) ∧ 
 ((ldC m40 (.ptr m0.nxt 3)) = (some (Il x21))) ∧ isPt (.ptr m.nxt 0) ∧ 
 ∃ x42, ((ldC m40 (.ptr m.nxt 0)) = (some (Il x42))) ∧ 
 ((ldC m19 (.ptr m.nxt 0)) = (some (Il x42))) ∧ fitsP .i64 (x42 - 1) ∧ 
 ((0 : Int) ≤ x41) ∧ ((0 : Int) < (x42 - 1)) ∧ fitsP .i64 (x41 / (x42 - 1)) ∧ 
 ((0 : Int) ≤ x22) ∧ ((0 : Int) ≤ (x41 / (x42 - 1))) ∧ fitsP .i64 (x22 * (x41 / (x42 - 1))) ∧ 
 fitsP .i64 (x21 - (x22 * (x41 / (x42 - 1)))) ∧ Q (.c (Il (Max.max (1 : Int) (x21 - (x22 * (x41 / (x42 - 1))))))) m40))))) : Wc prog tbl 54 [(.agg 12 [(Il a100), (Il a101), (Il a102), (Il a103), (Il a104), (Il a105), (Il a106), (Il a107), (Il a108), (Il a109), (Il a110), a111]), (.agg 4 [(Il a200), (Il a201), (Il a202), (Il a203)]), (.c (Il a300)), (.c (Il a400))] m Q :=
 wc_eq (n := 4) rfl (by kernel_rfl) (by kernel_rfl) h
theorem w63 {a100 : Int} {a101 : Int} {a102 : Int} {a103 : Int} {a104 : Int} {a105 : Int} {a106 : Int} {a107 : Int} {a108 : Int} {a109 : Int} {a110 : Int} {a111 : C} {m : M} {Q : V → M → Prop} (h :
 (∀ m0 : M, (m0 = (M.new m (AO.cells 12 [(Il a100), (Il a101), (Il a102), 
 (Il a103), (Il a104), (Il a105), (Il a106), 
 (Il a107), (Il a108), (Il a109), (Il a110), 
 a111] false))) → ∃ x1 x2 x3 x4 x5 x6 x7, 
 ∃ x8 x9 x10 x11, ∃ c12 : C, ((ldA m0 (.ptr m.nxt 0) 12) = (some [(Il x1), 
 (Il x2), (Il x3), (Il x4), (Il x5), 
 (Il x6), (Il x7), (Il x8), (Il x9), 
 (Il x10), (Il x11), c12])) ∧ Wc prog tbl 38 [(.agg 12 [(Il x1), 
 (Il x2), (Il x3), (Il x4), (Il x5), 
 (Il x6), (Il x7), (Il x8), (Il x9), 
 (Il x10), (Il x11), c12])] m0 (fun v13 m14 => ∃ c15 : C, 
 (v13 = (.c c15)) ∧ ∀ R16 : List V → M → Prop, (∀ c17 : C, ∀ x18 : Int, ∀ m19 : M, (isSl c15 ∧ 
 ifB (decide (x18 < (((slLen c15) : Nat) : Int))) (∃ n20 : Nat, (x18 = ((n20 : Nat) : Int)) ∧ 
 (n20 < (slLen c15)) ∧ ∃ x21, ((ldC m19 (slAt c15 (n20 * 1))) = (some (Il x21))) ∧ 
 ∃ x22 x23 x24 x25 x26 x27, 
 ∃ x28 x29 x30 x31 x32, ∃ c33 : C, 
 ((ldA m19 (.ptr m.nxt 0) 12) = (some [(Il x22), (Il x23), 
 (Il x24), (Il x25), (Il x26), (Il x27), 
 (Il x28), (Il x29), (Il x30), (Il x31), 
 (Il x32), c33])) ∧ Wc prog tbl 58 [(.agg 12 [(Il x22), 
 (Il x23), (Il x24), (Il x25), (Il x26), 
 (Il x27), (Il x28), (Il x29), (Il x30), 
 (Il x31), (Il x32), c33])] m19 (fun v34 m35 => 
 ∃ x36, (v34 = (.c (Il x36))) ∧ ((ldC m35 (slAt c15 (n20 * 1))) = (some (Il x21))) ∧ 
 ifB (decide (x21 = x36)) (∃ x37 x38 x39 x40, 
 ∃ x41 x42 x43 x44 x45 x46, 
 ∃ x47, ∃ c48 : C, ((ldA m35 (.ptr m.nxt 0) 12) = (some [(Il x37), 
 (Il x38), (Il x39), (Il x40), (Il x41), 
 (Il x42), (Il x43), (Il x44), (Il x45), 
 (Il x46), (Il x47), c48])) ∧ Wc prog tbl 88 [(.agg 12 [(Il x37), 
 (Il x38), (Il x39), (Il x40), (Il x41), 
 (Il x42), (Il x43), (Il x44), (Il x45), 
 (Il x46), (Il x47), c48]), (.c (Il x18))] m35 (fun v49 m50 => 
 ∃ x51 x52 x53 x54, (v49 = (.agg 4 [(Il x51), 
 (Il x52), (Il x53), (Il x54)])) ∧ 
 ∀ m55 : M, (m55 = (M.new m50 (AO.cells 4 [(Il x51), (Il x52), 
 (Il x53), (Il x54)] false))) → ∃ c56 : C, ∃ m57 : M, 
 (ApR prog 46 m55 c17 (.sl m50.nxt 0 1 0 (some 1)) c56 m57) ∧ fitsP .i64 (x18 + 1) ∧ 
 R16 [(.c c56), (.c (Il (x18 + 1)))] m57)) (fitsP .i64 (x18 + 1) ∧ 
 R16 [(.c c17), (.c (Il (x18 + 1)))] m35))) (Q (.c c17) m19)) → 
 R16 [(.c c17), (.c (Il x18))] m19) → R16 [(.c C.sl0), (.c (Il 0))] m14))) : Wc prog tbl 63 [(.agg 12 [(Il a100), (Il a101), (Il a102), (Il a103), (Il a104), (Il a105), (Il a106), (Il a107), (Il a108), (Il a109), (Il a110), a111])] m Q :=
 wc_eq (n := 1) rfl (by kernel_rfl) (by kernel_rfl) h
theorem w66 {a100 : Int} {a101 : Int} {a102 : Int} {a103 : Int} {a104 : Int} {a105 : Int} {a106 : Int} {a107 : Int} {a108 : Int} {a109 : Int} {a110 : Int} {a111 : C} {m : M} {Q : V → M → Prop} (h :
 (∀ m0 : M, (m0 = (M.new m (AO.cells 12 [(Il a100), (Il a101), (Il a102), 
 (Il a103), (Il a104), (Il a105), (Il a106), 
 (Il a107), (Il a108), (Il a109), (Il a110), 
 a111] false))) → isPt (.ptr m.nxt 0) ∧ ∃ x1, ((ldC m0 (.ptr m.nxt 0)) = (some (Il x1))) ∧ 
 ifB (decide ((12 : Int) < x1)) (Q (.c (Il (3 : Int))) m0) (isPt (.ptr m.nxt 0) ∧ ∃ x2, 
 ((ldC m0 (.ptr m.nxt 1)) = (some (Il x2))) ∧ ifB (decide ((12 : Int) < x2)) (Q (.c (Il (3 : Int))) m0) (isPt (.ptr m.nxt 0) ∧ 
 ∃ c3 : C, ((ldC m0 (.ptr m.nxt 11)) = (some c3)) ∧ isSl c3 ∧ ifB (decide ((6 : Int) < (((slLen c3) : Nat) : Int))) (Q (.c (Il (3 : Int))) m0) (isPt (.ptr m.nxt 0) ∧ 
 ∃ x4, ((ldC m0 (.ptr m.nxt 0)) = (some (Il x4))) ∧ ifB (decide (x4 < 2)) (Q (.c (Il (1 : Int))) m0) (isPt (.ptr m.nxt 0) ∧ 
 ∃ x5, ((ldC m0 (.ptr m.nxt 1)) = (some (Il x5))) ∧ ifB (decide (x5 < 1)) (Q (.c (Il (1 : Int))) m0) (isPt (.ptr m.nxt 0) ∧ 
 ∃ x6, ((ldC m0 (.ptr m.nxt 2)) = (some (Il x6))) ∧ 
 Wc prog tbl 31 [(.c (Il x6)), (.c (Il 0)), 
 (.c (Il (4 : Int)))] m0 (fun v7 m8 => ∃ b9 : Bool, (v7 = (.c (.bool b9))) ∧ 
 ifB (!b9) (Q (.c (Il (1 : Int))) m8) (isPt (.ptr m.nxt 0) ∧ 
 ∃ x10 x11, ((ldA m8 (.ptr m.nxt 3) 2) = (some [(Il x10), 
 (Il x11)])) ∧ isPt (.ptr m.nxt 0) ∧ ∃ x12, ((ldC m8 (.ptr m.nxt 1)) = (some (Il x12))) ∧ 
 fitsP .i64 (x12 - 1) ∧ Wc prog tbl 70 [(.agg 2 [(Il x10), 
 (Il x11)]), (.c (Il 0)), (.c (Il (x12 - 1)))] m8 (fun v13 m14 => 
 ∃ b15 : Bool, (v13 = (.c (.bool b15))) ∧ ifB (!b15) (Q (.c (Il (1 : Int))) m14) (isPt (.ptr m.nxt 0) ∧ 
 ∃ x16 x17, ((ldA m14 (.ptr m.nxt 5) 2) = (some [(Il x16), 
 (Il x17)])) ∧ isPt (.ptr m.nxt 0) ∧ ∃ x18, ((ldC m14 (.ptr m.nxt 1)) = (some (Il x18))) ∧ 
 fitsP .i64 (x18 - 1) ∧ Wc prog tbl 70 [(.agg 2 [(Il x16), 
 (Il x17)]), (.c (Il 0)), (.c (Il (x18 - 1)))] m14 (fun v19 m20 => 
 ∃ b21 : Bool, (v19 = (.c (.bool b21))) ∧ ifB (!b21) (Q (.c (Il (1 : Int))) m20) (isPt (.ptr m.nxt 0) ∧ 
 ∃ x22 x23, ((ldA m20 (.ptr m.nxt 7) 2) = (some [(Il x22), 
 (Il x23)])) ∧ Wc prog tbl 70 [(.agg 2 [(Il x22), 
 (Il x23)]), (.c (Il 0)), (.c (Il (3 : Int)))] m20 (fun v24 m25 => 
 ∃ b26 : Bool, (v24 = (.c (.bool b26))) ∧ ifB (!b26) (Q (.c (Il (1 : Int))) m25) (isPt (.ptr m.nxt 0) ∧ 
 ∃ x27 x28, ((ldA m25 (.ptr m.nxt 9) 2) = (some [(Il x27), 
 (Il x28)])) ∧ Wc prog tbl 70 [(.agg 2 [(Il x27), 
 (Il x28)]), (.c (Il (1 : Int))), (.c (Il (9 : Int)))] m25 (fun v29 m30 => 
 ∃ b31 : Bool, (v29 = (.c (.bool b31))) ∧ ifB (!b31) (Q (.c (Il (1 : Int))) m30) (∀ R32 : List V → 
 M → Prop, (∀ x33 : Int, ∀ x34 : Int, ∀ m35 : M, (isPt (.ptr m.nxt 0) ∧ 
 ∃ c36 : C, ((ldC m35 (.ptr m.nxt 11)) = (some c36)) ∧ isSl c36 ∧ 
 ifB (decide (x34 < (((slLen c36) : Nat) : Int))) (∃ x37 x38, 
 ∃ x39 x40 x41 x42 x43 x44, 
 ∃ x45 x46 x47, ∃ c48 : C, ((ldA m35 (.ptr m.nxt 0) 12) = (some [(Il x37), 
 (Il x38), (Il x39), (Il x40), (Il x41), 
 (Il x42), (Il x43), (Il x44), (Il x45), 
 (Il x46), (Il x47), c48])) ∧ isPt (.ptr m.nxt 0) ∧ 
 ∃ c49 : C, ((ldC m35 (.ptr m.nxt 11)) = (some c49)) ∧ ∃ n50 : Nat, 
 (x34 = ((n50 : Nat) : Int)) ∧ (n50 < (slLen c49)) ∧ ∃ x51 x52, 
 ∃ x53 x54, ∃ b55 : Bool, ∃ x56 x57, ((ldA m35 (slAt c49 (n50 * 7)) 7) = (some [(Il x51), 
 (Il x52), (Il x53), (Il x54), (.bool b55), 
 (Il x56), (Il x57)])) ∧ Wc prog tbl 105 [(.agg 12 [(Il x37), 
 (Il x38), (Il x39), (Il x40), (Il x41), 
 (Il x42), (Il x43), (Il x44), (Il x45), 
 (Il x46), (Il x47), c48]), (.agg 7 [(Il x51), 
 (Il x52), (Il x53), (Il x54), (.bool b55), 
 (Il x56), (Il x57)])] m35 (fun v58 m59 => ∃ b60 : Bool, 
 (v58 = (.c (.bool b60))) ∧ ifB (!b60) (Q (.c (Il (1 : Int))) m59) (fitsP .i64 (x34 + 1) ∧ 
 R32 [(.c (Il x33)), (.c (Il (x34 + 1)))] m59))) (∃ x61, 
 ∃ x62 x63 x64 x65 x66 x67, 
 ∃ x68 x69 x70 x71, ∃ c72 : C, ((ldA m35 (.ptr m.nxt 0) 12) = (some [(Il x61), 
 (Il x62), (Il x63), (Il x64), (Il x65), 
 (Il x66), (Il x67), (Il x68), (Il x69), 
 (Il x70), (Il x71), c72])) ∧ Wc prog tbl 67 [(.agg 12 [(Il x61), 
 (Il x62), (Il x63), (Il x64), (Il x65), 
 (Il x66), (Il x67), (Il x68), (Il x69), 
 (Il x70), (Il x71), c72])] m35 (fun v73 m74 => 
 ∃ x75, (v73 = (.c (Il x75))) ∧ ifB (decide ((2000 : Int) < x75)) (Q (.c (Il (3 : Int))) m74) (Q (.c (Il 0)) m74)))) → 
 R32 [(.c (Il x33)), (.c (Il x34))] m35) → 
 R32 [(.c (Il 0)), (.c (Il 0))] m30))))))))))))))))) : Wc prog tbl 66 [(.agg 12 [(Il a100), (Il a101), (Il a102), (Il a103), (Il a104), (Il a105), (Il a106), (Il a107), (Il a108), (Il a109), (Il a110), a111])] m Q :=
 wc_eq (n := 1) rfl (by kernel_rfl) (by kernel_rfl) h
theorem w72 {a100 : Int} {a101 : Int} {a102 : Int} {a103 : Int} {a104 : Int} {a105 : Int} {a106 : Int} {a107 : Int} {a108 : Int} {a109 : Int} {a110 : Int} {a111 : C} {a200 : Int} {a201 : Int} {a202 : Int} {a203 : Int} {a300 : Int} {a301 : Int} {a302 : Int} {a303 : Int} {a304 : Bool} {a305 : Int} {a306 : Int} {m : M} {Q : V → M → Prop} (h :
 (∀ m0 : M, (m0 = (M.new m (AO.cells 12 [(Il a100), (Il a101), (Il a102), 
 (Il a103), (Il a104), (Il a105), (Il a106), 
 (Il a107), (Il a108), (Il a109), (Il a110), 
 a111] false))) → ∀ m1 : M, (m1 = (M.new m0 (AO.cells 4 [(Il a200), (Il a201), 
 (Il a202), (Il a203)] false))) → ∀ m2 : M, (m2 = (M.new m1 (AO.cells 7 [(Il a300), 
 (Il a301), (Il a302), (Il a303), (.bool a304), (Il a305), 
 (Il a306)] false))) → isPt (.ptr m1.nxt 0) ∧ isPt (.ptr m1.nxt 0) ∧ ∃ x3, 
 ((ldC m2 (.ptr m1.nxt 0)) = (some (Il x3))) ∧ ∀ R4 : List V → M → Prop, 
 (∀ b5 : Bool, ∀ b6 : Bool, ∀ x7 : Int, ∀ m8 : M, (isPt (.ptr m1.nxt 0) ∧ isPt (.ptr m1.nxt 0) ∧ 
 ∃ x9, ((ldC m8 (.ptr m1.nxt 1)) = (some (Il x9))) ∧ ifB (decide (x7 ≤ x9)) (isPt (.ptr m1.nxt 0) ∧ 
 isPt (.ptr m1.nxt 2) ∧ ∃ x10, ((ldC m8 (.ptr m1.nxt 2)) = (some (Il x10))) ∧ 
 ∀ R11 : List V → M → Prop, (∀ b12 : Bool, ∀ b13 : Bool, ∀ x14 : Int, ∀ m15 : M, 
 (isPt (.ptr m1.nxt 0) ∧ isPt (.ptr m1.nxt 2) ∧ ∃ x16, ((ldC m15 (.ptr m1.nxt 3)) = (some (Il x16))) ∧ 
 ifB (decide (x14 ≤ x16)) (isPt (.ptr m1.nxt 0) ∧ ∃ b17 : Bool, ((ldC m15 (.ptr m1.nxt 4)) = (some (.bool b17))) ∧ 
 ifB b17 (∃ x18 x19 x20 x21 x22, 
 ∃ x23 x24 x25 x26 x27 x28, 
 ∃ c29 : C, ((ldA m15 (.ptr m.nxt 0) 12) = (some [(Il x18), 
 (Il x19), (Il x20), (Il x21), (Il x22), 
 (Il x23), (Il x24), (Il x25), (Il x26), 
 (Il x27), (Il x28), c29])) ∧ ∃ x30 x31, 
 ∃ x32 x33, ((ldA m15 (.ptr m0.nxt 0) 4) = (some [(Il x30), 
 (Il x31), (Il x32), (Il x33)])) ∧ 
 Wc prog tbl 71 [(.agg 12 [(Il x18), (Il x19), 
 (Il x20), (Il x21), (Il x22), (Il x23), 
 (Il x24), (Il x25), (Il x26), (Il x27), 
 (Il x28), c29]), (.agg 4 [(Il x30), (Il x31), 
 (Il x32), (Il x33)]), (.c (Il x7)), 
 (.c (Il x14))] m15 (fun v34 m35 => ∃ b36 : Bool, (v34 = (.c (.bool b36))) ∧ 
 ifB b36 (∃ x37 x38 x39 x40 x41, 
 ∃ x42 x43 x44 x45 x46 x47, 
 ∃ c48 : C, ((ldA m35 (.ptr m.nxt 0) 12) = (some [(Il x37), 
 (Il x38), (Il x39), (Il x40), (Il x41), 
 (Il x42), (Il x43), (Il x44), (Il x45), 
 (Il x46), (Il x47), c48])) ∧ ∃ x49 x50, 
 ∃ x51 x52, ((ldA m35 (.ptr m0.nxt 0) 4) = (some [(Il x49), 
 (Il x50), (Il x51), (Il x52)])) ∧ 
 Wc prog tbl 54 [(.agg 12 [(Il x37), (Il x38), 
 (Il x39), (Il x40), (Il x41), (Il x42), 
 (Il x43), (Il x44), (Il x45), (Il x46), 
 (Il x47), c48]), (.agg 4 [(Il x49), (Il x50), 
 (Il x51), (Il x52)]), (.c (Il x7)), 
 (.c (Il x14))] m35 (fun v53 m54 => ∃ x55, (v53 = (.c (Il x55))) ∧ 
 isPt (.ptr m1.nxt 0) ∧ isPt (.ptr m1.nxt 5) ∧ ∃ x56, ((ldC m54 (.ptr m1.nxt 5)) = (some (Il x56))) ∧ 
 ((ldC m35 (.ptr m1.nxt 5)) = (some (Il x56))) ∧ isPt (.ptr m1.nxt 0) ∧ 
 isPt (.ptr m1.nxt 5) ∧ ∃ x57, ((ldC m54 (.ptr m1.nxt 6)) = (some (Il x57))) ∧ 
 ((ldC m35 (.ptr m1.nxt 6)) = (some (Il x57))) ∧ Wc prog tbl 31 [(.c (Il x55)), 
 (.c (Il x56)), (.c (Il x57))] m54 (fun v58 m59 => 
 ∃ b60 : Bool, (v58 = (.c (.bool b60))) ∧ ifB b60 (Q (.c (.bool true)) m59) (isPt (.ptr m1.nxt 0) ∧ 
 ∃ b61 : Bool, ((ldC m59 (.ptr m1.nxt 4)) = (some (.bool b61))) ∧ 
 ifB (!b61) (∃ x62 x63 x64 x65 x66, 
 ∃ x67 x68 x69 x70 x71 x72, 
 ∃ c73 : C, ((ldA m59 (.ptr m.nxt 0) 12) = (some [(Il x62), 
 (Il x63), (Il x64), (Il x65), (Il x66), 
 (Il x67), (Il x68), (Il x69), (Il x70), 
 (Il x71), (Il x72), c73])) ∧ ∃ x74 x75, 
 ∃ x76 x77, ((ldA m59 (.ptr m0.nxt 0) 4) = (some [(Il x74), 
 (Il x75), (Il x76), (Il x77)])) ∧ 
 Wc prog tbl 71 [(.agg 12 [(Il x62), (Il x63), 
 (Il x64), (Il x65), (Il x66), (Il x67), 
 (Il x68), (Il x69), (Il x70), (Il x71), 
 (Il x72), c73]), (.agg 4 [(Il x74), (Il x75), 
 (Il x76), (Il x77)]), (.c (Il x7)), 
 (.c (Il x14))] m59 (fun v78 m79 => ∃ b80 : Bool, (v78 = (.c (.bool b80))) ∧ 
 ifB (!b80) (Q (.c (.bool true)) m79) (fitsP .i64 (x14 + 1) ∧ 
 R11 [(.c (.bool b12)), (.c (.bool b12)), (.c (Il (x14 + 1)))] m79))) (fitsP .i64 (x14 + 1) ∧ 
 R11 [(.c (.bool b12)), (.c (.bool b12)), (.c (Il (x14 + 1)))] m59))))) (isPt (.ptr m1.nxt 0) ∧ 
 ∃ b81 : Bool, ((ldC m35 (.ptr m1.nxt 4)) = (some (.bool b81))) ∧ 
 ifB (!b81) (∃ x82 x83 x84 x85 x86, 
 ∃ x87 x88 x89 x90 x91 x92, 
 ∃ c93 : C, ((ldA m35 (.ptr m.nxt 0) 12) = (some [(Il x82), 
 (Il x83), (Il x84), (Il x85), (Il x86), 
 (Il x87), (Il x88), (Il x89), (Il x90), 
 (Il x91), (Il x92), c93])) ∧ ∃ x94 x95, 
 ∃ x96 x97, ((ldA m35 (.ptr m0.nxt 0) 4) = (some [(Il x94), 
 (Il x95), (Il x96), (Il x97)])) ∧ 
 Wc prog tbl 71 [(.agg 12 [(Il x82), (Il x83), 
 (Il x84), (Il x85), (Il x86), (Il x87), 
 (Il x88), (Il x89), (Il x90), (Il x91), 
 (Il x92), c93]), (.agg 4 [(Il x94), (Il x95), 
 (Il x96), (Il x97)]), (.c (Il x7)), 
 (.c (Il x14))] m35 (fun v98 m99 => ∃ b100 : Bool, (v98 = (.c (.bool b100))) ∧ 
 ifB (!b100) (Q (.c (.bool true)) m99) (fitsP .i64 (x14 + 1) ∧ 
 R11 [(.c (.bool b12)), (.c (.bool b12)), (.c (Il (x14 + 1)))] m99))) (fitsP .i64 (x14 + 1) ∧ 
 R11 [(.c (.bool b12)), (.c (.bool b12)), (.c (Il (x14 + 1)))] m35)))) (isPt (.ptr m1.nxt 0) ∧ 
 ∃ b101 : Bool, ((ldC m15 (.ptr m1.nxt 4)) = (some (.bool b101))) ∧ 
 ifB (!b101) (∃ x102 x103 x104 x105 x106, 
 ∃ x107 x108 x109 x110 x111 x112, 
 ∃ c113 : C, ((ldA m15 (.ptr m.nxt 0) 12) = (some [(Il x102), 
 (Il x103), (Il x104), (Il x105), 
 (Il x106), (Il x107), (Il x108), 
 (Il x109), (Il x110), (Il x111), 
 (Il x112), c113])) ∧ ∃ x114 x115 x116, 
 ∃ x117, ((ldA m15 (.ptr m0.nxt 0) 4) = (some [(Il x114), 
 (Il x115), (Il x116), (Il x117)])) ∧ 
 Wc prog tbl 71 [(.agg 12 [(Il x102), (Il x103), 
 (Il x104), (Il x105), (Il x106), 
 (Il x107), (Il x108), (Il x109), 
 (Il x110), (Il x111), (Il x112), 
 c113]), (.agg 4 [(Il x114), (Il x115), (Il x116), 
 (Il x117)]), (.c (Il x7)), (.c (Il x14))] m15 (fun v118 m119 => 
 ∃ b120 : Bool, (v118 = (.c (.bool b120))) ∧ ifB (!b120) (Q (.c (.bool true)) m119) (fitsP .i64 (x14 + 1) ∧ 
 R11 [(.c (.bool b12)), (.c (.bool b12)), (.c (Il (x14 + 1)))] m119))) (fitsP .i64 (x14 + 1) ∧ 
 R11 [(.c (.bool b12)), (.c (.bool b12)), (.c (Il (x14 + 1)))] m15))) (fitsP .i64 (x7 + 1) ∧ 
 R4 [(.c (.bool b12)), (.c (.bool b12)), (.c (Il (x7 + 1)))] m15)) → 
 R11 [(.c (.bool b12)), (.c (.bool b13)), (.c (Il x14))] m15) → 
 R11 [(.c (.bool b5)), (.c (.bool b5)), (.c (Il x10))] m8) (Q (.c (.bool false)) m8)) → 
 R4 [(.c (.bool b5)), (.c (.bool b6)), (.c (Il x7))] m8) → R4 [(.c (.bool false)), 
 (.c (.bool false)), (.c (Il x3))] m2)) : Wc prog tbl 72 [(.agg 12 [(Il a100), (Il a101), (Il a102), (Il a103), (Il a104), (Il a105), (Il a106), (Il a107), (Il a108), (Il a109), (Il a110), a111]), (.agg 4 [(Il a200), (Il a201), (Il a202), (Il a203)]), (.agg 7 [(Il a300), (Il a301), (Il a302), (Il a303), (.bool a304), (Il a305), (Il a306)])] m Q :=
 wc_eq (n := 3) rfl (by kernel_rfl) (by kernel_rfl) h
theorem w76 {a100 : Int} {a101 : Int} {a102 : Int} {a103 : Int} {a104 : Int} {a105 : Int} {a106 : Int} {a107 : Int} {a108 : Int} {a109 : Int} {a110 : Int} {a111 : C} {a112 : C} {m : M} {Q : V → M → Prop} (h :
 (∀ m0 : M, (m0 = (M.new m (AO.cells 13 [(Il a100), (Il a101), (Il a102), 
 (Il a103), (Il a104), (Il a105), (Il a106), 
 (Il a107), (Il a108), (Il a109), (Il a110), 
 a111, a112] false))) → ∀ m1 : M, (m1 = (M.new m0 (AO.cells 144 [(Il 0), (Il 0), 
 (Il 0), (Il 0), (Il 0), (Il 0), 
 (Il 0), (Il 0), (Il 0), (Il 0), 
 (Il 0), (Il 0), (Il 0), (Il 0), 
 (Il 0), (Il 0), (Il 0), (Il 0), 
 (Il 0), (Il 0), (Il 0), (Il 0), 
 (Il 0), (Il 0), (Il 0), (Il 0), 
 (Il 0), (Il 0), (Il 0), (Il 0), 
 (Il 0), (Il 0), (Il 0), (Il 0), 
 (Il 0), (Il 0), (Il 0), (Il 0), 
 (Il 0), (Il 0), (Il 0), (Il 0), 
 (Il 0), (Il 0), (Il 0), (Il 0), 
 (Il 0), (Il 0), (Il 0), (Il 0), 
 (Il 0), (Il 0), (Il 0), (Il 0), 
 (Il 0), (Il 0), (Il 0), (Il 0), 
 (Il 0), (Il 0), (Il 0), (Il 0), 
 (Il 0), (Il 0), (Il 0), (Il 0), 
 (Il 0), (Il 0), (Il 0), (Il 0), 
 (Il 0), (Il 0), (Il 0), (Il 0), 
 (Il 0), (Il 0), (Il 0), (Il 0), 
 (Il 0), (Il 0), (Il 0), (Il 0), 
 (Il 0), (Il 0), (Il 0), (Il 0), 
 (Il 0), (Il 0), (Il 0), (Il 0), 
 (Il 0), (Il 0), (Il 0), (Il 0), 
 (Il 0), (Il 0), (Il 0), (Il 0), 
 (Il 0), (Il 0), (Il 0), (Il 0), 
 (Il 0), (Il 0), (Il 0), (Il 0), 
 (Il 0), (Il 0), (Il 0), (Il 0), 
 (Il 0), (Il 0), (Il 0), (Il 0), 
 (Il 0), (Il 0), (Il 0), (Il 0), 
 (Il 0), (Il 0), (Il 0), (Il 0), 
 (Il 0), (Il 0), (Il 0), (Il 0), 
 (Il 0), (Il 0), (Il 0), (Il 0), 
 (Il 0), (Il 0), (Il 0), (Il 0), 
 (Il 0), (Il 0), (Il 0), (Il 0), 
 (Il 0), (Il 0), (Il 0), (Il 0), 
 (Il 0), (Il 0)] false))) → ∀ m2 : M, (m2 = (M.new m1 (AO.cells 1 [(Il 0)] false))) → 
 ∃ x3 x4 x5 x6 x7 x8 x9 x10, 
 ∃ x11 x12 x13, ∃ c14 : C, ∃ c15 : C, ((ldA m2 (.ptr m.nxt 0) 13) = (some [(Il x3), 
 (Il x4), (Il x5), (Il x6), (Il x7), 
 (Il x8), (Il x9), (Il x10), (Il x11), 
 (Il x12), (Il x13), c14, c15])) ∧ Wc prog tbl 108 [(.agg 13 [(Il x3), 
 (Il x4), (Il x5), (Il x6), (Il x7), 
 (Il x8), (Il x9), (Il x10), (Il x11), 
 (Il x12), (Il x13), c14, c15])] m2 (fun v16 m17 => ∃ c18 : C, 
 (v16 = (.c c18)) ∧ rangeP prog tbl c18 m17 (fun l19 m20 R21 R22 => ∃ x23, 
 ∃ x24 x25 x26, (l19 = [(.agg 4 [(Il x23), 
 (Il x24), (Il x25), (Il x26)])]) ∧ 
 ∀ m27 : M, (m27 = (M.new m20 (AO.cells 4 [(Il 0), (Il 0), 
 (Il 0), (Il 0)] false))) → ∃ m28 : M, 
 ((stC m27 (.ptr m20.nxt 0) 4 [(Il x23), (Il x24), 
 (Il x25), (Il x26)]) = (some m28)) ∧ R21 m28 (fun m29 => 
 ∃ x30, ((ldC m29 (.ptr m1.nxt 0)) = (some (Il x30))) ∧ 
 fitsP .i64 (x30 + 1) ∧ ∃ m31 : M, ((stC m29 (.ptr m1.nxt 0) 1 [(Il (x30 + 1))]) = (some m31)) ∧ 
 isPt (.ptr m.nxt 0) ∧ ∃ x32 x33 x34 x35, 
 ∃ x36 x37 x38 x39 x40 x41, 
 ∃ x42, ∃ c43 : C, ((ldA m31 (.ptr m.nxt 0) 12) = (some [(Il x32), 
 (Il x33), (Il x34), (Il x35), (Il x36), 
 (Il x37), (Il x38), (Il x39), (Il x40), 
 (Il x41), (Il x42), c43])) ∧ Wc prog tbl 77 [(.agg 12 [(Il x32), 
 (Il x33), (Il x34), (Il x35), (Il x36), 
 (Il x37), (Il x38), (Il x39), (Il x40), 
 (Il x41), (Il x42), c43])] m31 (fun v44 m45 => 
 ∃ x46 x47 x48 x49, (v44 = (.agg 4 [(Il x46), 
 (Il x47), (Il x48), (Il x49)])) ∧ 
 Wc prog tbl 78 [(.agg 4 [(Il x46), (Il x47), 
 (Il x48), (Il x49)])] m45 (fun v50 m51 => ∃ c52 : C, 
 (v50 = (.c c52)) ∧ rangeP prog tbl c52 m51 (fun l53 m54 R55 R56 => ∃ x57, 
 ∃ x58, (l53 = [(.c (Il x57)), (.c (Il x58))]) ∧ 
 R55 m54 (fun m59 => isPt (.ptr m.nxt 0) ∧ ∃ x60 x61 x62, 
 ∃ x63 x64 x65 x66 x67 x68, 
 ∃ x69 x70, ∃ c71 : C, ((ldA m59 (.ptr m.nxt 0) 12) = (some [(Il x60), 
 (Il x61), (Il x62), (Il x63), (Il x64), 
 (Il x65), (Il x66), (Il x67), (Il x68), 
 (Il x69), (Il x70), c71])) ∧ ∃ x72 x73, 
 ∃ x74 x75, ((ldA m59 (.ptr m20.nxt 0) 4) = (some [(Il x72), 
 (Il x73), (Il x74), (Il x75)])) ∧ 
 Wc prog tbl 112 [(.agg 12 [(Il x60), (Il x61), 
 (Il x62), (Il x63), (Il x64), (Il x65), 
 (Il x66), (Il x67), (Il x68), (Il x69), 
 (Il x70), c71]), (.agg 4 [(Il x72), (Il x73), 
 (Il x74), (Il x75)]), (.c (Il x57)), 
 (.c (Il x58))] m59 (fun v76 m77 => ∃ b78 : Bool, (v76 = (.c (.bool b78))) ∧ 
 ifB b78 (isPt (.ptr m0.nxt 0) ∧ ∃ n79 : Nat, (x57 = ((n79 : Nat) : Int)) ∧ 
 (n79 < 12) ∧ isPt (.ptr m0.nxt (0 + (n79 * 12))) ∧ ∃ n80 : Nat, (x58 = ((n80 : Nat) : Int)) ∧ 
 (n80 < 12) ∧ ∃ x81, ((ldC m77 (.ptr m0.nxt ((0 + (n79 * 12)) + (n80 * 1)))) = (some (Il x81))) ∧ 
 fitsP .i64 (x81 + 1) ∧ isPt (.ptr m0.nxt 0) ∧ ∃ n82 : Nat, 
 (x57 = ((n82 : Nat) : Int)) ∧ (n82 < 12) ∧ isPt (.ptr m0.nxt (0 + (n82 * 12))) ∧ 
 ∃ n83 : Nat, (x58 = ((n83 : Nat) : Int)) ∧ (n83 < 12) ∧ ∃ m84 : M, ((stC m77 (.ptr m0.nxt ((0 + (n82 * 12)) + (n83 * 1))) 1 [(Il (x81 + 1))]) = (some m84)) ∧ 
 R56 Ex.nrm m84) (R56 Ex.nrm m77)))) (After.mk (fun m85 => 
 R22 Ex.nrm m85) [] (fun m86 => R22 Ex.ret m86)))))) (After.mk (fun m87 => 
 ∃ l88 : List C, ((ldA m87 (.ptr m0.nxt 0) 144) = (some l88)) ∧ ∃ x89, 
 ((ldC m87 (.ptr m1.nxt 0)) = (some (Il x89))) ∧ ∃ m90 : M, 
 ((stC m87 (.ptr m0.nxt 0) 144 l88) = (some m90)) ∧ ((ldC m90 (.ptr m1.nxt 0)) = (some (Il x89))) ∧ 
 ∃ m91 : M, ((stC m90 (.ptr m1.nxt 0) 1 [(Il x89)]) = (some m91)) ∧ 
 ∃ l92 : List C, ((ldA m91 (.ptr m0.nxt 0) 144) = (some l92)) ∧ ∃ x93, 
 ((ldC m91 (.ptr m1.nxt 0)) = (some (Il x93))) ∧ Q (.tup [(.agg 144 l92), 
 (.c (Il x93))]) m91) [] (fun m94 => ∃ l95 : List C, 
 ((ldA m94 (.ptr m0.nxt 0) 144) = (some l95)) ∧ ∃ x96, ((ldC m94 (.ptr m1.nxt 0)) = (some (Il x96))) ∧ 
 Q (.tup [(.agg 144 l95), (.c (Il x96))]) m94))))) : Wc prog tbl 76 [(.agg 13 [(Il a100), (Il a101), (Il a102), (Il a103), (Il a104), (Il a105), (Il a106), (Il a107), (Il a108), (Il a109), (Il a110), a111, a112])] m Q :=
 wc_eq (n := 1) rfl (by kernel_rfl) (by kernel_rfl) h
theorem w82 {a100 : Int} {a101 : Int} {a102 : Int} {a103 : Int} {a104 : Int} {a105 : Int} {a106 : Int} {a107 : Int} {a108 : Int} {a109 : Int} {a110 : Int} {a111 : C} {a112 : C} {a200 : Bool} {a201 : Bool} {a202 : Bool} {a203 : Bool} {a204 : Bool} {a205 : Bool} {m : M} {Q : V → M → Prop} (h :
 (∀ m0 : M, (m0 = (M.new m (AO.cells 13 [(Il a100), (Il a101), (Il a102), 
 (Il a103), (Il a104), (Il a105), (Il a106), 
 (Il a107), (Il a108), (Il a109), (Il a110), 
 a111, a112] false))) → ∀ m1 : M, (m1 = (M.new m0 (AO.cells 6 [(.bool a200), (.bool a201), (.bool a202), 
 (.bool a203), (.bool a204), (.bool a205)] false))) → ∀ m2 : M, (m2 = (M.new m1 (AO.cells 1 [(.bool false)] false))) → 
 isPt (.ptr m.nxt 0) ∧ ∃ x3 x4 x5 x6 x7 x8, 
 ∃ x9 x10 x11 x12 x13, ∃ c14 : C, ((ldA m2 (.ptr m.nxt 0) 12) = (some [(Il x3), 
 (Il x4), (Il x5), (Il x6), (Il x7), 
 (Il x8), (Il x9), (Il x10), (Il x11), 
 (Il x12), (Il x13), c14])) ∧ Wc prog tbl 116 [(.agg 12 [(Il x3), 
 (Il x4), (Il x5), (Il x6), (Il x7), 
 (Il x8), (Il x9), (Il x10), (Il x11), 
 (Il x12), (Il x13), c14])] m2 (fun v15 m16 => ∃ c17 : C, 
 (v15 = (.c c17)) ∧ rangeP prog tbl c17 m16 (fun l18 m19 R20 R21 => ∃ x22, 
 ∃ x23 x24 x25, (l18 = [(.agg 4 [(Il x22), 
 (Il x23), (Il x24), (Il x25)])]) ∧ 
 ∀ m26 : M, (m26 = (M.new m19 (AO.cells 4 [(Il 0), (Il 0), 
 (Il 0), (Il 0)] false))) → ∃ m27 : M, 
 ((stC m26 (.ptr m19.nxt 0) 4 [(Il x22), (Il x23), 
 (Il x24), (Il x25)]) = (some m27)) ∧ R20 m27 (fun m28 => 
 isPt (.ptr m.nxt 0) ∧ ∃ c29 : C, ((ldC m28 (.ptr m.nxt 12)) = (some c29)) ∧ 
 ∃ x30 x31 x32 x33, ((ldA m28 (.ptr m19.nxt 0) 4) = (some [(Il x30), 
 (Il x31), (Il x32), (Il x33)])) ∧ 
 ∃ y34 : Option U, ((lkM prog 43 m28 c29 (.agg 4 [(Il x30), 
 (Il x31), (Il x32), (Il x33)])) = (some y34)) ∧ 
 ((y34 = Option.none) → ∃ b35 : Bool, ∃ b36 : Bool, ∃ b37 : Bool, ∃ b38 : Bool, 
 ∃ b39 : Bool, ∃ b40 : Bool, ((ldA m28 (.ptr m0.nxt 0) 6) = (some [(.bool b35), 
 (.bool b36), (.bool b37), (.bool b38), (.bool b39), (.bool b40)])) ∧ Wc prog tbl 117 [(.agg 6 [(.bool false), 
 (.bool false), (.bool false), (.bool false), (.bool false), (.bool false)]), 
 (.agg 6 [(.bool b35), (.bool b36), (.bool b37), (.bool b38), (.bool b39), 
 (.bool b40)])] m28 (fun v41 m42 => ∃ b43 : Bool, ∃ b44 : Bool, ∃ b45 : Bool, 
 ∃ b46 : Bool, ∃ b47 : Bool, ∃ b48 : Bool, (v41 = (.agg 6 [(.bool b43), 
 (.bool b44), (.bool b45), (.bool b46), (.bool b47), (.bool b48)])) ∧ ∃ b49 : Bool, 
 ∃ b50 : Bool, ∃ b51 : Bool, ∃ b52 : Bool, ∃ b53 : Bool, ∃ b54 : Bool, ((ldA m42 (.ptr m0.nxt 0) 6) = (some [(.bool b49), 
 (.bool b50), (.bool b51), (.bool b52), (.bool b53), (.bool b54)])) ∧ ((ldA m28 (.ptr m0.nxt 0) 6) = (some [(.bool b49), 
 (.bool b50), (.bool b51), (.bool b52), (.bool b53), (.bool b54)])) ∧ ifB ((b43 == b49) && ((b44 == b50) && ((b45 == b51) && ((b46 == b52) && ((b47 == b53) && (b48 == b54)))))) (∃ m55 : M, 
 ((stC m42 (.ptr m1.nxt 0) 1 [(.bool true)]) = (some m55)) ∧ R21 Ex.ret m55) (R21 Ex.nrm m42))) ∧ 
 ∀ u56 : U, (y34 = (some u56)) → ∃ b57 : Bool, ∃ b58 : Bool, ∃ b59 : Bool, 
 ∃ b60 : Bool, ∃ b61 : Bool, ∃ b62 : Bool, (u56 = (.agg 6 [(.bool b57), 
 (.bool b58), (.bool b59), (.bool b60), (.bool b61), (.bool b62)])) ∧ ∃ b63 : Bool, 
 ∃ b64 : Bool, ∃ b65 : Bool, ∃ b66 : Bool, ∃ b67 : Bool, ∃ b68 : Bool, ((ldA m28 (.ptr m0.nxt 0) 6) = (some [(.bool b63), 
 (.bool b64), (.bool b65), (.bool b66), (.bool b67), (.bool b68)])) ∧ Wc prog tbl 117 [(.agg 6 [(.bool b57), 
 (.bool b58), (.bool b59), (.bool b60), (.bool b61), (.bool b62)]), (.agg 6 [(.bool b63), 
 (.bool b64), (.bool b65), (.bool b66), (.bool b67), (.bool b68)])] m28 (fun v69 m70 => 
 ∃ b71 : Bool, ∃ b72 : Bool, ∃ b73 : Bool, ∃ b74 : Bool, ∃ b75 : Bool, ∃ b76 : Bool, 
 (v69 = (.agg 6 [(.bool b71), (.bool b72), (.bool b73), (.bool b74), (.bool b75), 
 (.bool b76)])) ∧ ∃ b77 : Bool, ∃ b78 : Bool, ∃ b79 : Bool, ∃ b80 : Bool, 
 ∃ b81 : Bool, ∃ b82 : Bool, ((ldA m70 (.ptr m0.nxt 0) 6) = (some [(.bool b77), 
 (.bool b78), (.bool b79), (.bool b80), (.bool b81), (.bool b82)])) ∧ ((ldA m28 (.ptr m0.nxt 0) 6) = (some [(.bool b77), 
 (.bool b78), (.bool b79), (.bool b80), (.bool b81), (.bool b82)])) ∧ ifB ((b71 == b77) && ((b72 == b78) && ((b73 == b79) && ((b74 == b80) && ((b75 == b81) && (b76 == b82)))))) (∃ m83 : M, 
 ((stC m70 (.ptr m1.nxt 0) 1 [(.bool true)]) = (some m83)) ∧ R21 Ex.ret m83) (R21 Ex.nrm m70)))) (After.mk (fun m84 => 
 ∃ m85 : M, ((stC m84 (.ptr m1.nxt 0) 1 [(.bool false)]) = (some m85)) ∧ 
 ∃ b86 : Bool, ((ldC m85 (.ptr m1.nxt 0)) = (some (.bool b86))) ∧ 
 Q (.c (.bool b86)) m85) [] (fun m87 => ∃ b88 : Bool, ((ldC m87 (.ptr m1.nxt 0)) = (some (.bool b88))) ∧ 
 Q (.c (.bool b88)) m87))))) : Wc prog tbl 82 [(.agg 13 [(Il a100), (Il a101), (Il a102), (Il a103), (Il a104), (Il a105), (Il a106), (Il a107), (Il a108), (Il a109), (Il a110), a111, a112]), (.agg 6 [(.bool a200), (.bool a201), (.bool a202), (.bool a203), (.bool a204), (.bool a205)])] m Q :=
 wc_eq (n := 2) rfl (by kernel_rfl) (by kernel_rfl) h
theorem w88 {a100 : Int} {a101 : Int} {a102 : Int} {a103 : Int} {a104 : Int} {a105 : Int} {a106 : Int} {a107 : Int} {a108 : Int} {a109 : Int} {a110 : Int} {a111 : C} {a200 : Int} {m : M} {Q : V → M → Prop} (h :
 (∀ m0 : M, (m0 = (M.new m (AO.cells 12 [(Il a100), (Il a101), (Il a102), 
 (Il a103), (Il a104), (Il a105), (Il a106), 
 (Il a107), (Il a108), (Il a109), (Il a110), 
 a111] false))) → ∀ m1 : M, (m1 = (M.new m0 (AO.cells 4 [(Il 0), (Il 0), 
 (Il 0), (Il 0)] false))) → ∀ m2 : M, (m2 = (M.new m1 (AO.cells 4 [(Il 0), 
 (Il 0), (Il 0), (Il 0)] false))) → 
 isPt (.ptr m.nxt 0) ∧ isPt (.ptr m.nxt 3) ∧ ∃ x3, ((ldC m2 (.ptr m.nxt 3)) = (some (Il x3))) ∧ 
 isPt (.ptr m.nxt 0) ∧ ∃ x4 x5, ((ldA m2 (.ptr m.nxt 3) 2) = (some [(Il x4), 
 (Il x5)])) ∧ Wc prog tbl 62 [(.agg 2 [(Il x4), (Il x5)])] m2 (fun v6 m7 => 
 ∃ x8, (v6 = (.c (Il x8))) ∧ ((ldC m7 (.ptr m.nxt 3)) = (some (Il x3))) ∧ 
 ((0 : Int) ≤ a200) ∧ ((0 : Int) < x8) ∧ fitsP .i64 (a200 % x8) ∧ fitsP .i64 (x3 + (a200 % x8)) ∧ 
 isPt (.ptr m.nxt 0) ∧ ∃ x9 x10, ((ldA m7 (.ptr m.nxt 3) 2) = (some [(Il x9), 
 (Il x10)])) ∧ ((ldA m2 (.ptr m.nxt 3) 2) = (some [(Il x9), 
 (Il x10)])) ∧ Wc prog tbl 62 [(.agg 2 [(Il x9), 
 (Il x10)])] m7 (fun v11 m12 => ∃ x13, (v11 = (.c (Il x13))) ∧ 
 ((ldC m12 (.ptr m.nxt 3)) = (some (Il x3))) ∧ ((0 : Int) ≤ a200) ∧ 
 ((0 : Int) < x13) ∧ fitsP .i64 (a200 / x13) ∧ isPt (.ptr m1.nxt 0) ∧ 
 ∃ m14 : M, ((stC m12 (.ptr m1.nxt 0) 1 [(Il (x3 + (a200 % x8)))]) = (some m14)) ∧ 
 isPt (.ptr m.nxt 0) ∧ isPt (.ptr m.nxt 5) ∧ ∃ x15, ((ldC m14 (.ptr m.nxt 5)) = (some (Il x15))) ∧ 
 isPt (.ptr m.nxt 0) ∧ ∃ x16 x17, ((ldA m14 (.ptr m.nxt 5) 2) = (some [(Il x16), 
 (Il x17)])) ∧ Wc prog tbl 62 [(.agg 2 [(Il x16), 
 (Il x17)])] m14 (fun v18 m19 => ∃ x20, (v18 = (.c (Il x20))) ∧ 
 ((ldC m19 (.ptr m.nxt 5)) = (some (Il x15))) ∧ ((0 : Int) ≤ (a200 / x13)) ∧ 
 ((0 : Int) < x20) ∧ fitsP .i64 ((a200 / x13) % x20) ∧ fitsP .i64 (x15 + ((a200 / x13) % x20)) ∧ 
 isPt (.ptr m.nxt 0) ∧ ∃ x21 x22, ((ldA m19 (.ptr m.nxt 5) 2) = (some [(Il x21), 
 (Il x22)])) ∧ ((ldA m14 (.ptr m.nxt 5) 2) = (some [(Il x21), 
 (Il x22)])) ∧ Wc prog tbl 62 [(.agg 2 [(Il x21), 
 (Il x22)])] m19 (fun v23 m24 => ∃ x25, (v23 = (.c (Il x25))) ∧ 
 ((ldC m24 (.ptr m.nxt 5)) = (some (Il x15))) ∧ ((0 : Int) ≤ (a200 / x13)) ∧ 
 ((0 : Int) < x25) ∧ fitsP .i64 ((a200 / x13) / x25) ∧ isPt (.ptr m1.nxt 0) ∧ 
 ∃ m26 : M, ((stC m24 (.ptr m1.nxt 1) 1 [(Il (x15 + ((a200 / x13) % x20)))]) = (some m26)) ∧ 
 isPt (.ptr m.nxt 0) ∧ isPt (.ptr m.nxt 7) ∧ ∃ x27, ((ldC m26 (.ptr m.nxt 7)) = (some (Il x27))) ∧ 
 isPt (.ptr m.nxt 0) ∧ ∃ x28 x29, ((ldA m26 (.ptr m.nxt 7) 2) = (some [(Il x28), 
 (Il x29)])) ∧ Wc prog tbl 62 [(.agg 2 [(Il x28), 
 (Il x29)])] m26 (fun v30 m31 => ∃ x32, (v30 = (.c (Il x32))) ∧ 
 ((ldC m31 (.ptr m.nxt 7)) = (some (Il x27))) ∧ ((0 : Int) ≤ ((a200 / x13) / x25)) ∧ 
 ((0 : Int) < x32) ∧ fitsP .i64 (((a200 / x13) / x25) % x32) ∧ fitsP .i64 (x27 + (((a200 / x13) / x25) % x32)) ∧ 
 isPt (.ptr m.nxt 0) ∧ ∃ x33 x34, ((ldA m31 (.ptr m.nxt 7) 2) = (some [(Il x33), 
 (Il x34)])) ∧ ((ldA m26 (.ptr m.nxt 7) 2) = (some [(Il x33), 
 (Il x34)])) ∧ Wc prog tbl 62 [(.agg 2 [(Il x33), 
 (Il x34)])] m31 (fun v35 m36 => ∃ x37, (v35 = (.c (Il x37))) ∧ 
 ((ldC m36 (.ptr m.nxt 7)) = (some (Il x27))) ∧ ((0 : Int) ≤ ((a200 / x13) / x25)) ∧ 
 ((0 : Int) < x37) ∧ fitsP .i64 (((a200 / x13) / x25) / x37) ∧ isPt (.ptr m1.nxt 0) ∧ 
 ∃ m38 : M, ((stC m36 (.ptr m1.nxt 2) 1 [(Il (x27 + (((a200 / x13) / x25) % x32)))]) = (some m38)) ∧ 
 isPt (.ptr m.nxt 0) ∧ isPt (.ptr m.nxt 9) ∧ ∃ x39, ((ldC m38 (.ptr m.nxt 9)) = (some (Il x39))) ∧ 
 fitsP .i64 (x39 + (((a200 / x13) / x25) / x37)) ∧ isPt (.ptr m1.nxt 0) ∧ 
 ∃ m40 : M, ((stC m38 (.ptr m1.nxt 3) 1 [(Il (x39 + (((a200 / x13) / x25) / x37)))]) = (some m40)) ∧ 
 ∃ x41 x42 x43 x44, ((ldA m40 (.ptr m1.nxt 0) 4) = (some [(Il x41), 
 (Il x42), (Il x43), (Il x44)])) ∧ 
 ∃ m45 : M, ((stC m40 (.ptr m0.nxt 0) 4 [(Il x41), (Il x42), 
 (Il x43), (Il x44)]) = (some m45)) ∧ ∃ x46, 
 ∃ x47 x48 x49, ((ldA m45 (.ptr m0.nxt 0) 4) = (some [(Il x46), 
 (Il x47), (Il x48), (Il x49)])) ∧ 
 Q (.agg 4 [(Il x46), (Il x47), (Il x48), 
 (Il x49)]) m45)))))))) : Wc prog tbl 88 [(.agg 12 [(Il a100), (Il a101), (Il a102), (Il a103), (Il a104), (Il a105), (Il a106), (Il a107), (Il a108), (Il a109), (Il a110), a111]), (.c (Il a200))] m Q :=
 wc_eq (n := 2) rfl (by kernel_rfl) (by kernel_rfl) h
theorem w91 {a100 : Int} {a101 : Int} {a102 : Int} {a103 : Int} {a104 : Int} {a105 : Int} {a106 : Int} {a107 : Int} {a108 : Int} {a109 : Int} {a110 : Int} {a111 : C} {a112 : C} {a200 : Int} {a201 : Int} {a202 : Int} {a203 : Int} {m : M} {Q : V → M → Prop} (h :
 (∀ m0 : M, (m0 = (M.new m (AO.cells 13 [(Il a100), (Il a101), (Il a102), 
 (Il a103), (Il a104), (Il a105), (Il a106), 
 (Il a107), (Il a108), (Il a109), (Il a110), 
 a111, a112] false))) → ∀ m1 : M, (m1 = (M.new m0 (AO.cells 4 [(Il a200), (Il a201), 
 (Il a202), (Il a203)] false))) → ∀ m2 : M, (m2 = (M.new m1 (AO.cells 6 [(.bool false), 
 (.bool false), (.bool false), (.bool false), (.bool false), (.bool false)] false))) → ∀ m3 : M, 
 (m3 = (M.new m2 (AO.cells 6 [(.bool false), (.bool false), (.bool false), (.bool false), (.bool false), 
 (.bool false)] false))) → isPt (.ptr m.nxt 0) ∧ isPt (.ptr m.nxt 0) ∧ ∃ c4 : C, ((ldC m3 (.ptr m.nxt 11)) = (some c4)) ∧ 
 isSl c4 ∧ ∀ R5 : List V → M → Prop, (∀ x6 : Int, ∀ m7 : M, (ifB (decide (x6 < (((slLen c4) : Nat) : Int))) (∃ n8 : Nat, 
 (x6 = ((n8 : Nat) : Int)) ∧ (n8 < (slLen c4)) ∧ ∃ x9 x10 x11, 
 ∃ x12, ∃ b13 : Bool, ∃ x14 x15, ((ldA m7 (slAt c4 (n8 * 7)) 7) = (some [(Il x9), 
 (Il x10), (Il x11), (Il x12), (.bool b13), 
 (Il x14), (Il x15)])) ∧ ∀ m16 : M, (m16 = (M.new m7 (AO.cells 7 [(Il 0), 
 (Il 0), (Il 0), (Il 0), 
 (.bool false), (Il 0), (Il 0)] false))) → 
 ∃ m17 : M, ((stC m16 (.ptr m7.nxt 0) 7 [(Il x9), (Il x10), 
 (Il x11), (Il x12), (.bool b13), (Il x14), 
 (Il x15)]) = (some m17)) ∧ isPt (.ptr m.nxt 0) ∧ ∃ x18, 
 ∃ x19 x20 x21 x22 x23 x24, 
 ∃ x25 x26 x27 x28, ∃ c29 : C, ((ldA m17 (.ptr m.nxt 0) 12) = (some [(Il x18), 
 (Il x19), (Il x20), (Il x21), (Il x22), 
 (Il x23), (Il x24), (Il x25), (Il x26), 
 (Il x27), (Il x28), c29])) ∧ ∃ x30 x31, 
 ∃ x32 x33, ∃ b34 : Bool, ∃ x35 x36, ((ldA m17 (.ptr m7.nxt 0) 7) = (some [(Il x30), 
 (Il x31), (Il x32), (Il x33), (.bool b34), 
 (Il x35), (Il x36)])) ∧ ∃ x37 x38, 
 ∃ x39 x40, ((ldA m17 (.ptr m0.nxt 0) 4) = (some [(Il x37), 
 (Il x38), (Il x39), (Il x40)])) ∧ 
 Wc prog tbl 121 [(.agg 12 [(Il x18), (Il x19), 
 (Il x20), (Il x21), (Il x22), (Il x23), 
 (Il x24), (Il x25), (Il x26), (Il x27), 
 (Il x28), c29]), (.agg 7 [(Il x30), (Il x31), 
 (Il x32), (Il x33), (.bool b34), (Il x35), 
 (Il x36)]), (.agg 4 [(Il x37), (Il x38), 
 (Il x39), (Il x40)])] m17 (fun v41 m42 => ∃ b43 : Bool, 
 (v41 = (.c (.bool b43))) ∧ isPt (.ptr m2.nxt 0) ∧ ∃ n44 : Nat, (x6 = ((n44 : Nat) : Int)) ∧ 
 (n44 < 6) ∧ ∃ m45 : M, ((stC m42 (.ptr m2.nxt (0 + (n44 * 1))) 1 [(.bool b43)]) = (some m45)) ∧ 
 fitsP .i64 (x6 + 1) ∧ R5 [(.c (Il (x6 + 1)))] m45)) (∃ b46 : Bool, 
 ∃ b47 : Bool, ∃ b48 : Bool, ∃ b49 : Bool, ∃ b50 : Bool, ∃ b51 : Bool, ((ldA m7 (.ptr m2.nxt 0) 6) = (some [(.bool b46), 
 (.bool b47), (.bool b48), (.bool b49), (.bool b50), (.bool b51)])) ∧ ∃ m52 : M, 
 ((stC m7 (.ptr m1.nxt 0) 6 [(.bool b46), (.bool b47), (.bool b48), (.bool b49), 
 (.bool b50), (.bool b51)]) = (some m52)) ∧ ∃ b53 : Bool, ∃ b54 : Bool, 
 ∃ b55 : Bool, ∃ b56 : Bool, ∃ b57 : Bool, ∃ b58 : Bool, ((ldA m52 (.ptr m1.nxt 0) 6) = (some [(.bool b53), 
 (.bool b54), (.bool b55), (.bool b56), (.bool b57), (.bool b58)])) ∧ Q (.agg 6 [(.bool b53), 
 (.bool b54), (.bool b55), (.bool b56), (.bool b57), (.bool b58)]) m52)) → 
 R5 [(.c (Il x6))] m7) → R5 [(.c (Il 0))] m3)) : Wc prog tbl 91 [(.agg 13 [(Il a100), (Il a101), (Il a102), (Il a103), (Il a104), (Il a105), (Il a106), (Il a107), (Il a108), (Il a109), (Il a110), a111, a112]), (.agg 4 [(Il a200), (Il a201), (Il a202), (Il a203)])] m Q :=
 wc_eq (n := 2) rfl (by kernel_rfl) (by kernel_rfl) h
theorem w100 {a100 : Int} {a101 : Int} {a102 : Int} {a103 : Int} {a104 : Int} {a105 : Int} {a106 : Int} {a107 : Int} {a108 : Int} {a109 : Int} {a110 : Int} {a111 : C} {m : M} {Q : V → M → Prop} (h :
 (∀ m0 : M, (m0 = (M.new m (AO.cells 12 [(Il a100), (Il a101), (Il a102), 
 (Il a103), (Il a104), (Il a105), (Il a106), 
 (Il a107), (Il a108), (Il a109), (Il a110), 
 a111] false))) → isPt (.ptr m.nxt 0) ∧ ∃ x1 x2, ((ldA m0 (.ptr m.nxt 3) 2) = (some [(Il x1), 
 (Il x2)])) ∧ Wc prog tbl 125 [(.agg 2 [(Il x1), (Il x2)])] m0 (fun v3 m4 => 
 ∃ x5, (v3 = (.c (Il x5))) ∧ isPt (.ptr m.nxt 0) ∧ ∃ x6 x7, 
 ((ldA m4 (.ptr m.nxt 5) 2) = (some [(Il x6), (Il x7)])) ∧ 
 ((ldA m0 (.ptr m.nxt 5) 2) = (some [(Il x6), (Il x7)])) ∧ 
 Wc prog tbl 125 [(.agg 2 [(Il x6), (Il x7)])] m4 (fun v8 m9 => 
 ∃ x10, (v8 = (.c (Il x10))) ∧ ((0 : Int) ≤ x5) ∧ ((0 : Int) ≤ x10) ∧ 
 fitsP .i64 (x5 * x10) ∧ isPt (.ptr m.nxt 0) ∧ ∃ x11 x12, 
 ((ldA m9 (.ptr m.nxt 7) 2) = (some [(Il x11), (Il x12)])) ∧ 
 ((ldA m4 (.ptr m.nxt 7) 2) = (some [(Il x11), (Il x12)])) ∧ 
 ((ldA m0 (.ptr m.nxt 7) 2) = (some [(Il x11), (Il x12)])) ∧ 
 Wc prog tbl 125 [(.agg 2 [(Il x11), (Il x12)])] m9 (fun v13 m14 => 
 ∃ x15, (v13 = (.c (Il x15))) ∧ ((0 : Int) ≤ (x5 * x10)) ∧ 
 ((0 : Int) ≤ x15) ∧ fitsP .i64 ((x5 * x10) * x15) ∧ isPt (.ptr m.nxt 0) ∧ 
 ∃ x16 x17, ((ldA m14 (.ptr m.nxt 9) 2) = (some [(Il x16), 
 (Il x17)])) ∧ ((ldA m9 (.ptr m.nxt 9) 2) = (some [(Il x16), 
 (Il x17)])) ∧ ((ldA m4 (.ptr m.nxt 9) 2) = (some [(Il x16), 
 (Il x17)])) ∧ ((ldA m0 (.ptr m.nxt 9) 2) = (some [(Il x16), 
 (Il x17)])) ∧ Wc prog tbl 125 [(.agg 2 [(Il x16), 
 (Il x17)])] m14 (fun v18 m19 => ∃ x20, (v18 = (.c (Il x20))) ∧ 
 ((0 : Int) ≤ ((x5 * x10) * x15)) ∧ ((0 : Int) ≤ x20) ∧ fitsP .i64 (((x5 * x10) * x15) * x20) ∧ 
 Q (.c (Il (((x5 * x10) * x15) * x20))) m19)))))) : Wc prog tbl 100 [(.agg 12 [(Il a100), (Il a101), (Il a102), (Il a103), (Il a104), (Il a105), (Il a106), (Il a107), (Il a108), (Il a109), (Il a110), a111])] m Q :=
 wc_eq (n := 1) rfl (by kernel_rfl) (by kernel_rfl) h
theorem w106 {a100 : C} {a200 : C} {m : M} {Q : V → M → Prop} (h :
 (∀ m0 : M, (m0 = (M.new m (AO.cells 1 [a200] false))) → Wc prog tbl 126 [(.c a100), (.c (C.fn (Fn.func 127) [] [(W.c (C0.ptr m.nxt 0))]))] m0 (fun v1 m2 => 
 ∃ b3 : Bool, (v1 = (.c (.bool b3))) ∧ Q (.c (.bool (!b3))) m2))) : Wc prog tbl 106 [(.c a100), (.c a200)] m Q :=
 wc_eq (n := 2) rfl (by kernel_rfl) (by kernel_rfl) h
theorem w112 {a100 : Int} {a101 : Int} {a102 : Int} {a103 : Int} {a104 : Int} {a105 : Int} {a106 : Int} {a107 : Int} {a108 : Int} {a109 : Int} {a110 : Int} {a111 : C} {a200 : Int} {a201 : Int} {a202 : Int} {a203 : Int} {a300 : Int} {a400 : Int} {m : M} {Q : V → M → Prop} (h :
 (∀ m0 : M, (m0 = (M.new m (AO.cells 12 [(Il a100), (Il a101), (Il a102), 
 (Il a103), (Il a104), (Il a105), (Il a106), 
 (Il a107), (Il a108), (Il a109), (Il a110), 
 a111] false))) → ∀ m1 : M, (m1 = (M.new m0 (AO.cells 4 [(Il a200), (Il a201), 
 (Il a202), (Il a203)] false))) → ∃ x2 x3 x4, 
 ∃ x5 x6 x7 x8 x9 x10 x11 x12, 
 ∃ c13 : C, ((ldA m1 (.ptr m.nxt 0) 12) = (some [(Il x2), (Il x3), 
 (Il x4), (Il x5), (Il x6), (Il x7), 
 (Il x8), (Il x9), (Il x10), (Il x11), 
 (Il x12), c13])) ∧ ∃ x14 x15 x16 x17, 
 ((ldA m1 (.ptr m0.nxt 0) 4) = (some [(Il x14), (Il x15), 
 (Il x16), (Il x17)])) ∧ Wc prog tbl 113 [(.agg 12 [(Il x2), 
 (Il x3), (Il x4), (Il x5), (Il x6), 
 (Il x7), (Il x8), (Il x9), (Il x10), 
 (Il x11), (Il x12), c13]), (.agg 4 [(Il x14), 
 (Il x15), (Il x16), (Il x17)]), (.c (Il a300)), 
 (.c (Il a400))] m1 (fun v18 m19 => ∃ x20, (v18 = (.c (Il x20))) ∧ 
 isPt (.ptr m.nxt 0) ∧ ∃ x21, ((ldC m19 (.ptr m.nxt 0)) = (some (Il x21))) ∧ 
 ((ldC m1 (.ptr m.nxt 0)) = (some (Il x21))) ∧ fitsP .i64 (x21 - 1) ∧ 
 isPt (.ptr m0.nxt 0) ∧ ∃ x22, ((ldC m19 (.ptr m0.nxt 2)) = (some (Il x22))) ∧ 
 ((ldC m1 (.ptr m0.nxt 2)) = (some (Il x22))) ∧ ((0 : Int) ≤ (x21 - 1)) ∧ 
 ((0 : Int) ≤ x22) ∧ fitsP .i64 ((x21 - 1) * x22) ∧ Q (.c (.bool (decide (x20 ≤ ((x21 - 1) * x22))))) m19))) : Wc prog tbl 112 [(.agg 12 [(Il a100), (Il a101), (Il a102), (Il a103), (Il a104), (Il a105), (Il a106), (Il a107), (Il a108), (Il a109), (Il a110), a111]), (.agg 4 [(Il a200), (Il a201), (Il a202), (Il a203)]), (.c (Il a300)), (.c (Il a400))] m Q :=
 wc_eq (n := 4) rfl (by kernel_rfl) (by kernel_rfl) h
theorem w116 {a100 : Int} {a101 : Int} {a102 : Int} {a103 : Int} {a104 : Int} {a105 : Int} {a106 : Int} {a107 : Int} {a108 : Int} {a109 : Int} {a110 : Int} {a111 : C} {m : M} {Q : V → M → Prop} (h :
 (∀ m0 : M, (m0 = (M.new m (AO.cells 12 [(Il a100), (Il a101), (Il a102), 
 (Il a103), (Il a104), (Il a105), (Il a106), 
 (Il a107), (Il a108), (Il a109), (Il a110), 
 a111] false))) → Q (.c (C.fn (Fn.func 130) [] [(W.c (C0.ptr m.nxt 0))])) m0)) : Wc prog tbl 116 [(.agg 12 [(Il a100), (Il a101), (Il a102), (Il a103), (Il a104), (Il a105), (Il a106), (Il a107), (Il a108), (Il a109), (Il a110), a111])] m Q :=
 wc_eq (n := 1) rfl (by kernel_rfl) (by kernel_rfl) h
theorem w120 {a100 : Int} {a101 : Int} {a200 : Int} {m : M} {Q : V → M → Prop} (h :
 (∀ m0 : M, (m0 = (M.new m (AO.cells 2 [(Il a100), (Il a101)] false))) → isPt (.ptr m.nxt 0) ∧ 
 ∃ x1, ((ldC m0 (.ptr m.nxt 0)) = (some (Il x1))) ∧ ifB (decide (x1 ≤ a200)) (isPt (.ptr m.nxt 0) ∧ 
 ∃ x2, ((ldC m0 (.ptr m.nxt 1)) = (some (Il x2))) ∧ Q (.c (.bool (decide (a200 ≤ x2)))) m0) (Q (.c (.bool false)) m0))) : Wc prog tbl 120 [(.agg 2 [(Il a100), (Il a101)]), (.c (Il a200))] m Q :=
 wc_eq (n := 2) rfl (by kernel_rfl) (by kernel_rfl) h
theorem w123 {a100 : C} {a200 : C} {m : M} {Q : V → M → Prop} (h :
 (∀ m0 : M, (m0 = (M.new m (AO.cells 1 [a200] false))) → Wc prog tbl 134 [(.c a100), (.c (C.fn (Fn.func 135) [] [(W.c (C0.ptr m.nxt 0))]))] m0 (fun v1 m2 => 
 ∃ b3 : Bool, (v1 = (.c (.bool b3))) ∧ Q (.c (.bool (!b3))) m2))) : Wc prog tbl 123 [(.c a100), (.c a200)] m Q :=
 wc_eq (n := 2) rfl (by kernel_rfl) (by kernel_rfl) h
theorem w126 {a100 : C} {a200 : C} {m : M} {Q : V → M → Prop} (h :
 (Wc prog tbl 136 [(.c a100), (.c a200)] m (fun v0 m1 => ∃ x2, (v0 = (.c (Il x2))) ∧ Q (.c (.bool (decide ((0 : Int) ≤ x2)))) m1))) : Wc prog tbl 126 [(.c a100), (.c a200)] m Q :=
 wc_eq (n := 2) rfl (by kernel_rfl) (by kernel_rfl) h
theorem w133 {a100 : Int} {a101 : Int} {a102 : Int} {a103 : Int} {a104 : Bool} {a105 : Int} {a106 : Int} {m : M} {Q : V → M → Prop} (h :
 (∀ m0 : M, (m0 = (M.new m (AO.cells 7 [(Il a100), (Il a101), (Il a102), 
 (Il a103), (.bool a104), (Il a105), (Il a106)] false))) → 
 ∀ m1 : M, (m1 = (M.new m0 (AO.cells 4 [(Il 0), (Il 0), (Il 0), 
 (Il 0)] false))) → isPt (.ptr m.nxt 0) ∧ ∃ x2 x3, ((ldA m1 (.ptr m.nxt 0) 2) = (some [(Il x2), 
 (Il x3)])) ∧ isPt (.ptr m.nxt 0) ∧ ∃ x4 x5, ((ldA m1 (.ptr m.nxt 2) 2) = (some [(Il x4), 
 (Il x5)])) ∧ ∃ m6 : M, ((stC m1 (.ptr m0.nxt 0) 4 [(Il x2), 
 (Il x3), (Il x4), (Il x5)]) = (some m6)) ∧ 
 ∃ x7 x8 x9 x10, ((ldA m6 (.ptr m0.nxt 0) 4) = (some [(Il x7), 
 (Il x8), (Il x9), (Il x10)])) ∧ Q (.agg 4 [(Il x7), 
 (Il x8), (Il x9), (Il x10)]) m6)) : Wc prog tbl 133 [(.agg 7 [(Il a100), (Il a101), (Il a102), (Il a103), (.bool a104), (Il a105), (Il a106)])] m Q :=
 wc_eq (n := 1) rfl (by kernel_rfl) (by kernel_rfl) h
theorem w139 {a100 : C} {a200 : C} {m : M} {Q : V → M → Prop} (h :
 (isSl a100 ∧ ∀ R0 : List V → M → Prop, (∀ x1 : Int, ∀ x2 : Int, ∀ m3 : M, (ifB (decide (x2 < (((slLen a100) : Nat) : Int))) (∃ n4 : Nat, 
 (x2 = ((n4 : Nat) : Int)) ∧ (n4 < (slLen a100)) ∧ ∃ x5 x6 x7 x8, 
 ∃ b9 : Bool, ∃ x10 x11, ((ldA m3 (slAt a100 (n4 * 7)) 7) = (some [(Il x5), 
 (Il x6), (Il x7), (Il x8), (.bool b9), 
 (Il x10), (Il x11)])) ∧ callP prog tbl [(.agg 7 [(Il x5), 
 (Il x6), (Il x7), (Il x8), (.bool b9), 
 (Il x10), (Il x11)])] a200 m3 (fun v12 m13 => ∃ b14 : Bool, 
 (v12 = (.c (.bool b14))) ∧ ifB b14 (Q (.c (Il x2)) m13) (fitsP .i64 (x2 + 1) ∧ 
 R0 [(.c (Il x1)), (.c (Il (x2 + 1)))] m13))) (Q (.c (Il (-1 : Int))) m3)) → 
 R0 [(.c (Il x1)), (.c (Il x2))] m3) → R0 [(.c (Il 0)), 
 (.c (Il 0))] m)) : Wc prog tbl 139 [(.c a100), (.c a200)] m Q :=
 wc_eq (n := 2) rfl (by kernel_rfl) (by kernel_rfl) h
end
end Go.Proofs.Ytbnfnhfanooplaa

namespace Go.Proofs.Ytbnfnhfanooplaa
open _root_.Go.Proofs.Try
open Go.Abs
set_option maxRecDepth 100000
noncomputable section
theorem w19 {a100 : Int} {a101 : Int} {a102 : Int} {a103 : Int} {a104 : Int} {a105 : Int} {a106 : Int} {a107 : Int} {a108 : Int} {a109 : Int} {a110 : Int} {a111 : C} {m : M} {Q : V → M → Prop} (h :
 (∀ m0 : M, (m0 = (M.new m (AO.cells 12 [(Il a100), (Il a101), (Il a102), 
 (Il a103), (Il a104), (Il a105), (Il a106), 
 (Il a107), (Il a108), (Il a109), (Il a110), 
 a111] false))) → ∀ m1 : M, (m1 = (M.new m0 (AO.cells 12 [(Il 0), (Il 0), 
 (Il 0), (Il 0), (Il 0), (Il 0), 
 (Il 0), (Il 0), (Il 0), (Il 0), 
 (Il 0), C.sl0] false))) → ∀ m2 : M, (m2 = (mGrow m1 1)) → isPt (.ptr m.nxt 0) ∧ 
 ∃ x3, ((ldC m2 (.ptr m.nxt 0)) = (some (Il x3))) ∧ isPt (.ptr m.nxt 0) ∧ 
 ∃ x4, ((ldC m2 (.ptr m.nxt 1)) = (some (Il x4))) ∧ isPt (.ptr m.nxt 0) ∧ 
 ∃ x5, ((ldC m2 (.ptr m.nxt 2)) = (some (Il x5))) ∧ isPt (.ptr m.nxt 0) ∧ 
 ∃ x6 x7, ((ldA m2 (.ptr m.nxt 3) 2) = (some [(Il x6), 
 (Il x7)])) ∧ Wc prog tbl 32 [(.agg 2 [(Il x6), (Il x7)])] m2 (fun v8 m9 => 
 ∃ x10 x11, (v8 = (.agg 2 [(Il x10), (Il x11)])) ∧ 
 ((ldC m9 (.ptr m.nxt 2)) = (some (Il x5))) ∧ ((ldC m9 (.ptr m.nxt 1)) = (some (Il x4))) ∧ 
 ((ldC m9 (.ptr m.nxt 0)) = (some (Il x3))) ∧ isPt (.ptr m.nxt 0) ∧ 
 ∃ x12 x13, ((ldA m9 (.ptr m.nxt 5) 2) = (some [(Il x12), 
 (Il x13)])) ∧ ((ldA m2 (.ptr m.nxt 5) 2) = (some [(Il x12), 
 (Il x13)])) ∧ Wc prog tbl 32 [(.agg 2 [(Il x12), 
 (Il x13)])] m9 (fun v14 m15 => ∃ x16 x17, (v14 = (.agg 2 [(Il x16), 
 (Il x17)])) ∧ ((ldC m15 (.ptr m.nxt 2)) = (some (Il x5))) ∧ 
 ((ldC m15 (.ptr m.nxt 1)) = (some (Il x4))) ∧ ((ldC m15 (.ptr m.nxt 0)) = (some (Il x3))) ∧ 
 isPt (.ptr m.nxt 0) ∧ ∃ x18 x19, ((ldA m15 (.ptr m.nxt 7) 2) = (some [(Il x18), 
 (Il x19)])) ∧ ((ldA m9 (.ptr m.nxt 7) 2) = (some [(Il x18), 
 (Il x19)])) ∧ ((ldA m2 (.ptr m.nxt 7) 2) = (some [(Il x18), 
 (Il x19)])) ∧ Wc prog tbl 32 [(.agg 2 [(Il x18), 
 (Il x19)])] m15 (fun v20 m21 => ∃ x22 x23, (v20 = (.agg 2 [(Il x22), 
 (Il x23)])) ∧ ((ldC m21 (.ptr m.nxt 2)) = (some (Il x5))) ∧ 
 ((ldC m21 (.ptr m.nxt 1)) = (some (Il x4))) ∧ ((ldC m21 (.ptr m.nxt 0)) = (some (Il x3))) ∧ 
 isPt (.ptr m.nxt 0) ∧ ∃ x24 x25, ((ldA m21 (.ptr m.nxt 9) 2) = (some [(Il x24), 
 (Il x25)])) ∧ ((ldA m15 (.ptr m.nxt 9) 2) = (some [(Il x24), 
 (Il x25)])) ∧ ((ldA m9 (.ptr m.nxt 9) 2) = (some [(Il x24), 
 (Il x25)])) ∧ ((ldA m2 (.ptr m.nxt 9) 2) = (some [(Il x24), 
 (Il x25)])) ∧ Wc prog tbl 32 [(.agg 2 [(Il x24), 
 (Il x25)])] m21 (fun v26 m27 => ∃ x28 x29, (v26 = (.agg 2 [(Il x28), 
 (Il x29)])) ∧ ((ldC m27 (.ptr m.nxt 2)) = (some (Il x5))) ∧ 
 ((ldC m27 (.ptr m.nxt 1)) = (some (Il x4))) ∧ ((ldC m27 (.ptr m.nxt 0)) = (some (Il x3))) ∧ 
 ∀ m30 : M, (m30 = (M.set m27 (m1.nxt + 0) (AO.cells 12 [(Il 0), 
 (Il 0), (Il 0), (Il 0), 
 (Il 0), (Il 0), (Il 0), 
 (Il 0), (Il 0), (Il 0), 
 (Il 0), C.sl0] false))) → ((ldA m30 (.ptr m.nxt 9) 2) = (some [(Il x24), 
 (Il x25)])) ∧ ((ldA m30 (.ptr m.nxt 7) 2) = (some [(Il x18), 
 (Il x19)])) ∧ ((ldA m30 (.ptr m.nxt 5) 2) = (some [(Il x12), 
 (Il x13)])) ∧ ((ldA m30 (.ptr m.nxt 3) 2) = (some [(Il x6), 
 (Il x7)])) ∧ ((ldC m30 (.ptr m.nxt 2)) = (some (Il x5))) ∧ 
 ((ldC m30 (.ptr m.nxt 1)) = (some (Il x4))) ∧ ((ldC m30 (.ptr m.nxt 0)) = (some (Il x3))) ∧ 
 ∃ m31 : M, ((stC m30 (.ptr (m1.nxt + 0) 0) 12 [(Il x3), (Il x4), 
 (Il x5), (Il x10), (Il x11), (Il x16), 
 (Il x17), (Il x22), (Il x23), (Il x28), 
 (Il x29), C.sl0]) = (some m31)) ∧ ∀ R32 : List V → M → 
 Prop, (∀ x33 : Int, ∀ m34 : M, (isPt (.ptr m.nxt 0) ∧ ∃ c35 : C, ((ldC m34 (.ptr m.nxt 11)) = (some c35)) ∧ 
 isSl c35 ∧ ifB (decide (x33 < (((slLen c35) : Nat) : Int))) (isPt (.ptr m.nxt 0) ∧ 
 ∃ c36 : C, ((ldC m34 (.ptr m.nxt 11)) = (some c36)) ∧ ∃ n37 : Nat, 
 (x33 = ((n37 : Nat) : Int)) ∧ (n37 < (slLen c36)) ∧ ∃ x38 x39, 
 ∃ x40 x41, ∃ b42 : Bool, ∃ x43 x44, ((ldA m34 (slAt c36 (n37 * 7)) 7) = (some [(Il x38), 
 (Il x39), (Il x40), (Il x41), (.bool b42), 
 (Il x43), (Il x44)])) ∧ ∀ m45 : M, (m45 = (M.new m34 (AO.cells 7 [(Il 0), 
 (Il 0), (Il 0), (Il 0), 
 (.bool false), (Il 0), (Il 0)] false))) → 
 ∃ m46 : M, ((stC m45 (.ptr m34.nxt 0) 7 [(Il x38), (Il x39), 
 (Il x40), (Il x41), (.bool b42), (Il x43), 
 (Il x44)]) = (some m46)) ∧ isPt (.ptr (m1.nxt + 0) 0) ∧ 
 ∃ c47 : C, ((ldC m46 (.ptr (m1.nxt + 0) 11)) = (some c47)) ∧ isPt (.ptr m34.nxt 0) ∧ 
 ∃ x48 x49, ((ldA m46 (.ptr m34.nxt 0) 2) = (some [(Il x48), 
 (Il x49)])) ∧ Wc prog tbl 32 [(.agg 2 [(Il x48), 
 (Il x49)])] m46 (fun v50 m51 => ∃ x52 x53, (v50 = (.agg 2 [(Il x52), 
 (Il x53)])) ∧ (ifB (cmC c47) ((ldC m51 (.ptr (m1.nxt + 0) 11)) = (some c47)) False) ∧ 
 isPt (.ptr m34.nxt 0) ∧ ∃ x54 x55, ((ldA m51 (.ptr m34.nxt 2) 2) = (some [(Il x54), 
 (Il x55)])) ∧ ((ldA m46 (.ptr m34.nxt 2) 2) = (some [(Il x54), 
 (Il x55)])) ∧ Wc prog tbl 32 [(.agg 2 [(Il x54), 
 (Il x55)])] m51 (fun v56 m57 => ∃ x58 x59, (v56 = (.agg 2 [(Il x58), 
 (Il x59)])) ∧ (ifB (cmC c47) ((ldC m57 (.ptr (m1.nxt + 0) 11)) = (some c47)) False) ∧ 
 isPt (.ptr m34.nxt 0) ∧ ∃ b60 : Bool, ((ldC m57 (.ptr m34.nxt 4)) = (some (.bool b60))) ∧ 
 ((ldC m51 (.ptr m34.nxt 4)) = (some (.bool b60))) ∧ ((ldC m46 (.ptr m34.nxt 4)) = (some (.bool b60))) ∧ 
 isPt (.ptr m34.nxt 0) ∧ ∃ x61 x62, ((ldA m57 (.ptr m34.nxt 5) 2) = (some [(Il x61), 
 (Il x62)])) ∧ ((ldA m51 (.ptr m34.nxt 5) 2) = (some [(Il x61), 
 (Il x62)])) ∧ ((ldA m46 (.ptr m34.nxt 5) 2) = (some [(Il x61), 
 (Il x62)])) ∧ Wc prog tbl 32 [(.agg 2 [(Il x61), 
 (Il x62)])] m57 (fun v63 m64 => ∃ x65 x66, (v63 = (.agg 2 [(Il x65), 
 (Il x66)])) ∧ ((ldC m64 (.ptr m34.nxt 4)) = (some (.bool b60))) ∧ 
 (ifB (cmC c47) ((ldC m64 (.ptr (m1.nxt + 0) 11)) = (some c47)) False) ∧ 
 ∀ m67 : M, (m67 = (M.new m64 (AO.cells 7 [(Il x52), (Il x53), 
 (Il x58), (Il x59), (.bool b60), (Il x65), 
 (Il x66)] false))) → (ifB (cmC c47) ((ldC m67 (.ptr (m1.nxt + 0) 11)) = (some c47)) False) ∧ 
 ∃ c68 : C, ∃ m69 : M, (ApR prog 35 m67 c47 (.sl m64.nxt 0 1 0 (some 1)) c68 m69) ∧ 
 isPt (.ptr (m1.nxt + 0) 0) ∧ ∃ m70 : M, ((stC m69 (.ptr (m1.nxt + 0) 11) 1 [c68]) = (some m70)) ∧ 
 fitsP .i64 (x33 + 1) ∧ R32 [(.c (Il (x33 + 1)))] m70)))) (∃ x71, 
 ∃ x72 x73 x74 x75 x76 x77, 
 ∃ x78 x79 x80 x81, ∃ c82 : C, ((ldA m34 (.ptr (m1.nxt + 0) 0) 12) = (some [(Il x71), 
 (Il x72), (Il x73), (Il x74), (Il x75), 
 (Il x76), (Il x77), (Il x78), (Il x79), 
 (Il x80), (Il x81), c82])) ∧ ∃ m83 : M, ((stC m34 (.ptr m0.nxt 0) 12 [(Il x71), 
 (Il x72), (Il x73), (Il x74), (Il x75), 
 (Il x76), (Il x77), (Il x78), (Il x79), 
 (Il x80), (Il x81), c82]) = (some m83)) ∧ 
 ∃ x84 x85 x86 x87 x88 x89, 
 ∃ x90 x91 x92 x93 x94, ∃ c95 : C, 
 ((ldA m83 (.ptr m0.nxt 0) 12) = (some [(Il x84), (Il x85), 
 (Il x86), (Il x87), (Il x88), (Il x89), 
 (Il x90), (Il x91), (Il x92), (Il x93), 
 (Il x94), c95])) ∧ Q (.agg 12 [(Il x84), (Il x85), 
 (Il x86), (Il x87), (Il x88), (Il x89), 
 (Il x90), (Il x91), (Il x92), (Il x93), 
 (Il x94), c95]) m83)) → R32 [(.c (Il x33))] m34) → 
 R32 [(.c (Il 0))] m31)))))) : Wc prog tbl 19 [(.agg 12 [(Il a100), (Il a101), (Il a102), (Il a103), (Il a104), (Il a105), (Il a106), (Il a107), (Il a108), (Il a109), (Il a110), a111])] m Q :=
 wc_eq (n := 1) rfl (by kernel_rfl) (by kernel_rfl) h
theorem w31 {a100 : Int} {a200 : Int} {a300 : Int} {m : M} {Q : V → M → Prop} (h :
 (ifB (decide (a200 ≤ a100)) (Q (.c (.bool (decide (a100 ≤ a300)))) m) (Q (.c (.bool false)) m))) : Wc prog tbl 31 [(.c (Il a100)), (.c (Il a200)), (.c (Il a300))] m Q :=
 wc_eq (n := 3) rfl (by kernel_rfl) (by kernel_rfl) h
theorem w49 {a100 : Int} {a101 : Int} {a102 : Int} {a103 : Int} {a104 : Int} {a105 : Int} {a106 : Int} {a107 : Int} {a108 : Int} {a109 : Int} {a110 : Int} {a111 : C} {m : M} {Q : V → M → Prop} (h :
 (∀ m0 : M, (m0 = (M.new m (AO.cells 12 [(Il a100), (Il a101), (Il a102), 
 (Il a103), (Il a104), (Il a105), (Il a106), 
 (Il a107), (Il a108), (Il a109), (Il a110), 
 a111] false))) → ∃ x1 x2 x3 x4 x5 x6 x7, 
 ∃ x8 x9 x10 x11, ∃ c12 : C, ((ldA m0 (.ptr m.nxt 0) 12) = (some [(Il x1), 
 (Il x2), (Il x3), (Il x4), (Il x5), 
 (Il x6), (Il x7), (Il x8), (Il x9), 
 (Il x10), (Il x11), c12])) ∧ Wc prog tbl 16 [(.agg 12 [(Il x1), 
 (Il x2), (Il x3), (Il x4), (Il x5), 
 (Il x6), (Il x7), (Il x8), (Il x9), 
 (Il x10), (Il x11), c12])] m0 (fun v13 m14 => ∃ b15 : Bool, 
 (v13 = (.c (.bool b15))) ∧ ifB b15 (∃ x16 x17 x18 x19, 
 ∃ x20 x21 x22 x23 x24 x25, 
 ∃ x26, ∃ c27 : C, ((ldA m14 (.ptr m.nxt 0) 12) = (some [(Il x16), 
 (Il x17), (Il x18), (Il x19), (Il x20), 
 (Il x21), (Il x22), (Il x23), (Il x24), 
 (Il x25), (Il x26), c27])) ∧ Wc prog tbl 66 [(.agg 12 [(Il x16), 
 (Il x17), (Il x18), (Il x19), (Il x20), 
 (Il x21), (Il x22), (Il x23), (Il x24), 
 (Il x25), (Il x26), c27])] m14 (fun v28 m29 => 
 ∃ x30, (v28 = (.c (Il x30))) ∧ Q (.c (.bool (decide (x30 = 0)))) m29)) (Q (.c (.bool false)) m14)))) : Wc prog tbl 49 [(.agg 12 [(Il a100), (Il a101), (Il a102), (Il a103), (Il a104), (Il a105), (Il a106), (Il a107), (Il a108), (Il a109), (Il a110), a111])] m Q :=
 wc_eq (n := 1) rfl (by kernel_rfl) (by kernel_rfl) h
theorem w58 {a100 : Int} {a101 : Int} {a102 : Int} {a103 : Int} {a104 : Int} {a105 : Int} {a106 : Int} {a107 : Int} {a108 : Int} {a109 : Int} {a110 : Int} {a111 : C} {m : M} {Q : V → M → Prop} (h :
 (∀ m0 : M, (m0 = (M.new m (AO.cells 12 [(Il a100), (Il a101), (Il a102), 
 (Il a103), (Il a104), (Il a105), (Il a106), 
 (Il a107), (Il a108), (Il a109), (Il a110), 
 a111] false))) → isPt (.ptr m.nxt 0) ∧ ∃ c1 : C, ((ldC m0 (.ptr m.nxt 11)) = (some c1)) ∧ 
 isSl c1 ∧ ((0 : Int) ≤ (1 : Int)) ∧ ((0 : Int) ≤ (wrapZ .u64 (((slLen c1) : Nat) : Int))) ∧ 
 ((wrapZ .u64 (((slLen c1) : Nat) : Int)) ≤ (64 : Int)) ∧ fitsP .i64 ((1 : Int) * ((2 : Int) ^ (Int.toNat (wrapZ .u64 (((slLen c1) : Nat) : Int))))) ∧ 
 fitsP .i64 (((1 : Int) * ((2 : Int) ^ (Int.toNat (wrapZ .u64 (((slLen c1) : Nat) : Int))))) - (1 : Int)) ∧ 
 Q (.c (Il (((1 : Int) * ((2 : Int) ^ (Int.toNat (wrapZ .u64 (((slLen c1) : Nat) : Int))))) - (1 : Int)))) m0)) : Wc prog tbl 58 [(.agg 12 [(Il a100), (Il a101), (Il a102), (Il a103), (Il a104), (Il a105), (Il a106), (Il a107), (Il a108), (Il a109), (Il a110), a111])] m Q :=
 wc_eq (n := 1) rfl (by kernel_rfl) (by kernel_rfl) h
theorem w64 {a100 : Int} {a101 : Int} {a102 : Int} {a103 : Int} {a104 : Int} {a105 : Int} {a106 : Int} {a107 : Int} {a108 : Int} {a109 : Int} {a110 : Int} {a111 : C} {a200 : C} {a300 : Int} {a400 : Int} {m : M} {Q : V → M → Prop} (h :
 (∀ m0 : M, (m0 = (M.new m (AO.cells 12 [(Il a100), (Il a101), (Il a102), 
 (Il a103), (Il a104), (Il a105), (Il a106), 
 (Il a107), (Il a108), (Il a109), (Il a110), 
 a111] false))) → ∀ R1 : List V → M → Prop, (∀ x2 : Int, ∀ x3 : Int, ∀ m4 : M, (isSl a200 ∧ ifB (decide (x3 < (((slLen a200) : Nat) : Int))) (∃ x5, 
 ∃ x6 x7 x8 x9 x10 x11 x12 x13, 
 ∃ x14 x15, ∃ c16 : C, ((ldA m4 (.ptr m.nxt 0) 12) = (some [(Il x5), 
 (Il x6), (Il x7), (Il x8), (Il x9), 
 (Il x10), (Il x11), (Il x12), (Il x13), 
 (Il x14), (Il x15), c16])) ∧ ∃ n17 : Nat, (x3 = ((n17 : Nat) : Int)) ∧ 
 (n17 < (slLen a200)) ∧ ∃ x18 x19 x20 x21, ((ldA m4 (slAt a200 (n17 * 4)) 4) = (some [(Il x18), 
 (Il x19), (Il x20), (Il x21)])) ∧ 
 Wc prog tbl 71 [(.agg 12 [(Il x5), (Il x6), (Il x7), 
 (Il x8), (Il x9), (Il x10), (Il x11), 
 (Il x12), (Il x13), (Il x14), (Il x15), 
 c16]), (.agg 4 [(Il x18), (Il x19), (Il x20), 
 (Il x21)]), (.c (Il a300)), (.c (Il a400))] m4 (fun v22 m23 => 
 ∃ b24 : Bool, (v22 = (.c (.bool b24))) ∧ ifB b24 (fitsP .i64 (x2 + 1) ∧ 
 fitsP .i64 (x3 + 1) ∧ R1 [(.c (Il (x2 + 1))), 
 (.c (Il (x3 + 1)))] m23) (fitsP .i64 (x3 + 1) ∧ 
 R1 [(.c (Il x2)), (.c (Il (x3 + 1)))] m23))) (isSl a200 ∧ 
 fitsP .i64 ((((slLen a200) : Nat) : Int) - x2) ∧ Q (.c (Il (Max.max x2 ((((slLen a200) : Nat) : Int) - x2)))) m4)) → 
 R1 [(.c (Il x2)), (.c (Il x3))] m4) → R1 [(.c (Il 0)), 
 (.c (Il 0))] m0)) : Wc prog tbl 64 [(.agg 12 [(Il a100), (Il a101), (Il a102), (Il a103), (Il a104), (Il a105), (Il a106), (Il a107), (Il a108), (Il a109), (Il a110), a111]), (.c a200), (.c (Il a300)), (.c (Il a400))] m Q :=
 wc_eq (n := 4) rfl (by kernel_rfl) (by kernel_rfl) h
theorem w67 {a100 : Int} {a101 : Int} {a102 : Int} {a103 : Int} {a104 : Int} {a105 : Int} {a106 : Int} {a107 : Int} {a108 : Int} {a109 : Int} {a110 : Int} {a111 : C} {m : M} {Q : V → M → Prop} (h :
 (∀ m0 : M, (m0 = (M.new m (AO.cells 12 [(Il a100), (Il a101), (Il a102), 
 (Il a103), (Il a104), (Il a105), (Il a106), 
 (Il a107), (Il a108), (Il a109), (Il a110), 
 a111] false))) → isPt (.ptr m.nxt 0) ∧ ∃ x1 x2, ((ldA m0 (.ptr m.nxt 3) 2) = (some [(Il x1), 
 (Il x2)])) ∧ Wc prog tbl 62 [(.agg 2 [(Il x1), (Il x2)])] m0 (fun v3 m4 => 
 ∃ x5, (v3 = (.c (Il x5))) ∧ isPt (.ptr m.nxt 0) ∧ ∃ x6 x7, 
 ((ldA m4 (.ptr m.nxt 5) 2) = (some [(Il x6), (Il x7)])) ∧ 
 ((ldA m0 (.ptr m.nxt 5) 2) = (some [(Il x6), (Il x7)])) ∧ 
 Wc prog tbl 62 [(.agg 2 [(Il x6), (Il x7)])] m4 (fun v8 m9 => 
 ∃ x10, (v8 = (.c (Il x10))) ∧ ((0 : Int) ≤ x5) ∧ ((0 : Int) ≤ x10) ∧ 
 fitsP .i64 (x5 * x10) ∧ isPt (.ptr m.nxt 0) ∧ ∃ x11 x12, 
 ((ldA m9 (.ptr m.nxt 7) 2) = (some [(Il x11), (Il x12)])) ∧ 
 ((ldA m4 (.ptr m.nxt 7) 2) = (some [(Il x11), (Il x12)])) ∧ 
 ((ldA m0 (.ptr m.nxt 7) 2) = (some [(Il x11), (Il x12)])) ∧ 
 Wc prog tbl 62 [(.agg 2 [(Il x11), (Il x12)])] m9 (fun v13 m14 => 
 ∃ x15, (v13 = (.c (Il x15))) ∧ ((0 : Int) ≤ (x5 * x10)) ∧ 
 ((0 : Int) ≤ x15) ∧ fitsP .i64 ((x5 * x10) * x15) ∧ isPt (.ptr m.nxt 0) ∧ 
 ∃ x16 x17, ((ldA m14 (.ptr m.nxt 9) 2) = (some [(Il x16), 
 (Il x17)])) ∧ ((ldA m9 (.ptr m.nxt 9) 2) = (some [(Il x16), 
 (Il x17)])) ∧ ((ldA m4 (.ptr m.nxt 9) 2) = (some [(Il x16), 
 (Il x17)])) ∧ ((ldA m0 (.ptr m.nxt 9) 2) = (some [(Il x16), 
 (Il x17)])) ∧ Wc prog tbl 62 [(.agg 2 [(Il x16), 
 (Il x17)])] m14 (fun v18 m19 => ∃ x20, (v18 = (.c (Il x20))) ∧ 
 ((0 : Int) ≤ ((x5 * x10) * x15)) ∧ ((0 : Int) ≤ x20) ∧ fitsP .i64 (((x5 * x10) * x15) * x20) ∧ 
 Q (.c (Il (((x5 * x10) * x15) * x20))) m19)))))) : Wc prog tbl 67 [(.agg 12 [(Il a100), (Il a101), (Il a102), (Il a103), (Il a104), (Il a105), (Il a106), (Il a107), (Il a108), (Il a109), (Il a110), a111])] m Q :=
 wc_eq (n := 1) rfl (by kernel_rfl) (by kernel_rfl) h
theorem w70 {a100 : Int} {a101 : Int} {a200 : Int} {a300 : Int} {m : M} {Q : V → M → Prop} (h :
 (∀ m0 : M, (m0 = (M.new m (AO.cells 2 [(Il a100), (Il a101)] false))) → isPt (.ptr m.nxt 0) ∧ 
 ∃ x1, ((ldC m0 (.ptr m.nxt 0)) = (some (Il x1))) ∧ ifB (decide (a200 ≤ x1)) (isPt (.ptr m.nxt 0) ∧ 
 ∃ x2, ((ldC m0 (.ptr m.nxt 0)) = (some (Il x2))) ∧ isPt (.ptr m.nxt 0) ∧ 
 ∃ x3, ((ldC m0 (.ptr m.nxt 1)) = (some (Il x3))) ∧ ifB (decide (x2 ≤ x3)) (isPt (.ptr m.nxt 0) ∧ 
 ∃ x4, ((ldC m0 (.ptr m.nxt 1)) = (some (Il x4))) ∧ Q (.c (.bool (decide (x4 ≤ a300)))) m0) (Q (.c (.bool false)) m0)) (Q (.c (.bool false)) m0))) : Wc prog tbl 70 [(.agg 2 [(Il a100), (Il a101)]), (.c (Il a200)), (.c (Il a300))] m Q :=
 wc_eq (n := 3) rfl (by kernel_rfl) (by kernel_rfl) h
theorem w77 {a100 : Int} {a101 : Int} {a102 : Int} {a103 : Int} {a104 : Int} {a105 : Int} {a106 : Int} {a107 : Int} {a108 : Int} {a109 : Int} {a110 : Int} {a111 : C} {m : M} {Q : V → M → Prop} (h :
 (∀ m0 : M, (m0 = (M.new m (AO.cells 12 [(Il a100), (Il a101), (Il a102), 
 (Il a103), (Il a104), (Il a105), (Il a106), 
 (Il a107), (Il a108), (Il a109), (Il a110), 
 a111] false))) → ∀ m1 : M, (m1 = (M.new m0 (AO.cells 4 [(Il 0), (Il 0), 
 (Il 0), (Il 0)] false))) → isPt (.ptr m.nxt 0) ∧ 
 ∃ x2, ((ldC m1 (.ptr m.nxt 0)) = (some (Il x2))) ∧ fitsP .i64 (x2 - 1) ∧ 
 isPt (.ptr m.nxt 0) ∧ ∃ x3, ((ldC m1 (.ptr m.nxt 1)) = (some (Il x3))) ∧ 
 fitsP .i64 (x3 - 1) ∧ ∃ m4 : M, ((stC m1 (.ptr m0.nxt 0) 4 [(Il 0), 
 (Il (x2 - 1)), (Il 0), (Il (x3 - 1))]) = (some m4)) ∧ 
 ∃ x5 x6 x7 x8, ((ldA m4 (.ptr m0.nxt 0) 4) = (some [(Il x5), 
 (Il x6), (Il x7), (Il x8)])) ∧ Q (.agg 4 [(Il x5), 
 (Il x6), (Il x7), (Il x8)]) m4)) : Wc prog tbl 77 [(.agg 12 [(Il a100), (Il a101), (Il a102), (Il a103), (Il a104), (Il a105), (Il a106), (Il a107), (Il a108), (Il a109), (Il a110), a111])] m Q :=
 wc_eq (n := 1) rfl (by kernel_rfl) (by kernel_rfl) h
theorem w83 {a100 : Int} {m : M} {Q : V → M → Prop} (h :
 (∀ m0 : M, (m0 = (M.new m (AO.cells 6 [(.bool false), (.bool false), (.bool false), (.bool false), (.bool false), 
 (.bool false)] false))) → ∀ m1 : M, (m1 = (M.new m0 (AO.cells 6 [(.bool false), (.bool false), (.bool false), 
 (.bool false), (.bool false), (.bool false)] false))) → fitsP .i64 (a100 + 1) ∧ 
 ∀ R2 : List V → M → Prop, (∀ x3 : Int, ∀ m4 : M, (ifB (decide (x3 < (a100 + 1))) (isPt (.ptr m0.nxt 0) ∧ 
 ∃ n5 : Nat, (x3 = ((n5 : Nat) : Int)) ∧ (n5 < 6) ∧ ∃ m6 : M, ((stC m4 (.ptr m0.nxt (0 + (n5 * 1))) 1 [(.bool true)]) = (some m6)) ∧ 
 fitsP .i64 (x3 + 1) ∧ R2 [(.c (Il (x3 + 1)))] m6) (∃ b7 : Bool, 
 ∃ b8 : Bool, ∃ b9 : Bool, ∃ b10 : Bool, ∃ b11 : Bool, ∃ b12 : Bool, ((ldA m4 (.ptr m0.nxt 0) 6) = (some [(.bool b7), 
 (.bool b8), (.bool b9), (.bool b10), (.bool b11), (.bool b12)])) ∧ ∃ m13 : M, ((stC m4 (.ptr m.nxt 0) 6 [(.bool b7), 
 (.bool b8), (.bool b9), (.bool b10), (.bool b11), (.bool b12)]) = (some m13)) ∧ 
 ∃ b14 : Bool, ∃ b15 : Bool, ∃ b16 : Bool, ∃ b17 : Bool, ∃ b18 : Bool, ∃ b19 : Bool, 
 ((ldA m13 (.ptr m.nxt 0) 6) = (some [(.bool b14), (.bool b15), (.bool b16), 
 (.bool b17), (.bool b18), (.bool b19)])) ∧ Q (.agg 6 [(.bool b14), (.bool b15), 
 (.bool b16), (.bool b17), (.bool b18), (.bool b19)]) m13)) → 
 R2 [(.c (Il x3))] m4) → R2 [(.c (Il 0))] m1)) : Wc prog tbl 83 [(.c (Il a100))] m Q :=
 wc_eq (n := 1) rfl (by kernel_rfl) (by kernel_rfl) h
theorem w86 {a100 : Int} {a101 : Int} {a102 : Int} {a103 : Int} {a104 : Int} {a105 : Int} {a106 : Int} {a107 : Int} {a108 : Int} {a109 : Int} {a110 : Int} {a111 : C} {a112 : C} {m : M} {Q : V → M → Prop} (h :
 (∀ m0 : M, (m0 = (M.new m (AO.cells 13 [(Il a100), (Il a101), (Il a102), 
 (Il a103), (Il a104), (Il a105), (Il a106), 
 (Il a107), (Il a108), (Il a109), (Il a110), 
 a111, a112] false))) → ∃ x1 x2 x3 x4 x5 x6, 
 ∃ x7 x8 x9 x10 x11, ∃ c12 : C, ∃ c13 : C, ((ldA m0 (.ptr m.nxt 0) 13) = (some [(Il x1), 
 (Il x2), (Il x3), (Il x4), (Il x5), 
 (Il x6), (Il x7), (Il x8), (Il x9), 
 (Il x10), (Il x11), c12, c13])) ∧ ∃ x14 x15, 
 ∃ x16 x17 x18 x19 x20 x21 x22, 
 ∃ x23 x24, ∃ c25 : C, ∃ c26 : C, ((ldA m0 (.ptr m.nxt 0) 13) = (some [(Il x14), 
 (Il x15), (Il x16), (Il x17), (Il x18), 
 (Il x19), (Il x20), (Il x21), (Il x22), 
 (Il x23), (Il x24), c25, c26])) ∧ Wc prog tbl 92 [(.agg 13 [(Il x14), 
 (Il x15), (Il x16), (Il x17), (Il x18), 
 (Il x19), (Il x20), (Il x21), (Il x22), 
 (Il x23), (Il x24), c25, c26])] m0 (fun v27 m28 => 
 ∃ b29 : Bool, ∃ b30 : Bool, ∃ b31 : Bool, ∃ b32 : Bool, ∃ b33 : Bool, ∃ b34 : Bool, 
 (v27 = (.agg 6 [(.bool b29), (.bool b30), (.bool b31), (.bool b32), (.bool b33), 
 (.bool b34)])) ∧ (ifB (allS cmC [(Il x1), (Il x2), 
 (Il x3), (Il x4), (Il x5), (Il x6), 
 (Il x7), (Il x8), (Il x9), (Il x10), 
 (Il x11), c12, c13]) ((ldA m28 (.ptr m.nxt 0) 13) = (some [(Il x1), 
 (Il x2), (Il x3), (Il x4), (Il x5), 
 (Il x6), (Il x7), (Il x8), (Il x9), 
 (Il x10), (Il x11), c12, c13])) False) ∧ Wc prog tbl 82 [(.agg 13 [(Il x1), 
 (Il x2), (Il x3), (Il x4), (Il x5), 
 (Il x6), (Il x7), (Il x8), (Il x9), 
 (Il x10), (Il x11), c12, c13]), (.agg 6 [(.bool b29), 
 (.bool b30), (.bool b31), (.bool b32), (.bool b33), (.bool b34)])] m28 (fun v35 m36 => 
 ∃ b37 : Bool, (v35 = (.c (.bool b37))) ∧ Q (.c (.bool b37)) m36)))) : Wc prog tbl 86 [(.agg 13 [(Il a100), (Il a101), (Il a102), (Il a103), (Il a104), (Il a105), (Il a106), (Il a107), (Il a108), (Il a109), (Il a110), a111, a112])] m Q :=
 wc_eq (n := 1) rfl (by kernel_rfl) (by kernel_rfl) h
theorem w92 {a100 : Int} {a101 : Int} {a102 : Int} {a103 : Int} {a104 : Int} {a105 : Int} {a106 : Int} {a107 : Int} {a108 : Int} {a109 : Int} {a110 : Int} {a111 : C} {a112 : C} {m : M} {Q : V → M → Prop} (h :
 (∀ m0 : M, (m0 = (M.new m (AO.cells 13 [(Il a100), (Il a101), (Il a102), 
 (Il a103), (Il a104), (Il a105), (Il a106), 
 (Il a107), (Il a108), (Il a109), (Il a110), 
 a111, a112] false))) → ∀ m1 : M, (m1 = (M.new m0 (AO.cells 6 [(.bool false), (.bool false), (.bool false), 
 (.bool false), (.bool false), (.bool false)] false))) → isPt (.ptr m.nxt 0) ∧ isPt (.ptr m.nxt 0) ∧ 
 ∃ c2 : C, ((ldC m1 (.ptr m.nxt 11)) = (some c2)) ∧ isSl c2 ∧ fitsP .i64 ((((slLen c2) : Nat) : Int) - (1 : Int)) ∧ 
 Wc prog tbl 83 [(.c (Il ((((slLen c2) : Nat) : Int) - (1 : Int))))] m1 (fun v3 m4 => 
 ∃ b5 : Bool, ∃ b6 : Bool, ∃ b7 : Bool, ∃ b8 : Bool, ∃ b9 : Bool, ∃ b10 : Bool, (v3 = (.agg 6 [(.bool b5), 
 (.bool b6), (.bool b7), (.bool b8), (.bool b9), (.bool b10)])) ∧ ∃ m11 : M, ((stC m4 (.ptr m0.nxt 0) 6 [(.bool b5), 
 (.bool b6), (.bool b7), (.bool b8), (.bool b9), (.bool b10)]) = (some m11)) ∧ 
 ∃ b12 : Bool, ∃ b13 : Bool, ∃ b14 : Bool, ∃ b15 : Bool, ∃ b16 : Bool, ∃ b17 : Bool, 
 ((ldA m11 (.ptr m0.nxt 0) 6) = (some [(.bool b12), (.bool b13), (.bool b14), 
 (.bool b15), (.bool b16), (.bool b17)])) ∧ Q (.agg 6 [(.bool b12), (.bool b13), 
 (.bool b14), (.bool b15), (.bool b16), (.bool b17)]) m11))) : Wc prog tbl 92 [(.agg 13 [(Il a100), (Il a101), (Il a102), (Il a103), (Il a104), (Il a105), (Il a106), (Il a107), (Il a108), (Il a109), (Il a110), a111, a112])] m Q :=
 wc_eq (n := 1) rfl (by kernel_rfl) (by kernel_rfl) h
theorem w98 {a100 : Int} {a101 : Int} {a102 : Int} {a103 : Int} {a104 : Int} {a105 : Int} {a106 : Int} {a107 : Int} {a108 : Int} {a109 : Int} {a110 : Int} {a111 : C} {m : M} {Q : V → M → Prop} (h :
 (∀ m0 : M, (m0 = (M.new m (AO.cells 12 [(Il a100), (Il a101), (Il a102), 
 (Il a103), (Il a104), (Il a105), (Il a106), 
 (Il a107), (Il a108), (Il a109), (Il a110), 
 a111] false))) → isPt (.ptr m.nxt 0) ∧ ∃ x1, ((ldC m0 (.ptr m.nxt 0)) = (some (Il x1))) ∧ 
 ifB (decide ((12 : Int) < x1)) (Q (.c (.bool true)) m0) (isPt (.ptr m.nxt 0) ∧ ∃ x2, ((ldC m0 (.ptr m.nxt 1)) = (some (Il x2))) ∧ 
 ifB (decide ((12 : Int) < x2)) (Q (.c (.bool true)) m0) (isPt (.ptr m.nxt 0) ∧ ∃ c3 : C, ((ldC m0 (.ptr m.nxt 11)) = (some c3)) ∧ 
 isSl c3 ∧ Q (.c (.bool (decide ((6 : Int) < (((slLen c3) : Nat) : Int))))) m0)))) : Wc prog tbl 98 [(.agg 12 [(Il a100), (Il a101), (Il a102), (Il a103), (Il a104), (Il a105), (Il a106), (Il a107), (Il a108), (Il a109), (Il a110), a111])] m Q :=
 wc_eq (n := 1) rfl (by kernel_rfl) (by kernel_rfl) h
theorem w107 {a100 : Int} {a101 : Int} {a102 : Int} {a103 : Int} {a104 : Int} {a105 : Int} {a106 : Int} {a107 : Int} {a108 : Int} {a109 : Int} {a110 : Int} {a111 : C} {a200 : Int} {a201 : Int} {a202 : Int} {a203 : Int} {m : M} {Q : V → M → Prop} (h :
 (∀ m0 : M, (m0 = (M.new m (AO.cells 12 [(Il a100), (Il a101), (Il a102), 
 (Il a103), (Il a104), (Il a105), (Il a106), 
 (Il a107), (Il a108), (Il a109), (Il a110), 
 a111] false))) → ∀ m1 : M, (m1 = (M.new m0 (AO.cells 4 [(Il a200), (Il a201), 
 (Il a202), (Il a203)] false))) → isPt (.ptr m0.nxt 0) ∧ ∃ x2, 
 ∃ x3, ((ldA m1 (.ptr m0.nxt 0) 2) = (some [(Il x2), (Il x3)])) ∧ 
 isPt (.ptr m.nxt 0) ∧ ∃ x4, ((ldC m1 (.ptr m.nxt 0)) = (some (Il x4))) ∧ 
 fitsP .i64 (x4 - 1) ∧ Wc prog tbl 122 [(.agg 2 [(Il x2), (Il x3)]), 
 (.c (Il 0)), (.c (Il (x4 - 1)))] m1 (fun v5 m6 => 
 ∃ b7 : Bool, (v5 = (.c (.bool b7))) ∧ ifB b7 (isPt (.ptr m0.nxt 0) ∧ ∃ x8 x9, 
 ((ldA m6 (.ptr m0.nxt 2) 2) = (some [(Il x8), (Il x9)])) ∧ 
 isPt (.ptr m.nxt 0) ∧ ∃ x10, ((ldC m6 (.ptr m.nxt 1)) = (some (Il x10))) ∧ 
 fitsP .i64 (x10 - 1) ∧ Wc prog tbl 122 [(.agg 2 [(Il x8), 
 (Il x9)]), (.c (Il 0)), (.c (Il (x10 - 1)))] m6 (fun v11 m12 => 
 ∃ b13 : Bool, (v11 = (.c (.bool b13))) ∧ Q (.c (.bool b13)) m12)) (Q (.c (.bool false)) m6)))) : Wc prog tbl 107 [(.agg 12 [(Il a100), (Il a101), (Il a102), (Il a103), (Il a104), (Il a105), (Il a106), (Il a107), (Il a108), (Il a109), (Il a110), a111]), (.agg 4 [(Il a200), (Il a201), (Il a202), (Il a203)])] m Q :=
 wc_eq (n := 2) rfl (by kernel_rfl) (by kernel_rfl) h
theorem w113 {a100 : Int} {a101 : Int} {a102 : Int} {a103 : Int} {a104 : Int} {a105 : Int} {a106 : Int} {a107 : Int} {a108 : Int} {a109 : Int} {a110 : Int} {a111 : C} {a200 : Int} {a201 : Int} {a202 : Int} {a203 : Int} {a300 : Int} {a400 : Int} {m : M} {Q : V → M → Prop} (h :
 (∀ m0 : M, (m0 = (M.new m (AO.cells 12 [(Il a100), (Il a101), (Il a102), 
 (Il a103), (Il a104), (Il a105), (Il a106), 
 (Il a107), (Il a108), (Il a109), (Il a110), 
 a111] false))) → ∀ m1 : M, (m1 = (M.new m0 (AO.cells 4 [(Il a200), (Il a201), 
 (Il a202), (Il a203)] false))) → isPt (.ptr m.nxt 0) ∧ ∃ x2, 
 ((ldC m1 (.ptr m.nxt 0)) = (some (Il x2))) ∧ fitsP .i64 (x2 - 1) ∧ 
 ((0 : Int) ≤ (x2 - 1)) ∧ ((0 : Int) ≤ a400) ∧ fitsP .i64 ((x2 - 1) * a400) ∧ 
 isPt (.ptr m0.nxt 0) ∧ ∃ x3, ((ldC m1 (.ptr m0.nxt 0)) = (some (Il x3))) ∧ 
 fitsP .i64 ((x2 - 1) - a300) ∧ ((0 : Int) ≤ x3) ∧ ((0 : Int) ≤ ((x2 - 1) - a300)) ∧ 
 fitsP .i64 (x3 * ((x2 - 1) - a300)) ∧ isPt (.ptr m0.nxt 0) ∧ ∃ x4, 
 ((ldC m1 (.ptr m0.nxt 1)) = (some (Il x4))) ∧ ((0 : Int) ≤ x4) ∧ 
 ((0 : Int) ≤ a300) ∧ fitsP .i64 (x4 * a300) ∧ fitsP .i64 ((x3 * ((x2 - 1) - a300)) + (x4 * a300)) ∧ 
 fitsP .i64 (((x2 - 1) * a400) - ((x3 * ((x2 - 1) - a300)) + (x4 * a300))) ∧ 
 fitsP .i64 ((0 : Int) - (((x2 - 1) * a400) - ((x3 * ((x2 - 1) - a300)) + (x4 * a300)))) ∧ 
 Q (.c (Il (Max.max (((x2 - 1) * a400) - ((x3 * ((x2 - 1) - a300)) + (x4 * a300))) ((0 : Int) - (((x2 - 1) * a400) - ((x3 * ((x2 - 1) - a300)) + (x4 * a300))))))) m1)) : Wc prog tbl 113 [(.agg 12 [(Il a100), (Il a101), (Il a102), (Il a103), (Il a104), (Il a105), (Il a106), (Il a107), (Il a108), (Il a109), (Il a110), a111]), (.agg 4 [(Il a200), (Il a201), (Il a202), (Il a203)]), (.c (Il a300)), (.c (Il a400))] m Q :=
 wc_eq (n := 4) rfl (by kernel_rfl) (by kernel_rfl) h
theorem w117 {a100 : Bool} {a101 : Bool} {a102 : Bool} {a103 : Bool} {a104 : Bool} {a105 : Bool} {a200 : Bool} {a201 : Bool} {a202 : Bool} {a203 : Bool} {a204 : Bool} {a205 : Bool} {m : M} {Q : V → M → Prop} (h :
 (∀ m0 : M, (m0 = (M.new m (AO.cells 6 [(.bool a100), (.bool a101), (.bool a102), (.bool a103), (.bool a104), 
 (.bool a105)] false))) → ∀ m1 : M, (m1 = (M.new m0 (AO.cells 6 [(.bool a200), (.bool a201), (.bool a202), 
 (.bool a203), (.bool a204), (.bool a205)] false))) → ∀ m2 : M, (m2 = (M.new m1 (AO.cells 6 [(.bool false), 
 (.bool false), (.bool false), (.bool false), (.bool false), (.bool false)] false))) → ∀ R3 : List V → 
 M → Prop, (∀ x4 : Int, ∀ m5 : M, (ifB (decide (x4 < 6)) (isPt (.ptr m0.nxt 0) ∧ ∃ n6 : Nat, 
 (x4 = ((n6 : Nat) : Int)) ∧ (n6 < 6) ∧ ∃ b7 : Bool, ((ldC m5 (.ptr m0.nxt (0 + (n6 * 1)))) = (some (.bool b7))) ∧ 
 ifB b7 (isPt (.ptr m.nxt 0) ∧ ∃ n8 : Nat, (x4 = ((n8 : Nat) : Int)) ∧ (n8 < 6) ∧ ∃ b9 : Bool, 
 ((ldC m5 (.ptr m.nxt (0 + (n8 * 1)))) = (some (.bool b9))) ∧ isPt (.ptr m0.nxt 0) ∧ 
 ∃ n10 : Nat, (x4 = ((n10 : Nat) : Int)) ∧ (n10 < 6) ∧ ∃ m11 : M, ((stC m5 (.ptr m0.nxt (0 + (n10 * 1))) 1 [(.bool b9)]) = (some m11)) ∧ 
 fitsP .i64 (x4 + 1) ∧ R3 [(.c (Il (x4 + 1)))] m11) (isPt (.ptr m0.nxt 0) ∧ 
 ∃ n12 : Nat, (x4 = ((n12 : Nat) : Int)) ∧ (n12 < 6) ∧ ∃ m13 : M, ((stC m5 (.ptr m0.nxt (0 + (n12 * 1))) 1 [(.bool false)]) = (some m13)) ∧ 
 fitsP .i64 (x4 + 1) ∧ R3 [(.c (Il (x4 + 1)))] m13)) (∃ b14 : Bool, 
 ∃ b15 : Bool, ∃ b16 : Bool, ∃ b17 : Bool, ∃ b18 : Bool, ∃ b19 : Bool, ((ldA m5 (.ptr m0.nxt 0) 6) = (some [(.bool b14), 
 (.bool b15), (.bool b16), (.bool b17), (.bool b18), (.bool b19)])) ∧ ∃ m20 : M, 
 ((stC m5 (.ptr m1.nxt 0) 6 [(.bool b14), (.bool b15), (.bool b16), (.bool b17), 
 (.bool b18), (.bool b19)]) = (some m20)) ∧ ∃ b21 : Bool, ∃ b22 : Bool, ∃ b23 : Bool, 
 ∃ b24 : Bool, ∃ b25 : Bool, ∃ b26 : Bool, ((ldA m20 (.ptr m1.nxt 0) 6) = (some [(.bool b21), 
 (.bool b22), (.bool b23), (.bool b24), (.bool b25), (.bool b26)])) ∧ Q (.agg 6 [(.bool b21), 
 (.bool b22), (.bool b23), (.bool b24), (.bool b25), (.bool b26)]) m20)) → 
 R3 [(.c (Il x4))] m5) → R3 [(.c (Il 0))] m2)) : Wc prog tbl 117 [(.agg 6 [(.bool a100), (.bool a101), (.bool a102), (.bool a103), (.bool a104), (.bool a105)]), (.agg 6 [(.bool a200), (.bool a201), (.bool a202), (.bool a203), (.bool a204), (.bool a205)])] m Q :=
 wc_eq (n := 2) rfl (by kernel_rfl) (by kernel_rfl) h
theorem w121 {a100 : Int} {a101 : Int} {a102 : Int} {a103 : Int} {a104 : Int} {a105 : Int} {a106 : Int} {a107 : Int} {a108 : Int} {a109 : Int} {a110 : Int} {a111 : C} {a200 : Int} {a201 : Int} {a202 : Int} {a203 : Int} {a204 : Bool} {a205 : Int} {a206 : Int} {a300 : Int} {a301 : Int} {a302 : Int} {a303 : Int} {m : M} {Q : V → M → Prop} (h :
 (∀ m0 : M, (m0 = (M.new m (AO.cells 12 [(Il a100), (Il a101), (Il a102), 
 (Il a103), (Il a104), (Il a105), (Il a106), 
 (Il a107), (Il a108), (Il a109), (Il a110), 
 a111] false))) → ∀ m1 : M, (m1 = (M.new m0 (AO.cells 7 [(Il a200), (Il a201), 
 (Il a202), (Il a203), (.bool a204), (Il a205), (Il a206)] false))) → 
 ∀ m2 : M, (m2 = (M.new m1 (AO.cells 4 [(Il a300), (Il a301), (Il a302), 
 (Il a303)] false))) → ∀ m3 : M, (m3 = (M.new m2 (AO.cells 1 [(.bool false)] false))) → 
 ∃ x4 x5 x6 x7, ∃ b8 : Bool, ∃ x9 x10, ((ldA m3 (.ptr m0.nxt 0) 7) = (some [(Il x4), 
 (Il x5), (Il x6), (Il x7), (.bool b8), (Il x9), 
 (Il x10)])) ∧ Wc prog tbl 133 [(.agg 7 [(Il x4), (Il x5), 
 (Il x6), (Il x7), (.bool b8), (Il x9), (Il x10)])] m3 (fun v11 m12 => 
 ∃ x13 x14 x15 x16, (v11 = (.agg 4 [(Il x13), 
 (Il x14), (Il x15), (Il x16)])) ∧ Wc prog tbl 78 [(.agg 4 [(Il x13), 
 (Il x14), (Il x15), (Il x16)])] m12 (fun v17 m18 => 
 ∃ c19 : C, (v17 = (.c c19)) ∧ rangeP prog tbl c19 m18 (fun l20 m21 R22 R23 => 
 ∃ x24 x25, (l20 = [(.c (Il x24)), (.c (Il x25))]) ∧ 
 R22 m21 (fun m26 => ∃ x27 x28 x29 x30, 
 ∃ x31 x32 x33 x34 x35 x36, 
 ∃ x37, ∃ c38 : C, ((ldA m26 (.ptr m.nxt 0) 12) = (some [(Il x27), 
 (Il x28), (Il x29), (Il x30), (Il x31), 
 (Il x32), (Il x33), (Il x34), (Il x35), 
 (Il x36), (Il x37), c38])) ∧ ∃ x39 x40, 
 ∃ x41 x42, ((ldA m26 (.ptr m1.nxt 0) 4) = (some [(Il x39), 
 (Il x40), (Il x41), (Il x42)])) ∧ 
 Wc prog tbl 112 [(.agg 12 [(Il x27), (Il x28), 
 (Il x29), (Il x30), (Il x31), (Il x32), 
 (Il x33), (Il x34), (Il x35), (Il x36), 
 (Il x37), c38]), (.agg 4 [(Il x39), (Il x40), 
 (Il x41), (Il x42)]), (.c (Il x24)), 
 (.c (Il x25))] m26 (fun v43 m44 => ∃ b45 : Bool, (v43 = (.c (.bool b45))) ∧ 
 isPt (.ptr m0.nxt 0) ∧ ∃ b46 : Bool, ((ldC m44 (.ptr m0.nxt 4)) = (some (.bool b46))) ∧ 
 ((ldC m26 (.ptr m0.nxt 4)) = (some (.bool b46))) ∧ ifB (b45 == b46) (isPt (.ptr m0.nxt 0) ∧ 
 ∃ x47 x48, ((ldA m44 (.ptr m0.nxt 5) 2) = (some [(Il x47), 
 (Il x48)])) ∧ ∃ x49 x50 x51 x52, 
 ∃ x53 x54 x55 x56 x57 x58, 
 ∃ x59, ∃ c60 : C, ((ldA m44 (.ptr m.nxt 0) 12) = (some [(Il x49), 
 (Il x50), (Il x51), (Il x52), (Il x53), 
 (Il x54), (Il x55), (Il x56), (Il x57), 
 (Il x58), (Il x59), c60])) ∧ ∃ x61 x62, 
 ∃ x63 x64, ((ldA m44 (.ptr m1.nxt 0) 4) = (some [(Il x61), 
 (Il x62), (Il x63), (Il x64)])) ∧ 
 Wc prog tbl 75 [(.agg 12 [(Il x49), (Il x50), 
 (Il x51), (Il x52), (Il x53), (Il x54), 
 (Il x55), (Il x56), (Il x57), (Il x58), 
 (Il x59), c60]), (.agg 4 [(Il x61), (Il x62), 
 (Il x63), (Il x64)]), (.c (Il x24)), 
 (.c (Il x25))] m44 (fun v65 m66 => ∃ x67, (v65 = (.c (Il x67))) ∧ 
 ((ldA m66 (.ptr m0.nxt 5) 2) = (some [(Il x47), (Il x48)])) ∧ 
 Wc prog tbl 120 [(.agg 2 [(Il x47), (Il x48)]), 
 (.c (Il x67))] m66 (fun v68 m69 => ∃ b70 : Bool, (v68 = (.c (.bool b70))) ∧ 
 ifB b70 (∃ m71 : M, ((stC m69 (.ptr m2.nxt 0) 1 [(.bool true)]) = (some m71)) ∧ 
 R23 Ex.ret m71) (R23 Ex.nrm m69)))) (R23 Ex.nrm m44)))) (After.mk (fun m72 => 
 ∃ m73 : M, ((stC m72 (.ptr m2.nxt 0) 1 [(.bool false)]) = (some m73)) ∧ 
 ∃ b74 : Bool, ((ldC m73 (.ptr m2.nxt 0)) = (some (.bool b74))) ∧ 
 Q (.c (.bool b74)) m73) [] (fun m75 => ∃ b76 : Bool, ((ldC m75 (.ptr m2.nxt 0)) = (some (.bool b76))) ∧ 
 Q (.c (.bool b76)) m75)))))) : Wc prog tbl 121 [(.agg 12 [(Il a100), (Il a101), (Il a102), (Il a103), (Il a104), (Il a105), (Il a106), (Il a107), (Il a108), (Il a109), (Il a110), a111]), (.agg 7 [(Il a200), (Il a201), (Il a202), (Il a203), (.bool a204), (Il a205), (Il a206)]), (.agg 4 [(Il a300), (Il a301), (Il a302), (Il a303)])] m Q :=
 wc_eq (n := 3) rfl (by kernel_rfl) (by kernel_rfl) h
theorem w124 {a100 : Int} {a101 : Int} {a102 : Int} {a103 : Int} {a104 : Int} {a105 : Int} {a106 : Int} {a107 : Int} {a108 : Int} {a109 : Int} {a110 : Int} {a111 : C} {a112 : C} {a200 : Int} {a201 : Int} {a202 : Int} {a203 : Int} {a204 : Bool} {a205 : Int} {a206 : Int} {m : M} {Q : V → M → Prop} (h :
 (∀ m0 : M, (m0 = (M.new m (AO.cells 13 [(Il a100), (Il a101), (Il a102), 
 (Il a103), (Il a104), (Il a105), (Il a106), 
 (Il a107), (Il a108), (Il a109), (Il a110), 
 a111, a112] false))) → ∀ m1 : M, (m1 = (M.new m0 (AO.cells 7 [(Il a200), (Il a201), 
 (Il a202), (Il a203), (.bool a204), (Il a205), (Il a206)] false))) → 
 isPt (.ptr m.nxt 0) ∧ ∃ x2 x3 x4 x5 x6 x7, 
 ∃ x8 x9 x10 x11 x12, ∃ c13 : C, ((ldA m1 (.ptr m.nxt 0) 12) = (some [(Il x2), 
 (Il x3), (Il x4), (Il x5), (Il x6), 
 (Il x7), (Il x8), (Il x9), (Il x10), 
 (Il x11), (Il x12), c13])) ∧ ∃ x14 x15, 
 ∃ x16 x17, ∃ b18 : Bool, ∃ x19 x20, ((ldA m1 (.ptr m0.nxt 0) 7) = (some [(Il x14), 
 (Il x15), (Il x16), (Il x17), (.bool b18), 
 (Il x19), (Il x20)])) ∧ Wc prog tbl 133 [(.agg 7 [(Il x14), 
 (Il x15), (Il x16), (Il x17), (.bool b18), 
 (Il x19), (Il x20)])] m1 (fun v21 m22 => ∃ x23, 
 ∃ x24 x25 x26, (v21 = (.agg 4 [(Il x23), 
 (Il x24), (Il x25), (Il x26)])) ∧ 
 (ifB (allS cmC [(Il x2), (Il x3), (Il x4), 
 (Il x5), (Il x6), (Il x7), (Il x8), 
 (Il x9), (Il x10), (Il x11), (Il x12), 
 c13]) ((ldA m22 (.ptr m.nxt 0) 12) = (some [(Il x2), 
 (Il x3), (Il x4), (Il x5), (Il x6), 
 (Il x7), (Il x8), (Il x9), (Il x10), 
 (Il x11), (Il x12), c13])) False) ∧ Wc prog tbl 107 [(.agg 12 [(Il x2), 
 (Il x3), (Il x4), (Il x5), (Il x6), 
 (Il x7), (Il x8), (Il x9), (Il x10), 
 (Il x11), (Il x12), c13]), (.agg 4 [(Il x23), 
 (Il x24), (Il x25), (Il x26)])] m22 (fun v27 m28 => 
 ∃ b29 : Bool, (v27 = (.c (.bool b29))) ∧ ifB (!b29) (Q (.c (.bool false)) m28) (isPt (.ptr m0.nxt 0) ∧ 
 ∃ x30 x31, ((ldA m28 (.ptr m0.nxt 5) 2) = (some [(Il x30), 
 (Il x31)])) ∧ Wc prog tbl 122 [(.agg 2 [(Il x30), 
 (Il x31)]), (.c (Il 0)), (.c (Il (9 : Int)))] m28 (fun v32 m33 => 
 ∃ b34 : Bool, (v32 = (.c (.bool b34))) ∧ ifB (!b34) (Q (.c (.bool false)) m33) (isPt (.ptr m0.nxt 0) ∧ 
 ∃ b35 : Bool, ((ldC m33 (.ptr m0.nxt 4)) = (some (.bool b35))) ∧ 
 ifB b35 (Q (.c (.bool true)) m33) (isPt (.ptr m0.nxt 0) ∧ ∃ x36, 
 ∃ x37, ((ldA m33 (.ptr m0.nxt 5) 2) = (some [(Il x36), 
 (Il x37)])) ∧ fitsP .i64 x36 ∧ fitsP .i64 (0 : Int) ∧ 
 fitsP .i64 x37 ∧ fitsP .i64 (0 : Int) ∧ Q (.c (.bool ((decide (x36 = 0)) && (decide (x37 = 0))))) m33)))))))) : Wc prog tbl 124 [(.agg 13 [(Il a100), (Il a101), (Il a102), (Il a103), (Il a104), (Il a105), (Il a106), (Il a107), (Il a108), (Il a109), (Il a110), a111, a112]), (.agg 7 [(Il a200), (Il a201), (Il a202), (Il a203), (.bool a204), (Il a205), (Il a206)])] m Q :=
 wc_eq (n := 2) rfl (by kernel_rfl) (by kernel_rfl) h
theorem w134 {a100 : C} {a200 : C} {m : M} {Q : V → M → Prop} (h :
 (Wc prog tbl 139 [(.c a100), (.c a200)] m (fun v0 m1 => ∃ x2, (v0 = (.c (Il x2))) ∧ Q (.c (.bool (decide ((0 : Int) ≤ x2)))) m1))) : Wc prog tbl 134 [(.c a100), (.c a200)] m Q :=
 wc_eq (n := 2) rfl (by kernel_rfl) (by kernel_rfl) h
end
end Go.Proofs.Ytbnfnhfanooplaa

