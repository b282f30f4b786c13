/- The evaluator: comparisons, maps, append, builtins. Condition: none; a lemma text of this claim. -/
import Derived.Test.YtlkgdadfbfafcaaGreatEvA
import Derived.DeepKeys
import Derived.DeepKeys2
import Derived.DeepKeys3
import Derived.Laws.StructEq
import Derived.MapKept
import Derived.Laws.AppendOwn
/- Equality and keys. -/
namespace Go.Abs
noncomputable section
variable {P : Program} {e : Env} {tm : S3 V} {h : H} {w : World} {a : Act} {o : Oper}

/-- the literal that a cell of this kind reads as -/
def litOf (v : Value) : Lit := match v with | .bool b => .bool b | .int k n => .int k n | .string s => .string s.data.toList | _ => .nil
def KindOk (k : CK) (v : Value) : Prop := match k with
  | .bool => ∃ b, v = .bool b
  | .int q => ∃ n, v = .int q n ∧ (Lit.int q n).wf = true
  | .str => ∃ s, v = .string s ∧ s.size ≤ maxLen

theorem all2_flatten {α β : Type} {R : α → β → Prop} (ks : List α) : ∀ (n : Nat) (cs : List β), All2 R (List.replicate n ks).flatten cs → ∀ i, i < n → All2 R ks ((cs.drop (i * ks.length)).take ks.length)
  | 0, _, _, i, hi => absurd hi (Nat.not_lt_zero i)
  | n + 1, cs, h, i, hi => by
    rw [List.replicate_succ, List.flatten_cons] at h
    cases i with
    | zero =>
      have h1 := (h.take ks.length)
      rw [List.take_left] at h1
      simpa using h1
    | succ i =>
      have h1 := h.drop ks.length
      rw [List.drop_left] at h1
      have := all2_flatten ks n (cs.drop ks.length) h1 i (by omega)
      rw [List.drop_drop] at this
      rw [Nat.succ_mul, Nat.add_comm]
      exact this

theorem mapM_all {α β : Type} {f : α → Option β} {g : α → β} : ∀ (l : List α), (∀ x ∈ l, f x = some (g x)) → l.mapM f = some (l.map g)
  | [], _ => rfl
  | x :: l, h => by
    rw [List.mapM_cons, h x (by simp), mapM_all l (fun y hy => h y (by simp [hy]))]
    rfl

theorem mapM_some {α β : Type} {f : α → Option β} : ∀ {l : List α} {r : List β}, l.mapM f = some r → All2 (fun x y => f x = some y) l r
  | [], r, h => by cases h; exact .nil
  | x :: l, r, h => by
    rw [List.mapM_cons] at h
    simp only [Option.bind_eq_bind, Option.bind_eq_some_iff, Option.pure_def, Option.some.injEq] at h
    obtain ⟨y, hy, ys, hys, rfl⟩ := h
    exact .cons hy (mapM_some hys)

/-- fields one behind the other: each one's cells are of its kinds -/
theorem fields_kinds {f : Field → Option (List CK)} (hlen : ∀ fl ks, f fl = some ks → ks.length = P.cellsOf fl.type) (cs : List Value) : ∀ (fs : List Field) (off tot : Nat) (kss : List (List CK)), P.runs off fs = some tot →
    All2 (fun x y => f x = some y) fs kss → All2 KindOk kss.flatten (cs.drop off) → ∀ fl ∈ fs, ∃ ks, f fl = some ks ∧ All2 KindOk ks ((cs.drop fl.offset).take (P.cellsOf fl.type))
  | [], _, _, _, _, _, _ => fun fl hfl => by cases hfl
  | g :: fs, off, tot, kss, hr, ha, hk => by
    cases ha with
    | cons h1 h2 =>
      rename_i ks kss'
      simp only [Program.runs] at hr
      split at hr
      · rename_i hoff
        rw [List.flatten_cons] at hk
        have hl := hlen g ks h1
        have hk1 := hk.take ks.length
        rw [List.take_left] at hk1
        have hk2 := hk.drop ks.length
        rw [List.drop_left, List.drop_drop, hl] at hk2
        intro fl hfl
        cases hfl with
        | head => exact ⟨ks, h1, by rw [hoff, ← hl]; exact hk1⟩
        | tail _ hm => exact fields_kinds hlen cs fs _ tot kss' hr h2 hk2 fl hm
      · cases hr

theorem runs_length {f : Field → Option (List CK)} (hlen : ∀ fl ks, f fl = some ks → ks.length = P.cellsOf fl.type) : ∀ (fs : List Field) (off tot : Nat) (kss : List (List CK)), P.runs off fs = some tot →
    All2 (fun x y => f x = some y) fs kss → off + kss.flatten.length = tot
  | [], off, tot, _, hr, ha => by cases ha; simp only [Program.runs, Option.some.injEq] at hr; simpa using hr
  | g :: fs, off, tot, kss, hr, ha => by
    cases ha with
    | cons h1 h2 =>
      simp only [Program.runs] at hr
      split at hr
      · have ih := runs_length hlen fs _ tot _ hr h2
        have hl := hlen g _ h1
        simp only [List.flatten_cons, List.length_append]
        omega
      · cases hr

theorem kinds_lits : ∀ (d : Nat) (t : TypeId) (ks : List CK), kindsT P d t = some ks → ∀ cs : List Value, All2 KindOk ks cs → P.keyLits d t cs = some (cs.map litOf)
  | 0, _, _, h => by cases h
  | d + 1, t, ks, h => by
    intro cs hcs
    unfold kindsT at h
    unfold Program.keyLits
    cases hu : P.underlying t with
    | none => simp [hu] at h
    | some kd =>
      simp only [hu] at h
      cases kd <;> simp only at h <;> try (cases h; done)
      case bool =>
        cases h
        cases hcs with
        | cons h1 h2 =>
          cases h2
          obtain ⟨b, rfl⟩ := h1
          rfl
      case int q =>
        cases h
        cases hcs with
        | cons h1 h2 =>
          cases h2
          obtain ⟨n, rfl, hw⟩ := h1
          simp [hw, litOf]
      case string =>
        cases h
        cases hcs with
        | cons h1 h2 =>
          cases h2
          obtain ⟨s, rfl, hs⟩ := h1
          simp [hs, litOf]
      case array n el =>
        split at h
        · rename_i ke hke
          split at h
          · rename_i hc
            cases h
            obtain ⟨hl, hsz⟩ := hc
            have hlen : cs.length = P.cellsOf t := by rw [← hcs.length, hsz]; simp [hl]
            simp only [hlen, if_true]
            have hm := mapM_all (f := fun i => P.keyLits d el ((cs.drop (i * P.cellsOf el)).take (P.cellsOf el))) (g := fun i => ((cs.drop (i * P.cellsOf el)).take (P.cellsOf el)).map litOf) (List.range n) (fun i hi => by
              refine kinds_lits d el ke hke _ ?_
              have := all2_flatten ke n cs hcs i (by simpa using hi)
              rw [hl] at this
              exact this)
            rw [hm]
            simp only [Option.map_some]
            congr 1
            have hfl := chunks_flatten (P.cellsOf el) n cs (by rw [hlen, hsz])
            have : ((List.range n).map fun i => ((cs.drop (i * P.cellsOf el)).take (P.cellsOf el)).map litOf) = ((List.range n).map fun i => (cs.drop (i * P.cellsOf el)).take (P.cellsOf el)).map (List.map litOf) := by
              rw [List.map_map]; rfl
            rw [this, ← List.map_flatten, hfl]
          · cases h
        · cases h
      case struct fs =>
        split at h
        · rename_i hc
          split at h
          · rename_i kss hkss
            cases h
            obtain ⟨hruns, hnames⟩ := hc
            have hall := mapM_some hkss
            have hflen : ∀ (fl : Field) (ks : List CK), (match kindsT P d fl.type with | some ks => if ks.length = P.cellsOf fl.type then some ks else none | none => none) = some ks → ks.length = P.cellsOf fl.type ∧ kindsT P d fl.type = some ks := fun fl ks hh => by
              split at hh
              · rename_i ks' hk'
                split at hh
                · cases hh; exact ⟨‹_›, hk'⟩
                · cases hh
              · cases hh
            have hlen : cs.length = P.cellsOf t := by
              rw [← hcs.length]
              have := runs_length (P := P) (fun fl ks hh => (hflen fl ks hh).1) fs.toList 0 (P.cellsOf t) kss hruns hall
              simpa using this
            have hfk := fields_kinds (P := P) (fun fl ks hh => (hflen fl ks hh).1) cs fs.toList 0 (P.cellsOf t) kss hruns hall (by simpa using hcs)
            simp only [hlen, hnames, and_self, if_true]
            have hm := mapM_all (f := fun f : Field => P.keyLits d f.type ((cs.drop f.offset).take (P.cellsOf f.type))) (g := fun f => ((cs.drop f.offset).take (P.cellsOf f.type)).map litOf) fs.toList (fun fl hfl => by
              obtain ⟨ks, hk1, hk2⟩ := hfk fl hfl
              exact kinds_lits d fl.type ks (hflen fl ks hk1).2 _ hk2)
            rw [hm]
            simp only [Option.map_some]
            congr 1
            have hfl := fields_flatten (P := P) cs fs.toList 0 (P.cellsOf t) hruns hlen
            have : (fs.toList.map fun f => ((cs.drop f.offset).take (P.cellsOf f.type)).map litOf) = (fs.toList.map fun f => (cs.drop f.offset).take (P.cellsOf f.type)).map (List.map litOf) := by
              rw [List.map_map]; rfl
            rw [this, ← List.map_flatten, hfl]
            simp
          · cases h
        · cases h

/-! ### cells compared -/
theorem boolEq_eq (x y : Bool) : boolEq x y = (x == y) := by cases x <;> cases y <;> rfl
theorem eqL_eq {α : Type} {eq : α → α → Bool} (he : ∀ x y, eq x y = true ↔ x = y) : ∀ (l r : List α), eqL eq l r = true ↔ l = r
  | [], [] => ⟨fun _ => rfl, fun _ => rfl⟩
  | [], _ :: _ => ⟨fun h => (by cases h), fun h => (by cases h)⟩
  | _ :: _, [] => ⟨fun h => (by cases h), fun h => (by cases h)⟩
  | x :: l, y :: r => by
    show ifB (eq x y) (eqL eq l r) false = true ↔ _
    cases h : eq x y with
    | true =>
      show eqL eq l r = true ↔ _
      rw [eqL_eq he l r, (he x y).1 h]
      simp
    | false =>
      have hne : x ≠ y := fun e => by rw [(he x y).2 e] at h; cases h
      constructor
      · intro hh; cases hh
      · intro hh; cases hh; exact absurd rfl hne
theorem natBeq_iff {m n : Nat} : Nat.beq m n = true ↔ m = n := ⟨Nat.eq_of_beq_eq_true, fun h => by subst h; exact Nat.beq_refl _⟩
theorem strEq_eq (x y : ByteArray) : strEq x y = true ↔ x = y := by
  unfold strEq
  rw [eqL_eq (fun a b => by rw [natBeq_iff]; exact UInt8.toNat_inj)]
  constructor
  · intro h
    cases x; cases y
    congr 1
    exact Array.toList_inj.1 h
  · intro h; rw [h]

theorem fits_wf {k : IntKind} {n : Int} (h : fits k n = true) : (Lit.int k n).wf = true := by
  unfold Lit.wf
  simp only [Bool.and_eq_true, decide_eq_true_eq]
  cases n with
  | ofNat m =>
    have h1 : m < topOf k := ltN_eq h
    show k.min ≤ ((m : Nat) : Int) ∧ ((m : Nat) : Int) ≤ k.max
    cases k <;> simp only [IntKind.min, IntKind.max, IntKind.bits, IntKind.signed] <;> dsimp only [topOf] at h1 <;> simp <;> omega
  | negSucc m =>
    have h1 : m < lowOf k := ltN_eq h
    rw [Int.negSucc_eq]
    cases k <;> simp only [IntKind.min, IntKind.max, IntKind.bits, IntKind.signed] <;> dsimp only [lowOf] at h1 <;> simp <;> omega

theorem eqK_eq {k : CK} {x y : C} {b : Bool} (hh : eqK k x y = some b) {x' y' : Value} (hx : CR e x x') (hy : CR e y y') : KindOk k x' ∧ KindOk k y' ∧ (b = true ↔ litOf x' = litOf y') := by
  cases k with
  | bool =>
    obtain ⟨u, h1, h2⟩ := vBool_eq (show vBool (.c x) none _ = some b from hh)
    obtain ⟨v, h3, h4⟩ := vBool_eq h2
    cases h1; cases h3; cases h4
    have e1 : x' = .bool u := hx
    have e2 : y' = .bool v := hy
    subst e1; subst e2
    refine ⟨⟨_, rfl⟩, ⟨_, rfl⟩, ?_⟩
    rw [boolEq_eq]
    simp [litOf]
  | int q =>
    obtain ⟨p, m, h1, h2⟩ := vInt_eq (show vInt (.c x) none _ = some b from hh)
    obtain ⟨p', n, h3, h4⟩ := vInt_eq h2
    cases h1; cases h3
    obtain ⟨k1, h5⟩ := ifB_eq h4
    obtain ⟨k2, h6⟩ := ifB_eq h5
    obtain ⟨f1, h7⟩ := ifB_eq h6
    obtain ⟨f2, h8⟩ := ifB_eq h7
    cases h8
    have e1 : x' = .int p m := hx
    have e2 : y' = .int p' n := hy
    have e3 := kindEq_eq k1
    have e4 := kindEq_eq k2
    subst e1; subst e2; subst e3; subst e4
    refine ⟨⟨_, rfl, fits_wf f1⟩, ⟨_, rfl, fits_wf f2⟩, ?_⟩
    rw [intEq_eq]
    simp [litOf]
  | str =>
    obtain ⟨u, h1, h2⟩ := vStr_eq (show vStr (.c x) none _ = some b from hh)
    obtain ⟨v, h3, h4⟩ := vStr_eq h2
    cases h1; cases h3
    obtain ⟨f1, h5⟩ := ifB_eq h4
    obtain ⟨f2, h6⟩ := ifB_eq h5
    cases h6
    have e1 : x' = .string u := hx
    have e2 : y' = .string v := hy
    subst e1; subst e2
    refine ⟨⟨_, rfl, Nat.le_of_ble_eq_true f1⟩, ⟨_, rfl, Nat.le_of_ble_eq_true f2⟩, ?_⟩
    rw [strEq_eq]
    simp only [litOf, Lit.string.injEq]
    constructor
    · intro h; rw [h]
    · intro h
      cases u; cases v
      congr 1
      exact Array.toList_inj.1 h

theorem eqKs_eq : ∀ {ks : List CK} {xs ys : List C} {b : Bool}, eqKs ks xs ys = some b → ∀ {xs' ys' : List Value}, All2 (CR e) xs xs' → All2 (CR e) ys ys' →
    All2 KindOk ks xs' ∧ All2 KindOk ks ys' ∧ (b = true ↔ xs'.map litOf = ys'.map litOf)
  | [], [], [], b, hh, xs', ys', hx, hy => by cases hx; cases hy; cases hh; exact ⟨.nil, .nil, by simp⟩
  | [], [], _ :: _, b, hh, _, _, _, _ => by cases hh
  | [], _ :: _, _, b, hh, _, _, _, _ => by cases hh
  | _ :: _, [], _, b, hh, _, _, _, _ => by cases hh
  | _ :: _, _ :: _, [], b, hh, _, _, _, _ => by cases hh
  | k :: ks, x :: xs, y :: ys, b, hh, xs', ys', hx, hy => by
    obtain ⟨c, hc, h1⟩ := optB_eq (show optB (eqK k x y) none (fun b => optB (eqKs ks xs ys) none fun r => some (ifB b r false)) = some b from hh)
    obtain ⟨r, hr, h2⟩ := optB_eq h1
    cases h2
    cases hx with
    | cons a1 a2 =>
      cases hy with
      | cons b1 b2 =>
        obtain ⟨q1, q2, q3⟩ := eqK_eq hc a1 b1
        obtain ⟨r1, r2, r3⟩ := eqKs_eq hr a2 b2
        refine ⟨.cons q1 r1, .cons q2 r2, ?_⟩
        simp only [List.map_cons, List.cons.injEq]
        cases c with
        | true => rw [← q3]; show r = true ↔ _; rw [r3]; simp
        | false => rw [← q3]; show false = true ↔ _; simp

theorem plainK_eq {t : TypeId} {ks : List CK} (h : plainK P t = some ks) : P.keyTypeAt 20 t = true ∧ kindsT P 20 t = some ks := by
  unfold plainK at h
  split at h
  · exact ⟨‹_›, h⟩
  · cases h
theorem keyTypeAt_underlying {d : Nat} {t : TypeId} (h : P.keyTypeAt d t = true) : ∃ k, P.underlying t = some k := by
  cases d with
  | zero => cases h
  | succ d =>
    unfold Program.keyTypeAt at h
    cases hu : P.underlying t with
    | none => simp [hu] at h
    | some k => exact ⟨k, rfl⟩
theorem shaped_formed {t : TypeId} {x : V} {l : List C} {x' : Value} (h : shaped P t x = some l) (hx : VR e x x') (hl : isAggT P t = true → l.length = P.cellsOf t) : All2 (CR e) l x'.cells.toList ∧ x'.formed P t = true := by
  unfold shaped at h
  have hagg : isAggT P t = match P.underlying t with | some (.struct _) | some (.array _ _) => true | _ => false := by
    unfold isAggT tk
    cases hu : P.underlying t with
    | none => rfl
    | some k => cases k <;> rfl
  cases ha : isAggT P t with
  | true =>
    rw [ha] at h
    obtain ⟨n, l', rfl, h1⟩ := vAgg_eq (show vAgg x none _ = some l from h)
    cases h1
    obtain ⟨cs, rfl, h2, h3⟩ := hx
    refine ⟨h2, ?_⟩
    have hlen := hl ha
    have hsz : cs.size = P.cellsOf t := by rw [← hlen, h2.length]; simp
    rw [ha] at hagg
    unfold Value.formed
    simp only [hsz, beq_self_eq_true]
    cases hu : P.underlying t with
    | none => rw [hu] at hagg; cases hagg
    | some k => rw [hu] at hagg; cases k <;> first | rfl | cases hagg
  | false =>
    rw [ha] at h
    obtain ⟨c, rfl, h1⟩ := vCell_eq (show vCell x none _ = some l from h)
    cases h1
    have hc : CR e c x' := hx
    have h1c := hc.single
    rw [ha] at hagg
    have hf : x'.formed P t = true := by
      have hz : (match P.underlying t with | some (.struct _) | some (.array _ _) => false | _ => true) = true := by
        cases hu : P.underlying t with
        | none => rfl
        | some k => rw [hu] at hagg; cases k <;> first | rfl | cases hagg
      cases x' <;> first | exact hz | (simp [Value.oneCell'] at h1c)
    refine ⟨?_, hf⟩
    cases x' <;> first | exact .cons hc .nil | (simp [Value.oneCell'] at h1c)

end
end Go.Abs

namespace Go.Abs
noncomputable section
variable {P : Program} {e : Env} {tm : S3 V} {h : H} {w : World} {a : Act} {o : Oper}

/-- what is asked of the program -/
structure Fits (P : Program) : Prop where
  depth : 20 ≤ P.depth
  mixed : P.follows .mixedOrders = true

theorem kinds_length {d : Nat} {t : TypeId} {ks : List CK} (h : kindsT P d t = some ks) (ha : isAggT P t = true) : ks.length = P.cellsOf t := by
  cases d with
  | zero => cases h
  | succ d =>
    unfold kindsT at h
    unfold isAggT tk at ha
    cases hu : P.underlying t with
    | none => simp [hu] at h
    | some kd =>
      simp only [hu] at h ha
      cases kd <;> simp only at h <;> try (cases h; done)
      case bool => cases ha
      case int => cases ha
      case string => cases ha
      case array n el =>
        split at h
        · split at h
          · rename_i hc
            cases h
            rw [hc.2]; simp [hc.1]
          · cases h
        · cases h
      case struct fs =>
        split at h
        · rename_i hc
          split at h
          · rename_i kss hkss
            cases h
            have := runs_length (P := P) (f := fun fl => match kindsT P d fl.type with | some ks => if ks.length = P.cellsOf fl.type then some ks else none | none => none) (fun fl ks hh => by
              split at hh
              · split at hh
                · cases hh; assumption
                · cases hh
              · cases hh) fs.toList 0 (P.cellsOf t) kss hc.1 (mapM_some hkss)
            simpa using this
          · cases h
        · cases h

theorem eqPair {t : TypeId} {ks : List CK} (hk : plainK P t = some ks) {x y : V} {xs ys : List C} (h1 : shaped P t x = some xs) (h2 : shaped P t y = some ys) {b : Bool} (h3 : eqKs ks xs ys = some b)
    {x' y' : Value} (hx : VR e x x') (hy : VR e y y') : x'.formed P t = true ∧ y'.formed P t = true ∧ ∃ la lb, P.keyLits 20 t x'.cells.toList = some la ∧ P.keyLits 20 t y'.cells.toList = some lb ∧ (b = true ↔ la = lb) := by
  obtain ⟨k1, k2⟩ := plainK_eq hk
  have hlen : ∀ {ks : List CK} {xs ys : List C} {b : Bool}, eqKs ks xs ys = some b → xs.length = ks.length ∧ ys.length = ks.length := by
    intro ks
    induction ks with
    | nil => intro xs ys b hh; cases xs <;> cases ys <;> first | exact ⟨rfl, rfl⟩ | cases hh
    | cons k ks ih =>
      intro xs ys b hh
      cases xs with
      | nil => cases hh
      | cons x xs => cases ys with
        | nil => cases hh
        | cons y ys =>
          obtain ⟨c, hc, q1⟩ := optB_eq (show optB (eqK k x y) none (fun b => optB (eqKs ks xs ys) none fun r => some (ifB b r false)) = some b from hh)
          obtain ⟨r, hr, q2⟩ := optB_eq q1
          have := ih hr
          simp [this.1, this.2]
  have hl := hlen h3
  obtain ⟨a1, a2⟩ := shaped_formed h1 hx (fun ha => by rw [hl.1]; exact kinds_length k2 ha)
  obtain ⟨b1, b2⟩ := shaped_formed h2 hy (fun ha => by rw [hl.2]; exact kinds_length k2 ha)
  obtain ⟨q1, q2, q3⟩ := eqKs_eq h3 a1 b1
  exact ⟨a2, b2, _, _, kinds_lits 20 t ks k2 _ q1, kinds_lits 20 t ks k2 _ q2, q3⟩

theorem run_equal_plain {t : TypeId} {ks : List CK} (hk : plainK P t = some ks) {x y : V} {xs ys : List C} (h1 : shaped P t x = some xs) (h2 : shaped P t y = some ys) {b : Bool} (h3 : eqKs ks xs ys = some b)
    {x' y' : Value} (hx : VR e x x') (hy : VR e y y') (w : World) : (Op.equal t x' y').run P w = .ok b w := by
  obtain ⟨f1, f2, la, lb, l1, l2, l3⟩ := eqPair hk h1 h2 h3 hx hy
  obtain ⟨r, hr, hiff⟩ := run_equalIn_deep (P := P) 9980 20 t (plainK_eq hk).1 w 20 20 x' y' la lb f1 f2 l1 l2
  have : r = b := by cases r <;> cases b <;> simp_all
  rw [← this]
  exact hr
theorem run_checkKey_plain {t : TypeId} {ks : List CK} (hk : plainK P t = some ks) {x : V} {b : Bool} (h3 : eqV P t x x = some b)
    {x' : Value} (hx : VR e x x') (em : Bool) (w : World) : (Instr.checkKey em 10000 t x').run P w = .ok () w := by
  unfold eqV at h3
  rw [hk] at h3
  obtain ⟨xs, h1, h4⟩ := optB_eq (show optB (shaped P t x) none _ = some b from h3)
  obtain ⟨ys, h2, h5⟩ := optB_eq h4
  obtain ⟨f1, _, la, _, l1, _, _⟩ := eqPair hk h1 h2 h5 hx hx
  exact run_checkKey_deep (P := P) em 9980 20 t (plainK_eq hk).1 w 20 x' la f1 l1

theorem guardType_plain : ∀ (m d : Nat) (t : TypeId), P.keyTypeAt m t = true → m ≤ d → P.eqGuardType d t = false
  | 0, _, _, h, _ => by cases h
  | m + 1, 0, _, _, hd => by omega
  | m + 1, d + 1, t, h, hd => by
    unfold Program.keyTypeAt at h
    unfold Program.eqGuardType
    cases hu : P.underlying t with
    | none => rfl
    | some k =>
      simp only [hu] at h
      cases k <;> simp only at h <;> try rfl
      case array n el => exact guardType_plain m d el h (by omega)
      case struct fs =>
        simp only [Bool.and_eq_true, Array.all_eq_true', bne_iff_ne] at h
        simp only [Array.any_eq_false']
        intro f hf
        have := h.1.1 f hf
        rw [guardType_plain m d f.type this.2 (by omega)]
        simp
      all_goals cases h

theorem guard_cell {op : BinOp} {t : TypeId} {x y : Operand} {u v : Value} (h1 : u.oneCell' = true) (hn : u ≠ .nilIface) (w : World) : (eqGuard op t x y u v).run P w = .ok () w := by
  cases u <;> first | (exact absurd rfl hn) | (cases h1; done) | (cases op <;> cases v <;> rfl)
theorem guard_int {op : BinOp} {t : TypeId} {x y : Operand} {k : IntKind} {n : Int} {v : Value} (w : World) : (eqGuard op t x y (.int k n) v).run P w = .ok () w :=
  guard_cell rfl (by intro h; cases h) w
theorem guard_agg (hP : Fits P) {op : BinOp} {t : TypeId} {x y : Operand} {us vs : Array Value} (hk : P.keyTypeAt 20 t = true) (w : World) : (eqGuard op t x y (.agg us) (.agg vs)).run P w = .ok () w :=
  run_eqGuard_agg w op t x y us vs (guardType_plain 20 P.depth t hk hP.depth)

/-! ### against nil -/
theorem tk_fn {t : TypeId} (h : tk P t = .fn) : ∃ ps rs va, P.underlying t = some (.func ps rs va) := by
  unfold tk at h; split at h <;> simp_all
section nils
variable {t : TypeId} (w : World)
theorem eq_ptr1 {el : TypeId} (hu : P.underlying t = some (.pointer el)) (b : Option Addr) : (Op.equal t (.pointer none) (.pointer b)).run P w = .ok b.isNone w := by
  show (Op.equalIn (9999 + 1) t _ _).run P w = _
  unfold Op.equalIn
  simp [run_underlying hu]
theorem eq_ptr2 {el : TypeId} (hu : P.underlying t = some (.pointer el)) (b : Addr) : (Op.equal t (.pointer (some b)) (.pointer none)).run P w = .ok false w := by
  show (Op.equalIn (9999 + 1) t _ _).run P w = _
  unfold Op.equalIn
  simp [run_underlying hu]
theorem eq_sl1 {el : TypeId} (hu : P.underlying t = some (.slice el)) (n c : Nat) (b : Option Addr) (n' c' : Nat) : (Op.equal t (.slice none n c) (.slice b n' c')).run P w = .ok b.isNone w := by
  show (Op.equalIn (9999 + 1) t _ _).run P w = _
  unfold Op.equalIn
  simp [run_underlying hu]
theorem eq_sl2 {el : TypeId} (hu : P.underlying t = some (.slice el)) (n c : Nat) (b : Addr) (n' c' : Nat) : (Op.equal t (.slice (some b) n' c') (.slice none n c)).run P w = .ok false w := by
  show (Op.equalIn (9999 + 1) t _ _).run P w = _
  unfold Op.equalIn
  simp [run_underlying hu]
theorem eq_map1 {k el : TypeId} (hu : P.underlying t = some (.map k el)) (b : Option Nat) : (Op.equal t (.map none) (.map b)).run P w = .ok b.isNone w := by
  show (Op.equalIn (9999 + 1) t _ _).run P w = _
  unfold Op.equalIn
  simp [run_underlying hu]
theorem eq_map2 {k el : TypeId} (hu : P.underlying t = some (.map k el)) (b : Nat) : (Op.equal t (.map (some b)) (.map none)).run P w = .ok false w := by
  show (Op.equalIn (9999 + 1) t _ _).run P w = _
  unfold Op.equalIn
  simp [run_underlying hu]
theorem eq_fn0 {ps rs : Array TypeId} {va : Bool} (hu : P.underlying t = some (.func ps rs va)) : (Op.equal t .nilFunc .nilFunc).run P w = .ok true w := by
  show (Op.equalIn (9999 + 1) t _ _).run P w = _
  unfold Op.equalIn
  simp [run_underlying hu]
theorem eq_fn1 {ps rs : Array TypeId} {va : Bool} (hu : P.underlying t = some (.func ps rs va)) (f : Fn) (a b : Array Value) : (Op.equal t .nilFunc (.func f a b)).run P w = .ok false w := by
  show (Op.equalIn (9999 + 1) t _ _).run P w = _
  unfold Op.equalIn
  simp [run_underlying hu]
theorem eq_fn2 {ps rs : Array TypeId} {va : Bool} (hu : P.underlying t = some (.func ps rs va)) (f : Fn) (a b : Array Value) : (Op.equal t (.func f a b) .nilFunc).run P w = .ok false w := by
  show (Op.equalIn (9999 + 1) t _ _).run P w = _
  unfold Op.equalIn
  simp [run_underlying hu]
end nils
theorem CR.sl_some {b o n s : Nat} {c : Option Nat} {v : Value} (hv : CR e (.sl b o n s c) v) : ∃ ad n' c', v = .slice (some ad) n' c' := by
  cases c with
  | none => obtain ⟨cb, off, cap, _, rfl, _⟩ := hv; exact ⟨_, _, _, rfl⟩
  | some c => obtain ⟨cb, sp, _, rfl, _⟩ := hv; exact ⟨_, _, _, rfl⟩
theorem run_equal_nil {t : TypeId} {x y : C} {b : Bool} (h1 : eqNil (tk P t) x y = some b) {x' y' : Value} (hx : CR e x x') (hy : CR e y y') (w : World) :
    (Op.equal t x' y').run P w = .ok b w ∧ x' ≠ .nilIface := by
  unfold eqNil at h1
  obtain ⟨p, hp, h2⟩ := optB_eq h1
  obtain ⟨q, hq, h3⟩ := optB_eq h2
  clear h1 h2
  generalize hk : tk P t = k at hp hq
  cases k with
  | ptr el =>
    have hu := tk_ptr hk
    cases x <;> first | (cases hp; done) | skip
    · have e1 : x' = .pointer none := hx
      subst e1
      cases hp
      cases y <;> first | (cases hq; done) | skip
      · cases hq; cases h3
        have e2 : y' = .pointer none := hy
        subst e2
        exact ⟨eq_ptr1 w hu _, by intro h; cases h⟩
      · cases hq; cases h3
        obtain ⟨cb, _, rfl⟩ := hy
        exact ⟨eq_ptr1 w hu _, by intro h; cases h⟩
    · obtain ⟨cb, _, rfl⟩ := hx
      cases hp
      cases y <;> first | (cases hq; done) | skip
      · cases hq; cases h3
        have e2 : y' = .pointer none := hy
        subst e2
        exact ⟨eq_ptr2 w hu _, by intro h; cases h⟩
      · cases hq; cases h3
  | sl el =>
    have hu := tk_sl hk
    cases x <;> first | (cases hp; done) | skip
    · have e1 : x' = .slice none 0 0 := hx
      subst e1
      cases hp
      cases y <;> first | (cases hq; done) | skip
      · cases hq; cases h3
        have e2 : y' = .slice none 0 0 := hy
        subst e2
        exact ⟨eq_sl1 w hu _ _ _ _ _, by intro h; cases h⟩
      · cases hq; cases h3
        obtain ⟨ad, n', c', rfl⟩ := CR.sl_some hy
        exact ⟨eq_sl1 w hu _ _ _ _ _, by intro h; cases h⟩
    · obtain ⟨ad, n', c', rfl⟩ := CR.sl_some hx
      cases hp
      cases y <;> first | (cases hq; done) | skip
      · cases hq; cases h3
        have e2 : y' = .slice none 0 0 := hy
        subst e2
        exact ⟨eq_sl2 w hu _ _ _ _ _, by intro h; cases h⟩
      · cases hq; cases h3
  | map kt el =>
    have hu := tk_map hk
    cases x <;> first | (cases hp; done) | skip
    · have e1 : x' = .map none := hx
      subst e1
      cases hp
      cases y <;> first | (cases hq; done) | skip
      · cases hq; cases h3
        have e2 : y' = .map none := hy
        subst e2
        exact ⟨eq_map1 w hu _, by intro h; cases h⟩
      · cases hq; cases h3
        obtain ⟨cb, _, rfl⟩ := hy
        exact ⟨eq_map1 w hu _, by intro h; cases h⟩
    · obtain ⟨cb, _, rfl⟩ := hx
      cases hp
      cases y <;> first | (cases hq; done) | skip
      · cases hq; cases h3
        have e2 : y' = .map none := hy
        subst e2
        exact ⟨eq_map2 w hu _, by intro h; cases h⟩
      · cases hq; cases h3
  | fn =>
    obtain ⟨ps, rs, va, hu⟩ := tk_fn hk
    cases x <;> first | (cases hp; done) | skip
    · obtain ⟨f', p', q', _, rfl, _⟩ := hx
      cases hp
      cases y <;> first | (cases hq; done) | skip
      · cases hq; cases h3
      · cases hq; cases h3
        have e2 : y' = .nilFunc := hy
        subst e2
        exact ⟨eq_fn2 w hu _ _ _, by intro h; cases h⟩
    · have e1 : x' = .nilFunc := hx
      subst e1
      cases hp
      cases y <;> first | (cases hq; done) | skip
      · cases hq; cases h3
        obtain ⟨f', p', q', _, rfl, _⟩ := hy
        exact ⟨eq_fn1 w hu _ _ _, by intro h; cases h⟩
      · cases hq; cases h3
        have e2 : y' = .nilFunc := hy
        subst e2
        exact ⟨eq_fn0 w hu, by intro h; cases h⟩
  | _ => cases hp

theorem shaped_agg {t : TypeId} {x : V} {xs : List C} (h : shaped P t x = some xs) {x' : Value} (hx : VR e x x') : (∃ cs, x' = .agg cs ∧ isAggT P t = true) ∨ (x'.oneCell' = true ∧ isAggT P t = false) := by
  unfold shaped at h
  cases ha : isAggT P t with
  | true =>
    rw [ha] at h
    obtain ⟨n, l', rfl, h1⟩ := vAgg_eq (show vAgg x none _ = some xs from h)
    obtain ⟨cs, rfl, _⟩ := hx
    exact .inl ⟨cs, rfl, rfl⟩
  | false =>
    rw [ha] at h
    obtain ⟨c, rfl, h1⟩ := vCell_eq (show vCell x none _ = some xs from h)
    exact .inr ⟨CR.single hx, rfl⟩

/-- '==' and '!=' of what are no two integers -/
theorem eqV_run (hP : Fits P) {op : BinOp} {t : TypeId} {x y : Operand} {u v : V} {b : Bool} (h1 : eqV P t u v = some b) {u' v' : Value} (hu : VR e u u') (hv : VR e v v') (w : World) :
    (Op.equal t u' v').run P w = .ok b w ∧ (eqGuard op t x y u' v').run P w = .ok () w := by
  unfold eqV at h1
  cases hk : plainK P t with
  | none =>
    rw [hk] at h1
    obtain ⟨c, rfl, h2⟩ := vCell_eq (show vCell u none _ = some b from h1)
    obtain ⟨d, rfl, h3⟩ := vCell_eq h2
    obtain ⟨q1, q2⟩ := run_equal_nil h3 hu hv w
    exact ⟨q1, guard_cell (CR.single hu) q2 w⟩
  | some ks =>
    rw [hk] at h1
    obtain ⟨xs, h2, h3⟩ := optB_eq (show optB (shaped P t u) none _ = some b from h1)
    obtain ⟨ys, h4, h5⟩ := optB_eq h3
    refine ⟨run_equal_plain hk h2 h4 h5 hu hv w, ?_⟩
    rcases shaped_agg h2 hu with ⟨cs, rfl, ha⟩ | ⟨q1, ha⟩
    · rcases shaped_agg h4 hv with ⟨ds, rfl, _⟩ | ⟨_, hb⟩
      · exact guard_agg hP (plainK_eq hk).1 w
      · rw [ha] at hb; cases hb
    · refine guard_cell q1 ?_ w
      intro hnil
      subst hnil
      obtain ⟨_, _, la, _, l1, _⟩ := eqPair hk h2 h4 h5 hu hv
      have := (plainK_eq hk).1
      obtain ⟨k, hk2⟩ := keyTypeAt_underlying this
      unfold Program.keyLits at l1
      rw [hk2] at l1
      simp only [Value.cells] at l1
      unfold isAggT tk at ha
      rw [hk2] at ha
      cases k <;> simp at l1 ha

theorem binOp_eql {t : TypeId} {u v : Value} (h : ∀ k n, u ≠ .int k n) (hf : ∀ k n, u ≠ .float k n) (hc : ∀ k m n, u ≠ .complex k m n) (hs : ∀ s, u ≠ .string s) (w : World) {b : Bool} (hr : (Op.equal t u v).run P w = .ok b w) :
    (binOp .eql t u v).run P w = .ok (.bool b) w ∧ (binOp .neq t u v).run P w = .ok (.bool (!b)) w := by
  cases u <;> first
    | (exact absurd rfl (h _ _)) | (exact absurd rfl (hf _ _)) | (exact absurd rfl (hc _ _ _)) | (exact absurd rfl (hs _))
    | (constructor <;> simp [binOp, hr])

theorem notNum {u : V} {u' : Value} (hur : VR e u u') (hi : ∀ k n, u ≠ .c (.int k n)) (hs : ∀ s, u ≠ .c (.str s)) :
    (∀ k n, u' ≠ .int k n) ∧ (∀ k n, u' ≠ .float k n) ∧ (∀ k m n, u' ≠ .complex k m n) ∧ (∀ s, u' ≠ .string s) := by
  cases u with
  | c c =>
    cases c with
    | int k n => exact absurd rfl (hi k n)
    | str s => exact absurd rfl (hs s)
    | sl b o n s c => obtain ⟨_, _, _, rfl⟩ := CR.sl_some hur; exact ⟨fun _ _ h => (by cases h), fun _ _ h => (by cases h), fun _ _ _ h => (by cases h), fun _ h => (by cases h)⟩
    | ptr b o => obtain ⟨_, _, rfl⟩ := hur; exact ⟨fun _ _ h => (by cases h), fun _ _ h => (by cases h), fun _ _ _ h => (by cases h), fun _ h => (by cases h)⟩
    | map r => obtain ⟨_, _, rfl⟩ := hur; exact ⟨fun _ _ h => (by cases h), fun _ _ h => (by cases h), fun _ _ _ h => (by cases h), fun _ h => (by cases h)⟩
    | fn f p q => obtain ⟨_, _, _, _, rfl, _⟩ := hur; exact ⟨fun _ _ h => (by cases h), fun _ _ h => (by cases h), fun _ _ _ h => (by cases h), fun _ h => (by cases h)⟩
    | bool b => have e1 : u' = .bool b := hur; subst e1; exact ⟨fun _ _ h => (by cases h), fun _ _ h => (by cases h), fun _ _ _ h => (by cases h), fun _ h => (by cases h)⟩
    | ptr0 => have e1 : u' = .pointer none := hur; subst e1; exact ⟨fun _ _ h => (by cases h), fun _ _ h => (by cases h), fun _ _ _ h => (by cases h), fun _ h => (by cases h)⟩
    | sl0 => have e1 : u' = .slice none 0 0 := hur; subst e1; exact ⟨fun _ _ h => (by cases h), fun _ _ h => (by cases h), fun _ _ _ h => (by cases h), fun _ h => (by cases h)⟩
    | map0 => have e1 : u' = .map none := hur; subst e1; exact ⟨fun _ _ h => (by cases h), fun _ _ h => (by cases h), fun _ _ _ h => (by cases h), fun _ h => (by cases h)⟩
    | nilFn => have e1 : u' = .nilFunc := hur; subst e1; exact ⟨fun _ _ h => (by cases h), fun _ _ h => (by cases h), fun _ _ _ h => (by cases h), fun _ h => (by cases h)⟩
    | nilIface => have e1 : u' = .nilIface := hur; subst e1; exact ⟨fun _ _ h => (by cases h), fun _ _ h => (by cases h), fun _ _ _ h => (by cases h), fun _ h => (by cases h)⟩
  | agg n l => obtain ⟨cs, rfl, _⟩ := hur; exact ⟨fun _ _ h => (by cases h), fun _ _ h => (by cases h), fun _ _ _ h => (by cases h), fun _ h => (by cases h)⟩
  | tup l => obtain ⟨cs, rfl, _⟩ := hur; exact ⟨fun _ _ h => (by cases h), fun _ _ h => (by cases h), fun _ _ _ h => (by cases h), fun _ h => (by cases h)⟩

theorem binV_cases {op : BinOp} {t : TypeId} {u v z : V} (hz : binV P op t u v = some z) : (∃ k n, u = .c (.int k n)) ∨ ((∀ k n, u ≠ .c (.int k n)) ∧ (∀ s, u ≠ .c (.str s)) ∧ binE P op t u v = some z) := by
  unfold binV at hz
  cases u with
  | c c =>
    cases c with
    | int k n => exact .inl ⟨k, n, rfl⟩
    | str s => cases hz
    | _ => exact .inr ⟨fun _ _ h => (by cases h), fun _ h => (by cases h), hz⟩
  | _ => exact .inr ⟨fun _ _ h => (by cases h), fun _ h => (by cases h), hz⟩

theorem ok_bin (hP : Fits P) {op : BinOp} {t : TypeId} {x y : Operand} {yt : TypeId} (ho : o.op = .binOp op t x y yt) (hr : HR e h w) (ht : TR e tm a.tmps) {r : R} (h1 : opBin P tm h op t x y = some r) : ∃ v, r = .val v h ∧ OpOk P e h w a o v h := by
  unfold opBin at h1
  obtain ⟨u, hu, h2⟩ := optB_eq h1
  obtain ⟨v, hv, h3⟩ := optB_eq h2
  obtain ⟨z, hz, rfl⟩ := vR_eq h3
  have hur := opd_eq ht hu
  have hvr := opd_eq ht hv
  refine ⟨z, rfl, ?_⟩
  have hfin : ∀ {z' : Value}, (eqGuard op t x y (a.eval x) (a.eval y)).run P w = .ok () w → (binOp op t (a.eval x) (a.eval y)).run P w = .ok z' w → VR e z z' → OpOk P e h w a o z h := fun hg hb hz' =>
    .same hr hz' (by simp only [execOp, ho, Sem.run_bind, hg, Result.andThen_ok, hb, Sem.run_pure])
  rcases binV_cases hz with ⟨k, n, rfl⟩ | ⟨hi, hs, hb⟩
  · obtain ⟨k', n', rfl, h4⟩ := vInt_eq (show vInt v none _ = some z from hz)
    have e1 : a.eval x = .int k n := hur
    have e2 : a.eval y = .int k' n' := hvr
    obtain ⟨z', q1, q2⟩ := binI_eq (P := P) (e := e) h4 t w
    refine hfin (by rw [e1]; exact guard_int w) (by rw [e1, e2]; exact q1) q2
  · obtain ⟨n1, n2, n3, n4⟩ := notNum hur hi hs
    unfold binE at hb
    cases op <;> first | (cases hb; done) | skip
    · obtain ⟨b, hq, h5⟩ := optB_eq (show optB (eqV P t u v) none vB = some z from hb)
      cases h5
      obtain ⟨q1, q2⟩ := eqV_run hP (op := .eql) (x := x) (y := y) hq hur hvr w
      exact hfin q2 (binOp_eql n1 n2 n3 n4 w q1).1 rfl
    · obtain ⟨b, hq, h5⟩ := optB_eq (show optB (eqV P t u v) none (fun b => vB (ifB b false true)) = some z from hb)
      cases h5
      obtain ⟨q1, q2⟩ := eqV_run hP (op := .neq) (x := x) (y := y) hq hur hvr w
      exact hfin q2 (binOp_eql n1 n2 n3 n4 w q1).2 (by cases b <;> rfl)

theorem ok_un {op : UnOp} {t : TypeId} {x : Operand} (ho : o.op = .unOp op t x) (hr : HR e h w) (ht : TR e tm a.tmps) {r : R} (h1 : opUn tm h op x = some r) : ∃ v, r = .val v h ∧ OpOk P e h w a o v h := by
  unfold opUn at h1
  obtain ⟨u, hu, h2⟩ := optB_eq h1
  obtain ⟨z, hz, rfl⟩ := vR_eq h2
  have hur := opd_eq ht hu
  refine ⟨z, rfl, ?_⟩
  cases op with
  | neg =>
    obtain ⟨k, n, rfl, h4⟩ := vInt_eq (show vInt u none _ = some z from hz)
    obtain ⟨q1, rfl⟩ := vI_eq h4
    have e1 : a.eval x = .int k n := hur
    have hw := fits_wrap q1
    rw [subI_eq] at hw
    refine .same hr (v' := .int k (subI (.ofNat 0) n)) rfl ?_
    have hw' : k.wrap (0 - n) = 0 - n := hw
    simp only [execOp, ho, e1, Op.unary, Op.intArith, Sem.run_bind, Sem.run_pure, Result.andThen_ok, hw', subI_eq]
    rfl
  | not =>
    obtain ⟨b, rfl, h4⟩ := vBool_eq (show vBool u none _ = some z from hz)
    cases h4
    have e1 : a.eval x = .bool b := hur
    refine .same hr (v' := .bool (!b)) (by cases b <;> rfl) ?_
    simp only [execOp, ho, e1, Op.unary, Sem.run_bind, Sem.run_pure, Result.andThen_ok]
  | _ => cases hz

theorem ok_conv {s d : TypeId} {x : Operand} (ho : o.op = .convert s d x) (hr : HR e h w) (ht : TR e tm a.tmps) {r : R} (h1 : opConv P tm h s d x = some r) : ∃ v, r = .val v h ∧ OpOk P e h w a o v h := by
  unfold opConv at h1
  obtain ⟨u, hu, h2⟩ := optB_eq h1
  obtain ⟨z, hz, rfl⟩ := vR_eq h2
  have hur := opd_eq ht hu
  refine ⟨z, rfl, ?_⟩
  unfold convV at hz
  generalize hk : tk P s = k1 at hz
  cases k1 with
  | int ks =>
    have hu1 := tk_int hk
    generalize hk2 : tk P d = k2 at hz
    cases k2 with
    | int kd =>
      have hu2 := tk_int hk2
      obtain ⟨k, n, rfl, h4⟩ := vInt_eq (show vInt u none _ = some z from hz)
      cases h4
      have e1 : a.eval x = .int k n := hur
      refine .same hr (v' := .int kd (kd.wrap n)) ?_ (by simp [execOp, ho, e1, convert, run_underlying hu1, run_underlying hu2, Conv.intToInt])
      unfold wrapI
      cases hf : fits kd n with
      | true => rw [fits_wrap hf]; rfl
      | false => rfl
    | _ => cases hz
  | str =>
    have hu1 := tk_str hk
    generalize hk2 : tk P d = k2 at hz
    cases k2 with
    | str =>
      have hu2 := tk_str hk2
      obtain ⟨b, rfl, h4⟩ := vStr_eq (show vStr u none _ = some z from hz)
      cases h4
      have e1 : a.eval x = .string b := hur
      exact .same hr (v' := .string b) rfl (by simp [execOp, ho, e1, convert, run_underlying hu1, run_underlying hu2])
    | _ => cases hz
  | _ => cases hz

end
end Go.Abs

/- Slices of slices, maps. -/
namespace Go.Abs
noncomputable section
variable {P : Program} {e : Env} {tm : S3 V} {h : H} {w : World} {a : Act} {o : Oper}

theorem natB_le {m n : Nat} (h : Nat.ble m n = true) : m ≤ n := Nat.le_of_ble_eq_true h

theorem optOpd_some {d k : Nat} {p : Operand} (ht : TR e tm a.tmps) (hh : optOpd tm d (some p) = some k) : ∃ q, a.eval p = .int q (.ofNat k) := by
  obtain ⟨v, hv, h2⟩ := optB_eq (show optB (opd tm p) none (fun v => vNat v none some) = some k from hh)
  obtain ⟨q, n, rfl, h3⟩ := vNat_eq h2
  cases h3
  exact ⟨q, opd_eq ht hv⟩
theorem run_sliceBound {v : Value} {k y : Nat} {code : BoundsCode} {q : IntKind} (hv : v = .int q (.ofNat k)) (hk : k ≤ y) (w : World) : (Instr.sliceBound v y code).run P w = .ok k w := by
  subst hv
  unfold Instr.sliceBound
  simp only [asIntOf, Sem.run_bind, Sem.run_pure, Result.andThen_ok]
  rw [if_pos ⟨Int.natCast_nonneg k, Int.ofNat_le.2 hk⟩]
  rfl
theorem run_bounds {lo hi : Option Operand} {l k n c : Nat} (ht : TR e tm a.tmps) (hl : optOpd tm 0 lo = some l) (hh : optOpd tm n hi = some k) (hlk : l ≤ k) (hkc : k ≤ c) (b : Bool) (w : World) :
    (Instr.sliceBounds b n c (lo.map a.eval) (hi.map a.eval) none).run P w = .ok (l, k, c) w := by
  unfold Instr.sliceBounds
  cases hi with
  | none =>
    have hk : n = k := Option.some.inj hh
    subst hk
    cases lo with
    | none =>
      have hl' : 0 = l := Option.some.inj hl
      subst hl'
      simp
    | some p =>
      obtain ⟨q, hq⟩ := optOpd_some ht hl
      simp [run_sliceBound hq hlk]
  | some r =>
    obtain ⟨q', hq'⟩ := optOpd_some ht hh
    cases lo with
    | none =>
      have hl' : 0 = l := Option.some.inj hl
      subst hl'
      simp [run_sliceBound hq' hkc]
    | some p =>
      obtain ⟨q, hq⟩ := optOpd_some ht hl
      simp [run_sliceBound hq' hkc, run_sliceBound hq hlk]

theorem slCell_eq {b o n s : Nat} {c : Option Nat} {h : H} {r : R} (hh : vR h (slCell b o n s c) = some r) : r = .val (.c (.sl b o n s c)) h := by
  obtain ⟨v, h1, rfl⟩ := vR_eq hh
  cases h1; rfl

theorem ok_slice {t : TypeId} {x : Operand} {lo hi mx : Option Operand} (ho : o.op = .slice t x lo hi mx) (hr : HR e h w) (ht : TR e tm a.tmps) {r : R} (h1 : opSlice P tm h t x lo hi mx = some r) : ∃ v, r = .val v h ∧ OpOk P e h w a o v h := by
  unfold opSlice at h1
  cases mx with
  | some m => cases h1
  | none =>
    obtain ⟨u, hu, h2⟩ := optB_eq (show optB (opd tm x) none _ = some r from h1)
    obtain ⟨l, hl, h3⟩ := optB_eq h2
    have hur := opd_eq ht hu
    generalize hk : tk P t = kk at h3
    cases kk with
    | sl el =>
      have hut := tk_sl hk
      obtain ⟨hkn, h4⟩ := ifB_eq (show ifB (knownT P el) _ none = some r from h3)
      rcases vSl_eq h4 with ⟨rfl, h5⟩ | ⟨b, off, n, s, c, rfl, h5⟩
      · obtain ⟨q1, h6⟩ := ifB_eq h5
        obtain ⟨k, hkk, h7⟩ := optB_eq h6
        obtain ⟨q2, h8⟩ := ifB_eq h7
        cases h8
        have e1 := Nat.eq_of_beq_eq_true q1
        have e2 := Nat.eq_of_beq_eq_true q2
        subst e1; subst e2
        have hx : a.eval x = .slice none 0 0 := hur
        refine ⟨_, rfl, .same hr (v' := .slice none 0 0) rfl ?_⟩
        have hb := run_bounds (P := P) (n := 0) (c := 0) ht hl hkk (Nat.le_refl _) (Nat.le_refl _) true w
        simp [execOp, ho, hx, Instr.sliceAt, Instr.slice, run_underlying hut, hb, run_sizeOf' hkn]
      · obtain ⟨k, hkk, h6⟩ := optB_eq h5
        obtain ⟨q1, h7⟩ := ifB_eq h6
        have hlk := natB_le q1
        cases c with
        | none =>
          obtain ⟨q2, h8⟩ := ifB_eq (show ifB (Nat.ble k n) _ none = some r from h7)
          obtain ⟨q3, h9⟩ := ifB_eq h8
          have hs := Nat.eq_of_beq_eq_true q3
          have := slCell_eq h9
          subst this
          have hkn' := natB_le q2
          obtain ⟨cb, off', cap, hc, hx, hn, hcap, hoff, hfit, hstart⟩ : SlR e b off n s (a.eval x) := hur
          have hb := run_bounds (P := P) (n := n) (c := cap) ht hl hkk hlk (by omega) true w
          refine ⟨_, rfl, .same hr (v' := .slice (some (if cap = l then ⟨cb, off', none⟩ else (⟨cb, off', none⟩ : Addr).add (l * P.cellsOf el))) (k - l) (cap - l)) ?_ ?_⟩
          · show SlR e b (off + l * s) (k - l) s _
            by_cases hcl : cap = l
            · refine ⟨cb, off', cap - l, hc, by rw [if_pos hcl], by omega, by omega, .inl (by omega), ?_, fun h0 => ?_⟩
              · have : cap - l = 0 := by omega
                rw [this]
                have : off' ≤ off' + cap * s := Nat.le_add_right _ _
                omega
              · obtain ⟨p1, p2⟩ := hstart (by omega)
                refine ⟨p1, ?_⟩
                have h0' : l * s = 0 := by omega
                rw [hcl, Nat.sub_self, Nat.zero_mul, ← p2, hcl, h0']
            · refine ⟨cb, off' + l * P.cellsOf el, cap - l, hc, by rw [if_neg hcl, addr_add], by omega, by omega, ?_, ?_, fun h0 => ?_⟩
              · rcases hoff with h0 | h0
                · left; omega
                · right; rw [h0, hs]
              · rw [← hs]
                have : l * s + (cap - l) * s = cap * s := by rw [← Nat.add_mul]; congr 1; omega
                omega
              · obtain ⟨p1, p2⟩ := hstart (by omega)
                have h0' : l * s = 0 := by omega
                refine ⟨by rw [← hs]; omega, ?_⟩
                rw [Nat.sub_mul, h0', Nat.sub_zero, p2]
          · simp [execOp, ho, hx, Instr.sliceAt, Instr.slice, run_underlying hut, hb, run_sizeOf' hkn]
            by_cases hcl : cap = l <;> simp [hcl]
        | some c =>
          obtain ⟨q2, h8⟩ := ifB_eq (show ifB (Nat.ble k c) _ none = some r from h7)
          have := slCell_eq h8
          subst this
          have hkc := natB_le q2
          obtain ⟨cb, sp, hc, hx, hn, hcap, hsp⟩ : ∃ cb sp, e.ρ b = some cb ∧ a.eval x = .slice (some ⟨cb, off, sp⟩) n c ∧ n ≤ c ∧ c ≤ maxLen ∧ (sp = none ∨ c = 0) := hur
          have hb := run_bounds (P := P) (n := n) (c := c) ht hl hkk hlk hkc true w
          refine ⟨_, rfl, .same hr (v' := .slice (some (if c = l then ⟨cb, off, sp⟩ else (⟨cb, off, sp⟩ : Addr).add (l * P.cellsOf el))) (k - l) (c - l)) ?_ ?_⟩
          · by_cases hcl : c = l
            · have hbq : Nat.beq c l = true := by rw [hcl]; exact Nat.beq_refl l
              rw [hbq]
              exact ⟨cb, sp, hc, by rw [if_pos hcl]; rfl, (show k - l ≤ c - l by omega), (show c - l ≤ maxLen by omega), .inr (show c - l = 0 by omega)⟩
            · have hbq : Nat.beq c l = false := by cases hq : Nat.beq c l with
                | true => exact absurd (Nat.eq_of_beq_eq_true hq) hcl
                | false => rfl
              rw [hbq]
              have := hsp.resolve_right (by omega)
              subst this
              exact ⟨cb, none, hc, by rw [if_neg hcl, addr_add]; rfl, (show k - l ≤ c - l by omega), (show c - l ≤ maxLen by omega), .inl rfl⟩
          · simp [execOp, ho, hx, Instr.sliceAt, Instr.slice, run_underlying hut, hb, run_sizeOf' hkn]
            by_cases hcl : c = l <;> simp [hcl]
    | arr n el =>
      have hut := tk_arr hk
      obtain ⟨hkn, h4⟩ := ifB_eq (show ifB (knownT P el) _ none = some r from h3)
      obtain ⟨hsm, h5⟩ := ifB_eq h4
      have hsm' : n ≤ 1048576 := natB_le hsm
      obtain ⟨b, off, rfl, h6⟩ := vPtr_eq h5
      obtain ⟨k, hkk, h7⟩ := optB_eq h6
      obtain ⟨q1, h8⟩ := ifB_eq h7
      obtain ⟨q2, h9⟩ := ifB_eq h8
      have := slCell_eq h9
      subst this
      have hlk := natB_le q1
      have hkc := natB_le q2
      obtain ⟨cb, hc, hx⟩ : ∃ cb, e.ρ b = some cb ∧ a.eval x = .pointer (some ⟨cb, off, none⟩) := hur
      have hb := run_bounds (P := P) (n := n) (c := n) ht hl hkk hlk hkc false w
      refine ⟨_, rfl, .same hr (v' := .slice (some (if n = l then ⟨cb, off, none⟩ else (⟨cb, off, none⟩ : Addr).add (l * P.cellsOf el))) (k - l) (n - l)) ?_ ?_⟩
      · by_cases hcl : n = l
        · have hbq : Nat.beq n l = true := by rw [hcl]; exact Nat.beq_refl l
          rw [hbq]
          exact ⟨cb, none, hc, by rw [if_pos hcl]; rfl, (show k - l ≤ n - l by omega), (show n - l ≤ maxLen by unfold maxLen; omega), .inl rfl⟩
        · have hbq : Nat.beq n l = false := by cases hq : Nat.beq n l with
            | true => exact absurd (Nat.eq_of_beq_eq_true hq) hcl
            | false => rfl
          rw [hbq]
          exact ⟨cb, none, hc, by rw [if_neg hcl, addr_add]; rfl, (show k - l ≤ n - l by omega), (show n - l ≤ maxLen by unfold maxLen; omega), .inl rfl⟩
      · simp [execOp, ho, hx, Instr.sliceAt, Instr.sureAddr, run_underlying hut, hb, run_sizeOf' hkn]
    | _ => cases h3

end
end Go.Abs

namespace Go.Abs
noncomputable section
variable {P : Program} {e : Env} {tm : S3 V} {h : H} {w : World} {a : Act} {o : Oper}

/-- what a search among entries comes to -/
def FR (e : Env) : Option (Nat × U) → Option (Nat × Value) → Prop
  | none, none => True
  | some (i, u), some (j, v) => i = j ∧ UR e u v
  | _, _ => False

theorem eqV_equal (hP : Fits P) {t : TypeId} {u v : V} {b : Bool} (h1 : eqV P t u v = some b) {u' v' : Value} (hu : VR e u u') (hv : VR e v v') (w : World) : (Op.equal t u' v').run P w = .ok b w :=
  (eqV_run hP (op := .eql) (x := .global 0) (y := .global 0) h1 hu hv w).1

theorem run_findAsking (hP : Fits P) {kt : TypeId} {k : V} {k' : Value} (hk : VR e k k') (w : World) : ∀ {es : List E} {ces : List MapEntry} {i : Nat} {f : Option (Nat × U)}, All2 (ER e) es ces → findE P kt k es i = some f →
    ∃ f', (Instr.findAsking kt k' ces i).run P w = .ok f' w ∧ FR e f f'
  | [], _, i, f, ha, hf => by
    cases ha
    have : none = f := Option.some.inj hf
    subst this
    exact ⟨none, rfl, trivial⟩
  | x :: es, _, i, f, ha, hf => by
    cases ha with
    | cons h1 h2 =>
      rename_i y ces
      obtain ⟨b, hb, h3⟩ := optB_eq (show optB (eqV P kt k (uV x.k)) none (fun b => ifB b (some (some (i, x.v))) (findE P kt k es (Nat.succ i))) = some f from hf)
      have heq := eqV_equal hP hb hk (VR_uV.2 h1.1) w
      unfold Instr.findAsking
      rw [Sem.run_bind, heq]
      simp only [Result.andThen_ok]
      cases b with
      | true =>
        have : some (i, x.v) = f := Option.some.inj h3
        subst this
        exact ⟨some (i, y.val), rfl, rfl, h1.2.1⟩
      | false => exact run_findAsking hP hk w h2 h3

theorem sameNow_eq {kt : TypeId} {kd : TypeDesc} (hu : P.underlying kt = some kd) {u v : Value} {b b' : Bool} (h1 : Instr.sameNow kd u v = some b') (h2 : (Op.equal kt u v).run P w = .ok b w) : b' = b := by
  have h3 : (Op.equalIn (9999 + 1) kt u v).run P w = .ok b w := h2
  unfold Op.equalIn at h3
  rw [Sem.run_bind, run_underlying hu] at h3
  simp only [Result.andThen_ok] at h3
  unfold Instr.sameNow at h1
  split at h1
  · split at h1
    · rename_i hk
      cases h1
      subst hk
      simp at h3
      exact h3
    · cases h1
  · cases h1
    simp at h3
    exact h3
  · cases h1
    simp at h3
    exact h3
  · cases h1

theorem run_findNow (hP : Fits P) {kt : TypeId} {kd : TypeDesc} (hu : P.underlying kt = some kd) {k : V} {k' : Value} (hk : VR e k k') (w : World) : ∀ {es : List E} {ces : List MapEntry} {i : Nat} {f : Option (Nat × U)} {r : Option (Nat × Value)},
    All2 (ER e) es ces → findE P kt k es i = some f → Instr.findNow kd k' ces i = some r → FR e f r
  | [], _, i, f, r, ha, hf, hr => by
    cases ha
    have : none = f := Option.some.inj hf
    subst this
    have : none = r := Option.some.inj hr
    subst this
    trivial
  | x :: es, _, i, f, r, ha, hf, hr => by
    cases ha with
    | cons h1 h2 =>
      rename_i y ces
      obtain ⟨b, hb, h3⟩ := optB_eq (show optB (eqV P kt k (uV x.k)) none (fun b => ifB b (some (some (i, x.v))) (findE P kt k es (Nat.succ i))) = some f from hf)
      have heq := eqV_equal hP hb hk (VR_uV.2 h1.1) w
      unfold Instr.findNow at hr
      cases hs : Instr.sameNow kd k' y.key with
      | none => rw [hs] at hr; cases hr
      | some b' =>
        rw [hs] at hr
        have hbb := sameNow_eq hu hs heq
        subst hbb
        cases b' with
        | true =>
          have e1 : some (i, x.v) = f := Option.some.inj h3
          have e2 : some (i, y.val) = r := Option.some.inj hr
          subst e1; subst e2
          exact ⟨rfl, h1.2.1⟩
        | false => exact run_findNow hP hu hk w h2 h3 hr

theorem run_findKey' (hP : Fits P) {kt : TypeId} {ks : List CK} (hpk : plainK P kt = some ks) {k : V} {k' : Value} (hk : VR e k k') {es : List E} {ces : List MapEntry} {f : Option (Nat × U)} (ha : All2 (ER e) es ces) (hf : findE P kt k es 0 = some f) (w : World) :
    ∃ f', (Instr.findKey kt k' ces).run P w = .ok f' w ∧ FR e f f' := by
  obtain ⟨kd, hu⟩ := keyTypeAt_underlying (plainK_eq hpk).1
  unfold Instr.findKey
  rw [Sem.run_bind, run_underlying hu]
  simp only [Result.andThen_ok]
  cases hn : Instr.findNow kd k' ces 0 with
  | some r => exact ⟨r, rfl, run_findNow hP hu hk w ha hf hn⟩
  | none => exact run_findAsking hP hk w ha hf

theorem HR.map {e : Env} {h : H} {w : World} (hr : HR e h w) {b clock : Nat} {es : List E} (hb : get5 h.t b = some (.map es clock)) {c : Nat} (hc : e.ρ b = some c) :
    ∃ ces, w.heap[c]? = some (.map ces clock) ∧ All2 (ER e) es ces.toList := by
  obtain ⟨cb, h1, co, h2, h3⟩ := hr.live b _ hb
  rw [hc] at h1; cases h1
  obtain ⟨ces, rfl, h4⟩ := h3
  exact ⟨ces, h2, h4⟩

theorem lookR_eq {v : V} {ok found : Bool} {r : R} (hh : lookR h v ok found = some r) {v' : Value} (hv : VR e v v') : ∃ z, r = .val z h ∧ VR e z (if ok then .tuple #[v', .bool found] else v') := by
  unfold lookR at hh
  obtain ⟨z, hz, rfl⟩ := vR_eq hh
  refine ⟨z, rfl, ?_⟩
  cases ok with
  | true =>
    obtain ⟨u, hu, h2⟩ := optB_eq (show optB (vU v) none (fun u => some (V.tup [u, .c (.bool found)])) = some z from hz)
    cases h2
    have := vU_eq hu
    subst this
    exact ⟨_, rfl, .cons (VR_uV.1 hv) (.cons rfl .nil)⟩
  | false => cases hz; exact hv

theorem ok_lookup (hP : Fits P) {t : TypeId} {x k : Operand} {ok : Bool} (ho : o.op = .lookup t x k ok) (hr : HR e h w) (ht : TR e tm a.tmps) {r : R} (h1 : opLookup P tm h t x k ok = some r) : ∃ v, r = .val v h ∧ OpOk P e h w a o v h := by
  unfold opLookup at h1
  obtain ⟨kt, et, htk, h2⟩ := onMapT_eq h1
  have hut := tk_map htk
  obtain ⟨ks, hpk, h3⟩ := optB_eq h2
  obtain ⟨xv, hx, h4⟩ := optB_eq h3
  obtain ⟨kv, hkv, h5⟩ := optB_eq h4
  obtain ⟨bb, hself, h6⟩ := optB_eq h5
  obtain ⟨f, hf, h7⟩ := optB_eq h6
  have hxr := opd_eq ht hx
  have hkr := opd_eq ht hkv
  have hfin : ∀ {es : Array MapEntry} {f' : Option (Nat × Value)}, FR e f f' → (Instr.findKey kt (a.eval k) es.toList).run P w = .ok f' w →
      ((a.eval x = .map none ∧ es = #[]) ∨ ∃ c clock, a.eval x = .map (some c) ∧ w.heap[c]? = some (.map es clock)) → ∃ v, r = .val v h ∧ OpOk P e h w a o v h := by
    intro es f' hfr hfk hsrc
    have hck := run_checkKey_plain hpk hself hkr (es.isEmpty) w
    cases f with
    | none =>
      cases f' with
      | some p => exact hfr.elim
      | none =>
        obtain ⟨z, hz, h8⟩ := optB_eq (show optB (zeroV P et) none (fun z => lookR h z ok false) = some r from h7)
        obtain ⟨zv, hzr, hzv⟩ := run_zeroValue' hz w
        obtain ⟨v, rfl, hv⟩ := lookR_eq h8 (hzv e)
        refine ⟨v, rfl, .same hr hv ?_⟩
        rcases hsrc with ⟨hxe, rfl⟩ | ⟨c, clock, hxe, hc⟩
        · simp only [execOp, ho, hxe, Instr.lookup, Sem.run_bind, run_underlying hut, Result.andThen_ok, Sem.run_pure, hck, hfk, hzr]
        · simp only [execOp, ho, hxe, Instr.lookup, Sem.run_bind, run_underlying hut, Result.andThen_ok, Sem.run_pure, MapKept.run_getObj_map hc, hck, hfk, hzr]
    | some p =>
      obtain ⟨i, u⟩ := p
      cases f' with
      | none => exact hfr.elim
      | some q =>
        obtain ⟨j, v0⟩ := q
        obtain ⟨_, hu0⟩ := hfr
        obtain ⟨v, rfl, hv⟩ := lookR_eq (show lookR h (uV u) ok true = some r from h7) (VR_uV.2 hu0)
        refine ⟨v, rfl, .same hr hv ?_⟩
        rcases hsrc with ⟨hxe, rfl⟩ | ⟨c, clock, hxe, hc⟩
        · simp only [execOp, ho, hxe, Instr.lookup, Sem.run_bind, run_underlying hut, Result.andThen_ok, Sem.run_pure, hck, hfk]
        · simp only [execOp, ho, hxe, Instr.lookup, Sem.run_bind, run_underlying hut, Result.andThen_ok, Sem.run_pure, MapKept.run_getObj_map hc, hck, hfk]
  rcases vMap_eq hf with ⟨rfl, h8⟩ | ⟨b, rfl, h8⟩
  · have : none = f := Option.some.inj h8
    subst this
    have hxe : a.eval x = .map none := hxr
    obtain ⟨kd, hu⟩ := keyTypeAt_underlying (plainK_eq hpk).1
    exact hfin (es := #[]) (f' := none) trivial (by
      unfold Instr.findKey
      rw [Sem.run_bind, run_underlying hu]
      rfl) (.inl ⟨hxe, rfl⟩)
  · obtain ⟨es, clock, hb, h9⟩ := onMap_eq h8
    obtain ⟨c, hc, hxe⟩ : ∃ cr, e.ρ b = some cr ∧ a.eval x = .map (some cr) := hxr
    obtain ⟨ces, hcm, hes⟩ := hr.map hb hc
    obtain ⟨f', hfk, hfr⟩ := run_findKey' hP hpk hkr hes h9 w
    exact hfin (es := ces) (f' := f') hfr hfk (.inr ⟨c, clock, hxe, hcm⟩)

end
end Go.Abs

namespace Go.Abs
noncomputable section
variable {P : Program} {e : Env} {tm : S3 V} {h : H} {w : World} {a : Act} {o : Oper}

/-! ### a key that stays -/
theorem kind_same {k : CK} {x y : Value} (hx : KindOk k x) (hy : KindOk k y) (he : litOf x = litOf y) : x = y := by
  cases k with
  | bool => obtain ⟨_, rfl⟩ := hx; obtain ⟨_, rfl⟩ := hy; simp only [litOf, Lit.bool.injEq] at he; rw [he]
  | int q => obtain ⟨_, rfl, _⟩ := hx; obtain ⟨_, rfl, _⟩ := hy; simp only [litOf, Lit.int.injEq] at he; rw [he.2]
  | str =>
    obtain ⟨u, rfl, _⟩ := hx; obtain ⟨v, rfl, _⟩ := hy
    simp only [litOf, Lit.string.injEq] at he
    cases u; cases v
    congr 2
    exact Array.toList_inj.1 he
theorem kinds_same : ∀ {ks : List CK} {xs ys : List Value}, All2 KindOk ks xs → All2 KindOk ks ys → xs.map litOf = ys.map litOf → xs = ys
  | _, _, _, .nil, .nil, _ => rfl
  | _, _, _, .cons h1 h2, .cons h3 h4, he => by
    simp only [List.map_cons, List.cons.injEq] at he
    rw [kind_same h1 h3 he.1, kinds_same h2 h4 he.2]
theorem sameBits_kind {k : CK} {x : Value} (hx : KindOk k x) (n : Nat) : Instr.sameBits n x x = true := by
  cases k with
  | bool => obtain ⟨_, rfl⟩ := hx; cases n <;> simp [Instr.sameBits]
  | int q => obtain ⟨_, rfl, _⟩ := hx; cases n <;> simp [Instr.sameBits]
  | str => obtain ⟨s, rfl, _⟩ := hx; cases n <;> simp [Instr.sameBits, (MapKept.bytes_beq s s).2 rfl]
theorem zip_self_all {p : Value → Value → Bool} : ∀ {ks : List CK} {xs : List Value}, All2 KindOk ks xs → (∀ k x, KindOk k x → p x x = true) → (xs.zip xs).all (fun (x, y) => p x y) = true
  | _, _, .nil, _ => rfl
  | _, _, .cons h1 h2, hp => by simp only [List.zip_cons_cons, List.all_cons, hp _ _ h1, Bool.true_and]; exact zip_self_all h2 hp
theorem eqV_same {t : TypeId} {ks : List CK} (hk : plainK P t = some ks) {u v : V} (h1 : eqV P t u v = some true) {u' v' : Value} (hu : VR e u u') (hv : VR e v v') : u' = v' ∧ ∀ n, Instr.sameBits (n + 1) u' u' = true := by
  unfold eqV at h1
  rw [hk] at h1
  obtain ⟨xs, hxs, h2⟩ := optB_eq (show optB (shaped P t u) none (fun xs => optB (shaped P t v) none fun ys => eqKs ks xs ys) = some true from h1)
  obtain ⟨ys, hys, h3⟩ := optB_eq h2
  unfold shaped at hxs hys
  cases ha : isAggT P t with
  | true =>
    rw [ha] at hxs hys
    obtain ⟨n, l, rfl, h4⟩ := vAgg_eq (show vAgg u none (fun _ l => some l) = some xs from hxs)
    obtain ⟨m, r, rfl, h5⟩ := vAgg_eq (show vAgg v none (fun _ l => some l) = some ys from hys)
    cases h4; cases h5
    obtain ⟨cs, rfl, hcs, _⟩ := hu
    obtain ⟨ds, rfl, hds, _⟩ := hv
    obtain ⟨k1, k2, k3⟩ := eqKs_eq h3 hcs hds
    have hcd := kinds_same k1 k2 (k3.1 rfl)
    have : cs = ds := Array.toList_inj.1 hcd
    subst this
    refine ⟨rfl, fun n => ?_⟩
    simp only [Instr.sameBits, beq_self_eq_true, Bool.true_and]
    exact zip_self_all k1 fun k x hx => sameBits_kind hx n
  | false =>
    rw [ha] at hxs hys
    obtain ⟨x, rfl, h4⟩ := vCell_eq (show vCell u none (fun c => some [c]) = some xs from hxs)
    obtain ⟨y, rfl, h5⟩ := vCell_eq (show vCell v none (fun c => some [c]) = some ys from hys)
    cases h4; cases h5
    obtain ⟨k1, k2, k3⟩ := eqKs_eq h3 (.cons hu .nil) (.cons hv .nil)
    have hcd := kinds_same k1 k2 (k3.1 rfl)
    simp only [List.cons.injEq, and_true] at hcd
    subst hcd
    cases k1 with
    | cons q1 q2 => exact ⟨rfl, fun n => sameBits_kind q1 _⟩

theorem findE_spec {kt : TypeId} {k : V} : ∀ {es : List E} {i i' : Nat} {u : U}, findE P kt k es i = some (some (i', u)) → ∃ j x, i' = i + j ∧ es[j]? = some x ∧ eqV P kt k (uV x.k) = some true
  | [], i, i', u, hf => by cases hf
  | x :: es, i, i', u, hf => by
    obtain ⟨b, hb, h3⟩ := optB_eq (show optB (eqV P kt k (uV x.k)) none (fun b => ifB b (some (some (i, x.v))) (findE P kt k es (Nat.succ i))) = some (some (i', u)) from hf)
    cases b with
    | true =>
      have : some (i, x.v) = some (i', u) := Option.some.inj h3
      cases this
      exact ⟨0, x, rfl, rfl, hb⟩
    | false =>
      obtain ⟨j, y, h4, h5, h6⟩ := findE_spec (i := i + 1) h3
      exact ⟨j + 1, y, by omega, h5, h6⟩

theorem setEntry_all {k v : U} {k' v' : Value} (hk : UR e k k') (hv : UR e v v') : ∀ {es : List E} {ces : List MapEntry} {i : Nat}, All2 (ER e) es ces → All2 (ER e) (setEntry k v es i) (ces.modify i fun y => { y with key := k', val := v' })
  | _, _, i, .nil => by cases i <;> exact .nil
  | _, _, 0, .cons h1 h2 => by
    rw [List.modify_zero_cons]
    exact .cons ⟨hk, hv, h1.2.2⟩ h2
  | _, _, i + 1, .cons (x := x) (xs := xs) h1 h2 => by
    rw [List.modify_succ_cons]
    show All2 _ (consS x (setEntry k v xs i)) _
    rw [consS_eq]
    exact .cons h1 (setEntry_all hk hv h2)

theorem ok_update (hP : Fits P) {t : TypeId} {x k y : Operand} (ho : o.op = .mapUpdate t x k y ∨ o.op = .insert t x k y) (hr : HR e h w) (ht : TR e tm a.tmps) {r : R} (h1 : opUpdate P tm h t x k y = some r) : ∃ v h', r = .val v h' ∧ OpOk P e h w a o v h' := by
  unfold opUpdate at h1
  obtain ⟨kt, et, htk, h2⟩ := onMapT_eq h1
  have hut := tk_map htk
  obtain ⟨ks, hpk, h3⟩ := optB_eq h2
  obtain ⟨xv, hx, h4⟩ := optB_eq h3
  obtain ⟨kv, hkv, h5⟩ := optB_eq h4
  obtain ⟨yv, hyv, h6⟩ := optB_eq h5
  have hxr := opd_eq ht hx
  have hkr := opd_eq ht hkv
  have hyr := opd_eq ht hyv
  rcases vMap_eq h6 with ⟨_, h8⟩ | ⟨b, rfl, h8⟩
  · cases h8
  obtain ⟨es, clock, hb, h9⟩ := onMap_eq h8
  obtain ⟨c, hc, hxe⟩ : ∃ cr, e.ρ b = some cr ∧ a.eval x = .map (some cr) := hxr
  obtain ⟨ces, hcm, hes⟩ := hr.map hb hc
  obtain ⟨ku, hku, h10⟩ := optB_eq h9
  obtain ⟨yu, hyu, h11⟩ := optB_eq h10
  obtain ⟨bb, hself, h12⟩ := optB_eq h11
  obtain ⟨f, hf, h13⟩ := optB_eq h12
  have := vU_eq hku; subst this
  have := vU_eq hyu; subst this
  have hck := run_checkKey_plain hpk hself hkr false w
  obtain ⟨f', hfk, hfr⟩ := run_findKey' hP hpk hkr hes hf w
  have hexec : (execOp a.eval o) = (do Instr.mapUpdate t (a.eval x) (a.eval k) (a.eval y); pure .skip : Sem Next) := by
    unfold execOp
    rcases ho with ho | ho <;> rw [ho]
  cases f with
  | none =>
    cases f' with
    | some p => exact hfr.elim
    | none =>
      cases h13
      have hor : OR e b (.map (appS es [{ k := ku, v := yu, born := clock }]) (Nat.succ clock)) (.map (ces.push { key := a.eval k, val := a.eval y, born := clock }) (clock + 1)) := by
        refine ⟨_, rfl, ?_⟩
        rw [appS_eq, Array.toList_push]
        exact hes.app (.cons ⟨VR_uV.1 hkr, VR_uV.1 hyr, rfl⟩ .nil)
      obtain ⟨a1, a2⟩ := hr.upd hb hc hor (fun r hx => by rw [hcm] at hx; cases hx)
      refine ⟨_, _, rfl, e, _, undef, a2, a1, ⟨#[], rfl, .nil⟩, .inr ⟨?_, rfl⟩⟩
      rw [hexec, hxe]
      simp only [Instr.mapUpdate, Sem.run_bind, run_underlying hut, Result.andThen_ok, MapKept.run_getObj_map hcm, hck, hfk, MapKept.run_setObj_map _ hcm, Sem.run_pure]
      rfl
  | some p =>
    obtain ⟨i, u⟩ := p
    cases f' with
    | none => exact hfr.elim
    | some q =>
      obtain ⟨j, v0⟩ := q
      obtain ⟨hij, _⟩ := hfr
      subst hij
      cases h13
      obtain ⟨j, z, hj, hz, heq⟩ := findE_spec hf
      obtain ⟨z', hz', hzr⟩ := hes.get (show es[i]? = some z by rw [hj, Nat.zero_add]; exact hz)
      obtain ⟨hkz, hsb⟩ := eqV_same hpk heq hkr (VR_uV.2 hzr.1)
      have hor : OR e b (.map (setEntry ku yu es i) clock) (.map (ces.modify i fun y' => { y' with key := a.eval k, val := a.eval y }) clock) := by
        refine ⟨_, rfl, ?_⟩
        rw [Array.toList_modify]
        exact setEntry_all (VR_uV.1 hkr) (VR_uV.1 hyr) hes
      obtain ⟨a1, a2⟩ := hr.upd hb hc hor (fun r hx => by rw [hcm] at hx; cases hx)
      refine ⟨_, _, rfl, e, _, undef, a2, a1, ⟨#[], rfl, .nil⟩, .inr ⟨?_, rfl⟩⟩
      have hget : (((ces[i]?).map (·.key)).getD (a.eval k)) = a.eval k := by
        rw [← Array.getElem?_toList, hz']
        exact hkz.symm
      have hkeep : (Instr.keyThatStays (((ces[i]?).map (·.key)).getD (a.eval k)) (a.eval k)).run P w = .ok (a.eval k) w := by
        rw [hget]
        unfold Instr.keyThatStays
        rw [hsb 9999]
        rfl
      rw [hexec, hxe]
      simp only [Instr.mapUpdate, Sem.run_bind, run_underlying hut, Result.andThen_ok, MapKept.run_getObj_map hcm, hck, hfk, hkeep, MapKept.run_setObj_map _ hcm, Sem.run_pure]
      rfl

theorem ok_mapEntry (hP : Fits P) {t : TypeId} {x k : Operand} (ho : o.op = .mapEntry t x k) (hr : HR e h w) (ht : TR e tm a.tmps) {r : R} (h1 : opMapEntry P tm h t x k = some r) : ∃ v h', r = .val v h' ∧ OpOk P e h w a o v h' := by
  unfold opMapEntry at h1
  obtain ⟨kt, et, htk, h2⟩ := onMapT_eq h1
  have hut := tk_map htk
  obtain ⟨ks, hpk, h3⟩ := optB_eq h2
  obtain ⟨xv, hx, h4⟩ := optB_eq h3
  obtain ⟨kv, hkv, h5⟩ := optB_eq h4
  have hxr := opd_eq ht hx
  have hkr := opd_eq ht hkv
  rcases vMap_eq h5 with ⟨_, h8⟩ | ⟨b, rfl, h8⟩
  · cases h8
  obtain ⟨es, clock, hb, h9⟩ := onMap_eq h8
  obtain ⟨c, hc, hxe⟩ : ∃ cr, e.ρ b = some cr ∧ a.eval x = .map (some cr) := hxr
  obtain ⟨ces, hcm, hes⟩ := hr.map hb hc
  obtain ⟨ku, hku, h11⟩ := optB_eq h9
  obtain ⟨bb, hself, h12⟩ := optB_eq h11
  obtain ⟨f, hf, h13⟩ := optB_eq h12
  have := vU_eq hku; subst this
  have hck := run_checkKey_plain hpk hself hkr false w
  obtain ⟨f', hfk, hfr⟩ := run_findKey' hP hpk hkr hes hf w
  have hexec : (execOp a.eval o) = (do pure (.value (← Instr.mapEntry t (a.eval x) (a.eval k))) : Sem Next) := by
    unfold execOp
    rw [ho]
  cases f with
  | none =>
    cases f' with
    | some p => exact hfr.elim
    | none =>
      obtain ⟨z, hz, h14⟩ := optB_eq (show optB (zeroV P et) none _ = some r from h13)
      obtain ⟨zu, hzu, h15⟩ := optB_eq h14
      cases h15
      have := vU_eq hzu; subst this
      obtain ⟨zv, hzr, hzv⟩ := run_zeroValue' hz w
      have hor : OR e b (.map (appS es [{ k := ku, v := zu, born := clock }]) (Nat.succ clock)) (.map (ces.push { key := a.eval k, val := zv, born := clock }) (clock + 1)) := by
        refine ⟨_, rfl, ?_⟩
        rw [appS_eq, Array.toList_push]
        exact hes.app (.cons ⟨VR_uV.1 hkr, VR_uV.1 (hzv e), rfl⟩ .nil)
      obtain ⟨a1, a2⟩ := hr.upd hb hc hor (fun r hx => by rw [hcm] at hx; cases hx)
      refine ⟨_, _, rfl, e, _, .tuple #[zv, goInt clock], a2, a1, ⟨_, rfl, .cons (VR_uV.1 (hzv e)) (.cons rfl .nil)⟩, .inl ?_⟩
      rw [hexec, hxe]
      simp only [Instr.mapEntry, Sem.run_bind, run_underlying hut, Result.andThen_ok, MapKept.run_getObj_map hcm, hck, hfk, hzr, MapKept.run_setObj_map _ hcm, Sem.run_pure]
      rfl
  | some p =>
    obtain ⟨i, u⟩ := p
    cases f' with
    | none => exact hfr.elim
    | some q =>
      obtain ⟨j, v0⟩ := q
      obtain ⟨hij, hvr⟩ := hfr
      subst hij
      obtain ⟨z0, hz0, h15⟩ := optB_eq (show optB (atS es i) none _ = some r from h13)
      cases h15
      obtain ⟨j, z, hj, hz, heq⟩ := findE_spec hf
      rw [Nat.zero_add] at hj
      subst hj
      obtain ⟨z', hz', hzr⟩ := hes.get hz
      obtain ⟨hkz, hsb⟩ := eqV_same hpk heq hkr (VR_uV.2 hzr.1)
      have hzz : z0 = z := by
        have hz1 : es[i]? = some z0 := atS_eq hz0
        rw [hz] at hz1; exact (Option.some.inj hz1).symm
      subst hzz
      have hor : OR e b (.map (setEntry ku z0.v es i) clock) (.map (ces.modify i fun y' => { y' with key := a.eval k }) clock) := by
        refine ⟨_, rfl, ?_⟩
        rw [Array.toList_modify]
        have h16 := setEntry_all (i := i) (VR_uV.1 hkr) (VR_uV.1 (VR_uV.2 hzr.2.1)) hes
        have h17 : (ces.toList.modify i fun y' => { y' with key := a.eval k }) = ces.toList.modify i fun y' => { y' with key := a.eval k, val := z'.val } := by
          apply List.ext_getElem?
          intro n
          rw [List.getElem?_modify, List.getElem?_modify]
          by_cases hn : i = n
          · subst hn; rw [hz']; rfl
          · cases ces.toList[n]? with
            | none => rfl
            | some q =>
              show some (if i = n then _ else q) = some (if i = n then _ else q)
              rw [if_neg hn, if_neg hn]
        rw [h17]; exact h16
      obtain ⟨a1, a2⟩ := hr.upd hb hc hor (fun r hx => by rw [hcm] at hx; cases hx)
      have hget : (((ces[i]?).map (·.key)).getD (a.eval k)) = a.eval k := by
        rw [← Array.getElem?_toList, hz']
        exact hkz.symm
      have hborn : (((ces[i]?).map fun q => (q.born : Int)).getD 0) = (z0.born : Int) := by
        rw [← Array.getElem?_toList, hz']
        show (z'.born : Int) = _
        rw [hzr.2.2]
      have hkeep : (Instr.keyThatStays (((ces[i]?).map (·.key)).getD (a.eval k)) (a.eval k)).run P w = .ok (a.eval k) w := by
        rw [hget]
        unfold Instr.keyThatStays
        rw [hsb 9999]
        rfl
      refine ⟨_, _, rfl, e, _, .tuple #[v0, goInt (((ces[i]?).map fun q => (q.born : Int)).getD 0)], a2, a1, ⟨_, rfl, .cons hvr (.cons (by rw [hborn]; rfl) .nil)⟩, .inl ?_⟩
      rw [hexec, hxe]
      simp only [Instr.mapEntry, Sem.run_bind, run_underlying hut, Result.andThen_ok, MapKept.run_getObj_map hcm, hck, hfk, hkeep, MapKept.run_setObj_map _ hcm, Sem.run_pure]
      rfl
theorem setBorn_all {n : Nat} {y : U} {y' : Value} (hy : UR e y y') : ∀ {es es' : List E} {ces : List MapEntry}, All2 (ER e) es ces → setBorn n y es = some es' → ∃ i, ces.findIdx? (fun q => (q.born : Int) == (n : Int)) = some i ∧ All2 (ER e) es' (ces.modify i fun q => { q with val := y' })
  | _, es', _, .nil, h => by cases h
  | _, es', _, .cons (x := x) (xs := xs) (y := c) (ys := cs) h1 h2, h => by
    have h3 : ifB (Nat.beq x.born n) (some ({ k := x.k, v := y, born := x.born } :: xs)) (optB (setBorn n y xs) none fun l => some (consS x l)) = some es' := h
    rw [List.findIdx?_cons]
    cases hb : Nat.beq x.born n with
    | true =>
      rw [hb, ifB_true] at h3
      cases h3
      have hbn : x.born = n := Nat.eq_of_beq_eq_true hb
      have hc : ((c.born : Int) == (n : Int)) = true := by rw [← h1.2.2, hbn]; exact beq_self_eq_true _
      rw [if_pos hc]
      exact ⟨0, rfl, .cons ⟨h1.1, hy, h1.2.2⟩ h2⟩
    | false =>
      rw [hb, ifB_false] at h3
      obtain ⟨l, hl, h4⟩ := optB_eq h3
      cases h4
      obtain ⟨i, hi, ha⟩ := setBorn_all hy h2 hl
      have hc : ((c.born : Int) == (n : Int)) = false := by
        rw [← h1.2.2]
        cases hq : ((x.born : Int) == (n : Int)) with
        | false => rfl
        | true =>
          have : x.born = n := Int.ofNat.inj (eq_of_beq hq)
          rw [this, Nat.beq_refl] at hb; cases hb
      rw [if_neg (by rw [hc]; decide), hi]
      refine ⟨i + 1, rfl, ?_⟩
      rw [List.modify_succ_cons, consS_eq]
      exact .cons h1 ha
theorem ok_entryStore {t : TypeId} {x s y : Operand} (ho : o.op = .entryStore t x s y) (hr : HR e h w) (ht : TR e tm a.tmps) {r : R} (h1 : opEntryStore tm h x s y = some r) : ∃ v h', r = .val v h' ∧ OpOk P e h w a o v h' := by
  unfold opEntryStore at h1
  obtain ⟨xv, hx, h4⟩ := optB_eq h1
  obtain ⟨sv, hs, h5⟩ := optB_eq h4
  obtain ⟨yv, hyv, h6⟩ := optB_eq h5
  have hxr := opd_eq ht hx
  have hsr := opd_eq ht hs
  have hyr := opd_eq ht hyv
  rcases vMap_eq h6 with ⟨_, h8⟩ | ⟨b, rfl, h8⟩
  · cases h8
  obtain ⟨k, n, rfl, h9⟩ := vNat_eq h8
  obtain ⟨es, clock, hb, h10⟩ := onMap_eq h9
  obtain ⟨c, hc, hxe⟩ : ∃ cr, e.ρ b = some cr ∧ a.eval x = .map (some cr) := hxr
  obtain ⟨ces, hcm, hes⟩ := hr.map hb hc
  obtain ⟨yu, hyu, h11⟩ := optB_eq h10
  have := vU_eq hyu; subst this
  obtain ⟨es', hes', h12⟩ := optB_eq h11
  cases h12
  have hse : a.eval s = .int k (n : Int) := hsr
  obtain ⟨i, hi, ha⟩ := setBorn_all (VR_uV.1 hyr) hes hes'
  have hor : OR e b (.map es' clock) (.map (ces.modify i fun q => { q with val := a.eval y }) clock) := by
    refine ⟨_, rfl, ?_⟩
    rw [Array.toList_modify]
    exact ha
  obtain ⟨a1, a2⟩ := hr.upd hb hc hor (fun r hx => by rw [hcm] at hx; cases hx)
  refine ⟨_, _, rfl, e, _, undef, a2, a1, ⟨#[], rfl, .nil⟩, .inr ⟨?_, rfl⟩⟩
  have hexec : (execOp a.eval o) = (do Instr.entryStore t (a.eval x) (a.eval s) (a.eval y); pure .skip : Sem Next) := by
    unfold execOp
    rw [ho]
  have hfi : ces.findIdx? (fun q => (q.born : Int) == (n : Int)) = some i := by rw [← hi, ← List.findIdx?_toArray]
  rw [hexec, hxe, hse]
  simp only [Instr.entryStore, Sem.run_bind, Result.andThen_ok, MapKept.run_getObj_map hcm, asInt, asIntOf, Sem.run_pure, hfi, MapKept.run_setObj_map _ hcm]
  rfl

/-! ### going through a map -/
theorem hasNat_eq (n : Nat) (l : List Nat) : hasNat n l = l.contains n := by
  induction l with
  | nil => rfl
  | cons x xs ih =>
    show ifB (Nat.beq n x) true (hasNat n xs) = _
    rw [List.contains_cons, ih]
    have : Nat.beq n x = (n == x) := by rw [Bool.eq_iff_iff, natBeq_iff, beq_iff_eq]
    rw [this]
    cases (n == x) <;> rfl
theorem anyS_eq {α : Type} (p : α → Bool) (l : List α) : anyS p l = l.any p := by
  induction l with
  | nil => rfl
  | cons x xs ih =>
    show ifB (p x) true (anyS p xs) = _
    rw [ih, List.any_cons]
    cases p x <;> rfl
theorem filterS_eq {α : Type} (p : α → Bool) (l : List α) : filterS p l = l.filter p := by
  induction l with
  | nil => rfl
  | cons x xs ih =>
    show ifB (p x) (consS x (filterS p xs)) (filterS p xs) = _
    rw [ih, consS_eq]
    cases hp : p x
    · rw [List.filter_cons_of_neg (by simp [hp])]; rfl
    · rw [List.filter_cons_of_pos hp]; rfl
theorem All2.filter {α β : Type} {R : α → β → Prop} {p : α → Bool} {q : β → Bool} {xs : List α} {ys : List β} (h : All2 R xs ys) (hp : ∀ x y, R x y → p x = q y) : All2 R (xs.filter p) (ys.filter q) := by
  induction h with
  | nil => exact .nil
  | cons h1 _ ih =>
    have := hp _ _ h1
    rw [List.filter_cons, List.filter_cons, this]
    split
    · exact .cons h1 ih
    · exact ih
theorem All2.any {α β : Type} {R : α → β → Prop} {p : α → Bool} {q : β → Bool} {xs : List α} {ys : List β} (h : All2 R xs ys) (hp : ∀ x y, R x y → p x = q y) : xs.any p = ys.any q := by
  induction h with
  | nil => rfl
  | cons h1 _ ih => rw [List.any_cons, List.any_cons, ih, hp _ _ h1]
theorem ifB_not (b : Bool) : ifB b false true = !b := by cases b <;> rfl

def OverR (e : Env) (m cm : Option Nat) : Prop := match m with | none => cm = none | some r => ∃ cr, e.ρ r = some cr ∧ cm = some cr
theorem HR.iter {e : Env} {h : H} {w : World} (hr : HR e h w) {b since last : Nat} {m : Option Nat} {seen : List Nat} (hb : get5 h.t b = some (.iter m since seen last)) {c : Nat} (hc : e.ρ b = some c) :
    ∃ cm cs, w.heap[c]? = some (.mapIter cm since cs last) ∧ cs.toList.reverse = seen ∧ OverR e m cm := by
  obtain ⟨cb, h1, co, h2, h3⟩ := hr.live b _ hb
  rw [hc] at h1; cases h1
  obtain ⟨cm, cs, rfl, h4⟩ := h3
  exact ⟨cm, cs, h2, h4⟩

theorem ok_range {t : TypeId} {x : Operand} (ho : o.op = .range t x) (hr : HR e h w) (ht : TR e tm a.tmps) {r : R} (h1 : opRange P tm h t x = some r) : ∃ v h', r = .val v h' ∧ OpOk P e h w a o v h' := by
  unfold opRange at h1
  obtain ⟨kt, et, htk, h2⟩ := onMapT_eq h1
  have hut := tk_map htk
  obtain ⟨xv, hx, h4⟩ := optB_eq h2
  have hxr := opd_eq ht hx
  have hfin : ∀ {m : Option Nat} {cm : Option Nat} {clock : Nat}, OverR e m cm → newIter h m clock = some r →
      (execOp a.eval o).run P w = .ok (.value (.pointer (some ⟨w.heap.size, 0, none⟩))) (w.alloc (.mapIter cm clock #[] clock)) → ∃ v h', r = .val v h' ∧ OpOk P e h w a o v h' := by
    intro m cm clock hm hn hrun
    cases hn
    have hle := Env.put_le (hr.fresh h.nxt (Nat.le_refl _)) w.heap.size 0 0
    have hor : OR (e.put h.nxt w.heap.size 0 0) h.nxt (.iter m clock [] clock) (.mapIter cm clock #[] clock) := by
      refine ⟨cm, #[], rfl, rfl, ?_⟩
      cases m with
      | none => exact hm
      | some q => obtain ⟨cr, h5, h6⟩ := hm; exact ⟨cr, hle.ρ _ _ h5, h6⟩
    obtain ⟨a1, a2⟩ := hr.new 0 0 hor
    exact ⟨_, _, rfl, _, _, _, a2, a1, ⟨_, Env.put_self _ _ _ _ _, rfl⟩, .inl hrun⟩
  rcases vMap_eq h4 with ⟨rfl, h8⟩ | ⟨b, rfl, h8⟩
  · have hxe : a.eval x = .map none := hxr
    refine hfin (m := none) (cm := none) rfl h8 ?_
    simp only [execOp, ho, hxe, Instr.range, Sem.run_bind, run_underlying hut, Result.andThen_ok, Sem.run_pure, run_newObj_alloc]
  · obtain ⟨es, clock, hb, h9⟩ := onMap_eq h8
    obtain ⟨c, hc, hxe⟩ : ∃ cr, e.ρ b = some cr ∧ a.eval x = .map (some cr) := hxr
    obtain ⟨ces, hcm, hes⟩ := hr.map hb hc
    refine hfin (m := some b) (cm := some c) ⟨c, hc, rfl⟩ h9 ?_
    simp only [execOp, ho, hxe, Instr.range, Sem.run_bind, run_underlying hut, Result.andThen_ok, Sem.run_pure, MapKept.run_getObj_map hcm, run_newObj_alloc]

theorem run_getObj_iter {c since last : Nat} {cm : Option Nat} {cs : Array Nat} (hc : w.heap[c]? = some (.mapIter cm since cs last)) : (getObj c).run P w = .ok (.mapIter cm since cs last) w := by
  simp [getObj, Sem.run, hc]

theorem find_born' : ∀ {es : List E} {ces : List MapEntry} {n : Nat} {v : V}, All2 (ER e) es ces → findBorn n es = some v → ∃ y, ces.find? (·.born == n) = some y ∧ VR e v (.tuple #[y.key, y.val])
  | _, _, n, v, .nil, hf => by cases hf
  | _, _, n, v, .cons (x := x) (y := y) (xs := xs) (ys := ys) h1 h2, hf => by
    have hf' : ifB (Nat.beq x.born n) (some (.tup [x.k, x.v])) (findBorn n xs) = some v := hf
    have hb : (y.born == n) = Nat.beq x.born n := by rw [← h1.2.2, Bool.eq_iff_iff, natBeq_iff, beq_iff_eq]
    rw [List.find?_cons, hb]
    cases hc : Nat.beq x.born n with
    | true =>
      rw [hc] at hf'
      cases hf'
      exact ⟨y, rfl, _, rfl, .cons h1.1 (.cons h1.2.1 .nil)⟩
    | false =>
      rw [hc] at hf'
      exact find_born' h2 hf'

theorem ok_entry {x : Operand} (ho : o.op = .entry x) (hr : HR e h w) (ht : TR e tm a.tmps) {r : R} (h1 : opEntry tm h x = some r) : ∃ v, r = .val v h ∧ OpOk P e h w a o v h := by
  unfold opEntry at h1
  obtain ⟨p, hp, h2⟩ := optB_eq h1
  obtain ⟨b, off, rfl, h3⟩ := vPtr_eq h2
  obtain ⟨h4, h5⟩ := ifB_eq h3
  have := Nat.eq_of_beq_eq_true h4
  subst this
  obtain ⟨c, hc, hx⟩ : ∃ cb, e.ρ b = some cb ∧ a.eval x = .pointer (some ⟨cb, 0, none⟩) := opd_eq ht hp
  obtain ⟨m, since, seen, last, hb, h6⟩ := onIter_eq h5
  obtain ⟨cm, cs, hci, hseen, hm⟩ := hr.iter hb hc
  obtain ⟨mm, rfl, h7⟩ := optB_eq h6
  obtain ⟨cr, hcr, rfl⟩ := hm
  cases seen with
  | nil => cases h7
  | cons stamp seen =>
    obtain ⟨es, clock, hbm, h8⟩ := onMap_eq (show onMap h mm none _ = some r from h7)
    obtain ⟨ces, hcm, hes⟩ := hr.map hbm hcr
    obtain ⟨h9, h10⟩ := ifB_eq h8
    have := Nat.eq_of_beq_eq_true h9
    subst this
    obtain ⟨v, h11, rfl⟩ := vR_eq h10
    obtain ⟨y, hy, hv⟩ := find_born' hes h11
    refine ⟨v, rfl, .same hr hv ?_⟩
    have hback : cs.back? = some stamp := by
      rw [← Array.getLast?_toList]
      have : cs.toList = (stamp :: seen).reverse := by rw [← hseen, List.reverse_reverse]
      rw [this]
      simp
    have hfind : ces.find? (·.born == stamp) = some y := by rw [← Array.find?_toList]; exact hy
    simp only [execOp, ho, hx, Instr.entry, Sem.run_bind, run_getObj_iter hci, Result.andThen_ok, hback, MapKept.run_getObj_map hcm, bne_self_eq_false, Bool.false_eq_true, if_false, hfind, Sem.run_pure]

theorem run_setObj_iter {c since last : Nat} {cm : Option Nat} {cs : Array Nat} (hc : w.heap[c]? = some (.mapIter cm since cs last)) (n : Nat) (o' : Obj) :
    (setObj c o').run P { w with drawn := n } = .ok () ({ w with drawn := n }.putObj c o') := by
  simp only [setObj, Sem.run, World.putObj]
  simp [hc]

theorem ok_next {x : Operand} (ho : o.op = .next x false) (hr : HR e h w) (ht : TR e tm a.tmps) {r : R} (h1 : opNext tm h x = some r) :
    (∃ v, r = .val v h ∧ OpOk P e h w a o v h) ∨ ∃ l, r = .alts l ∧ ∃ p ∈ l, OpOk P e h w a o p.1 p.2 := by
  unfold opNext at h1
  obtain ⟨p, hp, h2⟩ := optB_eq h1
  obtain ⟨b, off, rfl, h3⟩ := vPtr_eq h2
  obtain ⟨h4, h5⟩ := ifB_eq h3
  have := Nat.eq_of_beq_eq_true h4
  subst this
  obtain ⟨c, hc, hx⟩ : ∃ cb, e.ρ b = some cb ∧ a.eval x = .pointer (some ⟨cb, 0, none⟩) := opd_eq ht hp
  obtain ⟨m, since, seen, last, hb, h6⟩ := onIter_eq h5
  obtain ⟨cm, cs, hci, hseen, hm⟩ := hr.iter hb hc
  have hover : VR e overV (.tuple #[.bool false]) := ⟨_, rfl, .cons rfl .nil⟩
  cases m with
  | none =>
    have : cm = none := hm
    subst this
    cases h6
    exact .inl ⟨_, rfl, .same hr hover (by simp only [execOp, ho, hx, Instr.next, Sem.run_bind, run_getObj_iter hci, Result.andThen_ok, Sem.run_pure])⟩
  | some mm =>
    obtain ⟨cr, hcr, rfl⟩ := hm
    obtain ⟨es, clock, hbm, h8⟩ := onMap_eq (show onMap h mm none _ = some r from h6)
    obtain ⟨ces, hcm, hes⟩ := hr.map hbm hcr
    obtain ⟨hgo, h9⟩ := ifB_eq h8
    have hany : anyS (fun e : E => ifB (hasNat e.born seen) false (ifB (ltN e.born since) false true)) es = false := by
      cases hq : anyS (fun e : E => ifB (hasNat e.born seen) false (ifB (ltN e.born since) false true)) es with
      | false => rfl
      | true => rw [hq] at h9; cases h9
    rw [hany, ifB_false] at h9
    have hmem : ∀ n, hasNat n seen = cs.contains n := fun n => by
      rw [hasNat_eq, ← hseen, Bool.eq_iff_iff]
      simp
    -- the guard
    have hguard : (!cs.isEmpty && !ces.isEmpty && ces.all (fun y => decide (y.born ≥ last))) = false := by
      cases hs : seen with
      | nil =>
        have : cs = #[] := by
          apply Array.toList_inj.1
          rw [hs] at hseen
          simpa using hseen
        simp [this]
      | cons s ss =>
        cases hes' : es with
        | nil =>
          rw [hes'] at hes
          have : ces = #[] := by
            apply Array.toList_inj.1
            generalize ces.toList = l at hes
            cases hes
            rfl
          simp [this]
        | cons q qs =>
          rw [hs, hes'] at hgo
          have hgo' : anyS (fun e : E => ltN e.born last) (q :: qs) = true := hgo
          rw [anyS_eq, ← hes', hes.any (q := fun y => decide (y.born < last)) (fun x y hxy => by rw [hxy.2.2]; exact ltN_iff)] at hgo'
          obtain ⟨y, hy, hlt⟩ := List.any_eq_true.1 hgo'
          have : ces.all (fun y => decide (y.born ≥ last)) = false := by
            rw [Array.all_eq_false']
            exact ⟨y, Array.mem_toList_iff.1 hy, by simp at hlt ⊢; exact hlt⟩
          simp [this]
    -- what is left
    have hleft := hes.filter (p := fun e : E => ifB (hasNat e.born seen) false true) (q := fun y => !cs.contains y.born) (fun x y hxy => by rw [ifB_not, hmem, hxy.2.2])
    rw [filterS_eq] at h9
    have hold : ∀ y ∈ (ces.filter fun y => !cs.contains y.born).toList, y.born < since := by
      intro y hy
      rw [anyS_eq] at hany
      have h11 : ces.toList.any (fun y => !cs.contains y.born && !decide (y.born < since)) = false := by
        rw [← hes.any (p := fun e : E => ifB (hasNat e.born seen) false (ifB (ltN e.born since) false true)) (fun x y hxy => by
          rw [hmem, hxy.2.2, ifB_not, ltN_iff]
          cases cs.contains y.born <;> rfl)]
        exact hany
      rw [Array.toList_filter] at hy
      have h12 := List.mem_filter.1 hy
      have h13 := List.any_eq_false.1 h11 y h12.1
      have h14 : (!cs.contains y.born) = true := h12.2
      rw [h14] at h13
      simpa using h13
    have hexec : execOp a.eval o = (do pure (.value (← Instr.next (.pointer (some ⟨c, 0, none⟩)) false o.type)) : Sem Next) := by
      unfold execOp; rw [ho]; simp only [hx]
    generalize hfl : es.filter (fun e : E => ifB (hasNat e.born seen) false true) = fl at h9 hleft
    rw [← Array.toList_filter] at hleft
    generalize hL : ces.filter (fun y => !cs.contains y.born) = L at hold hleft
    have e1 : L.filter (fun x => decide (x.born < since)) = L := Array.filter_eq_self.2 (fun x hx => by simpa using hold x (by simpa using hx))
    have e2 : L.filter (fun x => decide (x.born ≥ since)) = #[] := by
      rw [Array.filter_eq_empty_iff]
      intro x hx
      have := hold x (by simpa using hx)
      simp
      omega
    cases fl with
    | nil =>
      cases h9
      have hL0 : L = #[] := by
        apply Array.toList_inj.1
        generalize L.toList = l at hleft
        cases hleft
        rfl
      refine .inl ⟨_, rfl, .same hr hover ?_⟩
      rw [hexec]
      simp only [Instr.next, Sem.run_bind, run_getObj_iter hci, Result.andThen_ok, MapKept.run_getObj_map hcm, hguard, Bool.false_eq_true, if_false, hL, e1, e2, Array.append_empty]
      subst hL0
      simp [choose, Sem.run, Question.forced]
    | cons q qs =>
      have h10 : some (R.alts (mapS (fun e : E => (V.tup [.c (.bool true), e.k, e.v], hSet h b (.iter (some mm) since (e.born :: seen) clock))) (q :: qs))) = some r := h9
      cases h10
      right
      refine ⟨_, rfl, ?_⟩
      have hlen : L.size = (q :: qs).length := by rw [hleft.length]; simp
      have hpos : 0 < L.size := by rw [hlen]; exact Nat.succ_pos _
      have hne : L.isEmpty = false := by unfold Array.isEmpty; simp; intro h0; rw [h0] at hpos; simp at hpos
      have hch : ∃ (j n : Nat), j < L.size ∧ (choose (Question.mapNext L.size)).run P w = .ok j { w with drawn := n } := by
        by_cases hf : L.size ≤ 1
        · exact ⟨0, w.drawn, by omega, by simp [choose, Sem.run, Question.forced, hf]⟩
        · exact ⟨_, w.drawn + 1, Nat.mod_lt _ (by omega), by
            simp only [choose, Sem.run, Question.forced, decide_eq_true_eq, hf, if_false, Question.cut]
            rfl⟩
      obtain ⟨j, n, hj, hrun⟩ := hch
      obtain ⟨y, hy, hyr⟩ := hleft.get (i := j) (x := (q :: qs)[j]'(hlen ▸ hj)) (by simp)
      generalize hz : (q :: qs)[j]'(hlen ▸ hj) = z at hyr
      have hzm : z ∈ q :: qs := by rw [← hz]; exact List.getElem_mem _
      refine ⟨(V.tup [.c (.bool true), z.k, z.v], hSet h b (.iter (some mm) since (z.born :: seen) clock)), ?_, ?_⟩
      · rw [mapS_eq]; exact List.mem_map.2 ⟨z, hzm, rfl⟩
      · have hor : OR e b (.iter (some mm) since (z.born :: seen) clock) (.mapIter (some cr) since (cs.push y.born) clock) := by
          refine ⟨_, _, rfl, ?_, cr, hcr, rfl⟩
          rw [Array.toList_push, List.reverse_append, hseen, hyr.2.2]
          rfl
        obtain ⟨a1, a2⟩ := (hr.drawn n).upd hb hc hor (fun r hx => by have hx' : w.heap[c]? = some (Obj.loop r) := hx; rw [hci] at hx'; cases hx')
        refine ⟨e, _, .tuple #[.bool true, y.key, y.val], (Step.drawn n).trans a2, a1, ⟨_, rfl, .cons rfl (.cons hyr.1 (.cons hyr.2.1 .nil))⟩, .inl ?_⟩
        rw [hexec]
        simp only [Instr.next, Sem.run_bind, run_getObj_iter hci, Result.andThen_ok, MapKept.run_getObj_map hcm, hguard, Bool.false_eq_true, if_false, hL, e1, e2, Array.append_empty, hne, Array.empty_append, Array.size_map, hrun]
        have hyL : L[j]? = some y := by rw [← Array.getElem?_toList]; exact hy
        simp only [Array.getElem?_map, hyL, Option.map_some, Sem.run_bind, run_setObj_iter hci, Result.andThen_ok, Sem.run_pure]

end
end Go.Abs

namespace Go.Abs
noncomputable section
variable {P : Program} {e : Env} {tm : S3 V} {h : H} {w : World} {a : Act} {o : Oper}

/-- what a computation comes to -/
def Fin (P : Program) (e : Env) (h : H) (w : World) (s : Sem Value) (v : V) (h' : H) : Prop :=
  ∃ e' w' v', Step e h w e' h' w' ∧ HR e' h' w' ∧ VR e' v v' ∧ s.run P w = .ok v' w'
theorem Fin.same {s : Sem Value} {v : V} {v' : Value} (hr : HR e h w) (hv : VR e v v') (hrun : s.run P w = .ok v' w) : Fin P e h w s v h :=
  ⟨e, w, v', .refl e h w, hr, hv, hrun⟩

theorem loadCells_zero (ad : Addr) (w : World) : (loadCells ad 0).run P w = .ok #[] w := by
  have := run_loadCells_list (P := P) w ad [] (fun j v hv => by simp at hv)
  exact this

theorem src_at (hr : HR e h w) {sz b off m : Nat} {q : Nat × List C} (h1 : srcAt h sz b off m = some q) {c : Nat} (hc : e.ρ b = some c) :
    q.1 = m ∧ q.2.length = m * sz ∧ ∃ xs : List Value, All2 (CR e) q.2 xs ∧ ∀ k, (loadCells ⟨c, off, none⟩ (m * sz)).run P { w with drawn := k } = .ok xs.toArray { w with drawn := k } := by
  obtain ⟨l, hl, h2⟩ := optB_eq (show optB (rdA h b off (m * sz)) none (fun l => some (m, l)) = some q from h1)
  cases h2
  obtain ⟨k2, xs, hx, hxl, hcell, _⟩ := run_rdA (P := P) hr hl hc
  refine ⟨rfl, k2, xs, hx, fun k => ?_⟩
  have := run_loadCells_list (P := P) { w with drawn := k } ⟨c, off, none⟩ xs hcell
  rw [hxl] at this
  exact this

theorem src_val (hr : HR e h w) {sz : Nat} {x : V} {x' : Value} (hx : VR e x x') {q : Nat × List C} (h1 : srcCells h sz x = some q) :
    Builtin.lenOf x' = pure q.1 ∧ q.2.length = q.1 * sz ∧ ∃ xs : List Value, All2 (CR e) q.2 xs ∧ ∀ k, (Builtin.firstCells sz q.1 x').run P { w with drawn := k } = .ok xs.toArray { w with drawn := k } := by
  unfold srcCells at h1
  rcases vSl_eq h1 with ⟨rfl, h2⟩ | ⟨b, off, n, s, c, rfl, h2⟩
  · cases h2
    have : x' = .slice none 0 0 := hx
    subst this
    exact ⟨rfl, by simp, [], .nil, fun k => by simp [Builtin.firstCells]⟩
  · cases n with
    | zero =>
      have h3 : some ((0 : Nat), ([] : List C)) = some q := h2
      cases h3
      obtain ⟨ad, cap, rfl⟩ : ∃ ad cap, x' = .slice (some ad) 0 cap := by
        cases c with
        | some c => obtain ⟨cb, sp, _, h4, _⟩ := hx; exact ⟨_, _, h4⟩
        | none => obtain ⟨cb, off', cap, _, h4, _⟩ := hx; exact ⟨_, _, h4⟩
      refine ⟨rfl, by simp, [], .nil, fun k => ?_⟩
      simp only [Builtin.firstCells, Nat.zero_mul]
      exact loadCells_zero _ _
    | succ n =>
      have h2 : srcAt h sz b off (n + 1) = some q := h2
      cases c with
      | some c =>
        have hnc : n + 1 ≤ c := by obtain ⟨_, _, _, _, h3, _⟩ := hx; exact h3
        obtain ⟨cb, hc, rfl, _⟩ := CR.sl_pos (s := s) (v := x') hx (by omega)
        obtain ⟨k1, k2, xs, k3, k4⟩ := src_at (P := P) hr h2 hc
        rw [k1]
        exact ⟨rfl, k2, xs, k3, k4⟩
      | none =>
        obtain ⟨cb, off', cap, hc, rfl, _, _, hoff, _, _⟩ : SlR e b off (n + 1) s x' := hx
        obtain ⟨k1, k2, xs, k3, k4⟩ := src_at (P := P) hr h2 hc
        rw [k1]
        have h0 := hoff.resolve_left (by omega)
        subst h0
        exact ⟨rfl, k2, xs, k3, k4⟩

section model
variable {tys : Array TypeId} {args : Array Value} {t t2 el el2 ty : TypeId} {base : Option Addr} {n m cap : Nat} {x' : Value} {i : TypeInfo} {xs : List Value}
theorem run_append_in (h0 : tys[0]? = some t) (h1 : tys[1]? = some t2) (h2 : P.underlying t = some (.slice el)) (h3 : P.underlying t2 = some (.slice el2)) (a0 : args[0]? = some (.slice base n cap)) (a1 : args[1]? = some x')
    (hi : P.info? el = some i) (hl : Builtin.lenOf x' = pure m) (hf : (Builtin.firstCells i.size m x').run P w = .ok xs.toArray w) (hroom : n + m ≤ cap)
    {w' : World} (hst : (Option.elim base (pure ()) (fun ad => storeCells (ad.add (n * i.size)) xs) : Sem Unit).run P w = .ok () w') :
    (Builtin.append_ tys ty args).run P w = .ok (.slice base (n + m) cap) w' := by
  cases base with
  | none =>
    have : w' = w := by simp at hst; exact hst.symm
    subst this
    simp [Builtin.append_, h0, h1, a0, a1, run_underlying h2, run_underlying h3, sizeOf, typeInfo, hi, hl, hroom, hf]
  | some ad =>
    have hst' : (storeCells (ad.add (n * i.size)) xs).run P w = .ok () w' := hst
    simp [Builtin.append_, h0, h1, a0, a1, run_underlying h2, run_underlying h3, sizeOf, typeInfo, hi, hl, hroom, hf, hst']

theorem run_append_out {z : Value} (h0 : tys[0]? = some t) (h1 : tys[1]? = some t2) (h2 : P.underlying t = some (.slice el)) (h3 : P.underlying t2 = some (.slice el2)) (a0 : args[0]? = some (.slice base n cap)) (a1 : args[1]? = some x')
    (hi : P.info? el = some i) (hz : i.zero = some z) (hl : Builtin.lenOf x' = pure m) {old : List Value} (hf : (Builtin.firstCells i.size m x').run P w.drew = .ok xs.toArray w.drew)
    (ho : (Builtin.firstCells i.size n (.slice base n cap)).run P w.drew = .ok old.toArray w.drew) (hg : cap < n + m) (h63 : n + m ≤ maxLen) (hfit : Builtin.nextslicecap (n + m) cap * i.bytes ≤ 281474976710656) :
    (Builtin.append_ tys ty args).run P w = .ok (.slice (some ⟨w.heap.size, 0, none⟩) (n + m) (grownCap w (n + m) cap el))
        (w.drew.alloc (.cells (old.toArray ++ xs.toArray ++ Builtin.zeroCells z.cells (grownCap w (n + m) cap el - (n + m))) el)) := by
  have hn : ¬ (n + m ≤ cap) := by omega
  have h63' : ¬ (9223372036854775807 < ((n : Int) + (m : Int))) := by unfold maxLen at h63; omega
  have h48' : ¬ (281474976710656 < Builtin.nextslicecap (n + m) cap * i.bytes) := by omega
  simp [Builtin.append_, h0, h1, a0, a1, run_underlying h2, run_underlying h3, sizeOf, typeInfo, zeroValue, hi, hz, hl, hn, h63', h48', Question.forced, hf, ho, newRow, grownCap]
  congr 2
  apply Array.ext'
  simp [List.append_assoc]
end model

theorem growOk_eq {el : TypeId} (hg : growOk P el = true) : ∃ i z zv, P.info? el = some i ∧ i.zero = some zv ∧ i.size = P.cellsOf el ∧ i.bytes = P.bytesOf el ∧ 1 ≤ i.size ∧ 1 ≤ i.bytes ∧ i.bytes ≤ 1048576 ∧ (∀ e, VR e z zv) ∧ zv.cells.size = i.size := by
  unfold growOk at hg
  simp only [Bool.and_eq_true] at hg
  obtain ⟨⟨⟨⟨h1, h2⟩, h3⟩, h4⟩, h5⟩ := hg
  obtain ⟨i, hi, hsz⟩ := info_size h1
  cases hz : zeroV P el with
  | none => rw [hz] at h5; cases h5
  | some z =>
    rw [hz] at h5
    obtain ⟨i', zv, hi', hzv, hall⟩ := zeroV_info hz
    rw [hi] at hi'; cases hi'
    have hby : i.bytes = P.bytesOf el := by unfold Program.bytesOf; rw [hi]; rfl
    refine ⟨i, z, zv, hi, hzv, hsz, hby, by rw [hsz]; exact Nat.le_of_ble_eq_true h2, by rw [hby]; exact Nat.le_of_ble_eq_true h3, by rw [hby]; exact Nat.le_of_ble_eq_true h4, hall, ?_⟩
    have h6 := Nat.eq_of_beq_eq_true h5
    have h7 := (hall (⟨fun _ => none, fun _ => 0, fun _ => 0, #[]⟩ : Env)).size (fun l hl => zeroV_noTup (by rw [hz, hl]))
    omega

/-- a new row with room behind -/
theorem grown_fin {el : TypeId} {i : TypeInfo} {zv : Value} (hzs : zv.cells.size = i.size) {h0 : H} (hr : HR e h0 w) (hst : Step e h w e h0 w) {n cap' : Nat} {cs : List C} {xs : List Value} (hx : All2 (CR e) cs xs) (hl : cs.length = n * i.size)
    (hge : n ≤ cap') (hcm : cap' ≤ maxLen) {s : Sem Value} {ys : Array Value} (hys : ys.toList = xs)
    (hrun : s.run P w = .ok (.slice (some ⟨w.heap.size, 0, none⟩) n cap') (w.drew.alloc (.cells (ys ++ Builtin.zeroCells zv.cells (cap' - n)) el))) :
    Fin P e h w s (.c (.sl h0.nxt 0 n i.size none)) (hNew h0 (.cells (n * i.size) cs true)) := by
  have hle := Env.put_le (hr.fresh h0.nxt (Nat.le_refl _)) w.heap.size (cap' * i.size) 0
  have hsize : (ys ++ Builtin.zeroCells zv.cells (cap' - n)).size = cap' * i.size := by
    rw [Array.size_append, size_zeroCells, hzs]
    have : ys.size = n * i.size := by rw [← Array.length_toList, hys, ← hx.length, hl]
    rw [this, ← Nat.add_mul]; congr 1; omega
  have hor : OR (e.put h0.nxt w.heap.size (cap' * i.size) 0) h0.nxt (.cells (n * i.size) cs true) (.cells (ys ++ Builtin.zeroCells zv.cells (cap' - n)) el) := by
    refine ⟨_, el, rfl, ?_, hl, ?_, ?_, fun hh => by cases hh⟩
    · rw [Array.toList_append, hys, List.take_append_of_le_length (by rw [hx.length]; exact Nat.le_refl _), hx.length, List.take_length]
      exact hx.mono fun _ _ => CR.mono hle
    · rw [Env.put_sz]; exact hsize
    · rw [hsize]; exact Nat.mul_le_mul_right _ hge
  obtain ⟨a1, a2⟩ := (hr.drawn (w.drawn + 1)).new (cap' * i.size) 0 hor
  refine ⟨_, _, _, (hst.trans (Step.drawn (w.drawn + 1))).trans a2, a1, ?_, hrun⟩
  exact ⟨w.heap.size, 0, cap', Env.put_self _ _ _ _ _, rfl, hge, hcm, .inr rfl, by rw [Env.put_sz]; omega, fun _ => ⟨rfl, by rw [Env.put_sz]⟩⟩

theorem grownR_eq {n sz : Nat} {cs : List C} {r : R} (hh : grown h n sz cs = some r) : r = .val (.c (.sl h.nxt 0 n sz none)) (hNew h (.cells (n * sz) cs true)) := by
  cases hh; rfl

theorem fits48 {need cap bytes : Nat} (hg : cap < need) (hn : need * bytes ≤ 140737488355328) : Builtin.nextslicecap need cap * bytes ≤ 281474976710656 := growslice_fits hg hn
theorem need47 {need bytes : Nat} (h : need * bytes ≤ 140737488355328) (hb : 1 ≤ bytes) : need ≤ 140737488355328 := Nat.le_trans (Nat.le_mul_of_pos_right need hb) h

theorem all2_one {l : List C} {r : List Value} (hx : All2 (CR e) l r) : ∀ v ∈ r, v.oneCell' = true := by
  induction hx with
  | nil => intro v hv; cases hv
  | cons h1 _ ih =>
    intro v hv
    cases hv with
    | head => exact h1.single
    | tail _ hm => exact ih v hm

/-- a block under a new number -/
theorem HR.moved (hr : HR e h w) {b : Nat} {o0 : AO} {c : Nat} (hb : get5 h.t b = some o0) (hc : e.ρ b = some c) {ao : AO} {co : Obj} (s t : Nat) (ho : OR (e.put h.nxt c s t) h.nxt ao co) (hl : ∀ r : Loop, w.heap[c]? ≠ some (Obj.loop r)) :
    HR (e.put h.nxt c s t) (hNew (hDel h b) ao) (w.putObj c co) ∧ Step e h w (e.put h.nxt c s t) (hNew (hDel h b) ao) (w.putObj c co) := by
  have hn := hr.fresh h.nxt (Nat.le_refl _)
  have hle := Env.put_le hn c s t
  have hlt := hr.lt hb hc
  have hother : ∀ k, k ≠ h.nxt → (e.put h.nxt c s t).ρ k = e.ρ k := fun k hk => by simp [Env.put, hk]
  have hget : ∀ {k o'}, get5 (hNew (hDel h b) ao).t k = some o' → (k = h.nxt ∧ o' = ao) ∨ (k ≠ h.nxt ∧ k ≠ b ∧ get5 h.t k = some o') := fun {k o'} hk => by
    rcases get5_set5 hk with ⟨h1, h2⟩ | ⟨h1, h2⟩
    · exact .inl ⟨h1, h2⟩
    · obtain ⟨h3, h4⟩ := get5_del5 h2
      exact .inr ⟨h1, h3, h4⟩
  have hapart : ∀ {k o' x}, k ≠ b → get5 h.t k = some o' → e.ρ k = some x → x ≠ c := fun {k o' x} hk hg hx hxc => hk (hr.inj k b o' o0 c hg hb (by rw [← hxc]; exact hx) hc)
  have hvw : Vws (e.put h.nxt c s t) (hNew (hDel h b) ao) (w.putObj c co) := hr.vws.to hle (by simp [World.putObj]) (fun x hx => World.putObj_heap_other fun hcc => by
      have := hr.vws.own b o0 c hb hc; omega) (fun k o' x hk hx => by
    rcases hget hk with ⟨rfl, rfl⟩ | ⟨p1, p2, p3⟩
    · rw [Env.put_self] at hx; cases hx; exact hr.vws.own b o0 _ hb hc
    · rw [hother k p1] at hx; exact hr.vws.own k o' x p3 hx) (fun _ _ h => h)
  refine ⟨⟨fun k hk => ?_, fun k o' hk => ?_, fun k k' o1 o2 x h1 h2 h3 h4 => ?_, hvw⟩, ⟨hle, Nat.le_succ _, by simp [World.putObj], rfl, rfl, rfl, fun x hx hne => ?_, fun k o' x hk hx => ?_, fun x r hx => ?_, fun k hk => hother k (by omega)⟩⟩
  · have hk' : h.nxt + 1 ≤ k := hk
    rw [hother k (by omega)]
    exact hr.fresh k (by omega)
  · rcases hget hk with ⟨rfl, rfl⟩ | ⟨h1, h2, h3⟩
    · exact ⟨c, Env.put_self _ _ _ _ _, co, World.putObj_heap_same hlt, ho⟩
    · obtain ⟨cb, h4, co', h5, h6⟩ := hr.live k o' h3
      exact ⟨cb, hle.ρ _ _ h4, co', by rw [World.putObj_heap_other (hapart h2 h3 h4)]; exact h5, OR.mono hle h4 h6⟩
  · rcases hget h1 with ⟨rfl, rfl⟩ | ⟨p1, p2, p3⟩ <;> rcases hget h2 with ⟨rfl, rfl⟩ | ⟨q1, q2, q3⟩
    · rfl
    · rw [Env.put_self] at h3; cases h3
      rw [hother k' q1] at h4
      exact absurd rfl (hapart q2 q3 h4)
    · rw [Env.put_self] at h4; cases h4
      rw [hother k p1] at h3
      exact absurd rfl (hapart p2 p3 h3)
    · rw [hother k p1] at h3; rw [hother k' q1] at h4
      exact hr.inj k k' o1 o2 x p3 q3 h3 h4
  · exact World.putObj_heap_other (fun (hcc : x = c) => hne b o0 hb (by rw [hcc]; exact hc))
  · rcases hget hk with ⟨rfl, rfl⟩ | ⟨p1, p2, p3⟩
    · rw [Env.put_self] at hx; cases hx; exact .inr ⟨b, o0, hb, hc⟩
    · rw [hother k p1] at hx; exact .inr ⟨k, o', p3, hx⟩
  · have hxc : x ≠ c := fun hxc => hl r (by rw [← hxc]; exact hx)
    exact ⟨r, by rw [World.putObj_heap_other hxc]; exact hx⟩

theorem fin_append {tys : Array TypeId} {args : Array Value} {t t2 el2 ty : TypeId} {s x : V} {s' x' : Value} (h0 : tys[0]? = some t) (h1 : tys[1]? = some t2) (h3 : P.underlying t2 = some (.slice el2))
    (a0 : args[0]? = some s') (a1 : args[1]? = some x') (hr : HR e h w) (hs : VR e s s') (hx : VR e x x') {r : R} (hh : appendV P h t s x = some r) :
    ∃ v h', r = .val v h' ∧ Fin P e h w (Builtin.append_ tys ty args) v h' := by
  unfold appendV at hh
  obtain ⟨el, htk, h4⟩ := onSlT_eq hh
  have h2 := tk_sl htk
  obtain ⟨hgo, h5⟩ := ifB_eq h4
  obtain ⟨i, z, zv, hi, hzv, hsz, hby, hs1, hb1, hb2, hzr, hzs⟩ := growOk_eq hgo
  obtain ⟨q, hq, h6⟩ := optB_eq h5
  obtain ⟨hqm, h7⟩ := ifB_eq h6
  have hqb : q.1 * i.bytes ≤ 140737488355328 := by rw [hby]; exact Nat.le_of_ble_eq_true hqm
  have hqm' := need47 hqb hb1
  rw [← hsz] at hq
  obtain ⟨hlen, hnl, xs, hxs, hfc⟩ := src_val (P := P) hr hx hq
  have hxl : xs.length = q.1 * i.size := by rw [← hxs.length, hnl]
  have hfc0 : (Builtin.firstCells i.size q.1 x').run P w = .ok xs.toArray w := hfc w.drawn
  have hfc1 : (Builtin.firstCells i.size q.1 x').run P w.drew = .ok xs.toArray w.drew := hfc (w.drawn + 1)
  -- nothing is appended
  have hzero : ∀ {base : Option Addr} {n cap : Nat}, s' = .slice base n cap → n ≤ cap → q.1 = 0 → (Builtin.append_ tys ty args).run P w = .ok s' w := by
    intro base n cap hse hnc hq0
    subst hse
    rw [hq0] at hlen hfc0 hxl
    have hx0 : xs = [] := List.eq_nil_of_length_eq_zero (by simpa using hxl)
    subst hx0
    rw [run_append_in h0 h1 h2 h3 a0 a1 hi hlen hfc0 (by omega) (w' := w) (by cases base <;> rfl)]
    rfl
  unfold appendR at h7
  cases hm : q.1 with
  | zero =>
    rw [hm] at h7
    rcases vSl_eq (show vSl s none _ _ = some r from h7) with ⟨rfl, h8⟩ | ⟨b, off, n, sz, c, rfl, h8⟩
    · cases h8
      have : s' = .slice none 0 0 := hs
      subst this
      exact ⟨_, _, rfl, .same hr rfl (hzero rfl (Nat.le_refl _) hm)⟩
    · cases h8
      cases c with
      | some c =>
        obtain ⟨cb, sp, hc, rfl, hnc, hcm, hsp⟩ : ∃ cb sp, e.ρ b = some cb ∧ s' = .slice (some ⟨cb, off, sp⟩) n c ∧ n ≤ c ∧ c ≤ maxLen ∧ (sp = none ∨ c = 0) := hs
        exact ⟨_, _, rfl, .same hr ⟨cb, sp, hc, rfl, hnc, hcm, hsp⟩ (hzero rfl hnc hm)⟩
      | none =>
        have hs0 : SlR e b off n sz s' := hs
        obtain ⟨cb, off', cap, hc, rfl, hnc, hcm, hoff, hfit, hst⟩ := hs
        exact ⟨_, _, rfl, .same hr hs0 (hzero rfl hnc hm)⟩
  | succ m' =>
    have hmp : 0 < q.1 := by omega
    rw [hm] at h7
    have h7' : vSl s none (grown h (m' + 1) (P.cellsOf el) q.2) _ = some r := h7
    rw [← hm] at h7'
    clear h7
    rcases vSl_eq h7' with ⟨rfl, h8⟩ | ⟨b, off, n, sz, c, rfl, h8⟩
    · -- nil
      have : s' = .slice none 0 0 := hs
      subst this
      have := grownR_eq h8
      subst this
      have hrun := run_append_out (ty := ty) (z := zv) (old := []) h0 h1 h2 h3 a0 a1 hi hzv hlen hfc1 (by simp [Builtin.firstCells]) (by omega) (by unfold maxLen; omega) (fits48 (by omega) (by rw [Nat.zero_add]; exact hqb))
      refine ⟨_, _, rfl, ?_⟩
      rw [← hsz]
      refine grown_fin (el := el) (h0 := h) (zv := zv) (cap' := grownCap w (0 + q.1) 0 el) hzs hr (.refl _ _ _) hxs hnl (by have := grownCap_ge w (0 + q.1) 0 el; omega) (grownCap_le_maxLen w _ _ _ (by unfold maxLen; omega)) (ys := #[] ++ xs.toArray) (by simp) ?_
      rw [hrun]
      simp only [Nat.zero_add]
    · obtain ⟨hnm, h9⟩ := ifB_eq h8
      have hnb : (n + q.1) * i.bytes ≤ 140737488355328 := by rw [hby]; exact Nat.le_of_ble_eq_true hnm
      have hnm' := need47 hnb hb1
      obtain ⟨bn, vs, opn, hb, h10⟩ := onCells_eq h9
      cases c with
      | some c =>
        obtain ⟨cb, sp, hc, rfl, hnc, hcm, hsp⟩ : ∃ cb sp, e.ρ b = some cb ∧ s' = .slice (some ⟨cb, off, sp⟩) n c ∧ n ≤ c ∧ c ≤ maxLen ∧ (sp = none ∨ c = 0) := hs
        obtain ⟨cur, tt, hcur, hall, hvl, hcsz, hbn, hop⟩ := hr.cells hb hc
        have h11 : ifB (Nat.ble (n + q.1) c) _ _ = some r := h10
        cases hroom : Nat.ble (n + q.1) c with
        | true =>
          have hroom' := Nat.le_of_ble_eq_true hroom
          have := hsp.resolve_right (by omega)
          subst this
          rw [hroom, ifB_true] at h11
          obtain ⟨vs', hvs, h12⟩ := optB_eq h11
          cases h12
          obtain ⟨q1, q2⟩ := splice_eq _ _ _ _ hvs
          rw [show Nat.add off (Nat.mul n (P.cellsOf el)) = off + n * P.cellsOf el from rfl, ← hsz] at q1 q2
          obtain ⟨w', hst, hr', hstep⟩ := run_write (P := P) hr hb hc hxs q1 q2
          refine ⟨_, _, rfl, e, w', _, hstep, hr', ⟨cb, none, hc, rfl, hroom', hcm, .inl rfl⟩, ?_⟩
          exact run_append_in h0 h1 h2 h3 a0 a1 hi hlen hfc0 hroom' (by rw [← addr_add] at hst; exact hst)
        | false =>
          have hroom' : c < n + q.1 := by
            rcases Nat.lt_or_ge c (n + q.1) with hq | hq
            · exact hq
            · rw [Nat.ble_eq_true_of_le hq] at hroom; cases hroom
          rw [hroom, ifB_false] at h11
          obtain ⟨old, hold, h12⟩ := optB_eq h11
          have := grownR_eq h12
          subst this
          rw [← hsz] at hold ⊢
          obtain ⟨q1, q2⟩ := seg_eq hold
          obtain ⟨os, hos, hosl, hcell, _⟩ := run_segment (P := P) hr hb hc q1 q2
          have hfo : (Builtin.firstCells i.size n (.slice (some ⟨cb, off, sp⟩) n c)).run P w.drew = .ok os.toArray w.drew := run_firstCells_some w.drew i.size n _ n c os hosl (by
            rcases hsp with hsp | hsp
            · subst hsp; exact hcell
            · have hn0 : n = 0 := by omega
              subst hn0
              have : os = [] := List.eq_nil_of_length_eq_zero (by rw [hosl]; exact Nat.zero_mul _)
              subst this
              intro j v hv; simp at hv)
          have hrun := run_append_out (ty := ty) (z := zv) h0 h1 h2 h3 a0 a1 hi hzv hlen hfc1 hfo hroom' (by unfold maxLen; omega) (fits48 hroom' hnb)
          refine ⟨_, _, rfl, ?_⟩
          rw [appS_eq]
          refine grown_fin (h0 := h) (zv := zv) (n := n + q.1) (cap' := grownCap w (n + q.1) c el) hzs hr (.refl _ _ _) (hos.app hxs) (by rw [List.length_append, hos.length, hosl, hnl, Nat.add_mul]; rfl) (grownCap_ge w _ _ _) (grownCap_le_maxLen w _ _ _ (by unfold maxLen; omega)) (ys := os.toArray ++ xs.toArray) (by simp) hrun
      | none =>
        obtain ⟨cb, off', cap, hc, rfl, hnc, hcm, hoff, hfit, hst⟩ : SlR e b off n sz s' := hs
        obtain ⟨hsz2, h11⟩ := ifB_eq (show ifB (Nat.beq sz (P.cellsOf el)) _ none = some r from h10)
        obtain ⟨ho0, h12⟩ := ifB_eq h11
        have e1 : sz = i.size := by rw [hsz]; exact Nat.eq_of_beq_eq_true hsz2
        have e2 := Nat.eq_of_beq_eq_true ho0
        subst e1; subst e2
        obtain ⟨e3, hcapsz⟩ := hst rfl
        subst e3
        obtain ⟨cur, tt, hcur, hall, hvl, hcsz, hbn, hop⟩ := hr.cells hb hc
        have hmul : n * i.size + q.1 * i.size = (n + q.1) * i.size := (Nat.add_mul _ _ _).symm
        cases hsp : splice (n * i.size) q.2 vs with
        | some vs' =>
          rw [show Nat.mul n i.size = n * i.size from rfl, hsp] at h12
          have h13 : some (R.val (.c (.sl b 0 (n + q.1) i.size none)) (hSet h b (.cells bn vs' opn))) = some r := h12
          cases h13
          obtain ⟨q1, q2⟩ := splice_eq _ _ _ _ hsp
          have hroom : n + q.1 ≤ cap := by
            have hle : (n + q.1) * i.size ≤ cap * i.size := by omega
            exact Nat.le_of_mul_le_mul_right hle hs1
          obtain ⟨w', hst, hr', hstep⟩ := run_write (P := P) hr hb hc hxs q1 q2
          refine ⟨_, _, rfl, e, w', _, hstep, hr', ⟨cb, 0, cap, hc, rfl, hroom, hcm, .inr rfl, hfit, fun _ => ⟨rfl, hcapsz⟩⟩, ?_⟩
          exact run_append_in h0 h1 h2 h3 a0 a1 hi hlen hfc0 hroom (by
            show (storeCells ((⟨cb, 0, none⟩ : Addr).add (n * i.size)) xs).run P w = _
            rw [addr_add, Nat.zero_add]; exact hst)
        | none =>
          rw [show Nat.mul n i.size = n * i.size from rfl, hsp] at h12
          have h13 : optB (takeS (n * i.size) vs) none (fun old => grown (hDel h b) (n + q.1) i.size (appS old q.2)) = some r := h12
          obtain ⟨old, hold, h14⟩ := optB_eq h13
          have := grownR_eq h14
          subst this
          obtain ⟨q1, q2⟩ := takeS_eq _ _ _ hold
          refine ⟨_, _, rfl, ?_⟩
          rw [appS_eq]
          obtain ⟨os, hos, hosl, hcell, _⟩ := run_segment (P := P) hr hb hc (o := 0) (m := n * i.size) (l := old) (by omega) (by rw [q2, List.drop_zero])
          by_cases hroom : n + q.1 ≤ cap
          · have hfits : n * i.size + xs.length ≤ cur.size := by
              rw [hxl, hmul, hcsz, ← hcapsz]; exact Nat.mul_le_mul_right _ hroom
            have hrun := run_storeCells_at (P := P) cb (n * i.size) tt xs 0 cur w hcur (by omega) (all2_one hxs)
            simp only [Nat.add_zero] at hrun
            rw [setRow_putObj hcur] at hrun
            have hle := Env.put_le (hr.fresh h.nxt (Nat.le_refl _)) cb (e.sz b) 0
            have hcl : (old ++ q.2).length = (n + q.1) * i.size := by rw [List.length_append, hos.length, hosl, hnl, hmul]
            have hor : OR (e.put h.nxt cb (e.sz b) 0) h.nxt (.cells ((n + q.1) * i.size) (old ++ q.2) true) (.cells (cur.toList.take (n * i.size) ++ xs ++ cur.toList.drop (n * i.size + xs.length)).toArray tt (0, 0)) := by
              refine ⟨_, tt, rfl, ?_, hcl, ?_, ?_, fun hh => by cases hh⟩
              · show All2 _ _ ((cur.toList.take (n * i.size) ++ xs ++ cur.toList.drop (n * i.size + xs.length)).take (old ++ q.2).length)
                have hpre : (cur.toList.take (n * i.size) ++ xs).length = (old ++ q.2).length := by
                  rw [hcl, List.length_append, List.length_take, Array.length_toList, hxl]; omega
                rw [List.take_append_of_le_length (by omega), ← hpre, List.take_length]
                have h15 : All2 (CR e) old (cur.toList.take (n * i.size)) := by
                  have := hall.take (n * i.size)
                  rw [List.take_take, Nat.min_eq_left (by omega), ← q2] at this
                  exact this
                exact (h15.app hxs).mono fun _ _ => CR.mono hle
              · rw [Env.put_sz]; simp; omega
              · simp; omega
            obtain ⟨b1, b2⟩ := hr.moved hb hc (e.sz b) 0 hor (fun r hx => by rw [hcur] at hx; cases hx)
            refine ⟨_, _, _, b2, b1, ⟨cb, 0, cap, Env.put_self _ _ _ _ _, rfl, hroom, hcm, .inr rfl, by show 0 + cap * i.size ≤ (e.put h.nxt cb (e.sz b) 0).sz h.nxt; rw [Env.put_sz]; exact hfit, fun _ => ⟨rfl, by show cap * i.size = (e.put h.nxt cb (e.sz b) 0).sz h.nxt; rw [Env.put_sz]; exact hcapsz⟩⟩, ?_⟩
            exact run_append_in h0 h1 h2 h3 a0 a1 hi hlen hfc0 hroom (by
              show (storeCells ((⟨cb, 0, none⟩ : Addr).add (n * i.size)) xs).run P w = _
              rw [addr_add, Nat.zero_add]; exact hrun)
          · have hroom' : cap < n + q.1 := by omega
            have hfo : (Builtin.firstCells i.size n (.slice (some ⟨cb, 0, none⟩) n cap)).run P w.drew = .ok os.toArray w.drew := run_firstCells_some w.drew i.size n _ n cap os hosl hcell
            have hrun := run_append_out (ty := ty) (z := zv) h0 h1 h2 h3 a0 a1 hi hzv hlen hfc1 hfo hroom' (by unfold maxLen; omega) (fits48 hroom' hnb)
            obtain ⟨d1, d2⟩ := hr.del b
            exact grown_fin (h := h) (h0 := hDel h b) (zv := zv) (n := n + q.1) (cap' := grownCap w (n + q.1) cap el) hzs d1 d2 (hos.app hxs) (by rw [List.length_append, hos.length, hosl, hnl, Nat.add_mul]) (grownCap_ge w _ _ _) (grownCap_le_maxLen w _ _ _ (by unfold maxLen; omega)) (ys := os.toArray ++ xs.toArray) (by simp) hrun

end
end Go.Abs

namespace Go.Abs
noncomputable section
variable {P : Program} {e : Env} {tm : S3 V} {h : H} {w : World} {a : Act} {o : Oper}

theorem VR.slice {x : V} {x' : Value} (hx : VR e x x') {b off n s : Nat} {c : Option Nat} (he : x = .c (.sl b off n s c)) :
    ∃ cb off' sp cap, e.ρ b = some cb ∧ x' = .slice (some ⟨cb, off', sp⟩) n cap ∧ (n = 0 ∨ (off' = off ∧ sp = none)) := by
  subst he
  cases c with
  | some c => obtain ⟨cb, sp, hc, hx, hn, _, hsp⟩ := hx; exact ⟨cb, off, sp, c, hc, hx, hsp.elim (fun h => .inr ⟨rfl, h⟩) fun h => .inl (by omega)⟩
  | none => obtain ⟨cb, off', cap, hc, hx, _, _, hoff, _, _⟩ := hx; exact ⟨cb, off', none, cap, hc, hx, hoff.elim .inl fun h => .inr ⟨h, rfl⟩⟩

theorem run_copy {tys : Array TypeId} {args : Array Value} {t el ty : TypeId} {base : Option Addr} {n cap m : Nat} {x' : Value} (h0 : tys[0]? = some t) (h2 : P.underlying t = some (.slice el)) (a0 : args[0]? = some (.slice base n cap)) (a1 : args[1]? = some x')
    (hk : knownT P el = true) (hl : Builtin.lenOf x' = pure m) {xs : List Value} (hf : (Builtin.firstCells (P.cellsOf el) (Nat.min m n) x').run P w = .ok xs.toArray w)
    {w' : World} (hst : (Option.elim base (pure ()) (fun ad => storeCells ad xs) : Sem Unit).run P w = .ok () w') :
    (Builtin.copy_ tys ty args).run P w = .ok (goInt (Nat.min m n)) w' := by
  cases base with
  | none =>
    have : w' = w := by simp at hst; exact hst.symm
    subst this
    simp [Builtin.copy_, h0, a0, a1, run_underlying h2, run_sizeOf' hk, hl, hf]
  | some ad =>
    have hst' : (storeCells ad xs).run P w = .ok () w' := hst
    simp [Builtin.copy_, h0, a0, a1, run_underlying h2, run_sizeOf' hk, hl, hf, hst']

theorem run_copy_zero {tys : Array TypeId} {args : Array Value} {t el ty : TypeId} {base : Option Addr} {n cap m : Nat} {x' : Value} (h0 : tys[0]? = some t) (h2 : P.underlying t = some (.slice el)) (a0 : args[0]? = some (.slice base n cap)) (a1 : args[1]? = some x')
    (hk : knownT P el = true) (hl : Builtin.lenOf x' = pure m) (hx : ∃ b n c, x' = .slice b n c) (hz : Nat.min m n = 0) : (Builtin.copy_ tys ty args).run P w = .ok (goInt 0) w := by
  have := run_copy (P := P) (w := w) (ty := ty) (xs := []) (w' := w) h0 h2 a0 a1 hk hl (by
    rw [hz]
    obtain ⟨b, k, c, rfl⟩ := hx
    cases b with
    | none => simp [Builtin.firstCells]
    | some ad => simp only [Builtin.firstCells, Nat.zero_mul]; exact loadCells_zero _ _) (by cases base <;> rfl)
  rw [hz] at this
  exact this

theorem fin_copy {tys : Array TypeId} {args : Array Value} {t ty : TypeId} {s x : V} {s' x' : Value} (h0 : tys[0]? = some t)
    (a0 : args[0]? = some s') (a1 : args[1]? = some x') (hr : HR e h w) (hs : VR e s s') (hx : VR e x x') {r : R} (hh : copyV P h t s x = some r) :
    ∃ v h', r = .val v h' ∧ Fin P e h w (Builtin.copy_ tys ty args) v h' := by
  unfold copyV at hh
  obtain ⟨el, htk, h4⟩ := onSlT_eq hh
  have h2 := tk_sl htk
  obtain ⟨hk, h4⟩ := ifB_eq h4
  rcases vSl_eq h4 with ⟨rfl, h5⟩ | ⟨db, dd, dn, dz, dc, rfl, h5⟩
  · -- nothing to copy to
    have : s' = .slice none 0 0 := hs
    subst this
    obtain ⟨x0, hx0, h6⟩ := optB_eq h5
    cases h6
    rcases vSl_eq hx0 with ⟨rfl, h7⟩ | ⟨b, off, n, q, c, rfl, h7⟩
    · have : x' = .slice none 0 0 := hx
      subst this
      cases h7
      exact ⟨_, _, rfl, .same hr rfl (run_copy_zero h0 h2 a0 a1 hk (m := 0) rfl ⟨_, _, _, rfl⟩ (Nat.min_zero _))⟩
    · obtain ⟨scb, soff, ssp, scap, hsc, rfl, hsoff⟩ := hx.slice rfl
      cases h7
      exact ⟨_, _, rfl, .same hr rfl (run_copy_zero h0 h2 a0 a1 hk (m := n) rfl ⟨_, _, _, rfl⟩ (Nat.min_zero _))⟩
  · obtain ⟨dcb, doff, dsp, dcap, hdc, rfl, hdoff⟩ := hs.slice rfl
    rcases vSl_eq h5 with ⟨rfl, h6⟩ | ⟨b, off, n, q, c, rfl, h6⟩
    · cases h6
      have : x' = .slice none 0 0 := hx
      subst this
      exact ⟨_, _, rfl, .same hr rfl (run_copy_zero h0 h2 a0 a1 hk (m := 0) rfl ⟨_, _, _, rfl⟩ (Nat.zero_min _))⟩
    · obtain ⟨scb, soff, ssp, scap, hsc, rfl, hsoff⟩ := hx.slice rfl
      have hl : Builtin.lenOf (.slice (some ⟨scb, soff, ssp⟩) n scap) = pure n := rfl
      obtain ⟨p, hp, h7⟩ := optB_eq h6
      obtain ⟨h', hh', h8⟩ := optB_eq h7
      cases h8
      have hmin : ifB (Nat.ble n dn) n dn = Nat.min n dn := by
        show _ = min n dn
        cases hb : Nat.ble n dn with
        | true => have := Nat.le_of_ble_eq_true hb; show n = _; omega
        | false =>
          have : dn < n := by
            rcases Nat.lt_or_ge dn n with hq | hq
            · exact hq
            · rw [Nat.ble_eq_true_of_le hq] at hb; cases hb
          show dn = _; omega
      rw [hmin] at hp
      obtain ⟨k1, k2, xs, k3, k4⟩ := src_at (P := P) hr hp hsc
      rw [k1] at hh' ⊢
      obtain ⟨w', hst, hr', hstep⟩ := ok_storeL (P := P) hr hh' k2 k3 hdc
      by_cases h00 : Nat.min n dn = 0
      · have hp2 : p.2 = [] := List.eq_nil_of_length_eq_zero (by rw [k2, h00, Nat.zero_mul])
        have hxs : xs = [] := by rw [hp2] at k3; cases k3; rfl
        subst hxs
        have hww : w' = w := by
          have : (storeCells ⟨dcb, dd, none⟩ []).run P w = .ok () w := rfl
          rw [this] at hst
          cases hst
          rfl
        subst hww
        rw [h00]
        exact ⟨_, _, rfl, e, w', _, hstep, hr', rfl, run_copy_zero h0 h2 a0 a1 hk hl ⟨_, _, _, rfl⟩ h00⟩
      · have hd : doff = dd ∧ dsp = none := by
          rcases hdoff with hq | hq
          · subst hq; exact absurd (Nat.min_zero _) h00
          · exact hq
        have hso : soff = off ∧ ssp = none := by
          rcases hsoff with hq | hq
          · subst hq; exact absurd (Nat.zero_min _) h00
          · exact hq
        obtain ⟨rfl, rfl⟩ := hd; obtain ⟨rfl, rfl⟩ := hso
        refine ⟨_, _, rfl, e, w', _, hstep, hr', rfl, ?_⟩
        exact run_copy h0 h2 a0 a1 hk hl (k4 w.drawn) hst

theorem lenV_run {tys : Array TypeId} {args : Array Value} {t ty : TypeId} {x v : V} {x' : Value} (h0 : tys[0]? = some t) (a0 : args[0]? = some x') (hr : HR e h w) (hx : VR e x x') (hh : lenV P h t x = some v) :
    ∃ v', VR e v v' ∧ (Builtin.len_ tys ty args).run P w = .ok v' w := by
  have hgo : ∀ {n : Nat} {v : V}, goN n = some v → VR e v (goInt n) := fun h => by cases h; rfl
  unfold lenV at hh
  cases hk : tk P t with
  | str =>
    rw [hk] at hh
    obtain ⟨s, rfl, h1⟩ := vStr_eq hh
    have : x' = .string s := hx
    subst this
    exact ⟨_, hgo h1, by simp [Builtin.len_, h0, a0, run_underlying (tk_str hk)]⟩
  | ptr el =>
    rw [hk] at hh
    have hh' : TK.rec (motive := fun _ => Option V) none (fun _ => none) none (fun _ => none) (fun _ => none) (fun n _ => goN n) (fun _ _ => none) (fun _ => none) none none (tk P el) = some v := hh
    cases hk2 : tk P el with
    | arr n el2 =>
      rw [hk2] at hh'
      exact ⟨_, hgo hh', by simp [Builtin.len_, h0, a0, run_underlying (tk_ptr hk), run_underlying (tk_arr hk2)]⟩
    | _ => rw [hk2] at hh'; cases hh'
  | sl el =>
    rw [hk] at hh
    rcases vSl_eq hh with ⟨rfl, h1⟩ | ⟨b, off, n, s, c, rfl, h1⟩
    · have : x' = .slice none 0 0 := hx
      subst this
      exact ⟨_, hgo h1, by simp [Builtin.len_, h0, a0, run_underlying (tk_sl hk)]⟩
    · obtain ⟨_, _, _, _, _, rfl, _⟩ := hx.slice rfl
      exact ⟨_, hgo h1, by simp [Builtin.len_, h0, a0, run_underlying (tk_sl hk)]⟩
  | arr n el =>
    rw [hk] at hh
    exact ⟨_, hgo hh, by simp [Builtin.len_, h0, a0, run_underlying (tk_arr hk)]⟩
  | map kt et =>
    rw [hk] at hh
    rcases vMap_eq hh with ⟨rfl, h1⟩ | ⟨b, rfl, h1⟩
    · have : x' = .map none := hx
      subst this
      exact ⟨_, hgo h1, by simp [Builtin.len_, h0, a0, run_underlying (tk_map hk)]⟩
    · obtain ⟨es, clock, hb, h2⟩ := onMap_eq h1
      obtain ⟨c, hc, rfl⟩ : ∃ cr, e.ρ b = some cr ∧ x' = .map (some cr) := hx
      obtain ⟨ces, hcm, hes⟩ := hr.map hb hc
      have hl : lenS es = ces.size := by rw [lenS_eq, hes.length, Array.length_toList]
      rw [hl] at h2
      exact ⟨_, hgo h2, by simp [Builtin.len_, h0, a0, run_underlying (tk_map hk), MapKept.run_getObj_map hcm]⟩
  | _ => rw [hk] at hh; cases hh

theorem minV_run {lt : Int → Int → Bool} {f : Value → Value → Sem Value} (hf : ∀ k m k' n w, (f (.int k m) (.int k' n)).run P w = .ok (.int k (if lt n m then n else m)) w) :
    ∀ {vs : List V} {vs' : List Value} {x v : V} {x' : Value}, All2 (VR e) vs vs' → VR e x x' → minV lt vs x = some v → ∃ v', VR e v v' ∧ (vs'.foldlM f x').run P w = .ok v' w
  | _, _, x, v, x', .nil, hx, hh => by
    have : some x = some v := hh
    cases this
    exact ⟨x', hx, rfl⟩
  | _, _, x, v, x', .cons (x := y) (y := y') (xs := ys) (ys := ys') h1 h2, hx, hh => by
    obtain ⟨k, m, rfl, h3⟩ := vInt_eq (show vInt x none (fun k a => vInt y none fun _ b => minV lt ys (.c (.int k (ifB (lt b a) b a)))) = some v from hh)
    obtain ⟨k', n, rfl, h4⟩ := vInt_eq h3
    have e1 : x' = .int k m := hx
    have e2 : y' = .int k' n := h1
    subst e1; subst e2
    have hif : ifB (lt n m) n m = if lt n m then n else m := by cases lt n m <;> rfl
    rw [hif] at h4
    obtain ⟨v', q1, q2⟩ := minV_run hf h2 (show VR e (.c (.int k (if lt n m then n else m))) (.int k (if lt n m then n else m)) from rfl) h4
    refine ⟨v', q1, ?_⟩
    rw [List.foldlM_cons, Sem.run_bind, hf]
    exact q2

end
end Go.Abs

namespace Go.Abs
noncomputable section
variable {P : Program} {e : Env} {tm : S3 V} {h : H} {w : World} {a : Act} {o : Oper}

/-- what an operation's answer says of the model -/
def RR (P : Program) (e : Env) (h : H) (w : World) (a : Act) (o : Oper) : R → Prop
  | .val v h' => OpOk P e h w a o v h' ∧ (classOf o.op < 2 → h' = h)
  | .call f args => ∃ args' : Array Value, All2 (VR e) args args'.toList ∧ (execOp a.eval o).run P w = (callFunc f args').run P w
  | .yield l args => ∃ cl, e.ρ l = some cl ∧ ∃ args' : Array Value, All2 (VR e) args args'.toList ∧ (execOp a.eval o).run P w = (Instr.yield cl args').run P w
  | .alts l => ∃ p ∈ l, OpOk P e h w a o p.1 p.2

theorem RR.same {v : V} {r : R} (hh : r = .val v h ∧ OpOk P e h w a o v h) : RR P e h w a o r := by
  obtain ⟨rfl, h1⟩ := hh
  exact ⟨h1, fun _ => rfl⟩
theorem RR.same' {r : R} (hh : ∃ v, r = .val v h ∧ OpOk P e h w a o v h) : RR P e h w a o r := hh.elim fun _ h => RR.same h
theorem RR.eff {r : R} (hc : classOf o.op = 2) (hh : ∃ v h', r = .val v h' ∧ OpOk P e h w a o v h') : RR P e h w a o r := by
  obtain ⟨v, h', rfl, h1⟩ := hh
  exact ⟨h1, fun h2 => by omega⟩

theorem args_at {args : List V} {xs : Array Value} (ha : All2 (VR e) args xs.toList) {i : Nat} {x : V} (hx : args[i]? = some x) : ∃ x', xs[i]? = some x' ∧ VR e x x' := by
  obtain ⟨y, hy, hr⟩ := ha.get hx
  exact ⟨y, by rw [← Array.getElem?_toList]; exact hy, hr⟩

theorem listB_eq {α β : Type} {l : List α} {c : α → List α → Option β} {r : β} (hh : listB l none c = some r) : ∃ x xs, l = x :: xs ∧ c x xs = some r := by
  cases l with
  | nil => cases hh
  | cons x xs => exact ⟨x, xs, rfl, hh⟩
theorem listB_nil {α β : Type} {l : List α} {z : Option β} {r : β} (hh : listB l z (fun _ _ => none) = some r) : l = [] ∧ z = some r := by
  cases l with
  | nil => exact ⟨rfl, hh⟩
  | cons x xs => cases hh

theorem classOf_call {c : Call} {b : Builtin} (hcal : c.callee = .builtin b) : classOf (.call c) = (match b with | .len => 1 | .min => 0 | .max => 0 | _ => 2) := by
  obtain ⟨cal, args, tys⟩ := c
  simp only at hcal
  subst hcal
  cases b <;> rfl
theorem intLt_not (x y : Int) : intLt x y = decide (x < y) := intLt_eq x y

theorem builtin_ok {c : Call} {b : Builtin} (hcal : c.callee = .builtin b) (ho : o.op = .call c) (hr : HR e h w) {args : List V} {xs : Array Value} (hxs : xs = c.args.map a.eval) (ha : All2 (VR e) args xs.toList) {r : R}
    (h1 : builtinR P h b c.argTypes.toList args = some r) : RR P e h w a o r := by
  obtain ⟨cs, hrun⟩ : ∃ cs, ∀ w', (execOp a.eval o).run P w' = (builtin b c.argTypes o.type cs xs).run P w' := by
    refine ⟨c.args.map (fun x => match x with | .const _ => true | _ => false), fun w' => ?_⟩
    have hres : (resolve a.eval c o.type) = pure { target := .builtin b c.argTypes o.type (c.args.map (fun x => match x with | .const _ => true | _ => false)), args := c.args.map a.eval } := by
      unfold resolve
      rw [hcal]
      rfl
    simp only [execOp, ho, hres, Sem.run_bind, Sem.run_pure, Result.andThen_ok, invoke, hxs]
  have hfin : ∀ {s : Sem Value} {v : V} {h' : H}, Fin P e h w s v h' → builtin b c.argTypes o.type cs xs = (do pure (.value (← s)) : Sem Next) → OpOk P e h w a o v h' := by
    intro s v h' hf hb
    obtain ⟨e', w', v', f1, f2, f3, f4⟩ := hf
    exact ⟨e', w', v', f1, f2, f3, .inl (by rw [hrun, hb]; simp [f4])⟩
  have hty : ∀ {i : Nat} {t : TypeId}, c.argTypes.toList[i]? = some t → c.argTypes[i]? = some t := fun hh => by rw [← Array.getElem?_toList]; exact hh
  cases b with
  | append =>
    obtain ⟨t, r2, ht, h2⟩ := listB_eq (show listB c.argTypes.toList none _ = some r from h1)
    obtain ⟨t2, r3, ht2, h3⟩ := listB_eq h2
    obtain ⟨el2, hk2, h4⟩ := onSlT_eq h3
    obtain ⟨s, r4, hs, h5⟩ := listB_eq h4
    obtain ⟨x, r5, hx, h6⟩ := listB_eq h5
    subst ht2; subst hs; subst hx
    obtain ⟨s', q1, q2⟩ := args_at ha (i := 0) (x := s) rfl
    obtain ⟨x', q3, q4⟩ := args_at ha (i := 1) (x := x) rfl
    obtain ⟨v, h', rfl, hf⟩ := fin_append (ty := o.type) (hty (i := 0) (by rw [ht]; rfl)) (hty (i := 1) (by rw [ht]; rfl)) (tk_sl hk2) q1 q3 hr q2 q4 h6
    exact ⟨hfin hf rfl, fun hc => by rw [ho, classOf_call hcal] at hc; simp at hc⟩
  | copy =>
    obtain ⟨t, r2, ht, h2⟩ := listB_eq (show listB c.argTypes.toList none _ = some r from h1)
    obtain ⟨s, r4, hs, h5⟩ := listB_eq h2
    obtain ⟨x, r5, hx, h6⟩ := listB_eq h5
    subst hs; subst hx
    obtain ⟨s', q1, q2⟩ := args_at ha (i := 0) (x := s) rfl
    obtain ⟨x', q3, q4⟩ := args_at ha (i := 1) (x := x) rfl
    obtain ⟨v, h', rfl, hf⟩ := fin_copy (ty := o.type) (hty (i := 0) (by rw [ht]; rfl)) q1 q3 hr q2 q4 h6
    exact ⟨hfin hf rfl, fun hc => by rw [ho, classOf_call hcal] at hc; simp at hc⟩
  | len =>
    obtain ⟨t, r2, ht, h2⟩ := listB_eq (show listB c.argTypes.toList none _ = some r from h1)
    obtain ⟨x, r4, hx, h5⟩ := listB_eq h2
    subst hx
    obtain ⟨x', q3, q4⟩ := args_at ha (i := 0) (x := x) rfl
    obtain ⟨v, hv, rfl⟩ := vR_eq h5
    obtain ⟨v', q5, q6⟩ := lenV_run (ty := o.type) (hty (i := 0) (by rw [ht]; rfl)) q3 hr q4 hv
    exact ⟨hfin (.same hr q5 q6) rfl, fun _ => rfl⟩
  | min =>
    obtain ⟨x, r4, hx, h5⟩ := listB_eq (show listB args none _ = some r from h1)
    obtain ⟨v, hv, rfl⟩ := vR_eq h5
    subst hx
    cases hl : xs.toList with
    | nil => rw [hl] at ha; cases ha
    | cons x' ys =>
      rw [hl] at ha
      cases ha with
      | cons p1 p2 =>
        obtain ⟨v', q5, q6⟩ := minV_run (P := P) (w := w) (f := Builtin.min2) (fun k m k' n w => by simp [Builtin.min2, intLt_eq]) p2 p1 hv
        exact ⟨hfin (.same hr q5 (s := Builtin.min_ c.argTypes o.type xs) (by unfold Builtin.min_; rw [hl]; exact q6)) rfl, fun _ => rfl⟩
  | max =>
    obtain ⟨x, r4, hx, h5⟩ := listB_eq (show listB args none _ = some r from h1)
    obtain ⟨v, hv, rfl⟩ := vR_eq h5
    subst hx
    cases hl : xs.toList with
    | nil => rw [hl] at ha; cases ha
    | cons x' ys =>
      rw [hl] at ha
      cases ha with
      | cons p1 p2 =>
        obtain ⟨v', q5, q6⟩ := minV_run (P := P) (w := w) (lt := fun b a => intLt a b) (f := Builtin.max2) (fun k m k' n w => by simp [Builtin.max2, intLt_eq]) p2 p1 hv
        exact ⟨hfin (.same hr q5 (s := Builtin.max_ c.argTypes o.type xs) (by unfold Builtin.max_; rw [hl]; exact q6)) rfl, fun _ => rfl⟩
  | _ => cases h1

theorem all2_wv {l : List W} {xs : List Value} (ha : All2 (WR e) l xs) : All2 (VR e) (mapS wV l) xs := by
  rw [mapS_eq]
  induction ha with
  | nil => exact .nil
  | cons h1 _ ih => exact .cons (WR_wV h1) ih

theorem ok_follow {l : List FieldStep} : ∀ {t : TypeId} {x : V} {x' : Value} {y : TypeId × V}, followV P l t x = some y → VR e x x' → ∃ y', (follow l t (.val x')).run P w = .ok (y.1, .val y') w ∧ VR e y.2 y' := by
  induction l with
  | nil => intro t x x' y h1 hx; cases h1; exact ⟨x', rfl, hx⟩
  | cons s l ih =>
    intro t x x' y h1 hx
    have h2 : ifB s.deref none (onStT (tk P s.struct) none fun fs => optB (atS fs s.index) none fun fl => vAgg x none fun _ cs => optB (partV P fl.type cs fl.offset) none fun y => followV P l fl.type y) = some y := h1
    cases hd : s.deref with
    | true => rw [hd] at h2; cases h2
    | false =>
      rw [hd] at h2
      obtain ⟨fs, hk, h3⟩ := onStT_eq (show onStT (tk P s.struct) none _ = some y from h2)
      obtain ⟨fa, hu, hfa⟩ := tk_st hk
      obtain ⟨fl, hfl, h4⟩ := optB_eq h3
      obtain ⟨n, cs, rfl, h5⟩ : ∃ n cs, x = .agg n cs ∧ optB (partV P fl.type cs fl.offset) none (fun y => followV P l fl.type y) = some y := by
        cases x with
        | agg n cs => exact ⟨n, cs, rfl, h4⟩
        | _ => cases h4
      obtain ⟨z, hz, h6⟩ := optB_eq h5
      obtain ⟨xs, rfl, hxs, _⟩ := hx
      obtain ⟨z', hrun, hzr⟩ := ok_part (P := P) hxs hz w
      obtain ⟨y', hy, hyr⟩ := ih h6 hzr
      refine ⟨y', ?_, hyr⟩
      have hfl' : fa[s.index]? = some fl := by
        have := atS_eq hfl
        rw [← hfa] at this
        simpa using this
      simp only [follow, Sem.run_bind, run_underlying hu, Result.andThen_ok, hfl', hd]
      simp [hrun, hy]
theorem callFn_P {args : List V} {f : Fn} {x y : List W} {r : R} (h : callFn args f x y = some r) : callFnP P args f x y = some r := by
  cases f <;> first | exact h | cases h
theorem ok_meth {t : TypeId} {name : String} {args : List V} {args' : Array Value} (ha : All2 (VR e) args args'.toList) {r : R} (h1 : methR P t name args = some r) :
    ∃ g vs vs', r = .call g vs ∧ All2 (VR e) vs vs'.toList ∧ (invoke (.fn (.methodOf t name) #[]) args').run P w = (callFunc g vs').run P w := by
  unfold methR at h1
  obtain ⟨fs, hk, h2⟩ := onStT_eq h1
  obtain ⟨fa, hu, _⟩ := tk_st hk
  obtain ⟨i, hi, h3⟩ := optB_eq h2
  obtain ⟨m, hm, h4⟩ := optB_eq h3
  obtain ⟨q, hq, h5⟩ := optB_eq h4
  obtain ⟨g, b⟩ := q
  cases b with
  | true => cases h5
  | false =>
    obtain ⟨xa, ra, rfl, h6⟩ : ∃ xa ra, args = xa :: ra ∧ optB (followV P m.path.toList t xa) none (fun y => ifB (isAggT P y.1) (some (.call g (y.2 :: ra))) none) = some r := by
      cases args with
      | nil => cases h5
      | cons xa ra => exact ⟨xa, ra, rfl, h5⟩
    obtain ⟨y, hy, h7⟩ := optB_eq h6
    have hag : isAggT P y.1 = true := by
      cases hq : isAggT P y.1 with
      | true => rfl
      | false => rw [hq] at h7; cases h7
    rw [hag] at h7
    have hr : R.call g (y.2 :: ra) = r := Option.some.inj h7
    subst hr
    have hu2 : (∃ fa2, P.underlying y.1 = some (.struct fa2)) ∨ ∃ n el, P.underlying y.1 = some (.array n el) := by
      unfold isAggT at hag
      cases hk2 : tk P y.1 with
      | st fs2 => obtain ⟨fa2, h, _⟩ := tk_st hk2; exact .inl ⟨fa2, h⟩
      | arr n el => exact .inr ⟨n, el, tk_arr hk2⟩
      | _ => rw [hk2] at hag; cases hag
    obtain ⟨ws, rfl⟩ : ∃ ws : List Value, args' = ws.toArray := ⟨args'.toList, by simp⟩
    cases ws with
    | nil => cases ha
    | cons xv rest =>
      cases ha with
      | cons hx hrest =>
        obtain ⟨y', hrun, hyr⟩ := ok_follow (P := P) (w := w) hy hx
        refine ⟨g, _, #[y'] ++ rest.toArray, rfl, by simpa using All2.cons hyr hrest, ?_⟩
        have hex : (xv :: rest).toArray.extract 1 (xv :: rest).toArray.size = rest.toArray := by simp
        have hfind : i.methods.find? (fun x => x.name == name) = some m := hm
        have hmeth : (method (P.types.size + Made.depth) t xv name).run P w = .ok (g, y') w := by
          rw [show P.types.size + Made.depth = (P.types.size + 99) + 1 from rfl]
          unfold method
          simp only [Sem.run_bind, run_typeInfo w hi, Result.andThen_ok, hfind, hrun, hq]
          unfold receiverAt
          rcases hu2 with ⟨fa2, hu2⟩ | ⟨n, el, hu2⟩ <;> simp [run_underlying hu2, Place.get]
        have h0 : (xv :: rest).toArray[0]? = some xv := by simp
        simp only [invoke, h0, Sem.run_bind, run_underlying hu, Result.andThen_ok, hex, callMethod]
        simp [hmeth]

theorem callR_ok {c : Call} (ho : o.op = .call c) (hr : HR e h w) (ht : TR e tm a.tmps) {r : R} (h1 : callR P tm h c = some r) : RR P e h w a o r := by
  unfold callR at h1
  obtain ⟨args, hargs, h2⟩ := optB_eq h1
  have ha := opds ht hargs
  cases hcal : c.callee with
  | value f =>
    rw [hcal] at h2
    obtain ⟨v, hv, h3⟩ := optB_eq (show optB (opd tm f) none (fun v => vFn v none fun f x y => callFnP P args f x y) = some r from h2)
    obtain ⟨fn, x, y, rfl, h4⟩ := vFn_eq h3
    obtain ⟨fn', x', y', hfn, hfe, hx, hy⟩ : ∃ f' a' b', FnR e fn f' ∧ a.eval f = .func f' a' b' ∧ All2 (WR e) x a'.toList ∧ All2 (WR e) y b'.toList := opd_eq ht hv
    cases fn with
    | func g =>
      have : fn' = .func g := hfn
      subst this
      cases h4
      refine ⟨x' ++ c.args.map a.eval ++ y', ?_, ?_⟩
      · rw [appS_eq, appS_eq, Array.toList_append, Array.toList_append, List.append_assoc]
        exact (all2_wv hx).app (ha.app (all2_wv hy))
      · simp only [execOp, ho, resolve, hcal, hfe, Deferred.ofValue, Sem.run_bind, Sem.run_pure, Result.andThen_ok, invoke]
    | yield l =>
      obtain ⟨cl, hcl, rfl⟩ : ∃ cl, e.ρ l = some cl ∧ fn' = .yield cl := hfn
      obtain ⟨rfl, h5⟩ := listB_nil (show listB x (some (R.yield l args)) (fun _ _ => none) = some r from h4)
      cases h5
      have hx' : x' = #[] := by
        apply Array.toList_inj.1
        generalize x'.toList = z at hx
        cases hx
        rfl
      subst hx'
      refine ⟨cl, hcl, c.args.map a.eval, ha, ?_⟩
      simp only [execOp, ho, resolve, hcal, hfe, Deferred.ofValue, Sem.run_bind, Sem.run_pure, Result.andThen_ok, invoke, Array.empty_append]
    | methodOf t n =>
      have : fn' = .methodOf t n := hfn
      subst this
      obtain ⟨rfl, h5⟩ := listB_nil (show listB x (listB y (methR P t n args) fun _ _ => none) (fun _ _ => none) = some r from h4)
      obtain ⟨rfl, h6⟩ := listB_nil h5
      have hnil : ∀ {z : Array Value}, All2 (WR e) [] z.toList → z = #[] := fun {z} hz => by
        apply Array.toList_inj.1
        generalize z.toList = u at hz
        cases hz
        rfl
      have hx' := hnil hx
      have hy' := hnil hy
      subst hx' hy'
      obtain ⟨g, vs, vs', rfl, q1, q2⟩ := ok_meth (P := P) (w := w) ha h6
      refine ⟨vs', q1, ?_⟩
      rw [← q2]
      simp only [execOp, ho, resolve, hcal, hfe, Deferred.ofValue, Sem.run_bind, Sem.run_pure, Result.andThen_ok, Array.empty_append]
    | _ => cases h4
  | invoke x n => rw [hcal] at h2; cases h2
  | builtin b =>
    rw [hcal] at h2
    exact builtin_ok hcal ho hr rfl ha h2

theorem ok_insert_class {t : TypeId} {m k v : Operand} (ho : o.op = .mapUpdate t m k v ∨ o.op = .insert t m k v) : classOf o.op = 2 := by
  rcases ho with ho | ho <;> rw [ho] <;> rfl

/-- WHAT THE EVALUATOR FINDS OF AN OPERATION, THE MODEL DOES. -/
theorem opR_sound (hP : Fits P) (hr : HR e h w) (ht : TR e tm a.tmps) {r : R} (h1 : opR P tm h o.op = some r) :
    RR P e h w a o r ∧ (∀ c, o.op ≠ .defer c) ∧ (∀ cs b, o.op ≠ .select cs b) := by
  cases ho : o.op with
  | move x =>
    rw [ho] at h1
    obtain ⟨v, hv, rfl⟩ := vR_eq (show vR h (opd tm x) = some r from h1)
    exact ⟨⟨ok_move (.inl ho) hr ht hv, fun _ => rfl⟩, by simp, by simp⟩
  | assign x =>
    rw [ho] at h1
    obtain ⟨v, hv, rfl⟩ := vR_eq (show vR h (opd tm x) = some r from h1)
    exact ⟨⟨ok_move (.inr ho) hr ht hv, fun _ => rfl⟩, by simp, by simp⟩
  | pick c x y => rw [ho] at h1; exact ⟨.same' (ok_pick ho hr ht h1), by simp, by simp⟩
  | alloc t => rw [ho] at h1; exact ⟨.eff (by rw [ho]; rfl) (ok_alloc ho hr h1), by simp, by simp⟩
  | box t x => rw [ho] at h1; exact ⟨.eff (by rw [ho]; rfl) (ok_box ho hr ht h1), by simp, by simp⟩
  | build t ps => rw [ho] at h1; exact ⟨.same' (ok_build ho hr ht h1), by simp, by simp⟩
  | buildSlice t n ps => rw [ho] at h1; exact ⟨.eff (by rw [ho]; rfl) (ok_buildSlice ho hr ht h1), by simp, by simp⟩
  | insert t m k v => rw [ho] at h1; exact ⟨.eff (by rw [ho]; rfl) (ok_update hP (.inr ho) hr ht h1), by simp, by simp⟩
  | load t x => rw [ho] at h1; exact ⟨.same' (ok_load ho hr ht h1), by simp, by simp⟩
  | store t x y => rw [ho] at h1; exact ⟨.eff (by rw [ho]; rfl) (ok_store ho hr ht h1), by simp, by simp⟩
  | nilCheck x => rw [ho] at h1; exact ⟨.same' (ok_nil ho hr ht h1), by simp, by simp⟩
  | binOp op t x y yt => rw [ho] at h1; exact ⟨.same' (ok_bin hP ho hr ht h1), by simp, by simp⟩
  | unOp op t x => rw [ho] at h1; exact ⟨.same' (ok_un ho hr ht h1), by simp, by simp⟩
  | convert s d x => rw [ho] at h1; exact ⟨.same' (ok_conv ho hr ht h1), by simp, by simp⟩
  | makeFunc f x y => rw [ho] at h1; exact ⟨.same' (ok_makeFunc ho hr ht h1), by simp, by simp⟩
  | makeMap t res =>
    rw [ho] at h1
    cases res with
    | some x => cases h1
    | none =>
      cases h1
      exact ⟨⟨ok_makeMap ho hr, fun hc => by rw [ho] at hc; exact absurd hc (by show ¬ (2 < 2); omega)⟩, by simp, by simp⟩
  | makeSlice t x y => rw [ho] at h1; exact ⟨.eff (by rw [ho]; rfl) (ok_makeSlice ho hr ht h1), by simp, by simp⟩
  | slice t x lo hi mx => rw [ho] at h1; exact ⟨.same' (ok_slice ho hr ht h1), by simp, by simp⟩
  | fieldAddr s x f => rw [ho] at h1; exact ⟨.same' (ok_fieldAddr ho hr ht h1), by simp, by simp⟩
  | field s x f => rw [ho] at h1; exact ⟨.same' (ok_field ho hr ht h1), by simp, by simp⟩
  | indexAddr t x i => rw [ho] at h1; exact ⟨.same' (ok_indexAddr ho hr ht h1), by simp, by simp⟩
  | index t x i => rw [ho] at h1; exact ⟨.same' (ok_index ho hr ht h1), by simp, by simp⟩
  | lookup t x k ok => rw [ho] at h1; exact ⟨.same' (ok_lookup hP ho hr ht h1), by simp, by simp⟩
  | mapUpdate t m k v => rw [ho] at h1; exact ⟨.eff (by rw [ho]; rfl) (ok_update hP (.inl ho) hr ht h1), by simp, by simp⟩
  | mapEntry t m k => rw [ho] at h1; exact ⟨.eff (by rw [ho]; rfl) (ok_mapEntry hP ho hr ht h1), by simp, by simp⟩
  | entryStore t m k v => rw [ho] at h1; exact ⟨.eff (by rw [ho]; rfl) (ok_entryStore ho hr ht h1), by simp, by simp⟩
  | range t x => rw [ho] at h1; exact ⟨.eff (by rw [ho]; rfl) (ok_range ho hr ht h1), by simp, by simp⟩
  | next it s =>
    rw [ho] at h1
    cases s with
    | true => cases h1
    | false =>
      rcases ok_next ho hr ht (show opNext tm h it = some r from h1) with ⟨v, rfl, h2⟩ | ⟨l, rfl, h2⟩
      · exact ⟨⟨h2, fun _ => rfl⟩, by simp, by simp⟩
      · exact ⟨h2, by simp, by simp⟩
  | entry it => rw [ho] at h1; exact ⟨.same' (ok_entry ho hr ht h1), by simp, by simp⟩
  | extract t i => rw [ho] at h1; exact ⟨.same' (ok_extract ho hr ht h1), by simp, by simp⟩
  | call c => rw [ho] at h1; exact ⟨callR_ok ho hr ht h1, by simp, by simp⟩
  | _ => rw [ho] at h1; cases h1

end
end Go.Abs
