/- The evaluator: regions, orders that are drawn, codes, loops, ranges over functions, calls; a body run in pieces. Condition: none; a lemma text of this claim. -/
import Derived.Test.YtlkgdadfbfafcaaGreatEvB
import Derived.OrdersIn
/- Runs: what the evaluator's ends say of the model. -/
namespace Go.Abs
noncomputable section
variable {P : Program} {e : Env} {tm : S3 V} {h : H} {w : World} {a : Act} {o : Oper}

/-! ### ends -/
inductive Leaf : Out → Ex → S3 V → H → Prop where
  | ok (ex : Ex) (tm : S3 V) (h : H) : Leaf (.ok ex tm h) ex tm h
  | l {x y : Out} {ex : Ex} {tm : S3 V} {h : H} : Leaf x ex tm h → Leaf (.or x y) ex tm h
  | r {x y : Out} {ex : Ex} {tm : S3 V} {h : H} : Leaf y ex tm h → Leaf (.or x y) ex tm h
def NoFail : Out → Prop
  | .fail => False
  | .ok _ _ _ => True
  | .or x y => NoFail x ∧ NoFail y
theorem leaf_ok {ex ex' : Ex} {tm tm' : S3 V} {h h' : H} (hl : Leaf (.ok ex tm h) ex' tm' h') : ex' = ex ∧ tm' = tm ∧ h' = h := by
  cases hl; exact ⟨rfl, rfl, rfl⟩
theorem leaf_or {x y : Out} {ex : Ex} {tm : S3 V} {h : H} (hl : Leaf (.or x y) ex tm h) : Leaf x ex tm h ∨ Leaf y ex tm h := by
  cases hl with
  | l h => exact .inl h
  | r h => exact .inr h
theorem leaf_bind {x : Out} {k : K} {ex ex' : Ex} {tm tm' : S3 V} {h h' : H} (hl : Leaf x ex tm h) (hk : Leaf (k ex tm h) ex' tm' h') : Leaf (bind x k) ex' tm' h' := by
  induction hl with
  | ok => exact hk
  | l _ ih => exact .l (ih hk)
  | r _ ih => exact .r (ih hk)
theorem noFail_bind {k : K} : ∀ {x : Out}, NoFail (bind x k) → NoFail x ∧ ∀ ex tm h, Leaf x ex tm h → NoFail (k ex tm h)
  | .fail, hn => hn.elim
  | .ok ex tm h, hn => ⟨trivial, fun _ _ _ hl => by obtain ⟨rfl, rfl, rfl⟩ := leaf_ok hl; exact hn⟩
  | .or x y, hn => by
    have h1 := noFail_bind (x := x) hn.1
    have h2 := noFail_bind (x := y) hn.2
    exact ⟨⟨h1.1, h2.1⟩, fun ex tm h hl => (leaf_or hl).elim (h1.2 ex tm h) (h2.2 ex tm h)⟩
theorem noFail_orF {α : Type} {x : Option α} {s : α → Out} (hn : NoFail (orF x s)) : ∃ y, x = some y ∧ NoFail (s y) := by
  cases x with
  | none => exact hn.elim
  | some y => exact ⟨y, rfl, hn⟩
theorem orF_some {α : Type} (y : α) (s : α → Out) : orF (some y) s = s y := rfl
theorem opStep_eq (P : Program) (rec : Rec) (ops : List Oper) (o : Oper) (next : Run) (tm : S3 V) (h : H) :
    opStep P rec ops o next tm h = orF (wantQ ops tm o) fun t => ifB t (orF (opR P tm h o.op) (onOp rec next o.dst tm h)) (next (putA tm o.dst (.tup [])) h) := by
  unfold opStep wantQ
  cases o.guard <;> rfl
theorem stepN_eq (P : Program) (rec : Rec) (ops : List Oper) (d : DI) (next : RunD) (tm : S3 V) (h : H) (hs : List (Nat × H)) (rs : List RE) :
    stepN P rec ops d next tm h hs rs = orF (wantQ ops tm d.o) fun t => ifB t (orF (opR P tm h d.o.op) (onD P rec next d tm h hs rs)) (skipD P next d tm h hs rs) := by
  unfold stepN wantQ
  cases d.o.guard <;> rfl

theorem stepD_flt {P : Program} {rec : Rec} {ops : List Oper} {b : Nat} {d : DI} {k : Nat} (hf : d.flt = some k) (next : RunD) (tm : S3 V) (h : H) (hs : List (Nat × H)) (rs : List RE) :
    stepD P rec ops b d next tm h hs rs = orF (wantQ ops tm d.o) fun t => ifB t (fltX P b d k next tm h hs rs) (afterD P next d tm h hs rs (.tup []) h) := by
  unfold stepD wantQ
  rw [hf]
  cases d.o.guard <;> rfl

/-! ### slots -/
theorem VR.undef (e : Env) : VR e (.tup []) undef := ⟨#[], rfl, .nil⟩
theorem putA_none (tm : S3 V) (v : V) : putA tm none v = tm := rfl
theorem putA_some (tm : S3 V) (t : Nat) (v : V) : putA tm (some t) v = set3 tm t v := rfl
theorem TR.put (ht : TR e tm a.tmps) {v : V} {v' : Value} (hv : VR e v v') {d : Option Tmp} (hd : ∀ t, d = some t → t < a.tmps.size) : TR e (putA tm d v) (a.put d v').tmps ∧ (a.put d v').tmps.size = a.tmps.size ∧ (a.put d v').defers = a.defers := by
  cases d with
  | none => exact ⟨ht, rfl, rfl⟩
  | some t =>
    refine ⟨fun t' x hx => ?_, by simp [Act.put], rfl⟩
    rw [putA_some] at hx
    have hlt := hd t rfl
    show VR e x ((a.tmps.setIfInBounds t v').getD t' Go.undef)
    rcases get3_set3 hx with ⟨rfl, rfl⟩ | ⟨hne, hx'⟩
    · rw [Array.getD_eq_getD_getElem?, Array.getElem?_setIfInBounds_self_of_lt hlt]; exact hv
    · rw [Array.getD_eq_getD_getElem?, Array.getElem?_setIfInBounds_ne (Ne.symm hne), ← Array.getD_eq_getD_getElem?]; exact ht t' x hx'

theorem wantQ_sound {ops : Array Oper} (ht : TR e tm a.tmps) {t : Bool} (hw : wantQ ops.toList tm o = some t) : Region.wanted o (yielded ops a.tmps) = t := by
  unfold wantQ at hw
  unfold Region.wanted
  cases hg : o.guard with
  | none => rw [hg] at hw; cases hw; rfl
  | some g =>
    obtain ⟨j, want⟩ := g
    rw [hg] at hw
    have hw' : yieldQ ops.toList tm j want = some t := hw
    unfold yieldQ at hw'
    show (yielded ops a.tmps j == some want) = t
    unfold yielded
    cases hj : ops[j]? with
    | none =>
      have : atS ops.toList j = none := by
        cases hs : atS ops.toList j with
        | none => rfl
        | some x => have := atS_eq hs; rw [Array.getElem?_toList, hj] at this; cases this
      rw [this] at hw'
      cases hw'
      rfl
    | some p =>
      cases hs : atS ops.toList j with
      | none =>
        exfalso
        have hlt : j < ops.toList.length := by
          have := (Array.getElem?_eq_some_iff.1 hj).1
          simpa using this
        have : ∀ (l : List Oper) (j : Nat), j < l.length → atS l j ≠ none := by
          intro l
          induction l with
          | nil => intro j hj; exact absurd hj (Nat.not_lt_zero _)
          | cons x xs ih =>
            intro j hj
            cases j with
            | zero => intro hc; cases hc
            | succ j => exact ih j (by simpa using hj)
        exact this _ _ hlt hs
      | some q =>
        have := atS_eq hs
        rw [Array.getElem?_toList, hj] at this
        cases this
        rw [hs] at hw'
        cases hd : p.dst with
        | none =>
          have : (some false : Option Bool) = some t := by simpa [optB_some, hd, optB_none] using hw'
          cases this
          simp [hd]
        | some d =>
          have h2 : optB (get3 tm d) none (fun v => some (vBool v false fun b => boolEq b want)) = some t := by simpa [optB_some, hd] using hw'
          obtain ⟨v, hv, h3⟩ := optB_eq h2
          cases h3
          have hvr := ht d v hv
          simp only [hd, Option.bind_some]
          cases hx : a.tmps[d]? with
          | none =>
            rw [Array.getD_eq_getD_getElem?, hx] at hvr
            have hvr' : VR e v undef := hvr
            cases v with
            | c x =>
              cases x with
              | bool b => cases (show undef = .bool b from hvr')
              | _ => rfl
            | _ => rfl
          | some x =>
            rw [Array.getD_eq_getD_getElem?, hx] at hvr
            have hvr' : VR e v x := hvr
            cases v with
            | c y =>
              cases y with
              | bool b =>
                have : x = .bool b := hvr'
                subst this
                show (some b == some want) = boolEq b want
                rw [boolEq_eq]
                cases b <;> cases want <;> rfl
              | sl b o n s c =>
                have hs := CR.single (c := .sl b o n s c) hvr'
                obtain ⟨_, _, _, _, _, rfl, _⟩ := (show VR e (.c (.sl b o n s c)) x from hvr').slice rfl
                rfl
              | ptr b o => obtain ⟨_, _, rfl⟩ := hvr'; rfl
              | map r => obtain ⟨_, _, rfl⟩ := hvr'; rfl
              | fn f p q => obtain ⟨_, _, _, _, rfl, _⟩ := hvr'; rfl
              | _ => cases hvr'; rfl
            | agg n l => obtain ⟨_, rfl, _⟩ := hvr'; rfl
            | tup l => obtain ⟨_, rfl, _⟩ := hvr'; rfl

/-! ### what is asked of the runs that are called -/
def fenceOf (ro : Option Nat) : Fence := { Fence.wide with round := ro }
theorem fenceOf_none : fenceOf none = Fence.wide := rfl
def CallPost (e : Env) (h : H) (w : World) (out : Out) : Ending → World → Prop := fun en w' =>
  ∃ v v' tm' e' h', en = .returned v' ∧ Leaf out (.val v) tm' h' ∧ Step e h w e' h' w' ∧ HR e' h' w' ∧ VR e' v v'
def RoOk (ro : Option Nat) (w : World) : Prop := ∀ l, ro = some l → ∃ r, w.heap[l]? = some (Obj.loop r)
theorem RoOk.step {ro : Option Nat} {e' : Env} {h' : H} {w' : World} (hk : RoOk ro w) (hs : Step e h w e' h' w') : RoOk ro w' := fun l hl => by
  obtain ⟨r, hr⟩ := hk l hl
  exact hs.loops l r hr
def markOf (r : Nat) : Deferred := { target := .collected r, args := #[] }
structure Inv (e0 : Env) (h0 : H) (w0 : World) (N : Nat) (tm : S3 V) (h : H) (a : Act) (w : World) : Prop where
  ex : ∃ e, Step e0 h0 w0 e h w ∧ HR e h w ∧ TR e tm a.tmps ∧ ∃ ms : List Nat, a.defers = ms.map markOf ∧ ms.Nodup ∧ ∀ r ∈ ms, w0.heap.size ≤ r ∧ w.heap[r]? = some (.deferred (some [])) ∧ ∀ b o, get5 h.t b = some o → e.ρ b ≠ some r
  size : a.tmps.size = N
def ExR : Ex → Exit → Prop
  | .nrm, x => x = .normal
  | .exit id, x => x = .exit id
  | .ret, x => x = .ret
  | .val _, _ => False
/-- what holds at a code's ends -/
def Post (e0 : Env) (h0 : H) (w0 : World) (N : Nat) (out : Out) : Exit → Act → World → Prop := fun x a' w' =>
  ∃ ex tm' h', Leaf out ex tm' h' ∧ ExR ex x ∧ Inv e0 h0 w0 N tm' h' a' w'
/-- a loop, at the start of a round -/
def LoopIn (F : Fence) (n : Nat) (P : Program) (c : Code) (Q : Exit → Act → World → Prop) (a : Act) (w : World) : Prop :=
  ∀ (b : Frame) (k : List Item) (cs : List Frame), b.roundOf = F.round → F.fn b.fn → F.room (cs.length + 1 + n) →
    ∃ e a' w', Q e a' w' ∧ ArrivesIn (Machine.fenced P F) P (lone (b.atR a (.code c :: .inLoop c :: k)) cs w) b k cs e a' w'
theorem loopIn_round {F : Fence} {n : Nat} {c : Code} {Q : Exit → Act → World → Prop} (hh : c.wpIn F n P (Exit.then (LoopIn F n P c Q) Q) a w) : LoopIn F n P c Q a w := by
  intro b k cs hro hb hr
  obtain ⟨e, a₁, w₁, hq, harr⟩ := hh b (.inLoop c :: k) cs hro hb hr
  cases e with
  | normal =>
    obtain ⟨e₂, a₂, w₂, hq₂, harr₂⟩ := hq b k cs hro hb hr
    exact ⟨e₂, a₂, w₂, hq₂, .of_steps (StepsIn.trans harr (.one (fenced_calm hb hr rfl) stepR_inLoop)) harr₂⟩
  | exit id => exact ⟨_, a₁, w₁, hq, .pass (x := .inLoop c) rfl (fun _ _ => .inl (by simp)) harr⟩
  | goto l => exact ⟨_, a₁, w₁, hq, .pass (x := .inLoop c) rfl (fun _ _ => .inl (by simp)) harr⟩
  | ret => exact ⟨_, a₁, w₁, hq, .pass (x := .inLoop c) rfl (fun _ _ => .inl (by simp)) harr⟩
  | panic ch => exact ⟨_, a₁, w₁, hq, .pass (x := .inLoop c) rfl (fun _ _ => .inl (by simp)) harr⟩
  | outgrown => exact ⟨_, a₁, w₁, hq, .pass (x := .inLoop c) rfl (fun _ _ => .inl (by simp)) harr⟩
theorem loopIn_code {F : Fence} {n : Nat} {c : Code} {Q : Exit → Act → World → Prop} (hh : LoopIn F n P c Q a w) : (Code.loop c).wpIn F n P Q a w := by
  intro b k cs hro hb hr
  obtain ⟨e, a', w', hq, harr⟩ := hh b k cs hro hb hr
  exact ⟨e, a', w', hq, .of_steps (.one (fenced_calm hb hr rfl) stepR_loop) harr⟩

structure Sound (P : Program) (rec : Rec) : Prop where
  call : ∀ f args tm h e w (args' : Array Value), HR e h w → All2 (VR e) args args'.toList → NoFail (rec (.call f args) tm h) →
    (∃ fn, P.funcs[f]? = some fn ∧ fn.body.isNone = false ∧ (fn.name == "runtime.NumGoroutine") = false) ∧ ∀ n, CallsIn Fence.wide n P f args' w (CallPost e h w (rec (.call f args) tm h))
  yield : ∀ l args tm h e w cl (args' : Array Value), e.ρ l = some cl → HR e h w → All2 (VR e) args args'.toList → NoFail (rec (.yield l args) tm h) →
    ∃ fn tmps assign body, (Instr.yield cl args').run P w = .ok (.round cl fn tmps assign body) w ∧ ∀ n, RoundIn Fence.wide n P cl fn tmps assign body w (CallPost e h w (rec (.yield l args) tm h))
  loop : ∀ c tm h e0 h0 w0 N ro a w n, RoOk ro w0 → slotsOk N c = true → Inv e0 h0 w0 N tm h a w → NoFail (rec (.loop c) tm h) → LoopIn (fenceOf ro) n P c (Post e0 h0 w0 N (rec (.loop c) tm h)) a w
  jump : ∀ c tm h e0 h0 w0 N ro a w n, RoOk ro w0 → slotsOk N c = true → Inv e0 h0 w0 N tm h a w → NoFail (rec (.jump c) tm h) → c.wpIn (fenceOf ro) n P (Post e0 h0 w0 N (rec (.jump c) tm h)) a w

theorem semAt_run {ro : Option Nat} (hd : ∀ c, o.op ≠ .defer c) : o.semAt ro a.eval = execOp a.eval o := Oper.semAt_eq _ _ _ hd

/-- an operation that is carried out: a value -/
theorem op_val {ro : Option Nat} {n : Nat} {v : V} {h' : H} {K : Act → World → Prop} {Q : Exit → Act → World → Prop} (hd : ∀ c, o.op ≠ .defer c) (hok : OpOk P e h w a o v h')
    (hK : ∀ e' w' v', Step e h w e' h' w' → HR e' h' w' → VR e' v v' → K (a.put o.dst v') w') : o.wpIn (fenceOf ro) n P a w K Q := by
  obtain ⟨e', w', v', h1, h2, h3, h4⟩ := hok
  refine ⟨fun _ _ => trivial, ?_⟩
  rw [semAt_run hd]
  rcases h4 with h4 | ⟨h4, rfl⟩
  · rw [h4, Oper.uponIn_value]; exact hK e' w' v' h1 h2 h3
  · rw [h4, Oper.uponIn_skip]; exact hK e' w' _ h1 h2 h3

theorem run_callFunc {f : FuncId} {args : Array Value} {fn : Func} (hf : P.funcs[f]? = some fn) (hb : fn.body.isNone = false) (hn : (fn.name == "runtime.NumGoroutine") = false) (w : World) : (callFunc f args).run P w = .ok (.enter f args) w := by
  have hn' : fn.name ≠ "runtime.NumGoroutine" := by simpa using hn
  have hb' : fn.body ≠ none := by intro hc; rw [hc] at hb; cases hb
  simp [callFunc, hf, hb', hn']

theorem op_call {rec : Rec} (hs : Sound P rec) {ro : Option Nat} {n : Nat} {f : FuncId} {args : List V} {tm1 : S3 V} {K : Act → World → Prop} {Q : Exit → Act → World → Prop} (hr : HR e h w) (hd : ∀ c, o.op ≠ .defer c)
    (hok : RR P e h w a o (.call f args)) (hn : NoFail (rec (.call f args) tm1 h))
    (hK : ∀ v tm' h' e' w' v', Leaf (rec (.call f args) tm1 h) (.val v) tm' h' → Step e h w e' h' w' → HR e' h' w' → VR e' v v' → K (a.put o.dst v') w') : o.wpIn (fenceOf ro) n P a w K Q := by
  obtain ⟨args', ha, hrun⟩ := hok
  obtain ⟨⟨fn, hf, hb, hnm⟩, hc⟩ := hs.call f args tm1 h e w args' hr ha hn
  refine ⟨fun _ _ => trivial, ?_⟩
  rw [semAt_run hd, hrun, run_callFunc hf hb hnm, Oper.uponIn_enter]
  refine ⟨fun hx => absurd hx (by simp [fenceOf, Fence.wide]), CallsIn.mono (hc (n - 1)) fun en w' hp => ?_⟩
  obtain ⟨v, v', tm', e', h', rfl, q1, q2, q3, q4⟩ := hp
  exact hK v tm' h' e' w' v' q1 q2 q3 q4

theorem op_yield {rec : Rec} (hs : Sound P rec) {ro : Option Nat} {n : Nat} {l : Nat} {args : List V} {tm1 : S3 V} {K : Act → World → Prop} {Q : Exit → Act → World → Prop} (hr : HR e h w) (hd : ∀ c, o.op ≠ .defer c)
    (hok : RR P e h w a o (.yield l args)) (hn : NoFail (rec (.yield l args) tm1 h))
    (hK : ∀ v tm' h' e' w' v', Leaf (rec (.yield l args) tm1 h) (.val v) tm' h' → Step e h w e' h' w' → HR e' h' w' → VR e' v v' → K (a.put o.dst v') w') : o.wpIn (fenceOf ro) n P a w K Q := by
  obtain ⟨cl, hcl, args', ha, hrun⟩ := hok
  obtain ⟨fn, tmps, assign, body, hy, hc⟩ := hs.yield l args tm1 h e w cl args' hcl hr ha hn
  refine ⟨fun _ _ => trivial, ?_⟩
  rw [semAt_run hd, hrun, hy, Oper.uponIn_round]
  refine ⟨fun hx => absurd hx (by simp [fenceOf, Fence.wide]), RoundIn.mono (hc (n - 1)) fun en w' hp => ?_⟩
  obtain ⟨v, v', tm', e', h', rfl, q1, q2, q3, q4⟩ := hp
  exact hK v tm' h' e' w' v' q1 q2 q3 q4

end
end Go.Abs

namespace Go.Abs
noncomputable section
variable {P : Program} {e : Env} {tm : S3 V} {h : H} {w : World} {a : Act} {o : Oper}
variable {e0 : Env} {h0 : H} {w0 : World} {N : Nat} {ro : Option Nat} {n : Nat}

def MarksOk (e : Env) (h : H) (w0 w : World) (ds : List Deferred) : Prop :=
  ∃ ms : List Nat, ds = ms.map markOf ∧ ms.Nodup ∧ ∀ r ∈ ms, w0.heap.size ≤ r ∧ w.heap[r]? = some (.deferred (some [])) ∧ ∀ b o, get5 h.t b = some o → e.ρ b ≠ some r
theorem MarksOk.step {ds : List Deferred} (hm : MarksOk e h w0 w ds) {e' : Env} {h' : H} {w' : World} (hs : Step e h w e' h' w') : MarksOk e' h' w0 w' ds := by
  obtain ⟨ms, h1, h2, h3⟩ := hm
  refine ⟨ms, h1, h2, fun r hr => ?_⟩
  obtain ⟨q1, q2, q3⟩ := h3 r hr
  have hlt : r < w.heap.size := (Array.getElem?_eq_some_iff.1 q2).1
  refine ⟨q1, by rw [hs.keep r hlt q3]; exact q2, fun b o hb hc => ?_⟩
  rcases hs.org b o r hb hc with h4 | ⟨b0, o0, h5, h6⟩
  · omega
  · exact q3 b0 o0 h5 h6
theorem Inv.mk' (hst : Step e0 h0 w0 e h w) (hr : HR e h w) (ht : TR e tm a.tmps) (hm : MarksOk e h w0 w a.defers) (hN : a.tmps.size = N) : Inv e0 h0 w0 N tm h a w := ⟨⟨e, hst, hr, ht, hm⟩, hN⟩
theorem Inv.out (hi : Inv e0 h0 w0 N tm h a w) : ∃ e, Step e0 h0 w0 e h w ∧ HR e h w ∧ TR e tm a.tmps ∧ MarksOk e h w0 w a.defers ∧ a.tmps.size = N :=
  let ⟨e, h1, h2, h3, h4⟩ := hi.ex; ⟨e, h1, h2, h3, h4, hi.size⟩
theorem Inv.put (hst : Step e0 h0 w0 e h w) (ht : TR e tm a.tmps) (hm : MarksOk e h w0 w a.defers) (hN : a.tmps.size = N) {e' : Env} {h' : H} {w' : World} {v : V} {v' : Value}
    (hs : Step e h w e' h' w') (hr' : HR e' h' w') (hv : VR e' v v') {d : Option Tmp} (hd : ∀ t, d = some t → t < N) : Inv e0 h0 w0 N (putA tm d v) h' (a.put d v') w' := by
  obtain ⟨p1, p2, p3⟩ := (TR.mono hs.le ht).put hv (d := d) (fun t h => by rw [hN]; exact hd t h)
  exact .mk' (hst.trans hs) hr' p1 (by rw [p3]; exact hm.step hs) (by rw [p2]; exact hN)

theorem leaf_alts {next : Run} {d : Option Nat} : ∀ {l : List (V × H)}, NoFail (altsO next d tm l) → ∀ p ∈ l, NoFail (next (putA tm d p.1) p.2) ∧ ∀ ex tm' h', Leaf (next (putA tm d p.1) p.2) ex tm' h' → Leaf (altsO next d tm l) ex tm' h'
  | [], _, p, hp => by cases hp
  | [q], hn, p, hp => by
    rw [List.mem_singleton] at hp
    subst hp
    exact ⟨hn, fun _ _ _ h => h⟩
  | q :: q2 :: r, hn, p, hp => by
    have hn' : NoFail (next (putA tm d q.1) q.2) ∧ NoFail (altsO next d tm (q2 :: r)) := hn
    rcases List.mem_cons.1 hp with rfl | hp
    · exact ⟨hn'.1, fun _ _ _ h => .l h⟩
    · obtain ⟨k1, k2⟩ := leaf_alts hn'.2 p hp
      exact ⟨k1, fun ex tm' h' h => .r (k2 ex tm' h' h)⟩

/-- one operation, whatever it comes to -/
theorem onOp_sound {rec : Rec} (hs : Sound P rec) {K : Act → World → Prop} {Q : Exit → Act → World → Prop} {next : Run} (hd : ∀ c, o.op ≠ .defer c)
    (hst : Step e0 h0 w0 e h w) (hr : HR e h w) (ht : TR e tm a.tmps) (hm : MarksOk e h w0 w a.defers) (hN : a.tmps.size = N) (hdst : ∀ t, o.dst = some t → t < N) {r : R} (hok : RR P e h w a o r) (hn : NoFail (onOp rec next o.dst tm h r))
    (hK : ∀ tm' h' a' w', NoFail (next tm' h') → (∀ ex tm2 h2, Leaf (next tm' h') ex tm2 h2 → Leaf (onOp rec next o.dst tm h r) ex tm2 h2) → Inv e0 h0 w0 N tm' h' a' w' → K a' w') : o.wpIn (fenceOf ro) n P a w K Q := by
  have hin : ∀ {e' : Env} {h' : H} {w' : World} {v : V} {v' : Value}, Step e h w e' h' w' → HR e' h' w' → VR e' v v' → Inv e0 h0 w0 N (putA tm o.dst v) h' (a.put o.dst v') w' := fun q1 q2 q3 => Inv.put hst ht hm hN q1 q2 q3 hdst
  cases r with
  | val v h' =>
    exact op_val hd hok.1 fun e' w' v' q1 q2 q3 => hK _ _ _ _ hn (fun _ _ _ hl => hl) (hin q1 q2 q3)
  | call f args =>
    obtain ⟨n1, n2⟩ := noFail_bind (show NoFail (bind (rec (.call f args) e3 h) (afterOp next o.dst tm)) from hn)
    exact op_call hs hr hd hok n1 fun v tm' h' e' w' v' q0 q1 q2 q3 => hK _ _ _ _ (n2 _ _ _ q0) (fun ex tm2 h2 hl => leaf_bind q0 hl) (hin q1 q2 q3)
  | yield l args =>
    obtain ⟨n1, n2⟩ := noFail_bind (show NoFail (bind (rec (.yield l args) e3 h) (afterOp next o.dst tm)) from hn)
    exact op_yield hs hr hd hok n1 fun v tm' h' e' w' v' q0 q1 q2 q3 => hK _ _ _ _ (n2 _ _ _ q0) (fun ex tm2 h2 hl => leaf_bind q0 hl) (hin q1 q2 q3)
  | alts l =>
    obtain ⟨p, hp, hok⟩ := hok
    obtain ⟨k1, k2⟩ := leaf_alts hn p hp
    exact op_val hd hok fun e' w' v' q1 q2 q3 => hK _ _ _ _ k1 k2 (hin q1 q2 q3)

theorem opsA_sound (hP : Fits P) {rec : Rec} (hs : Sound P rec) {ops : Array Oper} {Q : Exit → Act → World → Prop} : ∀ {l : List Oper} {is : List Nat} {tm : S3 V} {h : H} {a : Act} {w : World}, All2 (fun o i => ops[i]? = some o) l is →
    (∀ o ∈ l, ∀ t, o.dst = some t → t < N) → Inv e0 h0 w0 N tm h a w → NoFail (opsA P rec ops.toList l tm h) →
    (∀ tm' h' a' w', Leaf (opsA P rec ops.toList l tm h) .nrm tm' h' → Inv e0 h0 w0 N tm' h' a' w' → Q .normal a' w') → wpOpsIn (fenceOf ro) n P ops Q is a w
  | _, _, tm, h, a, w, .nil, _, hi, _, hQ => hQ tm h a w (.ok _ _ _) hi
  | _, _, tm, h, a, w, .cons (x := o) (y := i) (xs := l) (ys := is) ho hl, hd, hi, hn, hQ => by
    rw [wpOpsIn_cons]
    unfold wpOpIn
    simp only [ho]
    have heq : opsA P rec ops.toList (o :: l) tm h = opStep P rec ops.toList o (opsA P rec ops.toList l) tm h := rfl
    rw [heq, opStep_eq] at hn hQ
    obtain ⟨t, hw, h1⟩ := noFail_orF hn
    rw [hw, orF_some] at hQ
    obtain ⟨e, hst, hr, ht, hm, hN⟩ := hi.out
    rw [wantQ_sound ht hw]
    cases t with
    | true =>
      simp only [if_true]
      obtain ⟨r, hop, h2⟩ := noFail_orF (show NoFail (orF (opR P tm h o.op) (onOp rec (opsA P rec ops.toList l) o.dst tm h)) from h1)
      have hQ' : ∀ tm' h' a' w', Leaf (orF (opR P tm h o.op) (onOp rec (opsA P rec ops.toList l) o.dst tm h)) .nrm tm' h' → Inv e0 h0 w0 N tm' h' a' w' → Q .normal a' w' := hQ
      rw [hop, orF_some] at hQ'
      obtain ⟨k1, k2, _⟩ := opR_sound (a := a) hP hr ht hop
      exact onOp_sound hs k2 hst hr ht hm hN (hd o (List.mem_cons_self ..)) k1 h2 fun tm' h' a' w' q1 q2 q3 =>
        opsA_sound hP hs hl (fun o' ho' => hd o' (List.mem_cons_of_mem _ ho')) q3 q1 fun tm2 h2 a2 w2 q4 q5 => hQ' _ _ _ _ (q2 _ _ _ q4) q5
    | false =>
      simp only [Bool.false_eq_true, if_false]
      refine ⟨fun _ _ => trivial, ?_⟩
      exact opsA_sound hP hs hl (fun o' ho' => hd o' (List.mem_cons_of_mem _ ho')) (Inv.put hst ht hm hN (.refl e h w) hr (VR.undef e) (hd o (List.mem_cons_self ..))) h1 hQ

theorem all2_range {α : Type} (l : Array α) : All2 (fun o i => l[i]? = some o) l.toList (List.range l.size) := by
  have key : ∀ (xs : List α) (k : Nat), (∀ i x, xs[i]? = some x → l[k + i]? = some x) → All2 (fun o i => l[i]? = some o) xs (List.range' k xs.length) := by
    intro xs
    induction xs with
    | nil => intro k _; exact .nil
    | cons x xs ih =>
      intro k hk
      rw [List.length_cons, List.range'_succ]
      refine .cons (hk 0 x rfl) (ih (k + 1) fun i y hy => ?_)
      have := hk (i + 1) y (by simpa using hy)
      rw [show k + 1 + i = k + (i + 1) by omega]
      exact this
  have := key l.toList 0 (fun i x hx => by rw [Nat.zero_add, ← Array.getElem?_toList]; exact hx)
  rw [List.range_eq_range', ← Array.length_toList]
  exact this

theorem region_sound (hP : Fits P) {rec : Rec} (hs : Sound P rec) {ops : Array Oper} {id : Nat} (hd : ∀ o ∈ ops.toList, ∀ t, o.dst = some t → t < N) (hi : Inv e0 h0 w0 N tm h a w)
    (hn : NoFail (opsA P rec ops.toList ops.toList tm h)) : (Code.region id ops false).wpIn (fenceOf ro) n P (Post e0 h0 w0 N (opsA P rec ops.toList ops.toList tm h)) a w :=
  wpIn_region (opsA_sound hP hs (all2_range ops) hd hi hn fun tm' h' _ _ hl hi' => ⟨.nrm, tm', h', hl, rfl, hi'⟩)

end
end Go.Abs

namespace Go.Abs
noncomputable section
variable {P : Program} {tm tm' : S3 V} {h h2 : H}

theorem mapO_congr {α β : Type} {f g : α → Option β} : ∀ {l : List α}, (∀ x ∈ l, f x = g x) → mapO f l = mapO g l
  | [], _ => rfl
  | x :: xs, hh => by
    show optB (f x) none (fun y => optB (mapO f xs) none fun ys => some (y :: ys)) = optB (g x) none (fun y => optB (mapO g xs) none fun ys => some (y :: ys))
    rw [hh x (List.mem_cons_self ..), mapO_congr fun y hy => hh y (List.mem_cons_of_mem _ hy)]

theorem opR_congr {op : Op} (hh : ∀ x ∈ op.operands, opd tm x = opd tm' x) : opR P tm h op = opR P tm' h op := by
  cases op with
  | move x => have h1 := hh x (by simp [Op.operands]); show vR h (opd tm x) = vR h (opd tm' x); rw [h1]
  | assign x => have h1 := hh x (by simp [Op.operands]); show vR h (opd tm x) = vR h (opd tm' x); rw [h1]
  | pick c x y =>
    have h1 := hh c (by simp [Op.operands]); have h2 := hh x (by simp [Op.operands]); have h3 := hh y (by simp [Op.operands])
    show opPick tm h c x y = opPick tm' h c x y
    unfold opPick; rw [h1, h2, h3]
  | box t x => have h1 := hh x (by simp [Op.operands]); show opBox tm h x = opBox tm' h x; unfold opBox; rw [h1]
  | build t ps =>
    have h1 : mapO (partOpd tm) ps.toList = mapO (partOpd tm') ps.toList := mapO_congr fun p hp => by
      have := hh p.2 (by simp only [Op.operands, List.mem_toArray]; exact List.mem_map.2 ⟨p, hp, rfl⟩)
      unfold partOpd; rw [this]
    show opBuild P tm h t ps = opBuild P tm' h t ps
    unfold opBuild; rw [h1]
  | buildSlice t n ps =>
    have h1 : mapO (partOpd tm) ps.toList = mapO (partOpd tm') ps.toList := mapO_congr fun p hp => by
      have := hh p.2 (by simp only [Op.operands, List.mem_toArray]; exact List.mem_map.2 ⟨p, hp, rfl⟩)
      unfold partOpd; rw [this]
    show opBuildSlice P tm h t n ps = opBuildSlice P tm' h t n ps
    unfold opBuildSlice; rw [h1]
  | insert t m k v =>
    have h1 := hh m (by simp [Op.operands]); have h2 := hh k (by simp [Op.operands]); have h3 := hh v (by simp [Op.operands])
    show opUpdate P tm h t m k v = opUpdate P tm' h t m k v
    unfold opUpdate; rw [h1, h2, h3]
  | mapUpdate t m k v =>
    have h1 := hh m (by simp [Op.operands]); have h2 := hh k (by simp [Op.operands]); have h3 := hh v (by simp [Op.operands])
    show opUpdate P tm h t m k v = opUpdate P tm' h t m k v
    unfold opUpdate; rw [h1, h2, h3]
  | load t x => have h1 := hh x (by simp [Op.operands]); show opLoad P tm h t x = opLoad P tm' h t x; unfold opLoad; rw [h1]
  | store t x y =>
    have h1 := hh x (by simp [Op.operands]); have h2 := hh y (by simp [Op.operands])
    show opStore P tm h t x y = opStore P tm' h t x y
    unfold opStore; rw [h1, h2]
  | nilCheck x => have h1 := hh x (by simp [Op.operands]); show opNil tm h x = opNil tm' h x; unfold opNil; rw [h1]
  | binOp op t x y yt =>
    have h1 := hh x (by simp [Op.operands]); have h2 := hh y (by simp [Op.operands])
    show opBin P tm h op t x y = opBin P tm' h op t x y
    unfold opBin; rw [h1, h2]
  | unOp op t x => have h1 := hh x (by simp [Op.operands]); show opUn tm h op x = opUn tm' h op x; unfold opUn; rw [h1]
  | convert s d x => have h1 := hh x (by simp [Op.operands]); show opConv P tm h s d x = opConv P tm' h s d x; unfold opConv; rw [h1]
  | makeFunc f x y =>
    have h1 : mapO (opdW tm) x.toList = mapO (opdW tm') x.toList := mapO_congr fun p hp => by
      have := hh p (by simp only [Op.operands, Array.mem_append]; exact .inl (Array.mem_toList_iff.1 hp))
      unfold opdW; rw [this]
    have h2 : mapO (opdW tm) y.toList = mapO (opdW tm') y.toList := mapO_congr fun p hp => by
      have := hh p (by simp only [Op.operands, Array.mem_append]; exact .inr (Array.mem_toList_iff.1 hp))
      unfold opdW; rw [this]
    show opMakeFunc tm h f x y = opMakeFunc tm' h f x y
    unfold opMakeFunc; rw [h1, h2]
  | makeSlice t x y =>
    have h1 := hh x (by simp [Op.operands]); have h2 := hh y (by simp [Op.operands])
    show opMakeSlice P tm h t x y = opMakeSlice P tm' h t x y
    unfold opMakeSlice; rw [h1, h2]
  | slice t x lo hi mx =>
    have h1 := hh x (by simp [Op.operands])
    have h2 : ∀ d, optOpd tm d lo = optOpd tm' d lo := fun d => by
      cases lo with
      | none => rfl
      | some p => have := hh p (by simp [Op.operands]); unfold optOpd; simp only [optB_some]; rw [this]
    have h3 : ∀ d, optOpd tm d hi = optOpd tm' d hi := fun d => by
      cases hi with
      | none => rfl
      | some p => have := hh p (by simp [Op.operands]); unfold optOpd; simp only [optB_some]; rw [this]
    show opSlice P tm h t x lo hi mx = opSlice P tm' h t x lo hi mx
    unfold opSlice; simp only [h1, h2, h3]
  | fieldAddr s x f => have h1 := hh x (by simp [Op.operands]); show opFieldAddr P tm h s x f = opFieldAddr P tm' h s x f; unfold opFieldAddr; rw [h1]
  | field s x f => have h1 := hh x (by simp [Op.operands]); show opField P tm h s x f = opField P tm' h s x f; unfold opField; rw [h1]
  | indexAddr t x i =>
    have h1 := hh x (by simp [Op.operands]); have h2 := hh i (by simp [Op.operands])
    show opIndexAddr P tm h t x i = opIndexAddr P tm' h t x i
    unfold opIndexAddr; rw [h1, h2]
  | index t x i =>
    have h1 := hh x (by simp [Op.operands]); have h2 := hh i (by simp [Op.operands])
    show opIndex P tm h t x i = opIndex P tm' h t x i
    unfold opIndex; rw [h1, h2]
  | lookup t x k ok =>
    have h1 := hh x (by simp [Op.operands]); have h2 := hh k (by simp [Op.operands])
    show opLookup P tm h t x k ok = opLookup P tm' h t x k ok
    unfold opLookup; rw [h1, h2]
  | mapEntry t x k =>
    have h1 := hh x (by simp [Op.operands]); have h2 := hh k (by simp [Op.operands])
    show opMapEntry P tm h t x k = opMapEntry P tm' h t x k
    unfold opMapEntry; rw [h1, h2]
  | entryStore t m k v =>
    have h1 := hh m (by simp [Op.operands]); have h2 := hh k (by simp [Op.operands]); have h3 := hh v (by simp [Op.operands])
    show opEntryStore tm h m k v = opEntryStore tm' h m k v
    unfold opEntryStore; rw [h1, h2, h3]
  | range t x => have h1 := hh x (by simp [Op.operands]); show opRange P tm h t x = opRange P tm' h t x; unfold opRange; rw [h1]
  | next x s => have h1 := hh x (by simp [Op.operands]); show ifB s none (opNext tm h x) = ifB s none (opNext tm' h x); unfold opNext; rw [h1]
  | entry x => have h1 := hh x (by simp [Op.operands]); show opEntry tm h x = opEntry tm' h x; unfold opEntry; rw [h1]
  | extract x i => have h1 := hh x (by simp [Op.operands]); show opExtract tm h x i = opExtract tm' h x i; unfold opExtract; rw [h1]
  | call c =>
    have h1 : mapO (opd tm) c.args.toList = mapO (opd tm') c.args.toList := mapO_congr fun p hp => hh p (by
      simp only [Op.operands, Call.operands]
      have hp' := Array.mem_toList_iff.1 hp
      split <;> simp [hp'])
    show callR P tm h c = callR P tm' h c
    unfold callR
    rw [h1]
    cases hc : c.callee with
    | value f =>
      have := hh f (by simp [Op.operands, Call.operands, hc])
      simp only [this]
    | _ => rfl
  | _ => rfl

/-! ### operations that memory does not matter to -/
def vo (x : Option R) : Option V := optB x none valOf
theorem vo_optB {α : Type} (x : Option α) (s : α → Option R) : vo (optB x none s) = optB x none fun y => vo (s y) := by cases x <;> rfl
theorem vo_optB' {α : Type} (x : Option α) (d : Option R) (s : α → Option R) : vo (optB x d s) = optB x (vo d) fun y => vo (s y) := by cases x <;> rfl
theorem vo_none : vo none = none := rfl
theorem vo_ifB (b : Bool) (x : Option R) : vo (ifB b x none) = ifB b (vo x) none := by cases b <;> rfl
theorem vo_vR (x : Option V) : vo (vR h x) = x := by cases x <;> rfl
theorem vo_vBool (v : V) (s : Bool → Option R) : vo (vBool v none s) = vBool v none fun b => vo (s b) := by
  cases v with
  | c x => cases x <;> rfl
  | _ => rfl
theorem vo_vNat (v : V) (s : Nat → Option R) : vo (vNat v none s) = vNat v none fun b => vo (s b) := by
  cases v with
  | c x => cases x with
    | int k n => cases n <;> rfl
    | _ => rfl
  | _ => rfl
theorem vo_vStr (v : V) (s : ByteArray → Option R) : vo (vStr v none s) = vStr v none fun b => vo (s b) := by
  cases v with
  | c x => cases x <;> rfl
  | _ => rfl
theorem vo_vPtr (v : V) (d : Option R) (s : Nat → Nat → Option R) : vo (vPtr v d s) = vPtr v (vo d) fun b o => vo (s b o) := by
  cases v with
  | c x => cases x <;> rfl
  | _ => rfl
theorem vo_vSl (v : V) (z : Option R) (s : Nat → Nat → Nat → Nat → Option Nat → Option R) : vo (vSl v none z s) = vSl v none (vo z) fun b o n q c => vo (s b o n q c) := by
  cases v with
  | c x => cases x <;> rfl
  | _ => rfl
theorem vo_vFn (v : V) (s : Fn → List W → List W → Option R) : vo (vFn v none s) = vFn v none fun f a b => vo (s f a b) := by
  cases v with
  | c x => cases x <;> rfl
  | _ => rfl
theorem vo_vAgg (v : V) (s : Nat → List C → Option R) : vo (vAgg v none s) = vAgg v none fun n l => vo (s n l) := by cases v <;> rfl
theorem vo_vTup (v : V) (s : List U → Option R) : vo (vTup v none s) = vTup v none fun l => vo (s l) := by cases v <;> rfl
theorem vo_val (v : V) : vo (some (.val v h)) = some v := rfl

theorem op0_mem {op : Op} (hc : classOf op = 0) : vo (opR P tm h op) = vo (opR P tm h2 op) := by
  cases op with
  | move x => show vo (vR h _) = vo (vR h2 _); rw [vo_vR, vo_vR]
  | assign x => show vo (vR h _) = vo (vR h2 _); rw [vo_vR, vo_vR]
  | pick c x y => show vo (opPick tm h c x y) = vo (opPick tm h2 c x y); simp only [opPick, vo_optB, vo_vBool, vo_vR]
  | build t ps => show vo (opBuild P tm h t ps) = vo (opBuild P tm h2 t ps); simp only [opBuild, vo_optB, vo_vR]
  | nilCheck x => show vo (opNil tm h x) = vo (opNil tm h2 x); simp only [opNil, vo_optB, vo_vPtr, vo_vFn, vo_ifB, vo_val]
  | binOp op t x y yt => show vo (opBin P tm h op t x y) = vo (opBin P tm h2 op t x y); simp only [opBin, vo_optB, vo_vR]
  | unOp op t x => show vo (opUn tm h op x) = vo (opUn tm h2 op x); simp only [opUn, vo_optB, vo_vR]
  | convert s d x => show vo (opConv P tm h s d x) = vo (opConv P tm h2 s d x); simp only [opConv, vo_optB, vo_vR]
  | makeFunc f x y => show vo (opMakeFunc tm h f x y) = vo (opMakeFunc tm h2 f x y); simp only [opMakeFunc, vo_optB, vo_ifB, vo_val]
  | slice t x lo hi mx =>
    show vo (opSlice P tm h t x lo hi mx) = vo (opSlice P tm h2 t x lo hi mx)
    unfold opSlice
    cases mx with
    | some m => rfl
    | none =>
      simp only [optB_none]
      cases tk P t with
      | sl e => simp only [vo_optB', vo_none, vo_ifB, vo_vSl, vo_val, vo_vR]
      | arr m e => simp only [vo_optB', vo_none, vo_ifB, vo_vPtr, vo_vR]
      | _ => simp only [vo_optB', vo_none]
  | fieldAddr s x f =>
    show vo (opFieldAddr P tm h s x f) = vo (opFieldAddr P tm h2 s x f)
    unfold opFieldAddr onStT addrR
    cases tk P s with
    | st fs => simp only [vo_optB, vo_vPtr]; congr; funext fl; congr; funext p; congr; funext b o; cases Nat.beq (P.cellsOf fl.type) 0 <;> rfl
    | _ => rfl
  | field s x f =>
    show vo (opField P tm h s x f) = vo (opField P tm h2 s x f)
    unfold opField onStT
    cases tk P s with
    | st fs => simp only [vo_optB, vo_vAgg, vo_vR]
    | _ => rfl
  | indexAddr t x i =>
    show vo (opIndexAddr P tm h t x i) = vo (opIndexAddr P tm h2 t x i)
    unfold opIndexAddr elemAddr addrR
    cases tk P t <;> simp only [vo_optB, vo_vNat, vo_vSl, vo_vPtr, vo_ifB, vo_val] <;> rfl
  | index t x i =>
    show vo (opIndex P tm h t x i) = vo (opIndex P tm h2 t x i)
    unfold opIndex
    cases tk P t <;> simp only [vo_optB, vo_vNat, vo_vStr, vo_vAgg, vo_ifB, vo_val, vo_vR] <;> rfl
  | extract x i => show vo (opExtract tm h x i) = vo (opExtract tm h2 x i); simp only [opExtract, vo_optB, vo_vTup, vo_val]
  | call c =>
    obtain ⟨cal, args, tys⟩ := c
    cases cal with
    | builtin b =>
      show vo (callR P tm h _) = vo (callR P tm h2 _)
      unfold callR
      simp only [vo_optB]
      congr
      funext asn
      cases b with
      | min => show vo (listB asn none _) = vo (listB asn none _); cases asn with
        | nil => rfl
        | cons x r => show vo (vR h _) = vo (vR h2 _); rw [vo_vR, vo_vR]
      | max => show vo (listB asn none _) = vo (listB asn none _); cases asn with
        | nil => rfl
        | cons x r => show vo (vR h _) = vo (vR h2 _); rw [vo_vR, vo_vR]
      | len => cases hc
      | _ => cases hc
    | _ => cases hc
  | _ => first | cases hc | rfl

end
end Go.Abs

namespace Go.Abs
noncomputable section

theorem eqPlain_eq {x y : C} (hh : eqPlain x y = true) : x = y := by
  cases x with
  | bool b => cases y with
    | bool c => rw [show b = c from by have : boolEq b c = true := hh; rw [boolEq_eq] at this; exact beq_iff_eq.1 this]
    | _ => cases hh
  | int k n => cases y with
    | int k' n' =>
      have h0 : ifB (kindEq k k') (intEq n n') false = true := hh
      cases hk : kindEq k k' with
      | false => rw [hk] at h0; cases h0
      | true =>
        rw [hk] at h0
        have h1 : intEq n n' = true := h0
        rw [intEq_eq] at h1
        rw [kindEq_eq hk, beq_iff_eq.1 h1]
    | _ => cases hh
  | str s => cases y with
    | str t => rw [(strEq_eq s t).1 hh]
    | _ => cases hh
  | _ => cases hh

theorem natO_eq {x y : Option Nat} (hh : natO x y = true) : x = y := by
  cases x with
  | none => cases y with
    | none => rfl
    | some y => cases hh
  | some x => cases y with
    | none => cases hh
    | some y => rw [natBeq_iff.1 (show Nat.beq x y = true from hh)]
theorem ifB_true' {b x : Bool} (hh : ifB b x false = true) : b = true ∧ x = true := by
  cases b with
  | false => cases hh
  | true => exact ⟨rfl, hh⟩
theorem eqCn_eq {x y : C} (hh : eqCn x y = true) : x = y := by
  cases x with
  | bool b => exact eqPlain_eq hh
  | int k n => exact eqPlain_eq hh
  | str s => exact eqPlain_eq hh
  | ptr0 => cases y with
    | ptr0 => rfl
    | _ => cases hh
  | ptr b o => cases y with
    | ptr b' o' =>
      obtain ⟨h1, h2⟩ := ifB_true' (show ifB (Nat.beq b b') (Nat.beq o o') false = true from hh)
      rw [natBeq_iff.1 h1, natBeq_iff.1 h2]
    | _ => cases hh
  | sl0 => cases y with
    | sl0 => rfl
    | _ => cases hh
  | sl b o n s c => cases y with
    | sl b' o' n' s' c' =>
      obtain ⟨h1, h2⟩ := ifB_true' (show ifB (Nat.beq b b') (ifB (Nat.beq o o') (ifB (Nat.beq n n') (ifB (Nat.beq s s') (natO c c') false) false) false) false = true from hh)
      obtain ⟨h3, h4⟩ := ifB_true' h2
      obtain ⟨h5, h6⟩ := ifB_true' h4
      obtain ⟨h7, h8⟩ := ifB_true' h6
      rw [natBeq_iff.1 h1, natBeq_iff.1 h3, natBeq_iff.1 h5, natBeq_iff.1 h7, natO_eq h8]
    | _ => cases hh
  | map0 => cases y with
    | map0 => rfl
    | _ => cases hh
  | map r => cases y with
    | map r' => rw [natBeq_iff.1 (show Nat.beq r r' = true from hh)]
    | _ => cases hh
  | fn f p q => cases hh
  | nilFn => cases hh
  | nilIface => cases hh
theorem eqL_sound {α : Type} {eq : α → α → Bool} (he : ∀ x y, eq x y = true → x = y) : ∀ {l r : List α}, eqL eq l r = true → l = r
  | [], [], _ => rfl
  | [], _ :: _, hh => by cases hh
  | _ :: _, [], hh => by cases hh
  | x :: xs, y :: ys, hh => by
    obtain ⟨h1, h2⟩ := ifB_true' (show ifB (eq x y) (eqL eq xs ys) false = true from hh)
    rw [he x y h1, eqL_sound he h2]
theorem c0C_inj {x y : C0} (h : c0C x = c0C y) : x = y := by
  cases x <;> cases y <;> first | rfl | (cases h; rfl) | cases h
theorem mapS_inj {α β : Type} {f : α → β} (hf : ∀ x y, f x = f y → x = y) : ∀ {l r : List α}, mapS f l = mapS f r → l = r
  | [], [], _ => rfl
  | [], _ :: _, h => by cases h
  | _ :: _, [], h => by cases h
  | x :: xs, y :: ys, h => by
    have h : f x :: mapS f xs = f y :: mapS f ys := h
    obtain ⟨h1, h2⟩ := List.cons.inj h
    rw [hf _ _ h1, mapS_inj hf h2]
theorem eqFn_eq {x y : Fn} (hh : eqFn x y = true) : x = y := by
  cases x with
  | func g => cases y with
    | func g' => rw [natBeq_iff.1 (show Nat.beq g g' = true from hh)]
    | _ => cases hh
  | yield l => cases y with
    | yield l' => rw [natBeq_iff.1 (show Nat.beq l l' = true from hh)]
    | _ => cases hh
  | _ => cases hh
theorem eqW_eq {x y : W} (hh : eqW x y = true) : x = y := by
  cases x with
  | c x => cases y with
    | c y => rw [c0C_inj (eqCn_eq (show eqCn (c0C x) (c0C y) = true from hh))]
    | agg m r => cases hh
  | agg n l => cases y with
    | c y => cases hh
    | agg m r =>
      obtain ⟨h1, h2⟩ := ifB_true' (show ifB (Nat.beq n m) (eqL eqCn (mapS c0C l) (mapS c0C r)) false = true from hh)
      rw [natBeq_iff.1 h1, mapS_inj (fun _ _ => c0C_inj) (eqL_sound (fun _ _ => eqCn_eq) h2)]
theorem eqC_eq {x y : C} (hh : eqC x y = true) : x = y := by
  cases x with
  | fn f p q => cases y with
    | fn f' p' q' =>
      obtain ⟨h1, h2⟩ := ifB_true' (show ifB (eqFn f f') (ifB (eqL eqW p p') (eqL eqW q q') false) false = true from hh)
      obtain ⟨h3, h4⟩ := ifB_true' h2
      rw [eqFn_eq h1, eqL_sound (fun _ _ => eqW_eq) h3, eqL_sound (fun _ _ => eqW_eq) h4]
    | _ => cases hh
  | nilFn => cases y with
    | nilFn => rfl
    | _ => cases hh
  | nilIface => cases hh
  | _ => exact eqCn_eq hh
theorem eqU_eq {x y : U} (hh : eqU x y = true) : x = y := by
  cases x with
  | c x => cases y with
    | c y => rw [eqC_eq (show eqC x y = true from hh)]
    | agg m r => cases hh
  | agg n l => cases y with
    | c y => cases hh
    | agg m r =>
      obtain ⟨h1, h2⟩ := ifB_true' (show ifB (Nat.beq n m) (eqL eqC l r) false = true from hh)
      rw [natBeq_iff.1 h1, eqL_sound (fun _ _ => eqC_eq) h2]
theorem sameV_eq {x y : V} (hh : sameV x y = true) : x = y := by
  cases x with
  | c x => cases y with
    | c y => rw [eqC_eq (show eqC x y = true from hh)]
    | _ => cases hh
  | agg n l => cases y with
    | agg m r =>
      obtain ⟨h1, h2⟩ := ifB_true' (show ifB (Nat.beq n m) (eqL eqC l r) false = true from hh)
      rw [natBeq_iff.1 h1, eqL_sound (fun _ _ => eqC_eq) h2]
    | _ => cases hh
  | tup l => cases y with
    | tup r => rw [eqL_sound (fun _ _ => eqU_eq) (show eqL eqU l r = true from hh)]
    | _ => cases hh
theorem eqAO_eq {x y : AO} (hh : eqAO x y = true) : x = y := by
  cases x with
  | cells n vs opn => cases y with
    | cells n' vs' opn' =>
      obtain ⟨h1, h2⟩ := ifB_true' (show ifB (Nat.beq n n') (ifB (boolEq opn opn') (eqL eqC vs vs') false) false = true from hh)
      obtain ⟨h3, h4⟩ := ifB_true' h2
      rw [boolEq_eq] at h3
      rw [natBeq_iff.1 h1, beq_iff_eq.1 h3, eqL_sound (fun _ _ => eqC_eq) h4]
    | _ => cases hh
  | _ => cases hh

/-! ### what two memories share -/
theorem sel_zip {α : Type} (d : D8) (f : α → α → α) (x y : N8 α) : sel d (zip8 f x y) = f (sel d x) (sel d y) := by
  cases x; cases y; cases d <;> rfl
theorem interL_some {α : Type} {eq : α → α → Bool} {x y : L α} {k : Nat} {a : α} (hh : interL eq x y = .x k a) : x = .x k a ∧ ∃ b, y = .x k b ∧ eq a b = true := by
  cases x with
  | e => cases hh
  | x j u =>
    cases y with
    | e => cases hh
    | x m v =>
      have h0 : ifB (Nat.beq j m) (ifB (eq u v) (.x j u) .e) .e = L.x k a := hh
      cases h1 : Nat.beq j m with
      | false => rw [h1] at h0; cases h0
      | true =>
        rw [h1, ifB_true] at h0
        have := natBeq_iff.1 h1
        subst this
        cases h2 : eq u v with
        | false => rw [h2] at h0; cases h0
        | true =>
          rw [h2, ifB_true] at h0
          cases h0
          exact ⟨rfl, v, rfl, h2⟩
theorem bothO_some {α : Type} {eq : α → α → Bool} {x y : Option α} {a : α} (hh : bothO eq x y = some a) : x = some a ∧ ∃ b, y = some b ∧ eq a b = true := by
  cases x with
  | none => cases hh
  | some u =>
    cases y with
    | none => cases hh
    | some v =>
      have h0 : ifB (eq u v) (some u) none = some a := hh
      obtain ⟨h1, h2⟩ := ifB_eq h0
      cases h2
      exact ⟨rfl, v, rfl, h1⟩
theorem get5_inter {α : Type} {eq : α → α → Bool} {x y : S5 α} {k : Nat} {a : α} (hh : get5 (inter5 eq x y) k = some a) : get5 x k = some a ∧ ∃ b, get5 y k = some b ∧ eq a b = true := by
  cases x with
  | f g => exact bothO_some (show bothO eq (g k) (get5 y k) = some a from hh)
  | t x =>
    cases y with
    | f g => exact bothO_some (show bothO eq (tget5 x k) (g k) = some a from hh)
    | t y =>
      have h0 : tget5 (zip8 (zip8 (zip8 (zip8 (zip8 (interL eq))))) x y) k = some a := hh
      have hl : look5 (path5 k) (zip8 (zip8 (zip8 (zip8 (zip8 (interL eq))))) x y) = interL eq (look5 (path5 k) x) (look5 (path5 k) y) := by
        cases path5 k with
        | p a b c d e => simp only [look5, sel_zip]
      rw [tget5_look, hl] at h0
      obtain ⟨h1, b, h2, h3⟩ := interL_some (atL_some h0)
      have hk : ∀ u : α, atL k (L.x k u) = some u := fun u => by show ifB (Nat.beq k k) (some u) none = some u; rw [Nat.beq_refl]; rfl
      exact ⟨by show tget5 x k = _; rw [tget5_look, h1, hk], b, by show tget5 y k = _; rw [tget5_look, h2, hk], h3⟩
theorem mergeH_l {x y : H} : x.nxt ≤ (mergeH x y).nxt ∧ ∀ b o, get5 (mergeH x y).t b = some o → get5 x.t b = some o := by
  refine ⟨?_, fun b o hb => (get5_inter hb).1⟩
  show x.nxt ≤ ifB (Nat.ble x.nxt y.nxt) y.nxt x.nxt
  cases hb : Nat.ble x.nxt y.nxt with
  | true => exact Nat.le_of_ble_eq_true hb
  | false => exact Nat.le_refl _
theorem mergeH_r {x y : H} : y.nxt ≤ (mergeH x y).nxt ∧ ∀ b o, get5 (mergeH x y).t b = some o → get5 y.t b = some o := by
  refine ⟨?_, fun b o hb => ?_⟩
  · show y.nxt ≤ ifB (Nat.ble x.nxt y.nxt) y.nxt x.nxt
    cases hb : Nat.ble x.nxt y.nxt with
    | true => exact Nat.le_refl _
    | false =>
      rcases Nat.lt_or_ge y.nxt x.nxt with hq | hq
      · exact Nat.le_of_lt hq
      · rw [Nat.ble_eq_true_of_le hq] at hb; cases hb
  · obtain ⟨_, o', h2, h3⟩ := get5_inter hb
    rw [eqAO_eq h3]; exact h2

/-! ### some of the slots -/
def keepL {α : Type} (p : Nat → Bool) : L α → L α
  | .e => .e
  | .x k a => if p k then .x k a else .e
def map8 {α β : Type} (f : α → β) : N8 α → N8 β
  | .n a0 a1 a2 a3 a4 a5 a6 a7 => .n (f a0) (f a1) (f a2) (f a3) (f a4) (f a5) (f a6) (f a7)
theorem sel_map {α β : Type} (d : D8) (f : α → β) (x : N8 α) : sel d (map8 f x) = f (sel d x) := by
  cases x; cases d <;> rfl
def keep3 {α : Type} (p : Nat → Bool) (t : S3 α) : S3 α := map8 (map8 (map8 (keepL p))) t
theorem get3_keep {α : Type} (p : Nat → Bool) (t : S3 α) (k : Nat) : get3 (keep3 p t) k = if p k then get3 t k else none := by
  rw [get3_look, get3_look]
  have : look3 (path3 k) (keep3 p t) = keepL p (look3 (path3 k) t) := by
    cases path3 k with
    | p a b c => simp only [look3, keep3, sel_map]
  rw [this]
  cases look3 (path3 k) t with
  | e => simp [keepL, atL]
  | x j a =>
    have ha : ∀ u : α, atL k (L.x j u) = ifB (Nat.beq j k) (some u) none := fun _ => rfl
    have he : atL k (L.e : L α) = none := rfl
    cases hb : Nat.beq j k with
    | true =>
      have := natBeq_iff.1 hb
      subst this
      unfold keepL
      cases hp : p j <;> simp [ha, he, hp]
    | false =>
      unfold keepL
      cases hp : p j <;> simp [ha, he, hb, hp, ifB_false]

end
end Go.Abs

namespace Go.Abs
noncomputable section
variable {P : Program} {e : Env} {tm : S3 V} {h : H} {w : World} {a : Act} {o : Oper}
variable {e0 : Env} {h0 : H} {w0 : World} {N : Nat} {ro : Option Nat} {n : Nat}

/-! ### who comes before whom -/
theorem atS_none {α : Type} : ∀ {l : List α} {i : Nat}, atS l i = none → l[i]? = none
  | [], i, _ => by simp
  | x :: xs, 0, hh => by cases hh
  | x :: xs, i + 1, hh => by
    have : atS xs i = none := hh
    have := atS_none this
    simpa using this
theorem getL_eq {α : Type} (l : List α) (i : Nat) (d : α) : getL l i d = l.getD i d := by
  unfold getL
  rw [List.getD_eq_getElem?_getD]
  cases hs : atS l i with
  | none => rw [atS_none hs]; rfl
  | some x => rw [atS_eq hs]; rfl
theorem mem_waits {o : Oper} {m : Nat} : m ∈ waitsFor o ↔ ∃ ed ∈ o.after.toList, Region.binds .any ed = true ∧ ed.on = m := by
  unfold waitsFor
  generalize o.after.toList = l
  induction l with
  | nil => simp
  | cons x xs ih =>
    show m ∈ ifB (bindsE x) (x.on :: _) _ ↔ _
    cases hb : bindsE x with
    | true =>
      rw [ifB_true, List.mem_cons, ih]
      constructor
      · rintro (h1 | ⟨ed, h1, h2, h3⟩)
        · exact ⟨x, List.mem_cons_self .., hb, h1.symm⟩
        · exact ⟨ed, List.mem_cons_of_mem _ h1, h2, h3⟩
      · rintro ⟨ed, h1, h2, h3⟩
        rcases List.mem_cons.1 h1 with rfl | h1
        · exact .inl h3.symm
        · exact .inr ⟨ed, h1, h2, h3⟩
    | false =>
      rw [ifB_false, ih]
      constructor
      · rintro ⟨ed, h1, h2, h3⟩
        exact ⟨ed, List.mem_cons_of_mem _ h1, h2, h3⟩
      · rintro ⟨ed, h1, h2, h3⟩
        rcases List.mem_cons.1 h1 with rfl | h1
        · have : bindsE ed = true := h2
          rw [hb] at this; cases this
        · exact ⟨ed, h1, h2, h3⟩
theorem forceN_eq {β : Type} (x : Nat) (k : Nat → β) : forceN x k = k x := by cases x <;> rfl
theorem forceL_eq {α β : Type} (x : List α) (k : List α → β) : forceL x k = k x := by cases x <;> rfl
theorem bitB_eq (m i : Nat) : bitB m i = m.testBit i := by
  have h1 : Nat.land (Nat.shiftRight m i) 1 = m / 2 ^ i % 2 := by
    show (m >>> i) &&& 1 = _
    rw [Nat.and_one_is_mod, Nat.shiftRight_eq_div_pow]
  rw [Nat.testBit_eq_decide_div_mod_eq]
  show Nat.beq (Nat.land (Nat.shiftRight m i) 1) 1 = _
  rw [h1]
  cases hb : Nat.beq (m / 2 ^ i % 2) 1 with
  | true => rw [natBeq_iff.1 hb]; rfl
  | false =>
    symm
    rw [decide_eq_false_iff_not]
    intro hc
    rw [hc] at hb
    cases hb
def inB (bf : List Nat) (j i : Nat) : Prop := bitB (bf.getD j 0) i = true
theorem bit_zero (x : Nat) : bitB 0 x = false := by rw [bitB_eq, Nat.zero_testBit]
theorem maskOf_bit {acc : List Nat} {x : Nat} : ∀ {ws : List Nat}, bitB (maskOf acc ws) x = true → x ∈ ws ∨ ∃ m ∈ ws, bitB (acc.getD m 0) x = true
  | [], hh => by
    rw [show maskOf acc [] = 0 from rfl, bit_zero] at hh
    cases hh
  | m :: ws, hh => by
    have h0 : bitB ((2 ^ m ||| getL acc m 0) ||| maskOf acc ws) x = true := hh
    rw [bitB_eq, Nat.testBit_or, Nat.testBit_or, Bool.or_eq_true, Bool.or_eq_true, Nat.testBit_two_pow] at h0
    rcases h0 with (h1 | h1) | h1
    · have : m = x := by simpa using h1
      exact .inl (by rw [this]; exact List.mem_cons_self ..)
    · rw [getL_eq] at h1
      exact .inr ⟨m, List.mem_cons_self .., by rw [bitB_eq]; exact h1⟩
    · rw [← bitB_eq] at h1
      rcases maskOf_bit h1 with h2 | ⟨k, h2, h3⟩
      · exact .inl (List.mem_cons_of_mem _ h2)
      · exact .inr ⟨k, List.mem_cons_of_mem _ h2, h3⟩

theorem befores_spec {L : List Oper} : ∀ (l : List Oper) (acc : List Nat) (pre : List Oper), L = pre ++ l → acc.length = pre.length →
    (∀ j, j < acc.length → acc.getD j 0 = maskOf (acc.take j) (waitsFor (atO L j))) →
    (befores acc l).length = L.length ∧ ∀ j, j < L.length → (befores acc l).getD j 0 = maskOf ((befores acc l).take j) (waitsFor (atO L j))
  | [], acc, pre, hL, hlen, hp => by
    have hl : acc.length = L.length := by rw [hL, List.append_nil]; exact hlen
    exact ⟨hl, fun j hj => hp j (by show j < acc.length; omega)⟩
  | o :: l, acc, pre, hL, hlen, hp => by
    have hun : befores acc (o :: l) = befores (acc ++ [maskOf acc (waitsFor o)]) l := by
      show forceN (maskOf acc (waitsFor o)) (fun m => forceL (appS acc [m]) fun acc => befores acc l) = _
      rw [forceN_eq, forceL_eq, appS_eq]
    rw [hun]
    refine befores_spec l _ (pre ++ [o]) (by rw [hL]; simp) (by simp [hlen]) fun j hj => ?_
    have hj' : j < acc.length + 1 := by simpa using hj
    by_cases hja : j < acc.length
    · rw [List.getD_eq_getElem?_getD, List.getElem?_append_left hja, ← List.getD_eq_getElem?_getD, List.take_append_of_le_length (Nat.le_of_lt hja)]
      exact hp j hja
    · have hje : j = acc.length := by omega
      subst hje
      have hat : atO L acc.length = o := by
        unfold atO
        rw [getL_eq, hL, hlen]
        simp
      rw [hat]
      have ht : (acc ++ [maskOf acc (waitsFor o)]).take acc.length = acc := by simp
      rw [ht]
      simp
theorem bf_spec (L : List Oper) : ∀ j, j < L.length → ∀ x, inB (befores [] L) j x → x ∈ waitsFor (atO L j) ∨ ∃ m ∈ waitsFor (atO L j), m < j ∧ inB (befores [] L) m x := by
  intro j hj x hx
  obtain ⟨hlen, hs⟩ := befores_spec (L := L) L [] [] rfl rfl (fun j hj => by simp at hj)
  unfold inB at hx
  rw [hs j hj] at hx
  rcases maskOf_bit hx with h1 | ⟨m, hm, hxm⟩
  · exact .inl h1
  · by_cases hmj : m < j
    · refine .inr ⟨m, hm, hmj, ?_⟩
      rw [List.getD_eq_getElem?_getD, List.getElem?_take, if_pos hmj, ← List.getD_eq_getElem?_getD] at hxm
      exact hxm
    · rw [List.getD_eq_getElem?_getD, List.getElem?_take, if_neg hmj] at hxm
      rw [show (none : Option Nat).getD 0 = 0 from rfl, bit_zero] at hxm
      cases hxm

theorem maskOf_mem {acc : List Nat} {x : Nat} : ∀ {ws : List Nat}, x ∈ ws → bitB (maskOf acc ws) x = true
  | [], hh => by cases hh
  | m :: ws, hh => by
    show bitB ((2 ^ m ||| getL acc m 0) ||| maskOf acc ws) x = true
    rw [bitB_eq, Nat.testBit_or, Nat.testBit_or, Bool.or_eq_true, Bool.or_eq_true, Nat.testBit_two_pow]
    rcases List.mem_cons.1 hh with rfl | h1
    · exact .inl (.inl (by simp))
    · exact .inr (by rw [← bitB_eq]; exact maskOf_mem h1)
theorem waits_bf (L : List Oper) {j : Nat} (hj : j < L.length) {m : Nat} (hm : m ∈ waitsFor (atO L j)) : inB (befores [] L) j m := by
  obtain ⟨hlen, hs⟩ := befores_spec (L := L) L [] [] rfl rfl (fun j hj => by simp at hj)
  unfold inB
  rw [hs j hj]
  exact maskOf_mem hm
/-- closed under what comes before -/
theorem closed_bf {L : List Oper} {S : Nat → Prop} (hS : ∀ j, j < L.length → S j → ∀ m ∈ waitsFor (atO L j), S m) : ∀ i, i < L.length → (∀ m ∈ waitsFor (atO L i), S m) → ∀ x, inB (befores [] L) i x → S x := by
  intro i
  induction i using Nat.strongRecOn with
  | _ i ih =>
    intro hi hw x hx
    rcases bf_spec L i hi x hx with h1 | ⟨m, hm, hmi, hxm⟩
    · exact hw x h1
    · exact ih m hmi (by omega) (hS m (by omega) (hw m hm)) x hxm

theorem belowOk_eq {p : Nat → Bool} : ∀ {n : Nat}, belowOk n p = true → ∀ i, i < n → p i = true
  | 0, _, i, hi => absurd hi (Nat.not_lt_zero i)
  | n + 1, hh, i, hi => by
    obtain ⟨h1, h2⟩ := ifB_true' (show ifB (p n) (belowOk n p) false = true from hh)
    by_cases hin : i = n
    · rw [hin]; exact h1
    · exact belowOk_eq h2 i (by omega)
theorem mem_belowF {p : Nat → Bool} : ∀ {n i : Nat}, i ∈ belowF n p ↔ i < n ∧ p i = true
  | 0, i => by
    show i ∈ [] ↔ _
    simp
  | n + 1, i => by
    show i ∈ ifB (p n) (n :: belowF n p) (belowF n p) ↔ _
    cases hp : p n with
    | true =>
      rw [ifB_true, List.mem_cons, mem_belowF]
      constructor
      · rintro (rfl | ⟨h1, h2⟩)
        · exact ⟨by omega, hp⟩
        · exact ⟨by omega, h2⟩
      · rintro ⟨h1, h2⟩
        by_cases hin : i = n
        · exact .inl hin
        · exact .inr ⟨by omega, h2⟩
    | false =>
      rw [ifB_false, mem_belowF]
      constructor
      · rintro ⟨h1, h2⟩; exact ⟨by omega, h2⟩
      · rintro ⟨h1, h2⟩
        refine ⟨?_, h2⟩
        by_cases hin : i = n
        · rw [hin, hp] at h2; cases h2
        · omega
theorem pairsOk_eq {n : Nat} {p : Nat → Nat → Bool} (hh : pairsOk n p = true) {i j : Nat} (hij : i < j) (hj : j < n) : p i j = true :=
  belowOk_eq (belowOk_eq hh j hj) i hij
theorem allS_mem {α : Type} {p : α → Bool} : ∀ {l : List α}, allS p l = true → ∀ x ∈ l, p x = true
  | [], _, x, hx => by cases hx
  | y :: ys, hh, x, hx => by
    obtain ⟨h1, h2⟩ := ifB_true' (show ifB (p y) (allS p ys) false = true from hh)
    rcases List.mem_cons.1 hx with rfl | hx
    · exact h1
    · exact allS_mem h2 x hx
theorem notB_eq {b : Bool} (hh : notB b = true) : b = false := by cases b <;> first | rfl | cases hh
theorem ltB_mem {bf : List Nat} {i j : Nat} : ltB bf i j = true ↔ inB bf j i := by
  unfold ltB inB
  rw [getL_eq]

structure Ordered (L : List Oper) : Prop where
  down : ∀ j, j < L.length → ∀ i, inB (befores [] L) j i → i < j
  chain : ∀ i j, i < j → j < L.length → clsO L i = 2 → clsO L j = 2 → fltB L (befores [] L) j = false → inB (befores [] L) j i
  apart : ∀ i j, i < j → j < L.length → inB (befores [] L) j i ∨ ((∀ t, (atO L i).dst = some t → touchesB L (atO L j) t = false) ∧ (∀ t, (atO L j).dst = some t → touchesB L (atO L i) t = false))
theorem dstOk_eq {p : Nat → Bool} {o : Oper} (hh : dstOk p o = true) : ∀ t, o.dst = some t → p t = true := fun t ht => by
  unfold dstOk at hh; rw [ht] at hh; exact hh
theorem ordered_of {L : List Oper} (hh : orderOk L (befores [] L) = true) : Ordered L := by
  unfold orderOk at hh
  rw [lenS_eq] at hh
  obtain ⟨h1, hh⟩ := ifB_true' hh
  obtain ⟨h2, h3⟩ := ifB_true' hh
  refine ⟨fun j hj i hi => ?_, fun i j hij hj hi2 hj2 hfl => ?_, fun i j hij hj => ?_⟩
  · have h4 := belowOk_eq h1 j hj
    rw [getL_eq] at h4
    have h5 : (befores [] L).getD j 0 < 2 ^ j := ltN_eq h4
    rcases Nat.lt_or_ge i j with hij | hij
    · exact hij
    · exfalso
      have h6 : ((befores [] L).getD j 0).testBit i = false := Nat.testBit_lt_two_pow (Nat.lt_of_lt_of_le h5 (Nat.pow_le_pow_right (by omega) hij))
      unfold inB at hi
      rw [bitB_eq, h6] at hi
      cases hi
  · have h4 := pairsOk_eq h2 hij hj
    rw [hi2, hj2] at h4
    have h5 : ifB (fltK (atO L j)) true (ltB (befores [] L) i j) = true := h4
    cases hk : fltK (atO L j) with
    | false => rw [hk] at h5; exact ltB_mem.1 h5
    | true =>
      unfold fltB at hfl
      rw [hk, ifB_true] at hfl
      have h6 : belowOk j (fun y => ifB (Nat.beq (clsO L y) 2) (ltB (befores [] L) y j) true) = true := by
        cases hb : belowOk j (fun y => ifB (Nat.beq (clsO L y) 2) (ltB (befores [] L) y j) true) with
        | true => rfl
        | false => rw [hb] at hfl; cases hfl
      have h7 := belowOk_eq h6 i hij
      rw [hi2] at h7
      exact ltB_mem.1 h7
  · have := pairsOk_eq h3 hij hj
    cases h4 : ltB (befores [] L) i j with
    | true => exact .inl (ltB_mem.1 h4)
    | false =>
      rw [h4, ifB_false] at this
      obtain ⟨h5, h6⟩ := ifB_true' this
      exact .inr ⟨fun t ht => notB_eq (dstOk_eq h5 t ht), fun t ht => notB_eq (dstOk_eq h6 t ht)⟩
theorem infosFrom_at {L : List Oper} {bf : List Nat} : ∀ (l : List Oper) (i : Nat), (infosFrom L bf l i).length = l.length ∧ ∀ k, k < l.length → (infosFrom L bf l i)[k]? = some (infoOf L bf (i + k))
  | [], i => ⟨rfl, fun k hk => absurd hk (Nat.not_lt_zero k)⟩
  | o :: l, i => by
    have hun : infosFrom L bf (o :: l) i = infoOf L bf i :: infosFrom L bf l (i + 1) := rfl
    obtain ⟨h1, h2⟩ := infosFrom_at (L := L) (bf := bf) l (i + 1)
    rw [hun]
    refine ⟨by simp [h1], fun k hk => ?_⟩
    cases k with
    | zero => rfl
    | succ k =>
      rw [List.getElem?_cons_succ, h2 k (by simpa using hk)]
      congr 2
      omega
theorem drawnInfo_eq {L : List Oper} {l : List DI} (hh : drawnInfo L = some l) : Ordered L ∧ l.length = L.length ∧ ∀ k, k < L.length → l[k]? = some (infoOf L (befores [] L) k) := by
  obtain ⟨h1, h2⟩ := ifB_eq (show ifB (orderOk L (befores [] L)) (some (infosFrom L (befores [] L) L 0)) none = some l from hh)
  cases h2
  obtain ⟨q1, q2⟩ := infosFrom_at (L := L) (bf := befores [] L) L 0
  exact ⟨ordered_of h1, q1, fun k hk => by rw [q2 k hk, Nat.zero_add]⟩
theorem looks_tmp {L : List Oper} {o : Oper} {t : Nat} (hx : Operand.tmp t ∈ o.op.operands) : t ∈ looks L o := by
  have hm : ∀ l : List Operand, Operand.tmp t ∈ l → t ∈ tmpsOf l := by
    intro l
    induction l with
    | nil => intro h; cases h
    | cons x xs ih =>
      intro h
      rcases List.mem_cons.1 h with rfl | h
      · exact List.mem_cons_self ..
      · have := ih h
        cases x with
        | tmp u => exact List.mem_cons_of_mem _ this
        | _ => exact this
  have h1 := hm o.op.operands.toList (Array.mem_toList_iff.2 hx)
  unfold looks
  cases o.guard with
  | none => exact h1
  | some g =>
    rw [optB_some]
    cases atS L g.1 with
    | none => exact h1
    | some p =>
      rw [optB_some]
      cases p.dst with
      | none => exact h1
      | some d => exact List.mem_cons_of_mem _ h1
theorem looks_guard {L : List Oper} {o : Oper} {j : Nat} {b : Bool} (hg : o.guard = some (j, b)) {p : Oper} (hp : atS L j = some p) {d : Nat} (hd : p.dst = some d) : d ∈ looks L o := by
  unfold looks
  rw [hg, optB_some, hp, optB_some, hd]
  exact List.mem_cons_self ..
theorem touchesB_looks {L : List Oper} {o : Oper} {t : Nat} (hx : t ∈ looks L o) : touchesB L o t = true := by
  unfold touchesB
  rw [hasNat_eq, List.contains_iff_mem.2 hx]
  rfl
theorem touchesB_dst {L : List Oper} {o : Oper} {t : Nat} (hx : o.dst = some t) : touchesB L o t = true := by
  unfold touchesB
  cases hasNat t (looks L o) with
  | true => rfl
  | false => rw [hx]; show Nat.beq t t = true; exact Nat.beq_refl t

/-! ### the run in the order of the text -/
/-- a call within it: one of its ends -/
def CallD (out : Out) (v : V) (tmx : S3 V) (M' : H) : Prop := NoFail out ∧ Leaf out (.val v) tmx M'
/-- one operation of the run: what it is at its own slots and memory -/
def ValD (P : Program) (rec : Rec) (L : List Oper) (o : Oper) (T : S3 V) (M : H) (v : V) (M' : H) : Prop :=
  ∃ t, wantQ L T o = some t ∧ (t = false → v = .tup [] ∧ M' = M) ∧
    (t = true → ∃ r, opR P T M o.op = some r ∧ ((∃ h', r = .val v h' ∧ (classOf o.op = 2 → M' = h')) ∨
      (∃ f args tmx, r = .call f args ∧ classOf o.op = 2 ∧ CallD (rec (.call f args) e3 M) v tmx M') ∨
      (∃ l args tmx, r = .yield l args ∧ classOf o.op = 2 ∧ CallD (rec (.yield l args) e3 M) v tmx M')))
structure StepD (P : Program) (rec : Rec) (L : List Oper) (b : Nat) (d : DI) (T : S3 V) (M : H) (hs : List (Nat × H)) (rs : List RE) (v : V) (T' : S3 V) (M' : H) (hs' : List (Nat × H)) (rs' : List RE) : Prop where
  tm : T' = putA T d.o.dst v
  val : d.flt = none → ValD P rec L d.o T M v M'
  flt : ∀ k, d.flt = some k → ∃ t, wantQ L T d.o = some t ∧ (t = false → v = .tup [] ∧ M' = M) ∧ (t = true → ∃ o, opFlt P T d.o.op (b + k) = some (v, o) ∧ M' = hSet M (b + k) o)
  low : d.cls ≠ 2 → M' = M ∧ hs' = hs
  eff : d.cls = 2 → hs' = (d.idx, M) :: hs ∧ rs' = rs ∧ againOk P M' d.again rs = true
  nil : d.cls = 0 → rs' = rs
  read : d.cls = 1 → (wantQ L T d.o = some true → backOk P T d.o v d.back hs = true ∧ rs' = { idx := d.idx, o := d.o, tm := T, v := v } :: rs) ∧ (wantQ L T d.o = some false → rs' = rs)

theorem noFail_ifB {b : Bool} {x : Out} (hn : NoFail (ifB b x .fail)) : b = true ∧ NoFail x := by
  cases b with
  | false => exact hn.elim
  | true => exact ⟨rfl, hn⟩
theorem noFail_val {ex : Ex} {f : V → Out} (hn : NoFail (exB ex .fail (fun _ => .fail) .fail f)) : ∃ v, ex = .val v ∧ NoFail (f v) := by
  cases ex with
  | val v => exact ⟨v, rfl, hn⟩
  | _ => exact hn.elim

theorem noFail_some : ∀ {o : Out}, NoFail o → ∃ ex tm h, Leaf o ex tm h
  | .fail, hn => hn.elim
  | .ok _ _ _, _ => ⟨_, _, _, .ok _ _ _⟩
  | .or _ _, hn => let ⟨ex, tm, h, hl⟩ := noFail_some hn.1; ⟨ex, tm, h, .l hl⟩
/-- a call, whichever way it ends -/
theorem call_step {rec : Rec} {L : List Oper} {b : Nat} {d : DI} {l : List DI} {tm : S3 V} {h : H} {hs : List (Nat × H)} {rs : List RE} {t : Task} {r : R} (hr : opR P tm h d.o.op = some r)
    (ht : (∃ f args, r = .call f args ∧ t = .call f args) ∨ ∃ f args, r = .yield f args ∧ t = .yield f args) (hw : wantQ L tm d.o = some true) (hcls : d.cls = classOf d.o.op) (hle : d.cls ≤ 2) (hfl : d.flt = none)
    (hn : NoFail (opsD P rec L b (d :: l) tm h hs rs)) : NoFail (rec t e3 h) ∧ ∀ ex tmx hx, Leaf (rec t e3 h) ex tmx hx →
    ∃ v, ex = .val v ∧ StepD P rec L b d tm h hs rs v (putA tm d.o.dst v) hx ((d.idx, h) :: hs) rs ∧ NoFail (opsD P rec L b l (putA tm d.o.dst v) hx ((d.idx, h) :: hs) rs) ∧
      ∀ ex' tm' h', Leaf (opsD P rec L b l (putA tm d.o.dst v) hx ((d.idx, h) :: hs) rs) ex' tm' h' → Leaf (opsD P rec L b (d :: l) tm h hs rs) ex' tm' h' := by
  have he : opsD P rec L b (d :: l) tm h hs rs = bind (rec t e3 h) (callD P (opsD P rec L b l) d tm h hs rs) := by
    have h1 : opsD P rec L b (d :: l) tm h hs rs = stepN P rec L d (opsD P rec L b l) tm h hs rs := by
      show stepD P rec L b d (opsD P rec L b l) tm h hs rs = _
      unfold stepD; rw [hfl]; rfl
    rw [h1, stepN_eq, hw]
    show orF (opR P tm h d.o.op) (onD P rec (opsD P rec L b l) d tm h hs rs) = _
    rw [hr]
    rcases ht with ⟨f, args, rfl, rfl⟩ | ⟨f, args, rfl, rfl⟩ <;> rfl
  rw [he] at hn ⊢
  obtain ⟨q1, q3⟩ := noFail_bind hn
  refine ⟨q1, fun ex tmx hx hlf => ?_⟩
  have q4 := q3 _ _ _ hlf
  have q5 : ∀ ex' tm' h', Leaf (callD P (opsD P rec L b l) d tm h hs rs ex tmx hx) ex' tm' h' → Leaf (bind (rec t e3 h) (callD P (opsD P rec L b l) d tm h hs rs)) ex' tm' h' := fun _ _ _ hk => leaf_bind hlf hk
  obtain ⟨v, rfl, h4⟩ := noFail_val (show NoFail (callD P (opsD P rec L b l) d tm h hs rs ex tmx hx) from q4)
  have h2 : d.cls = 2 := by
    rcases (show d.cls = 0 ∨ d.cls = 1 ∨ d.cls = 2 by omega) with h0 | h0 | h0
    · rw [h0] at h4; exact h4.elim
    · rw [h0] at h4; exact h4.elim
    · exact h0
  have hcd : callD P (opsD P rec L b l) d tm h hs rs (.val v) tmx hx = afterD P (opsD P rec L b l) d tm h hs rs v hx := by unfold callD; rw [h2]; rfl
  rw [hcd] at q4 q5
  obtain ⟨hag, hn2⟩ := noFail_ifB (show NoFail (afterD P (opsD P rec L b l) d tm h hs rs v hx) from q4)
  have haf : afterD P (opsD P rec L b l) d tm h hs rs v hx = opsD P rec L b l (putA tm d.o.dst v) hx ((d.idx, h) :: hs) rs := by unfold afterD; rw [hag]; rfl
  rw [haf] at q5
  have hcall : CallD (rec t e3 h) v tmx hx := ⟨q1, hlf⟩
  refine ⟨v, rfl, ⟨rfl, fun _ => ⟨true, hw, (fun hc => by cases hc), fun _ => ⟨r, hr, ?_⟩⟩, (fun k hk => by rw [hfl] at hk; cases hk), fun hne => absurd h2 hne, fun _ => ⟨rfl, rfl, hag⟩, fun h0 => by omega, fun h0 => by omega⟩, hn2, q5⟩
  rcases ht with ⟨f, args, rfl, rfl⟩ | ⟨f, args, rfl, rfl⟩
  · exact .inr (.inl ⟨f, args, tmx, rfl, by omega, hcall⟩)
  · exact .inr (.inr ⟨f, args, tmx, rfl, by omega, hcall⟩)

theorem trace_exists {rec : Rec} {L : List Oper} {b : Nat} : ∀ (l : List DI) (tm : S3 V) (h : H) (hs : List (Nat × H)) (rs : List RE), (∀ d ∈ l, d.cls = classOf d.o.op ∧ d.cls ≤ 2 ∧ ∀ k, d.flt = some k → d.cls = 2) → NoFail (opsD P rec L b l tm h hs rs) →
    ∃ (T : Nat → S3 V) (M : Nat → H) (Hs : Nat → List (Nat × H)) (Rs : Nat → List RE) (v : Nat → V), T 0 = tm ∧ M 0 = h ∧ Hs 0 = hs ∧ Rs 0 = rs ∧
      (∀ i, i ≤ l.length → NoFail (opsD P rec L b (l.drop i) (T i) (M i) (Hs i) (Rs i)) ∧ ∀ ex tm' h', Leaf (opsD P rec L b (l.drop i) (T i) (M i) (Hs i) (Rs i)) ex tm' h' → Leaf (opsD P rec L b l tm h hs rs) ex tm' h') ∧ ∀ i d, l[i]? = some d → StepD P rec L b d (T i) (M i) (Hs i) (Rs i) (v i) (T (i + 1)) (M (i + 1)) (Hs (i + 1)) (Rs (i + 1))
  | [], tm, h, hs, rs, _, hn => ⟨fun _ => tm, fun _ => h, fun _ => hs, fun _ => rs, fun _ => .tup [], rfl, rfl, rfl, rfl, (fun i _ => by rw [List.drop_nil]; exact ⟨hn, fun _ _ _ q => q⟩), fun i d hd => by simp at hd⟩
  | d :: l, tm, h, hs, rs, hc, hn => by
    obtain ⟨hcls, hle, hf2⟩ := hc d (List.mem_cons_self ..)
    have heq : opsD P rec L b (d :: l) tm h hs rs = stepD P rec L b d (opsD P rec L b l) tm h hs rs := rfl
    have hn0 := hn
    rw [heq] at hn0
    -- what is left to do once the first operation is known
    have fin' : ∀ {v : V} {T1 : S3 V} {M1 : H} {hs1 : List (Nat × H)} {rs1 : List RE}, StepD P rec L b d tm h hs rs v T1 M1 hs1 rs1 → NoFail (opsD P rec L b l T1 M1 hs1 rs1) → (∀ ex tm' h', Leaf (opsD P rec L b l T1 M1 hs1 rs1) ex tm' h' → Leaf (opsD P rec L b (d :: l) tm h hs rs) ex tm' h') →
        ∃ (T : Nat → S3 V) (M : Nat → H) (Hs : Nat → List (Nat × H)) (Rs : Nat → List RE) (v : Nat → V), T 0 = tm ∧ M 0 = h ∧ Hs 0 = hs ∧ Rs 0 = rs ∧
          (∀ i, i ≤ (d :: l).length → NoFail (opsD P rec L b ((d :: l).drop i) (T i) (M i) (Hs i) (Rs i)) ∧ ∀ ex tm' h', Leaf (opsD P rec L b ((d :: l).drop i) (T i) (M i) (Hs i) (Rs i)) ex tm' h' → Leaf (opsD P rec L b (d :: l) tm h hs rs) ex tm' h') ∧ ∀ i d', (d :: l)[i]? = some d' → StepD P rec L b d' (T i) (M i) (Hs i) (Rs i) (v i) (T (i + 1)) (M (i + 1)) (Hs (i + 1)) (Rs (i + 1)) := by
      intro v T1 M1 hs1 rs1 hst hn1 he
      obtain ⟨T, M, Hs, Rs, vs, q1, q2, q3, q4, q5, q6⟩ := trace_exists l T1 M1 hs1 rs1 (fun d' hd' => hc d' (List.mem_cons_of_mem _ hd')) hn1
      refine ⟨fun i => Nat.casesOn i tm T, fun i => Nat.casesOn i h M, fun i => Nat.casesOn i hs Hs, fun i => Nat.casesOn i rs Rs, fun i => Nat.casesOn i v vs, rfl, rfl, rfl, rfl, fun i hi => ?_, fun i d' hd' => ?_⟩
      · cases i with
        | zero => exact ⟨hn, fun ex tm' h' q => q⟩
        | succ i =>
          obtain ⟨r1, r2⟩ := q5 i (by simpa using hi)
          exact ⟨r1, fun ex tm' h' q => he _ _ _ (r2 _ _ _ q)⟩
      · cases i with
        | zero =>
          have : d = d' := by simpa using hd'
          subst this
          show StepD P rec L b d tm h hs rs v (T 0) (M 0) (Hs 0) (Rs 0)
          rw [q1, q2, q3, q4]; exact hst
        | succ i => exact q6 i d' (by simpa using hd')
    have fin : ∀ {v : V} {T1 : S3 V} {M1 : H} {hs1 : List (Nat × H)} {rs1 : List RE}, StepD P rec L b d tm h hs rs v T1 M1 hs1 rs1 → NoFail (opsD P rec L b l T1 M1 hs1 rs1) → stepD P rec L b d (opsD P rec L b l) tm h hs rs = opsD P rec L b l T1 M1 hs1 rs1 → _ :=
      fun {v T1 M1 hs1 rs1} hst hn1 he => fin' hst hn1 fun _ _ _ q => by rw [heq, he]; exact q
    cases hfl : d.flt with
    | some k =>
      have hse := stepD_flt (P := P) (rec := rec) (ops := L) (b := b) hfl (opsD P rec L b l) tm h hs rs
      rw [heq, hse] at hn
      obtain ⟨t, hw, hn⟩ := noFail_orF hn
      have h2 := hf2 k hfl
      cases t with
      | true =>
        obtain ⟨⟨v, o⟩, hop, hna⟩ := noFail_orF (show NoFail (orF (opFlt P tm d.o.op (b + k)) fun p => afterD P (opsD P rec L b l) d tm h hs rs p.1 (hSet h (b + k) p.2)) from hn)
        obtain ⟨hag, hn2⟩ := noFail_ifB (show NoFail (afterD P (opsD P rec L b l) d tm h hs rs v (hSet h (b + k) o)) from hna)
        refine fin (v := v) (T1 := putA tm d.o.dst v) (M1 := hSet h (b + k) o) (hs1 := (d.idx, h) :: hs) (rs1 := rs)
          ⟨rfl, (fun hne => by rw [hfl] at hne; cases hne), (fun k' hk' => by rw [hfl] at hk'; cases hk'; exact ⟨true, hw, (fun h => by cases h), fun _ => ⟨o, hop, rfl⟩⟩), fun hne => absurd h2 hne, fun _ => ⟨rfl, rfl, hag⟩, fun h0 => by omega, fun h0 => by omega⟩ hn2 ?_
        rw [hse, hw]
        show orF (opFlt P tm d.o.op (b + k)) _ = _
        rw [hop]
        show afterD P (opsD P rec L b l) d tm h hs rs v (hSet h (b + k) o) = _
        unfold afterD; rw [hag]; rfl
      | false =>
        obtain ⟨hag, hn2⟩ := noFail_ifB (show NoFail (afterD P (opsD P rec L b l) d tm h hs rs (.tup []) h) from hn)
        refine fin (v := .tup []) (T1 := putA tm d.o.dst (.tup [])) (M1 := h) (hs1 := (d.idx, h) :: hs) (rs1 := rs)
          ⟨rfl, (fun hne => by rw [hfl] at hne; cases hne), (fun k' hk' => by rw [hfl] at hk'; cases hk'; exact ⟨false, hw, (fun _ => ⟨rfl, rfl⟩), fun h => by cases h⟩), fun hne => absurd h2 hne, fun _ => ⟨rfl, rfl, hag⟩, fun h0 => by omega, fun h0 => by omega⟩ hn2 ?_
        rw [hse, hw]
        show afterD P (opsD P rec L b l) d tm h hs rs (.tup []) h = _
        unfold afterD; rw [hag]; rfl
    | none =>
    have hse : stepD P rec L b d (opsD P rec L b l) tm h hs rs = stepN P rec L d (opsD P rec L b l) tm h hs rs := by unfold stepD; rw [hfl]; rfl
    rw [heq, hse, stepN_eq] at hn
    obtain ⟨t, hw, h1⟩ := noFail_orF hn
    have hstep : stepD P rec L b d (opsD P rec L b l) tm h hs rs = ifB t (orF (opR P tm h d.o.op) (onD P rec (opsD P rec L b l) d tm h hs rs)) (skipD P (opsD P rec L b l) d tm h hs rs) := by
      rw [hse, stepN_eq, hw]; rfl
    -- an effect
    have effect : ∀ {v : V} {M' : H}, d.cls = 2 → ValD P rec L d.o tm h v M' → NoFail (afterD P (opsD P rec L b l) d tm h hs rs v M') → stepD P rec L b d (opsD P rec L b l) tm h hs rs = afterD P (opsD P rec L b l) d tm h hs rs v M' → _ :=
      fun {v M'} h2 hv hna he => by
        obtain ⟨hag, hn2⟩ := noFail_ifB hna
        exact fin (v := v) (T1 := putA tm d.o.dst v) (M1 := M') (hs1 := (d.idx, h) :: hs) (rs1 := rs)
          ⟨rfl, fun _ => hv, (fun k hk => by rw [hfl] at hk; cases hk), fun hne => absurd h2 hne, fun _ => ⟨rfl, rfl, hag⟩, fun h0 => by omega, fun h0 => by omega⟩ hn2 (by rw [he]; unfold afterD; rw [hag]; rfl)
    rcases (show d.cls = 0 ∨ d.cls = 1 ∨ d.cls = 2 by omega) with h0 | h0 | h0
    · -- operands alone
      cases t with
      | false =>
        have hsk : skipD P (opsD P rec L b l) d tm h hs rs = opsD P rec L b l (putA tm d.o.dst (.tup [])) h hs rs := by unfold skipD; rw [h0]; rfl
        refine fin (v := .tup []) (T1 := putA tm d.o.dst (.tup [])) (M1 := h) (hs1 := hs) (rs1 := rs) ⟨rfl, fun _ => ⟨false, hw, fun _ => ⟨rfl, rfl⟩, fun hc => by cases hc⟩, (fun k hk => by rw [hfl] at hk; cases hk), fun _ => ⟨rfl, rfl⟩, fun h2 => by omega, fun _ => rfl, fun h1 => by omega⟩ ?_ ?_
        · rw [← hsk]; exact h1
        · rw [hstep, ← hsk]; rfl
      | true =>
        obtain ⟨r, hr, h2⟩ := noFail_orF (show NoFail (orF (opR P tm h d.o.op) (onD P rec (opsD P rec L b l) d tm h hs rs)) from h1)
        cases r with
        | val v h' =>
          have hv : onD P rec (opsD P rec L b l) d tm h hs rs (.val v h') = opsD P rec L b l (putA tm d.o.dst v) h hs rs := by show valD P _ d tm h hs rs v h' = _; unfold valD; rw [h0]; rfl
          refine fin (v := v) (T1 := putA tm d.o.dst v) (M1 := h) (hs1 := hs) (rs1 := rs) ⟨rfl, fun _ => ⟨true, hw, (fun hc => by cases hc), fun _ => ⟨_, hr, .inl ⟨h', rfl, fun h2 => by omega⟩⟩⟩, (fun k hk => by rw [hfl] at hk; cases hk), fun _ => ⟨rfl, rfl⟩, fun h2 => by omega, fun _ => rfl, fun h1 => by omega⟩ ?_ ?_
          · rw [← hv]; exact h2
          · rw [hstep, ← hv, hr]; rfl
        | call f args =>
          obtain ⟨w1, w2⟩ := call_step (t := .call f args) hr (.inl ⟨f, args, rfl, rfl⟩) hw hcls hle hfl (by rw [heq]; exact hn0)
          obtain ⟨ex, tmx, hx, w3⟩ := noFail_some w1
          obtain ⟨v, _, w4, w5, w6⟩ := w2 _ _ _ w3
          exact fin' w4 w5 w6
        | yield f args =>
          obtain ⟨w1, w2⟩ := call_step (t := .yield f args) hr (.inr ⟨f, args, rfl, rfl⟩) hw hcls hle hfl (by rw [heq]; exact hn0)
          obtain ⟨ex, tmx, hx, w3⟩ := noFail_some w1
          obtain ⟨v, _, w4, w5, w6⟩ := w2 _ _ _ w3
          exact fin' w4 w5 w6
        | alts l => exact h2.elim
    · -- a reading
      cases t with
      | false =>
        have hsk : skipD P (opsD P rec L b l) d tm h hs rs = opsD P rec L b l (putA tm d.o.dst (.tup [])) h hs rs := by unfold skipD; rw [h0]; rfl
        refine fin (v := .tup []) (T1 := putA tm d.o.dst (.tup [])) (M1 := h) (hs1 := hs) (rs1 := rs) ⟨rfl, fun _ => ⟨false, hw, fun _ => ⟨rfl, rfl⟩, fun hc => by cases hc⟩, (fun k hk => by rw [hfl] at hk; cases hk), fun _ => ⟨rfl, rfl⟩, fun h2 => by omega, fun h2 => by omega, fun _ => ⟨(fun h => by rw [hw] at h; cases h), fun _ => rfl⟩⟩ ?_ ?_
        · rw [← hsk]; exact h1
        · rw [hstep, ← hsk]; rfl
      | true =>
        obtain ⟨r, hr, h2⟩ := noFail_orF (show NoFail (orF (opR P tm h d.o.op) (onD P rec (opsD P rec L b l) d tm h hs rs)) from h1)
        cases r with
        | val v h' =>
          have h3 : NoFail (valD P (opsD P rec L b l) d tm h hs rs v h') := h2
          have hvd : valD P (opsD P rec L b l) d tm h hs rs v h' = ifB (backOk P tm d.o v d.back hs) (opsD P rec L b l (putA tm d.o.dst v) h hs ({ idx := d.idx, o := d.o, tm := tm, v := v } :: rs)) .fail := by unfold valD; rw [h0]; rfl
          rw [hvd] at h3
          obtain ⟨hb, h4⟩ := noFail_ifB h3
          refine fin (v := v) (T1 := putA tm d.o.dst v) (M1 := h) (hs1 := hs) (rs1 := { idx := d.idx, o := d.o, tm := tm, v := v } :: rs) ⟨rfl, fun _ => ⟨true, hw, (fun hc => by cases hc), fun _ => ⟨_, hr, .inl ⟨h', rfl, fun h2 => by omega⟩⟩⟩, (fun k hk => by rw [hfl] at hk; cases hk), fun _ => ⟨rfl, rfl⟩, fun h2 => by omega, fun h2 => by omega, fun _ => ⟨fun _ => ⟨hb, rfl⟩, fun h => by rw [hw] at h; cases h⟩⟩ h4 ?_
          rw [hstep, hr]
          show valD P (opsD P rec L b l) d tm h hs rs v h' = _
          rw [hvd, hb]; rfl
        | call f args =>
          obtain ⟨w1, w2⟩ := call_step (t := .call f args) hr (.inl ⟨f, args, rfl, rfl⟩) hw hcls hle hfl (by rw [heq]; exact hn0)
          obtain ⟨ex, tmx, hx, w3⟩ := noFail_some w1
          obtain ⟨v, _, w4, w5, w6⟩ := w2 _ _ _ w3
          exact fin' w4 w5 w6
        | yield f args =>
          obtain ⟨w1, w2⟩ := call_step (t := .yield f args) hr (.inr ⟨f, args, rfl, rfl⟩) hw hcls hle hfl (by rw [heq]; exact hn0)
          obtain ⟨ex, tmx, hx, w3⟩ := noFail_some w1
          obtain ⟨v, _, w4, w5, w6⟩ := w2 _ _ _ w3
          exact fin' w4 w5 w6
        | alts l => exact h2.elim
    · -- an effect
      cases t with
      | false =>
        have hsk : skipD P (opsD P rec L b l) d tm h hs rs = afterD P (opsD P rec L b l) d tm h hs rs (.tup []) h := by unfold skipD; rw [h0]; rfl
        refine effect (v := .tup []) (M' := h) h0 ⟨false, hw, fun _ => ⟨rfl, rfl⟩, fun hc => by cases hc⟩ ?_ ?_
        · rw [← hsk]; exact h1
        · rw [hstep, ← hsk]; rfl
      | true =>
        obtain ⟨r, hr, h2⟩ := noFail_orF (show NoFail (orF (opR P tm h d.o.op) (onD P rec (opsD P rec L b l) d tm h hs rs)) from h1)
        have hst' : stepD P rec L b d (opsD P rec L b l) tm h hs rs = onD P rec (opsD P rec L b l) d tm h hs rs r := by rw [hstep, hr]; rfl
        cases r with
        | val v h' =>
          have hvd : onD P rec (opsD P rec L b l) d tm h hs rs (.val v h') = afterD P (opsD P rec L b l) d tm h hs rs v h' := by show valD P _ d tm h hs rs v h' = _; unfold valD; rw [h0]; rfl
          refine effect (v := v) (M' := h') h0 ⟨true, hw, (fun hc => by cases hc), fun _ => ⟨_, hr, .inl ⟨h', rfl, fun _ => rfl⟩⟩⟩ ?_ ?_
          · rw [← hvd]; exact h2
          · rw [hst', hvd]
        | call f args =>
          obtain ⟨w1, w2⟩ := call_step (t := .call f args) hr (.inl ⟨f, args, rfl, rfl⟩) hw hcls hle hfl (by rw [heq]; exact hn0)
          obtain ⟨ex, tmx, hx, w3⟩ := noFail_some w1
          obtain ⟨v, _, w4, w5, w6⟩ := w2 _ _ _ w3
          exact fin' w4 w5 w6
        | yield f args =>
          obtain ⟨w1, w2⟩ := call_step (t := .yield f args) hr (.inr ⟨f, args, rfl, rfl⟩) hw hcls hle hfl (by rw [heq]; exact hn0)
          obtain ⟨ex, tmx, hx, w3⟩ := noFail_some w1
          obtain ⟨v, _, w4, w5, w6⟩ := w2 _ _ _ w3
          exact fin' w4 w5 w6
        | alts l => exact h2.elim

end
end Go.Abs

namespace Go.Abs
noncomputable section
variable {P : Program} {e : Env} {tm : S3 V} {h : H} {w : World} {a : Act} {o : Oper}
variable {e0 : Env} {h0 : H} {w0 : World} {N : Nat} {ro : Option Nat} {nn : Nat}

theorem flt_kind {L : List Oper} {bf : List Nat} {i k : Nat} (hk : (infoOf L bf i).flt = some k) : fltK (atO L i) = true ∧ fltB L bf i = true ∧ k = rankB L bf i := by
  have h1 : ifB (fltB L bf i) (some (rankB L bf i)) none = some k := hk
  obtain ⟨h2, h3⟩ := ifB_eq h1
  cases h3
  refine ⟨?_, h2, rfl⟩
  unfold fltB at h2
  exact (ifB_true' h2).1
theorem flt_cls {L : List Oper} {bf : List Nat} {i k : Nat} (hk : (infoOf L bf i).flt = some k) : clsO L i = 2 := by
  obtain ⟨h1, _⟩ := flt_kind hk
  unfold clsO
  unfold fltK at h1
  cases ho : (atO L i).op <;> rw [ho] at h1 <;> first | rfl | cases h1
theorem flt_none {L : List Oper} {bf : List Nat} {i : Nat} (hc : clsO L i ≠ 2) : (infoOf L bf i).flt = none := by
  cases hf : (infoOf L bf i).flt with
  | none => rfl
  | some k => exact absurd (flt_cls hf) hc
structure Trace (P : Program) (rec : Rec) (L : List Oper) (b : Nat) (T : Nat → S3 V) (M : Nat → H) (Hs : Nat → List (Nat × H)) (Rs : Nat → List RE) (v : Nat → V) : Prop where
  step : ∀ i, i < L.length → StepD P rec L b (infoOf L (befores [] L) i) (T i) (M i) (Hs i) (Rs i) (v i) (T (i + 1)) (M (i + 1)) (Hs (i + 1)) (Rs (i + 1))
  ord : Ordered L

section trace
variable {rec : Rec} {L : List Oper} {b : Nat} {T : Nat → S3 V} {M : Nat → H} {Hs : Nat → List (Nat × H)} {Rs : Nat → List RE} {v : Nat → V} (tr : Trace P rec L b T M Hs Rs v)
include tr
theorem tr_back {i t : Nat} {x : V} (hi : i < L.length) (hd : (atO L i).dst ≠ some t) (hx : get3 (T (i + 1)) t = some x) : get3 (T i) t = some x := by
  have := (tr.step i hi).tm
  rw [this] at hx
  cases hdst : (infoOf L (befores [] L) i).o.dst with
  | none => rw [hdst] at hx; exact hx
  | some d =>
    rw [hdst, putA_some] at hx
    rcases get3_set3 hx with ⟨rfl, _⟩ | ⟨_, h2⟩
    · exact absurd hdst hd
    · exact h2
theorem tr_range {i t : Nat} {x : V} : ∀ {j : Nat}, i ≤ j → j ≤ L.length → (∀ k, i ≤ k → k < j → (atO L k).dst ≠ some t) → get3 (T j) t = some x → get3 (T i) t = some x
  | 0, hij, _, _, hx => by
    have : i = 0 := by omega
    rw [this]; exact hx
  | j + 1, hij, hj, hk, hx => by
    by_cases hije : i = j + 1
    · rw [hije]; exact hx
    · exact tr_range (j := j) (by omega) (by omega) (fun k h1 h2 => hk k h1 (by omega)) (tr_back tr (by omega) (hk j (by omega) (by omega)) hx)
theorem tr_M {i : Nat} : ∀ {j : Nat}, i ≤ j → j ≤ L.length → (∀ k, i ≤ k → k < j → clsO L k ≠ 2) → M j = M i
  | 0, hij, _, _ => by
    have : i = 0 := by omega
    rw [this]
  | j + 1, hij, hj, hk => by
    by_cases hije : i = j + 1
    · rw [hije]
    · rw [((tr.step j (by omega)).low (hk j (by omega) (by omega))).1]
      exact tr_M (j := j) (by omega) (by omega) fun k h1 h2 => hk k h1 (by omega)
theorem tr_Hs {y : Nat} (hy : clsO L y = 2) : ∀ {i : Nat}, y < i → i ≤ L.length → (y, M y) ∈ Hs i
  | 0, hyi, _ => absurd hyi (Nat.not_lt_zero y)
  | i + 1, hyi, hi => by
    have hst := tr.step i (by omega)
    by_cases hyi' : y = i
    · subst hyi'
      rw [(hst.eff hy).1]
      exact List.mem_cons_self ..
    · have ih := tr_Hs hy (i := i) (by omega) (by omega)
      by_cases hc : clsO L i = 2
      · rw [(hst.eff hc).1]; exact List.mem_cons_of_mem _ ih
      · rw [(hst.low hc).2]; exact ih
theorem tr_Rs {q : Nat} (hq : clsO L q = 1) (hw : wantQ L (T q) (atO L q) = some true) : ∀ {i : Nat}, q < i → i ≤ L.length → ({ idx := q, o := atO L q, tm := T q, v := v q } : RE) ∈ Rs i
  | 0, hyi, _ => absurd hyi (Nat.not_lt_zero q)
  | i + 1, hyi, hi => by
    have hst := tr.step i (by omega)
    by_cases hyi' : q = i
    · subst hyi'
      rw [((hst.read hq).1 hw).2]
      exact List.mem_cons_self ..
    · have ih := tr_Rs hq hw (i := i) (by omega) (by omega)
      have h3 : clsO L i ≤ 2 := by unfold clsO classOf; split <;> omega
      rcases (show clsO L i = 0 ∨ clsO L i = 1 ∨ clsO L i = 2 by omega) with hc | hc | hc
      · rw [hst.nil hc]; exact ih
      · obtain ⟨r1, r2⟩ := hst.read hc
        obtain ⟨t, hwt, _⟩ := hst.val (flt_none (by omega))
        cases t with
        | true => rw [(r1 hwt).2]; exact List.mem_cons_of_mem _ ih
        | false => rw [r2 hwt]; exact ih
      · rw [(hst.eff hc).2.1]; exact ih

omit tr in
theorem readsAs_eq {tm : S3 V} {o : Oper} {u : V} {h : H} (hh : readsAs P tm o u h = true) : vo (opR P tm h o.op) = some u := by
  unfold readsAs at hh
  cases hr : opR P tm h o.op with
  | none => rw [hr] at hh; cases hh
  | some r =>
    rw [hr, optB_some] at hh
    cases hv : valOf r with
    | none => rw [hv] at hh; cases hh
    | some x =>
      rw [hv, optB_some] at hh
      show valOf r = some u
      rw [hv, sameV_eq hh]

omit tr in
theorem least {p : Nat → Prop} : ∀ (i j : Nat), (∃ k, j ≤ k ∧ k < i ∧ p k) → ∃ k, j ≤ k ∧ k < i ∧ p k ∧ ∀ m, j ≤ m → m < k → ¬ p m := by
  intro i
  induction i with
  | zero => rintro j ⟨k, _, hk, _⟩; exact absurd hk (Nat.not_lt_zero k)
  | succ i ih =>
    rintro j ⟨k, h1, h2, h3⟩
    by_cases hex : ∃ k, j ≤ k ∧ k < i ∧ p k
    · obtain ⟨m, q1, q2, q3, q4⟩ := ih j hex
      exact ⟨m, q1, by omega, q3, q4⟩
    · have hki : k = i := by
        by_cases hki : k = i
        · exact hki
        · exact absurd ⟨k, h1, by omega, h3⟩ hex
      subst hki
      exact ⟨k, h1, h2, h3, fun m m1 m2 m3 => hex ⟨m, m1, m2, m3⟩⟩
omit tr in
theorem greatest {p : Nat → Prop} : ∀ (j i : Nat), (∃ k, i ≤ k ∧ k < j ∧ p k) → ∃ k, i ≤ k ∧ k < j ∧ p k ∧ ∀ m, k < m → m < j → ¬ p m := by
  intro j
  induction j with
  | zero => rintro i ⟨k, _, hk, _⟩; exact absurd hk (Nat.not_lt_zero k)
  | succ j ih =>
    rintro i ⟨k, h1, h2, h3⟩
    by_cases hpj : p j ∧ i ≤ j
    · exact ⟨j, hpj.2, by omega, hpj.1, fun m m1 m2 => by omega⟩
    · have hkj : k ≠ j := fun hkj => hpj ⟨hkj ▸ h3, by omega⟩
      obtain ⟨m, q1, q2, q3, q4⟩ := ih i ⟨k, h1, by omega, h3⟩
      refine ⟨m, q1, by omega, q3, fun r r1 r2 r3 => ?_⟩
      by_cases hrj : r = j
      · exact hpj ⟨hrj ▸ r3, by omega⟩
      · exact q4 r r1 (by omega) r3

theorem read_ok {S : Nat → Prop} (hS : ∀ j, j < L.length → S j → ∀ m ∈ waitsFor (atO L j), S m) {i j : Nat} (hi : i < L.length) (hj : j ≤ L.length) (hc : clsO L i ≠ 2) (hni : ¬ S i) (hwi : ∀ m ∈ waitsFor (atO L i), S m)
    (hcut : ∀ y, y < L.length → clsO L y = 2 → y < j → S y) (hnorm : ∀ y, y < L.length → j ≤ y → clsO L y = 2 → (∀ z, j ≤ z → z < y → clsO L z ≠ 2) → ¬ S y) (hw : wantQ L (T i) (atO L i) = some true) : vo (opR P (T i) (M j) (atO L i).op) = some (v i) := by
  have hst := tr.step i hi
  obtain ⟨t, hwt, _, hv⟩ := hst.val (flt_none hc)
  have ht : t = true := by
    have : wantQ L (T i) (atO L i) = some t := hwt
    rw [hw] at this; cases this; rfl
  obtain ⟨r, hr, hrc⟩ := hv ht
  have hself : vo (opR P (T i) (M i) (atO L i).op) = some (v i) := by
    have hr' : opR P (T i) (M i) (atO L i).op = some r := hr
    rcases hrc with ⟨h', rfl, _⟩ | ⟨_, _, _, _, h2, _⟩ | ⟨_, _, _, _, h2, _⟩
    · rw [hr']; rfl
    · exact absurd h2 hc
    · exact absurd h2 hc
  have h3 : clsO L i ≤ 2 := by unfold clsO classOf; split <;> omega
  rcases (show clsO L i = 0 ∨ clsO L i = 1 by omega) with h0 | h0
  · rw [op0_mem (h2 := M i) h0]; exact hself
  · by_cases hex : ∃ y, j ≤ y ∧ y < i ∧ clsO L y = 2
    · obtain ⟨y, q1, q2, q3, q4⟩ := least i j hex
      have hMy : M y = M j := tr_M tr q1 (by omega) q4
      have hnb : ¬ inB (befores [] L) i y := fun hb => hnorm y (by omega) q1 q3 q4 (closed_bf hS i hi hwi y hb)
      have hback := (hst.read h0).1 hw
      have hmem : y ∈ (infoOf L (befores [] L) i).back := by
        show y ∈ ifB (Nat.beq (clsO L i) 1) _ []
        rw [h0]
        show y ∈ belowF i _
        rw [mem_belowF]
        refine ⟨q2, ?_⟩
        rw [q3]
        show notB (ltB (befores [] L) y i) = true
        cases hb : ltB (befores [] L) y i with
        | false => rfl
        | true => exact absurd (ltB_mem.1 hb) hnb
      have := allS_mem hback.1 (y, M y) (tr_Hs tr q3 q2 (by omega))
      rw [hasNat_eq, List.contains_iff_mem.2 hmem, ifB_true, hMy] at this
      exact readsAs_eq this
    · by_cases hex2 : ∃ x, i ≤ x ∧ x < j ∧ clsO L x = 2
      · obtain ⟨x, q1, q2, q3, q4⟩ := greatest j i hex2
        have hxi : i < x := by
          rcases Nat.lt_or_ge i x with hlt | hge
          · exact hlt
          · have : i = x := by omega
            rw [this] at h0; omega
        have hMx : M j = M (x + 1) := tr_M tr (by omega) hj fun k k1 k2 => q4 k (by omega) k2
        have hSx : S x := hcut x (by omega) q3 q2
        have hnb : ¬ inB (befores [] L) x i := fun hb => hni (closed_bf hS x (by omega) (hS x (by omega) hSx) i hb)
        have hag := ((tr.step x (by omega)).eff q3).2.2
        have hmem : i ∈ (infoOf L (befores [] L) x).again := by
          show i ∈ ifB (Nat.beq (clsO L x) 2) _ []
          rw [q3]
          show i ∈ belowF x _
          rw [mem_belowF]
          refine ⟨hxi, ?_⟩
          rw [h0]
          show notB (ltB (befores [] L) i x) = true
          cases hb : ltB (befores [] L) i x with
          | false => rfl
          | true => exact absurd (ltB_mem.1 hb) hnb
        have := allS_mem hag _ (tr_Rs tr h0 hw hxi (by omega))
        rw [hasNat_eq, List.contains_iff_mem.2 hmem, ifB_true, ← hMx] at this
        exact readsAs_eq this
      · have hM : M j = M i := by
          rcases Nat.le_total j i with hji | hij
          · exact (tr_M tr hji (by omega) fun k k1 k2 k3 => hex ⟨k, k1, k2, k3⟩).symm
          · exact tr_M tr hij hj fun k k1 k2 k3 => hex2 ⟨k, k1, k2, k3⟩
        rw [hM]; exact hself
end trace

end
end Go.Abs

namespace Go.Abs
noncomputable section
variable {P : Program} {w : World} {a : Act}
variable {e0 : Env} {h0 : H} {w0 : World} {N : Nat} {ro : Option Nat} {nn : Nat}
variable {rec : Rec} {L : List Oper} {b : Nat} {T : Nat → S3 V} {M : Nat → H} {Hs : Nat → List (Nat × H)} {Rs : Nat → List RE} {v : Nat → V}

/-! ### a block that may be made before its time -/
theorem OR_new {e : Env} {id c : Nat} {l : List C} {cs : Array Value} (t : TypeId) (h1 : All2 (CR e) l cs.toList) {n : Nat} (hn : l.length = n) (hf : e.ρ id = none) : OR (e.put id c cs.size 0) id (.cells n l false) (.cells cs t) := by
  have hl : l.length = cs.size := by simpa using h1.length
  refine ⟨cs, t, rfl, ?_, hn, (Env.put_sz _ _ _ _ _).symm, by omega, fun _ => by omega⟩
  have : cs.toList.take l.length = cs.toList := List.take_of_length_le (by simp [hl])
  rw [this]
  exact h1.mono fun _ _ => CR.mono (Env.put_le hf _ _ _)
/-- what is made before its time -/
def Made (co : Obj) : Prop := (∃ cs t, co = .cells cs t (0, 0)) ∨ co = .map #[] 0
theorem flt_run {e : Env} {tm : S3 V} {o : Oper} {id : Nat} {x : V} {ao : AO} (hk : opFlt P tm o.op id = some (x, ao)) (ht : TR e tm a.tmps) (hf : e.ρ id = none) (w : World) :
    ∃ (co : Obj) (sz : Nat) (x' : Value), Made co ∧ (execOp a.eval o).run P w = .ok (.value x') (w.alloc co) ∧
      OR (e.put id w.heap.size sz 0) id ao co ∧ VR (e.put id w.heap.size sz 0) x x' := by
  cases ho : o.op with
  | makeMap t r =>
    rw [ho] at hk
    cases r with
    | some r => cases hk
    | none =>
      cases hk
      refine ⟨.map #[] 0, 0, .map (some w.heap.size), .inr rfl, ?_, ⟨#[], rfl, .nil⟩, ⟨_, Env.put_self _ _ _ _ _, rfl⟩⟩
      simp [execOp, ho, Instr.makeMap, newObj, Sem.run]
  | alloc t =>
    rw [ho] at hk
    obtain ⟨z, hz, h2⟩ := optB_eq (show optB (zeroV P t) none _ = some (x, ao) from hk)
    cases h2
    obtain ⟨zv, hrun, hzr⟩ := run_zeroValue' hz w
    have hnt : ∀ l, z ≠ .tup l := fun l hl => zeroV_noTup (hl ▸ hz)
    refine ⟨.cells zv.cells t, zv.cells.size, .pointer (some ⟨w.heap.size, 0, none⟩), .inl ⟨_, _, rfl⟩, ?_, OR_new t ((hzr e).cells hnt) ((hzr e).size' hnt) hf, ⟨w.heap.size, Env.put_self _ _ _ _ _, rfl⟩⟩
    simp [execOp, ho, Instr.alloc, hrun, run_newVar]
  | buildSlice t len parts =>
    rw [ho] at hk
    obtain ⟨el, htk, h2⟩ := onSlT_eq (show onSlT (tk P t) none _ = some (x, ao) from hk)
    have hu := tk_sl htk
    obtain ⟨hsmall, h3⟩ := ifB_eq h2
    obtain ⟨z, hz, h3⟩ := optB_eq h3
    obtain ⟨hlen, h3⟩ := ifB_eq h3
    obtain ⟨hzsz, h4⟩ := ifB_eq h3
    obtain ⟨ps, hps, h5⟩ := optB_eq h4
    obtain ⟨cs, hcs, h6⟩ := optB_eq h5
    cases h6
    obtain ⟨zv', hzrun, hzr'⟩ := run_zeroValue' hz w
    have hnt : ∀ l, z ≠ .tup l := fun l hl => zeroV_noTup (hl ▸ hz)
    have hpe := parts_eq ht hps
    have hzc := (hzr' e).cells hnt
    have hzs := (hzr' e).size' hnt
    have hzz := (hzr' e).size hnt
    have hze := Nat.eq_of_beq_eq_true hzsz
    have hsm : len * P.cellsOf el ≤ 1048576 := Nat.le_of_ble_eq_true hsmall
    have hln : len ≤ 1048576 := Nat.le_of_ble_eq_true hlen
    obtain ⟨it, _, hit, _, _⟩ := zeroV_info hz
    have hbase : ((Array.range (len * P.cellsOf el)).map (zv'.cells[· % zv'.cells.size]!)).toList = (List.replicate len zv'.cells.toList).flatten := by
      rw [← hze, hzz]; exact range_mod_eq _ _
    obtain ⟨zs, z1, z2, z3⟩ := fill_eq (place' := fun i => some (i * P.cellsOf el, P.cellsOf el)) (fun i q hq => hq) (ys := (Array.range (len * P.cellsOf el)).map (zv'.cells[· % zv'.cells.size]!)) hcs hpe (by
      rw [hbase]; exact replicate_all2 hzc len)
    have hcl : cs.length = len * vSize z := by rw [z3, repeatS_eq]; simp [hzs]
    refine ⟨.cells zs el, zs.size, .slice (some ⟨w.heap.size, 0, none⟩) len len, .inl ⟨_, _, rfl⟩, ?_, OR_new el z2 hcl hf, ⟨w.heap.size, _, Env.put_self _ _ _ _ _, rfl, Nat.le_refl _, by unfold maxLen; omega, .inl rfl⟩⟩
    have hrun : (Instr.buildSlice t len (parts.map fun (i, x) => (i, a.eval x))).run P w = .ok (.slice (some ⟨w.heap.size, 0, none⟩) len len) (w.alloc (.cells zs el)) := by
      unfold Instr.buildSlice
      simp only [Sem.run_bind, run_underlying hu, Result.andThen_ok, run_sizeOf w hit]
      rw [if_neg (by omega)]
      by_cases h0 : len * P.cellsOf el = 0
      · rw [if_pos h0]
        have e0 : (Array.range (len * P.cellsOf el)).map ((#[] : Array Value)[· % (#[] : Array Value).size]!) = (Array.range (len * P.cellsOf el)).map (zv'.cells[· % zv'.cells.size]!) := by
          rw [h0]; simp
        simp only [Sem.run_bind, Sem.run_pure, Result.andThen_ok]
        rw [e0, z1]
        simp [newRow, newObj, Sem.run]
      · rw [if_neg h0]
        simp only [Sem.run_bind, hzrun, Sem.run_pure, Result.andThen_ok]
        rw [z1]
        simp [newRow, newObj, Sem.run]
    simp only [execOp, ho, Sem.run_bind, hrun, Result.andThen_ok, Sem.run_pure]
  | makeSlice t x y =>
    rw [ho] at hk
    obtain ⟨el, htk, h2⟩ := onSlT_eq (show onSlT (tk P t) none _ = some (_, ao) from hk)
    have hu := tk_sl htk
    obtain ⟨lv, hl, h3⟩ := optB_eq h2
    obtain ⟨k1, l, rfl, h4⟩ := vNat_eq h3
    obtain ⟨cv, hc, h5⟩ := optB_eq h4
    obtain ⟨k2, c, rfl, h6⟩ := vNat_eq h5
    obtain ⟨hlc, h7⟩ := ifB_eq h6
    obtain ⟨hc4, h8⟩ := ifB_eq h7
    obtain ⟨hby, h9⟩ := ifB_eq h8
    obtain ⟨z, hz, h10⟩ := optB_eq h9
    obtain ⟨hzsz, h11⟩ := ifB_eq h10
    cases h11
    have q1 : l ≤ c := Nat.le_of_ble_eq_true hlc
    have q2 : c ≤ 4096 := Nat.le_of_ble_eq_true hc4
    have q3 : P.bytesOf el ≤ 1048576 := Nat.le_of_ble_eq_true hby
    have hze := Nat.eq_of_beq_eq_true hzsz
    obtain ⟨zv', hzrun, hzr'⟩ := run_zeroValue' hz w
    have hnt : ∀ l, z ≠ .tup l := fun l hl => zeroV_noTup (hl ▸ hz)
    have hzc := (hzr' e).cells hnt
    have hzs := (hzr' e).size' hnt
    have hzz := (hzr' e).size hnt
    obtain ⟨it, _, hit, _, _⟩ := zeroV_info hz
    have hbytes : it.bytes = P.bytesOf el := by simp [Program.bytesOf, hit]
    have hle : a.eval x = .int k1 (.ofNat l) := opd_eq ht hl
    have hce : a.eval y = .int k2 (.ofNat c) := opd_eq ht hc
    have hbase : ((Array.range (c * P.cellsOf el)).map (zv'.cells[· % zv'.cells.size]!)).toList = (List.replicate c zv'.cells.toList).flatten := by
      rw [← hze, hzz]; exact range_mod_eq _ _
    have hall : All2 (CR e) (repeatS (vCells z) c) ((Array.range (c * P.cellsOf el)).map (zv'.cells[· % zv'.cells.size]!)).toList := by
      rw [hbase]; exact replicate_all2 hzc c
    refine ⟨.cells _ el, _, .slice (some ⟨w.heap.size, 0, none⟩) l c, .inl ⟨_, _, rfl⟩, ?_, OR_new el hall (by rw [repeatS_eq]; simp [hzs]) hf, ⟨w.heap.size, _, Env.put_self _ _ _ _ _, rfl, q1, by unfold maxLen; omega, .inl rfl⟩⟩
    have hrun := run_makeSlice' (w := w) hu hzrun hze hit hbytes q1 q2 q3 k1 k2
    simp only [execOp, ho, hle, hce, Sem.run_bind, hrun, Result.andThen_ok, Sem.run_pure]
  | _ => rw [ho] at hk; cases hk

def fltI (L : List Oper) (y : Nat) : Option Nat := (infoOf L (befores [] L) y).flt
/-- how many make a block before their time, of the first n -/
theorem rank_mono {L : List Oper} {bf : List Nat} {i : Nat} : ∀ {j : Nat}, i ≤ j → rankB L bf i ≤ rankB L bf j
  | 0, hij => by have : i = 0 := by omega
                 rw [this]; exact Nat.le_refl _
  | j + 1, hij => by
    by_cases hije : i = j + 1
    · rw [hije]; exact Nat.le_refl _
    · have ih := rank_mono (L := L) (bf := bf) (i := i) (j := j) (by omega)
      have hs : rankB L bf (j + 1) = ifB (fltB L bf j) (Nat.succ (rankB L bf j)) (rankB L bf j) := rfl
      rw [hs]
      cases fltB L bf j with
      | true => rw [ifB_true]; omega
      | false => rw [ifB_false]; exact ih
theorem rank_lt {L : List Oper} {bf : List Nat} {i j : Nat} (hij : i < j) (hf : fltB L bf i = true) : rankB L bf i < rankB L bf j := by
  have h1 := rank_mono (L := L) (bf := bf) (i := i + 1) (j := j) (by omega)
  have hs : rankB L bf (i + 1) = ifB (fltB L bf i) (Nat.succ (rankB L bf i)) (rankB L bf i) := rfl
  rw [hs, hf, ifB_true] at h1
  omega
theorem flt_inj {L : List Oper} {i j k : Nat} (hi : fltI L i = some k) (hj : fltI L j = some k) : i = j := by
  obtain ⟨_, q1, q2⟩ := flt_kind hi
  obtain ⟨_, q3, q4⟩ := flt_kind hj
  rcases Nat.lt_trichotomy i j with h | h | h
  · have := rank_lt h q1; omega
  · exact h
  · have := rank_lt h q3; omega

/-- a block that is made, and whose time has not come -/
def Pend (b k : Nat) (M : Nat → H) (w0 : World) (e : Env) (j : Nat) (w : World) (y : Nat) : Prop :=
  ∃ c ao co, Made co ∧ e.ρ (b + k) = some c ∧ w.heap[c]? = some co ∧ OR e (b + k) ao co ∧ M (y + 1) = hSet (M y) (b + k) ao ∧ (w0.heap.size ≤ c ∧ e.base.size ≤ c) ∧
    ∀ q o, get5 (M j).t q = some o → e.ρ q ≠ some c
structure DInv (L : List Oper) (b nf : Nat) (T : Nat → S3 V) (M : Nat → H) (e0 : Env) (h0 : H) (w0 : World) (N : Nat) (S : Nat → Prop) (e : Env) (j : Nat) (a : Act) (w : World) : Prop where
  jn : j ≤ L.length
  st : Step e0 h0 w0 e (M j) w
  hr : HR e (M j) w
  ms : MarksOk e (M j) w0 w a.defers
  sz : a.tmps.size = N
  cut : ∀ y, y < L.length → clsO L y = 2 → y < j → S y
  pend : ∀ y, y < L.length → clsO L y = 2 → S y → j ≤ y → ∃ k, fltI L y = some k ∧ (Pend b k M w0 e j w y ∨ (M (y + 1) = M y ∧ e.ρ (b + k) = none))
  dj : ∀ y y2 k k2, j ≤ y → j ≤ y2 → S y → S y2 → fltI L y = some k → fltI L y2 = some k2 → y ≠ y2 → ∀ c, e.ρ (b + k) = some c → e.ρ (b + k2) ≠ some c
  free : ∀ y k, y < L.length → fltI L y = some k → ¬ S y → e.ρ (b + k) = none
  bd : b + nf ≤ (M j).nxt
  sl : ∀ k, k ≤ L.length → ¬ S k → ∀ t, (k = L.length ∨ t ∈ looks L (atO L k)) → (∀ m, m < k → (atO L m).dst = some t → S m) → ∀ x, get3 (T k) t = some x → VR e x (a.tmps.getD t undef)
/-- the next effect has not been carried out -/
def Norm (L : List Oper) (S : Nat → Prop) (j : Nat) : Prop := ∀ y, y < L.length → j ≤ y → clsO L y = 2 → (∀ z, j ≤ z → z < y → clsO L z ≠ 2) → ¬ S y

structure SetOk (L : List Oper) (S : Nat → Prop) : Prop where
  lt : ∀ m, S m → m < L.length
  cl : ∀ j, j < L.length → S j → ∀ m ∈ waitsFor (atO L j), S m

theorem slots_at (tr : Trace P rec L b T M Hs Rs v) {S : Nat → Prop} (hS : SetOk L S) {e : Env} {j i : Nat} {nf : Nat} (hd : DInv L b nf T M e0 h0 w0 N S e j a w) (hi : i < L.length) (hni : ¬ S i) (hwi : ∀ m ∈ waitsFor (atO L i), S m) :
    TR e (keep3 (fun t => hasNat t (looks L (atO L i))) (T i)) a.tmps := by
  intro t x hx
  rw [get3_keep] at hx
  cases hl : hasNat t (looks L (atO L i)) with
  | false => rw [hl] at hx; simp at hx
  | true =>
    rw [hl] at hx
    have hmem : t ∈ looks L (atO L i) := by rw [hasNat_eq] at hl; exact List.contains_iff_mem.1 hl
    refine hd.sl i (by omega) hni t (.inr hmem) (fun m hm hdst => ?_) x (by simpa using hx)
    rcases tr.ord.apart m i hm hi with h1 | ⟨h1, _⟩
    · exact closed_bf hS.cl i hi hwi m h1
    · have := h1 t hdst
      rw [touchesB_looks hmem] at this
      cases this
theorem keep_op {i : Nat} {h : H} : opR P (keep3 (fun t => hasNat t (looks L (atO L i))) (T i)) h (atO L i).op = opR P (T i) h (atO L i).op := by
  refine opR_congr fun x hx => ?_
  cases x with
  | tmp t =>
    show get3 _ t = get3 _ t
    rw [get3_keep, hasNat_eq, List.contains_iff_mem.2 (looks_tmp hx)]
    rfl
  | _ => rfl
theorem keep_want {i : Nat} : wantQ L (keep3 (fun t => hasNat t (looks L (atO L i))) (T i)) (atO L i) = wantQ L (T i) (atO L i) := by
  unfold wantQ
  cases hg : (atO L i).guard with
  | none => rfl
  | some g =>
    rw [optB_some, optB_some]
    unfold yieldQ
    cases hp : atS L g.1 with
    | none => rfl
    | some p =>
      rw [optB_some, optB_some]
      cases hd : p.dst with
      | none => rfl
      | some d =>
        rw [optB_some, optB_some, get3_keep, hasNat_eq, List.contains_iff_mem.2 (looks_guard (b := g.2) hg hp hd)]
        rfl

/-- slots, after one operation more -/
theorem sl_step (tr : Trace P rec L b T M Hs Rs v) {S : Nat → Prop} (hS : SetOk L S) {nf : Nat} {e : Env} {j i : Nat} (hd : DInv L b nf T M e0 h0 w0 N S e j a w) (hi : i < L.length) (hni : ¬ S i) (hwi : ∀ m ∈ waitsFor (atO L i), S m)
    (hdst : ∀ t, (atO L i).dst = some t → t < N) {e' : Env} {v' : Value} (hle : e.le e') (hv : VR e' (v i) v') :
    ∀ k, k ≤ L.length → ¬ (S k ∨ k = i) → ∀ t, (k = L.length ∨ t ∈ looks L (atO L k)) → (∀ m, m < k → (atO L m).dst = some t → S m ∨ m = i) → ∀ x, get3 (T k) t = some x → VR e' x ((a.put (atO L i).dst v').tmps.getD t undef) := by
  have hbf : ∀ m, inB (befores [] L) i m → S m := closed_bf hS.cl i hi hwi
  intro k hk hnk t ht hw x hx
  have hnk1 : ¬ S k := fun h => hnk (.inl h)
  have hnk2 : k ≠ i := fun h => hnk (.inr h)
  by_cases hwt : (atO L i).dst = some t
  · -- it is the one that writes here
    have hik : i < k := by
      rcases Nat.lt_or_ge i k with h1 | h1
      · exact h1
      · exfalso
        have hki : k < i := by omega
        rcases ht with h2 | h2
        · omega
        · rcases tr.ord.apart k i hki hi with h3 | ⟨_, h3⟩
          · exact hnk1 (hbf k h3)
          · have := h3 t hwt
            rw [touchesB_looks h2] at this
            cases this
    have hno : ∀ m, i + 1 ≤ m → m < k → (atO L m).dst ≠ some t := fun m m1 m2 m3 => by
      rcases hw m m2 m3 with h1 | h1
      · have hmL := hS.lt m h1
        rcases tr.ord.apart i m (by omega) hmL with h3 | ⟨h3, _⟩
        · exact hni (closed_bf hS.cl m hmL (hS.cl m hmL h1) i h3)
        · have := h3 t hwt
          rw [touchesB_dst m3] at this
          cases this
      · omega
    have hx1 := tr_range tr (i := i + 1) (by omega) hk hno hx
    have htm := (tr.step i hi).tm
    rw [htm] at hx1
    have hdd : (infoOf L (befores [] L) i).o.dst = some t := hwt
    rw [hdd, putA_some] at hx1
    rcases get3_set3 hx1 with ⟨_, rfl⟩ | ⟨hne, _⟩
    · have hlt : t < a.tmps.size := by rw [hd.sz]; exact hdst t hwt
      rw [hwt]
      show VR e' (v i) ((a.tmps.setIfInBounds t v').getD t undef)
      rw [Array.getD_eq_getD_getElem?, Array.getElem?_setIfInBounds_self_of_lt hlt]
      exact hv
    · exact absurd rfl hne
  · have hold : VR e x (a.tmps.getD t undef) := hd.sl k hk hnk1 t ht (fun m m1 m2 => by
      rcases hw m m1 m2 with h1 | h1
      · exact h1
      · subst h1; exact absurd m2 hwt) x hx
    have heq : (a.put (atO L i).dst v').tmps.getD t undef = a.tmps.getD t undef := by
      unfold Act.put
      cases hdi : (atO L i).dst with
      | none => rfl
      | some d =>
        have hne : d ≠ t := fun h => hwt (by rw [hdi, h])
        show (a.tmps.setIfInBounds d v').getD t undef = _
        rw [Array.getD_eq_getD_getElem?, Array.getElem?_setIfInBounds_ne hne, ← Array.getD_eq_getD_getElem?]
    rw [heq]
    exact VR.mono hle hold

theorem put_sz (i : Nat) (v' : Value) : (a.put (atO L i).dst v').tmps.size = a.tmps.size := by unfold Act.put; cases (atO L i).dst <;> simp
theorem put_df (i : Nat) (v' : Value) : (a.put (atO L i).dst v').defers = a.defers := by unfold Act.put; cases (atO L i).dst <;> rfl
theorem Pend.step {k j j' y : Nat} {e e' : Env} {w' : World} (hp : Pend b k M w0 e j w y) (hs : Step e (M j) w e' (M j') w') : Pend b k M w0 e' j' w' y := by
  obtain ⟨c, ao, co, hmk, h1, h2, h3, h4, h5, h6⟩ := hp
  have hlt := (Array.getElem?_eq_some_iff.1 h2).1
  refine ⟨c, ao, co, hmk, hs.le.ρ _ _ h1, by rw [hs.keep c hlt h6]; exact h2, OR.mono hs.le h1 h3, h4, ⟨h5.1, by rw [hs.le.base]; exact h5.2⟩, fun q o hq hc => ?_⟩
  rcases hs.org q o c hq hc with h7 | ⟨q0, o0, h8, h9⟩
  · omega
  · exact h6 q0 o0 h8 h9

/-- one operation more, that is carried out at its time -/
theorem dinv_step (tr : Trace P rec L b T M Hs Rs v) {S : Nat → Prop} (hS : SetOk L S) {nf : Nat} {e : Env} {j i : Nat} (hd : DInv L b nf T M e0 h0 w0 N S e j a w) (hi : i < L.length) (hni : ¬ S i) (hwi : ∀ m ∈ waitsFor (atO L i), S m)
    (hnf : ∀ y k, fltI L y = some k → k < nf) (hfl : fltI L i = none)
    (hdst : ∀ t, (atO L i).dst = some t → t < N) {e' : Env} {w' : World} {v' : Value} (hs : Step e (M j) w e' (M (if clsO L i = 2 then i + 1 else j)) w') (hr : HR e' (M (if clsO L i = 2 then i + 1 else j)) w') (hv : VR e' (v i) v') :
    DInv L b nf T M e0 h0 w0 N (fun m => S m ∨ m = i) e' (if clsO L i = 2 then i + 1 else j) (a.put (atO L i).dst v') w' := by
  have hbf : ∀ m, inB (befores [] L) i m → S m := closed_bf hS.cl i hi hwi
  have hlow : ∀ k, k < nf → e'.ρ (b + k) = e.ρ (b + k) := fun k hk => hs.low _ (by have := hd.bd; omega)
  have hji : clsO L i = 2 → j ≤ i := fun hc => by
    rcases Nat.lt_or_ge i j with h | h
    · exact absurd (hd.cut i hi hc h) hni
    · exact h
  have hjle : j ≤ (if clsO L i = 2 then i + 1 else j) := by
    split
    · rename_i hc; have := hji hc; omega
    · exact Nat.le_refl _
  refine ⟨?_, hd.st.trans hs, hr, by rw [put_df]; exact hd.ms.step hs, by rw [put_sz]; exact hd.sz, fun y hy hy2 hyj => ?_, fun y hy hy2 hSy hjy => ?_, fun y y2 k k2 h1 h2 h3 h4 h5 h6 hne => ?_, fun y k hy hk hSy => ?_, ?_, sl_step tr hS hd hi hni hwi hdst hs.le hv⟩
  · split
    · omega
    · exact hd.jn
  · by_cases hc : clsO L i = 2
    · rw [if_pos hc] at hyj
      by_cases hyi : y = i
      · exact .inr hyi
      · exact .inl (hbf y (tr.ord.chain y i (by omega) hi hy2 hc (by
          cases hb : fltB L (befores [] L) i with
          | false => rfl
          | true =>
            have : fltI L i = some (rankB L (befores [] L) i) := by
              show ifB (fltB L (befores [] L) i) _ none = _
              rw [hb]; rfl
            rw [hfl] at this; cases this)))
    · rw [if_neg hc] at hyj
      exact .inl (hd.cut y hy hy2 hyj)
  · rcases hSy with h1 | h1
    · obtain ⟨k, q1, q2⟩ := hd.pend y hy hy2 h1 (by omega)
      exact ⟨k, q1, q2.imp (·.step hs) fun h => ⟨h.1, by rw [hlow k (hnf _ _ q1)]; exact h.2⟩⟩
    · exfalso
      subst h1
      rw [if_pos hy2] at hjy
      omega
  · have hS3 : S y := by
      rcases h3 with h | h
      · exact h
      · subst h; rw [hfl] at h5; cases h5
    have hS4 : S y2 := by
      rcases h4 with h | h
      · exact h
      · subst h; rw [hfl] at h6; cases h6
    rw [hlow k (hnf _ _ h5), hlow k2 (hnf _ _ h6)]
    exact hd.dj y y2 k k2 (by omega) (by omega) hS3 hS4 h5 h6 hne
  · rw [hlow k (hnf _ _ hk)]
    exact hd.free y k hy hk fun h => hSy (.inl h)
  · exact Nat.le_trans hd.bd hs.nxt

/-- one operation more, that makes a block, at any time -/
theorem dinv_flt (tr : Trace P rec L b T M Hs Rs v) {S : Nat → Prop} (hS : SetOk L S) {nf : Nat} {e : Env} {j i : Nat} (hd : DInv L b nf T M e0 h0 w0 N S e j a w) (hi : i < L.length) (hni : ¬ S i) (hwi : ∀ m ∈ waitsFor (atO L i), S m)
    (hnf : ∀ y k, fltI L y = some k → k < nf) {k : Nat} (hfl : fltI L i = some k) (hb0 : h0.nxt ≤ b)
    (hdst : ∀ t, (atO L i).dst = some t → t < N) {ao : AO} {co : Obj} {sz : Nat} {v' : Value} (hmk : Made co) (hM : M (i + 1) = hSet (M i) (b + k) ao)
    (hor : OR (e.put (b + k) w.heap.size sz 0) (b + k) ao co) (hv : VR (e.put (b + k) w.heap.size sz 0) (v i) v') :
    DInv L b nf T M e0 h0 w0 N (fun m => S m ∨ m = i) (e.put (b + k) w.heap.size sz 0) j (a.put (atO L i).dst v') (w.alloc co) := by
  have hc : clsO L i = 2 := flt_cls hfl
  have hji : j ≤ i := by
    rcases Nat.lt_or_ge i j with h | h
    · exact absurd (hd.cut i hi hc h) hni
    · exact h
  have hfree := hd.free i k hi hfl hni
  have hle := Env.put_le hfree w.heap.size sz 0
  have hkn := hnf i k hfl
  have hbd := hd.bd
  have hother : ∀ q, q ≠ b + k → (e.put (b + k) w.heap.size sz 0).ρ q = e.ρ q := fun q hq => by simp [Env.put, hq]
  have hself : (e.put (b + k) w.heap.size sz 0).ρ (b + k) = some w.heap.size := Env.put_self _ _ _ _ _
  have hlive : ∀ {q o}, get5 (M j).t q = some o → (e.put (b + k) w.heap.size sz 0).ρ q = e.ρ q := fun {q o} hq => by
    obtain ⟨cb, h1, _⟩ := hd.hr.live q o hq
    exact hother q fun h => by rw [h, hfree] at h1; cases h1
  have hold : ∀ {c o}, w.heap[c]? = some o → (w.alloc co).heap[c]? = some o := fun {c o} h => by
    rw [heap_alloc_old w _ c (Array.getElem?_eq_some_iff.1 h).1]; exact h
  refine ⟨hd.jn, ⟨hd.st.le.trans hle, hd.st.nxt, Nat.le_trans hd.st.size (by simp), hd.st.tape, hd.st.os, hd.st.output, fun c hcs hn => ?_, fun q o c hq hqc => ?_, fun c r hr => ?_, fun q hq => ?_⟩,
    ⟨fun q hq => ?_, fun q o hq => ?_, fun q q' o1 o2 c h1 h2 h3 h4 => ?_, hd.hr.vws.to hle (by simp) (fun c hc => heap_alloc_old w _ c (Nat.lt_of_lt_of_le hc hd.hr.vws.lim)) (fun q o c hq hc => by rw [hlive hq] at hc; exact hd.hr.vws.own q o c hq hc) fun _ _ h => h⟩, ?_, by rw [put_sz]; exact hd.sz, fun y hy hy2 hyj => .inl (hd.cut y hy hy2 hyj), fun y hy hy2 hSy hjy => ?_, fun y y2 k1 k2 h1 h2 h3 h4 h5 h6 hne => ?_, fun y k1 hy hk1 hSy => ?_, hd.bd, sl_step tr hS hd hi hni hwi hdst hle hv⟩
  · rw [heap_alloc_old w _ c (Nat.lt_of_lt_of_le hcs hd.st.size)]; exact hd.st.keep c hcs hn
  · rw [hlive hq] at hqc; exact hd.st.org q o c hq hqc
  · obtain ⟨r', hr'⟩ := hd.st.loops c r hr
    exact ⟨r', hold hr'⟩
  · rw [hother q (by omega)]; exact hd.st.low q hq
  · rw [hother q (by omega)]; exact hd.hr.fresh q hq
  · obtain ⟨cb, h1, co, h2, h3⟩ := hd.hr.live q o hq
    exact ⟨cb, hle.ρ _ _ h1, co, hold h2, OR.mono hle h1 h3⟩
  · rw [hlive h1] at h3; rw [hlive h2] at h4
    exact hd.hr.inj q q' o1 o2 c h1 h2 h3 h4
  · rw [put_df]
    obtain ⟨ms, m1, m2, m3⟩ := hd.ms
    refine ⟨ms, m1, m2, fun r hr => ?_⟩
    obtain ⟨p1, p2, p3⟩ := m3 r hr
    exact ⟨p1, hold p2, fun q o hq hc => by rw [hlive hq] at hc; exact p3 q o hq hc⟩
  · rcases hSy with h1 | h1
    · obtain ⟨k1, q1, ⟨c, ao1, co1, pm, p1, p2, p3, p4, p5, p6⟩ | ⟨p1, p2⟩⟩ := hd.pend y hy hy2 h1 hjy
      · exact ⟨k1, q1, .inl ⟨c, ao1, co1, pm, hle.ρ _ _ p1, hold p2, OR.mono hle p1 p3, p4, p5, fun q o hq hc => by rw [hlive hq] at hc; exact p6 q o hq hc⟩⟩
      · exact ⟨k1, q1, .inr ⟨p1, by rw [hother _ fun h => hni (by rw [← flt_inj (k := k) (by rw [show k = k1 by omega]; exact q1) hfl]; exact h1)]; exact p2⟩⟩
    · subst h1
      refine ⟨k, hfl, .inl ⟨w.heap.size, ao, co, hmk, hself, heap_alloc_new w _, hor, hM, ⟨hd.st.size, hd.hr.vws.lim⟩, fun q o hq hc => ?_⟩⟩
      rw [hlive hq] at hc
      exact absurd (hd.hr.lt hq hc) (by omega)
  · have hnew : ∀ {y1 k1}, j ≤ y1 → S y1 → fltI L y1 = some k1 → (e.put (b + k) w.heap.size sz 0).ρ (b + k1) = e.ρ (b + k1) ∧ ∀ c, e.ρ (b + k1) = some c → c < w.heap.size := fun {y1 k1} q1 q2 q3 => by
      refine ⟨hother _ fun h => hni (by rw [← flt_inj (k := k) (by rw [show k = k1 by omega]; exact q3) hfl]; exact q2), fun c hc => ?_⟩
      obtain ⟨k3, q4, ⟨c', _, _, _, p1, p2, _⟩ | ⟨_, p2⟩⟩ := hd.pend y1 (hS.lt _ q2) (flt_cls q3) q2 q1
      · rw [q3] at q4; cases q4
        rw [hc] at p1; cases p1
        exact (Array.getElem?_eq_some_iff.1 p2).1
      · rw [q3] at q4; cases q4
        rw [hc] at p2; cases p2
    intro c hc1 hc2
    rcases h3 with h3 | h3 <;> rcases h4 with h4 | h4
    · rw [(hnew h1 h3 h5).1] at hc1
      rw [(hnew h2 h4 h6).1] at hc2
      exact hd.dj y y2 k1 k2 h1 h2 h3 h4 h5 h6 hne c hc1 hc2
    · rw [(hnew h1 h3 h5).1] at hc1
      have := (hnew h1 h3 h5).2 c hc1
      subst h4
      rw [hfl] at h6; cases h6
      rw [hself] at hc2
      cases hc2; omega
    · rw [(hnew h2 h4 h6).1] at hc2
      have := (hnew h2 h4 h6).2 c hc2
      subst h3
      rw [hfl] at h5; cases h5
      rw [hself] at hc1
      cases hc1; omega
    · omega
  · have hyi : y ≠ i := fun h => hSy (.inr h)
    rw [hother _ fun h => hyi (flt_inj (k := k) (by rw [show k = k1 by omega]; exact hk1) hfl)]
    exact hd.free y k1 hy hk1 fun h => hSy (.inl h)

/-- a block that would be made, and is not -/
theorem dinv_fltSkip (tr : Trace P rec L b T M Hs Rs v) {S : Nat → Prop} (hS : SetOk L S) {nf : Nat} {e : Env} {j i : Nat} (hd : DInv L b nf T M e0 h0 w0 N S e j a w) (hi : i < L.length) (hni : ¬ S i) (hwi : ∀ m ∈ waitsFor (atO L i), S m)
    {k : Nat} (hfl : fltI L i = some k) (hdst : ∀ t, (atO L i).dst = some t → t < N) {v' : Value} (hM : M (i + 1) = M i) (hv : VR e (v i) v') :
    DInv L b nf T M e0 h0 w0 N (fun m => S m ∨ m = i) e j (a.put (atO L i).dst v') w := by
  have hfree := hd.free i k hi hfl hni
  refine ⟨hd.jn, hd.st, hd.hr, by rw [put_df]; exact hd.ms, by rw [put_sz]; exact hd.sz, fun y hy hy2 hyj => .inl (hd.cut y hy hy2 hyj), fun y hy hy2 hSy hjy => ?_, fun y y2 k1 k2 h1 h2 h3 h4 h5 h6 hne => ?_, fun y k1 hy hk1 hSy => hd.free y k1 hy hk1 fun h => hSy (.inl h), hd.bd, sl_step tr hS hd hi hni hwi hdst (.refl e) hv⟩
  · rcases hSy with h1 | h1
    · exact hd.pend y hy hy2 h1 hjy
    · subst h1; exact ⟨k, hfl, .inr ⟨hM, hfree⟩⟩
  · intro c hc1 hc2
    rcases h3 with h3 | h3 <;> rcases h4 with h4 | h4
    · exact hd.dj y y2 k1 k2 h1 h2 h3 h4 h5 h6 hne c hc1 hc2
    · subst h4
      rw [hfl] at h6; cases h6
      rw [hfree] at hc2; cases hc2
    · subst h3
      rw [hfl] at h5; cases h5
      rw [hfree] at hc1; cases hc1
    · omega

/-- the next effect has been carried out before its time -/
theorem dinv_absorb (tr : Trace P rec L b T M Hs Rs v) {S : Nat → Prop} {nf : Nat} {e : Env} {j y : Nat} (hd : DInv L b nf T M e0 h0 w0 N S e j a w) (hy : y < L.length) (hjy : j ≤ y) (hc : clsO L y = 2) (hno : ∀ z, j ≤ z → z < y → clsO L z ≠ 2) (hSy : S y) (_hSL : ∀ m, S m → m < L.length) :
    DInv L b nf T M e0 h0 w0 N S e (y + 1) a w := by
  have hMy : M y = M j := tr_M tr hjy (by omega) hno
  obtain ⟨k, hfl, ⟨c, ao, co, pm, p1, p2, p3, p4, p5, p6⟩ | ⟨p4, p1⟩⟩ := hd.pend y hy hc hSy hjy
  rotate_left
  · rw [hMy] at p4
    refine ⟨by omega, by rw [p4]; exact hd.st, by rw [p4]; exact hd.hr, by rw [p4]; exact hd.ms, hd.sz, fun z hz hz2 hzj => ?_, fun z hz hz2 hSz hjz => ?_, fun y1 y2 k1 k2 h1 h2 => hd.dj y1 y2 k1 k2 (by omega) (by omega), hd.free, by rw [p4]; exact hd.bd, hd.sl⟩
    · by_cases hzj2 : z < j
      · exact hd.cut z hz hz2 hzj2
      · by_cases hzy : z = y
        · subst hzy; exact hSy
        · exact absurd hz2 (hno z (by omega) (by omega))
    · obtain ⟨k1, q1, ⟨c1, ao1, co1, sm, s1, s2, s3, s4, s5, s6⟩ | h⟩ := hd.pend z hz hz2 hSz (by omega)
      · exact ⟨k1, q1, .inl ⟨c1, ao1, co1, sm, s1, s2, s3, s4, s5, by rw [p4]; exact s6⟩⟩
      · exact ⟨k1, q1, .inr h⟩
  rw [hMy] at p4
  have hget : ∀ {q o}, get5 (M (y + 1)).t q = some o → (q = b + k ∧ o = ao) ∨ (q ≠ b + k ∧ get5 (M j).t q = some o) := fun {q o} hq => by
    rw [p4] at hq; exact get5_set5 hq
  have hnx : (M (y + 1)).nxt = (M j).nxt := by rw [p4]; rfl
  refine ⟨by omega, ⟨hd.st.le, by rw [hnx]; exact hd.st.nxt, hd.st.size, hd.st.tape, hd.st.os, hd.st.output, hd.st.keep, fun q o x hq hx => ?_, hd.st.loops, hd.st.low⟩,
    ⟨fun q hq => hd.hr.fresh q (by rw [← hnx]; exact hq), fun q o hq => ?_, fun q q' o1 o2 x h1 h2 h3 h4 => ?_, hd.hr.vws.to (.refl e) (Nat.le_refl _) (fun _ _ => rfl) (fun q o x hq hx => by
      rcases hget hq with ⟨rfl, rfl⟩ | ⟨_, h2⟩
      · rw [p1] at hx; cases hx; exact p5.2
      · exact hd.hr.vws.own q o x h2 hx) fun q x hq => by rw [p4] at hq; exact hq⟩, ?_, hd.sz, fun z hz hz2 hzj => ?_, fun z hz hz2 hSz hjz => ?_, fun y1 y2 k1 k2 h1 h2 => hd.dj y1 y2 k1 k2 (by omega) (by omega), hd.free, by rw [hnx]; exact hd.bd, hd.sl⟩
  · rcases hget hq with ⟨rfl, rfl⟩ | ⟨_, h2⟩
    · rw [p1] at hx; cases hx; exact .inl p5.1
    · exact hd.st.org q o x h2 hx
  · rcases hget hq with ⟨rfl, rfl⟩ | ⟨_, h2⟩
    · exact ⟨c, p1, _, p2, p3⟩
    · exact hd.hr.live q o h2
  · rcases hget h1 with ⟨rfl, rfl⟩ | ⟨hn1, g1⟩ <;> rcases hget h2 with ⟨rfl, rfl⟩ | ⟨hn2, g2⟩
    · rfl
    · rw [p1] at h3; cases h3; exact absurd h4 (p6 q' o2 g2)
    · rw [p1] at h4; cases h4; exact absurd h3 (p6 q o1 g1)
    · exact hd.hr.inj q q' o1 o2 x g1 g2 h3 h4
  · obtain ⟨ms, m1, m2, m3⟩ := hd.ms
    refine ⟨ms, m1, m2, fun r hr => ?_⟩
    obtain ⟨r1, r2, r3⟩ := m3 r hr
    refine ⟨r1, r2, fun q o hq hcr => ?_⟩
    rcases hget hq with ⟨rfl, rfl⟩ | ⟨_, h2⟩
    · rw [p1] at hcr; cases hcr; rw [p2] at r2; cases r2; rcases pm with ⟨_, _, pm⟩ | pm <;> cases pm
    · exact r3 q o h2 hcr
  · by_cases hzj2 : z < j
    · exact hd.cut z hz hz2 hzj2
    · by_cases hzy : z = y
      · subst hzy; exact hSy
      · exact absurd hz2 (hno z (by omega) (by omega))
  · obtain ⟨k1, q1, ⟨c1, ao1, co1, sm, s1, s2, s3, s4, s5, s6⟩ | h⟩ := hd.pend z hz hz2 hSz (by omega)
    rotate_left
    · exact ⟨k1, q1, .inr h⟩
    refine ⟨k1, q1, .inl ⟨c1, ao1, co1, sm, s1, s2, s3, s4, s5, fun q o hq hcq => ?_⟩⟩
    rcases hget hq with ⟨rfl, rfl⟩ | ⟨_, h2⟩
    · exact hd.dj y z k k1 hjy (by omega) hSy hSz hfl q1 (by omega) c1 hcq s1
    · exact s6 q o h2 hcq
theorem dinv_norm (tr : Trace P rec L b T M Hs Rs v) {S : Nat → Prop} {nf : Nat} {e : Env} (hSL : ∀ m, S m → m < L.length) : ∀ (d : Nat) {j : Nat}, L.length - j ≤ d → DInv L b nf T M e0 h0 w0 N S e j a w → ∃ j', DInv L b nf T M e0 h0 w0 N S e j' a w ∧ Norm L S j' := by
  intro d
  induction d with
  | zero =>
    intro j hj hd
    exact ⟨j, hd, fun y hy hjy _ _ => by omega⟩
  | succ d ih =>
    intro j hj hd
    by_cases hex : ∃ y, j ≤ y ∧ y < L.length ∧ (clsO L y = 2 ∧ S y ∧ ∀ z, j ≤ z → z < y → clsO L z ≠ 2)
    · obtain ⟨y, h1, h2, h3, h4, h5⟩ := hex
      exact ih (by omega) (dinv_absorb tr hd h2 h1 h3 h5 h4 hSL)
    · exact ⟨j, hd, fun y hy hjy hc hno hSy => hex ⟨y, hjy, hy, hc, hSy, hno⟩⟩

theorem keep_flt {i id : Nat} : opFlt P (keep3 (fun t => hasNat t (looks L (atO L i))) (T i)) (atO L i).op id = opFlt P (T i) (atO L i).op id := by
  have hx : ∀ x, x ∈ (atO L i).op.operands → opd (keep3 (fun t => hasNat t (looks L (atO L i))) (T i)) x = opd (T i) x := fun x hx => by
    cases x with
    | tmp t =>
      show get3 _ t = get3 _ t
      rw [get3_keep, hasNat_eq, List.contains_iff_mem.2 (looks_tmp hx)]
      rfl
    | _ => rfl
  cases ho : (atO L i).op with
  | alloc t => rfl
  | makeSlice t l c =>
    rw [ho] at hx
    unfold opFlt
    simp only [hx l (by simp [Op.operands]), hx c (by simp [Op.operands])]
  | buildSlice t len parts =>
    rw [ho] at hx
    have hp : mapO (partOpd (keep3 (fun t => hasNat t (looks L (atO L i))) (T i))) parts.toList = mapO (partOpd (T i)) parts.toList := by
      have hm : ∀ p ∈ parts.toList, opd (keep3 (fun t => hasNat t (looks L (atO L i))) (T i)) p.2 = opd (T i) p.2 := fun p hp => hx p.2 (by
        show p.2 ∈ (parts.toList.map (·.2)).toArray
        simp only [List.mem_toArray, List.mem_map]
        exact ⟨p, hp, rfl⟩)
      generalize parts.toList = l at hm
      induction l with
      | nil => rfl
      | cons p ps ih =>
        show optB (optB (opd _ p.2) none fun x => vNoTup x none (some (p.1, x))) none _ = optB (optB (opd _ p.2) none fun x => vNoTup x none (some (p.1, x))) none _
        rw [hm p (List.mem_cons_self ..)]
        have := ih fun q hq => hm q (List.mem_cons_of_mem _ hq)
        show optB _ none (fun y => optB (mapO (partOpd (keep3 _ (T i))) ps) none fun ys => some (y :: ys)) = optB _ none (fun y => optB (mapO (partOpd (T i)) ps) none fun ys => some (y :: ys))
        rw [this]
    unfold opFlt
    simp only [hp]
  | _ => rfl

/-- one way through a run whose calls may end in several -/
structure Way (P : Program) (rec : Rec) (L : List Oper) (b : Nat) (l : List DI) (O : Out) (T : Nat → S3 V) (M : Nat → H) (Hs : Nat → List (Nat × H)) (Rs : Nat → List RE) (v : Nat → V) : Prop where
  tr : Trace P rec L b T M Hs Rs v
  nf : ∀ i, i ≤ L.length → NoFail (opsD P rec L b (l.drop i) (T i) (M i) (Hs i) (Rs i))
  lf : ∀ i, i ≤ L.length → ∀ ex tm h, Leaf (opsD P rec L b (l.drop i) (T i) (M i) (Hs i) (Rs i)) ex tm h → Leaf O ex tm h
/-- two ways agree up to an effect -/
structure Agr (j : Nat) (T : Nat → S3 V) (M : Nat → H) (v : Nat → V) (T' : Nat → S3 V) (M' : Nat → H) (v' : Nat → V) : Prop where
  t : ∀ k, k ≤ j → T' k = T k
  m : ∀ k, k ≤ j → M' k = M k
  v : ∀ k, k < j → v' k = v k
structure Lst (L : List Oper) (l : List DI) : Prop where
  len : l.length = L.length
  at' : ∀ k, k < L.length → l[k]? = some (infoOf L (befores [] L) k)
  cls : ∀ d ∈ l, d.cls = classOf d.o.op ∧ d.cls ≤ 2 ∧ ∀ k, d.flt = some k → d.cls = 2
variable {l : List DI} {O : Out}
theorem way_cut (hl : Lst L l) (wy : Way P rec L b l O T M Hs Rs v) {i : Nat} (hi : i < L.length) (hfl : fltI L i = none) {t : Task} {r : R} (hr : opR P (T i) (M i) (atO L i).op = some r)
    (ht : (∃ f args, r = .call f args ∧ t = .call f args) ∨ ∃ f args, r = .yield f args ∧ t = .yield f args) (hw : wantQ L (T i) (atO L i) = some true) :
    NoFail (rec t e3 (M i)) ∧ ∀ ex tmx hx, Leaf (rec t e3 (M i)) ex tmx hx → ∃ v0, ex = .val v0 ∧ ∃ T' M' Hs' Rs' v', Way P rec L b l O T' M' Hs' Rs' v' ∧ Agr i T M v T' M' v' ∧ M' (i + 1) = hx ∧ v' i = v0 := by
  have hil : i < l.length := by rw [hl.len]; exact hi
  have hd : l[i]'hil = infoOf L (befores [] L) i := by
    have := hl.at' i hi
    rw [List.getElem?_eq_getElem hil] at this
    exact Option.some.inj this
  have hdr : l.drop i = infoOf L (befores [] L) i :: l.drop (i + 1) := by rw [List.drop_eq_getElem_cons hil, hd]
  have hn := wy.nf i (by omega)
  have hlf := wy.lf i (by omega)
  rw [hdr] at hn hlf
  obtain ⟨hc1, hc2, _⟩ := hl.cls (infoOf L (befores [] L) i) (by rw [← hd]; exact List.getElem_mem _)
  obtain ⟨q1, q2⟩ := call_step (d := infoOf L (befores [] L) i) hr ht hw hc1 hc2 hfl hn
  refine ⟨q1, fun ex tmx hx hlv => ?_⟩
  obtain ⟨v0, rfl, q3, q4, q5⟩ := q2 _ _ _ hlv
  obtain ⟨Tt, Mt, Ht, Rt, vt, r1, r2, r3, r4, r5, r6⟩ := trace_exists (l.drop (i + 1)) _ _ _ _ (fun d hd => hl.cls d (List.mem_of_mem_drop hd)) q4
  have h3 : ∀ k, ¬ k ≤ i → k - (i + 1) + (i + 1) = k := fun k hk => by omega
  refine ⟨v0, rfl, fun k => if k ≤ i then T k else Tt (k - (i + 1)), fun k => if k ≤ i then M k else Mt (k - (i + 1)), fun k => if k ≤ i then Hs k else Ht (k - (i + 1)), fun k => if k ≤ i then Rs k else Rt (k - (i + 1)),
    fun k => if k < i then v k else if k = i then v0 else vt (k - (i + 1)), ⟨⟨fun k hk => ?_, wy.tr.ord⟩, fun k hk => ?_, fun k hk => ?_⟩, ⟨fun k hk => if_pos hk, fun k hk => if_pos hk, fun k hk => if_pos hk⟩, ?_, ?_⟩
  · rcases Nat.lt_trichotomy k i with h | h | h
    · simp only [if_pos (show k ≤ i by omega), if_pos (show k + 1 ≤ i by omega), if_pos h]
      exact wy.tr.step k hk
    · subst h
      simp only [if_pos (Nat.le_refl k), if_neg (show ¬ k + 1 ≤ k by omega), if_neg (show ¬ k < k by omega), if_true, Nat.sub_self]
      rw [r1, r2, r3, r4]
      exact q3
    · simp only [if_neg (show ¬ k ≤ i by omega), if_neg (show ¬ k + 1 ≤ i by omega), if_neg (show ¬ k < i by omega), if_neg (show ¬ k = i by omega), show k + 1 - (i + 1) = k - (i + 1) + 1 by omega]
      refine r6 _ _ ?_
      rw [List.getElem?_drop, show i + 1 + (k - (i + 1)) = k by omega]
      exact hl.at' k hk
  · by_cases h : k ≤ i
    · simp only [if_pos h]; exact wy.nf k hk
    · simp only [if_neg h]
      have := (r5 (k - (i + 1)) (by rw [List.length_drop, hl.len]; omega)).1
      rw [List.drop_drop, show i + 1 + (k - (i + 1)) = k by omega] at this
      exact this
  · by_cases h : k ≤ i
    · simp only [if_pos h]; exact wy.lf k hk
    · simp only [if_neg h]
      have := (r5 (k - (i + 1)) (by rw [List.length_drop, hl.len]; omega)).2
      rw [List.drop_drop, show i + 1 + (k - (i + 1)) = k by omega] at this
      exact fun ex tm' h' hq => hlf _ _ _ (q5 _ _ _ (this _ _ _ hq))
  · simp only [if_neg (show ¬ i + 1 ≤ i by omega), Nat.sub_self]
    exact r2
  · simp only [if_neg (show ¬ i < i by omega), if_true]
theorem get3_path {α : Type} {t : S3 α} {k k' : Nat} {x y : α} (hk : k' ≠ k) (h : get3 (set3 t k x) k' = some y) : path3 k' ≠ path3 k := by
  intro hp
  rw [get3_look] at h
  have h2 := atL_some h
  rw [look3_set, if_pos hp] at h2
  cases h2
  exact hk rfl
theorem get3_off {α : Type} {t : S3 α} {k k' : Nat} {x : α} (hp : path3 k' ≠ path3 k) : get3 (set3 t k x) k' = get3 t k' := by
  rw [get3_look, get3_look, look3_set, if_neg hp]
/-- slots that only what agrees has written -/
theorem get3_both {T' : Nat → S3 V} {M' : Nat → H} {Hs' : Nat → List (Nat × H)} {Rs' : Nat → List RE} {v' : Nat → V} (tr : Trace P rec L b T M Hs Rs v) (tr' : Trace P rec L b T' M' Hs' Rs' v') (h0' : T' 0 = T 0) {t : Nat} : ∀ {j : Nat}, j ≤ L.length → (∀ k, k < j → (atO L k).dst = some t → v' k = v k) → get3 (T' j) t = get3 (T j) t
  | 0, _, _ => by rw [h0']
  | j + 1, hj, hk => by
    have ih := get3_both tr tr' h0' (t := t) (j := j) (by omega) fun k h1 h2 => hk k (by omega) h2
    rw [(tr'.step j (by omega)).tm, (tr.step j (by omega)).tm]
    have hdi : (infoOf L (befores [] L) j).o.dst = (atO L j).dst := rfl
    rw [hdi]
    cases hdst : (atO L j).dst with
    | none => exact ih
    | some d =>
      rw [putA_some, putA_some]
      by_cases hd : d = t
      · subst hd; rw [hk j (by omega) hdst, get3_look, get3_look, look3_set, look3_set, if_pos rfl, if_pos rfl]
      · by_cases hp : path3 t = path3 d
        · rw [get3_look, get3_look, look3_set, look3_set, if_pos hp, if_pos hp]
          have hno : ∀ x : V, atL t (Go.Abs.L.x d x) = none := fun x => by
            show ifB (Nat.beq d t) (some x) none = none
            cases hb : Nat.beq d t with
            | true => exact absurd (Nat.eq_of_beq_eq_true hb) hd
            | false => rfl
          rw [hno, hno]
        · rw [get3_off hp, get3_off hp]; exact ih
/-- where a region stands: one way, and all that agree with it so far -/
structure Stand (P : Program) (rec : Rec) (L : List Oper) (b : Nat) (l : List DI) (O : Out) (nf : Nat) (e0 : Env) (h0 : H) (w0 : World) (N : Nat) (S : Nat → Prop) (e : Env) (j : Nat) (a : Act) (w : World) (T : Nat → S3 V) (M : Nat → H) (Hs : Nat → List (Nat × H)) (Rs : Nat → List RE) (v : Nat → V) : Prop where
  wy : Way P rec L b l O T M Hs Rs v
  al : ∀ T' M' Hs' Rs' v', Way P rec L b l O T' M' Hs' Rs' v' → Agr j T M v T' M' v' → DInv L b nf T' M' e0 h0 w0 N S e j a w ∧ ∀ m, S m → v' m = v m
theorem Agr.refl (j : Nat) (T : Nat → S3 V) (M : Nat → H) (v : Nat → V) : Agr j T M v T M v := ⟨fun _ _ => rfl, fun _ _ => rfl, fun _ _ => rfl⟩
theorem Agr.mono {j i : Nat} {T' : Nat → S3 V} {M' : Nat → H} {v' : Nat → V} (h : Agr i T M v T' M' v') (hj : j ≤ i) : Agr j T M v T' M' v' := ⟨fun k hk => h.t k (by omega), fun k hk => h.m k (by omega), fun k hk => h.v k (by omega)⟩
theorem Agr.trans {j : Nat} {T' T'' : Nat → S3 V} {M' M'' : Nat → H} {v' v'' : Nat → V} (h : Agr j T M v T' M' v') (h2 : Agr j T' M' v' T'' M'' v'') : Agr j T M v T'' M'' v'' :=
  ⟨fun k hk => (h2.t k hk).trans (h.t k hk), fun k hk => (h2.m k hk).trans (h.m k hk), fun k hk => (h2.v k hk).trans (h.v k hk)⟩
theorem Stand.di {nf : Nat} {S : Nat → Prop} {e : Env} {j : Nat} (hs : Stand P rec L b l O nf e0 h0 w0 N S e j a w T M Hs Rs v) : DInv L b nf T M e0 h0 w0 N S e j a w := (hs.al _ _ _ _ _ hs.wy (.refl _ _ _ _)).1
theorem Stand.norm {nf : Nat} {S : Nat → Prop} {e : Env} (hSL : ∀ m, S m → m < L.length) : ∀ (d : Nat) {j : Nat}, L.length - j ≤ d → Stand P rec L b l O nf e0 h0 w0 N S e j a w T M Hs Rs v → ∃ j', Stand P rec L b l O nf e0 h0 w0 N S e j' a w T M Hs Rs v ∧ Norm L S j' := by
  intro d
  induction d with
  | zero =>
    intro j hj hd
    exact ⟨j, hd, fun y hy hjy _ _ => by omega⟩
  | succ d ih =>
    intro j hj hd
    by_cases hex : ∃ y, j ≤ y ∧ y < L.length ∧ (clsO L y = 2 ∧ S y ∧ ∀ z, j ≤ z → z < y → clsO L z ≠ 2)
    · obtain ⟨y, h1, h2, h3, h4, h5⟩ := hex
      refine ih (j := y + 1) (by omega) ⟨hd.wy, fun T' M' Hs' Rs' v' wy' ha => ?_⟩
      obtain ⟨q1, q2⟩ := hd.al _ _ _ _ _ wy' (ha.mono (by omega))
      exact ⟨dinv_absorb wy'.tr q1 h2 h1 h3 h5 h4 hSL, q2⟩
    · exact ⟨j, hd, fun y hy hjy hc hno hSy => hex ⟨y, hjy, hy, hc, hSy, hno⟩⟩
/-- what an operation looks at is the same on all ways -/
theorem look_both {T' : Nat → S3 V} {M' : Nat → H} {Hs' : Nat → List (Nat × H)} {Rs' : Nat → List RE} {v' : Nat → V} (tr : Trace P rec L b T M Hs Rs v) (tr' : Trace P rec L b T' M' Hs' Rs' v') (h0' : T' 0 = T 0) {S : Nat → Prop} (hS : SetOk L S) {i : Nat} (hi : i < L.length) (hwi : ∀ m ∈ waitsFor (atO L i), S m) (hv : ∀ m, S m → v' m = v m) :
    ∀ t ∈ looks L (atO L i), get3 (T' i) t = get3 (T i) t := fun t hm => get3_both tr tr' h0' (by omega) fun m hm1 hdst => by
  rcases tr.ord.apart m i hm1 hi with h1 | ⟨h1, _⟩
  · exact hv m (closed_bf hS.cl i hi hwi m h1)
  · have := h1 t hdst
    rw [touchesB_looks hm] at this
    cases this
theorem opR_both {T' : Nat → S3 V} {i : Nat} (hl : ∀ t ∈ looks L (atO L i), get3 (T' i) t = get3 (T i) t) (h : H) : opR P (T' i) h (atO L i).op = opR P (T i) h (atO L i).op := by
  refine opR_congr fun x hx => ?_
  cases x with
  | tmp t => exact hl t (looks_tmp hx)
  | _ => rfl
theorem want_both {T' : Nat → S3 V} {i : Nat} (hl : ∀ t ∈ looks L (atO L i), get3 (T' i) t = get3 (T i) t) : wantQ L (T' i) (atO L i) = wantQ L (T i) (atO L i) := by
  unfold wantQ
  cases hg : (atO L i).guard with
  | none => rfl
  | some g =>
    rw [optB_some, optB_some]
    unfold yieldQ
    cases hp : atS L g.1 with
    | none => rfl
    | some p =>
      rw [optB_some, optB_some]
      cases hd : p.dst with
      | none => rfl
      | some d => rw [optB_some, optB_some, hl d (looks_guard (b := g.2) hg hp hd)]
theorem flt_both {T' : Nat → S3 V} {i id : Nat} (hl : ∀ t ∈ looks L (atO L i), get3 (T' i) t = get3 (T i) t) : opFlt P (T' i) (atO L i).op id = opFlt P (T i) (atO L i).op id := by
  have hx : ∀ x, x ∈ (atO L i).op.operands → opd (T' i) x = opd (T i) x := fun x hx => by
    cases x with
    | tmp t => exact hl t (looks_tmp hx)
    | _ => rfl
  cases ho : (atO L i).op with
  | alloc t => rfl
  | makeSlice t l c =>
    rw [ho] at hx
    unfold opFlt
    simp only [hx l (by simp [Op.operands]), hx c (by simp [Op.operands])]
  | buildSlice t len parts =>
    rw [ho] at hx
    have hp : mapO (partOpd (T' i)) parts.toList = mapO (partOpd (T i)) parts.toList := by
      have hm : ∀ p ∈ parts.toList, opd (T' i) p.2 = opd (T i) p.2 := fun p hp => hx p.2 (by
        show p.2 ∈ (parts.toList.map (·.2)).toArray
        simp only [List.mem_toArray, List.mem_map]
        exact ⟨p, hp, rfl⟩)
      generalize parts.toList = l at hm
      induction l with
      | nil => rfl
      | cons p ps ih =>
        show optB (optB (opd _ p.2) none fun x => vNoTup x none (some (p.1, x))) none _ = optB (optB (opd _ p.2) none fun x => vNoTup x none (some (p.1, x))) none _
        rw [hm p (List.mem_cons_self ..)]
        have := ih fun q hq => hm q (List.mem_cons_of_mem _ hq)
        show optB _ none (fun y => optB (mapO (partOpd (T' i)) ps) none fun ys => some (y :: ys)) = optB _ none (fun y => optB (mapO (partOpd (T i)) ps) none fun ys => some (y :: ys))
        rw [this]
    unfold opFlt
    simp only [hp]
  | _ => rfl
/-- an operation that is ready, carried out -/
theorem ready_step (hP : Fits P) (hsnd : Sound P rec) (hl : Lst L l) {ops : Array Oper} (hL : ops.toList = L) {S : Nat → Prop} (hS : SetOk L S) {nf : Nat} (hnf : ∀ y k, fltI L y = some k → k < nf) (hb0 : h0.nxt ≤ b) {e : Env} {j i : Nat} (st : Stand P rec L b l O nf e0 h0 w0 N S e j a w T M Hs Rs v) (hnm : Norm L S j) (hi : i < L.length) (hni : ¬ S i) (hwi : ∀ m ∈ waitsFor (atO L i), S m)
    (hdst : ∀ t, (atO L i).dst = some t → t < N) {K : Act → World → Prop} {Q : Exit → Act → World → Prop} (hK : ∀ T' M' Hs' Rs' v' e' j' a' w', Stand P rec L b l O nf e0 h0 w0 N (fun m => S m ∨ m = i) e' j' a' w' T' M' Hs' Rs' v' → K a' w') : wpOpIn (fenceOf ro) nn P ops Q i K a w := by
  have tr := st.wy.tr
  have hd := st.di
  have hop : ops[i]? = some (atO L i) := by
    rw [← Array.getElem?_toList, hL]
    unfold atO
    rw [getL_eq, List.getD_eq_getElem?_getD, List.getElem?_eq_getElem hi]
    rfl
  unfold wpOpIn
  simp only [hop]
  have ht := slots_at tr hS hd hi hni hwi
  have hst := tr.step i hi
  -- what it looks at, on each way
  have hlk : ∀ {T' M' Hs' Rs' v'}, Way P rec L b l O T' M' Hs' Rs' v' → Agr j T M v T' M' v' → ∀ t ∈ looks L (atO L i), get3 (T' i) t = get3 (T i) t := fun {T' M' Hs' Rs' v'} wy' ha =>
    look_both tr wy'.tr (ha.t 0 (by omega)) hS hi hwi (st.al _ _ _ _ _ wy' ha).2
  have hvs : ∀ {v' : Nat → V}, (∀ m, S m → v' m = v m) → v' i = v i → ∀ m, (S m ∨ m = i) → v' m = v m := fun h1 h2 m hm => hm.elim (h1 m) fun h => h ▸ h2
  cases hfl : fltI L i with
  | some k =>
    have hkind := (flt_kind hfl).1
    obtain ⟨t, hw, hf, hv⟩ := hst.flt k hfl
    have hw' : wantQ L (T i) (atO L i) = some t := hw
    have hwk : wantQ ops.toList (keep3 (fun t => hasNat t (looks L (atO L i))) (T i)) (atO L i) = some t := by rw [hL, keep_want]; exact hw'
    rw [wantQ_sound ht hwk]
    cases t with
    | true =>
      simp only [if_true]
      obtain ⟨ao, hop1, hM1⟩ := hv rfl
      have hop2 : opFlt P (keep3 (fun t => hasNat t (looks L (atO L i))) (T i)) (atO L i).op (b + k) = some (v i, ao) := by
        rw [keep_flt]; exact hop1
      obtain ⟨co, sz, x', hmk, hrun, hor, hvr⟩ := flt_run (a := a) hop2 ht (hd.free i k hi hfl hni) w
      refine ⟨fun _ _ => trivial, ?_⟩
      rw [semAt_run (fun c hc => by
        unfold fltK at hkind
        rw [hc] at hkind
        cases hkind), hrun, Oper.uponIn_value]
      refine hK T M Hs Rs v (e.put (b + k) w.heap.size sz 0) j _ _ ⟨st.wy, fun T' M' Hs' Rs' v' wy' ha => ?_⟩
      obtain ⟨q1, q2⟩ := st.al _ _ _ _ _ wy' ha
      obtain ⟨t', hw2, _, hv2⟩ := (wy'.tr.step i hi).flt k hfl
      have hw3 : wantQ L (T' i) (atO L i) = some t' := hw2
      rw [want_both (hlk wy' ha), hw'] at hw3
      cases hw3
      obtain ⟨ao', hop3, hM3⟩ := hv2 rfl
      have hop4 : opFlt P (T' i) (atO L i).op (b + k) = some (v' i, ao') := hop3
      rw [flt_both (hlk wy' ha), show opFlt P (T i) (atO L i).op (b + k) = _ from hop1] at hop4
      have hve : v' i = v i := (Prod.mk.inj (Option.some.inj hop4)).1.symm
      have hae : ao' = ao := (Prod.mk.inj (Option.some.inj hop4)).2.symm
      subst hae
      exact ⟨dinv_flt wy'.tr hS q1 hi hni hwi hnf hfl hb0 hdst hmk hM3 hor (by rw [hve]; exact hvr), hvs q2 hve⟩
    | false =>
      simp only [Bool.false_eq_true, if_false]
      refine ⟨fun _ _ => trivial, ?_⟩
      refine hK T M Hs Rs v e j _ _ ⟨st.wy, fun T' M' Hs' Rs' v' wy' ha => ?_⟩
      obtain ⟨q1, q2⟩ := st.al _ _ _ _ _ wy' ha
      obtain ⟨t', hw2, hf2, _⟩ := (wy'.tr.step i hi).flt k hfl
      have hw3 : wantQ L (T' i) (atO L i) = some t' := hw2
      rw [want_both (hlk wy' ha), hw'] at hw3
      cases hw3
      obtain ⟨s1, s2⟩ := hf2 rfl
      exact ⟨dinv_fltSkip wy'.tr hS q1 hi hni hwi hfl hdst s2 (by rw [s1]; exact VR.undef e), hvs q2 (by rw [s1, (hf rfl).1])⟩
  | none =>
  obtain ⟨t, hw, hf, hv⟩ := hst.val hfl
  have hw' : wantQ L (T i) (atO L i) = some t := hw
  have hwk : wantQ ops.toList (keep3 (fun t => hasNat t (looks L (atO L i))) (T i)) (atO L i) = some t := by rw [hL, keep_want]; exact hw'
  rw [wantQ_sound ht hwk]
  have hnb : fltB L (befores [] L) i = false := by
    cases hb : fltB L (befores [] L) i with
    | false => rfl
    | true =>
      have : fltI L i = some (rankB L (befores [] L) i) := by
        show ifB (fltB L (befores [] L) i) _ none = _
        rw [hb]; rfl
      rw [hfl] at this; cases this
  -- the memory at which an effect is carried out
  have hji : clsO L i = 2 → j ≤ i := fun hc => by
    rcases Nat.lt_or_ge i j with h1 | h1
    · exact absurd (hd.cut i hi hc h1) hni
    · exact h1
  have heff : ∀ {T' M' Hs' Rs' v'}, Trace P rec L b T' M' Hs' Rs' v' → clsO L i = 2 → M' j = M' i := fun tr' hc => by
    refine (tr_M tr' (hji hc) (by omega) fun k k1 k2 k3 => ?_).symm
    obtain ⟨y, y1, y2, y3, y4⟩ := least (p := fun k => clsO L k = 2) i j ⟨k, k1, k2, k3⟩
    exact hnm y (by omega) y1 y3 y4 (closed_bf hS.cl i hi hwi y (tr.ord.chain y i y2 hi y3 hc hnb))
  have h3 : clsO L i ≤ 2 := by unfold clsO classOf; split <;> omega
  -- the same at each way
  have hval : ∀ {T' M' Hs' Rs' v'}, Way P rec L b l O T' M' Hs' Rs' v' → Agr j T M v T' M' v' → ∃ t', wantQ L (T' i) (atO L i) = some t' ∧ t' = t ∧ (t' = false → v' i = .tup [] ∧ M' (i + 1) = M' i) := fun {T' M' Hs' Rs' v'} wy' ha => by
    obtain ⟨t', hw2, hf2, _⟩ := (wy'.tr.step i hi).val hfl
    have hw3 : wantQ L (T' i) (atO L i) = some t' := hw2
    refine ⟨t', hw3, ?_, hf2⟩
    rw [want_both (hlk wy' ha), hw'] at hw3
    cases hw3; rfl
  cases t with
  | false =>
    simp only [Bool.false_eq_true, if_false]
    refine ⟨fun _ _ => trivial, ?_⟩
    obtain ⟨q1, q2⟩ := hf rfl
    refine hK T M Hs Rs v e (if clsO L i = 2 then i + 1 else j) _ _ ⟨st.wy, fun T' M' Hs' Rs' v' wy' ha => ?_⟩
    have ha0 : Agr j T M v T' M' v' := ha.mono (by
      by_cases hc : clsO L i = 2
      · rw [if_pos hc]; have := hji hc; omega
      · rw [if_neg hc]; exact Nat.le_refl _)
    obtain ⟨d1, d2⟩ := st.al _ _ _ _ _ wy' ha0
    obtain ⟨t', _, rfl, r3⟩ := hval wy' ha0
    obtain ⟨r4, r5⟩ := r3 rfl
    refine ⟨dinv_step wy'.tr hS d1 hi hni hwi hnf hfl hdst (e' := e) (w' := w) ?_ ?_ (by rw [r4]; exact VR.undef e), hvs d2 (by rw [r4, q1])⟩
    · by_cases hc : clsO L i = 2
      · rw [if_pos hc, r5, ← heff wy'.tr hc]; exact .refl _ _ _
      · rw [if_neg hc]; exact .refl _ _ _
    · by_cases hc : clsO L i = 2
      · rw [if_pos hc, r5, ← heff wy'.tr hc]; exact d1.hr
      · rw [if_neg hc]; exact d1.hr
  | true =>
    simp only [if_true]
    by_cases hc : clsO L i = 2
    · have hMj := heff tr hc
      obtain ⟨r, hr, hrc⟩ := hv rfl
      have hrk : opR P (keep3 (fun t => hasNat t (looks L (atO L i))) (T i)) (M i) (atO L i).op = some r := by rw [keep_op]; exact hr
      have hHR : HR e (M i) w := by rw [← hMj]; exact hd.hr
      obtain ⟨k1, k2, _⟩ := opR_sound (a := a) hP hHR ht hrk
      -- behind it, on a way that goes on with it
      have hgo : ∀ {T1 M1 Hs1 Rs1 v1}, Way P rec L b l O T1 M1 Hs1 Rs1 v1 → Agr i T M v T1 M1 v1 → ∀ e' w' x', Step e (M i) w e' (M1 (i + 1)) w' → HR e' (M1 (i + 1)) w' → VR e' (v1 i) x' → K (a.put (atO L i).dst x') w' := fun {T1 M1 Hs1 Rs1 v1} wy1 a1 e' w' x' q1 q2 q3 => by
        refine hK T1 M1 Hs1 Rs1 v1 e' (i + 1) _ _ ⟨wy1, fun T' M' Hs' Rs' v' wy' ha => ?_⟩
        have ha0 : Agr j T M v T' M' v' := (a1.trans (ha.mono (by omega))).mono (hji hc)
        obtain ⟨d1, d2⟩ := st.al _ _ _ _ _ wy' ha0
        obtain ⟨_, d3⟩ := st.al _ _ _ _ _ wy1 (a1.mono (hji hc))
        have hM1 : M' (i + 1) = M1 (i + 1) := ha.m _ (Nat.le_refl _)
        have hv1 : v' i = v1 i := ha.v _ (Nat.lt_succ_self _)
        have hMj2 : M' j = M i := by rw [ha0.m j (Nat.le_refl _), hMj]
        have hd5 := dinv_step wy'.tr hS d1 hi hni hwi hnf hfl hdst (e' := e') (w' := w') (v' := x') (by rw [if_pos hc, hMj2, hM1]; exact q1) (by rw [if_pos hc, hM1]; exact q2) (by rw [hv1]; exact q3)
        rw [if_pos hc] at hd5
        refine ⟨hd5, fun m hm => ?_⟩
        rcases hm with hm | hm
        · rw [d2 m hm, d3 m hm]
        · subst hm; exact hv1
      have hcall : ∀ {t : Task} {tmx : S3 V}, ((∃ f args, r = .call f args ∧ t = .call f args) ∨ ∃ f args, r = .yield f args ∧ t = .yield f args) → CallD (rec t e3 (M i)) (v i) tmx (M (i + 1)) →
          ∀ {v0 : V} {tm' : S3 V} {h' : H} {e' : Env} {w' : World} {x' : Value}, Leaf (rec t e3 (M i)) (.val v0) tm' h' → Step e (M i) w e' h' w' → HR e' h' w' → VR e' v0 x' → K (a.put (atO L i).dst x') w' := fun {t tmx} ht1 hrec {v0 tm' h' e' w' x'} hl1 q1 q2 q3 => by
        obtain ⟨_, s1⟩ := way_cut hl st.wy hi hfl hr ht1 hw'
        obtain ⟨v1, hv1, T', M', Hs', Rs', v'', s2, s3, s4, s5⟩ := s1 _ _ _ hl1
        cases hv1
        subst s4
        exact hgo s2 s3 e' w' x' q1 q2 (by rw [s5]; exact q3)
      rcases hrc with ⟨h', rfl, h2⟩ | ⟨f, args, tmx, rfl, _, hrec⟩ | ⟨f, args, tmx, rfl, _, hrec⟩
      · have hh' := h2 hc
        subst hh'
        exact op_val k2 k1.1 (hgo st.wy (.refl _ _ _ _))
      · refine op_call hsnd hHR k2 k1 (tm1 := e3) hrec.1 fun v0 tm' h' e' w' v' hl1 q1 q2 q3 => hcall (.inl ⟨f, args, rfl, rfl⟩) hrec hl1 q1 q2 q3
      · refine op_yield hsnd hHR k2 k1 (tm1 := e3) hrec.1 fun v0 tm' h' e' w' v' hl1 q1 q2 q3 => hcall (.inr ⟨f, args, rfl, rfl⟩) hrec hl1 q1 q2 q3
    · have hrd := read_ok tr hS.cl hi hd.jn hc hni hwi hd.cut hnm hw'
      cases hr : opR P (T i) (M j) (atO L i).op with
      | none => rw [hr] at hrd; cases hrd
      | some r =>
        rw [hr] at hrd
        have hrk : opR P (keep3 (fun t => hasNat t (looks L (atO L i))) (T i)) (M j) (atO L i).op = some r := by rw [keep_op]; exact hr
        obtain ⟨k1, k2, _⟩ := opR_sound (a := a) hP hd.hr ht hrk
        cases r with
        | val u h' =>
          have hu : u = v i := by have : some u = some (v i) := hrd; cases this; rfl
          subst hu
          have hh' := k1.2 (show classOf (atO L i).op < 2 by have : clsO L i < 2 := by omega
                                                             exact this)
          subst hh'
          refine op_val k2 k1.1 fun e' w' x' q1 q2 q3 => hK T M Hs Rs v e' j _ _ ⟨st.wy, fun T' M' Hs' Rs' v' wy' ha => ?_⟩
          obtain ⟨d1, d2⟩ := st.al _ _ _ _ _ wy' ha
          obtain ⟨t', s1, rfl, _⟩ := hval wy' ha
          have hMj : M' j = M j := ha.m j (Nat.le_refl _)
          have hve : v' i = v i := by
            have hrd' := read_ok wy'.tr hS.cl hi d1.jn hc hni hwi d1.cut hnm s1
            rw [hMj, opR_both (hlk wy' ha), hr] at hrd'
            have : some (v i) = some (v' i) := hrd'
            exact (Option.some.inj this).symm
          have hd5 := dinv_step wy'.tr hS d1 hi hni hwi hnf hfl hdst (e' := e') (w' := w') (v' := x') (by rw [if_neg hc, hMj]; exact q1) (by rw [if_neg hc, hMj]; exact q2) (by rw [hve]; exact q3)
          rw [if_neg hc] at hd5
          exact ⟨hd5, hvs d2 hve⟩
        | call f args => cases hrd
        | yield l args => cases hrd
        | alts l => cases hrd

theorem count_set (l : List Bool) (i : Nat) (hi : l[i]? = some false) : ((l.set i true).filter (!·)).length + 1 = (l.filter (!·)).length := by
  induction l generalizing i with
  | nil => simp at hi
  | cons x xs ih =>
    cases i with
    | zero =>
      have : x = false := by simpa using hi
      subst this
      simp
    | succ i =>
      have := ih i (by simpa using hi)
      rw [List.set_cons_succ]
      cases x <;> simp <;> omega

theorem any_sound (hP : Fits P) (hsnd : Sound P rec) (hl : Lst L l) (_hord : Ordered L) {nf : Nat} (hnf : ∀ y k, fltI L y = some k → k < nf) (hb0 : h0.nxt ≤ b) {ops : Array Oper} (hL : ops.toList = L) (hdst : ∀ o ∈ L, ∀ t, o.dst = some t → t < N) {Q : Exit → Act → World → Prop}
    (hQ : ∀ tm' h' a' w', Leaf O .nrm tm' h' → Inv e0 h0 w0 N tm' h' a' w' → Q .normal a' w') : ∀ (fuel : Nat) (T : Nat → S3 V) (M : Nat → H) (Hs : Nat → List (Nat × H)) (Rs : Nat → List RE) (v : Nat → V) (listed : Array Bool) (e : Env) (j : Nat) (a : Act) (w : World), listed.size = L.length → (listed.toList.filter (!·)).length ≤ fuel →
      SetOk L (fun m => listed.getD m false = true) → Stand P rec L b l O nf e0 h0 w0 N (fun m => listed.getD m false = true) e j a w T M Hs Rs v → Norm L (fun m => listed.getD m false = true) j → wpAnyIn (fenceOf ro) nn P .any ops Q fuel listed a w := by
  intro fuel
  have hsize : ops.size = L.length := by rw [← hL, Array.length_toList]
  -- what is ready
  have hready : ∀ (listed : Array Bool), listed.size = L.length → ∀ i, i ∈ Region.ready .any ops listed ↔ i < L.length ∧ listed.getD i false = false ∧ ∀ m ∈ waitsFor (atO L i), listed.getD m false = true := by
    intro listed hls i
    unfold Region.ready
    rw [List.mem_filter, List.mem_range, hsize]
    refine and_congr_right fun hi => ?_
    have hop : ops[i]? = some (atO L i) := by
      rw [← Array.getElem?_toList, hL]
      unfold atO
      rw [getL_eq, List.getD_eq_getElem?_getD, List.getElem?_eq_getElem hi]
      rfl
    rw [hop]
    have hget : listed.getD i true = listed.getD i false := by
      rw [Array.getD_eq_getD_getElem?, Array.getD_eq_getD_getElem?, Array.getElem?_eq_getElem (by omega)]
      rfl
    rw [hget, Bool.and_eq_true, Option.map_some, Option.getD_some]
    refine and_congr (by cases listed.getD i false <;> simp) ?_
    rw [Array.all_eq_true']
    constructor
    · intro hh m hm
      obtain ⟨ed, h1, h2, rfl⟩ := mem_waits.1 hm
      have := hh ed (Array.mem_toList_iff.1 h1)
      rw [h2] at this
      simpa using this
    · intro hh ed hed
      cases hb : Region.binds .any ed with
      | false => rfl
      | true =>
        have := hh ed.on (mem_waits.2 ⟨ed, Array.mem_toList_iff.2 hed, hb, rfl⟩)
        simpa using this
  -- nothing is ready: all has been carried out
  have hdone : ∀ (T : Nat → S3 V) (M : Nat → H) (Hs : Nat → List (Nat × H)) (Rs : Nat → List RE) (v : Nat → V) (_ : Way P rec L b l O T M Hs Rs v) (listed : Array Bool) (e : Env) (j : Nat) (a : Act) (w : World), listed.size = L.length → DInv L b nf T M e0 h0 w0 N (fun m => listed.getD m false = true) e j a w → Norm L (fun m => listed.getD m false = true) j → Region.ready .any ops listed = [] → Q .normal a w := by
    intro T M Hs Rs v wy listed e j a w hls hd hnm hr
    have tr := wy.tr
    have hall : ∀ i, i < L.length → listed.getD i false = true := by
      intro i
      induction i using Nat.strongRecOn with
      | _ i ih =>
        intro hi
        cases hl : listed.getD i false with
        | true => rfl
        | false =>
          exfalso
          have : i ∈ Region.ready .any ops listed := (hready listed hls i).2 ⟨hi, hl, fun m hm => by
            have hmi := tr.ord.down i hi m (waits_bf L hi hm)
            exact ih m hmi (by omega)⟩
          rw [hr] at this
          cases this
    have hM : M L.length = M j := tr_M tr hd.jn (Nat.le_refl _) fun k k1 k2 k3 => by
      obtain ⟨y, y1, y2, y3, y4⟩ := least (p := fun k => clsO L k = 2) L.length j ⟨k, k1, k2, k3⟩
      exact hnm y y2 y1 y3 y4 (hall y y2)
    refine hQ _ _ a w (wy.lf L.length (Nat.le_refl _) _ _ _ (by rw [List.drop_eq_nil_of_le (by rw [hl.len]; exact Nat.le_refl _)]; exact .ok _ _ _)) (Inv.mk' (e := e) (by rw [hM]; exact hd.st) (by rw [hM]; exact hd.hr) (fun t x hx => ?_) (by rw [hM]; exact hd.ms) hd.sz)
    exact hd.sl L.length (Nat.le_refl _) (fun hc => by
      rw [Array.getD_eq_getD_getElem?, Array.getElem?_eq_none (by omega)] at hc
      cases hc) t (.inl rfl) (fun m hm _ => hall m hm) x hx
  induction fuel with
  | zero =>
    intro T M Hs Rs v listed e j a w hls hf hS st hnm
    have wy := st.wy
    have hd := st.di
    have hr : Region.ready .any ops listed = [] := by
      cases hr : Region.ready .any ops listed with
      | nil => rfl
      | cons i is =>
        exfalso
        obtain ⟨hi, hl, _⟩ := (hready listed hls i).1 (by rw [hr]; exact List.mem_cons_self ..)
        have hmem : false ∈ listed.toList.filter (!·) := by
          rw [List.mem_filter]
          refine ⟨?_, rfl⟩
          rw [Array.getD_eq_getD_getElem?, Array.getElem?_eq_getElem (by omega)] at hl
          have : listed[i] = false := hl
          rw [← this]
          exact Array.mem_toList_iff.2 (Array.getElem_mem _)
        have := List.length_pos_of_mem hmem
        omega
    exact ⟨hr, hdone T M Hs Rs v wy listed e j a w hls hd hnm hr⟩
  | succ fuel ih =>
    intro T M Hs Rs v listed e j a w hls hf hS st hnm
    have wy := st.wy
    have hd := st.di
    refine ⟨fun hr => hdone T M Hs Rs v wy listed e j a w hls hd hnm hr, fun i hi => ?_⟩
    obtain ⟨hlt, hli0, hwi⟩ := (hready listed hls i).1 hi
    have hli : listed[i]? = some false := by
      rw [Array.getD_eq_getD_getElem?, Array.getElem?_eq_getElem (by omega)] at hli0
      have : listed[i] = false := hli0
      rw [Array.getElem?_eq_getElem (by omega), this]
    have hset : ∀ m, (listed.setIfInBounds i true).getD m false = true ↔ (listed.getD m false = true ∨ m = i) := fun m => by
      by_cases hmi : m = i
      · subst hmi
        rw [Array.getD_eq_getD_getElem?, Array.getElem?_setIfInBounds_self_of_lt (by omega)]
        simp
      · rw [Array.getD_eq_getD_getElem?, Array.getElem?_setIfInBounds_ne (Ne.symm hmi), ← Array.getD_eq_getD_getElem?]
        simp [hmi]
    have hatm : atO L i ∈ L := by
      unfold atO
      rw [getL_eq, List.getD_eq_getElem?_getD, List.getElem?_eq_getElem hlt]
      exact List.getElem_mem _
    refine ready_step hP hsnd hl hL hS hnf hb0 st hnm hlt (by rw [hli0]; simp) hwi (hdst _ hatm) fun T' M' Hs' Rs' v' e' j' a' w' st' => ?_
    have hfun : (fun m => (listed.setIfInBounds i true).getD m false = true) = (fun m => listed.getD m false = true ∨ m = i) := funext fun m => propext (hset m)
    obtain ⟨j2, hd2, hnm2⟩ := Stand.norm (fun m hm => hm.elim (hS.lt m) (fun h => h ▸ hlt)) L.length (by omega) st'
    refine ih T' M' Hs' Rs' v' _ e' j2 a' w' (by simp [hls]) ?_ ?_ ?_ ?_
    · have := count_set listed.toList i (by rw [Array.getElem?_toList]; exact hli)
      rw [Array.toList_setIfInBounds]
      omega
    · rw [hfun]
      refine ⟨fun m hm => ?_, fun k hk hSk m hm => ?_⟩
      · rcases hm with h1 | h1
        · exact hS.lt m h1
        · omega
      · rcases hSk with h1 | h1
        · exact .inl (hS.cl k hk h1 m hm)
        · subst h1; exact .inl (hwi m hm)
    · rw [hfun]; exact hd2
    · rw [hfun]; exact hnm2

theorem nFlt_le {L : List Oper} {bf : List Nat} : ∀ (l : List Oper) (i : Nat), rankB L bf (i + l.length) = rankB L bf i + nFlt (infosFrom L bf l i)
  | [], i => rfl
  | o :: l, i => by
    have ih := nFlt_le (L := L) (bf := bf) l (i + 1)
    have hs : rankB L bf (i + 1) = ifB (fltB L bf i) (Nat.succ (rankB L bf i)) (rankB L bf i) := rfl
    have hn : nFlt (infosFrom L bf (o :: l) i) = optB (ifB (fltB L bf i) (some (rankB L bf i)) none) (nFlt (infosFrom L bf l (i + 1))) fun _ => Nat.succ (nFlt (infosFrom L bf l (i + 1))) := rfl
    rw [show i + (o :: l).length = i + 1 + l.length by simp; omega, ih, hn, hs]
    cases fltB L bf i with
    | true => rw [ifB_true, ifB_true, optB_some]; omega
    | false => rw [ifB_false, ifB_false, optB_none]
theorem HR.grow {e : Env} {h : H} (hr : HR e h w) (k : Nat) : HR e (hGrow h k) w ∧ Step e h w e (hGrow h k) w := hr.less (Nat.le_add_right _ _) (fun _ _ hb => hb) fun _ _ hb => hb

/-- A REGION THAT DRAWS ITS ORDER. -/
theorem drawn_sound (hP : Fits P) (hsnd : Sound P rec) {ops : Array Oper} {id : Nat} {l : List DI} (hl : drawnInfo ops.toList = some l) {tm : S3 V} {h : H} (hdst : ∀ o ∈ ops.toList, ∀ t, o.dst = some t → t < N) (hi : Inv e0 h0 w0 N tm h a w)
    (hn : NoFail (opsD P rec ops.toList h.nxt l tm (hGrow h (nFlt l)) [] [])) : (Code.region id ops true).wpIn (fenceOf ro) nn P (Post e0 h0 w0 N (opsD P rec ops.toList h.nxt l tm (hGrow h (nFlt l)) [] [])) a w := by
  obtain ⟨hord, hlen, hat⟩ := drawnInfo_eq hl
  have hcl : ∀ d ∈ l, d.cls = classOf d.o.op ∧ d.cls ≤ 2 ∧ ∀ k, d.flt = some k → d.cls = 2 := by
    intro d hd
    obtain ⟨k, hk, hkd⟩ := List.getElem_of_mem hd
    have := hat k (by omega)
    rw [List.getElem?_eq_getElem hk, hkd] at this
    have hd' : d = infoOf ops.toList (befores [] ops.toList) k := Option.some.inj this
    rw [hd']
    refine ⟨rfl, ?_, fun k' hk' => flt_cls hk'⟩
    show clsO ops.toList k ≤ 2
    unfold clsO classOf
    split <;> omega
  obtain ⟨T, M, Hs, Rs, v, hT0, hM0, hH0, hR0, hout, hsteps⟩ := trace_exists l tm (hGrow h (nFlt l)) [] [] hcl hn
  have tr : Trace P rec ops.toList h.nxt T M Hs Rs v := ⟨fun i hi => hsteps i _ (hat i hi), hord⟩
  have hlst : Lst ops.toList l := ⟨hlen, hat, hcl⟩
  have wy : Way P rec ops.toList h.nxt l (opsD P rec ops.toList h.nxt l tm (hGrow h (nFlt l)) [] []) T M Hs Rs v := ⟨tr, fun i hi => (hout i (by omega)).1, fun i hi => (hout i (by omega)).2⟩
  obtain ⟨e, hst, hr, ht, hm, hN⟩ := hi.out
  obtain ⟨hg1, hg2⟩ := hr.grow (nFlt l)
  have hnf : ∀ y k, fltI ops.toList y = some k → k < nFlt l := fun y k hk => by
    obtain ⟨q1, q2, rfl⟩ := flt_kind hk
    have hy : y < ops.toList.length := by
      rcases Nat.lt_or_ge y ops.toList.length with h1 | h1
      · exact h1
      · exfalso
        unfold fltK atO at q1
        rw [getL_eq, List.getD_eq_getElem?_getD, List.getElem?_eq_none h1] at q1
        cases q1
    have h1 := rank_lt (L := ops.toList) (bf := befores [] ops.toList) hy q2
    have h2 := nFlt_le (L := ops.toList) (bf := befores [] ops.toList) ops.toList 0
    obtain ⟨_, h3⟩ := ifB_eq (show ifB (orderOk ops.toList (befores [] ops.toList)) (some (infosFrom ops.toList (befores [] ops.toList) ops.toList 0)) none = some l from hl)
    cases h3
    rw [Nat.zero_add] at h2
    rw [h2] at h1
    rw [show rankB ops.toList (befores [] ops.toList) 0 = 0 from rfl, Nat.zero_add] at h1
    exact h1
  refine wpIn_region_any hP.mixed ?_
  have hno : ∀ m, (Array.replicate ops.size false).getD m false = false := fun m => by
    rw [Array.getD_eq_getD_getElem?, Array.getElem?_replicate]
    split <;> rfl
  refine any_sound hP hsnd hlst hord hnf hst.nxt rfl hdst (fun tm' h' a' w' hq hi' => ⟨.nrm, _, _, hq, rfl, hi'⟩) ops.size T M Hs Rs v (Array.replicate ops.size false) e 0 a _ (by simp) (by simp) ?_ ?_ (fun y _ _ _ _ hS => by have hS' : (Array.replicate ops.size false).getD y false = true := hS; rw [hno] at hS'; cases hS')
  · have hno' : ∀ m, ¬ (Array.replicate ops.size false).getD m false = true := fun m hm => (by rw [hno] at hm; cases hm)
    exact ⟨fun m hm => absurd hm (hno' m), fun j hj hS => absurd hS (hno' j)⟩
  · refine ⟨wy, fun T' M' Hs' Rs' v' wy' ha => ⟨?_, fun m hS => (by have hS' : (Array.replicate ops.size false).getD m false = true := hS; rw [hno] at hS'; cases hS')⟩⟩
    have hT0 : T' 0 = tm := (ha.t 0 (Nat.le_refl _)).trans hT0
    have hM0 : M' 0 = hGrow h (nFlt l) := (ha.m 0 (Nat.le_refl _)).trans hM0
    have tr := wy'.tr
    refine ⟨by omega, ?_, ?_, ?_, hN, fun y _ _ hy => by omega, fun y _ _ hS => (by have hS' : (Array.replicate ops.size false).getD y false = true := hS; rw [hno] at hS'; cases hS'), fun y _ _ _ _ _ hS => (by have hS' : (Array.replicate ops.size false).getD y false = true := hS; rw [hno] at hS'; cases hS'), fun y k hy hk _ => ?_, ?_, fun k hk hnk t hc hwr x hx => ?_⟩
    · rw [hM0]; exact (hst.trans hg2).trans (Step.drawn _)
    · rw [hM0]; exact hg1.drawn _
    · rw [hM0]; exact (hm.step hg2).step (Step.drawn _)
    · exact hr.fresh _ (by omega)
    · rw [hM0]; exact Nat.le_refl _
    · -- nothing has been written
      have hnow : ∀ m, m < k → (atO ops.toList m).dst ≠ some t := fun m m1 m2 => by
        have := hwr m m1 m2
        rw [hno] at this
        cases this
      have := tr_range tr (i := 0) (Nat.zero_le _) hk (fun m _ m2 => hnow m m2) hx
      rw [hT0] at this
      exact ht t x this

end
end Go.Abs

namespace Go.Abs
noncomputable section
variable {P : Program} {w : World} {a : Act} {e : Env} {h : H} {tm : S3 V}
variable {e0 : Env} {h0 : H} {w0 : World} {N : Nat} {ro : Option Nat} {n : Nat} {rec : Rec}

/-- a block that only the model has -/
theorem HR.other (hr : HR e h w) (co : Obj) : HR e h (w.alloc co) ∧ Step e h w e h (w.alloc co) := by
  refine ⟨⟨hr.fresh, fun b o hb => ?_, hr.inj, hr.vws.to (.refl e) (by simp) (fun c hc => heap_alloc_old w co c (Nat.lt_of_lt_of_le hc hr.vws.lim)) hr.vws.own fun _ _ h => h⟩, ⟨.refl e, Nat.le_refl _, by simp, rfl, rfl, rfl, fun c hc _ => heap_alloc_old w co c hc, fun b o c hb hc => .inr ⟨b, o, hb, hc⟩, fun c r hc => ⟨r, by rw [heap_alloc_old w co c (Array.getElem?_eq_some_iff.1 hc).1]; exact hc⟩, fun _ _ => rfl⟩⟩
  obtain ⟨cb, h1, co', h2, h3⟩ := hr.live b o hb
  exact ⟨cb, h1, co', by rw [heap_alloc_old w co cb (Array.getElem?_eq_some_iff.1 h2).1]; exact h2, h3⟩

/-- a block that is forgotten is changed -/
theorem HR.gone (hr : HR e h w) {b : Nat} {o0 : AO} {c : Nat} (hb : get5 h.t b = some o0) (hc : e.ρ b = some c) (co : Obj) (hl : ∀ r : Loop, w.heap[c]? = some (Obj.loop r) → ∃ r', co = Obj.loop r') :
    HR e (hDel h b) (w.putObj c co) ∧ Step e h w e (hDel h b) (w.putObj c co) := by
  have hlt := hr.lt hb hc
  have hapart : ∀ {k o' x}, k ≠ b → get5 h.t k = some o' → e.ρ k = some x → x ≠ c := fun {k o' x} hk hg hx hxc => hk (hr.inj k b o' o0 c hg hb (by rw [← hxc]; exact hx) hc)
  refine ⟨⟨hr.fresh, fun k o' hk => ?_, fun k k' o1 o2 x h1 h2 => hr.inj k k' o1 o2 x (get5_del5 h1).2 (get5_del5 h2).2, hr.vws.to (.refl e) (by simp [World.putObj]) (fun x hx => World.putObj_heap_other fun hcc => by
      have := hr.vws.own b o0 c hb hc; omega) (fun k o' x hk hx => hr.vws.own k o' x (get5_del5 hk).2 hx) fun _ _ h => h⟩, ⟨.refl e, Nat.le_refl _, by simp [World.putObj], rfl, rfl, rfl, fun x hx hne => ?_, fun k o' x hk hx => .inr ⟨k, o', (get5_del5 hk).2, hx⟩, fun x r hx => ?_, fun _ _ => rfl⟩⟩
  · obtain ⟨h1, h2⟩ := get5_del5 hk
    obtain ⟨cb, h4, co', h5, h6⟩ := hr.live k o' h2
    exact ⟨cb, h4, co', by rw [World.putObj_heap_other (hapart h1 h2 h4)]; exact h5, h6⟩
  · exact World.putObj_heap_other (fun (hcc : x = c) => hne b o0 hb (by rw [hcc]; exact hc))
  · by_cases hxc : x = c
    · subst hxc
      obtain ⟨r', hr'⟩ := hl r hx
      exact ⟨r', by rw [World.putObj_heap_same hlt, hr']⟩
    · exact ⟨r, by rw [World.putObj_heap_other hxc]; exact hx⟩

theorem HR.loop (hr : HR e h w) {b : Nat} {st : LoopState} {pend : Option Code} {fn : FuncId} {tml : S3 V} {ps : List Nat} {asn bd : Code} (hb : get5 h.t b = some (.loop st pend fn tml ps asn bd)) {c : Nat} (hc : e.ρ b = some c) :
    ∃ r : Loop, w.heap[c]? = some (.loop r) ∧ LoopOk r ∧ r.state = st ∧ r.pending = pend ∧ TR e tml r.tmps ∧ r.params.toList = ps ∧ r.assign = asn ∧ r.body = bd := by
  obtain ⟨cb, h1, co, h2, h3⟩ := hr.live b _ hb
  rw [hc] at h1; cases h1
  obtain ⟨r, rfl, h4⟩ := h3
  exact ⟨r, h2, h4⟩
theorem run_getLoop {c : Nat} {r : Loop} (hc : w.heap[c]? = some (.loop r)) : (Instr.getLoop c).run P w = .ok r w := by
  simp [Instr.getLoop, getObj, Sem.run, hc]
theorem run_setLoop {c : Nat} {r : Loop} (hc : w.heap[c]? = some (.loop r)) (o : Obj) : (setObj c o).run P w = .ok () (w.putObj c o) := by
  simp only [setObj, Sem.run, World.putObj]
  simp [hc]

theorem noFail_onLoop {h : H} {b : Nat} {s : LoopState → Option Code → FuncId → S3 V → List Nat → Code → Code → Out} (hn : NoFail (onLoop h b .fail s)) : ∃ st pend fn tml ps asn bd, get5 h.t b = some (.loop st pend fn tml ps asn bd) ∧ onLoop h b .fail s = s st pend fn tml ps asn bd := by
  unfold onLoop at hn ⊢
  cases hg : get5 h.t b with
  | none => rw [hg] at hn; exact hn.elim
  | some o =>
    rw [hg] at hn
    cases o with
    | loop st pend fn tml ps asn bd => exact ⟨st, pend, fn, tml, ps, asn, bd, rfl, rfl⟩
    | _ => exact hn.elim

theorem exr_nrm {x : Exit} {ex : Ex} (hx : ExR ex x) (hn : x = .normal) : ex = .nrm := by
  cases ex with
  | nrm => rfl
  | exit id => rw [hn] at hx; cases hx
  | ret => rw [hn] at hx; cases hx
  | val v => exact hx.elim

/-! ### range over functions -/
theorem range_sound (hsnd : Sound P rec) {f : Operand} {ps : Array Tmp} {asn bd : Code} (hso : slotsOk N (.rangeFunc f ps asn bd) = true) (hro : RoOk ro w0) (hi : Inv e0 h0 w0 N tm h a w) {v : V} (hv : opd tm f = some v)
    (hn : NoFail (onRange rec ps.toList asn bd tm h v)) : (Code.rangeFunc f ps asn bd).wpIn (fenceOf ro) n P (Post e0 h0 w0 N (onRange rec ps.toList asn bd tm h v)) a w := by
  obtain ⟨e, hst, hr, ht, hm, hN⟩ := hi.out
  have hfr := opd_eq ht hv
  -- the function that is ranged over
  obtain ⟨g, fx, fy, rfl⟩ : ∃ g fx fy, v = .c (.fn (.func g) fx fy) := by
    cases v with
    | c x =>
      cases x with
      | fn fn fx fy =>
        cases fn with
        | func g => exact ⟨g, fx, fy, rfl⟩
        | yield l => cases fx with
          | nil => exact hn.elim
          | cons y ys => exact hn.elim
        | _ => exact hn.elim
      | _ => exact hn.elim
    | _ => exact hn.elim
  obtain ⟨f', x', y', hfn, hfe, hx, hy⟩ : ∃ f' a' b', FnR e (.func g) f' ∧ a.eval f = .func f' a' b' ∧ All2 (WR e) fx a'.toList ∧ All2 (WR e) fy b'.toList := hfr
  have hf' : f' = .func g := hfn
  subst hf'
  have hon : onRange rec ps.toList asn bd tm h (.c (.fn (.func g) fx fy)) = bind (rec (.call g (appS (mapS wV fx) (appS [.c (.fn (.yield h.nxt) [] [])] (mapS wV fy)))) e3 (hNew h (.loop .ready none 0 tm ps.toList asn bd))) (afterRange rec h.nxt tm) := rfl
  rw [hon] at hn ⊢
  obtain ⟨n1, n2⟩ := noFail_bind hn
  unfold slotsOk at hso
  simp only [Bool.and_eq_true] at hso
  obtain ⟨⟨hps, has⟩, hbd⟩ := hso
  -- what is laid before the record
  obtain ⟨wa, mark, dl, henter, hra, hsta, hma⟩ : ∃ (wa : World) (mark : List Deferred) (dl : Nat), (∀ fn, (Instr.enterLoop fn a.tmps ps asn bd ro).run P w = .ok (wa.heap.size, mark) (wa.alloc (.loop { state := .ready, pending := none, fn, tmps := a.tmps, params := ps, assign := asn, body := bd, defers := dl }))) ∧
      HR e h wa ∧ Step e h w e h wa ∧ MarksOk e h w0 wa (mark ++ a.defers) := by
    cases hroe : ro with
    | none =>
      obtain ⟨q1, q2⟩ := hr.other (.deferred (some []))
      refine ⟨w.alloc (.deferred (some [])), [markOf w.heap.size], w.heap.size, fun fn => ?_, q1, q2, ?_⟩
      · simp [Instr.enterLoop, markOf]
      · obtain ⟨ms, m1, m2, m3⟩ := hm.step q2
        obtain ⟨ms0, m10, m20, m30⟩ := hm
        have hms : ms = ms0 := by
          have : ms.map markOf = ms0.map markOf := by rw [← m1, ← m10]
          have hinj : ∀ (l r : List Nat), l.map markOf = r.map markOf → l = r := by
            intro l
            induction l with
            | nil => intro r hlr; cases r with
              | nil => rfl
              | cons _ _ => cases hlr
            | cons x xs ih =>
              intro r hlr
              cases r with
              | nil => cases hlr
              | cons y ys =>
                simp only [List.map_cons, List.cons.injEq] at hlr
                have hxy : x = y := by
                  have := congrArg Deferred.target hlr.1
                  simpa [markOf] using this
                rw [hxy, ih ys hlr.2]
          exact hinj _ _ this
        refine ⟨w.heap.size :: ms, by rw [m1]; rfl, List.nodup_cons.2 ⟨fun hmem => ?_, m2⟩, fun r hrm => ?_⟩
        · rw [hms] at hmem
          have := (m30 _ hmem).2.1
          have := (Array.getElem?_eq_some_iff.1 this).1
          omega
        · rcases List.mem_cons.1 hrm with rfl | hrm
          · exact ⟨hst.size, heap_alloc_new w _, fun b o hb hc => absurd (hr.lt hb hc) (by omega)⟩
          · exact m3 r hrm
    | some l0 =>
      obtain ⟨r0, hr0⟩ := (hro.step hst) l0 hroe
      refine ⟨w, [], r0.defers, fun fn => ?_, hr, .refl _ _ _, by rw [List.nil_append]; exact hm⟩
      simp [Instr.enterLoop, run_getLoop hr0]
  -- the record
  have hle := Env.put_le (hra.fresh h.nxt (Nat.le_refl _)) wa.heap.size 0 0
  refine wpIn_mono (Q := Post e0 h0 w0 N _) (wpIn_rangeFunc fun fn _ => ?_) (fun _ _ _ hq => hq)
  have hlo : LoopOk { state := .ready, pending := none, fn, tmps := a.tmps, params := ps, assign := asn, body := bd, defers := dl } := by
    refine ⟨by show slotsOk a.tmps.size asn = true; rw [hN]; exact has, by show slotsOk a.tmps.size bd = true; rw [hN]; exact hbd, fun p hp => ?_, fun c hc => by cases hc⟩
    have := List.all_eq_true.1 hps p hp
    show p < a.tmps.size
    rw [hN]
    have : Nat.ble (p + 1) N = true := this
    exact Nat.le_of_ble_eq_true this
  have hor : OR (e.put h.nxt wa.heap.size 0 0) h.nxt (.loop .ready none 0 tm ps.toList asn bd) (.loop { state := .ready, pending := none, fn, tmps := a.tmps, params := ps, assign := asn, body := bd, defers := dl }) :=
    ⟨_, rfl, hlo, rfl, rfl, TR.mono hle ht, rfl, rfl, rfl⟩
  obtain ⟨b1, b2⟩ := hra.new 0 0 hor
  have hargs : All2 (VR (e.put h.nxt wa.heap.size 0 0)) (appS (mapS wV fx) (appS [.c (.fn (.yield h.nxt) [] [])] (mapS wV fy))) (x' ++ #[Value.func (.yield wa.heap.size) #[] #[]] ++ y').toList := by
    rw [appS_eq, appS_eq, Array.toList_append, Array.toList_append, List.append_assoc]
    refine (all2_wv (hx.mono fun _ _ => WR.mono hle)).app (All2.app (.cons ?_ .nil) (all2_wv (hy.mono fun _ _ => WR.mono hle)))
    exact ⟨.yield wa.heap.size, #[], #[], ⟨wa.heap.size, Env.put_self _ _ _ _ _, rfl⟩, rfl, .nil, .nil⟩
  obtain ⟨⟨gf, hgf, hgb, hgn⟩, hcall⟩ := hsnd.call g _ e3 _ _ _ _ b1 hargs n1
  refine ⟨wa.heap.size, mark, (wa.alloc (.loop { state := .ready, pending := none, fn, tmps := a.tmps, params := ps, assign := asn, body := bd, defers := dl })), { target := .fn (.func g) y', args := x' ++ #[Value.func (.yield wa.heap.size) #[] #[]] }, (wa.alloc (.loop { state := .ready, pending := none, fn, tmps := a.tmps, params := ps, assign := asn, body := bd, defers := dl })), g, x' ++ #[Value.func (.yield wa.heap.size) #[] #[]] ++ y', (wa.alloc (.loop { state := .ready, pending := none, fn, tmps := a.tmps, params := ps, assign := asn, body := bd, defers := dl })), henter fn, ?_, fun _ _ => trivial, ?_, (fun hx => absurd hx (by simp [fenceOf, Fence.wide])), CallsIn.mono (F := fenceOf ro) (hcall (n - 1)) (fun en w3 hp => ?_)⟩
  · have hmp : (#[Operand.const (Value.func (.yield wa.heap.size) #[] #[])].map a.eval) = #[Value.func (.yield wa.heap.size) #[] #[]] := by simp [Act.eval]
    simp only [resolve, hfe, hmp, Deferred.ofValue, Sem.run_pure]
  · simp only [invoke]
    exact run_callFunc hgf hgb hgn _
  · obtain ⟨v, v', tm', e', h', rfl, q0, q1, q2, q3⟩ := hp
    have hnr := n2 _ _ _ q0
    obtain ⟨st, pend, fn1, tml, ps1, as1, bd1, hg5, hoe⟩ := noFail_onLoop (show NoFail (onLoop h' h.nxt .fail _) from hnr)
    have hae : afterRange rec h.nxt tm (.val v) tm' h' = LoopState.rec (motive := fun _ => Out) (jumpO rec tm (hDel h' h.nxt) pend) .fail (jumpO rec tm (hDel h' h.nxt) pend) (jumpO rec tm (hDel h' h.nxt) pend) st := hoe
    have hρ : e'.ρ h.nxt = some wa.heap.size := q1.le.ρ _ _ (Env.put_self _ _ _ _ _)
    obtain ⟨r, hrl, hlk, hrs, hrp, _⟩ := q2.loop hg5 hρ
    have hnb : r.state ≠ .busy := fun hb => by
      rw [hae, ← hrs, hb] at hnr
      exact hnr.elim
    have hae' : afterRange rec h.nxt tm (.val v) tm' h' = jumpO rec tm (hDel h' h.nxt) pend := by
      rw [hae, ← hrs]
      cases hs : r.state with
      | busy => exact absurd hs hnb
      | _ => rfl
    have hend : (Instr.endLoop wa.heap.size).run P w3 = .ok r.pending (w3.putObj wa.heap.size (.loop { r with state := .exhausted })) := by
      simp [Instr.endLoop, run_getLoop hrl, hnb, run_setLoop hrl]
    obtain ⟨c1, c2⟩ := q2.gone hg5 hρ (.loop { r with state := .exhausted }) (fun r' _ => ⟨_, rfl⟩)
    have hall : Step e h wa e' (hDel h' h.nxt) (w3.putObj wa.heap.size (.loop { r with state := .exhausted })) := (b2.trans q1).trans c2
    have hinv : Inv e0 h0 w0 N tm (hDel h' h.nxt) { a with defers := mark ++ a.defers } (w3.putObj wa.heap.size (.loop { r with state := .exhausted })) :=
      .mk' (hst.trans (hsta.trans hall)) c1 (TR.mono hall.le ht) (hma.step hall) hN
    generalize (w3.putObj wa.heap.size (.loop { r with state := .exhausted })) = W4 at hend hinv
    refine ⟨r.pending, W4, hend, ?_⟩
    rw [hae'] at hnr
    cases hpe : r.pending with
    | none =>
      rw [← hrp, hpe] at hnr hae'
      exact ⟨.nrm, tm, hDel h' h.nxt, leaf_bind q0 (by rw [hae']; exact .ok _ _ _), rfl, hinv⟩
    | some c =>
      rw [← hrp, hpe] at hnr hae'
      rcases hlk.2.2.2 c hpe with rfl | ⟨id, rfl⟩
      · exact wpIn_ret ⟨.ret, tm, hDel h' h.nxt, leaf_bind q0 (by rw [hae']; exact .ok _ _ _), rfl, hinv⟩
      · exact wpIn_exit ⟨.exit id, tm, hDel h' h.nxt, leaf_bind q0 (by rw [hae']; exact .ok _ _ _), rfl, hinv⟩

/-! ### codes -/
theorem Inv.sub {tm' : S3 V} (hi : Inv e0 h0 w0 N tm h a w) (ht : ∀ k v, get3 tm' k = some v → get3 tm k = some v) : Inv e0 h0 w0 N tm' h a w := by
  obtain ⟨e, hst, hr, htr, hm, hN⟩ := hi.out
  exact .mk' hst hr (fun t v hv => htr t v (ht t v hv)) hm hN
theorem wpIn_scope {F : Fence} {c : Code} {Q : Exit → Act → World → Prop} (hh : c.wpIn F n P Q a w) (hq : ∀ l a w, ¬ Q (.goto l) a w) : (Code.scope c).wpIn F n P Q a w := by
  intro b k cs hro hb hr
  have h0 : (lone (b.atR a (.code (.scope c) :: k)) cs w).fenced P F := fenced_calm hb hr rfl
  have h1 : Go.step P (lone (b.atR a (.code (.scope c) :: k)) cs w) = .next (lone (b.atR a (.code c :: .inScope c :: k)) cs w) := step_lone_go (by simp [stepG, stepG.exec, Frame.atR])
  obtain ⟨e, a₁, w₁, hqe, harr⟩ := hh b (.inScope c :: k) cs hro hb hr
  cases e with
  | normal =>
    have h2 : Go.step P (lone (b.atR a₁ (.inScope c :: k)) cs w₁) = .next (lone (b.atR a₁ k) cs w₁) := step_lone_go (by simp [stepG, stepG.exec, Frame.atR])
    exact ⟨.normal, a₁, w₁, hqe, .head h0 h1 (StepsIn.trans harr (.one (fenced_calm hb hr rfl) h2))⟩
  | exit id =>
    have hx : exitTo id (.inScope c :: k) = exitTo id k := by simp [exitTo]
    exact ⟨.exit id, a₁, w₁, hqe, fun k' hk => .head h0 h1 (harr.1 k' (by rw [hx]; exact hk)), fun hr' hk => let ⟨k₁, p1, p2⟩ := harr.2 hr' (by rw [hx]; exact hk); ⟨k₁, p1, .head h0 h1 p2⟩⟩
  | goto l => exact absurd hqe (hq l a₁ w₁)
  | ret => exact ⟨_, a₁, w₁, hqe, .of_steps (.one h0 h1) harr⟩
  | panic ch => exact ⟨_, a₁, w₁, hqe, .of_steps (.one h0 h1) harr⟩
  | outgrown => exact ⟨_, a₁, w₁, hqe, .of_steps (.one h0 h1) harr⟩
theorem codeA_sound (hP : Fits P) (hsnd : Sound P rec) : ∀ (c : Code) {tm : S3 V} {h : H} {a : Act} {w : World}, slotsOk N c = true → RoOk ro w0 → Inv e0 h0 w0 N tm h a w → NoFail (codeA P rec c tm h) →
    c.wpIn (fenceOf ro) n P (Post e0 h0 w0 N (codeA P rec c tm h)) a w := by
  intro c
  induction c with
  | skip => intro tm h a w _ _ hi _; exact wpIn_skip ⟨.nrm, tm, h, .ok _ _ _, rfl, hi⟩
  | region id ops draw =>
    intro tm h a w hso _ hi hn
    have hd : ∀ o ∈ ops.toList, ∀ t, o.dst = some t → t < N := fun o ho t hto => by
      unfold slotsOk at hso
      have := List.all_eq_true.1 hso o ho
      rw [hto] at this
      have : Nat.ble (t + 1) N = true := this
      exact Nat.le_of_ble_eq_true this
    cases draw with
    | false => exact region_sound hP hsnd hd hi hn
    | true =>
      have hn' : NoFail (orF (drawnInfo ops.toList) fun l => opsD P rec ops.toList h.nxt l tm (hGrow h (nFlt l)) [] []) := hn
      obtain ⟨l, hl, h1⟩ := noFail_orF hn'
      have heq : codeA P rec (.region id ops true) tm h = opsD P rec ops.toList h.nxt l tm (hGrow h (nFlt l)) [] [] := by
        show orF (drawnInfo ops.toList) (fun l => opsD P rec ops.toList h.nxt l tm (hGrow h (nFlt l)) [] []) = _
        rw [hl]; rfl
      rw [heq]
      exact drawn_sound hP hsnd hl hd hi h1
  | seq x y ihx ihy =>
    intro tm h a w hso hro hi hn
    unfold slotsOk at hso
    rw [Bool.and_eq_true] at hso
    obtain ⟨n1, n2⟩ := noFail_bind (show NoFail (bind (codeA P rec x tm h) (afterSeq (codeA P rec y))) from hn)
    refine wpIn_seq (wpIn_mono (ihx hso.1 hro hi n1) fun ex a' w' hq => ?_)
    obtain ⟨exx, tm', h', q1, q2, q3⟩ := hq
    have hnk := n2 _ _ _ q1
    cases exx with
    | nrm =>
      have hxn : ex = .normal := q2
      subst hxn
      refine wpIn_mono (ihy hso.2 hro q3 hnk) fun x2 a2 w2 hq2 => ?_
      obtain ⟨ex2, tm2, h2, r1, r2, r3⟩ := hq2
      exact ⟨ex2, tm2, h2, leaf_bind q1 r1, r2, r3⟩
    | exit id => have hxn : ex = .exit id := q2; subst hxn; exact ⟨.exit id, tm', h', leaf_bind q1 (.ok _ _ _), rfl, q3⟩
    | ret => have hxn : ex = .ret := q2; subst hxn; exact ⟨.ret, tm', h', leaf_bind q1 (.ok _ _ _), rfl, q3⟩
    | val v => exact q2.elim
  | cond c x y ihx ihy =>
    intro tm h a w hso hro hi hn
    unfold slotsOk at hso
    rw [Bool.and_eq_true] at hso
    have hn' : NoFail (orF (opd tm c) fun v => vBool v .fail fun t => ifB t (codeA P rec x tm h) (codeA P rec y tm h)) := hn
    obtain ⟨v, hv, h1⟩ := noFail_orF hn'
    obtain ⟨t, rfl⟩ : ∃ t, v = .c (.bool t) := by
      cases v with
      | c z => cases z with
        | bool t => exact ⟨t, rfl⟩
        | _ => exact h1.elim
      | _ => exact h1.elim
    have heq : codeA P rec (.cond c x y) tm h = ifB t (codeA P rec x tm h) (codeA P rec y tm h) := by
      show orF (opd tm c) (fun v => vBool v .fail fun t => ifB t (codeA P rec x tm h) (codeA P rec y tm h)) = _
      rw [hv]; rfl
    rw [heq]
    obtain ⟨e, hst, hr, ht, hm, hN⟩ := hi.out
    have hce : a.eval c = .bool t := opd_eq ht hv
    cases t with
    | true => exact wpIn_cond hce (ihx hso.1 hro hi h1)
    | false => exact wpIn_cond hce (ihy hso.2 hro hi h1)
  | block id b ih =>
    intro tm h a w hso hro hi hn
    obtain ⟨n1, n2⟩ := noFail_bind (show NoFail (bind (codeA P rec b tm h) (afterBlock id)) from hn)
    refine wpIn_block (wpIn_mono (ih hso hro hi n1) fun ex a' w' hq => ?_)
    obtain ⟨exx, tm', h', q1, q2, q3⟩ := hq
    cases exx with
    | nrm => have hxn : ex = .normal := q2; subst hxn; exact ⟨.nrm, tm', h', leaf_bind q1 (.ok _ _ _), rfl, q3⟩
    | exit id' =>
      have hxn : ex = .exit id' := q2
      subst hxn
      show (if id' = id then Post e0 h0 w0 N (codeA P rec (.block id b) tm h) .normal a' w' else Post e0 h0 w0 N (codeA P rec (.block id b) tm h) (.exit id') a' w')
      by_cases hid : id' = id
      · rw [if_pos hid]
        refine ⟨.nrm, tm', h', leaf_bind q1 ?_, rfl, q3⟩
        show Leaf (ifB (Nat.beq id id') (.ok .nrm tm' h') (.ok (.exit id') tm' h')) _ _ _
        rw [hid, Nat.beq_refl]; exact .ok _ _ _
      · rw [if_neg hid]
        refine ⟨.exit id', tm', h', leaf_bind q1 ?_, rfl, q3⟩
        show Leaf (ifB (Nat.beq id id') (.ok .nrm tm' h') (.ok (.exit id') tm' h')) _ _ _
        have : Nat.beq id id' = false := by
          cases hb : Nat.beq id id' with
          | false => rfl
          | true => exact absurd (natBeq_iff.1 hb).symm hid
        rw [this]; exact .ok _ _ _
    | ret => have hxn : ex = .ret := q2; subst hxn; exact ⟨.ret, tm', h', leaf_bind q1 (.ok _ _ _), rfl, q3⟩
    | val v => exact q2.elim
  | loop b ih =>
    intro tm h a w hso hro hi hn
    obtain ⟨n1, n2⟩ := noFail_bind (show NoFail (bind (codeA P rec b (headS h b tm tm) h) (afterLoop rec b (headS h b tm tm))) from hn)
    refine loopIn_code (loopIn_round (wpIn_mono (ih hso hro (hi.sub fun _ _ => get3_headS) n1) fun ex a' w' hq => ?_))
    obtain ⟨exx, tm', h', q1, q2, q3⟩ := hq
    have hnk := n2 _ _ _ q1
    cases exx with
    | nrm =>
      have hxn : ex = .normal := q2
      subst hxn
      have hl := hsnd.loop b (headS h' b (headS h b tm tm) tm') h' e0 h0 w0 N ro a' w' n hro hso (q3.sub fun _ _ => get3_headS) hnk
      intro bb k cs b1 b2 b3
      obtain ⟨e2, a2, w2, hq2, harr⟩ := hl bb k cs b1 b2 b3
      obtain ⟨ex2, tm2, h2, r1, r2, r3⟩ := hq2
      exact ⟨e2, a2, w2, ⟨ex2, tm2, h2, leaf_bind q1 r1, r2, r3⟩, harr⟩
    | exit id => have hxn : ex = .exit id := q2; subst hxn; exact ⟨.exit id, tm', h', leaf_bind q1 (.ok _ _ _), rfl, q3⟩
    | ret => have hxn : ex = .ret := q2; subst hxn; exact ⟨.ret, tm', h', leaf_bind q1 (.ok _ _ _), rfl, q3⟩
    | val v => exact q2.elim
  | rangeFunc f ps x y _ _ =>
    intro tm h a w hso hro hi hn
    obtain ⟨v, hv, h1⟩ := noFail_orF (show NoFail (orF (opd tm f) fun v => onRange rec ps.toList x y tm h v) from hn)
    have heq : codeA P rec (.rangeFunc f ps x y) tm h = onRange rec ps.toList x y tm h v := by
      show orF (opd tm f) (fun v => onRange rec ps.toList x y tm h v) = _
      rw [hv]; rfl
    rw [heq]
    exact range_sound hsnd hso hro hi hv h1
  | exit id => intro tm h a w _ _ hi _; exact wpIn_exit ⟨.exit id, tm, h, .ok _ _ _, rfl, hi⟩
  | ret => intro tm h a w _ _ hi _; exact wpIn_ret ⟨.ret, tm, h, .ok _ _ _, rfl, hi⟩
  | scope b ih =>
    intro tm h a w hso hro hi hn
    unfold slotsOk at hso
    exact wpIn_scope (Q := Post e0 h0 w0 N (codeA P rec b tm h)) (ih hso hro hi hn) fun l a' w' hq => by
      obtain ⟨ex, _, _, _, hx, _⟩ := hq
      cases ex <;> first | cases hx | exact hx.elim
  | label l => intro tm h a w _ _ hi _; exact wpIn_label ⟨.nrm, tm, h, .ok _ _ _, rfl, hi⟩
  | goto l => intro tm h a w _ _ _ hn; exact hn.elim
  | refuse y => intro tm h a w _ _ _ hn; exact hn.elim

end
end Go.Abs

namespace Go.Abs
noncomputable section
variable {P : Program} {w : World} {a : Act} {e : Env} {h : H} {tm : S3 V}
variable {e0 : Env} {h0 : H} {w0 : World} {N : Nat} {ro : Option Nat} {n : Nat} {rec : Rec}

/-! ### ends that are joined -/
theorem merge2_vv (v v' : V) (tm tm' : S3 V) (h h' : H) : merge2 (.ok (.val v) tm h) (.ok (.val v') tm' h') = ifB (ifB (isTree h) (sameV v v') false) (.ok (.val v) e3 (mergeH h h')) (.or (.ok (.val v) tm h) (.ok (.val v') tm' h')) := rfl
theorem merge2_cases (x y : Out) : merge2 x y = .or x y ∨ ∃ v tm h tm' h', x = .ok (.val v) tm h ∧ y = .ok (.val v) tm' h' ∧ merge2 x y = .ok (.val v) e3 (mergeH h h') := by
  cases x with
  | fail => exact .inl rfl
  | or x1 x2 => exact .inl rfl
  | ok ex tm h =>
    cases ex with
    | nrm => exact .inl rfl
    | exit id => exact .inl rfl
    | ret => exact .inl rfl
    | val v =>
      cases y with
      | fail => exact .inl rfl
      | or y1 y2 => exact .inl rfl
      | ok ex' tm' h' =>
        cases ex' with
        | nrm => exact .inl rfl
        | exit id => exact .inl rfl
        | ret => exact .inl rfl
        | val v' =>
          rw [merge2_vv]
          cases ht : isTree h with
          | false => exact .inl (ifB_false _ _)
          | true =>
          cases hs : sameV v v' with
          | false => exact .inl (ifB_false _ _)
          | true =>
            have := sameV_eq hs
            subst this
            exact .inr ⟨v, tm, h, tm', h', rfl, rfl, ifB_true _ _⟩
theorem merge_or (x y : Out) : merge (.or x y) = merge2 (merge x) (merge y) := rfl
theorem merge_noFail {x : Out} : NoFail (merge x) → NoFail x := by
  induction x with
  | fail => exact id
  | ok ex tm h => exact id
  | or x y ihx ihy =>
    intro hn
    rw [merge_or] at hn
    rcases merge2_cases (merge x) (merge y) with h1 | ⟨v, tm, h, tm', h', h1, h2, h3⟩
    · rw [h1] at hn
      exact ⟨ihx hn.1, ihy hn.2⟩
    · refine ⟨ihx ?_, ihy ?_⟩
      · rw [h1]; trivial
      · rw [h2]; trivial
theorem merge_leaf {x : Out} {v : V} {tm : S3 V} {h : H} (hl : Leaf x (.val v) tm h) : ∃ tm' h', Leaf (merge x) (.val v) tm' h' ∧ h.nxt ≤ h'.nxt ∧ (∀ b o, get5 h'.t b = some o → get5 h.t b = some o) ∧ ∀ b q, h'.vw b = some q → h.vw b = some q := by
  induction x with
  | fail => cases hl
  | ok ex tm1 h1 =>
    obtain ⟨rfl, rfl, rfl⟩ := leaf_ok hl
    exact ⟨tm, h, Leaf.ok _ _ _, Nat.le_refl _, fun _ _ hb => hb, fun _ _ hb => hb⟩
  | or x y ihx ihy =>
    rw [merge_or]
    rcases leaf_or hl with hl | hl
    · obtain ⟨t1, h1, q1, q2, q3⟩ := ihx hl
      rcases merge2_cases (merge x) (merge y) with h4 | ⟨v', t2, h2, t3, h3, h4, h5, h6⟩
      · rw [h4]; exact ⟨t1, h1, .l q1, q2, q3⟩
      · rw [h6]
        rw [h4] at q1
        obtain ⟨r1, r2, r3⟩ := leaf_ok q1
        cases r1; subst r3
        exact ⟨_, _, Leaf.ok _ _ _, Nat.le_trans q2 mergeH_l.1, fun b o hb => q3.1 b o (mergeH_l.2 b o hb), fun b q hb => by cases hb⟩
    · obtain ⟨t1, h1, q1, q2, q3⟩ := ihy hl
      rcases merge2_cases (merge x) (merge y) with h4 | ⟨v', t2, h2, t3, h3, h4, h5, h6⟩
      · rw [h4]; exact ⟨t1, h1, .r q1, q2, q3⟩
      · rw [h6]
        rw [h5] at q1
        obtain ⟨r1, r2, r3⟩ := leaf_ok q1
        cases r1; subst r3
        exact ⟨_, _, Leaf.ok _ _ _, Nat.le_trans q2 mergeH_r.1, fun b o hb => q3.1 b o (mergeH_r.2 b o hb), fun b q hb => by cases hb⟩

/-! ### what is handed back -/
def resF (tmps : Array Value) : ResultVar → Sem Value
  | .tmp t => pure (tmps.getD t undef)
  | .cell a t => do loadVar t (← asAddr (tmps.getD a undef))
theorem results_eq (fn : Func) (tmps : Array Value) : results fn tmps = (do
    let vs ← fn.results.mapM (resF tmps)
    pure (if h : vs.size = 1 then vs[0] else .tuple vs)) := rfl
theorem resF_run {r : ResultVar} {v : V} (hr : HR e h w) (ht : TR e tm a.tmps) (hv : resultV P h tm r = some v) : ∃ v', (resF a.tmps r).run P w = .ok v' w ∧ VR e v v' := by
  cases r with
  | tmp t => exact ⟨_, rfl, ht t v hv⟩
  | cell x t =>
    have h0 : optB (get3 tm x) none (fun p => vPtr p none fun b o => loadV P h t b o) = some v := hv
    obtain ⟨p, hp, h1⟩ := optB_eq h0
    obtain ⟨b, off, rfl, h2⟩ := vPtr_eq h1
    obtain ⟨cb, hc, hx⟩ : ∃ cb, e.ρ b = some cb ∧ a.tmps.getD x undef = .pointer (some ⟨cb, off, none⟩) := ht x _ hp
    obtain ⟨v', h3, h4⟩ := ok_loadV hr h2 hc
    refine ⟨v', ?_, h4⟩
    simp only [resF, hx]
    simp [asAddr, h3]
theorem resL_run {vs : List V} : ∀ {rs : List ResultVar}, HR e h w → TR e tm a.tmps → All2 (fun r v => resultV P h tm r = some v) rs vs → ∃ vs', (rs.mapM (resF a.tmps)).run P w = .ok vs' w ∧ All2 (VR e) vs vs' := by
  induction vs with
  | nil => intro rs hr ht hv; cases hv; exact ⟨[], rfl, .nil⟩
  | cons v vs ih =>
    intro rs hr ht hv
    cases hv with
    | cons h1 h2 =>
      obtain ⟨v', q1, q2⟩ := resF_run hr ht h1
      obtain ⟨vs', q3, q4⟩ := ih hr ht h2
      exact ⟨v' :: vs', by simp [q1, q3], .cons q2 q4⟩
theorem manyV_ok {vs : List V} {vs' : List Value} {v : V} (hv : All2 (VR e) vs vs') (hm : manyV vs = some v) : VR e v (if h : vs'.toArray.size = 1 then vs'.toArray[0] else .tuple vs'.toArray) := by
  cases hv with
  | nil => cases hm; exact ⟨#[], rfl, .nil⟩
  | cons h1 h2 =>
    cases h2 with
    | nil => cases hm; exact h1
    | cons h3 h4 =>
      rename_i x x' y y' r r'
      have hm' : optB (mapO vU (x :: y :: r)) none (fun us => some (.tup us)) = some v := hm
      obtain ⟨us, hus, hv⟩ := optB_eq hm'
      cases hv
      have hsz : ¬ (x' :: y' :: r').toArray.size = 1 := by simp
      rw [dif_neg hsz]
      refine ⟨_, rfl, ?_⟩
      have hall : All2 (VR e) (x :: y :: r) (x' :: y' :: r') := .cons h1 (.cons h3 h4)
      have hmu := mapO_eq hus
      have : ∀ {l : List V} {l' : List Value} {us : List U}, All2 (VR e) l l' → All2 (fun x y => vU x = some y) l us → All2 (UR e) us l' := by
        intro l l' us ha hb
        induction hb generalizing l' with
        | nil => cases ha; exact .nil
        | cons q1 _ ih =>
          cases ha with
          | cons p1 p2 => exact .cons (VR_uV.1 (by rw [← vU_eq q1]; exact p1)) (ih p2)
      simpa using this hall hmu
theorem results_run {fn : Func} {vs : List V} {v : V} (hr : HR e h w) (ht : TR e tm a.tmps) (h1 : mapO (resultV P h tm) fn.results.toList = some vs) (h2 : manyV vs = some v) :
    ∃ v', (results fn a.tmps).run P w = .ok v' w ∧ VR e v v' := by
  obtain ⟨vs', q1, q2⟩ := resL_run hr ht (mapO_eq h1)
  refine ⟨_, ?_, manyV_ok q2 h2⟩
  rw [results_eq, Array.mapM_eq_mapM_toList]
  simp only [Sem.run_bind, Sem.run_map, q1, Result.andThen_ok, Sem.run_pure]

/-! ### the marks of loops, at a function's end -/
theorem step_mark (hst : Step e0 h0 w0 e h w) (hr : HR e h w) {r : Nat} (h1 : w0.heap.size ≤ r) (h2 : w.heap[r]? = some (.deferred (some []))) (h3 : ∀ b o, get5 h.t b = some o → e.ρ b ≠ some r) :
    Step e0 h0 w0 e h (w.putObj r (.deferred none)) ∧ HR e h (w.putObj r (.deferred none)) := by
  refine ⟨⟨hst.le, hst.nxt, by simp [World.putObj]; exact hst.size, hst.tape, hst.os, hst.output, fun c hc hn => ?_, hst.org, fun c l hl => ?_, hst.low⟩, ⟨hr.fresh, fun b o hb => ?_, hr.inj, by simp [World.putObj]; exact hr.vws.lim, hr.vws.own, fun c cs t fr hc => ?_, hr.vws.view⟩⟩
  · rw [World.putObj_heap_other (fun (hcc : c = r) => by omega)]; exact hst.keep c hc hn
  · have := (Array.getElem?_eq_some_iff.1 hl).1
    rw [World.putObj_heap_other (fun (hcc : c = r) => by omega)]; exact hst.loops c l hl
  · obtain ⟨cb, q1, co, q2, q3⟩ := hr.live b o hb
    exact ⟨cb, q1, co, by rw [World.putObj_heap_other (fun (hcc : cb = r) => h3 b o hb (by rw [← hcc]; exact q1))]; exact q2, q3⟩
  · have h4 := hr.vws.kept c cs t fr hc
    rw [World.putObj_heap_other (fun (hcc : c = r) => by rw [hcc, h2] at h4; cases h4)]; exact h4
theorem run_takeDeferred {r : Nat} (h2 : w.heap[r]? = some (.deferred (some []))) : (Instr.takeDeferred r).run P w = .ok [] (w.putObj r (.deferred none)) := by
  simp only [Instr.takeDeferred, getObj, setObj, World.putObj]
  simp [Sem.run, h2]
theorem leaves_ok {F : Fence} {fn : Func} {tmps : Array Value} {R : Ending → World → Prop} : ∀ {ms : List Nat} {w : World}, Step e0 h0 w0 e h w → HR e h w → ms.Nodup →
    (∀ r ∈ ms, w0.heap.size ≤ r ∧ w.heap[r]? = some (.deferred (some [])) ∧ ∀ b o, get5 h.t b = some o → e.ρ b ≠ some r) →
    (∀ w', Step e0 h0 w0 e h w' → HR e h w' → ∃ v, (results fn tmps).run P w' = .ok v w' ∧ R (.returned v) w') → LeavesInM F n P fn tmps R (ms.map markOf) .returning w
  | [], w, hst, hr, _, _, hK => hK w hst hr
  | r :: ms, w, hst, hr, hd, hm, hK => by
    obtain ⟨h1, h2, h3⟩ := hm r (List.mem_cons_self ..)
    obtain ⟨q1, q2⟩ := step_mark hst hr h1 h2 h3
    rw [List.nodup_cons] at hd
    rw [List.map_cons]
    unfold LeavesInM
    refine ⟨(fun hc => by cases hc), Or.inl ⟨r, _, rfl, run_takeDeferred h2, leaves_ok q1 q2 hd.2 (fun r' hr' => ?_) hK⟩⟩
    obtain ⟨p1, p2, p3⟩ := hm r' (List.mem_cons_of_mem _ hr')
    exact ⟨p1, by rw [World.putObj_heap_other (fun (hcc : r' = r) => hd.1 (by rw [← hcc]; exact hr'))]; exact p2, p3⟩

/-! ### slots, as a function or a round begins -/
theorem enter_get {args : List V} : ∀ {i : Nat} {t : S3 V} {k : Nat} {v : V}, get3 (enterTm args i t) k = some v → (∃ j, k = i + j ∧ args[j]? = some v) ∨ get3 t k = some v := by
  induction args with
  | nil => intro i t k v hg; exact .inr hg
  | cons x xs ih =>
    intro i t k v hg
    rcases ih (show get3 (enterTm xs (Nat.succ i) (set3 t i x)) k = some v from hg) with ⟨j, rfl, hj⟩ | h1
    · exact .inl ⟨j + 1, by omega, by simpa using hj⟩
    · rcases get3_set3 h1 with ⟨rfl, rfl⟩ | ⟨_, h2⟩
      · exact .inl ⟨0, rfl, rfl⟩
      · exact .inr h2
theorem enter_ok {args : List V} {args' : Array Value} (ha : All2 (VR e) args args'.toList) (m : Nat) : TR e (enterTm args 0 e3) (args' ++ Array.replicate m undef) := fun t v hg => by
  rcases enter_get hg with ⟨j, hj, h1⟩ | h1
  · rw [Nat.zero_add] at hj
    subst hj
    obtain ⟨y, h2, h3⟩ := ha.get h1
    have h4 : args'[t]? = some y := by rw [← Array.getElem?_toList]; exact h2
    have hlt := (Array.getElem?_eq_some_iff.1 h4).1
    rw [Array.getD_eq_getD_getElem?, Array.getElem?_append_left hlt, h4]
    exact h3
  · rw [get3_e3] at h1; cases h1
theorem setParams_ok {ps : List Nat} : ∀ {args : List V} {args' : List Value} {tm tm' : S3 V} {tmps : Array Value}, All2 (VR e) args args' → TR e tm tmps → (∀ p ∈ ps, p < tmps.size) → setParams ps args tm = some tm' →
    ps.length = args'.length ∧ TR e tm' ((ps.zip args').foldl (fun ts x => ts.setIfInBounds x.1 x.2) tmps) ∧ ((ps.zip args').foldl (fun ts x => ts.setIfInBounds x.1 x.2) tmps).size = tmps.size := by
  induction ps with
  | nil =>
    intro args args' tm tm' tmps ha ht _ hs
    cases ha with
    | nil => cases hs; exact ⟨rfl, ht, rfl⟩
    | cons _ _ => cases hs
  | cons p ps ih =>
    intro args args' tm tm' tmps ha ht hp hs
    cases ha with
    | nil => cases hs
    | cons h1 h2 =>
      rename_i x y xs ys
      have hs' : setParams ps xs (set3 tm p x) = some tm' := hs
      have hput := (TR.put (a := { tmps := tmps, defers := [] }) ht h1 (d := some p) (fun t ht => by cases ht; exact hp p (List.mem_cons_self ..)))
      obtain ⟨q1, q2, q3⟩ := ih h2 (tmps := tmps.setIfInBounds p y) hput.1 (fun t ht => by simpa using hp t (List.mem_cons_of_mem _ ht)) hs'
      exact ⟨by simp [q1], q2, by rw [List.zip_cons_cons, List.foldl_cons, q3]; simp⟩

end
end Go.Abs

namespace Go.Abs
noncomputable section
variable {P : Program} {w : World} {a : Act} {e : Env} {h : H} {tm : S3 V}
variable {e0 : Env} {h0 : H} {w0 : World} {N : Nat} {ro : Option Nat} {n : Nat} {rec : Rec}

/-! ### calls -/
theorem call_sound (hP : Fits P) (hs : Sound P rec) {f : FuncId} {args : List V} {args' : Array Value} (hr : HR e h w) (ha : All2 (VR e) args args'.toList) (hn : NoFail (callF P rec args h P.funcs[f]?)) :
    (∃ fn, P.funcs[f]? = some fn ∧ fn.body.isNone = false ∧ (fn.name == "runtime.NumGoroutine") = false) ∧ ∀ n, CallsIn Fence.wide n P f args' w (CallPost e h w (callF P rec args h P.funcs[f]?)) := by
  obtain ⟨fn, hf, hn1⟩ := noFail_orF (show NoFail (orF P.funcs[f]? _) from hn)
  have heq : callF P rec args h P.funcs[f]? = orF fn.body fun c => ifB (fnOk fn) (ifB (Nat.ble (lenS args) fn.ntmps) (merge (bind (codeA P rec c (enterTm args 0 e3) h) (finishCall P fn))) .fail) .fail := by rw [hf]; rfl
  obtain ⟨c, hb, hn2⟩ := noFail_orF hn1
  rw [hb, orF_some] at heq
  cases hok : fnOk fn with
  | false => rw [hok] at hn2; exact hn2.elim
  | true =>
    rw [hok, ifB_true] at hn2 heq
    cases hle : Nat.ble (lenS args) fn.ntmps with
    | false => rw [hle] at hn2; exact hn2.elim
    | true =>
      rw [hle, ifB_true] at hn2 heq
      rw [heq]
      unfold fnOk at hok
      rw [hb] at hok
      have hok' : (slotsOk fn.ntmps c && fn.name != "runtime.NumGoroutine") = true := hok
      rw [Bool.and_eq_true] at hok'
      have hnm : (fn.name == "runtime.NumGoroutine") = false := by
        have := hok'.2
        rw [bne, Bool.not_eq_true'] at this
        exact this
      refine ⟨⟨fn, hf, by rw [hb]; rfl, hnm⟩, fun n => ?_⟩
      obtain ⟨m1, m2⟩ := noFail_bind (merge_noFail hn2)
      have hlen : args'.size ≤ fn.ntmps := by
        have h1 := Nat.le_of_ble_eq_true hle
        rw [lenS_eq, ha.length, Array.length_toList] at h1
        exact h1
      have hinv : Inv e h w fn.ntmps (enterTm args 0 e3) h { tmps := args' ++ Array.replicate (fn.ntmps - args'.size) undef, defers := [] } w := by
        refine .mk' (.refl e h w) hr (enter_ok ha _) ⟨[], rfl, .nil, fun r hr => by cases hr⟩ ?_
        simp only [Array.size_append, Array.size_replicate]
        omega
      refine callsIn_of_wp_marks (F := Fence.wide) hf hb trivial (wpIn_mono (codeA_sound (ro := none) (n := n) hP hs c hok'.1 (fun l hl => by cases hl) hinv m1) fun x a' w' hq => ?_)
      obtain ⟨ex, tm', h', q1, q2, q3⟩ := hq
      have hnk := m2 _ _ _ q1
      obtain ⟨e', hst, hr', ht, hm, _⟩ := q3.out
      have hfin : ∀ (hret : NoFail (retOf P fn tm' h')) (hl : ∀ ex tm2 h2, Leaf (retOf P fn tm' h') ex tm2 h2 → Leaf (bind (codeA P rec c (enterTm args 0 e3) h) (finishCall P fn)) ex tm2 h2),
          LeavesInM Fence.wide n P fn a'.tmps (CallPost e h w (merge (bind (codeA P rec c (enterTm args 0 e3) h) (finishCall P fn)))) a'.defers .returning w' := by
        intro hret hl
        obtain ⟨vs, hvs, hret1⟩ := noFail_orF (show NoFail (orF (mapO (resultV P h' tm') fn.results.toList) fun vs => orF (manyV vs) fun v => .ok (.val v) e3 h') from hret)
        obtain ⟨v, hv, _⟩ := noFail_orF hret1
        have hreq : retOf P fn tm' h' = .ok (.val v) e3 h' := by
          show orF (mapO (resultV P h' tm') fn.results.toList) (fun vs => orF (manyV vs) fun v => .ok (.val v) e3 h') = _
          rw [hvs, orF_some, hv, orF_some]
        rw [hreq] at hl
        obtain ⟨tm2, h2, r1, r2, r3⟩ := merge_leaf (hl _ _ _ (Leaf.ok _ _ _))
        obtain ⟨ms, hms, hnd, hma⟩ := hm
        rw [hms]
        refine leaves_ok hst hr' hnd hma fun w2 p1 p2 => ?_
        obtain ⟨v', s1, s2⟩ := results_run (P := P) p2 ht hvs hv
        obtain ⟨t1, t2⟩ := p2.less r2 r3.1 r3.2
        exact ⟨v', s1, v, v', tm2, e', h2, rfl, r1, p1.trans t2, t1, s2⟩
      cases ex with
      | nrm =>
        have hxn : x = .normal := q2
        subst hxn
        exact hfin hnk (fun ex tm2 h2 hl => leaf_bind q1 hl)
      | exit id => exact hnk.elim
      | ret =>
        have hxn : x = .ret := q2
        subst hxn
        exact hfin hnk (fun ex tm2 h2 hl => leaf_bind q1 hl)
      | val v => exact q2.elim

/-! ### a loop's rounds -/
theorem fenceOf_round (l : Nat) : fenceOf (some l) = Fence.wide.inRound l := rfl
theorem loopIn_mono {F : Fence} {c : Code} {Q Q' : Exit → Act → World → Prop} (hh : LoopIn F n P c Q a w) (hq : ∀ x a w, Q x a w → Q' x a w) : LoopIn F n P c Q' a w := by
  intro b k cs b1 b2 b3
  obtain ⟨e2, a2, w2, hq2, harr⟩ := hh b k cs b1 b2 b3
  exact ⟨e2, a2, w2, hq _ _ _ hq2, harr⟩

theorem loopOk_pend {r : Loop} (hk : LoopOk r) (st : LoopState) (pend : Option Code) (hp : ∀ c, pend = some c → c = .ret ∨ ∃ id, c = .exit id) : LoopOk { r with state := st, pending := pend } := ⟨hk.1, hk.2.1, hk.2.2.1, hp⟩
theorem run_yield {c : Nat} {r : Loop} (hc : w.heap[c]? = some (.loop r)) {args : Array Value} (hz : args.size = r.params.size) : (Instr.yield c args).run P w = .ok (.round c r.fn ((r.params.zip args).foldl (fun tmps (t, a) => tmps.setIfInBounds t a) r.tmps) r.assign r.body) w := by
  simp [Instr.yield, run_getLoop hc, hz]
theorem run_beginRound {c : Nat} {r : Loop} (hc : w.heap[c]? = some (.loop r)) (hs : r.state = .ready) : (Instr.beginRound c).run P w = .ok () (w.putObj c (.loop { r with state := .busy })) := by
  simp [Instr.beginRound, run_getLoop hc, run_setLoop hc, hs]
theorem run_endRound {c : Nat} {r : Loop} (hc : w.heap[c]? = some (.loop r)) (j : Option Code) : (Instr.endRound c j).run P w = .ok (.bool j.isNone) (w.putObj c (.loop { r with state := if j.isNone then .ready else .done, pending := j })) := by
  simp [Instr.endRound, run_getLoop hc, run_setLoop hc]

theorem HR.setLoop (hr : HR e h w) {b : Nat} {o0 : AO} {c : Nat} (hb : get5 h.t b = some o0) (hc : e.ρ b = some c) {r : Loop} (hk : LoopOk r) {st : LoopState} {pend : Option Code} {fn : FuncId} {tml : S3 V} {ps : List Nat} {asn bd : Code}
    (ht : TR e tml r.tmps) (h1 : r.params.toList = ps) (h2 : r.assign = asn) (h3 : r.body = bd) (hp : ∀ c, pend = some c → c = .ret ∨ ∃ id, c = .exit id) :
    HR e (hSet h b (.loop st pend fn tml ps asn bd)) (w.putObj c (.loop { r with state := st, pending := pend })) ∧ Step e h w e (hSet h b (.loop st pend fn tml ps asn bd)) (w.putObj c (.loop { r with state := st, pending := pend })) :=
  hr.upd hb hc ⟨{ r with state := st, pending := pend }, rfl, loopOk_pend hk st pend hp, rfl, rfl, ht, h1, h2, h3⟩ (fun _ _ => ⟨_, rfl⟩)

theorem yield_sound (hP : Fits P) (hs : Sound P rec) {l : Nat} {args : List V} {cl : Nat} {args' : Array Value} (hcl : e.ρ l = some cl) (hr : HR e h w) (ha : All2 (VR e) args args'.toList) (hn : NoFail (yieldA P rec l args h)) :
    ∃ fn tmps assign body, (Instr.yield cl args').run P w = .ok (.round cl fn tmps assign body) w ∧ ∀ n, RoundIn Fence.wide n P cl fn tmps assign body w (CallPost e h w (yieldA P rec l args h)) := by
  obtain ⟨st, pend, fn1, tml, ps, asn, bd, hg, heq⟩ := noFail_onLoop (show NoFail (onLoop h l .fail _) from hn)
  have heq1 : yieldA P rec l args h = LoopState.rec (motive := fun _ => Out) (orF (setParams ps args tml) fun tm' => bind (codeA P rec asn tm' h) (bodyYield P rec l bd)) .fail .fail .fail st := heq
  obtain ⟨r, hw, hk, hst, hpe, htl, hps, has, hbd⟩ := hr.loop hg hcl
  rw [heq1] at hn ⊢
  cases st with
  | busy => exact hn.elim
  | done => exact hn.elim
  | exhausted => exact hn.elim
  | ready =>
    have hn1 : NoFail (orF (setParams ps args tml) fun tm' => bind (codeA P rec asn tm' h) (bodyYield P rec l bd)) := hn
    obtain ⟨tm1, hset, hn2⟩ := noFail_orF hn1
    show ∃ fn tmps assign body, _ ∧ ∀ n, RoundIn Fence.wide n P cl fn tmps assign body w (CallPost e h w (orF (setParams ps args tml) fun tm' => bind (codeA P rec asn tm' h) (bodyYield P rec l bd)))
    rw [hset, orF_some]
    obtain ⟨m1, m2⟩ := noFail_bind hn2
    obtain ⟨k1, k2, k3⟩ := setParams_ok ha htl (fun p hp => hk.2.2.1 p (by rw [hps]; exact hp)) hset
    have hz : args'.size = r.params.size := by
      rw [← Array.length_toList, ← Array.length_toList, ← k1, hps]
    have hfold : (r.params.zip args').foldl (fun tmps (t, a) => tmps.setIfInBounds t a) r.tmps = (ps.zip args'.toList).foldl (fun ts x => ts.setIfInBounds x.1 x.2) r.tmps := by
      rw [← Array.foldl_toList, Array.toList_zip, hps]
    refine ⟨_, _, _, _, run_yield hw hz, fun n => ?_⟩
    rw [hfold]
    generalize (ps.zip args'.toList).foldl (fun ts x => ts.setIfInBounds x.1 x.2) r.tmps = tmps0 at k2 k3
    have hinv : Inv e h w r.tmps.size tm1 h { tmps := tmps0, defers := [] } w := .mk' (.refl e h w) hr k2 ⟨[], rfl, .nil, fun r hr => by cases hr⟩ k3
    have hro : RoOk (some cl) w := fun l' hl' => by cases hl'; exact ⟨r, hw⟩
    refine roundIn_of_wpIn trivial ?_
    rw [← fenceOf_round]
    have hw1 := codeA_sound (ro := some cl) (n := n) hP hs asn (by rw [← has]; exact hk.1) hro hinv m1
    rw [has]
    refine wpIn_mono hw1 fun x a1 w1 hq => ?_
    obtain ⟨ex, tm2, h2, q1, q2, q3⟩ := hq
    have hnk := m2 _ _ _ q1
    cases ex with
    | exit id => exact hnk.elim
    | ret => exact hnk.elim
    | val v => exact q2.elim
    | nrm =>
      have hxn : x = .normal := q2
      subst hxn
      obtain ⟨st2, pend2, fn2, tml2, ps2, as2, bd2, hg2, heq2⟩ := noFail_onLoop (show NoFail (onLoop h2 l .fail _) from hnk)
      have heq3 : bodyYield P rec l bd .nrm tm2 h2 = LoopState.rec (motive := fun _ => Out) (bind (codeA P rec bd tm2 (hSet h2 l (.loop .busy pend2 fn2 tml2 ps2 as2 bd2))) (endYield l)) .fail .fail .fail st2 := heq2
      obtain ⟨e1, hst1, hr1, ht1, hm1, hN1⟩ := q3.out
      have hcl1 : e1.ρ l = some cl := hst1.le.ρ _ _ hcl
      obtain ⟨r1, hw1, hk1, hs1, hp1, htl1, hps1, has1, hbd1⟩ := hr1.loop hg2 hcl1
      rw [heq3] at hnk
      cases st2 with
      | busy => exact hnk.elim
      | done => exact hnk.elim
      | exhausted => exact hnk.elim
      | ready =>
        refine ⟨_, run_beginRound hw1 hs1, ?_⟩
        obtain ⟨b1, b2⟩ := hr1.setLoop (st := .busy) (pend := pend2) (fn := fn2) hg2 hcl1 hk1 htl1 hps1 has1 hbd1 (fun c hc => hk1.2.2.2 c (by rw [hp1]; exact hc))
        have hsame : ({ r1 with state := .busy, pending := pend2 } : Loop) = { r1 with state := .busy } := by rw [← hp1]
        rw [hsame] at b1 b2
        obtain ⟨c1, c2⟩ := noFail_bind (show NoFail (bind (codeA P rec bd tm2 (hSet h2 l (.loop .busy pend2 fn2 tml2 ps2 as2 bd2))) (endYield l)) from hnk)
        have hinv2 : Inv e h w r.tmps.size tm2 (hSet h2 l (.loop .busy pend2 fn2 tml2 ps2 as2 bd2)) a1 (w1.putObj cl (.loop { r1 with state := .busy })) := .mk' (hst1.trans b2) b1 ht1 (hm1.step b2) hN1
        rw [hbd]
        have hlf : ∀ {ex tm3 h3}, Leaf (bind (codeA P rec bd tm2 (hSet h2 l (.loop .busy pend2 fn2 tml2 ps2 as2 bd2))) (endYield l)) ex tm3 h3 → Leaf (bind (codeA P rec asn tm1 h) (bodyYield P rec l bd)) ex tm3 h3 := fun hl => leaf_bind q1 (by rw [heq3]; exact hl)
        refine wpIn_mono (codeA_sound (ro := some cl) (n := n) hP hs bd (by rw [← hbd]; exact hk.2.1) hro hinv2 c1) fun x3 a3 w3 hq3 => ?_
        obtain ⟨ex3, tm3, h3, s1, s2, s3⟩ := hq3
        have hnk3 := c2 _ _ _ s1
        obtain ⟨st4, pend4, fn4, tml4, ps4, as4, bd4, hg4, heq4⟩ := noFail_onLoop (show NoFail (onLoop h3 l .fail _) from hnk3)
        obtain ⟨e3', hst3, hr3, ht3, hm3, hN3⟩ := s3.out
        have hcl3 : e3'.ρ l = some cl := hst3.le.ρ _ _ hcl
        obtain ⟨r3, hw3, hk3, hs3, hp3, htl3, hps3, has3, hbd3⟩ := hr3.loop hg4 hcl3
        cases ex3 with
        | val v => exact s2.elim
        | nrm =>
          have hxn : x3 = .normal := s2
          subst hxn
          have heq5 : endYield l .nrm tm3 h3 = .ok (.val (.c (.bool true))) e3 (hSet h3 l (.loop .ready none fn4 tml4 ps4 as4 bd4)) := heq4
          obtain ⟨d1, d2⟩ := hr3.setLoop (st := .ready) (pend := none) (fn := fn4) hg4 hcl3 hk3 htl3 hps3 has3 hbd3 (fun c hc => by cases hc)
          refine ⟨_, _, run_endRound hw3 none, .c (.bool true), _, e3, e3', _, rfl, hlf (leaf_bind s1 (by rw [heq5]; exact Leaf.ok _ _ _)), hst3.trans d2, d1, rfl⟩
        | exit id =>
          have hxn : x3 = .exit id := s2
          subst hxn
          have heq5 : endYield l (.exit id) tm3 h3 = .ok (.val (.c (.bool false))) e3 (hSet h3 l (.loop .done (some (.exit id)) fn4 tml4 ps4 as4 bd4)) := heq4
          obtain ⟨d1, d2⟩ := hr3.setLoop (st := .done) (pend := some (.exit id)) (fn := fn4) hg4 hcl3 hk3 htl3 hps3 has3 hbd3 (fun c hc => by cases hc; exact .inr ⟨id, rfl⟩)
          refine ⟨_, _, run_endRound hw3 (some (.exit id)), .c (.bool false), _, e3, e3', _, rfl, hlf (leaf_bind s1 (by rw [heq5]; exact Leaf.ok _ _ _)), hst3.trans d2, d1, rfl⟩
        | ret =>
          have hxn : x3 = .ret := s2
          subst hxn
          have heq5 : endYield l .ret tm3 h3 = .ok (.val (.c (.bool false))) e3 (hSet h3 l (.loop .done (some .ret) fn4 tml4 ps4 as4 bd4)) := heq4
          obtain ⟨d1, d2⟩ := hr3.setLoop (st := .done) (pend := some .ret) (fn := fn4) hg4 hcl3 hk3 htl3 hps3 has3 hbd3 (fun c hc => by cases hc; exact .inl rfl)
          refine ⟨_, _, run_endRound hw3 (some .ret), .c (.bool false), _, e3, e3', _, rfl, hlf (leaf_bind s1 (by rw [heq5]; exact Leaf.ok _ _ _)), hst3.trans d2, d1, rfl⟩

/-! ### a step of the evaluator -/
theorem step_sound (hP : Fits P) (hs : Sound P rec) : Sound P (step P rec) where
  call := fun f args tm h e w args' hr ha hn => call_sound hP hs hr ha hn
  yield := fun l args tm h e w cl args' hcl hr ha hn => yield_sound hP hs hcl hr ha hn
  jump := fun c tm h e0 h0 w0 N ro a w n hro hso hi hn => codeA_sound hP hs c hso hro hi hn
  loop := fun c tm h e0 h0 w0 N ro a w n hro hso hi hn => by
    obtain ⟨n1, n2⟩ := noFail_bind (show NoFail (bind (codeA P rec c (headS h c tm tm) h) (afterLoop rec c (headS h c tm tm))) from hn)
    refine loopIn_round (wpIn_mono (codeA_sound hP hs c hso hro (hi.sub fun _ _ => get3_headS) n1) fun ex a' w' hq => ?_)
    obtain ⟨exx, tm', h', q1, q2, q3⟩ := hq
    have hnk := n2 _ _ _ q1
    cases exx with
    | nrm =>
      have hxn : ex = .normal := q2
      subst hxn
      refine loopIn_mono (hs.loop c (headS h' c (headS h c tm tm) tm') h' e0 h0 w0 N ro a' w' n hro hso (q3.sub fun _ _ => get3_headS) hnk) fun x a2 w2 hq2 => ?_
      obtain ⟨ex2, tm2, h2, r1, r2, r3⟩ := hq2
      exact ⟨ex2, tm2, h2, leaf_bind q1 r1, r2, r3⟩
    | exit id => have hxn : ex = .exit id := q2; subst hxn; exact ⟨.exit id, tm', h', leaf_bind q1 (.ok _ _ _), rfl, q3⟩
    | ret => have hxn : ex = .ret := q2; subst hxn; exact ⟨.ret, tm', h', leaf_bind q1 (.ok _ _ _), rfl, q3⟩
    | val v => exact q2.elim
theorem ev_sound (hP : Fits P) : ∀ k, Sound P (ev P k)
  | 0 => ⟨fun _ _ _ _ _ _ _ _ _ hn => hn.elim, fun _ _ _ _ _ _ _ _ _ _ _ hn => hn.elim, fun _ _ _ _ _ _ _ _ _ _ _ _ _ _ hn => hn.elim, fun _ _ _ _ _ _ _ _ _ _ _ _ _ _ hn => hn.elim⟩
  | k + 1 => step_sound hP (ev_sound hP k)

end
end Go.Abs

/- A function's body is run in pieces, each from a state that is written down to one that is written down. -/
namespace Go.Abs
noncomputable section
variable {P : Program} {w : World} {a : Act} {e : Env} {h : H} {tm : S3 V}
variable {e0 : Env} {h0 : H} {w0 : World} {N : Nat} {ro : Option Nat} {n : Nat} {rec : Rec}

def tmOf (l : List (Nat × V)) : S3 V := List.rec (motive := fun _ => S3 V) e3 (fun x _ ih => set3 ih x.1 x.2) l
def blOf (l : List (Nat × AO)) : S5 AO := List.rec (motive := fun _ => S5 AO) e5 (fun x _ ih => set5 ih x.1 x.2) l
def hpOf (n : Nat) (l : List (Nat × AO)) : H := { nxt := n, t := blOf l, vw := fun _ => none }
/-- a piece ends, as it ends normally, in a state that is at least the one given -/
def covers (L : List (Nat × V)) (m : Nat) (M : List (Nat × AO)) (o : Out) : Bool :=
  Out.rec (motive := fun _ => Bool) false (fun ex tm h => exB ex
      (ifB (allS (fun x => optB (get3 tm x.1) false (sameV x.2)) L) (ifB (allS (fun x => optB (get5 h.t x.1) false (eqAO x.2)) M) (Nat.ble h.nxt m) false) false)
      (fun _ => false) false (fun _ => false))
    (fun _ _ a b => ifB a b false) o
def endsIn (v : V) (o : Out) : Bool := Out.rec (motive := fun _ => Bool) false (fun ex _ _ => exB ex false (fun _ => false) false (sameV v)) (fun _ _ a b => ifB a b false) o

theorem get3_tmOf : ∀ {l : List (Nat × V)} {k : Nat} {v : V}, get3 (tmOf l) k = some v → (k, v) ∈ l
  | [], k, v, hh => by rw [show tmOf [] = e3 from rfl, get3_e3] at hh; cases hh
  | x :: xs, k, v, hh => by
    rcases get3_set3 (show get3 (set3 (tmOf xs) x.1 x.2) k = some v from hh) with ⟨rfl, rfl⟩ | ⟨_, h2⟩
    · exact List.mem_cons_self ..
    · exact List.mem_cons_of_mem _ (get3_tmOf h2)
theorem get5_blOf : ∀ {l : List (Nat × AO)} {k : Nat} {v : AO}, get5 (blOf l) k = some v → (k, v) ∈ l
  | [], k, v, hh => by rw [show blOf [] = e5 from rfl, get5_e5] at hh; cases hh
  | x :: xs, k, v, hh => by
    rcases get5_set5 (show get5 (set5 (blOf xs) x.1 x.2) k = some v from hh) with ⟨rfl, rfl⟩ | ⟨_, h2⟩
    · exact List.mem_cons_self ..
    · exact List.mem_cons_of_mem _ (get5_blOf h2)
theorem optB_bool {α : Type} {o : Option α} {s : α → Bool} (hh : optB o false s = true) : ∃ x, o = some x ∧ s x = true := by
  cases o with
  | none => cases hh
  | some x => exact ⟨x, rfl, hh⟩
theorem covers_leaf {L : List (Nat × V)} {m : Nat} {M : List (Nat × AO)} {o : Out} (hc : covers L m M o = true) : NoFail o ∧ ∀ ex tm h, Leaf o ex tm h →
    ex = .nrm ∧ (∀ k v, get3 (tmOf L) k = some v → get3 tm k = some v) ∧ h.nxt ≤ m ∧ ∀ b x, get5 (blOf M) b = some x → get5 h.t b = some x := by
  induction o with
  | fail => cases hc
  | ok ex tm h =>
    refine ⟨trivial, fun ex' tm' h' hl => ?_⟩
    obtain ⟨rfl, rfl, rfl⟩ := leaf_ok hl
    cases ex' with
    | exit id => cases hc
    | ret => cases hc
    | val v => cases hc
    | nrm =>
      obtain ⟨h1, h2⟩ := ifB_true' (show ifB (allS (fun x => optB (get3 tm' x.1) false (sameV x.2)) L) (ifB (allS (fun x => optB (get5 h'.t x.1) false (eqAO x.2)) M) (Nat.ble h'.nxt m) false) false = true from hc)
      obtain ⟨h3, h4⟩ := ifB_true' h2
      refine ⟨rfl, fun k v hk => ?_, Nat.le_of_ble_eq_true h4, fun b x hb => ?_⟩
      · obtain ⟨y, q1, q2⟩ := optB_bool (allS_mem h1 _ (get3_tmOf hk))
        have hy : v = y := sameV_eq q2
        rw [hy]; exact q1
      · obtain ⟨y, q1, q2⟩ := optB_bool (allS_mem h3 _ (get5_blOf hb))
        have hy : x = y := eqAO_eq q2
        rw [hy]; exact q1
  | or x y ihx ihy =>
    obtain ⟨h1, h2⟩ := ifB_true' (show ifB (covers L m M x) (covers L m M y) false = true from hc)
    obtain ⟨p1, p2⟩ := ihx h1
    obtain ⟨q1, q2⟩ := ihy h2
    exact ⟨⟨p1, q1⟩, fun ex tm h hl => (leaf_or hl).elim (p2 ex tm h) (q2 ex tm h)⟩
theorem endsIn_leaf {v : V} {o : Out} (hc : endsIn v o = true) : NoFail o ∧ ∀ ex tm h, Leaf o ex tm h → ex = .val v := by
  induction o with
  | fail => cases hc
  | ok ex tm h =>
    refine ⟨trivial, fun ex' tm' h' hl => ?_⟩
    obtain ⟨rfl, rfl, rfl⟩ := leaf_ok hl
    cases ex' with
    | exit id => cases hc
    | ret => cases hc
    | nrm => cases hc
    | val v' => rw [sameV_eq (show sameV v v' = true from hc)]
  | or x y ihx ihy =>
    obtain ⟨h1, h2⟩ := ifB_true' (show ifB (endsIn v x) (endsIn v y) false = true from hc)
    obtain ⟨p1, p2⟩ := ihx h1
    obtain ⟨q1, q2⟩ := ihy h2
    exact ⟨⟨p1, q1⟩, fun ex tm h hl => (leaf_or hl).elim (p2 ex tm h) (q2 ex tm h)⟩

theorem Inv.less (hi : Inv e0 h0 w0 N tm h a w) {tm' : S3 V} {h' : H} (ht : ∀ k v, get3 tm' k = some v → get3 tm k = some v) (hn : h.nxt ≤ h'.nxt) (hh : ∀ b o, get5 h'.t b = some o → get5 h.t b = some o) (hq : ∀ b q, h'.vw b = some q → h.vw b = some q) : Inv e0 h0 w0 N tm' h' a w := by
  obtain ⟨e, hst, hr, htr, hm, hN⟩ := hi.out
  obtain ⟨q1, q2⟩ := hr.less hn hh hq
  exact .mk' (hst.trans q2) q1 (fun t v hv => htr t v (ht t v hv)) (hm.step q2) hN

/-- what a function without arguments hands back -/
def RetPost (e0 : Env) (h0 : H) (w0 : World) (v : V) : Ending → World → Prop := fun en w' => ∃ v' e' h', en = .returned v' ∧ Step e0 h0 w0 e' h' w' ∧ HR e' h' w' ∧ VR e' v v'
/-- from here on the body hands v back -/
def Good (P : Program) (fn : Func) (v : V) (c : Code) (tm : S3 V) (h : H) : Prop :=
  ∀ e0 h0 w0 n a w, Inv e0 h0 w0 fn.ntmps tm h a w → c.wpIn Fence.wide n P (bodyPostM Fence.wide n P fn (RetPost e0 h0 w0 v)) a w

theorem good_end (hP : Fits P) (hs : Sound P rec) {fn : Func} {v : V} {c : Code} (hso : slotsOk fn.ntmps c = true) (hc : endsIn v (bind (codeA P rec c tm h) (finishCall P fn)) = true) : Good P fn v c tm h := by
  intro e0 h0 w0 n a w hi
  obtain ⟨hn, hlf⟩ := endsIn_leaf hc
  obtain ⟨m1, m2⟩ := noFail_bind hn
  refine wpIn_mono (codeA_sound (ro := none) (n := n) hP hs c hso (fun l hl => by cases hl) hi m1) fun x a' w' hq => ?_
  obtain ⟨ex, tm', h', q1, q2, q3⟩ := hq
  have hnk := m2 _ _ _ q1
  obtain ⟨e', hst, hr', ht, hm, _⟩ := q3.out
  have hfin : ∀ (hret : NoFail (retOf P fn tm' h')) (hl : ∀ ex tm2 h2, Leaf (retOf P fn tm' h') ex tm2 h2 → Leaf (bind (codeA P rec c tm h) (finishCall P fn)) ex tm2 h2),
      LeavesInM Fence.wide n P fn a'.tmps (RetPost e0 h0 w0 v) a'.defers .returning w' := by
    intro hret hl
    obtain ⟨vs, hvs, hret1⟩ := noFail_orF (show NoFail (orF (mapO (resultV P h' tm') fn.results.toList) fun vs => orF (manyV vs) fun v => .ok (.val v) e3 h') from hret)
    obtain ⟨v1, hv, _⟩ := noFail_orF hret1
    have hreq : retOf P fn tm' h' = .ok (.val v1) e3 h' := by
      show orF (mapO (resultV P h' tm') fn.results.toList) (fun vs => orF (manyV vs) fun v => .ok (.val v) e3 h') = _
      rw [hvs, orF_some, hv, orF_some]
    rw [hreq] at hl
    have hv1 := hlf _ _ _ (hl _ _ _ (Leaf.ok _ _ _))
    cases hv1
    obtain ⟨ms, hms, hnd, hma⟩ := hm
    rw [hms]
    refine leaves_ok hst hr' hnd hma fun w2 p1 p2 => ?_
    obtain ⟨v', s1, s2⟩ := results_run (P := P) p2 ht hvs hv
    exact ⟨v', s1, v', e', h', rfl, p1, p2, s2⟩
  cases ex with
  | nrm =>
    have hxn : x = .normal := q2
    subst hxn
    exact hfin hnk (fun ex tm2 h2 hl => leaf_bind q1 hl)
  | exit id => exact hnk.elim
  | ret =>
    have hxn : x = .ret := q2
    subst hxn
    exact hfin hnk (fun ex tm2 h2 hl => leaf_bind q1 hl)
  | val v => exact q2.elim

def isSeq (c : Code) : Bool := match c with | .seq _ _ => true | _ => false
def seqL (c : Code) : Code := match c with | .seq x _ => x | _ => .skip
def seqR (c : Code) : Code := match c with | .seq _ y => y | _ => .skip
def rest : Nat → Code → Code
  | 0, c => c
  | k + 1, c => rest k (seqR c)
theorem isSeq_eq {c : Code} (hh : isSeq c = true) : c = .seq (seqL c) (seqR c) := by
  cases c with
  | seq x y => rfl
  | _ => cases hh
theorem rest_succ : ∀ (k : Nat) (c : Code), rest (k + 1) c = seqR (rest k c)
  | 0, _ => rfl
  | k + 1, c => rest_succ k (seqR c)

/-- a piece -/
theorem good_piece (hP : Fits P) (hs : Sound P rec) {fn : Func} {v : V} {c : Code} (hq : isSeq c = true) (hso : slotsOk fn.ntmps c = true) {L : List (Nat × V)} {m : Nat} {M : List (Nat × AO)}
    (hc : covers L m M (codeA P rec (seqL c) tm h) = true) (hg : slotsOk fn.ntmps (seqR c) = true → Good P fn v (seqR c) (tmOf L) (hpOf m M)) : Good P fn v c tm h := by
  intro e0 h0 w0 n a w hi
  rw [isSeq_eq hq] at hso ⊢
  unfold slotsOk at hso
  rw [Bool.and_eq_true] at hso
  obtain ⟨hn, hlf⟩ := covers_leaf hc
  refine wpIn_seq (wpIn_mono (codeA_sound (ro := none) (n := n) hP hs (seqL c) hso.1 (fun l hl => by cases hl) hi hn) fun x a' w' hq => ?_)
  obtain ⟨ex, tm', h', q1, q2, q3⟩ := hq
  obtain ⟨rfl, p1, p2, p3⟩ := hlf _ _ _ q1
  have hxn : x = .normal := q2
  subst hxn
  exact hg hso.2 e0 h0 w0 n a' w' (q3.less p1 p2 p3 fun b q hb => by cases hb)

/-! ### a function without arguments -/
def env0 : Env := { ρ := fun _ => none, sz := fun _ => 0, es := fun _ => 0, base := #[] }
def fnAt (P : Program) (f : FuncId) : Func := optB P.funcs[f]? default fun fn => fn
def bodyAt (P : Program) (f : FuncId) : Code := optB (fnAt P f).body .skip fun c => c
def okAt (P : Program) (f : FuncId) : Bool := optB P.funcs[f]? false fun fn => optB fn.body false fun c => slotsOk fn.ntmps c && fn.name != "runtime.NumGoroutine"
theorem okAt_eq {f : FuncId} (hh : okAt P f = true) : P.funcs[f]? = some (fnAt P f) ∧ (fnAt P f).body = some (bodyAt P f) ∧ slotsOk (fnAt P f).ntmps (bodyAt P f) = true ∧ ((fnAt P f).name == "runtime.NumGoroutine") = false := by
  obtain ⟨fn, hf, h1⟩ := optB_bool hh
  obtain ⟨c, hb, h2⟩ := optB_bool h1
  have hfn : fnAt P f = fn := by unfold fnAt; rw [hf]; rfl
  have hbd : bodyAt P f = c := by unfold bodyAt; rw [hfn, hb]; rfl
  rw [hbd, hfn]
  rw [Bool.and_eq_true] at h2
  refine ⟨hf, hb, h2.1, ?_⟩
  have := h2.2
  rw [bne, Bool.not_eq_true'] at this
  exact this

/-- the call, in any world, hands the bool back, and leaves what lay there -/
def Closed (P : Program) (f : FuncId) (b : Bool) : Prop := ∀ w n, CallsIn Fence.wide n P f #[] w fun en w' => en = .returned (.bool b) ∧ ∃ e' h', Step env0 (hpOf 0 []) w e' h' w'
theorem no_block {n b : Nat} {o : AO} (hb : get5 (hpOf n []).t b = some o) : False := by
  have h1 : get5 (blOf []) b = some o := hb
  cases get5_blOf h1
theorem HR.empty (w : World) (n : Nat) : HR env0 (hpOf n []) w := ⟨fun _ _ => rfl, fun _ _ hb => (no_block hb).elim, fun _ _ _ _ _ hb => (no_block hb).elim, Nat.zero_le _, fun _ _ _ hb => (no_block hb).elim, fun c cs t fr hc => by simp [env0] at hc, fun _ _ hb => by cases hb⟩
theorem closed_of {f : FuncId} {b : Bool} (hk : okAt P f = true) (hg : Good P (fnAt P f) (.c (.bool b)) (bodyAt P f) e3 (hpOf 0 [])) : Closed P f b := by
  intro w n
  obtain ⟨h1, h2, h3, h4⟩ := okAt_eq hk
  have hinv : Inv env0 (hpOf 0 []) w (fnAt P f).ntmps e3 (hpOf 0 []) { tmps := #[] ++ Array.replicate ((fnAt P f).ntmps - (#[] : Array Value).size) undef, defers := [] } w := by
    refine .mk' (.refl _ _ w) (HR.empty w 0) (fun t v hv => by rw [get3_e3] at hv; cases hv) ⟨[], rfl, .nil, fun r hr => by cases hr⟩ ?_
    simp
  refine CallsIn.mono (callsIn_of_wp_marks (F := Fence.wide) h1 h2 trivial (hg _ _ _ n _ w hinv)) fun en w' hp => ?_
  obtain ⟨v', e', h', rfl, q1, q2, q3⟩ := hp
  exact ⟨by rw [show v' = .bool b from q3], e', h', q1⟩

/-! ### calls that are known -/
def findT (T : List (Nat × Bool)) (f : Nat) : Option Bool := List.rec (motive := fun _ => Option Bool) none (fun x _ ih => ifB (Nat.beq x.1 f) (some x.2) ih) T
def tab (T : List (Nat × Bool)) (rec : Rec) : Rec := fun t => Task.rec (motive := fun _ => Run) (fun c => rec (.loop c))
  (fun f args => listB args (optB (findT T f) (rec (.call f [])) fun b _ h => .ok (.val (.c (.bool b))) e3 h) fun x xs => rec (.call f (x :: xs))) (fun l args => rec (.yield l args)) (fun c => rec (.jump c)) t
def TabOk (P : Program) (T : List (Nat × Bool)) : Prop := ∀ x ∈ T, okAt P x.1 = true ∧ Closed P x.1 x.2
theorem findT_eq : ∀ {T : List (Nat × Bool)} {f : Nat} {b : Bool}, findT T f = some b → (f, b) ∈ T
  | [], _, _, hh => by cases hh
  | x :: xs, f, b, hh => by
    have h0 : ifB (Nat.beq x.1 f) (some x.2) (findT xs f) = some b := hh
    cases hb : Nat.beq x.1 f with
    | true =>
      rw [hb] at h0
      have h1 : some x.2 = some b := h0
      cases h1
      rw [← natBeq_iff.1 hb]
      exact List.mem_cons_self ..
    | false =>
      rw [hb] at h0
      exact List.mem_cons_of_mem _ (findT_eq h0)
theorem Step.over {e' : Env} {h' : H} {w' : World} (hs : Step env0 (hpOf 0 []) w e' h' w') (hr : HR e h w) : Step e h w e h w' ∧ HR e h w' := by
  have hk : ∀ c, c < w.heap.size → w'.heap[c]? = w.heap[c]? := fun c hc => hs.keep c hc fun _ _ hb => (no_block hb).elim
  refine ⟨⟨.refl e, Nat.le_refl _, hs.size, hs.tape, hs.os, hs.output, fun c hc _ => hk c hc, fun b o _ hb hc => .inr ⟨b, o, hb, hc⟩, hs.loops, fun _ _ => rfl⟩, ⟨hr.fresh, fun b o hb => ?_, hr.inj, hr.vws.to (.refl e) hs.size (fun c hc => hk c (Nat.lt_of_lt_of_le hc hr.vws.lim)) hr.vws.own fun _ _ h => h⟩⟩
  obtain ⟨cb, h1, co, h2, h3⟩ := hr.live b o hb
  exact ⟨cb, h1, co, by rw [hk cb (Array.getElem?_eq_some_iff.1 h2).1]; exact h2, h3⟩
theorem tab_sound {T : List (Nat × Bool)} (ht : TabOk P T) (hs : Sound P rec) : Sound P (tab T rec) where
  yield := fun l args tm h e w cl args' hcl hr ha hn => hs.yield l args tm h e w cl args' hcl hr ha hn
  jump := fun c tm h e0 h0 w0 N ro a w n hro hso hi hn => hs.jump c tm h e0 h0 w0 N ro a w n hro hso hi hn
  loop := fun c tm h e0 h0 w0 N ro a w n hro hso hi hn => hs.loop c tm h e0 h0 w0 N ro a w n hro hso hi hn
  call := fun f args tm h e w args' hr ha hn => by
    cases args with
    | cons x xs => exact hs.call f (x :: xs) tm h e w args' hr ha hn
    | nil =>
      cases hT : findT T f with
      | none =>
        have heq : tab T rec (.call f []) tm h = rec (.call f []) tm h := by
          show optB (findT T f) (rec (.call f [])) (fun b _ h => .ok (.val (.c (.bool b))) e3 h) tm h = _
          rw [hT]; rfl
        rw [heq] at hn ⊢
        exact hs.call f [] tm h e w args' hr ha hn
      | some b =>
        have heq : tab T rec (.call f []) tm h = .ok (.val (.c (.bool b))) e3 h := by
          show optB (findT T f) (rec (.call f [])) (fun b _ h => .ok (.val (.c (.bool b))) e3 h) tm h = _
          rw [hT]; rfl
        rw [heq]
        obtain ⟨k1, k2⟩ := ht _ (findT_eq hT)
        obtain ⟨h1, h2, h3, h4⟩ := okAt_eq k1
        have hargs : args' = #[] := by
          cases ha' : args'.toList with
          | nil => exact Array.toList_eq_nil_iff.1 ha'
          | cons _ _ => rw [ha'] at ha; cases ha
        refine ⟨⟨_, h1, by rw [h2]; rfl, h4⟩, fun n => ?_⟩
        rw [hargs]
        refine CallsIn.mono (k2 w n) fun en w' hp => ?_
        obtain ⟨rfl, e', h', hst⟩ := hp
        obtain ⟨p1, p2⟩ := hst.over hr
        exact ⟨.c (.bool b), .bool b, e3, e, h, rfl, Leaf.ok _ _ _, p1, p2, rfl⟩

end
end Go.Abs
